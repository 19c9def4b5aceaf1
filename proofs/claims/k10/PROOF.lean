import PyProof.Rows.All
import Wide.All
import OpenK.AllK
import Wide.FinOn
import HandS.Base
import HandS.Call
import HandS.List
import HandS.Comp
import HandS.Ends
import HandS.Dict
import HandS.Iter
import HandS.Text
import HandS.Words
import HandS.WordsList
import HandS.WordsDict
import HandS.Evl
import HandS.Style
import HandS.IsInst
import HandS.AnyAll
import PyProof.GenCompD
import HandS.HeadHook4
import HandS.HeadWalk
import HandS.Head2
import KE.GoesEnum
import KE.KDictZip
import HandS.DictComp
import HandS.Conv
import HandS.TupMul
import HandS.RepeatKit
import PyProof.TupleOfSeq
import HandS.TupAny
import HandS.Zip
import HandS.Nested
import HandS.WideBits
import KE.OsArith
import PyProof.ZipIter
import KE.GoesMore
import KE.KItemsList
import HandS.Star
import HandS.Walk
import HandS.Codes
import HandS.Replace
import HandS.RevTup
import HandS.Rev
import KE.DatumOrd
import HandS.Bytes
import HandS.BytesMake
import HandS.More
import HandS.RevRange
import HandS.Exc
import HandS.ExcInit
import HandS.ExcOwn
import HandS.ExcIs
import HandS.ExcField
import HandS.TryOnly
import HandS.WordsExc
import KE.KExcIs
import HandS.Lambda
import HandS.Defaults
import HandS.WrittenGet
import HandS.HeadHook2
import KE.KStateDown
import HandS.Head0
import HandS.Head1
import HandS.Head3
import HandS.HeadEnd
import PySem.Challenge.RW_squaremark_k10_label_plans
set_option Elab.async false
set_option linter.all false
set_option maxRecDepth 100000
set_option maxHeartbeats 4000000
/-! the draws' row: a list [script, int, int, int] that is told by what is true of it -/
namespace Sq
open PySem PySem.Spec PyProof.Rows L2 Evl

/-! ### heaps -/
theorem same_ex {H H' : Hp} (h : Same H H') : Ex H H' := h
theorem dn_seq (ns : List Int) (i : Nat) (n : Int) (h : ns[i]? = some n) : (ns.map V.int)[i]? = some (.int n) := by
  rw [List.getElem?_map, h]
  rfl

/-! ### the row -/
def RowB (i x y : Int) : Prop := 0 ≤ i ∧ 0 ≤ x ∧ x < 2147483647 ∧ 0 ≤ y
def rowL (a : Addr) (i x y : Int) : HO := .lst [.ref a, .int i, .int x, .int y]
def rowF (r a : Addr) : HO := .ext fun h => ∃ (t1 t2 t3 : Tok) (i x y : Int) (n : Nat), RowB i x y ∧ h.get? r = some { cls := .type "list", data := .seq #[.ref a, .int i t1, .int x t2, .int y t3] n }
section
variable {P : Program} {w : World} {H H' : Hp} {h h' : Heap} {r a : Addr}
theorem row_open (o : ObjOk P w H h r (rowF r a)) : ∃ i x y, RowB i x y ∧ ObjOk P w H' h r (rowL a i x y) := by
  obtain ⟨⟨t1, t2, t3, i, x, y, n, b, e⟩, _, _⟩ := o
  exact ⟨i, x, y, b, by show 4 ≤ sizeLine; decide, [.ref a, .int i t1, .int x t2, .int y t3], n, .cons rfl (.cons ⟨_, rfl⟩ (.cons ⟨_, rfl⟩ (.cons ⟨_, rfl⟩ .nil))), e⟩
theorem row_close {i x y : Int} (b : RowB i x y) (o : ObjOk P w H h r (rowL a i x y)) : ObjOk P w H' h r (rowF r a) := by
  obtain ⟨_, its, n, rv, e⟩ := o
  cases rv with
  | cons r0 rv =>
    cases rv with
    | cons r1 rv =>
      cases rv with
      | cons r2 rv =>
        cases rv with
        | cons r3 rv =>
          cases rv
          cases r0
          obtain ⟨t1, rfl⟩ := r1
          obtain ⟨t2, rfl⟩ := r2
          obtain ⟨t3, rfl⟩ := r3
          refine ⟨⟨t1, t2, t3, i, x, y, n, b, e⟩, ⟨_, e⟩, fun h1 h2 q k => ?_⟩
          obtain ⟨t1, t2, t3, i, x, y, n, b, e⟩ := q
          exact ⟨t1, t2, t3, i, x, y, n, b, k _ e⟩
end
/-- another word for what stands at an address that may change -/
theorem hok_swap {P : Program} {w : World} {H : Hp} {h : Heap} {r : Addr} {o : HO} (ok : HOk P w H h) (mu : Mut (H r)) (new : ObjOk P w (upd H r o) h r o) : HOk P w (upd H r o) h := by
  have he : ∃ u, h.get? r = some u := by
    cases q : H r with
    | none => rw [q] at mu; exact mu.elim
    | some u =>
      have z := ok r u q
      have l := z.lt
      cases e : h.get? r with
      | some v => exact ⟨v, rfl⟩
      | none =>
        exfalso
        cases u with
        | lst xs => obtain ⟨_, _, _, _, e'⟩ := z; rw [e] at e'; cases e'
        | tup xs => rw [q] at mu; exact mu
        | dK kvs => obtain ⟨_, _, _, _, o, _, _, e', _⟩ := z; rw [e] at e'; cases e'
        | dT kvs => obtain ⟨_, _, _, _, o, _, _, e', _⟩ := z; rw [e] at e'; cases e'
        | set S n => obtain ⟨o, _, _, _, e', _⟩ := z; rw [e] at e'; cases e'
        | ins C dx fs => obtain ⟨_, _, _, e', _⟩ := z; rw [e] at e'; cases e'
        | own y => rw [q] at mu; exact mu
        | xd fs => rw [q] at mu; exact mu
        | rng lo hi => rw [q] at mu; exact mu
        | frz ob u => rw [q] at mu; exact mu
        | tbl ps => rw [q] at mu; exact mu
        | met f y => rw [q] at mu; exact mu
        | ext φ => obtain ⟨_, ⟨_, e'⟩, _⟩ := z; rw [e] at e'; cases e'
  exact ok.write mu (.inl rfl) (fun b u _ q => q) he new
theorem un_swap {fs ex : List Addr} {P : Program} {w : World} {H : Hp} {h : Heap} {r : Addr} {o u : HO} (ok : HOk P w H h) (mu : Mut (H r)) (hr : ∃ v, h.get? r = some v) : Un fs ex H (upd H r o) h h :=
  Un.write mu (.inl rfl) (fun b u _ q => q) hr
theorem upd_self {H : Hp} {r : Addr} {o : HO} (h : H r = some o) : upd H r o = H := by
  funext b
  unfold upd
  split
  · rename_i e
    rw [e, h]
  · rfl

section
variable {P : Program} {w : World} {K : PySem.W.Frag} {mg : Str → Option Value} {base : Heap}
/-- a promise over a row that is told by what is true of it, from one over a list -/
theorem fn_rows {k : Nat} {f : Addr} {fd : FuncData} {ps : List Str} {sp sp' : Sp} (F : FnOk P w K mg base CX0 k f fd ps sp) (hl : ∀ vs H Q E, sp' vs H Q E → vs.length = ps.length)
    (h : ∀ vs H Q E, sp' vs H Q E → ∃ r a, H r = some (rowF r a) ∧ ∀ i x y, RowB i x y → sp vs (upd H r (rowL a i x y)) (fun v H' => ∃ i' x' y', RowB i' x' y' ∧ H' r = some (rowL a i' x' y') ∧ Q v (upd H' r (rowF r a))) E) :
    FnOk P w K mg base CX0 k f fd ps sp' := by
  refine ⟨hl, fun A outer s H args us vs Q E hr he hb hv hs => ?_⟩
  obtain ⟨r, a, hR, hk⟩ := h vs H Q E hs
  obtain ⟨i, x, y, b, ob⟩ := row_open (H' := upd H r (rowL a 0 0 0)) (he.hok r _ hR)
  have ob' : ObjOk P w (upd H r (rowL a i x y)) s.heap r (rowL a i x y) := ob
  have mu : Mut (H r) := by rw [hR]; exact trivial
  have hget : ∃ v, s.heap.get? r = some v := by
    obtain ⟨_, _, n, _, e⟩ := ob
    exact ⟨_, e⟩
  have hok1 := hok_swap he.hok mu ob'
  have e0 : Env0 P w K mg base A outer s (upd H r (rowL a i x y)) := by
    refine ⟨he.frames, he.mod, fun c o e => ⟨(he.bs c o e).1, ?_⟩, he.bsz, he.funs, fun c hc => ?_, hok1, he.bare⟩
    · have z := (he.bs c o e).2
      rw [upd_ne (fun q => by rw [q, hR] at z; cases z)]
      exact z
    · have z := he.frf c hc
      rw [upd_ne (fun q => by rw [q, hR] at z; cases z)]
      exact z
  refine codeAny_mono (F.run A outer s _ args us vs _ E hr e0 hb hv (hk i x y b)) fun res s' hq => ?_
  cases res with
  | error e => exact hq
  | ok fl =>
    cases fl with
    | next => exact hq
    | brk => exact hq
    | cont => exact hq
    | ret u =>
      obtain ⟨v, H', os, bare, un, hok, rv, i', x', y', b', hr', q⟩ := hq
      have mu' : Mut (H' r) := by rw [hr']; exact trivial
      have ob2 : ObjOk P w (upd H' r (rowF r a)) s'.heap r (rowF r a) := row_close b' (hok r _ hr')
      have hget' : ∃ v, s'.heap.get? r = some v := ob2.2.1
      refine ⟨v, upd H' r (rowF r a), os, bare, ?_, hok_swap hok mu' ob2, rv, q⟩
      exact ((Un.write mu (.inl rfl) (fun _ _ _ z => z) hget).trans un).trans (Un.write mu' (.inl rfl) (fun _ _ _ z => z) hget')
end
section
variable {X : Cx}
/-- from here on the list at r is told by what is true of it -/
def tAbs (u : TS) : TS := fun D σ H => ∃ r a i x y, RowB i x y ∧ H r = some (rowL a i x y) ∧ u D σ (upd H r (rowF r a))
theorem pss_abs {rest : List Stmt} {u : TS} (h : PSs X rest u) : PSs X rest (tAbs u) := by
  refine ⟨fun pins s σ H D I q => ?_⟩
  obtain ⟨r, a, i, x, y, b, hr, q⟩ := q
  have ob := I.hok r _ hr
  have mu : Mut (H r) := by rw [hr]; exact trivial
  have ob2 : ObjOk X.prog X.w (upd H r (rowF r a)) s.heap r (rowF r a) := row_close b ob
  obtain ⟨hp, g, d, t, o⟩ := s
  have J : Inv X pins σ (upd H r (rowF r a)) ⟨hp, g, d, t, o⟩ := I.write (t' := t) mu (.inl rfl) (fun _ _ _ z => z) ob2.2.1 ob2
  exact h.run pins _ σ _ D J q
end
/-- the draws' row stands at r -/
def RowAt (K : PySem.W.Frag) (H : Hp) (r : Addr) : Prop := ∃ (a : Addr) (ns : List Int), H r = some (rowF r a) ∧ SqL K H a (ns.map V.int)
theorem RowAt.ex {K : PySem.W.Frag} {H H' : Hp} {r : Addr} (h : RowAt K H r) (e : Ex H H') : RowAt K H' r := by
  obtain ⟨a, ns, h1, h2⟩ := h
  exact ⟨a, ns, e _ _ h1, ex_l e h2⟩
/-- a draw below m: any number from 0 to m - 1 -/
def spTaken (K : PySem.W.Frag) : Sp := fun vs H Q _ => ∃ (r : Addr) (m : Int), vs = [.ref r, .int m] ∧ 0 < m ∧ m < 1073741824 ∧ RowAt K H r ∧ ∀ z, 0 ≤ z → z < m → RetV (.int z) H Q

/-! ### a def by all that a call of it wants -/
structure Dfn (P : Program) (w : World) (K : PySem.W.Frag) (mg : Str → Option Value) (base : Heap) (k : Nat) (x : Str) (ps : List Str) (sp : Sp) : Prop where
  ex : ∃ f fd, FnOk P w K mg base CX0 k f fd ps sp ∧ mg x = some (.ref f) ∧ PySem.W.keepIn K (.ref f) = true ∧ Binds K fd ps []
theorem Dfn.mk' {P : Program} {w : World} {K : PySem.W.Frag} {mg : Str → Option Value} {base : Heap} {k : Nat} {x : Str} {ps : List Str} {sp : Sp} {f : Addr} {fd : FuncData}
    (F : FnOk P w K mg base CX0 k f fd ps sp) (g : mg x = some (.ref f)) (kp : PySem.W.keepIn K (.ref f) = true) (b : Binds K fd ps []) : Dfn P w K mg base k x ps sp := ⟨f, fd, F, g, kp, b⟩
section
variable {X : Cx} {k j : Nat} {x : Str} {ps : List Str} {sp : Sp} {p pos : Pos} {e : Expr} {es : List Expr} {t : TA}
theorem pe_callD (D : Dfn X.prog X.w X.K X.mg X.base k x ps sp) (hr : Room j X.A) (hk : k ≤ j) (hg : Gl X x) (ha : PA X (e :: es) t) (hdb : (x == ("__debug__" : Str)) = false := by decide)
    (he : starEach (e :: es) X.env = (false, eval e X.env) :: starEach es X.env := by rfl) (hpl : (backTo pos (starEach es X.env)).any (·.1) = false := by rfl) : PE X (.Call (.Name x p) (e :: es) [] pos) (tCall sp [] E0 t) := by
  obtain ⟨f, fd, F, g, kp, b⟩ := D.ex
  exact pe_call F (hr.mono hk) hg g kp b .nil pass0 ha hdb he hpl
end
theorem ev_callD {sp : Sp} {vs : List V} {ta : TA} {σ : L2.St} {H : Hp} {z : V} (h : EvA ta σ H vs) (hs : SpV sp vs H z) : Ev (tCall sp [] E0 ta) σ H z := ev_call h (by rw [List.append_nil]; exact hs)
end Sq

/-! arithmetic of symbols -/
namespace Sq
open PySem PySem.Spec PyProof.Rows L2 Evl
def powT : List Int := [1, 2, 4, 8, 3, 6, 12, 11, 5, 10, 7, 14, 15, 13, 9, 1, 2, 4, 8, 3, 6, 12, 11, 5, 10, 7, 14, 15, 13, 9]
def expT : List Int := [0, 0, 1, 4, 2, 8, 5, 10, 3, 14, 9, 7, 6, 13, 11, 12]
def eT (a : Int) : Int := expT.getD a.toNat 0
def pT (a : Int) : Int := powT.getD a.toNat 0
def Sym (a : Int) : Prop := 0 ≤ a ∧ a ≤ 15
def gadd (a b : Int) : Int := Builtin.bitXor a b
def gmul (a b : Int) : Int := if a = 0 ∨ b = 0 then 0 else pT (eT a + eT b)
def gdiv (a b : Int) : Int := if a = 0 then 0 else pT (eT a - eT b + 15)
theorem Sym.fin {a : Int} (h : Sym a) : ∃ i : Fin 16, a = (i.val : Int) := ⟨⟨a.toNat, by have := h.1; have := h.2; omega⟩, by have := h.1; show a = (a.toNat : Int); omega⟩
theorem sym_of (i : Fin 16) : Sym (i.val : Int) := ⟨by omega, by have := i.isLt; omega⟩
instance (a : Int) : Decidable (Sym a) := inferInstanceAs (Decidable (0 ≤ a ∧ a ≤ 15))
theorem sym1 {p : Int → Prop} (h : ∀ i : Fin 16, p (i.val : Int)) {a : Int} (ha : Sym a) : p a := by
  obtain ⟨i, rfl⟩ := ha.fin
  exact h i
theorem sym2 {p : Int → Int → Prop} (h : ∀ i j : Fin 16, p (i.val : Int) (j.val : Int)) {a b : Int} (ha : Sym a) (hb : Sym b) : p a b := by
  obtain ⟨i, rfl⟩ := ha.fin
  obtain ⟨j, rfl⟩ := hb.fin
  exact h i j
theorem sym3 {p : Int → Int → Int → Prop} (h : ∀ i j k : Fin 16, p (i.val : Int) (j.val : Int) (k.val : Int)) {a b c : Int} (ha : Sym a) (hb : Sym b) (hc : Sym c) : p a b c := by
  obtain ⟨i, rfl⟩ := ha.fin
  obtain ⟨j, rfl⟩ := hb.fin
  obtain ⟨k, rfl⟩ := hc.fin
  exact h i j k
theorem sym_add {a b : Int} (ha : Sym a) (hb : Sym b) : Sym (gadd a b) := sym2 (p := fun a b => Sym (gadd a b)) (by decide +kernel) ha hb
theorem sym_mul {a b : Int} (ha : Sym a) (hb : Sym b) : Sym (gmul a b) := sym2 (p := fun a b => Sym (gmul a b)) (by decide +kernel) ha hb
theorem sym_div {a b : Int} (ha : Sym a) (hb : Sym b) : Sym (gdiv a b) := sym2 (p := fun a b => Sym (gdiv a b)) (by decide +kernel) ha hb
theorem gadd_comm {a b : Int} (ha : Sym a) (hb : Sym b) : gadd a b = gadd b a := sym2 (p := fun a b => gadd a b = gadd b a) (by decide +kernel) ha hb
theorem gadd_assoc {a b c : Int} (ha : Sym a) (hb : Sym b) (hc : Sym c) : gadd (gadd a b) c = gadd a (gadd b c) := sym3 (p := fun a b c => gadd (gadd a b) c = gadd a (gadd b c)) (by decide +kernel) ha hb hc
theorem gadd_self {a : Int} (ha : Sym a) : gadd a a = 0 := sym1 (p := fun a => gadd a a = 0) (by decide +kernel) ha
theorem gadd_zero {a : Int} (ha : Sym a) : gadd a 0 = a := sym1 (p := fun a => gadd a 0 = a) (by decide +kernel) ha
theorem gmul_comm {a b : Int} (ha : Sym a) (hb : Sym b) : gmul a b = gmul b a := sym2 (p := fun a b => gmul a b = gmul b a) (by decide +kernel) ha hb
theorem gmul_assoc {a b c : Int} (ha : Sym a) (hb : Sym b) (hc : Sym c) : gmul (gmul a b) c = gmul a (gmul b c) := sym3 (p := fun a b c => gmul (gmul a b) c = gmul a (gmul b c)) (by decide +kernel) ha hb hc
theorem gmul_add {a b c : Int} (ha : Sym a) (hb : Sym b) (hc : Sym c) : gmul a (gadd b c) = gadd (gmul a b) (gmul a c) := sym3 (p := fun a b c => gmul a (gadd b c) = gadd (gmul a b) (gmul a c)) (by decide +kernel) ha hb hc
theorem gmul_one {a : Int} (ha : Sym a) : gmul a 1 = a := sym1 (p := fun a => gmul a 1 = a) (by decide +kernel) ha
theorem gmul_zero {a : Int} (ha : Sym a) : gmul a 0 = 0 := sym1 (p := fun a => gmul a 0 = 0) (by decide +kernel) ha
theorem gmul_two {a : Int} (ha : Sym a) : gmul a 2 = if a < 8 then 2 * a else gadd (2 * a - 16) 3 := sym1 (p := fun a => gmul a 2 = if a < 8 then 2 * a else gadd (2 * a - 16) 3) (by decide +kernel) ha
theorem gdiv_mul {a b : Int} (ha : Sym a) (hb : Sym b) (h0 : b ≠ 0) : gdiv (gmul a b) b = a := sym2 (p := fun a b => b ≠ 0 → gdiv (gmul a b) b = a) (by decide +kernel) ha hb h0
theorem gmul_div {a b : Int} (ha : Sym a) (hb : Sym b) (h0 : b ≠ 0) : gmul (gdiv a b) b = a := sym2 (p := fun a b => b ≠ 0 → gmul (gdiv a b) b = a) (by decide +kernel) ha hb h0
theorem gdiv_self {a : Int} (ha : Sym a) (h0 : a ≠ 0) : gdiv a a = 1 := sym1 (p := fun a => a ≠ 0 → gdiv a a = 1) (by decide +kernel) ha h0
theorem gdiv_div {a b c : Int} (ha : Sym a) (hb : Sym b) (hc : Sym c) (h0 : b ≠ 0) (h1 : c ≠ 0) : gdiv (gdiv a b) c = gdiv a (gmul b c) := sym3 (p := fun a b c => b ≠ 0 → c ≠ 0 → gdiv (gdiv a b) c = gdiv a (gmul b c)) (by decide +kernel) ha hb hc h0 h1
theorem gmul_eq0 {a b : Int} (ha : Sym a) (hb : Sym b) (h0 : a ≠ 0) (h1 : b ≠ 0) : gmul a b ≠ 0 := sym2 (p := fun a b => a ≠ 0 → b ≠ 0 → gmul a b ≠ 0) (by decide +kernel) ha hb h0 h1
def gpow (a : Int) : Nat → Int
  | 0 => 1
  | n + 1 => gmul (gpow a n) a
theorem gpow_sym {a : Int} (ha : Sym a) : ∀ n, Sym (gpow a n)
  | 0 => (show Sym 1 by decide)
  | n + 1 => sym_mul (gpow_sym ha n) ha
theorem gpow_15 {a : Int} (ha : Sym a) : gpow a 15 = if a = 0 then 0 else 1 := sym1 (p := fun a => gpow a 15 = if a = 0 then 0 else 1) (by decide +kernel) ha
theorem eT_b {a : Int} (ha : Sym a) : 0 ≤ eT a ∧ eT a ≤ 14 := sym1 (p := fun a => 0 ≤ eT a ∧ eT a ≤ 14) (by decide +kernel) ha
theorem tab_at {T : List Int} {i : Int} (h0 : 0 ≤ i) (h1 : i.toNat < T.length) : atI (T.map V.int) i = some (.int (T.getD i.toNat 0)) := by
  refine at_of (j := i.toNat) (by omega) ?_
  rw [List.getElem?_map, List.getElem?_eq_getElem h1]
  show some (V.int _) = some (V.int _)
  rw [List.getD_eq_getElem?_getD, List.getElem?_eq_getElem h1]
  rfl
theorem exp_at {a : Int} (ha : Sym a) : atI (expT.map V.int) a = some (.int (eT a)) := tab_at ha.1 (by show a.toNat < 16; have := ha.1; have := ha.2; omega)
theorem pow_at {a : Int} (h0 : 0 ≤ a) (h1 : a ≤ 29) : atI (powT.map V.int) a = some (.int (pT a)) := tab_at h0 (by show a.toNat < 30; omega)
end Sq

/-! further words of evaluation; the promises of the arithmetic of symbols -/
namespace Sq
open PySem PySem.Spec PyProof.Rows L2 Evl
section
variable {K : PySem.W.Frag} {σ : L2.St} {H H' : Hp} {ta tb tc te : TE} {t u : TT} {x y z v : V} {r r' : R2}
theorem rc_int {i : Int} : RC (fun xs H Q => (∃ i, xs = [.int i] ∧ Q (.int i) H) ∨ ∃ k, xs = [.bl k] ∧ Q (.int (if k then 1 else 0)) H) [.int i] H (.int i) := fun H1 _ _ q => .inl ⟨i, rfl, q H1 (Ex.refl H1)⟩
theorem rc_intB {b : Bool} : RC (fun xs H Q => (∃ i, xs = [.int i] ∧ Q (.int i) H) ∨ ∃ k, xs = [.bl k] ∧ Q (.int (if k then 1 else 0)) H) [.bl b] H (.int (if b then 1 else 0)) := fun H1 _ _ q => .inr ⟨b, rfl, q H1 (Ex.refl H1)⟩
theorem ev_chain {k l : Bool} (ha : Ev ta σ H x) (hb : Ev tb σ H y) (h1 : RV r x y H (.bl k)) (hc : k = true → Ev tc σ H z) (h2 : k = true → RV r' y z H (.bl l)) : Ev (tChain r r' ta tb tc) σ H (.bl (k && l)) := fun H1 e Q q =>
  ha H1 e _ fun H2 e2 => hb H2 (e.trans e2) _ fun H3 e3 => h1 H3 ((e.trans e2).trans e3) _ fun H4 e4 => ⟨k, rfl, by
    have e' : Ex H H4 := ((e.trans e2).trans e3).trans e4
    cases k with
    | true =>
      show tc σ H4 _
      exact hc rfl H4 e' _ fun H5 e5 => h2 rfl H5 (e'.trans e5) _ fun H6 e6 => q H6 ((((e2.trans e3).trans e4).trans e5).trans e6)
    | false =>
      show Q (.bl false) H4
      exact q H4 ((e2.trans e3).trans e4)⟩
theorem ev_ite {b : Bool} {x1 y1 : V} (h : EvT t σ H b) (h1 : b = true → Ev ta σ H x1) (h2 : b = false → Ev tb σ H y1) : Ev (tIf t ta tb) σ H (if b = true then x1 else y1) :=
  ev_if h (fun e => by rw [if_pos e]; exact h1 e) (fun e => by rw [if_neg (by rw [e]; decide)]; exact h2 e)
theorem ev_iteI {b : Bool} {x1 y1 : Int} (h : EvT t σ H b) (h1 : b = true → Ev ta σ H (.int x1)) (h2 : b = false → Ev tb σ H (.int y1)) : Ev (tIf t ta tb) σ H (.int (if b = true then x1 else y1)) :=
  ev_if h (fun e => by rw [if_pos e]; exact h1 e) (fun e => by rw [if_neg (by rw [e]; decide)]; exact h2 e)
theorem row_keep {a r : Addr} {ns : List Int} {i x y : Int} {o : HO} (h : SqL K H a (ns.map V.int)) (hr : H r = some (rowL a i x y)) : SqL K (upd H r o) a (ns.map V.int) := by
  rcases h with h | h
  · refine .inl ?_
    have hne : a ≠ r := by
      rintro rfl
      rcases h with h | ⟨o', h⟩
      · rw [hr] at h
        have e : ([.ref a, .int i, .int x, .int y] : List V) = ns.map V.int := by injection h with h; injection h
        cases ns with
        | nil => cases e
        | cons n ns => injection e with e _; cases e
      · rw [hr] at h; cases h
    rcases h with h | ⟨o', h⟩
    · exact .inl (by rw [upd_ne hne]; exact h)
    · exact .inr ⟨o', by rw [upd_ne hne]; exact h⟩
  · exact .inr h
theorem row_keepF {a r : Addr} {xs : List V} {o : HO} (h : SqL K H a xs) (hr : H r = some (rowF r a)) : SqL K (upd H r o) a xs := by
  rcases h with h | h
  · refine .inl ?_
    have hne : a ≠ r := by
      rintro rfl
      rcases h with h | ⟨o', h⟩
      · rw [hr] at h; cases h
      · rw [hr] at h; cases h
    rcases h with h | ⟨o', h⟩
    · exact .inl (by rw [upd_ne hne]; exact h)
    · exact .inr ⟨o', by rw [upd_ne hne]; exact h⟩
  · exact .inr h
end
/-! ### the promises -/
def spI1 (p : Int → Prop) (f : Int → V) : Sp := fun vs H Q _ => ∃ i, vs = [.int i] ∧ p i ∧ RetV (f i) H Q
def spI2 (p : Int → Int → Prop) (f : Int → Int → V) : Sp := fun vs H Q _ => ∃ i j, vs = [.int i, .int j] ∧ p i j ∧ RetV (f i j) H Q
theorem spv_I1 {p : Int → Prop} {f : Int → V} {i : Int} {H : Hp} (h : p i) : SpV (spI1 p f) [.int i] H (f i) := fun H1 _ _ q _ => ⟨i, rfl, h, q⟩
theorem spv_I2 {p : Int → Int → Prop} {f : Int → Int → V} {i j : Int} {H : Hp} (h : p i j) : SpV (spI2 p f) [.int i, .int j] H (f i j) := fun H1 _ _ q _ => ⟨i, j, rfl, h, q⟩
def Sym2 (a b : Int) : Prop := Sym a ∧ Sym b
def SymD (a b : Int) : Prop := Sym a ∧ Sym b ∧ b ≠ 0
abbrev spAdd : Sp := spI2 Sym2 fun a b => .int (gadd a b)
abbrev spMul : Sp := spI2 Sym2 fun a b => .int (gmul a b)
abbrev spDiv : Sp := spI2 SymD fun a b => .int (gdiv a b)
def isSym (v : V) : Bool := match v with | .int i => decide (0 ≤ i) && decide (i ≤ 15) | _ => false
def isNum (v : V) : Bool := match v with | .int _ => true | _ => false
/-- values that no check of a kind trips over: flat ones -/
def flatK : V → Bool | .non => true | .bl _ => true | .int _ => true | .str _ => true | _ => false
def spV1 (p : V → Prop) (f : V → V) : Sp := fun vs H Q _ => ∃ v, vs = [v] ∧ p v ∧ RetV (f v) H Q
theorem spv_V1 {p : V → Prop} {f : V → V} {v : V} {H : Hp} (h : p v) : SpV (spV1 p f) [v] H (f v) := fun H1 _ _ q _ => ⟨v, rfl, h, q⟩
/-- the check of two symbols that are symbols -/
def spReq2 : Sp := fun vs H Q _ => ∃ i j, vs = [.int i, .int j] ∧ Sym i ∧ Sym j ∧ RetV .non H Q
theorem spv_req2 {i j : Int} {H : Hp} (h1 : Sym i) (h2 : Sym j) : SpV spReq2 [.int i, .int j] H .non := fun H1 _ _ q _ => ⟨i, j, rfl, h1, h2, q⟩
def spLaw (K : PySem.W.Frag) : Sp := fun vs H Q _ => ∃ (a : Addr) (ns : List Int), vs = [.ref a] ∧ SqL K H a (ns.map V.int) ∧ ns.length ≤ 63 ∧ ∀ H', Q (.bl true) H'
/-! ### a tuple of the module's own -/
def absAll : List Value → Option (List V)
  | [] => some []
  | u :: us => match absV u, absAll us with
    | some v, some vs => some (v :: vs)
    | _, _ => none
theorem absV_rel {u : Value} {v : V} (h : absV u = some v) : RelV v u := by
  cases u <;> simp only [absV] at h <;> (first | (cases h; first | rfl | exact ⟨_, rfl⟩) | exact nomatch h)
theorem absAll_rel : ∀ {us : List Value} {vs : List V}, absAll us = some vs → Vals vs us
  | [], vs, h => by
    cases h
    exact .nil
  | u :: us, vs, h => by
    simp only [absAll] at h
    split at h
    · rename_i v vs' h1 h2
      cases h
      exact .cons (absV_rel h1) (absAll_rel h2)
    · exact nomatch h
def tupOf (o : Obj) : Option (List V) := match o.cls, o.data with
  | .type "tuple", .seq its _ => if its.size ≤ 100000 then absAll its.toList else none
  | _, _ => none
theorem tupOf_sq {K : PySem.W.Frag} {H : Hp} {a : Addr} {o : Obj} {xs : List V} (h : K.lookup a = some o) (e : tupOf o = some xs) : SqT K H a xs := by
  unfold tupOf at e
  split at e
  · rename_i its n hc hd
    split at e
    · rename_i hz
      exact .inr ⟨o, its, n, h, hc, hd, sz_of hz, absAll_rel e⟩
    · exact nomatch e
  · exact nomatch e
end Sq
namespace Sq
open PySem PySem.Spec PyProof.Rows L2 Evl
/-! ### kinds -/
def KdOk (K : PySem.W.Frag) (H : Hp) (v : V) : Prop := v = .non ∨ (∃ b, v = .bl b) ∨ (∃ i, v = .int i) ∨ (∃ x, v = .str x) ∨ ∃ p, v = .ref p ∧ ((∃ xs, SqT K H p xs) ∨ ∃ xs, SqL K H p xs)
theorem ty_tup {K : PySem.W.Frag} {H : Hp} {p : Addr} {xs : List V} (h : SqT K H p xs) : TyX K H (.ref p) (.type "tuple") := by
  rcases h with (h | ⟨o, h⟩) | ⟨o, its, n, h, hc, _⟩
  · exact .base (.tup h)
  · exact .fTuple h
  · exact .kTuple h hc
theorem ty_lst {K : PySem.W.Frag} {H : Hp} {p : Addr} {xs : List V} (h : SqL K H p xs) : TyX K H (.ref p) (.type "list") := by
  rcases h with (h | ⟨o, h⟩) | ⟨o, its, n, h, hc, _⟩
  · exact .base (.lst h)
  · exact .base (.frz h)
  · exact .kList h hc
theorem rc_isi {K : PySem.W.Frag} {H : Hp} {v : V} {T c : String} {b : Bool} (h : ∀ H1, Ex H H1 → TyX K H1 v (.type T)) (k : kitB T c = some b) : RC (rIsi K) [v, .ty c] H (.bl b) := fun H1 e _ q =>
  ⟨v, .ty c, .type T, .type c, b, rfl, .ty c, h H1 e, kit_ty k, q H1 (Ex.refl H1)⟩
def spNum (K : PySem.W.Frag) : Sp := fun vs H Q _ => ∃ v, vs = [v] ∧ KdOk K H v ∧ RetV (.bl (isNum v)) H Q
def spSym (K : PySem.W.Frag) : Sp := fun vs H Q _ => ∃ v, vs = [v] ∧ KdOk K H v ∧ RetV (.bl (isSym v)) H Q
theorem KdOk.ex {K : PySem.W.Frag} {H H' : Hp} {v : V} (h : KdOk K H v) (e : Ex H H') : KdOk K H' v := by
  rcases h with h | h | h | h | ⟨p, h, ⟨xs, q⟩ | ⟨xs, q⟩⟩
  · exact .inl h
  · exact .inr (.inl h)
  · exact .inr (.inr (.inl h))
  · exact .inr (.inr (.inr (.inl h)))
  · exact .inr (.inr (.inr (.inr ⟨p, h, .inl ⟨xs, ex_t e q⟩⟩)))
  · exact .inr (.inr (.inr (.inr ⟨p, h, .inr ⟨xs, ex_l e q⟩⟩)))
theorem kd_int {K : PySem.W.Frag} {H : Hp} {i : Int} : KdOk K H (.int i) := .inr (.inr (.inl ⟨i, rfl⟩))
theorem spv_num {K : PySem.W.Frag} {H : Hp} {v : V} (h : KdOk K H v) : SpV (spNum K) [v] H (.bl (isNum v)) := fun H1 e _ q _ => ⟨v, rfl, h.ex e, q⟩
theorem spv_sym {K : PySem.W.Frag} {H : Hp} {v : V} (h : KdOk K H v) : SpV (spSym K) [v] H (.bl (isSym v)) := fun H1 e _ q _ => ⟨v, rfl, h.ex e, q⟩
theorem isSym_of {i : Int} (h : Sym i) : isSym (.int i) = true := by
  show (decide (0 ≤ i) && decide (i ≤ 15)) = true
  rw [decide_eq_true h.1, decide_eq_true h.2]
  rfl
end Sq
namespace Sq
open PySem PySem.Spec PyProof.Rows L2 Evl
/-- the draws by the list itself: what changes is at r alone -/
def spTakenL (K : PySem.W.Frag) : Sp := fun vs H Q _ => ∃ (r a : Addr) (m i x y : Int) (ns : List Int), vs = [.ref r, .int m] ∧ 0 < m ∧ m < 1073741824 ∧ RowB i x y ∧ H r = some (rowL a i x y) ∧ SqL K H a (ns.map V.int) ∧
  ∀ z i' x' y' H', 0 ≤ z → z < m → RowB i' x' y' → H' r = some (rowL a i' x' y') → (∀ b o, b ≠ r → H b = some o → H' b = some o) → Q (.int z) H'
theorem taken_rows {K : PySem.W.Frag} {vs : List V} {H : Hp} {Q : VK} {E : XK} (h : spTaken K vs H Q E) : ∃ r a, H r = some (rowF r a) ∧ ∀ i x y, RowB i x y → spTakenL K vs (upd H r (rowL a i x y)) (fun v H' => ∃ i' x' y', RowB i' x' y' ∧ H' r = some (rowL a i' x' y') ∧ Q v (upd H' r (rowF r a))) E := by
  obtain ⟨r, m, rfl, h0, h1, ⟨a, ns, hr, hs⟩, q⟩ := h
  refine ⟨r, a, hr, fun i x y b => ⟨r, a, m, i, x, y, ns, rfl, h0, h1, b, upd_same, row_keepF hs hr, fun z i' x' y' H' z0 z1 b' hr' hk => ⟨i', x', y', b', hr', q z z0 z1 _ fun c o e => ?_⟩⟩⟩
  by_cases hc : c = r
  · subst hc
    rw [upd_same, ← e, hr]
  · rw [upd_ne hc]
    exact hk c o hc (by rw [upd_ne hc]; exact e)
theorem fmod_range {z m : Int} (h : 0 < m) : 0 ≤ z.fmod m ∧ z.fmod m < m := ⟨Int.fmod_nonneg_of_pos z h, Int.fmod_lt_of_pos z h⟩
end Sq
namespace Sq
open PySem PySem.Spec PyProof.Rows L2 Evl
section
variable {D : Ends} {tz : TS} {te : TE} {ta : TA} {σ : L2.St} {H : Hp} {i j l : Nat}
theorem q_asgR (h : te σ H fun v H1 => tz D (σ.set i (some v)) H1) : tSeq (tAsg te (gName i)) tz D σ H := h
theorem q_par2R (h : ta σ H fun vs H1 => ∃ u v, vs = [u, v] ∧ tz D ((σ.set i (some u)).set j (some v)) H1) : tSeq (tPar i j ta) tz D σ H := h
theorem q_par3R (h : ta σ H fun vs H1 => ∃ u v w, vs = [u, v, w] ∧ tz D (((σ.set i (some u)).set j (some v)).set l (some w)) H1) : tSeq (tPar3 i j l ta) tz D σ H := h
end
end Sq
namespace Sq
open PySem PySem.Spec PyProof.Rows L2 Evl
section
variable {D : Ends} {tz tu : TS} {t : TT} {σ : L2.St} {H : Hp} {b : Bool}
/-- an if without else whose branch goes on as the rest does: the rest is shown once -/
theorem q_whenT (h : EvT t σ H b) (k : ∀ H1, Ex H H1 → tz D σ H1) (h1 : (∀ H1, Ex H H1 → tz D σ H1) → b = true → ∀ H1, Ex H H1 → tu { D with nx := tz D } σ H1) : tSeq (tIfS t tu tNext) tz D σ H :=
  q_when h (h1 k) fun _ => k
end
end Sq

/-! small pure expressions and defs over the bare state, whatever runs around them (a generator's frame tells no stack) -/
namespace Sq
open PySem PySem.Spec PyProof.Rows L2 Evl

theorem keeps_trans {s s1 s2 : Shared} (a : Keeps s s1) (b : Keeps s1 s2) : Keeps s s2 := by
  obtain ⟨h1, t1, rfl, k1⟩ := a
  obtain ⟨h2, t2, rfl, k2⟩ := b
  exact ⟨h2, t2, rfl, fun b o e => k2 b o (k1 b o e)⟩
theorem keeps_rfl (s : Shared) : Keeps s s := ⟨s.heap, s.toks, rfl, fun _ _ e => e⟩
theorem keeps_tk (s : Shared) (t : Nat) : Keeps s { s with toks := t } := ⟨s.heap, t, rfl, fun _ _ e => e⟩
theorem keeps_get {s s' : Shared} (k : Keeps s s') {b : Addr} {o : Obj} (e : s.heap.get? b = some o) : s'.heap.get? b = some o := by
  obtain ⟨h1, t1, rfl, k1⟩ := k
  exact k1 b o e
/-- the module stands in the state -/
structure RS (K : PySem.W.Frag) (mg : Str → Option Value) (base : Heap) (s : Shared) : Prop where
  mod : L2.Mod K mg base
  bk : ∀ b o, base.get? b = some o → s.heap.get? b = some o
section
variable {P : Program} {w : World} {K : PySem.W.Frag} {mg : Str → Option Value} {base : Heap} {D U : Nat} {env : Env} {m : Str → Option Value} {G : Heap → Prop} {e a b c : Expr} {pos p : Pos} {x : Str}
theorem RS.keeps {s s' : Shared} (r : RS K mg base s) (k : Keeps s s') : RS K mg base s' := ⟨r.mod, fun b o e => keeps_get k (r.bk b o e)⟩
theorem RS.kin {s : Shared} (r : RS K mg base s) : K.In s.heap := r.mod.kin.keeps r.bk
theorem RS.lim {s : Shared} (r : RS K mg base s) : s.heap.NoLimit := r.mod.nolimit.keeps r.bk
theorem ns_keeps {s s' : Shared} (k : Keeps s s') {L : Addr} {m : Str → Option Value} (h : s.heap.Ns L m) : s'.heap.Ns L m := h.keeps fun b o e => keeps_get k e
/-- an expression whose value fulfils R, and that changes nothing -/
def RawE (P : Program) (w : World) (K : PySem.W.Frag) (mg : Str → Option Value) (base : Heap) (D U : Nat) (env : Env) (m : Str → Option Value) (G : Heap → Prop) (e : Expr) (R : Value → Prop) : Prop :=
  ∀ (A : Around) (E : Value → Shared → Prop) (s : Shared), RS K mg base s → A.handled = none → A.depth ≤ D → A.units ≤ U → s.heap.Ns env.locals m → G s.heap → wpAny (model P w) A (eval e env) (fun v s' => R v ∧ Keeps s s') E s
/-- a def called with us -/
def RawF (P : Program) (w : World) (K : PySem.W.Frag) (mg : Str → Option Value) (base : Heap) (D U : Nat) (f : Addr) (us : List Value) (R : Value → Prop) : Prop :=
  ∀ (A : Around) (s : Shared), RS K mg base s → A.handled = none → A.depth ≤ D → A.units ≤ U → codeAny (model P w) A (.call (.ref f) ⟨us, []⟩) (fun r s' => ∃ v, r = .ok (.ret v) ∧ R v ∧ Keeps s s') s
def GStb (G : Heap → Prop) : Prop := ∀ h h' : Heap, (∀ b o, h.get? b = some o → h'.get? b = some o) → G h → G h'
theorem gstb_keeps (g : GStb G) {s s' : Shared} (k : Keeps s s') (h : G s.heap) : G s'.heap := g _ _ (fun _ _ e => keeps_get k e) h
structure FnEnv (env : Env) : Prop where
  kind : env.scope.kind = .function
  glob : env.globals = mainGlobals
  blt : env.builtins = builtinsNs
theorem raw_loc {v : Value} (F : FnEnv env) (hl : env.kindOf x = some .local) (hm : m x = some v) (hd : (x == ("__debug__" : Str)) = false := by decide) : RawE P w K mg base D U env m G (.Name x pos) (fun u => u = v) :=
  fun A E s _ _ _ _ hn _ => wpAny_Name (wpAny_loadName_local F.kind hl hn hm ⟨rfl, keeps_rfl s⟩) hd
theorem raw_int {i : Int} {j} : RawE P w K mg base D U env m G (.Constant (.int i) j pos) (fun u => ∃ t, u = .int i t) :=
  fun A E s _ _ _ _ _ _ => wpAny_Constant_int ⟨⟨_, rfl⟩, keeps_tk s _⟩
theorem raw_blt {u : Value} (F : FnEnv env) (hx : env.kindOf x = some .globalImplicit) (hm : mg x = none) (hv : bootBuiltins x = some u) (hn : x ≠ "__name__" := by decide) (hd : (x == ("__debug__" : Str)) = false := by decide) : RawE P w K mg base D U env m G (.Name x pos) (fun v => v = u) :=
  fun A E s r _ _ _ _ _ => by
    obtain ⟨mb, h1, h2⟩ := r.mod.blt
    exact Calls.Name_function_global F.kind hx (Calls.loadGlobal_builtin (by rw [F.glob]; exact r.mod.glob.keeps r.bk) hm (by rw [F.blt]; exact h1.keeps r.bk) ((h2 x hn).trans hv) ⟨rfl, keeps_rfl s⟩) hd
theorem raw_glob {u : Value} (F : FnEnv env) (hx : env.kindOf x = some .globalImplicit) (hm : mg x = some u) (hd : (x == ("__debug__" : Str)) = false := by decide) : RawE P w K mg base D U env m G (.Name x pos) (fun v => v = u) :=
  fun A E s r _ _ _ _ _ => Calls.Name_function_global F.kind hx (Calls.loadGlobal_global (by rw [F.glob]; exact r.mod.glob.keeps r.bk) hm ⟨rfl, keeps_rfl s⟩) hd
theorem raw_imp {R R' : Value → Prop} (h : RawE P w K mg base D U env m G e R) (i : ∀ v, R v → R' v) : RawE P w K mg base D U env m G e R' :=
  fun A E s r h0 h1 h2 hn hg => wpAny_mono (h A E s r h0 h1 h2 hn hg) (fun v s' q => ⟨i v q.1, q.2⟩) fun _ _ z => z
/-- a and b, both bools -/
theorem raw_and {ka kb : Bool} (g : GStb G) (ha : RawE P w K mg base D U env m G a (fun v => v = .bool ka)) (hb : ka = true → RawE P w K mg base D U env m G b (fun v => v = .bool kb)) : RawE P w K mg base D U env m G (.BoolOp .And [a, b] pos) (fun v => v = .bool (ka && kb)) :=
  fun A E s r h0 h1 h2 hn hg => BoolOp_and (wpAny_mono (ha A E s r h0 h1 h2 hn hg) (fun v s1 q => by
    obtain ⟨rfl, k⟩ := q
    refine wpAny_truthy_bool ?_
    cases ka with
    | false => exact ⟨rfl, k⟩
    | true =>
      refine BoolOp_one (wpAny_mono (hb rfl A E s1 (r.keeps k) h0 h1 h2 (ns_keeps k hn) (gstb_keeps g k hg)) (fun v s2 q => ⟨q.1, keeps_trans k q.2⟩) fun _ _ z => z)) fun _ _ z => z)
theorem raw_or {ka kb : Bool} (g : GStb G) (ha : RawE P w K mg base D U env m G a (fun v => v = .bool ka)) (hb : ka = false → RawE P w K mg base D U env m G b (fun v => v = .bool kb)) : RawE P w K mg base D U env m G (.BoolOp .Or [a, b] pos) (fun v => v = .bool (ka || kb)) :=
  fun A E s r h0 h1 h2 hn hg => BoolOp_or (wpAny_mono (ha A E s r h0 h1 h2 hn hg) (fun v s1 q => by
    obtain ⟨rfl, k⟩ := q
    refine wpAny_truthy_bool ?_
    cases ka with
    | true => exact ⟨rfl, k⟩
    | false =>
      refine BoolOp_one (wpAny_mono (hb rfl A E s1 (r.keeps k) h0 h1 h2 (ns_keeps k hn) (gstb_keeps g k hg)) (fun v s2 q => ⟨q.1, keeps_trans k q.2⟩) fun _ _ z => z)) fun _ _ z => z)
theorem raw_not {ka : Bool} (ha : RawE P w K mg base D U env m G a (fun v => v = .bool ka)) : RawE P w K mg base D U env m G (.UnaryOp .Not a pos) (fun v => v = .bool (!ka)) :=
  fun A E s r h0 h1 h2 hn hg => UnaryOp_ (wpAny_mono (ha A E s r h0 h1 h2 hn hg) (fun v s1 q => by
    obtain ⟨rfl, k⟩ := q
    exact PyProof.Rows.not_of (wpAny_truthy_bool ⟨rfl, k⟩)) fun _ _ z => z)
theorem raw_isNone {j pos'} {u : Value} (ha : RawE P w K mg base D U env m G a (fun v => v = u)) : RawE P w K mg base D U env m G (.Compare a [.Is] [.Constant .none j pos'] pos) (fun v => v = .bool (u == .none)) :=
  fun A E s r h0 h1 h2 hn hg => wpAny_Compare1 (wpAny_mono (ha A E s r h0 h1 h2 hn hg) (fun v s1 q => by
    obtain ⟨rfl, k⟩ := q
    exact Constant_none (is_none_gen ⟨rfl, k⟩)) fun _ _ z => z) (by rfl)
/-- a <= b <= c of ints -/
theorem raw_chain {i j k : Int} (g : GStb G) (ha : RawE P w K mg base D U env m G a (fun v => ∃ t, v = .int i t)) (hb : RawE P w K mg base D U env m G b (fun v => ∃ t, v = .int j t)) (hc : RawE P w K mg base D U env m G c (fun v => ∃ t, v = .int k t)) (hm : lastMarks [.LtE, .LtE] [b, c] = false := by with_unfolding_all rfl) :
    RawE P w K mg base D U env m G (.Compare a [.LtE, .LtE] [b, c] pos) (fun v => v = .bool (decide (i ≤ j) && decide (j ≤ k))) :=
  fun A E s r h0 h1 h2 hn hg => by
    refine Compare_chain (wpAny_mono (ha A E s r h0 h1 h2 hn hg) (fun v s1 q => chain_link ?_) fun _ _ z => z) hm
    obtain ⟨⟨t1, rfl⟩, k1⟩ := q
    refine wpAny_mono (hb A E s1 (r.keeps k1) h0 h1 h2 (ns_keeps k1 hn) (gstb_keeps g k1 hg)) (fun v s2 q => ?_) fun _ _ z => z
    obtain ⟨⟨t2, rfl⟩, k2⟩ := q
    refine le_int (wpAny_truthy_bool ?_)
    have k12 := keeps_trans k1 k2
    cases hd : decide (i ≤ j) with
    | false => exact ⟨rfl, k12⟩
    | true =>
      refine chain_last (wpAny_mono (hc A E s2 (r.keeps k12) h0 h1 h2 (ns_keeps k12 hn) (gstb_keeps g k12 hg)) (fun v s3 q => ?_) fun _ _ z => z)
      obtain ⟨⟨t3, rfl⟩, k3⟩ := q
      exact le_int ⟨rfl, keeps_trans k12 k3⟩
/-- isinstance(x, T), T a built-in class -/
theorem raw_isi {u : Value} {T c : String} {r : Bool} {Z : Heap → Prop} {p1 p2 : Pos} (F : FnEnv env) (hx : env.kindOf "isinstance" = some .globalImplicit) (hm : mg "isinstance" = none) (g : GStb G) (ha : RawE P w K mg base D U env m G a (fun v => v = u)) (hb : RawE P w K mg base D U env m G b (fun v => v = .type c))
    (kit : PySem.W.KitX K u (.type T) Z) (hz : ∀ h, G h → Z h) (hl : u ≠ .builtin "__main__.__loader__#opaque") (k : kitB T c = some r)
    (he : starEach [a, b] env = (false, eval a env) :: starEach [b] env := by rfl) (he2 : starEach [b] env = (false, eval b env) :: starEach [] env := by rfl) (hpl : (backTo pos (starEach [b] env)).any (·.1) = false := by rfl) :
    RawE P w K mg base D U env m G (.Call (.Name "isinstance" p1) [a, b] [] pos) (fun v => v = .bool r) :=
  fun A E s rs h0 h1 h2 hn hg => by
    refine wpAny_Call_Name_kw (wpAny_mono (raw_blt (P := P) (w := w) (K := K) (mg := mg) (base := base) (D := D) (U := U) (m := m) (G := G) (u := .builtin "isinstance") F hx hm (by decide +kernel) (by decide) (by decide) A E s rs h0 h1 h2 hn hg) (fun f s0 q0 => ?_) fun _ _ z => z)
    obtain ⟨rfl, k0⟩ := q0
    refine PyProof.Rows.callWith_builtin1 ?_ he hpl
    rw [he]
    refine Calls.spliced_cons (wpAny_mono (ha A E s0 (rs.keeps k0) h0 h1 h2 (ns_keeps k0 hn) (gstb_keeps g k0 hg)) (fun v s1 q => ?_) fun _ _ z => z)
    obtain ⟨rfl, k1⟩ := q
    have k01 := keeps_trans k0 k1
    rw [he2]
    refine Calls.spliced_cons (wpAny_mono (hb A E s1 (rs.keeps k01) h0 h1 h2 (ns_keeps k01 hn) (gstb_keeps g k01 hg)) (fun v s2 q => ?_) fun _ _ z => z)
    obtain ⟨rfl, k2⟩ := q
    have k02 := keeps_trans k01 k2
    refine Calls.spliced_nil ?_
    exact PySem.W.kia_one kit (rs.keeps k02).kin (hz _ (gstb_keeps g k02 hg)) (kit_ty k) hl fun tk => ⟨rfl, keeps_trans k02 (keeps_tk s2 tk)⟩
/-- f(a), f an own def -/
theorem raw_call1 {u : Value} {f : Addr} {R : Value → Prop} {p1 : Pos} (F : FnEnv env) (hx : env.kindOf x = some .globalImplicit) (hm : mg x = some (.ref f)) (hk : PySem.W.keepIn K (.ref f) = true) (g : GStb G) (ha : RawE P w K mg base D U env m G a (fun v => v = u)) (hf : RawF P w K mg base D U f [u] R)
    (hd : (x == ("__debug__" : Str)) = false := by decide) (he : starEach [a] env = (false, eval a env) :: starEach [] env := by rfl) (hpl : (backTo pos (starEach [] env)).any (·.1) = false := by rfl) :
    RawE P w K mg base D U env m G (.Call (.Name x p1) [a] [] pos) R :=
  fun A E s rs h0 h1 h2 hn hg => by
    refine wpAny_Call_Name_kw (wpAny_mono (raw_glob (P := P) (w := w) (K := K) (mg := mg) (base := base) (D := D) (U := U) (m := m) (G := G) F hx hm hd A E s rs h0 h1 h2 hn hg) (fun v s0 q0 => ?_) fun _ _ z => z)
    obtain ⟨rfl, k0⟩ := q0
    refine PySem.W.callWith_K (h₀ := base) rs.mod.kin hk ?_ he hpl
    rw [he]
    refine Calls.spliced_cons (wpAny_mono (ha A E s0 (rs.keeps k0) h0 h1 h2 (ns_keeps k0 hn) (gstb_keeps g k0 hg)) (fun v s1 q => ?_) fun _ _ z => z)
    obtain ⟨rfl, k1⟩ := q
    have k01 := keeps_trans k0 k1
    refine Calls.spliced_nil ⟨(rs.keeps k01).kin, wpAny_call (codeAny_mono (hf A s1 (rs.keeps k01) h0 h1 h2) fun r s' q => ?_)⟩
    obtain ⟨v, rfl, hr, k2⟩ := q
    exact ⟨hr, keeps_trans k01 k2⟩
/-- a def whose body is one return -/
theorem raw_def {x qual : Str} {st : Stmt} {f : Addr} {fd : FuncData} {ps : List Str} {us : List Value} {e : Expr} {R : Value → Prop} (F : Fun K x qual st f fd) (hb : defBody st = [.Return (some e) pos])
    (hbind : ∀ (kV doc pm : Value) (an : Option Addr) (cdv ct : Value) (s : Shared), BindsTo s (PySem.W.fnOf x qual (defArgs st) (defBody st) (defScope st) .none kV doc pm an cdv ct) ⟨us, []⟩ (ps.zip us))
    (hkind : ((ps.zip us).all fun y => (defScope st).names.lookup y.1 == some .local || (defScope st).names.lookup y.1 == some .cell) = true)
    (hco : (defScope st).isCoroutine = false) (hgen : (defScope st).isGenerator = false) (hk : (defScope st).kind = .function) (hD : D + 1 < recursionLimit)
    (h : ∀ (L : Addr) (cdv : Value), RawE P w K mg base (D + 1) (U + 3) (envOfC qual (defScope st) L f cdv) (bindL (envOfC qual (defScope st) L f cdv).kindOf (ps.zip us) fun _ => none) G e R) (hg : ∀ s s' : Shared, G s.heap → Keeps s s' → G s'.heap) (A : Around) (s : Shared) (rs : RS K mg base s) (h0 : A.handled = none) (h1 : A.depth ≤ D) (h2 : A.units ≤ U) (g0 : G s.heap) :
    codeAny (model P w) A (.call (.ref f) ⟨us, []⟩) (fun r s' => ∃ v, r = .ok (.ret v) ∧ R v ∧ Keeps s s') s := by
  obtain ⟨oc, od, kV, doc, pm, an, cdv, ct, osl, rfl, lk, hcd⟩ := F.ex
  refine Att.call_fn rs.kin rs.lim lk hcd (by omega) (hbind _ _ _ _ _ _ s) hkind (fun s₁ IC => ?_) hco hgen hk
  obtain ⟨h₁, tk₁, rfl⟩ := IC.toInCall.same
  have k : Keeps s { s with heap := h₁, toks := tk₁ } := ⟨h₁, tk₁, rfl, IC.toInCall.keep⟩
  rw [hb]
  refine wpAny_execs_cons (wpAny_Return_some ?_)
  refine wpAny_mono (h s.heap.objs.size cdv (A.deeper _) _ _ (rs.keeps k) h0 (by show A.depth + 1 ≤ D + 1; omega) (by show A.units + 3 ≤ U + 3; omega) IC.toInCall.ns (hg _ _ g0 k)) (fun v s' q => ?_) fun _ _ z => z
  exact ⟨v, rfl, q.1, keeps_trans k q.2⟩
end
end Sq

/-! a def's table of code objects, told by what is true of it; all(..) and any(..) of a generator expression over a tuple -/
namespace Sq
open PySem PySem.Spec PyProof.Rows L2 Evl
def TabF (p : Addr) : HO := .ext fun h => ∃ ps : Array Value, h.get? p = some { cls := .none, data := .fields ps } ∧ TriplesOk ps.toList
theorem tabF_ok {P : Program} {w : World} {H : Hp} {h : Heap} {p : Addr} {ps : Array Value} (e : h.get? p = some { cls := .none, data := .fields ps }) (t : TriplesOk ps.toList) : ObjOk P w H h p (TabF p) :=
  ⟨⟨ps, e, t⟩, ⟨_, e⟩, fun _ _ q k => let ⟨qs, e1, t1⟩ := q; ⟨qs, k _ e1, t1⟩⟩
section
variable {X : Cx} {pins : List (Addr × Obj)} {σ : L2.St} {H : Hp} {s : Shared}
/-- what the element gives for an item, whatever runs around it -/
def EltG (X : Cx) (scope : Scope) (x : Str) (elt : Expr) (good : V → Bool → Prop) : Prop := ∀ (y : V) (u : Value) (b : Bool), good y b → RelV y u → ∀ (cenv : Env) (m : Str → Option Value), cenv.scope = scope → cenv.globals = mainGlobals → cenv.builtins = builtinsNs → m x = some u →
  RawE X.prog X.w X.K X.mg X.base (X.A.depth + 1) (X.A.units + 8) cenv m (fun _ => True) elt (fun v => v = .bool b)
def pAt (xs : List V) (pb : V → Bool) (j : Nat) : Bool := match xs[j]? with
  | some y => pb y
  | none => false
theorem pAt_all (xs : List V) (pb : V → Bool) : (List.range xs.length).all (pAt xs pb) = xs.all pb := by
  rw [Bool.eq_iff_iff, List.all_eq_true, List.all_eq_true]
  refine ⟨fun h y hy => ?_, fun h j hj => ?_⟩
  · obtain ⟨j, hj, e⟩ := List.getElem_of_mem hy
    have q := h j (List.mem_range.mpr hj)
    unfold pAt at q
    rw [List.getElem?_eq_getElem hj, e] at q
    exact q
  · have hj' := List.mem_range.mp hj
    unfold pAt
    rw [List.getElem?_eq_getElem hj']
    exact h _ (List.getElem_mem hj')
theorem pAt_any (xs : List V) (pb : V → Bool) : (List.range xs.length).any (pAt xs pb) = xs.any pb := by
  rw [Bool.eq_iff_iff, List.any_eq_true, List.any_eq_true]
  refine ⟨fun ⟨j, hj, q⟩ => ?_, fun ⟨y, hy, q⟩ => ?_⟩
  · have hj' := List.mem_range.mp hj
    unfold pAt at q
    rw [List.getElem?_eq_getElem hj'] at q
    exact ⟨_, List.getElem_mem hj', q⟩
  · obtain ⟨j, hj, e⟩ := List.getElem_of_mem hy
    refine ⟨j, List.mem_range.mpr hj, ?_⟩
    unfold pAt
    rw [List.getElem?_eq_getElem hj, e]
    exact q
/-- a generator that stands ready over the items -/
def GenRd (X : Cx) (pins : List (Addr × Obj)) (σ : L2.St) (H : Hp) (xs : List V) (pb : V → Bool) (g : Addr) (s5 : Shared) : Prop :=
  ∃ (fp wr : List Addr) (G : Array GenState → Array GenState → Prop) (F : Nat → Value → Prop) (St : Nat → Shared → Prop),
    (WalksS X.prog X.w X.A.in1 g fp wr G xs.length F St ∧ St 0 s5) ∧ TruthOf X.prog X.w X.A.in1 F (pAt xs pb) ∧ ∀ s', Moved wr G s5 s' → Inv X pins σ H s'
def tGenT (K : PySem.W.Frag) (Pt : Addr) (good : V → Bool → Prop) (te : TE) (k : List V → (V → Bool) → Hp → Prop) : L2.St → Hp → Prop := fun σ H => te σ H fun v H1 => ∃ (a : Addr) (xs : List V) (pb : V → Bool), v = .ref a ∧ SqT K H1 a xs ∧ H1 Pt = some (TabF Pt) ∧ (∀ y ∈ xs, good y (pb y)) ∧ k xs pb H1
theorem gen_tup {c Pt : Addr} {elt iter : Expr} {x : Str} {px gpos : Pos} {scope : Scope} {good : V → Bool → Prop} {te : TE} {j : Nat} {Q' : Value → Shared → Prop} {kk : List V → (V → Bool) → Hp → Prop}
    (hr : Room j X.A) (TB : GxR.TabB X.base X.mg c Pt) (hcode : X.env.code = .ref c) (S : GxR.GenS X.env scope x) (hi : PE X iter te) (hel : EltG X scope x elt good) (hs : ∀ v, genFold iter X.env v = pure v)
    (I : Inv X pins σ H s) (h : tGenT X.K Pt good te kk σ H) (hQ : ∀ xs pb H1 g s5, kk xs pb H1 → GenRd X pins σ H1 xs pb g s5 → Q' (.ref g) s5) :
    wpAny (model X.prog X.w) X.A (eval (.GeneratorExp elt [⟨.Name x px, iter, [], 0⟩] scope gpos) X.env) Q' X.xe s := by
  refine wpAny_GeneratorExp_walksQD hr.hd S.co (closure_ok S.free) S.cell S.dot S.loc S.kind (by have := hr.dp; omega) ?_ hs
  refine thn (hi.run pins s σ H _ I h) fun xv s1 hq => ?_
  obtain ⟨v, H1, I1, r1, ax, xs, pb, rfl, hx, hT, hgd, hkk⟩ := hq
  cases r1
  obtain ⟨its, rv, hp, hz⟩ := I1.tuple hx
  refine wpAny_pyIter_tuple (show s1.heap.IsTuple ax its.toArray from hp) ?_
  obtain ⟨⟨ps, hP, tri⟩, _, _⟩ := I1.hok Pt _ hT
  generalize hio : ({ cls := .type "tuple_iterator", data := .fields #[.ref ax, .int 0 0] } : Obj) = io
  have szZ : (s1.heap.push io).objs.size = s1.heap.objs.size + 1 := Heap.size_push ..
  have toZ : ∀ b u, s1.heap.get? b = some u → (s1.heap.push io).get? b = some u := fun b u e => Heap.get?_push_of_some _ e
  have hPlt : Pt < s1.heap.objs.size := Heap.lt_size hP
  have hPZ := toZ _ _ hP
  have hcd : PySem.W.CodeHd (s1.heap.push io) c Pt := TB.code.keeps fun b u e => toZ b u (I1.bk b u e)
  have limZ : (s1.heap.push io).NoLimit := I1.nolimit.push io
  have baseP : ∀ b u, X.base.get? b = some u → b ≠ Pt := fun b u e z => by
    have q := (I1.bs b u e).2
    rw [z, hT] at q
    cases q
  have hcl : cStatics < s1.heap.objs.size := let ⟨_, hns, _⟩ := I1.nolimit; hns.lt
  have go : ∀ (code : Value) (h3 : Heap) (tk : Nat) (qs : Array Value), Heap.ExtBut Pt (s1.heap.push io) h3 → (s1.heap.push io).objs.size ≤ h3.objs.size → h3.get? Pt = some { cls := .none, data := .fields qs } → TriplesOk qs.toList →
      wpAny (model X.prog X.w) X.A (builtinsFor X.env.globals X.env.builtins) (fun bi s₄ =>
        ∃ Ia fp wr n₀ Pf St₀ pz F, Value.ref s1.heap.objs.size = .ref Ia ∧ (∀ A' : Around, A'.handled = none → Walks X.prog X.w A' Ia fp wr n₀ Pf St₀) ∧ St₀ 0 s₄.heap ∧ (∀ b ∈ fp, b < s₄.heap.objs.size) ∧ s₄.heap.NoLimit ∧ cStatics ∉ wr ∧
          (∀ href : Heap, (∀ b o, s₄.heap.get? b = some o → href.get? b = some o) →
            QuietGenD X.prog X.w (genEnv scope (cloFrom X.env.cells scope.names []) s₄.heap.objs.size code bi X.env) x [] elt (List.range s₄.heap.objs.size) wr Pf pz F href (X.A.depth + 1) (X.A.units + 8)) ∧
          (∀ a h₅ tk gs, gs.bare = true → s₄.heap.objs.size < a → h₅.objs.size = a + 1 → (∀ b o, s₄.heap.get? b = some o → h₅.get? b = some o) →
            WalksS X.prog X.w X.A.in4 a (a :: s₄.heap.objs.size :: List.range s₄.heap.objs.size) (s₄.heap.objs.size :: wr) (GenOnlyQ s₄.gens.size) (passing pz n₀ 0).length
              (fun j y => ∃ i, (passing pz n₀ 0)[j]? = some i ∧ F i y) (GenAt X.prog X.w X.A.in4 a s₄.gens.size s₄.heap.objs.size (List.range s₄.heap.objs.size) wr pz n₀ F) →
            GenAt X.prog X.w X.A.in4 a s₄.gens.size s₄.heap.objs.size (List.range s₄.heap.objs.size) wr pz n₀ F 0 { s₄ with gens := s₄.gens.push gs, toks := tk, heap := h₅ } →
            Q' (.ref a) { s₄ with gens := s₄.gens.push gs, toks := tk, heap := h₅ })) X.xe { s1 with heap := h3, toks := tk } := by
    intro code h3 tk qs hx3 hsz hP3 tri3
    have up3 : ∀ b u, b ≠ Pt → s1.heap.get? b = some u → h3.get? b = some u := fun b u hb e => hx3 b u hb (toZ b u e)
    have hcP : cStatics ≠ Pt := fun z => by
      obtain ⟨_, ⟨o', es, ep, ho, hd, _⟩, _⟩ := I1.nolimit
      rw [z, hP] at ho
      cases ho
      cases hd
    obtain ⟨bm, ob, d1, d2, d3, d4, d5, d6, d7, d8⟩ := TB.bm
    refine wpAny_builtinsFor (m := X.mg) (by rw [I1.ok.glob]; exact ((I1.mod.glob.keeps I1.bk).push io).extBut hx3 TB.gP) d1 d2 (up3 _ _ d4 (I1.bk _ _ d5)) d6 d7 d8 ?_
    have lt3 : s1.heap.objs.size < h3.objs.size := by omega
    have hlen : its.toArray.size = xs.length := by rw [List.size_toArray, rv.length]
    have hIt : h3.IsTupleIter s1.heap.objs.size ax 0 ∧ h3.IsTuple ax its.toArray := by
      have axP : ax ≠ Pt := fun z => by
        obtain ⟨o, ho, hc, n, hd⟩ := hp
        rw [z, hP] at ho
        cases ho
        cases hd
      refine ⟨?_, ?_⟩
      · refine ⟨io, hx3 _ _ (Nat.ne_of_gt hPlt) (Heap.get?_push_size _ (by rw [← hio]; rfl)), ?_⟩
        rw [← hio]
        exact ⟨rfl, rfl⟩
      · obtain ⟨o, ho, hc, n, hd⟩ := hp
        exact ⟨o, up3 _ _ axP ho, hc, n, hd⟩
    have hne : ax ≠ s1.heap.objs.size := by
      obtain ⟨o, ho, _⟩ := hp
      exact Nat.ne_of_lt (Heap.lt_size ho)
    refine ⟨s1.heap.objs.size, [s1.heap.objs.size, ax], [s1.heap.objs.size], its.toArray.size, (fun i v => its.toArray[i]? = some v), (fun i h => h.IsTupleIter s1.heap.objs.size ax i ∧ h.IsTuple ax its.toArray), (fun _ => true), (fun i y => ∃ z, xs[i]? = some z ∧ y = .bool (pb z)), rfl, fun A' hA' => Walks.tuple hA' _ _ hne _, hIt, ?_, limZ.extBut hx3 hcP, ?_, ?_, ?_⟩
    · intro b hb
      have t1 : s1.heap.objs.size < h3.objs.size := by omega
      obtain ⟨o, ho, _⟩ := hp
      have t2 := Heap.lt_size ho
      rcases List.mem_cons.mp hb with z | z
      · rw [z]; exact t1
      · rw [List.mem_singleton.mp z]; exact Nat.lt_trans t2 t1
    · exact fun z => Nat.ne_of_lt hcl (List.mem_singleton.mp z)
    · intro href hhref
      refine ⟨fun A' E' i v s₂ m₂ hA _ _ hPv hn hm hk => ?_, fun A' E' i v s₂ m₂ hA hAd hAu hPv hpz hn hm hk => ?_⟩
      · simp only [List.forIn_nil]
        exact wpAny_pure ⟨rfl, keeps_rfl _⟩
      · have hv : its[i]? = some v := by simpa using hPv
        obtain ⟨y, hy, ry⟩ : ∃ y, xs[i]? = some y ∧ RelV y v := by
          cases e : xs[i]? with
          | none => rw [rv.none_of e] at hv; cases hv
          | some y =>
            obtain ⟨u, e1, e2⟩ := rv.get e
            rw [hv] at e1
            cases e1
            exact ⟨y, rfl, e2⟩
        have rs : RS X.K X.mg X.base s₂ := ⟨I1.mod, fun b o e => by
          have e1 := (I1.bs b o e).1
          have lb := Heap.lt_size e1
          exact hk b (List.mem_range.mpr (Nat.lt_trans lb lt3)) (fun z => Nat.ne_of_lt lb (List.mem_singleton.mp z)) o (hhref b o (up3 b o (baseP b o e) e1))⟩
        exact wpAny_mono (hel y v (pb y) (hgd y (List.mem_of_getElem? hy)) ry (genEnv scope (cloFrom X.env.cells scope.names []) h3.objs.size code builtinsNs X.env) m₂ rfl I1.ok.glob rfl hm A' E' s₂ rs hA hAd hAu hn trivial) (fun u s3 q => ⟨⟨y, hy, q.1⟩, q.2⟩) fun _ _ z => z
    · intro g h5 tk5 gs hgb hag hsz5 hk5 W5 hat
      simp only [GxR.passing_true, List.length_range, hlen] at W5 hat
      refine hQ xs pb H1 g _ hkk ⟨_, _, _, _, _, ⟨W5.in4_1, hat⟩, ?_, fun s' hm => ?_⟩
      · intro i y sj Qj Ej hy hQj
        obtain ⟨i', hij, z, hz', rfl⟩ := hy
        obtain ⟨hj, ej⟩ := List.getElem?_eq_some_iff.mp hij
        rw [List.getElem_range] at ej
        subst ej
        have e9 : pAt xs pb i = pb z := by unfold pAt; rw [hz']
        rw [e9] at hQj
        exact wpAny_truthy_bool hQj
      · have away : ∀ b u, s1.heap.get? b = some u → b ∉ h3.objs.size :: [s1.heap.objs.size] := fun b u e hb => by
          have lb := Heap.lt_size e
          rcases List.mem_cons.mp hb with z | z
          · exact Nat.ne_of_lt (Nat.lt_trans lb lt3) z
          · exact Nat.ne_of_lt lb (List.mem_singleton.mp z)
        have last : ∀ b u, b ≠ Pt → s1.heap.get? b = some u → s'.heap.get? b = some u := fun b u hb e => hm.heap b u (away b u e) (hk5 b u (up3 b u hb e))
        have lastP : s'.heap.get? Pt = some { cls := .none, data := .fields qs } := hm.heap Pt _ (away Pt _ hP) (hk5 Pt _ hP3)
        have mu : Mut (H1 Pt) := by rw [hT]; exact trivial
        have eU : upd H1 Pt (TabF Pt) = H1 := upd_self hT
        have un : Un (frs X.stack) [] H1 H1 s1.heap s'.heap := by
          have z := Un.write (fs := frs X.stack) (ex := []) (o := TabF Pt) mu (.inl rfl) last ⟨_, lastP⟩
          rw [eU] at z
          exact z
        have hok : HOk X.prog X.w H1 s'.heap := by
          have z := I1.hok.write (o' := TabF Pt) mu (.inl rfl) last ⟨_, lastP⟩ (tabF_ok lastP tri3)
          rw [eU] at z
          exact z
        have J := I1.call (g' := s'.gens) (t' := s'.toks) (d' := s'.drawn) (ch := []) un hok (AllBare.movedS (I1.bare.push hgb) hm) (fun b hb => absurd hb (by simp))
        rw [GxR.sh_eta s1 s' hm.os] at J
        exact J
  refine ⟨limZ, ?_⟩
  cases hf : codeAmong gpos ps.toList with
  | some cv =>
    refine wpAny_genexprCode_hit hcode (hcd.code hPZ tri) hf ?_
    exact go cv _ s1.toks ps (Heap.ExtBut.refl _ _) (Nat.le_refl _) hPZ tri
  | none =>
    refine wpAny_genexprCodeX hcode (hcd.code hPZ tri) (hcd.tab hPZ) hf fun c' h' tk hxx hge hlt hco' _ htab' _ => ?_
    obtain ⟨o1, vs, f1, tf, fl, tg, inF, tx, tt, op, _, _, _, _, _, _, _, _, _, htr, _⟩ := hco'
    exact go _ h' tk _ hxx (Nat.le_trans hge (Nat.le_of_lt hlt)) htab'.2 htr
def tAllT (K : PySem.W.Frag) (Pt : Addr) (good : V → Bool → Prop) (te : TE) : TE := fun σ H Q => tGenT K Pt good te (fun xs pb H1 => Q (.bl (xs.all pb)) H1) σ H
theorem pe_allT {c Pt : Addr} {elt iter : Expr} {x : Str} {px p pos gpos : Pos} {scope : Scope} {good : V → Bool → Prop} {te : TE} {j : Nat}
    (hr : Room j X.A) (hg : Gl X "all") (hm : X.mg "all" = none) (TB : GxR.TabB X.base X.mg c Pt) (hcode : X.env.code = .ref c) (S : GxR.GenS X.env scope x) (hi : PE X iter te) (hel : EltG X scope x elt good) (hs : ∀ v, genFold iter X.env v = pure v)
    (hv : bootBuiltins "all" = some (.builtin "all") := by decide +kernel) (he : starEach [.GeneratorExp elt [⟨.Name x px, iter, [], 0⟩] scope gpos] X.env = (false, eval (.GeneratorExp elt [⟨.Name x px, iter, [], 0⟩] scope gpos) X.env) :: starEach [] X.env := by rfl) :
    PE X (.Call (.Name "all" p) [.GeneratorExp elt [⟨.Name x px, iter, [], 0⟩] scope gpos] [] pos) (tAllT X.K Pt good te) := by
  refine ⟨fun pins s σ H Q I h => wpAny_Call_Name_kw (ld_blt I hg hm hv (PyProof.Rows.callWith_builtin1 ?_ he (by rfl)))⟩
  rw [he]
  refine Calls.spliced_cons (gen_tup hr TB hcode S hi hel hs I h fun xs pb H1 g s5 hR hG => Calls.spliced_nil ?_)
  obtain ⟨fp, wr, G, F, St, ⟨W, hst⟩, htr, hI⟩ := hG
  refine call_all_walkS (W.self 0 _ _ _ hst ⟨g, fp, wr, G, _, F, St, _, rfl, W, hst, htr, fun s' hmv => ⟨.bl _, H1, hI s' hmv, rfl, ?_⟩⟩)
  rw [pAt_all]
  exact hR
end
end Sq
namespace Sq
open PySem PySem.Spec PyProof.Rows L2 Evl
/-! ### tables at a law's start -/
def Tabs (Ps : List Addr) (H : Hp) : Prop := ∀ p ∈ Ps, H p = some (TabF p)
theorem Tabs.ex {Ps : List Addr} {H H' : Hp} (t : Tabs Ps H) (e : Ex H H') : Tabs Ps H' := fun p hp => e _ _ (t p hp)
def withT (Ps : List Addr) (H : Hp) : Hp := fun b => if b ∈ Ps then some (TabF b) else H b
def tblAt (h : Heap) (b : Addr) : Array Value := match h.get? b with
  | some o => (match o.data with
    | .fields vs => vs
    | _ => #[])
  | none => #[]
def backT (Ps : List Addr) (h : Heap) (H : Hp) : Hp := fun b => if b ∈ Ps then some (.tbl (tblAt h b)) else H b
theorem withT_in {Ps : List Addr} {H : Hp} {b : Addr} (h : b ∈ Ps) : withT Ps H b = some (TabF b) := if_pos h
theorem withT_out {Ps : List Addr} {H : Hp} {b : Addr} (h : b ∉ Ps) : withT Ps H b = H b := if_neg h
theorem backT_in {Ps : List Addr} {g : Heap} {H : Hp} {b : Addr} (h : b ∈ Ps) : backT Ps g H b = some (.tbl (tblAt g b)) := if_pos h
theorem backT_out {Ps : List Addr} {g : Heap} {H : Hp} {b : Addr} (h : b ∉ Ps) : backT Ps g H b = H b := if_neg h
theorem tblAt_of {h : Heap} {b : Addr} {ps : Array Value} (e : h.get? b = some { cls := .none, data := .fields ps }) : tblAt h b = ps := by
  unfold tblAt
  rw [e]
section
variable {P : Program} {w : World} {K : PySem.W.Frag} {mg : Str → Option Value} {base : Heap}
theorem fn_tabs {k : Nat} {f : Addr} {fd : FuncData} {ps : List Str} {sp sp' : Sp} {Ps : List Addr} (F : FnOk P w K mg base CX0 k f fd ps sp) (hl : ∀ vs H Q E, sp' vs H Q E → vs.length = ps.length)
    (h : ∀ vs H Q E, sp' vs H Q E → (∀ p ∈ Ps, H p = some (.tbl #[])) ∧ sp vs (withT Ps H) (fun v H' => Tabs Ps H' ∧ ∀ H'', Q v H'') E) : FnOk P w K mg base CX0 k f fd ps sp' := by
  refine ⟨hl, fun A outer s H args us vs Q E hr he hb hv hs => ?_⟩
  obtain ⟨hT, hsp⟩ := h vs H Q E hs
  have outN : ∀ b, H b = none → b ∉ Ps := fun b e z => by
    rw [hT b z] at e
    cases e
  have eN : ∀ b, H b = none → withT Ps H b = none := fun b e => (withT_out (outN b e)).trans e
  have outU : ∀ b u, H b = some u → (∀ q, u ≠ .tbl q) → b ∉ Ps := fun b u e n z => by
    rw [hT b z] at e
    cases e
    exact n _ rfl
  have hok : HOk P w (withT Ps H) s.heap := fun b u e => by
    by_cases hb : b ∈ Ps
    · rw [withT_in hb] at e
      cases e
      exact tabF_ok (he.hok b _ (hT b hb)) trivial
    · rw [withT_out hb] at e
      refine (he.hok b u e).stay (fun _ _ _ q => q) (fun d q => ?_) fun d xs q => ?_
      · rw [withT_out (outU d _ q fun _ z => by cases z)]
        exact q
      · rw [withT_out (outU d _ q fun _ z => by cases z)]
        exact q
  have e0 : Env0 P w K mg base A outer s (withT Ps H) := ⟨he.frames, he.mod, fun b o e => ⟨(he.bs b o e).1, eN b (he.bs b o e).2⟩, he.bsz, he.funs, fun b hb => eN b (he.frf b hb), hok, he.bare⟩
  refine codeAny_mono (F.run A outer s _ args us vs _ E hr e0 hb hv hsp) fun res s' hq => ?_
  cases res with
  | error e => exact hq
  | ok fl =>
    cases fl with
    | next => exact hq
    | brk => exact hq
    | cont => exact hq
    | ret u =>
      obtain ⟨v, H', os, bare, un, hok', rv, hT', q⟩ := hq
      have same' : ∀ b o, H' b = some o → (∀ φ, o ≠ .ext φ) → b ∉ Ps := fun b o e n z => by
        rw [hT' b z] at e
        cases e
        exact n _ rfl
      refine ⟨v, backT Ps s'.heap H', os, bare, ⟨fun b o e n hf hx => un.keep b o e (eN b n) hf hx, fun b o e n hf hx => un.slot b o e (eN b n) hf hx, fun b o e n hx => ?_, un.there, fun b xs e => ?_, fun b o u e => ?_, fun b qs e => ?_⟩, fun b o e => ?_, rv, q _⟩
      · rw [backT_out (outN b n)]
        exact un.free b o e (eN b n) hx
      · have nb := outU b _ e fun _ z => by cases z
        rw [backT_out nb]
        exact un.tups b xs ((withT_out nb).trans e)
      · have nb := outU b _ e fun _ z => by cases z
        rw [backT_out nb]
        exact un.frzs b o u ((withT_out nb).trans e)
      · by_cases hb : b ∈ Ps
        · rw [hT b hb] at e
          cases e
          rw [backT_in hb]
          exact ⟨_, by rw [Array.empty_append]⟩
        · obtain ⟨more, em⟩ := un.tbls b qs ((withT_out hb).trans e)
          exact ⟨more, by rw [backT_out hb]; exact em⟩
      · by_cases hb : b ∈ Ps
        · rw [backT_in hb] at e
          cases e
          obtain ⟨⟨qs, eq, _⟩, _, _⟩ := hok' b _ (hT' b hb)
          show s'.heap.get? b = some { cls := .none, data := .fields (tblAt s'.heap b) }
          rw [tblAt_of eq]
          exact eq
        · rw [backT_out hb] at e
          refine (hok' b o e).stay (fun _ _ _ q => q) (fun d q => ?_) fun d xs q => ?_
          · rw [backT_out (same' d _ q fun _ z => by cases z)]
            exact q
          · rw [backT_out (same' d _ q fun _ z => by cases z)]
            exact q
/-- a def with its code object -/
structure FunC (K : PySem.W.Frag) (x qual : Str) (st : Stmt) (f : Addr) (fd : FuncData) (c : Addr) : Prop where
  fn : Fun K x qual st f fd
  code : fd.code = .ref c
theorem fun_of {x qual : Str} {st : Stmt} {f : Addr} {fd : FuncData} (F : FunD K x qual (defArgs st) (defBody st) (defScope st) [] [] f fd) : Fun K x qual st f fd := by
  obtain ⟨oc, od, dV, kV, doc, pm, an, cdv, ct, osl, rfl, lk, hcd, hd, _⟩ := F.ex
  rcases hd with ⟨_, rfl⟩ | ⟨z, _⟩
  · exact ⟨⟨oc, od, kV, doc, pm, an, cdv, ct, osl, rfl, lk, hcd⟩, F.kp⟩
  · exact absurd rfl z
theorem FunC.ok {x qual : Str} {st : Stmt} {f : Addr} {fd : FuncData} {c : Addr} {N ps : List Str} {k : Nat} {sp : Sp} (F : FunC K x qual st f fd c) (S : FnScope N ps (defScope st)) (len : ∀ vs H Q E, sp vs H Q E → vs.length = ps.length)
    (hbody : ∀ (A : Around) (outer : List Env) (s : Shared) (H : Hp) (vs : List V) (Q : VK) (E : XK), Room k (A.deeper (envOfC qual (defScope st) s.heap.objs.size f (.ref c))) → sp vs H Q E →
      ∃ t, PSs (cxOf CX0 P w K mg base N qual (defScope st) f (.ref c) A outer s H E).nox (defBody st) t ∧ t { nx := fun _ H' => Q .non H', rt := Q } (start N vs) H) : FnOk P w K mg base CX0 (k + 1) f fd ps sp := by
  obtain ⟨oc, od, kV, doc, pm, an, cdv, ct, osl, rfl, lk, hcd⟩ := F.fn.ex
  have e : cdv = .ref c := F.code
  subst e
  refine fn_of lk hcd S len fun A outer s H vs Q E hr hsp => ?_
  obtain ⟨t, ht, q⟩ := hbody A outer s H vs Q E hr hsp
  exact ⟨t, ht.nox, q⟩
/-- the code object that the head's facts name -/
theorem funC_of {x qual : Str} {st : Stmt} {fd : FuncData} {p : Str × Option Str} (F : Fun K x qual st (He.fAd K p) fd) : FunC K x qual st (He.fAd K p) fd (He.codeOf K p) := by
  obtain ⟨oc, od, kV, doc, pm, an, cdv, ct, osl, rfl, lk, hcd⟩ := id F.ex
  obtain ⟨c, rfl⟩ := He.codeIn_ref hcd
  exact ⟨F, congrArg Value.ref (He.codeOf_eq lk rfl).symm⟩
end
def genSB (scope : Scope) (x : Str) : Bool := decide (scope.kind = .function) && (!scope.isCoroutine && (scope.names.all (fun y => decide (y.2 ≠ .cell) && decide (y.2 ≠ .free)) && (decide (scope.names.lookup (".0" : Str) = some NameKind.local) && decide (scope.names.lookup x = some .local))))
theorem genS_of {env : Env} {scope : Scope} {x : Str} (h : genSB scope x = true) : GxR.GenS env scope x := by
  unfold genSB at h
  simp only [Bool.and_eq_true, decide_eq_true_eq, Bool.not_eq_true', List.all_eq_true] at h
  obtain ⟨h1, h2, h3, h4, h5⟩ := h
  exact ⟨h1, h2, fun y hy => (h3 y hy).1, h4, h5, fun y hy e => absurd e (h3 y hy).2⟩
theorem tabB_conv {base : Heap} {mg : Str → Option Value} {c P : Addr} (t : LamX.TabB base mg c P) : GxR.TabB base mg c P := ⟨t.code, t.bm, t.gP⟩
end Sq
namespace Sq
open PySem PySem.Spec PyProof.Rows L2 Evl
/-- the law's promise: tables told by what is true of them | as the head leaves them -/
def spLawX (K : PySem.W.Frag) (Ps : List Addr) : Sp := fun vs H Q _ => ∃ (a : Addr) (ns : List Int), vs = [.ref a] ∧ SqL K H a (ns.map V.int) ∧ Tabs Ps H ∧ ∀ H', Ex H H' → Q (.bl true) H'
def spLawB (K : PySem.W.Frag) (Ps : List Addr) : Sp := fun vs H Q _ => ∃ (a : Addr) (ns : List Int), vs = [.ref a] ∧ SqL K H a (ns.map V.int) ∧ (∀ p ∈ Ps, H p = some (.tbl #[])) ∧ ∀ H', Q (.bl true) H'
theorem law_tabs {P : Program} {w : World} {K : PySem.W.Frag} {mg : Str → Option Value} {base : Heap} {k : Nat} {f : Addr} {fd : FuncData} {x : Str} {Ps : List Addr} (F : FnOk P w K mg base CX0 k f fd [x] (spLawX K Ps)) : FnOk P w K mg base CX0 k f fd [x] (spLawB K Ps) := by
  refine fn_tabs (Ps := Ps) F (fun vs H Q E ⟨a, ns, e, _⟩ => by rw [e]; rfl) fun vs H Q E ⟨a, ns, e, hS, hT, q⟩ => ⟨hT, a, ns, e, ?_, fun p hp => withT_in hp, fun H' e' => ⟨fun p hp => e' _ _ (withT_in hp), q⟩⟩
  rcases hS with (h | ⟨o, h⟩) | h
  · exact .inl (.inl (by rw [withT_out (fun z => by rw [hT a z] at h; cases h)]; exact h))
  · exact .inl (.inr ⟨o, by rw [withT_out (fun z => by rw [hT a z] at h; cases h)]; exact h⟩)
  · exact .inr h
theorem tabs_mem {Ps : List Addr} {H : Hp} {p : Addr} (t : Tabs Ps H) (h : p ∈ Ps) : H p = some (TabF p) := t p h
end Sq

/-! dict(enumerate(t)) of a tuple -/
namespace Sq
open PySem PySem.Spec PyProof.Rows L2 Evl
section
variable {prog : Program} {w : World} {A : Around} {E : Value → Shared → Prop} {s : Shared}
/-- the next pair of an enumeration, the pair given out before is still held -/
theorem enum_held {e it T : Addr} {fp : List Addr} {n i : Nat} {P : Nat → Value → Prop} {Z : Nat → Heap → Prop} {old : Value} {f : Bool} {oT : Obj} {Q : Value → Shared → Prop}
    (D : Draws prog w A it fp n P Z) (he : IsEnumHeld s.heap e it (i : Int) old T f) (hT : s.heap.get? T = some oT) (hTe : T ≠ e) (hTi : T ≠ it) (hz : Z i s.heap) (hlt : i < n) (hne : e ≠ it) (hef : e ∉ fp)
    (hQ : ∀ x k' tk, P i x → IsEnumHeld k' e it ((i : Int) + 1) old T true → Z (i + 1) k' → k'.get? s.heap.objs.size = some { cls := .type "tuple", data := .seq #[.int (i : Int) tk, x] } → k'.objs.size = s.heap.objs.size + 1 →
      (∀ b o, b ≠ e → b ≠ it → s.heap.get? b = some o → k'.get? b = some o) → Q (.ref s.heap.objs.size) { s with heap := k', toks := tk + 1 }) :
    wpAny (model prog w) A (Builtin.«enumerate.__next__» ⟨[.ref e], []⟩) (fun fin s' => ∃ v, fin = .done (.ret v) ∧ Q v s') E s := by
  obtain ⟨hq, gg, dd, t0, oo⟩ := s
  show wpAny _ _ (field (.ref e) 2 >>= _) _ _ _
  refine wpAny_bind (wpAny_field he rfl (x := .ref it) rfl (wpAny_bind (D.item i _ _ _ hlt hz fun x k1 tk px z1 b1 => ?_)))
  have c1 : Heap.SameBut it hq k1 := b1
  have q1 : IsEnumHeld k1 e it (i : Int) old T f := (c1.2 e hne).trans he
  refine wpAny_bind (wpAny_field (s := ⟨k1, gg, dd, tk, oo⟩) q1 rfl (x := rawInt i) rfl (wpAny_bind (wpAny_field (s := ⟨k1, gg, dd, tk, oo⟩) q1 rfl (x := .none) rfl ?_)))
  refine wpAny_bind (m := mkInt i) (wpAny_mkInt (wpAny_bind (m := setField (.ref e) 3 (rawInt ((i : Int) + 1))) (wpAny_setField_rec (s := ⟨k1, gg, dd, tk + 1, oo⟩) q1 (by simp) fun k2 q2 b2 => ?_)))
  have c2 : Heap.SameBut e k1 k2 := b2
  have q2' : IsEnumHeld k2 e it ((i : Int) + 1) old T f := q2
  refine wpAny_bind (m := setField (.ref e) 4 .none) (wpAny_setField_rec (s := ⟨k2, gg, dd, tk + 1, oo⟩) q2' (by simp) fun k3 q3 b3 => ?_)
  have c3 : Heap.SameBut e k2 k3 := b3
  have q3' : IsEnumHeld k3 e it ((i : Int) + 1) old T f := q3
  refine wpAny_bind (m := newTuple [.int (i : Int) tk, x]) (wpAny_newTuple ?_)
  generalize hN : ({ cls := .type "tuple", data := .seq #[.int (i : Int) tk, x] } : Obj) = new
  have zsz : k3.objs.size = hq.objs.size := by rw [c3.1, c2.1, c1.1]
  have q4 : IsEnumHeld (k3.push new) e it ((i : Int) + 1) old T f := Heap.get?_push_of_some _ q3'
  have n4 : (k3.push new).get? hq.objs.size = some new := by
    rw [← zsz]
    exact Heap.get?_push_size _ (by rw [← hN]; rfl)
  have s4 : (k3.push new).objs.size = hq.objs.size + 1 := by rw [Heap.size_push, zsz]
  have u4 : ∀ b o, b ≠ e → b ≠ it → hq.get? b = some o → (k3.push new).get? b = some o := fun b o be bi z =>
    Heap.get?_push_of_some _ (c3.extBut b o be (c2.extBut b o be (c1.extBut b o bi z)))
  have z4 : Z (i + 1) (k3.push new) := D.frame _ _ _ z1 fun b hb o y => by
    have be : b ≠ e := fun z => hef (z ▸ hb)
    exact Heap.get?_push_of_some _ (c3.extBut b o be (c2.extBut b o be y))
  show wpAny _ _ (Builtin.SmallTypes.ownedTupleIsFree (.ref e) >>= _) _ _ ⟨k3.push new, gg, dd, tk + 1, oo⟩
  rw [zsz]
  refine wpAny_bind (wpAny_tupleHeld_enum (s := ⟨k3.push new, gg, dd, tk + 1, oo⟩) q4 (u4 T oT hTe hTi hT) fun k5 q5 b5 => ?_)
  have c5 : Heap.SameBut e (k3.push new) k5 := b5
  simp only [Bool.false_eq_true, if_false]
  refine wpAny_pure ⟨_, rfl, hQ x k5 tk px q5 (D.frame _ _ _ z4 fun b hb o y => c5.extBut b o (fun z => hef (z ▸ hb)) y) ?_ ?_ fun b o be bi z => c5.extBut b o be (u4 b o be bi z)⟩
  · rw [hN]
    exact c5.extBut _ _ (Nat.ne_of_gt (Heap.lt_size he)) n4
  · rw [c5.1, s4]
theorem next_held {e it T : Addr} {fp : List Addr} {n i : Nat} {P : Nat → Value → Prop} {Z : Nat → Heap → Prop} {old : Value} {f : Bool} {oT : Obj} {Q : Option Value → Shared → Prop}
    (D : Draws prog w A.in1 it fp n P Z) (he : IsEnumHeld s.heap e it (i : Int) old T f) (hT : s.heap.get? T = some oT) (hTe : T ≠ e) (hTi : T ≠ it) (hz : Z i s.heap) (hlt : i < n) (hne : e ≠ it) (hef : e ∉ fp)
    (hQ : ∀ x k' tk, P i x → IsEnumHeld k' e it ((i : Int) + 1) old T true → Z (i + 1) k' → k'.get? s.heap.objs.size = some { cls := .type "tuple", data := .seq #[.int (i : Int) tk, x] } → k'.objs.size = s.heap.objs.size + 1 →
      (∀ b o, b ≠ e → b ≠ it → s.heap.get? b = some o → k'.get? b = some o) → Q (some (.ref s.heap.objs.size)) { s with heap := k', toks := tk + 1 }) :
    wpAny (model prog w) A (pyNext (.ref e)) Q E s := by
  have ty : s.TypeIs (.ref e) "enumerate" := ⟨_, he, rfl⟩
  unfold pyNext
  refine wpAny_bind (wpAny_attempt (wpAny_callSpecial?_slot (name := Str.ofString "__next__") ty F.slot_enumerate_next (wpAny_call_entry F.slot_enumerate_next ty F.entry_enumerate_next ?_ (F.args_enumerate_next_1 _))))
  exact enum_held D he hT hTe hTi hz hlt hne hef fun x k' tk a1 a2 a3 a4 a5 a6 => wpAny_pure (hQ x k' tk a1 a2 a3 a4 a5 a6)
end
end Sq
namespace Sq
open PySem PySem.Spec PyProof.Rows L2 Evl
section
variable {prog : Program} {w : World} {A : Around} {E : Value → Shared → Prop} {s : Shared}
/-- an enumeration at its end -/
theorem next_end {e it : Addr} {fp : List Addr} {n : Nat} {P : Nat → Value → Prop} {Z : Nat → Heap → Prop} {fs : Array Value} {Q : Option Value → Shared → Prop} (D : Draws prog w A.in1 it fp n P Z)
    (he : s.heap.get? e = some { cls := .type "enumerate", dict := none, data := .fields fs, slots := #[] }) (hf : fs[2]? = some (.ref it)) (hz : Z n s.heap) (hQ : ∀ k', Heap.ExtBut it s.heap k' → Q none { s with heap := k' }) : wpAny (model prog w) A (pyNext (.ref e)) Q E s := by
  have ty : s.TypeIs (.ref e) "enumerate" := ⟨_, he, rfl⟩
  unfold pyNext
  refine wpAny_bind (wpAny_attempt (wpAny_callSpecial?_slot (name := Str.ofString "__next__") ty F.slot_enumerate_next (wpAny_call_entry F.slot_enumerate_next ty F.entry_enumerate_next ?_ (F.args_enumerate_next_1 _))))
  refine wpAny_bind (m := field (.ref e) 2) (wpAny_field he rfl (x := .ref it) hf (wpAny_bind (D.done _ _ _ hz fun k' x hk hx => ?_)))
  obtain ⟨o, ho, hc⟩ := hx
  exact wpAny_bind (wpAny_isInstance (T := "StopIteration") (b := true) ⟨o, ho, hc⟩ isSubtype_stop (wpAny_pure (hQ _ hk)))
/-- enumerate(t) as the argument of dict -/
theorem pairArg_enumT (e it t : Addr) (hei : e ≠ it) (hte : t ≠ e) (hti : t ≠ it) (items : Array Value) :
    PairArg prog w "enumerate" e [e, it, t] [e, it] items.size (fun i k v => (∃ u, k = .int i u) ∧ items[i]? = some v) (fun h => (∃ old, IsEnum h e it 0 old) ∧ h.IsTupleIter it t 0 ∧ h.IsTuple t items) where
  notDict := by decide
  type := fun s ⟨⟨_, he⟩, _⟩ => ⟨_, he, rfl⟩
  sub := fun b hb => by
    simp at hb ⊢
    rcases hb with rfl | rfl <;> simp
  keep := fun h h' ⟨⟨old, he⟩, ⟨o1, x1, r1⟩, ⟨o2, x2, r2⟩⟩ hk => ⟨⟨old, hk _ _ he⟩, ⟨o1, hk _ _ x1, r1⟩, ⟨o2, hk _ _ x2, r2⟩⟩
  there := fun h ⟨⟨old, he⟩, ⟨o1, x1, _⟩, ⟨o2, x2, _⟩⟩ b hb => by
    simp only [List.mem_cons, List.not_mem_nil, or_false] at hb
    rcases hb with rfl | rfl | rfl
    · exact ⟨_, he⟩
    · exact ⟨_, x1⟩
    · exact ⟨_, x2⟩
  noKeys := fun A s Q E hA ok h => let ⟨⟨_, he⟩, _⟩ := ok; getAttrOr_miss_enumerate he rfl rfl rfl enumerate_no_keys (by decide +kernel) hA h
  iter := fun A s d Q E hA ok hd hdf h => by
    obtain ⟨⟨old, he⟩, hit, ht⟩ := ok
    have dn : d ≠ e ∧ d ≠ it ∧ d ≠ t := by
      simp only [List.mem_cons, List.not_mem_nil, or_false, not_or] at hdf
      exact hdf
    have D : Draws prog w A.in1 it [it, t] items.size (fun i v => items[i]? = some v) (fun i h => h.IsTupleIter it t i ∧ h.IsTuple t items) := Draws.tuple (A := A.in1) hA it t hti items
    have eN : e ∉ [it, t] := by
      simp only [List.mem_cons, List.not_mem_nil, or_false, not_or]
      exact ⟨hei, fun z => hte z.symm⟩
    refine wpAny_pyIter_enum he (h e [e, it] (fun i k => (k.IsTupleIter it t i ∧ k.IsTuple t items) ∧ ((∃ old, IsEnum k e it i old) ∨ ∃ old T f oT, IsEnumHeld k e it i old T f ∧ k.get? T = some oT ∧ T ≠ e ∧ T ≠ it ∧ T ≠ d)) s.heap s.toks ?_
      ⟨⟨hit, ht⟩, .inl ⟨old, he⟩⟩ (fun _ _ z => z) fun b hb => .inl hb)
    have away : ∀ {b : Addr}, b ∉ [e, it] → b ≠ e ∧ b ≠ it := fun {b} hb => by
      simp only [List.mem_cons, List.not_mem_nil, or_false, not_or] at hb
      exact hb
    refine ⟨fun hm => ?_, fun i k1 k2 st hk => ?_, fun i s₁ Q₁ E₁ hi st hds hQ => ?_, fun s₁ Q₁ E₁ st hQ => ?_⟩
    · simp only [List.mem_cons, List.not_mem_nil, or_false] at hm
      exact hm.elim dn.1 dn.2.1
    · obtain ⟨⟨⟨o1, x1, r1⟩, ⟨o2, x2, r2⟩⟩, st⟩ := st
      refine ⟨⟨⟨o1, hk _ _ (Ne.symm dn.2.1) x1, r1⟩, ⟨o2, hk _ _ (Ne.symm dn.2.2) x2, r2⟩⟩, ?_⟩
      rcases st with ⟨old, z⟩ | ⟨old, T, f, oT, z, hT, c1, c2, c3⟩
      · exact .inl ⟨old, hk _ _ (Ne.symm dn.1) z⟩
      · exact .inr ⟨old, T, f, oT, hk _ _ (Ne.symm dn.1) z, hk _ _ c3 hT, c1, c2, c3⟩
    · obtain ⟨hz, st⟩ := st
      have ec : ((i + 1 : Nat) : Int) = (i : Int) + 1 := by omega
      have itlt : it < s₁.heap.objs.size := let ⟨_, x, _⟩ := hz.1; Heap.lt_size x
      rcases st with ⟨old, z⟩ | ⟨old, T, f, oT, z, hT, c1, c2, c3⟩
      · refine wpAny_pyNext_enum_itemC D z hz hi hei eN fun x k' tk px ho hz' hN hsz hk => ?_
        exact hQ s₁.heap.objs.size _ _ k' (tk + 1) ⟨⟨_, rfl⟩, px⟩ (.inl ⟨_, hN, rfl, _, rfl⟩) ⟨hz', .inr ⟨_, s₁.heap.objs.size, false, _, (by rw [ec]; exact ho), hN, Nat.ne_of_gt (Heap.lt_size z), Nat.ne_of_gt itlt, Nat.ne_of_gt hds⟩⟩
          fun b o hb y => hk b o (away hb).1 (away hb).2 y
      · refine next_held D z hT c1 c2 hz hi hei eN fun x k' tk px ho hz' hN hsz hk => ?_
        exact hQ s₁.heap.objs.size _ _ k' (tk + 1) ⟨⟨_, rfl⟩, px⟩ (.inl ⟨_, hN, rfl, _, rfl⟩) ⟨hz', .inr ⟨old, T, true, oT, (by rw [ec]; exact ho), hk _ _ c1 c2 hT, c1, c2, c3⟩⟩
          fun b o hb y => hk b o (away hb).1 (away hb).2 y
    · obtain ⟨hz, st⟩ := st
      rcases st with ⟨old, z⟩ | ⟨old, T, f, oT, z, hT, c1, c2, c3⟩
      · exact next_end D z rfl hz fun k' hk => hQ k' s₁.toks fun b o hb y => hk b o (away hb).2 y
      · exact next_end D z rfl hz fun k' hk => hQ k' s₁.toks fun b o hb y => hk b o (away hb).2 y
end
/-- enumerate(v), its two new cells -/
theorem meets_enumB {v : Value} {o : Obj} {G : Heap → Prop} (B : Begins v o G) :
    Meets (Builtin.«enumerate.__new__» ⟨[.type "enumerate", v], []⟩) (fun _ R s => G s.heap ∧ R (.ok (.ret (.ref (s.heap.push o).objs.size))) { s with heap := (s.heap.push o).push { cls := .type "enumerate", data := .fields #[.none, .bool false, .ref s.heap.objs.size, rawInt 0, .none, .none] } }) :=
  .of_wp fun prog w A R s h => by
    obtain ⟨hq, gg, dd, tk, oo⟩ := s
    obtain ⟨hG, h⟩ := h
    have hsub := sub_enumerate
    have goIter : ∀ {A' : Around} {E : Value → Shared → Prop} {Q : Value → Shared → Prop}, Q (.ref hq.objs.size) ⟨hq.push o, gg, dd, tk, oo⟩ → wpAny (model prog w) A' (pyIter v) Q E ⟨hq, gg, dd, tk, oo⟩ := fun q => B.iter prog w _ _ ⟨hq, gg, dd, tk, oo⟩ _ hG q
    wp_walk using goIter
    refine wpAny_stack_any fun st => wpAny_pure ?_
    split
    · rename_i c _ _ _ _ _
      cases (c == Value.type "enumerate") <;> (wp_walk using goIter; exact ⟨_, rfl, h⟩)
    · wp_walk using goIter
      exact ⟨_, rfl, h⟩
theorem enum1_begins {prog : Program} {w : World} {A : Around} {E : Value → Shared → Prop} {s : Shared} {v : Value} {o : Obj} {G : Heap → Prop} {Q : Value → Shared → Prop} (B : Begins v o G) (hG : G s.heap)
    (h : ∀ k', IsEnum k' (s.heap.objs.size + 1) s.heap.objs.size 0 .none → k'.get? s.heap.objs.size = some o → k'.objs.size = s.heap.objs.size + 2 → (∀ b u, s.heap.get? b = some u → k'.get? b = some u) → Q (.ref (s.heap.objs.size + 1)) { s with heap := k' }) :
    wpAny (model prog w) A (call (.type "enumerate") [v]) Q E s := by
  refine callType_new F.called_enumerate (by decide) (F.typeCall_enumerate_1 _) (F.newCall_enumerate_1 _) (fun obj => F.args_object_init_2 obj _) F.entry_enumerate_new (meets_enumB B) ⟨hG, ?_⟩
  have zs : (s.heap.push o).objs.size = s.heap.objs.size + 1 := Heap.size_push ..
  have mk : IsEnum ((s.heap.push o).push { cls := .type "enumerate", data := .fields #[.none, .bool false, .ref s.heap.objs.size, rawInt 0, .none, .none] }) (s.heap.objs.size + 1) s.heap.objs.size 0 .none := by
    have z := Heap.get?_push_size (s.heap.push o) (o := { cls := .type "enumerate", data := .fields #[.none, .bool false, .ref s.heap.objs.size, rawInt 0, .none, .none] }) rfl
    rw [zs] at z
    exact z
  show _ ∧ _
  rw [zs]
  exact ⟨⟨_, mk, rfl⟩, h _ mk (Heap.get?_push_of_some _ (Heap.get?_push_size _ B.free)) (by rw [Heap.size_push, zs]) fun b u x => Heap.get?_push_of_some _ (Heap.get?_push_of_some _ x)⟩
end Sq

/-! dicts that are made once and only read: dict(enumerate(t)), dict comprehensions, walks over their keys -/
namespace Sq
open PySem PySem.Spec PyProof.Rows L2 Evl
/-! ### a list numbered from j on, as a dict's pairs -/
def enumK {α : Type} : Nat → List α → List (Key × α)
  | _, [] => []
  | j, x :: r => (.inl (j : Int), x) :: enumK (j + 1) r
theorem enumK_len {α : Type} : ∀ (j : Nat) (xs : List α), (enumK j xs).length = xs.length
  | _, [] => rfl
  | j, x :: r => congrArg (· + 1) (enumK_len (j + 1) r)
theorem enumK_get {α : Type} : ∀ (j : Nat) (xs : List α) (i : Nat), (enumK j xs)[i]? = (xs[i]?).map fun x => (Sum.inl ((j + i : Nat) : Int), x)
  | _, [], i => by simp [enumK]
  | j, x :: r, 0 => by simp [enumK]
  | j, x :: r, i + 1 => by
    have e : j + (i + 1) = j + 1 + i := by omega
    rw [e]
    simpa [enumK] using enumK_get (j + 1) r i
theorem enumK_kv : ∀ (j : Nat) {xs : List V} {us : List Value}, Vals xs us → KV (enumK j xs) (enumK j us)
  | _, _, _, .nil => .nil
  | j, _, _, .cons r t => .cons ⟨rfl, r⟩ (enumK_kv (j + 1) t)
theorem enumK_val : ∀ (j : Nat) (xs : List V) (i : Nat), valV (enumK j xs) (Sum.inl ((j + i : Nat) : Int)) = xs[i]?
  | _, [], i => by simp [enumK, valV]
  | j, x :: r, 0 => valV_pos (p := (Sum.inl (j : Int), x)) (by simp)
  | j, x :: r, i + 1 => by
    show valV ((Sum.inl (j : Int), x) :: enumK (j + 1) r) _ = _
    rw [valV_neg (p := (Sum.inl (j : Int), x)) (fun z => by have := Sum.inl.inj z; omega)]
    have e : j + (i + 1) = j + 1 + i := by omega
    rw [e]
    simpa using enumK_val (j + 1) r i
theorem enumK_out : ∀ (j : Nat) (xs : List V) (k : Int), k < j ∨ (j + xs.length : Nat) ≤ k → valV (enumK j xs) (Sum.inl k) = none
  | _, [], _, _ => rfl
  | j, x :: r, k, h => by
    show valV ((Sum.inl (j : Int), x) :: enumK (j + 1) r) _ = _
    rw [List.length_cons] at h
    rw [valV_neg (p := (Sum.inl (j : Int), x)) (fun z => by have := Sum.inl.inj z; omega)]
    exact enumK_out (j + 1) r k (by omega)
/-- pairs whose keys differ, merged one after another -/
theorem mergeK_nd : ∀ (more acc : List (Key × V)), (∀ p ∈ more, valV acc p.1 = none) → (more.map (·.1)).Nodup → mergeK acc more = acc ++ more
  | [], acc, _, _ => (List.append_nil acc).symm
  | p :: r, acc, h, hn => by
    have h1 : valV acc p.1 = none := h p List.mem_cons_self
    rw [List.map_cons, List.nodup_cons] at hn
    show mergeK (putK acc p.1 p.2) r = _
    rw [putK_new _ h1, mergeK_nd r (acc ++ [(p.1, p.2)]) (fun q hq => ?_) hn.2, List.append_assoc]
    · rfl
    · rw [valV_snoc _ _ _ _ h1, if_neg (fun z => hn.1 (List.mem_map.mpr ⟨q, hq, z⟩))]
      exact h q (List.mem_cons_of_mem _ hq)
theorem enumK_nd {α : Type} : ∀ (j : Nat) (xs : List α), ((enumK j xs).map (·.1)).Nodup
  | _, [] => List.nodup_nil
  | j, x :: r => by
    show ((Sum.inl (j : Int) : Key) :: (enumK (j + 1) r).map (·.1)).Nodup
    refine List.nodup_cons.mpr ⟨fun z => ?_, enumK_nd (j + 1) r⟩
    obtain ⟨p, hp, e⟩ := List.mem_map.mp z
    obtain ⟨i, hi⟩ := List.mem_iff_getElem?.mp hp
    rw [enumK_get] at hi
    cases e2 : r[i]? with
    | none => rw [e2] at hi; cases hi
    | some y =>
      rw [e2] at hi
      cases hi
      have z := Sum.inl.inj e
      omega
section
variable {X : Cx} {pins : List (Addr × Obj)} {σ : L2.St} {H : Hp} {s : Shared}
/-- dict(enumerate(t)) -/
def tDictEnum (K : PySem.W.Frag) (te : TE) : TE := fun σ H Q => te σ H fun v H1 => ∃ a xs, v = .ref a ∧ SqT K H1 a xs ∧ ∀ d, H1 d = none → Q (.ref d) (upd H1 d (.dK (enumK 0 xs)))
theorem pe_dictEnum {e : Expr} {te : TE} {p p2 pos pos2 : Pos} (hc : X.calm = true) (he : PE X e te) (hgd : Gl X "dict") (hmd : X.mg "dict" = none) (hge : Gl X "enumerate") (hme : X.mg "enumerate" = none) (hvd : bootBuiltins "dict" = some (.type "dict") := by decide +kernel)
    (h1 : starEach [.Call (.Name "enumerate" p2) [e] [] pos2] X.env = (false, eval (.Call (.Name "enumerate" p2) [e] [] pos2) X.env) :: starEach [] X.env := by rfl) (h2 : starEach [e] X.env = (false, eval e X.env) :: starEach [] X.env := by rfl) :
    PE X (.Call (.Name "dict" p) [.Call (.Name "enumerate" p2) [e] [] pos2] [] pos) (tDictEnum X.K te) := by
  refine ⟨fun pins s σ H Q I h => wpAny_Call_Name_kw (ld_blt I hgd hmd hvd (PyProof.Rows.callWith_type1 ?_ h1 (by rfl)))⟩
  rw [h1]
  refine Calls.spliced_cons (wpAny_Call_Name_kw (ld_blt I hge hme boot_enumerate (PyProof.Rows.callWith_type1 ?_ h2 (by rfl))))
  rw [h2]
  refine Calls.spliced_cons (thn (he.run pins s σ H _ I h) fun u s1 hq => Calls.spliced_nil ?_)
  obtain ⟨v, H1, I1, r1, a, xs, rfl, hx, q⟩ := hq
  cases r1
  obtain ⟨its, rv, hp, hz⟩ := I1.tuple hx
  refine enum1_begins (begins_tuple a its.toArray) (show s1.heap.IsTuple a its.toArray from hp) fun k' hE hI hsz hk => Calls.spliced_nil ?_
  have alt : a < s1.heap.objs.size := let ⟨_, x, _⟩ := hp; Heap.lt_size x
  have hn : its.toArray.size = xs.length := by rw [List.size_toArray, rv.length]
  have tk' : k'.IsTuple a its.toArray := let ⟨o, x, r⟩ := hp; ⟨o, hk _ _ x, r⟩
  refine call_dict_pairs (s := { s1 with heap := k' }) (knd := mixKind X.prog X.w) (kvs := enumK 0 its) (pairArg_enumT (s1.heap.objs.size + 1) s1.heap.objs.size a (Nat.succ_ne_self _) (Nat.ne_of_lt (Nat.lt_succ_of_lt alt)) (Nat.ne_of_lt alt) its.toArray) (I1.ok.hd hc)
    ⟨⟨_, hE⟩, ⟨_, hI, rfl, rfl⟩, tk'⟩ ⟨by rw [enumK_len, List.size_toArray], fun i key v hR => ?_⟩ (by rw [hn]; exact hz) fun h' tk hd' hk' => ?_
  · obtain ⟨⟨u, rfl⟩, hv⟩ := hR
    have hv' : its[i]? = some v := by simpa using hv
    exact ⟨Sum.inl (i : Int), by rw [enumK_get, hv']; simp, keyIs_int (i : Int) u⟩
  · have up : ∀ b o, s1.heap.get? b = some o → h'.get? b = some o := fun b o x => hk' b o (fun z => by
      have lb := Heap.lt_size x
      simp only [List.mem_cons, List.not_mem_nil, or_false] at z
      rcases z with z | z
      · exact Nat.ne_of_lt (Nat.lt_succ_of_lt lb) z
      · exact Nat.ne_of_lt lb z) (hk b o x)
    have big : s1.heap.objs.size ≤ k'.objs.size := by omega
    have hm : (k'.objs.size == sysModules) = false := beq_eq_false_iff_ne.mpr (Nat.ne_of_gt (Nat.lt_of_lt_of_le I1.big big))
    have em : mergeK [] (enumK 0 xs) = enumK 0 xs := by
      rw [mergeK_nd _ _ (fun _ _ => rfl) (enumK_nd 0 xs)]
      rfl
    have kv := KV.merge (enumK_kv 0 rv) (Paired.nil : KV ([] : List (Key × V)) [])
    rw [em] at kv
    exact ⟨.ref k'.objs.size, upd H1 k'.objs.size (.dK (enumK 0 xs)), I1.laid (t' := tk) up big (dk_new (by rw [enumK_len]; exact hz) hm kv hd'), rfl, q _ (I1.hok.fresh big)⟩
/-- a dict that is only read from here on -/
def tFrz (u : TS) : TS := fun D σ H => ∃ d kvs, H d = some (.dK kvs) ∧ ∀ o, u D σ (upd H d (.frz o (.dK kvs)))
theorem pss_frz {rest : List Stmt} {u : TS} (h : PSs X rest u) : PSs X rest (tFrz u) := by
  refine ⟨fun pins s σ H D I q => ?_⟩
  obtain ⟨d, kvs, hd, q⟩ := q
  obtain ⟨o, J⟩ := I.lock hd trivial
  exact h.run pins s σ _ D J (q o)
theorem ip_xor : PIp X .BitXor (ipI fun i j => Builtin.bitXor i j) := by
  intro pins s σ H x y v u Q I r1 r2 h
  obtain ⟨i, j, rfl, rfl, q⟩ := h
  obtain ⟨t, rfl⟩ := r1
  obtain ⟨t', rfl⟩ := r2
  exact ixor_int ⟨.int _, H, I.tok _, ⟨_, rfl⟩, q⟩
end
/-! ### what a frozen dict gives -/
def FD (H : Hp) (d : Addr) (kvs : List (Key × V)) : Prop := ∃ o, H d = some (.frz o (.dK kvs))
theorem FD.ex {H H' : Hp} {d : Addr} {kvs : List (Key × V)} (h : FD H d kvs) (e : Ex H H') : FD H' d kvs := let ⟨o, x⟩ := h; ⟨o, e _ _ x⟩
theorem FD.get {H : Hp} {d : Addr} {kvs : List (Key × V)} {k : Key} (h : FD H d kvs) : DGet H d (kV k) (valV kvs k) := let ⟨o, x⟩ := h; .inl ⟨kvs, k, .inr ⟨o, x⟩, rfl, rfl⟩
section
variable {K : PySem.W.Frag} {σ : L2.St} {H : Hp} {ta tb td ty tk tv : TE} {d : Addr} {kvs : List (Key × V)} {D : Ends} {tu tz : TS} {v : V} {k : Key}
theorem ev_dget (hd : Ev td σ H (.ref d)) (hy : Ev ty σ H (kV k)) (h : FD H d kvs) (hv : valV kvs k = some v) : Ev (tDGet td ty) σ H v := fun H1 e Q q =>
  hd H1 e _ fun H2 e2 => hy H2 (e.trans e2) _ fun H3 e3 => ⟨d, v, rfl, by
    have g := (h.ex ((e.trans e2).trans e3)).get (k := k)
    rw [hv] at g
    exact g, q H3 (e2.trans e3)⟩
theorem ev_din (hy : Ev ty σ H (kV k)) (hd : Ev td σ H (.ref d)) (h : FD H d kvs) : Ev (tDIn ty td) σ H (.bl (valV kvs k).isSome) := fun H1 e Q q =>
  hy H1 e _ fun H2 e2 => hd H2 (e.trans e2) _ fun H3 e3 => ⟨d, valV kvs k, rfl, (h.ex ((e.trans e2).trans e3)).get, q H3 (e2.trans e3)⟩
/-- for k in d, d read alone -/
theorem s_forK {j : Nat} (h : Ev td σ H (.ref d)) (hd : FD H d kvs) (Pv : Nat → L2.St → Hp → Prop) (h0 : ∀ H1, Ex H H1 → Pv 0 σ H1) (hl : ∀ i σ' H', Pv i σ' H' → Ex H H')
    (hs : ∀ i k v σ' H', kvs[i]? = some (k, v) → Pv i σ' H' → tu { D with nx := Pv (i + 1), ct := Pv (i + 1), bk := D.nx } (σ'.set j (some (kV k))) H') (hz : ∀ σ' H', Pv kvs.length σ' H' → D.nx σ' H') : tFor (iKeys td) (gName j) tu D σ H := by
  obtain ⟨o, hd⟩ := hd
  refine h H (Ex.refl H) _ fun H1 e => ⟨d, o, rfl, .inl ⟨kvs, e _ _ hd, fun i m σ' H' => m = kvs.length - i ∧ i ≤ kvs.length ∧ Pv i σ' H', ⟨kvs.length, by simp, Nat.zero_le _, h0 H1 e⟩, ?_⟩⟩
  rintro i m σ' H' ⟨rfl, hi, p⟩
  have fz := hl i σ' H' p _ _ hd
  by_cases hlt : i < kvs.length
  · refine .inr ⟨⟨fz, hlt⟩, Pv (i + 1), fun σ2 H2 p2 => ⟨kvs.length - (i + 1), by omega, rfl, hlt, p2⟩, fun x H2 y => ?_⟩
    obtain ⟨rfl, k, v, hk, rfl⟩ := y
    exact hs i k v σ' _ hk p
  · have ei : i = kvs.length := by omega
    subst ei
    exact .inl ⟨⟨fz, Nat.le_refl _⟩, hz _ _ p⟩
theorem q_forK {j : Nat} (h : Ev td σ H (.ref d)) (hd : FD H d kvs) (Pv : Nat → L2.St → Hp → Prop) (h0 : ∀ H1, Ex H H1 → Pv 0 σ H1) (hl : ∀ i σ' H', Pv i σ' H' → Ex H H')
    (hs : ∀ i k v σ' H', kvs[i]? = some (k, v) → Pv i σ' H' → tu { D with nx := Pv (i + 1), ct := Pv (i + 1), bk := tz D } (σ'.set j (some (kV k))) H') (hz : ∀ σ' H', Pv kvs.length σ' H' → tz D σ' H') : tSeq (tFor (iKeys td) (gName j) tu) tz D σ H :=
  s_forK (D := { D with nx := tz D }) h hd Pv h0 hl hs hz
/-- {k: f(k) for k in d} -/
def mapKV (f : Key → V) (kvs : List (Key × V)) : List (Key × V) := kvs.map fun p => (p.1, f p.1)
theorem mapKV_len (f : Key → V) (kvs : List (Key × V)) : (mapKV f kvs).length = kvs.length := List.length_map _
theorem mapKV_keys (f : Key → V) (kvs : List (Key × V)) : (mapKV f kvs).map (·.1) = kvs.map (·.1) := by
  unfold mapKV
  rw [List.map_map]
  rfl
theorem valV_none_of {kvs : List (Key × V)} {k : Key} (h : k ∉ kvs.map (·.1)) : valV kvs k = none := by
  induction kvs with
  | nil => rfl
  | cons p r ih =>
    rw [List.map_cons, List.mem_cons, not_or] at h
    rw [valV_neg (fun z => h.1 z.symm)]
    exact ih h.2
theorem valV_mapKV {f : Key → V} {kvs : List (Key × V)} {k : Key} (h : k ∈ kvs.map (·.1)) : valV (mapKV f kvs) k = some (f k) := by
  induction kvs with
  | nil => cases h
  | cons p r ih =>
    by_cases e : p.1 = k
    · exact (valV_pos (p := (p.1, f p.1)) e).trans (by rw [← e])
    · rw [List.map_cons, List.mem_cons] at h
      exact (valV_neg (p := (p.1, f p.1)) e).trans (ih (h.resolve_left fun z => e z.symm))
def EvDc (te : TE) (σ : L2.St) (H : Hp) (kvs : List (Key × V)) : Prop := ∀ H1, Ex H H1 → ∀ Q : VK, (∀ p H2, H1 p = none → Ex H1 H2 → H2 p = some (.dK kvs) → Q (.ref p) H2) → te σ H1 Q
theorem tYes_y {σ : L2.St} {K : Bool → Hp → Prop} (h : K true H) : tYes σ H K := h
theorem dc_keys {j : Nat} {vs : List Nat} {f : Key → V} (h : Ev td σ H (.ref d)) (hd : FD H d kvs) (hn : (kvs.map (·.1)).Nodup) (hz : kvs.length < 100000) (hw : ∀ x, wipe ((wipe σ vs).set j (some x)) vs = wipe σ vs)
    (hk : ∀ k H1, Ex H H1 → k ∈ kvs.map (·.1) → Ev tk ((wipe σ vs).set j (some (kV k))) H1 (kV k)) (hv : ∀ k H1, Ex H H1 → k ∈ kvs.map (·.1) → Ev tv ((wipe σ vs).set j (some (kV k))) H1 (f k)) :
    EvDc (tDc (iKeys td) (gName j) tYes tk tv vs) σ H (mapKV f kvs) := fun H0 e0 Q q => by
  obtain ⟨o, hd⟩ := hd
  refine h H0 e0 _ fun H1 e1 => ⟨d, o, rfl, .inl ⟨kvs, e1 _ _ (e0 _ _ hd), fun Dd hD => ?_⟩⟩
  have e01 := e0.trans e1
  refine ⟨fun i m H' => m = kvs.length - i ∧ i ≤ kvs.length ∧ Ex H1 H' ∧ H' Dd = some (.dK (mapKV f (kvs.take i))), ⟨kvs.length, by simp, Nat.zero_le _, Ex.new hD, upd_same⟩, ?_⟩
  rintro i m H' ⟨rfl, hi, e2, hDd⟩
  have fz := e2 _ _ (e1 _ _ (e0 _ _ hd))
  by_cases hlt : i < kvs.length
  · refine .inr ⟨⟨fz, hlt⟩, fun H2 => Ex H1 H2 ∧ H2 Dd = some (.dK (mapKV f (kvs.take (i + 1)))), fun H2 p2 => ⟨kvs.length - (i + 1), by omega, rfl, hlt, p2⟩, fun x H2 y => ?_⟩
    obtain ⟨rfl, k, v, hkv, rfl⟩ := y
    have hmem : k ∈ kvs.map (·.1) := List.mem_map.mpr ⟨_, List.mem_of_getElem? hkv, rfl⟩
    have et : kvs.take (i + 1) = kvs.take i ++ [(k, v)] := by rw [List.take_add_one, hkv]; rfl
    have hnew : k ∉ (kvs.take i).map (·.1) := fun z => by
      have hn2 : ((kvs.take (i + 1)).map (·.1)).Nodup := hn.sublist ((List.take_sublist _ _).map _)
      rw [et, List.map_append] at hn2
      exact (List.nodup_append.mp hn2).2.2 _ z _ (List.mem_singleton.mpr rfl) rfl
    refine ⟨hw _, ?_⟩
    refine tYes_y ?_
    refine hk k H1 e01 hmem _ e2 _ fun H3 e3 => hv k H1 e01 hmem _ (e2.trans e3) _ fun H4 e4 => ⟨mapKV f (kvs.take i), k, rfl, e4 _ _ (e3 _ _ hDd), ?_, Ex.mut ((e2.trans e3).trans e4) hD, ?_⟩
    · rw [mapKV_len, List.length_take]
      exact sz_lt (by omega)
    · rw [upd_same, et, putK_new _ (valV_none_of (by rw [mapKV_keys]; exact hnew))]
      unfold mapKV
      rw [List.map_append]
      rfl
  · have ei : i = kvs.length := by omega
    subst ei
    rw [List.take_length] at hDd
    exact .inl ⟨⟨fz, Nat.le_refl _⟩, q Dd _ (fresh_back e1 hD) (e1.trans e2) hDd⟩
end
end Sq

/-! blocks: the form of Lagrange over the sixteen symbols; promises of the block's defs -/
namespace Sq
open PySem PySem.Spec PyProof.Rows L2 Evl
/-! ### the form -/
abbrev Pts := List (Int × Int)
def ksV (ps : Pts) : List Int := ps.map (·.1)
def kvP (ps : Pts) : List (Key × V) := ps.map fun p => (Sum.inl p.1, V.int p.2)
/-- the product of the differences of a and the others -/
def dprod (a : Int) : List Int → Int → Int
  | [], r => r
  | k :: ks, r => dprod a ks (if k = a then r else gmul r (gadd a k))
def lsum (a : Int) : Pts → Int → Int
  | [], t => t
  | (k, w) :: r, t => lsum a r (gadd t (gdiv w (gadd a k)))
def wts (ps : Pts) : Pts := ps.map fun p => (p.1, gdiv p.2 (dprod p.1 (ksV ps) 1))
def lagr (ps : Pts) (a : Int) : Int := match ps.lookup a with
  | some v => v
  | none => gmul (lsum a (wts ps) 0) (dprod a (ksV ps) 1)
def PtsOk (ps : Pts) : Prop := (∀ p ∈ ps, Sym p.1 ∧ Sym p.2) ∧ (ksV ps).Nodup ∧ ps.length ≤ 16
theorem gadd_ne {a b : Int} (ha : Sym a) (hb : Sym b) (h : b ≠ a) : gadd a b ≠ 0 := sym2 (p := fun a b => b ≠ a → gadd a b ≠ 0) (by decide +kernel) ha hb h
theorem sym_1 : Sym 1 := by decide
theorem sym_0 : Sym 0 := by decide
theorem dprod_sym {a : Int} (ha : Sym a) : ∀ {ks : List Int} {r : Int}, (∀ k ∈ ks, Sym k) → Sym r → Sym (dprod a ks r)
  | [], _, _, hr => hr
  | k :: ks, r, h, hr => by
    have hk := h k List.mem_cons_self
    have hh : ∀ x ∈ ks, Sym x := fun x hx => h x (List.mem_cons_of_mem _ hx)
    show Sym (dprod a ks (if k = a then r else gmul r (gadd a k)))
    refine dprod_sym ha hh ?_
    split
    · exact hr
    · exact sym_mul hr (sym_add ha hk)
theorem dprod_ne {a : Int} (ha : Sym a) : ∀ {ks : List Int} {r : Int}, (∀ k ∈ ks, Sym k) → Sym r → r ≠ 0 → dprod a ks r ≠ 0
  | [], _, _, _, h0 => h0
  | k :: ks, r, h, hr, h0 => by
    have hk := h k List.mem_cons_self
    have hh : ∀ x ∈ ks, Sym x := fun x hx => h x (List.mem_cons_of_mem _ hx)
    show dprod a ks (if k = a then r else gmul r (gadd a k)) ≠ 0
    split
    · exact dprod_ne ha hh hr h0
    · rename_i e
      exact dprod_ne ha hh (sym_mul hr (sym_add ha hk)) (gmul_eq0 hr (sym_add ha hk) h0 (gadd_ne ha hk e))
theorem PtsOk.ks {ps : Pts} (h : PtsOk ps) : ∀ k ∈ ksV ps, Sym k := fun k hk => by
  obtain ⟨p, hp, rfl⟩ := List.mem_map.mp hk
  exact (h.1 p hp).1
theorem ksV_kvP (ps : Pts) : (kvP ps).map (·.1) = (ksV ps).map Sum.inl := by
  unfold kvP ksV
  rw [List.map_map, List.map_map]
  rfl
theorem nd_inl {ks : List Int} (h : ks.Nodup) : (ks.map (Sum.inl : Int → Key)).Nodup := by
  unfold List.Nodup at h ⊢
  rw [List.pairwise_map]
  exact h.imp fun hab z => hab (Sum.inl.inj z)
theorem PtsOk.nd {ps : Pts} (h : PtsOk ps) : ((kvP ps).map (·.1)).Nodup := by
  rw [ksV_kvP]
  exact nd_inl h.2.1
theorem kvP_len (ps : Pts) : (kvP ps).length = ps.length := List.length_map _
theorem kvP_get {ps : Pts} {i : Nat} {k : Key} {v : V} (h : (kvP ps)[i]? = some (k, v)) : ∃ p, ps[i]? = some p ∧ k = Sum.inl p.1 ∧ v = .int p.2 := by
  unfold kvP at h
  rw [List.getElem?_map] at h
  cases e : ps[i]? with
  | none => rw [e] at h; cases h
  | some p =>
    rw [e] at h
    cases h
    exact ⟨p, rfl, rfl, rfl⟩
theorem valV_kvP (ps : Pts) (a : Int) : valV (kvP ps) (Sum.inl a) = (ps.lookup a).map V.int := by
  induction ps with
  | nil => rfl
  | cons p r ih =>
    obtain ⟨k, v⟩ := p
    by_cases e : k = a
    · subst e
      have z : valV (kvP ((k, v) :: r)) (Sum.inl k) = some (.int v) := valV_pos (p := (Sum.inl k, V.int v)) rfl
      rw [z, List.lookup_cons, beq_self_eq_true]
      rfl
    · have z : valV (kvP ((k, v) :: r)) (Sum.inl a) = valV (kvP r) (Sum.inl a) := valV_neg (p := (Sum.inl k, V.int v)) (fun z => e (Sum.inl.inj z))
      have b : (a == k) = false := beq_eq_false_iff_ne.mpr fun z => e z.symm
      rw [z, ih, List.lookup_cons, b]
theorem lookup_of {ps : Pts} {i : Nat} {p : Int × Int} (hn : (ksV ps).Nodup) (h : ps[i]? = some p) : ps.lookup p.1 = some p.2 := by
  induction ps generalizing i with
  | nil => cases h
  | cons q r ih =>
    obtain ⟨k, v⟩ := q
    have hn' : k ∉ ksV r ∧ (ksV r).Nodup := List.nodup_cons.mp hn
    cases i with
    | zero =>
      cases h
      rw [List.lookup_cons, beq_self_eq_true]
    | succ i =>
      have h' : r[i]? = some p := h
      have b : (p.1 == k) = false := beq_eq_false_iff_ne.mpr fun z => hn'.1 (List.mem_map.mpr ⟨p, List.mem_of_getElem? h', z⟩)
      rw [List.lookup_cons, b]
      exact ih hn'.2 h'
theorem lookup_mem {ps : Pts} {a v : Int} (h : ps.lookup a = some v) : (a, v) ∈ ps := by
  induction ps with
  | nil => cases h
  | cons q r ih =>
    obtain ⟨k, u⟩ := q
    rw [List.lookup_cons] at h
    by_cases e : a = k
    · subst e
      rw [beq_self_eq_true] at h
      cases h
      exact List.mem_cons_self
    · rw [beq_eq_false_iff_ne.mpr e] at h
      exact List.mem_cons_of_mem _ (ih h)
theorem wts_ks (ps : Pts) : ksV (wts ps) = ksV ps := by
  unfold ksV wts
  rw [List.map_map]
  rfl
def wtF (ps : Pts) : Key → V
  | .inl a => (match ps.lookup a with
    | some v => .int (gdiv v (dprod a (ksV ps) 1))
    | none => .non)
  | .inr _ => .non
theorem wtF_of {ps : Pts} {a v : Int} (h : ps.lookup a = some v) : wtF ps (.inl a) = .int (gdiv v (dprod a (ksV ps) 1)) := by
  unfold wtF
  simp only [h]
theorem kvP_wts (ps : Pts) (hn : (ksV ps).Nodup) : kvP (wts ps) = mapKV (wtF ps) (kvP ps) := by
  unfold kvP wts mapKV
  rw [List.map_map, List.map_map]
  refine List.map_congr_left fun p hp => ?_
  obtain ⟨i, hi⟩ := List.mem_iff_getElem?.mp hp
  have e := lookup_of hn hi
  show (_, _) = (_, _)
  rw [wtF_of e]
theorem wts_ok {ps : Pts} (h : PtsOk ps) : PtsOk (wts ps) := by
  refine ⟨fun p hp => ?_, by rw [wts_ks]; exact h.2.1, by unfold wts; rw [List.length_map]; exact h.2.2⟩
  obtain ⟨q, hq, rfl⟩ := List.mem_map.mp hp
  have hs := h.1 q hq
  exact ⟨hs.1, sym_div hs.2 (dprod_sym hs.1 h.ks sym_1)⟩
theorem lsum_sym {a : Int} (ha : Sym a) : ∀ {ps : Pts} {t : Int}, (∀ p ∈ ps, Sym p.1 ∧ Sym p.2) → Sym t → Sym (lsum a ps t)
  | [], _, _, ht => ht
  | (k, w) :: r, t, h, ht => by
    have hp := h (k, w) List.mem_cons_self
    have hh : ∀ p ∈ r, Sym p.1 ∧ Sym p.2 := fun x hx => h x (List.mem_cons_of_mem _ hx)
    exact lsum_sym (ps := r) ha hh (sym_add ht (sym_div hp.2 (sym_add ha hp.1)))
theorem lagr_sym {ps : Pts} {a : Int} (h : PtsOk ps) (ha : Sym a) : Sym (lagr ps a) := by
  unfold lagr
  split
  · rename_i v e
    exact (h.1 _ (lookup_mem e)).2
  · exact sym_mul (lsum_sym ha (wts_ok h).1 sym_0) (dprod_sym ha h.ks sym_1)
/-- step by step -/
theorem dprod_take {a : Int} : ∀ {ks : List Int} {i : Nat} {k r : Int}, ks[i]? = some k → dprod a (ks.take (i + 1)) r = (if k = a then dprod a (ks.take i) r else gmul (dprod a (ks.take i) r) (gadd a k))
  | [], _, _, _, h => by cases h
  | x :: ks, 0, k, r, h => by
    cases h
    rfl
  | x :: ks, i + 1, k, r, h => by
    have h' : ks[i]? = some k := h
    exact dprod_take (ks := ks) h'
theorem lsum_take {a : Int} : ∀ {ps : Pts} {i : Nat} {k w t : Int}, ps[i]? = some (k, w) → lsum a (ps.take (i + 1)) t = gadd (lsum a (ps.take i) t) (gdiv w (gadd a k))
  | [], _, _, _, _, h => by cases h
  | (x, y) :: ps, 0, k, w, t, h => by
    cases h
    rfl
  | (x, y) :: ps, i + 1, k, w, t, h => by
    have h' : ps[i]? = some (k, w) := h
    exact lsum_take (ps := ps) h'
/-! ### promises -/
def spDist : Sp := fun vs H Q _ => ∃ (a : Int) (d : Addr) (ps : Pts), vs = [.int a, .ref d] ∧ Sym a ∧ PtsOk ps ∧ FD H d (kvP ps) ∧ RetV (.int (dprod a (ksV ps) 1)) H Q
def spValue : Sp := fun vs H Q _ => ∃ (a : Int) (d e : Addr) (ps : Pts), vs = [.int a, .ref d, .ref e] ∧ Sym a ∧ PtsOk ps ∧ FD H d (kvP ps) ∧ FD H e (kvP (wts ps)) ∧ RetV (.int (lagr ps a)) H Q
def lagrs (ps : Pts) (n : Nat) : List Int := (List.range n).map fun (i : Nat) => lagr ps (i : Int)
def spValues : Sp := fun vs H Q _ => ∃ (d : Addr) (n : Nat) (ps : Pts), vs = [.ref d, .int n] ∧ n ≤ 16 ∧ PtsOk ps ∧ FD H d (kvP ps) ∧ RetL ((lagrs ps n).map V.int) H Q
theorem spv_dist {a : Int} {d : Addr} {ps : Pts} {H : Hp} (ha : Sym a) (ok : PtsOk ps) (h : FD H d (kvP ps)) : SpV spDist [.int a, .ref d] H (.int (dprod a (ksV ps) 1)) := fun H1 e _ q _ => ⟨a, d, ps, rfl, ha, ok, h.ex e, q⟩
theorem spv_value {a : Int} {d e : Addr} {ps : Pts} {H : Hp} (ha : Sym a) (ok : PtsOk ps) (h : FD H d (kvP ps)) (h2 : FD H e (kvP (wts ps))) : SpV spValue [.int a, .ref d, .ref e] H (.int (lagr ps a)) := fun H1 e _ q _ => ⟨a, d, _, ps, rfl, ha, ok, h.ex e, h2.ex e, q⟩
theorem spl_values {d : Addr} {n : Nat} {ps : Pts} {H : Hp} (hn : n ≤ 16) (ok : PtsOk ps) (h : FD H d (kvP ps)) : SpL spValues [.ref d, .int n] H ((lagrs ps n).map V.int) := fun H1 e _ q _ => ⟨d, n, ps, rfl, hn, ok, h.ex e, q⟩
/-- a new tuple -/
def RetU (xs : List V) (H : Hp) (Q : VK) : Prop := ∀ p H2, H p = none → Ex H H2 → H2 p = some (.tup xs) → Q (.ref p) H2
def SpU (sp : Sp) (vs : List V) (H : Hp) (xs : List V) : Prop := ∀ H1, Ex H H1 → ∀ Q : VK, RetU xs H1 Q → ∀ E : XK, sp vs H1 Q E
section
variable {K : PySem.W.Frag} {σ : L2.St} {H H' : Hp} {ta te : TE} {t : TA} {x : V}
theorem RetU.go {xs : List V} {Q : VK} (k : RetU xs H Q) (e : Ex H H') {p : Addr} {H2 : Hp} (hp : H' p = none) (e2 : Ex H' H2) (h : H2 p = some (.tup xs)) : Q (.ref p) H2 := k p H2 (fresh_back e hp) (e.trans e2) h
theorem eu_callD {sp : Sp} {vs xs : List V} {ta : TA} (h : EvA ta σ H vs) (hs : SpU sp vs H xs) : EvU (tCall sp [] E0 ta) σ H xs := fun H1 e Q q =>
  h H1 e _ fun H2 e2 => by
    show sp (vs ++ []) H2 Q E0
    rw [List.append_nil]
    exact hs H2 (e.trans e2) Q (fun p H3 hp e3 h3 => q p H3 (fresh_back e2 hp) (e2.trans e3) h3) E0
theorem el_callD {sp : Sp} {vs xs : List V} {ta : TA} (h : EvA ta σ H vs) (hs : SpL sp vs H xs) : EvL (tCall sp [] E0 ta) σ H xs := el_call h (by rw [List.append_nil]; exact hs)
/-- tuple(..) of a new list | of a tuple -/
abbrev rTupOf (K : PySem.W.Frag) : List V → Hp → VK → Prop := fun xs H Q => ∃ p ys, xs = [.ref p] ∧ ((SqL K H p ys ∧ ∀ l, H l = none → Q (.ref l) (upd H l (.tup ys))) ∨ (SqT K H p ys ∧ Q (.ref p) H))
theorem eu_tupL {xs : List V} (h : EvL te σ H xs) : EvU (tCB (rTupOf K) (tCons te tNil)) σ H xs := fun H1 e Q q =>
  h H1 e _ fun p H2 hp e2 h2 => ⟨p, xs, rfl, .inl ⟨sq_of h2, fun l hl => q l _ (fresh_back e2 hl) (Ex.mut e2 (fresh_back e2 hl)) upd_same⟩⟩
theorem ev_tupT {p : Addr} {xs : List V} (h : Ev te σ H (.ref p)) (hx : SqT K H p xs) : Ev (tCB (rTupOf K) (tCons te tNil)) σ H (.ref p) := fun H1 e Q q =>
  h H1 e _ fun H2 e2 => ⟨p, xs, rfl, .inr ⟨ex_t (e.trans e2) hx, q H2 e2⟩⟩
theorem ev_lenT {p : Addr} {xs : List V} (ha : Ev te σ H (.ref p)) (h : SqT K H p xs) : Ev (tCB (rLenS K) (tCons te tNil)) σ H (.int (xs.length : Int)) := fun H1 e Q q =>
  ha H1 e _ fun H2 e2 => ⟨p, xs, rfl, .inr (ex_t (e.trans e2) h), q H2 e2⟩
end
end Sq

/-! the checks of a block's arguments; the promise of encoding -/
namespace Sq
open PySem PySem.Spec PyProof.Rows L2 Evl
def goodNum (y : V) (b : Bool) : Prop := flatK y = true ∧ b = isNum y
def goodSym (y : V) (b : Bool) : Prop := flatK y = true ∧ b = isSym y
def goodEnt (y : V) (b : Bool) : Prop := flatK y = true ∧ b = (decide (y = .non) || isSym y)
abbrev GT : Heap → Prop := fun _ => True
theorem gstT : GStb GT := fun _ _ _ h => h
structure RawFn1 (P : Program) (w : World) (K : PySem.W.Frag) (mg : Str → Option Value) (base : Heap) (x : Str) (N : Nat) (good : V → Bool → Prop) : Prop where
  ex : ∃ f, mg x = some (.ref f) ∧ PySem.W.keepIn K (.ref f) = true ∧ ∀ (D U : Nat) (y : V) (u : Value) (b : Bool), D + N < recursionLimit → good y b → RelV y u → RawF P w K mg base D U f [u] (fun v => v = .bool b)
section
variable {P : Program} {w : World} {K : PySem.W.Frag} {mg : Str → Option Value} {base : Heap} {D U : Nat} {env : Env} {m : Str → Option Value} {x : Str} {y : V} {u : Value} {p1 p2 p3 p4 p5 p6 p7 p8 p9 p10 : Pos}
theorem raw_isiB {T : String} {c : Str} {cs : String} {r : Bool} {Z : Heap → Prop} (F : FnEnv env) (hx : env.kindOf "isinstance" = some .globalImplicit) (hc : env.kindOf c = some .globalImplicit) (hl : env.kindOf x = some .local) (n1 : mg "isinstance" = none) (n2 : mg c = none) (hm : m x = some u)
    (hb : bootBuiltins c = some (.type cs)) (hn : c ≠ "__name__") (hd : (c == ("__debug__" : Str)) = false) (hdx : (x == ("__debug__" : Str)) = false) (kit : PySem.W.KitX K u (.type T) Z) (hz : ∀ h, Z h) (ho : u ≠ .builtin "__main__.__loader__#opaque") (k : kitB T cs = some r) :
    RawE P w K mg base D U env m GT (.Call (.Name "isinstance" p1) [.Name x p2, .Name c p3] [] p4) (fun v => v = .bool r) :=
  raw_isi (p2 := p1) F hx n1 gstT (raw_loc F hl hm hdx) (raw_blt F hc n2 hb hn hd) kit (fun h _ => hz h) ho k (by rfl) (by rfl) (by rfl)
theorem raw_num (F : FnEnv env) (hx : env.kindOf "isinstance" = some .globalImplicit) (hi : env.kindOf "int" = some .globalImplicit) (hb : env.kindOf "bool" = some .globalImplicit) (hl : env.kindOf x = some .local) (n1 : mg "isinstance" = none) (n2 : mg "int" = none) (n3 : mg "bool" = none) (hm : m x = some u)
    (hdx : (x == ("__debug__" : Str)) = false) (fl : flatK y = true) (r : RelV y u) :
    RawE P w K mg base D U env m GT (.BoolOp .And [.Call (.Name "isinstance" p1) [.Name x p2, .Name "int" p3] [] p4, .UnaryOp .Not (.Call (.Name "isinstance" p5) [.Name x p6, .Name "bool" p7] [] p8) p9] p10) (fun v => v = .bool (isNum y)) := by
  have B1 : bootBuiltins "int" = some (.type "int") := by decide +kernel
  have B2 : bootBuiltins "bool" = some (.type "bool") := by decide +kernel
  cases y with
  | non =>
    cases (show u = Value.none from r)
    exact raw_and (ka := false) (kb := false) gstT (raw_isiB F hx hi hl n1 n2 hm B1 (by decide) (by decide) hdx PySem.W.kitx_none (fun _ => True.intro) (fun z => nomatch z) (by decide +kernel)) (fun z => nomatch z)
  | bl b =>
    cases (show u = Value.bool b from r)
    exact raw_and (ka := true) (kb := false) gstT (raw_isiB F hx hi hl n1 n2 hm B1 (by decide) (by decide) hdx PySem.W.kitx_bool (fun _ => True.intro) (fun z => nomatch z) (by decide +kernel)) (fun _ => raw_not (ka := true) (raw_isiB F hx hb hl n1 n3 hm B2 (by decide) (by decide) hdx PySem.W.kitx_bool (fun _ => True.intro) (fun z => nomatch z) (by decide +kernel)))
  | int i =>
    obtain ⟨t, q⟩ := (show ∃ t, u = Value.int i t from r)
    cases q
    exact raw_and (ka := true) (kb := true) gstT (raw_isiB F hx hi hl n1 n2 hm B1 (by decide) (by decide) hdx PySem.W.kitx_int (fun _ => True.intro) (fun z => nomatch z) (by decide +kernel)) (fun _ => raw_not (ka := false) (raw_isiB F hx hb hl n1 n3 hm B2 (by decide) (by decide) hdx PySem.W.kitx_int (fun _ => True.intro) (fun z => nomatch z) (by decide +kernel)))
  | str s =>
    obtain ⟨t, q⟩ := (show ∃ t, u = Value.str s t from r)
    cases q
    exact raw_and (ka := false) (kb := false) gstT (raw_isiB F hx hi hl n1 n2 hm B1 (by decide) (by decide) hdx PySem.W.kitx_str (fun _ => True.intro) (fun z => nomatch z) (by decide +kernel)) (fun z => nomatch z)
  | _ => cases fl
theorem raw_callF {N : Nat} {good : V → Bool → Prop} {b : Bool} {f : Str} (R : RawFn1 P w K mg base f N good) (hN : D + N < recursionLimit) (hg : good y b) (r : RelV y u) (F : FnEnv env) (hx : env.kindOf f = some .globalImplicit) (hl : env.kindOf x = some .local) (hm : m x = some u) (hd : (f == ("__debug__" : Str)) = false) (hdx : (x == ("__debug__" : Str)) = false) :
    RawE P w K mg base D U env m GT (.Call (.Name f p1) [.Name x p2] [] p3) (fun v => v = .bool b) := by
  obtain ⟨fa, g, kp, h⟩ := R.ex
  exact raw_call1 F hx g kp gstT (raw_loc F hl hm hdx) (h D U y u b hN hg r) hd (by rfl) (by rfl)
theorem raw_sym {N : Nat} (R : RawFn1 P w K mg base "is_number" N goodNum) (hN : D + N < recursionLimit) (F : FnEnv env) (hx : env.kindOf "is_number" = some .globalImplicit) (hl : env.kindOf x = some .local) (hm : m x = some u) (hdx : (x == ("__debug__" : Str)) = false) (fl : flatK y = true) (r : RelV y u) {j1 j2} :
    RawE P w K mg base D U env m GT (.BoolOp .And [.Call (.Name "is_number" p1) [.Name x p2] [] p3, .Compare (.Constant (.int 0) j1 p4) [.LtE, .LtE] [.Name x p5, .Constant (.int 15) j2 p6] p7] p8) (fun v => v = .bool (isSym y)) := by
  have c1 := raw_callF (p1 := p1) (p2 := p2) (p3 := p3) (U := U) R hN (b := isNum y) ⟨fl, rfl⟩ r F hx hl hm (by decide) hdx
  cases y with
  | int i =>
    obtain ⟨t, q⟩ := (show ∃ t, u = Value.int i t from r)
    subst q
    exact raw_and (ka := true) (kb := decide (0 ≤ i) && decide (i ≤ 15)) gstT c1 (fun _ => raw_chain gstT raw_int (raw_imp (raw_loc F hl hm hdx) fun v hv => ⟨t, hv⟩) raw_int (by with_unfolding_all rfl))
  | non => exact raw_and (ka := false) (kb := false) gstT c1 (fun z => nomatch z)
  | bl b => exact raw_and (ka := false) (kb := false) gstT c1 (fun z => nomatch z)
  | str s => exact raw_and (ka := false) (kb := false) gstT c1 (fun z => nomatch z)
  | _ => cases fl
/-- a def of one parameter whose body is one return -/
theorem rawFn_of {qual : Str} {st : Stmt} {f : Addr} {fd : FuncData} {e : Expr} {pos : Pos} {a : Str} {N : Nat} {good : V → Bool → Prop} (F : Fun K x qual st f fd) (g : mg x = some (.ref f)) (hb : defBody st = [.Return (some e) pos])
    (hbind : ∀ (kV doc pm : Value) (an : Option Addr) (cdv ct : Value) (s : Shared) (u : Value), BindsTo s (PySem.W.fnOf x qual (defArgs st) (defBody st) (defScope st) .none kV doc pm an cdv ct) ⟨[u], []⟩ ([a].zip [u]))
    (hkind : ∀ u : Value, (([a].zip [u]).all fun y => (defScope st).names.lookup y.1 == some .local || (defScope st).names.lookup y.1 == some .cell) = true)
    (hco : (defScope st).isCoroutine = false) (hgen : (defScope st).isGenerator = false) (hk : (defScope st).kind = .function)
    (h : ∀ (D U : Nat) (L : Addr) (cdv : Value) (y : V) (u : Value) (b : Bool), D + N < recursionLimit → good y b → RelV y u → RawE P w K mg base D U (envOfC qual (defScope st) L f cdv) (bindL (envOfC qual (defScope st) L f cdv).kindOf ([a].zip [u]) fun _ => none) GT e (fun v => v = .bool b)) :
    RawFn1 P w K mg base x (N + 1) good :=
  ⟨f, g, F.kp, fun D U y u b hN hg r A s rs h0 h1 h2 => raw_def (us := [u]) (ps := [a]) F hb (fun kV doc pm an cdv ct s => hbind kV doc pm an cdv ct s u) (hkind u) hco hgen hk (by omega) (fun L cdv => h (D + 1) (U + 3) L cdv y u b (by omega) hg r) (fun _ _ _ _ => True.intro) A s rs h0 h1 h2 True.intro⟩
end
/-! ### encoding -/
def enumP : Nat → List Int → Pts
  | _, [] => []
  | j, x :: r => ((j : Int), x) :: enumP (j + 1) r
theorem enumP_kv : ∀ (j : Nat) (ds : List Int), enumK j (ds.map V.int) = kvP (enumP j ds)
  | _, [] => rfl
  | j, x :: r => by
    show (Sum.inl (j : Int), V.int x) :: enumK (j + 1) (r.map V.int) = (Sum.inl (j : Int), V.int x) :: kvP (enumP (j + 1) r)
    rw [enumP_kv (j + 1) r]
theorem enumP_len : ∀ (j : Nat) (ds : List Int), (enumP j ds).length = ds.length
  | _, [] => rfl
  | j, x :: r => congrArg (· + 1) (enumP_len (j + 1) r)
theorem enumP_mem : ∀ (j : Nat) {ds : List Int} {p : Int × Int}, p ∈ enumP j ds → (j : Int) ≤ p.1 ∧ p.1 < j + ds.length ∧ p.2 ∈ ds
  | _, [], _, h => by cases h
  | j, x :: r, p, h => by
    rw [List.length_cons]
    rcases List.mem_cons.mp h with rfl | h
    · exact ⟨Int.le_refl _, by show (j : Int) < _; omega, List.mem_cons_self⟩
    · have z := enumP_mem (j + 1) h
      exact ⟨by omega, by omega, List.mem_cons_of_mem _ z.2.2⟩
theorem enumP_nd : ∀ (j : Nat) (ds : List Int), (ksV (enumP j ds)).Nodup
  | _, [] => List.nodup_nil
  | j, x :: r => by
    show ((j : Int) :: ksV (enumP (j + 1) r)).Nodup
    refine List.nodup_cons.mpr ⟨fun z => ?_, enumP_nd (j + 1) r⟩
    obtain ⟨p, hp, e⟩ := List.mem_map.mp z
    have := (enumP_mem (j + 1) hp).1
    omega
theorem enumP_ok {ds : List Int} (h : ∀ x ∈ ds, Sym x) (hl : ds.length ≤ 16) : PtsOk (enumP 0 ds) :=
  ⟨fun p hp => by
    have z := enumP_mem 0 hp
    exact ⟨⟨by omega, by omega⟩, h _ z.2.2⟩, enumP_nd 0 ds, by rw [enumP_len]; exact hl⟩
/-- the block of data ds, n symbols long -/
def blockOf (ds : List Int) (n : Nat) : List Int := lagrs (enumP 0 ds) n
def DataOk (ds : List Int) (c : Int) : Prop := (∀ x ∈ ds, Sym x) ∧ ds ≠ [] ∧ 0 ≤ c ∧ (ds.length : Int) + c ≤ 16
def spReqData (K : PySem.W.Frag) (Pt : Addr) : Sp := fun vs H Q _ => ∃ (t : Addr) (ds : List Int) (c : Int), vs = [.ref t, .int c] ∧ SqT K H t (ds.map V.int) ∧ H Pt = some (TabF Pt) ∧ DataOk ds c ∧ RetV .non H Q
def spEncode (K : PySem.W.Frag) (Pt : Addr) : Sp := fun vs H Q _ => ∃ (t : Addr) (ds : List Int) (c : Int), vs = [.ref t, .int c] ∧ SqT K H t (ds.map V.int) ∧ H Pt = some (TabF Pt) ∧ DataOk ds c ∧ RetU ((blockOf ds (ds.length + c.toNat)).map V.int) H Q
section
variable {K : PySem.W.Frag} {Pt : Addr} {σ : L2.St} {H : Hp} {te : TE} {v : V} {b : Bool}
theorem spv_reqData {t : Addr} {ds : List Int} {c : Int} (ht : SqT K H t (ds.map V.int)) (hP : H Pt = some (TabF Pt)) (ok : DataOk ds c) : SpV (spReqData K Pt) [.ref t, .int c] H .non := fun H1 e _ q _ => ⟨t, ds, c, rfl, ex_t e ht, e _ _ hP, ok, q⟩
theorem spu_encode {t : Addr} {ds : List Int} {c : Int} (ht : SqT K H t (ds.map V.int)) (hP : H Pt = some (TabF Pt)) (ok : DataOk ds c) : SpU (spEncode K Pt) [.ref t, .int c] H ((blockOf ds (ds.length + c.toNat)).map V.int) := fun H1 e _ q _ => ⟨t, ds, c, rfl, ex_t e ht, e _ _ hP, ok, q⟩
theorem et_tru (h : Ev te σ H v) (hv : ∀ H1, Ex H H1 → TruV K v H1 b) : EvT (fun σ H Q => te σ H fun x H' => ∃ k, TruV K x H' k ∧ Q k H') σ H b := fun H1 e Q q => h H1 e _ fun H2 e2 => ⟨b, hv H2 (e.trans e2), q H2 e2⟩
theorem tru_t {a : Addr} {xs : List V} (h : SqT K H a xs) : ∀ H1, Ex H H1 → TruV K (.ref a) H1 (!xs.isEmpty) := fun H1 e => .inr (.inl ⟨xs, ex_t e h, rfl⟩)
theorem tru_i {i : Int} : ∀ H1, Ex H H1 → TruV K (.int i) H1 (i != 0) := fun _ _ => rfl
/-- all(..) over a tuple -/
theorem ev_allT {good : V → Bool → Prop} {a : Addr} {xs : List V} (pb : V → Bool) (h : Ev te σ H (.ref a)) (hx : SqT K H a xs) (hP : H Pt = some (TabF Pt)) (hg : ∀ y ∈ xs, good y (pb y)) : Ev (tAllT K Pt good te) σ H (.bl (xs.all pb)) := fun H1 e Q q =>
  h H1 e _ fun H2 e2 => ⟨a, xs, pb, rfl, ex_t (e.trans e2) hx, (e.trans e2) _ _ hP, hg, q H2 e2⟩
end
end Sq
namespace Sq
open PySem PySem.Spec PyProof.Rows L2 Evl
theorem room3 {k : Nat} {A : Around} (r : Room k A) : A.depth + 1 + 2 < recursionLimit := by
  have := r.dp
  omega
theorem eltG_call {X : Cx} {scope : Scope} {good : V → Bool → Prop} {f x : Str} {p1 p2 p3 : Pos} (R : RawFn1 X.prog X.w X.K X.mg X.base f 2 good) (hD : X.A.depth + 1 + 2 < recursionLimit) (hk : scope.kind = .function) (hf : scope.names.lookup f = some .globalImplicit) (hx : scope.names.lookup x = some .local) (hd : (f == ("__debug__" : Str)) = false) (hdx : (x == ("__debug__" : Str)) = false) :
    EltG X scope x (.Call (.Name f p1) [.Name x p2] [] p3) good := fun y u b hg r cenv m hs hgl hbl hm => by
  subst hs
  exact raw_callF R hD hg r ⟨hk, hgl, hbl⟩ hf hx hm hd hdx
end Sq

/-! values that are only bounded: draws; tuples made on the way; tuples of numbers compared -/
namespace Sq
open PySem PySem.Spec PyProof.Rows L2 Evl
/-- te gives some value with p, and keeps what stands -/
def EvP (te : TE) (σ : L2.St) (H : Hp) (p : V → Prop) : Prop := ∀ H1, Ex H H1 → ∀ Q : VK, (∀ v H2, Ex H1 H2 → p v → Q v H2) → te σ H1 Q
/-- a new list | a new tuple, with P -/
def EvLP (te : TE) (σ : L2.St) (H : Hp) (P : List V → Prop) : Prop := ∀ H1, Ex H H1 → ∀ Q : VK, (∀ xs p H2, P xs → H1 p = none → Ex H1 H2 → H2 p = some (.lst xs) → Q (.ref p) H2) → te σ H1 Q
def EvUP (te : TE) (σ : L2.St) (H : Hp) (P : List V → Prop) : Prop := ∀ H1, Ex H H1 → ∀ Q : VK, (∀ xs p H2, P xs → H1 p = none → Ex H1 H2 → H2 p = some (.tup xs) → Q (.ref p) H2) → te σ H1 Q
/-- a tuple, new or old -/
def EvS (K : PySem.W.Frag) (te : TE) (σ : L2.St) (H : Hp) (xs : List V) : Prop := ∀ H1, Ex H H1 → ∀ Q : VK, (∀ p H2, Ex H1 H2 → SqT K H2 p xs → Q (.ref p) H2) → te σ H1 Q
def intB (m : Int) (v : V) : Prop := ∃ z, v = .int z ∧ 0 ≤ z ∧ z < m
section
variable {K : PySem.W.Frag} {σ : L2.St} {H H' : Hp} {ta tb te tl : TE} {t : TT} {x y z v : V} {r : R2} {p p1 p2 : V → Prop} {D : Ends} {tu tz : TS} {g : TG}
theorem evp_of (h : Ev te σ H v) (hp : p v) : EvP te σ H p := fun H1 e Q q => h H1 e _ fun H2 e2 => q v H2 e2 hp
theorem evp_imp (h : EvP te σ H p1) (i : ∀ v, p1 v → p v) : EvP te σ H p := fun H1 e Q q => h H1 e _ fun v H2 e2 hp => q v H2 e2 (i v hp)
theorem evp_taken {rr : Addr} {M : Int} (hr : Ev ta σ H (.ref rr)) (hm : EvP tb σ H fun v => ∃ m, v = .int m ∧ 0 < m ∧ m ≤ M) (hM : M < 1073741824) (hrow : RowAt K H rr) : EvP (tCall (spTaken K) [] E0 (tCons ta (tCons tb tNil))) σ H (intB M) := fun H1 e Q q =>
  hr H1 e _ fun H2 e2 => hm H2 (e.trans e2) _ fun v H3 e3 hv => by
    obtain ⟨m, rfl, h0, h1⟩ := hv
    exact ⟨rr, m, rfl, h0, by omega, hrow.ex ((e.trans e2).trans e3), fun z z0 z1 H4 e4 => q _ H4 ((e2.trans e3).trans e4) ⟨z, rfl, z0, by omega⟩⟩
theorem evp_takenC {rr : Addr} {m : Int} (hr : Ev ta σ H (.ref rr)) (hm : Ev tb σ H (.int m)) (h0 : 0 < m ∧ m < 1073741824) (hrow : RowAt K H rr) : EvP (tCall (spTaken K) [] E0 (tCons ta (tCons tb tNil))) σ H (intB m) :=
  evp_taken hr (evp_of hm ⟨m, rfl, h0.1, Int.le_refl m⟩) h0.2 hrow
theorem evp_op1 (ha : Ev ta σ H x) (hb : EvP tb σ H p2) (hr : ∀ y, p2 y → ∀ H1, Ex H H1 → ∃ z, RV r x y H1 z ∧ p z) : EvP (tOp r ta tb) σ H p := fun H1 e Q q =>
  ha H1 e _ fun H2 e2 => hb H2 (e.trans e2) _ fun y H3 e3 hy => by
    obtain ⟨z, hz, pz⟩ := hr y hy H3 ((e.trans e2).trans e3)
    exact hz H3 (Ex.refl H3) Q fun H4 e4 => q z H4 ((e2.trans e3).trans e4) pz
theorem evp_opL {xs : List V} (ha : EvL ta σ H xs) (hb : EvP tb σ H p2) (hr : ∀ a y, p2 y → ∀ H1, H1 a = some (.lst xs) → ∃ z, RV r (.ref a) y H1 z ∧ p z) : EvP (tOp r ta tb) σ H p := fun H1 e Q q =>
  ha H1 e _ fun a H2 _ e2 h2 => hb H2 (e.trans e2) _ fun y H3 e3 hy => by
    obtain ⟨z, hz, pz⟩ := hr a y hy H3 (e3 _ _ h2)
    exact hz H3 (Ex.refl H3) Q fun H4 e4 => q z H4 ((e2.trans e3).trans e4) pz
theorem evp_cb2 {rc : List V → Hp → VK → Prop} (ha : EvP ta σ H p1) (hb : Ev tb σ H y) (hr : ∀ x, p1 x → ∀ H1, Ex H H1 → ∃ z, RC rc [x, y] H1 z ∧ p z) : EvP (tCB rc (tCons ta (tCons tb tNil))) σ H p := fun H1 e Q q =>
  ha H1 e _ fun x H2 e2 hx => hb H2 (e.trans e2) _ fun H3 e3 => by
    obtain ⟨z, hz, pz⟩ := hr x hx H3 ((e.trans e2).trans e3)
    exact hz H3 (Ex.refl H3) Q fun H4 e4 => q z H4 ((e2.trans e3).trans e4) pz
theorem q_asgP {i : Nat} (h : EvP te σ H p) (k : ∀ v H1, p v → Ex H H1 → tz D (σ.set i (some v)) H1) : tSeq (tAsg te (gName i)) tz D σ H := h H (Ex.refl H) _ fun v H1 e hp => k v H1 hp e
theorem q_asgUP {i : Nat} {P : List V → Prop} (h : EvUP te σ H P) (k : ∀ xs a H1, P xs → H a = none → Ex H H1 → H1 a = some (.tup xs) → tz D (σ.set i (some (.ref a))) H1) : tSeq (tAsg te (gName i)) tz D σ H := h H (Ex.refl H) _ fun xs a H1 hP ha e h1 => k xs a H1 hP ha e h1
theorem q_asgS {i : Nat} {xs : List V} (h : EvS K te σ H xs) (k : ∀ a H1, Ex H H1 → SqT K H1 a xs → tz D (σ.set i (some (.ref a))) H1) : tSeq (tAsg te (gName i)) tz D σ H := h H (Ex.refl H) _ k
/-- [draw for i in range(n)] -/
theorem lp_range {ta : TA} {j : Nat} {vs : List Nat} {n : Int} (h : EvA ta σ H [.int n]) (hn : 0 ≤ n ∧ n ≤ 40000) (hw : ∀ x, wipe ((wipe σ vs).set j (some x)) vs = wipe σ vs)
    (he : ∀ (i : Nat) H1, Ex H H1 → (i : Int) < n → EvP te ((wipe σ vs).set j (some (.int (i : Int)))) H1 p) : EvLP (tLc (iRng1 ta) (gName j) tYes te vs) σ H (fun xs => xs.length = n.toNat ∧ ∀ x ∈ xs, p x) := fun H0 e Q q => h H0 e _ fun H1 e1 => ⟨n, rfl, by omega, by omega, fun Dl hD =>
  lc_range (lo := 0) (n := n.toNat) (fun i H' => Ex H1 H' ∧ ∃ xs, H' Dl = some (.lst xs) ∧ xs.length = i ∧ ∀ x ∈ xs, p x) ⟨Ex.new hD, [], upd_same, rfl, fun x hx => nomatch hx⟩ (fun i H' hi ⟨e2, xs, hx, hl, hp⟩ => by
    have e0 : (0 : Int) + (i : Int) = (i : Int) := Int.zero_add _
    refine ⟨hw _, tYes_y ?_⟩
    rw [e0]
    refine he i H' ((e.trans e1).trans e2) (by omega) H' (Ex.refl H') _ fun v H3 e3 hv => ⟨xs, e3 _ _ hx, sz_lt (by omega), Ex.mut (e2.trans e3) hD, xs ++ [v], upd_same, by rw [List.length_append, hl]; rfl, fun x hx => ?_⟩
    rcases List.mem_append.mp hx with hx | hx
    · exact hp x hx
    · rw [List.mem_singleton.mp hx]
      exact hv) (fun H' ⟨e2, xs, hx, hl, hp⟩ => q xs Dl H' ⟨hl, hp⟩ (fresh_back e1 hD) (e1.trans e2) hx)⟩
theorem up_tupL {P : List V → Prop} (h : EvLP te σ H P) : EvUP (tCB (rTupOf K) (tCons te tNil)) σ H P := fun H1 e Q q =>
  h H1 e _ fun xs a H2 hP ha e2 h2 => ⟨a, xs, rfl, .inl ⟨sq_of h2, fun l hl => q xs l _ hP (fresh_back e2 hl) (Ex.mut e2 (fresh_back e2 hl)) upd_same⟩⟩
/-! ### tuples on the way -/
theorem evs_U {xs : List V} (h : EvU te σ H xs) : EvS K te σ H xs := fun H1 e Q q => h H1 e _ fun a H2 _ e2 h2 => q a H2 e2 (st_of h2)
theorem evs_V {a : Addr} {xs : List V} (h : Ev te σ H (.ref a)) (hx : SqT K H a xs) : EvS K te σ H xs := fun H1 e Q q => h H1 e _ fun H2 e2 => q a H2 e2 (ex_t (e.trans e2) hx)
theorem evs_cat {xs ys : List V} (ha : EvS K ta σ H xs) (hb : EvS K tb σ H ys) (hne : xs ≠ []) (hz : xs.length + ys.length ≤ 100000) : EvS K (tOp (rCatT K) ta tb) σ H (xs ++ ys) := fun H1 e Q q =>
  ha H1 e _ fun a H2 e2 h2 => hb H2 (e.trans e2) _ fun b H3 e3 h3 => ⟨a, b, xs, ys, rfl, rfl, ex_t e3 h2, h3, hne, sz_of hz, fun hy => q a H3 (e2.trans e3) (by rw [hy, List.append_nil]; exact ex_t e3 h2), fun _ l hl => q l _ ((e2.trans e3).trans (Ex.new hl)) (st_of upd_same)⟩
theorem evs_rep {xs : List V} {k : Int} (ha : EvS K ta σ H xs) (hb : Ev tb σ H (.int k)) (hne : xs ≠ []) (hk : 2 ≤ k ∧ k ≤ 1000) (hz : xs.length ≤ 1000) : EvS K (tOp (rRepT K) ta tb) σ H (List.replicate k.toNat xs).flatten := fun H1 e Q q =>
  ha H1 e _ fun a H2 e2 h2 => hb H2 (e.trans e2) _ fun H3 e3 => ⟨a, k, xs, rfl, rfl, ex_t e3 h2, hne, hk.1, hk.2, hz, fun l hl => q l _ ((e2.trans e3).trans (Ex.new hl)) (st_of upd_same)⟩
theorem evs_sl {tl th : TO} {a : Addr} {xs : List V} {lo hi : Option Int} (h : Ev te σ H (.ref a)) (h1 : EvO tl σ H lo) (h2 : EvO th σ H hi) (hs : SqT K H a xs) (hw : ¬ (HT.sIx xs.length 0 lo = 0 ∧ HT.sIx xs.length xs.length hi = xs.length)) : EvS K (tSl (rSlT K) te tl th) σ H (cutV xs lo hi) := fun H1 e _ q =>
  h H1 e _ fun H2 e2 => h1 H2 (e.trans e2) _ fun H3 e3 => h2 H3 ((e.trans e2).trans e3) _ fun H4 e4 =>
    ⟨a, xs, rfl, ex_t (((e.trans e2).trans e3).trans e4) hs, hw, fun p hp => q p _ (((e2.trans e3).trans e4).trans (Ex.new hp)) (st_of upd_same)⟩
/-- f(t, y), t a tuple made on the way -/
theorem eu_callS {sp : Sp} {xs zs : List V} (ha : EvS K ta σ H xs) (hb : Ev tb σ H y) (hs : ∀ a H1, Ex H H1 → SqT K H1 a xs → SpU sp [.ref a, y] H1 zs) : EvU (tCall sp [] E0 (tCons ta (tCons tb tNil))) σ H zs := fun H1 e Q q =>
  ha H1 e _ fun a H2 e2 h2 => hb H2 (e.trans e2) _ fun H3 e3 => hs a H3 ((e.trans e2).trans e3) (ex_t e3 h2) H3 (Ex.refl H3) Q (fun l H4 hl e4 h4 => q l H4 (fresh_back (e2.trans e3) hl) ((e2.trans e3).trans e4) h4) E0
/-! ### tuples of numbers compared -/
def pdI (xs : List Int) : List PyData := xs.map PyData.int
theorem dp_ints {xs : List Int} : DpAll K H (xs.map V.int) (pdI xs) := by
  induction xs with
  | nil => exact .nil
  | cons x r ih => exact .cons (.int x) ih
theorem eqv_ints : ∀ (xs ys : List Int), PyData.eqvAll (pdI xs) (pdI ys) = decide (xs = ys)
  | [], [] => rfl
  | [], _ :: _ => rfl
  | _ :: _, [] => rfl
  | x :: xs, y :: ys => by
    show (PyData.eqv (.int x) (.int y) && PyData.eqvAll (pdI xs) (pdI ys)) = _
    rw [eqv_ints xs ys]
    show ((x == y) && decide (xs = ys)) = _
    rw [Bool.eq_iff_iff]
    simp
theorem lay_ints : ∀ xs : List Int, PyData.canLayAll0 (pdI xs) = true
  | [] => rfl
  | _ :: r => lay_ints r
theorem depth_ints : ∀ xs : List Int, PyData.depthAll (pdI xs) = 0
  | [] => rfl
  | _ :: r => by
    show max 0 (PyData.depthAll (pdI r)) = 0
    rw [depth_ints r]
    rfl
theorem shaped_t (xs : List Int) : SeqAt.shaped (.tuple (pdI xs)) = true := by
  show (PyData.canLayAll0 (pdI xs) && decide (PyData.depthAll (pdI xs) + 1 ≤ 64)) = true
  rw [lay_ints, depth_ints]
  rfl
theorem shaped_l (xs : List Int) : SeqAt.shaped (.list (pdI xs)) = true := shaped_t xs
theorem ev_eqS {xs ys : List Int} (ha : EvS K ta σ H (xs.map V.int)) (hb : EvS K tb σ H (ys.map V.int)) : Ev (tOp (rEqD K) ta tb) σ H (.bl (decide (xs = ys))) := fun H1 e Q q =>
  ha H1 e _ fun a H2 e2 h2 => hb H2 (e.trans e2) _ fun b H3 e3 h3 => ⟨_, _, .tup (ex_t e3 h2) dp_ints, .tup h3 dp_ints, shaped_t xs, shaped_t ys, by
    show Q (.bl (PyData.eqvAll (pdI xs) (pdI ys))) H3
    rw [eqv_ints]
    exact q H3 (e2.trans e3)⟩
theorem ev_neS {xs ys : List Int} (ha : EvS K ta σ H (xs.map V.int)) (hb : EvS K tb σ H (ys.map V.int)) : Ev (tOp (rNeD K) ta tb) σ H (.bl (!decide (xs = ys))) := fun H1 e Q q =>
  ha H1 e _ fun a H2 e2 h2 => hb H2 (e.trans e2) _ fun b H3 e3 h3 => ⟨_, _, .tup (ex_t e3 h2) dp_ints, .tup h3 dp_ints, shaped_t xs, shaped_t ys, by
    show Q (.bl (!PyData.eqvAll (pdI xs) (pdI ys))) H3
    rw [eqv_ints]
    exact q H3 (e2.trans e3)⟩
/-- [..] == [] -/
theorem ev_eqN {xs : List Int} (ha : EvL ta σ H (xs.map V.int)) (hb : EvL tb σ H []) : Ev (tOp (rEqD K) ta tb) σ H (.bl (decide (xs = []))) := ev_opLL ha hb fun a b H1 h1 h2 _ => fun H2 e2 Q q => ⟨_, _, .lst (ex_l e2 (sq_of h1)) dp_ints, .lst (xs := []) (ex_l e2 (sq_of h2)) .nil, shaped_l xs, shaped_l [], by
    show Q (.bl (PyData.eqvAll (pdI xs) (pdI []))) H2
    rw [eqv_ints]
    exact q H2 (Ex.refl H2)⟩
/-! ### isinstance of two classes -/
theorem ev_isiT {tcs : TA} {T a b : String} {k : Bool} (h : Ev ta σ H v) (hc : EvA tcs σ H [.ty a, .ty b]) (ty : ∀ H1, Ex H H1 → TyX K H1 v (.type T)) (hk : PySem.W.kitAny K (.type T) [.type a, .type b] = some k) : Ev (tCB (rIsiT K) (tCons ta (tCons (tTup tcs) tNil))) σ H (.bl k) := fun H1 e Q q =>
  h H1 e _ fun H2 e2 => hc H2 (e.trans e2) _ fun H3 e3 => ⟨sz_of (by show 2 ≤ 100000; decide), fun l hl => ⟨v, l, [.ty a, .ty b], .type T, [.type a, .type b], k, rfl, upd_same, .cons (.ty a) (.cons (.ty b) .nil), ty _ (((e.trans e2).trans e3).trans (Ex.new hl)), hk, q _ ((e2.trans e3).trans (Ex.new hl))⟩⟩
/-- for x in (..) laid on the way -/
theorem q_forNT {xs : List V} (h : EvU tl σ H xs) (k : ∀ a H1, H a = none → Ex H H1 → H1 a = some (.tup xs) → tSeq (tFor (iTup K (tC (.ref a))) g tu) tz D σ H1) : tSeq (tFor (iTup K tl) g tu) tz D σ H := h H (Ex.refl H) _ fun a H1 ha e h1 => k a H1 ha e h1
end
theorem hu64 {k : Nat} {A : Around} (hr : Room k A) : A.units + 64 < cLine := by
  have := hr.un
  omega

theorem kit_any2 {K : PySem.W.Frag} {T a b : String} {i j : Bool} (h : kitB T a = some i) (h2 : kitB T b = some j) : PySem.W.kitAny K (.type T) [.type a, .type b] = some (i || j) := by
  refine kitAny_cons (kit_ty h) (fun hi => ?_) fun hi => by rw [hi]; rfl
  rw [hi]
  exact kitAny_cons (kit_ty h2) (fun hj => by rw [hj]; rfl) fun hj => by rw [hj]; rfl
end Sq

/-! products bit by bit; the form of Lagrange, term by term -/
namespace Sq
open PySem PySem.Spec PyProof.Rows L2 Evl
/-! ### bit by bit -/
def lp1 (a b : Int) : Nat → Int
  | 0 => 0
  | j + 1 => if (Builtin.bitAnd (b / 2 ^ j) 1 != 0) = true then Builtin.bitXor (lp1 a b j) (a * 2 ^ j) else lp1 a b j
def lp2s (w : Int) (j : Nat) : Int := if (Builtin.bitAnd (w / 2 ^ j) 1 != 0) = true then Builtin.bitXor w (19 * 2 ^ (j - 4)) else w
theorem lp_eq {a b : Int} (ha : Sym a) (hb : Sym b) : lp2s (lp2s (lp2s (lp1 a b 4) 6) 5) 4 = gmul a b := sym2 (p := fun a b => lp2s (lp2s (lp2s (lp1 a b 4) 6) 5) 4 = gmul a b) (by decide +kernel) ha hb
/-! ### algebra -/
theorem gd1 {a b c : Int} (ha : Sym a) (hb : Sym b) (hc : Sym c) (h : b ≠ 0) : gmul (gdiv a b) (gmul c b) = gmul a c := sym3 (p := fun a b c => b ≠ 0 → gmul (gdiv a b) (gmul c b) = gmul a c) (by decide +kernel) ha hb hc h
theorem gd2 {a b c : Int} (ha : Sym a) (hb : Sym b) (hc : Sym c) (h : b ≠ 0) : gmul (gdiv a b) c = gdiv (gmul c a) b := sym3 (p := fun a b c => b ≠ 0 → gmul (gdiv a b) c = gdiv (gmul c a) b) (by decide +kernel) ha hb hc h
theorem gm_swap {a b c : Int} (ha : Sym a) (hb : Sym b) (hc : Sym c) : gmul (gmul a b) c = gmul (gmul a c) b := by
  rw [gmul_assoc ha hb hc, gmul_comm hb hc, ← gmul_assoc ha hc hb]
theorem gm_add {a b c : Int} (ha : Sym a) (hb : Sym b) (hc : Sym c) : gmul (gadd a b) c = gadd (gmul a c) (gmul b c) := by
  rw [gmul_comm (sym_add ha hb) hc, gmul_add hc ha hb, gmul_comm hc ha, gmul_comm hc hb]
theorem gm_zero {a : Int} (ha : Sym a) : gmul 0 a = 0 := sym1 (p := fun a => gmul 0 a = 0) (by decide +kernel) ha
theorem gm_one {a : Int} (ha : Sym a) : gmul 1 a = a := sym1 (p := fun a => gmul 1 a = a) (by decide +kernel) ha
/-- the product of a's differences, but that of s -/
def dskip (s a : Int) : List Int → Int → Int
  | [], r => r
  | k :: ks, r => dskip s a ks (if k = s then r else gmul r (gadd a k))
theorem dskip_self (a : Int) : ∀ (ks : List Int) (r : Int), dskip a a ks r = dprod a ks r
  | [], _ => rfl
  | k :: ks, r => dskip_self a ks _
theorem dskip_sym {s a : Int} (ha : Sym a) : ∀ {ks : List Int} {r : Int}, (∀ k ∈ ks, Sym k) → Sym r → Sym (dskip s a ks r)
  | [], _, _, hr => hr
  | k :: ks, r, h, hr => by
    have hk := h k List.mem_cons_self
    have hh : ∀ x ∈ ks, Sym x := fun x hx => h x (List.mem_cons_of_mem _ hx)
    show Sym (dskip s a ks (if k = s then r else gmul r (gadd a k)))
    refine dskip_sym ha hh ?_
    split
    · exact hr
    · exact sym_mul hr (sym_add ha hk)
theorem dskip_mul {s a : Int} (ha : Sym a) : ∀ {ks : List Int} {r c : Int}, (∀ k ∈ ks, Sym k) → Sym r → Sym c → dskip s a ks (gmul r c) = gmul (dskip s a ks r) c
  | [], _, _, _, _, _ => rfl
  | k :: ks, r, c, h, hr, hc => by
    have hk := h k List.mem_cons_self
    have hh : ∀ x ∈ ks, Sym x := fun x hx => h x (List.mem_cons_of_mem _ hx)
    show dskip s a ks (if k = s then gmul r c else gmul (gmul r c) (gadd a k)) = gmul (dskip s a ks (if k = s then r else gmul r (gadd a k))) c
    split
    · exact dskip_mul ha hh hr hc
    · rw [gm_swap hr hc (sym_add ha hk)]
      exact dskip_mul ha hh (sym_mul hr (sym_add ha hk)) hc
theorem dskip_out {s a : Int} : ∀ {ks : List Int} {r : Int}, s ∉ ks → a ∉ ks → dskip s a ks r = dprod a ks r
  | [], _, _, _ => rfl
  | k :: ks, r, h1, h2 => by
    rw [List.mem_cons, not_or] at h1 h2
    show dskip s a ks (if k = s then r else gmul r (gadd a k)) = dprod a ks (if k = a then r else gmul r (gadd a k))
    rw [if_neg (fun z => h1.1 z.symm), if_neg (fun z => h2.1 z.symm)]
    exact dskip_out h1.2 h2.2
theorem dprod_mul {a : Int} (ha : Sym a) {ks : List Int} {r c : Int} (h : ∀ k ∈ ks, Sym k) (hr : Sym r) (hc : Sym c) : dprod a ks (gmul r c) = gmul (dprod a ks r) c := by
  rw [← dskip_self, ← dskip_self]
  exact dskip_mul ha h hr hc
/-- the whole product is that without one, times that one -/
theorem dprod_skip {s a : Int} (ha : Sym a) : ∀ {ks : List Int} {r : Int}, (∀ k ∈ ks, Sym k) → ks.Nodup → s ∈ ks → a ∉ ks → Sym r → dprod a ks r = gmul (dskip s a ks r) (gadd a s)
  | [], _, _, _, h, _, _ => nomatch h
  | k :: ks, r, h, hn, hs, hna, hr => by
    have hk := h k List.mem_cons_self
    have hh : ∀ x ∈ ks, Sym x := fun x hx => h x (List.mem_cons_of_mem _ hx)
    rw [List.nodup_cons] at hn
    rw [List.mem_cons, not_or] at hna
    show dprod a ks (if k = a then r else gmul r (gadd a k)) = gmul (dskip s a ks (if k = s then r else gmul r (gadd a k))) (gadd a s)
    rw [if_neg (fun z => hna.1 z.symm)]
    by_cases e : k = s
    · subst e
      rw [if_pos rfl, dprod_mul ha hh hr (sym_add ha hk), dskip_out hn.1 hna.2]
    · rw [if_neg e]
      refine dprod_skip ha hh hn.2 ?_ hna.2 (sym_mul hr (sym_add ha hk))
      rcases List.mem_cons.mp hs with z | z
      · exact absurd z.symm e
      · exact z
/-- the law's own form -/
def ltail (a : Int) (ks : List Int) : Pts → Int → Int
  | [], t => t
  | (k, v) :: r, t => ltail a ks r (gadd t (gdiv (dskip k a ks v) (dprod k ks 1)))
theorem lterm {a k v : Int} {ks : List Int} (ha : Sym a) (hs : ∀ k ∈ ks, Sym k) (hn : ks.Nodup) (hk : k ∈ ks) (hv : Sym v) (hna : a ∉ ks) :
    gmul (gdiv (gdiv v (dprod k ks 1)) (gadd a k)) (dprod a ks 1) = gdiv (dskip k a ks v) (dprod k ks 1) := by
  have hsk := hs k hk
  have hS : Sym (dskip k a ks 1) := dskip_sym ha hs sym_1
  have hD := dprod_sym hsk hs sym_1
  have hD0 := dprod_ne hsk hs sym_1 (by decide)
  have hka : k ≠ a := fun z => hna (z ▸ hk)
  rw [dprod_skip (s := k) ha hs hn hk hna sym_1, gd1 (sym_div hv hD) (sym_add ha hsk) hS (gadd_ne ha hsk hka), gd2 hv hD hS hD0, ← dskip_mul ha hs sym_1 hv, gm_one hv]
theorem lsum_tail {a : Int} {ks : List Int} (ha : Sym a) (hs : ∀ k ∈ ks, Sym k) (hn : ks.Nodup) (hna : a ∉ ks) : ∀ {qs : Pts} {t : Int}, (∀ p ∈ qs, p.1 ∈ ks ∧ Sym p.2) → Sym t →
    gmul (lsum a (qs.map fun p => (p.1, gdiv p.2 (dprod p.1 ks 1))) t) (dprod a ks 1) = ltail a ks qs (gmul t (dprod a ks 1))
  | [], _, _, _ => rfl
  | (k, v) :: r, t, h, ht => by
    have hp := h (k, v) List.mem_cons_self
    have hh : ∀ p ∈ r, p.1 ∈ ks ∧ Sym p.2 := fun x hx => h x (List.mem_cons_of_mem _ hx)
    have hw := sym_div hp.2 (dprod_sym (hs k hp.1) hs sym_1)
    have hg := sym_div hw (sym_add ha (hs k hp.1))
    show gmul (lsum a (r.map fun p => (p.1, gdiv p.2 (dprod p.1 ks 1))) (gadd t (gdiv (gdiv v (dprod k ks 1)) (gadd a k)))) (dprod a ks 1) = ltail a ks r (gadd (gmul t (dprod a ks 1)) (gdiv (dskip k a ks v) (dprod k ks 1)))
    rw [lsum_tail ha hs hn hna hh (sym_add ht hg), gm_add ht hg (dprod_sym ha hs sym_1), lterm ha hs hn hp.1 hp.2 hna]
theorem lagr_tail {ps : Pts} {a : Int} (ok : PtsOk ps) (ha : Sym a) (hna : a ∉ ksV ps) : lagr ps a = ltail a (ksV ps) ps 0 := by
  have hn : ps.lookup a = none := by
    cases z : ps.lookup a with
    | none => rfl
    | some v => exact absurd (List.mem_map.mpr ⟨_, lookup_mem z, rfl⟩) hna
  have z : lagr ps a = gmul (lsum a (wts ps) 0) (dprod a (ksV ps) 1) := by
    unfold lagr
    rw [hn]
  have y := lsum_tail ha ok.ks ok.2.1 hna (qs := ps) (t := 0) (fun p hp => ⟨List.mem_map.mpr ⟨p, hp, rfl⟩, (ok.1 p hp).2⟩) sym_0
  rw [gm_zero (dprod_sym ha ok.ks sym_1)] at y
  exact z.trans y
theorem ltail_sym {a : Int} {ks : List Int} (ha : Sym a) (hs : ∀ k ∈ ks, Sym k) : ∀ {qs : Pts} {t : Int}, (∀ p ∈ qs, Sym p.1 ∧ Sym p.2) → Sym t → Sym (ltail a ks qs t)
  | [], _, _, ht => ht
  | (k, v) :: r, t, h, ht => by
    have hp := h (k, v) List.mem_cons_self
    have hh : ∀ p ∈ r, Sym p.1 ∧ Sym p.2 := fun x hx => h x (List.mem_cons_of_mem _ hx)
    exact ltail_sym (qs := r) ha hs hh (sym_add ht (sym_div (dskip_sym ha hs hp.2) (dprod_sym hp.1 hs sym_1)))
theorem ltail_take {a : Int} {ks : List Int} : ∀ {qs : Pts} {i : Nat} {k v t : Int}, qs[i]? = some (k, v) → ltail a ks (qs.take (i + 1)) t = gadd (ltail a ks (qs.take i) t) (gdiv (dskip k a ks v) (dprod k ks 1))
  | [], _, _, _, _, h => by cases h
  | (x, y) :: ps, 0, k, w, t, h => by
    cases h
    rfl
  | (x, y) :: ps, i + 1, k, w, t, h => by
    have h' : ps[i]? = some (k, w) := h
    exact ltail_take (qs := ps) h'
theorem dskip_take {s a : Int} : ∀ {ks : List Int} {i : Nat} {k r : Int}, ks[i]? = some k → dskip s a (ks.take (i + 1)) r = (if k = s then dskip s a (ks.take i) r else gmul (dskip s a (ks.take i) r) (gadd a k))
  | [], _, _, _, h => by cases h
  | x :: ks, 0, k, r, h => by
    cases h
    rfl
  | x :: ks, i + 1, k, r, h => by
    have h' : ks[i]? = some k := h
    exact dskip_take (ks := ks) h'
/-- the one symbol whose product with b is t -/
theorem root_one {t b : Int} (ht : Sym t) (hb : Sym b) (h0 : b ≠ 0) : (List.range 16).filter (fun (m : Nat) => decide (gmul (m : Int) b = t)) = [(gdiv t b).toNat] := sym2 (p := fun t b => b ≠ 0 → (List.range 16).filter (fun (m : Nat) => decide (gmul ((m : Nat) : Int) b = t)) = [(gdiv t b).toNat]) (by decide +kernel) ht hb h0
theorem root_given {t b : Int} (ht : Sym t) (hb : Sym b) (h0 : b ≠ 0) : given 16 (fun m => decide (gmul (m : Int) b = t)) (fun m => V.int (m : Int)) = [.int (gdiv t b)] := by
  unfold given
  rw [root_one ht hb h0]
  have := (sym_div ht hb).1
  show [V.int ((gdiv t b).toNat : Int)] = _
  rw [Int.toNat_of_nonneg this]
/-! ### numbered points -/
theorem enumP_get : ∀ (j : Nat) (ds : List Int) (i : Nat), (enumP j ds)[i]? = (ds[i]?).map fun x => (((j + i : Nat) : Int), x)
  | _, [], i => by simp [enumP]
  | j, x :: r, 0 => by simp [enumP]
  | j, x :: r, i + 1 => by
    have e : j + (i + 1) = j + 1 + i := by omega
    rw [e]
    simpa [enumP] using enumP_get (j + 1) r i
theorem ksV_get {ds : List Int} {i : Nat} (h : i < ds.length) : (ksV (enumP 0 ds))[i]? = some (i : Int) := by
  unfold ksV
  rw [List.getElem?_map, enumP_get, List.getElem?_eq_getElem h]
  simp
theorem ksV_len (ds : List Int) : (ksV (enumP 0 ds)).length = ds.length := by
  unfold ksV
  rw [List.length_map, enumP_len]
theorem ksV_not {ds : List Int} {a : Int} (h : (ds.length : Int) ≤ a) : a ∉ ksV (enumP 0 ds) := fun z => by
  obtain ⟨p, hp, e⟩ := List.mem_map.mp z
  have := enumP_mem 0 hp
  omega
theorem lagr_at {ds : List Int} {i : Nat} {x : Int} (h : ds[i]? = some x) : lagr (enumP 0 ds) (i : Int) = x := by
  have e : (enumP 0 ds)[i]? = some ((i : Int), x) := by
    rw [enumP_get, h]
    simp
  have z := lookup_of (enumP_nd 0 ds) e
  unfold lagr
  rw [z]
theorem block_take {ds : List Int} {n : Nat} (h : ds.length ≤ n) : blockOf ds n = ds ++ (List.range (n - ds.length)).map fun i => lagr (enumP 0 ds) ((ds.length + i : Nat) : Int) := by
  refine List.ext_getElem? fun i => ?_
  unfold blockOf lagrs
  rw [List.getElem?_map]
  by_cases hi : i < ds.length
  · rw [List.getElem?_append_left hi, List.getElem?_eq_getElem hi, List.getElem?_range (by omega)]
    exact congrArg some (lagr_at (List.getElem?_eq_getElem hi))
  · rw [List.getElem?_append_right (by omega), List.getElem?_map]
    by_cases hn : i < n
    · rw [List.getElem?_range hn, List.getElem?_range (by omega)]
      refine congrArg some ?_
      show lagr (enumP 0 ds) (i : Int) = lagr (enumP 0 ds) ((ds.length + (i - ds.length) : Nat) : Int)
      rw [show ds.length + (i - ds.length) = i from by omega]
    · rw [List.getElem?_eq_none (by rw [List.length_range]; omega), List.getElem?_eq_none (by rw [List.length_range]; omega)]
      rfl
theorem block_self (ds : List Int) : blockOf ds ds.length = ds := by
  rw [block_take (Nat.le_refl _), Nat.sub_self]
  exact List.append_nil _
theorem block_one {x : Int} (hx : Sym x) : blockOf [x] 16 = List.replicate 16 x := sym1 (p := fun x => blockOf [x] 16 = List.replicate 16 x) (by decide +kernel) hx
theorem block_syms {ds : List Int} (h : ∀ x ∈ ds, Sym x) (hl : ds.length ≤ 16) {n : Nat} (hn : n ≤ 16) : ∀ x ∈ blockOf ds n, Sym x := fun x hx => by
  obtain ⟨i, hi, rfl⟩ := List.mem_map.mp hx
  rw [List.mem_range] at hi
  exact lagr_sym (enumP_ok h hl) ⟨by omega, by omega⟩
theorem block_len (ds : List Int) (n : Nat) : (blockOf ds n).length = n := by
  unfold blockOf lagrs
  rw [List.length_map, List.length_range]
end Sq

/-! promises of the laws' own defs about blocks -/
namespace Sq
open PySem PySem.Spec PyProof.Rows L2 Evl
def RetS (K : PySem.W.Frag) (xs : List V) (H : Hp) (Q : VK) : Prop := ∀ p H2, Ex H H2 → SqT K H2 p xs → Q (.ref p) H2
def SpS (K : PySem.W.Frag) (sp : Sp) (vs : List V) (H : Hp) (xs : List V) : Prop := ∀ H1, Ex H H1 → ∀ Q : VK, RetS K xs H1 Q → ∀ E : XK, sp vs H1 Q E
def spAt (K : PySem.W.Frag) : Sp := fun vs H Q _ => ∃ (m p : Addr) (a : Int) (ds : List Int), vs = [.ref m, .ref p, .int a] ∧ SqT K H m (ds.map V.int) ∧ SqL K H p (rgV 0 (ds.length : Int)) ∧ (∀ x ∈ ds, Sym x) ∧ (ds.length : Int) ≤ a ∧ a ≤ 15 ∧ RetV (.int (lagr (enumP 0 ds) a)) H Q
def spBlock (K : PySem.W.Frag) : Sp := fun vs H Q _ => ∃ (t : Addr) (ds : List Int) (c : Int), vs = [.ref t, .int c] ∧ SqT K H t (ds.map V.int) ∧ DataOk ds c ∧ RetS K ((blockOf ds (ds.length + c.toNat)).map V.int) H Q
def spAlike0 : Sp := fun vs H Q _ => ∃ i : Int, vs = [.int i, .int i] ∧ RetV (.bl true) H Q
def spAlike1 (K : PySem.W.Frag) : Sp := fun vs H Q _ => ∃ (p q : Addr) (xs : List Int), vs = [.ref p, .ref q] ∧ SqT K H p (xs.map V.int) ∧ SqT K H q (xs.map V.int) ∧ xs.length ≤ 1000 ∧ RetV (.bl true) H Q
def spData (K : PySem.W.Frag) : Sp := fun vs H Q _ => ∃ (r : Addr) (m : Int), vs = [.ref r, .int m] ∧ 1 ≤ m ∧ m ≤ 14 ∧ RowAt K H r ∧ ∀ ds c p t H', DataOk ds c → (ds.length : Int) ≤ m → Ex H H' → H' t = some (.tup (ds.map V.int)) → H' p = some (.tup [.ref t, .int c]) → Q (.ref p) H'
section
variable {K : PySem.W.Frag} {σ : L2.St} {H H' : Hp} {ta tb te : TE} {y z v : V} {D : Ends} {tz : TS} {g : TG} {i j : Nat} {tA : TA}
theorem spv_at {m p : Addr} {a : Int} {ds : List Int} (hm : SqT K H m (ds.map V.int)) (hp : SqL K H p (rgV 0 (ds.length : Int))) (hs : ∀ x ∈ ds, Sym x) (h0 : (ds.length : Int) ≤ a) (h1 : a ≤ 15) : SpV (spAt K) [.ref m, .ref p, .int a] H (.int (lagr (enumP 0 ds) a)) := fun H1 e _ q _ => ⟨m, p, a, ds, rfl, ex_t e hm, ex_l e hp, hs, h0, h1, q⟩
theorem sps_block {t : Addr} {ds : List Int} {c : Int} (ht : SqT K H t (ds.map V.int)) (ok : DataOk ds c) : SpS K (spBlock K) [.ref t, .int c] H ((blockOf ds (ds.length + c.toNat)).map V.int) := fun H1 e _ q _ => ⟨t, ds, c, rfl, ex_t e ht, ok, q⟩
theorem spv_alike0 {i : Int} : SpV spAlike0 [.int i, .int i] H (.bl true) := fun H1 _ _ q _ => ⟨i, rfl, q⟩
theorem spv_alike1 {p q : Addr} {xs : List Int} (hp : SqT K H p (xs.map V.int)) (hq : SqT K H q (xs.map V.int)) (hl : xs.length ≤ 1000) : SpV (spAlike1 K) [.ref p, .ref q] H (.bl true) := fun H1 e _ k _ => ⟨p, q, xs, rfl, ex_t e hp, ex_t e hq, hl, k⟩
theorem evs_callD {sp : Sp} {vs xs : List V} (h : EvA tA σ H vs) (hs : SpS K sp vs H xs) : EvS K (tCall sp [] E0 tA) σ H xs := fun H1 e Q q =>
  h H1 e _ fun H2 e2 => by
    show sp (vs ++ []) H2 Q E0
    rw [List.append_nil]
    exact hs H2 (e.trans e2) Q (fun p H3 e3 h3 => q p H3 (e2.trans e3) h3) E0
/-- f(t, y), t a tuple made on the way -/
theorem ev_callS {sp : Sp} {xs : List V} (ha : EvS K ta σ H xs) (hb : Ev tb σ H y) (hs : ∀ a H1, Ex H H1 → SqT K H1 a xs → SpV sp [.ref a, y] H1 z) : Ev (tCall sp [] E0 (tCons ta (tCons tb tNil))) σ H z := fun H1 e Q q =>
  ha H1 e _ fun a H2 e2 h2 => hb H2 (e.trans e2) _ fun H3 e3 => hs a H3 ((e.trans e2).trans e3) (ex_t e3 h2) H3 (Ex.refl H3) Q (fun H4 e4 => q H4 ((e2.trans e3).trans e4)) E0
theorem s_retS {xs : List V} (h : EvS K te σ H xs) (k : ∀ p H1, Ex H H1 → SqT K H1 p xs → D.rt (.ref p) H1) : tRet te D σ H := h H (Ex.refl H) _ k
theorem q_asgG (h : te σ H fun v H1 => g v σ H1 fun σ2 H2 => tz D σ2 H2) : tSeq (tAsg te g) tz D σ H := h
theorem s_par2R (h : tA σ H fun vs H1 => ∃ u v, vs = [u, v] ∧ D.nx ((σ.set i (some u)).set j (some v)) H1) : tPar i j tA D σ H := h
theorem el_listRg {n : Int} (h : Ev ta σ H (.int n)) (hn : 0 ≤ n ∧ n ≤ 100000) : EvL (tLstRg (tRg1 ta)) σ H (rgV 0 n) := fun H1 e Q q => h H1 e _ fun H2 e2 => ⟨n, rfl, RgOk.of_le (by omega) (by omega) (by omega) (by omega), fun l hl => q l _ (fresh_back e2 hl) (Ex.mut e2 (fresh_back e2 hl)) upd_same⟩
theorem rc_min2 {i j : Int} : RC (fun xs H Q => ∃ i j, xs = [.int i, .int j] ∧ Q (.int (if j < i then j else i)) H) [.int i, .int j] H (.int (if j < i then j else i)) := fun H1 _ _ q => ⟨i, j, rfl, q H1 (Ex.refl H1)⟩
end
theorem g_name {i : Nat} {v : V} {σ : L2.St} {H : Hp} {Q : L2.St → Hp → Prop} (h : Q (σ.set i (some v)) H) : gName i v σ H Q := h
theorem rg_at {n j : Nat} (h : j < n) : atI (rgV 0 (n : Int)) (j : Int) = some (.int (j : Int)) := by
  refine atI_nat ?_
  unfold rgV
  rw [List.getElem?_map, List.getElem?_range (by omega)]
  show some (V.int (0 + (j : Int))) = _
  rw [Int.zero_add]
theorem ints_of {m : Int} : ∀ {xs : List V}, (∀ x ∈ xs, intB m x) → ∃ ds : List Int, xs = ds.map V.int ∧ ∀ d ∈ ds, 0 ≤ d ∧ d < m
  | [], _ => ⟨[], rfl, fun d h => nomatch h⟩
  | x :: r, h => by
    obtain ⟨z, rfl, z0, z1⟩ := h x List.mem_cons_self
    obtain ⟨ds, rfl, hd⟩ := ints_of fun y hy => h y (List.mem_cons_of_mem _ hy)
    refine ⟨z :: ds, rfl, fun d h => ?_⟩
    rcases List.mem_cons.mp h with rfl | h
    · exact ⟨z0, z1⟩
    · exact hd d h
def lpw (a b : Int) : Nat → Int
  | 0 => lp1 a b 4
  | i + 1 => lp2s (lpw a b i) (6 - i)
theorem lpw_eq {a b : Int} (ha : Sym a) (hb : Sym b) : lpw a b 3 = gmul a b := lp_eq ha hb
theorem map_at {xs : List Int} {k : Nat} {x : Int} (h : xs[k]? = some x) : atI (xs.map V.int) (k : Int) = some (.int x) := atI_nat (dn_seq xs k x h)
end Sq
namespace Sq
open PySem PySem.Spec PyProof.Rows L2 Evl
section
variable {K : PySem.W.Frag} {σ : L2.St} {H : Hp} {ta : TA} {u v : V} {D : Ends} {tz : TS} {i j : Nat}
theorem s_asgPair (h : EvA ta σ H [u, v]) (k : ∀ H1, Ex H H1 → D.nx ((σ.set i (some u)).set j (some v)) H1) : tAsg (tTup ta) (gTup K 2 (gCons (gName i) (gCons (gName j) gNil))) D σ H :=
  h H (Ex.refl H) _ fun H1 e1 => ⟨by show 2 ≤ sizeLine; decide, fun p hp => ⟨p, [u, v], rfl, st_of upd_same, rfl, u, [v], rfl, v, [], rfl, rfl, k _ (e1.trans (Ex.new hp))⟩⟩
theorem q_asgPair (h : EvA ta σ H [u, v]) (k : ∀ H1, Ex H H1 → tz D ((σ.set i (some u)).set j (some v)) H1) : tSeq (tAsg (tTup ta) (gTup K 2 (gCons (gName i) (gCons (gName j) gNil)))) tz D σ H := s_asgPair (D := { D with nx := tz D }) h k
end
end Sq
namespace Sq
open PySem PySem.Spec PyProof.Rows L2 Evl
theorem s_retPair {σ : L2.St} {H : Hp} {te tb : TE} {y : V} {D : Ends} {P : List V → Prop} (h : EvUP te σ H P) (hb : Ev tb σ H y) (k : ∀ xs t p H1, P xs → Ex H H1 → H1 t = some (.tup xs) → H1 p = some (.tup [.ref t, y]) → D.rt (.ref p) H1) : tRet (tTup (tCons te (tCons tb tNil))) D σ H :=
  h H (Ex.refl H) _ fun xs t H1 hP ht e1 h1 => hb H1 e1 _ fun H2 e2 => ⟨by show 2 ≤ sizeLine; decide, fun p hp => k xs t p _ hP ((e1.trans e2).trans (Ex.new hp)) ((Ex.new hp) _ _ (e2 _ _ h1)) upd_same⟩
end Sq

/-! itertools.combinations of a list -/
namespace Sq
open PySem PySem.Spec PyProof.Rows L2 Evl
theorem cb_mro : mroOf (.type "itertools.combinations") = pure [.type "itertools.combinations", .type "object"] := by rw [mroOf_type]; kernel_rfl
theorem cb_new : typeLookup (.type "itertools.combinations") "__new__" = pure (some (.builtin "itertools.combinations.__new__")) := by rw [typeLookup_type, builtinLookup_eq_fast]; kernel_rfl
theorem cb_sub : isSubtype (.type "itertools.combinations") (.type "itertools.combinations") = pure true := by rw [isSubtype_type]; kernel_rfl
theorem cb_init : Slot "itertools.combinations" "__init__" "object.__init__" := by
  refine .of (owner := "object") (n := "__init__") ?_ (by decide +kernel) (by decide +kernel) (by decide +kernel) ?_ ?_
  · rw [typeLookup_type, builtinLookup_eq_fast]
    kernel_rfl
  · first
      | exact .inl (by decide +kernel)
      | exact .inr (by decide +kernel)
  · rw [isSubtype_type]
    kernel_rfl
theorem cb_called : TypeCalled "itertools.combinations" "itertools.combinations.__new__" "object.__init__" :=
  ⟨by decide +kernel, by decide +kernel, ⟨_, _, cb_mro⟩, madeBy_type cb_mro cb_new (by decide +kernel), by decide +kernel, cb_sub, cb_init⟩
theorem cb_tc (a b : Value) : checkTypeCall "itertools.combinations" ⟨[a, b], []⟩ = pure () := by kernel_rfl
theorem cb_nc (a b : Value) : checkBuiltinCall "itertools.combinations.__new__" ⟨[.type "itertools.combinations", a, b], []⟩ = pure () := by kernel_rfl
theorem cb_en : entryFor table "itertools.combinations.__new__" = some Builtin.«itertools.combinations.__new__» := entryFor_of_tree (by kernel_rfl)
theorem cb_slot {n id : String} (h : typeLookup (.type "itertools.combinations") n = pure (some (.builtin id))) (S : Slot "itertools.combinations" n id) : Slot "itertools.combinations" n id := S
theorem cb_iter : Slot "itertools.combinations" "__iter__" "itertools.combinations.__iter__" := by
  refine .of (owner := "itertools.combinations") (n := "__iter__") ?_ (by decide +kernel) (by decide +kernel) (by decide +kernel) ?_ cb_sub
  · rw [typeLookup_type, builtinLookup_eq_fast]
    kernel_rfl
  · first
      | exact .inl (by decide +kernel)
      | exact .inr (by decide +kernel)
theorem cb_next : Slot "itertools.combinations" "__next__" "itertools.combinations.__next__" := by
  refine .of (owner := "itertools.combinations") (n := "__next__") ?_ (by decide +kernel) (by decide +kernel) (by decide +kernel) ?_ cb_sub
  · rw [typeLookup_type, builtinLookup_eq_fast]
    kernel_rfl
  · first
      | exact .inl (by decide +kernel)
      | exact .inr (by decide +kernel)
theorem cb_ei : entryFor table "itertools.combinations.__iter__" = some Builtin.«dict_keyiterator.__iter__» := by
  refine entryFor_alias (id' := "dict_keyiterator.__iter__") (by kernel_rfl) ?_ (by decide +kernel) (by kernel_rfl)
  first
    | rfl
    | decide +kernel
    | (unfold String.splitOn; simp +decide [String.splitOnAux])
theorem cb_ex : entryFor table "itertools.combinations.__next__" = some Builtin.«itertools.combinations.__next__» := entryFor_of_tree (by kernel_rfl)
theorem cb_own : Manifest.owners.lookup (String.ofList "itertools.combinations".toList.reverse.reverse) = some Manifest.sig_itertools_combinations := by kernel_rfl
theorem cb_ai (a : Value) : argsOk "itertools.combinations.__iter__" ⟨[a], []⟩ := by
  unfold argsOk
  rw [signature?_of (id := "itertools.combinations.__iter__") (n := "__iter__".toList.reverse) (o := "itertools.combinations".toList.reverse) (by kernel_rfl) cb_own]
  kernel_rfl
theorem cb_ax (a : Value) : argsOk "itertools.combinations.__next__" ⟨[a], []⟩ := by
  unfold argsOk
  rw [signature?_of (id := "itertools.combinations.__next__") (n := "__next__".toList.reverse) (o := "itertools.combinations".toList.reverse) (by kernel_rfl) cb_own]
  kernel_rfl
theorem cb_nd : typeHasDict (.type "itertools.combinations") = false := by decide +kernel
end Sq

/-! the steps of itertools.combinations -/
namespace Sq
open PySem PySem.Spec PyProof.Rows L2 Evl
def nextC (n : Nat) (ix : List Nat) : Option (List Nat) := match (List.range ix.length).reverse.find? fun i => ix.getD i 0 != i + n - ix.length with
  | none => none
  | some i => some (ix.take i ++ (List.range (ix.length - i)).map (ix.getD i 0 + 1 + ·))
abbrev cbF (pool : Addr) (st : Int) (old : Value) (ix : List Nat) : List Value := [.ref pool, rawInt st, old] ++ ix.map fun (i : Nat) => rawInt i
abbrev combO (pool : Addr) (st : Int) (old : Value) (ix : List Nat) : Obj := { cls := .type "itertools.combinations", dict := none, data := .fields (cbF pool st old ix).toArray, slots := #[] }
theorem cb_bind (a b : Value) : Builtin.Itertools.itBindNamed "combinations" ["iterable", "r"] 2 2 [a, b] [] = pure [some a, some b] := by kernel_rfl
theorem cb_sub2 : isSubtype (.type "itertools.combinations") (.type ("itertools." ++ "combinations")) = pure true := by
  rw [show ("itertools." ++ "combinations" : String) = "itertools.combinations" from by decide +kernel]
  exact cb_sub
theorem meets_cb (l : Addr) (items : Array Value) (r : Nat) (t : Tok) (hr : r < 1000) : Meets (Builtin.«itertools.combinations.__new__» ⟨[.type "itertools.combinations", .ref l, .int r t], []⟩)
    (fun _ R s => (∃ (o : Obj) (n : Nat), s.heap.get? l = some o ∧ o.cls = .type "list" ∧ o.data = .seq items n ∧ items.size ≤ 1000) ∧ ∀ h' : Heap, h'.objs.size = s.heap.objs.size + 1 → (∀ b o', s.heap.get? b = some o' → h'.get? b = some o') →
      R (.ok (.ret (.ref (h'.push { cls := .type "tuple", data := .seq items }).objs.size))) { s with heap := (h'.push { cls := .type "tuple", data := .seq items }).push (combO h'.objs.size (if r > items.size then 2 else 0) .none (List.range r)) }) :=
  .of_wp fun prog w A R s h => by
    obtain ⟨hq, gg, dd, tk, oo⟩ := s
    obtain ⟨⟨o, n, ho, hc, hd, hz⟩, h⟩ := h
    have hsub := cb_sub
    have hsub2 := cb_sub2
    have hnd := cb_nd
    have goC : ∀ {A' : Around} {E : Value → Shared → Prop} {Q : List Value → Shared → Prop}, (∀ h', h'.objs.size = hq.objs.size + 1 → (∀ b o', hq.get? b = some o' → h'.get? b = some o') → Q items.toList ⟨h', gg, dd, tk, oo⟩) → wpAny (model prog w) A' (collect (.ref l)) Q E ⟨hq, gg, dd, tk, oo⟩ := fun q =>
      PyProof.Rows.collect_list (s := ⟨hq, gg, dd, tk, oo⟩) (vs := items.toList) ⟨o, ho, hc, n, by rw [hd]⟩ (q _ (by rw [Heap.size_update, Heap.size_push]) fun b o' z => by
        have lb := Heap.lt_size z
        rw [Heap.get?_update_ne _ _ _ _ (Nat.ne_of_lt lb)]
        exact Heap.get?_push_of_some _ z) (by rw [Array.length_toList]; exact Nat.le_trans hz (by rw [sizeLine_eq]; decide))
    have hn : ¬ ((decide ((r : Int) < -(2 ^ 63)) || decide ((r : Int) ≥ 2 ^ 63)) = true) := by
      have a : decide ((r : Int) < -(2 ^ 63)) = false := decide_eq_false (by omega)
      have b : decide ((r : Int) ≥ 2 ^ 63) = false := decide_eq_false (by omega)
      rw [a, b]
      decide
    wp_walk using goC
    refine wpAny_ite_false (decide_eq_false hn) (wpAny_pure (wpAny_bind (goC fun h' hsz hk => ?_)))
    have t1 : Builtin.Itertools.itTooMany (r : Int) = false := by
      unfold Builtin.Itertools.itTooMany
      simp
      omega
    refine wpAny_ite_false (decide_eq_false (show ¬ ((r : Int) < 0) by omega)) ?_
    show wpAny _ _ (if Builtin.Itertools.itTooMany (r : Int) = true then _ else _) _ _ _
    rw [if_neg (by rw [t1]; decide)]
    have hz2 : items.toList.length ≤ sizeLine := by
      rw [Array.length_toList]
      exact Nat.le_trans hz (by rw [sizeLine_eq]; decide)
    refine wpAny_bind (wpAny_newTuple ?_ hz2)
    refine wpAny_pure ?_
    refine wpAny_bind ?_
    show wpAny _ _ (if (!typeHasDict (.type "itertools.combinations")) = true then _ else _) _ _ _
    rw [hnd, if_pos (show (!false) = true from rfl)]
    have e1 : (r : Int).toNat = r := Int.toNat_natCast r
    have e2 : items.toList.length = items.size := Array.length_toList
    have e3 : items.toList.toArray = items := by simp
    rw [e1, e2, e3]
    refine wpAny_newObj_type ?_ ?_
    · refine wpAny_pure ⟨_, rfl, h h' hsz hk⟩
    · show (([Value.ref h'.objs.size, rawInt (if r > items.size then 2 else 0), Value.none] ++ (List.range r).map fun (i : Nat) => rawInt i).toArray).size ≤ sizeLine + 2
      rw [List.size_toArray, List.length_append, List.length_map, List.length_range, sizeLine_eq]
      show 3 + r ≤ _
      omega
end Sq

/-! itertools.combinations: made, begun, gone on, ended -/
namespace Sq
open PySem PySem.Spec PyProof.Rows L2 Evl
section
variable {prog : Program} {w : World} {A : Around} {E : Value → Shared → Prop} {s : Shared}
abbrev tupO (vs : Array Value) : Obj := { cls := .type "tuple", data := .seq vs }
def IsTupO (h : Heap) (p : Addr) (items : Array Value) : Prop := ∃ o n, h.get? p = some o ∧ o.cls = .type "tuple" ∧ o.data = .seq items n
theorem call_cb {l : Addr} {items : Array Value} {r : Nat} {t : Tok} {Q : Value → Shared → Prop} (hl : s.heap.IsList l items) (hz : items.size ≤ 1000) (hr : r < 1000)
    (h : ∀ (k' : Heap) (p c : Addr), k'.get? c = some (combO p (if r > items.size then 2 else 0) .none (List.range r)) → IsTupO k' p items → s.heap.objs.size ≤ p → s.heap.objs.size ≤ c → p ≠ c → (∀ b o, s.heap.get? b = some o → k'.get? b = some o) → Q (.ref c) { s with heap := k' }) :
    wpAny (model prog w) A (call (.type "itertools.combinations") [.ref l, .int r t]) Q E s := by
  obtain ⟨o, ho, hc, n, hd⟩ := hl
  refine callType_new cb_called (by decide +kernel) (cb_tc _ _) (cb_nc _ _) (fun obj => F.args_object_init_3 obj _ _) cb_en (meets_cb l items r t hr) ⟨⟨o, n, ho, hc, hd, hz⟩, fun h' hs hk => ?_⟩
  have zs : (h'.push { cls := Value.type "tuple", data := Data.seq items }).objs.size = h'.objs.size + 1 := Heap.size_push ..
  have g1 : ((h'.push { cls := Value.type "tuple", data := Data.seq items }).push (combO h'.objs.size (if r > items.size then 2 else 0) .none (List.range r))).get? (h'.push { cls := Value.type "tuple", data := Data.seq items }).objs.size = some (combO h'.objs.size (if r > items.size then 2 else 0) .none (List.range r)) := Heap.get?_push_size _ rfl
  exact ⟨⟨_, g1, rfl⟩, h _ h'.objs.size _ g1 ⟨_, _, Heap.get?_push_of_some _ (Heap.get?_push_size _ rfl), rfl, rfl⟩ (by omega) (by omega) (by rw [zs]; exact Nat.ne_of_lt (Nat.lt_succ_self _)) fun b o' q => Heap.get?_push_of_some _ (Heap.get?_push_of_some _ (hk b o' q))⟩
theorem iter_cb {c p : Addr} {st : Int} {old : Value} {ix : List Nat} {Q : Value → Shared → Prop} (hit : s.heap.get? c = some (combO p st old ix)) (h : Q (.ref c) s) : wpAny (model prog w) A (pyIter (.ref c)) Q E s := by
  have hT : s.TypeIs (.ref c) "itertools.combinations" := ⟨_, hit, rfl⟩
  refine wpAny_pyIter_slot hT cb_iter (wpAny_call_entry cb_iter hT cb_ei ?_ (cb_ai _))
  show wpAny _ _ (ret (.ref c)) _ _ s
  exact wpAny_pure ⟨_, rfl, "itertools.combinations", _, hT, cb_next.lookup, h⟩
theorem nums_cb {c p : Addr} {st : Int} {old : Value} {ix : List Nat} {Q : List Nat → Shared → Prop} (hit : s.heap.get? c = some (combO p st old ix)) (h : Q ix s) : wpAny (model prog w) A (Builtin.Itertools.itNumbersFrom (.ref c) 3) Q E s := by
  unfold Builtin.Itertools.itNumbersFrom
  refine wpAny_bind (wpAny_load hit (wpAny_pure ?_))
  have e : ∀ ix : List Nat, List.map (fun v => match v with | .int n _ => n.toNat | _ => 0) (ix.map fun (i : Nat) => rawInt i) = ix := by
    intro ix
    rw [List.map_map]
    exact (List.map_congr_left fun i _ => Int.toNat_natCast i).trans (List.map_id _)
  have z : Q (List.map (fun v => match v with | .int n _ => n.toNat | _ => 0) (ix.map fun (i : Nat) => rawInt i)) s := by
    rw [e]
    exact h
  exact z
theorem int_cb {c p : Addr} {st : Int} {old : Value} {ix : List Nat} {Q : Int → Shared → Prop} (hit : s.heap.get? c = some (combO p st old ix)) (h : Q st s) : wpAny (model prog w) A (Builtin.Itertools.itIntField (.ref c) 1) Q E s := by
  unfold Builtin.Itertools.itIntField
  exact wpAny_bind (wpAny_field hit rfl (x := rawInt st) rfl (wpAny_pure h))
theorem pick_sz {items : Array Value} {ix : List Nat} (h : ix.length ≤ 1000) : (ix.map fun i => items.getD i .none).length ≤ sizeLine := by
  rw [List.length_map, sizeLine_eq]
  omega
abbrev pickO (items : Array Value) (ix : List Nat) : Obj := { cls := .type "tuple", data := .seq (ix.map fun i => items.getD i .none).toArray }
theorem pool_cb {p : Addr} {items : Array Value} {Q : Array Value → Shared → Prop} (hp : IsTupO s.heap p items) (h : Q items s) : wpAny (model prog w) A (Builtin.Itertools.itPoolItems (.ref p)) Q E s := by
  obtain ⟨o, n, ho, hc, hd⟩ := hp
  unfold Builtin.Itertools.itPoolItems
  refine wpAny_bind ?_
  show wpAny _ _ (load p >>= _) _ _ _
  refine wpAny_bind (wpAny_load ho ?_)
  rw [hd]
  exact wpAny_pure (wpAny_pure h)
theorem set_cb {h : Heap} {c p : Addr} {st : Int} {old : Value} {ix : List Nat} (hit : h.get? c = some (combO p st old ix)) (st' : Int) : (h.update c (Obj.mapFields fun x => x.setIfInBounds 1 (rawInt st'))).get? c = some (combO p st' old ix) := by
  rw [Heap.get?_update_self _ hit rfl]
  simp [combO, Obj.mapFields, cbF]
theorem setO_cb {h : Heap} {c p : Addr} {st : Int} {old new : Value} {ix : List Nat} (hit : h.get? c = some (combO p st old ix)) : (h.update c (Obj.mapFields fun x => x.setIfInBounds 2 new)).get? c = some (combO p st new ix) := by
  rw [Heap.get?_update_self _ hit rfl]
  simp [combO, Obj.mapFields, cbF]
/-- a choice handed out -/
theorem hand_cb {c p : Addr} {st : Int} {old : Value} {ix : List Nat} {items : Array Value} {Q : Fin → Shared → Prop} {pk : Value → List Nat → Sem Value} (hpk : ∀ v l, pk v l = (do let its ← Builtin.Itertools.itPoolItems v; newTuple (l.map fun i => its.getD i .none))) (hit : s.heap.get? c = some (combO p st old ix)) (hp : IsTupO s.heap p items) (hcp : p ≠ c) (hl : ix.length ≤ 1000) {z : Nat} (hz : s.heap.objs.size = z)
    (hQ : ∀ k' : Heap, k'.get? c = some (combO p st (.ref z) ix) → k'.get? z = some (pickO items ix) → k'.objs.size = z + 1 → (∀ b o, b ≠ c → s.heap.get? b = some o → k'.get? b = some o) → Q (.done (.ret (.ref z))) { s with heap := k' }) :
    wpAny (model prog w) A (do
        let result ← pk (.ref p) ix
        let before ← field (.ref c) 2
        setField (.ref c) 2 result
        letGo [before] [result]
        ret result) Q E s := by
  subst hz
  rw [hpk]
  refine wpAny_bind (wpAny_bind (pool_cb hp (wpAny_newTuple ?_ (pick_sz hl))))
  have lc := Heap.lt_size hit
  have h1 : (s.heap.push (pickO items ix)).get? c = some (combO p st old ix) := Heap.get?_push_of_some _ hit
  refine wpAny_bind (wpAny_field (s := { s with heap := s.heap.push (pickO items ix) }) h1 rfl (x := old) rfl ?_)
  refine wpAny_bind (wpAny_setField (s := { s with heap := s.heap.push (pickO items ix) }) h1 rfl (by simp) ?_)
  refine wpAny_bind (wpAny_letGo (wpAny_pure ?_))
  have h2 := setO_cb (new := .ref s.heap.objs.size) h1
  have ne : s.heap.objs.size ≠ c := Nat.ne_of_gt lc
  exact hQ _ h2 (by rw [Heap.get?_update_ne _ _ _ _ ne]; exact Heap.get?_push_size _ rfl) (by rw [Heap.size_update, Heap.size_push]) fun b o hb e => by
    rw [Heap.get?_update_ne _ _ _ _ hb]
    exact Heap.get?_push_of_some _ e
/-- the first choice -/
theorem next_cb0 {c p : Addr} {old : Value} {ix : List Nat} {items : Array Value} {Q : Option Value → Shared → Prop} (hit : s.heap.get? c = some (combO p 0 old ix)) (hp : IsTupO s.heap p items) (hcp : p ≠ c) (hl : ix.length ≤ 1000)
    (hQ : ∀ k', k'.get? c = some (combO p 1 (.ref s.heap.objs.size) ix) → k'.get? s.heap.objs.size = some (pickO items ix) → k'.objs.size = s.heap.objs.size + 1 → (∀ b o, b ≠ c → s.heap.get? b = some o → k'.get? b = some o) → Q (some (.ref s.heap.objs.size)) { s with heap := k' }) :
    wpAny (model prog w) A (pyNext (.ref c)) Q E s := by
  have ty : s.TypeIs (.ref c) "itertools.combinations" := ⟨_, hit, rfl⟩
  unfold pyNext
  refine wpAny_bind (wpAny_attempt (wpAny_callSpecial?_slot (name := Str.ofString "__next__") ty cb_next (wpAny_call_entry cb_next ty cb_ex ?_ (cb_ax _))))
  show wpAny _ _ (field (.ref c) 0 >>= _) _ _ s
  refine wpAny_bind (wpAny_field hit rfl (x := .ref p) rfl ?_)
  refine wpAny_bind (m := Builtin.Itertools.itNumbersFrom (.ref c) 3) (nums_cb hit ?_)
  refine wpAny_bind (m := Builtin.Itertools.itIntField (.ref c) 1) (int_cb hit ?_)
  have lc := Heap.lt_size hit
  refine wpAny_bind (m := setField (.ref c) 1 (rawInt 1)) (wpAny_setField hit rfl (by simp) ?_)
  have h1 := set_cb hit 1
  have hp1 : IsTupO (s.heap.update c (Obj.mapFields fun x => x.setIfInBounds 1 (rawInt 1))) p items := let ⟨o, n, ho, r⟩ := hp; ⟨o, n, by rw [Heap.get?_update_ne _ _ _ _ hcp]; exact ho, r⟩
  have zs : (s.heap.update c (Obj.mapFields fun x => x.setIfInBounds 1 (rawInt 1))).objs.size = s.heap.objs.size := Heap.size_update ..
  refine hand_cb (s := { s with heap := s.heap.update c (Obj.mapFields fun x => x.setIfInBounds 1 (rawInt 1)) }) (fun _ _ => rfl) h1 hp1 hcp hl zs fun k' a1 a2 a3 a4 => ⟨_, rfl, wpAny_pure (hQ k' a1 a2 a3 fun b o hb e => a4 b o hb ?_)⟩
  show (s.heap.update c _).get? b = some o
  rw [Heap.get?_update_ne _ _ _ _ hb]
  exact e
theorem nset_cb {c p : Addr} {st : Int} {old : Value} {ix jx : List Nat} {Q : Unit → Shared → Prop} (hl : jx.length ≤ 1000) (hit : s.heap.get? c = some (combO p st old ix)) (hQ : ∀ k' : Heap, k'.get? c = some (combO p st old jx) → k'.objs.size = s.heap.objs.size → (∀ b o, b ≠ c → s.heap.get? b = some o → k'.get? b = some o) → Q () { s with heap := k' }) : wpAny (model prog w) A (Builtin.Itertools.itSetNumbersFrom (.ref c) 3 jx) Q E s := by
  unfold Builtin.Itertools.itSetNumbersFrom
  refine wpAny_updateFields hit rfl (hQ _ ?_ (Heap.size_update ..) fun b o hb e => ?_) ?_
  · rw [Heap.get?_update_self _ hit rfl]
    simp [combO, Obj.mapFields, cbF]
  · rw [Heap.get?_update_ne _ _ _ _ hb]
    exact e
  · rw [sizeLine_eq]
    simp [cbF]
    omega
/-- the next choice -/
theorem next_cb1 {c p : Addr} {old : Value} {ix jx : List Nat} {items : Array Value} {Q : Option Value → Shared → Prop} (hit : s.heap.get? c = some (combO p 1 old ix)) (hp : IsTupO s.heap p items) (hcp : p ≠ c) (hl : jx.length ≤ 1000) (hn : nextC items.size ix = some jx)
    (hQ : ∀ k', k'.get? c = some (combO p 1 (.ref s.heap.objs.size) jx) → k'.get? s.heap.objs.size = some (pickO items jx) → k'.objs.size = s.heap.objs.size + 1 → (∀ b o, b ≠ c → s.heap.get? b = some o → k'.get? b = some o) → Q (some (.ref s.heap.objs.size)) { s with heap := k' }) :
    wpAny (model prog w) A (pyNext (.ref c)) Q E s := by
  have ty : s.TypeIs (.ref c) "itertools.combinations" := ⟨_, hit, rfl⟩
  unfold pyNext
  refine wpAny_bind (wpAny_attempt (wpAny_callSpecial?_slot (name := Str.ofString "__next__") ty cb_next (wpAny_call_entry cb_next ty cb_ex ?_ (cb_ax _))))
  show wpAny _ _ (field (.ref c) 0 >>= _) _ _ s
  refine wpAny_bind (wpAny_field hit rfl (x := .ref p) rfl ?_)
  refine wpAny_bind (m := Builtin.Itertools.itNumbersFrom (.ref c) 3) (nums_cb hit ?_)
  refine wpAny_bind (m := Builtin.Itertools.itIntField (.ref c) 1) (int_cb hit ?_)
  refine wpAny_bind (m := Builtin.Itertools.itPoolItems (.ref p)) (pool_cb hp ?_)
  split
  · rename_i kx heq
    have z : nextC items.size ix = some kx := heq
    have e : kx = jx := Option.some.inj (z.symm.trans hn)
    subst e
    refine wpAny_bind (nset_cb hl hit fun k1 h1 zs hk => ?_)
    have hp1 : IsTupO k1 p items := let ⟨o, n, ho, r⟩ := hp; ⟨o, n, hk p o hcp ho, r⟩
    exact hand_cb (s := { s with heap := k1 }) (fun _ _ => rfl) h1 hp1 hcp hl zs fun k' a1 a2 a3 a4 => ⟨_, rfl, wpAny_pure (hQ k' a1 a2 a3 fun b o hb e => a4 b o hb (hk b o hb e))⟩
  · rename_i heq
    have z : nextC items.size ix = none := heq
    rw [z] at hn
    cases hn
theorem stop_cb {α : Type} {Q : α → Shared → Prop} (hh : A.handled = none) (hQ : ∀ e h', CpRep.StopE e h' → (∀ b o, s.heap.get? b = some o → h'.get? b = some o) → E e { s with heap := h' }) : wpAny (model prog w) A (Builtin.Itertools.itStop : Sem α) Q E s := by
  unfold Builtin.Itertools.itStop
  simp only [newExc, newTuple, raiseNew]
  refine wpAny_bind (wpAny_bind ?_)
  refine wpAny_newObj_type ?_ (by size_fits)
  refine wpAny_bind (m := firstArgMember _ _) ?_
  refine wpAny_of_eq (a := Value.none) ?_ ?_
  · simp only [firstArgMember]
    rfl
  refine wpAny_newObj_type ?_ (by size_fits)
  refine wpAny_bind (wpAny_handled ?_)
  rw [hh]
  refine wpAny_bind (wpAny_pure (wpAny_throw ?_))
  refine hQ _ _ ⟨_, _, _, rfl, Heap.get?_push_size _ rfl, rfl, rfl, rfl⟩ fun b o e => ?_
  exact Heap.get?_push_of_some _ (Heap.get?_push_of_some _ e)
/-- no choice more -/
theorem next_cbE {c p : Addr} {st : Int} {old : Value} {ix : List Nat} {items : Array Value} {Q : Option Value → Shared → Prop} (hh : A.handled = none) (hit : s.heap.get? c = some (combO p st old ix)) (hp : IsTupO s.heap p items) (hn : (st = 1 ∧ nextC items.size ix = none) ∨ st = 2)
    (hQ : ∀ k' : Heap, (∀ b o, b ≠ c → s.heap.get? b = some o → k'.get? b = some o) → Q none { s with heap := k' }) :
    wpAny (model prog w) A (pyNext (.ref c)) Q E s := by
  have ty : s.TypeIs (.ref c) "itertools.combinations" := ⟨_, hit, rfl⟩
  unfold pyNext
  refine wpAny_bind (wpAny_attempt (wpAny_callSpecial?_slot (name := Str.ofString "__next__") ty cb_next (wpAny_call_entry cb_next ty cb_ex ?_ (cb_ax _))))
  show wpAny _ _ (field (.ref c) 0 >>= _) _ _ s
  refine wpAny_bind (wpAny_field hit rfl (x := .ref p) rfl ?_)
  refine wpAny_bind (m := Builtin.Itertools.itNumbersFrom (.ref c) 3) (nums_cb hit ?_)
  refine wpAny_bind (m := Builtin.Itertools.itIntField (.ref c) 1) (int_cb hit ?_)
  have fin : ∀ (k1 : Heap), (∀ b o, b ≠ c → s.heap.get? b = some o → k1.get? b = some o) → ∀ (e : Value) (h' : Heap), CpRep.StopE e h' → (∀ b o, k1.get? b = some o → h'.get? b = some o) →
      wpAny (model prog w) A (isInstance e (.type "StopIteration") >>= fun b => if b = true then pure none else throw e) Q E { s with heap := h' } := fun k1 hk e h' ⟨a, o, vs, he, ho, hc, _⟩ hx => by
    subst he
    exact wpAny_bind (wpAny_isInstance (T := "StopIteration") (b := true) ⟨o, ho, hc⟩ isSubtype_stop (wpAny_pure (hQ _ fun b o hb q => hx b o (hk b o hb q))))
  rcases hn with ⟨rfl, hn⟩ | rfl
  · refine wpAny_bind (m := Builtin.Itertools.itPoolItems (.ref p)) (pool_cb hp ?_)
    split
    · rename_i kx heq
      have z : nextC items.size ix = some kx := heq
      rw [z] at hn
      cases hn
    · refine wpAny_bind (wpAny_setField hit rfl (by simp) ?_)
      refine stop_cb (A := A.in1) hh fun e h' he hx => ?_
      exact fin _ (fun b o hb q => by rw [Heap.get?_update_ne _ _ _ _ hb]; exact q) e h' he hx
  · refine wpAny_bind (m := rule _) (wpAny_rule ?_)
    exact stop_cb (A := A.in1) hh fun e h' he hx => fin s.heap (fun b o _ q => q) e h' he hx
end
end Sq

/-! for x in combinations(l, r) -/
namespace Sq
open PySem PySem.Spec PyProof.Rows L2 Evl
structure CombSeq (n r : Nat) (cs : List (List Nat)) : Prop where
  none : n < r → cs = []
  first : r ≤ n → cs[0]? = some (List.range r)
  next : ∀ i x, cs[i]? = some x → nextC n x = cs[i + 1]?
  len : ∀ x ∈ cs, x.length ≤ 1000
def pickV (xs : List V) (ix : List Nat) : List V := ix.map fun k => xs.getD k .non
def Itcb (xs : List V) (cs : List (List Nat)) : It := ⟨fun i _ => i < cs.length, fun i H v H' => ∃ T ix, v = .ref T ∧ cs[i]? = some ix ∧ H T = none ∧ H' = upd H T (.tup (pickV xs ix)), fun i _ => cs.length ≤ i⟩
def StC (cs : List (List Nat)) (i : Nat) (st : Int) (ix : List Nat) : Prop := (i = 0 ∧ st = 0 ∧ cs[0]? = some ix) ∨ (i = 0 ∧ st = 2 ∧ cs = []) ∨ ∃ j, i = j + 1 ∧ st = 1 ∧ cs[j]? = some ix
theorem vals_pick {xs : List V} {its : List Value} (rv : Vals xs its) : ∀ ix : List Nat, Vals (pickV xs ix) (ix.map fun k => its.toArray.getD k .none)
  | [] => .nil
  | k :: r => by
    refine .cons ?_ (vals_pick rv r)
    have e : its.toArray.getD k .none = (its[k]?).getD .none := by simp [Array.getD_eq_getD_getElem?]
    have e2 : xs.getD k .non = (xs[k]?).getD .non := List.getD_eq_getElem?_getD
    show RelV (xs.getD k .non) (its.toArray.getD k .none)
    rw [e, e2]
    cases h : xs[k]? with
    | none =>
      rw [rv.none_of h]
      rfl
    | some x =>
      obtain ⟨u, h1, h2⟩ := rv.get h
      rw [h1]
      exact h2
theorem turn_comb {P : Program} {w : World} {K : PySem.W.Frag} {y : Str} {px : Pos} {n r : Nat} {cs : List (List Nat)} {xs : List V} {its : List Value} (e p : Addr) (rv : Vals xs its) (hn : xs.length = n) (C : CombSeq n r cs) :
    Turn P w K (.Name y px) (Itcb xs cs) [e, p] e (fun i h => IsTupO h p its.toArray ∧ p ≠ e ∧ ∃ old st ix, h.get? e = some (combO p st old ix) ∧ StC cs i st ix) where
  mem := by simp
  obj := fun i h ⟨⟨o, n, ho, hc, hd⟩, _, old, st, ix, he, _⟩ b hb => by
    have z : b = e ∨ b = p := by simpa using hb
    rcases z with rfl | rfl
    · exact ⟨_, he, fun v q => nomatch q⟩
    · exact ⟨o, ho, fun v q => by rw [hd] at q; cases q⟩
  keep := fun i h h' ⟨⟨o, n, ho, r⟩, hne, old, st, ix, he, z⟩ k => ⟨⟨o, n, k p (by simp) _ ho, r⟩, hne, old, st, ix, k e (by simp) _ he, z⟩
  item := by
    intro X hP hw hK hc i pins s σ H E I hf ⟨hp, hne, old, st, ix, he, hst⟩ hg
    subst hP hw hK
    have hi : i < cs.length := hg
    have hel : e < s.heap.objs.size := Heap.lt_size he
    have hpl : p < s.heap.objs.size := let ⟨_, _, q, _⟩ := hp; Heap.lt_size q
    have hsz : its.toArray.size = n := by
      rw [List.size_toArray, ← rv.length, hn]
    have out : ∀ (jx : List Nat), cs[i]? = some jx → ∀ k' : Heap, k'.get? e = some (combO p 1 (.ref s.heap.objs.size) jx) → k'.get? s.heap.objs.size = some (pickO its.toArray jx) → k'.objs.size = s.heap.objs.size + 1 → (∀ b o, b ≠ e → s.heap.get? b = some o → k'.get? b = some o) →
        (∃ u, some (Value.ref s.heap.objs.size) = some u ∧ wpAny (model X.prog X.w) X.A (letOwnedTupleGo (.Name y px) (.ref e) u) (fun _ s2 => ∃ x H', Inv X pins σ H' s2 ∧ RelV x u ∧ (Itcb xs cs).yld i H x H' ∧ (IsTupO s2.heap p its.toArray ∧ p ≠ e ∧ ∃ old st ix, s2.heap.get? e = some (combO p st old ix) ∧ StC cs (i + 1) st ix) ∧ ∀ b ∈ [e, p], H' b = none) E { s with heap := k' }) := fun jx hj k' a1 a2 a3 a4 => by
      refine ⟨_, rfl, ?_⟩
      show wpAny _ _ (pure ()) _ _ _
      have hl := C.len jx (List.mem_of_getElem? hj)
      have new : ObjOk X.prog X.w (upd H s.heap.objs.size (.tup (pickV xs jx))) k' s.heap.objs.size (.tup (pickV xs jx)) :=
        ⟨by unfold pickV; rw [List.length_map, sizeLine_eq]; omega, _, vals_pick rv jx, ⟨_, a2, rfl, _, rfl⟩⟩
      have I1 : Inv X pins σ (upd H s.heap.objs.size (.tup (pickV xs jx))) { s with heap := k' } :=
        I.turnedNew (t' := s.toks) (ch := [e, p]) (fun b ob hb q => a4 b ob (fun z => hb (by simp [z])) q) hf (Nat.le_refl _) new
      refine wpAny_pure ⟨.ref s.heap.objs.size, _, I1, rfl, ⟨_, jx, rfl, hj, I.hok.fresh (Nat.le_refl _), rfl⟩, ⟨let ⟨o, m, ho, r⟩ := hp; ⟨o, m, a4 p o hne ho, r⟩, hne, _, 1, jx, a1, .inr (.inr ⟨i, rfl, rfl, hj⟩)⟩, fun b hb => ?_⟩
      have z : b = e ∨ b = p := by simpa using hb
      have lb : b < s.heap.objs.size := by rcases z with rfl | rfl <;> assumption
      rw [upd_ne (Nat.ne_of_lt lb)]
      exact (hf b hb).1
    rcases hst with ⟨rfl, rfl, h0⟩ | ⟨rfl, rfl, h0⟩ | ⟨j, rfl, rfl, h0⟩
    · exact next_cb0 he hp hne (C.len ix (List.mem_of_getElem? h0)) (out ix h0)
    · rw [h0] at hi
      exact absurd hi (Nat.not_lt_zero _)
    · have hx := List.getElem?_eq_getElem hi
      refine next_cb1 (jx := cs[j + 1]) he hp hne (C.len _ (List.getElem_mem hi)) ?_ (out _ hx)
      rw [hsz, C.next j ix h0, hx]
  done := by
    intro X hP hw hK hc i pins s σ H E I hf ⟨hp, hne, old, st, ix, he, hst⟩ hg
    subst hP hw hK
    have hi : cs.length ≤ i := hg
    have hsz : its.toArray.size = n := by
      rw [List.size_toArray, ← rv.length, hn]
    refine next_cbE (I.ok.hd hc) he hp ?_ fun k' hk => ⟨rfl, I.turnedL (t' := s.toks) (ch := [e, p]) (fun b o hb q => hk b o (fun z => hb (by simp [z])) q) hf⟩
    rcases hst with ⟨rfl, rfl, h0⟩ | ⟨rfl, rfl, h0⟩ | ⟨j, rfl, rfl, h0⟩
    · have := (List.getElem?_eq_some_iff.mp h0).1
      omega
    · exact .inr rfl
    · refine .inl ⟨rfl, ?_⟩
      rw [hsz, C.next j ix h0]
      exact List.getElem?_eq_none hi
  self := fun A i s Q E ⟨_, _, old, st, ix, he, _⟩ h => iter_cb he h
def iComb (K : PySem.W.Frag) (ta : TA) : TI := fun σ H R => ta σ H fun vs H1 => ∃ (a : Addr) (xs : List V) (r : Nat), vs = [.ref a, .int r] ∧ SqL K H1 a xs ∧ r < 1000 ∧ xs.length ≤ 1000 ∧ ∃ cs, CombSeq xs.length r cs ∧ R (Itcb xs cs) H1
theorem pi_comb {X : Cx} {e1 e2 : Expr} {ta : TA} {p pos px : Pos} {y : Str} (hg : Gl X "combinations") (hm : X.mg "combinations" = some (.type "itertools.combinations")) (ha : PA X [e1, e2] ta)
    (hs : starEach [e1, e2] X.env = (false, eval e1 X.env) :: starEach [e2] X.env := by rfl) (hpl : (backTo pos (starEach [e2] X.env)).any (·.1) = false := by rfl) : PI X (.Name y px) (.Call (.Name "combinations" p) [e1, e2] [] pos) (iComb X.K ta) := by
  refine ⟨fun pins s σ H R I h => ?_⟩
  refine Call_ (ld_glob I hg hm (PyProof.Rows.callWith_type1 (thn (ha.run pos pins s σ H _ I h) fun us s1 ⟨vs, H1, I1, r1, q1⟩ => ?_) hs hpl))
  obtain ⟨a, xs, r, ex, hq, hr, hz, cs, C, q⟩ := q1
  subst ex
  obtain ⟨u1, u2, rfl, ra, rb⟩ := vals2 r1
  cases ra
  obtain ⟨t, rfl⟩ := rb
  obtain ⟨its, rv, pl, hz2⟩ := I1.list hq
  have hsz : its.toArray.size = xs.length := by rw [List.size_toArray, rv.length]
  refine call_cb pl.isList (by rw [hsz]; exact hz) hr fun k' p c hc hp gp gc hne hk => iter_cb (s := { s1 with heap := k' }) hc ?_
  have I2 : Inv X pins σ H1 { s1 with heap := k' } := I1.kept (t' := s1.toks) hk
  have st : StC cs 0 (if r > its.toArray.size then 2 else 0) (List.range r) := by
    rw [hsz]
    by_cases z : r > xs.length
    · rw [if_pos z]
      exact .inr (.inl ⟨rfl, rfl, C.none z⟩)
    · rw [if_neg z]
      exact .inl ⟨rfl, rfl, C.first (by omega)⟩
  refine ⟨c, [c, p], _, _, H1, rfl, I2, turn_comb c p rv rfl C, ⟨hp, hne, _, _, _, hc, st⟩, fun b hb => ?_, q⟩
  have z : b = c ∨ b = p := by simpa using hb
  have hle : s1.heap.objs.size ≤ b := by rcases z with rfl | rfl <;> assumption
  exact I1.fpOk hle (I1.hok.fresh hle)
end Sq

/-! polynomials over the sixteen symbols: as many points as coefficients fix them -/
namespace Sq
open PySem PySem.Spec PyProof.Rows L2 Evl
def Deg : Nat → (Int → Int) → Prop
  | 0, f => ∀ x, Sym x → f x = 0
  | k + 1, f => ∃ (c : Int) (g : Int → Int), Sym c ∧ Deg k g ∧ ∀ x, Sym x → f x = gadd c (gmul x (g x))
theorem deg_sym : ∀ {k : Nat} {f : Int → Int}, Deg k f → ∀ x, Sym x → Sym (f x)
  | 0, f, h, x, hx => by
    rw [h x hx]
    exact sym_0
  | k + 1, f, ⟨c, g, hc, hg, h⟩, x, hx => by
    rw [h x hx]
    exact sym_add hc (sym_mul hx (deg_sym hg x hx))
theorem deg_congr : ∀ {k : Nat} {f f' : Int → Int}, Deg k f → (∀ x, Sym x → f' x = f x) → Deg k f'
  | 0, _, _, h, e => fun x hx => (e x hx).trans (h x hx)
  | _ + 1, _, _, ⟨c, g, hc, hg, h⟩, e => ⟨c, g, hc, hg, fun x hx => (e x hx).trans (h x hx)⟩
theorem ga_zero {a : Int} (ha : Sym a) : gadd 0 a = a := sym1 (p := fun a => gadd 0 a = a) (by decide +kernel) ha
theorem ga_lc {a b c : Int} (ha : Sym a) (hb : Sym b) (hc : Sym c) : gadd a (gadd b c) = gadd b (gadd a c) := sym3 (p := fun a b c => gadd a (gadd b c) = gadd b (gadd a c)) (by decide +kernel) ha hb hc
theorem ga_e1 {a u w : Int} (ha : Sym a) (hu : Sym u) (hw : Sym w) : gadd (gadd a u) w = gadd (gadd a w) u := sym3 (p := fun a u w => gadd (gadd a u) w = gadd (gadd a w) u) (by decide +kernel) ha hu hw
theorem ga_e2 {c u z : Int} (hc : Sym c) (hu : Sym u) (hz : Sym z) : gadd (gadd c u) (gadd z u) = gadd c z := sym3 (p := fun c u z => gadd (gadd c u) (gadd z u) = gadd c z) (by decide +kernel) hc hu hz
theorem gm_lc {a b c : Int} (ha : Sym a) (hb : Sym b) (hc : Sym c) : gmul a (gmul b c) = gmul b (gmul a c) := sym3 (p := fun a b c => gmul a (gmul b c) = gmul b (gmul a c)) (by decide +kernel) ha hb hc
theorem ga_mid {c p d q : Int} (hc : Sym c) (hp : Sym p) (hd : Sym d) (hq : Sym q) : gadd (gadd c p) (gadd d q) = gadd (gadd c d) (gadd p q) := by
  rw [gadd_assoc hc hp (sym_add hd hq), ga_lc hp hd hq, ← gadd_assoc hc hd (sym_add hp hq)]
theorem deg_add : ∀ {k : Nat} {f g : Int → Int}, Deg k f → Deg k g → Deg k (fun x => gadd (f x) (g x))
  | 0, f, g, hf, hg => fun x hx => by
    show gadd (f x) (g x) = 0
    rw [hf x hx, hg x hx]
    rfl
  | k + 1, f, g, ⟨c, f', hc, hf, ef⟩, ⟨d, g', hd, hg, eg⟩ => ⟨gadd c d, fun x => gadd (f' x) (g' x), sym_add hc hd, deg_add hf hg, fun x hx => by
    have s1 := deg_sym hf x hx
    have s2 := deg_sym hg x hx
    show gadd (f x) (g x) = gadd (gadd c d) (gmul x (gadd (f' x) (g' x)))
    rw [ef x hx, eg x hx, gmul_add hx s1 s2, ga_mid hc (sym_mul hx s1) hd (sym_mul hx s2)]⟩
theorem deg_smul : ∀ {k : Nat} {f : Int → Int} {s : Int}, Sym s → Deg k f → Deg k (fun x => gmul s (f x))
  | 0, f, s, hs, hf => fun x hx => by
    show gmul s (f x) = 0
    rw [hf x hx]
    exact gmul_zero hs
  | k + 1, f, s, hs, ⟨c, f', hc, hf, ef⟩ => ⟨gmul s c, fun x => gmul s (f' x), sym_mul hs hc, deg_smul hs hf, fun x hx => by
    have s1 := deg_sym hf x hx
    show gmul s (f x) = gadd (gmul s c) (gmul x (gmul s (f' x)))
    rw [ef x hx, gmul_add hs hc (sym_mul hx s1), gm_lc hs hx s1]⟩
theorem deg_zero : ∀ k : Nat, Deg k (fun _ => 0)
  | 0 => fun _ _ => rfl
  | k + 1 => ⟨0, fun _ => 0, sym_0, deg_zero k, fun x hx => by
    rw [gmul_zero hx]
    rfl⟩
theorem deg_succ : ∀ {k : Nat} {f : Int → Int}, Deg k f → Deg (k + 1) f
  | 0, f, h => ⟨0, fun _ => 0, sym_0, deg_zero 0, fun x hx => by
    rw [h x hx, gmul_zero hx]
    rfl⟩
  | k + 1, f, ⟨c, g, hc, hg, h⟩ => ⟨c, g, hc, deg_succ hg, h⟩
theorem deg_mono {k m : Nat} {f : Int → Int} (h : k ≤ m) (d : Deg k f) : Deg m f := by
  induction m with
  | zero =>
    have e : k = 0 := by omega
    exact e ▸ d
  | succ m ih =>
    by_cases e : k = m + 1
    · exact e ▸ d
    · exact deg_succ (ih (by omega))
theorem deg_const {v : Int} (hv : Sym v) : Deg 1 (fun _ => v) := ⟨v, fun _ => 0, hv, deg_zero 0, fun x hx => by
  rw [gmul_zero hx]
  exact (gadd_zero hv).symm⟩
theorem deg_lin {k : Nat} {g : Int → Int} {s : Int} (hs : Sym s) (hg : Deg k g) : Deg (k + 1) (fun x => gmul (g x) (gadd x s)) := by
  have h1 : Deg (k + 1) (fun x => gmul x (g x)) := ⟨0, g, sym_0, hg, fun x hx => (ga_zero (sym_mul hx (deg_sym hg x hx))).symm⟩
  refine deg_congr (deg_add h1 (deg_succ (deg_smul hs hg))) fun x hx => ?_
  have s1 := deg_sym hg x hx
  show gmul (g x) (gadd x s) = gadd (gmul x (g x)) (gmul s (g x))
  rw [gmul_add s1 hx hs, gmul_comm s1 hx, gmul_comm s1 hs]
/-- what is left when f's value at r is taken off -/
theorem deg_off : ∀ {k : Nat} {f : Int → Int} {r : Int}, Sym r → Deg (k + 1) f → ∃ g, Deg k g ∧ ∀ x, Sym x → f x = gadd (f r) (gmul (gadd x r) (g x))
  | 0, f, r, hr, ⟨c, h, hc, hh, ef⟩ => ⟨fun _ => 0, deg_zero 0, fun x hx => by
    rw [ef x hx, ef r hr, hh x hx, hh r hr, gmul_zero hx, gmul_zero hr, gmul_zero (sym_add hx hr), gadd_zero (sym_add hc sym_0)]⟩
  | k + 1, f, r, hr, ⟨c, h, hc, hh, ef⟩ => by
    obtain ⟨h', dh, eh⟩ := deg_off hr hh
    have shr := deg_sym hh r hr
    refine ⟨fun x => gadd (h r) (gmul x (h' x)), ⟨h r, h', shr, dh, fun _ _ => rfl⟩, fun x hx => ?_⟩
    have s' := deg_sym dh x hx
    have sd := sym_add hx hr
    have sxh := sym_mul hx s'
    have sw := sym_mul sd sxh
    show f x = gadd (f r) (gmul (gadd x r) (gadd (h r) (gmul x (h' x))))
    rw [ef x hx, ef r hr, eh x hx, gmul_add hx shr (sym_mul sd s'), gm_lc hx sd s', gmul_add sd shr sxh, gm_add hx hr shr,
      ga_e1 (sym_mul hx shr) (sym_mul hr shr) sw, ga_e2 hc (sym_mul hr shr) (sym_add (sym_mul hx shr) sw)]
theorem gmul_0 {a b : Int} (ha : Sym a) (hb : Sym b) (h : gmul a b = 0) (h0 : a ≠ 0) : b = 0 := sym2 (p := fun a b => gmul a b = 0 → a ≠ 0 → b = 0) (by decide +kernel) ha hb h h0
/-- as many roots as coefficients -/
theorem deg_roots : ∀ {k : Nat} {f : Int → Int} {rs : List Int}, Deg k f → rs.Nodup → rs.length = k → (∀ r ∈ rs, Sym r ∧ f r = 0) → ∀ x, Sym x → f x = 0
  | 0, f, _, h, _, _, _ => h
  | k + 1, f, [], h, _, hl, _ => by cases hl
  | k + 1, f, r :: rs, h, hn, hl, hr => fun x hx => by
    obtain ⟨sr, fr⟩ := hr r List.mem_cons_self
    obtain ⟨g, dg, eg⟩ := deg_off sr h
    rw [List.nodup_cons] at hn
    have hl' : rs.length = k := by
      rw [List.length_cons] at hl
      omega
    have z : ∀ q ∈ rs, Sym q ∧ g q = 0 := fun q hq => by
      obtain ⟨sq, fq⟩ := hr q (List.mem_cons_of_mem _ hq)
      have e := eg q sq
      have sg := deg_sym dg q sq
      rw [fq, fr, ga_zero (sym_mul (sym_add sq sr) sg)] at e
      exact ⟨sq, gmul_0 (sym_add sq sr) sg e.symm (gadd_ne sq sr fun y => hn.1 (y ▸ hq))⟩
    rw [eg x hx, fr, deg_roots dg hn.2 hl' z x hx, gmul_zero (sym_add hx sr)]
    rfl
/-! ### the form of Lagrange is such a polynomial -/
theorem deg_dskip {s : Int} : ∀ {ks : List Int} {m : Nat} {f : Int → Int}, (∀ k ∈ ks, Sym k) → Deg m f → Deg (m + ks.length) (fun a => dskip s a ks (f a))
  | [], m, f, _, h => h
  | k :: ks, m, f, hs, h => by
    have hk := hs k List.mem_cons_self
    have hh : ∀ x ∈ ks, Sym x := fun x hx => hs x (List.mem_cons_of_mem _ hx)
    rw [List.length_cons]
    by_cases e : k = s
    · refine deg_mono (by omega) (deg_congr (deg_dskip (s := s) hh h) fun a _ => ?_)
      show dskip s a ks (if k = s then f a else gmul (f a) (gadd a k)) = _
      rw [if_pos e]
    · refine deg_mono (by omega) (deg_congr (deg_dskip (s := s) hh (deg_lin hk h)) fun a _ => ?_)
      show dskip s a ks (if k = s then f a else gmul (f a) (gadd a k)) = _
      rw [if_neg e]
theorem deg_dskip1 {s : Int} : ∀ {ks : List Int} {m : Nat} {f : Int → Int}, (∀ k ∈ ks, Sym k) → s ∈ ks → Deg m f → Deg (m + (ks.length - 1)) (fun a => dskip s a ks (f a))
  | [], _, _, _, h, _ => nomatch h
  | k :: ks, m, f, hs, hmem, h => by
    have hk := hs k List.mem_cons_self
    have hh : ∀ x ∈ ks, Sym x := fun x hx => hs x (List.mem_cons_of_mem _ hx)
    rw [List.length_cons]
    by_cases e : k = s
    · refine deg_mono (by omega) (deg_congr (deg_dskip (s := s) hh h) fun a _ => ?_)
      show dskip s a ks (if k = s then f a else gmul (f a) (gadd a k)) = _
      rw [if_pos e]
    · have hin : s ∈ ks := by
        rcases List.mem_cons.mp hmem with z | z
        · exact absurd z.symm e
        · exact z
      have hpos : 0 < ks.length := List.length_pos_of_mem hin
      refine deg_mono (by omega) (deg_congr (deg_dskip1 (s := s) hh hin (deg_lin hk h)) fun a _ => ?_)
      show dskip s a ks (if k = s then f a else gmul (f a) (gadd a k)) = _
      rw [if_neg e]
theorem gdiv_mul1 {a b : Int} (ha : Sym a) (hb : Sym b) (h : b ≠ 0) : gdiv a b = gmul (gdiv 1 b) a := sym2 (p := fun a b => b ≠ 0 → gdiv a b = gmul (gdiv 1 b) a) (by decide +kernel) ha hb h
theorem deg_ltail {ks : List Int} (hs : ∀ k ∈ ks, Sym k) : ∀ {qs : Pts} {f : Int → Int}, (∀ p ∈ qs, p.1 ∈ ks ∧ Sym p.2) → Deg ks.length f → Deg ks.length (fun a => ltail a ks qs (f a))
  | [], _, _, h => h
  | (k, v) :: r, f, hq, h => by
    have hp := hq (k, v) List.mem_cons_self
    have hh : ∀ p ∈ r, p.1 ∈ ks ∧ Sym p.2 := fun x hx => hq x (List.mem_cons_of_mem _ hx)
    have sk := hs k hp.1
    have sD := dprod_sym sk hs sym_1
    have nD := dprod_ne sk hs sym_1 (by decide)
    have hpos : 0 < ks.length := List.length_pos_of_mem hp.1
    have d1 : Deg ks.length (fun a => dskip k a ks v) := by
      have z := deg_dskip1 (s := k) hs hp.1 (deg_const hp.2)
      exact deg_mono (by omega) z
    have d2 : Deg ks.length (fun a => gdiv (dskip k a ks v) (dprod k ks 1)) := deg_congr (deg_smul (sym_div sym_1 sD) d1) fun a ha => gdiv_mul1 (dskip_sym ha hs hp.2) sD nD
    exact deg_ltail (qs := r) hs hh (deg_add h d2)
theorem dskip_hit {s a : Int} (ha : Sym a) (hne : a ≠ s) : ∀ {ks : List Int} {r : Int}, (∀ k ∈ ks, Sym k) → a ∈ ks → Sym r → dskip s a ks r = 0
  | [], _, _, h, _ => nomatch h
  | k :: ks, r, hs, hmem, hr => by
    have hk := hs k List.mem_cons_self
    have hh : ∀ x ∈ ks, Sym x := fun x hx => hs x (List.mem_cons_of_mem _ hx)
    show dskip s a ks (if k = s then r else gmul r (gadd a k)) = 0
    by_cases e : k = a
    · subst e
      rw [if_neg hne, gadd_self hk, dskip_mul hk hh hr sym_0]
      exact gmul_zero (dskip_sym hk hh hr)
    · have hin : a ∈ ks := by
        rcases List.mem_cons.mp hmem with z | z
        · exact absurd z.symm e
        · exact z
      split
      · exact dskip_hit ha hne hh hin hr
      · exact dskip_hit ha hne hh hin (sym_mul hr (sym_add ha hk))
theorem gdm {a b : Int} (ha : Sym a) (hb : Sym b) (h : b ≠ 0) : gdiv (gmul b a) b = a := sym2 (p := fun a b => b ≠ 0 → gdiv (gmul b a) b = a) (by decide +kernel) ha hb h
theorem ltail_key {a : Int} {ks : List Int} (hs : ∀ k ∈ ks, Sym k) (ha : a ∈ ks) : ∀ {qs : Pts} {t : Int}, (ksV qs).Nodup → (∀ p ∈ qs, p.1 ∈ ks ∧ Sym p.2) → Sym t → ltail a ks qs t = gadd t ((qs.lookup a).getD 0)
  | [], t, _, _, ht => (gadd_zero ht).symm
  | (k, v) :: r, t, hn, hq, ht => by
    have sa := hs a ha
    have hp := hq (k, v) List.mem_cons_self
    have hh : ∀ p ∈ r, p.1 ∈ ks ∧ Sym p.2 := fun x hx => hq x (List.mem_cons_of_mem _ hx)
    have sk := hs k hp.1
    have sD := dprod_sym sk hs sym_1
    have nD := dprod_ne sk hs sym_1 (by decide)
    have hn' : k ∉ ksV r ∧ (ksV r).Nodup := List.nodup_cons.mp hn
    show ltail a ks r (gadd t (gdiv (dskip k a ks v) (dprod k ks 1))) = _
    by_cases e : a = k
    · subst e
      have e1 : dskip a a ks v = gmul (dprod a ks 1) v := by
        have z := dskip_mul (s := a) sk hs sym_1 hp.2 (ks := ks)
        rw [gm_one hp.2] at z
        rw [z, dskip_self]
      rw [e1, gdm hp.2 sD nD, ltail_key hs ha hn'.2 hh (sym_add ht hp.2), List.lookup_cons, beq_self_eq_true]
      have no : r.lookup a = none := by
        cases z : r.lookup a with
        | none => rfl
        | some w => exact absurd (List.mem_map.mpr ⟨_, lookup_mem z, rfl⟩) hn'.1
      rw [no]
      exact gadd_zero (sym_add ht hp.2)
    · rw [dskip_hit sa e hs ha hp.2, show gdiv 0 (dprod k ks 1) = 0 from if_pos rfl, gadd_zero ht, ltail_key hs ha hn'.2 hh ht, List.lookup_cons, beq_eq_false_iff_ne.mpr e]
theorem lagr_all {ps : Pts} {a : Int} (ok : PtsOk ps) (ha : Sym a) : lagr ps a = ltail a (ksV ps) ps 0 := by
  by_cases h : a ∈ ksV ps
  · have hq : ∀ p ∈ ps, p.1 ∈ ksV ps ∧ Sym p.2 := fun p hp => ⟨List.mem_map.mpr ⟨p, hp, rfl⟩, (ok.1 p hp).2⟩
    rw [ltail_key ok.ks h ok.2.1 hq sym_0]
    obtain ⟨p, hp, e⟩ := List.mem_map.mp h
    obtain ⟨i, hi⟩ := List.mem_iff_getElem?.mp hp
    have z := lookup_of ok.2.1 hi
    rw [e] at z
    unfold lagr
    rw [z]
    exact (ga_zero (ok.1 p hp).2).symm
  · exact lagr_tail ok ha h
theorem deg_lagr {ps : Pts} (ok : PtsOk ps) : Deg ps.length (lagr ps) := by
  have hq : ∀ p ∈ ps, p.1 ∈ ksV ps ∧ Sym p.2 := fun p hp => ⟨List.mem_map.mpr ⟨p, hp, rfl⟩, (ok.1 p hp).2⟩
  have z := deg_ltail ok.ks hq (deg_zero (ksV ps).length)
  have e : (ksV ps).length = ps.length := List.length_map _
  rw [e] at z
  exact deg_congr z fun a ha => lagr_all ok ha
/-- as many points of the form as it has lead back to it -/
theorem lagr_back {ps qs : Pts} (ok : PtsOk ps) (ok2 : PtsOk qs) (hl : ps.length ≤ qs.length) (h : ∀ q ∈ qs, q.2 = lagr ps q.1) {a : Int} (ha : Sym a) : lagr qs a = lagr ps a := by
  have d := deg_add (deg_lagr ok2) (deg_mono hl (deg_lagr ok))
  have z := deg_roots d ok2.2.1 (List.length_map _) (fun r hr => ?_) a ha
  · have s1 := lagr_sym ok2 ha
    have s2 := lagr_sym ok ha
    exact sym2 (p := fun x y => gadd x y = 0 → x = y) (by decide +kernel) s1 s2 z
  · obtain ⟨q, hq, rfl⟩ := List.mem_map.mp hr
    obtain ⟨i, hi⟩ := List.mem_iff_getElem?.mp hq
    have e := lookup_of ok2.2.1 hi
    have e1 : lagr qs q.1 = q.2 := by
      unfold lagr
      rw [e]
    refine ⟨(ok2.1 q hq).1, ?_⟩
    show gadd (lagr qs q.1) (lagr ps q.1) = 0
    rw [e1, h q hq]
    exact gadd_self (lagr_sym ok (ok2.1 q hq).1)
end Sq

/-! for i, x in enumerate(t), t a tuple -/
namespace Sq
open PySem PySem.Spec PyProof.Rows L2 Evl
def Itet (K : PySem.W.Frag) (a : Addr) : It :=
  ⟨fun i H => ∃ (xs : List V) (x : V), SqT K H a xs ∧ xs[i]? = some x, fun i H v H' => ∃ T x, v = .ref T ∧ H T = none ∧ H' = upd H T (.tup [.int (i : Nat), x]) ∧ ∀ xs, SqT K H a xs → xs[i]? = some x, fun i H => ∃ xs : List V, SqT K H a xs ∧ xs.length = i⟩
theorem turn_enumT {P : Program} {w : World} {K : PySem.W.Frag} {elts : List Expr} {kk : Nat} {tpos : Pos} (a e it : Addr) :
    Turn P w K (.Tuple elts kk tpos) (Itet K a) [e, it] e (fun i h => (∃ old, IsEnum h e it ((i : Nat) : Int) old) ∧ h.IsTupleIter it a i ∧ e ≠ it) where
  mem := by simp
  obj := fun i h ⟨⟨old, he⟩, ⟨o, ho, hc, hd⟩, _⟩ b hb => by
    have z : b = e ∨ b = it := by simpa using hb
    rcases z with rfl | rfl
    · exact ⟨_, he, fun v q => nomatch q⟩
    · exact ⟨o, ho, fun v q => by rw [hd] at q; cases q⟩
  keep := fun i h h' ⟨⟨old, he⟩, ⟨o, ho, r⟩, hne⟩ k => ⟨⟨old, k e (by simp) _ he⟩, ⟨o, k it (by simp) _ ho, r⟩, hne⟩
  item := by
    intro X hP hw hK hc i pins s σ H E I hf ⟨⟨old, he⟩, hit, hne⟩ ⟨xs, x, hq, hx⟩
    subst hP hw hK
    obtain ⟨its, rv, p, hz⟩ := I.tuple hq
    obtain ⟨u, hu, ru⟩ := rv.get hx
    have hel : e < s.heap.objs.size := Heap.lt_size he
    have hil : it < s.heap.objs.size := by obtain ⟨_, q, _⟩ := hit; exact Heap.lt_size q
    have hai : a ≠ it := fun z => by
      obtain ⟨o, ho, hc1, _⟩ := hit
      obtain ⟨o2, ho2, hc2, _⟩ := p
      rw [z, ho] at ho2
      cases ho2
      rw [hc1] at hc2
      exact absurd (Value.type.inj hc2) (by decide)
    have hae : a ≠ e := fun z => by
      obtain ⟨o2, ho2, hc2, _⟩ := p
      rw [z, he] at ho2
      cases ho2
      exact absurd (Value.type.inj hc2) (by decide)
    have D : Draws X.prog X.w X.A.in1 it [it, a] its.toArray.size (fun i v => its.toArray[i]? = some v) (fun i h => h.IsTupleIter it a i ∧ h.IsTuple a its.toArray) := Draws.tuple (A := X.A.in1) (I.ok.hd hc) it a hai its.toArray
    have eN : e ∉ [it, a] := by
      simp only [List.mem_cons, List.not_mem_nil, or_false, not_or]
      exact ⟨hne, fun z => hae z.symm⟩
    have hlt : i < its.toArray.size := by
      rw [List.size_toArray]
      exact (List.getElem?_eq_some_iff.mp hu).1
    refine wpAny_pyNext_enum_itemC D he ⟨hit, p⟩ hlt hne eN fun y h' tk hy ho hz' hT hsz hk => ?_
    have ey : y = u := by
      have z : its[i]? = some y := by simpa using hy
      rw [hu] at z
      exact (Option.some.inj z).symm
    subst ey
    refine ⟨_, rfl, wpAny_letOwnedTupleGo_enum (s := { s with heap := h', toks := tk + 1 }) ho fun h'' he' sb => ?_⟩
    have hT2 : h''.get? s.heap.objs.size = some { cls := .type "tuple", data := .seq #[.int i tk, y] } := (sb.2 _ (Nat.ne_of_gt hel)).trans hT
    have new : ObjOk X.prog X.w (upd H s.heap.objs.size (.tup [.int (i : Nat), x])) h'' s.heap.objs.size (.tup [.int (i : Nat), x]) :=
      ⟨by show 2 ≤ sizeLine; decide, [.int i tk, y], .cons ⟨_, rfl⟩ (.cons ru .nil), ⟨_, hT2, rfl, _, rfl⟩⟩
    have I1 : Inv X pins σ (upd H s.heap.objs.size (.tup [.int (i : Nat), x])) { s with heap := h'', toks := tk + 1 } :=
      I.turnedNew (ch := [e, it]) (fun b ob hb q => (sb.2 b (fun z => hb (by simp [z]))).trans (hk b ob (fun z => hb (by simp [z])) (fun z => hb (by simp [z])) q)) hf (Nat.le_refl _) new
    refine ⟨.ref s.heap.objs.size, _, I1, rfl, ⟨_, x, rfl, I.hok.fresh (Nat.le_refl _), rfl, fun ys hy => by rw [I.tuple_inj hy hq]; exact hx⟩, ⟨⟨y, ?_⟩, let ⟨o, q, r⟩ := hz'.1; ⟨o, (sb.2 it (Ne.symm hne)).trans q, r⟩, hne⟩, fun b hb => ?_⟩
    · have e1 : ((i + 1 : Nat) : Int) = (i : Int) + 1 := by omega
      rw [e1]
      exact he'
    · have hb' : b < s.heap.objs.size := by
        have z : b = e ∨ b = it := by simpa using hb
        rcases z with rfl | rfl <;> assumption
      rw [upd_ne (Nat.ne_of_lt hb')]
      exact (hf b hb).1
  done := by
    intro X hP hw hK hc i pins s σ H E I hf ⟨⟨old, he⟩, hit, hne⟩ ⟨xs, hq, hx⟩
    subst hP hw hK
    obtain ⟨its, rv, p, hz⟩ := I.tuple hq
    have hai : a ≠ it := fun z => by
      obtain ⟨o, ho, hc1, _⟩ := hit
      obtain ⟨o2, ho2, hc2, _⟩ := p
      rw [z, ho] at ho2
      cases ho2
      rw [hc1] at hc2
      exact absurd (Value.type.inj hc2) (by decide)
    have hlen : its.toArray.size = i := by rw [List.size_toArray, ← rv.length, hx]
    have D : Draws X.prog X.w X.A.in1 it [it, a] its.toArray.size (fun i v => its.toArray[i]? = some v) (fun i h => h.IsTupleIter it a i ∧ h.IsTuple a its.toArray) := Draws.tuple (A := X.A.in1) (I.ok.hd hc) it a hai its.toArray
    obtain ⟨f0, f1, f2, f3, f4, f5⟩ := hf it (by simp)
    exact next_end D he rfl ⟨hlen ▸ hit, p⟩ fun k' hk => ⟨rfl, I.turned (t' := s.toks) (fun b o hb q => hk b o hb q) f0 f1 f3 f4 f5⟩
  self := fun A i s Q E st h => let ⟨⟨_, he⟩, _⟩ := st; wpAny_pyIter_enum he h
def iEnumT (K : PySem.W.Frag) (ta : TA) : TI := fun σ H R => ta σ H fun vs H1 => ∃ a xs, vs = [.ref a] ∧ SqT K H1 a xs ∧ R (Itet K a) H1
theorem pi_enumT {X : Cx} {e : Expr} {ta : TA} {p pos tpos : Pos} {elts : List Expr} {kk : Nat} (hg : Gl X "enumerate") (hm : X.mg "enumerate" = none) (ha : PA X [e] ta) (hs : starEach [e] X.env = [(false, eval e X.env)] := by rfl) :
    PI X (.Tuple elts kk tpos) (.Call (.Name "enumerate" p) [e] [] pos) (iEnumT X.K ta) := by
  refine ⟨fun pins s σ H R I h => ?_⟩
  refine Call_ (ld_blt I hg hm boot_enumerate (PyProof.Rows.callWith_type1 (thn (ha.run pos pins s σ H _ I h) fun us s1 ⟨vs, H1, I1, r1, q1⟩ => ?_) hs rfl))
  obtain ⟨a, xs, ex, hq, q⟩ := q1
  subst ex
  obtain ⟨u, rfl, r⟩ := vals1 r1
  cases r
  obtain ⟨its, rv, pt, hz⟩ := I1.tuple hq
  refine enum1_begins (begins_tuple a its.toArray) (show s1.heap.IsTuple a its.toArray from pt) fun k' hE hI hsz hk => wpAny_pyIter_enum hE ?_
  have I2 : Inv X pins σ H1 { s1 with heap := k' } := I1.kept (t' := s1.toks) hk
  refine ⟨s1.heap.objs.size + 1, [s1.heap.objs.size + 1, s1.heap.objs.size], _, _, H1, rfl, I2, turn_enumT a (s1.heap.objs.size + 1) s1.heap.objs.size, ⟨⟨.none, hE⟩, ⟨_, hI, rfl, rfl⟩, Nat.succ_ne_self _⟩, fun b hb => ?_, q⟩
  have z : b = s1.heap.objs.size + 1 ∨ b = s1.heap.objs.size := by simpa using hb
  have hle : s1.heap.objs.size ≤ b := by
    rcases z with rfl | rfl
    · exact Nat.le_succ _
    · exact Nat.le_refl _
  exact I1.fpOk hle (I1.hok.fresh hle)
end Sq

/-! comprehensions over numbered tuples; promises of the decoding defs -/
namespace Sq
open PySem PySem.Spec PyProof.Rows L2 Evl
section
variable {K : PySem.W.Frag} {σ : L2.St} {H : Hp} {ta tb te : TE} {t : TT}
/-- [.. for i, x in enumerate(t) if ..] -/
theorem el_lcET {a : Addr} {xs : List V} {i j : Nat} {vs : List Nat} (f : Nat → Bool) (v : Nat → V) (h : Ev ta σ H (.ref a)) (hx : SqT K H a xs) (hz : xs.length ≤ 40000)
    (hw : ∀ x y, wipe (((wipe σ vs).set i (some x)).set j (some y)) vs = wipe σ vs)
    (ht : ∀ (n : Nat) (x : V) H1, Ex H H1 → xs[n]? = some x → EvT t (((wipe σ vs).set i (some (.int (n : Int)))).set j (some x)) H1 (f n))
    (he : ∀ (n : Nat) (x : V) H1, Ex H H1 → xs[n]? = some x → f n = true → Ev te (((wipe σ vs).set i (some (.int (n : Int)))).set j (some x)) H1 (v n)) :
    EvL (tLc (iEnumT K (tCons ta tNil)) (gTup K 2 (gCons (gName i) (gCons (gName j) gNil))) t te vs) σ H (given xs.length f v) := fun H0 e Q q => h H0 e _ fun H1 e1 => ⟨a, xs, rfl, ex_t (e.trans e1) hx, fun Dl hD => by
  have e01 := e.trans e1
  refine ⟨fun n m H' => m = xs.length - n ∧ n ≤ xs.length ∧ Cw H1 f v Dl n H', ⟨xs.length, by simp, Nat.zero_le _, hD, Ex.new hD, upd_same⟩, ?_⟩
  rintro n m H' ⟨rfl, hn, p⟩
  have hx' : SqT K H' a xs := ex_t (e01.trans p.2.1) hx
  by_cases hlt : n < xs.length
  · have hxn := List.getElem?_eq_getElem hlt
    refine .inr ⟨⟨xs, xs[n], hx', hxn⟩, Cw H1 f v Dl (n + 1), fun H2 p2 => ⟨xs.length - (n + 1), by omega, rfl, hlt, p2⟩, fun y H2 hy => ?_⟩
    obtain ⟨T, x, rfl, hT, rfl, hxx⟩ := hy
    have hx2 := hxx xs hx'
    have ne : T ≠ Dl := fun z => by
      rw [z, p.2.2] at hT
      cases hT
    have p2 : Cw H1 f v Dl n (upd H' T (.tup [.int (n : Nat), x])) := ⟨p.1, p.2.1.trans (Ex.new hT), by rw [upd_ne (Ne.symm ne)]; exact p.2.2⟩
    refine ⟨T, _, rfl, st_of upd_same, rfl, _, _, rfl, _, _, rfl, rfl, hw _ _, ?_⟩
    exact cw_turn p2 (by omega) (ht n x H1 e01 hx2) (fun hf => he n x H1 e01 hx2 hf)
  · have en : n = xs.length := by omega
    subst en
    exact .inl ⟨⟨xs, hx', rfl⟩, q Dl H' (fresh_back e1 p.1) (e1.trans p.2.1) p.2.2⟩⟩
end
/-! ### what is known of a block -/
/-- the entries of a received block: a symbol, or none -/
def entV (r : List (Option Int)) : List V := r.map fun o => match o with
  | some x => .int x
  | none => .non
theorem entV_get {r : List (Option Int)} {n : Nat} {x : V} (h : (entV r)[n]? = some x) : ∃ o, r[n]? = some o ∧ x = (match o with | some x => .int x | none => .non) := by
  unfold entV at h
  rw [List.getElem?_map] at h
  cases e : r[n]? with
  | none => rw [e] at h; cases h
  | some o =>
    rw [e] at h
    exact ⟨o, rfl, (Option.some.inj h).symm⟩
def knownOf (r : List (Option Int)) : List Nat := (List.range r.length).filter fun i => (r[i]?.join).isSome
def RecOk (r : List (Option Int)) : Prop := (∀ x, some x ∈ r → Sym x) ∧ 1 ≤ r.length ∧ r.length ≤ 16
theorem knownOf_mem {r : List (Option Int)} {i : Nat} : i ∈ knownOf r ↔ ∃ x, r[i]? = some (some x) := by
  unfold knownOf
  rw [List.mem_filter, List.mem_range]
  constructor
  · rintro ⟨h1, h2⟩
    cases e : r[i]? with
    | none => rw [e] at h2; cases h2
    | some o =>
      rw [e] at h2
      cases o with
      | none => cases h2
      | some x => exact ⟨x, rfl⟩
  · rintro ⟨x, h⟩
    exact ⟨(List.getElem?_eq_some_iff.mp h).1, by rw [h]; rfl⟩
theorem knownOf_nd (r : List (Option Int)) : (knownOf r).Nodup := List.Nodup.sublist List.filter_sublist List.nodup_range
theorem knownOf_len (r : List (Option Int)) : (knownOf r).length ≤ r.length := by
  have h := List.length_filter_le (fun i => (r[i]?.join).isSome) (List.range r.length)
  rw [List.length_range] at h
  exact h
def natV (l : List Nat) : List V := l.map fun (i : Nat) => V.int (i : Int)
theorem given_known (r : List (Option Int)) : given (entV r).length (fun i => (r[i]?.join).isSome) (fun i => V.int (i : Int)) = natV (knownOf r) := by
  unfold given natV knownOf entV
  rw [List.length_map]
/-- the points that the known entries at some places make -/
def ptsAt (r : List (Option Int)) (l : List Nat) : Pts := l.map fun (i : Nat) => ((i : Int), (r[i]?.join).getD 0)
def spKnown (K : PySem.W.Frag) : Sp := fun vs H Q _ => ∃ (t : Addr) (r : List (Option Int)), vs = [.ref t] ∧ SqT K H t (entV r) ∧ r.length ≤ 16 ∧ RetL (natV (knownOf r)) H Q
theorem spl_known {K : PySem.W.Frag} {H : Hp} {t : Addr} {r : List (Option Int)} (ht : SqT K H t (entV r)) (hl : r.length ≤ 16) : SpL (spKnown K) [.ref t] H (natV (knownOf r)) := fun H1 e _ q _ => ⟨t, r, rfl, ex_t e ht, hl, q⟩
end Sq
namespace Sq
open PySem PySem.Spec PyProof.Rows L2 Evl
section
variable {K : PySem.W.Frag} {σ : L2.St} {H : Hp} {td tk tv te : TE} {x : V}
theorem rv_notN : RV (fun x y H Q => y = .non ∧ Q (.bl (!decide (x = .non))) H) x .non H (.bl (!decide (x = .non))) := fun H1 _ Q q => ⟨rfl, q H1 (Ex.refl H1)⟩
/-- {k: v for x in t}, keys that differ -/
theorem dc_overT {j : Nat} {vs : List Nat} {a : Addr} {xs : List V} (kf : Nat → Key) (vf : Nat → V) (h : Ev td σ H (.ref a)) (hx : SqT K H a xs) (hz : xs.length < 100000) (hn : ∀ i i', i < xs.length → i' < xs.length → kf i = kf i' → i = i')
    (hw : ∀ x, wipe ((wipe σ vs).set j (some x)) vs = wipe σ vs) (hk : ∀ i x H1, Ex H H1 → xs[i]? = some x → Ev tk ((wipe σ vs).set j (some x)) H1 (kV (kf i))) (hv : ∀ i x H1, Ex H H1 → xs[i]? = some x → Ev tv ((wipe σ vs).set j (some x)) H1 (vf i)) :
    EvDc (tDc (iTup K td) (gName j) tYes tk tv vs) σ H ((List.range xs.length).map fun i => (kf i, vf i)) := fun H0 e0 Q q => h H0 e0 _ fun H1 e1 => ⟨a, rfl, ⟨xs, ex_t (e0.trans e1) hx⟩, fun Dd hD =>
  dc_tup (xs := xs) (fun i H' => Ex H1 H' ∧ H' Dd = some (.dK ((List.range i).map fun i => (kf i, vf i)))) ⟨Ex.new hD, upd_same⟩ (fun i H' _ p => ex_t ((e0.trans e1).trans p.1) hx) (fun i x H' hi p => ⟨hw x, tYes_y (by
    have e2 := (e0.trans e1).trans p.1
    have hlt := (List.getElem?_eq_some_iff.mp hi).1
    refine hk i x H' e2 hi H' (Ex.refl H') _ fun H3 e3 => hv i x H3 (e2.trans e3) hi H3 (Ex.refl H3) _ fun H4 e4 => ⟨_, kf i, rfl, e4 _ _ (e3 _ _ p.2), ?_, Ex.mut ((p.1.trans e3).trans e4) hD, ?_⟩
    · rw [List.length_map, List.length_range]
      exact sz_lt (by omega)
    · have hnew : valV ((List.range i).map fun i => (kf i, vf i)) (kf i) = none := valV_none_of fun z => by
        rw [List.map_map] at z
        obtain ⟨m, hm, em⟩ := List.mem_map.mp z
        rw [List.mem_range] at hm
        have := hn m i (by omega) hlt em
        omega
      rw [upd_same, putK_new _ hnew, List.range_succ, List.map_append]
      rfl)⟩) (fun H' p => q Dd H' (fresh_back e1 hD) (e1.trans p.1) p.2)⟩
end
theorem natV_get {l : List Nat} {n : Nat} {x : V} (h : (natV l)[n]? = some x) : ∃ i, l[n]? = some i ∧ x = .int (i : Int) := by
  unfold natV at h
  rw [List.getElem?_map] at h
  cases e : l[n]? with
  | none => rw [e] at h; cases h
  | some i => rw [e] at h; exact ⟨i, rfl, (Option.some.inj h).symm⟩
theorem natV_len (l : List Nat) : (natV l).length = l.length := List.length_map _
theorem entV_at {r : List (Option Int)} {i : Nat} {x : Int} (h : r[i]? = some (some x)) : atI (entV r) (i : Int) = some (.int x) := by
  refine atI_nat ?_
  unfold entV
  rw [List.getElem?_map, h]
  rfl
theorem entV_len (r : List (Option Int)) : (entV r).length = r.length := List.length_map _
def KnownAt (r : List (Option Int)) (l : List Nat) : Prop := l.Nodup ∧ (∀ i ∈ l, ∃ x, r[i]? = some (some x)) ∧ l.length ≤ 16
theorem ptsAt_ok {r : List (Option Int)} {l : List Nat} (ok : RecOk r) (h : KnownAt r l) : PtsOk (ptsAt r l) := by
  have hlt : ∀ i ∈ l, i < r.length := fun i hi => let ⟨x, e⟩ := h.2.1 i hi; (List.getElem?_eq_some_iff.mp e).1
  refine ⟨fun p hp => ?_, ?_, ?_⟩
  · obtain ⟨i, hi, rfl⟩ := List.mem_map.mp hp
    obtain ⟨x, e⟩ := h.2.1 i hi
    have := hlt i hi
    refine ⟨⟨by show (0 : Int) ≤ (i : Int); omega, by show (i : Int) ≤ 15; have := ok.2.2; omega⟩, ?_⟩
    show Sym ((r[i]?.join).getD 0)
    rw [e]
    exact ok.1 x (List.mem_of_getElem? e)
  · have e : ksV (ptsAt r l) = l.map fun (i : Nat) => (i : Int) := by
      unfold ksV ptsAt
      rw [List.map_map]
      rfl
    rw [e]
    have n := h.1
    unfold List.Nodup at n ⊢
    rw [List.pairwise_map]
    exact n.imp fun hab z => hab (Int.ofNat.inj z)
  · unfold ptsAt
    rw [List.length_map]
    exact h.2.2
theorem kvP_ptsAt (r : List (Option Int)) (l : List Nat) : kvP (ptsAt r l) = (List.range l.length).map fun n => (Sum.inl ((l.getD n 0 : Nat) : Int), V.int ((r[l.getD n 0]?.join).getD 0)) := by
  refine List.ext_getElem? fun n => ?_
  unfold kvP ptsAt
  rw [List.getElem?_map, List.getElem?_map, List.getElem?_map]
  by_cases hn : n < l.length
  · rw [List.getElem?_range hn, List.getElem?_eq_getElem hn]
    simp [List.getD_eq_getElem?_getD, List.getElem?_eq_getElem hn]
  · rw [List.getElem?_eq_none (by omega), List.getElem?_eq_none (by rw [List.length_range]; omega)]
    rfl
def spThrough (K : PySem.W.Frag) : Sp := fun vs H Q _ => ∃ (e t : Addr) (r : List (Option Int)) (l : List Nat), vs = [.ref e, .ref t] ∧ SqT K H e (natV l) ∧ SqT K H t (entV r) ∧ RecOk r ∧ KnownAt r l ∧ RetL ((lagrs (ptsAt r l) r.length).map V.int) H Q
def spSame (K : PySem.W.Frag) : Sp := fun vs H Q _ => ∃ (v t : Addr) (r : List (Option Int)) (ws : List Int), vs = [.ref v, .ref t] ∧ SqL K H v (ws.map V.int) ∧ SqT K H t (entV r) ∧ RecOk r ∧ (∀ (i : Nat) (x : Int), r[i]? = some (some x) → ws[i]? = some x) ∧ RetV (.int 0) H Q
def spRad (K : PySem.W.Frag) : Sp := fun vs H Q _ => ∃ (k : Addr) (l : List Nat) (d : Int), vs = [.ref k, .int d] ∧ SqL K H k (natV l) ∧ 0 ≤ d ∧ d ≤ l.length ∧ l.length ≤ 16 ∧ RetV (.int (((l.length : Int) - d).fdiv 2)) H Q
def spReqRec (K : PySem.W.Frag) (Pt : Addr) : Sp := fun vs H Q _ => ∃ (t : Addr) (r : List (Option Int)) (c : Int), vs = [.ref t, .int c] ∧ SqT K H t (entV r) ∧ H Pt = some (TabF Pt) ∧ RecOk r ∧ 0 ≤ c ∧ c < r.length ∧ RetV .non H Q
end Sq

/-! name = {..} on one line, the name a local -/
namespace Sq
open PySem PySem.Spec PyProof.Rows L2 Evl
section
variable {X : Cx}
theorem sw_trueD {kx vx : Expr} {gs : List Comprehension} {scope : Scope} {pos py : Pos} {y : Str} {l : Nat} {env : Env} (hk : env.scope.kind = .function) (hy : env.scope.names.lookup y = some .local) (hl : (py.line == pos.line) = true)
    (ha : (scope.names.any fun (n, k) => n == y && (k == .local || k == .cell)) = false) : swapsWith (.DictComp kx vx gs scope pos) (some (.Name y py)) l env = pure true := by
  have k1 : env.kindOf y = some .local := hy
  have k2 : env.blockKind = .function := by
    unfold Env.blockKind
    rw [hk]
    rfl
  unfold swapsWith
  simp only [k2, k1, ha, Expr.pos, hl]
  rfl
theorem ps_setDc {i : Nat} {y : Str} {py : Pos} {kx vx tg iter : Expr} {ifs : List Expr} {scope : Scope} {own : List (Str × Nat)} {pos spos : Pos} {wi : TI} {g : TG} {tt : TT} {tk tv : TE} (hc : X.calm = true) (hN : X.N.Nodup) (hy : X.N[i]? = some y) (hyl : X.env.scope.names.lookup y = some .local)
    (hsw : swapsWith (.DictComp kx vx [⟨tg, iter, ifs, 0⟩] scope pos) (some (.Name y py)) spos.line X.env = pure true) (hi : PI X tg iter wi) (ok : BlkOk X.N X.env.scope scope own)
    (hg : ∀ (s : Shared) (H : Hp) (C : Addr) (cl : List (Str × Addr)) (fp : List Addr), PG (X.blk s H scope (compEnvC scope cl C X.env) fp) tg g)
    (ht : ∀ (s : Shared) (H : Hp) (C : Addr) (cl : List (Str × Addr)) (fp : List Addr), PTs (X.blk s H scope (compEnvC scope cl C X.env) fp) ifs tt)
    (hk : ∀ (s : Shared) (H : Hp) (C : Addr) (cl : List (Str × Addr)) (fp : List Addr), PE (X.blk s H scope (compEnvC scope cl C X.env) fp) kx tk)
    (he : ∀ (s : Shared) (H : Hp) (C : Addr) (cl : List (Str × Addr)) (fp : List Addr), PE (X.blk s H scope (compEnvC scope cl C X.env) fp) vx tv) (hs : ∀ x, foldedSetIterable iter X.env x = pure x := by intro _; rfl) :
    PS X (.Assign [.Name y py] (.DictComp kx vx [⟨tg, iter, ifs, 0⟩] scope pos) spos) (tAsg (tDc wi g tt tk tv (own.map (·.2))) (gName i)) := by
  refine ⟨fun pins s σ H D I h => ?_⟩
  rw [exec_Assign_Name_used _ _ _ _ hsw]
  refine wpAny_bind (wpAny_standAt (wpAny_bind ?_))
  show wpAny _ X.A (comprehension (.DictComp kx vx [⟨tg, iter, ifs, 0⟩] scope pos) scope X.env (firstIterPos [⟨tg, iter, ifs, 0⟩] pos) newDict false (eval iter X.env) (some (assign (.Name y py) X.env)) >>= fun _ => pure ()) _ _ s
  have h : tDc wi g tt tk tv (own.map (·.2)) σ H (fun x H1 => gName i x σ H1 D.nx) := h
  refine wpAny_bind (thn (dc_core (Qf := fun _ s' => SP X pins D .next s') hc hN I hi ok hg ht hk he hs h fun L C s' m H' I' q hn f => ?_) fun _ s' hq => wpAny_pure (wpAny_pure hq))
  show wpAny _ _ (assign (.Name y py) X.env (.ref L)) _ _ _
  refine wpAny_assign_Name (store_ok2 (v := V.ref L) I' hN hy (.inl hyl) rfl (fun s2 I2 ⟨a, sb, ha⟩ => ?_) (.inr hyl))
  obtain ⟨f0, f1, f2, f3, f4, f5⟩ := f
  have haC : C ≠ a := by
    rcases ha with z | z
    · rw [z]
      exact f1
    · exact fun e => f4 y a z e.symm
  exact ⟨m, hn.sameBut sb haC, fun h3 sb3 => ⟨_, H', I2.turned (t' := s2.toks) (fun b o hb e => (sb3.2 b hb).trans e) f0 f1 f3 f4 f5, q⟩⟩
end
end Sq
namespace Sq
open PySem PySem.Spec PyProof.Rows L2 Evl
section
variable {K : PySem.W.Frag} {σ : L2.St} {H : Hp} {te : TE} {ta : TA} {D : Ends} {tu tz : TS}
/-- for x in combinations(l, r) -/
theorem q_forC {j : Nat} {a : Addr} {xs : List V} {r : Nat} {cs : List (List Nat)} (h : EvA ta σ H [.ref a, .int (r : Int)]) (hx : SqL K H a xs) (hr : r < 1000) (hz : xs.length ≤ 1000) (C : CombSeq xs.length r cs) (Pv : Nat → L2.St → Hp → Prop) (h0 : ∀ H1, Ex H H1 → Pv 0 σ H1)
    (hs : ∀ i ix T σ' H', cs[i]? = some ix → Pv i σ' H' → H' T = none → tu { D with nx := Pv (i + 1), ct := Pv (i + 1), bk := tz D } (σ'.set j (some (.ref T))) (upd H' T (.tup (pickV xs ix)))) (hd : ∀ σ' H', Pv cs.length σ' H' → tz D σ' H') : tSeq (tFor (iComb K ta) (gName j) tu) tz D σ H := by
  refine h H (Ex.refl H) _ fun H1 e => ⟨a, xs, r, rfl, ex_l e hx, hr, hz, cs, C, fun i m σ' H' => m = cs.length - i ∧ i ≤ cs.length ∧ Pv i σ' H', ⟨cs.length, by simp, Nat.zero_le _, h0 H1 e⟩, ?_⟩
  rintro i m σ' H' ⟨rfl, hi, p⟩
  by_cases hlt : i < cs.length
  · refine .inr ⟨hlt, Pv (i + 1), fun σ2 H2 p2 => ⟨cs.length - (i + 1), by omega, rfl, hlt, p2⟩, fun x H2 y => ?_⟩
    obtain ⟨T, ix, rfl, hix, hT, rfl⟩ := y
    exact hs i ix T σ' H' hix p hT
  · have ei : i = cs.length := by omega
    subst ei
    exact .inl ⟨Nat.le_refl _, hd _ _ p⟩
theorem comb_0 (n : Nat) : CombSeq n 0 [[]] where
  none := fun h => absurd h (Nat.not_lt_zero _)
  first := fun _ => rfl
  next := fun i x h => by
    match i, h with
    | 0, h =>
      cases h
      rfl
  len := fun x hx => by
    rw [List.mem_singleton.mp hx]
    exact Nat.zero_le _
/-- [.. for x in () for ..] -/
theorem el_lc2nil {td : TE} {g g1 : TG} {tt tt1 : TT} {wi1 : TI} {vs vs1 : List Nat} {a : Addr} (h : Ev td σ H (.ref a)) (hx : SqT K H a []) : EvL (tLc2 (iTup K td) g tt wi1 g1 tt1 te vs vs1) σ H [] := fun H0 e Q q =>
  h H0 e _ fun H1 e1 => ⟨a, rfl, ⟨[], ex_t (e.trans e1) hx⟩, fun Dl hD => ⟨fun i m H' => i = 0 ∧ H' = upd H1 Dl (.lst []), ⟨0, rfl, rfl⟩, fun i m H' ⟨hi, hH⟩ => by
    subst hH
    have eN : Ex H1 (upd H1 Dl (.lst [])) := Ex.new hD
    exact .inl ⟨⟨[], ex_t ((e.trans e1).trans eN) hx, Nat.zero_le _⟩, q Dl _ (fresh_back e1 hD) (e1.trans eN) upd_same⟩⟩⟩
end
/-- the choices of none of the pairs: what is known, as it is -/
def spWithout (K : PySem.W.Frag) : Sp := fun vs H Q _ => ∃ (k p : Addr) (l : List Nat) (ps : List V), vs = [.ref k, .ref p, .int 0] ∧ SqL K H k (natV l) ∧ SqL K H p ps ∧ l.length ≤ 16 ∧ ps.length ≤ 16 ∧
  ∀ c q H', H c = none → Ex H H' → H' c = some (.lst [.ref q]) → H' q = some (.lst (natV l)) → Q (.ref c) H'
end Sq

/-! decoding a block of which as many symbols are known as it has data -/
namespace Sq
open PySem PySem.Spec PyProof.Rows L2 Evl
theorem rg_two {n : Nat} (h : n ≤ 16) : RgC 0 (n : Int) 2 ((n + 1) / 2) := by
  have z : ∀ m : Fin 17, ((2 : Int) ≠ 0 ∧ (2 : Int).natAbs < 1073741824 ∧ Builtin.Range.small 0 ((m.val : Nat) : Int) 2 = true ∧ Builtin.Range.rangeSize 0 ((m.val : Nat) : Int) 2 = (m.val + 1) / 2) := by decide +kernel
  exact z ⟨n, by omega⟩
section
variable {K : PySem.W.Frag} {σ : L2.St} {H : Hp} {te td : TE} {ta : TA} {D : Ends} {tu tz : TS} {g : TG}
/-- a new list of one address, what stands there told -/
def EvOne (te : TE) (σ : L2.St) (H : Hp) (P : Addr → Hp → Prop) : Prop := ∀ H1, Ex H H1 → ∀ Q : VK, (∀ c q H2, H1 c = none → Ex H1 H2 → H2 c = some (.lst [.ref q]) → P q H2 → Q (.ref c) H2) → te σ H1 Q
theorem lp_rng3 {j : Nat} {vs : List Nat} {i jj c : Int} {n : Nat} (h : EvA ta σ H [.int i, .int jj, .int c]) (hR : RgC i jj c n) (hn : n ≤ 40000) (hw : ∀ x, wipe ((wipe σ vs).set j (some x)) vs = wipe σ vs)
    (he : ∀ (m : Nat) H1, Ex H H1 → m < n → ∃ ys, EvL te ((wipe σ vs).set j (some (.int (i + (m : Nat) * c)))) H1 ys) : EvLP (tLc (iRng3 ta) (gName j) tYes te vs) σ H (fun xs => xs.length = n) := fun H0 e Q q => h H0 e _ fun H1 e1 => ⟨i, jj, c, n, rfl, hR, fun Dl hD => by
  refine ⟨fun m k H' => k = n - m ∧ m ≤ n ∧ Ex H1 H' ∧ ∃ xs : List V, H' Dl = some (.lst xs) ∧ xs.length = m, ⟨n, by simp, Nat.zero_le _, Ex.new hD, [], upd_same, rfl⟩, ?_⟩
  rintro m k H' ⟨rfl, hm, e2, xs, hx, hl⟩
  by_cases hlt : m < n
  · refine .inr ⟨hlt, fun H2 => Ex H1 H2 ∧ ∃ xs : List V, H2 Dl = some (.lst xs) ∧ xs.length = m + 1, fun H2 p2 => ⟨n - (m + 1), by omega, rfl, hlt, p2⟩, fun x H2 y => ?_⟩
    obtain ⟨rfl, rfl⟩ := y
    obtain ⟨ys, hy⟩ := he m _ ((e.trans e1).trans e2) hlt
    exact ⟨hw _, tYes_y (hy _ (Ex.refl _) _ fun p H3 hp e3 h3 => ⟨xs, e3 _ _ hx, sz_lt (by omega), Ex.mut (e2.trans e3) hD, _, upd_same, by rw [List.length_append, hl]; rfl⟩)⟩
  · have em : m = n := by omega
    exact .inl ⟨by show n ≤ m; omega, q xs Dl H' (hl.trans em) (fresh_back e1 hD) (e1.trans e2) hx⟩⟩
theorem lc_one {j : Nat} {vs : List Nat} {ys zs : List V} (h : EvOne td σ H fun q H' => H' q = some (.lst ys)) (hw : ∀ x, wipe ((wipe σ vs).set j (some x)) vs = wipe σ vs)
    (he : ∀ q H1, Ex H H1 → SqL K H1 q ys → EvU te ((wipe σ vs).set j (some (.ref q))) H1 zs) : EvOne (tLc (iList K td) (gName j) tYes te vs) σ H fun q H' => H' q = some (.tup zs) := fun H0 e Q k =>
  h H0 e _ fun c q H2 hc e2 h2 hq => ⟨c, rfl, ⟨[.ref q], sq_of h2⟩, fun Dl hD =>
    lc_list (xs := [.ref q]) (fun i H' => Ex H2 H' ∧ ((i = 0 ∧ H' Dl = some (.lst [])) ∨ (i = 1 ∧ ∃ t, H' Dl = some (.lst [.ref t]) ∧ H' t = some (.tup zs)))) ⟨Ex.new hD, .inl ⟨rfl, upd_same⟩⟩ (fun i H' _ p => sq_of (p.1 _ _ h2)) (fun i x H' hi p => by
      obtain ⟨e3, p⟩ := p
      obtain ⟨rfl, rfl⟩ : i = 0 ∧ x = .ref q := by
        match i, hi with
        | 0, hi => cases hi; exact ⟨rfl, rfl⟩
      have hD2 : H' Dl = some (.lst []) := by
        rcases p with ⟨_, z⟩ | ⟨z, _⟩
        · exact z
        · cases z
      exact ⟨hw _, tYes_y (he q H' ((e.trans e2).trans e3) (sq_of (e3 _ _ hq)) H' (Ex.refl H') _ fun t H4 ht e4 h4 => ⟨[], e4 _ _ hD2, by decide, Ex.mut (e3.trans e4) hD, .inr ⟨rfl, t, upd_same, by
        rw [upd_ne (fun z => by rw [z, hD2] at ht; cases ht)]
        exact h4⟩⟩)⟩) (fun H' p => by
      obtain ⟨e3, p⟩ := p
      rcases p with ⟨z, _⟩ | ⟨_, t, h3, h4⟩
      · cases z
      · exact k Dl t H' (fresh_back e2 hD) (e2.trans e3) h3 h4)⟩
theorem q_forOne {P : Addr → Hp → Prop} (h : EvOne td σ H P) (k : ∀ c q H1, Ex H H1 → H1 c = some (.lst [.ref q]) → P q H1 → tSeq (tFor (iList K (tC (.ref c))) g tu) tz D σ H1) : tSeq (tFor (iList K td) g tu) tz D σ H := h H (Ex.refl H) _ fun c q H1 _ e h1 hp => k c q H1 e h1 hp
theorem eone_call {sp : Sp} {vs : List V} {P : Addr → Hp → Prop} (h : EvA ta σ H vs) (hs : ∀ H1, Ex H H1 → ∀ Q : VK, (∀ c q H2, H1 c = none → Ex H1 H2 → H2 c = some (.lst [.ref q]) → P q H2 → Q (.ref c) H2) → ∀ E : XK, sp vs H1 Q E) : EvOne (tCall sp [] E0 ta) σ H P := fun H1 e Q q =>
  h H1 e _ fun H2 e2 => by
    show sp (vs ++ []) H2 Q E0
    rw [List.append_nil]
    exact hs H2 (e.trans e2) Q (fun c a H3 hc e3 h3 h4 => q c a H3 (fresh_back e2 hc) (e2.trans e3) h3 h4) E0
theorem s_retOne {P : Addr → Hp → Prop} (h : EvOne te σ H P) (k : ∀ c q H1, H c = none → Ex H H1 → H1 c = some (.lst [.ref q]) → P q H1 → D.rt (.ref c) H1) : tRet te D σ H := h H (Ex.refl H) _ k
end
def spCover (K : PySem.W.Frag) : Sp := fun vs H Q _ => ∃ (k : Addr) (l : List Nat), vs = [.ref k, .int (l.length : Int)] ∧ SqL K H k (natV l) ∧ l.length ≤ 16 ∧ ∀ c q H', H c = none → Ex H H' → H' c = some (.lst [.ref q]) → H' q = some (.tup (natV l)) → Q (.ref c) H'
/-- what is known agrees with the block of ds -/
def Agrees (r : List (Option Int)) (ds : List Int) : Prop := ∀ (i : Nat) (x : Int), r[i]? = some (some x) → lagr (enumP 0 ds) (i : Int) = x
def spDec (K : PySem.W.Frag) (Pt : Addr) : Sp := fun vs H Q _ => ∃ (t : Addr) (r : List (Option Int)) (c : Int) (ds : List Int), vs = [.ref t, .int c] ∧ SqT K H t (entV r) ∧ H Pt = some (TabF Pt) ∧ RecOk r ∧ 0 ≤ c ∧ c < r.length ∧ (ds.length : Int) = r.length - c ∧ (∀ x ∈ ds, Sym x) ∧ (knownOf r).length = ds.length ∧ Agrees r ds ∧ RetU (ds.map V.int) H Q
theorem back_block {r : List (Option Int)} {ds : List Int} (ok : RecOk r) (hs : ∀ x ∈ ds, Sym x) (hl : ds.length ≤ r.length) (hk : (knownOf r).length = ds.length) (ag : Agrees r ds) : lagrs (ptsAt r (knownOf r)) r.length = blockOf ds r.length := by
  have kn : KnownAt r (knownOf r) := ⟨knownOf_nd r, fun i hi => knownOf_mem.mp hi, by have := ok.2.2; omega⟩
  have o1 := enumP_ok hs (by have := ok.2.2; omega)
  have o2 := ptsAt_ok ok kn
  unfold blockOf lagrs
  refine List.map_congr_left fun i hi => ?_
  rw [List.mem_range] at hi
  refine lagr_back o1 o2 ?_ (fun q hq => ?_) ⟨by omega, by have := ok.2.2; omega⟩
  · unfold ptsAt
    rw [enumP_len, List.length_map, hk]
    exact Nat.le_refl _
  · obtain ⟨m, hm, rfl⟩ := List.mem_map.mp hq
    obtain ⟨x, hx⟩ := knownOf_mem.mp hm
    show (r[m]?.join).getD 0 = lagr (enumP 0 ds) (m : Int)
    rw [hx, ag m x hx]
    rfl
end Sq
namespace Sq
open PySem PySem.Spec PyProof.Rows L2 Evl
theorem q_asgLP {σ : L2.St} {H : Hp} {te : TE} {D : Ends} {tz : TS} {i : Nat} {P : List V → Prop} (h : EvLP te σ H P) (k : ∀ xs a H1, P xs → H a = none → Ex H H1 → H1 a = some (.lst xs) → tz D (σ.set i (some (.ref a))) H1) : tSeq (tAsg te (gName i)) tz D σ H := h H (Ex.refl H) _ fun xs a H1 hP ha e h1 => k xs a H1 hP ha e h1
theorem et_chain {σ : L2.St} {H : Hp} {ta tb tc : TE} {r r' : R2} {x y z : V} {k l : Bool} (ha : Ev ta σ H x) (hb : Ev tb σ H y) (h1 : RV r x y H (.bl k)) (hc : k = true → Ev tc σ H z) (h2 : k = true → RV r' y z H (.bl l)) : EvT (tTest (tChain r r' ta tb tc)) σ H (k && l) := et_test (ev_chain ha hb h1 hc h2)
theorem eltG_ent {X : Cx} {scope : Scope} {x : Str} {p1 p2 p3 p4 p5 p6 p7 : Pos} {j} (R : RawFn1 X.prog X.w X.K X.mg X.base "is_symbol" 2 goodSym) (hD : X.A.depth + 1 + 2 < recursionLimit) (hk : scope.kind = .function) (hf : scope.names.lookup ("is_symbol" : Str) = some .globalImplicit) (hx : scope.names.lookup x = some .local) (hd : (("is_symbol" : Str) == ("__debug__" : Str)) = false) (hdx : (x == ("__debug__" : Str)) = false) :
    EltG X scope x (.BoolOp .Or [.Compare (.Name x p1) [.Is] [.Constant .none j p2] p3, .Call (.Name "is_symbol" p4) [.Name x p5] [] p6] p7) goodEnt := fun y u b hg r cenv m hs hgl hbl hm => by
  subst hs
  obtain ⟨fl, rfl⟩ := hg
  have F : FnEnv cenv := ⟨hk, hgl, hbl⟩
  have e : (u == Value.none) = decide (y = .non) := by
    cases y with
    | non => cases (show u = Value.none from r); rfl
    | bl b => cases (show u = Value.bool b from r); rfl
    | int i => obtain ⟨t, q⟩ := (show ∃ t, u = Value.int i t from r); subst q; rfl
    | str s => obtain ⟨t, q⟩ := (show ∃ t, u = Value.str s t from r); subst q; rfl
    | _ => cases fl
  exact raw_or gstT (e ▸ raw_isNone (raw_loc F hx hm hdx)) (fun _ => raw_callF R hD ⟨fl, rfl⟩ r F hf hx hm hd hdx)
end Sq

/-! blocks of sums, of products, of more data: by the polynomial that fits -/
namespace Sq
open PySem PySem.Spec PyProof.Rows L2 Evl
theorem gadd_eq0 {a b : Int} (ha : Sym a) (hb : Sym b) (h : gadd a b = 0) : a = b := sym2 (p := fun a b => gadd a b = 0 → a = b) (by decide +kernel) ha hb h
/-- what fits the data and has no more coefficients is the form -/
theorem lagr_eq {ds : List Int} {f : Int → Int} (hs : ∀ x ∈ ds, Sym x) (hl : ds.length ≤ 16) (hf : Deg ds.length f) (h : ∀ (i : Nat) (x : Int), ds[i]? = some x → f (i : Int) = x) {a : Int} (ha : Sym a) : lagr (enumP 0 ds) a = f a := by
  have ok := enumP_ok hs hl
  have d1 := deg_lagr ok
  rw [enumP_len] at d1
  refine gadd_eq0 (lagr_sym ok ha) (deg_sym hf a ha) (deg_roots (deg_add d1 hf) (enumP_nd 0 ds) (ksV_len ds) (fun r hr => ?_) a ha)
  obtain ⟨i, hi⟩ := List.mem_iff_getElem?.mp hr
  have hlt : i < ds.length := by
    have z := (List.getElem?_eq_some_iff.mp hi).1
    rw [ksV_len] at z
    exact z
  rw [ksV_get hlt] at hi
  cases hi
  have hx := List.getElem?_eq_getElem hlt
  refine ⟨⟨by omega, by omega⟩, ?_⟩
  show gadd (lagr (enumP 0 ds) (i : Int)) (f (i : Int)) = 0
  rw [lagr_at hx, h i _ hx]
  exact gadd_self (hs _ (List.getElem_mem hlt))
theorem block_get {ds : List Int} {n i : Nat} (h : i < n) : (blockOf ds n)[i]? = some (lagr (enumP 0 ds) (i : Int)) := by
  unfold blockOf lagrs
  rw [List.getElem?_map, List.getElem?_range h]
  rfl
/-- check symbols go on from those of fewer -/
theorem block_pre {ds : List Int} {m n : Nat} (h : m ≤ n) : (blockOf ds n).take m = blockOf ds m := by
  refine List.ext_getElem? fun i => ?_
  by_cases hi : i < m
  · rw [List.getElem?_take_of_lt hi, block_get (by omega), block_get hi]
  · rw [List.getElem?_eq_none (by rw [List.length_take, block_len]; omega), List.getElem?_eq_none (by rw [block_len]; omega)]
/-- a block's first symbols as data, at least as many as the data, lead to the block -/
theorem block_more {ds : List Int} {m n : Nat} (hs : ∀ x ∈ ds, Sym x) (h0 : ds.length ≤ m) (h1 : m ≤ n) (h2 : n ≤ 16) : blockOf (blockOf ds m) n = blockOf ds n := by
  have sb := block_syms hs (by omega) (show m ≤ 16 by omega)
  have ok := enumP_ok hs (show ds.length ≤ 16 by omega)
  have d1 := deg_lagr ok
  rw [enumP_len] at d1
  unfold blockOf
  refine List.map_congr_left fun i hi => ?_
  rw [List.mem_range] at hi
  refine lagr_eq (f := lagr (enumP 0 ds)) sb (by rw [block_len]; omega) (deg_mono (by rw [block_len]; exact h0) d1) (fun j x hx => ?_) ⟨by omega, by omega⟩
  have hj : j < m := by
    have z := (List.getElem?_eq_some_iff.mp hx).1
    rw [block_len] at z
    exact z
  have e := block_get (ds := ds) hj
  exact Option.some.inj (e.symm.trans hx)
theorem map_syms {ds : List Int} {g : Int → Int} (h : ∀ x ∈ ds, Sym x) (hg : ∀ x, Sym x → Sym (g x)) : ∀ x ∈ ds.map g, Sym x := fun x hx => by
  obtain ⟨y, hy, rfl⟩ := List.mem_map.mp hx
  exact hg y (h y hy)
/-- blocks of products -/
theorem block_smul {ds : List Int} {s : Int} {n : Nat} (hs : ∀ x ∈ ds, Sym x) (hl : ds.length ≤ 16) (h : Sym s) (hn : n ≤ 16) : blockOf (ds.map fun x => gmul s x) n = (blockOf ds n).map fun x => gmul s x := by
  have d1 := deg_lagr (enumP_ok hs hl)
  rw [enumP_len] at d1
  unfold blockOf lagrs
  rw [List.map_map]
  refine List.map_congr_left fun i hi => ?_
  rw [List.mem_range] at hi
  refine lagr_eq (f := fun a => gmul s (lagr (enumP 0 ds) a)) (map_syms hs fun x hx => sym_mul h hx) (by rw [List.length_map]; exact hl) (by rw [List.length_map]; exact deg_smul h d1) (fun j x hx => ?_) ⟨by omega, by omega⟩
  rw [List.getElem?_map] at hx
  cases e : ds[j]? with
  | none => rw [e] at hx; cases hx
  | some y =>
    rw [e] at hx
    cases hx
    show gmul s (lagr (enumP 0 ds) (j : Int)) = gmul s y
    rw [lagr_at e]
/-- blocks of sums -/
theorem block_sum {ds es : List Int} {n : Nat} (hs : ∀ x ∈ ds, Sym x) (ht : ∀ x ∈ es, Sym x) (hle : es.length = ds.length) (hl : ds.length ≤ 16) (hn : n ≤ 16) : blockOf (List.zipWith gadd ds es) n = List.zipWith gadd (blockOf ds n) (blockOf es n) := by
  have d1 := deg_lagr (enumP_ok hs hl)
  have d2 := deg_lagr (enumP_ok ht (by omega))
  rw [enumP_len] at d1 d2
  rw [hle] at d2
  have hz : (List.zipWith gadd ds es).length = ds.length := by
    rw [List.length_zipWith, hle, Nat.min_self]
  refine List.ext_getElem? fun i => ?_
  by_cases hi : i < n
  · rw [block_get hi, List.getElem?_zipWith, block_get hi, block_get hi]
    refine congrArg some (lagr_eq (f := fun a => gadd (lagr (enumP 0 ds) a) (lagr (enumP 0 es) a)) (fun x hx => ?_) (by rw [hz]; exact hl) (by rw [hz]; exact deg_add d1 d2) (fun j x hx => ?_) ⟨by omega, by omega⟩)
    · obtain ⟨j, hj⟩ := List.mem_iff_getElem?.mp hx
      rw [List.getElem?_zipWith] at hj
      cases e1 : ds[j]? with
      | none => rw [e1] at hj; cases hj
      | some y =>
        cases e2 : es[j]? with
        | none => rw [e1, e2] at hj; cases hj
        | some z =>
          rw [e1, e2] at hj
          cases hj
          exact sym_add (hs y (List.mem_of_getElem? e1)) (ht z (List.mem_of_getElem? e2))
    · rw [List.getElem?_zipWith] at hx
      cases e1 : ds[j]? with
      | none => rw [e1] at hx; cases hx
      | some y =>
        cases e2 : es[j]? with
        | none => rw [e1, e2] at hx; cases hx
        | some z =>
          rw [e1, e2] at hx
          cases hx
          show gadd (lagr (enumP 0 ds) (j : Int)) (lagr (enumP 0 es) (j : Int)) = gadd y z
          rw [lagr_at e1, lagr_at e2]
  · rw [List.getElem?_eq_none (by rw [block_len]; omega), List.getElem?_eq_none (by rw [List.length_zipWith, block_len, block_len]; omega)]
/-- blocks of one symbol -/
theorem block_rep {x : Int} {k n : Nat} (hx : Sym x) (hk : 0 < k) (hl : k ≤ 16) (hn : n ≤ 16) : blockOf (List.replicate k x) n = List.replicate n x := by
  refine List.ext_getElem? fun i => ?_
  by_cases hi : i < n
  · rw [block_get hi, List.getElem?_replicate, if_pos hi]
    refine congrArg some (lagr_eq (f := fun _ => x) (fun y hy => by rw [(List.mem_replicate.mp hy).2]; exact hx) (by rw [List.length_replicate]; exact hl) (by rw [List.length_replicate]; exact deg_mono hk (deg_const hx)) (fun j y hy => ?_) ⟨by omega, by omega⟩)
    rw [List.getElem?_replicate] at hy
    split at hy
    · exact Option.some.inj hy
    · cases hy
  · rw [List.getElem?_eq_none (by rw [block_len]; omega), List.getElem?_eq_none (by rw [List.length_replicate]; omega)]
/-- two blocks that agree in as many places as there are data are one -/
theorem block_apart {ds es : List Int} {l : List Nat} {n : Nat} (hs : ∀ x ∈ ds, Sym x) (ht : ∀ x ∈ es, Sym x) (hle : es.length = ds.length) (hl : ds.length ≤ n) (hn : n ≤ 16) (hN : l.Nodup) (hk : l.length = ds.length) (hin : ∀ i ∈ l, i < n ∧ lagr (enumP 0 ds) (i : Int) = lagr (enumP 0 es) (i : Int)) : blockOf ds n = blockOf es n := by
  have ok1 := enumP_ok hs (show ds.length ≤ 16 by omega)
  have ok2 := enumP_ok ht (show es.length ≤ 16 by omega)
  have d1 := deg_lagr ok1
  have d2 := deg_lagr ok2
  rw [enumP_len] at d1 d2
  rw [hle] at d2
  unfold blockOf lagrs
  refine List.map_congr_left fun i hi => ?_
  rw [List.mem_range] at hi
  have si : Sym (i : Int) := ⟨by omega, by omega⟩
  refine gadd_eq0 (lagr_sym ok1 si) (lagr_sym ok2 si) (deg_roots (rs := l.map fun (i : Nat) => (i : Int)) (deg_add d1 d2) ?_ (by rw [List.length_map]; exact hk) (fun r hr => ?_) _ si)
  · have n := hN
    unfold List.Nodup at n ⊢
    rw [List.pairwise_map]
    exact n.imp fun hab z => hab (Int.ofNat.inj z)
  · obtain ⟨j, hj, rfl⟩ := List.mem_map.mp hr
    have h := hin j hj
    have sj : Sym (j : Int) := ⟨by omega, by omega⟩
    refine ⟨sj, ?_⟩
    show gadd (lagr (enumP 0 ds) (j : Int)) (lagr (enumP 0 es) (j : Int)) = 0
    rw [h.2]
    exact gadd_self (lagr_sym ok2 sj)
end Sq
namespace Sq
open PySem PySem.Spec PyProof.Rows L2 Evl
theorem el_listT {K : PySem.W.Frag} {σ : L2.St} {H : Hp} {te : TE} {p : Addr} {xs : List V} (ha : Ev te σ H (.ref p)) (h : SqT K H p xs) : EvL (tCB (rListS K) (tCons te tNil)) σ H xs := fun H1 e Q q =>
  ha H1 e _ fun H2 e2 => ⟨p, xs, rfl, .inr (ex_t (e.trans e2) h), fun l hl => q l _ (fresh_back e2 hl) (Ex.mut e2 (fresh_back e2 hl)) upd_same⟩
/-- some of a block's symbols erased: the places that are left -/
structure Left (bs : List Int) (rr : List (Option Int)) (l : List Nat) : Prop where
  len : rr.length = bs.length
  nd : l.Nodup
  mem : ∀ i, i ∈ l ↔ ∃ x, rr[i]? = some (some x)
  of : ∀ (i : Nat) (x : Int), rr[i]? = some (some x) → bs[i]? = some x
theorem left_all (bs : List Int) : Left bs (bs.map some) (List.range bs.length) where
  len := List.length_map _
  nd := List.nodup_range
  mem := fun i => by
    rw [List.mem_range, List.getElem?_map]
    constructor
    · intro h
      exact ⟨bs[i], by rw [List.getElem?_eq_getElem h]; rfl⟩
    · rintro ⟨x, h⟩
      cases e : bs[i]? with
      | none => rw [e] at h; cases h
      | some y => exact (List.getElem?_eq_some_iff.mp e).1
  of := fun i x h => by
    rw [List.getElem?_map] at h
    cases e : bs[i]? with
    | none => rw [e] at h; cases h
    | some y =>
      rw [e] at h
      cases h
      rfl
theorem erase_ix : ∀ {l : List Nat} {k i : Nat}, l.Nodup → l[k]? = some i → l.eraseIdx k = l.erase i
  | [], _, _, _, h => by cases h
  | x :: r, 0, i, _, h => by
    cases h
    simp
  | x :: r, k + 1, i, hn, h => by
    have h' : r[k]? = some i := h
    rw [List.nodup_cons] at hn
    have ne : x ≠ i := fun z => hn.1 (z ▸ List.mem_of_getElem? h')
    rw [List.eraseIdx_cons_succ, erase_ix hn.2 h', List.erase_cons_tail (by simpa using ne)]
theorem left_less {bs : List Int} {rr : List (Option Int)} {l : List Nat} {k i : Nat} (L : Left bs rr l) (h : l[k]? = some i) : Left bs (rr.set i none) (l.eraseIdx k) where
  len := by rw [List.length_set]; exact L.len
  nd := L.nd.sublist (List.eraseIdx_sublist l k)
  mem := fun j => by
    have e := erase_ix L.nd h
    rw [e, L.nd.mem_erase_iff, L.mem]
    constructor
    · rintro ⟨hne, x, hx⟩
      exact ⟨x, by rw [List.getElem?_set_ne (Ne.symm hne)]; exact hx⟩
    · rintro ⟨x, hx⟩
      by_cases z : j = i
      · subst z
        exfalso
        rw [List.getElem?_set] at hx
        simp at hx
      · exact ⟨z, x, by rw [List.getElem?_set_ne (Ne.symm z)] at hx; exact hx⟩
  of := fun j x hx => by
    by_cases z : j = i
    · subst z
      exfalso
      rw [List.getElem?_set] at hx
      simp at hx
    · rw [List.getElem?_set_ne (Ne.symm z)] at hx
      exact L.of j x hx
theorem left_known {bs : List Int} {rr : List (Option Int)} {l : List Nat} (L : Left bs rr l) : (knownOf rr).length = l.length := by
  have p : (knownOf rr).Perm l := (List.perm_ext_iff_of_nodup (knownOf_nd rr) L.nd).mpr fun i => knownOf_mem.trans (L.mem i).symm
  exact p.length_eq
def spErase (K : PySem.W.Frag) : Sp := fun vs H Q _ => ∃ (r b : Addr) (bs : List Int) (c : Nat), vs = [.ref r, .ref b, .int (c : Int)] ∧ RowAt K H r ∧ SqT K H b (bs.map V.int) ∧ bs.length ≤ 16 ∧ c ≤ bs.length ∧
  ∀ p rr l H', Ex H H' → H' p = some (.tup (entV rr)) → Left bs rr l → l.length = bs.length - c → Q (.ref p) H'
theorem entV_some (bs : List Int) : entV (bs.map some) = bs.map V.int := by
  unfold entV
  rw [List.map_map]
  rfl
theorem entV_set (rr : List (Option Int)) (i : Nat) : (entV rr).set i .non = entV (rr.set i none) := by
  unfold entV
  rw [List.map_set]
theorem natV_erase : ∀ (l : List Nat) (k : Nat), (natV l).eraseIdx k = natV (l.eraseIdx k)
  | [], _ => rfl
  | _ :: _, 0 => rfl
  | x :: r, k + 1 => by
    show V.int (x : Int) :: (natV r).eraseIdx k = V.int (x : Int) :: natV (r.eraseIdx k)
    rw [natV_erase r k]
theorem rg_natV (n : Nat) : rgV 0 (n : Int) = natV (List.range n) := by
  unfold rgV natV
  rw [show ((n : Int) - 0).toNat = n by omega]
  refine List.map_congr_left fun i _ => ?_
  rw [Int.zero_add]
end Sq
namespace Sq
open PySem PySem.Spec PyProof.Rows L2 Evl
theorem eu_tupV {K : PySem.W.Frag} {σ : L2.St} {H : Hp} {te : TE} {a : Addr} {xs : List V} (h : Ev te σ H (.ref a)) (hx : SqL K H a xs) : EvU (tCB (rTupOf K) (tCons te tNil)) σ H xs := fun H1 e Q q =>
  h H1 e _ fun H2 e2 => ⟨a, xs, rfl, .inl ⟨ex_l (e.trans e2) hx, fun l hl => q l _ (fresh_back e2 hl) (Ex.mut e2 (fresh_back e2 hl)) upd_same⟩⟩
end Sq
namespace Sq
open PySem PySem.Spec PyProof.Rows L2 Evl
theorem s_setPop {K : PySem.W.Frag} {σ : L2.St} {H : Hp} {ta tb tm : TE} {D : Ends} {M : Int} {v : V} {se pl : Addr} {ps : List V} (ho : Ev ta σ H (.ref se)) (hq : Ev tb σ H (.ref pl)) (hp : H pl = some (.lst ps)) (hm : EvP tm σ H (intB M))
    (k : ∀ m H1, 0 ≤ m → m < M → Ex H H1 → rPopAt (.ref pl) [.int m] H1 fun i H2 => rSetL (.ref se) i v H2 fun H3 => D.nx σ H3) : tAsg (tC v) (gSub ta (tBM K "list" rPopAt tb (tCons tm tNil)) rSetL) D σ H :=
  ho H (Ex.refl H) _ fun H1 e1 => hq H1 e1 _ fun H2 e2 => ⟨.inl ⟨rfl, ps, sq_of ((e1.trans e2) _ _ hp)⟩, hm H2 (e1.trans e2) _ fun z H3 e3 hz => by
    obtain ⟨m, rfl, m0, m1⟩ := hz
    exact k m H3 m0 m1 ((e1.trans e2).trans e3)⟩
end Sq

/-! comprehensions over tuples, over two tuples side by side; slices that may be whole -/
namespace Sq
open PySem PySem.Spec PyProof.Rows L2 Evl
section
variable {K : PySem.W.Frag} {σ : L2.St} {H : Hp} {te tl ta tb : TE} {t : TT} {p : V → Prop}
theorem el_lcT {a : Addr} {xs : List V} {j : Nat} {vs : List Nat} (f : Nat → Bool) (v : Nat → V) (h : Ev tl σ H (.ref a)) (hx : SqT K H a xs) (hz : xs.length ≤ 40000) (hw : ∀ x, wipe ((wipe σ vs).set j (some x)) vs = wipe σ vs)
    (ht : ∀ (i : Nat) (x : V) H1, Ex H H1 → xs[i]? = some x → EvT t ((wipe σ vs).set j (some x)) H1 (f i)) (he : ∀ (i : Nat) (x : V) H1, Ex H H1 → xs[i]? = some x → f i = true → Ev te ((wipe σ vs).set j (some x)) H1 (v i)) :
    EvL (tLc (iTup K tl) (gName j) t te vs) σ H (given xs.length f v) := fun H0 e Q q => h H0 e _ fun H1 e1 => ⟨a, rfl, ⟨xs, ex_t (e.trans e1) hx⟩, fun Dl hD =>
  lc_tup (xs := xs) (Cw H1 f v Dl) ⟨hD, Ex.new hD, upd_same⟩ (fun i H' _ p => ex_t ((e.trans e1).trans p.2.1) hx) (fun i x H' hi p => ⟨hw x, cw_turn p (by have := (List.getElem?_eq_some_iff.mp hi).1; omega) (ht i x H1 (e.trans e1) hi) (fun hf => he i x H1 (e.trans e1) hi hf)⟩)
    (fun H' p => q Dl H' (fresh_back e1 p.1) (e1.trans p.2.1) p.2.2)⟩
/-- [draw for x in t] -/
theorem lp_tup {a : Addr} {xs : List V} {j : Nat} {vs : List Nat} (h : Ev tl σ H (.ref a)) (hx : SqT K H a xs) (hz : xs.length ≤ 40000) (hw : ∀ x, wipe ((wipe σ vs).set j (some x)) vs = wipe σ vs)
    (he : ∀ (i : Nat) (x : V) H1, Ex H H1 → xs[i]? = some x → EvP te ((wipe σ vs).set j (some x)) H1 p) : EvLP (tLc (iTup K tl) (gName j) tYes te vs) σ H (fun ys => ys.length = xs.length ∧ ∀ y ∈ ys, p y) := fun H0 e Q q => h H0 e _ fun H1 e1 => ⟨a, rfl, ⟨xs, ex_t (e.trans e1) hx⟩, fun Dl hD =>
  lc_tup (xs := xs) (fun i H' => Ex H1 H' ∧ ∃ ys, H' Dl = some (.lst ys) ∧ ys.length = i ∧ ∀ y ∈ ys, p y) ⟨Ex.new hD, [], upd_same, rfl, fun y hy => nomatch hy⟩ (fun i H' _ p => ex_t ((e.trans e1).trans p.1) hx) (fun i x H' hi ⟨e2, ys, hy, hl, hp⟩ => by
    have hlt := (List.getElem?_eq_some_iff.mp hi).1
    refine ⟨hw x, tYes_y (he i x H' ((e.trans e1).trans e2) hi H' (Ex.refl H') _ fun v H3 e3 hv => ⟨ys, e3 _ _ hy, sz_lt (by omega), Ex.mut (e2.trans e3) hD, ys ++ [v], upd_same, by rw [List.length_append, hl]; rfl, fun y hy => ?_⟩)⟩
    rcases List.mem_append.mp hy with hy | hy
    · exact hp y hy
    · rw [List.mem_singleton.mp hy]
      exact hv) (fun H' ⟨e2, ys, hy, hl, hp⟩ => q ys Dl H' ⟨hl, hp⟩ (fresh_back e1 hD) (e1.trans e2) hy)⟩
theorem evs_slA {tlo thi : TO} {a : Addr} {xs : List V} {lo hi : Option Int} (h : Ev te σ H (.ref a)) (h1 : EvO tlo σ H lo) (h2 : EvO thi σ H hi) (hs : SqT K H a xs) : EvS K (tSl (rSlA K) te tlo thi) σ H (cutV xs lo hi) := fun H1 e _ q =>
  h H1 e _ fun H2 e2 => h1 H2 (e.trans e2) _ fun H3 e3 => h2 H3 ((e.trans e2).trans e3) _ fun H4 e4 => by
    have e14 := (e2.trans e3).trans e4
    have hs4 := ex_t (e.trans e14) hs
    refine ⟨a, xs, rfl, hs4, fun w => q a H4 e14 ?_, fun _ p hp => q p _ (e14.trans (Ex.new hp)) (st_of upd_same)⟩
    have z : cutV xs lo hi = xs := by
      unfold cutV
      rw [w.1, w.2, Nat.sub_zero, List.drop_zero, List.take_length]
    rw [z]
    exact hs4
/-- [.. for x, y in zip(t, u)], t and u tuples, new or old -/
theorem el_lcZT {xs ys : List V} {i j : Nat} {vs : List Nat} (v : Nat → V) (ha : EvS K ta σ H xs) (hb : EvS K tb σ H ys) (hl : xs.length = ys.length) (hz : xs.length ≤ 40000)
    (hw : ∀ x y, wipe (((wipe σ vs).set i (some x)).set j (some y)) vs = wipe σ vs)
    (he : ∀ (n : Nat) (x y : V) H1, Ex H H1 → xs[n]? = some x → ys[n]? = some y → Ev te (((wipe σ vs).set i (some x)).set j (some y)) H1 (v n)) :
    EvL (tLc (RZ.iZipA K (tCons ta (tCons tb tNil))) (gTup K 2 (gCons (gName i) (gCons (gName j) gNil))) tYes te vs) σ H (given xs.length (fun _ => true) v) := fun H0 e Q q =>
  ha H0 e _ fun a H1 e1 h1 => hb H1 (e.trans e1) _ fun b H2 e2 h2 => ⟨a, b, xs, ys, rfl, .inr ⟨ex_t e2 h1, h2, fun Dl hD => by
  have e02 := (e.trans e1).trans e2
  refine ⟨fun n m H' => m = xs.length - n ∧ n ≤ xs.length ∧ Cw H2 (fun _ => true) v Dl n H', ⟨xs.length, by simp, Nat.zero_le _, hD, Ex.new hD, upd_same⟩, ?_⟩
  rintro n m H' ⟨rfl, hn, p⟩
  have hx' : SqT K H' a xs := ex_t (e2.trans p.2.1) h1
  have hy' : SqT K H' b ys := ex_t p.2.1 h2
  by_cases hlt : n < xs.length
  · have hxn := List.getElem?_eq_getElem hlt
    have hyn := List.getElem?_eq_getElem (show n < ys.length by omega)
    refine .inr ⟨⟨xs, ys, _, _, hx', hy', hxn, hyn⟩, Cw H2 (fun _ => true) v Dl (n + 1), fun H3 p3 => ⟨xs.length - (n + 1), by omega, rfl, hlt, p3⟩, fun w H3 hw3 => ?_⟩
    obtain ⟨T, x, y, rfl, hT, rfl, hxx, hyy⟩ := hw3
    have ne : T ≠ Dl := fun z => by
      rw [z, p.2.2] at hT
      cases hT
    have p3 : Cw H2 (fun _ => true) v Dl n (upd H' T (.tup [x, y])) := ⟨p.1, p.2.1.trans (Ex.new hT), by rw [upd_ne (Ne.symm ne)]; exact p.2.2⟩
    refine ⟨T, _, rfl, st_of upd_same, rfl, _, _, rfl, _, _, rfl, rfl, hw _ _, ?_⟩
    exact cw_turn p3 (by omega) (fun H4 _ Q4 q4 => q4 H4 (Ex.refl H4)) (fun _ => he n x y H2 e02 (hxx xs hx') (hyy ys hy'))
  · have en : n = xs.length := by omega
    subst en
    exact .inl ⟨⟨xs, ys, hx', hy', .inl (Nat.le_refl _)⟩, q Dl H' (fresh_back (e1.trans e2) p.1) ((e1.trans e2).trans p.2.1) p.2.2⟩⟩⟩
end
theorem spu_dec {K : PySem.W.Frag} {Pt : Addr} {H : Hp} {t : Addr} {r : List (Option Int)} {c : Int} {ds : List Int} (ht : SqT K H t (entV r)) (hP : H Pt = some (TabF Pt)) (ok : RecOk r) (h0 : 0 ≤ c) (h1 : c < r.length) (hd : (ds.length : Int) = r.length - c) (hs : ∀ x ∈ ds, Sym x) (hk : (knownOf r).length = ds.length) (ag : Agrees r ds) : SpU (spDec K Pt) [.ref t, .int c] H (ds.map V.int) := fun H1 e _ q _ => ⟨t, r, c, ds, rfl, ex_t e ht, e _ _ hP, ok, h0, h1, hd, hs, hk, ag, q⟩
/-- what is left of a block agrees with its data -/
theorem left_agrees {ds : List Int} {n : Nat} {rr : List (Option Int)} {l : List Nat} (L : Left (blockOf ds n) rr l) : Agrees rr ds := fun i x h => by
  have z := L.of i x h
  have hi : i < n := by
    have y := (List.getElem?_eq_some_iff.mp z).1
    rw [block_len] at y
    exact y
  exact Option.some.inj ((block_get hi).symm.trans z)
theorem left_rec {ds : List Int} {n : Nat} {rr : List (Option Int)} {l : List Nat} (hs : ∀ x ∈ ds, Sym x) (hl : ds.length ≤ 16) (h1 : 1 ≤ n) (hn : n ≤ 16) (L : Left (blockOf ds n) rr l) : RecOk rr := by
  have e : rr.length = n := by rw [L.len, block_len]
  refine ⟨fun x hx => ?_, by omega, by omega⟩
  obtain ⟨i, hi⟩ := List.mem_iff_getElem?.mp hx
  exact block_syms hs hl hn x (List.mem_of_getElem? (L.of i x hi))
end Sq

/-! a tuple times one is itself -/
namespace Sq
open PySem PySem.Spec PyProof.Rows L2 Evl
theorem tuple_mul1 (l : Addr) (items : Array Value) (n : Nat) (dd : Option Addr) (sl : Array (Option Value)) (u : Tok) :
    Meets (Builtin.«tuple.__mul__» ⟨[.ref l, .int 1 u], []⟩) (fun _ R s => s.heap.get? l = some { cls := .type "tuple", dict := dd, data := .seq items n, slots := sl } ∧ R (.ok (.ret (Value.ref l))) s) :=
  .of_wp fun prog w A R s h => by
    obtain ⟨hp, g, d, tk, os⟩ := s
    obtain ⟨hl, h⟩ := h
    have f1 := AutoSeq1.idx_int
    have c0 : ¬ ((decide ((1 : Int) < -(2 ^ 63)) || decide ((1 : Int) ≥ 2 ^ 63)) = true) := by decide
    have c1 : (items.isEmpty || (1 : Int) == 1) = true := Bool.or_true _
    wp_walk using wpAny_loadPart' hl
    repeat (first
      | exact ⟨_, rfl, h⟩
      | (refine wpAny_ite_false (decide_eq_false c0) ?_; wp_walk using wpAny_loadPart' hl)
      | (refine wpAny_ite_true (decide_eq_true c1) ?_; wp_walk using wpAny_loadPart' hl))
    all_goals exact ⟨_, rfl, h⟩
def rRep1 (K : PySem.W.Frag) : R2 := fun x y H Q => ∃ l xs, x = .ref l ∧ y = .int 1 ∧ SqT K H l xs ∧ Q (.ref l) H
theorem op_rep1 {X : Cx} : OpR X (binaryOp .Mult) (rRep1 X.K) := by
  intro pins s σ H x y v u Q I rx ry h
  obtain ⟨l, xs, rfl, rfl, hT, q⟩ := h
  cases rx
  obtain ⟨t, rfl⟩ := ry
  obtain ⟨its, r, ⟨⟨cls, dd, data, sl⟩, ho, hc, n, hd⟩, hs⟩ := I.tuple hT
  simp only at hc hd
  subst hc hd
  refine wpAny_binaryOp_repeat_ref (T := "tuple") (U := "int") (by decide) ⟨_, ho, rfl⟩ (fun s' => typeIs_int s' 1 t) noFill_tuple_mul F.fills_int_mul F.slot_int_rmul repeat_tuple F.slot_int_index.lookup ?_
  refine call_meets F.slot_int_rmul (typeIs_int s 1 t) F.entry_int_rmul (F.args_int_rmul_2 _ _) (int_rmul_tuple 1 t l its.toArray n dd sl) ⟨ho, rfl, ⟨_, ho, rfl⟩, ?_⟩
  exact call_meets F.slot_tuple_mul ⟨_, ho, rfl⟩ F.entry_tuple_mul (F.args_tuple_mul_2 _ _) (tuple_mul1 l its.toArray n dd sl t) ⟨ho, ⟨.ref l, H, I, rfl, q⟩⟩
def rRepA (K : PySem.W.Frag) : R2 := fun x y H Q => rRepT K x y H Q ∨ rRep1 K x y H Q
theorem op_repA {X : Cx} : OpR X (binaryOp .Mult) (rRepA X.K) := by
  intro pins s σ H x y v u Q I rx ry h
  rcases h with h | h
  · exact op_repT pins s σ H x y v u Q I rx ry h
  · exact op_rep1 pins s σ H x y v u Q I rx ry h
theorem evs_repA {K : PySem.W.Frag} {σ : L2.St} {H : Hp} {ta tb : TE} {xs : List V} {k : Int} (ha : EvS K ta σ H xs) (hb : Ev tb σ H (.int k)) (hne : xs ≠ []) (hk : 1 ≤ k ∧ k ≤ 1000) (hz : xs.length ≤ 1000) : EvS K (tOp (rRepA K) ta tb) σ H (List.replicate k.toNat xs).flatten := fun H1 e Q q =>
  ha H1 e _ fun a H2 e2 h2 => hb H2 (e.trans e2) _ fun H3 e3 => by
    by_cases h1 : k = 1
    · subst h1
      refine .inr ⟨a, xs, rfl, rfl, ex_t e3 h2, q a H3 (e2.trans e3) ?_⟩
      have z : (List.replicate (1 : Int).toNat xs).flatten = xs := by
        show (List.replicate 1 xs).flatten = xs
        simp
      rw [z]
      exact ex_t e3 h2
    · exact .inl ⟨a, k, xs, rfl, rfl, ex_t e3 h2, hne, by omega, hk.2, hz, fun l hl => q l _ ((e2.trans e3).trans (Ex.new hl)) (st_of upd_same)⟩
end Sq
namespace Sq
open PySem PySem.Spec PyProof.Rows L2 Evl
theorem cut_pre (w : List Int) (k : Nat) : cutV (w.map V.int) none (some (k : Int)) = (w.take k).map V.int := by
  unfold cutV
  rw [HT.sIx_nat, HT.sIx_none, Nat.sub_zero, List.drop_zero, List.map_take]
  rcases Nat.le_total k (w.map V.int).length with h | h
  · rw [Nat.min_eq_left h]
  · rw [Nat.min_eq_right h, List.take_length, List.take_of_length_le h]
theorem evs_pre {K : PySem.W.Frag} {σ : L2.St} {H : Hp} {te tk : TE} {a : Addr} {w z : List Int} {k : Nat} (h : Ev te σ H (.ref a)) (h2 : Ev tk σ H (.int (k : Int))) (hs : SqT K H a (w.map V.int)) (e : w.take k = z) : EvS K (tSl (rSlA K) te tNoPart (tPart tk)) σ H (z.map V.int) := by
  rw [← e, ← cut_pre]
  exact evs_slA h eo_none (eo_some h2) hs
theorem given_map {w : List Int} (g : Int → Int) : given (w.map V.int).length (fun _ => true) (fun n => V.int (g (w.getD n 0))) = (w.map g).map V.int := by
  unfold given
  rw [List.filter_eq_self.mpr (fun _ _ => rfl), List.length_map]
  refine List.ext_getElem? fun n => ?_
  rw [List.getElem?_map, List.getElem?_map, List.getElem?_map]
  by_cases hn : n < w.length
  · rw [List.getElem?_range hn, List.getElem?_eq_getElem hn]
    simp [List.getD_eq_getElem?_getD, List.getElem?_eq_getElem hn]
  · rw [List.getElem?_eq_none (by rw [List.length_range]; omega), List.getElem?_eq_none (by omega)]
    rfl
theorem map_atD {w : List Int} {n : Nat} {x : V} (h : (w.map V.int)[n]? = some x) : x = .int (w.getD n 0) ∧ w.getD n 0 ∈ w := by
  rw [List.getElem?_map] at h
  cases e : w[n]? with
  | none => rw [e] at h; cases h
  | some y =>
    rw [e] at h
    have z : w.getD n 0 = y := by rw [List.getD_eq_getElem?_getD, e]; rfl
    rw [z]
    exact ⟨(Option.some.inj h).symm, List.mem_of_getElem? e⟩
theorem given_zip {v w : List Int} (hl : v.length = w.length) : given (v.map V.int).length (fun _ => true) (fun n => V.int (gadd (v.getD n 0) (w.getD n 0))) = (List.zipWith gadd v w).map V.int := by
  unfold given
  rw [List.filter_eq_self.mpr (fun _ _ => rfl), List.length_map]
  refine List.ext_getElem? fun n => ?_
  rw [List.getElem?_map, List.getElem?_map, List.getElem?_zipWith]
  by_cases hn : n < v.length
  · rw [List.getElem?_range hn, List.getElem?_eq_getElem hn, List.getElem?_eq_getElem (show n < w.length by omega)]
    simp [List.getD_eq_getElem?_getD, List.getElem?_eq_getElem hn, List.getElem?_eq_getElem (show n < w.length by omega)]
  · rw [List.getElem?_eq_none (by rw [List.length_range]; omega), List.getElem?_eq_none (show v.length ≤ n by omega)]
    rfl
theorem rep_flat (x : Int) : ∀ k : Nat, (List.replicate k [V.int x]).flatten = (List.replicate k x).map V.int
  | 0 => rfl
  | k + 1 => by
    rw [List.replicate_succ, List.flatten_cons, rep_flat x k, List.replicate_succ]
    rfl
end Sq

/-! choices of indices, all of them -/
namespace Sq
def goC (n : Nat) : Nat → List Nat → List (List Nat)
  | 0, x => [x]
  | f + 1, x => x :: (match nextC n x with
    | none => []
    | some y => goC n f y)
def combAll (n r : Nat) : List (List Nat) := if n < r then [] else goC n 100 (List.range r)
def subsOf : List Nat → List (List Nat)
  | [] => [[]]
  | x :: l => (subsOf l).map (x :: ·) ++ subsOf l
theorem filter_subs (p : Nat → Bool) : ∀ l : List Nat, l.filter p ∈ subsOf l
  | [] => by simp [subsOf]
  | x :: l => by
    have h := filter_subs p l
    unfold subsOf
    rw [List.mem_append, List.filter_cons]
    cases p x with
    | true => exact .inl (List.mem_map.mpr ⟨_, h, rfl⟩)
    | false => exact .inr h
def nextsOk (n : Nat) : List (List Nat) → Bool
  | [] => true
  | [x] => (nextC n x).isNone
  | x :: y :: r => decide (nextC n x = some y) && nextsOk n (y :: r)
theorem nexts_of {n : Nat} : ∀ {cs : List (List Nat)}, nextsOk n cs = true → ∀ i x, cs[i]? = some x → nextC n x = cs[i + 1]?
  | [], _, i, x, h => by simp at h
  | [a], h, 0, x, e => by
    cases e
    unfold nextsOk at h
    simpa using h
  | [a], _, i + 1, x, e => by simp at e
  | a :: b :: r, h, 0, x, e => by
    cases e
    unfold nextsOk at h
    rw [Bool.and_eq_true] at h
    simpa using of_decide_eq_true h.1
  | a :: b :: r, h, i + 1, x, e => by
    unfold nextsOk at h
    rw [Bool.and_eq_true] at h
    have z := nexts_of h.2 i x (by simpa using e)
    simpa using z
def combChk (n r : Nat) : Bool := (if n < r then (combAll n r).isEmpty else decide ((combAll n r)[0]? = some (List.range r))) && nextsOk n (combAll n r) && (combAll n r).all (fun x => decide (x.length = r) && x.all fun i => decide (i < n)) && (subsOf (List.range n)).all fun s => !(decide (s.length = r)) || (combAll n r).contains s
theorem comb_chk : ∀ n : Fin 9, ∀ r : Fin 9, combChk n.val r.val = true := by decide +kernel
theorem comb_facts {n r : Nat} (hn : n ≤ 8) (hr : r ≤ 8) : CombSeq n r (combAll n r) ∧ (∀ x ∈ combAll n r, x.length = r ∧ ∀ i ∈ x, i < n) ∧ ∀ p : Nat → Bool, ((List.range n).filter p).length = r → (List.range n).filter p ∈ combAll n r := by
  have h := comb_chk ⟨n, by omega⟩ ⟨r, by omega⟩
  have h : combChk n r = true := h
  unfold combChk at h
  simp only [Bool.and_eq_true] at h
  obtain ⟨⟨⟨h1, h2⟩, h3⟩, h4⟩ := h
  have a3 : ∀ x ∈ combAll n r, x.length = r ∧ ∀ i ∈ x, i < n := fun x hx => by
    have z := List.all_eq_true.mp h3 x hx
    rw [Bool.and_eq_true] at z
    exact ⟨of_decide_eq_true z.1, fun i hi => of_decide_eq_true (List.all_eq_true.mp z.2 i hi)⟩
  refine ⟨⟨fun hlt => ?_, fun hle => ?_, nexts_of h2, fun x hx => ?_⟩, a3, fun p hp => ?_⟩
  · rw [if_pos hlt] at h1
    simpa using h1
  · rw [if_neg (by omega)] at h1
    exact of_decide_eq_true h1
  · have := (a3 x hx).1
    omega
  · have z := List.all_eq_true.mp h4 _ (filter_subs p (List.range n))
    rw [decide_eq_true hp] at z
    simpa using z
theorem comb_short_chk : ∀ n : Fin 9, ∀ r : Fin 9, (combAll n.val r.val).length ≤ 70 := by decide +kernel
theorem comb_short {n r : Nat} (hn : n ≤ 8) (hr : r ≤ 8) : (combAll n r).length ≤ 70 := comb_short_chk ⟨n, by omega⟩ ⟨r, by omega⟩
/-- as many as wanted, those that are asked for among them -/
theorem filter_ext : ∀ (n r : Nat) (q : Nat → Bool), ((List.range n).filter q).length ≤ r → r ≤ n → ∃ p : Nat → Bool, (∀ j, j < n → q j = true → p j = true) ∧ ((List.range n).filter p).length = r
  | 0, r, q, _, hr => ⟨q, fun j hj => absurd hj (Nat.not_lt_zero _), by simp; omega⟩
  | n + 1, r, q, h, hr => by
    have set : ∀ (p : Nat → Bool) (b : Bool), ((List.range (n + 1)).filter fun j => if j = n then b else p j).length = ((List.range n).filter p).length + b.toNat := fun p b => by
      have e : (List.range n).filter (fun j => if j = n then b else p j) = (List.range n).filter p := List.filter_congr fun j hj => by
        rw [List.mem_range] at hj
        rw [if_neg (by omega)]
      rw [List.range_succ, List.filter_append, List.length_append, e]
      cases b <;> simp
    rw [List.range_succ, List.filter_append, List.length_append] at h
    cases hq : q n with
    | true =>
      have h1 : ((List.range n).filter q).length + 1 ≤ r := by simpa [hq] using h
      obtain ⟨p, a, b⟩ := filter_ext n (r - 1) q (by omega) (by omega)
      refine ⟨fun j => if j = n then true else p j, fun j hj hqj => ?_, ?_⟩
      · show (if j = n then true else p j) = true
        split
        · rfl
        · exact a j (by omega) hqj
      · rw [set, b]
        show r - 1 + 1 = r
        omega
    | false =>
      have h1 : ((List.range n).filter q).length ≤ r := by simpa [hq] using h
      by_cases hrn : r ≤ n
      · obtain ⟨p, a, b⟩ := filter_ext n r q h1 hrn
        refine ⟨fun j => if j = n then false else p j, fun j hj hqj => ?_, ?_⟩
        · show (if j = n then false else p j) = true
          split
          · rename_i z
            rw [z, hq] at hqj
            cases hqj
          · exact a j (by omega) hqj
        · rw [set, b]
          rfl
      · refine ⟨fun _ => true, fun _ _ _ => rfl, ?_⟩
        rw [List.filter_eq_self.mpr (fun _ _ => rfl), List.length_range]
        omega
theorem nd_le : ∀ {l d : List Nat}, l.Nodup → (∀ x ∈ l, x ∈ d) → l.length ≤ d.length
  | [], _, _, _ => Nat.zero_le _
  | x :: l, d, hn, h => by
    rw [List.nodup_cons] at hn
    have hx := h x (by simp)
    have z := nd_le (l := l) (d := d.erase x) hn.2 fun y hy => (List.mem_erase_of_ne (fun e : y = x => hn.1 (e ▸ hy))).mpr (h y (by simp [hy]))
    rw [List.length_erase_of_mem hx] at z
    have : 0 < d.length := List.length_pos_of_mem hx
    rw [List.length_cons]
    omega
theorem filter_split (p : Nat → Bool) : ∀ l : List Nat, (l.filter p).length + (l.filter fun x => !p x).length = l.length
  | [] => rfl
  | x :: l => by
    have h := filter_split p l
    rw [List.filter_cons, List.filter_cons, List.length_cons]
    cases p x <;> simp <;> omega
theorem filter_two (p q : Nat → Bool) : ∀ l : List Nat, l.length ≤ (l.filter fun x => !p x && !q x).length + (l.filter p).length + (l.filter q).length
  | [] => Nat.zero_le _
  | x :: l => by
    have h := filter_two p q l
    simp only [List.filter_cons, List.length_cons]
    cases p x <;> cases q x <;> simp <;> omega
/-! ### pairs of a list, and what is left without some of them -/
def pairOf (l : List Nat) (i : Nat) : List Nat := (l.drop (2 * i)).take 2
def dropOf (l ix : List Nat) : List Nat := ix.flatMap (pairOf l)
def restOf (l ix : List Nat) : List Nat := l.filter fun a => !(dropOf l ix).contains a
def pairN (l : List Nat) : Nat := (l.length + 1) / 2
theorem drop_len (l : List Nat) : ∀ ix : List Nat, (dropOf l ix).length ≤ 2 * ix.length
  | [] => Nat.le_refl _
  | i :: ix => by
    have h := drop_len l ix
    unfold dropOf at h ⊢
    rw [List.flatMap_cons, List.length_append, List.length_cons]
    have : (pairOf l i).length ≤ 2 := by
      unfold pairOf
      rw [List.length_take]
      omega
    omega
theorem rest_len {l ix : List Nat} (hn : l.Nodup) : l.length ≤ (restOf l ix).length + 2 * ix.length := by
  have h := filter_split (fun a => (dropOf l ix).contains a) l
  have h2 := nd_le (l := l.filter fun a => (dropOf l ix).contains a) (d := dropOf l ix) (hn.sublist List.filter_sublist) fun x hx => by
    rw [List.mem_filter] at hx
    simpa using hx.2
  have h3 := drop_len l ix
  unfold restOf
  omega
theorem pair_mem {l : List Nat} {i b : Nat} (h : l[i]? = some b) : b ∈ pairOf l (i / 2) := by
  have e : l[2 * (i / 2) + i % 2]? = some b := by
    rw [show 2 * (i / 2) + i % 2 = i by omega]
    exact h
  have e2 : ((l.drop (2 * (i / 2))).take 2)[i % 2]? = some b := by
    rw [List.getElem?_take_of_lt (by omega), List.getElem?_drop]
    exact e
  exact List.mem_of_getElem? e2
/-- a choice of pairs in which the bad ones lie -/
theorem choose_pairs {l bad : List Nat} {r : Nat} (h16 : l.length ≤ 16) (hr : r ≤ pairN l) (hb : bad.length ≤ r) (hs : ∀ x ∈ bad, x ∈ l) : ∃ ix ∈ combAll (pairN l) r, ∀ x ∈ restOf l ix, x ∉ bad := by
  have hn8 : pairN l ≤ 8 := by unfold pairN; omega
  let q : Nat → Bool := fun j => (bad.map fun b => l.idxOf b / 2).contains j
  have hq : ((List.range (pairN l)).filter q).length ≤ r := by
    have z := nd_le (l := (List.range (pairN l)).filter q) (d := bad.map fun b => l.idxOf b / 2) (List.nodup_range.sublist List.filter_sublist) fun x hx => by
      rw [List.mem_filter] at hx
      simpa [q] using hx.2
    rw [List.length_map] at z
    omega
  obtain ⟨p, h1, h2⟩ := filter_ext _ _ q hq hr
  refine ⟨_, (comb_facts hn8 (by omega)).2.2 p h2, fun x hx hbx => ?_⟩
  unfold restOf at hx
  rw [List.mem_filter] at hx
  have hl := hs x hbx
  have hlt := List.idxOf_lt_length_of_mem hl
  have he : l[l.idxOf x]? = some x := by
    rw [List.getElem?_eq_getElem hlt]
    simp
  have hm := pair_mem he
  have hj : l.idxOf x / 2 < pairN l := by unfold pairN; omega
  have hqx : q (l.idxOf x / 2) = true := by
    simp only [q, List.contains_iff_mem]
    exact List.mem_map.mpr ⟨x, hbx, rfl⟩
  have hd : x ∈ dropOf l ((List.range (pairN l)).filter p) := List.mem_flatMap.mpr ⟨_, List.mem_filter.mpr ⟨List.mem_range.mpr hj, h1 _ hj hqx⟩, hm⟩
  have hc := hx.2
  simp [hd] at hc
/-- how many of a list hold, when one more does -/
theorem filter_one {p q : Nat → Bool} {m : Nat} : ∀ {l : List Nat}, l.Nodup → m ∈ l → p m = false → q m = true → (∀ i ∈ l, i ≠ m → q i = p i) → (l.filter q).length = (l.filter p).length + 1
  | [], _, hm, _, _, _ => by cases hm
  | x :: l, hn, hm, h0, h1, h => by
    rw [List.nodup_cons] at hn
    by_cases e : x = m
    · subst e
      have z : l.filter q = l.filter p := List.filter_congr fun i hi => h i (by simp [hi]) fun e => hn.1 (e ▸ hi)
      rw [List.filter_cons, List.filter_cons, h0, h1, z]
      simp
    · have hm' : m ∈ l := by
        rcases List.mem_cons.mp hm with z | z
        · exact absurd z.symm e
        · exact z
      have z := filter_one hn.2 hm' h0 h1 fun i hi => h i (by simp [hi])
      have hx := h x (by simp) e
      rw [List.filter_cons, List.filter_cons, hx]
      cases p x <;> simp <;> omega
end Sq

/-! ### decoding: what is close -/
namespace Sq
open PySem PySem.Spec PyProof.Rows L2 Evl
/-- in how many known places these symbols differ from what was received -/
def unl (r : List (Option Int)) (ws : List Int) : Nat := ((knownOf r).filter fun i => decide (ws.getD i 0 ≠ (r[i]?.join).getD 0)).length
def radOf (r : List (Option Int)) (k : Nat) : Nat := ((knownOf r).length - k) / 2
def Close (r : List (Option Int)) (k : Nat) (ds : List Int) : Prop := ds.length = k ∧ (∀ x ∈ ds, Sym x) ∧ k ≤ (knownOf r).length ∧ unl r (blockOf ds r.length) ≤ radOf r k
theorem block_getD {ds : List Int} {n i : Nat} (h : i < n) : (blockOf ds n).getD i 0 = lagr (enumP 0 ds) (i : Int) := by
  rw [List.getD_eq_getElem?_getD, block_get h]
  rfl
theorem through_block {r : List (Option Int)} {e : List Nat} {k : Nat} (ok : RecOk r) (kn : KnownAt r e) (he : e.length = k) (hk : k ≤ r.length) : lagrs (ptsAt r e) r.length = blockOf ((lagrs (ptsAt r e) r.length).take k) r.length ∧ ((lagrs (ptsAt r e) r.length).take k).length = k ∧ ∀ x ∈ (lagrs (ptsAt r e) r.length).take k, Sym x := by
  have o1 := ptsAt_ok ok kn
  have h16 := ok.2.2
  have hl : (lagrs (ptsAt r e) r.length).length = r.length := by
    unfold lagrs
    rw [List.length_map, List.length_range]
  have sy : ∀ x ∈ (lagrs (ptsAt r e) r.length).take k, Sym x := fun x hx => by
    obtain ⟨i, hi, rfl⟩ := List.mem_map.mp (List.mem_of_mem_take hx)
    rw [List.mem_range] at hi
    exact lagr_sym o1 ⟨by omega, by omega⟩
  have tl : ((lagrs (ptsAt r e) r.length).take k).length = k := by
    rw [List.length_take, hl]
    omega
  refine ⟨?_, tl, sy⟩
  have o2 := enumP_ok sy (by omega)
  conv => lhs; unfold lagrs
  unfold blockOf lagrs
  refine List.map_congr_left fun i hi => ?_
  rw [List.mem_range] at hi
  refine (lagr_back o1 o2 ?_ (fun q hq => ?_) ⟨by omega, by omega⟩).symm
  · unfold ptsAt
    rw [enumP_len, List.length_map, he]
    show k ≤ ((lagrs (ptsAt r e) r.length).take k).length
    omega
  · obtain ⟨j, hj⟩ := List.getElem?_of_mem hq
    rw [enumP_get] at hj
    cases e2 : ((lagrs (ptsAt r e) r.length).take k)[j]? with
    | none =>
      rw [e2] at hj
      cases hj
    | some y =>
      have e3 : (((List.range r.length).map fun (i : Nat) => lagr (ptsAt r e) (i : Int)).take k)[j]? = some y := e2
      rw [e2] at hj
      cases hj
      have jk : j < k := by
        have := (List.getElem?_eq_some_iff.mp e2).1
        omega
      rw [List.getElem?_take_of_lt jk, List.getElem?_map, List.getElem?_range (by omega)] at e3
      have e4 := Option.some.inj e3
      show y = lagr (ptsAt r e) (((0 + j : Nat)) : Int)
      rw [Nat.zero_add]
      exact e4.symm
theorem known_lt {r : List (Option Int)} {i : Nat} (h : i ∈ knownOf r) : i < r.length := by
  obtain ⟨x, hx⟩ := knownOf_mem.mp h
  exact (List.getElem?_eq_some_iff.mp hx).1
/-- at most one message is close -/
theorem close_one {r : List (Option Int)} {k : Nat} {ds es : List Int} (ok : RecOk r) (hk : k ≤ r.length) (h1 : Close r k ds) (h2 : Close r k es) : ds = es := by
  obtain ⟨a1, a2, a3, a4⟩ := h1
  obtain ⟨b1, b2, _, b4⟩ := h2
  have h16 := ok.2.2
  have z := filter_two (fun i => decide ((blockOf ds r.length).getD i 0 ≠ (r[i]?.join).getD 0)) (fun i => decide ((blockOf es r.length).getD i 0 ≠ (r[i]?.join).getD 0)) (knownOf r)
  have ge : k ≤ ((knownOf r).filter fun x => !decide ((blockOf ds r.length).getD x 0 ≠ (r[x]?.join).getD 0) && !decide ((blockOf es r.length).getD x 0 ≠ (r[x]?.join).getD 0)).length := by
    unfold unl radOf at a4 b4
    omega
  have eb := block_apart (ds := ds) (es := es) (n := r.length) (l := (((knownOf r).filter fun x => !decide ((blockOf ds r.length).getD x 0 ≠ (r[x]?.join).getD 0) && !decide ((blockOf es r.length).getD x 0 ≠ (r[x]?.join).getD 0))).take k) a2 b2 (by omega) (by omega) h16 ((List.Nodup.sublist List.filter_sublist (knownOf_nd r)).sublist (List.take_sublist _ _)) (by rw [List.length_take]; omega) fun i hi => by
    have hi2 := List.mem_filter.mp (List.mem_of_mem_take hi)
    have hlt := known_lt hi2.1
    refine ⟨hlt, ?_⟩
    have hb := hi2.2
    rw [Bool.and_eq_true, Bool.not_eq_true', Bool.not_eq_true', decide_eq_false_iff_not, decide_eq_false_iff_not, Decidable.not_not, Decidable.not_not, block_getD hlt, block_getD hlt] at hb
    rw [hb.1, hb.2]
  have t1 : (blockOf ds r.length).take ds.length = ds := by
    rw [block_take (by omega), List.take_left]
  have t2 : (blockOf es r.length).take es.length = es := by
    rw [block_take (by omega), List.take_left]
  rw [← t1, ← t2, eb, a1, b1]
/-- the entries that a block is sought through -/
def entriesOf (l : List Nat) (k : Nat) : List (List Nat) := if l.length < k then [] else (combAll (pairN l) ((l.length - k) / 2)).map fun ix => (restOf l ix).take k
theorem entries_ok {l : List Nat} {k : Nat} (hn : l.Nodup) (h16 : l.length ≤ 16) {e : List Nat} (he : e ∈ entriesOf l k) : e.length = k ∧ e.Nodup ∧ ∀ i ∈ e, i ∈ l := by
  unfold entriesOf at he
  split at he
  · cases he
  · obtain ⟨ix, hix, rfl⟩ := List.mem_map.mp he
    have hc := (comb_facts (n := pairN l) (r := (l.length - k) / 2) (by unfold pairN; omega) (by omega)).2.1 ix hix
    have hr := rest_len (ix := ix) hn
    refine ⟨by rw [List.length_take]; omega, (hn.sublist List.filter_sublist).sublist (List.take_sublist _ _), fun i hi => ?_⟩
    exact (List.mem_filter.mp (List.mem_of_mem_take hi)).1
theorem entries_known {r : List (Option Int)} {k : Nat} (ok : RecOk r) {e : List Nat} (he : e ∈ entriesOf (knownOf r) k) : e.length = k ∧ KnownAt r e := by
  have h16 := ok.2.2
  have hl := knownOf_len r
  obtain ⟨a, b, c⟩ := entries_ok (knownOf_nd r) (by omega) he
  refine ⟨a, b, fun i hi => knownOf_mem.mp (c i hi), ?_⟩
  have := nd_le b c
  omega
theorem known_val {r : List (Option Int)} {i : Nat} (h : i ∈ knownOf r) : ∃ x, r[i]? = some (some x) ∧ (r[i]?.join).getD 0 = x := by
  obtain ⟨x, hx⟩ := knownOf_mem.mp h
  exact ⟨x, hx, by rw [hx]; rfl⟩
/-- a message that is close is found -/
theorem close_found {r : List (Option Int)} {k : Nat} {ds : List Int} (ok : RecOk r) (hk : k ≤ r.length) (h : Close r k ds) : ∃ e ∈ entriesOf (knownOf r) k, unl r (lagrs (ptsAt r e) r.length) ≤ radOf r k := by
  obtain ⟨a1, a2, a3, a4⟩ := h
  have h16 := ok.2.2
  have hl := knownOf_len r
  obtain ⟨ix, h1, h2⟩ := choose_pairs (l := knownOf r) (r := radOf r k) (bad := (knownOf r).filter fun i => decide ((blockOf ds r.length).getD i 0 ≠ (r[i]?.join).getD 0)) (by omega) (by unfold radOf pairN; omega) a4 fun x hx => (List.mem_filter.mp hx).1
  have hin : (restOf (knownOf r) ix).take k ∈ entriesOf (knownOf r) k := by
    unfold entriesOf
    rw [if_neg (by omega)]
    exact List.mem_map.mpr ⟨ix, h1, rfl⟩
  obtain ⟨el, kn⟩ := entries_known ok hin
  refine ⟨_, hin, ?_⟩
  have o1 := enumP_ok a2 (show ds.length ≤ 16 by omega)
  have o2 := ptsAt_ok ok kn
  have eb : lagrs (ptsAt r ((restOf (knownOf r) ix).take k)) r.length = blockOf ds r.length := by
    unfold blockOf lagrs
    refine List.map_congr_left fun i hi => ?_
    rw [List.mem_range] at hi
    refine lagr_back o1 o2 ?_ (fun q hq => ?_) ⟨by omega, by omega⟩
    · unfold ptsAt
      rw [enumP_len, List.length_map, el]
      omega
    · obtain ⟨m, hm, rfl⟩ := List.mem_map.mp hq
      have hmk : m ∈ knownOf r := (List.mem_filter.mp (List.mem_of_mem_take hm)).1
      have hnb := h2 m (List.mem_of_mem_take hm)
      have hlt := known_lt hmk
      show (r[m]?.join).getD 0 = lagr (enumP 0 ds) (m : Int)
      by_cases z : (blockOf ds r.length).getD m 0 = (r[m]?.join).getD 0
      · rw [← z, block_getD hlt]
      · exact absurd (List.mem_filter.mpr ⟨hmk, decide_eq_true z⟩) hnb
  rw [eb]
  exact a4
end Sq

/-! ### new lists of new objects -/
namespace Sq
open PySem PySem.Spec PyProof.Rows L2 Evl
def refV (qs : List Addr) : List V := qs.map V.ref
structure RefsO (H : Hp) (qs : List Addr) (os : List HO) : Prop where
  len : qs.length = os.length
  get : ∀ (i : Nat) (q : Addr) (o : HO), qs[i]? = some q → os[i]? = some o → H q = some o
theorem RefsO.ex {H H' : Hp} {qs : List Addr} {os : List HO} (h : RefsO H qs os) (e : Ex H H') : RefsO H' qs os := ⟨h.len, fun i q o a b => e _ _ (h.get i q o a b)⟩
theorem RefsO.snoc {H : Hp} {qs : List Addr} {os : List HO} {q : Addr} {o : HO} (h : RefsO H qs os) (hq : H q = some o) : RefsO H (qs ++ [q]) (os ++ [o]) where
  len := by rw [List.length_append, List.length_append, h.len]; rfl
  get := fun i q' o' a b => by
    by_cases z : i < qs.length
    · rw [List.getElem?_append_left z] at a
      rw [List.getElem?_append_left (by rw [← h.len]; exact z)] at b
      exact h.get i q' o' a b
    · rw [List.getElem?_append_right (by omega)] at a
      rw [List.getElem?_append_right (by rw [← h.len]; omega), ← h.len] at b
      cases e : i - qs.length with
      | zero =>
        rw [e] at a b
        cases a
        cases b
        exact hq
      | succ n =>
        rw [e] at a
        simp at a
theorem RefsO.upd {H : Hp} {qs : List Addr} {os : List HO} {c : Addr} {o : HO} (h : RefsO H qs os) (hc : ∀ q ∈ qs, q ≠ c) : RefsO (upd H c o) qs os := ⟨h.len, fun i q o' a b => by
  rw [upd_ne (hc q (List.mem_of_getElem? a))]
  exact h.get i q o' a b⟩
theorem refV_get {qs : List Addr} {n : Nat} {x : V} (h : (refV qs)[n]? = some x) : ∃ q, qs[n]? = some q ∧ x = .ref q := by
  unfold refV at h
  rw [List.getElem?_map] at h
  cases e : qs[n]? with
  | none => rw [e] at h; cases h
  | some q => rw [e] at h; exact ⟨q, rfl, (Option.some.inj h).symm⟩
theorem refV_len (qs : List Addr) : (refV qs).length = qs.length := List.length_map _
theorem refV_snoc (qs : List Addr) (q : Addr) : refV (qs ++ [q]) = refV qs ++ [.ref q] := by
  unfold refV
  rw [List.map_append]
  rfl
/-- a new object | a new list of new objects -/
def EvN (te : TE) (σ : L2.St) (H : Hp) (o : HO) : Prop := ∀ H1, Ex H H1 → ∀ Q : VK, (∀ p H2, H1 p = none → Ex H1 H2 → H2 p = some o → Q (.ref p) H2) → te σ H1 Q
def EvRs (te : TE) (σ : L2.St) (H : Hp) (os : List HO) : Prop := ∀ H1, Ex H H1 → ∀ Q : VK, (∀ c qs H2, H1 c = none → Ex H1 H2 → H2 c = some (.lst (refV qs)) → RefsO H2 qs os → Q (.ref c) H2) → te σ H1 Q
def RetRs (os : List HO) (H : Hp) (Q : VK) : Prop := ∀ c qs H2, H c = none → Ex H H2 → H2 c = some (.lst (refV qs)) → RefsO H2 qs os → Q (.ref c) H2
/-- a list that grows by new objects -/
def Grow (H : Hp) (os : List HO) (Dl : Addr) (i : Nat) (H' : Hp) : Prop := H Dl = none ∧ Ex H H' ∧ ∃ ts, H' Dl = some (.lst (refV ts)) ∧ RefsO H' ts (os.take i) ∧ ∀ t ∈ ts, t ≠ Dl
section
variable {K : PySem.W.Frag} {σ : L2.St} {H H' H1 : Hp} {te td ti : TE} {ta : TA} {D : Ends} {tu tz : TS} {g : TG} {os : List HO} {Dl : Addr}
theorem grow_0 (h : H Dl = none) : Grow H os Dl 0 (upd H Dl (.lst [])) := ⟨h, Ex.new h, [], upd_same, ⟨rfl, fun i q o a _ => by simp at a⟩, fun t ht => by cases ht⟩
theorem grow_ex {i : Nat} {H2 : Hp} (p : Grow H os Dl i H') (e : Ex H' H2) : Grow H os Dl i H2 := by
  obtain ⟨a, b, ts, c, d, f⟩ := p
  exact ⟨a, b.trans e, ts, e _ _ c, d.ex e, f⟩
theorem grow_at {i : Nat} {o : HO} (p : Grow H os Dl i H') (ho : os[i]? = some o) {t : Addr} {H4 : Hp} (ht : H' t = none) (e4 : Ex H' H4) (h4 : H4 t = some o) : ∃ acc, H4 Dl = some (.lst acc) ∧ acc.length ≤ i ∧ Grow H os Dl (i + 1) (upd H4 Dl (.lst (acc ++ [.ref t]))) := by
  obtain ⟨a, b, ts, c, d, f⟩ := p
  have ne : t ≠ Dl := fun z => by
    rw [z, c] at ht
    cases ht
  refine ⟨refV ts, e4 _ _ c, by rw [refV_len, d.len, List.length_take]; omega, a, Ex.mut (b.trans e4) a, ts ++ [t], by rw [upd_same, refV_snoc], ?_, fun x hx => ?_⟩
  · rw [List.take_add_one, ho]
    exact ((d.ex e4).snoc h4).upd fun q hq => by
      rcases List.mem_append.mp hq with z | z
      · exact f q z
      · rw [List.mem_singleton.mp z]
        exact ne
  · rcases List.mem_append.mp hx with z | z
    · exact f x z
    · rw [List.mem_singleton.mp z]
      exact ne
theorem grow_end (p : Grow H os Dl os.length H') : ∃ ts, H' Dl = some (.lst (refV ts)) ∧ RefsO H' ts os := by
  obtain ⟨_, _, ts, c, d, _⟩ := p
  rw [List.take_length] at d
  exact ⟨ts, c, d⟩
/-- [.. for m in range(i, j, c)], each a new object -/
theorem rs_rng3 {j : Nat} {vs : List Nat} {i jj c : Int} {n : Nat} (h : EvA ta σ H [.int i, .int jj, .int c]) (hR : RgC i jj c n) (hn : n ≤ 40000) (hl : os.length = n) (hw : ∀ x, wipe ((wipe σ vs).set j (some x)) vs = wipe σ vs)
    (he : ∀ (m : Nat) o H1, Ex H H1 → os[m]? = some o → EvN te ((wipe σ vs).set j (some (.int (i + (m : Nat) * c)))) H1 o) : EvRs (tLc (iRng3 ta) (gName j) tYes te vs) σ H os := fun H0 e Q q => h H0 e _ fun H1 e1 => ⟨i, jj, c, n, rfl, hR, fun Dl hD => by
  refine ⟨fun m k H' => k = n - m ∧ m ≤ n ∧ Grow H1 os Dl m H', ⟨n, by simp, Nat.zero_le _, grow_0 hD⟩, ?_⟩
  rintro m k H' ⟨rfl, hm, p⟩
  by_cases hlt : m < n
  · refine .inr ⟨hlt, fun H2 => Grow H1 os Dl (m + 1) H2, fun H2 p2 => ⟨n - (m + 1), by omega, rfl, hlt, p2⟩, fun x H2 y => ?_⟩
    obtain ⟨rfl, rfl⟩ := y
    have ho := List.getElem?_eq_getElem (l := os) (i := m) (by omega)
    exact ⟨hw _, tYes_y (he m _ _ ((e.trans e1).trans p.2.1) ho _ (Ex.refl _) _ fun t H3 ht e3 h3 => by
      obtain ⟨acc, a1, a2, a3⟩ := grow_at p ho ht e3 h3
      exact ⟨acc, a1, sz_lt (by omega), a3⟩)⟩
  · have em : m = os.length := by omega
    subst em
    obtain ⟨ts, h1, h2⟩ := grow_end p
    exact .inl ⟨by show n ≤ os.length; omega, q Dl ts H' (fresh_back e1 hD) (e1.trans p.2.1) h1 h2⟩⟩
/-- [.. for q in a list of objects], each a new object -/
theorem rs_refs {j : Nat} {vs : List Nat} {os' : List HO} (h : EvRs td σ H os) (hz : os.length ≤ 40000) (hl : os'.length = os.length) (hw : ∀ x, wipe ((wipe σ vs).set j (some x)) vs = wipe σ vs)
    (he : ∀ (m : Nat) q o o' H1, Ex H H1 → os[m]? = some o → os'[m]? = some o' → H1 q = some o → EvN te ((wipe σ vs).set j (some (.ref q))) H1 o') : EvRs (tLc (iList K td) (gName j) tYes te vs) σ H os' := fun H0 e Q k =>
  h H0 e _ fun c qs H2 hc e2 h2 hq => ⟨c, rfl, ⟨refV qs, sq_of h2⟩, fun Dl hD =>
    lc_list (xs := refV qs) (Grow H2 os' Dl) (grow_0 hD) (fun i H' _ p => sq_of (p.2.1 _ _ h2)) (fun i x H' hi p => by
      obtain ⟨q, hqi, rfl⟩ := refV_get hi
      have hi2 : i < os.length := by
        have := (List.getElem?_eq_some_iff.mp hqi).1
        rw [hq.len] at this
        exact this
      have ho := List.getElem?_eq_getElem (l := os) (i := i) hi2
      have ho' := List.getElem?_eq_getElem (l := os') (i := i) (by omega)
      exact ⟨hw _, tYes_y (he i q _ _ H' ((e.trans e2).trans p.2.1) ho ho' (p.2.1 _ _ (hq.get i q _ hqi ho)) H' (Ex.refl H') _ fun t H4 ht e4 h4 => by
        obtain ⟨acc, a1, a2, a3⟩ := grow_at p ho' ht e4 h4
        exact ⟨acc, a1, sz_lt (by omega), a3⟩)⟩) (fun H' p => by
      have el : (refV qs).length = os'.length := by rw [refV_len, hq.len, hl]
      rw [el] at p
      obtain ⟨ts, h1, h3⟩ := grow_end p
      exact k Dl ts H' (fresh_back e2 hD) (e2.trans p.2.1) h1 h3)⟩
theorem rs_nil (h : EvL te σ H []) : EvRs te σ H [] := fun H1 e Q q => h H1 e _ fun p H2 hp e2 h2 => q p [] H2 hp e2 h2 ⟨rfl, fun i x o a _ => by simp at a⟩
theorem rs_call {sp : Sp} {vs : List V} (h : EvA ta σ H vs) (hs : ∀ H1, Ex H H1 → ∀ Q : VK, RetRs os H1 Q → ∀ E : XK, sp vs H1 Q E) : EvRs (tCall sp [] E0 ta) σ H os := fun H1 e Q q =>
  h H1 e _ fun H2 e2 => by
    show sp (vs ++ []) H2 Q E0
    rw [List.append_nil]
    exact hs H2 (e.trans e2) Q (fun c qs H3 hc e3 h3 h4 => q c qs H3 (fresh_back e2 hc) (e2.trans e3) h3 h4) E0
theorem s_retRs (h : EvRs te σ H os) (k : ∀ c qs H1, H c = none → Ex H H1 → H1 c = some (.lst (refV qs)) → RefsO H1 qs os → D.rt (.ref c) H1) : tRet te D σ H := h H (Ex.refl H) _ k
theorem q_asgRs {i : Nat} (h : EvRs te σ H os) (k : ∀ c qs H1, H c = none → Ex H H1 → H1 c = some (.lst (refV qs)) → RefsO H1 qs os → tz D (σ.set i (some (.ref c))) H1) : tSeq (tAsg te (gName i)) tz D σ H := h H (Ex.refl H) _ fun c qs H1 hc e h1 h2 => k c qs H1 hc e h1 h2
theorem q_forRs (h : EvRs td σ H os) (k : ∀ c qs H1, H c = none → Ex H H1 → H1 c = some (.lst (refV qs)) → RefsO H1 qs os → tSeq (tFor (iList K (tC (.ref c))) g tu) tz D σ H1) : tSeq (tFor (iList K td) g tu) tz D σ H := h H (Ex.refl H) _ fun c qs H1 hc e h1 hp => k c qs H1 hc e h1 hp
/-- [x for q in a tuple of lists for x in q] -/
theorem el_lc2T {j j1 : Nat} {vs vs1 : List Nat} {a : Addr} {rs : List Addr} {ls : List (List V)} (h : Ev td σ H (.ref a)) (hx : SqT K H a (refV rs)) (hr : RefsO H rs (ls.map HO.lst)) (hz : ls.flatten.length ≤ 40000)
    (hw : ∀ x, wipe ((wipe σ vs).set j (some x)) vs = wipe σ vs) (hw1 : ∀ x y, wipe ((wipe ((wipe σ vs).set j (some x)) vs1).set j1 (some y)) vs1 = wipe ((wipe σ vs).set j (some x)) vs1)
    (hi : ∀ x H1, Ev ti ((wipe σ vs).set j (some x)) H1 x) (he : ∀ x y H1, Ev te ((wipe ((wipe σ vs).set j (some x)) vs1).set j1 (some y)) H1 y) :
    EvL (tLc2 (iTup K td) (gName j) tYes (iList K ti) (gName j1) tYes te vs vs1) σ H ls.flatten := fun H0 e Q q => h H0 e _ fun H1 e1 => ⟨a, rfl, ⟨_, ex_t (e.trans e1) hx⟩, fun Dl hD => by
  have hln : rs.length = ls.length := by
    have := hr.len
    rw [List.length_map] at this
    exact this
  refine ⟨fun i m H' => m = ls.length - i ∧ i ≤ ls.length ∧ Ex H1 H' ∧ H' Dl = some (.lst (ls.take i).flatten), ⟨ls.length, by simp, Nat.zero_le _, Ex.new hD, upd_same⟩, ?_⟩
  rintro i m H' ⟨rfl, hi1, e2, h2⟩
  have e02 := (e.trans e1).trans e2
  by_cases hlt : i < ls.length
  · have hri : rs[i]? = some rs[i] := List.getElem?_eq_getElem (by omega)
    have hli := List.getElem?_eq_getElem hlt
    have hxi : (refV rs)[i]? = some (.ref rs[i]) := by
      unfold refV
      rw [List.getElem?_map, hri]
      rfl
    refine .inr ⟨⟨_, _, ex_t e02 hx, hxi⟩, fun H2 => Ex H1 H2 ∧ H2 Dl = some (.lst (ls.take (i + 1)).flatten), fun H2 p2 => ⟨ls.length - (i + 1), by omega, rfl, hlt, p2⟩, fun x H2 y => ?_⟩
    obtain ⟨rfl, hy⟩ := y
    have ex : x = .ref rs[i] := by
      have := hy _ (ex_t e02 hx)
      rw [hxi] at this
      exact (Option.some.inj this).symm
    subst ex
    refine ⟨hw _, tYes_y ?_⟩
    rw [if_pos rfl]
    have hq : H1 rs[i] = some (.lst ls[i]) := (e.trans e1) _ _ (hr.get i _ _ hri (by rw [List.getElem?_map, hli]; rfl))
    refine hi _ H2 H2 (Ex.refl H2) _ fun H4 e4 => ⟨rs[i], rfl, ⟨_, sq_of ((e2.trans e4) _ _ hq)⟩, ?_⟩
    have fl : ∀ k, ((ls.take i).flatten ++ ls[i].take k).length ≤ 40000 := fun k => by
      have a1 : (ls.take i).flatten.length + ls[i].length + ((ls.drop (i + 1)).flatten).length = ls.flatten.length := by
        conv => rhs; rw [← List.take_append_drop i ls, List.drop_eq_getElem_cons hlt]
        rw [List.flatten_append, List.length_append, List.flatten_cons, List.length_append]
        omega
      rw [List.length_append, List.length_take]
      omega
    refine ⟨fun k m H5 => m = ls[i].length - k ∧ k ≤ ls[i].length ∧ Ex H1 H5 ∧ H5 Dl = some (.lst ((ls.take i).flatten ++ ls[i].take k)), ⟨ls[i].length, by simp, Nat.zero_le _, e2.trans e4, by rw [List.take_zero, List.append_nil]; exact e4 _ _ h2⟩, ?_⟩
    rintro k m H5 ⟨rfl, hk, e5, h5⟩
    by_cases hkl : k < ls[i].length
    · have hki := List.getElem?_eq_getElem hkl
      refine .inr ⟨⟨_, _, sq_of (e5 _ _ hq), hki⟩, fun H6 => Ex H1 H6 ∧ H6 Dl = some (.lst ((ls.take i).flatten ++ ls[i].take (k + 1))), fun H6 p6 => ⟨ls[i].length - (k + 1), by omega, rfl, hkl, p6⟩, fun y H6 hy6 => ?_⟩
      obtain ⟨rfl, hy6⟩ := hy6
      have ey : y = ls[i][k] := by
        have := hy6 _ (sq_of (e5 _ _ hq))
        rw [hki] at this
        exact (Option.some.inj this).symm
      subst ey
      refine ⟨hw1 _ _, tYes_y ?_⟩
      rw [if_pos rfl]
      refine he _ _ H6 H6 (Ex.refl H6) _ fun H7 e7 => ⟨_, e7 _ _ h5, sz_lt (by have := fl k; omega), Ex.mut (e5.trans e7) hD, ?_⟩
      rw [upd_same, List.take_add_one, hki, ← List.append_assoc]
      rfl
    · have ek : k = ls[i].length := by omega
      subst ek
      refine .inl ⟨⟨_, sq_of (e5 _ _ hq), Nat.le_refl _⟩, e5, ?_⟩
      rw [h5, List.take_length, List.take_add_one, hli, List.flatten_append]
      simp
  · have ei : i = ls.length := by omega
    subst ei
    rw [List.take_length] at h2
    exact .inl ⟨⟨_, ex_t e02 hx, by rw [refV_len]; omega⟩, q Dl H' (fresh_back e1 hD) (e1.trans e2) h2⟩⟩
end
end Sq

/-! ### the decoding defs, for any received block -/
namespace Sq
open PySem PySem.Spec PyProof.Rows L2 Evl
def pairsO (l : List Nat) : List HO := (List.range (pairN l)).map fun m => HO.lst (natV (pairOf l m))
def restsO (l : List Nat) (r : Nat) : List HO := (combAll (pairN l) r).map fun ix => HO.lst (natV (restOf l ix))
def entsO (l : List Nat) (k : Nat) : List HO := (entriesOf l k).map fun e => HO.tup (natV e)
theorem cut_pair {l : List Nat} {m : Nat} : cutV (natV l) (some (0 + ((m : Nat) : Int) * 2)) (some (0 + ((m : Nat) : Int) * 2 + 2)) = natV (pairOf l m) := by
  unfold cutV pairOf
  rw [show (0 + ((m : Nat) : Int) * 2) = ((2 * m : Nat) : Int) by omega, show (((2 * m : Nat) : Int) + 2) = ((2 * m + 2 : Nat) : Int) by omega, HT.sIx_nat, HT.sIx_nat, natV_len]
  unfold natV
  rw [List.map_take, List.map_drop]
  refine List.ext_getElem? fun i => ?_
  by_cases h1 : i < 2
  · rw [List.getElem?_take_of_lt h1]
    by_cases h2 : 2 * m + i < l.length
    · rw [List.getElem?_take_of_lt (by omega), Nat.min_eq_left (by omega)]
    · rw [List.getElem?_drop, List.getElem?_eq_none (l := List.map _ l) (by rw [List.length_map]; omega)]
      refine List.getElem?_eq_none ?_
      rw [List.length_take, List.length_drop, List.length_map]
      omega
  · rw [List.getElem?_eq_none (l := List.take 2 _) (by rw [List.length_take]; omega)]
    refine List.getElem?_eq_none ?_
    rw [List.length_take]
    omega
theorem cut_take {l : List Nat} {k : Nat} : cutV (natV l) none (some (k : Int)) = natV (l.take k) := by
  unfold cutV
  rw [HT.sIx_nat, HT.sIx_none, natV_len, Nat.sub_zero, List.drop_zero]
  unfold natV
  rw [← List.map_take]
  congr 1
  rw [List.take_eq_take_iff]
  omega
theorem natV_in {l : List Nat} {m : Nat} : inV (.int (m : Int)) (natV l) = l.contains m := by
  unfold inV natV
  induction l with
  | nil => rfl
  | cons x r ih =>
    rw [List.map_cons, List.any_cons, ih, List.contains_cons]
    have e : eqV (.int (x : Int)) (.int (m : Int)) = (m == x) := by
      unfold eqV
      by_cases z : m = x
      · subst z
        simp
      · have z2 : ¬ (x : Int) = (m : Int) := by omega
        show ((x : Int) == (m : Int)) = (m == x)
        rw [beq_false_of_ne z2, beq_false_of_ne z]
    rw [e]
theorem natV_flat {l : List Nat} : (natV l).all flatV = true := by
  unfold natV
  rw [List.all_map, List.all_eq_true]
  exact fun _ _ => rfl
theorem natV_flatten {ls : List (List Nat)} : (ls.map natV).flatten = natV ls.flatten := by
  unfold natV
  rw [List.map_flatten]
theorem filter_getD {l : List Nat} {p : Nat → Bool} : ((List.range l.length).filter fun n => p (l.getD n 0)).map (fun n => l.getD n 0) = l.filter p := by
  have e : (List.range l.length).map (fun n => l.getD n 0) = l := by
    refine List.ext_getElem? fun i => ?_
    rw [List.getElem?_map]
    by_cases h : i < l.length
    · rw [List.getElem?_range h, List.getElem?_eq_getElem h]
      simp [List.getD_eq_getElem?_getD, List.getElem?_eq_getElem h]
    · rw [List.getElem?_eq_none (l := List.range _) (by rw [List.length_range]; omega), List.getElem?_eq_none (by omega)]
      rfl
  conv => rhs; rw [← e, List.filter_map]
  rfl
theorem given_filter {l : List Nat} {p : Nat → Bool} : given (natV l).length (fun n => p (l.getD n 0)) (fun n => V.int ((l.getD n 0 : Nat) : Int)) = natV (l.filter p) := by
  unfold given
  rw [natV_len, ← filter_getD (l := l) (p := p)]
  unfold natV
  rw [List.map_map]
  rfl
def spWithoutG (K : PySem.W.Frag) : Sp := fun vs H Q _ => ∃ (k p : Addr) (l : List Nat) (qs : List Addr) (r : Nat), vs = [.ref k, .ref p, .int (r : Int)] ∧ SqL K H k (natV l) ∧ SqL K H p (refV qs) ∧ RefsO H qs (pairsO l) ∧ l.length ≤ 16 ∧ r ≤ 8 ∧ RetRs (restsO l r) H Q
def spCoverG (K : PySem.W.Frag) : Sp := fun vs H Q _ => ∃ (k : Addr) (l : List Nat) (d : Nat), vs = [.ref k, .int (d : Int)] ∧ SqL K H k (natV l) ∧ l.length ≤ 16 ∧ RetRs (entsO l d) H Q
def spDiff (K : PySem.W.Frag) : Sp := fun vs H Q _ => ∃ (v t : Addr) (r : List (Option Int)) (ws : List Int), vs = [.ref v, .ref t] ∧ SqL K H v (ws.map V.int) ∧ SqT K H t (entV r) ∧ ws.length = r.length ∧ r.length ≤ 16 ∧ RetV (.int (unl r ws : Nat)) H Q
def RetDec (r : List (Option Int)) (k : Nat) (H : Hp) (Q : VK) : Prop := (∀ ds p H', Close r k ds → H p = none → Ex H H' → H' p = some (.tup (ds.map V.int)) → Q (.ref p) H') ∧ ((∀ ds, ¬ Close r k ds) → ∀ H', Ex H H' → Q .non H')
def spDecG (K : PySem.W.Frag) (Pt : Addr) : Sp := fun vs H Q _ => ∃ (t : Addr) (r : List (Option Int)) (c : Int), vs = [.ref t, .int c] ∧ SqT K H t (entV r) ∧ H Pt = some (TabF Pt) ∧ RecOk r ∧ 0 ≤ c ∧ c < r.length ∧ RetDec r (r.length - c.toNat) H Q
end Sq

/-! ### blocks with erased and changed symbols -/
namespace Sq
open PySem PySem.Spec PyProof.Rows L2 Evl
/-- a test whose answer is not known | a tuple, new or old, with P -/
def EvTP (t : TT) (σ : L2.St) (H : Hp) : Prop := ∀ H1, Ex H H1 → ∀ Q : Bool → Hp → Prop, (∀ b H2, Ex H1 H2 → Q b H2) → t σ H1 Q
def EvSP (K : PySem.W.Frag) (te : TE) (σ : L2.St) (H : Hp) (P : List V → Prop) : Prop := ∀ H1, Ex H H1 → ∀ Q : VK, (∀ xs p H2, P xs → Ex H1 H2 → SqT K H2 p xs → Q (.ref p) H2) → te σ H1 Q
section
variable {K : PySem.W.Frag} {σ : L2.St} {H H' : Hp} {ta tb tc te tm : TE} {t : TT} {D : Ends} {tu tz : TS} {g : TG} {p p1 p2 : V → Prop} {x : V} {i : Nat}
theorem etp_of (h : EvP te σ H fun v => ∃ b, v = .bl b) : EvTP (tTest te) σ H := fun H1 e Q q => h H1 e _ fun v H2 e2 ⟨b, hv⟩ => ⟨b, hv, q b H2 e2⟩
theorem evp_op2 {r : R2} {y : V} (ha : EvP ta σ H p1) (hb : Ev tb σ H y) (hr : ∀ x, p1 x → ∀ H1, Ex H H1 → ∃ z, RV r x y H1 z ∧ p z) : EvP (tOp r ta tb) σ H p := fun H1 e Q q =>
  ha H1 e _ fun x H2 e2 hx => hb H2 (e.trans e2) _ fun H3 e3 => by
    obtain ⟨z, h1, h2⟩ := hr x hx H3 ((e.trans e2).trans e3)
    exact h1 H3 (Ex.refl H3) Q fun H4 e4 => q z H4 ((e2.trans e3).trans e4) h2
theorem evp_if {b : Bool} (h : EvT t σ H b) (h1 : b = true → EvP ta σ H p) (h2 : b = false → EvP tb σ H p) : EvP (tIf t ta tb) σ H p := fun H1 e Q q => h H1 e _ fun H2 e2 => by
  cases b with
  | true =>
    rw [if_pos rfl]
    exact h1 rfl H2 (e.trans e2) Q fun v H3 e3 hp => q v H3 (e2.trans e3) hp
  | false =>
    rw [if_neg (by decide)]
    exact h2 rfl H2 (e.trans e2) Q fun v H3 e3 hp => q v H3 (e2.trans e3) hp
theorem evsp_cat {xs : List V} (ha : EvS K ta σ H xs) (hb : EvP tb σ H p) (hz : xs.length ≤ 1000) : EvSP K (tOp (rCatA K) ta (tTup (tCons tb tNil))) σ H (fun l => ∃ v, p v ∧ l = xs ++ [v]) := fun H1 e Q q =>
  ha H1 e _ fun a H2 e2 h2 => hb H2 (e.trans e2) _ fun v H3 e3 hv => ⟨by show 1 ≤ sizeLine; decide, fun b hb => by
    have e3b : Ex H3 (upd H3 b (.tup [v])) := Ex.new hb
    have ex := (e2.trans e3).trans e3b
    refine ⟨a, b, xs, [v], rfl, rfl, ex_t (e3.trans e3b) h2, st_of upd_same, by show xs.length + 1 ≤ sizeLine; exact sz_of (by omega), fun z => ?_, (fun _ z => nomatch z), (fun _ _ c hc => ?_)⟩
    · exact q (xs ++ [v]) b _ ⟨v, hv, rfl⟩ ex (by rw [z]; exact st_of upd_same)
    · exact q (xs ++ [v]) c _ ⟨v, hv, rfl⟩ (ex.trans (Ex.new hc)) (st_of upd_same)⟩
/-- if ..: name = a tuple (the answer is not known, the name held such a tuple before) -/
theorem q_whenSP {P : List V → Prop} {xs0 : List V} {o : Addr} (h : EvTP t σ H) (h0 : SqT K H o xs0) (hP : P xs0) (hσ : σ.set i (some (.ref o)) = σ) (h1 : EvSP K te σ H P) (k : ∀ xs a H1, P xs → Ex H H1 → SqT K H1 a xs → tz D (σ.set i (some (.ref a))) H1) : tSeq (tIfS t (tAsg te (gName i)) tNext) tz D σ H :=
  h H (Ex.refl H) _ fun b H1 e1 => by
    cases b with
    | true =>
      rw [if_pos rfl]
      exact h1 H1 e1 _ fun xs a H2 hx e2 h2 => k xs a H2 hx (e1.trans e2) h2
    | false =>
      rw [if_neg (by decide)]
      have z := k xs0 o H1 hP e1 (ex_t e1 h0)
      rw [hσ] at z
      exact z
theorem q_asgPop {pl : Addr} {ps : List V} {M : Int} (hq : Ev tb σ H (.ref pl)) (hp : H pl = some (.lst ps)) (hm : EvP tm σ H (intB M))
    (k : ∀ m H1, 0 ≤ m → m < M → Ex H H1 → rPopAt (.ref pl) [.int m] H1 fun v H2 => tz D (σ.set i (some v)) H2) : tSeq (tAsg (tBM K "list" rPopAt tb (tCons tm tNil)) (gName i)) tz D σ H :=
  hq H (Ex.refl H) _ fun H2 e2 => ⟨.inl ⟨rfl, ps, sq_of (e2 _ _ hp)⟩, hm H2 e2 _ fun z H3 e3 hz => by
    obtain ⟨m, rfl, m0, m1⟩ := hz
    exact k m H3 m0 m1 (e2.trans e3)⟩
theorem s_setP {l : Addr} {xs : List V} {j : Nat} (hl : H l = some (.lst xs)) (h : EvP te σ H p) (ho : Ev ta σ H (.ref l)) (hi : Ev tb σ H (.int (j : Int))) (hj : j < xs.length) (k : ∀ v H1, p v → Ex H H1 → D.nx σ (upd H1 l (.lst (xs.set j v)))) :
    tAsg te (gSub ta tb rSetL) D σ H := h H (Ex.refl H) _ fun v H1 e1 hv => ho H1 e1 _ fun H2 e2 => hi H2 (e1.trans e2) _ fun H3 e3 =>
  ⟨l, xs, (j : Int), j, rfl, rfl, ((e1.trans e2).trans e3) l _ hl, ixN_nat hj, k v H3 hv ((e1.trans e2).trans e3)⟩
/-- x, y = two new tuples, names that a comprehension takes -/
theorem q_asgPairUU {xs ys : List V} {j : Nat} (ha : EvU ta σ H xs) (hb : EvU tb σ H ys) (k : ∀ a b H1, Ex H H1 → H1 a = some (.tup xs) → H1 b = some (.tup ys) → tz D ((σ.set i (some (.ref a))).set j (some (.ref b))) H1) : tSeq (tAsg (tTup (tCons ta (tCons tb tNil))) (gTup K 2 (gCons (gName i) (gCons (gName j) gNil)))) tz D σ H :=
  ha H (Ex.refl H) _ fun a H1 _ e1 h1 => hb H1 e1 _ fun b H2 _ e2 h2 => ⟨by show 2 ≤ sizeLine; decide, fun q hq => ⟨q, [.ref a, .ref b], rfl, st_of upd_same, rfl, _, _, rfl, _, _, rfl, rfl, k a b _ ((e1.trans e2).trans (Ex.new hq)) ((Ex.new hq) _ _ (e2 _ _ h1)) ((Ex.new hq) _ _ h2)⟩⟩
theorem q_par2UU {xs ys : List V} {j : Nat} (ha : EvU ta σ H xs) (hb : EvU tb σ H ys) (k : ∀ a b H1, Ex H H1 → H1 a = some (.tup xs) → H1 b = some (.tup ys) → tz D ((σ.set i (some (.ref a))).set j (some (.ref b))) H1) : tSeq (tPar i j (tCons ta (tCons tb tNil))) tz D σ H :=
  ha H (Ex.refl H) _ fun a H1 _ e1 h1 => hb H1 e1 _ fun b H2 _ e2 h2 => ⟨_, _, rfl, k a b _ (e1.trans e2) (e2 _ _ h1) h2⟩
end
/-- some symbols of a block erased, then some changed: the places that are left -/
structure Spl (bs : List Int) (u i : Nat) (rr : List (Option Int)) (l : List Nat) : Prop where
  len : rr.length = bs.length
  nd : l.Nodup
  at_ : ∀ m ∈ l, m < bs.length ∧ rr[m]? = some (some (bs.getD m 0))
  sy : ∀ x, some x ∈ rr → Sym x
  kn : (knownOf rr).length + min i u = bs.length
  un : unl rr bs + min i u = i
  lf : l.length + i = bs.length
theorem unl_eq (r : List (Option Int)) (ws : List Int) : unl r ws = ((List.range r.length).filter fun i => decide (ws.getD i 0 ≠ (r[i]?.join).getD 0) && (r[i]?.join).isSome).length := by
  unfold unl knownOf
  rw [List.filter_filter]
theorem known_map (bs : List Int) : knownOf (bs.map some) = List.range bs.length := by
  unfold knownOf
  rw [List.length_map]
  refine List.filter_eq_self.mpr fun i hi => ?_
  rw [List.mem_range] at hi
  rw [List.getElem?_map, List.getElem?_eq_getElem hi]
  rfl
theorem unl_map (bs : List Int) : unl (bs.map some) bs = 0 := by
  unfold unl
  rw [List.length_eq_zero_iff, List.filter_eq_nil_iff]
  intro i hi
  rw [known_map, List.mem_range] at hi
  rw [List.getElem?_map, List.getElem?_eq_getElem hi, List.getD_eq_getElem?_getD, List.getElem?_eq_getElem hi]
  simp
theorem spl_0 {bs : List Int} {u : Nat} (hs : ∀ x ∈ bs, Sym x) : Spl bs u 0 (bs.map some) (List.range bs.length) where
  len := List.length_map _
  nd := List.nodup_range
  at_ := fun m hm => by
    rw [List.mem_range] at hm
    refine ⟨hm, ?_⟩
    rw [List.getElem?_map, List.getElem?_eq_getElem hm, List.getD_eq_getElem?_getD, List.getElem?_eq_getElem hm]
    rfl
  sy := fun x hx => by
    obtain ⟨y, hy, e⟩ := List.mem_map.mp hx
    cases e
    exact hs _ hy
  kn := by
    rw [known_map, List.length_range]
    omega
  un := by
    rw [unl_map]
    omega
  lf := by rw [List.length_range]; rfl
theorem set_join {rr : List (Option Int)} {m i : Nat} {o : Option Int} (h : m < rr.length) : ((rr.set m o)[i]?).join = if i = m then o else (rr[i]?).join := by
  rw [List.getElem?_set]
  by_cases z : m = i
  · rw [if_pos z, if_pos z.symm, if_pos h]
    rfl
  · rw [if_neg z, if_neg (fun e => z e.symm)]
theorem spl_none {bs : List Int} {u i k m : Nat} {rr : List (Option Int)} {l : List Nat} (S : Spl bs u i rr l) (hi : i < u) (h : l[k]? = some m) : Spl bs u (i + 1) (rr.set m none) (l.eraseIdx k) := by
  have hm := List.mem_of_getElem? h
  obtain ⟨hlt, hat⟩ := S.at_ m hm
  have hl := S.len
  have e := erase_ix S.nd h
  have hjm : (rr[m]?.join) = some (bs.getD m 0) := by rw [hat]; rfl
  refine ⟨by rw [List.length_set]; exact hl, S.nd.sublist (List.eraseIdx_sublist l k), fun j hj => ?_, fun x hx => ?_, ?_, ?_, ?_⟩
  · rw [e, S.nd.mem_erase_iff] at hj
    obtain ⟨a, b⟩ := S.at_ j hj.2
    exact ⟨a, by rw [List.getElem?_set_ne (Ne.symm hj.1)]; exact b⟩
  · rcases List.mem_or_eq_of_mem_set hx with z | z
    · exact S.sy x z
    · cases z
  · have z := filter_one (p := fun i => ((rr.set m none)[i]?.join).isSome) (q := fun i => (rr[i]?.join).isSome) (m := m) (l := List.range rr.length) List.nodup_range (List.mem_range.mpr (by omega)) (by rw [set_join (by omega), if_pos rfl]; rfl) (by rw [hjm]; rfl) fun i _ hne => by rw [set_join (by omega), if_neg hne]
    have k1 : (knownOf rr).length = ((List.range rr.length).filter fun i => (rr[i]?.join).isSome).length := rfl
    have k2 : (knownOf (rr.set m none)).length = ((List.range rr.length).filter fun i => ((rr.set m none)[i]?.join).isSome).length := by
      unfold knownOf
      rw [List.length_set]
    have := S.kn
    omega
  · have z : unl (rr.set m none) bs = unl rr bs := by
      rw [unl_eq, unl_eq, List.length_set]
      refine congrArg List.length (List.filter_congr fun i hi => ?_)
      rw [set_join (by omega)]
      by_cases hz : i = m
      · rw [if_pos hz, hz, hjm]
        simp
      · rw [if_neg hz]
    have := S.un
    rw [z]
    omega
  · have := S.lf
    rw [List.length_eraseIdx_of_lt (List.getElem?_eq_some_iff.mp h).1]
    have := (List.getElem?_eq_some_iff.mp h).1
    omega
theorem spl_xor {bs : List Int} {u i k m : Nat} {y : Int} {rr : List (Option Int)} {l : List Nat} (S : Spl bs u i rr l) (hi : u ≤ i) (h : l[k]? = some m) (hy : Sym y) (hne : y ≠ bs.getD m 0) : Spl bs u (i + 1) (rr.set m (some y)) (l.eraseIdx k) := by
  have hm := List.mem_of_getElem? h
  obtain ⟨hlt, hat⟩ := S.at_ m hm
  have hl := S.len
  have e := erase_ix S.nd h
  have hjm : (rr[m]?.join) = some (bs.getD m 0) := by rw [hat]; rfl
  refine ⟨by rw [List.length_set]; exact hl, S.nd.sublist (List.eraseIdx_sublist l k), fun j hj => ?_, fun x hx => ?_, ?_, ?_, ?_⟩
  · rw [e, S.nd.mem_erase_iff] at hj
    obtain ⟨a, b⟩ := S.at_ j hj.2
    exact ⟨a, by rw [List.getElem?_set_ne (Ne.symm hj.1)]; exact b⟩
  · rcases List.mem_or_eq_of_mem_set hx with z | z
    · exact S.sy x z
    · cases z
      exact hy
  · have z : (knownOf (rr.set m (some y))).length = (knownOf rr).length := by
      unfold knownOf
      rw [List.length_set]
      refine congrArg List.length (List.filter_congr fun i hi => ?_)
      rw [set_join (by omega)]
      by_cases hz : i = m
      · rw [if_pos hz, hz, hjm]
        rfl
      · rw [if_neg hz]
    have := S.kn
    omega
  · have z := filter_one (p := fun i => decide (bs.getD i 0 ≠ (rr[i]?.join).getD 0) && (rr[i]?.join).isSome) (q := fun i => decide (bs.getD i 0 ≠ ((rr.set m (some y))[i]?.join).getD 0) && ((rr.set m (some y))[i]?.join).isSome) (m := m) (l := List.range rr.length) List.nodup_range (List.mem_range.mpr (by omega)) (by rw [hjm]; simp) (by
      rw [set_join (by omega), if_pos rfl]
      simpa using fun z => hne z.symm) fun i _ hni => by rw [set_join (by omega), if_neg hni]
    have k1 := unl_eq rr bs
    have k2 := unl_eq (rr.set m (some y)) bs
    rw [List.length_set] at k2
    have := S.un
    omega
  · have := S.lf
    rw [List.length_eraseIdx_of_lt (List.getElem?_eq_some_iff.mp h).1]
    have := (List.getElem?_eq_some_iff.mp h).1
    omega
structure Spoil (bs : List Int) (u w : Nat) (rr : List (Option Int)) : Prop where
  len : rr.length = bs.length
  sy : ∀ x, some x ∈ rr → Sym x
  kn : (knownOf rr).length + u = bs.length
  un : unl rr bs = w
def spSpoil (K : PySem.W.Frag) : Sp := fun vs H Q _ => ∃ (r b : Addr) (bs : List Int) (u w : Nat), vs = [.ref r, .ref b, .int (u : Int), .int (w : Int)] ∧ RowAt K H r ∧ SqT K H b (bs.map V.int) ∧ (∀ x ∈ bs, Sym x) ∧ bs.length ≤ 16 ∧ u + w ≤ bs.length ∧
  ∀ p rr H', Ex H H' → H' p = some (.tup (entV rr)) → Spoil bs u w rr → Q (.ref p) H'
theorem entV_setS (rr : List (Option Int)) (i : Nat) (x : Int) : (entV rr).set i (.int x) = entV (rr.set i (some x)) := by
  unfold entV
  rw [List.map_set]
theorem xor_ne {a z : Int} (ha : Sym a) (h0 : 1 ≤ z) (h1 : z ≤ 15) : Sym (gadd a z) ∧ gadd a z ≠ a := sym2 (p := fun a z => 1 ≤ z → (Sym (gadd a z) ∧ gadd a z ≠ a)) (by decide +kernel) ha ⟨by omega, h1⟩ h0
/-! ### values that are alike -/
def Alk (K : PySem.W.Frag) (H : Hp) (x y : V) : Prop := (x = .non ∧ y = .non) ∨ ∃ (p q : Addr) (xs : List Int), x = .ref p ∧ y = .ref q ∧ SqT K H p (xs.map V.int) ∧ SqT K H q (xs.map V.int) ∧ xs.length ≤ 1000
theorem Alk.ex {K : PySem.W.Frag} {H H' : Hp} {x y : V} (h : Alk K H x y) (e : Ex H H') : Alk K H' x y := by
  rcases h with h | ⟨p, q, xs, a, b, c, d, f⟩
  · exact .inl h
  · exact .inr ⟨p, q, xs, a, b, ex_t e c, ex_t e d, f⟩
def spAlkB (K : PySem.W.Frag) : Sp := fun vs H Q _ => ∃ x y, vs = [x, y] ∧ Alk K H x y ∧ RetV (.bl true) H Q
def spAlkC (K : PySem.W.Frag) : Sp := fun vs H Q _ => ∃ (p q : Addr) (xs ys : List V), vs = [.ref p, .ref q] ∧ SqL K H p xs ∧ SqL K H q ys ∧ xs.length = ys.length ∧ xs.length ≤ 1000 ∧ (∀ (i : Nat) (x y : V), xs[i]? = some x → ys[i]? = some y → Alk K H x y) ∧ RetV (.bl true) H Q
theorem spv_alkB {K : PySem.W.Frag} {H : Hp} {x y : V} (h : Alk K H x y) : SpV (spAlkB K) [x, y] H (.bl true) := fun H1 e _ k _ => ⟨x, y, rfl, h.ex e, k⟩
end Sq

namespace Sq
open PySem PySem.Spec PyProof.Rows L2 Evl
theorem evsp_imp {K : PySem.W.Frag} {σ : L2.St} {H : Hp} {te : TE} {P P' : List V → Prop} (h : EvSP K te σ H P) (i : ∀ l, P l → P' l) : EvSP K te σ H P' := fun H1 e Q q => h H1 e _ fun xs p H2 hp e2 h2 => q xs p H2 (i xs hp) e2 h2
theorem cut_tail {ds : List Int} (h : ds ≠ []) : cutV (ds.map V.int) (some 1) none = (ds.drop 1).map V.int := by
  have hl : 0 < ds.length := List.length_pos_iff.mpr h
  unfold cutV
  rw [show (some 1 : Option Int) = some ((1 : Nat) : Int) from rfl, HT.sIx_nat, HT.sIx_none, List.length_map, Nat.min_eq_left (by omega), ← List.map_drop]
  exact List.take_of_length_le (by rw [List.length_map, List.length_drop]; exact Nat.le_refl _)
/-- two messages that differ have blocks that differ in more places than there are check symbols -/
theorem blocks_far {ds es : List Int} {n : Nat} (hs : ∀ x ∈ ds, Sym x) (ht : ∀ x ∈ es, Sym x) (hle : es.length = ds.length) (hl : ds.length ≤ n) (hn : n ≤ 16) (hne : ds ≠ es) : n < ((List.range n).filter fun k => decide ((blockOf ds n).getD k 0 ≠ (blockOf es n).getD k 0)).length + ds.length := by
  refine Decidable.byContradiction fun h => hne ?_
  have sp := filter_split (fun k => decide ((blockOf ds n).getD k 0 ≠ (blockOf es n).getD k 0)) (List.range n)
  rw [List.length_range] at sp
  have eb := block_apart (ds := ds) (es := es) (n := n) (l := (((List.range n).filter fun x => !decide ((blockOf ds n).getD x 0 ≠ (blockOf es n).getD x 0))).take ds.length) hs ht hle hl hn ((List.nodup_range.sublist List.filter_sublist).sublist (List.take_sublist _ _)) (by rw [List.length_take]; omega) fun i hi => by
    have hi2 := List.mem_filter.mp (List.mem_of_mem_take hi)
    have hlt := List.mem_range.mp hi2.1
    refine ⟨hlt, ?_⟩
    have hb := hi2.2
    rw [Bool.not_eq_true', decide_eq_false_iff_not, Decidable.not_not, block_getD hlt, block_getD hlt] at hb
    exact hb
  have t1 : (blockOf ds n).take ds.length = ds := by
    rw [block_take (by omega), List.take_left]
  have t2 : (blockOf es n).take es.length = es := by
    rw [block_take (by omega), List.take_left]
  rw [← t1, ← t2, eb, hle]
theorem gdiv_back {a b : Int} (ha : Sym a) (hb : Sym b) (h : b ≠ 0) : gdiv (gmul b a) b = a := sym2 (p := fun a b => b ≠ 0 → gdiv (gmul b a) b = a) (by decide +kernel) ha hb h
/-- the decoded message of a block in which it is close -/
theorem spu_decG {K : PySem.W.Frag} {H : Hp} {t Pt : Addr} {r : List (Option Int)} {c : Int} {ds : List Int} (ht : SqT K H t (entV r)) (hP : H Pt = some (TabF Pt)) (ok : RecOk r) (h0 : 0 ≤ c) (hc : c < r.length) (cl : Close r (r.length - c.toNat) ds) : SpU (spDecG K Pt) [.ref t, .int c] H (ds.map V.int) := fun H1 e Q q E =>
  ⟨t, r, c, rfl, ex_t e ht, e _ _ hP, ok, h0, hc, fun es p H2 hcl hp e2 h2 => by
    have z := close_one ok (by omega) cl hcl
    subst z
    exact q p H2 hp e2 h2, fun hn => absurd cl (hn ds)⟩
theorem spoil_rec {bs : List Int} {u w : Nat} {rr : List (Option Int)} (S : Spoil bs u w rr) (h0 : 1 ≤ bs.length) (h1 : bs.length ≤ 16) : RecOk rr := ⟨S.sy, by rw [S.len]; exact h0, by rw [S.len]; exact h1⟩
theorem spoil_close {ds : List Int} {n u w : Nat} {rr : List (Option Int)} (S : Spoil (blockOf ds n) u w rr) (hs : ∀ x ∈ ds, Sym x) (h : ds.length + u + 2 * w ≤ n) : Close rr ds.length ds := by
  have hl := S.len
  have hk := S.kn
  rw [block_len] at hl hk
  refine ⟨rfl, hs, by omega, ?_⟩
  rw [hl, S.un]
  unfold radOf
  omega
end Sq
namespace Sq
open PySem PySem.Spec PyProof.Rows L2 Evl
/-- f([new tuple, new tuple], [x, y]) -/
theorem ev_call2LL {sp : Sp} {σ : L2.St} {H : Hp} {ta tb tc td : TE} {xs ys : List V} {x y z : V} (ha : EvU ta σ H xs) (hb : EvU tb σ H ys) (hc : Ev tc σ H x) (hd : Ev td σ H y)
    (hs : ∀ u v p q H1, Ex H H1 → H1 u = some (.tup xs) → H1 v = some (.tup ys) → H1 p = some (.lst [.ref u, .ref v]) → H1 q = some (.lst [x, y]) → ∀ Q : VK, RetV z H1 Q → ∀ E : XK, sp [.ref p, .ref q] H1 Q E) :
    Ev (tCall sp [] E0 (tCons (tLst (tCons ta (tCons tb tNil))) (tCons (tLst (tCons tc (tCons td tNil))) tNil))) σ H z := fun H0 e0 Q k =>
  ha H0 e0 _ fun u H1 _ e1 h1 => hb H1 (e0.trans e1) _ fun v H2 _ e2 h2 => ⟨by show 2 ≤ sizeLine; decide, fun p hp => hc _ (((e0.trans e1).trans e2).trans (Ex.new hp)) _ fun H3 e3 => hd H3 ((((e0.trans e1).trans e2).trans (Ex.new hp)).trans e3) _ fun H4 e4 => ⟨by show 2 ≤ sizeLine; decide, fun q hq => by
    have n1 : Ex H2 (upd H2 p (.lst [.ref u, .ref v])) := Ex.new hp
    have n2 : Ex H4 (upd H4 q (.lst [x, y])) := Ex.new hq
    have ex := (((e1.trans e2).trans n1).trans (e3.trans e4)).trans n2
    show sp ([V.ref p, V.ref q] ++ []) _ Q E0
    exact hs u v p q _ (e0.trans ex) (((((e2.trans n1).trans (e3.trans e4)).trans n2)) _ _ h1) ((((n1.trans (e3.trans e4)).trans n2)) _ _ h2) (((e3.trans e4).trans n2) _ _ upd_same) upd_same Q (fun H5 e5 => k H5 (ex.trans e5)) E0⟩⟩
end Sq

/-! values told by what is true of them in the heap -/
namespace Sq
open PySem PySem.Spec PyProof.Rows L2 Evl
def EvH (te : TE) (σ : L2.St) (H : Hp) (P : V → Hp → Prop) : Prop := ∀ H1, Ex H H1 → ∀ Q : VK, (∀ v H2, Ex H1 H2 → P v H2 → Q v H2) → te σ H1 Q
def KeepsP (P : V → Hp → Prop) : Prop := ∀ v H H', P v H → Ex H H' → P v H'
/-- what decoding tells -/
def ToldV (K : PySem.W.Frag) (r : List (Option Int)) (k : Nat) (v : V) (H : Hp) : Prop := (∃ ds p, v = .ref p ∧ Close r k ds ∧ SqT K H p (ds.map V.int)) ∨ (v = .non ∧ ∀ ds, ¬ Close r k ds)
theorem told_keeps {K : PySem.W.Frag} {r : List (Option Int)} {k : Nat} : KeepsP (ToldV K r k) := fun v H H' h e => by
  rcases h with ⟨ds, p, a, b, c⟩ | h
  · exact .inl ⟨ds, p, a, b, ex_t e c⟩
  · exact .inr h
theorem told_some {K : PySem.W.Frag} {r : List (Option Int)} {k : Nat} {v : V} {H : Hp} {ds : List Int} (ok : RecOk r) (hk : k ≤ r.length) (h : ToldV K r k v H) (c : Close r k ds) : ∃ p, v = .ref p ∧ SqT K H p (ds.map V.int) := by
  rcases h with ⟨es, p, a, b, d⟩ | ⟨_, h⟩
  · rw [close_one ok hk c b]
    exact ⟨p, a, d⟩
  · exact absurd c (h ds)
theorem told_non {K : PySem.W.Frag} {r : List (Option Int)} {k : Nat} {v : V} {H : Hp} (h : ToldV K r k v H) (c : (knownOf r).length < k) : v = .non := by
  rcases h with ⟨es, p, a, b, d⟩ | ⟨h, _⟩
  · have := b.2.2.1
    omega
  · exact h
theorem told_alike {K : PySem.W.Frag} {r : List (Option Int)} {k : Nat} {v w : V} {H : Hp} (ok : RecOk r) (hk : k ≤ r.length) (h1 : ToldV K r k v H) (h2 : ToldV K r k w H) : Alk K H v w := by
  rcases h1 with ⟨ds, p, a, b, c⟩ | ⟨a, b⟩
  · obtain ⟨q, a2, c2⟩ := told_some ok hk h2 b
    have := b.1
    have := ok.2.2
    exact .inr ⟨p, q, ds, a, a2, c, c2, by omega⟩
  · rcases h2 with ⟨es, p, a2, b2, c2⟩ | ⟨a2, _⟩
    · exact absurd b2 (b es)
    · exact .inl ⟨a, a2⟩
section
variable {K : PySem.W.Frag} {σ : L2.St} {H : Hp} {ta tb tc te tn tl : TE} {tA : TA} {t : TT} {D : Ends} {tu tz : TS} {g : TG} {x y z : V} {Pa Pb : V → Hp → Prop} {p p1 p3 : V → Prop} {i : Nat}
theorem evh_of (h : Ev te σ H x) (hp : ∀ H1, Ex H H1 → Pa x H1) : EvH te σ H Pa := fun H1 e Q q => h H1 e _ fun H2 e2 => q x H2 e2 (hp H2 (e.trans e2))
theorem evh_call {sp : Sp} {vs : List V} (h : EvA tA σ H vs) (hs : ∀ H1, Ex H H1 → ∀ Q : VK, (∀ v H2, Ex H1 H2 → Pb v H2 → Q v H2) → ∀ E : XK, sp vs H1 Q E) : EvH (tCall sp [] E0 tA) σ H Pb := fun H1 e Q q =>
  h H1 e _ fun H2 e2 => by
    show sp (vs ++ []) H2 Q E0
    rw [List.append_nil]
    exact hs H2 (e.trans e2) Q (fun v H3 e3 hp => q v H3 (e2.trans e3) hp) E0
theorem evh_call2 {sp : Sp} (ha : EvH ta σ H Pa) (ka : KeepsP Pa) (hb : Ev tb σ H y) (hs : ∀ x H1, Ex H H1 → Pa x H1 → ∀ Q : VK, (∀ v H2, Ex H1 H2 → Pb v H2 → Q v H2) → ∀ E : XK, sp [x, y] H1 Q E) : EvH (tCall sp [] E0 (tCons ta (tCons tb tNil))) σ H Pb := fun H1 e Q q =>
  ha H1 e _ fun v H2 e2 hv => hb H2 (e.trans e2) _ fun H3 e3 => hs v H3 ((e.trans e2).trans e3) (ka _ _ _ hv e3) Q (fun u H4 e4 hp => q u H4 ((e2.trans e3).trans e4) hp) E0
theorem q_asgH (h : EvH te σ H Pa) (k : ∀ v H1, Ex H H1 → Pa v H1 → tz D (σ.set i (some v)) H1) : tSeq (tAsg te (gName i)) tz D σ H := h H (Ex.refl H) _ k
/-- f([x], [y]) -/
theorem ev_callHH {sp : Sp} (ha : EvH ta σ H Pa) (ka : KeepsP Pa) (hb : EvH tb σ H Pb) (kb : KeepsP Pb) (hs : ∀ x y p q H1, Ex H H1 → Pa x H1 → Pb y H1 → H1 p = some (.lst [x]) → H1 q = some (.lst [y]) → ∀ Q : VK, RetV z H1 Q → ∀ E : XK, sp [.ref p, .ref q] H1 Q E) :
    Ev (tCall sp [] E0 (tCons (tLst (tCons ta tNil)) (tCons (tLst (tCons tb tNil)) tNil))) σ H z := fun H0 e0 Q k =>
  ha H0 e0 _ fun x H1 e1 h1 => ⟨by show 1 ≤ sizeLine; decide, fun p hp => hb _ ((e0.trans e1).trans (Ex.new hp)) _ fun y H3 e3 h3 => ⟨by show 1 ≤ sizeLine; decide, fun q hq => by
    have n1 : Ex H1 (upd H1 p (.lst [x])) := Ex.new hp
    have n2 : Ex H3 (upd H3 q (.lst [y])) := Ex.new hq
    have ex := ((e1.trans n1).trans e3).trans n2
    show sp ([V.ref p, V.ref q] ++ []) _ Q E0
    exact hs x y p q _ (e0.trans ex) (ka _ _ _ h1 ((n1.trans e3).trans n2)) (kb _ _ _ h3 n2) ((e3.trans n2) _ _ upd_same) upd_same Q (fun H5 e5 => k H5 (ex.trans e5)) E0⟩⟩
/-- x is not None -/
theorem et_notN {b : Bool} (ha : EvH ta σ H Pa) (hb : ∀ v H1, Ex H H1 → Pa v H1 → (!decide (v = .non)) = b) : EvT (tTest (tOp (fun x y H Q => y = .non ∧ Q (.bl (!decide (x = .non))) H) ta (tC .non))) σ H b := fun H1 e Q q =>
  ha H1 e _ fun v H2 e2 hv => ⟨rfl, _, rfl, by rw [hb v H2 (e.trans e2) hv]; exact q H2 e2⟩
/-- [a, b, c], a and c only bounded -/
theorem lp_lst3 (h1 : EvP ta σ H p1) (h2 : Ev tb σ H x) (h3 : EvP tc σ H p3) : EvLP (tLst (tCons ta (tCons tb (tCons tc tNil)))) σ H (fun xs => ∃ a c, p1 a ∧ p3 c ∧ xs = [a, x, c]) := fun H0 e Q q =>
  h1 H0 e _ fun a H1 e1 ha => h2 H1 (e.trans e1) _ fun H2 e2 => h3 H2 ((e.trans e1).trans e2) _ fun c H3 e3 hc => ⟨by show 3 ≤ sizeLine; decide, fun l hl => q [a, x, c] l _ ⟨a, c, ha, hc, rfl⟩ (fresh_back ((e1.trans e2).trans e3) hl) (((e1.trans e2).trans e3).trans (Ex.new hl)) upd_same⟩
theorem q_forLP {P : List V → Prop} (h : EvLP tl σ H P) (k : ∀ c xs H1, P xs → H c = none → Ex H H1 → H1 c = some (.lst xs) → tSeq (tFor (iList K (tC (.ref c))) g tu) tz D σ H1) : tSeq (tFor (iList K tl) g tu) tz D σ H := h H (Ex.refl H) _ fun xs c H1 hP hc e h1 => k c xs H1 hP hc e h1
/-- [.. for k in range(n)], n only bounded -/
theorem lp_rangeP {j : Nat} {vs : List Nat} {lo hi : Int} (h : EvP tn σ H fun v => ∃ n, v = .int n ∧ lo ≤ n ∧ n ≤ hi) (h0 : 0 ≤ lo) (h1 : hi ≤ 40000) (hw : ∀ x, wipe ((wipe σ vs).set j (some x)) vs = wipe σ vs)
    (he : ∀ (i : Nat) H1, Ex H H1 → EvP te ((wipe σ vs).set j (some (.int (i : Int)))) H1 p) : EvLP (tLc (iRng1 (tCons tn tNil)) (gName j) tYes te vs) σ H (fun xs => (lo ≤ xs.length ∧ (xs.length : Int) ≤ hi) ∧ ∀ x ∈ xs, p x) := fun H0 e Q q =>
  h H0 e _ fun v H1 e1 ⟨n, hv, n0, n1⟩ => by
    subst hv
    have z := lp_range (ta := tCons (tC (.int n)) tNil) (te := te) (j := j) (vs := vs) (σ := σ) (H := H1) (p := p) (n := n) (ea_cons ev_c ea_nil) ⟨by omega, by omega⟩ hw (fun i H2 e2 _ => he i H2 ((e.trans e1).trans e2))
    exact z H1 (Ex.refl H1) Q fun xs l H2 hP hl e2 h2 => q xs l H2 ⟨⟨by have := hP.1; omega, by have := hP.1; omega⟩, hP.2⟩ (fresh_back e1 hl) (e1.trans e2) h2
end
/-- decoding, as a value that is told -/
theorem dec_told {K : PySem.W.Frag} {H : Hp} {t Pt : Addr} {r : List (Option Int)} {c : Int} (ht : SqT K H t (entV r)) (hP : H Pt = some (TabF Pt)) (ok : RecOk r) (h0 : 0 ≤ c) (hc : c < r.length) : ∀ H1, Ex H H1 → ∀ Q : VK, (∀ v H2, Ex H1 H2 → ToldV K r (r.length - c.toNat) v H2 → Q v H2) → ∀ E : XK, spDecG K Pt [.ref t, .int c] H1 Q E := fun H1 e Q q E =>
  ⟨t, r, c, rfl, ex_t e ht, e _ _ hP, ok, h0, hc, fun ds p H2 cl hp e2 h2 => q _ H2 e2 (.inl ⟨ds, p, rfl, cl, st_of h2⟩), fun hn H2 e2 => q _ H2 e2 (.inr ⟨rfl, hn⟩)⟩
theorem ev_callVS {K : PySem.W.Frag} {σ : L2.St} {H : Hp} {ta tb : TE} {x z : V} {xs : List V} {sp : Sp} (ha : Ev ta σ H x) (hb : EvS K tb σ H xs) (hs : ∀ a H1, Ex H H1 → SqT K H1 a xs → SpV sp [x, .ref a] H1 z) : Ev (tCall sp [] E0 (tCons ta (tCons tb tNil))) σ H z := fun H1 e Q q =>
  ha H1 e _ fun H2 e2 => hb H2 (e.trans e2) _ fun a H3 e3 h3 => hs a H3 ((e.trans e2).trans e3) h3 H3 (Ex.refl H3) Q (fun H4 e4 => q H4 ((e2.trans e3).trans e4)) E0
theorem rv_isN {H : Hp} {x : V} : RV (fun x y H Q => y = .non ∧ Q (.bl (decide (x = .non))) H) x .non H (.bl (decide (x = .non))) := fun H1 _ Q q => ⟨rfl, q H1 (Ex.refl H1)⟩
/-! ### promises of law k03's own defs -/
def spMeasure (K : PySem.W.Frag) : Sp := fun vs H Q _ => ∃ (t : Addr) (r : List (Option Int)) (c : Nat), vs = [.ref t, .int (c : Int)] ∧ SqT K H t (entV r) ∧ r.length ≤ 16 ∧ c ≤ r.length ∧ RetV (.int ((((knownOf r).length : Int) - ((r.length - c : Nat) : Int)).fdiv 2)) H Q
def spUnlike (K : PySem.W.Frag) : Sp := fun vs H Q _ => ∃ (t b : Addr) (r : List (Option Int)) (ws : List Int), vs = [.ref t, .ref b] ∧ SqT K H t (entV r) ∧ SqT K H b (ws.map V.int) ∧ ws.length = r.length ∧ r.length ≤ 16 ∧ RetV (.int (unl r ws : Nat)) H Q
def spNear (K : PySem.W.Frag) : Sp := fun vs H Q _ => ∃ (t : Addr) (r : List (Option Int)) (c : Nat), vs = [.ref t, .int (c : Int)] ∧ SqT K H t (entV r) ∧ RecOk r ∧ c + 1 = r.length ∧ ∀ v H2, Ex H H2 → ToldV K r 1 v H2 → Q v H2
theorem none_count (r : List (Option Int)) : ((List.range (entV r).length).filter fun n => ((r[n]?).join).isNone).length + (knownOf r).length = r.length := by
  have z := filter_split (fun n => ((r[n]?).join).isNone) (List.range r.length)
  have e : (List.range r.length).filter (fun x => !((r[x]?).join).isNone) = knownOf r := by
    unfold knownOf
    refine List.filter_congr fun i _ => ?_
    cases (r[i]?).join <;> rfl
  rw [e, List.length_range] at z
  rw [entV_len]
  exact z
end Sq
namespace Sq
open PySem PySem.Spec PyProof.Rows L2 Evl
theorem near_le {r : List (Option Int)} {x : Int} (ok : RecOk r) (hx : Sym x) : (given (1 : Int).toNat (fun k => (r[k]?.join).isSome && decide ([x].getD k 0 ≠ (r[k]?.join).getD 0)) (fun k => V.int (k : Int))).length ≤ unl r (blockOf [x] r.length) := by
  have h1 := ok.2.1
  have h16 := ok.2.2
  unfold given
  rw [List.length_map, unl_eq]
  have e : (List.range (1 : Int).toNat).filter (fun k => (r[k]?.join).isSome && decide ([x].getD k 0 ≠ (r[k]?.join).getD 0)) = (List.range (1 : Int).toNat).filter (fun i => decide ((blockOf [x] r.length).getD i 0 ≠ (r[i]?.join).getD 0) && (r[i]?.join).isSome) := List.filter_congr fun k hk => by
    have hk : k < 1 := List.mem_range.mp hk
    obtain rfl : k = 0 := by omega
    rw [block_getD (by omega), lagr_at (ds := [x]) (i := 0) (x := x) rfl, Bool.and_comm]
    rfl
  rw [e]
  refine (List.Sublist.filter _ ?_).length_le
  exact List.range_sublist.mpr h1
end Sq
namespace Sq
open PySem PySem.Spec PyProof.Rows L2 Evl
theorem entV_atN {r : List (Option Int)} {i : Nat} (h : r[i]? = some none) : atI (entV r) (i : Int) = some .non := by
  refine atI_nat ?_
  unfold entV
  rw [List.getElem?_map, h]
  rfl
theorem ne_two (x y : Int) : (!decide (V.int x = V.int y)) = decide (y ≠ x) := by
  by_cases z : x = y
  · subst z
    simp
  · have z2 : ¬ y = x := fun e => z e.symm
    simp [z, z2]
end Sq

/-! a generator expression whose element takes names of the def around it, over a tuple, a list or a range -/
namespace Sq
open PySem PySem.Spec PyProof.Rows L2 Evl
def Pinned (ps : List (Addr × Obj)) (h : Heap) : Prop := ∀ q ∈ ps, h.get? q.1 = some q.2
theorem pinned_stb {ps : List (Addr × Obj)} : GStb (Pinned ps) := fun h h' k g q hq => k _ _ (g q hq)
section
variable {X : Cx} {pins : List (Addr × Obj)} {σ : L2.St} {H : Hp} {s : Shared}
def EltI (X : Cx) (scope : Scope) (x : Str) (elt : Expr) (ps : List (Addr × Obj)) (Pf : Nat → Value → Prop) (pt : Nat → Bool) : Prop := ∀ (i : Nat) (v : Value), Pf i v → ∀ (cenv : Env) (m : Str → Option Value), cenv.scope = scope → cenv.globals = mainGlobals → cenv.builtins = builtinsNs → cenv.cells = cloFrom X.env.cells scope.names [] → m x = some v →
  RawE X.prog X.w X.K X.mg X.base (X.A.depth + 1) (X.A.units + 8) cenv m (Pinned ps) elt (fun u => u = .bool (pt i))
/-- an iterator just made, what it gives, and what the element gives for it -/
structure ItData (X : Cx) (pins : List (Addr × Obj)) (σ : L2.St) (Pt : Addr) (scope : Scope) (x : Str) (elt : Expr) (n : Nat) (pt : Nat → Bool) (H1 : Hp) (s1 : Shared) (io : Obj) : Prop where
  inv : Inv X pins σ H1 s1
  tab : H1 Pt = some (TabF Pt)
  live : (s1.heap.push io).get? s1.heap.objs.size = some io
  walk : ∃ (fp0 : List Addr) (Pf : Nat → Value → Prop) (St0 : Nat → Heap → Prop) (ps : List (Addr × Obj)),
    (∀ A' : Around, A'.handled = none → Walks X.prog X.w A' s1.heap.objs.size (s1.heap.objs.size :: fp0) [s1.heap.objs.size] n Pf St0) ∧
    (∀ h3 : Heap, h3.get? s1.heap.objs.size = some io → (∀ b ∈ fp0, ∀ o, s1.heap.get? b = some o → h3.get? b = some o) → St0 0 h3) ∧ (∀ b ∈ fp0, b < s1.heap.objs.size ∧ b ≠ Pt) ∧ Pinned ps s1.heap ∧ (∀ q ∈ ps, q.1 ≠ Pt) ∧ EltI X scope x elt ps Pf pt
def GenRdN (X : Cx) (pins : List (Addr × Obj)) (σ : L2.St) (H : Hp) (n : Nat) (pt : Nat → Bool) (g : Addr) (s5 : Shared) : Prop :=
  ∃ (fp wr : List Addr) (G : Array GenState → Array GenState → Prop) (F : Nat → Value → Prop) (St : Nat → Shared → Prop),
    (WalksS X.prog X.w X.A.in1 g fp wr G n F St ∧ St 0 s5) ∧ TruthOf X.prog X.w X.A.in1 F pt ∧ ∀ s', Moved wr G s5 s' → Inv X pins σ H s'
theorem gen_core {c Pt : Addr} {elt iter : Expr} {x : Str} {px gpos : Pos} {scope : Scope} {j : Nat} {Q' : Value → Shared → Prop} {kk : Nat → (Nat → Bool) → Hp → Prop}
    (hr : Room j X.A) (TB : GxR.TabB X.base X.mg c Pt) (hcode : X.env.code = .ref c) (S : GxR.GenS X.env scope x) (hs : ∀ v, genFold iter X.env v = pure v)
    (hit : wpAny (model X.prog X.w) X.A (eval iter X.env) (fun xv s₁ => wpAny (model X.prog X.w) X.A (pyIter xv) (fun it s₂ => ∃ n pt H1 s1 io, it = .ref s1.heap.objs.size ∧ s₂ = { s1 with heap := s1.heap.push io } ∧ ItData X pins σ Pt scope x elt n pt H1 s1 io ∧ kk n pt H1) X.xe s₁) X.xe s)
    (hQ : ∀ n pt H1 g s5, kk n pt H1 → GenRdN X pins σ H1 n pt g s5 → Q' (.ref g) s5) :
    wpAny (model X.prog X.w) X.A (eval (.GeneratorExp elt [⟨.Name x px, iter, [], 0⟩] scope gpos) X.env) Q' X.xe s := by
  refine wpAny_GeneratorExp_walksQD hr.hd S.co (closure_ok S.free) S.cell S.dot S.loc S.kind (by have := hr.dp; omega) ?_ hs
  refine wpAny_mono hit (fun xv s₁ h => wpAny_mono h (fun it s₂ h2 => ?_) fun _ _ z => z) fun _ _ z => z
  obtain ⟨n, pt, H1, s1, io, rfl, rfl, D, hkk⟩ := h2
  obtain ⟨I1, hT, live, fp0, Pf, St0, pps, WK, hst0, hfp, hpin, hpt, hel⟩ := D
  obtain ⟨⟨ps, hP, tri⟩, _, _⟩ := I1.hok Pt _ hT
  have szZ : (s1.heap.push io).objs.size = s1.heap.objs.size + 1 := Heap.size_push ..
  have toZ : ∀ b u, s1.heap.get? b = some u → (s1.heap.push io).get? b = some u := fun b u e => Heap.get?_push_of_some _ e
  have hPlt : Pt < s1.heap.objs.size := Heap.lt_size hP
  have hPZ := toZ _ _ hP
  have hcd : PySem.W.CodeHd (s1.heap.push io) c Pt := TB.code.keeps fun b u e => toZ b u (I1.bk b u e)
  have limZ : (s1.heap.push io).NoLimit := I1.nolimit.push io
  have baseP : ∀ b u, X.base.get? b = some u → b ≠ Pt := fun b u e z => by
    have q := (I1.bs b u e).2
    rw [z, hT] at q
    cases q
  have hcl : cStatics < s1.heap.objs.size := let ⟨_, hns, _⟩ := I1.nolimit; hns.lt
  have go : ∀ (code : Value) (h3 : Heap) (tk : Nat) (qs : Array Value), Heap.ExtBut Pt (s1.heap.push io) h3 → (s1.heap.push io).objs.size ≤ h3.objs.size → h3.get? Pt = some { cls := .none, data := .fields qs } → TriplesOk qs.toList →
      wpAny (model X.prog X.w) X.A (builtinsFor X.env.globals X.env.builtins) (fun bi s₄ =>
        ∃ Ia fp wr n₀ Pf St₀ pz F, Value.ref s1.heap.objs.size = .ref Ia ∧ (∀ A' : Around, A'.handled = none → Walks X.prog X.w A' Ia fp wr n₀ Pf St₀) ∧ St₀ 0 s₄.heap ∧ (∀ b ∈ fp, b < s₄.heap.objs.size) ∧ s₄.heap.NoLimit ∧ cStatics ∉ wr ∧
          (∀ href : Heap, (∀ b o, s₄.heap.get? b = some o → href.get? b = some o) →
            QuietGenD X.prog X.w (genEnv scope (cloFrom X.env.cells scope.names []) s₄.heap.objs.size code bi X.env) x [] elt (List.range s₄.heap.objs.size) wr Pf pz F href (X.A.depth + 1) (X.A.units + 8)) ∧
          (∀ a h₅ tk gs, gs.bare = true → s₄.heap.objs.size < a → h₅.objs.size = a + 1 → (∀ b o, s₄.heap.get? b = some o → h₅.get? b = some o) →
            WalksS X.prog X.w X.A.in4 a (a :: s₄.heap.objs.size :: List.range s₄.heap.objs.size) (s₄.heap.objs.size :: wr) (GenOnlyQ s₄.gens.size) (passing pz n₀ 0).length
              (fun j y => ∃ i, (passing pz n₀ 0)[j]? = some i ∧ F i y) (GenAt X.prog X.w X.A.in4 a s₄.gens.size s₄.heap.objs.size (List.range s₄.heap.objs.size) wr pz n₀ F) →
            GenAt X.prog X.w X.A.in4 a s₄.gens.size s₄.heap.objs.size (List.range s₄.heap.objs.size) wr pz n₀ F 0 { s₄ with gens := s₄.gens.push gs, toks := tk, heap := h₅ } →
            Q' (.ref a) { s₄ with gens := s₄.gens.push gs, toks := tk, heap := h₅ })) X.xe { s1 with heap := h3, toks := tk } := by
    intro code h3 tk qs hx3 hsz hP3 tri3
    have up3 : ∀ b u, b ≠ Pt → s1.heap.get? b = some u → h3.get? b = some u := fun b u hb e => hx3 b u hb (toZ b u e)
    have hcP : cStatics ≠ Pt := fun z => by
      obtain ⟨_, ⟨o', es, ep, ho, hd, _⟩, _⟩ := I1.nolimit
      rw [z, hP] at ho
      cases ho
      cases hd
    obtain ⟨bm, ob, d1, d2, d3, d4, d5, d6, d7, d8⟩ := TB.bm
    refine wpAny_builtinsFor (m := X.mg) (by rw [I1.ok.glob]; exact ((I1.mod.glob.keeps I1.bk).push io).extBut hx3 TB.gP) d1 d2 (up3 _ _ d4 (I1.bk _ _ d5)) d6 d7 d8 ?_
    have lt3 : s1.heap.objs.size < h3.objs.size := by omega
    have hio : h3.get? s1.heap.objs.size = some io := hx3 _ _ (Nat.ne_of_gt hPlt) live
    refine ⟨s1.heap.objs.size, s1.heap.objs.size :: fp0, [s1.heap.objs.size], n, Pf, St0, (fun _ => true), (fun i y => y = .bool (pt i)), rfl, WK, hst0 h3 hio (fun b hb o e => up3 b o (hfp b hb).2 e), ?_, limZ.extBut hx3 hcP, ?_, ?_, ?_⟩
    · intro b hb
      rcases List.mem_cons.mp hb with z | z
      · rw [z]; exact lt3
      · exact Nat.lt_trans (hfp b z).1 lt3
    · exact fun z => Nat.ne_of_lt hcl (List.mem_singleton.mp z)
    · intro href hhref
      refine ⟨fun A' E' i v s₂ m₂ hA _ _ hPv hn hm hk => ?_, fun A' E' i v s₂ m₂ hA hAd hAu hPv hpz hn hm hk => ?_⟩
      · simp only [List.forIn_nil]
        exact wpAny_pure ⟨rfl, keeps_rfl _⟩
      · have old : ∀ b o, b ≠ Pt → s1.heap.get? b = some o → s₂.heap.get? b = some o := fun b o hb e => by
          have lb := Heap.lt_size e
          exact hk b (List.mem_range.mpr (Nat.lt_trans lb lt3)) (fun z => Nat.ne_of_lt lb (List.mem_singleton.mp z)) o (hhref b o (up3 b o hb e))
        have rs : RS X.K X.mg X.base s₂ := ⟨I1.mod, fun b o e => old b o (baseP b o e) (I1.bs b o e).1⟩
        exact wpAny_mono (hel i v hPv (genEnv scope (cloFrom X.env.cells scope.names []) h3.objs.size code builtinsNs X.env) m₂ rfl I1.ok.glob rfl rfl hm A' E' s₂ rs hA hAd hAu hn fun q hq => old q.1 q.2 (hpt q hq) (hpin q hq)) (fun u s3 q => q) fun _ _ z => z
    · intro g h5 tk5 gs hgb hag hsz5 hk5 W5 hat
      simp only [GxR.passing_true, List.length_range] at W5 hat
      refine hQ n pt H1 g _ hkk ⟨_, _, _, _, _, ⟨W5.in4_1, hat⟩, ?_, fun s' hm => ?_⟩
      · intro i y sj Qj Ej hy hQj
        obtain ⟨i', hij, rfl⟩ := hy
        obtain ⟨hj, ej⟩ := List.getElem?_eq_some_iff.mp hij
        rw [List.getElem_range] at ej
        subst ej
        exact wpAny_truthy_bool hQj
      · have away : ∀ b u, s1.heap.get? b = some u → b ∉ h3.objs.size :: [s1.heap.objs.size] := fun b u e hb => by
          have lb := Heap.lt_size e
          rcases List.mem_cons.mp hb with z | z
          · exact Nat.ne_of_lt (Nat.lt_trans lb lt3) z
          · exact Nat.ne_of_lt lb (List.mem_singleton.mp z)
        have last : ∀ b u, b ≠ Pt → s1.heap.get? b = some u → s'.heap.get? b = some u := fun b u hb e => hm.heap b u (away b u e) (hk5 b u (up3 b u hb e))
        have lastP : s'.heap.get? Pt = some { cls := .none, data := .fields qs } := hm.heap Pt _ (away Pt _ hP) (hk5 Pt _ hP3)
        have mu : Mut (H1 Pt) := by rw [hT]; exact trivial
        have eU : upd H1 Pt (TabF Pt) = H1 := upd_self hT
        have un : Un (frs X.stack) [] H1 H1 s1.heap s'.heap := by
          have z := Un.write (fs := frs X.stack) (ex := []) (o := TabF Pt) mu (.inl rfl) last ⟨_, lastP⟩
          rw [eU] at z
          exact z
        have hok : HOk X.prog X.w H1 s'.heap := by
          have z := I1.hok.write (o' := TabF Pt) mu (.inl rfl) last ⟨_, lastP⟩ (tabF_ok lastP tri3)
          rw [eU] at z
          exact z
        have J := I1.call (g' := s'.gens) (t' := s'.toks) (d' := s'.drawn) (ch := []) un hok (AllBare.movedS (I1.bare.push hgb) hm) (fun b hb => absurd hb (by simp))
        rw [GxR.sh_eta s1 s' hm.os] at J
        exact J
  refine ⟨limZ, ?_⟩
  cases hf : codeAmong gpos ps.toList with
  | some cv =>
    refine wpAny_genexprCode_hit hcode (hcd.code hPZ tri) hf ?_
    exact go cv _ s1.toks ps (Heap.ExtBut.refl _ _) (Nat.le_refl _) hPZ tri
  | none =>
    refine wpAny_genexprCodeX hcode (hcd.code hPZ tri) (hcd.tab hPZ) hf fun c' h' tk hxx hge hlt hco' _ htab' _ => ?_
    obtain ⟨o1, vs, f1, tf, fl, tg, inF, tx, tt, op, _, _, _, _, _, _, _, _, _, htr, _⟩ := hco'
    exact go _ h' tk _ hxx (Nat.le_trans hge (Nat.le_of_lt hlt)) htab'.2 htr
end
end Sq

/-! all(..), any(..) whose elements take a name of the def around them -/
namespace Sq
open PySem PySem.Spec PyProof.Rows L2 Evl
section
variable {P : Program} {w : World} {K : PySem.W.Frag} {mg : Str → Option Value} {base : Heap} {D U : Nat} {env : Env} {m : Str → Option Value} {G : Heap → Prop} {e a b c : Expr} {pos p : Pos} {x : Str}
theorem raw_anyG {R : Value → Prop} (h : RawE P w K mg base D U env m GT e R) : RawE P w K mg base D U env m G e R := fun A E s rs h0 h1 h2 hn _ => h A E s rs h0 h1 h2 hn trivial
theorem raw_free {u : Value} {ca : Addr} {co : Obj} {ps : List (Addr × Obj)} (F : FnEnv env) (hk : env.kindOf x = some .free) (hc : env.cells.lookup x = some ca) (hp : (ca, co) ∈ ps) (hd : co.data = .cell (some u)) (hcd : (x == ("__classdict__" : Str)) = false) (hdb : (x == ("__debug__" : Str)) = false) :
    RawE P w K mg base D U env m (Pinned ps) (.Name x pos) (fun v => v = u) :=
  fun A E s _ _ _ _ _ hg => wpAny_Name (wpAny_loadName_free F.kind hk hc ⟨co, hg _ hp, hd⟩ ⟨rfl, keeps_rfl s⟩ hcd) hdb
theorem raw_sub {i j : Int} (g : GStb G) (ha : RawE P w K mg base D U env m G a (fun v => ∃ t, v = .int i t)) (hb : RawE P w K mg base D U env m G b (fun v => ∃ t, v = .int j t)) : RawE P w K mg base D U env m G (.BinOp a .Sub b pos) (fun v => ∃ t, v = .int (i - j) t) :=
  fun A E s r h0 h1 h2 hn hg => wpAny_BinOp (wpAny_mono (ha A E s r h0 h1 h2 hn hg) (fun v s1 q => by
    obtain ⟨⟨t1, rfl⟩, k1⟩ := q
    refine wpAny_mono (hb A E s1 (r.keeps k1) h0 h1 h2 (ns_keeps k1 hn) (gstb_keeps g k1 hg)) (fun v s2 q => ?_) fun _ _ z => z
    obtain ⟨⟨t2, rfl⟩, k2⟩ := q
    exact sub_int ⟨⟨_, rfl⟩, keeps_trans (keeps_trans k1 k2) (keeps_tk s2 _)⟩) fun _ _ z => z)
theorem raw_band {i j : Int} (g : GStb G) (ha : RawE P w K mg base D U env m G a (fun v => ∃ t, v = .int i t)) (hb : RawE P w K mg base D U env m G b (fun v => ∃ t, v = .int j t)) : RawE P w K mg base D U env m G (.BinOp a .BitAnd b pos) (fun v => ∃ t, v = .int (Builtin.bitAnd i j) t) :=
  fun A E s r h0 h1 h2 hn hg => wpAny_BinOp (wpAny_mono (ha A E s r h0 h1 h2 hn hg) (fun v s1 q => by
    obtain ⟨⟨t1, rfl⟩, k1⟩ := q
    refine wpAny_mono (hb A E s1 (r.keeps k1) h0 h1 h2 (ns_keeps k1 hn) (gstb_keeps g k1 hg)) (fun v s2 q => ?_) fun _ _ z => z
    obtain ⟨⟨t2, rfl⟩, k2⟩ := q
    exact and_int ⟨⟨_, rfl⟩, keeps_trans (keeps_trans k1 k2) (keeps_tk s2 _)⟩) fun _ _ z => z)
theorem raw_ltI {i j : Int} (g : GStb G) (ha : RawE P w K mg base D U env m G a (fun v => ∃ t, v = .int i t)) (hb : RawE P w K mg base D U env m G b (fun v => ∃ t, v = .int j t)) (hm : behindInMarks .Lt b = false) : RawE P w K mg base D U env m G (.Compare a [.Lt] [b] pos) (fun v => v = .bool (decide (i < j))) :=
  fun A E s r h0 h1 h2 hn hg => wpAny_Compare1 (wpAny_mono (ha A E s r h0 h1 h2 hn hg) (fun v s1 q => by
    obtain ⟨⟨t1, rfl⟩, k1⟩ := q
    refine wpAny_mono (hb A E s1 (r.keeps k1) h0 h1 h2 (ns_keeps k1 hn) (gstb_keeps g k1 hg)) (fun v s2 q => ?_) fun _ _ z => z
    obtain ⟨⟨t2, rfl⟩, k2⟩ := q
    exact lt_int ⟨rfl, keeps_trans k1 k2⟩) fun _ _ z => z) hm
theorem raw_eqI {i j : Int} (g : GStb G) (ha : RawE P w K mg base D U env m G a (fun v => ∃ t, v = .int i t)) (hb : RawE P w K mg base D U env m G b (fun v => ∃ t, v = .int j t)) (hm : behindInMarks .Eq b = false) : RawE P w K mg base D U env m G (.Compare a [.Eq] [b] pos) (fun v => v = .bool (i == j)) :=
  fun A E s r h0 h1 h2 hn hg => wpAny_Compare1 (wpAny_mono (ha A E s r h0 h1 h2 hn hg) (fun v s1 q => by
    obtain ⟨⟨t1, rfl⟩, k1⟩ := q
    refine wpAny_mono (hb A E s1 (r.keeps k1) h0 h1 h2 (ns_keeps k1 hn) (gstb_keeps g k1 hg)) (fun v s2 q => ?_) fun _ _ z => z
    obtain ⟨⟨t2, rfl⟩, k2⟩ := q
    exact eq_int ⟨rfl, keeps_trans k1 k2⟩) fun _ _ z => z) hm
theorem raw_inL {u : Value} {k : Addr} {its : Array Value} {f : Value → Bool} (g : GStb G) (ha : RawE P w K mg base D U env m G a (fun v => v = u)) (hb : RawE P w K mg base D U env m G b (fun v => v = .ref k)) (hl : ∀ h, G h → h.IsList k its) (he : ∀ (A : Around) (s : Shared), ∀ y ∈ its, SeqAt.EqAt A s y u (f y)) (hm : behindInMarks .In b = false) :
    RawE P w K mg base D U env m G (.Compare a [.In] [b] pos) (fun v => v = .bool (its.any f)) :=
  fun A E s r h0 h1 h2 hn hg => wpAny_Compare1 (wpAny_mono (ha A E s r h0 h1 h2 hn hg) (fun v s1 q => by
    obtain ⟨rfl, k1⟩ := q
    refine wpAny_mono (hb A E s1 (r.keeps k1) h0 h1 h2 (ns_keeps k1 hn) (gstb_keeps g k1 hg)) (fun v s2 q => ?_) fun _ _ z => z
    obtain ⟨rfl, k2⟩ := q
    have k12 := keeps_trans k1 k2
    exact SeqAt.in_listAt f (hl _ (gstb_keeps g k12 hg)) (fun y hy => he _ _ y hy) ⟨rfl, k12⟩) fun _ _ z => z) hm
theorem raw_itemT {i : Int} {k : Addr} {its : Array Value} {j : Nat} {y : Value} (g : GStb G) (ha : RawE P w K mg base D U env m G a (fun v => v = .ref k)) (hb : RawE P w K mg base D U env m G b (fun v => ∃ t, v = .int i t)) (hl : ∀ h, G h → h.IsTuple k its) (hlo : -(2 ^ 63) ≤ i) (hhi : i < 2 ^ 63) (hj : seqIndex? i its.size = some j) (hy : its[j]? = some y) (hs : PlainIx b) :
    RawE P w K mg base D U env m G (.Subscript a b pos) (fun v => v = y) :=
  fun A E s r h0 h1 h2 hn hg => Subscript_ (wpAny_mono (ha A E s r h0 h1 h2 hn hg) (fun v s1 q => by
    obtain ⟨rfl, k1⟩ := q
    refine wpAny_mono (hb A E s1 (r.keeps k1) h0 h1 h2 (ns_keeps k1 hn) (gstb_keeps g k1 hg)) (fun v s2 q => ?_) fun _ _ z => z
    obtain ⟨⟨t2, rfl⟩, k2⟩ := q
    have k12 := keeps_trans k1 k2
    have ht := hl _ (gstb_keeps g k12 hg)
    exact subscriptTail_builtinR (x := y) (Q := fun v s' => v = y ∧ Keeps s s') ht.typeIs slot_tuple_getitem.lookup (getItem_tuple (j := j) (Q := fun r s' => r = y ∧ (r = y ∧ Keeps s s')) ht hlo hhi hj hy ⟨rfl, rfl, k12⟩) (hs _ _)) fun _ _ z => z)
end
/-- the free names of a generator's scope are the one name -/
def genSF (scope : Scope) (x name : Str) : Bool := decide (scope.kind = .function) && (!scope.isCoroutine && (scope.names.all (fun y => decide (y.2 ≠ .cell) && (decide (y.2 ≠ .free) || decide (y.1 = name))) && (decide (scope.names.lookup (".0" : Str) = some NameKind.local) && (decide (scope.names.lookup x = some .local) && decide ((name, NameKind.free) ∈ scope.names)))))
theorem genS_free {env : Env} {scope : Scope} {x name : Str} {c : Addr} (h : genSF scope x name = true) (hc : env.cells.lookup name = some c) : GxR.GenS env scope x ∧ (cloFrom env.cells scope.names []).lookup name = some c := by
  unfold genSF at h
  simp only [Bool.and_eq_true, decide_eq_true_eq, Bool.not_eq_true', List.all_eq_true, Bool.or_eq_true] at h
  obtain ⟨h1, h2, h3, h4, h5, h6⟩ := h
  have fr : ∀ y ∈ scope.names, y.2 = .free → ∃ c, env.cells.lookup y.1 = some c := fun y hy e => by
    rcases (h3 y hy).2 with z | z
    · exact absurd e z
    · exact ⟨c, by rw [z]; exact hc⟩
  exact ⟨⟨h1, h2, fun y hy => (h3 y hy).1, h4, h5, fr⟩, NdefX.clo_has fr h6 hc⟩
section
variable {X : Cx} {pins : List (Addr × Obj)} {σ : L2.St} {H : Hp} {s : Shared}
/-- the cell of a captured name -/
theorem cap_cell {i : Nat} {x : Str} {v : V} (I : Inv X pins σ H s) (hi : X.N[i]? = some x) (hv : σ[i]? = some (some v)) (hk : X.env.scope.names.lookup x = some .cell) : ∃ c u o, X.env.cells.lookup x = some c ∧ s.heap.get? c = some o ∧ o.data = .cell (some u) ∧ RelV v u := by
  obtain ⟨m, hn, hl⟩ := I.loc
  obtain ⟨u, ru, lk⟩ := hl i x v hi hv (.inr (.inl hk))
  have hk2 : X.env.kindOf x = some .cell := hk
  rcases lk with ⟨z, _⟩ | ⟨_, c, hc, o, ho, hd⟩
  · rw [hk2] at z
    cases z
  · exact ⟨c, u, o, hc, ho, hd, ru⟩
theorem call_allN {n : Nat} {pt : Nat → Bool} {g : Addr} {s5 : Shared} {H1 : Hp} {Q : VK} (hG : GenRdN X pins σ H1 n pt g s5) (q : Q (.bl ((List.range n).all pt)) H1) : wpAny (model X.prog X.w) X.A (call (.builtin "all") [.ref g]) (EP X pins σ Q) X.xe s5 := by
  obtain ⟨fp, wr, G, F, St, ⟨W, hst⟩, htr, hI⟩ := hG
  exact call_all_walkS (W.self 0 _ _ _ hst ⟨g, fp, wr, G, _, F, St, _, rfl, W, hst, htr, fun s' hmv => ⟨.bl _, H1, hI s' hmv, rfl, q⟩⟩)
theorem call_anyN {n : Nat} {pt : Nat → Bool} {g : Addr} {s5 : Shared} {H1 : Hp} {Q : VK} (hG : GenRdN X pins σ H1 n pt g s5) (q : Q (.bl ((List.range n).any pt)) H1) : wpAny (model X.prog X.w) X.A (call (.builtin "any") [.ref g]) (EP X pins σ Q) X.xe s5 := by
  obtain ⟨fp, wr, G, F, St, ⟨W, hst⟩, htr, hI⟩ := hG
  exact call_any_walkS (W.self 0 _ _ _ hst ⟨g, fp, wr, G, _, F, St, _, rfl, W, hst, htr, fun s' hmv => ⟨.bl _, H1, hI s' hmv, rfl, q⟩⟩)
end
end Sq

/-! the three forms: over a tuple with a list taken, over a range with a tuple taken, over a list with a number taken -/
namespace Sq
open PySem PySem.Spec PyProof.Rows L2 Evl
section
variable {X : Cx}
/-- all(is_number(at) and at in known for at in entry) -/
def tAllA (K : PySem.W.Frag) (Pt : Addr) (ik : Nat) (te : TE) : TE := fun σ H Q => ∃ kv, σ[ik]? = some (some kv) ∧ te σ H fun v H1 => ∃ (a k : Addr) (xs ls : List V), v = .ref a ∧ kv = .ref k ∧ SqT K H1 a xs ∧ H1 Pt = some (TabF Pt) ∧ SqL K H1 k ls ∧ ls.all flatV = true ∧ (∀ y ∈ xs, flatK y = true ∧ flatV y = true) ∧ Q (.bl (xs.all fun y => isNum y && inV y ls)) H1
theorem pe_allA {c Pt : Addr} {iter : Expr} {x name : Str} {px p pos gpos e1 e2 e3 e4 e5 e6 e7 : Pos} {scope : Scope} {te : TE} {j ik : Nat}
    (hr : Room j X.A) (hg : Gl X "all") (hm : X.mg "all" = none) (TB : GxR.TabB X.base X.mg c Pt) (hcode : X.env.code = .ref c) (hS : genSF scope x name = true) (hi : PE X iter te) (hik : X.N[ik]? = some name) (hcl : X.env.scope.names.lookup name = some .cell)
    (R : RawFn1 X.prog X.w X.K X.mg X.base "is_number" 1 goodNum) (hD : X.A.depth + 1 + 1 < recursionLimit) (hsn : scope.names.lookup ("is_number" : Str) = some .globalImplicit) (hsf : scope.names.lookup name = some .free) (hsx : scope.names.lookup x = some .local) (hsk : scope.kind = .function)
    (hdx : (x == ("__debug__" : Str)) = false) (hdn : (name == ("__debug__" : Str)) = false) (hcd : (name == ("__classdict__" : Str)) = false) (hs : ∀ v, genFold iter X.env v = pure v)
    (hmk : behindInMarks .In (.Name name e5) = false)
    (hv : bootBuiltins "all" = some (.builtin "all") := by decide +kernel) (he : starEach [.GeneratorExp (.BoolOp .And [.Call (.Name "is_number" e1) [.Name x e2] [] e3, .Compare (.Name x e4) [.In] [.Name name e5] e6] e7) [⟨.Name x px, iter, [], 0⟩] scope gpos] X.env = (false, eval (.GeneratorExp (.BoolOp .And [.Call (.Name "is_number" e1) [.Name x e2] [] e3, .Compare (.Name x e4) [.In] [.Name name e5] e6] e7) [⟨.Name x px, iter, [], 0⟩] scope gpos) X.env) :: starEach [] X.env := by rfl) :
    PE X (.Call (.Name "all" p) [.GeneratorExp (.BoolOp .And [.Call (.Name "is_number" e1) [.Name x e2] [] e3, .Compare (.Name x e4) [.In] [.Name name e5] e6] e7) [⟨.Name x px, iter, [], 0⟩] scope gpos] [] pos) (tAllA X.K Pt ik te) := by
  refine ⟨fun pins s σ H Q I h => wpAny_Call_Name_kw (ld_blt I hg hm hv (PyProof.Rows.callWith_builtin1 ?_ he (by rfl)))⟩
  rw [he]
  obtain ⟨kv, hkv, h⟩ := h
  obtain ⟨ca, u0, co0, hca, _, _, _⟩ := cap_cell I hik hkv hcl
  obtain ⟨S, hcl2⟩ := genS_free (env := X.env) hS hca
  refine Calls.spliced_cons (gen_core hr TB hcode S hs (σ := σ) (pins := pins) (kk := fun n pt H1 => Q (.bl ((List.range n).all pt)) H1) ?_ fun n pt H1 g s5 hR hG => Calls.spliced_nil (call_allN hG hR))
  refine thn (hi.run pins s σ H _ I h) fun xv s1 hq => ?_
  obtain ⟨v, H1, I1, r1, a, k, xs, ls, rfl, rfl, hx, hT, hk, hfl, hgd, q⟩ := hq
  cases r1
  obtain ⟨its, rv, hp, hz⟩ := I1.tuple hx
  obtain ⟨kits, rk, hkl, hkz⟩ := I1.list hk
  obtain ⟨ca', u, co, hca', hco, hcd', ru⟩ := cap_cell I1 hik hkv hcl
  have e0 : ca' = ca := by
    rw [hca] at hca'
    exact (Option.some.inj hca').symm
  subst e0
  cases (show u = Value.ref k from ru)
  obtain ⟨ol, hol, hlc, nl, hld⟩ := id hkl.isList
  have hax : a < s1.heap.objs.size := by
    obtain ⟨o, ho, _⟩ := hp
    exact Heap.lt_size ho
  obtain ⟨⟨ps, hP, tri⟩, _, _⟩ := I1.hok Pt _ hT
  have aP : a ≠ Pt := fun z => by
    obtain ⟨o, ho, hc, n, hd⟩ := hp
    rw [z, hP] at ho
    cases ho
    cases hd
  have hlen : its.toArray.size = xs.length := by rw [List.size_toArray, rv.length]
  refine wpAny_pyIter_tuple (show s1.heap.IsTuple a its.toArray from hp) ⟨xs.length, pAt xs (fun y => isNum y && inV y ls), H1, s1, _, rfl, rfl, ⟨I1, hT, Heap.get?_push_size _ rfl, [a], (fun i v => its.toArray[i]? = some v), (fun i h => h.IsTupleIter s1.heap.objs.size a i ∧ h.IsTuple a its.toArray), [(ca', co), (k, ol)], fun A' hA' => hlen ▸ Walks.tuple hA' _ _ (Nat.ne_of_lt hax) _, ?_, ?_, ?_, ?_, ?_⟩, ?_⟩
  · intro h3 h4 h5
    refine ⟨⟨_, h4, rfl, rfl⟩, ?_⟩
    obtain ⟨o, ho, r⟩ := hp
    exact ⟨o, h5 a (by simp) o ho, r⟩
  · intro b hb
    rw [List.mem_singleton.mp hb]
    exact ⟨hax, aP⟩
  · intro q hq
    rcases List.mem_cons.mp hq with rfl | hq
    · exact hco
    · rw [List.mem_singleton.mp hq]
      exact hol
  · intro q hq z
    rcases List.mem_cons.mp hq with rfl | hq
    · have z : ca' = Pt := z
      rw [z, hP] at hco
      cases hco
      cases hcd'
    · rw [List.mem_singleton.mp hq] at z
      have z : k = Pt := z
      rw [z, hP] at hol
      cases hol
      cases hld
  · intro i v hPv cenv m hsc hgl hbl hcel hmx
    have hv2 : its[i]? = some v := by simpa using hPv
    obtain ⟨y, hy, ry⟩ : ∃ y, xs[i]? = some y ∧ RelV y v := by
      cases e : xs[i]? with
      | none => rw [rv.none_of e] at hv2; cases hv2
      | some y =>
        obtain ⟨u, e1, e2⟩ := rv.get e
        rw [hv2] at e1
        cases e1
        exact ⟨y, rfl, e2⟩
    obtain ⟨f1, f2⟩ := hgd y (List.mem_of_getElem? hy)
    have F : FnEnv cenv := ⟨by rw [hsc]; exact hsk, hgl, hbl⟩
    have e9 : pAt xs (fun y => isNum y && inV y ls) i = (isNum y && inV y ls) := by unfold pAt; rw [hy]
    rw [e9]
    have eI : kits.toArray.any (eqU y) = inV y ls := by
      rw [show kits.toArray.any (eqU y) = kits.any (eqU y) by simp, any_eqU rk hfl]
      rfl
    refine raw_and pinned_stb (raw_anyG (raw_callF R hD ⟨f1, rfl⟩ ry F (by show cenv.scope.names.lookup _ = _; rw [hsc]; exact hsn) (by show cenv.scope.names.lookup _ = _; rw [hsc]; exact hsx) hmx (by decide) hdx)) fun _ => ?_
    rw [← eI]
    exact raw_inL pinned_stb (raw_anyG (raw_loc F (by show cenv.scope.names.lookup _ = _; rw [hsc]; exact hsx) hmx hdx)) (raw_free F (by show cenv.scope.names.lookup _ = _; rw [hsc]; exact hsf) (by rw [hcel]; exact hcl2) (List.mem_cons_self) hcd' hcd hdn) (fun h g => ⟨ol, g (k, ol) (by simp), hlc, nl, hld⟩) (fun A s z hz => mem_eqAt ry f2 rk hfl z (by simpa using hz)) hmk
  · show Q _ H1
    rw [pAt_all]
    exact q
end
end Sq

namespace Sq
open PySem PySem.Spec PyProof.Rows L2 Evl
section
variable {X : Cx}
def ascN (l : List Nat) : Bool := (List.range (l.length - 1)).all fun i => decide (l.getD i 0 < l.getD (i + 1) 0)
/-- all(entry[k - 1] < entry[k] for k in range(1, n)) -/
def tAllB (K : PySem.W.Frag) (Pt : Addr) (ik : Nat) (ta : TA) : TE := fun σ H Q => ∃ kv, σ[ik]? = some (some kv) ∧ ta σ H fun vs H1 => ∃ (k : Addr) (l : List Nat), vs = [.int 1, .int (l.length : Int)] ∧ kv = .ref k ∧ SqT K H1 k (natV l) ∧ l.length ≤ 1000 ∧ H1 Pt = some (TabF Pt) ∧ Q (.bl (ascN l)) H1
theorem pe_allB {c Pt : Addr} {a1 a2 : Expr} {x name : Str} {px p pos gpos e1 e2 e3 e4 e5 e6 e7 e8 e9 pr ppr : Pos} {jk} {scope : Scope} {ta : TA} {j ik : Nat}
    (hr : Room j X.A) (hg : Gl X "all") (hm : X.mg "all" = none) (hgr : Gl X "range") (hmr : X.mg "range" = none) (TB : GxR.TabB X.base X.mg c Pt) (hcode : X.env.code = .ref c) (hS : genSF scope x name = true) (ha : PA X [a1, a2] ta) (hik : X.N[ik]? = some name) (hcl : X.env.scope.names.lookup name = some .cell)
    (hsf : scope.names.lookup name = some .free) (hsx : scope.names.lookup x = some .local) (hsk : scope.kind = .function)
    (hdx : (x == ("__debug__" : Str)) = false) (hdn : (name == ("__debug__" : Str)) = false) (hcd : (name == ("__classdict__" : Str)) = false) (hs : ∀ v, genFold (.Call (.Name "range" pr) [a1, a2] [] ppr) X.env v = pure v)
    (hmk : behindInMarks .Lt (.Subscript (.Name name e6) (.Name x e7) e8) = false) (hx1 : PlainIx (.BinOp (.Name x e2) .Sub (.Constant (.int 1) jk e3) e4)) (hx2 : PlainIx (.Name x e7))
    (hs1 : starEach [a1, a2] X.env = [(false, eval a1 X.env), (false, eval a2 X.env)] := by rfl) (hs2 : starEach [a2] X.env = [(false, eval a2 X.env)] := by rfl)
    (hv : bootBuiltins "all" = some (.builtin "all") := by decide +kernel) (he : starEach [.GeneratorExp (.Compare (.Subscript (.Name name e1) (.BinOp (.Name x e2) .Sub (.Constant (.int 1) jk e3) e4) e5) [.Lt] [.Subscript (.Name name e6) (.Name x e7) e8] e9) [⟨.Name x px, .Call (.Name "range" pr) [a1, a2] [] ppr, [], 0⟩] scope gpos] X.env = (false, eval (.GeneratorExp (.Compare (.Subscript (.Name name e1) (.BinOp (.Name x e2) .Sub (.Constant (.int 1) jk e3) e4) e5) [.Lt] [.Subscript (.Name name e6) (.Name x e7) e8] e9) [⟨.Name x px, .Call (.Name "range" pr) [a1, a2] [] ppr, [], 0⟩] scope gpos) X.env) :: starEach [] X.env := by rfl) :
    PE X (.Call (.Name "all" p) [.GeneratorExp (.Compare (.Subscript (.Name name e1) (.BinOp (.Name x e2) .Sub (.Constant (.int 1) jk e3) e4) e5) [.Lt] [.Subscript (.Name name e6) (.Name x e7) e8] e9) [⟨.Name x px, .Call (.Name "range" pr) [a1, a2] [] ppr, [], 0⟩] scope gpos] [] pos) (tAllB X.K Pt ik ta) := by
  refine ⟨fun pins s σ H Q I h => wpAny_Call_Name_kw (ld_blt I hg hm hv (PyProof.Rows.callWith_builtin1 ?_ he (by rfl)))⟩
  rw [he]
  obtain ⟨kv, hkv, h⟩ := h
  obtain ⟨ca, u0, co0, hca, _, _, _⟩ := cap_cell I hik hkv hcl
  obtain ⟨S, hcl2⟩ := genS_free (env := X.env) hS hca
  refine Calls.spliced_cons (gen_core hr TB hcode S hs (σ := σ) (pins := pins) (kk := fun n pt H1 => Q (.bl ((List.range n).all pt)) H1) ?_ fun n pt H1 g s5 hR hG => Calls.spliced_nil (call_allN hG hR))
  refine Call_ (ld_blt I hgr hmr boot_range (PyProof.Rows.callWith_type1 (thn (ha.run ppr pins s σ H _ I h) fun us s0 ⟨vs, H1, I0, r1, q1⟩ => ?_) (by rw [hs1, hs2]) (by rw [hs2]; rfl)))
  obtain ⟨k, l, rfl, rfl, hk, hlz, hT, q⟩ := q1
  obtain ⟨u1, u2, rfl, ⟨t1, rfl⟩, ⟨t2, rfl⟩⟩ := vals2 r1
  refine call_range_2 (wpAny_pyIter_range (IsRange.new ..) (small_one (by decide) (by decide) (by omega) (by omega)) ?_)
  obtain ⟨s1, hs1d⟩ : ∃ s1 : Shared, s1 = { s0 with heap := s0.heap.push { cls := .type "range", data := .fields #[.int 1 t1, .int (l.length : Int) t2, .int 1 s0.toks] }, toks := s0.toks + 1 } := ⟨_, rfl⟩
  have I1 : Inv X pins σ H1 s1 := by
    rw [hs1d]
    exact I0.kept fun b o e => Heap.get?_push_of_some _ e
  rw [← hs1d]
  obtain ⟨its, rk, hkl, hkz⟩ := I1.tuple hk
  obtain ⟨ca', u, co, hca', hco, hcd', ru⟩ := cap_cell I1 hik hkv hcl
  have e0 : ca' = ca := by
    rw [hca] at hca'
    exact (Option.some.inj hca').symm
  subst e0
  cases (show u = Value.ref k from ru)
  obtain ⟨ol, hol, hlc, nl, hld⟩ := id hkl
  obtain ⟨⟨ps, hP, tri⟩, _, _⟩ := I1.hok Pt _ hT
  have W : ∀ A' : Around, A'.handled = none → Walks X.prog X.w A' s1.heap.objs.size [s1.heap.objs.size] [s1.heap.objs.size] (l.length - 1) (fun i v => (∃ t, v = .int (1 + i * 1) t) ∧ i < l.length - 1) (fun i h => IsRangeIter h s1.heap.objs.size (1 + (i : Nat) * 1) (((l.length - 1 : Nat) : Int) - (i : Nat)) 1) := fun A' hA' => by
    have z := Walks.range (prog := X.prog) (w := X.w) hA' s1.heap.objs.size 1 1 (l.length - 1)
    exact { sub := z.sub, frame := z.frame, item := fun i s Q E hi st hQ => z.item i s Q E hi st fun v h' t hp a b => hQ v h' t ⟨hp, hi⟩ a b, done := z.done, self := z.self }
  refine ⟨l.length - 1, (fun i => decide (l.getD i 0 < l.getD (i + 1) 0)), H1, s1, _, by rw [hs1d], by rw [hs1d], ⟨I1, hT, Heap.get?_push_size _ rfl, [], (fun i v => (∃ t, v = .int (1 + i * 1) t) ∧ i < l.length - 1), (fun i h => IsRangeIter h s1.heap.objs.size (1 + (i : Nat) * 1) (((l.length - 1 : Nat) : Int) - (i : Nat)) 1), [(ca', co), (k, ol)], W, ?_, (fun b hb => by cases hb), ?_, ?_, ?_⟩, q⟩
  · intro h3 h4 _
    have e2 : (((l.length - 1 : Nat) : Int) - ((0 : Nat) : Int)) = Builtin.Range.rangeSize 1 (l.length : Int) 1 := by
      rw [rangeSize_one]
      split <;> omega
    show IsRangeIter _ _ (1 + ((0 : Nat) : Int) * 1) _ 1
    rw [e2]
    exact h4
  · intro q hq
    rcases List.mem_cons.mp hq with rfl | hq
    · exact hco
    · rw [List.mem_singleton.mp hq]
      exact hol
  · intro q hq z
    rcases List.mem_cons.mp hq with rfl | hq
    · have z : ca' = Pt := z
      rw [z, hP] at hco
      cases hco
      cases hcd'
    · rw [List.mem_singleton.mp hq] at z
      have z : k = Pt := z
      rw [z, hP] at hol
      cases hol
      cases hld
  · intro i v ⟨⟨t, hv1⟩, hlt⟩ cenv m hsc hgl hbl hcel hmx
    have F : FnEnv cenv := ⟨by rw [hsc]; exact hsk, hgl, hbl⟩
    have at_ : ∀ n : Nat, n < l.length → ∃ t, its.toArray[n]? = some (.int ((l.getD n 0 : Nat) : Int) t) := fun n hn => by
      obtain ⟨y, hy, ry⟩ := rk.get (i := n) (x := .int ((l.getD n 0 : Nat) : Int)) (by
        unfold natV
        rw [List.getElem?_map, List.getElem?_eq_getElem hn, List.getD_eq_getElem?_getD, List.getElem?_eq_getElem hn]
        rfl)
      obtain ⟨t, rfl⟩ := ry
      exact ⟨t, by simpa using hy⟩
    have sz : its.toArray.size = l.length := by rw [List.size_toArray, ← rk.length, natV_len]
    obtain ⟨ta1, h1⟩ := at_ i (by omega)
    obtain ⟨ta2, h2⟩ := at_ (i + 1) (by omega)
    have ix : ∀ n : Nat, n < l.length → seqIndex? (n : Int) its.toArray.size = some n := fun n hn => by
      rw [sz]
      unfold seqIndex?
      have b1 : ¬ (n : Int) < 0 := by omega
      have b2 : (n : Int) < (l.length : Int) := by omega
      simp [b1, b2]
    have fr : ∀ {pp : Pos}, RawE X.prog X.w X.K X.mg X.base (X.A.depth + 1) (X.A.units + 8) cenv m (Pinned [(ca', co), (k, ol)]) (.Name name pp) (fun v => v = .ref k) := raw_free F (by show cenv.scope.names.lookup _ = _; rw [hsc]; exact hsf) (by rw [hcel]; exact hcl2) (List.mem_cons_self) hcd' hcd hdn
    have lk : ∀ {pp : Pos}, RawE X.prog X.w X.K X.mg X.base (X.A.depth + 1) (X.A.units + 8) cenv m (Pinned [(ca', co), (k, ol)]) (.Name x pp) (fun v => ∃ t, v = .int ((i + 1 : Nat) : Int) t) := raw_imp (raw_anyG (raw_loc F (by show cenv.scope.names.lookup _ = _; rw [hsc]; exact hsx) hmx hdx)) fun w hw => ⟨t, by rw [hw, hv1]; exact congrArg (Value.int · t) (by omega)⟩
    have tup : ∀ h, Pinned [(ca', co), (k, ol)] h → h.IsTuple k its.toArray := fun h g => ⟨ol, g (k, ol) (by simp), hlc, nl, hld⟩
    have e9 : decide (l.getD i 0 < l.getD (i + 1) 0) = decide (((l.getD i 0 : Nat) : Int) < ((l.getD (i + 1) 0 : Nat) : Int)) := decide_eq_decide.mpr (by omega)
    show RawE _ _ _ _ _ _ _ _ _ _ _ (fun u => u = Value.bool (decide (l.getD i 0 < l.getD (i + 1) 0)))
    rw [e9]
    refine raw_ltI pinned_stb (raw_imp (raw_itemT (i := (i : Int)) (j := i) pinned_stb fr (raw_imp (raw_sub pinned_stb lk raw_int) fun w ⟨t, hw⟩ => ⟨t, by rw [hw]; exact congrArg (Value.int · t) (by omega)⟩) tup (by omega) (by omega) (ix i (by omega)) h1 hx1) fun w hw => ⟨ta1, hw⟩) (raw_imp (raw_itemT (i := ((i + 1 : Nat) : Int)) (j := i + 1) pinned_stb fr lk tup (by omega) (by omega) (ix (i + 1) (by omega)) h2 hx2) fun w hw => ⟨ta2, hw⟩) hmk
/-- any(mask & avoided == 0 for mask in masks) -/
def tAnyC (K : PySem.W.Frag) (Pt : Addr) (ik : Nat) (te : TE) : TE := fun σ H Q => ∃ kv, σ[ik]? = some (some kv) ∧ te σ H fun v H1 => ∃ (a : Addr) (ms : List Int) (av : Int), v = .ref a ∧ kv = .int av ∧ SqL K H1 a (ms.map V.int) ∧ H1 Pt = some (TabF Pt) ∧ Q (.bl (ms.any fun m => Builtin.bitAnd m av == 0)) H1
theorem pe_anyC {c Pt : Addr} {iter : Expr} {x name : Str} {px p pos gpos e1 e2 e3 e4 e5 : Pos} {jk} {scope : Scope} {te : TE} {j ik : Nat}
    (hr : Room j X.A) (hg : Gl X "any") (hm : X.mg "any" = none) (TB : GxR.TabB X.base X.mg c Pt) (hcode : X.env.code = .ref c) (hS : genSF scope x name = true) (hi : PE X iter te) (hik : X.N[ik]? = some name) (hcl : X.env.scope.names.lookup name = some .cell)
    (hsf : scope.names.lookup name = some .free) (hsx : scope.names.lookup x = some .local) (hsk : scope.kind = .function)
    (hdx : (x == ("__debug__" : Str)) = false) (hdn : (name == ("__debug__" : Str)) = false) (hcd : (name == ("__classdict__" : Str)) = false) (hs : ∀ v, genFold iter X.env v = pure v)
    (hmk : behindInMarks .Eq (.Constant (.int 0) jk e4) = false)
    (he : starEach [.GeneratorExp (.Compare (.BinOp (.Name x e1) .BitAnd (.Name name e2) e3) [.Eq] [.Constant (.int 0) jk e4] e5) [⟨.Name x px, iter, [], 0⟩] scope gpos] X.env = (false, eval (.GeneratorExp (.Compare (.BinOp (.Name x e1) .BitAnd (.Name name e2) e3) [.Eq] [.Constant (.int 0) jk e4] e5) [⟨.Name x px, iter, [], 0⟩] scope gpos) X.env) :: starEach [] X.env := by rfl) :
    PE X (.Call (.Name "any" p) [.GeneratorExp (.Compare (.BinOp (.Name x e1) .BitAnd (.Name name e2) e3) [.Eq] [.Constant (.int 0) jk e4] e5) [⟨.Name x px, iter, [], 0⟩] scope gpos] [] pos) (tAnyC X.K Pt ik te) := by
  refine ⟨fun pins s σ H Q I h => wpAny_Call_Name_kw (ld_blt I hg hm boot_any (PyProof.Rows.callWith_builtin1 ?_ he (by rfl)))⟩
  rw [he]
  obtain ⟨kv, hkv, h⟩ := h
  obtain ⟨ca, u0, co0, hca, _, _, _⟩ := cap_cell I hik hkv hcl
  obtain ⟨S, hcl2⟩ := genS_free (env := X.env) hS hca
  refine Calls.spliced_cons (gen_core hr TB hcode S hs (σ := σ) (pins := pins) (kk := fun n pt H1 => Q (.bl ((List.range n).any pt)) H1) ?_ fun n pt H1 g s5 hR hG => Calls.spliced_nil (call_anyN hG hR))
  refine thn (hi.run pins s σ H _ I h) fun xv s1 hq => ?_
  obtain ⟨v, H1, I1, r1, a, ms, av, rfl, rfl, hx, hT, q⟩ := hq
  cases r1
  obtain ⟨its, rv, hpl, hz⟩ := I1.list hx
  have hp := hpl.isList
  obtain ⟨ca', u, co, hca', hco, hcd', ru⟩ := cap_cell I1 hik hkv hcl
  have e0 : ca' = ca := by
    rw [hca] at hca'
    exact (Option.some.inj hca').symm
  subst e0
  obtain ⟨tu, rfl⟩ := (show ∃ t, u = Value.int av t from ru)
  have hax : a < s1.heap.objs.size := by
    obtain ⟨o, ho, _⟩ := hp
    exact Heap.lt_size ho
  obtain ⟨⟨ps, hP, tri⟩, _, _⟩ := I1.hok Pt _ hT
  have aP : a ≠ Pt := fun z => by
    obtain ⟨o, ho, hc, n, hd⟩ := hp
    rw [z, hP] at ho
    cases ho
    cases hd
  have hlen : its.toArray.size = (ms.map V.int).length := by rw [List.size_toArray, rv.length]
  refine wpAny_pyIter_list (show s1.heap.IsList a its.toArray from hp) ⟨(ms.map V.int).length, pAt (ms.map V.int) (fun y => match y with | .int m => Builtin.bitAnd m av == 0 | _ => false), H1, s1, _, rfl, rfl, ⟨I1, hT, Heap.get?_push_size _ rfl, [a], (fun i v => its.toArray[i]? = some v), (fun i h => h.IsListIter s1.heap.objs.size a i ∧ h.IsList a its.toArray), [(ca', co)], fun A' hA' => hlen ▸ Walks.list hA' _ _ (Nat.ne_of_lt hax) _, ?_, ?_, ?_, ?_, ?_⟩, ?_⟩
  · intro h3 h4 h5
    refine ⟨⟨_, h4, rfl, rfl⟩, ?_⟩
    obtain ⟨o, ho, r⟩ := hp
    exact ⟨o, h5 a (by simp) o ho, r⟩
  · intro b hb
    rw [List.mem_singleton.mp hb]
    exact ⟨hax, aP⟩
  · intro q hq
    rw [List.mem_singleton.mp hq]
    exact hco
  · intro q hq z
    rw [List.mem_singleton.mp hq] at z
    have z : ca' = Pt := z
    rw [z, hP] at hco
    cases hco
    cases hcd'
  · intro i v hPv cenv m hsc hgl hbl hcel hmx
    have hv2 : its[i]? = some v := by simpa using hPv
    obtain ⟨y, hy, ry⟩ : ∃ y, (ms.map V.int)[i]? = some y ∧ RelV y v := by
      cases e : (ms.map V.int)[i]? with
      | none => rw [rv.none_of e] at hv2; cases hv2
      | some y =>
        obtain ⟨u, e1, e2⟩ := rv.get e
        rw [hv2] at e1
        cases e1
        exact ⟨y, rfl, e2⟩
    obtain ⟨mm, rfl⟩ : ∃ mm, y = .int mm := by
      rw [List.getElem?_map] at hy
      cases e : ms[i]? with
      | none => rw [e] at hy; cases hy
      | some z => rw [e] at hy; exact ⟨z, (Option.some.inj hy).symm⟩
    obtain ⟨tv, rfl⟩ := (show ∃ t, v = Value.int mm t from ry)
    have F : FnEnv cenv := ⟨by rw [hsc]; exact hsk, hgl, hbl⟩
    have e9 : pAt (ms.map V.int) (fun y => match y with | .int m => Builtin.bitAnd m av == 0 | _ => false) i = (Builtin.bitAnd mm av == 0) := by unfold pAt; rw [hy]
    rw [e9]
    exact raw_eqI pinned_stb (raw_band pinned_stb (raw_imp (raw_anyG (raw_loc F (by show cenv.scope.names.lookup _ = _; rw [hsc]; exact hsx) hmx hdx)) fun w hw => ⟨tv, hw⟩) (raw_imp (raw_free F (by show cenv.scope.names.lookup _ = _; rw [hsc]; exact hsf) (by rw [hcel]; exact hcl2) (List.mem_cons_self) hcd' hcd hdn) fun w hw => ⟨tu, hw⟩)) raw_int hmk
  · show Q _ H1
    rw [pAt_any, List.any_map]
    exact q
end
end Sq

/-! certificates -/
namespace Sq
open PySem PySem.Spec PyProof.Rows L2 Evl
theorem ip_or {X : Cx} : PIp X .BitOr (ipI fun i j => Builtin.bitOr i j) := by
  intro pins s σ H x y v u Q I rx ry h
  obtain ⟨i, j, rfl, rfl, q⟩ := h
  obtain ⟨t, rfl⟩ := rx
  obtain ⟨t', rfl⟩ := ry
  exact ior_int ⟨.int _, H, I.tok _, ⟨_, rfl⟩, q⟩
/-! ### masks -/
def maskN : List Nat → Nat
  | [] => 0
  | i :: l => 2 ^ i ||| maskN l
def maskG (l : List Nat) (m : Nat) : Nat := l.foldl (fun m i => m ||| 2 ^ i) m
theorem mask_bit (l : List Nat) : ∀ (m j : Nat), (maskG l m).testBit j = (m.testBit j || l.contains j) := by
  induction l with
  | nil => intro m j; simp [maskG]
  | cons i r ih =>
    intro m j
    show (maskG r (m ||| 2 ^ i)).testBit j = _
    rw [ih, Nat.testBit_or, Nat.testBit_two_pow, List.contains_cons]
    by_cases z : i = j
    · subst z
      simp
    · have z2 : (j == i) = false := beq_false_of_ne fun e => z e.symm
      rw [decide_eq_false z, z2, Bool.or_false, Bool.false_or]
theorem mask_apart {a b : List Nat} (h : ∀ x ∈ a, x ∉ b) : maskG a 0 &&& maskG b 0 = 0 := by
  refine Nat.eq_of_testBit_eq fun j => ?_
  rw [Nat.testBit_and, mask_bit, mask_bit, Nat.zero_testBit, Bool.false_or, Bool.false_or]
  by_cases z : j ∈ a
  · have := h j z
    simp [this]
  · simp [z]
theorem band_nat (a b : Nat) : Builtin.bitAnd (a : Int) (b : Int) = ((a &&& b : Nat) : Int) := PySem.W.os_band a b
theorem bor_nat (a b : Nat) : Builtin.bitOr (a : Int) (b : Int) = ((a ||| b : Nat) : Int) := bitOr_nn (by omega) (by omega)
/-! ### words of evaluation -/
section
variable {K : PySem.W.Frag} {σ : L2.St} {H : Hp} {te : TE} {ta : TA} {Pt a k : Addr} {ik : Nat}
theorem ev_allA {xs ls : List V} (hk : σ[ik]? = some (some (.ref k))) (h : Ev te σ H (.ref a)) (hx : SqT K H a xs) (hT : H Pt = some (TabF Pt)) (hl : SqL K H k ls) (hf : ls.all flatV = true) (hg : ∀ y ∈ xs, flatK y = true ∧ flatV y = true) : Ev (tAllA K Pt ik te) σ H (.bl (xs.all fun y => isNum y && inV y ls)) := fun H1 e Q q =>
  ⟨_, hk, h H1 e _ fun H2 e2 => ⟨a, k, xs, ls, rfl, rfl, ex_t (e.trans e2) hx, (e.trans e2) _ _ hT, ex_l (e.trans e2) hl, hf, hg, q H2 e2⟩⟩
theorem ev_allB {l : List Nat} (hk : σ[ik]? = some (some (.ref k))) (h : EvA ta σ H [.int 1, .int (l.length : Int)]) (hx : SqT K H k (natV l)) (hz : l.length ≤ 1000) (hT : H Pt = some (TabF Pt)) : Ev (tAllB K Pt ik ta) σ H (.bl (ascN l)) := fun H1 e Q q =>
  ⟨_, hk, h H1 e _ fun H2 e2 => ⟨k, l, rfl, rfl, ex_t (e.trans e2) hx, hz, (e.trans e2) _ _ hT, q H2 e2⟩⟩
theorem ev_anyC {ms : List Int} {av : Int} (hk : σ[ik]? = some (some (.int av))) (h : Ev te σ H (.ref a)) (hx : SqL K H a (ms.map V.int)) (hT : H Pt = some (TabF Pt)) : Ev (tAnyC K Pt ik te) σ H (.bl (ms.any fun m => Builtin.bitAnd m av == 0)) := fun H1 e Q q =>
  ⟨_, hk, h H1 e _ fun H2 e2 => ⟨a, ms, av, rfl, rfl, ex_l (e.trans e2) hx, (e.trans e2) _ _ hT, q H2 e2⟩⟩
end
/-! ### promises -/
def tupsO (es : List (List Nat)) : List HO := es.map fun e => HO.tup (natV e)
def spIsEntry (K : PySem.W.Frag) (Pt : Addr) : Sp := fun vs H Q _ => ∃ (e k : Addr) (l kn : List Nat), vs = [.ref e, .ref k, .int (l.length : Int)] ∧ SqT K H e (natV l) ∧ SqL K H k (natV kn) ∧ H Pt = some (TabF Pt) ∧ l.length ≤ 1000 ∧ (∀ i ∈ l, i ∈ kn) ∧ ascN l = true ∧ RetV (.bl true) H Q
def spReqCert (K : PySem.W.Frag) (Pt : Addr) : Sp := fun vs H Q _ => ∃ (c k : Addr) (qs : List Addr) (es : List (List Nat)) (kn : List Nat) (d : Nat), vs = [.ref c, .ref k, .int (d : Int)] ∧ SqL K H c (refV qs) ∧ RefsO H qs (tupsO es) ∧ SqL K H k (natV kn) ∧ H Pt = some (TabF Pt) ∧ es.length ≤ 1000 ∧ (∀ e ∈ es, e.length = d ∧ e.length ≤ 1000 ∧ (∀ i ∈ e, i ∈ kn) ∧ ascN e = true) ∧ RetV .non H Q
def spMask (K : PySem.W.Frag) : Sp := fun vs H Q _ => ∃ (t : Addr) (l : List Nat), vs = [.ref t] ∧ SqT K H t (natV l) ∧ l.length ≤ 1000 ∧ (∀ i ∈ l, i ≤ 1000) ∧ RetV (.int ((maskG l 0 : Nat) : Int)) H Q
/-- each choice of so many of the known places is avoided by an entry | there is no entry -/
def Avoids (es : List (List Nat)) (kn : List Nat) (r : Nat) : Prop := ∀ ix ∈ combAll kn.length r, ∃ e ∈ es, ∀ x ∈ e, x ∉ ix.map fun i => kn.getD i 0
def spAvoids (K : PySem.W.Frag) (Pt : Addr) : Sp := fun vs H Q _ => ∃ (c k : Addr) (qs : List Addr) (es : List (List Nat)) (kn : List Nat) (r : Nat) (b : Bool), vs = [.ref c, .ref k, .int (r : Int)] ∧ SqL K H c (refV qs) ∧ RefsO H qs (tupsO es) ∧ SqL K H k (natV kn) ∧ H Pt = some (TabF Pt) ∧ es.length ≤ 1000 ∧ (∀ e ∈ es, e.length ≤ 1000 ∧ ∀ i ∈ e, i ≤ 1000) ∧ (∀ i ∈ kn, i ≤ 1000) ∧ kn.length ≤ 8 ∧ r ≤ kn.length ∧ ((b = true ∧ Avoids es kn r) ∨ (b = false ∧ es = [])) ∧ RetV (.bl b) H Q
def spFar (K : PySem.W.Frag) : Sp := fun vs H Q _ => ∃ (c t : Addr) (qs : List Addr) (es : List (List Nat)) (r : List (Option Int)) (rad : Nat), vs = [.ref c, .ref t, .int (rad : Int)] ∧ SqL K H c (refV qs) ∧ RefsO H qs (tupsO es) ∧ SqT K H t (entV r) ∧ RecOk r ∧ (∀ e ∈ es, KnownAt r e ∧ rad < unl r (lagrs (ptsAt r e) r.length)) ∧ RetV (.bl true) H Q
def spFind (K : PySem.W.Frag) (Pt : Addr) : Sp := fun vs H Q _ => ∃ (t : Addr) (r : List (Option Int)) (c : Int), vs = [.ref t, .int c] ∧ SqT K H t (entV r) ∧ H Pt = some (TabF Pt) ∧ RecOk r ∧ 0 ≤ c ∧ c < r.length ∧ (∀ ds, ¬ Close r (r.length - c.toNat) ds) ∧ RetRs (entsO (knownOf r) (r.length - c.toNat)) H Q
/-- the certificate holds the entries that are found, each of them | none -/
def spCheck (K : PySem.W.Frag) (P1 P2 P3 : Addr) : Sp := fun vs H Q _ => ∃ (t ce : Addr) (r : List (Option Int)) (c d : Nat) (qs : List Addr) (es : List (List Nat)) (b : Bool), vs = [.ref t, .int (c : Int), .ref ce] ∧ SqT K H t (entV r) ∧ SqL K H ce (refV qs) ∧ RefsO H qs (tupsO es) ∧ H P1 = some (TabF P1) ∧ H P2 = some (TabF P2) ∧ H P3 = some (TabF P3) ∧ RecOk r ∧ r.length ≤ 8 ∧ c < r.length ∧ d = r.length - c ∧ d ≤ (knownOf r).length ∧ es.length ≤ 1000 ∧
  (∀ e ∈ es, e ∈ entriesOf (knownOf r) d) ∧ ((b = true ∧ (∀ e ∈ entriesOf (knownOf r) d, e ∈ es) ∧ ∀ ds, ¬ Close r d ds) ∨ (b = false ∧ es = [])) ∧ RetV (.bl b) H Q
/-! ### entries are in order -/
def Asc (l : List Nat) : Prop := l.Pairwise (· < ·)
theorem asc_get {l : List Nat} (h : Asc l) : ascN l = true := by
  unfold ascN
  rw [List.all_eq_true]
  intro i hi
  rw [List.mem_range] at hi
  have h1 : i < l.length := by omega
  have h2 : i + 1 < l.length := by omega
  rw [List.getD_eq_getElem?_getD, List.getD_eq_getElem?_getD, List.getElem?_eq_getElem h1, List.getElem?_eq_getElem h2]
  exact decide_eq_true (List.pairwise_iff_getElem.mp h i (i + 1) h1 h2 (Nat.lt_succ_self i))
theorem entries_asc {r : List (Option Int)} {k : Nat} {e : List Nat} (he : e ∈ entriesOf (knownOf r) k) : ascN e = true := by
  refine asc_get ?_
  have hk : Asc (knownOf r) := List.pairwise_lt_range.sublist List.filter_sublist
  unfold entriesOf at he
  split at he
  · cases he
  · obtain ⟨ix, _, rfl⟩ := List.mem_map.mp he
    exact (hk.sublist List.filter_sublist).sublist (List.take_sublist _ _)
/-- each choice of as many places as the radius is avoided by an entry that is found -/
theorem entries_avoid {r : List (Option Int)} {d : Nat} {es : List (List Nat)} (h8 : r.length ≤ 8) (hd : d ≤ (knownOf r).length) (h : ∀ e ∈ entriesOf (knownOf r) d, e ∈ es) : Avoids es (knownOf r) (radOf r d) := by
  intro ix hix
  have hkl := knownOf_len r
  have hrad : radOf r d ≤ (knownOf r).length := by unfold radOf; omega
  have cf := (comb_facts (n := (knownOf r).length) (r := radOf r d) (by omega) (by omega)).2.1 ix hix
  obtain ⟨jx, h1, h2⟩ := choose_pairs (l := knownOf r) (r := radOf r d) (bad := ix.map fun i => (knownOf r).getD i 0) (by omega) (by unfold radOf pairN; omega) (by rw [List.length_map, cf.1]; exact Nat.le_refl _) fun x hx => by
    obtain ⟨i, hi, rfl⟩ := List.mem_map.mp hx
    have := cf.2 i hi
    rw [List.getD_eq_getElem?_getD, List.getElem?_eq_getElem this]
    exact List.getElem_mem this
  refine ⟨_, h ((restOf (knownOf r) jx).take d) ?_, fun x hx => h2 x (List.mem_of_mem_take hx)⟩
  unfold entriesOf
  rw [if_neg (by omega)]
  exact List.mem_map.mpr ⟨jx, h1, rfl⟩
theorem entries_far {r : List (Option Int)} {d : Nat} (ok : RecOk r) (hd : d ≤ (knownOf r).length) (hn : ∀ ds, ¬ Close r d ds) {e : List Nat} (he : e ∈ entriesOf (knownOf r) d) : KnownAt r e ∧ radOf r d < unl r (lagrs (ptsAt r e) r.length) := by
  have hkl := knownOf_len r
  obtain ⟨el, kn⟩ := entries_known ok he
  refine ⟨kn, Decidable.byContradiction fun z => ?_⟩
  obtain ⟨tb, tl, ts⟩ := through_block ok kn el (by omega)
  exact hn _ ⟨tl, ts, hd, by rw [← tb]; omega⟩
theorem tupsO_get {H : Hp} {qs : List Addr} {es : List (List Nat)} (h : RefsO H qs (tupsO es)) {i : Nat} {q : Addr} (hq : qs[i]? = some q) : ∃ e, es[i]? = some e ∧ H q = some (.tup (natV e)) := by
  have hl := h.len
  unfold tupsO at hl
  rw [List.length_map] at hl
  have hi := (List.getElem?_eq_some_iff.mp hq).1
  obtain ⟨e, he⟩ : ∃ e, es[i]? = some e := ⟨_, List.getElem?_eq_getElem (by omega)⟩
  exact ⟨e, he, h.get i q _ hq (by unfold tupsO; rw [List.getElem?_map, he]; rfl)⟩
end Sq

namespace Sq
open PySem PySem.Spec PyProof.Rows L2 Evl
section
variable {K : PySem.W.Frag} {σ : L2.St} {H : Hp} {ta tb : TE} {tA : TA} {D : Ends} {tu tz : TS} {y z : V} {xs : List V} {os : List HO} {sp : Sp}
/-- for i, x in enumerate(l) -/
theorem s_forEn {a : Addr} {i j : Nat} (h : EvA tA σ H [.ref a]) (hx : SqL K H a xs) (Pv : Nat → L2.St → Hp → Prop) (h0 : ∀ H1, Ex H H1 → Pv 0 σ H1) (hl : ∀ n σ' H', Pv n σ' H' → SqL K H' a xs)
    (hs : ∀ (n : Nat) x T σ' H', xs[n]? = some x → Pv n σ' H' → H' T = none → tu { D with nx := Pv (n + 1), ct := Pv (n + 1), bk := D.nx } ((σ'.set i (some (.int (n : Int)))).set j (some x)) (upd H' T (.tup [.int (n : Int), x]))) (hd : ∀ σ' H', Pv xs.length σ' H' → D.nx σ' H') :
    tFor (iEnum K tA) (gTup K 2 (gCons (gName i) (gCons (gName j) gNil))) tu D σ H := h H (Ex.refl H) _ fun H1 e1 => ⟨a, xs, rfl, ex_l e1 hx, fun n m σ' H' => m = xs.length - n ∧ n ≤ xs.length ∧ Pv n σ' H', ⟨xs.length, by simp, Nat.zero_le _, h0 H1 e1⟩, by
  rintro n m σ' H' ⟨rfl, hn, p⟩
  have hx' := hl n σ' H' p
  by_cases hlt : n < xs.length
  · have hxn := List.getElem?_eq_getElem hlt
    refine .inr ⟨⟨xs, xs[n], hx', hxn⟩, Pv (n + 1), fun σ2 H2 p2 => ⟨xs.length - (n + 1), by omega, rfl, hlt, p2⟩, fun v H2 hv => ?_⟩
    obtain ⟨T, x, rfl, hT, rfl, hxx⟩ := hv
    exact ⟨T, _, rfl, st_of upd_same, rfl, _, _, rfl, _, _, rfl, rfl, hs n x T σ' H' (hxx xs hx') p hT⟩
  · have en : n = xs.length := by omega
    subst en
    exact .inl ⟨⟨xs, hx', Nat.le_refl _⟩, hd _ _ p⟩⟩
theorem ev_callLS (ha : EvL ta σ H xs) (hb : Ev tb σ H y) (hs : ∀ a H1, Ex H H1 → H1 a = some (.lst xs) → SpV sp [.ref a, y] H1 z) : Ev (tCall sp [] E0 (tCons ta (tCons tb tNil))) σ H z := fun H1 e Q q =>
  ha H1 e _ fun a H2 _ e2 h2 => hb H2 (e.trans e2) _ fun H3 e3 => hs a H3 ((e.trans e2).trans e3) (e3 _ _ h2) H3 (Ex.refl H3) Q (fun H4 e4 => q H4 ((e2.trans e3).trans e4)) E0
theorem rs_callLS (ha : EvL ta σ H xs) (hb : Ev tb σ H y) (hs : ∀ a H1, Ex H H1 → H1 a = some (.lst xs) → ∀ Q : VK, RetRs os H1 Q → ∀ E : XK, sp [.ref a, y] H1 Q E) : EvRs (tCall sp [] E0 (tCons ta (tCons tb tNil))) σ H os := fun H1 e Q q =>
  ha H1 e _ fun a H2 _ e2 h2 => hb H2 (e.trans e2) _ fun H3 e3 => hs a H3 ((e.trans e2).trans e3) (e3 _ _ h2) Q (fun c qs H4 hc e4 h4 h5 => q c qs H4 (fresh_back (e2.trans e3) hc) ((e2.trans e3).trans e4) h4 h5) E0
end
end Sq

/-! law k19's own defs -/
namespace Sq
open PySem PySem.Spec PyProof.Rows L2 Evl
theorem RefsO.take {H : Hp} {qs : List Addr} {os : List HO} (h : RefsO H qs os) (k : Nat) : RefsO H (qs.take k) (os.take k) := ⟨by rw [List.length_take, List.length_take, h.len], fun i q o a b => by
  by_cases z : i < k
  · rw [List.getElem?_take_of_lt z] at a b
    exact h.get i q o a b
  · rw [List.getElem?_eq_none (by rw [List.length_take]; omega)] at a
    cases a⟩
theorem RefsO.drop {H : Hp} {qs : List Addr} {os : List HO} (h : RefsO H qs os) (k : Nat) : RefsO H (qs.drop k) (os.drop k) := ⟨by rw [List.length_drop, List.length_drop, h.len], fun i q o a b => by
  rw [List.getElem?_drop] at a b
  exact h.get _ q o a b⟩
theorem RefsO.append {H : Hp} {qs qs' : List Addr} {os os' : List HO} (h : RefsO H qs os) (h' : RefsO H qs' os') : RefsO H (qs ++ qs') (os ++ os') := ⟨by rw [List.length_append, List.length_append, h.len, h'.len], fun i q o a b => by
  by_cases z : i < qs.length
  · rw [List.getElem?_append_left z] at a
    rw [List.getElem?_append_left (by rw [← h.len]; exact z)] at b
    exact h.get i q o a b
  · rw [List.getElem?_append_right (by omega)] at a
    rw [List.getElem?_append_right (by rw [← h.len]; omega), ← h.len] at b
    exact h'.get _ q o a b⟩
theorem refV_take (qs : List Addr) (k : Nat) : (refV qs).take k = refV (qs.take k) := by
  unfold refV
  rw [List.map_take]
theorem refV_drop (qs : List Addr) (k : Nat) : (refV qs).drop k = refV (qs.drop k) := by
  unfold refV
  rw [List.map_drop]
theorem refV_app (qs qs' : List Addr) : refV qs ++ refV qs' = refV (qs ++ qs') := by
  unfold refV
  rw [List.map_append]
theorem cut_hi {xs : List V} {k : Nat} : cutV xs none (some (k : Int)) = xs.take k := by
  unfold cutV
  rw [HT.sIx_nat, HT.sIx_none, Nat.sub_zero, List.drop_zero, List.take_eq_take_iff]
  omega
theorem cut_lo {xs : List V} {k : Nat} : cutV xs (some (k : Int)) none = xs.drop k := by
  unfold cutV
  rw [HT.sIx_nat, HT.sIx_none]
  by_cases h : k ≤ xs.length
  · rw [Nat.min_eq_left h]
    exact List.take_of_length_le (by rw [List.length_drop]; exact Nat.le_refl _)
  · rw [Nat.min_eq_right (by omega), List.drop_length, List.drop_eq_nil_of_le (by omega), List.take_nil]
def EvAP (tA : TA) (σ : L2.St) (H : Hp) (P : List V → Prop) : Prop := ∀ H1, Ex H H1 → ∀ Q : List V → Hp → Prop, (∀ vs H2, Ex H1 H2 → P vs → Q vs H2) → tA σ H1 Q
section
variable {K : PySem.W.Frag} {σ : L2.St} {H : Hp} {ta tb tc : TE} {tA : TA} {D : Ends} {tu tz : TS} {g : TG} {x y z v : V} {xs ys : List V} {sp : Sp} {p : V → Prop} {P : List V → Prop}
theorem eap_last (h : EvP ta σ H p) : EvAP (tCons ta tNil) σ H (fun vs => ∃ v, p v ∧ vs = [v]) := fun H1 e Q q => h H1 e _ fun v H2 e2 hv => q [v] H2 e2 ⟨v, hv, rfl⟩
theorem eap_cons (h : Ev ta σ H x) (hr : EvAP tA σ H P) : EvAP (tCons ta tA) σ H (fun vs => ∃ us, P us ∧ vs = x :: us) := fun H1 e Q q => h H1 e _ fun H2 e2 => hr H2 (e.trans e2) _ fun us H3 e3 hu => q (x :: us) H3 (e2.trans e3) ⟨us, hu, rfl⟩
theorem q_asgPairUV {i j : Nat} (ha : EvU ta σ H xs) (hb : Ev tb σ H y) (k : ∀ a H1, Ex H H1 → H1 a = some (.tup xs) → tz D ((σ.set i (some (.ref a))).set j (some y)) H1) : tSeq (tAsg (tTup (tCons ta (tCons tb tNil))) (gTup K 2 (gCons (gName i) (gCons (gName j) gNil)))) tz D σ H :=
  ha H (Ex.refl H) _ fun a H1 _ e1 h1 => hb H1 e1 _ fun H2 e2 => ⟨by show 2 ≤ sizeLine; decide, fun q hq => ⟨q, [.ref a, y], rfl, st_of upd_same, rfl, _, _, rfl, _, _, rfl, rfl, k a _ ((e1.trans e2).trans (Ex.new hq)) ((Ex.new hq) _ _ (e2 _ _ h1))⟩⟩
theorem el_cat (ha : EvL ta σ H xs) (hb : EvL tb σ H ys) (hz : xs.length + ys.length ≤ 100000) : EvL (tOp rCat ta tb) σ H (xs ++ ys) := fun H1 e Q q =>
  ha H1 e _ fun a H2 _ e2 h2 => hb H2 (e.trans e2) _ fun b H3 _ e3 h3 => ⟨a, b, xs, ys, rfl, rfl, e3 _ _ h2, h3, sz_of hz, fun c hc => q c _ (fresh_back (e2.trans e3) hc) ((e2.trans e3).trans (Ex.new hc)) upd_same⟩
theorem el_catV {a : Addr} (ha : Ev ta σ H (.ref a)) (h0 : H a = some (.lst xs)) (hb : EvL tb σ H ys) (hz : xs.length + ys.length ≤ 100000) : EvL (tOp rCat ta tb) σ H (xs ++ ys) := fun H1 e Q q =>
  ha H1 e _ fun H2 e2 => hb H2 (e.trans e2) _ fun b H3 _ e3 h3 => ⟨a, b, xs, ys, rfl, rfl, (e.trans (e2.trans e3)) _ _ h0, h3, sz_of hz, fun c hc => q c _ (fresh_back (e2.trans e3) hc) ((e2.trans e3).trans (Ex.new hc)) upd_same⟩
/-- for x in (new list, new list) -/
theorem q_forT2LL (ha : EvL ta σ H xs) (hb : EvL tb σ H ys) (k : ∀ p q t H1, Ex H H1 → H1 p = some (.lst xs) → H1 q = some (.lst ys) → H1 t = some (.tup [.ref p, .ref q]) → tSeq (tFor (iTup K (tC (.ref t))) g tu) tz D σ H1) : tSeq (tFor (iTup K (tTup (tCons ta (tCons tb tNil)))) g tu) tz D σ H :=
  ha H (Ex.refl H) _ fun p H1 _ e1 h1 => hb H1 e1 _ fun q H2 _ e2 h2 => ⟨by show 2 ≤ sizeLine; decide, fun t ht => k p q t _ ((e1.trans e2).trans (Ex.new ht)) ((Ex.new ht) _ _ (e2 _ _ h1)) ((Ex.new ht) _ _ h2) upd_same⟩
theorem ev_call3L (ha : Ev ta σ H x) (hb : Ev tb σ H y) (hc : EvL tc σ H xs) (hs : ∀ a H1, Ex H H1 → H1 a = some (.lst xs) → SpV sp [x, y, .ref a] H1 z) : Ev (tCall sp [] E0 (tCons ta (tCons tb (tCons tc tNil)))) σ H z := fun H1 e Q q =>
  ha H1 e _ fun H2 e2 => hb H2 (e.trans e2) _ fun H3 e3 => hc H3 ((e.trans e2).trans e3) _ fun a H4 _ e4 h4 => hs a H4 (((e.trans e2).trans e3).trans e4) h4 H4 (Ex.refl H4) Q (fun H5 e5 => q H5 (((e2.trans e3).trans e4).trans e5)) E0
/-- None == a tuple -/
theorem ev_eqNon {a : Addr} {ys : List Int} (ha : Ev ta σ H .non) (hb : Ev tb σ H (.ref a)) (h : SqT K H a (ys.map V.int)) : Ev (tOp (rEqD K) ta tb) σ H (.bl false) := fun H1 e Q q =>
  ha H1 e _ fun H2 e2 => hb H2 (e.trans e2) _ fun H3 e3 => ⟨_, _, .non, .tup (ex_t ((e.trans e2).trans e3) h) dp_ints, rfl, shaped_t ys, q H3 (e2.trans e3)⟩
end
/-! ### promises -/
def spIsClose (K : PySem.W.Frag) (Pd : Addr) : Sp := fun vs H Q _ => ∃ (t u : Addr) (r : List (Option Int)) (c : Nat) (ds : List Int), vs = [.ref t, .int (c : Int), .ref u] ∧ SqT K H t (entV r) ∧ SqT K H u (ds.map V.int) ∧ H Pd = some (TabF Pd) ∧ RecOk r ∧ ds.length + c = r.length ∧ ds ≠ [] ∧ Close r ds.length ds ∧ RetV (.bl true) H Q
def spShown (K : PySem.W.Frag) (P1 P2 P3 : Addr) : Sp := fun vs H Q _ => ∃ (w t : Addr) (r : List (Option Int)) (c d : Nat), vs = [.ref w, .ref t, .int (c : Int)] ∧ RowAt K H w ∧ SqT K H t (entV r) ∧ H P1 = some (TabF P1) ∧ H P2 = some (TabF P2) ∧ H P3 = some (TabF P3) ∧ RecOk r ∧ r.length ≤ 8 ∧ c < r.length ∧ d = r.length - c ∧ d ≤ (knownOf r).length ∧ (∀ ds, ¬ Close r d ds) ∧ RetV (.bl true) H Q
theorem entries_short {l : List Nat} {k : Nat} (h : l.length ≤ 16) : (entriesOf l k).length ≤ 70 := by
  unfold entriesOf
  split
  · exact Nat.zero_le _
  · rw [List.length_map]
    exact comb_short (by unfold pairN; omega) (by omega)
end Sq

/-! law k19: a block whose first symbols are gone -/
namespace Sq
open PySem PySem.Spec PyProof.Rows L2 Evl
def goneOf (bs : List Int) (k : Nat) : List (Option Int) := List.replicate k none ++ (bs.drop k).map some
theorem gone_ent (bs : List Int) (k : Nat) : (List.replicate k [V.non]).flatten ++ (bs.map V.int).drop k = entV (goneOf bs k) := by
  have e1 : (List.replicate k [V.non]).flatten = List.replicate k V.non := by
    induction k with
    | zero => rfl
    | succ n ih => rw [List.replicate_succ, List.flatten_cons, ih, List.replicate_succ]; rfl
  rw [e1]
  unfold goneOf
  rw [← List.map_drop, ← entV_some]
  unfold entV
  rw [List.map_append, List.map_replicate]
theorem gone_facts {bs : List Int} {k : Nat} (hs : ∀ x ∈ bs, Sym x) (hk : k ≤ bs.length) : (goneOf bs k).length = bs.length ∧ (knownOf (goneOf bs k)).length + k ≤ bs.length ∧ ∀ x, some x ∈ goneOf bs k → Sym x := by
  have gl : (goneOf bs k).length = bs.length := by
    unfold goneOf
    rw [List.length_append, List.length_replicate, List.length_map, List.length_drop]
    omega
  refine ⟨gl, ?_, fun x hx => ?_⟩
  · have z := nd_le (l := knownOf (goneOf bs k)) (d := (List.range (bs.length - k)).map (· + k)) (knownOf_nd _) fun i hi => by
      obtain ⟨y, hy⟩ := knownOf_mem.mp hi
      have hlt := (List.getElem?_eq_some_iff.mp hy).1
      have hge : k ≤ i := by
        by_cases h : i < k
        · unfold goneOf at hy
          rw [List.getElem?_append_left (by rw [List.length_replicate]; exact h), List.getElem?_replicate, if_pos h] at hy
          cases hy
        · omega
      exact List.mem_map.mpr ⟨i - k, List.mem_range.mpr (by omega), by omega⟩
    rw [List.length_map, List.length_range] at z
    omega
  · unfold goneOf at hx
    rcases List.mem_append.mp hx with h | h
    · have := (List.mem_replicate.mp h).2
      cases this
    · obtain ⟨y, hy, e⟩ := List.mem_map.mp h
      cases e
      exact hs _ (List.mem_of_mem_drop hy)
section
variable {K : PySem.W.Frag} {σ : L2.St} {H : Hp} {ta tb : TE} {tA : TA} {xs ys : List V} {sp : Sp}
theorem evs_catA (ha : EvS K ta σ H xs) (hb : EvS K tb σ H ys) (hz : xs.length + ys.length ≤ 100000) : EvS K (tOp (rCatA K) ta tb) σ H (xs ++ ys) := fun H1 e Q q =>
  ha H1 e _ fun a H2 e2 h2 => hb H2 (e.trans e2) _ fun b H3 e3 h3 => ⟨a, b, xs, ys, rfl, rfl, ex_t e3 h2, h3, sz_of hz, (fun z => q b H3 (e2.trans e3) (by rw [z]; exact h3)), (fun _ z => q a H3 (e2.trans e3) (by rw [z, List.append_nil]; exact ex_t e3 h2)), (fun _ _ p hp => q p _ ((e2.trans e3).trans (Ex.new hp)) (st_of upd_same))⟩
/-- a call that gives a new empty list -/
theorem evl_find {vs : List V} (h : EvA tA σ H vs) (hs : ∀ H1, Ex H H1 → ∀ Q : VK, RetRs [] H1 Q → ∀ E : XK, sp vs H1 Q E) : EvL (tCall sp [] E0 tA) σ H [] := fun H1 e Q q =>
  rs_call h hs H1 e Q fun c qs H2 hc e2 h2 h3 => q c H2 hc e2 (by
    have := h3.len
    rw [List.length_eq_zero_iff.mp this] at h2
    exact h2)
theorem ev_neNil (ha : EvL ta σ H []) (hb : EvL tb σ H []) : Ev (tOp (rNeD K) ta tb) σ H (.bl false) := ev_opLL ha hb fun a b H1 h1 h2 _ => fun H2 e2 Q q => ⟨_, _, .lst (xs := []) (ex_l e2 (sq_of h1)) .nil, .lst (xs := []) (ex_l e2 (sq_of h2)) .nil, rfl, rfl, q H2 (Ex.refl H2)⟩
end
end Sq

/-! zip over as many texts as there are -/
namespace Sq
open PySem PySem.Spec PyProof.Rows L2 Evl
abbrev zipO (own : Value) (fl : Bool) (TI TO : Addr) : Obj := { cls := .type "zip", dict := none, data := .fields #[own, .bool fl, .bool false, .ref TI, .ref TO], slots := #[] }
/-- the texts' iterators: where each stands, its text -/
abbrev Its := List (Addr × Str × Tok)
def ItAll (h : Heap) (l : Its) (i : Nat) : Prop := ∀ p ∈ l, h.IsStrIter p.1 "str_ascii_iterator" p.2.1 p.2.2 i
/-- the signs in the i-th place -/
def colV (l : Its) (i : Nat) : List V := l.map fun p => V.str ⟨#[(p.2.1.cps[i]?).getD 0]⟩
def Has (l : Its) (i : Nat) : Prop := ∀ p ∈ l, i < p.2.1.cps.size
section
variable {prog : Program} {w : World} {A : Around} {E : Value → Shared → Prop} {s : Shared}
theorem itAll_keep {h h' : Heap} {l : Its} {i : Nat} (a : ItAll h l i) (k : ∀ p ∈ l, ∀ o, h.get? p.1 = some o → h'.get? p.1 = some o) : ItAll h' l i := fun p hp => by
  obtain ⟨o, ho, r⟩ := a p hp
  exact ⟨o, k p hp o ho, r⟩
/-- each iterator gives its next sign -/
def Draw2 (f : Value → Option Fin × Array Value → Sem (ForInStep (Option Fin × Array Value))) : Prop := ∀ it r, ∃ g : Option Value → Sem (ForInStep (Option Fin × Array Value)), f it r = (holding r.2.toList (Builtin.SmallTypes.nextOf it >>= fun v => pure (some v)) >>= g) ∧ ∀ x, g (some x) = pure (ForInStep.yield ((none : Option Fin), r.2.push x))
theorem zip_draws {f : Value → Option Fin × Array Value → Sem (ForInStep (Option Fin × Array Value))} (hf : Draw2 f) {i : Nat} {Q : Option Fin × Array Value → Shared → Prop} : ∀ (l : Its) (acc : Array Value) (s : Shared), (l.map (·.1)).Nodup → ItAll s.heap l i → Has l i →
    (∀ vs h' tk, Vals (colV l i) vs → ItAll h' l (i + 1) → (∀ b o, b ∉ l.map (·.1) → s.heap.get? b = some o → h'.get? b = some o) → h'.objs.size = s.heap.objs.size → Q (none, acc ++ vs.toArray) { s with heap := h', toks := tk }) →
    wpAny (model prog w) A (forIn (l.map fun p => Value.ref p.1) ((none : Option Fin), acc) f) Q E s
  | [], acc, s, _, _, _, h => by
    simp only [List.map_nil, List.forIn_nil]
    refine wpAny_pure ?_
    have z := h [] s.heap s.toks .nil (fun p hp => by cases hp) (fun b o _ e => e) rfl
    simpa using z
  | p :: l, acc, s, hn, ha, hi, h => by
    rw [List.map_cons, List.nodup_cons] at hn
    have hp := ha p List.mem_cons_self
    have hlt := hi p List.mem_cons_self
    have hx : p.2.1.cps[i]? = some p.2.1.cps[i] := Array.getElem?_eq_getElem hlt
    obtain ⟨g, e1, e2⟩ := hf (.ref p.1) ((none : Option Fin), acc)
    rw [List.map_cons, List.forIn_cons, e1]
    refine wpAny_bind (wpAny_bind (wpAny_holding (wpAny_bind (wpAny_nextOf_ascii_item hp hx fun h1 h1i sb => wpAny_pure ?_))))
    rw [e2]
    refine wpAny_pure ?_
    have nin : ∀ q ∈ l, q.1 ≠ p.1 := fun q hq z => hn.1 (z ▸ List.mem_map.mpr ⟨q, hq, rfl⟩)
    refine zip_draws hf l _ { s with heap := h1, toks := s.toks + 1 } hn.2 (itAll_keep (fun q hq => ha q (List.mem_cons_of_mem _ hq)) fun q hq o e => (sb.2 _ (nin q hq)).trans e) (fun q hq => hi q (List.mem_cons_of_mem _ hq)) fun vs h2 tk hv hI hk hs => ?_
    have z := h (.str ⟨#[p.2.1.cps[i]]⟩ s.toks :: vs) h2 tk (.cons ⟨s.toks, by rw [hx]; rfl⟩ hv) (fun q hq => ?_) (fun b o hb e => ?_) (hs.trans sb.1)
    · have e : (acc.push (.str ⟨#[p.2.1.cps[i]]⟩ s.toks)) ++ vs.toArray = acc ++ (Value.str ⟨#[p.2.1.cps[i]]⟩ s.toks :: vs).toArray := by
        apply Array.toList_inj.mp
        simp
      show Q (none, _ ++ vs.toArray) _
      rw [e]
      exact z
    · rcases List.mem_cons.mp hq with rfl | hq
      · obtain ⟨o, ho, r⟩ := h1i
        exact ⟨o, hk _ o hn.1 ho, r⟩
      · exact hI q hq
    · rw [List.map_cons, List.mem_cons, not_or] at hb
      exact hk b o hb.2 ((sb.2 _ hb.1).trans e)
theorem zip_two {f : Value → Option Fin × Array Value → Sem (ForInStep (Option Fin × Array Value))} {gg : Option Fin × Array Value → Sem Fin} (hf : Draw2 f) (hg : ∀ arr, gg (none, arr) = (newTuple arr.toList >>= fun t => ret t)) {i : Nat} {Q : Value → Shared → Prop} {l : Its} (hn : (l.map (·.1)).Nodup) (hI : ItAll s.heap l i) (hi : Has l i) (h70 : l.length ≤ 1000)
    (hQ : ∀ vs h' tk, Vals (colV l i) vs → ItAll h' l (i + 1) → h'.get? s.heap.objs.size = some { cls := .type "tuple", data := .seq vs.toArray } → h'.objs.size = s.heap.objs.size + 1 → (∀ b o, b ∉ l.map (·.1) → s.heap.get? b = some o → h'.get? b = some o) → Q (.ref s.heap.objs.size) { s with heap := h', toks := tk }) :
    wpAny (model prog w) A (forIn (l.map fun p => Value.ref p.1).toArray ((none : Option Fin), (#[] : Array Value)) f >>= gg) (fun fin s' => ∃ v, fin = .done (.ret v) ∧ Q v s') E s := by
  rw [← Array.forIn_toList]
  refine wpAny_bind (zip_draws hf l #[] s hn hI hi fun vs h' tk hv hI' hk hs => ?_)
  have hl : vs.length = l.length := by
    have z := hv.length
    unfold colV at z
    rw [List.length_map] at z
    exact z.symm
  have e0 : ((#[] : Array Value) ++ vs.toArray).toList = vs := by simp
  rw [hg, e0]
  refine wpAny_bind (wpAny_newTuple ?_ (by rw [sizeLine_eq]; omega))
  refine wpAny_pure ⟨_, rfl, ?_⟩
  show Q (.ref h'.objs.size) _
  rw [hs]
  refine hQ vs _ tk hv (itAll_keep hI' fun p _ o e => Heap.get?_push_of_some _ e) ?_ ?_ fun b o hb e => Heap.get?_push_of_some _ (hk b o hb e)
  · rw [← hs]
    exact Heap.get?_push_size _ rfl
  · rw [Heap.size_push, hs]
theorem zipN_next2 {z TI TO a : Addr} {fl : Bool} {l : Its} {i n : Nat} {ol : Obj} {Q : Value → Shared → Prop} (hz : s.heap.get? z = some (zipO (rawInt a) fl TI TO)) (hTI : ∃ o, s.heap.get? TI = some o ∧ o.data = .seq (l.map fun p => Value.ref p.1).toArray n) (hne : l ≠ []) (hal : s.heap.get? a = some ol)
    (hn : (l.map (·.1)).Nodup) (hzl : z ∉ l.map (·.1)) (hI : ItAll s.heap l i) (hi : Has l i) (h70 : l.length ≤ 1000)
    (hQ : ∀ vs h' tk fl', h'.get? z = some (zipO (rawInt a) fl' TI TO) → Vals (colV l i) vs → ItAll h' l (i + 1) → h'.get? s.heap.objs.size = some { cls := .type "tuple", data := .seq vs.toArray } → h'.objs.size = s.heap.objs.size + 1 → (∀ b o, b ∉ l.map (·.1) → b ≠ z → s.heap.get? b = some o → h'.get? b = some o) → Q (.ref s.heap.objs.size) { s with heap := h', toks := tk }) :
    wpAny (model prog w) A (Builtin.«zip.__next__» ⟨[.ref z], []⟩) (fun fin s' => ∃ v, fin = .done (.ret v) ∧ Q v s') E s := by
  obtain ⟨oT, hT, hTd⟩ := hTI
  show wpAny _ _ (field (.ref z) 2 >>= _) _ _ _
  refine wpAny_bind (wpAny_field hz rfl (x := .bool false) rfl ?_)
  show wpAny _ _ (field (.ref z) 3 >>= _) _ _ _
  refine wpAny_bind (wpAny_field hz rfl (x := .ref TI) rfl ?_)
  refine wpAny_bind (wpAny_seqItems hT hTd ?_)
  have he : ((l.map fun p => Value.ref p.1).toArray.isEmpty) = false := by
    cases l with
    | nil => exact absurd rfl hne
    | cons p r => rfl
  simp only [he]
  show wpAny _ _ (Builtin.SmallTypes.ownedTupleIsFree (.ref z) >>= _) _ _ _
  refine wpAny_bind ?_
  unfold Builtin.SmallTypes.ownedTupleIsFree
  refine wpAny_bind (wpAny_field hz rfl (x := rawInt a) rfl ?_)
  show wpAny _ _ (loadIfAlive (a : Int).toNat >>= _) _ _ _
  rw [Int.toNat_natCast]
  refine wpAny_bind (PySem.W.kdx_alive hal ?_)
  simp only [Option.isNone_some]
  show wpAny _ _ (field (.ref z) 1 >>= _) _ _ _
  refine wpAny_bind (wpAny_field hz rfl (x := .bool fl) rfl ?_)
  have go : ∀ (h1 : Heap) (fl' : Bool), h1.get? z = some (zipO (rawInt a) fl' TI TO) → Heap.SameBut z s.heap h1 → ∀ vs h' tk, Vals (colV l i) vs → ItAll h' l (i + 1) → h'.get? h1.objs.size = some { cls := .type "tuple", data := .seq vs.toArray } → h'.objs.size = h1.objs.size + 1 → (∀ b o, b ∉ l.map (·.1) → h1.get? b = some o → h'.get? b = some o) → Q (.ref h1.objs.size) { s with heap := h', toks := tk } := fun h1 fl' h2 sb vs h' tk a1 a2 a3 a4 a5 => by
    rw [sb.1] at a3 a4 ⊢
    exact hQ vs h' tk fl' (a5 _ _ hzl h2) a1 a2 a3 a4 fun b o hb hbz e => a5 b o hb ((sb.2 b hbz).trans e)
  have nz : ∀ p ∈ l, p.1 ≠ z := fun p hp e => hzl (e ▸ List.mem_map.mpr ⟨p, hp, rfl⟩)
  cases fl with
  | true =>
    refine wpAny_pure ?_
    rw [if_neg (by decide)]
    exact zip_two (fun _ _ => ⟨_, rfl, fun _ => rfl⟩) (fun _ => rfl) hn hI hi h70 (go s.heap true hz ⟨rfl, fun _ _ => rfl⟩)
  | false =>
    refine wpAny_bind (wpAny_setField_rec hz (by simp) fun h1 hz1 sb => wpAny_pure ?_)
    rw [if_neg (by decide)]
    exact zip_two (s := { s with heap := h1 }) (fun _ _ => ⟨_, rfl, fun _ => rfl⟩) (fun _ => rfl) hn (itAll_keep hI fun p hp o e => (sb.2 _ (nz p hp)).trans e) hi h70 (go h1 true hz1 sb)
/-! ### the first turn, and a turn after the last tuple went: the owned tuple is filled -/
def Draw1 (z TO : Addr) (f : Value × Nat → Option Fin × Unit → Sem (ForInStep (Option Fin × Unit))) : Prop := ∀ (it : Value) (k : Nat) (r : Option Fin × Unit), ∃ (g : Option Value → Sem (ForInStep (Option Fin × Unit))) (g2 : Value → Option (Array Value) → Sem (ForInStep (Option Fin × Unit))),
  f (it, k) r = ((Builtin.SmallTypes.nextOf it >>= fun v => pure (some v)).onRaise (fun _ => setField (.ref z) 0 .none) >>= g) ∧ (∀ x, g (some x) = (seqItems? (.ref TO) >>= g2 x)) ∧
  ∀ x kept, g2 x (some kept) = (updateSeq TO (fun y => y.setIfInBounds k x) >>= fun _ => letGo [kept.getD k .none] >>= fun _ => pure (ForInStep.yield ((none : Option Fin), ())))
def tupA (vs : Array Value) : Obj := { cls := .type "tuple", data := .seq vs }
/-- items laid from the k-th place on -/
def layFrom : Nat → List Value → Array Value → Array Value
  | _, [], a => a
  | k, v :: vs, a => layFrom (k + 1) vs (a.setIfInBounds k v)
theorem layFrom_size : ∀ (k : Nat) (vs : List Value) (a : Array Value), (layFrom k vs a).size = a.size
  | _, [], _ => rfl
  | k, v :: vs, a => by
    show (layFrom (k + 1) vs (a.setIfInBounds k v)).size = a.size
    rw [layFrom_size (k + 1) vs]
    simp
theorem layFrom_get : ∀ (k : Nat) (vs : List Value) (a : Array Value) (i : Nat), k + vs.length ≤ a.size → (layFrom k vs a)[i]? = if k ≤ i ∧ i < k + vs.length then vs[i - k]? else a[i]?
  | k, [], a, i, _ => by
    have : ¬ (k ≤ i ∧ i < k + ([] : List Value).length) := fun h => by simp at h; omega
    rw [if_neg this]
    rfl
  | k, v :: vs, a, i, h => by
    rw [List.length_cons] at h
    show (layFrom (k + 1) vs (a.setIfInBounds k v))[i]? = _
    rw [layFrom_get (k + 1) vs _ i (by simp; omega), List.length_cons]
    by_cases h1 : k + 1 ≤ i ∧ i < k + 1 + vs.length
    · rw [if_pos h1, if_pos (by omega), show i - k = (i - (k + 1)) + 1 by omega, List.getElem?_cons_succ]
    · rw [if_neg h1]
      by_cases h2 : i = k
      · subst h2
        rw [if_pos (by omega), Nat.sub_self, List.getElem?_cons_zero]
        simp [show i < a.size by omega]
      · rw [if_neg (by omega), Array.getElem?_setIfInBounds_ne (fun e => h2 e.symm)]
theorem layFrom_all {vs : List Value} {a : Array Value} (h : a.size = vs.length) : layFrom 0 vs a = vs.toArray := by
  apply Array.ext_getElem?
  intro i
  rw [layFrom_get 0 vs a i (by omega)]
  by_cases hi : i < vs.length
  · rw [if_pos (by omega)]
    simp
  · rw [if_neg (by omega), Array.getElem?_eq_none (by omega)]
    simp; omega
theorem zip_draws1 {z TO : Addr} {f : Value × Nat → Option Fin × Unit → Sem (ForInStep (Option Fin × Unit))} (hf : Draw1 z TO f) {i : Nat} {Q : Option Fin × Unit → Shared → Prop} : ∀ (l : Its) (k : Nat) (arr : Array Value) (s : Shared), (l.map (·.1)).Nodup → TO ∉ l.map (·.1) → ItAll s.heap l i → Has l i → s.heap.get? TO = some (tupA arr) → arr.size ≤ 1000 →
    (∀ vs h' tk, Vals (colV l i) vs → ItAll h' l (i + 1) → h'.get? TO = some (tupA (layFrom k vs arr)) → (∀ b o, b ∉ l.map (·.1) → b ≠ TO → s.heap.get? b = some o → h'.get? b = some o) → h'.objs.size = s.heap.objs.size → Q ((none : Option Fin), ()) { s with heap := h', toks := tk }) →
    wpAny (model prog w) A (forIn ((l.map fun p => Value.ref p.1).zipIdx k) ((none : Option Fin), ()) f) Q E s
  | [], k, arr, s, _, _, _, _, hTO, _, h => by
    simp only [List.map_nil, List.zipIdx_nil, List.forIn_nil]
    exact wpAny_pure (h [] s.heap s.toks .nil (fun p hp => by cases hp) hTO (fun b o _ _ e => e) rfl)
  | p :: l, k, arr, s, hn, hno, ha, hi, hTO, hsz, h => by
    rw [List.map_cons, List.nodup_cons] at hn
    rw [List.map_cons, List.mem_cons, not_or] at hno
    have hp := ha p List.mem_cons_self
    have hlt := hi p List.mem_cons_self
    have hx : p.2.1.cps[i]? = some p.2.1.cps[i] := Array.getElem?_eq_getElem hlt
    obtain ⟨g, g2, e1, e2, e3⟩ := hf (.ref p.1) k ((none : Option Fin), ())
    rw [List.map_cons, List.zipIdx_cons, List.forIn_cons, e1]
    refine wpAny_bind (wpAny_bind (wpAny_onRaise (wpAny_bind (wpAny_nextOf_ascii_item hp hx fun h1 h1i sb => wpAny_pure ?_))))
    have hTO1 : h1.get? TO = some (tupA arr) := (sb.2 _ hno.1).trans hTO
    rw [e2]
    refine wpAny_bind (wpAny_seqItems (s := { s with heap := h1, toks := s.toks + 1 }) hTO1 rfl ?_)
    rw [e3]
    refine wpAny_bind (wpAny_updateSeq (s := { s with heap := h1, toks := s.toks + 1 }) hTO1 rfl ?_ (by rw [sizeLine_eq]; omega) (by simp; rw [sizeLine_eq]; omega))
    refine wpAny_bind (wpAny_letGo (wpAny_pure ?_))
    have nin : ∀ q ∈ l, q.1 ≠ p.1 := fun q hq z => hn.1 (z ▸ List.mem_map.mpr ⟨q, hq, rfl⟩)
    have nTO : ∀ q ∈ l, q.1 ≠ TO := fun q hq z => hno.2 (z ▸ List.mem_map.mpr ⟨q, hq, rfl⟩)
    have sb2 : Heap.SameBut TO h1 (h1.update TO (Obj.mapSeq fun y => y.setIfInBounds k (.str ⟨#[p.2.1.cps[i]]⟩ s.toks))) := Heap.SameBut.update ..
    have hTO2 : (h1.update TO (Obj.mapSeq fun y => y.setIfInBounds k (.str ⟨#[p.2.1.cps[i]]⟩ s.toks))).get? TO = some (tupA (arr.setIfInBounds k (.str ⟨#[p.2.1.cps[i]]⟩ s.toks))) := by
      rw [Heap.get?_update_self _ hTO1 rfl]
      simp [Obj.mapSeq, tupA]
    generalize h1.update TO (Obj.mapSeq fun y => y.setIfInBounds k (.str ⟨#[p.2.1.cps[i]]⟩ s.toks)) = h2 at sb2 hTO2 ⊢
    refine zip_draws1 hf l (k + 1) _ { s with heap := h2, toks := s.toks + 1 } hn.2 hno.2 (itAll_keep (fun q hq => ha q (List.mem_cons_of_mem _ hq)) fun q hq o e => (sb2.2 _ (nTO q hq)).trans ((sb.2 _ (nin q hq)).trans e)) (fun q hq => hi q (List.mem_cons_of_mem _ hq)) hTO2 (by simp; omega) fun vs h3 tk hv hI hT3 hk hs => ?_
    refine h (.str ⟨#[p.2.1.cps[i]]⟩ s.toks :: vs) h3 tk (.cons ⟨s.toks, by rw [hx]; rfl⟩ hv) (fun q hq => ?_) hT3 (fun b o hb hbT e => ?_) (hs.trans (sb2.1.trans sb.1))
    · rcases List.mem_cons.mp hq with rfl | hq
      · obtain ⟨o, ho, r⟩ := h1i
        exact ⟨o, hk _ o hn.1 (fun e => hno.1 e.symm) ((sb2.2 _ (fun e => hno.1 e.symm)).trans ho), r⟩
      · exact hI q hq
    · rw [List.map_cons, List.mem_cons, not_or] at hb
      exact hk b o hb.2 hbT ((sb2.2 _ hbT).trans ((sb.2 _ hb.1).trans e))
end
end Sq

/-! zip made of as many texts as there are -/
namespace Sq
open PySem PySem.Spec PyProof.Rows L2 Evl
theorem typeCall_zip (l : List Value) : checkTypeCall "zip" ⟨l, []⟩ = pure () := by kernel_rfl
theorem args_initN (l : List Value) (o : Value) : argsOk "object.__init__" ⟨o :: l, []⟩ := by
  unfold argsOk; rw [signature?_of (id := "object.__init__") (n := ['_', '_', 't', 'i', 'n', 'i', '_', '_']) (o := ['t', 'c', 'e', 'j', 'b', 'o']) (by kernel_rfl) F.owner_object]; kernel_rfl
theorem newCall_zip10 (a0 a1 a2 a3 a4 a5 a6 a7 a8 a9 : Value) : checkBuiltinCall "zip.__new__" ⟨[.type "zip", a0, a1, a2, a3, a4, a5, a6, a7, a8, a9], []⟩ = pure () := by kernel_rfl
theorem newCall_zip12 (a0 a1 a2 a3 a4 a5 a6 a7 a8 a9 a10 a11 : Value) : checkBuiltinCall "zip.__new__" ⟨[.type "zip", a0, a1, a2, a3, a4, a5, a6, a7, a8, a9, a10, a11], []⟩ = pure () := by kernel_rfl
theorem newCall_zip14 (a0 a1 a2 a3 a4 a5 a6 a7 a8 a9 a10 a11 a12 a13 : Value) : checkBuiltinCall "zip.__new__" ⟨[.type "zip", a0, a1, a2, a3, a4, a5, a6, a7, a8, a9, a10, a11, a12, a13], []⟩ = pure () := by kernel_rfl
theorem newCall_zip16 (a0 a1 a2 a3 a4 a5 a6 a7 a8 a9 a10 a11 a12 a13 a14 a15 : Value) : checkBuiltinCall "zip.__new__" ⟨[.type "zip", a0, a1, a2, a3, a4, a5, a6, a7, a8, a9, a10, a11, a12, a13, a14, a15], []⟩ = pure () := by kernel_rfl
def Side (n : Nat) : Prop := n = 10 ∨ n = 12 ∨ n = 14 ∨ n = 16
theorem list_of_len (n : Nat) (l : List Value) (h : l.length = n) {C : List Value → Prop} (k : ∀ f : Nat → Value, C ((List.range n).map f)) : C l := by
  have e : (List.range n).map (fun i => (l[i]?).getD .none) = l := by
    refine List.ext_getElem? fun i => ?_
    rw [List.getElem?_map]
    by_cases hi : i < n
    · rw [List.getElem?_range hi, List.getElem?_eq_getElem (by omega)]
      show some ((l[i]?).getD .none) = _
      rw [List.getElem?_eq_getElem (by omega)]
      rfl
    · rw [List.getElem?_eq_none (by rw [List.length_range]; omega), List.getElem?_eq_none (by omega)]
      rfl
  have z := k fun i => (l[i]?).getD .none
  rw [e] at z
  exact z
theorem newCall_zip {l : List Value} (h : Side l.length) : checkBuiltinCall "zip.__new__" ⟨.type "zip" :: l, []⟩ = pure () := by
  rcases h with h | h | h | h
  · exact list_of_len 10 l h (C := fun l => checkBuiltinCall "zip.__new__" ⟨.type "zip" :: l, []⟩ = pure ()) fun f => newCall_zip10 (f 0) (f 1) (f 2) (f 3) (f 4) (f 5) (f 6) (f 7) (f 8) (f 9)
  · exact list_of_len 12 l h (C := fun l => checkBuiltinCall "zip.__new__" ⟨.type "zip" :: l, []⟩ = pure ()) fun f => newCall_zip12 (f 0) (f 1) (f 2) (f 3) (f 4) (f 5) (f 6) (f 7) (f 8) (f 9) (f 10) (f 11)
  · exact list_of_len 14 l h (C := fun l => checkBuiltinCall "zip.__new__" ⟨.type "zip" :: l, []⟩ = pure ()) fun f => newCall_zip14 (f 0) (f 1) (f 2) (f 3) (f 4) (f 5) (f 6) (f 7) (f 8) (f 9) (f 10) (f 11) (f 12) (f 13)
  · exact list_of_len 16 l h (C := fun l => checkBuiltinCall "zip.__new__" ⟨.type "zip" :: l, []⟩ = pure ()) fun f => newCall_zip16 (f 0) (f 1) (f 2) (f 3) (f 4) (f 5) (f 6) (f 7) (f 8) (f 9) (f 10) (f 11) (f 12) (f 13) (f 14) (f 15)
theorem newClass_zip (l : List Value) : Builtin.SmallTypes.newClass "zip" ⟨.type "zip" :: l, []⟩ = pure (.type "zip", l) := by
  unfold Builtin.SmallTypes.newClass
  simp only [isType, sub_zip, pure_bind, Bool.not_true, Bool.false_eq_true, if_false]
section
variable {prog : Program} {w : World} {A : Around} {E : Value → Shared → Prop} {s : Shared}
theorem zip_iters {f : Value → Array Value → Sem (ForInStep (Array Value))} (hf : ∀ x r, f x r = (holding r.toList (pyIter x) >>= fun v => pure (ForInStep.yield (r.push v)))) {Q : Array Value → Shared → Prop} : ∀ (xts : List (Str × Tok)) (acc : Array Value) (s : Shared), (∀ p ∈ xts, p.1.cps.all (· < 128) = true) →
    (∀ (its : Its) h', its.map (·.2) = xts → its.map (·.1) = (List.range xts.length).map (s.heap.objs.size + ·) → ItAll h' its 0 → (∀ b o, s.heap.get? b = some o → h'.get? b = some o) → h'.objs.size = s.heap.objs.size + xts.length → Q (acc ++ (its.map fun p => Value.ref p.1).toArray) { s with heap := h' }) →
    wpAny (model prog w) A (forIn (xts.map fun p => Value.str p.1 p.2) acc f) Q E s
  | [], acc, s, _, h => by
    simp only [List.map_nil, List.forIn_nil]
    refine wpAny_pure ?_
    have z := h [] s.heap rfl rfl (fun p hp => by cases hp) (fun b o e => e) rfl
    simpa using z
  | p :: xts, acc, s, ha, h => by
    rw [List.map_cons, List.forIn_cons, hf]
    refine wpAny_bind (wpAny_bind (wpAny_holding (wpAny_pyIter_ascii (ha p List.mem_cons_self) ?_)))
    refine wpAny_pure ?_
    refine zip_iters hf xts _ { s with heap := s.heap.push { cls := .type "str_ascii_iterator", data := .fields #[.str p.1 p.2, .int 0 0] } } (fun q hq => ha q (List.mem_cons_of_mem _ hq)) fun its h' e1 e2 hI hk hs => ?_
    have sz : (s.heap.push { cls := .type "str_ascii_iterator", data := .fields #[.str p.1 p.2, .int 0 0] }).objs.size = s.heap.objs.size + 1 := Heap.size_push ..
    rw [sz] at e2 hs
    have z := h ((s.heap.objs.size, p) :: its) h' (by rw [List.map_cons, e1]) ?_ (fun q hq => ?_) (fun b o e => hk b o (Heap.get?_push_of_some _ e)) (by rw [hs, List.length_cons]; omega)
    · have e : (acc.push (Value.ref s.heap.objs.size)) ++ (its.map fun p => Value.ref p.1).toArray = acc ++ (((s.heap.objs.size, p) :: its).map fun p => Value.ref p.1).toArray := by
        apply Array.toList_inj.mp
        simp
      show Q (_ ++ _) _
      rw [e]
      exact z
    · rw [List.map_cons, e2, List.length_cons, List.range_succ_eq_map, List.map_cons, List.map_map]
      have e : (List.range xts.length).map (s.heap.objs.size + 1 + ·) = (List.range xts.length).map ((s.heap.objs.size + ·) ∘ Nat.succ) := List.map_congr_left fun j _ => by
        show s.heap.objs.size + 1 + j = s.heap.objs.size + (j + 1)
        omega
      rw [e]
      rfl
    · rcases List.mem_cons.mp hq with rfl | hq
      · exact ⟨_, hk _ _ (Heap.get?_push_size _ rfl), rfl, rfl⟩
      · exact hI q hq
theorem zip_new (xts : List (Str × Tok)) :
    Meets (Builtin.«zip.__new__» ⟨.type "zip" :: xts.map fun p => Value.str p.1 p.2, []⟩) (fun _ R s => ((∀ p ∈ xts, p.1.cps.all (· < 128) = true) ∧ xts.length ≤ 1000) ∧ ∀ (its : Its) h', its.map (·.2) = xts → its.map (·.1) = (List.range xts.length).map (s.heap.objs.size + ·) → ItAll h' its 0 →
      h'.get? (s.heap.objs.size + xts.length) = some (tupA (its.map fun p => Value.ref p.1).toArray) → h'.get? (s.heap.objs.size + xts.length + 1) = some (tupA (its.map fun _ => Value.none).toArray) → h'.get? (s.heap.objs.size + xts.length + 2) = some (zipO .none false (s.heap.objs.size + xts.length) (s.heap.objs.size + xts.length + 1)) →
      (∀ b o, s.heap.get? b = some o → h'.get? b = some o) → h'.objs.size = s.heap.objs.size + xts.length + 3 → R (.ok (.ret (.ref (s.heap.objs.size + xts.length + 2)))) { s with heap := h' }) :=
  .of_wp fun prog w A R s ⟨⟨ha, hz⟩, h⟩ => by
    unfold Builtin.«zip.__new__»
    refine wpAny_bind (wpAny_of_eq (newClass_zip _) ?_)
    show wpAny _ _ (Builtin.SmallTypes.iterAll (xts.map fun p => Value.str p.1 p.2) >>= _) _ _ _
    refine wpAny_bind ?_
    unfold Builtin.SmallTypes.iterAll
    refine wpAny_bind (zip_iters (fun _ _ => rfl) xts #[] s ha fun its h' e1 e2 hI hk hs => wpAny_pure ?_)
    have hl : its.length = xts.length := by
      have z := congrArg List.length e1
      rw [List.length_map] at z
      exact z
    have e0 : ((#[] : Array Value) ++ (its.map fun p => Value.ref p.1).toArray).toList = its.map fun p => Value.ref p.1 := by simp
    rw [e0]
    refine wpAny_bind (wpAny_newTuple ?_ (by rw [List.length_map, sizeLine_eq]; omega))
    rw [List.map_map]
    refine wpAny_bind (wpAny_newTuple ?_ (by rw [List.length_map, sizeLine_eq]; omega))
    have z1 : (h'.push { cls := .type "tuple", data := .seq (its.map fun p => Value.ref p.1).toArray }).objs.size = h'.objs.size + 1 := Heap.size_push ..
    have z2 : ((h'.push { cls := .type "tuple", data := .seq (its.map fun p => Value.ref p.1).toArray }).push { cls := .type "tuple", data := .seq (its.map ((fun _ => Value.none) ∘ fun p => Value.ref p.1)).toArray }).objs.size = h'.objs.size + 2 := by rw [Heap.size_push, z1]
    refine wpAny_bind ?_
    show wpAny _ _ (newObj (.type "zip") (.fields ([Value.none, Value.bool false] ++ [Value.bool false, Value.ref h'.objs.size, Value.ref (h'.push { cls := .type "tuple", data := .seq (its.map fun p => Value.ref p.1).toArray }).objs.size]).toArray)) _ _ _
    rw [z1]
    refine wpAny_newObj_type ?_ (by size_fits)
    refine wpAny_pure ⟨_, rfl, ?_⟩
    show R (.ok (.ret (.ref ((h'.push { cls := .type "tuple", data := .seq (its.map fun p => Value.ref p.1).toArray }).push { cls := .type "tuple", data := .seq (its.map ((fun _ => Value.none) ∘ fun p => Value.ref p.1)).toArray }).objs.size))) _
    rw [z2, hs]
    have g1 : ∀ {o1 o2 : Obj}, ∀ b o, h'.get? b = some o → (((h'.push o1).push o2).push (zipO .none false h'.objs.size (h'.objs.size + 1))).get? b = some o := fun b o e => Heap.get?_push_of_some _ (Heap.get?_push_of_some _ (Heap.get?_push_of_some _ e))
    refine h its _ e1 e2 (itAll_keep hI fun p _ o e => Heap.get?_push_of_some _ (Heap.get?_push_of_some _ (Heap.get?_push_of_some _ e))) ?_ ?_ ?_ (fun b o e => Heap.get?_push_of_some _ (Heap.get?_push_of_some _ (Heap.get?_push_of_some _ (hk b o e)))) ?_
    · rw [← hs]
      exact Heap.get?_push_of_some _ (Heap.get?_push_of_some _ (Heap.get?_push_size _ rfl))
    · rw [← hs, ← z1]
      exact Heap.get?_push_of_some _ (Heap.get?_push_size _ rfl)
    · rw [← hs, ← z2]
      exact Heap.get?_push_size _ rfl
    · rw [Heap.size_push, z2, hs]
end
end Sq

/-! zip over texts: a turn, the end, a loop over it -/
namespace Sq
open PySem PySem.Spec PyProof.Rows L2 Evl
section
variable {prog : Program} {w : World} {A : Around} {E : Value → Shared → Prop} {s : Shared}
theorem alive_none {a : Addr} {Q : Option Obj → Shared → Prop} (ho : s.heap.get? a = none) (h : Q none s) : wpAny (model prog w) A (loadIfAlive a) Q E s := by
  have h' : Q (s.heap.get? a) s := by rw [ho]; exact h
  exact fun _ _ _ => h'
def GoneOwn (s : Shared) (own : Value) : Prop := own = .none ∨ ∃ a : Addr, own = rawInt a ∧ s.heap.get? a = none
theorem own_free {z TI TO : Addr} {own : Value} {fl : Bool} (hown : GoneOwn s own) (hz : s.heap.get? z = some (zipO own fl TI TO)) : wpAny (model prog w) A (Builtin.SmallTypes.ownedTupleIsFree (.ref z)) (fun b s' => b = true ∧ s' = s) E s := by
  unfold Builtin.SmallTypes.ownedTupleIsFree
  rcases hown with e | ⟨a, e, hg⟩
  · subst e
    exact wpAny_bind (wpAny_field hz rfl (x := .none) rfl (wpAny_pure ⟨rfl, rfl⟩))
  · subst e
    refine wpAny_bind (wpAny_field hz rfl (x := rawInt a) rfl ?_)
    show wpAny _ _ (loadIfAlive (a : Int).toNat >>= _) _ _ _
    rw [Int.toNat_natCast]
    refine wpAny_bind (alive_none hg ?_)
    simp only [Option.isNone_none, if_true]
    exact wpAny_pure ⟨rfl, rfl⟩
theorem zipN_next1 {own : Value} {z TI TO : Addr} {fl : Bool} {l : Its} {i n : Nat} {arr : Array Value} {Q : Value → Shared → Prop} (hown : GoneOwn s own) (hz : s.heap.get? z = some (zipO own fl TI TO)) (hTI : ∃ o, s.heap.get? TI = some o ∧ o.data = .seq (l.map fun p => Value.ref p.1).toArray n)
    (hTO : s.heap.get? TO = some (tupA arr)) (har : arr.size = l.length) (hne : l ≠ []) (zT : z ≠ TO) (hn : (l.map (·.1)).Nodup) (hzl : z ∉ l.map (·.1)) (hTl : TO ∉ l.map (·.1)) (hI : ItAll s.heap l i) (hi : Has l i) (h70 : l.length ≤ 1000)
    (hQ : ∀ vs h' tk, h'.get? z = some (zipO (rawInt s.heap.objs.size) false TI TO) → Vals (colV l i) vs → ItAll h' l (i + 1) → h'.get? TO = some (tupA vs.toArray) → h'.get? s.heap.objs.size = some { cls := .type "tuple", data := .seq vs.toArray } → h'.objs.size = s.heap.objs.size + 1 → (∀ b o, b ∉ l.map (·.1) → b ≠ z → b ≠ TO → s.heap.get? b = some o → h'.get? b = some o) → Q (.ref s.heap.objs.size) { s with heap := h', toks := tk }) :
    wpAny (model prog w) A (Builtin.«zip.__next__» ⟨[.ref z], []⟩) (fun fin s' => ∃ v, fin = .done (.ret v) ∧ Q v s') E s := by
  obtain ⟨oT, hT, hTd⟩ := hTI
  show wpAny _ _ (field (.ref z) 2 >>= _) _ _ _
  refine wpAny_bind (wpAny_field hz rfl (x := .bool false) rfl ?_)
  show wpAny _ _ (field (.ref z) 3 >>= _) _ _ _
  refine wpAny_bind (wpAny_field hz rfl (x := .ref TI) rfl ?_)
  refine wpAny_bind (wpAny_seqItems hT hTd ?_)
  have he : ((l.map fun p => Value.ref p.1).toArray.isEmpty) = false := by
    cases l with
    | nil => exact absurd rfl hne
    | cons p r => rfl
  simp only [he]
  show wpAny _ _ (Builtin.SmallTypes.ownedTupleIsFree (.ref z) >>= _) _ _ _
  refine wpAny_bind (wpAny_mono (own_free hown hz) (fun b s' h => ?_) (fun _ _ h => h))
  obtain ⟨e1, e2⟩ := h
  subst e1 e2
  simp only [if_true]
  refine wpAny_bind (wpAny_rule ?_)
  refine wpAny_bind (wpAny_field hz rfl (x := .ref TO) rfl ?_)
  refine wpAny_bind (wpAny_setField_rec hz (by simp) fun g0 hz0 hs0 => ?_)
  replace hz0 : g0.get? z = some (zipO .ellipsis fl TI TO) := hz0
  have nz : ∀ p ∈ l, p.1 ≠ z := fun p hp e => hzl (e ▸ List.mem_map.mpr ⟨p, hp, rfl⟩)
  refine wpAny_bind ?_
  refine zip_draws1 (TO := TO) (z := z) (fun _ _ _ => ⟨_, _, rfl, fun _ => rfl, fun _ _ => rfl⟩) l 0 arr { s' with heap := g0 } hn hTl (itAll_keep hI fun p hp o e => (hs0.2 _ (nz p hp)).trans e) hi ((hs0.2 _ zT.symm).trans hTO) (by omega) fun vs h2 tk hv hI2 hT2 hk2 hs2 => ?_
  have hl : vs.length = l.length := by
    have q := hv.length
    unfold colV at q
    rw [List.length_map] at q
    exact q.symm
  rw [layFrom_all (by omega)] at hT2
  have sz2 : h2.objs.size = s'.heap.objs.size := hs2.trans hs0.1
  have hz2 : h2.get? z = some (zipO .ellipsis fl TI TO) := hk2 _ _ hzl zT hz0
  refine wpAny_bind (wpAny_seqItems (s := { s' with heap := h2, toks := tk }) hT2 rfl ?_)
  refine wpAny_bind (wpAny_newTuple ?_ (by rw [sizeLine_eq]; simp; omega))
  show wpAny _ _ (Builtin.SmallTypes.ownedTupleHandOut (.ref z) (.ref h2.objs.size) >>= _) _ _ _
  refine wpAny_bind ?_
  unfold Builtin.SmallTypes.ownedTupleHandOut
  have hz3 : (h2.push { cls := .type "tuple", data := .seq vs.toArray }).get? z = some (zipO .ellipsis fl TI TO) := Heap.get?_push_of_some _ hz2
  refine wpAny_bind (wpAny_setField_rec (s := { s' with heap := h2.push { cls := .type "tuple", data := .seq vs.toArray }, toks := tk }) hz3 (by simp) fun h4 hz4 hs4 => ?_)
  replace hz4 : h4.get? z = some (zipO (rawInt h2.objs.size) fl TI TO) := hz4
  refine wpAny_setField_rec (s := { s' with heap := h4, toks := tk }) hz4 (by simp) fun h5 hz5 hs5 => ?_
  replace hz5 : h5.get? z = some (zipO (rawInt h2.objs.size) false TI TO) := hz5
  replace hs4 : Heap.SameBut z (h2.push { cls := .type "tuple", data := .seq vs.toArray }) h4 := hs4
  replace hs5 : Heap.SameBut z h4 h5 := hs5
  have up : ∀ b o, b ≠ z → h2.get? b = some o → h5.get? b = some o := fun b o hb e => (hs5.2 _ hb).trans ((hs4.2 _ hb).trans (Heap.get?_push_of_some _ e))
  refine wpAny_pure ⟨_, rfl, ?_⟩
  show Q (.ref h2.objs.size) _
  have nzs : h2.objs.size ≠ z := Nat.ne_of_gt (Heap.lt_size hz2)
  have hnew : h5.get? h2.objs.size = some { cls := .type "tuple", data := .seq vs.toArray } := (hs5.2 _ nzs).trans ((hs4.2 _ nzs).trans (Heap.get?_push_size _ rfl))
  rw [sz2] at hz5 hnew ⊢
  refine hQ vs h5 tk hz5 hv (itAll_keep hI2 fun p hp o e => up _ _ (nz p hp) e) (up _ _ zT.symm hT2) hnew (by rw [hs5.1, hs4.1, Heap.size_push, sz2]) fun b o hb hbz hbT e => up b o hbz (hk2 b o hb hbT ((hs0.2 _ hbz).trans e))
/-- the texts are at their ends: nothing is handed out any more -/
theorem zipN_end {own : Value} {z TI TO : Addr} {fl : Bool} {l : Its} {i n : Nat} {Q : Fin → Shared → Prop} (hh : A.handled = none) (hown : own = .none ∨ ∃ a : Addr, own = rawInt a) (hz : s.heap.get? z = some (zipO own fl TI TO)) (hTI : ∃ o, s.heap.get? TI = some o ∧ o.data = .seq (l.map fun p => Value.ref p.1).toArray n)
    (hne : l ≠ []) (hzl : z ∉ l.map (·.1)) (hI : ItAll s.heap l i) (hi : ∀ p ∈ l, p.2.1.cps.size ≤ i)
    (hE : ∀ h' e, (∀ b o, b ∉ l.map (·.1) → b ≠ z → s.heap.get? b = some o → h'.get? b = some o) → (∃ o, h'.get? e = some o ∧ o.cls = .type "StopIteration") → E (.ref e) { s with heap := h' }) :
    wpAny (model prog w) A (Builtin.«zip.__next__» ⟨[.ref z], []⟩) Q E s := by
  obtain ⟨oT, hT, hTd⟩ := hTI
  obtain ⟨p, l', rfl⟩ : ∃ p l', l = p :: l' := by
    cases l with
    | nil => exact absurd rfl hne
    | cons p r => exact ⟨p, r, rfl⟩
  have pz : z ≠ p.1 := fun e => hzl (e ▸ List.mem_cons_self)
  have hx : p.2.1.cps[i]? = none := Array.getElem?_eq_none (hi p List.mem_cons_self)
  show wpAny _ _ (field (.ref z) 2 >>= _) _ _ _
  refine wpAny_bind (wpAny_field hz rfl (x := .bool false) rfl ?_)
  show wpAny _ _ (field (.ref z) 3 >>= _) _ _ _
  refine wpAny_bind (wpAny_field hz rfl (x := .ref TI) rfl ?_)
  refine wpAny_bind (wpAny_seqItems hT hTd ?_)
  have he : (((p :: l').map fun p => Value.ref p.1).toArray.isEmpty) = false := rfl
  simp only [he]
  show wpAny _ _ (Builtin.SmallTypes.ownedTupleIsFree (.ref z) >>= _) _ _ _
  have cs : GoneOwn s own ∨ ∃ (a : Addr) (ol : Obj), own = rawInt a ∧ s.heap.get? a = some ol := by
    rcases hown with e | ⟨a, e⟩
    · exact .inl (.inl e)
    · cases hal : s.heap.get? a with
      | none => exact .inl (.inr ⟨a, e, hal⟩)
      | some ol => exact .inr ⟨a, ol, e, hal⟩
  rcases cs with hg | ⟨a, ol, e, hal⟩
  · skip
    refine wpAny_bind (wpAny_mono (own_free hg hz) (fun b s' h => ?_) (fun _ _ h => h))
    obtain ⟨e1, e2⟩ := h
    subst e1 e2
    simp only [if_true]
    refine wpAny_bind (wpAny_rule ?_)
    refine wpAny_bind (wpAny_field hz rfl (x := .ref TO) rfl ?_)
    refine wpAny_bind (wpAny_setField_rec hz (by simp) fun g0 hz0 hs0 => ?_)
    replace hz0 : g0.get? z = some (zipO .ellipsis fl TI TO) := hz0
    replace hs0 : Heap.SameBut z s'.heap g0 := hs0
    refine wpAny_bind ?_
    simp only [List.map_cons, List.zipIdx_cons, List.forIn_cons]
    refine wpAny_bind (wpAny_bind (wpAny_onRaise ?_))
    show wpAny _ _ (Builtin.SmallTypes.nextOf (.ref p.1) >>= _) _ _ { s' with heap := g0 }
    have hp : g0.IsStrIter p.1 "str_ascii_iterator" p.2.1 p.2.2 i := by
      obtain ⟨o, ho, r⟩ := hI p List.mem_cons_self
      exact ⟨o, (hs0.2 _ (fun e => pz e.symm)).trans ho, r⟩
    refine wpAny_bind (wpAny_nextOf_ascii_end hh hp hx fun q e hq he => ?_)
    replace hq : Heap.ExtBut p.1 g0 q := hq
    obtain ⟨oe, hoe, hce⟩ := he
    replace hoe : q.get? e = some oe := hoe
    have hzq : q.get? z = some (zipO .ellipsis fl TI TO) := hq _ _ pz hz0
    have hez : e ≠ z := fun x => by subst x; rw [hzq] at hoe; cases hoe; simp at hce
    refine wpAny_setField_rec (s := { s' with heap := q }) hzq (by simp) fun q' _ hq' => ?_
    replace hq' : Heap.SameBut z q q' := hq'
    exact hE q' e (fun b o hb hbz x => hq'.extBut _ _ hbz (hq _ _ (fun e => hb (e ▸ List.mem_cons_self)) (hs0.extBut _ _ hbz x))) ⟨oe, hq'.extBut _ _ hez hoe, hce⟩
  · subst e
    refine wpAny_bind ?_
    unfold Builtin.SmallTypes.ownedTupleIsFree
    refine wpAny_bind (wpAny_field hz rfl (x := rawInt a) rfl ?_)
    show wpAny _ _ (loadIfAlive (a : Int).toNat >>= _) _ _ _
    rw [Int.toNat_natCast]
    refine wpAny_bind (PySem.W.kdx_alive hal ?_)
    simp only [Option.isNone_some]
    show wpAny _ _ (field (.ref z) 1 >>= _) _ _ _
    refine wpAny_bind (wpAny_field hz rfl (x := .bool fl) rfl ?_)
    have go : ∀ (h1 : Heap) (fl' : Bool), h1.get? z = some (zipO (rawInt a) fl' TI TO) → Heap.SameBut z s.heap h1 → ∀ h' e', Heap.ExtBut p.1 h1 h' → (∃ o, h'.get? e' = some o ∧ o.cls = .type "StopIteration") → E (.ref e') { s with heap := h' } := fun h1 fl' h2 sb h' e' a1 a2 =>
      hE h' e' (fun b o hb hbz x => a1 _ _ (fun e => hb (e ▸ List.mem_cons_self)) (sb.extBut _ _ hbz x)) a2
    have hp := hI p List.mem_cons_self
    cases fl with
    | true =>
      refine wpAny_pure ?_
      rw [if_neg (by decide)]
      refine wpAny_bind ?_
      rw [← Array.forIn_toList]
      simp only [List.map_cons, List.forIn_cons]
      refine wpAny_bind (wpAny_bind (wpAny_holding ?_))
      show wpAny _ _ (Builtin.SmallTypes.nextOf (.ref p.1) >>= _) _ _ _
      exact wpAny_bind (wpAny_nextOf_ascii_end hh hp hx fun q e hq he => go s.heap true hz ⟨rfl, fun _ _ => rfl⟩ q e hq he)
    | false =>
      refine wpAny_bind (wpAny_setField_rec hz (by simp) fun h1 hz1 sb => wpAny_pure ?_)
      rw [if_neg (by decide)]
      refine wpAny_bind ?_
      rw [← Array.forIn_toList]
      simp only [List.map_cons, List.forIn_cons]
      refine wpAny_bind (wpAny_bind (wpAny_holding ?_))
      show wpAny _ _ (Builtin.SmallTypes.nextOf (.ref p.1) >>= _) _ _ { s with heap := h1 }
      have hp1 : h1.IsStrIter p.1 "str_ascii_iterator" p.2.1 p.2.2 i := by
        obtain ⟨o, ho, r⟩ := hp
        exact ⟨o, (sb.2 _ (fun e => pz e.symm)).trans ho, r⟩
      exact wpAny_bind (wpAny_nextOf_ascii_end hh hp1 hx fun q e hq he => go h1 true hz1 sb q e hq he)
end
end Sq

/-! a loop over zip(*texts) -/
namespace Sq
open PySem PySem.Spec PyProof.Rows L2 Evl
/-- the zip at z stands in the i-th place of its texts -/
def ZSt (z TI TO : Addr) (l : Its) (i : Nat) (h : Heap) : Prop :=
  ∃ (own : Value) (fl : Bool) (arr : Array Value), (own = .none ∨ ∃ a : Addr, own = rawInt a) ∧ h.get? z = some (zipO own fl TI TO) ∧ h.get? TI = some (tupA (l.map fun p => Value.ref p.1).toArray) ∧ h.get? TO = some (tupA arr) ∧ arr.size = l.length ∧ ItAll h l i
structure ZAp (z TI TO : Addr) (l : Its) : Prop where
  zTI : z ≠ TI
  zTO : z ≠ TO
  TT : TI ≠ TO
  nd : (l.map (·.1)).Nodup
  zl : z ∉ l.map (·.1)
  TIl : TI ∉ l.map (·.1)
  TOl : TO ∉ l.map (·.1)
  ne : l ≠ []
  len : l.length ≤ 1000
def zFp (z TI TO : Addr) (l : Its) : List Addr := z :: TI :: TO :: l.map (·.1)
section
variable {prog : Program} {w : World} {A : Around} {E : Value → Shared → Prop} {s : Shared}
theorem zip_nextN {z TI TO : Addr} {l : Its} {i : Nat} {Q : Value → Shared → Prop} (D : ZAp z TI TO l) (st : ZSt z TI TO l i s.heap) (hi : Has l i)
    (hQ : ∀ vs h' tk, ZSt z TI TO l (i + 1) h' → Vals (colV l i) vs → h'.get? s.heap.objs.size = some { cls := .type "tuple", data := .seq vs.toArray } → h'.objs.size = s.heap.objs.size + 1 → (∀ b o, b ∉ zFp z TI TO l → s.heap.get? b = some o → h'.get? b = some o) → Q (.ref s.heap.objs.size) { s with heap := h', toks := tk }) :
    wpAny (model prog w) A (Builtin.«zip.__next__» ⟨[.ref z], []⟩) (fun fin s' => ∃ v, fin = .done (.ret v) ∧ Q v s') E s := by
  obtain ⟨own, fl, arr, hown, hz, hTI, hTO, har, hI⟩ := st
  have nfp : ∀ {b}, b ∉ zFp z TI TO l → b ∉ l.map (·.1) ∧ b ≠ z ∧ b ≠ TO := fun {b} hb => by
    unfold zFp at hb
    rw [List.mem_cons, List.mem_cons, List.mem_cons, not_or, not_or, not_or] at hb
    exact ⟨hb.2.2.2, hb.1, hb.2.2.1⟩
  have cs : GoneOwn s own ∨ ∃ (a : Addr) (ol : Obj), own = rawInt a ∧ s.heap.get? a = some ol := by
    rcases hown with e | ⟨a, e⟩
    · exact .inl (.inl e)
    · cases hal : s.heap.get? a with
      | none => exact .inl (.inr ⟨a, e, hal⟩)
      | some ol => exact .inr ⟨a, ol, e, hal⟩
  rcases cs with hg | ⟨a, ol, e, hal⟩
  · refine zipN_next1 (n := 0) hg hz ⟨_, hTI, rfl⟩ hTO har D.ne D.zTO D.nd D.zl D.TOl hI hi D.len fun vs h' tk a1 a2 a3 a4 a5 a6 a7 => hQ vs h' tk ⟨_, _, _, .inr ⟨_, rfl⟩, a1, a7 _ _ D.TIl D.zTI.symm D.TT hTI, a4, ?_, a3⟩ a2 a5 a6 fun b o hb e => a7 b o (nfp hb).1 (nfp hb).2.1 (nfp hb).2.2 e
    have q := a2.length
    unfold colV at q
    rw [List.length_map] at q
    simpa using q.symm
  · subst e
    exact zipN_next2 (n := 0) hz ⟨_, hTI, rfl⟩ D.ne hal D.nd D.zl hI hi D.len fun vs h' tk fl' a1 a2 a3 a4 a5 a6 => hQ vs h' tk ⟨_, _, _, .inr ⟨_, rfl⟩, a1, a6 _ _ D.TIl D.zTI.symm hTI, a6 _ _ D.TOl D.zTO.symm hTO, har, a3⟩ a2 a4 a5 fun b o hb e => a6 b o (nfp hb).1 (nfp hb).2.1 e
theorem pyNext_zipN_item {z TI TO : Addr} {l : Its} {i : Nat} {Q : Option Value → Shared → Prop} (D : ZAp z TI TO l) (st : ZSt z TI TO l i s.heap) (hi : Has l i)
    (hQ : ∀ vs h' tk, ZSt z TI TO l (i + 1) h' → Vals (colV l i) vs → h'.get? s.heap.objs.size = some { cls := .type "tuple", data := .seq vs.toArray } → h'.objs.size = s.heap.objs.size + 1 → (∀ b o, b ∉ zFp z TI TO l → s.heap.get? b = some o → h'.get? b = some o) → Q (some (.ref s.heap.objs.size)) { s with heap := h', toks := tk }) :
    wpAny (model prog w) A (pyNext (.ref z)) Q E s := by
  have hT : s.TypeIs (.ref z) "zip" := by
    obtain ⟨_, _, _, _, hz, _⟩ := st
    exact ⟨_, hz, rfl⟩
  unfold pyNext
  exact wpAny_bind (wpAny_attempt (wpAny_callSpecial?_slot (name := Str.ofString "__next__") hT F.slot_zip_next
    (wpAny_call_entry F.slot_zip_next hT F.entry_zip_next
      (zip_nextN D st hi fun vs h' tk a1 a2 a3 a4 a5 => wpAny_pure (hQ vs h' tk a1 a2 a3 a4 a5)) (F.args_zip_next_1 _))))
theorem pyNext_zipN_end {z TI TO : Addr} {l : Its} {i : Nat} {Q : Option Value → Shared → Prop} (hh : A.handled = none) (D : ZAp z TI TO l) (st : ZSt z TI TO l i s.heap) (hi : ∀ p ∈ l, p.2.1.cps.size ≤ i)
    (hQ : ∀ h', (∀ b o, b ∉ zFp z TI TO l → s.heap.get? b = some o → h'.get? b = some o) → Q none { s with heap := h' }) : wpAny (model prog w) A (pyNext (.ref z)) Q E s := by
  obtain ⟨own, fl, arr, hown, hz, hTI, hTO, har, hI⟩ := st
  have hT : s.TypeIs (.ref z) "zip" := ⟨_, hz, rfl⟩
  unfold pyNext
  refine wpAny_bind (wpAny_attempt (wpAny_callSpecial?_slot (name := Str.ofString "__next__") hT F.slot_zip_next
    (wpAny_call_entry F.slot_zip_next hT F.entry_zip_next (zipN_end (n := 0) hh hown hz ⟨_, hTI, rfl⟩ D.ne D.zl hI hi fun h' e hk he => ?_) (F.args_zip_next_1 _))))
  obtain ⟨o, ho, hc⟩ := he
  refine wpAny_bind (wpAny_isInstance (T := "StopIteration") (b := true) ⟨o, ho, hc⟩ isSubtype_stop ?_)
  refine wpAny_pure (hQ _ fun b o hb e => hk b o ?_ ?_ e)
  · intro z; exact hb (by unfold zFp; simp only [List.mem_cons]; exact .inr (.inr (.inr z)))
  · intro z; exact hb (by unfold zFp; simp only [List.mem_cons]; exact .inl z)
theorem pyIter_zipN {z TI TO : Addr} {f0 : Value} {fl : Bool} {Q : Value → Shared → Prop} (hz : s.heap.get? z = some (zipO f0 fl TI TO)) (h : Q (.ref z) s) : wpAny (model prog w) A (pyIter (.ref z)) Q E s := by
  have hT : s.TypeIs (.ref z) "zip" := ⟨_, hz, rfl⟩
  refine wpAny_pyIter_slot hT F.slot_zip_iter (wpAny_call_entry F.slot_zip_iter hT F.entry_zip_iter ?_ (F.args_zip_iter_1 _))
  show wpAny _ _ (ret (.ref z)) _ _ s
  exact wpAny_pure ⟨_, rfl, "zip", _, hT, F.slot_zip_next.lookup, h⟩
end
/-- the i-th signs of the texts l, in a new tuple -/
def colS (l : List Str) (i : Nat) : List V := l.map fun x => V.str ⟨#[(x.cps[i]?).getD 0]⟩
def Itx (l : List Str) : It :=
  ⟨fun i _ => ∀ x ∈ l, i < x.cps.size, fun i H v H' => ∃ T, v = .ref T ∧ H T = none ∧ H' = upd H T (.tup (colS l i)), fun i _ => ∀ x ∈ l, x.cps.size ≤ i⟩
theorem colV_eq {l : Its} {xs : List Str} (e : l.map (fun p => p.2.1) = xs) (i : Nat) : colV l i = colS xs i := by
  rw [← e]
  unfold colV colS
  rw [List.map_map]
  rfl
theorem turn_zipN {P : Program} {w : World} {K : PySem.W.Frag} {nm : Str} {tpos : Pos} {z TI TO : Addr} {l : Its} {xs : List Str} (D : ZAp z TI TO l) (exs : l.map (fun p => p.2.1) = xs) :
    Turn P w K (.Name nm tpos) (Itx xs) (zFp z TI TO l) z (fun i h => ZSt z TI TO l i h) where
  mem := by simp [zFp]
  obj := fun i h st c hc => by
    obtain ⟨own, fl, arr, hown, hz, hTI, hTO, har, hI⟩ := st
    unfold zFp at hc
    rcases List.mem_cons.mp hc with q | hc
    · rw [q]; exact ⟨_, hz, fun v q => nomatch q⟩
    rcases List.mem_cons.mp hc with q | hc
    · rw [q]; exact ⟨_, hTI, fun v q => nomatch q⟩
    rcases List.mem_cons.mp hc with q | hc
    · rw [q]; exact ⟨_, hTO, fun v q => nomatch q⟩
    · obtain ⟨p, hp, e⟩ := List.mem_map.mp hc
      obtain ⟨o, ho, _, hd⟩ := hI p hp
      exact ⟨o, e ▸ ho, fun v q => by rw [hd] at q; cases q⟩
  keep := fun i h h' st k => by
    obtain ⟨own, fl, arr, hown, hz, hTI, hTO, har, hI⟩ := st
    exact ⟨own, fl, arr, hown, k z (by simp [zFp]) _ hz, k TI (by simp [zFp]) _ hTI, k TO (by simp [zFp]) _ hTO, har, itAll_keep hI fun p hp o e => k p.1 (by unfold zFp; simp only [List.mem_cons]; exact .inr (.inr (.inr (List.mem_map.mpr ⟨p, hp, rfl⟩)))) o e⟩
  item := by
    intro X hP hw hK hc i pins s σ H E I hf st hg
    subst hP hw hK
    have hi : Has l i := fun p hp => hg _ (exs ▸ List.mem_map.mpr ⟨p, hp, rfl⟩)
    refine pyNext_zipN_item D st hi fun vs h' tk st' hv hT hsz hk => ⟨_, rfl, wpAny_pure ?_⟩
    have hlen : (colS xs i).length ≤ sizeLine := by
      unfold colS
      rw [List.length_map, ← exs, List.length_map]
      have := D.len
      have q : 1000 ≤ sizeLine := by rw [sizeLine_eq]; decide
      omega
    have new : ObjOk X.prog X.w (upd H s.heap.objs.size (.tup (colS xs i))) h' s.heap.objs.size (.tup (colS xs i)) :=
      ⟨hlen, vs, by rw [← colV_eq exs]; exact hv, ⟨_, hT, rfl, _, rfl⟩⟩
    have I1 : Inv X pins σ (upd H s.heap.objs.size (.tup (colS xs i))) { s with heap := h', toks := tk } := I.turnedNew (t' := tk) (ch := zFp z TI TO l) hk hf (Nat.le_refl _) new
    refine ⟨.ref s.heap.objs.size, _, I1, rfl, ⟨_, rfl, I.hok.fresh (Nat.le_refl _), rfl⟩, st', fun c hcm => ?_⟩
    obtain ⟨own, fl, arr, hown, hz, hTI, hTO, har, hI⟩ := st
    have hlt : c < s.heap.objs.size := by
      have hcm' := hcm
      unfold zFp at hcm'
      rcases List.mem_cons.mp hcm' with q | hcm'
      · rw [q]; exact Heap.lt_size hz
      rcases List.mem_cons.mp hcm' with q | hcm'
      · rw [q]; exact Heap.lt_size hTI
      rcases List.mem_cons.mp hcm' with q | hcm'
      · rw [q]; exact Heap.lt_size hTO
      · obtain ⟨p, hp, e⟩ := List.mem_map.mp hcm'
        obtain ⟨o, ho, _⟩ := hI p hp
        exact e ▸ Heap.lt_size ho
    rw [upd_ne (Nat.ne_of_lt hlt)]
    exact (hf c hcm).1
  done := by
    intro X hP hw hK hc i pins s σ H E I hf st hg
    subst hP hw hK
    have hi : ∀ p ∈ l, p.2.1.cps.size ≤ i := fun p hp => hg _ (exs ▸ List.mem_map.mpr ⟨p, hp, rfl⟩)
    exact pyNext_zipN_end (I.ok.hd hc) D st hi fun h' hk => ⟨rfl, I.turnedL (t' := s.toks) (ch := zFp z TI TO l) hk hf⟩
  self := fun A i s Q E st h => by
    obtain ⟨_, _, _, _, hz, _⟩ := st
    exact pyIter_zipN hz h
/-- texts of one length, ten, twelve, fourteen or sixteen of them -/
structure Txs (l : List Str) : Prop where
  side : Side l.length
  asc : ∀ x ∈ l, x.cps.all (· < 128) = true
def iZipN (ta : TA) : TI := fun σ H R => ta σ H fun vs H1 => ∃ xs : List Str, vs = xs.map V.str ∧ Txs xs ∧ R (Itx xs) H1
theorem vals_strs : ∀ {xs : List Str} {us : List Value}, Vals (xs.map V.str) us → ∃ l : List (Str × Tok), l.map (·.1) = xs ∧ us = l.map fun p => Value.str p.1 p.2
  | [], _, .nil => ⟨[], rfl, rfl⟩
  | x :: xs, _, .cons a r => by
    obtain ⟨l, e1, e2⟩ := vals_strs r
    obtain ⟨t, e⟩ := a
    exact ⟨(x, t) :: l, by rw [List.map_cons, e1], by rw [List.map_cons, e2, e]⟩
end Sq

/-! for x in zip(*texts) -/
namespace Sq
open PySem PySem.Spec PyProof.Rows L2 Evl
section
variable {M : Model} {A : Around} {E : Value → Shared → Prop} {s : Shared} {env : Env} {pos p : Pos} {Q : Value → Shared → Prop} {e : Expr} {T : String}
theorem callWith_typeS (h : wpAny M A (eval e env) (fun v s₁ => PySem.W.StarOf M A E v (fun vs s₂ => wpAny M A (call (.type T) vs) Q E s₂) s₁) E s)
    (he : starEach [.Starred e p] env = [(true, eval e env)] := by rfl) : wpAny M A (callWith pos (.type T) [] (backTo pos (starEach [.Starred e p] env)) []) Q E s := by
  rw [he]
  unfold callWith
  refine wpAny_bind (wpAny_holding (wpAny_mono (PySem.W.ks_lone (Q := fun a s₁ => wpAny M A (call (.type T) a.pos a.kw) Q E s₁) h) (fun a s₁ h₁ => wpAny_bind (wpAny_standAt ?_)) fun _ _ x => x))
  have hst : (backTo pos [(true, eval e env)]).any (·.1) = true := rfl
  simp only [hst, Bool.true_or]
  refine wpAny_bind (wpAny_pure ?_)
  exact wpAny_bind (wpAny_mono (wpAny_operating h₁) (fun r s₂ hr => wpAny_bind (wpAny_holding (wpAny_point (wpAny_pure hr)))) fun _ _ x => x)
end
section
variable {prog : Program} {w : World} {A : Around} {E : Value → Shared → Prop} {s : Shared}
theorem call_zipN {xts : List (Str × Tok)} {Q : Value → Shared → Prop} (T : Txs (xts.map (·.1)))
    (h : ∀ (its : Its) h', its.map (·.2) = xts → its.map (·.1) = (List.range xts.length).map (s.heap.objs.size + ·) → ZSt (s.heap.objs.size + xts.length + 2) (s.heap.objs.size + xts.length) (s.heap.objs.size + xts.length + 1) its 0 h' → (∀ b o, s.heap.get? b = some o → h'.get? b = some o) → Q (.ref (s.heap.objs.size + xts.length + 2)) { s with heap := h' }) :
    wpAny (model prog w) A (call (.type "zip") (xts.map fun p => Value.str p.1 p.2)) Q E s := by
  have hl : Side (xts.map fun p => Value.str p.1 p.2).length := by
    have z := T.side
    rw [List.length_map] at z ⊢
    exact z
  have h16 : xts.length ≤ 16 := by
    have z := T.side
    rw [List.length_map] at z
    unfold Side at z
    omega
  refine callType_new F.called_zip (by decide) (typeCall_zip _) (newCall_zip hl) (fun obj => args_initN _ obj) F.entry_zip_new (zip_new xts) ⟨⟨fun p hp => T.asc _ (List.mem_map.mpr ⟨p, hp, rfl⟩), by omega⟩, fun its h' e1 e2 hI g1 g2 g3 hk hs => ?_⟩
  show _ ∧ _
  exact ⟨⟨_, g3, rfl⟩, h its h' e1 e2 ⟨.none, false, _, .inl rfl, g3, g1, g2, by simp, hI⟩ hk⟩
end
def iZipS (K : PySem.W.Frag) (te : TE) : TI := fun σ H R => te σ H fun x H1 => ∃ a xs, x = V.ref a ∧ (SqT K H1 a (xs.map V.str) ∨ SqL K H1 a (xs.map V.str)) ∧ Txs xs ∧ R (Itx xs) H1
/-- for nm in zip(*e) -/
theorem pi_zipS {X : Cx} {e : Expr} {te : TE} {sp p pos tpos : Pos} {nm : Str} (hg : Gl X "zip") (hm : X.mg "zip" = none) (he : PE X e te) (hs : starEach [.Starred e sp] X.env = [(true, eval e X.env)] := by rfl) :
    PI X (.Name nm tpos) (.Call (.Name "zip" p) [.Starred e sp] [] pos) (iZipS X.K te) := by
  refine ⟨fun pins s σ H R I h => ?_⟩
  refine Call_ (ld_blt I hg hm PyProof.Rows.boot_zip (callWith_typeS (thn (he.run pins s σ H _ I h) fun v s1 ⟨y, H1, I1, ry, a, xs, ey, hx, T, q⟩ => ?_) hs))
  subst ey
  obtain rfl : v = Value.ref a := ry
  refine StX.star_any I1 hx fun us s2 I2 rv => ?_
  obtain ⟨l, e1, e2⟩ := vals_strs rv
  subst e2
  refine call_zipN (e1 ▸ T) fun its h' i1 i2 st hk => ?_
  have hz' := st
  obtain ⟨_, _, _, _, hz, hTI, hTO, _, hI⟩ := hz'
  refine pyIter_zipN hz ?_
  have I3 : Inv X pins σ H1 { s2 with heap := h' } := I2.kept (t' := s2.toks) hk
  have hl : its.length = l.length := by
    have z := congrArg List.length i1
    rwa [List.length_map] at z
  have h16 : 10 ≤ l.length ∧ l.length ≤ 16 := by
    have z := T.side
    rw [← e1, List.length_map] at z
    unfold Side at z
    omega
  have mem : ∀ b, b ∈ its.map (·.1) → s2.heap.objs.size ≤ b ∧ b < s2.heap.objs.size + l.length := fun b hb => by
    rw [i2] at hb
    obtain ⟨j, hj, e⟩ := List.mem_map.mp hb
    have := List.mem_range.mp hj
    omega
  have D : ZAp (s2.heap.objs.size + l.length + 2) (s2.heap.objs.size + l.length) (s2.heap.objs.size + l.length + 1) its := by
    refine ⟨show (_ : Nat) ≠ _ by omega, show (_ : Nat) ≠ _ by omega, show (_ : Nat) ≠ _ by omega, ?_, fun z => by have := mem _ z; omega, fun z => by have := mem _ z; omega, fun z => by have := mem _ z; omega, fun z => by rw [z] at hl; simp at hl; omega, by omega⟩
    rw [i2]
    exact List.Pairwise.map _ (fun a b h z => h (by have z : (_ : Nat) = _ := z; omega)) (show List.Pairwise _ _ from List.nodup_range)
  have exs : its.map (fun p => p.2.1) = xs := by
    rw [← e1, ← i1, List.map_map]
    rfl
  refine ⟨_, _, _, _, H1, rfl, I3, turn_zipN D exs, st, fun b hb => ?_, q⟩
  have hle : s2.heap.objs.size ≤ b := by
    unfold zFp at hb
    rcases List.mem_cons.mp hb with z | hb
    · rw [z]
      show (_ : Nat) ≤ _
      omega
    rcases List.mem_cons.mp hb with z | hb
    · rw [z]
      show (_ : Nat) ≤ _
      omega
    rcases List.mem_cons.mp hb with z | hb
    · rw [z]
      show (_ : Nat) ≤ _
      omega
    · exact (mem b hb).1
  exact I2.fpOk hle (I2.hok.fresh hle)
end Sq

/-! loops over texts: the text itself, enumerate of it, enumerate of a tuple as a loop, zip(*texts) in a comprehension -/
namespace Sq
open PySem PySem.Spec PyProof.Rows L2 Evl
def Itse (x : Str) : It :=
  ⟨fun i _ => i < x.cps.size, fun i H v H' => ∃ T c, v = .ref T ∧ H T = none ∧ H' = upd H T (.tup [.int (i : Nat), .str ⟨#[c]⟩]) ∧ x.cps[i]? = some c, fun i _ => x.cps.size = i⟩
theorem turn_enumS {P : Program} {w : World} {K : PySem.W.Frag} {elts : List Expr} {kk : Nat} {tpos : Pos} (x : Str) (t : Tok) (e it : Addr) :
    Turn P w K (.Tuple elts kk tpos) (Itse x) [e, it] e (fun i h => (∃ old, IsEnum h e it ((i : Nat) : Int) old) ∧ h.IsStrIter it "str_ascii_iterator" x t i ∧ e ≠ it) where
  mem := by simp
  obj := fun i h ⟨⟨old, he⟩, ⟨o, ho, hc, hd⟩, _⟩ b hb => by
    have z : b = e ∨ b = it := by simpa using hb
    rcases z with rfl | rfl
    · exact ⟨_, he, fun v q => nomatch q⟩
    · exact ⟨o, ho, fun v q => by rw [hd] at q; cases q⟩
  keep := fun i h h' ⟨⟨old, he⟩, ⟨o, ho, r⟩, hne⟩ k => ⟨⟨old, k e (by simp) _ he⟩, ⟨o, k it (by simp) _ ho, r⟩, hne⟩
  item := by
    intro X hP hw hK hc i pins s σ H E I hf ⟨⟨old, he⟩, hit, hne⟩ hlt
    subst hP hw hK
    have hel : e < s.heap.objs.size := Heap.lt_size he
    have hil : it < s.heap.objs.size := by obtain ⟨_, q, _⟩ := hit; exact Heap.lt_size q
    have D : Draws X.prog X.w X.A.in1 it [it] x.cps.size (fun i v => ∃ c u, x.cps[i]? = some c ∧ v = .str ⟨#[c]⟩ u) (fun i h => h.IsStrIter it "str_ascii_iterator" x t i) := Draws.strAscii (A := X.A.in1) (I.ok.hd hc) it x t
    have eN : e ∉ [it] := by
      simp only [List.mem_cons, List.not_mem_nil, or_false]
      exact hne
    refine wpAny_pyNext_enum_itemC D he hit hlt hne eN fun y h' tk hy ho hz' hT hsz hk => ?_
    obtain ⟨c, u, hcx, ey⟩ := hy
    subst ey
    refine ⟨_, rfl, wpAny_letOwnedTupleGo_enum (s := { s with heap := h', toks := tk + 1 }) ho fun h'' he' sb => ?_⟩
    have hT2 : h''.get? s.heap.objs.size = some { cls := .type "tuple", data := .seq #[.int i tk, .str ⟨#[c]⟩ u] } := (sb.2 _ (Nat.ne_of_gt hel)).trans hT
    have new : ObjOk X.prog X.w (upd H s.heap.objs.size (.tup [.int (i : Nat), .str ⟨#[c]⟩])) h'' s.heap.objs.size (.tup [.int (i : Nat), .str ⟨#[c]⟩]) :=
      ⟨by show 2 ≤ sizeLine; decide, [.int i tk, .str ⟨#[c]⟩ u], .cons ⟨_, rfl⟩ (.cons ⟨_, rfl⟩ .nil), ⟨_, hT2, rfl, _, rfl⟩⟩
    have I1 : Inv X pins σ (upd H s.heap.objs.size (.tup [.int (i : Nat), .str ⟨#[c]⟩])) { s with heap := h'', toks := tk + 1 } :=
      I.turnedNew (ch := [e, it]) (fun b ob hb q => (sb.2 b (fun z => hb (by simp [z]))).trans (hk b ob (fun z => hb (by simp [z])) (fun z => hb (by simp [z])) q)) hf (Nat.le_refl _) new
    refine ⟨.ref s.heap.objs.size, _, I1, rfl, ⟨_, c, rfl, I.hok.fresh (Nat.le_refl _), rfl, hcx⟩, ⟨⟨.str ⟨#[c]⟩ u, ?_⟩, let ⟨o, q, r⟩ := hz'; ⟨o, (sb.2 it (Ne.symm hne)).trans q, r⟩, hne⟩, fun b hb => ?_⟩
    · have e1 : ((i + 1 : Nat) : Int) = (i : Int) + 1 := by omega
      rw [e1]
      exact he'
    · have hb' : b < s.heap.objs.size := by
        have z : b = e ∨ b = it := by simpa using hb
        rcases z with rfl | rfl <;> assumption
      rw [upd_ne (Nat.ne_of_lt hb')]
      exact (hf b hb).1
  done := by
    intro X hP hw hK hc i pins s σ H E I hf ⟨⟨old, he⟩, hit, hne⟩ hx
    subst hP hw hK
    have hlen : x.cps.size = i := hx
    have D : Draws X.prog X.w X.A.in1 it [it] x.cps.size (fun i v => ∃ c u, x.cps[i]? = some c ∧ v = .str ⟨#[c]⟩ u) (fun i h => h.IsStrIter it "str_ascii_iterator" x t i) := Draws.strAscii (A := X.A.in1) (I.ok.hd hc) it x t
    obtain ⟨f0, f1, f2, f3, f4, f5⟩ := hf it (by simp)
    exact next_end D he rfl (hlen ▸ hit) fun k' hk => ⟨rfl, I.turned (t' := s.toks) (fun b o hb q => hk b o hb q) f0 f1 f3 f4 f5⟩
  self := fun A i s Q E st h => let ⟨⟨_, he⟩, _⟩ := st; wpAny_pyIter_enum he h
def iEnumS (ta : TA) : TI := fun σ H R => ta σ H fun vs H1 => ∃ x, vs = [.str x] ∧ x.cps.all (· < 128) = true ∧ R (Itse x) H1
theorem pi_enumS {X : Cx} {e : Expr} {ta : TA} {p pos tpos : Pos} {elts : List Expr} {kk : Nat} (hg : Gl X "enumerate") (hm : X.mg "enumerate" = none) (ha : PA X [e] ta) (hs : starEach [e] X.env = [(false, eval e X.env)] := by rfl) :
    PI X (.Tuple elts kk tpos) (.Call (.Name "enumerate" p) [e] [] pos) (iEnumS ta) := by
  refine ⟨fun pins s σ H R I h => ?_⟩
  refine Call_ (ld_blt I hg hm boot_enumerate (PyProof.Rows.callWith_type1 (thn (ha.run pos pins s σ H _ I h) fun us s1 ⟨vs, H1, I1, r1, q1⟩ => ?_) hs rfl))
  obtain ⟨x, ex, hasc, q⟩ := q1
  subst ex
  obtain ⟨u, rfl, r⟩ := vals1 r1
  obtain ⟨t, rfl⟩ := r
  refine enum1_begins (begins_text x t) trivial fun k' hE hI hsz hk => wpAny_pyIter_enum hE ?_
  have I2 : Inv X pins σ H1 { s1 with heap := k' } := I1.kept (t' := s1.toks) hk
  have ty : strIterType x = "str_ascii_iterator" := by
    unfold strIterType
    rw [hasc]
    rfl
  rw [ty] at hI
  refine ⟨s1.heap.objs.size + 1, [s1.heap.objs.size + 1, s1.heap.objs.size], _, _, H1, rfl, I2, turn_enumS x t (s1.heap.objs.size + 1) s1.heap.objs.size, ⟨⟨.none, hE⟩, ⟨_, hI, rfl, rfl⟩, Nat.succ_ne_self _⟩, fun b hb => ?_, q⟩
  have z : b = s1.heap.objs.size + 1 ∨ b = s1.heap.objs.size := by simpa using hb
  have hle : s1.heap.objs.size ≤ b := by
    rcases z with rfl | rfl
    · exact Nat.le_succ _
    · exact Nat.le_refl _
  exact I1.fpOk hle (I1.hok.fresh hle)
/-- a line as a text -/
abbrev txt (l : List Nat) : Str := ⟨l.toArray⟩
/-- its signs, one by one -/
def sgn (c : Nat) : V := .str ⟨#[c]⟩
theorem walk_str (l : List Nat) : Walk (L2.Its (txt l)) l.length (fun _ => True) (YAt (l.map sgn)) where
  goes := fun i H hi _ => by
    show i < l.toArray.size
    simpa using hi
  stops := fun H _ => by
    show l.toArray.size ≤ l.length
    simp
  yields := fun i H x H' hi _ h => by
    obtain ⟨e, c, hc, rfl⟩ := h
    refine ⟨e, ?_⟩
    have hc : l.toArray[i]? = some c := hc
    rw [List.getElem?_toArray] at hc
    rw [List.getElem?_map, hc]
    rfl
def YEn (l : List V) : Nat → Hp → V → Hp → Prop := fun i H v H' => ∃ T x, v = .ref T ∧ H T = none ∧ H' = upd H T (.tup [.int (i : Nat), x]) ∧ l[i]? = some x
theorem walk_enS (l : List Nat) : Walk (Itse (txt l)) l.length (fun _ => True) (YEn (l.map sgn)) where
  goes := fun i H hi _ => by
    show i < l.toArray.size
    simpa using hi
  stops := fun H _ => by
    show l.toArray.size = l.length
    simp
  yields := fun i H x H' hi _ h => by
    obtain ⟨T, c, e1, e2, e3, hc⟩ := h
    refine ⟨T, _, e1, e2, e3, ?_⟩
    have hc : l.toArray[i]? = some c := hc
    rw [List.getElem?_toArray] at hc
    rw [List.getElem?_map, hc]
    rfl
theorem walk_enT {K : PySem.W.Frag} (a : Addr) (xs : List V) : Walk (Itet K a) xs.length (fun H => SqT K H a xs) (YEn xs) where
  goes := fun i H hi h => ⟨xs, xs[i], h, List.getElem?_eq_getElem hi⟩
  stops := fun H h => ⟨xs, h, rfl⟩
  yields := fun i H x H' hi g h => by
    obtain ⟨T, y, e1, e2, e3, hc⟩ := h
    exact ⟨T, y, e1, e2, e3, hc xs g⟩
theorem walk_zipS (ls : List (List Nat)) (n : Nat) (hl : ∀ l ∈ ls, l.length = n) : Walk (Itx (ls.map txt)) n (fun _ => True) (fun i H v H' => ∃ T, v = .ref T ∧ H T = none ∧ H' = upd H T (.tup (ls.map fun l => sgn (l.getD i 0)))) where
  goes := fun i H hi _ => fun x hx => by
    obtain ⟨l, hm, rfl⟩ := List.mem_map.mp hx
    show i < l.toArray.size
    rw [List.size_toArray, hl l hm]
    exact hi
  stops := fun H _ => fun x hx => by
    obtain ⟨l, hm, rfl⟩ := List.mem_map.mp hx
    show l.toArray.size ≤ n
    rw [List.size_toArray, hl l hm]
    exact Nat.le_refl _
  yields := fun i H x H' hi _ h => by
    obtain ⟨T, e1, e2, e3⟩ := h
    refine ⟨T, e1, e2, ?_⟩
    rw [e3]
    unfold colS
    rw [List.map_map]
    have e : (List.map ((fun x : Str => V.str ⟨#[(x.cps[i]?).getD 0]⟩) ∘ txt) ls) = (ls.map fun l => sgn (l.getD i 0)) := List.map_congr_left fun l _ => by
      show V.str ⟨#[(l.toArray[i]?).getD 0]⟩ = sgn (l.getD i 0)
      rw [List.getElem?_toArray, List.getD_eq_getElem?_getD]
      rfl
    rw [e]
section
variable {K : PySem.W.Frag} {σ : L2.St} {H : Hp} {ta tb te tl : TE} {tA : TA} {D : Ends} {tu tz : TS} {xs : List V} {t : TT}
/-- for c in text -/
theorem s_forS {l : List Nat} {j : Nat} (h : Ev tl σ H (.str (txt l))) (Pv : Nat → L2.St → Hp → Prop) (h0 : ∀ H1, Ex H H1 → Pv 0 σ H1)
    (hs : ∀ i c σ' H', l[i]? = some c → Pv i σ' H' → tu { D with nx := Pv (i + 1), ct := Pv (i + 1), bk := D.nx } (σ'.set j (some (sgn c))) H') (hd : ∀ σ' H', Pv l.length σ' H' → D.nx σ' H') : tFor (iStr tl) (gName j) tu D σ H :=
  h H (Ex.refl H) _ fun H1 e => ⟨_, rfl, for_it (walk_str l) Pv (h0 H1 e) (fun _ _ _ _ _ => trivial) (fun i x σ' H' H'' hi p y => by
    obtain ⟨rfl, hx⟩ := y
    rw [List.getElem?_map] at hx
    cases hc : l[i]? with
    | none => rw [hc] at hx; cases hx
    | some c =>
      rw [hc] at hx
      cases hx
      exact hs i c σ' _ hc p) hd⟩
theorem q_forS {l : List Nat} {j : Nat} (h : Ev tl σ H (.str (txt l))) (Pv : Nat → L2.St → Hp → Prop) (h0 : ∀ H1, Ex H H1 → Pv 0 σ H1)
    (hs : ∀ i c σ' H', l[i]? = some c → Pv i σ' H' → tu { D with nx := Pv (i + 1), ct := Pv (i + 1), bk := tz D } (σ'.set j (some (sgn c))) H') (hd : ∀ σ' H', Pv l.length σ' H' → tz D σ' H') : tSeq (tFor (iStr tl) (gName j) tu) tz D σ H :=
  s_forS (D := { D with nx := tz D }) h Pv h0 hs hd
/-- for i, c in enumerate(text) -/
theorem s_forES {l : List Nat} {i j : Nat} (h : EvA tA σ H [.str (txt l)]) (ha : ∀ c ∈ l, c < 128) (Pv : Nat → L2.St → Hp → Prop) (h0 : ∀ H1, Ex H H1 → Pv 0 σ H1)
    (hs : ∀ (n : Nat) c T σ' H', l[n]? = some c → Pv n σ' H' → H' T = none → tu { D with nx := Pv (n + 1), ct := Pv (n + 1), bk := D.nx } ((σ'.set i (some (.int (n : Int)))).set j (some (sgn c))) (upd H' T (.tup [.int (n : Int), sgn c]))) (hd : ∀ σ' H', Pv l.length σ' H' → D.nx σ' H') :
    tFor (iEnumS tA) (gTup K 2 (gCons (gName i) (gCons (gName j) gNil))) tu D σ H := h H (Ex.refl H) _ fun H1 e => ⟨_, rfl, by simpa using ha, for_it (walk_enS l) Pv (h0 H1 e) (fun _ _ _ _ _ => trivial) (fun n x σ' H' H'' hi p y => by
    obtain ⟨T, y, rfl, hT, rfl, hx⟩ := y
    rw [List.getElem?_map] at hx
    cases hc : l[n]? with
    | none => rw [hc] at hx; cases hx
    | some c =>
      rw [hc] at hx
      cases hx
      exact ⟨T, _, rfl, st_of upd_same, rfl, _, _, rfl, _, _, rfl, rfl, hs n c T σ' H' hc p hT⟩) hd⟩
/-- for i, x in enumerate(tuple) -/
theorem s_forET {a : Addr} {i j : Nat} (h : EvA tA σ H [.ref a]) (hx : SqT K H a xs) (Pv : Nat → L2.St → Hp → Prop) (h0 : ∀ H1, Ex H H1 → Pv 0 σ H1) (hl : ∀ n σ' H', Pv n σ' H' → SqT K H' a xs)
    (hs : ∀ (n : Nat) x T σ' H', xs[n]? = some x → Pv n σ' H' → H' T = none → tu { D with nx := Pv (n + 1), ct := Pv (n + 1), bk := D.nx } ((σ'.set i (some (.int (n : Int)))).set j (some x)) (upd H' T (.tup [.int (n : Int), x]))) (hd : ∀ σ' H', Pv xs.length σ' H' → D.nx σ' H') :
    tFor (iEnumT K tA) (gTup K 2 (gCons (gName i) (gCons (gName j) gNil))) tu D σ H := h H (Ex.refl H) _ fun H1 e => ⟨a, xs, rfl, ex_t e hx, for_it (walk_enT a xs) Pv (h0 H1 e) (fun n σ' H' _ p => hl n σ' H' p) (fun n x σ' H' H'' hi p y => by
    obtain ⟨T, y, rfl, hT, rfl, hx⟩ := y
    exact ⟨T, _, rfl, st_of upd_same, rfl, _, _, rfl, _, _, rfl, rfl, hs n y T σ' H' hx p hT⟩) hd⟩
/-- [.. for c in zip(*texts)], the texts of a tuple -/
theorem el_lcZS {a : Addr} {ls : List (List Nat)} {n j : Nat} {vs : List Nat} (v : Nat → V) (h : Ev te σ H (.ref a)) (hx : SqT K H a ((ls.map txt).map V.str)) (T : Txs (ls.map txt)) (hl : ∀ l ∈ ls, l.length = n) (hn : n ≤ 1000)
    (hw : ∀ x, wipe ((wipe σ vs).set j (some x)) vs = wipe σ vs)
    (he : ∀ (i : Nat) (p : Addr) H1, Ex H H1 → i < n → SqT K H1 p (ls.map fun l => sgn (l.getD i 0)) → Ev tb ((wipe σ vs).set j (some (.ref p))) H1 (v i)) :
    EvL (tLc (iZipS K te) (gName j) tYes tb vs) σ H (given n (fun _ => true) v) := fun H0 e Q q => h H0 e _ fun H1 e1 => ⟨a, _, rfl, .inl (ex_t (e.trans e1) hx), T, fun Dl hD =>
  lc_it (walk_zipS ls n hl) (Cw H1 (fun _ => true) v Dl) ⟨hD, Ex.new hD, upd_same⟩ (fun _ _ _ _ => trivial) (fun i x H2 H3 hi p y => by
    obtain ⟨p2, rfl, hp2, rfl⟩ := y
    have ne : p2 ≠ Dl := fun z => by
      rw [z, p.2.2] at hp2
      cases hp2
    have p3 : Cw H1 (fun _ => true) v Dl i (upd H2 p2 (.tup (ls.map fun l => sgn (l.getD i 0)))) := ⟨p.1, p.2.1.trans (Ex.new hp2), by rw [upd_ne (Ne.symm ne)]; exact p.2.2⟩
    refine ⟨hw _, ?_⟩
    show tb _ _ _
    exact he i p2 _ ((e.trans e1).trans p3.2.1) hi (st_of upd_same) _ (Ex.refl _) _ fun H4 e4 => ⟨given i (fun _ => true) v, e4 Dl _ p3.2.2, sz_lt (by have := given_len i (fun _ => true) v; omega), p3.1, Ex.mut (p3.2.1.trans e4) p3.1, by rw [given_yes rfl]; exact upd_same⟩) (fun H' p => q Dl H' (fresh_back e1 p.1) (e1.trans p.2.1) p.2.2)⟩
end
end Sq

/-! images: penalties of lines -/
namespace Sq
open PySem PySem.Spec PyProof.Rows L2 Evl
/-- a thing that is walked, one way or another -/
def iEither (w1 w2 : TI) : TI := fun σ H R => w1 σ H R ∨ w2 σ H R
theorem pi_either {X : Cx} {tg e : Expr} {w1 w2 : TI} (h1 : PI X tg e w1) (h2 : PI X tg e w2) : PI X tg e (iEither w1 w2) :=
  ⟨fun pins s σ H R I h => h.elim (h1.run pins s σ H R I) (h2.run pins s σ H R I)⟩
section
variable {D : Ends} {tz tu : TS} {w1 w2 : TI} {g : TG} {σ : L2.St} {H : Hp}
theorem q_either1 (h : tSeq (tFor w1 g tu) tz D σ H) : tSeq (tFor (iEither w1 w2) g tu) tz D σ H := .inl h
theorem q_either2 (h : tSeq (tFor w2 g tu) tz D σ H) : tSeq (tFor (iEither w1 w2) g tu) tz D σ H := .inr h
end
structure PenS where
  tot : Nat
  len : Nat
  prev : Option Nat
def penStep (s : PenS) (c : Nat) : PenS :=
  let n := if s.prev = some c then s.len + 1 else 1
  ⟨s.tot + (if 3 < n then 1 else 0), n, some c⟩
def penAt (l : List Nat) (i : Nat) : PenS := (l.take i).foldl penStep ⟨0, 0, none⟩
def pen (l : List Nat) : Nat := (l.foldl penStep ⟨0, 0, none⟩).tot
theorem penAt_0 (l : List Nat) : penAt l 0 = ⟨0, 0, none⟩ := rfl
theorem penAt_s {l : List Nat} {i c : Nat} (h : l[i]? = some c) : penAt l (i + 1) = penStep (penAt l i) c := by
  unfold penAt
  rw [List.take_add_one, h, List.foldl_append]
  rfl
theorem penAt_all (l : List Nat) : (penAt l l.length).tot = pen l := by
  unfold penAt pen
  rw [List.take_length]
def preV : Option Nat → V
  | none => .non
  | some c => sgn c
theorem sgn_pre {c : Nat} {p : Option Nat} : (sgn c = preV p) ↔ p = some c := by
  cases p with
  | none =>
    constructor
    · intro h
      unfold preV sgn at h
      cases h
    · intro h
      cases h
  | some d =>
    constructor
    · intro h
      have h : V.str ⟨#[c]⟩ = V.str ⟨#[d]⟩ := h
      injection h with h
      injection h with h
      have z := congrArg Array.toList h
      have z : [c] = [d] := z
      injection z with z _
      rw [z]
    · intro h
      cases h
      rfl
theorem scal_pre {c : Nat} {p : Option Nat} : scal (sgn c) (preV p) = true := by
  cases p <;> rfl
theorem pen_len (p : PenS) (c : Nat) : (if decide (sgn c = preV p.prev) = true then ((p.len : Nat) : Int) + 1 else 1) = (((penStep p c).len : Nat) : Int) := by
  unfold penStep
  by_cases h : p.prev = some c
  · rw [if_pos (by simp [sgn_pre, h])]
    simp [h]
  · rw [if_neg (by simp [sgn_pre, h])]
    simp [h]
theorem pen_tot1 {p : PenS} {c : Nat} (h : 3 < (penStep p c).len) : ((p.tot : Nat) : Int) + 1 = (((penStep p c).tot : Nat) : Int) := by
  have e : (penStep p c).tot = p.tot + (if 3 < (penStep p c).len then 1 else 0) := rfl
  rw [e, if_pos h]
  omega
theorem pen_tot0 {p : PenS} {c : Nat} (h : ¬ 3 < (penStep p c).len) : (penStep p c).tot = p.tot := by
  have e : (penStep p c).tot = p.tot + (if 3 < (penStep p c).len then 1 else 0) := rfl
  rw [e, if_neg h]
  omega
def LineV (K : PySem.W.Frag) (H : Hp) (v : V) (l : List Nat) : Prop := v = .str (txt l) ∨ ∃ p, v = .ref p ∧ SqT K H p (l.map sgn)
def spPen (K : PySem.W.Frag) : Sp := fun vs H Q _ => ∃ (v : V) (l : List Nat), vs = [v] ∧ LineV K H v l ∧ RetV (.int (pen l : Nat)) H Q
theorem LineV.ex {K : PySem.W.Frag} {H H' : Hp} {v : V} {l : List Nat} (h : LineV K H v l) (e : Ex H H') : LineV K H' v l := by
  rcases h with h | ⟨p, h, q⟩
  · exact .inl h
  · exact .inr ⟨p, h, ex_t e q⟩
theorem spv_pen {K : PySem.W.Frag} {H : Hp} {v : V} {l : List Nat} (h : LineV K H v l) : SpV (spPen K) [v] H (.int (pen l : Nat)) := fun H1 e _ q _ => ⟨v, l, rfl, h.ex e, q⟩
end Sq

/-! texts turned round, joined, measured; sums of new lists -/
namespace Sq
open PySem PySem.Spec PyProof.Rows L2 Evl
theorem pick_in (l : List Nat) : ∀ ks : List Nat, (∀ k ∈ ks, k < l.length) → ks.filterMap (l.toArray[·]?) = ks.map fun k => l.getD k 0
  | [], _ => rfl
  | k :: ks, h => by
    have hk := h k List.mem_cons_self
    have e : l.toArray[k]? = some (l.getD k 0) := by
      rw [List.getElem?_toArray, List.getD_eq_getElem?_getD, List.getElem?_eq_getElem hk]
      rfl
    rw [List.filterMap_cons_some e, List.map_cons, pick_in l ks fun j hj => h j (List.mem_cons_of_mem _ hj)]
theorem pick_rev (l : List Nat) : (((List.range l.length).map fun k => l.length - 1 - k).filterMap (l.toArray[·]?)) = l.reverse := by
  rw [pick_in l _ fun k hk => by
    obtain ⟨j, hj, rfl⟩ := List.mem_map.mp hk
    have := List.mem_range.mp hj
    omega]
  rw [List.map_map]
  refine List.ext_getElem? fun i => ?_
  by_cases hi : i < l.length
  · rw [List.getElem?_map, List.getElem?_range hi, List.getElem?_reverse hi]
    show some (l.getD (l.length - 1 - i) 0) = _
    rw [List.getD_eq_getElem?_getD, List.getElem?_eq_getElem (show l.length - 1 - i < l.length by omega)]
    rfl
  · rw [List.getElem?_eq_none (by simp; omega), List.getElem?_eq_none (by simp; omega)]
def tRevS (te : TE) : TE := fun σ H Q => te σ H fun x H1 => ∃ l, x = .str (txt l) ∧ l.length ≤ 100000 ∧ Q (.str (txt l.reverse)) H1
section
variable {X : Cx}
theorem pe_revS {e : Expr} {te : TE} {k : Nat} {p1 p2 p3 pos : Pos} (he : PE X e te) : PE X (.Subscript e (.Slice none none (some (.UnaryOp .USub (.Constant (.int 1) k p1) p2)) p3) pos) (tRevS te) := by
  refine ⟨fun pins s σ H Q I h => ?_⟩
  refine Subscript_ (thn (he.run pins s σ H _ I h) fun v s1 ⟨x, H1, I1, r1, q1⟩ => ?_)
  obtain ⟨z, ex, hz, q⟩ := q1
  subst ex
  obtain ⟨t, rfl⟩ := r1
  have hst : PO X (some (.UnaryOp .USub (.Constant (.int 1) k p1) p2)) (tPart (tUn (rU fun i => .int (-i)) (tC (.int 1)))) := po_some (pe_un un_neg pe_int)
  refine wpAny_Slice (thn (po_none.run pins s1 σ H1 (fun o H2 => o = none ∧ H2 = H1) I1 ⟨rfl, rfl⟩) fun vl s2 ⟨l, H2, I2, pl, el, e2⟩ => ?_)
  subst el e2
  refine thn (po_none.run pins s2 σ H2 (fun o H3 => o = none ∧ H3 = H2) I2 ⟨rfl, rfl⟩) fun vu s3 ⟨u, H3, I3, pu, eu, e3⟩ => ?_
  subst eu e3
  refine thn (hst.run pins s3 σ H3 (fun o H4 => o = some (-1) ∧ H4 = H3) I3 ⟨1, rfl, -1, rfl, rfl, rfl⟩) fun vs s4 ⟨o, H4, I4, ps, eo, e4⟩ => ?_
  subst eo e4
  have I5 : Inv X pins σ H4 { s4 with heap := s4.heap.push { cls := .type "slice", data := .fields #[vl, vu, vs] } } := I4.kept (t' := s4.toks) fun b ob q => Heap.get?_push_of_some _ q
  show wpAny (model X.prog X.w) X.A (subscriptTail e (.Slice none none (some (.UnaryOp .USub (.Constant (.int 1) k p1) p2)) p3) (.str (txt z) t) (.ref s4.heap.objs.size)) (EP X pins σ Q) X.xe { s4 with heap := s4.heap.push { cls := .type "slice", data := .fields #[vl, vu, vs] } }
  refine tail_any (ops := [.str (txt z) t, .ref s4.heap.objs.size]) (typeIs_str _ _ _) (F.slot_str_getitem.lookup) ?_ (by with_unfolding_all rfl)
  obtain ⟨l, rfl, hl⟩ := IsPart.raw pl
  obtain ⟨u, rfl, hu⟩ := IsPart.raw pu
  obtain ⟨st, rfl, hst'⟩ := IsPart.raw ps
  refine wpAny_getItem_str_slice (l := l) (u := u) (st := st) ⟨_, Heap.get?_push_size _ rfl, rfl, rfl⟩ (by rw [hst']; rfl) ?_
  have hlen : z.toArray.size = z.length := by simp
  have hp : Builtin.Str.strSliceIndices (l.map (·.1)) (u.map (·.1)) ((st.map (·.1)).getD 1) (txt z).length = (List.range z.length).map fun k => z.length - 1 - k := by
    rw [hl, hu, hst']
    show sliceRange (((txt z).length : Int) - 1) (-1) (-1) = _
    have e : (txt z).length = z.length := hlen
    rw [e]
    exact PySem.W.krv_sliceRange z.length
  unfold sliceMade slicePicked
  rw [hp, hst']
  show Made.post (if ((-1 : Int) == 1 && _) = true then _ else Made.str ⟨(((List.range z.length).map fun k => z.length - 1 - k).filterMap (z.toArray[·]?)).toArray⟩) (EP X pins σ Q) _
  rw [if_neg (by simp), pick_rev]
  exact ⟨sz_of (by show (z.reverse.toArray).size ≤ 100000; simpa using hz), .str _, _, I5.tok _, ⟨_, rfl⟩, q⟩
end
theorem joinL_nil : ∀ ys : List (List Nat), TL.joinL [] ys = ys.flatten
  | [] => rfl
  | [p] => by
    show p = [p].flatten
    simp
  | p :: q :: r => by
    show p ++ ([] ++ TL.joinL [] (q :: r)) = _
    rw [joinL_nil (q :: r)]
    simp
theorem join_txt (ys : List (List Nat)) : Txt.join (txt []) (ys.map txt) = txt ys.flatten := by
  have z := SX.join_S [] ys
  rw [joinL_nil] at z
  exact z
section
variable {K : PySem.W.Frag} {σ : L2.St} {H : Hp} {ta tb te tl : TE}
theorem ev_revS {l : List Nat} (h : Ev te σ H (.str (txt l))) (hl : l.length ≤ 100000) : Ev (tRevS te) σ H (.str (txt l.reverse)) := fun H1 e _ q => h H1 e _ fun H2 e2 => ⟨l, rfl, hl, q H2 e2⟩
abbrev rJoin (K : PySem.W.Frag) : V → List V → Hp → VK → Prop := fun x xs H Q => ∃ a p, ∃ ys : List Str, x = .str a ∧ xs = [.ref p] ∧ (SqL K H p (ys.map V.str) ∨ SqT K H p (ys.map V.str)) ∧ (ys.map (·.length)).sum + ys.length * a.length ≤ 16777216 ∧ Q (.str (Txt.join a ys)) H
theorem len_sum : ∀ ys : List (List Nat), ((ys.map txt).map (·.length)).sum = ys.flatten.length
  | [] => rfl
  | y :: ys => by
    rw [List.map_cons, List.map_cons, List.sum_cons, len_sum ys, List.flatten_cons, List.length_append]
    have e : (txt y).length = y.length := by
      show y.toArray.size = y.length
      simp
    rw [e]
theorem ev_joinL {a : Str} {ys : List (List Nat)} (ha : a = txt []) (h : EvL te σ H ((ys.map txt).map V.str)) (hl : ys.flatten.length ≤ 100000) : Ev (tM1 (rJoin K) (tC (.str a)) te) σ H (.str (txt ys.flatten)) := fun H1 e _ q => ⟨⟨a, rfl⟩, h H1 e _ fun p H2 hp e2 h2 => ⟨a, p, ys.map txt, rfl, rfl, .inl (sq_of h2), by
  rw [len_sum, ha]
  show ys.flatten.length + (ys.map txt).length * 0 ≤ 16777216
  omega, by
  rw [ha, join_txt]
  exact q H2 e2⟩⟩
theorem ev_joinT {a : Str} {ys : List (List Nat)} {p : Addr} (ha : a = txt []) (h : Ev te σ H (.ref p)) (hp : SqT K H p ((ys.map txt).map V.str)) (hl : ys.flatten.length ≤ 100000) : Ev (tM1 (rJoin K) (tC (.str a)) te) σ H (.str (txt ys.flatten)) := fun H1 e _ q => ⟨⟨a, rfl⟩, h H1 e _ fun H2 e2 => ⟨a, p, ys.map txt, rfl, rfl, .inr (ex_t (e.trans e2) hp), by
  rw [len_sum, ha]
  show ys.flatten.length + (ys.map txt).length * 0 ≤ 16777216
  omega, by
  rw [ha, join_txt]
  exact q H2 e2⟩⟩
theorem sgn_map (l : List Nat) : l.map sgn = ((l.map fun c => [c]).map txt).map V.str := by
  rw [List.map_map, List.map_map]
  rfl
theorem sgn_flat (l : List Nat) : (l.map fun c => [c]).flatten = l := by
  induction l with
  | nil => rfl
  | cons c l ih => rw [List.map_cons, List.flatten_cons, ih]; rfl
theorem ev_sum {ns : List Int} (h : EvL te σ H (ns.map V.int)) : Ev (tCB (rSum K) (tCons te tNil)) σ H (.int ns.sum) := fun H1 e _ q => h H1 e _ fun p H2 hp e2 h2 => ⟨p, ns, rfl, sq_of h2, q H2 e2⟩
theorem ev_lenS {l : List Nat} (h : Ev te σ H (.str (txt l))) (hl : l.length ≤ 100000) : Ev (tCB (fun xs H Q => ∃ z, xs = [.str z] ∧ z.length ≤ sizeLine ∧ Q (.int z.length) H) (tCons te tNil)) σ H (.int (l.length : Nat)) := fun H1 e Q q => h H1 e _ fun H2 e2 => ⟨txt l, rfl, sz_of (by show l.toArray.size ≤ 100000; simpa using hl), by
  have z : (((txt l).length : Nat) : Int) = (l.length : Nat) := by
    show ((l.toArray.size : Nat) : Int) = _
    simp
  show Q (.int ((txt l).length : Nat)) H2
  rw [z]
  exact q H2 e2⟩
end
/-! ### images -/
structure ImgOk (m : List (List Nat)) : Prop where
  side : Side m.length
  row : ∀ l ∈ m, l.length = m.length
  cell : ∀ l ∈ m, ∀ c ∈ l, c = 35 ∨ c = 46 ∨ c = 63
abbrev imgV (m : List (List Nat)) : List V := (m.map txt).map V.str
theorem ImgOk.txs {m : List (List Nat)} (o : ImgOk m) : Txs (m.map txt) := by
  refine ⟨by rw [List.length_map]; exact o.side, fun x hx => ?_⟩
  obtain ⟨l, hl, rfl⟩ := List.mem_map.mp hx
  have z : ∀ c ∈ l, c < 128 := fun c hc => by
    have := o.cell l hl c hc
    omega
  simpa using z
theorem ImgOk.le {m : List (List Nat)} (o : ImgOk m) : 10 ≤ m.length ∧ m.length ≤ 16 := by
  have z := o.side
  unfold Side at z
  omega
def spReq (K : PySem.W.Frag) : Sp := fun vs H Q _ => ∃ p m, vs = [.ref p] ∧ SqT K H p (imgV m) ∧ ImgOk m ∧ RetV .non H Q
theorem spv_req {K : PySem.W.Frag} {H : Hp} {p : Addr} {m : List (List Nat)} (h : SqT K H p (imgV m)) (o : ImgOk m) : SpV (spReq K) [.ref p] H .non := fun H1 e _ q _ => ⟨p, m, rfl, ex_t e h, o, q⟩
theorem imgV_len (m : List (List Nat)) : (imgV m).length = m.length := by
  rw [List.length_map, List.length_map]
theorem imgV_get {m : List (List Nat)} {i : Nat} {x : V} (h : (imgV m)[i]? = some x) : ∃ l, m[i]? = some l ∧ x = .str (txt l) ∧ l ∈ m := by
  rw [List.getElem?_map, List.getElem?_map] at h
  cases z : m[i]? with
  | none => rw [z] at h; cases h
  | some l =>
    rw [z] at h
    exact ⟨l, rfl, (Option.some.inj h).symm, List.mem_of_getElem? z⟩
end Sq

/-! images turned, mirrored, measured -/
namespace Sq
open PySem PySem.Spec PyProof.Rows L2 Evl
abbrev Img := List (List Nat)
def colAt (m : Img) (i : Nat) : List Nat := m.map fun l => l.getD i 0
def colsOf (m : Img) : Img := (List.range m.length).map (colAt m)
def rotI (m : Img) : Img := (colsOf m).map List.reverse
def mirI (m : Img) : Img := m.map List.reverse
def penI (m : Img) : Int := (m.map fun l => ((pen l : Nat) : Int)).sum + ((colsOf m).map fun l => ((pen l : Nat) : Int)).sum
theorem colsOf_len (m : Img) : (colsOf m).length = m.length := by
  unfold colsOf
  rw [List.length_map, List.length_range]
theorem rotI_len (m : Img) : (rotI m).length = m.length := by
  unfold rotI
  rw [List.length_map, colsOf_len]
theorem mirI_len (m : Img) : (mirI m).length = m.length := by
  unfold mirI
  rw [List.length_map]
theorem colAt_cell {m : Img} (o : ImgOk m) {i : Nat} (hi : i < m.length) : ∀ c ∈ colAt m i, c = 35 ∨ c = 46 ∨ c = 63 := fun c hc => by
  obtain ⟨l, hl, rfl⟩ := List.mem_map.mp hc
  have e := o.row l hl
  refine o.cell l hl _ ?_
  rw [List.getD_eq_getElem?_getD, List.getElem?_eq_getElem (by omega)]
  exact List.getElem_mem _
theorem colsOf_ok {m : Img} (o : ImgOk m) : ImgOk (colsOf m) := by
  refine ⟨by rw [colsOf_len]; exact o.side, fun l hl => ?_, fun l hl => ?_⟩
  · obtain ⟨i, hi, rfl⟩ := List.mem_map.mp hl
    rw [colsOf_len]
    unfold colAt
    rw [List.length_map]
  · obtain ⟨i, hi, rfl⟩ := List.mem_map.mp hl
    exact colAt_cell o (List.mem_range.mp hi)
theorem mirI_ok {m : Img} (o : ImgOk m) : ImgOk (mirI m) := by
  refine ⟨by rw [mirI_len]; exact o.side, fun l hl => ?_, fun l hl c hc => ?_⟩
  · obtain ⟨l', hl', rfl⟩ := List.mem_map.mp hl
    rw [List.length_reverse, mirI_len]
    exact o.row l' hl'
  · obtain ⟨l', hl', rfl⟩ := List.mem_map.mp hl
    exact o.cell l' hl' c (List.mem_reverse.mp hc)
theorem rotI_ok {m : Img} (o : ImgOk m) : ImgOk (rotI m) := mirI_ok (colsOf_ok o)
theorem given_all (n : Nat) (v : Nat → V) : given n (fun _ => true) v = (List.range n).map v := by
  unfold given
  rw [List.filter_eq_self.mpr fun _ _ => rfl]
theorem map_getD {α β : Type} (m : List α) (d : α) (g : α → β) : (List.range m.length).map (fun n => g (m.getD n d)) = m.map g := by
  refine List.ext_getElem? fun n => ?_
  rw [List.getElem?_map, List.getElem?_map]
  by_cases h : n < m.length
  · rw [List.getElem?_range h, List.getElem?_eq_getElem h]
    show some (g (m.getD n d)) = some (g m[n])
    rw [List.getD_eq_getElem?_getD, List.getElem?_eq_getElem h]
    rfl
  · rw [List.getElem?_eq_none (by rw [List.length_range]; omega), List.getElem?_eq_none (by omega)]
    rfl
def TupI (H : Hp) (p : Addr) (m : Img) : Prop := H p = some (.tup (imgV m))
theorem TupI.ex {H H' : Hp} {p : Addr} {m : Img} (h : TupI H p m) (e : Ex H H') : TupI H' p m := e _ _ h
theorem TupI.sq {K : PySem.W.Frag} {H : Hp} {p : Addr} {m : Img} (h : TupI H p m) : SqT K H p (imgV m) := st_of h
def spPenI (K : PySem.W.Frag) : Sp := fun vs H Q _ => ∃ p m, vs = [.ref p] ∧ SqT K H p (imgV m) ∧ ImgOk m ∧ RetV (.int (penI m)) H Q
theorem spv_penI {K : PySem.W.Frag} {H : Hp} {p : Addr} {m : Img} (h : SqT K H p (imgV m)) (o : ImgOk m) : SpV (spPenI K) [.ref p] H (.int (penI m)) := fun H1 e _ q _ => ⟨p, m, rfl, ex_t e h, o, q⟩
def spImg (f : Img → Img) : Sp := fun vs H Q _ => ∃ p m, vs = [.ref p] ∧ TupI H p m ∧ ImgOk m ∧ RetU (imgV (f m)) H Q
theorem spu_img {f : Img → Img} {H : Hp} {p : Addr} {m : Img} (h : TupI H p m) (o : ImgOk m) : SpU (spImg f) [.ref p] H (imgV (f m)) := fun H1 e _ q _ => ⟨p, m, rfl, h.ex e, o, q⟩
/-- turned no times to three times -/
def turns (m : Img) : List Img := [m, rotI m, rotI (rotI m), rotI (rotI (rotI m))]
def imgO (l : List Img) : List HO := l.map fun m => HO.tup (imgV m)
def spTurns : Sp := fun vs H Q _ => ∃ p m, vs = [.ref p] ∧ TupI H p m ∧ ImgOk m ∧ RetRs (imgO (turns m)) H Q
def spViews : Sp := fun vs H Q _ => ∃ p m, vs = [.ref p] ∧ TupI H p m ∧ ImgOk m ∧ RetRs (imgO (turns m ++ turns (mirI m))) H Q
theorem pe_joinK {X : Cx} (K : PySem.W.Frag) {o e : Expr} {to te : TE} {apos cpos : Pos} (ho : PE X o to) (he : PE X e te) (hK : X.K = K := by rfl) (hs : starEach [e] X.env = [(false, eval e X.env)] := by rfl) (hbase : attributeBase o "join" X.env (eval o X.env) = eval o X.env := by rfl) (hline : (apos.endLine == cpos.line) = true := by rfl) :
    PE X (.Call (.Attribute o "join" apos) [e] [] cpos) (tM1 (rJoin K) to te) := by
  subst hK
  exact pe_join ho he hs hbase hline
section
variable {K : PySem.W.Frag} {σ : L2.St} {H : Hp} {ta tb te tl : TE} {os os2 : List HO}
theorem rs_cat (ha : EvRs ta σ H os) (hb : EvRs tb σ H os2) (hz : os.length + os2.length ≤ 100000) : EvRs (tOp rCat ta tb) σ H (os ++ os2) := fun H1 e Q q =>
  ha H1 e _ fun a qs H2 _ e2 h2 r2 => hb H2 (e.trans e2) _ fun b ps H3 _ e3 h3 r3 => ⟨a, b, refV qs, refV ps, rfl, rfl, e3 _ _ h2, h3, sz_of (by rw [refV_len, refV_len, r2.len, r3.len]; exact hz), fun c hc => by
    have r2' := (r2.ex e3).ex (Ex.new (o := .lst (refV qs ++ refV ps)) hc)
    have r3' := r3.ex (Ex.new (o := .lst (refV qs ++ refV ps)) hc)
    refine q c (qs ++ ps) _ (fresh_back (e2.trans e3) hc) ((e2.trans e3).trans (Ex.new hc)) ?_ ⟨by rw [List.length_append, List.length_append, r2.len, r3.len], fun i x o a b => ?_⟩
    · have z : refV (qs ++ ps) = refV qs ++ refV ps := by
        unfold refV
        rw [List.map_append]
      rw [z]
      exact upd_same
    · by_cases hi : i < qs.length
      · rw [List.getElem?_append_left hi] at a
        rw [List.getElem?_append_left (by rw [← r2.len]; exact hi)] at b
        exact r2'.get i x o a b
      · rw [List.getElem?_append_right (by omega)] at a
        rw [List.getElem?_append_right (by rw [← r2.len]; omega), ← r2.len] at b
        exact r3'.get _ x o a b⟩
theorem rs_callU {sp : Sp} {xs : List V} (ha : EvU ta σ H xs) (hs : ∀ a H1, Ex H H1 → H1 a = some (.tup xs) → ∀ Q : VK, RetRs os H1 Q → ∀ E : XK, sp [.ref a] H1 Q E) : EvRs (tCall sp [] E0 (tCons ta tNil)) σ H os := fun H1 e Q q =>
  ha H1 e _ fun a H2 _ e2 h2 => hs a H2 (e.trans e2) h2 Q (fun c qs H3 hc e3 h3 h4 => q c qs H3 (fresh_back e2 hc) (e2.trans e3) h3 h4) E0
/-- the lines of an image, one by one -/
theorem el_rows {p : Addr} {m : Img} {j : Nat} {vs : List Nat} {g : List Nat → V} (h : Ev te σ H (.ref p)) (hp : SqT K H p (imgV m)) (o : ImgOk m) (hw : ∀ x, wipe ((wipe σ vs).set j (some x)) vs = wipe σ vs)
    (he : ∀ l H1, Ex H H1 → l ∈ m → Ev tb ((wipe σ vs).set j (some (.str (txt l)))) H1 (g l)) : EvL (tLc (iTup K te) (gName j) tYes tb vs) σ H (m.map g) := by
  have z := el_lcT (K := K) (te := tb) (t := tYes) (fun _ => true) (fun n => g (m.getD n [])) h hp (by rw [imgV_len]; have := o.le; omega) hw (fun _ _ _ _ _ _ _ _ q => q _ (Ex.refl _)) (fun i x H1 e hx _ => by
    obtain ⟨l, hl, rfl, hm⟩ := imgV_get hx
    have e2 : m.getD i [] = l := by
      rw [List.getD_eq_getElem?_getD, hl]
      rfl
    rw [e2]
    exact he l H1 e hm)
  rw [given_all, imgV_len, map_getD] at z
  exact z
/-- the columns, one by one -/
theorem el_cols {p : Addr} {m : Img} {j : Nat} {vs : List Nat} {g : List Nat → V} (h : Ev te σ H (.ref p)) (hp : SqT K H p (imgV m)) (o : ImgOk m) (hw : ∀ x, wipe ((wipe σ vs).set j (some x)) vs = wipe σ vs)
    (he : ∀ l a H1, Ex H H1 → l ∈ colsOf m → SqT K H1 a (l.map sgn) → Ev tb ((wipe σ vs).set j (some (.ref a))) H1 (g l)) : EvL (tLc (iZipS K te) (gName j) tYes tb vs) σ H ((colsOf m).map g) := by
  have z := el_lcZS (K := K) (tb := tb) (n := m.length) (fun i => g (colAt m i)) h hp o.txs o.row (by have := o.le; omega) hw (fun i a H1 e hi ha => by
    refine he (colAt m i) a H1 e (List.mem_map.mpr ⟨i, List.mem_range.mpr hi, rfl⟩) ?_
    have z : (colAt m i).map sgn = m.map fun l => sgn (l.getD i 0) := by
      unfold colAt
      rw [List.map_map]
      rfl
    rw [z]
    exact ha)
  rw [given_all] at z
  unfold colsOf
  rw [List.map_map]
  exact z
end
theorem atI_last {α : Type} {xs : List α} {x : α} (h : xs[xs.length - 1]? = some x) : atI xs (-1) = some x := by
  have hn : xs.length - 1 < xs.length := (List.getElem?_eq_some_iff.mp h).1
  unfold atI ixN
  rw [if_neg (by decide), if_pos (by omega)]
  show xs[((-1 : Int) + xs.length).toNat]? = some x
  rw [show ((-1 : Int) + xs.length).toNat = xs.length - 1 by omega]
  exact h
theorem turns_next {m : Img} {i : Nat} (h : i < 3) : (turns m)[i + 1]? = some (rotI ((turns m).getD i [])) := by
  match i, h with
  | 0, _ => rfl
  | 1, _ => rfl
  | 2, _ => rfl
theorem turns_ok {m : Img} (o : ImgOk m) {i : Nat} (h : i < 4) : ImgOk ((turns m).getD i []) := by
  match i, h with
  | 0, _ => exact o
  | 1, _ => exact rotI_ok o
  | 2, _ => exact rotI_ok (rotI_ok o)
  | 3, _ => exact rotI_ok (rotI_ok (rotI_ok o))
theorem turns_get {m : Img} {i : Nat} (h : i < 4) : (imgO (turns m))[i]? = some (.tup (imgV ((turns m).getD i []))) := by
  match i, h with
  | 0, _ => rfl
  | 1, _ => rfl
  | 2, _ => rfl
  | 3, _ => rfl
end Sq

/-! the penalty of a line counts its windows of four like cells -/
namespace Sq
def Win (l : List Nat) (i : Nat) : Prop := l[i]? = l[i + 1]? ∧ l[i + 1]? = l[i + 2]? ∧ l[i + 2]? = l[i + 3]?
instance (l : List Nat) (i : Nat) : Decidable (Win l i) := by unfold Win; infer_instance
def wins (l : List Nat) (n : Nat) : Nat := ((List.range n).filter fun i => decide (Win l i)).length
theorem wins_s (l : List Nat) (n : Nat) : wins l (n + 1) = wins l n + (if Win l n then 1 else 0) := by
  unfold wins
  rw [List.range_succ, List.filter_append, List.length_append]
  by_cases h : Win l n
  · rw [if_pos h, List.filter_cons, if_pos (decide_eq_true h)]
    rfl
  · rw [if_neg h, List.filter_cons, if_neg (by rw [decide_eq_true_eq]; exact h)]
    rfl
theorem penAt_len {l : List Nat} : ∀ i, i < l.length → (penAt l (i + 1)).prev = l[i]? ∧ ∀ k, k ≤ (penAt l (i + 1)).len ↔ (k ≤ i + 1 ∧ ∀ j, j < k → l[i - j]? = l[i]?)
  | 0, h => by
    have hc : l[0]? = some l[0] := List.getElem?_eq_getElem h
    rw [penAt_s hc, penAt_0]
    refine ⟨hc.symm, fun k => ?_⟩
    show k ≤ 1 ↔ _
    constructor
    · intro hk
      refine ⟨by omega, fun j hj => ?_⟩
      rw [Nat.zero_sub]
    · intro hk
      exact hk.1
  | i + 1, h => by
    have hc : l[i + 1]? = some l[i + 1] := List.getElem?_eq_getElem h
    obtain ⟨ip, il⟩ := penAt_len (l := l) i (by omega)
    rw [penAt_s hc]
    refine ⟨hc.symm, fun k => ?_⟩
    by_cases hp : (penAt l (i + 1)).prev = some l[i + 1]
    · have e : (penStep (penAt l (i + 1)) l[i + 1]).len = (penAt l (i + 1)).len + 1 := by
        unfold penStep
        rw [if_pos hp]
      rw [e]
      rw [ip] at hp
      constructor
      · intro hk
        by_cases h0 : k = 0
        · exact ⟨by omega, fun j hj => by omega⟩
        · obtain ⟨a, b⟩ := (il (k - 1)).mp (by omega)
          refine ⟨by omega, fun j hj => ?_⟩
          by_cases hj0 : j = 0
          · rw [hj0]
            rfl
          · have z := b (j - 1) (by omega)
            rw [show i - (j - 1) = i + 1 - j by omega] at z
            rw [z, hp, hc]
      · intro ⟨a, b⟩
        by_cases h0 : k = 0
        · omega
        · have z := (il (k - 1)).mpr ⟨by omega, fun j hj => by
            have z := b (j + 1) (by omega)
            rw [show i + 1 - (j + 1) = i - j by omega] at z
            rw [z, hp, hc]⟩
          omega
    · have e : (penStep (penAt l (i + 1)) l[i + 1]).len = 1 := by
        unfold penStep
        rw [if_neg hp]
      rw [e]
      rw [ip] at hp
      constructor
      · intro hk
        refine ⟨by omega, fun j hj => ?_⟩
        rw [show j = 0 by omega]
        rfl
      · intro ⟨a, b⟩
        refine Nat.not_lt.mp fun h2 => hp ?_
        have z := b 1 (by omega)
        rw [show i + 1 - 1 = i by omega] at z
        rw [z, hc]
theorem penAt_win {l : List Nat} : ∀ i, i ≤ l.length → (penAt l i).tot = wins l (i - 3)
  | 0, _ => rfl
  | i + 1, h => by
    have hc : l[i]? = some l[i] := List.getElem?_eq_getElem (by omega)
    obtain ⟨_, il⟩ := penAt_len (l := l) i (by omega)
    have e : (penAt l (i + 1)).tot = (penAt l i).tot + (if 3 < (penAt l (i + 1)).len then 1 else 0) := by
      rw [penAt_s hc]
      rfl
    rw [e, penAt_win i (by omega)]
    by_cases h3 : i < 3
    · have z : ¬ 3 < (penAt l (i + 1)).len := fun z => by
        have := ((il 4).mp (by omega)).1
        omega
      rw [if_neg z, show i + 1 - 3 = 0 by omega, show i - 3 = 0 by omega, Nat.add_zero]
    · rw [show i + 1 - 3 = (i - 3) + 1 by omega, wins_s]
      have w : Win l (i - 3) ↔ 3 < (penAt l (i + 1)).len := by
        have q := il 4
        have e0 : i - 3 + 1 = i - 2 := by omega
        have e1 : i - 3 + 2 = i - 1 := by omega
        have e2 : i - 3 + 3 = i := by omega
        unfold Win
        rw [e0, e1, e2]
        constructor
        · intro ⟨a, b, c⟩
          have := q.mpr ⟨by omega, fun j hj => by
            rcases (by omega : j = 0 ∨ j = 1 ∨ j = 2 ∨ j = 3) with rfl | rfl | rfl | rfl
            · rfl
            · exact c
            · rw [b, c]
            · rw [a, b, c]⟩
          omega
        · intro z
          obtain ⟨_, b⟩ := q.mp (by omega)
          have b1 := b 1 (by omega)
          have b2 := b 2 (by omega)
          have b3 := b 3 (by omega)
          exact ⟨b3.trans b2.symm, b2.trans b1.symm, b1⟩
      by_cases hw : Win l (i - 3)
      · rw [if_pos hw, if_pos (w.mp hw)]
      · rw [if_neg hw, if_neg fun z => hw (w.mpr z)]
theorem pen_win (l : List Nat) : pen l = wins l (l.length - 3) := by
  rw [← penAt_all, penAt_win _ (Nat.le_refl _)]
theorem wins_le (l : List Nat) (n : Nat) : wins l n ≤ n := by
  unfold wins
  have z := List.length_filter_le (fun i => decide (Win l i)) (List.range n)
  rwa [List.length_range] at z
theorem pen_le (l : List Nat) : pen l ≤ l.length - 3 := by
  rw [pen_win]
  exact wins_le _ _
theorem pen_congr {l k : List Nat} (hl : l.length = k.length) (h : ∀ i, i + 3 < l.length → (Win l i ↔ Win k i)) : pen l = pen k := by
  rw [pen_win, pen_win, hl]
  unfold wins
  congr 1
  refine List.filter_congr fun i hi => ?_
  have := List.mem_range.mp hi
  have z := h i (by omega)
  by_cases hw : Win l i
  · rw [decide_eq_true hw, decide_eq_true (z.mp hw)]
  · rw [decide_eq_false hw, decide_eq_false fun q => hw (z.mpr q)]
theorem range_rev (n : Nat) : (List.range n).map (fun i => n - 1 - i) = (List.range n).reverse := by
  refine List.ext_getElem? fun i => ?_
  by_cases hi : i < n
  · rw [List.getElem?_map, List.getElem?_range hi, List.getElem?_reverse (by rw [List.length_range]; exact hi), List.length_range, List.getElem?_range (by omega)]
    rfl
  · rw [List.getElem?_eq_none (by simp; omega), List.getElem?_eq_none (by simp; omega)]
theorem win_rev {l : List Nat} {i : Nat} (h : i + 3 < l.length) : Win l.reverse i ↔ Win l (l.length - 4 - i) := by
  have g : ∀ j, j < l.length → l.reverse[j]? = l[l.length - 1 - j]? := fun j hj => List.getElem?_reverse hj
  unfold Win
  rw [g i (by omega), g (i + 1) (by omega), g (i + 2) (by omega), g (i + 3) (by omega)]
  rw [show l.length - 1 - i = l.length - 4 - i + 3 by omega, show l.length - 1 - (i + 1) = l.length - 4 - i + 2 by omega, show l.length - 1 - (i + 2) = l.length - 4 - i + 1 by omega, show l.length - 1 - (i + 3) = l.length - 4 - i by omega]
  constructor
  · intro ⟨a, b, c⟩
    exact ⟨c.symm, b.symm, a.symm⟩
  · intro ⟨a, b, c⟩
    exact ⟨c.symm, b.symm, a.symm⟩
theorem pen_rev (l : List Nat) : pen l.reverse = pen l := by
  rw [pen_win, pen_win, List.length_reverse]
  unfold wins
  have e : (List.range (l.length - 3)).filter (fun i => decide (Win l.reverse i)) = (List.range (l.length - 3)).filter (fun i => decide (Win l (l.length - 3 - 1 - i))) := List.filter_congr fun i hi => by
    have := List.mem_range.mp hi
    have z := win_rev (l := l) (i := i) (by omega)
    rw [show l.length - 3 - 1 - i = l.length - 4 - i by omega]
    by_cases hw : Win l (l.length - 4 - i)
    · rw [decide_eq_true hw, decide_eq_true (z.mpr hw)]
    · rw [decide_eq_false hw, decide_eq_false fun q => hw (z.mp q)]
  rw [e]
  have f : ((List.range (l.length - 3)).filter (fun i => decide (Win l (l.length - 3 - 1 - i)))).length = (((List.range (l.length - 3)).map (fun i => l.length - 3 - 1 - i)).filter (fun i => decide (Win l i))).length := by
    rw [List.filter_map, List.length_map]
    rfl
  rw [f, range_rev, List.filter_reverse, List.length_reverse]
theorem pen_map {l : List Nat} {f : Nat → Nat} (h : ∀ x ∈ l, ∀ y ∈ l, f x = f y → x = y) : pen (l.map f) = pen l := by
  refine pen_congr (List.length_map _) fun i hi => ?_
  rw [List.length_map] at hi
  have g : ∀ a b, a < l.length → b < l.length → ((l.map f)[a]? = (l.map f)[b]? ↔ l[a]? = l[b]?) := fun a b ha hb => by
    rw [List.getElem?_map, List.getElem?_map, List.getElem?_eq_getElem ha, List.getElem?_eq_getElem hb]
    constructor
    · intro z
      have z := Option.some.inj z
      rw [h _ (List.getElem_mem _) _ (List.getElem_mem _) z]
    · intro z
      rw [Option.some.inj z]
  unfold Win
  rw [g i (i + 1) (by omega) (by omega), g (i + 1) (i + 2) (by omega) (by omega), g (i + 2) (i + 3) (by omega) (by omega)]
theorem pen_repl (n c : Nat) : pen (List.replicate n c) = n - 3 := by
  rw [pen_win, List.length_replicate]
  unfold wins
  rw [List.filter_eq_self.mpr, List.length_range]
  intro i hi
  have := List.mem_range.mp hi
  refine decide_eq_true ?_
  unfold Win
  rw [List.getElem?_replicate, List.getElem?_replicate, List.getElem?_replicate, List.getElem?_replicate, if_pos (by omega), if_pos (by omega), if_pos (by omega), if_pos (by omega)]
  exact ⟨rfl, rfl, rfl⟩
end Sq

/-! penalties of images turned, mirrored, recoloured, changed in one cell -/
namespace Sq
def penS (m : Img) : Int := (m.map fun l => ((pen l : Nat) : Int)).sum
theorem penI_eq (m : Img) : penI m = penS m + penS (colsOf m) := rfl
theorem penS_rev (m : Img) : penS m.reverse = penS m := by
  unfold penS
  rw [List.map_reverse, List.sum_reverse]
theorem penS_map {m : Img} {f : List Nat → List Nat} (h : ∀ l ∈ m, pen (f l) = pen l) : penS (m.map f) = penS m := by
  unfold penS
  rw [List.map_map]
  congr 1
  refine List.map_congr_left fun l hl => ?_
  show ((pen (f l) : Nat) : Int) = _
  rw [h l hl]
theorem colAt_len (m : Img) (i : Nat) : (colAt m i).length = m.length := by
  unfold colAt
  rw [List.length_map]
theorem colsOf_get {m : Img} {i : Nat} (h : i < m.length) : (colsOf m)[i]? = some (colAt m i) := by
  unfold colsOf
  rw [List.getElem?_map, List.getElem?_range h]
  rfl
theorem colAt_get {m : Img} {i j : Nat} (h : j < m.length) : (colAt m i)[j]? = some (m[j].getD i 0) := by
  unfold colAt
  rw [List.getElem?_map, List.getElem?_eq_getElem h]
  rfl
def Sqr (m : Img) : Prop := ∀ l ∈ m, l.length = m.length
theorem colsOf_rot {m : Img} (o : Sqr m) : colsOf (rotI m) = m.reverse := by
  refine List.ext_getElem? fun i => ?_
  by_cases hi : i < m.length
  · rw [colsOf_get (by rw [rotI_len]; exact hi), List.getElem?_reverse hi, List.getElem?_eq_getElem (show m.length - 1 - i < m.length by omega)]
    congr 1
    have hrow : (m[m.length - 1 - i]'(by omega)).length = m.length := o _ (List.getElem_mem _)
    refine List.ext_getElem? fun j => ?_
    by_cases hj : j < m.length
    · rw [colAt_get (by rw [rotI_len]; exact hj)]
      have e : (rotI m)[j]'(by rw [rotI_len]; exact hj) = (colAt m j).reverse := by
        unfold rotI
        rw [List.getElem_map]
        have z := colsOf_get (m := m) hj
        rw [List.getElem?_eq_getElem (by rw [colsOf_len]; exact hj)] at z
        rw [Option.some.inj z]
      rw [e, List.getD_eq_getElem?_getD, List.getElem?_reverse (by rw [colAt_len]; exact hi), colAt_len, colAt_get (by omega)]
      rw [Option.getD_some, List.getD_eq_getElem?_getD, List.getElem?_eq_getElem (by omega)]
      rfl
    · rw [List.getElem?_eq_none (by rw [colAt_len, rotI_len]; omega), List.getElem?_eq_none (by omega)]
  · rw [List.getElem?_eq_none (by rw [colsOf_len, rotI_len]; omega), List.getElem?_eq_none (by rw [List.length_reverse]; omega)]
theorem colsOf_mir {m : Img} (o : Sqr m) : colsOf (mirI m) = (colsOf m).reverse := by
  refine List.ext_getElem? fun i => ?_
  by_cases hi : i < m.length
  · rw [colsOf_get (by rw [mirI_len]; exact hi), List.getElem?_reverse (by rw [colsOf_len]; exact hi), colsOf_len, colsOf_get (by omega)]
    congr 1
    unfold colAt mirI
    rw [List.map_map]
    refine List.map_congr_left fun l hl => ?_
    show l.reverse.getD i 0 = l.getD (m.length - 1 - i) 0
    have e := o l hl
    rw [List.getD_eq_getElem?_getD, List.getElem?_reverse (by omega), List.getD_eq_getElem?_getD, e]
  · rw [List.getElem?_eq_none (by rw [colsOf_len, mirI_len]; omega), List.getElem?_eq_none (by rw [List.length_reverse, colsOf_len]; omega)]
theorem penI_rot {m : Img} (o : Sqr m) : penI (rotI m) = penI m := by
  rw [penI_eq, penI_eq, colsOf_rot o, penS_rev]
  unfold rotI
  rw [penS_map fun l _ => pen_rev l]
  omega
theorem penI_mir {m : Img} (o : Sqr m) : penI (mirI m) = penI m := by
  rw [penI_eq, penI_eq, colsOf_mir o, penS_rev]
  unfold mirI
  rw [penS_map fun l _ => pen_rev l]
theorem rot_sqr {m : Img} : Sqr (rotI m) := fun l hl => by
  unfold rotI colsOf at hl
  rw [List.map_map] at hl
  obtain ⟨i, hi, rfl⟩ := List.mem_map.mp hl
  rw [rotI_len]
  show (colAt m i).reverse.length = m.length
  rw [List.length_reverse, colAt_len]
theorem mir_sqr {m : Img} (o : Sqr m) : Sqr (mirI m) := fun l hl => by
  obtain ⟨l', hl', rfl⟩ := List.mem_map.mp hl
  rw [List.length_reverse, mirI_len]
  exact o l' hl'
theorem rot2 {m : Img} (o : Sqr m) : rotI (rotI m) = mirI m.reverse := by
  show (colsOf (rotI m)).map List.reverse = _
  rw [colsOf_rot o]
  rfl
theorem mir2 (m : Img) : mirI (mirI m) = m := by
  unfold mirI
  rw [List.map_map]
  have e : (List.reverse ∘ List.reverse : List Nat → List Nat) = id := by
    funext l
    show l.reverse.reverse = l
    rw [List.reverse_reverse]
  rw [e, List.map_id]
theorem rot4 {m : Img} (o : Sqr m) : rotI (rotI (rotI (rotI m))) = m := by
  rw [rot2 (m := rotI (rotI m)) rot_sqr, rot2 o]
  unfold mirI
  rw [← List.map_reverse, List.reverse_reverse, List.map_map]
  have e : (List.reverse ∘ List.reverse : List Nat → List Nat) = id := by
    funext l
    show l.reverse.reverse = l
    rw [List.reverse_reverse]
  rw [e, List.map_id]
theorem turns_pen {m : Img} (o : Sqr m) : ∀ k ∈ turns m, penI k = penI m := by
  intro k hk
  unfold turns at hk
  simp only [List.mem_cons, List.not_mem_nil, or_false] at hk
  rcases hk with rfl | rfl | rfl | rfl
  · rfl
  · exact penI_rot o
  · rw [penI_rot rot_sqr, penI_rot o]
  · rw [penI_rot rot_sqr, penI_rot rot_sqr, penI_rot o]
theorem views_pen {m : Img} (o : Sqr m) : ∀ k ∈ turns m ++ turns (mirI m), penI k = penI m := by
  intro k hk
  rcases List.mem_append.mp hk with h | h
  · exact turns_pen o k h
  · rw [turns_pen (mir_sqr o) k h, penI_mir o]
/-- other colours -/
def colI (f : Nat → Nat) (m : Img) : Img := m.map fun l => l.map f
theorem colsOf_col {f : Nat → Nat} {m : Img} (o : Sqr m) : colsOf (colI f m) = colI f (colsOf m) := by
  unfold colsOf colI
  rw [List.map_map, List.length_map]
  refine List.map_congr_left fun i hi => ?_
  have := List.mem_range.mp hi
  show colAt (m.map fun l => l.map f) i = (colAt m i).map f
  unfold colAt
  rw [List.map_map, List.map_map]
  refine List.map_congr_left fun l hl => ?_
  show (l.map f).getD i 0 = f (l.getD i 0)
  have e := o l hl
  rw [List.getD_eq_getElem?_getD, List.getElem?_map, List.getD_eq_getElem?_getD, List.getElem?_eq_getElem (by omega)]
  rfl
theorem penS_col {f : Nat → Nat} {m : Img} (h : ∀ l ∈ m, ∀ x ∈ l, ∀ y ∈ l, f x = f y → x = y) : penS (colI f m) = penS m := penS_map fun l hl => pen_map (h l hl)
def inv3 (c : Nat) : Nat := if c = 35 then 46 else if c = 46 then 35 else c
theorem inv3_inj {x y : Nat} (hx : x = 35 ∨ x = 46 ∨ x = 63) (hy : y = 35 ∨ y = 46 ∨ y = 63) (h : inv3 x = inv3 y) : x = y := by
  rcases hx with rfl | rfl | rfl <;> rcases hy with rfl | rfl | rfl <;> first | rfl | (exfalso; revert h; decide)
theorem penI_col {m : Img} (o : ImgOk m) : penI (colI inv3 m) = penI m := by
  rw [penI_eq, penI_eq, colsOf_col o.row]
  rw [penS_col fun l hl x hx y hy => inv3_inj (o.cell l hl x hx) (o.cell l hl y hy)]
  rw [penS_col fun l hl x hx y hy => inv3_inj ((colsOf_ok o).cell l hl x hx) ((colsOf_ok o).cell l hl y hy)]
/-- two lists of lines that differ in one place -/
theorem penS_set {m k : Img} {r B : Nat} (hl : m.length = k.length) (h : ∀ i, i ≠ r → m[i]? = k[i]?) (hb : ∀ l ∈ m, pen l ≤ B) (hb2 : ∀ l ∈ k, pen l ≤ B) : penS m - penS k ≤ B ∧ penS k - penS m ≤ B := by
  induction m generalizing k r with
  | nil =>
    have : k = [] := List.length_eq_zero_iff.mp hl.symm
    subst this
    exact ⟨by omega, by omega⟩
  | cons x m ih =>
    cases k with
    | nil => simp at hl
    | cons y k =>
      have hl2 : m.length = k.length := by simpa using hl
      have e1 : penS (x :: m) = (pen x : Nat) + penS m := by unfold penS; rw [List.map_cons, List.sum_cons]
      have e2 : penS (y :: k) = (pen y : Nat) + penS k := by unfold penS; rw [List.map_cons, List.sum_cons]
      rw [e1, e2]
      cases r with
      | zero =>
        have e : m = k := List.ext_getElem? fun i => h (i + 1) (by omega)
        subst e
        have a := hb x List.mem_cons_self
        have b := hb2 y List.mem_cons_self
        omega
      | succ r =>
        have z := h 0 (by omega)
        have z : some x = some y := z
        cases z
        have q := ih (k := k) (r := r) hl2 (fun i hi => h (i + 1) (by omega)) (fun l hl => hb l (List.mem_cons_of_mem _ hl)) (fun l hl => hb2 l (List.mem_cons_of_mem _ hl))
        omega
def setI (m : Img) (r c : Nat) : Img := m.set r ((m.getD r []).set c 35)
theorem setI_ok {m : Img} (o : ImgOk m) {r c : Nat} (hr : r < m.length) : ImgOk (setI m r c) := by
  have hd : m.getD r [] ∈ m := by
    rw [List.getD_eq_getElem?_getD, List.getElem?_eq_getElem hr]
    exact List.getElem_mem _
  have len : (setI m r c).length = m.length := by
    unfold setI
    rw [List.length_set]
  refine ⟨by rw [len]; exact o.side, fun l hl => ?_, fun l hl x hx => ?_⟩
  · rw [len]
    rcases List.mem_or_eq_of_mem_set hl with h | h
    · exact o.row l h
    · rw [h, List.length_set]
      exact o.row _ hd
  · rcases List.mem_or_eq_of_mem_set hl with h | h
    · exact o.cell l h x hx
    · rw [h] at hx
      rcases List.mem_or_eq_of_mem_set hx with h2 | h2
      · exact o.cell _ hd x h2
      · exact .inl h2
theorem setI_pen {m : Img} (o : ImgOk m) {r c : Nat} (hr : r < m.length) : penI (setI m r c) - penI m ≤ 2 * m.length ∧ penI m - penI (setI m r c) ≤ 2 * m.length := by
  have o2 := setI_ok o (c := c) hr
  have len : (setI m r c).length = m.length := by
    unfold setI
    rw [List.length_set]
  have b1 : ∀ l ∈ m, pen l ≤ m.length := fun l hl => by
    have z := pen_le l
    have := o.row l hl
    omega
  have b2 : ∀ l ∈ setI m r c, pen l ≤ m.length := fun l hl => by
    have z := pen_le l
    have := o2.row l hl
    omega
  have b3 : ∀ l ∈ colsOf m, pen l ≤ m.length := fun l hl => by
    have z := pen_le l
    have := (colsOf_ok o).row l hl
    rw [colsOf_len] at this
    omega
  have b4 : ∀ l ∈ colsOf (setI m r c), pen l ≤ m.length := fun l hl => by
    have z := pen_le l
    have := (colsOf_ok o2).row l hl
    rw [colsOf_len] at this
    omega
  have q1 := penS_set (m := setI m r c) (k := m) (r := r) len (fun i hi => by
    unfold setI
    rw [List.getElem?_set_ne (fun z => hi z.symm)]) b2 b1
  have q2 := penS_set (m := colsOf (setI m r c)) (k := colsOf m) (r := c) (by rw [colsOf_len, colsOf_len, len]) (fun i hi => by
    by_cases h : i < m.length
    · rw [colsOf_get (by rw [len]; exact h), colsOf_get h]
      congr 1
      refine List.ext_getElem? fun j => ?_
      by_cases hj : j < m.length
      · rw [colAt_get (by rw [len]; exact hj), colAt_get hj]
        congr 1
        by_cases hjr : j = r
        · subst hjr
          have e : (setI m j c)[j]'(by rw [len]; exact hj) = (m[j]).set c 35 := by
            unfold setI
            rw [List.getElem_set_self, List.getD_eq_getElem?_getD, List.getElem?_eq_getElem hj]
            rfl
          rw [e, List.getD_eq_getElem?_getD, List.getD_eq_getElem?_getD, List.getElem?_set_ne (fun z => hi z.symm)]
        · have e : (setI m r c)[j]'(by rw [len]; exact hj) = m[j] := by
            unfold setI
            rw [List.getElem_set_ne (fun z => hjr z.symm)]
          rw [e]
      · rw [List.getElem?_eq_none (by rw [colAt_len, len]; omega), List.getElem?_eq_none (by rw [colAt_len]; omega)]
    · rw [List.getElem?_eq_none (by rw [colsOf_len, len]; omega), List.getElem?_eq_none (by rw [colsOf_len]; omega)]) b4 b3
  rw [penI_eq, penI_eq]
  omega
/-- all dark -/
def darkI (n : Nat) : Img := List.replicate n (List.replicate n 35)
theorem colsOf_dark (n : Nat) : colsOf (darkI n) = darkI n := by
  refine List.ext_getElem? fun i => ?_
  have hlen : (darkI n).length = n := List.length_replicate
  by_cases hi : i < n
  · rw [colsOf_get (by rw [hlen]; exact hi)]
    unfold darkI colAt
    rw [List.getElem?_replicate, if_pos hi, List.map_replicate]
    congr 2
    rw [List.getD_eq_getElem?_getD, List.getElem?_replicate, if_pos hi]
    rfl
  · rw [List.getElem?_eq_none (by rw [colsOf_len, hlen]; omega), List.getElem?_eq_none (by rw [hlen]; omega)]
theorem penS_dark (n k : Nat) : penS (List.replicate k (List.replicate n 35)) = k * ((n - 3 : Nat) : Int) := by
  unfold penS
  rw [List.map_replicate, pen_repl]
  induction k with
  | zero => simp
  | succ k ih =>
    rw [List.replicate_succ, List.sum_cons, ih]
    rw [show ((k + 1 : Nat) : Int) = (k : Int) + 1 by omega, Int.add_mul]
    omega
theorem penI_dark {n : Nat} (h : 3 ≤ n) : penI (darkI n) = 2 * (n : Int) * ((n : Int) - 3) := by
  rw [penI_eq, colsOf_dark]
  unfold darkI
  rw [penS_dark, show ((n - 3 : Nat) : Int) = (n : Int) - 3 by omega, Int.mul_assoc]
  omega
theorem dark_ok {n : Nat} (h : Side n) : ImgOk (darkI n) := by
  have hlen : (darkI n).length = n := List.length_replicate
  refine ⟨by rw [hlen]; exact h, fun l hl => ?_, fun l hl c hc => ?_⟩
  · rw [List.eq_of_mem_replicate hl, List.length_replicate, hlen]
  · rw [List.eq_of_mem_replicate hl] at hc
    exact .inl (List.eq_of_mem_replicate hc)
end Sq

/-! texts added, repeated, cut; drawn images; a run walked by places -/
namespace Sq
open PySem PySem.Spec PyProof.Rows L2 Evl
def rMulS : R2 := fun x y H Q => ∃ (c n : Nat), x = .str (txt [c]) ∧ y = .int (n : Int) ∧ 1 ≤ n ∧ n ≤ 1000 ∧ Q (.str (txt (List.replicate n c))) H
theorem fold_one (c : Nat) : ∀ (n : Nat) (acc : Array Nat), (List.replicate n #[c]).foldl (· ++ ·) acc = acc ++ (List.replicate n c).toArray
  | 0, acc => by simp
  | n + 1, acc => by
    rw [List.replicate_succ, List.foldl_cons, fold_one c n]
    apply Array.toList_inj.mp
    simp [List.replicate_succ]
theorem op_mulS {X : Cx} : OpR X (binaryOp .Mult) rMulS := by
  intro pins s σ H x y v u Q I rx ry h
  obtain ⟨c, n, rfl, rfl, h1, h2, q⟩ := h
  obtain ⟨t, rfl⟩ := rx
  obtain ⟨t', rfl⟩ := ry
  refine P.mul_str ?_ ?_ ?_ ?_
  · simp; omega
  · intro _ _
    show ¬ ((1 : Int) > (2 ^ 63 - 1) / (n : Int))
    have : (1 : Int) ≤ (2 ^ 63 - 1) / (n : Int) := by
      rw [Int.le_ediv_iff_mul_le (by omega)]
      omega
    omega
  · intro _ _
    show Builtin.Str.tooLong (1 * ((n : Int)).toNat) = false
    unfold Builtin.Str.tooLong
    rw [Int.toNat_natCast, Nat.one_mul]
    exact decide_eq_false (by rw [sizeLine_eq]; omega)
  · rw [if_neg (by omega)]
    by_cases hn : n = 1
    · subst hn
      rw [if_pos (by rfl)]
      exact ⟨.str (txt [c]), H, I, ⟨t, rfl⟩, q⟩
    · rw [if_neg (by
        show ¬ (((n : Int) == 1) || (([c].toArray.size) == 0)) = true
        have z : ¬ (n : Int) = 1 := by omega
        simp [z])]
      have e : (⟨(List.replicate ((n : Int)).toNat [c].toArray).foldl (· ++ ·) #[]⟩ : Str) = txt (List.replicate n c) := by
        rw [Int.toNat_natCast]
        have z := fold_one c n #[]
        show (⟨(List.replicate n #[c]).foldl (· ++ ·) #[]⟩ : Str) = _
        rw [z]
        simp
      rw [e]
      exact ⟨by show (List.replicate n c).toArray.size ≤ sizeLine; rw [sizeLine_eq]; simp; omega, .str _, H, I.tok _, ⟨_, rfl⟩, q⟩
section
variable {K : PySem.W.Frag} {σ : L2.St} {H : Hp} {ta tb te tl : TE} {D : Ends} {tz tu : TS} {p1 p2 : V → Prop}
abbrev rAddT : R2 := fun x y H Q => ∃ i j, x = .str i ∧ y = .str j ∧ i.length + j.length ≤ sizeLine ∧ Q (.str (i ++ j)) H
theorem txt_app (a b : List Nat) : txt a ++ txt b = txt (a ++ b) := by
  show (⟨a.toArray ++ b.toArray⟩ : Str) = ⟨(a ++ b).toArray⟩
  simp
theorem rv_addS {a b : List Nat} (h : a.length + b.length ≤ 100000) : RV rAddT (.str (txt a)) (.str (txt b)) H (.str (txt (a ++ b))) := fun H1 _ Q q => ⟨_, _, rfl, rfl, sz_of (by show a.toArray.size + b.toArray.size ≤ 100000; simpa using h), by rw [txt_app]; exact q H1 (Ex.refl H1)⟩
theorem rv_mulS {c n : Nat} (h : 1 ≤ n ∧ n ≤ 1000) : RV rMulS (.str (txt [c])) (.int (n : Int)) H (.str (txt (List.replicate n c))) := fun H1 _ Q q => ⟨c, n, rfl, rfl, h.1, h.2, q H1 (Ex.refl H1)⟩
def cutL (l : List Nat) (lo hi : Option Int) : List Nat := (l.drop (HT.sIx l.length 0 lo)).take (HT.sIx l.length l.length hi - HT.sIx l.length 0 lo)
theorem cutS_txt (l : List Nat) (lo hi : Option Int) : cutS (txt l) lo hi = txt (cutL l lo hi) := by
  have e : (txt l).length = l.length := by
    show l.toArray.size = l.length
    simp
  unfold cutS cutL
  rw [e]
theorem cutL_hi {l : List Nat} {k : Nat} : cutL l none (some (k : Int)) = l.take k := by
  unfold cutL
  rw [HT.sIx_nat, HT.sIx_none, Nat.sub_zero, List.drop_zero, List.take_eq_take_iff]
  omega
theorem cutL_lo {l : List Nat} {k : Nat} : cutL l (some (k : Int)) none = l.drop k := by
  unfold cutL
  rw [HT.sIx_nat, HT.sIx_none]
  by_cases h : k ≤ l.length
  · rw [Nat.min_eq_left h]
    exact List.take_of_length_le (by rw [List.length_drop]; omega)
  · rw [Nat.min_eq_right (by omega), List.drop_eq_nil_of_le (Nat.le_refl _), List.drop_eq_nil_of_le (by omega)]
    simp
theorem ev_slS {tlo thi : TO} {l : List Nat} {lo hi : Option Int} (h : Ev te σ H (.str (txt l))) (h1 : EvO tlo σ H lo) (h2 : EvO thi σ H hi) (hl : l.length ≤ 100000) : Ev (tSl rSlS te tlo thi) σ H (.str (txt (cutL l lo hi))) := fun H1 e Q q =>
  h H1 e _ fun H2 e2 => h1 H2 (e.trans e2) _ fun H3 e3 => h2 H3 ((e.trans e2).trans e3) _ fun H4 e4 => ⟨txt l, rfl, sz_of (by show l.toArray.size ≤ 100000; simpa using hl), by rw [cutS_txt]; exact q H4 ((e2.trans e3).trans e4)⟩
theorem rv_ixT1 {l : List Nat} {k : Nat} {c : Nat} (h : l[k]? = some c) (hl : l.length ≤ 100000) : RV rIxS (.str (txt l)) (.int (k : Int)) H (sgn c) := rv_ixS (by show l.toArray.size ≤ 100000; simpa using hl) (by
  show atI (l.toArray).toList (k : Int) = some c
  have hk := (List.getElem?_eq_some_iff.mp h).1
  unfold atI
  rw [ixN_nat (by simpa using hk)]
  simpa using h)
theorem q_par2P {i j : Nat} (ha : EvP ta σ H p1) (hb : EvP tb σ H p2) (k : ∀ u v H1, p1 u → p2 v → Ex H H1 → tz D ((σ.set i (some u)).set j (some v)) H1) : tSeq (tPar i j (tCons ta (tCons tb tNil))) tz D σ H :=
  ha H (Ex.refl H) _ fun u H1 e1 hu => hb H1 e1 _ fun v H2 e2 hv => ⟨u, v, rfl, k u v H2 hu hv (e1.trans e2)⟩
theorem s_par2E {i j : Nat} {u v : V} (ha : Ev ta σ H u) (hb : Ev tb σ H v) (k : ∀ H1, Ex H H1 → D.nx ((σ.set i (some u)).set j (some v)) H1) : tPar i j (tCons ta (tCons tb tNil)) D σ H :=
  ha H (Ex.refl H) _ fun H1 e1 => hb H1 e1 _ fun H2 e2 => ⟨u, v, rfl, k H2 (e1.trans e2)⟩
theorem q_par2E {i j : Nat} {u v : V} (ha : Ev ta σ H u) (hb : Ev tb σ H v) (k : ∀ H1, Ex H H1 → tz D ((σ.set i (some u)).set j (some v)) H1) : tSeq (tPar i j (tCons ta (tCons tb tNil))) tz D σ H := s_par2E (D := { D with nx := tz D }) ha hb k
theorem s_asgP {i : Nat} (h : EvP te σ H p1) (k : ∀ v H1, p1 v → Ex H H1 → D.nx (σ.set i (some v)) H1) : tAsg te (gName i) D σ H := h H (Ex.refl H) _ fun v H1 e hp => k v H1 hp e
end
/-! ### the law's runs: begin and sum -/
structure RunI (l : List Nat) (i f b : Nat) : Prop where
  lt : i < l.length
  le : b ≤ i
  prev : l[b]? = l[i]?
  len : (penAt l (i + 1)).len = i + 1 - b
  tot : (penAt l (i + 1)).tot = f + (i + 1 - b - 3)
theorem runI_0 {l : List Nat} (h : 0 < l.length) : RunI l 0 0 0 := by
  have hc : l[0]? = some l[0] := List.getElem?_eq_getElem h
  refine ⟨h, Nat.le_refl _, rfl, ?_, ?_⟩
  · rw [penAt_s hc, penAt_0]
    rfl
  · rw [penAt_s hc, penAt_0]
    rfl
/-- the run ends before the next place -/
theorem runI_new {l : List Nat} {i f b : Nat} (r : RunI l i f b) (h : i + 1 < l.length) (hne : l[i + 1]? ≠ l[b]?) : RunI l (i + 1) (f + (i + 1 - b - 3)) (i + 1) := by
  have hc : l[i + 1]? = some l[i + 1] := List.getElem?_eq_getElem h
  have hp : (penAt l (i + 1)).prev ≠ some l[i + 1] := fun z => hne (by
    rw [(penAt_len i r.lt).1] at z
    rw [r.prev, z, hc])
  have e : (penStep (penAt l (i + 1)) l[i + 1]).len = 1 := by
    unfold penStep
    rw [if_neg hp]
  have e2 : (penStep (penAt l (i + 1)) l[i + 1]).tot = (penAt l (i + 1)).tot + (if 3 < (penStep (penAt l (i + 1)) l[i + 1]).len then 1 else 0) := rfl
  refine ⟨h, Nat.le_refl _, rfl, ?_, ?_⟩
  · rw [penAt_s hc, e]
    omega
  · rw [penAt_s hc, e2, e, r.tot, if_neg (by decide)]
    omega
/-- the run goes on -/
theorem runI_on {l : List Nat} {i f b : Nat} (r : RunI l i f b) (h : i + 1 < l.length) (he : l[i + 1]? = l[b]?) : RunI l (i + 1) f b := by
  have hc : l[i + 1]? = some l[i + 1] := List.getElem?_eq_getElem h
  have hp : (penAt l (i + 1)).prev = some l[i + 1] := by
    rw [(penAt_len i r.lt).1, ← hc, he, r.prev]
  have e : (penStep (penAt l (i + 1)) l[i + 1]).len = (penAt l (i + 1)).len + 1 := by
    unfold penStep
    rw [if_pos hp]
  have e2 : (penStep (penAt l (i + 1)) l[i + 1]).tot = (penAt l (i + 1)).tot + (if 3 < (penStep (penAt l (i + 1)) l[i + 1]).len then 1 else 0) := rfl
  have le := r.le
  refine ⟨h, by omega, he.symm, ?_, ?_⟩
  · rw [penAt_s hc, e, r.len]
    omega
  · rw [penAt_s hc, e2, e, r.tot, r.len]
    split <;> omega
theorem runI_end {l : List Nat} {i f b : Nat} (r : RunI l i f b) (h : i + 1 = l.length) : f + (i + 1 - b - 3) = pen l := by
  rw [← r.tot, h, penAt_all]
def spRun : Sp := fun vs H Q _ => ∃ l : List Nat, vs = [.str (txt l)] ∧ l.length ≤ 1000 ∧ RetV (.int (pen l : Nat)) H Q
theorem spv_run {H : Hp} {l : List Nat} (h : l.length ≤ 1000) : SpV spRun [.str (txt l)] H (.int (pen l : Nat)) := fun H1 e _ q _ => ⟨l, rfl, h, q⟩
def ImgP (xs : List V) : Prop := ∃ m, ImgOk m ∧ xs = imgV m
def spImgD (K : PySem.W.Frag) : Sp := fun vs H Q _ => ∃ r, vs = [.ref r] ∧ RowAt K H r ∧ ∀ m p H', ImgOk m → H p = none → Ex H H' → TupI H' p m → Q (.ref p) H'
/-- a line as it is drawn -/
def CellsOk (l : List Nat) : Prop := ∀ c ∈ l, c = 35 ∨ c = 46 ∨ c = 63
end Sq

/-! drawn images -/
namespace Sq
open PySem PySem.Spec PyProof.Rows L2 Evl
section
variable {K : PySem.W.Frag} {σ : L2.St} {H : Hp} {ta tb te tl : TE} {D : Ends} {tz tu : TS} {p p1 p2 : V → Prop} {r : R2}
theorem evp_op2v (ha : EvP ta σ H p1) (hb : EvP tb σ H p2) (hr : ∀ x y, p1 x → p2 y → ∀ H1, Ex H H1 → ∃ z, RV r x y H1 z ∧ p z) : EvP (tOp r ta tb) σ H p := fun H1 e Q q =>
  ha H1 e _ fun x H2 e2 hx => hb H2 (e.trans e2) _ fun y H3 e3 hy => by
    obtain ⟨z, hz, pz⟩ := hr x y hx hy H3 ((e.trans e2).trans e3)
    exact hz H3 (Ex.refl H3) Q fun H4 e4 => q z H4 ((e2.trans e3).trans e4) pz
end
theorem cells_app {a b : List Nat} (ha : CellsOk a) (hb : CellsOk b) : CellsOk (a ++ b) := fun c hc => by
  rcases List.mem_append.mp hc with h | h
  · exact ha c h
  · exact hb c h
theorem cells_take {a : List Nat} {n : Nat} (ha : CellsOk a) : CellsOk (a.take n) := fun c hc => ha c (List.mem_of_mem_take hc)
theorem imgV_snoc (m : Img) (l : List Nat) : imgV (m ++ [l]) = imgV m ++ [V.str (txt l)] := by
  unfold imgV
  rw [List.map_append, List.map_append]
  rfl
theorem kinds4 (z : Int) (h0 : 0 ≤ z) (h1 : z < 4) : ∃ l : List Nat, atI ([V.str "#.", .str "#.?", .str "#...", .str "##.."] : List V) z = some (.str (txt l)) ∧ 0 < l.length ∧ l.length ≤ 4 ∧ CellsOk l := by
  rcases (by omega : z = 0 ∨ z = 1 ∨ z = 2 ∨ z = 3) with rfl | rfl | rfl | rfl
  · exact ⟨[35, 46], rfl, by decide, by decide, fun c hc => by simp at hc; omega⟩
  · exact ⟨[35, 46, 63], rfl, by decide, by decide, fun c hc => by simp at hc; omega⟩
  · exact ⟨[35, 46, 46, 46], rfl, by decide, by decide, fun c hc => by simp at hc; omega⟩
  · exact ⟨[35, 35, 46, 46], rfl, by decide, by decide, fun c hc => by simp at hc; omega⟩
theorem sides4 (z : Int) (h0 : 0 ≤ z) (h1 : z < 4) : ∃ n : Nat, atI ([V.int 10, .int 12, .int 14, .int 16] : List V) z = some (.int (n : Int)) ∧ Side n := by
  rcases (by omega : z = 0 ∨ z = 1 ∨ z = 2 ∨ z = 3) with rfl | rfl | rfl | rfl
  · exact ⟨10, rfl, .inl rfl⟩
  · exact ⟨12, rfl, .inr (.inl rfl)⟩
  · exact ⟨14, rfl, .inr (.inr (.inl rfl))⟩
  · exact ⟨16, rfl, .inr (.inr (.inr rfl))⟩
theorem side_le {n : Nat} (h : Side n) : 10 ≤ n ∧ n ≤ 16 := by
  unfold Side at h
  omega
end Sq

/-! the law of penalties: its words -/
namespace Sq
open PySem PySem.Spec PyProof.Rows L2 Evl
theorem pickV_rev (items : Array Value) : ((List.range items.size).filterMap fun (k : Nat) => items[(((items.size : Int) - 1) + (k : Int) * (-1)).toNat]?).toArray = items.toList.reverse.toArray := by
  have z := PySem.W.krv_pick items
  unfold slicePick at z
  rw [PySem.W.krv_bounds] at z
  have z : ((sliceRange ((items.size : Int) - 1) (-1) (-1)).filterMap (items[·]?)).toArray = items.toList.reverse.toArray := z
  rw [PySem.W.krv_sliceRange, List.filterMap_map] at z
  rw [← z]
  congr 1
  have e : (fun (k : Nat) => items[(((items.size : Int) - 1) + (k : Int) * (-1)).toNat]?) = ((fun x => items[x]?) ∘ fun k => items.size - 1 - k) := by
    funext k
    show items[(((items.size : Int) - 1) + (k : Int) * (-1)).toNat]? = items[items.size - 1 - k]?
    rw [show (((items.size : Int) - 1) + (k : Int) * (-1)).toNat = items.size - 1 - k by omega]
  rw [e]
section
variable {prog : Program} {w : World} {A : Around} {E : Value → Shared → Prop} {s : Shared}
theorem sliceApplied_rev {sl : Addr} {vl vu vs : Value} {n : Nat} {Q : Int × Int × Nat → Shared → Prop} (hs : s.heap.IsSliceOf sl vl vu vs) (pl : IsPart vl none) (pu : IsPart vu none) (ps : IsPart vs (some (-1)))
    (h : Q ((n : Int) - 1, -1, n) s) : wpAny (model prog w) A (Builtin.Slice.sliceApplied (.ref sl) (pure (n : Int))) Q E s := by
  obtain ⟨os, hos, hcs, hds⟩ := id hs
  unfold Builtin.Slice.sliceApplied Builtin.Slice.sliceFields
  refine wpAny_bind (wpAny_bind (wpAny_field hos hds (x := vl) rfl (wpAny_bind (wpAny_field hos hds (x := vu) rfl (wpAny_bind (wpAny_field hos hds (x := vs) rfl (wpAny_pure ?_)))))))
  refine wpAny_bind (HT.slicePart_ ps ?_)
  show wpAny _ _ (if ((-1 : Int) == 0) = true then _ else _) _ _ s
  rw [if_neg (by decide)]
  refine wpAny_bind (HT.slicePart_ pl (wpAny_bind (HT.slicePart_ pu (wpAny_bind (wpAny_pure ?_)))))
  show wpAny _ _ (pure ((n : Int) - 1, (-1 : Int), Builtin.Slice.slicePlaces ((n : Int) - 1) (-1) (-1))) _ _ s
  have e : Builtin.Slice.slicePlaces ((n : Int) - 1) (-1) (-1) = n := by
    unfold Builtin.Slice.slicePlaces
    rw [if_neg (by decide), show (- (-1 : Int)) = 1 by decide, Int.ediv_one]
    split <;> omega
  rw [e]
  exact wpAny_pure h
theorem getItem_tuple_rev {t sl : Addr} {items : Array Value} {vl vu vs : Value} {Q : Value → Shared → Prop} (ht : PyProof.Rows.IsTup s.heap t items) (hs : s.heap.IsSliceOf sl vl vu vs) (pl : IsPart vl none) (pu : IsPart vu none) (ps : IsPart vs (some (-1)))
    (h : Q (.ref s.heap.objs.size) { s with heap := s.heap.push { cls := .type "tuple", data := .seq items.toList.reverse.toArray } })
    (hsz : items.size ≤ sizeLine) : wpAny (model prog w) A (getItem (.ref t) (.ref sl)) Q E s := by
  have htake : sizeOk (.seq items.toList.reverse.toArray) := by
    show items.toList.reverse.toArray.size ≤ sizeLine
    rw [List.size_toArray, List.length_reverse, Array.length_toList]
    exact hsz
  obtain ⟨os, hos, hcs, hds⟩ := id hs
  have hTs : s.TypeIs (.ref sl) "slice" := ⟨os, hos, hcs⟩
  unfold getItem
  try with_reducible refine wpAny_holding ?_
  first | refine wpAny_bind (wpAny_pure ?_) | skip
  refine wpAny_bind (wpAny_sequenceKey ht.typeIs (by decide) ?_)
  refine wpAny_bind (wpAny_callSpecial?_slot (name := Str.ofString "__getitem__") ht.typeIs PyProof.Rows.slot_tuple_getitem
    (wpAny_call_entry PyProof.Rows.slot_tuple_getitem ht.typeIs PyProof.Rows.entry_tuple_getitem ?_ (PyProof.Rows.args_tuple_getitem _ _)))
  show wpAny _ _ (Builtin.Tuple.tupleItemsOf (.ref t) >>= _) _ _ s
  refine wpAny_bind (PyProof.Rows.tupleItemsOf_ ht ?_)
  refine wpAny_bind (wpAny_typeOf hTs ?_)
  rw [if_pos (by decide)]
  refine wpAny_bind (sliceApplied_rev hs pl pu ps ?_)
  have hno : ¬ ((((items.size : Int) - 1) == 0 && (-1 : Int) == 1 && items.size == items.size) = true) := by
    intro q
    rw [Bool.and_eq_true, Bool.and_eq_true] at q
    exact absurd q.1.2 (by decide)
  show wpAny _ _ (if (((items.size : Int) - 1) == 0 && (-1 : Int) == 1 && items.size == items.size) = true then _ else _) _ _ s
  rw [if_neg hno, pickV_rev]
  first
    | exact wpAny_bind (m := Builtin.Tuple.tupleExact _) (wpAny_newObj_type (wpAny_pure ⟨_, rfl, wpAny_pure h⟩) htake)
    | exact wpAny_bind (m := Builtin.Tuple.tupleExact _) (wpAny_newObj_type (wpAny_bind (wpAny_pure (wpAny_pure ⟨_, rfl, wpAny_pure h⟩))) htake)
    | exact wpAny_bind (wpAny_bind (m := Builtin.Tuple.tupleExact _) (wpAny_newObj_type (wpAny_pure (wpAny_pure ⟨_, rfl, wpAny_pure h⟩)) htake))
    | exact wpAny_bind (wpAny_bind (m := Builtin.Tuple.tupleExact _) (wpAny_newObj_type (wpAny_pure ⟨_, rfl, wpAny_pure h⟩) htake))
end
def tRevT (K : PySem.W.Frag) (te : TE) : TE := fun σ H Q => te σ H fun x H1 => ∃ a xs, x = .ref a ∧ SqT K H1 a xs ∧ ∀ p, H1 p = none → Q (.ref p) (upd H1 p (.tup xs.reverse))
theorem pe_revT {X : Cx} {e : Expr} {te : TE} {k : Nat} {p1 p2 p3 pos : Pos} (he : PE X e te) : PE X (.Subscript e (.Slice none none (some (.UnaryOp .USub (.Constant (.int 1) k p1) p2)) p3) pos) (tRevT X.K te) := by
  refine ⟨fun pins s σ H Q I h => ?_⟩
  refine Subscript_ (thn (he.run pins s σ H _ I h) fun v s1 ⟨x, H1, I1, r1, q1⟩ => ?_)
  obtain ⟨a, xs, ex, hx, q⟩ := q1
  subst ex
  cases r1
  have hst : PO X (some (.UnaryOp .USub (.Constant (.int 1) k p1) p2)) (tPart (tUn (rU fun i => .int (-i)) (tC (.int 1)))) := po_some (pe_un un_neg pe_int)
  refine wpAny_Slice (thn (po_none.run pins s1 σ H1 (fun o H2 => o = none ∧ H2 = H1) I1 ⟨rfl, rfl⟩) fun vl s2 ⟨l, H2, I2, pl, el, e2⟩ => ?_)
  subst el e2
  refine thn (po_none.run pins s2 σ H2 (fun o H3 => o = none ∧ H3 = H2) I2 ⟨rfl, rfl⟩) fun vu s3 ⟨u, H3, I3, pu, eu, e3⟩ => ?_
  subst eu e3
  refine thn (hst.run pins s3 σ H3 (fun o H4 => o = some (-1) ∧ H4 = H3) I3 ⟨1, rfl, -1, rfl, rfl, rfl⟩) fun vs s4 ⟨o, H4, I4, ps, eo, e4⟩ => ?_
  subst eo e4
  have I5 : Inv X pins σ H4 { s4 with heap := s4.heap.push { cls := .type "slice", data := .fields #[vl, vu, vs] } } := I4.kept (t' := s4.toks) fun b ob q => Heap.get?_push_of_some _ q
  obtain ⟨its, r, ht, hz⟩ := I5.tuple hx
  have hlen := r.length
  show wpAny (model X.prog X.w) X.A (subscriptTail e (.Slice none none (some (.UnaryOp .USub (.Constant (.int 1) k p1) p2)) p3) (.ref a) (.ref s4.heap.objs.size)) (EP X pins σ Q) X.xe { s4 with heap := s4.heap.push { cls := .type "slice", data := .fields #[vl, vu, vs] } }
  refine tail_any (ops := [.ref a, .ref s4.heap.objs.size]) ht.typeIs (PyProof.Rows.slot_tuple_getitem.lookup) ?_ (by with_unfolding_all rfl)
  refine getItem_tuple_rev ht (Heap.IsSliceOf.new _ vl vu vs) pl pu ps ?_ (by rw [List.size_toArray]; omega)
  refine ⟨.ref _, _, I5.laid (t' := s4.toks) (o := .tup xs.reverse) (fun b ob q => Heap.get?_push_of_some _ q) (Nat.le_refl _) ?_, rfl, q _ (I5.hok.fresh (Nat.le_refl _))⟩
  exact ⟨by rw [List.length_reverse]; exact hz, its.reverse, r.reverse, ⟨_, Heap.get?_push_size _ rfl, rfl, 0, rfl⟩⟩
theorem pi_tupK {X : Cx} (K : PySem.W.Frag) {tg e : Expr} {te : TE} (he : PE X e te) (hK : X.K = K := by rfl) : PI X tg e (iTup K te) := by
  subst hK
  exact pi_tup he
section
variable {K : PySem.W.Frag} {σ : L2.St} {H : Hp} {ta tb te tl td : TE} {t : TT} {D : Ends} {tz tu : TS} {os : List HO} {xs ys : List V}
theorem eu_revT {a : Addr} (h : Ev te σ H (.ref a)) (hx : SqT K H a xs) : EvU (tRevT K te) σ H xs.reverse := fun H1 e _ q =>
  h H1 e _ fun H2 e2 => ⟨a, xs, rfl, ex_t (e.trans e2) hx, fun p hp => q p _ (fresh_back e2 hp) (e2.trans (Ex.new hp)) upd_same⟩
/-! tuples of texts compared -/
def pdS (m : Img) : List PyData := m.map fun l => PyData.str (txt l)
theorem dp_strs {m : Img} : DpAll K H (imgV m) (pdS m) := by
  induction m with
  | nil => exact .nil
  | cons x r ih => exact .cons (.str (txt x)) ih
theorem eqv_strs : ∀ (m : Img), PyData.eqvAll (pdS m) (pdS m) = true
  | [] => rfl
  | x :: m => by
    show (PyData.eqv (.str (txt x)) (.str (txt x)) && PyData.eqvAll (pdS m) (pdS m)) = true
    rw [eqv_strs m]
    show ((txt x == txt x) && true) = true
    simp
theorem lay_strs : ∀ (m : Img), (∀ l ∈ m, PyData.strOk (txt l) = true) → PyData.canLayAll0 (pdS m) = true
  | [], _ => rfl
  | x :: m, h => by
    show (PyData.strOk (txt x) && PyData.canLayAll0 (pdS m)) = true
    rw [lay_strs m fun l hl => h l (List.mem_cons_of_mem _ hl), h x List.mem_cons_self]
    rfl
theorem ok_txt {l : List Nat} (h : ∀ c ∈ l, c < 128) : PyData.strOk (txt l) = true := by
  unfold PyData.strOk
  have z : ∀ c ∈ l, c < 0x110000 := fun c hc => Nat.lt_trans (h c hc) (by decide)
  simpa using z
theorem depth_strs : ∀ (m : Img), PyData.depthAll (pdS m) = 0
  | [] => rfl
  | x :: m => by
    show max 0 (PyData.depthAll (pdS m)) = 0
    rw [depth_strs m]
    rfl
theorem shaped_s (m : Img) (o : ImgOk m) : SeqAt.shaped (.tuple (pdS m)) = true := by
  show (PyData.canLayAll0 (pdS m) && decide (PyData.depthAll (pdS m) + 1 ≤ 64)) = true
  rw [lay_strs m fun l hl => ok_txt (fun c hc => by have := o.cell l hl c hc; omega), depth_strs]
  rfl
theorem rv_neI {a b : Addr} {m : Img} (o : ImgOk m) (ha : TupI H a m) (hb : TupI H b m) : RV (rNeD K) (.ref a) (.ref b) H (.bl false) := fun H1 e Q q => ⟨_, _, .tup (st_of (e _ _ ha)) dp_strs, .tup (st_of (e _ _ hb)) dp_strs, shaped_s m o, shaped_s m o, by
  show Q (.bl (!PyData.eqvAll (pdS m) (pdS m))) H1
  rw [eqv_strs]
  exact q H1 (Ex.refl H1)⟩
theorem ev_neUV {m : Img} {b : Addr} (ha : EvU ta σ H (imgV m)) (hb : Ev tb σ H (.ref b)) (o : ImgOk m) (h : TupI H b m) : Ev (tOp (rNeD K) ta tb) σ H (.bl false) := fun H1 e Q q =>
  ha H1 e _ fun a H2 _ e2 h2 => hb H2 (e.trans e2) _ fun H3 e3 => rv_neI o (TupI.ex h2 e3) (h.ex ((e.trans e2).trans e3)) H3 (Ex.refl H3) Q fun H4 e4 => q H4 ((e2.trans e3).trans e4)
/-- views[i] != a new image -/
theorem ev_neIxU {m : Img} {i : Nat} (om : ImgOk m) (hv : EvRs td σ H os) (hi : Ev te σ H (.int (i : Int))) (ho : os[i]? = some (.tup (imgV m))) (hb : EvU tb σ H (imgV m)) : Ev (tOp (rNeD K) (tOp (rIxL K) td te) tb) σ H (.bl false) := fun H1 e Q q =>
  hv H1 e _ fun c qs H2 _ e2 h2 r2 => hi H2 (e.trans e2) _ fun H3 e3 => by
    have hlt : i < qs.length := by
      rw [r2.len]
      exact (List.getElem?_eq_some_iff.mp ho).1
    have hq : qs[i]? = some qs[i] := List.getElem?_eq_getElem hlt
    have hx : atI (refV qs) (i : Int) = some (.ref qs[i]) := by
      unfold atI
      rw [refV_len, ixN_nat hlt]
      show (refV qs)[i]? = _
      unfold refV
      rw [List.getElem?_map, hq]
      rfl
    exact rv_ixL (K := K) (sq_of (e3 _ _ h2)) hx H3 (Ex.refl H3) _ fun H4 e4 => hb H4 (((e.trans e2).trans e3).trans e4) _ fun b H5 _ e5 h5 =>
      rv_neI om (TupI.ex (show TupI H2 qs[i] m from r2.get i _ _ hq ho) ((e3.trans e4).trans e5)) h5 H5 (Ex.refl H5) Q fun H6 e6 => q H6 ((((e2.trans e3).trans e4).trans e5).trans e6)
/-- [.. for q in views if ..], a test that no one passes -/
theorem el_none {j : Nat} {vs : List Nat} (h : EvRs td σ H os) (hz : os.length ≤ 40000) (hw : ∀ x, wipe ((wipe σ vs).set j (some x)) vs = wipe σ vs)
    (ht : ∀ q o H1, Ex H H1 → o ∈ os → H1 q = some o → EvT t ((wipe σ vs).set j (some (.ref q))) H1 false) : EvL (tLc (iList K td) (gName j) t te vs) σ H [] := fun H0 e Q q =>
  h H0 e _ fun c qs H2 _ e2 h2 r2 => by
    have ev : Ev (tC (.ref c)) σ H2 (.ref c) := ev_c
    have z := el_lcL (K := K) (te := te) (t := t) (vs := vs) (j := j) (fun _ => false) (fun _ => V.non) ev (sq_of h2) (by rw [refV_len, r2.len]; exact hz) hw (fun i x H3 e3 hx => by
      obtain ⟨y, hy, rfl⟩ := refV_get hx
      have hlt := (List.getElem?_eq_some_iff.mp hy).1
      have ho : os[i]? = some (os[i]'(by rw [← r2.len]; exact hlt)) := List.getElem?_eq_getElem (by rw [← r2.len]; exact hlt)
      exact ht y _ H3 ((e.trans e2).trans e3) (List.getElem_mem _) (e3 _ _ (r2.get i y _ hy ho))) (fun i x H3 e3 hx hf => nomatch hf)
    have g : given (refV qs).length (fun _ => false) (fun _ => V.non) = [] := by
      unfold given
      rw [List.filter_eq_nil_iff.mpr (fun _ _ h => Bool.noConfusion h)]
      rfl
    rw [g] at z
    exact z H2 (Ex.refl H2) Q fun p H3 hp e3 h3 => q p H3 (fresh_back e2 hp) (e2.trans e3) h3
theorem el_catLV {b : Addr} (ha : EvL ta σ H xs) (hb : Ev tb σ H (.ref b)) (h0 : H b = some (.lst ys)) (hz : xs.length + ys.length ≤ 100000) : EvL (tOp rCat ta tb) σ H (xs ++ ys) := fun H1 e Q q =>
  ha H1 e _ fun a H2 _ e2 h2 => hb H2 (e.trans e2) _ fun H3 e3 => ⟨a, b, xs, ys, rfl, rfl, e3 _ _ h2, (e.trans (e2.trans e3)) _ _ h0, sz_of hz, fun c hc => q c _ (fresh_back (e2.trans e3) hc) ((e2.trans e3).trans (Ex.new hc)) upd_same⟩
theorem q_asgImg {i : Nat} {r : Addr} (h : Ev te σ H (.ref r)) (hrow : RowAt K H r) (k : ∀ m p H1, ImgOk m → H p = none → Ex H H1 → TupI H1 p m → tz D (σ.set i (some (.ref p))) H1) : tSeq (tAsg (tCall (spImgD K) [] E0 (tCons te tNil)) (gName i)) tz D σ H :=
  h H (Ex.refl H) _ fun H1 e1 => ⟨r, rfl, hrow.ex e1, fun m p H2 o hp e2 t => k m p H2 o (fresh_back e1 hp) (e1.trans e2) t⟩
theorem eu_img1 {sp : Sp} (ha : EvU ta σ H xs) (hs : ∀ a H1, Ex H H1 → H1 a = some (.tup xs) → SpU sp [.ref a] H1 ys) : EvU (tCall sp [] E0 (tCons ta tNil)) σ H ys := fun H1 e Q q =>
  ha H1 e _ fun a H2 _ e2 h2 => hs a H2 (e.trans e2) h2 H2 (Ex.refl H2) Q (fun p H3 hp e3 h3 => q p H3 (fresh_back e2 hp) (e2.trans e3) h3) E0
theorem ev_img1 {sp : Sp} {z : V} (ha : EvU ta σ H xs) (hs : ∀ a H1, Ex H H1 → H1 a = some (.tup xs) → SpV sp [.ref a] H1 z) : Ev (tCall sp [] E0 (tCons ta tNil)) σ H z := fun H1 e Q q =>
  ha H1 e _ fun a H2 _ e2 h2 => hs a H2 (e.trans e2) h2 H2 (Ex.refl H2) Q (fun H3 e3 => q H3 (e2.trans e3)) E0
theorem ev_imgS {sp : Sp} {z : V} (ha : EvS K ta σ H xs) (hs : ∀ a H1, Ex H H1 → SqT K H1 a xs → SpV sp [.ref a] H1 z) : Ev (tCall sp [] E0 (tCons ta tNil)) σ H z := fun H1 e Q q =>
  ha H1 e _ fun a H2 e2 h2 => hs a H2 (e.trans e2) h2 H2 (Ex.refl H2) Q (fun H3 e3 => q H3 (e2.trans e3)) E0
/-- a comprehension over a text -/
theorem el_lcS {l : List Nat} {j : Nat} {vs : List Nat} {g : Nat → V} (h : Ev tl σ H (.str (txt l))) (hz : l.length ≤ 40000) (hw : ∀ x, wipe ((wipe σ vs).set j (some x)) vs = wipe σ vs)
    (he : ∀ c H1, Ex H H1 → c ∈ l → Ev te ((wipe σ vs).set j (some (sgn c))) H1 (g c)) : EvL (tLc (iStr tl) (gName j) tYes te vs) σ H (l.map g) := fun H0 e Q q => h H0 e _ fun H1 e1 => ⟨_, rfl, fun Dl hD =>
  lc_it (walk_str l) (Cw H1 (fun _ => true) (fun i => g (l.getD i 0)) Dl) ⟨hD, Ex.new hD, upd_same⟩ (fun _ _ _ _ => trivial) (fun i x H2 H3 hi p y => by
    obtain ⟨rfl, hx⟩ := y
    rw [List.getElem?_map] at hx
    have hc := List.getElem?_eq_getElem hi
    rw [hc] at hx
    cases hx
    refine ⟨hw _, cw_turn p (by omega) (fun H4 _ Q4 q4 => q4 H4 (Ex.refl H4)) (fun _ => ?_)⟩
    have ed : l.getD i 0 = l[i] := by
      rw [List.getD_eq_getElem?_getD, hc]
      rfl
    rw [ed]
    exact he _ H1 (e.trans e1) (List.getElem_mem _)) (fun H' p => q Dl H' (fresh_back e1 p.1) (e1.trans p.2.1) (by
      rw [p.2.2, given_all, map_getD]))⟩
end
end Sq

/-! the law of penalties: more words -/
namespace Sq
open PySem PySem.Spec PyProof.Rows L2 Evl
section
variable {K : PySem.W.Frag} {σ : L2.St} {H : Hp} {ta tb td ty te tl : TE} {D : Ends} {tz tu : TS} {xs ys : List V} {d : Addr} {kvs : List (Key × V)} {v : V} {k : Key}
theorem ev_dgetK (hd : Ev td σ H (.ref d)) (hy : Ev ty σ H (kV k)) (h : H d = some (.dK kvs)) (hv : valV kvs k = some v) : Ev (tDGet td ty) σ H v := fun H1 e Q q =>
  hd H1 e _ fun H2 e2 => hy H2 (e.trans e2) _ fun H3 e3 => ⟨d, v, rfl, by
    have g := DGet.k (k := k) (((e.trans e2).trans e3) _ _ h)
    rw [hv] at g
    exact g, q H3 (e2.trans e3)⟩
theorem eu_eq (h : EvU te σ H xs) (e : xs = ys) : EvU te σ H ys := e ▸ h
theorem el_imgs {m : Img} {j : Nat} {vs : List Nat} {g : List Nat → V} (h : EvL tl σ H (imgV m)) (hz : m.length ≤ 40000) (hw : ∀ x, wipe ((wipe σ vs).set j (some x)) vs = wipe σ vs)
    (he : ∀ l H1, Ex H H1 → l ∈ m → Ev tb ((wipe σ vs).set j (some (.str (txt l)))) H1 (g l)) : EvL (tLc (iList K tl) (gName j) tYes tb vs) σ H (m.map g) := by
  have z := el_lcNL (K := K) (te := tb) (t := tYes) (fun _ => true) (fun n => g (m.getD n [])) h (by rw [imgV_len]; exact hz) hw (fun _ _ _ _ _ _ _ _ q => q _ (Ex.refl _)) (fun i x H1 e hx _ => by
    obtain ⟨l, hl, rfl, hm⟩ := imgV_get hx
    have e2 : m.getD i [] = l := by
      rw [List.getD_eq_getElem?_getD, hl]
      rfl
    rw [e2]
    exact he l H1 e hm)
  rw [given_all, imgV_len, map_getD] at z
  exact z
end
theorem rc_abs {H : Hp} {i : Int} : RC (fun xs H Q => ∃ i, xs = [.int i] ∧ Q (.int (if i < 0 then -i else i)) H) [.int i] H (.int (if i < 0 then -i else i)) := fun H1 _ _ q => ⟨i, rfl, q H1 (Ex.refl H1)⟩
theorem imgV_app (m k : Img) : imgV m ++ imgV k = imgV (m ++ k) := by
  unfold imgV
  rw [List.map_append, List.map_append]
theorem sum_runs (m : Img) : ((m ++ colsOf m).map fun l => ((pen l : Nat) : Int)).sum = penI m := by
  rw [List.map_append, List.sum_append]
  rfl
theorem cols_v (m : Img) : imgV (colsOf m) = given ((m.length : Nat) : Int).toNat (fun _ => true) (fun i => V.str (txt (colAt m i))) := by
  rw [given_all, Int.toNat_natCast]
  unfold imgV colsOf
  rw [List.map_map, List.map_map]
  rfl
theorem views_ok {m : Img} (o : ImgOk m) : ∀ k ∈ turns m ++ turns (mirI m), ImgOk k := by
  have t : ∀ {m : Img}, ImgOk m → ∀ k ∈ turns m, ImgOk k := fun {m} o k hk => by
    unfold turns at hk
    simp only [List.mem_cons, List.not_mem_nil, or_false] at hk
    rcases hk with rfl | rfl | rfl | rfl
    · exact o
    · exact rotI_ok o
    · exact rotI_ok (rotI_ok o)
    · exact rotI_ok (rotI_ok (rotI_ok o))
  intro k hk
  rcases List.mem_append.mp hk with h | h
  · exact t o k h
  · exact t (mirI_ok o) k h
theorem col_ok {m : Img} (o : ImgOk m) : ImgOk (colI inv3 m) := by
  have len : (colI inv3 m).length = m.length := by
    unfold colI
    rw [List.length_map]
  refine ⟨by rw [len]; exact o.side, fun l hl => ?_, fun l hl c hc => ?_⟩
  · obtain ⟨l', hl', rfl⟩ := List.mem_map.mp hl
    rw [List.length_map, len]
    exact o.row l' hl'
  · obtain ⟨l', hl', rfl⟩ := List.mem_map.mp hl
    obtain ⟨x, hx, rfl⟩ := List.mem_map.mp hc
    rcases o.cell l' hl' x hx with rfl | rfl | rfl
    · exact .inr (.inl rfl)
    · exact .inl rfl
    · exact .inr (.inr rfl)
theorem rev_ok {m : Img} (o : ImgOk m) : ImgOk m.reverse := ⟨by rw [List.length_reverse]; exact o.side, fun l hl => by rw [List.length_reverse]; exact o.row l (List.mem_reverse.mp hl), fun l hl => o.cell l (List.mem_reverse.mp hl)⟩
theorem imgV_rev (m : Img) : (imgV m).reverse = imgV m.reverse := by
  unfold imgV
  rw [List.map_reverse, List.map_reverse]
def newK : List (Key × V) := [(.inr "#", .str "."), (.inr ".", .str "#"), (.inr "?", .str "?")]
theorem newK_at {c : Nat} (h : c = 35 ∨ c = 46 ∨ c = 63) : valV (mergeK [] newK) (.inr ⟨#[c]⟩) = some (sgn (inv3 c)) := by
  rcases h with rfl | rfl | rfl <;> rfl
theorem set_line {l : List Nat} {c : Nat} (h : c < l.length) : (cutL l none (some (c : Int)) ++ [35]) ++ cutL l (some ((c : Int) + 1)) none = l.set c 35 := by
  have e : ((c : Int) + 1) = ((c + 1 : Nat) : Int) := by omega
  rw [e, cutL_hi, cutL_lo, List.append_assoc, List.set_eq_take_append_cons_drop, if_pos h]
  rfl
theorem set_img {m : Img} {r : Nat} {l : List Nat} (h : r < m.length) : (cutV (imgV m) none (some (r : Int)) ++ [V.str (txt l)]) ++ cutV (imgV m) (some ((r : Int) + 1)) none = imgV (m.set r l) := by
  have e : ((r : Int) + 1) = ((r + 1 : Nat) : Int) := by omega
  rw [e, cut_hi, cut_lo, List.set_eq_take_append_cons_drop, if_pos h, List.append_assoc]
  unfold imgV
  rw [List.map_append, List.map_append, List.map_cons, List.map_cons, List.map_take, List.map_take, List.map_drop, List.map_drop]
  rfl
theorem dark_v (n : Nat) : (List.replicate ((n : Int)).toNat [V.str (txt (List.replicate n 35))]).flatten = imgV (darkI n) := by
  rw [Int.toNat_natCast]
  unfold imgV darkI
  rw [List.map_replicate, List.map_replicate, List.flatten_replicate_singleton]
end Sq

/-! messages: characters and their symbols -/
namespace Sq
open PySem PySem.Spec PyProof.Rows L2 Evl
def DIG : List Nat := [48, 49, 50, 51, 52, 53, 54, 55, 56, 57, 32, 46]
def LET : List Nat := [101, 116, 97, 111, 105, 110, 115, 114, 104, 108, 100, 117, 32]
def RAR : List Nat := [99, 109, 102, 112, 103, 119, 121, 98, 118, 107, 120, 106, 113, 122, 44, 39]
abbrev digS : Str := "0123456789 ."
abbrev letS : Str := "etaoinsrhldu "
abbrev rarS : Str := "cmfpgwybvkxjqz,'"
abbrev alpS : Str := " !\"#$&'()*+,-./0123456789:;<=>?@ABCDEFGHIJKLMNOPQRSTUVWXYZ[\\]^_`abcdefghijklmnopqrstuvwxyz{|}~"
def cpsL (s : Str) : List Nat := s.cps.toList
/-- where a sign stands in a text -/
def ixIn (s : Str) (c : Nat) : Nat := (cpsL s).idxOf c
def idxOk (s : Str) (c : Nat) : Bool := decide (Builtin.Str.occurrences s ⟨#[c]⟩ 0 s.length 1 = [ixIn s c])
theorem dig_ix : ∀ c ∈ cpsL digS, idxOk digS c = true := by decide +kernel
theorem let_ix : ∀ c ∈ cpsL letS, idxOk letS c = true := by decide +kernel
theorem rar_ix : ∀ c ∈ cpsL rarS, idxOk rarS c = true := by decide +kernel
theorem alp_ix : ∀ c ∈ cpsL alpS, idxOk alpS c = true := by decide +kernel
theorem alp_len : (cpsL alpS).length = 94 := by decide +kernel
/-- the symbols of a sign in a mode; none in letter mode for some -/
def digW (c : Nat) : List Int := if c ∈ cpsL digS then [(ixIn digS c : Nat)] else if c = 45 then [14] else [13, ((ixIn alpS c : Nat) : Int) / 2 ^ Int.toNat 4, Builtin.bitAnd ((ixIn alpS c : Nat) : Int) 15]
def letW (c : Nat) : List Int := if c ∈ cpsL letS then [(ixIn letS c : Nat)] else if c ∈ cpsL rarS then [13, (ixIn rarS c : Nat)] else []
def wrtW (c : Nat) (m : Nat) : List Int := if m = 0 then digW c else letW c
def spDigW : Sp := fun vs H Q _ => ∃ c, vs = [sgn c] ∧ c ∈ cpsL alpS ∧ RetL ((digW c).map V.int) H Q
def spLetW : Sp := fun vs H Q _ => ∃ c, vs = [sgn c] ∧ RetL ((letW c).map V.int) H Q
def spWrt : Sp := fun vs H Q _ => ∃ c m : Nat, vs = [sgn c, .int (m : Int)] ∧ c ∈ cpsL alpS ∧ RetL ((wrtW c m).map V.int) H Q
theorem spl_digW {H : Hp} {c : Nat} (h : c ∈ cpsL alpS) : SpL spDigW [sgn c] H ((digW c).map V.int) := fun H1 e _ q _ => ⟨c, rfl, h, fun p H2 hp e2 h2 => q p H2 hp e2 h2⟩
theorem spl_letW {H : Hp} {c : Nat} : SpL spLetW [sgn c] H ((letW c).map V.int) := fun H1 e _ q _ => ⟨c, rfl, fun p H2 hp e2 h2 => q p H2 hp e2 h2⟩
theorem spl_wrt {H : Hp} {c m : Nat} (h : c ∈ cpsL alpS) : SpL spWrt [sgn c, .int (m : Int)] H ((wrtW c m).map V.int) := fun H1 e _ q _ => ⟨c, m, rfl, h, fun p H2 hp e2 h2 => q p H2 hp e2 h2⟩
section
variable {K : PySem.W.Frag} {σ : L2.St} {H : Hp} {ta tb te tl : TE}
abbrev rIdx : V → List V → Hp → VK → Prop := fun x xs H Q => ∃ a b i rest, x = .str a ∧ xs = [.str b] ∧ Builtin.Str.occurrences a b 0 a.length 1 = i :: rest ∧ Q (.int (i : Nat)) H
theorem ev_idx {s : Str} {c : Nat} (h : Ev te σ H (.str s)) (hc : Ev tb σ H (sgn c)) (ok : idxOk s c = true) : Ev (tM1 rIdx te tb) σ H (.int (ixIn s c : Nat)) := fun H1 e Q q =>
  h H1 e _ fun H2 e2 => ⟨⟨s, rfl⟩, hc H2 (e.trans e2) _ fun H3 e3 => ⟨s, _, ixIn s c, [], rfl, rfl, of_decide_eq_true ok, q H3 (e2.trans e3)⟩⟩
theorem rv_inS1 {s : Str} {c : Nat} : RV (fun x y H Q => ∃ (c : Nat) (z : Str), x = .str ⟨#[c]⟩ ∧ y = .str z ∧ Q (.bl (decide (c ∈ z.cps.toList))) H) (sgn c) (.str s) H (.bl (decide (c ∈ cpsL s))) := fun H1 _ Q q => ⟨c, s, rfl, rfl, q H1 (Ex.refl H1)⟩
theorem rv_niS1 {s : Str} {c : Nat} : RV (fun x y H Q => ∃ (c : Nat) (z : Str), x = .str ⟨#[c]⟩ ∧ y = .str z ∧ Q (.bl (!decide (c ∈ z.cps.toList))) H) (sgn c) (.str s) H (.bl (!decide (c ∈ cpsL s))) := fun H1 _ Q q => ⟨c, s, rfl, rfl, q H1 (Ex.refl H1)⟩
end
end Sq

/-! messages: the ways to write a character -/
namespace Sq
open PySem PySem.Spec PyProof.Rows L2 Evl
abbrev Way := List Int × Nat
/-- new tuples of a new list and a mode -/
structure WaysO (H : Hp) (qs : List Addr) (ws : List Way) : Prop where
  len : qs.length = ws.length
  get : ∀ (i : Nat) (q : Addr) (w : Way), qs[i]? = some q → ws[i]? = some w → ∃ l, H q = some (.tup [.ref l, .int (w.2 : Int)]) ∧ H l = some (.lst (w.1.map V.int))
theorem WaysO.ex {H H' : Hp} {qs : List Addr} {ws : List Way} (h : WaysO H qs ws) (e : Ex H H') : WaysO H' qs ws := ⟨h.len, fun i q w a b => by
  obtain ⟨l, h1, h2⟩ := h.get i q w a b
  exact ⟨l, e _ _ h1, e _ _ h2⟩⟩
theorem WaysO.snoc {H : Hp} {qs : List Addr} {ws : List Way} {q l : Addr} {w : Way} (h : WaysO H qs ws) (hq : H q = some (.tup [.ref l, .int (w.2 : Int)])) (hl : H l = some (.lst (w.1.map V.int))) : WaysO H (qs ++ [q]) (ws ++ [w]) where
  len := by rw [List.length_append, List.length_append, h.len]; rfl
  get := fun i x y a b => by
    by_cases hi : i < qs.length
    · rw [List.getElem?_append_left hi] at a
      rw [List.getElem?_append_left (by rw [← h.len]; exact hi)] at b
      exact h.get i x y a b
    · rw [List.getElem?_append_right (by omega)] at a
      rw [List.getElem?_append_right (by rw [← h.len]; omega), ← h.len] at b
      have z : i - qs.length = 0 := by
        have := (List.getElem?_eq_some_iff.mp a).1
        have y : [q].length = 1 := rfl
        omega
      rw [z] at a b
      cases a
      cases b
      exact ⟨l, hq, hl⟩
theorem WaysO.nil {H : Hp} : WaysO H [] [] := ⟨rfl, fun i q w a _ => by simp at a⟩
def swI (m : Nat) : Int := if m = 0 then 12 else 14
def way1 (c m : Nat) : List Way := if wrtW c m = [] then [] else [(wrtW c m, m)]
def way2 (c m : Nat) : List Way := if wrtW c (1 - m) = [] then [] else [(swI m :: wrtW c (1 - m), 1 - m)]
def waysOf (c m : Nat) : List Way := way1 c m ++ way2 c m
def RetWays (ws : List Way) (H : Hp) (Q : VK) : Prop := ∀ c qs H2, H c = none → Ex H H2 → H2 c = some (.lst (refV qs)) → WaysO H2 qs ws → Q (.ref c) H2
def spWays : Sp := fun vs H Q _ => ∃ c m : Nat, vs = [sgn c, .int (m : Int)] ∧ c ∈ cpsL alpS ∧ m ≤ 1 ∧ RetWays (waysOf c m) H Q
section
variable {K : PySem.W.Frag} {σ : L2.St} {H : Hp} {ta tb te tl : TE} {D : Ends} {v : V}
theorem tru_l {a : Addr} {xs : List V} (h : SqL K H a xs) : ∀ H1, Ex H H1 → TruV K (.ref a) H1 (!xs.isEmpty) := fun H1 e => .inl ⟨xs, ex_l e h, rfl⟩
theorem s_appLU {l : Addr} {xs ys : List V} (hl : H l = some (.lst xs)) (ha : Ev ta σ H (.ref l)) (h1 : EvL te σ H ys) (h2 : Ev tb σ H v) (hz : xs.length < 100000) (k : ∀ d p H1, H p = none → H d = none → Ex H H1 → H1 p = some (.tup [.ref d, v]) → H1 d = some (.lst ys) → D.nx σ (upd H1 l (.lst (xs ++ [.ref p])))) :
    tDrop (tBM K "list" rAppend ta (tCons (tTup (tCons te (tCons tb tNil))) tNil)) D σ H := ha H (Ex.refl H) _ fun H1 e1 =>
  ⟨Or.inl ⟨rfl, xs, sq_of (e1 l _ hl)⟩, h1 H1 e1 _ fun d H2 hd e2 hd2 => h2 H2 (e1.trans e2) _ fun H3 e3 => ⟨by show 2 ≤ sizeLine; decide, fun p hp =>
    have e03 := (e1.trans e2).trans e3
    ⟨l, xs, .ref p, rfl, rfl, (e03.trans (Ex.new hp)) l _ hl, sz_lt hz, k d p _ (fresh_back e03 hp) (fresh_back e1 hd) (e03.trans (Ex.new hp)) upd_same ((Ex.new hp) _ _ (e3 _ _ hd2))⟩⟩⟩
end
theorem waysO_upd {H : Hp} {qs rs : List Addr} {ws : List Way} {c0 : Addr} {o : HO} (h : WaysO H qs ws) (hc : H c0 = some (.lst (refV rs))) (hne : ∀ w ∈ ws, w.1 ≠ []) : WaysO (upd H c0 o) qs ws := ⟨h.len, fun i q w a b => by
  obtain ⟨l, h1, h2⟩ := h.get i q w a b
  have n1 : q ≠ c0 := fun z => by
    rw [z, hc] at h1
    cases h1
  have n2 : l ≠ c0 := fun z => by
    rw [z, hc] at h2
    have e : refV rs = w.1.map V.int := HO.lst.inj (Option.some.inj h2)
    have hw := hne w (List.mem_of_getElem? b)
    cases hx : w.1 with
    | nil => exact hw hx
    | cons x r =>
      rw [hx] at e
      cases rs with
      | nil => cases e
      | cons y r2 =>
        injection e with e1 _
        cases e1
  exact ⟨l, by rw [upd_ne n1]; exact h1, by rw [upd_ne n2]; exact h2⟩⟩
theorem dig_len (c : Nat) : (digW c).length ≤ 3 := by
  unfold digW
  split
  · show 1 ≤ 3; decide
  · split
    · show 1 ≤ 3; decide
    · show 3 ≤ 3; decide
theorem let_len (c : Nat) : (letW c).length ≤ 3 := by
  unfold letW
  split
  · show 1 ≤ 3; decide
  · split
    · show 2 ≤ 3; decide
    · show 0 ≤ 3; decide
theorem wrt_le (c m : Nat) : (wrtW c m).length ≤ 3 := by
  unfold wrtW
  split
  · exact dig_len c
  · exact let_len c
theorem wrt_len (c m : Nat) : [V.int (swI m)].length + (wrtW c (1 - m)).length ≤ 100000 := by
  have := wrt_le c (1 - m)
  show 1 + _ ≤ 100000
  omega
theorem way1_no {c m : Nat} (h : wrtW c m = []) : way1 c m = [] := by unfold way1; rw [if_pos h]
theorem way1_yes {c m : Nat} (h : wrtW c m ≠ []) : way1 c m = [(wrtW c m, m)] := by unfold way1; rw [if_neg h]
theorem way2_no {c m : Nat} (h : wrtW c (1 - m) = []) : way2 c m = [] := by unfold way2; rw [if_pos h]
theorem way2_yes {c m : Nat} (h : wrtW c (1 - m) ≠ []) : way2 c m = [(swI m :: wrtW c (1 - m), 1 - m)] := by unfold way2; rw [if_neg h]
theorem emp_not {l : List Int} (h : l ≠ []) : (!(l.map V.int).isEmpty) = true := by
  cases l with
  | nil => exact absurd rfl h
  | cons x r => rfl
theorem sw_at {m : Nat} (h : m ≤ 1) : atI ([V.int 12, .int 14] : List V) (m : Int) = some (.int (swI m)) := by
  rcases (by omega : m = 0 ∨ m = 1) with rfl | rfl <;> rfl
end Sq
namespace Sq
open PySem PySem.Spec PyProof.Rows L2 Evl
/-- a message: at most 200 characters of the alphabet -/
structure MsgOk (l : List Nat) : Prop where
  len : l.length ≤ 200
  chars : ∀ c ∈ l, c ∈ cpsL alpS
theorem alp_asc : ∀ c ∈ cpsL alpS, c < 128 := by decide +kernel
def spMsg : Sp := fun vs H Q _ => ∃ l : List Nat, vs = [.str (txt l)] ∧ MsgOk l ∧ RetV .non H Q
theorem spv_msg {H : Hp} {l : List Nat} (o : MsgOk l) : SpV spMsg [.str (txt l)] H .non := fun H1 e _ q _ => ⟨l, rfl, o, q⟩
/-- how many symbols a character has that begins with s -/
def cntW (s m : Int) : Int := if s ≠ 13 then 1 else if m = 0 then 3 else 2
def spCnt : Sp := spI2 (fun _ _ => True) fun s m => .int (cntW s m)
theorem spv_cnt {H : Hp} {s m : Int} : SpV spCnt [.int s, .int m] H (.int (cntW s m)) := spv_I2 trivial
end Sq

/-! messages: the shortest ways -/
namespace Sq
open PySem PySem.Spec PyProof.Rows L2 Evl
section
variable {K : PySem.W.Frag} {σ : L2.St} {H : Hp} {ta tb te tl : TE} {t : TT}
/-- [.. for written, mode in ways] -/
theorem el_lcWays {c : Addr} {qs : List Addr} {ws : List Way} {i j : Nat} {vs : List Nat} {g : Way → V} (h : Ev tl σ H (.ref c)) (hc : SqL K H c (refV qs)) (ho : WaysO H qs ws) (hz : ws.length ≤ 40000)
    (hw : ∀ x y, wipe (((wipe σ vs).set i (some x)).set j (some y)) vs = wipe σ vs)
    (he : ∀ w l H1, Ex H H1 → w ∈ ws → H1 l = some (.lst (w.1.map V.int)) → Ev te (((wipe σ vs).set i (some (.ref l))).set j (some (.int (w.2 : Int)))) H1 (g w)) :
    EvL (tLc (iList K tl) (gTup K 2 (gCons (gName i) (gCons (gName j) gNil))) tYes te vs) σ H (ws.map g) := fun H0 e Q q => h H0 e _ fun H1 e1 => ⟨c, rfl, ⟨refV qs, ex_l (e.trans e1) hc⟩, fun Dl hD =>
  lc_list (xs := refV qs) (Cw H1 (fun _ => true) (fun n => g (ws.getD n ([], 0))) Dl) ⟨hD, Ex.new hD, upd_same⟩ (fun n H' _ p => ex_l ((e.trans e1).trans p.2.1) hc) (fun n x H' hi p => by
    obtain ⟨y, hy, rfl⟩ := refV_get hi
    have hlt := (List.getElem?_eq_some_iff.mp hy).1
    have hwn : ws[n]? = some (ws[n]'(by rw [← ho.len]; exact hlt)) := List.getElem?_eq_getElem (by rw [← ho.len]; exact hlt)
    obtain ⟨l, h1, h2⟩ := (ho.ex (e.trans e1)).get n y _ hy hwn
    have e2 : ws.getD n ([], 0) = ws[n]'(by rw [← ho.len]; exact hlt) := by
      rw [List.getD_eq_getElem?_getD, hwn]
      rfl
    refine ⟨y, _, rfl, st_of (p.2.1 _ _ h1), rfl, _, _, rfl, _, _, rfl, rfl, hw _ _, ?_⟩
    refine cw_turn p (by rw [ho.len] at hlt; omega) (fun H4 _ Q4 q4 => q4 H4 (Ex.refl H4)) (fun _ => ?_)
    rw [e2]
    exact he _ l H1 (e.trans e1) (List.getElem_mem _) h2) (fun H' p => q Dl H' (fresh_back e1 p.1) (e1.trans p.2.1) (by
      rw [p.2.2, given_all, refV_len, ho.len, map_getD]))⟩
end
/-- what is to come, in each mode: how many symbols, how many ways -/
structure Rest where
  l0 : Nat
  n0 : Nat
  l1 : Nat
  n1 : Nat
def restAt (r : Rest) (m : Nat) : Nat × Nat := if m = 0 then (r.l0, r.n0) else (r.l1, r.n1)
/-- a list of two tuples -/
def RestO (H : Hp) (a : Addr) (r : Rest) : Prop := ∃ p q, H a = some (.lst [.ref p, .ref q]) ∧ H p = some (.tup [.int (r.l0 : Nat), .int (r.n0 : Nat)]) ∧ H q = some (.tup [.int (r.l1 : Nat), .int (r.n1 : Nat)])
theorem RestO.ex {H H' : Hp} {a : Addr} {r : Rest} (h : RestO H a r) (e : Ex H H') : RestO H' a r := by
  obtain ⟨p, q, h1, h2, h3⟩ := h
  exact ⟨p, q, e _ _ h1, e _ _ h2, e _ _ h3⟩
theorem RestO.at {H : Hp} {a : Addr} {r : Rest} (h : RestO H a r) {m : Nat} (hm : m ≤ 1) : ∃ p xs, H a = some (.lst xs) ∧ atI xs (m : Int) = some (.ref p) ∧ H p = some (.tup [.int ((restAt r m).1 : Nat), .int ((restAt r m).2 : Nat)]) := by
  obtain ⟨p, q, h1, h2, h3⟩ := h
  rcases (by omega : m = 0 ∨ m = 1) with rfl | rfl
  · exact ⟨p, _, h1, rfl, h2⟩
  · exact ⟨q, _, h1, rfl, h3⟩
def wayLen (r : Rest) (w : Way) : Nat := w.1.length + (restAt r w.2).1
def minL : List Nat → Nat
  | [] => 0
  | [x] => x
  | x :: y :: r => min x (minL (y :: r))
def shortW (r : Rest) (ws : List Way) : List Way := ws.filter fun w => wayLen r w = minL (ws.map (wayLen r))
def spShort : Sp := fun vs H Q _ => ∃ a b qs ws r, vs = [.ref a, .ref b] ∧ H a = some (.lst (refV qs)) ∧ WaysO H qs ws ∧ ws.length ≤ 2 ∧ (∀ w ∈ ws, w.2 ≤ 1) ∧ RestO H b r ∧ RetWays (shortW r ws) H Q
theorem minL_le : ∀ {l : List Nat} {x : Nat}, x ∈ l → minL l ≤ x
  | [y], x, h => by
    rw [List.mem_singleton.mp h]
    exact Nat.le_refl _
  | y :: z :: r, x, h => by
    show min y (minL (z :: r)) ≤ x
    rcases List.mem_cons.mp h with rfl | h
    · exact Nat.min_le_left _ _
    · exact Nat.le_trans (Nat.min_le_right _ _) (minL_le h)
theorem minL_mem : ∀ {l : List Nat}, l ≠ [] → minL l ∈ l
  | [y], _ => List.mem_cons_self
  | y :: z :: r, _ => by
    show min y (minL (z :: r)) ∈ y :: z :: r
    by_cases h : y ≤ minL (z :: r)
    · rw [Nat.min_eq_left h]
      exact List.mem_cons_self
    · rw [Nat.min_eq_right (by omega)]
      exact List.mem_cons_of_mem _ (minL_mem (by simp))
end Sq

/-! messages: the shortest of some ways -/
namespace Sq
open PySem PySem.Spec PyProof.Rows L2 Evl
section
variable {K : PySem.W.Frag} {σ : L2.St} {H : Hp} {ta tb te tl : TE} {t : TT} {xs ys : List V}
/-- [.. for x, y in zip(l, m) if ..], l and m lists of one length -/
theorem el_lcZL {a b : Addr} {i j : Nat} {vs : List Nat} (f : Nat → Bool) (v : Nat → V) (ha : Ev ta σ H (.ref a)) (hxa : SqL K H a xs) (hb : Ev tb σ H (.ref b)) (hyb : SqL K H b ys) (hl : xs.length = ys.length) (hz : xs.length ≤ 40000)
    (hw : ∀ x y, wipe (((wipe σ vs).set i (some x)).set j (some y)) vs = wipe σ vs)
    (ht : ∀ (n : Nat) (x y : V) H1, Ex H H1 → xs[n]? = some x → ys[n]? = some y → EvT t (((wipe σ vs).set i (some x)).set j (some y)) H1 (f n))
    (he : ∀ (n : Nat) (x y : V) H1, Ex H H1 → xs[n]? = some x → ys[n]? = some y → f n = true → Ev te (((wipe σ vs).set i (some x)).set j (some y)) H1 (v n)) :
    EvL (tLc (RZ.iZipA K (tCons ta (tCons tb tNil))) (gTup K 2 (gCons (gName i) (gCons (gName j) gNil))) t te vs) σ H (given xs.length f v) := fun H0 e Q q =>
  ha H0 e _ fun H1 e1 => hb H1 (e.trans e1) _ fun H2 e2 => ⟨a, b, xs, ys, rfl, .inl ⟨ex_l ((e.trans e1).trans e2) hxa, ex_l ((e.trans e1).trans e2) hyb, fun Dl hD => by
  have e02 := (e.trans e1).trans e2
  have h1 := ex_l e02 hxa
  have h2 := ex_l e02 hyb
  refine ⟨fun n m H' => m = xs.length - n ∧ n ≤ xs.length ∧ Cw H2 f v Dl n H', ⟨xs.length, by simp, Nat.zero_le _, hD, Ex.new hD, upd_same⟩, ?_⟩
  rintro n m H' ⟨rfl, hn, p⟩
  have hx' : SqL K H' a xs := ex_l p.2.1 h1
  have hy' : SqL K H' b ys := ex_l p.2.1 h2
  by_cases hlt : n < xs.length
  · have hxn := List.getElem?_eq_getElem hlt
    have hyn := List.getElem?_eq_getElem (show n < ys.length by omega)
    refine .inr ⟨⟨xs, ys, _, _, hx', hy', hxn, hyn⟩, Cw H2 f v Dl (n + 1), fun H3 p3 => ⟨xs.length - (n + 1), by omega, rfl, hlt, p3⟩, fun w H3 hw3 => ?_⟩
    obtain ⟨T, x, y, rfl, hT, rfl, hxx, hyy⟩ := hw3
    have ne : T ≠ Dl := fun z => by
      rw [z, p.2.2] at hT
      cases hT
    have p3 : Cw H2 f v Dl n (upd H' T (.tup [x, y])) := ⟨p.1, p.2.1.trans (Ex.new hT), by rw [upd_ne (Ne.symm ne)]; exact p.2.2⟩
    refine ⟨T, _, rfl, st_of upd_same, rfl, _, _, rfl, _, _, rfl, rfl, hw _ _, ?_⟩
    exact cw_turn p3 (by omega) (ht n x y H2 e02 (hxx xs hx') (hyy ys hy')) (fun hf => he n x y H2 e02 (hxx xs hx') (hyy ys hy') hf)
  · have en : n = xs.length := by omega
    subst en
    exact .inl ⟨⟨xs, ys, hx', hy', .inl (Nat.le_refl _)⟩, q Dl H' (fresh_back (e1.trans e2) p.1) ((e1.trans e2).trans p.2.1) p.2.2⟩⟩⟩
theorem ev_minL {b : Addr} {ns : List Nat} (h : Ev te σ H (.ref b)) (hb : SqL K H b ((ns.map fun n => ((n : Nat) : Int)).map V.int)) (hne : ns ≠ []) : Ev (tCB (rMin K) (tCons te tNil)) σ H (.int (minL ns : Nat)) := fun H1 e Q q =>
  h H1 e _ fun H2 e2 => ⟨b, _, rfl, ex_l (e.trans e2) hb, by rw [List.length_map]; exact List.length_pos_iff.mpr hne, fun m hm hle => by
    have e3 : m = ((minL ns : Nat) : Int) := by
      obtain ⟨x, hx, rfl⟩ := List.mem_map.mp hm
      have z1 := hle _ (List.mem_map.mpr ⟨minL ns, minL_mem hne, rfl⟩)
      have z2 := minL_le hx
      omega
    rw [e3]
    exact q H2 e2⟩
end
theorem filter_range {α : Type} (l : List α) (d : α) (p : α → Bool) : ((List.range l.length).filter fun n => p (l.getD n d)).map (fun n => l.getD n d) = l.filter p := by
  have z := map_getD l d id
  have z : (List.range l.length).map (fun n => l.getD n d) = l := by
    rw [show (fun n => l.getD n d) = fun n => id (l.getD n d) from rfl, z, List.map_id]
  have y : (List.range l.length).filter (fun n => p (l.getD n d)) = (List.range l.length).filter (p ∘ fun n => l.getD n d) := rfl
  rw [y, ← List.filter_map, z]
/-- some of the ways -/
theorem WaysO.pick {H : Hp} {qs : List Addr} {ws : List Way} (h : WaysO H qs ws) (ks : List Nat) (hk : ∀ k ∈ ks, k < ws.length) : WaysO H (ks.map fun k => qs.getD k 0) (ks.map fun k => ws.getD k ([], 0)) := ⟨by rw [List.length_map, List.length_map], fun i q w a b => by
  rw [List.getElem?_map] at a b
  cases e : ks[i]? with
  | none => rw [e] at a; cases a
  | some k =>
    rw [e] at a b
    have hkl := hk k (List.mem_of_getElem? e)
    have a : qs.getD k 0 = q := Option.some.inj a
    have b : ws.getD k ([], 0) = w := Option.some.inj b
    refine h.get k q w ?_ ?_
    · rw [← a, List.getD_eq_getElem?_getD, List.getElem?_eq_getElem (by rw [h.len]; exact hkl)]
      rfl
    · rw [← b, List.getD_eq_getElem?_getD, List.getElem?_eq_getElem hkl]
      rfl⟩
theorem shortW_pick (r : Rest) (ws : List Way) : shortW r ws = ((List.range ws.length).filter fun n => decide (wayLen r (ws.getD n ([], 0)) = minL (ws.map (wayLen r)))).map fun n => ws.getD n ([], 0) := by
  unfold shortW
  exact (filter_range ws ([], 0) (fun w => decide (wayLen r w = minL (ws.map (wayLen r))))).symm
end Sq

/-! messages: what is to come -/
namespace Sq
open PySem PySem.Spec PyProof.Rows L2 Evl
def EvWays (te : TE) (σ : L2.St) (H : Hp) (ws : List Way) : Prop := ∀ H1, Ex H H1 → ∀ Q : VK, (∀ c qs H2, H1 c = none → Ex H1 H2 → H2 c = some (.lst (refV qs)) → WaysO H2 qs ws → Q (.ref c) H2) → te σ H1 Q
section
variable {K : PySem.W.Frag} {σ : L2.St} {H : Hp} {ta tb te td : TE} {tA : TA} {D : Ends} {tu tz : TS} {ws : List Way}
theorem ways_call {sp : Sp} {vs : List V} (h : EvA tA σ H vs) (hs : ∀ H1, Ex H H1 → ∀ Q : VK, RetWays ws H1 Q → ∀ E : XK, sp vs H1 Q E) : EvWays (tCall sp [] E0 tA) σ H ws := fun H1 e Q q =>
  h H1 e _ fun H2 e2 => by
    show sp (vs ++ []) H2 Q E0
    rw [List.append_nil]
    exact hs H2 (e.trans e2) Q (fun c qs H3 hc e3 h3 h4 => q c qs H3 (fresh_back e2 hc) (e2.trans e3) h3 h4) E0
/-- for written, mode in ways -/
theorem q_forWays {i j : Nat} (h : EvWays td σ H ws) (Pv : Hp → Nat → L2.St → Hp → Prop) (h0 : ∀ B, Ex H B → Pv B 0 σ B) (hE : ∀ B n σ' H', Pv B n σ' H' → Ex B H')
    (hs : ∀ B (n : Nat) w l σ' H', Ex H B → ws[n]? = some w → Pv B n σ' H' → H' l = some (.lst (w.1.map V.int)) → tu { D with nx := Pv B (n + 1), ct := Pv B (n + 1), bk := tz D } ((σ'.set i (some (.ref l))).set j (some (.int (w.2 : Int)))) H')
    (hd : ∀ B σ' H', Ex H B → Pv B ws.length σ' H' → tz D σ' H') : tSeq (tFor (iList K td) (gTup K 2 (gCons (gName i) (gCons (gName j) gNil))) tu) tz D σ H :=
  h H (Ex.refl H) _ fun c qs B _ eB hB hw => ⟨c, rfl, ⟨refV qs, sq_of hB⟩, for_list (xs := refV qs) (Pv B) (h0 B eB) (fun n σ' H' _ p => sq_of (hE _ _ _ _ p _ _ hB)) (fun n x σ' H' hi p => by
    obtain ⟨y, hy, rfl⟩ := refV_get hi
    have hlt := (List.getElem?_eq_some_iff.mp hy).1
    have hwn : ws[n]? = some (ws[n]'(by rw [← hw.len]; exact hlt)) := List.getElem?_eq_getElem (by rw [← hw.len]; exact hlt)
    obtain ⟨l, h1, h2⟩ := (hw.ex (hE _ _ _ _ p)).get n y _ hy hwn
    exact ⟨y, _, rfl, st_of h1, rfl, _, _, rfl, _, _, rfl, rfl, hs B n _ l σ' H' eB hwn p h2⟩) (fun σ' H' p => by
      rw [refV_len, hw.len] at p
      exact hd B σ' H' eB p)⟩
end
/-- how many ways in all -/
def sumN (r : Rest) (ws : List Way) : Nat := (ws.map fun w => (restAt r w.2).2).sum
def spMRest : Sp := fun vs H Q _ => ∃ a b qs ws r, vs = [.ref a, .ref b] ∧ H a = some (.lst (refV qs)) ∧ WaysO H qs ws ∧ ws ≠ [] ∧ ws.length ≤ 2 ∧ (∀ w ∈ ws, w.2 ≤ 1) ∧ RestO H b r ∧
  RetU [.int ((minL (ws.map (wayLen r)) : Nat) : Int), .int ((sumN r (shortW r ws) : Nat) : Int)] H Q
theorem short_mem {r : Rest} {ws : List Way} {w : Way} (h : w ∈ shortW r ws) : w ∈ ws ∧ wayLen r w = minL (ws.map (wayLen r)) := by
  unfold shortW at h
  obtain ⟨a, b⟩ := List.mem_filter.mp h
  exact ⟨a, of_decide_eq_true b⟩
theorem short_ne {r : Rest} {ws : List Way} (h : ws ≠ []) : shortW r ws ≠ [] := by
  have z := minL_mem (l := ws.map (wayLen r)) (by simpa using h)
  obtain ⟨w, hw, e⟩ := List.mem_map.mp z
  exact List.ne_nil_of_mem (List.mem_filter.mpr ⟨hw, decide_eq_true e⟩)
theorem sumN_s {r : Rest} {l : List Way} {n : Nat} {w : Way} (h : l[n]? = some w) : sumN r (l.take (n + 1)) = sumN r (l.take n) + (restAt r w.2).2 := by
  unfold sumN
  rw [List.take_add_one, h, List.map_append, List.sum_append]
  simp
end Sq

/-! reversed(text): made, walked, ended -/
namespace Sq
open PySem PySem.Spec PyProof.Rows L2 Evl
theorem norev_str : typeLookup (.type "str") "__reversed__" = pure none := by rw [typeLookup_type, builtinLookup_eq_fast]; kernel_rfl
theorem get_strT : typeLookup (.type "str") "__getitem__" = pure (some (.builtin "str.__getitem__")) := by rw [typeLookup_type, builtinLookup_eq_fast]; kernel_rfl
def rsObj (x : Str) (t : Tok) (i : Int) : Obj := { cls := .type "reversed", data := .fields #[.str x t, rawInt i] }
def IsRs (h : Heap) (a : Addr) (x : Str) (t : Tok) (i : Int) : Prop := ∃ o, h.get? a = some o ∧ o.cls = .type "reversed" ∧ o.data = .fields #[.str x t, rawInt i]
theorem IsRs.at {h h' : Heap} {a : Addr} {x : Str} {t : Tok} {i : Int} (z : IsRs h a x t i) (e : ∀ o, h.get? a = some o → h'.get? a = some o) : IsRs h' a x t i := let ⟨o, ho, r⟩ := z; ⟨o, e _ ho, r⟩
section
variable {prog : Program} {w : World} {A : Around} {E : Value → Shared → Prop} {s : Shared}
theorem IsRs.typeIs {a : Addr} {x : Str} {t : Tok} {i : Int} (z : IsRs s.heap a x t i) : s.TypeIs (.ref a) "reversed" := let ⟨o, ho, hc, _⟩ := z; ⟨o, ho, hc⟩
theorem code_reversed_str {x : Str} {t : Tok} {Q₁ : Value → Shared → Prop} (hfit : ¬ (x.length : Int) ≥ 2 ^ 63)
    (h : Q₁ (.ref s.heap.objs.size) { s with heap := s.heap.push (rsObj x t ((x.length : Int) - 1)), toks := s.toks + 1 + 1 }) :
    codeAny (model prog w) A (.call (.builtin "reversed.__new__") ⟨[.type "reversed", .str x t], []⟩) (wants Q₁ E) s := by
  have hT : s.TypeIs (.str x t) "str" := typeIs_str s x t
  refine codeAny_of_tree ?_
  show wpAny _ A.in1 (do checkBuiltinCall "reversed.__new__" ⟨[.type "reversed", .str x t], []⟩; again (.builtin "reversed.__new__" ⟨[.type "reversed", .str x t], []⟩)) _ _ s
  refine wpAny_bind (wpAny_of_eq (F.newCall_reversed_1 _) (wpAny_pure ⟨plainId_quiet F.plain_reversed_new _, codeAny_builtin F.entry_reversed_new ?_⟩))
  rw [Around.under_plainId F.plain_reversed_new _]
  unfold Builtin.«reversed.__new__»
  refine wpAny_bind (wpAny_of_eq (newClass_reversed _) ?_)
  try dsimp only
  refine wpAny_bind (wpAny_of_eq (a := ()) (by first | rfl | kernel_rfl) ?_)
  try dsimp only
  refine wpAny_bind (wpAny_of_eq (a := ()) (by first | rfl | kernel_rfl) ?_)
  try dsimp only
  refine wpAny_bind (wpAny_specialOf hT norev_str ?_)
  try dsimp only
  refine wpAny_bind ?_
  wp_delta
  refine wpAny_bind (wpAny_isInstance (T := "str") (U := "dict") (b := false) hT PySem.F.sub_str_dict ?_)
  try dsimp only
  try rw [if_neg Bool.false_ne_true]
  try dsimp only
  refine wpAny_bind (wpAny_specialOf hT get_strT ?_)
  try dsimp only
  try rw [if_pos (by decide +kernel)]
  refine wpAny_pure ?_
  try dsimp only
  try rw [if_neg (by decide)]
  try dsimp only
  refine wpAny_bind (P.len_str hfit ?_)
  refine wpAny_bind (wpAny_of_eq (a := some ((x.length : Nat) : Int)) rfl ?_)
  try dsimp only
  refine wpAny_bind ?_
  show wpAny _ _ (newObj (.type "reversed") (.fields #[.str x t, rawInt ((x.length : Int) - 1)])) _ _ _
  refine wpAny_newObj_type ?_
  exact wpAny_pure h

theorem call_reversed_str {x : Str} {t : Tok} {Q : Value → Shared → Prop} (hfit : ¬ (x.length : Int) ≥ 2 ^ 63)
    (h : Q (.ref s.heap.objs.size) { s with heap := s.heap.push (rsObj x t ((x.length : Int) - 1)), toks := s.toks + 1 + 1 }) : wpAny (model prog w) A (call (.type "reversed") [.str x t]) Q E s := by
  refine callType_codes (Q₁ := fun obj s₁ => s₁.TypeIs obj "reversed" ∧ Q obj s₁) RT.called_rt (F.typeCall_reversed_1 _) F.entry_object_init
    (code_reversed_str (A := A.in1) hfit ⟨⟨_, Heap.get?_push_size _ rfl, rfl⟩, h⟩) fun obj s₁ h₁ => ?_
  exact ⟨h₁.1, F.args_object_init_2 obj _, object_init_meets RT.called_rt.init.lookup RT.called_rt.made (by decide) prog w A.in1 _ s₁ ⟨h₁.1, rfl, h₁.2⟩⟩

theorem next_rs_item {it : Addr} {x : Str} {t : Tok} {i c : Nat} {Q : Option Value → Shared → Prop} (hit : IsRs s.heap it x t (i : Int)) (hx : x.cps[i]? = some c) (hsz : x.length ≤ sizeLine)
    (hQ : ∀ h' u, IsRs h' it x t ((i : Int) - 1) → Heap.SameBut it s.heap h' → Q (some (.str ⟨#[c]⟩ u)) { s with heap := h', toks := s.toks + 1 + 1 }) : wpAny (model prog w) A (pyNext (.ref it)) Q E s := by
  obtain ⟨o, ho, hc, hd⟩ := id hit
  have hi : i < x.cps.size := (Array.getElem?_eq_some_iff.mp hx).1
  have hT : s.TypeIs (.str x t) "str" := typeIs_str s x t
  have hl : x.length = x.cps.size := rfl
  rw [sizeLine_eq] at hsz
  unfold pyNext
  refine wpAny_bind (wpAny_attempt (wpAny_callSpecial?_slot (name := Str.ofString "__next__") hit.typeIs RT.slot_rt_next
    (wpAny_call_entry RT.slot_rt_next hit.typeIs RT.entry_rt_next ?_ (RT.args_rt_next _))))
  unfold Builtin.«reversed.__next__»
  refine wpAny_bind (wpAny_of_eq (a := (Value.ref it, [])) rfl ?_)
  try dsimp only
  refine wpAny_bind (wpAny_field ho hd (x := .str x t) rfl ?_)
  try dsimp only
  refine wpAny_bind (wpAny_field ho hd (x := rawInt (i : Int)) rfl ?_)
  show wpAny _ _ (if (i : Int) < 0 then _ else _) _ _ s
  rw [if_neg (by omega)]
  try dsimp only
  refine wpAny_bind (wpAny_specialOf hT get_strT ?_)
  try dsimp only
  try rw [if_neg (by decide)]
  try dsimp only
  refine wpAny_bind (wpAny_mkInt ?_)
  refine wpAny_bind (wpAny_attempt ?_)
  have fin : seqIndex? (i : Int) x.length = some i := seqIndex_of (by omega) (by omega)
  refine P.getItem_str (s := { s with toks := s.toks + 1 }) (c := c) (by
    have e1 : decide ((i : Int) < -(2 ^ 63 : Int)) = false := decide_eq_false (by omega)
    have e2 : decide ((i : Int) ≥ 2 ^ 63) = false := decide_eq_false (by omega)
    rw [e1, e2, Bool.or_false]) (by rw [fin]; exact hx) ?_
  try dsimp only
  refine wpAny_bind (wpAny_field (s := { s with toks := s.toks + 1 + 1 }) ho hd (x := rawInt (i : Int)) rfl ?_)
  try dsimp only
  refine wpAny_bind (wpAny_setField (s := { s with toks := s.toks + 1 + 1 }) ho hd (by simp) ?_)
  first
  | refine wpAny_pure ⟨_, rfl, wpAny_pure (hQ _ _ ?_ (Heap.SameBut.update ..))⟩
  | refine wpAny_bind (wpAny_pure (wpAny_pure ⟨_, rfl, wpAny_pure (hQ _ _ ?_ (Heap.SameBut.update ..))⟩))
  exact ⟨_, Heap.get?_update_self _ ho (Obj.isFreed_of_fields (Obj.data_mapFields hd _)), (Obj.cls_mapFields ..).trans hc, by
    rw [Obj.data_mapFields hd]; simp⟩

theorem next_rs_end {it : Addr} {x : Str} {t : Tok} {Q : Option Value → Shared → Prop} (hh : A.handled = none) (hit : IsRs s.heap it x t (-1))
    (hQ : ∀ h', Heap.ExtBut it s.heap h' → Q none { s with heap := h' }) : wpAny (model prog w) A (pyNext (.ref it)) Q E s := by
  obtain ⟨o, ho, hc, hd⟩ := id hit
  unfold pyNext
  refine wpAny_bind (wpAny_attempt (wpAny_callSpecial?_slot (name := Str.ofString "__next__") hit.typeIs RT.slot_rt_next
    (wpAny_call_entry RT.slot_rt_next hit.typeIs RT.entry_rt_next ?_ (RT.args_rt_next _))))
  unfold Builtin.«reversed.__next__»
  refine wpAny_bind (wpAny_of_eq (a := (Value.ref it, [])) rfl ?_)
  try dsimp only
  refine wpAny_bind (wpAny_field ho hd (x := .str x t) rfl ?_)
  try dsimp only
  refine wpAny_bind (wpAny_field ho hd (x := rawInt (-1)) rfl ?_)
  show wpAny _ _ (if (-1 : Int) < 0 then _ else _) _ _ s
  rw [if_pos (by decide)]
  try dsimp only
  refine wpAny_bind (wpAny_rule ?_)
  refine wpAny_bind ?_
  wp_delta
  refine wpAny_bind (wpAny_setField ho hd (by simp) ?_)
  have ho2 := Heap.get?_update_self (Obj.mapFields (·.setIfInBounds 1 (rawInt (-1)))) ho (Obj.isFreed_of_fields (Obj.data_mapFields hd _))
  refine wpAny_setField (s := { s with heap := s.heap.update it (Obj.mapFields (·.setIfInBounds 1 (rawInt (-1)))) }) ho2 (Obj.data_mapFields hd _) (by simp) ?_
  try dsimp only
  first
  | show wpAny _ _ (newExc (.type "StopIteration") [] >>= _) _ _ _
  | (refine wpAny_bind ?_; show wpAny _ _ (newExc (.type "StopIteration") [] >>= _) _ _ _)
  | (refine wpAny_bind ?_; wp_delta; show wpAny _ _ (newExc (.type "StopIteration") [] >>= _) _ _ _)
  refine wpAny_bind ?_
  simp only [newExc, newTuple]
  refine wpAny_bind (wpAny_newObj_type ?_ (by size_fits))
  refine wpAny_bind (m := firstArgMember _ _) (wpAny_of_eq (a := Value.none) (by first | rfl | (simp only [firstArgMember]; rfl)) ?_)
  refine wpAny_newObj_type ?_ (by size_fits)
  simp only [raiseNew]
  refine wpAny_bind (wpAny_handled ?_)
  first | rw [show A.in1.handled = none from hh] | rw [hh]
  refine wpAny_bind (wpAny_pure (wpAny_throw ?_))
  refine wpAny_bind (wpAny_isInstance (T := "StopIteration") (b := true) ⟨_, Heap.get?_push_size _ rfl, rfl⟩ isSubtype_stop ?_)
  refine wpAny_pure (hQ _ ?_)
  refine ((?_ : Heap.ExtBut it s.heap _).push _).push _
  exact fun b ob hb e => (Heap.get?_update_other _ _ (Ne.symm hb)).trans ((Heap.get?_update_other _ _ (Ne.symm hb)).trans e)

theorem iter_rs {it : Addr} {x : Str} {t : Tok} {i : Int} {Q : Value → Shared → Prop} (hit : IsRs s.heap it x t i) (h : Q (.ref it) s) : wpAny (model prog w) A (pyIter (.ref it)) Q E s := by
  refine wpAny_pyIter_slot hit.typeIs RT.slot_rt_iter (wpAny_call_entry RT.slot_rt_iter hit.typeIs RT.entry_rt_iter ?_ (RT.args_rt_iter _))
  show wpAny _ _ (ret (.ref it)) _ _ s
  exact wpAny_pure ⟨_, rfl, "reversed", _, hit.typeIs, RT.slot_rt_next.lookup, h⟩
end
/-- the turns of reversed(text) -/
def Itrs (x : Str) : It :=
  ⟨fun i _ => i < x.cps.size, fun i H v H' => H' = H ∧ ∃ c, x.cps[x.cps.size - 1 - i]? = some c ∧ v = .str ⟨#[c]⟩, fun i _ => x.cps.size ≤ i⟩
theorem turn_rs {P : Program} {w : World} {K : PySem.W.Frag} {tg : Expr} (x : Str) (t : Tok) (it : Addr) (hz : x.length ≤ sizeLine) : Turn P w K tg (Itrs x) [it] it (fun i h => i ≤ x.cps.size ∧ IsRs h it x t ((x.cps.size : Int) - 1 - (i : Nat))) where
  mem := by simp
  obj := fun i h st b hb => by
    have e : b = it := by simpa using hb
    subst e
    obtain ⟨_, o, e, c, d⟩ := st
    exact ⟨o, e, fun v z => by rw [d] at z; cases z⟩
  keep := fun i h h' st k => ⟨st.1, st.2.at fun o e => k it (by simp) o e⟩
  item := by
    intro X hP hw hK hc i pins s σ H E I hf st hg
    subst hP hw hK
    have hin : i < x.cps.size := hg
    obtain ⟨c, hx⟩ : ∃ c, x.cps[x.cps.size - 1 - i]? = some c := ⟨_, Array.getElem?_eq_getElem (by omega)⟩
    obtain ⟨f0, f1, f2, f3, f4, f5⟩ := hf it (by simp)
    obtain ⟨_, hit⟩ := st
    have e1 : (x.cps.size : Int) - 1 - ((i : Nat) : Int) = ((x.cps.size - 1 - i : Nat) : Int) := by omega
    rw [e1] at hit
    refine next_rs_item hit hx hz fun h' u st' sb => ?_
    have e2 : ((x.cps.size - 1 - i : Nat) : Int) - 1 = (x.cps.size : Int) - 1 - ((i + 1 : Nat) : Int) := by omega
    rw [e2] at st'
    have I1 : Inv X pins σ H { s with heap := h', toks := s.toks + 1 + 1 } := I.turned (t' := s.toks + 1 + 1) (fun b o hb e => (sb.2 b hb).trans e) f0 f1 f3 f4 f5
    obtain ⟨o, e, c1, d⟩ := id st'
    exact ⟨_, rfl, go_of (s := { s with heap := h', toks := s.toks + 1 + 1 }) e c1 d (by decide) ⟨.str ⟨#[c]⟩, H, I1, ⟨_, rfl⟩, ⟨rfl, c, hx, rfl⟩, ⟨hin, st'⟩, fun b hb => (hf b hb).1⟩⟩
  done := by
    intro X hP hw hK hc i pins s σ H E I hf st hg
    subst hP hw hK
    obtain ⟨f0, f1, f2, f3, f4, f5⟩ := hf it (by simp)
    obtain ⟨hin, hit⟩ := st
    have hge : x.cps.size ≤ i := hg
    have e1 : (x.cps.size : Int) - 1 - ((i : Nat) : Int) = -1 := by omega
    rw [e1] at hit
    exact next_rs_end (I.ok.hd hc) hit fun h' eb => ⟨rfl, I.turned (t' := s.toks) (fun b o hb e => eb b o hb e) f0 f1 f3 f4 f5⟩
  self := fun A i s Q E st h => iter_rs st.2 h
def iRevS (te : TE) : TI := fun σ H R => te σ H fun v H1 => ∃ x : Str, v = .str x ∧ x.length ≤ sizeLine ∧ R (Itrs x) H1
theorem pi_revSt {X : Cx} {tg e : Expr} {te : TE} {p pos : Pos} (hg : Gl X "reversed") (hm : X.mg "reversed" = none) (he : PE X e te) (hs : starEach [e] X.env = (false, eval e X.env) :: starEach [] X.env := by rfl) : PI X tg (.Call (.Name "reversed" p) [e] [] pos) (iRevS te) := by
  refine ⟨fun pins s σ H R I h => ?_⟩
  refine Call_ (ld_blt I hg hm PyProof.Rows.boot_reversed (PyProof.Rows.callWith_type1 (args_cons (thn (he.run pins s σ H _ I h) fun u s1 ⟨v, H1, I1, r1, q1⟩ => args_nil ?_) hs) hs rfl))
  obtain ⟨x, ev, hz, q⟩ := q1
  subst ev
  obtain ⟨t, rfl⟩ := r1
  have hn := line63
  have hl : x.length = x.cps.size := rfl
  have e1 : ((x.length : Nat) : Int) - 1 = (x.cps.size : Int) - 1 - ((0 : Nat) : Int) := by omega
  refine call_reversed_str (by omega) (iter_rs (x := x) (t := t) (i := ((x.length : Nat) : Int) - 1) ⟨_, Heap.get?_push_size _ rfl, rfl, rfl⟩ ?_)
  refine pi_one (tk := s1.toks + 1 + 1) I1 _ (turn_rs x t _ hz) ⟨Nat.zero_le _, ?_⟩ q
  rw [← e1]
  exact ⟨_, Heap.get?_push_size _ rfl, rfl, rfl⟩
theorem walk_rs (l : List Nat) : Walk (Itrs (txt l)) l.length (fun _ => True) (YAt (l.reverse.map sgn)) where
  goes := fun i H hi _ => by
    show i < l.toArray.size
    simpa using hi
  stops := fun H _ => by
    show l.toArray.size ≤ l.length
    simp
  yields := fun i H x H' hi _ h => by
    obtain ⟨e, c, hc, rfl⟩ := h
    refine ⟨e, ?_⟩
    have hc : l.toArray[l.toArray.size - 1 - i]? = some c := hc
    rw [List.getElem?_toArray, List.size_toArray] at hc
    rw [List.getElem?_map, List.getElem?_reverse hi, hc]
    rfl
section
variable {K : PySem.W.Frag} {σ : L2.St} {H : Hp} {ta tb te tl : TE} {D : Ends} {tu tz : TS}
/-- for c in reversed(text) -/
theorem q_forRS {l : List Nat} {j : Nat} (h : Ev tl σ H (.str (txt l))) (hz : l.length ≤ 100000) (Pv : Nat → L2.St → Hp → Prop) (h0 : ∀ H1, Ex H H1 → Pv 0 σ H1)
    (hs : ∀ i c σ' H', l.reverse[i]? = some c → Pv i σ' H' → tu { D with nx := Pv (i + 1), ct := Pv (i + 1), bk := tz D } (σ'.set j (some (sgn c))) H') (hd : ∀ σ' H', Pv l.length σ' H' → tz D σ' H') : tSeq (tFor (iRevS tl) (gName j) tu) tz D σ H :=
  h H (Ex.refl H) _ fun H1 e => ⟨_, rfl, sz_of (by show l.toArray.size ≤ 100000; simpa using hz), for_it (D := { D with nx := tz D }) (walk_rs l) Pv (h0 H1 e) (fun _ _ _ _ _ => trivial) (fun i x σ' H' H'' hi p y => by
    obtain ⟨rfl, hx⟩ := y
    rw [List.getElem?_map] at hx
    cases hc : l.reverse[i]? with
    | none => rw [hc] at hx; cases hx
    | some c =>
      rw [hc] at hx
      cases hx
      exact hs i c σ' _ hc p) hd⟩
end
end Sq

/-! values of any depth, and states told by them alone -/
namespace Dv
open PySem PySem.Spec PyProof.Rows L2 Evl Sq
inductive D where
  | sc (v : V)
  | row
  | tup (ds : List D)
  | lst (ds : List D)
  | dct (ks : List Key) (ds : List D)
mutual
inductive DV (K : PySem.W.Frag) (N : Hp) : V → D → Prop
  | sc {v : V} : DV K N v (.sc v)
  | row {r : Addr} : RowAt K N r → DV K N (.ref r) .row
  | tup {a : Addr} {xs : List V} {ds : List D} : SqT K N a xs → DVs K N xs ds → DV K N (.ref a) (.tup ds)
  | lst {a : Addr} {xs : List V} {ds : List D} : N a = some (.lst xs) → DVs K N xs ds → DV K N (.ref a) (.lst ds)
  | dct {a : Addr} {ks : List Key} {xs : List V} {ds : List D} : N a = some (.dK (ks.zip xs)) → ks.length = xs.length → DVs K N xs ds → DV K N (.ref a) (.dct ks ds)
inductive DVs (K : PySem.W.Frag) (N : Hp) : List V → List D → Prop
  | nil : DVs K N [] []
  | cons {v : V} {vs : List V} {d : D} {ds : List D} : DV K N v d → DVs K N vs ds → DVs K N (v :: vs) (d :: ds)
end
mutual
theorem DV.ex {K : PySem.W.Frag} {N N' : Hp} (e : Ex N N') : ∀ {v : V} {d : D}, DV K N v d → DV K N' v d
  | _, _, .sc => .sc
  | _, _, .row h => .row (h.ex e)
  | _, _, .tup h hs => .tup (ex_t e h) (DVs.ex e hs)
  | _, _, .lst h hs => .lst (e _ _ h) (DVs.ex e hs)
  | _, _, .dct h hl hs => .dct (e _ _ h) hl (DVs.ex e hs)
theorem DVs.ex {K : PySem.W.Frag} {N N' : Hp} (e : Ex N N') : ∀ {vs : List V} {ds : List D}, DVs K N vs ds → DVs K N' vs ds
  | _, _, .nil => .nil
  | _, _, .cons h hs => .cons (DV.ex e h) (DVs.ex e hs)
end
section
variable {K : PySem.W.Frag} {N N' : Hp}
theorem DVs.len : ∀ {vs : List V} {ds : List D}, DVs K N vs ds → vs.length = ds.length
  | _, _, .nil => rfl
  | _, _, .cons _ hs => congrArg (· + 1) hs.len
theorem DVs.get : ∀ {vs : List V} {ds : List D}, DVs K N vs ds → ∀ {i : Nat} {d : D}, ds[i]? = some d → ∃ v, vs[i]? = some v ∧ DV K N v d
  | _, _, .nil, i, d, h => by simp at h
  | _, _, .cons h hs, 0, d, e => by
    cases e
    exact ⟨_, rfl, h⟩
  | _, _, .cons h hs, i + 1, d, e => hs.get (i := i) (by simpa using e)
theorem DVs.getV : ∀ {vs : List V} {ds : List D}, DVs K N vs ds → ∀ {i : Nat} {v : V}, vs[i]? = some v → ∃ d, ds[i]? = some d ∧ DV K N v d
  | _, _, .nil, i, d, h => by simp at h
  | _, _, .cons h hs, 0, d, e => by
    cases e
    exact ⟨_, rfl, h⟩
  | _, _, .cons h hs, i + 1, d, e => hs.getV (i := i) (by simpa using e)
theorem DVs.app : ∀ {vs : List V} {ds : List D}, DVs K N vs ds → ∀ {ws : List V} {es : List D}, DVs K N ws es → DVs K N (vs ++ ws) (ds ++ es)
  | _, _, .nil, _, _, h => h
  | _, _, .cons h hs, _, _, h2 => .cons h (hs.app h2)
theorem DVs.one {v : V} {d : D} (h : DV K N v d) : DVs K N [v] [d] := .cons h .nil
theorem DVs.take : ∀ {vs : List V} {ds : List D}, DVs K N vs ds → ∀ n, DVs K N (vs.take n) (ds.take n)
  | _, _, .nil, n => by rw [List.take_nil, List.take_nil]; exact .nil
  | _, _, .cons h hs, 0 => .nil
  | _, _, .cons h hs, n + 1 => .cons h (hs.take n)
theorem DVs.drop : ∀ {vs : List V} {ds : List D}, DVs K N vs ds → ∀ n, DVs K N (vs.drop n) (ds.drop n)
  | _, _, .nil, n => by rw [List.drop_nil, List.drop_nil]; exact .nil
  | _, _, .cons h hs, 0 => .cons h hs
  | _, _, .cons h hs, n + 1 => hs.drop n
theorem DVs.rev : ∀ {vs : List V} {ds : List D}, DVs K N vs ds → DVs K N vs.reverse ds.reverse
  | _, _, .nil => .nil
  | _, _, .cons h hs => by
    rw [List.reverse_cons, List.reverse_cons]
    exact hs.rev.app (.one h)
theorem DVs.set : ∀ {vs : List V} {ds : List D}, DVs K N vs ds → ∀ {v : V} {d : D}, DV K N v d → ∀ i, DVs K N (vs.set i v) (ds.set i d)
  | _, _, .nil, _, _, _, i => .nil
  | _, _, .cons h hs, _, _, h2, 0 => .cons h2 hs
  | _, _, .cons h hs, _, _, h2, i + 1 => .cons h (hs.set h2 i)
/-- a list of scalars -/
theorem DVs.scs : ∀ {vs : List V} {us : List V}, DVs K N vs (us.map .sc) → vs = us
  | _, [], h => by cases h; rfl
  | _, u :: us, h => by
    cases h with
    | cons h hs =>
      cases h
      rw [hs.scs]
theorem DVs.ofSc : ∀ (us : List V), DVs K N us (us.map .sc)
  | [] => .nil
  | u :: us => .cons .sc (DVs.ofSc us)
theorem DVs.atI {vs : List V} {ds : List D} (h : DVs K N vs ds) {i : Int} {d : D} (hi : atI ds i = some d) : ∃ v, L2.atI vs i = some v ∧ DV K N v d := by
  unfold L2.atI at hi ⊢
  cases hx : ixN ds.length i with
  | none => rw [hx] at hi; cases hi
  | some j =>
    rw [hx] at hi
    obtain ⟨v, hv, hd⟩ := h.get (i := j) (d := d) hi
    refine ⟨v, ?_, hd⟩
    rw [h.len, hx]
    exact hv
end
/-! ### steps -/
structure Stp (N H N' H' : Hp) : Prop where
  n : Ex N N'
  h : Ex H H'
  s : Ex N' H'
  w : ∀ a, N a = none → N' a ≠ none → H a = none
section
variable {N H N1 H1 N2 H2 : Hp}
theorem Stp.refl (s : Ex N H) : Stp N H N H := ⟨Ex.refl N, Ex.refl H, s, fun _ h h' => absurd h h'⟩
theorem Stp.trans (a : Stp N H N1 H1) (b : Stp N1 H1 N2 H2) : Stp N H N2 H2 := ⟨a.n.trans b.n, a.h.trans b.h, b.s, fun x h h' => by
  by_cases hx : N1 x = none
  · exact fresh_back a.h (b.w x hx h')
  · exact a.w x h hx⟩
theorem Stp.keep (a : Stp N H N1 H1) {c : Addr} {o : HO} (hc : N c = none) (ho : H c = some o) : N1 c = none := by
  cases e : N1 c with
  | none => rfl
  | some u =>
    have z := a.w c hc (by rw [e]; exact fun x => nomatch x)
    rw [z] at ho
    cases ho
theorem Stp.new {p : Addr} {o : HO} (s : Ex N H) (hp : H p = none) : Stp N H (upd N p o) (upd H p o) := ⟨Ex.new (fresh_back s hp), Ex.new hp, fun a u e => by
  by_cases h : a = p
  · subst h
    rw [upd_same] at e ⊢
    exact e
  · rw [upd_ne h] at e ⊢
    exact s a u e, fun a h h' => by
  by_cases e : a = p
  · rw [e]; exact hp
  · rw [upd_ne e] at h'
    exact absurd h h'⟩
theorem Stp.heap (s : Ex N H) (e : Ex H H1) : Stp N H N H1 := ⟨Ex.refl N, e, s.trans e, fun _ h h' => absurd h h'⟩
/-- a fresh object that stands in the heap is told from here on -/
theorem Stp.frz (a : Stp N H N1 H1) {p : Addr} {o : HO} (hp : H p = none) (hn : N1 p = none) (ho : H1 p = some o) : Stp N H (upd N1 p o) H1 := ⟨a.n.trans (Ex.new hn), a.h, fun x u e => by
  by_cases h : x = p
  · subst h
    rw [upd_same] at e
    rw [ho, e]
  · rw [upd_ne h] at e
    exact a.s x u e, fun x h h' => by
  by_cases e : x = p
  · rw [e]; exact hp
  · rw [upd_ne e] at h'
    exact a.w x h h'⟩
end
/-! ### states -/
inductive Sl where
  | no
  | d (x : D)
  | own (xs : List D)
abbrev Ls := List Sl
abbrev Fx := List (Addr × HO)
def Has (Γ : Fx) (N : Hp) : Prop := ∀ p ∈ Γ, N p.1 = some p.2
theorem Has.ex {Γ : Fx} {N N' : Hp} (h : Has Γ N) (e : Ex N N') : Has Γ N' := fun p hp => e _ _ (h p hp)
/-- all but lists stays, and what was not told of it is not told of it now -/
structure Kp (N H N' H' : Hp) : Prop where
  n : Ex N N'
  h : ∀ a o, H a = some o → (∀ xs, o ≠ .lst xs) → H' a = some o
  o : ∀ a o, H a = some o → (∀ xs, o ≠ .lst xs) → N a = none → N' a = none
structure Bs where
  n : Hp
  h : Hp
  lo : Hp → Prop := fun _ => True
  up : ∀ {N N' : Hp}, Ex N N' → lo N → lo N' := by exact fun _ _ => trivial
  hx : Hp → Hp → Prop := fun _ _ => True
  hup : ∀ {N H N' H' : Hp}, Kp N H N' H' → hx N H → hx N' H' := by exact fun _ _ => trivial
theorem Stp.kp {N H N' H' : Hp} (s : Stp N H N' H') : Kp N H N' H' := ⟨s.n, fun a o h _ => s.h _ _ h, fun a o h _ n => s.keep n h⟩
structure Rel (K : PySem.W.Frag) (B : Bs) (N H : Hp) (σ : L2.St) (δ : Ls) : Prop where
  stp : Stp B.n B.h N H
  lo : B.lo N
  len : σ.length = δ.length
  d : ∀ (i : Nat) (x : D), δ[i]? = some (.d x) → ∃ v, σ[i]? = some (some v) ∧ DV K N v x
  own : ∀ (i : Nat) (ds : List D), δ[i]? = some (.own ds) → ∃ c xs, σ[i]? = some (some (.ref c)) ∧ H c = some (.lst xs) ∧ N c = none ∧ B.h c = none ∧ DVs K N xs ds
  ne : ∀ (i j : Nat) (ds es : List D) (c : Addr), δ[i]? = some (.own ds) → δ[j]? = some (.own es) → σ[i]? = some (some (.ref c)) → σ[j]? = some (some (.ref c)) → i = j
  hx : B.hx N H
section
variable {K : PySem.W.Frag} {B : Bs} {N H N1 H1 : Hp} {σ : L2.St} {δ : Ls}
theorem Rel.step (r : Rel K B N H σ δ) (s : Stp N H N1 H1) : Rel K B N1 H1 σ δ := ⟨r.stp.trans s, B.up s.n r.lo, r.len, fun i x h => by
  obtain ⟨v, a, b⟩ := r.d i x h
  exact ⟨v, a, b.ex s.n⟩, fun i ds h => by
  obtain ⟨c, xs, a, b, d, e, f⟩ := r.own i ds h
  exact ⟨c, xs, a, s.h _ _ b, s.keep d b, e, f.ex s.n⟩, r.ne, B.hup s.kp r.hx⟩
theorem set_get {α : Type} {l : List α} {i j : Nat} {x y : α} (h : (l.set i x)[j]? = some y) : (i = j ∧ x = y ∧ i < l.length) ∨ (i ≠ j ∧ l[j]? = some y) := by
  by_cases e : i = j
  · subst e
    by_cases hl : i < l.length
    · rw [List.getElem?_set_self hl] at h
      exact .inl ⟨rfl, Option.some.inj h, hl⟩
    · rw [List.getElem?_eq_none (by rw [List.length_set]; omega)] at h
      cases h
  · rw [List.getElem?_set_ne e] at h
    exact .inr ⟨e, h⟩
/-- a slot is given a value -/
theorem Rel.set (r : Rel K B N H σ δ) {v : V} {x : D} (h : DV K N v x) (i : Nat) : Rel K B N H (σ.set i (some v)) (δ.set i (.d x)) := ⟨r.stp, r.lo, by rw [List.length_set, List.length_set, r.len], fun j y e => by
  rcases set_get e with ⟨rfl, e2, hl⟩ | ⟨hne, e⟩
  · cases e2
    exact ⟨v, List.getElem?_set_self (by rw [r.len]; exact hl), h⟩
  · obtain ⟨u, a, b⟩ := r.d j y e
    exact ⟨u, by rw [List.getElem?_set_ne hne]; exact a, b⟩, fun j ds e => by
  rcases set_get e with ⟨rfl, e2, _⟩ | ⟨hne, e⟩
  · cases e2
  · obtain ⟨c, xs, a, b⟩ := r.own j ds e
    exact ⟨c, xs, by rw [List.getElem?_set_ne hne]; exact a, b⟩, fun j k ds es c e1 e2 e3 e4 => by
  rcases set_get e1 with ⟨rfl, z, _⟩ | ⟨hne, e1⟩
  · cases z
  · rcases set_get e2 with ⟨rfl, z, _⟩ | ⟨hne2, e2⟩
    · cases z
    · rw [List.getElem?_set_ne hne] at e3
      rw [List.getElem?_set_ne hne2] at e4
      exact r.ne j k ds es c e1 e2 e3 e4, r.hx⟩
/-- a slot is given a fresh list of its own -/
theorem Rel.setO (r : Rel K B N H σ δ) {p : Addr} {xs : List V} {ds : List D} (hB : B.h p = none) (hn : N p = none) (hh : H p = some (.lst xs)) (h : DVs K N xs ds) (hf : ∀ (j : Nat) (es : List D), δ[j]? = some (Sl.own es) → σ[j]? ≠ some (some (V.ref p))) (i : Nat) : Rel K B N H (σ.set i (some (.ref p))) (δ.set i (.own ds)) := ⟨r.stp, r.lo, by rw [List.length_set, List.length_set, r.len], fun j y e => by
  rcases set_get e with ⟨rfl, e2, hl⟩ | ⟨hne, e⟩
  · cases e2
  · obtain ⟨u, a, b⟩ := r.d j y e
    exact ⟨u, by rw [List.getElem?_set_ne hne]; exact a, b⟩, fun j es e => by
  rcases set_get e with ⟨rfl, e2, hl⟩ | ⟨hne, e⟩
  · cases e2
    exact ⟨p, xs, List.getElem?_set_self (by rw [r.len]; exact hl), hh, hn, hB, h⟩
  · obtain ⟨c, xs, a, b⟩ := r.own j es e
    exact ⟨c, xs, by rw [List.getElem?_set_ne hne]; exact a, b⟩, fun j k ds2 es c e1 e2 e3 e4 => by
  rcases set_get e1 with ⟨rfl, z, hl⟩ | ⟨hne, e1⟩
  · rw [List.getElem?_set_self (by rw [r.len]; exact hl)] at e3
    cases e3
    rcases set_get e2 with ⟨rfl, z, _⟩ | ⟨hne2, e2⟩
    · rfl
    · rw [List.getElem?_set_ne hne2] at e4
      exact absurd e4 (hf k es e2)
  · rw [List.getElem?_set_ne hne] at e3
    rcases set_get e2 with ⟨rfl, z, hl⟩ | ⟨hne2, e2⟩
    · rw [List.getElem?_set_self (by rw [r.len]; exact hl)] at e4
      cases e4
      exact absurd e3 (hf j ds2 e1)
    · rw [List.getElem?_set_ne hne2] at e4
      exact r.ne j k ds2 es c e1 e2 e3 e4, r.hx⟩
theorem Rel.fresh (r : Rel K B N H σ δ) {p : Addr} (hp : H p = none) : ∀ (j : Nat) (es : List D), δ[j]? = some (Sl.own es) → σ[j]? ≠ some (some (V.ref p)) := fun j es e z => by
  obtain ⟨c, xs, a, b, _⟩ := r.own j es e
  rw [a] at z
  cases z
  rw [hp] at b
  cases b
/-- the own list of a slot is changed -/
theorem Rel.mut (r : Rel K B N H σ δ) {i : Nat} {ds es : List D} {c : Addr} {ys : List V} (h : δ[i]? = some (.own ds)) (hc : σ[i]? = some (some (.ref c))) (h2 : DVs K N ys es) : Rel K B N (upd H c (.lst ys)) σ (δ.set i (.own es)) := by
  obtain ⟨c', xs, a, b, n0, b0, dv⟩ := r.own i ds h
  rw [hc] at a
  cases a
  have hi : i < δ.length := (List.getElem?_eq_some_iff.mp h).1
  refine ⟨⟨r.stp.n, Ex.mut r.stp.h b0, fun x u e => ?_, r.stp.w⟩, r.lo, by rw [List.length_set, r.len], fun j y e => ?_, fun j fs e => ?_, fun j k ds2 es2 d e1 e2 e3 e4 => ?_, B.hup ⟨Ex.refl N, fun x o ho hl => by rw [upd_ne (fun z => by rw [z, b] at ho; exact hl _ (Option.some.inj ho).symm)]; exact ho, fun x o _ _ h => h⟩ r.hx⟩
  · have hne : x ≠ c := fun z => by
      rw [z, n0] at e
      cases e
    rw [upd_ne hne]
    exact r.stp.s x u e
  · rcases set_get e with ⟨rfl, e2, _⟩ | ⟨hne, e⟩
    · cases e2
    · exact r.d j y e
  · rcases set_get e with ⟨rfl, e2, hl⟩ | ⟨hne, e⟩
    · cases e2
      exact ⟨c, ys, hc, upd_same, n0, b0, h2⟩
    · obtain ⟨d, xs2, a1, b1, r1⟩ := r.own j fs e
      have hdc : d ≠ c := fun z => by
        subst z
        exact hne (r.ne i j ds fs d h e hc a1)
      exact ⟨d, xs2, a1, by rw [upd_ne hdc]; exact b1, r1⟩
  · rcases set_get e1 with ⟨rfl, _, _⟩ | ⟨hne, e1⟩
    · rcases set_get e2 with ⟨rfl, _, _⟩ | ⟨hne2, e2⟩
      · rfl
      · exact r.ne i k ds es2 d h e2 e3 e4
    · rcases set_get e2 with ⟨rfl, _, _⟩ | ⟨hne2, e2⟩
      · exact r.ne j i ds2 ds d e1 h e3 e4
      · exact r.ne j k ds2 es2 d e1 e2 e3 e4
/-- the own list of a slot is told from here on as a value -/
theorem Rel.frz (r : Rel K B N H σ δ) {i : Nat} {ds : List D} (h : δ[i]? = some (.own ds)) : ∃ N1, Ex N N1 ∧ Rel K B N1 H σ (δ.set i (.d (.lst ds))) := by
  obtain ⟨c, xs, a, b, n0, b0, dv⟩ := r.own i ds h
  have e1 : Ex N (upd N c (.lst xs)) := Ex.new n0
  refine ⟨upd N c (.lst xs), e1, ?_⟩
  have hi : i < δ.length := (List.getElem?_eq_some_iff.mp h).1
  refine ⟨⟨r.stp.n.trans e1, r.stp.h, fun x u e => ?_, fun x e e2 => ?_⟩, B.up e1 r.lo, by rw [List.length_set, r.len], fun j y e => ?_, fun j fs e => ?_, fun j k ds2 es2 d e1 e2 e3 e4 => ?_, B.hup ⟨e1, fun x o ho _ => ho, fun x o ho hl h => by rw [upd_ne (fun z => by rw [z, b] at ho; exact hl _ (Option.some.inj ho).symm)]; exact h⟩ r.hx⟩
  · by_cases hx : x = c
    · subst hx
      rw [upd_same] at e
      rw [b, e]
    · rw [upd_ne hx] at e
      exact r.stp.s x u e
  · by_cases hx : x = c
    · rw [hx]; exact b0
    · rw [upd_ne hx] at e2
      exact r.stp.w x e e2
  · rcases set_get e with ⟨rfl, e2, _⟩ | ⟨hne, e⟩
    · cases e2
      exact ⟨_, a, .lst upd_same (dv.ex e1)⟩
    · obtain ⟨v, p, q⟩ := r.d j y e
      exact ⟨v, p, q.ex e1⟩
  · rcases set_get e with ⟨rfl, e2, hl⟩ | ⟨hne, e⟩
    · cases e2
    · obtain ⟨d, xs2, a1, b1, n1, r1, r2⟩ := r.own j fs e
      have hdc : d ≠ c := fun z => by
        subst z
        exact hne (r.ne i j ds fs d h e a a1)
      exact ⟨d, xs2, a1, b1, by rw [upd_ne hdc]; exact n1, r1, r2.ex e1⟩
  · rcases set_get e1 with ⟨rfl, z, _⟩ | ⟨hne, e1⟩
    · cases z
    · rcases set_get e2 with ⟨rfl, z, _⟩ | ⟨hne2, e2⟩
      · cases z
      · exact r.ne j k ds2 es2 d e1 e2 e3 e4
end
end Dv

/-! what an expression, a test, a statement does to a state of values -/
namespace Dv
open PySem PySem.Spec PyProof.Rows L2 Evl Sq
section
variable (K : PySem.W.Frag) (Γ : Fx) (B : Bs)
/-- te gives a value of which k holds -/
def EvC (te : TE) (δ : Ls) (k : D → Prop) : Prop := ∀ N H σ, Has Γ N → Rel K B N H σ δ → ∀ Q : VK, (∀ v N' H' d, Stp N H N' H' → DV K N' v d → k d → Q v H') → te σ H Q
/-- te gives a list of its own, new -/
def EvO (te : TE) (δ : Ls) (k : List D → Prop) : Prop := ∀ N H σ, Has Γ N → Rel K B N H σ δ → ∀ Q : VK, (∀ p N' H' xs ds, Stp N H N' H' → H p = none → N' p = none → H' p = some (.lst xs) → DVs K N' xs ds → k ds → Q (.ref p) H') → te σ H Q
def EvB (tt : TT) (δ : Ls) (k : Bool → Prop) : Prop := ∀ N H σ, Has Γ N → Rel K B N H σ δ → ∀ Q : Bool → Hp → Prop, (∀ b N' H', Stp N H N' H' → k b → Q b H') → tt σ H Q
def EvAC (ta : TA) (δ : Ls) (k : List D → Prop) : Prop := ∀ N H σ, Has Γ N → Rel K B N H σ δ → ∀ Q : List V → Hp → Prop, (∀ vs N' H' ds, Stp N H N' H' → DVs K N' vs ds → k ds → Q vs H') → ta σ H Q
def EvOp (to : TO) (δ : Ls) (k : Option Int → Prop) : Prop := ∀ N H σ, Has Γ N → Rel K B N H σ δ → ∀ Q : Option Int → Hp → Prop, (∀ o N' H', Stp N H N' H' → k o → Q o H') → to σ H Q
def OpC (r : R2) (x y : D) (k : D → Prop) : Prop := ∀ N H v w, Ex N H → DV K N v x → DV K N w y → ∀ Q : VK, (∀ u N' H' d, Stp N H N' H' → DV K N' u d → k d → Q u H') → r v w H Q
def OpO (r : R2) (x y : D) (k : List D → Prop) : Prop := ∀ N H v w, Ex N H → DV K N v x → DV K N w y → ∀ Q : VK, (∀ p N' H' xs ds, Stp N H N' H' → H p = none → N' p = none → H' p = some (.lst xs) → DVs K N' xs ds → k ds → Q (.ref p) H') → r v w H Q
def UnC (r : V → Hp → VK → Prop) (x : D) (k : D → Prop) : Prop := ∀ N H v, Ex N H → DV K N v x → ∀ Q : VK, (∀ u N' H' d, Stp N H N' H' → DV K N' u d → k d → Q u H') → r v H Q
def CbC (r : List V → Hp → VK → Prop) (xs : List D) (k : D → Prop) : Prop := ∀ N H vs, Ex N H → Has Γ N → DVs K N vs xs → ∀ Q : VK, (∀ u N' H' d, Stp N H N' H' → DV K N' u d → k d → Q u H') → r vs H Q
def CbO (r : List V → Hp → VK → Prop) (xs : List D) (k : List D → Prop) : Prop := ∀ N H vs, Ex N H → Has Γ N → DVs K N vs xs → ∀ Q : VK, (∀ p N' H' ys ds, Stp N H N' H' → H p = none → N' p = none → H' p = some (.lst ys) → DVs K N' ys ds → k ds → Q (.ref p) H') → r vs H Q
def SlC (r : V → Option Int → Option Int → Hp → VK → Prop) (x : D) (lo hi : Option Int) (k : D → Prop) : Prop := ∀ N H v, Ex N H → DV K N v x → ∀ Q : VK, (∀ u N' H' d, Stp N H N' H' → DV K N' u d → k d → Q u H') → r v lo hi H Q
def SlO (r : V → Option Int → Option Int → Hp → VK → Prop) (x : D) (lo hi : Option Int) (k : List D → Prop) : Prop := ∀ N H v, Ex N H → DV K N v x → ∀ Q : VK, (∀ p N' H' xs ds, Stp N H N' H' → H p = none → N' p = none → H' p = some (.lst xs) → DVs K N' xs ds → k ds → Q (.ref p) H') → r v lo hi H Q
end
abbrev I (i : Int) : D := .sc (.int i)
abbrev Bo (b : Bool) : D := .sc (.bl b)
abbrev Non : D := .sc .non
abbrev TxD (l : List Nat) : D := .sc (.str (txt l))
section
variable {K : PySem.W.Frag} {Γ : Fx} {B : Bs} {δ : Ls} {ta tb tc te : TE} {tA : TA} {t u : TT} {k : D → Prop} {ko : List D → Prop} {r r' : R2} {d x y : D} {i : Nat}
theorem EvC.mono {k' : D → Prop} (h : EvC K Γ B te δ k) (m : ∀ d, k d → k' d) : EvC K Γ B te δ k' := fun N H σ g r Q q => h N H σ g r Q fun v N' H' d s dv kd => q v N' H' d s dv (m d kd)
theorem EvO.mono {k' : List D → Prop} (h : EvO K Γ B te δ ko) (m : ∀ d, ko d → k' d) : EvO K Γ B te δ k' := fun N H σ g r Q q => h N H σ g r Q fun p N' H' xs d s hp hn hh dv kd => q p N' H' xs d s hp hn hh dv (m d kd)
theorem ec_var (h : δ[i]? = some (.d d)) (hk : k d) : EvC K Γ B (tVar i) δ k := fun N H σ g r Q q => by
  obtain ⟨v, e, dv⟩ := r.d i d h
  exact ⟨v, e, q v N H d (Stp.refl r.stp.s) dv hk⟩
theorem ec_c {v : V} (hk : k (.sc v)) : EvC K Γ B (tC v) δ k := fun N H σ g r Q q => q v N H _ (Stp.refl r.stp.s) .sc hk
/-- a constant of the module, a tuple -/
theorem ec_cd {v : V} (h : ∀ N, DV K N v d) (hk : k d) : EvC K Γ B (tC v) δ k := fun N H σ g r Q q => q v N H _ (Stp.refl r.stp.s) (h N) hk
theorem ec_op (h : EvC K Γ B ta δ fun x => EvC K Γ B tb δ fun y => OpC K r x y k) : EvC K Γ B (tOp r ta tb) δ k := fun N H σ g r Q q => h N H σ g r _ fun v N1 H1 x s1 dv h2 => h2 N1 H1 σ (g.ex s1.n) (r.step s1) _ fun w N2 H2 y s2 dw h3 => h3 N2 H2 v w s2.s (dv.ex s2.n) dw Q fun z N3 H3 d s3 dz kd => q z N3 H3 d ((s1.trans s2).trans s3) dz kd
theorem eo_op (h : EvC K Γ B ta δ fun x => EvC K Γ B tb δ fun y => OpO K r x y ko) : EvO K Γ B (tOp r ta tb) δ ko := fun N H σ g r Q q => h N H σ g r _ fun v N1 H1 x s1 dv h2 => h2 N1 H1 σ (g.ex s1.n) (r.step s1) _ fun w N2 H2 y s2 dw h3 => h3 N2 H2 v w s2.s (dv.ex s2.n) dw Q fun z N3 H3 xs d s3 hp hn hh dz kd => q z N3 H3 xs d ((s1.trans s2).trans s3) (fresh_back (s1.trans s2).h hp) hn hh dz kd
theorem ec_un {r : V → Hp → VK → Prop} (h : EvC K Γ B ta δ fun x => UnC K r x k) : EvC K Γ B (tUn r ta) δ k := fun N H σ g r Q q => h N H σ g r _ fun v N1 H1 x s1 dv h2 => h2 N1 H1 v s1.s dv Q fun z N3 H3 d s3 dz kd => q z N3 H3 d (s1.trans s3) dz kd
theorem ec_cb {r : List V → Hp → VK → Prop} (h : EvAC K Γ B tA δ fun xs => CbC K Γ r xs k) : EvC K Γ B (tCB r tA) δ k := fun N H σ g r Q q => h N H σ g r _ fun v N1 H1 x s1 dv h2 => h2 N1 H1 v s1.s (g.ex s1.n) dv Q fun z N3 H3 d s3 dz kd => q z N3 H3 d (s1.trans s3) dz kd
theorem eo_cb {r : List V → Hp → VK → Prop} (h : EvAC K Γ B tA δ fun xs => CbO K Γ r xs ko) : EvO K Γ B (tCB r tA) δ ko := fun N H σ g r Q q => h N H σ g r _ fun v N1 H1 x s1 dv h2 => h2 N1 H1 v s1.s (g.ex s1.n) dv Q fun p N3 H3 xs ds s3 hp hn hh dz kd => q p N3 H3 xs ds (s1.trans s3) (fresh_back s1.h hp) hn hh dz kd
theorem ea_nilC {ko : List D → Prop} (hk : ko []) : EvAC K Γ B tNil δ ko := fun N H σ g r Q q => q [] N H [] (Stp.refl r.stp.s) .nil hk
theorem ea_consC {ko : List D → Prop} {tr : TA} (h : EvC K Γ B ta δ fun x => EvAC K Γ B tr δ fun xs => ko (x :: xs)) : EvAC K Γ B (tCons ta tr) δ ko := fun N H σ g r Q q => h N H σ g r _ fun v N1 H1 x s1 dv h2 => h2 N1 H1 σ (g.ex s1.n) (r.step s1) _ fun vs N2 H2 xs s2 dvs kd => q (v :: vs) N2 H2 (x :: xs) (s1.trans s2) (.cons (dv.ex s2.n) dvs) kd
theorem eo_lst (h : EvAC K Γ B tA δ fun xs => xs.length ≤ 100000 ∧ ko xs) : EvO K Γ B (tLst tA) δ ko := fun N H σ g r Q q => h N H σ g r _ fun vs N1 H1 xs s1 dv ⟨hl, kd⟩ => ⟨sz_of (by rw [dv.len]; exact hl), fun p hp => q p N1 _ vs xs (s1.trans (Stp.heap s1.s (Ex.new hp))) (fresh_back s1.h hp) (fresh_back s1.s hp) upd_same dv kd⟩
theorem ec_tup (h : EvAC K Γ B tA δ fun xs => xs.length ≤ 100000 ∧ k (.tup xs)) : EvC K Γ B (tTup tA) δ k := fun N H σ g r Q q => h N H σ g r _ fun vs N1 H1 xs s1 dv ⟨hl, kd⟩ => ⟨sz_of (by rw [dv.len]; exact hl), fun p hp => q (.ref p) _ _ (.tup xs) (s1.trans (Stp.new s1.s hp)) (.tup (st_of upd_same) (dv.ex (Ex.new (fresh_back s1.s hp)))) kd⟩
/-- a new list as a value -/
theorem ec_O (h : EvO K Γ B te δ fun ds => k (.lst ds)) : EvC K Γ B te δ k := fun N H σ g r Q q => h N H σ g r _ fun p N1 H1 xs ds s1 hp hn hh dv kd => q (.ref p) (upd N1 p (.lst xs)) H1 (.lst ds) (s1.frz hp hn hh) (.lst upd_same (dv.ex (Ex.new hn))) kd
theorem ec_if (h : EvB K Γ B t δ fun b => (b = true → EvC K Γ B ta δ k) ∧ (b = false → EvC K Γ B tb δ k)) : EvC K Γ B (tIf t ta tb) δ k := fun N H σ g r Q q => h N H σ g r _ fun b N1 H1 s1 ⟨h1, h2⟩ => by
  cases b with
  | true => exact h1 rfl N1 H1 σ (g.ex s1.n) (r.step s1) Q fun v N2 H2 d s2 dv kd => q v N2 H2 d (s1.trans s2) dv kd
  | false => exact h2 rfl N1 H1 σ (g.ex s1.n) (r.step s1) Q fun v N2 H2 d s2 dv kd => q v N2 H2 d (s1.trans s2) dv kd
theorem eb_test {kb : Bool → Prop} (h : EvC K Γ B te δ fun d => ∃ b, d = Bo b ∧ kb b) : EvB K Γ B (tTest te) δ kb := fun N H σ g r Q q => h N H σ g r _ fun v N1 H1 d s1 dv ⟨b, e, kd⟩ => by
  subst e
  cases dv
  exact ⟨b, rfl, q b N1 H1 s1 kd⟩
theorem eb_B {kb : Bool → Prop} (h : EvC K Γ B te δ fun d => ∃ b, d = Bo b ∧ kb b) : EvB K Γ B (tB te) δ kb := eb_test h
theorem eb_not {kb : Bool → Prop} (h : EvB K Γ B t δ fun b => kb (!b)) : EvB K Γ B (tNot t) δ kb := fun N H σ g r Q q => h N H σ g r _ fun b N1 H1 s1 kd => q (!b) N1 H1 s1 kd
theorem eb_and {kb : Bool → Prop} (h : EvB K Γ B t δ fun b => (b = true → EvB K Γ B u δ kb) ∧ (b = false → kb false)) : EvB K Γ B (tAnd t u) δ kb := fun N H σ g r Q q => h N H σ g r _ fun b N1 H1 s1 ⟨h1, h2⟩ => by
  cases b with
  | true => exact h1 rfl N1 H1 σ (g.ex s1.n) (r.step s1) Q fun b N2 H2 s2 kd => q b N2 H2 (s1.trans s2) kd
  | false => exact q false N1 H1 s1 (h2 rfl)
theorem eb_or {kb : Bool → Prop} (h : EvB K Γ B t δ fun b => (b = true → kb true) ∧ (b = false → EvB K Γ B u δ kb)) : EvB K Γ B (tOr t u) δ kb := fun N H σ g r Q q => h N H σ g r _ fun b N1 H1 s1 ⟨h1, h2⟩ => by
  cases b with
  | true => exact q true N1 H1 s1 (h1 rfl)
  | false => exact h2 rfl N1 H1 σ (g.ex s1.n) (r.step s1) Q fun b N2 H2 s2 kd => q b N2 H2 (s1.trans s2) kd
theorem ec_and (h : EvC K Γ B ta δ fun d => ∃ b, d = Bo b ∧ (b = true → EvC K Γ B tb δ k) ∧ (b = false → k (Bo false))) : EvC K Γ B (tAndV ta tb) δ k := fun N H σ g r Q q => h N H σ g r _ fun v N1 H1 d s1 dv ⟨b, e, h1, h2⟩ => by
  subst e
  cases dv
  refine ⟨b, rfl, ?_⟩
  cases b with
  | true => exact h1 rfl N1 H1 σ (g.ex s1.n) (r.step s1) Q fun v N2 H2 d s2 dv kd => q v N2 H2 d (s1.trans s2) dv kd
  | false => exact q _ N1 H1 _ s1 .sc (h2 rfl)
theorem ec_or (h : EvC K Γ B ta δ fun d => ∃ b, d = Bo b ∧ (b = true → k (Bo true)) ∧ (b = false → EvC K Γ B tb δ k)) : EvC K Γ B (tOrV ta tb) δ k := fun N H σ g r Q q => h N H σ g r _ fun v N1 H1 d s1 dv ⟨b, e, h1, h2⟩ => by
  subst e
  cases dv
  refine ⟨b, rfl, ?_⟩
  cases b with
  | true => exact q _ N1 H1 _ s1 .sc (h1 rfl)
  | false => exact h2 rfl N1 H1 σ (g.ex s1.n) (r.step s1) Q fun v N2 H2 d s2 dv kd => q v N2 H2 d (s1.trans s2) dv kd
theorem ec_not (h : EvC K Γ B ta δ fun d => ∃ b, d = Bo b ∧ k (Bo !b)) : EvC K Γ B (tNotV ta) δ k := fun N H σ g r Q q => h N H σ g r _ fun v N1 H1 d s1 dv ⟨b, e, kd⟩ => by
  subst e
  cases dv
  exact ⟨b, rfl, q _ N1 H1 _ s1 .sc kd⟩
theorem ec_chain (h : EvC K Γ B ta δ fun x => EvC K Γ B tb δ fun y => OpC K r x y fun z => ∃ b, z = Bo b ∧ (b = true → EvC K Γ B tc δ fun z => OpC K r' y z fun z => ∃ c, z = Bo c ∧ k z) ∧ (b = false → k (Bo false))) : EvC K Γ B (tChain r r' ta tb tc) δ k := fun N H σ g rr Q q => h N H σ g rr _ fun v N1 H1 x s1 dv h2 => h2 N1 H1 σ (g.ex s1.n) (rr.step s1) _ fun w N2 H2 y s2 dw h3 => by
  refine h3 N2 H2 v w s2.s (dv.ex s2.n) dw _ fun z N3 H3 d s3 dz h4 => ?_
  obtain ⟨b, e, h1, h0⟩ := h4
  subst e
  cases dz
  have s03 := (s1.trans s2).trans s3
  refine ⟨b, rfl, ?_⟩
  cases b with
  | true =>
    show tc σ H3 _
    refine h1 rfl N3 H3 σ (g.ex s03.n) (rr.step s03) _ fun v4 N4 H4 d s4 dv4 h5 => ?_
    refine h5 N4 H4 w v4 s4.s ((dw.ex s3.n).ex s4.n) dv4 Q fun z N5 H5 d s5 dz h6 => ?_
    obtain ⟨c, e, kd⟩ := h6
    exact q _ N5 H5 _ ((s03.trans s4).trans s5) dz kd
  | false =>
    show Q (.bl false) H3
    exact q _ N3 H3 _ s03 .sc (h0 rfl)
theorem eo_partN {ko : Option Int → Prop} (h : ko none) : EvOp K Γ B tNoPart δ ko := fun N H σ g r Q q => q none N H (Stp.refl r.stp.s) h
theorem eo_part {ko : Option Int → Prop} (h : EvC K Γ B te δ fun d => ∃ i, d = I i ∧ ko (some i)) : EvOp K Γ B (tPart te) δ ko := fun N H σ g r Q q => h N H σ g r _ fun v N1 H1 d s1 dv ⟨i, e, kd⟩ => by
  subst e
  cases dv
  exact ⟨i, rfl, q _ N1 H1 s1 kd⟩
theorem ec_sl {rs : V → Option Int → Option Int → Hp → VK → Prop} {tl th : TO} (h : EvC K Γ B te δ fun x => EvOp K Γ B tl δ fun lo => EvOp K Γ B th δ fun hi => SlC K rs x lo hi k) : EvC K Γ B (tSl rs te tl th) δ k := fun N H σ g r Q q => h N H σ g r _ fun v N1 H1 d s1 dv h1 => h1 N1 H1 σ (g.ex s1.n) (r.step s1) _ fun lo N2 H2 s2 h2 => h2 N2 H2 σ (g.ex (s1.trans s2).n) (r.step (s1.trans s2)) _ fun hi N3 H3 s3 h3 => h3 N3 H3 v s3.s ((dv.ex s2.n).ex s3.n) Q fun u N4 H4 d s4 du kd => q u N4 H4 d (((s1.trans s2).trans s3).trans s4) du kd
theorem eo_sl {rs : V → Option Int → Option Int → Hp → VK → Prop} {tl th : TO} (h : EvC K Γ B te δ fun x => EvOp K Γ B tl δ fun lo => EvOp K Γ B th δ fun hi => SlO K rs x lo hi ko) : EvO K Γ B (tSl rs te tl th) δ ko := fun N H σ g r Q q => h N H σ g r _ fun v N1 H1 d s1 dv h1 => h1 N1 H1 σ (g.ex s1.n) (r.step s1) _ fun lo N2 H2 s2 h2 => h2 N2 H2 σ (g.ex (s1.trans s2).n) (r.step (s1.trans s2)) _ fun hi N3 H3 s3 h3 => h3 N3 H3 v s3.s ((dv.ex s2.n).ex s3.n) Q fun p N4 H4 xs ds s4 hp hn hh du kd => q p N4 H4 xs ds (((s1.trans s2).trans s3).trans s4) (fresh_back ((s1.trans s2).trans s3).h hp) hn hh du kd
/-! ### promises -/
end
section
variable (K : PySem.W.Frag) (Γ : Fx)
/-- S ds k: these arguments are served, and k holds of what is given back -/
def spC (S : List D → (D → Prop) → Prop) : Sp := fun vs H Q _ => ∃ N ds k, Ex N H ∧ Has Γ N ∧ DVs K N vs ds ∧ S ds k ∧ ∀ v N' H' d, Stp N H N' H' → DV K N' v d → k d → Q v H'
def spO (S : List D → (List D → Prop) → Prop) : Sp := fun vs H Q _ => ∃ N ds k, Ex N H ∧ Has Γ N ∧ DVs K N vs ds ∧ S ds k ∧ ∀ p N' H' xs es, Stp N H N' H' → H p = none → N' p = none → H' p = some (.lst xs) → DVs K N' xs es → k es → Q (.ref p) H'
end
theorem Has.sub {Γ Γ' : Fx} {N : Hp} (h : Has Γ N) (s : ∀ p ∈ Γ', p ∈ Γ) : Has Γ' N := fun p hp => h p (s p hp)
section
variable {K : PySem.W.Frag} {Γ Γ' : Fx} {B : Bs} {δ : Ls} {tA : TA} {k : D → Prop} {ko : List D → Prop} {S : List D → (D → Prop) → Prop} {So : List D → (List D → Prop) → Prop}
theorem ec_call (h : EvAC K Γ B tA δ fun ds => S ds k) (hs : ∀ p ∈ Γ', p ∈ Γ := by simp) : EvC K Γ B (tCall (spC K Γ' S) [] E0 tA) δ k := fun N H σ g r Q q => h N H σ g r _ fun vs N1 H1 ds s1 dv hp => by
  show spC K Γ' S (vs ++ []) H1 Q E0
  rw [List.append_nil]
  exact ⟨N1, ds, k, s1.s, (g.ex s1.n).sub hs, dv, hp, fun v N2 H2 d s2 dv2 hpo => q v N2 H2 d (s1.trans s2) dv2 hpo⟩
theorem eo_call (h : EvAC K Γ B tA δ fun ds => So ds ko) (hs : ∀ p ∈ Γ', p ∈ Γ := by simp) : EvO K Γ B (tCall (spO K Γ' So) [] E0 tA) δ ko := fun N H σ g r Q q => h N H σ g r _ fun vs N1 H1 ds s1 dv hp => by
  show spO K Γ' So (vs ++ []) H1 Q E0
  rw [List.append_nil]
  exact ⟨N1, ds, ko, s1.s, (g.ex s1.n).sub hs, dv, hp, fun p N2 H2 xs es s2 h1 h2 h3 dv2 hpo => q p N2 H2 xs es (s1.trans s2) (fresh_back s1.h h1) h2 h3 dv2 hpo⟩
/-- a draw -/
theorem ec_draw (h : EvAC K Γ B tA δ fun ds => ∃ m, ds = [.row, I m] ∧ 0 < m ∧ m < 1073741824 ∧ ∀ z, 0 ≤ z → z < m → k (I z)) : EvC K Γ B (tCall (spTaken K) [] E0 tA) δ k := fun N H σ g r Q q => h N H σ g r _ fun vs N1 H1 ds s1 dv ⟨m, e, h0, h1, kd⟩ => by
  subst e
  cases dv with
  | cons d1 dv =>
    cases dv with
    | cons d2 dv =>
      cases dv
      cases d2
      cases d1 with
      | row hr => exact ⟨_, m, rfl, h0, h1, hr.ex s1.s, fun z z0 z1 H2 e2 => q _ N1 H2 _ (s1.trans (Stp.heap s1.s e2)) .sc (kd z z0 z1)⟩
end
def HasL (Γ : Fx) (L N : Hp) : Prop := Has Γ N ∧ Ex L N
theorem HasL.ex {Γ : Fx} {L N N' : Hp} (h : HasL Γ L N) (e : Ex N N') : HasL Γ L N' := ⟨h.1.ex e, h.2.trans e⟩
/-! ### statements -/
structure PEn where
  nx : Ls → Prop
  rt : D → Prop
  ro : List D → Prop
  bk : Ls → Prop := fun _ => False
  ct : Ls → Prop := fun _ => False
structure Good (K : PySem.W.Frag) (Γ : Fx) (B : Bs) (L : Hp) (D' : Ends) (G : PEn) : Prop where
  nx : ∀ N H σ δ, HasL Γ L N → Rel K B N H σ δ → G.nx δ → D'.nx σ H
  rt : ∀ N H v d, HasL Γ L N → Stp B.n B.h N H → DV K N v d → G.rt d → D'.rt v H
  ro : ∀ N H p xs ds, HasL Γ L N → Stp B.n B.h N H → B.h p = none → N p = none → H p = some (.lst xs) → DVs K N xs ds → G.ro ds → D'.rt (.ref p) H
  bk : ∀ N H σ δ, HasL Γ L N → Rel K B N H σ δ → G.bk δ → D'.bk σ H
  ct : ∀ N H σ δ, HasL Γ L N → Rel K B N H σ δ → G.ct δ → D'.ct σ H
def Sat (K : PySem.W.Frag) (Γ : Fx) (B : Bs) (t : TS) (G : PEn) (δ : Ls) : Prop := ∀ D' L, Good K Γ B L D' G → ∀ N H σ, HasL Γ L N → Rel K B N H σ δ → t D' σ H
def TgC (K : PySem.W.Frag) (B : Bs) (g : TG) (d : D) (js : List Nat) (k : Ls → Prop) (δ : Ls) : Prop := ∀ N H σ v, Rel K B N H σ δ → DV K N v d → ∀ Q : L2.St → Hp → Prop, (∀ σ' δ', Rel K B N H σ' δ' → σ'.length = σ.length → (∀ i, i ∉ js → σ'[i]? = σ[i]?) → k δ' → Q σ' H) → g v σ H Q
def TgsC (K : PySem.W.Frag) (B : Bs) (g : TGs) (ds : List D) (js : List Nat) (k : Ls → Prop) (δ : Ls) : Prop := ∀ N H σ vs, Rel K B N H σ δ → DVs K N vs ds → ∀ Q : L2.St → Hp → Prop, (∀ σ' δ', Rel K B N H σ' δ' → σ'.length = σ.length → (∀ i, i ∉ js → σ'[i]? = σ[i]?) → k δ' → Q σ' H) → g vs σ H Q
section
variable {K : PySem.W.Frag} {Γ : Fx} {B : Bs} {δ : Ls} {ta tb tc te : TE} {tA : TA} {t u : TS} {tt : TT} {G : PEn} {d x y : D} {i j : Nat} {g : TG} {gs : TGs} {js : List Nat} {kl : Ls → Prop}
theorem tg_name (h : kl (δ.set j (.d d))) : TgC K B (gName j) d [j] kl δ := fun N H σ v r dv Q q => q _ _ (r.set dv j) (by rw [List.length_set]) (fun i hi => by rw [List.getElem?_set_ne (fun z => hi (by rw [z]; exact List.mem_singleton.mpr rfl))]) h
theorem tgs_nil (h : kl δ) : TgsC K B gNil [] [] kl δ := fun N H σ vs r dv Q q => by
  cases dv
  exact ⟨rfl, q σ δ r rfl (fun _ _ => rfl) h⟩
theorem tgs_cons {ds : List D} {js2 : List Nat} (h : TgC K B g d js (fun δ' => TgsC K B gs ds js2 kl δ') δ) : TgsC K B (gCons g gs) (d :: ds) (js ++ js2) kl δ := fun N H σ vs r dv Q q => by
  cases dv with
  | cons dv dvs => exact ⟨_, _, rfl, h N H σ _ r dv _ fun σ' δ' r' hl hi h2 => h2 N H σ' _ r' dvs Q fun σ2 δ2 r2 hl2 hi2 hk => q σ2 δ2 r2 (hl2.trans hl) (fun i hn => by
      rw [hi2 i (fun z => hn (List.mem_append.mpr (.inr z))), hi i (fun z => hn (List.mem_append.mpr (.inl z)))]) hk⟩
theorem tg_tup {ds : List D} {n : Nat} (hn : ds.length = n) (h : TgsC K B gs ds js kl δ) : TgC K B (gTup K n gs) (.tup ds) js kl δ := fun N H σ v r dv Q q => by
  cases dv with
  | tup h1 h2 => exact ⟨_, _, rfl, ex_t r.stp.s h1, by rw [h2.len]; exact hn, h N H σ _ r h2 Q q⟩
theorem sat_seq (h : Sat K Γ B t { G with nx := Sat K Γ B u G } δ) : Sat K Γ B (tSeq t u) G δ := fun D' L gd N H σ hg r => h { D' with nx := u D' } L ⟨fun N H σ δ hg r h => h D' L gd N H σ hg r, gd.rt, gd.ro, gd.bk, gd.ct⟩ N H σ hg r
theorem sat_asg (h : EvC K Γ B te δ fun d => ∃ js, TgC K B g d js G.nx δ) : Sat K Γ B (tAsg te g) G δ := fun D' L gd N H σ hg r => h N H σ hg.1 r _ fun v N1 H1 d s1 dv ⟨js, h2⟩ => h2 N1 H1 σ v (r.step s1) dv _ fun σ' δ' r' _ _ hk => gd.nx N1 H1 σ' δ' (hg.ex s1.n) r' hk
theorem sat_set (h : EvC K Γ B te δ fun d => G.nx (δ.set i (.d d))) : Sat K Γ B (tAsg te (gName i)) G δ := sat_asg (h.mono fun d h => ⟨[i], tg_name h⟩)
theorem sat_setO (h : EvO K Γ B te δ fun ds => G.nx (δ.set i (.own ds))) : Sat K Γ B (tAsg te (gName i)) G δ := fun D' L gd N H σ hg r => h N H σ hg.1 r _ fun p N1 H1 xs ds s1 hp hn hh dv hk => gd.nx N1 H1 _ _ (hg.ex s1.n) ((r.step s1).setO (fresh_back r.stp.h hp) hn hh dv (r.fresh hp) i) hk
theorem sat_par (h : EvAC K Γ B tA δ fun ds => ∃ x y, ds = [x, y] ∧ G.nx ((δ.set i (.d x)).set j (.d y))) : Sat K Γ B (tPar i j tA) G δ := fun D' L gd N H σ hg r => h N H σ hg.1 r _ fun vs N1 H1 ds s1 dv ⟨x, y, e, hk⟩ => by
  subst e
  cases dv with
  | cons d1 dv =>
    cases dv with
    | cons d2 dv =>
      cases dv
      exact ⟨_, _, rfl, gd.nx N1 H1 _ _ (hg.ex s1.n) (((r.step s1).set d1 i).set d2 j) hk⟩
theorem sat_par3 {l : Nat} (h : EvAC K Γ B tA δ fun ds => ∃ x y z, ds = [x, y, z] ∧ G.nx (((δ.set i (.d x)).set j (.d y)).set l (.d z))) : Sat K Γ B (tPar3 i j l tA) G δ := fun D' L gd N H σ hg r => h N H σ hg.1 r _ fun vs N1 H1 ds s1 dv ⟨x, y, z, e, hk⟩ => by
  subst e
  cases dv with
  | cons d1 dv =>
    cases dv with
    | cons d2 dv =>
      cases dv with
      | cons d3 dv =>
        cases dv
        exact ⟨_, _, _, rfl, gd.nx N1 H1 _ _ (hg.ex s1.n) ((((r.step s1).set d1 i).set d2 j).set d3 l) hk⟩
theorem sat_drop (h : EvC K Γ B te δ fun _ => G.nx δ) : Sat K Γ B (tDrop te) G δ := fun D' L gd N H σ hg r => h N H σ hg.1 r _ fun v N1 H1 d s1 dv hk => gd.nx N1 H1 σ δ (hg.ex s1.n) (r.step s1) hk
theorem sat_ret (h : EvC K Γ B te δ G.rt) : Sat K Γ B (tRet te) G δ := fun D' L gd N H σ hg r => h N H σ hg.1 r _ fun v N1 H1 d s1 dv hk => gd.rt N1 H1 v d (hg.ex s1.n) (r.stp.trans s1) dv hk
theorem sat_retN (h : G.rt Non) : Sat K Γ B tRetN G δ := fun D' L gd N H σ hg r => gd.rt N H .non Non hg r.stp .sc h
theorem sat_retO (h : EvO K Γ B te δ G.ro) : Sat K Γ B (tRet te) G δ := fun D' L gd N H σ hg r => h N H σ hg.1 r _ fun p N1 H1 xs ds s1 hp hn hh dv hk => gd.ro N1 H1 p xs ds (hg.ex s1.n) (r.stp.trans s1) (fresh_back r.stp.h hp) hn hh dv hk
theorem sat_retI {ds : List D} (h : δ[i]? = some (.own ds)) (hk : G.ro ds) : Sat K Γ B (tRet (tVar i)) G δ := fun D' L gd N H σ hg r => by
  obtain ⟨c, xs, a, b, n0, b0, dv⟩ := r.own i ds h
  exact ⟨_, a, gd.ro N H c xs ds hg r.stp b0 n0 b dv hk⟩
theorem sat_next (h : G.nx δ) : Sat K Γ B tNext G δ := fun D' L gd N H σ hg r => gd.nx N H σ δ hg r h
theorem sat_brk (h : G.bk δ) : Sat K Γ B tBreak G δ := fun D' L gd N H σ hg r => gd.bk N H σ δ hg r h
theorem sat_cont (h : G.ct δ) : Sat K Γ B tCont G δ := fun D' L gd N H σ hg r => gd.ct N H σ δ hg r h
theorem sat_if (h : EvB K Γ B tt δ fun b => (b = true → Sat K Γ B t G δ) ∧ (b = false → Sat K Γ B u G δ)) : Sat K Γ B (tIfS tt t u) G δ := fun D' L gd N H σ hg r => h N H σ hg.1 r _ fun b N1 H1 s1 ⟨h1, h2⟩ => by
  cases b with
  | true => exact h1 rfl D' L gd N1 H1 σ (hg.ex s1.n) (r.step s1)
  | false => exact h2 rfl D' L gd N1 H1 σ (hg.ex s1.n) (r.step s1)
theorem sat_aug {f : Int → Int → Int} {a : Int} (hx : δ[i]? = some (.d (I a))) (h : EvC K Γ B te δ fun d => ∃ b, d = I b ∧ G.nx (δ.set i (.d (I (f a b))))) : Sat K Γ B (tAug i te (ipI f)) G δ := fun D' L gd N H σ hg r => by
  obtain ⟨v, e, dv⟩ := r.d i _ hx
  cases dv
  refine ⟨_, e, h N H σ hg.1 r _ fun w N1 H1 d s1 dw ⟨b, e2, hk⟩ => ?_⟩
  subst e2
  cases dw
  exact ⟨a, b, rfl, rfl, gd.nx N1 H1 _ _ (hg.ex s1.n) ((r.step s1).set .sc i) hk⟩
theorem sat_frz {ds : List D} (h : δ[i]? = some (.own ds)) (hk : Sat K Γ B t G (δ.set i (.d (.lst ds)))) : Sat K Γ B t G δ := fun D' L gd N H σ hg r => by
  obtain ⟨N1, e, r1⟩ := r.frz h
  exact hk D' L gd N1 H σ (hg.ex e) r1
theorem sat_imp {G' : PEn} (h : Sat K Γ B t G' δ) (nx : ∀ δ, G'.nx δ → G.nx δ) (rt : ∀ d, G'.rt d → G.rt d) (ro : ∀ d, G'.ro d → G.ro d) (bk : ∀ δ, G'.bk δ → G.bk δ) (ct : ∀ δ, G'.ct δ → G.ct δ) : Sat K Γ B t G δ := fun D' L gd N H σ hg r =>
  h D' L ⟨fun N H σ δ hg r k => gd.nx N H σ δ hg r (nx δ k), fun N H v d hg s dv k => gd.rt N H v d hg s dv (rt d k), fun N H p xs ds a b c d e f k => gd.ro N H p xs ds a b c d e f (ro ds k), fun N H σ δ hg r k => gd.bk N H σ δ hg r (bk δ k), fun N H σ δ hg r k => gd.ct N H σ δ hg r (ct δ k)⟩ N H σ hg r
/-- own.append(e) -/
theorem sat_app {ds : List D} (h : δ[i]? = some (.own ds)) (hl : ds.length < 100000) (he : EvC K Γ B te δ fun d => G.nx (δ.set i (.own (ds ++ [d])))) : Sat K Γ B (tDrop (tBM K "list" rAppend (tVar i) (tCons te tNil))) G δ := fun D' L gd N H σ hg r => by
  obtain ⟨c, xs, a, b, n0, b0, dv⟩ := r.own i ds h
  refine ⟨_, a, Or.inl ⟨rfl, xs, sq_of b⟩, he N H σ hg.1 r _ fun v N1 H1 d s1 dv1 hk => ?_⟩
  have b1 := s1.h _ _ b
  exact ⟨c, xs, v, rfl, rfl, b1, sz_lt (by rw [dv.len]; exact hl), gd.nx N1 _ σ _ (hg.ex s1.n) ((r.step s1).mut h a ((dv.ex s1.n).app (.one dv1))) hk⟩
/-- own.extend(a list) -/
theorem sat_ext {ds : List D} (h : δ[i]? = some (.own ds)) (he : EvC K Γ B te δ fun d => ∃ es, d = .lst es ∧ ds.length + es.length ≤ 100000 ∧ G.nx (δ.set i (.own (ds ++ es)))) : Sat K Γ B (tDrop (tBM K "list" rExtend (tVar i) (tCons te tNil))) G δ := fun D' L gd N H σ hg r => by
  obtain ⟨c, xs, a, b, n0, b0, dv⟩ := r.own i ds h
  refine ⟨_, a, Or.inl ⟨rfl, xs, sq_of b⟩, he N H σ hg.1 r _ fun v N1 H1 d s1 dv1 ⟨es, e, hl, hk⟩ => ?_⟩
  subst e
  have b1 := s1.h _ _ b
  cases dv1 with
  | lst h1 h2 => exact ⟨c, _, xs, _, rfl, rfl, b1, s1.s _ _ h1, sz_of (by rw [dv.len, h2.len]; exact hl), gd.nx N1 _ σ _ (hg.ex s1.n) ((r.step s1).mut h a ((dv.ex s1.n).app h2)) hk⟩
/-- own.reverse() -/
theorem sat_rev {ds : List D} (h : δ[i]? = some (.own ds)) (hk : G.nx (δ.set i (.own ds.reverse))) : Sat K Γ B (tDrop (tBM0 K "list" rReverse (tVar i))) G δ := fun D' L gd N H σ hg r => by
  obtain ⟨c, xs, a, b, n0, b0, dv⟩ := r.own i ds h
  exact ⟨_, a, Or.inl ⟨rfl, xs, sq_of b⟩, c, xs, rfl, rfl, b, gd.nx N _ σ _ hg (r.mut h a dv.rev) hk⟩
/-- own[j] = e -/
theorem sat_seti {ds : List D} {j : Nat} (h : δ[i]? = some (.own ds)) (he : EvC K Γ B te δ fun d => EvC K Γ B tb δ fun x => x = I (j : Int) ∧ j < ds.length ∧ G.nx (δ.set i (.own (ds.set j d)))) : Sat K Γ B (tAsg te (gSub (tVar i) tb rSetL)) G δ := fun D' L gd N H σ hg r => by
  obtain ⟨c, xs, a, b, n0, b0, dv⟩ := r.own i ds h
  refine he N H σ hg.1 r _ fun v N1 H1 d s1 dv1 h2 => ⟨_, a, h2 N1 H1 σ (hg.ex s1.n).1 (r.step s1) _ fun w N2 H2 x s2 dv2 ⟨e, hj, hk⟩ => ?_⟩
  subst e
  cases dv2
  have b1 := s2.h _ _ (s1.h _ _ b)
  exact ⟨c, xs, (j : Int), j, rfl, rfl, b1, ixN_nat (by rw [dv.len]; exact hj), gd.nx N2 _ σ _ (hg.ex (s1.trans s2).n) ((r.step (s1.trans s2)).mut h a (((dv.ex s1.n).ex s2.n).set (dv1.ex s2.n) j)) hk⟩
theorem sat_while {tb : TS} (J : Nat → Ls → Prop) (m0 : Nat) (h0 : J m0 δ) (hs : ∀ m δ', J m δ' → EvB K Γ B tt δ' fun b => (b = true → Sat K Γ B tb { G with nx := fun δ2 => ∃ m', m' < m ∧ J m' δ2, ct := fun δ2 => ∃ m', m' < m ∧ J m' δ2, bk := G.nx } δ') ∧ (b = false → G.nx δ')) : Sat K Γ B (tWhile tt tb) G δ := fun D' L gd N H σ hg r =>
  ⟨fun m σ' H' => ∃ N' δ', HasL Γ L N' ∧ Rel K B N' H' σ' δ' ∧ J m δ', ⟨m0, N, δ, hg, r, h0⟩, fun m σ' H' ⟨N', δ', hg', r', hJ⟩ => hs m δ' hJ N' H' σ' hg'.1 r' _ fun b N1 H1 s1 ⟨h1, h2⟩ => by
    cases b with
    | true =>
      refine ⟨fun σ2 H2 => ∃ m', m' < m ∧ ∃ N' δ', HasL Γ L N' ∧ Rel K B N' H2 σ2 δ' ∧ J m' δ', fun σ2 H2 h => h, ?_⟩
      refine h1 rfl { D' with nx := _, ct := _, bk := D'.nx } L ⟨fun N H σ δ hg r h => ?_, gd.rt, gd.ro, gd.nx, fun N H σ δ hg r h => ?_⟩ N1 H1 σ' (hg'.ex s1.n) (r'.step s1)
      · obtain ⟨m', hm, hj⟩ := h
        exact ⟨m', hm, N, δ, hg, r, hj⟩
      · obtain ⟨m', hm, hj⟩ := h
        exact ⟨m', hm, N, δ, hg, r, hj⟩
    | false => exact gd.nx N1 H1 σ' δ' (hg'.ex s1.n) (r'.step s1) (h2 rfl)⟩
end
/-! ### what is walked -/
def WalkD (K : PySem.W.Frag) (N : Hp) (J : It) (ds : List D) : Prop := Walk J ds.length (fun H => Ex N H) fun i H x H' => ∀ N2, Ex N N2 → Ex N2 H → ∃ N3 d, Stp N2 H N3 H' ∧ ds[i]? = some d ∧ DV K N3 x d
def ItC (K : PySem.W.Frag) (Γ : Fx) (B : Bs) (wi : TI) (δ : Ls) (k : List D → Prop) : Prop := ∀ N H σ, Has Γ N → Rel K B N H σ δ → ∀ R : It → Hp → Prop, (∀ J N' H' ds, Stp N H N' H' → WalkD K N' J ds → k ds → R J H') → wi σ H R
section
variable {K : PySem.W.Frag} {Γ : Fx} {B : Bs} {δ : Ls} {ta tb tc te : TE} {tA : TA} {tu : TS} {tt : TT} {G : PEn} {d x y : D} {i j : Nat} {g : TG} {wi : TI} {ko : List D → Prop}
theorem sat_for (h : ItC K Γ B wi δ fun ds => ∃ J : Nat → Ls → Prop, J 0 δ ∧ (∀ i d δ', ds[i]? = some d → J i δ' → ∃ js, TgC K B g d js (fun δ2 => Sat K Γ B tu { G with nx := J (i + 1), ct := J (i + 1), bk := G.nx } δ2) δ') ∧ ∀ δ', J ds.length δ' → G.nx δ') : Sat K Γ B (tFor wi g tu) G δ := fun D' L gd N H σ hg r => h N H σ hg.1 r _ fun It N1 H1 ds s1 w ⟨J, j0, js, jd⟩ => by
  have hg1 := hg.ex s1.n
  refine for_it w (fun i σ' H' => ∃ N' δ', HasL Γ N1 N' ∧ Rel K B N' H' σ' δ' ∧ J i δ') ⟨N1, δ, ⟨hg1.1, Ex.refl N1⟩, r.step s1, j0⟩ (fun i σ' H' _ p => ?_) (fun i x σ' H' H2 hi p y => ?_) fun σ' H' p => ?_
  · obtain ⟨N', δ', hg', r', _⟩ := p
    exact hg'.2.trans r'.stp.s
  · obtain ⟨N', δ', hg', r', hj⟩ := p
    obtain ⟨N3, d, s3, hd, dv⟩ := y N' hg'.2 r'.stp.s
    obtain ⟨jl, tg⟩ := js i d δ' hd hj
    refine tg N3 H2 σ' x (r'.step s3) dv _ fun σ2 δ2 r2 _ _ sat => ?_
    exact sat { D' with nx := _, ct := _, bk := D'.nx } N1 ⟨fun N H σ δ hg r hj => ⟨N, δ, hg, r, hj⟩, fun N H v d a => gd.rt N H v d ⟨a.1, hg1.2.trans a.2⟩, fun N H p xs ds a => gd.ro N H p xs ds ⟨a.1, hg1.2.trans a.2⟩, fun N H σ δ a => gd.nx N H σ δ ⟨a.1, hg1.2.trans a.2⟩, fun N H σ δ hg r hj => ⟨N, δ, hg, r, hj⟩⟩ N3 H2 σ2 (hg'.ex s3.n) r2
  · obtain ⟨N', δ', hg', r', hj⟩ := p
    exact gd.nx N' H' σ' δ' ⟨hg'.1, hg1.2.trans hg'.2⟩ r' (jd δ' hj)
end
end Dv

/-! comprehensions, what is walked, operators, the start of a def -/
namespace Dv
open PySem PySem.Spec PyProof.Rows L2 Evl Sq
def wipeD (δ : Ls) : List Nat → Ls
  | [] => δ
  | v :: vs => (wipeD δ vs).set v .no
section
variable {K : PySem.W.Frag} {Γ : Fx} {B : Bs} {N H : Hp} {σ : L2.St} {δ : Ls}
theorem Rel.setNo (r : Rel K B N H σ δ) (i : Nat) : Rel K B N H (σ.set i none) (δ.set i .no) := ⟨r.stp, r.lo, by rw [List.length_set, List.length_set, r.len], fun j y e => by
  rcases set_get e with ⟨rfl, e2, hl⟩ | ⟨hne, e⟩
  · cases e2
  · obtain ⟨u, a, b⟩ := r.d j y e
    exact ⟨u, by rw [List.getElem?_set_ne hne]; exact a, b⟩, fun j ds e => by
  rcases set_get e with ⟨rfl, e2, _⟩ | ⟨hne, e⟩
  · cases e2
  · obtain ⟨c, xs, a, b⟩ := r.own j ds e
    exact ⟨c, xs, by rw [List.getElem?_set_ne hne]; exact a, b⟩, fun j k ds es c e1 e2 e3 e4 => by
  rcases set_get e1 with ⟨rfl, z, _⟩ | ⟨hne, e1⟩
  · cases z
  · rcases set_get e2 with ⟨rfl, z, _⟩ | ⟨hne2, e2⟩
    · cases z
    · rw [List.getElem?_set_ne hne] at e3
      rw [List.getElem?_set_ne hne2] at e4
      exact r.ne j k ds es c e1 e2 e3 e4, r.hx⟩
theorem Rel.wipe (r : Rel K B N H σ δ) : ∀ vs, Rel K B N H (L2.wipe σ vs) (wipeD δ vs)
  | [] => r
  | v :: vs => (r.wipe vs).setNo v
theorem wipe_in {σ : L2.St} {i : Nat} : ∀ {vs : List Nat}, i ∈ vs → i < σ.length → (L2.wipe σ vs)[i]? = some none
  | v :: vs, h, hl => by
    unfold L2.wipe
    by_cases e : v = i
    · subst e
      exact List.getElem?_set_self (by rw [L2.wipe_length]; exact hl)
    · rw [List.getElem?_set_ne e]
      rcases List.mem_cons.mp h with z | z
      · exact absurd z.symm e
      · exact wipe_in z hl
theorem wipe_out {σ : L2.St} {i : Nat} : ∀ {vs : List Nat}, i ∉ vs → (L2.wipe σ vs)[i]? = σ[i]?
  | [], h => rfl
  | v :: vs, h => by
    unfold L2.wipe
    rw [List.getElem?_set_ne (fun z => h (by rw [z]; exact List.mem_cons_self)), wipe_out (fun z => h (List.mem_cons_of_mem _ z))]
theorem wipe_same {σ σ2 : L2.St} {vs js : List Nat} (hl : σ2.length = (L2.wipe σ vs).length) (h : ∀ i, i ∉ js → σ2[i]? = (L2.wipe σ vs)[i]?) (hj : ∀ j ∈ js, j ∈ vs) : L2.wipe σ2 vs = L2.wipe σ vs := by
  apply List.ext_getElem?
  intro i
  by_cases hi : i ∈ vs
  · by_cases hlt : i < σ.length
    · rw [wipe_in hi hlt, wipe_in hi (by rw [hl, L2.wipe_length]; exact hlt)]
    · rw [List.getElem?_eq_none (by rw [L2.wipe_length, hl, L2.wipe_length]; omega), List.getElem?_eq_none (by rw [L2.wipe_length]; omega)]
  · rw [wipe_out hi, h i (fun z => hi (hj i z))]
end
section
variable {K : PySem.W.Frag} {Γ : Fx} {B : Bs} {δ : Ls} {ta tb tc te : TE} {tA : TA} {tu : TS} {tt : TT} {G : PEn} {d x y : D} {i j : Nat} {g : TG} {wi : TI} {ko : List D → Prop} {k : D → Prop} {vs : List Nat}
theorem eo_lc (h : ItC K Γ B wi δ fun ds => ∃ P : Nat → List D → Prop, P 0 [] ∧ ds.length ≤ 50000 ∧ (∀ i d es, ds[i]? = some d → P i es → ∃ js, (∀ j ∈ js, j ∈ vs) ∧ TgC K B g d js (fun δ2 => EvB K Γ B tt δ2 fun b => (b = true → EvC K Γ B te δ2 fun e => P (i + 1) (es ++ [e])) ∧ (b = false → P (i + 1) es)) (wipeD δ vs)) ∧ ∀ es, P ds.length es → ko es) : EvO K Γ B (tLc wi g tt te vs) δ ko := fun N H σ hg r Q q => h N H σ hg r _ fun It N1 H1 ds s1 w ⟨P, p0, hz, ps, pd⟩ Dl hD => by
  have hg1 := hg.ex s1.n
  have hn1 : N1 Dl = none := fresh_back s1.s hD
  refine lc_it w (fun i H' => ∃ N' acc es, Stp N1 H1 N' H' ∧ N' Dl = none ∧ H' Dl = some (.lst acc) ∧ DVs K N' acc es ∧ es.length ≤ i ∧ P i es) ⟨N1, [], [], Stp.heap s1.s (Ex.new hD), hn1, upd_same, .nil, Nat.zero_le _, p0⟩ (fun i H' _ p => ?_) (fun i x H' H2 hi p y => ?_) fun H' p => ?_
  · obtain ⟨N', acc, es, s, _⟩ := p
    exact s.n.trans s.s
  · obtain ⟨N', acc, es, s, hn, hh, dv, hle, hp⟩ := p
    obtain ⟨N3, d, s3, hd, dx⟩ := y N' s.n s.s
    obtain ⟨js, hj, tg⟩ := ps i d es hd hp
    have r3 := ((r.step s1).step (s.trans s3)).wipe vs
    refine tg N3 H2 (L2.wipe σ vs) x r3 dx _ fun σ2 δ2 r2 hl2 hi2 hb => ⟨wipe_same hl2 hi2 hj, ?_⟩
    have g3 := hg1.ex (s.trans s3).n
    refine hb N3 H2 σ2 g3 r2 _ fun b N4 H4 s4 hc => ?_
    have hn4 : N4 Dl = none := (s3.trans s4).keep hn hh
    have hh4 : H4 Dl = some (.lst acc) := (s3.trans s4).h _ _ hh
    cases b with
    | true =>
      show te σ2 H4 _
      refine hc.1 rfl N4 H4 σ2 (g3.ex s4.n) (r2.step s4) _ fun v N5 H5 e s5 de hP => ?_
      have s15 := ((s.trans s3).trans s4).trans s5
      have hn5 : N5 Dl = none := s5.keep hn4 hh4
      refine ⟨acc, s5.h _ _ hh4, sz_lt (by rw [dv.len]; omega), N5, acc ++ [v], es ++ [e], ⟨s15.n, Ex.mut s15.h hD, fun a u ea => ?_, s15.w⟩, hn5, upd_same, (dv.ex ((s3.trans s4).trans s5).n).app (.one de), by rw [List.length_append]; exact Nat.succ_le_succ hle, hP⟩
      have hne : a ≠ Dl := fun z => by
        rw [z, hn5] at ea
        cases ea
      rw [upd_ne hne]
      exact s15.s a u ea
    | false =>
      show ∃ _, _
      exact ⟨N4, acc, es, (s.trans s3).trans s4, hn4, hh4, dv.ex (s3.trans s4).n, Nat.le_succ_of_le hle, hc.2 rfl⟩
  · obtain ⟨N', acc, es, s, hn, hh, dv, hle, hp⟩ := p
    exact q Dl N' H' acc es (s1.trans s) (fresh_back s1.h hD) hn hh dv (pd es hp)
/-- [f x for x in ..] -/
theorem eo_map {α : Type} {g0 : α → D} (f : α → D) (h : ItC K Γ B wi δ fun ds => ∃ xs : List α, ds = xs.map g0 ∧ xs.length ≤ 50000 ∧ (∀ x ∈ xs, ∃ js, (∀ j ∈ js, j ∈ vs) ∧ TgC K B g (g0 x) js (fun δ2 => EvC K Γ B te δ2 fun e => e = f x) (wipeD δ vs)) ∧ ko (xs.map f)) : EvO K Γ B (tLc wi g tYes te vs) δ ko := by
  refine eo_lc fun N H σ hg r R q => h N H σ hg r R fun J N' H' ds s w ⟨xs, e, hl, hx, hk⟩ => q J N' H' ds s w ⟨fun i es => es = (xs.take i).map f, by dsimp only; rw [List.take_zero]; rfl, by rw [e, List.length_map]; exact hl, fun i d es hd he => ?_, fun es he => ?_⟩
  · rw [e, List.getElem?_map] at hd
    obtain ⟨x, hxi, rfl⟩ := Option.map_eq_some_iff.mp hd
    obtain ⟨js, hj, t⟩ := hx x (List.mem_of_getElem? hxi)
    refine ⟨js, hj, fun N H σ v r dv Q q => t N H σ v r dv Q fun σ' δ' r' a b hc => q σ' δ' r' a b ?_⟩
    refine fun N H σ hg r Q q => q true N H (Stp.refl r.stp.s) ⟨fun _ => hc.mono fun d hd => ?_, fun z => nomatch z⟩
    dsimp only
    rw [he, hd, List.take_add_one, hxi, List.map_append]
    rfl
  · dsimp only at he
    rw [e, List.length_map, List.take_length] at he
    rw [he]
    exact hk
/-- [f x for x in .. if p x] -/
theorem eo_filter {α : Type} {g0 : α → D} (p : α → Bool) (f : α → D) (h : ItC K Γ B wi δ fun ds => ∃ xs : List α, ds = xs.map g0 ∧ xs.length ≤ 50000 ∧ (∀ x ∈ xs, ∃ js, (∀ j ∈ js, j ∈ vs) ∧ TgC K B g (g0 x) js (fun δ2 => EvB K Γ B tt δ2 fun b => b = p x ∧ (b = true → EvC K Γ B te δ2 fun e => e = f x)) (wipeD δ vs)) ∧ ko ((xs.filter p).map f)) : EvO K Γ B (tLc wi g tt te vs) δ ko := by
  refine eo_lc fun N H σ hg r R q => h N H σ hg r R fun J N' H' ds s w ⟨xs, e, hl, hx, hk⟩ => q J N' H' ds s w ⟨fun i es => es = ((xs.take i).filter p).map f, by dsimp only; rw [List.take_zero]; rfl, by rw [e, List.length_map]; exact hl, fun i d es hd he => ?_, fun es he => ?_⟩
  · rw [e, List.getElem?_map] at hd
    obtain ⟨x, hxi, rfl⟩ := Option.map_eq_some_iff.mp hd
    obtain ⟨js, hj, t⟩ := hx x (List.mem_of_getElem? hxi)
    refine ⟨js, hj, fun N H σ v r dv Q q => t N H σ v r dv Q fun σ' δ' r' a b hc => q σ' δ' r' a b ?_⟩
    refine fun N H σ hg r Q q => hc N H σ hg r Q fun b N1 H1 s1 hb => q b N1 H1 s1 ⟨fun z => (hb.2 z).mono fun d hd => ?_, fun z => ?_⟩
    · dsimp only
      rw [he, hd, List.take_add_one, hxi, Option.toList_some, List.filter_append, List.filter_cons_of_pos (by rw [← hb.1]; exact z), List.filter_nil, List.map_append]
      rfl
    · dsimp only
      rw [he, List.take_add_one, hxi, Option.toList_some, List.filter_append, List.filter_cons_of_neg (by rw [← hb.1, z]; exact fun h => nomatch h), List.filter_nil, List.append_nil]
  · dsimp only at he
    rw [e, List.length_map, List.take_length] at he
    rw [he]
    exact hk
/-- [.. for x in ..], the items only told by what is true of them -/
theorem eo_all {α : Type} {g0 : α → D} (R : α → D → Prop) (h : ItC K Γ B wi δ fun ds => ∃ xs : List α, ds = xs.map g0 ∧ xs.length ≤ 50000 ∧ (∀ x ∈ xs, ∃ js, (∀ j ∈ js, j ∈ vs) ∧ TgC K B g (g0 x) js (fun δ2 => EvC K Γ B te δ2 fun e => R x e) (wipeD δ vs)) ∧ ∀ es : List D, es.length = xs.length → (∀ (i : Nat) x e, xs[i]? = some x → es[i]? = some e → R x e) → ko es) : EvO K Γ B (tLc wi g tYes te vs) δ ko := by
  refine eo_lc fun N H σ hg r R' q => h N H σ hg r R' fun J N' H' ds s w ⟨xs, e, hl, hx, hk⟩ => q J N' H' ds s w ⟨fun i es => es.length = min i xs.length ∧ ∀ (i : Nat) x e, xs[i]? = some x → es[i]? = some e → R x e, ⟨by simp, fun i x e _ z => by simp at z⟩, by rw [e, List.length_map]; exact hl, fun i d es hd he => ?_, fun es he => ?_⟩
  · rw [e, List.getElem?_map] at hd
    obtain ⟨x, hxi, rfl⟩ := Option.map_eq_some_iff.mp hd
    have hlt := (List.getElem?_eq_some_iff.mp hxi).1
    obtain ⟨js, hj, t⟩ := hx x (List.mem_of_getElem? hxi)
    refine ⟨js, hj, fun N H σ v r dv Q q => t N H σ v r dv Q fun σ' δ' r' a b hc => q σ' δ' r' a b ?_⟩
    refine fun N H σ hg r Q q => q true N H (Stp.refl r.stp.s) ⟨fun _ => hc.mono fun d hR => ⟨by rw [List.length_append, he.1]; show min i xs.length + 1 = min (i + 1) xs.length; omega, fun m x' e' h1 h2 => ?_⟩, fun z => nomatch z⟩
    have hel : es.length = i := by rw [he.1]; omega
    by_cases hm : m < es.length
    · rw [List.getElem?_append_left hm] at h2
      exact he.2 m x' e' h1 h2
    · rw [List.getElem?_append_right (by omega)] at h2
      have z := (List.getElem?_eq_some_iff.mp h2).1
      have y : [d].length = 1 := rfl
      have : m = i := by omega
      subst this
      rw [show m - es.length = 0 by omega] at h2
      cases h2
      rw [hxi] at h1
      cases h1
      exact hR
  · rw [e, List.length_map] at he
    exact hk es (by rw [he.1]; omega) he.2
/-! ### what is walked -/
theorem it_list (h : EvC K Γ B te δ fun d => ∃ ds, d = .lst ds ∧ ko ds) : ItC K Γ B (iList K te) δ ko := fun N H σ hg r R q => h N H σ hg r _ fun v N1 H1 d s1 dv ⟨ds, e, hk⟩ => by
  subst e
  cases dv with
  | lst h1 h2 =>
    rename_i a xs
    refine ⟨a, rfl, ⟨xs, sq_of (s1.s _ _ h1)⟩, q _ N1 H1 ds s1 ?_ hk⟩
    have w : Walk (Itl K a) xs.length (fun H => SqL K H a xs) (YAt xs) := walk_list
    rw [h2.len] at w
    exact w.mono (fun H e => sq_of (e _ _ h1)) fun i H x H' hi e y N2 e1 e2 => by
      obtain ⟨rfl, hx⟩ := y
      obtain ⟨d, hd, dd⟩ := h2.getV hx
      exact ⟨N2, d, Stp.refl e2, hd, dd.ex e1⟩
theorem it_tup (h : EvC K Γ B te δ fun d => ∃ ds, d = .tup ds ∧ ko ds) : ItC K Γ B (iTup K te) δ ko := fun N H σ hg r R q => h N H σ hg r _ fun v N1 H1 d s1 dv ⟨ds, e, hk⟩ => by
  subst e
  cases dv with
  | tup h1 h2 =>
    rename_i a xs
    refine ⟨a, rfl, ⟨xs, ex_t s1.s h1⟩, q _ N1 H1 ds s1 ?_ hk⟩
    have w : Walk (Itt K a) xs.length (fun H => SqT K H a xs) (YAt xs) := walk_tup
    rw [h2.len] at w
    exact w.mono (fun H e => ex_t e h1) fun i H x H' hi e y N2 e1 e2 => by
      obtain ⟨rfl, hx⟩ := y
      obtain ⟨d, hd, dd⟩ := h2.getV hx
      exact ⟨N2, d, Stp.refl e2, hd, dd.ex e1⟩
end
end Dv

/-! operators, calls of built-ins, what is walked, the start of a def -/
namespace Dv
open PySem PySem.Spec PyProof.Rows L2 Evl Sq
abbrev Sg (c : Nat) : D := .sc (sgn c)
def isNon : D → Bool
  | .sc v => decide (v = .non)
  | _ => false
def dTy : D → String
  | .sc .non => "NoneType"
  | .sc (.bl _) => "bool"
  | .sc (.int _) => "int"
  | .sc (.str _) => "str"
  | .tup _ => "tuple"
  | .lst _ => "list"
  | _ => "?"
def enumD (xs : List D) : List D := (List.range xs.length).map fun (i : Nat) => .tup [I (i : Int), xs.getD i Non]
def zipD (xs ys : List D) : List D := List.zipWith (fun x y => .tup [x, y]) xs ys
def cutD (xs : List D) (lo hi : Option Int) : List D := (xs.drop (HT.sIx xs.length 0 lo)).take (HT.sIx xs.length xs.length hi - HT.sIx xs.length 0 lo)
theorem range_get {n i j : Nat} (h : (List.range n)[i]? = some j) : i < n ∧ j = i := by
  have hl : i < (List.range n).length := (List.getElem?_eq_some_iff.mp h).1
  rw [List.length_range] at hl
  rw [List.getElem?_range hl] at h
  exact ⟨hl, (Option.some.inj h).symm⟩
theorem enumD_at {xs : List D} {i : Nat} {x : D} (h : xs[i]? = some x) : (enumD xs)[i]? = some (.tup [I (i : Int), x]) := by
  unfold enumD
  have hl := (List.getElem?_eq_some_iff.mp h).1
  rw [List.getElem?_map, List.getElem?_range hl]
  show some (D.tup [I (i : Int), xs.getD i Non]) = _
  rw [List.getD_eq_getElem?_getD, h]
  rfl
theorem enumD_len (xs : List D) : (enumD xs).length = xs.length := by
  unfold enumD
  rw [List.length_map, List.length_range]
theorem enumD_get {xs : List D} {i : Nat} {d : D} (h : (enumD xs)[i]? = some d) : ∃ x, xs[i]? = some x ∧ d = .tup [I (i : Int), x] := by
  have hl := (List.getElem?_eq_some_iff.mp h).1
  rw [enumD_len] at hl
  refine ⟨xs[i], List.getElem?_eq_getElem hl, ?_⟩
  rw [enumD_at (List.getElem?_eq_getElem hl)] at h
  exact (Option.some.inj h).symm
section
variable {K : PySem.W.Frag} {Γ : Fx} {B : Bs} {δ : Ls} {ta tb tc te : TE} {tA : TA} {tu : TS} {tt : TT} {G : PEn} {d x y : D} {i j : Nat} {g : TG} {wi : TI} {ko : List D → Prop} {k : D → Prop} {vs : List Nat}
theorem DVs.cut {N : Hp} {vs : List V} {ds : List D} (h : DVs K N vs ds) (lo hi : Option Int) : DVs K N (cutV vs lo hi) (cutD ds lo hi) := by
  unfold cutV cutD
  rw [h.len]
  exact (h.drop _).take _
/-! ### operators -/
theorem oc_i0 {g : Int → Int → V} {i j : Int} (h : k (.sc (g i j))) : OpC K (rI0 g) (I i) (I j) k := fun N H v w e dv dw Q q => by
  cases dv; cases dw
  exact ⟨i, j, rfl, rfl, q _ N H _ (Stp.refl e) .sc h⟩
theorem oc_i {C : Int → Int → Prop} {g : Int → Int → V} {i j : Int} (hc : C i j) (h : k (.sc (g i j))) : OpC K (rI C g) (I i) (I j) k := fun N H v w e dv dw Q q => by
  cases dv; cases dw
  exact ⟨i, j, rfl, rfl, hc, q _ N H _ (Stp.refl e) .sc h⟩
theorem oc_eq {v w : V} (hs : scal v w = true) (h : k (Bo (decide (v = w)))) : OpC K rEq (.sc v) (.sc w) k := fun N H v' w' e dv dw Q q => by
  cases dv; cases dw
  exact ⟨hs, q _ N H _ (Stp.refl e) .sc h⟩
theorem oc_ne {v w : V} (hs : scal v w = true) (h : k (Bo (!decide (v = w)))) : OpC K rNe (.sc v) (.sc w) k := fun N H v' w' e dv dw Q q => by
  cases dv; cases dw
  exact ⟨hs, q _ N H _ (Stp.refl e) .sc h⟩
theorem int_dec {i j : Int} : decide (V.int i = V.int j) = decide (i = j) := decide_eq_decide.mpr ⟨fun z => by injection z, fun z => by rw [z]⟩
theorem oc_eqI {i j : Int} (h : k (Bo (decide (i = j)))) : OpC K rEq (I i) (I j) k := oc_eq rfl (by rw [int_dec]; exact h)
theorem oc_neI {i j : Int} (h : k (Bo (!decide (i = j)))) : OpC K rNe (I i) (I j) k := oc_ne rfl (by rw [int_dec]; exact h)
theorem oc_ixT {ds : List D} {i : Int} (h : atI ds i = some d) (hk : k d) : OpC K (rIxT K) (.tup ds) (I i) k := fun N H v w e dv dw Q q => by
  cases dw
  cases dv with
  | tup h1 h2 =>
    obtain ⟨u, hu, du⟩ := h2.atI h
    exact ⟨_, _, i, u, rfl, rfl, ex_t e h1, hu, q u N H d (Stp.refl e) du hk⟩
theorem oc_ixL {ds : List D} {i : Int} (h : atI ds i = some d) (hk : k d) : OpC K (rIxL K) (.lst ds) (I i) k := fun N H v w e dv dw Q q => by
  cases dw
  cases dv with
  | lst h1 h2 =>
    obtain ⟨u, hu, du⟩ := h2.atI h
    exact ⟨_, _, i, u, rfl, rfl, sq_of (e _ _ h1), hu, q u N H d (Stp.refl e) du hk⟩
theorem oc_ixS {s : Str} {i : Int} {c : Nat} (h : atI s.cps.toList i = some c) (hl : s.length ≤ 100000) (hk : k (Sg c)) : OpC K rIxS (.sc (.str s)) (I i) k := fun N H v w e dv dw Q q => by
  cases dv; cases dw
  exact ⟨s, i, c, rfl, rfl, sz_of hl, h, q _ N H _ (Stp.refl e) .sc hk⟩
theorem oc_inL {neg : Bool} {v : V} {ws : List V} (hx : flatV v = true) (ha : ws.all flatV = true) (hk : k (Bo (if neg then !inV v ws else inV v ws))) : OpC K (rIn K neg) (.sc v) (.lst (ws.map .sc)) k := fun N H v w e dv dw Q q => by
  cases dv
  cases dw with
  | lst h1 h2 =>
    have := h2.scs
    subst this
    exact ⟨_, _, rfl, .inl (sq_of (e _ _ h1)), hx, ha, q _ N H _ (Stp.refl e) .sc hk⟩
theorem oc_inT {neg : Bool} {v : V} {ws : List V} (hx : flatV v = true) (ha : ws.all flatV = true) (hk : k (Bo (if neg then !inV v ws else inV v ws))) : OpC K (rIn K neg) (.sc v) (.tup (ws.map .sc)) k := fun N H v w e dv dw Q q => by
  cases dv
  cases dw with
  | tup h1 h2 =>
    have := h2.scs
    subst this
    exact ⟨_, _, rfl, .inr (ex_t e h1), hx, ha, q _ N H _ (Stp.refl e) .sc hk⟩
theorem oc_inS {c : Nat} {z : Str} (hk : k (Bo (decide (c ∈ z.cps.toList)))) : OpC K (fun x y H Q => ∃ (c : Nat) (z : Str), x = .str ⟨#[c]⟩ ∧ y = .str z ∧ Q (.bl (decide (c ∈ z.cps.toList))) H) (Sg c) (.sc (.str z)) k := fun N H v w e dv dw Q q => by
  cases dv; cases dw
  exact ⟨c, z, rfl, rfl, q _ N H _ (Stp.refl e) .sc hk⟩
theorem oc_niS {c : Nat} {z : Str} (hk : k (Bo (!decide (c ∈ z.cps.toList)))) : OpC K (fun x y H Q => ∃ (c : Nat) (z : Str), x = .str ⟨#[c]⟩ ∧ y = .str z ∧ Q (.bl (!decide (c ∈ z.cps.toList))) H) (Sg c) (.sc (.str z)) k := fun N H v w e dv dw Q q => by
  cases dv; cases dw
  exact ⟨c, z, rfl, rfl, q _ N H _ (Stp.refl e) .sc hk⟩
theorem oc_catT {xs ys : List D} (hne : xs ≠ []) (hl : xs.length + ys.length ≤ 100000) (hk : k (.tup (xs ++ ys))) : OpC K (rCatT K) (.tup xs) (.tup ys) k := fun N H v w e dv dw Q q => by
  cases dv with
  | tup h1 h2 =>
    cases dw with
    | tup h3 h4 =>
      refine ⟨_, _, _, _, rfl, rfl, ex_t e h1, ex_t e h3, fun z => hne ?_, sz_of (by rw [h2.len, h4.len]; exact hl), fun z => ?_, fun z p hp => ?_⟩
      · have := h2.len
        rw [z] at this
        exact List.length_eq_zero_iff.mp this.symm
      · have := h4.len
        rw [z] at this
        have hy := List.length_eq_zero_iff.mp this.symm
        subst hy
        rw [List.append_nil] at hk
        exact q _ N H _ (Stp.refl e) (.tup h1 h2) hk
      · exact q (.ref p) _ _ _ (Stp.new e hp) (.tup (st_of upd_same) ((h2.app h4).ex (Ex.new (fresh_back e hp)))) hk
theorem oo_cat {xs ys : List D} (hl : xs.length + ys.length ≤ 100000) (hk : ko (xs ++ ys)) : OpO K rCat (.lst xs) (.lst ys) ko := fun N H v w e dv dw Q q => by
  cases dv with
  | lst h1 h2 =>
    cases dw with
    | lst h3 h4 => exact ⟨_, _, _, _, rfl, rfl, e _ _ h1, e _ _ h3, sz_of (by rw [h2.len, h4.len]; exact hl), fun p hp => q p N _ _ _ (Stp.heap e (Ex.new hp)) hp (fresh_back e hp) upd_same (h2.app h4) hk⟩
theorem DVs.rep {N : Hp} {vs : List V} {ds : List D} (h : DVs K N vs ds) : ∀ n, DVs K N (List.replicate n vs).flatten (List.replicate n ds).flatten
  | 0 => .nil
  | n + 1 => by
    rw [List.replicate_succ, List.replicate_succ, List.flatten_cons, List.flatten_cons]
    exact h.app (h.rep n)
theorem oo_rep {xs : List D} {n : Int} (hn : n < 2 ^ 40 ∧ -(2 ^ 40) < n) (hl : xs.length * n.toNat ≤ 100000) (hk : ko (List.replicate n.toNat xs).flatten) : OpO K rRep (.lst xs) (I n) ko := fun N H v w e dv dw Q q => by
  cases dw
  cases dv with
  | lst h1 h2 => exact ⟨_, n, _, rfl, rfl, e _ _ h1, by omega, by omega, sz_of (by rw [h2.len]; exact hl), fun p hp => q p N _ _ _ (Stp.heap e (Ex.new hp)) hp (fresh_back e hp) upd_same (h2.rep _) hk⟩
theorem oc_addS {a b : List Nat} (hl : a.length + b.length ≤ 100000) (hk : k (TxD (a ++ b))) : OpC K rAddT (TxD a) (TxD b) k := fun N H v w e dv dw Q q => by
  cases dv; cases dw
  refine ⟨_, _, rfl, rfl, sz_of (by show a.toArray.size + b.toArray.size ≤ 100000; simpa using hl), ?_⟩
  rw [txt_app]
  exact q _ N H _ (Stp.refl e) .sc hk
theorem dv_non {N : Hp} {v : V} (h : DV K N v x) : decide (v = .non) = isNon x := by
  cases h <;> first | rfl | (unfold isNon; exact decide_eq_false (fun z => nomatch z))
theorem oc_isN (hk : k (Bo (isNon x))) : OpC K (fun x y H Q => y = .non ∧ Q (.bl (decide (x = .non))) H) x Non k := fun N H v w e dv dw Q q => by
  cases dw
  refine ⟨rfl, ?_⟩
  rw [dv_non dv]
  exact q _ N H _ (Stp.refl e) .sc hk
theorem oc_noN (hk : k (Bo (!isNon x))) : OpC K (fun x y H Q => y = .non ∧ Q (.bl (!decide (x = .non))) H) x Non k := fun N H v w e dv dw Q q => by
  cases dw
  refine ⟨rfl, ?_⟩
  rw [dv_non dv]
  exact q _ N H _ (Stp.refl e) .sc hk
theorem uc_neg {i : Int} (hk : k (I (-i))) : UnC K (rU fun i => .int (-i)) (I i) k := fun N H v e dv Q q => by
  cases dv
  exact ⟨i, rfl, q _ N H _ (Stp.refl e) .sc hk⟩
/-! ### calls of built-ins -/
theorem cc_lenL {ds : List D} (hk : k (I (ds.length : Int))) : CbC K Γ (rLenS K) [.lst ds] k := fun N H vs e hg dv Q q => by
  cases dv with
  | cons d1 d2 =>
    cases d2
    cases d1 with
    | lst h1 h2 =>
      refine ⟨_, _, rfl, .inl (sq_of (e _ _ h1)), ?_⟩
      rw [h2.len]
      exact q _ N H _ (Stp.refl e) .sc hk
theorem cc_lenT {ds : List D} (hk : k (I (ds.length : Int))) : CbC K Γ (rLenS K) [.tup ds] k := fun N H vs e hg dv Q q => by
  cases dv with
  | cons d1 d2 =>
    cases d2
    cases d1 with
    | tup h1 h2 =>
      refine ⟨_, _, rfl, .inr (ex_t e h1), ?_⟩
      rw [h2.len]
      exact q _ N H _ (Stp.refl e) .sc hk
abbrev rLenStr : List V → Hp → VK → Prop := fun xs H Q => ∃ z, xs = [.str z] ∧ z.length ≤ sizeLine ∧ Q (.int z.length) H
theorem cc_lenS {s : Str} (hl : s.length ≤ 100000) (hk : k (I (s.length : Int))) : CbC K Γ rLenStr [.sc (.str s)] k := fun N H vs e hg dv Q q => by
  cases dv with
  | cons d1 d2 =>
    cases d2
    cases d1
    exact ⟨s, rfl, sz_of hl, q _ N H _ (Stp.refl e) .sc hk⟩
abbrev rInt1 : List V → Hp → VK → Prop := fun xs H Q => (∃ i, xs = [.int i] ∧ Q (.int i) H) ∨ ∃ k, xs = [.bl k] ∧ Q (.int (if k then 1 else 0)) H
theorem cc_int {i : Int} (hk : k (I i)) : CbC K Γ rInt1 [I i] k := fun N H vs e hg dv Q q => by
  cases dv with
  | cons d1 d2 =>
    cases d2
    cases d1
    exact .inl ⟨i, rfl, q _ N H _ (Stp.refl e) .sc hk⟩
theorem cc_intB {b : Bool} (hk : k (I (if b then 1 else 0))) : CbC K Γ rInt1 [Bo b] k := fun N H vs e hg dv Q q => by
  cases dv with
  | cons d1 d2 =>
    cases d2
    cases d1
    exact .inr ⟨b, rfl, q _ N H _ (Stp.refl e) .sc hk⟩
theorem scs_ints {N : Hp} {vs : List V} {ns : List Int} (h : DVs K N vs (ns.map I)) : vs = ns.map V.int := by
  have z : ns.map I = (ns.map V.int).map D.sc := by rw [List.map_map]; rfl
  rw [z] at h
  exact h.scs
theorem cc_sum {ns : List Int} (hk : k (I ns.sum)) : CbC K Γ (rSum K) [.lst (ns.map I)] k := fun N H vs e hg dv Q q => by
  cases dv with
  | cons d1 d2 =>
    cases d2
    cases d1 with
    | lst h1 h2 =>
      have := scs_ints h2
      subst this
      exact ⟨_, ns, rfl, sq_of (e _ _ h1), q _ N H _ (Stp.refl e) .sc hk⟩
theorem cc_min {ns : List Int} (hne : 0 < ns.length) (hk : ∀ m, m ∈ ns → (∀ y ∈ ns, m ≤ y) → k (I m)) : CbC K Γ (rMin K) [.lst (ns.map I)] k := fun N H vs e hg dv Q q => by
  cases dv with
  | cons d1 d2 =>
    cases d2
    cases d1 with
    | lst h1 h2 =>
      have := scs_ints h2
      subst this
      exact ⟨_, ns, rfl, sq_of (e _ _ h1), hne, fun m hm hl => q _ N H _ (Stp.refl e) .sc (hk m hm hl)⟩
theorem cc_max2 {i j : Int} (hk : k (I (if j > i then j else i))) : CbC K Γ rMax2 [I i, I j] k := fun N H vs e hg dv Q q => by
  cases dv with
  | cons d1 d2 =>
    cases d2 with
    | cons d2 d3 =>
      cases d3
      cases d1
      cases d2
      exact ⟨i, j, rfl, q _ N H _ (Stp.refl e) .sc hk⟩
abbrev rTupOf' (K : PySem.W.Frag) : List V → Hp → VK → Prop := rTupOf K
theorem cc_tupL {ds : List D} (hk : k (.tup ds)) : CbC K Γ (rTupOf K) [.lst ds] k := fun N H vs e hg dv Q q => by
  cases dv with
  | cons d1 d2 =>
    cases d2
    cases d1 with
    | lst h1 h2 => exact ⟨_, _, rfl, .inl ⟨sq_of (e _ _ h1), fun l hl => q (.ref l) _ _ _ (Stp.new e hl) (.tup (st_of upd_same) (h2.ex (Ex.new (fresh_back e hl)))) hk⟩⟩
theorem cc_tupT {ds : List D} (hk : k (.tup ds)) : CbC K Γ (rTupOf K) [.tup ds] k := fun N H vs e hg dv Q q => by
  cases dv with
  | cons d1 d2 =>
    cases d2
    cases d1 with
    | tup h1 h2 => exact ⟨_, _, rfl, .inr ⟨ex_t e h1, q _ N H _ (Stp.refl e) (.tup h1 h2) hk⟩⟩
theorem co_listL {ds : List D} (hk : ko ds) : CbO K Γ (rListS K) [.lst ds] ko := fun N H vs e hg dv Q q => by
  cases dv with
  | cons d1 d2 =>
    cases d2
    cases d1 with
    | lst h1 h2 => exact ⟨_, _, rfl, .inl (sq_of (e _ _ h1)), fun l hl => q l N _ _ _ (Stp.heap e (Ex.new hl)) hl (fresh_back e hl) upd_same h2 hk⟩
theorem co_listT {ds : List D} (hk : ko ds) : CbO K Γ (rListS K) [.tup ds] ko := fun N H vs e hg dv Q q => by
  cases dv with
  | cons d1 d2 =>
    cases d2
    cases d1 with
    | tup h1 h2 => exact ⟨_, _, rfl, .inr (ex_t e h1), fun l hl => q l N _ _ _ (Stp.heap e (Ex.new hl)) hl (fresh_back e hl) upd_same h2 hk⟩
theorem dv_ty {N H : Hp} {v : V} (h : DV K N v d) (e : Ex N H) (hne : dTy d ≠ "?") : TyX K H v (.type (dTy d)) := by
  cases h with
  | sc =>
    cases v <;> first
      | exact .base .non
      | exact .base (.bl _)
      | exact .base (.int _)
      | exact .base (.str _)
      | exact absurd rfl hne
  | row => exact absurd rfl hne
  | tup h1 h2 => exact ty_tup (ex_t e h1)
  | lst h1 h2 => exact ty_lst (sq_of (e _ _ h1))
  | dct => exact absurd rfl hne
theorem cc_isi {c : String} {b : Bool} (hne : dTy d ≠ "?") (hb : kitB (dTy d) c = some b) (hk : k (Bo b)) : CbC K Γ (rIsi K) [d, .sc (.ty c)] k := fun N H vs e hg dv Q q => by
  cases dv with
  | cons d1 d2 =>
    cases d2 with
    | cons d2 d3 =>
      cases d3
      cases d2
      exact ⟨_, .ty c, .type (dTy d), .type c, b, rfl, .ty c, dv_ty d1 e hne, kit_ty hb, q _ N H _ (Stp.refl e) .sc hk⟩
/-! ### slices, texts -/
theorem sc_slT {ds : List D} {lo hi : Option Int} (hk : k (.tup (cutD ds lo hi))) : SlC K (rSlA K) (.tup ds) lo hi k := fun N H v e dv Q q => by
  cases dv with
  | tup h1 h2 =>
    refine ⟨_, _, rfl, ex_t e h1, fun w => ?_, fun _ p hp => q (.ref p) _ _ _ (Stp.new e hp) (.tup (st_of upd_same) ((h2.cut lo hi).ex (Ex.new (fresh_back e hp)))) hk⟩
    have z : cutD ds lo hi = ds := by
      unfold cutD
      rw [← h2.len, w.1, w.2, Nat.sub_zero, List.drop_zero, h2.len, List.take_length]
    rw [z] at hk
    exact q _ N H _ (Stp.refl e) (.tup h1 h2) hk
theorem so_slL {ds : List D} {lo hi : Option Int} (hk : ko (cutD ds lo hi)) : SlO K (rSlL K) (.lst ds) lo hi ko := fun N H v e dv Q q => by
  cases dv with
  | lst h1 h2 => exact ⟨_, _, rfl, sq_of (e _ _ h1), fun p hp => q p N _ _ _ (Stp.heap e (Ex.new hp)) hp (fresh_back e hp) upd_same (h2.cut lo hi) hk⟩
theorem sc_slS {l : List Nat} {lo hi : Option Int} (hl : l.length ≤ 100000) (hk : k (TxD (cutL l lo hi))) : SlC K rSlS (TxD l) lo hi k := fun N H v e dv Q q => by
  cases dv
  refine ⟨txt l, rfl, sz_of (by show l.toArray.size ≤ 100000; simpa using hl), ?_⟩
  rw [cutS_txt]
  exact q _ N H _ (Stp.refl e) .sc hk
/-! ### methods of texts -/
theorem ec_join {s : Str} (hs : s = txt []) (h : EvC K Γ B te δ fun d => ∃ ls : List (List Nat), (d = .lst (ls.map TxD) ∨ d = .tup (ls.map TxD)) ∧ ls.flatten.length ≤ 100000 ∧ k (TxD ls.flatten)) : EvC K Γ B (tM1 (rJoin K) (tC (.str s)) te) δ k := fun N H σ hg r Q q => by
  subst hs
  refine ⟨⟨_, rfl⟩, h N H σ hg r _ fun v N1 H1 d s1 dv ⟨ls, hd, hl, hk⟩ => ?_⟩
  have fin : ∀ (p : Addr) xs, v = .ref p → (SqL K H1 p xs ∨ SqT K H1 p xs) → DVs K N1 xs (ls.map TxD) → rJoin K (.str (txt [])) [v] H1 Q := fun p xs e hs h2 => by
    have z : ls.map TxD = ((ls.map txt).map V.str).map D.sc := by rw [List.map_map, List.map_map]; rfl
    rw [z] at h2
    have := h2.scs
    subst this
    subst e
    exact ⟨txt [], p, ls.map txt, rfl, rfl, hs, by
      rw [len_sum]
      show ls.flatten.length + (ls.map txt).length * 0 ≤ 16777216
      omega, by
      rw [join_txt]
      exact q _ N1 H1 _ s1 .sc hk⟩
  rcases hd with rfl | rfl
  · cases dv with
    | lst h1 h2 => exact fin _ _ rfl (.inl (sq_of (s1.s _ _ h1))) h2
  · cases dv with
    | tup h1 h2 => exact fin _ _ rfl (.inr (ex_t s1.s h1)) h2
/-! ### what is walked -/
theorem it_rng1 (h : EvAC K Γ B tA δ fun ds => ∃ n : Int, ds = [I n] ∧ -100000 ≤ n ∧ n ≤ 100000 ∧ ko ((List.range n.toNat).map fun (i : Nat) => I (i : Int))) : ItC K Γ B (iRng1 tA) δ ko := fun N H σ hg r R q => h N H σ hg r _ fun vs N1 H1 ds s1 dv ⟨n, e, h0, h1, hk⟩ => by
  subst e
  cases dv with
  | cons d1 d2 =>
    cases d2
    cases d1
    refine ⟨n, rfl, by omega, by omega, q _ N1 H1 _ s1 ?_ hk⟩
    unfold WalkD
    rw [List.length_map, List.length_range]
    exact (walk_range (lo := 0) (n := n.toNat)).mono (fun _ _ => trivial) fun i H x H' hi e y N2 e1 e2 => by
      obtain ⟨rfl, rfl⟩ := y
      refine ⟨N2, I (i : Int), Stp.refl e2, ?_, ?_⟩
      · rw [List.getElem?_map, List.getElem?_range hi]
        rfl
      · show DV K N2 (V.int (0 + (i : Int))) (I (i : Int))
        rw [Int.zero_add]
        exact .sc
theorem it_rng2 (h : EvAC K Γ B tA δ fun ds => ∃ lo hi : Int, ds = [I lo, I hi] ∧ (-100000 ≤ lo ∧ lo ≤ 100000 ∧ -100000 ≤ hi ∧ hi ≤ 100000) ∧ ko ((List.range (hi - lo).toNat).map fun (i : Nat) => I (lo + (i : Int)))) : ItC K Γ B (iRng2 tA) δ ko := fun N H σ hg r R q => h N H σ hg r _ fun vs N1 H1 ds s1 dv ⟨lo, hi, e, hb, hk⟩ => by
  subst e
  cases dv with
  | cons d1 d2 =>
    cases d2 with
    | cons d2 d3 =>
      cases d3
      cases d1
      cases d2
      refine ⟨lo, hi, rfl, by omega, q _ N1 H1 _ s1 ?_ hk⟩
      unfold WalkD
      rw [List.length_map, List.length_range]
      exact (walk_range (lo := lo) (n := (hi - lo).toNat)).mono (fun _ _ => trivial) fun i H x H' hi e y N2 e1 e2 => by
        obtain ⟨rfl, rfl⟩ := y
        refine ⟨N2, I (lo + (i : Int)), Stp.refl e2, ?_, .sc⟩
        rw [List.getElem?_map, List.getElem?_range hi]
        rfl
theorem it_str (h : EvC K Γ B te δ fun d => ∃ l, d = TxD l ∧ ko (l.map Sg)) : ItC K Γ B (iStr te) δ ko := fun N H σ hg r R q => h N H σ hg r _ fun v N1 H1 d s1 dv ⟨l, e, hk⟩ => by
  subst e
  cases dv
  refine ⟨_, rfl, q _ N1 H1 _ s1 ?_ hk⟩
  unfold WalkD
  rw [List.length_map]
  exact (Sq.walk_str l).mono (fun _ _ => trivial) fun i H x H' hi e y N2 e1 e2 => by
    obtain ⟨rfl, hx⟩ := y
    rw [List.getElem?_map] at hx
    obtain ⟨c, hc, rfl⟩ := Option.map_eq_some_iff.mp hx
    exact ⟨N2, Sg c, Stp.refl e2, by rw [List.getElem?_map, hc]; rfl, .sc⟩
theorem it_revS (h : EvC K Γ B te δ fun d => ∃ l, d = TxD l ∧ l.length ≤ 100000 ∧ ko (l.reverse.map Sg)) : ItC K Γ B (iRevS te) δ ko := fun N H σ hg r R q => h N H σ hg r _ fun v N1 H1 d s1 dv ⟨l, e, hl, hk⟩ => by
  subst e
  cases dv
  refine ⟨_, rfl, sz_of (by show l.toArray.size ≤ 100000; simpa using hl), q _ N1 H1 _ s1 ?_ hk⟩
  unfold WalkD
  rw [List.length_map, List.length_reverse]
  exact (walk_rs l).mono (fun _ _ => trivial) fun i H x H' hi e y N2 e1 e2 => by
    obtain ⟨rfl, hx⟩ := y
    rw [List.getElem?_map] at hx
    obtain ⟨c, hc, rfl⟩ := Option.map_eq_some_iff.mp hx
    exact ⟨N2, Sg c, Stp.refl e2, by rw [List.getElem?_map, hc]; rfl, .sc⟩
theorem new_pair {N2 H : Hp} {T : Addr} {u v : V} {x y : D} (e2 : Ex N2 H) (hT : H T = none) (h1 : DV K N2 u x) (h2 : DV K N2 v y) : ∃ N3, Stp N2 H N3 (upd H T (.tup [u, v])) ∧ DV K N3 (.ref T) (.tup [x, y]) :=
  ⟨_, Stp.new e2 hT, .tup (st_of upd_same) ((DVs.cons h1 (.one h2)).ex (Ex.new (fresh_back e2 hT)))⟩
theorem it_enumS (h : EvAC K Γ B tA δ fun ds => ∃ l, ds = [TxD l] ∧ (∀ c ∈ l, c < 128) ∧ ko (enumD (l.map Sg))) : ItC K Γ B (iEnumS tA) δ ko := fun N H σ hg r R q => h N H σ hg r _ fun vs N1 H1 d s1 dv ⟨l, e, ha, hk⟩ => by
  subst e
  cases dv with
  | cons d1 d2 =>
    cases d2
    cases d1
    refine ⟨_, rfl, by simpa using ha, q _ N1 H1 _ s1 ?_ hk⟩
    unfold WalkD
    rw [enumD_len, List.length_map]
    exact (walk_enS l).mono (fun _ _ => trivial) fun i H x H' hi e y N2 e1 e2 => by
      obtain ⟨T, u, rfl, hT, rfl, hx⟩ := y
      rw [List.getElem?_map] at hx
      obtain ⟨c, hc, rfl⟩ := Option.map_eq_some_iff.mp hx
      obtain ⟨N3, a, b⟩ := new_pair (K := K) (x := I (i : Int)) (y := Sg c) e2 hT .sc .sc
      exact ⟨N3, _, a, enumD_at (by rw [List.getElem?_map, hc]; rfl), b⟩
theorem it_enumT (h : EvAC K Γ B tA δ fun ds => ∃ xs, ds = [.tup xs] ∧ ko (enumD xs)) : ItC K Γ B (iEnumT K tA) δ ko := fun N H σ hg r R q => h N H σ hg r _ fun vs N1 H1 d s1 dv ⟨l, e, hk⟩ => by
  subst e
  cases dv with
  | cons d1 d2 =>
    cases d2
    cases d1 with
    | tup h1 h2 =>
      refine ⟨_, _, rfl, ex_t s1.s h1, q _ N1 H1 _ s1 ?_ hk⟩
      unfold WalkD
      rw [enumD_len, ← h2.len]
      exact (walk_enT _ _).mono (fun H e => ex_t e h1) fun i H x H' hi e y N2 e1 e2 => by
        obtain ⟨T, u, rfl, hT, rfl, hx⟩ := y
        obtain ⟨d, hd, dd⟩ := h2.getV hx
        obtain ⟨N3, a, b⟩ := new_pair (K := K) (x := I (i : Int)) (y := d) e2 hT .sc (dd.ex e1)
        exact ⟨N3, _, a, enumD_at hd, b⟩
theorem it_enumL (h : EvAC K Γ B tA δ fun ds => ∃ xs, ds = [.lst xs] ∧ ko (enumD xs)) : ItC K Γ B (iEnum K tA) δ ko := fun N H σ hg r R q => h N H σ hg r _ fun vs N1 H1 d s1 dv ⟨l, e, hk⟩ => by
  subst e
  cases dv with
  | cons d1 d2 =>
    cases d2
    cases d1 with
    | lst h1 h2 =>
      refine ⟨_, _, rfl, sq_of (s1.s _ _ h1), q _ N1 H1 _ s1 ?_ hk⟩
      unfold WalkD
      rw [enumD_len, ← h2.len]
      exact (walk_enum).mono (fun H e => sq_of (e _ _ h1)) fun i H x H' hi e y N2 e1 e2 => by
        obtain ⟨T, u, v, rfl, hT, rfl, hu, hx⟩ := y
        obtain ⟨d, hd, dd⟩ := h2.getV hx
        cases hu
        obtain ⟨N3, a, b⟩ := new_pair (K := K) (x := I (i : Int)) (y := d) e2 hT .sc (dd.ex e1)
        exact ⟨N3, _, a, enumD_at hd, b⟩
/-! ### the start of a def -/
def gC (post : D → Prop) : PEn := { nx := fun _ => post Non, rt := post, ro := fun es => post (.lst es) }
def gO (post : List D → Prop) : PEn := { nx := fun _ => False, rt := fun _ => False, ro := post }
def startD (n : Nat) (ds : List D) : Ls := ds.map .d ++ List.replicate (n - ds.length) .no
theorem start_rel {N H : Hp} {vs : List V} {ds : List D} {names : List Str} (dv : DVs K N vs ds) (e : Ex N H) : Rel K { n := N, h := H } N H (L2.start names vs) (startD names.length ds) := by
  unfold L2.start startD
  rw [← dv.len]
  refine ⟨Stp.refl e, trivial, by simp [dv.len], fun i x h => ?_, fun i ds' h => ?_, fun i j a b c h => ?_, trivial⟩
  · by_cases hi : i < ds.length
    · rw [List.getElem?_append_left (by rw [List.length_map]; exact hi), List.getElem?_map] at h
      obtain ⟨y, hy, z⟩ := Option.map_eq_some_iff.mp h
      cases z
      obtain ⟨v, hv, d⟩ := dv.get hy
      exact ⟨v, by rw [List.getElem?_append_left (by rw [List.length_map, dv.len]; exact hi), List.getElem?_map, hv]; rfl, d⟩
    · rw [List.getElem?_append_right (by rw [List.length_map]; omega), List.getElem?_replicate] at h
      split at h <;> cases h
  all_goals
    by_cases hi : i < ds.length
    · rw [List.getElem?_append_left (by rw [List.length_map]; exact hi), List.getElem?_map] at h
      obtain ⟨y, hy, z⟩ := Option.map_eq_some_iff.mp h
      cases z
    · rw [List.getElem?_append_right (by rw [List.length_map]; omega), List.getElem?_replicate] at h
      split at h <;> cases h
theorem run_C {N H : Hp} {vs : List V} {ds : List D} {names : List Str} {post : D → Prop} {t : TS} {Q : VK} (dv : DVs K N vs ds) (e : Ex N H) (hg : Has Γ N) (q : ∀ v N' H' d, Stp N H N' H' → DV K N' v d → post d → Q v H') (h : Sat K Γ { n := N, h := H } t (gC post) (startD names.length ds)) :
    t { nx := fun _ H' => Q .non H', rt := Q } (L2.start names vs) H := by
  refine h _ N ⟨fun N1 H1 σ δ hg r p => q _ N1 H1 _ r.stp .sc p, fun N1 H1 v d hg s dv p => q _ N1 H1 _ s dv p, fun N1 H1 p xs ds hg s hB hn hh dv po => ?_, fun _ _ _ _ _ _ z => z.elim, fun _ _ _ _ _ _ z => z.elim⟩ N H _ ⟨hg, Ex.refl N⟩ (start_rel dv e)
  exact q _ _ H1 (.lst ds) (s.frz hB hn hh) (.lst upd_same (dv.ex (Ex.new hn))) po
theorem run_O {N H : Hp} {vs : List V} {ds : List D} {names : List Str} {post : List D → Prop} {t : TS} {Q : VK} (dv : DVs K N vs ds) (e : Ex N H) (hg : Has Γ N) (q : ∀ p N' H' xs es, Stp N H N' H' → H p = none → N' p = none → H' p = some (.lst xs) → DVs K N' xs es → post es → Q (.ref p) H') (h : Sat K Γ { n := N, h := H } t (gO post) (startD names.length ds)) :
    t { nx := fun _ H' => Q .non H', rt := Q } (L2.start names vs) H :=
  h _ N ⟨fun N1 H1 σ δ hg r p => p.elim, fun N1 H1 v d hg s dv p => p.elim, fun N1 H1 p xs ds hg s hB hn hh dv po => q p N1 H1 xs ds s hB hn hh dv po, fun _ _ _ _ _ _ z => z.elim, fun _ _ _ _ _ _ z => z.elim⟩ N H _ ⟨hg, Ex.refl N⟩ (start_rel dv e)
/-! ### a list of its own, read -/
/-- while it is asked for a scalar, a list of its own may be told as a value -/
theorem ec_tmp {ds : List D} (h : δ[i]? = some (.own ds)) (he : EvC K Γ B te (δ.set i (.d (.lst ds))) fun d => ∃ v, d = .sc v ∧ k d) : EvC K Γ B te δ k := fun N H σ hg r Q q => by
  obtain ⟨N1, e, r1⟩ := r.frz h
  refine he N1 H σ (hg.ex e) r1 Q fun u N2 H2 d s2 dv hd => ?_
  obtain ⟨v, rfl, hk⟩ := hd
  cases dv
  exact q _ N H2 _ (Stp.heap r.stp.s s2.h) .sc hk
theorem eb_tmp {ds : List D} {kb : Bool → Prop} (h : δ[i]? = some (.own ds)) (he : EvB K Γ B tt (δ.set i (.d (.lst ds))) kb) : EvB K Γ B tt δ kb := fun N H σ hg r Q q => by
  obtain ⟨N1, e, r1⟩ := r.frz h
  exact he N1 H σ (hg.ex e) r1 Q fun b N2 H2 s2 hd => q b N H2 (Stp.heap r.stp.s s2.h) hd
theorem ec_ownIx {ds : List D} {n : Int} (h : δ[i]? = some (.own ds)) (he : EvC K Γ B te δ fun x => x = I n ∧ atI ds n = some d ∧ k d) : EvC K Γ B (tOp (rIxL K) (tVar i) te) δ k := fun N H σ hg r Q q => by
  obtain ⟨c, xs, a, b, n0, b0, dv⟩ := r.own i ds h
  refine ⟨_, a, he N H σ hg r _ fun v N1 H1 x s1 dv1 hx => ?_⟩
  obtain ⟨rfl, hi, hk⟩ := hx
  cases dv1
  obtain ⟨u, hu, du⟩ := dv.atI hi
  exact ⟨c, xs, n, u, rfl, rfl, sq_of (s1.h _ _ b), hu, q u N1 H1 d s1 (du.ex s1.n) hk⟩
end
end Dv

/-! truth, older promises of scalars, what is equal, what is least -/
namespace Dv
open PySem PySem.Spec PyProof.Rows L2 Evl Sq
def truD : D → Option Bool
  | .sc .non => some false
  | .sc (.bl b) => some b
  | .sc (.int i) => some (i != 0)
  | .sc (.str s) => if s.length ≤ 100000 then some ((s.length : Int) != 0) else none
  | .tup ds => some (!ds.isEmpty)
  | .lst ds => some (!ds.isEmpty)
  | _ => none
abbrev tTruth (K : PySem.W.Frag) (te : TE) : TT := fun σ H Q => te σ H fun x H' => ∃ k, TruV K x H' k ∧ Q k H'
section
variable {K : PySem.W.Frag} {Γ : Fx} {B : Bs} {δ : Ls} {ta tb tc te : TE} {tA : TA} {tu : TS} {tt : TT} {G : PEn} {d x y : D} {i j : Nat} {ko : List D → Prop} {k : D → Prop}
theorem emp_len {α β : Type} {xs : List α} {ys : List β} (h : xs.length = ys.length) : xs.isEmpty = ys.isEmpty := by
  cases xs <;> cases ys <;> first | rfl | cases h
theorem dv_tru {N H : Hp} {v : V} {b : Bool} (h : DV K N v d) (e : Ex N H) (hb : truD d = some b) : TruV K v H b := by
  cases h with
  | sc =>
    cases v with
    | str s =>
      have hb : (if s.length ≤ 100000 then some ((s.length : Int) != 0) else none) = some b := hb
      by_cases hl : s.length ≤ 100000
      · rw [if_pos hl] at hb
        exact ⟨sz_of hl, (Option.some.inj hb).symm⟩
      · rw [if_neg hl] at hb
        cases hb
    | non => cases hb; rfl
    | bl b => cases hb; rfl
    | int i => cases hb; rfl
    | byt b => cases hb
    | flt b => cases hb
    | ref b => cases hb
    | ty b => cases hb
  | row => cases hb
  | tup h1 h2 =>
    cases hb
    exact .inr (.inl ⟨_, ex_t e h1, by rw [emp_len h2.len]⟩)
  | lst h1 h2 =>
    cases hb
    exact .inl ⟨_, sq_of (e _ _ h1), by rw [emp_len h2.len]⟩
  | dct => cases hb
theorem eb_tru {kb : Bool → Prop} (h : EvC K Γ B te δ fun d => ∃ b, truD d = some b ∧ kb b) : EvB K Γ B (tTruth K te) δ kb := fun N H σ g r Q q => h N H σ g r _ fun v N1 H1 d s1 dv ⟨b, e, kd⟩ => ⟨b, dv_tru dv s1.s e, q b N1 H1 s1 kd⟩
/-! ### promises of scalars -/
theorem ec_callV {sp : Sp} (h : EvAC K Γ B tA δ fun ds => ∃ vs z, ds = vs.map .sc ∧ (∀ H, SpV sp vs H z) ∧ k (.sc z)) : EvC K Γ B (tCall sp [] E0 tA) δ k := fun N H σ g r Q q => h N H σ g r _ fun vs N1 H1 ds s1 dv ⟨us, z, e, hs, hk⟩ => by
  subst e
  have := dv.scs
  subst this
  show sp (vs ++ []) H1 Q E0
  rw [List.append_nil]
  exact hs H1 H1 (Ex.refl H1) Q (fun H2 e2 => q z N1 H2 _ (s1.trans (Stp.heap s1.s e2)) .sc hk) E0
theorem eo_callL {sp : Sp} (h : EvAC K Γ B tA δ fun ds => ∃ vs zs, ds = vs.map .sc ∧ (∀ H, SpL sp vs H zs) ∧ ko (zs.map .sc)) : EvO K Γ B (tCall sp [] E0 tA) δ ko := fun N H σ g r Q q => h N H σ g r _ fun vs N1 H1 ds s1 dv ⟨us, zs, e, hs, hk⟩ => by
  subst e
  have := dv.scs
  subst this
  show sp (vs ++ []) H1 Q E0
  rw [List.append_nil]
  exact hs H1 H1 (Ex.refl H1) Q (fun p H2 hp e2 h2 => q p N1 H2 zs _ (s1.trans (Stp.heap s1.s e2)) (fresh_back s1.h hp) (fresh_back s1.s hp) h2 (DVs.ofSc zs) hk) E0
/-! ### as data of the model -/
mutual
def toP : D → Option PyData
  | .sc .non => some .none
  | .sc (.bl b) => some (.bool b)
  | .sc (.int i) => some (.int i)
  | .sc (.str s) => some (.str s)
  | .sc _ => none
  | .row => none
  | .tup ds => (toPs ds).map PyData.tuple
  | .lst ds => (toPs ds).map PyData.list
  | .dct _ _ => none
def toPs : List D → Option (List PyData)
  | [] => some []
  | d :: ds => match toP d, toPs ds with
    | some p, some ps => some (p :: ps)
    | _, _ => none
end
mutual
theorem dv_dp {N H : Hp} (e : Ex N H) : ∀ {v : V} {d : D}, DV K N v d → ∀ {p : PyData}, toP d = some p → Dp K H v p
  | .non, _, .sc, _, h => by cases h; exact .non
  | .bl _, _, .sc, _, h => by cases h; exact .bl _
  | .int _, _, .sc, _, h => by cases h; exact .int _
  | .str _, _, .sc, _, h => by cases h; exact .str _
  | .byt _, _, .sc, _, h => by cases h
  | .flt _, _, .sc, _, h => by cases h
  | .ref _, _, .sc, _, h => by cases h
  | .ty _, _, .sc, _, h => by cases h
  | _, _, .row _, _, h => by cases h
  | _, _, .tup (ds := ds) h1 h2, p, h => by
    unfold toP at h
    obtain ⟨ps, hp, rfl⟩ := Option.map_eq_some_iff.mp h
    exact .tup (ex_t e h1) (dvs_dp e h2 hp)
  | _, _, .lst (ds := ds) h1 h2, p, h => by
    unfold toP at h
    obtain ⟨ps, hp, rfl⟩ := Option.map_eq_some_iff.mp h
    exact .lst (sq_of (e _ _ h1)) (dvs_dp e h2 hp)
  | _, _, .dct _ _ _, _, h => by cases h
theorem dvs_dp {N H : Hp} (e : Ex N H) : ∀ {vs : List V} {ds : List D}, DVs K N vs ds → ∀ {ps : List PyData}, toPs ds = some ps → DpAll K H vs ps
  | _, _, .nil, _, h => by cases h; exact .nil
  | _, _, .cons (d := d) (ds := ds) h hs, ps, hp => by
    unfold toPs at hp
    cases h1 : toP d with
    | none => rw [h1] at hp; cases hp
    | some p =>
      cases h2 : toPs ds with
      | none => rw [h1, h2] at hp; cases hp
      | some qs =>
        rw [h1, h2] at hp
        cases hp
        exact .cons (dv_dp e h h1) (dvs_dp e hs h2)
end
theorem oc_eqD {p q : PyData} (h1 : toP x = some p) (h2 : toP y = some q) (s1 : SeqAt.shaped p = true) (s2 : SeqAt.shaped q = true) (hk : k (Bo (PyData.eqv p q))) : OpC K (rEqD K) x y k := fun N H v w e dv dw Q r => ⟨p, q, dv_dp e dv h1, dv_dp e dw h2, s1, s2, r _ N H _ (Stp.refl e) .sc hk⟩
theorem oc_neD {p q : PyData} (h1 : toP x = some p) (h2 : toP y = some q) (s1 : SeqAt.shaped p = true) (s2 : SeqAt.shaped q = true) (hk : k (Bo (!PyData.eqv p q))) : OpC K (rNeD K) x y k := fun N H v w e dv dw Q r => ⟨p, q, dv_dp e dv h1, dv_dp e dw h2, s1, s2, r _ N H _ (Stp.refl e) .sc hk⟩
end
end Dv

/-! min of a list of data with an order -/
namespace Dv
open PySem PySem.Spec PyProof.Rows L2 Evl Sq PySem.W
def rMinA (K : PySem.W.Frag) (α : Type) [DecidableEq α] [DatumOrd α] : List V → Hp → VK → Prop := fun vs H Q => ∃ (a : Addr) (us : List V) (x : α) (xs : List α), vs = [V.ref a] ∧ SqL K H a us ∧ DpAll K H us ((x :: xs).map Datum.toD) ∧
  ∀ (i : Nat) v, us[i]? = some v → (x :: xs)[i]? = some (minOf x xs) → Q v H
theorem readsAll_get {h : Heap} : ∀ {vs : List Value} {ds : List PyData} {as : List Addr}, ReadsAll h vs ds as → ∀ {i : Nat} {v : Value}, vs[i]? = some v → ∃ d bs, ds[i]? = some d ∧ Reads h v d bs
  | _, _, _, .nil, i, v, hv => by simp at hv
  | _, _, _, .cons r rs, 0, v, hv => by
    cases hv
    exact ⟨_, _, rfl, r⟩
  | _, _, _, .cons r rs, i + 1, v, hv => readsAll_get rs (i := i) (by simpa using hv)
theorem cr_minA {X : Cx} {α : Type} [DecidableEq α] [DatumOrd α] (hc : X.calm = true) (hu : X.A.units + 64 < cLine) (hd : Datum.depth α ≤ 8) (inj : ∀ x y : α, (Datum.toD x : PyData) = Datum.toD y → x = y) : CallR X (.builtin "min") (rMinA X.K α) := by
  intro pins s σ H vs us Q I r h
  obtain ⟨a, ws, x, xs, rfl, hs, hp, q⟩ := h
  obtain ⟨its, rv, hl, _⟩ := I.list hs
  rw [Vals.ref1 r]
  obtain ⟨as, ra⟩ := Dp.readsAll I _ _ _ hp rv
  refine min_list_datum (x := x) (xs := xs) (I.ok.hd hc) hl.isList (by
    show ∃ bs, ReadsAll s.heap its.toArray.toList ((x :: xs).map Datum.toD) bs
    exact ⟨as, by rw [List.toList_toArray]; exact ra⟩) (by omega) fun i v h' tk hi hh hk => ?_
  have hi2 : its[i]? = some v := by simpa using hi
  obtain ⟨w, hw, hr⟩ : ∃ w, ws[i]? = some w ∧ RelV w v := by
    have hlt := (List.getElem?_eq_some_iff.mp hi2).1
    have hlen := rv.length
    obtain ⟨u, hu2, hr⟩ := rv.get (i := i) (List.getElem?_eq_getElem (show i < ws.length by omega))
    rw [hi2] at hu2
    cases hu2
    exact ⟨_, List.getElem?_eq_getElem (show i < ws.length by omega), hr⟩
  obtain ⟨d, bs, hd2, rd⟩ := readsAll_get ra hi2
  obtain ⟨cs, rc⟩ := hh
  have e := (PyProof.Rows.reads_det (fun b o e _ => hk b o e) rd rc).1
  rw [List.getElem?_map] at hd2
  obtain ⟨y, hy, hz⟩ := Option.map_eq_some_iff.mp hd2
  have hyx : y = minOf x xs := inj _ _ (hz.trans e.symm)
  exact ⟨w, H, I.kept (t' := tk) hk, hr, q i w hw (by rw [hy, hyx])⟩
section
variable {K : PySem.W.Frag} {Γ : Fx} {B : Bs} {δ : Ls} {k : D → Prop}
theorem toPs_map {α : Type} [DecidableEq α] [Datum α] {g0 : α → D} (hd : ∀ x : α, toP (g0 x) = some (Datum.toD x)) : ∀ xs : List α, toPs (xs.map g0) = some (xs.map Datum.toD)
  | [] => rfl
  | x :: xs => by
    rw [List.map_cons]
    unfold toPs
    rw [hd x, toPs_map hd xs]
    rfl
theorem cc_minA {α : Type} [DecidableEq α] [DatumOrd α] {g0 : α → D} (hd : ∀ x : α, toP (g0 x) = some (Datum.toD x)) {x : α} {xs : List α} (hk : k (g0 (minOf x xs))) : CbC K Γ (rMinA K α) [.lst ((x :: xs).map g0)] k := fun N H vs e hg dv Q q => by
  cases dv with
  | cons d1 d2 =>
    cases d2
    cases d1 with
    | lst h1 h2 =>
      refine ⟨_, _, x, xs, rfl, sq_of (e _ _ h1), dvs_dp e h2 (toPs_map hd _), fun i v hv hi => ?_⟩
      obtain ⟨d, hd2, dd⟩ := h2.getV hv
      rw [List.getElem?_map, hi] at hd2
      cases hd2
      exact q v N H _ (Stp.refl e) dd hk
end
end Dv

/-! rules by what is read, for steps taken one by one -/
namespace Dv
open PySem PySem.Spec PyProof.Rows L2 Evl Sq
theorem and_len {α : Type} {xs : List α} {p : Prop} (h : xs.length ≤ 100000) (hp : p) : xs.length ≤ 100000 ∧ p := ⟨h, hp⟩
section
variable {K : PySem.W.Frag} {Γ Γ' : Fx} {B : Bs} {δ : Ls} {ta tb tc te : TE} {tA : TA} {tu : TS} {tt : TT} {G : PEn} {d x y : D} {i j : Nat} {ko : List D → Prop} {k : D → Prop}
theorem ec_cat (h : EvC K Γ B ta δ fun x => EvC K Γ B tb δ fun y => OpO K rCat x y fun ds => k (.lst ds)) : EvC K Γ B (tOp rCat ta tb) δ k := ec_O (eo_op h)
theorem ec_rep (h : EvC K Γ B ta δ fun x => EvC K Γ B tb δ fun y => OpO K rRep x y fun ds => k (.lst ds)) : EvC K Γ B (tOp rRep ta tb) δ k := ec_O (eo_op h)
theorem ec_slL {tl th : TO} (h : EvC K Γ B te δ fun x => EvOp K Γ B tl δ fun lo => EvOp K Γ B th δ fun hi => SlO K (rSlL K) x lo hi fun ds => k (.lst ds)) : EvC K Γ B (tSl (rSlL K) te tl th) δ k := ec_O (eo_sl h)
theorem ec_lst (h : EvAC K Γ B tA δ fun xs => xs.length ≤ 100000 ∧ k (.lst xs)) : EvC K Γ B (tLst tA) δ k := ec_O (eo_lst h)
theorem ec_listOf (h : EvAC K Γ B tA δ fun xs => CbO K Γ (rListS K) xs fun ds => k (.lst ds)) : EvC K Γ B (tCB (rListS K) tA) δ k := ec_O (eo_cb h)
theorem ec_callO {S : List D → (List D → Prop) → Prop} (h : EvAC K Γ B tA δ fun ds => S ds fun es => k (.lst es)) (hs : ∀ p ∈ Γ', p ∈ Γ := by simp) : EvC K Γ B (tCall (spO K Γ' S) [] E0 tA) δ k := ec_O (eo_call h hs)
theorem zipD_at {xs ys : List D} {i : Nat} {x y : D} (h1 : xs[i]? = some x) (h2 : ys[i]? = some y) : (zipD xs ys)[i]? = some (.tup [x, y]) := by
  unfold zipD
  rw [List.getElem?_zipWith, h1, h2]
theorem zipD_len (xs ys : List D) : (zipD xs ys).length = min xs.length ys.length := List.length_zipWith
theorem zipD_map {α : Type} (f g : α → D) : ∀ xs : List α, zipD (xs.map f) (xs.map g) = xs.map fun x => .tup [f x, g x]
  | [] => rfl
  | x :: xs => congrArg (D.tup [f x, g x] :: ·) (zipD_map f g xs)
theorem it_zipL (h : EvAC K Γ B tA δ fun ds => ∃ xs ys, ds = [.lst xs, .lst ys] ∧ ko (zipD xs ys)) : ItC K Γ B (RZ.iZipA K tA) δ ko := fun N H σ hg r R q => h N H σ hg r _ fun vs N1 H1 d s1 dv ⟨l, m, e, hk⟩ => by
  subst e
  cases dv with
  | cons d1 d2 =>
    cases d2 with
    | cons d2 d3 =>
      cases d3
      cases d1 with
      | lst h1 h2 =>
        cases d2 with
        | lst h3 h4 =>
          refine ⟨_, _, _, _, rfl, .inl ⟨sq_of (s1.s _ _ h1), sq_of (s1.s _ _ h3), q _ N1 H1 _ s1 ?_ hk⟩⟩
          unfold WalkD
          rw [zipD_len, ← h2.len, ← h4.len]
          exact (walk_zip rfl).mono (fun H e => ⟨sq_of (e _ _ h1), sq_of (e _ _ h3)⟩) fun i H x H' hi e y N2 e1 e2 => by
            obtain ⟨T, u, v, rfl, hT, rfl, hu, hx⟩ := y
            obtain ⟨d, hd, dd⟩ := h2.getV hu
            obtain ⟨d', hd', dd'⟩ := h4.getV hx
            obtain ⟨N3, a, b⟩ := new_pair (K := K) (x := d) (y := d') e2 hT (dd.ex e1) (dd'.ex e1)
            exact ⟨N3, _, a, zipD_at hd hd', b⟩
theorem walk_zipTT {a b : Addr} {xs ys : List V} {n : Nat} (hn : n = min xs.length ys.length) : Walk (RZ.ItzT K a b) n (fun H => SqT K H a xs ∧ SqT K H b ys) (YPair (fun i => xs[i]?) (fun i => ys[i]?)) := by
  subst hn
  refine ⟨fun i _ hi q => ?_, fun _ q => ⟨xs, ys, q.1, q.2, by omega⟩, fun i H v H' _ q y => ?_⟩
  · have h1 : i < xs.length := by omega
    have h2 : i < ys.length := by omega
    exact ⟨xs, ys, xs[i], ys[i], q.1, q.2, List.getElem?_eq_getElem h1, List.getElem?_eq_getElem h2⟩
  · obtain ⟨T, x, y, e1, e2, e3, h4, h5⟩ := y
    exact ⟨T, x, y, e1, e2, e3, h4 xs q.1, h5 ys q.2⟩
theorem it_zipT (h : EvAC K Γ B tA δ fun ds => ∃ xs ys, ds = [.tup xs, .tup ys] ∧ ko (zipD xs ys)) : ItC K Γ B (RZ.iZipA K tA) δ ko := fun N H σ hg r R q => h N H σ hg r _ fun vs N1 H1 d s1 dv ⟨l, m, e, hk⟩ => by
  subst e
  cases dv with
  | cons d1 d2 =>
    cases d2 with
    | cons d2 d3 =>
      cases d3
      cases d1 with
      | tup h1 h2 =>
        cases d2 with
        | tup h3 h4 =>
          refine ⟨_, _, _, _, rfl, .inr ⟨ex_t s1.s h1, ex_t s1.s h3, q _ N1 H1 _ s1 ?_ hk⟩⟩
          unfold WalkD
          rw [zipD_len, ← h2.len, ← h4.len]
          exact (walk_zipTT rfl).mono (fun H e => ⟨ex_t e h1, ex_t e h3⟩) fun i H x H' hi e y N2 e1 e2 => by
            obtain ⟨T, u, v, rfl, hT, rfl, hu, hx⟩ := y
            obtain ⟨d, hd, dd⟩ := h2.getV hu
            obtain ⟨d', hd', dd'⟩ := h4.getV hx
            obtain ⟨N3, a, b⟩ := new_pair (K := K) (x := d) (y := d') e2 hT (dd.ex e1) (dd'.ex e1)
            exact ⟨N3, _, a, zipD_at hd hd', b⟩
theorem tgx_name {kl : Ls → Prop} (h : kl (δ.set j (.d d))) : ∃ js, TgC K B (gName j) d js kl δ := ⟨_, tg_name h⟩
theorem tgx_tup {gs : TGs} {ds : List D} {n : Nat} {kl : Ls → Prop} (hn : ds.length = n) (h : ∃ js, TgsC K B gs ds js kl δ) : ∃ js, TgC K B (gTup K n gs) (.tup ds) js kl δ := let ⟨js, h⟩ := h; ⟨js, tg_tup hn h⟩
theorem tgx_nil {kl : Ls → Prop} (h : kl δ) : ∃ js, TgsC K B gNil [] js kl δ := ⟨_, tgs_nil h⟩
theorem tgx_cons {gs : TGs} {ds : List D} {kl : Ls → Prop} (h : ∃ js, TgsC K B gs ds js kl (δ.set j (.d d))) : ∃ js, TgsC K B (gCons (gName j) gs) (d :: ds) js kl δ := let ⟨js, h⟩ := h; ⟨_, tgs_cons (tg_name h)⟩
/-- for x in .., the items by a function of what is walked -/
theorem sat_forM {α : Type} {g0 : α → D} {g : TG} {wi : TI} (J : Nat → Ls → Prop) (h : ItC K Γ B wi δ fun ds => ∃ xs : List α, ds = xs.map g0 ∧ J 0 δ ∧ (∀ (i : Nat) x δ', xs[i]? = some x → J i δ' → ∃ js, TgC K B g (g0 x) js (fun δ2 => Sat K Γ B tu { G with nx := J (i + 1), ct := J (i + 1), bk := G.nx } δ2) δ') ∧ ∀ δ', J xs.length δ' → G.nx δ') : Sat K Γ B (tFor wi g tu) G δ :=
  sat_for fun N H σ hg r R q => h N H σ hg r R fun It N1 H1 ds s w ⟨xs, e, j0, js, jd⟩ => q It N1 H1 ds s w ⟨J, j0, fun i d δ' hd hj => by
    rw [e, List.getElem?_map] at hd
    obtain ⟨x, hx, rfl⟩ := Option.map_eq_some_iff.mp hd
    exact js i x δ' hx hj, fun δ' hj => by
    rw [e, List.length_map] at hj
    exact jd δ' hj⟩
/-- for i, x in enumerate(..) -/
theorem sat_forE {α : Type} {g0 : α → D} {g : TG} {wi : TI} (J : Nat → Ls → Prop) (h : ItC K Γ B wi δ fun ds => ∃ xs : List α, ds = enumD (xs.map g0) ∧ J 0 δ ∧ (∀ (i : Nat) x δ', xs[i]? = some x → J i δ' → ∃ js, TgC K B g (.tup [I (i : Int), g0 x]) js (fun δ2 => Sat K Γ B tu { G with nx := J (i + 1), ct := J (i + 1), bk := G.nx } δ2) δ') ∧ ∀ δ', J xs.length δ' → G.nx δ') : Sat K Γ B (tFor wi g tu) G δ :=
  sat_for fun N H σ hg r R q => h N H σ hg r R fun It N1 H1 ds s w ⟨xs, e, j0, js, jd⟩ => q It N1 H1 ds s w ⟨J, j0, fun i d δ' hd hj => by
    rw [e] at hd
    obtain ⟨y, hy, rfl⟩ := enumD_get hd
    rw [List.getElem?_map] at hy
    obtain ⟨x, hx, rfl⟩ := Option.map_eq_some_iff.mp hy
    exact js i x δ' hx hj, fun δ' hj => by
    rw [e, enumD_len, List.length_map] at hj
    exact jd δ' hj⟩
end
end Dv

/-! messages: their promises by values -/
namespace Dv
open PySem PySem.Spec PyProof.Rows L2 Evl Sq
abbrev wayD (w : Way) : D := .tup [.lst (w.1.map I), I (w.2 : Int)]
abbrev restD (r : Rest) : D := .lst [.tup [I (r.l0 : Int), I (r.n0 : Int)], .tup [I (r.l1 : Int), I (r.n1 : Int)]]
def stepR (c : Nat) (r : Rest) : Rest := ⟨minL ((waysOf c 0).map (wayLen r)), sumN r (shortW r (waysOf c 0)), minL ((waysOf c 1).map (wayLen r)), sumN r (shortW r (waysOf c 1))⟩
def restOf : List Nat → Rest
  | [] => ⟨0, 1, 0, 1⟩
  | c :: l => stepR c (restOf l)
abbrev WayP := List Int × Int
def wayP (w : Way) : WayP := (w.1, (w.2 : Int))
abbrev pairD (p : WayP) : D := .tup [.lst (p.1.map I), I p.2]
theorem wayD_pair (w : Way) : wayD w = pairD (wayP w) := rfl
/-- the first of the least of some ways -/
def bestW : List Way → WayP
  | [] => ([], 0)
  | w :: ws => PySem.W.minOf (wayP w) (ws.map wayP)
def encOf : List Nat → Nat → List Int
  | [], _ => []
  | c :: l, m => (bestW (shortW (restOf l) (waysOf c m))).1 ++ encOf l (bestW (shortW (restOf l) (waysOf c m))).2.toNat
def S_ways : List D → (List D → Prop) → Prop := fun ds k => ∃ c m : Nat, ds = [Sg c, I (m : Int)] ∧ c ∈ cpsL alpS ∧ m ≤ 1 ∧ k ((waysOf c m).map wayD)
def S_short : List D → (List D → Prop) → Prop := fun ds k => ∃ (ws : List Way) (r : Rest), ds = [.lst (ws.map wayD), restD r] ∧ ws.length ≤ 100 ∧ (∀ w ∈ ws, w.2 ≤ 1) ∧ k ((shortW r ws).map wayD)
def S_mrest : List D → (D → Prop) → Prop := fun ds k => ∃ (ws : List Way) (r : Rest), ds = [.lst (ws.map wayD), restD r] ∧ ws ≠ [] ∧ ws.length ≤ 100 ∧ (∀ w ∈ ws, w.2 ≤ 1) ∧ k (.tup [I (minL (ws.map (wayLen r)) : Nat), I (sumN r (shortW r ws) : Nat)])
def S_mrests : List D → (List D → Prop) → Prop := fun ds k => ∃ l : List Nat, ds = [TxD l] ∧ MsgOk l ∧ k ((List.range (l.length + 1)).map fun i => restD (restOf (l.drop i)))
def S_enc : List D → (List D → Prop) → Prop := fun ds k => ∃ l : List Nat, ds = [TxD l] ∧ MsgOk l ∧ k ((encOf l 0).map I)
def S_cnt : List D → (D → Prop) → Prop := fun ds k => ∃ l : List Nat, ds = [TxD l] ∧ MsgOk l ∧ k (I ((restOf l).n0 : Nat))
section
variable {K : PySem.W.Frag} {Γ : Fx} {B : Bs} {δ : Ls} {t u : TS} {G : PEn}
theorem sat_mid (δm : Ls) (h : Sat K Γ B t { G with nx := fun δ' => δ' = δm } δ) (h2 : Sat K Γ B u G δm) : Sat K Γ B (tSeq t u) G δ :=
  sat_seq (sat_imp h (fun δ' e => by
    have e : δ' = δm := e
    rw [e]
    exact h2) (fun _ z => z) (fun _ z => z) (fun _ z => z) (fun _ z => z))
theorem sat_cut (M : Ls → Prop) (h : Sat K Γ B t { G with nx := M } δ) (h2 : ∀ δm, M δm → Sat K Γ B u G δm) : Sat K Γ B (tSeq t u) G δ :=
  sat_seq (sat_imp h (fun δ' e => h2 δ' e) (fun _ z => z) (fun _ z => z) (fun _ z => z) (fun _ z => z))
end
theorem wrt_one (c m : Nat) : wrtW c m ≠ [] → (!((wrtW c m).map I).isEmpty) = true := fun h => by
  cases e : wrtW c m with
  | nil => exact absurd e h
  | cons x r => rfl
end Dv
namespace Dv
open PySem PySem.Spec PyProof.Rows L2 Evl Sq
theorem sw_atD {m : Nat} (h : m ≤ 1) : atI ((([12, 14] : List Int).map V.int).map D.sc) (m : Int) = some (I (swI m)) := by
  rcases (by omega : m = 0 ∨ m = 1) with rfl | rfl <;> rfl
theorem way1_short (c m : Nat) : ((way1 c m).map wayD).length < 100000 := by
  unfold way1
  split
  · exact (by decide : 0 < 100000)
  · exact (by decide : 1 < 100000)
theorem not_emp {l : List Int} (h : (!(l.map (D.sc ∘ V.int)).isEmpty) = true) : l ≠ [] := fun z => by
  rw [z] at h
  cases h
theorem is_emp {l : List Int} (h : (!(l.map (D.sc ∘ V.int)).isEmpty) = false) : l = [] := by
  cases l with
  | nil => rfl
  | cons x r => cases h
theorem ways_le (c m : Nat) : (waysOf c m).length ≤ 2 := by
  unfold waysOf way1 way2
  split <;> split <;> simp
theorem ways_mode {c m : Nat} (hm : m ≤ 1) : ∀ w ∈ waysOf c m, w.2 ≤ 1 := fun w hw => by
  unfold waysOf way1 way2 at hw
  split at hw <;> split at hw <;> simp at hw
  · rw [hw]; omega
  · rw [hw]; exact hm
  · rcases hw with rfl | rfl
    · exact hm
    · show 1 - m ≤ 1
      omega
theorem ways_ne {c m : Nat} (hc : c ∈ cpsL alpS) (hm : m ≤ 1) : waysOf c m ≠ [] := by
  have hd : ∀ c, digW c ≠ [] := fun c => by
    unfold digW
    split
    · exact fun z => nomatch z
    · split <;> exact fun z => nomatch z
  unfold waysOf
  rcases (by omega : m = 0 ∨ m = 1) with rfl | rfl
  · have h : wrtW c 0 ≠ [] := hd c
    rw [way1_yes h]
    exact fun z => nomatch z
  · have h : wrtW c (1 - 1) ≠ [] := hd c
    rw [way2_yes h]
    intro z
    have := congrArg List.length z
    rw [List.length_append] at this
    simp at this
theorem rest_at (r : Rest) {m : Nat} (hm : m ≤ 1) : atI [D.tup [I (r.l0 : Int), I (r.n0 : Int)], .tup [I (r.l1 : Int), I (r.n1 : Int)]] (m : Int) = some (.tup [I ((restAt r m).1 : Int), I ((restAt r m).2 : Int)]) := by
  rcases (by omega : m = 0 ∨ m = 1) with rfl | rfl <;> rfl
end Dv
namespace Dv
open PySem PySem.Spec PyProof.Rows L2 Evl Sq
theorem wayLen_eq (r : Rest) (w : Way) : (((w.1.map I).length : Nat) : Int) + ((restAt r w.2).1 : Int) = ((wayLen r w : Nat) : Int) := by
  unfold wayLen
  rw [List.length_map]
  rfl
theorem rest_drop {l : List Nat} {i c : Nat} (h : l.reverse[i]? = some c) : stepR c (restOf (l.drop (l.length - i))) = restOf (l.drop (l.length - (i + 1))) ∧ c ∈ l := by
  have hi : i < l.length := by
    have := (List.getElem?_eq_some_iff.mp h).1
    rwa [List.length_reverse] at this
  rw [List.getElem?_reverse hi] at h
  refine ⟨?_, List.mem_of_getElem? h⟩
  have e : l.length - (i + 1) = l.length - 1 - i := by omega
  rw [e]
  have hlt := (List.getElem?_eq_some_iff.mp h).1
  have hd : l.drop (l.length - 1 - i) = c :: l.drop (l.length - i) := by
    rw [List.drop_eq_getElem_cons hlt]
    have h2 := (List.getElem?_eq_some_iff.mp h).2
    rw [h2]
    have : l.length - 1 - i + 1 = l.length - i := by omega
    rw [this]
  rw [hd]
  rfl
theorem rests_snoc {l : List Nat} (i : Nat) : ((List.range (i + 1)).map fun j => restD (restOf (l.drop (l.length - j)))) ++ [restD (restOf (l.drop (l.length - (i + 1))))] = (List.range (i + 2)).map fun j => restD (restOf (l.drop (l.length - j))) := by
  rw [List.range_succ (n := i + 1), List.map_append]
  rfl
theorem rests_rev (l : List Nat) : ((List.range (l.length + 1)).map fun j => restD (restOf (l.drop (l.length - j)))).reverse = (List.range (l.length + 1)).map fun i => restD (restOf (l.drop i)) := by
  apply List.ext_getElem?
  intro i
  by_cases hi : i < l.length + 1
  · rw [List.getElem?_reverse (by simpa using hi), List.getElem?_map, List.getElem?_map, List.length_map, List.length_range, List.getElem?_range hi, List.getElem?_range (by omega)]
    have : l.length - (l.length + 1 - 1 - i) = i := by omega
    show some (restD (restOf (l.drop (l.length - (l.length + 1 - 1 - i))))) = some (restD (restOf (l.drop i)))
    rw [this]
  · rw [List.getElem?_eq_none (by simp; omega), List.getElem?_eq_none (by simp; omega)]
end Dv
namespace Dv
open PySem PySem.Spec PyProof.Rows L2 Evl Sq
theorem rests_0 (l : List Nat) : [restD ⟨0, 1, 0, 1⟩] = (List.range (0 + 1)).map fun j => restD (restOf (l.drop (l.length - j))) := by
  show [restD ⟨0, 1, 0, 1⟩] = [restD (restOf (l.drop (l.length - 0)))]
  rw [Nat.sub_zero, List.drop_length]
  rfl
end Dv

/-! messages: the shortest symbols, and what they decode to -/
namespace Dv
open PySem PySem.Spec PyProof.Rows L2 Evl Sq
theorem toD_inj {α : Type} [DecidableEq α] [PySem.W.Datum α] {x y : α} (h : (PySem.W.Datum.toD x : PyData) = PySem.W.Datum.toD y) : x = y := by
  have e := PySem.W.Datum.eqv x y
  rw [h, PySem.W.Datum.eqv y y] at e
  simp at e
  exact e
theorem toPs_I : ∀ ns : List Int, toPs (ns.map I) = some (ns.map PyData.int)
  | [] => rfl
  | n :: ns => by
    rw [List.map_cons]
    unfold toPs
    rw [toPs_I ns]
    rfl
theorem toP_pair (p : WayP) : toP (pairD p) = some (PySem.W.Datum.toD p) := by
  unfold pairD toP toPs
  unfold toP
  rw [toPs_I]
  rfl
theorem minOf_mem {α : Type} [DecidableEq α] [PySem.W.DatumOrd α] : ∀ (xs : List α) (x : α), PySem.W.minOf x xs ∈ x :: xs
  | [], x => List.mem_cons_self
  | y :: ys, x => by
    have h := minOf_mem ys (if PySem.W.DatumOrd.lt y x = true then y else x)
    have e : PySem.W.minOf x (y :: ys) = PySem.W.minOf (if PySem.W.DatumOrd.lt y x = true then y else x) ys := rfl
    rw [e]
    rcases List.mem_cons.mp h with h | h
    · rw [h]
      split
      · exact List.mem_cons_of_mem _ List.mem_cons_self
      · exact List.mem_cons_self
    · exact List.mem_cons_of_mem _ (List.mem_cons_of_mem _ h)
theorem bestW_mem {ws : List Way} (h : ws ≠ []) : ∃ w ∈ ws, bestW ws = wayP w := by
  cases ws with
  | nil => exact absurd rfl h
  | cons w ws =>
    have z := minOf_mem (ws.map wayP) (wayP w)
    rw [← List.map_cons] at z
    obtain ⟨v, hv, e⟩ := List.mem_map.mp z
    exact ⟨v, hv, e.symm⟩
theorem best_way {r : Rest} {c m : Nat} (hc : c ∈ cpsL alpS) (hm : m ≤ 1) : ∃ w ∈ waysOf c m, bestW (shortW r (waysOf c m)) = wayP w ∧ wayLen r w = minL ((waysOf c m).map (wayLen r)) ∧ w.2 ≤ 1 := by
  obtain ⟨w, hw, e⟩ := bestW_mem (short_ne (r := r) (ways_ne hc hm))
  obtain ⟨h1, h2⟩ := short_mem hw
  exact ⟨w, h1, e, h2, ways_mode hm w h1⟩
theorem way_len {c m : Nat} {w : Way} (h : w ∈ waysOf c m) : w.1.length ≤ 4 := by
  have l1 := wrt_le c m
  have l2 := wrt_le c (1 - m)
  unfold waysOf way1 way2 at h
  split at h <;> split at h <;> simp at h
  · rw [h]; simp; omega
  · rw [h]; simp; omega
  · rcases h with rfl | rfl <;> simp <;> omega
theorem enc_s {l : List Nat} {i m : Nat} {c : Nat} (h : l[i]? = some c) : encOf (l.drop i) m = (bestW (shortW (restOf (l.drop (i + 1))) (waysOf c m))).1 ++ encOf (l.drop (i + 1)) (bestW (shortW (restOf (l.drop (i + 1))) (waysOf c m))).2.toNat := by
  have hlt := (List.getElem?_eq_some_iff.mp h).1
  have e : l.drop i = c :: l.drop (i + 1) := by
    rw [List.drop_eq_getElem_cons hlt, (List.getElem?_eq_some_iff.mp h).2]
  rw [e]
  rfl
theorem short_cons {ws : List Way} (h : ws ≠ []) : ∃ w vs, ws = w :: vs ∧ bestW ws = PySem.W.minOf (wayP w) (vs.map wayP) := by
  cases ws with
  | nil => exact absurd rfl h
  | cons w vs => exact ⟨w, vs, rfl, rfl⟩
/-! ### what symbols decode to -/
inductive Dec : List Int → Nat → List Nat → Prop
  | nil {m : Nat} : Dec [] m []
  | stop {m : Nat} {r : List Int} : Dec (15 :: r) m []
  | sw {m : Nat} {r : List Int} {l : List Nat} : Dec r (1 - m) l → Dec (swI m :: r) m l
  | chr {m c : Nat} {r : List Int} {l : List Nat} : wrtW c m ≠ [] → c ∈ cpsL alpS → Dec r m l → Dec (wrtW c m ++ r) m (c :: l)
theorem enc_dec : ∀ {l : List Nat} {m : Nat}, (∀ c ∈ l, c ∈ cpsL alpS) → m ≤ 1 → ∀ {r : List Int}, (∀ m', Dec r m' []) → Dec (encOf l m ++ r) m l
  | [], m, _, _, r, hr => hr m
  | c :: l, m, h, hm, r, hr => by
    have hc := h c List.mem_cons_self
    obtain ⟨w, hw, e, _, hw2⟩ := best_way (r := restOf l) hc hm
    have ih : ∀ m', m' ≤ 1 → Dec (encOf l m' ++ r) m' l := fun m' hm' => enc_dec (fun d hd => h d (List.mem_cons_of_mem _ hd)) hm' hr
    show Dec (((bestW (shortW (restOf l) (waysOf c m))).1 ++ encOf l (bestW (shortW (restOf l) (waysOf c m))).2.toNat) ++ r) m (c :: l)
    rw [e]
    show Dec ((w.1 ++ encOf l ((w.2 : Int)).toNat) ++ r) m (c :: l)
    rw [Int.toNat_natCast]
    unfold waysOf at hw
    rcases List.mem_append.mp hw with hw | hw
    · unfold way1 at hw
      split at hw
      · cases hw
      · rename_i hne
        rw [List.mem_singleton.mp hw, List.append_assoc]
        exact .chr hne hc (ih m hm)
    · unfold way2 at hw
      split at hw
      · cases hw
      · rename_i hne
        rw [List.mem_singleton.mp hw]
        show Dec (swI m :: ((wrtW c (1 - m) ++ encOf l (1 - m)) ++ r)) m (c :: l)
        rw [List.append_assoc]
        exact .sw (.chr hne hc (ih (1 - m) (by omega)))
/-- the first symbol of a character, and how it is read -/
def chrOk (c m : Nat) : Bool := match wrtW c m with
  | [] => true
  | s :: r => decide (s ≠ 15) && decide (s ≠ swI m) && decide (cntW s (m : Int) = (r.length : Int) + 1) && (s :: r).all fun x => decide (0 ≤ x) && decide (x ≤ 15)
theorem chr_ok : ∀ c ∈ cpsL alpS, chrOk c 0 = true ∧ chrOk c 1 = true := by decide +kernel
theorem wrt_ok {c m : Nat} (hc : c ∈ cpsL alpS) (hm : m ≤ 1) {s : Int} {r : List Int} (h : wrtW c m = s :: r) : s ≠ 15 ∧ s ≠ swI m ∧ cntW s (m : Int) = (r.length : Int) + 1 ∧ ∀ x ∈ s :: r, Sym x := by
  have z := chr_ok c hc
  have y : chrOk c m = true := by
    rcases (by omega : m = 0 ∨ m = 1) with rfl | rfl
    · exact z.1
    · exact z.2
  unfold chrOk at y
  rw [h] at y
  simp only [Bool.and_eq_true, decide_eq_true_eq, List.all_eq_true] at y
  exact ⟨y.1.1.1, y.1.1.2, y.1.2, fun x hx => ⟨(y.2 x hx).1, (y.2 x hx).2⟩⟩
def seqD (b : Bool) (ds : List D) : D := if b then .lst ds else .tup ds
def S_dec : List D → (D → Prop) → Prop := fun ds k => ∃ (b : Bool) (ss : List Int) (l : List Nat), ds = [seqD b (ss.map I)] ∧ ss.length ≤ 5000 ∧ (∀ s ∈ ss, Sym s) ∧ Dec ss 0 l ∧ l.length ≤ 5000 ∧ k (TxD l)
def S_reqS : List D → (D → Prop) → Prop := fun ds k => ∃ (b : Bool) (ss : List Int), ds = [seqD b (ss.map I)] ∧ ss.length ≤ 5000 ∧ (∀ s ∈ ss, Sym s) ∧ k Non
def S_read : List D → (D → Prop) → Prop := fun ds k => ∃ (b : Bool) (ss : List Int) (j m c : Nat) (r : List Int), ds = [seqD b (ss.map I), I (j : Int), I (m : Int)] ∧ ss.drop j = wrtW c m ++ r ∧ wrtW c m ≠ [] ∧ c ∈ cpsL alpS ∧ m ≤ 1 ∧ k (Sg c)
def S_readM (m : Nat) : List D → (D → Prop) → Prop := fun ds k => ∃ (b : Bool) (ss : List Int) (j c : Nat) (r : List Int), ds = [seqD b (ss.map I), I (j : Int)] ∧ ss.drop j = wrtW c m ++ r ∧ wrtW c m ≠ [] ∧ c ∈ cpsL alpS ∧ k (Sg c)
section
variable {K : PySem.W.Frag} {Γ : Fx} {B : Bs} {δ : Ls} {k : D → Prop} {ko : List D → Prop} {d : D} {ta : TE} {tA : TA}
theorem oc_ixQ {b : Bool} {ds : List D} {i : Int} (h : atI ds i = some d) (hk : k d) : OpC K (rIx K) (seqD b ds) (I i) k := fun N H v w e dv dw Q q => by
  cases b with
  | true => exact .inl (oc_ixL h hk N H v w e dv dw Q q)
  | false => exact .inr (.inl (oc_ixT h hk N H v w e dv dw Q q))
theorem cc_lenQ {b : Bool} {ds : List D} (hk : k (I (ds.length : Int))) : CbC K Γ (rLenS K) [seqD b ds] k := by
  cases b with
  | true => exact cc_lenL hk
  | false => exact cc_lenT hk
theorem it_enumQ {b : Bool} {xs : List D} (h : EvAC K Γ B tA δ fun ds => ds = [seqD b xs] ∧ ko (enumD xs)) : ItC K Γ B (iEither (iEnum K tA) (iEnumT K tA)) δ ko := fun N H σ hg r R q => by
  cases b with
  | true => exact .inl (it_enumL (fun N H σ hg r Q q2 => h N H σ hg r Q fun vs N' H' ds s dv hd => q2 vs N' H' ds s dv ⟨xs, hd.1, hd.2⟩) N H σ hg r R q)
  | false => exact .inr (it_enumT (fun N H σ hg r Q q2 => h N H σ hg r Q fun vs N' H' ds s dv hd => q2 vs N' H' ds s dv ⟨xs, hd.1, hd.2⟩) N H σ hg r R q)
theorem ec_isiT2 {c1 c2 : String} {b1 b2 : Bool} (h : EvC K Γ B ta δ fun d => dTy d ≠ "?" ∧ kitB (dTy d) c1 = some b1 ∧ kitB (dTy d) c2 = some b2 ∧ k (Bo (b1 || b2))) : EvC K Γ B (tCB (rIsiT K) (tCons ta (tCons (tTup (tCons (tC (.ty c1)) (tCons (tC (.ty c2)) tNil))) tNil))) δ k := fun N H σ hg r Q q => h N H σ hg r _ fun v N1 H1 d s1 dv ⟨hne, e1, e2, hk⟩ => ⟨by show 2 ≤ sizeLine; decide, fun p hp => by
  refine ⟨v, p, [.ty c1, .ty c2], .type (dTy d), [.type c1, .type c2], b1 || b2, rfl, upd_same, .cons (.ty c1) (.cons (.ty c2) .nil), dv_ty dv (s1.s.trans (Ex.new hp)) hne, ?_, q _ N1 _ _ (s1.trans (Stp.heap s1.s (Ex.new hp))) .sc hk⟩
  cases b1 with
  | true => exact kitAny_cons (kit_ty e1) (fun z => nomatch z) (fun _ => rfl)
  | false =>
    refine kitAny_cons (kit_ty e1) (fun _ => ?_) (fun z => nomatch z)
    cases b2 with
    | true => exact kitAny_cons (kit_ty e2) (fun z => nomatch z) (fun _ => rfl)
    | false => exact kitAny_cons (kit_ty e2) (fun _ => kitAny_nil) (fun z => nomatch z)⟩
theorem seq_ty (b : Bool) (ds : List D) : dTy (seqD b ds) ≠ "?" ∧ ∃ b1 b2, kitB (dTy (seqD b ds)) "list" = some b1 ∧ kitB (dTy (seqD b ds)) "tuple" = some b2 ∧ (b1 || b2) = true := by
  cases b with
  | true => exact ⟨by show ("list" : String) ≠ "?"; decide, true, false, by show kitB "list" "list" = some true; decide +kernel, by show kitB "list" "tuple" = some false; decide +kernel, rfl⟩
  | false => exact ⟨by show ("tuple" : String) ≠ "?"; decide, false, true, by show kitB "tuple" "list" = some false; decide +kernel, by show kitB "tuple" "tuple" = some true; decide +kernel, rfl⟩
theorem atI_I {ss : List Int} {j : Nat} {x : Int} (h : ss[j]? = some x) : atI (ss.map I) (j : Int) = some (I x) := atI_nat (by rw [List.getElem?_map, h]; rfl)
theorem drop_at {ss : List Int} {j : Nat} {s : Int} {r : List Int} (h : ss.drop j = s :: r) : ss[j]? = some s ∧ j < ss.length ∧ ss.drop (j + 1) = r := by
  have hl : j < ss.length := by
    apply Classical.byContradiction
    intro z
    rw [List.drop_eq_nil_of_le (by omega)] at h
    cases h
  rw [List.drop_eq_getElem_cons hl] at h
  injection h with h1 h2
  exact ⟨by rw [List.getElem?_eq_getElem hl, h1], hl, h2⟩
theorem drop_len {ss w r : List Int} {j : Nat} (h : ss.drop j = w ++ r) (hw : w ≠ []) : j + w.length ≤ ss.length ∧ ss.drop (j + w.length) = r := by
  have l := congrArg List.length h
  rw [List.length_drop, List.length_append] at l
  have : 0 < w.length := List.length_pos_iff.mpr hw
  refine ⟨by omega, ?_⟩
  rw [← List.drop_drop, h, List.drop_left]
end
end Dv

/-! messages: how characters are read -/
namespace Dv
open PySem PySem.Spec PyProof.Rows L2 Evl Sq
theorem dig_at : ∀ c ∈ cpsL digS, (cpsL digS)[ixIn digS c]? = some c := by decide +kernel
theorem let_at : ∀ c ∈ cpsL letS, (cpsL letS)[ixIn letS c]? = some c := by decide +kernel
theorem rar_at : ∀ c ∈ cpsL rarS, (cpsL rarS)[ixIn rarS c]? = some c := by decide +kernel
theorem alp_at : ∀ c ∈ cpsL alpS, (cpsL alpS)[ixIn alpS c]? = some c := by decide +kernel
theorem dig_13 : ∀ c ∈ cpsL digS, ((ixIn digS c : Nat) : Int) ≠ 13 ∧ ((ixIn digS c : Nat) : Int) ≠ 14 := by decide +kernel
theorem let_13 : ∀ c ∈ cpsL letS, ((ixIn letS c : Nat) : Int) ≠ 13 := by decide +kernel
theorem alp_num : ∀ c ∈ cpsL alpS, 16 * (((ixIn alpS c : Nat) : Int) / 2 ^ Int.toNat 4) + Builtin.bitAnd ((ixIn alpS c : Nat) : Int) 15 = ((ixIn alpS c : Nat) : Int) ∧ ixIn alpS c < 94 := by decide +kernel
theorem alp_strlen : (alpS : Str).length = 94 := by decide +kernel
theorem hyph : sgn 45 = V.str "-" := by decide +kernel
section
variable {K : PySem.W.Frag} {k : D → Prop}
theorem oc_ixSn {s : Str} {j c : Nat} (h : (cpsL s)[j]? = some c) (hl : s.length ≤ 100000) (hk : k (Sg c)) : OpC K rIxS (.sc (.str s)) (I (j : Int)) k := oc_ixS (atI_nat h) hl hk
end
theorem Dec.done {ss : List Int} {m : Nat} {l : List Nat} (h : Dec ss m l) (e : ss = []) : l = [] := by
  cases h with
  | nil => rfl
  | stop => rfl
  | sw _ => cases e
  | chr h1 _ _ =>
    have := (List.append_eq_nil_iff.mp e).1
    exact absurd this h1
end Dv

/-! messages: how many symbols; drawn texts; the start of a law -/
namespace Dv
open PySem PySem.Spec PyProof.Rows L2 Evl Sq
def Ln (m : Nat) (l : List Nat) : Nat := (restAt (restOf l) m).1
theorem step_at (c : Nat) (r : Rest) {m : Nat} (hm : m ≤ 1) : restAt (stepR c r) m = (minL ((waysOf c m).map (wayLen r)), sumN r (shortW r (waysOf c m))) := by
  rcases (by omega : m = 0 ∨ m = 1) with rfl | rfl <;> rfl
theorem Ln_cons (c : Nat) (l : List Nat) {m : Nat} (hm : m ≤ 1) : Ln m (c :: l) = minL ((waysOf c m).map (wayLen (restOf l))) := by
  show (restAt (stepR c (restOf l)) m).1 = _
  rw [step_at c _ hm]
theorem enc_len : ∀ {l : List Nat} {m : Nat}, (∀ c ∈ l, c ∈ cpsL alpS) → m ≤ 1 → (encOf l m).length = Ln m l
  | [], m, _, hm => by rcases (by omega : m = 0 ∨ m = 1) with rfl | rfl <;> rfl
  | c :: l, m, h, hm => by
    obtain ⟨w, hw, e, hl, hw2⟩ := best_way (r := restOf l) (h c List.mem_cons_self) hm
    rw [Ln_cons c l hm, ← hl]
    show ((bestW (shortW (restOf l) (waysOf c m))).1 ++ encOf l (bestW (shortW (restOf l) (waysOf c m))).2.toNat).length = _
    rw [e, List.length_append]
    show w.1.length + (encOf l ((w.2 : Int)).toNat).length = _
    rw [Int.toNat_natCast, enc_len (fun d hd => h d (List.mem_cons_of_mem _ hd)) hw2]
    rfl
theorem cnt_pos : ∀ {l : List Nat} {m : Nat}, (∀ c ∈ l, c ∈ cpsL alpS) → m ≤ 1 → 1 ≤ (restAt (restOf l) m).2
  | [], m, _, hm => by rcases (by omega : m = 0 ∨ m = 1) with rfl | rfl <;> decide
  | c :: l, m, h, hm => by
    show 1 ≤ (restAt (stepR c (restOf l)) m).2
    rw [step_at c _ hm]
    show 1 ≤ sumN (restOf l) (shortW (restOf l) (waysOf c m))
    obtain ⟨w, vs, e, _⟩ := short_cons (short_ne (r := restOf l) (ways_ne (h c List.mem_cons_self) hm))
    have hw := (short_mem (r := restOf l) (ws := waysOf c m) (w := w) (by rw [e]; exact List.mem_cons_self)).1
    rw [e]
    unfold sumN
    rw [List.map_cons, List.sum_cons]
    have := cnt_pos (l := l) (fun d hd => h d (List.mem_cons_of_mem _ hd)) (ways_mode hm w hw)
    omega
def aL (c : Nat) : Nat := (digW c).length
def bL (c : Nat) : Nat := (letW c).length
theorem dig_ne (c : Nat) : digW c ≠ [] := by
  unfold digW
  split
  · exact fun z => nomatch z
  · split <;> exact fun z => nomatch z
theorem Ln_0 (c : Nat) (l : List Nat) : Ln 0 (c :: l) = if letW c = [] then aL c + Ln 0 l else min (aL c + Ln 0 l) (1 + bL c + Ln 1 l) := by
  rw [Ln_cons c l (by decide)]
  have h1 : wrtW c 0 ≠ [] := dig_ne c
  unfold waysOf
  rw [way1_yes h1]
  by_cases h : letW c = []
  · rw [if_pos h, way2_no (show wrtW c (1 - 0) = [] from h)]
    rfl
  · rw [if_neg h, way2_yes (show wrtW c (1 - 0) ≠ [] from h)]
    show min (aL c + Ln 0 l) ((letW c).length + 1 + Ln 1 l) = _
    rw [show (letW c).length + 1 + Ln 1 l = 1 + bL c + Ln 1 l by unfold bL; omega]
theorem Ln_1 (c : Nat) (l : List Nat) : Ln 1 (c :: l) = if letW c = [] then 1 + aL c + Ln 0 l else min (bL c + Ln 1 l) (1 + aL c + Ln 0 l) := by
  rw [Ln_cons c l (by decide)]
  have h1 : wrtW c (1 - 1) ≠ [] := dig_ne c
  unfold waysOf
  rw [way2_yes h1]
  by_cases h : letW c = []
  · rw [if_pos h, way1_no (show wrtW c 1 = [] from h)]
    show (digW c).length + 1 + Ln 0 l = _
    unfold aL
    omega
  · rw [if_neg h, way1_yes (show wrtW c 1 ≠ [] from h)]
    show min (bL c + Ln 1 l) ((digW c).length + 1 + Ln 0 l) = _
    rw [show (digW c).length + 1 + Ln 0 l = 1 + aL c + Ln 0 l by unfold aL; omega]
theorem Ln_nil (m : Nat) : Ln m [] = 0 := by
  unfold Ln restAt
  split <;> rfl
theorem Ln_diff : ∀ l : List Nat, Ln 0 l ≤ Ln 1 l + 1 ∧ Ln 1 l ≤ Ln 0 l + 1
  | [] => by rw [Ln_nil, Ln_nil]; omega
  | c :: l => by
    rw [Ln_0, Ln_1]
    split <;> omega
theorem Ln_app : ∀ (l k : List Nat), Ln 0 (l ++ k) ≤ Ln 0 l + Ln 0 k + 1 ∧ Ln 1 (l ++ k) ≤ Ln 1 l + Ln 0 k + 1
  | [], k => by
    have := Ln_diff k
    rw [List.nil_append, Ln_nil, Ln_nil]
    omega
  | c :: l, k => by
    have h := Ln_app l k
    rw [List.cons_append, Ln_0, Ln_1, Ln_0, Ln_1]
    split <;> omega
theorem Ln_pre : ∀ (l k : List Nat), Ln 0 l ≤ Ln 0 (l ++ k) ∧ Ln 1 l ≤ Ln 1 (l ++ k)
  | [], k => by rw [Ln_nil, Ln_nil]; omega
  | c :: l, k => by
    have h := Ln_pre l k
    rw [List.cons_append, Ln_0, Ln_1, Ln_0, Ln_1]
    split <;> omega
theorem Ln_suf : ∀ (l k : List Nat), Ln 0 k ≤ Ln 0 (l ++ k) + 1 ∧ Ln 0 k ≤ Ln 1 (l ++ k) + 1
  | [], k => by
    have := Ln_diff k
    rw [List.nil_append]
    omega
  | c :: l, k => by
    have h := Ln_suf l k
    rw [List.cons_append, Ln_0, Ln_1]
    split <;> omega
/-! ### digits -/
def dgs : List Nat := [48, 49, 50, 51, 52, 53, 54, 55, 56, 57]
theorem dg_w : ∀ c ∈ dgs, letW c = [] ∧ digW c = [((c - 48 : Nat) : Int)] ∧ c ∈ cpsL alpS := by decide +kernel
theorem dg_ways {c : Nat} (h : c ∈ dgs) : waysOf c 0 = [([((c - 48 : Nat) : Int)], 0)] := by
  obtain ⟨h1, h2, _⟩ := dg_w c h
  unfold waysOf
  rw [way2_no (show wrtW c (1 - 0) = [] from h1), way1_yes (show wrtW c 0 ≠ [] from dig_ne c), List.append_nil]
  show [(digW c, 0)] = _
  rw [h2]
theorem short_one (r : Rest) (w : Way) : shortW r [w] = [w] := by
  unfold shortW minL
  simp
theorem dg_enc : ∀ {ds : List Nat}, (∀ c ∈ ds, c ∈ dgs) → ∀ l, encOf (ds ++ l) 0 = ds.map (fun c => ((c - 48 : Nat) : Int)) ++ encOf l 0
  | [], _, l => rfl
  | c :: ds, h, l => by
    have hw := dg_ways (h c List.mem_cons_self)
    show (bestW (shortW (restOf (ds ++ l)) (waysOf c 0))).1 ++ encOf (ds ++ l) (bestW (shortW (restOf (ds ++ l)) (waysOf c 0))).2.toNat = _
    rw [hw, short_one]
    show [((c - 48 : Nat) : Int)] ++ encOf (ds ++ l) 0 = _
    rw [dg_enc (fun d hd => h d (List.mem_cons_of_mem _ hd)) l]
    rfl
theorem dg_cnt : ∀ {ds : List Nat}, (∀ c ∈ ds, c ∈ dgs) → (restOf ds).n0 = 1
  | [], _ => rfl
  | c :: ds, h => by
    have hw := dg_ways (h c List.mem_cons_self)
    show sumN (restOf ds) (shortW (restOf ds) (waysOf c 0)) = 1
    rw [hw, short_one]
    show (restOf ds).n0 + 0 = 1
    rw [dg_cnt (fun d hd => h d (List.mem_cons_of_mem _ hd))]
/-! ### lists of ints compared -/
theorem toP_ints (ns : List Int) : toP (.lst (ns.map I)) = some (PyData.list (pdI ns)) := by
  unfold toP
  rw [toPs_I]
  rfl
theorem eqv_intsL (ns ms : List Int) : PyData.eqv (PyData.list (pdI ns)) (PyData.list (pdI ms)) = decide (ns = ms) := PySem.W.Datum.eqv (α := List Int) ns ms
section
variable {K : PySem.W.Frag} {k : D → Prop}
theorem oc_neInts {ns ms : List Int} (hk : k (Bo (!decide (ns = ms)))) : OpC K (rNeD K) (.lst (ns.map I)) (.lst (ms.map I)) k := oc_neD (toP_ints ns) (toP_ints ms) (shaped_l ns) (shaped_l ms) (by rw [eqv_intsL]; exact hk)
theorem oc_eqInts {ns ms : List Int} (hk : k (Bo (decide (ns = ms)))) : OpC K (rEqD K) (.lst (ns.map I)) (.lst (ms.map I)) k := oc_eqD (toP_ints ns) (toP_ints ms) (shaped_l ns) (shaped_l ms) (by rw [eqv_intsL]; exact hk)
end
/-! ### drawn texts -/
theorem txt_cps (s : Str) : txt (cpsL s) = s := by
  unfold cpsL txt
  cases s
  simp
theorem emp_txt : (V.str "" : V) = V.str (txt []) := by decide +kernel
def S_msg : List D → (D → Prop) → Prop := fun ds k => ∃ M : Int, ds = [.row, I M] ∧ 0 < M ∧ M ≤ 60 ∧ ∀ l : List Nat, (∀ c ∈ l, c ∈ cpsL alpS) → l.length ≤ 240 → (l.length : Int) ≤ 4 * M → k (TxD l)
theorem some6 {z : Int} (h0 : 0 ≤ z) (h1 : z < 6) : ∃ l : List Nat, atI [D.sc (.str "0123456789"), .sc (.str "etaoinsrhldu "), .sc (.str "cmfpgwybvkxjqz,'"), .sc (.str " .-,'"), .sc (.str alpS), .sc (.str "0123456789 .")] z = some (TxD l) ∧ (∀ c ∈ l, c ∈ cpsL alpS) ∧ 0 < l.length ∧ l.length ≤ 100 := by
  have key : ∀ s : Str, ((cpsL s).all fun c => decide (c ∈ cpsL alpS)) = true → 0 < (cpsL s).length → (cpsL s).length ≤ 100 → ∃ l : List Nat, D.sc (.str s) = TxD l ∧ (∀ c ∈ l, c ∈ cpsL alpS) ∧ 0 < l.length ∧ l.length ≤ 100 := fun s h h2 h3 => ⟨cpsL s, by rw [show TxD (cpsL s) = D.sc (.str (txt (cpsL s))) from rfl, txt_cps], fun c hc => of_decide_eq_true (List.all_eq_true.mp h c hc), h2, h3⟩
  rcases (by omega : z = 0 ∨ z = 1 ∨ z = 2 ∨ z = 3 ∨ z = 4 ∨ z = 5) with rfl | rfl | rfl | rfl | rfl | rfl
  · obtain ⟨l, e, r⟩ := key "0123456789" (by decide +kernel) (by decide +kernel) (by decide +kernel)
    exact ⟨l, by rw [← e]; rfl, r⟩
  · obtain ⟨l, e, r⟩ := key "etaoinsrhldu " (by decide +kernel) (by decide +kernel) (by decide +kernel)
    exact ⟨l, by rw [← e]; rfl, r⟩
  · obtain ⟨l, e, r⟩ := key "cmfpgwybvkxjqz,'" (by decide +kernel) (by decide +kernel) (by decide +kernel)
    exact ⟨l, by rw [← e]; rfl, r⟩
  · obtain ⟨l, e, r⟩ := key " .-,'" (by decide +kernel) (by decide +kernel) (by decide +kernel)
    exact ⟨l, by rw [← e]; rfl, r⟩
  · obtain ⟨l, e, r⟩ := key alpS (by decide +kernel) (by decide +kernel) (by decide +kernel)
    exact ⟨l, by rw [← e]; rfl, r⟩
  · obtain ⟨l, e, r⟩ := key "0123456789 ." (by decide +kernel) (by decide +kernel) (by decide +kernel)
    exact ⟨l, by rw [← e]; rfl, r⟩
/-- a list of signs, one by one -/
theorem sgs_of {es : List D} {n : Nat} {p : Nat → Prop} (hl : es.length = n) (h : ∀ (i : Nat) (x : Nat) e, (List.range n)[i]? = some x → es[i]? = some e → ∃ c, e = Sg c ∧ p c) : ∃ cs : List Nat, es = cs.map Sg ∧ cs.length = n ∧ ∀ c ∈ cs, p c := by
  have key : ∀ (es : List D), (∀ e ∈ es, ∃ c, e = Sg c ∧ p c) → ∃ cs : List Nat, es = cs.map Sg ∧ ∀ c ∈ cs, p c := by
    intro es
    induction es with
    | nil => exact fun _ => ⟨[], rfl, fun c hc => by cases hc⟩
    | cons e es ih =>
      intro h
      obtain ⟨c, rfl, hc⟩ := h e List.mem_cons_self
      obtain ⟨cs, rfl, hcs⟩ := ih fun e he => h e (List.mem_cons_of_mem _ he)
      exact ⟨c :: cs, rfl, fun d hd => by
        rcases List.mem_cons.mp hd with rfl | hd
        · exact hc
        · exact hcs d hd⟩
  obtain ⟨cs, rfl, hcs⟩ := key es fun e he => by
    obtain ⟨i, hi⟩ := List.getElem?_of_mem he
    have hlt := (List.getElem?_eq_some_iff.mp hi).1
    exact h i i e (List.getElem?_range (by omega)) hi
  exact ⟨cs, rfl, by rw [← hl, List.length_map], hcs⟩
/-! ### the start of a law -/
theorem run_law {K : PySem.W.Frag} {Γ : Fx} {G H : Hp} {σ : L2.St} {δ : Ls} {t : TS} {Q : VK} (hG : Ex H G) (hr : Rel K { n := G, h := G } G G σ δ) (hg : Has Γ G) (q : ∀ H2, Ex H H2 → Q (.bl true) H2) (h : Sat K Γ { n := G, h := G } t (gC fun d => d = Bo true) δ) : t { nx := fun _ H' => Q .non H', rt := Q } σ G := by
  refine h _ G ⟨fun N1 H1 σ δ hg r p => (nomatch p), fun N1 H1 v d hg s dv p => ?_, fun N1 H1 p xs ds hg s hB hn hh dv po => (nomatch po), fun _ _ _ _ _ _ z => z.elim, fun _ _ _ _ _ _ z => z.elim⟩ G G σ ⟨hg, Ex.refl G⟩ hr
  have p : d = Bo true := p
  subst p
  cases dv
  exact q H1 (hG.trans s.h)
theorem rel_row {K : PySem.W.Frag} {G : Hp} {a r : Addr} {n : Nat} (hrow : RowAt K G r) : Rel K { n := G, h := G } G G (some (.ref a) :: some (.ref r) :: List.replicate n none) (.no :: .d .row :: List.replicate n .no) := by
  refine ⟨Stp.refl (Ex.refl G), trivial, by simp, fun i x h => ?_, fun i ds h => ?_, fun i j ds es c h => ?_, trivial⟩
  · match i with
    | 0 => cases h
    | 1 =>
      cases h
      exact ⟨_, rfl, .row hrow⟩
    | i + 2 =>
      have h : (List.replicate n Sl.no)[i]? = some (.d x) := h
      rw [List.getElem?_replicate] at h
      split at h <;> cases h
  all_goals
    match i with
    | 0 => cases h
    | 1 => cases h
    | i + 2 =>
      have h : (List.replicate n Sl.no)[i]? = some (.own ds) := h
      rw [List.getElem?_replicate] at h
      split at h <;> cases h
end Dv

/-! messages: what a law of them wants beside -/
namespace Dv
open PySem PySem.Spec PyProof.Rows L2 Evl Sq
theorem way_sym {c m : Nat} (hc : c ∈ cpsL alpS) (hm : m ≤ 1) {w : Way} (h : w ∈ waysOf c m) : ∀ s ∈ w.1, Sym s := by
  have key : ∀ m, m ≤ 1 → ∀ s ∈ wrtW c m, Sym s := fun m hm s hs => by
    cases e : wrtW c m with
    | nil => rw [e] at hs; cases hs
    | cons a b =>
      rw [e] at hs
      exact (wrt_ok hc hm e).2.2.2 s hs
  unfold waysOf at h
  rcases List.mem_append.mp h with h | h
  · unfold way1 at h
    split at h
    · cases h
    · rw [List.mem_singleton.mp h]
      exact key m hm
  · unfold way2 at h
    split at h
    · cases h
    · rw [List.mem_singleton.mp h]
      intro s hs
      rcases List.mem_cons.mp hs with rfl | hs
      · unfold swI
        split
        · exact ⟨by decide, by decide⟩
        · exact ⟨by decide, by decide⟩
      · exact key (1 - m) (by omega) s hs
theorem enc_sym : ∀ {l : List Nat} {m : Nat}, (∀ c ∈ l, c ∈ cpsL alpS) → m ≤ 1 → ∀ s ∈ encOf l m, Sym s
  | [], m, _, _, s, hs => by cases hs
  | c :: l, m, h, hm, s, hs => by
    obtain ⟨w, hw, e, _, hw2⟩ := best_way (r := restOf l) (h c List.mem_cons_self) hm
    have hs : s ∈ (bestW (shortW (restOf l) (waysOf c m))).1 ++ encOf l (bestW (shortW (restOf l) (waysOf c m))).2.toNat := hs
    rw [e] at hs
    rcases List.mem_append.mp hs with hs | hs
    · exact way_sym (h c List.mem_cons_self) hm hw s hs
    · exact enc_sym (fun d hd => h d (List.mem_cons_of_mem _ hd)) (by show ((w.2 : Int)).toNat ≤ 1; rw [Int.toNat_natCast]; exact hw2) s hs
theorem enc_le : ∀ {l : List Nat} {m : Nat}, (∀ c ∈ l, c ∈ cpsL alpS) → m ≤ 1 → (encOf l m).length ≤ 4 * l.length
  | [], m, _, _ => Nat.zero_le _
  | c :: l, m, h, hm => by
    obtain ⟨w, hw, e, _, hw2⟩ := best_way (r := restOf l) (h c List.mem_cons_self) hm
    show ((bestW (shortW (restOf l) (waysOf c m))).1 ++ encOf l (bestW (shortW (restOf l) (waysOf c m))).2.toNat).length ≤ _
    rw [e, List.length_append, List.length_cons]
    have h1 := way_len hw
    have h2 := enc_le (l := l) (m := ((w.2 : Int)).toNat) (fun d hd => h d (List.mem_cons_of_mem _ hd)) (by rw [Int.toNat_natCast]; exact hw2)
    show w.1.length + (encOf l ((w.2 : Int)).toNat).length ≤ _
    omega
theorem enc_dec0 {l : List Nat} (h : ∀ c ∈ l, c ∈ cpsL alpS) : Dec (encOf l 0) 0 l := by
  have := enc_dec (m := 0) h (by decide) (r := []) fun m => .nil
  rwa [List.append_nil] at this
theorem ints_of {es : List D} {n : Nat} {p : Int → Prop} (hl : es.length = n) (h : ∀ (i : Nat) (x : Nat) e, (List.range n)[i]? = some x → es[i]? = some e → ∃ z, e = I z ∧ p z) : ∃ zs : List Int, es = zs.map I ∧ zs.length = n ∧ ∀ z ∈ zs, p z := by
  have key : ∀ (es : List D), (∀ e ∈ es, ∃ z, e = I z ∧ p z) → ∃ zs : List Int, es = zs.map I ∧ ∀ z ∈ zs, p z := by
    intro es
    induction es with
    | nil => exact fun _ => ⟨[], rfl, fun c hc => by cases hc⟩
    | cons e es ih =>
      intro h
      obtain ⟨c, rfl, hc⟩ := h e List.mem_cons_self
      obtain ⟨cs, rfl, hcs⟩ := ih fun e he => h e (List.mem_cons_of_mem _ he)
      exact ⟨c :: cs, rfl, fun d hd => by
        rcases List.mem_cons.mp hd with rfl | hd
        · exact hc
        · exact hcs d hd⟩
  obtain ⟨cs, rfl, hcs⟩ := key es fun e he => by
    obtain ⟨i, hi⟩ := List.getElem?_of_mem he
    have hlt := (List.getElem?_eq_some_iff.mp hi).1
    exact h i i e (List.getElem?_range (by omega)) hi
  exact ⟨cs, rfl, by rw [← hl, List.length_map], hcs⟩
theorem dg_int : ∀ c ∈ dgs, PySem.intText? (txt [c]) = some ((c - 48 : Nat) : Int) := by decide +kernel
section
variable {K : PySem.W.Frag} {Γ : Fx} {k : D → Prop}
theorem cc_intS {s : Str} {n : Int} (h : PySem.intText? s = some n) (hl : s.length ≤ 640) (hk : k (I n)) : CbC K Γ (fun xs H Q => ∃ a n, xs = [.str a] ∧ PySem.intText? a = some n ∧ a.length ≤ 640 ∧ Q (.int n) H) [.sc (.str s)] k := fun N H vs e hg dv Q q => by
  cases dv with
  | cons d1 d2 =>
    cases d2
    cases d1
    exact ⟨s, n, rfl, h, hl, q _ N H _ (Stp.refl e) .sc hk⟩
end
theorem dgs_at {z : Int} (h0 : 0 ≤ z) (h1 : z < 10) : ∃ c ∈ dgs, atI ((("0123456789" : Str)).cps.toList) z = some c := by
  rcases (by omega : z = 0 ∨ z = 1 ∨ z = 2 ∨ z = 3 ∨ z = 4 ∨ z = 5 ∨ z = 6 ∨ z = 7 ∨ z = 8 ∨ z = 9) with rfl | rfl | rfl | rfl | rfl | rfl | rfl | rfl | rfl | rfl
  · exact ⟨48, by decide, by decide +kernel⟩
  · exact ⟨49, by decide, by decide +kernel⟩
  · exact ⟨50, by decide, by decide +kernel⟩
  · exact ⟨51, by decide, by decide +kernel⟩
  · exact ⟨52, by decide, by decide +kernel⟩
  · exact ⟨53, by decide, by decide +kernel⟩
  · exact ⟨54, by decide, by decide +kernel⟩
  · exact ⟨55, by decide, by decide +kernel⟩
  · exact ⟨56, by decide, by decide +kernel⟩
  · exact ⟨57, by decide, by decide +kernel⟩
end Dv
namespace Dv
open PySem PySem.Spec PyProof.Rows L2 Evl Sq
theorem cutD_take {xs : List D} {k : Nat} : cutD xs none (some (k : Int)) = xs.take k := by
  unfold cutD
  have h1 : HT.sIx xs.length 0 none = 0 := rfl
  have h2 : HT.sIx xs.length xs.length (some (k : Int)) = min k xs.length := by
    unfold HT.sIx
    simp
    omega
  rw [h1, h2, List.drop_zero, Nat.sub_zero]
  by_cases h : k ≤ xs.length
  · rw [Nat.min_eq_left h]
  · rw [Nat.min_eq_right (by omega), List.take_length, List.take_of_length_le (by omega)]
theorem cutD_tail {xs : List D} {k : Nat} : cutD xs (some (k : Int)) none = xs.drop k := by
  unfold cutD
  have h1 : HT.sIx xs.length 0 (some (k : Int)) = min k xs.length := by
    unfold HT.sIx
    simp
    omega
  have h2 : HT.sIx xs.length xs.length none = xs.length := rfl
  rw [h1, h2]
  by_cases h : k ≤ xs.length
  · rw [Nat.min_eq_left h, List.take_of_length_le (by rw [List.length_drop]; omega)]
  · rw [Nat.min_eq_right (by omega), Nat.sub_self, List.take_zero, List.drop_eq_nil_of_le (by omega)]
end Dv

/-! bytes, texts repeated, pairs of divmod, written dicts, ranges with steps, all(..) over lists -/
namespace Dv
open PySem PySem.Spec PyProof.Rows L2 Evl Sq
/-! ### words -/
def rMulT : R2 := fun x y H Q => ∃ (l : List Nat) (n : Nat), x = .str (txt l) ∧ y = .int (n : Int) ∧ n ≤ 100000 ∧ l.length * n ≤ 100000 ∧ Q (.str (txt (List.replicate n l).flatten)) H
theorem fold_rep (l : List Nat) : ∀ (n : Nat) (acc : Array Nat), (List.replicate n l.toArray).foldl (· ++ ·) acc = acc ++ (List.replicate n l).flatten.toArray
  | 0, acc => by simp
  | n + 1, acc => by
    rw [List.replicate_succ, List.foldl_cons, fold_rep l n]
    apply Array.toList_inj.mp
    simp [List.replicate_succ]
theorem rep_len (l : List Nat) (n : Nat) : (List.replicate n l).flatten.length = n * l.length := by
  induction n with
  | zero => simp
  | succ n ih => rw [List.replicate_succ, List.flatten_cons, List.length_append, ih, Nat.succ_mul]; omega
theorem op_mulT {X : Cx} : OpR X (binaryOp .Mult) rMulT := by
  intro pins s σ H x y v u Q I rx ry h
  obtain ⟨l, n, rfl, rfl, h1, h2, q⟩ := h
  obtain ⟨t, rfl⟩ := rx
  obtain ⟨t', rfl⟩ := ry
  have hsz : (txt l).length = l.length := by show l.toArray.size = _; simp
  refine P.mul_str ?_ ?_ ?_ ?_
  · simp; omega
  · intro hn _
    rw [hsz]
    show ¬ ((l.length : Int) > (2 ^ 63 - 1) / (n : Int))
    have : (l.length : Int) ≤ (2 ^ 63 - 1) / (n : Int) := by
      rw [Int.le_ediv_iff_mul_le (by omega)]
      have := Int.ofNat_le.mpr h2
      rw [Int.natCast_mul] at this
      omega
    omega
  · intro _ _
    rw [hsz]
    unfold Builtin.Str.tooLong
    rw [Int.toNat_natCast]
    exact decide_eq_false (by rw [sizeLine_eq]; omega)
  · by_cases h0 : n = 0
    · subst h0
      rw [if_pos (by decide)]
      exact ⟨by decide, .str (txt []), H, I.tok _, ⟨_, by rfl⟩, q⟩
    rw [if_neg (by omega)]
    by_cases hn : n = 1 ∨ l = []
    · rw [if_pos (by
        rcases hn with rfl | rfl
        · rfl
        · rw [Bool.or_eq_true]; exact .inr rfl)]
      have e : (List.replicate n l).flatten = l := by
        rcases hn with rfl | rfl
        · simp
        · simp
      rw [e] at q
      exact ⟨.str (txt l), H, I, ⟨t, rfl⟩, q⟩
    · rw [if_neg (by
        rw [hsz]
        have z : ¬ (n : Int) = 1 := fun z => hn (.inl (by omega))
        have z2 : ¬ l.length = 0 := fun z => hn (.inr (List.length_eq_zero_iff.mp z))
        have z3 : ¬ l = [] := fun z => hn (.inr z)
        simp [z, z3])]
      have e : (⟨(List.replicate ((n : Int)).toNat (txt l).cps).foldl (· ++ ·) #[]⟩ : Str) = txt (List.replicate n l).flatten := by
        rw [Int.toNat_natCast]
        have z := fold_rep l n #[]
        show (⟨(List.replicate n l.toArray).foldl (· ++ ·) #[]⟩ : Str) = _
        rw [z]
        simp
      rw [e]
      exact ⟨by
        show (List.replicate n l).flatten.toArray.size ≤ sizeLine
        rw [sizeLine_eq, List.size_toArray, rep_len, Nat.mul_comm]
        omega, .str _, H, I.tok _, ⟨_, rfl⟩, q⟩
abbrev ipT : TIp := fun x y H Q => ∃ i j, x = .str i ∧ y = .str j ∧ i.length + j.length ≤ sizeLine ∧ Q (.str (i ++ j)) H
theorem str_e0 {i : Str} (h : (i.length == 0) = true) : i = Str.empty := by
  cases i with
  | mk c =>
    have h2 : c.size = 0 := by simpa [Str.length] using h
    have : c = #[] := Array.eq_empty_of_size_eq_zero h2
    rw [this]
    rfl
theorem ip_addT {X : Cx} : PIp X .Add ipT := by
  intro pins s σ H x y v u Q I rx ry h
  obtain ⟨i, j, rfl, rfl, hl, q⟩ := h
  obtain ⟨t, rfl⟩ := rx
  obtain ⟨t', rfl⟩ := ry
  refine P.iadd_str ?_
  by_cases h1 : (i.length == 0) = true
  · rw [if_pos h1]
    rw [str_e0 h1, show Str.empty ++ j = j from by cases j; show (⟨#[] ++ _⟩ : Str) = _; simp] at q
    exact ⟨.str j, H, I, ⟨t', rfl⟩, q⟩
  · rw [if_neg h1]
    by_cases h2 : (j.length == 0) = true
    · rw [if_pos h2]
      rw [str_e0 h2, show i ++ Str.empty = i from by cases i; show (⟨_ ++ #[]⟩ : Str) = _; simp] at q
      exact ⟨.str i, H, I, ⟨t, rfl⟩, q⟩
    · rw [if_neg h2]
      exact ⟨by
        show (i.cps ++ j.cps).size ≤ sizeLine
        rw [Array.size_append]
        exact hl, .str _, H, I.tok _, ⟨_, rfl⟩, q⟩
theorem preSum_get : ∀ (ns : List Int), preSum (fun i => ns.getD i 0) ns.length = ns.sum := by
  intro ns
  have gen : ∀ k, k ≤ ns.length → preSum (fun i => ns.getD i 0) k = (ns.take k).sum := by
    intro k
    induction k with
    | zero => intro _; simp [preSum]
    | succ k ih =>
      intro hk
      have hlt : k < ns.length := by omega
      rw [show preSum (fun i => ns.getD i 0) (k + 1) = preSum (fun i => ns.getD i 0) k + ns.getD k 0 from rfl, ih (by omega), List.take_add_one, List.getElem?_eq_getElem hlt, List.sum_append, List.getD_eq_getElem?_getD, List.getElem?_eq_getElem hlt]
      simp
  rw [gen _ (Nat.le_refl _), List.take_length]
def rSumB : List V → Hp → VK → Prop := fun vs H Q => ∃ ns : List Int, vs = [.byt (byteArr ns)] ∧ B8 ns ∧ Q (.int ns.sum) H
theorem cr_sumB {X : Cx} (hc : X.calm = true) : CallR X (.builtin "sum") rSumB := by
  intro pins s σ H vs us Q I r h
  obtain ⟨ns, rfl, hb, q⟩ := h
  obtain ⟨u, rfl, ru⟩ := vals1 r
  obtain ⟨t, rfl⟩ : ∃ t, u = Value.bytes (byteArr ns) t := ru
  refine call_sum_walkG (W.KBw.pyIter_bytes ?_)
  refine ⟨s.heap.objs.size, [s.heap.objs.size], [s.heap.objs.size], (byteArr ns).size, _, _, fun i => ns.getD i 0, rfl, W.KBw.walks (show X.A.in1.handled = none from I.ok.hd hc) _ _ t, ⟨_, Heap.get?_push_size _ rfl, rfl, rfl⟩, fun b hb => ?_, fun i v hv => ?_, fun h' tk t' hk => ?_⟩
  · rw [List.mem_singleton.mp hb]
    simp [Heap.size_push]
  · obtain ⟨c, w, hc2, rfl⟩ := hv
    refine ⟨w, ?_⟩
    congr 1
    have hsz := byteArr_size ns
    have hlt : i < ns.length := by
      have := (Array.getElem?_eq_some_iff.mp hc2).1
      omega
    have z := byte_at hb (List.getElem?_eq_getElem hlt)
    show _ = ns.getD i 0
    rw [List.getD_eq_getElem?_getD, List.getElem?_eq_getElem hlt]
    show _ = ns[i]
    rw [← z]
    have y : (List.map (fun n : Int => n.toNat.toUInt8) ns)[i]? = some c := by
      have e : (byteArr ns)[i]? = (List.map (fun n : Int => n.toNat.toUInt8) ns)[i]? := by
        show (List.map (fun n : Int => n.toNat.toUInt8) ns).toArray[i]? = _
        simp
      rw [← e]
      exact hc2
    rw [List.getD_eq_getElem?_getD, y]
    rfl
  · refine ⟨.int ns.sum, H, I.kept fun b u e => hk b u (fun z => ?_) (Heap.get?_push_of_some _ e), ⟨t', ?_⟩, q⟩
    · have := Heap.lt_size e
      rw [List.mem_singleton.mp z] at this
      exact Nat.lt_irrefl _ this
    · rw [byteArr_size, preSum_get]
theorem bi_make {ns : List Int} (h : B8 ns) : bi (byteArr ns) = ns := W.KBa.ints_make h
theorem picked_to {ns : List Int} {k : Nat} (h : k ≤ ns.length) : W.KBy.picked (byteArr ns) none (some (k : Int)) = byteArr (ns.take k) := by
  unfold W.KBy.picked
  rw [sliceBounds_plain]
  show Builtin.Bytes.sliced (byteArr ns) ((0 : Nat) : Int) ((clipAt (byteArr ns).size (k : Int) : Nat) : Int) 1 = _
  have hc : clipAt (byteArr ns).size (k : Int) = k := by
    unfold clipAt
    rw [byteArr_size, if_neg (by omega)]
    omega
  rw [hc]
  unfold Builtin.Bytes.sliced sliceRange
  have e : ∀ j, j ≤ ns.length → (List.filterMap (fun x => (byteArr ns)[x]?) ((List.range j).map fun i => i)) = (ns.take j).map fun n => n.toNat.toUInt8 := by
    intro j
    induction j with
    | zero => intro _; simp
    | succ j ih =>
      intro hj
      have hlt : j < ns.length := by omega
      have y : (byteArr ns)[j]? = some (ns[j].toNat.toUInt8) := by
        show (List.map (fun n : Int => n.toNat.toUInt8) ns).toArray[j]? = _
        simp [hlt]
      rw [List.range_succ, List.map_append, List.filterMap_append, ih (by omega), List.take_add_one, List.getElem?_eq_getElem hlt, List.map_append]
      simp [y]
  have hcount : (if (1 : Int) > 0 then if ((0 : Nat) : Int) < (k : Int) then ((k : Int) - ((0 : Nat) : Int) + 1 - 1) / 1 else 0 else if ((0 : Nat) : Int) > (k : Int) then (((0 : Nat) : Int) - (k : Int) - 1 - 1) / -1 else 0).toNat = k := by
    rw [if_pos (by decide)]
    by_cases h0 : ((0 : Nat) : Int) < (k : Int)
    · rw [if_pos h0, Int.ediv_one]; omega
    · rw [if_neg h0]; omega
  show (List.filterMap (fun x => (byteArr ns)[x]?) (List.map (fun i : Nat => (((0 : Nat) : Int) + 1 * (i : Int)).toNat) (List.range (if (1 : Int) > 0 then if ((0 : Nat) : Int) < (k : Int) then ((k : Int) - ((0 : Nat) : Int) + 1 - 1) / 1 else 0 else if ((0 : Nat) : Int) > (k : Int) then (((0 : Nat) : Int) - (k : Int) - 1 - 1) / -1 else 0).toNat))).toArray = byteArr (ns.take k)
  rw [hcount]
  have hm : (List.map (fun i : Nat => (((0 : Nat) : Int) + 1 * (i : Int)).toNat) (List.range k)) = (List.range k).map fun i => i := by
    apply List.map_congr_left
    intro i _
    omega
  rw [hm, e k h]
  rfl
/-! ### all(f(x) for x in a list) -/
section
variable {X : Cx}
def tAllL (K : PySem.W.Frag) (Pt : Addr) (good : V → Bool → Prop) (te : TE) : TE := fun σ H Q => te σ H fun v H1 => ∃ (a : Addr) (xs : List V) (pb : V → Bool), v = .ref a ∧ SqL K H1 a xs ∧ H1 Pt = some (TabF Pt) ∧ (∀ y ∈ xs, good y (pb y)) ∧ Q (.bl (xs.all pb)) H1
theorem all_at {xs : List V} {pb : V → Bool} : (List.range xs.length).all (pAt xs pb) = xs.all pb := by
  rw [Bool.eq_iff_iff, List.all_eq_true, List.all_eq_true]
  constructor
  · intro h y hy
    obtain ⟨i, hi, rfl⟩ := List.mem_iff_getElem.mp hy
    have := h i (List.mem_range.mpr hi)
    unfold pAt at this
    rw [List.getElem?_eq_getElem hi] at this
    exact this
  · intro h i hi
    have hi := List.mem_range.mp hi
    unfold pAt
    rw [List.getElem?_eq_getElem hi]
    exact h _ (List.getElem_mem hi)
theorem pe_allL {c Pt : Addr} {elt iter : Expr} {x : Str} {px p pos gpos : Pos} {scope : Scope} {good : V → Bool → Prop} {te : TE} {j : Nat}
    (hr : Room j X.A) (hg : Gl X "all") (hm : X.mg "all" = none) (TB : GxR.TabB X.base X.mg c Pt) (hcode : X.env.code = .ref c) (S : GxR.GenS X.env scope x) (hi : PE X iter te) (hel : EltG X scope x elt good) (hs : ∀ v, genFold iter X.env v = pure v)
    (hv : bootBuiltins "all" = some (.builtin "all") := by decide +kernel) (he : starEach [.GeneratorExp elt [⟨.Name x px, iter, [], 0⟩] scope gpos] X.env = (false, eval (.GeneratorExp elt [⟨.Name x px, iter, [], 0⟩] scope gpos) X.env) :: starEach [] X.env := by rfl) :
    PE X (.Call (.Name "all" p) [.GeneratorExp elt [⟨.Name x px, iter, [], 0⟩] scope gpos] [] pos) (tAllL X.K Pt good te) := by
  refine ⟨fun pins s σ H Q I h => wpAny_Call_Name_kw (ld_blt I hg hm hv (PyProof.Rows.callWith_builtin1 ?_ he (by rfl)))⟩
  rw [he]
  refine Calls.spliced_cons (gen_core hr TB hcode S hs (σ := σ) (pins := pins) (kk := fun n pt H1 => Q (.bl ((List.range n).all pt)) H1) ?_ fun n pt H1 g s5 hR hG => Calls.spliced_nil (call_allN hG hR))
  refine thn (hi.run pins s σ H _ I h) fun xv s1 hq => ?_
  obtain ⟨v, H1, I1, r1, a, xs, pb, rfl, hx, hT, hgd, q⟩ := hq
  cases r1
  obtain ⟨its, rv, hpl, hz⟩ := I1.list hx
  have hp := hpl.isList
  have hax : a < s1.heap.objs.size := by
    obtain ⟨o, ho, _⟩ := hp
    exact Heap.lt_size ho
  obtain ⟨⟨ps, hP, tri⟩, _, _⟩ := I1.hok Pt _ hT
  have aP : a ≠ Pt := fun z => by
    obtain ⟨o, ho, hc, n, hd⟩ := hp
    rw [z, hP] at ho
    cases ho
    cases hd
  have hlen : its.toArray.size = xs.length := by rw [List.size_toArray, rv.length]
  refine wpAny_pyIter_list (show s1.heap.IsList a its.toArray from hp) ⟨xs.length, pAt xs pb, H1, s1, _, rfl, rfl, ⟨I1, hT, Heap.get?_push_size _ rfl, [a], (fun i v => its.toArray[i]? = some v), (fun i h => h.IsListIter s1.heap.objs.size a i ∧ h.IsList a its.toArray), [], fun A' hA' => hlen ▸ Walks.list hA' _ _ (Nat.ne_of_lt hax) _, ?_, ?_, ?_, ?_, ?_⟩, ?_⟩
  · intro h3 h4 h5
    refine ⟨⟨_, h4, rfl, rfl⟩, ?_⟩
    obtain ⟨o, ho, r⟩ := hp
    exact ⟨o, h5 a (by simp) o ho, r⟩
  · intro b hb
    rw [List.mem_singleton.mp hb]
    exact ⟨hax, aP⟩
  · intro q hq
    cases hq
  · intro q hq
    cases hq
  · intro i v hPv cenv m hsc hgl hbl hcel hmx
    have hv2 : its[i]? = some v := by simpa using hPv
    obtain ⟨y, hy, ry⟩ : ∃ y, xs[i]? = some y ∧ RelV y v := by
      cases e : xs[i]? with
      | none => rw [rv.none_of e] at hv2; cases hv2
      | some y =>
        obtain ⟨u, e1, e2⟩ := rv.get e
        rw [hv2] at e1
        cases e1
        exact ⟨y, rfl, e2⟩
    have e9 : pAt xs pb i = pb y := by unfold pAt; rw [hy]
    rw [e9]
    exact raw_anyG (hel y v (pb y) (hgd y (List.mem_of_getElem? hy)) ry cenv m hsc hgl hbl hmx)
  · show Q _ H1
    rw [all_at]
    exact q
end
end Dv

/-! the rules of values for them -/
namespace Dv
open PySem PySem.Spec PyProof.Rows L2 Evl Sq
abbrev ByD (ns : List Int) : D := .sc (.byt (byteArr ns))
abbrev rLenV (K : PySem.W.Frag) : List V → Hp → VK → Prop := fun xs H Q => ∃ x n, xs = [x] ∧ LenV K x H n ∧ Q (V.int ↑n) H
abbrev rDivmod : List V → Hp → VK → Prop := fun xs H Q => ∃ i j, xs = [V.int i, V.int j] ∧ CDiv i j ∧ ∀ (p : Addr), H p = none → Q (V.ref p) (upd H p (HO.tup [V.int (i / j), V.int (i % j)]))
abbrev rIxB : R2 := fun x y H Q => ∃ (z : List UInt8) (i : Int), x = V.byt z.toArray ∧ y = V.int i ∧ z.length ≤ sizeLine ∧ 0 ≤ i ∧ i < ↑z.length ∧ Q (V.int ↑(z.getD i.toNat 0).toNat) H
abbrev rIsiB : List V → Hp → VK → Prop := fun xs H Q => ∃ y, xs = [V.byt y, V.ty "bytes"] ∧ Q (V.bl true) H
abbrev mIx : V → List V → Hp → VK → Prop := fun x xs H Q => ∃ a b i rest, x = V.str a ∧ xs = [V.str b] ∧ Builtin.Str.occurrences a b 0 a.length 1 = i :: rest ∧ Q (V.int ↑i) H
section
variable {K : PySem.W.Frag} {Γ : Fx} {B : Bs} {δ : Ls} {ta tb tc te : TE} {tA : TA} {tu : TS} {tt : TT} {G : PEn} {d x y : D} {i j : Nat} {ko : List D → Prop} {k : D → Prop}
theorem oc_mulT {l : List Nat} {n : Nat} (h1 : n ≤ 100000) (h2 : l.length * n ≤ 100000) (hk : k (TxD (List.replicate n l).flatten)) : OpC K rMulT (TxD l) (I (n : Int)) k := fun N H v w e dv dw Q q => by
  cases dv; cases dw
  exact ⟨l, n, rfl, rfl, h1, h2, q _ N H _ (Stp.refl e) .sc hk⟩
theorem cc_bytes {ns : List Int} (hb : B8 ns) (hk : k (ByD ns)) : CbC K Γ (r1 (kByts K)) [.lst (ns.map I)] k := fun N H vs e hg dv Q q => by
  cases dv with
  | cons d1 d2 =>
    cases d2
    cases d1 with
    | lst h1 h2 =>
      have := scs_ints h2
      subst this
      exact .inr ⟨_, ns, rfl, sq_of (e _ _ h1), hb, q _ N H _ (Stp.refl e) .sc hk⟩
theorem co_listB {ns : List Int} (hb : B8 ns) (hl : ns.length ≤ 100000) (hk : ko (ns.map I)) : CbO K Γ (r1 kLstB) [ByD ns] ko := fun N H vs e hg dv Q q => by
  cases dv with
  | cons d1 d2 =>
    cases d2
    cases d1
    refine ⟨_, rfl, by rw [byteArr_size]; exact sz_of hl, fun p hp => q p N _ _ _ (Stp.heap e (Ex.new hp)) hp (fresh_back e hp) upd_same ?_ hk⟩
    rw [bi_make hb]
    have z : ns.map I = (ns.map V.int).map D.sc := by rw [List.map_map]; rfl
    rw [z]
    exact DVs.ofSc _
theorem cc_sumB {ns : List Int} (hb : B8 ns) (hk : k (I ns.sum)) : CbC K Γ rSumB [ByD ns] k := fun N H vs e hg dv Q q => by
  cases dv with
  | cons d1 d2 =>
    cases d2
    cases d1
    exact ⟨ns, rfl, hb, q _ N H _ (Stp.refl e) .sc hk⟩
theorem cc_lenB {ns : List Int} (hl : ns.length ≤ 100000) (hk : k (I (ns.length : Int))) : CbC K Γ (rLenV K) [ByD ns] k := fun N H vs e hg dv Q q => by
  cases dv with
  | cons d1 d2 =>
    cases d2
    cases d1
    exact ⟨_, ns.length, rfl, ⟨by rw [byteArr_size]; exact sz_of hl, (byteArr_size ns).symm⟩, q _ N H _ (Stp.refl e) .sc hk⟩
theorem oc_ixB {ns : List Int} {i : Nat} {n : Int} (hb : B8 ns) (hl : ns.length ≤ 100000) (h : ns[i]? = some n) (hk : k (I n)) : OpC K rIxB (ByD ns) (I (i : Int)) k := fun N H v w e dv dw Q q => by
  cases dv; cases dw
  have hlt := (List.getElem?_eq_some_iff.mp h).1
  refine ⟨ns.map fun n : Int => n.toNat.toUInt8, i, rfl, rfl, by rw [List.length_map]; exact sz_of hl, by omega, by rw [List.length_map]; omega, ?_⟩
  rw [Int.toNat_natCast, byte_at hb h]
  exact q _ N H _ (Stp.refl e) .sc hk
theorem sc_slB {ns : List Int} {j : Nat} (hl : ns.length ≤ 100000) (hj : j ≤ ns.length) (hk : k (ByD (ns.take j))) : SlC K rSlB (ByD ns) none (some (j : Int)) k := fun N H v e dv Q q => by
  cases dv
  refine ⟨_, rfl, by rw [byteArr_size]; omega, ?_⟩
  rw [picked_to hj]
  exact q _ N H _ (Stp.refl e) .sc hk
theorem cc_isiB {ns : List Int} (hk : k (Bo true)) : CbC K Γ rIsiB [ByD ns, .sc (.ty "bytes")] k := fun N H vs e hg dv Q q => by
  cases dv with
  | cons d1 d2 =>
    cases d2 with
    | cons d2 d3 =>
      cases d3
      cases d1
      cases d2
      exact ⟨_, rfl, q _ N H _ (Stp.refl e) .sc hk⟩
theorem byt_inj {ns ms : List Int} (h1 : B8 ns) (h2 : B8 ms) (h : byteArr ns = byteArr ms) : ns = ms := by
  rw [← bi_make h1, ← bi_make h2, h]
theorem cc_divmod {i j : Int} (h : 0 < j ∧ j < 1073741824) (hk : k (.tup [I (i / j), I (i % j)])) : CbC K Γ rDivmod [I i, I j] k := fun N H vs e hg dv Q q => by
  cases dv with
  | cons d1 d2 =>
    cases d2 with
    | cons d2 d3 =>
      cases d3
      cases d1
      cases d2
      exact ⟨i, j, rfl, h, fun p hp => q (.ref p) _ _ _ (Stp.new e hp) (.tup (st_of upd_same) (.cons .sc (.one .sc))) hk⟩
theorem ec_idx {s : Str} {c i : Nat} (ho : Builtin.Str.occurrences s ⟨#[c]⟩ 0 s.length 1 = [i]) (h : EvC K Γ B ta δ fun x => x = .sc (.str s) ∧ EvC K Γ B tb δ fun y => y = Sg c ∧ k (I (i : Int))) : EvC K Γ B (tM1 mIx ta tb) δ k := fun N H σ hg rr Q q => h N H σ hg rr _ fun v N1 H1 x s1 dv ⟨e1, h2⟩ => by
  subst e1
  cases dv
  refine ⟨⟨s, rfl⟩, h2 N1 H1 σ (hg.ex s1.n) (rr.step s1) _ fun w N2 H2 y s2 dw ⟨e2, hk⟩ => ?_⟩
  subst e2
  cases dw
  exact ⟨s, ⟨#[c]⟩, i, [], rfl, rfl, ho, q _ N2 H2 _ (s1.trans s2) .sc hk⟩
/-- text += text -/
theorem sat_augT {a : List Nat} (hx : δ[i]? = some (.d (TxD a))) (h : EvC K Γ B te δ fun d => ∃ b, d = TxD b ∧ a.length + b.length ≤ 100000 ∧ G.nx (δ.set i (.d (TxD (a ++ b))))) : Sat K Γ B (tAug i te ipT) G δ := fun D' L gd N H σ hg r => by
  obtain ⟨v, e, dv⟩ := r.d i _ hx
  cases dv
  refine ⟨_, e, h N H σ hg.1 r _ fun w N1 H1 d s1 dw ⟨b, e2, hl, hk⟩ => ?_⟩
  subst e2
  cases dw
  refine ⟨_, _, rfl, rfl, sz_of (by show a.toArray.size + b.toArray.size ≤ 100000; simpa using hl), ?_⟩
  rw [txt_app]
  exact gd.nx N1 H1 _ _ (hg.ex s1.n) ((r.step s1).set .sc i) hk
/-! ### ranges -/
theorem it_rng3 (h : EvAC K Γ B tA δ fun ds => ∃ (r w : Nat), ds = [I 0, I ((r * w : Nat) : Int), I (w : Int)] ∧ 0 < r ∧ r < 1000 ∧ 0 < w ∧ w < 1000 ∧ ko ((List.range r).map fun (i : Nat) => I ((i * w : Nat) : Int))) : ItC K Γ B (iRng3 tA) δ ko := fun N H σ hg r R q => h N H σ hg r _ fun vs N1 H1 ds s1 dv ⟨m, w, e, h0, h1, h2, h3, hk⟩ => by
  subst e
  cases dv with
  | cons d1 d2 =>
    cases d2 with
    | cons d2 d3 =>
      cases d3 with
      | cons d3 d4 =>
        cases d4
        cases d1
        cases d2
        cases d3
        have hpos : 0 < m * w := Nat.mul_pos h0 h2
        have hlt : m * w ≤ 1000 * 1000 := Nat.mul_le_mul (by omega) (by omega)
        have hdiv : (m * w - 1) / w + 1 = m := by
          have z : (m - 1) * w + (w - 1) = m * w - 1 := by
            have : m * w = (m - 1) * w + w := by
              rw [← Nat.succ_mul]
              congr 1
              omega
            omega
          rw [← z, Nat.add_comm ((m - 1) * w), Nat.add_mul_div_right _ _ h2, Nat.div_eq_of_lt (by omega)]
          omega
        have hsize : Builtin.Range.rangeSize 0 ((m * w : Nat) : Int) (w : Int) = (m : Int) := by
          unfold Builtin.Range.rangeSize
          rw [if_pos (by omega), if_pos (by omega)]
          have z : (((m * w : Nat) : Int) - 0 - 1) / (w : Int) = (((m * w - 1) / w : Nat) : Int) := by
            rw [Int.natCast_ediv]
            congr 1
            omega
          rw [z]
          omega
        refine ⟨0, _, w, m, rfl, ⟨by omega, by omega, ?_, hsize⟩, q _ N1 H1 _ s1 ?_ hk⟩
        · unfold Builtin.Range.small
          rw [hsize, if_pos (by omega)]
          unfold Builtin.Range.rangeFitsLong
          simp only [Bool.and_eq_true, Bool.or_eq_true, decide_eq_true_eq]
          omega
        · unfold WalkD
          rw [List.length_map, List.length_range]
          refine ⟨fun i H hi _ => hi, fun H _ => Nat.le_refl _, fun i H x H' hi e y N2 e1 e2 => ?_⟩
          obtain ⟨rfl, rfl⟩ := y
          refine ⟨N2, I ((i * w : Nat) : Int), Stp.refl e2, ?_, ?_⟩
          · rw [List.getElem?_map, List.getElem?_range hi]
            rfl
          · rw [Int.zero_add, Int.natCast_mul]
            exact .sc
theorem it_revR (h : EvC K Γ B te δ fun d => ∃ n : Nat, d = I (n : Int) ∧ n ≤ 100000 ∧ ko ((List.range n).map fun (i : Nat) => I ((n - 1 - i : Nat) : Int))) : ItC K Γ B (iRevR (tRg1 te)) δ ko := fun N H σ hg r R q => h N H σ hg r _ fun v N1 H1 d s1 dv ⟨n, e, hn, hk⟩ => by
  subst e
  cases dv
  refine ⟨n, rfl, by omega, by omega, by omega, by omega, q _ N1 H1 _ s1 ?_ hk⟩
  unfold WalkD
  rw [List.length_map, List.length_range]
  have hz : (((n : Int)) - 0).toNat = n := by omega
  rw [hz]
  refine ⟨fun i H hi _ => hi, fun H _ => Nat.le_refl _, fun i H x H' hi e y N2 e1 e2 => ?_⟩
  obtain ⟨rfl, rfl⟩ := y
  refine ⟨N2, I ((n - 1 - i : Nat) : Int), Stp.refl e2, ?_, ?_⟩
  · rw [List.getElem?_map, List.getElem?_range hi]
    rfl
  · have : (0 : Int) + (n : Int) - 1 + (i : Int) * -1 = ((n - 1 - i : Nat) : Int) := by omega
    rw [this]
    exact .sc
/-! ### written dicts, read at once -/
theorem pairs_c {σ : L2.St} : ∀ (kvs : List (Key × V)) {H : Hp} {Q : List (V × V) → Hp → Prop}, Q (kvs.map fun kv => (kV kv.1, kv.2)) H → tPairs (kvs.map fun kv => (tC (kV kv.1), tC kv.2)) σ H Q
  | [], H, Q, h => h
  | kv :: kvs, H, Q, h => pairs_c kvs (Q := fun ps H3 => Q ((kV kv.1, kv.2) :: ps) H3) h
theorem ec_dlit {trs : List (TE × TE)} (kvs : List (Key × V)) (ht : trs = kvs.map fun kv => (tC (kV kv.1), tC kv.2)) (h15 : kvs.length ≤ 15) (h : EvC K Γ B te δ fun d => ∃ kk v, d = .sc (kV kk) ∧ valV (mergeK [] kvs) kk = some v ∧ k (.sc v)) : EvC K Γ B (tDGet (tDisp trs) te) δ k := fun N H σ hg r Q q => by
  subst ht
  intro p hp
  refine pairs_c kvs ⟨upd_same, kvs, rfl, h15, ?_⟩
  have eu : upd (upd H p (HO.dK [])) p (HO.dK (mergeK [] kvs)) = upd H p (HO.dK (mergeK [] kvs)) := by
    funext b
    unfold upd
    by_cases e : b = p
    · simp [e]
    · simp [e]
  rw [eu]
  have s0 : Stp N H (upd N p (HO.dK (mergeK [] kvs))) (upd H p (HO.dK (mergeK [] kvs))) := Stp.new r.stp.s hp
  refine h _ _ σ (hg.ex s0.n) (r.step s0) _ fun v N2 H2 d s2 dv ⟨kk, w, e, hv, hk⟩ => ?_
  subst e
  cases dv
  refine ⟨p, w, rfl, .inl ⟨_, kk, .inl (s2.h _ _ upd_same), rfl, hv.symm⟩, q w N2 H2 _ (s0.trans s2) .sc hk⟩
end
end Dv
namespace Dv
open PySem PySem.Spec PyProof.Rows L2 Evl Sq
/-- all(f(x) for x in a list of scalars) -/
theorem ec_allL {K : PySem.W.Frag} {Γ : Fx} {δ : Ls} {te : TE} {k : D → Prop} {Pt : Addr} {good : V → Bool → Prop} (pb : V → Bool) (h : EvC K Γ B te δ fun d => ∃ xs : List V, d = .lst (xs.map .sc) ∧ (∀ y ∈ xs, good y (pb y)) ∧ k (Bo (xs.all pb))) (hP : (Pt, TabF Pt) ∈ Γ) : EvC K Γ B (tAllL K Pt good te) δ k := fun N H σ hg r Q q => h N H σ hg r _ fun v N1 H1 d s1 dv ⟨xs, e, hgd, hk⟩ => by
  subst e
  cases dv with
  | lst h1 h2 =>
    have := h2.scs
    subst this
    exact ⟨_, _, pb, rfl, sq_of (s1.s _ _ h1), s1.s _ _ ((hg.ex s1.n) _ hP), hgd, q _ N1 H1 _ s1 .sc hk⟩
end Dv
namespace Dv
open PySem PySem.Spec PyProof.Rows L2 Evl Sq
section
variable {K : PySem.W.Frag} {Γ : Fx} {B : Bs} {δ : Ls} {ta tb tc : TE} {G : PEn} {i j : Nat}
/-- x, y = [..], e: the first a list of its own -/
theorem sat_parO (h : EvO K Γ B ta δ fun ds => EvC K Γ B tb δ fun y => G.nx ((δ.set i (.own ds)).set j (.d y))) : Sat K Γ B (tPar i j (tCons ta (tCons tb tNil))) G δ := fun D' L gd N H σ hg r => h N H σ hg.1 r _ fun p N1 H1 xs ds s1 hp hn hh dv h2 => h2 N1 H1 σ (hg.ex s1.n).1 (r.step s1) _ fun w N2 H2 y s2 dw hk => by
  have hB := fresh_back r.stp.h hp
  exact ⟨_, _, rfl, gd.nx N2 H2 _ _ (hg.ex (s1.trans s2).n) (((r.step (s1.trans s2)).setO hB (s2.keep hn hh) (s2.h _ _ hh) (dv.ex s2.n) (r.fresh hp) i).set dw j) hk⟩
theorem sat_par3O {l : Nat} (h : EvC K Γ B ta δ fun x => EvC K Γ B tb δ fun y => EvO K Γ B tc δ fun ds => G.nx (((δ.set i (.d x)).set j (.d y)).set l (.own ds))) (hi : i ≠ l) (hj : j ≠ l) : Sat K Γ B (tPar3 i j l (tCons ta (tCons tb (tCons tc tNil)))) G δ := fun D' L gd N H σ hg r => h N H σ hg.1 r _ fun v N1 H1 x s1 dv h2 => h2 N1 H1 σ (hg.ex s1.n).1 (r.step s1) _ fun w N2 H2 y s2 dw h3 => h3 N2 H2 σ (hg.ex (s1.trans s2).n).1 (r.step (s1.trans s2)) _ fun p N3 H3 xs ds s3 hp hn hh dvs hk => by
  have s13 := (s1.trans s2).trans s3
  have hB : B.h p = none := fresh_back (r.stp.trans (s1.trans s2)).h hp
  have r3 := (((r.step s13).set ((dv.ex s2.n).ex s3.n) i).set (dw.ex s3.n) j)
  refine ⟨_, _, _, rfl, gd.nx N3 H3 _ _ (hg.ex s13.n) (r3.setO hB hn hh dvs (fun m es e z => ?_) l) hk⟩
  have r2 := (((r.step (s1.trans s2)).set (dv.ex s2.n) i).set dw j)
  exact r2.fresh hp m es e z
end
end Dv
namespace Dv
open PySem PySem.Spec PyProof.Rows L2 Evl Sq
theorem EvB.mono {K : PySem.W.Frag} {Γ : Fx} {δ : Ls} {tt : TT} {k k' : Bool → Prop} (h : EvB K Γ B tt δ k) (m : ∀ b, k b → k' b) : EvB K Γ B tt δ k' := fun N H σ g r Q q => h N H σ g r Q fun b N' H' s kd => q b N' H' s (m b kd)
end Dv

/-! what is raised, told by values -/
namespace Dv
open PySem PySem.Spec PyProof.Rows L2 Evl Sq
/-- what is raised: the class's address, its fields -/
abbrev XD := Addr × List (Str × D)
inductive XV (K : PySem.W.Frag) (N : Hp) : Value → Option Addr → XD → Prop
  | none {C : Addr} : XV K N (.ref C) none (C, [])
  | some {C a : Addr} {fs : List Str} {vs : List V} {ds : List D} : N a = some (.xd (fs.zip vs)) → fs.length = vs.length → DVs K N vs ds → XV K N (.ref C) (some a) (C, fs.zip ds)
theorem XV.ex {K : PySem.W.Frag} {N N' : Hp} (e : Ex N N') {cls : Value} {d : Option Addr} {x : XD} : XV K N cls d x → XV K N' cls d x
  | .none => .none
  | .some h l hs => .some (e _ _ h) l (hs.ex e)
section
variable (K : PySem.W.Frag) (Γ : Fx)
/-- promises of defs that may raise: k of what is given back, kx of what is raised -/
def spX (S : List D → (D → Prop) → (XD → Prop) → Prop) : Sp := fun vs H Q E => ∃ (N : Hp) (ds : List D) (k : D → Prop) (kx : XD → Prop), Ex N H ∧ Has Γ N ∧ DVs K N vs ds ∧ S ds k kx ∧ (∀ v N' H' d, Stp N H N' H' → DV K N' v d → k d → Q v H') ∧ ∀ cls d N' H' x, Stp N H N' H' → XV K N' cls d x → kx x → E cls d H'
/-- the wish E takes what is raised at the state δ and of which kx holds -/
def TkX (B : Bs) (E : L2.St → XK) (δ : Ls) (kx : XD → Prop) : Prop := ∀ N H σ cls d x, Has Γ N → Rel K B N H σ δ → XV K N cls d x → kx x → E σ cls d H
end
section
variable {K : PySem.W.Frag} {Γ Γ' : Fx} {B : Bs} {δ : Ls} {tA : TA} {G : PEn} {k : D → Prop} {kx : XD → Prop} {S : List D → (D → Prop) → (XD → Prop) → Prop} {E : L2.St → XK} {W : WX} {C : Addr}
theorem ec_callX (h : EvAC K Γ B tA δ fun ds => S ds k kx) (hE : TkX K Γ B E δ kx) (hs : ∀ p ∈ Γ', p ∈ Γ := by simp) : EvC K Γ B (tCallS (spX K Γ' S) E tA) δ k := fun N H σ g r Q q => h N H σ g r _ fun vs N1 H1 ds s1 dv hp =>
  ⟨N1, ds, k, kx, s1.s, (g.ex s1.n).sub hs, dv, hp, fun v N2 H2 d s2 dv2 hpo => q v N2 H2 d (s1.trans s2) dv2 hpo, fun cls d N2 H2 x s2 xv hk => hE N2 H2 σ cls d x (g.ex (s1.trans s2).n) (r.step (s1.trans s2)) xv hk⟩
/-- a call that is known not to raise -/
theorem ec_callN (h : EvAC K Γ B tA δ fun ds => S ds k fun _ => False) (hs : ∀ p ∈ Γ', p ∈ Γ := by simp) : EvC K Γ B (tCallS (spX K Γ' S) E tA) δ k := ec_callX h (fun N H σ cls d x _ _ _ z => z.elim) hs
/-- a def's own wish -/
theorem tkx_def {N H : Hp} {E : XK} (q : ∀ cls d N' H' x, Stp N H N' H' → XV K N' cls d x → kx x → E cls d H') : TkX K Γ { n := N, h := H } (WE fun cls d _ H => E cls d H) δ kx := fun N1 H1 σ cls d x _ r xv hk => q cls d N1 H1 x r.stp xv hk
/-- raise C("..") of a class without __init__ -/
theorem sat_raise0 (hk : kx (C, [])) (hE : TkX K Γ B (WE W) δ kx) : Sat K Γ B (fun _ σ H => W (.ref C) none σ H) G δ := fun D' L gd N H σ hg r => hE N H σ _ _ _ hg.1 r .none hk
/-- raise C(..) of a class whose __init__ stores its fields: the promise of what the making gives -/
def MkX (K : PySem.W.Frag) (Γ : Fx) (B : Bs) (mk : L2.St → Hp → XK → Prop) (δ : Ls) (kx : XD → Prop) : Prop := ∀ N H σ, Has Γ N → Rel K B N H σ δ → ∀ Q : XK, (∀ cls d N' H' x, Stp N H N' H' → XV K N' cls d x → kx x → Q cls d H') → mk σ H Q
theorem sat_raise {mk : L2.St → Hp → XK → Prop} (h : MkX K Γ B mk δ kx) (hE : TkX K Γ B (WE W) δ kx) : Sat K Γ B (fun _ σ H => mk σ H fun cls d H' => W cls d σ H') G δ := fun D' L gd N H σ hg r => h N H σ hg.1 r _ fun cls d N' H' x s xv hk => hE N' H' σ cls d x (hg.1.ex s.n) (r.step s) xv hk
/-- an exception's own field, where it is held -/
theorem ec_xf {te : TE} {a : Addr} {cls : Value} {d : Option Addr} {n : Str} {σ0 : Unit} {dv : D} {N0 : Hp} {x : XD} (hC : x.1 = C) (hx : XV K N0 cls d x) (hl : x.2.lookup n = some dv) (hk : k dv) : ∀ N H σ, Ex N0 N → Rel K B N H σ δ → te σ H (fun y H1 => y = .ref a ∧ H1 = H) → (∀ Q1 Q2 : VK, (∀ v H', Q1 v H' → Q2 v H') → te σ H Q1 → te σ H Q2) → ∀ Q : VK, (∀ v N' H' d, Stp N H N' H' → DV K N' v d → k d → Q v H') → tXf a cls d C n te σ H Q := by
  intro N H σ e r ht mono Q q
  refine mono _ _ (fun y H1 ⟨h1, h2⟩ => ?_) ht
  subst h1 h2
  cases hx with
  | none => cases hl
  | some h0 hlen hds =>
    rename_i C' dd fs vs ds
    have hC : C' = C := hC
    subst hC
    have key : ∀ (fs : List Str) (vs : List V) (ds : List D), DVs K N0 vs ds → (fs.zip ds).lookup n = some dv → ∃ v, (fs.zip vs).lookup n = some v ∧ DV K N0 v dv := by
      intro fs
      induction fs with
      | nil => intro vs ds _ h; cases h
      | cons f fs ih =>
        intro vs ds h1 h2
        cases h1 with
        | nil => cases h2
        | cons g gs =>
          rw [List.zip_cons_cons, List.lookup_cons] at h2
          rw [List.zip_cons_cons, List.lookup_cons]
          cases hb : n == f with
          | true =>
            rw [hb] at h2
            cases h2
            exact ⟨_, rfl, g⟩
          | false =>
            rw [hb] at h2
            exact ih _ _ gs h2
    obtain ⟨v, hv, hd⟩ := key fs vs ds hds hl
    exact ⟨rfl, rfl, dd, _, v, rfl, r.stp.s _ _ (e _ _ h0), hv, q v N H1 _ (Stp.refl r.stp.s) (hd.ex e) hk⟩
end
end Dv

/-! try .. except, the start of a def that may raise -/
namespace Dv
open PySem PySem.Spec PyProof.Rows L2 Evl Sq
/-- B, and more that is known of every later part -/
def Bs.and (B : Bs) (p : Hp → Prop) (up : ∀ {N N' : Hp}, Ex N N' → p N → p N') : Bs := { n := B.n, h := B.h, lo := fun N => B.lo N ∧ p N, up := fun e h => ⟨B.up e h.1, up e h.2⟩, hx := B.hx, hup := B.hup }
section
variable {K : PySem.W.Frag} {Γ : Fx} {B : Bs} {N H : Hp} {σ : L2.St} {δ : Ls} {p : Hp → Prop} {up : ∀ {N N' : Hp}, Ex N N' → p N → p N'}
theorem Rel.and (r : Rel K B N H σ δ) (h : p N) : Rel K (B.and p up) N H σ δ := ⟨r.stp, ⟨r.lo, h⟩, r.len, r.d, r.own, r.ne, r.hx⟩
theorem Rel.less (r : Rel K (B.and p up) N H σ δ) : Rel K B N H σ δ := ⟨r.stp, r.lo.1, r.len, r.d, r.own, r.ne, r.hx⟩
theorem Good.and {L : Hp} {D' : Ends} {G : PEn} (g : Good K Γ B L D' G) : Good K Γ (B.and p up) L D' G := ⟨fun N H σ δ hg r k => g.nx N H σ δ hg r.less k, fun N H v d hg s dv k => g.rt N H v d hg s dv k, fun N H q xs ds hg s a b c dv k => g.ro N H q xs ds hg s a b c dv k, fun N H σ δ hg r k => g.bk N H σ δ hg r.less k, fun N H σ δ hg r k => g.ct N H σ δ hg r.less k⟩
end
/-- a wish takes all of which M holds, at the state where it is raised -/
def TkA (K : PySem.W.Frag) (Γ : Fx) (B : Bs) (W : WX) (M : Ls → XD → Prop) : Prop := ∀ δ kx, (∀ x, kx x → M δ x) → TkX K Γ B (WE W) δ kx
section
variable {K : PySem.W.Frag} {Γ : Fx} {B : Bs} {δ : Ls} {G : PEn} {tb : WX → TS} {ts : Addr → Value → Option Addr → TS} {Wout : WX} {c : Value} {i : Nat}
/-- try: body  except C: suite -/
theorem sat_try_only (M : Ls → XD → Prop) (hb : ∀ (W : WX) (B' : Bs), B'.n = B.n → B'.h = B.h → (∀ N, B'.lo N → B.lo N) → TkA K Γ B' W M → Sat K Γ B' (tb W) G δ)
    (hs : ∀ δ' x, M δ' x → ∃ b, PySem.W.exmOne K (.ref x.1) c = some b ∧ (b = true → ∀ (B' : Bs) a cls d, B'.n = B.n → B'.h = B.h → (∀ N, B'.lo N → B.lo N ∧ XV K N cls d x) → Sat K Γ B' (ts a cls d) G δ') ∧ (b = false → TkX K Γ B (WE Wout) δ' (fun y => y = x))) :
    Sat K Γ B (fun D σ H => tb (wOnly K c ts Wout D) D σ H) G δ := fun D' L gd N H σ hg r => by
  refine hb (wOnly K c ts Wout D') (B.and (fun M => Ex L M) (fun e h => h.trans e)) rfl rfl (fun N h => h.1) (fun δ' kx hM N1 H1 σ1 cls d x hg1 r1 xv hk => ?_) D' L gd.and N H σ hg (r.and hg.2)
  obtain ⟨b, he, h1, h0⟩ := hs δ' x (hM x hk)
  have hcls : cls = .ref x.1 := by cases xv <;> rfl
  refine ⟨b, by rw [hcls]; exact he, fun hb1 a ha => ?_, fun hb0 => h0 hb0 N1 H1 σ1 cls d x hg1 r1.less xv rfl⟩
  exact h1 hb1 (B.and (fun M => Ex N1 M) (fun e h => h.trans e)) a cls d rfl rfl (fun N h => ⟨h.1, xv.ex h.2⟩) D' L gd.and N1 H1 σ1 ⟨hg1, r1.lo.2⟩ (r1.less.and (Ex.refl N1))
theorem Rel.setA {N H : Hp} {σ : L2.St} (r : Rel K B N H σ δ) (a : Addr) : Rel K B N H (σ.set i (some (.ref a))) (δ.set i (.d (.sc (.ref a)))) := r.set .sc i
/-- try: body  except C as e: suite; e in slot i -/
theorem sat_try_as (M : Ls → XD → Prop) (hb : ∀ (W : WX) (B' : Bs), B'.n = B.n → B'.h = B.h → (∀ N, B'.lo N → B.lo N) → TkA K Γ B' W M → Sat K Γ B' (tb W) G δ)
    (hs : ∀ δ' x, M δ' x → ∃ b, PySem.W.exmOne K (.ref x.1) c = some b ∧ (b = true → ∀ (B' : Bs) a cls d, B'.n = B.n → B'.h = B.h → (∀ N, B'.lo N → B.lo N ∧ XV K N cls d x) → Sat K Γ B' (ts a cls d) { nx := fun δ2 => G.nx (δ2.set i .no), rt := G.rt, ro := G.ro, bk := fun δ2 => G.bk (δ2.set i .no), ct := fun δ2 => G.ct (δ2.set i .no) } (δ'.set i (.d (.sc (.ref a))))) ∧ (b = false → TkX K Γ B (WE Wout) δ' (fun y => y = x))) :
    Sat K Γ B (fun D σ H => tb (wAs K c i ts Wout D) D σ H) G δ := fun D' L gd N H σ hg r => by
  refine hb (wAs K c i ts Wout D') (B.and (fun M => Ex L M) (fun e h => h.trans e)) rfl rfl (fun N h => h.1) (fun δ' kx hM N1 H1 σ1 cls d x hg1 r1 xv hk => ?_) D' L gd.and N H σ hg (r.and hg.2)
  obtain ⟨b, he, h1, h0⟩ := hs δ' x (hM x hk)
  have hcls : cls = .ref x.1 := by cases xv <;> rfl
  refine ⟨b, by rw [hcls]; exact he, fun hb1 a ha => ?_, fun hb0 => h0 hb0 N1 H1 σ1 cls d x hg1 r1.less xv rfl⟩
  refine h1 hb1 (B.and (fun M => Ex N1 M) (fun e h => h.trans e)) a cls d rfl rfl (fun N h => ⟨h.1, xv.ex h.2⟩) _ L ?_ N1 H1 _ ⟨hg1, r1.lo.2⟩ ((r1.less.and (Ex.refl N1)).setA a)
  exact ⟨fun N H σ δ hg r k => gd.nx N H _ _ hg (r.less.setNo i) k, fun N H v d hg s dv k => gd.rt N H v d hg s dv k, fun N H q xs ds hg s a b c dv k => gd.ro N H q xs ds hg s a b c dv k, fun N H σ δ hg r k => gd.bk N H _ _ hg (r.less.setNo i) k, fun N H σ δ hg r k => gd.ct N H _ _ hg (r.less.setNo i) k⟩
/-- a field of the exception in a slot -/
theorem ec_xfs {te : TE} {a C : Addr} {cls : Value} {d : Option Addr} {n : Str} {dv : D} {x : XD} {k : D → Prop} (h : EvC K Γ B te δ fun y => y = .sc (.ref a)) (hx : ∀ N, B.lo N → XV K N cls d x) (hC : x.1 = C) (hl : x.2.lookup n = some dv) (hk : k dv) : EvC K Γ B (tXf a cls d C n te) δ k := fun N H σ hg r Q q => h N H σ hg r _ fun y N1 H1 y' s1 dy hy => by
  subst hy
  cases dy
  have xv := hx N1 (B.up s1.n r.lo)
  exact ec_xf (te := fun σ H Q => Q (.ref a) H) (cls := cls) (σ0 := ()) hC xv hl hk N1 H1 σ (Ex.refl N1) (r.step s1) ⟨rfl, rfl⟩ (fun Q1 Q2 hq z => hq _ _ z) Q fun v N2 H2 d2 s2 dv2 hk2 => q v N2 H2 d2 (s1.trans s2) dv2 hk2
end
/-! ### the start of a def that may raise -/
theorem run_X {K : PySem.W.Frag} {Γ : Fx} {N H : Hp} {vs : List V} {ds : List D} {names : List Str} {post : D → Prop} {kx : XD → Prop} {t : TS} {Q : VK} {E : XK} (dv : DVs K N vs ds) (e : Ex N H) (hg : Has Γ N) (q : ∀ v N' H' d, Stp N H N' H' → DV K N' v d → post d → Q v H') (qE : ∀ cls d N' H' x, Stp N H N' H' → XV K N' cls d x → kx x → E cls d H')
    (h : (∀ δ, TkX K Γ { n := N, h := H } (WE fun cls d _ H => E cls d H) δ kx) → Sat K Γ { n := N, h := H } t (gC post) (startD names.length ds)) :
    t { nx := fun _ H' => Q .non H', rt := Q } (L2.start names vs) H := run_C dv e hg q (h fun δ => tkx_def qE)
end Dv

/-! exceptions that are made with their fields -/
namespace Dv
open PySem PySem.Spec PyProof.Rows L2 Evl Sq
/-- __init__(self, x): self.f = x -/
def spIni1 (K : PySem.W.Frag) (f : Str) : Sp := fun vs H Q _ => ∃ (a C : Addr) (v : V), vs = [.ref a, v] ∧ OexC K C ∧ PySem.W.findIn K (.ref C) f = some none ∧ H a = some (exo a C none) ∧ ∀ dx, H dx = none → dx ≠ a → Q .non (upd (upd H dx (exd dx [(f, v)])) a (exo a C (some dx)))
/-- __init__(self, x, y): self.f = x; self.g = y -/
def spIni2 (K : PySem.W.Frag) (f g : Str) : Sp := fun vs H Q _ => ∃ (a C : Addr) (v w : V), vs = [.ref a, v, w] ∧ OexC K C ∧ PySem.W.findIn K (.ref C) f = some none ∧ PySem.W.findIn K (.ref C) g = some none ∧ H a = some (exo a C none) ∧ ∀ dx, H dx = none → dx ≠ a → Q .non (upd (upd H dx (exd dx [(g, w), (f, v)])) a (exo a C (some dx)))
section
variable {K : PySem.W.Frag} {Γ : Fx} {B : Bs} {δ : Ls} {tA : TA} {kx : XD → Prop} {C : Addr} {f g : Str}
theorem made_heap {H1 : Hp} {a dx : Addr} {o1 o2 o3 o4 : HO} (ha : H1 a = none) (hne : dx ≠ a) : upd (del (upd (upd (upd H1 a o1) dx o2) a o3) a) dx o4 = upd H1 dx o4 := by
  funext b
  by_cases e : b = dx
  · subst e
    rw [upd_same, upd_same]
  · rw [upd_ne e, upd_ne e]
    unfold del
    by_cases e2 : b = a
    · subst e2
      simp [ha]
    · simp only [e2, if_false]
      rw [upd_ne e2, upd_ne e, upd_ne e2]
theorem mk_ini1 (T : OexC K C) (hf : PySem.W.findIn K (.ref C) f = some none) (h : EvAC K Γ B tA δ fun ds => ∃ d, ds = [d] ∧ kx (C, [(f, d)])) : MkX K Γ B (tMkO C (spIni1 K f) [] tA) δ kx := fun N H σ hg r Q q => h N H σ hg r _ fun vs N1 H1 ds s1 dv ⟨d, e, hk⟩ => by
  subst e
  cases dv with
  | cons d1 d2 =>
    cases d2
    rename_i v
    refine ⟨(by decide : 1 ≤ 1000), fun a ha => ⟨a, C, v, rfl, T, hf, upd_same, fun dx hdx hne => ⟨rfl, dx, [(f, v)], upd_same, by rw [upd_ne hne, upd_same], ?_, ?_⟩⟩⟩
    · rw [upd_ne hne] at hdx
      exact hdx
    · have hdx' : H1 dx = none := by
        rw [upd_ne hne] at hdx
        exact hdx
      rw [made_heap ha hne]
      refine q _ _ (upd N1 dx (.xd [(f, v)])) _ (C, [(f, d)]) (s1.trans (Stp.new s1.s hdx')) ?_ hk
      exact XV.some (fs := [f]) (vs := [v]) (ds := [d]) upd_same rfl ((DVs.one d1).ex (Ex.new (fresh_back s1.s hdx')))
theorem mk_ini2 (T : OexC K C) (hf : PySem.W.findIn K (.ref C) f = some none) (hg2 : PySem.W.findIn K (.ref C) g = some none) (h : EvAC K Γ B tA δ fun ds => ∃ d e, ds = [d, e] ∧ kx (C, [(g, e), (f, d)])) : MkX K Γ B (tMkO C (spIni2 K f g) [] tA) δ kx := fun N H σ hg r Q q => h N H σ hg r _ fun vs N1 H1 ds s1 dv ⟨d, d', e, hk⟩ => by
  subst e
  cases dv with
  | cons d1 d2 =>
    cases d2 with
    | cons d2 d3 =>
      cases d3
      rename_i v w
      refine ⟨(by decide : 2 ≤ 1000), fun a ha => ⟨a, C, v, w, rfl, T, hf, hg2, upd_same, fun dx hdx hne => ⟨rfl, dx, [(g, w), (f, v)], upd_same, by rw [upd_ne hne, upd_same], ?_, ?_⟩⟩⟩
      · rw [upd_ne hne] at hdx
        exact hdx
      · have hdx' : H1 dx = none := by
          rw [upd_ne hne] at hdx
          exact hdx
        rw [made_heap ha hne]
        refine q _ _ (upd N1 dx (.xd [(g, w), (f, v)])) _ (C, [(g, d'), (f, d)]) (s1.trans (Stp.new s1.s hdx')) ?_ hk
        exact XV.some (fs := [g, f]) (vs := [w, v]) (ds := [d', d]) upd_same rfl ((DVs.cons d2 (.one d1)).ex (Ex.new (fresh_back s1.s hdx')))
end
/-! ### the walked __init__ -/
theorem pure_ini1 {K : PySem.W.Frag} {f : Str} {vs : List V} {H : Hp} {Q : VK} {E : XK} (h : spIni1 K f vs H Q E) : tOst K f (tVar 0) (tVar 1) { nx := fun _ H' => Q .non H', rt := Q } (L2.start ["self", "x"] vs) H := by
  obtain ⟨a, C, v, rfl, T, hf, ha, q⟩ := h
  exact ⟨v, rfl, _, rfl, a, C, rfl, T, hf, .inl ⟨ha, fun dx hdx hne => q dx hdx hne⟩⟩
theorem pure_ini2 {K : PySem.W.Frag} {f g : Str} {vs : List V} {H : Hp} {Q : VK} {E : XK} (h : spIni2 K f g vs H Q E) : tSeq (tOst K f (tVar 0) (tVar 1)) (tOst K g (tVar 0) (tVar 2)) { nx := fun _ H' => Q .non H', rt := Q } (L2.start ["self", "x", "y"] vs) H := by
  obtain ⟨a, C, v, w, rfl, T, hf, hg, ha, q⟩ := h
  refine ⟨v, rfl, _, rfl, a, C, rfl, T, hf, .inl ⟨ha, fun dx hdx hne => ?_⟩⟩
  refine ⟨w, rfl, _, rfl, a, C, rfl, T, hg, .inr ⟨dx, [(f, v)], upd_same, by rw [upd_ne hne, upd_same], (by decide : 1 ≤ 900), ?_⟩⟩
  have e : upd (upd (upd H dx (exd dx [(f, v)])) a (exo a C (some dx))) dx (exd dx [(g, w), (f, v)]) = upd (upd H dx (exd dx [(g, w), (f, v)])) a (exo a C (some dx)) := by
    funext b
    by_cases e1 : b = dx
    · subst e1
      rw [upd_same, upd_ne hne, upd_same]
    · rw [upd_ne e1]
      by_cases e2 : b = a
      · subst e2
        rw [upd_same, upd_same]
      · rw [upd_ne e2, upd_ne e2, upd_ne e1, upd_ne e1]
  rw [e]
  exact q dx hdx hne
end Dv

/-! isinstance of a caught exception, of any class, with its own dict or without -/
namespace Dv
open PySem PySem.Spec PyProof.Rows L2 Evl Sq
/-- what is asked of an exception's class -/
structure ExK (K : PySem.W.Frag) (C : Addr) : Prop where
  is : (PySem.W.clsIn K C).isSome = true
  ga : PySem.W.findIn K (.ref C) "__getattribute__" = some (some (.builtin "BaseException.__getattribute__"))
  gg : PySem.W.findIn K (.ref C) "__getattr__" = some none
  ex : PySem.W.subIn K (.ref C) (.type "BaseException") = some true
  ac : PySem.W.findIn K (.ref C) "__class__" = some (some (.builtin "object.__class__"))
  sp : PySem.W.specialIn K (.builtin "object.__class__") "__get__" = some (some (.builtin "getset_descriptor.__get__"))
  tk : PySem.W.takesIn K (.builtin "object.__class__") = some true
  mr : PySem.W.mroIn K C (.type "object") = some true
def rIsX (K : PySem.W.Frag) (a : Addr) (cls : Value) (d : Option Addr) : List V → Hp → VK → Prop := fun xs H Q => ∃ (C : Addr) (c : V) (cv : Value) (b : Bool), cls = .ref C ∧ ExK K C ∧ xs = [.ref a, c] ∧ (∀ u, RelV c u → u = cv) ∧ PySem.W.kitOne K (.ref C) cv = some b ∧ (d = none ∨ ∃ (dd : Addr) (fs : List (Str × V)), d = some dd ∧ H dd = some (.xd fs)) ∧ Q (.bl b) H
theorem call_isX {X : Cx} {a : Addr} {oe : Obj} {cls : Value} {d : Option Addr} {pn : List (Addr × Obj)} (hz : Zc cls d oe) (hf : ∃ vs, oe.data = .fields vs) : CallR (X.suite a ((a, oe) :: pn)) (.builtin "isinstance") (rIsX X.K a cls d) := by
  intro pins s σ H xs us Q I r h
  obtain ⟨C, c, cv, b, rfl, T, rfl, hcv, hk, hd, q⟩ := h
  cases r with
  | cons rx rr =>
    cases rr with
    | cons rc rn =>
      cases rn
      have rx := (show _ = Value.ref a from rx)
      subst rx
      have rc := hcv _ rc
      subst rc
      obtain ⟨ha, _⟩ := I.pin (a, oe) (List.mem_append_left _ List.mem_cons_self)
      obtain ⟨vs, hdat⟩ := hf
      have J : ∃ od, PySem.W.InstAt s.heap a oe C od := by
        rcases hd with rfl | ⟨dd, fs, rfl, hH⟩
        · exact ⟨none, ha, hz.1, by unfold PySem.W.notCls; rw [hdat] <;> rfl, by rw [hz.2]; trivial⟩
        · have hx : ObjOk X.prog X.w H s.heap dd (.xd fs) := I.hok dd _ hH
          obtain ⟨mA, hns, hr⟩ := hx
          obtain ⟨od, ho, hl⟩ := lookIn_ns hns
          exact ⟨some od, ha, hz.1, by unfold PySem.W.notCls; rw [hdat] <;> rfl, by rw [hz.2]; exact ho⟩
      obtain ⟨od, J⟩ := J
      exact PySem.W.kia_one (PySem.W.kitx_exc (od := od) T.is T.ga T.gg T.ex T.ac T.sp T.tk T.mr) I.kIn J hk (fun z => Value.noConfusion z) fun tk => ⟨.bl b, H, I.tok _, rfl, q⟩
section
variable {K : PySem.W.Frag} {Γ : Fx} {B : Bs} {δ : Ls} {tA : TA} {k : D → Prop}
/-- isinstance(e, C'), e the exception that the suite holds, C' a class of the program -/
theorem ec_isX {a C' : Addr} {cls : Value} {d : Option Addr} {x : XD} {b : Bool} (T : ExK K x.1) (hx : ∀ N, B.lo N → XV K N cls d x) (hb : PySem.W.kitOne K (.ref x.1) (.ref C') = some b) (h : EvAC K Γ B tA δ fun ds => ds = [.sc (.ref a), .sc (.ref C')] ∧ k (Bo b)) : EvC K Γ B (tCB (rIsX K a cls d) tA) δ k := fun N H σ hg r Q q => h N H σ hg r _ fun vs N1 H1 ds s1 dv ⟨e, hk⟩ => by
  subst e
  cases dv with
  | cons d1 d2 =>
    cases d2 with
    | cons d2 d3 =>
      cases d3
      cases d1
      cases d2
      have xv := hx N1 (B.up s1.n r.lo)
      have hd : d = none ∨ ∃ (dd : Addr) (fs : List (Str × V)), d = some dd ∧ H1 dd = some (.xd fs) := by
        cases xv with
        | none => exact .inl rfl
        | some h0 _ _ => exact .inr ⟨_, _, rfl, s1.s _ _ h0⟩
      have hcls : cls = .ref x.1 := by cases xv <;> rfl
      exact ⟨x.1, _, .ref C', b, hcls, T, rfl, fun u hu => hu, hb, hd, q _ N1 H1 _ s1 .sc hk⟩
end
end Dv

/-! a lambda without parameters, handed to a def that calls it in a try -/
namespace Dv
open PySem PySem.Spec PyProof.Rows L2 Evl Sq
abbrev LQ (X : Cx) : Str := X.env.qual ++ "<lambda>"
/-- H1: the heap H behind the making of a lambda whose code object is c' -/
def Made (H : Hp) (P : Addr) (q : Str) (c' : Addr) (H1 : Hp) : Prop := ∃ ps : Array Value, H P = some (.tbl ps) ∧
  ((H1 = H ∧ ∃ pos, codeAmong pos ps.toList = some (.ref c')) ∨
    (H c' = none ∧ ∃ ps' : Array Value, TriplesOk ps'.toList ∧ (∀ pos cv, codeAmong pos ps'.toList = some cv → codeAmong pos ps.toList = some cv ∨ cv = .ref c') ∧ H1 = upd (upd H P (.tbl ps')) c' (LamX.CodeO c' q)))
section
variable {X : Cx} {pins : List (Addr × Obj)} {σ : L2.St} {H HZ : Hp} {s s1 : Shared}
theorem lam_mk {c P : Addr} {params : Arguments} {body : Expr} {scope : Scope} {pos : Pos} {E Q : Value → Shared → Prop} (I : Inv X pins σ H s) (TB : GxR.TabB X.base X.mg c P) (hcode : X.env.code = .ref c) (hT : LamX.TabS H P (LQ X))
    (hdef : defaultsOf params X.env = ([], [])) (hfree : ∀ y ∈ scope.names, y.2 = .free → ∃ c, X.env.cells.lookup y.1 = some c)
    (h : ∀ (f c' : Addr) (pm ctv : Value) (H1 : Hp) (s' : Shared), Inv X pins σ H1 s' → Made H P (LQ X) c' H1 →
      s'.heap.get? f = some (PySem.W.kla_obj "<lambda>" (LQ X) params body scope (cloFrom X.env.cells scope.names []) pm c' ctv) → H1 f = none → f ∉ frs X.stack → H1 c' = some (LamX.CodeO c' (LQ X)) → Q (.ref f) s') :
    wpAny (model X.prog X.w) X.A (eval (.Lambda params body scope pos) X.env) Q E s := by
  obtain ⟨ps, hP, ht, ha⟩ := hT
  have away : ∀ f, s.heap.objs.size ≤ f → f ∉ frs X.stack := fun f hf z => by
    rcases List.mem_cons.mp (I.stkSub f z) with e | e
    · rw [e] at hf
      exact absurd I.lt (Nat.not_lt.mpr hf)
    · exact I.nofs hf e
  have hO : s.heap.get? P = some { cls := .none, data := .fields ps } := I.hok P _ hP
  have bi : s.heap.BuiltinsAt X.mg P := TB.bm.keeps I.bk
  have gl := I.mod.glob.keeps I.bk
  have cd := TB.code.keeps I.bk
  apply PySem.W.kla_eval hdef
  cases hc : codeAmong pos ps.toList with
  | some cv =>
    obtain ⟨c', rfl, hco⟩ := ha pos cv hc
    refine PySem.W.kla_makeFunctionHit (closure_ok hfree) I.ok.glob gl hcode cd hO ht hc bi fun ctv g tk up sz => ?_
    exact h _ c' _ ctv H _ (I.kept fun b o e => Heap.get?_push_of_some _ (up b o e)) ⟨ps, hP, .inl ⟨rfl, pos, hc⟩⟩ (Heap.get?_push_size _ rfl) (I.hok.fresh sz) (away _ sz) hco
  | none =>
    refine PySem.W.kla_makeFunction (closure_ok hfree) I.ok.glob gl hcode cd hO ht hc TB.gP bi fun c' ctv g tk up ge lt rec tab => ?_
    obtain ⟨_, oc, vs, t, z, r1, r2, r3⟩ := rec
    cases z
    have sz : s.heap.objs.size ≤ g.objs.size := Nat.le_trans ge (Nat.le_of_lt lt)
    have J := LamX.inv_table (t' := tk) (more := #[rawInt pos.line, rawInt pos.col, .ref c']) (q := LQ X) I hP (fun b o hb e => Heap.get?_push_of_some (PySem.W.kla_obj "<lambda>" (LQ X) params body scope (cloFrom X.env.cells scope.names []) ((X.mg "__name__").getD .none) c' ctv) (up b o hb e)) (Heap.get?_push_of_some _ tab) ge ⟨oc, vs, t, Heap.get?_push_of_some _ r1, r2, r3⟩
    have nl : (ps ++ #[rawInt pos.line, rawInt pos.col, .ref c']).toList = ps.toList ++ [rawInt pos.line, rawInt pos.col, .ref c'] := by simp
    refine h _ c' _ ctv _ _ J ⟨ps, hP, .inr ⟨I.hok.fresh ge, _, ?_, fun p cv hcv => ?_, rfl⟩⟩ (Heap.get?_push_size _ rfl) ?_ (away _ sz) upd_same
    · rw [nl]
      exact PySem.TriplesOk_snoc _ _ _ _ ht
    · rw [nl] at hcv
      exact LamX.among_app _ ht hcv
    · have n1 := Nat.ne_of_gt lt
      have n2 : g.objs.size ≠ P := fun z => by
        have := Nat.lt_of_lt_of_le (Heap.lt_size hO) sz
        omega
      rw [upd_ne n1, upd_ne n2]
      exact I.hok.fresh sz
/-- the lambda called inside the def that got it, at the slots σZ: what it raises meets the wish W there -/
theorem pe_act3 {CXg : CXT} {Eg : XK} {Ng : List Str} {qg : Str} {sg : Scope} {g f c' : Addr} {cdg pm ctv : Value} {params : Arguments} {body : Expr} {scope : Scope} {k i : Nat} {a : Str} {pn : List (Addr × Obj)} {xe : Value → Shared → Prop} {W : WX} {tb : XK → TE} {p1 p2 : Pos}
    (I : Inv X pins σ H s) (L : LamX.LamS X.env.scope scope) (hf : s.heap.get? f = some (PySem.W.kla_obj "<lambda>" (LQ X) params body scope (cloFrom X.env.cells scope.names []) pm c' ctv)) (hfn : H f = none) (hfr : f ∉ frs X.stack)
    (hbind : bindArgs (PySem.W.kla_fn "<lambda>" (LQ X) params body scope (cloFrom X.env.cells scope.names []) pm (.ref c') ctv) ⟨[], []⟩ = pure [])
    (tk : Takes ((cxOf CXg X.prog X.w X.K X.mg X.base Ng qg sg g cdg X.A X.stack s H Eg).tr pn xe) W) (hr : Room (k + 1) (X.A.deeper (envOfC qg sg s.heap.objs.size g cdg)))
    (hbody : ∀ (A : Around) (outer : List Env) (s : Shared) (H : Hp) (E : XK), Room k (A.deeper (LamX.lamEnv X scope s.heap.objs.size f c')) → PE (LamX.lamCx X A outer s H E scope f c') body (tb E))
    (hN : Ng[i]? = some a) (hv : Vis sg a) (hd : (a == ("__debug__" : Str)) = false) (hcd : (a == ("__classdict__" : Str)) = false) :
    PE ((cxOf CXg X.prog X.w X.K X.mg X.base Ng qg sg g cdg X.A X.stack s H Eg).tr pn xe) (.Call (.Name a p1) [] [] p2) (fun σZ HZ Q => σZ[i]? = some (some (.ref f)) ∧ HZ c' = some (LamX.CodeO c' (LQ X)) ∧ tb (WE W σZ) σ HZ Q) := by
  constructor
  intro pinsZ sZ σZ HZ Q IZ ⟨e1, e2, e3⟩
  have nm := (pe_var (pos := p1) (i := i) hN hv hd hcd).run pinsZ sZ σZ HZ (fun v H1 => v = .ref f ∧ H1 = HZ) IZ ⟨.ref f, e1, rfl, rfl⟩
  refine wpAny_Call_Name_kw (thn nm fun u s2 hu => ?_)
  obtain ⟨v, H2, I2, rv, rfl, rfl⟩ := hu
  have hu : u = Value.ref f := rv
  subst hu
  have of2 := I2.base.keep f _ hf hfn hfr (fun z => nomatch (show f ∈ ([] : List Addr) from z))
  have un : Un (frs X.stack) [] H H2 s.heap s2.heap := I2.base
  obtain ⟨⟨oc, vs, t, c1, c2, c3⟩, _, _⟩ := I2.hok c' _ e2
  refine PySem.W.callWith_F0 ⟨_, _, _, _, of2⟩ (wpAny_call (codeAny_mono (R := fun r s' => CR (L2.CX X.prog X.w) (envOfC qg sg s.heap.objs.size g cdg :: X.stack) X.prog X.w H2 s2 Q (WE W σZ) r s') ?_ fun r s' hq => ?_))
  · refine PySem.W.kla_callFunE hr.depth of2 rfl L.co L.gen rfl ⟨c', oc, vs, t, rfl, c1, c2, c3⟩ ?_
    rw [show (([] : List Value) ++ []) = [] from rfl, hbind]
    refine wpAny_pure (wpAny_newFunctionEnv (fun y hy => (L.own y hy).2) (fun y hy => absurd hy (by simp)) (fun h1 hns hsb => ⟨I2.nolimit.fresh _ hsb, ?_⟩) L.kind)
    have kp : ∀ b o, s2.heap.get? b = some o → h1.get? b = some o := fun b o e => hsb.extBut b o (Nat.ne_of_lt (Heap.lt_size e)) (Heap.get?_push_of_some _ e)
    have J := LamX.lam_start2 (A := X.A.deeper (envOfC qg sg s.heap.objs.size g cdg)) (E := WE W σZ) (tk := s2.toks + ([] : List (Str × Value)).length) (f := f) (c' := c') I L I2.env0 hr.hd un hns kp
    refine PySem.W.kla_codeExpr (wpAny_mono ((hbody _ _ s2 H2 (WE W σZ) (hr.deeper _)).run [] _ _ H2 Q J e3) (fun v s' hq => ?_) fun e s' hq => hq)
    obtain ⟨w, H3, J3, rw3, q3⟩ := hq
    exact ⟨w, H3, J3.os, J3.bare, J3.base, J3.hok, rw3, q3⟩
  · cases r with
    | ok fl =>
      cases fl with
      | ret u => exact I2.after hq
      | _ => exact False.elim hq
    | error e => exact passAt tk σZ pinsZ H2 s2 e s' I2 hq
end
/-- the def x at g calls what it gets: a is what it gets; TT: what it makes of the lambda's reading -/
def GivesL (P : Program) (w : World) (K : PySem.W.Frag) (mg : Str → Option Value) (base : Heap) (Ng : List Str) (x : Str) (st : Stmt) (g : Addr) (a q : Str) (TT : (XK → Hp → VK → Prop) → Hp → VK → Prop) : Prop :=
  ∀ (cdv : Value) (A : Around) (stk : List Env) (f c' : Addr) (s : Shared) (H : Hp) (Q : VK) (tl : XK → Hp → VK → Prop),
    (∀ (W : WX) (pn : List (Addr × Obj)) (xe : Value → Shared → Prop) (p1 p2 : Pos), Takes ((cxOf CX0 P w K mg base Ng x (defScope st) g cdv A stk s H E0).tr pn xe) W →
      PE ((cxOf CX0 P w K mg base Ng x (defScope st) g cdv A stk s H E0).tr pn xe) (.Call (.Name a p1) [] [] p2) (fun σZ HZ Q => σZ[0]? = some (some (.ref f)) ∧ HZ c' = some (LamX.CodeO c' q) ∧ tl (WE W σZ) HZ Q)) →
    H c' = some (LamX.CodeO c' q) → TT tl H Q →
    ∃ t, PSs (cxOf CX0 P w K mg base Ng x (defScope st) g cdv A stk s H E0).nox (defBody st) t ∧ t { nx := fun _ H' => Q .non H', rt := Q } (L2.start Ng [.ref f]) H
structure DfnL (P : Program) (w : World) (K : PySem.W.Frag) (mg : Str → Option Value) (base : Heap) (Ng : List Str) (x : Str) (st : Stmt) (a q : Str) (TT : (XK → Hp → VK → Prop) → Hp → VK → Prop) : Prop where
  ex : ∃ (g : Addr) (fd : FuncData), Fun K x x st g fd ∧ mg x = some (.ref g) ∧ Binds K fd [a] [] ∧ GivesL P w K mg base Ng x st g a q TT
def tLamL (P : Addr) (q : Str) (TT : (XK → Hp → VK → Prop) → Hp → VK → Prop) (t : XK → TE) : TE := fun σ H Q => LamX.TabS H P q ∧ ∀ c' H1, Made H P q c' H1 → H1 c' = some (LamX.CodeO c' q) → TT (fun E H' Q' => t E σ H' Q') H1 Q
theorem pe_lamL {X : Cx} {TT : (XK → Hp → VK → Prop) → Hp → VK → Prop} {x a : Str} {c P : Addr} {k : Nat} {st : Stmt} {Ng : List Str} {params : Arguments} {body : Expr} {scope : Scope} {t : XK → TE} {p lpos pos : Pos}
    (D : DfnL X.prog X.w X.K X.mg X.base Ng x st a (LQ X) TT) (hr : Room (k + 2) X.A) (hg : Gl X x) (TB : GxR.TabB X.base X.mg c P) (hcode : X.env.code = .ref c) (Sg : FnScope Ng [a] (defScope st)) (hNg : Ng[0]? = some a) (hva : Vis (defScope st) a) (L : LamX.LamS X.env.scope scope) (hdef : defaultsOf params X.env = ([], []))
    (hbind : ∀ (q : Str) (cl : List (Str × Addr)) (pm cv ctv : Value), bindArgs (PySem.W.kla_fn "<lambda>" q params body scope cl pm cv ctv) ⟨[], []⟩ = pure [])
    (hbody : ∀ (A : Around) (outer : List Env) (s : Shared) (H : Hp) (E : XK) (f c' : Addr), Room k (A.deeper (LamX.lamEnv X scope s.heap.objs.size f c')) → PE (LamX.lamCx X A outer s H E scope f c') body (t E))
    (hdb : (x == ("__debug__" : Str)) = false := by decide) (hd : (a == ("__debug__" : Str)) = false := by decide) (hcd : (a == ("__classdict__" : Str)) = false := by decide) :
    PE X (.Call (.Name x p) [.Lambda params body scope lpos] [] pos) (tLamL P (LQ X) TT t) := by
  obtain ⟨g, fd, F, hm, hb, hG⟩ := D.ex
  obtain ⟨oc, od, kV, doc, pm, an, cdv, ct, osl, rfl, lk, hcg⟩ := F.ex
  constructor
  intro pins s σ H Q I ⟨hT, hq⟩
  refine wpAny_Call_Name_kw (ld_glob I hg hm ?_ hdb)
  refine PySem.W.callWith_K (h₀ := X.base) I.ok.mod.kin F.kp ?_ (by rfl) (by rfl)
  show wpAny _ _ (spliced ((false, eval (.Lambda params body scope lpos) X.env) :: backTo pos (starEach [] X.env))) _ _ s
  refine Calls.spliced_cons (lam_mk I TB hcode hT hdef (L.has I.ok) fun f c' pm' ctv H1 s2 I2 hM hf hfn hfr hco => Calls.spliced_nil ⟨I2.kIn, ?_⟩)
  refine wpAny_call (codeAny_mono (R := fun r s' => CR CX0 X.stack X.prog X.w H1 s2 Q E0 r s') ?_ fun r s' z => ?_)
  · refine LamX.run_ofS (N := Ng) (ps := [a]) (us := [.ref f]) (vs := [.ref f]) lk hcg Sg hr I2.env0 (hb s2 [.ref f] I2.kIn rfl) (.cons rfl .nil) rfl fun hr2 => ?_
    obtain ⟨t', h1, h2⟩ := hG cdv X.A X.stack f c' s2 H1 Q (fun E H' Q' => t E σ H' Q') (fun W pn xe p1 p2 tk => pe_act3 (i := 0) I2 L hf hfn hfr (hbind _ _ _ _ _) tk hr2 (fun A outer s H E hr3 => hbody A outer s H E f c' hr3) hNg hva hd hcd) hco (hq c' H1 hM hco)
    exact ⟨t', h1.nox, h2⟩
  · cases r with
    | ok fl =>
      cases fl with
      | ret u => exact I2.after z
      | _ => exact False.elim z
    | error e => exact False.elim z
end Dv

/-! a lambda handed to a def, told by values -/
namespace Dv
open PySem PySem.Spec PyProof.Rows L2 Evl Sq
/-! ### the table of the def that makes lambdas -/
def TabN (P : Addr) (q : Str) (N H : Hp) : Prop := N P = none ∧ ∃ ps : Array Value, H P = some (.tbl ps) ∧ TriplesOk ps.toList ∧ ∀ pos cv, codeAmong pos ps.toList = some cv → ∃ c, cv = .ref c ∧ N c = some (LamX.CodeO c q)
theorem tabN_kp {P : Addr} {q : Str} {N H N' H' : Hp} (k : Kp N H N' H') (t : TabN P q N H) : TabN P q N' H' := by
  obtain ⟨h1, ps, h2, h3, h4⟩ := t
  have nl : ∀ xs, HO.tbl ps ≠ .lst xs := fun xs z => by cases z
  refine ⟨k.o P _ h2 nl h1, ps, k.h P _ h2 nl, h3, fun pos cv hc => ?_⟩
  obtain ⟨c, e, hc⟩ := h4 pos cv hc
  exact ⟨c, e, k.n _ _ hc⟩
theorem tabN_nil {P : Addr} {q : Str} {N H : Hp} (h1 : N P = none) (h2 : H P = some (.tbl #[])) : TabN P q N H := ⟨h1, #[], h2, True.intro, fun pos cv hc => by
  have z : codeAmong pos [] = some cv := hc
  simp [codeAmong] at z⟩
def less (P : Addr) (G : Hp) : Hp := fun b => if b = P then none else G b
def lawB (P : Addr) (q : Str) (G : Hp) : Bs := { n := less P G, h := less P G, hx := TabN P q, hup := tabN_kp }
theorem less_at {P : Addr} {G : Hp} {b : Addr} {o : HO} (h : less P G b = some o) : b ≠ P ∧ G b = some o := by
  unfold less at h
  by_cases e : b = P
  · rw [if_pos e] at h; cases h
  · rw [if_neg e] at h; exact ⟨e, h⟩
theorem less_ne {P : Addr} {G : Hp} {b : Addr} (h : b ≠ P) : less P G b = G b := if_neg h
theorem less_same {P : Addr} {G : Hp} : less P G P = none := if_pos rfl
/-! ### expressions behind which the table may have grown -/
section
variable (K : PySem.W.Frag) (Γ : Fx) (B : Bs)
def EvW (te : TE) (δ : Ls) (k : D → Prop) : Prop := ∀ N H σ, Has Γ N → Rel K B N H σ δ → ∀ Q : VK, (∀ v N' H' d, Ex N N' → Rel K B N' H' σ δ → DV K N' v d → k d → Q v H') → te σ H Q
def EvAW (ta : TA) (δ : Ls) (k : List D → Prop) : Prop := ∀ N H σ, Has Γ N → Rel K B N H σ δ → ∀ Q : List V → Hp → Prop, (∀ vs N' H' ds, Ex N N' → Rel K B N' H' σ δ → DVs K N' vs ds → k ds → Q vs H') → ta σ H Q
def EvBW (tt : TT) (δ : Ls) (k : Bool → Prop) : Prop := ∀ N H σ, Has Γ N → Rel K B N H σ δ → ∀ Q : Bool → Hp → Prop, (∀ b N' H', Ex N N' → Rel K B N' H' σ δ → k b → Q b H') → tt σ H Q
end
section
variable {K : PySem.W.Frag} {Γ Γ' : Fx} {B : Bs} {δ : Ls} {ta tb te : TE} {tA : TA} {t u : TT} {k : D → Prop} {kb : Bool → Prop} {ko : List D → Prop} {r : R2} {G : PEn} {s1 s2 : TS} {i : Nat} {S : List D → (D → Prop) → Prop}
theorem ew_of (h : EvC K Γ B te δ k) : EvW K Γ B te δ k := fun N H σ g r Q q => h N H σ g r Q fun v N' H' d s dv kd => q v N' H' d s.n (r.step s) dv kd
theorem ew_op (h : EvW K Γ B ta δ fun x => EvW K Γ B tb δ fun y => OpC K r x y k) : EvW K Γ B (tOp r ta tb) δ k := fun N H σ g rr Q q => h N H σ g rr _ fun v N1 H1 x e1 r1 dv h2 => h2 N1 H1 σ (g.ex e1) r1 _ fun w N2 H2 y e2 r2 dw h3 => h3 N2 H2 v w r2.stp.s (dv.ex e2) dw Q fun z N3 H3 d s3 dz kd => q z N3 H3 d ((e1.trans e2).trans s3.n) (r2.step s3) dz kd
theorem eaw_nil (hk : ko []) : EvAW K Γ B tNil δ ko := fun N H σ g r Q q => q [] N H [] (Ex.refl N) r .nil hk
theorem eaw_cons {tr : TA} (h : EvW K Γ B ta δ fun x => EvAW K Γ B tr δ fun xs => ko (x :: xs)) : EvAW K Γ B (tCons ta tr) δ ko := fun N H σ g r Q q => h N H σ g r _ fun v N1 H1 x e1 r1 dv h2 => h2 N1 H1 σ (g.ex e1) r1 _ fun vs N2 H2 xs e2 r2 dvs kd => q (v :: vs) N2 H2 (x :: xs) (e1.trans e2) r2 (.cons (dv.ex e2) dvs) kd
theorem eaw_of (h : EvAC K Γ B tA δ ko) : EvAW K Γ B tA δ ko := fun N H σ g r Q q => h N H σ g r Q fun v N' H' d s dv kd => q v N' H' d s.n (r.step s) dv kd
theorem ew_call (h : EvAW K Γ B tA δ fun ds => S ds k) (hs : ∀ p ∈ Γ', p ∈ Γ := by simp) : EvW K Γ B (tCall (spC K Γ' S) [] E0 tA) δ k := fun N H σ g r Q q => h N H σ g r _ fun vs N1 H1 ds e1 r1 dv hp => by
  show spC K Γ' S (vs ++ []) H1 Q E0
  rw [List.append_nil]
  exact ⟨N1, ds, k, r1.stp.s, (g.ex e1).sub hs, dv, hp, fun v N2 H2 d s2 dv2 hpo => q v N2 H2 d (e1.trans s2.n) (r1.step s2) dv2 hpo⟩
theorem ebw_test (h : EvW K Γ B te δ fun d => ∃ b, d = Bo b ∧ kb b) : EvBW K Γ B (tTest te) δ kb := fun N H σ g r Q q => h N H σ g r _ fun v N1 H1 d e1 r1 dv ⟨b, e, kd⟩ => by
  subst e
  cases dv
  exact ⟨b, rfl, q b N1 H1 e1 r1 kd⟩
theorem ebw_B (h : EvW K Γ B te δ fun d => ∃ b, d = Bo b ∧ kb b) : EvBW K Γ B (tB te) δ kb := ebw_test h
theorem ebw_not (h : EvBW K Γ B t δ fun b => kb (!b)) : EvBW K Γ B (tNot t) δ kb := fun N H σ g r Q q => h N H σ g r _ fun b N1 H1 e1 r1 kd => q (!b) N1 H1 e1 r1 kd
theorem sat_ifW (h : EvBW K Γ B t δ fun b => (b = true → Sat K Γ B s1 G δ) ∧ (b = false → Sat K Γ B s2 G δ)) : Sat K Γ B (tIfS t s1 s2) G δ := fun D' L gd N H σ hg r => h N H σ hg.1 r _ fun b N1 H1 e1 r1 ⟨h1, h2⟩ => by
  cases b with
  | true => exact h1 rfl D' L gd N1 H1 σ (hg.ex e1) r1
  | false => exact h2 rfl D' L gd N1 H1 σ (hg.ex e1) r1
theorem sat_retW (h : EvW K Γ B te δ G.rt) : Sat K Γ B (tRet te) G δ := fun D' L gd N H σ hg r => h N H σ hg.1 r _ fun v N1 H1 d e1 r1 dv hk => gd.rt N1 H1 v d (hg.ex e1) r1.stp dv hk
theorem sat_setW (h : EvW K Γ B te δ fun d => G.nx (δ.set i (.d d))) : Sat K Γ B (tAsg te (gName i)) G δ := fun D' L gd N H σ hg r => h N H σ hg.1 r _ fun v N1 H1 d e1 r1 dv hk => gd.nx N1 H1 _ _ (hg.ex e1) (r1.set dv i) hk
end
/-! ### what a def makes of a lambda -/
def noO : Sl → Sl
  | .own _ => .no
  | s => s
theorem noO_d {s : Sl} {x : D} (h : noO s = .d x) : s = .d x := by cases s <;> first | exact h | cases h
theorem noO_own {s : Sl} {ds : List D} (h : noO s = .own ds) : False := by cases s <;> cases h
section
variable {K : PySem.W.Frag} {Γ Γ' : Fx} {B : Bs} {δ : Ls} {t : XK → TE} {k ko : D → Prop} {kx : XD → Prop} {N H : Hp} {σ : L2.St}
theorem Rel.rebase (r : Rel K B N H σ δ) : Rel K { n := N, h := H } N H σ (δ.map noO) := ⟨Stp.refl r.stp.s, trivial, by rw [List.length_map, r.len], fun i x h => by
  rw [List.getElem?_map] at h
  obtain ⟨s, hs, e⟩ := Option.map_eq_some_iff.mp h
  exact r.d i x (by rw [hs, noO_d e]), fun i ds h => by
  rw [List.getElem?_map] at h
  obtain ⟨s, hs, e⟩ := Option.map_eq_some_iff.mp h
  exact (noO_own e).elim, fun i j ds es c h => by
  rw [List.getElem?_map] at h
  obtain ⟨s, hs, e⟩ := Option.map_eq_some_iff.mp h
  exact (noO_own e).elim, trivial⟩
/-- the lambda's body: k of what it gives, kx of what it raises -/
def LamOk (K : PySem.W.Frag) (Γ : Fx) (B : Bs) (t : XK → TE) (δ : Ls) (k : D → Prop) (kx : XD → Prop) : Prop := ∀ N H σ, Has Γ N → Rel K B N H σ δ → ∀ (E : XK) (Q : VK), (∀ v N2 H2 d, Stp N H N2 H2 → DV K N2 v d → k d → Q v H2) → (∀ cls d N2 H2 x, Stp N H N2 H2 → XV K N2 cls d x → kx x → E cls d H2) → t E σ H Q
theorem lamok_of (h : ∀ (B' : Bs) (E : XK), (∀ δ', TkX K Γ B' (WE fun cls d _ H => E cls d H) δ' kx) → EvC K Γ B' (t E) (δ.map noO) k) : LamOk K Γ B t δ k kx := fun N H σ g r E Q q qE =>
  h { n := N, h := H } E (fun δ' => tkx_def qE) N H σ g r.rebase Q q
/-- what the def makes of a lambda's reading: S k kx ko: of a lambda that gives k or raises kx it makes ko -/
def spTT (K : PySem.W.Frag) (Γ : Fx) (S : (D → Prop) → (XD → Prop) → (D → Prop) → Prop) : (XK → Hp → VK → Prop) → Hp → VK → Prop := fun tl H Q => ∃ (N : Hp) (k : D → Prop) (kx : XD → Prop) (ko : D → Prop), Ex N H ∧ Has Γ N ∧ S k kx ko ∧
  (∀ N1 H1, Stp N H N1 H1 → ∀ (E : XK) (Q1 : VK), (∀ v N2 H2 d, Stp N1 H1 N2 H2 → DV K N2 v d → k d → Q1 v H2) → (∀ cls d N2 H2 x, Stp N1 H1 N2 H2 → XV K N2 cls d x → kx x → E cls d H2) → tl E H1 Q1) ∧
  ∀ v N' H' d, Stp N H N' H' → DV K N' v d → ko d → Q v H'
theorem Rel.made {P c' : Addr} {q : Str} {H1 : Hp} (hB : B.hx = TabN P q) (hP : B.h P = none) (r : Rel K B N H σ δ) (m : Made H P q c' H1) : ∃ N1, Ex N N1 ∧ Rel K B N1 H1 σ δ := by
  have tn : TabN P q N H := by rw [← hB]; exact r.hx
  obtain ⟨nP, ps, e0, ht, ha⟩ := tn
  obtain ⟨ps0, e1, h⟩ := m
  rw [e0] at e1
  cases e1
  rcases h with ⟨rfl, _⟩ | ⟨hc, ps', t2, a2, rfl⟩
  · exact ⟨N, Ex.refl N, r⟩
  have nc : N c' = none := fresh_back r.stp.s hc
  have bc : B.h c' = none := fresh_back r.stp.h hc
  have eN : Ex N (upd N c' (LamX.CodeO c' q)) := Ex.new nc
  have at_ : ∀ a, a ≠ P → a ≠ c' → upd (upd H P (.tbl ps')) c' (LamX.CodeO c' q) a = H a := fun a h1 h2 => by rw [upd_ne h2, upd_ne h1]
  have nPc : P ≠ c' := fun z => by rw [z, hc] at e0; cases e0
  refine ⟨_, eN, ⟨r.stp.n.trans eN, fun a o h => ?_, fun a o h => ?_, fun a h h' => ?_⟩, B.up eN r.lo, r.len, fun i x h => ?_, fun i ds h => ?_, r.ne, ?_⟩
  · have hh := r.stp.h a o h
    rw [at_ a (fun z => by rw [z, hP] at h; cases h) (fun z => by rw [z, hc] at hh; cases hh)]
    exact hh
  · by_cases e : a = c'
    · subst e
      rw [upd_same] at h ⊢
      exact h
    · rw [upd_ne e] at h
      rw [at_ a (fun z => by rw [z, nP] at h; cases h) e]
      exact r.stp.s a o h
  · by_cases e : a = c'
    · rw [e]; exact bc
    · rw [upd_ne e] at h'
      exact r.stp.w a h h'
  · obtain ⟨v, a, b⟩ := r.d i x h
    exact ⟨v, a, b.ex eN⟩
  · obtain ⟨c, xs, a, b, d, e, f⟩ := r.own i ds h
    have n1 : c ≠ P := fun z => by rw [z, e0] at b; cases b
    have n2 : c ≠ c' := fun z => by rw [z, hc] at b; cases b
    exact ⟨c, xs, a, by rw [at_ c n1 n2]; exact b, by rw [upd_ne n2]; exact d, e, f.ex eN⟩
  · rw [hB]
    refine ⟨by rw [upd_ne nPc]; exact nP, ps', by rw [upd_ne nPc, upd_same], t2, fun pos cv hcv => ?_⟩
    rcases a2 pos cv hcv with z | z
    · obtain ⟨c, e, hN⟩ := ha pos cv z
      exact ⟨c, e, eN _ _ hN⟩
    · exact ⟨c', z, upd_same⟩
theorem ew_lam {P : Addr} {q : Str} {S : (D → Prop) → (XD → Prop) → (D → Prop) → Prop} (hB : B.hx = TabN P q) (hP : B.h P = none) (k : D → Prop) (kx : XD → Prop) (h : LamOk K Γ B t δ k kx) (hS : S k kx ko) (hs : ∀ p ∈ Γ', p ∈ Γ := by simp) : EvW K Γ B (tLamL P q (spTT K Γ' S) t) δ ko := fun N H σ g r Q q0 => by
  have tn : TabN P q N H := by rw [← hB]; exact r.hx
  obtain ⟨nP, ps, e0, ht, ha⟩ := tn
  refine ⟨⟨ps, e0, ht, fun pos cv hc => let ⟨c, e, hN⟩ := ha pos cv hc; ⟨c, e, r.stp.s _ _ hN⟩⟩, fun c' H1 m hco => ?_⟩
  obtain ⟨N1, e1, r1⟩ := r.made hB hP m
  exact ⟨N1, k, kx, ko, r1.stp.s, (g.ex e1).sub hs, hS, fun N2 H2 s E Q1 hq hE => h N2 H2 σ (g.ex (e1.trans s.n)) (r1.step s) E Q1 hq hE, fun v N' H' d s dv kd => q0 v N' H' d (e1.trans s.n) (r1.step s) dv kd⟩
/-- inside the def: the lambda is called -/
theorem ec_act {f c' : Addr} {q : Str} {tl : XK → Hp → VK → Prop} {W : WX} (h0 : δ[0]? = some (.d (.sc (.ref f)))) (hco : B.h c' = some (LamX.CodeO c' q))
    (htl : ∀ N1 H1, Stp B.n B.h N1 H1 → ∀ (E : XK) (Q1 : VK), (∀ v N2 H2 d, Stp N1 H1 N2 H2 → DV K N2 v d → k d → Q1 v H2) → (∀ cls d N2 H2 x, Stp N1 H1 N2 H2 → XV K N2 cls d x → kx x → E cls d H2) → tl E H1 Q1) (hE : TkX K Γ B (WE W) δ kx) :
    EvC K Γ B (fun σZ HZ Q => σZ[0]? = some (some (.ref f)) ∧ HZ c' = some (LamX.CodeO c' q) ∧ tl (WE W σZ) HZ Q) δ k := fun N H σ g r Q q => by
  obtain ⟨v, e, dv⟩ := r.d 0 _ h0
  cases dv
  exact ⟨e, r.stp.h _ _ hco, htl N H r.stp _ Q q fun cls d N2 H2 x s xv hk => hE N2 H2 σ cls d x (g.ex s.n) (r.step s) xv hk⟩
end
/-! ### the start of a law that makes lambdas -/
def spLawL (K : PySem.W.Frag) (Ps : List Addr) (P : Addr) : Sp := fun vs H Q _ => ∃ (a : Addr) (ns : List Int), vs = [.ref a] ∧ SqL K H a (ns.map V.int) ∧ Sq.Tabs Ps H ∧ H P = some (.tbl #[]) ∧ P ∉ Ps ∧ ∀ H', (∀ b o, b ≠ P → H b = some o → H' b = some o) → Q (.bl true) H'
theorem run_lawL {K : PySem.W.Frag} {Γ : Fx} {G H : Hp} {P : Addr} {q : Str} {σ : L2.St} {δ : Ls} {t : TS} {Q : VK} (hG : Ex H G) (hr : Rel K (lawB P q G) (less P G) G σ δ) (hg : Has Γ (less P G)) (q0 : ∀ H2, (∀ b o, b ≠ P → H b = some o → H2 b = some o) → Q (.bl true) H2) (h : Sat K Γ (lawB P q G) t (gC fun d => d = Bo true) δ) : t { nx := fun _ H' => Q .non H', rt := Q } σ G := by
  refine h _ (less P G) ⟨fun N1 H1 σ δ hg r p => (nomatch p), fun N1 H1 v d hg s dv p => ?_, fun N1 H1 p xs ds hg s hB hn hh dv po => (nomatch po), fun _ _ _ _ _ _ z => z.elim, fun _ _ _ _ _ _ z => z.elim⟩ (less P G) G σ ⟨hg, Ex.refl _⟩ hr
  have p : d = Bo true := p
  subst p
  cases dv
  exact q0 H1 fun b o hb ho => s.h b o ((less_ne hb).trans (hG b o ho))
theorem rel_rowL {K : PySem.W.Frag} {G : Hp} {P : Addr} {q : Str} {a r : Addr} {n : Nat} (hT : G P = some (.tbl #[])) (hrow : RowAt K (less P G) r) : Rel K (lawB P q G) (less P G) G (some (.ref a) :: some (.ref r) :: List.replicate n none) (.no :: .d .row :: List.replicate n .no) := by
  have hl : Ex (less P G) G := fun b o h => (less_at h).2
  have r0 := rel_row (K := K) (a := a) (n := n) hrow
  exact ⟨⟨Ex.refl _, hl, hl, fun _ h h' => absurd h h'⟩, trivial, r0.len, r0.d, fun i ds h => (by
    match i with
    | 0 => cases h
    | 1 => cases h
    | i + 2 =>
      have h : (List.replicate n Sl.no)[i]? = some (.own ds) := h
      rw [List.getElem?_replicate] at h
      split at h <;> cases h), r0.ne, tabN_nil less_same hT⟩
end Dv

/-! lists counted; dicts of the module with whole numbers as keys; calls with keywords; classes of exceptions -/
namespace Dv
open PySem PySem.Spec PyProof.Rows L2 Evl Sq
/-! ### list.count, flat items -/
def rCntF (K : PySem.W.Frag) : V → List V → Hp → VK → Prop := fun x xs H Q => ∃ (a : Addr) (ys : List V) (y : V), x = .ref a ∧ xs = [y] ∧ SqL K H a ys ∧ flatV y = true ∧ ys.all flatV = true ∧ Q (.int (ys.countP (fun z => eqV z y) : Nat)) H
theorem count_flat {y : V} : ∀ {ys : List V} {us : List Value}, Vals ys us → ys.all flatV = true → us.countP (eqU y) = ys.countP (fun z => eqV z y)
  | [], _, .nil, _ => rfl
  | z :: ys, u :: us, .cons r t, f => by
    rw [List.all_cons, Bool.and_eq_true] at f
    rw [List.countP_cons, List.countP_cons, count_flat t f.2, eqU_of r f.1]
theorem mt_countF {X : Cx} : MtR X "list.count" (rCntF X.K) := by
  rintro pins s σ H x xs v us Q I rx rxs ⟨a, ys, y, rfl, rfl, hs, fy, fys, q⟩
  cases rx
  obtain ⟨u, rfl, ru⟩ := rxs.one
  obtain ⟨its, rv, ⟨⟨cl, dd, da, sl⟩, n, ho, hc, _, hd⟩, _⟩ := I.list hs
  dsimp only at hc hd
  subst hc hd
  have at_ : ∀ z, z ∈ its.toArray → SeqAt.EqAt X.A.in1 s z u (eqU y z) := fun z hz => mem_eqAt ru fy rv fys z (by simpa using hz)
  have en : its.toArray.toList.countP (eqU y) = ys.countP (fun z => eqV z y) := count_flat rv fys
  exact call_meets PySem.F.slot_list_count ⟨_, ho, rfl⟩ PySem.F.entry_list_count (PySem.F.args_list_count_2 _ _) (SeqAt.list_countAt a its.toArray n dd sl u (eqU y)) ⟨ho, at_, .int (ys.countP (fun z => eqV z y) : Nat), H, I.tok _, ⟨_, by rw [en]⟩, q⟩
section
variable {K : PySem.W.Frag} {Γ : Fx} {B : Bs} {δ : Ls} {k : D → Prop} {i : Nat}
theorem flat_bools : ∀ (bs : List Bool), (bs.map V.bl).all flatV = true
  | [] => rfl
  | b :: bs => by rw [List.map_cons, List.all_cons, flat_bools bs]; rfl
theorem ec_cntB {bs : List Bool} (h : δ[i]? = some (.d (.lst (bs.map Bo)))) (hk : k (I ((bs.map V.bl).countP (fun z => eqV z (.bl true)) : Nat))) : EvC K Γ B (tBM K "list" (rCntF K) (tVar i) (tCons (tC (.bl true)) tNil)) δ k := fun N H σ g r Q q => by
  obtain ⟨v, e, dv⟩ := r.d i _ h
  cases dv with
  | lst h1 h2 =>
    rename_i a xs
    have z : bs.map Bo = (bs.map V.bl).map D.sc := by rw [List.map_map]; rfl
    rw [z] at h2
    have := h2.scs
    subst this
    have hs : SqL K H a (bs.map V.bl) := sq_of (r.stp.s _ _ h1)
    exact ⟨_, e, .inl ⟨rfl, _, hs⟩, a, _, _, rfl, rfl, hs, rfl, flat_bools bs, q _ N H _ (Stp.refl r.stp.s) .sc hk⟩
theorem ec_idxB {bs : List Bool} {j : Nat} (h : δ[i]? = some (.d (.lst (bs.map Bo)))) (hj : bs[j]? = some true) (hn : ∀ m, m < j → bs[m]? = some false) (hk : k (I (j : Nat))) : EvC K Γ B (tBM K "list" (rIndex K) (tVar i) (tCons (tC (.bl true)) tNil)) δ k := fun N H σ g r Q q => by
  obtain ⟨v, e, dv⟩ := r.d i _ h
  cases dv with
  | lst h1 h2 =>
    rename_i a xs
    have z : bs.map Bo = (bs.map V.bl).map D.sc := by rw [List.map_map]; rfl
    rw [z] at h2
    have := h2.scs
    subst this
    have hs : SqL K H a (bs.map V.bl) := sq_of (r.stp.s _ _ h1)
    exact ⟨_, e, .inl ⟨rfl, _, hs⟩, a, _, _, j, .bl true, rfl, rfl, hs, rfl, flat_bools bs, by rw [List.getElem?_map, hj]; rfl, rfl, fun m z hm hz => by
      rw [List.getElem?_map, hn m hm] at hz
      cases hz
      rfl, q _ N H _ (Stp.refl r.stp.s) .sc hk⟩
end
/-! ### a dict of the module, whole numbers as keys -/
def KDI (K : PySem.W.Frag) (a : Addr) (x z : Int) : Prop := ∃ es n t, K.lookup a = some ⟨.type "dict", none, .dict es n, #[]⟩ ∧ (∀ e ∈ es.toList, ∃ k t, e.key = .int k t ∧ e.hash = hashInt k) ∧ findBy Value.isInt es x = some (.int z t)
def rIxI (K : PySem.W.Frag) : R2 := fun x y H Q => ∃ (p : Addr) (n z : Int), x = .ref p ∧ y = .int n ∧ KDI K p n z ∧ Q (.int z) H
theorem ix_kdi {X : Cx} : IxR X (rIxI X.K) := by
  rintro value slice pins s σ H x y v u Q I rx ry ⟨p, n, z, rfl, rfl, ⟨es, m, tz, hl, hk, hf⟩, q⟩ hs
  obtain rfl : v = Value.ref p := rx
  obtain ⟨t, rfl⟩ := ry
  have mp : s.heap.MapOf (intKind X.prog X.w) p (fun k => findBy Value.isInt es k) := ⟨_, es, m, I.kIn _ _ hl, ⟨rfl, rfl, rfl⟩, rfl, fun e he => by
    obtain ⟨k, t', e1, e2⟩ := hk e (Array.mem_toList_iff.mpr he)
    exact ⟨k, by rw [e1]; exact intKind_is X.prog X.w k t', e2⟩, fun _ => rfl⟩
  exact tail_any mp.typeIs slot_dict_getitem.lookup (wpAny_getItem_of (intKind_is X.prog X.w n t) mp hf ⟨.int z, H, I.tok _, ⟨tz, rfl⟩, q⟩) hs
theorem oc_ixI {K : PySem.W.Frag} {a : Addr} {n z : Int} {k : D → Prop} (h : KDI K a n z) (hk : k (I z)) : OpC K (rIxI K) (.sc (.ref a)) (I n) k := fun N H v w e dv dw Q q => by
  cases dv; cases dw
  exact ⟨a, n, z, rfl, rfl, h, q _ N H _ (Stp.refl e) .sc hk⟩
def kdiB (K : PySem.W.Frag) (a : Addr) (kvs : List (Int × Int)) : Bool := match K.lookup a with
  | some ⟨.type c, none, .dict es _, sl⟩ => decide (c = "dict") && (sl.isEmpty && (es.toList.all (fun e => match e.key with
    | .int k _ => decide (e.hash = hashInt k)
    | _ => false) && kvs.all fun kv => match findBy Value.isInt es kv.1 with
    | some (.int z _) => decide (z = kv.2)
    | _ => false))
  | _ => false
theorem kdiB_ok {K : PySem.W.Frag} {a : Addr} {kvs : List (Int × Int)} (h : kdiB K a kvs = true) : ∀ kv ∈ kvs, KDI K a kv.1 kv.2 := by
  intro kv hkv
  unfold kdiB at h
  split at h
  · rename_i c es n sl hl
    simp only [Bool.and_eq_true, decide_eq_true_eq, List.all_eq_true] at h
    obtain ⟨rfl, h2, h3, h4⟩ := h
    have hsl : sl = #[] := Array.isEmpty_iff.mp h2
    subst hsl
    have h5 := h4 kv hkv
    split at h5
    · rename_i z t hz
      have := of_decide_eq_true h5
      subst this
      refine ⟨es, n, t, hl, fun e he => ?_, hz⟩
      have h6 := h3 e he
      split at h6
      · rename_i k t' hk
        exact ⟨k, t', hk, of_decide_eq_true h6⟩
      · cases h6
    · cases h5
  · cases h
/-! ### calls with keywords -/
section
variable {K : PySem.W.Frag} {Γ Γ' : Fx} {B : Bs} {δ : Ls} {tA tK : TA} {k : D → Prop} {kx : XD → Prop} {S : List D → (D → Prop) → (XD → Prop) → Prop} {E : XK} {n m : Nat} {dvs : List V}
theorem ec_callKw (h : EvAC K Γ B tA δ fun ds => EvAC K Γ B tK δ fun es => ds.length = n ∧ es.length = m ∧ S (ds ++ es) k kx) (hE : TkX K Γ B (fun _ => E) δ kx) (hs : ∀ p ∈ Γ', p ∈ Γ := by simp) : EvC K Γ B (tCallN n m (spX K Γ' S) (fun vs zs => vs ++ zs) E tA tK) δ k := fun N H σ g r Q q => h N H σ g r _ fun vs N1 H1 ds s1 dv h2 => h2 N1 H1 σ (g.ex s1.n) (r.step s1) _ fun zs N2 H2 es s2 dz ⟨l1, l2, hp⟩ =>
  ⟨by rw [dv.len]; exact l1, by rw [dz.len]; exact l2, N2, ds ++ es, k, kx, s2.s, (g.ex (s1.trans s2).n).sub hs, (dv.ex s2.n).app dz, hp, fun v N3 H3 d s3 dv3 hpo => q v N3 H3 d ((s1.trans s2).trans s3) dv3 hpo, fun cls d N3 H3 x s3 xv hk => hE N3 H3 σ cls d x (g.ex ((s1.trans s2).trans s3).n) (r.step ((s1.trans s2).trans s3)) xv hk⟩
/-- with defaults; known not to raise -/
theorem ec_callDf (h : EvAC K Γ B tA δ fun ds => S (ds ++ dvs.map .sc) k fun _ => False) (hs : ∀ p ∈ Γ', p ∈ Γ := by simp) : EvC K Γ B (tCall (spX K Γ' S) dvs E tA) δ k := fun N H σ g r Q q => h N H σ g r _ fun vs N1 H1 ds s1 dv hp =>
  ⟨N1, _, k, _, s1.s, (g.ex s1.n).sub hs, dv.app (DVs.ofSc dvs), hp, fun v N2 H2 d s2 dv2 hpo => q v N2 H2 d (s1.trans s2) dv2 hpo, fun cls d N2 H2 x s2 xv hk => hk.elim⟩
theorem tkx_false {E : L2.St → XK} : TkX K Γ B E δ fun _ => False := fun N H σ cls d x _ _ _ z => z.elim
end
/-! ### classes of exceptions, by one Bool -/
def exkB (K : PySem.W.Frag) (C : Addr) : Bool := (PySem.W.clsIn K C).isSome && (He.eqO (PySem.W.findIn K (.ref C) "__getattribute__") (some (some (.builtin "BaseException.__getattribute__"))) && (He.eqO (PySem.W.findIn K (.ref C) "__getattr__") (some none) && (decide (PySem.W.subIn K (.ref C) (.type "BaseException") = some true) &&
  (He.eqO (PySem.W.findIn K (.ref C) "__class__") (some (some (.builtin "object.__class__"))) && (He.eqO (PySem.W.specialIn K (.builtin "object.__class__") "__get__") (some (some (.builtin "getset_descriptor.__get__"))) && (decide (PySem.W.takesIn K (.builtin "object.__class__") = some true) && decide (PySem.W.mroIn K C (.type "object") = some true)))))))
theorem exkB_ok {K : PySem.W.Frag} {C : Addr} (h : exkB K C = true) : ExK K C := by
  obtain ⟨h1, h⟩ := He.ba h
  obtain ⟨h2, h⟩ := He.ba h
  obtain ⟨h3, h⟩ := He.ba h
  obtain ⟨h4, h⟩ := He.ba h
  obtain ⟨h5, h⟩ := He.ba h
  obtain ⟨h6, h⟩ := He.ba h
  obtain ⟨h7, h8⟩ := He.ba h
  exact ⟨h1, He.eqO_ok h2, He.eqO_ok h3, of_decide_eq_true h4, He.eqO_ok h5, He.eqO_ok h6, of_decide_eq_true h7, of_decide_eq_true h8⟩
/-- isinstance(e, T), T built in -/
theorem ec_isXT {K : PySem.W.Frag} {Γ : Fx} {B : Bs} {δ : Ls} {tA : TA} {k : D → Prop} {a : Addr} {T : String} {cls : Value} {d : Option Addr} {x : XD} {b : Bool} (X : ExK K x.1) (hx : ∀ N, B.lo N → XV K N cls d x) (hb : PySem.W.kitOne K (.ref x.1) (.type T) = some b) (h : EvAC K Γ B tA δ fun ds => ds = [.sc (.ref a), .sc (.ty T)] ∧ k (Bo b)) : EvC K Γ B (tCB (rIsX K a cls d) tA) δ k := fun N H σ hg r Q q => h N H σ hg r _ fun vs N1 H1 ds s1 dv ⟨e, hk⟩ => by
  subst e
  cases dv with
  | cons d1 d2 =>
    cases d2 with
    | cons d2 d3 =>
      cases d3
      cases d1
      cases d2
      have xv := hx N1 (B.up s1.n r.lo)
      have hd : d = none ∨ ∃ (dd : Addr) (fs : List (Str × V)), d = some dd ∧ H1 dd = some (.xd fs) := by
        cases xv with
        | none => exact .inl rfl
        | some h0 _ _ => exact .inr ⟨_, _, rfl, s1.s _ _ h0⟩
      have hcls : cls = .ref x.1 := by cases xv <;> rfl
      exact ⟨x.1, _, .type T, b, hcls, X, rfl, fun u hu => hu, hb, hd, q _ N1 H1 _ s1 .sc hk⟩
end Dv

/-! defs that raise, by name; defs with a keyword; the law's tables -/
namespace Dv
open PySem PySem.Spec PyProof.Rows L2 Evl Sq
structure DfnX (P : Program) (w : World) (K : PySem.W.Frag) (mg : Str → Option Value) (base : Heap) (k : Nat) (x : Str) (ps : List Str) (sp : Sp) : Prop where
  ex : ∃ f fd, FnOk P w K mg base (L2.CX P w) k f fd ps sp ∧ mg x = some (.ref f) ∧ PySem.W.keepIn K (.ref f) = true ∧ Binds K fd ps []
theorem DfnX.mk' {P : Program} {w : World} {K : PySem.W.Frag} {mg : Str → Option Value} {base : Heap} {k : Nat} {x : Str} {ps : List Str} {sp : Sp} {f : Addr} {fd : FuncData}
    (F : FnOk P w K mg base (L2.CX P w) k f fd ps sp) (g : mg x = some (.ref f)) (kp : PySem.W.keepIn K (.ref f) = true) (b : Binds K fd ps []) : DfnX P w K mg base k x ps sp := ⟨f, fd, F, g, kp, b⟩
/-- one keyword ks with the default dvs, behind n positional ones -/
structure DfnKw (P : Program) (w : World) (K : PySem.W.Frag) (mg : Str → Option Value) (base : Heap) (k : Nat) (x : Str) (ps : List Str) (n : Nat) (ks : List Str) (dvs : List V) (sp : Sp) : Prop where
  ex : ∃ f fd ds, FnOk P w K mg base (L2.CX P w) k f fd ps sp ∧ mg x = some (.ref f) ∧ PySem.W.keepIn K (.ref f) = true ∧ Vals dvs ds ∧ Binds K fd ps ds ∧ KBn K fd ps n ks (fun us ws => us ++ ws) (fun vs zs => vs ++ zs)
section
variable {X : Cx} {k j n : Nat} {x : Str} {ps ks : List Str} {dvs : List V} {sp : Sp} {p pos : Pos} {e : Expr} {es : List Expr} {kws : List Keyword} {t tk : TA} {W : WX}
theorem pe_callDX (D : DfnX X.prog X.w X.K X.mg X.base k x ps sp) (hr : Room j X.A) (hk : k ≤ j) (hg : Gl X x) (tkx : Takes X W) (ha : PA X (e :: es) t) (hdb : (x == ("__debug__" : Str)) = false := by decide)
    (he : starEach (e :: es) X.env = (false, eval e X.env) :: starEach es X.env := by rfl) (hpl : (backTo pos (starEach es X.env)).any (·.1) = false := by rfl) : PE X (.Call (.Name x p) (e :: es) [] pos) (tCallS sp (WE W) t) := by
  obtain ⟨f, fd, F, g, kp, b⟩ := D.ex
  exact pe_callS F (hr.mono hk) hg g kp b (fun σ => passAt tkx σ) ha hdb he hpl
theorem pe_callDK {E : XK} (D : DfnKw X.prog X.w X.K X.mg X.base k x ps n ks dvs sp) (hr : Room j X.A) (hk : k ≤ j) (hg : Gl X x) (tkx : Takes X (fun cls d _ H => E cls d H)) (ha : PA X (e :: es) t) (hkw : PK X kws tk) (hall : (backToKw pos (keywordEach kws X.env)).all (·.1.isSome) = true := by rfl) (hks : (backToKw pos (keywordEach kws X.env)).filterMap (·.1) = ks := by rfl)
    (hdb : (x == ("__debug__" : Str)) = false := by decide) (he : starEach (e :: es) X.env = (false, eval e X.env) :: starEach es X.env := by rfl)
    (hpl : ((backTo pos (starEach (e :: es) X.env)).any (·.1) || (backToKw pos (keywordEach kws X.env)).any (·.1.isNone)) = false := by rfl) : PE X (.Call (.Name x p) (e :: es) kws pos) (tCallN n ks.length sp (fun vs zs => vs ++ zs) E t tk) := by
  obtain ⟨f, fd, ds, F, g, kp, r, b, kb⟩ := D.ex
  exact pe_callN F (hr.mono hk) hg g kp kb (passes_call tkx fun _ _ _ _ h => h) ha hkw hall hks hdb he hpl
theorem pe_callDD (D : DfnKw X.prog X.w X.K X.mg X.base k x ps n ks dvs sp) (hr : Room j X.A) (hk : k ≤ j) (hg : Gl X x) (ha : PA X (e :: es) t) (hdb : (x == ("__debug__" : Str)) = false := by decide)
    (he : starEach (e :: es) X.env = (false, eval e X.env) :: starEach es X.env := by rfl) (hpl : (backTo pos (starEach es X.env)).any (·.1) = false := by rfl) : PE X (.Call (.Name x p) (e :: es) [] pos) (tCall sp dvs E0 t) := by
  obtain ⟨f, fd, ds, F, g, kp, r, b, kb⟩ := D.ex
  exact pe_call F (hr.mono hk) hg g kp b r passL ha hdb he hpl
end
/-- f(a, *, k=2): how it binds -/
theorem kbn_one {K : PySem.W.Frag} {fd : FuncData} {p1 p2 : Str} (h : ∀ (s : Shared) (u w : Value), BindsTo s fd ⟨[u], [(p2, w)]⟩ [(p1, u), (p2, w)]) : KBn K fd [p1, p2] 1 [p2] (fun us ws => us ++ ws) (fun vs zs => vs ++ zs) := by
  refine ⟨fun s us ws _ l1 l2 => ?_, fun r1 r2 => r1.append r2⟩
  match us, ws, l1, l2 with
  | [u], [w], _, _ => exact h s u w
theorem law_tabsL {P : Program} {w : World} {K : PySem.W.Frag} {mg : Str → Option Value} {base : Heap} {k : Nat} {f : Addr} {fd : FuncData} {x : Str} {Ps : List Addr} {p : Addr} (hp : p ∉ Ps) (F : FnOk P w K mg base CX0 k f fd [x] (spLawL K Ps p)) : FnOk P w K mg base CX0 k f fd [x] (spLawB K (p :: Ps)) := by
  refine fn_tabs (Ps := Ps) F (fun vs H Q E ⟨a, ns, e, _⟩ => by rw [e]; rfl) fun vs H Q E ⟨a, ns, e, hS, hT, q⟩ => ⟨fun b hb => hT b (List.mem_cons_of_mem _ hb), a, ns, e, ?_, fun b hb => withT_in hb, by rw [withT_out hp]; exact hT p List.mem_cons_self, hp, fun H' e' => ⟨fun b hb => e' b _ (fun z => hp (by rw [← z]; exact hb)) (withT_in hb), q⟩⟩
  have hT2 := fun b (hb : b ∈ Ps) => hT b (List.mem_cons_of_mem _ hb)
  rcases hS with (h | ⟨o, h⟩) | h
  · exact .inl (.inl (by rw [withT_out (fun z => by rw [hT2 a z] at h; cases h)]; exact h))
  · exact .inl (.inr ⟨o, by rw [withT_out (fun z => by rw [hT2 a z] at h; cases h)]; exact h⟩)
  · exact .inr h
/-- what _law_raised makes of a lambda that raises at most C() -/
def S_raised0 (C : Addr) (word : Str) : (D → Prop) → (XD → Prop) → (D → Prop) → Prop := fun k kx ko => (∀ d, k d → ko Non) ∧ ∀ x, kx x → x = (C, []) ∧ ko (.tup [.sc (.str word)])
end Dv
namespace Dv
open PySem PySem.Spec PyProof.Rows L2 Evl Sq
def mkxB (K : PySem.W.Frag) (C : Addr) : Bool := PySem.W.excIn K C He.veBase "ValueError.__new__" && (PySem.W.keepIn K (.ref C) && (decide (PySem.W.subIn K (.ref C) (.type "BaseException") = some true) && decide (PySem.W.typeIn K (.ref C) = some (.type "type"))))
theorem mkxB_ok {K : PySem.W.Frag} {C : Addr} (h : mkxB K C = true) : PySem.W.excIn K C He.veBase "ValueError.__new__" = true ∧ PySem.W.keepIn K (.ref C) = true ∧ PySem.W.subIn K (.ref C) (.type "BaseException") = some true ∧ PySem.W.typeIn K (.ref C) = some (.type "type") := by
  obtain ⟨h1, h⟩ := He.ba h
  obtain ⟨h2, h⟩ := He.ba h
  obtain ⟨h3, h4⟩ := He.ba h
  exact ⟨h1, h2, of_decide_eq_true h3, of_decide_eq_true h4⟩
end Dv
namespace Dv
open PySem PySem.Spec PyProof.Rows L2 Evl Sq
/-- a method called, its reading by a K that is named -/
theorem pe_bmK {X : Cx} (K : PySem.W.Frag) {o e : Expr} {es : List Expr} {to : TE} {t : TA} {name : Str} {apos cpos : Pos} {T id : String} {r : V → List V → Hp → VK → Prop} (pa : PlainAttrs T) (slot : Slot T name id) (hty : typeOf (.builtin id) = pure (.type "method_descriptor")) (hm : MtR X id r) (ho : PE X o to) (ha : PA X (e :: es) t) (hK : X.K = K := by rfl)
    (h1 : attributeBase o name X.env (eval o X.env) = eval o X.env := by rfl)
    (h2 : ((backTo cpos (starEach (e :: es) X.env)).all (fun x => !x.1) && (backToKw cpos (keywordEach [] X.env)).all (fun x => x.1.isSome) && decide ((e :: es).length + ([] : List Keyword).length + (if ([] : List Keyword).isEmpty then 0 else 1) < 30)) = true := by rfl)
    (h3 : (apos.endLine == cpos.line) = true := by rfl) (h4 : starEach (e :: es) X.env = (false, eval e X.env) :: starEach es X.env := by rfl) (h5 : (backTo cpos (starEach es X.env)).any (·.1) = false := by rfl) :
    PE X (.Call (.Attribute o name apos) (e :: es) [] cpos) (tBM K T r to t) := by
  subst hK
  exact pe_bm pa slot hty hm ho ha h1 h2 h3 h4 h5
end Dv

/-! sheets as codes: the ways at a place, lists of codes as paths, least lengths -/
namespace Sh
open Dv
def cut {α : Type} (l : List α) (a w : Nat) : List α := (l.drop a).take w
def colIx (c : Nat) : Nat := if c = 46 then 0 else if c = 35 then 1 else 2
def Col (c : Nat) : Prop := c = 46 ∨ c = 35 ∨ c = 63
def runOk (l : List Nat) (a m c : Nat) : Prop := ∀ i < m, l[a + i]? = some c
def repOk (l : List Nat) (w a k : Nat) : Prop := a ≠ 0 ∧ a % w = 0 ∧ ∀ j < k, cut l (a + j * w) w = cut l (a - w) w
def RunW (l : List Nat) (a m code : Nat) : Prop := ∃ c, 1 ≤ m ∧ m ≤ 64 ∧ runOk l a m c ∧ code = 64 * colIx c + m - 1
/-- a code that may stand at a place, and the place behind its cells -/
def Way (l : List Nat) (w a code b : Nat) : Prop := (∃ m, RunW l a m code ∧ b = a + m) ∨ (∃ k, 1 ≤ k ∧ repOk l w a k ∧ code = 191 + k ∧ b = a + k * w)
inductive Path (l : List Nat) (w : Nat) : Nat → List Nat → Nat → Prop
  | nil {a : Nat} : Path l w a [] a
  | cons {a b c code : Nat} {cs : List Nat} : Way l w a code b → Path l w b cs c → Path l w a (code :: cs) c
def Least (l : List Nat) (w a m : Nat) : Prop := (∃ cs, Path l w a cs l.length ∧ cs.length = m) ∧ ∀ cs, Path l w a cs l.length → m ≤ cs.length
theorem cut_len {α : Type} {l : List α} {a w : Nat} : (cut l a w).length = min w (l.length - a) := by
  unfold cut
  rw [List.length_take, List.length_drop]
theorem mul_split {a w : Nat} (hw : 0 < w) (h : a ≠ 0) (h2 : a % w = 0) : w ≤ a := by
  have := Nat.div_add_mod a w
  rw [h2] at this
  have z0 : a / w ≠ 0 := fun z => by rw [z, Nat.mul_zero] at this; omega
  have z : 1 ≤ a / w := Nat.pos_of_ne_zero z0
  have y : w * 1 ≤ w * (a / w) := Nat.mul_le_mul_left w z
  omega
section
variable {l : List Nat} {w a b code : Nat}
theorem runOk.lt {m c : Nat} (h : runOk l a m c) (hm : 1 ≤ m) : a + m ≤ l.length := by
  have := (List.getElem?_eq_some_iff.mp (h (m - 1) (by omega))).1
  omega
theorem repOk.ge {k : Nat} (hw : 0 < w) (h : repOk l w a k) : w ≤ a := mul_split hw h.1 h.2.1
theorem repOk.lt {k : Nat} (hw : 0 < w) (ha : a ≤ l.length) (h : repOk l w a k) : ∀ j, j ≤ k → a + j * w ≤ l.length := by
  intro j
  induction j with
  | zero => intro _; omega
  | succ j ih =>
    intro hj
    have z := congrArg List.length (h.2.2 j (by omega))
    rw [cut_len, cut_len] at z
    have := h.ge hw
    have := ih (by omega)
    rw [Nat.succ_mul]
    omega
theorem Way.gt (hw : 0 < w) (h : Way l w a code b) : a < b := by
  rcases h with ⟨m, ⟨c, h1, _, _, _⟩, rfl⟩ | ⟨k, h1, _, _, rfl⟩
  · omega
  · have : 1 * w ≤ k * w := Nat.mul_le_mul_right w h1
    omega
theorem Way.le (hw : 0 < w) (ha : a ≤ l.length) (h : Way l w a code b) : b ≤ l.length := by
  rcases h with ⟨m, ⟨c, h1, _, h2, _⟩, rfl⟩ | ⟨k, h1, h2, _, rfl⟩
  · exact h2.lt h1
  · exact h2.lt hw ha k (Nat.le_refl _)
theorem Path.ge (hw : 0 < w) : ∀ {a : Nat} {cs : List Nat} {b : Nat}, Path l w a cs b → a ≤ b
  | _, _, _, .nil => Nat.le_refl _
  | _, _, _, .cons h p => Nat.le_trans (Nat.le_of_lt (h.gt hw)) (p.ge hw)
theorem Path.app : ∀ {a : Nat} {cs : List Nat} {b : Nat}, Path l w a cs b → ∀ {ds : List Nat} {c : Nat}, Path l w b ds c → Path l w a (cs ++ ds) c
  | _, _, _, .nil, _, _, q => q
  | _, _, _, .cons h p, _, _, q => .cons h (p.app q)
theorem Path.one (h : Way l w a code b) : Path l w a [code] b := .cons h .nil
/-! ### within a longer one, behind another -/
theorem cut_left {l1 l2 : List Nat} {a w : Nat} (h : a + w ≤ l1.length) : cut (l1 ++ l2) a w = cut l1 a w := by
  unfold cut
  rw [List.drop_append_of_le_length (by omega), List.take_append_of_le_length (by rw [List.length_drop]; omega)]
theorem cut_right {l1 l2 : List Nat} {a w : Nat} : cut (l1 ++ l2) (l1.length + a) w = cut l2 a w := by
  unfold cut
  rw [← List.drop_drop, List.drop_left]
theorem Way.left {l1 l2 : List Nat} (hw : 0 < w) (ha : a ≤ l1.length) (h : Way l1 w a code b) : Way (l1 ++ l2) w a code b := by
  rcases h with ⟨m, ⟨c, h1, h2, h3, h4⟩, rfl⟩ | ⟨k, h1, h2, h3, rfl⟩
  · refine .inl ⟨m, ⟨c, h1, h2, fun i hi => ?_, h4⟩, rfl⟩
    have := h3 i hi
    rw [List.getElem?_append_left (List.getElem?_eq_some_iff.mp this).1]
    exact this
  · refine .inr ⟨k, h1, ⟨h2.1, h2.2.1, fun j hj => ?_⟩, h3, rfl⟩
    have e1 := h2.lt hw ha (j + 1) (by omega)
    rw [Nat.succ_mul] at e1
    have e2 := h2.ge hw
    rw [cut_left (by omega), cut_left (by omega)]
    exact h2.2.2 j hj
theorem Path.left {l1 l2 : List Nat} (hw : 0 < w) : ∀ {a : Nat} {cs : List Nat} {b : Nat}, a ≤ l1.length → Path l1 w a cs b → Path (l1 ++ l2) w a cs b
  | _, _, _, _, .nil => .nil
  | _, _, _, ha, .cons h p => .cons (h.left hw ha) (p.left hw (h.le hw ha))
theorem Way.right {l1 l2 : List Nat} (hw : 0 < w) (hd : l1.length % w = 0) (h : Way l2 w a code b) : Way (l1 ++ l2) w (l1.length + a) code (l1.length + b) := by
  rcases h with ⟨m, ⟨c, h1, h2, h3, h4⟩, rfl⟩ | ⟨k, h1, h2, h3, rfl⟩
  · refine .inl ⟨m, ⟨c, h1, h2, fun i hi => ?_, h4⟩, by omega⟩
    rw [List.getElem?_append_right (by omega), show l1.length + a + i - l1.length = a + i by omega]
    exact h3 i hi
  · refine .inr ⟨k, h1, ⟨fun z => h2.1 (by omega), by rw [Nat.add_mod, hd, h2.2.1]; simp, fun j hj => ?_⟩, h3, by omega⟩
    have e2 := h2.ge hw
    rw [show l1.length + a + j * w = l1.length + (a + j * w) by omega, show l1.length + a - w = l1.length + (a - w) by omega, cut_right, cut_right]
    exact h2.2.2 j hj
theorem Path.right {l1 l2 : List Nat} (hw : 0 < w) (hd : l1.length % w = 0) : ∀ {a : Nat} {cs : List Nat} {b : Nat}, Path l2 w a cs b → Path (l1 ++ l2) w (l1.length + a) cs (l1.length + b)
  | _, _, _, .nil => .nil
  | _, _, _, .cons h p => .cons (h.right hw hd) (p.right hw hd)
/-! ### the first rows alone -/
theorem cut_take {l : List Nat} {a w p : Nat} (h : a + w ≤ p) : cut (l.take p) a w = cut l a w := by
  unfold cut
  rw [List.drop_take, List.take_take, Nat.min_eq_left (by omega)]
theorem Way.trunc {p : Nat} (hw : 0 < w) (hp : p ≤ l.length) (hd : p % w = 0) (ha : a < p) (h : Way l w a code b) : ∃ code', Way (l.take p) w a code' (min b p) := by
  rcases h with ⟨m, ⟨c, h1, h2, h3, h4⟩, rfl⟩ | ⟨k, h1, h2, h3, rfl⟩
  · by_cases hb : a + m ≤ p
    · refine ⟨code, .inl ⟨m, ⟨c, h1, h2, fun i hi => ?_, h4⟩, by omega⟩⟩
      rw [List.getElem?_take_of_lt (by omega)]
      exact h3 i hi
    · refine ⟨_, .inl ⟨p - a, ⟨c, by omega, by omega, fun i hi => ?_, rfl⟩, by omega⟩⟩
      rw [List.getElem?_take_of_lt (by omega)]
      exact h3 i (by omega)
  · have e2 := h2.ge hw
    obtain ⟨x, rfl⟩ : ∃ x, a = x * w := ⟨a / w, by have := Nat.div_add_mod a w; rw [h2.2.1, Nat.mul_comm] at this; omega⟩
    obtain ⟨y, rfl⟩ : ∃ y, p = y * w := ⟨p / w, by have := Nat.div_add_mod p w; rw [hd, Nat.mul_comm] at this; omega⟩
    have hxy : x < y := Nat.lt_of_mul_lt_mul_right ha
    by_cases hb : x + k ≤ y
    · have hb2 : (x + k) * w ≤ y * w := Nat.mul_le_mul_right w hb
      rw [Nat.add_mul] at hb2
      refine ⟨_, .inr ⟨k, h1, ⟨h2.1, h2.2.1, fun j hj => ?_⟩, rfl, by omega⟩⟩
      have e3 : (j + 1) * w ≤ k * w := Nat.mul_le_mul_right w hj
      rw [Nat.succ_mul] at e3
      rw [cut_take (by omega), cut_take (by omega)]
      exact h2.2.2 j hj
    · have hb2 : y * w ≤ (x + k) * w := Nat.mul_le_mul_right w (by omega)
      have hb3 : y * w = x * w + (y - x) * w := by rw [← Nat.add_mul]; congr 1; omega
      rw [Nat.add_mul] at hb2
      refine ⟨_, .inr ⟨y - x, by omega, ⟨h2.1, h2.2.1, fun j hj => ?_⟩, rfl, by omega⟩⟩
      have e3 : (j + 1) * w ≤ (y - x) * w := Nat.mul_le_mul_right w hj
      rw [Nat.succ_mul] at e3
      rw [cut_take (by omega), cut_take (by omega)]
      exact h2.2.2 j (by omega)
theorem Path.trunc {p : Nat} (hw : 0 < w) (hp : p ≤ l.length) (hd : p % w = 0) : ∀ {a : Nat} {cs : List Nat} {b : Nat}, Path l w a cs b → a ≤ p → p ≤ b → ∃ cs', Path (l.take p) w a cs' p ∧ cs'.length ≤ cs.length
  | a, _, _, .nil, h1, h2 => ⟨[], by have : a = p := by omega
                                     subst this
                                     exact .nil, Nat.le_refl _⟩
  | a, _, c, .cons (b := b) (cs := cs) h q, h1, h2 => by
    by_cases he : a = p
    · subst he
      exact ⟨[], .nil, Nat.zero_le _⟩
    · obtain ⟨code', hw'⟩ := h.trunc hw hp hd (by omega)
      by_cases hb : b ≤ p
      · rw [Nat.min_eq_left hb] at hw'
        obtain ⟨cs', p1, p2⟩ := q.trunc hw hp hd hb h2
        exact ⟨_, .cons hw' p1, Nat.succ_le_succ p2⟩
      · rw [Nat.min_eq_right (by omega)] at hw'
        exact ⟨_, .one hw', by rw [List.length_cons, List.length_cons]; exact Nat.succ_le_succ (Nat.zero_le _)⟩
/-! ### other colors -/
theorem Way.map (f : Nat → Nat) (h : Way l w a code b) : ∃ code', Way (l.map f) w a code' b := by
  rcases h with ⟨m, ⟨c, h1, h2, h3, h4⟩, rfl⟩ | ⟨k, h1, h2, h3, rfl⟩
  · refine ⟨_, .inl ⟨m, ⟨f c, h1, h2, fun i hi => ?_, rfl⟩, rfl⟩⟩
    rw [List.getElem?_map, h3 i hi]
    rfl
  · refine ⟨_, .inr ⟨k, h1, ⟨h2.1, h2.2.1, fun j hj => ?_⟩, rfl, rfl⟩⟩
    have := congrArg (List.map f) (h2.2.2 j hj)
    unfold cut at this ⊢
    rw [← List.map_drop, ← List.map_take, ← List.map_drop, ← List.map_take]
    exact this
theorem Path.map (f : Nat → Nat) : ∀ {a : Nat} {cs : List Nat} {b : Nat}, Path l w a cs b → ∃ cs', Path (l.map f) w a cs' b ∧ cs'.length = cs.length
  | _, _, _, .nil => ⟨[], .nil, rfl⟩
  | _, _, _, .cons h p => by
    obtain ⟨c', h'⟩ := h.map f
    obtain ⟨cs', p', e⟩ := p.map f
    exact ⟨_, .cons h' p', congrArg (· + 1) e⟩
/-! ### the last row once more -/
theorem Path.again {l1 r : List Nat} {cs : List Nat} (hw : 0 < w) (hd : l1.length % w = 0) (h0 : l1 ≠ []) (hr : r = cut l1 (l1.length - w) w) (p : Path l1 w 0 cs l1.length) : Path (l1 ++ r) w 0 (cs ++ [192]) (l1 ++ r).length := by
  have hl : l1.length ≠ 0 := fun z => h0 (List.length_eq_zero_iff.mp z)
  have hge := mul_split hw hl hd
  have hrl : r.length = w := by rw [hr, cut_len]; omega
  have e : (l1 ++ r).length = l1.length + 1 * w := by rw [List.length_append, hrl]; omega
  rw [e]
  refine (p.left hw (Nat.zero_le _)).app (.one (.inr ⟨1, Nat.le_refl _, ⟨hl, hd, fun j hj => ?_⟩, rfl, rfl⟩))
  have : j = 0 := by omega
  subst this
  rw [Nat.zero_mul, show l1.length + 0 = l1.length + 0 from rfl, cut_right, cut_left (by omega), ← hr]
  unfold cut
  rw [List.drop_zero, ← hrl, List.take_length]
theorem Least.uniq {m m' : Nat} (h : Least l w a m) (h' : Least l w a m') : m = m' := by
  obtain ⟨⟨cs, p, rfl⟩, q⟩ := h
  obtain ⟨⟨cs', p', rfl⟩, q'⟩ := h'
  have := q _ p'
  have := q' _ p
  omega
theorem Way.byte (hw : 10 ≤ w) (hl : l.length ≤ 60 * w) (ha : a ≤ l.length) (h : Way l w a code b) : code ≤ 250 := by
  rcases h with ⟨m, ⟨c, h1, h2, h3, h4⟩, rfl⟩ | ⟨k, h1, h2, h3, rfl⟩
  · unfold colIx at h4
    split at h4
    · omega
    · split at h4 <;> omega
  · have := h2.lt (by omega) ha k (Nat.le_refl _)
    have e := h2.ge (by omega)
    have : k * w ≤ 59 * w := by omega
    have := Nat.le_of_mul_le_mul_right this (by omega)
    omega
theorem Path.codes (hw : 10 ≤ w) (hl : l.length ≤ 60 * w) : ∀ {a : Nat} {cs : List Nat} {b : Nat}, Path l w a cs b → a ≤ l.length → ∀ c ∈ cs, c ≤ 250
  | _, _, _, .nil, _, c, h => by cases h
  | _, _, _, .cons h p, ha, c, hc => by
    rcases List.mem_cons.mp hc with rfl | hc
    · exact h.byte hw hl ha
    · exact p.codes hw hl (h.le (by omega) ha) c hc
theorem Path.len (hw : 0 < w) : ∀ {a : Nat} {cs : List Nat} {b : Nat}, Path l w a cs b → cs.length + a ≤ b
  | _, _, _, .nil => by simp
  | _, _, _, .cons h p => by
    have := p.len hw
    have := h.gt hw
    rw [List.length_cons]
    omega
end
end Sh

/-! what the defs of sheets' bytes promise -/
namespace Dv
open PySem PySem.Spec PyProof.Rows L2 Evl Sq Sh
abbrev ShD (rows : List (List Nat)) : D := .tup (rows.map TxD)
abbrev prD (p : Nat × Nat) : D := .tup [I (p.1 : Int), I (p.2 : Int)]
structure LOk (L : List Nat) (r w : Nat) : Prop where
  r10 : 10 ≤ r
  r60 : r ≤ 60
  w10 : 10 ≤ w
  w60 : w ≤ 60
  len : L.length = r * w
  col : ∀ c ∈ L, Col c
structure ShOk (rows : List (List Nat)) (w : Nat) : Prop where
  r10 : 10 ≤ rows.length
  r60 : rows.length ≤ 60
  w10 : 10 ≤ w
  w60 : w ≤ 60
  len : ∀ r ∈ rows, r.length = w
  col : ∀ r ∈ rows, ∀ c ∈ r, Col c
theorem flat_len {rows : List (List Nat)} {w : Nat} (h : ∀ r ∈ rows, r.length = w) : rows.flatten.length = rows.length * w := by
  induction rows with
  | nil => simp
  | cons r rows ih =>
    rw [List.flatten_cons, List.length_append, h r List.mem_cons_self, ih fun x hx => h x (List.mem_cons_of_mem _ hx), List.length_cons, Nat.succ_mul]
    omega
theorem ShOk.flat {rows : List (List Nat)} {w : Nat} (h : ShOk rows w) : LOk rows.flatten rows.length w :=
  ⟨h.r10, h.r60, h.w10, h.w60, flat_len h.len, fun c hc => by
    obtain ⟨r, hr, hc⟩ := List.mem_flatten.mp hc
    exact h.col r hr c hc⟩
theorem LOk.le {L : List Nat} {r w : Nat} (h : LOk L r w) : L.length ≤ 3600 := by
  rw [h.len]
  exact Nat.le_trans (Nat.mul_le_mul h.r60 h.w60) (by decide)
theorem LOk.pos {L : List Nat} {r w : Nat} (h : LOk L r w) : 100 ≤ L.length := by
  rw [h.len]
  exact Nat.le_trans (by decide) (Nat.mul_le_mul h.r10 h.w10)
theorem ShOk.row {rows : List (List Nat)} {w : Nat} (h : ShOk rows w) {i : Nat} (hi : i < rows.length) : rows[i]? = some (cut rows.flatten (i * w) w) := by
  have gen : ∀ (rows : List (List Nat)), (∀ r ∈ rows, r.length = w) → ∀ i < rows.length, rows[i]? = some (cut rows.flatten (i * w) w) := by
    intro rows
    induction rows with
    | nil => intro _ i hi; exact absurd hi (by simp)
    | cons r rows ih =>
      intro hl i hi
      have hr := hl r List.mem_cons_self
      cases i with
      | zero =>
        rw [List.flatten_cons, Nat.zero_mul, cut_left (by omega)]
        unfold cut
        rw [List.drop_zero, ← hr, List.take_length]
        rfl
      | succ i =>
        rw [List.flatten_cons, show (i + 1) * w = r.length + i * w by rw [Nat.succ_mul, hr]; omega, cut_right, List.getElem?_cons_succ]
        exact ih (fun x hx => hl x (List.mem_cons_of_mem _ hx)) i (by simpa using hi)
  exact gen rows h.len i hi
def baseV (r w : Nat) (cs : List Nat) : List Int := (r : Int) :: (w : Int) :: cs.map fun (c : Nat) => (c : Int)
def encV (r w : Nat) (cs : List Nat) : List Int := baseV r w cs ++ [(baseV r w cs).sum % 251]
theorem base_len (r w : Nat) (cs : List Nat) : (baseV r w cs).length = cs.length + 2 := by
  unfold baseV
  rw [List.length_cons, List.length_cons, List.length_map]
theorem enc_len2 (r w : Nat) (cs : List Nat) : (encV r w cs).length = cs.length + 3 := by
  unfold encV
  rw [List.length_append, base_len]
  rfl
theorem enc_b8 {r w : Nat} {cs : List Nat} (hr : r ≤ 60) (hw : w ≤ 60) (h : ∀ c ∈ cs, c ≤ 250) : B8 (encV r w cs) := fun n hn => by
  unfold encV baseV at hn
  rcases List.mem_append.mp hn with hn | hn
  · rcases List.mem_cons.mp hn with rfl | hn
    · omega
    · rcases List.mem_cons.mp hn with rfl | hn
      · omega
      · obtain ⟨c, hc, rfl⟩ := List.mem_map.mp hn
        have := h c hc
        omega
  · rw [List.mem_singleton.mp hn]
    omega
theorem b8_take {ns : List Int} (h : B8 ns) (k : Nat) : B8 (ns.take k) := fun n hn => h n (List.mem_of_mem_take hn)
section
def H_size (ds : List D) (k : D → Prop) : Prop := ∃ i : Int, ds = [I i] ∧ k (Bo (decide (10 ≤ i) && decide (i ≤ 60)))
def H_isby (ds : List D) (k : D → Prop) : Prop := ∃ i : Int, ds = [I i] ∧ k (Bo (decide (0 ≤ i) && decide (i ≤ 255)))
def H_reqS (ds : List D) (k : D → Prop) : Prop := ∃ rows w, ds = [ShD rows] ∧ ShOk rows w ∧ k Non
def H_pack (ds : List D) (k : D → Prop) : Prop := ∃ ns : List Int, ds = [.lst (ns.map I)] ∧ B8 ns ∧ k (ByD ns)
def H_unpk (ds : List D) (k : List D → Prop) : Prop := ∃ ns : List Int, ds = [ByD ns] ∧ B8 ns ∧ ns.length ≤ 5000 ∧ k (ns.map I)
def H_encs (ds : List D) (k : D → Prop) : Prop := ∃ rows w, ds = [ShD rows] ∧ ShOk rows w ∧ ∀ cs, Path rows.flatten w 0 cs rows.flatten.length → Least rows.flatten w 0 cs.length → k (ByD (encV rows.length w cs))
def H_elen (ds : List D) (k : D → Prop) : Prop := ∃ rows w, ds = [ShD rows] ∧ ShOk rows w ∧ ∀ m, Least rows.flatten w 0 m → k (I ((m + 3 : Nat) : Int))
def H_decs (ds : List D) (k : D → Prop) : Prop := ∃ rows w cs, ds = [ByD (encV rows.length w cs)] ∧ ShOk rows w ∧ Path rows.flatten w 0 cs rows.flatten.length ∧ k (ShD rows)
def H_shct (ds : List D) (k : List D → Prop) : Prop := ∃ L r w, ds = [TxD L, I ((w : Nat) : Int)] ∧ LOk L r w ∧ ∀ cs : List Nat, Path L w 0 cs L.length → Least L w 0 cs.length → k (cs.map fun (c : Nat) => I (c : Int))
def H_cnts (ds : List D) (k : List D → Prop) : Prop := ∃ L r w, ds = [TxD L, I ((w : Nat) : Int)] ∧ LOk L r w ∧ ∀ ms : List Nat, ms.length = L.length + 1 → (∀ a m, ms[a]? = some m → Least L w a m) → k (ms.map fun (c : Nat) => I (c : Int))
def H_lway (ds : List D) (k : List D → Prop) : Prop := ∃ L r w a, ds = [TxD L, I ((w : Nat) : Int), I ((a : Nat) : Int)] ∧ LOk L r w ∧ a < L.length ∧ ∀ ps : List (Nat × Nat), (∀ c b, (c, b) ∈ ps ↔ Way L w a c b) → ps.length ≤ 200 → k (ps.map prD)
def H_runl (ds : List D) (k : D → Prop) : Prop := ∃ L a c, ds = [TxD L, I ((a : Nat) : Int)] ∧ L.length ≤ 3600 ∧ L[a]? = some c ∧ ∀ R : Nat, 1 ≤ R → R ≤ 64 → runOk L a R c → ¬ (R < 64 ∧ runOk L a (R + 1) c) → k (I (R : Int))
def H_reps (ds : List D) (k : D → Prop) : Prop := ∃ L r w a, ds = [TxD L, I ((w : Nat) : Int), I ((a : Nat) : Int)] ∧ LOk L r w ∧ a < L.length ∧ ∀ C : Nat, C ≤ 60 → (C = 0 ∨ repOk L w a C) → ¬ repOk L w a (C + 1) → k (I (C : Int))
def H_rbyt (ds : List D) (k : D → Prop) : Prop := ∃ (ns : List Int) (i : Nat) (n : Int), ds = [ByD ns, I (i : Int)] ∧ B8 ns ∧ ns.length ≤ 5000 ∧ ns[i]? = some n ∧ k (I n)
def H_rsiz (ds : List D) (k : D → Prop) : Prop := ∃ (ns : List Int) (i : Nat) (n : Int), ds = [ByD ns, I (i : Int)] ∧ B8 ns ∧ ns.length ≤ 5000 ∧ ns[i]? = some n ∧ 10 ≤ n ∧ n ≤ 60 ∧ k (I n)
def H_rcel (ds : List D) (k : D → Prop) : Prop := ∃ L r w cs, ds = [ByD (encV r w cs), I ((r : Nat) : Int), I ((w : Nat) : Int)] ∧ LOk L r w ∧ Path L w 0 cs L.length ∧ k (.tup [TxD L, I ((2 + cs.length : Nat) : Int)])
def H_rcod (ds : List D) (k : D → Prop) : Prop := ∃ L r w a code b, ds = [I ((code : Nat) : Int), TxD (L.take a), I ((w : Nat) : Int)] ∧ LOk L r w ∧ a ≤ L.length ∧ Way L w a code b ∧ k (TxD (cut L a (b - a)))
def H_lshe (ds : List D) (k : D → Prop) : Prop := ds = [.row] ∧ ∀ rows w, ShOk rows w → 20 ≤ rows.length → rows.length ≤ 31 → k (ShD rows)
def H_lrun (ds : List D) (k : List D → Prop) : Prop := ∃ L, ds = [TxD L] ∧ (∀ c ∈ L, Col c) ∧ 0 < L.length ∧ L.length ≤ 3600 ∧ ∀ cs : List Nat, (∀ w, Path L w 0 cs L.length) → k (cs.map fun (c : Nat) => I (c : Int))
end
/-! ### a byte -/
def isBy (v : V) : Bool := match v with
  | .int i => decide (0 ≤ i) && decide (i ≤ 255)
  | _ => false
def goodBy (v : V) (b : Bool) : Prop := flatK v = true ∧ b = isBy v
section
variable {P : Program} {w : World} {K : PySem.W.Frag} {mg : Str → Option Value} {base : Heap} {D U : Nat} {env : Env} {m : Str → Option Value} {y : V} {u : Value} {x : Str}
theorem raw_by {N : Nat} (R : RawFn1 P w K mg base "is_number" N goodNum) (hN : D + N < recursionLimit) (F : FnEnv env) (hx : env.kindOf "is_number" = some .globalImplicit) (hl : env.kindOf x = some .local) (hm : m x = some u) (hdx : (x == ("__debug__" : Str)) = false) (fl : flatK y = true) (r : RelV y u) {j1 j2} {p1 p2 p3 p4 p5 p6 p7 p8 : Pos} :
    RawE P w K mg base D U env m GT (.BoolOp .And [.Call (.Name "is_number" p1) [.Name x p2] [] p3, .Compare (.Constant (.int 0) j1 p4) [.LtE, .LtE] [.Name x p5, .Constant (.int 255) j2 p6] p7] p8) (fun v => v = .bool (isBy y)) := by
  have c1 := raw_callF (p1 := p1) (p2 := p2) (p3 := p3) (U := U) R hN (b := isNum y) ⟨fl, rfl⟩ r F hx hl hm (by decide) hdx
  cases y with
  | int i =>
    obtain ⟨t, q⟩ := (show ∃ t, u = Value.int i t from r)
    subst q
    exact raw_and (ka := true) (kb := decide (0 ≤ i) && decide (i ≤ 255)) gstT c1 (fun _ => raw_chain gstT raw_int (raw_imp (raw_loc F hl hm hdx) fun v hv => ⟨t, hv⟩) raw_int (by with_unfolding_all rfl))
  | non => exact raw_and (ka := false) (kb := false) gstT c1 (fun z => nomatch z)
  | bl b => exact raw_and (ka := false) (kb := false) gstT c1 (fun z => nomatch z)
  | str s => exact raw_and (ka := false) (kb := false) gstT c1 (fun z => nomatch z)
  | _ => cases fl
end
end Dv

/-! slices of texts, texts compared, lengths -/
namespace Dv
open PySem PySem.Spec PyProof.Rows L2 Evl Sq Sh
theorem txt_len (l : List Nat) : (txt l).length = l.length := by show l.toArray.size = _; simp
theorem txt_cp (l : List Nat) : (txt l).cps.toList = l := by show l.toArray.toList = _; simp
theorem txt_inj {a b : List Nat} (h : txt a = txt b) : a = b := by
  have := congrArg (fun s : Str => s.cps.toList) h
  simpa [txt_cp] using this
theorem str_dec {a b : List Nat} : decide (V.str (txt a) = V.str (txt b)) = decide (a = b) := decide_eq_decide.mpr ⟨fun z => txt_inj (by injection z), fun z => by rw [z]⟩
theorem cut_over {α : Type} {l : List α} {a w : Nat} (h : l.length ≤ a) : cut l a w = [] := by
  unfold cut
  rw [List.drop_eq_nil_of_le h, List.take_nil]
theorem cutL_of {l : List Nat} {lo hi : Int} {a b : Nat} (h1 : lo = a) (h2 : hi = b) : cutL l (some lo) (some hi) = cut l a (b - a) := by
  subst h1
  subst h2
  unfold cutL HT.sIx
  dsimp only
  rw [if_neg (by omega), if_neg (by omega), Int.toNat_natCast, Int.toNat_natCast]
  by_cases h : a < l.length
  · rw [Nat.min_eq_left (Nat.le_of_lt h)]
    unfold cut
    by_cases hb : b ≤ l.length
    · rw [Nat.min_eq_left hb]
    · have e2 : min b l.length = l.length := by omega
      rw [e2, List.take_of_length_le (by rw [List.length_drop]; exact Nat.le_refl _), List.take_of_length_le (by rw [List.length_drop]; omega)]
  · have e1 : min a l.length = l.length := by omega
    rw [e1, List.drop_length, List.take_nil, cut_over (by omega)]
theorem cutL_neg {l : List Nat} {lo : Int} {w : Nat} (h1 : lo = -(w : Int)) (h0 : 0 < w) (h : w ≤ l.length) : cutL l (some lo) none = cut l (l.length - w) w := by
  subst h1
  unfold cutL HT.sIx
  dsimp only
  rw [if_pos (by omega)]
  have e : (-(w : Int) + (l.length : Int)).toNat = l.length - w := by omega
  rw [e]
  unfold cut
  congr 1
  omega
theorem cutL_to {l : List Nat} {hi : Int} {b : Nat} (h2 : hi = b) : cutL l none (some hi) = l.take b := by
  subst h2
  unfold cutL HT.sIx
  dsimp only
  rw [if_neg (by omega), Int.toNat_natCast, List.drop_zero, Nat.sub_zero, List.take_eq_take_iff]
  omega
theorem cut1 {l : List Nat} {a c : Nat} : cut l a 1 = [c] ↔ l[a]? = some c := by
  unfold cut
  constructor
  · intro h
    have := congrArg (fun x => x[0]?) h
    simpa using this
  · intro h
    have hl := (List.getElem?_eq_some_iff.mp h).1
    rw [List.drop_eq_getElem_cons hl]
    obtain ⟨_, e⟩ := List.getElem?_eq_some_iff.mp h
    rw [e]
    simp
section
variable {K : PySem.W.Frag} {Γ : Fx} {k : D → Prop} {l : List Nat}
theorem cc_lenX (h : l.length ≤ 100000) (hk : k (I (l.length : Int))) : CbC K Γ rLenStr [TxD l] k := cc_lenS (s := txt l) (by rw [txt_len]; exact h) (by rw [txt_len]; exact hk)
theorem oc_ixX {a c : Nat} {i : Int} (hi : i = a) (h : l[a]? = some c) (hl : l.length ≤ 100000) (hk : k (TxD [c])) : OpC K rIxS (TxD l) (I i) k := by
  subst hi
  exact oc_ixS (s := txt l) (atI_nat (by rw [txt_cp]; exact h)) (by rw [txt_len]; exact hl) hk
theorem sc_slX {lo hi : Int} {a b : Nat} (h1 : lo = a) (h2 : hi = b) (hl : l.length ≤ 100000) (hk : k (TxD (cut l a (b - a)))) : SlC K rSlS (TxD l) (some lo) (some hi) k := sc_slS hl (by rw [cutL_of h1 h2]; exact hk)
theorem oc_eqX {a b : List Nat} (hk : k (Bo (decide (a = b)))) : OpC K rEq (TxD a) (TxD b) k := oc_eq rfl (by rw [str_dec]; exact hk)
theorem oc_neX {a b : List Nat} (hk : k (Bo (!decide (a = b)))) : OpC K rNe (TxD a) (TxD b) k := oc_ne rfl (by rw [str_dec]; exact hk)
theorem is_tup {ds : List D} (hk : k (Bo true)) : CbC K Γ (rIsi K) [.tup ds, .sc (.ty "tuple")] k := cc_isi (b := true) (show ("tuple" : String) ≠ "?" by decide) (show kitB "tuple" "tuple" = some true by decide +kernel) hk
theorem is_lst {ds : List D} (hk : k (Bo true)) : CbC K Γ (rIsi K) [.lst ds, .sc (.ty "list")] k := cc_isi (b := true) (show ("list" : String) ≠ "?" by decide) (show kitB "list" "list" = some true by decide +kernel) hk
theorem is_str {s : Str} (hk : k (Bo true)) : CbC K Γ (rIsi K) [.sc (.str s), .sc (.ty "str")] k := cc_isi (b := true) (show ("str" : String) ≠ "?" by decide) (show kitB "str" "str" = some true by decide +kernel) hk
end
end Dv
namespace Dv
theorem fm_nat (a w : Nat) : ((a : Int)).fmod (w : Int) = ((a % w : Nat) : Int) := by
  rw [Int.fmod_eq_emod_of_nonneg _ (by omega)]
  exact (Int.natCast_emod a w).symm
theorem fd_nat (a w : Nat) : ((a : Int)).fdiv (w : Int) = ((a / w : Nat) : Int) := by
  rw [Int.fdiv_eq_ediv_of_nonneg _ (by omega)]
  exact (Int.natCast_ediv a w).symm
end Dv

/-! plans of labels: the least of the rows, whatever their order -/
namespace Lb
open PySem PySem.Spec PyProof.Rows L2 Evl Sq Dv PySem.W
/-! ### the order of tuples of whole numbers -/
theorem listLt_cons (x y : Int) (xs ys : List Int) : listLt (x :: xs) (y :: ys) = if x = y then listLt xs ys else decide (x < y) := rfl
theorem listLt_irr : ∀ a : List Int, listLt a a = false
  | [] => rfl
  | x :: a => by rw [listLt_cons, if_pos rfl]; exact listLt_irr a
theorem listLt_tri : ∀ a b : List Int, listLt a b = false → listLt b a = false → a = b
  | [], [], _, _ => rfl
  | [], _ :: _, h, _ => by cases h
  | _ :: _, [], _, h => by cases h
  | x :: a, y :: b, h1, h2 => by
    rw [listLt_cons] at h1 h2
    by_cases e : x = y
    · subst e
      rw [if_pos rfl] at h1 h2
      rw [listLt_tri a b h1 h2]
    · rw [if_neg e] at h1
      rw [if_neg (fun z => e z.symm)] at h2
      have := of_decide_eq_false h1
      have := of_decide_eq_false h2
      omega
theorem listLt_trans : ∀ a b c : List Int, listLt a b = true → listLt b c = true → listLt a c = true
  | [], [], _, h, _ => by cases h
  | [], _ :: _, [], _, h => by cases h
  | [], _ :: _, _ :: _, _, _ => rfl
  | _ :: _, [], _, h, _ => by cases h
  | _ :: _, _ :: _, [], _, h => by cases h
  | x :: a, y :: b, z :: c, h1, h2 => by
    rw [listLt_cons] at h1 h2 ⊢
    by_cases e1 : x = y
    · subst e1
      rw [if_pos rfl] at h1
      by_cases e2 : x = z
      · subst e2
        rw [if_pos rfl] at h2 ⊢
        exact listLt_trans a b c h1 h2
      · rw [if_neg e2] at h2 ⊢
        exact h2
    · rw [if_neg e1] at h1
      by_cases e2 : y = z
      · subst e2
        rw [if_neg e1]
        exact h1
      · rw [if_neg e2] at h2
        have := of_decide_eq_true h1
        have := of_decide_eq_true h2
        rw [if_neg (by omega)]
        exact decide_eq_true (by omega)
abbrev TI := Tup Int
theorem minOf_le : ∀ (xs : List TI) (x : TI), ∀ y ∈ x :: xs, listLt y.items (minOf x xs).items = false
  | [], x, y, hy => by
    rw [List.mem_singleton.mp hy]
    exact listLt_irr _
  | z :: xs, x, y, hy => by
    have e : minOf x (z :: xs) = minOf (if DatumOrd.lt z x = true then z else x) xs := rfl
    rw [e]
    have ih := minOf_le xs (if DatumOrd.lt z x = true then z else x)
    have hm := ih _ List.mem_cons_self
    rcases List.mem_cons.mp hy with rfl | hy
    · by_cases h : DatumOrd.lt z y = true
      · rw [if_pos h] at hm ⊢
        cases hc : listLt y.items (minOf z xs).items with
        | false => rfl
        | true => rw [listLt_trans _ _ _ (show listLt z.items y.items = true from h) hc] at hm; cases hm
      · rw [if_neg h] at hm ⊢
        exact hm
    · rcases List.mem_cons.mp hy with rfl | hy
      · by_cases h : DatumOrd.lt y x = true
        · rw [if_pos h] at hm ⊢
          exact hm
        · rw [if_neg h] at hm ⊢
          have h : listLt y.items x.items = false := Bool.eq_false_iff.mpr h
          cases hc : listLt y.items (minOf x xs).items with
          | false => rfl
          | true =>
            cases hd : listLt x.items y.items with
            | true => rw [listLt_trans _ _ _ hd hc] at hm; cases hm
            | false =>
              rw [listLt_tri _ _ h hd] at hc
              rw [hc] at hm
              cases hm
      · exact ih y (List.mem_cons_of_mem _ hy)
theorem minOf_same {x y : TI} {xs ys : List TI} (h : ∀ t, t ∈ x :: xs ↔ t ∈ y :: ys) : (minOf x xs).items = (minOf y ys).items :=
  listLt_tri _ _ (minOf_le ys y _ ((h _).mp (minOf_mem xs x))) (minOf_le xs x _ ((h _).mpr (minOf_mem ys y)))
/-! ### plans -/
def sides : List Int := [10, 12, 14, 16]
def parts : List Int := [1, 2, 3, 4]
def capI (sd s : Int) : Int := if sd = 10 then 10 - 2 * s else if sd = 12 then 19 - 4 * s else if sd = 14 then 30 - 4 * s else 43 - 6 * s
def tri (p sd : Int) : TI := ⟨[p * sd * sd, p, sd]⟩
def cell (n s sd p : Int) : List TI := if n ≤ p * capI sd s then [tri p sd] else []
def rowsA (n s : Int) : List TI := sides.flatMap fun sd => parts.flatMap fun p => cell n s sd p
def rowsB (n s : Int) : List TI := parts.flatMap fun p => sides.flatMap fun sd => cell n s sd p
theorem rows_mem (n s : Int) (t : TI) : t ∈ rowsA n s ↔ t ∈ rowsB n s := by
  unfold rowsA rowsB
  simp only [List.mem_flatMap]
  constructor
  · rintro ⟨sd, h1, p, h2, h3⟩
    exact ⟨p, h2, sd, h1, h3⟩
  · rintro ⟨p, h2, sd, h1, h3⟩
    exact ⟨sd, h1, p, h2, h3⟩
theorem rows_tri {n s : Int} {t : TI} (h : t ∈ rowsB n s) : ∃ p sd, p ∈ parts ∧ sd ∈ sides ∧ t = tri p sd := by
  unfold rowsB at h
  simp only [List.mem_flatMap] at h
  obtain ⟨p, hp, sd, hs, h⟩ := h
  unfold cell at h
  split at h
  · exact ⟨p, sd, hp, hs, List.mem_singleton.mp h⟩
  · cases h
def triD (t : TI) : D := .tup (t.items.map I)
/-- the plan of the rows: parts, side -/
def pick : List TI → List Int
  | [] => []
  | t :: ts => (minOf t ts).items.drop 1
theorem pick_same (n s : Int) : pick (rowsA n s) = pick (rowsB n s) := by
  have h := rows_mem n s
  cases ha : rowsA n s with
  | nil =>
    cases hb : rowsB n s with
    | nil => rfl
    | cons t ts => rw [ha, hb] at h; exact absurd ((h t).mpr List.mem_cons_self) (by simp)
  | cons t ts =>
    cases hb : rowsB n s with
    | nil => rw [ha, hb] at h; exact absurd ((h t).mp List.mem_cons_self) (by simp)
    | cons u us =>
      rw [ha, hb] at h
      show (minOf t ts).items.drop 1 = (minOf u us).items.drop 1
      rw [minOf_same h]
theorem rows_nil (n s : Int) : rowsA n s = [] ↔ rowsB n s = [] := by
  have h := rows_mem n s
  constructor <;> intro e
  · exact List.eq_nil_iff_forall_not_mem.mpr fun t ht => by have := (h t).mpr ht; rw [e] at this; cases this
  · exact List.eq_nil_iff_forall_not_mem.mpr fun t ht => by have := (h t).mp ht; rw [e] at this; cases this
theorem take_flat {α β : Type} {xs : List α} {i : Nat} {x : α} (h : xs[i]? = some x) (f : α → List β) : (xs.take (i + 1)).flatMap f = (xs.take i).flatMap f ++ f x := by
  rw [List.take_add_one, h, Option.toList_some, List.flatMap_append, List.flatMap_cons, List.flatMap_nil, List.append_nil]
theorem cell_len (n s sd p : Int) : (cell n s sd p).length ≤ 1 := by
  unfold cell
  split <;> simp
theorem flat_len {α : Type} (f : α → List TI) (m : Nat) (h : ∀ a, (f a).length ≤ m) : ∀ xs : List α, (xs.flatMap f).length ≤ xs.length * m
  | [] => by simp
  | x :: xs => by
    rw [List.flatMap_cons, List.length_append, List.length_cons, Nat.succ_mul]
    have := flat_len f m h xs
    have := h x
    omega
theorem toPs_ints : ∀ l : List Int, toPs (l.map I) = some (l.map (Datum.toD : Int → PyData))
  | [] => rfl
  | x :: l => by
    rw [List.map_cons]
    unfold toPs
    rw [toPs_ints l]
    rfl
theorem toP_triD (t : TI) : toP (triD t) = some (Datum.toD t) := by
  unfold triD toP
  rw [toPs_ints]
  rfl
def S_cap : List D → (D → Prop) → Prop := fun ds k => ∃ sd s : Int, ds = [I sd, I s] ∧ sd ∈ sides ∧ 1 ≤ s ∧ s ≤ 3 ∧ k (I (capI sd s))
def S_rst : List D → (D → Prop) → Prop := fun ds k => ∃ s : Int, ds = [I s] ∧ 1 ≤ s ∧ s ≤ 3 ∧ k Non
def S_cb : List D → (D → Prop) → Prop := fun ds k => ∃ sd : Int, ds = [I sd] ∧ sd ∈ sides ∧ k (I (if sd = 10 then 1 else if sd = 12 then 2 else if sd = 14 then 2 else 3))
def S_cc : List D → (D → Prop) → Prop := fun ds k => ∃ s : Int, ds = [I s] ∧ 1 ≤ s ∧ s ≤ 3 ∧ k (I (2 * s))
def S_shape : List D → (D → Prop) → Prop := fun ds k => ∃ sd s : Int, ds = [I sd, I s] ∧ sd ∈ sides ∧ 1 ≤ s ∧ s ≤ 3 ∧ ∀ (b : Int) (L : List Int), (L.length : Int) = capI sd s → k (.tup [I b, .lst (L.map I)])
def S_choose (C : Addr) : List D → (D → Prop) → (XD → Prop) → Prop := fun ds k kx => ∃ n s : Int, ds = [I n, I s] ∧ 0 ≤ n ∧ n ≤ 1000 ∧ 1 ≤ s ∧ s ≤ 3 ∧ (rowsB n s = [] → kx (C, [])) ∧ (rowsB n s ≠ [] → k (.tup ((pick (rowsB n s)).map I)))
def S_plan (C : Addr) : List D → (D → Prop) → (XD → Prop) → Prop := fun ds k kx => ∃ (l : List Nat) (s : Int), ds = [TxD l, I s] ∧ MsgOk l ∧ 1 ≤ s ∧ s ≤ 3 ∧ (rowsB ((encOf l 0).length : Int) s = [] → kx (C, [])) ∧ (rowsB ((encOf l 0).length : Int) s ≠ [] → k (.tup ((pick (rowsB ((encOf l 0).length : Int) s)).map I)))
section
variable {K : PySem.W.Frag} {Γ : Fx} {B : Bs} {δ : Ls} {tA : TA} {k : D → Prop}
/-- an older promise, of a heap -/
theorem ec_callH {sp : Sp} (h : EvAC K Γ B tA δ fun ds => ∀ N H vs, Ex N H → DVs K N vs ds → ∀ Q : VK, (∀ v N' H' d, Stp N H N' H' → DV K N' v d → k d → Q v H') → sp vs H Q E0) : EvC K Γ B (tCall sp [] E0 tA) δ k := fun N H σ g r Q q => h N H σ g r _ fun vs N1 H1 ds s1 dv hp => by
  show sp (vs ++ []) H1 Q E0
  rw [List.append_nil]
  exact hp N1 H1 vs s1.s dv Q fun v N2 H2 d s2 dv2 hk => q v N2 H2 d (s1.trans s2) dv2 hk
theorem alike_ints {ns : List Int} (hl : ns.length ≤ 1000) (hk : k (Bo true)) : ∀ N H vs, Ex N H → DVs K N vs [.tup (ns.map I), .tup (ns.map I)] → ∀ Q : VK, (∀ v N' H' d, Stp N H N' H' → DV K N' v d → k d → Q v H') → spAlike1 K vs H Q E0 := fun N H vs e dv Q q => by
  cases dv with
  | cons d1 d2 =>
    cases d2 with
    | cons d2 d3 =>
      cases d3
      cases d1 with
      | tup a1 b1 =>
        cases d2 with
        | tup a2 b2 =>
          have z : ns.map I = (ns.map V.int).map D.sc := by rw [List.map_map]; rfl
          rw [z] at b1 b2
          have e1 := b1.scs
          have e2 := b2.scs
          subst e1 e2
          exact ⟨_, _, ns, rfl, ex_t e a1, ex_t e a2, hl, fun H2 h2 => q _ N H2 _ (Stp.heap e h2) .sc hk⟩
end
end Lb
namespace Lb
open PySem PySem.Spec PyProof.Rows L2 Evl Sq Dv PySem.W
theorem toDs_inj : ∀ {a b : List Int}, a.map (Datum.toD : Int → PyData) = b.map Datum.toD → a = b
  | [], [], _ => rfl
  | [], _ :: _, h => by cases h
  | _ :: _, [], h => by cases h
  | x :: a, y :: b, h => by
    rw [List.map_cons, List.map_cons] at h
    injection h with h1 h2
    have h1 : PyData.int x = PyData.int y := h1
    injection h1 with h1
    rw [h1, toDs_inj h2]
theorem toD_inj {x y : TI} (h : (Datum.toD x : PyData) = Datum.toD y) : x = y := by
  obtain ⟨a⟩ := x
  obtain ⟨b⟩ := y
  have h : PyData.tuple (a.map Datum.toD) = PyData.tuple (b.map Datum.toD) := h
  injection h with h
  rw [toDs_inj h]
end Lb
namespace Lb
open PySem PySem.Spec PyProof.Rows L2 Evl Sq Dv PySem.W
def ShOk (sd : Int) (b m : Nat) : Prop := (sd = 10 ∧ b = 1 ∧ m = 10) ∨ (sd = 12 ∧ b = 2 ∧ m = 19) ∨ (sd = 14 ∧ b = 2 ∧ m = 30) ∨ (sd = 16 ∧ b = 3 ∧ m = 43)
theorem ShOk.bnd {sd : Int} {b m : Nat} (h : ShOk sd b m) : 1 ≤ b ∧ b ≤ 3 ∧ m ≤ 50 := by
  rcases h with h | h | h | h <;> omega
def shP (b m : Nat) (s : Int) (k : Nat) : Bool := decide (((k / b : Nat) : Int) < (((List.range m).filter fun j => decide (j % b = k % b)).length : Int) - 2 * s)
theorem sh_len {sd s : Int} {b m : Nat} (h : ShOk sd b m) (h1 : 1 ≤ s) (h3 : s ≤ 3) : (((List.range m).filter (shP b m s)).length : Int) = capI sd s := by
  have hs : s = 1 ∨ s = 2 ∨ s = 3 := by omega
  rcases h with ⟨rfl, rfl, rfl⟩ | ⟨rfl, rfl, rfl⟩ | ⟨rfl, rfl, rfl⟩ | ⟨rfl, rfl, rfl⟩ <;> rcases hs with rfl | rfl | rfl <;> decide +kernel
theorem modI {k b : Nat} (h : 1 ≤ b) : Int.fmod (k : Int) (b : Int) = ((k % b : Nat) : Int) := by
  rw [Int.fmod_eq_emod_of_nonneg _ (by omega)]
  omega
theorem divI {k b : Nat} (h : 1 ≤ b) : Int.fdiv (k : Int) (b : Int) = ((k / b : Nat) : Int) := by
  rw [Int.fdiv_eq_ediv_of_nonneg _ (by omega)]
  omega
theorem mod_dec {k b j : Nat} (h : 1 ≤ b) : decide (Int.fmod (k : Int) (b : Int) = (j : Int)) = decide (k % b = j) := by
  rw [modI h]
  exact decide_eq_decide.mpr ⟨fun z => by omega, fun z => by omega⟩
theorem sh_dec {k b m : Nat} {s : Int} (h : 1 ≤ b) : decide (Int.fdiv (k : Int) (b : Int) < (((List.range m).filter fun j => decide (j % b = k % b)).length : Int) - 2 * s) = shP b m s k := by
  unfold shP
  rw [divI h]
end Lb

/-! the words of k10's law -/
namespace Lb
open PySem PySem.Spec PyProof.Rows L2 Evl Sq Dv PySem.W
theorem toPs_tri : ∀ rows : List TI, toPs (rows.map triD) = some (rows.map Datum.toD)
  | [] => rfl
  | t :: rows => by
    rw [List.map_cons]
    unfold toPs
    rw [toPs_tri rows, toP_triD]
    rfl
theorem toP_rows (rows : List TI) : toP (.lst (rows.map triD)) = some (Datum.toD rows) := by
  unfold toP
  rw [toPs_tri]
  rfl
theorem lay_rows : ∀ rows : List TI, PyData.canLayAll0 (rows.map (Datum.toD : TI → PyData)) = true
  | [] => rfl
  | t :: rows => by
    have h : PyData.canLayAll0 (t.items.map (Datum.toD : Int → PyData)) = true := lay_ints t.items
    show (PyData.canLayAll0 (t.items.map (Datum.toD : Int → PyData)) && PyData.canLayAll0 (rows.map (Datum.toD : TI → PyData))) = true
    rw [h, lay_rows rows]
    rfl
theorem shaped_rows (rows : List TI) : SeqAt.shaped (Datum.toD rows) = true := by
  have h1 : PyData.canLayAll0 (rows.map (Datum.toD : TI → PyData)) = true := lay_rows rows
  have h2 : (Datum.toD rows : PyData).depth ≤ 2 := Datum.depth_le rows
  unfold SeqAt.shaped
  rw [Bool.and_eq_true, decide_eq_true_eq]
  exact ⟨h1, by omega⟩
theorem toP_intsT (ns : List Int) : toP (.tup (ns.map I)) = some (PyData.tuple (pdI ns)) := by
  unfold toP
  rw [toPs_ints]
  rfl
theorem eqv_intsT (ns ms : List Int) : PyData.eqv (PyData.tuple (pdI ns)) (PyData.tuple (pdI ms)) = decide (ns = ms) := eqv_ints ns ms
section
variable {K : PySem.W.Frag} {Γ : Fx} {B : Bs} {δ : Ls} {k : D → Prop} {ta tb : TE} {G : PEn} {i j : Nat}
theorem oc_eqRows {rows rows' : List TI} (hk : k (Bo (decide (rows = rows')))) : OpC K (rEqD K) (.lst (rows.map triD)) (.lst (rows'.map triD)) k := oc_eqD (toP_rows rows) (toP_rows rows') (shaped_rows rows) (shaped_rows rows') (by rw [Datum.eqv]; exact hk)
theorem oc_neRows {rows rows' : List TI} (hk : k (Bo (!decide (rows = rows')))) : OpC K (rNeD K) (.lst (rows.map triD)) (.lst (rows'.map triD)) k := oc_neD (toP_rows rows) (toP_rows rows') (shaped_rows rows) (shaped_rows rows') (by rw [Datum.eqv]; exact hk)
theorem oc_neIntsT {ns ms : List Int} (hk : k (Bo (!decide (ns = ms)))) : OpC K (rNeD K) (.tup (ns.map I)) (.tup (ms.map I)) k := oc_neD (toP_intsT ns) (toP_intsT ms) (shaped_t ns) (shaped_t ms) (by rw [eqv_intsT]; exact hk)
/-- (word,) != (word,) -/
theorem oc_neWord {s : Str} (hs : PyData.strOk s = true) (hk : k (Bo false)) : OpC K (rNeD K) (.tup [.sc (.str s)]) (.tup [.sc (.str s)]) k := by
  have sh : SeqAt.shaped (.tuple [.str s]) = true := by
    simp [SeqAt.shaped, PyData.canLay0, PyData.canLayAll0, PyData.depth, PyData.depthAll, hs]
  refine oc_neD (p := .tuple [.str s]) (q := .tuple [.str s]) (by unfold toP toPs toPs toP; rfl) (by unfold toP toPs toPs toP; rfl) sh sh ?_
  have e : PyData.eqv (.tuple [.str s]) (.tuple [.str s]) = true := by
    show (PyData.eqv (.str s) (.str s) && true) = true
    show ((s == s) && true) = true
    simp
  rw [e]
  exact hk
/-- x, y = e, [..] -/
theorem sat_parV (h : EvC K Γ B ta δ fun x => EvO K Γ B tb δ fun ds => G.nx ((δ.set i (.d x)).set j (.own ds))) (hij : i ≠ j) : Sat K Γ B (tPar i j (tCons ta (tCons tb tNil))) G δ := fun D' L gd N H σ hg r => h N H σ hg.1 r _ fun v N1 H1 x s1 dv h2 => h2 N1 H1 σ (hg.ex s1.n).1 (r.step s1) _ fun p N2 H2 xs ds s2 hp hn hh dvs hk => by
  have r1 := (r.step s1)
  have hB : B.h p = none := fresh_back r1.stp.h hp
  have r2 := (r1.step s2).set (dv.ex s2.n) i
  refine ⟨_, _, rfl, gd.nx N2 H2 _ _ (hg.ex (s1.trans s2).n) (r2.setO hB hn hh dvs (fun m es e z => ?_) j) hk⟩
  have r0 := (r1.set dv i)
  exact r0.fresh hp m es e z
end
theorem row_less {K : PySem.W.Frag} {G : Hp} {r P : Addr} {ps : Array Value} (h : RowAt K G r) (hP : G P = some (.tbl ps)) : RowAt K (less P G) r := by
  obtain ⟨a, ns, h1, h2⟩ := h
  have hr : r ≠ P := fun z => by rw [z, hP] at h1; cases h1
  refine ⟨a, ns, by rw [less_ne hr]; exact h1, ?_⟩
  rcases h2 with (h | ⟨o, h⟩) | h
  · exact .inl (.inl (by rw [less_ne (fun z => by rw [z, hP] at h; cases h)]; exact h))
  · exact .inl (.inr ⟨o, by rw [less_ne (fun z => by rw [z, hP] at h; cases h)]; exact h⟩)
  · exact .inr h
theorem tri_pow (p sd : Int) : p * sd ^ (2 : Int).toNat = p * sd * sd := by
  show p * sd ^ 2 = _
  rw [Int.pow_succ, Int.pow_succ, Int.pow_zero, Int.one_mul, Int.mul_assoc]
theorem pick_drop {t : TI} {ts : List TI} : ((minOf t ts).items.drop 1) = pick (t :: ts) := rfl
theorem capI_bd {sd s : Int} (h1 : 1 ≤ s) (h3 : s ≤ 3) : 0 ≤ capI sd s ∧ capI sd s ≤ 50 := by
  unfold capI
  split
  · omega
  split
  · omega
  split
  · omega
  omega
end Lb
namespace Lb
open PySem PySem.Spec PyProof.Rows L2 Evl Sq Dv PySem.W
theorem cut1 (t : TI) : cutD (t.items.map I) (some 1) none = (t.items.drop 1).map I := by
  have h : cutD (t.items.map I) (some ((1 : Nat) : Int)) none = (t.items.map I).drop 1 := cutD_tail
  rw [List.map_drop]
  exact h
theorem min_len {n s : Int} {t : TI} {ts : List TI} (h : rowsA n s = t :: ts) : (minOf t ts).items.length = 3 := by
  obtain ⟨p, sd, _, _, e⟩ := rows_tri (n := n) (s := s) ((rows_mem n s _).mp (by rw [h]; exact minOf_mem ts t))
  rw [e]
  rfl
end Lb

namespace Qk10
open PySem PySem.Spec PyProof.Rows L2 Evl Sq Dv
local macro_rules | `(tactic| walk_at "sq_cell") => `(tactic| first | exact Or.inl rfl | exact Or.inr rfl | exact Or.inr (Or.inl rfl) | exact Or.inr (Or.inr rfl))
local macro_rules | `(tactic| walk_at "sq_sym") => `(tactic| first | assumption | ((with_reducible apply sym_add) <;> walk_at "sq_sym") | ((with_reducible apply sym_mul) <;> walk_at "sq_sym") | ((with_reducible apply sym_div) <;> walk_at "sq_sym") | (show Sym _; decide) | (constructor <;> omega))
local macro_rules | `(tactic| walk_at "sq_c") => `(tactic| first | assumption | decide | omega | (show CDivN _ _; exact ⟨by omega, by omega⟩) | (show CPow _ _; exact ⟨by decide, by decide, by decide⟩) | (show CMul _ _; first | (exact .inl ⟨by omega, by omega⟩) | (exact .inr ⟨by omega, by omega⟩)))
local macro_rules | `(tactic| walk_at "sq_rv") => `(tactic| first
  | (with_reducible exact rv_I0)
  | ((with_reducible apply rv_ne); rfl)
  | ((with_reducible apply rv_eq); rfl)
  | (with_reducible exact ru_neg)
  | ((with_reducible apply rv_ixT); (assumption); first | assumption | rfl)
  | ((with_reducible apply rv_ixL); (assumption); first | assumption | rfl)
  | ((with_reducible apply rv_I); walk_at "sq_c"))
local macro_rules | `(tactic| walk_at "sq_spv") => `(tactic| first
  | assumption
  | ((with_reducible apply spv_I2); (first | (show Sym2 _ _; constructor <;> walk_at "sq_sym") | (show SymD _ _; refine ⟨?_, ?_, ?_⟩; (walk_at "sq_sym"); (walk_at "sq_sym"); (first | assumption | decide))))
  | ((with_reducible apply spv_req2) <;> walk_at "sq_sym")
  | ((with_reducible apply spv_sym); first | assumption | exact kd_int)
  | ((with_reducible apply spv_num); first | assumption | exact kd_int))
local macro_rules | `(tactic| walk_at "sq_ea") => `(tactic| first | (with_reducible exact ea_nil) | ((with_reducible apply ea_cons); (walk_at "sq_ev"); (walk_at "sq_ea")))
local macro_rules | `(tactic| walk_at "sq_rc") => `(tactic| first | exact rc_int | exact rc_intB)
local macro_rules | `(tactic| walk_at "sq_ev") => `(tactic| first
  | (with_reducible exact ev_c)
  | ((with_reducible apply ev_var); rfl)
  | ((with_reducible apply ev_op); (walk_at "sq_ev"); (walk_at "sq_ev"); (walk_at "sq_rv"))
  | ((with_reducible apply ev_callD); (walk_at "sq_ea"); (walk_at "sq_spv"))
  | ((with_reducible apply ev_cb); (walk_at "sq_ea"); (walk_at "sq_rc"))
  | ((with_reducible apply ev_iteI); (walk_at "sq_et"); (intro _; (walk_at "sq_ev")); (intro _; (walk_at "sq_ev")))
  | ((with_reducible apply ev_andV); (walk_at "sq_ev"); (intro _; (walk_at "sq_ev")))
  | ((with_reducible apply ev_orV); (walk_at "sq_ev"); (intro _; (walk_at "sq_ev")))
  | ((with_reducible apply ev_notV); (walk_at "sq_ev"))
  | ((with_reducible apply ev_chain); (walk_at "sq_ev"); (walk_at "sq_ev"); (walk_at "sq_rv"); (intro _; (walk_at "sq_ev")); (intro _; (walk_at "sq_rv"))))
local macro_rules | `(tactic| walk_at "sq_et") => `(tactic| first
  | ((with_reducible apply et_test); (walk_at "sq_ev"))
  | ((with_reducible apply et_B); (walk_at "sq_ev"))
  | ((with_reducible apply et_or); (walk_at "sq_et"); (intro _; (walk_at "sq_et")))
  | ((with_reducible apply et_and); (walk_at "sq_et"); (intro _; (walk_at "sq_et")))
  | ((with_reducible apply et_not); (walk_at "sq_et")))
local macro_rules | `(tactic| walk_at "dv1") => `(tactic| first
  | (with_reducible refine sat_seq ?_)
  | ((with_reducible apply ec_var); rfl)
  | ((with_reducible apply ec_cd); assumption)
  | (with_reducible apply ec_c)
  | (with_reducible apply oc_i0)
  | (with_reducible apply oc_eqI)
  | (with_reducible apply oc_neI)
  | (with_reducible apply oc_isN)
  | (with_reducible apply oc_noN)
  | (with_reducible apply oc_inS)
  | (with_reducible apply oc_niS)
  | ((with_reducible apply oc_eq); rfl)
  | ((with_reducible apply oc_ne); rfl)
  | ((with_reducible apply oc_i); (walk_at "sq_c"))
  | (with_reducible apply uc_neg)
  | (with_reducible apply ec_cat)
  | (with_reducible apply ec_rep)
  | (with_reducible apply ec_slL)
  | (with_reducible apply ec_lst)
  | (with_reducible apply ec_listOf)
  | (with_reducible apply ec_op)
  | (with_reducible apply ec_un)
  | (with_reducible apply ec_tup)
  | (with_reducible apply ec_sl)
  | (with_reducible apply ec_chain)
  | (with_reducible apply ec_not)
  | (with_reducible apply ec_cb)
  | (with_reducible apply ea_nilC)
  | (with_reducible apply ea_consC)
  | (with_reducible apply eo_partN)
  | (with_reducible apply eo_part)
  | (with_reducible apply cc_lenL)
  | (with_reducible apply cc_lenT)
  | (with_reducible apply cc_int)
  | (with_reducible apply cc_intB)
  | (with_reducible apply cc_tupL)
  | (with_reducible apply cc_tupT)
  | (with_reducible apply cc_max2)
  | (with_reducible apply sc_slT)
  | (with_reducible apply so_slL)
  | (with_reducible apply co_listL)
  | (with_reducible apply co_listT)
  | (with_reducible apply eb_test)
  | (with_reducible apply eb_B)
  | (with_reducible apply eb_not)
  | (with_reducible apply eb_or)
  | (with_reducible apply eb_and)
  | (with_reducible apply eb_tru)
  | (with_reducible refine ⟨_, rfl, ?_⟩)
  | (with_reducible refine ⟨_, _, rfl, ?_⟩)
  | (with_reducible refine ⟨_, _, _, rfl, ?_⟩)
  | ((with_reducible apply and_len); (exact Nat.le_of_ble_eq_true rfl))
  | (with_reducible apply sat_retN)
  | (with_reducible apply sat_next)
  | (with_reducible apply sat_brk)
  | (with_reducible apply sat_cont)
  | (with_reducible apply sat_ret)
  | (with_reducible apply sat_par)
  | (with_reducible apply sat_par3)
  | ((with_reducible apply sat_aug); rfl)
  | (with_reducible refine ec_draw ?_)
  | (with_reducible refine ec_call ?_)
  | (with_reducible refine ec_callO ?_)
  | (with_reducible apply tgx_name)
  | ((with_reducible apply tgx_tup); rfl)
  | (with_reducible apply tgx_cons)
  | (with_reducible apply tgx_nil)
  | (with_reducible apply sat_if)
  | (with_reducible apply sat_set)
  | (with_reducible apply sat_asg))

def topS (i : Nat) : Stmt := PySem.Challenge.pw_squaremark_k10_label_plans.main.body.getD i (.Pass ⟨0, 0, 0, 0⟩)
abbrev s_is_number : Stmt := topS 15
theorem sc_is_number : FnScope ["value"] ["value"] (defScope s_is_number) := ⟨rfl, rfl, rfl, by decide +kernel, rfl, by decide +kernel, by decide +kernel⟩
abbrev s_encode_text : Stmt := topS 27
theorem sc_encode_text : FnScope ["text", "rests", "symbols", "mode", "index", "character", "ways", "written"] ["text"] (defScope s_encode_text) := ⟨rfl, rfl, rfl, by decide +kernel, rfl, by decide +kernel, by decide +kernel⟩
abbrev s_require_message : Stmt := topS 28
theorem sc_require_message : FnScope ["text", "index", "character"] ["text"] (defScope s_require_message) := ⟨rfl, rfl, rfl, by decide +kernel, rfl, by decide +kernel, by decide +kernel⟩
abbrev s__write_character : Stmt := topS 29
theorem sc__write_character : FnScope ["character", "mode"] ["character", "mode"] (defScope s__write_character) := ⟨rfl, rfl, rfl, by decide +kernel, rfl, by decide +kernel, by decide +kernel⟩
abbrev s__write_in_digit_mode : Stmt := topS 30
theorem sc__write_in_digit_mode : FnScope ["character", "number"] ["character"] (defScope s__write_in_digit_mode) := ⟨rfl, rfl, rfl, by decide +kernel, rfl, by decide +kernel, by decide +kernel⟩
abbrev s__write_in_letter_mode : Stmt := topS 31
theorem sc__write_in_letter_mode : FnScope ["character"] ["character"] (defScope s__write_in_letter_mode) := ⟨rfl, rfl, rfl, by decide +kernel, rfl, by decide +kernel, by decide +kernel⟩
abbrev s__list_ways : Stmt := topS 32
theorem sc__list_ways : FnScope ["character", "mode", "ways", "direct", "switched"] ["character", "mode"] (defScope s__list_ways) := ⟨rfl, rfl, rfl, by decide +kernel, rfl, by decide +kernel, by decide +kernel⟩
abbrev s__measure_rests : Stmt := topS 33
theorem sc__measure_rests : FnScope ["text", "rest", "rests", "character", "mode"] ["text"] (defScope s__measure_rests) := ⟨rfl, rfl, rfl, by decide +kernel, rfl, by decide +kernel, by decide +kernel⟩
abbrev s__measure_rest : Stmt := topS 34
theorem sc__measure_rest : FnScope ["ways", "rest", "least", "total", "written", "mode", "length", "count"] ["ways", "rest"] (defScope s__measure_rest) := ⟨rfl, rfl, rfl, by decide +kernel, rfl, by decide +kernel, by decide +kernel⟩
abbrev s__shortest_ways : Stmt := topS 35
theorem sc__shortest_ways : FnScope ["ways", "rest", "lengths", "written", "mode", "way", "length"] ["ways", "rest"] (defScope s__shortest_ways) := ⟨rfl, rfl, rfl, by decide +kernel, rfl, by decide +kernel, by decide +kernel⟩
abbrev s_data_capacity : Stmt := topS 41
theorem sc_data_capacity : FnScope ["side", "strength", "body_length"] ["side", "strength"] (defScope s_data_capacity) := ⟨rfl, rfl, rfl, by decide +kernel, rfl, by decide +kernel, by decide +kernel⟩
abbrev s_count_blocks : Stmt := topS 42
theorem sc_count_blocks : FnScope ["side"] ["side"] (defScope s_count_blocks) := ⟨rfl, rfl, rfl, by decide +kernel, rfl, by decide +kernel, by decide +kernel⟩
abbrev s_count_checks : Stmt := topS 43
theorem sc_count_checks : FnScope ["strength"] ["strength"] (defScope s_count_checks) := ⟨rfl, rfl, rfl, by decide +kernel, rfl, by decide +kernel, by decide +kernel⟩
abbrev s_require_strength : Stmt := topS 44
theorem sc_require_strength : FnScope ["strength"] ["strength"] (defScope s_require_strength) := ⟨rfl, rfl, rfl, by decide +kernel, rfl, by decide +kernel, by decide +kernel⟩
abbrev s_plan_labels : Stmt := topS 47
theorem sc_plan_labels : FnScope ["text", "strength", "symbols"] ["text", "strength"] (defScope s_plan_labels) := ⟨rfl, rfl, rfl, by decide +kernel, rfl, by decide +kernel, by decide +kernel⟩
abbrev s__choose_plan : Stmt := topS 48
theorem sc__choose_plan : FnScope ["length", "strength", "plans", "part_count", "side", "_"] ["length", "strength"] (defScope s__choose_plan) := ⟨rfl, rfl, rfl, by decide +kernel, rfl, by decide +kernel, by decide +kernel⟩
abbrev s__law_taken : Stmt := topS 50
theorem sc__law_taken : FnScope ["_law_row", "_law_many", "_law_found", "_law_cell"] ["_law_row", "_law_many"] (defScope s__law_taken) := ⟨rfl, rfl, rfl, by decide +kernel, rfl, by decide +kernel, by decide +kernel⟩
abbrev s__law_alike : Stmt := topS 51
theorem sc__law_alike : FnScope ["_law_one", "_law_due", "_law_k"] ["_law_one", "_law_due"] (defScope s__law_alike) := ⟨rfl, rfl, rfl, by decide +kernel, rfl, by decide +kernel, by decide +kernel⟩
abbrev s__law_raised : Stmt := topS 52
theorem sc__law_raised : FnScope ["_law_work", "e", "_law_kinds", "_law_at"] ["_law_work"] (defScope s__law_raised) := ⟨rfl, rfl, rfl, by decide +kernel, rfl, by decide +kernel, by decide +kernel⟩
abbrev s__law_message : Stmt := topS 53
theorem sc__law_message : FnScope ["_law_row", "_law_most", "_law_signs", "_law_text", "_law_k", "_law_some", "_law_j"] ["_law_row", "_law_most"] (defScope s__law_message) := ⟨rfl, rfl, rfl, by decide +kernel, rfl, by decide +kernel, by decide +kernel⟩
abbrev s__law_shape : Stmt := topS 54
theorem sc__law_shape : FnScope ["_law_side", "_law_strong", "_law_blocks", "_law_body", "_law_longs", "_law_j", "_law_k"] ["_law_side", "_law_strong"] (defScope s__law_shape) := ⟨rfl, rfl, rfl, by decide +kernel, rfl, by decide +kernel, by decide +kernel⟩
abbrev s_law : Stmt := topS 55
theorem sc_law : FnScope ["_law_script", "_law_row", "_law_turn", "_law_text", "_law_strong", "_law_long", "_law_rows", "_law_side", "_law_parts"] ["_law_script"] (defScope s_law) := ⟨rfl, rfl, rfl, by decide +kernel, rfl, by decide +kernel, by decide +kernel⟩
structure Tx (K : PySem.W.Frag) (mg : Str → Option Value) (base : Heap) (a__SWITCHES a_SIDES a__STRENGTHS a__PART_COUNTS a_InvalidMessage a_InvalidSide a_InvalidStrength a_MessageTooLong a_SquaremarkError a_InvalidCertificate a_InvalidSymbols a_InvalidImage a_DecodeFailed a_InvalidBlock a_InvalidSymbol a_BlockDecodable a_PartialMessage a__BLOCK_COUNTS c_law p_law : Addr) : Prop where
  ok : True
  n_isinstance : mg "isinstance" = none
  n_int : mg "int" = none
  n_bool : mg "bool" = none
  n_enumerate : mg "enumerate" = none
  n_min : mg "min" = none
  n_str : mg "str" = none
  n_reversed : mg "reversed" = none
  n_len : mg "len" = none
  n_zip : mg "zip" = none
  n_tuple : mg "tuple" = none
  n_list : mg "list" = none
  n_range : mg "range" = none
  n_ValueError : mg "ValueError" = none
  g__DIGIT_MODE : ∃ t, mg "_DIGIT_MODE" = some (.int 0 t)
  g_LONGEST_MESSAGE : ∃ t, mg "LONGEST_MESSAGE" = some (.int 200 t)
  g_ALPHABET : ∃ t, mg "ALPHABET" = some (.str " !\"#$&'()*+,-./0123456789:;<=>?@ABCDEFGHIJKLMNOPQRSTUVWXYZ[\\]^_`abcdefghijklmnopqrstuvwxyz{|}~" t)
  g__DIGIT_CHARACTERS : ∃ t, mg "_DIGIT_CHARACTERS" = some (.str "0123456789 ." t)
  g__ESCAPE : ∃ t, mg "_ESCAPE" = some (.int 13 t)
  g__HYPHEN : ∃ t, mg "_HYPHEN" = some (.int 14 t)
  g__LETTER_CHARACTERS : ∃ t, mg "_LETTER_CHARACTERS" = some (.str "etaoinsrhldu " t)
  g__RARE_CHARACTERS : ∃ t, mg "_RARE_CHARACTERS" = some (.str "cmfpgwybvkxjqz,'" t)
  g__LETTER_MODE : ∃ t, mg "_LETTER_MODE" = some (.int 1 t)
  g__HEADER_CELLS : ∃ t, mg "_HEADER_CELLS" = some (.int 24 t)
  g__SWITCHES : mg "_SWITCHES" = some (.ref a__SWITCHES)
  t__SWITCHES : ∀ H, SqT K H a__SWITCHES (([12, 14] : List Int).map V.int)
  g_SIDES : mg "SIDES" = some (.ref a_SIDES)
  t_SIDES : ∀ H, SqT K H a_SIDES (([10, 12, 14, 16] : List Int).map V.int)
  g__STRENGTHS : mg "_STRENGTHS" = some (.ref a__STRENGTHS)
  t__STRENGTHS : ∀ H, SqT K H a__STRENGTHS (([1, 2, 3] : List Int).map V.int)
  g__PART_COUNTS : mg "_PART_COUNTS" = some (.ref a__PART_COUNTS)
  t__PART_COUNTS : ∀ H, SqT K H a__PART_COUNTS (([1, 2, 3, 4] : List Int).map V.int)
  g_InvalidMessage : mg "InvalidMessage" = some (.ref a_InvalidMessage)
  g_InvalidSide : mg "InvalidSide" = some (.ref a_InvalidSide)
  g_InvalidStrength : mg "InvalidStrength" = some (.ref a_InvalidStrength)
  g_MessageTooLong : mg "MessageTooLong" = some (.ref a_MessageTooLong)
  g_SquaremarkError : mg "SquaremarkError" = some (.ref a_SquaremarkError)
  g_InvalidCertificate : mg "InvalidCertificate" = some (.ref a_InvalidCertificate)
  g_InvalidSymbols : mg "InvalidSymbols" = some (.ref a_InvalidSymbols)
  g_InvalidImage : mg "InvalidImage" = some (.ref a_InvalidImage)
  g_DecodeFailed : mg "DecodeFailed" = some (.ref a_DecodeFailed)
  g_InvalidBlock : mg "InvalidBlock" = some (.ref a_InvalidBlock)
  g_InvalidSymbol : mg "InvalidSymbol" = some (.ref a_InvalidSymbol)
  g_BlockDecodable : mg "BlockDecodable" = some (.ref a_BlockDecodable)
  g_PartialMessage : mg "PartialMessage" = some (.ref a_PartialMessage)
  g__BLOCK_COUNTS : mg "_BLOCK_COUNTS" = some (.ref a__BLOCK_COUNTS)
  x_MessageTooLong : ExK K a_MessageTooLong
  m_MessageTooLong : PySem.W.excIn K a_MessageTooLong He.veBase "ValueError.__new__" = true ∧ PySem.W.keepIn K (.ref a_MessageTooLong) = true ∧ PySem.W.subIn K (.ref a_MessageTooLong) (.type "BaseException") = some true ∧ PySem.W.typeIn K (.ref a_MessageTooLong) = some (.type "type")
  e_MessageTooLong : PySem.W.exmOne K (.ref a_MessageTooLong) (.ref a_SquaremarkError) = some true
  k_MessageTooLong_InvalidMessage : PySem.W.kitOne K (.ref a_MessageTooLong) (.ref a_InvalidMessage) = some false
  k_MessageTooLong_InvalidSide : PySem.W.kitOne K (.ref a_MessageTooLong) (.ref a_InvalidSide) = some false
  k_MessageTooLong_InvalidStrength : PySem.W.kitOne K (.ref a_MessageTooLong) (.ref a_InvalidStrength) = some false
  k_MessageTooLong_MessageTooLong : PySem.W.kitOne K (.ref a_MessageTooLong) (.ref a_MessageTooLong) = some true
  k_MessageTooLong_InvalidCertificate : PySem.W.kitOne K (.ref a_MessageTooLong) (.ref a_InvalidCertificate) = some false
  k_MessageTooLong_InvalidSymbols : PySem.W.kitOne K (.ref a_MessageTooLong) (.ref a_InvalidSymbols) = some false
  k_MessageTooLong_InvalidImage : PySem.W.kitOne K (.ref a_MessageTooLong) (.ref a_InvalidImage) = some false
  k_MessageTooLong_DecodeFailed : PySem.W.kitOne K (.ref a_MessageTooLong) (.ref a_DecodeFailed) = some false
  k_MessageTooLong_InvalidBlock : PySem.W.kitOne K (.ref a_MessageTooLong) (.ref a_InvalidBlock) = some false
  k_MessageTooLong_InvalidSymbol : PySem.W.kitOne K (.ref a_MessageTooLong) (.ref a_InvalidSymbol) = some false
  k_MessageTooLong_BlockDecodable : PySem.W.kitOne K (.ref a_MessageTooLong) (.ref a_BlockDecodable) = some false
  k_MessageTooLong_PartialMessage : PySem.W.kitOne K (.ref a_MessageTooLong) (.ref a_PartialMessage) = some false
  k_MessageTooLong_ValueError : PySem.W.kitOne K (.ref a_MessageTooLong) (.type "ValueError") = some true
  d__BLOCK_COUNTS : ∀ kv ∈ [((10 : Int), (1 : Int)), ((12 : Int), (2 : Int)), ((14 : Int), (2 : Int)), ((16 : Int), (3 : Int))], KDI K a__BLOCK_COUNTS kv.1 kv.2
  t_law : GxR.TabB base mg c_law p_law
section
variable {P : Program} {w : World} {K : PySem.W.Frag} {mg : Str → Option Value} {base : Heap} {a__SWITCHES a_SIDES a__STRENGTHS a__PART_COUNTS a_InvalidMessage a_InvalidSide a_InvalidStrength a_MessageTooLong a_SquaremarkError a_InvalidCertificate a_InvalidSymbols a_InvalidImage a_DecodeFailed a_InvalidBlock a_InvalidSymbol a_BlockDecodable a_PartialMessage a__BLOCK_COUNTS c_law p_law : Addr}
theorem ok_is_number {f : Addr} {fd : FuncData} (F : Fun K "is_number" "is_number" s_is_number f fd) (T : Tx K mg base a__SWITCHES a_SIDES a__STRENGTHS a__PART_COUNTS a_InvalidMessage a_InvalidSide a_InvalidStrength a_MessageTooLong a_SquaremarkError a_InvalidCertificate a_InvalidSymbols a_InvalidImage a_DecodeFailed a_InvalidBlock a_InvalidSymbol a_BlockDecodable a_PartialMessage a__BLOCK_COUNTS c_law p_law) :
    FnOk P w K mg base CX0 1 f fd ["value"] (spNum K) := by
  refine F.ok sc_is_number (fun vs H Q E h => ?_) (fun cdv A outer s H vs Q E hr h => ?_)
  · obtain ⟨v, rfl, kd, q⟩ := h
    rfl
  · obtain ⟨v, rfl, kd, q⟩ := h
    refine ⟨_, (pss_one (ps_ret (pe_and (pe_callB call_isi (by rfl) T.n_isinstance (by decide +kernel) (pa_cons (pv 0) (pa_cons (pe_bltn (v := .ty "int") (by rfl) T.n_int (by decide +kernel) rfl) pa_nil))) (pe_one (pe_not (pe_callB call_isi (by rfl) T.n_isinstance (by decide +kernel) (pa_cons (pv 0) (pa_cons (pe_bltn (v := .ty "bool") (by rfl) T.n_bool (by decide +kernel) rfl) pa_nil)))))))), ?_⟩

    rcases id kd with rfl | ⟨b, rfl⟩ | ⟨i, rfl⟩ | ⟨x, rfl⟩ | ⟨p, rfl, ⟨xs, hs⟩ | ⟨xs, hs⟩⟩
    · exact s_ret (ev_andV (ev_cb (ea_cons (ev_var rfl) (ea_cons ev_c ea_nil)) (rc_isi (T := "NoneType") (b := false) (fun _ _ => .base .non) (by decide +kernel))) (b := false) fun z => nomatch z) fun H1 e1 => q H1 e1
    · exact s_ret (ev_andV (ev_cb (ea_cons (ev_var rfl) (ea_cons ev_c ea_nil)) (rc_isi (T := "bool") (b := true) (fun _ _ => .base (.bl b)) (by decide +kernel))) fun _ => ev_notV (ev_cb (ea_cons (ev_var rfl) (ea_cons ev_c ea_nil)) (rc_isi (T := "bool") (b := true) (fun _ _ => .base (.bl b)) (by decide +kernel)))) fun H1 e1 => q H1 e1
    · exact s_ret (ev_andV (ev_cb (ea_cons (ev_var rfl) (ea_cons ev_c ea_nil)) (rc_isi (T := "int") (b := true) (fun _ _ => .base (.int i)) (by decide +kernel))) fun _ => ev_notV (ev_cb (ea_cons (ev_var rfl) (ea_cons ev_c ea_nil)) (rc_isi (T := "int") (b := false) (fun _ _ => .base (.int i)) (by decide +kernel)))) fun H1 e1 => q H1 e1
    · exact s_ret (ev_andV (ev_cb (ea_cons (ev_var rfl) (ea_cons ev_c ea_nil)) (rc_isi (T := "str") (b := false) (fun _ _ => .base (.str x)) (by decide +kernel))) (b := false) fun z => nomatch z) fun H1 e1 => q H1 e1
    · exact s_ret (ev_andV (ev_cb (ea_cons (ev_var rfl) (ea_cons ev_c ea_nil)) (rc_isi (T := "tuple") (b := false) (fun _ e => ty_tup (ex_t e hs)) (by decide +kernel))) (b := false) fun z => nomatch z) fun H1 e1 => q H1 e1
    · exact s_ret (ev_andV (ev_cb (ea_cons (ev_var rfl) (ea_cons ev_c ea_nil)) (rc_isi (T := "list") (b := false) (fun _ e => ty_lst (ex_l e hs)) (by decide +kernel))) (b := false) fun z => nomatch z) fun H1 e1 => q H1 e1
theorem ok_require_message {f : Addr} {fd : FuncData} (F : Fun K "require_message" "require_message" s_require_message f fd) (T : Tx K mg base a__SWITCHES a_SIDES a__STRENGTHS a__PART_COUNTS a_InvalidMessage a_InvalidSide a_InvalidStrength a_MessageTooLong a_SquaremarkError a_InvalidCertificate a_InvalidSymbols a_InvalidImage a_DecodeFailed a_InvalidBlock a_InvalidSymbol a_BlockDecodable a_PartialMessage a__BLOCK_COUNTS c_law p_law) :
    FnOk P w K mg base CX0 1 f fd ["text"] spMsg := by
  refine F.ok sc_require_message (fun vs H Q E h => ?_) (fun cdv A outer s H vs Q E hr h => ?_)
  · obtain ⟨l, rfl, o, q⟩ := h
    rfl
  · obtain ⟨l, rfl, o, q⟩ := h
    refine ⟨_, (pss_cons (ps_if (pt_not (pt_val (pe_callB call_isi (by rfl) T.n_isinstance (by decide +kernel) (pa_cons (pv 0) (pa_cons (pe_bltn (v := .ty "str") (by rfl) T.n_str (by decide +kernel) rfl) pa_nil)))))
    (pss_one ps_never)
    pss_nil)
    (pss_one (ps_for PassesOwn.never rfl (pi_enumS (by rfl) T.n_enumerate (pa_cons (pv 0) pa_nil)) (pg_tup (by rfl) (pgs_cons (pg_name (i := 1) sc_require_message.nd rfl (by walk_at "sq_cell")) (pgs_cons (pg_name (i := 2) sc_require_message.nd rfl (by walk_at "sq_cell")) pgs_nil)))
    (pss_one (ps_if (PW.pt (pw_or (pt_cmpR op_ge (pv 1) (pe_glob (v := .int 200) (by rfl) T.g_LONGEST_MESSAGE.choose_spec ⟨_, rfl⟩) (nomark _)) (pw_or1 (pt_cmpR op_notIn_sign (pv 2) (pe_glob (v := .str " !\"#$&'()*+,-./0123456789:;<=>?@ABCDEFGHIJKLMNOPQRSTUVWXYZ[\\]^_`abcdefghijklmnopqrstuvwxyz{|}~") (by rfl) T.g_ALPHABET.choose_spec ⟨_, rfl⟩) rfl))))
    (pss_one ps_never)
    pss_nil))))), ?_⟩

    refine q_when (b := false) (et_is (et_not (et_B (ev_cb (ea_cons (ev_var rfl) (ea_cons ev_c ea_nil)) (rc_isi (T := "str") (b := true) (fun _ _ => .base (.str _)) (by decide +kernel))))) rfl) (fun z => nomatch z) fun _ H1 e1 => ?_
    refine s_forES (l := l) (ea_cons (ev_var rfl) ea_nil) (fun c hc => alp_asc c (o.chars c hc)) (fun i σ' H' => Ex H H' ∧ ∃ x1 x2, σ' = [some (.str (txt l)), x1, x2]) (fun H2 e2 => ⟨e1.trans e2, _, _, rfl⟩) ?_ ?_
    · rintro k c T2 σ' H' hc ⟨e, x1, x2, rfl⟩ hT
      have eT : Ex H' (upd H' T2 (.tup [.int (k : Int), sgn c])) := Ex.new hT
      generalize upd H' T2 (.tup [.int (k : Int), sgn c]) = G at eT ⊢
      have hk := (List.getElem?_eq_some_iff.mp hc).1
      have ol := o.len
      refine s_when (b := false) (et_is (et_or (et_test (ev_op (ev_var rfl) ev_c rv_I0)) fun _ => et_test (ev_op (x := sgn c) (ev_var rfl) ev_c rv_niS1)) ?_) (fun z => nomatch z) fun _ H3 e3 => ⟨(e.trans eT).trans e3, _, _, rfl⟩
      rw [decide_eq_true (o.chars c (List.mem_of_getElem? hc))]
      simp
      omega
    · rintro σ' H' ⟨e, x1, x2, rfl⟩
      exact q H' e
theorem ok__shortest_ways {f : Addr} {fd : FuncData} (F : Fun K "_shortest_ways" "_shortest_ways" s__shortest_ways f fd) (T : Tx K mg base a__SWITCHES a_SIDES a__STRENGTHS a__PART_COUNTS a_InvalidMessage a_InvalidSide a_InvalidStrength a_MessageTooLong a_SquaremarkError a_InvalidCertificate a_InvalidSymbols a_InvalidImage a_DecodeFailed a_InvalidBlock a_InvalidSymbol a_BlockDecodable a_PartialMessage a__BLOCK_COUNTS c_law p_law) :
    FnOk P w K mg base CX0 1 f fd ["ways", "rest"] (spO K [] S_short) := by
  refine F.ok sc__shortest_ways (fun vs H Q E h => ?_) (fun cdv A outer s H vs Q E hr h => ?_)
  · obtain ⟨N, ds, k, e, g, dv, ⟨ws, r, rfl, hl, hm, hk⟩, q⟩ := h
    exact dv.len
  · obtain ⟨N, ds, k, e, g, dv, ⟨ws, r, rfl, hl, hm, hk⟩, q⟩ := h
    refine ⟨_, (pss_cons (ps_set (i := 2) sc__shortest_ways.nd rfl (by walk_at "sq_cell") (pe_lc (own := [("written", 3), ("mode", 4)]) (g := gTup K 2 (gCons (gName 3) (gCons (gName 4) gNil))) (tt := _) rfl sc__shortest_ways.nd (pi_list (pv 0)) (blkOk_by (own := [("written", 3), ("mode", 4)]) (N := ["ways", "rest", "lengths", "written", "mode", "way", "length"]) (sc := defScope s__shortest_ways) (by decide +kernel)) (fun _ _ _ _ _ => pg_tup (by rfl) (pgs_cons (pg_name (i := 3) sc__shortest_ways.nd rfl (Or.inl rfl)) (pgs_cons (pg_name (i := 4) sc__shortest_ways.nd rfl (Or.inl rfl)) pgs_nil))) (fun _ _ _ _ _ => pts_nil) (fun _ _ _ _ _ => (pe_op op_add (pe_callB (r := rLenS K) call_len_seq (by rfl) T.n_len PySem.boot_len (pa_cons (pv 3) pa_nil)) (pe_ix (r := rIxT K) ix_tup (pe_ix (r := rIxL K) ix_list (pv 1) (pv 4) (fun _ _ => rfl)) pe_int (fun _ _ => rfl))))))
    (pss_one (ps_ret (pe_lc (own := [("way", 5), ("length", 6)]) (g := gTup K 2 (gCons (gName 5) (gCons (gName 6) gNil))) (tt := _) rfl sc__shortest_ways.nd (RZ.pi_zipA (by rfl) T.n_zip (pa_cons (pv 0) (pa_cons (pv 2) pa_nil))) (blkOk_by (own := [("way", 5), ("length", 6)]) (N := ["ways", "rest", "lengths", "written", "mode", "way", "length"]) (sc := defScope s__shortest_ways) (by decide +kernel)) (fun _ _ _ _ _ => pg_tup (by rfl) (pgs_cons (pg_name (i := 5) sc__shortest_ways.nd rfl (Or.inl rfl)) (pgs_cons (pg_name (i := 6) sc__shortest_ways.nd rfl (Or.inl rfl)) pgs_nil))) (fun _ _ _ _ _ => (pts_one (pt_cmpR op_eq (pv 6) (pe_callB (r := rMin K) (cr_min rfl) (by rfl) T.n_min (by decide +kernel) (pa_cons (pv 2) pa_nil)) (nomark _)))) (fun _ _ _ _ _ => (pv 5)))))), run_O dv e g q ?_⟩
    show Sat K _ { n := N, h := H } _ _ [.d _, .d _, .no, .no, .no, .no, .no]
    try dsimp only [cxOf, Cx.nox, Cx.wish, List.map]

    refine sat_seq (sat_set (ec_O (eo_map (g0 := wayD) (fun w => I (wayLen r w : Nat)) (it_list (ec_var rfl ⟨_, rfl, ws, rfl, by omega, fun w hw => ⟨_, ?_, tg_tup rfl (tgs_cons (tg_name (tgs_cons (tg_name (tgs_nil ?_)))))⟩, ?_⟩)))))
    · simp
    · repeat (walk_at "dv1")
      refine oc_ixL (rest_at r (hm w hw)) (ec_c (oc_ixT rfl (oc_i0 ?_)))
      unfold wayLen
      rw [List.length_map]
      rfl
    refine sat_retO (eo_filter (g0 := fun w => .tup [wayD w, I (wayLen r w : Nat)]) (fun w => decide (wayLen r w = minL (ws.map (wayLen r)))) wayD (it_zipL (ea_consC (ec_var rfl (ea_consC (ec_var rfl (ea_nilC ⟨_, _, rfl, ws, zipD_map _ _ ws, by omega, fun w hw => ⟨_, ?_, tg_tup rfl (tgs_cons (tg_name (tgs_cons (tg_name (tgs_nil ?_)))))⟩, hk⟩)))))))
    · simp
    · repeat (walk_at "dv1")
      have z : ws.map (fun w => I (wayLen r w : Nat)) = ((ws.map (wayLen r)).map fun n => ((n : Nat) : Int)).map I := by
        rw [List.map_map, List.map_map]
        rfl
      rw [z]
      refine cc_min ?_ fun m hm hle => ?_
      · rw [List.length_map, List.length_map]
        exact List.length_pos_of_mem hw
      · obtain ⟨x, hx, rfl⟩ := List.mem_map.mp hm
        have hne : ws.map (wayLen r) ≠ [] := List.ne_nil_of_mem hx
        have z1 := hle _ (List.mem_map.mpr ⟨_, minL_mem hne, rfl⟩)
        have z2 := minL_le hx
        have e : x = minL (ws.map (wayLen r)) := by omega
        subst e
        refine oc_eqI ⟨_, rfl, ?_, fun _ => ec_var rfl rfl⟩
        exact decide_eq_decide.mpr ⟨fun z => by omega, fun z => by omega⟩
theorem ok__measure_rest {f : Addr} {fd : FuncData} (F : Fun K "_measure_rest" "_measure_rest" s__measure_rest f fd) (T : Tx K mg base a__SWITCHES a_SIDES a__STRENGTHS a__PART_COUNTS a_InvalidMessage a_InvalidSide a_InvalidStrength a_MessageTooLong a_SquaremarkError a_InvalidCertificate a_InvalidSymbols a_InvalidImage a_DecodeFailed a_InvalidBlock a_InvalidSymbol a_BlockDecodable a_PartialMessage a__BLOCK_COUNTS c_law p_law)
    (D__shortest_ways : Dfn P w K mg base 1 "_shortest_ways" ["ways", "rest"] (spO K [] S_short)) :
    FnOk P w K mg base CX0 2 f fd ["ways", "rest"] (spC K [] S_mrest) := by
  refine F.ok sc__measure_rest (fun vs H Q E h => ?_) (fun cdv A outer s H vs Q E hr h => ?_)
  · obtain ⟨N, ds, k, e, g, dv, ⟨ws, r, rfl, hne, hl, hm, hk⟩, q⟩ := h
    exact dv.len
  · obtain ⟨N, ds, k, e, g, dv, ⟨ws, r, rfl, hne, hl, hm, hk⟩, q⟩ := h
    refine ⟨_, (pss_cons (ps_set (i := 2) sc__measure_rest.nd rfl (by walk_at "sq_cell") pe_int)
    (pss_cons (ps_set (i := 3) sc__measure_rest.nd rfl (by walk_at "sq_cell") pe_int)
    (pss_cons (ps_for PassesOwn.never rfl (pi_list (pe_callD D__shortest_ways hr (by decide) (by rfl) (pa_cons (pv 0) (pa_cons (pv 1) pa_nil)))) (pg_tup (by rfl) (pgs_cons (pg_name (i := 4) sc__measure_rest.nd rfl (by walk_at "sq_cell")) (pgs_cons (pg_name (i := 5) sc__measure_rest.nd rfl (by walk_at "sq_cell")) pgs_nil)))
    (pss_cons (ps_asg (pe_ix (r := rIxL K) ix_list (pv 1) (pv 5) (fun _ _ => rfl)) (pg_tup (by rfl) (pgs_cons (pg_name (i := 6) sc__measure_rest.nd rfl (by walk_at "sq_cell")) (pgs_cons (pg_name (i := 7) sc__measure_rest.nd rfl (by walk_at "sq_cell")) pgs_nil))))
    (pss_cons (ps_set (i := 2) sc__measure_rest.nd rfl (by walk_at "sq_cell") (pe_op op_add (pe_callB (r := rLenS K) call_len_seq (by rfl) T.n_len PySem.boot_len (pa_cons (pv 4) pa_nil)) (pv 6)))
    (pss_one (ps_aug (i := 3) sc__measure_rest.nd rfl (by walk_at "sq_cell") (pv 7) ip_add)))))
    (pss_one (ps_ret (pe_tup (pa_cons (pv 2) (pa_cons (pv 3) pa_nil)))))))), run_C dv e g q ?_⟩
    show Sat K _ { n := N, h := H } _ _ [.d _, .d _, .no, .no, .no, .no, .no, .no]
    try dsimp only [cxOf, Cx.nox, Cx.wish, List.map]

    repeat (walk_at "dv1")
    refine sat_forM (g0 := wayD) (fun i δ' => ∃ (le : Nat) (x4 x5 x6 x7 : Sl), δ' = [.d (.lst (ws.map wayD)), .d (restD r), .d (I (le : Int)), .d (I (sumN r ((shortW r ws).take i) : Nat)), x4, x5, x6, x7] ∧ (0 < i → le = minL (ws.map (wayLen r)))) (it_list ?_)
    repeat (walk_at "dv1")
    refine ⟨ws, r, rfl, hl, hm, _, rfl, shortW r ws, rfl, ⟨0, _, _, _, _, rfl, fun h => absurd h (by decide)⟩, ?_, ?_⟩
    · rintro i w δ' hw ⟨le, x4, x5, x6, x7, rfl, _⟩
      obtain ⟨hmem, hlen⟩ := short_mem (List.mem_of_getElem? hw)
      repeat (walk_at "dv1")
      refine oc_ixL (rest_at r (hm w hmem)) ?_
      repeat (walk_at "dv1")
      refine ⟨minL (ws.map (wayLen r)), .d (.lst (w.1.map I)), .d (I (w.2 : Int)), .d (I ((restAt r w.2).1 : Nat)), .d (I ((restAt r w.2).2 : Nat)), ?_, fun _ => rfl⟩
      rw [sumN_s hw, Int.natCast_add, ← hlen, ← wayLen_eq]
      rfl
    · rintro δ' ⟨le, x4, x5, x6, x7, rfl, hle⟩
      have hz := hle (List.length_pos_iff.mpr (short_ne hne))
      subst hz
      rw [List.take_length]
      repeat (walk_at "dv1")
      exact hk
theorem ok__write_in_letter_mode {f : Addr} {fd : FuncData} (F : Fun K "_write_in_letter_mode" "_write_in_letter_mode" s__write_in_letter_mode f fd) (T : Tx K mg base a__SWITCHES a_SIDES a__STRENGTHS a__PART_COUNTS a_InvalidMessage a_InvalidSide a_InvalidStrength a_MessageTooLong a_SquaremarkError a_InvalidCertificate a_InvalidSymbols a_InvalidImage a_DecodeFailed a_InvalidBlock a_InvalidSymbol a_BlockDecodable a_PartialMessage a__BLOCK_COUNTS c_law p_law) :
    FnOk P w K mg base CX0 1 f fd ["character"] spLetW := by
  refine F.ok sc__write_in_letter_mode (fun vs H Q E h => ?_) (fun cdv A outer s H vs Q E hr h => ?_)
  · obtain ⟨c, rfl, q⟩ := h
    rfl
  · obtain ⟨c, rfl, q⟩ := h
    refine ⟨_, (pss_cons (ps_if (pt_cmpR op_in_sign (pv 0) (pe_glob (v := .str "etaoinsrhldu ") (by rfl) T.g__LETTER_CHARACTERS.choose_spec ⟨_, rfl⟩) rfl)
    (pss_one (ps_ret (pe_lst (pa_cons (pe_m1 PySem.F.slot_str_index PySem.F.type_str_index mt_sindex (pe_glob (v := .str "etaoinsrhldu ") (by rfl) T.g__LETTER_CHARACTERS.choose_spec ⟨_, rfl⟩) (pv 0)) pa_nil))))
    pss_nil)
    (pss_cons (ps_if (pt_cmpR op_in_sign (pv 0) (pe_glob (v := .str "cmfpgwybvkxjqz,'") (by rfl) T.g__RARE_CHARACTERS.choose_spec ⟨_, rfl⟩) rfl)
    (pss_one (ps_ret (pe_lst (pa_cons (pe_glob (v := .int 13) (by rfl) T.g__ESCAPE.choose_spec ⟨_, rfl⟩) (pa_cons (pe_m1 PySem.F.slot_str_index PySem.F.type_str_index mt_sindex (pe_glob (v := .str "cmfpgwybvkxjqz,'") (by rfl) T.g__RARE_CHARACTERS.choose_spec ⟨_, rfl⟩) (pv 0)) pa_nil)))))
    pss_nil)
    (pss_one (ps_ret (pe_lst pa_nil))))), ?_⟩

    by_cases h1 : c ∈ cpsL letS
    · refine q_when (b := true) (et_is (et_test (ev_op (x := sgn c) (ev_var rfl) ev_c rv_inS1)) (decide_eq_true h1)) (fun _ H1 e1 => s_retL (el_lst (ea_cons (ev_idx ev_c (ev_var rfl) (let_ix c h1)) ea_nil) (by show 1 ≤ 100000; decide)) fun p H2 hp e2 h2 => q p H2 (fresh_back e1 hp) (e1.trans e2) ?_) (fun z => nomatch z)
      rw [h2]
      unfold letW
      rw [if_pos h1]
      rfl
    refine q_when (b := false) (et_is (et_test (ev_op (x := sgn c) (ev_var rfl) ev_c rv_inS1)) (decide_eq_false h1)) (fun z => nomatch z) fun _ H1 e1 => ?_
    by_cases h2 : c ∈ cpsL rarS
    · refine q_when (b := true) (et_is (et_test (ev_op (x := sgn c) (ev_var rfl) ev_c rv_inS1)) (decide_eq_true h2)) (fun _ H2 e2 => s_retL (el_lst (ea_cons ev_c (ea_cons (ev_idx ev_c (ev_var rfl) (rar_ix c h2)) ea_nil)) (by show 2 ≤ 100000; decide)) fun p H3 hp e3 h3 => q p H3 (fresh_back (e1.trans e2) hp) ((e1.trans e2).trans e3) ?_) (fun z => nomatch z)
      rw [h3]
      unfold letW
      rw [if_neg h1, if_pos h2]
      rfl
    refine q_when (b := false) (et_is (et_test (ev_op (x := sgn c) (ev_var rfl) ev_c rv_inS1)) (decide_eq_false h2)) (fun z => nomatch z) fun _ H2 e2 => ?_
    refine s_retL (el_lst ea_nil (by decide)) fun p H3 hp e3 h3 => q p H3 (fresh_back (e1.trans e2) hp) ((e1.trans e2).trans e3) ?_
    rw [h3]
    unfold letW
    rw [if_neg h1, if_neg h2]
    rfl
theorem ok__write_in_digit_mode {f : Addr} {fd : FuncData} (F : Fun K "_write_in_digit_mode" "_write_in_digit_mode" s__write_in_digit_mode f fd) (T : Tx K mg base a__SWITCHES a_SIDES a__STRENGTHS a__PART_COUNTS a_InvalidMessage a_InvalidSide a_InvalidStrength a_MessageTooLong a_SquaremarkError a_InvalidCertificate a_InvalidSymbols a_InvalidImage a_DecodeFailed a_InvalidBlock a_InvalidSymbol a_BlockDecodable a_PartialMessage a__BLOCK_COUNTS c_law p_law) :
    FnOk P w K mg base CX0 1 f fd ["character"] spDigW := by
  refine F.ok sc__write_in_digit_mode (fun vs H Q E h => ?_) (fun cdv A outer s H vs Q E hr h => ?_)
  · obtain ⟨c, rfl, hc, q⟩ := h
    rfl
  · obtain ⟨c, rfl, hc, q⟩ := h
    refine ⟨_, (pss_cons (ps_if (pt_cmpR op_in_sign (pv 0) (pe_glob (v := .str "0123456789 .") (by rfl) T.g__DIGIT_CHARACTERS.choose_spec ⟨_, rfl⟩) rfl)
    (pss_one (ps_ret (pe_lst (pa_cons (pe_m1 PySem.F.slot_str_index PySem.F.type_str_index mt_sindex (pe_glob (v := .str "0123456789 .") (by rfl) T.g__DIGIT_CHARACTERS.choose_spec ⟨_, rfl⟩) (pv 0)) pa_nil))))
    pss_nil)
    (pss_cons (ps_if (pt_cmpR op_eq (pv 0) pe_str (nomark _))
    (pss_one (ps_ret (pe_lst (pa_cons (pe_glob (v := .int 14) (by rfl) T.g__HYPHEN.choose_spec ⟨_, rfl⟩) pa_nil))))
    pss_nil)
    (pss_cons (ps_set (i := 1) sc__write_in_digit_mode.nd rfl (by walk_at "sq_cell") (pe_m1 PySem.F.slot_str_index PySem.F.type_str_index mt_sindex (pe_glob (v := .str " !\"#$&'()*+,-./0123456789:;<=>?@ABCDEFGHIJKLMNOPQRSTUVWXYZ[\\]^_`abcdefghijklmnopqrstuvwxyz{|}~") (by rfl) T.g_ALPHABET.choose_spec ⟨_, rfl⟩) (pv 0)))
    (pss_one (ps_ret (pe_lst (pa_cons (pe_glob (v := .int 13) (by rfl) T.g__ESCAPE.choose_spec ⟨_, rfl⟩) (pa_cons (pe_op op_shr (pv 1) pe_int) (pa_cons (pe_op op_and (pv 1) pe_int) pa_nil))))))))), ?_⟩

    by_cases h1 : c ∈ cpsL digS
    · refine q_when (b := true) (et_is (et_test (ev_op (x := sgn c) (ev_var rfl) ev_c rv_inS1)) (decide_eq_true h1)) (fun _ H1 e1 => s_retL (el_lst (ea_cons (ev_idx ev_c (ev_var rfl) (dig_ix c h1)) ea_nil) (by show 1 ≤ 100000; decide)) fun p H2 hp e2 h2 => q p H2 (fresh_back e1 hp) (e1.trans e2) ?_) (fun z => nomatch z)
      rw [h2]
      unfold digW
      rw [if_pos h1]
      rfl
    refine q_when (b := false) (et_is (et_test (ev_op (x := sgn c) (ev_var rfl) ev_c rv_inS1)) (decide_eq_false h1)) (fun z => nomatch z) fun _ H1 e1 => ?_
    by_cases h2 : c = 45
    · subst h2
      refine q_when (b := true) (et_is (et_test (ev_op (x := sgn 45) (ev_var rfl) ev_c (rv_eq rfl))) rfl) (fun _ H2 e2 => s_retL (el_lst (ea_cons ev_c ea_nil) (by decide)) fun p H3 hp e3 h3 => q p H3 (fresh_back (e1.trans e2) hp) ((e1.trans e2).trans e3) ?_) (fun z => nomatch z)
      rw [h3]
      rfl
    refine q_when (b := false) (et_is (et_test (ev_op (x := sgn c) (ev_var rfl) ev_c (rv_eq rfl))) (decide_eq_false fun z => h2 ((sgn_pre (p := some 45)).mp z |> fun w => (Option.some.inj w).symm))) (fun z => nomatch z) fun _ H2 e2 => ?_
    refine q_asg (ev_idx ev_c (ev_var rfl) (alp_ix c hc)) fun H3 e3 => ?_
    refine s_retL (el_lst (ea_cons ev_c (ea_cons (ev_op (ev_var rfl) ev_c (rv_I (by decide))) (ea_cons (ev_op (ev_var rfl) ev_c rv_I0) ea_nil))) (by show 3 ≤ 100000; decide)) fun p H4 hp e4 h4 => q p H4 (fresh_back ((e1.trans e2).trans e3) hp) (((e1.trans e2).trans e3).trans e4) ?_
    rw [h4]
    unfold digW
    rw [if_neg h1, if_neg h2]
    rfl
theorem ok__write_character {f : Addr} {fd : FuncData} (F : Fun K "_write_character" "_write_character" s__write_character f fd) (T : Tx K mg base a__SWITCHES a_SIDES a__STRENGTHS a__PART_COUNTS a_InvalidMessage a_InvalidSide a_InvalidStrength a_MessageTooLong a_SquaremarkError a_InvalidCertificate a_InvalidSymbols a_InvalidImage a_DecodeFailed a_InvalidBlock a_InvalidSymbol a_BlockDecodable a_PartialMessage a__BLOCK_COUNTS c_law p_law)
    (D__write_in_letter_mode : Dfn P w K mg base 1 "_write_in_letter_mode" ["character"] spLetW)
    (D__write_in_digit_mode : Dfn P w K mg base 1 "_write_in_digit_mode" ["character"] spDigW) :
    FnOk P w K mg base CX0 2 f fd ["character", "mode"] spWrt := by
  refine F.ok sc__write_character (fun vs H Q E h => ?_) (fun cdv A outer s H vs Q E hr h => ?_)
  · obtain ⟨c, m, rfl, hc, q⟩ := h
    rfl
  · obtain ⟨c, m, rfl, hc, q⟩ := h
    refine ⟨_, (pss_cons (ps_if (pt_cmpR op_eq (pv 1) (pe_glob (v := .int 0) (by rfl) T.g__DIGIT_MODE.choose_spec ⟨_, rfl⟩) (nomark _))
    (pss_one (ps_ret (pe_callD D__write_in_digit_mode hr (by decide) (by rfl) (pa_cons (pv 0) pa_nil))))
    pss_nil)
    (pss_one (ps_ret (pe_callD D__write_in_letter_mode hr (by decide) (by rfl) (pa_cons (pv 0) pa_nil))))), ?_⟩

    by_cases h0 : m = 0
    · subst h0
      exact q_when (b := true) (et_is (et_test (ev_op (ev_var rfl) ev_c (rv_eq rfl))) rfl) (fun _ H1 e1 => s_retL (el_callD (ea_cons (ev_var rfl) ea_nil) (spl_digW hc)) fun p H2 hp e2 h2 => q p H2 (fresh_back e1 hp) (e1.trans e2) h2) (fun z => nomatch z)
    refine q_when (b := false) (et_is (et_test (ev_op (ev_var rfl) ev_c (rv_eq rfl))) (decide_eq_false fun z => h0 (by injection z with z; omega))) (fun z => nomatch z) fun _ H1 e1 => s_retL (el_callD (ea_cons (ev_var rfl) ea_nil) spl_letW) fun p H2 hp e2 h2 => q p H2 (fresh_back e1 hp) (e1.trans e2) ?_
    rw [h2]
    unfold wrtW
    rw [if_neg h0]
theorem ok__list_ways {f : Addr} {fd : FuncData} (F : Fun K "_list_ways" "_list_ways" s__list_ways f fd) (T : Tx K mg base a__SWITCHES a_SIDES a__STRENGTHS a__PART_COUNTS a_InvalidMessage a_InvalidSide a_InvalidStrength a_MessageTooLong a_SquaremarkError a_InvalidCertificate a_InvalidSymbols a_InvalidImage a_DecodeFailed a_InvalidBlock a_InvalidSymbol a_BlockDecodable a_PartialMessage a__BLOCK_COUNTS c_law p_law)
    (D__write_character : Dfn P w K mg base 2 "_write_character" ["character", "mode"] spWrt) :
    FnOk P w K mg base CX0 3 f fd ["character", "mode"] (spO K [] S_ways) := by
  refine F.ok sc__list_ways (fun vs H Q E h => ?_) (fun cdv A outer s H vs Q E hr h => ?_)
  · obtain ⟨N, ds, k, e, g, dv, ⟨c, m, rfl, hc, hm, hk⟩, q⟩ := h
    exact dv.len
  · obtain ⟨N, ds, k, e, g, dv, ⟨c, m, rfl, hc, hm, hk⟩, q⟩ := h
    have c__SWITCHES : ∀ N, DV K N (.ref a__SWITCHES) (.tup ((([12, 14] : List Int).map V.int).map .sc)) := fun N => .tup (T.t__SWITCHES N) (DVs.ofSc _)
    refine ⟨_, (pss_cons (ps_set (i := 2) sc__list_ways.nd rfl (by walk_at "sq_cell") (pe_lst pa_nil))
    (pss_cons (ps_set (i := 3) sc__list_ways.nd rfl (by walk_at "sq_cell") (pe_callD D__write_character hr (by decide) (by rfl) (pa_cons (pv 0) (pa_cons (pv 1) pa_nil))))
    (pss_cons (ps_if (pt_truth (pv 3) (fun _ => rfl))
    (pss_one (ps_expr (pe_bm PySem.F.plainAttrs_list PySem.F.slot_list_append PySem.F.type_list_append mt_append (pv 2) (pa_cons (pe_tup (pa_cons (pv 3) (pa_cons (pv 1) pa_nil))) pa_nil))))
    pss_nil)
    (pss_cons (ps_set (i := 4) sc__list_ways.nd rfl (by walk_at "sq_cell") (pe_callD D__write_character hr (by decide) (by rfl) (pa_cons (pv 0) (pa_cons (pe_op op_sub pe_int (pv 1)) pa_nil))))
    (pss_cons (ps_if (pt_truth (pv 4) (fun _ => rfl))
    (pss_one (ps_expr (pe_bm PySem.F.plainAttrs_list PySem.F.slot_list_append PySem.F.type_list_append mt_append (pv 2) (pa_cons (pe_tup (pa_cons (pe_op op_cat (pe_lst (pa_cons (pe_ix (r := rIxT K) ix_tup (pe_glob (v := .ref _) (by rfl) T.g__SWITCHES rfl) (pv 1) (fun _ _ => rfl)) pa_nil)) (pv 4)) (pa_cons (pe_op op_sub pe_int (pv 1)) pa_nil))) pa_nil))))
    pss_nil)
    (pss_one (ps_ret (pv 2)))))))), run_O dv e g q ?_⟩
    show Sat K _ { n := N, h := H } _ _ [.d _, .d _, .no, .no, .no]
    try dsimp only [cxOf, Cx.nox, Cx.wish, List.map]

    refine sat_seq (sat_setO (eo_lst (ea_nilC ⟨by decide, ?_⟩)))
    refine sat_seq (sat_set (ec_O (eo_callL ?_)))
    refine ea_consC (ec_var rfl (ea_consC (ec_var rfl (ea_nilC ⟨[sgn c, .int (m : Int)], (wrtW c m).map V.int, rfl, fun H => spl_wrt hc, ?_⟩))))
    rw [List.map_map]
    refine sat_mid [.d (Sg c), .d (I (m : Int)), .own ((way1 c m).map wayD), .d (.lst ((wrtW c m).map I)), .no] ?_ ?_
    · refine sat_if (eb_tru (ec_var rfl ⟨_, rfl, fun h => ?_, fun h => ?_⟩))
      · rw [way1_yes (not_emp h)]
        refine sat_app rfl (by decide) ?_
        repeat (walk_at "dv1")
        rfl
      · rw [way1_no (is_emp h)]
        exact sat_next rfl
    refine sat_seq (sat_set (ec_O (eo_callL ?_)))
    repeat (walk_at "dv1")
    refine ⟨[sgn c, .int ((1 - m : Nat) : Int)], (wrtW c (1 - m)).map V.int, ?_, fun H => spl_wrt hc, ?_⟩
    · have z : (1 : Int) - (m : Int) = ((1 - m : Nat) : Int) := by omega
      rw [z]
      rfl
    rw [List.map_map]
    refine sat_mid [.d (Sg c), .d (I (m : Int)), .own ((waysOf c m).map wayD), .d (.lst ((wrtW c m).map I)), .d (.lst ((wrtW c (1 - m)).map I))] ?_ (sat_retI rfl hk)
    unfold waysOf
    refine sat_if (eb_tru (ec_var rfl ⟨_, rfl, fun h => ?_, fun h => ?_⟩))
    · rw [way2_yes (not_emp h)]
      refine sat_app rfl (way1_short c m) ?_
      repeat (walk_at "dv1")
      refine oc_ixT (sw_atD hm) (ea_nilC ⟨(by decide : 1 ≤ 100000), ec_var rfl (oo_cat ?_ ?_)⟩)
      · have := wrt_len c m
        simpa using this
      repeat (walk_at "dv1")
      have z : (1 : Int) - (m : Int) = ((1 - m : Nat) : Int) := by omega
      rw [z, List.map_append]
      rfl
    · rw [way2_no (is_emp h), List.append_nil]
      exact sat_next rfl
theorem ok__measure_rests {f : Addr} {fd : FuncData} (F : Fun K "_measure_rests" "_measure_rests" s__measure_rests f fd) (T : Tx K mg base a__SWITCHES a_SIDES a__STRENGTHS a__PART_COUNTS a_InvalidMessage a_InvalidSide a_InvalidStrength a_MessageTooLong a_SquaremarkError a_InvalidCertificate a_InvalidSymbols a_InvalidImage a_DecodeFailed a_InvalidBlock a_InvalidSymbol a_BlockDecodable a_PartialMessage a__BLOCK_COUNTS c_law p_law)
    (D__measure_rest : Dfn P w K mg base 2 "_measure_rest" ["ways", "rest"] (spC K [] S_mrest))
    (D__list_ways : Dfn P w K mg base 3 "_list_ways" ["character", "mode"] (spO K [] S_ways)) :
    FnOk P w K mg base CX0 4 f fd ["text"] (spO K [] S_mrests) := by
  refine F.ok sc__measure_rests (fun vs H Q E h => ?_) (fun cdv A outer s H vs Q E hr h => ?_)
  · obtain ⟨N, ds, k, e, g, dv, ⟨l, rfl, o, hk⟩, q⟩ := h
    exact dv.len
  · obtain ⟨N, ds, k, e, g, dv, ⟨l, rfl, o, hk⟩, q⟩ := h
    refine ⟨_, (pss_cons (ps_set (i := 1) sc__measure_rests.nd rfl (by walk_at "sq_cell") (pe_lst (pa_cons (pe_tup (pa_cons pe_int (pa_cons pe_int pa_nil))) (pa_cons (pe_tup (pa_cons pe_int (pa_cons pe_int pa_nil))) pa_nil))))
    (pss_cons (ps_set (i := 2) sc__measure_rests.nd rfl (by walk_at "sq_cell") (pe_lst (pa_cons (pv 1) pa_nil)))
    (pss_cons (ps_for PassesOwn.never rfl (pi_revSt (by rfl) T.n_reversed (pv 0)) (pg_name (i := 3) sc__measure_rests.nd rfl (by walk_at "sq_cell"))
    (pss_cons (ps_set (i := 1) sc__measure_rests.nd rfl (by walk_at "sq_cell") (pe_lc (own := [("mode", 4)]) (g := gName 4) (tt := _) rfl sc__measure_rests.nd (pi_tup (pe_tup (pa_cons (pe_glob (v := .int 0) (by rfl) T.g__DIGIT_MODE.choose_spec ⟨_, rfl⟩) (pa_cons (pe_glob (v := .int 1) (by rfl) T.g__LETTER_MODE.choose_spec ⟨_, rfl⟩) pa_nil)))) (blkOk_by (own := [("mode", 4)]) (N := ["text", "rest", "rests", "character", "mode"]) (sc := defScope s__measure_rests) (by decide +kernel)) (fun _ _ _ _ _ => pg_name (i := 4) sc__measure_rests.nd rfl (by walk_at "sq_cell")) (fun _ _ _ _ _ => pts_nil) (fun _ _ _ _ _ => (pe_callD D__measure_rest hr (by decide) (by rfl) (pa_cons (pe_callD D__list_ways hr (by decide) (by rfl) (pa_cons (pv 3) (pa_cons (pv 4) pa_nil))) (pa_cons (pv 1) pa_nil))))))
    (pss_one (ps_expr (pe_bm PySem.F.plainAttrs_list PySem.F.slot_list_append PySem.F.type_list_append mt_append (pv 2) (pa_cons (pv 1) pa_nil))))))
    (pss_cons (ps_expr (pe_bm0 PySem.F.plainAttrs_list PySem.F.slot_list_reverse PySem.F.type_list_reverse mt_reverse (pv 2)))
    (pss_one (ps_ret (pv 2))))))), run_O dv e g q ?_⟩
    show Sat K _ { n := N, h := H } _ _ [.d _, .no, .no, .no, .no]
    try dsimp only [cxOf, Cx.nox, Cx.wish, List.map]

    refine sat_mid [.d (TxD l), .d (restD ⟨0, 1, 0, 1⟩), .no, .no, .no] (sat_set ?_) ?_
    · repeat (walk_at "dv1")
      rfl
    refine sat_mid [.d (TxD l), .d (restD ⟨0, 1, 0, 1⟩), .own [restD ⟨0, 1, 0, 1⟩], .no, .no] (sat_setO (eo_lst ?_)) ?_
    · repeat (walk_at "dv1")
      rfl
    have ol := o.len
    refine sat_seq (sat_forM (g0 := Sg) (fun i δ' => ∃ (x3 x4 : Sl), δ' = [.d (TxD l), .d (restD (restOf (l.drop (l.length - i)))), .own ((List.range (i + 1)).map fun j => restD (restOf (l.drop (l.length - j)))), x3, x4]) (it_revS (ec_var rfl ⟨l, rfl, by omega, l.reverse, rfl, ⟨.no, .no, ?_⟩, ?_, ?_⟩)))
    · rw [← rests_0 l, Nat.sub_zero, List.drop_length]
      rfl
    · rintro i c δ' hc ⟨x3, x4, rfl⟩
      obtain ⟨hr, hcl⟩ := rest_drop hc
      refine ⟨_, tg_name (sat_seq (sat_set (ec_O (eo_map (g0 := fun (m : Nat) => I (m : Int)) (fun (m : Nat) => .tup [I ((minL ((waysOf c m).map (wayLen (restOf (l.drop (l.length - i))))) : Nat) : Int), I ((sumN (restOf (l.drop (l.length - i))) (shortW (restOf (l.drop (l.length - i))) (waysOf c m)) : Nat) : Int)]) (it_tup ?_)))))⟩
      repeat (walk_at "dv1")
      refine ⟨[0, 1], rfl, by decide, fun m hm => ⟨_, ?_, tg_name ?_⟩, ?_⟩
      · simp
      · have hm1 : m ≤ 1 := by simp at hm; omega
        repeat (walk_at "dv1")
        refine ⟨c, m, rfl, o.chars c hcl, hm1, ?_⟩
        repeat (walk_at "dv1")
        exact ⟨waysOf c m, _, rfl, ways_ne (o.chars c hcl) hm1, by have := ways_le c m; omega, ways_mode hm1, rfl⟩
      · refine sat_app rfl (by simp; have := (List.getElem?_eq_some_iff.mp hc).1; rw [List.length_reverse] at this; omega) (ec_var rfl ⟨.d (Sg c), x4, ?_⟩)
        rw [← rests_snoc, ← hr]
        rfl
    · rintro δ' ⟨x3, x4, rfl⟩
      rw [List.length_reverse]
      refine sat_seq (sat_rev rfl (sat_retI rfl ?_))
      rw [rests_rev]
      exact hk
theorem ok_encode_text {f : Addr} {fd : FuncData} (F : Fun K "encode_text" "encode_text" s_encode_text f fd) (T : Tx K mg base a__SWITCHES a_SIDES a__STRENGTHS a__PART_COUNTS a_InvalidMessage a_InvalidSide a_InvalidStrength a_MessageTooLong a_SquaremarkError a_InvalidCertificate a_InvalidSymbols a_InvalidImage a_DecodeFailed a_InvalidBlock a_InvalidSymbol a_BlockDecodable a_PartialMessage a__BLOCK_COUNTS c_law p_law)
    (D_require_message : Dfn P w K mg base 1 "require_message" ["text"] spMsg)
    (D__measure_rests : Dfn P w K mg base 4 "_measure_rests" ["text"] (spO K [] S_mrests))
    (D__shortest_ways : Dfn P w K mg base 1 "_shortest_ways" ["ways", "rest"] (spO K [] S_short))
    (D__list_ways : Dfn P w K mg base 3 "_list_ways" ["character", "mode"] (spO K [] S_ways)) :
    FnOk P w K mg base CX0 5 f fd ["text"] (spO K [] S_enc) := by
  refine F.ok sc_encode_text (fun vs H Q E h => ?_) (fun cdv A outer s H vs Q E hr h => ?_)
  · obtain ⟨N, ds, k, e, g, dv, ⟨l, rfl, o, hk⟩, q⟩ := h
    exact dv.len
  · obtain ⟨N, ds, k, e, g, dv, ⟨l, rfl, o, hk⟩, q⟩ := h
    refine ⟨_, (pss_cons (ps_expr (pe_callD D_require_message hr (by decide) (by rfl) (pa_cons (pv 0) pa_nil)))
    (pss_cons (ps_set (i := 1) sc_encode_text.nd rfl (by walk_at "sq_cell") (pe_callD D__measure_rests hr (by decide) (by rfl) (pa_cons (pv 0) pa_nil)))
    (pss_cons (ps_set (i := 2) sc_encode_text.nd rfl (by walk_at "sq_cell") (pe_lst pa_nil))
    (pss_cons (ps_set (i := 3) sc_encode_text.nd rfl (by walk_at "sq_cell") (pe_glob (v := .int 0) (by rfl) T.g__DIGIT_MODE.choose_spec ⟨_, rfl⟩))
    (pss_cons (ps_for PassesOwn.never rfl (pi_enumS (by rfl) T.n_enumerate (pa_cons (pv 0) pa_nil)) (pg_tup (by rfl) (pgs_cons (pg_name (i := 4) sc_encode_text.nd rfl (by walk_at "sq_cell")) (pgs_cons (pg_name (i := 5) sc_encode_text.nd rfl (by walk_at "sq_cell")) pgs_nil)))
    (pss_cons (ps_set (i := 6) sc_encode_text.nd rfl (by walk_at "sq_cell") (pe_callD D__shortest_ways hr (by decide) (by rfl) (pa_cons (pe_callD D__list_ways hr (by decide) (by rfl) (pa_cons (pv 5) (pa_cons (pv 3) pa_nil))) (pa_cons (pe_ix (r := rIxL K) ix_list (pv 1) (pe_op op_add (pv 4) pe_int) (fun _ _ => rfl)) pa_nil))))
    (pss_cons (ps_asg (pe_callB (r := rMinA K WayP) (cr_minA rfl (hu64 hr) (by decide) (fun _ _ => toD_inj)) (by rfl) T.n_min (by decide +kernel) (pa_cons (pv 6) pa_nil)) (pg_tup (by rfl) (pgs_cons (pg_name (i := 7) sc_encode_text.nd rfl (by walk_at "sq_cell")) (pgs_cons (pg_name (i := 3) sc_encode_text.nd rfl (by walk_at "sq_cell")) pgs_nil))))
    (pss_one (ps_expr (pe_bm PySem.F.plainAttrs_list PySem.F.slot_list_extend PySem.F.type_list_extend mt_extend (pv 2) (pa_cons (pv 7) pa_nil)))))))
    (pss_one (ps_ret (pv 2)))))))), run_O dv e g q ?_⟩
    show Sat K _ { n := N, h := H } _ _ [.d _, .no, .no, .no, .no, .no, .no, .no]
    try dsimp only [cxOf, Cx.nox, Cx.wish, List.map]

    have ol := o.len
    refine sat_seq (sat_drop (ec_callV (ea_consC (ec_var rfl (ea_nilC ⟨[.str (txt l)], .non, rfl, fun H => spv_msg o, ?_⟩)))))
    refine sat_mid [.d (TxD l), .d (.lst ((List.range (l.length + 1)).map fun i => restD (restOf (l.drop i)))), .no, .no, .no, .no, .no, .no] (sat_set (ec_callO (ea_consC (ec_var rfl (ea_nilC ⟨l, rfl, o, rfl⟩))))) ?_
    refine sat_seq (sat_setO (eo_lst (ea_nilC ⟨by decide, ?_⟩)))
    refine sat_seq (sat_set (ec_c ?_))
    refine sat_seq (sat_forE (g0 := Sg) (fun i δ' => ∃ (pre : List Int) (m : Nat) (x4 x5 x6 x7 : Sl), δ' = [.d (TxD l), .d (.lst ((List.range (l.length + 1)).map fun i => restD (restOf (l.drop i)))), .own (pre.map I), .d (I (m : Int)), x4, x5, x6, x7] ∧ m ≤ 1 ∧ pre.length ≤ 4 * i ∧ encOf l 0 = pre ++ encOf (l.drop i) m) (it_enumS (ea_consC (ec_var rfl (ea_nilC ⟨l, rfl, fun c hc => alp_asc c (o.chars c hc), l, rfl, ⟨[], 0, .no, .no, .no, .no, rfl, by decide, by decide, rfl⟩, ?_, ?_⟩)))))
    · rintro i c δ' hc ⟨pre, m, x4, x5, x6, x7, rfl, hm, hp, he⟩
      have hil := (List.getElem?_eq_some_iff.mp hc).1
      have hcl := o.chars c (List.mem_of_getElem? hc)
      obtain ⟨w, hw, hb, _, hw2⟩ := best_way (r := restOf (l.drop (i + 1))) hcl hm
      obtain ⟨w0, vs, hsw, hbw⟩ := short_cons (short_ne (r := restOf (l.drop (i + 1))) (ways_ne hcl hm))
      have hwl := way_len hw
      repeat (walk_at "dv1")
      refine ⟨c, m, rfl, hcl, hm, ?_⟩
      repeat (walk_at "dv1")
      have hat : atI ((List.range (l.length + 1)).map fun i => restD (restOf (l.drop i))) ((i : Int) + 1) = some (restD (restOf (l.drop (i + 1)))) := by
        have z : ((i : Int) + 1) = ((i + 1 : Nat) : Int) := by omega
        rw [z]
        refine atI_nat ?_
        rw [List.getElem?_map, List.getElem?_range (by omega)]
        rfl
      refine oc_ixL hat ?_
      repeat (walk_at "dv1")
      refine ⟨waysOf c m, restOf (l.drop (i + 1)), rfl, by have := ways_le c m; omega, ways_mode hm, ?_⟩
      repeat (walk_at "dv1")
      have z : (shortW (restOf (l.drop (i + 1))) (waysOf c m)).map wayD = (wayP w0 :: vs.map wayP).map Dv.pairD := by
        rw [hsw, List.map_cons, List.map_cons, List.map_map]
        rfl
      rw [z]
      refine cc_minA toP_pair ?_
      rw [← hbw, hb]
      refine tgx_tup rfl ?_
      repeat (walk_at "dv1")
      refine sat_ext rfl (ec_var rfl ⟨w.1.map I, rfl, by rw [List.length_map, List.length_map]; omega, pre ++ w.1, w.2, .d (I (i : Int)), .d (Sg c), .d (.lst ((wayP w0 :: vs.map wayP).map Dv.pairD)), .d (.lst (w.1.map I)), ?_, hw2, by rw [List.length_append]; omega, ?_⟩)
      · rw [List.map_append]
        rfl
      · rw [he, enc_s hc, hb, List.append_assoc]
        rfl
    · rintro δ' ⟨pre, m, x4, x5, x6, x7, rfl, hm, hp, he⟩
      rw [List.drop_length] at he
      have z : encOf l 0 = pre := by rw [he]; exact List.append_nil _
      rw [z] at hk
      exact sat_retI rfl hk
theorem ok_require_strength {f : Addr} {fd : FuncData} (F : Fun K "require_strength" "require_strength" s_require_strength f fd) (T : Tx K mg base a__SWITCHES a_SIDES a__STRENGTHS a__PART_COUNTS a_InvalidMessage a_InvalidSide a_InvalidStrength a_MessageTooLong a_SquaremarkError a_InvalidCertificate a_InvalidSymbols a_InvalidImage a_DecodeFailed a_InvalidBlock a_InvalidSymbol a_BlockDecodable a_PartialMessage a__BLOCK_COUNTS c_law p_law)
    (D_is_number : Dfn P w K mg base 1 "is_number" ["value"] (spNum K)) :
    FnOk P w K mg base CX0 2 f fd ["strength"] (spC K [] Lb.S_rst) := by
  refine F.ok sc_require_strength (fun vs H Q E h => ?_) (fun cdv A outer s H vs Q E hr h => ?_)
  · obtain ⟨N, ds, k, e, g, dv, ⟨s, rfl, h1, h3, hk⟩, q⟩ := h
    exact dv.len
  · obtain ⟨N, ds, k, e, g, dv, ⟨s, rfl, h1, h3, hk⟩, q⟩ := h
    have c__STRENGTHS : ∀ N, DV K N (.ref a__STRENGTHS) (.tup ((([1, 2, 3] : List Int).map V.int).map .sc)) := fun N => .tup (T.t__STRENGTHS N) (DVs.ofSc _)
    refine ⟨_, (pss_one (ps_if (PW.pt (pw_or (pt_not (pt_val (pe_callD D_is_number hr (by decide) (by rfl) (pa_cons (pv 0) pa_nil)))) (pw_or1 (pt_cmpR (r := rIn K true) op_notIn_seq (pv 0) (pe_glob (v := .ref _) (by rfl) T.g__STRENGTHS rfl) rfl))))
    (pss_one ps_never)
    pss_nil)), run_C dv e g q ?_⟩
    show Sat K _ { n := N, h := H } _ _ [.d _]
    try dsimp only [cxOf, Cx.nox, Cx.wish, List.map]

    refine sat_if (eb_or (eb_not (eb_test (ec_callV (ea_consC (ec_var rfl (ea_nilC ⟨[.int _], .bl true, rfl, fun H => spv_num kd_int, ?_⟩)))))))
    refine ⟨_, rfl, (fun z => nomatch z), fun _ => ?_⟩
    repeat (walk_at "dv1")
    refine oc_inT rfl rfl ⟨_, rfl, fun z => ?_, fun _ => sat_next hk⟩
    have hs : s = 1 ∨ s = 2 ∨ s = 3 := by omega
    rcases hs with rfl | rfl | rfl <;> cases z
theorem ok_count_blocks {f : Addr} {fd : FuncData} (F : Fun K "count_blocks" "count_blocks" s_count_blocks f fd) (T : Tx K mg base a__SWITCHES a_SIDES a__STRENGTHS a__PART_COUNTS a_InvalidMessage a_InvalidSide a_InvalidStrength a_MessageTooLong a_SquaremarkError a_InvalidCertificate a_InvalidSymbols a_InvalidImage a_DecodeFailed a_InvalidBlock a_InvalidSymbol a_BlockDecodable a_PartialMessage a__BLOCK_COUNTS c_law p_law) :
    FnOk P w K mg base CX0 1 f fd ["side"] (spC K [] Lb.S_cb) := by
  refine F.ok sc_count_blocks (fun vs H Q E h => ?_) (fun cdv A outer s H vs Q E hr h => ?_)
  · obtain ⟨N, ds, k, e, g, dv, ⟨sd, rfl, hs, hk⟩, q⟩ := h
    exact dv.len
  · obtain ⟨N, ds, k, e, g, dv, ⟨sd, rfl, hs, hk⟩, q⟩ := h
    refine ⟨_, (pss_one (ps_ret (pe_ix (r := rIxI K) ix_kdi (pe_glob (v := .ref _) (by rfl) T.g__BLOCK_COUNTS rfl) (pv 0) (fun _ _ => rfl)))), run_C dv e g q ?_⟩
    show Sat K _ { n := N, h := H } _ _ [.d _]
    try dsimp only [cxOf, Cx.nox, Cx.wish, List.map]

    refine sat_ret (ec_op (ec_c (ec_var rfl (oc_ixI (z := if sd = 10 then 1 else if sd = 12 then 2 else if sd = 14 then 2 else 3) ?_ hk))))
    simp only [Lb.sides, List.mem_cons, List.not_mem_nil, or_false] at hs
    rcases hs with rfl | rfl | rfl | rfl
    · exact T.d__BLOCK_COUNTS (10, 1) (by simp)
    · exact T.d__BLOCK_COUNTS (12, 2) (by simp)
    · exact T.d__BLOCK_COUNTS (14, 2) (by simp)
    · exact T.d__BLOCK_COUNTS (16, 3) (by simp)
theorem ok_count_checks {f : Addr} {fd : FuncData} (F : Fun K "count_checks" "count_checks" s_count_checks f fd) (T : Tx K mg base a__SWITCHES a_SIDES a__STRENGTHS a__PART_COUNTS a_InvalidMessage a_InvalidSide a_InvalidStrength a_MessageTooLong a_SquaremarkError a_InvalidCertificate a_InvalidSymbols a_InvalidImage a_DecodeFailed a_InvalidBlock a_InvalidSymbol a_BlockDecodable a_PartialMessage a__BLOCK_COUNTS c_law p_law) :
    FnOk P w K mg base CX0 1 f fd ["strength"] (spC K [] Lb.S_cc) := by
  refine F.ok sc_count_checks (fun vs H Q E h => ?_) (fun cdv A outer s H vs Q E hr h => ?_)
  · obtain ⟨N, ds, k, e, g, dv, ⟨s, rfl, h1, h3, hk⟩, q⟩ := h
    exact dv.len
  · obtain ⟨N, ds, k, e, g, dv, ⟨s, rfl, h1, h3, hk⟩, q⟩ := h
    refine ⟨_, (pss_one (ps_ret (pe_op op_mul pe_int (pv 0)))), run_C dv e g q ?_⟩
    show Sat K _ { n := N, h := H } _ _ [.d _]
    try dsimp only [cxOf, Cx.nox, Cx.wish, List.map]

    repeat (walk_at "dv1")
    exact hk
theorem ok_data_capacity {f : Addr} {fd : FuncData} (F : Fun K "data_capacity" "data_capacity" s_data_capacity f fd) (T : Tx K mg base a__SWITCHES a_SIDES a__STRENGTHS a__PART_COUNTS a_InvalidMessage a_InvalidSide a_InvalidStrength a_MessageTooLong a_SquaremarkError a_InvalidCertificate a_InvalidSymbols a_InvalidImage a_DecodeFailed a_InvalidBlock a_InvalidSymbol a_BlockDecodable a_PartialMessage a__BLOCK_COUNTS c_law p_law)
    (D_require_strength : Dfn P w K mg base 2 "require_strength" ["strength"] (spC K [] Lb.S_rst))
    (D_is_number : Dfn P w K mg base 1 "is_number" ["value"] (spNum K))
    (D_count_blocks : Dfn P w K mg base 1 "count_blocks" ["side"] (spC K [] Lb.S_cb))
    (D_count_checks : Dfn P w K mg base 1 "count_checks" ["strength"] (spC K [] Lb.S_cc)) :
    FnOk P w K mg base CX0 3 f fd ["side", "strength"] (spC K [] Lb.S_cap) := by
  refine F.ok sc_data_capacity (fun vs H Q E h => ?_) (fun cdv A outer s H vs Q E hr h => ?_)
  · obtain ⟨N, ds, k, e, g, dv, ⟨sd, s, rfl, hs, h1, h3, hk⟩, q⟩ := h
    exact dv.len
  · obtain ⟨N, ds, k, e, g, dv, ⟨sd, s, rfl, hs, h1, h3, hk⟩, q⟩ := h
    have c_SIDES : ∀ N, DV K N (.ref a_SIDES) (.tup ((([10, 12, 14, 16] : List Int).map V.int).map .sc)) := fun N => .tup (T.t_SIDES N) (DVs.ofSc _)
    refine ⟨_, (pss_cons (ps_if (PW.pt (pw_or (pt_not (pt_val (pe_callD D_is_number hr (by decide) (by rfl) (pa_cons (pv 0) pa_nil)))) (pw_or1 (pt_cmpR (r := rIn K true) op_notIn_seq (pv 0) (pe_glob (v := .ref _) (by rfl) T.g_SIDES rfl) rfl))))
    (pss_one ps_never)
    pss_nil)
    (pss_cons (ps_expr (pe_callD D_require_strength hr (by decide) (by rfl) (pa_cons (pv 1) pa_nil)))
    (pss_cons (ps_set (i := 2) sc_data_capacity.nd rfl (by walk_at "sq_cell") (pe_op op_fdivN (pe_op op_sub (pe_op op_pow (pe_op op_sub (pv 0) pe_int) pe_int) (pe_glob (v := .int 24) (by rfl) T.g__HEADER_CELLS.choose_spec ⟨_, rfl⟩)) pe_int))
    (pss_one (ps_ret (pe_op op_sub (pv 2) (pe_op op_mul (pe_callD D_count_blocks hr (by decide) (by rfl) (pa_cons (pv 0) pa_nil)) (pe_callD D_count_checks hr (by decide) (by rfl) (pa_cons (pv 1) pa_nil))))))))), run_C dv e g q ?_⟩
    show Sat K _ { n := N, h := H } _ _ [.d _, .d _, .no]
    try dsimp only [cxOf, Cx.nox, Cx.wish, List.map]

    refine sat_seq (sat_if (eb_or (eb_not (eb_test (ec_callV (ea_consC (ec_var rfl (ea_nilC ⟨[.int _], .bl true, rfl, fun H => spv_num kd_int, ?_⟩))))))))
    refine ⟨_, rfl, (fun z => nomatch z), fun _ => ?_⟩
    repeat (walk_at "dv1")
    have hs2 := hs
    simp only [Lb.sides, List.mem_cons, List.not_mem_nil, or_false] at hs2
    refine oc_inT rfl rfl ⟨_, rfl, fun z => ?_, fun _ => sat_next ?_⟩
    · rcases hs2 with rfl | rfl | rfl | rfl <;> cases z
    refine sat_seq (sat_drop (ec_call (ea_consC (ec_var rfl (ea_nilC ⟨s, rfl, h1, h3, ?_⟩)))))
    refine sat_seq (sat_set ?_)
    repeat (walk_at "dv1")
    refine oc_i (show CPow _ _ from ⟨by decide, by decide, by rcases hs2 with rfl | rfl | rfl | rfl <;> decide⟩) ?_
    repeat (walk_at "dv1")
    refine ⟨sd, rfl, hs, ?_⟩
    repeat (walk_at "dv1")
    refine ⟨s, rfl, h1, h3, ?_⟩
    repeat (walk_at "dv1")
    have e : Lb.capI sd s = Int.fdiv ((sd - 2) ^ (2 : Int).toNat - 24) 4 - (if sd = 10 then 1 else if sd = 12 then 2 else if sd = 14 then 2 else 3) * (2 * s) := by
      rcases hs2 with rfl | rfl | rfl | rfl
      · show 10 - 2 * s = 10 - 1 * (2 * s)
        omega
      · show 19 - 4 * s = 19 - 2 * (2 * s)
        omega
      · show 30 - 4 * s = 30 - 2 * (2 * s)
        omega
      · show 43 - 6 * s = 43 - 3 * (2 * s)
        omega
    rw [e] at hk
    exact hk
theorem ok__choose_plan {f : Addr} {fd : FuncData} (F : Fun K "_choose_plan" "_choose_plan" s__choose_plan f fd) (T : Tx K mg base a__SWITCHES a_SIDES a__STRENGTHS a__PART_COUNTS a_InvalidMessage a_InvalidSide a_InvalidStrength a_MessageTooLong a_SquaremarkError a_InvalidCertificate a_InvalidSymbols a_InvalidImage a_DecodeFailed a_InvalidBlock a_InvalidSymbol a_BlockDecodable a_PartialMessage a__BLOCK_COUNTS c_law p_law)
    (D_data_capacity : Dfn P w K mg base 3 "data_capacity" ["side", "strength"] (spC K [] Lb.S_cap)) :
    FnOk P w K mg base (L2.CX P w) 5 f fd ["length", "strength"] (spX K [] (Lb.S_choose a_MessageTooLong)) := by
  refine F.okX sc__choose_plan (fun vs H Q E h => ?_) (fun cdv A outer s H vs Q E hr h => ?_)
  · obtain ⟨N, ds, k, kx, e, g, dv, ⟨n, s, rfl, hn0, hn1, h1, h3, hE, hk⟩, q, qE⟩ := h
    exact dv.len
  · obtain ⟨N, ds, k, kx, e, g, dv, ⟨n, s, rfl, hn0, hn1, h1, h3, hE, hk⟩, q, qE⟩ := h
    have c_SIDES : ∀ N, DV K N (.ref a_SIDES) (.tup ((([10, 12, 14, 16] : List Int).map V.int).map .sc)) := fun N => .tup (T.t_SIDES N) (DVs.ofSc _)
    have c__PART_COUNTS : ∀ N, DV K N (.ref a__PART_COUNTS) (.tup ((([1, 2, 3, 4] : List Int).map V.int).map .sc)) := fun N => .tup (T.t__PART_COUNTS N) (DVs.ofSc _)
    refine ⟨_, (pss_cons (ps_set (i := 2) sc__choose_plan.nd rfl (by walk_at "sq_cell") (pe_lst pa_nil))
    (pss_cons (ps_for (passes_of rfl) rfl (pi_tup (pe_glob (v := .ref _) (by rfl) T.g__PART_COUNTS rfl)) (pg_name (i := 3) sc__choose_plan.nd rfl (by walk_at "sq_cell"))
    (pss_one (ps_for (passes_of rfl) rfl (pi_tup (pe_glob (v := .ref _) (by rfl) T.g_SIDES rfl)) (pg_name (i := 4) sc__choose_plan.nd rfl (by walk_at "sq_cell"))
    (pss_one (ps_if (pt_cmpR op_ge (pe_op op_mul (pv 3) (pe_callD D_data_capacity hr (by decide) (by rfl) (pa_cons (pv 4) (pa_cons (pv 1) pa_nil)))) (pv 0) (nomark _))
    (pss_one (ps_expr (pe_bm PySem.F.plainAttrs_list PySem.F.slot_list_append PySem.F.type_list_append mt_append (pv 2) (pa_cons (pe_tup (pa_cons (pe_op op_mul (pe_op op_mul (pv 3) (pv 4)) (pv 4)) (pa_cons (pv 3) (pa_cons (pv 4) pa_nil)))) pa_nil))))
    pss_nil)))))
    (pss_cons (ps_if (pt_not (pt_truth (pv 2) (fun _ => rfl)))
    (pss_one (ps_raise rfl (takes_of rfl rfl rfl rfl) (pmk_own PySem.F.excBase_ValueError T.m_MessageTooLong.1 T.g_MessageTooLong T.m_MessageTooLong.2.1 (raises_own T.m_MessageTooLong.2.2.1 T.m_MessageTooLong.2.2.2) (by rfl))))
    pss_nil)
    (pss_cons (ps_asg (pe_callB (r := rMinA K Lb.TI) (cr_minA rfl (hu64 hr) (by decide) (fun _ _ => Lb.toD_inj)) (by rfl) T.n_min (by decide +kernel) (pa_cons (pv 2) pa_nil)) (pg_tup (by rfl) (pgs_cons (pg_name (i := 5) sc__choose_plan.nd rfl (by walk_at "sq_cell")) (pgs_cons (pg_name (i := 3) sc__choose_plan.nd rfl (by walk_at "sq_cell")) (pgs_cons (pg_name (i := 4) sc__choose_plan.nd rfl (by walk_at "sq_cell")) pgs_nil)))))
    (pss_one (ps_ret (pe_tup (pa_cons (pv 3) (pa_cons (pv 4) pa_nil))))))))), run_X (kx := kx) dv e g q qE fun tkx => ?_⟩
    show Sat K _ { n := N, h := H } _ _ [.d _, .d _, .no, .no, .no, .no]
    try dsimp only [cxOf, Cx.nox, Cx.wish, List.map]

    refine sat_seq (sat_setO (eo_lst (ea_nilC ⟨by decide, ?_⟩)))
    refine sat_cut (fun δ' => ∃ x3 x4 x5 : Sl, δ' = [.d (I n), .d (I s), .own ((Lb.rowsB n s).map Lb.triD), x3, x4, x5]) (sat_forM (g0 := I) (fun i δ' => ∃ x3 x4 x5 : Sl, δ' = [.d (I n), .d (I s), .own (((Lb.parts.take i).flatMap fun p => Lb.sides.flatMap fun sd => Lb.cell n s sd p).map Lb.triD), x3, x4, x5]) (it_tup (ec_cd c__PART_COUNTS ⟨_, rfl, Lb.parts, rfl, ⟨_, _, _, rfl⟩, ?_, fun δ' h => h⟩))) ?_
    · rintro i p δ' hi ⟨x3, x4, x5, rfl⟩
      have hpm := List.mem_of_getElem? hi
      refine ⟨_, tg_name ?_⟩
      refine sat_forM (g0 := I) (fun j δ' => ∃ x4 x5 : Sl, δ' = [.d (I n), .d (I s), .own ((((Lb.parts.take i).flatMap fun p => Lb.sides.flatMap fun sd => Lb.cell n s sd p) ++ (Lb.sides.take j).flatMap fun sd => Lb.cell n s sd p).map Lb.triD), .d (I p), x4, x5]) (it_tup (ec_cd c_SIDES ⟨_, rfl, Lb.sides, rfl, ⟨x4, x5, ?_⟩, ?_, ?_⟩))
      · rw [List.take_zero, List.flatMap_nil, List.append_nil]
        rfl
      · rintro j sd δ' hj ⟨x4, x5, rfl⟩
        have hsm := List.mem_of_getElem? hj
        have hp4 : 1 ≤ p ∧ p ≤ 4 := by
          simp only [Lb.parts, List.mem_cons, List.not_mem_nil, or_false] at hpm
          omega
        have hs16 : 10 ≤ sd ∧ sd ≤ 16 := by
          simp only [Lb.sides, List.mem_cons, List.not_mem_nil, or_false] at hsm
          omega
        have hc : 0 ≤ Lb.capI sd s ∧ Lb.capI sd s ≤ 50 := by
          unfold Lb.capI
          split
          · omega
          split
          · omega
          split
          · omega
          omega
        refine ⟨_, tg_name (sat_if ?_)⟩
        repeat (walk_at "dv1")
        refine ⟨sd, s, rfl, hsm, h1, h3, ?_⟩
        repeat (walk_at "dv1")
        rw [Lb.take_flat hj, ← List.append_assoc, List.map_append]
        refine ⟨fun z => ?_, fun z => sat_next ⟨.d (I sd), x5, ?_⟩⟩
        · have z : n ≤ p * Lb.capI sd s := of_decide_eq_true z
          refine sat_app rfl ?_ ?_
          · have q1 := Lb.flat_len (fun p => Lb.sides.flatMap fun sd => Lb.cell n s sd p) 4 (fun p => Lb.flat_len _ 1 (fun sd => Lb.cell_len n s sd p) Lb.sides) (Lb.parts.take i)
            have q2 := Lb.flat_len (fun sd => Lb.cell n s sd p) 1 (fun sd => Lb.cell_len n s sd p) (Lb.sides.take j)
            have q3 : (Lb.parts.take i).length ≤ 4 := by rw [List.length_take]; exact Nat.min_le_right _ _
            have q4 : (Lb.sides.take j).length ≤ 4 := by rw [List.length_take]; exact Nat.min_le_right _ _
            rw [List.length_map, List.length_append]
            omega
          repeat (walk_at "dv1")
          refine ⟨.d (I sd), x5, ?_⟩
          unfold Lb.cell
          rw [if_pos z]
          rfl
        · have z : ¬ n ≤ p * Lb.capI sd s := of_decide_eq_false z
          unfold Lb.cell
          rw [if_neg z, List.map_nil, List.append_nil]
          rfl
      · rintro δ' ⟨x4, x5, rfl⟩
        refine ⟨.d (I p), x4, x5, ?_⟩
        rw [Lb.take_flat hi]
        rfl
    rintro δ' ⟨x3, x4, x5, rfl⟩
    refine sat_frz (i := 2) rfl ?_
    cases hR : Lb.rowsB n s with
    | nil =>
      refine sat_seq (sat_if (eb_not (eb_tru (ec_var rfl ⟨_, rfl, fun _ => ?_, fun z => nomatch z⟩))))
      exact sat_raise0 (hE hR) (tkx _)
    | cons t ts =>
      rw [hR] at hk
      refine sat_seq (sat_if (eb_not (eb_tru (ec_var rfl ⟨_, rfl, (fun z => nomatch z), fun _ => sat_next ?_⟩))))
      obtain ⟨p, sd, _, _, hm⟩ := Lb.rows_tri (n := n) (s := s) (t := PySem.W.minOf t ts) (by rw [hR]; exact minOf_mem ts t)
      refine sat_seq (sat_asg (ec_cb (ea_consC (ec_var rfl (ea_nilC (cc_minA Lb.toP_triD ?_))))))
      rw [hm]
      refine tgx_tup rfl (tgx_cons (d := I (p * sd * sd)) (ds := [I p, I sd]) (tgx_cons (d := I p) (ds := [I sd]) (tgx_cons (d := I sd) (ds := []) (tgx_nil ?_))))
      repeat (walk_at "dv1")
      have hk : k (.tup (((PySem.W.minOf t ts).items.drop 1).map I)) := hk (by simp)
      rw [hm] at hk
      exact hk
theorem ok_plan_labels {f : Addr} {fd : FuncData} (F : FunD K "plan_labels" "plan_labels" (defArgs s_plan_labels) (defBody s_plan_labels) (defScope s_plan_labels) [] [("strength", .int 2)] f fd) (T : Tx K mg base a__SWITCHES a_SIDES a__STRENGTHS a__PART_COUNTS a_InvalidMessage a_InvalidSide a_InvalidStrength a_MessageTooLong a_SquaremarkError a_InvalidCertificate a_InvalidSymbols a_InvalidImage a_DecodeFailed a_InvalidBlock a_InvalidSymbol a_BlockDecodable a_PartialMessage a__BLOCK_COUNTS c_law p_law)
    (D_encode_text : Dfn P w K mg base 5 "encode_text" ["text"] (spO K [] S_enc))
    (D_require_strength : Dfn P w K mg base 2 "require_strength" ["strength"] (spC K [] Lb.S_rst))
    (D__choose_plan : DfnX P w K mg base 5 "_choose_plan" ["length", "strength"] (spX K [] (Lb.S_choose a_MessageTooLong))) :
    FnOk P w K mg base (L2.CX P w) 7 f fd ["text", "strength"] (spX K [] (Lb.S_plan a_MessageTooLong)) := by
  refine F.ok sc_plan_labels (fun vs H Q E h => ?_) (fun cdv A outer s H vs Q E hr h => ?_)
  · obtain ⟨N, ds, k, kx, e, g, dv, ⟨l, s, rfl, o, h1, h3, hE, hk⟩, q, qE⟩ := h
    exact dv.len
  · obtain ⟨N, ds, k, kx, e, g, dv, ⟨l, s, rfl, o, h1, h3, hE, hk⟩, q, qE⟩ := h
    refine ⟨_, (pss_cons (ps_set (i := 2) sc_plan_labels.nd rfl (by walk_at "sq_cell") (pe_callD D_encode_text hr (by decide) (by rfl) (pa_cons (pv 0) pa_nil)))
    (pss_cons (ps_expr (pe_callD D_require_strength hr (by decide) (by rfl) (pa_cons (pv 1) pa_nil)))
    (pss_one (ps_ret (pe_callDX D__choose_plan hr (by decide) (by rfl) (takes_of rfl rfl rfl rfl) (pa_cons (pe_callB (r := rLenS K) call_len_seq (by rfl) T.n_len PySem.boot_len (pa_cons (pv 2) pa_nil)) (pa_cons (pv 1) pa_nil))))))), run_X (kx := kx) dv e g q qE fun tkx => ?_⟩
    show Sat K _ { n := N, h := H } _ _ [.d _, .d _, .no]
    try dsimp only [cxOf, Cx.nox, Cx.wish, List.map]

    have ol := o.len
    have hel := enc_le (m := 0) o.chars (by decide)
    refine sat_seq (sat_set (ec_callO (ea_consC (ec_var rfl (ea_nilC ⟨l, rfl, o, ?_⟩)))))
    refine sat_seq (sat_drop (ec_call (ea_consC (ec_var rfl (ea_nilC ⟨s, rfl, h1, h3, ?_⟩)))))
    refine sat_ret (ec_callX ?_ (tkx _))
    repeat (walk_at "dv1")
    rw [List.length_map]
    exact ⟨_, s, rfl, by omega, by omega, h1, h3, hE, hk⟩
theorem ok__law_taken {f : Addr} {fd : FuncData} (F : Fun K "_law_taken" "_law_taken" s__law_taken f fd) (T : Tx K mg base a__SWITCHES a_SIDES a__STRENGTHS a__PART_COUNTS a_InvalidMessage a_InvalidSide a_InvalidStrength a_MessageTooLong a_SquaremarkError a_InvalidCertificate a_InvalidSymbols a_InvalidImage a_DecodeFailed a_InvalidBlock a_InvalidSymbol a_BlockDecodable a_PartialMessage a__BLOCK_COUNTS c_law p_law) :
    FnOk P w K mg base CX0 1 f fd ["_law_row", "_law_many"] (spTaken K) := by
  refine fn_rows (sp := (spTakenL K)) ?_ (fun vs H Q E h => ?_) (fun vs H Q E h => ?_)
  rotate_left
  · obtain ⟨r, m, rfl, h0, h1, hrow, q⟩ := h
    rfl
  · exact taken_rows h
  refine F.ok sc__law_taken (fun vs H Q E h => ?_) (fun cdv A outer s H vs Q E hr h => ?_)
  · obtain ⟨r, a, m, i, x, y, ns, rfl, h0, h1, ⟨b1, b2, b3, b4⟩, hr, hs, q⟩ := h
    rfl
  · obtain ⟨r, a, m, i, x, y, ns, rfl, h0, h1, ⟨b1, b2, b3, b4⟩, hr, hs, q⟩ := h
    refine ⟨_, (pss_cons (ps_if (pt_cmpR op_gt (pe_ix (r := rIxL K) ix_list (pv 0) pe_int (fun _ _ => rfl)) pe_int (nomark _))
    (pss_cons (ps_set (i := 2) sc__law_taken.nd rfl (by walk_at "sq_cell") (pe_op op_modN (pe_callTy call_int1 (by rfl) T.n_int (by decide +kernel) (pa_cons (pe_ix (r := rIxL K) ix_list (pv 0) pe_int (fun _ _ => rfl)) pa_nil)) (pv 1)))
    (pss_cons (ps_asg (pe_op op_fdivN (pe_ix (r := rIxL K) ix_list (pv 0) pe_int (fun _ _ => rfl)) (pv 1)) (pg_sub (pv 0) pe_int set_list))
    (pss_one (ps_ret (pv 2)))))
    pss_nil)
    (pss_cons (ps_asg (pe_op op_add (pe_ix (r := rIxL K) ix_list (pv 0) pe_int (fun _ _ => rfl)) pe_int) (pg_sub (pv 0) pe_int set_list))
    (pss_cons (ps_if (pt_cmpR op_gt (pe_ix (r := rIxL K) ix_list (pv 0) pe_int (fun _ _ => rfl)) (pe_callB (r := rLenS K) call_len_seq (by rfl) T.n_len PySem.boot_len (pa_cons (pe_ix (r := rIxL K) ix_list (pv 0) pe_int (fun _ _ => rfl)) pa_nil)) (nomark _))
    (pss_cons (ps_asg (pe_op op_modN (pe_op op_add (pe_op op_mul (pe_ix (r := rIxL K) ix_list (pv 0) pe_int (fun _ _ => rfl)) pe_int) pe_int) pe_int) (pg_sub (pv 0) pe_int set_list))
    (pss_one (ps_ret (pe_op op_modN (pe_op op_fdivN (pe_ix (r := rIxL K) ix_list (pv 0) pe_int (fun _ _ => rfl)) pe_int) (pv 1)))))
    pss_nil)
    (pss_cons (ps_set (i := 3) sc__law_taken.nd rfl (by walk_at "sq_cell") (pe_ix (r := rIxL K) ix_list (pe_ix (r := rIxL K) ix_list (pv 0) pe_int (fun _ _ => rfl)) (pe_op op_sub (pe_ix (r := rIxL K) ix_list (pv 0) pe_int (fun _ _ => rfl)) pe_int) (fun _ _ => rfl)))
    (pss_cons (ps_asg (pe_op op_modN (pe_op op_add (pe_op op_add (pe_op op_mul (pe_ix (r := rIxL K) ix_list (pv 0) pe_int (fun _ _ => rfl)) pe_int) (pv 3)) pe_int) pe_int) (pg_sub (pv 0) pe_int set_list))
    (pss_cons (ps_if (pt_cmpR op_ge (pv 3) (pe_op op_pow pe_int pe_int) (nomark _))
    (pss_one (ps_asg (pe_op op_fdivN (pv 3) (pv 1)) (pg_sub (pv 0) pe_int set_list)))
    pss_nil)
    (pss_one (ps_ret (pe_op op_modN (pe_callTy call_int1 (by rfl) T.n_int (by decide +kernel) (pa_cons (pv 3) pa_nil)) (pv 1)))))))))), ?_⟩

    have hm : m ≠ 0 := by omega
    have R : ∀ {H' : Hp} {i x y : Int} {j : Int} {v : V}, H' r = some (rowL a i x y) → atI [.ref a, .int i, .int x, .int y] j = some v → RV (rIxL K) (.ref r) (.int j) H' v := fun e1 e2 => rv_ixL (sq_of e1) e2
    refine q_when (et_test (ev_op (ev_op (ev_var rfl) ev_c (R hr rfl)) ev_c rv_I0)) (fun c H1 e1 => ?_) (fun c H1 e1 => ?_)
    · have hr1 := e1 _ _ hr
      refine q_asg (ev_op (ev_cb (ea_cons (ev_op (ev_var rfl) ev_c (R hr1 rfl)) ea_nil) rc_int) (ev_var rfl) (rv_I hm)) fun H2 e2 => ?_
      have hr2 := e2 _ _ hr1
      refine q_setL (j := 3) hr2 (ev_op (ev_op (ev_var rfl) ev_c (R hr2 rfl)) (ev_var rfl) (rv_I (show CDivN _ _ from ⟨hm, by omega⟩))) (ev_var rfl) ev_c (by show 3 < 4; decide) fun H3 e3 => ?_
      refine s_ret (ev_var rfl) fun H4 e4 => ?_
      refine q _ i x (y.fdiv m) H4 (fmod_range h0).1 (fmod_range h0).2 ⟨b1, b2, b3, Int.fdiv_nonneg b4 (by omega)⟩ (e4 _ _ upd_same) fun c o hc e => e4 _ _ ?_
      rw [upd_ne hc]
      exact e3 _ _ (e2 _ _ (e1 _ _ e))
    · have hr1 := e1 _ _ hr
      refine q_setL (j := 1) hr1 (ev_op (ev_op (ev_var rfl) ev_c (R hr1 rfl)) ev_c rv_I0) (ev_var rfl) ev_c (by show 1 < 4; decide) fun H2 e2 => ?_
      have hr2 : (upd H2 r (.lst (([.ref a, .int i, .int x, .int y] : List V).set 1 (.int (i + 1))))) r = some (rowL a (i + 1) x y) := upd_same
      have hs2 : SqL K (upd H2 r (.lst (([.ref a, .int i, .int x, .int y] : List V).set 1 (.int (i + 1))))) a (ns.map V.int) := row_keep (ex_l (e1.trans e2) hs) (e2 _ _ hr1)
      have k2 : ∀ c o, c ≠ r → H c = some o → (upd H2 r (.lst (([.ref a, .int i, .int x, .int y] : List V).set 1 (.int (i + 1))))) c = some o := fun c o hc e => by
        rw [upd_ne hc]
        exact e2 _ _ (e1 _ _ e)
      generalize (upd H2 r (.lst (([.ref a, .int i, .int x, .int y] : List V).set 1 (.int (i + 1))))) = G at hr2 hs2 k2 ⊢
      refine q_when (et_test (ev_op (ev_op (ev_var rfl) ev_c (R hr2 rfl)) (ev_len (ev_op (ev_var rfl) ev_c (R hr2 rfl)) hs2) rv_I0)) (fun c1 H3 e3 => ?_) (fun c1 H3 e3 => ?_)
      · have hr3 := e3 _ _ hr2
        refine q_setL (j := 2) hr3 (ev_op (ev_op (ev_op (ev_op (ev_var rfl) ev_c (R hr3 rfl)) ev_c (rv_I (show CMul _ _ from .inl ⟨by omega, by omega⟩))) ev_c rv_I0) ev_c (rv_I (by decide))) (ev_var rfl) ev_c (by show 2 < 4; decide) fun H4 e4 => ?_
        refine s_ret (ev_op (ev_op (ev_op (ev_var rfl) ev_c (R upd_same rfl)) ev_c (rv_I (show CDivN _ _ from ⟨by decide, by decide⟩))) (ev_var rfl) (rv_I hm)) fun H5 e5 => ?_
        refine q _ (i + 1) ((x * 48271 + 11).fmod 2147483647) y H5 (fmod_range h0).1 (fmod_range h0).2 ⟨by omega, (fmod_range (by decide)).1, (fmod_range (by decide)).2, b4⟩ (e5 _ _ upd_same) fun c o hc e => e5 _ _ ?_
        rw [upd_ne hc]
        exact e4 _ _ (e3 _ _ (k2 c o hc e))
      · have hr3 := e3 _ _ hr2
        have hlt : i.toNat < ns.length := by
          have z := of_decide_eq_false c1
          rw [List.length_map] at z
          omega
        have hat : atI (ns.map V.int) (i + 1 - 1) = some (.int ns[i.toNat]) := at_of (j := i.toNat) (by omega) (dn_seq ns _ _ (List.getElem?_eq_getElem hlt))
        generalize ns[i.toNat] = n at hat
        refine q_asg (ev_op (ev_op (ev_var rfl) ev_c (R hr3 rfl)) (ev_op (ev_op (ev_var rfl) ev_c (R hr3 rfl)) ev_c rv_I0) (rv_ixL (ex_l e3 hs2) hat)) fun H4 e4 => ?_
        have hr4 := e4 _ _ hr3
        refine q_setL (j := 2) hr4 (ev_op (ev_op (ev_op (ev_op (ev_op (ev_var rfl) ev_c (R hr4 rfl)) ev_c (rv_I (show CMul _ _ from .inl ⟨by omega, by omega⟩))) (ev_var rfl) rv_I0) ev_c rv_I0) ev_c (rv_I (by decide))) (ev_var rfl) ev_c (by show 2 < 4; decide) fun H5 e5 => ?_
        have k5 : ∀ c o, c ≠ r → H c = some o → H5 c = some o := fun c o hc e => e5 _ _ (e4 _ _ (e3 _ _ (k2 c o hc e)))
        refine q_when (et_test (ev_op (ev_var rfl) (ev_op ev_c ev_c (rv_I (show CPow _ _ from ⟨by decide, by decide, by decide⟩))) rv_I0)) (fun c2 H6 e6 => ?_) (fun c2 H6 e6 => ?_)
        · have hn : 0 ≤ n := by
            have z := of_decide_eq_true c2
            have w : (0 : Int) ≤ 10 ^ (18 : Int).toNat := by decide
            omega
          refine s_setL (j := 3) (e6 _ _ upd_same) (ev_op (ev_var rfl) (ev_var rfl) (rv_I (show CDivN _ _ from ⟨hm, by omega⟩))) (ev_var rfl) ev_c (by show 3 < 4; decide) fun H7 e7 => ?_
          dsimp only
          refine s_ret (ev_op (ev_cb (ea_cons (ev_var rfl) ea_nil) rc_int) (ev_var rfl) (rv_I hm)) fun H8 e8 => ?_
          refine q _ (i + 1) ((x * 48271 + n + 11).fmod 2147483647) (n.fdiv m) H8 (fmod_range h0).1 (fmod_range h0).2 ⟨by omega, (fmod_range (by decide)).1, (fmod_range (by decide)).2, Int.fdiv_nonneg hn (by omega)⟩ (e8 _ _ upd_same) fun c o hc e => e8 _ _ ?_
          rw [upd_ne hc]
          refine e7 _ _ (e6 _ _ ?_)
          rw [upd_ne hc]
          exact k5 c o hc e
        · refine s_ret (ev_op (ev_cb (ea_cons (ev_var rfl) ea_nil) rc_int) (ev_var rfl) (rv_I hm)) fun H8 e8 => ?_
          refine q _ (i + 1) ((x * 48271 + n + 11).fmod 2147483647) y H8 (fmod_range h0).1 (fmod_range h0).2 ⟨by omega, (fmod_range (by decide)).1, (fmod_range (by decide)).2, b4⟩ (e8 _ _ (e6 _ _ upd_same)) fun c o hc e => e8 _ _ (e6 _ _ ?_)
          rw [upd_ne hc]
          exact k5 c o hc e
theorem ok0__law_alike {f : Addr} {fd : FuncData} (F : Fun K "_law_alike" "_law_alike" s__law_alike f fd) (T : Tx K mg base a__SWITCHES a_SIDES a__STRENGTHS a__PART_COUNTS a_InvalidMessage a_InvalidSide a_InvalidStrength a_MessageTooLong a_SquaremarkError a_InvalidCertificate a_InvalidSymbols a_InvalidImage a_DecodeFailed a_InvalidBlock a_InvalidSymbol a_BlockDecodable a_PartialMessage a__BLOCK_COUNTS c_law p_law) :
    FnOk P w K mg base CX0 1 f fd ["_law_one", "_law_due"] spAlike0 := by
  refine F.ok sc__law_alike (fun vs H Q E h => ?_) (fun cdv A outer s H vs Q E hr h => ?_)
  · obtain ⟨i, rfl, k⟩ := h
    rfl
  · obtain ⟨i, rfl, k⟩ := h
    refine ⟨_, (pss_cons (ps_if (PW.pt (pw_and (pt_val (pe_callB call_isiT (by rfl) T.n_isinstance (by decide +kernel) (pa_cons (pv 0) (pa_cons (pe_tup (pa_cons (pe_bltn (v := .ty "tuple") (by rfl) T.n_tuple (by decide +kernel) rfl) (pa_cons (pe_bltn (v := .ty "list") (by rfl) T.n_list (by decide +kernel) rfl) pa_nil))) pa_nil)))) (pw_and1 (pt_val (pe_callB call_isiT (by rfl) T.n_isinstance (by decide +kernel) (pa_cons (pv 1) (pa_cons (pe_tup (pa_cons (pe_bltn (v := .ty "tuple") (by rfl) T.n_tuple (by decide +kernel) rfl) (pa_cons (pe_bltn (v := .ty "list") (by rfl) T.n_list (by decide +kernel) rfl) pa_nil))) pa_nil))))))) L2.pss_never pss_nil)
    (pss_one (ps_ret (pe_and (pe_cmpR op_eq (pv 0) (pv 1) (nomark _)) (pe_one (pe_cmpR op_eq (pe_callB call_isi (by rfl) T.n_isinstance (by decide +kernel) (pa_cons (pv 0) (pa_cons (pe_bltn (v := .ty "bool") (by rfl) T.n_bool (by decide +kernel) rfl) pa_nil))) (pe_callB call_isi (by rfl) T.n_isinstance (by decide +kernel) (pa_cons (pv 1) (pa_cons (pe_bltn (v := .ty "bool") (by rfl) T.n_bool (by decide +kernel) rfl) pa_nil))) (nomark _))))))), ?_⟩

    have i2 : PySem.W.kitAny K (.type "int") [.type "tuple", .type "list"] = some (false || false) := kit_any2 (by decide +kernel) (by decide +kernel)
    have i2 : PySem.W.kitAny K (.type "int") [.type "tuple", .type "list"] = some false := i2
    refine q_when (b := false) (et_is (et_and (b := false) (et_B (ev_isiT (ev_var rfl) (ea_cons ev_c (ea_cons ev_c ea_nil)) (fun _ _ => .base (.int i)) i2)) (fun z => nomatch z)) rfl) (fun z => nomatch z) fun _ H1 e1 => ?_
    refine s_ret (v := .bl true) (ev_is (ev_andV (ev_op (ev_var rfl) (ev_var rfl) (rv_eq rfl)) fun _ => ev_op (ev_cb (ea_cons (ev_var rfl) (ea_cons ev_c ea_nil)) (rc_isi (T := "int") (b := false) (fun _ _ => .base (.int i)) (by decide +kernel))) (ev_cb (ea_cons (ev_var rfl) (ea_cons ev_c ea_nil)) (rc_isi (T := "int") (b := false) (fun _ _ => .base (.int i)) (by decide +kernel))) (rv_eq rfl)) ?_) fun H2 e2 => k H2 (e1.trans e2)
    simp
theorem ok__law_alike {f : Addr} {fd : FuncData} (F : Fun K "_law_alike" "_law_alike" s__law_alike f fd) (T : Tx K mg base a__SWITCHES a_SIDES a__STRENGTHS a__PART_COUNTS a_InvalidMessage a_InvalidSide a_InvalidStrength a_MessageTooLong a_SquaremarkError a_InvalidCertificate a_InvalidSymbols a_InvalidImage a_DecodeFailed a_InvalidBlock a_InvalidSymbol a_BlockDecodable a_PartialMessage a__BLOCK_COUNTS c_law p_law)
    (D0__law_alike : Dfn P w K mg base 1 "_law_alike" ["_law_one", "_law_due"] spAlike0) :
    FnOk P w K mg base CX0 2 f fd ["_law_one", "_law_due"] (spAlike1 K) := by
  refine F.ok sc__law_alike (fun vs H Q E h => ?_) (fun cdv A outer s H vs Q E hr h => ?_)
  · obtain ⟨p, q, xs, rfl, hp, hq, hl, k⟩ := h
    rfl
  · obtain ⟨p, q, xs, rfl, hp, hq, hl, k⟩ := h
    refine ⟨_, (pss_cons (ps_if (PW.pt (pw_and (pt_val (pe_callB call_isiT (by rfl) T.n_isinstance (by decide +kernel) (pa_cons (pv 0) (pa_cons (pe_tup (pa_cons (pe_bltn (v := .ty "tuple") (by rfl) T.n_tuple (by decide +kernel) rfl) (pa_cons (pe_bltn (v := .ty "list") (by rfl) T.n_list (by decide +kernel) rfl) pa_nil))) pa_nil)))) (pw_and1 (pt_val (pe_callB call_isiT (by rfl) T.n_isinstance (by decide +kernel) (pa_cons (pv 1) (pa_cons (pe_tup (pa_cons (pe_bltn (v := .ty "tuple") (by rfl) T.n_tuple (by decide +kernel) rfl) (pa_cons (pe_bltn (v := .ty "list") (by rfl) T.n_list (by decide +kernel) rfl) pa_nil))) pa_nil)))))))
    (pss_cons (ps_if (PW.pt (pw_or (pt_cmpR op_ne (pe_callB call_isi (by rfl) T.n_isinstance (by decide +kernel) (pa_cons (pv 0) (pa_cons (pe_bltn (v := .ty "tuple") (by rfl) T.n_tuple (by decide +kernel) rfl) pa_nil))) (pe_callB call_isi (by rfl) T.n_isinstance (by decide +kernel) (pa_cons (pv 1) (pa_cons (pe_bltn (v := .ty "tuple") (by rfl) T.n_tuple (by decide +kernel) rfl) pa_nil))) (nomark _)) (pw_or1 (pt_cmpR op_ne (pe_callB (r := rLenS K) call_len_seq (by rfl) T.n_len PySem.boot_len (pa_cons (pv 0) pa_nil)) (pe_callB (r := rLenS K) call_len_seq (by rfl) T.n_len PySem.boot_len (pa_cons (pv 1) pa_nil)) (nomark _)))))
    (pss_one (ps_ret pe_bl))
    pss_nil)
    (pss_one (ps_ret (pe_cmpR (op_eqD (hu64 hr)) (pe_lc (own := [("_law_k", 2)]) (g := gName 2) (tt := _) rfl sc__law_alike.nd (pi_range1 (by rfl) T.n_range (pa_cons (pe_callB (r := rLenS K) call_len_seq (by rfl) T.n_len PySem.boot_len (pa_cons (pv 0) pa_nil)) pa_nil)) (blkOk_by (own := [("_law_k", 2)]) (N := ["_law_one", "_law_due", "_law_k"]) (sc := defScope s__law_alike) (by decide +kernel)) (fun _ _ _ _ _ => pg_name (i := 2) sc__law_alike.nd rfl (by walk_at "sq_cell")) (fun _ _ _ _ _ => (pts_one (pt_not (pt_val (pe_callD D0__law_alike hr (by decide) (by rfl) (pa_cons (pe_ix (r := rIxT K) ix_tup (pv 0) (pv 2) (fun _ _ => rfl)) (pa_cons (pe_ix (r := rIxT K) ix_tup (pv 1) (pv 2) (fun _ _ => rfl)) pa_nil))))))) (fun _ _ _ _ _ => (pv 2))) (pe_lst pa_nil) (nomark _)))))
    pss_nil)
    (pss_one ps_never)), ?_⟩

    have ty : ∀ {a : Addr}, SqT K H a (xs.map V.int) → ∀ H1, Ex H H1 → TyX K H1 (.ref a) (.type "tuple") := fun h H1 e => ty_tup (ex_t e h)
    have i2 : PySem.W.kitAny K (.type "tuple") [.type "tuple", .type "list"] = some (true || false) := kit_any2 (by decide +kernel) (by decide +kernel)
    have i2 : PySem.W.kitAny K (.type "tuple") [.type "tuple", .type "list"] = some true := i2
    refine q_if (b := true) (et_is (et_and (et_B (ev_isiT (ev_var rfl) (ea_cons ev_c (ea_cons ev_c ea_nil)) (ty hp) i2)) fun _ => et_B (ev_isiT (ev_var rfl) (ea_cons ev_c (ea_cons ev_c ea_nil)) (ty hq) i2)) rfl) (fun _ H1 e1 => ?_) (fun z => nomatch z)
    have hp1 := ex_t e1 hp
    have hq1 := ex_t e1 hq
    refine q_when (b := false) (et_is (et_or (et_test (ev_op (ev_cb (ea_cons (ev_var rfl) (ea_cons ev_c ea_nil)) (rc_isi (T := "tuple") (b := true) (fun H2 e2 => ty hp H2 (e1.trans e2)) (by decide +kernel))) (ev_cb (ea_cons (ev_var rfl) (ea_cons ev_c ea_nil)) (rc_isi (T := "tuple") (b := true) (fun H2 e2 => ty hq H2 (e1.trans e2)) (by decide +kernel))) (rv_ne rfl))) fun _ => et_test (ev_op (ev_lenT (ev_var rfl) hp1) (ev_lenT (ev_var rfl) hq1) (rv_ne rfl))) ?_) (fun z => nomatch z) fun _ H2 e2 => ?_
    · simp
    have hp2 := ex_t e2 hp1
    have hq2 := ex_t e2 hq1
    refine s_ret (v := .bl true) (ev_is (ev_eqN (xs := []) ?_ (el_lst ea_nil (by decide))) rfl) fun H3 e3 => k H3 ((e1.trans e2).trans e3)
    have z : given (((xs.map V.int).length : Int)).toNat (fun _ => false) (fun i => V.int (i : Int)) = ([] : List Int).map V.int := by
      unfold given
      rw [List.filter_eq_nil_iff.mpr (fun _ _ => by decide)]
      rfl
    rw [← z]
    refine el_lcR1 (fun _ => false) (fun i => V.int (i : Int)) (ea_cons (ev_lenT (ev_var rfl) hp2) ea_nil) (by rw [List.length_map]; omega) (fun _ => rfl) (fun i H3 e3 hi => ?_) (fun i H3 e3 hi z => nomatch z)
    rw [List.length_map] at hi
    have hx := map_at (List.getElem?_eq_getElem (show i < xs.length by omega))
    exact et_is (et_not (et_B (ev_callD (ea_cons (ev_op (ev_var rfl) (ev_var (v := .int (i : Int)) rfl) (rv_ixT (ex_t e3 hp2) hx)) (ea_cons (ev_op (ev_var rfl) (ev_var (v := .int (i : Int)) rfl) (rv_ixT (ex_t e3 hq2) hx)) ea_nil)) spv_alike0))) rfl
theorem gv__law_raised {g : Addr} {fd : FuncData} (F : Fun K "_law_raised" "_law_raised" s__law_raised g fd) (T : Tx K mg base a__SWITCHES a_SIDES a__STRENGTHS a__PART_COUNTS a_InvalidMessage a_InvalidSide a_InvalidStrength a_MessageTooLong a_SquaremarkError a_InvalidCertificate a_InvalidSymbols a_InvalidImage a_DecodeFailed a_InvalidBlock a_InvalidSymbol a_BlockDecodable a_PartialMessage a__BLOCK_COUNTS c_law p_law) : GivesL P w K mg base ["_law_work", "e", "_law_kinds", "_law_at"] "_law_raised" s__law_raised g "_law_work" (("law" : Str) ++ ".<locals>." ++ "<lambda>") (spTT K [] (S_raised0 a_MessageTooLong "long")) := by
  intro cdv A stk f c' s H Q tl act hco ⟨N, k, kx, ko, e, g0, hS, htl, q⟩
  refine ⟨_, (pss_cons (ps_try_as (i := 1) (Wout := fun _ _ _ _ => False) rfl rfl sc__law_raised.nd rfl rfl ⟨by rfl, by decide, Or.inl T.g_SquaremarkError⟩ takes0 (fun W pn xe tk _ => (pss_one (ps_expr (act W pn xe _ _ tk))))
    (fun a oe cls d pn hz hf => (pss_cons (ps_set (i := 2) sc__law_raised.nd rfl (by walk_at "sq_cell") (pe_lst (pa_cons (pe_callB (call_isX hz hf) (by rfl) T.n_isinstance (by decide +kernel) (pa_cons (pv 1) (pa_cons (pe_glob (v := .ref _) (by rfl) T.g_InvalidCertificate rfl) pa_nil))) (pa_cons (pe_callB (call_isX hz hf) (by rfl) T.n_isinstance (by decide +kernel) (pa_cons (pv 1) (pa_cons (pe_glob (v := .ref _) (by rfl) T.g_InvalidMessage rfl) pa_nil))) (pa_cons (pe_callB (call_isX hz hf) (by rfl) T.n_isinstance (by decide +kernel) (pa_cons (pv 1) (pa_cons (pe_glob (v := .ref _) (by rfl) T.g_InvalidSymbols rfl) pa_nil))) pa_nil)))))
    (pss_cons (ps_set (i := 2) sc__law_raised.nd rfl (by walk_at "sq_cell") (pe_op op_cat (pv 2) (pe_lst (pa_cons (pe_callB (call_isX hz hf) (by rfl) T.n_isinstance (by decide +kernel) (pa_cons (pv 1) (pa_cons (pe_glob (v := .ref _) (by rfl) T.g_InvalidImage rfl) pa_nil))) (pa_cons (pe_callB (call_isX hz hf) (by rfl) T.n_isinstance (by decide +kernel) (pa_cons (pv 1) (pa_cons (pe_glob (v := .ref _) (by rfl) T.g_DecodeFailed rfl) pa_nil))) (pa_cons (pe_callB (call_isX hz hf) (by rfl) T.n_isinstance (by decide +kernel) (pa_cons (pv 1) (pa_cons (pe_glob (v := .ref _) (by rfl) T.g_InvalidBlock rfl) pa_nil))) pa_nil))))))
    (pss_cons (ps_set (i := 2) sc__law_raised.nd rfl (by walk_at "sq_cell") (pe_op op_cat (pv 2) (pe_lst (pa_cons (pe_callB (call_isX hz hf) (by rfl) T.n_isinstance (by decide +kernel) (pa_cons (pv 1) (pa_cons (pe_glob (v := .ref _) (by rfl) T.g_InvalidSymbol rfl) pa_nil))) (pa_cons (pe_callB (call_isX hz hf) (by rfl) T.n_isinstance (by decide +kernel) (pa_cons (pv 1) (pa_cons (pe_glob (v := .ref _) (by rfl) T.g_InvalidSide rfl) pa_nil))) (pa_cons (pe_callB (call_isX hz hf) (by rfl) T.n_isinstance (by decide +kernel) (pa_cons (pv 1) (pa_cons (pe_glob (v := .ref _) (by rfl) T.g_InvalidStrength rfl) pa_nil))) pa_nil))))))
    (pss_cons (ps_set (i := 2) sc__law_raised.nd rfl (by walk_at "sq_cell") (pe_op op_cat (pv 2) (pe_lst (pa_cons (pe_callB (call_isX hz hf) (by rfl) T.n_isinstance (by decide +kernel) (pa_cons (pv 1) (pa_cons (pe_glob (v := .ref _) (by rfl) T.g_BlockDecodable rfl) pa_nil))) (pa_cons (pe_callB (call_isX hz hf) (by rfl) T.n_isinstance (by decide +kernel) (pa_cons (pv 1) (pa_cons (pe_glob (v := .ref _) (by rfl) T.g_PartialMessage rfl) pa_nil))) (pa_cons (pe_callB (call_isX hz hf) (by rfl) T.n_isinstance (by decide +kernel) (pa_cons (pv 1) (pa_cons (pe_glob (v := .ref _) (by rfl) T.g_MessageTooLong rfl) pa_nil))) pa_nil))))))
    (pss_cons (ps_if (PW.pt (pw_or (pt_cmpR op_ne (pe_bmK K (r := rCntF K) PySem.F.plainAttrs_list PySem.F.slot_list_count PySem.F.type_list_count mt_countF (pv 2) (pa_cons pe_bl pa_nil)) pe_int (nomark _)) (pw_or1 (pt_not (pt_val (pe_callB (call_isX hz hf) (by rfl) T.n_isinstance (by decide +kernel) (pa_cons (pv 1) (pa_cons (pe_bltn (v := .ty "ValueError") (by rfl) T.n_ValueError (by decide +kernel) rfl) pa_nil))))))))
    (pss_one (ps_ret (pe_tup (pa_cons pe_str pa_nil))))
    pss_nil)
    (pss_cons (ps_set (i := 3) sc__law_raised.nd rfl (by walk_at "sq_cell") (pe_bmK K (r := rIndex K) PySem.F.plainAttrs_list PySem.F.slot_list_index PySem.F.type_list_index mt_index (pv 2) (pa_cons pe_bl pa_nil)))
    (pss_cons (ps_if (pt_cmpR op_lt (pv 3) pe_int (nomark _))
    (pss_one ps_never)
    pss_nil)
    (pss_cons (ps_if (pt_cmpR op_lt (pv 3) pe_int (nomark _))
    (pss_one ps_never)
    pss_nil)
    (pss_one (ps_ret (pe_tup (pa_cons (pe_ix (r := rIxL K) ix_list (pe_lst (pa_cons pe_str (pa_cons pe_str (pa_cons pe_str (pa_cons pe_str (pa_cons pe_str (pa_cons pe_str (pa_cons pe_str pa_nil)))))))) (pe_op op_sub (pv 3) pe_int) (fun _ _ => rfl)) pa_nil))))))))))))))
    (pss_one (ps_ret pe_non))), ?_⟩
  · refine run_C (N := N) (vs := [.ref f]) (ds := [.sc (.ref f)]) (.cons .sc .nil) e g0 q ?_
    show Sat K _ { n := N, h := H } _ _ [.d _, .no, .no, .no]
    try dsimp only [cxOf, Cx.nox, Cx.wish, List.map]

    refine sat_seq (sat_try_as (i := 1) (tb := fun W => tDrop (fun σZ HZ Q => σZ[0]? = some (some (.ref f)) ∧ HZ c' = some (LamX.CodeO c' (("law" : Str) ++ ".<locals>." ++ "<lambda>")) ∧ tl (WE W σZ) HZ Q)) (c := .ref a_SquaremarkError) (Wout := fun _ _ _ _ => False) (M := fun δ' x => δ' = [.d (.sc (.ref f)), .no, .no, .no] ∧ kx x) (fun W B' hn hh hlo tkA => ?_) (fun δ' x hM => ?_))
    · refine sat_drop ((ec_act (k := k) (kx := kx) rfl (by rw [hh]; exact hco) (by rw [hn, hh]; exact htl) (tkA _ _ fun x hx => ⟨rfl, hx⟩)).mono fun d hd => ?_)
      exact sat_ret (ec_c (hS.1 d hd))
    obtain ⟨rfl, hx⟩ := hM
    obtain ⟨rfl, hko⟩ := hS.2 x hx
    refine ⟨true, T.e_MessageTooLong, fun _ B' a cls d hn hh hlo => ?_, fun z => nomatch z⟩
    have hxv := fun N h => (hlo N h).2
    show Sat K _ B' _ _ [.d (.sc (.ref f)), .d (.sc (.ref a)), .no, .no]
    refine sat_seq (sat_set (ec_lst ?_))
    refine ea_consC ?_
    refine ec_isX (x := (a_MessageTooLong, [])) T.x_MessageTooLong hxv T.k_MessageTooLong_InvalidCertificate (ea_consC (ec_var rfl (ea_consC (ec_c (ea_nilC ⟨rfl, ?_⟩)))))
    refine ea_consC ?_
    refine ec_isX (x := (a_MessageTooLong, [])) T.x_MessageTooLong hxv T.k_MessageTooLong_InvalidMessage (ea_consC (ec_var rfl (ea_consC (ec_c (ea_nilC ⟨rfl, ?_⟩)))))
    refine ea_consC ?_
    refine ec_isX (x := (a_MessageTooLong, [])) T.x_MessageTooLong hxv T.k_MessageTooLong_InvalidSymbols (ea_consC (ec_var rfl (ea_consC (ec_c (ea_nilC ⟨rfl, ?_⟩)))))
    refine ea_nilC ⟨(by decide : _ ≤ 100000), ?_⟩
    refine sat_seq (sat_set (ec_cat (ec_var rfl (ec_lst ?_))))
    refine ea_consC ?_
    refine ec_isX (x := (a_MessageTooLong, [])) T.x_MessageTooLong hxv T.k_MessageTooLong_InvalidImage (ea_consC (ec_var rfl (ea_consC (ec_c (ea_nilC ⟨rfl, ?_⟩)))))
    refine ea_consC ?_
    refine ec_isX (x := (a_MessageTooLong, [])) T.x_MessageTooLong hxv T.k_MessageTooLong_DecodeFailed (ea_consC (ec_var rfl (ea_consC (ec_c (ea_nilC ⟨rfl, ?_⟩)))))
    refine ea_consC ?_
    refine ec_isX (x := (a_MessageTooLong, [])) T.x_MessageTooLong hxv T.k_MessageTooLong_InvalidBlock (ea_consC (ec_var rfl (ea_consC (ec_c (ea_nilC ⟨rfl, ?_⟩)))))
    refine ea_nilC ⟨(by decide : _ ≤ 100000), oo_cat (by decide) ?_⟩
    refine sat_seq (sat_set (ec_cat (ec_var rfl (ec_lst ?_))))
    refine ea_consC ?_
    refine ec_isX (x := (a_MessageTooLong, [])) T.x_MessageTooLong hxv T.k_MessageTooLong_InvalidSymbol (ea_consC (ec_var rfl (ea_consC (ec_c (ea_nilC ⟨rfl, ?_⟩)))))
    refine ea_consC ?_
    refine ec_isX (x := (a_MessageTooLong, [])) T.x_MessageTooLong hxv T.k_MessageTooLong_InvalidSide (ea_consC (ec_var rfl (ea_consC (ec_c (ea_nilC ⟨rfl, ?_⟩)))))
    refine ea_consC ?_
    refine ec_isX (x := (a_MessageTooLong, [])) T.x_MessageTooLong hxv T.k_MessageTooLong_InvalidStrength (ea_consC (ec_var rfl (ea_consC (ec_c (ea_nilC ⟨rfl, ?_⟩)))))
    refine ea_nilC ⟨(by decide : _ ≤ 100000), oo_cat (by decide) ?_⟩
    refine sat_seq (sat_set (ec_cat (ec_var rfl (ec_lst ?_))))
    refine ea_consC ?_
    refine ec_isX (x := (a_MessageTooLong, [])) T.x_MessageTooLong hxv T.k_MessageTooLong_BlockDecodable (ea_consC (ec_var rfl (ea_consC (ec_c (ea_nilC ⟨rfl, ?_⟩)))))
    refine ea_consC ?_
    refine ec_isX (x := (a_MessageTooLong, [])) T.x_MessageTooLong hxv T.k_MessageTooLong_PartialMessage (ea_consC (ec_var rfl (ea_consC (ec_c (ea_nilC ⟨rfl, ?_⟩)))))
    refine ea_consC ?_
    refine ec_isX (x := (a_MessageTooLong, [])) T.x_MessageTooLong hxv T.k_MessageTooLong_MessageTooLong (ea_consC (ec_var rfl (ea_consC (ec_c (ea_nilC ⟨rfl, ?_⟩)))))
    refine ea_nilC ⟨(by decide : _ ≤ 100000), oo_cat (by decide) ?_⟩
    refine sat_seq (sat_if (eb_or (eb_test (ec_op (ec_cntB (bs := [false, false, false, false, false, false, false, false, false, false, false, true]) rfl (ec_c (oc_neI ⟨_, rfl, (fun z => absurd z (by decide)), fun _ => eb_not (eb_B ?_)⟩)))))))
    refine ec_isXT (T := "ValueError") (x := (a_MessageTooLong, [])) T.x_MessageTooLong hxv T.k_MessageTooLong_ValueError (ea_consC (ec_var rfl (ea_consC (ec_c (ea_nilC ⟨rfl, ?_⟩)))))
    refine ⟨_, rfl, (fun z => absurd z (by decide)), fun _ => sat_next ?_⟩
    refine sat_seq (sat_set (ec_idxB (bs := [false, false, false, false, false, false, false, false, false, false, false, true]) (j := 11) rfl rfl (fun m hm => ?_) ?_))
    · match m, hm with
      | 0, _ => rfl
      | 1, _ => rfl
      | 2, _ => rfl
      | 3, _ => rfl
      | 4, _ => rfl
      | 5, _ => rfl
      | 6, _ => rfl
      | 7, _ => rfl
      | 8, _ => rfl
      | 9, _ => rfl
      | 10, _ => rfl
    repeat (walk_at "dv1")
    refine ⟨fun z => absurd z (by decide), fun _ => ?_⟩
    repeat (walk_at "dv1")
    refine ⟨fun z => absurd z (by decide), fun _ => ?_⟩
    repeat (walk_at "dv1")
    refine oc_ixL (d := .sc (.str "long")) rfl ?_
    repeat (walk_at "dv1")
    exact hko
theorem ok__law_message {f : Addr} {fd : FuncData} (F : Fun K "_law_message" "_law_message" s__law_message f fd) (T : Tx K mg base a__SWITCHES a_SIDES a__STRENGTHS a__PART_COUNTS a_InvalidMessage a_InvalidSide a_InvalidStrength a_MessageTooLong a_SquaremarkError a_InvalidCertificate a_InvalidSymbols a_InvalidImage a_DecodeFailed a_InvalidBlock a_InvalidSymbol a_BlockDecodable a_PartialMessage a__BLOCK_COUNTS c_law p_law)
    (D__law_taken : Dfn P w K mg base 1 "_law_taken" ["_law_row", "_law_many"] (spTaken K)) :
    FnOk P w K mg base CX0 2 f fd ["_law_row", "_law_most"] (spC K [] S_msg) := by
  refine F.ok sc__law_message (fun vs H Q E h => ?_) (fun cdv A outer s H vs Q E hr h => ?_)
  · obtain ⟨N, ds, k, e, g, dv, ⟨M, rfl, hM0, hM1, hk⟩, q⟩ := h
    exact dv.len
  · obtain ⟨N, ds, k, e, g, dv, ⟨M, rfl, hM0, hM1, hk⟩, q⟩ := h
    refine ⟨_, (pss_cons (ps_set (i := 2) sc__law_message.nd rfl (by walk_at "sq_cell") pe_str)
    (pss_cons (ps_set (i := 3) sc__law_message.nd rfl (by walk_at "sq_cell") pe_str)
    (pss_cons (ps_for PassesOwn.never rfl (pi_range1 (by rfl) T.n_range (pa_cons (pe_callD D__law_taken hr (by decide) (by rfl) (pa_cons (pv 0) (pa_cons pe_int pa_nil))) pa_nil)) (pg_name (i := 4) sc__law_message.nd rfl (by walk_at "sq_cell"))
    (pss_cons (ps_set (i := 5) sc__law_message.nd rfl (by walk_at "sq_cell") (pe_ix (r := rIxL K) ix_list (pe_lst (pa_cons pe_str (pa_cons pe_str (pa_cons pe_str (pa_cons pe_str (pa_cons (pv 2) (pa_cons pe_str pa_nil))))))) (pe_callD D__law_taken hr (by decide) (by rfl) (pa_cons (pv 0) (pa_cons pe_int pa_nil))) (fun _ _ => rfl)))
    (pss_one (ps_set (i := 3) sc__law_message.nd rfl (by walk_at "sq_cell") (pe_op op_add_str (pv 3) (pe_joinK K pe_str (pe_lc (own := [("_law_j", 6)]) (g := gName 6) (tt := _) rfl sc__law_message.nd (pi_range1 (by rfl) T.n_range (pa_cons (pe_op op_add pe_int (pe_callD D__law_taken hr (by decide) (by rfl) (pa_cons (pv 0) (pa_cons (pv 1) pa_nil)))) pa_nil)) (blkOk_by (own := [("_law_j", 6)]) (N := ["_law_row", "_law_most", "_law_signs", "_law_text", "_law_k", "_law_some", "_law_j"]) (sc := defScope s__law_message) (by decide +kernel)) (fun _ _ _ _ _ => pg_name (i := 6) sc__law_message.nd rfl (by walk_at "sq_cell")) (fun _ _ _ _ _ => pts_nil) (fun _ _ _ _ _ => (pe_ix ix_str (pv 5) (pe_callD D__law_taken hr (by decide) (by rfl) (pa_cons (pv 0) (pa_cons (pe_callB call_len_str (by rfl) T.n_len PySem.boot_len (pa_cons (pv 5) pa_nil)) pa_nil))) (fun _ _ => rfl))))))))))
    (pss_one (ps_ret (pv 3)))))), run_C dv e g q ?_⟩
    show Sat K _ { n := N, h := H } _ _ [.d _, .d _, .no, .no, .no, .no, .no]
    try dsimp only [cxOf, Cx.nox, Cx.wish, List.map]

    refine sat_seq (sat_set (ec_c ?_))
    refine sat_seq (sat_set (ec_c ?_))
    rw [emp_txt]
    refine sat_seq (sat_forM (g0 := fun (i : Nat) => I (i : Int)) (fun i δ' => ∃ (l : List Nat) (x4 x5 x6 : Sl), δ' = [.d .row, .d (I M), .d (.sc (.str alpS)), .d (TxD l), x4, x5, x6] ∧ (∀ c ∈ l, c ∈ cpsL alpS) ∧ (l.length : Int) ≤ (i : Int) * M) (it_rng1 ?_))
    repeat (walk_at "dv1")
    refine ⟨by decide, by decide, fun z z0 z1 => ?_⟩
    repeat (walk_at "dv1")
    refine ⟨by omega, by omega, List.range z.toNat, rfl, ⟨[], .no, .no, .no, rfl, (fun c hc => by cases hc), by simp⟩, ?_, ?_⟩
    · rintro i x δ' hx ⟨l, x4, x5, x6, rfl, hl, hll⟩
      obtain ⟨hi, hxi⟩ := range_get hx
      subst hxi
      have hi4 : ((x : Nat) : Int) ≤ 4 := by omega
      have hiM : ((x : Nat) : Int) * M ≤ 4 * M := Int.mul_le_mul_of_nonneg_right hi4 (by omega)
      refine tgx_name ?_
      repeat (walk_at "dv1")
      refine ⟨by decide, by decide, fun y y0 y1 => ?_⟩
      repeat (walk_at "dv1")
      obtain ⟨s, hs, hsc, hs0, hs1⟩ := some6 y0 y1
      refine oc_ixL hs ?_
      repeat (walk_at "dv1")
      refine ec_join rfl (ec_O (eo_all (g0 := fun (i : Nat) => I (i : Int)) (fun _ e => ∃ c, e = Sg c ∧ c ∈ cpsL alpS) (it_rng1 ?_)))
      repeat (walk_at "dv1")
      refine ⟨hM0, by omega, fun n n0 n1 => ?_⟩
      repeat (walk_at "dv1")
      refine ⟨by omega, by omega, List.range (1 + n).toNat, rfl, by rw [List.length_range]; omega, fun _ _ => ⟨_, by simp, tg_name ?_⟩, fun es hel hes => ?_⟩
      · repeat (walk_at "dv1")
        refine cc_lenS (by show s.toArray.size ≤ 100000; simp; omega) ?_
        have hsl : ((txt s).length : Int) = (s.length : Int) := by show ((s.toArray.size : Nat) : Int) = _; simp
        rw [hsl]
        repeat (walk_at "dv1")
        refine ⟨by omega, by omega, fun u u0 u1 => ?_⟩
        obtain ⟨j, rfl⟩ := Int.eq_ofNat_of_zero_le u0
        repeat (walk_at "dv1")
        have hj : j < s.length := by omega
        exact oc_ixS (c := s[j]) (atI_nat (by simp [hj])) (by show s.toArray.size ≤ 100000; simp; omega) ⟨_, rfl, hsc _ (List.getElem_mem _)⟩
      · rw [List.length_range] at hel
        obtain ⟨cs, rfl, hcl, hcs⟩ := sgs_of hel hes
        refine ⟨cs.map fun c => [c], .inl (congrArg D.lst (by rw [List.map_map]; rfl)), by rw [sgn_flat]; omega, ?_⟩
        rw [sgn_flat]
        have e1 : ((x + 1 : Nat) : Int) * M = (x : Int) * M + M := by rw [Int.natCast_add, Int.add_mul]; omega
        refine oc_addS (by omega) ⟨l ++ cs, .d (I (x : Int)), .d (TxD s), x6, rfl, fun c hc => ?_, ?_⟩
        · rcases List.mem_append.mp hc with hc | hc
          · exact hl c hc
          · exact hcs c hc
        · rw [e1, List.length_append, hcl, Int.natCast_add]
          omega
    · rintro δ' ⟨l, x4, x5, x6, rfl, hl, hll⟩
      rw [List.length_range] at hll
      have hi4 : ((z.toNat : Nat) : Int) ≤ 4 := by omega
      have hiM : ((z.toNat : Nat) : Int) * M ≤ 4 * M := Int.mul_le_mul_of_nonneg_right hi4 (by omega)
      repeat (walk_at "dv1")
      exact hk l hl (by omega) (by omega)
theorem ok__law_shape {f : Addr} {fd : FuncData} (F : Fun K "_law_shape" "_law_shape" s__law_shape f fd) (T : Tx K mg base a__SWITCHES a_SIDES a__STRENGTHS a__PART_COUNTS a_InvalidMessage a_InvalidSide a_InvalidStrength a_MessageTooLong a_SquaremarkError a_InvalidCertificate a_InvalidSymbols a_InvalidImage a_DecodeFailed a_InvalidBlock a_InvalidSymbol a_BlockDecodable a_PartialMessage a__BLOCK_COUNTS c_law p_law) :
    FnOk P w K mg base CX0 1 f fd ["_law_side", "_law_strong"] (spC K [] Lb.S_shape) := by
  refine F.ok sc__law_shape (fun vs H Q E h => ?_) (fun cdv A outer s H vs Q E hr h => ?_)
  · obtain ⟨N, ds, k, e, g, dv, ⟨sd, s, rfl, hs, h1, h3, hk⟩, q⟩ := h
    exact dv.len
  · obtain ⟨N, ds, k, e, g, dv, ⟨sd, s, rfl, hs, h1, h3, hk⟩, q⟩ := h
    refine ⟨_, (pss_cons (ps_asg (pe_tup (pa_cons (pe_dget (hu_of hr) (pe_disp (pps_cons pe_int pe_int (pps_cons pe_int pe_int (pps_cons pe_int pe_int (pps_cons pe_int pe_int pps_nil)))) rfl rfl (by simp) (by decide)) (pv 0) (fun _ _ => rfl)) (pa_cons (pe_op op_fdivN (pe_op op_sub (pe_op op_pow (pe_op op_sub (pv 0) pe_int) pe_int) pe_int) pe_int) pa_nil))) (pg_tup (by rfl) (pgs_cons (pg_name (i := 2) sc__law_shape.nd rfl (by walk_at "sq_cell")) (pgs_cons (pg_name (i := 3) sc__law_shape.nd rfl (by walk_at "sq_cell")) pgs_nil))))
    (pss_cons (ps_set (i := 4) sc__law_shape.nd rfl (by walk_at "sq_cell") (pe_lc (own := [("_law_j", 5)]) (g := gName 5) (tt := _) rfl sc__law_shape.nd (pi_range1 (by rfl) T.n_range (pa_cons (pv 2) pa_nil)) (blkOk_by (own := [("_law_j", 5)]) (N := ["_law_side", "_law_strong", "_law_blocks", "_law_body", "_law_longs", "_law_j", "_law_k"]) (sc := defScope s__law_shape) (by decide +kernel)) (fun _ _ _ _ _ => pg_name (i := 5) sc__law_shape.nd rfl (by walk_at "sq_cell")) (fun _ _ _ _ _ => pts_nil) (fun _ _ _ _ _ => (pe_callB (r := rLenS K) call_len_seq (by rfl) T.n_len PySem.boot_len (pa_cons (pe_lc (own := [("_law_k", 6)]) (g := gName 6) (tt := _) rfl sc__law_shape.nd (pi_range1 (by rfl) T.n_range (pa_cons (pv 3) pa_nil)) (blkOk_by (own := [("_law_k", 6)]) (N := ["_law_side", "_law_strong", "_law_blocks", "_law_body", "_law_longs", "_law_j", "_law_k"]) (sc := _) (by kernel_rfl)) (fun _ _ _ _ _ => pg_name (i := 6) sc__law_shape.nd rfl (by walk_at "sq_cell")) (fun _ _ _ _ _ => (pts_one (pt_cmpR op_eq (pe_op op_modN (pv 6) (pv 2)) (pv 5) (nomark _)))) (fun _ _ _ _ _ => (pv 6))) pa_nil)))))
    (pss_one (ps_ret (pe_tup (pa_cons (pv 2) (pa_cons (pe_lc (own := [("_law_k", 6)]) (g := gName 6) (tt := _) rfl sc__law_shape.nd (pi_range1 (by rfl) T.n_range (pa_cons (pv 3) pa_nil)) (blkOk_by (own := [("_law_k", 6)]) (N := ["_law_side", "_law_strong", "_law_blocks", "_law_body", "_law_longs", "_law_j", "_law_k"]) (sc := defScope s__law_shape) (by decide +kernel)) (fun _ _ _ _ _ => pg_name (i := 6) sc__law_shape.nd rfl (by walk_at "sq_cell")) (fun _ _ _ _ _ => (pts_one (pt_cmpR op_lt (pe_op op_fdivN (pv 6) (pv 2)) (pe_op op_sub (pe_ix (r := rIxL K) ix_list (pv 4) (pe_op op_modN (pv 6) (pv 2)) (fun _ _ => rfl)) (pe_op op_mul pe_int (pv 1))) (nomark _)))) (fun _ _ _ _ _ => (pv 6))) pa_nil))))))), run_C dv e g q ?_⟩
    show Sat K _ { n := N, h := H } _ _ [.d _, .d _, .no, .no, .no, .no, .no]
    try dsimp only [cxOf, Cx.nox, Cx.wish, List.map]

    simp only [Lb.sides, List.mem_cons, List.not_mem_nil, or_false] at hs
    refine sat_cut (fun δ' => ∃ b m : Nat, δ' = [.d (I sd), .d (I s), .d (I (b : Int)), .d (I (m : Int)), .no, .no, .no] ∧ Lb.ShOk sd b m) ?_ ?_
    · have key : ∀ b m : Nat, Lb.ShOk sd b m → valV (mergeK [] [((.inl 10 : Key), V.int 1), (.inl 12, .int 2), (.inl 14, .int 2), (.inl 16, .int 3)]) (.inl sd) = some (.int (b : Int)) → Int.fdiv ((sd - 2) ^ (2 : Int).toNat - 24) 4 = (m : Int) → Sat K [] { n := N, h := H } (tAsg (tTup (tCons (tDGet (tDisp ([((.inl 10 : Key), V.int 1), (.inl 12, .int 2), (.inl 14, .int 2), (.inl 16, .int 3)].map fun kv => (tC (kV kv.1), tC kv.2))) (tVar 0)) (tCons (tOp (rI CDivN fun i j => .int (Int.fdiv i j)) (tOp (rI0 fun i j => .int (i - j)) (tOp (rI CPow fun i j => .int (i ^ j.toNat)) (tOp (rI0 fun i j => .int (i - j)) (tVar 0) (tC (.int 2))) (tC (.int 2))) (tC (.int 24))) (tC (.int 4))) tNil))) (gTup K 2 (gCons (gName 2) (gCons (gName 3) gNil)))) { nx := fun δ' => ∃ b m : Nat, δ' = [.d (I sd), .d (I s), .d (I (b : Int)), .d (I (m : Int)), .no, .no, .no] ∧ Lb.ShOk sd b m, rt := (gC k).rt, ro := (gC k).ro, bk := (gC k).bk, ct := (gC k).ct } [.d (I sd), .d (I s), .no, .no, .no, .no, .no] := fun b m ho hv hm => by
        refine sat_asg (ec_tup (ea_consC (ec_dlit _ rfl (by decide) (ec_var rfl ⟨.inl sd, _, rfl, hv, ?_⟩))))
        repeat (walk_at "dv1")
        refine oc_i (show CPow _ _ from ⟨by decide, by decide, by rcases hs with rfl | rfl | rfl | rfl <;> decide⟩) ?_
        repeat (walk_at "dv1")
        rw [hm]
        exact ⟨b, m, rfl, ho⟩
      rcases hs with rfl | rfl | rfl | rfl
      · exact key 1 10 (.inl ⟨rfl, rfl, rfl⟩) (by decide +kernel) (by decide +kernel)
      · exact key 2 19 (.inr (.inl ⟨rfl, rfl, rfl⟩)) (by decide +kernel) (by decide +kernel)
      · exact key 2 30 (.inr (.inr (.inl ⟨rfl, rfl, rfl⟩))) (by decide +kernel) (by decide +kernel)
      · exact key 3 43 (.inr (.inr (.inr ⟨rfl, rfl, rfl⟩))) (by decide +kernel) (by decide +kernel)
    rintro δ' ⟨b, m, rfl, ho⟩
    obtain ⟨b1, b3, m50⟩ := ho.bnd
    refine sat_seq (sat_set (ec_O (eo_map (g0 := fun (j : Nat) => I (j : Int)) (fun (j : Nat) => I (((List.range m).filter fun k => decide (k % b = j)).length : Int)) (it_rng1 ?_))))
    repeat (walk_at "dv1")
    refine ⟨by omega, by omega, List.range b, rfl, by rw [List.length_range]; omega, fun j hj => ⟨_, by simp, tg_name ?_⟩, ?_⟩
    · refine ec_cb (ea_consC (ec_O (eo_filter (g0 := fun (k : Nat) => I (k : Int)) (fun k => decide (k % b = j)) (fun (k : Nat) => I (k : Int)) (it_rng1 ?_))))
      repeat (walk_at "dv1")
      refine ⟨by omega, by omega, List.range m, rfl, by rw [List.length_range]; omega, fun k hk => ⟨_, by simp, tg_name ?_⟩, ?_⟩
      · repeat (walk_at "dv1")
        refine ⟨?_, fun _ => ?_⟩
        · exact Lb.mod_dec b1
        · repeat (walk_at "dv1")
          rfl
      · repeat (walk_at "dv1")
        rw [List.length_map]
    refine sat_ret (ec_tup (ea_consC (ec_var rfl (ea_consC (ec_O (eo_filter (g0 := fun (k : Nat) => I (k : Int)) (Lb.shP b m s) (fun (k : Nat) => I (k : Int)) (it_rng1 ?_)))))))
    repeat (walk_at "dv1")
    refine ⟨by omega, by omega, List.range m, rfl, by rw [List.length_range]; omega, fun x hx => ⟨_, by simp, tg_name ?_⟩, ?_⟩
    · repeat (walk_at "dv1")
      rw [Lb.modI b1]
      refine oc_ixL (d := I (((List.range m).filter fun k => decide (k % b = x % b)).length : Int)) (atI_nat ?_) ?_
      · rw [List.getElem?_map, List.getElem?_range (Nat.mod_lt _ (by omega))]
        rfl
      repeat (walk_at "dv1")
      refine ⟨?_, fun _ => ?_⟩
      · exact Lb.sh_dec b1
      · repeat (walk_at "dv1")
        rfl
    · refine ea_nilC ⟨(by decide : 2 ≤ 100000), ?_⟩
      have z : (((List.range m).filter (Lb.shP b m s)).map fun (k : Nat) => I (k : Int)) = (((List.range m).filter (Lb.shP b m s)).map fun (k : Nat) => (k : Int)).map I := by rw [List.map_map]; rfl
      rw [z]
      exact hk _ _ (by rw [List.length_map]; exact Lb.sh_len ho h1 h3)
theorem ok_law {f : Addr} {fd : FuncData} (F : FunC K "law" "law" s_law f fd c_law) (T : Tx K mg base a__SWITCHES a_SIDES a__STRENGTHS a__PART_COUNTS a_InvalidMessage a_InvalidSide a_InvalidStrength a_MessageTooLong a_SquaremarkError a_InvalidCertificate a_InvalidSymbols a_InvalidImage a_DecodeFailed a_InvalidBlock a_InvalidSymbol a_BlockDecodable a_PartialMessage a__BLOCK_COUNTS c_law p_law)
    (D__law_message : Dfn P w K mg base 2 "_law_message" ["_law_row", "_law_most"] (spC K [] S_msg))
    (D__law_taken : Dfn P w K mg base 1 "_law_taken" ["_law_row", "_law_many"] (spTaken K))
    (D_encode_text : Dfn P w K mg base 5 "encode_text" ["text"] (spO K [] S_enc))
    (D__law_raised : DfnL P w K mg base ["_law_work", "e", "_law_kinds", "_law_at"] "_law_raised" s__law_raised "_law_work" (("law" : Str) ++ ".<locals>." ++ "<lambda>") (spTT K [] (S_raised0 a_MessageTooLong "long")))
    (D__law_alike : Dfn P w K mg base 2 "_law_alike" ["_law_one", "_law_due"] (spAlike1 K))
    (D_plan_labels : DfnKw P w K mg base 7 "plan_labels" ["text", "strength"] 1 ["strength"] [.int 2] (spX K [] (Lb.S_plan a_MessageTooLong)))
    (D__law_shape : Dfn P w K mg base 1 "_law_shape" ["_law_side", "_law_strong"] (spC K [] Lb.S_shape)) :
    FnOk P w K mg base CX0 10 f fd ["_law_script"] (spLawL K [] p_law) := by
  refine F.ok sc_law (fun vs H Q E h => ?_) (fun A outer s H vs Q E hr h => ?_)
  · obtain ⟨a, ns, rfl, hS, hT, hP, hPn, q⟩ := h
    rfl
  · obtain ⟨a, ns, rfl, hS, hT, hP, hPn, q⟩ := h
    refine ⟨_, (pss_cons (ps_set (i := 1) sc_law.nd rfl (by walk_at "sq_cell") (pe_lst (pa_cons (pv 0) (pa_cons pe_int (pa_cons pe_int (pa_cons pe_int pa_nil))))))
    (pss_abs (pss_cons (ps_for PassesOwn.never rfl (pi_range1 (by rfl) T.n_range (pa_cons pe_int pa_nil)) (pg_name (i := 2) sc_law.nd rfl (by walk_at "sq_cell"))
    (pss_cons (ps_asg (pe_tup (pa_cons (pe_slice sl_str (pe_callD D__law_message hr (by decide) (by rfl) (pa_cons (pv 1) (pa_cons (pe_ix (r := rIxL K) ix_list (pe_lst (pa_cons pe_int (pa_cons pe_int pa_nil))) (pe_callD D__law_taken hr (by decide) (by rfl) (pa_cons (pv 1) (pa_cons pe_int pa_nil))) (fun _ _ => rfl)) pa_nil))) po_none (po_some pe_int)) (pa_cons (pe_op op_add pe_int (pe_callD D__law_taken hr (by decide) (by rfl) (pa_cons (pv 1) (pa_cons pe_int pa_nil)))) pa_nil))) (pg_tup (by rfl) (pgs_cons (pg_name (i := 3) sc_law.nd rfl (by walk_at "sq_cell")) (pgs_cons (pg_name (i := 4) sc_law.nd rfl (by walk_at "sq_cell")) pgs_nil))))
    (pss_cons (ps_par (i := 5) (j := 6) (by rfl) sc_law.nd rfl rfl (by decide) rfl rfl (pa_cons (pe_callB (r := rLenS K) call_len_seq (by rfl) T.n_len PySem.boot_len (pa_cons (pe_callD D_encode_text hr (by decide) (by rfl) (pa_cons (pv 3) pa_nil)) pa_nil)) (pa_cons (pe_lst pa_nil) pa_nil)) (by rfl))
    (pss_cons (ps_for PassesOwn.never rfl (pi_tup (pe_tup (pa_cons pe_int (pa_cons pe_int (pa_cons pe_int (pa_cons pe_int pa_nil)))))) (pg_name (i := 7) sc_law.nd rfl (by walk_at "sq_cell"))
    (pss_one (ps_for PassesOwn.never rfl (pi_tup (pe_tup (pa_cons pe_int (pa_cons pe_int (pa_cons pe_int (pa_cons pe_int pa_nil)))))) (pg_name (i := 8) sc_law.nd rfl (by walk_at "sq_cell"))
    (pss_one (ps_if (pt_cmpR op_ge (pe_op op_mul (pv 8) (pe_callB (r := rLenS K) call_len_seq (by rfl) T.n_len PySem.boot_len (pa_cons (pe_ix (r := rIxT K) ix_tup (pe_callD D__law_shape hr (by decide) (by rfl) (pa_cons (pv 7) (pa_cons (pv 4) pa_nil))) pe_int (fun _ _ => rfl)) pa_nil))) (pv 5) (nomark _))
    (pss_one (ps_expr (pe_bm PySem.F.plainAttrs_list PySem.F.slot_list_append PySem.F.type_list_append mt_append (pv 6) (pa_cons (pe_tup (pa_cons (pe_op op_mul (pv 8) (pe_op op_pow (pv 7) pe_int)) (pa_cons (pv 8) (pa_cons (pv 7) pa_nil)))) pa_nil))))
    pss_nil)))))
    (pss_cons (ps_if (pt_cmpR (op_eqD (hu64 hr)) (pv 6) (pe_lst pa_nil) (nomark _))
    (pss_one (ps_if (pt_cmpR (op_neD (hu64 hr)) (pe_lamL (k := 7) D__law_raised (hr.mono (by decide)) (by rfl) T.t_law rfl sc__law_raised rfl (by first | exact Or.inl rfl | exact Or.inr (Or.inl rfl) | exact Or.inr (Or.inr rfl)) (LamX.lamS_by (sc := defScope s_law) (by decide +kernel)) (by rfl) (fun _ _ _ _ _ => by rfl) (fun A outer s H E f c' hr => (pe_callDK D_plan_labels hr (by decide) (by rfl) (takes_of rfl rfl rfl rfl) (pa_cons (pv 3) pa_nil) (pk_cons (pv 4) pk_nil)))) (pe_tup (pa_cons pe_str pa_nil)) (nomark _))
    (pss_one (ps_ret pe_bl))
    pss_nil))
    (pss_one (ps_if (pt_not (pt_val (pe_callD D__law_alike hr (by decide) (by rfl) (pa_cons (pe_callDK (E := E0) D_plan_labels hr (by decide) (by rfl) takes0 (pa_cons (pv 3) pa_nil) (pk_cons (pv 4) pk_nil)) (pa_cons (pe_slice (r := rSlA K) sl_tupA (pe_callB (r := rMinA K Lb.TI) (cr_minA rfl (hu64 hr) (by decide) (fun _ _ => Lb.toD_inj)) (by rfl) T.n_min (by decide +kernel) (pa_cons (pv 6) pa_nil)) (po_some pe_int) po_none) pa_nil)))))
    (pss_one (ps_ret pe_bl))
    pss_nil)))
    (pss_one (ps_if (PW.pt (pw_and (pt_cmpR (op_neD (hu64 hr)) (pv 6) (pe_lst pa_nil) (nomark _)) (pw_and (pt_cmpR op_eq (pv 4) pe_int (nomark _)) (pw_and1 (pt_cmpR (op_neD (hu64 hr)) (pe_callDD D_plan_labels hr (by decide) (by rfl) (pa_cons (pv 3) pa_nil)) (pe_slice (r := rSlA K) sl_tupA (pe_callB (r := rMinA K Lb.TI) (cr_minA rfl (hu64 hr) (by decide) (fun _ _ => Lb.toD_inj)) (by rfl) T.n_min (by decide +kernel) (pa_cons (pv 6) pa_nil)) (po_some pe_int) po_none) (nomark _))))))
    (pss_one (ps_ret pe_bl))
    pss_nil)))))))
    (pss_one (ps_ret pe_bl))))), ?_⟩

    refine q_asgL (el_lst (ea_cons (ev_var rfl) (ea_cons ev_c (ea_cons ev_c (ea_cons ev_c ea_nil)))) (by show 4 ≤ 100000; decide)) fun r H1 hn e1 hr2 => ?_
    refine ⟨r, a, 0, 0, 0, ⟨by decide, by decide, by decide, by decide⟩, hr2, ?_⟩
    have hrow : RowAt K (upd H1 r (rowF r a)) r := ⟨a, ns, upd_same, row_keep (ex_l e1 hS) hr2⟩
    have hG : Ex H (upd H1 r (rowF r a)) := Ex.mut e1 hn
    generalize upd H1 r (rowF r a) = G at hrow hG ⊢
    have hTG := hG _ _ hP
    refine run_lawL (Γ := []) (q := (("law" : Str) ++ ".<locals>." ++ "<lambda>")) (σ := some (.ref a) :: some (.ref r) :: List.replicate 7 none) hG (rel_rowL hTG (Lb.row_less hrow hTG)) (fun p hp => by cases hp) (fun H2 e2 => q H2 e2) ?_
    show Sat K _ (lawB p_law _ G) _ _ [.no, .d .row, .no, .no, .no, .no, .no, .no, .no]
    try dsimp only [cxOf, Cx.nox, Cx.wish, List.map]
    refine sat_cut (fun δ' => ∃ x2 x3 x4 x5 x6 x7 x8 : Sl, δ' = [.no, .d .row, x2, x3, x4, x5, x6, x7, x8]) (sat_forM (g0 := fun (i : Nat) => I (i : Int)) (fun i δ' => ∃ x2 x3 x4 x5 x6 x7 x8 : Sl, δ' = [.no, .d .row, x2, x3, x4, x5, x6, x7, x8]) (it_rng1 ?_)) ?_
    · repeat (walk_at "dv1")
      refine ⟨by decide, by decide, [0, 1, 2, 3], rfl, ⟨_, _, _, _, _, _, _, rfl⟩, ?_, fun δ' h => h⟩
      rintro i u δ' hu ⟨x2, x3, x4, x5, x6, x7, x8, rfl⟩
      refine ⟨_, tg_name ?_⟩
      refine sat_cut (fun δ' => ∃ (l2 : List Nat) (s : Int), δ' = [.no, .d .row, .d (I (u : Int)), .d (TxD l2), .d (I s), x5, x6, x7, x8] ∧ MsgOk l2 ∧ 1 ≤ s ∧ s ≤ 3) (sat_asg ?_) ?_
      · repeat (walk_at "dv1")
        refine ⟨by decide, by decide, fun z z0 z1 => ?_⟩
        obtain ⟨M, hM0, hM1, hat⟩ : ∃ M : Int, 0 < M ∧ M ≤ 60 ∧ atI [I 12, I 60] z = some (I M) := by
          have : z = 0 ∨ z = 1 := by omega
          rcases this with rfl | rfl
          · exact ⟨12, by decide, by decide, rfl⟩
          · exact ⟨60, by decide, by decide, rfl⟩
        repeat (walk_at "dv1")
        refine oc_ixL hat ?_
        repeat (walk_at "dv1")
        refine ⟨M, rfl, hM0, hM1, fun l hl hz hn => ?_⟩
        repeat (walk_at "dv1")
        refine sc_slS (by omega) ?_
        rw [cutL_to (hi := 200) (b := 200) rfl]
        have o2 : MsgOk (l.take 200) := ⟨by rw [List.length_take]; omega, fun c hc => hl c (List.mem_of_mem_take hc)⟩
        repeat (walk_at "dv1")
        refine ⟨by decide, by decide, fun w w0 w1 => ?_⟩
        repeat (walk_at "dv1")
        exact ⟨o2, by omega, by omega⟩
      rintro δ' ⟨l2, s, rfl, o2, h1, h3⟩
      have hel := enc_le (m := 0) o2.chars (by decide)
      have ol2 := o2.len
      refine sat_seq (Lb.sat_parV (i := 5) (j := 6) ?_ (by decide))
      repeat (walk_at "dv1")
      refine ⟨l2, rfl, o2, ?_⟩
      repeat (walk_at "dv1")
      rw [List.length_map]
      refine eo_lst (ea_nilC ⟨by decide, ?_⟩)
      generalize hnn : ((encOf l2 0).length : Int) = n
      have hn0 : 0 ≤ n := by omega
      have hn1 : n ≤ 1000 := by omega
      refine sat_cut (fun δ' => ∃ x7 x8 : Sl, δ' = [.no, .d .row, .d (I (u : Int)), .d (TxD l2), .d (I s), .d (I n), .own ((Lb.rowsA n s).map Lb.triD), x7, x8]) (sat_forM (g0 := I) (fun i δ' => ∃ x7 x8 : Sl, δ' = [.no, .d .row, .d (I (u : Int)), .d (TxD l2), .d (I s), .d (I n), .own (((Lb.sides.take i).flatMap fun sd => Lb.parts.flatMap fun p => Lb.cell n s sd p).map Lb.triD), x7, x8]) (it_tup ?_)) ?_
      · repeat (walk_at "dv1")
        refine ⟨Lb.sides, rfl, ⟨_, _, rfl⟩, ?_, fun δ' h => h⟩
        rintro i sd δ' hi ⟨x7, x8, rfl⟩
        have hsm := List.mem_of_getElem? hi
        refine ⟨_, tg_name ?_⟩
        refine sat_forM (g0 := I) (fun j δ' => ∃ x8 : Sl, δ' = [.no, .d .row, .d (I (u : Int)), .d (TxD l2), .d (I s), .d (I n), .own ((((Lb.sides.take i).flatMap fun sd => Lb.parts.flatMap fun p => Lb.cell n s sd p) ++ (Lb.parts.take j).flatMap fun p => Lb.cell n s sd p).map Lb.triD), .d (I sd), x8]) (it_tup ?_)
        repeat (walk_at "dv1")
        refine ⟨Lb.parts, rfl, ⟨x8, ?_⟩, ?_, ?_⟩
        · rw [List.take_zero, List.flatMap_nil, List.append_nil]
          rfl
        · rintro j p δ' hj ⟨x8, rfl⟩
          have hpm := List.mem_of_getElem? hj
          have hp4 : 1 ≤ p ∧ p ≤ 4 := by
            simp only [Lb.parts, List.mem_cons, List.not_mem_nil, or_false] at hpm
            omega
          have hs16 : 10 ≤ sd ∧ sd ≤ 16 := by
            simp only [Lb.sides, List.mem_cons, List.not_mem_nil, or_false] at hsm
            omega
          have hc := Lb.capI_bd (sd := sd) h1 h3
          refine ⟨_, tg_name (sat_if ?_)⟩
          repeat (walk_at "dv1")
          refine ⟨sd, s, rfl, hsm, h1, h3, fun b L hL => ?_⟩
          repeat (walk_at "dv1")
          refine oc_ixT rfl ?_
          repeat (walk_at "dv1")
          rw [List.length_map, hL]
          repeat (walk_at "dv1")
          rw [Lb.take_flat hj, ← List.append_assoc, List.map_append]
          refine ⟨fun z => ?_, fun z => sat_next ⟨.d (I p), ?_⟩⟩
          · have z : n ≤ p * Lb.capI sd s := of_decide_eq_true z
            refine sat_app rfl ?_ ?_
            · have q1 := Lb.flat_len (fun sd => Lb.parts.flatMap fun p => Lb.cell n s sd p) 4 (fun sd => Lb.flat_len _ 1 (fun p => Lb.cell_len n s sd p) Lb.parts) (Lb.sides.take i)
              have q2 := Lb.flat_len (fun p => Lb.cell n s sd p) 1 (fun p => Lb.cell_len n s sd p) (Lb.parts.take j)
              have q3 : (Lb.sides.take i).length ≤ 4 := by rw [List.length_take]; exact Nat.min_le_right _ _
              have q4 : (Lb.parts.take j).length ≤ 4 := by rw [List.length_take]; exact Nat.min_le_right _ _
              rw [List.length_map, List.length_append]
              omega
            repeat (walk_at "dv1")
            refine oc_i (show CPow _ _ from ⟨by decide, by decide, by omega⟩) ?_
            have hsq : 0 ≤ sd ^ (2 : Int).toNat ∧ sd ^ (2 : Int).toNat ≤ 256 := by
              simp only [Lb.sides, List.mem_cons, List.not_mem_nil, or_false] at hsm
              rcases hsm with rfl | rfl | rfl | rfl <;> decide
            refine oc_i (show CMul _ _ from .inl ⟨by omega, by omega⟩) ?_
            repeat (walk_at "dv1")
            refine ⟨.d (I p), ?_⟩
            rw [Lb.tri_pow]
            unfold Lb.cell
            rw [if_pos z]
            rfl
          · have z : ¬ n ≤ p * Lb.capI sd s := of_decide_eq_false z
            unfold Lb.cell
            rw [if_neg z, List.map_nil, List.append_nil]
            rfl
        · rintro δ' ⟨x8, rfl⟩
          refine ⟨.d (I sd), x8, ?_⟩
          rw [Lb.take_flat hi]
          rfl
      rintro δ' ⟨x7, x8, rfl⟩
      refine sat_frz (i := 6) rfl ?_
      show Sat K _ _ _ _ [.no, .d .row, .d (I (u : Int)), .d (TxD l2), .d (I s), .d (I n), .d (.lst ((Lb.rowsA n s).map Lb.triD)), x7, x8]
      have hpk := Lb.pick_same n s
      have hnl := Lb.rows_nil n s
      refine sat_mid [.no, .d .row, .d (I (u : Int)), .d (TxD l2), .d (I s), .d (I n), .d (.lst ((Lb.rowsA n s).map Lb.triD)), x7, x8] ?_ ?_
      · refine sat_if ?_
        repeat (walk_at "dv1")
        refine Lb.oc_eqRows (rows' := []) ⟨_, rfl, fun z => ?_, fun z => ?_⟩
        · have hB := hnl.mp (of_decide_eq_true z)
          refine sat_ifW (ebw_test (ew_op (ew_lam rfl less_same (k := fun _ => False) (kx := fun x => x = (a_MessageTooLong, [])) (lamok_of fun B' E tkx => ?_) ⟨fun d hd => hd.elim, fun x hx => ⟨hx, ?_⟩⟩)))
          · refine ec_callKw (ea_consC (ec_var rfl (ea_nilC (ea_consC (ec_var rfl (ea_nilC ⟨rfl, rfl, ?_⟩)))))) (fun N1 H1 σ1 cls d x g1 r1 xv hk => tkx _ N1 H1 σ1 cls d x g1 r1 xv hk)
            refine ⟨l2, s, rfl, o2, h1, h3, fun _ => rfl, fun z => ?_⟩
            rw [hnn] at z
            exact z hB
          · refine ew_of ?_
            repeat (walk_at "dv1")
            exact Lb.oc_neWord (by decide +kernel) ⟨_, rfl, (fun z => nomatch z), fun _ => sat_next rfl⟩
        · have hA : Lb.rowsA n s ≠ [] := of_decide_eq_false z
          have hB : Lb.rowsB n s ≠ [] := fun e => hA (hnl.mpr e)
          obtain ⟨t, ts, hts⟩ : ∃ t ts, Lb.rowsA n s = t :: ts := List.exists_cons_of_ne_nil hA
          have hpd : (Lb.pick (Lb.rowsA n s)) = ((PySem.W.minOf t ts).items.drop 1) := by rw [hts]; rfl
          refine sat_if (eb_not (eb_B (Lb.ec_callH ?_)))
          refine ea_consC (ec_callKw (ea_consC (ec_var rfl (ea_nilC (ea_consC (ec_var rfl (ea_nilC ⟨rfl, rfl, l2, s, rfl, o2, h1, h3, fun e => ?_, fun _ => ?_⟩)))))) tkx_false)
          · rw [hnn] at e
            exact hB e
          rw [hnn, ← hpk, hts]
          refine ea_consC (ec_sl (ec_cb (ea_consC (ec_var rfl (ea_nilC (cc_minA Lb.toP_triD ?_))))))
          repeat (walk_at "dv1")
          refine sc_slT (ds := (PySem.W.minOf t ts).items.map I) ?_
          rw [Lb.cut1]
          repeat (walk_at "dv1")
          exact Lb.alike_ints (ns := (PySem.W.minOf t ts).items.drop 1) (by rw [List.length_drop]; have := Lb.min_len (n := n) (s := s) hts; omega) ⟨_, rfl, (fun z => nomatch z), fun _ => sat_next rfl⟩
      · refine sat_if ?_
        repeat (walk_at "dv1")
        refine Lb.oc_neRows (rows' := []) ⟨_, rfl, fun z => ?_, fun z => ⟨(fun z => nomatch z), fun _ => sat_next ⟨_, _, _, _, _, _, _, rfl⟩⟩⟩
        have hA : Lb.rowsA n s ≠ [] := by simpa using z
        have hB : Lb.rowsB n s ≠ [] := fun e => hA (hnl.mpr e)
        obtain ⟨t, ts, hts⟩ : ∃ t ts, Lb.rowsA n s = t :: ts := List.exists_cons_of_ne_nil hA
        repeat (walk_at "dv1")
        refine ⟨fun z2 => ?_, fun _ => ⟨(fun z => nomatch z), fun _ => sat_next ⟨_, _, _, _, _, _, _, rfl⟩⟩⟩
        have hs2 : s = 2 := of_decide_eq_true z2
        refine eb_test (ec_op (ec_callDf (ea_consC (ec_var rfl (ea_nilC ⟨l2, 2, rfl, o2, by decide, by decide, fun e => ?_, fun _ => ?_⟩)))))
        · rw [hnn, ← hs2] at e
          exact hB e
        rw [hnn, ← hs2, ← hpk, hts]
        refine ec_sl (ec_cb (ea_consC (ec_var rfl (ea_nilC (cc_minA Lb.toP_triD ?_)))))
        repeat (walk_at "dv1")
        refine sc_slT (ds := (PySem.W.minOf t ts).items.map I) ?_
        rw [Lb.cut1]
        refine Lb.oc_neIntsT ⟨_, rfl, fun z3 => ?_, fun _ => sat_next ⟨_, _, _, _, _, _, _, rfl⟩⟩
        have z4 : Lb.pick (t :: ts) = (PySem.W.minOf t ts).items.drop 1 := rfl
        rw [z4] at z3
        simp at z3
    · rintro δ' ⟨x2, x3, x4, x5, x6, x7, x8, rfl⟩
      repeat (walk_at "dv1")
      rfl
end
end Qk10

namespace Zk10
open PySem PySem.Spec PyProof.Rows L2 Sq Dv Qk10
def d_is_number : He.DefD := ⟨("is_number", none), "is_number", "is_number", defArgs s_is_number, defBody s_is_number, defScope s_is_number, [], []⟩
def d_encode_text : He.DefD := ⟨("encode_text", none), "encode_text", "encode_text", defArgs s_encode_text, defBody s_encode_text, defScope s_encode_text, [], []⟩
def d_require_message : He.DefD := ⟨("require_message", none), "require_message", "require_message", defArgs s_require_message, defBody s_require_message, defScope s_require_message, [], []⟩
def d__write_character : He.DefD := ⟨("_write_character", none), "_write_character", "_write_character", defArgs s__write_character, defBody s__write_character, defScope s__write_character, [], []⟩
def d__write_in_digit_mode : He.DefD := ⟨("_write_in_digit_mode", none), "_write_in_digit_mode", "_write_in_digit_mode", defArgs s__write_in_digit_mode, defBody s__write_in_digit_mode, defScope s__write_in_digit_mode, [], []⟩
def d__write_in_letter_mode : He.DefD := ⟨("_write_in_letter_mode", none), "_write_in_letter_mode", "_write_in_letter_mode", defArgs s__write_in_letter_mode, defBody s__write_in_letter_mode, defScope s__write_in_letter_mode, [], []⟩
def d__list_ways : He.DefD := ⟨("_list_ways", none), "_list_ways", "_list_ways", defArgs s__list_ways, defBody s__list_ways, defScope s__list_ways, [], []⟩
def d__measure_rests : He.DefD := ⟨("_measure_rests", none), "_measure_rests", "_measure_rests", defArgs s__measure_rests, defBody s__measure_rests, defScope s__measure_rests, [], []⟩
def d__measure_rest : He.DefD := ⟨("_measure_rest", none), "_measure_rest", "_measure_rest", defArgs s__measure_rest, defBody s__measure_rest, defScope s__measure_rest, [], []⟩
def d__shortest_ways : He.DefD := ⟨("_shortest_ways", none), "_shortest_ways", "_shortest_ways", defArgs s__shortest_ways, defBody s__shortest_ways, defScope s__shortest_ways, [], []⟩
def d_data_capacity : He.DefD := ⟨("data_capacity", none), "data_capacity", "data_capacity", defArgs s_data_capacity, defBody s_data_capacity, defScope s_data_capacity, [], []⟩
def d_count_blocks : He.DefD := ⟨("count_blocks", none), "count_blocks", "count_blocks", defArgs s_count_blocks, defBody s_count_blocks, defScope s_count_blocks, [], []⟩
def d_count_checks : He.DefD := ⟨("count_checks", none), "count_checks", "count_checks", defArgs s_count_checks, defBody s_count_checks, defScope s_count_checks, [], []⟩
def d_require_strength : He.DefD := ⟨("require_strength", none), "require_strength", "require_strength", defArgs s_require_strength, defBody s_require_strength, defScope s_require_strength, [], []⟩
def d_plan_labels : He.DefD := ⟨("plan_labels", none), "plan_labels", "plan_labels", defArgs s_plan_labels, defBody s_plan_labels, defScope s_plan_labels, [], [("strength", .int 2)]⟩
def d__choose_plan : He.DefD := ⟨("_choose_plan", none), "_choose_plan", "_choose_plan", defArgs s__choose_plan, defBody s__choose_plan, defScope s__choose_plan, [], []⟩
def d__law_taken : He.DefD := ⟨("_law_taken", none), "_law_taken", "_law_taken", defArgs s__law_taken, defBody s__law_taken, defScope s__law_taken, [], []⟩
def d__law_alike : He.DefD := ⟨("_law_alike", none), "_law_alike", "_law_alike", defArgs s__law_alike, defBody s__law_alike, defScope s__law_alike, [], []⟩
def d__law_raised : He.DefD := ⟨("_law_raised", none), "_law_raised", "_law_raised", defArgs s__law_raised, defBody s__law_raised, defScope s__law_raised, [], []⟩
def d__law_message : He.DefD := ⟨("_law_message", none), "_law_message", "_law_message", defArgs s__law_message, defBody s__law_message, defScope s__law_message, [], []⟩
def d__law_shape : He.DefD := ⟨("_law_shape", none), "_law_shape", "_law_shape", defArgs s__law_shape, defBody s__law_shape, defScope s__law_shape, [], []⟩
def d_law : He.DefD := ⟨("law", none), "law", "law", defArgs s_law, defBody s_law, defScope s_law, [], []⟩
def fn : List He.DefD := [d_is_number, d_encode_text, d_require_message, d__write_character, d__write_in_digit_mode, d__write_in_letter_mode, d__list_ways, d__measure_rests, d__measure_rest, d__shortest_ways, d_data_capacity, d_count_blocks, d_count_checks, d_require_strength, d_plan_labels, d__choose_plan, d__law_taken, d__law_alike, d__law_raised, d__law_message, d__law_shape, d_law]
def fa : List He.Fa := [.glo "is_number", .glo "encode_text", .glo "require_message", .glo "_write_character", .glo "_write_in_digit_mode", .glo "_write_in_letter_mode", .glo "_list_ways", .glo "_measure_rests", .glo "_measure_rest", .glo "_shortest_ways", .glo "data_capacity", .glo "count_blocks", .glo "count_checks", .glo "require_strength", .glo "plan_labels", .glo "_choose_plan", .glo "_law_taken", .glo "_law_alike", .glo "_law_raised", .glo "_law_message", .glo "_law_shape", .glo "law", .free "isinstance", .free "int", .free "bool", .free "enumerate", .free "min", .free "str", .free "reversed", .free "len", .free "zip", .free "tuple", .free "list", .free "range", .free "ValueError", .int "_DIGIT_MODE" 0, .int "LONGEST_MESSAGE" 200, .str "ALPHABET" " !\"#$&'()*+,-./0123456789:;<=>?@ABCDEFGHIJKLMNOPQRSTUVWXYZ[\\]^_`abcdefghijklmnopqrstuvwxyz{|}~", .str "_DIGIT_CHARACTERS" "0123456789 .", .int "_ESCAPE" 13, .int "_HYPHEN" 14, .str "_LETTER_CHARACTERS" "etaoinsrhldu ", .str "_RARE_CHARACTERS" "cmfpgwybvkxjqz,'", .int "_LETTER_MODE" 1, .int "_HEADER_CELLS" 24, .glo "_SWITCHES", .glo "SIDES", .glo "_STRENGTHS", .glo "_PART_COUNTS", .glo "InvalidMessage", .glo "InvalidSide", .glo "InvalidStrength", .glo "MessageTooLong", .glo "SquaremarkError", .glo "InvalidCertificate", .glo "InvalidSymbols", .glo "InvalidImage", .glo "DecodeFailed", .glo "InvalidBlock", .glo "InvalidSymbol", .glo "BlockDecodable", .glo "PartialMessage", .glo "_BLOCK_COUNTS"]
def tf : List He.Defn := [("law", none)]
def ex2 (K : PySem.W.Frag) : Bool := exkB K (He.ga K "MessageTooLong") && (mkxB K (He.ga K "MessageTooLong") && (decide (PySem.W.exmOne K (.ref (He.ga K "MessageTooLong")) (.ref (He.ga K "SquaremarkError")) = some true) && (decide (PySem.W.kitOne K (.ref (He.ga K "MessageTooLong")) (.ref (He.ga K "InvalidMessage")) = some false) && (decide (PySem.W.kitOne K (.ref (He.ga K "MessageTooLong")) (.ref (He.ga K "InvalidSide")) = some false) && (decide (PySem.W.kitOne K (.ref (He.ga K "MessageTooLong")) (.ref (He.ga K "InvalidStrength")) = some false) && (decide (PySem.W.kitOne K (.ref (He.ga K "MessageTooLong")) (.ref (He.ga K "MessageTooLong")) = some true) && (decide (PySem.W.kitOne K (.ref (He.ga K "MessageTooLong")) (.ref (He.ga K "InvalidCertificate")) = some false) && (decide (PySem.W.kitOne K (.ref (He.ga K "MessageTooLong")) (.ref (He.ga K "InvalidSymbols")) = some false) && (decide (PySem.W.kitOne K (.ref (He.ga K "MessageTooLong")) (.ref (He.ga K "InvalidImage")) = some false) && (decide (PySem.W.kitOne K (.ref (He.ga K "MessageTooLong")) (.ref (He.ga K "DecodeFailed")) = some false) && (decide (PySem.W.kitOne K (.ref (He.ga K "MessageTooLong")) (.ref (He.ga K "InvalidBlock")) = some false) && (decide (PySem.W.kitOne K (.ref (He.ga K "MessageTooLong")) (.ref (He.ga K "InvalidSymbol")) = some false) && (decide (PySem.W.kitOne K (.ref (He.ga K "MessageTooLong")) (.ref (He.ga K "BlockDecodable")) = some false) && (decide (PySem.W.kitOne K (.ref (He.ga K "MessageTooLong")) (.ref (He.ga K "PartialMessage")) = some false) && (decide (PySem.W.kitOne K (.ref (He.ga K "MessageTooLong")) (.type "ValueError") = some true) && (kdiB K (He.ga K "_BLOCK_COUNTS") [((10 : Int), (1 : Int)), ((12 : Int), (2 : Int)), ((14 : Int), (2 : Int)), ((16 : Int), (3 : Int))]))))))))))))))))
def ex (K : PySem.W.Frag) : Bool := ex2 K && He.tupB K "_SWITCHES" [.int 12, .int 14] && He.tupB K "SIDES" [.int 10, .int 12, .int 14, .int 16] && He.tupB K "_STRENGTHS" [.int 1, .int 2, .int 3] && He.tupB K "_PART_COUNTS" [.int 1, .int 2, .int 3, .int 4] && decide ((He.cT K ("law", none)).2 ∉ [])
abbrev R : PySem.W.OpenRow := PySem.W.OpenLaw.row PySem.Challenge.rw_squaremark_k10_label_plans
abbrev hk : PySem.W.Hook := He.hookX 4 fa fn [] tf ex
def ob (s : PySem.W.SharedT) : He.AlX := He.obsX 4 fa fn [] tf ex (HandSHeadRun.getT s)
theorem ob_eq (s : PySem.W.SharedT) : ob s = hk.obs s.abs := He.obsX_eq (HandSHeadRun.getT_eq s)
def names : List Str := (["SquaremarkError", "InvalidSymbol", "InvalidBlock", "BlockDecodable", "InvalidCertificate", "InvalidMessage", "InvalidSymbols", "InvalidStrength", "InvalidSide", "MessageTooLong", "InvalidImage", "DecodeFailed", "PartialMessage", "is_number", "ALPHABET", "LONGEST_MESSAGE", "_DIGIT_MODE", "_LETTER_MODE", "_SWITCHES", "_ESCAPE", "_DIGIT_CHARACTERS", "_HYPHEN", "_LETTER_CHARACTERS", "_RARE_CHARACTERS", "encode_text", "require_message", "_write_character", "_write_in_digit_mode", "_write_in_letter_mode", "_list_ways"] : List Str) ++ (["_measure_rests", "_measure_rest", "_shortest_ways", "SIDES", "_STRENGTHS", "_BLOCK_COUNTS", "_HEADER_CELLS", "data_capacity", "count_blocks", "count_checks", "require_strength", "_PART_COUNTS", "plan_labels", "_choose_plan", "_law_taken", "_law_alike", "_law_raised", "_law_message", "_law_shape"] : List Str)
theorem run (w : World) : HandSHeadRun.RunEq R (PySem.W.view R.prog [55]) hk ob 4000 names w := PySem.W.byRow2 "special-get-raises" (P := fun w => HandSHeadRun.RunEq R (PySem.W.view R.prog [55]) hk ob 4000 names w) (fun w => by
  intro os
  kernel_rfl) (fun w => by
  intro os
  kernel_rfl) w
theorem facts {l : PySem.W.OpenLaw} {w : World} {K : PySem.W.Frag} {h : Heap} {mg : Str → Option Value} {f : Addr} (X : K.In h) (G : h.Ns mainGlobals mg) (hfa : mg ("law" : Str) = some (.ref f)) (c : He.SaysX fa fn [] tf ex w h K) : LamX.LawAtS l w K CX0 10 63 "_law_script" mg f h := by
  have cd := c.t.d
  have hex := c.more
  obtain ⟨fd0, E0⟩ := cd.def_ 0 (d := d_is_number) rfl
  obtain ⟨fd1, E1⟩ := cd.def_ 1 (d := d_encode_text) rfl
  obtain ⟨fd2, E2⟩ := cd.def_ 2 (d := d_require_message) rfl
  obtain ⟨fd3, E3⟩ := cd.def_ 3 (d := d__write_character) rfl
  obtain ⟨fd4, E4⟩ := cd.def_ 4 (d := d__write_in_digit_mode) rfl
  obtain ⟨fd5, E5⟩ := cd.def_ 5 (d := d__write_in_letter_mode) rfl
  obtain ⟨fd6, E6⟩ := cd.def_ 6 (d := d__list_ways) rfl
  obtain ⟨fd7, E7⟩ := cd.def_ 7 (d := d__measure_rests) rfl
  obtain ⟨fd8, E8⟩ := cd.def_ 8 (d := d__measure_rest) rfl
  obtain ⟨fd9, E9⟩ := cd.def_ 9 (d := d__shortest_ways) rfl
  obtain ⟨fd10, E10⟩ := cd.def_ 10 (d := d_data_capacity) rfl
  obtain ⟨fd11, E11⟩ := cd.def_ 11 (d := d_count_blocks) rfl
  obtain ⟨fd12, E12⟩ := cd.def_ 12 (d := d_count_checks) rfl
  obtain ⟨fd13, E13⟩ := cd.def_ 13 (d := d_require_strength) rfl
  obtain ⟨fd14, E14⟩ := cd.def_ 14 (d := d_plan_labels) rfl
  obtain ⟨fd15, E15⟩ := cd.def_ 15 (d := d__choose_plan) rfl
  obtain ⟨fd16, E16⟩ := cd.def_ 16 (d := d__law_taken) rfl
  obtain ⟨fd17, E17⟩ := cd.def_ 17 (d := d__law_alike) rfl
  obtain ⟨fd18, E18⟩ := cd.def_ 18 (d := d__law_raised) rfl
  obtain ⟨fd19, E19⟩ := cd.def_ 19 (d := d__law_message) rfl
  obtain ⟨fd20, E20⟩ := cd.def_ 20 (d := d__law_shape) rfl
  obtain ⟨fd21, E21⟩ := cd.def_ 21 (d := d_law) rfl
  have F0 : Fun K "is_number" "is_number" s_is_number (He.fAd K ("is_number", none)) fd0 := fun_of E0
  have b0 := F0.binds (ps := ["value"]) fun _ _ _ _ _ _ us hl => match us, hl with | [_], _ => rfl
  have g0 := He.glo_ok X G (cd.fact 0 (f := .glo "is_number") rfl)
  have F1 : Fun K "encode_text" "encode_text" s_encode_text (He.fAd K ("encode_text", none)) fd1 := fun_of E1
  have b1 := F1.binds (ps := ["text"]) fun _ _ _ _ _ _ us hl => match us, hl with | [_], _ => rfl
  have g1 := He.glo_ok X G (cd.fact 1 (f := .glo "encode_text") rfl)
  have F2 : Fun K "require_message" "require_message" s_require_message (He.fAd K ("require_message", none)) fd2 := fun_of E2
  have b2 := F2.binds (ps := ["text"]) fun _ _ _ _ _ _ us hl => match us, hl with | [_], _ => rfl
  have g2 := He.glo_ok X G (cd.fact 2 (f := .glo "require_message") rfl)
  have F3 : Fun K "_write_character" "_write_character" s__write_character (He.fAd K ("_write_character", none)) fd3 := fun_of E3
  have b3 := F3.binds (ps := ["character", "mode"]) fun _ _ _ _ _ _ us hl => match us, hl with | [_, _], _ => rfl
  have g3 := He.glo_ok X G (cd.fact 3 (f := .glo "_write_character") rfl)
  have F4 : Fun K "_write_in_digit_mode" "_write_in_digit_mode" s__write_in_digit_mode (He.fAd K ("_write_in_digit_mode", none)) fd4 := fun_of E4
  have b4 := F4.binds (ps := ["character"]) fun _ _ _ _ _ _ us hl => match us, hl with | [_], _ => rfl
  have g4 := He.glo_ok X G (cd.fact 4 (f := .glo "_write_in_digit_mode") rfl)
  have F5 : Fun K "_write_in_letter_mode" "_write_in_letter_mode" s__write_in_letter_mode (He.fAd K ("_write_in_letter_mode", none)) fd5 := fun_of E5
  have b5 := F5.binds (ps := ["character"]) fun _ _ _ _ _ _ us hl => match us, hl with | [_], _ => rfl
  have g5 := He.glo_ok X G (cd.fact 5 (f := .glo "_write_in_letter_mode") rfl)
  have F6 : Fun K "_list_ways" "_list_ways" s__list_ways (He.fAd K ("_list_ways", none)) fd6 := fun_of E6
  have b6 := F6.binds (ps := ["character", "mode"]) fun _ _ _ _ _ _ us hl => match us, hl with | [_, _], _ => rfl
  have g6 := He.glo_ok X G (cd.fact 6 (f := .glo "_list_ways") rfl)
  have F7 : Fun K "_measure_rests" "_measure_rests" s__measure_rests (He.fAd K ("_measure_rests", none)) fd7 := fun_of E7
  have b7 := F7.binds (ps := ["text"]) fun _ _ _ _ _ _ us hl => match us, hl with | [_], _ => rfl
  have g7 := He.glo_ok X G (cd.fact 7 (f := .glo "_measure_rests") rfl)
  have F8 : Fun K "_measure_rest" "_measure_rest" s__measure_rest (He.fAd K ("_measure_rest", none)) fd8 := fun_of E8
  have b8 := F8.binds (ps := ["ways", "rest"]) fun _ _ _ _ _ _ us hl => match us, hl with | [_, _], _ => rfl
  have g8 := He.glo_ok X G (cd.fact 8 (f := .glo "_measure_rest") rfl)
  have F9 : Fun K "_shortest_ways" "_shortest_ways" s__shortest_ways (He.fAd K ("_shortest_ways", none)) fd9 := fun_of E9
  have b9 := F9.binds (ps := ["ways", "rest"]) fun _ _ _ _ _ _ us hl => match us, hl with | [_, _], _ => rfl
  have g9 := He.glo_ok X G (cd.fact 9 (f := .glo "_shortest_ways") rfl)
  have F10 : Fun K "data_capacity" "data_capacity" s_data_capacity (He.fAd K ("data_capacity", none)) fd10 := fun_of E10
  have b10 := F10.binds (ps := ["side", "strength"]) fun _ _ _ _ _ _ us hl => match us, hl with | [_, _], _ => rfl
  have g10 := He.glo_ok X G (cd.fact 10 (f := .glo "data_capacity") rfl)
  have F11 : Fun K "count_blocks" "count_blocks" s_count_blocks (He.fAd K ("count_blocks", none)) fd11 := fun_of E11
  have b11 := F11.binds (ps := ["side"]) fun _ _ _ _ _ _ us hl => match us, hl with | [_], _ => rfl
  have g11 := He.glo_ok X G (cd.fact 11 (f := .glo "count_blocks") rfl)
  have F12 : Fun K "count_checks" "count_checks" s_count_checks (He.fAd K ("count_checks", none)) fd12 := fun_of E12
  have b12 := F12.binds (ps := ["strength"]) fun _ _ _ _ _ _ us hl => match us, hl with | [_], _ => rfl
  have g12 := He.glo_ok X G (cd.fact 12 (f := .glo "count_checks") rfl)
  have F13 : Fun K "require_strength" "require_strength" s_require_strength (He.fAd K ("require_strength", none)) fd13 := fun_of E13
  have b13 := F13.binds (ps := ["strength"]) fun _ _ _ _ _ _ us hl => match us, hl with | [_], _ => rfl
  have g13 := He.glo_ok X G (cd.fact 13 (f := .glo "require_strength") rfl)
  have k14 : PySem.W.keepIn K (.ref (He.fAd K ("plan_labels", none))) = true := E14.kp
  obtain ⟨ds14, r14, b14⟩ := FunD.binds0 (ps := ["text", "strength"]) E14 1 (by simp [d_plan_labels, He.DefD.kws]) rfl fun D doc pm an cdv ct us ks l1 l2 => match us, ks, l1, l2 with | [_], [_], _, _ => ⟨_, _, _, _, _, _, rfl, rfl, rfl⟩
  have kb14 : KBn K fd14 ["text", "strength"] 1 ["strength"] (fun us ws => us ++ ws) (fun vs zs => vs ++ zs) := by
    obtain ⟨oc, od, dV, kV, doc, pm, an, cdv, ct, osl, e9, lk, hcd, hd9, _⟩ := E14.ex
    rcases hd9 with ⟨_, e8⟩ | ⟨z, _⟩
    · subst e8
      subst e9
      exact kbn_one fun s u w => BindsTo.of_eq rfl
    · exact absurd rfl z
  have g14 := He.glo_ok X G (cd.fact 14 (f := .glo "plan_labels") rfl)
  have F15 : Fun K "_choose_plan" "_choose_plan" s__choose_plan (He.fAd K ("_choose_plan", none)) fd15 := fun_of E15
  have b15 := F15.binds (ps := ["length", "strength"]) fun _ _ _ _ _ _ us hl => match us, hl with | [_, _], _ => rfl
  have g15 := He.glo_ok X G (cd.fact 15 (f := .glo "_choose_plan") rfl)
  have F16 : Fun K "_law_taken" "_law_taken" s__law_taken (He.fAd K ("_law_taken", none)) fd16 := fun_of E16
  have b16 := F16.binds (ps := ["_law_row", "_law_many"]) fun _ _ _ _ _ _ us hl => match us, hl with | [_, _], _ => rfl
  have g16 := He.glo_ok X G (cd.fact 16 (f := .glo "_law_taken") rfl)
  have F17 : Fun K "_law_alike" "_law_alike" s__law_alike (He.fAd K ("_law_alike", none)) fd17 := fun_of E17
  have b17 := F17.binds (ps := ["_law_one", "_law_due"]) fun _ _ _ _ _ _ us hl => match us, hl with | [_, _], _ => rfl
  have g17 := He.glo_ok X G (cd.fact 17 (f := .glo "_law_alike") rfl)
  have F18 : Fun K "_law_raised" "_law_raised" s__law_raised (He.fAd K ("_law_raised", none)) fd18 := fun_of E18
  have b18 := F18.binds (ps := ["_law_work"]) fun _ _ _ _ _ _ us hl => match us, hl with | [_], _ => rfl
  have g18 := He.glo_ok X G (cd.fact 18 (f := .glo "_law_raised") rfl)
  have F19 : Fun K "_law_message" "_law_message" s__law_message (He.fAd K ("_law_message", none)) fd19 := fun_of E19
  have b19 := F19.binds (ps := ["_law_row", "_law_most"]) fun _ _ _ _ _ _ us hl => match us, hl with | [_, _], _ => rfl
  have g19 := He.glo_ok X G (cd.fact 19 (f := .glo "_law_message") rfl)
  have F20 : Fun K "_law_shape" "_law_shape" s__law_shape (He.fAd K ("_law_shape", none)) fd20 := fun_of E20
  have b20 := F20.binds (ps := ["_law_side", "_law_strong"]) fun _ _ _ _ _ _ us hl => match us, hl with | [_, _], _ => rfl
  have g20 := He.glo_ok X G (cd.fact 20 (f := .glo "_law_shape") rfl)
  have F21 : Fun K "law" "law" s_law (He.fAd K ("law", none)) fd21 := fun_of E21
  have g21 := He.glo_ok X G (cd.fact 21 (f := .glo "law") rfl)
  have e := hfa.symm.trans g21
  cases e
  simp only [ex, Bool.and_eq_true, Bool.true_and] at hex
  have h2 := hex.1.1.1.1.1
  unfold ex2 at h2
  obtain ⟨q0, h2⟩ := He.ba h2
  obtain ⟨q1, h2⟩ := He.ba h2
  obtain ⟨q2, h2⟩ := He.ba h2
  obtain ⟨q3, h2⟩ := He.ba h2
  obtain ⟨q4, h2⟩ := He.ba h2
  obtain ⟨q5, h2⟩ := He.ba h2
  obtain ⟨q6, h2⟩ := He.ba h2
  obtain ⟨q7, h2⟩ := He.ba h2
  obtain ⟨q8, h2⟩ := He.ba h2
  obtain ⟨q9, h2⟩ := He.ba h2
  obtain ⟨q10, h2⟩ := He.ba h2
  obtain ⟨q11, h2⟩ := He.ba h2
  obtain ⟨q12, h2⟩ := He.ba h2
  obtain ⟨q13, h2⟩ := He.ba h2
  obtain ⟨q14, h2⟩ := He.ba h2
  obtain ⟨q15, h2⟩ := He.ba h2
  have q16 := h2
  refine ⟨fd21, tf.map (He.cT K), spLawB K [(He.cT K ("law", none)).2], fun p hp => ?_, fun p hp => ?_, fun p hp => ?_, fun s u => ?_, fun H a ns _ _ hT hS => ⟨a, ns, rfl, hS, fun p hp => ?_, fun _ => rfl⟩, fun base _ _ hB => law_tabsL (Ps := []) (of_decide_eq_true (hex.2)) ?_⟩
  · obtain ⟨q, hq, rfl⟩ := List.mem_map.mp hp
    exact c.empty q hq
  · obtain ⟨q, hq, rfl⟩ := List.mem_map.mp hp
    exact c.out q hq
  · obtain ⟨q, hq, rfl⟩ := List.mem_map.mp hp
    exact PySem.W.codeHd_of_K X (c.hd q hq)
  · exact FunD.bindsA (ps := ["_law_script"]) E21 (fun _ _ _ _ _ _ us hl => match us, hl with | [_], _ => rfl) s [u] rfl
  · simp only [List.mem_cons, List.not_mem_nil, or_false] at hp
    rcases hp with rfl
    · exact hT (He.cT K ("law", none)) (List.mem_map.mpr ⟨_, by unfold tf; simp, rfl⟩)
  have T : Tx K mg base (He.ga K "_SWITCHES") (He.ga K "SIDES") (He.ga K "_STRENGTHS") (He.ga K "_PART_COUNTS") (He.ga K "InvalidMessage") (He.ga K "InvalidSide") (He.ga K "InvalidStrength") (He.ga K "MessageTooLong") (He.ga K "SquaremarkError") (He.ga K "InvalidCertificate") (He.ga K "InvalidSymbols") (He.ga K "InvalidImage") (He.ga K "DecodeFailed") (He.ga K "InvalidBlock") (He.ga K "InvalidSymbol") (He.ga K "BlockDecodable") (He.ga K "PartialMessage") (He.ga K "_BLOCK_COUNTS") (He.cT K ("law", none)).1 (He.cT K ("law", none)).2 := ⟨trivial, He.free_ok X G (cd.fact 22 (f := .free "isinstance") rfl), He.free_ok X G (cd.fact 23 (f := .free "int") rfl), He.free_ok X G (cd.fact 24 (f := .free "bool") rfl), He.free_ok X G (cd.fact 25 (f := .free "enumerate") rfl), He.free_ok X G (cd.fact 26 (f := .free "min") rfl), He.free_ok X G (cd.fact 27 (f := .free "str") rfl), He.free_ok X G (cd.fact 28 (f := .free "reversed") rfl), He.free_ok X G (cd.fact 29 (f := .free "len") rfl), He.free_ok X G (cd.fact 30 (f := .free "zip") rfl), He.free_ok X G (cd.fact 31 (f := .free "tuple") rfl), He.free_ok X G (cd.fact 32 (f := .free "list") rfl), He.free_ok X G (cd.fact 33 (f := .free "range") rfl), He.free_ok X G (cd.fact 34 (f := .free "ValueError") rfl), He.int_ok X G (cd.fact 35 (f := .int "_DIGIT_MODE" 0) rfl), He.int_ok X G (cd.fact 36 (f := .int "LONGEST_MESSAGE" 200) rfl), He.str_ok X G (cd.fact 37 (f := .str "ALPHABET" " !\"#$&'()*+,-./0123456789:;<=>?@ABCDEFGHIJKLMNOPQRSTUVWXYZ[\\]^_`abcdefghijklmnopqrstuvwxyz{|}~") rfl), He.str_ok X G (cd.fact 38 (f := .str "_DIGIT_CHARACTERS" "0123456789 .") rfl), He.int_ok X G (cd.fact 39 (f := .int "_ESCAPE" 13) rfl), He.int_ok X G (cd.fact 40 (f := .int "_HYPHEN" 14) rfl), He.str_ok X G (cd.fact 41 (f := .str "_LETTER_CHARACTERS" "etaoinsrhldu ") rfl), He.str_ok X G (cd.fact 42 (f := .str "_RARE_CHARACTERS" "cmfpgwybvkxjqz,'") rfl), He.int_ok X G (cd.fact 43 (f := .int "_LETTER_MODE" 1) rfl), He.int_ok X G (cd.fact 44 (f := .int "_HEADER_CELLS" 24) rfl), He.glo_ok X G (cd.fact 45 (f := .glo "_SWITCHES") rfl), fun H => He.tupB_ok (hex.1.1.1.1.2) H, He.glo_ok X G (cd.fact 46 (f := .glo "SIDES") rfl), fun H => He.tupB_ok (hex.1.1.1.2) H, He.glo_ok X G (cd.fact 47 (f := .glo "_STRENGTHS") rfl), fun H => He.tupB_ok (hex.1.1.2) H, He.glo_ok X G (cd.fact 48 (f := .glo "_PART_COUNTS") rfl), fun H => He.tupB_ok (hex.1.2) H, He.glo_ok X G (cd.fact 49 (f := .glo "InvalidMessage") rfl), He.glo_ok X G (cd.fact 50 (f := .glo "InvalidSide") rfl), He.glo_ok X G (cd.fact 51 (f := .glo "InvalidStrength") rfl), He.glo_ok X G (cd.fact 52 (f := .glo "MessageTooLong") rfl), He.glo_ok X G (cd.fact 53 (f := .glo "SquaremarkError") rfl), He.glo_ok X G (cd.fact 54 (f := .glo "InvalidCertificate") rfl), He.glo_ok X G (cd.fact 55 (f := .glo "InvalidSymbols") rfl), He.glo_ok X G (cd.fact 56 (f := .glo "InvalidImage") rfl), He.glo_ok X G (cd.fact 57 (f := .glo "DecodeFailed") rfl), He.glo_ok X G (cd.fact 58 (f := .glo "InvalidBlock") rfl), He.glo_ok X G (cd.fact 59 (f := .glo "InvalidSymbol") rfl), He.glo_ok X G (cd.fact 60 (f := .glo "BlockDecodable") rfl), He.glo_ok X G (cd.fact 61 (f := .glo "PartialMessage") rfl), He.glo_ok X G (cd.fact 62 (f := .glo "_BLOCK_COUNTS") rfl), exkB_ok (q0), mkxB_ok (q1), of_decide_eq_true (q2), of_decide_eq_true (q3), of_decide_eq_true (q4), of_decide_eq_true (q5), of_decide_eq_true (q6), of_decide_eq_true (q7), of_decide_eq_true (q8), of_decide_eq_true (q9), of_decide_eq_true (q10), of_decide_eq_true (q11), of_decide_eq_true (q12), of_decide_eq_true (q13), of_decide_eq_true (q14), of_decide_eq_true (q15), kdiB_ok (q16), tabB_conv (hB (He.cT K ("law", none)) (List.mem_map.mpr ⟨_, by unfold tf; simp, rfl⟩))⟩
  have D__law_taken : Dfn l.prog w K mg base 1 "_law_taken" ["_law_row", "_law_many"] (spTaken K) := Dfn.mk' (ok__law_taken (P := l.prog) (w := w) (base := base) (F16) T) g16 F16.kp b16
  have D__law_message : Dfn l.prog w K mg base 2 "_law_message" ["_law_row", "_law_most"] (spC K [] S_msg) := Dfn.mk' (ok__law_message (P := l.prog) (w := w) (base := base) (F19) T D__law_taken) g19 F19.kp b19
  have D_require_message : Dfn l.prog w K mg base 1 "require_message" ["text"] spMsg := Dfn.mk' (ok_require_message (P := l.prog) (w := w) (base := base) (F2) T) g2 F2.kp b2
  have D__shortest_ways : Dfn l.prog w K mg base 1 "_shortest_ways" ["ways", "rest"] (spO K [] S_short) := Dfn.mk' (ok__shortest_ways (P := l.prog) (w := w) (base := base) (F9) T) g9 F9.kp b9
  have D__measure_rest : Dfn l.prog w K mg base 2 "_measure_rest" ["ways", "rest"] (spC K [] S_mrest) := Dfn.mk' (ok__measure_rest (P := l.prog) (w := w) (base := base) (F8) T D__shortest_ways) g8 F8.kp b8
  have D__write_in_letter_mode : Dfn l.prog w K mg base 1 "_write_in_letter_mode" ["character"] spLetW := Dfn.mk' (ok__write_in_letter_mode (P := l.prog) (w := w) (base := base) (F5) T) g5 F5.kp b5
  have D__write_in_digit_mode : Dfn l.prog w K mg base 1 "_write_in_digit_mode" ["character"] spDigW := Dfn.mk' (ok__write_in_digit_mode (P := l.prog) (w := w) (base := base) (F4) T) g4 F4.kp b4
  have D__write_character : Dfn l.prog w K mg base 2 "_write_character" ["character", "mode"] spWrt := Dfn.mk' (ok__write_character (P := l.prog) (w := w) (base := base) (F3) T D__write_in_letter_mode D__write_in_digit_mode) g3 F3.kp b3
  have D__list_ways : Dfn l.prog w K mg base 3 "_list_ways" ["character", "mode"] (spO K [] S_ways) := Dfn.mk' (ok__list_ways (P := l.prog) (w := w) (base := base) (F6) T D__write_character) g6 F6.kp b6
  have D__measure_rests : Dfn l.prog w K mg base 4 "_measure_rests" ["text"] (spO K [] S_mrests) := Dfn.mk' (ok__measure_rests (P := l.prog) (w := w) (base := base) (F7) T D__measure_rest D__list_ways) g7 F7.kp b7
  have D_encode_text : Dfn l.prog w K mg base 5 "encode_text" ["text"] (spO K [] S_enc) := Dfn.mk' (ok_encode_text (P := l.prog) (w := w) (base := base) (F1) T D_require_message D__measure_rests D__shortest_ways D__list_ways) g1 F1.kp b1
  have D__law_raised : DfnL l.prog w K mg base ["_law_work", "e", "_law_kinds", "_law_at"] "_law_raised" s__law_raised "_law_work" (("law" : Str) ++ ".<locals>." ++ "<lambda>") (spTT K [] (S_raised0 (He.ga K "MessageTooLong") "long")) := ⟨_, fd18, F18, g18, b18, gv__law_raised (P := l.prog) (w := w) (base := base) F18 T⟩
  have D0__law_alike : Dfn l.prog w K mg base 1 "_law_alike" ["_law_one", "_law_due"] spAlike0 := Dfn.mk' (ok0__law_alike (P := l.prog) (w := w) (base := base) (F17) T) g17 F17.kp b17
  have D__law_alike : Dfn l.prog w K mg base 2 "_law_alike" ["_law_one", "_law_due"] (spAlike1 K) := Dfn.mk' (ok__law_alike (P := l.prog) (w := w) (base := base) (F17) T D0__law_alike) g17 F17.kp b17
  have D_is_number : Dfn l.prog w K mg base 1 "is_number" ["value"] (spNum K) := Dfn.mk' (ok_is_number (P := l.prog) (w := w) (base := base) (F0) T) g0 F0.kp b0
  have D_require_strength : Dfn l.prog w K mg base 2 "require_strength" ["strength"] (spC K [] Lb.S_rst) := Dfn.mk' (ok_require_strength (P := l.prog) (w := w) (base := base) (F13) T D_is_number) g13 F13.kp b13
  have D_count_blocks : Dfn l.prog w K mg base 1 "count_blocks" ["side"] (spC K [] Lb.S_cb) := Dfn.mk' (ok_count_blocks (P := l.prog) (w := w) (base := base) (F11) T) g11 F11.kp b11
  have D_count_checks : Dfn l.prog w K mg base 1 "count_checks" ["strength"] (spC K [] Lb.S_cc) := Dfn.mk' (ok_count_checks (P := l.prog) (w := w) (base := base) (F12) T) g12 F12.kp b12
  have D_data_capacity : Dfn l.prog w K mg base 3 "data_capacity" ["side", "strength"] (spC K [] Lb.S_cap) := Dfn.mk' (ok_data_capacity (P := l.prog) (w := w) (base := base) (F10) T D_require_strength D_is_number D_count_blocks D_count_checks) g10 F10.kp b10
  have D__choose_plan : DfnX l.prog w K mg base 5 "_choose_plan" ["length", "strength"] (spX K [] (Lb.S_choose (He.ga K "MessageTooLong"))) := DfnX.mk' (ok__choose_plan (P := l.prog) (w := w) (base := base) (F15) T D_data_capacity) g15 F15.kp b15
  have D_plan_labels : DfnKw l.prog w K mg base 7 "plan_labels" ["text", "strength"] 1 ["strength"] [.int 2] (spX K [] (Lb.S_plan (He.ga K "MessageTooLong"))) := ⟨_, fd14, ds14, ok_plan_labels (P := l.prog) (w := w) (base := base) E14 T D_encode_text D_require_strength D__choose_plan, g14, k14, r14, b14, kb14⟩
  have D__law_shape : Dfn l.prog w K mg base 1 "_law_shape" ["_law_side", "_law_strong"] (spC K [] Lb.S_shape) := Dfn.mk' (ok__law_shape (P := l.prog) (w := w) (base := base) (F20) T) g20 F20.kp b20
  exact ok_law (P := l.prog) (w := w) (base := base) (funC_of F21) T D__law_message D__law_taken D_encode_text D__law_raised D__law_alike D_plan_labels D__law_shape
end Zk10
open PySem PySem.W PySem.Calls PyProof.Rows
set_option maxRecDepth 100000 in
set_option maxHeartbeats 0 in
theorem PySem.Challenge.cw_squaremark_k10_label_plans_holds : PySem.Challenge.rw_squaremark_k10_label_plans.Holds := by
  w_on; o_law
  refine HandSHeadRun.head_any (r := OpenLaw.row PySem.Challenge.rw_squaremark_k10_label_plans) (q := view (OpenLaw.row PySem.Challenge.rw_squaremark_k10_label_plans).prog [55]) (H := Zk10.hk) (ob := Zk10.ob) (M := 4000) (loose := Zk10.names) (d := HandSHeadRun.topDef (OpenLaw.row PySem.Challenge.rw_squaremark_k10_label_plans).prog 55) (kwd := []) Zk10.ob_eq (by kernel_rfl) (fun s => by kernel_rfl) Zk10.run (by kernel_rfl) (by kernel_rfl) (by kernel_rfl) (by rfl) (by first | assumption | decide +kernel) (by decide +kernel) ⟨rfl, rfl, rfl, rfl, rfl, by decide +kernel⟩ ?hw ?hc
  case hw => w_witness2
  case hc =>
    refine LamX.walk_ofTsE (l := PySem.Challenge.rw_squaremark_k10_label_plans) (n := 63) (k := 10) (x := "_law_script") (CX := fun _ => L2.CX0) rfl (by decide) (by kernel_rfl) ⟨rfl, by decide, by decide⟩ ?F (fun _ _ _ _ _ z => z)
    intro w mg fa h Y G hmg0
    obtain ⟨K, KX, c⟩ := Y
    have hmg : mg ("law" : PySem.Str) = some (.ref fa) := by
      have e : (HandSHeadRun.topDef (OpenLaw.row PySem.Challenge.rw_squaremark_k10_label_plans).prog 55).name = ("law" : PySem.Str) := by kernel_rfl
      rw [← e]
      exact hmg0
    exact ⟨K, KX, Zk10.facts KX G hmg c⟩

