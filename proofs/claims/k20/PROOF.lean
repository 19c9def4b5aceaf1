import PyProof.Rows.All
import Wide.All
import OpenK.AllK
import Wide.FinOn
import HandS.Base
import HandS.Call
import HandS.List
import HandS.Comp
import HandS.Ends
import HandS.Dict
import HandS.Iter
import HandS.Text
import HandS.Words
import HandS.WordsList
import HandS.WordsDict
import HandS.Evl
import HandS.Style
import HandS.IsInst
import HandS.AnyAll
import PyProof.GenCompD
import HandS.HeadHook4
import HandS.HeadWalk
import HandS.Head2
import KE.GoesEnum
import KE.KDictZip
import HandS.DictComp
import HandS.Conv
import HandS.TupMul
import HandS.RepeatKit
import PyProof.TupleOfSeq
import HandS.TupAny
import HandS.Zip
import KE.KStateDown
import HandS.Head0
import HandS.Head1
import HandS.Head3
import HandS.HeadEnd
import PySem.Challenge.RW_squaremark_k20_whole_blocks_of_fewer_dat
set_option Elab.async false
set_option linter.all false
set_option maxRecDepth 100000
set_option maxHeartbeats 4000000
/-! the draws' row: a list [script, int, int, int] that is told by what is true of it -/
namespace Sq
open PySem PySem.Spec PyProof.Rows L2 Evl

/-! ### heaps -/
theorem same_ex {H H' : Hp} (h : Same H H') : Ex H H' := h
theorem dn_seq (ns : List Int) (i : Nat) (n : Int) (h : ns[i]? = some n) : (ns.map V.int)[i]? = some (.int n) := by
  rw [List.getElem?_map, h]
  rfl

/-! ### the row -/
def RowB (i x y : Int) : Prop := 0 ≤ i ∧ 0 ≤ x ∧ x < 2147483647 ∧ 0 ≤ y
def rowL (a : Addr) (i x y : Int) : HO := .lst [.ref a, .int i, .int x, .int y]
def rowF (r a : Addr) : HO := .ext fun h => ∃ (t1 t2 t3 : Tok) (i x y : Int) (n : Nat), RowB i x y ∧ h.get? r = some { cls := .type "list", data := .seq #[.ref a, .int i t1, .int x t2, .int y t3] n }
section
variable {P : Program} {w : World} {H H' : Hp} {h h' : Heap} {r a : Addr}
theorem row_open (o : ObjOk P w H h r (rowF r a)) : ∃ i x y, RowB i x y ∧ ObjOk P w H' h r (rowL a i x y) := by
  obtain ⟨⟨t1, t2, t3, i, x, y, n, b, e⟩, _, _⟩ := o
  exact ⟨i, x, y, b, by show 4 ≤ sizeLine; decide, [.ref a, .int i t1, .int x t2, .int y t3], n, .cons rfl (.cons ⟨_, rfl⟩ (.cons ⟨_, rfl⟩ (.cons ⟨_, rfl⟩ .nil))), e⟩
theorem row_close {i x y : Int} (b : RowB i x y) (o : ObjOk P w H h r (rowL a i x y)) : ObjOk P w H' h r (rowF r a) := by
  obtain ⟨_, its, n, rv, e⟩ := o
  cases rv with
  | cons r0 rv =>
    cases rv with
    | cons r1 rv =>
      cases rv with
      | cons r2 rv =>
        cases rv with
        | cons r3 rv =>
          cases rv
          cases r0
          obtain ⟨t1, rfl⟩ := r1
          obtain ⟨t2, rfl⟩ := r2
          obtain ⟨t3, rfl⟩ := r3
          refine ⟨⟨t1, t2, t3, i, x, y, n, b, e⟩, ⟨_, e⟩, fun h1 h2 q k => ?_⟩
          obtain ⟨t1, t2, t3, i, x, y, n, b, e⟩ := q
          exact ⟨t1, t2, t3, i, x, y, n, b, k _ e⟩
end
/-- another word for what stands at an address that may change -/
theorem hok_swap {P : Program} {w : World} {H : Hp} {h : Heap} {r : Addr} {o : HO} (ok : HOk P w H h) (mu : Mut (H r)) (new : ObjOk P w (upd H r o) h r o) : HOk P w (upd H r o) h := by
  have he : ∃ u, h.get? r = some u := by
    cases q : H r with
    | none => rw [q] at mu; exact mu.elim
    | some u =>
      have z := ok r u q
      have l := z.lt
      cases e : h.get? r with
      | some v => exact ⟨v, rfl⟩
      | none =>
        exfalso
        cases u with
        | lst xs => obtain ⟨_, _, _, _, e'⟩ := z; rw [e] at e'; cases e'
        | tup xs => rw [q] at mu; exact mu
        | dK kvs => obtain ⟨_, _, _, _, o, _, _, e', _⟩ := z; rw [e] at e'; cases e'
        | dT kvs => obtain ⟨_, _, _, _, o, _, _, e', _⟩ := z; rw [e] at e'; cases e'
        | set S n => obtain ⟨o, _, _, _, e', _⟩ := z; rw [e] at e'; cases e'
        | ins C dx fs => obtain ⟨_, _, _, e', _⟩ := z; rw [e] at e'; cases e'
        | own y => rw [q] at mu; exact mu
        | xd fs => rw [q] at mu; exact mu
        | rng lo hi => rw [q] at mu; exact mu
        | frz ob u => rw [q] at mu; exact mu
        | tbl ps => rw [q] at mu; exact mu
        | met f y => rw [q] at mu; exact mu
        | ext φ => obtain ⟨_, ⟨_, e'⟩, _⟩ := z; rw [e] at e'; cases e'
  exact ok.write mu (.inl rfl) (fun b u _ q => q) he new
theorem un_swap {fs ex : List Addr} {P : Program} {w : World} {H : Hp} {h : Heap} {r : Addr} {o u : HO} (ok : HOk P w H h) (mu : Mut (H r)) (hr : ∃ v, h.get? r = some v) : Un fs ex H (upd H r o) h h :=
  Un.write mu (.inl rfl) (fun b u _ q => q) hr
theorem upd_self {H : Hp} {r : Addr} {o : HO} (h : H r = some o) : upd H r o = H := by
  funext b
  unfold upd
  split
  · rename_i e
    rw [e, h]
  · rfl

section
variable {P : Program} {w : World} {K : PySem.W.Frag} {mg : Str → Option Value} {base : Heap}
/-- a promise over a row that is told by what is true of it, from one over a list -/
theorem fn_rows {k : Nat} {f : Addr} {fd : FuncData} {ps : List Str} {sp sp' : Sp} (F : FnOk P w K mg base CX0 k f fd ps sp) (hl : ∀ vs H Q E, sp' vs H Q E → vs.length = ps.length)
    (h : ∀ vs H Q E, sp' vs H Q E → ∃ r a, H r = some (rowF r a) ∧ ∀ i x y, RowB i x y → sp vs (upd H r (rowL a i x y)) (fun v H' => ∃ i' x' y', RowB i' x' y' ∧ H' r = some (rowL a i' x' y') ∧ Q v (upd H' r (rowF r a))) E) :
    FnOk P w K mg base CX0 k f fd ps sp' := by
  refine ⟨hl, fun A outer s H args us vs Q E hr he hb hv hs => ?_⟩
  obtain ⟨r, a, hR, hk⟩ := h vs H Q E hs
  obtain ⟨i, x, y, b, ob⟩ := row_open (H' := upd H r (rowL a 0 0 0)) (he.hok r _ hR)
  have ob' : ObjOk P w (upd H r (rowL a i x y)) s.heap r (rowL a i x y) := ob
  have mu : Mut (H r) := by rw [hR]; exact trivial
  have hget : ∃ v, s.heap.get? r = some v := by
    obtain ⟨_, _, n, _, e⟩ := ob
    exact ⟨_, e⟩
  have hok1 := hok_swap he.hok mu ob'
  have e0 : Env0 P w K mg base A outer s (upd H r (rowL a i x y)) := by
    refine ⟨he.frames, he.mod, fun c o e => ⟨(he.bs c o e).1, ?_⟩, he.bsz, he.funs, fun c hc => ?_, hok1, he.bare⟩
    · have z := (he.bs c o e).2
      rw [upd_ne (fun q => by rw [q, hR] at z; cases z)]
      exact z
    · have z := he.frf c hc
      rw [upd_ne (fun q => by rw [q, hR] at z; cases z)]
      exact z
  refine codeAny_mono (F.run A outer s _ args us vs _ E hr e0 hb hv (hk i x y b)) fun res s' hq => ?_
  cases res with
  | error e => exact hq
  | ok fl =>
    cases fl with
    | next => exact hq
    | brk => exact hq
    | cont => exact hq
    | ret u =>
      obtain ⟨v, H', os, bare, un, hok, rv, i', x', y', b', hr', q⟩ := hq
      have mu' : Mut (H' r) := by rw [hr']; exact trivial
      have ob2 : ObjOk P w (upd H' r (rowF r a)) s'.heap r (rowF r a) := row_close b' (hok r _ hr')
      have hget' : ∃ v, s'.heap.get? r = some v := ob2.2.1
      refine ⟨v, upd H' r (rowF r a), os, bare, ?_, hok_swap hok mu' ob2, rv, q⟩
      exact ((Un.write mu (.inl rfl) (fun _ _ _ z => z) hget).trans un).trans (Un.write mu' (.inl rfl) (fun _ _ _ z => z) hget')
end
section
variable {X : Cx}
/-- from here on the list at r is told by what is true of it -/
def tAbs (u : TS) : TS := fun D σ H => ∃ r a i x y, RowB i x y ∧ H r = some (rowL a i x y) ∧ u D σ (upd H r (rowF r a))
theorem pss_abs {rest : List Stmt} {u : TS} (h : PSs X rest u) : PSs X rest (tAbs u) := by
  refine ⟨fun pins s σ H D I q => ?_⟩
  obtain ⟨r, a, i, x, y, b, hr, q⟩ := q
  have ob := I.hok r _ hr
  have mu : Mut (H r) := by rw [hr]; exact trivial
  have ob2 : ObjOk X.prog X.w (upd H r (rowF r a)) s.heap r (rowF r a) := row_close b ob
  obtain ⟨hp, g, d, t, o⟩ := s
  have J : Inv X pins σ (upd H r (rowF r a)) ⟨hp, g, d, t, o⟩ := I.write (t' := t) mu (.inl rfl) (fun _ _ _ z => z) ob2.2.1 ob2
  exact h.run pins _ σ _ D J q
end
/-- the draws' row stands at r -/
def RowAt (K : PySem.W.Frag) (H : Hp) (r : Addr) : Prop := ∃ (a : Addr) (ns : List Int), H r = some (rowF r a) ∧ SqL K H a (ns.map V.int)
theorem RowAt.ex {K : PySem.W.Frag} {H H' : Hp} {r : Addr} (h : RowAt K H r) (e : Ex H H') : RowAt K H' r := by
  obtain ⟨a, ns, h1, h2⟩ := h
  exact ⟨a, ns, e _ _ h1, ex_l e h2⟩
/-- a draw below m: any number from 0 to m - 1 -/
def spTaken (K : PySem.W.Frag) : Sp := fun vs H Q _ => ∃ (r : Addr) (m : Int), vs = [.ref r, .int m] ∧ 0 < m ∧ m < 1073741824 ∧ RowAt K H r ∧ ∀ z, 0 ≤ z → z < m → RetV (.int z) H Q

/-! ### a def by all that a call of it wants -/
structure Dfn (P : Program) (w : World) (K : PySem.W.Frag) (mg : Str → Option Value) (base : Heap) (k : Nat) (x : Str) (ps : List Str) (sp : Sp) : Prop where
  ex : ∃ f fd, FnOk P w K mg base CX0 k f fd ps sp ∧ mg x = some (.ref f) ∧ PySem.W.keepIn K (.ref f) = true ∧ Binds K fd ps []
theorem Dfn.mk' {P : Program} {w : World} {K : PySem.W.Frag} {mg : Str → Option Value} {base : Heap} {k : Nat} {x : Str} {ps : List Str} {sp : Sp} {f : Addr} {fd : FuncData}
    (F : FnOk P w K mg base CX0 k f fd ps sp) (g : mg x = some (.ref f)) (kp : PySem.W.keepIn K (.ref f) = true) (b : Binds K fd ps []) : Dfn P w K mg base k x ps sp := ⟨f, fd, F, g, kp, b⟩
section
variable {X : Cx} {k j : Nat} {x : Str} {ps : List Str} {sp : Sp} {p pos : Pos} {e : Expr} {es : List Expr} {t : TA}
theorem pe_callD (D : Dfn X.prog X.w X.K X.mg X.base k x ps sp) (hr : Room j X.A) (hk : k ≤ j) (hg : Gl X x) (ha : PA X (e :: es) t) (hdb : (x == ("__debug__" : Str)) = false := by decide)
    (he : starEach (e :: es) X.env = (false, eval e X.env) :: starEach es X.env := by rfl) (hpl : (backTo pos (starEach es X.env)).any (·.1) = false := by rfl) : PE X (.Call (.Name x p) (e :: es) [] pos) (tCall sp [] E0 t) := by
  obtain ⟨f, fd, F, g, kp, b⟩ := D.ex
  exact pe_call F (hr.mono hk) hg g kp b .nil pass0 ha hdb he hpl
end
theorem ev_callD {sp : Sp} {vs : List V} {ta : TA} {σ : L2.St} {H : Hp} {z : V} (h : EvA ta σ H vs) (hs : SpV sp vs H z) : Ev (tCall sp [] E0 ta) σ H z := ev_call h (by rw [List.append_nil]; exact hs)
end Sq

/-! arithmetic of symbols -/
namespace Sq
open PySem PySem.Spec PyProof.Rows L2 Evl
def powT : List Int := [1, 2, 4, 8, 3, 6, 12, 11, 5, 10, 7, 14, 15, 13, 9, 1, 2, 4, 8, 3, 6, 12, 11, 5, 10, 7, 14, 15, 13, 9]
def expT : List Int := [0, 0, 1, 4, 2, 8, 5, 10, 3, 14, 9, 7, 6, 13, 11, 12]
def eT (a : Int) : Int := expT.getD a.toNat 0
def pT (a : Int) : Int := powT.getD a.toNat 0
def Sym (a : Int) : Prop := 0 ≤ a ∧ a ≤ 15
def gadd (a b : Int) : Int := Builtin.bitXor a b
def gmul (a b : Int) : Int := if a = 0 ∨ b = 0 then 0 else pT (eT a + eT b)
def gdiv (a b : Int) : Int := if a = 0 then 0 else pT (eT a - eT b + 15)
theorem Sym.fin {a : Int} (h : Sym a) : ∃ i : Fin 16, a = (i.val : Int) := ⟨⟨a.toNat, by have := h.1; have := h.2; omega⟩, by have := h.1; show a = (a.toNat : Int); omega⟩
theorem sym_of (i : Fin 16) : Sym (i.val : Int) := ⟨by omega, by have := i.isLt; omega⟩
instance (a : Int) : Decidable (Sym a) := inferInstanceAs (Decidable (0 ≤ a ∧ a ≤ 15))
theorem sym1 {p : Int → Prop} (h : ∀ i : Fin 16, p (i.val : Int)) {a : Int} (ha : Sym a) : p a := by
  obtain ⟨i, rfl⟩ := ha.fin
  exact h i
theorem sym2 {p : Int → Int → Prop} (h : ∀ i j : Fin 16, p (i.val : Int) (j.val : Int)) {a b : Int} (ha : Sym a) (hb : Sym b) : p a b := by
  obtain ⟨i, rfl⟩ := ha.fin
  obtain ⟨j, rfl⟩ := hb.fin
  exact h i j
theorem sym3 {p : Int → Int → Int → Prop} (h : ∀ i j k : Fin 16, p (i.val : Int) (j.val : Int) (k.val : Int)) {a b c : Int} (ha : Sym a) (hb : Sym b) (hc : Sym c) : p a b c := by
  obtain ⟨i, rfl⟩ := ha.fin
  obtain ⟨j, rfl⟩ := hb.fin
  obtain ⟨k, rfl⟩ := hc.fin
  exact h i j k
theorem sym_add {a b : Int} (ha : Sym a) (hb : Sym b) : Sym (gadd a b) := sym2 (p := fun a b => Sym (gadd a b)) (by decide +kernel) ha hb
theorem sym_mul {a b : Int} (ha : Sym a) (hb : Sym b) : Sym (gmul a b) := sym2 (p := fun a b => Sym (gmul a b)) (by decide +kernel) ha hb
theorem sym_div {a b : Int} (ha : Sym a) (hb : Sym b) : Sym (gdiv a b) := sym2 (p := fun a b => Sym (gdiv a b)) (by decide +kernel) ha hb
theorem gadd_comm {a b : Int} (ha : Sym a) (hb : Sym b) : gadd a b = gadd b a := sym2 (p := fun a b => gadd a b = gadd b a) (by decide +kernel) ha hb
theorem gadd_assoc {a b c : Int} (ha : Sym a) (hb : Sym b) (hc : Sym c) : gadd (gadd a b) c = gadd a (gadd b c) := sym3 (p := fun a b c => gadd (gadd a b) c = gadd a (gadd b c)) (by decide +kernel) ha hb hc
theorem gadd_self {a : Int} (ha : Sym a) : gadd a a = 0 := sym1 (p := fun a => gadd a a = 0) (by decide +kernel) ha
theorem gadd_zero {a : Int} (ha : Sym a) : gadd a 0 = a := sym1 (p := fun a => gadd a 0 = a) (by decide +kernel) ha
theorem gmul_comm {a b : Int} (ha : Sym a) (hb : Sym b) : gmul a b = gmul b a := sym2 (p := fun a b => gmul a b = gmul b a) (by decide +kernel) ha hb
theorem gmul_assoc {a b c : Int} (ha : Sym a) (hb : Sym b) (hc : Sym c) : gmul (gmul a b) c = gmul a (gmul b c) := sym3 (p := fun a b c => gmul (gmul a b) c = gmul a (gmul b c)) (by decide +kernel) ha hb hc
theorem gmul_add {a b c : Int} (ha : Sym a) (hb : Sym b) (hc : Sym c) : gmul a (gadd b c) = gadd (gmul a b) (gmul a c) := sym3 (p := fun a b c => gmul a (gadd b c) = gadd (gmul a b) (gmul a c)) (by decide +kernel) ha hb hc
theorem gmul_one {a : Int} (ha : Sym a) : gmul a 1 = a := sym1 (p := fun a => gmul a 1 = a) (by decide +kernel) ha
theorem gmul_zero {a : Int} (ha : Sym a) : gmul a 0 = 0 := sym1 (p := fun a => gmul a 0 = 0) (by decide +kernel) ha
theorem gmul_two {a : Int} (ha : Sym a) : gmul a 2 = if a < 8 then 2 * a else gadd (2 * a - 16) 3 := sym1 (p := fun a => gmul a 2 = if a < 8 then 2 * a else gadd (2 * a - 16) 3) (by decide +kernel) ha
theorem gdiv_mul {a b : Int} (ha : Sym a) (hb : Sym b) (h0 : b ≠ 0) : gdiv (gmul a b) b = a := sym2 (p := fun a b => b ≠ 0 → gdiv (gmul a b) b = a) (by decide +kernel) ha hb h0
theorem gmul_div {a b : Int} (ha : Sym a) (hb : Sym b) (h0 : b ≠ 0) : gmul (gdiv a b) b = a := sym2 (p := fun a b => b ≠ 0 → gmul (gdiv a b) b = a) (by decide +kernel) ha hb h0
theorem gdiv_self {a : Int} (ha : Sym a) (h0 : a ≠ 0) : gdiv a a = 1 := sym1 (p := fun a => a ≠ 0 → gdiv a a = 1) (by decide +kernel) ha h0
theorem gdiv_div {a b c : Int} (ha : Sym a) (hb : Sym b) (hc : Sym c) (h0 : b ≠ 0) (h1 : c ≠ 0) : gdiv (gdiv a b) c = gdiv a (gmul b c) := sym3 (p := fun a b c => b ≠ 0 → c ≠ 0 → gdiv (gdiv a b) c = gdiv a (gmul b c)) (by decide +kernel) ha hb hc h0 h1
theorem gmul_eq0 {a b : Int} (ha : Sym a) (hb : Sym b) (h0 : a ≠ 0) (h1 : b ≠ 0) : gmul a b ≠ 0 := sym2 (p := fun a b => a ≠ 0 → b ≠ 0 → gmul a b ≠ 0) (by decide +kernel) ha hb h0 h1
def gpow (a : Int) : Nat → Int
  | 0 => 1
  | n + 1 => gmul (gpow a n) a
theorem gpow_sym {a : Int} (ha : Sym a) : ∀ n, Sym (gpow a n)
  | 0 => (show Sym 1 by decide)
  | n + 1 => sym_mul (gpow_sym ha n) ha
theorem gpow_15 {a : Int} (ha : Sym a) : gpow a 15 = if a = 0 then 0 else 1 := sym1 (p := fun a => gpow a 15 = if a = 0 then 0 else 1) (by decide +kernel) ha
theorem eT_b {a : Int} (ha : Sym a) : 0 ≤ eT a ∧ eT a ≤ 14 := sym1 (p := fun a => 0 ≤ eT a ∧ eT a ≤ 14) (by decide +kernel) ha
theorem tab_at {T : List Int} {i : Int} (h0 : 0 ≤ i) (h1 : i.toNat < T.length) : atI (T.map V.int) i = some (.int (T.getD i.toNat 0)) := by
  refine at_of (j := i.toNat) (by omega) ?_
  rw [List.getElem?_map, List.getElem?_eq_getElem h1]
  show some (V.int _) = some (V.int _)
  rw [List.getD_eq_getElem?_getD, List.getElem?_eq_getElem h1]
  rfl
theorem exp_at {a : Int} (ha : Sym a) : atI (expT.map V.int) a = some (.int (eT a)) := tab_at ha.1 (by show a.toNat < 16; have := ha.1; have := ha.2; omega)
theorem pow_at {a : Int} (h0 : 0 ≤ a) (h1 : a ≤ 29) : atI (powT.map V.int) a = some (.int (pT a)) := tab_at h0 (by show a.toNat < 30; omega)
end Sq

/-! further words of evaluation; the promises of the arithmetic of symbols -/
namespace Sq
open PySem PySem.Spec PyProof.Rows L2 Evl
section
variable {K : PySem.W.Frag} {σ : L2.St} {H H' : Hp} {ta tb tc te : TE} {t u : TT} {x y z v : V} {r r' : R2}
theorem rc_int {i : Int} : RC (fun xs H Q => (∃ i, xs = [.int i] ∧ Q (.int i) H) ∨ ∃ k, xs = [.bl k] ∧ Q (.int (if k then 1 else 0)) H) [.int i] H (.int i) := fun H1 _ _ q => .inl ⟨i, rfl, q H1 (Ex.refl H1)⟩
theorem rc_intB {b : Bool} : RC (fun xs H Q => (∃ i, xs = [.int i] ∧ Q (.int i) H) ∨ ∃ k, xs = [.bl k] ∧ Q (.int (if k then 1 else 0)) H) [.bl b] H (.int (if b then 1 else 0)) := fun H1 _ _ q => .inr ⟨b, rfl, q H1 (Ex.refl H1)⟩
theorem ev_chain {k l : Bool} (ha : Ev ta σ H x) (hb : Ev tb σ H y) (h1 : RV r x y H (.bl k)) (hc : k = true → Ev tc σ H z) (h2 : k = true → RV r' y z H (.bl l)) : Ev (tChain r r' ta tb tc) σ H (.bl (k && l)) := fun H1 e Q q =>
  ha H1 e _ fun H2 e2 => hb H2 (e.trans e2) _ fun H3 e3 => h1 H3 ((e.trans e2).trans e3) _ fun H4 e4 => ⟨k, rfl, by
    have e' : Ex H H4 := ((e.trans e2).trans e3).trans e4
    cases k with
    | true =>
      show tc σ H4 _
      exact hc rfl H4 e' _ fun H5 e5 => h2 rfl H5 (e'.trans e5) _ fun H6 e6 => q H6 ((((e2.trans e3).trans e4).trans e5).trans e6)
    | false =>
      show Q (.bl false) H4
      exact q H4 ((e2.trans e3).trans e4)⟩
theorem ev_ite {b : Bool} {x1 y1 : V} (h : EvT t σ H b) (h1 : b = true → Ev ta σ H x1) (h2 : b = false → Ev tb σ H y1) : Ev (tIf t ta tb) σ H (if b = true then x1 else y1) :=
  ev_if h (fun e => by rw [if_pos e]; exact h1 e) (fun e => by rw [if_neg (by rw [e]; decide)]; exact h2 e)
theorem ev_iteI {b : Bool} {x1 y1 : Int} (h : EvT t σ H b) (h1 : b = true → Ev ta σ H (.int x1)) (h2 : b = false → Ev tb σ H (.int y1)) : Ev (tIf t ta tb) σ H (.int (if b = true then x1 else y1)) :=
  ev_if h (fun e => by rw [if_pos e]; exact h1 e) (fun e => by rw [if_neg (by rw [e]; decide)]; exact h2 e)
theorem row_keep {a r : Addr} {ns : List Int} {i x y : Int} {o : HO} (h : SqL K H a (ns.map V.int)) (hr : H r = some (rowL a i x y)) : SqL K (upd H r o) a (ns.map V.int) := by
  rcases h with h | h
  · refine .inl ?_
    have hne : a ≠ r := by
      rintro rfl
      rcases h with h | ⟨o', h⟩
      · rw [hr] at h
        have e : ([.ref a, .int i, .int x, .int y] : List V) = ns.map V.int := by injection h with h; injection h
        cases ns with
        | nil => cases e
        | cons n ns => injection e with e _; cases e
      · rw [hr] at h; cases h
    rcases h with h | ⟨o', h⟩
    · exact .inl (by rw [upd_ne hne]; exact h)
    · exact .inr ⟨o', by rw [upd_ne hne]; exact h⟩
  · exact .inr h
theorem row_keepF {a r : Addr} {xs : List V} {o : HO} (h : SqL K H a xs) (hr : H r = some (rowF r a)) : SqL K (upd H r o) a xs := by
  rcases h with h | h
  · refine .inl ?_
    have hne : a ≠ r := by
      rintro rfl
      rcases h with h | ⟨o', h⟩
      · rw [hr] at h; cases h
      · rw [hr] at h; cases h
    rcases h with h | ⟨o', h⟩
    · exact .inl (by rw [upd_ne hne]; exact h)
    · exact .inr ⟨o', by rw [upd_ne hne]; exact h⟩
  · exact .inr h
end
/-! ### the promises -/
def spI1 (p : Int → Prop) (f : Int → V) : Sp := fun vs H Q _ => ∃ i, vs = [.int i] ∧ p i ∧ RetV (f i) H Q
def spI2 (p : Int → Int → Prop) (f : Int → Int → V) : Sp := fun vs H Q _ => ∃ i j, vs = [.int i, .int j] ∧ p i j ∧ RetV (f i j) H Q
theorem spv_I1 {p : Int → Prop} {f : Int → V} {i : Int} {H : Hp} (h : p i) : SpV (spI1 p f) [.int i] H (f i) := fun H1 _ _ q _ => ⟨i, rfl, h, q⟩
theorem spv_I2 {p : Int → Int → Prop} {f : Int → Int → V} {i j : Int} {H : Hp} (h : p i j) : SpV (spI2 p f) [.int i, .int j] H (f i j) := fun H1 _ _ q _ => ⟨i, j, rfl, h, q⟩
def Sym2 (a b : Int) : Prop := Sym a ∧ Sym b
def SymD (a b : Int) : Prop := Sym a ∧ Sym b ∧ b ≠ 0
abbrev spAdd : Sp := spI2 Sym2 fun a b => .int (gadd a b)
abbrev spMul : Sp := spI2 Sym2 fun a b => .int (gmul a b)
abbrev spDiv : Sp := spI2 SymD fun a b => .int (gdiv a b)
def isSym (v : V) : Bool := match v with | .int i => decide (0 ≤ i) && decide (i ≤ 15) | _ => false
def isNum (v : V) : Bool := match v with | .int _ => true | _ => false
/-- values that no check of a kind trips over: flat ones -/
def flatK : V → Bool | .non => true | .bl _ => true | .int _ => true | .str _ => true | _ => false
def spV1 (p : V → Prop) (f : V → V) : Sp := fun vs H Q _ => ∃ v, vs = [v] ∧ p v ∧ RetV (f v) H Q
theorem spv_V1 {p : V → Prop} {f : V → V} {v : V} {H : Hp} (h : p v) : SpV (spV1 p f) [v] H (f v) := fun H1 _ _ q _ => ⟨v, rfl, h, q⟩
/-- the check of two symbols that are symbols -/
def spReq2 : Sp := fun vs H Q _ => ∃ i j, vs = [.int i, .int j] ∧ Sym i ∧ Sym j ∧ RetV .non H Q
theorem spv_req2 {i j : Int} {H : Hp} (h1 : Sym i) (h2 : Sym j) : SpV spReq2 [.int i, .int j] H .non := fun H1 _ _ q _ => ⟨i, j, rfl, h1, h2, q⟩
def spLaw (K : PySem.W.Frag) : Sp := fun vs H Q _ => ∃ (a : Addr) (ns : List Int), vs = [.ref a] ∧ SqL K H a (ns.map V.int) ∧ ns.length ≤ 63 ∧ ∀ H', Q (.bl true) H'
/-! ### a tuple of the module's own -/
def absAll : List Value → Option (List V)
  | [] => some []
  | u :: us => match absV u, absAll us with
    | some v, some vs => some (v :: vs)
    | _, _ => none
theorem absV_rel {u : Value} {v : V} (h : absV u = some v) : RelV v u := by
  cases u <;> simp only [absV] at h <;> (first | (cases h; first | rfl | exact ⟨_, rfl⟩) | exact nomatch h)
theorem absAll_rel : ∀ {us : List Value} {vs : List V}, absAll us = some vs → Vals vs us
  | [], vs, h => by
    cases h
    exact .nil
  | u :: us, vs, h => by
    simp only [absAll] at h
    split at h
    · rename_i v vs' h1 h2
      cases h
      exact .cons (absV_rel h1) (absAll_rel h2)
    · exact nomatch h
def tupOf (o : Obj) : Option (List V) := match o.cls, o.data with
  | .type "tuple", .seq its _ => if its.size ≤ 100000 then absAll its.toList else none
  | _, _ => none
theorem tupOf_sq {K : PySem.W.Frag} {H : Hp} {a : Addr} {o : Obj} {xs : List V} (h : K.lookup a = some o) (e : tupOf o = some xs) : SqT K H a xs := by
  unfold tupOf at e
  split at e
  · rename_i its n hc hd
    split at e
    · rename_i hz
      exact .inr ⟨o, its, n, h, hc, hd, sz_of hz, absAll_rel e⟩
    · exact nomatch e
  · exact nomatch e
end Sq
namespace Sq
open PySem PySem.Spec PyProof.Rows L2 Evl
/-! ### kinds -/
def KdOk (K : PySem.W.Frag) (H : Hp) (v : V) : Prop := v = .non ∨ (∃ b, v = .bl b) ∨ (∃ i, v = .int i) ∨ (∃ x, v = .str x) ∨ ∃ p, v = .ref p ∧ ((∃ xs, SqT K H p xs) ∨ ∃ xs, SqL K H p xs)
theorem ty_tup {K : PySem.W.Frag} {H : Hp} {p : Addr} {xs : List V} (h : SqT K H p xs) : TyX K H (.ref p) (.type "tuple") := by
  rcases h with (h | ⟨o, h⟩) | ⟨o, its, n, h, hc, _⟩
  · exact .base (.tup h)
  · exact .fTuple h
  · exact .kTuple h hc
theorem ty_lst {K : PySem.W.Frag} {H : Hp} {p : Addr} {xs : List V} (h : SqL K H p xs) : TyX K H (.ref p) (.type "list") := by
  rcases h with (h | ⟨o, h⟩) | ⟨o, its, n, h, hc, _⟩
  · exact .base (.lst h)
  · exact .base (.frz h)
  · exact .kList h hc
theorem rc_isi {K : PySem.W.Frag} {H : Hp} {v : V} {T c : String} {b : Bool} (h : ∀ H1, Ex H H1 → TyX K H1 v (.type T)) (k : kitB T c = some b) : RC (rIsi K) [v, .ty c] H (.bl b) := fun H1 e _ q =>
  ⟨v, .ty c, .type T, .type c, b, rfl, .ty c, h H1 e, kit_ty k, q H1 (Ex.refl H1)⟩
def spNum (K : PySem.W.Frag) : Sp := fun vs H Q _ => ∃ v, vs = [v] ∧ KdOk K H v ∧ RetV (.bl (isNum v)) H Q
def spSym (K : PySem.W.Frag) : Sp := fun vs H Q _ => ∃ v, vs = [v] ∧ KdOk K H v ∧ RetV (.bl (isSym v)) H Q
theorem KdOk.ex {K : PySem.W.Frag} {H H' : Hp} {v : V} (h : KdOk K H v) (e : Ex H H') : KdOk K H' v := by
  rcases h with h | h | h | h | ⟨p, h, ⟨xs, q⟩ | ⟨xs, q⟩⟩
  · exact .inl h
  · exact .inr (.inl h)
  · exact .inr (.inr (.inl h))
  · exact .inr (.inr (.inr (.inl h)))
  · exact .inr (.inr (.inr (.inr ⟨p, h, .inl ⟨xs, ex_t e q⟩⟩)))
  · exact .inr (.inr (.inr (.inr ⟨p, h, .inr ⟨xs, ex_l e q⟩⟩)))
theorem kd_int {K : PySem.W.Frag} {H : Hp} {i : Int} : KdOk K H (.int i) := .inr (.inr (.inl ⟨i, rfl⟩))
theorem spv_num {K : PySem.W.Frag} {H : Hp} {v : V} (h : KdOk K H v) : SpV (spNum K) [v] H (.bl (isNum v)) := fun H1 e _ q _ => ⟨v, rfl, h.ex e, q⟩
theorem spv_sym {K : PySem.W.Frag} {H : Hp} {v : V} (h : KdOk K H v) : SpV (spSym K) [v] H (.bl (isSym v)) := fun H1 e _ q _ => ⟨v, rfl, h.ex e, q⟩
theorem isSym_of {i : Int} (h : Sym i) : isSym (.int i) = true := by
  show (decide (0 ≤ i) && decide (i ≤ 15)) = true
  rw [decide_eq_true h.1, decide_eq_true h.2]
  rfl
end Sq
namespace Sq
open PySem PySem.Spec PyProof.Rows L2 Evl
/-- the draws by the list itself: what changes is at r alone -/
def spTakenL (K : PySem.W.Frag) : Sp := fun vs H Q _ => ∃ (r a : Addr) (m i x y : Int) (ns : List Int), vs = [.ref r, .int m] ∧ 0 < m ∧ m < 1073741824 ∧ RowB i x y ∧ H r = some (rowL a i x y) ∧ SqL K H a (ns.map V.int) ∧
  ∀ z i' x' y' H', 0 ≤ z → z < m → RowB i' x' y' → H' r = some (rowL a i' x' y') → (∀ b o, b ≠ r → H b = some o → H' b = some o) → Q (.int z) H'
theorem taken_rows {K : PySem.W.Frag} {vs : List V} {H : Hp} {Q : VK} {E : XK} (h : spTaken K vs H Q E) : ∃ r a, H r = some (rowF r a) ∧ ∀ i x y, RowB i x y → spTakenL K vs (upd H r (rowL a i x y)) (fun v H' => ∃ i' x' y', RowB i' x' y' ∧ H' r = some (rowL a i' x' y') ∧ Q v (upd H' r (rowF r a))) E := by
  obtain ⟨r, m, rfl, h0, h1, ⟨a, ns, hr, hs⟩, q⟩ := h
  refine ⟨r, a, hr, fun i x y b => ⟨r, a, m, i, x, y, ns, rfl, h0, h1, b, upd_same, row_keepF hs hr, fun z i' x' y' H' z0 z1 b' hr' hk => ⟨i', x', y', b', hr', q z z0 z1 _ fun c o e => ?_⟩⟩⟩
  by_cases hc : c = r
  · subst hc
    rw [upd_same, ← e, hr]
  · rw [upd_ne hc]
    exact hk c o hc (by rw [upd_ne hc]; exact e)
theorem fmod_range {z m : Int} (h : 0 < m) : 0 ≤ z.fmod m ∧ z.fmod m < m := ⟨Int.fmod_nonneg_of_pos z h, Int.fmod_lt_of_pos z h⟩
end Sq
namespace Sq
open PySem PySem.Spec PyProof.Rows L2 Evl
section
variable {D : Ends} {tz : TS} {te : TE} {ta : TA} {σ : L2.St} {H : Hp} {i j l : Nat}
theorem q_asgR (h : te σ H fun v H1 => tz D (σ.set i (some v)) H1) : tSeq (tAsg te (gName i)) tz D σ H := h
theorem q_par2R (h : ta σ H fun vs H1 => ∃ u v, vs = [u, v] ∧ tz D ((σ.set i (some u)).set j (some v)) H1) : tSeq (tPar i j ta) tz D σ H := h
theorem q_par3R (h : ta σ H fun vs H1 => ∃ u v w, vs = [u, v, w] ∧ tz D (((σ.set i (some u)).set j (some v)).set l (some w)) H1) : tSeq (tPar3 i j l ta) tz D σ H := h
end
end Sq
namespace Sq
open PySem PySem.Spec PyProof.Rows L2 Evl
section
variable {D : Ends} {tz tu : TS} {t : TT} {σ : L2.St} {H : Hp} {b : Bool}
/-- an if without else whose branch goes on as the rest does: the rest is shown once -/
theorem q_whenT (h : EvT t σ H b) (k : ∀ H1, Ex H H1 → tz D σ H1) (h1 : (∀ H1, Ex H H1 → tz D σ H1) → b = true → ∀ H1, Ex H H1 → tu { D with nx := tz D } σ H1) : tSeq (tIfS t tu tNext) tz D σ H :=
  q_when h (h1 k) fun _ => k
end
end Sq

/-! small pure expressions and defs over the bare state, whatever runs around them (a generator's frame tells no stack) -/
namespace Sq
open PySem PySem.Spec PyProof.Rows L2 Evl

theorem keeps_trans {s s1 s2 : Shared} (a : Keeps s s1) (b : Keeps s1 s2) : Keeps s s2 := by
  obtain ⟨h1, t1, rfl, k1⟩ := a
  obtain ⟨h2, t2, rfl, k2⟩ := b
  exact ⟨h2, t2, rfl, fun b o e => k2 b o (k1 b o e)⟩
theorem keeps_rfl (s : Shared) : Keeps s s := ⟨s.heap, s.toks, rfl, fun _ _ e => e⟩
theorem keeps_tk (s : Shared) (t : Nat) : Keeps s { s with toks := t } := ⟨s.heap, t, rfl, fun _ _ e => e⟩
theorem keeps_get {s s' : Shared} (k : Keeps s s') {b : Addr} {o : Obj} (e : s.heap.get? b = some o) : s'.heap.get? b = some o := by
  obtain ⟨h1, t1, rfl, k1⟩ := k
  exact k1 b o e
/-- the module stands in the state -/
structure RS (K : PySem.W.Frag) (mg : Str → Option Value) (base : Heap) (s : Shared) : Prop where
  mod : L2.Mod K mg base
  bk : ∀ b o, base.get? b = some o → s.heap.get? b = some o
section
variable {P : Program} {w : World} {K : PySem.W.Frag} {mg : Str → Option Value} {base : Heap} {D U : Nat} {env : Env} {m : Str → Option Value} {G : Heap → Prop} {e a b c : Expr} {pos p : Pos} {x : Str}
theorem RS.keeps {s s' : Shared} (r : RS K mg base s) (k : Keeps s s') : RS K mg base s' := ⟨r.mod, fun b o e => keeps_get k (r.bk b o e)⟩
theorem RS.kin {s : Shared} (r : RS K mg base s) : K.In s.heap := r.mod.kin.keeps r.bk
theorem RS.lim {s : Shared} (r : RS K mg base s) : s.heap.NoLimit := r.mod.nolimit.keeps r.bk
theorem ns_keeps {s s' : Shared} (k : Keeps s s') {L : Addr} {m : Str → Option Value} (h : s.heap.Ns L m) : s'.heap.Ns L m := h.keeps fun b o e => keeps_get k e
/-- an expression whose value fulfils R, and that changes nothing -/
def RawE (P : Program) (w : World) (K : PySem.W.Frag) (mg : Str → Option Value) (base : Heap) (D U : Nat) (env : Env) (m : Str → Option Value) (G : Heap → Prop) (e : Expr) (R : Value → Prop) : Prop :=
  ∀ (A : Around) (E : Value → Shared → Prop) (s : Shared), RS K mg base s → A.handled = none → A.depth ≤ D → A.units ≤ U → s.heap.Ns env.locals m → G s.heap → wpAny (model P w) A (eval e env) (fun v s' => R v ∧ Keeps s s') E s
/-- a def called with us -/
def RawF (P : Program) (w : World) (K : PySem.W.Frag) (mg : Str → Option Value) (base : Heap) (D U : Nat) (f : Addr) (us : List Value) (R : Value → Prop) : Prop :=
  ∀ (A : Around) (s : Shared), RS K mg base s → A.handled = none → A.depth ≤ D → A.units ≤ U → codeAny (model P w) A (.call (.ref f) ⟨us, []⟩) (fun r s' => ∃ v, r = .ok (.ret v) ∧ R v ∧ Keeps s s') s
def GStb (G : Heap → Prop) : Prop := ∀ h h' : Heap, (∀ b o, h.get? b = some o → h'.get? b = some o) → G h → G h'
theorem gstb_keeps (g : GStb G) {s s' : Shared} (k : Keeps s s') (h : G s.heap) : G s'.heap := g _ _ (fun _ _ e => keeps_get k e) h
structure FnEnv (env : Env) : Prop where
  kind : env.scope.kind = .function
  glob : env.globals = mainGlobals
  blt : env.builtins = builtinsNs
theorem raw_loc {v : Value} (F : FnEnv env) (hl : env.kindOf x = some .local) (hm : m x = some v) (hd : (x == ("__debug__" : Str)) = false := by decide) : RawE P w K mg base D U env m G (.Name x pos) (fun u => u = v) :=
  fun A E s _ _ _ _ hn _ => wpAny_Name (wpAny_loadName_local F.kind hl hn hm ⟨rfl, keeps_rfl s⟩) hd
theorem raw_int {i : Int} {j} : RawE P w K mg base D U env m G (.Constant (.int i) j pos) (fun u => ∃ t, u = .int i t) :=
  fun A E s _ _ _ _ _ _ => wpAny_Constant_int ⟨⟨_, rfl⟩, keeps_tk s _⟩
theorem raw_blt {u : Value} (F : FnEnv env) (hx : env.kindOf x = some .globalImplicit) (hm : mg x = none) (hv : bootBuiltins x = some u) (hn : x ≠ "__name__" := by decide) (hd : (x == ("__debug__" : Str)) = false := by decide) : RawE P w K mg base D U env m G (.Name x pos) (fun v => v = u) :=
  fun A E s r _ _ _ _ _ => by
    obtain ⟨mb, h1, h2⟩ := r.mod.blt
    exact Calls.Name_function_global F.kind hx (Calls.loadGlobal_builtin (by rw [F.glob]; exact r.mod.glob.keeps r.bk) hm (by rw [F.blt]; exact h1.keeps r.bk) ((h2 x hn).trans hv) ⟨rfl, keeps_rfl s⟩) hd
theorem raw_glob {u : Value} (F : FnEnv env) (hx : env.kindOf x = some .globalImplicit) (hm : mg x = some u) (hd : (x == ("__debug__" : Str)) = false := by decide) : RawE P w K mg base D U env m G (.Name x pos) (fun v => v = u) :=
  fun A E s r _ _ _ _ _ => Calls.Name_function_global F.kind hx (Calls.loadGlobal_global (by rw [F.glob]; exact r.mod.glob.keeps r.bk) hm ⟨rfl, keeps_rfl s⟩) hd
theorem raw_imp {R R' : Value → Prop} (h : RawE P w K mg base D U env m G e R) (i : ∀ v, R v → R' v) : RawE P w K mg base D U env m G e R' :=
  fun A E s r h0 h1 h2 hn hg => wpAny_mono (h A E s r h0 h1 h2 hn hg) (fun v s' q => ⟨i v q.1, q.2⟩) fun _ _ z => z
/-- a and b, both bools -/
theorem raw_and {ka kb : Bool} (g : GStb G) (ha : RawE P w K mg base D U env m G a (fun v => v = .bool ka)) (hb : ka = true → RawE P w K mg base D U env m G b (fun v => v = .bool kb)) : RawE P w K mg base D U env m G (.BoolOp .And [a, b] pos) (fun v => v = .bool (ka && kb)) :=
  fun A E s r h0 h1 h2 hn hg => BoolOp_and (wpAny_mono (ha A E s r h0 h1 h2 hn hg) (fun v s1 q => by
    obtain ⟨rfl, k⟩ := q
    refine wpAny_truthy_bool ?_
    cases ka with
    | false => exact ⟨rfl, k⟩
    | true =>
      refine BoolOp_one (wpAny_mono (hb rfl A E s1 (r.keeps k) h0 h1 h2 (ns_keeps k hn) (gstb_keeps g k hg)) (fun v s2 q => ⟨q.1, keeps_trans k q.2⟩) fun _ _ z => z)) fun _ _ z => z)
theorem raw_or {ka kb : Bool} (g : GStb G) (ha : RawE P w K mg base D U env m G a (fun v => v = .bool ka)) (hb : ka = false → RawE P w K mg base D U env m G b (fun v => v = .bool kb)) : RawE P w K mg base D U env m G (.BoolOp .Or [a, b] pos) (fun v => v = .bool (ka || kb)) :=
  fun A E s r h0 h1 h2 hn hg => BoolOp_or (wpAny_mono (ha A E s r h0 h1 h2 hn hg) (fun v s1 q => by
    obtain ⟨rfl, k⟩ := q
    refine wpAny_truthy_bool ?_
    cases ka with
    | true => exact ⟨rfl, k⟩
    | false =>
      refine BoolOp_one (wpAny_mono (hb rfl A E s1 (r.keeps k) h0 h1 h2 (ns_keeps k hn) (gstb_keeps g k hg)) (fun v s2 q => ⟨q.1, keeps_trans k q.2⟩) fun _ _ z => z)) fun _ _ z => z)
theorem raw_not {ka : Bool} (ha : RawE P w K mg base D U env m G a (fun v => v = .bool ka)) : RawE P w K mg base D U env m G (.UnaryOp .Not a pos) (fun v => v = .bool (!ka)) :=
  fun A E s r h0 h1 h2 hn hg => UnaryOp_ (wpAny_mono (ha A E s r h0 h1 h2 hn hg) (fun v s1 q => by
    obtain ⟨rfl, k⟩ := q
    exact PyProof.Rows.not_of (wpAny_truthy_bool ⟨rfl, k⟩)) fun _ _ z => z)
theorem raw_isNone {j pos'} {u : Value} (ha : RawE P w K mg base D U env m G a (fun v => v = u)) : RawE P w K mg base D U env m G (.Compare a [.Is] [.Constant .none j pos'] pos) (fun v => v = .bool (u == .none)) :=
  fun A E s r h0 h1 h2 hn hg => wpAny_Compare1 (wpAny_mono (ha A E s r h0 h1 h2 hn hg) (fun v s1 q => by
    obtain ⟨rfl, k⟩ := q
    exact Constant_none (is_none_gen ⟨rfl, k⟩)) fun _ _ z => z) (by rfl)
/-- a <= b <= c of ints -/
theorem raw_chain {i j k : Int} (g : GStb G) (ha : RawE P w K mg base D U env m G a (fun v => ∃ t, v = .int i t)) (hb : RawE P w K mg base D U env m G b (fun v => ∃ t, v = .int j t)) (hc : RawE P w K mg base D U env m G c (fun v => ∃ t, v = .int k t)) (hm : lastMarks [.LtE, .LtE] [b, c] = false := by with_unfolding_all rfl) :
    RawE P w K mg base D U env m G (.Compare a [.LtE, .LtE] [b, c] pos) (fun v => v = .bool (decide (i ≤ j) && decide (j ≤ k))) :=
  fun A E s r h0 h1 h2 hn hg => by
    refine Compare_chain (wpAny_mono (ha A E s r h0 h1 h2 hn hg) (fun v s1 q => chain_link ?_) fun _ _ z => z) hm
    obtain ⟨⟨t1, rfl⟩, k1⟩ := q
    refine wpAny_mono (hb A E s1 (r.keeps k1) h0 h1 h2 (ns_keeps k1 hn) (gstb_keeps g k1 hg)) (fun v s2 q => ?_) fun _ _ z => z
    obtain ⟨⟨t2, rfl⟩, k2⟩ := q
    refine le_int (wpAny_truthy_bool ?_)
    have k12 := keeps_trans k1 k2
    cases hd : decide (i ≤ j) with
    | false => exact ⟨rfl, k12⟩
    | true =>
      refine chain_last (wpAny_mono (hc A E s2 (r.keeps k12) h0 h1 h2 (ns_keeps k12 hn) (gstb_keeps g k12 hg)) (fun v s3 q => ?_) fun _ _ z => z)
      obtain ⟨⟨t3, rfl⟩, k3⟩ := q
      exact le_int ⟨rfl, keeps_trans k12 k3⟩
/-- isinstance(x, T), T a built-in class -/
theorem raw_isi {u : Value} {T c : String} {r : Bool} {Z : Heap → Prop} {p1 p2 : Pos} (F : FnEnv env) (hx : env.kindOf "isinstance" = some .globalImplicit) (hm : mg "isinstance" = none) (g : GStb G) (ha : RawE P w K mg base D U env m G a (fun v => v = u)) (hb : RawE P w K mg base D U env m G b (fun v => v = .type c))
    (kit : PySem.W.KitX K u (.type T) Z) (hz : ∀ h, G h → Z h) (hl : u ≠ .builtin "__main__.__loader__#opaque") (k : kitB T c = some r)
    (he : starEach [a, b] env = (false, eval a env) :: starEach [b] env := by rfl) (he2 : starEach [b] env = (false, eval b env) :: starEach [] env := by rfl) (hpl : (backTo pos (starEach [b] env)).any (·.1) = false := by rfl) :
    RawE P w K mg base D U env m G (.Call (.Name "isinstance" p1) [a, b] [] pos) (fun v => v = .bool r) :=
  fun A E s rs h0 h1 h2 hn hg => by
    refine wpAny_Call_Name_kw (wpAny_mono (raw_blt (P := P) (w := w) (K := K) (mg := mg) (base := base) (D := D) (U := U) (m := m) (G := G) (u := .builtin "isinstance") F hx hm (by decide +kernel) (by decide) (by decide) A E s rs h0 h1 h2 hn hg) (fun f s0 q0 => ?_) fun _ _ z => z)
    obtain ⟨rfl, k0⟩ := q0
    refine PyProof.Rows.callWith_builtin1 ?_ he hpl
    rw [he]
    refine Calls.spliced_cons (wpAny_mono (ha A E s0 (rs.keeps k0) h0 h1 h2 (ns_keeps k0 hn) (gstb_keeps g k0 hg)) (fun v s1 q => ?_) fun _ _ z => z)
    obtain ⟨rfl, k1⟩ := q
    have k01 := keeps_trans k0 k1
    rw [he2]
    refine Calls.spliced_cons (wpAny_mono (hb A E s1 (rs.keeps k01) h0 h1 h2 (ns_keeps k01 hn) (gstb_keeps g k01 hg)) (fun v s2 q => ?_) fun _ _ z => z)
    obtain ⟨rfl, k2⟩ := q
    have k02 := keeps_trans k01 k2
    refine Calls.spliced_nil ?_
    exact PySem.W.kia_one kit (rs.keeps k02).kin (hz _ (gstb_keeps g k02 hg)) (kit_ty k) hl fun tk => ⟨rfl, keeps_trans k02 (keeps_tk s2 tk)⟩
/-- f(a), f an own def -/
theorem raw_call1 {u : Value} {f : Addr} {R : Value → Prop} {p1 : Pos} (F : FnEnv env) (hx : env.kindOf x = some .globalImplicit) (hm : mg x = some (.ref f)) (hk : PySem.W.keepIn K (.ref f) = true) (g : GStb G) (ha : RawE P w K mg base D U env m G a (fun v => v = u)) (hf : RawF P w K mg base D U f [u] R)
    (hd : (x == ("__debug__" : Str)) = false := by decide) (he : starEach [a] env = (false, eval a env) :: starEach [] env := by rfl) (hpl : (backTo pos (starEach [] env)).any (·.1) = false := by rfl) :
    RawE P w K mg base D U env m G (.Call (.Name x p1) [a] [] pos) R :=
  fun A E s rs h0 h1 h2 hn hg => by
    refine wpAny_Call_Name_kw (wpAny_mono (raw_glob (P := P) (w := w) (K := K) (mg := mg) (base := base) (D := D) (U := U) (m := m) (G := G) F hx hm hd A E s rs h0 h1 h2 hn hg) (fun v s0 q0 => ?_) fun _ _ z => z)
    obtain ⟨rfl, k0⟩ := q0
    refine PySem.W.callWith_K (h₀ := base) rs.mod.kin hk ?_ he hpl
    rw [he]
    refine Calls.spliced_cons (wpAny_mono (ha A E s0 (rs.keeps k0) h0 h1 h2 (ns_keeps k0 hn) (gstb_keeps g k0 hg)) (fun v s1 q => ?_) fun _ _ z => z)
    obtain ⟨rfl, k1⟩ := q
    have k01 := keeps_trans k0 k1
    refine Calls.spliced_nil ⟨(rs.keeps k01).kin, wpAny_call (codeAny_mono (hf A s1 (rs.keeps k01) h0 h1 h2) fun r s' q => ?_)⟩
    obtain ⟨v, rfl, hr, k2⟩ := q
    exact ⟨hr, keeps_trans k01 k2⟩
/-- a def whose body is one return -/
theorem raw_def {x qual : Str} {st : Stmt} {f : Addr} {fd : FuncData} {ps : List Str} {us : List Value} {e : Expr} {R : Value → Prop} (F : Fun K x qual st f fd) (hb : defBody st = [.Return (some e) pos])
    (hbind : ∀ (kV doc pm : Value) (an : Option Addr) (cdv ct : Value) (s : Shared), BindsTo s (PySem.W.fnOf x qual (defArgs st) (defBody st) (defScope st) .none kV doc pm an cdv ct) ⟨us, []⟩ (ps.zip us))
    (hkind : ((ps.zip us).all fun y => (defScope st).names.lookup y.1 == some .local || (defScope st).names.lookup y.1 == some .cell) = true)
    (hco : (defScope st).isCoroutine = false) (hgen : (defScope st).isGenerator = false) (hk : (defScope st).kind = .function) (hD : D + 1 < recursionLimit)
    (h : ∀ (L : Addr) (cdv : Value), RawE P w K mg base (D + 1) (U + 3) (envOfC qual (defScope st) L f cdv) (bindL (envOfC qual (defScope st) L f cdv).kindOf (ps.zip us) fun _ => none) G e R) (hg : ∀ s s' : Shared, G s.heap → Keeps s s' → G s'.heap) (A : Around) (s : Shared) (rs : RS K mg base s) (h0 : A.handled = none) (h1 : A.depth ≤ D) (h2 : A.units ≤ U) (g0 : G s.heap) :
    codeAny (model P w) A (.call (.ref f) ⟨us, []⟩) (fun r s' => ∃ v, r = .ok (.ret v) ∧ R v ∧ Keeps s s') s := by
  obtain ⟨oc, od, kV, doc, pm, an, cdv, ct, osl, rfl, lk, hcd⟩ := F.ex
  refine Att.call_fn rs.kin rs.lim lk hcd (by omega) (hbind _ _ _ _ _ _ s) hkind (fun s₁ IC => ?_) hco hgen hk
  obtain ⟨h₁, tk₁, rfl⟩ := IC.toInCall.same
  have k : Keeps s { s with heap := h₁, toks := tk₁ } := ⟨h₁, tk₁, rfl, IC.toInCall.keep⟩
  rw [hb]
  refine wpAny_execs_cons (wpAny_Return_some ?_)
  refine wpAny_mono (h s.heap.objs.size cdv (A.deeper _) _ _ (rs.keeps k) h0 (by show A.depth + 1 ≤ D + 1; omega) (by show A.units + 3 ≤ U + 3; omega) IC.toInCall.ns (hg _ _ g0 k)) (fun v s' q => ?_) fun _ _ z => z
  exact ⟨v, rfl, q.1, keeps_trans k q.2⟩
end
end Sq

/-! a def's table of code objects, told by what is true of it; all(..) and any(..) of a generator expression over a tuple -/
namespace Sq
open PySem PySem.Spec PyProof.Rows L2 Evl
def TabF (p : Addr) : HO := .ext fun h => ∃ ps : Array Value, h.get? p = some { cls := .none, data := .fields ps } ∧ TriplesOk ps.toList
theorem tabF_ok {P : Program} {w : World} {H : Hp} {h : Heap} {p : Addr} {ps : Array Value} (e : h.get? p = some { cls := .none, data := .fields ps }) (t : TriplesOk ps.toList) : ObjOk P w H h p (TabF p) :=
  ⟨⟨ps, e, t⟩, ⟨_, e⟩, fun _ _ q k => let ⟨qs, e1, t1⟩ := q; ⟨qs, k _ e1, t1⟩⟩
section
variable {X : Cx} {pins : List (Addr × Obj)} {σ : L2.St} {H : Hp} {s : Shared}
/-- what the element gives for an item, whatever runs around it -/
def EltG (X : Cx) (scope : Scope) (x : Str) (elt : Expr) (good : V → Bool → Prop) : Prop := ∀ (y : V) (u : Value) (b : Bool), good y b → RelV y u → ∀ (cenv : Env) (m : Str → Option Value), cenv.scope = scope → cenv.globals = mainGlobals → cenv.builtins = builtinsNs → m x = some u →
  RawE X.prog X.w X.K X.mg X.base (X.A.depth + 1) (X.A.units + 8) cenv m (fun _ => True) elt (fun v => v = .bool b)
def pAt (xs : List V) (pb : V → Bool) (j : Nat) : Bool := match xs[j]? with
  | some y => pb y
  | none => false
theorem pAt_all (xs : List V) (pb : V → Bool) : (List.range xs.length).all (pAt xs pb) = xs.all pb := by
  rw [Bool.eq_iff_iff, List.all_eq_true, List.all_eq_true]
  refine ⟨fun h y hy => ?_, fun h j hj => ?_⟩
  · obtain ⟨j, hj, e⟩ := List.getElem_of_mem hy
    have q := h j (List.mem_range.mpr hj)
    unfold pAt at q
    rw [List.getElem?_eq_getElem hj, e] at q
    exact q
  · have hj' := List.mem_range.mp hj
    unfold pAt
    rw [List.getElem?_eq_getElem hj']
    exact h _ (List.getElem_mem hj')
theorem pAt_any (xs : List V) (pb : V → Bool) : (List.range xs.length).any (pAt xs pb) = xs.any pb := by
  rw [Bool.eq_iff_iff, List.any_eq_true, List.any_eq_true]
  refine ⟨fun ⟨j, hj, q⟩ => ?_, fun ⟨y, hy, q⟩ => ?_⟩
  · have hj' := List.mem_range.mp hj
    unfold pAt at q
    rw [List.getElem?_eq_getElem hj'] at q
    exact ⟨_, List.getElem_mem hj', q⟩
  · obtain ⟨j, hj, e⟩ := List.getElem_of_mem hy
    refine ⟨j, List.mem_range.mpr hj, ?_⟩
    unfold pAt
    rw [List.getElem?_eq_getElem hj, e]
    exact q
/-- a generator that stands ready over the items -/
def GenRd (X : Cx) (pins : List (Addr × Obj)) (σ : L2.St) (H : Hp) (xs : List V) (pb : V → Bool) (g : Addr) (s5 : Shared) : Prop :=
  ∃ (fp wr : List Addr) (G : Array GenState → Array GenState → Prop) (F : Nat → Value → Prop) (St : Nat → Shared → Prop),
    (WalksS X.prog X.w X.A.in1 g fp wr G xs.length F St ∧ St 0 s5) ∧ TruthOf X.prog X.w X.A.in1 F (pAt xs pb) ∧ ∀ s', Moved wr G s5 s' → Inv X pins σ H s'
def tGenT (K : PySem.W.Frag) (Pt : Addr) (good : V → Bool → Prop) (te : TE) (k : List V → (V → Bool) → Hp → Prop) : L2.St → Hp → Prop := fun σ H => te σ H fun v H1 => ∃ (a : Addr) (xs : List V) (pb : V → Bool), v = .ref a ∧ SqT K H1 a xs ∧ H1 Pt = some (TabF Pt) ∧ (∀ y ∈ xs, good y (pb y)) ∧ k xs pb H1
theorem gen_tup {c Pt : Addr} {elt iter : Expr} {x : Str} {px gpos : Pos} {scope : Scope} {good : V → Bool → Prop} {te : TE} {j : Nat} {Q' : Value → Shared → Prop} {kk : List V → (V → Bool) → Hp → Prop}
    (hr : Room j X.A) (TB : GxR.TabB X.base X.mg c Pt) (hcode : X.env.code = .ref c) (S : GxR.GenS X.env scope x) (hi : PE X iter te) (hel : EltG X scope x elt good) (hs : ∀ v, genFold iter X.env v = pure v)
    (I : Inv X pins σ H s) (h : tGenT X.K Pt good te kk σ H) (hQ : ∀ xs pb H1 g s5, kk xs pb H1 → GenRd X pins σ H1 xs pb g s5 → Q' (.ref g) s5) :
    wpAny (model X.prog X.w) X.A (eval (.GeneratorExp elt [⟨.Name x px, iter, [], 0⟩] scope gpos) X.env) Q' X.xe s := by
  refine wpAny_GeneratorExp_walksQD hr.hd S.co (closure_ok S.free) S.cell S.dot S.loc S.kind (by have := hr.dp; omega) ?_ hs
  refine thn (hi.run pins s σ H _ I h) fun xv s1 hq => ?_
  obtain ⟨v, H1, I1, r1, ax, xs, pb, rfl, hx, hT, hgd, hkk⟩ := hq
  cases r1
  obtain ⟨its, rv, hp, hz⟩ := I1.tuple hx
  refine wpAny_pyIter_tuple (show s1.heap.IsTuple ax its.toArray from hp) ?_
  obtain ⟨⟨ps, hP, tri⟩, _, _⟩ := I1.hok Pt _ hT
  generalize hio : ({ cls := .type "tuple_iterator", data := .fields #[.ref ax, .int 0 0] } : Obj) = io
  have szZ : (s1.heap.push io).objs.size = s1.heap.objs.size + 1 := Heap.size_push ..
  have toZ : ∀ b u, s1.heap.get? b = some u → (s1.heap.push io).get? b = some u := fun b u e => Heap.get?_push_of_some _ e
  have hPlt : Pt < s1.heap.objs.size := Heap.lt_size hP
  have hPZ := toZ _ _ hP
  have hcd : PySem.W.CodeHd (s1.heap.push io) c Pt := TB.code.keeps fun b u e => toZ b u (I1.bk b u e)
  have limZ : (s1.heap.push io).NoLimit := I1.nolimit.push io
  have baseP : ∀ b u, X.base.get? b = some u → b ≠ Pt := fun b u e z => by
    have q := (I1.bs b u e).2
    rw [z, hT] at q
    cases q
  have hcl : cStatics < s1.heap.objs.size := let ⟨_, hns, _⟩ := I1.nolimit; hns.lt
  have go : ∀ (code : Value) (h3 : Heap) (tk : Nat) (qs : Array Value), Heap.ExtBut Pt (s1.heap.push io) h3 → (s1.heap.push io).objs.size ≤ h3.objs.size → h3.get? Pt = some { cls := .none, data := .fields qs } → TriplesOk qs.toList →
      wpAny (model X.prog X.w) X.A (builtinsFor X.env.globals X.env.builtins) (fun bi s₄ =>
        ∃ Ia fp wr n₀ Pf St₀ pz F, Value.ref s1.heap.objs.size = .ref Ia ∧ (∀ A' : Around, A'.handled = none → Walks X.prog X.w A' Ia fp wr n₀ Pf St₀) ∧ St₀ 0 s₄.heap ∧ (∀ b ∈ fp, b < s₄.heap.objs.size) ∧ s₄.heap.NoLimit ∧ cStatics ∉ wr ∧
          (∀ href : Heap, (∀ b o, s₄.heap.get? b = some o → href.get? b = some o) →
            QuietGenD X.prog X.w (genEnv scope (cloFrom X.env.cells scope.names []) s₄.heap.objs.size code bi X.env) x [] elt (List.range s₄.heap.objs.size) wr Pf pz F href (X.A.depth + 1) (X.A.units + 8)) ∧
          (∀ a h₅ tk gs, gs.bare = true → s₄.heap.objs.size < a → h₅.objs.size = a + 1 → (∀ b o, s₄.heap.get? b = some o → h₅.get? b = some o) →
            WalksS X.prog X.w X.A.in4 a (a :: s₄.heap.objs.size :: List.range s₄.heap.objs.size) (s₄.heap.objs.size :: wr) (GenOnlyQ s₄.gens.size) (passing pz n₀ 0).length
              (fun j y => ∃ i, (passing pz n₀ 0)[j]? = some i ∧ F i y) (GenAt X.prog X.w X.A.in4 a s₄.gens.size s₄.heap.objs.size (List.range s₄.heap.objs.size) wr pz n₀ F) →
            GenAt X.prog X.w X.A.in4 a s₄.gens.size s₄.heap.objs.size (List.range s₄.heap.objs.size) wr pz n₀ F 0 { s₄ with gens := s₄.gens.push gs, toks := tk, heap := h₅ } →
            Q' (.ref a) { s₄ with gens := s₄.gens.push gs, toks := tk, heap := h₅ })) X.xe { s1 with heap := h3, toks := tk } := by
    intro code h3 tk qs hx3 hsz hP3 tri3
    have up3 : ∀ b u, b ≠ Pt → s1.heap.get? b = some u → h3.get? b = some u := fun b u hb e => hx3 b u hb (toZ b u e)
    have hcP : cStatics ≠ Pt := fun z => by
      obtain ⟨_, ⟨o', es, ep, ho, hd, _⟩, _⟩ := I1.nolimit
      rw [z, hP] at ho
      cases ho
      cases hd
    obtain ⟨bm, ob, d1, d2, d3, d4, d5, d6, d7, d8⟩ := TB.bm
    refine wpAny_builtinsFor (m := X.mg) (by rw [I1.ok.glob]; exact ((I1.mod.glob.keeps I1.bk).push io).extBut hx3 TB.gP) d1 d2 (up3 _ _ d4 (I1.bk _ _ d5)) d6 d7 d8 ?_
    have lt3 : s1.heap.objs.size < h3.objs.size := by omega
    have hlen : its.toArray.size = xs.length := by rw [List.size_toArray, rv.length]
    have hIt : h3.IsTupleIter s1.heap.objs.size ax 0 ∧ h3.IsTuple ax its.toArray := by
      have axP : ax ≠ Pt := fun z => by
        obtain ⟨o, ho, hc, n, hd⟩ := hp
        rw [z, hP] at ho
        cases ho
        cases hd
      refine ⟨?_, ?_⟩
      · refine ⟨io, hx3 _ _ (Nat.ne_of_gt hPlt) (Heap.get?_push_size _ (by rw [← hio]; rfl)), ?_⟩
        rw [← hio]
        exact ⟨rfl, rfl⟩
      · obtain ⟨o, ho, hc, n, hd⟩ := hp
        exact ⟨o, up3 _ _ axP ho, hc, n, hd⟩
    have hne : ax ≠ s1.heap.objs.size := by
      obtain ⟨o, ho, _⟩ := hp
      exact Nat.ne_of_lt (Heap.lt_size ho)
    refine ⟨s1.heap.objs.size, [s1.heap.objs.size, ax], [s1.heap.objs.size], its.toArray.size, (fun i v => its.toArray[i]? = some v), (fun i h => h.IsTupleIter s1.heap.objs.size ax i ∧ h.IsTuple ax its.toArray), (fun _ => true), (fun i y => ∃ z, xs[i]? = some z ∧ y = .bool (pb z)), rfl, fun A' hA' => Walks.tuple hA' _ _ hne _, hIt, ?_, limZ.extBut hx3 hcP, ?_, ?_, ?_⟩
    · intro b hb
      have t1 : s1.heap.objs.size < h3.objs.size := by omega
      obtain ⟨o, ho, _⟩ := hp
      have t2 := Heap.lt_size ho
      rcases List.mem_cons.mp hb with z | z
      · rw [z]; exact t1
      · rw [List.mem_singleton.mp z]; exact Nat.lt_trans t2 t1
    · exact fun z => Nat.ne_of_lt hcl (List.mem_singleton.mp z)
    · intro href hhref
      refine ⟨fun A' E' i v s₂ m₂ hA _ _ hPv hn hm hk => ?_, fun A' E' i v s₂ m₂ hA hAd hAu hPv hpz hn hm hk => ?_⟩
      · simp only [List.forIn_nil]
        exact wpAny_pure ⟨rfl, keeps_rfl _⟩
      · have hv : its[i]? = some v := by simpa using hPv
        obtain ⟨y, hy, ry⟩ : ∃ y, xs[i]? = some y ∧ RelV y v := by
          cases e : xs[i]? with
          | none => rw [rv.none_of e] at hv; cases hv
          | some y =>
            obtain ⟨u, e1, e2⟩ := rv.get e
            rw [hv] at e1
            cases e1
            exact ⟨y, rfl, e2⟩
        have rs : RS X.K X.mg X.base s₂ := ⟨I1.mod, fun b o e => by
          have e1 := (I1.bs b o e).1
          have lb := Heap.lt_size e1
          exact hk b (List.mem_range.mpr (Nat.lt_trans lb lt3)) (fun z => Nat.ne_of_lt lb (List.mem_singleton.mp z)) o (hhref b o (up3 b o (baseP b o e) e1))⟩
        exact wpAny_mono (hel y v (pb y) (hgd y (List.mem_of_getElem? hy)) ry (genEnv scope (cloFrom X.env.cells scope.names []) h3.objs.size code builtinsNs X.env) m₂ rfl I1.ok.glob rfl hm A' E' s₂ rs hA hAd hAu hn trivial) (fun u s3 q => ⟨⟨y, hy, q.1⟩, q.2⟩) fun _ _ z => z
    · intro g h5 tk5 gs hgb hag hsz5 hk5 W5 hat
      simp only [GxR.passing_true, List.length_range, hlen] at W5 hat
      refine hQ xs pb H1 g _ hkk ⟨_, _, _, _, _, ⟨W5.in4_1, hat⟩, ?_, fun s' hm => ?_⟩
      · intro i y sj Qj Ej hy hQj
        obtain ⟨i', hij, z, hz', rfl⟩ := hy
        obtain ⟨hj, ej⟩ := List.getElem?_eq_some_iff.mp hij
        rw [List.getElem_range] at ej
        subst ej
        have e9 : pAt xs pb i = pb z := by unfold pAt; rw [hz']
        rw [e9] at hQj
        exact wpAny_truthy_bool hQj
      · have away : ∀ b u, s1.heap.get? b = some u → b ∉ h3.objs.size :: [s1.heap.objs.size] := fun b u e hb => by
          have lb := Heap.lt_size e
          rcases List.mem_cons.mp hb with z | z
          · exact Nat.ne_of_lt (Nat.lt_trans lb lt3) z
          · exact Nat.ne_of_lt lb (List.mem_singleton.mp z)
        have last : ∀ b u, b ≠ Pt → s1.heap.get? b = some u → s'.heap.get? b = some u := fun b u hb e => hm.heap b u (away b u e) (hk5 b u (up3 b u hb e))
        have lastP : s'.heap.get? Pt = some { cls := .none, data := .fields qs } := hm.heap Pt _ (away Pt _ hP) (hk5 Pt _ hP3)
        have mu : Mut (H1 Pt) := by rw [hT]; exact trivial
        have eU : upd H1 Pt (TabF Pt) = H1 := upd_self hT
        have un : Un (frs X.stack) [] H1 H1 s1.heap s'.heap := by
          have z := Un.write (fs := frs X.stack) (ex := []) (o := TabF Pt) mu (.inl rfl) last ⟨_, lastP⟩
          rw [eU] at z
          exact z
        have hok : HOk X.prog X.w H1 s'.heap := by
          have z := I1.hok.write (o' := TabF Pt) mu (.inl rfl) last ⟨_, lastP⟩ (tabF_ok lastP tri3)
          rw [eU] at z
          exact z
        have J := I1.call (g' := s'.gens) (t' := s'.toks) (d' := s'.drawn) (ch := []) un hok (AllBare.movedS (I1.bare.push hgb) hm) (fun b hb => absurd hb (by simp))
        rw [GxR.sh_eta s1 s' hm.os] at J
        exact J
  refine ⟨limZ, ?_⟩
  cases hf : codeAmong gpos ps.toList with
  | some cv =>
    refine wpAny_genexprCode_hit hcode (hcd.code hPZ tri) hf ?_
    exact go cv _ s1.toks ps (Heap.ExtBut.refl _ _) (Nat.le_refl _) hPZ tri
  | none =>
    refine wpAny_genexprCodeX hcode (hcd.code hPZ tri) (hcd.tab hPZ) hf fun c' h' tk hxx hge hlt hco' _ htab' _ => ?_
    obtain ⟨o1, vs, f1, tf, fl, tg, inF, tx, tt, op, _, _, _, _, _, _, _, _, _, htr, _⟩ := hco'
    exact go _ h' tk _ hxx (Nat.le_trans hge (Nat.le_of_lt hlt)) htab'.2 htr
def tAllT (K : PySem.W.Frag) (Pt : Addr) (good : V → Bool → Prop) (te : TE) : TE := fun σ H Q => tGenT K Pt good te (fun xs pb H1 => Q (.bl (xs.all pb)) H1) σ H
theorem pe_allT {c Pt : Addr} {elt iter : Expr} {x : Str} {px p pos gpos : Pos} {scope : Scope} {good : V → Bool → Prop} {te : TE} {j : Nat}
    (hr : Room j X.A) (hg : Gl X "all") (hm : X.mg "all" = none) (TB : GxR.TabB X.base X.mg c Pt) (hcode : X.env.code = .ref c) (S : GxR.GenS X.env scope x) (hi : PE X iter te) (hel : EltG X scope x elt good) (hs : ∀ v, genFold iter X.env v = pure v)
    (hv : bootBuiltins "all" = some (.builtin "all") := by decide +kernel) (he : starEach [.GeneratorExp elt [⟨.Name x px, iter, [], 0⟩] scope gpos] X.env = (false, eval (.GeneratorExp elt [⟨.Name x px, iter, [], 0⟩] scope gpos) X.env) :: starEach [] X.env := by rfl) :
    PE X (.Call (.Name "all" p) [.GeneratorExp elt [⟨.Name x px, iter, [], 0⟩] scope gpos] [] pos) (tAllT X.K Pt good te) := by
  refine ⟨fun pins s σ H Q I h => wpAny_Call_Name_kw (ld_blt I hg hm hv (PyProof.Rows.callWith_builtin1 ?_ he (by rfl)))⟩
  rw [he]
  refine Calls.spliced_cons (gen_tup hr TB hcode S hi hel hs I h fun xs pb H1 g s5 hR hG => Calls.spliced_nil ?_)
  obtain ⟨fp, wr, G, F, St, ⟨W, hst⟩, htr, hI⟩ := hG
  refine call_all_walkS (W.self 0 _ _ _ hst ⟨g, fp, wr, G, _, F, St, _, rfl, W, hst, htr, fun s' hmv => ⟨.bl _, H1, hI s' hmv, rfl, ?_⟩⟩)
  rw [pAt_all]
  exact hR
end
end Sq
namespace Sq
open PySem PySem.Spec PyProof.Rows L2 Evl
/-! ### tables at a law's start -/
def Tabs (Ps : List Addr) (H : Hp) : Prop := ∀ p ∈ Ps, H p = some (TabF p)
theorem Tabs.ex {Ps : List Addr} {H H' : Hp} (t : Tabs Ps H) (e : Ex H H') : Tabs Ps H' := fun p hp => e _ _ (t p hp)
def withT (Ps : List Addr) (H : Hp) : Hp := fun b => if b ∈ Ps then some (TabF b) else H b
def tblAt (h : Heap) (b : Addr) : Array Value := match h.get? b with
  | some o => (match o.data with
    | .fields vs => vs
    | _ => #[])
  | none => #[]
def backT (Ps : List Addr) (h : Heap) (H : Hp) : Hp := fun b => if b ∈ Ps then some (.tbl (tblAt h b)) else H b
theorem withT_in {Ps : List Addr} {H : Hp} {b : Addr} (h : b ∈ Ps) : withT Ps H b = some (TabF b) := if_pos h
theorem withT_out {Ps : List Addr} {H : Hp} {b : Addr} (h : b ∉ Ps) : withT Ps H b = H b := if_neg h
theorem backT_in {Ps : List Addr} {g : Heap} {H : Hp} {b : Addr} (h : b ∈ Ps) : backT Ps g H b = some (.tbl (tblAt g b)) := if_pos h
theorem backT_out {Ps : List Addr} {g : Heap} {H : Hp} {b : Addr} (h : b ∉ Ps) : backT Ps g H b = H b := if_neg h
theorem tblAt_of {h : Heap} {b : Addr} {ps : Array Value} (e : h.get? b = some { cls := .none, data := .fields ps }) : tblAt h b = ps := by
  unfold tblAt
  rw [e]
section
variable {P : Program} {w : World} {K : PySem.W.Frag} {mg : Str → Option Value} {base : Heap}
theorem fn_tabs {k : Nat} {f : Addr} {fd : FuncData} {ps : List Str} {sp sp' : Sp} {Ps : List Addr} (F : FnOk P w K mg base CX0 k f fd ps sp) (hl : ∀ vs H Q E, sp' vs H Q E → vs.length = ps.length)
    (h : ∀ vs H Q E, sp' vs H Q E → (∀ p ∈ Ps, H p = some (.tbl #[])) ∧ sp vs (withT Ps H) (fun v H' => Tabs Ps H' ∧ ∀ H'', Q v H'') E) : FnOk P w K mg base CX0 k f fd ps sp' := by
  refine ⟨hl, fun A outer s H args us vs Q E hr he hb hv hs => ?_⟩
  obtain ⟨hT, hsp⟩ := h vs H Q E hs
  have outN : ∀ b, H b = none → b ∉ Ps := fun b e z => by
    rw [hT b z] at e
    cases e
  have eN : ∀ b, H b = none → withT Ps H b = none := fun b e => (withT_out (outN b e)).trans e
  have outU : ∀ b u, H b = some u → (∀ q, u ≠ .tbl q) → b ∉ Ps := fun b u e n z => by
    rw [hT b z] at e
    cases e
    exact n _ rfl
  have hok : HOk P w (withT Ps H) s.heap := fun b u e => by
    by_cases hb : b ∈ Ps
    · rw [withT_in hb] at e
      cases e
      exact tabF_ok (he.hok b _ (hT b hb)) trivial
    · rw [withT_out hb] at e
      refine (he.hok b u e).stay (fun _ _ _ q => q) (fun d q => ?_) fun d xs q => ?_
      · rw [withT_out (outU d _ q fun _ z => by cases z)]
        exact q
      · rw [withT_out (outU d _ q fun _ z => by cases z)]
        exact q
  have e0 : Env0 P w K mg base A outer s (withT Ps H) := ⟨he.frames, he.mod, fun b o e => ⟨(he.bs b o e).1, eN b (he.bs b o e).2⟩, he.bsz, he.funs, fun b hb => eN b (he.frf b hb), hok, he.bare⟩
  refine codeAny_mono (F.run A outer s _ args us vs _ E hr e0 hb hv hsp) fun res s' hq => ?_
  cases res with
  | error e => exact hq
  | ok fl =>
    cases fl with
    | next => exact hq
    | brk => exact hq
    | cont => exact hq
    | ret u =>
      obtain ⟨v, H', os, bare, un, hok', rv, hT', q⟩ := hq
      have same' : ∀ b o, H' b = some o → (∀ φ, o ≠ .ext φ) → b ∉ Ps := fun b o e n z => by
        rw [hT' b z] at e
        cases e
        exact n _ rfl
      refine ⟨v, backT Ps s'.heap H', os, bare, ⟨fun b o e n hf hx => un.keep b o e (eN b n) hf hx, fun b o e n hf hx => un.slot b o e (eN b n) hf hx, fun b o e n hx => ?_, un.there, fun b xs e => ?_, fun b o u e => ?_, fun b qs e => ?_⟩, fun b o e => ?_, rv, q _⟩
      · rw [backT_out (outN b n)]
        exact un.free b o e (eN b n) hx
      · have nb := outU b _ e fun _ z => by cases z
        rw [backT_out nb]
        exact un.tups b xs ((withT_out nb).trans e)
      · have nb := outU b _ e fun _ z => by cases z
        rw [backT_out nb]
        exact un.frzs b o u ((withT_out nb).trans e)
      · by_cases hb : b ∈ Ps
        · rw [hT b hb] at e
          cases e
          rw [backT_in hb]
          exact ⟨_, by rw [Array.empty_append]⟩
        · obtain ⟨more, em⟩ := un.tbls b qs ((withT_out hb).trans e)
          exact ⟨more, by rw [backT_out hb]; exact em⟩
      · by_cases hb : b ∈ Ps
        · rw [backT_in hb] at e
          cases e
          obtain ⟨⟨qs, eq, _⟩, _, _⟩ := hok' b _ (hT' b hb)
          show s'.heap.get? b = some { cls := .none, data := .fields (tblAt s'.heap b) }
          rw [tblAt_of eq]
          exact eq
        · rw [backT_out hb] at e
          refine (hok' b o e).stay (fun _ _ _ q => q) (fun d q => ?_) fun d xs q => ?_
          · rw [backT_out (same' d _ q fun _ z => by cases z)]
            exact q
          · rw [backT_out (same' d _ q fun _ z => by cases z)]
            exact q
/-- a def with its code object -/
structure FunC (K : PySem.W.Frag) (x qual : Str) (st : Stmt) (f : Addr) (fd : FuncData) (c : Addr) : Prop where
  fn : Fun K x qual st f fd
  code : fd.code = .ref c
theorem fun_of {x qual : Str} {st : Stmt} {f : Addr} {fd : FuncData} (F : FunD K x qual (defArgs st) (defBody st) (defScope st) [] [] f fd) : Fun K x qual st f fd := by
  obtain ⟨oc, od, dV, kV, doc, pm, an, cdv, ct, osl, rfl, lk, hcd, hd, _⟩ := F.ex
  rcases hd with ⟨_, rfl⟩ | ⟨z, _⟩
  · exact ⟨⟨oc, od, kV, doc, pm, an, cdv, ct, osl, rfl, lk, hcd⟩, F.kp⟩
  · exact absurd rfl z
theorem FunC.ok {x qual : Str} {st : Stmt} {f : Addr} {fd : FuncData} {c : Addr} {N ps : List Str} {k : Nat} {sp : Sp} (F : FunC K x qual st f fd c) (S : FnScope N ps (defScope st)) (len : ∀ vs H Q E, sp vs H Q E → vs.length = ps.length)
    (hbody : ∀ (A : Around) (outer : List Env) (s : Shared) (H : Hp) (vs : List V) (Q : VK) (E : XK), Room k (A.deeper (envOfC qual (defScope st) s.heap.objs.size f (.ref c))) → sp vs H Q E →
      ∃ t, PSs (cxOf CX0 P w K mg base N qual (defScope st) f (.ref c) A outer s H E).nox (defBody st) t ∧ t { nx := fun _ H' => Q .non H', rt := Q } (start N vs) H) : FnOk P w K mg base CX0 (k + 1) f fd ps sp := by
  obtain ⟨oc, od, kV, doc, pm, an, cdv, ct, osl, rfl, lk, hcd⟩ := F.fn.ex
  have e : cdv = .ref c := F.code
  subst e
  refine fn_of lk hcd S len fun A outer s H vs Q E hr hsp => ?_
  obtain ⟨t, ht, q⟩ := hbody A outer s H vs Q E hr hsp
  exact ⟨t, ht.nox, q⟩
/-- the code object that the head's facts name -/
theorem funC_of {x qual : Str} {st : Stmt} {fd : FuncData} {p : Str × Option Str} (F : Fun K x qual st (He.fAd K p) fd) : FunC K x qual st (He.fAd K p) fd (He.codeOf K p) := by
  obtain ⟨oc, od, kV, doc, pm, an, cdv, ct, osl, rfl, lk, hcd⟩ := id F.ex
  obtain ⟨c, rfl⟩ := He.codeIn_ref hcd
  exact ⟨F, congrArg Value.ref (He.codeOf_eq lk rfl).symm⟩
end
def genSB (scope : Scope) (x : Str) : Bool := decide (scope.kind = .function) && (!scope.isCoroutine && (scope.names.all (fun y => decide (y.2 ≠ .cell) && decide (y.2 ≠ .free)) && (decide (scope.names.lookup (".0" : Str) = some NameKind.local) && decide (scope.names.lookup x = some .local))))
theorem genS_of {env : Env} {scope : Scope} {x : Str} (h : genSB scope x = true) : GxR.GenS env scope x := by
  unfold genSB at h
  simp only [Bool.and_eq_true, decide_eq_true_eq, Bool.not_eq_true', List.all_eq_true] at h
  obtain ⟨h1, h2, h3, h4, h5⟩ := h
  exact ⟨h1, h2, fun y hy => (h3 y hy).1, h4, h5, fun y hy e => absurd e (h3 y hy).2⟩
theorem tabB_conv {base : Heap} {mg : Str → Option Value} {c P : Addr} (t : LamX.TabB base mg c P) : GxR.TabB base mg c P := ⟨t.code, t.bm, t.gP⟩
end Sq
namespace Sq
open PySem PySem.Spec PyProof.Rows L2 Evl
/-- the law's promise: tables told by what is true of them | as the head leaves them -/
def spLawX (K : PySem.W.Frag) (Ps : List Addr) : Sp := fun vs H Q _ => ∃ (a : Addr) (ns : List Int), vs = [.ref a] ∧ SqL K H a (ns.map V.int) ∧ Tabs Ps H ∧ ∀ H', Ex H H' → Q (.bl true) H'
def spLawB (K : PySem.W.Frag) (Ps : List Addr) : Sp := fun vs H Q _ => ∃ (a : Addr) (ns : List Int), vs = [.ref a] ∧ SqL K H a (ns.map V.int) ∧ (∀ p ∈ Ps, H p = some (.tbl #[])) ∧ ∀ H', Q (.bl true) H'
theorem law_tabs {P : Program} {w : World} {K : PySem.W.Frag} {mg : Str → Option Value} {base : Heap} {k : Nat} {f : Addr} {fd : FuncData} {x : Str} {Ps : List Addr} (F : FnOk P w K mg base CX0 k f fd [x] (spLawX K Ps)) : FnOk P w K mg base CX0 k f fd [x] (spLawB K Ps) := by
  refine fn_tabs (Ps := Ps) F (fun vs H Q E ⟨a, ns, e, _⟩ => by rw [e]; rfl) fun vs H Q E ⟨a, ns, e, hS, hT, q⟩ => ⟨hT, a, ns, e, ?_, fun p hp => withT_in hp, fun H' e' => ⟨fun p hp => e' _ _ (withT_in hp), q⟩⟩
  rcases hS with (h | ⟨o, h⟩) | h
  · exact .inl (.inl (by rw [withT_out (fun z => by rw [hT a z] at h; cases h)]; exact h))
  · exact .inl (.inr ⟨o, by rw [withT_out (fun z => by rw [hT a z] at h; cases h)]; exact h⟩)
  · exact .inr h
theorem tabs_mem {Ps : List Addr} {H : Hp} {p : Addr} (t : Tabs Ps H) (h : p ∈ Ps) : H p = some (TabF p) := t p h
end Sq

/-! dict(enumerate(t)) of a tuple -/
namespace Sq
open PySem PySem.Spec PyProof.Rows L2 Evl
section
variable {prog : Program} {w : World} {A : Around} {E : Value → Shared → Prop} {s : Shared}
/-- the next pair of an enumeration, the pair given out before is still held -/
theorem enum_held {e it T : Addr} {fp : List Addr} {n i : Nat} {P : Nat → Value → Prop} {Z : Nat → Heap → Prop} {old : Value} {f : Bool} {oT : Obj} {Q : Value → Shared → Prop}
    (D : Draws prog w A it fp n P Z) (he : IsEnumHeld s.heap e it (i : Int) old T f) (hT : s.heap.get? T = some oT) (hTe : T ≠ e) (hTi : T ≠ it) (hz : Z i s.heap) (hlt : i < n) (hne : e ≠ it) (hef : e ∉ fp)
    (hQ : ∀ x k' tk, P i x → IsEnumHeld k' e it ((i : Int) + 1) old T true → Z (i + 1) k' → k'.get? s.heap.objs.size = some { cls := .type "tuple", data := .seq #[.int (i : Int) tk, x] } → k'.objs.size = s.heap.objs.size + 1 →
      (∀ b o, b ≠ e → b ≠ it → s.heap.get? b = some o → k'.get? b = some o) → Q (.ref s.heap.objs.size) { s with heap := k', toks := tk + 1 }) :
    wpAny (model prog w) A (Builtin.«enumerate.__next__» ⟨[.ref e], []⟩) (fun fin s' => ∃ v, fin = .done (.ret v) ∧ Q v s') E s := by
  obtain ⟨hq, gg, dd, t0, oo⟩ := s
  show wpAny _ _ (field (.ref e) 2 >>= _) _ _ _
  refine wpAny_bind (wpAny_field he rfl (x := .ref it) rfl (wpAny_bind (D.item i _ _ _ hlt hz fun x k1 tk px z1 b1 => ?_)))
  have c1 : Heap.SameBut it hq k1 := b1
  have q1 : IsEnumHeld k1 e it (i : Int) old T f := (c1.2 e hne).trans he
  refine wpAny_bind (wpAny_field (s := ⟨k1, gg, dd, tk, oo⟩) q1 rfl (x := rawInt i) rfl (wpAny_bind (wpAny_field (s := ⟨k1, gg, dd, tk, oo⟩) q1 rfl (x := .none) rfl ?_)))
  refine wpAny_bind (m := mkInt i) (wpAny_mkInt (wpAny_bind (m := setField (.ref e) 3 (rawInt ((i : Int) + 1))) (wpAny_setField_rec (s := ⟨k1, gg, dd, tk + 1, oo⟩) q1 (by simp) fun k2 q2 b2 => ?_)))
  have c2 : Heap.SameBut e k1 k2 := b2
  have q2' : IsEnumHeld k2 e it ((i : Int) + 1) old T f := q2
  refine wpAny_bind (m := setField (.ref e) 4 .none) (wpAny_setField_rec (s := ⟨k2, gg, dd, tk + 1, oo⟩) q2' (by simp) fun k3 q3 b3 => ?_)
  have c3 : Heap.SameBut e k2 k3 := b3
  have q3' : IsEnumHeld k3 e it ((i : Int) + 1) old T f := q3
  refine wpAny_bind (m := newTuple [.int (i : Int) tk, x]) (wpAny_newTuple ?_)
  generalize hN : ({ cls := .type "tuple", data := .seq #[.int (i : Int) tk, x] } : Obj) = new
  have zsz : k3.objs.size = hq.objs.size := by rw [c3.1, c2.1, c1.1]
  have q4 : IsEnumHeld (k3.push new) e it ((i : Int) + 1) old T f := Heap.get?_push_of_some _ q3'
  have n4 : (k3.push new).get? hq.objs.size = some new := by
    rw [← zsz]
    exact Heap.get?_push_size _ (by rw [← hN]; rfl)
  have s4 : (k3.push new).objs.size = hq.objs.size + 1 := by rw [Heap.size_push, zsz]
  have u4 : ∀ b o, b ≠ e → b ≠ it → hq.get? b = some o → (k3.push new).get? b = some o := fun b o be bi z =>
    Heap.get?_push_of_some _ (c3.extBut b o be (c2.extBut b o be (c1.extBut b o bi z)))
  have z4 : Z (i + 1) (k3.push new) := D.frame _ _ _ z1 fun b hb o y => by
    have be : b ≠ e := fun z => hef (z ▸ hb)
    exact Heap.get?_push_of_some _ (c3.extBut b o be (c2.extBut b o be y))
  show wpAny _ _ (Builtin.SmallTypes.ownedTupleIsFree (.ref e) >>= _) _ _ ⟨k3.push new, gg, dd, tk + 1, oo⟩
  rw [zsz]
  refine wpAny_bind (wpAny_tupleHeld_enum (s := ⟨k3.push new, gg, dd, tk + 1, oo⟩) q4 (u4 T oT hTe hTi hT) fun k5 q5 b5 => ?_)
  have c5 : Heap.SameBut e (k3.push new) k5 := b5
  simp only [Bool.false_eq_true, if_false]
  refine wpAny_pure ⟨_, rfl, hQ x k5 tk px q5 (D.frame _ _ _ z4 fun b hb o y => c5.extBut b o (fun z => hef (z ▸ hb)) y) ?_ ?_ fun b o be bi z => c5.extBut b o be (u4 b o be bi z)⟩
  · rw [hN]
    exact c5.extBut _ _ (Nat.ne_of_gt (Heap.lt_size he)) n4
  · rw [c5.1, s4]
theorem next_held {e it T : Addr} {fp : List Addr} {n i : Nat} {P : Nat → Value → Prop} {Z : Nat → Heap → Prop} {old : Value} {f : Bool} {oT : Obj} {Q : Option Value → Shared → Prop}
    (D : Draws prog w A.in1 it fp n P Z) (he : IsEnumHeld s.heap e it (i : Int) old T f) (hT : s.heap.get? T = some oT) (hTe : T ≠ e) (hTi : T ≠ it) (hz : Z i s.heap) (hlt : i < n) (hne : e ≠ it) (hef : e ∉ fp)
    (hQ : ∀ x k' tk, P i x → IsEnumHeld k' e it ((i : Int) + 1) old T true → Z (i + 1) k' → k'.get? s.heap.objs.size = some { cls := .type "tuple", data := .seq #[.int (i : Int) tk, x] } → k'.objs.size = s.heap.objs.size + 1 →
      (∀ b o, b ≠ e → b ≠ it → s.heap.get? b = some o → k'.get? b = some o) → Q (some (.ref s.heap.objs.size)) { s with heap := k', toks := tk + 1 }) :
    wpAny (model prog w) A (pyNext (.ref e)) Q E s := by
  have ty : s.TypeIs (.ref e) "enumerate" := ⟨_, he, rfl⟩
  unfold pyNext
  refine wpAny_bind (wpAny_attempt (wpAny_callSpecial?_slot (name := Str.ofString "__next__") ty F.slot_enumerate_next (wpAny_call_entry F.slot_enumerate_next ty F.entry_enumerate_next ?_ (F.args_enumerate_next_1 _))))
  exact enum_held D he hT hTe hTi hz hlt hne hef fun x k' tk a1 a2 a3 a4 a5 a6 => wpAny_pure (hQ x k' tk a1 a2 a3 a4 a5 a6)
end
end Sq
namespace Sq
open PySem PySem.Spec PyProof.Rows L2 Evl
section
variable {prog : Program} {w : World} {A : Around} {E : Value → Shared → Prop} {s : Shared}
/-- an enumeration at its end -/
theorem next_end {e it : Addr} {fp : List Addr} {n : Nat} {P : Nat → Value → Prop} {Z : Nat → Heap → Prop} {fs : Array Value} {Q : Option Value → Shared → Prop} (D : Draws prog w A.in1 it fp n P Z)
    (he : s.heap.get? e = some { cls := .type "enumerate", dict := none, data := .fields fs, slots := #[] }) (hf : fs[2]? = some (.ref it)) (hz : Z n s.heap) (hQ : ∀ k', Heap.ExtBut it s.heap k' → Q none { s with heap := k' }) : wpAny (model prog w) A (pyNext (.ref e)) Q E s := by
  have ty : s.TypeIs (.ref e) "enumerate" := ⟨_, he, rfl⟩
  unfold pyNext
  refine wpAny_bind (wpAny_attempt (wpAny_callSpecial?_slot (name := Str.ofString "__next__") ty F.slot_enumerate_next (wpAny_call_entry F.slot_enumerate_next ty F.entry_enumerate_next ?_ (F.args_enumerate_next_1 _))))
  refine wpAny_bind (m := field (.ref e) 2) (wpAny_field he rfl (x := .ref it) hf (wpAny_bind (D.done _ _ _ hz fun k' x hk hx => ?_)))
  obtain ⟨o, ho, hc⟩ := hx
  exact wpAny_bind (wpAny_isInstance (T := "StopIteration") (b := true) ⟨o, ho, hc⟩ isSubtype_stop (wpAny_pure (hQ _ hk)))
/-- enumerate(t) as the argument of dict -/
theorem pairArg_enumT (e it t : Addr) (hei : e ≠ it) (hte : t ≠ e) (hti : t ≠ it) (items : Array Value) :
    PairArg prog w "enumerate" e [e, it, t] [e, it] items.size (fun i k v => (∃ u, k = .int i u) ∧ items[i]? = some v) (fun h => (∃ old, IsEnum h e it 0 old) ∧ h.IsTupleIter it t 0 ∧ h.IsTuple t items) where
  notDict := by decide
  type := fun s ⟨⟨_, he⟩, _⟩ => ⟨_, he, rfl⟩
  sub := fun b hb => by
    simp at hb ⊢
    rcases hb with rfl | rfl <;> simp
  keep := fun h h' ⟨⟨old, he⟩, ⟨o1, x1, r1⟩, ⟨o2, x2, r2⟩⟩ hk => ⟨⟨old, hk _ _ he⟩, ⟨o1, hk _ _ x1, r1⟩, ⟨o2, hk _ _ x2, r2⟩⟩
  there := fun h ⟨⟨old, he⟩, ⟨o1, x1, _⟩, ⟨o2, x2, _⟩⟩ b hb => by
    simp only [List.mem_cons, List.not_mem_nil, or_false] at hb
    rcases hb with rfl | rfl | rfl
    · exact ⟨_, he⟩
    · exact ⟨_, x1⟩
    · exact ⟨_, x2⟩
  noKeys := fun A s Q E hA ok h => let ⟨⟨_, he⟩, _⟩ := ok; getAttrOr_miss_enumerate he rfl rfl rfl enumerate_no_keys (by decide +kernel) hA h
  iter := fun A s d Q E hA ok hd hdf h => by
    obtain ⟨⟨old, he⟩, hit, ht⟩ := ok
    have dn : d ≠ e ∧ d ≠ it ∧ d ≠ t := by
      simp only [List.mem_cons, List.not_mem_nil, or_false, not_or] at hdf
      exact hdf
    have D : Draws prog w A.in1 it [it, t] items.size (fun i v => items[i]? = some v) (fun i h => h.IsTupleIter it t i ∧ h.IsTuple t items) := Draws.tuple (A := A.in1) hA it t hti items
    have eN : e ∉ [it, t] := by
      simp only [List.mem_cons, List.not_mem_nil, or_false, not_or]
      exact ⟨hei, fun z => hte z.symm⟩
    refine wpAny_pyIter_enum he (h e [e, it] (fun i k => (k.IsTupleIter it t i ∧ k.IsTuple t items) ∧ ((∃ old, IsEnum k e it i old) ∨ ∃ old T f oT, IsEnumHeld k e it i old T f ∧ k.get? T = some oT ∧ T ≠ e ∧ T ≠ it ∧ T ≠ d)) s.heap s.toks ?_
      ⟨⟨hit, ht⟩, .inl ⟨old, he⟩⟩ (fun _ _ z => z) fun b hb => .inl hb)
    have away : ∀ {b : Addr}, b ∉ [e, it] → b ≠ e ∧ b ≠ it := fun {b} hb => by
      simp only [List.mem_cons, List.not_mem_nil, or_false, not_or] at hb
      exact hb
    refine ⟨fun hm => ?_, fun i k1 k2 st hk => ?_, fun i s₁ Q₁ E₁ hi st hds hQ => ?_, fun s₁ Q₁ E₁ st hQ => ?_⟩
    · simp only [List.mem_cons, List.not_mem_nil, or_false] at hm
      exact hm.elim dn.1 dn.2.1
    · obtain ⟨⟨⟨o1, x1, r1⟩, ⟨o2, x2, r2⟩⟩, st⟩ := st
      refine ⟨⟨⟨o1, hk _ _ (Ne.symm dn.2.1) x1, r1⟩, ⟨o2, hk _ _ (Ne.symm dn.2.2) x2, r2⟩⟩, ?_⟩
      rcases st with ⟨old, z⟩ | ⟨old, T, f, oT, z, hT, c1, c2, c3⟩
      · exact .inl ⟨old, hk _ _ (Ne.symm dn.1) z⟩
      · exact .inr ⟨old, T, f, oT, hk _ _ (Ne.symm dn.1) z, hk _ _ c3 hT, c1, c2, c3⟩
    · obtain ⟨hz, st⟩ := st
      have ec : ((i + 1 : Nat) : Int) = (i : Int) + 1 := by omega
      have itlt : it < s₁.heap.objs.size := let ⟨_, x, _⟩ := hz.1; Heap.lt_size x
      rcases st with ⟨old, z⟩ | ⟨old, T, f, oT, z, hT, c1, c2, c3⟩
      · refine wpAny_pyNext_enum_itemC D z hz hi hei eN fun x k' tk px ho hz' hN hsz hk => ?_
        exact hQ s₁.heap.objs.size _ _ k' (tk + 1) ⟨⟨_, rfl⟩, px⟩ (.inl ⟨_, hN, rfl, _, rfl⟩) ⟨hz', .inr ⟨_, s₁.heap.objs.size, false, _, (by rw [ec]; exact ho), hN, Nat.ne_of_gt (Heap.lt_size z), Nat.ne_of_gt itlt, Nat.ne_of_gt hds⟩⟩
          fun b o hb y => hk b o (away hb).1 (away hb).2 y
      · refine next_held D z hT c1 c2 hz hi hei eN fun x k' tk px ho hz' hN hsz hk => ?_
        exact hQ s₁.heap.objs.size _ _ k' (tk + 1) ⟨⟨_, rfl⟩, px⟩ (.inl ⟨_, hN, rfl, _, rfl⟩) ⟨hz', .inr ⟨old, T, true, oT, (by rw [ec]; exact ho), hk _ _ c1 c2 hT, c1, c2, c3⟩⟩
          fun b o hb y => hk b o (away hb).1 (away hb).2 y
    · obtain ⟨hz, st⟩ := st
      rcases st with ⟨old, z⟩ | ⟨old, T, f, oT, z, hT, c1, c2, c3⟩
      · exact next_end D z rfl hz fun k' hk => hQ k' s₁.toks fun b o hb y => hk b o (away hb).2 y
      · exact next_end D z rfl hz fun k' hk => hQ k' s₁.toks fun b o hb y => hk b o (away hb).2 y
end
/-- enumerate(v), its two new cells -/
theorem meets_enumB {v : Value} {o : Obj} {G : Heap → Prop} (B : Begins v o G) :
    Meets (Builtin.«enumerate.__new__» ⟨[.type "enumerate", v], []⟩) (fun _ R s => G s.heap ∧ R (.ok (.ret (.ref (s.heap.push o).objs.size))) { s with heap := (s.heap.push o).push { cls := .type "enumerate", data := .fields #[.none, .bool false, .ref s.heap.objs.size, rawInt 0, .none, .none] } }) :=
  .of_wp fun prog w A R s h => by
    obtain ⟨hq, gg, dd, tk, oo⟩ := s
    obtain ⟨hG, h⟩ := h
    have hsub := sub_enumerate
    have goIter : ∀ {A' : Around} {E : Value → Shared → Prop} {Q : Value → Shared → Prop}, Q (.ref hq.objs.size) ⟨hq.push o, gg, dd, tk, oo⟩ → wpAny (model prog w) A' (pyIter v) Q E ⟨hq, gg, dd, tk, oo⟩ := fun q => B.iter prog w _ _ ⟨hq, gg, dd, tk, oo⟩ _ hG q
    wp_walk using goIter
    refine wpAny_stack_any fun st => wpAny_pure ?_
    split
    · rename_i c _ _ _ _ _
      cases (c == Value.type "enumerate") <;> (wp_walk using goIter; exact ⟨_, rfl, h⟩)
    · wp_walk using goIter
      exact ⟨_, rfl, h⟩
theorem enum1_begins {prog : Program} {w : World} {A : Around} {E : Value → Shared → Prop} {s : Shared} {v : Value} {o : Obj} {G : Heap → Prop} {Q : Value → Shared → Prop} (B : Begins v o G) (hG : G s.heap)
    (h : ∀ k', IsEnum k' (s.heap.objs.size + 1) s.heap.objs.size 0 .none → k'.get? s.heap.objs.size = some o → k'.objs.size = s.heap.objs.size + 2 → (∀ b u, s.heap.get? b = some u → k'.get? b = some u) → Q (.ref (s.heap.objs.size + 1)) { s with heap := k' }) :
    wpAny (model prog w) A (call (.type "enumerate") [v]) Q E s := by
  refine callType_new F.called_enumerate (by decide) (F.typeCall_enumerate_1 _) (F.newCall_enumerate_1 _) (fun obj => F.args_object_init_2 obj _) F.entry_enumerate_new (meets_enumB B) ⟨hG, ?_⟩
  have zs : (s.heap.push o).objs.size = s.heap.objs.size + 1 := Heap.size_push ..
  have mk : IsEnum ((s.heap.push o).push { cls := .type "enumerate", data := .fields #[.none, .bool false, .ref s.heap.objs.size, rawInt 0, .none, .none] }) (s.heap.objs.size + 1) s.heap.objs.size 0 .none := by
    have z := Heap.get?_push_size (s.heap.push o) (o := { cls := .type "enumerate", data := .fields #[.none, .bool false, .ref s.heap.objs.size, rawInt 0, .none, .none] }) rfl
    rw [zs] at z
    exact z
  show _ ∧ _
  rw [zs]
  exact ⟨⟨_, mk, rfl⟩, h _ mk (Heap.get?_push_of_some _ (Heap.get?_push_size _ B.free)) (by rw [Heap.size_push, zs]) fun b u x => Heap.get?_push_of_some _ (Heap.get?_push_of_some _ x)⟩
end Sq

/-! dicts that are made once and only read: dict(enumerate(t)), dict comprehensions, walks over their keys -/
namespace Sq
open PySem PySem.Spec PyProof.Rows L2 Evl
/-! ### a list numbered from j on, as a dict's pairs -/
def enumK {α : Type} : Nat → List α → List (Key × α)
  | _, [] => []
  | j, x :: r => (.inl (j : Int), x) :: enumK (j + 1) r
theorem enumK_len {α : Type} : ∀ (j : Nat) (xs : List α), (enumK j xs).length = xs.length
  | _, [] => rfl
  | j, x :: r => congrArg (· + 1) (enumK_len (j + 1) r)
theorem enumK_get {α : Type} : ∀ (j : Nat) (xs : List α) (i : Nat), (enumK j xs)[i]? = (xs[i]?).map fun x => (Sum.inl ((j + i : Nat) : Int), x)
  | _, [], i => by simp [enumK]
  | j, x :: r, 0 => by simp [enumK]
  | j, x :: r, i + 1 => by
    have e : j + (i + 1) = j + 1 + i := by omega
    rw [e]
    simpa [enumK] using enumK_get (j + 1) r i
theorem enumK_kv : ∀ (j : Nat) {xs : List V} {us : List Value}, Vals xs us → KV (enumK j xs) (enumK j us)
  | _, _, _, .nil => .nil
  | j, _, _, .cons r t => .cons ⟨rfl, r⟩ (enumK_kv (j + 1) t)
theorem enumK_val : ∀ (j : Nat) (xs : List V) (i : Nat), valV (enumK j xs) (Sum.inl ((j + i : Nat) : Int)) = xs[i]?
  | _, [], i => by simp [enumK, valV]
  | j, x :: r, 0 => valV_pos (p := (Sum.inl (j : Int), x)) (by simp)
  | j, x :: r, i + 1 => by
    show valV ((Sum.inl (j : Int), x) :: enumK (j + 1) r) _ = _
    rw [valV_neg (p := (Sum.inl (j : Int), x)) (fun z => by have := Sum.inl.inj z; omega)]
    have e : j + (i + 1) = j + 1 + i := by omega
    rw [e]
    simpa using enumK_val (j + 1) r i
theorem enumK_out : ∀ (j : Nat) (xs : List V) (k : Int), k < j ∨ (j + xs.length : Nat) ≤ k → valV (enumK j xs) (Sum.inl k) = none
  | _, [], _, _ => rfl
  | j, x :: r, k, h => by
    show valV ((Sum.inl (j : Int), x) :: enumK (j + 1) r) _ = _
    rw [List.length_cons] at h
    rw [valV_neg (p := (Sum.inl (j : Int), x)) (fun z => by have := Sum.inl.inj z; omega)]
    exact enumK_out (j + 1) r k (by omega)
/-- pairs whose keys differ, merged one after another -/
theorem mergeK_nd : ∀ (more acc : List (Key × V)), (∀ p ∈ more, valV acc p.1 = none) → (more.map (·.1)).Nodup → mergeK acc more = acc ++ more
  | [], acc, _, _ => (List.append_nil acc).symm
  | p :: r, acc, h, hn => by
    have h1 : valV acc p.1 = none := h p List.mem_cons_self
    rw [List.map_cons, List.nodup_cons] at hn
    show mergeK (putK acc p.1 p.2) r = _
    rw [putK_new _ h1, mergeK_nd r (acc ++ [(p.1, p.2)]) (fun q hq => ?_) hn.2, List.append_assoc]
    · rfl
    · rw [valV_snoc _ _ _ _ h1, if_neg (fun z => hn.1 (List.mem_map.mpr ⟨q, hq, z⟩))]
      exact h q (List.mem_cons_of_mem _ hq)
theorem enumK_nd {α : Type} : ∀ (j : Nat) (xs : List α), ((enumK j xs).map (·.1)).Nodup
  | _, [] => List.nodup_nil
  | j, x :: r => by
    show ((Sum.inl (j : Int) : Key) :: (enumK (j + 1) r).map (·.1)).Nodup
    refine List.nodup_cons.mpr ⟨fun z => ?_, enumK_nd (j + 1) r⟩
    obtain ⟨p, hp, e⟩ := List.mem_map.mp z
    obtain ⟨i, hi⟩ := List.mem_iff_getElem?.mp hp
    rw [enumK_get] at hi
    cases e2 : r[i]? with
    | none => rw [e2] at hi; cases hi
    | some y =>
      rw [e2] at hi
      cases hi
      have z := Sum.inl.inj e
      omega
section
variable {X : Cx} {pins : List (Addr × Obj)} {σ : L2.St} {H : Hp} {s : Shared}
/-- dict(enumerate(t)) -/
def tDictEnum (K : PySem.W.Frag) (te : TE) : TE := fun σ H Q => te σ H fun v H1 => ∃ a xs, v = .ref a ∧ SqT K H1 a xs ∧ ∀ d, H1 d = none → Q (.ref d) (upd H1 d (.dK (enumK 0 xs)))
theorem pe_dictEnum {e : Expr} {te : TE} {p p2 pos pos2 : Pos} (hc : X.calm = true) (he : PE X e te) (hgd : Gl X "dict") (hmd : X.mg "dict" = none) (hge : Gl X "enumerate") (hme : X.mg "enumerate" = none) (hvd : bootBuiltins "dict" = some (.type "dict") := by decide +kernel)
    (h1 : starEach [.Call (.Name "enumerate" p2) [e] [] pos2] X.env = (false, eval (.Call (.Name "enumerate" p2) [e] [] pos2) X.env) :: starEach [] X.env := by rfl) (h2 : starEach [e] X.env = (false, eval e X.env) :: starEach [] X.env := by rfl) :
    PE X (.Call (.Name "dict" p) [.Call (.Name "enumerate" p2) [e] [] pos2] [] pos) (tDictEnum X.K te) := by
  refine ⟨fun pins s σ H Q I h => wpAny_Call_Name_kw (ld_blt I hgd hmd hvd (PyProof.Rows.callWith_type1 ?_ h1 (by rfl)))⟩
  rw [h1]
  refine Calls.spliced_cons (wpAny_Call_Name_kw (ld_blt I hge hme boot_enumerate (PyProof.Rows.callWith_type1 ?_ h2 (by rfl))))
  rw [h2]
  refine Calls.spliced_cons (thn (he.run pins s σ H _ I h) fun u s1 hq => Calls.spliced_nil ?_)
  obtain ⟨v, H1, I1, r1, a, xs, rfl, hx, q⟩ := hq
  cases r1
  obtain ⟨its, rv, hp, hz⟩ := I1.tuple hx
  refine enum1_begins (begins_tuple a its.toArray) (show s1.heap.IsTuple a its.toArray from hp) fun k' hE hI hsz hk => Calls.spliced_nil ?_
  have alt : a < s1.heap.objs.size := let ⟨_, x, _⟩ := hp; Heap.lt_size x
  have hn : its.toArray.size = xs.length := by rw [List.size_toArray, rv.length]
  have tk' : k'.IsTuple a its.toArray := let ⟨o, x, r⟩ := hp; ⟨o, hk _ _ x, r⟩
  refine call_dict_pairs (s := { s1 with heap := k' }) (knd := mixKind X.prog X.w) (kvs := enumK 0 its) (pairArg_enumT (s1.heap.objs.size + 1) s1.heap.objs.size a (Nat.succ_ne_self _) (Nat.ne_of_lt (Nat.lt_succ_of_lt alt)) (Nat.ne_of_lt alt) its.toArray) (I1.ok.hd hc)
    ⟨⟨_, hE⟩, ⟨_, hI, rfl, rfl⟩, tk'⟩ ⟨by rw [enumK_len, List.size_toArray], fun i key v hR => ?_⟩ (by rw [hn]; exact hz) fun h' tk hd' hk' => ?_
  · obtain ⟨⟨u, rfl⟩, hv⟩ := hR
    have hv' : its[i]? = some v := by simpa using hv
    exact ⟨Sum.inl (i : Int), by rw [enumK_get, hv']; simp, keyIs_int (i : Int) u⟩
  · have up : ∀ b o, s1.heap.get? b = some o → h'.get? b = some o := fun b o x => hk' b o (fun z => by
      have lb := Heap.lt_size x
      simp only [List.mem_cons, List.not_mem_nil, or_false] at z
      rcases z with z | z
      · exact Nat.ne_of_lt (Nat.lt_succ_of_lt lb) z
      · exact Nat.ne_of_lt lb z) (hk b o x)
    have big : s1.heap.objs.size ≤ k'.objs.size := by omega
    have hm : (k'.objs.size == sysModules) = false := beq_eq_false_iff_ne.mpr (Nat.ne_of_gt (Nat.lt_of_lt_of_le I1.big big))
    have em : mergeK [] (enumK 0 xs) = enumK 0 xs := by
      rw [mergeK_nd _ _ (fun _ _ => rfl) (enumK_nd 0 xs)]
      rfl
    have kv := KV.merge (enumK_kv 0 rv) (Paired.nil : KV ([] : List (Key × V)) [])
    rw [em] at kv
    exact ⟨.ref k'.objs.size, upd H1 k'.objs.size (.dK (enumK 0 xs)), I1.laid (t' := tk) up big (dk_new (by rw [enumK_len]; exact hz) hm kv hd'), rfl, q _ (I1.hok.fresh big)⟩
/-- a dict that is only read from here on -/
def tFrz (u : TS) : TS := fun D σ H => ∃ d kvs, H d = some (.dK kvs) ∧ ∀ o, u D σ (upd H d (.frz o (.dK kvs)))
theorem pss_frz {rest : List Stmt} {u : TS} (h : PSs X rest u) : PSs X rest (tFrz u) := by
  refine ⟨fun pins s σ H D I q => ?_⟩
  obtain ⟨d, kvs, hd, q⟩ := q
  obtain ⟨o, J⟩ := I.lock hd trivial
  exact h.run pins s σ _ D J (q o)
theorem ip_xor : PIp X .BitXor (ipI fun i j => Builtin.bitXor i j) := by
  intro pins s σ H x y v u Q I r1 r2 h
  obtain ⟨i, j, rfl, rfl, q⟩ := h
  obtain ⟨t, rfl⟩ := r1
  obtain ⟨t', rfl⟩ := r2
  exact ixor_int ⟨.int _, H, I.tok _, ⟨_, rfl⟩, q⟩
end
/-! ### what a frozen dict gives -/
def FD (H : Hp) (d : Addr) (kvs : List (Key × V)) : Prop := ∃ o, H d = some (.frz o (.dK kvs))
theorem FD.ex {H H' : Hp} {d : Addr} {kvs : List (Key × V)} (h : FD H d kvs) (e : Ex H H') : FD H' d kvs := let ⟨o, x⟩ := h; ⟨o, e _ _ x⟩
theorem FD.get {H : Hp} {d : Addr} {kvs : List (Key × V)} {k : Key} (h : FD H d kvs) : DGet H d (kV k) (valV kvs k) := let ⟨o, x⟩ := h; .inl ⟨kvs, k, .inr ⟨o, x⟩, rfl, rfl⟩
section
variable {K : PySem.W.Frag} {σ : L2.St} {H : Hp} {ta tb td ty tk tv : TE} {d : Addr} {kvs : List (Key × V)} {D : Ends} {tu tz : TS} {v : V} {k : Key}
theorem ev_dget (hd : Ev td σ H (.ref d)) (hy : Ev ty σ H (kV k)) (h : FD H d kvs) (hv : valV kvs k = some v) : Ev (tDGet td ty) σ H v := fun H1 e Q q =>
  hd H1 e _ fun H2 e2 => hy H2 (e.trans e2) _ fun H3 e3 => ⟨d, v, rfl, by
    have g := (h.ex ((e.trans e2).trans e3)).get (k := k)
    rw [hv] at g
    exact g, q H3 (e2.trans e3)⟩
theorem ev_din (hy : Ev ty σ H (kV k)) (hd : Ev td σ H (.ref d)) (h : FD H d kvs) : Ev (tDIn ty td) σ H (.bl (valV kvs k).isSome) := fun H1 e Q q =>
  hy H1 e _ fun H2 e2 => hd H2 (e.trans e2) _ fun H3 e3 => ⟨d, valV kvs k, rfl, (h.ex ((e.trans e2).trans e3)).get, q H3 (e2.trans e3)⟩
/-- for k in d, d read alone -/
theorem s_forK {j : Nat} (h : Ev td σ H (.ref d)) (hd : FD H d kvs) (Pv : Nat → L2.St → Hp → Prop) (h0 : ∀ H1, Ex H H1 → Pv 0 σ H1) (hl : ∀ i σ' H', Pv i σ' H' → Ex H H')
    (hs : ∀ i k v σ' H', kvs[i]? = some (k, v) → Pv i σ' H' → tu { D with nx := Pv (i + 1), ct := Pv (i + 1), bk := D.nx } (σ'.set j (some (kV k))) H') (hz : ∀ σ' H', Pv kvs.length σ' H' → D.nx σ' H') : tFor (iKeys td) (gName j) tu D σ H := by
  obtain ⟨o, hd⟩ := hd
  refine h H (Ex.refl H) _ fun H1 e => ⟨d, o, rfl, .inl ⟨kvs, e _ _ hd, fun i m σ' H' => m = kvs.length - i ∧ i ≤ kvs.length ∧ Pv i σ' H', ⟨kvs.length, by simp, Nat.zero_le _, h0 H1 e⟩, ?_⟩⟩
  rintro i m σ' H' ⟨rfl, hi, p⟩
  have fz := hl i σ' H' p _ _ hd
  by_cases hlt : i < kvs.length
  · refine .inr ⟨⟨fz, hlt⟩, Pv (i + 1), fun σ2 H2 p2 => ⟨kvs.length - (i + 1), by omega, rfl, hlt, p2⟩, fun x H2 y => ?_⟩
    obtain ⟨rfl, k, v, hk, rfl⟩ := y
    exact hs i k v σ' _ hk p
  · have ei : i = kvs.length := by omega
    subst ei
    exact .inl ⟨⟨fz, Nat.le_refl _⟩, hz _ _ p⟩
theorem q_forK {j : Nat} (h : Ev td σ H (.ref d)) (hd : FD H d kvs) (Pv : Nat → L2.St → Hp → Prop) (h0 : ∀ H1, Ex H H1 → Pv 0 σ H1) (hl : ∀ i σ' H', Pv i σ' H' → Ex H H')
    (hs : ∀ i k v σ' H', kvs[i]? = some (k, v) → Pv i σ' H' → tu { D with nx := Pv (i + 1), ct := Pv (i + 1), bk := tz D } (σ'.set j (some (kV k))) H') (hz : ∀ σ' H', Pv kvs.length σ' H' → tz D σ' H') : tSeq (tFor (iKeys td) (gName j) tu) tz D σ H :=
  s_forK (D := { D with nx := tz D }) h hd Pv h0 hl hs hz
/-- {k: f(k) for k in d} -/
def mapKV (f : Key → V) (kvs : List (Key × V)) : List (Key × V) := kvs.map fun p => (p.1, f p.1)
theorem mapKV_len (f : Key → V) (kvs : List (Key × V)) : (mapKV f kvs).length = kvs.length := List.length_map _
theorem mapKV_keys (f : Key → V) (kvs : List (Key × V)) : (mapKV f kvs).map (·.1) = kvs.map (·.1) := by
  unfold mapKV
  rw [List.map_map]
  rfl
theorem valV_none_of {kvs : List (Key × V)} {k : Key} (h : k ∉ kvs.map (·.1)) : valV kvs k = none := by
  induction kvs with
  | nil => rfl
  | cons p r ih =>
    rw [List.map_cons, List.mem_cons, not_or] at h
    rw [valV_neg (fun z => h.1 z.symm)]
    exact ih h.2
theorem valV_mapKV {f : Key → V} {kvs : List (Key × V)} {k : Key} (h : k ∈ kvs.map (·.1)) : valV (mapKV f kvs) k = some (f k) := by
  induction kvs with
  | nil => cases h
  | cons p r ih =>
    by_cases e : p.1 = k
    · exact (valV_pos (p := (p.1, f p.1)) e).trans (by rw [← e])
    · rw [List.map_cons, List.mem_cons] at h
      exact (valV_neg (p := (p.1, f p.1)) e).trans (ih (h.resolve_left fun z => e z.symm))
def EvDc (te : TE) (σ : L2.St) (H : Hp) (kvs : List (Key × V)) : Prop := ∀ H1, Ex H H1 → ∀ Q : VK, (∀ p H2, H1 p = none → Ex H1 H2 → H2 p = some (.dK kvs) → Q (.ref p) H2) → te σ H1 Q
theorem tYes_y {σ : L2.St} {K : Bool → Hp → Prop} (h : K true H) : tYes σ H K := h
theorem dc_keys {j : Nat} {vs : List Nat} {f : Key → V} (h : Ev td σ H (.ref d)) (hd : FD H d kvs) (hn : (kvs.map (·.1)).Nodup) (hz : kvs.length < 100000) (hw : ∀ x, wipe ((wipe σ vs).set j (some x)) vs = wipe σ vs)
    (hk : ∀ k H1, Ex H H1 → k ∈ kvs.map (·.1) → Ev tk ((wipe σ vs).set j (some (kV k))) H1 (kV k)) (hv : ∀ k H1, Ex H H1 → k ∈ kvs.map (·.1) → Ev tv ((wipe σ vs).set j (some (kV k))) H1 (f k)) :
    EvDc (tDc (iKeys td) (gName j) tYes tk tv vs) σ H (mapKV f kvs) := fun H0 e0 Q q => by
  obtain ⟨o, hd⟩ := hd
  refine h H0 e0 _ fun H1 e1 => ⟨d, o, rfl, .inl ⟨kvs, e1 _ _ (e0 _ _ hd), fun Dd hD => ?_⟩⟩
  have e01 := e0.trans e1
  refine ⟨fun i m H' => m = kvs.length - i ∧ i ≤ kvs.length ∧ Ex H1 H' ∧ H' Dd = some (.dK (mapKV f (kvs.take i))), ⟨kvs.length, by simp, Nat.zero_le _, Ex.new hD, upd_same⟩, ?_⟩
  rintro i m H' ⟨rfl, hi, e2, hDd⟩
  have fz := e2 _ _ (e1 _ _ (e0 _ _ hd))
  by_cases hlt : i < kvs.length
  · refine .inr ⟨⟨fz, hlt⟩, fun H2 => Ex H1 H2 ∧ H2 Dd = some (.dK (mapKV f (kvs.take (i + 1)))), fun H2 p2 => ⟨kvs.length - (i + 1), by omega, rfl, hlt, p2⟩, fun x H2 y => ?_⟩
    obtain ⟨rfl, k, v, hkv, rfl⟩ := y
    have hmem : k ∈ kvs.map (·.1) := List.mem_map.mpr ⟨_, List.mem_of_getElem? hkv, rfl⟩
    have et : kvs.take (i + 1) = kvs.take i ++ [(k, v)] := by rw [List.take_add_one, hkv]; rfl
    have hnew : k ∉ (kvs.take i).map (·.1) := fun z => by
      have hn2 : ((kvs.take (i + 1)).map (·.1)).Nodup := hn.sublist ((List.take_sublist _ _).map _)
      rw [et, List.map_append] at hn2
      exact (List.nodup_append.mp hn2).2.2 _ z _ (List.mem_singleton.mpr rfl) rfl
    refine ⟨hw _, ?_⟩
    refine tYes_y ?_
    refine hk k H1 e01 hmem _ e2 _ fun H3 e3 => hv k H1 e01 hmem _ (e2.trans e3) _ fun H4 e4 => ⟨mapKV f (kvs.take i), k, rfl, e4 _ _ (e3 _ _ hDd), ?_, Ex.mut ((e2.trans e3).trans e4) hD, ?_⟩
    · rw [mapKV_len, List.length_take]
      exact sz_lt (by omega)
    · rw [upd_same, et, putK_new _ (valV_none_of (by rw [mapKV_keys]; exact hnew))]
      unfold mapKV
      rw [List.map_append]
      rfl
  · have ei : i = kvs.length := by omega
    subst ei
    rw [List.take_length] at hDd
    exact .inl ⟨⟨fz, Nat.le_refl _⟩, q Dd _ (fresh_back e1 hD) (e1.trans e2) hDd⟩
end
end Sq

/-! blocks: the form of Lagrange over the sixteen symbols; promises of the block's defs -/
namespace Sq
open PySem PySem.Spec PyProof.Rows L2 Evl
/-! ### the form -/
abbrev Pts := List (Int × Int)
def ksV (ps : Pts) : List Int := ps.map (·.1)
def kvP (ps : Pts) : List (Key × V) := ps.map fun p => (Sum.inl p.1, V.int p.2)
/-- the product of the differences of a and the others -/
def dprod (a : Int) : List Int → Int → Int
  | [], r => r
  | k :: ks, r => dprod a ks (if k = a then r else gmul r (gadd a k))
def lsum (a : Int) : Pts → Int → Int
  | [], t => t
  | (k, w) :: r, t => lsum a r (gadd t (gdiv w (gadd a k)))
def wts (ps : Pts) : Pts := ps.map fun p => (p.1, gdiv p.2 (dprod p.1 (ksV ps) 1))
def lagr (ps : Pts) (a : Int) : Int := match ps.lookup a with
  | some v => v
  | none => gmul (lsum a (wts ps) 0) (dprod a (ksV ps) 1)
def PtsOk (ps : Pts) : Prop := (∀ p ∈ ps, Sym p.1 ∧ Sym p.2) ∧ (ksV ps).Nodup ∧ ps.length ≤ 16
theorem gadd_ne {a b : Int} (ha : Sym a) (hb : Sym b) (h : b ≠ a) : gadd a b ≠ 0 := sym2 (p := fun a b => b ≠ a → gadd a b ≠ 0) (by decide +kernel) ha hb h
theorem sym_1 : Sym 1 := by decide
theorem sym_0 : Sym 0 := by decide
theorem dprod_sym {a : Int} (ha : Sym a) : ∀ {ks : List Int} {r : Int}, (∀ k ∈ ks, Sym k) → Sym r → Sym (dprod a ks r)
  | [], _, _, hr => hr
  | k :: ks, r, h, hr => by
    have hk := h k List.mem_cons_self
    have hh : ∀ x ∈ ks, Sym x := fun x hx => h x (List.mem_cons_of_mem _ hx)
    show Sym (dprod a ks (if k = a then r else gmul r (gadd a k)))
    refine dprod_sym ha hh ?_
    split
    · exact hr
    · exact sym_mul hr (sym_add ha hk)
theorem dprod_ne {a : Int} (ha : Sym a) : ∀ {ks : List Int} {r : Int}, (∀ k ∈ ks, Sym k) → Sym r → r ≠ 0 → dprod a ks r ≠ 0
  | [], _, _, _, h0 => h0
  | k :: ks, r, h, hr, h0 => by
    have hk := h k List.mem_cons_self
    have hh : ∀ x ∈ ks, Sym x := fun x hx => h x (List.mem_cons_of_mem _ hx)
    show dprod a ks (if k = a then r else gmul r (gadd a k)) ≠ 0
    split
    · exact dprod_ne ha hh hr h0
    · rename_i e
      exact dprod_ne ha hh (sym_mul hr (sym_add ha hk)) (gmul_eq0 hr (sym_add ha hk) h0 (gadd_ne ha hk e))
theorem PtsOk.ks {ps : Pts} (h : PtsOk ps) : ∀ k ∈ ksV ps, Sym k := fun k hk => by
  obtain ⟨p, hp, rfl⟩ := List.mem_map.mp hk
  exact (h.1 p hp).1
theorem ksV_kvP (ps : Pts) : (kvP ps).map (·.1) = (ksV ps).map Sum.inl := by
  unfold kvP ksV
  rw [List.map_map, List.map_map]
  rfl
theorem nd_inl {ks : List Int} (h : ks.Nodup) : (ks.map (Sum.inl : Int → Key)).Nodup := by
  unfold List.Nodup at h ⊢
  rw [List.pairwise_map]
  exact h.imp fun hab z => hab (Sum.inl.inj z)
theorem PtsOk.nd {ps : Pts} (h : PtsOk ps) : ((kvP ps).map (·.1)).Nodup := by
  rw [ksV_kvP]
  exact nd_inl h.2.1
theorem kvP_len (ps : Pts) : (kvP ps).length = ps.length := List.length_map _
theorem kvP_get {ps : Pts} {i : Nat} {k : Key} {v : V} (h : (kvP ps)[i]? = some (k, v)) : ∃ p, ps[i]? = some p ∧ k = Sum.inl p.1 ∧ v = .int p.2 := by
  unfold kvP at h
  rw [List.getElem?_map] at h
  cases e : ps[i]? with
  | none => rw [e] at h; cases h
  | some p =>
    rw [e] at h
    cases h
    exact ⟨p, rfl, rfl, rfl⟩
theorem valV_kvP (ps : Pts) (a : Int) : valV (kvP ps) (Sum.inl a) = (ps.lookup a).map V.int := by
  induction ps with
  | nil => rfl
  | cons p r ih =>
    obtain ⟨k, v⟩ := p
    by_cases e : k = a
    · subst e
      have z : valV (kvP ((k, v) :: r)) (Sum.inl k) = some (.int v) := valV_pos (p := (Sum.inl k, V.int v)) rfl
      rw [z, List.lookup_cons, beq_self_eq_true]
      rfl
    · have z : valV (kvP ((k, v) :: r)) (Sum.inl a) = valV (kvP r) (Sum.inl a) := valV_neg (p := (Sum.inl k, V.int v)) (fun z => e (Sum.inl.inj z))
      have b : (a == k) = false := beq_eq_false_iff_ne.mpr fun z => e z.symm
      rw [z, ih, List.lookup_cons, b]
theorem lookup_of {ps : Pts} {i : Nat} {p : Int × Int} (hn : (ksV ps).Nodup) (h : ps[i]? = some p) : ps.lookup p.1 = some p.2 := by
  induction ps generalizing i with
  | nil => cases h
  | cons q r ih =>
    obtain ⟨k, v⟩ := q
    have hn' : k ∉ ksV r ∧ (ksV r).Nodup := List.nodup_cons.mp hn
    cases i with
    | zero =>
      cases h
      rw [List.lookup_cons, beq_self_eq_true]
    | succ i =>
      have h' : r[i]? = some p := h
      have b : (p.1 == k) = false := beq_eq_false_iff_ne.mpr fun z => hn'.1 (List.mem_map.mpr ⟨p, List.mem_of_getElem? h', z⟩)
      rw [List.lookup_cons, b]
      exact ih hn'.2 h'
theorem lookup_mem {ps : Pts} {a v : Int} (h : ps.lookup a = some v) : (a, v) ∈ ps := by
  induction ps with
  | nil => cases h
  | cons q r ih =>
    obtain ⟨k, u⟩ := q
    rw [List.lookup_cons] at h
    by_cases e : a = k
    · subst e
      rw [beq_self_eq_true] at h
      cases h
      exact List.mem_cons_self
    · rw [beq_eq_false_iff_ne.mpr e] at h
      exact List.mem_cons_of_mem _ (ih h)
theorem wts_ks (ps : Pts) : ksV (wts ps) = ksV ps := by
  unfold ksV wts
  rw [List.map_map]
  rfl
def wtF (ps : Pts) : Key → V
  | .inl a => (match ps.lookup a with
    | some v => .int (gdiv v (dprod a (ksV ps) 1))
    | none => .non)
  | .inr _ => .non
theorem wtF_of {ps : Pts} {a v : Int} (h : ps.lookup a = some v) : wtF ps (.inl a) = .int (gdiv v (dprod a (ksV ps) 1)) := by
  unfold wtF
  simp only [h]
theorem kvP_wts (ps : Pts) (hn : (ksV ps).Nodup) : kvP (wts ps) = mapKV (wtF ps) (kvP ps) := by
  unfold kvP wts mapKV
  rw [List.map_map, List.map_map]
  refine List.map_congr_left fun p hp => ?_
  obtain ⟨i, hi⟩ := List.mem_iff_getElem?.mp hp
  have e := lookup_of hn hi
  show (_, _) = (_, _)
  rw [wtF_of e]
theorem wts_ok {ps : Pts} (h : PtsOk ps) : PtsOk (wts ps) := by
  refine ⟨fun p hp => ?_, by rw [wts_ks]; exact h.2.1, by unfold wts; rw [List.length_map]; exact h.2.2⟩
  obtain ⟨q, hq, rfl⟩ := List.mem_map.mp hp
  have hs := h.1 q hq
  exact ⟨hs.1, sym_div hs.2 (dprod_sym hs.1 h.ks sym_1)⟩
theorem lsum_sym {a : Int} (ha : Sym a) : ∀ {ps : Pts} {t : Int}, (∀ p ∈ ps, Sym p.1 ∧ Sym p.2) → Sym t → Sym (lsum a ps t)
  | [], _, _, ht => ht
  | (k, w) :: r, t, h, ht => by
    have hp := h (k, w) List.mem_cons_self
    have hh : ∀ p ∈ r, Sym p.1 ∧ Sym p.2 := fun x hx => h x (List.mem_cons_of_mem _ hx)
    exact lsum_sym (ps := r) ha hh (sym_add ht (sym_div hp.2 (sym_add ha hp.1)))
theorem lagr_sym {ps : Pts} {a : Int} (h : PtsOk ps) (ha : Sym a) : Sym (lagr ps a) := by
  unfold lagr
  split
  · rename_i v e
    exact (h.1 _ (lookup_mem e)).2
  · exact sym_mul (lsum_sym ha (wts_ok h).1 sym_0) (dprod_sym ha h.ks sym_1)
/-- step by step -/
theorem dprod_take {a : Int} : ∀ {ks : List Int} {i : Nat} {k r : Int}, ks[i]? = some k → dprod a (ks.take (i + 1)) r = (if k = a then dprod a (ks.take i) r else gmul (dprod a (ks.take i) r) (gadd a k))
  | [], _, _, _, h => by cases h
  | x :: ks, 0, k, r, h => by
    cases h
    rfl
  | x :: ks, i + 1, k, r, h => by
    have h' : ks[i]? = some k := h
    exact dprod_take (ks := ks) h'
theorem lsum_take {a : Int} : ∀ {ps : Pts} {i : Nat} {k w t : Int}, ps[i]? = some (k, w) → lsum a (ps.take (i + 1)) t = gadd (lsum a (ps.take i) t) (gdiv w (gadd a k))
  | [], _, _, _, _, h => by cases h
  | (x, y) :: ps, 0, k, w, t, h => by
    cases h
    rfl
  | (x, y) :: ps, i + 1, k, w, t, h => by
    have h' : ps[i]? = some (k, w) := h
    exact lsum_take (ps := ps) h'
/-! ### promises -/
def spDist : Sp := fun vs H Q _ => ∃ (a : Int) (d : Addr) (ps : Pts), vs = [.int a, .ref d] ∧ Sym a ∧ PtsOk ps ∧ FD H d (kvP ps) ∧ RetV (.int (dprod a (ksV ps) 1)) H Q
def spValue : Sp := fun vs H Q _ => ∃ (a : Int) (d e : Addr) (ps : Pts), vs = [.int a, .ref d, .ref e] ∧ Sym a ∧ PtsOk ps ∧ FD H d (kvP ps) ∧ FD H e (kvP (wts ps)) ∧ RetV (.int (lagr ps a)) H Q
def lagrs (ps : Pts) (n : Nat) : List Int := (List.range n).map fun (i : Nat) => lagr ps (i : Int)
def spValues : Sp := fun vs H Q _ => ∃ (d : Addr) (n : Nat) (ps : Pts), vs = [.ref d, .int n] ∧ n ≤ 16 ∧ PtsOk ps ∧ FD H d (kvP ps) ∧ RetL ((lagrs ps n).map V.int) H Q
theorem spv_dist {a : Int} {d : Addr} {ps : Pts} {H : Hp} (ha : Sym a) (ok : PtsOk ps) (h : FD H d (kvP ps)) : SpV spDist [.int a, .ref d] H (.int (dprod a (ksV ps) 1)) := fun H1 e _ q _ => ⟨a, d, ps, rfl, ha, ok, h.ex e, q⟩
theorem spv_value {a : Int} {d e : Addr} {ps : Pts} {H : Hp} (ha : Sym a) (ok : PtsOk ps) (h : FD H d (kvP ps)) (h2 : FD H e (kvP (wts ps))) : SpV spValue [.int a, .ref d, .ref e] H (.int (lagr ps a)) := fun H1 e _ q _ => ⟨a, d, _, ps, rfl, ha, ok, h.ex e, h2.ex e, q⟩
theorem spl_values {d : Addr} {n : Nat} {ps : Pts} {H : Hp} (hn : n ≤ 16) (ok : PtsOk ps) (h : FD H d (kvP ps)) : SpL spValues [.ref d, .int n] H ((lagrs ps n).map V.int) := fun H1 e _ q _ => ⟨d, n, ps, rfl, hn, ok, h.ex e, q⟩
/-- a new tuple -/
def RetU (xs : List V) (H : Hp) (Q : VK) : Prop := ∀ p H2, H p = none → Ex H H2 → H2 p = some (.tup xs) → Q (.ref p) H2
def SpU (sp : Sp) (vs : List V) (H : Hp) (xs : List V) : Prop := ∀ H1, Ex H H1 → ∀ Q : VK, RetU xs H1 Q → ∀ E : XK, sp vs H1 Q E
section
variable {K : PySem.W.Frag} {σ : L2.St} {H H' : Hp} {ta te : TE} {t : TA} {x : V}
theorem RetU.go {xs : List V} {Q : VK} (k : RetU xs H Q) (e : Ex H H') {p : Addr} {H2 : Hp} (hp : H' p = none) (e2 : Ex H' H2) (h : H2 p = some (.tup xs)) : Q (.ref p) H2 := k p H2 (fresh_back e hp) (e.trans e2) h
theorem eu_callD {sp : Sp} {vs xs : List V} {ta : TA} (h : EvA ta σ H vs) (hs : SpU sp vs H xs) : EvU (tCall sp [] E0 ta) σ H xs := fun H1 e Q q =>
  h H1 e _ fun H2 e2 => by
    show sp (vs ++ []) H2 Q E0
    rw [List.append_nil]
    exact hs H2 (e.trans e2) Q (fun p H3 hp e3 h3 => q p H3 (fresh_back e2 hp) (e2.trans e3) h3) E0
theorem el_callD {sp : Sp} {vs xs : List V} {ta : TA} (h : EvA ta σ H vs) (hs : SpL sp vs H xs) : EvL (tCall sp [] E0 ta) σ H xs := el_call h (by rw [List.append_nil]; exact hs)
/-- tuple(..) of a new list | of a tuple -/
abbrev rTupOf (K : PySem.W.Frag) : List V → Hp → VK → Prop := fun xs H Q => ∃ p ys, xs = [.ref p] ∧ ((SqL K H p ys ∧ ∀ l, H l = none → Q (.ref l) (upd H l (.tup ys))) ∨ (SqT K H p ys ∧ Q (.ref p) H))
theorem eu_tupL {xs : List V} (h : EvL te σ H xs) : EvU (tCB (rTupOf K) (tCons te tNil)) σ H xs := fun H1 e Q q =>
  h H1 e _ fun p H2 hp e2 h2 => ⟨p, xs, rfl, .inl ⟨sq_of h2, fun l hl => q l _ (fresh_back e2 hl) (Ex.mut e2 (fresh_back e2 hl)) upd_same⟩⟩
theorem ev_tupT {p : Addr} {xs : List V} (h : Ev te σ H (.ref p)) (hx : SqT K H p xs) : Ev (tCB (rTupOf K) (tCons te tNil)) σ H (.ref p) := fun H1 e Q q =>
  h H1 e _ fun H2 e2 => ⟨p, xs, rfl, .inr ⟨ex_t (e.trans e2) hx, q H2 e2⟩⟩
theorem ev_lenT {p : Addr} {xs : List V} (ha : Ev te σ H (.ref p)) (h : SqT K H p xs) : Ev (tCB (rLenS K) (tCons te tNil)) σ H (.int (xs.length : Int)) := fun H1 e Q q =>
  ha H1 e _ fun H2 e2 => ⟨p, xs, rfl, .inr (ex_t (e.trans e2) h), q H2 e2⟩
end
end Sq

/-! the checks of a block's arguments; the promise of encoding -/
namespace Sq
open PySem PySem.Spec PyProof.Rows L2 Evl
def goodNum (y : V) (b : Bool) : Prop := flatK y = true ∧ b = isNum y
def goodSym (y : V) (b : Bool) : Prop := flatK y = true ∧ b = isSym y
def goodEnt (y : V) (b : Bool) : Prop := flatK y = true ∧ b = (decide (y = .non) || isSym y)
abbrev GT : Heap → Prop := fun _ => True
theorem gstT : GStb GT := fun _ _ _ h => h
structure RawFn1 (P : Program) (w : World) (K : PySem.W.Frag) (mg : Str → Option Value) (base : Heap) (x : Str) (N : Nat) (good : V → Bool → Prop) : Prop where
  ex : ∃ f, mg x = some (.ref f) ∧ PySem.W.keepIn K (.ref f) = true ∧ ∀ (D U : Nat) (y : V) (u : Value) (b : Bool), D + N < recursionLimit → good y b → RelV y u → RawF P w K mg base D U f [u] (fun v => v = .bool b)
section
variable {P : Program} {w : World} {K : PySem.W.Frag} {mg : Str → Option Value} {base : Heap} {D U : Nat} {env : Env} {m : Str → Option Value} {x : Str} {y : V} {u : Value} {p1 p2 p3 p4 p5 p6 p7 p8 p9 p10 : Pos}
theorem raw_isiB {T : String} {c : Str} {cs : String} {r : Bool} {Z : Heap → Prop} (F : FnEnv env) (hx : env.kindOf "isinstance" = some .globalImplicit) (hc : env.kindOf c = some .globalImplicit) (hl : env.kindOf x = some .local) (n1 : mg "isinstance" = none) (n2 : mg c = none) (hm : m x = some u)
    (hb : bootBuiltins c = some (.type cs)) (hn : c ≠ "__name__") (hd : (c == ("__debug__" : Str)) = false) (hdx : (x == ("__debug__" : Str)) = false) (kit : PySem.W.KitX K u (.type T) Z) (hz : ∀ h, Z h) (ho : u ≠ .builtin "__main__.__loader__#opaque") (k : kitB T cs = some r) :
    RawE P w K mg base D U env m GT (.Call (.Name "isinstance" p1) [.Name x p2, .Name c p3] [] p4) (fun v => v = .bool r) :=
  raw_isi (p2 := p1) F hx n1 gstT (raw_loc F hl hm hdx) (raw_blt F hc n2 hb hn hd) kit (fun h _ => hz h) ho k (by rfl) (by rfl) (by rfl)
theorem raw_num (F : FnEnv env) (hx : env.kindOf "isinstance" = some .globalImplicit) (hi : env.kindOf "int" = some .globalImplicit) (hb : env.kindOf "bool" = some .globalImplicit) (hl : env.kindOf x = some .local) (n1 : mg "isinstance" = none) (n2 : mg "int" = none) (n3 : mg "bool" = none) (hm : m x = some u)
    (hdx : (x == ("__debug__" : Str)) = false) (fl : flatK y = true) (r : RelV y u) :
    RawE P w K mg base D U env m GT (.BoolOp .And [.Call (.Name "isinstance" p1) [.Name x p2, .Name "int" p3] [] p4, .UnaryOp .Not (.Call (.Name "isinstance" p5) [.Name x p6, .Name "bool" p7] [] p8) p9] p10) (fun v => v = .bool (isNum y)) := by
  have B1 : bootBuiltins "int" = some (.type "int") := by decide +kernel
  have B2 : bootBuiltins "bool" = some (.type "bool") := by decide +kernel
  cases y with
  | non =>
    cases (show u = Value.none from r)
    exact raw_and (ka := false) (kb := false) gstT (raw_isiB F hx hi hl n1 n2 hm B1 (by decide) (by decide) hdx PySem.W.kitx_none (fun _ => True.intro) (fun z => nomatch z) (by decide +kernel)) (fun z => nomatch z)
  | bl b =>
    cases (show u = Value.bool b from r)
    exact raw_and (ka := true) (kb := false) gstT (raw_isiB F hx hi hl n1 n2 hm B1 (by decide) (by decide) hdx PySem.W.kitx_bool (fun _ => True.intro) (fun z => nomatch z) (by decide +kernel)) (fun _ => raw_not (ka := true) (raw_isiB F hx hb hl n1 n3 hm B2 (by decide) (by decide) hdx PySem.W.kitx_bool (fun _ => True.intro) (fun z => nomatch z) (by decide +kernel)))
  | int i =>
    obtain ⟨t, q⟩ := (show ∃ t, u = Value.int i t from r)
    cases q
    exact raw_and (ka := true) (kb := true) gstT (raw_isiB F hx hi hl n1 n2 hm B1 (by decide) (by decide) hdx PySem.W.kitx_int (fun _ => True.intro) (fun z => nomatch z) (by decide +kernel)) (fun _ => raw_not (ka := false) (raw_isiB F hx hb hl n1 n3 hm B2 (by decide) (by decide) hdx PySem.W.kitx_int (fun _ => True.intro) (fun z => nomatch z) (by decide +kernel)))
  | str s =>
    obtain ⟨t, q⟩ := (show ∃ t, u = Value.str s t from r)
    cases q
    exact raw_and (ka := false) (kb := false) gstT (raw_isiB F hx hi hl n1 n2 hm B1 (by decide) (by decide) hdx PySem.W.kitx_str (fun _ => True.intro) (fun z => nomatch z) (by decide +kernel)) (fun z => nomatch z)
  | _ => cases fl
theorem raw_callF {N : Nat} {good : V → Bool → Prop} {b : Bool} {f : Str} (R : RawFn1 P w K mg base f N good) (hN : D + N < recursionLimit) (hg : good y b) (r : RelV y u) (F : FnEnv env) (hx : env.kindOf f = some .globalImplicit) (hl : env.kindOf x = some .local) (hm : m x = some u) (hd : (f == ("__debug__" : Str)) = false) (hdx : (x == ("__debug__" : Str)) = false) :
    RawE P w K mg base D U env m GT (.Call (.Name f p1) [.Name x p2] [] p3) (fun v => v = .bool b) := by
  obtain ⟨fa, g, kp, h⟩ := R.ex
  exact raw_call1 F hx g kp gstT (raw_loc F hl hm hdx) (h D U y u b hN hg r) hd (by rfl) (by rfl)
theorem raw_sym {N : Nat} (R : RawFn1 P w K mg base "is_number" N goodNum) (hN : D + N < recursionLimit) (F : FnEnv env) (hx : env.kindOf "is_number" = some .globalImplicit) (hl : env.kindOf x = some .local) (hm : m x = some u) (hdx : (x == ("__debug__" : Str)) = false) (fl : flatK y = true) (r : RelV y u) {j1 j2} :
    RawE P w K mg base D U env m GT (.BoolOp .And [.Call (.Name "is_number" p1) [.Name x p2] [] p3, .Compare (.Constant (.int 0) j1 p4) [.LtE, .LtE] [.Name x p5, .Constant (.int 15) j2 p6] p7] p8) (fun v => v = .bool (isSym y)) := by
  have c1 := raw_callF (p1 := p1) (p2 := p2) (p3 := p3) (U := U) R hN (b := isNum y) ⟨fl, rfl⟩ r F hx hl hm (by decide) hdx
  cases y with
  | int i =>
    obtain ⟨t, q⟩ := (show ∃ t, u = Value.int i t from r)
    subst q
    exact raw_and (ka := true) (kb := decide (0 ≤ i) && decide (i ≤ 15)) gstT c1 (fun _ => raw_chain gstT raw_int (raw_imp (raw_loc F hl hm hdx) fun v hv => ⟨t, hv⟩) raw_int (by with_unfolding_all rfl))
  | non => exact raw_and (ka := false) (kb := false) gstT c1 (fun z => nomatch z)
  | bl b => exact raw_and (ka := false) (kb := false) gstT c1 (fun z => nomatch z)
  | str s => exact raw_and (ka := false) (kb := false) gstT c1 (fun z => nomatch z)
  | _ => cases fl
/-- a def of one parameter whose body is one return -/
theorem rawFn_of {qual : Str} {st : Stmt} {f : Addr} {fd : FuncData} {e : Expr} {pos : Pos} {a : Str} {N : Nat} {good : V → Bool → Prop} (F : Fun K x qual st f fd) (g : mg x = some (.ref f)) (hb : defBody st = [.Return (some e) pos])
    (hbind : ∀ (kV doc pm : Value) (an : Option Addr) (cdv ct : Value) (s : Shared) (u : Value), BindsTo s (PySem.W.fnOf x qual (defArgs st) (defBody st) (defScope st) .none kV doc pm an cdv ct) ⟨[u], []⟩ ([a].zip [u]))
    (hkind : ∀ u : Value, (([a].zip [u]).all fun y => (defScope st).names.lookup y.1 == some .local || (defScope st).names.lookup y.1 == some .cell) = true)
    (hco : (defScope st).isCoroutine = false) (hgen : (defScope st).isGenerator = false) (hk : (defScope st).kind = .function)
    (h : ∀ (D U : Nat) (L : Addr) (cdv : Value) (y : V) (u : Value) (b : Bool), D + N < recursionLimit → good y b → RelV y u → RawE P w K mg base D U (envOfC qual (defScope st) L f cdv) (bindL (envOfC qual (defScope st) L f cdv).kindOf ([a].zip [u]) fun _ => none) GT e (fun v => v = .bool b)) :
    RawFn1 P w K mg base x (N + 1) good :=
  ⟨f, g, F.kp, fun D U y u b hN hg r A s rs h0 h1 h2 => raw_def (us := [u]) (ps := [a]) F hb (fun kV doc pm an cdv ct s => hbind kV doc pm an cdv ct s u) (hkind u) hco hgen hk (by omega) (fun L cdv => h (D + 1) (U + 3) L cdv y u b (by omega) hg r) (fun _ _ _ _ => True.intro) A s rs h0 h1 h2 True.intro⟩
end
/-! ### encoding -/
def enumP : Nat → List Int → Pts
  | _, [] => []
  | j, x :: r => ((j : Int), x) :: enumP (j + 1) r
theorem enumP_kv : ∀ (j : Nat) (ds : List Int), enumK j (ds.map V.int) = kvP (enumP j ds)
  | _, [] => rfl
  | j, x :: r => by
    show (Sum.inl (j : Int), V.int x) :: enumK (j + 1) (r.map V.int) = (Sum.inl (j : Int), V.int x) :: kvP (enumP (j + 1) r)
    rw [enumP_kv (j + 1) r]
theorem enumP_len : ∀ (j : Nat) (ds : List Int), (enumP j ds).length = ds.length
  | _, [] => rfl
  | j, x :: r => congrArg (· + 1) (enumP_len (j + 1) r)
theorem enumP_mem : ∀ (j : Nat) {ds : List Int} {p : Int × Int}, p ∈ enumP j ds → (j : Int) ≤ p.1 ∧ p.1 < j + ds.length ∧ p.2 ∈ ds
  | _, [], _, h => by cases h
  | j, x :: r, p, h => by
    rw [List.length_cons]
    rcases List.mem_cons.mp h with rfl | h
    · exact ⟨Int.le_refl _, by show (j : Int) < _; omega, List.mem_cons_self⟩
    · have z := enumP_mem (j + 1) h
      exact ⟨by omega, by omega, List.mem_cons_of_mem _ z.2.2⟩
theorem enumP_nd : ∀ (j : Nat) (ds : List Int), (ksV (enumP j ds)).Nodup
  | _, [] => List.nodup_nil
  | j, x :: r => by
    show ((j : Int) :: ksV (enumP (j + 1) r)).Nodup
    refine List.nodup_cons.mpr ⟨fun z => ?_, enumP_nd (j + 1) r⟩
    obtain ⟨p, hp, e⟩ := List.mem_map.mp z
    have := (enumP_mem (j + 1) hp).1
    omega
theorem enumP_ok {ds : List Int} (h : ∀ x ∈ ds, Sym x) (hl : ds.length ≤ 16) : PtsOk (enumP 0 ds) :=
  ⟨fun p hp => by
    have z := enumP_mem 0 hp
    exact ⟨⟨by omega, by omega⟩, h _ z.2.2⟩, enumP_nd 0 ds, by rw [enumP_len]; exact hl⟩
/-- the block of data ds, n symbols long -/
def blockOf (ds : List Int) (n : Nat) : List Int := lagrs (enumP 0 ds) n
def DataOk (ds : List Int) (c : Int) : Prop := (∀ x ∈ ds, Sym x) ∧ ds ≠ [] ∧ 0 ≤ c ∧ (ds.length : Int) + c ≤ 16
def spReqData (K : PySem.W.Frag) (Pt : Addr) : Sp := fun vs H Q _ => ∃ (t : Addr) (ds : List Int) (c : Int), vs = [.ref t, .int c] ∧ SqT K H t (ds.map V.int) ∧ H Pt = some (TabF Pt) ∧ DataOk ds c ∧ RetV .non H Q
def spEncode (K : PySem.W.Frag) (Pt : Addr) : Sp := fun vs H Q _ => ∃ (t : Addr) (ds : List Int) (c : Int), vs = [.ref t, .int c] ∧ SqT K H t (ds.map V.int) ∧ H Pt = some (TabF Pt) ∧ DataOk ds c ∧ RetU ((blockOf ds (ds.length + c.toNat)).map V.int) H Q
section
variable {K : PySem.W.Frag} {Pt : Addr} {σ : L2.St} {H : Hp} {te : TE} {v : V} {b : Bool}
theorem spv_reqData {t : Addr} {ds : List Int} {c : Int} (ht : SqT K H t (ds.map V.int)) (hP : H Pt = some (TabF Pt)) (ok : DataOk ds c) : SpV (spReqData K Pt) [.ref t, .int c] H .non := fun H1 e _ q _ => ⟨t, ds, c, rfl, ex_t e ht, e _ _ hP, ok, q⟩
theorem spu_encode {t : Addr} {ds : List Int} {c : Int} (ht : SqT K H t (ds.map V.int)) (hP : H Pt = some (TabF Pt)) (ok : DataOk ds c) : SpU (spEncode K Pt) [.ref t, .int c] H ((blockOf ds (ds.length + c.toNat)).map V.int) := fun H1 e _ q _ => ⟨t, ds, c, rfl, ex_t e ht, e _ _ hP, ok, q⟩
theorem et_tru (h : Ev te σ H v) (hv : ∀ H1, Ex H H1 → TruV K v H1 b) : EvT (fun σ H Q => te σ H fun x H' => ∃ k, TruV K x H' k ∧ Q k H') σ H b := fun H1 e Q q => h H1 e _ fun H2 e2 => ⟨b, hv H2 (e.trans e2), q H2 e2⟩
theorem tru_t {a : Addr} {xs : List V} (h : SqT K H a xs) : ∀ H1, Ex H H1 → TruV K (.ref a) H1 (!xs.isEmpty) := fun H1 e => .inr (.inl ⟨xs, ex_t e h, rfl⟩)
theorem tru_i {i : Int} : ∀ H1, Ex H H1 → TruV K (.int i) H1 (i != 0) := fun _ _ => rfl
/-- all(..) over a tuple -/
theorem ev_allT {good : V → Bool → Prop} {a : Addr} {xs : List V} (pb : V → Bool) (h : Ev te σ H (.ref a)) (hx : SqT K H a xs) (hP : H Pt = some (TabF Pt)) (hg : ∀ y ∈ xs, good y (pb y)) : Ev (tAllT K Pt good te) σ H (.bl (xs.all pb)) := fun H1 e Q q =>
  h H1 e _ fun H2 e2 => ⟨a, xs, pb, rfl, ex_t (e.trans e2) hx, (e.trans e2) _ _ hP, hg, q H2 e2⟩
end
end Sq
namespace Sq
open PySem PySem.Spec PyProof.Rows L2 Evl
theorem room3 {k : Nat} {A : Around} (r : Room k A) : A.depth + 1 + 2 < recursionLimit := by
  have := r.dp
  omega
theorem eltG_call {X : Cx} {scope : Scope} {good : V → Bool → Prop} {f x : Str} {p1 p2 p3 : Pos} (R : RawFn1 X.prog X.w X.K X.mg X.base f 2 good) (hD : X.A.depth + 1 + 2 < recursionLimit) (hk : scope.kind = .function) (hf : scope.names.lookup f = some .globalImplicit) (hx : scope.names.lookup x = some .local) (hd : (f == ("__debug__" : Str)) = false) (hdx : (x == ("__debug__" : Str)) = false) :
    EltG X scope x (.Call (.Name f p1) [.Name x p2] [] p3) good := fun y u b hg r cenv m hs hgl hbl hm => by
  subst hs
  exact raw_callF R hD hg r ⟨hk, hgl, hbl⟩ hf hx hm hd hdx
end Sq

/-! values that are only bounded: draws; tuples made on the way; tuples of numbers compared -/
namespace Sq
open PySem PySem.Spec PyProof.Rows L2 Evl
/-- te gives some value with p, and keeps what stands -/
def EvP (te : TE) (σ : L2.St) (H : Hp) (p : V → Prop) : Prop := ∀ H1, Ex H H1 → ∀ Q : VK, (∀ v H2, Ex H1 H2 → p v → Q v H2) → te σ H1 Q
/-- a new list | a new tuple, with P -/
def EvLP (te : TE) (σ : L2.St) (H : Hp) (P : List V → Prop) : Prop := ∀ H1, Ex H H1 → ∀ Q : VK, (∀ xs p H2, P xs → H1 p = none → Ex H1 H2 → H2 p = some (.lst xs) → Q (.ref p) H2) → te σ H1 Q
def EvUP (te : TE) (σ : L2.St) (H : Hp) (P : List V → Prop) : Prop := ∀ H1, Ex H H1 → ∀ Q : VK, (∀ xs p H2, P xs → H1 p = none → Ex H1 H2 → H2 p = some (.tup xs) → Q (.ref p) H2) → te σ H1 Q
/-- a tuple, new or old -/
def EvS (K : PySem.W.Frag) (te : TE) (σ : L2.St) (H : Hp) (xs : List V) : Prop := ∀ H1, Ex H H1 → ∀ Q : VK, (∀ p H2, Ex H1 H2 → SqT K H2 p xs → Q (.ref p) H2) → te σ H1 Q
def intB (m : Int) (v : V) : Prop := ∃ z, v = .int z ∧ 0 ≤ z ∧ z < m
section
variable {K : PySem.W.Frag} {σ : L2.St} {H H' : Hp} {ta tb te tl : TE} {t : TT} {x y z v : V} {r : R2} {p p1 p2 : V → Prop} {D : Ends} {tu tz : TS} {g : TG}
theorem evp_of (h : Ev te σ H v) (hp : p v) : EvP te σ H p := fun H1 e Q q => h H1 e _ fun H2 e2 => q v H2 e2 hp
theorem evp_imp (h : EvP te σ H p1) (i : ∀ v, p1 v → p v) : EvP te σ H p := fun H1 e Q q => h H1 e _ fun v H2 e2 hp => q v H2 e2 (i v hp)
theorem evp_taken {rr : Addr} {M : Int} (hr : Ev ta σ H (.ref rr)) (hm : EvP tb σ H fun v => ∃ m, v = .int m ∧ 0 < m ∧ m ≤ M) (hM : M < 1073741824) (hrow : RowAt K H rr) : EvP (tCall (spTaken K) [] E0 (tCons ta (tCons tb tNil))) σ H (intB M) := fun H1 e Q q =>
  hr H1 e _ fun H2 e2 => hm H2 (e.trans e2) _ fun v H3 e3 hv => by
    obtain ⟨m, rfl, h0, h1⟩ := hv
    exact ⟨rr, m, rfl, h0, by omega, hrow.ex ((e.trans e2).trans e3), fun z z0 z1 H4 e4 => q _ H4 ((e2.trans e3).trans e4) ⟨z, rfl, z0, by omega⟩⟩
theorem evp_takenC {rr : Addr} {m : Int} (hr : Ev ta σ H (.ref rr)) (hm : Ev tb σ H (.int m)) (h0 : 0 < m ∧ m < 1073741824) (hrow : RowAt K H rr) : EvP (tCall (spTaken K) [] E0 (tCons ta (tCons tb tNil))) σ H (intB m) :=
  evp_taken hr (evp_of hm ⟨m, rfl, h0.1, Int.le_refl m⟩) h0.2 hrow
theorem evp_op1 (ha : Ev ta σ H x) (hb : EvP tb σ H p2) (hr : ∀ y, p2 y → ∀ H1, Ex H H1 → ∃ z, RV r x y H1 z ∧ p z) : EvP (tOp r ta tb) σ H p := fun H1 e Q q =>
  ha H1 e _ fun H2 e2 => hb H2 (e.trans e2) _ fun y H3 e3 hy => by
    obtain ⟨z, hz, pz⟩ := hr y hy H3 ((e.trans e2).trans e3)
    exact hz H3 (Ex.refl H3) Q fun H4 e4 => q z H4 ((e2.trans e3).trans e4) pz
theorem evp_opL {xs : List V} (ha : EvL ta σ H xs) (hb : EvP tb σ H p2) (hr : ∀ a y, p2 y → ∀ H1, H1 a = some (.lst xs) → ∃ z, RV r (.ref a) y H1 z ∧ p z) : EvP (tOp r ta tb) σ H p := fun H1 e Q q =>
  ha H1 e _ fun a H2 _ e2 h2 => hb H2 (e.trans e2) _ fun y H3 e3 hy => by
    obtain ⟨z, hz, pz⟩ := hr a y hy H3 (e3 _ _ h2)
    exact hz H3 (Ex.refl H3) Q fun H4 e4 => q z H4 ((e2.trans e3).trans e4) pz
theorem evp_cb2 {rc : List V → Hp → VK → Prop} (ha : EvP ta σ H p1) (hb : Ev tb σ H y) (hr : ∀ x, p1 x → ∀ H1, Ex H H1 → ∃ z, RC rc [x, y] H1 z ∧ p z) : EvP (tCB rc (tCons ta (tCons tb tNil))) σ H p := fun H1 e Q q =>
  ha H1 e _ fun x H2 e2 hx => hb H2 (e.trans e2) _ fun H3 e3 => by
    obtain ⟨z, hz, pz⟩ := hr x hx H3 ((e.trans e2).trans e3)
    exact hz H3 (Ex.refl H3) Q fun H4 e4 => q z H4 ((e2.trans e3).trans e4) pz
theorem q_asgP {i : Nat} (h : EvP te σ H p) (k : ∀ v H1, p v → Ex H H1 → tz D (σ.set i (some v)) H1) : tSeq (tAsg te (gName i)) tz D σ H := h H (Ex.refl H) _ fun v H1 e hp => k v H1 hp e
theorem q_asgUP {i : Nat} {P : List V → Prop} (h : EvUP te σ H P) (k : ∀ xs a H1, P xs → H a = none → Ex H H1 → H1 a = some (.tup xs) → tz D (σ.set i (some (.ref a))) H1) : tSeq (tAsg te (gName i)) tz D σ H := h H (Ex.refl H) _ fun xs a H1 hP ha e h1 => k xs a H1 hP ha e h1
theorem q_asgS {i : Nat} {xs : List V} (h : EvS K te σ H xs) (k : ∀ a H1, Ex H H1 → SqT K H1 a xs → tz D (σ.set i (some (.ref a))) H1) : tSeq (tAsg te (gName i)) tz D σ H := h H (Ex.refl H) _ k
/-- [draw for i in range(n)] -/
theorem lp_range {ta : TA} {j : Nat} {vs : List Nat} {n : Int} (h : EvA ta σ H [.int n]) (hn : 0 ≤ n ∧ n ≤ 40000) (hw : ∀ x, wipe ((wipe σ vs).set j (some x)) vs = wipe σ vs)
    (he : ∀ (i : Nat) H1, Ex H H1 → (i : Int) < n → EvP te ((wipe σ vs).set j (some (.int (i : Int)))) H1 p) : EvLP (tLc (iRng1 ta) (gName j) tYes te vs) σ H (fun xs => xs.length = n.toNat ∧ ∀ x ∈ xs, p x) := fun H0 e Q q => h H0 e _ fun H1 e1 => ⟨n, rfl, by omega, by omega, fun Dl hD =>
  lc_range (lo := 0) (n := n.toNat) (fun i H' => Ex H1 H' ∧ ∃ xs, H' Dl = some (.lst xs) ∧ xs.length = i ∧ ∀ x ∈ xs, p x) ⟨Ex.new hD, [], upd_same, rfl, fun x hx => nomatch hx⟩ (fun i H' hi ⟨e2, xs, hx, hl, hp⟩ => by
    have e0 : (0 : Int) + (i : Int) = (i : Int) := Int.zero_add _
    refine ⟨hw _, tYes_y ?_⟩
    rw [e0]
    refine he i H' ((e.trans e1).trans e2) (by omega) H' (Ex.refl H') _ fun v H3 e3 hv => ⟨xs, e3 _ _ hx, sz_lt (by omega), Ex.mut (e2.trans e3) hD, xs ++ [v], upd_same, by rw [List.length_append, hl]; rfl, fun x hx => ?_⟩
    rcases List.mem_append.mp hx with hx | hx
    · exact hp x hx
    · rw [List.mem_singleton.mp hx]
      exact hv) (fun H' ⟨e2, xs, hx, hl, hp⟩ => q xs Dl H' ⟨hl, hp⟩ (fresh_back e1 hD) (e1.trans e2) hx)⟩
theorem up_tupL {P : List V → Prop} (h : EvLP te σ H P) : EvUP (tCB (rTupOf K) (tCons te tNil)) σ H P := fun H1 e Q q =>
  h H1 e _ fun xs a H2 hP ha e2 h2 => ⟨a, xs, rfl, .inl ⟨sq_of h2, fun l hl => q xs l _ hP (fresh_back e2 hl) (Ex.mut e2 (fresh_back e2 hl)) upd_same⟩⟩
/-! ### tuples on the way -/
theorem evs_U {xs : List V} (h : EvU te σ H xs) : EvS K te σ H xs := fun H1 e Q q => h H1 e _ fun a H2 _ e2 h2 => q a H2 e2 (st_of h2)
theorem evs_V {a : Addr} {xs : List V} (h : Ev te σ H (.ref a)) (hx : SqT K H a xs) : EvS K te σ H xs := fun H1 e Q q => h H1 e _ fun H2 e2 => q a H2 e2 (ex_t (e.trans e2) hx)
theorem evs_cat {xs ys : List V} (ha : EvS K ta σ H xs) (hb : EvS K tb σ H ys) (hne : xs ≠ []) (hz : xs.length + ys.length ≤ 100000) : EvS K (tOp (rCatT K) ta tb) σ H (xs ++ ys) := fun H1 e Q q =>
  ha H1 e _ fun a H2 e2 h2 => hb H2 (e.trans e2) _ fun b H3 e3 h3 => ⟨a, b, xs, ys, rfl, rfl, ex_t e3 h2, h3, hne, sz_of hz, fun hy => q a H3 (e2.trans e3) (by rw [hy, List.append_nil]; exact ex_t e3 h2), fun _ l hl => q l _ ((e2.trans e3).trans (Ex.new hl)) (st_of upd_same)⟩
theorem evs_rep {xs : List V} {k : Int} (ha : EvS K ta σ H xs) (hb : Ev tb σ H (.int k)) (hne : xs ≠ []) (hk : 2 ≤ k ∧ k ≤ 1000) (hz : xs.length ≤ 1000) : EvS K (tOp (rRepT K) ta tb) σ H (List.replicate k.toNat xs).flatten := fun H1 e Q q =>
  ha H1 e _ fun a H2 e2 h2 => hb H2 (e.trans e2) _ fun H3 e3 => ⟨a, k, xs, rfl, rfl, ex_t e3 h2, hne, hk.1, hk.2, hz, fun l hl => q l _ ((e2.trans e3).trans (Ex.new hl)) (st_of upd_same)⟩
theorem evs_sl {tl th : TO} {a : Addr} {xs : List V} {lo hi : Option Int} (h : Ev te σ H (.ref a)) (h1 : EvO tl σ H lo) (h2 : EvO th σ H hi) (hs : SqT K H a xs) (hw : ¬ (HT.sIx xs.length 0 lo = 0 ∧ HT.sIx xs.length xs.length hi = xs.length)) : EvS K (tSl (rSlT K) te tl th) σ H (cutV xs lo hi) := fun H1 e _ q =>
  h H1 e _ fun H2 e2 => h1 H2 (e.trans e2) _ fun H3 e3 => h2 H3 ((e.trans e2).trans e3) _ fun H4 e4 =>
    ⟨a, xs, rfl, ex_t (((e.trans e2).trans e3).trans e4) hs, hw, fun p hp => q p _ (((e2.trans e3).trans e4).trans (Ex.new hp)) (st_of upd_same)⟩
/-- f(t, y), t a tuple made on the way -/
theorem eu_callS {sp : Sp} {xs zs : List V} (ha : EvS K ta σ H xs) (hb : Ev tb σ H y) (hs : ∀ a H1, Ex H H1 → SqT K H1 a xs → SpU sp [.ref a, y] H1 zs) : EvU (tCall sp [] E0 (tCons ta (tCons tb tNil))) σ H zs := fun H1 e Q q =>
  ha H1 e _ fun a H2 e2 h2 => hb H2 (e.trans e2) _ fun H3 e3 => hs a H3 ((e.trans e2).trans e3) (ex_t e3 h2) H3 (Ex.refl H3) Q (fun l H4 hl e4 h4 => q l H4 (fresh_back (e2.trans e3) hl) ((e2.trans e3).trans e4) h4) E0
/-! ### tuples of numbers compared -/
def pdI (xs : List Int) : List PyData := xs.map PyData.int
theorem dp_ints {xs : List Int} : DpAll K H (xs.map V.int) (pdI xs) := by
  induction xs with
  | nil => exact .nil
  | cons x r ih => exact .cons (.int x) ih
theorem eqv_ints : ∀ (xs ys : List Int), PyData.eqvAll (pdI xs) (pdI ys) = decide (xs = ys)
  | [], [] => rfl
  | [], _ :: _ => rfl
  | _ :: _, [] => rfl
  | x :: xs, y :: ys => by
    show (PyData.eqv (.int x) (.int y) && PyData.eqvAll (pdI xs) (pdI ys)) = _
    rw [eqv_ints xs ys]
    show ((x == y) && decide (xs = ys)) = _
    rw [Bool.eq_iff_iff]
    simp
theorem lay_ints : ∀ xs : List Int, PyData.canLayAll0 (pdI xs) = true
  | [] => rfl
  | _ :: r => lay_ints r
theorem depth_ints : ∀ xs : List Int, PyData.depthAll (pdI xs) = 0
  | [] => rfl
  | _ :: r => by
    show max 0 (PyData.depthAll (pdI r)) = 0
    rw [depth_ints r]
    rfl
theorem shaped_t (xs : List Int) : SeqAt.shaped (.tuple (pdI xs)) = true := by
  show (PyData.canLayAll0 (pdI xs) && decide (PyData.depthAll (pdI xs) + 1 ≤ 64)) = true
  rw [lay_ints, depth_ints]
  rfl
theorem shaped_l (xs : List Int) : SeqAt.shaped (.list (pdI xs)) = true := shaped_t xs
theorem ev_eqS {xs ys : List Int} (ha : EvS K ta σ H (xs.map V.int)) (hb : EvS K tb σ H (ys.map V.int)) : Ev (tOp (rEqD K) ta tb) σ H (.bl (decide (xs = ys))) := fun H1 e Q q =>
  ha H1 e _ fun a H2 e2 h2 => hb H2 (e.trans e2) _ fun b H3 e3 h3 => ⟨_, _, .tup (ex_t e3 h2) dp_ints, .tup h3 dp_ints, shaped_t xs, shaped_t ys, by
    show Q (.bl (PyData.eqvAll (pdI xs) (pdI ys))) H3
    rw [eqv_ints]
    exact q H3 (e2.trans e3)⟩
theorem ev_neS {xs ys : List Int} (ha : EvS K ta σ H (xs.map V.int)) (hb : EvS K tb σ H (ys.map V.int)) : Ev (tOp (rNeD K) ta tb) σ H (.bl (!decide (xs = ys))) := fun H1 e Q q =>
  ha H1 e _ fun a H2 e2 h2 => hb H2 (e.trans e2) _ fun b H3 e3 h3 => ⟨_, _, .tup (ex_t e3 h2) dp_ints, .tup h3 dp_ints, shaped_t xs, shaped_t ys, by
    show Q (.bl (!PyData.eqvAll (pdI xs) (pdI ys))) H3
    rw [eqv_ints]
    exact q H3 (e2.trans e3)⟩
/-- [..] == [] -/
theorem ev_eqN {xs : List Int} (ha : EvL ta σ H (xs.map V.int)) (hb : EvL tb σ H []) : Ev (tOp (rEqD K) ta tb) σ H (.bl (decide (xs = []))) := ev_opLL ha hb fun a b H1 h1 h2 _ => fun H2 e2 Q q => ⟨_, _, .lst (ex_l e2 (sq_of h1)) dp_ints, .lst (xs := []) (ex_l e2 (sq_of h2)) .nil, shaped_l xs, shaped_l [], by
    show Q (.bl (PyData.eqvAll (pdI xs) (pdI []))) H2
    rw [eqv_ints]
    exact q H2 (Ex.refl H2)⟩
/-! ### isinstance of two classes -/
theorem ev_isiT {tcs : TA} {T a b : String} {k : Bool} (h : Ev ta σ H v) (hc : EvA tcs σ H [.ty a, .ty b]) (ty : ∀ H1, Ex H H1 → TyX K H1 v (.type T)) (hk : PySem.W.kitAny K (.type T) [.type a, .type b] = some k) : Ev (tCB (rIsiT K) (tCons ta (tCons (tTup tcs) tNil))) σ H (.bl k) := fun H1 e Q q =>
  h H1 e _ fun H2 e2 => hc H2 (e.trans e2) _ fun H3 e3 => ⟨sz_of (by show 2 ≤ 100000; decide), fun l hl => ⟨v, l, [.ty a, .ty b], .type T, [.type a, .type b], k, rfl, upd_same, .cons (.ty a) (.cons (.ty b) .nil), ty _ (((e.trans e2).trans e3).trans (Ex.new hl)), hk, q _ ((e2.trans e3).trans (Ex.new hl))⟩⟩
/-- for x in (..) laid on the way -/
theorem q_forNT {xs : List V} (h : EvU tl σ H xs) (k : ∀ a H1, H a = none → Ex H H1 → H1 a = some (.tup xs) → tSeq (tFor (iTup K (tC (.ref a))) g tu) tz D σ H1) : tSeq (tFor (iTup K tl) g tu) tz D σ H := h H (Ex.refl H) _ fun a H1 ha e h1 => k a H1 ha e h1
end
theorem hu64 {k : Nat} {A : Around} (hr : Room k A) : A.units + 64 < cLine := by
  have := hr.un
  omega

theorem kit_any2 {K : PySem.W.Frag} {T a b : String} {i j : Bool} (h : kitB T a = some i) (h2 : kitB T b = some j) : PySem.W.kitAny K (.type T) [.type a, .type b] = some (i || j) := by
  refine kitAny_cons (kit_ty h) (fun hi => ?_) fun hi => by rw [hi]; rfl
  rw [hi]
  exact kitAny_cons (kit_ty h2) (fun hj => by rw [hj]; rfl) fun hj => by rw [hj]; rfl
end Sq

/-! products bit by bit; the form of Lagrange, term by term -/
namespace Sq
open PySem PySem.Spec PyProof.Rows L2 Evl
/-! ### bit by bit -/
def lp1 (a b : Int) : Nat → Int
  | 0 => 0
  | j + 1 => if (Builtin.bitAnd (b / 2 ^ j) 1 != 0) = true then Builtin.bitXor (lp1 a b j) (a * 2 ^ j) else lp1 a b j
def lp2s (w : Int) (j : Nat) : Int := if (Builtin.bitAnd (w / 2 ^ j) 1 != 0) = true then Builtin.bitXor w (19 * 2 ^ (j - 4)) else w
theorem lp_eq {a b : Int} (ha : Sym a) (hb : Sym b) : lp2s (lp2s (lp2s (lp1 a b 4) 6) 5) 4 = gmul a b := sym2 (p := fun a b => lp2s (lp2s (lp2s (lp1 a b 4) 6) 5) 4 = gmul a b) (by decide +kernel) ha hb
/-! ### algebra -/
theorem gd1 {a b c : Int} (ha : Sym a) (hb : Sym b) (hc : Sym c) (h : b ≠ 0) : gmul (gdiv a b) (gmul c b) = gmul a c := sym3 (p := fun a b c => b ≠ 0 → gmul (gdiv a b) (gmul c b) = gmul a c) (by decide +kernel) ha hb hc h
theorem gd2 {a b c : Int} (ha : Sym a) (hb : Sym b) (hc : Sym c) (h : b ≠ 0) : gmul (gdiv a b) c = gdiv (gmul c a) b := sym3 (p := fun a b c => b ≠ 0 → gmul (gdiv a b) c = gdiv (gmul c a) b) (by decide +kernel) ha hb hc h
theorem gm_swap {a b c : Int} (ha : Sym a) (hb : Sym b) (hc : Sym c) : gmul (gmul a b) c = gmul (gmul a c) b := by
  rw [gmul_assoc ha hb hc, gmul_comm hb hc, ← gmul_assoc ha hc hb]
theorem gm_add {a b c : Int} (ha : Sym a) (hb : Sym b) (hc : Sym c) : gmul (gadd a b) c = gadd (gmul a c) (gmul b c) := by
  rw [gmul_comm (sym_add ha hb) hc, gmul_add hc ha hb, gmul_comm hc ha, gmul_comm hc hb]
theorem gm_zero {a : Int} (ha : Sym a) : gmul 0 a = 0 := sym1 (p := fun a => gmul 0 a = 0) (by decide +kernel) ha
theorem gm_one {a : Int} (ha : Sym a) : gmul 1 a = a := sym1 (p := fun a => gmul 1 a = a) (by decide +kernel) ha
/-- the product of a's differences, but that of s -/
def dskip (s a : Int) : List Int → Int → Int
  | [], r => r
  | k :: ks, r => dskip s a ks (if k = s then r else gmul r (gadd a k))
theorem dskip_self (a : Int) : ∀ (ks : List Int) (r : Int), dskip a a ks r = dprod a ks r
  | [], _ => rfl
  | k :: ks, r => dskip_self a ks _
theorem dskip_sym {s a : Int} (ha : Sym a) : ∀ {ks : List Int} {r : Int}, (∀ k ∈ ks, Sym k) → Sym r → Sym (dskip s a ks r)
  | [], _, _, hr => hr
  | k :: ks, r, h, hr => by
    have hk := h k List.mem_cons_self
    have hh : ∀ x ∈ ks, Sym x := fun x hx => h x (List.mem_cons_of_mem _ hx)
    show Sym (dskip s a ks (if k = s then r else gmul r (gadd a k)))
    refine dskip_sym ha hh ?_
    split
    · exact hr
    · exact sym_mul hr (sym_add ha hk)
theorem dskip_mul {s a : Int} (ha : Sym a) : ∀ {ks : List Int} {r c : Int}, (∀ k ∈ ks, Sym k) → Sym r → Sym c → dskip s a ks (gmul r c) = gmul (dskip s a ks r) c
  | [], _, _, _, _, _ => rfl
  | k :: ks, r, c, h, hr, hc => by
    have hk := h k List.mem_cons_self
    have hh : ∀ x ∈ ks, Sym x := fun x hx => h x (List.mem_cons_of_mem _ hx)
    show dskip s a ks (if k = s then gmul r c else gmul (gmul r c) (gadd a k)) = gmul (dskip s a ks (if k = s then r else gmul r (gadd a k))) c
    split
    · exact dskip_mul ha hh hr hc
    · rw [gm_swap hr hc (sym_add ha hk)]
      exact dskip_mul ha hh (sym_mul hr (sym_add ha hk)) hc
theorem dskip_out {s a : Int} : ∀ {ks : List Int} {r : Int}, s ∉ ks → a ∉ ks → dskip s a ks r = dprod a ks r
  | [], _, _, _ => rfl
  | k :: ks, r, h1, h2 => by
    rw [List.mem_cons, not_or] at h1 h2
    show dskip s a ks (if k = s then r else gmul r (gadd a k)) = dprod a ks (if k = a then r else gmul r (gadd a k))
    rw [if_neg (fun z => h1.1 z.symm), if_neg (fun z => h2.1 z.symm)]
    exact dskip_out h1.2 h2.2
theorem dprod_mul {a : Int} (ha : Sym a) {ks : List Int} {r c : Int} (h : ∀ k ∈ ks, Sym k) (hr : Sym r) (hc : Sym c) : dprod a ks (gmul r c) = gmul (dprod a ks r) c := by
  rw [← dskip_self, ← dskip_self]
  exact dskip_mul ha h hr hc
/-- the whole product is that without one, times that one -/
theorem dprod_skip {s a : Int} (ha : Sym a) : ∀ {ks : List Int} {r : Int}, (∀ k ∈ ks, Sym k) → ks.Nodup → s ∈ ks → a ∉ ks → Sym r → dprod a ks r = gmul (dskip s a ks r) (gadd a s)
  | [], _, _, _, h, _, _ => nomatch h
  | k :: ks, r, h, hn, hs, hna, hr => by
    have hk := h k List.mem_cons_self
    have hh : ∀ x ∈ ks, Sym x := fun x hx => h x (List.mem_cons_of_mem _ hx)
    rw [List.nodup_cons] at hn
    rw [List.mem_cons, not_or] at hna
    show dprod a ks (if k = a then r else gmul r (gadd a k)) = gmul (dskip s a ks (if k = s then r else gmul r (gadd a k))) (gadd a s)
    rw [if_neg (fun z => hna.1 z.symm)]
    by_cases e : k = s
    · subst e
      rw [if_pos rfl, dprod_mul ha hh hr (sym_add ha hk), dskip_out hn.1 hna.2]
    · rw [if_neg e]
      refine dprod_skip ha hh hn.2 ?_ hna.2 (sym_mul hr (sym_add ha hk))
      rcases List.mem_cons.mp hs with z | z
      · exact absurd z.symm e
      · exact z
/-- the law's own form -/
def ltail (a : Int) (ks : List Int) : Pts → Int → Int
  | [], t => t
  | (k, v) :: r, t => ltail a ks r (gadd t (gdiv (dskip k a ks v) (dprod k ks 1)))
theorem lterm {a k v : Int} {ks : List Int} (ha : Sym a) (hs : ∀ k ∈ ks, Sym k) (hn : ks.Nodup) (hk : k ∈ ks) (hv : Sym v) (hna : a ∉ ks) :
    gmul (gdiv (gdiv v (dprod k ks 1)) (gadd a k)) (dprod a ks 1) = gdiv (dskip k a ks v) (dprod k ks 1) := by
  have hsk := hs k hk
  have hS : Sym (dskip k a ks 1) := dskip_sym ha hs sym_1
  have hD := dprod_sym hsk hs sym_1
  have hD0 := dprod_ne hsk hs sym_1 (by decide)
  have hka : k ≠ a := fun z => hna (z ▸ hk)
  rw [dprod_skip (s := k) ha hs hn hk hna sym_1, gd1 (sym_div hv hD) (sym_add ha hsk) hS (gadd_ne ha hsk hka), gd2 hv hD hS hD0, ← dskip_mul ha hs sym_1 hv, gm_one hv]
theorem lsum_tail {a : Int} {ks : List Int} (ha : Sym a) (hs : ∀ k ∈ ks, Sym k) (hn : ks.Nodup) (hna : a ∉ ks) : ∀ {qs : Pts} {t : Int}, (∀ p ∈ qs, p.1 ∈ ks ∧ Sym p.2) → Sym t →
    gmul (lsum a (qs.map fun p => (p.1, gdiv p.2 (dprod p.1 ks 1))) t) (dprod a ks 1) = ltail a ks qs (gmul t (dprod a ks 1))
  | [], _, _, _ => rfl
  | (k, v) :: r, t, h, ht => by
    have hp := h (k, v) List.mem_cons_self
    have hh : ∀ p ∈ r, p.1 ∈ ks ∧ Sym p.2 := fun x hx => h x (List.mem_cons_of_mem _ hx)
    have hw := sym_div hp.2 (dprod_sym (hs k hp.1) hs sym_1)
    have hg := sym_div hw (sym_add ha (hs k hp.1))
    show gmul (lsum a (r.map fun p => (p.1, gdiv p.2 (dprod p.1 ks 1))) (gadd t (gdiv (gdiv v (dprod k ks 1)) (gadd a k)))) (dprod a ks 1) = ltail a ks r (gadd (gmul t (dprod a ks 1)) (gdiv (dskip k a ks v) (dprod k ks 1)))
    rw [lsum_tail ha hs hn hna hh (sym_add ht hg), gm_add ht hg (dprod_sym ha hs sym_1), lterm ha hs hn hp.1 hp.2 hna]
theorem lagr_tail {ps : Pts} {a : Int} (ok : PtsOk ps) (ha : Sym a) (hna : a ∉ ksV ps) : lagr ps a = ltail a (ksV ps) ps 0 := by
  have hn : ps.lookup a = none := by
    cases z : ps.lookup a with
    | none => rfl
    | some v => exact absurd (List.mem_map.mpr ⟨_, lookup_mem z, rfl⟩) hna
  have z : lagr ps a = gmul (lsum a (wts ps) 0) (dprod a (ksV ps) 1) := by
    unfold lagr
    rw [hn]
  have y := lsum_tail ha ok.ks ok.2.1 hna (qs := ps) (t := 0) (fun p hp => ⟨List.mem_map.mpr ⟨p, hp, rfl⟩, (ok.1 p hp).2⟩) sym_0
  rw [gm_zero (dprod_sym ha ok.ks sym_1)] at y
  exact z.trans y
theorem ltail_sym {a : Int} {ks : List Int} (ha : Sym a) (hs : ∀ k ∈ ks, Sym k) : ∀ {qs : Pts} {t : Int}, (∀ p ∈ qs, Sym p.1 ∧ Sym p.2) → Sym t → Sym (ltail a ks qs t)
  | [], _, _, ht => ht
  | (k, v) :: r, t, h, ht => by
    have hp := h (k, v) List.mem_cons_self
    have hh : ∀ p ∈ r, Sym p.1 ∧ Sym p.2 := fun x hx => h x (List.mem_cons_of_mem _ hx)
    exact ltail_sym (qs := r) ha hs hh (sym_add ht (sym_div (dskip_sym ha hs hp.2) (dprod_sym hp.1 hs sym_1)))
theorem ltail_take {a : Int} {ks : List Int} : ∀ {qs : Pts} {i : Nat} {k v t : Int}, qs[i]? = some (k, v) → ltail a ks (qs.take (i + 1)) t = gadd (ltail a ks (qs.take i) t) (gdiv (dskip k a ks v) (dprod k ks 1))
  | [], _, _, _, _, h => by cases h
  | (x, y) :: ps, 0, k, w, t, h => by
    cases h
    rfl
  | (x, y) :: ps, i + 1, k, w, t, h => by
    have h' : ps[i]? = some (k, w) := h
    exact ltail_take (qs := ps) h'
theorem dskip_take {s a : Int} : ∀ {ks : List Int} {i : Nat} {k r : Int}, ks[i]? = some k → dskip s a (ks.take (i + 1)) r = (if k = s then dskip s a (ks.take i) r else gmul (dskip s a (ks.take i) r) (gadd a k))
  | [], _, _, _, h => by cases h
  | x :: ks, 0, k, r, h => by
    cases h
    rfl
  | x :: ks, i + 1, k, r, h => by
    have h' : ks[i]? = some k := h
    exact dskip_take (ks := ks) h'
/-- the one symbol whose product with b is t -/
theorem root_one {t b : Int} (ht : Sym t) (hb : Sym b) (h0 : b ≠ 0) : (List.range 16).filter (fun (m : Nat) => decide (gmul (m : Int) b = t)) = [(gdiv t b).toNat] := sym2 (p := fun t b => b ≠ 0 → (List.range 16).filter (fun (m : Nat) => decide (gmul ((m : Nat) : Int) b = t)) = [(gdiv t b).toNat]) (by decide +kernel) ht hb h0
theorem root_given {t b : Int} (ht : Sym t) (hb : Sym b) (h0 : b ≠ 0) : given 16 (fun m => decide (gmul (m : Int) b = t)) (fun m => V.int (m : Int)) = [.int (gdiv t b)] := by
  unfold given
  rw [root_one ht hb h0]
  have := (sym_div ht hb).1
  show [V.int ((gdiv t b).toNat : Int)] = _
  rw [Int.toNat_of_nonneg this]
/-! ### numbered points -/
theorem enumP_get : ∀ (j : Nat) (ds : List Int) (i : Nat), (enumP j ds)[i]? = (ds[i]?).map fun x => (((j + i : Nat) : Int), x)
  | _, [], i => by simp [enumP]
  | j, x :: r, 0 => by simp [enumP]
  | j, x :: r, i + 1 => by
    have e : j + (i + 1) = j + 1 + i := by omega
    rw [e]
    simpa [enumP] using enumP_get (j + 1) r i
theorem ksV_get {ds : List Int} {i : Nat} (h : i < ds.length) : (ksV (enumP 0 ds))[i]? = some (i : Int) := by
  unfold ksV
  rw [List.getElem?_map, enumP_get, List.getElem?_eq_getElem h]
  simp
theorem ksV_len (ds : List Int) : (ksV (enumP 0 ds)).length = ds.length := by
  unfold ksV
  rw [List.length_map, enumP_len]
theorem ksV_not {ds : List Int} {a : Int} (h : (ds.length : Int) ≤ a) : a ∉ ksV (enumP 0 ds) := fun z => by
  obtain ⟨p, hp, e⟩ := List.mem_map.mp z
  have := enumP_mem 0 hp
  omega
theorem lagr_at {ds : List Int} {i : Nat} {x : Int} (h : ds[i]? = some x) : lagr (enumP 0 ds) (i : Int) = x := by
  have e : (enumP 0 ds)[i]? = some ((i : Int), x) := by
    rw [enumP_get, h]
    simp
  have z := lookup_of (enumP_nd 0 ds) e
  unfold lagr
  rw [z]
theorem block_take {ds : List Int} {n : Nat} (h : ds.length ≤ n) : blockOf ds n = ds ++ (List.range (n - ds.length)).map fun i => lagr (enumP 0 ds) ((ds.length + i : Nat) : Int) := by
  refine List.ext_getElem? fun i => ?_
  unfold blockOf lagrs
  rw [List.getElem?_map]
  by_cases hi : i < ds.length
  · rw [List.getElem?_append_left hi, List.getElem?_eq_getElem hi, List.getElem?_range (by omega)]
    exact congrArg some (lagr_at (List.getElem?_eq_getElem hi))
  · rw [List.getElem?_append_right (by omega), List.getElem?_map]
    by_cases hn : i < n
    · rw [List.getElem?_range hn, List.getElem?_range (by omega)]
      refine congrArg some ?_
      show lagr (enumP 0 ds) (i : Int) = lagr (enumP 0 ds) ((ds.length + (i - ds.length) : Nat) : Int)
      rw [show ds.length + (i - ds.length) = i from by omega]
    · rw [List.getElem?_eq_none (by rw [List.length_range]; omega), List.getElem?_eq_none (by rw [List.length_range]; omega)]
      rfl
theorem block_self (ds : List Int) : blockOf ds ds.length = ds := by
  rw [block_take (Nat.le_refl _), Nat.sub_self]
  exact List.append_nil _
theorem block_one {x : Int} (hx : Sym x) : blockOf [x] 16 = List.replicate 16 x := sym1 (p := fun x => blockOf [x] 16 = List.replicate 16 x) (by decide +kernel) hx
theorem block_syms {ds : List Int} (h : ∀ x ∈ ds, Sym x) (hl : ds.length ≤ 16) {n : Nat} (hn : n ≤ 16) : ∀ x ∈ blockOf ds n, Sym x := fun x hx => by
  obtain ⟨i, hi, rfl⟩ := List.mem_map.mp hx
  rw [List.mem_range] at hi
  exact lagr_sym (enumP_ok h hl) ⟨by omega, by omega⟩
theorem block_len (ds : List Int) (n : Nat) : (blockOf ds n).length = n := by
  unfold blockOf lagrs
  rw [List.length_map, List.length_range]
end Sq

/-! promises of the laws' own defs about blocks -/
namespace Sq
open PySem PySem.Spec PyProof.Rows L2 Evl
def RetS (K : PySem.W.Frag) (xs : List V) (H : Hp) (Q : VK) : Prop := ∀ p H2, Ex H H2 → SqT K H2 p xs → Q (.ref p) H2
def SpS (K : PySem.W.Frag) (sp : Sp) (vs : List V) (H : Hp) (xs : List V) : Prop := ∀ H1, Ex H H1 → ∀ Q : VK, RetS K xs H1 Q → ∀ E : XK, sp vs H1 Q E
def spAt (K : PySem.W.Frag) : Sp := fun vs H Q _ => ∃ (m p : Addr) (a : Int) (ds : List Int), vs = [.ref m, .ref p, .int a] ∧ SqT K H m (ds.map V.int) ∧ SqL K H p (rgV 0 (ds.length : Int)) ∧ (∀ x ∈ ds, Sym x) ∧ (ds.length : Int) ≤ a ∧ a ≤ 15 ∧ RetV (.int (lagr (enumP 0 ds) a)) H Q
def spBlock (K : PySem.W.Frag) : Sp := fun vs H Q _ => ∃ (t : Addr) (ds : List Int) (c : Int), vs = [.ref t, .int c] ∧ SqT K H t (ds.map V.int) ∧ DataOk ds c ∧ RetS K ((blockOf ds (ds.length + c.toNat)).map V.int) H Q
def spAlike0 : Sp := fun vs H Q _ => ∃ i : Int, vs = [.int i, .int i] ∧ RetV (.bl true) H Q
def spAlike1 (K : PySem.W.Frag) : Sp := fun vs H Q _ => ∃ (p q : Addr) (xs : List Int), vs = [.ref p, .ref q] ∧ SqT K H p (xs.map V.int) ∧ SqT K H q (xs.map V.int) ∧ xs.length ≤ 1000 ∧ RetV (.bl true) H Q
def spData (K : PySem.W.Frag) : Sp := fun vs H Q _ => ∃ (r : Addr) (m : Int), vs = [.ref r, .int m] ∧ 1 ≤ m ∧ m ≤ 14 ∧ RowAt K H r ∧ ∀ ds c p t H', DataOk ds c → (ds.length : Int) ≤ m → Ex H H' → H' t = some (.tup (ds.map V.int)) → H' p = some (.tup [.ref t, .int c]) → Q (.ref p) H'
section
variable {K : PySem.W.Frag} {σ : L2.St} {H H' : Hp} {ta tb te : TE} {y z v : V} {D : Ends} {tz : TS} {g : TG} {i j : Nat} {tA : TA}
theorem spv_at {m p : Addr} {a : Int} {ds : List Int} (hm : SqT K H m (ds.map V.int)) (hp : SqL K H p (rgV 0 (ds.length : Int))) (hs : ∀ x ∈ ds, Sym x) (h0 : (ds.length : Int) ≤ a) (h1 : a ≤ 15) : SpV (spAt K) [.ref m, .ref p, .int a] H (.int (lagr (enumP 0 ds) a)) := fun H1 e _ q _ => ⟨m, p, a, ds, rfl, ex_t e hm, ex_l e hp, hs, h0, h1, q⟩
theorem sps_block {t : Addr} {ds : List Int} {c : Int} (ht : SqT K H t (ds.map V.int)) (ok : DataOk ds c) : SpS K (spBlock K) [.ref t, .int c] H ((blockOf ds (ds.length + c.toNat)).map V.int) := fun H1 e _ q _ => ⟨t, ds, c, rfl, ex_t e ht, ok, q⟩
theorem spv_alike0 {i : Int} : SpV spAlike0 [.int i, .int i] H (.bl true) := fun H1 _ _ q _ => ⟨i, rfl, q⟩
theorem spv_alike1 {p q : Addr} {xs : List Int} (hp : SqT K H p (xs.map V.int)) (hq : SqT K H q (xs.map V.int)) (hl : xs.length ≤ 1000) : SpV (spAlike1 K) [.ref p, .ref q] H (.bl true) := fun H1 e _ k _ => ⟨p, q, xs, rfl, ex_t e hp, ex_t e hq, hl, k⟩
theorem evs_callD {sp : Sp} {vs xs : List V} (h : EvA tA σ H vs) (hs : SpS K sp vs H xs) : EvS K (tCall sp [] E0 tA) σ H xs := fun H1 e Q q =>
  h H1 e _ fun H2 e2 => by
    show sp (vs ++ []) H2 Q E0
    rw [List.append_nil]
    exact hs H2 (e.trans e2) Q (fun p H3 e3 h3 => q p H3 (e2.trans e3) h3) E0
/-- f(t, y), t a tuple made on the way -/
theorem ev_callS {sp : Sp} {xs : List V} (ha : EvS K ta σ H xs) (hb : Ev tb σ H y) (hs : ∀ a H1, Ex H H1 → SqT K H1 a xs → SpV sp [.ref a, y] H1 z) : Ev (tCall sp [] E0 (tCons ta (tCons tb tNil))) σ H z := fun H1 e Q q =>
  ha H1 e _ fun a H2 e2 h2 => hb H2 (e.trans e2) _ fun H3 e3 => hs a H3 ((e.trans e2).trans e3) (ex_t e3 h2) H3 (Ex.refl H3) Q (fun H4 e4 => q H4 ((e2.trans e3).trans e4)) E0
theorem s_retS {xs : List V} (h : EvS K te σ H xs) (k : ∀ p H1, Ex H H1 → SqT K H1 p xs → D.rt (.ref p) H1) : tRet te D σ H := h H (Ex.refl H) _ k
theorem q_asgG (h : te σ H fun v H1 => g v σ H1 fun σ2 H2 => tz D σ2 H2) : tSeq (tAsg te g) tz D σ H := h
theorem s_par2R (h : tA σ H fun vs H1 => ∃ u v, vs = [u, v] ∧ D.nx ((σ.set i (some u)).set j (some v)) H1) : tPar i j tA D σ H := h
theorem el_listRg {n : Int} (h : Ev ta σ H (.int n)) (hn : 0 ≤ n ∧ n ≤ 100000) : EvL (tLstRg (tRg1 ta)) σ H (rgV 0 n) := fun H1 e Q q => h H1 e _ fun H2 e2 => ⟨n, rfl, RgOk.of_le (by omega) (by omega) (by omega) (by omega), fun l hl => q l _ (fresh_back e2 hl) (Ex.mut e2 (fresh_back e2 hl)) upd_same⟩
theorem rc_min2 {i j : Int} : RC (fun xs H Q => ∃ i j, xs = [.int i, .int j] ∧ Q (.int (if j < i then j else i)) H) [.int i, .int j] H (.int (if j < i then j else i)) := fun H1 _ _ q => ⟨i, j, rfl, q H1 (Ex.refl H1)⟩
end
theorem g_name {i : Nat} {v : V} {σ : L2.St} {H : Hp} {Q : L2.St → Hp → Prop} (h : Q (σ.set i (some v)) H) : gName i v σ H Q := h
theorem rg_at {n j : Nat} (h : j < n) : atI (rgV 0 (n : Int)) (j : Int) = some (.int (j : Int)) := by
  refine atI_nat ?_
  unfold rgV
  rw [List.getElem?_map, List.getElem?_range (by omega)]
  show some (V.int (0 + (j : Int))) = _
  rw [Int.zero_add]
theorem ints_of {m : Int} : ∀ {xs : List V}, (∀ x ∈ xs, intB m x) → ∃ ds : List Int, xs = ds.map V.int ∧ ∀ d ∈ ds, 0 ≤ d ∧ d < m
  | [], _ => ⟨[], rfl, fun d h => nomatch h⟩
  | x :: r, h => by
    obtain ⟨z, rfl, z0, z1⟩ := h x List.mem_cons_self
    obtain ⟨ds, rfl, hd⟩ := ints_of fun y hy => h y (List.mem_cons_of_mem _ hy)
    refine ⟨z :: ds, rfl, fun d h => ?_⟩
    rcases List.mem_cons.mp h with rfl | h
    · exact ⟨z0, z1⟩
    · exact hd d h
def lpw (a b : Int) : Nat → Int
  | 0 => lp1 a b 4
  | i + 1 => lp2s (lpw a b i) (6 - i)
theorem lpw_eq {a b : Int} (ha : Sym a) (hb : Sym b) : lpw a b 3 = gmul a b := lp_eq ha hb
theorem map_at {xs : List Int} {k : Nat} {x : Int} (h : xs[k]? = some x) : atI (xs.map V.int) (k : Int) = some (.int x) := atI_nat (dn_seq xs k x h)
end Sq
namespace Sq
open PySem PySem.Spec PyProof.Rows L2 Evl
section
variable {K : PySem.W.Frag} {σ : L2.St} {H : Hp} {ta : TA} {u v : V} {D : Ends} {tz : TS} {i j : Nat}
theorem s_asgPair (h : EvA ta σ H [u, v]) (k : ∀ H1, Ex H H1 → D.nx ((σ.set i (some u)).set j (some v)) H1) : tAsg (tTup ta) (gTup K 2 (gCons (gName i) (gCons (gName j) gNil))) D σ H :=
  h H (Ex.refl H) _ fun H1 e1 => ⟨by show 2 ≤ sizeLine; decide, fun p hp => ⟨p, [u, v], rfl, st_of upd_same, rfl, u, [v], rfl, v, [], rfl, rfl, k _ (e1.trans (Ex.new hp))⟩⟩
theorem q_asgPair (h : EvA ta σ H [u, v]) (k : ∀ H1, Ex H H1 → tz D ((σ.set i (some u)).set j (some v)) H1) : tSeq (tAsg (tTup ta) (gTup K 2 (gCons (gName i) (gCons (gName j) gNil)))) tz D σ H := s_asgPair (D := { D with nx := tz D }) h k
end
end Sq
namespace Sq
open PySem PySem.Spec PyProof.Rows L2 Evl
theorem s_retPair {σ : L2.St} {H : Hp} {te tb : TE} {y : V} {D : Ends} {P : List V → Prop} (h : EvUP te σ H P) (hb : Ev tb σ H y) (k : ∀ xs t p H1, P xs → Ex H H1 → H1 t = some (.tup xs) → H1 p = some (.tup [.ref t, y]) → D.rt (.ref p) H1) : tRet (tTup (tCons te (tCons tb tNil))) D σ H :=
  h H (Ex.refl H) _ fun xs t H1 hP ht e1 h1 => hb H1 e1 _ fun H2 e2 => ⟨by show 2 ≤ sizeLine; decide, fun p hp => k xs t p _ hP ((e1.trans e2).trans (Ex.new hp)) ((Ex.new hp) _ _ (e2 _ _ h1)) upd_same⟩
end Sq

/-! itertools.combinations of a list -/
namespace Sq
open PySem PySem.Spec PyProof.Rows L2 Evl
theorem cb_mro : mroOf (.type "itertools.combinations") = pure [.type "itertools.combinations", .type "object"] := by rw [mroOf_type]; kernel_rfl
theorem cb_new : typeLookup (.type "itertools.combinations") "__new__" = pure (some (.builtin "itertools.combinations.__new__")) := by rw [typeLookup_type, builtinLookup_eq_fast]; kernel_rfl
theorem cb_sub : isSubtype (.type "itertools.combinations") (.type "itertools.combinations") = pure true := by rw [isSubtype_type]; kernel_rfl
theorem cb_init : Slot "itertools.combinations" "__init__" "object.__init__" := by
  refine .of (owner := "object") (n := "__init__") ?_ (by decide +kernel) (by decide +kernel) (by decide +kernel) ?_ ?_
  · rw [typeLookup_type, builtinLookup_eq_fast]
    kernel_rfl
  · first
      | exact .inl (by decide +kernel)
      | exact .inr (by decide +kernel)
  · rw [isSubtype_type]
    kernel_rfl
theorem cb_called : TypeCalled "itertools.combinations" "itertools.combinations.__new__" "object.__init__" :=
  ⟨by decide +kernel, by decide +kernel, ⟨_, _, cb_mro⟩, madeBy_type cb_mro cb_new (by decide +kernel), by decide +kernel, cb_sub, cb_init⟩
theorem cb_tc (a b : Value) : checkTypeCall "itertools.combinations" ⟨[a, b], []⟩ = pure () := by kernel_rfl
theorem cb_nc (a b : Value) : checkBuiltinCall "itertools.combinations.__new__" ⟨[.type "itertools.combinations", a, b], []⟩ = pure () := by kernel_rfl
theorem cb_en : entryFor table "itertools.combinations.__new__" = some Builtin.«itertools.combinations.__new__» := entryFor_of_tree (by kernel_rfl)
theorem cb_slot {n id : String} (h : typeLookup (.type "itertools.combinations") n = pure (some (.builtin id))) (S : Slot "itertools.combinations" n id) : Slot "itertools.combinations" n id := S
theorem cb_iter : Slot "itertools.combinations" "__iter__" "itertools.combinations.__iter__" := by
  refine .of (owner := "itertools.combinations") (n := "__iter__") ?_ (by decide +kernel) (by decide +kernel) (by decide +kernel) ?_ cb_sub
  · rw [typeLookup_type, builtinLookup_eq_fast]
    kernel_rfl
  · first
      | exact .inl (by decide +kernel)
      | exact .inr (by decide +kernel)
theorem cb_next : Slot "itertools.combinations" "__next__" "itertools.combinations.__next__" := by
  refine .of (owner := "itertools.combinations") (n := "__next__") ?_ (by decide +kernel) (by decide +kernel) (by decide +kernel) ?_ cb_sub
  · rw [typeLookup_type, builtinLookup_eq_fast]
    kernel_rfl
  · first
      | exact .inl (by decide +kernel)
      | exact .inr (by decide +kernel)
theorem cb_ei : entryFor table "itertools.combinations.__iter__" = some Builtin.«dict_keyiterator.__iter__» := by
  refine entryFor_alias (id' := "dict_keyiterator.__iter__") (by kernel_rfl) ?_ (by decide +kernel) (by kernel_rfl)
  first
    | rfl
    | decide +kernel
    | (unfold String.splitOn; simp +decide [String.splitOnAux])
theorem cb_ex : entryFor table "itertools.combinations.__next__" = some Builtin.«itertools.combinations.__next__» := entryFor_of_tree (by kernel_rfl)
theorem cb_own : Manifest.owners.lookup (String.ofList "itertools.combinations".toList.reverse.reverse) = some Manifest.sig_itertools_combinations := by kernel_rfl
theorem cb_ai (a : Value) : argsOk "itertools.combinations.__iter__" ⟨[a], []⟩ := by
  unfold argsOk
  rw [signature?_of (id := "itertools.combinations.__iter__") (n := "__iter__".toList.reverse) (o := "itertools.combinations".toList.reverse) (by kernel_rfl) cb_own]
  kernel_rfl
theorem cb_ax (a : Value) : argsOk "itertools.combinations.__next__" ⟨[a], []⟩ := by
  unfold argsOk
  rw [signature?_of (id := "itertools.combinations.__next__") (n := "__next__".toList.reverse) (o := "itertools.combinations".toList.reverse) (by kernel_rfl) cb_own]
  kernel_rfl
theorem cb_nd : typeHasDict (.type "itertools.combinations") = false := by decide +kernel
end Sq

/-! the steps of itertools.combinations -/
namespace Sq
open PySem PySem.Spec PyProof.Rows L2 Evl
def nextC (n : Nat) (ix : List Nat) : Option (List Nat) := match (List.range ix.length).reverse.find? fun i => ix.getD i 0 != i + n - ix.length with
  | none => none
  | some i => some (ix.take i ++ (List.range (ix.length - i)).map (ix.getD i 0 + 1 + ·))
abbrev cbF (pool : Addr) (st : Int) (old : Value) (ix : List Nat) : List Value := [.ref pool, rawInt st, old] ++ ix.map fun (i : Nat) => rawInt i
abbrev combO (pool : Addr) (st : Int) (old : Value) (ix : List Nat) : Obj := { cls := .type "itertools.combinations", dict := none, data := .fields (cbF pool st old ix).toArray, slots := #[] }
theorem cb_bind (a b : Value) : Builtin.Itertools.itBindNamed "combinations" ["iterable", "r"] 2 2 [a, b] [] = pure [some a, some b] := by kernel_rfl
theorem cb_sub2 : isSubtype (.type "itertools.combinations") (.type ("itertools." ++ "combinations")) = pure true := by
  rw [show ("itertools." ++ "combinations" : String) = "itertools.combinations" from by decide +kernel]
  exact cb_sub
theorem meets_cb (l : Addr) (items : Array Value) (r : Nat) (t : Tok) (hr : r < 1000) : Meets (Builtin.«itertools.combinations.__new__» ⟨[.type "itertools.combinations", .ref l, .int r t], []⟩)
    (fun _ R s => (∃ (o : Obj) (n : Nat), s.heap.get? l = some o ∧ o.cls = .type "list" ∧ o.data = .seq items n ∧ items.size ≤ 1000) ∧ ∀ h' : Heap, h'.objs.size = s.heap.objs.size + 1 → (∀ b o', s.heap.get? b = some o' → h'.get? b = some o') →
      R (.ok (.ret (.ref (h'.push { cls := .type "tuple", data := .seq items }).objs.size))) { s with heap := (h'.push { cls := .type "tuple", data := .seq items }).push (combO h'.objs.size (if r > items.size then 2 else 0) .none (List.range r)) }) :=
  .of_wp fun prog w A R s h => by
    obtain ⟨hq, gg, dd, tk, oo⟩ := s
    obtain ⟨⟨o, n, ho, hc, hd, hz⟩, h⟩ := h
    have hsub := cb_sub
    have hsub2 := cb_sub2
    have hnd := cb_nd
    have goC : ∀ {A' : Around} {E : Value → Shared → Prop} {Q : List Value → Shared → Prop}, (∀ h', h'.objs.size = hq.objs.size + 1 → (∀ b o', hq.get? b = some o' → h'.get? b = some o') → Q items.toList ⟨h', gg, dd, tk, oo⟩) → wpAny (model prog w) A' (collect (.ref l)) Q E ⟨hq, gg, dd, tk, oo⟩ := fun q =>
      PyProof.Rows.collect_list (s := ⟨hq, gg, dd, tk, oo⟩) (vs := items.toList) ⟨o, ho, hc, n, by rw [hd]⟩ (q _ (by rw [Heap.size_update, Heap.size_push]) fun b o' z => by
        have lb := Heap.lt_size z
        rw [Heap.get?_update_ne _ _ _ _ (Nat.ne_of_lt lb)]
        exact Heap.get?_push_of_some _ z) (by rw [Array.length_toList]; exact Nat.le_trans hz (by rw [sizeLine_eq]; decide))
    have hn : ¬ ((decide ((r : Int) < -(2 ^ 63)) || decide ((r : Int) ≥ 2 ^ 63)) = true) := by
      have a : decide ((r : Int) < -(2 ^ 63)) = false := decide_eq_false (by omega)
      have b : decide ((r : Int) ≥ 2 ^ 63) = false := decide_eq_false (by omega)
      rw [a, b]
      decide
    wp_walk using goC
    refine wpAny_ite_false (decide_eq_false hn) (wpAny_pure (wpAny_bind (goC fun h' hsz hk => ?_)))
    have t1 : Builtin.Itertools.itTooMany (r : Int) = false := by
      unfold Builtin.Itertools.itTooMany
      simp
      omega
    refine wpAny_ite_false (decide_eq_false (show ¬ ((r : Int) < 0) by omega)) ?_
    show wpAny _ _ (if Builtin.Itertools.itTooMany (r : Int) = true then _ else _) _ _ _
    rw [if_neg (by rw [t1]; decide)]
    have hz2 : items.toList.length ≤ sizeLine := by
      rw [Array.length_toList]
      exact Nat.le_trans hz (by rw [sizeLine_eq]; decide)
    refine wpAny_bind (wpAny_newTuple ?_ hz2)
    refine wpAny_pure ?_
    refine wpAny_bind ?_
    show wpAny _ _ (if (!typeHasDict (.type "itertools.combinations")) = true then _ else _) _ _ _
    rw [hnd, if_pos (show (!false) = true from rfl)]
    have e1 : (r : Int).toNat = r := Int.toNat_natCast r
    have e2 : items.toList.length = items.size := Array.length_toList
    have e3 : items.toList.toArray = items := by simp
    rw [e1, e2, e3]
    refine wpAny_newObj_type ?_ ?_
    · refine wpAny_pure ⟨_, rfl, h h' hsz hk⟩
    · show (([Value.ref h'.objs.size, rawInt (if r > items.size then 2 else 0), Value.none] ++ (List.range r).map fun (i : Nat) => rawInt i).toArray).size ≤ sizeLine + 2
      rw [List.size_toArray, List.length_append, List.length_map, List.length_range, sizeLine_eq]
      show 3 + r ≤ _
      omega
end Sq

/-! itertools.combinations: made, begun, gone on, ended -/
namespace Sq
open PySem PySem.Spec PyProof.Rows L2 Evl
section
variable {prog : Program} {w : World} {A : Around} {E : Value → Shared → Prop} {s : Shared}
abbrev tupO (vs : Array Value) : Obj := { cls := .type "tuple", data := .seq vs }
def IsTupO (h : Heap) (p : Addr) (items : Array Value) : Prop := ∃ o n, h.get? p = some o ∧ o.cls = .type "tuple" ∧ o.data = .seq items n
theorem call_cb {l : Addr} {items : Array Value} {r : Nat} {t : Tok} {Q : Value → Shared → Prop} (hl : s.heap.IsList l items) (hz : items.size ≤ 1000) (hr : r < 1000)
    (h : ∀ (k' : Heap) (p c : Addr), k'.get? c = some (combO p (if r > items.size then 2 else 0) .none (List.range r)) → IsTupO k' p items → s.heap.objs.size ≤ p → s.heap.objs.size ≤ c → p ≠ c → (∀ b o, s.heap.get? b = some o → k'.get? b = some o) → Q (.ref c) { s with heap := k' }) :
    wpAny (model prog w) A (call (.type "itertools.combinations") [.ref l, .int r t]) Q E s := by
  obtain ⟨o, ho, hc, n, hd⟩ := hl
  refine callType_new cb_called (by decide +kernel) (cb_tc _ _) (cb_nc _ _) (fun obj => F.args_object_init_3 obj _ _) cb_en (meets_cb l items r t hr) ⟨⟨o, n, ho, hc, hd, hz⟩, fun h' hs hk => ?_⟩
  have zs : (h'.push { cls := Value.type "tuple", data := Data.seq items }).objs.size = h'.objs.size + 1 := Heap.size_push ..
  have g1 : ((h'.push { cls := Value.type "tuple", data := Data.seq items }).push (combO h'.objs.size (if r > items.size then 2 else 0) .none (List.range r))).get? (h'.push { cls := Value.type "tuple", data := Data.seq items }).objs.size = some (combO h'.objs.size (if r > items.size then 2 else 0) .none (List.range r)) := Heap.get?_push_size _ rfl
  exact ⟨⟨_, g1, rfl⟩, h _ h'.objs.size _ g1 ⟨_, _, Heap.get?_push_of_some _ (Heap.get?_push_size _ rfl), rfl, rfl⟩ (by omega) (by omega) (by rw [zs]; exact Nat.ne_of_lt (Nat.lt_succ_self _)) fun b o' q => Heap.get?_push_of_some _ (Heap.get?_push_of_some _ (hk b o' q))⟩
theorem iter_cb {c p : Addr} {st : Int} {old : Value} {ix : List Nat} {Q : Value → Shared → Prop} (hit : s.heap.get? c = some (combO p st old ix)) (h : Q (.ref c) s) : wpAny (model prog w) A (pyIter (.ref c)) Q E s := by
  have hT : s.TypeIs (.ref c) "itertools.combinations" := ⟨_, hit, rfl⟩
  refine wpAny_pyIter_slot hT cb_iter (wpAny_call_entry cb_iter hT cb_ei ?_ (cb_ai _))
  show wpAny _ _ (ret (.ref c)) _ _ s
  exact wpAny_pure ⟨_, rfl, "itertools.combinations", _, hT, cb_next.lookup, h⟩
theorem nums_cb {c p : Addr} {st : Int} {old : Value} {ix : List Nat} {Q : List Nat → Shared → Prop} (hit : s.heap.get? c = some (combO p st old ix)) (h : Q ix s) : wpAny (model prog w) A (Builtin.Itertools.itNumbersFrom (.ref c) 3) Q E s := by
  unfold Builtin.Itertools.itNumbersFrom
  refine wpAny_bind (wpAny_load hit (wpAny_pure ?_))
  have e : ∀ ix : List Nat, List.map (fun v => match v with | .int n _ => n.toNat | _ => 0) (ix.map fun (i : Nat) => rawInt i) = ix := by
    intro ix
    rw [List.map_map]
    exact (List.map_congr_left fun i _ => Int.toNat_natCast i).trans (List.map_id _)
  have z : Q (List.map (fun v => match v with | .int n _ => n.toNat | _ => 0) (ix.map fun (i : Nat) => rawInt i)) s := by
    rw [e]
    exact h
  exact z
theorem int_cb {c p : Addr} {st : Int} {old : Value} {ix : List Nat} {Q : Int → Shared → Prop} (hit : s.heap.get? c = some (combO p st old ix)) (h : Q st s) : wpAny (model prog w) A (Builtin.Itertools.itIntField (.ref c) 1) Q E s := by
  unfold Builtin.Itertools.itIntField
  exact wpAny_bind (wpAny_field hit rfl (x := rawInt st) rfl (wpAny_pure h))
theorem pick_sz {items : Array Value} {ix : List Nat} (h : ix.length ≤ 1000) : (ix.map fun i => items.getD i .none).length ≤ sizeLine := by
  rw [List.length_map, sizeLine_eq]
  omega
abbrev pickO (items : Array Value) (ix : List Nat) : Obj := { cls := .type "tuple", data := .seq (ix.map fun i => items.getD i .none).toArray }
theorem pool_cb {p : Addr} {items : Array Value} {Q : Array Value → Shared → Prop} (hp : IsTupO s.heap p items) (h : Q items s) : wpAny (model prog w) A (Builtin.Itertools.itPoolItems (.ref p)) Q E s := by
  obtain ⟨o, n, ho, hc, hd⟩ := hp
  unfold Builtin.Itertools.itPoolItems
  refine wpAny_bind ?_
  show wpAny _ _ (load p >>= _) _ _ _
  refine wpAny_bind (wpAny_load ho ?_)
  rw [hd]
  exact wpAny_pure (wpAny_pure h)
theorem set_cb {h : Heap} {c p : Addr} {st : Int} {old : Value} {ix : List Nat} (hit : h.get? c = some (combO p st old ix)) (st' : Int) : (h.update c (Obj.mapFields fun x => x.setIfInBounds 1 (rawInt st'))).get? c = some (combO p st' old ix) := by
  rw [Heap.get?_update_self _ hit rfl]
  simp [combO, Obj.mapFields, cbF]
theorem setO_cb {h : Heap} {c p : Addr} {st : Int} {old new : Value} {ix : List Nat} (hit : h.get? c = some (combO p st old ix)) : (h.update c (Obj.mapFields fun x => x.setIfInBounds 2 new)).get? c = some (combO p st new ix) := by
  rw [Heap.get?_update_self _ hit rfl]
  simp [combO, Obj.mapFields, cbF]
/-- a choice handed out -/
theorem hand_cb {c p : Addr} {st : Int} {old : Value} {ix : List Nat} {items : Array Value} {Q : Fin → Shared → Prop} {pk : Value → List Nat → Sem Value} (hpk : ∀ v l, pk v l = (do let its ← Builtin.Itertools.itPoolItems v; newTuple (l.map fun i => its.getD i .none))) (hit : s.heap.get? c = some (combO p st old ix)) (hp : IsTupO s.heap p items) (hcp : p ≠ c) (hl : ix.length ≤ 1000) {z : Nat} (hz : s.heap.objs.size = z)
    (hQ : ∀ k' : Heap, k'.get? c = some (combO p st (.ref z) ix) → k'.get? z = some (pickO items ix) → k'.objs.size = z + 1 → (∀ b o, b ≠ c → s.heap.get? b = some o → k'.get? b = some o) → Q (.done (.ret (.ref z))) { s with heap := k' }) :
    wpAny (model prog w) A (do
        let result ← pk (.ref p) ix
        let before ← field (.ref c) 2
        setField (.ref c) 2 result
        letGo [before] [result]
        ret result) Q E s := by
  subst hz
  rw [hpk]
  refine wpAny_bind (wpAny_bind (pool_cb hp (wpAny_newTuple ?_ (pick_sz hl))))
  have lc := Heap.lt_size hit
  have h1 : (s.heap.push (pickO items ix)).get? c = some (combO p st old ix) := Heap.get?_push_of_some _ hit
  refine wpAny_bind (wpAny_field (s := { s with heap := s.heap.push (pickO items ix) }) h1 rfl (x := old) rfl ?_)
  refine wpAny_bind (wpAny_setField (s := { s with heap := s.heap.push (pickO items ix) }) h1 rfl (by simp) ?_)
  refine wpAny_bind (wpAny_letGo (wpAny_pure ?_))
  have h2 := setO_cb (new := .ref s.heap.objs.size) h1
  have ne : s.heap.objs.size ≠ c := Nat.ne_of_gt lc
  exact hQ _ h2 (by rw [Heap.get?_update_ne _ _ _ _ ne]; exact Heap.get?_push_size _ rfl) (by rw [Heap.size_update, Heap.size_push]) fun b o hb e => by
    rw [Heap.get?_update_ne _ _ _ _ hb]
    exact Heap.get?_push_of_some _ e
/-- the first choice -/
theorem next_cb0 {c p : Addr} {old : Value} {ix : List Nat} {items : Array Value} {Q : Option Value → Shared → Prop} (hit : s.heap.get? c = some (combO p 0 old ix)) (hp : IsTupO s.heap p items) (hcp : p ≠ c) (hl : ix.length ≤ 1000)
    (hQ : ∀ k', k'.get? c = some (combO p 1 (.ref s.heap.objs.size) ix) → k'.get? s.heap.objs.size = some (pickO items ix) → k'.objs.size = s.heap.objs.size + 1 → (∀ b o, b ≠ c → s.heap.get? b = some o → k'.get? b = some o) → Q (some (.ref s.heap.objs.size)) { s with heap := k' }) :
    wpAny (model prog w) A (pyNext (.ref c)) Q E s := by
  have ty : s.TypeIs (.ref c) "itertools.combinations" := ⟨_, hit, rfl⟩
  unfold pyNext
  refine wpAny_bind (wpAny_attempt (wpAny_callSpecial?_slot (name := Str.ofString "__next__") ty cb_next (wpAny_call_entry cb_next ty cb_ex ?_ (cb_ax _))))
  show wpAny _ _ (field (.ref c) 0 >>= _) _ _ s
  refine wpAny_bind (wpAny_field hit rfl (x := .ref p) rfl ?_)
  refine wpAny_bind (m := Builtin.Itertools.itNumbersFrom (.ref c) 3) (nums_cb hit ?_)
  refine wpAny_bind (m := Builtin.Itertools.itIntField (.ref c) 1) (int_cb hit ?_)
  have lc := Heap.lt_size hit
  refine wpAny_bind (m := setField (.ref c) 1 (rawInt 1)) (wpAny_setField hit rfl (by simp) ?_)
  have h1 := set_cb hit 1
  have hp1 : IsTupO (s.heap.update c (Obj.mapFields fun x => x.setIfInBounds 1 (rawInt 1))) p items := let ⟨o, n, ho, r⟩ := hp; ⟨o, n, by rw [Heap.get?_update_ne _ _ _ _ hcp]; exact ho, r⟩
  have zs : (s.heap.update c (Obj.mapFields fun x => x.setIfInBounds 1 (rawInt 1))).objs.size = s.heap.objs.size := Heap.size_update ..
  refine hand_cb (s := { s with heap := s.heap.update c (Obj.mapFields fun x => x.setIfInBounds 1 (rawInt 1)) }) (fun _ _ => rfl) h1 hp1 hcp hl zs fun k' a1 a2 a3 a4 => ⟨_, rfl, wpAny_pure (hQ k' a1 a2 a3 fun b o hb e => a4 b o hb ?_)⟩
  show (s.heap.update c _).get? b = some o
  rw [Heap.get?_update_ne _ _ _ _ hb]
  exact e
theorem nset_cb {c p : Addr} {st : Int} {old : Value} {ix jx : List Nat} {Q : Unit → Shared → Prop} (hl : jx.length ≤ 1000) (hit : s.heap.get? c = some (combO p st old ix)) (hQ : ∀ k' : Heap, k'.get? c = some (combO p st old jx) → k'.objs.size = s.heap.objs.size → (∀ b o, b ≠ c → s.heap.get? b = some o → k'.get? b = some o) → Q () { s with heap := k' }) : wpAny (model prog w) A (Builtin.Itertools.itSetNumbersFrom (.ref c) 3 jx) Q E s := by
  unfold Builtin.Itertools.itSetNumbersFrom
  refine wpAny_updateFields hit rfl (hQ _ ?_ (Heap.size_update ..) fun b o hb e => ?_) ?_
  · rw [Heap.get?_update_self _ hit rfl]
    simp [combO, Obj.mapFields, cbF]
  · rw [Heap.get?_update_ne _ _ _ _ hb]
    exact e
  · rw [sizeLine_eq]
    simp [cbF]
    omega
/-- the next choice -/
theorem next_cb1 {c p : Addr} {old : Value} {ix jx : List Nat} {items : Array Value} {Q : Option Value → Shared → Prop} (hit : s.heap.get? c = some (combO p 1 old ix)) (hp : IsTupO s.heap p items) (hcp : p ≠ c) (hl : jx.length ≤ 1000) (hn : nextC items.size ix = some jx)
    (hQ : ∀ k', k'.get? c = some (combO p 1 (.ref s.heap.objs.size) jx) → k'.get? s.heap.objs.size = some (pickO items jx) → k'.objs.size = s.heap.objs.size + 1 → (∀ b o, b ≠ c → s.heap.get? b = some o → k'.get? b = some o) → Q (some (.ref s.heap.objs.size)) { s with heap := k' }) :
    wpAny (model prog w) A (pyNext (.ref c)) Q E s := by
  have ty : s.TypeIs (.ref c) "itertools.combinations" := ⟨_, hit, rfl⟩
  unfold pyNext
  refine wpAny_bind (wpAny_attempt (wpAny_callSpecial?_slot (name := Str.ofString "__next__") ty cb_next (wpAny_call_entry cb_next ty cb_ex ?_ (cb_ax _))))
  show wpAny _ _ (field (.ref c) 0 >>= _) _ _ s
  refine wpAny_bind (wpAny_field hit rfl (x := .ref p) rfl ?_)
  refine wpAny_bind (m := Builtin.Itertools.itNumbersFrom (.ref c) 3) (nums_cb hit ?_)
  refine wpAny_bind (m := Builtin.Itertools.itIntField (.ref c) 1) (int_cb hit ?_)
  refine wpAny_bind (m := Builtin.Itertools.itPoolItems (.ref p)) (pool_cb hp ?_)
  split
  · rename_i kx heq
    have z : nextC items.size ix = some kx := heq
    have e : kx = jx := Option.some.inj (z.symm.trans hn)
    subst e
    refine wpAny_bind (nset_cb hl hit fun k1 h1 zs hk => ?_)
    have hp1 : IsTupO k1 p items := let ⟨o, n, ho, r⟩ := hp; ⟨o, n, hk p o hcp ho, r⟩
    exact hand_cb (s := { s with heap := k1 }) (fun _ _ => rfl) h1 hp1 hcp hl zs fun k' a1 a2 a3 a4 => ⟨_, rfl, wpAny_pure (hQ k' a1 a2 a3 fun b o hb e => a4 b o hb (hk b o hb e))⟩
  · rename_i heq
    have z : nextC items.size ix = none := heq
    rw [z] at hn
    cases hn
theorem stop_cb {α : Type} {Q : α → Shared → Prop} (hh : A.handled = none) (hQ : ∀ e h', CpRep.StopE e h' → (∀ b o, s.heap.get? b = some o → h'.get? b = some o) → E e { s with heap := h' }) : wpAny (model prog w) A (Builtin.Itertools.itStop : Sem α) Q E s := by
  unfold Builtin.Itertools.itStop
  simp only [newExc, newTuple, raiseNew]
  refine wpAny_bind (wpAny_bind ?_)
  refine wpAny_newObj_type ?_ (by size_fits)
  refine wpAny_bind (m := firstArgMember _ _) ?_
  refine wpAny_of_eq (a := Value.none) ?_ ?_
  · simp only [firstArgMember]
    rfl
  refine wpAny_newObj_type ?_ (by size_fits)
  refine wpAny_bind (wpAny_handled ?_)
  rw [hh]
  refine wpAny_bind (wpAny_pure (wpAny_throw ?_))
  refine hQ _ _ ⟨_, _, _, rfl, Heap.get?_push_size _ rfl, rfl, rfl, rfl⟩ fun b o e => ?_
  exact Heap.get?_push_of_some _ (Heap.get?_push_of_some _ e)
/-- no choice more -/
theorem next_cbE {c p : Addr} {st : Int} {old : Value} {ix : List Nat} {items : Array Value} {Q : Option Value → Shared → Prop} (hh : A.handled = none) (hit : s.heap.get? c = some (combO p st old ix)) (hp : IsTupO s.heap p items) (hn : (st = 1 ∧ nextC items.size ix = none) ∨ st = 2)
    (hQ : ∀ k' : Heap, (∀ b o, b ≠ c → s.heap.get? b = some o → k'.get? b = some o) → Q none { s with heap := k' }) :
    wpAny (model prog w) A (pyNext (.ref c)) Q E s := by
  have ty : s.TypeIs (.ref c) "itertools.combinations" := ⟨_, hit, rfl⟩
  unfold pyNext
  refine wpAny_bind (wpAny_attempt (wpAny_callSpecial?_slot (name := Str.ofString "__next__") ty cb_next (wpAny_call_entry cb_next ty cb_ex ?_ (cb_ax _))))
  show wpAny _ _ (field (.ref c) 0 >>= _) _ _ s
  refine wpAny_bind (wpAny_field hit rfl (x := .ref p) rfl ?_)
  refine wpAny_bind (m := Builtin.Itertools.itNumbersFrom (.ref c) 3) (nums_cb hit ?_)
  refine wpAny_bind (m := Builtin.Itertools.itIntField (.ref c) 1) (int_cb hit ?_)
  have fin : ∀ (k1 : Heap), (∀ b o, b ≠ c → s.heap.get? b = some o → k1.get? b = some o) → ∀ (e : Value) (h' : Heap), CpRep.StopE e h' → (∀ b o, k1.get? b = some o → h'.get? b = some o) →
      wpAny (model prog w) A (isInstance e (.type "StopIteration") >>= fun b => if b = true then pure none else throw e) Q E { s with heap := h' } := fun k1 hk e h' ⟨a, o, vs, he, ho, hc, _⟩ hx => by
    subst he
    exact wpAny_bind (wpAny_isInstance (T := "StopIteration") (b := true) ⟨o, ho, hc⟩ isSubtype_stop (wpAny_pure (hQ _ fun b o hb q => hx b o (hk b o hb q))))
  rcases hn with ⟨rfl, hn⟩ | rfl
  · refine wpAny_bind (m := Builtin.Itertools.itPoolItems (.ref p)) (pool_cb hp ?_)
    split
    · rename_i kx heq
      have z : nextC items.size ix = some kx := heq
      rw [z] at hn
      cases hn
    · refine wpAny_bind (wpAny_setField hit rfl (by simp) ?_)
      refine stop_cb (A := A.in1) hh fun e h' he hx => ?_
      exact fin _ (fun b o hb q => by rw [Heap.get?_update_ne _ _ _ _ hb]; exact q) e h' he hx
  · refine wpAny_bind (m := rule _) (wpAny_rule ?_)
    exact stop_cb (A := A.in1) hh fun e h' he hx => fin s.heap (fun b o _ q => q) e h' he hx
end
end Sq

/-! for x in combinations(l, r) -/
namespace Sq
open PySem PySem.Spec PyProof.Rows L2 Evl
structure CombSeq (n r : Nat) (cs : List (List Nat)) : Prop where
  none : n < r → cs = []
  first : r ≤ n → cs[0]? = some (List.range r)
  next : ∀ i x, cs[i]? = some x → nextC n x = cs[i + 1]?
  len : ∀ x ∈ cs, x.length ≤ 1000
def pickV (xs : List V) (ix : List Nat) : List V := ix.map fun k => xs.getD k .non
def Itcb (xs : List V) (cs : List (List Nat)) : It := ⟨fun i _ => i < cs.length, fun i H v H' => ∃ T ix, v = .ref T ∧ cs[i]? = some ix ∧ H T = none ∧ H' = upd H T (.tup (pickV xs ix)), fun i _ => cs.length ≤ i⟩
def StC (cs : List (List Nat)) (i : Nat) (st : Int) (ix : List Nat) : Prop := (i = 0 ∧ st = 0 ∧ cs[0]? = some ix) ∨ (i = 0 ∧ st = 2 ∧ cs = []) ∨ ∃ j, i = j + 1 ∧ st = 1 ∧ cs[j]? = some ix
theorem vals_pick {xs : List V} {its : List Value} (rv : Vals xs its) : ∀ ix : List Nat, Vals (pickV xs ix) (ix.map fun k => its.toArray.getD k .none)
  | [] => .nil
  | k :: r => by
    refine .cons ?_ (vals_pick rv r)
    have e : its.toArray.getD k .none = (its[k]?).getD .none := by simp [Array.getD_eq_getD_getElem?]
    have e2 : xs.getD k .non = (xs[k]?).getD .non := List.getD_eq_getElem?_getD
    show RelV (xs.getD k .non) (its.toArray.getD k .none)
    rw [e, e2]
    cases h : xs[k]? with
    | none =>
      rw [rv.none_of h]
      rfl
    | some x =>
      obtain ⟨u, h1, h2⟩ := rv.get h
      rw [h1]
      exact h2
theorem turn_comb {P : Program} {w : World} {K : PySem.W.Frag} {y : Str} {px : Pos} {n r : Nat} {cs : List (List Nat)} {xs : List V} {its : List Value} (e p : Addr) (rv : Vals xs its) (hn : xs.length = n) (C : CombSeq n r cs) :
    Turn P w K (.Name y px) (Itcb xs cs) [e, p] e (fun i h => IsTupO h p its.toArray ∧ p ≠ e ∧ ∃ old st ix, h.get? e = some (combO p st old ix) ∧ StC cs i st ix) where
  mem := by simp
  obj := fun i h ⟨⟨o, n, ho, hc, hd⟩, _, old, st, ix, he, _⟩ b hb => by
    have z : b = e ∨ b = p := by simpa using hb
    rcases z with rfl | rfl
    · exact ⟨_, he, fun v q => nomatch q⟩
    · exact ⟨o, ho, fun v q => by rw [hd] at q; cases q⟩
  keep := fun i h h' ⟨⟨o, n, ho, r⟩, hne, old, st, ix, he, z⟩ k => ⟨⟨o, n, k p (by simp) _ ho, r⟩, hne, old, st, ix, k e (by simp) _ he, z⟩
  item := by
    intro X hP hw hK hc i pins s σ H E I hf ⟨hp, hne, old, st, ix, he, hst⟩ hg
    subst hP hw hK
    have hi : i < cs.length := hg
    have hel : e < s.heap.objs.size := Heap.lt_size he
    have hpl : p < s.heap.objs.size := let ⟨_, _, q, _⟩ := hp; Heap.lt_size q
    have hsz : its.toArray.size = n := by
      rw [List.size_toArray, ← rv.length, hn]
    have out : ∀ (jx : List Nat), cs[i]? = some jx → ∀ k' : Heap, k'.get? e = some (combO p 1 (.ref s.heap.objs.size) jx) → k'.get? s.heap.objs.size = some (pickO its.toArray jx) → k'.objs.size = s.heap.objs.size + 1 → (∀ b o, b ≠ e → s.heap.get? b = some o → k'.get? b = some o) →
        (∃ u, some (Value.ref s.heap.objs.size) = some u ∧ wpAny (model X.prog X.w) X.A (letOwnedTupleGo (.Name y px) (.ref e) u) (fun _ s2 => ∃ x H', Inv X pins σ H' s2 ∧ RelV x u ∧ (Itcb xs cs).yld i H x H' ∧ (IsTupO s2.heap p its.toArray ∧ p ≠ e ∧ ∃ old st ix, s2.heap.get? e = some (combO p st old ix) ∧ StC cs (i + 1) st ix) ∧ ∀ b ∈ [e, p], H' b = none) E { s with heap := k' }) := fun jx hj k' a1 a2 a3 a4 => by
      refine ⟨_, rfl, ?_⟩
      show wpAny _ _ (pure ()) _ _ _
      have hl := C.len jx (List.mem_of_getElem? hj)
      have new : ObjOk X.prog X.w (upd H s.heap.objs.size (.tup (pickV xs jx))) k' s.heap.objs.size (.tup (pickV xs jx)) :=
        ⟨by unfold pickV; rw [List.length_map, sizeLine_eq]; omega, _, vals_pick rv jx, ⟨_, a2, rfl, _, rfl⟩⟩
      have I1 : Inv X pins σ (upd H s.heap.objs.size (.tup (pickV xs jx))) { s with heap := k' } :=
        I.turnedNew (t' := s.toks) (ch := [e, p]) (fun b ob hb q => a4 b ob (fun z => hb (by simp [z])) q) hf (Nat.le_refl _) new
      refine wpAny_pure ⟨.ref s.heap.objs.size, _, I1, rfl, ⟨_, jx, rfl, hj, I.hok.fresh (Nat.le_refl _), rfl⟩, ⟨let ⟨o, m, ho, r⟩ := hp; ⟨o, m, a4 p o hne ho, r⟩, hne, _, 1, jx, a1, .inr (.inr ⟨i, rfl, rfl, hj⟩)⟩, fun b hb => ?_⟩
      have z : b = e ∨ b = p := by simpa using hb
      have lb : b < s.heap.objs.size := by rcases z with rfl | rfl <;> assumption
      rw [upd_ne (Nat.ne_of_lt lb)]
      exact (hf b hb).1
    rcases hst with ⟨rfl, rfl, h0⟩ | ⟨rfl, rfl, h0⟩ | ⟨j, rfl, rfl, h0⟩
    · exact next_cb0 he hp hne (C.len ix (List.mem_of_getElem? h0)) (out ix h0)
    · rw [h0] at hi
      exact absurd hi (Nat.not_lt_zero _)
    · have hx := List.getElem?_eq_getElem hi
      refine next_cb1 (jx := cs[j + 1]) he hp hne (C.len _ (List.getElem_mem hi)) ?_ (out _ hx)
      rw [hsz, C.next j ix h0, hx]
  done := by
    intro X hP hw hK hc i pins s σ H E I hf ⟨hp, hne, old, st, ix, he, hst⟩ hg
    subst hP hw hK
    have hi : cs.length ≤ i := hg
    have hsz : its.toArray.size = n := by
      rw [List.size_toArray, ← rv.length, hn]
    refine next_cbE (I.ok.hd hc) he hp ?_ fun k' hk => ⟨rfl, I.turnedL (t' := s.toks) (ch := [e, p]) (fun b o hb q => hk b o (fun z => hb (by simp [z])) q) hf⟩
    rcases hst with ⟨rfl, rfl, h0⟩ | ⟨rfl, rfl, h0⟩ | ⟨j, rfl, rfl, h0⟩
    · have := (List.getElem?_eq_some_iff.mp h0).1
      omega
    · exact .inr rfl
    · refine .inl ⟨rfl, ?_⟩
      rw [hsz, C.next j ix h0]
      exact List.getElem?_eq_none hi
  self := fun A i s Q E ⟨_, _, old, st, ix, he, _⟩ h => iter_cb he h
def iComb (K : PySem.W.Frag) (ta : TA) : TI := fun σ H R => ta σ H fun vs H1 => ∃ (a : Addr) (xs : List V) (r : Nat), vs = [.ref a, .int r] ∧ SqL K H1 a xs ∧ r < 1000 ∧ xs.length ≤ 1000 ∧ ∃ cs, CombSeq xs.length r cs ∧ R (Itcb xs cs) H1
theorem pi_comb {X : Cx} {e1 e2 : Expr} {ta : TA} {p pos px : Pos} {y : Str} (hg : Gl X "combinations") (hm : X.mg "combinations" = some (.type "itertools.combinations")) (ha : PA X [e1, e2] ta)
    (hs : starEach [e1, e2] X.env = (false, eval e1 X.env) :: starEach [e2] X.env := by rfl) (hpl : (backTo pos (starEach [e2] X.env)).any (·.1) = false := by rfl) : PI X (.Name y px) (.Call (.Name "combinations" p) [e1, e2] [] pos) (iComb X.K ta) := by
  refine ⟨fun pins s σ H R I h => ?_⟩
  refine Call_ (ld_glob I hg hm (PyProof.Rows.callWith_type1 (thn (ha.run pos pins s σ H _ I h) fun us s1 ⟨vs, H1, I1, r1, q1⟩ => ?_) hs hpl))
  obtain ⟨a, xs, r, ex, hq, hr, hz, cs, C, q⟩ := q1
  subst ex
  obtain ⟨u1, u2, rfl, ra, rb⟩ := vals2 r1
  cases ra
  obtain ⟨t, rfl⟩ := rb
  obtain ⟨its, rv, pl, hz2⟩ := I1.list hq
  have hsz : its.toArray.size = xs.length := by rw [List.size_toArray, rv.length]
  refine call_cb pl.isList (by rw [hsz]; exact hz) hr fun k' p c hc hp gp gc hne hk => iter_cb (s := { s1 with heap := k' }) hc ?_
  have I2 : Inv X pins σ H1 { s1 with heap := k' } := I1.kept (t' := s1.toks) hk
  have st : StC cs 0 (if r > its.toArray.size then 2 else 0) (List.range r) := by
    rw [hsz]
    by_cases z : r > xs.length
    · rw [if_pos z]
      exact .inr (.inl ⟨rfl, rfl, C.none z⟩)
    · rw [if_neg z]
      exact .inl ⟨rfl, rfl, C.first (by omega)⟩
  refine ⟨c, [c, p], _, _, H1, rfl, I2, turn_comb c p rv rfl C, ⟨hp, hne, _, _, _, hc, st⟩, fun b hb => ?_, q⟩
  have z : b = c ∨ b = p := by simpa using hb
  have hle : s1.heap.objs.size ≤ b := by rcases z with rfl | rfl <;> assumption
  exact I1.fpOk hle (I1.hok.fresh hle)
end Sq

/-! polynomials over the sixteen symbols: as many points as coefficients fix them -/
namespace Sq
open PySem PySem.Spec PyProof.Rows L2 Evl
def Deg : Nat → (Int → Int) → Prop
  | 0, f => ∀ x, Sym x → f x = 0
  | k + 1, f => ∃ (c : Int) (g : Int → Int), Sym c ∧ Deg k g ∧ ∀ x, Sym x → f x = gadd c (gmul x (g x))
theorem deg_sym : ∀ {k : Nat} {f : Int → Int}, Deg k f → ∀ x, Sym x → Sym (f x)
  | 0, f, h, x, hx => by
    rw [h x hx]
    exact sym_0
  | k + 1, f, ⟨c, g, hc, hg, h⟩, x, hx => by
    rw [h x hx]
    exact sym_add hc (sym_mul hx (deg_sym hg x hx))
theorem deg_congr : ∀ {k : Nat} {f f' : Int → Int}, Deg k f → (∀ x, Sym x → f' x = f x) → Deg k f'
  | 0, _, _, h, e => fun x hx => (e x hx).trans (h x hx)
  | _ + 1, _, _, ⟨c, g, hc, hg, h⟩, e => ⟨c, g, hc, hg, fun x hx => (e x hx).trans (h x hx)⟩
theorem ga_zero {a : Int} (ha : Sym a) : gadd 0 a = a := sym1 (p := fun a => gadd 0 a = a) (by decide +kernel) ha
theorem ga_lc {a b c : Int} (ha : Sym a) (hb : Sym b) (hc : Sym c) : gadd a (gadd b c) = gadd b (gadd a c) := sym3 (p := fun a b c => gadd a (gadd b c) = gadd b (gadd a c)) (by decide +kernel) ha hb hc
theorem ga_e1 {a u w : Int} (ha : Sym a) (hu : Sym u) (hw : Sym w) : gadd (gadd a u) w = gadd (gadd a w) u := sym3 (p := fun a u w => gadd (gadd a u) w = gadd (gadd a w) u) (by decide +kernel) ha hu hw
theorem ga_e2 {c u z : Int} (hc : Sym c) (hu : Sym u) (hz : Sym z) : gadd (gadd c u) (gadd z u) = gadd c z := sym3 (p := fun c u z => gadd (gadd c u) (gadd z u) = gadd c z) (by decide +kernel) hc hu hz
theorem gm_lc {a b c : Int} (ha : Sym a) (hb : Sym b) (hc : Sym c) : gmul a (gmul b c) = gmul b (gmul a c) := sym3 (p := fun a b c => gmul a (gmul b c) = gmul b (gmul a c)) (by decide +kernel) ha hb hc
theorem ga_mid {c p d q : Int} (hc : Sym c) (hp : Sym p) (hd : Sym d) (hq : Sym q) : gadd (gadd c p) (gadd d q) = gadd (gadd c d) (gadd p q) := by
  rw [gadd_assoc hc hp (sym_add hd hq), ga_lc hp hd hq, ← gadd_assoc hc hd (sym_add hp hq)]
theorem deg_add : ∀ {k : Nat} {f g : Int → Int}, Deg k f → Deg k g → Deg k (fun x => gadd (f x) (g x))
  | 0, f, g, hf, hg => fun x hx => by
    show gadd (f x) (g x) = 0
    rw [hf x hx, hg x hx]
    rfl
  | k + 1, f, g, ⟨c, f', hc, hf, ef⟩, ⟨d, g', hd, hg, eg⟩ => ⟨gadd c d, fun x => gadd (f' x) (g' x), sym_add hc hd, deg_add hf hg, fun x hx => by
    have s1 := deg_sym hf x hx
    have s2 := deg_sym hg x hx
    show gadd (f x) (g x) = gadd (gadd c d) (gmul x (gadd (f' x) (g' x)))
    rw [ef x hx, eg x hx, gmul_add hx s1 s2, ga_mid hc (sym_mul hx s1) hd (sym_mul hx s2)]⟩
theorem deg_smul : ∀ {k : Nat} {f : Int → Int} {s : Int}, Sym s → Deg k f → Deg k (fun x => gmul s (f x))
  | 0, f, s, hs, hf => fun x hx => by
    show gmul s (f x) = 0
    rw [hf x hx]
    exact gmul_zero hs
  | k + 1, f, s, hs, ⟨c, f', hc, hf, ef⟩ => ⟨gmul s c, fun x => gmul s (f' x), sym_mul hs hc, deg_smul hs hf, fun x hx => by
    have s1 := deg_sym hf x hx
    show gmul s (f x) = gadd (gmul s c) (gmul x (gmul s (f' x)))
    rw [ef x hx, gmul_add hs hc (sym_mul hx s1), gm_lc hs hx s1]⟩
theorem deg_zero : ∀ k : Nat, Deg k (fun _ => 0)
  | 0 => fun _ _ => rfl
  | k + 1 => ⟨0, fun _ => 0, sym_0, deg_zero k, fun x hx => by
    rw [gmul_zero hx]
    rfl⟩
theorem deg_succ : ∀ {k : Nat} {f : Int → Int}, Deg k f → Deg (k + 1) f
  | 0, f, h => ⟨0, fun _ => 0, sym_0, deg_zero 0, fun x hx => by
    rw [h x hx, gmul_zero hx]
    rfl⟩
  | k + 1, f, ⟨c, g, hc, hg, h⟩ => ⟨c, g, hc, deg_succ hg, h⟩
theorem deg_mono {k m : Nat} {f : Int → Int} (h : k ≤ m) (d : Deg k f) : Deg m f := by
  induction m with
  | zero =>
    have e : k = 0 := by omega
    exact e ▸ d
  | succ m ih =>
    by_cases e : k = m + 1
    · exact e ▸ d
    · exact deg_succ (ih (by omega))
theorem deg_const {v : Int} (hv : Sym v) : Deg 1 (fun _ => v) := ⟨v, fun _ => 0, hv, deg_zero 0, fun x hx => by
  rw [gmul_zero hx]
  exact (gadd_zero hv).symm⟩
theorem deg_lin {k : Nat} {g : Int → Int} {s : Int} (hs : Sym s) (hg : Deg k g) : Deg (k + 1) (fun x => gmul (g x) (gadd x s)) := by
  have h1 : Deg (k + 1) (fun x => gmul x (g x)) := ⟨0, g, sym_0, hg, fun x hx => (ga_zero (sym_mul hx (deg_sym hg x hx))).symm⟩
  refine deg_congr (deg_add h1 (deg_succ (deg_smul hs hg))) fun x hx => ?_
  have s1 := deg_sym hg x hx
  show gmul (g x) (gadd x s) = gadd (gmul x (g x)) (gmul s (g x))
  rw [gmul_add s1 hx hs, gmul_comm s1 hx, gmul_comm s1 hs]
/-- what is left when f's value at r is taken off -/
theorem deg_off : ∀ {k : Nat} {f : Int → Int} {r : Int}, Sym r → Deg (k + 1) f → ∃ g, Deg k g ∧ ∀ x, Sym x → f x = gadd (f r) (gmul (gadd x r) (g x))
  | 0, f, r, hr, ⟨c, h, hc, hh, ef⟩ => ⟨fun _ => 0, deg_zero 0, fun x hx => by
    rw [ef x hx, ef r hr, hh x hx, hh r hr, gmul_zero hx, gmul_zero hr, gmul_zero (sym_add hx hr), gadd_zero (sym_add hc sym_0)]⟩
  | k + 1, f, r, hr, ⟨c, h, hc, hh, ef⟩ => by
    obtain ⟨h', dh, eh⟩ := deg_off hr hh
    have shr := deg_sym hh r hr
    refine ⟨fun x => gadd (h r) (gmul x (h' x)), ⟨h r, h', shr, dh, fun _ _ => rfl⟩, fun x hx => ?_⟩
    have s' := deg_sym dh x hx
    have sd := sym_add hx hr
    have sxh := sym_mul hx s'
    have sw := sym_mul sd sxh
    show f x = gadd (f r) (gmul (gadd x r) (gadd (h r) (gmul x (h' x))))
    rw [ef x hx, ef r hr, eh x hx, gmul_add hx shr (sym_mul sd s'), gm_lc hx sd s', gmul_add sd shr sxh, gm_add hx hr shr,
      ga_e1 (sym_mul hx shr) (sym_mul hr shr) sw, ga_e2 hc (sym_mul hr shr) (sym_add (sym_mul hx shr) sw)]
theorem gmul_0 {a b : Int} (ha : Sym a) (hb : Sym b) (h : gmul a b = 0) (h0 : a ≠ 0) : b = 0 := sym2 (p := fun a b => gmul a b = 0 → a ≠ 0 → b = 0) (by decide +kernel) ha hb h h0
/-- as many roots as coefficients -/
theorem deg_roots : ∀ {k : Nat} {f : Int → Int} {rs : List Int}, Deg k f → rs.Nodup → rs.length = k → (∀ r ∈ rs, Sym r ∧ f r = 0) → ∀ x, Sym x → f x = 0
  | 0, f, _, h, _, _, _ => h
  | k + 1, f, [], h, _, hl, _ => by cases hl
  | k + 1, f, r :: rs, h, hn, hl, hr => fun x hx => by
    obtain ⟨sr, fr⟩ := hr r List.mem_cons_self
    obtain ⟨g, dg, eg⟩ := deg_off sr h
    rw [List.nodup_cons] at hn
    have hl' : rs.length = k := by
      rw [List.length_cons] at hl
      omega
    have z : ∀ q ∈ rs, Sym q ∧ g q = 0 := fun q hq => by
      obtain ⟨sq, fq⟩ := hr q (List.mem_cons_of_mem _ hq)
      have e := eg q sq
      have sg := deg_sym dg q sq
      rw [fq, fr, ga_zero (sym_mul (sym_add sq sr) sg)] at e
      exact ⟨sq, gmul_0 (sym_add sq sr) sg e.symm (gadd_ne sq sr fun y => hn.1 (y ▸ hq))⟩
    rw [eg x hx, fr, deg_roots dg hn.2 hl' z x hx, gmul_zero (sym_add hx sr)]
    rfl
/-! ### the form of Lagrange is such a polynomial -/
theorem deg_dskip {s : Int} : ∀ {ks : List Int} {m : Nat} {f : Int → Int}, (∀ k ∈ ks, Sym k) → Deg m f → Deg (m + ks.length) (fun a => dskip s a ks (f a))
  | [], m, f, _, h => h
  | k :: ks, m, f, hs, h => by
    have hk := hs k List.mem_cons_self
    have hh : ∀ x ∈ ks, Sym x := fun x hx => hs x (List.mem_cons_of_mem _ hx)
    rw [List.length_cons]
    by_cases e : k = s
    · refine deg_mono (by omega) (deg_congr (deg_dskip (s := s) hh h) fun a _ => ?_)
      show dskip s a ks (if k = s then f a else gmul (f a) (gadd a k)) = _
      rw [if_pos e]
    · refine deg_mono (by omega) (deg_congr (deg_dskip (s := s) hh (deg_lin hk h)) fun a _ => ?_)
      show dskip s a ks (if k = s then f a else gmul (f a) (gadd a k)) = _
      rw [if_neg e]
theorem deg_dskip1 {s : Int} : ∀ {ks : List Int} {m : Nat} {f : Int → Int}, (∀ k ∈ ks, Sym k) → s ∈ ks → Deg m f → Deg (m + (ks.length - 1)) (fun a => dskip s a ks (f a))
  | [], _, _, _, h, _ => nomatch h
  | k :: ks, m, f, hs, hmem, h => by
    have hk := hs k List.mem_cons_self
    have hh : ∀ x ∈ ks, Sym x := fun x hx => hs x (List.mem_cons_of_mem _ hx)
    rw [List.length_cons]
    by_cases e : k = s
    · refine deg_mono (by omega) (deg_congr (deg_dskip (s := s) hh h) fun a _ => ?_)
      show dskip s a ks (if k = s then f a else gmul (f a) (gadd a k)) = _
      rw [if_pos e]
    · have hin : s ∈ ks := by
        rcases List.mem_cons.mp hmem with z | z
        · exact absurd z.symm e
        · exact z
      have hpos : 0 < ks.length := List.length_pos_of_mem hin
      refine deg_mono (by omega) (deg_congr (deg_dskip1 (s := s) hh hin (deg_lin hk h)) fun a _ => ?_)
      show dskip s a ks (if k = s then f a else gmul (f a) (gadd a k)) = _
      rw [if_neg e]
theorem gdiv_mul1 {a b : Int} (ha : Sym a) (hb : Sym b) (h : b ≠ 0) : gdiv a b = gmul (gdiv 1 b) a := sym2 (p := fun a b => b ≠ 0 → gdiv a b = gmul (gdiv 1 b) a) (by decide +kernel) ha hb h
theorem deg_ltail {ks : List Int} (hs : ∀ k ∈ ks, Sym k) : ∀ {qs : Pts} {f : Int → Int}, (∀ p ∈ qs, p.1 ∈ ks ∧ Sym p.2) → Deg ks.length f → Deg ks.length (fun a => ltail a ks qs (f a))
  | [], _, _, h => h
  | (k, v) :: r, f, hq, h => by
    have hp := hq (k, v) List.mem_cons_self
    have hh : ∀ p ∈ r, p.1 ∈ ks ∧ Sym p.2 := fun x hx => hq x (List.mem_cons_of_mem _ hx)
    have sk := hs k hp.1
    have sD := dprod_sym sk hs sym_1
    have nD := dprod_ne sk hs sym_1 (by decide)
    have hpos : 0 < ks.length := List.length_pos_of_mem hp.1
    have d1 : Deg ks.length (fun a => dskip k a ks v) := by
      have z := deg_dskip1 (s := k) hs hp.1 (deg_const hp.2)
      exact deg_mono (by omega) z
    have d2 : Deg ks.length (fun a => gdiv (dskip k a ks v) (dprod k ks 1)) := deg_congr (deg_smul (sym_div sym_1 sD) d1) fun a ha => gdiv_mul1 (dskip_sym ha hs hp.2) sD nD
    exact deg_ltail (qs := r) hs hh (deg_add h d2)
theorem dskip_hit {s a : Int} (ha : Sym a) (hne : a ≠ s) : ∀ {ks : List Int} {r : Int}, (∀ k ∈ ks, Sym k) → a ∈ ks → Sym r → dskip s a ks r = 0
  | [], _, _, h, _ => nomatch h
  | k :: ks, r, hs, hmem, hr => by
    have hk := hs k List.mem_cons_self
    have hh : ∀ x ∈ ks, Sym x := fun x hx => hs x (List.mem_cons_of_mem _ hx)
    show dskip s a ks (if k = s then r else gmul r (gadd a k)) = 0
    by_cases e : k = a
    · subst e
      rw [if_neg hne, gadd_self hk, dskip_mul hk hh hr sym_0]
      exact gmul_zero (dskip_sym hk hh hr)
    · have hin : a ∈ ks := by
        rcases List.mem_cons.mp hmem with z | z
        · exact absurd z.symm e
        · exact z
      split
      · exact dskip_hit ha hne hh hin hr
      · exact dskip_hit ha hne hh hin (sym_mul hr (sym_add ha hk))
theorem gdm {a b : Int} (ha : Sym a) (hb : Sym b) (h : b ≠ 0) : gdiv (gmul b a) b = a := sym2 (p := fun a b => b ≠ 0 → gdiv (gmul b a) b = a) (by decide +kernel) ha hb h
theorem ltail_key {a : Int} {ks : List Int} (hs : ∀ k ∈ ks, Sym k) (ha : a ∈ ks) : ∀ {qs : Pts} {t : Int}, (ksV qs).Nodup → (∀ p ∈ qs, p.1 ∈ ks ∧ Sym p.2) → Sym t → ltail a ks qs t = gadd t ((qs.lookup a).getD 0)
  | [], t, _, _, ht => (gadd_zero ht).symm
  | (k, v) :: r, t, hn, hq, ht => by
    have sa := hs a ha
    have hp := hq (k, v) List.mem_cons_self
    have hh : ∀ p ∈ r, p.1 ∈ ks ∧ Sym p.2 := fun x hx => hq x (List.mem_cons_of_mem _ hx)
    have sk := hs k hp.1
    have sD := dprod_sym sk hs sym_1
    have nD := dprod_ne sk hs sym_1 (by decide)
    have hn' : k ∉ ksV r ∧ (ksV r).Nodup := List.nodup_cons.mp hn
    show ltail a ks r (gadd t (gdiv (dskip k a ks v) (dprod k ks 1))) = _
    by_cases e : a = k
    · subst e
      have e1 : dskip a a ks v = gmul (dprod a ks 1) v := by
        have z := dskip_mul (s := a) sk hs sym_1 hp.2 (ks := ks)
        rw [gm_one hp.2] at z
        rw [z, dskip_self]
      rw [e1, gdm hp.2 sD nD, ltail_key hs ha hn'.2 hh (sym_add ht hp.2), List.lookup_cons, beq_self_eq_true]
      have no : r.lookup a = none := by
        cases z : r.lookup a with
        | none => rfl
        | some w => exact absurd (List.mem_map.mpr ⟨_, lookup_mem z, rfl⟩) hn'.1
      rw [no]
      exact gadd_zero (sym_add ht hp.2)
    · rw [dskip_hit sa e hs ha hp.2, show gdiv 0 (dprod k ks 1) = 0 from if_pos rfl, gadd_zero ht, ltail_key hs ha hn'.2 hh ht, List.lookup_cons, beq_eq_false_iff_ne.mpr e]
theorem lagr_all {ps : Pts} {a : Int} (ok : PtsOk ps) (ha : Sym a) : lagr ps a = ltail a (ksV ps) ps 0 := by
  by_cases h : a ∈ ksV ps
  · have hq : ∀ p ∈ ps, p.1 ∈ ksV ps ∧ Sym p.2 := fun p hp => ⟨List.mem_map.mpr ⟨p, hp, rfl⟩, (ok.1 p hp).2⟩
    rw [ltail_key ok.ks h ok.2.1 hq sym_0]
    obtain ⟨p, hp, e⟩ := List.mem_map.mp h
    obtain ⟨i, hi⟩ := List.mem_iff_getElem?.mp hp
    have z := lookup_of ok.2.1 hi
    rw [e] at z
    unfold lagr
    rw [z]
    exact (ga_zero (ok.1 p hp).2).symm
  · exact lagr_tail ok ha h
theorem deg_lagr {ps : Pts} (ok : PtsOk ps) : Deg ps.length (lagr ps) := by
  have hq : ∀ p ∈ ps, p.1 ∈ ksV ps ∧ Sym p.2 := fun p hp => ⟨List.mem_map.mpr ⟨p, hp, rfl⟩, (ok.1 p hp).2⟩
  have z := deg_ltail ok.ks hq (deg_zero (ksV ps).length)
  have e : (ksV ps).length = ps.length := List.length_map _
  rw [e] at z
  exact deg_congr z fun a ha => lagr_all ok ha
/-- as many points of the form as it has lead back to it -/
theorem lagr_back {ps qs : Pts} (ok : PtsOk ps) (ok2 : PtsOk qs) (hl : ps.length ≤ qs.length) (h : ∀ q ∈ qs, q.2 = lagr ps q.1) {a : Int} (ha : Sym a) : lagr qs a = lagr ps a := by
  have d := deg_add (deg_lagr ok2) (deg_mono hl (deg_lagr ok))
  have z := deg_roots d ok2.2.1 (List.length_map _) (fun r hr => ?_) a ha
  · have s1 := lagr_sym ok2 ha
    have s2 := lagr_sym ok ha
    exact sym2 (p := fun x y => gadd x y = 0 → x = y) (by decide +kernel) s1 s2 z
  · obtain ⟨q, hq, rfl⟩ := List.mem_map.mp hr
    obtain ⟨i, hi⟩ := List.mem_iff_getElem?.mp hq
    have e := lookup_of ok2.2.1 hi
    have e1 : lagr qs q.1 = q.2 := by
      unfold lagr
      rw [e]
    refine ⟨(ok2.1 q hq).1, ?_⟩
    show gadd (lagr qs q.1) (lagr ps q.1) = 0
    rw [e1, h q hq]
    exact gadd_self (lagr_sym ok (ok2.1 q hq).1)
end Sq

/-! for i, x in enumerate(t), t a tuple -/
namespace Sq
open PySem PySem.Spec PyProof.Rows L2 Evl
def Itet (K : PySem.W.Frag) (a : Addr) : It :=
  ⟨fun i H => ∃ (xs : List V) (x : V), SqT K H a xs ∧ xs[i]? = some x, fun i H v H' => ∃ T x, v = .ref T ∧ H T = none ∧ H' = upd H T (.tup [.int (i : Nat), x]) ∧ ∀ xs, SqT K H a xs → xs[i]? = some x, fun i H => ∃ xs : List V, SqT K H a xs ∧ xs.length = i⟩
theorem turn_enumT {P : Program} {w : World} {K : PySem.W.Frag} {elts : List Expr} {kk : Nat} {tpos : Pos} (a e it : Addr) :
    Turn P w K (.Tuple elts kk tpos) (Itet K a) [e, it] e (fun i h => (∃ old, IsEnum h e it ((i : Nat) : Int) old) ∧ h.IsTupleIter it a i ∧ e ≠ it) where
  mem := by simp
  obj := fun i h ⟨⟨old, he⟩, ⟨o, ho, hc, hd⟩, _⟩ b hb => by
    have z : b = e ∨ b = it := by simpa using hb
    rcases z with rfl | rfl
    · exact ⟨_, he, fun v q => nomatch q⟩
    · exact ⟨o, ho, fun v q => by rw [hd] at q; cases q⟩
  keep := fun i h h' ⟨⟨old, he⟩, ⟨o, ho, r⟩, hne⟩ k => ⟨⟨old, k e (by simp) _ he⟩, ⟨o, k it (by simp) _ ho, r⟩, hne⟩
  item := by
    intro X hP hw hK hc i pins s σ H E I hf ⟨⟨old, he⟩, hit, hne⟩ ⟨xs, x, hq, hx⟩
    subst hP hw hK
    obtain ⟨its, rv, p, hz⟩ := I.tuple hq
    obtain ⟨u, hu, ru⟩ := rv.get hx
    have hel : e < s.heap.objs.size := Heap.lt_size he
    have hil : it < s.heap.objs.size := by obtain ⟨_, q, _⟩ := hit; exact Heap.lt_size q
    have hai : a ≠ it := fun z => by
      obtain ⟨o, ho, hc1, _⟩ := hit
      obtain ⟨o2, ho2, hc2, _⟩ := p
      rw [z, ho] at ho2
      cases ho2
      rw [hc1] at hc2
      exact absurd (Value.type.inj hc2) (by decide)
    have hae : a ≠ e := fun z => by
      obtain ⟨o2, ho2, hc2, _⟩ := p
      rw [z, he] at ho2
      cases ho2
      exact absurd (Value.type.inj hc2) (by decide)
    have D : Draws X.prog X.w X.A.in1 it [it, a] its.toArray.size (fun i v => its.toArray[i]? = some v) (fun i h => h.IsTupleIter it a i ∧ h.IsTuple a its.toArray) := Draws.tuple (A := X.A.in1) (I.ok.hd hc) it a hai its.toArray
    have eN : e ∉ [it, a] := by
      simp only [List.mem_cons, List.not_mem_nil, or_false, not_or]
      exact ⟨hne, fun z => hae z.symm⟩
    have hlt : i < its.toArray.size := by
      rw [List.size_toArray]
      exact (List.getElem?_eq_some_iff.mp hu).1
    refine wpAny_pyNext_enum_itemC D he ⟨hit, p⟩ hlt hne eN fun y h' tk hy ho hz' hT hsz hk => ?_
    have ey : y = u := by
      have z : its[i]? = some y := by simpa using hy
      rw [hu] at z
      exact (Option.some.inj z).symm
    subst ey
    refine ⟨_, rfl, wpAny_letOwnedTupleGo_enum (s := { s with heap := h', toks := tk + 1 }) ho fun h'' he' sb => ?_⟩
    have hT2 : h''.get? s.heap.objs.size = some { cls := .type "tuple", data := .seq #[.int i tk, y] } := (sb.2 _ (Nat.ne_of_gt hel)).trans hT
    have new : ObjOk X.prog X.w (upd H s.heap.objs.size (.tup [.int (i : Nat), x])) h'' s.heap.objs.size (.tup [.int (i : Nat), x]) :=
      ⟨by show 2 ≤ sizeLine; decide, [.int i tk, y], .cons ⟨_, rfl⟩ (.cons ru .nil), ⟨_, hT2, rfl, _, rfl⟩⟩
    have I1 : Inv X pins σ (upd H s.heap.objs.size (.tup [.int (i : Nat), x])) { s with heap := h'', toks := tk + 1 } :=
      I.turnedNew (ch := [e, it]) (fun b ob hb q => (sb.2 b (fun z => hb (by simp [z]))).trans (hk b ob (fun z => hb (by simp [z])) (fun z => hb (by simp [z])) q)) hf (Nat.le_refl _) new
    refine ⟨.ref s.heap.objs.size, _, I1, rfl, ⟨_, x, rfl, I.hok.fresh (Nat.le_refl _), rfl, fun ys hy => by rw [I.tuple_inj hy hq]; exact hx⟩, ⟨⟨y, ?_⟩, let ⟨o, q, r⟩ := hz'.1; ⟨o, (sb.2 it (Ne.symm hne)).trans q, r⟩, hne⟩, fun b hb => ?_⟩
    · have e1 : ((i + 1 : Nat) : Int) = (i : Int) + 1 := by omega
      rw [e1]
      exact he'
    · have hb' : b < s.heap.objs.size := by
        have z : b = e ∨ b = it := by simpa using hb
        rcases z with rfl | rfl <;> assumption
      rw [upd_ne (Nat.ne_of_lt hb')]
      exact (hf b hb).1
  done := by
    intro X hP hw hK hc i pins s σ H E I hf ⟨⟨old, he⟩, hit, hne⟩ ⟨xs, hq, hx⟩
    subst hP hw hK
    obtain ⟨its, rv, p, hz⟩ := I.tuple hq
    have hai : a ≠ it := fun z => by
      obtain ⟨o, ho, hc1, _⟩ := hit
      obtain ⟨o2, ho2, hc2, _⟩ := p
      rw [z, ho] at ho2
      cases ho2
      rw [hc1] at hc2
      exact absurd (Value.type.inj hc2) (by decide)
    have hlen : its.toArray.size = i := by rw [List.size_toArray, ← rv.length, hx]
    have D : Draws X.prog X.w X.A.in1 it [it, a] its.toArray.size (fun i v => its.toArray[i]? = some v) (fun i h => h.IsTupleIter it a i ∧ h.IsTuple a its.toArray) := Draws.tuple (A := X.A.in1) (I.ok.hd hc) it a hai its.toArray
    obtain ⟨f0, f1, f2, f3, f4, f5⟩ := hf it (by simp)
    exact next_end D he rfl ⟨hlen ▸ hit, p⟩ fun k' hk => ⟨rfl, I.turned (t' := s.toks) (fun b o hb q => hk b o hb q) f0 f1 f3 f4 f5⟩
  self := fun A i s Q E st h => let ⟨⟨_, he⟩, _⟩ := st; wpAny_pyIter_enum he h
def iEnumT (K : PySem.W.Frag) (ta : TA) : TI := fun σ H R => ta σ H fun vs H1 => ∃ a xs, vs = [.ref a] ∧ SqT K H1 a xs ∧ R (Itet K a) H1
theorem pi_enumT {X : Cx} {e : Expr} {ta : TA} {p pos tpos : Pos} {elts : List Expr} {kk : Nat} (hg : Gl X "enumerate") (hm : X.mg "enumerate" = none) (ha : PA X [e] ta) (hs : starEach [e] X.env = [(false, eval e X.env)] := by rfl) :
    PI X (.Tuple elts kk tpos) (.Call (.Name "enumerate" p) [e] [] pos) (iEnumT X.K ta) := by
  refine ⟨fun pins s σ H R I h => ?_⟩
  refine Call_ (ld_blt I hg hm boot_enumerate (PyProof.Rows.callWith_type1 (thn (ha.run pos pins s σ H _ I h) fun us s1 ⟨vs, H1, I1, r1, q1⟩ => ?_) hs rfl))
  obtain ⟨a, xs, ex, hq, q⟩ := q1
  subst ex
  obtain ⟨u, rfl, r⟩ := vals1 r1
  cases r
  obtain ⟨its, rv, pt, hz⟩ := I1.tuple hq
  refine enum1_begins (begins_tuple a its.toArray) (show s1.heap.IsTuple a its.toArray from pt) fun k' hE hI hsz hk => wpAny_pyIter_enum hE ?_
  have I2 : Inv X pins σ H1 { s1 with heap := k' } := I1.kept (t' := s1.toks) hk
  refine ⟨s1.heap.objs.size + 1, [s1.heap.objs.size + 1, s1.heap.objs.size], _, _, H1, rfl, I2, turn_enumT a (s1.heap.objs.size + 1) s1.heap.objs.size, ⟨⟨.none, hE⟩, ⟨_, hI, rfl, rfl⟩, Nat.succ_ne_self _⟩, fun b hb => ?_, q⟩
  have z : b = s1.heap.objs.size + 1 ∨ b = s1.heap.objs.size := by simpa using hb
  have hle : s1.heap.objs.size ≤ b := by
    rcases z with rfl | rfl
    · exact Nat.le_succ _
    · exact Nat.le_refl _
  exact I1.fpOk hle (I1.hok.fresh hle)
end Sq

/-! comprehensions over numbered tuples; promises of the decoding defs -/
namespace Sq
open PySem PySem.Spec PyProof.Rows L2 Evl
section
variable {K : PySem.W.Frag} {σ : L2.St} {H : Hp} {ta tb te : TE} {t : TT}
/-- [.. for i, x in enumerate(t) if ..] -/
theorem el_lcET {a : Addr} {xs : List V} {i j : Nat} {vs : List Nat} (f : Nat → Bool) (v : Nat → V) (h : Ev ta σ H (.ref a)) (hx : SqT K H a xs) (hz : xs.length ≤ 40000)
    (hw : ∀ x y, wipe (((wipe σ vs).set i (some x)).set j (some y)) vs = wipe σ vs)
    (ht : ∀ (n : Nat) (x : V) H1, Ex H H1 → xs[n]? = some x → EvT t (((wipe σ vs).set i (some (.int (n : Int)))).set j (some x)) H1 (f n))
    (he : ∀ (n : Nat) (x : V) H1, Ex H H1 → xs[n]? = some x → f n = true → Ev te (((wipe σ vs).set i (some (.int (n : Int)))).set j (some x)) H1 (v n)) :
    EvL (tLc (iEnumT K (tCons ta tNil)) (gTup K 2 (gCons (gName i) (gCons (gName j) gNil))) t te vs) σ H (given xs.length f v) := fun H0 e Q q => h H0 e _ fun H1 e1 => ⟨a, xs, rfl, ex_t (e.trans e1) hx, fun Dl hD => by
  have e01 := e.trans e1
  refine ⟨fun n m H' => m = xs.length - n ∧ n ≤ xs.length ∧ Cw H1 f v Dl n H', ⟨xs.length, by simp, Nat.zero_le _, hD, Ex.new hD, upd_same⟩, ?_⟩
  rintro n m H' ⟨rfl, hn, p⟩
  have hx' : SqT K H' a xs := ex_t (e01.trans p.2.1) hx
  by_cases hlt : n < xs.length
  · have hxn := List.getElem?_eq_getElem hlt
    refine .inr ⟨⟨xs, xs[n], hx', hxn⟩, Cw H1 f v Dl (n + 1), fun H2 p2 => ⟨xs.length - (n + 1), by omega, rfl, hlt, p2⟩, fun y H2 hy => ?_⟩
    obtain ⟨T, x, rfl, hT, rfl, hxx⟩ := hy
    have hx2 := hxx xs hx'
    have ne : T ≠ Dl := fun z => by
      rw [z, p.2.2] at hT
      cases hT
    have p2 : Cw H1 f v Dl n (upd H' T (.tup [.int (n : Nat), x])) := ⟨p.1, p.2.1.trans (Ex.new hT), by rw [upd_ne (Ne.symm ne)]; exact p.2.2⟩
    refine ⟨T, _, rfl, st_of upd_same, rfl, _, _, rfl, _, _, rfl, rfl, hw _ _, ?_⟩
    exact cw_turn p2 (by omega) (ht n x H1 e01 hx2) (fun hf => he n x H1 e01 hx2 hf)
  · have en : n = xs.length := by omega
    subst en
    exact .inl ⟨⟨xs, hx', rfl⟩, q Dl H' (fresh_back e1 p.1) (e1.trans p.2.1) p.2.2⟩⟩
end
/-! ### what is known of a block -/
/-- the entries of a received block: a symbol, or none -/
def entV (r : List (Option Int)) : List V := r.map fun o => match o with
  | some x => .int x
  | none => .non
theorem entV_get {r : List (Option Int)} {n : Nat} {x : V} (h : (entV r)[n]? = some x) : ∃ o, r[n]? = some o ∧ x = (match o with | some x => .int x | none => .non) := by
  unfold entV at h
  rw [List.getElem?_map] at h
  cases e : r[n]? with
  | none => rw [e] at h; cases h
  | some o =>
    rw [e] at h
    exact ⟨o, rfl, (Option.some.inj h).symm⟩
def knownOf (r : List (Option Int)) : List Nat := (List.range r.length).filter fun i => (r[i]?.join).isSome
def RecOk (r : List (Option Int)) : Prop := (∀ x, some x ∈ r → Sym x) ∧ 1 ≤ r.length ∧ r.length ≤ 16
theorem knownOf_mem {r : List (Option Int)} {i : Nat} : i ∈ knownOf r ↔ ∃ x, r[i]? = some (some x) := by
  unfold knownOf
  rw [List.mem_filter, List.mem_range]
  constructor
  · rintro ⟨h1, h2⟩
    cases e : r[i]? with
    | none => rw [e] at h2; cases h2
    | some o =>
      rw [e] at h2
      cases o with
      | none => cases h2
      | some x => exact ⟨x, rfl⟩
  · rintro ⟨x, h⟩
    exact ⟨(List.getElem?_eq_some_iff.mp h).1, by rw [h]; rfl⟩
theorem knownOf_nd (r : List (Option Int)) : (knownOf r).Nodup := List.Nodup.sublist List.filter_sublist List.nodup_range
theorem knownOf_len (r : List (Option Int)) : (knownOf r).length ≤ r.length := by
  have h := List.length_filter_le (fun i => (r[i]?.join).isSome) (List.range r.length)
  rw [List.length_range] at h
  exact h
def natV (l : List Nat) : List V := l.map fun (i : Nat) => V.int (i : Int)
theorem given_known (r : List (Option Int)) : given (entV r).length (fun i => (r[i]?.join).isSome) (fun i => V.int (i : Int)) = natV (knownOf r) := by
  unfold given natV knownOf entV
  rw [List.length_map]
/-- the points that the known entries at some places make -/
def ptsAt (r : List (Option Int)) (l : List Nat) : Pts := l.map fun (i : Nat) => ((i : Int), (r[i]?.join).getD 0)
def spKnown (K : PySem.W.Frag) : Sp := fun vs H Q _ => ∃ (t : Addr) (r : List (Option Int)), vs = [.ref t] ∧ SqT K H t (entV r) ∧ r.length ≤ 16 ∧ RetL (natV (knownOf r)) H Q
theorem spl_known {K : PySem.W.Frag} {H : Hp} {t : Addr} {r : List (Option Int)} (ht : SqT K H t (entV r)) (hl : r.length ≤ 16) : SpL (spKnown K) [.ref t] H (natV (knownOf r)) := fun H1 e _ q _ => ⟨t, r, rfl, ex_t e ht, hl, q⟩
end Sq
namespace Sq
open PySem PySem.Spec PyProof.Rows L2 Evl
section
variable {K : PySem.W.Frag} {σ : L2.St} {H : Hp} {td tk tv te : TE} {x : V}
theorem rv_notN : RV (fun x y H Q => y = .non ∧ Q (.bl (!decide (x = .non))) H) x .non H (.bl (!decide (x = .non))) := fun H1 _ Q q => ⟨rfl, q H1 (Ex.refl H1)⟩
/-- {k: v for x in t}, keys that differ -/
theorem dc_overT {j : Nat} {vs : List Nat} {a : Addr} {xs : List V} (kf : Nat → Key) (vf : Nat → V) (h : Ev td σ H (.ref a)) (hx : SqT K H a xs) (hz : xs.length < 100000) (hn : ∀ i i', i < xs.length → i' < xs.length → kf i = kf i' → i = i')
    (hw : ∀ x, wipe ((wipe σ vs).set j (some x)) vs = wipe σ vs) (hk : ∀ i x H1, Ex H H1 → xs[i]? = some x → Ev tk ((wipe σ vs).set j (some x)) H1 (kV (kf i))) (hv : ∀ i x H1, Ex H H1 → xs[i]? = some x → Ev tv ((wipe σ vs).set j (some x)) H1 (vf i)) :
    EvDc (tDc (iTup K td) (gName j) tYes tk tv vs) σ H ((List.range xs.length).map fun i => (kf i, vf i)) := fun H0 e0 Q q => h H0 e0 _ fun H1 e1 => ⟨a, rfl, ⟨xs, ex_t (e0.trans e1) hx⟩, fun Dd hD =>
  dc_tup (xs := xs) (fun i H' => Ex H1 H' ∧ H' Dd = some (.dK ((List.range i).map fun i => (kf i, vf i)))) ⟨Ex.new hD, upd_same⟩ (fun i H' _ p => ex_t ((e0.trans e1).trans p.1) hx) (fun i x H' hi p => ⟨hw x, tYes_y (by
    have e2 := (e0.trans e1).trans p.1
    have hlt := (List.getElem?_eq_some_iff.mp hi).1
    refine hk i x H' e2 hi H' (Ex.refl H') _ fun H3 e3 => hv i x H3 (e2.trans e3) hi H3 (Ex.refl H3) _ fun H4 e4 => ⟨_, kf i, rfl, e4 _ _ (e3 _ _ p.2), ?_, Ex.mut ((p.1.trans e3).trans e4) hD, ?_⟩
    · rw [List.length_map, List.length_range]
      exact sz_lt (by omega)
    · have hnew : valV ((List.range i).map fun i => (kf i, vf i)) (kf i) = none := valV_none_of fun z => by
        rw [List.map_map] at z
        obtain ⟨m, hm, em⟩ := List.mem_map.mp z
        rw [List.mem_range] at hm
        have := hn m i (by omega) hlt em
        omega
      rw [upd_same, putK_new _ hnew, List.range_succ, List.map_append]
      rfl)⟩) (fun H' p => q Dd H' (fresh_back e1 hD) (e1.trans p.1) p.2)⟩
end
theorem natV_get {l : List Nat} {n : Nat} {x : V} (h : (natV l)[n]? = some x) : ∃ i, l[n]? = some i ∧ x = .int (i : Int) := by
  unfold natV at h
  rw [List.getElem?_map] at h
  cases e : l[n]? with
  | none => rw [e] at h; cases h
  | some i => rw [e] at h; exact ⟨i, rfl, (Option.some.inj h).symm⟩
theorem natV_len (l : List Nat) : (natV l).length = l.length := List.length_map _
theorem entV_at {r : List (Option Int)} {i : Nat} {x : Int} (h : r[i]? = some (some x)) : atI (entV r) (i : Int) = some (.int x) := by
  refine atI_nat ?_
  unfold entV
  rw [List.getElem?_map, h]
  rfl
theorem entV_len (r : List (Option Int)) : (entV r).length = r.length := List.length_map _
def KnownAt (r : List (Option Int)) (l : List Nat) : Prop := l.Nodup ∧ (∀ i ∈ l, ∃ x, r[i]? = some (some x)) ∧ l.length ≤ 16
theorem ptsAt_ok {r : List (Option Int)} {l : List Nat} (ok : RecOk r) (h : KnownAt r l) : PtsOk (ptsAt r l) := by
  have hlt : ∀ i ∈ l, i < r.length := fun i hi => let ⟨x, e⟩ := h.2.1 i hi; (List.getElem?_eq_some_iff.mp e).1
  refine ⟨fun p hp => ?_, ?_, ?_⟩
  · obtain ⟨i, hi, rfl⟩ := List.mem_map.mp hp
    obtain ⟨x, e⟩ := h.2.1 i hi
    have := hlt i hi
    refine ⟨⟨by show (0 : Int) ≤ (i : Int); omega, by show (i : Int) ≤ 15; have := ok.2.2; omega⟩, ?_⟩
    show Sym ((r[i]?.join).getD 0)
    rw [e]
    exact ok.1 x (List.mem_of_getElem? e)
  · have e : ksV (ptsAt r l) = l.map fun (i : Nat) => (i : Int) := by
      unfold ksV ptsAt
      rw [List.map_map]
      rfl
    rw [e]
    have n := h.1
    unfold List.Nodup at n ⊢
    rw [List.pairwise_map]
    exact n.imp fun hab z => hab (Int.ofNat.inj z)
  · unfold ptsAt
    rw [List.length_map]
    exact h.2.2
theorem kvP_ptsAt (r : List (Option Int)) (l : List Nat) : kvP (ptsAt r l) = (List.range l.length).map fun n => (Sum.inl ((l.getD n 0 : Nat) : Int), V.int ((r[l.getD n 0]?.join).getD 0)) := by
  refine List.ext_getElem? fun n => ?_
  unfold kvP ptsAt
  rw [List.getElem?_map, List.getElem?_map, List.getElem?_map]
  by_cases hn : n < l.length
  · rw [List.getElem?_range hn, List.getElem?_eq_getElem hn]
    simp [List.getD_eq_getElem?_getD, List.getElem?_eq_getElem hn]
  · rw [List.getElem?_eq_none (by omega), List.getElem?_eq_none (by rw [List.length_range]; omega)]
    rfl
def spThrough (K : PySem.W.Frag) : Sp := fun vs H Q _ => ∃ (e t : Addr) (r : List (Option Int)) (l : List Nat), vs = [.ref e, .ref t] ∧ SqT K H e (natV l) ∧ SqT K H t (entV r) ∧ RecOk r ∧ KnownAt r l ∧ RetL ((lagrs (ptsAt r l) r.length).map V.int) H Q
def spSame (K : PySem.W.Frag) : Sp := fun vs H Q _ => ∃ (v t : Addr) (r : List (Option Int)) (ws : List Int), vs = [.ref v, .ref t] ∧ SqL K H v (ws.map V.int) ∧ SqT K H t (entV r) ∧ RecOk r ∧ (∀ (i : Nat) (x : Int), r[i]? = some (some x) → ws[i]? = some x) ∧ RetV (.int 0) H Q
def spRad (K : PySem.W.Frag) : Sp := fun vs H Q _ => ∃ (k : Addr) (l : List Nat) (d : Int), vs = [.ref k, .int d] ∧ SqL K H k (natV l) ∧ 0 ≤ d ∧ d ≤ l.length ∧ l.length ≤ 16 ∧ RetV (.int (((l.length : Int) - d).fdiv 2)) H Q
def spReqRec (K : PySem.W.Frag) (Pt : Addr) : Sp := fun vs H Q _ => ∃ (t : Addr) (r : List (Option Int)) (c : Int), vs = [.ref t, .int c] ∧ SqT K H t (entV r) ∧ H Pt = some (TabF Pt) ∧ RecOk r ∧ 0 ≤ c ∧ c < r.length ∧ RetV .non H Q
end Sq

/-! name = {..} on one line, the name a local -/
namespace Sq
open PySem PySem.Spec PyProof.Rows L2 Evl
section
variable {X : Cx}
theorem sw_trueD {kx vx : Expr} {gs : List Comprehension} {scope : Scope} {pos py : Pos} {y : Str} {l : Nat} {env : Env} (hk : env.scope.kind = .function) (hy : env.scope.names.lookup y = some .local) (hl : (py.line == pos.line) = true)
    (ha : (scope.names.any fun (n, k) => n == y && (k == .local || k == .cell)) = false) : swapsWith (.DictComp kx vx gs scope pos) (some (.Name y py)) l env = pure true := by
  have k1 : env.kindOf y = some .local := hy
  have k2 : env.blockKind = .function := by
    unfold Env.blockKind
    rw [hk]
    rfl
  unfold swapsWith
  simp only [k2, k1, ha, Expr.pos, hl]
  rfl
theorem ps_setDc {i : Nat} {y : Str} {py : Pos} {kx vx tg iter : Expr} {ifs : List Expr} {scope : Scope} {own : List (Str × Nat)} {pos spos : Pos} {wi : TI} {g : TG} {tt : TT} {tk tv : TE} (hc : X.calm = true) (hN : X.N.Nodup) (hy : X.N[i]? = some y) (hyl : X.env.scope.names.lookup y = some .local)
    (hsw : swapsWith (.DictComp kx vx [⟨tg, iter, ifs, 0⟩] scope pos) (some (.Name y py)) spos.line X.env = pure true) (hi : PI X tg iter wi) (ok : BlkOk X.N X.env.scope scope own)
    (hg : ∀ (s : Shared) (H : Hp) (C : Addr) (cl : List (Str × Addr)) (fp : List Addr), PG (X.blk s H scope (compEnvC scope cl C X.env) fp) tg g)
    (ht : ∀ (s : Shared) (H : Hp) (C : Addr) (cl : List (Str × Addr)) (fp : List Addr), PTs (X.blk s H scope (compEnvC scope cl C X.env) fp) ifs tt)
    (hk : ∀ (s : Shared) (H : Hp) (C : Addr) (cl : List (Str × Addr)) (fp : List Addr), PE (X.blk s H scope (compEnvC scope cl C X.env) fp) kx tk)
    (he : ∀ (s : Shared) (H : Hp) (C : Addr) (cl : List (Str × Addr)) (fp : List Addr), PE (X.blk s H scope (compEnvC scope cl C X.env) fp) vx tv) (hs : ∀ x, foldedSetIterable iter X.env x = pure x := by intro _; rfl) :
    PS X (.Assign [.Name y py] (.DictComp kx vx [⟨tg, iter, ifs, 0⟩] scope pos) spos) (tAsg (tDc wi g tt tk tv (own.map (·.2))) (gName i)) := by
  refine ⟨fun pins s σ H D I h => ?_⟩
  rw [exec_Assign_Name_used _ _ _ _ hsw]
  refine wpAny_bind (wpAny_standAt (wpAny_bind ?_))
  show wpAny _ X.A (comprehension (.DictComp kx vx [⟨tg, iter, ifs, 0⟩] scope pos) scope X.env (firstIterPos [⟨tg, iter, ifs, 0⟩] pos) newDict false (eval iter X.env) (some (assign (.Name y py) X.env)) >>= fun _ => pure ()) _ _ s
  have h : tDc wi g tt tk tv (own.map (·.2)) σ H (fun x H1 => gName i x σ H1 D.nx) := h
  refine wpAny_bind (thn (dc_core (Qf := fun _ s' => SP X pins D .next s') hc hN I hi ok hg ht hk he hs h fun L C s' m H' I' q hn f => ?_) fun _ s' hq => wpAny_pure (wpAny_pure hq))
  show wpAny _ _ (assign (.Name y py) X.env (.ref L)) _ _ _
  refine wpAny_assign_Name (store_ok2 (v := V.ref L) I' hN hy (.inl hyl) rfl (fun s2 I2 ⟨a, sb, ha⟩ => ?_) (.inr hyl))
  obtain ⟨f0, f1, f2, f3, f4, f5⟩ := f
  have haC : C ≠ a := by
    rcases ha with z | z
    · rw [z]
      exact f1
    · exact fun e => f4 y a z e.symm
  exact ⟨m, hn.sameBut sb haC, fun h3 sb3 => ⟨_, H', I2.turned (t' := s2.toks) (fun b o hb e => (sb3.2 b hb).trans e) f0 f1 f3 f4 f5, q⟩⟩
end
end Sq
namespace Sq
open PySem PySem.Spec PyProof.Rows L2 Evl
section
variable {K : PySem.W.Frag} {σ : L2.St} {H : Hp} {te : TE} {ta : TA} {D : Ends} {tu tz : TS}
/-- for x in combinations(l, r) -/
theorem q_forC {j : Nat} {a : Addr} {xs : List V} {r : Nat} {cs : List (List Nat)} (h : EvA ta σ H [.ref a, .int (r : Int)]) (hx : SqL K H a xs) (hr : r < 1000) (hz : xs.length ≤ 1000) (C : CombSeq xs.length r cs) (Pv : Nat → L2.St → Hp → Prop) (h0 : ∀ H1, Ex H H1 → Pv 0 σ H1)
    (hs : ∀ i ix T σ' H', cs[i]? = some ix → Pv i σ' H' → H' T = none → tu { D with nx := Pv (i + 1), ct := Pv (i + 1), bk := tz D } (σ'.set j (some (.ref T))) (upd H' T (.tup (pickV xs ix)))) (hd : ∀ σ' H', Pv cs.length σ' H' → tz D σ' H') : tSeq (tFor (iComb K ta) (gName j) tu) tz D σ H := by
  refine h H (Ex.refl H) _ fun H1 e => ⟨a, xs, r, rfl, ex_l e hx, hr, hz, cs, C, fun i m σ' H' => m = cs.length - i ∧ i ≤ cs.length ∧ Pv i σ' H', ⟨cs.length, by simp, Nat.zero_le _, h0 H1 e⟩, ?_⟩
  rintro i m σ' H' ⟨rfl, hi, p⟩
  by_cases hlt : i < cs.length
  · refine .inr ⟨hlt, Pv (i + 1), fun σ2 H2 p2 => ⟨cs.length - (i + 1), by omega, rfl, hlt, p2⟩, fun x H2 y => ?_⟩
    obtain ⟨T, ix, rfl, hix, hT, rfl⟩ := y
    exact hs i ix T σ' H' hix p hT
  · have ei : i = cs.length := by omega
    subst ei
    exact .inl ⟨Nat.le_refl _, hd _ _ p⟩
theorem comb_0 (n : Nat) : CombSeq n 0 [[]] where
  none := fun h => absurd h (Nat.not_lt_zero _)
  first := fun _ => rfl
  next := fun i x h => by
    match i, h with
    | 0, h =>
      cases h
      rfl
  len := fun x hx => by
    rw [List.mem_singleton.mp hx]
    exact Nat.zero_le _
/-- [.. for x in () for ..] -/
theorem el_lc2nil {td : TE} {g g1 : TG} {tt tt1 : TT} {wi1 : TI} {vs vs1 : List Nat} {a : Addr} (h : Ev td σ H (.ref a)) (hx : SqT K H a []) : EvL (tLc2 (iTup K td) g tt wi1 g1 tt1 te vs vs1) σ H [] := fun H0 e Q q =>
  h H0 e _ fun H1 e1 => ⟨a, rfl, ⟨[], ex_t (e.trans e1) hx⟩, fun Dl hD => ⟨fun i m H' => i = 0 ∧ H' = upd H1 Dl (.lst []), ⟨0, rfl, rfl⟩, fun i m H' ⟨hi, hH⟩ => by
    subst hH
    have eN : Ex H1 (upd H1 Dl (.lst [])) := Ex.new hD
    exact .inl ⟨⟨[], ex_t ((e.trans e1).trans eN) hx, Nat.zero_le _⟩, q Dl _ (fresh_back e1 hD) (e1.trans eN) upd_same⟩⟩⟩
end
/-- the choices of none of the pairs: what is known, as it is -/
def spWithout (K : PySem.W.Frag) : Sp := fun vs H Q _ => ∃ (k p : Addr) (l : List Nat) (ps : List V), vs = [.ref k, .ref p, .int 0] ∧ SqL K H k (natV l) ∧ SqL K H p ps ∧ l.length ≤ 16 ∧ ps.length ≤ 16 ∧
  ∀ c q H', H c = none → Ex H H' → H' c = some (.lst [.ref q]) → H' q = some (.lst (natV l)) → Q (.ref c) H'
end Sq

/-! decoding a block of which as many symbols are known as it has data -/
namespace Sq
open PySem PySem.Spec PyProof.Rows L2 Evl
theorem rg_two {n : Nat} (h : n ≤ 16) : RgC 0 (n : Int) 2 ((n + 1) / 2) := by
  have z : ∀ m : Fin 17, ((2 : Int) ≠ 0 ∧ (2 : Int).natAbs < 1073741824 ∧ Builtin.Range.small 0 ((m.val : Nat) : Int) 2 = true ∧ Builtin.Range.rangeSize 0 ((m.val : Nat) : Int) 2 = (m.val + 1) / 2) := by decide +kernel
  exact z ⟨n, by omega⟩
section
variable {K : PySem.W.Frag} {σ : L2.St} {H : Hp} {te td : TE} {ta : TA} {D : Ends} {tu tz : TS} {g : TG}
/-- a new list of one address, what stands there told -/
def EvOne (te : TE) (σ : L2.St) (H : Hp) (P : Addr → Hp → Prop) : Prop := ∀ H1, Ex H H1 → ∀ Q : VK, (∀ c q H2, H1 c = none → Ex H1 H2 → H2 c = some (.lst [.ref q]) → P q H2 → Q (.ref c) H2) → te σ H1 Q
theorem lp_rng3 {j : Nat} {vs : List Nat} {i jj c : Int} {n : Nat} (h : EvA ta σ H [.int i, .int jj, .int c]) (hR : RgC i jj c n) (hn : n ≤ 40000) (hw : ∀ x, wipe ((wipe σ vs).set j (some x)) vs = wipe σ vs)
    (he : ∀ (m : Nat) H1, Ex H H1 → m < n → ∃ ys, EvL te ((wipe σ vs).set j (some (.int (i + (m : Nat) * c)))) H1 ys) : EvLP (tLc (iRng3 ta) (gName j) tYes te vs) σ H (fun xs => xs.length = n) := fun H0 e Q q => h H0 e _ fun H1 e1 => ⟨i, jj, c, n, rfl, hR, fun Dl hD => by
  refine ⟨fun m k H' => k = n - m ∧ m ≤ n ∧ Ex H1 H' ∧ ∃ xs : List V, H' Dl = some (.lst xs) ∧ xs.length = m, ⟨n, by simp, Nat.zero_le _, Ex.new hD, [], upd_same, rfl⟩, ?_⟩
  rintro m k H' ⟨rfl, hm, e2, xs, hx, hl⟩
  by_cases hlt : m < n
  · refine .inr ⟨hlt, fun H2 => Ex H1 H2 ∧ ∃ xs : List V, H2 Dl = some (.lst xs) ∧ xs.length = m + 1, fun H2 p2 => ⟨n - (m + 1), by omega, rfl, hlt, p2⟩, fun x H2 y => ?_⟩
    obtain ⟨rfl, rfl⟩ := y
    obtain ⟨ys, hy⟩ := he m _ ((e.trans e1).trans e2) hlt
    exact ⟨hw _, tYes_y (hy _ (Ex.refl _) _ fun p H3 hp e3 h3 => ⟨xs, e3 _ _ hx, sz_lt (by omega), Ex.mut (e2.trans e3) hD, _, upd_same, by rw [List.length_append, hl]; rfl⟩)⟩
  · have em : m = n := by omega
    exact .inl ⟨by show n ≤ m; omega, q xs Dl H' (hl.trans em) (fresh_back e1 hD) (e1.trans e2) hx⟩⟩
theorem lc_one {j : Nat} {vs : List Nat} {ys zs : List V} (h : EvOne td σ H fun q H' => H' q = some (.lst ys)) (hw : ∀ x, wipe ((wipe σ vs).set j (some x)) vs = wipe σ vs)
    (he : ∀ q H1, Ex H H1 → SqL K H1 q ys → EvU te ((wipe σ vs).set j (some (.ref q))) H1 zs) : EvOne (tLc (iList K td) (gName j) tYes te vs) σ H fun q H' => H' q = some (.tup zs) := fun H0 e Q k =>
  h H0 e _ fun c q H2 hc e2 h2 hq => ⟨c, rfl, ⟨[.ref q], sq_of h2⟩, fun Dl hD =>
    lc_list (xs := [.ref q]) (fun i H' => Ex H2 H' ∧ ((i = 0 ∧ H' Dl = some (.lst [])) ∨ (i = 1 ∧ ∃ t, H' Dl = some (.lst [.ref t]) ∧ H' t = some (.tup zs)))) ⟨Ex.new hD, .inl ⟨rfl, upd_same⟩⟩ (fun i H' _ p => sq_of (p.1 _ _ h2)) (fun i x H' hi p => by
      obtain ⟨e3, p⟩ := p
      obtain ⟨rfl, rfl⟩ : i = 0 ∧ x = .ref q := by
        match i, hi with
        | 0, hi => cases hi; exact ⟨rfl, rfl⟩
      have hD2 : H' Dl = some (.lst []) := by
        rcases p with ⟨_, z⟩ | ⟨z, _⟩
        · exact z
        · cases z
      exact ⟨hw _, tYes_y (he q H' ((e.trans e2).trans e3) (sq_of (e3 _ _ hq)) H' (Ex.refl H') _ fun t H4 ht e4 h4 => ⟨[], e4 _ _ hD2, by decide, Ex.mut (e3.trans e4) hD, .inr ⟨rfl, t, upd_same, by
        rw [upd_ne (fun z => by rw [z, hD2] at ht; cases ht)]
        exact h4⟩⟩)⟩) (fun H' p => by
      obtain ⟨e3, p⟩ := p
      rcases p with ⟨z, _⟩ | ⟨_, t, h3, h4⟩
      · cases z
      · exact k Dl t H' (fresh_back e2 hD) (e2.trans e3) h3 h4)⟩
theorem q_forOne {P : Addr → Hp → Prop} (h : EvOne td σ H P) (k : ∀ c q H1, Ex H H1 → H1 c = some (.lst [.ref q]) → P q H1 → tSeq (tFor (iList K (tC (.ref c))) g tu) tz D σ H1) : tSeq (tFor (iList K td) g tu) tz D σ H := h H (Ex.refl H) _ fun c q H1 _ e h1 hp => k c q H1 e h1 hp
theorem eone_call {sp : Sp} {vs : List V} {P : Addr → Hp → Prop} (h : EvA ta σ H vs) (hs : ∀ H1, Ex H H1 → ∀ Q : VK, (∀ c q H2, H1 c = none → Ex H1 H2 → H2 c = some (.lst [.ref q]) → P q H2 → Q (.ref c) H2) → ∀ E : XK, sp vs H1 Q E) : EvOne (tCall sp [] E0 ta) σ H P := fun H1 e Q q =>
  h H1 e _ fun H2 e2 => by
    show sp (vs ++ []) H2 Q E0
    rw [List.append_nil]
    exact hs H2 (e.trans e2) Q (fun c a H3 hc e3 h3 h4 => q c a H3 (fresh_back e2 hc) (e2.trans e3) h3 h4) E0
theorem s_retOne {P : Addr → Hp → Prop} (h : EvOne te σ H P) (k : ∀ c q H1, H c = none → Ex H H1 → H1 c = some (.lst [.ref q]) → P q H1 → D.rt (.ref c) H1) : tRet te D σ H := h H (Ex.refl H) _ k
end
def spCover (K : PySem.W.Frag) : Sp := fun vs H Q _ => ∃ (k : Addr) (l : List Nat), vs = [.ref k, .int (l.length : Int)] ∧ SqL K H k (natV l) ∧ l.length ≤ 16 ∧ ∀ c q H', H c = none → Ex H H' → H' c = some (.lst [.ref q]) → H' q = some (.tup (natV l)) → Q (.ref c) H'
/-- what is known agrees with the block of ds -/
def Agrees (r : List (Option Int)) (ds : List Int) : Prop := ∀ (i : Nat) (x : Int), r[i]? = some (some x) → lagr (enumP 0 ds) (i : Int) = x
def spDec (K : PySem.W.Frag) (Pt : Addr) : Sp := fun vs H Q _ => ∃ (t : Addr) (r : List (Option Int)) (c : Int) (ds : List Int), vs = [.ref t, .int c] ∧ SqT K H t (entV r) ∧ H Pt = some (TabF Pt) ∧ RecOk r ∧ 0 ≤ c ∧ c < r.length ∧ (ds.length : Int) = r.length - c ∧ (∀ x ∈ ds, Sym x) ∧ (knownOf r).length = ds.length ∧ Agrees r ds ∧ RetU (ds.map V.int) H Q
theorem back_block {r : List (Option Int)} {ds : List Int} (ok : RecOk r) (hs : ∀ x ∈ ds, Sym x) (hl : ds.length ≤ r.length) (hk : (knownOf r).length = ds.length) (ag : Agrees r ds) : lagrs (ptsAt r (knownOf r)) r.length = blockOf ds r.length := by
  have kn : KnownAt r (knownOf r) := ⟨knownOf_nd r, fun i hi => knownOf_mem.mp hi, by have := ok.2.2; omega⟩
  have o1 := enumP_ok hs (by have := ok.2.2; omega)
  have o2 := ptsAt_ok ok kn
  unfold blockOf lagrs
  refine List.map_congr_left fun i hi => ?_
  rw [List.mem_range] at hi
  refine lagr_back o1 o2 ?_ (fun q hq => ?_) ⟨by omega, by have := ok.2.2; omega⟩
  · unfold ptsAt
    rw [enumP_len, List.length_map, hk]
    exact Nat.le_refl _
  · obtain ⟨m, hm, rfl⟩ := List.mem_map.mp hq
    obtain ⟨x, hx⟩ := knownOf_mem.mp hm
    show (r[m]?.join).getD 0 = lagr (enumP 0 ds) (m : Int)
    rw [hx, ag m x hx]
    rfl
end Sq
namespace Sq
open PySem PySem.Spec PyProof.Rows L2 Evl
theorem q_asgLP {σ : L2.St} {H : Hp} {te : TE} {D : Ends} {tz : TS} {i : Nat} {P : List V → Prop} (h : EvLP te σ H P) (k : ∀ xs a H1, P xs → H a = none → Ex H H1 → H1 a = some (.lst xs) → tz D (σ.set i (some (.ref a))) H1) : tSeq (tAsg te (gName i)) tz D σ H := h H (Ex.refl H) _ fun xs a H1 hP ha e h1 => k xs a H1 hP ha e h1
theorem et_chain {σ : L2.St} {H : Hp} {ta tb tc : TE} {r r' : R2} {x y z : V} {k l : Bool} (ha : Ev ta σ H x) (hb : Ev tb σ H y) (h1 : RV r x y H (.bl k)) (hc : k = true → Ev tc σ H z) (h2 : k = true → RV r' y z H (.bl l)) : EvT (tTest (tChain r r' ta tb tc)) σ H (k && l) := et_test (ev_chain ha hb h1 hc h2)
theorem eltG_ent {X : Cx} {scope : Scope} {x : Str} {p1 p2 p3 p4 p5 p6 p7 : Pos} {j} (R : RawFn1 X.prog X.w X.K X.mg X.base "is_symbol" 2 goodSym) (hD : X.A.depth + 1 + 2 < recursionLimit) (hk : scope.kind = .function) (hf : scope.names.lookup ("is_symbol" : Str) = some .globalImplicit) (hx : scope.names.lookup x = some .local) (hd : (("is_symbol" : Str) == ("__debug__" : Str)) = false) (hdx : (x == ("__debug__" : Str)) = false) :
    EltG X scope x (.BoolOp .Or [.Compare (.Name x p1) [.Is] [.Constant .none j p2] p3, .Call (.Name "is_symbol" p4) [.Name x p5] [] p6] p7) goodEnt := fun y u b hg r cenv m hs hgl hbl hm => by
  subst hs
  obtain ⟨fl, rfl⟩ := hg
  have F : FnEnv cenv := ⟨hk, hgl, hbl⟩
  have e : (u == Value.none) = decide (y = .non) := by
    cases y with
    | non => cases (show u = Value.none from r); rfl
    | bl b => cases (show u = Value.bool b from r); rfl
    | int i => obtain ⟨t, q⟩ := (show ∃ t, u = Value.int i t from r); subst q; rfl
    | str s => obtain ⟨t, q⟩ := (show ∃ t, u = Value.str s t from r); subst q; rfl
    | _ => cases fl
  exact raw_or gstT (e ▸ raw_isNone (raw_loc F hx hm hdx)) (fun _ => raw_callF R hD ⟨fl, rfl⟩ r F hf hx hm hd hdx)
end Sq

/-! blocks of sums, of products, of more data: by the polynomial that fits -/
namespace Sq
open PySem PySem.Spec PyProof.Rows L2 Evl
theorem gadd_eq0 {a b : Int} (ha : Sym a) (hb : Sym b) (h : gadd a b = 0) : a = b := sym2 (p := fun a b => gadd a b = 0 → a = b) (by decide +kernel) ha hb h
/-- what fits the data and has no more coefficients is the form -/
theorem lagr_eq {ds : List Int} {f : Int → Int} (hs : ∀ x ∈ ds, Sym x) (hl : ds.length ≤ 16) (hf : Deg ds.length f) (h : ∀ (i : Nat) (x : Int), ds[i]? = some x → f (i : Int) = x) {a : Int} (ha : Sym a) : lagr (enumP 0 ds) a = f a := by
  have ok := enumP_ok hs hl
  have d1 := deg_lagr ok
  rw [enumP_len] at d1
  refine gadd_eq0 (lagr_sym ok ha) (deg_sym hf a ha) (deg_roots (deg_add d1 hf) (enumP_nd 0 ds) (ksV_len ds) (fun r hr => ?_) a ha)
  obtain ⟨i, hi⟩ := List.mem_iff_getElem?.mp hr
  have hlt : i < ds.length := by
    have z := (List.getElem?_eq_some_iff.mp hi).1
    rw [ksV_len] at z
    exact z
  rw [ksV_get hlt] at hi
  cases hi
  have hx := List.getElem?_eq_getElem hlt
  refine ⟨⟨by omega, by omega⟩, ?_⟩
  show gadd (lagr (enumP 0 ds) (i : Int)) (f (i : Int)) = 0
  rw [lagr_at hx, h i _ hx]
  exact gadd_self (hs _ (List.getElem_mem hlt))
theorem block_get {ds : List Int} {n i : Nat} (h : i < n) : (blockOf ds n)[i]? = some (lagr (enumP 0 ds) (i : Int)) := by
  unfold blockOf lagrs
  rw [List.getElem?_map, List.getElem?_range h]
  rfl
/-- check symbols go on from those of fewer -/
theorem block_pre {ds : List Int} {m n : Nat} (h : m ≤ n) : (blockOf ds n).take m = blockOf ds m := by
  refine List.ext_getElem? fun i => ?_
  by_cases hi : i < m
  · rw [List.getElem?_take_of_lt hi, block_get (by omega), block_get hi]
  · rw [List.getElem?_eq_none (by rw [List.length_take, block_len]; omega), List.getElem?_eq_none (by rw [block_len]; omega)]
/-- a block's first symbols as data, at least as many as the data, lead to the block -/
theorem block_more {ds : List Int} {m n : Nat} (hs : ∀ x ∈ ds, Sym x) (h0 : ds.length ≤ m) (h1 : m ≤ n) (h2 : n ≤ 16) : blockOf (blockOf ds m) n = blockOf ds n := by
  have sb := block_syms hs (by omega) (show m ≤ 16 by omega)
  have ok := enumP_ok hs (show ds.length ≤ 16 by omega)
  have d1 := deg_lagr ok
  rw [enumP_len] at d1
  unfold blockOf
  refine List.map_congr_left fun i hi => ?_
  rw [List.mem_range] at hi
  refine lagr_eq (f := lagr (enumP 0 ds)) sb (by rw [block_len]; omega) (deg_mono (by rw [block_len]; exact h0) d1) (fun j x hx => ?_) ⟨by omega, by omega⟩
  have hj : j < m := by
    have z := (List.getElem?_eq_some_iff.mp hx).1
    rw [block_len] at z
    exact z
  have e := block_get (ds := ds) hj
  exact Option.some.inj (e.symm.trans hx)
theorem map_syms {ds : List Int} {g : Int → Int} (h : ∀ x ∈ ds, Sym x) (hg : ∀ x, Sym x → Sym (g x)) : ∀ x ∈ ds.map g, Sym x := fun x hx => by
  obtain ⟨y, hy, rfl⟩ := List.mem_map.mp hx
  exact hg y (h y hy)
/-- blocks of products -/
theorem block_smul {ds : List Int} {s : Int} {n : Nat} (hs : ∀ x ∈ ds, Sym x) (hl : ds.length ≤ 16) (h : Sym s) (hn : n ≤ 16) : blockOf (ds.map fun x => gmul s x) n = (blockOf ds n).map fun x => gmul s x := by
  have d1 := deg_lagr (enumP_ok hs hl)
  rw [enumP_len] at d1
  unfold blockOf lagrs
  rw [List.map_map]
  refine List.map_congr_left fun i hi => ?_
  rw [List.mem_range] at hi
  refine lagr_eq (f := fun a => gmul s (lagr (enumP 0 ds) a)) (map_syms hs fun x hx => sym_mul h hx) (by rw [List.length_map]; exact hl) (by rw [List.length_map]; exact deg_smul h d1) (fun j x hx => ?_) ⟨by omega, by omega⟩
  rw [List.getElem?_map] at hx
  cases e : ds[j]? with
  | none => rw [e] at hx; cases hx
  | some y =>
    rw [e] at hx
    cases hx
    show gmul s (lagr (enumP 0 ds) (j : Int)) = gmul s y
    rw [lagr_at e]
/-- blocks of sums -/
theorem block_sum {ds es : List Int} {n : Nat} (hs : ∀ x ∈ ds, Sym x) (ht : ∀ x ∈ es, Sym x) (hle : es.length = ds.length) (hl : ds.length ≤ 16) (hn : n ≤ 16) : blockOf (List.zipWith gadd ds es) n = List.zipWith gadd (blockOf ds n) (blockOf es n) := by
  have d1 := deg_lagr (enumP_ok hs hl)
  have d2 := deg_lagr (enumP_ok ht (by omega))
  rw [enumP_len] at d1 d2
  rw [hle] at d2
  have hz : (List.zipWith gadd ds es).length = ds.length := by
    rw [List.length_zipWith, hle, Nat.min_self]
  refine List.ext_getElem? fun i => ?_
  by_cases hi : i < n
  · rw [block_get hi, List.getElem?_zipWith, block_get hi, block_get hi]
    refine congrArg some (lagr_eq (f := fun a => gadd (lagr (enumP 0 ds) a) (lagr (enumP 0 es) a)) (fun x hx => ?_) (by rw [hz]; exact hl) (by rw [hz]; exact deg_add d1 d2) (fun j x hx => ?_) ⟨by omega, by omega⟩)
    · obtain ⟨j, hj⟩ := List.mem_iff_getElem?.mp hx
      rw [List.getElem?_zipWith] at hj
      cases e1 : ds[j]? with
      | none => rw [e1] at hj; cases hj
      | some y =>
        cases e2 : es[j]? with
        | none => rw [e1, e2] at hj; cases hj
        | some z =>
          rw [e1, e2] at hj
          cases hj
          exact sym_add (hs y (List.mem_of_getElem? e1)) (ht z (List.mem_of_getElem? e2))
    · rw [List.getElem?_zipWith] at hx
      cases e1 : ds[j]? with
      | none => rw [e1] at hx; cases hx
      | some y =>
        cases e2 : es[j]? with
        | none => rw [e1, e2] at hx; cases hx
        | some z =>
          rw [e1, e2] at hx
          cases hx
          show gadd (lagr (enumP 0 ds) (j : Int)) (lagr (enumP 0 es) (j : Int)) = gadd y z
          rw [lagr_at e1, lagr_at e2]
  · rw [List.getElem?_eq_none (by rw [block_len]; omega), List.getElem?_eq_none (by rw [List.length_zipWith, block_len, block_len]; omega)]
/-- blocks of one symbol -/
theorem block_rep {x : Int} {k n : Nat} (hx : Sym x) (hk : 0 < k) (hl : k ≤ 16) (hn : n ≤ 16) : blockOf (List.replicate k x) n = List.replicate n x := by
  refine List.ext_getElem? fun i => ?_
  by_cases hi : i < n
  · rw [block_get hi, List.getElem?_replicate, if_pos hi]
    refine congrArg some (lagr_eq (f := fun _ => x) (fun y hy => by rw [(List.mem_replicate.mp hy).2]; exact hx) (by rw [List.length_replicate]; exact hl) (by rw [List.length_replicate]; exact deg_mono hk (deg_const hx)) (fun j y hy => ?_) ⟨by omega, by omega⟩)
    rw [List.getElem?_replicate] at hy
    split at hy
    · exact Option.some.inj hy
    · cases hy
  · rw [List.getElem?_eq_none (by rw [block_len]; omega), List.getElem?_eq_none (by rw [List.length_replicate]; omega)]
/-- two blocks that agree in as many places as there are data are one -/
theorem block_apart {ds es : List Int} {l : List Nat} {n : Nat} (hs : ∀ x ∈ ds, Sym x) (ht : ∀ x ∈ es, Sym x) (hle : es.length = ds.length) (hl : ds.length ≤ n) (hn : n ≤ 16) (hN : l.Nodup) (hk : l.length = ds.length) (hin : ∀ i ∈ l, i < n ∧ lagr (enumP 0 ds) (i : Int) = lagr (enumP 0 es) (i : Int)) : blockOf ds n = blockOf es n := by
  have ok1 := enumP_ok hs (show ds.length ≤ 16 by omega)
  have ok2 := enumP_ok ht (show es.length ≤ 16 by omega)
  have d1 := deg_lagr ok1
  have d2 := deg_lagr ok2
  rw [enumP_len] at d1 d2
  rw [hle] at d2
  unfold blockOf lagrs
  refine List.map_congr_left fun i hi => ?_
  rw [List.mem_range] at hi
  have si : Sym (i : Int) := ⟨by omega, by omega⟩
  refine gadd_eq0 (lagr_sym ok1 si) (lagr_sym ok2 si) (deg_roots (rs := l.map fun (i : Nat) => (i : Int)) (deg_add d1 d2) ?_ (by rw [List.length_map]; exact hk) (fun r hr => ?_) _ si)
  · have n := hN
    unfold List.Nodup at n ⊢
    rw [List.pairwise_map]
    exact n.imp fun hab z => hab (Int.ofNat.inj z)
  · obtain ⟨j, hj, rfl⟩ := List.mem_map.mp hr
    have h := hin j hj
    have sj : Sym (j : Int) := ⟨by omega, by omega⟩
    refine ⟨sj, ?_⟩
    show gadd (lagr (enumP 0 ds) (j : Int)) (lagr (enumP 0 es) (j : Int)) = 0
    rw [h.2]
    exact gadd_self (lagr_sym ok2 sj)
end Sq
namespace Sq
open PySem PySem.Spec PyProof.Rows L2 Evl
theorem el_listT {K : PySem.W.Frag} {σ : L2.St} {H : Hp} {te : TE} {p : Addr} {xs : List V} (ha : Ev te σ H (.ref p)) (h : SqT K H p xs) : EvL (tCB (rListS K) (tCons te tNil)) σ H xs := fun H1 e Q q =>
  ha H1 e _ fun H2 e2 => ⟨p, xs, rfl, .inr (ex_t (e.trans e2) h), fun l hl => q l _ (fresh_back e2 hl) (Ex.mut e2 (fresh_back e2 hl)) upd_same⟩
/-- some of a block's symbols erased: the places that are left -/
structure Left (bs : List Int) (rr : List (Option Int)) (l : List Nat) : Prop where
  len : rr.length = bs.length
  nd : l.Nodup
  mem : ∀ i, i ∈ l ↔ ∃ x, rr[i]? = some (some x)
  of : ∀ (i : Nat) (x : Int), rr[i]? = some (some x) → bs[i]? = some x
theorem left_all (bs : List Int) : Left bs (bs.map some) (List.range bs.length) where
  len := List.length_map _
  nd := List.nodup_range
  mem := fun i => by
    rw [List.mem_range, List.getElem?_map]
    constructor
    · intro h
      exact ⟨bs[i], by rw [List.getElem?_eq_getElem h]; rfl⟩
    · rintro ⟨x, h⟩
      cases e : bs[i]? with
      | none => rw [e] at h; cases h
      | some y => exact (List.getElem?_eq_some_iff.mp e).1
  of := fun i x h => by
    rw [List.getElem?_map] at h
    cases e : bs[i]? with
    | none => rw [e] at h; cases h
    | some y =>
      rw [e] at h
      cases h
      rfl
theorem erase_ix : ∀ {l : List Nat} {k i : Nat}, l.Nodup → l[k]? = some i → l.eraseIdx k = l.erase i
  | [], _, _, _, h => by cases h
  | x :: r, 0, i, _, h => by
    cases h
    simp
  | x :: r, k + 1, i, hn, h => by
    have h' : r[k]? = some i := h
    rw [List.nodup_cons] at hn
    have ne : x ≠ i := fun z => hn.1 (z ▸ List.mem_of_getElem? h')
    rw [List.eraseIdx_cons_succ, erase_ix hn.2 h', List.erase_cons_tail (by simpa using ne)]
theorem left_less {bs : List Int} {rr : List (Option Int)} {l : List Nat} {k i : Nat} (L : Left bs rr l) (h : l[k]? = some i) : Left bs (rr.set i none) (l.eraseIdx k) where
  len := by rw [List.length_set]; exact L.len
  nd := L.nd.sublist (List.eraseIdx_sublist l k)
  mem := fun j => by
    have e := erase_ix L.nd h
    rw [e, L.nd.mem_erase_iff, L.mem]
    constructor
    · rintro ⟨hne, x, hx⟩
      exact ⟨x, by rw [List.getElem?_set_ne (Ne.symm hne)]; exact hx⟩
    · rintro ⟨x, hx⟩
      by_cases z : j = i
      · subst z
        exfalso
        rw [List.getElem?_set] at hx
        simp at hx
      · exact ⟨z, x, by rw [List.getElem?_set_ne (Ne.symm z)] at hx; exact hx⟩
  of := fun j x hx => by
    by_cases z : j = i
    · subst z
      exfalso
      rw [List.getElem?_set] at hx
      simp at hx
    · rw [List.getElem?_set_ne (Ne.symm z)] at hx
      exact L.of j x hx
theorem left_known {bs : List Int} {rr : List (Option Int)} {l : List Nat} (L : Left bs rr l) : (knownOf rr).length = l.length := by
  have p : (knownOf rr).Perm l := (List.perm_ext_iff_of_nodup (knownOf_nd rr) L.nd).mpr fun i => knownOf_mem.trans (L.mem i).symm
  exact p.length_eq
def spErase (K : PySem.W.Frag) : Sp := fun vs H Q _ => ∃ (r b : Addr) (bs : List Int) (c : Nat), vs = [.ref r, .ref b, .int (c : Int)] ∧ RowAt K H r ∧ SqT K H b (bs.map V.int) ∧ bs.length ≤ 16 ∧ c ≤ bs.length ∧
  ∀ p rr l H', Ex H H' → H' p = some (.tup (entV rr)) → Left bs rr l → l.length = bs.length - c → Q (.ref p) H'
theorem entV_some (bs : List Int) : entV (bs.map some) = bs.map V.int := by
  unfold entV
  rw [List.map_map]
  rfl
theorem entV_set (rr : List (Option Int)) (i : Nat) : (entV rr).set i .non = entV (rr.set i none) := by
  unfold entV
  rw [List.map_set]
theorem natV_erase : ∀ (l : List Nat) (k : Nat), (natV l).eraseIdx k = natV (l.eraseIdx k)
  | [], _ => rfl
  | _ :: _, 0 => rfl
  | x :: r, k + 1 => by
    show V.int (x : Int) :: (natV r).eraseIdx k = V.int (x : Int) :: natV (r.eraseIdx k)
    rw [natV_erase r k]
theorem rg_natV (n : Nat) : rgV 0 (n : Int) = natV (List.range n) := by
  unfold rgV natV
  rw [show ((n : Int) - 0).toNat = n by omega]
  refine List.map_congr_left fun i _ => ?_
  rw [Int.zero_add]
end Sq
namespace Sq
open PySem PySem.Spec PyProof.Rows L2 Evl
theorem eu_tupV {K : PySem.W.Frag} {σ : L2.St} {H : Hp} {te : TE} {a : Addr} {xs : List V} (h : Ev te σ H (.ref a)) (hx : SqL K H a xs) : EvU (tCB (rTupOf K) (tCons te tNil)) σ H xs := fun H1 e Q q =>
  h H1 e _ fun H2 e2 => ⟨a, xs, rfl, .inl ⟨ex_l (e.trans e2) hx, fun l hl => q l _ (fresh_back e2 hl) (Ex.mut e2 (fresh_back e2 hl)) upd_same⟩⟩
end Sq
namespace Sq
open PySem PySem.Spec PyProof.Rows L2 Evl
theorem s_setPop {K : PySem.W.Frag} {σ : L2.St} {H : Hp} {ta tb tm : TE} {D : Ends} {M : Int} {v : V} {se pl : Addr} {ps : List V} (ho : Ev ta σ H (.ref se)) (hq : Ev tb σ H (.ref pl)) (hp : H pl = some (.lst ps)) (hm : EvP tm σ H (intB M))
    (k : ∀ m H1, 0 ≤ m → m < M → Ex H H1 → rPopAt (.ref pl) [.int m] H1 fun i H2 => rSetL (.ref se) i v H2 fun H3 => D.nx σ H3) : tAsg (tC v) (gSub ta (tBM K "list" rPopAt tb (tCons tm tNil)) rSetL) D σ H :=
  ho H (Ex.refl H) _ fun H1 e1 => hq H1 e1 _ fun H2 e2 => ⟨.inl ⟨rfl, ps, sq_of ((e1.trans e2) _ _ hp)⟩, hm H2 (e1.trans e2) _ fun z H3 e3 hz => by
    obtain ⟨m, rfl, m0, m1⟩ := hz
    exact k m H3 m0 m1 ((e1.trans e2).trans e3)⟩
end Sq

/-! comprehensions over tuples, over two tuples side by side; slices that may be whole -/
namespace Sq
open PySem PySem.Spec PyProof.Rows L2 Evl
section
variable {K : PySem.W.Frag} {σ : L2.St} {H : Hp} {te tl ta tb : TE} {t : TT} {p : V → Prop}
theorem el_lcT {a : Addr} {xs : List V} {j : Nat} {vs : List Nat} (f : Nat → Bool) (v : Nat → V) (h : Ev tl σ H (.ref a)) (hx : SqT K H a xs) (hz : xs.length ≤ 40000) (hw : ∀ x, wipe ((wipe σ vs).set j (some x)) vs = wipe σ vs)
    (ht : ∀ (i : Nat) (x : V) H1, Ex H H1 → xs[i]? = some x → EvT t ((wipe σ vs).set j (some x)) H1 (f i)) (he : ∀ (i : Nat) (x : V) H1, Ex H H1 → xs[i]? = some x → f i = true → Ev te ((wipe σ vs).set j (some x)) H1 (v i)) :
    EvL (tLc (iTup K tl) (gName j) t te vs) σ H (given xs.length f v) := fun H0 e Q q => h H0 e _ fun H1 e1 => ⟨a, rfl, ⟨xs, ex_t (e.trans e1) hx⟩, fun Dl hD =>
  lc_tup (xs := xs) (Cw H1 f v Dl) ⟨hD, Ex.new hD, upd_same⟩ (fun i H' _ p => ex_t ((e.trans e1).trans p.2.1) hx) (fun i x H' hi p => ⟨hw x, cw_turn p (by have := (List.getElem?_eq_some_iff.mp hi).1; omega) (ht i x H1 (e.trans e1) hi) (fun hf => he i x H1 (e.trans e1) hi hf)⟩)
    (fun H' p => q Dl H' (fresh_back e1 p.1) (e1.trans p.2.1) p.2.2)⟩
/-- [draw for x in t] -/
theorem lp_tup {a : Addr} {xs : List V} {j : Nat} {vs : List Nat} (h : Ev tl σ H (.ref a)) (hx : SqT K H a xs) (hz : xs.length ≤ 40000) (hw : ∀ x, wipe ((wipe σ vs).set j (some x)) vs = wipe σ vs)
    (he : ∀ (i : Nat) (x : V) H1, Ex H H1 → xs[i]? = some x → EvP te ((wipe σ vs).set j (some x)) H1 p) : EvLP (tLc (iTup K tl) (gName j) tYes te vs) σ H (fun ys => ys.length = xs.length ∧ ∀ y ∈ ys, p y) := fun H0 e Q q => h H0 e _ fun H1 e1 => ⟨a, rfl, ⟨xs, ex_t (e.trans e1) hx⟩, fun Dl hD =>
  lc_tup (xs := xs) (fun i H' => Ex H1 H' ∧ ∃ ys, H' Dl = some (.lst ys) ∧ ys.length = i ∧ ∀ y ∈ ys, p y) ⟨Ex.new hD, [], upd_same, rfl, fun y hy => nomatch hy⟩ (fun i H' _ p => ex_t ((e.trans e1).trans p.1) hx) (fun i x H' hi ⟨e2, ys, hy, hl, hp⟩ => by
    have hlt := (List.getElem?_eq_some_iff.mp hi).1
    refine ⟨hw x, tYes_y (he i x H' ((e.trans e1).trans e2) hi H' (Ex.refl H') _ fun v H3 e3 hv => ⟨ys, e3 _ _ hy, sz_lt (by omega), Ex.mut (e2.trans e3) hD, ys ++ [v], upd_same, by rw [List.length_append, hl]; rfl, fun y hy => ?_⟩)⟩
    rcases List.mem_append.mp hy with hy | hy
    · exact hp y hy
    · rw [List.mem_singleton.mp hy]
      exact hv) (fun H' ⟨e2, ys, hy, hl, hp⟩ => q ys Dl H' ⟨hl, hp⟩ (fresh_back e1 hD) (e1.trans e2) hy)⟩
theorem evs_slA {tlo thi : TO} {a : Addr} {xs : List V} {lo hi : Option Int} (h : Ev te σ H (.ref a)) (h1 : EvO tlo σ H lo) (h2 : EvO thi σ H hi) (hs : SqT K H a xs) : EvS K (tSl (rSlA K) te tlo thi) σ H (cutV xs lo hi) := fun H1 e _ q =>
  h H1 e _ fun H2 e2 => h1 H2 (e.trans e2) _ fun H3 e3 => h2 H3 ((e.trans e2).trans e3) _ fun H4 e4 => by
    have e14 := (e2.trans e3).trans e4
    have hs4 := ex_t (e.trans e14) hs
    refine ⟨a, xs, rfl, hs4, fun w => q a H4 e14 ?_, fun _ p hp => q p _ (e14.trans (Ex.new hp)) (st_of upd_same)⟩
    have z : cutV xs lo hi = xs := by
      unfold cutV
      rw [w.1, w.2, Nat.sub_zero, List.drop_zero, List.take_length]
    rw [z]
    exact hs4
/-- [.. for x, y in zip(t, u)], t and u tuples, new or old -/
theorem el_lcZT {xs ys : List V} {i j : Nat} {vs : List Nat} (v : Nat → V) (ha : EvS K ta σ H xs) (hb : EvS K tb σ H ys) (hl : xs.length = ys.length) (hz : xs.length ≤ 40000)
    (hw : ∀ x y, wipe (((wipe σ vs).set i (some x)).set j (some y)) vs = wipe σ vs)
    (he : ∀ (n : Nat) (x y : V) H1, Ex H H1 → xs[n]? = some x → ys[n]? = some y → Ev te (((wipe σ vs).set i (some x)).set j (some y)) H1 (v n)) :
    EvL (tLc (RZ.iZipA K (tCons ta (tCons tb tNil))) (gTup K 2 (gCons (gName i) (gCons (gName j) gNil))) tYes te vs) σ H (given xs.length (fun _ => true) v) := fun H0 e Q q =>
  ha H0 e _ fun a H1 e1 h1 => hb H1 (e.trans e1) _ fun b H2 e2 h2 => ⟨a, b, xs, ys, rfl, .inr ⟨ex_t e2 h1, h2, fun Dl hD => by
  have e02 := (e.trans e1).trans e2
  refine ⟨fun n m H' => m = xs.length - n ∧ n ≤ xs.length ∧ Cw H2 (fun _ => true) v Dl n H', ⟨xs.length, by simp, Nat.zero_le _, hD, Ex.new hD, upd_same⟩, ?_⟩
  rintro n m H' ⟨rfl, hn, p⟩
  have hx' : SqT K H' a xs := ex_t (e2.trans p.2.1) h1
  have hy' : SqT K H' b ys := ex_t p.2.1 h2
  by_cases hlt : n < xs.length
  · have hxn := List.getElem?_eq_getElem hlt
    have hyn := List.getElem?_eq_getElem (show n < ys.length by omega)
    refine .inr ⟨⟨xs, ys, _, _, hx', hy', hxn, hyn⟩, Cw H2 (fun _ => true) v Dl (n + 1), fun H3 p3 => ⟨xs.length - (n + 1), by omega, rfl, hlt, p3⟩, fun w H3 hw3 => ?_⟩
    obtain ⟨T, x, y, rfl, hT, rfl, hxx, hyy⟩ := hw3
    have ne : T ≠ Dl := fun z => by
      rw [z, p.2.2] at hT
      cases hT
    have p3 : Cw H2 (fun _ => true) v Dl n (upd H' T (.tup [x, y])) := ⟨p.1, p.2.1.trans (Ex.new hT), by rw [upd_ne (Ne.symm ne)]; exact p.2.2⟩
    refine ⟨T, _, rfl, st_of upd_same, rfl, _, _, rfl, _, _, rfl, rfl, hw _ _, ?_⟩
    exact cw_turn p3 (by omega) (fun H4 _ Q4 q4 => q4 H4 (Ex.refl H4)) (fun _ => he n x y H2 e02 (hxx xs hx') (hyy ys hy'))
  · have en : n = xs.length := by omega
    subst en
    exact .inl ⟨⟨xs, ys, hx', hy', .inl (Nat.le_refl _)⟩, q Dl H' (fresh_back (e1.trans e2) p.1) ((e1.trans e2).trans p.2.1) p.2.2⟩⟩⟩
end
theorem spu_dec {K : PySem.W.Frag} {Pt : Addr} {H : Hp} {t : Addr} {r : List (Option Int)} {c : Int} {ds : List Int} (ht : SqT K H t (entV r)) (hP : H Pt = some (TabF Pt)) (ok : RecOk r) (h0 : 0 ≤ c) (h1 : c < r.length) (hd : (ds.length : Int) = r.length - c) (hs : ∀ x ∈ ds, Sym x) (hk : (knownOf r).length = ds.length) (ag : Agrees r ds) : SpU (spDec K Pt) [.ref t, .int c] H (ds.map V.int) := fun H1 e _ q _ => ⟨t, r, c, ds, rfl, ex_t e ht, e _ _ hP, ok, h0, h1, hd, hs, hk, ag, q⟩
/-- what is left of a block agrees with its data -/
theorem left_agrees {ds : List Int} {n : Nat} {rr : List (Option Int)} {l : List Nat} (L : Left (blockOf ds n) rr l) : Agrees rr ds := fun i x h => by
  have z := L.of i x h
  have hi : i < n := by
    have y := (List.getElem?_eq_some_iff.mp z).1
    rw [block_len] at y
    exact y
  exact Option.some.inj ((block_get hi).symm.trans z)
theorem left_rec {ds : List Int} {n : Nat} {rr : List (Option Int)} {l : List Nat} (hs : ∀ x ∈ ds, Sym x) (hl : ds.length ≤ 16) (h1 : 1 ≤ n) (hn : n ≤ 16) (L : Left (blockOf ds n) rr l) : RecOk rr := by
  have e : rr.length = n := by rw [L.len, block_len]
  refine ⟨fun x hx => ?_, by omega, by omega⟩
  obtain ⟨i, hi⟩ := List.mem_iff_getElem?.mp hx
  exact block_syms hs hl hn x (List.mem_of_getElem? (L.of i x hi))
end Sq

/-! a tuple times one is itself -/
namespace Sq
open PySem PySem.Spec PyProof.Rows L2 Evl
theorem tuple_mul1 (l : Addr) (items : Array Value) (n : Nat) (dd : Option Addr) (sl : Array (Option Value)) (u : Tok) :
    Meets (Builtin.«tuple.__mul__» ⟨[.ref l, .int 1 u], []⟩) (fun _ R s => s.heap.get? l = some { cls := .type "tuple", dict := dd, data := .seq items n, slots := sl } ∧ R (.ok (.ret (Value.ref l))) s) :=
  .of_wp fun prog w A R s h => by
    obtain ⟨hp, g, d, tk, os⟩ := s
    obtain ⟨hl, h⟩ := h
    have f1 := AutoSeq1.idx_int
    have c0 : ¬ ((decide ((1 : Int) < -(2 ^ 63)) || decide ((1 : Int) ≥ 2 ^ 63)) = true) := by decide
    have c1 : (items.isEmpty || (1 : Int) == 1) = true := Bool.or_true _
    wp_walk using wpAny_loadPart' hl
    repeat (first
      | exact ⟨_, rfl, h⟩
      | (refine wpAny_ite_false (decide_eq_false c0) ?_; wp_walk using wpAny_loadPart' hl)
      | (refine wpAny_ite_true (decide_eq_true c1) ?_; wp_walk using wpAny_loadPart' hl))
    all_goals exact ⟨_, rfl, h⟩
def rRep1 (K : PySem.W.Frag) : R2 := fun x y H Q => ∃ l xs, x = .ref l ∧ y = .int 1 ∧ SqT K H l xs ∧ Q (.ref l) H
theorem op_rep1 {X : Cx} : OpR X (binaryOp .Mult) (rRep1 X.K) := by
  intro pins s σ H x y v u Q I rx ry h
  obtain ⟨l, xs, rfl, rfl, hT, q⟩ := h
  cases rx
  obtain ⟨t, rfl⟩ := ry
  obtain ⟨its, r, ⟨⟨cls, dd, data, sl⟩, ho, hc, n, hd⟩, hs⟩ := I.tuple hT
  simp only at hc hd
  subst hc hd
  refine wpAny_binaryOp_repeat_ref (T := "tuple") (U := "int") (by decide) ⟨_, ho, rfl⟩ (fun s' => typeIs_int s' 1 t) noFill_tuple_mul F.fills_int_mul F.slot_int_rmul repeat_tuple F.slot_int_index.lookup ?_
  refine call_meets F.slot_int_rmul (typeIs_int s 1 t) F.entry_int_rmul (F.args_int_rmul_2 _ _) (int_rmul_tuple 1 t l its.toArray n dd sl) ⟨ho, rfl, ⟨_, ho, rfl⟩, ?_⟩
  exact call_meets F.slot_tuple_mul ⟨_, ho, rfl⟩ F.entry_tuple_mul (F.args_tuple_mul_2 _ _) (tuple_mul1 l its.toArray n dd sl t) ⟨ho, ⟨.ref l, H, I, rfl, q⟩⟩
def rRepA (K : PySem.W.Frag) : R2 := fun x y H Q => rRepT K x y H Q ∨ rRep1 K x y H Q
theorem op_repA {X : Cx} : OpR X (binaryOp .Mult) (rRepA X.K) := by
  intro pins s σ H x y v u Q I rx ry h
  rcases h with h | h
  · exact op_repT pins s σ H x y v u Q I rx ry h
  · exact op_rep1 pins s σ H x y v u Q I rx ry h
theorem evs_repA {K : PySem.W.Frag} {σ : L2.St} {H : Hp} {ta tb : TE} {xs : List V} {k : Int} (ha : EvS K ta σ H xs) (hb : Ev tb σ H (.int k)) (hne : xs ≠ []) (hk : 1 ≤ k ∧ k ≤ 1000) (hz : xs.length ≤ 1000) : EvS K (tOp (rRepA K) ta tb) σ H (List.replicate k.toNat xs).flatten := fun H1 e Q q =>
  ha H1 e _ fun a H2 e2 h2 => hb H2 (e.trans e2) _ fun H3 e3 => by
    by_cases h1 : k = 1
    · subst h1
      refine .inr ⟨a, xs, rfl, rfl, ex_t e3 h2, q a H3 (e2.trans e3) ?_⟩
      have z : (List.replicate (1 : Int).toNat xs).flatten = xs := by
        show (List.replicate 1 xs).flatten = xs
        simp
      rw [z]
      exact ex_t e3 h2
    · exact .inl ⟨a, k, xs, rfl, rfl, ex_t e3 h2, hne, by omega, hk.2, hz, fun l hl => q l _ ((e2.trans e3).trans (Ex.new hl)) (st_of upd_same)⟩
end Sq
namespace Sq
open PySem PySem.Spec PyProof.Rows L2 Evl
theorem cut_pre (w : List Int) (k : Nat) : cutV (w.map V.int) none (some (k : Int)) = (w.take k).map V.int := by
  unfold cutV
  rw [HT.sIx_nat, HT.sIx_none, Nat.sub_zero, List.drop_zero, List.map_take]
  rcases Nat.le_total k (w.map V.int).length with h | h
  · rw [Nat.min_eq_left h]
  · rw [Nat.min_eq_right h, List.take_length, List.take_of_length_le h]
theorem evs_pre {K : PySem.W.Frag} {σ : L2.St} {H : Hp} {te tk : TE} {a : Addr} {w z : List Int} {k : Nat} (h : Ev te σ H (.ref a)) (h2 : Ev tk σ H (.int (k : Int))) (hs : SqT K H a (w.map V.int)) (e : w.take k = z) : EvS K (tSl (rSlA K) te tNoPart (tPart tk)) σ H (z.map V.int) := by
  rw [← e, ← cut_pre]
  exact evs_slA h eo_none (eo_some h2) hs
theorem given_map {w : List Int} (g : Int → Int) : given (w.map V.int).length (fun _ => true) (fun n => V.int (g (w.getD n 0))) = (w.map g).map V.int := by
  unfold given
  rw [List.filter_eq_self.mpr (fun _ _ => rfl), List.length_map]
  refine List.ext_getElem? fun n => ?_
  rw [List.getElem?_map, List.getElem?_map, List.getElem?_map]
  by_cases hn : n < w.length
  · rw [List.getElem?_range hn, List.getElem?_eq_getElem hn]
    simp [List.getD_eq_getElem?_getD, List.getElem?_eq_getElem hn]
  · rw [List.getElem?_eq_none (by rw [List.length_range]; omega), List.getElem?_eq_none (by omega)]
    rfl
theorem map_atD {w : List Int} {n : Nat} {x : V} (h : (w.map V.int)[n]? = some x) : x = .int (w.getD n 0) ∧ w.getD n 0 ∈ w := by
  rw [List.getElem?_map] at h
  cases e : w[n]? with
  | none => rw [e] at h; cases h
  | some y =>
    rw [e] at h
    have z : w.getD n 0 = y := by rw [List.getD_eq_getElem?_getD, e]; rfl
    rw [z]
    exact ⟨(Option.some.inj h).symm, List.mem_of_getElem? e⟩
theorem given_zip {v w : List Int} (hl : v.length = w.length) : given (v.map V.int).length (fun _ => true) (fun n => V.int (gadd (v.getD n 0) (w.getD n 0))) = (List.zipWith gadd v w).map V.int := by
  unfold given
  rw [List.filter_eq_self.mpr (fun _ _ => rfl), List.length_map]
  refine List.ext_getElem? fun n => ?_
  rw [List.getElem?_map, List.getElem?_map, List.getElem?_zipWith]
  by_cases hn : n < v.length
  · rw [List.getElem?_range hn, List.getElem?_eq_getElem hn, List.getElem?_eq_getElem (show n < w.length by omega)]
    simp [List.getD_eq_getElem?_getD, List.getElem?_eq_getElem hn, List.getElem?_eq_getElem (show n < w.length by omega)]
  · rw [List.getElem?_eq_none (by rw [List.length_range]; omega), List.getElem?_eq_none (show v.length ≤ n by omega)]
    rfl
theorem rep_flat (x : Int) : ∀ k : Nat, (List.replicate k [V.int x]).flatten = (List.replicate k x).map V.int
  | 0 => rfl
  | k + 1 => by
    rw [List.replicate_succ, List.flatten_cons, rep_flat x k, List.replicate_succ]
    rfl
end Sq

namespace Qk20
open PySem PySem.Spec PyProof.Rows L2 Evl Sq
local macro_rules | `(tactic| walk_at "sq_cell") => `(tactic| first | exact Or.inl rfl | exact Or.inr rfl | exact Or.inr (Or.inl rfl) | exact Or.inr (Or.inr rfl))
local macro_rules | `(tactic| walk_at "sq_sym") => `(tactic| first | assumption | ((with_reducible apply sym_add) <;> walk_at "sq_sym") | ((with_reducible apply sym_mul) <;> walk_at "sq_sym") | ((with_reducible apply sym_div) <;> walk_at "sq_sym") | (show Sym _; decide) | (constructor <;> omega))
local macro_rules | `(tactic| walk_at "sq_c") => `(tactic| first | assumption | decide | omega | (show CDivN _ _; exact ⟨by omega, by omega⟩) | (show CPow _ _; exact ⟨by decide, by decide, by decide⟩) | (show CMul _ _; first | (exact .inl ⟨by omega, by omega⟩) | (exact .inr ⟨by omega, by omega⟩)))
local macro_rules | `(tactic| walk_at "sq_rv") => `(tactic| first
  | (with_reducible exact rv_I0)
  | ((with_reducible apply rv_ne); rfl)
  | ((with_reducible apply rv_eq); rfl)
  | (with_reducible exact ru_neg)
  | ((with_reducible apply rv_ixT); (assumption); first | assumption | rfl)
  | ((with_reducible apply rv_ixL); (assumption); first | assumption | rfl)
  | ((with_reducible apply rv_I); walk_at "sq_c"))
local macro_rules | `(tactic| walk_at "sq_spv") => `(tactic| first
  | assumption
  | ((with_reducible apply spv_I2); (first | (show Sym2 _ _; constructor <;> walk_at "sq_sym") | (show SymD _ _; refine ⟨?_, ?_, ?_⟩; (walk_at "sq_sym"); (walk_at "sq_sym"); (first | assumption | decide))))
  | ((with_reducible apply spv_req2) <;> walk_at "sq_sym")
  | ((with_reducible apply spv_sym); first | assumption | exact kd_int)
  | ((with_reducible apply spv_num); first | assumption | exact kd_int))
local macro_rules | `(tactic| walk_at "sq_ea") => `(tactic| first | (with_reducible exact ea_nil) | ((with_reducible apply ea_cons); (walk_at "sq_ev"); (walk_at "sq_ea")))
local macro_rules | `(tactic| walk_at "sq_rc") => `(tactic| first | exact rc_int | exact rc_intB)
local macro_rules | `(tactic| walk_at "sq_ev") => `(tactic| first
  | (with_reducible exact ev_c)
  | ((with_reducible apply ev_var); rfl)
  | ((with_reducible apply ev_op); (walk_at "sq_ev"); (walk_at "sq_ev"); (walk_at "sq_rv"))
  | ((with_reducible apply ev_callD); (walk_at "sq_ea"); (walk_at "sq_spv"))
  | ((with_reducible apply ev_cb); (walk_at "sq_ea"); (walk_at "sq_rc"))
  | ((with_reducible apply ev_iteI); (walk_at "sq_et"); (intro _; (walk_at "sq_ev")); (intro _; (walk_at "sq_ev")))
  | ((with_reducible apply ev_andV); (walk_at "sq_ev"); (intro _; (walk_at "sq_ev")))
  | ((with_reducible apply ev_orV); (walk_at "sq_ev"); (intro _; (walk_at "sq_ev")))
  | ((with_reducible apply ev_notV); (walk_at "sq_ev"))
  | ((with_reducible apply ev_chain); (walk_at "sq_ev"); (walk_at "sq_ev"); (walk_at "sq_rv"); (intro _; (walk_at "sq_ev")); (intro _; (walk_at "sq_rv"))))
local macro_rules | `(tactic| walk_at "sq_et") => `(tactic| first
  | ((with_reducible apply et_test); (walk_at "sq_ev"))
  | ((with_reducible apply et_B); (walk_at "sq_ev"))
  | ((with_reducible apply et_or); (walk_at "sq_et"); (intro _; (walk_at "sq_et")))
  | ((with_reducible apply et_and); (walk_at "sq_et"); (intro _; (walk_at "sq_et")))
  | ((with_reducible apply et_not); (walk_at "sq_et")))

def topS (i : Nat) : Stmt := PySem.Challenge.pw_squaremark_k20_whole_blocks_of_fewer_dat.main.body.getD i (.Pass ⟨0, 0, 0, 0⟩)
abbrev s_add : Stmt := topS 8
theorem sc_add : FnScope ["left", "right"] ["left", "right"] (defScope s_add) := ⟨rfl, rfl, rfl, by decide +kernel, rfl, by decide +kernel, by decide +kernel⟩
abbrev s_multiply : Stmt := topS 9
theorem sc_multiply : FnScope ["left", "right"] ["left", "right"] (defScope s_multiply) := ⟨rfl, rfl, rfl, by decide +kernel, rfl, by decide +kernel, by decide +kernel⟩
abbrev s_is_number : Stmt := topS 10
theorem sc_is_number : FnScope ["value"] ["value"] (defScope s_is_number) := ⟨rfl, rfl, rfl, by decide +kernel, rfl, by decide +kernel, by decide +kernel⟩
abbrev s_is_symbol : Stmt := topS 11
theorem sc_is_symbol : FnScope ["value"] ["value"] (defScope s_is_symbol) := ⟨rfl, rfl, rfl, by decide +kernel, rfl, by decide +kernel, by decide +kernel⟩
abbrev s_times : Stmt := topS 12
theorem sc_times : FnScope ["left", "right"] ["left", "right"] (defScope s_times) := ⟨rfl, rfl, rfl, by decide +kernel, rfl, by decide +kernel, by decide +kernel⟩
abbrev s_over : Stmt := topS 13
theorem sc_over : FnScope ["left", "right"] ["left", "right"] (defScope s_over) := ⟨rfl, rfl, rfl, by decide +kernel, rfl, by decide +kernel, by decide +kernel⟩
abbrev s__require_symbols : Stmt := topS 14
theorem sc__require_symbols : FnScope ["left", "right"] ["left", "right"] (defScope s__require_symbols) := ⟨rfl, rfl, rfl, by decide +kernel, rfl, by decide +kernel, by decide +kernel⟩
abbrev s_encode_block : Stmt := topS 17
theorem sc_encode_block : FnScope ["data", "check_count", "points"] ["data", "check_count"] (defScope s_encode_block) := ⟨rfl, rfl, rfl, by decide +kernel, rfl, by decide +kernel, by decide +kernel⟩
abbrev s_decode_block : Stmt := topS 18
theorem sc_decode_block : FnScope ["received", "check_count", "data_count", "known", "entry", "values"] ["received", "check_count"] (defScope s_decode_block) := ⟨rfl, rfl, rfl, by decide +kernel, rfl, by decide +kernel, by decide +kernel⟩
abbrev s__require_data : Stmt := topS 19
theorem sc__require_data : FnScope ["data", "check_count"] ["data", "check_count"] (defScope s__require_data) := ⟨rfl, rfl, rfl, by decide +kernel, rfl, by decide +kernel, by decide +kernel⟩
abbrev s__require_received : Stmt := topS 20
theorem sc__require_received : FnScope ["received", "check_count"] ["received", "check_count"] (defScope s__require_received) := ⟨rfl, rfl, rfl, by decide +kernel, rfl, by decide +kernel, by decide +kernel⟩
abbrev s__known_indexes : Stmt := topS 21
theorem sc__known_indexes : FnScope ["received", "at", "entry"] ["received"] (defScope s__known_indexes) := ⟨rfl, rfl, rfl, by decide +kernel, rfl, by decide +kernel, by decide +kernel⟩
abbrev s__radius : Stmt := topS 22
theorem sc__radius : FnScope ["known", "data_count"] ["known", "data_count"] (defScope s__radius) := ⟨rfl, rfl, rfl, by decide +kernel, rfl, by decide +kernel, by decide +kernel⟩
abbrev s__covering_entries : Stmt := topS 23
theorem sc__covering_entries : FnScope ["known", "data_count", "pairs", "at", "rest"] ["known", "data_count"] (defScope s__covering_entries) := ⟨rfl, rfl, rfl, by decide +kernel, rfl, by decide +kernel, by decide +kernel⟩
abbrev s__without_pairs : Stmt := topS 24
theorem sc__without_pairs : FnScope ["known", "pairs", "count", "choices", "chosen", "dropped", "pair", "at"] ["known", "pairs", "count"] (defScope s__without_pairs) := ⟨rfl, rfl, rfl, by decide +kernel, rfl, by decide +kernel, by decide +kernel⟩
abbrev s__count_differences : Stmt := topS 25
theorem sc__count_differences : FnScope ["values", "received", "at"] ["values", "received"] (defScope s__count_differences) := ⟨rfl, rfl, rfl, by decide +kernel, rfl, by decide +kernel, by decide +kernel⟩
abbrev s__values_through : Stmt := topS 26
theorem sc__values_through : FnScope ["entry", "received", "points", "at"] ["entry", "received"] (defScope s__values_through) := ⟨rfl, rfl, rfl, by decide +kernel, rfl, by decide +kernel, by decide +kernel⟩
abbrev s__values : Stmt := topS 27
theorem sc__values : FnScope ["points", "length", "weights", "at"] ["points", "length"] (defScope s__values) := ⟨rfl, rfl, rfl, by decide +kernel, rfl, by decide +kernel, by decide +kernel⟩
abbrev s__value : Stmt := topS 28
theorem sc__value : FnScope ["at", "points", "weights", "total", "position"] ["at", "points", "weights"] (defScope s__value) := ⟨rfl, rfl, rfl, by decide +kernel, rfl, by decide +kernel, by decide +kernel⟩
abbrev s__distance_product : Stmt := topS 29
theorem sc__distance_product : FnScope ["at", "points", "result", "position"] ["at", "points"] (defScope s__distance_product) := ⟨rfl, rfl, rfl, by decide +kernel, rfl, by decide +kernel, by decide +kernel⟩
abbrev s__law_taken : Stmt := topS 31
theorem sc__law_taken : FnScope ["_law_row", "_law_many", "_law_found", "_law_cell"] ["_law_row", "_law_many"] (defScope s__law_taken) := ⟨rfl, rfl, rfl, by decide +kernel, rfl, by decide +kernel, by decide +kernel⟩
abbrev s__law_data : Stmt := topS 32
theorem sc__law_data : FnScope ["_law_row", "_law_most", "_law_k", "_law_checks", "_law_kinds", "_law_turn"] ["_law_row", "_law_most"] (defScope s__law_data) := ⟨rfl, rfl, rfl, by decide +kernel, rfl, by decide +kernel, by decide +kernel⟩
abbrev s__law_erased : Stmt := topS 33
theorem sc__law_erased : FnScope ["_law_row", "_law_block", "_law_count", "_law_seen", "_law_places", "_law_turn"] ["_law_row", "_law_block", "_law_count"] (defScope s__law_erased) := ⟨rfl, rfl, rfl, by decide +kernel, rfl, by decide +kernel, by decide +kernel⟩
abbrev s_law : Stmt := topS 34
theorem sc_law : FnScope ["_law_script", "_law_row", "_law_turn", "_law_data_here", "_law_checks", "_law_block", "_law_few", "_law_more", "_law_seen", "_law_times", "_law_scaled", "_law_one", "_law_other", "_law_sums", "_law_two"] ["_law_script"] (defScope s_law) := ⟨rfl, rfl, rfl, by decide +kernel, rfl, by decide +kernel, by decide +kernel⟩
structure Tx (K : PySem.W.Frag) (mg : Str → Option Value) (base : Heap) (a__POWERS a__EXPONENTS c__require_data p__require_data c__require_received p__require_received : Addr) : Prop where
  ok : True
  n_isinstance : mg "isinstance" = none
  n_int : mg "int" = none
  n_bool : mg "bool" = none
  n_dict : mg "dict" = none
  n_tuple : mg "tuple" = none
  n_enumerate : mg "enumerate" = none
  n_len : mg "len" = none
  n_all : mg "all" = none
  n_range : mg "range" = none
  n_min : mg "min" = none
  n_list : mg "list" = none
  n_zip : mg "zip" = none
  g__LONGEST_BLOCK : ∃ t, mg "_LONGEST_BLOCK" = some (.int 16 t)
  g__POWERS : mg "_POWERS" = some (.ref a__POWERS)
  t__POWERS : ∀ H, SqT K H a__POWERS (([1, 2, 4, 8, 3, 6, 12, 11, 5, 10, 7, 14, 15, 13, 9, 1, 2, 4, 8, 3, 6, 12, 11, 5, 10, 7, 14, 15, 13, 9] : List Int).map V.int)
  g__EXPONENTS : mg "_EXPONENTS" = some (.ref a__EXPONENTS)
  t__EXPONENTS : ∀ H, SqT K H a__EXPONENTS (([0, 0, 1, 4, 2, 8, 5, 10, 3, 14, 9, 7, 6, 13, 11, 12] : List Int).map V.int)
  i_combinations : mg "combinations" = some (.type "itertools.combinations")
  t__require_data : GxR.TabB base mg c__require_data p__require_data
  t__require_received : GxR.TabB base mg c__require_received p__require_received
section
variable {P : Program} {w : World} {K : PySem.W.Frag} {mg : Str → Option Value} {base : Heap} {a__POWERS a__EXPONENTS c__require_data p__require_data c__require_received p__require_received : Addr}
theorem ok_is_number {f : Addr} {fd : FuncData} (F : Fun K "is_number" "is_number" s_is_number f fd) (T : Tx K mg base a__POWERS a__EXPONENTS c__require_data p__require_data c__require_received p__require_received) :
    FnOk P w K mg base CX0 1 f fd ["value"] (spNum K) := by
  refine F.ok sc_is_number (fun vs H Q E h => ?_) (fun cdv A outer s H vs Q E hr h => ?_)
  · obtain ⟨v, rfl, kd, q⟩ := h
    rfl
  · obtain ⟨v, rfl, kd, q⟩ := h
    refine ⟨_, (pss_one (ps_ret (pe_and (pe_callB call_isi (by rfl) T.n_isinstance (by decide +kernel) (pa_cons (pv 0) (pa_cons (pe_bltn (v := .ty "int") (by rfl) T.n_int (by decide +kernel) rfl) pa_nil))) (pe_one (pe_not (pe_callB call_isi (by rfl) T.n_isinstance (by decide +kernel) (pa_cons (pv 0) (pa_cons (pe_bltn (v := .ty "bool") (by rfl) T.n_bool (by decide +kernel) rfl) pa_nil)))))))), ?_⟩

    rcases id kd with rfl | ⟨b, rfl⟩ | ⟨i, rfl⟩ | ⟨x, rfl⟩ | ⟨p, rfl, ⟨xs, hs⟩ | ⟨xs, hs⟩⟩
    · exact s_ret (ev_andV (ev_cb (ea_cons (ev_var rfl) (ea_cons ev_c ea_nil)) (rc_isi (T := "NoneType") (b := false) (fun _ _ => .base .non) (by decide +kernel))) (b := false) fun z => nomatch z) fun H1 e1 => q H1 e1
    · exact s_ret (ev_andV (ev_cb (ea_cons (ev_var rfl) (ea_cons ev_c ea_nil)) (rc_isi (T := "bool") (b := true) (fun _ _ => .base (.bl b)) (by decide +kernel))) fun _ => ev_notV (ev_cb (ea_cons (ev_var rfl) (ea_cons ev_c ea_nil)) (rc_isi (T := "bool") (b := true) (fun _ _ => .base (.bl b)) (by decide +kernel)))) fun H1 e1 => q H1 e1
    · exact s_ret (ev_andV (ev_cb (ea_cons (ev_var rfl) (ea_cons ev_c ea_nil)) (rc_isi (T := "int") (b := true) (fun _ _ => .base (.int i)) (by decide +kernel))) fun _ => ev_notV (ev_cb (ea_cons (ev_var rfl) (ea_cons ev_c ea_nil)) (rc_isi (T := "int") (b := false) (fun _ _ => .base (.int i)) (by decide +kernel)))) fun H1 e1 => q H1 e1
    · exact s_ret (ev_andV (ev_cb (ea_cons (ev_var rfl) (ea_cons ev_c ea_nil)) (rc_isi (T := "str") (b := false) (fun _ _ => .base (.str x)) (by decide +kernel))) (b := false) fun z => nomatch z) fun H1 e1 => q H1 e1
    · exact s_ret (ev_andV (ev_cb (ea_cons (ev_var rfl) (ea_cons ev_c ea_nil)) (rc_isi (T := "tuple") (b := false) (fun _ e => ty_tup (ex_t e hs)) (by decide +kernel))) (b := false) fun z => nomatch z) fun H1 e1 => q H1 e1
    · exact s_ret (ev_andV (ev_cb (ea_cons (ev_var rfl) (ea_cons ev_c ea_nil)) (rc_isi (T := "list") (b := false) (fun _ e => ty_lst (ex_l e hs)) (by decide +kernel))) (b := false) fun z => nomatch z) fun H1 e1 => q H1 e1
theorem raw_is_number {f : Addr} {fd : FuncData} (F : Fun K "is_number" "is_number" s_is_number f fd) (g : mg "is_number" = some (.ref f)) (T : Tx K mg base a__POWERS a__EXPONENTS c__require_data p__require_data c__require_received p__require_received) : RawFn1 P w K mg base "is_number" 1 goodNum :=
  rawFn_of (a := "value") F g rfl (fun _ _ _ _ _ _ _ _ => BindsTo.of_eq rfl) (fun _ => rfl) rfl rfl rfl fun D U L cdv y u b hN hg r => by
    obtain ⟨fl, rfl⟩ := hg
    exact raw_num ⟨rfl, rfl, rfl⟩ (by rfl) (by rfl) (by rfl) (by rfl) T.n_isinstance T.n_int T.n_bool (by rfl) (by decide) fl r
theorem ok_is_symbol {f : Addr} {fd : FuncData} (F : Fun K "is_symbol" "is_symbol" s_is_symbol f fd) (T : Tx K mg base a__POWERS a__EXPONENTS c__require_data p__require_data c__require_received p__require_received)
    (D_is_number : Dfn P w K mg base 1 "is_number" ["value"] (spNum K)) :
    FnOk P w K mg base CX0 2 f fd ["value"] (spSym K) := by
  refine F.ok sc_is_symbol (fun vs H Q E h => ?_) (fun cdv A outer s H vs Q E hr h => ?_)
  · obtain ⟨v, rfl, kd, q⟩ := h
    rfl
  · obtain ⟨v, rfl, kd, q⟩ := h
    refine ⟨_, (pss_one (ps_ret (pe_and (pe_callD D_is_number hr (by decide) (by rfl) (pa_cons (pv 0) pa_nil)) (pe_one (pe_chain op_le op_le pe_int (pv 0) pe_int))))), ?_⟩

    have hn := spv_num kd
    rcases id kd with rfl | ⟨b, rfl⟩ | ⟨i, rfl⟩ | ⟨x, rfl⟩ | ⟨p, rfl, hs⟩
    · exact s_ret (ev_andV (a := false) (b := false) (ev_callD (ea_cons (ev_var rfl) ea_nil) hn) fun z => nomatch z) fun H1 e1 => q H1 e1
    · exact s_ret (ev_andV (a := false) (b := false) (ev_callD (ea_cons (ev_var rfl) ea_nil) hn) fun z => nomatch z) fun H1 e1 => q H1 e1
    · exact s_ret (ev_andV (a := true) (ev_callD (ea_cons (ev_var rfl) ea_nil) hn) fun _ => ev_chain ev_c (ev_var rfl) rv_I0 (fun _ => ev_c) fun _ => rv_I0) fun H1 e1 => q H1 e1
    · exact s_ret (ev_andV (a := false) (b := false) (ev_callD (ea_cons (ev_var rfl) ea_nil) hn) fun z => nomatch z) fun H1 e1 => q H1 e1
    · exact s_ret (ev_andV (a := false) (b := false) (ev_callD (ea_cons (ev_var rfl) ea_nil) hn) fun z => nomatch z) fun H1 e1 => q H1 e1
theorem raw_is_symbol {f : Addr} {fd : FuncData} (F : Fun K "is_symbol" "is_symbol" s_is_symbol f fd) (g : mg "is_symbol" = some (.ref f)) (T : Tx K mg base a__POWERS a__EXPONENTS c__require_data p__require_data c__require_received p__require_received) (Rn : RawFn1 P w K mg base "is_number" 1 goodNum) : RawFn1 P w K mg base "is_symbol" 2 goodSym :=
  rawFn_of (a := "value") F g rfl (fun _ _ _ _ _ _ _ _ => BindsTo.of_eq rfl) (fun _ => rfl) rfl rfl rfl fun D U L cdv y u b hN hg r => by
    obtain ⟨fl, rfl⟩ := hg
    exact raw_sym Rn hN ⟨rfl, rfl, rfl⟩ (by rfl) (by rfl) (by rfl) (by decide) fl r
theorem ok__require_symbols {f : Addr} {fd : FuncData} (F : Fun K "_require_symbols" "_require_symbols" s__require_symbols f fd) (T : Tx K mg base a__POWERS a__EXPONENTS c__require_data p__require_data c__require_received p__require_received)
    (D_is_symbol : Dfn P w K mg base 2 "is_symbol" ["value"] (spSym K)) :
    FnOk P w K mg base CX0 3 f fd ["left", "right"] spReq2 := by
  refine F.ok sc__require_symbols (fun vs H Q E h => ?_) (fun cdv A outer s H vs Q E hr h => ?_)
  · obtain ⟨i, j, rfl, hi, hj, q⟩ := h
    rfl
  · obtain ⟨i, j, rfl, hi, hj, q⟩ := h
    refine ⟨_, (pss_one (ps_if (PW.pt (pw_or (pt_not (pt_val (pe_callD D_is_symbol hr (by decide) (by rfl) (pa_cons (pv 0) pa_nil)))) (pw_or1 (pt_not (pt_val (pe_callD D_is_symbol hr (by decide) (by rfl) (pa_cons (pv 1) pa_nil)))))))
    (pss_one ps_never)
    pss_nil)), ?_⟩

    have h1 := isSym_of hi
    have h2 := isSym_of hj
    refine s_when (b := false) (et_is (et_or (et_not (et_B (ev_callD (ea_cons (ev_var rfl) ea_nil) (spv_sym kd_int)))) fun _ => et_not (et_B (ev_callD (ea_cons (ev_var rfl) ea_nil) (spv_sym kd_int)))) ?_) (fun z => nomatch z) fun _ H1 e1 => q H1 e1
    rw [h1, h2]
    rfl
theorem ok_add {f : Addr} {fd : FuncData} (F : Fun K "add" "add" s_add f fd) (T : Tx K mg base a__POWERS a__EXPONENTS c__require_data p__require_data c__require_received p__require_received)
    (D__require_symbols : Dfn P w K mg base 3 "_require_symbols" ["left", "right"] spReq2) :
    FnOk P w K mg base CX0 4 f fd ["left", "right"] spAdd := by
  refine F.ok sc_add (fun vs H Q E h => ?_) (fun cdv A outer s H vs Q E hr h => ?_)
  · obtain ⟨i, j, rfl, ⟨hi, hj⟩, q⟩ := h
    rfl
  · obtain ⟨i, j, rfl, ⟨hi, hj⟩, q⟩ := h
    refine ⟨_, (pss_cons (ps_expr (pe_callD D__require_symbols hr (by decide) (by rfl) (pa_cons (pv 0) (pa_cons (pv 1) pa_nil))))
    (pss_one (ps_ret (pe_op op_xor (pv 0) (pv 1))))), ?_⟩

    exact q_drop (ev_callD (ea_cons (ev_var rfl) (ea_cons (ev_var rfl) ea_nil)) (spv_req2 hi hj)) fun H1 e1 => s_ret (ev_op (ev_var rfl) (ev_var rfl) rv_I0) fun H2 e2 => q H2 (e1.trans e2)
theorem ok_times {f : Addr} {fd : FuncData} (F : Fun K "times" "times" s_times f fd) (T : Tx K mg base a__POWERS a__EXPONENTS c__require_data p__require_data c__require_received p__require_received) :
    FnOk P w K mg base CX0 1 f fd ["left", "right"] spMul := by
  refine F.ok sc_times (fun vs H Q E h => ?_) (fun cdv A outer s H vs Q E hr h => ?_)
  · obtain ⟨i, j, rfl, ⟨hi, hj⟩, q⟩ := h
    rfl
  · obtain ⟨i, j, rfl, ⟨hi, hj⟩, q⟩ := h
    refine ⟨_, (pss_cons (ps_if (PW.pt (pw_or (pt_cmpR op_eq (pv 0) pe_int (nomark _)) (pw_or1 (pt_cmpR op_eq (pv 1) pe_int (nomark _)))))
    (pss_one (ps_ret pe_int))
    pss_nil)
    (pss_one (ps_ret (pe_ix (r := rIxT K) ix_tup (pe_glob (v := .ref _) (by rfl) T.g__POWERS rfl) (pe_op op_add (pe_ix (r := rIxT K) ix_tup (pe_glob (v := .ref _) (by rfl) T.g__EXPONENTS rfl) (pv 0) (fun _ _ => rfl)) (pe_ix (r := rIxT K) ix_tup (pe_glob (v := .ref _) (by rfl) T.g__EXPONENTS rfl) (pv 1) (fun _ _ => rfl))) (fun _ _ => rfl))))), ?_⟩

    have tp := T.t__POWERS
    have te := T.t__EXPONENTS
    have b1 := eT_b hi
    have b2 := eT_b hj
    refine q_when (b := decide (i = 0 ∨ j = 0)) (et_is (et_or (et_test (ev_op (ev_var rfl) ev_c (rv_eq rfl))) fun _ => et_test (ev_op (ev_var rfl) ev_c (rv_eq rfl))) ?_) (fun z H1 e1 => s_ret ev_c fun H2 e2 => ?_) (fun z H1 e1 => s_ret (ev_op ev_c (ev_op (ev_op ev_c (ev_var rfl) (rv_ixT (te _) (exp_at hi))) (ev_op ev_c (ev_var rfl) (rv_ixT (te _) (exp_at hj))) rv_I0) (rv_ixT (tp _) (pow_at (by omega) (by omega)))) fun H2 e2 => ?_)
    · rw [Bool.eq_iff_iff]
      simp
    · have e : gmul i j = 0 := if_pos (of_decide_eq_true z)
      rw [← e]
      exact q _ (e1.trans e2)
    · have e : gmul i j = pT (eT i + eT j) := if_neg (of_decide_eq_false z)
      rw [← e]
      exact q _ (e1.trans e2)
theorem ok_multiply {f : Addr} {fd : FuncData} (F : Fun K "multiply" "multiply" s_multiply f fd) (T : Tx K mg base a__POWERS a__EXPONENTS c__require_data p__require_data c__require_received p__require_received)
    (D__require_symbols : Dfn P w K mg base 3 "_require_symbols" ["left", "right"] spReq2)
    (D_times : Dfn P w K mg base 1 "times" ["left", "right"] spMul) :
    FnOk P w K mg base CX0 4 f fd ["left", "right"] spMul := by
  refine F.ok sc_multiply (fun vs H Q E h => ?_) (fun cdv A outer s H vs Q E hr h => ?_)
  · obtain ⟨i, j, rfl, ⟨hi, hj⟩, q⟩ := h
    rfl
  · obtain ⟨i, j, rfl, ⟨hi, hj⟩, q⟩ := h
    refine ⟨_, (pss_cons (ps_expr (pe_callD D__require_symbols hr (by decide) (by rfl) (pa_cons (pv 0) (pa_cons (pv 1) pa_nil))))
    (pss_one (ps_ret (pe_callD D_times hr (by decide) (by rfl) (pa_cons (pv 0) (pa_cons (pv 1) pa_nil)))))), ?_⟩

    exact q_drop (ev_callD (ea_cons (ev_var rfl) (ea_cons (ev_var rfl) ea_nil)) (spv_req2 hi hj)) fun H1 e1 => s_ret (ev_callD (ea_cons (ev_var rfl) (ea_cons (ev_var rfl) ea_nil)) (spv_I2 ⟨hi, hj⟩)) fun H2 e2 => q H2 (e1.trans e2)
theorem ok_over {f : Addr} {fd : FuncData} (F : Fun K "over" "over" s_over f fd) (T : Tx K mg base a__POWERS a__EXPONENTS c__require_data p__require_data c__require_received p__require_received) :
    FnOk P w K mg base CX0 1 f fd ["left", "right"] spDiv := by
  refine F.ok sc_over (fun vs H Q E h => ?_) (fun cdv A outer s H vs Q E hr h => ?_)
  · obtain ⟨i, j, rfl, ⟨hi, hj, h0⟩, q⟩ := h
    rfl
  · obtain ⟨i, j, rfl, ⟨hi, hj, h0⟩, q⟩ := h
    refine ⟨_, (pss_cons (ps_if (pt_cmpR op_eq (pv 0) pe_int (nomark _))
    (pss_one (ps_ret pe_int))
    pss_nil)
    (pss_one (ps_ret (pe_ix (r := rIxT K) ix_tup (pe_glob (v := .ref _) (by rfl) T.g__POWERS rfl) (pe_op op_add (pe_op op_sub (pe_ix (r := rIxT K) ix_tup (pe_glob (v := .ref _) (by rfl) T.g__EXPONENTS rfl) (pv 0) (fun _ _ => rfl)) (pe_ix (r := rIxT K) ix_tup (pe_glob (v := .ref _) (by rfl) T.g__EXPONENTS rfl) (pv 1) (fun _ _ => rfl))) pe_int) (fun _ _ => rfl))))), ?_⟩

    have tp := T.t__POWERS
    have te := T.t__EXPONENTS
    have b1 := eT_b hi
    have b2 := eT_b hj
    refine q_when (b := decide (V.int i = V.int 0)) (et_test (ev_op (ev_var rfl) ev_c (rv_eq rfl))) (fun z H1 e1 => s_ret ev_c fun H2 e2 => ?_) (fun z H1 e1 => s_ret (ev_op ev_c (ev_op (ev_op (ev_op ev_c (ev_var rfl) (rv_ixT (te _) (exp_at hi))) (ev_op ev_c (ev_var rfl) (rv_ixT (te _) (exp_at hj))) rv_I0) ev_c rv_I0) (rv_ixT (tp _) (pow_at (by omega) (by omega)))) fun H2 e2 => ?_)
    · have e : gdiv i j = 0 := if_pos (V.int.inj (of_decide_eq_true z))
      rw [← e]
      exact q _ (e1.trans e2)
    · have e : gdiv i j = pT (eT i - eT j + 15) := if_neg fun y => of_decide_eq_false z (congrArg V.int y)
      rw [← e]
      exact q _ (e1.trans e2)
theorem ok__require_data {f : Addr} {fd : FuncData} (F : FunC K "_require_data" "_require_data" s__require_data f fd c__require_data) (T : Tx K mg base a__POWERS a__EXPONENTS c__require_data p__require_data c__require_received p__require_received) (Rw : RawFn1 P w K mg base "is_symbol" 2 goodSym)
    (D_is_number : Dfn P w K mg base 1 "is_number" ["value"] (spNum K))
    (D_is_symbol : Dfn P w K mg base 2 "is_symbol" ["value"] (spSym K)) :
    FnOk P w K mg base CX0 3 f fd ["data", "check_count"] (spReqData K p__require_data) := by
  refine F.ok sc__require_data (fun vs H Q E h => ?_) (fun A outer s H vs Q E hr h => ?_)
  · obtain ⟨t, ds, c, rfl, ht, hP, ok, q⟩ := h
    rfl
  · obtain ⟨t, ds, c, rfl, ht, hP, ok, q⟩ := h
    refine ⟨_, (pss_cons (ps_if (PW.pt (pw_or (pt_not (pt_val (pe_callB call_isi (by rfl) T.n_isinstance (by decide +kernel) (pa_cons (pv 0) (pa_cons (pe_bltn (v := .ty "tuple") (by rfl) T.n_tuple (by decide +kernel) rfl) pa_nil))))) (pw_or1 (pt_not (pt_truth (pv 0) (fun _ => rfl))))))
    (pss_one ps_never)
    pss_nil)
    (pss_cons (ps_if (pt_not (pt_val (pe_allT hr (by rfl) T.n_all T.t__require_data rfl (genS_of (by decide +kernel)) (pv 0) (eltG_call Rw (room3 hr) rfl (by rfl) (by rfl) (by decide) (by decide)) (fun _ => rfl))))
    (pss_one ps_never)
    pss_nil)
    (pss_cons (ps_if (PW.pt (pw_or (pt_not (pt_val (pe_callD D_is_number hr (by decide) (by rfl) (pa_cons (pv 1) pa_nil)))) (pw_or1 (pt_cmpR op_lt (pv 1) pe_int (nomark _)))))
    (pss_one ps_never)
    pss_nil)
    (pss_one (ps_if (pt_cmpR op_gt (pe_op op_add (pe_callB (r := rLenS K) call_len_seq (by rfl) T.n_len PySem.boot_len (pa_cons (pv 0) pa_nil)) (pv 1)) (pe_glob (v := .int 16) (by rfl) T.g__LONGEST_BLOCK.choose_spec ⟨_, rfl⟩) (nomark _))
    (pss_one ps_never)
    pss_nil))))), ?_⟩

    obtain ⟨hs, hne, hc, hl⟩ := id ok
    have hall : ∀ y ∈ ds.map V.int, isSym y = true := fun y hy => by
      obtain ⟨i, hi, rfl⟩ := List.mem_map.mp hy
      exact isSym_of (hs i hi)
    have ht' : ∀ {H1 : Hp}, Ex H H1 → SqT K H1 t (ds.map V.int) := fun e => ex_t e ht
    refine q_when (b := false) (et_is (et_or (et_not (et_B (ev_cb (ea_cons (ev_var rfl) (ea_cons ev_c ea_nil)) (rc_isi (T := "tuple") (b := true) (fun _ e => ty_tup (ex_t e ht)) (by decide +kernel))))) fun _ => et_not (et_tru (ev_var rfl) (tru_t ht))) ?_) (fun z => nomatch z) fun _ H1 e1 => ?_
    · cases ds with
      | nil => exact absurd rfl hne
      | cons x r => rfl
    refine q_when (b := false) (et_is (et_not (et_B (ev_allT (fun y => isSym y) (ev_var rfl) (ht' e1) (e1 _ _ hP) ?_))) ?_) (fun z => nomatch z) fun _ H2 e2 => ?_
    · intro y hy
      obtain ⟨i, hi, rfl⟩ := List.mem_map.mp hy
      exact ⟨rfl, rfl⟩
    · rw [List.all_eq_true.mpr hall]
      rfl
    refine q_when (b := false) (et_is (et_or (et_not (et_B (ev_callD (ea_cons (ev_var rfl) ea_nil) (spv_num kd_int)))) fun _ => et_test (ev_op (ev_var rfl) ev_c rv_I0)) ?_) (fun z => nomatch z) fun _ H3 e3 => ?_
    · show (!true || decide (c < 0)) = false
      rw [decide_eq_false (by omega)]
      rfl
    refine s_when (b := false) (et_is (et_test (ev_op (ev_op (ev_lenT (ev_var rfl) (ht' ((e1.trans e2).trans e3))) (ev_var rfl) rv_I0) ev_c rv_I0)) ?_) (fun z => nomatch z) fun _ H4 e4 => q H4 (((e1.trans e2).trans e3).trans e4)
    rw [List.length_map]
    exact decide_eq_false (by omega)
theorem ok__distance_product {f : Addr} {fd : FuncData} (F : Fun K "_distance_product" "_distance_product" s__distance_product f fd) (T : Tx K mg base a__POWERS a__EXPONENTS c__require_data p__require_data c__require_received p__require_received)
    (D_times : Dfn P w K mg base 1 "times" ["left", "right"] spMul) :
    FnOk P w K mg base CX0 2 f fd ["at", "points"] spDist := by
  refine F.ok sc__distance_product (fun vs H Q E h => ?_) (fun cdv A outer s H vs Q E hr h => ?_)
  · obtain ⟨a, d, ps, rfl, ha, ok, hd, q⟩ := h
    rfl
  · obtain ⟨a, d, ps, rfl, ha, ok, hd, q⟩ := h
    refine ⟨_, (pss_cons (ps_set (i := 2) sc__distance_product.nd rfl (by walk_at "sq_cell") pe_int)
    (pss_cons (ps_for PassesOwn.never rfl (pi_keys (pv 1)) (pg_name (i := 3) sc__distance_product.nd rfl (by walk_at "sq_cell"))
    (pss_one (ps_if (pt_cmpR op_ne (pv 3) (pv 0) (nomark _))
    (pss_one (ps_set (i := 2) sc__distance_product.nd rfl (by walk_at "sq_cell") (pe_callD D_times hr (by decide) (by rfl) (pa_cons (pv 2) (pa_cons (pe_op op_xor (pv 0) (pv 3)) pa_nil)))))
    pss_nil)))
    (pss_one (ps_ret (pv 2))))), ?_⟩

    refine q_asg ev_c fun H1 e1 => ?_
    refine q_forK (ev_var rfl) (hd.ex e1) (fun i σ' H' => Ex H1 H' ∧ ∃ x3, σ' = [some (.int a), some (.ref d), some (.int (dprod a ((ksV ps).take i) 1)), x3]) (fun H2 e2 => ⟨e2, _, rfl⟩) (fun i σ' H' p => p.1) ?_ ?_
    · rintro i k v σ' H' hk ⟨e2, x3, rfl⟩
      obtain ⟨p, hp, rfl, rfl⟩ := kvP_get hk
      have hs := (ok.1 p (List.mem_of_getElem? hp)).1
      have hk' : (ksV ps)[i]? = some p.1 := by
        unfold ksV
        rw [List.getElem?_map, hp]
        rfl
      have hr' : Sym (dprod a ((ksV ps).take i) 1) := dprod_sym ha (fun k hk => ok.ks k (List.mem_of_mem_take hk)) sym_1
      refine s_when (et_test (ev_op (x := .int p.1) (ev_var rfl) (ev_var rfl) (rv_ne rfl))) (fun c H3 e3 => ?_) (fun c H3 e3 => ⟨e2.trans e3, some (.int p.1), ?_⟩)
      · refine s_asg (v := .int (dprod a ((ksV ps).take (i + 1)) 1)) (ev_is (v := .int (gmul (dprod a ((ksV ps).take i) 1) (gadd a p.1))) (ev_callD (ea_cons (ev_var rfl) (ea_cons (ev_op (ev_var rfl) (ev_var (v := .int p.1) rfl) rv_I0) ea_nil)) (spv_I2 (p := Sym2) ⟨hr', sym_add ha hs⟩)) ?_) fun H4 e4 => ⟨(e2.trans e3).trans e4, _, rfl⟩
        have hne : p.1 ≠ a := fun z => by simp [z] at c
        rw [dprod_take hk', if_neg hne]
      · have heq : p.1 = a := by
          by_cases z : p.1 = a
          · exact z
          · simp [z] at c
        rw [dprod_take hk', if_pos heq]
        rfl
    · rintro σ' H' ⟨e2, x3, rfl⟩
      rw [kvP_len, show ps.length = (ksV ps).length from (List.length_map _).symm, List.take_length]
      exact s_ret (ev_var rfl) fun H2 e3 => q H2 ((e1.trans e2).trans e3)
theorem ok__value {f : Addr} {fd : FuncData} (F : Fun K "_value" "_value" s__value f fd) (T : Tx K mg base a__POWERS a__EXPONENTS c__require_data p__require_data c__require_received p__require_received)
    (D_times : Dfn P w K mg base 1 "times" ["left", "right"] spMul)
    (D_over : Dfn P w K mg base 1 "over" ["left", "right"] spDiv)
    (D__distance_product : Dfn P w K mg base 2 "_distance_product" ["at", "points"] spDist) :
    FnOk P w K mg base CX0 3 f fd ["at", "points", "weights"] spValue := by
  refine F.ok sc__value (fun vs H Q E h => ?_) (fun cdv A outer s H vs Q E hr h => ?_)
  · obtain ⟨a, d, e, ps, rfl, ha, ok, hd, he, q⟩ := h
    rfl
  · obtain ⟨a, d, e, ps, rfl, ha, ok, hd, he, q⟩ := h
    refine ⟨_, (pss_cons (ps_if (pt_cmp (pc_din (hu_of hr) (pv 0) (pv 1)))
    (pss_one (ps_ret (pe_dget (hu_of hr) (pv 1) (pv 0) (fun _ _ => rfl))))
    pss_nil)
    (pss_cons (ps_set (i := 3) sc__value.nd rfl (by walk_at "sq_cell") pe_int)
    (pss_cons (ps_for PassesOwn.never rfl (pi_keys (pv 1)) (pg_name (i := 4) sc__value.nd rfl (by walk_at "sq_cell"))
    (pss_one (ps_aug (i := 3) sc__value.nd rfl (by walk_at "sq_cell") (pe_callD D_over hr (by decide) (by rfl) (pa_cons (pe_dget (hu_of hr) (pv 2) (pv 4) (fun _ _ => rfl)) (pa_cons (pe_op op_xor (pv 0) (pv 4)) pa_nil))) ip_xor)))
    (pss_one (ps_ret (pe_callD D_times hr (by decide) (by rfl) (pa_cons (pv 3) (pa_cons (pe_callD D__distance_product hr (by decide) (by rfl) (pa_cons (pv 0) (pa_cons (pv 1) pa_nil))) pa_nil)))))))), ?_⟩

    refine q_when (b := (ps.lookup a).isSome) (et_is (et_B (ev_din (k := .inl a) (ev_var rfl) (ev_var rfl) hd)) ?_) (fun c H1 e1 => ?_) (fun c H1 e1 => ?_)
    · rw [valV_kvP]
      cases ps.lookup a <;> rfl
    · obtain ⟨v, hv⟩ : ∃ v, ps.lookup a = some v := Option.isSome_iff_exists.mp c
      refine s_ret (v := .int v) (ev_dget (k := .inl a) (ev_var rfl) (ev_var rfl) (hd.ex e1) (by rw [valV_kvP, hv]; rfl)) fun H2 e2 => ?_
      have z : lagr ps a = v := by
        unfold lagr
        rw [hv]
      rw [← z]
      exact q H2 (e1.trans e2)
    · have hn : ps.lookup a = none := by
        cases z : ps.lookup a with
        | none => rfl
        | some v => rw [z] at c; cases c
      have z : lagr ps a = gmul (lsum a (wts ps) 0) (dprod a (ksV ps) 1) := by
        unfold lagr
        rw [hn]
      have ok2 := wts_ok ok
      refine q_asg ev_c fun H2 e2 => ?_
      have hd2 := hd.ex (e1.trans e2)
      have he2 := he.ex (e1.trans e2)
      refine q_forK (ev_var rfl) hd2 (fun i σ' H' => Ex H2 H' ∧ ∃ x4, σ' = [some (.int a), some (.ref d), some (.ref e), some (.int (lsum a ((wts ps).take i) 0)), x4]) (fun H3 e3 => ⟨e3, _, rfl⟩) (fun i σ' H' p => p.1) ?_ ?_
      · rintro i k v σ' H' hk ⟨e3, x4, rfl⟩
        obtain ⟨p, hp, rfl, rfl⟩ := kvP_get hk
        have hs := ok.1 p (List.mem_of_getElem? hp)
        have hw : (wts ps)[i]? = some (p.1, gdiv p.2 (dprod p.1 (ksV ps) 1)) := by
          unfold wts
          rw [List.getElem?_map, hp]
          rfl
        have hws := ok2.1 _ (List.mem_of_getElem? hw)
        have hne : p.1 ≠ a := fun z => by
          have y := lookup_of ok.2.1 hp
          rw [z, hn] at y
          cases y
        have hl := lookup_of ok2.2.1 hw
        refine s_aug (b := gdiv (gdiv p.2 (dprod p.1 (ksV ps) 1)) (gadd a p.1)) rfl (ev_callD (ea_cons (ev_dget (k := .inl p.1) (ev_var rfl) (ev_var rfl) (he2.ex e3) (by rw [valV_kvP, hl]; rfl)) (ea_cons (ev_op (ev_var rfl) (ev_var (v := .int p.1) rfl) rv_I0) ea_nil)) (spv_I2 (p := SymD) ⟨hws.2, sym_add ha hs.1, gadd_ne ha hs.1 hne⟩)) fun H4 e4 => ⟨e3.trans e4, some (.int p.1), ?_⟩
        rw [lsum_take hw]
        rfl
      · rintro σ' H' ⟨e3, x4, rfl⟩
        have hz : (kvP ps).length = (wts ps).length := by
          unfold kvP wts
          rw [List.length_map, List.length_map]
        rw [hz, List.take_length]
        have e0 := (e1.trans e2).trans e3
        refine s_ret (v := .int (lagr ps a)) (ev_is (ev_callD (ea_cons (ev_var rfl) (ea_cons (ev_callD (ea_cons (ev_var rfl) (ea_cons (ev_var rfl) ea_nil)) (spv_dist ha ok (hd.ex e0))) ea_nil)) (spv_I2 (p := Sym2) ⟨lsum_sym ha ok2.1 sym_0, dprod_sym ha ok.ks sym_1⟩)) (by rw [z])) fun H4 e4 => q H4 (e0.trans e4)
theorem ok__values {f : Addr} {fd : FuncData} (F : Fun K "_values" "_values" s__values f fd) (T : Tx K mg base a__POWERS a__EXPONENTS c__require_data p__require_data c__require_received p__require_received)
    (D_over : Dfn P w K mg base 1 "over" ["left", "right"] spDiv)
    (D__value : Dfn P w K mg base 3 "_value" ["at", "points", "weights"] spValue)
    (D__distance_product : Dfn P w K mg base 2 "_distance_product" ["at", "points"] spDist) :
    FnOk P w K mg base CX0 4 f fd ["points", "length"] spValues := by
  refine F.ok sc__values (fun vs H Q E h => ?_) (fun cdv A outer s H vs Q E hr h => ?_)
  · obtain ⟨d, n, ps, rfl, hn, ok, hd, q⟩ := h
    rfl
  · obtain ⟨d, n, ps, rfl, hn, ok, hd, q⟩ := h
    refine ⟨_, (pss_cons (ps_set (i := 2) sc__values.nd rfl (by walk_at "sq_cell") (pe_dc (own := [("at", 3)]) (g := gName 3) rfl sc__values.nd (pi_keys (pv 0)) (blkOk_by (own := [("at", 3)]) (N := ["points", "length", "weights", "at"]) (sc := defScope s__values) (by decide +kernel)) (fun _ _ _ _ _ => pg_name (i := 3) sc__values.nd rfl (Or.inl rfl)) (fun _ _ _ _ _ => pts_nil) (fun _ _ _ _ _ => (pv 3)) (fun _ _ _ _ _ => (pe_callD D_over hr (by decide) (by rfl) (pa_cons (pe_dget (hu_of hr) (pv 0) (pv 3) (fun _ _ => rfl)) (pa_cons (pe_callD D__distance_product hr (by decide) (by rfl) (pa_cons (pv 3) (pa_cons (pv 0) pa_nil))) pa_nil))))))
    (pss_frz (pss_one (ps_ret (pe_lc (own := [("at", 3)]) (g := gName 3) (tt := _) rfl sc__values.nd (pi_range1 (by rfl) T.n_range (pa_cons (pv 1) pa_nil)) (blkOk_by (own := [("at", 3)]) (N := ["points", "length", "weights", "at"]) (sc := defScope s__values) (by decide +kernel)) (fun _ _ _ _ _ => pg_name (i := 3) sc__values.nd rfl (by walk_at "sq_cell")) (fun _ _ _ _ _ => pts_nil) (fun _ _ _ _ _ => (pe_callD D__value hr (by decide) (by rfl) (pa_cons (pv 3) (pa_cons (pv 0) (pa_cons (pv 2) pa_nil)))))))))), ?_⟩

    refine q_asgR (dc_keys (ev_var rfl) hd ok.nd (by rw [kvP_len]; have := ok.2.2; omega) (fun _ => rfl) (fun k H1 e1 hk => ev_var rfl) (f := wtF ps) (fun k H1 e1 hk => ?_) H (Ex.refl H) _ fun p H1 hp e1 h1 => ⟨p, _, h1, fun o => ?_⟩)
    · rw [ksV_kvP] at hk
      obtain ⟨a, ha, rfl⟩ := List.mem_map.mp hk
      obtain ⟨⟨a', v⟩, hm, rfl⟩ := List.mem_map.mp ha
      obtain ⟨i, hi⟩ := List.mem_iff_getElem?.mp hm
      have hl := lookup_of ok.2.1 hi
      have hs := ok.1 _ hm
      rw [wtF_of hl]
      exact ev_callD (ea_cons (ev_dget (k := .inl a') (ev_var rfl) (ev_var rfl) (hd.ex e1) (by rw [valV_kvP, hl]; rfl)) (ea_cons (ev_callD (ea_cons (ev_var (v := .int a') rfl) (ea_cons (ev_var rfl) ea_nil)) (spv_dist hs.1 ok (hd.ex e1))) ea_nil)) (spv_I2 (p := SymD) ⟨hs.2, dprod_sym hs.1 ok.ks sym_1, dprod_ne hs.1 ok.ks sym_1 (by decide)⟩)
    · rw [← kvP_wts ps ok.2.1]
      have eG : Ex H (upd H1 p (.frz o (.dK (kvP (wts ps))))) := Ex.mut e1 hp
      have hw : FD (upd H1 p (.frz o (.dK (kvP (wts ps))))) p (kvP (wts ps)) := ⟨o, upd_same⟩
      generalize upd H1 p (.frz o (.dK (kvP (wts ps)))) = G at eG hw ⊢
      have hG := hd.ex eG
      refine s_retL (el_lcR1 (fun _ => true) (fun i => .int (lagr ps (i : Int))) (ea_cons (ev_var rfl) ea_nil) (by omega) (fun _ => rfl) (fun _ _ _ _ H9 _ _ q9 => q9 H9 (Ex.refl H9)) (fun i H2 e2 hi _ => ev_callD (ea_cons (ev_var rfl) (ea_cons (ev_var rfl) (ea_cons (ev_var rfl) ea_nil))) (spv_value ⟨by omega, by omega⟩ ok (hG.ex e2) (hw.ex e2)))) fun p2 H2 hp2 e2 h2 => ?_
      refine q.go eG hp2 e2 ?_
      rw [h2]
      unfold given lagrs
      rw [List.map_map, List.filter_eq_self.mpr (fun _ _ => rfl)]
      rfl
theorem ok_encode_block {f : Addr} {fd : FuncData} (F : Fun K "encode_block" "encode_block" s_encode_block f fd) (T : Tx K mg base a__POWERS a__EXPONENTS c__require_data p__require_data c__require_received p__require_received)
    (D__require_data : Dfn P w K mg base 3 "_require_data" ["data", "check_count"] (spReqData K p__require_data))
    (D__values : Dfn P w K mg base 4 "_values" ["points", "length"] spValues) :
    FnOk P w K mg base CX0 5 f fd ["data", "check_count"] (spEncode K p__require_data) := by
  refine F.ok sc_encode_block (fun vs H Q E h => ?_) (fun cdv A outer s H vs Q E hr h => ?_)
  · obtain ⟨t, ds, c, rfl, ht, hP, ok, q⟩ := h
    rfl
  · obtain ⟨t, ds, c, rfl, ht, hP, ok, q⟩ := h
    refine ⟨_, (pss_cons (ps_expr (pe_callD D__require_data hr (by decide) (by rfl) (pa_cons (pv 0) (pa_cons (pv 1) pa_nil))))
    (pss_cons (ps_set (i := 2) sc_encode_block.nd rfl (by walk_at "sq_cell") (pe_dictEnum rfl (pv 0) (by rfl) T.n_dict (by rfl) T.n_enumerate))
    (pss_frz (pss_one (ps_ret (pe_callTy (r := rTupOf K) call_tuple_of (by rfl) T.n_tuple (by decide +kernel) (pa_cons (pe_callD D__values hr (by decide) (by rfl) (pa_cons (pv 2) (pa_cons (pe_op op_add (pe_callB (r := rLenS K) call_len_seq (by rfl) T.n_len PySem.boot_len (pa_cons (pv 0) pa_nil)) (pv 1)) pa_nil))) pa_nil))))))), ?_⟩

    refine q_drop (ev_callD (ea_cons (ev_var rfl) (ea_cons (ev_var rfl) ea_nil)) (spv_reqData ht hP ok)) fun H1 e1 => ?_
    obtain ⟨hs, hne, hc, hl⟩ := id ok
    refine q_asgR ((ev_var rfl : Ev _ _ H1 (.ref t)) H1 (Ex.refl H1) _ fun H2 e2 => ⟨t, _, rfl, ex_t (e1.trans e2) ht, fun d hd => ⟨d, _, upd_same, fun o => ?_⟩⟩)
    have eG : Ex H2 (upd (upd H2 d (.dK (enumK 0 (ds.map V.int)))) d (.frz o (.dK (enumK 0 (ds.map V.int))))) := Ex.mut (Ex.new hd) hd
    have hD : FD (upd (upd H2 d (.dK (enumK 0 (ds.map V.int)))) d (.frz o (.dK (enumK 0 (ds.map V.int))))) d (kvP (enumP 0 ds)) := ⟨o, by rw [upd_same, enumP_kv]⟩
    generalize upd (upd H2 d (.dK (enumK 0 (ds.map V.int)))) d (.frz o (.dK (enumK 0 (ds.map V.int)))) = G at eG hD ⊢
    have e0 := (e1.trans e2).trans eG
    refine s_retU (eu_tupL (el_callD (ea_cons (ev_var rfl) (ea_cons (ev_is (w := .int ((ds.length + c.toNat : Nat) : Int)) (ev_op (ev_lenT (ev_var rfl) (ex_t e0 ht)) (ev_var rfl) rv_I0) ?_) ea_nil)) (spl_values (by omega) (enumP_ok hs (by omega)) hD))) fun p H3 hp e3 h3 => q p H3 (fresh_back e0 hp) (e0.trans e3) h3
    rw [List.length_map]
    exact congrArg V.int (by omega)
theorem ok__require_received {f : Addr} {fd : FuncData} (F : FunC K "_require_received" "_require_received" s__require_received f fd c__require_received) (T : Tx K mg base a__POWERS a__EXPONENTS c__require_data p__require_data c__require_received p__require_received) (Rw : RawFn1 P w K mg base "is_symbol" 2 goodSym)
    (D_is_number : Dfn P w K mg base 1 "is_number" ["value"] (spNum K))
    (D_is_symbol : Dfn P w K mg base 2 "is_symbol" ["value"] (spSym K)) :
    FnOk P w K mg base CX0 3 f fd ["received", "check_count"] (spReqRec K p__require_received) := by
  refine F.ok sc__require_received (fun vs H Q E h => ?_) (fun A outer s H vs Q E hr h => ?_)
  · obtain ⟨t, r, c, rfl, ht, hP, ok, h0, hc, q⟩ := h
    rfl
  · obtain ⟨t, r, c, rfl, ht, hP, ok, h0, hc, q⟩ := h
    refine ⟨_, (pss_cons (ps_if (PW.pt (pw_or (pt_not (pt_val (pe_callB call_isi (by rfl) T.n_isinstance (by decide +kernel) (pa_cons (pv 0) (pa_cons (pe_bltn (v := .ty "tuple") (by rfl) T.n_tuple (by decide +kernel) rfl) pa_nil))))) (pw_or1 (pt_not (pt_chain op_le op_le pe_int (pe_callB (r := rLenS K) call_len_seq (by rfl) T.n_len PySem.boot_len (pa_cons (pv 0) pa_nil)) (pe_glob (v := .int 16) (by rfl) T.g__LONGEST_BLOCK.choose_spec ⟨_, rfl⟩))))))
    (pss_one ps_never)
    pss_nil)
    (pss_cons (ps_if (pt_not (pt_val (pe_allT hr (by rfl) T.n_all T.t__require_received rfl (genS_of (by decide +kernel)) (pv 0) (eltG_ent Rw (room3 hr) rfl (by rfl) (by rfl) (by decide) (by decide)) (fun _ => rfl))))
    (pss_one ps_never)
    pss_nil)
    (pss_one (ps_if (PW.pt (pw_or (pt_not (pt_val (pe_callD D_is_number hr (by decide) (by rfl) (pa_cons (pv 1) pa_nil)))) (pw_or1 (pt_not (pt_chain op_le op_lt pe_int (pv 1) (pe_callB (r := rLenS K) call_len_seq (by rfl) T.n_len PySem.boot_len (pa_cons (pv 0) pa_nil)))))))
    (pss_one ps_never)
    pss_nil)))), ?_⟩

    obtain ⟨hs, hl1, hl2⟩ := id ok
    have ht' : ∀ {H1 : Hp}, Ex H H1 → SqT K H1 t (entV r) := fun e => ex_t e ht
    have hall : ∀ y ∈ entV r, flatK y = true ∧ (decide (y = .non) || isSym y) = true := fun y hy => by
      obtain ⟨o, ho, rfl⟩ := List.mem_map.mp hy
      cases o with
      | none => exact ⟨rfl, rfl⟩
      | some x => exact ⟨rfl, by rw [isSym_of (hs x ho)]; exact Bool.or_true _⟩
    refine q_when (b := false) (et_is (et_or (et_not (et_B (ev_cb (ea_cons (ev_var rfl) (ea_cons ev_c ea_nil)) (rc_isi (T := "tuple") (b := true) (fun _ e => ty_tup (ex_t e ht)) (by decide +kernel))))) fun _ => et_not (et_chain ev_c (ev_lenT (ev_var rfl) ht) rv_I0 (fun _ => ev_c) fun _ => rv_I0)) ?_) (fun z => nomatch z) fun _ H1 e1 => ?_
    · rw [entV_len]
      show (false || !(decide ((1 : Int) ≤ r.length) && decide ((r.length : Int) ≤ 16))) = false
      rw [decide_eq_true (by omega), decide_eq_true (by omega)]
      rfl
    refine q_when (b := false) (et_is (et_not (et_B (ev_allT (fun y => decide (y = .non) || isSym y) (ev_var rfl) (ht' e1) (e1 _ _ hP) ?_))) ?_) (fun z => nomatch z) fun _ H2 e2 => ?_
    · exact fun y hy => ⟨(hall y hy).1, rfl⟩
    · rw [List.all_eq_true.mpr fun y hy => (hall y hy).2]
      rfl
    refine s_when (b := false) (et_is (et_or (et_not (et_B (ev_callD (ea_cons (ev_var rfl) ea_nil) (spv_num kd_int)))) fun _ => et_not (et_chain ev_c (ev_var rfl) rv_I0 (fun _ => ev_lenT (ev_var rfl) (ht' (e1.trans e2))) fun _ => rv_I0)) ?_) (fun z => nomatch z) fun _ H3 e3 => q H3 ((e1.trans e2).trans e3)
    rw [entV_len]
    show (!true || !(decide (0 ≤ c) && decide (c < (r.length : Int)))) = false
    rw [decide_eq_true h0, decide_eq_true hc]
    rfl
theorem ok__known_indexes {f : Addr} {fd : FuncData} (F : Fun K "_known_indexes" "_known_indexes" s__known_indexes f fd) (T : Tx K mg base a__POWERS a__EXPONENTS c__require_data p__require_data c__require_received p__require_received) :
    FnOk P w K mg base CX0 1 f fd ["received"] (spKnown K) := by
  refine F.ok sc__known_indexes (fun vs H Q E h => ?_) (fun cdv A outer s H vs Q E hr h => ?_)
  · obtain ⟨t, r, rfl, ht, hl, q⟩ := h
    rfl
  · obtain ⟨t, r, rfl, ht, hl, q⟩ := h
    refine ⟨_, (pss_one (ps_ret (pe_lc (own := [("at", 1), ("entry", 2)]) (g := gTup K 2 (gCons (gName 1) (gCons (gName 2) gNil))) (tt := _) rfl sc__known_indexes.nd (pi_enumT (by rfl) T.n_enumerate (pa_cons (pv 0) pa_nil)) (blkOk_by (own := [("at", 1), ("entry", 2)]) (N := ["received", "at", "entry"]) (sc := defScope s__known_indexes) (by decide +kernel)) (fun _ _ _ _ _ => pg_tup (by rfl) (pgs_cons (pg_name (i := 1) sc__known_indexes.nd rfl (Or.inl rfl)) (pgs_cons (pg_name (i := 2) sc__known_indexes.nd rfl (Or.inl rfl)) pgs_nil))) (fun _ _ _ _ _ => (pts_one (pt_cmpR op_notN (pv 2) pe_non (nomark _)))) (fun _ _ _ _ _ => (pv 1))))), ?_⟩

    have z := given_known r
    refine s_retL (z ▸ el_lcET (fun i => (r[i]?.join).isSome) (fun i => V.int (i : Int)) (ev_var rfl) ht (by rw [entV_len]; omega) (fun _ _ => rfl) (fun n x H1 e1 hx => ?_) (fun n x H1 e1 hx _ => ev_var rfl)) fun p H1 hp e1 h1 => q p H1 hp e1 h1
    obtain ⟨o, ho, rfl⟩ := entV_get hx
    refine et_is (et_test (ev_op (ev_var rfl) ev_c rv_notN)) ?_
    rw [ho]
    cases o <;> rfl
theorem ok__without_pairs {f : Addr} {fd : FuncData} (F : Fun K "_without_pairs" "_without_pairs" s__without_pairs f fd) (T : Tx K mg base a__POWERS a__EXPONENTS c__require_data p__require_data c__require_received p__require_received) :
    FnOk P w K mg base CX0 1 f fd ["known", "pairs", "count"] (spWithout K) := by
  refine F.ok sc__without_pairs (fun vs H Q E h => ?_) (fun cdv A outer s H vs Q E hr h => ?_)
  · obtain ⟨k, p, l, ps, rfl, hk, hp, hl, hpl, q⟩ := h
    rfl
  · obtain ⟨k, p, l, ps, rfl, hk, hp, hl, hpl, q⟩ := h
    refine ⟨_, (pss_cons (ps_set (i := 3) sc__without_pairs.nd rfl (by walk_at "sq_cell") (pe_lst pa_nil))
    (pss_cons (ps_for PassesOwn.never rfl (pi_comb (by rfl) T.i_combinations (pa_cons (pv 1) (pa_cons (pv 2) pa_nil))) (pg_name (i := 4) sc__without_pairs.nd rfl (by walk_at "sq_cell"))
    (pss_cons (ps_set (i := 5) sc__without_pairs.nd rfl (by walk_at "sq_cell") (pe_lc2 (own := [("pair", 6), ("at", 7)]) (vs1 := [7]) (g := gName 6) (g1 := gName 7) (wi1 := iList K (tVar 6)) rfl sc__without_pairs.nd (pi_tup (pv 4)) (blkOk_by (own := [("pair", 6), ("at", 7)]) (N := ["known", "pairs", "count", "choices", "chosen", "dropped", "pair", "at"]) (sc := defScope s__without_pairs) (by decide +kernel)) (by decide) (fun _ _ _ _ _ => pg_name (i := 6) sc__without_pairs.nd rfl (Or.inl rfl)) (fun _ _ _ _ _ => pts_nil) (fun _ _ _ _ _ => (pi_list (pv 6))) (fun _ _ _ _ _ => pg_name (i := 7) sc__without_pairs.nd rfl (Or.inl rfl)) (fun _ _ _ _ _ => pts_nil) (fun _ _ _ _ _ => (pv 7))))
    (pss_one (ps_expr (pe_bm PySem.F.plainAttrs_list PySem.F.slot_list_append PySem.F.type_list_append mt_append (pv 3) (pa_cons (pe_lc (own := [("at", 7)]) (g := gName 7) (tt := _) rfl sc__without_pairs.nd (pi_list (pv 0)) (blkOk_by (own := [("at", 7)]) (N := ["known", "pairs", "count", "choices", "chosen", "dropped", "pair", "at"]) (sc := defScope s__without_pairs) (by decide +kernel)) (fun _ _ _ _ _ => pg_name (i := 7) sc__without_pairs.nd rfl (by walk_at "sq_cell")) (fun _ _ _ _ _ => (pts_one (pt_cmpR (r := rIn K true) op_notIn_seq (pv 7) (pv 5) rfl))) (fun _ _ _ _ _ => (pv 7))) pa_nil))))))
    (pss_one (ps_ret (pv 3))))), ?_⟩

    refine q_asgL (el_lst ea_nil (by decide)) fun c H1 hc e1 h1 => ?_
    refine q_forC (r := 0) (ea_cons (ev_var rfl) (ea_cons (ev_var rfl) ea_nil)) (ex_l e1 hp) (by decide) (by omega) (comb_0 _) (fun i σ' H' => Ex H H' ∧ ((i = 0 ∧ H' c = some (.lst [])) ∨ (i = 1 ∧ ∃ q, H' c = some (.lst [.ref q]) ∧ H' q = some (.lst (natV l)))) ∧ ∃ x4 x5 x6 x7, σ' = [some (.ref k), some (.ref p), some (.int 0), some (.ref c), x4, x5, x6, x7]) (fun H2 e2 => ⟨e1.trans e2, .inl ⟨rfl, e2 _ _ h1⟩, _, _, _, _, rfl⟩) ?_ ?_
    · rintro i ix T σ' H' hix ⟨e2, hcs, x4, x5, x6, x7, rfl⟩ hT
      obtain ⟨rfl, rfl⟩ : i = 0 ∧ ix = [] := by
        match i, hix with
        | 0, hix => cases hix; exact ⟨rfl, rfl⟩
      have hc2 : H' c = some (.lst []) := by
        rcases hcs with ⟨_, z⟩ | ⟨z, _⟩
        · exact z
        · cases z
      have ne : c ≠ T := fun z => by rw [z, hT] at hc2; cases hc2
      have eT : Ex H' (upd H' T (.tup (pickV ps []))) := Ex.new hT
      have hT2 : SqT K (upd H' T (.tup (pickV ps []))) T [] := st_of upd_same
      refine q_asgL (el_lc2nil (ev_var rfl) hT2) fun d H3 hd e3 h3 => ?_
      have e03 := (e2.trans eT).trans e3
      have z : given (natV l).length (fun _ => true) (fun n => V.int ((l.getD n 0 : Nat) : Int)) = natV l := by
        unfold given
        rw [List.filter_eq_self.mpr (fun _ _ => rfl), natV_len]
        refine List.ext_getElem? fun n => ?_
        unfold natV
        rw [List.getElem?_map, List.getElem?_map]
        by_cases hn : n < l.length
        · rw [List.getElem?_range hn, List.getElem?_eq_getElem hn]
          simp [List.getD_eq_getElem?_getD, List.getElem?_eq_getElem hn]
        · rw [List.getElem?_eq_none (by rw [List.length_range]; omega), List.getElem?_eq_none (by omega)]
          rfl
      refine s_appL (e3 _ _ (eT _ _ hc2)) (ev_var rfl) (z ▸ el_lcL (fun _ => true) (fun n => V.int ((l.getD n 0 : Nat) : Int)) (ev_var rfl) (ex_l e03 hk) (by rw [natV_len]; omega) (fun _ => rfl) (fun n x H4 e4 hx => ?_) (fun n x H4 e4 hx _ => ?_)) (by decide) fun y H4 hy e4 h4 => ⟨?_, .inr ⟨rfl, y, upd_same, ?_⟩, _, _, _, _, rfl⟩
      · exact Ex.mut (e03.trans e4) hc
      · rw [upd_ne (fun zz => by rw [zz, e3 _ _ (eT _ _ hc2)] at hy; cases hy)]
        exact h4
      · obtain ⟨m, hm, rfl⟩ := natV_get hx
        exact et_is (et_test (ev_op (ev_var (v := .int (m : Int)) rfl) (ev_var rfl) (rv_niL (ex_l e4 (sq_of h3)) rfl rfl))) rfl
      · obtain ⟨m, hm, rfl⟩ := natV_get hx
        have em : l.getD n 0 = m := by rw [List.getD_eq_getElem?_getD, hm]; rfl
        rw [em]
        exact ev_var rfl
    · rintro σ' H' ⟨e2, hcs, x4, x5, x6, x7, rfl⟩
      rcases hcs with ⟨z, _⟩ | ⟨_, y, h1, h2⟩
      · cases z
      · exact s_ret (ev_var rfl) fun H3 e3 => q c y H3 hc (e2.trans e3) (e3 _ _ h1) (e3 _ _ h2)
theorem ok__radius {f : Addr} {fd : FuncData} (F : Fun K "_radius" "_radius" s__radius f fd) (T : Tx K mg base a__POWERS a__EXPONENTS c__require_data p__require_data c__require_received p__require_received) :
    FnOk P w K mg base CX0 1 f fd ["known", "data_count"] (spRad K) := by
  refine F.ok sc__radius (fun vs H Q E h => ?_) (fun cdv A outer s H vs Q E hr h => ?_)
  · obtain ⟨k, l, d, rfl, hk, h0, h1, h16, q⟩ := h
    rfl
  · obtain ⟨k, l, d, rfl, hk, h0, h1, h16, q⟩ := h
    refine ⟨_, (pss_one (ps_ret (pe_op op_fdivN (pe_op op_sub (pe_callB (r := rLenS K) call_len_seq (by rfl) T.n_len PySem.boot_len (pa_cons (pv 0) pa_nil)) (pv 1)) pe_int))), ?_⟩

    refine s_ret (ev_is (ev_op (ev_op (ev_len (ev_var rfl) hk) (ev_var rfl) rv_I0) ev_c (rv_I (show CDivN _ _ from ⟨by decide, by decide⟩))) ?_) fun H1 e1 => q H1 e1
    rw [natV_len]
theorem ok__covering_entries {f : Addr} {fd : FuncData} (F : Fun K "_covering_entries" "_covering_entries" s__covering_entries f fd) (T : Tx K mg base a__POWERS a__EXPONENTS c__require_data p__require_data c__require_received p__require_received)
    (D__without_pairs : Dfn P w K mg base 1 "_without_pairs" ["known", "pairs", "count"] (spWithout K))
    (D__radius : Dfn P w K mg base 1 "_radius" ["known", "data_count"] (spRad K)) :
    FnOk P w K mg base CX0 2 f fd ["known", "data_count"] (spCover K) := by
  refine F.ok sc__covering_entries (fun vs H Q E h => ?_) (fun cdv A outer s H vs Q E hr h => ?_)
  · obtain ⟨k, l, rfl, hk, hl, q⟩ := h
    rfl
  · obtain ⟨k, l, rfl, hk, hl, q⟩ := h
    refine ⟨_, (pss_cons (ps_if (pt_cmpR op_lt (pe_callB (r := rLenS K) call_len_seq (by rfl) T.n_len PySem.boot_len (pa_cons (pv 0) pa_nil)) (pv 1) (nomark _))
    (pss_one (ps_ret (pe_lst pa_nil)))
    pss_nil)
    (pss_cons (ps_setLc (i := 2) (own := [("at", 3)]) (g := gName 3) (tt := _) rfl sc__covering_entries.nd rfl rfl (sw_true rfl rfl rfl rfl) (pi_range3 (by rfl) T.n_range (pa_cons pe_int (pa_cons (pe_callB (r := rLenS K) call_len_seq (by rfl) T.n_len PySem.boot_len (pa_cons (pv 0) pa_nil)) (pa_cons pe_int pa_nil)))) (blkOk_by (own := [("at", 3)]) (N := ["known", "data_count", "pairs", "at", "rest"]) (sc := defScope s__covering_entries) (by decide +kernel)) (fun _ _ _ _ _ => pg_name (i := 3) sc__covering_entries.nd rfl (by walk_at "sq_cell")) (fun _ _ _ _ _ => pts_nil) (fun _ _ _ _ _ => (pe_slice (r := rSlL K) sl_list (pv 0) (po_some (pv 3)) (po_some (pe_op op_add (pv 3) pe_int)))))
    (pss_one (ps_ret (pe_lc (own := [("rest", 4)]) (g := gName 4) (tt := _) rfl sc__covering_entries.nd (pi_list (pe_callD D__without_pairs hr (by decide) (by rfl) (pa_cons (pv 0) (pa_cons (pv 2) (pa_cons (pe_callD D__radius hr (by decide) (by rfl) (pa_cons (pv 0) (pa_cons (pv 1) pa_nil))) pa_nil))))) (blkOk_by (own := [("rest", 4)]) (N := ["known", "data_count", "pairs", "at", "rest"]) (sc := defScope s__covering_entries) (by decide +kernel)) (fun _ _ _ _ _ => pg_name (i := 4) sc__covering_entries.nd rfl (by walk_at "sq_cell")) (fun _ _ _ _ _ => pts_nil) (fun _ _ _ _ _ => (pe_callTy (r := rTupOf K) call_tuple_of (by rfl) T.n_tuple (by decide +kernel) (pa_cons (pe_slice (r := rSlL K) sl_list (pv 4) po_none (po_some (pv 1))) pa_nil)))))))), ?_⟩

    have hln : (natV l).length = l.length := natV_len l
    refine q_when (b := false) (et_is (et_test (ev_op (ev_len (ev_var rfl) hk) (ev_var rfl) rv_I0)) ?_) (fun z => nomatch z) fun _ H1 e1 => ?_
    · rw [hln]
      exact decide_eq_false (by omega)
    have hk1 := ex_l e1 hk
    refine q_asgLP (lp_rng3 (ea_cons ev_c (ea_cons (ev_is (w := .int (l.length : Int)) (ev_len (ev_var rfl) hk1) (by rw [hln])) (ea_cons ev_c ea_nil))) (rg_two hl) (by omega) (fun _ => rfl) fun m H2 e2 hm => ⟨_, el_sl (ev_var rfl) (eo_some (ev_var (v := .int (0 + (m : Nat) * 2)) rfl)) (eo_some (ev_op (ev_var (v := .int (0 + (m : Nat) * 2)) rfl) ev_c rv_I0)) (ex_l e2 hk1)⟩) fun ps p H2 hps hp e2 h2 => ?_
    have e02 := e1.trans e2
    have hk2 := ex_l e2 hk1
    have fz : ((l.length : Int) - l.length).fdiv 2 = 0 := by
      rw [Int.sub_self]
      rfl
    have cutl : cutV (natV l) none (some (l.length : Int)) = natV l := by
      unfold cutV
      rw [← hln, HT.sIx_nat, HT.sIx_none, Nat.min_self, Nat.sub_zero, List.drop_zero, List.take_length]
    refine s_retOne (lc_one (ys := natV l) (zs := natV l) (eone_call (ea_cons (ev_var rfl) (ea_cons (ev_var rfl) (ea_cons (ev_is (w := .int 0) (ev_callD (ea_cons (ev_var rfl) (ea_cons (ev_var rfl) ea_nil)) (z := .int (((l.length : Int) - l.length).fdiv 2)) fun H4 e4 Q4 q4 _ => ⟨k, l, _, rfl, ex_l e4 hk2, by omega, by omega, hl, q4⟩) (by rw [fz])) ea_nil))) fun H4 e4 Q4 q4 _ => ⟨k, p, l, ps, rfl, ex_l e4 hk2, sq_of (e4 _ _ h2), hl, by rw [hps]; omega, q4⟩) (fun _ => rfl) fun y H4 e4 hy => cutl ▸ eu_tupL (el_sl (ev_var rfl) eo_none (eo_some (ev_var rfl)) hy)) fun c y H4 hc e4 h4 h5 => q c y H4 (fresh_back e02 hc) (e02.trans e4) h4 h5
theorem ok__values_through {f : Addr} {fd : FuncData} (F : Fun K "_values_through" "_values_through" s__values_through f fd) (T : Tx K mg base a__POWERS a__EXPONENTS c__require_data p__require_data c__require_received p__require_received)
    (D__values : Dfn P w K mg base 4 "_values" ["points", "length"] spValues) :
    FnOk P w K mg base CX0 5 f fd ["entry", "received"] (spThrough K) := by
  refine F.ok sc__values_through (fun vs H Q E h => ?_) (fun cdv A outer s H vs Q E hr h => ?_)
  · obtain ⟨e, t, r, l, rfl, he, ht, ok, kn, q⟩ := h
    rfl
  · obtain ⟨e, t, r, l, rfl, he, ht, ok, kn, q⟩ := h
    refine ⟨_, (pss_cons (ps_setDc (i := 2) (own := [("at", 3)]) (g := gName 3) rfl sc__values_through.nd rfl rfl (sw_trueD rfl rfl rfl rfl) (pi_tup (pv 0)) (blkOk_by (own := [("at", 3)]) (N := ["entry", "received", "points", "at"]) (sc := defScope s__values_through) (by decide +kernel)) (fun _ _ _ _ _ => pg_name (i := 3) sc__values_through.nd rfl (Or.inl rfl)) (fun _ _ _ _ _ => pts_nil) (fun _ _ _ _ _ => (pv 3)) (fun _ _ _ _ _ => (pe_ix (r := rIxT K) ix_tup (pv 1) (pv 3) (fun _ _ => rfl))))
    (pss_frz (pss_one (ps_ret (pe_callD D__values hr (by decide) (by rfl) (pa_cons (pv 2) (pa_cons (pe_callB (r := rLenS K) call_len_seq (by rfl) T.n_len PySem.boot_len (pa_cons (pv 1) pa_nil)) pa_nil))))))), ?_⟩

    have hln : (natV l).length = l.length := natV_len l
    have get : ∀ {n : Nat} {x : V}, (natV l)[n]? = some x → ∃ y, x = .int ((l.getD n 0 : Nat) : Int) ∧ r[l.getD n 0]? = some (some y) := fun {n x} hx => by
      obtain ⟨i, hi, rfl⟩ := natV_get hx
      obtain ⟨y, hy⟩ := kn.2.1 i (List.mem_of_getElem? hi)
      have ei : l.getD n 0 = i := by rw [List.getD_eq_getElem?_getD, hi]; rfl
      rw [ei]
      exact ⟨y, rfl, hy⟩
    refine q_asgR (dc_overT (fun n => .inl ((l.getD n 0 : Nat) : Int)) (fun n => V.int ((r[l.getD n 0]?.join).getD 0)) (ev_var rfl) he (by rw [hln]; have := kn.2.2; omega) (fun i i' h1 h2 ee => ?_) (fun _ => rfl) (fun n x H1 e1 hx => ?_) (fun n x H1 e1 hx => ?_) H (Ex.refl H) _ fun p H1 hp e1 h1 => ⟨p, _, h1, fun o => ?_⟩)
    · rw [hln] at h1 h2
      have a1 : l[i]? = some (l.getD i 0) := by rw [List.getD_eq_getElem?_getD, List.getElem?_eq_getElem h1]; rfl
      have a2 : l[i']? = some (l.getD i' 0) := by rw [List.getD_eq_getElem?_getD, List.getElem?_eq_getElem h2]; rfl
      have e3 : l.getD i 0 = l.getD i' 0 := by
        have := Sum.inl.inj ee
        omega
      rw [← e3] at a2
      exact nd_ix kn.1 a1 a2
    · obtain ⟨y, rfl, hy⟩ := get hx
      exact ev_var rfl
    · obtain ⟨y, rfl, hy⟩ := get hx
      rw [hy]
      exact ev_op (ev_var rfl) (ev_var (v := .int ((l.getD n 0 : Nat) : Int)) rfl) (rv_ixT (ex_t e1 ht) (entV_at hy))
    · have eG : Ex H (upd H1 p (.frz o (.dK ((List.range (natV l).length).map fun n => (Sum.inl ((l.getD n 0 : Nat) : Int), V.int ((r[l.getD n 0]?.join).getD 0)))))) := Ex.mut e1 hp
      have hD : FD (upd H1 p (.frz o (.dK ((List.range (natV l).length).map fun n => (Sum.inl ((l.getD n 0 : Nat) : Int), V.int ((r[l.getD n 0]?.join).getD 0)))))) p (kvP (ptsAt r l)) := ⟨o, by rw [upd_same, kvP_ptsAt, hln]⟩
      refine s_retL (el_callD (ea_cons (ev_var rfl) (ea_cons (ev_is (w := .int ((r.length : Nat) : Int)) (ev_lenT (ev_var rfl) (ex_t eG ht)) (by rw [entV_len])) ea_nil)) (spl_values ok.2.2 (ptsAt_ok ok kn) hD)) fun p2 H2 hp2 e2 h2 => q p2 H2 (fresh_back eG hp2) (eG.trans e2) h2
theorem ok__count_differences {f : Addr} {fd : FuncData} (F : Fun K "_count_differences" "_count_differences" s__count_differences f fd) (T : Tx K mg base a__POWERS a__EXPONENTS c__require_data p__require_data c__require_received p__require_received)
    (D__known_indexes : Dfn P w K mg base 1 "_known_indexes" ["received"] (spKnown K)) :
    FnOk P w K mg base CX0 2 f fd ["values", "received"] (spSame K) := by
  refine F.ok sc__count_differences (fun vs H Q E h => ?_) (fun cdv A outer s H vs Q E hr h => ?_)
  · obtain ⟨v, t, r, ws, rfl, hv, ht, ok, same, q⟩ := h
    rfl
  · obtain ⟨v, t, r, ws, rfl, hv, ht, ok, same, q⟩ := h
    refine ⟨_, (pss_one (ps_ret (pe_callB (r := rLenS K) call_len_seq (by rfl) T.n_len PySem.boot_len (pa_cons (pe_lc (own := [("at", 2)]) (g := gName 2) (tt := _) rfl sc__count_differences.nd (pi_list (pe_callD D__known_indexes hr (by decide) (by rfl) (pa_cons (pv 1) pa_nil))) (blkOk_by (own := [("at", 2)]) (N := ["values", "received", "at"]) (sc := defScope s__count_differences) (by decide +kernel)) (fun _ _ _ _ _ => pg_name (i := 2) sc__count_differences.nd rfl (by walk_at "sq_cell")) (fun _ _ _ _ _ => (pts_one (pt_cmpR op_ne (pe_ix (r := rIxL K) ix_list (pv 0) (pv 2) (fun _ _ => rfl)) (pe_ix (r := rIxT K) ix_tup (pv 1) (pv 2) (fun _ _ => rfl)) (nomark _)))) (fun _ _ _ _ _ => (pv 2))) pa_nil)))), ?_⟩

    have z : (given (natV (knownOf r)).length (fun _ => false) (fun _ => V.non)).length = 0 := by
      unfold given
      rw [List.filter_eq_nil_iff.mpr (fun _ _ => by decide)]
      rfl
    refine s_ret (v := .int 0) (ev_is (ev_lenN (xs := given (natV (knownOf r)).length (fun _ => false) (fun _ => V.non)) (el_lcNL (fun _ => false) (fun _ => V.non) (el_callD (ea_cons (ev_var rfl) ea_nil) (spl_known ht ok.2.2)) (by rw [natV_len]; have := knownOf_len r; have := ok.2.2; omega) (fun _ => rfl) (fun n x H1 e1 hx => ?_) (fun n x H1 e1 hx zz => nomatch zz))) (by rw [z]; rfl)) fun H1 e1 => q H1 e1
    obtain ⟨i, hi, rfl⟩ := natV_get hx
    obtain ⟨y, hy⟩ := knownOf_mem.mp (List.mem_of_getElem? hi)
    have hw := same i y hy
    refine et_is (et_test (ev_op (ev_op (ev_var rfl) (ev_var (v := .int (i : Int)) rfl) (rv_ixL (ex_l e1 hv) (map_at hw))) (ev_op (ev_var rfl) (ev_var (v := .int (i : Int)) rfl) (rv_ixT (ex_t e1 ht) (entV_at hy))) (rv_ne rfl))) ?_
    simp
theorem ok_decode_block {f : Addr} {fd : FuncData} (F : Fun K "decode_block" "decode_block" s_decode_block f fd) (T : Tx K mg base a__POWERS a__EXPONENTS c__require_data p__require_data c__require_received p__require_received)
    (D__require_received : Dfn P w K mg base 3 "_require_received" ["received", "check_count"] (spReqRec K p__require_received))
    (D__known_indexes : Dfn P w K mg base 1 "_known_indexes" ["received"] (spKnown K))
    (D__covering_entries : Dfn P w K mg base 2 "_covering_entries" ["known", "data_count"] (spCover K))
    (D__values_through : Dfn P w K mg base 5 "_values_through" ["entry", "received"] (spThrough K))
    (D__count_differences : Dfn P w K mg base 2 "_count_differences" ["values", "received"] (spSame K))
    (D__radius : Dfn P w K mg base 1 "_radius" ["known", "data_count"] (spRad K)) :
    FnOk P w K mg base CX0 6 f fd ["received", "check_count"] (spDec K p__require_received) := by
  refine F.ok sc_decode_block (fun vs H Q E h => ?_) (fun cdv A outer s H vs Q E hr h => ?_)
  · obtain ⟨t, r, c, ds, rfl, ht, hP, ok, h0, hc, hd, hs, hk, ag, q⟩ := h
    rfl
  · obtain ⟨t, r, c, ds, rfl, ht, hP, ok, h0, hc, hd, hs, hk, ag, q⟩ := h
    refine ⟨_, (pss_cons (ps_expr (pe_callD D__require_received hr (by decide) (by rfl) (pa_cons (pv 0) (pa_cons (pv 1) pa_nil))))
    (pss_cons (ps_set (i := 2) sc_decode_block.nd rfl (by walk_at "sq_cell") (pe_op op_sub (pe_callB (r := rLenS K) call_len_seq (by rfl) T.n_len PySem.boot_len (pa_cons (pv 0) pa_nil)) (pv 1)))
    (pss_cons (ps_set (i := 3) sc_decode_block.nd rfl (by walk_at "sq_cell") (pe_callD D__known_indexes hr (by decide) (by rfl) (pa_cons (pv 0) pa_nil)))
    (pss_cons (ps_for PassesOwn.never rfl (pi_list (pe_callD D__covering_entries hr (by decide) (by rfl) (pa_cons (pv 3) (pa_cons (pv 2) pa_nil)))) (pg_name (i := 4) sc_decode_block.nd rfl (by walk_at "sq_cell"))
    (pss_cons (ps_set (i := 5) sc_decode_block.nd rfl (by walk_at "sq_cell") (pe_callD D__values_through hr (by decide) (by rfl) (pa_cons (pv 4) (pa_cons (pv 0) pa_nil))))
    (pss_one (ps_if (pt_cmpR op_le (pe_callD D__count_differences hr (by decide) (by rfl) (pa_cons (pv 5) (pa_cons (pv 0) pa_nil))) (pe_callD D__radius hr (by decide) (by rfl) (pa_cons (pv 3) (pa_cons (pv 2) pa_nil))) (nomark _))
    (pss_one (ps_ret (pe_callTy (r := rTupOf K) call_tuple_of (by rfl) T.n_tuple (by decide +kernel) (pa_cons (pe_slice (r := rSlL K) sl_list (pv 5) po_none (po_some (pv 2))) pa_nil))))
    pss_nil))))
    (pss_one (ps_ret pe_non)))))), ?_⟩

    have hl16 := ok.2.2
    refine q_drop (ev_callD (ea_cons (ev_var rfl) (ea_cons (ev_var rfl) ea_nil)) (z := .non) fun H1 e1 Q1 q1 _ => ⟨t, r, c, rfl, ex_t e1 ht, e1 _ _ hP, ok, h0, hc, q1⟩) fun H1 e1 => ?_
    have ht1 := ex_t e1 ht
    refine q_asg (v := .int (ds.length : Int)) (ev_is (ev_op (ev_lenT (ev_var rfl) ht1) (ev_var rfl) rv_I0) (by rw [entV_len, hd])) fun H2 e2 => ?_
    have ht2 := ex_t e2 ht1
    refine q_asgL (el_callD (ea_cons (ev_var rfl) ea_nil) (spl_known ht2 hl16)) fun k H3 hk3 e3 h3 => ?_
    have ht3 := ex_t e3 ht2
    have kn : KnownAt r (knownOf r) := ⟨knownOf_nd r, fun i hi => knownOf_mem.mp hi, by omega⟩
    have bb := back_block ok hs (by omega) hk ag
    refine q_forOne (eone_call (P := fun q H' => H' q = some (.tup (natV (knownOf r)))) (ea_cons (ev_var rfl) (ea_cons (ev_var rfl) ea_nil)) fun H4 e4 Q4 q4 _ => ⟨k, knownOf r, by rw [hk], ex_l e4 (sq_of h3), by omega, q4⟩) fun cv en H4 e4 hcv hen => ?_
    have ht4 := ex_t e4 ht3
    have hk4 : SqL K H4 k (natV (knownOf r)) := ex_l e4 (sq_of h3)
    have e04 := ((e1.trans e2).trans e3).trans e4
    refine q_forL ev_c (sq_of hcv) (fun i σ' H' => i = 0 ∧ Ex H4 H' ∧ σ' = [some (.ref t), some (.int c), some (.int (ds.length : Int)), some (.ref k), none, none]) (fun H5 e5 => ⟨rfl, e5, rfl⟩) (fun i σ' H' _ p => sq_of (p.2.1 _ _ hcv)) ?_ ?_
    · rintro i x σ' H' hx ⟨rfl, e5, rfl⟩
      cases hx
      refine g_name ?_
      have ht5 := ex_t e5 ht4
      refine q_asgL (el_callD (ea_cons (ev_var rfl) (ea_cons (ev_var rfl) ea_nil)) (xs := (blockOf ds r.length).map V.int) fun H6 e6 Q6 q6 _ => ⟨en, t, r, knownOf r, rfl, st_of (e6 _ _ (e5 _ _ hen)), ex_t e6 ht5, ok, kn, by rw [bb]; exact q6⟩) fun v H6 hv e6 h6 => ?_
      have ht6 := ex_t e6 ht5
      have fz : ((knownOf r).length : Int) - ds.length = 0 := by omega
      have bt : (blockOf ds r.length).take ds.length = ds := by
        rw [block_take (by omega), List.take_left]
      refine s_when (b := true) (et_is (et_test (ev_op (ev_callD (ea_cons (ev_var rfl) (ea_cons (ev_var rfl) ea_nil)) (z := .int 0) fun H7 e7 Q7 q7 _ => ⟨v, t, r, blockOf ds r.length, rfl, sq_of (e7 _ _ h6), ex_t e7 ht6, ok, fun i x hx => ?_, q7⟩) (ev_callD (ea_cons (ev_var rfl) (ea_cons (ev_var rfl) ea_nil)) (z := .int ((((knownOf r).length : Int) - ds.length).fdiv 2)) fun H7 e7 Q7 q7 _ => ⟨k, knownOf r, _, rfl, ex_l ((e5.trans e6).trans e7) hk4, by omega, by omega, by omega, q7⟩) rv_I0)) (by rw [fz]; rfl)) (fun _ H7 e7 => ?_) (fun z => nomatch z)
      · have hi := (List.getElem?_eq_some_iff.mp hx).1
        unfold blockOf lagrs
        rw [List.getElem?_map, List.getElem?_range hi]
        exact congrArg some (ag i x hx)
      · have cutl : cutV ((blockOf ds r.length).map V.int) none (some (ds.length : Int)) = ds.map V.int := by
          have z : min ds.length (blockOf ds r.length).length = ds.length := by
            rw [block_len]
            omega
          unfold cutV
          rw [List.length_map, HT.sIx_nat, HT.sIx_none, z, Nat.sub_zero, List.drop_zero, ← List.map_take, bt]
        have e07 := (e04.trans (e5.trans e6)).trans e7
        exact s_retU (cutl ▸ eu_tupL (el_sl (ev_var rfl) eo_none (eo_some (ev_var rfl)) (sq_of (e7 _ _ h6)))) fun p H8 hp e8 h8 => q p H8 (fresh_back e07 hp) (e07.trans e8) h8
    · rintro σ' H' ⟨z, _⟩
      cases z
theorem ok__law_taken {f : Addr} {fd : FuncData} (F : Fun K "_law_taken" "_law_taken" s__law_taken f fd) (T : Tx K mg base a__POWERS a__EXPONENTS c__require_data p__require_data c__require_received p__require_received) :
    FnOk P w K mg base CX0 1 f fd ["_law_row", "_law_many"] (spTaken K) := by
  refine fn_rows (sp := (spTakenL K)) ?_ (fun vs H Q E h => ?_) (fun vs H Q E h => ?_)
  rotate_left
  · obtain ⟨r, m, rfl, h0, h1, hrow, q⟩ := h
    rfl
  · exact taken_rows h
  refine F.ok sc__law_taken (fun vs H Q E h => ?_) (fun cdv A outer s H vs Q E hr h => ?_)
  · obtain ⟨r, a, m, i, x, y, ns, rfl, h0, h1, ⟨b1, b2, b3, b4⟩, hr, hs, q⟩ := h
    rfl
  · obtain ⟨r, a, m, i, x, y, ns, rfl, h0, h1, ⟨b1, b2, b3, b4⟩, hr, hs, q⟩ := h
    refine ⟨_, (pss_cons (ps_if (pt_cmpR op_gt (pe_ix (r := rIxL K) ix_list (pv 0) pe_int (fun _ _ => rfl)) pe_int (nomark _))
    (pss_cons (ps_set (i := 2) sc__law_taken.nd rfl (by walk_at "sq_cell") (pe_op op_modN (pe_callTy call_int1 (by rfl) T.n_int (by decide +kernel) (pa_cons (pe_ix (r := rIxL K) ix_list (pv 0) pe_int (fun _ _ => rfl)) pa_nil)) (pv 1)))
    (pss_cons (ps_asg (pe_op op_fdivN (pe_ix (r := rIxL K) ix_list (pv 0) pe_int (fun _ _ => rfl)) (pv 1)) (pg_sub (pv 0) pe_int set_list))
    (pss_one (ps_ret (pv 2)))))
    pss_nil)
    (pss_cons (ps_asg (pe_op op_add (pe_ix (r := rIxL K) ix_list (pv 0) pe_int (fun _ _ => rfl)) pe_int) (pg_sub (pv 0) pe_int set_list))
    (pss_cons (ps_if (pt_cmpR op_gt (pe_ix (r := rIxL K) ix_list (pv 0) pe_int (fun _ _ => rfl)) (pe_callB (r := rLenS K) call_len_seq (by rfl) T.n_len PySem.boot_len (pa_cons (pe_ix (r := rIxL K) ix_list (pv 0) pe_int (fun _ _ => rfl)) pa_nil)) (nomark _))
    (pss_cons (ps_asg (pe_op op_modN (pe_callTy call_int1 (by rfl) T.n_int (by decide +kernel) (pa_cons (pe_op op_add (pe_op op_mul (pe_ix (r := rIxL K) ix_list (pv 0) pe_int (fun _ _ => rfl)) pe_int) pe_int) pa_nil)) pe_int) (pg_sub (pv 0) pe_int set_list))
    (pss_one (ps_ret (pe_op op_modN (pe_callTy call_int1 (by rfl) T.n_int (by decide +kernel) (pa_cons (pe_op op_fdivN (pe_ix (r := rIxL K) ix_list (pv 0) pe_int (fun _ _ => rfl)) pe_int) pa_nil)) (pv 1)))))
    pss_nil)
    (pss_cons (ps_set (i := 3) sc__law_taken.nd rfl (by walk_at "sq_cell") (pe_ix (r := rIxL K) ix_list (pe_ix (r := rIxL K) ix_list (pv 0) pe_int (fun _ _ => rfl)) (pe_op op_sub (pe_ix (r := rIxL K) ix_list (pv 0) pe_int (fun _ _ => rfl)) pe_int) (fun _ _ => rfl)))
    (pss_cons (ps_asg (pe_op op_modN (pe_callTy call_int1 (by rfl) T.n_int (by decide +kernel) (pa_cons (pe_op op_add (pe_op op_add (pe_op op_mul (pe_ix (r := rIxL K) ix_list (pv 0) pe_int (fun _ _ => rfl)) pe_int) (pv 3)) pe_int) pa_nil)) pe_int) (pg_sub (pv 0) pe_int set_list))
    (pss_cons (ps_if (pt_cmpR op_ge (pv 3) (pe_op op_pow pe_int pe_int) (nomark _))
    (pss_one (ps_asg (pe_op op_fdivN (pv 3) (pv 1)) (pg_sub (pv 0) pe_int set_list)))
    pss_nil)
    (pss_one (ps_ret (pe_op op_modN (pe_callTy call_int1 (by rfl) T.n_int (by decide +kernel) (pa_cons (pv 3) pa_nil)) (pv 1)))))))))), ?_⟩

    have hm : m ≠ 0 := by omega
    have R : ∀ {H' : Hp} {i x y : Int} {j : Int} {v : V}, H' r = some (rowL a i x y) → atI [.ref a, .int i, .int x, .int y] j = some v → RV (rIxL K) (.ref r) (.int j) H' v := fun e1 e2 => rv_ixL (sq_of e1) e2
    refine q_when (et_test (ev_op (ev_op (ev_var rfl) ev_c (R hr rfl)) ev_c rv_I0)) (fun c H1 e1 => ?_) (fun c H1 e1 => ?_)
    · have hr1 := e1 _ _ hr
      refine q_asg (ev_op (ev_cb (ea_cons (ev_op (ev_var rfl) ev_c (R hr1 rfl)) ea_nil) rc_int) (ev_var rfl) (rv_I hm)) fun H2 e2 => ?_
      have hr2 := e2 _ _ hr1
      refine q_setL (j := 3) hr2 (ev_op (ev_op (ev_var rfl) ev_c (R hr2 rfl)) (ev_var rfl) (rv_I (show CDivN _ _ from ⟨hm, by omega⟩))) (ev_var rfl) ev_c (by show 3 < 4; decide) fun H3 e3 => ?_
      refine s_ret (ev_var rfl) fun H4 e4 => ?_
      refine q _ i x (y.fdiv m) H4 (fmod_range h0).1 (fmod_range h0).2 ⟨b1, b2, b3, Int.fdiv_nonneg b4 (by omega)⟩ (e4 _ _ upd_same) fun c o hc e => e4 _ _ ?_
      rw [upd_ne hc]
      exact e3 _ _ (e2 _ _ (e1 _ _ e))
    · have hr1 := e1 _ _ hr
      refine q_setL (j := 1) hr1 (ev_op (ev_op (ev_var rfl) ev_c (R hr1 rfl)) ev_c rv_I0) (ev_var rfl) ev_c (by show 1 < 4; decide) fun H2 e2 => ?_
      have hr2 : (upd H2 r (.lst (([.ref a, .int i, .int x, .int y] : List V).set 1 (.int (i + 1))))) r = some (rowL a (i + 1) x y) := upd_same
      have hs2 : SqL K (upd H2 r (.lst (([.ref a, .int i, .int x, .int y] : List V).set 1 (.int (i + 1))))) a (ns.map V.int) := row_keep (ex_l (e1.trans e2) hs) (e2 _ _ hr1)
      have k2 : ∀ c o, c ≠ r → H c = some o → (upd H2 r (.lst (([.ref a, .int i, .int x, .int y] : List V).set 1 (.int (i + 1))))) c = some o := fun c o hc e => by
        rw [upd_ne hc]
        exact e2 _ _ (e1 _ _ e)
      generalize (upd H2 r (.lst (([.ref a, .int i, .int x, .int y] : List V).set 1 (.int (i + 1))))) = G at hr2 hs2 k2 ⊢
      refine q_when (et_test (ev_op (ev_op (ev_var rfl) ev_c (R hr2 rfl)) (ev_len (ev_op (ev_var rfl) ev_c (R hr2 rfl)) hs2) rv_I0)) (fun c1 H3 e3 => ?_) (fun c1 H3 e3 => ?_)
      · have hr3 := e3 _ _ hr2
        refine q_setL (j := 2) hr3 (ev_op (ev_cb (ea_cons (ev_op (ev_op (ev_op (ev_var rfl) ev_c (R hr3 rfl)) ev_c (rv_I (show CMul _ _ from .inl ⟨by omega, by omega⟩))) ev_c rv_I0) ea_nil) rc_int) ev_c (rv_I (by decide))) (ev_var rfl) ev_c (by show 2 < 4; decide) fun H4 e4 => ?_
        refine s_ret (ev_op (ev_cb (ea_cons (ev_op (ev_op (ev_var rfl) ev_c (R upd_same rfl)) ev_c (rv_I (show CDivN _ _ from ⟨by decide, by decide⟩))) ea_nil) rc_int) (ev_var rfl) (rv_I hm)) fun H5 e5 => ?_
        refine q _ (i + 1) ((x * 48271 + 11).fmod 2147483647) y H5 (fmod_range h0).1 (fmod_range h0).2 ⟨by omega, (fmod_range (by decide)).1, (fmod_range (by decide)).2, b4⟩ (e5 _ _ upd_same) fun c o hc e => e5 _ _ ?_
        rw [upd_ne hc]
        exact e4 _ _ (e3 _ _ (k2 c o hc e))
      · have hr3 := e3 _ _ hr2
        have hlt : i.toNat < ns.length := by
          have z := of_decide_eq_false c1
          rw [List.length_map] at z
          omega
        have hat : atI (ns.map V.int) (i + 1 - 1) = some (.int ns[i.toNat]) := at_of (j := i.toNat) (by omega) (dn_seq ns _ _ (List.getElem?_eq_getElem hlt))
        generalize ns[i.toNat] = n at hat
        refine q_asg (ev_op (ev_op (ev_var rfl) ev_c (R hr3 rfl)) (ev_op (ev_op (ev_var rfl) ev_c (R hr3 rfl)) ev_c rv_I0) (rv_ixL (ex_l e3 hs2) hat)) fun H4 e4 => ?_
        have hr4 := e4 _ _ hr3
        refine q_setL (j := 2) hr4 (ev_op (ev_cb (ea_cons (ev_op (ev_op (ev_op (ev_op (ev_var rfl) ev_c (R hr4 rfl)) ev_c (rv_I (show CMul _ _ from .inl ⟨by omega, by omega⟩))) (ev_var rfl) rv_I0) ev_c rv_I0) ea_nil) rc_int) ev_c (rv_I (by decide))) (ev_var rfl) ev_c (by show 2 < 4; decide) fun H5 e5 => ?_
        have k5 : ∀ c o, c ≠ r → H c = some o → H5 c = some o := fun c o hc e => e5 _ _ (e4 _ _ (e3 _ _ (k2 c o hc e)))
        refine q_when (et_test (ev_op (ev_var rfl) (ev_op ev_c ev_c (rv_I (show CPow _ _ from ⟨by decide, by decide, by decide⟩))) rv_I0)) (fun c2 H6 e6 => ?_) (fun c2 H6 e6 => ?_)
        · have hn : 0 ≤ n := by
            have z := of_decide_eq_true c2
            have w : (0 : Int) ≤ 10 ^ (18 : Int).toNat := by decide
            omega
          refine s_setL (j := 3) (e6 _ _ upd_same) (ev_op (ev_var rfl) (ev_var rfl) (rv_I (show CDivN _ _ from ⟨hm, by omega⟩))) (ev_var rfl) ev_c (by show 3 < 4; decide) fun H7 e7 => ?_
          dsimp only
          refine s_ret (ev_op (ev_cb (ea_cons (ev_var rfl) ea_nil) rc_int) (ev_var rfl) (rv_I hm)) fun H8 e8 => ?_
          refine q _ (i + 1) ((x * 48271 + n + 11).fmod 2147483647) (n.fdiv m) H8 (fmod_range h0).1 (fmod_range h0).2 ⟨by omega, (fmod_range (by decide)).1, (fmod_range (by decide)).2, Int.fdiv_nonneg hn (by omega)⟩ (e8 _ _ upd_same) fun c o hc e => e8 _ _ ?_
          rw [upd_ne hc]
          refine e7 _ _ (e6 _ _ ?_)
          rw [upd_ne hc]
          exact k5 c o hc e
        · refine s_ret (ev_op (ev_cb (ea_cons (ev_var rfl) ea_nil) rc_int) (ev_var rfl) (rv_I hm)) fun H8 e8 => ?_
          refine q _ (i + 1) ((x * 48271 + n + 11).fmod 2147483647) y H8 (fmod_range h0).1 (fmod_range h0).2 ⟨by omega, (fmod_range (by decide)).1, (fmod_range (by decide)).2, b4⟩ (e8 _ _ (e6 _ _ upd_same)) fun c o hc e => e8 _ _ (e6 _ _ ?_)
          rw [upd_ne hc]
          exact k5 c o hc e
theorem ok__law_data {f : Addr} {fd : FuncData} (F : Fun K "_law_data" "_law_data" s__law_data f fd) (T : Tx K mg base a__POWERS a__EXPONENTS c__require_data p__require_data c__require_received p__require_received)
    (D__law_taken : Dfn P w K mg base 1 "_law_taken" ["_law_row", "_law_many"] (spTaken K)) :
    FnOk P w K mg base CX0 2 f fd ["_law_row", "_law_most"] (spData K) := by
  refine F.ok sc__law_data (fun vs H Q E h => ?_) (fun cdv A outer s H vs Q E hr h => ?_)
  · obtain ⟨r, m, rfl, hm1, hm2, hrow, q⟩ := h
    rfl
  · obtain ⟨r, m, rfl, hm1, hm2, hrow, q⟩ := h
    refine ⟨_, (pss_cons (ps_set (i := 2) sc__law_data.nd rfl (by walk_at "sq_cell") (pe_op op_add pe_int (pe_callD D__law_taken hr (by decide) (by rfl) (pa_cons (pv 0) (pa_cons (pv 1) pa_nil)))))
    (pss_cons (ps_set (i := 3) sc__law_data.nd rfl (by walk_at "sq_cell") (pe_callD D__law_taken hr (by decide) (by rfl) (pa_cons (pv 0) (pa_cons (pe_callB (call_min2 rfl) (by rfl) T.n_min (by decide +kernel) (pa_cons (pe_ix (r := rIxL K) ix_list (pe_lst (pa_cons pe_int (pa_cons pe_int pa_nil))) (pe_callD D__law_taken hr (by decide) (by rfl) (pa_cons (pv 0) (pa_cons pe_int pa_nil))) (fun _ _ => rfl)) (pa_cons (pe_op op_sub pe_int (pv 2)) pa_nil))) pa_nil))))
    (pss_cons (ps_set (i := 4) sc__law_data.nd rfl (by walk_at "sq_cell") (pe_ix (r := rIxL K) ix_list (pe_lst (pa_cons pe_int (pa_cons pe_int (pa_cons pe_int pa_nil)))) (pe_callD D__law_taken hr (by decide) (by rfl) (pa_cons (pv 0) (pa_cons pe_int pa_nil))) (fun _ _ => rfl)))
    (pss_one (ps_ret (pe_tup (pa_cons (pe_callTy (r := rTupOf K) call_tuple_of (by rfl) T.n_tuple (by decide +kernel) (pa_cons (pe_lc (own := [("_law_turn", 5)]) (g := gName 5) (tt := _) rfl sc__law_data.nd (pi_range1 (by rfl) T.n_range (pa_cons (pv 2) pa_nil)) (blkOk_by (own := [("_law_turn", 5)]) (N := ["_law_row", "_law_most", "_law_k", "_law_checks", "_law_kinds", "_law_turn"]) (sc := defScope s__law_data) (by decide +kernel)) (fun _ _ _ _ _ => pg_name (i := 5) sc__law_data.nd rfl (by walk_at "sq_cell")) (fun _ _ _ _ _ => pts_nil) (fun _ _ _ _ _ => (pe_callD D__law_taken hr (by decide) (by rfl) (pa_cons (pv 0) (pa_cons (pv 4) pa_nil))))) pa_nil)) (pa_cons (pv 3) pa_nil)))))))), ?_⟩

    refine q_asgP (p := fun v => ∃ k : Nat, v = .int (k : Int) ∧ 1 ≤ k ∧ (k : Int) ≤ m) (evp_op1 ev_c (evp_takenC (ev_var rfl) (ev_var rfl) ⟨by omega, by omega⟩ hrow) fun y hy H1 e1 => ?_) fun v H1 hv e1 => ?_
    · obtain ⟨z, rfl, z0, z1⟩ := hy
      exact ⟨.int (1 + z), rv_I0, (1 + z).toNat, congrArg V.int (by omega), by omega, by omega⟩
    obtain ⟨k, rfl, k1, k2⟩ := hv
    have hrow1 := hrow.ex e1
    refine q_asgP (p := intB (17 - k)) (evp_taken (ev_var rfl) (evp_cb2 (p1 := fun v => v = .int 8 ∨ v = .int 13) (evp_opL (el_lst (ea_cons ev_c (ea_cons ev_c ea_nil)) (by show 2 ≤ 100000; decide)) (evp_takenC (ev_var rfl) ev_c (by decide) hrow1) fun a y hy H2 h2 => ?_) (ev_op ev_c (ev_var rfl) rv_I0) fun x hx H2 e2 => ?_) (by omega) hrow1) fun v H2 hv e2 => ?_
    · obtain ⟨z, rfl, z0, z1⟩ := hy
      rcases (by omega : z = 0 ∨ z = 1) with rfl | rfl
      · exact ⟨.int 8, rv_ixL (sq_of h2) rfl, .inl rfl⟩
      · exact ⟨.int 13, rv_ixL (sq_of h2) rfl, .inr rfl⟩
    · rcases hx with rfl | rfl
      · exact ⟨_, rc_min2, _, rfl, by split <;> omega, by split <;> omega⟩
      · exact ⟨_, rc_min2, _, rfl, by split <;> omega, by split <;> omega⟩
    obtain ⟨c, rfl, c0, c1⟩ := hv
    have hrow2 := hrow1.ex e2
    refine q_asgP (p := fun v => v = .int 2 ∨ v = .int 16) (evp_opL (el_lst (ea_cons ev_c (ea_cons ev_c (ea_cons ev_c ea_nil))) (by show 3 ≤ 100000; decide)) (evp_takenC (ev_var rfl) ev_c (by decide) hrow2) fun a y hy H3 h3 => ?_) fun v H3 hv e3 => ?_
    · obtain ⟨z, rfl, z0, z1⟩ := hy
      rcases (by omega : z = 0 ∨ z = 1 ∨ z = 2) with rfl | rfl | rfl
      · exact ⟨.int 2, rv_ixL (sq_of h3) rfl, .inl rfl⟩
      · exact ⟨.int 16, rv_ixL (sq_of h3) rfl, .inr rfl⟩
      · exact ⟨.int 16, rv_ixL (sq_of h3) rfl, .inr rfl⟩
    have hrow3 := hrow2.ex e3
    obtain ⟨n, rfl, n0, n1⟩ : ∃ n : Int, v = .int n ∧ 0 < n ∧ n ≤ 16 := by
      rcases hv with rfl | rfl
      · exact ⟨2, rfl, by decide, by decide⟩
      · exact ⟨16, rfl, by decide, by decide⟩
    refine s_retPair (up_tupL (lp_range (n := (k : Int)) (ea_cons (ev_var rfl) ea_nil) (by omega) (fun _ => rfl) fun i H4 e4 hi => evp_takenC (ev_var rfl) (ev_var rfl) ⟨n0, by omega⟩ (hrow3.ex e4))) (ev_var rfl) fun xs t p H4 hP e4 h4 h5 => ?_
    obtain ⟨hl, hx⟩ := hP
    obtain ⟨ds, rfl, hd⟩ := ints_of hx
    rw [List.length_map] at hl
    refine q ds c p t _ ⟨fun x hx => ⟨(hd x hx).1, by have := (hd x hx).2; omega⟩, fun z => by rw [z] at hl; simp at hl; omega, c0, by omega⟩ (by omega) (((e1.trans e2).trans e3).trans e4) h4 h5
theorem ok__law_erased {f : Addr} {fd : FuncData} (F : Fun K "_law_erased" "_law_erased" s__law_erased f fd) (T : Tx K mg base a__POWERS a__EXPONENTS c__require_data p__require_data c__require_received p__require_received)
    (D__law_taken : Dfn P w K mg base 1 "_law_taken" ["_law_row", "_law_many"] (spTaken K)) :
    FnOk P w K mg base CX0 2 f fd ["_law_row", "_law_block", "_law_count"] (spErase K) := by
  refine F.ok sc__law_erased (fun vs H Q E h => ?_) (fun cdv A outer s H vs Q E hr h => ?_)
  · obtain ⟨r, b, bs, c, rfl, hrow, hb, hl, hc, q⟩ := h
    rfl
  · obtain ⟨r, b, bs, c, rfl, hrow, hb, hl, hc, q⟩ := h
    refine ⟨_, (pss_cons (ps_par (i := 3) (j := 4) (by rfl) sc__law_erased.nd rfl rfl (by decide) rfl rfl (pa_cons (pe_callTy (r := rListS K) call_list_of (by rfl) T.n_list (by decide +kernel) (pa_cons (pv 1) pa_nil)) (pa_cons (pe_listRg rfl (by rfl) T.n_list (prg_1 (by rfl) T.n_range (pe_callB (r := rLenS K) call_len_seq (by rfl) T.n_len PySem.boot_len (pa_cons (pv 1) pa_nil)))) pa_nil)) (by rfl))
    (pss_cons (ps_for PassesOwn.never rfl (pi_range1 (by rfl) T.n_range (pa_cons (pv 2) pa_nil)) (pg_name (i := 5) sc__law_erased.nd rfl (by walk_at "sq_cell"))
    (pss_one (ps_asg pe_non (pg_sub (pv 3) (pe_bm PySem.F.plainAttrs_list PySem.F.slot_list_pop PySem.F.type_list_pop mt_popAt (pv 4) (pa_cons (pe_callD D__law_taken hr (by decide) (by rfl) (pa_cons (pv 0) (pa_cons (pe_callB (r := rLenS K) call_len_seq (by rfl) T.n_len PySem.boot_len (pa_cons (pv 4) pa_nil)) pa_nil))) pa_nil)) set_list))))
    (pss_one (ps_ret (pe_callTy (r := rTupOf K) call_tuple_of (by rfl) T.n_tuple (by decide +kernel) (pa_cons (pv 3) pa_nil)))))), ?_⟩

    refine q_par2R ((el_listT (ev_var rfl) hb) H (Ex.refl H) _ fun se H1 hse e1 h1 => (el_listRg (ev_is (w := .int (bs.length : Int)) (ev_lenT (ev_var rfl) (ex_t e1 hb)) (by rw [List.length_map])) (by omega)) H1 (Ex.refl H1) _ fun pl H2 hpl e2 h2 => ⟨_, _, rfl, ?_⟩)
    have e02 := e1.trans e2
    rw [rg_natV] at h2
    rw [← entV_some] at h1
    have nsp : H pl = none := fresh_back e1 hpl
    have hne : se ≠ pl := fun z => by rw [← z, h1] at hpl; cases hpl
    refine q_forR1 (ea_cons (ev_var rfl) ea_nil) (by omega) (fun i σ' H' => Ex H H' ∧ (∃ rr l, H' se = some (.lst (entV rr)) ∧ H' pl = some (.lst (natV l)) ∧ Left bs rr l ∧ l.length = bs.length - i) ∧ ∃ x5, σ' = [some (.ref r), some (.ref b), some (.int (c : Int)), some (.ref se), some (.ref pl), x5]) (fun H3 e3 => ⟨e02.trans e3, ⟨_, _, e3 _ _ (e2 _ _ h1), e3 _ _ h2, left_all bs, by rw [List.length_range]; omega⟩, _, rfl⟩) ?_ ?_
    · rintro i σ' H' hi ⟨e3, ⟨rr, l, hs, hp, L, ll⟩, x5, rfl⟩
      have hi : i < c := by omega
      have lpos : 0 < l.length := by omega
      refine s_setPop (ev_var rfl) (ev_var rfl) hp (evp_takenC (ev_var rfl) (ev_is (w := .int (l.length : Int)) (ev_len (ev_var rfl) (sq_of hp)) (by rw [natV_len])) ⟨by omega, by omega⟩ (hrow.ex e3)) fun m H6 m0 m1 e6 => ?_
      have hm : m.toNat < l.length := by omega
      have hx := List.getElem?_eq_getElem hm
      have hp6 := e6 _ _ hp
      have hs6 := e6 _ _ hs
      have sx : seqIndex? m (natV l).length = some m.toNat := by
        rw [natV_len]
        unfold seqIndex?
        have b1 : ¬ m < 0 := by omega
        have b2 : m < (l.length : Int) := m1
        simp [b1, b2, m0]
      obtain ⟨y, hy⟩ := (L.mem _).mp (List.getElem_mem hm)
      have hlt := (List.getElem?_eq_some_iff.mp hy).1
      refine ⟨pl, natV l, m, m.toNat, .int ((l[m.toNat] : Nat) : Int), rfl, rfl, hp6, by omega, by omega, sx, by unfold natV; rw [List.getElem?_map, hx]; rfl, se, entV rr, _, l[m.toNat], rfl, rfl, by rw [upd_ne hne]; exact hs6, ixN_nat (by rw [entV_len]; exact hlt), ?_⟩
      have L2 := left_less L hx
      refine ⟨Ex.mut (Ex.mut (e3.trans e6) nsp) hse, ⟨_, _, by rw [entV_set]; exact upd_same, by rw [upd_ne (Ne.symm hne), natV_erase]; exact upd_same, L2, ?_⟩, _, rfl⟩
      rw [List.length_eraseIdx_of_lt hm]
      omega
    · rintro σ' H' ⟨e3, ⟨rr, l, hs, hp, L, ll⟩, x5, rfl⟩
      exact s_retU (eu_tupV (ev_var rfl) (sq_of hs)) fun p H4 hp4 e4 h4 => q p rr l H4 (e3.trans e4) h4 L (by omega)
theorem ok_law {f : Addr} {fd : FuncData} (F : Fun K "law" "law" s_law f fd) (T : Tx K mg base a__POWERS a__EXPONENTS c__require_data p__require_data c__require_received p__require_received)
    (D__law_data : Dfn P w K mg base 2 "_law_data" ["_law_row", "_law_most"] (spData K))
    (D_encode_block : Dfn P w K mg base 5 "encode_block" ["data", "check_count"] (spEncode K p__require_data))
    (D__law_erased : Dfn P w K mg base 2 "_law_erased" ["_law_row", "_law_block", "_law_count"] (spErase K))
    (D__law_taken : Dfn P w K mg base 1 "_law_taken" ["_law_row", "_law_many"] (spTaken K))
    (D_decode_block : Dfn P w K mg base 6 "decode_block" ["received", "check_count"] (spDec K p__require_received))
    (D_multiply : Dfn P w K mg base 4 "multiply" ["left", "right"] spMul)
    (D_add : Dfn P w K mg base 4 "add" ["left", "right"] spAdd) :
    FnOk P w K mg base CX0 7 f fd ["_law_script"] (spLawX K [p__require_data, p__require_received]) := by
  refine F.ok sc_law (fun vs H Q E h => ?_) (fun cdv A outer s H vs Q E hr h => ?_)
  · obtain ⟨a, ns, rfl, hS, hT, q⟩ := h
    rfl
  · obtain ⟨a, ns, rfl, hS, hT, q⟩ := h
    refine ⟨_, (pss_cons (ps_set (i := 1) sc_law.nd rfl (by walk_at "sq_cell") (pe_lst (pa_cons (pv 0) (pa_cons pe_int (pa_cons pe_int (pa_cons pe_int pa_nil))))))
    (pss_abs (pss_cons (ps_for PassesOwn.never rfl (pi_range1 (by rfl) T.n_range (pa_cons pe_int pa_nil)) (pg_name (i := 2) sc_law.nd rfl (by walk_at "sq_cell"))
    (pss_cons (ps_asg (pe_callD D__law_data hr (by decide) (by rfl) (pa_cons (pv 1) (pa_cons pe_int pa_nil))) (pg_tup (by rfl) (pgs_cons (pg_name (i := 3) sc_law.nd rfl (by walk_at "sq_cell")) (pgs_cons (pg_name (i := 4) sc_law.nd rfl (by walk_at "sq_cell")) pgs_nil))))
    (pss_cons (ps_set (i := 5) sc_law.nd rfl (by walk_at "sq_cell") (pe_callD D_encode_block hr (by decide) (by rfl) (pa_cons (pv 3) (pa_cons (pv 4) pa_nil))))
    (pss_cons (ps_for PassesOwn.never rfl (pi_range1 (by rfl) T.n_range (pa_cons (pe_op op_add (pv 4) pe_int) pa_nil)) (pg_name (i := 6) sc_law.nd rfl (by walk_at "sq_cell"))
    (pss_one (ps_if (pt_cmpR (op_neD (hu64 hr)) (pe_callD D_encode_block hr (by decide) (by rfl) (pa_cons (pv 3) (pa_cons (pv 6) pa_nil))) (pe_slice (r := rSlA K) sl_tupA (pv 5) po_none (po_some (pe_op op_add (pe_callB (r := rLenS K) call_len_seq (by rfl) T.n_len PySem.boot_len (pa_cons (pv 3) pa_nil)) (pv 6)))) (nomark _))
    (pss_one (ps_ret pe_bl))
    pss_nil)))
    (pss_cons (ps_set (i := 7) sc_law.nd rfl (by walk_at "sq_cell") (pe_callD D_encode_block hr (by decide) (by rfl) (pa_cons (pv 5) (pa_cons pe_int pa_nil))))
    (pss_cons (ps_if (PW.pt (pw_or (pt_cmpR (op_neD (hu64 hr)) (pv 7) (pv 5) (nomark _)) (pw_or1 (pt_cmpR (op_neD (hu64 hr)) (pe_callD D_encode_block hr (by decide) (by rfl) (pa_cons (pe_slice (r := rSlA K) sl_tupA (pv 5) po_none (po_some (pe_callB (r := rLenS K) call_len_seq (by rfl) T.n_len PySem.boot_len (pa_cons (pv 3) pa_nil)))) (pa_cons pe_int pa_nil))) (pv 3) (nomark _)))))
    (pss_one (ps_ret pe_bl))
    pss_nil)
    (pss_cons (ps_if (PW.pt (pw_and (pt_cmpR op_gt (pv 4) pe_int (nomark _)) (pw_and1 (pt_cmpR (op_neD (hu64 hr)) (pe_callD D_encode_block hr (by decide) (by rfl) (pa_cons (pe_slice (r := rSlA K) sl_tupA (pv 5) po_none (po_some (pe_op op_add (pe_callB (r := rLenS K) call_len_seq (by rfl) T.n_len PySem.boot_len (pa_cons (pv 3) pa_nil)) pe_int))) (pa_cons (pe_op op_sub (pv 4) pe_int) pa_nil))) (pv 5) (nomark _)))))
    (pss_one (ps_ret pe_bl))
    pss_nil)
    (pss_cons (ps_set (i := 8) sc_law.nd rfl (by walk_at "sq_cell") (pe_callD D__law_erased hr (by decide) (by rfl) (pa_cons (pv 1) (pa_cons (pv 5) (pa_cons (pv 4) pa_nil)))))
    (pss_cons (ps_if (pt_cmpR (op_neD (hu64 hr)) (pe_callD D_decode_block hr (by decide) (by rfl) (pa_cons (pv 8) (pa_cons (pv 4) pa_nil))) (pv 3) (nomark _))
    (pss_one (ps_ret pe_bl))
    pss_nil)
    (pss_cons (ps_set (i := 9) sc_law.nd rfl (by walk_at "sq_cell") (pe_callD D__law_taken hr (by decide) (by rfl) (pa_cons (pv 1) (pa_cons pe_int pa_nil))))
    (pss_cons (ps_set (i := 10) sc_law.nd rfl (by walk_at "sq_cell") (pe_callTy (r := rTupOf K) call_tuple_of (by rfl) T.n_tuple (by decide +kernel) (pa_cons (pe_lc (own := [("_law_one", 11)]) (g := gName 11) (tt := _) rfl sc_law.nd (pi_tup (pv 3)) (blkOk_by (own := [("_law_one", 11)]) (N := ["_law_script", "_law_row", "_law_turn", "_law_data_here", "_law_checks", "_law_block", "_law_few", "_law_more", "_law_seen", "_law_times", "_law_scaled", "_law_one", "_law_other", "_law_sums", "_law_two"]) (sc := defScope s_law) (by decide +kernel)) (fun _ _ _ _ _ => pg_name (i := 11) sc_law.nd rfl (by walk_at "sq_cell")) (fun _ _ _ _ _ => pts_nil) (fun _ _ _ _ _ => (pe_callD D_multiply hr (by decide) (by rfl) (pa_cons (pv 9) (pa_cons (pv 11) pa_nil))))) pa_nil)))
    (pss_cons (ps_if (pt_cmpR (op_neD (hu64 hr)) (pe_callD D_encode_block hr (by decide) (by rfl) (pa_cons (pv 10) (pa_cons (pv 4) pa_nil))) (pe_callTy (r := rTupOf K) call_tuple_of (by rfl) T.n_tuple (by decide +kernel) (pa_cons (pe_lc (own := [("_law_one", 11)]) (g := gName 11) (tt := _) rfl sc_law.nd (pi_tup (pv 5)) (blkOk_by (own := [("_law_one", 11)]) (N := ["_law_script", "_law_row", "_law_turn", "_law_data_here", "_law_checks", "_law_block", "_law_few", "_law_more", "_law_seen", "_law_times", "_law_scaled", "_law_one", "_law_other", "_law_sums", "_law_two"]) (sc := defScope s_law) (by decide +kernel)) (fun _ _ _ _ _ => pg_name (i := 11) sc_law.nd rfl (by walk_at "sq_cell")) (fun _ _ _ _ _ => pts_nil) (fun _ _ _ _ _ => (pe_callD D_multiply hr (by decide) (by rfl) (pa_cons (pv 9) (pa_cons (pv 11) pa_nil))))) pa_nil)) (nomark _))
    (pss_one (ps_ret pe_bl))
    pss_nil)
    (pss_cons (ps_set (i := 12) sc_law.nd rfl (by walk_at "sq_cell") (pe_callTy (r := rTupOf K) call_tuple_of (by rfl) T.n_tuple (by decide +kernel) (pa_cons (pe_lc (own := [("_law_one", 11)]) (g := gName 11) (tt := _) rfl sc_law.nd (pi_tup (pv 3)) (blkOk_by (own := [("_law_one", 11)]) (N := ["_law_script", "_law_row", "_law_turn", "_law_data_here", "_law_checks", "_law_block", "_law_few", "_law_more", "_law_seen", "_law_times", "_law_scaled", "_law_one", "_law_other", "_law_sums", "_law_two"]) (sc := defScope s_law) (by decide +kernel)) (fun _ _ _ _ _ => pg_name (i := 11) sc_law.nd rfl (by walk_at "sq_cell")) (fun _ _ _ _ _ => pts_nil) (fun _ _ _ _ _ => (pe_callD D__law_taken hr (by decide) (by rfl) (pa_cons (pv 1) (pa_cons pe_int pa_nil))))) pa_nil)))
    (pss_cons (ps_set (i := 13) sc_law.nd rfl (by walk_at "sq_cell") (pe_callTy (r := rTupOf K) call_tuple_of (by rfl) T.n_tuple (by decide +kernel) (pa_cons (pe_lc (own := [("_law_one", 11), ("_law_two", 14)]) (g := gTup K 2 (gCons (gName 11) (gCons (gName 14) gNil))) (tt := _) rfl sc_law.nd (RZ.pi_zipA (by rfl) T.n_zip (pa_cons (pv 3) (pa_cons (pv 12) pa_nil))) (blkOk_by (own := [("_law_one", 11), ("_law_two", 14)]) (N := ["_law_script", "_law_row", "_law_turn", "_law_data_here", "_law_checks", "_law_block", "_law_few", "_law_more", "_law_seen", "_law_times", "_law_scaled", "_law_one", "_law_other", "_law_sums", "_law_two"]) (sc := defScope s_law) (by decide +kernel)) (fun _ _ _ _ _ => pg_tup (by rfl) (pgs_cons (pg_name (i := 11) sc_law.nd rfl (Or.inl rfl)) (pgs_cons (pg_name (i := 14) sc_law.nd rfl (Or.inl rfl)) pgs_nil))) (fun _ _ _ _ _ => pts_nil) (fun _ _ _ _ _ => (pe_callD D_add hr (by decide) (by rfl) (pa_cons (pv 11) (pa_cons (pv 14) pa_nil))))) pa_nil)))
    (pss_cons (ps_if (pt_cmpR (op_neD (hu64 hr)) (pe_callD D_encode_block hr (by decide) (by rfl) (pa_cons (pv 13) (pa_cons (pv 4) pa_nil))) (pe_callTy (r := rTupOf K) call_tuple_of (by rfl) T.n_tuple (by decide +kernel) (pa_cons (pe_lc (own := [("_law_one", 11), ("_law_two", 14)]) (g := gTup K 2 (gCons (gName 11) (gCons (gName 14) gNil))) (tt := _) rfl sc_law.nd (RZ.pi_zipA (by rfl) T.n_zip (pa_cons (pv 5) (pa_cons (pe_callD D_encode_block hr (by decide) (by rfl) (pa_cons (pv 12) (pa_cons (pv 4) pa_nil))) pa_nil))) (blkOk_by (own := [("_law_one", 11), ("_law_two", 14)]) (N := ["_law_script", "_law_row", "_law_turn", "_law_data_here", "_law_checks", "_law_block", "_law_few", "_law_more", "_law_seen", "_law_times", "_law_scaled", "_law_one", "_law_other", "_law_sums", "_law_two"]) (sc := defScope s_law) (by decide +kernel)) (fun _ _ _ _ _ => pg_tup (by rfl) (pgs_cons (pg_name (i := 11) sc_law.nd rfl (Or.inl rfl)) (pgs_cons (pg_name (i := 14) sc_law.nd rfl (Or.inl rfl)) pgs_nil))) (fun _ _ _ _ _ => pts_nil) (fun _ _ _ _ _ => (pe_callD D_add hr (by decide) (by rfl) (pa_cons (pv 11) (pa_cons (pv 14) pa_nil))))) pa_nil)) (nomark _))
    (pss_one (ps_ret pe_bl))
    pss_nil)
    (pss_one (ps_if (pt_cmpR (op_neD (hu64 hr)) (pe_callD D_encode_block hr (by decide) (by rfl) (pa_cons (pe_op op_repA (pe_tup (pa_cons (pv 9) pa_nil)) (pe_callB (r := rLenS K) call_len_seq (by rfl) T.n_len PySem.boot_len (pa_cons (pv 3) pa_nil))) (pa_cons (pv 4) pa_nil))) (pe_op op_repA (pe_tup (pa_cons (pv 9) pa_nil)) (pe_callB (r := rLenS K) call_len_seq (by rfl) T.n_len PySem.boot_len (pa_cons (pv 5) pa_nil))) (nomark _))
    (pss_one (ps_ret pe_bl))
    pss_nil)))))))))))))))))
    (pss_one (ps_ret pe_bl))))), ?_⟩

    refine q_asgL (el_lst (ea_cons (ev_var rfl) (ea_cons ev_c (ea_cons ev_c (ea_cons ev_c ea_nil)))) (by show 4 ≤ 100000; decide)) fun r H1 hn e1 hr => ?_
    refine ⟨r, a, 0, 0, 0, ⟨by decide, by decide, by decide, by decide⟩, hr, ?_⟩
    have hrow : RowAt K (upd H1 r (rowF r a)) r := ⟨a, ns, upd_same, row_keep (ex_l e1 hS) hr⟩
    have hG : Ex H (upd H1 r (rowF r a)) := Ex.mut e1 hn
    have hP1 := hT _ (List.mem_cons_self)
    have hP2 := hT _ (List.mem_cons_of_mem _ (List.mem_cons_self))
    generalize upd H1 r (rowF r a) = G at hrow hG ⊢
    have hP1 := hG _ _ hP1
    have hP2 := hG _ _ hP2
    have enc : ∀ {es : List Int} {k : Int} {H1 : Hp} {u : Addr}, Ex G H1 → SqT K H1 u (es.map V.int) → DataOk es k → SpU (spEncode K p__require_data) [.ref u, .int k] H1 ((blockOf es (es.length + k.toNat)).map V.int) := fun e hu ok => spu_encode hu (e _ _ hP1) ok
    refine q_forR1 (ea_cons ev_c ea_nil) (by decide) (fun i σ' H' => Ex G H' ∧ ∃ x2 x3 x4 x5 x6 x7 x8 x9 x10 x11 x12 x13 x14, σ' = [some (.ref a), some (.ref r), x2, x3, x4, x5, x6, x7, x8, x9, x10, x11, x12, x13, x14]) (fun H1 e1 => ⟨e1, _, _, _, _, _, _, _, _, _, _, _, _, _, rfl⟩) ?_ ?_
    · rintro i σ' H' hi ⟨e0, x2, x3, x4, x5, x6, x7, x8, x9, x10, x11, x12, x13, x14, rfl⟩
      refine q_asgG ⟨_, rfl, r, 10, rfl, by decide, by decide, hrow.ex e0, fun ds c p t H2 ok hl e2 ht hp => ⟨p, _, rfl, st_of hp, rfl, _, _, rfl, _, _, rfl, rfl, ?_⟩⟩
      obtain ⟨hs, hne, hc0, hl16⟩ := id ok
      have e02 := e0.trans e2
      obtain ⟨m, rfl⟩ : ∃ m : Nat, c = (m : Int) := ⟨c.toNat, by omega⟩
      have hn : ds.length + m ≤ 16 := by omega
      have hpos : 0 < ds.length := List.length_pos_iff.mpr hne
      have hl0 : ds.length ≤ 16 := by omega
      refine q_asgU (xs := (blockOf ds (ds.length + m)).map V.int) (eu_callD (ea_cons (ev_var rfl) (ea_cons (ev_var rfl) ea_nil)) (enc e02 (st_of ht) ok)) fun b H3 hb e3 h3 => ?_
      have hB := block_len ds (ds.length + m)
      have sB := block_syms hs hl0 hn
      have e03 := e02.trans e3
      have ht3 := e3 _ _ ht
      refine q_forR1 (ea_cons (ev_op (ev_var rfl) ev_c rv_I0) ea_nil) (by omega) (fun j σ' H' => Ex H3 H' ∧ ∃ x6, σ' = [some (.ref a), some (.ref r), some (.int i), some (.ref t), some (.int (m : Int)), some (.ref b), x6, x7, x8, x9, x10, x11, x12, x13, x14]) (fun H4 e4 => ⟨e4, _, rfl⟩) ?_ ?_
      · rintro j σ' H' hj ⟨e4, x6, rfl⟩
        have hj : j ≤ m := by omega
        have okj : DataOk ds (j : Int) := ⟨hs, hne, by omega, by omega⟩
        refine s_when (b := false) (et_is (et_test (ev_neS (xs := blockOf ds (ds.length + j)) (ys := blockOf ds (ds.length + j)) (evs_U (eu_callD (ea_cons (ev_var rfl) (ea_cons (ev_var (v := .int (j : Int)) rfl) ea_nil)) (enc (e03.trans e4) (st_of (e4 _ _ ht3)) okj))) (evs_pre (k := ds.length + j) (ev_var rfl) (ev_is (ev_op (ev_lenT (ev_var rfl) (st_of (e4 _ _ ht3))) (ev_var (v := .int (j : Int)) rfl) rv_I0) (by rw [List.length_map]; exact congrArg V.int (by omega))) (st_of (e4 _ _ h3)) (block_pre (by omega))))) (by simp)) (fun z => nomatch z) fun _ H5 e5 => ⟨e4.trans e5, _, rfl⟩
      rintro σ' H4 ⟨e4, x6, rfl⟩
      have e04 := e03.trans e4
      have ht4 := e4 _ _ ht3
      have hb4 := e4 _ _ h3
      have bs := block_self (blockOf ds (ds.length + m))
      rw [hB] at bs
      have okB : DataOk (blockOf ds (ds.length + m)) 0 := ⟨sB, fun z => by rw [z] at hB; simp at hB; omega, by decide, by omega⟩
      refine q_asgU (xs := (blockOf ds (ds.length + m)).map V.int) (eu_callD (ea_cons (ev_var rfl) (ea_cons ev_c ea_nil)) (by
        have z := enc e04 (st_of hb4) okB
        rw [show (blockOf ds (ds.length + m)).length + (0 : Int).toNat = ds.length + m from hB, bs] at z
        exact z)) fun mo H5 hmo e5 h5 => ?_
      have e05 := e04.trans e5
      have ht5 := e5 _ _ ht4
      have hb5 := e5 _ _ hb4
      have ok0 : DataOk ds 0 := ⟨hs, hne, by decide, by omega⟩
      have pre0 : (blockOf ds (ds.length + m)).take ds.length = ds := by rw [block_pre (by omega), block_self]
      have en0 : ∀ {H1 : Hp} {u : Addr}, Ex G H1 → SqT K H1 u (ds.map V.int) → SpU (spEncode K p__require_data) [.ref u, .int 0] H1 (ds.map V.int) := fun e hu => by
        have z := enc e hu ok0
        rw [show ds.length + (0 : Int).toNat = ds.length from rfl, block_self] at z
        exact z
      refine q_when (b := false) (et_is (et_or (et_test (ev_neS (xs := blockOf ds (ds.length + m)) (ys := blockOf ds (ds.length + m)) (evs_V (ev_var rfl) (st_of h5)) (evs_V (ev_var rfl) (st_of hb5)))) fun _ => et_test (ev_neS (xs := ds) (ys := ds) (evs_U (eu_callS (evs_pre (k := ds.length) (ev_var rfl) (ev_is (ev_lenT (ev_var rfl) (st_of ht5)) (by rw [List.length_map])) (st_of hb5) pre0) ev_c fun u H6 e6 hu => en0 (e05.trans e6) hu)) (evs_V (ev_var rfl) (st_of ht5)))) (by simp)) (fun z => nomatch z) fun _ H6 e6 => ?_
      have e06 := e05.trans e6
      have ht6 := e6 _ _ ht5
      have hb6 := e6 _ _ hb5
      refine q_when (b := false) (et_is (et_and (b := false) (et_test (ev_op (ev_var rfl) ev_c rv_I0)) fun hz => ?_) (Bool.and_false _)) (fun z => nomatch z) fun _ H7 e7 => ?_
      · have hm : 1 ≤ m := by
          have := of_decide_eq_true hz
          omega
        have b1 := block_len ds (ds.length + 1)
        have ok1 : DataOk (blockOf ds (ds.length + 1)) ((m : Int) - 1) := ⟨block_syms hs hl0 (by omega), fun z => by rw [z] at b1; simp at b1, by omega, by omega⟩
        refine et_is (et_test (ev_neS (xs := blockOf ds (ds.length + m)) (ys := blockOf ds (ds.length + m)) (evs_U (eu_callS (evs_pre (k := ds.length + 1) (z := blockOf ds (ds.length + 1)) (ev_var rfl) (ev_is (ev_op (ev_lenT (ev_var rfl) (st_of ht6)) ev_c rv_I0) (by rw [List.length_map]; exact congrArg V.int (by omega))) (st_of hb6) (block_pre (by omega))) (ev_op (ev_var rfl) ev_c rv_I0) fun u H8 e8 hu => ?_)) (evs_V (ev_var rfl) (st_of hb6)))) (by simp)
        have z := enc (e06.trans e8) hu ok1
        rw [b1, show ds.length + 1 + ((m : Int) - 1).toNat = ds.length + m by omega, block_more hs (by omega) (by omega) hn] at z
        exact z
      have e07 := e06.trans e7
      have ht7 := e7 _ _ ht6
      have hb7 := e7 _ _ hb6
      refine q_asgR ((ea_cons (ev_var rfl) (ea_cons (ev_var rfl) (ea_cons (ev_var rfl) ea_nil))) H7 (Ex.refl H7) _ fun H8 e8 => ⟨r, b, blockOf ds (ds.length + m), m, rfl, hrow.ex (e07.trans e8), st_of (e8 _ _ hb7), by omega, by omega, fun se rr l H9 e9 hse L ll => ?_⟩)
      have e09 := (e07.trans e8).trans e9
      have ht9 := e9 _ _ (e8 _ _ ht7)
      have hb9 := e9 _ _ (e8 _ _ hb7)
      have rl : rr.length = ds.length + m := by rw [L.len, hB]
      have rok := left_rec hs hl0 (by omega) hn L
      refine q_when (b := false) (et_is (et_test (ev_neS (xs := ds) (ys := ds) (evs_U (eu_callD (ea_cons (ev_var rfl) (ea_cons (ev_var rfl) ea_nil)) (spu_dec (st_of hse) (e09 _ _ hP2) rok (by omega) (by omega) (by omega) hs (by rw [left_known L]; omega) (left_agrees L)))) (evs_V (ev_var rfl) (st_of ht9)))) (by simp)) (fun z => nomatch z) fun _ Ha ea => ?_
      have e0a := e09.trans ea
      have hta := ea _ _ ht9
      have hba := ea _ _ hb9
      refine q_asgP (p := intB 16) (evp_takenC (ev_var rfl) ev_c (by decide) (hrow.ex e0a)) fun v Hb hv eb => ?_
      obtain ⟨s, rfl, s0, s1⟩ := hv
      have ss : Sym s := ⟨s0, by omega⟩
      have e0b := e0a.trans eb
      have htb := eb _ _ hta
      have hbb := eb _ _ hba
      have mulS : ∀ {w : List Int} {tl : TE} {u : Addr} {ta tb : TE} {σ : L2.St} {H1 : Hp} {vs : List Nat}, (∀ x ∈ w, Sym x) → w.length ≤ 16 → Ev tl σ H1 (.ref u) → SqT K H1 u (w.map V.int) → (∀ x, wipe ((wipe σ vs).set 11 (some x)) vs = wipe σ vs) → (∀ x H2, Ex H1 H2 → Ev ta ((wipe σ vs).set 11 (some x)) H2 (.int s)) → (∀ x H2, Ex H1 H2 → Ev tb ((wipe σ vs).set 11 (some x)) H2 x) →
          EvU (tCB (rTupOf K) (tCons (tLc (iTup K tl) (gName 11) tYes (tCall spMul [] E0 (tCons ta (tCons tb tNil))) vs) tNil)) σ H1 ((w.map fun x => gmul s x).map V.int) := fun {w} {tl u ta tb σ H1 vs} hw wl h hu hwi h1 h2 => by
        rw [← given_map]
        refine eu_tupL (el_lcT _ _ h hu (by rw [List.length_map]; omega) hwi (fun _ _ _ _ _ H9 _ _ q9 => q9 H9 (Ex.refl H9)) fun n x H2 e2 hx _ => ?_)
        obtain ⟨rfl, hm⟩ := map_atD hx
        exact ev_callD (ea_cons (h1 _ H2 e2) (ea_cons (h2 _ H2 e2) ea_nil)) (spv_I2 (p := Sym2) ⟨ss, hw _ hm⟩)
      refine q_asgU (xs := (ds.map fun x => gmul s x).map V.int) (mulS hs hl0 (ev_var rfl) (st_of htb) (fun _ => rfl) (fun _ _ _ => ev_var rfl) (fun _ _ _ => ev_var rfl)) fun sc Hc hsc ec h_c => ?_
      have e0c := e0b.trans ec
      have htc := ec _ _ htb
      have hbc := ec _ _ hbb
      have okS : DataOk (ds.map fun x => gmul s x) (m : Int) := ⟨map_syms hs fun x hx => sym_mul ss hx, fun z => hne (List.map_eq_nil_iff.mp z), by omega, by rw [List.length_map]; omega⟩
      refine q_when (b := false) (et_is (et_test (ev_neS (xs := (blockOf ds (ds.length + m)).map fun x => gmul s x) (ys := (blockOf ds (ds.length + m)).map fun x => gmul s x) (evs_U (eu_callD (ea_cons (ev_var rfl) (ea_cons (ev_var rfl) ea_nil)) (by
        have z := enc e0c (st_of h_c) okS
        rw [List.length_map, show ds.length + (m : Int).toNat = ds.length + m from rfl, block_smul hs hl0 ss hn] at z
        exact z))) (evs_U (mulS sB (by omega) (ev_var rfl) (st_of hbc) (fun _ => rfl) (fun _ _ _ => ev_var rfl) (fun _ _ _ => ev_var rfl))))) (by simp)) (fun z => nomatch z) fun _ Hd ed => ?_
      have e0d := e0c.trans ed
      have htd := ed _ _ htc
      have hbd := ed _ _ hbc
      refine q_asgUP (up_tupL (lp_tup (ev_var rfl) (st_of htd) (by rw [List.length_map]; omega) (fun _ => rfl) fun n x H5 e5 hx => evp_takenC (ev_var rfl) ev_c (by decide) (hrow.ex (e0d.trans e5)))) fun ys o He hPy ho ee he => ?_
      obtain ⟨yl, hy⟩ := hPy
      obtain ⟨es, rfl, hes⟩ := ints_of hy
      rw [List.length_map, List.length_map] at yl
      have hse2 : ∀ x ∈ es, Sym x := fun x hx => ⟨(hes x hx).1, by have := (hes x hx).2; omega⟩
      have e0e := e0d.trans ee
      have hte := ee _ _ htd
      have hbe := ee _ _ hbd
      have addS : ∀ {v w : List Int} {t1 t2 : TE} {ta tb : TE} {σ : L2.St} {H1 : Hp} {vs : List Nat}, (∀ x ∈ v, Sym x) → (∀ x ∈ w, Sym x) → v.length = w.length → v.length ≤ 16 → EvS K t1 σ H1 (v.map V.int) → EvS K t2 σ H1 (w.map V.int) → (∀ x y, wipe (((wipe σ vs).set 11 (some x)).set 14 (some y)) vs = wipe σ vs) → (∀ x y H2, Ex H1 H2 → Ev ta (((wipe σ vs).set 11 (some x)).set 14 (some y)) H2 x) → (∀ x y H2, Ex H1 H2 → Ev tb (((wipe σ vs).set 11 (some x)).set 14 (some y)) H2 y) →
          EvU (tCB (rTupOf K) (tCons (tLc (RZ.iZipA K (tCons t1 (tCons t2 tNil))) (gTup K 2 (gCons (gName 11) (gCons (gName 14) gNil))) tYes (tCall spAdd [] E0 (tCons ta (tCons tb tNil))) vs) tNil)) σ H1 ((List.zipWith gadd v w).map V.int) := fun {v w t1 t2 ta tb σ H1 vs} hv hw hvw vl h1 h2 hwi h3 h4 => by
        rw [← given_zip hvw]
        refine eu_tupL (el_lcZT _ h1 h2 (by rw [List.length_map, List.length_map]; exact hvw) (by rw [List.length_map]; omega) hwi fun n x y H2 e2 hx hy => ?_)
        obtain ⟨rfl, hm1⟩ := map_atD hx
        obtain ⟨rfl, hm2⟩ := map_atD hy
        exact ev_callD (ea_cons (h3 _ _ H2 e2) (ea_cons (h4 _ _ H2 e2) ea_nil)) (spv_I2 (p := Sym2) ⟨hv _ hm1, hw _ hm2⟩)
      refine q_asgU (xs := (List.zipWith gadd ds es).map V.int) (addS hs hse2 yl.symm hl0 (evs_V (ev_var rfl) (st_of hte)) (evs_V (ev_var rfl) (st_of he)) (fun _ _ => rfl) (fun _ _ _ _ => ev_var rfl) (fun _ _ _ _ => ev_var rfl)) fun sm Hf hsm ef hf => ?_
      have e0f := e0e.trans ef
      have htf := ef _ _ hte
      have hbf := ef _ _ hbe
      have hof := ef _ _ he
      have zl : (List.zipWith gadd ds es).length = ds.length := by rw [List.length_zipWith, yl, Nat.min_self]
      have okE : DataOk es (m : Int) := ⟨hse2, fun z => by rw [z] at yl; simp at yl; omega, by omega, by omega⟩
      have okZ : DataOk (List.zipWith gadd ds es) (m : Int) := by
        refine ⟨fun x hx => ?_, fun z => by rw [z] at zl; simp at zl; omega, by omega, by omega⟩
        obtain ⟨j, hj⟩ := List.mem_iff_getElem?.mp hx
        rw [List.getElem?_zipWith] at hj
        cases h1 : ds[j]? with
        | none => rw [h1] at hj; cases hj
        | some y =>
          cases h2 : es[j]? with
          | none => rw [h1, h2] at hj; cases hj
          | some z =>
            rw [h1, h2] at hj
            cases hj
            exact sym_add (hs y (List.mem_of_getElem? h1)) (hse2 z (List.mem_of_getElem? h2))
      refine q_when (b := false) (et_is (et_test (ev_neS (xs := List.zipWith gadd (blockOf ds (ds.length + m)) (blockOf es (ds.length + m))) (ys := List.zipWith gadd (blockOf ds (ds.length + m)) (blockOf es (ds.length + m))) (evs_U (eu_callD (ea_cons (ev_var rfl) (ea_cons (ev_var rfl) ea_nil)) (by
        have z := enc e0f (st_of hf) okZ
        rw [zl, show ds.length + (m : Int).toNat = ds.length + m from rfl, block_sum hs hse2 yl hl0 hn] at z
        exact z))) (evs_U (addS sB (block_syms hse2 (by omega) hn) (by rw [block_len, block_len]) (by omega) (evs_V (ev_var rfl) (st_of hbf)) (evs_U (eu_callD (ea_cons (ev_var rfl) (ea_cons (ev_var rfl) ea_nil)) (by
        have z := enc e0f (st_of hof) okE
        rw [yl] at z
        exact z))) (fun _ _ => rfl) (fun _ _ _ _ => ev_var rfl) (fun _ _ _ _ => ev_var rfl))))) (by simp)) (fun z => nomatch z) fun _ Hg eg => ?_
      have e0g := e0f.trans eg
      have htg := eg _ _ htf
      have hbg := eg _ _ hbf
      have okR : DataOk (List.replicate ds.length s) (m : Int) := ⟨fun x hx => by rw [(List.mem_replicate.mp hx).2]; exact ss, fun z => hne (List.length_eq_zero_iff.mp (by have y := congrArg List.length z; rw [List.length_replicate] at y; exact y)), by omega, by rw [List.length_replicate]; omega⟩
      have repS : ∀ {ta tb : TE} {σ : L2.St} {H1 : Hp} {k : Nat}, Ev ta σ H1 (.int s) → Ev tb σ H1 (.int (k : Int)) → 1 ≤ k → k ≤ 16 → EvS K (tOp (rRepA K) (tTup (tCons ta tNil)) tb) σ H1 ((List.replicate k s).map V.int) := fun h1 h2 k1 k2 => by
        rw [← rep_flat]
        exact evs_repA (xs := [.int s]) (evs_U (eu_tup (ea_cons h1 ea_nil) (by show 1 ≤ 100000; decide))) h2 (fun z => nomatch z) (by omega) (by show 1 ≤ 1000; decide)
      refine s_when (b := false) (et_is (et_test (ev_neS (xs := List.replicate (ds.length + m) s) (ys := List.replicate (ds.length + m) s) (evs_U (eu_callS (repS (k := ds.length) (ev_var rfl) (ev_is (ev_lenT (ev_var rfl) (st_of htg)) (by rw [List.length_map])) hpos hl0) (ev_var rfl) fun u H8 e8 hu => by
        have z := enc (e0g.trans e8) hu okR
        rw [List.length_replicate, show ds.length + (m : Int).toNat = ds.length + m from rfl, block_rep ss hpos hl0 hn] at z
        exact z)) (repS (k := ds.length + m) (ev_var rfl) (ev_is (ev_lenT (ev_var rfl) (st_of hbg)) (by rw [List.length_map, hB])) (by omega) hn))) (by simp)) (fun z => nomatch z) fun _ Hh eh => ⟨e0g.trans eh, _, _, _, _, _, _, _, _, _, _, _, _, _, rfl⟩
    · rintro σ' H' ⟨e0, x2, x3, x4, x5, x6, x7, x8, x9, x10, x11, x12, x13, x14, rfl⟩
      exact s_ret ev_c fun H2 e2 => q H2 ((hG.trans e0).trans e2)
end
end Qk20

namespace Zk20
open PySem PySem.Spec PyProof.Rows L2 Sq Qk20
def d_add : He.DefD := ⟨("add", none), "add", "add", defArgs s_add, defBody s_add, defScope s_add, [], []⟩
def d_multiply : He.DefD := ⟨("multiply", none), "multiply", "multiply", defArgs s_multiply, defBody s_multiply, defScope s_multiply, [], []⟩
def d_is_number : He.DefD := ⟨("is_number", none), "is_number", "is_number", defArgs s_is_number, defBody s_is_number, defScope s_is_number, [], []⟩
def d_is_symbol : He.DefD := ⟨("is_symbol", none), "is_symbol", "is_symbol", defArgs s_is_symbol, defBody s_is_symbol, defScope s_is_symbol, [], []⟩
def d_times : He.DefD := ⟨("times", none), "times", "times", defArgs s_times, defBody s_times, defScope s_times, [], []⟩
def d_over : He.DefD := ⟨("over", none), "over", "over", defArgs s_over, defBody s_over, defScope s_over, [], []⟩
def d__require_symbols : He.DefD := ⟨("_require_symbols", none), "_require_symbols", "_require_symbols", defArgs s__require_symbols, defBody s__require_symbols, defScope s__require_symbols, [], []⟩
def d_encode_block : He.DefD := ⟨("encode_block", none), "encode_block", "encode_block", defArgs s_encode_block, defBody s_encode_block, defScope s_encode_block, [], []⟩
def d_decode_block : He.DefD := ⟨("decode_block", none), "decode_block", "decode_block", defArgs s_decode_block, defBody s_decode_block, defScope s_decode_block, [], []⟩
def d__require_data : He.DefD := ⟨("_require_data", none), "_require_data", "_require_data", defArgs s__require_data, defBody s__require_data, defScope s__require_data, [], []⟩
def d__require_received : He.DefD := ⟨("_require_received", none), "_require_received", "_require_received", defArgs s__require_received, defBody s__require_received, defScope s__require_received, [], []⟩
def d__known_indexes : He.DefD := ⟨("_known_indexes", none), "_known_indexes", "_known_indexes", defArgs s__known_indexes, defBody s__known_indexes, defScope s__known_indexes, [], []⟩
def d__radius : He.DefD := ⟨("_radius", none), "_radius", "_radius", defArgs s__radius, defBody s__radius, defScope s__radius, [], []⟩
def d__covering_entries : He.DefD := ⟨("_covering_entries", none), "_covering_entries", "_covering_entries", defArgs s__covering_entries, defBody s__covering_entries, defScope s__covering_entries, [], []⟩
def d__without_pairs : He.DefD := ⟨("_without_pairs", none), "_without_pairs", "_without_pairs", defArgs s__without_pairs, defBody s__without_pairs, defScope s__without_pairs, [], []⟩
def d__count_differences : He.DefD := ⟨("_count_differences", none), "_count_differences", "_count_differences", defArgs s__count_differences, defBody s__count_differences, defScope s__count_differences, [], []⟩
def d__values_through : He.DefD := ⟨("_values_through", none), "_values_through", "_values_through", defArgs s__values_through, defBody s__values_through, defScope s__values_through, [], []⟩
def d__values : He.DefD := ⟨("_values", none), "_values", "_values", defArgs s__values, defBody s__values, defScope s__values, [], []⟩
def d__value : He.DefD := ⟨("_value", none), "_value", "_value", defArgs s__value, defBody s__value, defScope s__value, [], []⟩
def d__distance_product : He.DefD := ⟨("_distance_product", none), "_distance_product", "_distance_product", defArgs s__distance_product, defBody s__distance_product, defScope s__distance_product, [], []⟩
def d__law_taken : He.DefD := ⟨("_law_taken", none), "_law_taken", "_law_taken", defArgs s__law_taken, defBody s__law_taken, defScope s__law_taken, [], []⟩
def d__law_data : He.DefD := ⟨("_law_data", none), "_law_data", "_law_data", defArgs s__law_data, defBody s__law_data, defScope s__law_data, [], []⟩
def d__law_erased : He.DefD := ⟨("_law_erased", none), "_law_erased", "_law_erased", defArgs s__law_erased, defBody s__law_erased, defScope s__law_erased, [], []⟩
def d_law : He.DefD := ⟨("law", none), "law", "law", defArgs s_law, defBody s_law, defScope s_law, [], []⟩
def fn : List He.DefD := [d_add, d_multiply, d_is_number, d_is_symbol, d_times, d_over, d__require_symbols, d_encode_block, d_decode_block, d__require_data, d__require_received, d__known_indexes, d__radius, d__covering_entries, d__without_pairs, d__count_differences, d__values_through, d__values, d__value, d__distance_product, d__law_taken, d__law_data, d__law_erased, d_law]
def fa : List He.Fa := [.glo "add", .glo "multiply", .glo "is_number", .glo "is_symbol", .glo "times", .glo "over", .glo "_require_symbols", .glo "encode_block", .glo "decode_block", .glo "_require_data", .glo "_require_received", .glo "_known_indexes", .glo "_radius", .glo "_covering_entries", .glo "_without_pairs", .glo "_count_differences", .glo "_values_through", .glo "_values", .glo "_value", .glo "_distance_product", .glo "_law_taken", .glo "_law_data", .glo "_law_erased", .glo "law", .free "isinstance", .free "int", .free "bool", .free "dict", .free "tuple", .free "enumerate", .free "len", .free "all", .free "range", .free "min", .free "list", .free "zip", .int "_LONGEST_BLOCK" 16, .glo "_POWERS", .glo "_EXPONENTS"]
def tf : List He.Defn := [("_require_data", none), ("_require_received", none)]
def ex (K : PySem.W.Frag) : Bool := true && He.tupB K "_POWERS" [.int 1, .int 2, .int 4, .int 8, .int 3, .int 6, .int 12, .int 11, .int 5, .int 10, .int 7, .int 14, .int 15, .int 13, .int 9, .int 1, .int 2, .int 4, .int 8, .int 3, .int 6, .int 12, .int 11, .int 5, .int 10, .int 7, .int 14, .int 15, .int 13, .int 9] && He.tupB K "_EXPONENTS" [.int 0, .int 0, .int 1, .int 4, .int 2, .int 8, .int 5, .int 10, .int 3, .int 14, .int 9, .int 7, .int 6, .int 13, .int 11, .int 12] && He.eqO (PySem.W.nsIn K mainGlobals "combinations") (some (some (.type "itertools.combinations")))
abbrev R : PySem.W.OpenRow := PySem.W.OpenLaw.row PySem.Challenge.rw_squaremark_k20_whole_blocks_of_fewer_dat
abbrev hk : PySem.W.Hook := He.hookX 4 fa fn [] tf ex
def ob (s : PySem.W.SharedT) : He.AlX := He.obsX 4 fa fn [] tf ex (HandSHeadRun.getT s)
theorem ob_eq (s : PySem.W.SharedT) : ob s = hk.obs s.abs := He.obsX_eq (HandSHeadRun.getT_eq s)
def names : List Str := (["combinations", "SquaremarkError", "InvalidSymbol", "InvalidBlock", "_POWERS", "_EXPONENTS", "add", "multiply", "is_number", "is_symbol", "times", "over", "_require_symbols", "_LONGEST_BLOCK", "encode_block", "decode_block", "_require_data", "_require_received", "_known_indexes", "_radius", "_covering_entries", "_without_pairs", "_count_differences", "_values_through", "_values", "_value", "_distance_product", "_law_taken", "_law_data", "_law_erased"] : List Str)
theorem run (w : World) : HandSHeadRun.RunEqI R (PySem.W.view R.prog [0, 34]) hk ob 4000 names w := by
  unfold HandSHeadRun.RunEqI
  kernel_rfl
theorem facts {l : PySem.W.OpenLaw} {w : World} {K : PySem.W.Frag} {h : Heap} {mg : Str → Option Value} {f : Addr} (X : K.In h) (G : h.Ns mainGlobals mg) (hfa : mg ("law" : Str) = some (.ref f)) (c : He.SaysX fa fn [] tf ex w h K) : LamX.LawAtS l w K CX0 7 63 "_law_script" mg f h := by
  have cd := c.t.d
  have hex := c.more
  obtain ⟨fd0, E0⟩ := cd.def_ 0 (d := d_add) rfl
  obtain ⟨fd1, E1⟩ := cd.def_ 1 (d := d_multiply) rfl
  obtain ⟨fd2, E2⟩ := cd.def_ 2 (d := d_is_number) rfl
  obtain ⟨fd3, E3⟩ := cd.def_ 3 (d := d_is_symbol) rfl
  obtain ⟨fd4, E4⟩ := cd.def_ 4 (d := d_times) rfl
  obtain ⟨fd5, E5⟩ := cd.def_ 5 (d := d_over) rfl
  obtain ⟨fd6, E6⟩ := cd.def_ 6 (d := d__require_symbols) rfl
  obtain ⟨fd7, E7⟩ := cd.def_ 7 (d := d_encode_block) rfl
  obtain ⟨fd8, E8⟩ := cd.def_ 8 (d := d_decode_block) rfl
  obtain ⟨fd9, E9⟩ := cd.def_ 9 (d := d__require_data) rfl
  obtain ⟨fd10, E10⟩ := cd.def_ 10 (d := d__require_received) rfl
  obtain ⟨fd11, E11⟩ := cd.def_ 11 (d := d__known_indexes) rfl
  obtain ⟨fd12, E12⟩ := cd.def_ 12 (d := d__radius) rfl
  obtain ⟨fd13, E13⟩ := cd.def_ 13 (d := d__covering_entries) rfl
  obtain ⟨fd14, E14⟩ := cd.def_ 14 (d := d__without_pairs) rfl
  obtain ⟨fd15, E15⟩ := cd.def_ 15 (d := d__count_differences) rfl
  obtain ⟨fd16, E16⟩ := cd.def_ 16 (d := d__values_through) rfl
  obtain ⟨fd17, E17⟩ := cd.def_ 17 (d := d__values) rfl
  obtain ⟨fd18, E18⟩ := cd.def_ 18 (d := d__value) rfl
  obtain ⟨fd19, E19⟩ := cd.def_ 19 (d := d__distance_product) rfl
  obtain ⟨fd20, E20⟩ := cd.def_ 20 (d := d__law_taken) rfl
  obtain ⟨fd21, E21⟩ := cd.def_ 21 (d := d__law_data) rfl
  obtain ⟨fd22, E22⟩ := cd.def_ 22 (d := d__law_erased) rfl
  obtain ⟨fd23, E23⟩ := cd.def_ 23 (d := d_law) rfl
  have F0 : Fun K "add" "add" s_add (He.fAd K ("add", none)) fd0 := fun_of E0
  have b0 := F0.binds (ps := ["left", "right"]) fun _ _ _ _ _ _ us hl => match us, hl with | [_, _], _ => rfl
  have g0 := He.glo_ok X G (cd.fact 0 (f := .glo "add") rfl)
  have F1 : Fun K "multiply" "multiply" s_multiply (He.fAd K ("multiply", none)) fd1 := fun_of E1
  have b1 := F1.binds (ps := ["left", "right"]) fun _ _ _ _ _ _ us hl => match us, hl with | [_, _], _ => rfl
  have g1 := He.glo_ok X G (cd.fact 1 (f := .glo "multiply") rfl)
  have F2 : Fun K "is_number" "is_number" s_is_number (He.fAd K ("is_number", none)) fd2 := fun_of E2
  have b2 := F2.binds (ps := ["value"]) fun _ _ _ _ _ _ us hl => match us, hl with | [_], _ => rfl
  have g2 := He.glo_ok X G (cd.fact 2 (f := .glo "is_number") rfl)
  have F3 : Fun K "is_symbol" "is_symbol" s_is_symbol (He.fAd K ("is_symbol", none)) fd3 := fun_of E3
  have b3 := F3.binds (ps := ["value"]) fun _ _ _ _ _ _ us hl => match us, hl with | [_], _ => rfl
  have g3 := He.glo_ok X G (cd.fact 3 (f := .glo "is_symbol") rfl)
  have F4 : Fun K "times" "times" s_times (He.fAd K ("times", none)) fd4 := fun_of E4
  have b4 := F4.binds (ps := ["left", "right"]) fun _ _ _ _ _ _ us hl => match us, hl with | [_, _], _ => rfl
  have g4 := He.glo_ok X G (cd.fact 4 (f := .glo "times") rfl)
  have F5 : Fun K "over" "over" s_over (He.fAd K ("over", none)) fd5 := fun_of E5
  have b5 := F5.binds (ps := ["left", "right"]) fun _ _ _ _ _ _ us hl => match us, hl with | [_, _], _ => rfl
  have g5 := He.glo_ok X G (cd.fact 5 (f := .glo "over") rfl)
  have F6 : Fun K "_require_symbols" "_require_symbols" s__require_symbols (He.fAd K ("_require_symbols", none)) fd6 := fun_of E6
  have b6 := F6.binds (ps := ["left", "right"]) fun _ _ _ _ _ _ us hl => match us, hl with | [_, _], _ => rfl
  have g6 := He.glo_ok X G (cd.fact 6 (f := .glo "_require_symbols") rfl)
  have F7 : Fun K "encode_block" "encode_block" s_encode_block (He.fAd K ("encode_block", none)) fd7 := fun_of E7
  have b7 := F7.binds (ps := ["data", "check_count"]) fun _ _ _ _ _ _ us hl => match us, hl with | [_, _], _ => rfl
  have g7 := He.glo_ok X G (cd.fact 7 (f := .glo "encode_block") rfl)
  have F8 : Fun K "decode_block" "decode_block" s_decode_block (He.fAd K ("decode_block", none)) fd8 := fun_of E8
  have b8 := F8.binds (ps := ["received", "check_count"]) fun _ _ _ _ _ _ us hl => match us, hl with | [_, _], _ => rfl
  have g8 := He.glo_ok X G (cd.fact 8 (f := .glo "decode_block") rfl)
  have F9 : Fun K "_require_data" "_require_data" s__require_data (He.fAd K ("_require_data", none)) fd9 := fun_of E9
  have b9 := F9.binds (ps := ["data", "check_count"]) fun _ _ _ _ _ _ us hl => match us, hl with | [_, _], _ => rfl
  have g9 := He.glo_ok X G (cd.fact 9 (f := .glo "_require_data") rfl)
  have F10 : Fun K "_require_received" "_require_received" s__require_received (He.fAd K ("_require_received", none)) fd10 := fun_of E10
  have b10 := F10.binds (ps := ["received", "check_count"]) fun _ _ _ _ _ _ us hl => match us, hl with | [_, _], _ => rfl
  have g10 := He.glo_ok X G (cd.fact 10 (f := .glo "_require_received") rfl)
  have F11 : Fun K "_known_indexes" "_known_indexes" s__known_indexes (He.fAd K ("_known_indexes", none)) fd11 := fun_of E11
  have b11 := F11.binds (ps := ["received"]) fun _ _ _ _ _ _ us hl => match us, hl with | [_], _ => rfl
  have g11 := He.glo_ok X G (cd.fact 11 (f := .glo "_known_indexes") rfl)
  have F12 : Fun K "_radius" "_radius" s__radius (He.fAd K ("_radius", none)) fd12 := fun_of E12
  have b12 := F12.binds (ps := ["known", "data_count"]) fun _ _ _ _ _ _ us hl => match us, hl with | [_, _], _ => rfl
  have g12 := He.glo_ok X G (cd.fact 12 (f := .glo "_radius") rfl)
  have F13 : Fun K "_covering_entries" "_covering_entries" s__covering_entries (He.fAd K ("_covering_entries", none)) fd13 := fun_of E13
  have b13 := F13.binds (ps := ["known", "data_count"]) fun _ _ _ _ _ _ us hl => match us, hl with | [_, _], _ => rfl
  have g13 := He.glo_ok X G (cd.fact 13 (f := .glo "_covering_entries") rfl)
  have F14 : Fun K "_without_pairs" "_without_pairs" s__without_pairs (He.fAd K ("_without_pairs", none)) fd14 := fun_of E14
  have b14 := F14.binds (ps := ["known", "pairs", "count"]) fun _ _ _ _ _ _ us hl => match us, hl with | [_, _, _], _ => rfl
  have g14 := He.glo_ok X G (cd.fact 14 (f := .glo "_without_pairs") rfl)
  have F15 : Fun K "_count_differences" "_count_differences" s__count_differences (He.fAd K ("_count_differences", none)) fd15 := fun_of E15
  have b15 := F15.binds (ps := ["values", "received"]) fun _ _ _ _ _ _ us hl => match us, hl with | [_, _], _ => rfl
  have g15 := He.glo_ok X G (cd.fact 15 (f := .glo "_count_differences") rfl)
  have F16 : Fun K "_values_through" "_values_through" s__values_through (He.fAd K ("_values_through", none)) fd16 := fun_of E16
  have b16 := F16.binds (ps := ["entry", "received"]) fun _ _ _ _ _ _ us hl => match us, hl with | [_, _], _ => rfl
  have g16 := He.glo_ok X G (cd.fact 16 (f := .glo "_values_through") rfl)
  have F17 : Fun K "_values" "_values" s__values (He.fAd K ("_values", none)) fd17 := fun_of E17
  have b17 := F17.binds (ps := ["points", "length"]) fun _ _ _ _ _ _ us hl => match us, hl with | [_, _], _ => rfl
  have g17 := He.glo_ok X G (cd.fact 17 (f := .glo "_values") rfl)
  have F18 : Fun K "_value" "_value" s__value (He.fAd K ("_value", none)) fd18 := fun_of E18
  have b18 := F18.binds (ps := ["at", "points", "weights"]) fun _ _ _ _ _ _ us hl => match us, hl with | [_, _, _], _ => rfl
  have g18 := He.glo_ok X G (cd.fact 18 (f := .glo "_value") rfl)
  have F19 : Fun K "_distance_product" "_distance_product" s__distance_product (He.fAd K ("_distance_product", none)) fd19 := fun_of E19
  have b19 := F19.binds (ps := ["at", "points"]) fun _ _ _ _ _ _ us hl => match us, hl with | [_, _], _ => rfl
  have g19 := He.glo_ok X G (cd.fact 19 (f := .glo "_distance_product") rfl)
  have F20 : Fun K "_law_taken" "_law_taken" s__law_taken (He.fAd K ("_law_taken", none)) fd20 := fun_of E20
  have b20 := F20.binds (ps := ["_law_row", "_law_many"]) fun _ _ _ _ _ _ us hl => match us, hl with | [_, _], _ => rfl
  have g20 := He.glo_ok X G (cd.fact 20 (f := .glo "_law_taken") rfl)
  have F21 : Fun K "_law_data" "_law_data" s__law_data (He.fAd K ("_law_data", none)) fd21 := fun_of E21
  have b21 := F21.binds (ps := ["_law_row", "_law_most"]) fun _ _ _ _ _ _ us hl => match us, hl with | [_, _], _ => rfl
  have g21 := He.glo_ok X G (cd.fact 21 (f := .glo "_law_data") rfl)
  have F22 : Fun K "_law_erased" "_law_erased" s__law_erased (He.fAd K ("_law_erased", none)) fd22 := fun_of E22
  have b22 := F22.binds (ps := ["_law_row", "_law_block", "_law_count"]) fun _ _ _ _ _ _ us hl => match us, hl with | [_, _, _], _ => rfl
  have g22 := He.glo_ok X G (cd.fact 22 (f := .glo "_law_erased") rfl)
  have F23 : Fun K "law" "law" s_law (He.fAd K ("law", none)) fd23 := fun_of E23
  have g23 := He.glo_ok X G (cd.fact 23 (f := .glo "law") rfl)
  have e := hfa.symm.trans g23
  cases e
  simp only [ex, Bool.and_eq_true, Bool.true_and] at hex
  refine ⟨fd23, tf.map (He.cT K), spLawB K [(He.cT K ("_require_data", none)).2, (He.cT K ("_require_received", none)).2], fun p hp => ?_, fun p hp => ?_, fun p hp => ?_, fun s u => ?_, fun H a ns _ _ hT hS => ⟨a, ns, rfl, hS, fun p hp => ?_, fun _ => rfl⟩, fun base _ _ hB => law_tabs (Ps := [(He.cT K ("_require_data", none)).2, (He.cT K ("_require_received", none)).2]) ?_⟩
  · obtain ⟨q, hq, rfl⟩ := List.mem_map.mp hp
    exact c.empty q hq
  · obtain ⟨q, hq, rfl⟩ := List.mem_map.mp hp
    exact c.out q hq
  · obtain ⟨q, hq, rfl⟩ := List.mem_map.mp hp
    exact PySem.W.codeHd_of_K X (c.hd q hq)
  · exact FunD.bindsA (ps := ["_law_script"]) E23 (fun _ _ _ _ _ _ us hl => match us, hl with | [_], _ => rfl) s [u] rfl
  · simp only [List.mem_cons, List.not_mem_nil, or_false] at hp
    rcases hp with rfl | rfl
    · exact hT (He.cT K ("_require_data", none)) (List.mem_map.mpr ⟨_, by unfold tf; simp, rfl⟩)
    · exact hT (He.cT K ("_require_received", none)) (List.mem_map.mpr ⟨_, by unfold tf; simp, rfl⟩)
  have T : Tx K mg base (He.ga K "_POWERS") (He.ga K "_EXPONENTS") (He.cT K ("_require_data", none)).1 (He.cT K ("_require_data", none)).2 (He.cT K ("_require_received", none)).1 (He.cT K ("_require_received", none)).2 := ⟨trivial, He.free_ok X G (cd.fact 24 (f := .free "isinstance") rfl), He.free_ok X G (cd.fact 25 (f := .free "int") rfl), He.free_ok X G (cd.fact 26 (f := .free "bool") rfl), He.free_ok X G (cd.fact 27 (f := .free "dict") rfl), He.free_ok X G (cd.fact 28 (f := .free "tuple") rfl), He.free_ok X G (cd.fact 29 (f := .free "enumerate") rfl), He.free_ok X G (cd.fact 30 (f := .free "len") rfl), He.free_ok X G (cd.fact 31 (f := .free "all") rfl), He.free_ok X G (cd.fact 32 (f := .free "range") rfl), He.free_ok X G (cd.fact 33 (f := .free "min") rfl), He.free_ok X G (cd.fact 34 (f := .free "list") rfl), He.free_ok X G (cd.fact 35 (f := .free "zip") rfl), He.int_ok X G (cd.fact 36 (f := .int "_LONGEST_BLOCK" 16) rfl), He.glo_ok X G (cd.fact 37 (f := .glo "_POWERS") rfl), fun H => He.tupB_ok (hex.1.1) H, He.glo_ok X G (cd.fact 38 (f := .glo "_EXPONENTS") rfl), fun H => He.tupB_ok (hex.1.2) H, PySem.W.mg_of X G (He.eqO_ok (hex.2)), tabB_conv (hB (He.cT K ("_require_data", none)) (List.mem_map.mpr ⟨_, by unfold tf; simp, rfl⟩)), tabB_conv (hB (He.cT K ("_require_received", none)) (List.mem_map.mpr ⟨_, by unfold tf; simp, rfl⟩))⟩
  have D__law_taken : Dfn l.prog w K mg base 1 "_law_taken" ["_law_row", "_law_many"] (spTaken K) := Dfn.mk' (ok__law_taken (P := l.prog) (w := w) (base := base) (F20) T) g20 F20.kp b20
  have D__law_data : Dfn l.prog w K mg base 2 "_law_data" ["_law_row", "_law_most"] (spData K) := Dfn.mk' (ok__law_data (P := l.prog) (w := w) (base := base) (F21) T D__law_taken) g21 F21.kp b21
  have Rw_is_number := raw_is_number (P := l.prog) (w := w) (base := base) F2 g2 T
  have D_is_number : Dfn l.prog w K mg base 1 "is_number" ["value"] (spNum K) := Dfn.mk' (ok_is_number (P := l.prog) (w := w) (base := base) (F2) T) g2 F2.kp b2
  have Rw_is_symbol := raw_is_symbol (P := l.prog) (w := w) (base := base) F3 g3 T Rw_is_number
  have D_is_symbol : Dfn l.prog w K mg base 2 "is_symbol" ["value"] (spSym K) := Dfn.mk' (ok_is_symbol (P := l.prog) (w := w) (base := base) (F3) T D_is_number) g3 F3.kp b3
  have D__require_data : Dfn l.prog w K mg base 3 "_require_data" ["data", "check_count"] (spReqData K (He.cT K ("_require_data", none)).2) := Dfn.mk' (ok__require_data (P := l.prog) (w := w) (base := base) (funC_of F9) T Rw_is_symbol D_is_number D_is_symbol) g9 F9.kp b9
  have D_over : Dfn l.prog w K mg base 1 "over" ["left", "right"] spDiv := Dfn.mk' (ok_over (P := l.prog) (w := w) (base := base) (F5) T) g5 F5.kp b5
  have D_times : Dfn l.prog w K mg base 1 "times" ["left", "right"] spMul := Dfn.mk' (ok_times (P := l.prog) (w := w) (base := base) (F4) T) g4 F4.kp b4
  have D__distance_product : Dfn l.prog w K mg base 2 "_distance_product" ["at", "points"] spDist := Dfn.mk' (ok__distance_product (P := l.prog) (w := w) (base := base) (F19) T D_times) g19 F19.kp b19
  have D__value : Dfn l.prog w K mg base 3 "_value" ["at", "points", "weights"] spValue := Dfn.mk' (ok__value (P := l.prog) (w := w) (base := base) (F18) T D_times D_over D__distance_product) g18 F18.kp b18
  have D__values : Dfn l.prog w K mg base 4 "_values" ["points", "length"] spValues := Dfn.mk' (ok__values (P := l.prog) (w := w) (base := base) (F17) T D_over D__value D__distance_product) g17 F17.kp b17
  have D_encode_block : Dfn l.prog w K mg base 5 "encode_block" ["data", "check_count"] (spEncode K (He.cT K ("_require_data", none)).2) := Dfn.mk' (ok_encode_block (P := l.prog) (w := w) (base := base) (F7) T D__require_data D__values) g7 F7.kp b7
  have D__law_erased : Dfn l.prog w K mg base 2 "_law_erased" ["_law_row", "_law_block", "_law_count"] (spErase K) := Dfn.mk' (ok__law_erased (P := l.prog) (w := w) (base := base) (F22) T D__law_taken) g22 F22.kp b22
  have D__require_received : Dfn l.prog w K mg base 3 "_require_received" ["received", "check_count"] (spReqRec K (He.cT K ("_require_received", none)).2) := Dfn.mk' (ok__require_received (P := l.prog) (w := w) (base := base) (funC_of F10) T Rw_is_symbol D_is_number D_is_symbol) g10 F10.kp b10
  have D__known_indexes : Dfn l.prog w K mg base 1 "_known_indexes" ["received"] (spKnown K) := Dfn.mk' (ok__known_indexes (P := l.prog) (w := w) (base := base) (F11) T) g11 F11.kp b11
  have D__without_pairs : Dfn l.prog w K mg base 1 "_without_pairs" ["known", "pairs", "count"] (spWithout K) := Dfn.mk' (ok__without_pairs (P := l.prog) (w := w) (base := base) (F14) T) g14 F14.kp b14
  have D__radius : Dfn l.prog w K mg base 1 "_radius" ["known", "data_count"] (spRad K) := Dfn.mk' (ok__radius (P := l.prog) (w := w) (base := base) (F12) T) g12 F12.kp b12
  have D__covering_entries : Dfn l.prog w K mg base 2 "_covering_entries" ["known", "data_count"] (spCover K) := Dfn.mk' (ok__covering_entries (P := l.prog) (w := w) (base := base) (F13) T D__without_pairs D__radius) g13 F13.kp b13
  have D__values_through : Dfn l.prog w K mg base 5 "_values_through" ["entry", "received"] (spThrough K) := Dfn.mk' (ok__values_through (P := l.prog) (w := w) (base := base) (F16) T D__values) g16 F16.kp b16
  have D__count_differences : Dfn l.prog w K mg base 2 "_count_differences" ["values", "received"] (spSame K) := Dfn.mk' (ok__count_differences (P := l.prog) (w := w) (base := base) (F15) T D__known_indexes) g15 F15.kp b15
  have D_decode_block : Dfn l.prog w K mg base 6 "decode_block" ["received", "check_count"] (spDec K (He.cT K ("_require_received", none)).2) := Dfn.mk' (ok_decode_block (P := l.prog) (w := w) (base := base) (F8) T D__require_received D__known_indexes D__covering_entries D__values_through D__count_differences D__radius) g8 F8.kp b8
  have D__require_symbols : Dfn l.prog w K mg base 3 "_require_symbols" ["left", "right"] spReq2 := Dfn.mk' (ok__require_symbols (P := l.prog) (w := w) (base := base) (F6) T D_is_symbol) g6 F6.kp b6
  have D_multiply : Dfn l.prog w K mg base 4 "multiply" ["left", "right"] spMul := Dfn.mk' (ok_multiply (P := l.prog) (w := w) (base := base) (F1) T D__require_symbols D_times) g1 F1.kp b1
  have D_add : Dfn l.prog w K mg base 4 "add" ["left", "right"] spAdd := Dfn.mk' (ok_add (P := l.prog) (w := w) (base := base) (F0) T D__require_symbols) g0 F0.kp b0
  exact ok_law (P := l.prog) (w := w) (base := base) (F23) T D__law_data D_encode_block D__law_erased D__law_taken D_decode_block D_multiply D_add
end Zk20
open PySem PySem.W PySem.Calls PyProof.Rows
set_option maxRecDepth 100000 in
set_option maxHeartbeats 0 in
theorem PySem.Challenge.cw_squaremark_k20_whole_blocks_of_fewer_dat_holds : PySem.Challenge.rw_squaremark_k20_whole_blocks_of_fewer_dat.Holds := by
  w_on; o_law
  refine HandSHeadRun.head_imp (r := OpenLaw.row PySem.Challenge.rw_squaremark_k20_whole_blocks_of_fewer_dat) (q := view (OpenLaw.row PySem.Challenge.rw_squaremark_k20_whole_blocks_of_fewer_dat).prog [0, 34]) (H := Zk20.hk) (ob := Zk20.ob) (M := 4000) (loose := Zk20.names) (d := HandSHeadRun.topDef (OpenLaw.row PySem.Challenge.rw_squaremark_k20_whole_blocks_of_fewer_dat).prog 34) (kwd := []) Zk20.ob_eq Zk20.run (by kernel_rfl) (by kernel_rfl) (by kernel_rfl) (by rfl) (by first | assumption | decide +kernel) (by decide +kernel) ⟨rfl, rfl, rfl, rfl, rfl, by decide +kernel⟩ ?hw ?hc
  case hw => w_witness2
  case hc =>
    refine LamX.walk_ofTsE (l := PySem.Challenge.rw_squaremark_k20_whole_blocks_of_fewer_dat) (n := 63) (k := 7) (x := "_law_script") (CX := fun _ => L2.CX0) rfl (by decide) (by kernel_rfl) ⟨rfl, by decide, by decide⟩ ?F (fun _ _ _ _ _ z => z)
    intro w mg fa h Y G hmg0
    obtain ⟨K, KX, c⟩ := Y
    have hmg : mg ("law" : PySem.Str) = some (.ref fa) := by
      have e : (HandSHeadRun.topDef (OpenLaw.row PySem.Challenge.rw_squaremark_k20_whole_blocks_of_fewer_dat).prog 34).name = ("law" : PySem.Str) := by kernel_rfl
      rw [← e]
      exact hmg0
    exact ⟨K, KX, Zk20.facts KX G hmg c⟩

