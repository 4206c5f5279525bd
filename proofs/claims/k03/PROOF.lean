import PyProof.Rows.All
import Wide.All
import OpenK.AllK
import Wide.FinOn
import HandS.ForMost
import HandS.IsInst
import HandS.TupAny
import HandS.TupMul
import HandS.Conv
import HandS.Walk
import HandS.Evl
import HandS.ForExc
import HandS.DictComp
import HandS.FStr
import HandS.ExcIs
import PyProof.ListMulRoad
import PyProof.FactsAll.tuple_2
import HandS.ExcValue
import KE.KExcSuper
import HandS.ExcInit
import KE.KExcIs
import HandS.Small
import HandS.More
import HandS.Deep
import KE.KTypeName
import OpenK.KWalk
import OpenK.KLine
import KE.KSuper
import PySem.Challenge.RW_likematch_k03_patterns_filled
set_option Elab.async false
set_option linter.all false
set_option maxRecDepth 100000
set_option maxHeartbeats 2100000
/-! Kt0: calls of own defs by name; what lets the heap grow. -/
namespace Kt
open PySem PySem.Spec PyProof.Rows L2

/-! ### a def of the text -/
/-- the def x stands at some address, and its parameters bind by place -/
structure Dx (K : PySem.W.Frag) (mg : Str → Option Value) (x : Str) (st : Stmt) (ps : List Str) : Prop where
  ex : ∃ (f : Addr) (fd : FuncData), Fun K x x st f fd ∧ mg x = some (.ref f) ∧ Binds K fd ps []
/-- a def that may be called -/
structure Cl (P : Program) (w : World) (K : PySem.W.Frag) (mg : Str → Option Value) (base : Heap) (CX : CXT) (k : Nat) (x : Str) (ps : List Str) (sp : Sp) : Prop where
  ex : ∃ (f : Addr) (fd : FuncData), FnOk P w K mg base CX k f fd ps sp ∧ mg x = some (.ref f) ∧ PySem.W.keepIn K (.ref f) = true ∧ Binds K fd ps [] ∧ ∃ (oc : Value) (od : Option Addr) (osl : Array (Option Value)), K.lookup f = some ⟨oc, od, .func fd, osl⟩
section
variable {P : Program} {w : World} {K : PySem.W.Frag} {mg : Str → Option Value} {base : Heap} {x : Str} {st : Stmt} {N ps : List Str} {k : Nat} {sp : Sp}
theorem Fun.at {f : Addr} {fd : FuncData} (F : Fun K x x st f fd) : ∃ (oc : Value) (od : Option Addr) (osl : Array (Option Value)), K.lookup f = some ⟨oc, od, .func fd, osl⟩ := by
  obtain ⟨oc, od, kV, doc, pm, an, cdv, ct, osl, _, lk, _⟩ := F.ex
  exact ⟨oc, od, osl, lk⟩
theorem Cl.mono {CX : CXT} {j : Nat} (c : Cl P w K mg base CX j x ps sp) (h : j ≤ k) : Cl P w K mg base CX k x ps sp := by
  obtain ⟨f, fd, F, r⟩ := c.ex
  exact ⟨f, fd, F.mono h, r⟩
/-- THE RULE: a def by its body -/
theorem Cl.mk0 (D : Dx K mg x st ps) (S : FnScope N ps (defScope st)) (len : ∀ vs H Q E, sp vs H Q E → vs.length = ps.length)
    (hbody : ∀ (f : Addr) (cdv : Value) (A : Around) (outer : List Env) (s : Shared) (H : Hp) (vs : List V) (Q : VK) (E : XK), Room k (A.deeper (envOfC x (defScope st) s.heap.objs.size f cdv)) → sp vs H Q E →
      ∃ t, PSs (cxOf CX0 P w K mg base N x (defScope st) f cdv A outer s H E).nox (defBody st) t ∧ t { nx := fun _ H' => Q .non H', rt := Q } (start N vs) H) : Cl P w K mg base CX0 (k + 1) x ps sp := by
  obtain ⟨f, fd, F, m, b⟩ := D.ex
  exact ⟨f, fd, F.ok S len (hbody f), m, F.kp, b, Fun.at F⟩
/-- nothing can be asked of it -/
theorem Cl.no (D : Dx K mg x st ps) (h : ∀ vs H Q E, ¬ sp vs H Q E) {CX : CXT} : Cl P w K mg base CX k x ps sp := by
  obtain ⟨f, fd, F, m, b⟩ := D.ex
  exact ⟨f, fd, ⟨fun vs H Q E q => absurd q (h vs H Q E), fun A outer s H args us vs Q E _ _ _ _ q => absurd q (h vs H Q E)⟩, m, F.kp, b, Fun.at F⟩
end
/-- f(..) of an own def -/
def tC0 (sp : Sp) (E : XK) (t : TA) : TE := fun σ H Q => t σ H fun vs H1 => sp vs H1 Q E
section
variable {X : Cx} {k j : Nat} {x : Str} {ps : List Str} {sp : Sp} {p pos : Pos} {e : Expr} {es : List Expr} {t : TA}
theorem pe_cl (c : Cl X.prog X.w X.K X.mg X.base CX0 k x ps sp) (hr : Room j X.A) (hk : k ≤ j) (hg : Gl X x) (ha : PA X (e :: es) t)
    (hdb : (x == ("__debug__" : Str)) = false := by decide) (he : starEach (e :: es) X.env = (false, eval e X.env) :: starEach es X.env := by rfl) (hpl : (backTo pos (starEach es X.env)).any (·.1) = false := by rfl) :
    PE X (.Call (.Name x p) (e :: es) [] pos) (tC0 sp E0 t) := by
  obtain ⟨f, fd, F, hm, kp, b, _⟩ := c.ex
  refine ⟨fun pins s σ H Q I h => ?_⟩
  refine (pe_call F (hr.mono hk) hg hm kp b .nil pass0 ha hdb he hpl).run pins s σ H Q I ?_
  refine cast ?_ h
  show tC0 sp E0 t σ H Q = t σ H (fun vs H1 => sp (vs ++ []) H1 Q E0)
  simp only [List.append_nil]
  rfl
end
/-- f(x = ..) by its only parameter's name -/
structure ClK (P : Program) (w : World) (K : PySem.W.Frag) (mg : Str → Option Value) (base : Heap) (CX : CXT) (k : Nat) (x : Str) (ps : List Str) (sp : Sp) : Prop where
  ex : ∃ (f : Addr) (fd : FuncData), FnOk P w K mg base CX k f fd ps sp ∧ mg x = some (.ref f) ∧ PySem.W.keepIn K (.ref f) = true ∧ ∀ (s : Shared) (us : List Value), us.length = ps.length → BindsTo s fd ⟨[], ps.zip us⟩ (ps.zip us)
/-- a def that may be called by place may be by its parameters' names -/
theorem Cl.kw {P : Program} {w : World} {K : PySem.W.Frag} {mg : Str → Option Value} {base : Heap} {CX : CXT} {x : Str} {st : Stmt} {ps : List Str} {k : Nat} {sp : Sp} (c : Cl P w K mg base CX k x ps sp) (D : Dx K mg x st ps)
    (h : ∀ (kV doc pm : Value) (an : Option Addr) (cdv ct : Value) (us : List Value), us.length = ps.length → bindArgs (PySem.W.fnOf x x (defArgs st) (defBody st) (defScope st) .none kV doc pm an cdv ct) ⟨[], ps.zip us⟩ = pure (ps.zip us)) : ClK P w K mg base CX k x ps sp := by
  obtain ⟨f, fd, F, m, kp, b, oc, od, osl, lk⟩ := c.ex
  obtain ⟨f', fd', F', m', b'⟩ := D.ex
  rw [m] at m'
  cases m'
  obtain ⟨oc', od', kV, doc, pm, an, cdv, ct, osl', rfl, lk', _⟩ := F'.ex
  rw [lk] at lk'
  cases lk'
  exact ⟨f, _, F, m, kp, fun s us hl => .of_eq (h kV doc pm an cdv ct us hl)⟩
section
variable {X : Cx} {k j : Nat} {x : Str} {ps : List Str} {sp : Sp} {p pos : Pos} {kws : List Keyword} {tk : TA}
def tCK (sp : Sp) (E : XK) (tk : TA) : TE := fun σ H Q => tk σ H fun zs H2 => sp zs H2 Q E
theorem pe_clK (c : ClK X.prog X.w X.K X.mg X.base CX0 k x ps sp) (hr : Room j X.A) (hk : k ≤ j) (hg : Gl X x) (hkw : PK X kws tk)
    (hall : (backToKw pos (keywordEach kws X.env)).all (·.1.isSome) = true := by rfl) (hks : (backToKw pos (keywordEach kws X.env)).filterMap (·.1) = ps := by rfl) (hdb : (x == ("__debug__" : Str)) = false := by decide)
    (hpl : ((backTo pos (starEach [] X.env)).any (·.1) || (backToKw pos (keywordEach kws X.env)).any (·.1.isNone)) = false := by rfl) :
    PE X (.Call (.Name x p) [] kws pos) (tCK sp E0 tk) := by
  obtain ⟨f, fd, F, hm, kp, b⟩ := c.ex
  refine ⟨fun pins s σ H Q I h => ?_⟩
  refine wpAny_Call_Name_kw (ld_glob I hg hm ?_ hdb)
  refine PySem.W.callWith_KW0 (h₀ := X.base) I.ok.mod.kin kp hall ?_ hpl
  refine thn (hkw.run pos pins s σ H _ I h) fun ws s2 ⟨zs, H2, I2, rz, q2⟩ => ⟨I2.kIn, ?_⟩
  rw [hks]
  have hl : ws.length = ps.length := by rw [← rz.length]; exact F.len _ _ _ _ q2
  refine wpAny_call (codeAny_mono (F.run X.A X.stack s2 H2 ⟨[], ps.zip ws⟩ ws zs Q E0 (hr.mono hk) I2.env0 (b s2 ws hl) rz q2) fun r s' hq => ?_)
  cases r with
  | error e => exact pass0 pins σ H2 s2 e s' I2 hq
  | ok fl =>
    cases fl with
    | ret u => exact I2.after hq
    | next => exact False.elim hq
    | brk => exact False.elim hq
    | cont => exact False.elim hq
end
/-! ### error classes of the text -/
/-- where a module's name stands -/
def clsA (mg : Str → Option Value) (x : Str) : Addr := match mg x with | some (.ref a) => a | _ => 0
/-- an own class of errors over ValueError, without an __init__ of its own -/
structure ExF (K : PySem.W.Frag) (mg : Str → Option Value) (x : Str) (C : Addr) : Prop where
  g : mg x = some (.ref C)
  x : PySem.W.excIn K C [.type "ValueError", .type "Exception", .type "BaseException", .type "object"] "ValueError.__new__" = true
  k : PySem.W.keepIn K (.ref C) = true
  b : PySem.W.subIn K (.ref C) (.type "BaseException") = some true
  t : PySem.W.typeIn K (.ref C) = some (.type "type")
  i : PySem.W.isClsIn K C = true
  s : PySem.W.subIn K (.ref C) (.ref C) = some true
theorem ExF.at {K : PySem.W.Frag} {mg : Str → Option Value} {x : Str} {C : Addr} (g : mg x = some (.ref C)) (e : PySem.W.excIn K C [.type "ValueError", .type "Exception", .type "BaseException", .type "object"] "ValueError.__new__" = true) (k : PySem.W.keepIn K (.ref C) = true)
    (b : PySem.W.subIn K (.ref C) (.type "BaseException") = some true) (t : PySem.W.typeIn K (.ref C) = some (.type "type")) (i : PySem.W.isClsIn K C = true) (s : PySem.W.subIn K (.ref C) (.ref C) = some true) : ExF K mg x (clsA mg x) := by
  have e0 : clsA mg x = C := by
    unfold clsA
    rw [g]
  rw [e0]
  exact ⟨g, e, k, b, t, i, s⟩
section
variable {P : Program} {w : World} {K : PySem.W.Frag} {mg : Str → Option Value} {base : Heap} {x : Str} {st : Stmt} {N ps : List Str} {k : Nat} {sp : Sp}
/-- a def that may raise, by its body -/
theorem Cl.mkX (D : Dx K mg x st ps) (S : FnScope N ps (defScope st)) (len : ∀ vs H Q E, sp vs H Q E → vs.length = ps.length)
    (hbody : ∀ (f : Addr) (cdv : Value) (A : Around) (outer : List Env) (s : Shared) (H : Hp) (vs : List V) (Q : VK) (E : XK), Room k (A.deeper (envOfC x (defScope st) s.heap.objs.size f cdv)) → sp vs H Q E →
      ∃ t, PSs (cxOf (L2.CX P w) P w K mg base N x (defScope st) f cdv A outer s H E) (defBody st) t ∧ t { nx := fun _ H' => Q .non H', rt := Q } (start N vs) H) : Cl P w K mg base (L2.CX P w) (k + 1) x ps sp := by
  obtain ⟨f, fd, F, m, b⟩ := D.ex
  exact ⟨f, fd, F.okX S len (hbody f), m, F.kp, b, Fun.at F⟩
end
section
variable {X : Cx} {k j : Nat} {x : Str} {ps : List Str} {sp : Sp} {p pos : Pos} {e : Expr} {es : List Expr} {t : TA} {E : L2.St → XK}
/-- f(..) of a def that may raise -/
theorem pe_clS (c : Cl X.prog X.w X.K X.mg X.base (L2.CX X.prog X.w) k x ps sp) (hr : Room j X.A) (hk : k ≤ j) (hg : Gl X x) (hx : ∀ σ, PassesAt (L2.CX X.prog X.w) X σ (E σ)) (ha : PA X (e :: es) t)
    (hdb : (x == ("__debug__" : Str)) = false := by decide) (he : starEach (e :: es) X.env = (false, eval e X.env) :: starEach es X.env := by rfl) (hpl : (backTo pos (starEach es X.env)).any (·.1) = false := by rfl) :
    PE X (.Call (.Name x p) (e :: es) [] pos) (tCallS sp E t) := by
  obtain ⟨f, fd, F, hm, kp, b, _⟩ := c.ex
  exact pe_callS F (hr.mono hk) hg hm kp b hx ha hdb he hpl
end
end Kt
namespace Kt
open PySem PySem.Spec PyProof.Rows L2

/-- a slice's part that is left out -/
abbrev tNo : TO := fun _ H Q => Q none H
theorem po_no {X : Cx} : PO X none tNo := po_none
/-! ### heaps that grow -/
theorem same_new {H : Hp} {p : Addr} (h : H p = none) (o : HO) : Same H (upd H p o) := fun b u q => by rw [upd_ne (ne_of_none q h)]; exact q
/-- an object that the first does not know may change -/
theorem Same.mut {H H' : Hp} {p : Addr} {o : HO} (e : Same H H') (h : H p = none) : Same H (upd H' p o) := fun a u ha => by
  rw [upd_ne (ne_of_none ha h)]
  exact e a u ha
/-- tuples stand; lists and dicts are lists and dicts still -/
structure Wk (H H' : Hp) : Prop where
  tup : ∀ a xs, H a = some (.tup xs) → H' a = some (.tup xs)
  lst : ∀ a xs, H a = some (.lst xs) → ∃ ys, H' a = some (.lst ys)
  dK : ∀ a xs, H a = some (.dK xs) → ∃ ys, H' a = some (.dK ys)
theorem Wk.refl (H : Hp) : Wk H H := ⟨fun _ _ h => h, fun _ xs h => ⟨xs, h⟩, fun _ xs h => ⟨xs, h⟩⟩
theorem Wk.trans {H H1 H2 : Hp} (a : Wk H H1) (b : Wk H1 H2) : Wk H H2 :=
  ⟨fun x xs h => b.tup _ _ (a.tup _ _ h), fun x xs h => let ⟨_, e⟩ := a.lst _ _ h; b.lst _ _ e, fun x xs h => let ⟨_, e⟩ := a.dK _ _ h; b.dK _ _ e⟩
theorem Wk.same {H H' : Hp} (h : Same H H') : Wk H H' := ⟨fun _ _ q => h _ _ q, fun _ xs q => ⟨xs, h _ _ q⟩, fun _ xs q => ⟨xs, h _ _ q⟩⟩

/-! ### things -/
inductive Th where
  | non | bl (b : Bool) | int (i : Int) | str (z : Str) | tup (l : List Th) | ls | dc
/-- its signs are signs -/
def okS (z : Str) : Prop := ∀ c ∈ z.cps.toList, c < 1114112
mutual
/-- v stands for the thing t -/
inductive Rep (H : Hp) : V → Th → Prop
  | non : Rep H .non .non
  | bl (b : Bool) : Rep H (.bl b) (.bl b)
  | int (i : Int) : Rep H (.int i) (.int i)
  | str (z : Str) (h : z.length ≤ 100) (ok : okS z) : Rep H (.str z) (.str z)
  | tup {a : Addr} {xs : List V} {l : List Th} (h : H a = some (.tup xs)) (n : xs.length ≤ 100) (hl : RepL H xs l) : Rep H (.ref a) (.tup l)
  | ls {a : Addr} {xs : List V} (h : H a = some (.lst xs)) : Rep H (.ref a) .ls
  | dc {a : Addr} {kvs : List (Key × V)} (h : H a = some (.dK kvs)) : Rep H (.ref a) .dc
inductive RepL (H : Hp) : List V → List Th → Prop
  | nil : RepL H [] []
  | cons {v : V} {vs : List V} {t : Th} {ts : List Th} (h : Rep H v t) (r : RepL H vs ts) : RepL H (v :: vs) (t :: ts)
end
mutual
theorem Rep.wk {H H' : Hp} (w : Wk H H') : ∀ {v : V} {t : Th}, Rep H v t → Rep H' v t
  | _, _, .non => .non
  | _, _, .bl b => .bl b
  | _, _, .int i => .int i
  | _, _, .str z h ok => .str z h ok
  | _, _, .tup h n hl => .tup (w.tup _ _ h) n (RepL.wk w hl)
  | _, _, .ls h => let ⟨_, e⟩ := w.lst _ _ h; .ls e
  | _, _, .dc h => let ⟨_, e⟩ := w.dK _ _ h; .dc e
theorem RepL.wk {H H' : Hp} (w : Wk H H') : ∀ {vs : List V} {ts : List Th}, RepL H vs ts → RepL H' vs ts
  | _, _, .nil => .nil
  | _, _, .cons h r => .cons (Rep.wk w h) (RepL.wk w r)
end
theorem RepL.length {H : Hp} : ∀ {vs : List V} {ts : List Th}, RepL H vs ts → vs.length = ts.length
  | _, _, .nil => rfl
  | _, _, .cons _ r => congrArg Nat.succ (RepL.length r)
theorem RepL.get {H : Hp} : ∀ {vs : List V} {ts : List Th} {i : Nat} {t : Th}, RepL H vs ts → ts[i]? = some t → ∃ v, vs[i]? = some v ∧ Rep H v t
  | _, _, _, _, .nil, e => by simp at e
  | _, _, 0, t, .cons h _, e => by simp at e; subst e; exact ⟨_, rfl, h⟩
  | _, _, i + 1, t, .cons _ r, e => by
    obtain ⟨v, h1, h2⟩ := RepL.get (i := i) (t := t) r (by simpa using e)
    exact ⟨v, by simpa using h1, h2⟩
theorem RepL.get' {H : Hp} : ∀ {vs : List V} {ts : List Th} {i : Nat} {v : V}, RepL H vs ts → vs[i]? = some v → ∃ t, ts[i]? = some t ∧ Rep H v t
  | _, _, _, _, .nil, e => by simp at e
  | _, _, 0, t, .cons h _, e => by simp at e; subst e; exact ⟨_, rfl, h⟩
  | _, _, i + 1, t, .cons _ r, e => by
    obtain ⟨v, h1, h2⟩ := RepL.get' (i := i) (v := t) r (by simpa using e)
    exact ⟨v, by simpa using h1, h2⟩
theorem RepL.append {H : Hp} : ∀ {vs : List V} {ts : List Th} {vs' : List V} {ts' : List Th}, RepL H vs ts → RepL H vs' ts' → RepL H (vs ++ vs') (ts ++ ts')
  | _, _, _, _, .nil, s => s
  | _, _, _, _, .cons h r, s => .cons h (RepL.append r s)
theorem RepL.take {H : Hp} : ∀ {vs : List V} {ts : List Th} (n : Nat), RepL H vs ts → RepL H (vs.take n) (ts.take n)
  | _, _, 0, _ => .nil
  | _, _, _ + 1, .nil => .nil
  | _, _, n + 1, .cons h r => .cons h (RepL.take n r)
theorem RepL.drop {H : Hp} : ∀ {vs : List V} {ts : List Th} (n : Nat), RepL H vs ts → RepL H (vs.drop n) (ts.drop n)
  | _, _, 0, r => r
  | _, _, _ + 1, .nil => .nil
  | _, _, n + 1, .cons _ r => RepL.drop n r
theorem RepL.rep {H : Hp} {vs : List V} {ts : List Th} (r : RepL H vs ts) : ∀ n : Nat, RepL H (List.replicate n vs).flatten (List.replicate n ts).flatten
  | 0 => .nil
  | n + 1 => by
    rw [List.replicate_succ, List.replicate_succ, List.flatten_cons, List.flatten_cons]
    exact r.append (RepL.rep r n)

/-! ### isinstance -/
def Th.ty : Th → String
  | .non => "NoneType" | .bl _ => "bool" | .int _ => "int" | .str _ => "str" | .tup _ => "tuple" | .ls => "list" | .dc => "dict"
def Th.isStr : Th → Bool | .str _ => true | _ => false
def Th.isTup : Th → Bool | .tup _ => true | _ => false
def Th.isBl : Th → Bool | .bl _ => true | _ => false
theorem Rep.tyx {K : PySem.W.Frag} {H : Hp} {v : V} {t : Th} (r : Rep H v t) : TyX K H v (.type t.ty) := by
  cases r with
  | non => exact .base .non
  | bl b => exact .base (.bl b)
  | int i => exact .base (.int i)
  | str z h ok => exact .base (.str z)
  | tup h n hl => exact .base (.tup h)
  | ls h => exact .base (.lst h)
  | dc h => exact .base (.dK h)
theorem kstr {K : PySem.W.Frag} : ∀ t : Th, PySem.W.kitOne K (.type t.ty) (.type "str") = some t.isStr
  | .non => kit_ty (show kitB "NoneType" "str" = some false by decide +kernel)
  | .bl _ => kit_ty (show kitB "bool" "str" = some false by decide +kernel)
  | .int _ => kit_ty (show kitB "int" "str" = some false by decide +kernel)
  | .str _ => kit_ty (show kitB "str" "str" = some true by decide +kernel)
  | .tup _ => kit_ty (show kitB "tuple" "str" = some false by decide +kernel)
  | .ls => kit_ty (show kitB "list" "str" = some false by decide +kernel)
  | .dc => kit_ty (show kitB "dict" "str" = some false by decide +kernel)
theorem ktup {K : PySem.W.Frag} : ∀ t : Th, PySem.W.kitOne K (.type t.ty) (.type "tuple") = some t.isTup
  | .non => kit_ty (show kitB "NoneType" "tuple" = some false by decide +kernel)
  | .bl _ => kit_ty (show kitB "bool" "tuple" = some false by decide +kernel)
  | .int _ => kit_ty (show kitB "int" "tuple" = some false by decide +kernel)
  | .str _ => kit_ty (show kitB "str" "tuple" = some false by decide +kernel)
  | .tup _ => kit_ty (show kitB "tuple" "tuple" = some true by decide +kernel)
  | .ls => kit_ty (show kitB "list" "tuple" = some false by decide +kernel)
  | .dc => kit_ty (show kitB "dict" "tuple" = some false by decide +kernel)
theorem kbl {K : PySem.W.Frag} : ∀ t : Th, PySem.W.kitOne K (.type t.ty) (.type "bool") = some t.isBl
  | .non => kit_ty (show kitB "NoneType" "bool" = some false by decide +kernel)
  | .bl _ => kit_ty (show kitB "bool" "bool" = some true by decide +kernel)
  | .int _ => kit_ty (show kitB "int" "bool" = some false by decide +kernel)
  | .str _ => kit_ty (show kitB "str" "bool" = some false by decide +kernel)
  | .tup _ => kit_ty (show kitB "tuple" "bool" = some false by decide +kernel)
  | .ls => kit_ty (show kitB "list" "bool" = some false by decide +kernel)
  | .dc => kit_ty (show kitB "dict" "bool" = some false by decide +kernel)


/-! ### lists of ints, bools, texts as data -/
theorem dpInts {K : PySem.W.Frag} {H : Hp} : ∀ ns : List Int, DpAll K H (ns.map V.int) (ns.map PyData.int)
  | [] => .nil
  | n :: r => .cons (.int n) (dpInts r)
theorem dpBls {K : PySem.W.Frag} {H : Hp} : ∀ ns : List Bool, DpAll K H (ns.map V.bl) (ns.map PyData.bool)
  | [] => .nil
  | n :: r => .cons (.bl n) (dpBls r)
theorem dpStrs {K : PySem.W.Frag} {H : Hp} : ∀ ns : List Str, DpAll K H (ns.map V.str) (ns.map PyData.str)
  | [] => .nil
  | n :: r => .cons (.str n) (dpStrs r)
theorem depth_all0 {α : Type} {f : α → PyData} (h : ∀ a, (f a).depth = 0) : ∀ l : List α, PyData.depthAll (l.map f) = 0
  | [] => rfl
  | a :: r => by
    show max (f a).depth (PyData.depthAll (r.map f)) = 0
    rw [h a, depth_all0 h r]
    rfl
theorem can_all {α : Type} {f : α → PyData} : ∀ l : List α, (∀ a ∈ l, (f a).canLay0 = true) → PyData.canLayAll0 (l.map f) = true
  | [], _ => rfl
  | a :: r, h => by
    show ((f a).canLay0 && PyData.canLayAll0 (r.map f)) = true
    rw [h a (List.mem_cons_self ..), can_all r fun b hb => h b (List.mem_cons_of_mem _ hb)]
    rfl
theorem shaped_of {α : Type} {f : α → PyData} (h : ∀ a, (f a).depth = 0) (l : List α) (c : ∀ a ∈ l, (f a).canLay0 = true) : SeqAt.shaped (.list (l.map f)) = true := by
  unfold SeqAt.shaped
  have e1 : (PyData.list (l.map f)).canLay0 = true := can_all l c
  have e2 : (PyData.list (l.map f)).depth = 1 := by
    show PyData.depthAll (l.map f) + 1 = 1
    rw [depth_all0 h]
  rw [e1, e2]
  rfl
theorem shapedInts (l : List Int) : SeqAt.shaped (.list (l.map PyData.int)) = true := shaped_of (fun _ => rfl) l fun _ _ => rfl
theorem shapedBls (l : List Bool) : SeqAt.shaped (.list (l.map PyData.bool)) = true := shaped_of (fun _ => rfl) l fun _ _ => rfl
theorem shapedStrs (l : List Str) (h : ∀ z ∈ l, okS z) : SeqAt.shaped (.list (l.map PyData.str)) = true := shaped_of (fun _ => rfl) l fun z hz => by
  have := h z hz
  simp only [PyData.canLay0, PyData.strOk, Array.all_eq_true_iff_forall_mem, decide_eq_true_eq]
  intro x hx
  exact this x (Array.mem_toList_iff.mpr hx)
theorem eqvNil (l : List PyData) : PyData.eqv (.list l) (.list []) = l.isEmpty := by
  cases l <;> rfl
theorem eqvBls : ∀ l r : List Bool, PyData.eqvAll (l.map PyData.bool) (r.map PyData.bool) = decide (l = r)
  | [], [] => rfl
  | [], b :: s => by simp [PyData.eqvAll]
  | a :: l, [] => by simp [PyData.eqvAll]
  | a :: l, b :: r => by
    show (PyData.eqv (.bool a) (.bool b) && PyData.eqvAll (l.map PyData.bool) (r.map PyData.bool)) = _
    rw [eqvBls l r]
    show ((a == b) && decide (l = r)) = _
    by_cases h : a = b
    · subst h
      simp
    · simp [h]

theorem yesI {σ : L2.St} {H : Hp} {X Y : Hp → Prop} (h : X H) : tYes σ H fun b H3 => if b = true then X H3 else Y H3 := by
  unfold tYes
  dsimp only
  rw [if_pos rfl]
  exact h
/-! ### comprehensions whose element only tells -/
section
variable {J : It} {n : Nat} {G : Hp → Prop} {Y : Nat → Hp → V → Hp → Prop} {te : TE} {vs : List Nat} {σ : L2.St} {H1 : Hp} {D : Addr} {Qd : Hp → Prop} {j : Nat}
theorem lc_pure (w : Walk J n G Y) (f : Nat → V) (hD : H1 D = none) (hn : n ≤ 1000) (hG : ∀ H', Same H1 H' → G H') (hset : ∀ x, wipe ((wipe σ vs).set j (some x)) vs = wipe σ vs)
    (he : ∀ i x H H', i < n → Same H1 H → Y i H x H' → Same H H' ∧ ∀ Q : VK, (∀ H2, Same H' H2 → Q (f i) H2) → te ((wipe σ vs).set j (some x)) H' Q)
    (hd : ∀ H', Same H1 H' → H' D = some (.lst ((List.range n).map f)) → Qd H') :
    ∃ W : Nat → Nat → Hp → Prop, (∃ m, W 0 m (upd H1 D (.lst []))) ∧ ∀ i m H, W i m H →
      (J.stop i H ∧ Qd H) ∨ (J.go i H ∧ ∃ Nx : Hp → Prop, (∀ H', Nx H' → ∃ m', m' < m ∧ W (i + 1) m' H') ∧ ∀ x H', J.yld i H x H' → gName j x (wipe σ vs) H' fun σ2 H2 => wipe σ2 vs = wipe σ vs ∧ tYes σ2 H2 fun b H3 =>
        if b = true then te σ2 H3 fun y H4 => ∃ acc, H4 D = some (.lst acc) ∧ acc.length < sizeLine ∧ Nx (upd H4 D (.lst (acc ++ [y]))) else Nx H3) := by
  refine lc_it w (g := gName j) (tt := tYes) (fun i H => Same H1 H ∧ H D = some (.lst ((List.range i).map f))) ⟨same_new hD _, upd_same⟩ (fun i H _ p => hG H p.1) (fun i x H H' hi p y => ?_) (fun H p => hd H p.1 p.2)
  obtain ⟨s, k⟩ := he i x H H' hi p.1 y
  refine ⟨hset x, ?_⟩
  unfold tYes
  dsimp only
  rw [if_pos rfl]
  refine k _ fun H2 s2 => ⟨_, s2 _ _ (s _ _ p.2), ?_, ?_, ?_⟩
  · rw [List.length_map, List.length_range]
    exact small1000 (by omega)
  · exact Same.mut ((p.1.trans s).trans s2) hD
  · rw [upd_same, List.range_succ, List.map_append]
    rfl
end
end Kt
namespace Kt
open PySem PySem.Spec PyProof.Rows L2
/-! a tuple once is the tuple itself -/
theorem tuple_mul1 (l : Addr) (items : Array Value) (n : Nat) (dd : Option Addr) (sl : Array (Option Value)) (u : Tok) (c1 : (items.isEmpty || (1 : Int) == 1) = true) :
    Meets (Builtin.«tuple.__mul__» ⟨[.ref l, .int 1 u], []⟩) (fun _ R s => s.heap.get? l = some { cls := .type "tuple", dict := dd, data := .seq items n, slots := sl } ∧
      R (.ok (.ret (Value.ref l))) s) :=
  .of_wp fun prog w A R s h => by
    obtain ⟨hp, g, d, tk, os⟩ := s
    obtain ⟨hl, h⟩ := h
    have f1 := AutoSeq1.idx_int
    wp_walk using wpAny_loadPart' hl
    repeat (first
      | (refine wpAny_ite_false (decide_eq_false (by decide)) ?_; wp_walk using wpAny_loadPart' hl)
      | (refine wpAny_ite_true (decide_eq_true (by rw [c1])) ?_; wp_walk using wpAny_loadPart' hl))
    exact ⟨_, rfl, h⟩
section
variable {X : Cx}
def rRep1 (K : PySem.W.Frag) : R2 := fun x y H Q => ∃ l xs, x = .ref l ∧ y = .int 1 ∧ SqT K H l xs ∧ Q (.ref l) H
theorem op_rep1 : OpR X (binaryOp .Mult) (rRep1 X.K) := by
  intro pins s σ H x y v u Q I rx ry h
  obtain ⟨l, xs, rfl, rfl, hT, q⟩ := h
  cases rx
  obtain ⟨t, rfl⟩ := ry
  obtain ⟨its, r, ⟨⟨cls, dd, data, sl⟩, ho, hc, n, hd⟩, hs⟩ := I.tuple hT
  simp only at hc hd
  subst hc hd
  refine wpAny_binaryOp_repeat_ref (T := "tuple") (U := "int") (by decide) ⟨_, ho, rfl⟩ (fun s' => typeIs_int s' 1 t) noFill_tuple_mul F.fills_int_mul F.slot_int_rmul repeat_tuple F.slot_int_index.lookup
    (call_meets F.slot_int_rmul (typeIs_int s 1 t) F.entry_int_rmul (F.args_int_rmul_2 _ _) (int_rmul_tuple 1 t l its.toArray n dd sl)
      ⟨ho, rfl, ⟨_, ho, rfl⟩, call_meets F.slot_tuple_mul ⟨_, ho, rfl⟩ F.entry_tuple_mul (F.args_tuple_mul_2 _ _) (tuple_mul1 l its.toArray n dd sl t (by rw [Bool.or_eq_true]; exact .inr rfl)) ⟨ho, ?_⟩⟩)
  exact ⟨.ref l, H, I, rfl, q⟩
/-- a tuple, one to a thousand times -/
def rRepA (K : PySem.W.Frag) : R2 := fun x y H Q => rRepT K x y H Q ∨ rRep1 K x y H Q
theorem op_repTA : OpR X (binaryOp .Mult) (rRepA X.K) := OpR.or op_repT op_rep1
end
end Kt
namespace Kt
open PySem PySem.Spec PyProof.Rows L2
theorem clsA_of {mg : Str → Option Value} {x : Str} {C : Addr} (at_ : mg x = some (.ref C)) : clsA mg x = C := by
  unfold clsA
  rw [at_]
/-! ### an error that is kept behind its except suite -/
/-- an error object of the class cls, with the dict d, that nobody handles any more -/
def ExK (cls : Value) (d : Option Addr) (a : Addr) : HO := .ext fun heap => ∃ (ob : Obj) (fl : Array Value), heap.get? a = some ob ∧ Zc cls d ob ∧ ob.data = .fields fl
theorem exK_ok {P : Program} {w : World} {H : Hp} {heap : Heap} {a : Addr} {cls : Value} {d : Option Addr} {ob : Obj} {fl : Array Value} (there : heap.get? a = some ob) (kind : Zc cls d ob) (flds : ob.data = .fields fl) : ObjOk P w H heap a (ExK cls d a) :=
  ⟨⟨ob, fl, there, kind, flds⟩, ⟨ob, there⟩, fun _ _ ⟨o, v, g, k⟩ keeps => ⟨o, v, keeps o g, k⟩⟩
section
variable {X : Cx} {pl : List (Addr × Obj)} {σ : L2.St} {H : Hp} {sh : Shared} {a : Addr} {ob : Obj} {fl : Array Value}
/-- an object that stands, unknown at the entry, is told of from here on -/
theorem Inv.track {o : HO} (I : Inv X pl σ H sh) (there : sh.heap.get? a = some ob) (flds : ob.data = .fields fl) (gone : H a = none) (entry : X.s_0.heap.get? a = none) (loc : a ≠ X.env.locals)
    (pins : ∀ p ∈ X.pn ++ pl, p.1 ≠ a) (new : ObjOk X.prog X.w (upd H a o) sh.heap a o) : Inv X pl σ (upd H a o) sh := by
  have still : ∀ {b : Addr} {u : HO}, H b = some u → upd H a o b = some u := fun {b u} t => by rw [upd_ne (ne_of_none t gone)]; exact t
  have base := I.base
  refine { I with base := { base with free := fun b u t n hx => ?_, tups := fun b xs t => still (base.tups b xs t), frzs := fun b u xs t => still (base.frzs b u xs t), tbls := fun b ps t => ?_ }, free := ?_, freeC := fun x c t => ?_, pin := fun p hp => ?_, hok := fun b u t => ?_ }
  · rw [upd_ne fun z => by rw [z, entry] at t; cases t]
    exact base.free b u t n hx
  · obtain ⟨more, z⟩ := base.tbls b ps t
    exact ⟨more, still z⟩
  · rw [upd_ne loc.symm]
    exact I.free
  · rw [upd_ne fun z => ?_]
    · exact I.freeC x c t
    · obtain ⟨v, oc, g, isCell⟩ := I.cell x c t
      rw [z, there] at g
      cases g
      rw [flds] at isCell
      cases isCell
  · obtain ⟨p1, p2, p3, p4, p5⟩ := I.pin p hp
    exact ⟨p1, by rw [upd_ne (pins p hp)]; exact p2, p3, p4, p5⟩
  · by_cases e : b = a
    · subst e
      rw [upd_same] at t
      cases t
      exact new
    · rw [upd_ne e] at t
      exact (I.hok b u t).stay (fun _ _ _ z => z) (fun _ z => still z) fun _ _ z => still z
/-- nothing stood where an error that flies over the frames is -/
theorem error_new {B heap : Heap} (top : X.stack = X.env :: X.outer) (frm : X.env.frame = some X.env.locals) (I : Inv X pl σ H sh) (ground : ∀ b o, sh.heap.get? b = some o → b ∉ frs X.stack → B.get? b = some o) (empty : B.get? a = none)
    (over : heap.FunFrames B (X.env :: X.outer)) (there : heap.get? a = some ob) (flds : ob.data = .fields fl) : a ∉ X.fs ∧ a ≠ X.env.locals ∧ sh.heap.get? a = none := by
  have noFrame : a ∉ frs (X.env :: X.outer) := fun isF => by
    obtain ⟨_, _, g, other⟩ := over.mem isF
    exact other _ (by rw [there] at g; cases g; exact flds)
  refine ⟨fun isF => noFrame ?_, fun z => noFrame (List.mem_filterMap.mpr ⟨_, List.mem_cons_self, by rw [frm, z]⟩), ?_⟩
  · obtain ⟨env, m, g⟩ := List.mem_filterMap.mp isF
    exact List.mem_filterMap.mpr ⟨env, List.mem_cons_of_mem _ m, g⟩
  · cases t : sh.heap.get? a with
    | none => rfl
    | some o =>
      have := ground a o t (by rw [top]; exact noFrame)
      rw [empty] at this
      cases this
theorem clause_named {x : Str} {c : Value} {np : Pos} {Q E : Value → Shared → Prop} (nm : Names X x c) (I : Inv (X.suite a ((a, ob) :: pl)) [] σ H sh) (q : Q c sh) : wpAny (model X.prog X.w) (X.A.mark (some (.ref a))) (eval (.Name x np) X.env) Q E sh := by
  rcases nm with ⟨gl, db, own | ⟨miss, blt, nn⟩⟩
  · exact ld_glob (X := X.suite a ((a, ob) :: pl)) I gl own q db
  · exact ld_blt (X := X.suite a ((a, ob) :: pl)) I gl miss blt q nn db
end
/-- what a clause that takes all errors of its body wishes, where the error is told of behind the suite -/
def wVal (K : PySem.W.Frag) (c : Value) (i : Nat) (ts : Addr → Value → Option Addr → TS) (D : Ends) : WX := fun cls d σ H =>
  PySem.W.exmOne K cls c = some true ∧ ∀ a, H a = none → ts a cls d { nx := fun σ1 H1 => D.nx (σ1.set i none) (upd H1 a (ExK cls d a)), rt := fun _ _ => False, bk := fun _ _ => False, ct := fun _ _ => False } (σ.set i (some (.ref a))) H
section
variable {X : Cx} {x n : Str} {c : Value} {i : Nat} {body rest : List Stmt} {first : Stmt} {p1 p2 p3 : Pos} {tb : WX → TS} {ts : Addr → Value → Option Addr → TS}
/-- try: body / except x as n: a suite that ends by itself -/
theorem ps_try_val (noex : X.ex = []) (top : X.stack = X.env :: X.outer) (frm : X.env.frame = some X.env.locals) (nd : X.N.Nodup) (slot : X.N[i]? = some n) (isLoc : X.env.kindOf n = some .local) (nm : Names X x c)
    (inner : ∀ (W : WX) (pl : List (Addr × Obj)) (xe : Value → Shared → Prop), Takes (X.tr pl xe) W → PassesOwn (model X.prog X.w) X.A X.env xe → PSs (X.tr pl xe) body (tb W))
    (suite : ∀ (a : Addr) (ob : Obj) (cls : Value) (d : Option Addr) (pl : List (Addr × Obj)), Zc cls d ob → (∃ fl, ob.data = .fields fl) → PSs (X.suite a ((a, ob) :: pl)) (first :: rest) (ts a cls d)) :
    PS X (.Try body [.ExceptHandler (some (.Name x p1)) (some n) (first :: rest) p2] [] [] p3) (fun D => tb (wVal X.K c i ts D) D) := by
  constructor
  intro pl sh st hp dd inv wish
  have good := inv.ok
  apply wpAny_Try_except
  have run := (inner (wVal X.K c i ts dd) (X.pn ++ pl) (fun e s₁ => wpAny (model X.prog X.w) X.A (noteFrame e X.env) (fun _ s₂ => wpAny (model X.prog X.w) X.A (setFlight e none) (fun _ s₃ =>
    wpAny (model X.prog X.w) X.A (handleBy e X.env [.ExceptHandler (some (.Name x p1)) (some n) (first :: rest) p2]) (SP X pl dd) X.xe s₃) X.xe s₂) X.xe s₁) ?caught PassesOwn.looking).run [] sh st hp dd (inv.toTry _) wish
  case caught =>
    intro val sE flies
    obtain ⟨a, B, sB, plB, stB, hpB, cls, d, rfl, invT, ground, upTo, sky, gone, sameOs, bare, matches_, go⟩ := flies
    have invB := invT.ofTry (pins := pl) good
    rw [show (X.tr (X.pn ++ pl) _).stack = X.env :: X.outer from top] at sky
    show wpAny (model X.prog X.w) X.A (noteFrame _ _) _ _ _
    apply Sky.land Zc.steady (show X.A.frames = some (X.env :: X.outer) by rw [good.frames, top]) frm sky
    intro heap1 air1 up1
    have inv1 := invB.landed (s' := { sE with heap := heap1 }) ground air1.1 (upTo.trans up1) sameOs bare
    obtain ⟨ob1, fl1, there1, kind1, flds1⟩ := air1.there
    obtain ⟨noFs, noLoc, notB⟩ := error_new top frm invB ground air1.2.1 air1.2.2.1 there1 flds1
    have entry : X.s_0.heap.get? a = Option.none := by
      cases t : X.s_0.heap.get? a with
      | none => rfl
      | some o =>
        obtain ⟨_, z⟩ := invB.base.there a o t (by rw [noex]; exact List.not_mem_nil)
        rw [notB] at z
        cases z
    have apart : ∀ p ∈ X.pn ++ pl, p.1 ≠ a := fun p hp z => by
      have := (invB.pin p hp).1
      rw [z, notB] at this
      cases this
    apply wpAny_handleBy_cons (codeAny_handlers_test ?_) (fun z => by cases z)
    refine clause_named nm (inv1.suite there1 flds1 gone noLoc noFs) ?_
    have isOf : PySem.W.Looks (model X.prog X.w) heap1 (typeOf (.ref a)) cls := fun _ _ _ _ keeps q => wpAny_typeOf_ref (keeps _ _ there1) (by rw [kind1.1]; exact q)
    refine (PySem.W.exm_one inv1.kIn isOf matches_).here (codeAny_handlers_suite_as ?_)
    apply HandSPX.lands_againZ air1
    intro heap2 air2 up2
    have inv2 := invB.landed (s' := { sE with heap := heap2 }) ground air2.1 ((upTo.trans up1).trans up2) sameOs bare
    obtain ⟨ob2, fl2, there2, kind2, flds2⟩ := air2.there
    refine store_ok (X := X.suite a ((a, ob2) :: (X.pn ++ pl))) (v := .ref a) (inv2.suite there2 flds2 gone noLoc noFs) nd slot (.inl isLoc) rfl (fun s3 inv3 => ?_) (.inr isLoc)
    refine wpAny_mono ((suite a ob2 cls d (X.pn ++ pl) kind2 ⟨_, flds2⟩).run [] s3 _ hpB _ inv3 (go a gone)) (fun flow s4 ended => ?_) fun _ _ never => never.elim
    match flow, ended with
    | .next, ⟨st4, hp4, inv4, q4⟩ =>
      obtain ⟨g4, none4, _⟩ := inv4.pin (a, ob2) (List.mem_append.mpr (.inl List.mem_cons_self))
      have inv5 := inv4.unsuite good
      have pinned : ∀ p ∈ (a, ob2) :: (X.pn ++ pl), s4.heap.get? p.1 = some p.2 ∧ hp4 p.1 = Option.none ∧ p.1 ≠ X.env.locals ∧ p.1 ∉ X.fs ∧ ∀ v, p.2.data ≠ .cell v := fun p m => by
        rcases List.mem_cons.mp m with rfl | old
        · refine ⟨g4, none4, noLoc, noFs, fun v z => ?_⟩
          rw [flds2] at z
          cases z
        · exact inv5.pin p old
      have inv6 : Inv (X.tr ((a, ob2) :: X.pn) X.xe) pl st4 hp4 s4 := ⟨good.toTry _ _, inv5.os, inv5.bare, inv5.base, inv5.loc, inv5.cell, inv5.free, inv5.freeC, pinned, inv5.hok, inv5.len⟩
      refine gone_ok (X := X.tr ((a, ob2) :: X.pn) X.xe) inv6 nd slot isLoc fun s7 inv7 => ⟨_, _, ?_, q4⟩
      have g7 := (inv7.pin (a, ob2) (List.mem_append.mpr (.inl List.mem_cons_self))).1
      have inv8 : Inv X pl (st4.set i Option.none) hp4 s7 := ⟨good, inv7.os, inv7.bare, inv7.base, inv7.loc, inv7.cell, inv7.free, inv7.freeC, fun p m => inv7.pin p (List.mem_cons_of_mem _ m), inv7.hok, inv7.len⟩
      exact Inv.track inv8 g7 flds2 none4 entry noLoc apart (exK_ok g7 kind2 flds2)
    | .brk, ⟨_, _, _, no⟩ => exact no.elim
    | .cont, ⟨_, _, _, no⟩ => exact no.elim
    | .ret _, ⟨_, _, _, _, _, no⟩ => exact no.elim
  refine wpAny_mono run (fun flow s1 ended => ?_) fun _ _ z => z
  match flow, ended with
  | .next, ⟨_, _, inv1, q1⟩ => exact wpAny_execs_nil ⟨_, _, inv1.ofTry good, q1⟩
  | .brk, ⟨_, _, inv1, q1⟩ => exact ⟨_, _, inv1.ofTry good, q1⟩
  | .cont, ⟨_, _, inv1, q1⟩ => exact ⟨_, _, inv1.ofTry good, q1⟩
  | .ret _, ⟨_, _, _, inv1, rel, q1⟩ => exact ⟨_, _, _, inv1.ofTry good, rel, q1⟩
end
/-- isinstance(e, c) of a kept error -/
def rIsK (K : PySem.W.Frag) : List V → Hp → VK → Prop := fun args H Q => ∃ (a D : Addr) (c : V) (cv : Value) (b : Bool), args = [.ref a, c] ∧ ExcC K D ∧ H a = some (ExK (.ref D) none a) ∧ (∀ u, RelV c u → u = cv) ∧ PySem.W.kitOne K (.ref D) cv = some b ∧ Q (.bl b) H
theorem call_isK {X : Cx} : CallR X (.builtin "isinstance") (rIsK X.K) := by
  intro pl sh st hp args vals Q inv rel told
  obtain ⟨a, D, c, cv, b, rfl, fit, kept, named, is_, q⟩ := told
  obtain ⟨u, rfl, r1⟩ : ∃ u, vals = [.ref a, u] ∧ RelV c u := by
    cases rel with
    | cons r0 more =>
      cases more with
      | cons r1 more =>
        cases more
        cases r0
        exact ⟨_, rfl, r1⟩
  obtain rfl := named u r1
  obtain ⟨⟨⟨_, _, dat, _⟩, fl, there, ⟨isD, noDict⟩, flds⟩, _, _⟩ := inv.hok a _ kept
  dsimp only at isD noDict flds
  subst isD noDict flds
  refine PySem.W.kia_one (PySem.W.handS_kitx_exc fit.hg fit.hk fit.hs fit.hd fit.ha fit.hn fit.ht fit.hm) inv.kIn ⟨there, rfl, rfl, trivial⟩ is_ (fun z => by cases z) fun toks => ?_
  exact ⟨.bl b, hp, inv.kept (t' := toks) fun _ _ g => g, rfl, q⟩
theorem CallR.either {X : Cx} {f : Value} {r r' : List V → Hp → VK → Prop} (one : CallR X f r) (two : CallR X f r') : CallR X f (fun args H Q => r args H Q ∨ r' args H Q) :=
  fun pl sh st hp args vals Q inv rel told => told.elim (one pl sh st hp args vals Q inv rel) (two pl sh st hp args vals Q inv rel)
end Kt
namespace Kt
open PySem PySem.Spec PySem.Calls PyProof.Rows L2
/-! ### an own class of errors whose __init__ says super().__init__(a text with its argument) and keeps the argument -/
/-- how an argument is written into a text -/
def inText : V → Option Str
  | .str z => some z
  | .int i => some (toString i)
  | _ => none
structure InitPos where
  (a b c d e f g h i j k l m : Pos)
  n : Nat
def initBody (fld txt : Str) (q : InitPos) : List Stmt :=
  [.Expr (.Call (.Attribute (.Call (.Name "super" q.a) [] [] q.b) "__init__" q.c) [.JoinedStr [.Constant (.str txt) q.n q.d, .FormattedValue (.Name fld q.e) (-1) none q.f] q.g] [] q.h) q.i,
   .Assign [.Attribute (.Name "self" q.j) fld q.k] (.Name fld q.l) q.m]
def initScope (fld : Str) : Scope := { kind := .function, names := [("self", .local), (fld, .local), ("__class__", .free), ("super", .globalImplicit)], isGenerator := false, isCoroutine := false, more := [] }
/-- what the written part says of the class at C, of its __init__ -/
structure IniC (P : Program) (K : PySem.W.Frag) (mg : Str → Option Value) (C fI : Addr) (fld txt : Str) : Prop where
  at_ : OexC K C
  fn : ∃ (oc ccl cl : Value) (od cdd cld : Option Addr) (osl ccs csl : Array (Option Value)) (qual : Str) (params : Arguments) (q : InitPos) (dV kV doc pm ct : Value) (an : Option Addr) (cda cc : Addr) (vs : Array Value) (file : Str) (tf : Tok) (cdD : ClassData) (ar1 : Arg) (pl : Env → Sem Bool),
    K.lookup fI = some ⟨oc, od, .func (PySem.W.fnX "__init__" qual params (initBody fld txt q) (initScope fld) [("__class__", cc)] dV kV doc pm an (.ref cda) ct), osl⟩ ∧ PySem.W.codeIn K (.ref cda) qual = true ∧
    (params.posonlyargs ++ params.args).head? = some ar1 ∧ ar1.arg = "self" ∧ (∀ a b : Value, bindArgs (PySem.W.fnX "__init__" qual params (initBody fld txt q) (initScope fld) [("__class__", cc)] dV kV doc pm an (.ref cda) ct) ⟨[a, b], []⟩ = pure [(("self" : Str), a), (fld, b)]) ∧
    (∀ env : Env, eval (.Call (.Attribute (.Call (.Name "super" q.a) [] [] q.b) "__init__" q.c) [.JoinedStr [.Constant (.str txt) q.n q.d, .FormattedValue (.Name fld q.e) (-1) none q.f] q.g] [] q.h) env = (do
      let ov ← attributeBase (.Call (.Name "super" q.a) [] [] q.b) "__init__" env (eval (.Call (.Name "super" q.a) [] [] q.b) env)
      standAt q.c.atName
      let (f, first) ← holding [ov] (getMethod ov "__init__" (pl env))
      callWith q.h f first (backTo q.h (starEach [.JoinedStr [.Constant (.str txt) q.n q.d, .FormattedValue (.Name fld q.e) (-1) none q.f] q.g] env)) [])) ∧
    K.lookup cda = some ⟨ccl, cdd, .fields vs, ccs⟩ ∧ vs[2]? = some (.str file tf) ∧ ((P.main.file : Str) == file) = true ∧
    K.lookup cc = some ⟨cl, cld, .cell (some (.ref C)), csl⟩ ∧ PySem.W.clsIn K C = some cdD
  top : (P.main.scope.names.lookup ("super" : Str)).isSome = false
  sup : mg "super" = none
  self_ : PySem.W.mroIn K C (.ref C) = some true
  par : PySem.W.ks_superIn K C C "__init__" = some (some (.builtin "ValueError.__init__"))
  val : PySem.W.subIn K (.ref C) (.type "ValueError") = some true
  opq : PySem.W.nsIn K cStatics "thirdparty.any" = some none
  exc : PySem.W.excInitIn K C [.type "ValueError", .type "Exception", .type "BaseException", .type "object"] "ValueError.__new__" = true
  nof : PySem.W.findIn K (.ref C) fld = some none
  ini : PySem.W.findIn K (.ref C) "__init__" = some (some (.ref fI))
  typ : PySem.W.typeIn K (.ref fI) = some (.type "function")
theorem fld_kind {fld : Str} (n : ("self" : Str) ≠ fld) : List.lookup fld (initScope fld).names = some .local := by
  unfold initScope
  rw [List.lookup_cons, beq_eq_false_iff_ne.mpr n.symm]
  simp
theorem sup_kind {fld : Str} (n : ("super" : Str) ≠ fld) : List.lookup ("super" : Str) (initScope fld).names = some .globalImplicit := by
  unfold initScope
  rw [List.lookup_cons, show (("super" : Str) == "self") = false by decide, List.lookup_cons, beq_eq_false_iff_ne.mpr n]
  rfl
theorem cls_kind {fld : Str} (n : ("__class__" : Str) ≠ fld) : List.lookup ("__class__" : Str) (initScope fld).names = some .free := by
  unfold initScope
  rw [List.lookup_cons, show (("__class__" : Str) == "self") = false by decide, List.lookup_cons, beq_eq_false_iff_ne.mpr n]
  rfl
theorem self_look {fld : Str} {a b : Value} (n : ("self" : Str) ≠ fld) : ([(("self" : Str), a), (fld, b)] : List (Str × Value)).reverse.lookup ("self" : Str) = some a := by
  show List.lookup ("self" : Str) [(fld, b), (("self" : Str), a)] = some a
  rw [List.lookup_cons, beq_eq_false_iff_ne.mpr n]
  rfl
theorem fld_look {fld : Str} {a b : Value} : ([(("self" : Str), a), (fld, b)] : List (Str × Value)).reverse.lookup fld = some b := by
  show List.lookup fld [(fld, b), (("self" : Str), a)] = some b
  rw [List.lookup_cons, beq_self_eq_true]
section
variable {P : Program} {w : World} {K : PySem.W.Frag} {mg : Str → Option Value} {A : Around} {base : Heap} {C fI e t0 : Addr} {fld txt : Str} {sh : Shared} {v : V} {u : Value}
theorem init_run (T : IniC P K mg C fI fld txt) (mod : Mod K mg base) (bs : ∀ b o, base.get? b = some o → sh.heap.get? b = some o) (nb : base.get? e = none) (room : A.depth < recursionLimit)
    (there : sh.heap.get? e = some (PySem.W.excObj C t0 none .none)) (rel : RelV v u) (txt2 : Str) (as_ : inText v = some txt2) (short : txt2.length ≤ 4000) (few : txt.length ≤ 4000) (big : ∀ i, v = .int i → i.natAbs.log2 < 1920) (nself : ("self" : Str) ≠ fld) (nsup : ("super" : Str) ≠ fld) (ncls : ("__class__" : Str) ≠ fld) (ndbg : (fld == ("__debug__" : Str)) = false)
    (R : Result → Shared → Prop)
    (fin : ∀ (s' : Shared) (dx t1 : Addr), s'.os = sh.os → s'.gens = sh.gens → (∀ b o, b ≠ e → sh.heap.get? b = some o → s'.heap.get? b = some o) → sh.heap.objs.size ≤ dx → dx ≠ e → s'.heap.get? e = some (PySem.W.excObj C t1 (some dx) .none) → s'.heap.Ns1 dx (fun y => if y = fld then some u else none) → R (.ok (.ret .none)) s')
    (args : Args) (hargs : ∀ fd : FuncData, (∃ (oc : Value) (od : Option Addr) (osl : Array (Option Value)), K.lookup fI = some ⟨oc, od, .func fd, osl⟩) → BindsTo sh fd args [(("self" : Str), .ref e), (fld, u)]) :
    codeAny (model P w) A (.call (.ref fI) args) R sh := by
  obtain ⟨oc, ccl, cl, od, cdd, cld, osl, ccs, csl, qual, params, q, dV, kV, doc, pm, ct, an, cda, cc, vs, file, tf, cdD, ar1, pl, look, code, hpar, ha1, hbind, hev, hcode, hvs, hfile, hcell, hcls⟩ := T.fn
  have X : K.In sh.heap := mod.kin.keeps bs
  obtain ⟨mb, nsb, boot⟩ := mod.blt
  refine ks_codeAny_call_defAt (fd := PySem.W.fnX "__init__" qual _ (initBody fld txt q) (initScope fld) [("__class__", cc)] dV kV doc pm an (.ref cda) ct) (body := initBody fld txt q) (binds := [("self", .ref e), (fld, u)]) room (X _ _ look) rfl (mod.nolimit.keeps bs) (PySem.W.codeRec_of X code) rfl ?binds ?nocell ?local_ ?run
  case binds =>
    exact hargs _ ⟨_, _, _, look⟩
  case nocell =>
    intro z hz
    have hz : z = (("self" : Str), NameKind.local) ∨ z = (fld, NameKind.local) ∨ z = (("__class__" : Str), NameKind.free) ∨ z = (("super" : Str), NameKind.globalImplicit) := by simpa [initScope, PySem.W.fnX] using hz
    rcases hz with rfl | rfl | rfl | rfl <;> exact fun z => by cases z
  case local_ =>
    intro z hz
    have hz : z = (("self" : Str), Value.ref e) ∨ z = (fld, u) := by simpa using hz
    rcases hz with rfl | rfl
    · rfl
    · show List.lookup fld (initScope fld).names = some .local
      unfold initScope
      rw [List.lookup_cons, beq_eq_false_iff_ne.mpr nself.symm]
      simp
  case run =>
    intro h1 frame keep
    have len1 : sh.heap.objs.size < h1.objs.size := frame.lt
    obtain ⟨hid, hhid⟩ : ∃ hid : Hp, hid = fun b => if b = e then some (.own 0) else none := ⟨_, rfl⟩
    have off : ∀ {b : Addr}, b ≠ e → hid b = none := fun {b} n => by rw [hhid]; exact if_neg n
    have on : hid e ≠ none := by
      have z : hid e = some (.own 0) := by rw [hhid]; exact if_pos rfl
      rw [z]
      exact fun y => by cases y
    have elt : e < sh.heap.objs.size := Heap.lt_size there
    obtain ⟨L, hL⟩ : ∃ L, L = sh.heap.objs.size := ⟨_, rfl⟩
    have eL : e ≠ L := by rw [hL]; exact Nat.ne_of_lt elt
    have ground : ∀ b o, (hidT sh.heap hid).get? b = some o → h1.get? b = some o := fun b o z => keep b o (of_hidT z).1
    rw [← hL] at frame ⊢
    have F : Fr (hidT sh.heap hid) L h1 (fun x => ([("self", Value.ref e), (fld, u)] : List (Str × Value)).reverse.lookup x) := ⟨frame, ground, by rw [hL]; exact Nat.le_of_eq (hidT_size _ _)⟩
    have none_ : (hidT sh.heap hid).get? e = none := by
      match z : (hidT sh.heap hid).get? e with
      | none => rfl
      | some o => exact absurd (of_hidT z).2 on
    have N : News (hidT sh.heap hid) L h1 [(e, PySem.W.excObj C t0 none .none)] := fun p hp => by
      rw [List.mem_singleton.mp hp]
      exact ⟨keep _ _ there, eL, none_⟩
    have baseIn : ∀ b o, base.get? b = some o → (hidT sh.heap hid).get? b = some o := fun b o z => hidT_get (bs b o z) (off fun y => by rw [y, nb] at z; cases z)
    have X0 : K.In (hidT sh.heap hid) := mod.kin.keeps baseIn
    obtain ⟨env, henv⟩ : ∃ env, env = callEnv (PySem.W.fnX "__init__" qual params (initBody fld txt q) (initScope fld) [("__class__", cc)] dV kV doc pm an (.ref cda) ct) L fI := ⟨_, rfl⟩
    rw [← henv]
    have kind : env.scope.kind = .function := by rw [henv]; rfl
    have names : env.scope = initScope fld := by rw [henv]; rfl
    have ks : env.kindOf "super" = some .globalImplicit := by rw [henv]; exact sup_kind nsup
    have kc : env.kindOf "__class__" = some .free := by rw [henv]; exact cls_kind ncls
    have kself : env.kindOf "self" = some .local := by rw [henv]; rfl
    have kfld : env.kindOf fld = some .local := by rw [henv]; exact fld_kind nself
    have lself : ([(("self" : Str), Value.ref e), (fld, u)] : List (Str × Value)).reverse.lookup ("self" : Str) = some (.ref e) := self_look nself
    have lfld : ([(("self" : Str), Value.ref e), (fld, u)] : List (Str × Value)).reverse.lookup fld = some u := fld_look
    have X1 : K.In h1 := X0.keeps ground
    have bk1 : ∀ b o, base.get? b = some o → h1.get? b = some o := fun b o z => ground b o (baseIn b o z)
    obtain ⟨oD, hD1, hD2⟩ : ∃ oD, h1.get? C = some oD ∧ oD.data = .cls cdD := by
      unfold PySem.W.clsIn at hcls
      split at hcls
      · rename_i c d cd' sl ho
        cases hcls
        exact ⟨_, X1 _ _ ho, rfl⟩
      · cases hcls
    have I1 : PySem.W.InstAt h1 e (PySem.W.excObj C t0 none .none) C none := ⟨keep _ _ there, rfl, rfl, trivial⟩
    refine ks_wpAt_execs_cons (ks_wpAt_Expr_any (ks_wpAt_MethodCall (pl := pl env) ?_ (hev env)) ?int ?swap)
    case int => rw [henv]; rfl
    case swap => rw [henv]; rfl
    refine ks_wpAt_super_base ks kc (by decide) (f := fI) (by rw [henv]; rfl) (X1 _ _ look) rfl hpar (cc := cda) (by rw [henv]; rfl) (X1 _ _ hcode) rfl hvs hfile T.top ?_
    refine PySem.W.ks_loadName_global kind ks (loadGlobal_builtin (by rw [henv]; exact mod.glob.keeps bk1) T.sup (by rw [henv]; exact nsb.keeps bk1) ((boot _ (by decide)).trans (by decide +kernel)) ⟨rfl, ?_⟩)
    refine wpAny_loadName_free kind kc (by rw [henv]; rfl) ⟨_, X1 _ _ hcell, rfl⟩ ?_
    rw [ha1]
    refine wpAny_loadName_local kind kself (by rw [henv]; exact frame) lself ?_
    refine ks_wpAny_isType_cls hD1 hD2 ⟨rfl, ?_⟩
    refine ks_wpAny_call_super hD1 hD2 I1.at_ I1.cls (fun c z => by cases z) (PySem.W.looks_mroIn X1 T.self_) (fun h2 so2 keep2 => ?_)
    obtain ⟨F2, N2, _⟩ := PySem.W.ks_newsPush (s := ⟨h1, sh.gens, sh.drawn, sh.toks, sh.os⟩) F N rfl so2 keep2
    have I2 : PySem.W.InstAt h2 e (PySem.W.excObj C t0 none .none) C none := ⟨keep2 _ _ I1.at_, rfl, rfl, trivial⟩
    refine PySem.W.kxs_method PySem.W.kxs_ValueError F2 X0 N2 (.head _) I2 T.opq T.par T.val (by decide) (fun m3 h3 F3 N3 lt3 => ?_)
    refine PySem.W.kxs_callWith1 (i := "ValueError.__init__") (x := e) N3 (.head _) ?_
    show wpAny _ _ (spliced ((false, eval (.JoinedStr [.Constant (.str txt) q.n q.d, .FormattedValue (.Name fld q.e) (-1) none q.f] q.g) env) :: backTo q.h (starEach [] env))) _ _ _
    refine Calls.spliced_cons (wpAny_JoinedStr ?_)
    show Joins _ _ _ [eval (.Constant (.str txt) q.n q.d) env, eval (.FormattedValue (.Name fld q.e) (-1) none q.f) env] Str.empty _ _
    have el : (Str.empty ++ txt).length = txt.length := by
      show (Str.empty ++ txt).cps.size = txt.cps.size
      show (#[] ++ txt.cps).size = _
      simp
    have small : ∀ n : Nat, n ≤ 8000 → n ≤ sizeLine := fun n hn => Nat.le_trans hn (by decide)
    refine Constant_str ⟨txt, _, rfl, small _ (by rw [el]; omega), ?_⟩
    have al : ∀ y : Str, (Str.empty ++ txt ++ y).length = txt.length + y.length := fun y => by
      show (Str.empty ++ txt ++ y).cps.size = _
      have : (Str.empty ++ txt ++ y).cps = (Str.empty ++ txt).cps ++ y.cps := rfl
      rw [this, Array.size_append]
      have e2 : (Str.empty ++ txt).cps.size = txt.length := el
      rw [e2]
      rfl
    refine wpAny_FormattedValue_plain (wpAny_Name (wpAny_loadName_local kind kfld (by rw [henv]; exact F3.ns) lfld ?_) ndbg)
    have elt2 : e < m3 := lt3 (e, _) (.tail _ (.head _))
    have ups : PySem.W.UpdF e (PySem.W.excObj C t0 none .none) [(m3, PySem.W.kxs_mw "ValueError.__init__" e), (h1.objs.size, PySem.W.ks_superObj C e C), (e, PySem.W.excObj C t0 none .none)] (fun o' => (m3, PySem.W.kxs_mw "ValueError.__init__" e) :: (h1.objs.size, PySem.W.ks_superObj C e C) :: [(e, o')]) :=
      .tail (Nat.ne_of_gt elt2) (.tail (Nat.ne_of_gt (Nat.lt_trans elt len1)) (.head (fun p hp => by cases hp)))
    have rest : ∀ (y : Str) (ty : Tok) (s4 : Shared), s4.heap = h3 → s4.os = sh.os → s4.gens = sh.gens → y.length ≤ 4000 →
        ∃ y' t', Value.str y ty = .str y' t' ∧ (Str.empty ++ txt ++ y').length ≤ sizeLine ∧ Joins (model P w) (A.deeper env) (fun e s' => wpAny (model P w) (A.deeper env) (leaving env e) (fun _ s'' => R (Except.error e) s'') (fun e' s'' => R (Except.error e') s'') s') [] (Str.empty ++ txt ++ y') (fun out s₁ => out.length ≤ sizeLine ∧ wpAny (model P w) (A.deeper env) (spliced (backTo q.h (starEach [] env))) (fun vs s₂ => PySem.W.KxsAt "ValueError.__init__" m3 e s₂.heap ∧ wpAny (model P w) (A.deeper env) (call (.ref m3) (Value.str out s₁.toks :: vs)) (fun _ s' => PySem.wpAt (model P w) (A.deeper env) (Code.func (initBody fld txt q) env)
              (execs [Stmt.Assign [(Expr.Name ("self" : Str) q.j).Attribute fld q.k] (Expr.Name fld q.l) q.m] env) (fun f s' => R (Except.ok (Flow.ret (match f with | Flow.ret v => v | x => Value.none))) s')
              (fun e s' => wpAny (model P w) (A.deeper env) (leaving env e) (fun _ s'' => R (Except.error e) s'') (fun e' s'' => R (Except.error e') s'') s') s')
              (fun e s' => wpAny (model P w) (A.deeper env) (leaving env e) (fun _ s'' => R (Except.error e) s'') (fun e' s'' => R (Except.error e') s'') s') s₂) (fun e s' => wpAny (model P w) (A.deeper env) (leaving env e) (fun _ s'' => R (Except.error e) s'') (fun e' s'' => R (Except.error e') s'') s') { s₁ with toks := s₁.toks + 1 }) s4 := by
      rintro y ty ⟨hp4, g4, d4, tk4, os4⟩ rfl eo eg hy
      dsimp only at F3 N3 eo eg
      refine ⟨y, ty, rfl, small _ (by rw [al]; omega), small _ (by rw [al]; omega), ?_⟩
      refine Calls.spliced_nil ⟨PySem.W.kxs_at N3 (.head _), ?_⟩
      refine PySem.W.kxs_call (s := ⟨hp4, g4, d4, tk4 + 1, os4⟩) F3 X0 N3 PySem.F.excBase_ValueError T.exc (.head _) ups (by show 1 ≤ sizeLine; decide) (fun t5 h5 F5 N5 lt5 => ?_)
      subst eo eg
      obtain ⟨nm, qn, NN, bss, bm, sn, sub, ab, col, dd, k0, k1, k2, k3, k5, hC, hbm⟩ := T.at_.cls
      have hcl : PySem.W.clsIn K C = some { name := nm, bases := bss, mro := .ref C :: bm, ns := NN, qualname := qn, hasDict := true, slotNames := sn, subclasses := sub, abstract := ab, collection := col, hasDel := false } := by
        unfold PySem.W.clsIn
        rw [hC]
      have X5 : K.In h5 := X0.keeps F5.keep
      obtain ⟨he5, _, _⟩ := N5 (e, PySem.W.excObj C t5 none .none) (.tail _ (.tail _ (.tail _ (.head _))))
      refine ks_wpAt_execs_cons (ks_wpAt_Assign_Attr ?_ ?swap2)
      case swap2 => rw [henv]; rfl
      refine wpAt_of_wpAny (wpAny_Name (wpAny_loadName_local kind kfld (by rw [henv]; exact F5.ns) lfld ?_) ndbg)
      refine wpAny_Name (wpAny_loadName_local kind kself (by rw [henv]; exact F5.ns) lself ?_) (by decide)
      refine PySem.W.set_plain X5 (ox := PySem.W.excObj C t5 none .none) (od := none) ⟨he5, rfl, rfl, trivial⟩ T.at_.sa ?_
      refine PySem.HandSPX.exc_osa X5 he5 hcl (show PySem.HandSPX.refsVE (.ref C :: bm) = true from hbm) rfl T.nof (fun h6 tk6 dx keep6 dn dne hx6 hn6 => ?_)
      refine wpAt_of_wpAny (wpAny_execs_nil ?_)
      refine fin _ dx t5 rfl rfl (fun b o nb z => keep6 b o nb (F5.keep b o (hidT_get z (off nb)))) ?_ dne hx6 hn6
      have lt := F5.ns.lt
      rw [hL] at lt
      exact Nat.le_trans (Nat.le_of_lt lt) dn
    cases v with
    | str z =>
      obtain ⟨t, rfl⟩ := rel
      have e0 : z = txt2 := Option.some.inj as_
      subst e0
      exact wpAny_formatField_str (rest z t _ rfl rfl rfl short) (rest z _ _ rfl rfl rfl short) (small _ (by omega))
    | int i =>
      obtain ⟨t, rfl⟩ := rel
      have e0 : toString i = txt2 := by
        have := Option.some.inj as_
        exact this
      exact wpAny_formatField_int (big i rfl) (rest (Str.ofString (toString i)) _ _ rfl rfl rfl (by rw [show Str.ofString (toString i) = txt2 from e0]; exact short))
    | non => cases as_
    | bl b => cases as_
    | byt b => cases as_
    | flt b => cases as_
    | ref b => cases as_
    | ty b => cases as_
/-- the promise of such an __init__ -/
def sp_init (C : Addr) (fld : Str) : Sp := fun vs H Q _ => ∃ (e : Addr) (v : V) (z : Str), vs = [.ref e, v] ∧ inText v = some z ∧ z.length ≤ 4000 ∧ (∀ i, v = .int i → i.natAbs.log2 < 1920) ∧ H e = some (exo e C none) ∧ ∀ d H', H d = none → d ≠ e → H' = upd (upd H d (exd d [(fld, v)])) e (exo e C (some d)) → Q .non H'
theorem init_ok (T : IniC P K mg C fI fld txt) (few : txt.length ≤ 4000) (nself : ("self" : Str) ≠ fld) (nsup : ("super" : Str) ≠ fld) (ncls : ("__class__" : Str) ≠ fld) (ndbg : (fld == ("__debug__" : Str)) = false) :
    ∃ fd : FuncData, FnOk P w K mg base CX0 1 fI fd [("self" : Str), fld] (sp_init C fld) ∧ Binds K fd [("self" : Str), fld] [] := by
  obtain ⟨oc, ccl, cl, od, cdd, cld, osl, ccs, csl, qual, params, q, dV, kV, doc, pm, ct, an, cda, cc, vs, file, tf, cdD, ar1, pl, look, code, hpar, ha1, hbind, hev, hcode, hvs, hfile, hcell, hcls⟩ := T.fn
  refine ⟨_, ⟨?len, ?run⟩, .all fun us hl => match us, hl with | [a, b], _ => hbind a b⟩
  case len =>
    rintro vs H Q E ⟨e, v, z, rfl, _⟩
    rfl
  case run =>
    rintro A outer s H args us vs Q E room env binds rel ⟨e, v, z, rfl, as_, short, big, tracked, q⟩
    obtain ⟨u, rfl, r⟩ : ∃ u, us = [.ref e, u] ∧ RelV v u := by
      obtain ⟨a, b, rfl, ra, rb⟩ := vals2 rel
      obtain rfl : a = .ref e := ra
      exact ⟨b, rfl, rb⟩
    obtain ⟨t1, there⟩ := exo_at env.hok tracked
    refine init_run T env.mod (fun b o z => (env.bs b o z).1) ?nb room.depth there r z as_ short few big nself nsup ncls ndbg _ (fun s' dx t2 os gens keep dn dne hx hn => ?_) args (fun fd' ⟨oc', od', osl', look'⟩ => ?_)
    case nb =>
      match y : base.get? e with
      | none => rfl
      | some o =>
        have := (env.bs e o y).2
        rw [tracked] at this
        cases this
    · have free : H dx = none := env.hok.fresh dn
      have far : ∀ {b : Addr}, H b = none → b ≠ e := fun {b} n y => by
        rw [y, tracked] at n
        cases n
      have apart : ∀ {b : Addr} {o : Obj}, s.heap.get? b = some o → b ≠ dx := fun {b o} y => Nat.ne_of_lt (Nat.lt_of_lt_of_le (Heap.lt_size y) dn)
      refine ⟨.non, upd (upd H dx (exd dx [(fld, v)])) e (exo e C (some dx)), os, by rw [gens]; exact env.bare, ?un, ?ok, rfl, q dx _ free dne rfl⟩
      case un =>
        constructor
        · intro b o y none_ _ _
          exact keep b o (far none_) y
        · intro b o y none_ _ _
          exact ⟨o.slots, keep b o (far none_) y⟩
        · intro b o y none_ _
          rw [upd_ne (far none_), upd_ne (apart y)]
          exact none_
        · intro b o y _
          by_cases at_ : b = e
          · exact ⟨_, by rw [at_]; exact hx⟩
          · exact ⟨o, keep b o at_ y⟩
        · intro b xs y
          rw [upd_ne (at_ne tracked y exo_tup), upd_ne (ne_of_none y free)]
          exact y
        · intro b o x y
          rw [upd_ne (at_ne tracked y exo_frz), upd_ne (ne_of_none y free)]
          exact y
        · intro b ps y
          refine ⟨#[], ?_⟩
          rw [upd_ne (at_ne tracked y exo_tbl), upd_ne (ne_of_none y free), y, Array.append_empty]
      case ok =>
        intro b o y
        by_cases at_ : b = e
        · subst at_
          rw [upd_same] at y
          obtain rfl := Option.some.inj y
          exact exo_ok hx
        · rw [upd_ne at_] at y
          by_cases new : b = dx
          · subst new
            rw [upd_same] at y
            obtain rfl := Option.some.inj y
            exact exd_ok hn (relO_put (fs := []) r fun _ => trivial)
          · rw [upd_ne new] at y
            refine (env.hok b o y).stay (fun c x own look2 => keep c x ?_ look2) (fun c own => ?_) (fun c xs tup => ?_)
            · rcases own with own | own
              · rw [own]
                exact at_
              · exact at_ne tracked own exo_own
            · rw [upd_ne (at_ne tracked own exo_own), upd_ne (ne_of_none own free)]
              exact own
            · rw [upd_ne (at_ne tracked tup exo_tup), upd_ne (ne_of_none tup free)]
              exact tup
    · rw [look] at look'
      cases look'
      exact binds
end
/-- such a class may be raised -/
structure IniOk (P : Program) (w : World) (K : PySem.W.Frag) (mg : Str → Option Value) (base : Heap) (x fld : Str) : Prop where
  ex : ∃ (C fI : Addr) (fd : FuncData), mg x = some (.ref C) ∧ OexC K C ∧ PySem.W.findIn K (.ref C) "__init__" = some (some (.ref fI)) ∧ PySem.W.typeIn K (.ref fI) = some (.type "function") ∧ FnOk P w K mg base CX0 1 fI fd [("self" : Str), fld] (sp_init C fld) ∧ Binds K fd [("self" : Str), fld] []
theorem pmk_ini {X : Cx} {j : Nat} {x fld : Str} {e : Expr} {ta : TA} {p pos : Pos} (c : IniOk X.prog X.w X.K X.mg X.base x fld) (hr : Room j X.A) (hk : 2 ≤ j) (hg : Gl X x) (ha : PA X [e] ta) (hdb : (x == ("__debug__" : Str)) = false := by decide)
    (he : starEach [e] X.env = (false, eval e X.env) :: starEach [] X.env := by rfl) (hpl : (backTo pos (starEach [] X.env)).any (·.1) = false := by rfl) : PMk X (.Call (.Name x p) [e] [] pos) (tMkO (clsA X.mg x) (sp_init (clsA X.mg x) fld) [] ta) := by
  obtain ⟨C, fI, fd, at_, oex, ini, typ, fn, binds⟩ := c.ex
  rw [clsA_of at_]
  exact pmk_oex oex ini typ fn (hr.mono hk) binds .nil pass0 hg at_ ha hdb he hpl
theorem ini_go {C : Addr} {fld : Str} {H1 : Hp} {v : V} {z : Str} {Q : XK} (as_ : inText v = some z) (short : z.length ≤ 4000) (big : ∀ i, v = .int i → i.natAbs.log2 < 1920) (go : ∀ d H2, Same H1 H2 → H2 d = some (.xd [(fld, v)]) → Q (.ref C) (some d) H2) :
    [v].length ≤ 1000 ∧ ∀ a, H1 a = none → sp_init C fld (.ref a :: ([v] ++ [])) (upd H1 a (exo a C none)) (fun v H2 => v = .non ∧ ∃ (d : Addr) (fs : List (Str × V)), H2 a = some (exo a C (some d)) ∧ H2 d = some (exd d fs) ∧ H1 d = none ∧ Q (.ref C) (some d) (upd (del H2 a) d (.xd fs))) (fun _ _ _ => False) := by
  refine ⟨by show 1 ≤ 1000; decide, fun a na => ⟨a, v, z, rfl, as_, short, big, upd_same, fun d H' nd dne eq => ?_⟩⟩
  rw [upd_ne dne] at nd
  subst eq
  refine ⟨rfl, d, [(fld, v)], upd_same, by rw [upd_ne dne, upd_same], nd, go d _ (fun b o y => ?_) upd_same⟩
  have na2 := ne_of_none y na
  rw [upd_ne (ne_of_none y nd), del_ne na2, upd_ne na2, upd_ne (ne_of_none y nd), upd_ne na2]
  exact y
/-- isinstance(e, c) of a kept error that has a field -/
def rIsKd (K : PySem.W.Frag) : List V → Hp → VK → Prop := fun args H Q => ∃ (a D dd : Addr) (fs : List (Str × V)) (c : V) (cv : Value) (b : Bool), args = [.ref a, c] ∧ ExcC K D ∧ H a = some (ExK (.ref D) (some dd) a) ∧ H dd = some (.xd fs) ∧ (∀ u, RelV c u → u = cv) ∧ PySem.W.kitOne K (.ref D) cv = some b ∧ Q (.bl b) H
theorem call_isKd {X : Cx} : CallR X (.builtin "isinstance") (rIsKd X.K) := by
  intro pl sh st hp args vals Q inv rel told
  obtain ⟨a, D, dd, fs, c, cv, b, rfl, fit, kept, dict, named, is_, q⟩ := told
  obtain ⟨a2, u, rfl, ra, r1⟩ := vals2 rel
  obtain rfl : a2 = Value.ref a := ra
  obtain rfl := named u r1
  obtain ⟨⟨⟨_, _, dat, _⟩, fl, there, ⟨isD, hasDict⟩, flds⟩, _, _⟩ := inv.hok a _ kept
  dsimp only at isD hasDict flds
  subst isD hasDict flds
  obtain ⟨mA, ⟨od, es, ep, ho, _⟩, _⟩ := (show ObjOk X.prog X.w hp sh.heap dd (.xd fs) from inv.hok dd _ dict)
  have known : (PySem.W.clsIn X.K D).isSome = true := by
    have := fit.hm
    unfold PySem.W.mroIn at this
    match z : PySem.W.clsIn X.K D with
    | some _ => rfl
    | none =>
      rw [z] at this
      cases this
  refine PySem.W.kia_one (PySem.W.kitx_exc (od := some od) known fit.hg fit.hk fit.hs fit.ha fit.hn fit.ht fit.hm) inv.kIn ⟨there, rfl, rfl, ho⟩ is_ (fun z => by cases z) fun toks => ?_
  exact ⟨.bl b, hp, inv.kept (t' := toks) fun _ _ g => g, rfl, q⟩
/-- e.f of a kept error -/
def tKf (C : Addr) (f : Str) (te : TE) : TE := fun σ H Q => te σ H fun x H1 => ∃ (a dd : Addr) (fs : List (Str × V)) (v : V), x = .ref a ∧ H1 a = some (ExK (.ref C) (some dd) a) ∧ H1 dd = some (.xd fs) ∧ fs.lookup f = some v ∧ Q v H1
theorem pe_kf {X : Cx} {C : Addr} {e : Expr} {te : TE} {pos : Pos} {n : Str} (T : ExcC X.K C) (nof : PySem.W.findIn X.K (.ref C) n = some none) (he : PE X e te) (hb : attributeBase e n X.env (eval e X.env) = eval e X.env := by rfl) : PE X (.Attribute e n pos) (tKf C n te) := by
  constructor
  intro pins s σ H Q inv told
  refine attr_of hb (thn (he.run pins s σ H _ inv told) fun u s1 ended => ?_)
  obtain ⟨x, H1, inv1, rel, a, dd, fs, v, rfl, kept, dict, field, q⟩ := ended
  obtain rfl : u = Value.ref a := rel
  obtain ⟨⟨ob, fl, there, kind, flds⟩, _, _⟩ := inv1.hok a _ kept
  obtain ⟨mA, hns, fits⟩ := (show ObjOk X.prog X.w H1 s1.heap dd (.xd fs) from inv1.hok dd _ dict)
  obtain ⟨od, ho, look⟩ := lookIn_ns hns
  obtain ⟨w2, hw, rw2⟩ := RelO.some_of (v := v) (o := mA n) (by rw [← field]; exact fits n)
  have inst : PySem.W.InstAt s1.heap a ob C (some od) := ⟨there, kind.1, by unfold PySem.W.notCls; rw [flds] <;> rfl, by rw [kind.2]; exact ho⟩
  exact HandSPX.exc_get inv1.kIn inst T.hg T.hk T.hs (PySem.W.findObj_own T.hd nof rfl (by rw [look, hw])) (handed_of rw2) ⟨v, H1, inv1.tok _, rw2, q⟩
/-! ### the facts of such a class, as the top leaves them -/
structure ProgF (P : Program) : Prop where
  file : ((P.main.file : Str) == "/claim/cut.py") = true
  top : (P.main.scope.names.lookup ("super" : Str)).isSome = false
/-- an own class of errors with an __init__ of its own -/
structure IniK (K : PySem.W.Frag) (mg : Str → Option Value) (C : Addr) (fld txt : Str) : Prop where
  fn : ∃ (fI : Addr) (oc ccl cl : Value) (od cdd cld : Option Addr) (osl ccs csl : Array (Option Value)) (qual : Str) (params : Arguments) (q : InitPos) (dV kV doc pm ct : Value) (an : Option Addr) (cda cc : Addr) (vs : Array Value) (tf : Tok) (ar1 : Arg) (pl : Env → Sem Bool),
    K.lookup fI = some ⟨oc, od, .func (PySem.W.fnX "__init__" qual params (initBody fld txt q) (initScope fld) [("__class__", cc)] dV kV doc pm an (.ref cda) ct), osl⟩ ∧ PySem.W.codeIn K (.ref cda) qual = true ∧
    (params.posonlyargs ++ params.args).head? = some ar1 ∧ ar1.arg = "self" ∧ (∀ a b : Value, bindArgs (PySem.W.fnX "__init__" qual params (initBody fld txt q) (initScope fld) [("__class__", cc)] dV kV doc pm an (.ref cda) ct) ⟨[a, b], []⟩ = pure [(("self" : Str), a), (fld, b)]) ∧
    (∀ env : Env, eval (.Call (.Attribute (.Call (.Name "super" q.a) [] [] q.b) "__init__" q.c) [.JoinedStr [.Constant (.str txt) q.n q.d, .FormattedValue (.Name fld q.e) (-1) none q.f] q.g] [] q.h) env = (do
      let ov ← attributeBase (.Call (.Name "super" q.a) [] [] q.b) "__init__" env (eval (.Call (.Name "super" q.a) [] [] q.b) env)
      standAt q.c.atName
      let (f, first) ← holding [ov] (getMethod ov "__init__" (pl env))
      callWith q.h f first (backTo q.h (starEach [.JoinedStr [.Constant (.str txt) q.n q.d, .FormattedValue (.Name fld q.e) (-1) none q.f] q.g] env)) [])) ∧
    K.lookup cda = some ⟨ccl, cdd, .fields vs, ccs⟩ ∧ vs[2]? = some (.str "/claim/cut.py" tf) ∧ K.lookup cc = some ⟨cl, cld, .cell (some (.ref C)), csl⟩ ∧
    PySem.W.findIn K (.ref C) "__init__" = some (some (.ref fI)) ∧ PySem.W.typeIn K (.ref fI) = some (.type "function")
  at_ : OexC K C
  sup : mg "super" = none
  self_ : PySem.W.mroIn K C (.ref C) = some true
  par : PySem.W.ks_superIn K C C "__init__" = some (some (.builtin "ValueError.__init__"))
  val : PySem.W.subIn K (.ref C) (.type "ValueError") = some true
  opq : PySem.W.nsIn K cStatics "thirdparty.any" = some none
  exc : PySem.W.excInitIn K C [.type "ValueError", .type "Exception", .type "BaseException", .type "object"] "ValueError.__new__" = true
  nof : PySem.W.findIn K (.ref C) fld = some none
theorem clsIn_mro {K : PySem.W.Frag} {C : Addr} {b : Value} {r : Bool} (h : PySem.W.mroIn K C b = some r) : ∃ cd, PySem.W.clsIn K C = some cd := by
  unfold PySem.W.mroIn at h
  match z : PySem.W.clsIn K C with
  | some cd => exact ⟨cd, rfl⟩
  | none =>
    rw [z] at h
    cases h
theorem tail_refs (l : List Value) (h : PySem.W.excTail [.type "ValueError", .type "Exception", .type "BaseException", .type "object"] l = true) : HandSPX.refsVE l = true := by
  induction l with
  | nil => cases h
  | cons v l ih =>
    cases v with
    | ref c => exact ih h
    | _ => exact h
/-- from what is told of a class without its object -/
theorem oex_by {K : PySem.W.Frag} {C : Addr} (q : PySem.W.excInitIn K C [.type "ValueError", .type "Exception", .type "BaseException", .type "object"] "ValueError.__new__" = true) (hd : PySem.W.hasDictIn K C = true)
    (sa : PySem.W.findIn K (.ref C) "__setattr__" = some (some (.builtin "object.__setattr__"))) (b : PySem.W.subIn K (.ref C) (.type "BaseException") = some true) (t : PySem.W.typeIn K (.ref C) = some (.type "type")) (k : PySem.W.keepIn K (.ref C) = true) : OexC K C := by
  refine ⟨?_, sa, b, t, k⟩
  unfold PySem.W.hasDictIn at hd
  unfold PySem.W.excInitIn at q
  split at q
  · rename_i dd cd sl ho
    have hc : PySem.W.clsIn K C = some cd := by
      unfold PySem.W.clsIn
      rw [ho]
    rw [hc] at hd
    split at q
    · rename_i C' bm k0 k1 k2 k3 n k5 hm hs
      simp only [Bool.and_eq_true, beq_iff_eq, Bool.not_eq_true'] at q
      obtain ⟨⟨⟨rfl, rfl⟩, hdel⟩, ht⟩ := q
      obtain ⟨nm, bs, mro, ns, qn, hdct, sn, sb, ab, col, del⟩ := cd
      dsimp only at hm hdel hd
      subst hm hdel
      have hd : hdct = true := hd
      subst hd
      obtain ⟨sl⟩ := sl
      have hs : sl = _ := hs
      subst hs
      refine ⟨nm, qn, ns, bs, bm, sn, sb, ab, col, dd, k0, k1, k2, k3, k5, ?_, ?_⟩
      · rw [ho]
      · exact tail_refs bm ht
    · cases q
  · cases q
theorem IniK.ok {P : Program} {w : World} {K : PySem.W.Frag} {mg : Str → Option Value} {base : Heap} {x fld txt : Str} (T : IniK K mg (clsA mg x) fld txt) (Z : ProgF P) (at_ : mg x = some (.ref (clsA mg x))) (few : txt.length ≤ 4000 := by decide) (nself : ("self" : Str) ≠ fld := by decide) (nsup : ("super" : Str) ≠ fld := by decide)
    (ncls : ("__class__" : Str) ≠ fld := by decide) (ndbg : (fld == ("__debug__" : Str)) = false := by decide) : IniOk P w K mg base x fld := by
  obtain ⟨fI, oc, ccl, cl, od, cdd, cld, osl, ccs, csl, qual, params, q, dV, kV, doc, pm, ct, an, cda, cc, vs, tf, ar1, pl, look, code, hpar, ha1, hbind, hev, hcode, hvs, hcell, hini, htyp⟩ := T.fn
  obtain ⟨cdD, hcls⟩ := clsIn_mro T.self_
  have C0 : IniC P K mg (clsA mg x) fI fld txt := ⟨T.at_, ⟨oc, ccl, cl, od, cdd, cld, osl, ccs, csl, qual, params, q, dV, kV, doc, pm, ct, an, cda, cc, vs, "/claim/cut.py", tf, cdD, ar1, pl, look, code, hpar, ha1, hbind, hev, hcode, hvs, Z.file, hcell, hcls⟩, Z.top, T.sup, T.self_, T.par, T.val, T.opq, T.exc, T.nof, hini, htyp⟩
  obtain ⟨fd, ok, binds⟩ := init_ok (w := w) (base := base) C0 few nself nsup ncls ndbg
  exact ⟨_, fI, fd, at_, T.at_, hini, htyp, ok, binds⟩
end Kt
namespace Kt
open PySem PySem.Spec PyProof.Rows L2
/-! ### dicts compared whose values are the same ones -/
def plainV (v : V) : Prop := flatB v = true ∨ ∃ a, v = .ref a
theorem eqAt_plain {A : Around} {s : Shared} {v : V} {u u' : Value} (r : RelV v u) (r' : RelV v u') (f : plainV v) : SeqAt.EqAt A s u u' true := by
  rcases f with f | ⟨a, rfl⟩
  · exact eqAt_same r r' f
  · obtain rfl : u = Value.ref a := r
    obtain rfl : u' = Value.ref a := r'
    exact SeqAt.EqAt.same _
theorem hits_plain {A : Around} {s : Shared} {ls : List (Key × V)} {vb : List (Key × Value)} (there : KV ls vb) : ∀ {ks : List (Key × V)} {va : List (Key × Value)}, KV ks va → (∀ p ∈ ks, valV ls p.1 = some p.2 ∧ plainV p.2) → PySem.W.KeqHits A s vb va true
  | _, _, .nil, _ => .nil
  | (k, x) :: ks, (k', v) :: va, .cons h more, all => by
    obtain ⟨e, f⟩ := all (k, x) (List.mem_cons_self ..)
    obtain ⟨y, hy, ry⟩ := RelO.some_of (v := x) (o := valueAt vb k) (by have := there.val k; rw [e] at this; exact this)
    have ek : k = k' := h.1
    subst ek
    have := PySem.W.KeqHits.hit hy (eqAt_plain (A := A) (s := s) h.2 ry f) (hits_plain there more fun p hp => all p (List.mem_cons_of_mem _ hp))
    rw [Bool.and_self] at this
    exact this
def rNeDk : R2 := fun x y H Q => ∃ (a b : Addr) (ks ls : List (Key × V)), x = .ref a ∧ y = .ref b ∧ H a = some (.dK ks) ∧ H b = some (.dK ls) ∧ (ks.length = ls.length → ∀ p ∈ ks, valV ls p.1 = some p.2 ∧ plainV p.2) ∧ Q (.bl (!decide (ks.length = ls.length))) H
theorem op_neDk {X : Cx} (room : X.A.units < cLine) : OpR X (compareOp .NotEq) rNeDk := by
  intro pins s σ H x y v u Q inv rx ry told
  obtain ⟨a, b, ks, ls, rfl, rfl, ea, eb, all, q⟩ := told
  obtain rfl : v = Value.ref a := rx
  obtain rfl : u = Value.ref b := ry
  obtain ⟨_, ya, va, ra, da⟩ := (show ObjOk X.prog X.w H s.heap a (.dK ks) from inv.hok a _ ea)
  obtain ⟨_, yb, vb, rb, db⟩ := (show ObjOk X.prog X.w H s.heap b (.dK ls) from inv.hok b _ eb)
  have la := ra.length
  have lb := rb.length
  refine PySem.W.keq_ne (knd := mixKind X.prog X.w) (r := true) ya yb da db room (fun e => hits_plain rb ra (all (by omega))) (fin_bl inv q ?_)
  rw [Bool.and_true, la, lb]
  by_cases e : va.length = vb.length
  · rw [decide_eq_true e, beq_iff_eq.mpr e]
  · rw [decide_eq_false e, beq_eq_false_iff_ne.mpr e]
/-! ### f(b = .., a = ..) of a def that may raise -/
structure ClSX (P : Program) (w : World) (K : PySem.W.Frag) (mg : Str → Option Value) (base : Heap) (k : Nat) (x a b : Str) (sp : Sp) : Prop where
  ex : ∃ (f : Addr) (fd : FuncData), FnOk P w K mg base (L2.CX P w) k f fd [a, b] sp ∧ mg x = some (.ref f) ∧ PySem.W.keepIn K (.ref f) = true ∧ ∀ (s : Shared) (u v : Value), BindsTo s fd ⟨[], [(b, v), (a, u)]⟩ [(a, u), (b, v)]
def tCKx (sp : Sp) (E : L2.St → XK) (tk : TA) : TE := fun σ H Q => tk σ H fun zs H2 => ∃ v u, zs = [v, u] ∧ sp [u, v] H2 Q (E σ)
theorem pe_clSwX {X : Cx} {k j : Nat} {x a b : Str} {sp : Sp} {p pos : Pos} {kws : List Keyword} {tk : TA} {E : L2.St → XK} (cl : ClSX X.prog X.w X.K X.mg X.base k x a b sp) (hr : Room j X.A) (hk : k ≤ j) (hg : Gl X x) (hx : ∀ σ, PassesAt (L2.CX X.prog X.w) X σ (E σ)) (hkw : PK X kws tk)
    (named : (backToKw pos (keywordEach kws X.env)).all (·.1.isSome) = true := by rfl) (names : (backToKw pos (keywordEach kws X.env)).filterMap (·.1) = [b, a] := by rfl) (nodb : (x == ("__debug__" : Str)) = false := by decide)
    (plain : ((backTo pos (starEach [] X.env)).any (·.1) || (backToKw pos (keywordEach kws X.env)).any (·.1.isNone)) = false := by rfl) : PE X (.Call (.Name x p) [] kws pos) (tCKx sp E tk) := by
  obtain ⟨f, fd, ok, at_, kp, binds⟩ := cl.ex
  constructor
  intro pins s σ H Q inv told
  apply wpAny_Call_Name_kw (ld_glob inv hg at_ ?_ nodb)
  apply PySem.W.callWith_KW0 (h₀ := X.base) inv.ok.mod.kin kp named ?_ plain
  refine thn (hkw.run pos pins s σ H _ inv told) fun ws s2 ⟨zs, H2, inv2, rel, v, u, e, q2⟩ => ⟨inv2.kIn, ?_⟩
  subst e
  rw [names]
  obtain ⟨wv, wu, rfl, rv, ru⟩ := vals2 rel
  refine wpAny_call (codeAny_mono (ok.run X.A X.stack s2 H2 ⟨[], [(b, wv), (a, wu)]⟩ [wu, wv] [u, v] Q (E σ) (hr.mono hk) inv2.env0 (binds s2 wu wv) (.cons ru (.cons rv .nil)) q2) fun out s' done => ?_)
  match out, done with
  | .error e, done => exact hx σ pins H2 s2 e s' inv2 done
  | .ok (.ret _), done => exact inv2.after done
  | .ok .next, done => exact done.elim
  | .ok .brk, done => exact done.elim
  | .ok .cont, done => exact done.elim
end Kt
/-! KtMe1: e.__class__ of an own error, and the __name__ of its class. -/
namespace Kt
open PySem PySem.Spec PySem.Calls PyProof.Rows L2 PySem.W
section
variable {P : Program} {w : World} {A : Around} {E : Value → Shared → Prop} {s : Shared} {K : PySem.W.Frag} {x C : Addr} {ox : Obj} {od : Option Obj}
/-- what the written part says of a class of errors of which one may ask the name -/
structure NameC (K : PySem.W.Frag) (C : Addr) (nm : Str) : Prop where
  ga : findIn K (.ref C) "__getattribute__" = some (some (.builtin "BaseException.__getattribute__"))
  gt : findIn K (.ref C) "__getattr__" = some none
  sub : subIn K (.ref C) (.type "BaseException") = some true
  cl : findIn K (.ref C) "__class__" = some (some (.builtin "object.__class__"))
  gs : specialIn K (.builtin "object.__class__") "__get__" = some (some (.builtin "getset_descriptor.__get__"))
  tk : takesIn K (.builtin "object.__class__") = some true
  ob : mroIn K C (.type "object") = some true
  rd : readsIn K C (.type "type") = true
  nf : findCls K (.ref C) (.type "type") "__name__" = some (.get (.builtin "getset_descriptor.__get__") (.builtin "type.__name__") (.ref C) (.type "type"))
  at_ : ∃ (c : Value) (dd : Option Addr) (cd : ClassData) (sl : Array (Option Value)) (t : Tok), K.lookup C = some ⟨c, dd, .cls cd, sl⟩ ∧ sl[2]? = some (some (.str nm t))
  few : nm.length ≤ 1000
theorem cls_of_err {expr : Bool} {Q : Value → Shared → Prop} {nm : Str} (X : K.In s.heap) (I : InstAt s.heap x ox C od) (T : NameC K C nm) (q : Q (.ref C) { s with toks := s.toks + 1 }) : wpAny (model P w) A (getAttr (.ref x) "__class__" expr) Q E s := by
  have known : (clsIn K C).isSome = true := by
    obtain ⟨c, dd, cd, sl, t, e, _⟩ := T.at_
    unfold clsIn
    rw [e]
    rfl
  have found := findObj_dataE (od := od) known T.cl T.gs T.tk
  obtain ⟨hp, g, dr, t, os⟩ := s
  have l0 := I.type (M := model P w)
  have l1 := looks_findIn (M := model P w) X T.ga
  have l2 := looks_findIn (M := model P w) X T.gt
  have l3 := looks_find (M := model P w) X I found
  have under : Looks (model P w) hp (isInstance (.ref x) (.type "BaseException")) true := l0.andThen (looks_subIn X T.sub)
  have n1 : (Value.builtin "BaseException.__getattribute__" == Value.builtin "object.__getattribute__") = false := by decide +kernel
  refine wpAny_bind (wpAny_mkText (wpAny_holding (wpAny_bind (l0.at (wpAny_bind (l1.at ?_))))))
  show wpAny _ _ (if (onTheHeap (Value.ref C) && _) = true then _ else _) _ _ _
  rw [n1, Bool.and_false, if_neg Bool.false_ne_true]
  unfold getAttrByItsOwn hookBefore
  refine wpAny_bind ?_
  rw [if_pos (show onTheHeap (Value.ref C) = true from rfl)]
  refine l2.at (wpAny_bind (wpAny_attempt (wpAny_holding ?_)))
  unfold callGetattribute
  rw [show (expr && onTheHeap (Value.builtin "BaseException.__getattribute__")) = false from by cases expr <;> rfl, if_neg Bool.false_ne_true]
  unfold boundAndCalled
  rw [PySem.F.excAttr_ValueError.ga.bind (.ref x)]
  refine wpAny_bind (wpAny_pure ?_)
  show wpAny _ _ (call (.builtin "BaseException.__getattribute__") [.ref x, .str "__class__" t]) _ _ _
  refine wpAny_call (codeAny_call_builtin PySem.F.excAttr_ValueError.ga.plain PySem.F.entry_bexc_ga ?_)
  refine @PySem.W.check_slot (model P w) _ _ ⟨hp, g, dr, t + 1, os⟩ "BaseException.__getattribute__" "BaseException" "__getattribute__" (.ref x) [.str "__class__" t] [] _ (by decide +kernel) (by decide +kernel) under (PySem.F.args_bexc_ga (.ref x) (.str "__class__" t)) ?_
  unfold Builtin.«object.__getattribute__»
  refine wpAny_bind (wpAny_of_eq (a := ((Value.ref x : Value), [Value.str "__class__" t])) (by first | rfl | (simp only [slotArgs]; rfl)) ?_)
  refine wpAny_bind (wpAny_pure (wpAny_bind (l0.at (wpAny_bind (l3.at ?_)))))
  refine wpAny_bind (wpAny_holding (wpAny_call (class_get (s := ⟨hp, g, dr, t + 1, os⟩) (ox := ox) (od := od) X I T.ob ?_)))
  refine wpAny_pure ?_
  show wpAny _ _ (handedOut (.ref C)) _ _ _
  rw [handedOut_of (show handedIn (.ref C) = true from rfl)]
  exact wpAny_pure q
theorem dga_cls (d tp : Value) : Builtin.Getset_descriptor.descrGetArgs ⟨[d, .ref C, tp], []⟩ = pure (d, some (.ref C), given tp) := by rfl
theorem name_get {R : Result → Shared → Prop} {nm : Str} {tp : Value} (X : K.In s.heap) (T : NameC K C nm) (q : ∀ t, R (.ok (.ret (.str nm t))) s) :
    codeAny (model P w) A (.call (.builtin "getset_descriptor.__get__") ⟨[.builtin "type.__name__", .ref C, tp], []⟩) R s := by
  obtain ⟨c, dd, cd, sl, tn, e, e2⟩ := T.at_
  have hty : typeIn K (.ref C) = some (.type "type") := by
    have := T.rd
    simp only [readsIn, Bool.and_eq_true, beq_iff_eq] at this
    exact this.1.1.1.2
  obtain ⟨hh, g, dr, t, os⟩ := s
  have L0 : Looks (model P w) hh (typeOf (.ref C)) (.type "type") := looks_typeIn X hty
  have L1 : Looks (model P w) hh (isSubtype (.type "type") (.type "type")) true := Looks.of_pure (by rw [isSubtype_type]; kernel_rfl)
  have hC := X _ _ e
  refine codeAny_call_builtin KF.slot_gs.plain KF.entry_gs (KF.slot_gs.check _ _ _ _ _ _ _ _ ktyn_type (KF.args_gs _ _ _) ?_)
  unfold Builtin.«getset_descriptor.__get__» Builtin.Getset_descriptor.descrGet
  rw [dga_cls]
  refine wpAny_bind (wpAny_pure ?_)
  unfold Builtin.Getset_descriptor.descrGetter Builtin.Getset_descriptor.descrCheckInstance Builtin.Getset_descriptor.descrNameAndClass isInstance
  simp only [ktyn_owner]
  repeat lk
  refine ⟨Code.quiet_builtin _ (by decide +kernel), codeAny_builtin ktyn_entry ?_⟩
  unfold Builtin.«type.__name__»
  dsimp only
  unfold Builtin.keptObject
  dsimp only
  refine wpAny_bind ?_
  unfold slotAt
  refine wpAny_bind (wpAny_loadPart hC (wpAny_pure ?_))
  dsimp only
  rw [e2]
  first | exact wpAny_pure (q _) | exact q _ | trace_state
theorem name_of_cls {expr : Bool} {Q : Value → Shared → Prop} {nm : Str} (X : K.In s.heap) (T : NameC K C nm) (q : ∀ t, Q (.str nm t) { s with toks := s.toks + 1 }) : wpAny (model P w) A (getAttr (.ref C) "__name__" expr) Q E s := by
  refine cls_read X T.rd T.nf ?_
  show wpAny _ _ (do ret (← holding [Value.builtin "type.__name__"] (call (.builtin "getset_descriptor.__get__") [.builtin "type.__name__", .ref C, .type "type"]))) _ _ _
  refine wpAny_bind (wpAny_holding (wpAny_call (name_get (s := { s with toks := s.toks + 1 }) X T fun t => ?_)))
  exact wpAny_pure (handed_on rfl (q t))
/-- e.__class__.__name__.lower() -/
theorem lower_of_err {env : Env} {e : Expr} {p1 p2 p3 p4 : Pos} {Q : Value → Shared → Prop} {nm : Str} (X : K.In s.heap) (I : InstAt s.heap x ox C od) (T : NameC K C nm)
    (he : ∀ Q' : Value → Shared → Prop, Q' (.ref x) s → wpAny (model P w) A (eval e env) Q' E s) (hb : ∀ f : Str, attributeBase e f env (eval e env) = eval e env)
    (hb2 : attributeBase (.Attribute e "__class__" p1) "__name__" env (eval (.Attribute e "__class__" p1) env) = eval (.Attribute e "__class__" p1) env)
    (hb3 : attributeBase (.Attribute (.Attribute e "__class__" p1) "__name__" p2) "lower" env (eval (.Attribute (.Attribute e "__class__" p1) "__name__" p2) env) = eval (.Attribute (.Attribute e "__class__" p1) "__name__" p2) env)
    (hl : (p3.endLine == p4.line) = true) (q : ∀ z t u, Q (.str z t) { s with toks := u }) :
    wpAny (model P w) A (eval (.Call (.Attribute (.Attribute (.Attribute e "__class__" p1) "__name__" p2) "lower" p3) [] [] p4) env) Q E s := by
  refine Call_method0 hb3 hl (attr_of hb2 (attr_of (hb _) (he _ (cls_of_err X I T (name_of_cls (s := { s with toks := s.toks + 1 }) X T fun t => ?_)))))
  refine ⟨"str", _, PySem.F.plainAttrs_str, PySem.F.slot_str_lower, PySem.F.type_str_lower, typeIs_str _ _ _, (fun _ e => nomatch e), Calls.callWith_builtin rfl (PySem.evalArgs_none ?_)⟩
  exact PySem.SC.lower (PyProof.Rows.short24 (by have h1 := T.few; have := PyProof.Rows.len_lower nm; omega)) (q _ _ _)
end
end Kt
/-! KtMe2: the __init__ of the package's first class of errors: super().__init__(f"{why}"), then the word. -/
namespace Kt
open PySem PySem.Spec PySem.Calls PyProof.Rows L2
structure MePos where
  (a b c d e f g h i j k l m n o p : Pos)
abbrev meTxt (q : MePos) : Expr := .JoinedStr [.FormattedValue (.Name "why" q.d) (-1) none q.e] q.f
abbrev meSup (q : MePos) : Expr := .Call (.Attribute (.Call (.Name "super" q.a) [] [] q.b) "__init__" q.c) [meTxt q] [] q.g
abbrev meLow (q : MePos) : Expr := .Call (.Attribute (.Attribute (.Attribute (.Name "self" q.k) "__class__" q.l) "__name__" q.m) "lower" q.n) [] [] q.o
def meBody (q : MePos) : List Stmt := [.Expr (meSup q) q.h, .Assign [.Attribute (.Name "self" q.i) "word" q.j] (meLow q) q.p]
/-- what the written part says of that __init__, of the class at D -/
structure MeC (P : Program) (K : PySem.W.Frag) (mg : Str → Option Value) (D fM : Addr) : Prop where
  fn : ∃ (oc ccl cl : Value) (od cdd cld : Option Addr) (osl ccs csl : Array (Option Value)) (qual : Str) (params : Arguments) (q : MePos) (dV kV doc pm ct : Value) (an : Option Addr) (cda cc : Addr) (vs : Array Value) (file : Str) (tf : Tok) (cdD : ClassData) (ar1 : Arg) (pl : Env → Sem Bool),
    K.lookup fM = some ⟨oc, od, .func (PySem.W.fnX "__init__" qual params (meBody q) (initScope "why") [("__class__", cc)] dV kV doc pm an (.ref cda) ct), osl⟩ ∧ PySem.W.codeIn K (.ref cda) qual = true ∧
    (params.posonlyargs ++ params.args).head? = some ar1 ∧ ar1.arg = "self" ∧ (∀ (s : Shared) (a b : Value), K.In s.heap → BindsTo s (PySem.W.fnX "__init__" qual params (meBody q) (initScope "why") [("__class__", cc)] dV kV doc pm an (.ref cda) ct) ⟨[a, b], []⟩ [(("self" : Str), a), ("why", b)]) ∧
    (∀ env : Env, eval (meSup q) env = (do
      let ov ← attributeBase (.Call (.Name "super" q.a) [] [] q.b) "__init__" env (eval (.Call (.Name "super" q.a) [] [] q.b) env)
      standAt q.c.atName
      let (f, first) ← holding [ov] (getMethod ov "__init__" (pl env))
      callWith q.g f first (backTo q.g (starEach [meTxt q] env)) [])) ∧
    K.lookup cda = some ⟨ccl, cdd, .fields vs, ccs⟩ ∧ vs[2]? = some (.str file tf) ∧ ((P.main.file : Str) == file) = true ∧
    K.lookup cc = some ⟨cl, cld, .cell (some (.ref D)), csl⟩ ∧ PySem.W.clsIn K D = some cdD ∧ (q.n.endLine == q.o.line) = true
  top : (P.main.scope.names.lookup ("super" : Str)).isSome = false
  sup : mg "super" = none
/-- .. of a class at C that has this __init__ or comes to it by super() -/
structure MeOf (K : PySem.W.Frag) (D C : Addr) : Prop where
  at_ : OexC K C
  self_ : PySem.W.mroIn K C (.ref D) = some true
  par : PySem.W.ks_superIn K C D "__init__" = some (some (.builtin "ValueError.__init__"))
  val : PySem.W.subIn K (.ref C) (.type "ValueError") = some true
  opq : PySem.W.nsIn K cStatics "thirdparty.any" = some none
  exc : PySem.W.excInitIn K C [.type "ValueError", .type "Exception", .type "BaseException", .type "object"] "ValueError.__new__" = true
  nof : PySem.W.findIn K (.ref C) "word" = some none
  nm : ∃ nm, NameC K C nm
section
variable {P : Program} {w : World} {K : PySem.W.Frag} {mg : Str → Option Value} {A : Around} {base : Heap} {D C fM e t0 : Addr} {sh : Shared} {v : V} {u : Value}
theorem me_run (T : MeC P K mg D fM) (O : MeOf K D C) (mod : Mod K mg base) (bs : ∀ b o, base.get? b = some o → sh.heap.get? b = some o) (nb : base.get? e = none) (room : A.depth < recursionLimit)
    (there : sh.heap.get? e = some (PySem.W.excObj C t0 none .none)) (rel : RelV v u) (txt2 : Str) (as_ : inText v = some txt2) (short : txt2.length ≤ 5000) (big : ∀ i, v = .int i → i.natAbs.log2 < 1920)
    (R : Result → Shared → Prop)
    (fin : ∀ (s' : Shared) (dx t1 : Addr) (z : Str) (tz : Tok), s'.os = sh.os → s'.gens = sh.gens → (∀ b o, b ≠ e → sh.heap.get? b = some o → s'.heap.get? b = some o) → sh.heap.objs.size ≤ dx → dx ≠ e → s'.heap.get? e = some (PySem.W.excObj C t1 (some dx) .none) →
      s'.heap.Ns1 dx (fun y => if y = "word" then some (.str z tz) else none) → R (.ok (.ret .none)) s')
    (args : Args) (hargs : ∀ fd : FuncData, (∃ (oc : Value) (od : Option Addr) (osl : Array (Option Value)), K.lookup fM = some ⟨oc, od, .func fd, osl⟩) → BindsTo sh fd args [(("self" : Str), .ref e), ("why", u)]) :
    codeAny (model P w) A (.call (.ref fM) args) R sh := by
  obtain ⟨oc, ccl, cl, od, cdd, cld, osl, ccs, csl, qual, params, q, dV, kV, doc, pm, ct, an, cda, cc, vs, file, tf, cdD, ar1, pl, look, code, hpar, ha1, hbind, hev, hcode, hvs, hfile, hcell, hcls, hline⟩ := T.fn
  obtain ⟨nmz, NM⟩ := O.nm
  have X : K.In sh.heap := mod.kin.keeps bs
  obtain ⟨mb, nsb, boot⟩ := mod.blt
  refine ks_codeAny_call_defAt (fd := PySem.W.fnX "__init__" qual _ (meBody q) (initScope "why") [("__class__", cc)] dV kV doc pm an (.ref cda) ct) (body := meBody q) (binds := [("self", .ref e), ("why", u)]) room (X _ _ look) rfl (mod.nolimit.keeps bs) (PySem.W.codeRec_of X code) rfl ?binds ?nocell ?local_ ?run
  case binds => exact hargs _ ⟨_, _, _, look⟩
  case nocell =>
    intro z hz
    have hz : z = (("self" : Str), NameKind.local) ∨ z = (("why" : Str), NameKind.local) ∨ z = (("__class__" : Str), NameKind.free) ∨ z = (("super" : Str), NameKind.globalImplicit) := by simpa [initScope, PySem.W.fnX] using hz
    rcases hz with rfl | rfl | rfl | rfl <;> exact fun z => by cases z
  case local_ =>
    intro z hz
    have hz : z = (("self" : Str), Value.ref e) ∨ z = (("why" : Str), u) := by simpa using hz
    rcases hz with rfl | rfl <;> rfl
  case run =>
    intro h1 frame keep
    have len1 : sh.heap.objs.size < h1.objs.size := frame.lt
    obtain ⟨hid, hhid⟩ : ∃ hid : Hp, hid = fun b => if b = e then some (.own 0) else none := ⟨_, rfl⟩
    have off : ∀ {b : Addr}, b ≠ e → hid b = none := fun {b} n => by rw [hhid]; exact if_neg n
    have on : hid e ≠ none := by
      have z : hid e = some (.own 0) := by rw [hhid]; exact if_pos rfl
      rw [z]
      exact fun y => by cases y
    have elt : e < sh.heap.objs.size := Heap.lt_size there
    obtain ⟨L, hL⟩ : ∃ L, L = sh.heap.objs.size := ⟨_, rfl⟩
    have eL : e ≠ L := by rw [hL]; exact Nat.ne_of_lt elt
    have ground : ∀ b o, (hidT sh.heap hid).get? b = some o → h1.get? b = some o := fun b o z => keep b o (of_hidT z).1
    rw [← hL] at frame ⊢
    have F : Fr (hidT sh.heap hid) L h1 (fun x => ([("self", Value.ref e), ("why", u)] : List (Str × Value)).reverse.lookup x) := ⟨frame, ground, by rw [hL]; exact Nat.le_of_eq (hidT_size _ _)⟩
    have none_ : (hidT sh.heap hid).get? e = none := by
      match z : (hidT sh.heap hid).get? e with
      | none => rfl
      | some o => exact absurd (of_hidT z).2 on
    have N : News (hidT sh.heap hid) L h1 [(e, PySem.W.excObj C t0 none .none)] := fun p hp => by
      rw [List.mem_singleton.mp hp]
      exact ⟨keep _ _ there, eL, none_⟩
    have baseIn : ∀ b o, base.get? b = some o → (hidT sh.heap hid).get? b = some o := fun b o z => hidT_get (bs b o z) (off fun y => by rw [y, nb] at z; cases z)
    have X0 : K.In (hidT sh.heap hid) := mod.kin.keeps baseIn
    obtain ⟨env, henv⟩ : ∃ env, env = callEnv (PySem.W.fnX "__init__" qual params (meBody q) (initScope "why") [("__class__", cc)] dV kV doc pm an (.ref cda) ct) L fM := ⟨_, rfl⟩
    rw [← henv]
    have kind : env.scope.kind = .function := by rw [henv]; rfl
    have ks : env.kindOf "super" = some .globalImplicit := by rw [henv]; rfl
    have kc : env.kindOf "__class__" = some .free := by rw [henv]; rfl
    have kself : env.kindOf "self" = some .local := by rw [henv]; rfl
    have kwhy : env.kindOf "why" = some .local := by rw [henv]; rfl
    have lself : ([(("self" : Str), Value.ref e), ("why", u)] : List (Str × Value)).reverse.lookup ("self" : Str) = some (.ref e) := rfl
    have lwhy : ([(("self" : Str), Value.ref e), ("why", u)] : List (Str × Value)).reverse.lookup ("why" : Str) = some u := rfl
    have X1 : K.In h1 := X0.keeps ground
    have bk1 : ∀ b o, base.get? b = some o → h1.get? b = some o := fun b o z => ground b o (baseIn b o z)
    obtain ⟨oD, hD1, hD2⟩ : ∃ oD, h1.get? D = some oD ∧ oD.data = .cls cdD := by
      unfold PySem.W.clsIn at hcls
      split at hcls
      · rename_i c d cd' sl ho
        cases hcls
        exact ⟨_, X1 _ _ ho, rfl⟩
      · cases hcls
    have I1 : PySem.W.InstAt h1 e (PySem.W.excObj C t0 none .none) C none := ⟨keep _ _ there, rfl, rfl, trivial⟩
    refine ks_wpAt_execs_cons (ks_wpAt_Expr_any (ks_wpAt_MethodCall (pl := pl env) ?_ (hev env)) ?int ?swap)
    case int => rw [henv]; rfl
    case swap => rw [henv]; rfl
    refine ks_wpAt_super_base ks kc (by decide) (f := fM) (by rw [henv]; rfl) (X1 _ _ look) rfl hpar (cc := cda) (by rw [henv]; rfl) (X1 _ _ hcode) rfl hvs hfile T.top ?_
    refine PySem.W.ks_loadName_global kind ks (loadGlobal_builtin (by rw [henv]; exact mod.glob.keeps bk1) T.sup (by rw [henv]; exact nsb.keeps bk1) ((boot _ (by decide)).trans (by decide +kernel)) ⟨rfl, ?_⟩)
    refine wpAny_loadName_free kind kc (by rw [henv]; rfl) ⟨_, X1 _ _ hcell, rfl⟩ ?_
    rw [ha1]
    refine wpAny_loadName_local kind kself (by rw [henv]; exact frame) lself ?_
    refine ks_wpAny_isType_cls hD1 hD2 ⟨rfl, ?_⟩
    refine ks_wpAny_call_super hD1 hD2 I1.at_ I1.cls (fun c z => by cases z) (PySem.W.looks_mroIn X1 O.self_) (fun h2 so2 keep2 => ?_)
    obtain ⟨F2, N2, _⟩ := PySem.W.ks_newsPush (s := ⟨h1, sh.gens, sh.drawn, sh.toks, sh.os⟩) F N rfl so2 keep2
    have I2 : PySem.W.InstAt h2 e (PySem.W.excObj C t0 none .none) C none := ⟨keep2 _ _ I1.at_, rfl, rfl, trivial⟩
    refine PySem.W.kxs_method PySem.W.kxs_ValueError F2 X0 N2 (.head _) I2 O.opq O.par O.val (by decide) (fun m3 h3 F3 N3 lt3 => ?_)
    refine PySem.W.kxs_callWith1 (i := "ValueError.__init__") (x := e) N3 (.head _) ?_
    show wpAny _ _ (spliced ((false, eval (meTxt q) env) :: backTo q.g (starEach [] env))) _ _ _
    refine Calls.spliced_cons (wpAny_JoinedStr_one ?_)
    have small : ∀ n : Nat, n ≤ 8000 → n ≤ sizeLine := fun n hn => Nat.le_trans hn (by decide)
    have al : ∀ y : Str, (Str.empty ++ y).length = y.length := fun y => by
      show (Str.empty ++ y).cps.size = y.cps.size
      show (#[] ++ y.cps).size = _
      simp
    refine wpAny_FormattedValue_plain (wpAny_Name (wpAny_loadName_local kind kwhy (by rw [henv]; exact F3.ns) lwhy ?_) (by decide))
    have elt2 : e < m3 := lt3 (e, _) (.tail _ (.head _))
    have ups : PySem.W.UpdF e (PySem.W.excObj C t0 none .none) [(m3, PySem.W.kxs_mw "ValueError.__init__" e), (h1.objs.size, PySem.W.ks_superObj D e C), (e, PySem.W.excObj C t0 none .none)] (fun o' => (m3, PySem.W.kxs_mw "ValueError.__init__" e) :: (h1.objs.size, PySem.W.ks_superObj D e C) :: [(e, o')]) :=
      .tail (Nat.ne_of_gt elt2) (.tail (Nat.ne_of_gt (Nat.lt_trans elt len1)) (.head (fun p hp => by cases hp)))
    have rest : ∀ (y : Str) (ty : Tok) (s4 : Shared), s4.heap = h3 → s4.os = sh.os → s4.gens = sh.gens → y.length ≤ 5000 →
        wpAny (model P w) (A.deeper env) (spliced (backTo q.g (starEach [] env))) (fun vs s₂ => PySem.W.KxsAt "ValueError.__init__" m3 e s₂.heap ∧ wpAny (model P w) (A.deeper env) (call (.ref m3) (Value.str y ty :: vs)) (fun _ s' => PySem.wpAt (model P w) (A.deeper env) (Code.func (meBody q) env)
              (execs [Stmt.Assign [(Expr.Name ("self" : Str) q.i).Attribute "word" q.j] (meLow q) q.p] env) (fun f s' => R (Except.ok (Flow.ret (match f with | Flow.ret v => v | x => Value.none))) s')
              (fun e s' => wpAny (model P w) (A.deeper env) (leaving env e) (fun _ s'' => R (Except.error e) s'') (fun e' s'' => R (Except.error e') s'') s') s')
              (fun e s' => wpAny (model P w) (A.deeper env) (leaving env e) (fun _ s'' => R (Except.error e) s'') (fun e' s'' => R (Except.error e') s'') s') s₂) (fun e s' => wpAny (model P w) (A.deeper env) (leaving env e) (fun _ s'' => R (Except.error e) s'') (fun e' s'' => R (Except.error e') s'') s') s4 := by
      rintro y ty ⟨hp4, g4, d4, tk4, os4⟩ rfl eo eg hy
      dsimp only at F3 N3 eo eg
      refine Calls.spliced_nil ⟨PySem.W.kxs_at N3 (.head _), ?_⟩
      refine PySem.W.kxs_call (s := ⟨hp4, g4, d4, tk4, os4⟩) F3 X0 N3 PySem.F.excBase_ValueError O.exc (.head _) ups (by show 1 ≤ sizeLine; decide) (fun t5 h5 F5 N5 lt5 => ?_)
      subst eo eg
      obtain ⟨nm, qn, NN, bss, bm, sn, sub, ab, col, dd, k0, k1, k2, k3, k5, hC, hbm⟩ := O.at_.cls
      have hcl : PySem.W.clsIn K C = some { name := nm, bases := bss, mro := .ref C :: bm, ns := NN, qualname := qn, hasDict := true, slotNames := sn, subclasses := sub, abstract := ab, collection := col, hasDel := false } := by
        unfold PySem.W.clsIn
        rw [hC]
      have X5 : K.In h5 := X0.keeps F5.keep
      obtain ⟨he5, _, _⟩ := N5 (e, PySem.W.excObj C t5 none .none) (.tail _ (.tail _ (.tail _ (.head _))))
      have I5 : PySem.W.InstAt h5 e (PySem.W.excObj C t5 none .none) C none := ⟨he5, rfl, rfl, trivial⟩
      refine ks_wpAt_execs_cons (ks_wpAt_Assign_Attr ?_ ?swap2)
      case swap2 => rw [henv]; rfl
      refine wpAt_of_wpAny (lower_of_err (s := ⟨h5, sh.gens, d4, tk4, sh.os⟩) X5 I5 NM (fun Q' q' => wpAny_Name (wpAny_loadName_local kind kself (by rw [henv]; exact F5.ns) lself q') (by decide)) (fun f => by rfl) (by rfl) (by rfl) hline fun z tz u => ?_)
      refine wpAny_Name (wpAny_loadName_local kind kself (by rw [henv]; exact F5.ns) lself ?_) (by decide)
      refine PySem.W.set_plain X5 (ox := PySem.W.excObj C t5 none .none) (od := none) I5 O.at_.sa ?_
      refine PySem.HandSPX.exc_osa X5 he5 hcl (show PySem.HandSPX.refsVE (.ref C :: bm) = true from hbm) rfl O.nof (fun h6 tk6 dx keep6 dn dne hx6 hn6 => ?_)
      refine wpAt_of_wpAny (wpAny_execs_nil ?_)
      refine fin _ dx t5 z tz rfl rfl (fun b o nb z => keep6 b o nb (F5.keep b o (hidT_get z (off nb)))) ?_ dne hx6 hn6
      have lt := F5.ns.lt
      rw [hL] at lt
      exact Nat.le_trans (Nat.le_of_lt lt) dn
    cases v with
    | str z =>
      obtain ⟨t, rfl⟩ := rel
      have e0 : z = txt2 := Option.some.inj as_
      subst e0
      exact wpAny_formatField_str (rest z t _ rfl rfl rfl short) (rest z _ _ rfl rfl rfl short) (small _ (by omega))
    | int i =>
      obtain ⟨t, rfl⟩ := rel
      have e0 : toString i = txt2 := by
        have := Option.some.inj as_
        exact this
      exact wpAny_formatField_int (big i rfl) (rest (Str.ofString (toString i)) _ _ rfl rfl rfl (by rw [show Str.ofString (toString i) = txt2 from e0]; exact short))
    | non => cases as_
    | bl b => cases as_
    | byt b => cases as_
    | flt b => cases as_
    | ref b => cases as_
    | ty b => cases as_
end
end Kt
/-! KtMe3: raising a class of errors that has the package's __init__ (see KtMe2). -/
namespace Kt
open PySem PySem.Spec PySem.Calls PyProof.Rows L2
/-- the promise of that __init__ for errors of the class at C -/
def sp_me (C : Addr) : Sp := fun vs H Q _ => ∃ (e : Addr) (v : V) (z : Str), vs = [.ref e, v] ∧ inText v = some z ∧ z.length ≤ 5000 ∧ (∀ i, v = .int i → i.natAbs.log2 < 1920) ∧ H e = some (exo e C none) ∧ ∀ d y H', H d = none → d ≠ e → H' = upd (upd H d (exd d [("word", .str y)])) e (exo e C (some d)) → Q .non H'
section
variable {P : Program} {w : World} {K : PySem.W.Frag} {mg : Str → Option Value} {base : Heap} {D C fM : Addr}
theorem me_ok (T : MeC P K mg D fM) (O : MeOf K D C) : ∃ fd : FuncData, FnOk P w K mg base CX0 1 fM fd [("self" : Str), "why"] (sp_me C) ∧ Binds K fd [("self" : Str), "why"] [] := by
  have T0 := T
  obtain ⟨oc, ccl, cl, od, cdd, cld, osl, ccs, csl, qual, params, q, dV, kV, doc, pm, ct, an, cda, cc, vs, file, tf, cdD, ar1, pl, look, code, hpar, ha1, hbind, hev, hcode, hvs, hfile, hcell, hcls, hline⟩ := T.fn
  refine ⟨_, ⟨?len, ?run⟩, fun s us X hl => match us, hl with | [a, b], _ => hbind s a b X⟩
  case len =>
    rintro vs H Q E ⟨e, v, z, rfl, _⟩
    rfl
  case run =>
    rintro A outer s H args us vs Q E room env binds rel ⟨e, v, z, rfl, as_, short, big, tracked, q⟩
    obtain ⟨u, rfl, r⟩ : ∃ u, us = [.ref e, u] ∧ RelV v u := by
      obtain ⟨a, b, rfl, ra, rb⟩ := vals2 rel
      obtain rfl : a = .ref e := ra
      exact ⟨b, rfl, rb⟩
    obtain ⟨t1, there⟩ := exo_at env.hok tracked
    refine me_run T0 O env.mod (fun b o z => (env.bs b o z).1) ?nb room.depth there r z as_ short big _ (fun s' dx t1 y ty os gens keep dn dne hx hn => ?_) args (fun fd' ⟨oc', od', osl', look'⟩ => ?_)
    case nb =>
      match y : base.get? e with
      | none => rfl
      | some o =>
        have := (env.bs e o y).2
        rw [tracked] at this
        cases this
    · have free : H dx = none := env.hok.fresh dn
      have far : ∀ {b : Addr}, H b = none → b ≠ e := fun {b} n y => by
        rw [y, tracked] at n
        cases n
      have apart : ∀ {b : Addr} {o : Obj}, s.heap.get? b = some o → b ≠ dx := fun {b o} y => Nat.ne_of_lt (Nat.lt_of_lt_of_le (Heap.lt_size y) dn)
      refine ⟨.non, upd (upd H dx (exd dx [("word", .str y)])) e (exo e C (some dx)), os, by rw [gens]; exact env.bare, ?un, ?ok, rfl, q dx y _ free dne rfl⟩
      case un =>
        constructor
        · intro b o y none_ _ _
          exact keep b o (far none_) y
        · intro b o y none_ _ _
          exact ⟨o.slots, keep b o (far none_) y⟩
        · intro b o y none_ _
          rw [upd_ne (far none_), upd_ne (apart y)]
          exact none_
        · intro b o y _
          by_cases at_ : b = e
          · exact ⟨_, by rw [at_]; exact hx⟩
          · exact ⟨o, keep b o at_ y⟩
        · intro b xs y
          rw [upd_ne (at_ne tracked y exo_tup), upd_ne (ne_of_none y free)]
          exact y
        · intro b o x y
          rw [upd_ne (at_ne tracked y exo_frz), upd_ne (ne_of_none y free)]
          exact y
        · intro b ps y
          refine ⟨#[], ?_⟩
          rw [upd_ne (at_ne tracked y exo_tbl), upd_ne (ne_of_none y free), y, Array.append_empty]
      case ok =>
        intro b o z
        by_cases at_ : b = e
        · subst at_
          rw [upd_same] at z
          obtain rfl := Option.some.inj z
          exact exo_ok hx
        · rw [upd_ne at_] at z
          by_cases new : b = dx
          · subst new
            rw [upd_same] at z
            obtain rfl := Option.some.inj z
            exact exd_ok hn (relO_put (fs := []) (show RelV (.str y) (.str y ty) from ⟨ty, rfl⟩) fun _ => trivial)
          · rw [upd_ne new] at z
            refine (env.hok b o z).stay (fun c x own look2 => keep c x ?_ look2) (fun c own => ?_) (fun c xs tup => ?_)
            · rcases own with own | own
              · rw [own]
                exact at_
              · exact at_ne tracked own exo_own
            · rw [upd_ne (at_ne tracked own exo_own), upd_ne (ne_of_none own free)]
              exact own
            · rw [upd_ne (at_ne tracked tup exo_tup), upd_ne (ne_of_none tup free)]
              exact tup
    · rw [look] at look'
      cases look'
      exact binds
end
/-- such a class may be raised -/
structure MeOk (P : Program) (w : World) (K : PySem.W.Frag) (mg : Str → Option Value) (base : Heap) (x : Str) : Prop where
  ex : ∃ (C fM : Addr) (fd : FuncData), mg x = some (.ref C) ∧ OexC K C ∧ PySem.W.findIn K (.ref C) "__init__" = some (some (.ref fM)) ∧ PySem.W.typeIn K (.ref fM) = some (.type "function") ∧ FnOk P w K mg base CX0 1 fM fd [("self" : Str), "why"] (sp_me C) ∧ Binds K fd [("self" : Str), "why"] []
theorem pmk_me {X : Cx} {j : Nat} {x : Str} {e : Expr} {ta : TA} {p pos : Pos} (c : MeOk X.prog X.w X.K X.mg X.base x) (hr : Room j X.A) (hk : 2 ≤ j) (hg : Gl X x) (ha : PA X [e] ta) (hdb : (x == ("__debug__" : Str)) = false := by decide)
    (he : starEach [e] X.env = (false, eval e X.env) :: starEach [] X.env := by rfl) (hpl : (backTo pos (starEach [] X.env)).any (·.1) = false := by rfl) : PMk X (.Call (.Name x p) [e] [] pos) (tMkO (clsA X.mg x) (sp_me (clsA X.mg x)) [] ta) := by
  obtain ⟨C, fM, fd, at_, oex, ini, typ, fn, binds⟩ := c.ex
  rw [clsA_of at_]
  exact pmk_oex oex ini typ fn (hr.mono hk) binds .nil pass0 hg at_ ha hdb he hpl
theorem me_go {C : Addr} {H1 : Hp} {v : V} {z : Str} {Q : XK} (as_ : inText v = some z) (short : z.length ≤ 5000) (big : ∀ i, v = .int i → i.natAbs.log2 < 1920) (go : ∀ d y H2, Same H1 H2 → H2 d = some (.xd [("word", .str y)]) → Q (.ref C) (some d) H2) :
    [v].length ≤ 1000 ∧ ∀ a, H1 a = none → sp_me C (.ref a :: ([v] ++ [])) (upd H1 a (exo a C none)) (fun v H2 => v = .non ∧ ∃ (d : Addr) (fs : List (Str × V)), H2 a = some (exo a C (some d)) ∧ H2 d = some (exd d fs) ∧ H1 d = none ∧ Q (.ref C) (some d) (upd (del H2 a) d (.xd fs))) (fun _ _ _ => False) := by
  refine ⟨by show 1 ≤ 1000; decide, fun a na => ⟨a, v, z, rfl, as_, short, big, upd_same, fun d y H' nd dne eq => ?_⟩⟩
  rw [upd_ne dne] at nd
  subst eq
  refine ⟨rfl, d, [("word", .str y)], upd_same, by rw [upd_ne dne, upd_same], nd, go d y _ (fun b o z => ?_) upd_same⟩
  have na2 := ne_of_none z na
  rw [upd_ne (ne_of_none z nd), del_ne na2, upd_ne na2, upd_ne (ne_of_none z nd), upd_ne na2]
  exact z
/-- with a written text -/
theorem me_goT {C : Addr} {H1 : Hp} {z : Str} {Q : XK} (go : ∀ d y H2, Same H1 H2 → H2 d = some (.xd [("word", .str y)]) → Q (.ref C) (some d) H2) (short : z.length ≤ 5000 := by decide) :
    [V.str z].length ≤ 1000 ∧ ∀ a, H1 a = none → sp_me C (.ref a :: ([V.str z] ++ [])) (upd H1 a (exo a C none)) (fun v H2 => v = .non ∧ ∃ (d : Addr) (fs : List (Str × V)), H2 a = some (exo a C (some d)) ∧ H2 d = some (exd d fs) ∧ H1 d = none ∧ Q (.ref C) (some d) (upd (del H2 a) d (.xd fs))) (fun _ _ _ => False) :=
  me_go rfl short (fun i e => by cases e) go
/-! ### the facts of such classes, as the top leaves them -/
/-- of the first class, x0, whose __init__ it is -/
structure MeK (K : PySem.W.Frag) (mg : Str → Option Value) (D : Addr) : Prop where
  fn : ∃ (fM : Addr) (oc ccl cl : Value) (od cdd cld : Option Addr) (osl ccs csl : Array (Option Value)) (qual : Str) (params : Arguments) (q : MePos) (dV kV doc pm ct : Value) (an : Option Addr) (cda cc : Addr) (vs : Array Value) (tf : Tok) (ar1 : Arg) (pl : Env → Sem Bool),
    K.lookup fM = some ⟨oc, od, .func (PySem.W.fnX "__init__" qual params (meBody q) (initScope "why") [("__class__", cc)] dV kV doc pm an (.ref cda) ct), osl⟩ ∧ PySem.W.codeIn K (.ref cda) qual = true ∧
    (params.posonlyargs ++ params.args).head? = some ar1 ∧ ar1.arg = "self" ∧ (∀ (s : Shared) (a b : Value), K.In s.heap → BindsTo s (PySem.W.fnX "__init__" qual params (meBody q) (initScope "why") [("__class__", cc)] dV kV doc pm an (.ref cda) ct) ⟨[a, b], []⟩ [(("self" : Str), a), ("why", b)]) ∧
    (∀ env : Env, eval (meSup q) env = (do
      let ov ← attributeBase (.Call (.Name "super" q.a) [] [] q.b) "__init__" env (eval (.Call (.Name "super" q.a) [] [] q.b) env)
      standAt q.c.atName
      let (f, first) ← holding [ov] (getMethod ov "__init__" (pl env))
      callWith q.g f first (backTo q.g (starEach [meTxt q] env)) [])) ∧
    K.lookup cda = some ⟨ccl, cdd, .fields vs, ccs⟩ ∧ vs[2]? = some (.str "/claim/cut.py" tf) ∧ K.lookup cc = some ⟨cl, cld, .cell (some (.ref D)), csl⟩ ∧ (q.n.endLine == q.o.line) = true ∧
    PySem.W.findIn K (.ref D) "__init__" = some (some (.ref fM)) ∧ PySem.W.typeIn K (.ref fM) = some (.type "function")
  sup : mg "super" = none
  self_ : PySem.W.mroIn K D (.ref D) = some true
/-- of a class at C that comes to it -/
structure MeS (K : PySem.W.Frag) (D C : Addr) : Prop where
  of : MeOf K D C
  ini : PySem.W.findIn K (.ref C) "__init__" = PySem.W.findIn K (.ref D) "__init__"
theorem MeK.c {P : Program} {K : PySem.W.Frag} {mg : Str → Option Value} {D : Addr} (T : MeK K mg D) (Z : ProgF P) : ∃ fM, MeC P K mg D fM ∧ PySem.W.findIn K (.ref D) "__init__" = some (some (.ref fM)) ∧ PySem.W.typeIn K (.ref fM) = some (.type "function") := by
  obtain ⟨fM, oc, ccl, cl, od, cdd, cld, osl, ccs, csl, qual, params, q, dV, kV, doc, pm, ct, an, cda, cc, vs, tf, ar1, pl, look, code, hpar, ha1, hbind, hev, hcode, hvs, hcell, hline, hini, htyp⟩ := T.fn
  obtain ⟨cdD, hcls⟩ := clsIn_mro T.self_
  exact ⟨fM, ⟨⟨oc, ccl, cl, od, cdd, cld, osl, ccs, csl, qual, params, q, dV, kV, doc, pm, ct, an, cda, cc, vs, "/claim/cut.py", tf, cdD, ar1, pl, look, code, hpar, ha1, hbind, hev, hcode, hvs, Z.file, hcell, hcls, hline⟩, Z.top, T.sup⟩, hini, htyp⟩
theorem MeS.ok {P : Program} {w : World} {K : PySem.W.Frag} {mg : Str → Option Value} {base : Heap} {D : Addr} {x : Str} (S : MeS K D (clsA mg x)) (T : MeK K mg D) (Z : ProgF P) (at_ : mg x = some (.ref (clsA mg x))) : MeOk P w K mg base x := by
  obtain ⟨fM, c, ini, typ⟩ := T.c Z
  obtain ⟨fd, ok, binds⟩ := me_ok (w := w) (base := base) c S.of
  exact ⟨_, fM, fd, at_, S.of.at_, S.ini.trans ini, typ, ok, binds⟩
end Kt
namespace Kt
open PySem PySem.Spec PyProof.Rows L2
/-- what a raise of such a class at C promises: an error with its dict, all else stands -/
def Err (E : XK) (C : Value) (H : Hp) : Prop := ∀ (d : Addr) (y : Str) (H' : Hp), Same H H' → H' d = some (.xd [("word", .str y)]) → E C (some d) H'
theorem Err.wk {E : XK} {C : Value} {H H' : Hp} (e : Err E C H) (s : Same H H') : Err E C H' := fun d y H2 s2 h => e d y H2 (s.trans s2) h
/-- an own class of errors that is caught or asked by its name -/
structure ExG (K : PySem.W.Frag) (mg : Str → Option Value) (x : Str) (C : Addr) : Prop where
  g : mg x = some (.ref C)
  b : PySem.W.subIn K (.ref C) (.type "BaseException") = some true
  t : PySem.W.typeIn K (.ref C) = some (.type "type")
  i : PySem.W.isClsIn K C = true
  s : PySem.W.subIn K (.ref C) (.ref C) = some true
theorem ExG.at {K : PySem.W.Frag} {mg : Str → Option Value} {x : Str} {C : Addr} (g : mg x = some (.ref C)) (b : PySem.W.subIn K (.ref C) (.type "BaseException") = some true) (t : PySem.W.typeIn K (.ref C) = some (.type "type")) (i : PySem.W.isClsIn K C = true)
    (s : PySem.W.subIn K (.ref C) (.ref C) = some true) : ExG K mg x (clsA mg x) := by
  rw [clsA_of g]
  exact ⟨g, b, t, i, s⟩
/-- it takes what isinstance says it takes -/
theorem exm_kitG {K : PySem.W.Frag} {mg : Str → Option Value} {x : Str} {C : Addr} {t : Value} (e : ExG K mg x C) (k : PySem.W.kitOne K t (.ref C) = some true) : PySem.W.exmOne K t (.ref C) = some true := by
  have k2 : PySem.W.kitCls K t (.ref C) = some true := by
    unfold PySem.W.kitOne at k
    by_cases h : (t == .ref C) = true
    · obtain rfl := beq_iff_eq.mp h
      show (if ((PySem.W.clsIn K C).isSome && PySem.W.typeIn K (.ref C) == some (.type "type")) = true then PySem.W.subIn K (.ref C) (.ref C) else none) = _
      rw [show (PySem.W.clsIn K C).isSome = true from e.i, e.t, e.s]
      rfl
    · rw [if_neg h] at k
      exact k
  unfold PySem.W.exmOne
  rw [e.b]
  exact k2
end Kt
/-! KtMi: an own class of errors with an __init__ of its own, super().__init__(f"..{x}") and self.x = x, over the package's first class (KtMe2). -/
namespace Kt
open PySem PySem.Spec PySem.Calls PyProof.Rows L2
/-- what the written part says of the class at C, of its __init__, over the class at D -/
structure MiC (P : Program) (K : PySem.W.Frag) (mg : Str → Option Value) (C fI fM : Addr) (fld txt : Str) : Prop where
  fn : ∃ (oc ccl cl : Value) (od cdd cld : Option Addr) (osl ccs csl : Array (Option Value)) (qual : Str) (params : Arguments) (q : InitPos) (dV kV doc pm ct : Value) (an : Option Addr) (cda cc : Addr) (vs : Array Value) (file : Str) (tf : Tok) (cdD : ClassData) (ar1 : Arg) (pl : Env → Sem Bool),
    K.lookup fI = some ⟨oc, od, .func (PySem.W.fnX "__init__" qual params (initBody fld txt q) (initScope fld) [("__class__", cc)] dV kV doc pm an (.ref cda) ct), osl⟩ ∧ PySem.W.codeIn K (.ref cda) qual = true ∧
    (params.posonlyargs ++ params.args).head? = some ar1 ∧ ar1.arg = "self" ∧ (∀ a b : Value, bindArgs (PySem.W.fnX "__init__" qual params (initBody fld txt q) (initScope fld) [("__class__", cc)] dV kV doc pm an (.ref cda) ct) ⟨[a, b], []⟩ = pure [(("self" : Str), a), (fld, b)]) ∧
    (∀ env : Env, eval (.Call (.Attribute (.Call (.Name "super" q.a) [] [] q.b) "__init__" q.c) [.JoinedStr [.Constant (.str txt) q.n q.d, .FormattedValue (.Name fld q.e) (-1) none q.f] q.g] [] q.h) env = (do
      let ov ← attributeBase (.Call (.Name "super" q.a) [] [] q.b) "__init__" env (eval (.Call (.Name "super" q.a) [] [] q.b) env)
      standAt q.c.atName
      let (f, first) ← holding [ov] (getMethod ov "__init__" (pl env))
      callWith q.h f first (backTo q.h (starEach [.JoinedStr [.Constant (.str txt) q.n q.d, .FormattedValue (.Name fld q.e) (-1) none q.f] q.g] env)) [])) ∧
    K.lookup cda = some ⟨ccl, cdd, .fields vs, ccs⟩ ∧ vs[2]? = some (.str file tf) ∧ ((P.main.file : Str) == file) = true ∧
    K.lookup cc = some ⟨cl, cld, .cell (some (.ref C)), csl⟩ ∧ PySem.W.clsIn K C = some cdD
  top : (P.main.scope.names.lookup ("super" : Str)).isSome = false
  sup : mg "super" = none
  self_ : PySem.W.mroIn K C (.ref C) = some true
  par : PySem.W.ks_superIn K C C "__init__" = some (some (.ref fM))
  typ : PySem.W.typeIn K (.ref fM) = some (.type "function")
  fni : PySem.W.fnIn K fM = true
  nof : PySem.W.findIn K (.ref C) fld = some none
section
variable {P : Program} {w : World} {K : PySem.W.Frag} {mg : Str → Option Value} {A : Around} {base : Heap} {D C fI fM e t0 : Addr} {fld txt : Str} {sh : Shared} {v : V} {u : Value}
theorem mi_run (T : MiC P K mg C fI fM fld txt) (M : MeC P K mg D fM) (O : MeOf K D C) (mod : Mod K mg base) (bs : ∀ b o, base.get? b = some o → sh.heap.get? b = some o) (nb : base.get? e = none) (room : A.depth + 1 < recursionLimit)
    (there : sh.heap.get? e = some (PySem.W.excObj C t0 none .none)) (rel : RelV v u) (txt2 : Str) (as_ : inText v = some txt2) (short : txt2.length ≤ 3000) (few : txt.length ≤ 1000) (big : ∀ i, v = .int i → i.natAbs.log2 < 1920) (nself : ("self" : Str) ≠ fld) (nsup : ("super" : Str) ≠ fld) (ncls : ("__class__" : Str) ≠ fld) (nword : ("word" : Str) ≠ fld) (ndbg : (fld == ("__debug__" : Str)) = false)
    (R : Result → Shared → Prop)
    (fin : ∀ (s' : Shared) (dx t1 : Addr) (z : Str) (tz : Tok), s'.os = sh.os → s'.gens = sh.gens → (∀ b o, b ≠ e → sh.heap.get? b = some o → s'.heap.get? b = some o) → sh.heap.objs.size ≤ dx → dx ≠ e → s'.heap.get? e = some (PySem.W.excObj C t1 (some dx) .none) →
      s'.heap.Ns1 dx (fun y => if y = fld then some u else if y = "word" then some (.str z tz) else none) → R (.ok (.ret .none)) s')
    (args : Args) (hargs : ∀ fd : FuncData, (∃ (oc : Value) (od : Option Addr) (osl : Array (Option Value)), K.lookup fI = some ⟨oc, od, .func fd, osl⟩) → BindsTo sh fd args [(("self" : Str), .ref e), (fld, u)]) :
    codeAny (model P w) A (.call (.ref fI) args) R sh := by
  obtain ⟨oc, ccl, cl, od, cdd, cld, osl, ccs, csl, qual, params, q, dV, kV, doc, pm, ct, an, cda, cc, vs, file, tf, cdD, ar1, pl, look, code, hpar, ha1, hbind, hev, hcode, hvs, hfile, hcell, hcls⟩ := T.fn
  have X : K.In sh.heap := mod.kin.keeps bs
  obtain ⟨mb, nsb, boot⟩ := mod.blt
  refine ks_codeAny_call_defAt (fd := PySem.W.fnX "__init__" qual _ (initBody fld txt q) (initScope fld) [("__class__", cc)] dV kV doc pm an (.ref cda) ct) (body := initBody fld txt q) (binds := [("self", .ref e), (fld, u)]) (Nat.lt_of_succ_lt room) (X _ _ look) rfl (mod.nolimit.keeps bs) (PySem.W.codeRec_of X code) rfl ?binds ?nocell ?local_ ?run
  case binds =>
    exact hargs _ ⟨_, _, _, look⟩
  case nocell =>
    intro z hz
    have hz : z = (("self" : Str), NameKind.local) ∨ z = (fld, NameKind.local) ∨ z = (("__class__" : Str), NameKind.free) ∨ z = (("super" : Str), NameKind.globalImplicit) := by simpa [initScope, PySem.W.fnX] using hz
    rcases hz with rfl | rfl | rfl | rfl <;> exact fun z => by cases z
  case local_ =>
    intro z hz
    have hz : z = (("self" : Str), Value.ref e) ∨ z = (fld, u) := by simpa using hz
    rcases hz with rfl | rfl
    · rfl
    · exact fld_kind nself
  case run =>
    intro h1 frame keep
    have len1 : sh.heap.objs.size < h1.objs.size := frame.lt
    obtain ⟨hid, hhid⟩ : ∃ hid : Hp, hid = fun b => if b = e then some (.own 0) else none := ⟨_, rfl⟩
    have off : ∀ {b : Addr}, b ≠ e → hid b = none := fun {b} n => by rw [hhid]; exact if_neg n
    have on : hid e ≠ none := by
      have z : hid e = some (.own 0) := by rw [hhid]; exact if_pos rfl
      rw [z]
      exact fun y => by cases y
    have elt : e < sh.heap.objs.size := Heap.lt_size there
    obtain ⟨L, hL⟩ : ∃ L, L = sh.heap.objs.size := ⟨_, rfl⟩
    have eL : e ≠ L := by rw [hL]; exact Nat.ne_of_lt elt
    have ground : ∀ b o, (hidT sh.heap hid).get? b = some o → h1.get? b = some o := fun b o z => keep b o (of_hidT z).1
    rw [← hL] at frame ⊢
    have F : Fr (hidT sh.heap hid) L h1 (fun x => ([("self", Value.ref e), (fld, u)] : List (Str × Value)).reverse.lookup x) := ⟨frame, ground, by rw [hL]; exact Nat.le_of_eq (hidT_size _ _)⟩
    have none_ : (hidT sh.heap hid).get? e = none := by
      match z : (hidT sh.heap hid).get? e with
      | none => rfl
      | some o => exact absurd (of_hidT z).2 on
    have N : News (hidT sh.heap hid) L h1 [(e, PySem.W.excObj C t0 none .none)] := fun p hp => by
      rw [List.mem_singleton.mp hp]
      exact ⟨keep _ _ there, eL, none_⟩
    have baseIn : ∀ b o, base.get? b = some o → (hidT sh.heap hid).get? b = some o := fun b o z => hidT_get (bs b o z) (off fun y => by rw [y, nb] at z; cases z)
    have X0 : K.In (hidT sh.heap hid) := mod.kin.keeps baseIn
    obtain ⟨env, henv⟩ : ∃ env, env = callEnv (PySem.W.fnX "__init__" qual params (initBody fld txt q) (initScope fld) [("__class__", cc)] dV kV doc pm an (.ref cda) ct) L fI := ⟨_, rfl⟩
    rw [← henv]
    have kind : env.scope.kind = .function := by rw [henv]; rfl
    have ks : env.kindOf "super" = some .globalImplicit := by rw [henv]; exact sup_kind nsup
    have kc : env.kindOf "__class__" = some .free := by rw [henv]; exact cls_kind ncls
    have kself : env.kindOf "self" = some .local := by rw [henv]; rfl
    have kfld : env.kindOf fld = some .local := by rw [henv]; exact fld_kind nself
    have lself : ([(("self" : Str), Value.ref e), (fld, u)] : List (Str × Value)).reverse.lookup ("self" : Str) = some (.ref e) := self_look nself
    have lfld : ([(("self" : Str), Value.ref e), (fld, u)] : List (Str × Value)).reverse.lookup fld = some u := fld_look
    have X1 : K.In h1 := X0.keeps ground
    have bk1 : ∀ b o, base.get? b = some o → h1.get? b = some o := fun b o z => ground b o (baseIn b o z)
    obtain ⟨oD, hD1, hD2⟩ : ∃ oD, h1.get? C = some oD ∧ oD.data = .cls cdD := by
      unfold PySem.W.clsIn at hcls
      split at hcls
      · rename_i c d cd' sl ho
        cases hcls
        exact ⟨_, X1 _ _ ho, rfl⟩
      · cases hcls
    have I1 : PySem.W.InstAt h1 e (PySem.W.excObj C t0 none .none) C none := ⟨keep _ _ there, rfl, rfl, trivial⟩
    refine ks_wpAt_execs_cons (ks_wpAt_Expr_any (ks_wpAt_MethodCall (pl := pl env) ?_ (hev env)) ?int ?swap)
    case int => rw [henv]; rfl
    case swap => rw [henv]; rfl
    refine ks_wpAt_super_base ks kc (by decide) (f := fI) (by rw [henv]; rfl) (X1 _ _ look) rfl hpar (cc := cda) (by rw [henv]; rfl) (X1 _ _ hcode) rfl hvs hfile T.top ?_
    refine PySem.W.ks_loadName_global kind ks (loadGlobal_builtin (by rw [henv]; exact mod.glob.keeps bk1) T.sup (by rw [henv]; exact nsb.keeps bk1) ((boot _ (by decide)).trans (by decide +kernel)) ⟨rfl, ?_⟩)
    refine wpAny_loadName_free kind kc (by rw [henv]; rfl) ⟨_, X1 _ _ hcell, rfl⟩ ?_
    rw [ha1]
    refine wpAny_loadName_local kind kself (by rw [henv]; exact frame) lself ?_
    refine ks_wpAny_isType_cls hD1 hD2 ⟨rfl, ?_⟩
    refine ks_wpAny_call_super hD1 hD2 I1.at_ I1.cls (fun c z => by cases z) (PySem.W.looks_mroIn X1 T.self_) (fun h2 so2 keep2 => ?_)
    obtain ⟨F2, N2, _⟩ := PySem.W.ks_newsPush (s := ⟨h1, sh.gens, sh.drawn, sh.toks, sh.os⟩) F N rfl so2 keep2
    have I2 : PySem.W.InstAt h2 e (PySem.W.excObj C t0 none .none) C none := ⟨keep2 _ _ I1.at_, rfl, rfl, trivial⟩
    refine PySem.W.ks_method F2 X0 N2 (.head _) I2 O.opq T.par T.typ (by decide) (fun m3 h3 F3 N3 lt3 => ?_)
    refine PySem.W.callWith_M (self := .ref e) X0 N3 (.head _) T.fni ?_ rfl rfl
    show wpAny _ _ (spliced ((false, eval (.JoinedStr [.Constant (.str txt) q.n q.d, .FormattedValue (.Name fld q.e) (-1) none q.f] q.g) env) :: backTo q.h (starEach [] env))) _ _ _
    refine Calls.spliced_cons (wpAny_JoinedStr ?_)
    show Joins _ _ _ [eval (.Constant (.str txt) q.n q.d) env, eval (.FormattedValue (.Name fld q.e) (-1) none q.f) env] Str.empty _ _
    have el : (Str.empty ++ txt).length = txt.length := by
      show (Str.empty ++ txt).cps.size = txt.cps.size
      show (#[] ++ txt.cps).size = _
      simp
    have small : ∀ n : Nat, n ≤ 8000 → n ≤ sizeLine := fun n hn => Nat.le_trans hn (by decide)
    refine Constant_str ⟨txt, _, rfl, small _ (by rw [el]; omega), ?_⟩
    have al : ∀ y : Str, (Str.empty ++ txt ++ y).length = txt.length + y.length := fun y => by
      show (Str.empty ++ txt ++ y).cps.size = _
      have : (Str.empty ++ txt ++ y).cps = (Str.empty ++ txt).cps ++ y.cps := rfl
      rw [this, Array.size_append]
      have e2 : (Str.empty ++ txt).cps.size = txt.length := el
      rw [e2]
      rfl
    refine wpAny_FormattedValue_plain (wpAny_Name (wpAny_loadName_local kind kfld (by rw [henv]; exact F3.ns) lfld ?_) ndbg)
    have rest : ∀ (y : Str) (ty : Tok) (s4 : Shared), s4.heap = h3 → s4.os = sh.os → s4.gens = sh.gens → y.length ≤ 3000 →
        ∃ y' t', Value.str y ty = .str y' t' ∧ (Str.empty ++ txt ++ y').length ≤ sizeLine ∧ Joins (model P w) (A.deeper env) (fun e s' => wpAny (model P w) (A.deeper env) (leaving env e) (fun _ s'' => R (Except.error e) s'') (fun e' s'' => R (Except.error e') s'') s') [] (Str.empty ++ txt ++ y') (fun out s₁ => out.length ≤ sizeLine ∧ wpAny (model P w) (A.deeper env) (spliced (backTo q.h (starEach [] env))) (fun vs s₂ => PySem.W.MethP K m3 fM (.ref e) s₂.heap ∧ wpAny (model P w) (A.deeper env) (call (.ref m3) ([] ++ (Value.str out s₁.toks :: vs))) (fun _ s' => PySem.wpAt (model P w) (A.deeper env) (Code.func (initBody fld txt q) env)
              (execs [Stmt.Assign [(Expr.Name ("self" : Str) q.j).Attribute fld q.k] (Expr.Name fld q.l) q.m] env) (fun f s' => R (Except.ok (Flow.ret (match f with | Flow.ret v => v | x => Value.none))) s')
              (fun e s' => wpAny (model P w) (A.deeper env) (leaving env e) (fun _ s'' => R (Except.error e) s'') (fun e' s'' => R (Except.error e') s'') s') s')
              (fun e s' => wpAny (model P w) (A.deeper env) (leaving env e) (fun _ s'' => R (Except.error e) s'') (fun e' s'' => R (Except.error e') s'') s') s₂) (fun e s' => wpAny (model P w) (A.deeper env) (leaving env e) (fun _ s'' => R (Except.error e) s'') (fun e' s'' => R (Except.error e') s'') s') { s₁ with toks := s₁.toks + 1 }) s4 := by
      rintro y ty ⟨hp4, g4, d4, tk4, os4⟩ rfl eo eg hy
      dsimp only at F3 N3 eo eg
      refine ⟨y, ty, rfl, small _ (by rw [al]; omega), small _ (by rw [al]; omega), ?_⟩
      have X3 : K.In hp4 := X0.keeps F3.keep
      refine Calls.spliced_nil ⟨PySem.W.methP N3 (.head _) X3, ?_⟩
      obtain ⟨he3, _, _⟩ := N3 (e, PySem.W.excObj C t0 none .none) (.tail _ (.tail _ (.head _)))
      refine PySem.W.call_meth N3 (.head _) ?_
      have bk3 : ∀ b o, base.get? b = some o → hp4.get? b = some o := fun b o z => F3.keep b o (baseIn b o z)
      obtain ⟨moc, mccl, mcl, mod2, mcdd, mcld, mosl, mccs, mcsl, mqual, mparams, mq, mdV, mkV, mdoc, mpm, mct, man, mcda, mcc, mvs, mfile, mtf, mcdD, mar1, mpl, mlook, mcode, mhpar, mha1, mhbind, mrest⟩ := M.fn
      refine me_run (v := .str (Str.empty ++ txt ++ y)) (u := .str (Str.empty ++ txt ++ y) tk4) M O mod bk3 nb (by first | exact room | (show A.depth + 1 < _; exact room)) he3 ⟨_, rfl⟩ (Str.empty ++ txt ++ y) rfl (by rw [al]; omega) (fun i z => by cases z) _ (fun s6 dx t1 z tz os6 gens6 keep6 dn dne hx6 hn6 => ?fin6) _ (fun fd' ⟨oc', od', osl', look'⟩ => ?args6)
      case args6 =>
        rw [mlook] at look'
        cases look'
        exact mhbind _ _ _ X3
      obtain ⟨h6, g6, d6, tk6, o6⟩ := s6
      dsimp only at os6 gens6 keep6 hx6 hn6
      subst os6 gens6 eo eg
      obtain ⟨nm, qn, NN, bss, bm, sn, sub, ab, col, dd, k0, k1, k2, k3, k5, hC, hbm⟩ := O.at_.cls
      have hcl : PySem.W.clsIn K C = some { name := nm, bases := bss, mro := .ref C :: bm, ns := NN, qualname := qn, hasDict := true, slotNames := sn, subclasses := sub, abstract := ab, collection := col, hasDel := false } := by
        unfold PySem.W.clsIn
        rw [hC]
      have k6 : ∀ b o, (hidT sh.heap hid).get? b = some o → h6.get? b = some o := fun b o z => keep6 b o (fun y => by rw [y, none_] at z; cases z) (F3.keep b o z)
      have X6 : K.In h6 := X0.keeps k6
      have F6 : Fr (hidT sh.heap hid) L h6 (fun x => ([("self", Value.ref e), (fld, u)] : List (Str × Value)).reverse.lookup x) := by
        obtain ⟨oL, es, ep, hL6, r⟩ := F3.ns
        exact ⟨⟨oL, es, ep, keep6 _ _ eL.symm hL6, r⟩, k6, F3.above⟩
      obtain ⟨oX, _, _, hoX, hdX, _⟩ := id hn6
      have I6 : PySem.W.InstAt h6 e (PySem.W.excObj C t1 (some dx) .none) C (some oX) := ⟨hx6, rfl, rfl, hoX⟩
      refine ks_wpAt_execs_cons (ks_wpAt_Assign_Attr ?_ ?swap2)
      case swap2 => rw [henv]; rfl
      refine wpAt_of_wpAny (wpAny_Name (wpAny_loadName_local kind kfld (by rw [henv]; exact F6.ns) lfld ?_) ndbg)
      refine wpAny_Name (wpAny_loadName_local kind kself (by rw [henv]; exact F6.ns) lself ?_) (by decide)
      refine PySem.W.set_plain X6 I6 O.at_.sa ?_
      have wn : PySem.Within (fun y => if y = ("word" : Str) then some (Value.str z tz) else none) ["word"] := fun y hy => by
        by_cases h : y = "word"
        · exact List.mem_singleton.mpr h
        · exact absurd (if_neg h) hy
      refine PySem.OEX.osa_old X6 hx6 hn6 wn (by decide) hcl (show PySem.HandSPX.refsVE (.ref C :: bm) = true from hbm) rfl T.nof (fun h7 tk7 keep7 hn7 => ?_)
      refine wpAt_of_wpAny (wpAny_execs_nil ?_)
      refine fin _ dx t1 z tz rfl rfl (fun b o nb z2 => keep7 b o (fun y => ?_) (keep6 b o nb (F3.keep b o (hidT_get z2 (off nb))))) ?_ dne (keep7 _ _ dne.symm hx6) hn7
      · subst y
        have lt3 : b < hp4.objs.size := Heap.lt_size (F3.keep b o (hidT_get z2 (off nb)))
        exact absurd (Nat.lt_of_lt_of_le lt3 dn) (Nat.lt_irrefl _)
      · have lt := F3.ns.lt
        rw [hL] at lt
        exact Nat.le_trans (Nat.le_of_lt lt) dn
    cases v with
    | str z =>
      obtain ⟨t, rfl⟩ := rel
      have e0 : z = txt2 := Option.some.inj as_
      subst e0
      exact wpAny_formatField_str (rest z t _ rfl rfl rfl short) (rest z _ _ rfl rfl rfl short) (small _ (by omega))
    | int i =>
      obtain ⟨t, rfl⟩ := rel
      have e0 : toString i = txt2 := by
        have := Option.some.inj as_
        exact this
      exact wpAny_formatField_int (big i rfl) (rest (Str.ofString (toString i)) _ _ rfl rfl rfl (by rw [show Str.ofString (toString i) = txt2 from e0]; exact short))
    | non => cases as_
    | bl b => cases as_
    | byt b => cases as_
    | flt b => cases as_
    | ref b => cases as_
    | ty b => cases as_
end
end Kt
namespace Kt
open PySem PySem.Spec PySem.Calls PyProof.Rows L2
/-- the promise of such an __init__ -/
def sp_mi (C : Addr) (fld : Str) : Sp := fun vs H Q _ => ∃ (e : Addr) (v : V) (z : Str), vs = [.ref e, v] ∧ inText v = some z ∧ z.length ≤ 3000 ∧ (∀ i, v = .int i → i.natAbs.log2 < 1920) ∧ H e = some (exo e C none) ∧ ∀ d y H', H d = none → d ≠ e → H' = upd (upd H d (exd d [(fld, v), ("word", .str y)])) e (exo e C (some d)) → Q .non H'
section
variable {P : Program} {w : World} {K : PySem.W.Frag} {mg : Str → Option Value} {base : Heap} {D C fI fM : Addr} {fld txt : Str}
theorem mi_ok (T : MiC P K mg C fI fM fld txt) (M : MeC P K mg D fM) (O : MeOf K D C) (few : txt.length ≤ 1000) (nself : ("self" : Str) ≠ fld) (nsup : ("super" : Str) ≠ fld) (ncls : ("__class__" : Str) ≠ fld) (nword : ("word" : Str) ≠ fld) (ndbg : (fld == ("__debug__" : Str)) = false) :
    ∃ fd : FuncData, FnOk P w K mg base CX0 2 fI fd [("self" : Str), fld] (sp_mi C fld) ∧ Binds K fd [("self" : Str), fld] [] := by
  have T0 := T
  obtain ⟨oc, ccl, cl, od, cdd, cld, osl, ccs, csl, qual, params, q, dV, kV, doc, pm, ct, an, cda, cc, vs, file, tf, cdD, ar1, pl, look, code, hpar, ha1, hbind, hev, hcode, hvs, hfile, hcell, hcls⟩ := T.fn
  refine ⟨_, ⟨?len, ?run⟩, .all fun us hl => match us, hl with | [a, b], _ => hbind a b⟩
  case len =>
    rintro vs H Q E ⟨e, v, z, rfl, _⟩
    rfl
  case run =>
    rintro A outer s H args us vs Q E room env binds rel ⟨e, v, z, rfl, as_, short, big, tracked, q⟩
    obtain ⟨u, rfl, r⟩ : ∃ u, us = [.ref e, u] ∧ RelV v u := by
      obtain ⟨a, b, rfl, ra, rb⟩ := vals2 rel
      obtain rfl : a = .ref e := ra
      exact ⟨b, rfl, rb⟩
    obtain ⟨t1, there⟩ := exo_at env.hok tracked
    refine mi_run T0 M O env.mod (fun b o z => (env.bs b o z).1) ?nb ?room there r z as_ short few big nself nsup ncls nword ndbg _ (fun s' dx t1 y ty os gens keep dn dne hx hn => ?_) args (fun fd' ⟨oc', od', osl', look'⟩ => ?_)
    case nb =>
      match y : base.get? e with
      | none => rfl
      | some o =>
        have := (env.bs e o y).2
        rw [tracked] at this
        cases this
    case room =>
      have := room.dp
      omega
    · have free : H dx = none := env.hok.fresh dn
      have far : ∀ {b : Addr}, H b = none → b ≠ e := fun {b} n y => by
        rw [y, tracked] at n
        cases n
      have apart : ∀ {b : Addr} {o : Obj}, s.heap.get? b = some o → b ≠ dx := fun {b o} y => Nat.ne_of_lt (Nat.lt_of_lt_of_le (Heap.lt_size y) dn)
      refine ⟨.non, upd (upd H dx (exd dx [(fld, v), ("word", .str y)])) e (exo e C (some dx)), os, by rw [gens]; exact env.bare, ?un, ?ok, rfl, q dx y _ free dne rfl⟩
      case un =>
        constructor
        · intro b o y none_ _ _
          exact keep b o (far none_) y
        · intro b o y none_ _ _
          exact ⟨o.slots, keep b o (far none_) y⟩
        · intro b o y none_ _
          rw [upd_ne (far none_), upd_ne (apart y)]
          exact none_
        · intro b o y _
          by_cases at_ : b = e
          · exact ⟨_, by rw [at_]; exact hx⟩
          · exact ⟨o, keep b o at_ y⟩
        · intro b xs y
          rw [upd_ne (at_ne tracked y exo_tup), upd_ne (ne_of_none y free)]
          exact y
        · intro b o x y
          rw [upd_ne (at_ne tracked y exo_frz), upd_ne (ne_of_none y free)]
          exact y
        · intro b ps y
          refine ⟨#[], ?_⟩
          rw [upd_ne (at_ne tracked y exo_tbl), upd_ne (ne_of_none y free), y, Array.append_empty]
      case ok =>
        intro b o z
        by_cases at_ : b = e
        · subst at_
          rw [upd_same] at z
          obtain rfl := Option.some.inj z
          exact exo_ok hx
        · rw [upd_ne at_] at z
          by_cases new : b = dx
          · subst new
            rw [upd_same] at z
            obtain rfl := Option.some.inj z
            exact exd_ok hn (relO_put r (relO_put (fs := []) (show RelV (.str y) (.str y ty) from ⟨ty, rfl⟩) fun _ => trivial))
          · rw [upd_ne new] at z
            refine (env.hok b o z).stay (fun c x own look2 => keep c x ?_ look2) (fun c own => ?_) (fun c xs tup => ?_)
            · rcases own with own | own
              · rw [own]
                exact at_
              · exact at_ne tracked own exo_own
            · rw [upd_ne (at_ne tracked own exo_own), upd_ne (ne_of_none own free)]
              exact own
            · rw [upd_ne (at_ne tracked tup exo_tup), upd_ne (ne_of_none tup free)]
              exact tup
    · rw [look] at look'
      cases look'
      exact binds
end
/-- such a class may be raised -/
structure MiOk (P : Program) (w : World) (K : PySem.W.Frag) (mg : Str → Option Value) (base : Heap) (x fld : Str) : Prop where
  ex : ∃ (C fI : Addr) (fd : FuncData), mg x = some (.ref C) ∧ OexC K C ∧ PySem.W.findIn K (.ref C) "__init__" = some (some (.ref fI)) ∧ PySem.W.typeIn K (.ref fI) = some (.type "function") ∧ FnOk P w K mg base CX0 2 fI fd [("self" : Str), fld] (sp_mi C fld) ∧ Binds K fd [("self" : Str), fld] []
theorem pmk_mi {X : Cx} {j : Nat} {x fld : Str} {e : Expr} {ta : TA} {p pos : Pos} (c : MiOk X.prog X.w X.K X.mg X.base x fld) (hr : Room j X.A) (hk : 3 ≤ j) (hg : Gl X x) (ha : PA X [e] ta) (hdb : (x == ("__debug__" : Str)) = false := by decide)
    (he : starEach [e] X.env = (false, eval e X.env) :: starEach [] X.env := by rfl) (hpl : (backTo pos (starEach [] X.env)).any (·.1) = false := by rfl) : PMk X (.Call (.Name x p) [e] [] pos) (tMkO (clsA X.mg x) (sp_mi (clsA X.mg x) fld) [] ta) := by
  obtain ⟨C, fI, fd, at_, oex, ini, typ, fn, binds⟩ := c.ex
  rw [clsA_of at_]
  exact pmk_oex oex ini typ fn (hr.mono hk) binds .nil pass0 hg at_ ha hdb he hpl
theorem mi_go {C : Addr} {fld : Str} {H1 : Hp} {v : V} {z : Str} {Q : XK} (as_ : inText v = some z) (short : z.length ≤ 3000) (big : ∀ i, v = .int i → i.natAbs.log2 < 1920) (go : ∀ d y H2, Same H1 H2 → H2 d = some (.xd [(fld, v), ("word", .str y)]) → Q (.ref C) (some d) H2) :
    [v].length ≤ 1000 ∧ ∀ a, H1 a = none → sp_mi C fld (.ref a :: ([v] ++ [])) (upd H1 a (exo a C none)) (fun v H2 => v = .non ∧ ∃ (d : Addr) (fs : List (Str × V)), H2 a = some (exo a C (some d)) ∧ H2 d = some (exd d fs) ∧ H1 d = none ∧ Q (.ref C) (some d) (upd (del H2 a) d (.xd fs))) (fun _ _ _ => False) := by
  refine ⟨by show 1 ≤ 1000; decide, fun a na => ⟨a, v, z, rfl, as_, short, big, upd_same, fun d y H' nd dne eq => ?_⟩⟩
  rw [upd_ne dne] at nd
  subst eq
  refine ⟨rfl, d, [(fld, v), ("word", .str y)], upd_same, by rw [upd_ne dne, upd_same], nd, go d y _ (fun b o z => ?_) upd_same⟩
  have na2 := ne_of_none z na
  rw [upd_ne (ne_of_none z nd), del_ne na2, upd_ne na2, upd_ne (ne_of_none z nd), upd_ne na2]
  exact z
/-- the facts of such a class, as the top leaves them -/
structure MiK (K : PySem.W.Frag) (mg : Str → Option Value) (D C : Addr) (fld txt : Str) : Prop where
  of : MeOf K D C
  fn : ∃ (fI fM : Addr) (oc ccl cl : Value) (od cdd cld : Option Addr) (osl ccs csl : Array (Option Value)) (qual : Str) (params : Arguments) (q : InitPos) (dV kV doc pm ct : Value) (an : Option Addr) (cda cc : Addr) (vs : Array Value) (tf : Tok) (ar1 : Arg) (pl : Env → Sem Bool),
    K.lookup fI = some ⟨oc, od, .func (PySem.W.fnX "__init__" qual params (initBody fld txt q) (initScope fld) [("__class__", cc)] dV kV doc pm an (.ref cda) ct), osl⟩ ∧ PySem.W.codeIn K (.ref cda) qual = true ∧
    (params.posonlyargs ++ params.args).head? = some ar1 ∧ ar1.arg = "self" ∧ (∀ a b : Value, bindArgs (PySem.W.fnX "__init__" qual params (initBody fld txt q) (initScope fld) [("__class__", cc)] dV kV doc pm an (.ref cda) ct) ⟨[a, b], []⟩ = pure [(("self" : Str), a), (fld, b)]) ∧
    (∀ env : Env, eval (.Call (.Attribute (.Call (.Name "super" q.a) [] [] q.b) "__init__" q.c) [.JoinedStr [.Constant (.str txt) q.n q.d, .FormattedValue (.Name fld q.e) (-1) none q.f] q.g] [] q.h) env = (do
      let ov ← attributeBase (.Call (.Name "super" q.a) [] [] q.b) "__init__" env (eval (.Call (.Name "super" q.a) [] [] q.b) env)
      standAt q.c.atName
      let (f, first) ← holding [ov] (getMethod ov "__init__" (pl env))
      callWith q.h f first (backTo q.h (starEach [.JoinedStr [.Constant (.str txt) q.n q.d, .FormattedValue (.Name fld q.e) (-1) none q.f] q.g] env)) [])) ∧
    K.lookup cda = some ⟨ccl, cdd, .fields vs, ccs⟩ ∧ vs[2]? = some (.str "/claim/cut.py" tf) ∧ K.lookup cc = some ⟨cl, cld, .cell (some (.ref C)), csl⟩ ∧
    PySem.W.findIn K (.ref C) "__init__" = some (some (.ref fI)) ∧ PySem.W.typeIn K (.ref fI) = some (.type "function") ∧
    PySem.W.ks_superIn K C C "__init__" = some (some (.ref fM)) ∧ PySem.W.findIn K (.ref D) "__init__" = some (some (.ref fM)) ∧ PySem.W.fnIn K fM = true
  self_ : PySem.W.mroIn K C (.ref C) = some true
  nof : PySem.W.findIn K (.ref C) fld = some none
theorem MiK.ok {P : Program} {w : World} {K : PySem.W.Frag} {mg : Str → Option Value} {base : Heap} {D : Addr} {x fld txt : Str} (T : MiK K mg D (clsA mg x) fld txt) (M : MeK K mg D) (Z : ProgF P) (at_ : mg x = some (.ref (clsA mg x))) (few : txt.length ≤ 1000 := by decide) (nself : ("self" : Str) ≠ fld := by decide) (nsup : ("super" : Str) ≠ fld := by decide)
    (ncls : ("__class__" : Str) ≠ fld := by decide) (nword : ("word" : Str) ≠ fld := by decide) (ndbg : (fld == ("__debug__" : Str)) = false := by decide) : MiOk P w K mg base x fld := by
  obtain ⟨fM, c, ini, typ⟩ := M.c Z
  obtain ⟨fI, fM2, oc, ccl, cl, od, cdd, cld, osl, ccs, csl, qual, params, q, dV, kV, doc, pm, ct, an, cda, cc, vs, tf, ar1, pl, look, code, hpar, ha1, hbind, hev, hcode, hvs, hcell, hini, htyp, hpar2, hD, hfn⟩ := T.fn
  rw [ini] at hD
  cases hD
  obtain ⟨cdD, hcls⟩ := clsIn_mro T.self_
  have C0 : MiC P K mg (clsA mg x) fI fM fld txt := ⟨⟨oc, ccl, cl, od, cdd, cld, osl, ccs, csl, qual, params, q, dV, kV, doc, pm, ct, an, cda, cc, vs, "/claim/cut.py", tf, cdD, ar1, pl, look, code, hpar, ha1, hbind, hev, hcode, hvs, Z.file, hcell, hcls⟩, Z.top, M.sup, T.self_, hpar2, typ, hfn, T.nof⟩
  obtain ⟨fd, ok, binds⟩ := mi_ok (w := w) (base := base) C0 c T.of few nself nsup ncls nword ndbg
  exact ⟨_, fI, fd, at_, T.of.at_, hini, htyp, ok, binds⟩
end Kt
namespace Kt
open PySem PySem.Spec PyProof.Rows L2
def topS (i : Nat) : Stmt := PySem.Challenge.pw_likematch_k03_patterns_filled.main.body.getD i (.Pass ⟨0, 0, 0, 0⟩)
abbrev s_is_word : Stmt := topS 13
theorem sc_is_word : FnScope ["thing", "most", "sign"] ["thing", "most"] (defScope s_is_word) := ⟨rfl, rfl, rfl, by decide +kernel, rfl, by decide +kernel, by decide +kernel⟩
abbrev s_is_name : Stmt := topS 14
theorem sc_is_name : FnScope ["thing"] ["thing"] (defScope s_is_name) := ⟨rfl, rfl, rfl, by decide +kernel, rfl, by decide +kernel, by decide +kernel⟩
abbrev s_is_hole : Stmt := topS 15
theorem sc_is_hole : FnScope ["thing"] ["thing"] (defScope s_is_hole) := ⟨rfl, rfl, rfl, by decide +kernel, rfl, by decide +kernel, by decide +kernel⟩
abbrev s_size_within : Stmt := topS 16
theorem sc_size_within : FnScope ["thing", "holes", "deep", "size", "part", "more"] ["thing", "holes", "deep"] (defScope s_size_within) := ⟨rfl, rfl, rfl, by decide +kernel, rfl, by decide +kernel, by decide +kernel⟩
abbrev s_is_term : Stmt := topS 17
theorem sc_is_term : FnScope ["thing"] ["thing"] (defScope s_is_term) := ⟨rfl, rfl, rfl, by decide +kernel, rfl, by decide +kernel, by decide +kernel⟩
abbrev s_is_pattern : Stmt := topS 18
theorem sc_is_pattern : FnScope ["thing"] ["thing"] (defScope s_is_pattern) := ⟨rfl, rfl, rfl, by decide +kernel, rfl, by decide +kernel, by decide +kernel⟩
abbrev s_refuse_no_term : Stmt := topS 19
theorem sc_refuse_no_term : FnScope ["thing"] ["thing"] (defScope s_refuse_no_term) := ⟨rfl, rfl, rfl, by decide +kernel, rfl, by decide +kernel, by decide +kernel⟩
abbrev s_refuse_no_pattern : Stmt := topS 20
theorem sc_refuse_no_pattern : FnScope ["thing"] ["thing"] (defScope s_refuse_no_pattern) := ⟨rfl, rfl, rfl, by decide +kernel, rfl, by decide +kernel, by decide +kernel⟩
abbrev s_all_within : Stmt := topS 21
theorem sc_all_within : FnScope ["pattern", "found", "part"] ["pattern"] (defScope s_all_within) := ⟨rfl, rfl, rfl, by decide +kernel, rfl, by decide +kernel, by decide +kernel⟩
abbrev s_holes_of : Stmt := topS 22
theorem sc_holes_of : FnScope ["pattern", "part"] ["pattern"] (defScope s_holes_of) := ⟨rfl, rfl, rfl, by decide +kernel, rfl, by decide +kernel, by decide +kernel⟩
abbrev s_exchanged : Stmt := topS 23
theorem sc_exchanged : FnScope ["pattern", "fill", "part"] ["pattern", "fill"] (defScope s_exchanged) := ⟨rfl, rfl, rfl, by decide +kernel, rfl, by decide +kernel, by decide +kernel⟩
abbrev s_refuse_no_fill : Stmt := topS 24
theorem sc_refuse_no_fill : FnScope ["holes", "fill", "hole"] ["holes", "fill"] (defScope s_refuse_no_fill) := ⟨rfl, rfl, rfl, by decide +kernel, rfl, by decide +kernel, by decide +kernel⟩
abbrev s_filled : Stmt := topS 25
theorem sc_filled : FnScope ["pattern", "fill", "term"] ["pattern", "fill"] (defScope s_filled) := ⟨rfl, rfl, rfl, by decide +kernel, rfl, by decide +kernel, by decide +kernel⟩
abbrev s__law_begin : Stmt := topS 27
theorem sc__law_begin : FnScope ["_law_script", "_law_cells", "_law_cell"] ["_law_script"] (defScope s__law_begin) := ⟨rfl, rfl, rfl, by decide +kernel, rfl, by decide +kernel, by decide +kernel⟩
abbrev s__law_take : Stmt := topS 28
theorem sc__law_take : FnScope ["_law_draw", "_law_size_here", "_law_cells", "_law_at", "_law_cell"] ["_law_draw", "_law_size_here"] (defScope s__law_take) := ⟨rfl, rfl, rfl, by decide +kernel, rfl, by decide +kernel, by decide +kernel⟩
abbrev s__law_pick : Stmt := topS 29
theorem sc__law_pick : FnScope ["_law_draw", "_law_some"] ["_law_draw", "_law_some"] (defScope s__law_pick) := ⟨rfl, rfl, rfl, by decide +kernel, rfl, by decide +kernel, by decide +kernel⟩
abbrev s__law_word : Stmt := topS 30
theorem sc__law_word : FnScope ["_law_draw", "_law_way", "_law_word_here", "_law_k"] ["_law_draw"] (defScope s__law_word) := ⟨rfl, rfl, rfl, by decide +kernel, rfl, by decide +kernel, by decide +kernel⟩
abbrev s__law_hole : Stmt := topS 31
theorem sc__law_hole : FnScope ["_law_draw", "_law_word_here", "_law_k"] ["_law_draw"] (defScope s__law_hole) := ⟨rfl, rfl, rfl, by decide +kernel, rfl, by decide +kernel, by decide +kernel⟩
abbrev s__law_pattern : Stmt := topS 32
theorem sc__law_pattern : FnScope ["_law_draw", "_law_left", "_law_holed", "_law_many", "_law_k"] ["_law_draw", "_law_left", "_law_holed"] (defScope s__law_pattern) := ⟨rfl, rfl, rfl, by decide +kernel, rfl, by decide +kernel, by decide +kernel⟩
abbrev s__law_size : Stmt := topS 33
theorem sc__law_size : FnScope ["_law_one", "_law_part"] ["_law_one"] (defScope s__law_size) := ⟨rfl, rfl, rfl, by decide +kernel, rfl, by decide +kernel, by decide +kernel⟩
abbrev s__law_depth : Stmt := topS 34
theorem sc__law_depth : FnScope ["_law_one", "_law_part"] ["_law_one"] (defScope s__law_depth) := ⟨rfl, rfl, rfl, by decide +kernel, rfl, by decide +kernel, by decide +kernel⟩
abbrev s__law_holes : Stmt := topS 35
theorem sc__law_holes : FnScope ["_law_one", "_law_found", "_law_part", "_law_hole_here"] ["_law_one"] (defScope s__law_holes) := ⟨rfl, rfl, rfl, by decide +kernel, rfl, by decide +kernel, by decide +kernel⟩
abbrev s__law_put_in : Stmt := topS 36
theorem sc__law_put_in : FnScope ["_law_one", "_law_given", "_law_part"] ["_law_one", "_law_given"] (defScope s__law_put_in) := ⟨rfl, rfl, rfl, by decide +kernel, rfl, by decide +kernel, by decide +kernel⟩
abbrev s__law_due : Stmt := topS 37
theorem sc__law_due : FnScope ["_law_one", "_law_given", "_law_lacks", "_law_whole", "_law_hole_here"] ["_law_one", "_law_given"] (defScope s__law_due) := ⟨rfl, rfl, rfl, by decide +kernel, rfl, by decide +kernel, by decide +kernel⟩
abbrev s__law_told : Stmt := topS 38
theorem sc__law_told : FnScope ["_law_one", "_law_given", "_law_by_name", "_law_found", "_law_error", "e", "_law_kinds", "_law_word_here"] ["_law_one", "_law_given", "_law_by_name"] (defScope s__law_told) := ⟨rfl, rfl, rfl, by decide +kernel, rfl, by decide +kernel, by decide +kernel⟩
abbrev s_law : Stmt := topS 39
theorem sc_law : FnScope ["_law_script", "_law_draw", "_law_turn", "_law_spoil", "_law_one", "_law_given", "_law_hole_here", "_law_odd", "_law_kept", "_law_found", "_law_wide", "_law_great", "_law_some"] ["_law_script"] (defScope s_law) := ⟨rfl, rfl, rfl, by decide +kernel, rfl, by decide +kernel, by decide +kernel⟩
/-- what the top has left -/
structure Tx (K : PySem.W.Frag) (mg : Str → Option Value) : Prop where
  d_is_word : Dx K mg "is_word" s_is_word ["thing", "most"]
  d_is_name : Dx K mg "is_name" s_is_name ["thing"]
  d_is_hole : Dx K mg "is_hole" s_is_hole ["thing"]
  d_size_within : Dx K mg "size_within" s_size_within ["thing", "holes", "deep"]
  d_is_term : Dx K mg "is_term" s_is_term ["thing"]
  d_is_pattern : Dx K mg "is_pattern" s_is_pattern ["thing"]
  d_refuse_no_term : Dx K mg "refuse_no_term" s_refuse_no_term ["thing"]
  d_refuse_no_pattern : Dx K mg "refuse_no_pattern" s_refuse_no_pattern ["thing"]
  d_all_within : Dx K mg "all_within" s_all_within ["pattern"]
  d_holes_of : Dx K mg "holes_of" s_holes_of ["pattern"]
  d_exchanged : Dx K mg "exchanged" s_exchanged ["pattern", "fill"]
  d_refuse_no_fill : Dx K mg "refuse_no_fill" s_refuse_no_fill ["holes", "fill"]
  d_filled : Dx K mg "filled" s_filled ["pattern", "fill"]
  d__law_begin : Dx K mg "_law_begin" s__law_begin ["_law_script"]
  d__law_take : Dx K mg "_law_take" s__law_take ["_law_draw", "_law_size_here"]
  d__law_pick : Dx K mg "_law_pick" s__law_pick ["_law_draw", "_law_some"]
  d__law_word : Dx K mg "_law_word" s__law_word ["_law_draw"]
  d__law_hole : Dx K mg "_law_hole" s__law_hole ["_law_draw"]
  d__law_pattern : Dx K mg "_law_pattern" s__law_pattern ["_law_draw", "_law_left", "_law_holed"]
  d__law_size : Dx K mg "_law_size" s__law_size ["_law_one"]
  d__law_depth : Dx K mg "_law_depth" s__law_depth ["_law_one"]
  d__law_holes : Dx K mg "_law_holes" s__law_holes ["_law_one"]
  d__law_put_in : Dx K mg "_law_put_in" s__law_put_in ["_law_one", "_law_given"]
  d__law_due : Dx K mg "_law_due" s__law_due ["_law_one", "_law_given"]
  d__law_told : Dx K mg "_law_told" s__law_told ["_law_one", "_law_given", "_law_by_name"]
  d_law : Dx K mg "law" s_law ["_law_script"]
  m_LETTERS : ∃ t, mg "LETTERS" = some (.str "abcdefghijklmnopqrstuvwxyz" t)
  m_MOST_NAME : ∃ t, mg "MOST_NAME" = some (.int 8 t)
  m_MOST_HOLE : ∃ t, mg "MOST_HOLE" = some (.int 4 t)
  m_MOST_PARTS : ∃ t, mg "MOST_PARTS" = some (.int 3 t)
  m_MOST_SIZE : ∃ t, mg "MOST_SIZE" = some (.int 30 t)
  m_MOST_DEEP : ∃ t, mg "MOST_DEEP" = some (.int 5 t)
  e_BadPattern : ExG K mg "BadPattern" (clsA mg "BadPattern")
  e_BadTerm : ExG K mg "BadTerm" (clsA mg "BadTerm")
  e_MatchError : ExG K mg "MatchError" (clsA mg "MatchError")
  e_TooGreat : ExG K mg "TooGreat" (clsA mg "TooGreat")
  me : MeK K mg (clsA mg "MatchError")
  gs_BadPattern : mg "BadPattern" = some (.ref (clsA mg "BadPattern"))
  s_BadPattern : MeS K (clsA mg "MatchError") (clsA mg "BadPattern")
  gs_BadTerm : mg "BadTerm" = some (.ref (clsA mg "BadTerm"))
  s_BadTerm : MeS K (clsA mg "MatchError") (clsA mg "BadTerm")
  gs_TooGreat : mg "TooGreat" = some (.ref (clsA mg "TooGreat"))
  s_TooGreat : MeS K (clsA mg "MatchError") (clsA mg "TooGreat")
  gi_NoHole : mg "NoHole" = some (.ref (clsA mg "NoHole"))
  i_NoHole : MiK K mg (clsA mg "MatchError") (clsA mg "NoHole") "hole" "nothing is given for the hole "
  x_BadTerm : ExcC K (clsA mg "BadTerm")
  x_BadPattern : ExcC K (clsA mg "BadPattern")
  x_TooGreat : ExcC K (clsA mg "TooGreat")
  x_NoHole : ExcC K (clsA mg "NoHole")
  k_BadPattern_BadPattern : PySem.W.kitOne K (.ref (clsA mg "BadPattern")) (.ref (clsA mg "BadPattern")) = some true
  k_BadPattern_NoHole : PySem.W.kitOne K (.ref (clsA mg "BadPattern")) (.ref (clsA mg "NoHole")) = some false
  k_BadPattern_BadTerm : PySem.W.kitOne K (.ref (clsA mg "BadPattern")) (.ref (clsA mg "BadTerm")) = some false
  k_BadPattern_TooGreat : PySem.W.kitOne K (.ref (clsA mg "BadPattern")) (.ref (clsA mg "TooGreat")) = some false
  k_NoHole_BadPattern : PySem.W.kitOne K (.ref (clsA mg "NoHole")) (.ref (clsA mg "BadPattern")) = some false
  k_NoHole_NoHole : PySem.W.kitOne K (.ref (clsA mg "NoHole")) (.ref (clsA mg "NoHole")) = some true
  k_NoHole_BadTerm : PySem.W.kitOne K (.ref (clsA mg "NoHole")) (.ref (clsA mg "BadTerm")) = some false
  k_NoHole_TooGreat : PySem.W.kitOne K (.ref (clsA mg "NoHole")) (.ref (clsA mg "TooGreat")) = some false
  k_BadTerm_BadPattern : PySem.W.kitOne K (.ref (clsA mg "BadTerm")) (.ref (clsA mg "BadPattern")) = some false
  k_BadTerm_NoHole : PySem.W.kitOne K (.ref (clsA mg "BadTerm")) (.ref (clsA mg "NoHole")) = some false
  k_BadTerm_BadTerm : PySem.W.kitOne K (.ref (clsA mg "BadTerm")) (.ref (clsA mg "BadTerm")) = some true
  k_BadTerm_TooGreat : PySem.W.kitOne K (.ref (clsA mg "BadTerm")) (.ref (clsA mg "TooGreat")) = some false
  k_TooGreat_BadPattern : PySem.W.kitOne K (.ref (clsA mg "TooGreat")) (.ref (clsA mg "BadPattern")) = some false
  k_TooGreat_NoHole : PySem.W.kitOne K (.ref (clsA mg "TooGreat")) (.ref (clsA mg "NoHole")) = some false
  k_TooGreat_BadTerm : PySem.W.kitOne K (.ref (clsA mg "TooGreat")) (.ref (clsA mg "BadTerm")) = some false
  k_TooGreat_TooGreat : PySem.W.kitOne K (.ref (clsA mg "TooGreat")) (.ref (clsA mg "TooGreat")) = some true
  k_BadPattern_ValueError : PySem.W.kitOne K (.ref (clsA mg "BadPattern")) (.type "ValueError") = some true
  k_BadPattern_MatchError : PySem.W.kitOne K (.ref (clsA mg "BadPattern")) (.ref (clsA mg "MatchError")) = some true
  k_NoHole_ValueError : PySem.W.kitOne K (.ref (clsA mg "NoHole")) (.type "ValueError") = some true
  k_NoHole_MatchError : PySem.W.kitOne K (.ref (clsA mg "NoHole")) (.ref (clsA mg "MatchError")) = some true
  k_BadTerm_ValueError : PySem.W.kitOne K (.ref (clsA mg "BadTerm")) (.type "ValueError") = some true
  k_BadTerm_MatchError : PySem.W.kitOne K (.ref (clsA mg "BadTerm")) (.ref (clsA mg "MatchError")) = some true
  k_TooGreat_ValueError : PySem.W.kitOne K (.ref (clsA mg "TooGreat")) (.type "ValueError") = some true
  k_TooGreat_MatchError : PySem.W.kitOne K (.ref (clsA mg "TooGreat")) (.ref (clsA mg "MatchError")) = some true
  z_ValueError : mg "ValueError" = none
  z_abs : mg "abs" = none
  z_all : mg "all" = none
  z_dict : mg "dict" = none
  z_isinstance : mg "isinstance" = none
  z_len : mg "len" = none
  z_list : mg "list" = none
  z_max : mg "max" = none
  z_range : mg "range" = none
  z_sorted : mg "sorted" = none
  z_str : mg "str" = none
  z_sum : mg "sum" = none
  z_tuple : mg "tuple" = none
end Kt
namespace Kt
open PySem PySem.Spec PyProof.Rows L2

def LS : Str := "abcdefghijklmnopqrstuvwxyz"
def lowc (c : Nat) : Bool := decide (c ∈ LS.cps.toList)
/-- a text of 1 to m small letters -/
def isW (z : Str) (m : Int) : Bool := decide (1 ≤ (z.length : Int)) && (decide ((z.length : Int) ≤ m) && z.cps.toList.all lowc)
def Th.word (m : Int) : Th → Bool | .str z => isW z m | _ => false
def sp_is_word : Sp := fun vs H Q _ => ∃ v t m, vs = [v, .int m] ∧ Rep H v t ∧ ∀ H', Same H H' → Q (.bl (t.word m)) H'
theorem range_map_get {β : Type} {l : List Nat} (p : Nat → β) : ((List.range l.length).map fun i => p (l.getD i 0)) = l.map p := by
  apply List.ext_getElem
  · rw [List.length_map, List.length_map, List.length_range]
  · intro i h1 h2
    rw [List.length_map, List.length_range] at h1
    rw [List.getElem_map, List.getElem_map, List.getElem_range, List.getD_eq_getElem?_getD, List.getElem?_eq_getElem h1]
    rfl
section
variable {P : Program} {w : World} {K : PySem.W.Frag} {mg : Str → Option Value} {base : Heap}
theorem c_is_word (T : Tx K mg) : Cl P w K mg base CX0 1 "is_word" ["thing", "most"] sp_is_word := by
  refine Cl.mk0 T.d_is_word sc_is_word (fun vs H Q E h => ?_) (fun f cdv A outer s H vs Q E hr h => ?_)
  · obtain ⟨v, t, m, rfl, _⟩ := h
    rfl
  obtain ⟨v, t, m, rfl, r, q⟩ := h
  refine ⟨_, (pss_cons (ps_if (PW.pt (pw_or (pt_not (pt_val (pe_callB (id := "isinstance") (r := rIsi K) call_isi (by rfl) T.z_isinstance (by decide +kernel) (pa_cons (pv 0) (pa_cons (pe_bltn (v := .ty "str") (u := .type "str") (by rfl) T.z_str (by decide +kernel) rfl) pa_nil))))) (pw_or1 (pt_not (pt_chain op_le op_le pe_int (pe_callB call_len (by rfl) T.z_len (by decide +kernel) (pa_cons (pv 0) pa_nil)) (pv 1))))))
      (pss_one (ps_ret pe_bl))
      pss_nil)
    (pss_one (ps_ret (pe_callB (cr_all rfl) (by rfl) T.z_all (by decide +kernel) (pa_cons (pe_lc (own := [("sign", 2)]) (g := gName 2) (tt := tYes) rfl sc_is_word.nd (pi_str (pv 0)) (blkOk_by (own := [("sign", 2)]) (N := ["thing", "most", "sign"]) (sc := defScope s_is_word) (by decide +kernel)) (fun _ _ _ _ _ => (pg_name (i := 2) sc_is_word.nd rfl (Or.inl rfl))) (fun _ _ _ _ _ => pts_nil) (fun _ _ _ _ _ => (pe_cmpR op_in_sign (pv 2) (pe_glob (v := .str "abcdefghijklmnopqrstuvwxyz") (by rfl) T.m_LETTERS.choose_spec ⟨_, rfl⟩) rfl))) pa_nil))))), ?_⟩
  refine ⟨_, rfl, _, _, _, _, _, rfl, .ty _, r.tyx, kstr t, _, rfl, ?_⟩
  cases r with
  | str z hz ok =>
    refine iteF ?_
    refine ⟨_, rfl, _, _, rfl, ⟨Nat.le_of_lt (small1000 (by omega)), rfl⟩, _, _, rfl, rfl, _, rfl, ?_⟩
    have fin : ∀ (b : Bool), isW z m = b → ∀ H', Same H H' → Q (.bl b) H' := fun b e H' s => e ▸ q H' s
    refine ite2 (fun c1 => ?_) (fun c1 => ?_)
    · refine ⟨_, rfl, _, _, rfl, rfl, _, rfl, ?_⟩
      refine ite2 (fun c2 => ?_) (fun c2 => ?_)
      · refine fin false ?_ H (Same.refl H)
        have c2' : decide ((z.length : Int) ≤ m) = false := by simpa using c2
        unfold isW
        rw [c2', Bool.false_and, Bool.and_false]
      · have c2' : decide ((z.length : Int) ≤ m) = true := by simpa using c2
        refine ⟨_, rfl, _, rfl, fun D hD => ?_⟩
        refine lc_pure (walk_str) (fun i => .bl (lowc (z.cps.toList.getD i 0))) hD ?_ (fun _ _ => trivial) (fun x => rfl) (fun i x H1 H2 hi s1 y => ?_) (fun H1 s1 e1 => ?_)
        · have : z.cps.size ≤ 100 := hz
          omega
        · obtain ⟨rfl, c, hc, rfl⟩ := y
          refine ⟨Same.refl _, fun Q' q' => ⟨_, rfl, _, _, rfl, rfl, ?_⟩⟩
          have e : z.cps.toList.getD i 0 = c := by
            rw [List.getD_eq_getElem?_getD, Array.getElem?_toList, hc]
            rfl
          have e2 : lowc (z.cps.toList.getD i 0) = decide (c ∈ LS.cps.toList) := by rw [e]; rfl
          rw [e2] at q'
          exact q' _ (Same.refl _)
        · refine ⟨D, z.cps.toList.map lowc, rfl, SqL.of ?_, ?_⟩
          · rw [e1, List.map_map]
            exact congrArg (fun l => some (HO.lst l)) (range_map_get (l := z.cps.toList) fun c => V.bl (lowc c))
          · refine fin _ ?_ H1 s1
            unfold isW
            rw [c1, c2', Bool.true_and, Bool.true_and, List.all_map]
            rfl
    · refine ⟨_, rfl, iteT (fin false ?_ H (Same.refl H))⟩
      have c1' : decide (1 ≤ (z.length : Int)) = false := by simpa using c1
      unfold isW
      rw [c1', Bool.false_and]
  | _ => exact iteT (iteT (q H (Same.refl H)))
end
end Kt
namespace Kt
open PySem PySem.Spec PyProof.Rows L2
/-! ### slices -/
theorem cutV_lo (xs : List V) (k : Nat) : cutV xs (some (k : Int)) none = xs.drop k := by
  unfold cutV
  rw [HT.sIx_nat, HT.sIx_none]
  by_cases h : k ≤ xs.length
  · rw [Nat.min_eq_left h, ← List.length_drop, List.take_length]
  · rw [Nat.min_eq_right (by omega), List.drop_eq_nil_of_le (Nat.le_refl _), List.drop_eq_nil_of_le (by omega)]
    simp
theorem cutV_hi (xs : List V) (k : Nat) : cutV xs none (some (k : Int)) = xs.take k := by
  unfold cutV
  rw [HT.sIx_nat, HT.sIx_none, Nat.sub_zero, List.drop_zero, List.take_eq_take_iff]
  omega
theorem sl_lo {K : PySem.W.Frag} {H : Hp} {a : Addr} {xs : List V} {Q : VK} (k : Nat) (h : H a = some (.tup xs)) (hk : 0 < k) (hn : 0 < xs.length) (q : ∀ p, H p = none → Q (.ref p) (upd H p (.tup (xs.drop k)))) : rSlA K (.ref a) (some (k : Int)) none H Q := by
  refine ⟨a, xs, rfl, SqT.of h, fun e => absurd e.1 ?_, fun _ p hp => ?_⟩
  · rw [HT.sIx_nat]
    omega
  · rw [cutV_lo]
    exact q p hp
theorem sl_hi {K : PySem.W.Frag} {H : Hp} {a : Addr} {xs : List V} {Q : VK} (k : Nat) (h : H a = some (.tup xs)) (hk : k < xs.length) (q : ∀ p, H p = none → Q (.ref p) (upd H p (.tup (xs.take k)))) : rSlA K (.ref a) none (some (k : Int)) H Q := by
  refine ⟨a, xs, rfl, SqT.of h, fun e => absurd e.2 ?_, fun _ p hp => ?_⟩
  · rw [HT.sIx_nat]
    omega
  · rw [cutV_hi]
    exact q p hp
theorem cutS_len (z : Str) (lo hi : Option Int) : (cutS z lo hi).length ≤ z.length := by
  show ((z.cps.toList.drop _).take _).length ≤ z.cps.size
  rw [List.length_take, List.length_drop, Array.length_toList]
  omega
theorem cutS_ok {z : Str} (h : okS z) (lo hi : Option Int) : okS (cutS z lo hi) := fun c hc => h c (List.mem_of_mem_drop (List.mem_of_mem_take hc))
/-! ### what the program tells -/
def isHl (z : Str) : Bool := decide (V.str (cutS z none (some 1)) = V.str "?") && isW (cutS z (some 1) none) 4
def Th.hole : Th → Bool | .str z => isHl z | _ => false
def swl (f : Th → Int) (acc : Int) : List Th → Int
  | [] => acc
  | p :: ps => if f p = 0 then 0 else swl f (acc + f p) ps
def sw (h : Bool) : Nat → Th → Int
  | 0, _ => 0
  | d + 1, t => if t.hole then (if h then 1 else 0) else match t with
    | .tup (x :: ps) => if ps.length ≤ 3 ∧ x.word 8 = true then swl (sw h d) 1 ps else 0
    | _ => 0
def sp_is_name : Sp := fun vs H Q _ => ∃ v t, vs = [v] ∧ Rep H v t ∧ ∀ H', Same H H' → Q (.bl (t.word 8)) H'
def sp_is_hole : Sp := fun vs H Q _ => ∃ v t, vs = [v] ∧ Rep H v t ∧ ∀ H', Same H H' → Q (.bl t.hole) H'
def sp_size_within (n : Nat) : Sp := fun vs H Q _ => ∃ v t b, ∃ d : Nat, vs = [v, .bl b, .int (d : Int)] ∧ d < n ∧ Rep H v t ∧ ∀ H', Same H H' → Q (.int (sw b d t)) H'
def within (b : Bool) (t : Th) : Bool := decide (1 ≤ sw b 5 t) && decide (sw b 5 t ≤ 30)
def sp_is_term : Sp := fun vs H Q _ => ∃ v t, vs = [v] ∧ Rep H v t ∧ ∀ H', Same H H' → Q (.bl (within false t)) H'
def sp_is_pattern : Sp := fun vs H Q _ => ∃ v t, vs = [v] ∧ Rep H v t ∧ ∀ H', Same H H' → Q (.bl (within true t)) H'
section
variable {P : Program} {w : World} {K : PySem.W.Frag} {mg : Str → Option Value} {base : Heap}
theorem c_is_name (T : Tx K mg) : Cl P w K mg base CX0 2 "is_name" ["thing"] sp_is_name := by
  refine Cl.mk0 T.d_is_name sc_is_name (fun vs H Q E h => ?_) (fun f cdv A outer s H vs Q E hr h => ?_)
  · obtain ⟨v, t, rfl, _⟩ := h
    rfl
  obtain ⟨v, t, rfl, r, q⟩ := h
  refine ⟨_, (pss_one (ps_ret (pe_cl (c_is_word T) hr (by omega) rfl (pa_cons (pv 0) (pa_cons (pe_glob (v := .int 8) (by rfl) T.m_MOST_NAME.choose_spec ⟨_, rfl⟩) pa_nil))))), ?_⟩
  exact ⟨_, rfl, v, t, 8, rfl, r, q⟩
theorem c_is_hole (T : Tx K mg) : Cl P w K mg base CX0 2 "is_hole" ["thing"] sp_is_hole := by
  refine Cl.mk0 T.d_is_hole sc_is_hole (fun vs H Q E h => ?_) (fun f cdv A outer s H vs Q E hr h => ?_)
  · obtain ⟨v, t, rfl, _⟩ := h
    rfl
  obtain ⟨v, t, rfl, r, q⟩ := h
  refine ⟨_, (pss_one (ps_ret (pe_and (pe_callB (id := "isinstance") (r := rIsi K) call_isi (by rfl) T.z_isinstance (by decide +kernel) (pa_cons (pv 0) (pa_cons (pe_bltn (v := .ty "str") (u := .type "str") (by rfl) T.z_str (by decide +kernel) rfl) pa_nil))) (pe_and (pe_cmpR op_eq (pe_slice sl_str (pv 0) po_no (po_some pe_int)) pe_str (nomark _)) (pe_one (pe_cl (c_is_word T) hr (by omega) rfl (pa_cons (pe_slice sl_str (pv 0) (po_some pe_int) po_no) (pa_cons (pe_glob (v := .int 4) (by rfl) T.m_MOST_HOLE.choose_spec ⟨_, rfl⟩) pa_nil)))))))), ?_⟩
  refine ⟨_, rfl, _, _, _, _, _, rfl, .ty _, r.tyx, kstr t, _, rfl, ?_⟩
  cases r with
  | str z hz ok =>
    have hz' : z.length ≤ sizeLine := Nat.le_of_lt (small1000 (by omega))
    have fin : ∀ (b : Bool), isHl z = b → ∀ H', Same H H' → Q (.bl b) H' := fun b e H' s => e ▸ q H' s
    refine iteT ⟨_, rfl, 1, rfl, _, rfl, hz', rfl, _, rfl, ite2 (fun c => ?_) (fun c => ?_)⟩
    · refine ⟨_, rfl, 1, rfl, _, rfl, hz', _, .str _, 4, rfl, .str _ (Nat.le_trans (cutS_len _ _ _) hz) (cutS_ok ok _ _), fun H' s => ?_⟩
      refine fin _ ?_ H' s
      unfold isHl
      rw [c, Bool.true_and]
      rfl
    · refine fin _ ?_ H (Same.refl H)
      unfold isHl
      rw [Bool.eq_false_iff.mpr c, Bool.false_and]
  | _ => exact iteF (q H (Same.refl H))
theorem c_size_within_n (T : Tx K mg) : ∀ n : Nat, Cl P w K mg base CX0 (n + 2) "size_within" ["thing", "holes", "deep"] (sp_size_within n)
  | 0 => Cl.no T.d_size_within fun vs H Q E h => by
    obtain ⟨v, t, b, d, _, hd, _⟩ := h
    exact absurd hd (Nat.not_lt_zero d)
  | n + 1 => by
    have ih := c_size_within_n T n
    refine Cl.mk0 T.d_size_within sc_size_within (fun vs H Q E h => ?_) (fun f cdv A outer s H vs Q E hr h => ?_)
    · obtain ⟨v, t, b, d, rfl, _⟩ := h
      rfl
    obtain ⟨v, t, b, d, rfl, hd, r, q⟩ := h
    refine ⟨_, (pss_cons (ps_if (pt_cmpR op_eq (pv 2) pe_int (nomark _))
      (pss_one (ps_ret pe_int))
      pss_nil)
    (pss_cons (ps_if (pt_val (pe_cl (c_is_hole T) hr (by omega) rfl (pa_cons (pv 0) pa_nil)))
      (pss_one (ps_ret (pe_ifExp (pt_val (pv 1)) pe_int pe_int)))
      pss_nil)
    (pss_cons (ps_if (PW.pt (pw_or (pt_not (pt_val (pe_callB (id := "isinstance") (r := rIsi K) call_isi (by rfl) T.z_isinstance (by decide +kernel) (pa_cons (pv 0) (pa_cons (pe_bltn (v := .ty "tuple") (u := .type "tuple") (by rfl) T.z_tuple (by decide +kernel) rfl) pa_nil))))) (pw_or (pt_not (pt_chain op_le op_le pe_int (pe_callB call_len (by rfl) T.z_len (by decide +kernel) (pa_cons (pv 0) pa_nil)) (pe_op op_add pe_int (pe_glob (v := .int 3) (by rfl) T.m_MOST_PARTS.choose_spec ⟨_, rfl⟩)))) (pw_or1 (pt_not (pt_val (pe_cl (c_is_name T) hr (by omega) rfl (pa_cons (pe_ix ix_tup (pv 0) pe_int (fun _ _ => rfl)) pa_nil))))))))
      (pss_one (ps_ret pe_int))
      pss_nil)
    (pss_cons (ps_set (i := 3) sc_size_within.nd rfl (Or.inl rfl) pe_int)
    (pss_cons (ps_for PassesOwn.never rfl (pi_tup (pe_slice sl_tupA (pv 0) (po_some pe_int) po_no)) (pg_name (i := 4) sc_size_within.nd rfl (Or.inl rfl))
      (pss_cons (ps_set (i := 5) sc_size_within.nd rfl (Or.inl rfl) (pe_cl ih hr (by omega) rfl (pa_cons (pv 4) (pa_cons (pv 1) (pa_cons (pe_op op_sub (pv 2) pe_int) pa_nil)))))
      (pss_cons (ps_if (pt_cmpR op_eq (pv 5) pe_int (nomark _))
        (pss_one (ps_ret pe_int))
        pss_nil)
      (pss_one (ps_aug (i := 3) sc_size_within.nd rfl (Or.inl rfl) (pv 5) ip_add)))))
    (pss_one (ps_ret (pv 3)))))))), ?_⟩
    refine ⟨_, rfl, rfl, _, rfl, ite2 (fun c => ?_) (fun c => ?_)⟩
    · have e : (d : Int) = 0 := V.int.inj (of_decide_eq_true c)
      have e0 : d = 0 := by omega
      subst e0
      exact q H (Same.refl H)
    have d0 : d ≠ 0 := fun e => by
      subst e
      exact c (decide_eq_true rfl)
    obtain ⟨d', rfl⟩ : ∃ d', d = d' + 1 := ⟨d - 1, by omega⟩
    have fin : ∀ (i : Int), sw b (d' + 1) t = i → ∀ H', Same H H' → Q (.int i) H' := fun i e H' s => e ▸ q H' s
    refine ⟨_, rfl, v, t, rfl, r, fun H1 s1 => ⟨_, rfl, ite2 (fun c1 => ?_) (fun c1 => ?_)⟩⟩
    · have e : sw b (d' + 1) t = if b then 1 else 0 := by
        unfold sw
        rw [if_pos c1]
      cases b with
      | true => exact ⟨_, rfl, _, rfl, iteT (fin 1 e H1 s1)⟩
      | false => exact ⟨_, rfl, _, rfl, iteF (fin 0 e H1 s1)⟩
    have r1 := r.wk (Wk.same s1)
    refine ⟨_, rfl, _, _, _, _, _, rfl, .ty _, r1.tyx, ktup t, _, rfl, ?_⟩
    cases r1 with
    | @tup a xs l ha hn hl =>
      have no : ∀ H', Same H H' → (∀ x ps, l = x :: ps → ¬ (ps.length ≤ 3 ∧ x.word 8 = true)) → Q (.int 0) H' := fun H' s' k => fin 0 (by
        unfold sw
        rw [if_neg c1]
        cases l with
        | nil => rfl
        | cons x ps =>
          show (if ps.length ≤ 3 ∧ x.word 8 = true then swl (sw b d') 1 ps else 0) = 0
          rw [if_neg (k x ps rfl)]) H' s'
      have hlen := hl.length
      refine iteF ⟨_, rfl, _, _, rfl, .inr ⟨xs, SqT.of ha, rfl⟩, _, _, rfl, rfl, _, rfl, ite2 (fun c2 => ?_) (fun c2 => ?_)⟩
      · have c2' : 1 ≤ (xs.length : Int) := of_decide_eq_true c2
        refine ⟨_, _, rfl, rfl, _, _, rfl, rfl, _, rfl, ite2 (fun c3 => ?_) (fun c3 => ?_)⟩
        · have c3' : ¬ (xs.length : Int) ≤ 1 + 3 := of_decide_eq_false (by simpa using c3)
          refine iteT (no H1 s1 fun x ps e k => ?_)
          rw [e, List.length_cons] at hlen
          omega
        · have c3' : (xs.length : Int) ≤ 1 + 3 := of_decide_eq_true (by simpa using c3)
          cases hl with
          | nil =>
            have : (1 : Int) ≤ 0 := c2'
            omega
          | @cons y ys x ps hx hps =>
            rw [List.length_cons] at c3'
            have hp3 : ps.length ≤ 3 := by
              have := hps.length
              omega
            refine ⟨_, rfl, _, _, _, _, rfl, rfl, SqT.of ha, atI_nat (j := 0) rfl, y, x, rfl, hx, fun H2 s2 => ⟨_, rfl, ite2 (fun c4 => ?_) (fun c4 => ?_)⟩⟩
            · refine no H2 (s1.trans s2) fun x' ps' e k => ?_
              cases e
              rw [k.2] at c4
              cases c4
            · have c4' : x.word 8 = true := by simpa using c4
              have s12 := s1.trans s2
              have ha2 := s2 _ _ ha
              refine ⟨_, rfl, 1, rfl, ?_⟩
              refine sl_lo (K := K) 1 ha2 (by omega) (by rw [List.length_cons]; omega) fun p hp => ?_
              have s3 : Same H (upd H2 p (.tup ((y :: ys).drop 1))) := s12.trans (same_new hp _)
              have hps2 : RepL H2 ys ps := hps.wk (Wk.same s2)
              have val : ∀ acc, swl (sw b d') 1 ps = acc → ∀ H', Same H H' → Q (.int acc) H' := fun acc e H' s' => fin acc (by
                unfold sw
                rw [if_neg c1]
                show (if ps.length ≤ 3 ∧ x.word 8 = true then swl (sw b d') 1 ps else 0) = acc
                rw [if_pos ⟨hp3, c4'⟩, e]) H' s'
              refine ⟨p, rfl, ⟨ys, SqT.of upd_same⟩, for_tup (xs := ys) (fun i σ H' => ∃ acc y4 y5, σ = [some (.ref a), some (.bl b), some (.int ((d' + 1 : Nat) : Int)), some (.int acc), y4, y5] ∧ Same H2 H' ∧ H' p = some (.tup ys) ∧
                swl (sw b d') 1 ps = swl (sw b d') acc (ps.drop i)) ⟨1, none, none, rfl, same_new hp _, upd_same, rfl⟩ (fun i σ H' _ h' => ?_) (fun i z σ H' hz h' => ?_) (fun σ H' h' => ?_)⟩
              · obtain ⟨acc, y4, y5, _, _, hpH, _⟩ := h'
                exact SqT.of hpH
              · obtain ⟨acc, y4, y5, rfl, sH, hpH, eq⟩ := h'
                obtain ⟨t, ht, hr'⟩ := (hps2.wk (Wk.same sH)).get' hz
                obtain ⟨hi, hti⟩ := List.getElem?_eq_some_iff.mp ht
                rw [List.drop_eq_getElem_cons hi, hti] at eq
                refine ⟨_, rfl, _, rfl, _, rfl, _, _, rfl, rfl, z, t, b, d', ?_, by omega, hr', fun H3 s3' => ?_⟩
                · have : ((d' + 1 : Nat) : Int) - 1 = (d' : Int) := by omega
                  show [z, V.bl b, V.int (((d' + 1 : Nat) : Int) - 1)] = _
                  rw [this]
                refine ⟨_, rfl, rfl, _, rfl, ite2 (fun c5 => ?_) (fun c5 => ?_)⟩
                · refine val 0 ?_ H3 (s12.trans (sH.trans s3'))
                  rw [eq]
                  show (if sw b d' t = 0 then 0 else _) = 0
                  rw [if_pos (V.int.inj (of_decide_eq_true c5))]
                · refine ⟨_, rfl, _, rfl, _, _, rfl, rfl, acc + sw b d' t, _, _, rfl, sH.trans s3', s3' _ _ hpH, ?_⟩
                  rw [eq]
                  show (if sw b d' t = 0 then 0 else _) = _
                  rw [if_neg fun e => c5 (by rw [e]; rfl)]
              · obtain ⟨acc, y4, y5, rfl, sH, hpH, eq⟩ := h'
                rw [List.drop_eq_nil_of_le (by rw [hps2.length]; exact Nat.le_refl _)] at eq
                exact ⟨_, rfl, val acc eq H' (s12.trans sH)⟩
      · refine ⟨_, rfl, iteT (no H1 s1 fun x ps e k => ?_)⟩
        have c2' : ¬ 1 ≤ (xs.length : Int) := of_decide_eq_false (by simpa using c2)
        rw [e, List.length_cons] at hlen
        omega
    | _ => exact iteT (iteT (fin 0 (by unfold sw; rw [if_neg c1]) H1 s1))
theorem c_size_within (T : Tx K mg) : Cl P w K mg base CX0 8 "size_within" ["thing", "holes", "deep"] (sp_size_within 6) := c_size_within_n T 6
end
end Kt
namespace Kt
open PySem PySem.Spec PyProof.Rows L2
section
variable {P : Program} {w : World} {K : PySem.W.Frag} {mg : Str → Option Value} {base : Heap}
theorem c_is_term (T : Tx K mg) : Cl P w K mg base CX0 9 "is_term" ["thing"] sp_is_term := by
  refine Cl.mk0 T.d_is_term sc_is_term (fun vs H Q E h => ?_) (fun f cdv A outer s H vs Q E hr h => ?_)
  · obtain ⟨v, t, rfl, _⟩ := h
    rfl
  obtain ⟨v, t, rfl, r, q⟩ := h
  refine ⟨_, (pss_one (ps_ret (pe_chain op_le op_le pe_int (pe_cl (c_size_within T) hr (by omega) rfl (pa_cons (pv 0) (pa_cons pe_bl (pa_cons (pe_glob (v := .int 5) (by rfl) T.m_MOST_DEEP.choose_spec ⟨_, rfl⟩) pa_nil)))) (pe_glob (v := .int 30) (by rfl) T.m_MOST_SIZE.choose_spec ⟨_, rfl⟩)))), ?_⟩
  refine ⟨_, rfl, v, t, false, 5, rfl, by omega, r, fun H' s' => ⟨_, _, rfl, rfl, _, rfl, ite2 (fun c => ?_) (fun c => ?_)⟩⟩
  · refine ⟨_, _, rfl, rfl, ?_⟩
    have e : within false t = decide (sw false 5 t ≤ 30) := by
      unfold within
      rw [c, Bool.true_and]
    have q' := q H' s'
    rw [e] at q'
    exact q'
  · have e : within false t = false := by
      unfold within
      rw [Bool.eq_false_iff.mpr c, Bool.false_and]
    have q' := q H' s'
    rw [e] at q'
    exact q'
end
end Kt
namespace Kt
open PySem PySem.Spec PyProof.Rows L2
section
variable {P : Program} {w : World} {K : PySem.W.Frag} {mg : Str → Option Value} {base : Heap}
theorem c_is_pattern (T : Tx K mg) : Cl P w K mg base CX0 9 "is_pattern" ["thing"] sp_is_pattern := by
  refine Cl.mk0 T.d_is_pattern sc_is_pattern (fun vs H Q E h => ?_) (fun f cdv A outer s H vs Q E hr h => ?_)
  · obtain ⟨v, t, rfl, _⟩ := h
    rfl
  obtain ⟨v, t, rfl, r, q⟩ := h
  refine ⟨_, (pss_one (ps_ret (pe_chain op_le op_le pe_int (pe_cl (c_size_within T) hr (by omega) rfl (pa_cons (pv 0) (pa_cons pe_bl (pa_cons (pe_glob (v := .int 5) (by rfl) T.m_MOST_DEEP.choose_spec ⟨_, rfl⟩) pa_nil)))) (pe_glob (v := .int 30) (by rfl) T.m_MOST_SIZE.choose_spec ⟨_, rfl⟩)))), ?_⟩
  refine ⟨_, rfl, v, t, true, 5, rfl, by omega, r, fun H' s' => ⟨_, _, rfl, rfl, _, rfl, ite2 (fun c => ?_) (fun c => ?_)⟩⟩
  · refine ⟨_, _, rfl, rfl, ?_⟩
    have e : within true t = decide (sw true 5 t ≤ 30) := by
      unfold within
      rw [c, Bool.true_and]
    have q' := q H' s'
    rw [e] at q'
    exact q'
  · have e : within true t = false := by
      unfold within
      rw [Bool.eq_false_iff.mpr c, Bool.false_and]
    have q' := q H' s'
    rw [e] at q'
    exact q'
end
end Kt
namespace Kt
open PySem PySem.Spec PyProof.Rows L2
/-! ### the draws: a list at d of the cells' list at c, a place and a mixed number -/
def Dr (d c : Addr) (H : Hp) : Prop := ∃ (cells : List Int) (at' mix : Int), H d = some (.lst [.ref c, .int at', .int mix]) ∧ H c = some (.lst (cells.map V.int)) ∧ 0 < cells.length ∧ cells.length ≤ 63 ∧ 0 ≤ mix ∧ mix < 2147483647
/-- all but the draws stands as it stood -/
structure DU (d c : Addr) (H H' : Hp) : Prop where
  old : ∀ a o, a ≠ d → a ≠ c → H a = some o → H' a = some o
  dr : Dr d c H'
theorem Dr.ne {d c : Addr} {H : Hp} (h : Dr d c H) : c ≠ d := by
  obtain ⟨cells, at', mix, h1, h2, hl, _⟩ := h
  intro e
  subst e
  rw [h1] at h2
  cases cells with
  | nil => cases h2
  | cons a r => cases h2
theorem Dr.same {d c : Addr} {H H' : Hp} (h : Dr d c H) (s : Same H H') : Dr d c H' := by
  obtain ⟨cells, at', mix, h1, h2, r⟩ := h
  exact ⟨cells, at', mix, s _ _ h1, s _ _ h2, r⟩
theorem DU.same {d c : Addr} {H H' : Hp} (h : Dr d c H) (s : Same H H') : DU d c H H' := ⟨fun a o _ _ q => s a o q, h.same s⟩
theorem DU.refl {d c : Addr} {H : Hp} (h : Dr d c H) : DU d c H H := DU.same h (Same.refl H)
theorem DU.trans {d c : Addr} {H H1 H2 : Hp} (a : DU d c H H1) (b : DU d c H1 H2) : DU d c H H2 := ⟨fun x o n m q => b.old x o n m (a.old x o n m q), b.dr⟩
theorem DU.then {d c : Addr} {H H1 H2 : Hp} (a : DU d c H H1) (b : Same H1 H2) : DU d c H H2 := a.trans (DU.same a.dr b)
theorem DU.wk {d c : Addr} {H H' : Hp} (h : Dr d c H) (u : DU d c H H') : Wk H H' := by
  obtain ⟨cells, at', mix, h1, h2, _⟩ := h
  obtain ⟨cells', at2, mix', h1', h2', _⟩ := u.dr
  refine ⟨fun a xs q => u.old a _ (ne_of q h1 fun e => nomatch e) (ne_of q h2 fun e => nomatch e) q, fun a xs q => ?_, fun a xs q => ⟨xs, u.old a _ (ne_of q h1 fun e => nomatch e) (ne_of q h2 fun e => nomatch e) q⟩⟩
  by_cases e1 : a = d
  · subst e1
    exact ⟨_, h1'⟩
  · by_cases e2 : a = c
    · subst e2
      exact ⟨_, h2'⟩
    · exact ⟨xs, u.old a _ e1 e2 q⟩
/-- an address that the draws' heap does not know is none of theirs -/
theorem Dr.new {d c p : Addr} {H : Hp} (h : Dr d c H) (hp : H p = none) : p ≠ d ∧ p ≠ c := by
  obtain ⟨cells, at', mix, h1, h2, _⟩ := h
  exact ⟨(ne_of_none h1 hp).symm, (ne_of_none h2 hp).symm⟩
theorem ixN_nat {n j : Nat} (hj : j < n) : ixN n (j : Int) = some j := by
  unfold ixN
  rw [if_pos (by omega), if_pos (by omega)]
  simp
theorem fmod_in {a b : Int} (h : 0 < b) : 0 ≤ a.fmod b ∧ a.fmod b < b := ⟨Int.fmod_nonneg_of_pos a h, Int.fmod_lt_of_pos a h⟩
def sp_take : Sp := fun vs H Q _ => ∃ (d c : Addr) (n : Int), vs = [.ref d, .int n] ∧ 0 < n ∧ n < 1000000 ∧ Dr d c H ∧ ∀ r H', 0 ≤ r → r < n → DU d c H H' → Q (.int r) H'
section
variable {P : Program} {w : World} {K : PySem.W.Frag} {mg : Str → Option Value} {base : Heap}
theorem c__law_take (T : Tx K mg) : Cl P w K mg base CX0 1 "_law_take" ["_law_draw", "_law_size_here"] sp_take := by
  refine Cl.mk0 T.d__law_take sc__law_take (fun vs H Q E h => ?_) (fun f cdv A outer s H vs Q E hr h => ?_)
  · obtain ⟨d, c, n, rfl, _⟩ := h
    rfl
  obtain ⟨d, c, n, rfl, hn0, hn, hD, q⟩ := h
  have cd := hD.ne
  obtain ⟨cells, at', mix, hd, hc, hl, hl63, hm0, hm⟩ := hD
  refine ⟨_, (pss_cons (ps_set (i := 2) sc__law_take.nd rfl (Or.inl rfl) (pe_ix ix_list (pv 0) pe_int (fun _ _ => rfl)))
    (pss_cons (ps_set (i := 3) sc__law_take.nd rfl (Or.inl rfl) (pe_op op_modN (pe_ix ix_list (pv 0) pe_int (fun _ _ => rfl)) (pe_callB call_len (by rfl) T.z_len (by decide +kernel) (pa_cons (pv 2) pa_nil))))
    (pss_cons (ps_set (i := 4) sc__law_take.nd rfl (Or.inl rfl) (pe_ix ix_list (pv 2) (pv 3) (fun _ _ => rfl)))
    (pss_cons (ps_if (pt_cmpR op_ge (pv 4) (pe_op op_pow pe_int pe_int) (nomark _))
      (pss_cons (ps_asg (pe_op op_fdivN (pv 4) (pv 1)) (pg_sub (pv 2) (pv 3) set_list))
      (pss_one (ps_ret (pe_op op_modN (pv 4) (pv 1)))))
      pss_nil)
    (pss_cons (ps_asg (pe_op op_add (pe_ix ix_list (pv 0) pe_int (fun _ _ => rfl)) pe_int) (pg_sub (pv 0) pe_int set_list))
    (pss_cons (ps_asg (pe_op op_modN (pe_op op_add (pe_op op_add (pe_op op_mul (pe_ix ix_list (pv 0) pe_int (fun _ _ => rfl)) pe_int) (pv 4)) pe_int) pe_int) (pg_sub (pv 0) pe_int set_list))
    (pss_one (ps_ret (pe_op op_modN (pe_op op_fdivN (pe_op op_modN (pe_op op_mul (pe_ix ix_list (pv 0) pe_int (fun _ _ => rfl)) (pe_ix ix_list (pv 0) pe_int (fun _ _ => rfl))) pe_int) pe_int) (pv 1)))))))))), ?_⟩
  refine ⟨_, rfl, _, _, _, _, rfl, rfl, SqL.of hd, atI_nat (j := 0) rfl, ?_⟩
  have hlen : 0 < ((cells.map V.int).length : Int) := by
    rw [List.length_map]
    omega
  refine ⟨_, rfl, _, _, _, _, rfl, rfl, SqL.of hd, atI_nat (j := 1) rfl, _, rfl, _, _, rfl, .inl ⟨_, SqL.of hc, rfl⟩, _, _, rfl, rfl, by omega, ?_⟩
  obtain ⟨a0, a1⟩ := fmod_in (a := at') hlen
  obtain ⟨k, hk⟩ : ∃ k : Nat, at'.fmod ((cells.map V.int).length : Int) = (k : Int) := ⟨(at'.fmod ((cells.map V.int).length : Int)).toNat, by omega⟩
  have hk2 : k < cells.length := by
    rw [hk, List.length_map] at a1
    omega
  have hget : (cells.map V.int)[k]? = some (.int cells[k]) := by
    rw [List.getElem?_map, List.getElem?_eq_getElem hk2]
    rfl
  refine ⟨_, rfl, _, rfl, _, _, _, _, rfl, rfl, SqL.of hc, by rw [hk]; exact atI_nat hget, ?_⟩
  refine ⟨_, rfl, _, _, rfl, rfl, ⟨by decide, by decide, by decide⟩, _, _, rfl, rfl, _, rfl, ite2 (fun c1 => ?_) (fun c1 => ?_)⟩
  · refine ⟨_, rfl, _, rfl, _, _, rfl, rfl, ⟨by omega, by omega⟩, ?_⟩
    refine ⟨_, rfl, _, rfl, c, _, _, k, rfl, rfl, hc, by rw [hk]; exact ixN_nat (by rw [List.length_map]; exact hk2), ?_⟩
    refine ⟨_, rfl, _, rfl, _, _, rfl, rfl, by omega, ?_⟩
    obtain ⟨r0, r1⟩ := fmod_in (a := cells[k]) hn0
    refine q _ _ r0 r1 ⟨fun a o n1 n2 h => by rw [upd_ne n2]; exact h, cells.set k (cells[k].fdiv n), at', mix, by rw [upd_ne cd.symm]; exact hd, ?_, by rw [List.length_set]; exact hl, by rw [List.length_set]; exact hl63, hm0, hm⟩
    rw [upd_same, List.map_set]
  · refine ⟨_, rfl, _, _, _, _, rfl, rfl, SqL.of hd, atI_nat (j := 1) rfl, _, _, rfl, rfl, _, rfl, d, _, _, 1, rfl, rfl, hd, rfl, ?_⟩
    have hd1 : (upd H d (.lst ([.ref c, .int at', .int mix].set 1 (.int (at' + 1))))) d = some (.lst [.ref c, .int (at' + 1), .int mix]) := upd_same
    refine ⟨_, rfl, _, _, _, _, rfl, rfl, SqL.of hd1, atI_nat (j := 2) rfl, _, _, rfl, rfl, .inl ⟨by omega, by omega⟩, _, rfl, _, _, rfl, rfl, _, _, rfl, rfl, _, _, rfl, rfl, (show (2147483647 : Int) ≠ 0 by decide), _, rfl, d, _, _, 2, rfl, rfl, hd1, rfl, ?_⟩
    obtain ⟨x0, x1⟩ := fmod_in (a := mix * 48271 + cells[k] + 12345) (b := 2147483647) (by decide)
    have hd2 : (upd (upd H d (.lst ([.ref c, .int at', .int mix].set 1 (.int (at' + 1))))) d (.lst ([.ref c, .int (at' + 1), .int mix].set 2 (.int ((mix * 48271 + cells[k] + 12345).fmod 2147483647))))) d = some (.lst [.ref c, .int (at' + 1), .int ((mix * 48271 + cells[k] + 12345).fmod 2147483647)]) := upd_same
    refine ⟨_, rfl, _, _, _, _, rfl, rfl, SqL.of hd2, atI_nat (j := 2) rfl, _, rfl, _, _, _, _, rfl, rfl, SqL.of hd2, atI_nat (j := 2) rfl, _, _, rfl, rfl, .inl ⟨by omega, by omega⟩, _, _, rfl, rfl, (show (2147483629 : Int) ≠ 0 by decide), _, _, rfl, rfl, (show (16 : Int) ≠ 0 ∧ (16 : Int).natAbs < 1073741824 by decide), _, rfl, _, _, rfl, rfl, by omega, ?_⟩
    obtain ⟨r0, r1⟩ := fmod_in (a := ((((mix * 48271 + cells[k] + 12345).fmod 2147483647) * ((mix * 48271 + cells[k] + 12345).fmod 2147483647)).fmod 2147483629).fdiv 16) hn0
    refine q _ _ r0 r1 ⟨fun a o n1 n2 h => by rw [upd_ne n1, upd_ne n1]; exact h, cells, at' + 1, _, hd2, by rw [upd_ne cd, upd_ne cd]; exact hc, hl, hl63, x0, x1⟩
end
end Kt
namespace Kt
open PySem PySem.Spec PyProof.Rows L2
/-! ### texts that grow -/
theorem app_list (x y : Str) : (x ++ y).cps.toList = x.cps.toList ++ y.cps.toList := Array.toList_append
theorem app_len (x y : Str) : (x ++ y).length = x.length + y.length := Array.size_append
theorem len_list (x : Str) : x.length = x.cps.toList.length := rfl
theorem LS_list : LS.cps.toList = [97, 98, 99, 100, 101, 102, 103, 104, 105, 106, 107, 108, 109, 110, 111, 112, 113, 114, 115, 116, 117, 118, 119, 120, 121, 122] := by decide +kernel
theorem lowc_lt {c : Nat} (h : lowc c = true) : c < 1114112 := by
  have h1 : c ∈ LS.cps.toList := of_decide_eq_true h
  rw [LS_list] at h1
  simp only [List.mem_cons, List.not_mem_nil, or_false] at h1
  omega
theorem isW_of {z : Str} {m : Int} (h1 : 1 ≤ z.length) (h2 : (z.length : Int) ≤ m) (h : z.cps.toList.all lowc = true) : isW z m = true := by
  unfold isW
  rw [h, decide_eq_true (by omega : 1 ≤ (z.length : Int)), decide_eq_true h2]
  rfl
theorem isW_out {z : Str} {m : Int} (h : isW z m = true) : 1 ≤ z.length ∧ (z.length : Int) ≤ m ∧ z.cps.toList.all lowc = true := by
  unfold isW at h
  simp only [Bool.and_eq_true, decide_eq_true_eq] at h
  exact ⟨by omega, h.2.1, h.2.2⟩
theorem okS_low {z : Str} (h : z.cps.toList.all lowc = true) : okS z := fun c hc => lowc_lt (List.all_eq_true.mp h c hc)
theorem isW_rep {z : Str} {m : Int} {H : Hp} (h : isW z m = true) (hm : m ≤ 100) : Rep H (.str z) (.str z) := by
  obtain ⟨_, h2, h3⟩ := isW_out h
  exact .str z (by omega) (okS_low h3)
theorem str_ext {x y : Str} (h : x.cps.toList = y.cps.toList) : x = y := by
  cases x with | mk a => cases y with | mk b => exact congrArg Str.mk (Array.toList_inj.mp h)
/-- a hole's text: a question mark, then one to four letters -/
theorem isHl_of {z : Str} {l : List Nat} (e : z.cps.toList = 63 :: l) (h1 : 1 ≤ l.length) (h2 : l.length ≤ 4) (h : l.all lowc = true) : isHl z = true := by
  have hl : z.length = l.length + 1 := by rw [len_list, e, List.length_cons]
  have e1 : cutS z none (some 1) = ("?" : Str) := by
    apply str_ext
    show (z.cps.toList.drop (HT.sIx z.length 0 none)).take (HT.sIx z.length z.length (some ((1 : Nat) : Int)) - HT.sIx z.length 0 none) = _
    rw [HT.sIx_none, HT.sIx_nat, e, hl, Nat.min_eq_left (by omega)]
    rfl
  have e2 : (cutS z (some 1) none).cps.toList = l := by
    show (z.cps.toList.drop (HT.sIx z.length 0 (some ((1 : Nat) : Int)))).take (HT.sIx z.length z.length none - HT.sIx z.length 0 (some ((1 : Nat) : Int))) = l
    rw [HT.sIx_none, HT.sIx_nat, e, hl, Nat.min_eq_left (by omega)]
    show l.take (l.length + 1 - 1) = l
    rw [Nat.add_sub_cancel, List.take_length]
  unfold isHl
  rw [e1, decide_eq_true rfl, Bool.true_and]
  exact isW_of (by rw [len_list, e2]; exact h1) (by rw [len_list, e2]; omega) (by rw [e2]; exact h)
def sp_begin (K : PySem.W.Frag) : Sp := fun vs H Q _ => ∃ (a : Addr) (ns : List Int), vs = [.ref a] ∧ SqL K H a (ns.map V.int) ∧ ns.length ≤ 63 ∧ ∀ d c H', Same H H' → Dr d c H' → Q (.ref d) H'
def sp_pick : Sp := fun vs H Q _ => ∃ (d c p : Addr) (xs : List V), vs = [.ref d, .ref p] ∧ Dr d c H ∧ H p = some (.lst xs) ∧ p ≠ d ∧ p ≠ c ∧ 0 < xs.length ∧ xs.length ≤ 1000 ∧ ∀ v H', v ∈ xs → DU d c H H' → Q v H'
def sp_word : Sp := fun vs H Q _ => ∃ (d c : Addr), vs = [.ref d] ∧ Dr d c H ∧ ∀ z H', isW z 8 = true → DU d c H H' → Q (.str z) H'
def sp_hole : Sp := fun vs H Q _ => ∃ (d c : Addr), vs = [.ref d] ∧ Dr d c H ∧ ∀ z H', isHl z = true → z.length ≤ 5 → okS z → DU d c H H' → Q (.str z) H'
section
variable {P : Program} {w : World} {K : PySem.W.Frag} {mg : Str → Option Value} {base : Heap}
theorem c__law_begin (T : Tx K mg) : Cl P w K mg base CX0 1 "_law_begin" ["_law_script"] (sp_begin K) := by
  refine Cl.mk0 T.d__law_begin sc__law_begin (fun vs H Q E h => ?_) (fun f cdv A outer s H vs Q E hr h => ?_)
  · obtain ⟨a, ns, rfl, _⟩ := h
    rfl
  obtain ⟨a, ns, rfl, hS, hl, q⟩ := h
  refine ⟨_, (pss_cons (ps_setLc (i := 1) (own := [("_law_cell", 2)]) (g := gName 2) (tt := tYes) rfl sc__law_begin.nd rfl rfl (sw_true rfl rfl rfl (by decide +kernel)) (pi_list (pe_slice sl_list (pv 0) po_no (po_some pe_int))) (blkOk_by (own := [("_law_cell", 2)]) (N := ["_law_script", "_law_cells", "_law_cell"]) (sc := defScope s__law_begin) (by decide +kernel)) (fun _ _ _ _ _ => (pg_name (i := 2) sc__law_begin.nd rfl (Or.inl rfl))) (fun _ _ _ _ _ => pts_nil) (fun _ _ _ _ _ => (pe_callB call_abs (by rfl) T.z_abs (by decide +kernel) (pa_cons (pv 2) pa_nil))))
    (pss_cons (ps_if (pt_cmpR (op_eqD hr.units) (pv 1) (pe_lst pa_nil) (nomark _))
      (pss_one (ps_set (i := 1) sc__law_begin.nd rfl (Or.inl rfl) (pe_lst (pa_cons pe_int pa_nil))))
      pss_nil)
    (pss_one (ps_ret (pe_lst (pa_cons (pv 1) (pa_cons pe_int (pa_cons pe_int pa_nil)))))))), ?_⟩
  refine ⟨_, rfl, 63, rfl, a, _, rfl, hS, fun p hp => ⟨p, rfl, ⟨_, SqL.of upd_same⟩, fun D hD => ?_⟩⟩
  have hlen : (cutV (ns.map V.int) none (some 63)).length = ns.length := by
    rw [show cutV (ns.map V.int) none (some 63) = (ns.map V.int).take 63 from cutV_hi _ 63, List.length_take, List.length_map]
    omega
  have hget : ∀ i, i < ns.length → (cutV (ns.map V.int) none (some 63))[i]? = some (.int (ns.getD i 0)) := fun i hi => by
    rw [show cutV (ns.map V.int) none (some 63) = (ns.map V.int).take 63 from cutV_hi _ 63, List.getElem?_take, if_pos (by omega), List.getElem?_map, List.getD_eq_getElem?_getD, List.getElem?_eq_getElem hi]
    rfl
  refine lc_pure walk_list (fun i => .int (if ns.getD i 0 < 0 then - ns.getD i 0 else ns.getD i 0)) hD (by omega) (fun H' s' => SqL.of (s' _ _ upd_same)) (fun x => rfl) (fun i x H1 H2 hi s1 y => ?_) (fun H1 s1 e1 => ?_)
  · obtain ⟨rfl, hx⟩ := y
    rw [hlen] at hi
    rw [hget i hi] at hx
    cases hx
    exact ⟨Same.refl _, fun Q' q' => ⟨_, rfl, _, rfl, q' _ (Same.refl _)⟩⟩
  · have s2 : Same H H1 := (same_new hp _).trans s1
    rw [hlen] at e1
    have e2 : H1 D = some (.lst (((List.range ns.length).map fun i => if ns.getD i 0 < 0 then - ns.getD i 0 else ns.getD i 0).map V.int)) := by
      rw [e1, List.map_map]
      rfl
    generalize hg : ((List.range ns.length).map fun i => if ns.getD i 0 < 0 then - ns.getD i 0 else ns.getD i 0) = ms at e2
    have hms : ms.length = ns.length := by rw [← hg, List.length_map, List.length_range]
    refine ⟨_, rfl, Nat.zero_le _, fun p2 hp2 => ⟨_, _, .lst (SqL.of (same_new hp2 _ _ _ e2)) (dpInts ms), .lst (SqL.of upd_same) .nil, shapedInts ms, shapedInts [], _, rfl, ?_⟩⟩
    have s3 : Same H1 (upd H1 p2 (.lst [])) := same_new hp2 _
    rw [eqvNil]
    refine ite2 (fun c1 => ?_) (fun c1 => ?_)
    · refine ⟨by show 1 ≤ sizeLine; decide, fun p3 hp3 => ⟨_, rfl, by show 3 ≤ sizeLine; decide, fun p4 hp4 => ?_⟩⟩
      have s4 := (s2.trans s3).trans ((same_new hp3 (.lst [V.int 7])).trans (same_new hp4 (.lst [V.ref p3, V.int 0, V.int 1])))
      exact q p4 p3 _ s4 ⟨[7], 0, 1, upd_same, by rw [upd_ne (ne_of_none upd_same hp4)]; exact upd_same, by decide, by decide, by decide, by decide⟩
    · refine ⟨_, rfl, by show 3 ≤ sizeLine; decide, fun p4 hp4 => ?_⟩
      have s4 := (s2.trans s3).trans (same_new hp4 (.lst [V.ref D, V.int 0, V.int 1]))
      have : 0 < ms.length := by
        cases ms with
        | nil => exact absurd rfl c1
        | cons a b => exact Nat.succ_pos _
      exact q p4 D _ s4 ⟨ms, 0, 1, upd_same, same_new hp4 _ _ _ (s3 _ _ e2), this, by omega, by decide, by decide⟩
theorem c__law_pick (T : Tx K mg) : Cl P w K mg base CX0 2 "_law_pick" ["_law_draw", "_law_some"] sp_pick := by
  refine Cl.mk0 T.d__law_pick sc__law_pick (fun vs H Q E h => ?_) (fun f cdv A outer s H vs Q E hr h => ?_)
  · obtain ⟨d, c, p, xs, rfl, _⟩ := h
    rfl
  obtain ⟨d, c, p, xs, rfl, hD, hp, n1, n2, h0, h1, q⟩ := h
  refine ⟨_, (pss_one (ps_ret (pe_ix ix_list (pv 1) (pe_cl (c__law_take T) hr (by omega) rfl (pa_cons (pv 0) (pa_cons (pe_callB call_len (by rfl) T.z_len (by decide +kernel) (pa_cons (pv 1) pa_nil)) pa_nil))) (fun _ _ => rfl)))), ?_⟩
  refine ⟨_, rfl, _, rfl, _, rfl, _, _, rfl, .inl ⟨_, SqL.of hp, rfl⟩, d, c, _, rfl, by omega, by omega, hD, fun r H' r0 r1 u => ?_⟩
  obtain ⟨k, rfl⟩ : ∃ k : Nat, r = (k : Int) := ⟨r.toNat, by omega⟩
  have hk : k < xs.length := by omega
  exact ⟨p, xs, _, xs[k], rfl, rfl, SqL.of (u.old _ _ n1 n2 hp), atI_nat (List.getElem?_eq_getElem hk), q _ _ (List.getElem_mem hk) u⟩
theorem c__law_word (T : Tx K mg) : Cl P w K mg base CX0 3 "_law_word" ["_law_draw"] sp_word := by
  refine Cl.mk0 T.d__law_word sc__law_word (fun vs H Q E h => ?_) (fun f cdv A outer s H vs Q E hr h => ?_)
  · obtain ⟨d, c, rfl, _⟩ := h
    rfl
  obtain ⟨d, c, rfl, hD, q⟩ := h
  have pick : ∀ (zs : List Str) (H1 : Hp), DU d c H H1 → zs.all (fun z => isW z 8) = true → ∀ v H', v ∈ zs.map V.str → DU d c H1 H' → Q v H' := fun zs H1 u hz v H' hv u' => by
    obtain ⟨z, hm, rfl⟩ := List.mem_map.mp hv
    exact q z H' (List.all_eq_true.mp hz z hm) (u.trans u')
  refine ⟨_, (pss_cons (ps_set (i := 1) sc__law_word.nd rfl (Or.inl rfl) (pe_cl (c__law_take T) hr (by omega) rfl (pa_cons (pv 0) (pa_cons pe_int pa_nil))))
    (pss_cons (ps_if (pt_cmpR op_lt (pv 1) pe_int (nomark _))
      (pss_one (ps_ret (pe_cl (c__law_pick T) hr (by omega) rfl (pa_cons (pv 0) (pa_cons (pe_lst (pa_cons pe_str (pa_cons pe_str (pa_cons pe_str (pa_cons pe_str pa_nil))))) pa_nil)))))
      pss_nil)
    (pss_cons (ps_if (pt_cmpR op_eq (pv 1) pe_int (nomark _))
      (pss_one (ps_ret (pe_cl (c__law_pick T) hr (by omega) rfl (pa_cons (pv 0) (pa_cons (pe_lst (pa_cons pe_str (pa_cons pe_str (pa_cons pe_str (pa_cons pe_str (pa_cons pe_str (pa_cons pe_str (pa_cons pe_str (pa_cons pe_str (pa_cons pe_str (pa_cons pe_str pa_nil))))))))))) pa_nil)))))
      pss_nil)
    (pss_cons (ps_set (i := 2) sc__law_word.nd rfl (Or.inl rfl) pe_str)
    (pss_cons (ps_for PassesOwn.never rfl (pi_range1 (by rfl) T.z_range (pa_cons (pe_op op_add pe_int (pe_cl (c__law_take T) hr (by omega) rfl (pa_cons (pv 0) (pa_cons pe_int pa_nil)))) pa_nil)) (pg_name (i := 3) sc__law_word.nd rfl (Or.inl rfl))
      (pss_one (ps_set (i := 2) sc__law_word.nd rfl (Or.inl rfl) (pe_op op_add_str (pv 2) (pe_ix ix_str pe_str (pe_cl (c__law_take T) hr (by omega) rfl (pa_cons (pv 0) (pa_cons pe_int pa_nil))) (fun _ _ => rfl))))))
    (pss_one (ps_ret (pv 2)))))))), ?_⟩
  refine ⟨_, rfl, d, c, 6, rfl, by decide, by decide, hD, fun r H1 r0 r1 u1 => ?_⟩
  refine ⟨_, rfl, _, _, rfl, rfl, _, rfl, ite2 (fun c1 => ?_) (fun c1 => ?_)⟩
  · refine ⟨_, rfl, by show 4 ≤ sizeLine; decide, fun p hp => ?_⟩
    obtain ⟨n1, n2⟩ := u1.dr.new hp
    exact ⟨d, c, p, _, rfl, u1.dr.same (same_new hp _), upd_same, n1, n2, by decide, by decide, pick ["a", "b", "f", "g"] _ (u1.then (same_new hp _)) (by decide +kernel)⟩
  refine ⟨_, rfl, rfl, _, rfl, ite2 (fun c2 => ?_) (fun c2 => ?_)⟩
  · refine ⟨_, rfl, by show 10 ≤ sizeLine; decide, fun p hp => ?_⟩
    obtain ⟨n1, n2⟩ := u1.dr.new hp
    exact ⟨d, c, p, _, rfl, u1.dr.same (same_new hp _), upd_same, n1, n2, by decide, by decide, pick ["told", "back", "then", "parts", "same", "like", "put", "rule", "hole", "z"] _ (u1.then (same_new hp _)) (by decide +kernel)⟩
  refine ⟨_, rfl, d, c, 8, rfl, by decide, by decide, u1.dr, fun m H2 m0 m1 u2 => ⟨_, _, rfl, rfl, _, rfl, by omega, by omega, ?_⟩⟩
  refine for_range (lo := 0) (n := (1 + m).toNat) (fun i σ H' => ∃ z y, σ = [some (.ref d), some (.int r), some (.str z), y] ∧ z.length = i ∧ z.cps.toList.all lowc = true ∧ DU d c H H') ⟨"", none, rfl, rfl, rfl, u1.trans u2⟩ (fun i σ H' hi h' => ?_) (fun σ H' h' => ?_)
  · obtain ⟨z, y, rfl, hz, hlo, u⟩ := h'
    refine ⟨_, rfl, _, rfl, d, c, 26, rfl, by decide, by decide, u.dr, fun k H3 k0 k1 u3 => ?_⟩
    obtain ⟨j, rfl⟩ : ∃ j : Nat, k = (j : Int) := ⟨k.toNat, by omega⟩
    have hj : j < LS.cps.toList.length := by
      rw [LS_list]
      show j < 26
      omega
    refine ⟨LS, _, LS.cps.toList[j], rfl, rfl, by decide +kernel, atI_nat (List.getElem?_eq_getElem hj), _, _, rfl, rfl, ?_, _, some (.int (0 + (i : Int))), rfl, ?_, ?_, u.trans u3⟩
    · show z.length + 1 ≤ sizeLine
      exact small1000 (n := z.length) (by omega)
    · rw [app_len, hz]
      rfl
    · rw [app_list, List.all_append, hlo, Bool.true_and]
      show (lowc LS.cps.toList[j] && true) = true
      rw [Bool.and_true]
      exact decide_eq_true (List.getElem_mem hj)
  · obtain ⟨z, y, rfl, hz, hlo, u⟩ := h'
    exact ⟨_, rfl, q z H' (isW_of (by omega) (by omega) hlo) u⟩
theorem c__law_hole (T : Tx K mg) : Cl P w K mg base CX0 3 "_law_hole" ["_law_draw"] sp_hole := by
  refine Cl.mk0 T.d__law_hole sc__law_hole (fun vs H Q E h => ?_) (fun f cdv A outer s H vs Q E hr h => ?_)
  · obtain ⟨d, c, rfl, _⟩ := h
    rfl
  obtain ⟨d, c, rfl, hD, q⟩ := h
  have fin : ∀ z H' l, z.cps.toList = 63 :: l → 1 ≤ l.length → l.length ≤ 4 → l.all lowc = true → DU d c H H' → Q (.str z) H' := fun z H' l e h1 h2 h3 u =>
    q z H' (isHl_of e h1 h2 h3) (by rw [len_list, e, List.length_cons]; omega) (fun x hx => by
      rw [e] at hx
      rcases List.mem_cons.mp hx with rfl | hx
      · decide
      · exact lowc_lt (List.all_eq_true.mp h3 x hx)) u
  refine ⟨_, (pss_cons (ps_if (pt_cmpR op_gt (pe_cl (c__law_take T) hr (by omega) rfl (pa_cons (pv 0) (pa_cons pe_int pa_nil))) pe_int (nomark _))
      (pss_one (ps_ret (pe_cl (c__law_pick T) hr (by omega) rfl (pa_cons (pv 0) (pa_cons (pe_lst (pa_cons pe_str (pa_cons pe_str (pa_cons pe_str pa_nil)))) pa_nil)))))
      pss_nil)
    (pss_cons (ps_set (i := 1) sc__law_hole.nd rfl (Or.inl rfl) pe_str)
    (pss_cons (ps_for PassesOwn.never rfl (pi_range1 (by rfl) T.z_range (pa_cons (pe_op op_add pe_int (pe_cl (c__law_take T) hr (by omega) rfl (pa_cons (pv 0) (pa_cons pe_int pa_nil)))) pa_nil)) (pg_name (i := 2) sc__law_hole.nd rfl (Or.inl rfl))
      (pss_one (ps_set (i := 1) sc__law_hole.nd rfl (Or.inl rfl) (pe_op op_add_str (pv 1) (pe_ix ix_str pe_str (pe_cl (c__law_take T) hr (by omega) rfl (pa_cons (pv 0) (pa_cons pe_int pa_nil))) (fun _ _ => rfl))))))
    (pss_one (ps_ret (pv 1)))))), ?_⟩
  refine ⟨_, rfl, d, c, 4, rfl, by decide, by decide, hD, fun r H1 r0 r1 u1 => ?_⟩
  refine ⟨_, _, rfl, rfl, _, rfl, ite2 (fun c1 => ?_) (fun c1 => ?_)⟩
  · refine ⟨_, rfl, by show 3 ≤ sizeLine; decide, fun p hp => ?_⟩
    obtain ⟨n1, n2⟩ := u1.dr.new hp
    refine ⟨d, c, p, _, rfl, u1.dr.same (same_new hp _), upd_same, n1, n2, by decide, by decide, fun v H' hv u' => ?_⟩
    have u := (u1.then (same_new hp _)).trans u'
    have hv' : v = .str "?x" ∨ v = .str "?y" ∨ v = .str "?z" := by simpa using hv
    rcases hv' with rfl | rfl | rfl
    · exact fin _ _ [120] (by decide +kernel) (by decide) (by decide) (by decide +kernel) u
    · exact fin _ _ [121] (by decide +kernel) (by decide) (by decide) (by decide +kernel) u
    · exact fin _ _ [122] (by decide +kernel) (by decide) (by decide) (by decide +kernel) u
  refine ⟨_, rfl, d, c, 4, rfl, by decide, by decide, u1.dr, fun m H2 m0 m1 u2 => ⟨_, _, rfl, rfl, _, rfl, by omega, by omega, ?_⟩⟩
  refine for_range (lo := 0) (n := (1 + m).toNat) (fun i σ H' => ∃ z y l, σ = [some (.ref d), some (.str z), y] ∧ z.cps.toList = 63 :: l ∧ l.length = i ∧ l.all lowc = true ∧ DU d c H H') ⟨"?", none, [], rfl, by decide +kernel, rfl, rfl, u1.trans u2⟩ (fun i σ H' hi h' => ?_) (fun σ H' h' => ?_)
  · obtain ⟨z, y, l, rfl, hz, hl, hlo, u⟩ := h'
    refine ⟨_, rfl, _, rfl, d, c, 26, rfl, by decide, by decide, u.dr, fun k H3 k0 k1 u3 => ?_⟩
    obtain ⟨j, rfl⟩ : ∃ j : Nat, k = (j : Int) := ⟨k.toNat, by omega⟩
    have hj : j < LS.cps.toList.length := by
      rw [LS_list]
      show j < 26
      omega
    have hzl : z.length = l.length + 1 := by rw [len_list, hz, List.length_cons]
    refine ⟨LS, _, LS.cps.toList[j], rfl, rfl, by decide +kernel, atI_nat (List.getElem?_eq_getElem hj), _, _, rfl, rfl, ?_, _, some (.int (0 + (i : Int))), l ++ [LS.cps.toList[j]], rfl, ?_, ?_, ?_, u.trans u3⟩
    · show z.length + 1 ≤ sizeLine
      exact small1000 (n := z.length) (by omega)
    · rw [app_list, hz]
      rfl
    · rw [List.length_append, hl]
      rfl
    · rw [List.all_append, hlo, Bool.true_and]
      show (lowc LS.cps.toList[j] && true) = true
      rw [Bool.and_true]
      exact decide_eq_true (List.getElem_mem hj)
  · obtain ⟨z, y, l, rfl, hz, hl, hlo, u⟩ := h'
    exact ⟨_, rfl, fin z H' l hz (by omega) (by omega) hlo u⟩
end
end Kt
namespace Kt
open PySem PySem.Spec PyProof.Rows L2
/-! ### patterns, as told -/
mutual
def Th.shape (h : Bool) : Th → Bool
  | .str z => h && isHl z
  | .tup l => shapeT h l
  | _ => false
/-- a tuple's items: a name, then parts -/
def shapeT (h : Bool) : List Th → Bool
  | [] => false
  | x :: ps => decide (ps.length < 4) && (x.word 8 && shapeL h ps)
def shapeL (h : Bool) : List Th → Bool
  | [] => true
  | p :: ps => p.shape h && shapeL h ps
end
mutual
def Th.size : Th → Int
  | .tup l => sizeT l
  | _ => 1
def sizeT : List Th → Int
  | [] => 1
  | _ :: ps => 1 + sizeL ps
def sizeL : List Th → Int
  | [] => 0
  | p :: ps => p.size + sizeL ps
end
mutual
def Th.dep : Th → Nat
  | .tup l => depT l
  | _ => 1
def depT : List Th → Nat
  | [] => 1
  | _ :: ps => 1 + depL ps
def depL : List Th → Nat
  | [] => 0
  | p :: ps => max p.dep (depL ps)
end
mutual
/-- how deep a thing's tuples lie -/
def Th.hgt : Th → Nat
  | .tup l => 1 + hgtL l
  | _ => 0
def hgtL : List Th → Nat
  | [] => 0
  | p :: ps => max p.hgt (hgtL ps)
end
theorem hgtL_le {m : Nat} : ∀ {l : List Th}, hgtL l ≤ m ↔ ∀ p ∈ l, p.hgt ≤ m
  | [] => ⟨fun _ _ h => (List.not_mem_nil h).elim, fun _ => Nat.zero_le _⟩
  | p :: ps => by
    show max p.hgt (hgtL ps) ≤ m ↔ _
    have ih := hgtL_le (m := m) (l := ps)
    constructor
    · intro h q hq
      rcases List.mem_cons.mp hq with rfl | hq
      · omega
      · exact ih.mp (by omega) q hq
    · intro h
      have h1 := h p (List.mem_cons_self ..)
      have h2 := ih.mpr fun q hq => h q (List.mem_cons_of_mem _ hq)
      omega
theorem shapeL_iff {h : Bool} : ∀ {l : List Th}, shapeL h l = true ↔ ∀ p ∈ l, p.shape h = true
  | [] => ⟨fun _ _ h => (List.not_mem_nil h).elim, fun _ => rfl⟩
  | p :: ps => by
    show (p.shape h && shapeL h ps) = true ↔ _
    rw [Bool.and_eq_true, shapeL_iff (l := ps)]
    constructor
    · rintro ⟨h1, h2⟩ q hq
      rcases List.mem_cons.mp hq with rfl | hq
      · exact h1
      · exact h2 q hq
    · exact fun h => ⟨h p (List.mem_cons_self ..), fun q hq => h q (List.mem_cons_of_mem _ hq)⟩
/-- a tuple of the shape has its items so -/
theorem shape_tup {h : Bool} {l : List Th} (e : (Th.tup l).shape h = true) : ∃ z ps, l = .str z :: ps ∧ ps.length < 4 ∧ isW z 8 = true ∧ ∀ p ∈ ps, p.shape h = true := by
  have e : shapeT h l = true := e
  cases l with
  | nil => cases e
  | cons x ps =>
    have e : (decide (ps.length < 4) && (x.word 8 && shapeL h ps)) = true := e
    simp only [Bool.and_eq_true, decide_eq_true_eq] at e
    obtain ⟨h1, h2, h3⟩ := e
    cases x with
    | str z => exact ⟨z, ps, rfl, h1, h2, shapeL_iff.mp h3⟩
    | _ => cases h2
theorem shape_of {h : Bool} {z : Str} {ps : List Th} (h1 : ps.length < 4) (h2 : isW z 8 = true) (h3 : ∀ p ∈ ps, p.shape h = true) : (Th.tup (.str z :: ps)).shape h = true := by
  show (decide (ps.length < 4) && ((Th.str z).word 8 && shapeL h ps)) = true
  rw [decide_eq_true h1, shapeL_iff.mpr h3]
  show (true && (isW z 8 && true)) = true
  rw [h2]
  rfl
/-! ### the law's word and the program's -/
def due (h : Bool) (t : Th) : Bool := t.shape h && (decide (t.size < 31) && decide ((t.dep : Int) < 6))
mutual
theorem size_pos : ∀ t : Th, 1 ≤ t.size
  | .tup [] => Int.le_refl 1
  | .tup (_ :: ps) => by
    have := sizeL_pos ps
    show 1 ≤ 1 + sizeL ps
    omega
  | .non | .bl _ | .int _ | .str _ | .ls | .dc => Int.le_refl 1
theorem sizeL_pos : ∀ l : List Th, 0 ≤ sizeL l
  | [] => Int.le_refl 0
  | p :: ps => by
    have h1 := size_pos p
    have h2 := sizeL_pos ps
    show 0 ≤ p.size + sizeL ps
    omega
end
theorem dep_pos (t : Th) : 1 ≤ t.dep := by
  cases t with
  | tup l =>
    cases l with
    | nil => exact Nat.le_refl 1
    | cons x ps => exact Nat.le_add_right 1 (depL ps)
  | _ => exact Nat.le_refl 1
theorem hole_shape {t : Th} (h : t.hole = true) (b : Bool) : t.shape b = b ∧ t.size = 1 ∧ t.dep = 1 := by
  cases t with
  | str z =>
    refine ⟨?_, rfl, rfl⟩
    show (b && isHl z) = b
    rw [show isHl z = true from h, Bool.and_true]
  | _ => cases h
/-- what the program's walk tells -/
theorem sw_eq (b : Bool) : ∀ (d : Nat) (t : Th), sw b d t = if t.shape b = true ∧ t.dep ≤ d then t.size else 0
  | 0, t => by
    have := dep_pos t
    rw [if_neg (fun h => by omega)]
    rfl
  | d + 1, t => by
    unfold sw
    by_cases hh : t.hole = true
    · obtain ⟨e1, e2, e3⟩ := hole_shape hh b
      rw [if_pos hh, e1, e2, e3]
      cases b with
      | true => rw [if_pos rfl, if_pos ⟨rfl, by omega⟩]
      | false => rw [if_neg Bool.false_ne_true, if_neg fun h => by cases h.1]
    · rw [if_neg hh]
      have loop : ∀ (ps : List Th) (acc : Int), 1 ≤ acc → swl (sw b d) acc ps = if shapeL b ps = true ∧ depL ps ≤ d then acc + sizeL ps else 0 := by
        intro ps
        induction ps with
        | nil =>
          intro acc _
          rw [if_pos ⟨rfl, Nat.zero_le _⟩]
          show acc = acc + 0
          omega
        | cons p ps ih =>
          intro acc ha
          show (if sw b d p = 0 then 0 else swl (sw b d) (acc + sw b d p) ps) = _
          have hp := sw_eq b d p
          have sp := size_pos p
          by_cases c : p.shape b = true ∧ p.dep ≤ d
          · rw [if_pos c] at hp
            rw [hp, if_neg (by omega), ih (acc + p.size) (by omega)]
            by_cases c2 : shapeL b ps = true ∧ depL ps ≤ d
            · rw [if_pos c2, if_pos ⟨by show (p.shape b && shapeL b ps) = true; rw [c.1, c2.1]; rfl, by show max p.dep (depL ps) ≤ d; omega⟩]
              show acc + p.size + sizeL ps = acc + (p.size + sizeL ps)
              omega
            · rw [if_neg c2, if_neg]
              rintro ⟨h1, h2⟩
              have h1 : (p.shape b && shapeL b ps) = true := h1
              have h2 : max p.dep (depL ps) ≤ d := h2
              rw [Bool.and_eq_true] at h1
              exact c2 ⟨h1.2, by omega⟩
          · rw [if_neg c] at hp
            rw [hp, if_pos rfl, if_neg]
            rintro ⟨h1, h2⟩
            have h1 : (p.shape b && shapeL b ps) = true := h1
            have h2 : max p.dep (depL ps) ≤ d := h2
            rw [Bool.and_eq_true] at h1
            exact c ⟨h1.1, by omega⟩
      cases t with
      | tup l =>
        cases l with
        | nil => rw [if_neg fun h => by cases h.1]
        | cons x ps =>
          show (if ps.length ≤ 3 ∧ x.word 8 = true then swl (sw b d) 1 ps else 0) = if (decide (ps.length < 4) && (x.word 8 && shapeL b ps)) = true ∧ 1 + depL ps ≤ d + 1 then 1 + sizeL ps else 0
          rw [loop ps 1 (Int.le_refl 1)]
          by_cases c1 : ps.length ≤ 3 ∧ x.word 8 = true
          · rw [if_pos c1, c1.2, decide_eq_true (by omega : ps.length < 4), Bool.true_and, Bool.true_and]
            by_cases c2 : shapeL b ps = true ∧ depL ps ≤ d
            · rw [if_pos c2, if_pos ⟨c2.1, by omega⟩]
            · rw [if_neg c2, if_neg fun h => c2 ⟨h.1, by omega⟩]
          · rw [if_neg c1, if_neg]
            rintro ⟨h1, _⟩
            simp only [Bool.and_eq_true, decide_eq_true_eq] at h1
            exact c1 ⟨by omega, h1.2.1⟩
      | str z =>
        rw [if_neg]
        rintro ⟨h1, _⟩
        have h1 : (b && isHl z) = true := h1
        rw [Bool.and_eq_true] at h1
        exact hh h1.2
      | _ => rw [if_neg fun h => by cases h.1]
theorem within_due (b : Bool) (t : Th) : within b t = due b t := by
  unfold within due
  rw [sw_eq]
  have hs := size_pos t
  by_cases c : t.shape b = true ∧ t.dep ≤ 5
  · rw [if_pos c, c.1, decide_eq_true hs, decide_eq_true (by omega : (t.dep : Int) < 6), Bool.true_and, Bool.true_and, Bool.and_true]
    exact decide_eq_decide.mpr (by omega)
  · rw [if_neg c, decide_eq_false (by decide : ¬ (1 : Int) ≤ 0), Bool.false_and]
    by_cases c1 : t.shape b = true
    · rw [c1, decide_eq_false (fun h => c ⟨c1, by omega⟩ : ¬ (t.dep : Int) < 6), Bool.and_false, Bool.and_false]
    · rw [Bool.eq_false_iff.mpr c1, Bool.false_and]
theorem range_map_getD {α β : Type} (d : α) (l : List α) (g : α → β) : ((List.range l.length).map fun i => g (l.getD i d)) = l.map g := by
  apply List.ext_getElem
  · rw [List.length_map, List.length_map, List.length_range]
  · intro i h1 h2
    rw [List.length_map, List.length_range] at h1
    rw [List.getElem_map, List.getElem_map, List.getElem_range, List.getD_eq_getElem?_getD, List.getElem?_eq_getElem h1]
    rfl
/-- a comprehension over the parts of a tuple, each told by f -/
theorem lc_parts {K : PySem.W.Frag} {H0 : Hp} {p D : Addr} {ys : List V} {ps : List Th} {σ : L2.St} {vs : List Nat} {j : Nat} {Qd : Hp → Prop} {te : TE} (f : Th → V) (hp : H0 p = some (.tup ys)) (hr : RepL H0 ys ps) (hn : ys.length ≤ 100) (hD : H0 D = none)
    (hset : ∀ x, wipe ((wipe σ vs).set j (some x)) vs = wipe σ vs) (he : ∀ x t H', Same H0 H' → t ∈ ps → Rep H' x t → ∀ Q : VK, (∀ H2, Same H' H2 → Q (f t) H2) → te ((wipe σ vs).set j (some x)) H' Q)
    (hd : ∀ H', Same H0 H' → H' D = some (.lst (ps.map f)) → Qd H') :
    ∃ W : Nat → Nat → Hp → Prop, (∃ m, W 0 m (upd H0 D (.lst []))) ∧ ∀ i m H, W i m H →
      ((Itt K p).stop i H ∧ Qd H) ∨ ((Itt K p).go i H ∧ ∃ Nx : Hp → Prop, (∀ H', Nx H' → ∃ m', m' < m ∧ W (i + 1) m' H') ∧ ∀ x H', (Itt K p).yld i H x H' → gName j x (wipe σ vs) H' fun σ2 H2 => wipe σ2 vs = wipe σ vs ∧ tYes σ2 H2 fun b H3 =>
        if b = true then te σ2 H3 fun y H4 => ∃ acc, H4 D = some (.lst acc) ∧ acc.length < sizeLine ∧ Nx (upd H4 D (.lst (acc ++ [y]))) else Nx H3) := by
  have hl := hr.length
  refine lc_pure (walk_tup (K := K)) (fun i => f (ps.getD i .non)) hD (by omega) (fun H' s' => SqT.of (s' _ _ hp)) hset (fun i x H H' hi s1 y => ?_) (fun H' s' e => hd H' s' ?_)
  · obtain ⟨rfl, hx⟩ := y
    obtain ⟨t, ht, rt⟩ := (hr.wk (Wk.same s1)).get' hx
    refine ⟨Same.refl _, fun Q q => ?_⟩
    have e : ps.getD i .non = t := by rw [List.getD_eq_getElem?_getD, ht]; rfl
    rw [e] at q
    exact he x t _ s1 (List.mem_of_getElem? ht) rt Q q
  · rw [e, hl, range_map_getD]
theorem hgt_part {m : Nat} {l : List Th} (h : (Th.tup l).hgt < m + 1) : ∀ p ∈ l, p.hgt < m := fun p hp => by
  have h : 1 + hgtL l < m + 1 := h
  have := hgtL_le.mp (Nat.le_refl (hgtL l)) p hp
  omega
theorem all_map {ps : List Th} {b : Bool} : (ps.map fun t => t.shape b).all id = shapeL b ps := by
  induction ps with
  | nil => rfl
  | cons p ps ih =>
    rw [List.map_cons, List.all_cons, ih]
    rfl
theorem sum_map {ps : List Th} : (ps.map fun t => t.size).sum = sizeL ps := by
  induction ps with
  | nil => rfl
  | cons p ps ih =>
    rw [List.map_cons, List.sum_cons, ih]
    rfl
theorem max_map {ps : List Th} {m : Int} (h1 : m ∈ ps.map fun t => (t.dep : Int)) (h2 : ∀ y ∈ ps.map (fun t => (t.dep : Int)), y ≤ m) : m = (depL ps : Int) := by
  have g : ∀ l : List Th, (∀ t ∈ l, (t.dep : Int) ≤ m) → (depL l : Int) ≤ m ∨ l = [] := by
    intro l
    induction l with
    | nil => exact fun _ => .inr rfl
    | cons p ps ih =>
      intro h
      have a := h p (List.mem_cons_self ..)
      rcases ih fun t ht => h t (List.mem_cons_of_mem _ ht) with b | b
      · left
        show ((max p.dep (depL ps) : Nat) : Int) ≤ m
        omega
      · left
        subst b
        show ((max p.dep 0 : Nat) : Int) ≤ m
        omega
  have g2 : ∀ l : List Th, ∀ t ∈ l, t.dep ≤ depL l := by
    intro l
    induction l with
    | nil => exact fun t h => (List.not_mem_nil h).elim
    | cons p ps ih =>
      intro t h
      show t.dep ≤ max p.dep (depL ps)
      rcases List.mem_cons.mp h with rfl | h
      · omega
      · have := ih t h
        omega
  obtain ⟨t, ht, rfl⟩ := List.mem_map.mp h1
  have a := g2 ps t ht
  rcases g ps fun u hu => h2 _ (List.mem_map.mpr ⟨u, hu, rfl⟩) with b | b
  · omega
  · subst b
    exact (List.not_mem_nil ht).elim
theorem within_iff {b : Bool} {t : Th} : within b t = true ↔ t.shape b = true ∧ t.dep ≤ 5 ∧ t.size ≤ 30 := by
  rw [within_due]
  unfold due
  rw [Bool.and_eq_true, Bool.and_eq_true, decide_eq_true_eq, decide_eq_true_eq]
  constructor
  · rintro ⟨h1, h2, h3⟩
    exact ⟨h1, by omega, by omega⟩
  · rintro ⟨h1, h2, h3⟩
    exact ⟨h1, by omega, by omega⟩
mutual
theorem hgt_dep {b : Bool} : ∀ t : Th, t.shape b = true → t.hgt ≤ t.dep
  | .str z, _ => Nat.zero_le _
  | .tup [], h => by cases h
  | .tup (x :: ps), h => by
    have h : (decide (ps.length < 4) && (x.word 8 && shapeL b ps)) = true := h
    simp only [Bool.and_eq_true, decide_eq_true_eq] at h
    have h2 := hgtL_dep ps h.2.2
    have h3 : x.hgt = 0 := by
      cases x with
      | str z => rfl
      | _ => cases h.2.1
    show 1 + max x.hgt (hgtL ps) ≤ 1 + depL ps
    omega
  | .non, h | .bl _, h | .int _, h | .ls, h | .dc, h => by cases h
theorem hgtL_dep {b : Bool} : ∀ l : List Th, shapeL b l = true → hgtL l ≤ depL l
  | [], _ => Nat.le_refl 0
  | p :: r, h => by
    have h : (p.shape b && shapeL b r) = true := h
    rw [Bool.and_eq_true] at h
    have h1 := hgt_dep p h.1
    have h2 := hgtL_dep r h.2
    show max p.hgt (hgtL r) ≤ max p.dep (depL r)
    omega
end
theorem size_part {p : Th} : ∀ {l : List Th}, p ∈ l → p.size ≤ sizeL l
  | q :: r, h => by
    show p.size ≤ q.size + sizeL r
    rcases List.mem_cons.mp h with rfl | h
    · have := sizeL_pos r
      omega
    · have h1 := size_part h
      have := size_pos q
      omega
end Kt
namespace Kt
open PySem PySem.Spec PyProof.Rows L2
theorem depL_le {m : Nat} : ∀ {l : List Th}, (∀ t ∈ l, t.dep ≤ m) → depL l ≤ m
  | [], _ => Nat.zero_le _
  | p :: ps, h => by
    have h1 := h p (List.mem_cons_self ..)
    have h2 := depL_le (l := ps) fun t ht => h t (List.mem_cons_of_mem _ ht)
    show max p.dep (depL ps) ≤ m
    omega
/-- a pattern of at most n levels -/
def sp_pattern (n : Nat) : Sp := fun vs H Q _ => ∃ (d c : Addr) (left : Nat) (b : Bool), vs = [.ref d, .int (left : Int), .bl b] ∧ 1 ≤ left ∧ left ≤ n ∧ Dr d c H ∧
  ∀ v t H', Rep H' v t → t.shape b = true → t.dep ≤ left → DU d c H H' → Q v H'
theorem RepL.mem {H : Hp} : ∀ {vs : List V} {ts : List Th} {v : V}, RepL H vs ts → v ∈ vs → ∃ t, t ∈ ts ∧ Rep H v t
  | _, _, _, .nil, h => (List.not_mem_nil h).elim
  | _, _, _, .cons h r, hm => by
    rcases List.mem_cons.mp hm with rfl | hm
    · exact ⟨_, List.mem_cons_self .., h⟩
    · obtain ⟨t, h1, h2⟩ := RepL.mem r hm
      exact ⟨t, List.mem_cons_of_mem _ h1, h2⟩
theorem RepL.one {H : Hp} {v : V} {t : Th} (h : Rep H v t) : RepL H [v] [t] := .cons h .nil
/-- a list changed is a list still -/
theorem Wk.lst_upd {H : Hp} {D : Addr} {xs : List V} (h : H D = some (.lst xs)) (ys : List V) : Wk H (upd H D (.lst ys)) :=
  ⟨fun a zs q => by rw [upd_ne (ne_of q h fun e => nomatch e)]; exact q, fun a zs q => by
    by_cases e : a = D
    · subst e
      exact ⟨_, upd_same⟩
    · exact ⟨zs, by rw [upd_ne e]; exact q⟩, fun a zs q => ⟨zs, by rw [upd_ne (ne_of q h fun e => nomatch e)]; exact q⟩⟩
/-- two tuples put together -/
theorem catA {K : PySem.W.Frag} {H : Hp} {a b : Addr} {xs ys : List V} {Q : VK} (ha : H a = some (.tup xs)) (hb : H b = some (.tup ys)) (hx : xs ≠ []) (hl : xs.length + ys.length ≤ 200) (q : ∀ p H', Same H H' → H' p = some (.tup (xs ++ ys)) → Q (.ref p) H') : rCatA K (.ref a) (.ref b) H Q := by
  refine ⟨a, b, xs, ys, rfl, rfl, SqT.of ha, SqT.of hb, Nat.le_of_lt (small1000 (by omega)), fun e => absurd e hx, fun _ e => ?_, fun _ _ p hp => q p _ (same_new hp _) upd_same⟩
  subst e
  exact q a H (Same.refl H) (by rw [List.append_nil]; exact ha)
section
variable {P : Program} {w : World} {K : PySem.W.Frag} {mg : Str → Option Value} {base : Heap}
theorem c__law_pattern_n (T : Tx K mg) : ∀ n : Nat, Cl P w K mg base CX0 (n + 3) "_law_pattern" ["_law_draw", "_law_left", "_law_holed"] (sp_pattern n)
  | 0 => Cl.no T.d__law_pattern fun vs H Q E h => by
    obtain ⟨d, c, left, b, _, h1, h2, _⟩ := h
    omega
  | n + 1 => by
    have ih := c__law_pattern_n T n
    refine Cl.mk0 T.d__law_pattern sc__law_pattern (fun vs H Q E h => ?_) (fun f cdv A outer s H vs Q E hr h => ?_)
    · obtain ⟨d, c, left, b, rfl, _⟩ := h
      rfl
    obtain ⟨d, c, left, b, rfl, h1, h2, hD, q⟩ := h
    refine ⟨_, (Evl.pss_cut (ps_if (PW.pt (pw_and (pt_val (pv 2)) (pw_and1 (pt_cmpR op_eq (pe_cl (c__law_take T) hr (by omega) rfl (pa_cons (pv 0) (pa_cons pe_int pa_nil))) pe_int (nomark _)))))
      (pss_one (ps_ret (pe_cl (c__law_hole T) hr (by omega) rfl (pa_cons (pv 0) pa_nil))))
      pss_nil)
    (Evl.pss_cut (ps_set (i := 3) sc__law_pattern.nd rfl (Or.inl rfl) (pe_ifExp (pt_cmpR op_gt (pv 1) pe_int (nomark _)) (pe_cl (c__law_take T) hr (by omega) rfl (pa_cons (pv 0) (pa_cons pe_int pa_nil))) pe_int))
    (pss_one (ps_ret (pe_callTy call_tuple_of (by rfl) T.z_tuple (by decide +kernel) (pa_cons (pe_op op_cat (pe_lst (pa_cons (pe_cl (c__law_word T) hr (by omega) rfl (pa_cons (pv 0) pa_nil)) pa_nil)) (pe_lc (own := [("_law_k", 4)]) (g := gName 4) (tt := tYes) rfl sc__law_pattern.nd (pi_range1 (by rfl) T.z_range (pa_cons (pv 3) pa_nil)) (blkOk_by (own := [("_law_k", 4)]) (N := ["_law_draw", "_law_left", "_law_holed", "_law_many", "_law_k"]) (sc := defScope s__law_pattern) (by decide +kernel)) (fun _ _ _ _ _ => (pg_name (i := 4) sc__law_pattern.nd rfl (Or.inl rfl))) (fun _ _ _ _ _ => pts_nil) (fun _ _ _ _ _ => (pe_cl ih hr (by omega) rfl (pa_cons (pv 0) (pa_cons (pe_op op_sub (pv 1) pe_int) (pa_cons (pv 2) pa_nil))))))) pa_nil)))))), ?_⟩
    refine ⟨fun σ' H' => σ' = [some (.ref d), some (.int (left : Int)), some (.bl b), none, none] ∧ DU d c H H', ?_, fun σ1 H1 h1' => ?_⟩
    · cases b with
      | false => exact ⟨_, rfl, _, rfl, iteF (iteF ⟨rfl, DU.refl hD⟩)⟩
      | true =>
        refine ⟨_, rfl, _, rfl, iteT ⟨_, rfl, d, c, 4, rfl, by decide, by decide, hD, fun r H1 r0 r1 u1 => ⟨rfl, _, rfl, ite2 (fun c1 => ?_) (fun c1 => ?_)⟩⟩⟩
        · exact ⟨_, rfl, d, c, rfl, u1.dr, fun z H2 hz hl ok u2 => q _ (.str z) H2 (.str z (by omega) ok) hz h1 (u1.trans u2)⟩
        · exact ⟨rfl, u1⟩
    obtain ⟨rfl, u1⟩ := h1'
    refine ⟨fun σ' H' => ∃ m : Int, σ' = [some (.ref d), some (.int (left : Int)), some (.bl b), some (.int m), none] ∧ 0 ≤ m ∧ m < 4 ∧ (m = 0 ∨ 1 < left) ∧ DU d c H H', ?_, fun σ2 H2 h2' => ?_⟩
    · refine ⟨_, rfl, _, _, rfl, rfl, _, rfl, ite2 (fun c1 => ?_) (fun c1 => ?_)⟩
      · have c1' : (1 : Int) < (left : Int) := of_decide_eq_true c1
        exact ⟨_, rfl, d, c, 4, rfl, by decide, by decide, u1.dr, fun r H2 r0 r1 u2 => ⟨r, rfl, r0, r1, .inr (by omega), u1.trans u2⟩⟩
      · exact ⟨0, rfl, by decide, by decide, .inl rfl, u1⟩
    obtain ⟨m, rfl, m0, m4, hm, u2⟩ := h2'
    refine ⟨_, rfl, d, c, rfl, u2.dr, fun z H3 hz u3 => ⟨by show 1 ≤ sizeLine; decide, fun p hp => ?_⟩⟩
    have u4 := (u2.trans u3).then (same_new (o := .lst [.str z]) hp)
    obtain ⟨n1, n2⟩ := u3.dr.new hp
    refine ⟨_, rfl, m, rfl, by omega, by omega, fun D hD' => ?_⟩
    obtain ⟨n3, n4⟩ := u4.dr.new hD'
    have npD : p ≠ D := ne_of_none upd_same hD'
    refine lc_range (lo := 0) (n := m.toNat) (fun i H' => ∃ vs ts, DU d c H H' ∧ H' p = some (.lst [.str z]) ∧ H' D = some (.lst vs) ∧ vs.length = i ∧ RepL H' vs ts ∧ ∀ t ∈ ts, t.shape b = true ∧ t.dep < left) ⟨[], [], u4.then (same_new hD' _), by rw [upd_ne npD]; exact upd_same, upd_same, rfl, .nil, fun t h => (List.not_mem_nil h).elim⟩ (fun i H' hi h' => ?_) (fun H' h' => ?_)
    · obtain ⟨vs, ts, u, hpH, hDH, hl, hr', hts⟩ := h'
      refine ⟨rfl, yesI ?_⟩
      refine ⟨_, rfl, _, rfl, _, _, rfl, rfl, _, rfl, d, c, left - 1, b, ?_, by omega, by omega, u.dr, fun v t H4 rv sh hg u5 => ?_⟩
      · show [V.ref d, V.int ((left : Int) - 1), V.bl b] = _
        rw [show (left : Int) - 1 = ((left - 1 : Nat) : Int) by omega]
      · have w5 := DU.wk u.dr u5
        have hD4 := u5.old _ _ n3 n4 hDH
        refine ⟨vs, hD4, small1000 (by omega), vs ++ [v], ts ++ [t], ?_, ?_, upd_same, ?_, ?_, ?_⟩
        · refine ⟨fun a o a1 a2 h => ?_, ?_⟩
          · have e : a ≠ D := fun e => by
              subst e
              rw [u4.old _ _ a1 a2 h] at hD'
              cases hD'
            rw [upd_ne e]
            exact u5.old _ _ a1 a2 (u.old _ _ a1 a2 h)
          · obtain ⟨cells, at', mix, e1, e2, r⟩ := u5.dr
            exact ⟨cells, at', mix, by rw [upd_ne n3.symm]; exact e1, by rw [upd_ne n4.symm]; exact e2, r⟩
        · rw [upd_ne npD]
          exact u5.old _ _ n1 n2 hpH
        · rw [List.length_append, hl]
          rfl
        · exact ((hr'.wk w5).append (RepL.one rv)).wk (Wk.lst_upd hD4 _)
        · intro t' ht'
          rcases List.mem_append.mp ht' with h | h
          · exact hts t' h
          · rw [List.mem_singleton.mp h]
            exact ⟨sh, by omega⟩
    · obtain ⟨vs, ts, u, hpH, hDH, hl, hr', hts⟩ := h'
      refine ⟨p, D, _, _, rfl, rfl, hpH, hDH, ?_, fun L hL => ?_⟩
      · show 1 + vs.length ≤ sizeLine
        exact Nat.le_of_lt (small1000 (by omega))
      · have s5 := same_new (o := .lst ([.str z] ++ vs)) hL
        refine ⟨L, _, rfl, .inl ⟨SqL.of upd_same, fun M hM => ?_⟩⟩
        have s6 := s5.trans (same_new (o := .tup ([.str z] ++ vs)) hM)
        have hlen := hr'.length
        refine q _ (.tup (.str z :: ts)) _ (.tup upd_same ?_ (.cons (isW_rep hz (by decide)) (hr'.wk (Wk.same s6)))) (shape_of (by omega) hz fun t ht => (hts t ht).1) ?_ (u.then s6)
        · rw [List.length_append, List.length_singleton]
          omega
        · have hh : depL ts ≤ left - 1 := depL_le fun t ht => by
            have := (hts t ht).2
            omega
          show 1 + depL ts ≤ left
          omega
theorem c__law_pattern (T : Tx K mg) : Cl P w K mg base CX0 8 "_law_pattern" ["_law_draw", "_law_left", "_law_holed"] (sp_pattern 5) := c__law_pattern_n T 5
end
end Kt
namespace Kt
open PySem PySem.Spec PyProof.Rows L2
def sp_refuse : Sp := fun vs H Q _ => ∃ v t, vs = [v] ∧ Rep H v t ∧ within true t = true ∧ ∀ H', Same H H' → Q .non H'
theorem sw_within {b : Bool} {t : Th} (h : within b t = true) : sw b 5 t = t.size := by
  obtain ⟨h1, h2, _⟩ := within_iff.mp h
  rw [sw_eq, if_pos ⟨h1, h2⟩]
theorem within_hgt {b : Bool} {t : Th} (h : within b t = true) : t.hgt < 6 := by
  obtain ⟨h1, h2, _⟩ := within_iff.mp h
  have := hgt_dep t h1
  omega
section
variable {P : Program} {w : World} {K : PySem.W.Frag} {mg : Str → Option Value} {base : Heap}
theorem c_refuse_no_pattern (T : Tx K mg) : Cl P w K mg base CX0 10 "refuse_no_pattern" ["thing"] sp_refuse := by
  refine Cl.mk0 T.d_refuse_no_pattern sc_refuse_no_pattern (fun vs H Q E h => ?_) (fun f cdv A outer s H vs Q E hr h => ?_)
  · obtain ⟨v, t, rfl, _⟩ := h
    rfl
  obtain ⟨v, t, rfl, r, hw, q⟩ := h
  refine ⟨_, (pss_one (ps_if (pt_not (pt_val (pe_cl (c_is_pattern T) hr (by omega) rfl (pa_cons (pv 0) pa_nil))))
      (pss_one ps_never)
      pss_nil)), ?_⟩
  refine ⟨_, rfl, v, t, rfl, r, fun H' s' => ⟨_, rfl, ?_⟩⟩
  rw [hw]
  exact iteF (q H' s')
end
end Kt
namespace Kt
open PySem PySem.Spec PyProof.Rows L2
mutual
/-- a pattern and all in it, from left to right -/
def allW : Th → List Th
  | .tup l => .tup l :: allT l
  | t => [t]
def allT : List Th → List Th
  | [] => []
  | _ :: ps => allL ps
def allL : List Th → List Th
  | [] => []
  | p :: ps => allW p ++ allL ps
end
mutual
theorem allW_len : ∀ t : Th, ((allW t).length : Int) = t.size
  | .tup [] => rfl
  | .tup (x :: ps) => by
    have := allL_len ps
    show (((.tup (x :: ps) :: allL ps : List Th).length : Nat) : Int) = 1 + sizeL ps
    rw [List.length_cons]
    omega
  | .non | .bl _ | .int _ | .str _ | .ls | .dc => rfl
theorem allL_len : ∀ l : List Th, ((allL l).length : Int) = sizeL l
  | [] => rfl
  | p :: ps => by
    have h1 := allW_len p
    have h2 := allL_len ps
    show (((allW p ++ allL ps).length : Nat) : Int) = p.size + sizeL ps
    rw [List.length_append]
    omega
end
theorem allL_app : ∀ l r : List Th, allL (l ++ r) = allL l ++ allL r
  | [], r => rfl
  | p :: l, r => by
    show allW p ++ allL (l ++ r) = (allW p ++ allL l) ++ allL r
    rw [allL_app l r, List.append_assoc]
def addU (l : List Str) (z : Str) : List Str := if z ∈ l then l else l ++ [z]
def addH (l : List Str) : Th → List Str
  | .str z => addU l z
  | _ => l
/-- the holes, each once, as they first stand -/
def Th.holes (t : Th) : List Str := (allW t).foldl addH []
def hKV (l : List Str) : List (Key × V) := l.map fun z => (Sum.inr z, V.bl true)
theorem putK_hKV (l : List Str) (z : Str) : putK (hKV l) (Sum.inr z) (.bl true) = hKV (addU l z) := by
  unfold putK addU
  have e : ((hKV l).any fun kv => decide (kv.1 = (Sum.inr z : Key))) = decide (z ∈ l) := by
    unfold hKV
    rw [List.any_map]
    induction l with
    | nil => rfl
    | cons a r ih =>
      rw [List.any_cons, ih]
      show (decide ((Sum.inr a : Key) = Sum.inr z) || decide (z ∈ r)) = _
      rw [key_rr]
      by_cases h : a = z
      · subst h
        simp
      · rw [decide_eq_false h, Bool.false_or]
        exact decide_eq_decide.mpr ⟨fun q => List.mem_cons_of_mem _ q, fun q => (List.mem_cons.mp q).elim (fun w => absurd w.symm h) id⟩
  rw [e]
  by_cases h : z ∈ l
  · rw [if_pos (decide_eq_true h), if_pos h]
    unfold hKV
    rw [List.map_map]
    apply List.map_congr_left
    intro a _
    show (if (Sum.inr a : Key) = Sum.inr z then ((Sum.inr a : Key), V.bl true) else (Sum.inr a, V.bl true)) = _
    split <;> rfl
  · rw [if_neg (by rw [decide_eq_false h]; decide), if_neg h]
    unfold hKV
    rw [List.map_append]
    rfl
theorem addU_len (l : List Str) (z : Str) : (addU l z).length ≤ l.length + 1 := by
  unfold addU
  split
  · omega
  · rw [List.length_append, List.length_singleton]
    omega
theorem addH_len (l : List Str) (t : Th) : (addH l t).length ≤ l.length + 1 := by
  cases t with
  | str z => exact addU_len l z
  | _ => exact Nat.le_add_right _ _
theorem foldH_len : ∀ (ts : List Th) (l : List Str), (ts.foldl addH l).length ≤ l.length + ts.length
  | [], l => Nat.le_refl _
  | t :: ts, l => by
    have h1 := foldH_len ts (addH l t)
    have h2 := addH_len l t
    rw [List.foldl_cons, List.length_cons]
    omega
/-- a dict's comprehension over any walk -/
theorem dc_it {J : It} {n : Nat} {G : Hp → Prop} {Y : Nat → Hp → V → Hp → Prop} (w : Walk J n G Y) {g : TG} {tt : TT} {tk tv : TE} {vs : List Nat} {σ : L2.St} {H1 : Hp} {D : Addr} {Qd : Hp → Prop} (Pv : Nat → Hp → Prop) (h0 : Pv 0 (upd H1 D (.dK []))) (hG : ∀ i H, i ≤ n → Pv i H → G H)
    (hs : ∀ i x H H', i < n → Pv i H → Y i H x H' → g x (wipe σ vs) H' fun σ2 H2 => wipe σ2 vs = wipe σ vs ∧ tt σ2 H2 fun b H3 => if b = true then tk σ2 H3 fun y H4 => tv σ2 H4 fun z H5 => ∃ kvs k, y = kV k ∧ H5 D = some (.dK kvs) ∧ kvs.length < sizeLine ∧ Pv (i + 1) (upd H5 D (.dK (putK kvs k z))) else Pv (i + 1) H3)
    (hd : ∀ H, Pv n H → Qd H) :
    ∃ W : Nat → Nat → Hp → Prop, (∃ m, W 0 m (upd H1 D (.dK []))) ∧ ∀ i m H, W i m H → (J.stop i H ∧ Qd H) ∨ (J.go i H ∧ ∃ Nx : Hp → Prop, (∀ H', Nx H' → ∃ m', m' < m ∧ W (i + 1) m' H') ∧ ∀ x H', J.yld i H x H' → g x (wipe σ vs) H' fun σ2 H2 => wipe σ2 vs = wipe σ vs ∧ tt σ2 H2 fun b H3 =>
      if b = true then tk σ2 H3 fun y H4 => tv σ2 H4 fun z H5 => ∃ kvs k, y = kV k ∧ H5 D = some (.dK kvs) ∧ kvs.length < sizeLine ∧ Nx (upd H5 D (.dK (putK kvs k z))) else Nx H3) := by
  refine ⟨fun i m H => m + i = n ∧ Pv i H, ⟨n, rfl, h0⟩, fun i m H hw => ?_⟩
  obtain ⟨e, p⟩ := hw
  by_cases hm : m = 0
  · have hi : i = n := by omega
    subst hi
    exact .inl ⟨w.stops H (hG _ H (Nat.le_refl _) p), hd H p⟩
  · have hi : i < n := by omega
    exact .inr ⟨w.goes i H hi (hG i H (Nat.le_of_lt hi) p), Pv (i + 1), fun H' p' => ⟨m - 1, by omega, by omega, p'⟩, fun x H' y => hs i x H H' hi p (w.yields i H x H' hi (hG i H (Nat.le_of_lt hi) p) y)⟩
def sp_all (n : Nat) : Sp := fun vs H Q _ => ∃ v t b, vs = [v] ∧ t.hgt < n ∧ t.shape b = true ∧ t.size ≤ 100 ∧ Rep H v t ∧ ∀ p H' xs, Same H H' → H p = none → H' p = some (.lst xs) → RepL H' xs (allW t) → Q (.ref p) H'
def sp_holes_of : Sp := fun vs H Q _ => ∃ v t, vs = [v] ∧ Rep H v t ∧ within true t = true ∧ ∀ p H', Same H H' → H p = none → H' p = some (.lst (t.holes.map V.str)) → Q (.ref p) H'
section
variable {P : Program} {w : World} {K : PySem.W.Frag} {mg : Str → Option Value} {base : Heap}
theorem c_all_within_n (T : Tx K mg) : ∀ n : Nat, Cl P w K mg base CX0 (n + 1) "all_within" ["pattern"] (sp_all n)
  | 0 => Cl.no T.d_all_within fun vs H Q E h => by
    obtain ⟨v, t, b, _, hd, _⟩ := h
    exact absurd hd (Nat.not_lt_zero _)
  | n + 1 => by
    have ih := c_all_within_n T n
    refine Cl.mk0 T.d_all_within sc_all_within (fun vs H Q E h => ?_) (fun f cdv A outer s H vs Q E hr h => ?_)
    · obtain ⟨v, t, b, rfl, _⟩ := h
      rfl
    obtain ⟨v, t, b, rfl, hd, hs, hz, r, q⟩ := h
    refine ⟨_, (pss_cons (ps_set (i := 1) sc_all_within.nd rfl (Or.inl rfl) (pe_lst (pa_cons (pv 0) pa_nil)))
    (Evl.pss_cut (ps_if (pt_val (pe_callB (id := "isinstance") (r := rIsi K) call_isi (by rfl) T.z_isinstance (by decide +kernel) (pa_cons (pv 0) (pa_cons (pe_bltn (v := .ty "tuple") (u := .type "tuple") (by rfl) T.z_tuple (by decide +kernel) rfl) pa_nil))))
      (pss_one (ps_for PassesOwn.never rfl (pi_tup (pe_slice sl_tupA (pv 0) (po_some pe_int) po_no)) (pg_name (i := 2) sc_all_within.nd rfl (Or.inl rfl))
        (pss_one (ps_expr (pe_bm PySem.F.plainAttrs_list PySem.F.slot_list_extend PySem.F.type_list_extend mt_extend (pv 1) (pa_cons (pe_cl ih hr (by omega) rfl (pa_cons (pv 2) pa_nil)) pa_nil))))))
      pss_nil)
    (pss_one (ps_ret (pv 1))))), ?_⟩
    refine ⟨_, rfl, by show 1 ≤ sizeLine; decide, fun p hp => ?_⟩
    have s0 := same_new hp (.lst [v])
    have r0 := r.wk (Wk.same s0)
    refine ⟨fun σ' H' => ∃ y xs, σ' = [some v, some (.ref p), y] ∧ Same H H' ∧ H' p = some (.lst xs) ∧ RepL H' xs (allW t), ?_, fun σ1 H1 e1 => ?_⟩
    · refine ⟨_, rfl, _, _, _, _, _, rfl, .ty _, r0.tyx, ktup t, _, rfl, ?_⟩
      cases r0 with
      | @tup a xs l ha hn hl =>
        obtain ⟨z, ps, rfl, h4, h8, hall⟩ := shape_tup hs
        cases hl with
        | @cons y ys _ _ hx hps =>
          refine iteT ⟨_, rfl, 1, rfl, ?_⟩
          refine sl_lo (K := K) 1 ha (by omega) (by rw [List.length_cons]; omega) fun p1 hp1 => ?_
          have s1 := same_new hp1 (.tup ys)
          have np1 : p ≠ p1 := ne_of_none upd_same hp1
          refine ⟨p1, rfl, ⟨ys, SqT.of upd_same⟩, for_tup (xs := ys) (fun i σ H' => ∃ y xs, σ = [some (.ref a), some (.ref p), y] ∧ Same H H' ∧ H' p1 = some (.tup ys) ∧ H' p = some (.lst xs) ∧ RepL H' xs (.tup (.str z :: ps) :: allL (ps.take i)) ∧ RepL H' ys ps)
            ⟨none, _, rfl, s0.trans s1, upd_same, s1 p _ upd_same, .cons (r.wk (Wk.same (s0.trans s1))) .nil, hps.wk (Wk.same s1)⟩ (fun i σ H' _ h' => ?_) (fun i x σ H' hx' h' => ?_) (fun σ H' h' => ?_)⟩
          · obtain ⟨_, _, _, _, h5, _⟩ := h'
            exact SqT.of h5
          · obtain ⟨y0, xs0, rfl, sH, h5, h6, h7, h8'⟩ := h'
            obtain ⟨t', ht', rt'⟩ := h8'.get' hx'
            have mt := List.mem_of_getElem? ht'
            have hsz := size_part mt
            have hszT : (Th.tup (.str z :: ps)).size = 1 + sizeL ps := rfl
            have hlen7 := h7.length
            have tl : ps.take (i + 1) = ps.take i ++ [t'] := by
              rw [List.take_add_one, ht']
              rfl
            have hal : ((allL (ps.take i) ++ allW t').length : Int) ≤ sizeL ps := by
              have e1 : allL (ps.take i) ++ allW t' = allL (ps.take (i + 1)) := by
                rw [tl, allL_app]
                show _ = allL (ps.take i) ++ (allW t' ++ [])
                rw [List.append_nil]
              rw [e1, ← allL_len ps]
              have : allL ps = allL (ps.take (i + 1)) ++ allL (ps.drop (i + 1)) := by rw [← allL_app, List.take_append_drop]
              rw [this, List.length_append]
              omega
            rw [List.length_append] at hal
            refine ⟨_, rfl, .inl ⟨rfl, _, SqL.of h6⟩, _, rfl, x, t', b, rfl, hgt_part hd t' (List.mem_cons_of_mem _ mt), hall t' mt, by omega, rt', fun p2 H2 zs s2 np2 h9 rz => ?_⟩
            have hlz := rz.length
            rw [List.length_cons] at hlen7
            have pp2 : p ≠ p2 := ne_of_none h6 np2
            refine ⟨p, p2, xs0, zs, rfl, rfl, s2 _ _ h6, h9, Nat.le_of_lt (small1000 (by omega)), ?_⟩
            have w2 := Wk.lst_upd (s2 _ _ h6) (xs0 ++ zs)
            refine ⟨_, _, rfl, Same.mut (sH.trans s2) hp, by rw [upd_ne (ne_of (s2 _ _ h5) (s2 _ _ h6) fun e => nomatch e)]; exact s2 _ _ h5, upd_same, ?_, (h8'.wk (Wk.same s2)).wk w2⟩
            have : (Th.tup (.str z :: ps) :: allL (ps.take (i + 1))) = (Th.tup (.str z :: ps) :: allL (ps.take i)) ++ allW t' := by
              rw [tl, allL_app]
              show _ :: (allL (ps.take i) ++ (allW t' ++ [])) = _
              rw [List.append_nil]
              rfl
            rw [this]
            exact ((h7.wk (Wk.same s2)).append rz).wk w2
          · obtain ⟨y0, xs0, rfl, sH, h5, h6, h7, h8'⟩ := h'
            rw [h8'.length, List.take_length] at h7
            exact ⟨_, _, rfl, sH, h6, h7⟩
      | str z hz' ok => exact iteF ⟨_, _, rfl, s0, upd_same, .cons (.str z hz' ok) .nil⟩
      | _ => cases hs
    obtain ⟨y, xs, rfl, sH, h1, h2⟩ := e1
    exact ⟨_, rfl, q p H1 xs sH hp h1 h2⟩
theorem c_all_within (T : Tx K mg) : Cl P w K mg base CX0 7 "all_within" ["pattern"] (sp_all 6) := c_all_within_n T 6
theorem c_holes_of (T : Tx K mg) : Cl P w K mg base CX0 11 "holes_of" ["pattern"] sp_holes_of := by
  refine Cl.mk0 T.d_holes_of sc_holes_of (fun vs H Q E h => ?_) (fun f cdv A outer s H vs Q E hr h => ?_)
  · obtain ⟨v, t, rfl, _⟩ := h
    rfl
  obtain ⟨v, t, rfl, r, hw, q⟩ := h
  obtain ⟨hs, hd, hz⟩ := within_iff.mp hw
  refine ⟨_, (pss_cons (ps_expr (pe_cl (c_refuse_no_pattern T) hr (by omega) rfl (pa_cons (pv 0) pa_nil)))
    (pss_one (ps_ret (pe_callTy (call_listD rfl) (by rfl) T.z_list (by decide +kernel) (pa_cons (pe_dc (own := [("part", 1)]) (g := gName 1) rfl sc_holes_of.nd (pi_list (pe_cl (c_all_within T) hr (by omega) rfl (pa_cons (pv 0) pa_nil))) (blkOk_by (own := [("part", 1)]) (N := ["pattern", "part"]) (sc := defScope s_holes_of) (by decide +kernel)) (fun _ _ _ _ _ => (pg_name (i := 1) sc_holes_of.nd rfl (Or.inl rfl))) (fun _ _ _ _ _ => (pts_one (pt_val (pe_callB (id := "isinstance") (r := rIsi K) call_isi (by rfl) T.z_isinstance (by decide +kernel) (pa_cons (pv 1) (pa_cons (pe_bltn (v := .ty "str") (u := .type "str") (by rfl) T.z_str (by decide +kernel) rfl) pa_nil)))))) (fun _ _ _ _ _ => (pv 1)) (fun _ _ _ _ _ => pe_bl)) pa_nil))))), ?_⟩
  refine ⟨_, rfl, v, t, rfl, r, hw, fun H1 s1 => ⟨_, rfl, v, t, true, rfl, within_hgt hw, hs, by omega, r.wk (Wk.same s1), fun p H2 xs s2 np hp rx => ⟨p, rfl, ⟨xs, SqL.of hp⟩, fun D hD => ?_⟩⟩⟩
  have hlx := rx.length
  have hsz := allW_len t
  refine dc_it walk_list (fun i H' => Same H2 H' ∧ H' D = some (.dK (hKV (((allW t).take i).foldl addH [])))) ⟨same_new hD _, upd_same⟩ (fun i H' _ p' => SqL.of (p'.1 _ _ hp)) (fun i x H' H'' hi p' y => ?_) (fun H' p' => ?_)
  · obtain ⟨rfl, hx⟩ := y
    obtain ⟨t', ht', rt'⟩ := (rx.wk (Wk.same p'.1)).get' hx
    have tl : (allW t).take (i + 1) = (allW t).take i ++ [t'] := by
      rw [List.take_add_one, ht']
      rfl
    have hfl : (((allW t).take (i + 1)).foldl addH []) = addH (((allW t).take i).foldl addH []) t' := by rw [tl, List.foldl_append]; rfl
    refine ⟨rfl, _, rfl, _, _, _, _, _, rfl, .ty _, rt'.tyx, kstr t', _, rfl, ?_⟩
    rw [hfl]
    cases rt' with
    | str z hz' ok =>
      refine iteT ⟨_, rfl, _, Sum.inr z, rfl, p'.2, ?_, Same.mut p'.1 hD, ?_⟩
      · have h1 := foldH_len ((allW t).take i) []
        rw [List.length_take, List.length_nil] at h1
        unfold hKV
        rw [List.length_map]
        exact small1000 (by omega)
      · rw [upd_same, putK_hKV]
        rfl
    | _ => exact iteF p'
  · obtain ⟨s3, h3⟩ := p'
    rw [hlx, List.take_length] at h3
    refine ⟨D, _, rfl, .inl h3, fun p3 hp3 => ?_⟩
    have s13 := (s1.trans s2).trans s3
    refine q p3 _ (s13.trans (same_new hp3 _)) (Same.free s13 hp3) ?_
    rw [upd_same]
    unfold hKV
    rw [List.map_map]
    rfl
end
end Kt
namespace Kt
open PySem PySem.Spec PyProof.Rows L2
/-! ### patterns filled -/
mutual
/-- the holes exchanged -/
def Th.put (g : Str → Th) : Th → Th
  | .str z => g z
  | .tup l => .tup (putT g l)
  | t => t
def putT (g : Str → Th) : List Th → List Th
  | [] => []
  | x :: ps => x :: putL g ps
def putL (g : Str → Th) : List Th → List Th
  | [] => []
  | p :: ps => p.put g :: putL g ps
end
theorem putL_map (g : Str → Th) : ∀ l : List Th, putL g l = l.map fun t => t.put g
  | [] => rfl
  | p :: ps => congrArg (p.put g :: ·) (putL_map g ps)
/-- a dict gives each of these texts its thing -/
def Fl (H : Hp) (kvs : List (Key × V)) (g : Str → Th) (zs : List Str) : Prop := ∀ z ∈ zs, ∃ v, valV kvs (Sum.inr z) = some v ∧ Rep H v (g z)
theorem Fl.wk {H H' : Hp} {kvs : List (Key × V)} {g : Str → Th} {zs : List Str} (h : Fl H kvs g zs) (w : Wk H H') : Fl H' kvs g zs := fun z hz => by
  obtain ⟨v, e, r⟩ := h z hz
  exact ⟨v, e, r.wk w⟩
mutual
/-- the holes' texts, as often as they stand -/
def Th.hl : Th → List Str
  | .str z => [z]
  | .tup l => hlT l
  | _ => []
def hlT : List Th → List Str
  | [] => []
  | _ :: ps => hlL ps
def hlL : List Th → List Str
  | [] => []
  | p :: ps => p.hl ++ hlL ps
end
theorem hl_part {p : Th} {z : Str} (hz : z ∈ p.hl) : ∀ {l : List Th}, p ∈ l → z ∈ hlL l
  | q :: r, h => by
    show z ∈ q.hl ++ hlL r
    rcases List.mem_cons.mp h with rfl | h
    · exact List.mem_append_left _ hz
    · exact List.mem_append_right _ (hl_part hz h)
theorem mem_addU {l : List Str} {z x : Str} : x ∈ addU l z ↔ x ∈ l ∨ x = z := by
  unfold addU
  split
  · rename_i h
    exact ⟨.inl, fun q => q.elim id fun e => e ▸ h⟩
  · rw [List.mem_append, List.mem_singleton]
theorem mem_fold {x : Str} : ∀ (ts : List Th) (l : List Str), x ∈ ts.foldl addH l ↔ x ∈ l ∨ Th.str x ∈ ts
  | [], l => by simp
  | t :: ts, l => by
    rw [List.foldl_cons, mem_fold ts]
    cases t with
    | str z =>
      show x ∈ addU l z ∨ _ ↔ _
      rw [mem_addU, List.mem_cons]
      constructor
      · rintro ((h | h) | h)
        · exact .inl h
        · exact .inr (.inl (by rw [h]))
        · exact .inr (.inr h)
      · rintro (h | h | h)
        · exact .inl (.inl h)
        · cases h
          exact .inl (.inr rfl)
        · exact .inr h
    | _ =>
      show x ∈ l ∨ _ ↔ _
      rw [List.mem_cons]
      constructor
      · rintro (h | h)
        · exact .inl h
        · exact .inr (.inr h)
      · rintro (h | h | h)
        · exact .inl h
        · cases h
        · exact .inr h
mutual
theorem mem_all {x : Str} : ∀ t : Th, Th.str x ∈ allW t ↔ x ∈ t.hl
  | .str z => by
    show Th.str x ∈ [Th.str z] ↔ x ∈ [z]
    rw [List.mem_singleton, List.mem_singleton]
    exact ⟨fun e => Th.str.inj e, fun e => by rw [e]⟩
  | .tup [] => by
    show Th.str x ∈ [Th.tup []] ↔ x ∈ []
    simp
  | .tup (y :: ps) => by
    show Th.str x ∈ Th.tup (y :: ps) :: allL ps ↔ x ∈ hlL ps
    rw [List.mem_cons, mem_allL ps]
    exact ⟨fun h => h.elim (fun e => by cases e) id, .inr⟩
  | .non | .bl _ | .int _ | .ls | .dc => by
    simp [allW, Th.hl]
theorem mem_allL {x : Str} : ∀ l : List Th, Th.str x ∈ allL l ↔ x ∈ hlL l
  | [] => by simp [allL, hlL]
  | p :: ps => by
    show Th.str x ∈ allW p ++ allL ps ↔ x ∈ p.hl ++ hlL ps
    rw [List.mem_append, List.mem_append, mem_all p, mem_allL ps]
end
theorem mem_holes {t : Th} {x : Str} : x ∈ t.holes ↔ x ∈ t.hl := by
  unfold Th.holes
  rw [mem_fold, mem_all]
  simp
def sp_exchanged (n : Nat) : Sp := fun vs H Q _ => ∃ v t b a kvs g, vs = [v, .ref a] ∧ t.hgt < n ∧ t.shape b = true ∧ Rep H v t ∧ H a = some (.dK kvs) ∧ Fl H kvs g t.hl ∧ ∀ v' H', Same H H' → Rep H' v' (t.put g) → Q v' H'
section
variable {P : Program} {w : World} {K : PySem.W.Frag} {mg : Str → Option Value} {base : Heap}
theorem c_exchanged_n (T : Tx K mg) : ∀ n : Nat, Cl P w K mg base CX0 (n + 1) "exchanged" ["pattern", "fill"] (sp_exchanged n)
  | 0 => Cl.no T.d_exchanged fun vs H Q E h => by
    obtain ⟨v, t, b, a, kvs, g, _, hd, _⟩ := h
    exact absurd hd (Nat.not_lt_zero _)
  | n + 1 => by
    have ih := c_exchanged_n T n
    refine Cl.mk0 T.d_exchanged sc_exchanged (fun vs H Q E h => ?_) (fun f cdv A outer s H vs Q E hr h => ?_)
    · obtain ⟨v, t, b, a, kvs, g, rfl, _⟩ := h
      rfl
    obtain ⟨v, t, b, d, kvs, g, rfl, hd, hs, r, hK, hF, q⟩ := h
    refine ⟨_, (pss_cons (ps_if (pt_val (pe_callB (id := "isinstance") (r := rIsi K) call_isi (by rfl) T.z_isinstance (by decide +kernel) (pa_cons (pv 0) (pa_cons (pe_bltn (v := .ty "str") (u := .type "str") (by rfl) T.z_str (by decide +kernel) rfl) pa_nil))))
      (pss_one (ps_ret (pe_dget (hu_of hr) (pv 1) (pv 0) (fun _ _ => rfl))))
      pss_nil)
    (pss_one (ps_ret (pe_op op_catA (pe_tup (pa_cons (pe_ix ix_tup (pv 0) pe_int (fun _ _ => rfl)) pa_nil)) (pe_callTy call_tuple_of (by rfl) T.z_tuple (by decide +kernel) (pa_cons (pe_lc (own := [("part", 2)]) (g := gName 2) (tt := tYes) rfl sc_exchanged.nd (pi_tup (pe_slice sl_tupA (pv 0) (po_some pe_int) po_no)) (blkOk_by (own := [("part", 2)]) (N := ["pattern", "fill", "part"]) (sc := defScope s_exchanged) (by decide +kernel)) (fun _ _ _ _ _ => (pg_name (i := 2) sc_exchanged.nd rfl (Or.inl rfl))) (fun _ _ _ _ _ => pts_nil) (fun _ _ _ _ _ => (pe_cl ih hr (by omega) rfl (pa_cons (pv 2) (pa_cons (pv 1) pa_nil))))) pa_nil)))))), ?_⟩
    refine ⟨_, rfl, _, _, _, _, _, rfl, .ty _, r.tyx, kstr t, _, rfl, ?_⟩
    cases r with
    | str z hz' ok =>
      obtain ⟨v', e, rv⟩ := hF z (List.mem_singleton.mpr rfl)
      refine iteT ⟨_, rfl, _, rfl, d, v', rfl, ?_, q v' H (Same.refl H) rv⟩
      rw [← e]
      exact DGet.k (k := Sum.inr z) hK
    | @tup a xs l ha hn hl =>
      obtain ⟨z, ps, rfl, h4, h8, hall⟩ := shape_tup hs
      cases hl with
      | @cons y ys _ _ hx hps =>
        have hlen := hps.length
        refine iteF ⟨_, rfl, _, _, _, _, rfl, rfl, SqT.of ha, atI_nat (j := 0) rfl, by show 1 ≤ sizeLine; decide, fun p0 hp0 => ?_⟩
        have s0 := same_new hp0 (.tup [y])
        refine ⟨_, rfl, 1, rfl, ?_⟩
        refine sl_lo (K := K) 1 (s0 _ _ ha) (by omega) (by rw [List.length_cons]; omega) fun p hp => ?_
        have s1 := s0.trans (same_new (o := .tup ys) hp)
        refine ⟨p, rfl, ⟨ys, SqT.of upd_same⟩, fun D hD => ?_⟩
        have hk1 := s1 _ _ hK
        have hF1 := hF.wk (Wk.same s1)
        have hps1 := hps.wk (Wk.same s1)
        refine lc_it (walk_tup (K := K) (xs := ys)) (fun i H' => Same (upd (upd H p0 (.tup [y])) p (.tup ys)) H' ∧ ∃ vs, H' D = some (.lst vs) ∧ vs.length = i ∧ RepL H' vs ((ps.take i).map fun t => t.put g)) ⟨same_new hD _, [], upd_same, rfl, .nil⟩ (fun i H' _ p' => SqT.of (p'.1 _ _ upd_same)) (fun i x H' H'' hi p' yy => ?_) (fun H' p' => ?_)
        · obtain ⟨rfl, hx'⟩ := yy
          obtain ⟨sH, vs, hDv, hvl, rvs⟩ := p'
          obtain ⟨t', ht', rt'⟩ := (hps1.wk (Wk.same sH)).get' hx'
          have mt := List.mem_of_getElem? ht'
          refine ⟨rfl, yesI ⟨_, rfl, _, rfl, x, t', b, d, kvs, g, rfl, hgt_part hd t' (List.mem_cons_of_mem _ mt), hall t' mt, rt', sH _ _ hk1, (fun z hz => (hF1.wk (Wk.same sH)) z (hl_part hz mt)), fun v' H2 s2 rv' => ?_⟩⟩
          have hD2 := s2 _ _ hDv
          refine ⟨vs, hD2, small1000 (by omega), Same.mut (sH.trans s2) hD, vs ++ [v'], upd_same, by rw [List.length_append, hvl]; rfl, ?_⟩
          have tl : (ps.take (i + 1)).map (fun t => t.put g) = (ps.take i).map (fun t => t.put g) ++ [t'.put g] := by
            rw [List.take_add_one, ht', List.map_append]
            rfl
          rw [tl]
          exact ((rvs.wk (Wk.same s2)).append (.cons rv' .nil)).wk (Wk.lst_upd hD2 _)
        · obtain ⟨sH, vs, hDv, hvl, rvs⟩ := p'
          rw [hlen, List.take_length] at rvs
          refine ⟨D, vs, rfl, .inl ⟨SqL.of hDv, fun M hM => ?_⟩⟩
          have s2 := (s1.trans sH).trans (same_new hM (.tup vs))
          have hp02 := (((same_new hp (.tup ys)).trans sH).trans (same_new hM (.tup vs))) p0 _ upd_same
          refine catA hp02 upd_same (fun e => by cases e) (by rw [List.length_singleton]; omega) fun p3 H3 s3 e3 => ?_
          refine q (.ref p3) H3 (s2.trans s3) ?_
          show Rep _ _ (.tup (.str z :: putL g ps))
          rw [putL_map]
          exact .tup e3 (by rw [List.length_append, List.length_singleton]; omega) (.cons (hx.wk (Wk.same (s2.trans s3))) (rvs.wk (Wk.same ((same_new hM (.tup vs)).trans s3))))
    | _ => cases hs
theorem c_exchanged (T : Tx K mg) : Cl P w K mg base CX0 7 "exchanged" ["pattern", "fill"] (sp_exchanged 6) := c_exchanged_n T 6
theorem holes_get {t : Th} {i : Nat} {x : V} (h : (t.holes.map V.str)[i]? = some x) : ∃ z, x = .str z ∧ z ∈ t.hl := by
  rw [List.getElem?_map] at h
  cases e : t.holes[i]? with
  | none =>
    rw [e] at h
    cases h
  | some z =>
    rw [e] at h
    cases h
    exact ⟨z, rfl, mem_holes.mp (List.mem_of_getElem? e)⟩
end
end Kt
namespace Kt
open PySem PySem.Spec PyProof.Rows L2
/-! ### how a filled pattern fits -/
mutual
def Th.many (h : Str) : Th → Int
  | .str z => if z = h then 1 else 0
  | .tup l => manyT h l
  | _ => 0
def manyT (h : Str) : List Th → Int
  | [] => 0
  | _ :: ps => manyL h ps
def manyL (h : Str) : List Th → Int
  | [] => 0
  | p :: ps => p.many h + manyL h ps
end
mutual
def Th.lev (h : Str) : Th → Nat
  | .str z => if z = h then 1 else 0
  | .tup l => levT h l
  | _ => 0
def levT (h : Str) : List Th → Nat
  | [] => 0
  | _ :: ps => if levL h ps = 0 then 0 else levL h ps + 1
def levL (h : Str) : List Th → Nat
  | [] => 0
  | p :: ps => max (p.lev h) (levL h ps)
end
theorem manyL_sum (h : Str) : ∀ l : List Th, manyL h l = (l.map (Th.many h)).sum
  | [] => rfl
  | p :: ps => by
    rw [List.map_cons, List.sum_cons, ← manyL_sum h ps]
    rfl
theorem sum_add (f g : Str → Int) : ∀ zs : List Str, (zs.map fun z => f z + g z).sum = (zs.map f).sum + (zs.map g).sum
  | [] => rfl
  | z :: zs => by
    have ih := sum_add f g zs
    simp only [List.map_cons, List.sum_cons]
    omega
theorem sum_zero {f : Str → Int} : ∀ {zs : List Str}, (∀ z ∈ zs, f z = 0) → (zs.map f).sum = 0
  | [], _ => rfl
  | z :: zs, h => by
    rw [List.map_cons, List.sum_cons, h z (List.mem_cons_self ..), sum_zero fun y hy => h y (List.mem_cons_of_mem _ hy)]
    rfl
theorem sum_one (F : Str → Int) (z : Str) : ∀ {zs : List Str}, zs.Nodup → z ∈ zs → (zs.map fun h => (if z = h then 1 else 0) * F h).sum = F z
  | y :: ys, hn, hz => by
    obtain ⟨h1, h2⟩ := List.nodup_cons.mp hn
    rw [List.map_cons, List.sum_cons]
    by_cases e : z = y
    · subst e
      rw [if_pos rfl, Int.one_mul, sum_zero fun x hx => ?_, Int.add_zero]
      rw [if_neg fun q => h1 (by rw [q]; exact hx), Int.zero_mul]
    · rw [if_neg e, Int.zero_mul, Int.zero_add]
      exact sum_one F z h2 ((List.mem_cons.mp hz).resolve_left e)
mutual
theorem put_size {g : Str → Th} {zs : List Str} (hn : zs.Nodup) : ∀ t : Th, t.shape true = true → (∀ z ∈ t.hl, z ∈ zs) → (t.put g).size = t.size + (zs.map fun h => t.many h * ((g h).size - 1)).sum
  | .str z, _, h => by
    show (g z).size = 1 + (zs.map fun h => (if z = h then 1 else 0) * ((g h).size - 1)).sum
    rw [sum_one (fun h => (g h).size - 1) z hn (h z (List.mem_singleton.mpr rfl))]
    omega
  | .tup [], h, _ => by cases h
  | .tup (x :: ps), hs, h => by
    have hs : (decide (ps.length < 4) && (x.word 8 && shapeL true ps)) = true := hs
    simp only [Bool.and_eq_true, decide_eq_true_eq] at hs
    have ih := put_sizeL (g := g) hn ps hs.2.2 h
    show 1 + sizeL (putL g ps) = 1 + sizeL ps + (zs.map fun h => manyL h ps * ((g h).size - 1)).sum
    omega
  | .non, h, _ | .bl _, h, _ | .int _, h, _ | .ls, h, _ | .dc, h, _ => by cases h
theorem put_sizeL {g : Str → Th} {zs : List Str} (hn : zs.Nodup) : ∀ l : List Th, shapeL true l = true → (∀ z ∈ hlL l, z ∈ zs) → sizeL (putL g l) = sizeL l + (zs.map fun h => manyL h l * ((g h).size - 1)).sum
  | [], _, _ => by
    show (0 : Int) = 0 + (zs.map fun h => 0 * ((g h).size - 1)).sum
    rw [sum_zero fun z _ => Int.zero_mul _]
    rfl
  | p :: ps, hs, h => by
    have hs : (p.shape true && shapeL true ps) = true := hs
    rw [Bool.and_eq_true] at hs
    have h1 := put_size (g := g) hn p hs.1 fun z hz => h z (List.mem_append_left _ hz)
    have h2 := put_sizeL (g := g) hn ps hs.2 fun z hz => h z (List.mem_append_right _ hz)
    show (p.put g).size + sizeL (putL g ps) = p.size + sizeL ps + (zs.map fun h => (p.many h + manyL h ps) * ((g h).size - 1)).sum
    have e : (zs.map fun h => (p.many h + manyL h ps) * ((g h).size - 1)) = zs.map fun h => p.many h * ((g h).size - 1) + manyL h ps * ((g h).size - 1) := by
      apply List.map_congr_left
      intro z _
      exact Int.add_mul ..
    rw [e, sum_add]
    omega
end
mutual
theorem lev_pos {h : Str} : ∀ t : Th, h ∈ t.hl → 1 ≤ t.lev h
  | .str z, hm => by
    have hm := List.mem_singleton.mp hm
    show 1 ≤ if z = h then 1 else 0
    rw [if_pos hm.symm]
    exact Nat.le_refl _
  | .tup [], hm => (List.not_mem_nil hm).elim
  | .tup (x :: ps), hm => by
    have := lev_posL ps hm
    show 1 ≤ if levL h ps = 0 then 0 else levL h ps + 1
    rw [if_neg (by omega)]
    omega
  | .non, hm | .bl _, hm | .int _, hm | .ls, hm | .dc, hm => (List.not_mem_nil hm).elim
theorem lev_posL {h : Str} : ∀ l : List Th, h ∈ hlL l → 1 ≤ levL h l
  | [], hm => (List.not_mem_nil hm).elim
  | p :: ps, hm => by
    show 1 ≤ max (p.lev h) (levL h ps)
    rcases List.mem_append.mp hm with hm | hm
    · have := lev_pos p hm
      omega
    · have := lev_posL ps hm
      omega
end
mutual
/-- it is not below any of the numbers -/
theorem put_dep_ge {g : Str → Th} : ∀ t : Th, t.shape true = true → t.dep ≤ (t.put g).dep ∧ ∀ h, 1 ≤ t.lev h → t.lev h + (g h).dep ≤ (t.put g).dep + 1
  | .str z, _ => by
    refine ⟨dep_pos (g z), fun h hl => ?_⟩
    have hl : 1 ≤ if z = h then 1 else 0 := hl
    by_cases e : z = h
    · subst e
      show (if z = z then 1 else 0) + (g z).dep ≤ (g z).dep + 1
      rw [if_pos rfl]
      omega
    · rw [if_neg e] at hl
      omega
  | .tup [], h => by cases h
  | .tup (x :: ps), hs => by
    have hs : (decide (ps.length < 4) && (x.word 8 && shapeL true ps)) = true := hs
    simp only [Bool.and_eq_true, decide_eq_true_eq] at hs
    obtain ⟨h1, h2⟩ := put_dep_geL (g := g) ps hs.2.2
    refine ⟨by show 1 + depL ps ≤ 1 + depL (putL g ps); omega, fun h hl => ?_⟩
    have hl : 1 ≤ if levL h ps = 0 then 0 else levL h ps + 1 := hl
    show (if levL h ps = 0 then 0 else levL h ps + 1) + (g h).dep ≤ 1 + depL (putL g ps) + 1
    by_cases e : levL h ps = 0
    · rw [if_pos e] at hl
      omega
    · rw [if_neg e]
      have := h2 h (by omega)
      omega
  | .non, h | .bl _, h | .int _, h | .ls, h | .dc, h => by cases h
theorem put_dep_geL {g : Str → Th} : ∀ l : List Th, shapeL true l = true → depL l ≤ depL (putL g l) ∧ ∀ h, 1 ≤ levL h l → levL h l + (g h).dep ≤ depL (putL g l) + 1
  | [], _ => ⟨Nat.le_refl _, fun h hl => absurd (show 1 ≤ 0 from hl) (by decide)⟩
  | p :: ps, hs => by
    have hs : (p.shape true && shapeL true ps) = true := hs
    rw [Bool.and_eq_true] at hs
    obtain ⟨h1, h2⟩ := put_dep_ge (g := g) p hs.1
    obtain ⟨h3, h4⟩ := put_dep_geL (g := g) ps hs.2
    refine ⟨by show max p.dep (depL ps) ≤ max (p.put g).dep (depL (putL g ps)); omega, fun h hl => ?_⟩
    have hl : 1 ≤ max (p.lev h) (levL h ps) := hl
    show max (p.lev h) (levL h ps) + (g h).dep ≤ max (p.put g).dep (depL (putL g ps)) + 1
    have a1 := h2 h
    have a2 := h4 h
    omega
end
mutual
/-- it is one of the numbers -/
theorem put_dep_eq {g : Str → Th} : ∀ t : Th, t.shape true = true → (t.put g).dep = t.dep ∨ ∃ h ∈ t.hl, (t.put g).dep + 1 = t.lev h + (g h).dep
  | .str z, _ => by
    refine .inr ⟨z, List.mem_singleton.mpr rfl, ?_⟩
    show (g z).dep + 1 = (if z = z then 1 else 0) + (g z).dep
    rw [if_pos rfl]
    omega
  | .tup [], h => by cases h
  | .tup (x :: ps), hs => by
    have hs : (decide (ps.length < 4) && (x.word 8 && shapeL true ps)) = true := hs
    simp only [Bool.and_eq_true, decide_eq_true_eq] at hs
    rcases put_dep_eqL (g := g) ps hs.2.2 with h1 | ⟨h, hm, h1⟩
    · exact .inl (by show 1 + depL (putL g ps) = 1 + depL ps; rw [h1])
    · refine .inr ⟨h, hm, ?_⟩
      have := lev_posL ps hm
      show 1 + depL (putL g ps) + 1 = (if levL h ps = 0 then 0 else levL h ps + 1) + (g h).dep
      rw [if_neg (by omega)]
      omega
  | .non, h | .bl _, h | .int _, h | .ls, h | .dc, h => by cases h
theorem put_dep_eqL {g : Str → Th} : ∀ l : List Th, shapeL true l = true → depL (putL g l) = depL l ∨ ∃ h ∈ hlL l, depL (putL g l) + 1 = levL h l + (g h).dep
  | [], _ => .inl rfl
  | p :: ps, hs => by
    have hs : (p.shape true && shapeL true ps) = true := hs
    rw [Bool.and_eq_true] at hs
    have b1 := put_dep_ge (g := g) p hs.1
    have b2 := put_dep_geL (g := g) ps hs.2
    have c1 := put_dep_eq (g := g) p hs.1
    have c2 := put_dep_eqL (g := g) ps hs.2
    show max (p.put g).dep (depL (putL g ps)) = max p.dep (depL ps) ∨ ∃ h ∈ p.hl ++ hlL ps, max (p.put g).dep (depL (putL g ps)) + 1 = max (p.lev h) (levL h ps) + (g h).dep
    by_cases q : depL (putL g ps) ≤ (p.put g).dep
    · rcases c1 with c1 | ⟨h, hm, c1⟩
      · refine .inl ?_
        have := b2.1
        omega
      · refine .inr ⟨h, List.mem_append_left _ hm, ?_⟩
        have := b2.2 h
        omega
    · rcases c2 with c2 | ⟨h, hm, c2⟩
      · refine .inl ?_
        have := b1.1
        omega
      · refine .inr ⟨h, List.mem_append_right _ hm, ?_⟩
        have := b1.2 h
        omega
end
theorem addU_nodup {l : List Str} {z : Str} (h : l.Nodup) : (addU l z).Nodup := by
  unfold addU
  split
  · exact h
  · rename_i q
    rw [List.nodup_append]
    refine ⟨h, List.nodup_cons.mpr ⟨fun e => (List.not_mem_nil e).elim, List.nodup_nil⟩, fun a ha b hb e => ?_⟩
    rw [List.mem_singleton] at hb
    exact q (by rw [← hb, ← e]; exact ha)
theorem holes_nodup (t : Th) : t.holes.Nodup := by
  unfold Th.holes
  have key : ∀ (l : List Th) (acc : List Str), acc.Nodup → (l.foldl addH acc).Nodup := by
    intro l
    induction l with
    | nil => exact fun _ h => h
    | cons x r ih =>
      intro acc h
      refine ih _ ?_
      cases x with
      | str z => exact addU_nodup h
      | _ => exact h
  exact key _ _ List.nodup_nil
mutual
theorem put_shape {g : Str → Th} : ∀ t : Th, t.shape true = true → (∀ z ∈ t.hl, (g z).shape false = true) → (t.put g).shape false = true
  | .str z, _, h => h z (List.mem_singleton.mpr rfl)
  | .tup [], h, _ => by cases h
  | .tup (x :: ps), hs, h => by
    have hs : (decide (ps.length < 4) && (x.word 8 && shapeL true ps)) = true := hs
    simp only [Bool.and_eq_true, decide_eq_true_eq] at hs
    have ih := put_shapeL (g := g) ps hs.2.2 h
    have hl : (putL g ps).length = ps.length := by rw [putL_map, List.length_map]
    show (decide ((putL g ps).length < 4) && (x.word 8 && shapeL false (putL g ps))) = true
    rw [hl, ih, hs.2.1, decide_eq_true hs.1]
    rfl
  | .non, h, _ | .bl _, h, _ | .int _, h, _ | .ls, h, _ | .dc, h, _ => by cases h
theorem put_shapeL {g : Str → Th} : ∀ l : List Th, shapeL true l = true → (∀ z ∈ hlL l, (g z).shape false = true) → shapeL false (putL g l) = true
  | [], _, _ => rfl
  | p :: ps, hs, h => by
    have hs : (p.shape true && shapeL true ps) = true := hs
    rw [Bool.and_eq_true] at hs
    show ((p.put g).shape false && shapeL false (putL g ps)) = true
    rw [put_shape p hs.1 fun z hz => h z (List.mem_append_left _ hz), put_shapeL ps hs.2 fun z hz => h z (List.mem_append_right _ hz)]
    rfl
end
mutual
/-- a term is a pattern without holes -/
theorem shape_hl : ∀ t : Th, t.shape true = true → (t.shape false = true ↔ t.hl = [])
  | .str z, _ => ⟨fun h => (by cases h), fun h => (by cases h)⟩
  | .tup [], h => by cases h
  | .tup (x :: ps), hs => by
    have hs : (decide (ps.length < 4) && (x.word 8 && shapeL true ps)) = true := hs
    simp only [Bool.and_eq_true, decide_eq_true_eq] at hs
    have ih := shape_hlL ps hs.2.2
    show (decide (ps.length < 4) && (x.word 8 && shapeL false ps)) = true ↔ hlL ps = []
    rw [decide_eq_true hs.1, hs.2.1]
    exact ih
  | .non, h | .bl _, h | .int _, h | .ls, h | .dc, h => by cases h
theorem shape_hlL : ∀ l : List Th, shapeL true l = true → (shapeL false l = true ↔ hlL l = [])
  | [], _ => ⟨fun _ => rfl, fun _ => rfl⟩
  | p :: ps, hs => by
    have hs : (p.shape true && shapeL true ps) = true := hs
    rw [Bool.and_eq_true] at hs
    have h1 := shape_hl p hs.1
    have h2 := shape_hlL ps hs.2
    show (p.shape false && shapeL false ps) = true ↔ p.hl ++ hlL ps = []
    rw [Bool.and_eq_true, List.append_eq_nil_iff, h1, h2]
end
mutual
theorem shape_up : ∀ t : Th, t.shape false = true → t.shape true = true
  | .str z, h => by cases h
  | .tup [], h => by cases h
  | .tup (x :: ps), hs => by
    have hs : (decide (ps.length < 4) && (x.word 8 && shapeL false ps)) = true := hs
    simp only [Bool.and_eq_true, decide_eq_true_eq] at hs
    show (decide (ps.length < 4) && (x.word 8 && shapeL true ps)) = true
    rw [decide_eq_true hs.1, hs.2.1, shape_upL ps hs.2.2]
    rfl
  | .non, h | .bl _, h | .int _, h | .ls, h | .dc, h => by cases h
theorem shape_upL : ∀ l : List Th, shapeL false l = true → shapeL true l = true
  | [], _ => rfl
  | p :: ps, hs => by
    have hs : (p.shape false && shapeL false ps) = true := hs
    rw [Bool.and_eq_true] at hs
    show (p.shape true && shapeL true ps) = true
    rw [shape_up p hs.1, shape_upL ps hs.2]
    rfl
end
theorem within_up {t : Th} (h : within false t = true) : within true t = true := by
  obtain ⟨h1, h2, h3⟩ := within_iff.mp h
  exact within_iff.mpr ⟨shape_up t h1, h2, h3⟩
theorem holes_nil {t : Th} : t.holes = [] ↔ t.hl = [] := by
  constructor
  · intro h
    cases e : t.hl with
    | nil => rfl
    | cons z r =>
      have : z ∈ t.holes := mem_holes.mpr (by rw [e]; exact List.mem_cons_self ..)
      rw [h] at this
      cases this
  · intro h
    cases e : t.holes with
    | nil => rfl
    | cons z r =>
      have : z ∈ t.hl := mem_holes.mp (by rw [e]; exact List.mem_cons_self ..)
      rw [h] at this
      cases this
theorem within_holes {t : Th} (h : within true t = true) : within false t = decide (t.holes = []) := by
  obtain ⟨h1, h2, h3⟩ := within_iff.mp h
  rw [Bool.eq_iff_iff, decide_eq_true_eq, within_iff, holes_nil, ← shape_hl t h1]
  exact ⟨fun q => q.1, fun q => ⟨q, h2, h3⟩⟩
mutual
theorem put_id {g : Str → Th} : ∀ t : Th, t.hl = [] → t.put g = t
  | .str z, h => by cases h
  | .tup [], _ => rfl
  | .tup (x :: ps), h => congrArg (fun l => Th.tup (x :: l)) (put_idL ps h)
  | .non, _ | .bl _, _ | .int _, _ | .ls, _ | .dc, _ => rfl
theorem put_idL {g : Str → Th} : ∀ l : List Th, hlL l = [] → putL g l = l
  | [], _ => rfl
  | p :: ps, h => by
    have h : p.hl ++ hlL ps = [] := h
    rw [List.append_eq_nil_iff] at h
    show p.put g :: putL g ps = _
    rw [put_id p h.1, put_idL ps h.2]
end
end Kt
namespace Kt
open PySem PySem.Spec PyProof.Rows L2
theorem isHl_out {z : Str} (h : isHl z = true) : ∃ l, z.cps.toList = 63 :: l ∧ 1 ≤ l.length ∧ l.length ≤ 4 ∧ l.all lowc = true := by
  unfold isHl at h
  rw [Bool.and_eq_true] at h
  obtain ⟨h1, h2⟩ := h
  have h1 := V.str.inj (of_decide_eq_true h1)
  have e1 : (cutS z none (some 1)).cps.toList = [63] := by
    rw [h1]
    decide +kernel
  have e1 : (z.cps.toList.drop (HT.sIx z.length 0 none)).take (HT.sIx z.length z.length (some ((1 : Nat) : Int)) - HT.sIx z.length 0 none) = [63] := e1
  rw [HT.sIx_none, HT.sIx_nat] at e1
  have e2 : (cutS z (some 1) none).cps.toList = (z.cps.toList.drop (HT.sIx z.length 0 (some ((1 : Nat) : Int)))).take (HT.sIx z.length z.length none - HT.sIx z.length 0 (some ((1 : Nat) : Int))) := rfl
  rw [HT.sIx_none, HT.sIx_nat] at e2
  have zl : z.length = z.cps.toList.length := rfl
  cases hz : z.cps.toList with
  | nil =>
    rw [hz, List.drop_nil, List.take_nil] at e1
    cases e1
  | cons c l =>
    rw [hz, List.length_cons] at zl
    rw [hz, Nat.min_eq_left (by omega)] at e1
    have e1 : [c] = [63] := e1
    cases e1
    rw [hz, Nat.min_eq_left (by omega)] at e2
    have e2 : (cutS z (some 1) none).cps.toList = l.take (z.length - 1) := e2
    rw [List.take_of_length_le (by omega)] at e2
    obtain ⟨g1, g2, g3⟩ := isW_out h2
    rw [len_list, e2] at g1 g2
    rw [e2] at g3
    exact ⟨l, rfl, g1, by omega, g3⟩
end Kt
namespace Kt
open PySem PySem.Spec PyProof.Rows L2
/-! ### things as data; texts tell things apart -/
mutual
def Th.da : Th → PyData
  | .non => .none
  | .bl b => .bool b
  | .int i => .int i
  | .str z => .str z
  | .tup l => .tuple (daL l)
  | .ls => .list []
  | .dc => .list []
def daL : List Th → List PyData
  | [] => []
  | p :: ps => p.da :: daL ps
end
mutual
theorem dp_of {K : PySem.W.Frag} {H : Hp} : ∀ {b : Bool} (t : Th) {v : V}, t.shape b = true → Rep H v t → Dp K H v t.da
  | _, .str z, _, _, r => by
    cases r with
    | str z hz ok => exact .str z
  | _, .tup [], _, h, _ => by cases h
  | b, .tup (x :: ps), _, hs, r => by
    have hs : (decide (ps.length < 4) && (x.word 8 && shapeL b ps)) = true := hs
    simp only [Bool.and_eq_true, decide_eq_true_eq] at hs
    cases r with
    | tup ha hn hl =>
      cases hl with
      | cons hx hps =>
        cases x with
        | str z =>
          cases hx with
          | str z hz ok => exact .tup (SqT.of ha) (.cons (.str z) (dp_ofL ps hs.2.2 hps))
        | _ => cases hs.2.1
  | _, .non, _, h, _ | _, .bl _, _, h, _ | _, .int _, _, h, _ | _, .ls, _, h, _ | _, .dc, _, h, _ => by cases h
theorem dp_ofL {K : PySem.W.Frag} {H : Hp} : ∀ {b : Bool} (l : List Th) {vs : List V}, shapeL b l = true → RepL H vs l → DpAll K H vs (daL l)
  | _, [], _, _, r => by
    cases r
    exact .nil
  | b, p :: ps, _, hs, r => by
    have hs : (p.shape b && shapeL b ps) = true := hs
    rw [Bool.and_eq_true] at hs
    cases r with
    | cons h r => exact .cons (dp_of p hs.1 h) (dp_ofL ps hs.2 r)
end
theorem canStr {z : Str} (h : okS z) : (PyData.str z).canLay0 = true := by
  simp only [PyData.canLay0, PyData.strOk, Array.all_eq_true_iff_forall_mem, decide_eq_true_eq]
  intro x hx
  exact h x (Array.mem_toList_iff.mpr hx)
theorem isHl_ok {z : Str} (h : isHl z = true) : okS z := by
  obtain ⟨l, e, _, _, h3⟩ := isHl_out h
  intro c hc
  rw [e] at hc
  rcases List.mem_cons.mp hc with rfl | hc
  · decide
  · exact lowc_lt (List.all_eq_true.mp h3 c hc)
mutual
theorem can_da {b : Bool} : ∀ t : Th, t.shape b = true → t.da.canLay0 = true ∧ t.da.depth ≤ t.dep
  | .str z, h => by
    have h : (b && isHl z) = true := h
    rw [Bool.and_eq_true] at h
    exact ⟨canStr (isHl_ok h.2), Nat.zero_le _⟩
  | .tup [], h => by cases h
  | .tup (x :: ps), hs => by
    have hs : (decide (ps.length < 4) && (x.word 8 && shapeL b ps)) = true := hs
    simp only [Bool.and_eq_true, decide_eq_true_eq] at hs
    cases x with
    | str z =>
      obtain ⟨h1, h2⟩ := can_daL ps hs.2.2
      have hz := okS_low (isW_out (show isW z 8 = true from hs.2.1)).2.2
      refine ⟨?_, ?_⟩
      · show ((PyData.str z).canLay0 && PyData.canLayAll0 (daL ps)) = true
        rw [canStr hz, h1]
        rfl
      · show max (PyData.str z).depth (PyData.depthAll (daL ps)) + 1 ≤ 1 + depL ps
        have : (PyData.str z).depth = 0 := rfl
        omega
    | _ => cases hs.2.1
  | .non, h | .bl _, h | .int _, h | .ls, h | .dc, h => by cases h
theorem can_daL {b : Bool} : ∀ l : List Th, shapeL b l = true → PyData.canLayAll0 (daL l) = true ∧ PyData.depthAll (daL l) ≤ depL l
  | [], _ => ⟨rfl, Nat.le_refl _⟩
  | p :: ps, hs => by
    have hs : (p.shape b && shapeL b ps) = true := hs
    rw [Bool.and_eq_true] at hs
    obtain ⟨h1, h2⟩ := can_da p hs.1
    obtain ⟨h3, h4⟩ := can_daL ps hs.2
    refine ⟨?_, ?_⟩
    · show (p.da.canLay0 && PyData.canLayAll0 (daL ps)) = true
      rw [h1, h3]
      rfl
    · show max p.da.depth (PyData.depthAll (daL ps)) ≤ max p.dep (depL ps)
      omega
end
theorem shaped_da {b : Bool} {t : Th} (h : within b t = true) : SeqAt.shaped t.da = true := by
  obtain ⟨h1, h2, _⟩ := within_iff.mp h
  obtain ⟨h3, h4⟩ := can_da t h1
  unfold SeqAt.shaped
  rw [h3, decide_eq_true (by omega)]
  rfl
mutual
theorem eqv_da {b c : Bool} : ∀ t u : Th, t.shape b = true → u.shape c = true → (PyData.eqv t.da u.da = true ↔ t = u)
  | .str z, .str y, _, _ => by
    show (z == y) = true ↔ _
    rw [beq_iff_eq]
    exact ⟨fun e => by rw [e], fun e => Th.str.inj e⟩
  | .str z, .tup l, _, _ => ⟨fun h => (by cases h), fun h => (by cases h)⟩
  | .tup l, .str z, _, _ => ⟨fun h => (by cases h), fun h => (by cases h)⟩
  | .tup [], _, h, _ => by cases h
  | .tup (_ :: _), .tup [], _, h => by cases h
  | .tup (x :: ps), .tup (y :: qs), hs, hu => by
    have hs : (decide (ps.length < 4) && (x.word 8 && shapeL b ps)) = true := hs
    have hu : (decide (qs.length < 4) && (y.word 8 && shapeL c qs)) = true := hu
    simp only [Bool.and_eq_true, decide_eq_true_eq] at hs hu
    have ih := eqv_daL ps qs hs.2.2 hu.2.2
    cases x with
    | str z =>
      cases y with
      | str z' =>
        show ((z == z') && PyData.eqvAll (daL ps) (daL qs)) = true ↔ _
        rw [Bool.and_eq_true, ih, beq_iff_eq]
        exact ⟨fun ⟨e1, e2⟩ => by rw [e1, e2], fun e => by
          have := Th.tup.inj e
          exact ⟨Th.str.inj (List.cons.inj this).1, (List.cons.inj this).2⟩⟩
      | _ => cases hu.2.1
    | _ => cases hs.2.1
  | .non, _, h, _ | .bl _, _, h, _ | .int _, _, h, _ | .ls, _, h, _ | .dc, _, h, _ => by cases h
  | .str _, .non, _, h | .str _, .bl _, _, h | .str _, .int _, _, h | .str _, .ls, _, h | .str _, .dc, _, h => by cases h
  | .tup (_ :: _), .non, _, h | .tup (_ :: _), .bl _, _, h | .tup (_ :: _), .int _, _, h | .tup (_ :: _), .ls, _, h | .tup (_ :: _), .dc, _, h => by cases h
theorem eqv_daL {b c : Bool} : ∀ l r : List Th, shapeL b l = true → shapeL c r = true → (PyData.eqvAll (daL l) (daL r) = true ↔ l = r)
  | [], [], _, _ => ⟨fun _ => rfl, fun _ => rfl⟩
  | [], _ :: _, _, _ => ⟨fun h => (by cases h), fun h => (by cases h)⟩
  | _ :: _, [], _, _ => ⟨fun h => (by cases h), fun h => (by cases h)⟩
  | p :: ps, q :: qs, hs, hu => by
    have hs : (p.shape b && shapeL b ps) = true := hs
    have hu : (q.shape c && shapeL c qs) = true := hu
    rw [Bool.and_eq_true] at hs hu
    show (PyData.eqv p.da q.da && PyData.eqvAll (daL ps) (daL qs)) = true ↔ _
    rw [Bool.and_eq_true, eqv_da p q hs.1 hu.1, eqv_daL ps qs hs.2 hu.2]
    exact ⟨fun ⟨e1, e2⟩ => by rw [e1, e2], fun e => List.cons.inj e⟩
end
end Kt
namespace Kt
open PySem PySem.Spec PyProof.Rows L2
/-! ### a law's own walks: size, depth -/
theorem range_getD {α β : Type} (l : List α) (d : α) (p : α → β) {n : Nat} (hn : l.length = n) : (List.range n).map (fun i => p (l.getD i d)) = l.map p := by
  subst hn
  apply List.ext_getElem
  · rw [List.length_map, List.length_map, List.length_range]
  · intro i h1 h2
    rw [List.length_map, List.length_range] at h1
    rw [List.getElem_map, List.getElem_map, List.getElem_range, List.getD_eq_getElem?_getD, List.getElem?_eq_getElem h1]
    rfl
theorem sizeL_sum : ∀ l : List Th, sizeL l = (l.map Th.size).sum
  | [] => rfl
  | p :: ps => by
    rw [List.map_cons, List.sum_cons, ← sizeL_sum ps]
    rfl
theorem depL_ub {m : Int} : ∀ {l : List Th}, 0 ≤ m → (∀ t ∈ l, ((t.dep : Nat) : Int) ≤ m) → ((depL l : Nat) : Int) ≤ m
  | [], h0, _ => h0
  | p :: ps, h0, h => by
    have h1 := h p (List.mem_cons_self ..)
    have h2 := depL_ub h0 fun t ht => h t (List.mem_cons_of_mem _ ht)
    show ((max p.dep (depL ps) : Nat) : Int) ≤ m
    omega
theorem le_depL : ∀ {l : List Th} {t : Th}, t ∈ l → t.dep ≤ depL l
  | p :: ps, t, ht => by
    show t.dep ≤ max p.dep (depL ps)
    rcases List.mem_cons.mp ht with rfl | ht
    · omega
    · have := le_depL ht
      omega
theorem depL_max {ps : List Th} {m : Int} (hm : m ∈ ps.map fun t => ((t.dep : Nat) : Int)) (hall : ∀ y, y ∈ (ps.map fun t => ((t.dep : Nat) : Int)) → y ≤ m) : m = (depL ps : Nat) := by
  obtain ⟨t, ht, rfl⟩ := List.mem_map.mp hm
  have h1 := depL_ub (l := ps) (m := ((t.dep : Nat) : Int)) (by omega) fun t ht => hall _ (List.mem_map.mpr ⟨t, ht, rfl⟩)
  have h2 := le_depL ht
  omega
def sp_lsize (n : Nat) : Sp := fun vs H Q _ => ∃ v t b, vs = [v] ∧ t.hgt < n ∧ t.shape b = true ∧ Rep H v t ∧ ∀ H', Same H H' → Q (.int t.size) H'
def sp_ldepth (n : Nat) : Sp := fun vs H Q _ => ∃ v t b, vs = [v] ∧ t.hgt < n ∧ t.shape b = true ∧ Rep H v t ∧ ∀ H', Same H H' → Q (.int (t.dep : Nat)) H'
section
variable {P : Program} {w : World} {K : PySem.W.Frag} {mg : Str → Option Value} {base : Heap}
theorem c__law_size (T : Tx K mg) : ∀ n : Nat, Cl P w K mg base CX0 (n + 1) "_law_size" ["_law_one"] (sp_lsize n)
  | 0 => Cl.no T.d__law_size fun vs H Q E h => by
    obtain ⟨v, t, b, _, hd, _⟩ := h
    exact absurd hd (Nat.not_lt_zero _)
  | n + 1 => by
    have ih := c__law_size T n
    refine Cl.mk0 T.d__law_size sc__law_size (fun vs H Q E h => ?_) (fun f cdv A outer s H vs Q E hr h => ?_)
    · obtain ⟨v, t, b, rfl, _⟩ := h
      rfl
    obtain ⟨v, t, b, rfl, hd, hs, r, q⟩ := h
    refine ⟨_, (pss_cons (ps_if (pt_val (pe_callB (id := "isinstance") (r := rIsi K) call_isi (by rfl) T.z_isinstance (by decide +kernel) (pa_cons (pv 0) (pa_cons (pe_bltn (v := .ty "str") (u := .type "str") (by rfl) T.z_str (by decide +kernel) rfl) pa_nil))))
      (pss_one (ps_ret pe_int))
      pss_nil)
    (pss_one (ps_ret (pe_op op_add pe_int (pe_callB (cr_sum rfl) (by rfl) T.z_sum (by decide +kernel) (pa_cons (pe_lc (own := [("_law_part", 1)]) (g := gName 1) (tt := tYes) rfl sc__law_size.nd (pi_tup (pe_slice (SlR.or sl_str sl_tupA) (pv 0) (po_some pe_int) po_no)) (blkOk_by (own := [("_law_part", 1)]) (N := ["_law_one", "_law_part"]) (sc := defScope s__law_size) (by decide +kernel)) (fun _ _ _ _ _ => (pg_name (i := 1) sc__law_size.nd rfl (Or.inl rfl))) (fun _ _ _ _ _ => pts_nil) (fun _ _ _ _ _ => (pe_cl ih hr (by omega) rfl (pa_cons (pv 1) pa_nil)))) pa_nil)))))), ?_⟩
    refine ⟨_, rfl, _, _, _, _, _, rfl, .ty _, r.tyx, kstr t, _, rfl, ?_⟩
    cases r with
    | str z hz ok => exact iteT (q H (Same.refl H))
    | @tup a xs l ha hn hl =>
      obtain ⟨z, ps, rfl, h4, h8, hall⟩ := shape_tup hs
      cases hl with
      | @cons y ys _ _ hx hps =>
        have hlen := hps.length
        refine iteF ⟨_, rfl, 1, rfl, .inr (sl_lo (K := K) 1 ha (by omega) (by rw [List.length_cons]; omega) fun p hp => ?_)⟩
        have s1 := same_new (o := .tup ys) hp
        refine ⟨p, rfl, ⟨ys, SqT.of upd_same⟩, fun D hD => ?_⟩
        have hps1 := hps.wk (Wk.same s1)
        refine lc_pure (walk_tup (K := K) (xs := ys)) (fun i => .int ((ps.map Th.size).getD i 0)) hD (by omega) (fun H' s' => SqT.of (s' _ _ upd_same)) (fun x => rfl) (fun i x H1 H2 hi sx yy => ?_) (fun H1 sx e1 => ?_)
        · obtain ⟨rfl, hx'⟩ := yy
          obtain ⟨t', ht', rt'⟩ := (hps1.wk (Wk.same sx)).get' hx'
          have mt := List.mem_of_getElem? ht'
          refine ⟨Same.refl _, fun Q' q' => ⟨_, rfl, x, t', b, rfl, hgt_part hd t' (List.mem_cons_of_mem _ mt), hall t' mt, rt', fun H3 s3 => ?_⟩⟩
          have e : (ps.map Th.size).getD i 0 = t'.size := by
            rw [List.getD_eq_getElem?_getD, List.getElem?_map, ht']
            rfl
          have q2 := q' H3 s3
          rw [e] at q2
          exact q2
        · refine ⟨D, ps.map Th.size, rfl, SqL.of ?_, _, _, rfl, rfl, ?_⟩
          · rw [e1]
            exact congrArg (fun l => some (HO.lst l)) (range_getD (ps.map Th.size) 0 V.int (by rw [List.length_map]; omega))
          · have q2 := q H1 (s1.trans sx)
            rw [show (Th.tup (.str z :: ps)).size = 1 + (ps.map Th.size).sum by rw [← sizeL_sum]; rfl] at q2
            exact q2
    | _ => cases hs
theorem c__law_depth (T : Tx K mg) : ∀ n : Nat, Cl P w K mg base CX0 (n + 1) "_law_depth" ["_law_one"] (sp_ldepth n)
  | 0 => Cl.no T.d__law_depth fun vs H Q E h => by
    obtain ⟨v, t, b, _, hd, _⟩ := h
    exact absurd hd (Nat.not_lt_zero _)
  | n + 1 => by
    have ih := c__law_depth T n
    refine Cl.mk0 T.d__law_depth sc__law_depth (fun vs H Q E h => ?_) (fun f cdv A outer s H vs Q E hr h => ?_)
    · obtain ⟨v, t, b, rfl, _⟩ := h
      rfl
    obtain ⟨v, t, b, rfl, hd, hs, r, q⟩ := h
    refine ⟨_, (pss_cons (ps_if (PW.pt (pw_or (pt_val (pe_callB (id := "isinstance") (r := rIsi K) call_isi (by rfl) T.z_isinstance (by decide +kernel) (pa_cons (pv 0) (pa_cons (pe_bltn (v := .ty "str") (u := .type "str") (by rfl) T.z_str (by decide +kernel) rfl) pa_nil)))) (pw_or1 (pt_cmpR op_eq (pe_callB call_len (by rfl) T.z_len (by decide +kernel) (pa_cons (pv 0) pa_nil)) pe_int (nomark _)))))
      (pss_one (ps_ret pe_int))
      pss_nil)
    (pss_one (ps_ret (pe_op op_add pe_int (pe_callB (cr_max rfl) (by rfl) T.z_max (by decide +kernel) (pa_cons (pe_lc (own := [("_law_part", 1)]) (g := gName 1) (tt := tYes) rfl sc__law_depth.nd (pi_tup (pe_slice (SlR.or sl_str sl_tupA) (pv 0) (po_some pe_int) po_no)) (blkOk_by (own := [("_law_part", 1)]) (N := ["_law_one", "_law_part"]) (sc := defScope s__law_depth) (by decide +kernel)) (fun _ _ _ _ _ => (pg_name (i := 1) sc__law_depth.nd rfl (Or.inl rfl))) (fun _ _ _ _ _ => pts_nil) (fun _ _ _ _ _ => (pe_cl ih hr (by omega) rfl (pa_cons (pv 1) pa_nil)))) pa_nil)))))), ?_⟩
    refine ⟨_, rfl, _, _, _, _, _, rfl, .ty _, r.tyx, kstr t, _, rfl, ?_⟩
    cases r with
    | str z hz ok => exact iteT (iteT (q H (Same.refl H)))
    | @tup a xs l ha hn hl =>
      obtain ⟨z, ps, rfl, h4, h8, hall⟩ := shape_tup hs
      cases hl with
      | @cons y ys _ _ hx hps =>
        have hlen := hps.length
        refine iteF ⟨_, rfl, _, _, rfl, .inr ⟨_, SqT.of ha, rfl⟩, rfl, _, rfl, ite2 (fun c => ?_) (fun c => ?_)⟩
        · have c' : (((y :: ys).length : Nat) : Int) = 1 := V.int.inj (of_decide_eq_true c)
          rw [List.length_cons] at c'
          have e : ps = [] := List.eq_nil_of_length_eq_zero (by omega)
          subst e
          exact q H (Same.refl H)
        have hne : ps ≠ [] := fun e => c (decide_eq_true (by
          subst e
          rw [List.length_nil] at hlen
          rw [List.length_cons, hlen]
          rfl))
        refine ⟨_, rfl, 1, rfl, .inr (sl_lo (K := K) 1 ha (by omega) (by rw [List.length_cons]; omega) fun p hp => ?_)⟩
        have s1 := same_new (o := .tup ys) hp
        refine ⟨p, rfl, ⟨ys, SqT.of upd_same⟩, fun D hD => ?_⟩
        have hps1 := hps.wk (Wk.same s1)
        refine lc_pure (walk_tup (K := K) (xs := ys)) (fun i => .int ((ps.map fun t => ((t.dep : Nat) : Int)).getD i 0)) hD (by rw [List.length_cons] at hn; omega) (fun H' s' => SqT.of (s' _ _ upd_same)) (fun x => rfl) (fun i x H1 H2 hi sx yy => ?_) (fun H1 sx e1 => ?_)
        · obtain ⟨rfl, hx'⟩ := yy
          obtain ⟨t', ht', rt'⟩ := (hps1.wk (Wk.same sx)).get' hx'
          have mt := List.mem_of_getElem? ht'
          refine ⟨Same.refl _, fun Q' q' => ⟨_, rfl, x, t', b, rfl, hgt_part hd t' (List.mem_cons_of_mem _ mt), hall t' mt, rt', fun H3 s3 => ?_⟩⟩
          have e : (ps.map fun t => ((t.dep : Nat) : Int)).getD i 0 = (t'.dep : Nat) := by
            rw [List.getD_eq_getElem?_getD, List.getElem?_map, ht']
            rfl
          have q2 := q' H3 s3
          rw [e] at q2
          exact q2
        · refine ⟨D, ps.map fun t => ((t.dep : Nat) : Int), rfl, SqL.of ?_, ?_, fun m hm hall' => ⟨_, _, rfl, rfl, ?_⟩⟩
          · rw [e1]
            exact congrArg (fun l => some (HO.lst l)) (range_getD (ps.map fun t => ((t.dep : Nat) : Int)) 0 V.int (by rw [List.length_map]; omega))
          · rw [List.length_map]
            exact List.length_pos_iff.mpr hne
          · have q2 := q H1 (s1.trans sx)
            rw [show (((Th.tup (.str z :: ps)).dep : Nat) : Int) = 1 + m by rw [depL_max hm hall']; show (((1 + depL ps) : Nat) : Int) = _; omega] at q2
            exact q2
    | _ => cases hs
end
end Kt
namespace Kt
open PySem PySem.Spec PyProof.Rows L2
theorem size_in {t : Th} {z : Str} {ps : List Th} (h : t ∈ ps) : t.size + 1 ≤ (Th.tup (.str z :: ps)).size := by
  have key : ∀ l : List Th, t ∈ l → t.size ≤ sizeL l := by
    intro l
    induction l with
    | nil => exact fun h => (List.not_mem_nil h).elim
    | cons p r ih =>
      intro h
      have h1 := allL_len r
      have h2 := allW_len p
      show t.size ≤ p.size + sizeL r
      rcases List.mem_cons.mp h with rfl | h
      · omega
      · have := ih h
        omega
  have := key ps h
  show _ ≤ 1 + sizeL ps
  omega
end Kt
namespace Kt
open PySem PySem.Spec PyProof.Rows L2
/-! ### a law's own walk: holes -/
def mrg (l r : List Str) : List Str := l ++ r.filter fun z => !decide (z ∈ l)
theorem addH_mrg (acc G : List Str) (x : Th) : addH (mrg acc G) x = mrg acc (addH G x) := by
  cases x with
  | str z =>
    show addU (mrg acc G) z = mrg acc (addU G z)
    have hm : z ∈ mrg acc G ↔ z ∈ acc ∨ z ∈ G := by
      unfold mrg
      rw [List.mem_append, List.mem_filter]
      constructor
      · rintro (h | h)
        · exact .inl h
        · exact .inr h.1
      · rintro (h | h)
        · exact .inl h
        · by_cases h2 : z ∈ acc
          · exact .inl h2
          · exact .inr ⟨h, by rw [decide_eq_false h2]; rfl⟩
    unfold addU
    by_cases h1 : z ∈ G
    · rw [if_pos h1, if_pos (hm.mpr (.inr h1))]
    · rw [if_neg h1]
      by_cases h2 : z ∈ acc
      · rw [if_pos (hm.mpr (.inl h2))]
        unfold mrg
        rw [List.filter_append, List.filter_cons, decide_eq_true h2]
        simp
      · rw [if_neg fun h => (hm.mp h).elim h2 h1]
        unfold mrg
        rw [List.filter_append, List.filter_cons, decide_eq_false h2]
        simp
  | _ => rfl
theorem fold_mrg (acc : List Str) : ∀ (ts : List Th) (G : List Str), ts.foldl addH (mrg acc G) = mrg acc (ts.foldl addH G)
  | [], _ => rfl
  | x :: ts, G => by
    rw [List.foldl_cons, List.foldl_cons, addH_mrg, fold_mrg acc ts]
theorem holes_step (l : List Th) (p : Th) : (allL (l ++ [p])).foldl addH [] = mrg ((allL l).foldl addH []) p.holes := by
  rw [allL_app, List.foldl_append]
  have e : allL [p] = allW p := List.append_nil _
  have e2 : mrg ((allL l).foldl addH []) [] = (allL l).foldl addH [] := List.append_nil _
  rw [e]
  have := fold_mrg ((allL l).foldl addH []) (allW p) []
  rw [e2] at this
  exact this
def sp_lholes (n : Nat) : Sp := fun vs H Q _ => ∃ v t b, vs = [v] ∧ t.hgt < n ∧ t.shape b = true ∧ t.size ≤ 900 ∧ Rep H v t ∧ ∀ p H', Same H H' → H p = none → H' p = some (.lst (t.holes.map V.str)) → Q (.ref p) H'
theorem holes_le (t : Th) : (t.holes.length : Int) ≤ t.size := by
  have h1 := foldH_len (allW t) []
  have h2 := allW_len t
  have e : t.holes = (allW t).foldl addH [] := rfl
  rw [e]
  have : ([] : List Str).length = 0 := rfl
  omega
theorem all_flat : ∀ l : List Str, (l.map V.str).all flatV = true
  | [] => rfl
  | z :: l => all_flat l
theorem in_strs (z : Str) (l : List Str) : (!inV (.str z) (l.map V.str)) = !decide (z ∈ l) := by
  have key : ∀ l : List Str, inV (.str z) (l.map V.str) = decide (z ∈ l) := by
    intro l
    induction l with
    | nil => rfl
    | cons y l ih =>
      show ((y == z) || inV (.str z) (l.map V.str)) = decide (z ∈ y :: l)
      rw [ih]
      by_cases e : y = z
      · subst e
        simp
      · have e2 : ¬ z = y := fun h => e h.symm
        simp [e, e2]
  rw [key]
theorem strs_get {l : List Str} {j : Nat} {x : V} (h : (l.map V.str)[j]? = some x) : ∃ z, x = .str z ∧ l[j]? = some z := by
  rw [List.getElem?_map] at h
  cases e : l[j]? with
  | none =>
    rw [e] at h
    cases h
  | some z =>
    rw [e] at h
    cases h
    exact ⟨z, rfl, rfl⟩
section
variable {P : Program} {w : World} {K : PySem.W.Frag} {mg : Str → Option Value} {base : Heap}
theorem c__law_holes (T : Tx K mg) : ∀ n : Nat, Cl P w K mg base CX0 (n + 1) "_law_holes" ["_law_one"] (sp_lholes n)
  | 0 => Cl.no T.d__law_holes fun vs H Q E h => by
    obtain ⟨v, t, b, _, hd, _⟩ := h
    exact absurd hd (Nat.not_lt_zero _)
  | n + 1 => by
    have ih := c__law_holes T n
    refine Cl.mk0 T.d__law_holes sc__law_holes (fun vs H Q E h => ?_) (fun f cdv A outer s H vs Q E hr h => ?_)
    · obtain ⟨v, t, b, rfl, _⟩ := h
      rfl
    obtain ⟨v, t, b, rfl, hd, hs, hz, r, q⟩ := h
    refine ⟨_, (pss_cons (ps_if (pt_val (pe_callB (id := "isinstance") (r := rIsi K) call_isi (by rfl) T.z_isinstance (by decide +kernel) (pa_cons (pv 0) (pa_cons (pe_bltn (v := .ty "str") (u := .type "str") (by rfl) T.z_str (by decide +kernel) rfl) pa_nil))))
      (pss_one (ps_ret (pe_lst (pa_cons (pv 0) pa_nil))))
      pss_nil)
    (pss_cons (ps_set (i := 1) sc__law_holes.nd rfl (Or.inr rfl) (pe_lst pa_nil))
    (pss_cons (ps_for PassesOwn.never rfl (pi_tup (pe_slice (SlR.or sl_str sl_tupA) (pv 0) (po_some pe_int) po_no)) (pg_name (i := 2) sc__law_holes.nd rfl (Or.inl rfl))
      (pss_one (ps_set (i := 1) sc__law_holes.nd rfl (Or.inr rfl) (pe_op op_cat (pv 1) (pe_lc (own := [("_law_hole_here", 3)]) (g := gName 3) rfl sc__law_holes.nd (pi_list (pe_cl ih hr (by omega) rfl (pa_cons (pv 2) pa_nil))) (blkOk_by (own := [("_law_hole_here", 3)]) (N := ["_law_one", "_law_found", "_law_part", "_law_hole_here"]) (sc := defScope s__law_holes) (by decide +kernel)) (fun _ _ _ _ _ => (pg_name (i := 3) sc__law_holes.nd rfl (Or.inl rfl))) (fun _ _ _ _ _ => (pts_one (pt_cmpR (r := rIn K true) op_notIn_seq (pv 3) (pv 1) rfl))) (fun _ _ _ _ _ => (pv 3)))))))
    (pss_one (ps_ret (pv 1)))))), ?_⟩
    refine ⟨_, rfl, _, _, _, _, _, rfl, .ty _, r.tyx, kstr t, _, rfl, ?_⟩
    cases r with
    | str z hz' ok => exact iteT ⟨_, rfl, by show 1 ≤ sizeLine; decide, fun p hp => q p _ (same_new hp _) hp upd_same⟩
    | @tup a xs l ha hn hl =>
      obtain ⟨z, ps, rfl, h4, h8, hall⟩ := shape_tup hs
      cases hl with
      | @cons y ys _ _ hx hps =>
        have hlen := hps.length
        refine iteF ⟨Nat.zero_le _, fun p0 hp0 => ?_⟩
        have s0 := same_new hp0 (.lst [])
        refine ⟨_, rfl, 1, rfl, .inr (sl_lo (K := K) 1 (s0 _ _ ha) (by omega) (by rw [List.length_cons]; omega) fun p1 hp1 => ?_)⟩
        have s1 := s0.trans (same_new (o := .tup ys) hp1)
        have hps1 := hps.wk (Wk.same s1)
        refine ⟨p1, rfl, ⟨ys, SqT.of upd_same⟩, for_tup (xs := ys) (fun i σ H' => ∃ p y2 y3, σ = [some (.ref a), some (.ref p), y2, y3] ∧ Same H H' ∧ H p = none ∧ H' p1 = some (.tup ys) ∧ H' p = some (.lst (((allL (ps.take i)).foldl addH []).map V.str)) ∧ RepL H' ys ps)
          ⟨p0, none, none, rfl, s1, hp0, upd_same, (same_new (o := .tup ys) hp1) _ _ upd_same, hps1⟩ (fun i σ H' _ h' => ?_) (fun i x σ H' hx' h' => ?_) (fun σ H' h' => ?_)⟩
        · obtain ⟨_, _, _, _, _, _, h5, _⟩ := h'
          exact SqT.of h5
        · obtain ⟨p, y2, y3, rfl, sH, hp, h5, h6, h7⟩ := h'
          obtain ⟨t', ht', rt'⟩ := h7.get' hx'
          have mt := List.mem_of_getElem? ht'
          have hsz := size_in (z := z) mt
          refine ⟨_, rfl, _, rfl, x, t', b, rfl, hgt_part hd t' (List.mem_cons_of_mem _ mt), hall t' mt, by omega, rt', fun p2 H2 s2 np2 hp2 => ⟨p2, rfl, ⟨_, SqL.of hp2⟩, fun D hD => ?_⟩⟩
          have s12 := sH.trans s2
          have h6' := s2 _ _ h6
          have hlz := holes_le t'
          have hla : (((allL (ps.take i)).foldl addH []).length : Int) ≤ 900 := by
            have k1 := foldH_len (allL (ps.take i)) []
            have k2 : (allL (ps.take i)).length ≤ (allL ps).length := by
              have : allL ps = allL (ps.take i) ++ allL (ps.drop i) := by rw [← allL_app, List.take_append_drop]
              rw [this, List.length_append]
              omega
            have k3 := allL_len ps
            have k4 : (Th.tup (.str z :: ps)).size = 1 + sizeL ps := rfl
            have : ([] : List Str).length = 0 := rfl
            omega
          generalize hA : (allL (ps.take i)).foldl addH [] = acc at h6' hla
          refine lc_it (walk_list (K := K) (xs := t'.holes.map V.str)) (fun j Hx => Same H2 Hx ∧ Hx D = some (.lst (((t'.holes.take j).filter fun z => !decide (z ∈ acc)).map V.str))) ⟨same_new hD _, upd_same⟩ (fun j Hx _ k => SqL.of (k.1 _ _ hp2)) (fun j x2 Hx Hy hj k yy => ?_) (fun Hx k => ?_)
          · obtain ⟨rfl, hx2⟩ := yy
            obtain ⟨z2, rfl, hz3⟩ := strs_get hx2
            have tk : t'.holes.take (j + 1) = t'.holes.take j ++ [z2] := by
              rw [List.take_add_one, hz3]
              rfl
            refine ⟨rfl, _, rfl, _, rfl, p, _, rfl, .inl (SqL.of (k.1 _ _ h6')), rfl, all_flat acc, _, rfl, ?_⟩
            rw [in_strs]
            refine ite2 (fun c => ?_) (fun c => ?_)
            · refine ⟨_, rfl, _, k.2, small1000 ?_, Same.mut k.1 hD, ?_⟩
              · have k1 := List.length_filter_le (fun z => !decide (z ∈ acc)) (t'.holes.take j)
                have k2 := List.length_take_le' j t'.holes
                rw [List.length_map]
                omega
              · have c : (!decide (z2 ∈ acc)) = true := c
                rw [tk, List.filter_append, List.filter_cons, if_pos c, upd_same, List.map_append]
                rfl
            · refine ⟨k.1, ?_⟩
              have c : ¬ (!decide (z2 ∈ acc)) = true := c
              rw [tk, List.filter_append, List.filter_cons, if_neg c, List.filter_nil, List.append_nil]
              exact k.2
          · obtain ⟨k1, k2⟩ := k
            rw [List.length_map, List.take_length] at k2
            have h6x := k1 _ _ h6'
            refine ⟨p, D, _, _, rfl, rfl, h6x, k2, ?_, fun M hM => ⟨M, _, _, rfl, (s12.trans k1).trans (same_new hM _), ?_, ?_, ?_, ?_⟩⟩
            · have l1 := List.length_filter_le (fun z => !decide (z ∈ acc)) t'.holes
              rw [List.length_map, List.length_map]
              exact Nat.le_trans (by omega : acc.length + _ ≤ 2000) (by decide)
            · cases e : H M with
              | none => rfl
              | some o =>
                have := (s12.trans k1) _ _ e
                rw [hM] at this
                cases this
            · exact (s2.trans (k1.trans (same_new hM _))) _ _ h5
            · have e : (allL (ps.take (i + 1))).foldl addH [] = mrg acc t'.holes := by
                rw [List.take_add_one, ht', ← hA]
                exact holes_step (ps.take i) t'
              rw [e, upd_same]
              unfold mrg
              rw [List.map_append]
            · exact (h7.wk (Wk.same s2)).wk (Wk.same (k1.trans (same_new hM _)))
        · obtain ⟨p, y2, y3, rfl, sH, hp, h5, h6, h7⟩ := h'
          rw [hlen, List.take_length] at h6
          exact ⟨_, rfl, q p H' sH hp h6⟩
    | _ => cases hs
end
end Kt
namespace Kt
open PySem PySem.Spec PyProof.Rows L2
/-! ### a list of bools that are counted -/
def isTr (v : Value) : Bool := match v with
  | .bool b => b
  | _ => false
def rCntB (K : PySem.W.Frag) : V → List V → Hp → VK → Prop := fun x xs H Q => ∃ (p : Addr) (bs : List Bool), x = .ref p ∧ xs = [.bl true] ∧ SqL K H p (bs.map V.bl) ∧ Q (.int (bs.count true : Nat)) H
theorem bls_of_vals : ∀ {bs : List Bool} {us : List Value}, Vals (bs.map V.bl) us → us = bs.map Value.bool
  | [], us, r => by
    rw [List.map_nil] at r
    cases r
    rfl
  | b :: bs, us, r => by
    rw [List.map_cons] at r
    cases r with
    | cons h r2 =>
      cases h
      rw [bls_of_vals r2]
      rfl
theorem mt_lcountB {X : Cx} : MtR X "list.count" (rCntB X.K) := by
  intro pins s σ H x xs v us Q I rx rxs h
  obtain ⟨p, bs, rfl, rfl, hs, q⟩ := h
  cases rx
  obtain ⟨u, rfl, ru⟩ := rxs.one
  cases ru
  obtain ⟨its, rv, ⟨⟨cls, dd, data, sl⟩, n, ho, hc, hdn, hd⟩, hlen⟩ := I.list hs
  simp only at hc hd
  subst hc hd
  have hi := bls_of_vals rv
  subst hi
  refine call_meets PySem.F.slot_list_count ⟨_, ho, rfl⟩ PySem.F.entry_list_count (PySem.F.args_list_count_2 _ _)
    (SeqAt.list_countAt p (bs.map Value.bool).toArray n dd sl (.bool true) isTr) ⟨ho, fun y hy => ?_, ?_⟩
  · obtain ⟨b, _, rfl⟩ := List.mem_map.mp (show y ∈ bs.map Value.bool by simpa using hy)
    have := SeqAt.EqAt.bool_bool (A := X.A.in1) (s := s) b true
    rw [show (b == true) = isTr (Value.bool b) by cases b <;> rfl] at this
    exact this
  have ec : (bs.map Value.bool).toArray.toList.countP isTr = bs.count true := by
    show (bs.map Value.bool).countP isTr = bs.count true
    rw [List.countP_map]
    refine List.countP_congr fun b _ => ?_
    show isTr (Value.bool b) = true ↔ (b == true) = true
    cases b <;> exact Iff.rfl
  refine ⟨.int (bs.count true : Nat), H, I.tok _, ⟨s.toks, ?_⟩, q⟩
  show Value.int (((bs.map Value.bool).toArray.toList.countP isTr : Nat) : Int) s.toks = Value.int ((bs.count true : Nat) : Int) s.toks
  rw [ec]
end Kt
namespace Kt
open PySem PySem.Spec PyProof.Rows L2
theorem rstr {H : Hp} (z : Str) (h : z.length ≤ 100 := by decide) (ok : z.cps.toList.all (fun c => decide (c < 1114112)) = true := by decide +kernel) : Rep H (.str z) (.str z) :=
  .str z h fun c hc => of_decide_eq_true (List.all_eq_true.mp ok c hc)
end Kt
namespace Kt
open PySem PySem.Spec PyProof.Rows L2
/-! ### what a filling comes to -/
inductive Out where
  | term (t : Th) | kind (z : Str) | hole (z : Str)
/-- what a dict gives for each text -/
def Gv (H : Hp) (kvs : List (Key × V)) (g : Str → Option Th) : Prop := ∀ z, (g z = none ∧ valV kvs (Sum.inr z) = none) ∨ ∃ t v, g z = some t ∧ valV kvs (Sum.inr z) = some v ∧ Rep H v t
theorem Gv.wk {H H' : Hp} {kvs : List (Key × V)} {g : Str → Option Th} (h : Gv H kvs g) (w : Wk H H') : Gv H' kvs g := fun z => by
  rcases h z with h | ⟨t, v, h1, h2, r⟩
  · exact .inl h
  · exact .inr ⟨t, v, h1, h2, r.wk w⟩
def gT (g : Str → Option Th) (z : Str) : Th := (g z).getD .non
def lackL (t : Th) (g : Str → Option Th) : List Str := t.holes.filter fun z => (g z).isNone
def badL (t : Th) (g : Str → Option Th) : List Str := t.holes.filter fun z => !within false (gT g z)
def outOf (t : Th) (g : Str → Option Th) : Out :=
  if within true t = true then
    match lackL t g with
    | z :: _ => .hole z
    | [] => if badL t g = [] then if within false (t.put (gT g)) = true then .term (t.put (gT g)) else .kind "TooGreat" else .kind "BadTerm"
  else .kind "BadPattern"
theorem first_of {p : Str → Bool} : ∀ {l : List Str} {i : Nat} {z : Str}, l[i]? = some z → p z = true → (∀ y ∈ l.take i, p y = false) → ∃ r, l.filter p = z :: r
  | [], _, _, h, _, _ => by simp at h
  | y :: l, 0, z, h, hp, _ => by
    obtain rfl : y = z := by simpa using h
    exact ⟨l.filter p, by rw [List.filter_cons, if_pos hp]⟩
  | y :: l, i + 1, z, h, hp, ha => by
    have hy : p y = false := ha y (by rw [List.take_succ_cons]; exact List.mem_cons_self ..)
    obtain ⟨r, e⟩ := first_of (l := l) (i := i) (z := z) (by simpa using h) hp fun x hx => ha x (by rw [List.take_succ_cons]; exact List.mem_cons_of_mem _ hx)
    exact ⟨r, by rw [List.filter_cons, if_neg (by rw [hy]; decide), e]⟩
theorem none_of {p : Str → Bool} {l : List Str} (h : ∀ y ∈ l, p y = false) : l.filter p = [] := List.filter_eq_nil_iff.mpr fun y hy => by rw [h y hy]; decide
theorem out_bad {t : Th} {g : Str → Option Th} (h : within true t = false) : outOf t g = .kind "BadPattern" := by
  unfold outOf
  rw [if_neg (by rw [h]; decide)]
theorem out_lack {t : Th} {g : Str → Option Th} {z : Str} {r : List Str} (h : within true t = true) (e : lackL t g = z :: r) : outOf t g = .hole z := by
  unfold outOf
  rw [if_pos h, e]
theorem out_term {t : Th} {g : Str → Option Th} (h : within true t = true) (e : lackL t g = []) (n : badL t g ≠ []) : outOf t g = .kind "BadTerm" := by
  unfold outOf
  rw [if_pos h, e]
  exact if_neg n
theorem out_great {t : Th} {g : Str → Option Th} (h : within true t = true) (e : lackL t g = []) (n : badL t g = []) (w : within false (t.put (gT g)) = false) : outOf t g = .kind "TooGreat" := by
  unfold outOf
  rw [if_pos h, e]
  show (if badL t g = [] then _ else _) = _
  rw [if_pos n, if_neg (by rw [w]; decide)]
theorem out_ok {t : Th} {g : Str → Option Th} (h : within true t = true) (e : lackL t g = []) (n : badL t g = []) (w : within false (t.put (gT g)) = true) : outOf t g = .term (t.put (gT g)) := by
  unfold outOf
  rw [if_pos h, e]
  show (if badL t g = [] then _ else _) = _
  rw [if_pos n, if_pos w]
/-- what stands for an outcome -/
def OutV (H : Hp) (u : V) : Out → Prop
  | .term t => within false t = true ∧ Rep H u t
  | .kind z => okS z ∧ ∃ p, u = .ref p ∧ H p = some (.lst [.str z])
  | .hole z => okS z ∧ ∃ p, u = .ref p ∧ H p = some (.lst [.str "NoHole", .str z])
theorem OutV.same {H H' : Hp} {u : V} {o : Out} (h : OutV H u o) (s : Same H H') : OutV H' u o := by
  cases o with
  | term t => exact ⟨h.1, h.2.wk (Wk.same s)⟩
  | kind z =>
    obtain ⟨ok, p, e, hp⟩ := h
    exact ⟨ok, p, e, s _ _ hp⟩
  | hole z =>
    obtain ⟨ok, p, e, hp⟩ := h
    exact ⟨ok, p, e, s _ _ hp⟩
def Out.da : Out → PyData
  | .term t => t.da
  | .kind z => .list [.str z]
  | .hole z => .list [.str "NoHole", .str z]
theorem okS_by (z : Str) (ok : z.cps.toList.all (fun c => decide (c < 1114112)) = true := by decide +kernel) : okS z := fun c hc => of_decide_eq_true (List.all_eq_true.mp ok c hc)
theorem OutV.dp {K : PySem.W.Frag} {H : Hp} {u : V} {o : Out} (h : OutV H u o) : Dp K H u o.da ∧ SeqAt.shaped o.da = true := by
  cases o with
  | term t => exact ⟨dp_of t (within_iff.mp h.1).1 h.2, shaped_da h.1⟩
  | kind z =>
    obtain ⟨ok, p, rfl, hp⟩ := h
    exact ⟨.lst (SqL.of hp) (dpStrs [z]), shapedStrs [z] fun y hy => by rw [List.mem_singleton.mp hy]; exact ok⟩
  | hole z =>
    obtain ⟨ok, p, rfl, hp⟩ := h
    refine ⟨.lst (SqL.of hp) (dpStrs ["NoHole", z]), shapedStrs ["NoHole", z] fun y hy => ?_⟩
    rcases List.mem_cons.mp hy with rfl | hy
    · exact okS_by "NoHole"
    · rw [List.mem_singleton.mp hy]
      exact ok
theorem OutV.eqv {H : Hp} {u : V} {o : Out} (h : OutV H u o) : PyData.eqv o.da o.da = true := by
  cases o with
  | term t => exact (eqv_da t t (within_iff.mp h.1).1 (within_iff.mp h.1).1).mpr rfl
  | kind z =>
    show ((z == z) && true) = true
    rw [beq_self_eq_true]
    rfl
  | hole z =>
    show ((("NoHole" : Str) == "NoHole") && ((z == z) && true)) = true
    rw [beq_self_eq_true, beq_self_eq_true]
    rfl
/-- two that stand for one outcome do not differ -/
theorem out_ne {K : PySem.W.Frag} {H : Hp} {u v : V} {o : Out} {Q : VK} (h : OutV H u o) (h' : OutV H v o) (q : Q (.bl false) H) : rNeD K u v H Q := by
  refine ⟨o.da, o.da, h.dp.1, h'.dp.1, (h.dp (K := K)).2, (h'.dp (K := K)).2, ?_⟩
  rw [h.eqv]
  exact q
theorem out_eq {K : PySem.W.Frag} {H : Hp} {u v : V} {o : Out} {Q : VK} (h : OutV H u o) (h' : OutV H v o) (q : Q (.bl true) H) : rEqD K u v H Q := by
  refine ⟨o.da, o.da, h.dp.1, h'.dp.1, (h.dp (K := K)).2, (h'.dp (K := K)).2, ?_⟩
  rw [h.eqv]
  exact q
/-! ### sizes -/
def cap : Nat → Int
  | 0 => 1
  | n + 1 => 1 + 3 * cap n
theorem cap_pos : ∀ n, 1 ≤ cap n
  | 0 => by decide
  | n + 1 => by
    have := cap_pos n
    show 1 ≤ 1 + 3 * cap n
    omega
theorem sizeL_ub {m : Int} (m0 : 0 ≤ m) : ∀ {n : Nat} {l : List Th}, l.length ≤ n → (∀ t ∈ l, t.size ≤ m) → sizeL l ≤ (n : Int) * m
  | n, [], _, _ => Int.mul_nonneg (Int.natCast_nonneg n) m0
  | 0, p :: ps, h, _ => by cases h
  | n + 1, p :: ps, hl, h => by
    have h1 := h p (List.mem_cons_self ..)
    have h2 := sizeL_ub m0 (n := n) (l := ps) (by rw [List.length_cons] at hl; omega) fun t ht => h t (List.mem_cons_of_mem _ ht)
    show p.size + sizeL ps ≤ ((n + 1 : Nat) : Int) * m
    rw [Int.natCast_add, Int.add_mul]
    show p.size + sizeL ps ≤ (n : Int) * m + 1 * m
    omega
theorem size_cap {b : Bool} : ∀ (n : Nat) (t : Th), t.shape b = true → t.dep ≤ n + 1 → t.size ≤ cap n
  | n, .str z, _, _ => cap_pos n
  | 0, .tup l, hs, hd => by
    obtain ⟨z, ps, rfl, h4, h8, hall⟩ := shape_tup hs
    cases ps with
    | nil => exact Int.le_refl 1
    | cons p r =>
      have := dep_pos p
      have hd : 1 + max p.dep (depL r) ≤ 0 + 1 := hd
      omega
  | n + 1, .tup l, hs, hd => by
    obtain ⟨z, ps, rfl, h4, h8, hall⟩ := shape_tup hs
    have hd : 1 + depL ps ≤ n + 1 + 1 := hd
    have := sizeL_ub (m := cap n) (by have := cap_pos n; omega) (n := 3) (l := ps) (by omega) fun t ht => size_cap n t (hall t ht) (by have := le_dep ht; omega)
    show 1 + sizeL ps ≤ 1 + 3 * cap n
    have e : ((3 : Nat) : Int) = 3 := rfl
    rw [e] at this
    omega
  | _, .non, h, _ | _, .bl _, h, _ | _, .int _, h, _ | _, .ls, h, _ | _, .dc, h, _ => by cases h
where
  le_dep : ∀ {l : List Th} {t : Th}, t ∈ l → t.dep ≤ depL l
    | p :: ps, t, ht => by
      show t.dep ≤ max p.dep (depL ps)
      rcases List.mem_cons.mp ht with rfl | ht
      · omega
      · have := le_dep ht
        omega
mutual
theorem put_hgt {g : Str → Th} {m : Nat} : ∀ t : Th, t.shape true = true → (∀ z ∈ t.hl, (g z).hgt ≤ m) → (t.put g).hgt ≤ t.hgt + m
  | .str z, _, h => by
    have := h z (List.mem_singleton.mpr rfl)
    show (g z).hgt ≤ 0 + m
    omega
  | .tup l, hs, h => by
    obtain ⟨z, ps, rfl, h4, h8, hall⟩ := shape_tup hs
    have := put_hgtL ps hall h
    show 1 + max 0 (hgtL (putL g ps)) ≤ 1 + max 0 (hgtL ps) + m
    omega
  | .non, h, _ | .bl _, h, _ | .int _, h, _ | .ls, h, _ | .dc, h, _ => by cases h
theorem put_hgtL {g : Str → Th} {m : Nat} : ∀ l : List Th, (∀ p ∈ l, p.shape true = true) → (∀ z ∈ hlL l, (g z).hgt ≤ m) → hgtL (putL g l) ≤ hgtL l + m
  | [], _, _ => Nat.zero_le _
  | p :: ps, hs, h => by
    have h1 := put_hgt p (hs p (List.mem_cons_self ..)) fun z hz => h z (List.mem_append_left _ hz)
    have h2 := put_hgtL ps (fun q hq => hs q (List.mem_cons_of_mem _ hq)) fun z hz => h z (List.mem_append_right _ hz)
    show max (p.put g).hgt (hgtL (putL g ps)) ≤ max p.hgt (hgtL ps) + m
    omega
end
/-! ### a law's dict -/
structure GD (H : Hp) (kvs : List (Key × V)) (n : Nat) : Prop where
  nd : (kvs.map (·.1)).Nodup
  few : kvs.length ≤ n
  all : ∀ p ∈ kvs, ∃ z t, p.1 = Sum.inr z ∧ Rep H p.2 t
theorem GD.wk {H H' : Hp} {kvs : List (Key × V)} {n : Nat} (h : GD H kvs n) (w : Wk H H') : GD H' kvs n := ⟨h.nd, h.few, fun p hp => by
  obtain ⟨z, t, e, r⟩ := h.all p hp
  exact ⟨z, t, e, r.wk w⟩⟩
theorem GD.nil {H : Hp} {n : Nat} : GD H [] n := ⟨List.nodup_nil, Nat.zero_le _, fun p hp => (List.not_mem_nil hp).elim⟩
theorem GD.put {H : Hp} {kvs : List (Key × V)} {n : Nat} {z : Str} {v : V} {t : Th} (h : GD H kvs n) (r : Rep H v t) : GD H (putK kvs (Sum.inr z) v) (n + 1) := by
  cases e : valV kvs (Sum.inr z) with
  | none =>
    refine ⟨nd_putK v h.nd e, by have := length_putK kvs (Sum.inr z) v; have := h.few; omega, fun p hp => ?_⟩
    rw [putK_new v e] at hp
    rcases List.mem_append.mp hp with hp | hp
    · exact h.all p hp
    · rw [List.mem_singleton.mp hp]
      exact ⟨z, t, rfl, r⟩
  | some u =>
    have k : (kvs.any fun kv => decide (kv.1 = Sum.inr z)) = true := by
      rw [valV_any, e]
      rfl
    have e2 : putK kvs (Sum.inr z) v = kvs.map (fun kv => if kv.1 = Sum.inr z then (kv.1, v) else kv) := by
      unfold putK
      rw [if_pos k]
    refine ⟨?_, by have := length_putK kvs (Sum.inr z) v; have := h.few; omega, fun p hp => ?_⟩
    · rw [e2, List.map_map]
      have : (kvs.map ((fun x => x.1) ∘ fun kv => if kv.1 = Sum.inr z then (kv.1, v) else kv)) = kvs.map (·.1) := List.map_congr_left fun kv _ => by
        show (if kv.1 = Sum.inr z then (kv.1, v) else kv).1 = kv.1
        split <;> rfl
      rw [this]
      exact h.nd
    · rw [e2] at hp
      obtain ⟨q, hq, rfl⟩ := List.mem_map.mp hp
      by_cases c : q.1 = Sum.inr z
      · rw [if_pos c]
        exact ⟨z, t, c, r⟩
      · rw [if_neg c]
        exact h.all q hq
theorem GD.drop {H : Hp} {kvs : List (Key × V)} {n : Nat} {k : Key} (h : GD H kvs n) : GD H (dropK kvs k) n :=
  ⟨nd_dropK h.nd, Nat.le_trans (List.length_filter_le _ _) h.few, fun p hp => h.all p (dropK_mem hp)⟩
theorem valV_self : ∀ {kvs : List (Key × V)} {p : Key × V}, (kvs.map (·.1)).Nodup → p ∈ kvs → valV kvs p.1 = some p.2
  | [], _, _, hp => (List.not_mem_nil hp).elim
  | q :: kvs, p, hn, hp => by
    have hn : (q.1 :: kvs.map (·.1)).Nodup := hn
    obtain ⟨h1, h2⟩ := List.nodup_cons.mp hn
    rcases List.mem_cons.mp hp with rfl | hp
    · exact valV_pos rfl
    · rw [valV_neg fun e => h1 (by rw [e]; exact List.mem_map.mpr ⟨p, hp, rfl⟩)]
      exact valV_self h2 hp
theorem rep_plain {H : Hp} {v : V} {t : Th} (r : Rep H v t) : plainV v := by
  cases r with
  | tup | ls | dc => exact .inr ⟨_, rfl⟩
  | _ => exact .inl rfl
theorem GD.same {H : Hp} {kvs : List (Key × V)} {n : Nat} (h : GD H kvs n) : ∀ p ∈ kvs, valV kvs p.1 = some p.2 ∧ plainV p.2 := fun p hp => by
  obtain ⟨z, t, _, r⟩ := h.all p hp
  exact ⟨valV_self h.nd hp, rep_plain r⟩
theorem valV_mem {kvs : List (Key × V)} {k : Key} {v : V} (h : valV kvs k = some v) : ∃ p ∈ kvs, p.1 = k ∧ p.2 = v := by
  unfold valV at h
  cases e : kvs.find? fun kv => decide (kv.1 = k) with
  | none =>
    rw [e] at h
    cases h
  | some p =>
    rw [e] at h
    have h2 := List.find?_some e
    exact ⟨p, List.mem_of_find?_eq_some e, of_decide_eq_true h2, Option.some.inj h⟩
theorem GD.gv {H : Hp} {kvs : List (Key × V)} {n : Nat} (h : GD H kvs n) : ∃ g, Gv H kvs g := by
  have : ∀ z : Str, ∃ o : Option Th, (o = none ∧ valV kvs (Sum.inr z) = none) ∨ ∃ t v, o = some t ∧ valV kvs (Sum.inr z) = some v ∧ Rep H v t := fun z => by
    cases e : valV kvs (Sum.inr z) with
    | none => exact ⟨none, .inl ⟨rfl, rfl⟩⟩
    | some v =>
      obtain ⟨p, hp, _, rfl⟩ := valV_mem e
      obtain ⟨_, t, _, r⟩ := h.all p hp
      exact ⟨some t, .inr ⟨t, _, rfl, rfl, r⟩⟩
  exact ⟨fun z => Classical.choose (this z), fun z => Classical.choose_spec (this z)⟩
theorem GD.keys {H : Hp} : ∀ {kvs : List (Key × V)}, (∀ p ∈ kvs, ∃ z t, p.1 = Sum.inr z ∧ Rep H p.2 t) → ∃ ks : List Str, kvs.map (·.1) = ks.map Sum.inr ∧ ks.length = kvs.length
  | [], _ => ⟨[], rfl, rfl⟩
  | p :: kvs, h => by
    obtain ⟨z, _, e, _⟩ := h p (List.mem_cons_self ..)
    obtain ⟨ks, e1, e2⟩ := GD.keys (kvs := kvs) fun q hq => h q (List.mem_cons_of_mem _ hq)
    exact ⟨z :: ks, by rw [List.map_cons, List.map_cons, e, e1], by rw [List.length_cons, List.length_cons, e2]⟩
mutual
theorem hl_is : ∀ t : Th, t.shape true = true → ∀ z ∈ t.hl, isHl z = true
  | .str y, h, z, hz => by
    rw [List.mem_singleton.mp hz]
    have h : (true && isHl y) = true := h
    simpa using h
  | .tup l, h, z, hz => by
    obtain ⟨y, ps, rfl, _, _, hall⟩ := shape_tup h
    exact hl_isL ps hall z hz
  | .non, h, _, _ | .bl _, h, _, _ | .int _, h, _, _ | .ls, h, _, _ | .dc, h, _, _ => by cases h
theorem hl_isL : ∀ l : List Th, (∀ p ∈ l, p.shape true = true) → ∀ z ∈ hlL l, isHl z = true
  | [], _, z, hz => (List.not_mem_nil hz).elim
  | p :: ps, h, z, hz => by
    rcases List.mem_append.mp (show z ∈ p.hl ++ hlL ps from hz) with hz | hz
    · exact hl_is p (h p (List.mem_cons_self ..)) z hz
    · exact hl_isL ps (fun q hq => h q (List.mem_cons_of_mem _ hq)) z hz
end
theorem holes_ok {t : Th} {z : Str} (h : t.shape true = true) (hz : z ∈ t.hl) : okS z := isHl_ok (hl_is t h z hz)
theorem isHl_len {z : Str} (h : isHl z = true) : z.length ≤ 5 := by
  obtain ⟨l, e, _, h2, _⟩ := isHl_out h
  have : z.length = z.cps.toList.length := rfl
  rw [this, e, List.length_cons]
  omega
end Kt
namespace Kt
open PySem PySem.Spec PyProof.Rows L2
/-! ### filled, and what refuses it -/
def exV (mg : Str → Option Value) (x : Str) : Value := .ref (clsA mg x)
def spx_pattern (mg : Str → Option Value) : Sp := fun vs H Q E => ∃ v t, vs = [v] ∧ Rep H v t ∧ (within true t = true → ∀ H', Same H H' → Q .non H') ∧ (within true t = false → Err E (exV mg "BadPattern") H)
def spx_term (mg : Str → Option Value) : Sp := fun vs H Q E => ∃ v t, vs = [v] ∧ Rep H v t ∧ (within false t = true → ∀ H', Same H H' → Q .non H') ∧ (within false t = false → Err E (exV mg "BadTerm") H)
def spx_holes (mg : Str → Option Value) : Sp := fun vs H Q E => ∃ v t, vs = [v] ∧ Rep H v t ∧ (within true t = true → ∀ p H', Same H H' → H p = none → H' p = some (.lst (t.holes.map V.str)) → Q (.ref p) H') ∧ (within true t = false → Err E (exV mg "BadPattern") H)
def OutE (mg : Str → Option Value) (H : Hp) (Q : VK) (E : XK) : Out → Prop
  | .term t => ∀ v' H', Same H H' → within false t = true → Rep H' v' t → Q v' H'
  | .kind z => Err E (exV mg z) H
  | .hole z => ∀ d y H', Same H H' → H' d = some (.xd [("hole", .str z), ("word", .str y)]) → E (exV mg "NoHole") (some d) H'
def spx_filled (mg : Str → Option Value) : Sp := fun vs H Q E => ∃ v t a kvs g, vs = [v, .ref a] ∧ Rep H v t ∧ H a = some (.dK kvs) ∧ Gv H kvs g ∧ OutE mg H Q E (outOf t g)
section
variable {P : Program} {w : World} {K : PySem.W.Frag} {mg : Str → Option Value} {base : Heap}
theorem cx_refuse_no_pattern (T : Tx K mg) (Z : ProgF P) : Cl P w K mg base (L2.CX P w) 10 "refuse_no_pattern" ["thing"] (spx_pattern mg) := by
  refine Cl.mkX T.d_refuse_no_pattern sc_refuse_no_pattern (fun vs H Q E h => ?_) (fun f cdv A outer s H vs Q E hr h => ?_)
  · obtain ⟨v, t, rfl, _⟩ := h
    rfl
  obtain ⟨v, t, rfl, r, q1, q2⟩ := h
  refine ⟨_, (pss_one (ps_if (pt_not (pt_val (pe_cl (c_is_pattern T) hr (by omega) rfl (pa_cons (pv 0) pa_nil))))
      (pss_one (ps_raise rfl (takes_of rfl rfl rfl rfl) (pmk_me (T.s_BadPattern.ok T.me Z T.gs_BadPattern) hr (by omega) rfl (pa_cons pe_str pa_nil))))
      pss_nil)), ?_⟩
  refine ⟨_, rfl, v, t, rfl, r, fun H' s' => ⟨_, rfl, ?_⟩⟩
  cases e : within true t with
  | true => exact iteF (q1 e H' s')
  | false => exact iteT (me_goT ((q2 e).wk s'))
theorem cx_refuse_no_term (T : Tx K mg) (Z : ProgF P) : Cl P w K mg base (L2.CX P w) 10 "refuse_no_term" ["thing"] (spx_term mg) := by
  refine Cl.mkX T.d_refuse_no_term sc_refuse_no_term (fun vs H Q E h => ?_) (fun f cdv A outer s H vs Q E hr h => ?_)
  · obtain ⟨v, t, rfl, _⟩ := h
    rfl
  obtain ⟨v, t, rfl, r, q1, q2⟩ := h
  refine ⟨_, (pss_one (ps_if (pt_not (pt_val (pe_cl (c_is_term T) hr (by omega) rfl (pa_cons (pv 0) pa_nil))))
      (pss_one (ps_raise rfl (takes_of rfl rfl rfl rfl) (pmk_me (T.s_BadTerm.ok T.me Z T.gs_BadTerm) hr (by omega) rfl (pa_cons pe_str pa_nil))))
      pss_nil)), ?_⟩
  refine ⟨_, rfl, v, t, rfl, r, fun H' s' => ⟨_, rfl, ?_⟩⟩
  cases e : within false t with
  | true => exact iteF (q1 e H' s')
  | false => exact iteT (me_goT ((q2 e).wk s'))
theorem cx_holes_of (T : Tx K mg) (Z : ProgF P) : Cl P w K mg base (L2.CX P w) 11 "holes_of" ["pattern"] (spx_holes mg) := by
  refine Cl.mkX T.d_holes_of sc_holes_of (fun vs H Q E h => ?_) (fun f cdv A outer s H vs Q E hr h => ?_)
  · obtain ⟨v, t, rfl, _⟩ := h
    rfl
  obtain ⟨v, t, rfl, r, q, q2⟩ := h
  refine ⟨_, (pss_cons (ps_expr (pe_clS (cx_refuse_no_pattern T Z) hr (by omega) rfl (fun σ => passAt (takes_of rfl rfl rfl rfl) σ) (pa_cons (pv 0) pa_nil)))
    (pss_one (ps_ret (pe_callTy (call_listD rfl) (by rfl) T.z_list (by decide +kernel) (pa_cons (pe_dc (own := [("part", 1)]) (g := gName 1) rfl sc_holes_of.nd (pi_list (pe_cl (c_all_within T) hr (by omega) rfl (pa_cons (pv 0) pa_nil))) (blkOk_by (own := [("part", 1)]) (N := ["pattern", "part"]) (sc := defScope s_holes_of) (by decide +kernel)) (fun _ _ _ _ _ => (pg_name (i := 1) sc_holes_of.nd rfl (Or.inl rfl))) (fun _ _ _ _ _ => (pts_one (pt_val (pe_callB (id := "isinstance") (r := rIsi K) call_isi (by rfl) T.z_isinstance (by decide +kernel) (pa_cons (pv 1) (pa_cons (pe_bltn (v := .ty "str") (u := .type "str") (by rfl) T.z_str (by decide +kernel) rfl) pa_nil)))))) (fun _ _ _ _ _ => (pv 1)) (fun _ _ _ _ _ => pe_bl)) pa_nil))))), ?_⟩
  refine ⟨_, rfl, v, t, rfl, r, fun hw H1 s1 => ?_, fun hw => q2 hw⟩
  replace q := q hw
  obtain ⟨hs, hd, hz⟩ := within_iff.mp hw
  refine ⟨_, rfl, v, t, true, rfl, within_hgt hw, hs, by omega, r.wk (Wk.same s1), fun p H2 xs s2 np hp rx => ⟨p, rfl, ⟨xs, SqL.of hp⟩, fun D hD => ?_⟩⟩
  have hlx := rx.length
  have hsz := allW_len t
  refine dc_it walk_list (fun i H' => Same H2 H' ∧ H' D = some (.dK (hKV (((allW t).take i).foldl addH [])))) ⟨same_new hD _, upd_same⟩ (fun i H' _ p' => SqL.of (p'.1 _ _ hp)) (fun i x H' H'' hi p' y => ?_) (fun H' p' => ?_)
  · obtain ⟨rfl, hx⟩ := y
    obtain ⟨t', ht', rt'⟩ := (rx.wk (Wk.same p'.1)).get' hx
    have tl : (allW t).take (i + 1) = (allW t).take i ++ [t'] := by
      rw [List.take_add_one, ht']
      rfl
    have hfl : (((allW t).take (i + 1)).foldl addH []) = addH (((allW t).take i).foldl addH []) t' := by rw [tl, List.foldl_append]; rfl
    refine ⟨rfl, _, rfl, _, _, _, _, _, rfl, .ty _, rt'.tyx, kstr t', _, rfl, ?_⟩
    rw [hfl]
    cases rt' with
    | str z hz' ok =>
      refine iteT ⟨_, rfl, _, Sum.inr z, rfl, p'.2, ?_, Same.mut p'.1 hD, ?_⟩
      · have h1 := foldH_len ((allW t).take i) []
        rw [List.length_take, List.length_nil] at h1
        unfold hKV
        rw [List.length_map]
        exact small1000 (by omega)
      · rw [upd_same, putK_hKV]
        rfl
    | _ => exact iteF p'
  · obtain ⟨s3, h3⟩ := p'
    rw [hlx, List.take_length] at h3
    refine ⟨D, _, rfl, .inl h3, fun p3 hp3 => ?_⟩
    have s13 := (s1.trans s2).trans s3
    refine q p3 _ (s13.trans (same_new hp3 _)) (Same.free s13 hp3) ?_
    rw [upd_same]
    unfold hKV
    rw [List.map_map]
    rfl
theorem mem_take {α : Type} {l : List α} {n : Nat} {y : α} (h : y ∈ l.take n) : ∃ i, i < n ∧ l[i]? = some y := by
  obtain ⟨i, hi⟩ := List.mem_iff_getElem?.mp h
  rw [List.getElem?_take] at hi
  by_cases c : i < n
  · rw [if_pos c] at hi
    exact ⟨i, c, hi⟩
  · rw [if_neg c] at hi
    cases hi
theorem holes_at {t : Th} {i : Nat} {x : V} (h : (t.holes.map V.str)[i]? = some x) : ∃ z, x = .str z ∧ z ∈ t.hl ∧ t.holes[i]? = some z := by
  obtain ⟨z, rfl, e⟩ := strs_get h
  exact ⟨z, rfl, mem_holes.mp (List.mem_of_getElem? e), e⟩
/-- a fill looked through for the holes of a pattern -/
def spx_fill (mg : Str → Option Value) : Sp := fun vs H Q E => ∃ (p d : Addr) (t : Th) (kvs : List (Key × V)) (g : Str → Option Th), vs = [.ref p, .ref d] ∧ within true t = true ∧ H p = some (.lst (t.holes.map V.str)) ∧ H d = some (.dK kvs) ∧ Gv H kvs g ∧
  (∀ z rr, lackL t g = z :: rr → ∀ d y H', Same H H' → H' d = some (.xd [("hole", .str z), ("word", .str y)]) → E (exV mg "NoHole") (some d) H') ∧ (lackL t g = [] → badL t g ≠ [] → Err E (exV mg "BadTerm") H) ∧ (lackL t g = [] → badL t g = [] → ∀ H', Same H H' → Q .non H')
theorem cx_refuse_no_fill (T : Tx K mg) (Z : ProgF P) : Cl P w K mg base (L2.CX P w) 11 "refuse_no_fill" ["holes", "fill"] (spx_fill mg) := by
  refine Cl.mkX T.d_refuse_no_fill sc_refuse_no_fill (fun vs H Q E h => ?_) (fun f cdv A outer s H vs Q E hr h => ?_)
  · obtain ⟨p, d, t, kvs, g, rfl, _⟩ := h
    rfl
  obtain ⟨p, d, t, kvs, g, rfl, hw, hp, hK, hG, o1, o2, o3⟩ := h
  obtain ⟨hs, hd, hz⟩ := within_iff.mp hw
  refine ⟨_, (Evl.pss_cut (ps_for (passes_of rfl) rfl (pi_list (pv 0)) (pg_name (i := 2) sc_refuse_no_fill.nd rfl (Or.inl rfl))
      (pss_one (ps_if (pt_cmp (pc_dnotin (hu_of hr) (pv 2) (pv 1)) rfl)
        (pss_one (ps_raise rfl (takes_of rfl rfl rfl rfl) (pmk_mi (T.i_NoHole.ok T.me Z T.gi_NoHole) hr (by omega) rfl (pa_cons (pv 2) pa_nil))))
        pss_nil)))
    (pss_one (ps_for (passes_of rfl) rfl (pi_list (pv 0)) (pg_name (i := 2) sc_refuse_no_fill.nd rfl (Or.inl rfl))
      (pss_one (ps_expr (pe_clS (cx_refuse_no_term T Z) hr (by omega) rfl (fun σ => passAt (takes_of rfl rfl rfl rfl) σ) (pa_cons (pe_dget (hu_of hr) (pv 1) (pv 2) (fun _ _ => rfl)) pa_nil))))))), ?_⟩
  have all_at : t.holes.take (t.holes.map V.str).length = t.holes := by rw [List.length_map, List.take_length]
  refine ⟨fun σ' H' => ∃ y, σ' = [some (.ref p), some (.ref d), y] ∧ Same H H' ∧ H' p = some (.lst (t.holes.map V.str)) ∧ lackL t g = [], ?_, fun σ1 H2 e1 => ?_⟩
  · refine ⟨_, rfl, p, rfl, ⟨_, SqL.of hp⟩, for_list (xs := t.holes.map V.str) (fun i σ' H' => ∃ y, σ' = [some (.ref p), some (.ref d), y] ∧ Same H H' ∧ H' p = some (.lst (t.holes.map V.str)) ∧ ∀ z ∈ t.holes.take i, (g z).isNone = false) ⟨none, rfl, Same.refl _, hp, fun z hz => by rw [List.take_zero] at hz; exact (List.not_mem_nil hz).elim⟩ (fun i σ H' _ h' => ?_) (fun i x σ H' hx h' => ?_) (fun σ H' h' => ?_)⟩
    · obtain ⟨_, _, _, h3, _⟩ := h'
      exact SqL.of h3
    · obtain ⟨y, rfl, sH, h3, h4⟩ := h'
      obtain ⟨z, rfl, hzt, hzi⟩ := holes_at hx
      refine ⟨_, rfl, _, rfl, d, _, rfl, DGet.k (k := Sum.inr z) (sH _ _ hK), _, rfl, ?_⟩
      rcases hG z with ⟨e, ev⟩ | ⟨t', v', e, ev, rv⟩
      · rw [ev]
        refine iteT ⟨_, rfl, ?_⟩
        obtain ⟨rr, el⟩ := first_of (p := fun z => (g z).isNone) hzi (by rw [e]; rfl) h4
        refine mi_go (v := .str z) rfl ?_ (fun i e => by cases e) fun dd y H4 s4 hd4 => o1 z rr el dd y H4 (sH.trans s4) hd4
        have := isHl_len (hl_is t hs z hzt)
        omega
      · rw [ev]
        refine iteF ⟨_, rfl, sH, h3, fun z' hz' => ?_⟩
        rw [List.take_add_one, hzi] at hz'
        rcases List.mem_append.mp hz' with hz' | hz'
        · exact h4 z' hz'
        · rw [List.mem_singleton.mp hz', e]
          rfl
    · obtain ⟨y, rfl, sH, h3, h4⟩ := h'
      rw [all_at] at h4
      exact ⟨y, rfl, sH, h3, none_of h4⟩
  obtain ⟨y, rfl, sH, h3, hL⟩ := e1
  have here : ∀ z ∈ t.hl, ∃ t' v', g z = some t' ∧ valV kvs (Sum.inr z) = some v' ∧ Rep H v' t' := fun z hz => by
    rcases hG z with ⟨e, ev⟩ | h
    · have := List.filter_eq_nil_iff.mp hL z (mem_holes.mpr hz)
      rw [e] at this
      exact absurd rfl this
    · exact h
  · refine ⟨_, rfl, p, rfl, ⟨_, SqL.of h3⟩, for_list (xs := t.holes.map V.str) (fun i σ' H' => ∃ y, σ' = [some (.ref p), some (.ref d), y] ∧ Same H H' ∧ H' p = some (.lst (t.holes.map V.str)) ∧ ∀ z ∈ t.holes.take i, (!within false (gT g z)) = false) ⟨_, rfl, sH, h3, fun z hz => by rw [List.take_zero] at hz; exact (List.not_mem_nil hz).elim⟩ (fun i σ H' _ h' => ?_) (fun i x σ H' hx h' => ?_) (fun σ H' h' => ?_)⟩
    · obtain ⟨_, _, _, h3, _⟩ := h'
      exact SqL.of h3
    · obtain ⟨y, rfl, sH, h3, h4⟩ := h'
      obtain ⟨z, rfl, hzt, hzi⟩ := holes_at hx
      obtain ⟨t', v', e, ev, rv⟩ := here z hzt
      have eg : gT g z = t' := by
        unfold gT
        rw [e]
        rfl
      refine ⟨_, rfl, _, rfl, d, v', rfl, ?_, v', t', rfl, rv.wk (Wk.same sH), fun c H4 s4 => ⟨_, rfl, sH.trans s4, s4 _ _ h3, fun z' hz' => ?_⟩, fun c => ?_⟩
      · rw [← ev]
        exact DGet.k (k := Sum.inr z) (sH _ _ hK)
      · rw [List.take_add_one, hzi] at hz'
        rcases List.mem_append.mp hz' with hz' | hz'
        · exact h4 z' hz'
        · rw [List.mem_singleton.mp hz', eg, c]
          rfl
      · have nb : badL t g ≠ [] := fun eb => by
          have := List.filter_eq_nil_iff.mp eb z (mem_holes.mpr hzt)
          rw [eg, c] at this
          exact absurd rfl this
        exact (o2 hL nb).wk sH
    · obtain ⟨y, rfl, sH, h3, h4⟩ := h'
      rw [all_at] at h4
      exact o3 hL (none_of h4) H' sH
theorem cx_filled (T : Tx K mg) (Z : ProgF P) : Cl P w K mg base (L2.CX P w) 12 "filled" ["pattern", "fill"] (spx_filled mg) := by
  refine Cl.mkX T.d_filled sc_filled (fun vs H Q E h => ?_) (fun f cdv A outer s H vs Q E hr h => ?_)
  · obtain ⟨v, t, a, kvs, g, rfl, _⟩ := h
    rfl
  obtain ⟨v, t, d, kvs, g, rfl, r, hK, hG, out⟩ := h
  refine ⟨_, (pss_cons (ps_expr (pe_clS (cx_refuse_no_fill T Z) hr (by omega) rfl (fun σ => passAt (takes_of rfl rfl rfl rfl) σ) (pa_cons (pe_clS (cx_holes_of T Z) hr (by omega) rfl (fun σ => passAt (takes_of rfl rfl rfl rfl) σ) (pa_cons (pv 0) pa_nil)) (pa_cons (pv 1) pa_nil))))
    (pss_cons (ps_set (i := 2) sc_filled.nd rfl (Or.inl rfl) (pe_cl (c_exchanged T) hr (by omega) rfl (pa_cons (pv 0) (pa_cons (pv 1) pa_nil))))
    (pss_cons (ps_if (pt_not (pt_val (pe_cl (c_is_term T) hr (by omega) rfl (pa_cons (pv 2) pa_nil))))
      (pss_one (ps_raise rfl (takes_of rfl rfl rfl rfl) (pmk_me (T.s_TooGreat.ok T.me Z T.gs_TooGreat) hr (by omega) rfl (pa_cons pe_str pa_nil))))
      pss_nil)
    (pss_one (ps_ret (pv 2)))))), ?_⟩
  refine ⟨_, rfl, v, t, rfl, r, fun hw p H1 s1 np hp => ?_, fun hw => ?_⟩
  rotate_left
  · rw [out_bad hw] at out
    exact out
  obtain ⟨hs, hd, hz⟩ := within_iff.mp hw
  refine ⟨_, rfl, p, d, t, kvs, g, rfl, hw, hp, s1 _ _ hK, hG.wk (Wk.same s1), fun z rr el => ?_, fun hL nb => ?_, fun hL hB H2 s2 => ?_⟩
  · rw [out_lack hw el] at out
    exact fun dd y H' s' h' => out dd y H' (s1.trans s') h'
  · rw [out_term hw hL nb] at out
    exact Err.wk out s1
  have sH := s1.trans s2
  have here : ∀ z ∈ t.hl, ∃ t' v', g z = some t' ∧ valV kvs (Sum.inr z) = some v' ∧ Rep H v' t' := fun z hz => by
    rcases hG z with ⟨e, ev⟩ | h
    · have := List.filter_eq_nil_iff.mp hL z (mem_holes.mpr hz)
      rw [e] at this
      exact absurd rfl this
    · exact h
  have hF : Fl H kvs (gT g) t.hl := fun z hz => by
    obtain ⟨t', v', e, ev, rv⟩ := here z hz
    have eg : gT g z = t' := by
      unfold gT
      rw [e]
      rfl
    exact ⟨v', ev, by rw [eg]; exact rv⟩
  refine ⟨_, rfl, _, rfl, v, t, true, d, kvs, gT g, rfl, within_hgt hw, hs, r.wk (Wk.same sH), sH _ _ hK, hF.wk (Wk.same sH), fun v' H4 s4 rv' => ?_⟩
  refine ⟨_, rfl, v', _, rfl, rv', fun H5 s5 => ⟨_, rfl, ?_⟩⟩
  have s6 := (sH.trans s4).trans s5
  cases e : within false (t.put (gT g)) with
  | true =>
    rw [out_ok hw hL hB e] at out
    exact iteF ⟨_, rfl, out v' H5 s6 e (rv'.wk (Wk.same s5))⟩
  | false =>
    rw [out_great hw hL hB e] at out
    exact iteT (me_goT (Err.wk out s6))
end
end Kt
namespace Kt
open PySem PySem.Spec PyProof.Rows L2
/-! ### a comprehension that keeps some texts of a list -/
theorem lc_keep {K : PySem.W.Frag} {zs : List Str} {p : Str → Bool} {p0 D : Addr} {H2 : Hp} {σ : L2.St} {vs : List Nat} {j : Nat} {tt : TT} {te : TE} {Qd : Hp → Prop} (hp : H2 p0 = some (.lst (zs.map V.str))) (hD : H2 D = none) (hn : zs.length ≤ 1000)
    (hset : ∀ x, wipe ((wipe σ vs).set j (some x)) vs = wipe σ vs)
    (ht : ∀ z H, z ∈ zs → Same H2 H → ∀ Q : Bool → Hp → Prop, (∀ H', Same H H' → Q (p z) H') → tt ((wipe σ vs).set j (some (.str z))) H Q)
    (he : ∀ z H (Q : VK), Q (.str z) H → te ((wipe σ vs).set j (some (.str z))) H Q)
    (hd : ∀ H', Same H2 H' → H' D = some (.lst ((zs.filter p).map V.str)) → Qd H') :
    ∃ W : Nat → Nat → Hp → Prop, (∃ m, W 0 m (upd H2 D (.lst []))) ∧ ∀ i m H, W i m H →
      ((Itl K p0).stop i H ∧ Qd H) ∨ ((Itl K p0).go i H ∧ ∃ Nx : Hp → Prop, (∀ H', Nx H' → ∃ m', m' < m ∧ W (i + 1) m' H') ∧ ∀ x H', (Itl K p0).yld i H x H' → gName j x (wipe σ vs) H' fun σ2 H2 => wipe σ2 vs = wipe σ vs ∧ tt σ2 H2 fun b H3 =>
        if b = true then te σ2 H3 fun y H4 => ∃ acc, H4 D = some (.lst acc) ∧ acc.length < sizeLine ∧ Nx (upd H4 D (.lst (acc ++ [y]))) else Nx H3) := by
  refine lc_it (walk_list (K := K) (xs := zs.map V.str)) (fun i Hx => Same H2 Hx ∧ Hx D = some (.lst (((zs.take i).filter p).map V.str))) ⟨same_new hD _, upd_same⟩ (fun i Hx _ k => SqL.of (k.1 _ _ hp)) (fun i x Hx Hy hi k yy => ?_) (fun Hx k => ?_)
  · obtain ⟨rfl, hx⟩ := yy
    obtain ⟨z, rfl, hz⟩ := strs_get hx
    have tk : zs.take (i + 1) = zs.take i ++ [z] := by
      rw [List.take_add_one, hz]
      rfl
    refine ⟨hset _, ht z _ (List.mem_of_getElem? hz) k.1 _ fun H' s' => ?_⟩
    have k2 := s' _ _ k.2
    refine ite2 (fun c => he z H' _ ⟨_, k2, small1000 ?_, Same.mut (k.1.trans s') hD, ?_⟩) (fun c => ⟨k.1.trans s', ?_⟩)
    · have k1 := List.length_filter_le p (zs.take i)
      have k3 := List.length_take_le' i zs
      rw [List.length_map]
      omega
    · rw [tk, List.filter_append, List.filter_cons, if_pos c, upd_same, List.map_append]
      rfl
    · rw [tk, List.filter_append, List.filter_cons, if_neg c, List.filter_nil, List.append_nil]
      exact k2
  · obtain ⟨k1, k2⟩ := k
    rw [List.length_map, List.take_length] at k2
    exact hd Hx k1 k2
/-- the first of a tuple, as a tuple -/
theorem sl_one {K : PySem.W.Frag} {H : Hp} {a : Addr} {y : V} {ys : List V} {Q : VK} (h : H a = some (.tup (y :: ys))) (q : ∀ p H', Same H H' → H' p = some (.tup [y]) → Q (.ref p) H') : rSlA K (.ref a) none (some ((1 : Nat) : Int)) H Q := by
  refine ⟨a, _, rfl, SqT.of h, fun c => ?_, fun c p hp => ?_⟩
  · have c2 := c.2
    rw [HT.sIx_nat, List.length_cons] at c2
    have e : ys = [] := List.eq_nil_of_length_eq_zero (by omega)
    subst e
    exact q a H (Same.refl H) h
  · rw [cutV_hi]
    exact q p _ (same_new hp _) upd_same
/-- lists of texts, told from the empty one -/
theorem ne_nil {K : PySem.W.Frag} {H : Hp} {a b : Addr} {zs : List Str} {Q : VK} (ok : ∀ z ∈ zs, okS z) (ha : H a = some (.lst (zs.map V.str))) (hb : H b = some (.lst [])) (q : Q (.bl (!zs.isEmpty)) H) : rNeD K (.ref a) (.ref b) H Q := by
  refine ⟨.list (zs.map PyData.str), .list [], .lst (SqL.of ha) (dpStrs zs), .lst (SqL.of hb) .nil, shapedStrs zs ok, shapedStrs [] (fun z hz => (List.not_mem_nil hz).elim), ?_⟩
  rw [eqvNil, List.isEmpty_map]
  exact q
def sp_lput (n : Nat) : Sp := fun vs H Q _ => ∃ v t b a kvs g, vs = [v, .ref a] ∧ t.hgt < n ∧ t.shape b = true ∧ Rep H v t ∧ H a = some (.dK kvs) ∧ Fl H kvs g t.hl ∧ ∀ v' H', Same H H' → Rep H' v' (t.put g) → Q v' H'
def sp_ldue : Sp := fun vs H Q _ => ∃ v t a kvs g, vs = [v, .ref a] ∧ Rep H v t ∧ H a = some (.dK kvs) ∧ Gv H kvs g ∧ ∀ u H', Same H H' → OutV H' u (outOf t g) → Q u H'
section
variable {P : Program} {w : World} {K : PySem.W.Frag} {mg : Str → Option Value} {base : Heap}
theorem c__law_put_in (T : Tx K mg) : ∀ n : Nat, Cl P w K mg base CX0 (n + 1) "_law_put_in" ["_law_one", "_law_given"] (sp_lput n)
  | 0 => Cl.no T.d__law_put_in fun vs H Q E h => by
    obtain ⟨v, t, b, a, kvs, g, _, hd, _⟩ := h
    exact absurd hd (Nat.not_lt_zero _)
  | n + 1 => by
    have ih := c__law_put_in T n
    refine Cl.mk0 T.d__law_put_in sc__law_put_in (fun vs H Q E h => ?_) (fun f cdv A outer s H vs Q E hr h => ?_)
    · obtain ⟨v, t, b, a, kvs, g, rfl, _⟩ := h
      rfl
    obtain ⟨v, t, b, d, kvs, g, rfl, hd, hs, r, hK, hF, q⟩ := h
    refine ⟨_, (pss_cons (ps_if (pt_val (pe_callB (id := "isinstance") (r := rIsi K) call_isi (by rfl) T.z_isinstance (by decide +kernel) (pa_cons (pv 0) (pa_cons (pe_bltn (v := .ty "str") (u := .type "str") (by rfl) T.z_str (by decide +kernel) rfl) pa_nil))))
      (pss_one (ps_ret (pe_dget (hu_of hr) (pv 1) (pv 0) (fun _ _ => rfl))))
      pss_nil)
    (pss_one (ps_ret (pe_op op_catA (pe_slice sl_tupA (pv 0) po_no (po_some pe_int)) (pe_callTy call_tuple_of (by rfl) T.z_tuple (by decide +kernel) (pa_cons (pe_lc (own := [("_law_part", 2)]) (g := gName 2) (tt := tYes) rfl sc__law_put_in.nd (pi_tup (pe_slice sl_tupA (pv 0) (po_some pe_int) po_no)) (blkOk_by (own := [("_law_part", 2)]) (N := ["_law_one", "_law_given", "_law_part"]) (sc := defScope s__law_put_in) (by decide +kernel)) (fun _ _ _ _ _ => (pg_name (i := 2) sc__law_put_in.nd rfl (Or.inl rfl))) (fun _ _ _ _ _ => pts_nil) (fun _ _ _ _ _ => (pe_cl ih hr (by omega) rfl (pa_cons (pv 2) (pa_cons (pv 1) pa_nil))))) pa_nil)))))), ?_⟩
    refine ⟨_, rfl, _, _, _, _, _, rfl, .ty _, r.tyx, kstr t, _, rfl, ?_⟩
    cases r with
    | str z hz' ok =>
      obtain ⟨v', e, rv⟩ := hF z (List.mem_singleton.mpr rfl)
      refine iteT ⟨_, rfl, _, rfl, d, v', rfl, ?_, q v' H (Same.refl H) rv⟩
      rw [← e]
      exact DGet.k (k := Sum.inr z) hK
    | @tup a xs l ha hn hl =>
      obtain ⟨z, ps, rfl, h4, h8, hall⟩ := shape_tup hs
      cases hl with
      | @cons y ys _ _ hx hps =>
        have hlen := hps.length
        refine iteF ⟨_, rfl, 1, rfl, sl_one ha fun p0 H0 s0 hp0 => ?_⟩
        refine ⟨_, rfl, 1, rfl, ?_⟩
        refine sl_lo (K := K) 1 (s0 _ _ ha) (by omega) (by rw [List.length_cons]; omega) fun p hp => ?_
        have sp := same_new (o := .tup ys) hp
        have s1 := s0.trans sp
        refine ⟨p, rfl, ⟨ys, SqT.of upd_same⟩, fun D hD => ?_⟩
        have hk1 := s1 _ _ hK
        have hF1 := hF.wk (Wk.same s1)
        have hps1 := hps.wk (Wk.same s1)
        refine lc_it (walk_tup (K := K) (xs := ys)) (fun i H' => Same (upd H0 p (.tup ys)) H' ∧ ∃ vs, H' D = some (.lst vs) ∧ vs.length = i ∧ RepL H' vs ((ps.take i).map fun t => t.put g)) ⟨same_new hD _, [], upd_same, rfl, .nil⟩ (fun i H' _ p' => SqT.of (p'.1 _ _ upd_same)) (fun i x H' H'' hi p' yy => ?_) (fun H' p' => ?_)
        · obtain ⟨rfl, hx'⟩ := yy
          obtain ⟨sH, vs, hDv, hvl, rvs⟩ := p'
          obtain ⟨t', ht', rt'⟩ := (hps1.wk (Wk.same sH)).get' hx'
          have mt := List.mem_of_getElem? ht'
          refine ⟨rfl, yesI ⟨_, rfl, _, rfl, x, t', b, d, kvs, g, rfl, hgt_part hd t' (List.mem_cons_of_mem _ mt), hall t' mt, rt', sH _ _ hk1, (fun z hz => (hF1.wk (Wk.same sH)) z (hl_part hz mt)), fun v' H2 s2 rv' => ?_⟩⟩
          have hD2 := s2 _ _ hDv
          refine ⟨vs, hD2, small1000 (by omega), Same.mut (sH.trans s2) hD, vs ++ [v'], upd_same, by rw [List.length_append, hvl]; rfl, ?_⟩
          have tl : (ps.take (i + 1)).map (fun t => t.put g) = (ps.take i).map (fun t => t.put g) ++ [t'.put g] := by
            rw [List.take_add_one, ht', List.map_append]
            rfl
          rw [tl]
          exact ((rvs.wk (Wk.same s2)).append (.cons rv' .nil)).wk (Wk.lst_upd hD2 _)
        · obtain ⟨sH, vs, hDv, hvl, rvs⟩ := p'
          rw [hlen, List.take_length] at rvs
          refine ⟨D, vs, rfl, .inl ⟨SqL.of hDv, fun M hM => ?_⟩⟩
          have s2 := (s1.trans sH).trans (same_new hM (.tup vs))
          have hp02 := ((sp.trans sH).trans (same_new hM (.tup vs))) p0 _ hp0
          refine catA hp02 upd_same (fun e => by cases e) (by rw [List.length_singleton]; omega) fun p3 H3 s3 e3 => ?_
          refine q (.ref p3) H3 (s2.trans s3) ?_
          show Rep _ _ (.tup (.str z :: putL g ps))
          rw [putL_map]
          exact .tup e3 (by rw [List.length_append, List.length_singleton]; omega) (.cons (hx.wk (Wk.same (s2.trans s3))) (rvs.wk (Wk.same ((same_new hM (.tup vs)).trans s3))))
    | _ => cases hs
theorem c__law_due (T : Tx K mg) : Cl P w K mg base CX0 14 "_law_due" ["_law_one", "_law_given"] sp_ldue := by
  have c__law_holes := fun (T : Tx K mg) => c__law_holes (P := P) (w := w) (base := base) T 6
  have c__law_put_in := fun (T : Tx K mg) => c__law_put_in (P := P) (w := w) (base := base) T 6
  have c__law_size := fun (T : Tx K mg) => c__law_size (P := P) (w := w) (base := base) T 12
  have c__law_depth := fun (T : Tx K mg) => c__law_depth (P := P) (w := w) (base := base) T 12
  refine Cl.mk0 T.d__law_due sc__law_due (fun vs H Q E h => ?_) (fun f cdv A outer s H vs Q E hr h => ?_)
  · obtain ⟨v, t, a, kvs, g, rfl, _⟩ := h
    rfl
  obtain ⟨v, t, d, kvs, g, rfl, r, hK, hG, q⟩ := h
  refine ⟨_, (pss_cons (ps_if (pt_not (pt_val (pe_cl (c_is_pattern T) hr (by omega) rfl (pa_cons (pv 0) pa_nil))))
      (pss_one (ps_ret (pe_lst (pa_cons pe_str pa_nil))))
      pss_nil)
    (pss_cons (ps_setLc (i := 2) (own := [("_law_hole_here", 4)]) (g := gName 4) rfl sc__law_due.nd rfl rfl (sw_true rfl rfl rfl (by decide +kernel)) (pi_list (pe_cl (c__law_holes T) hr (by omega) rfl (pa_cons (pv 0) pa_nil))) (blkOk_by (own := [("_law_hole_here", 4)]) (N := ["_law_one", "_law_given", "_law_lacks", "_law_whole", "_law_hole_here"]) (sc := defScope s__law_due) (by decide +kernel)) (fun _ _ _ _ _ => (pg_name (i := 4) sc__law_due.nd rfl (Or.inl rfl))) (fun _ _ _ _ _ => (pts_one (pt_cmp (pc_dnotin (hu_of hr) (pv 4) (pv 1)) rfl))) (fun _ _ _ _ _ => (pv 4)))
    (pss_cons (ps_if (pt_cmpR (op_neD hr.units) (pv 2) (pe_lst pa_nil) (nomark _))
      (pss_one (ps_ret (pe_lst (pa_cons pe_str (pa_cons (pe_ix ix_list (pv 2) pe_int (fun _ _ => rfl)) pa_nil)))))
      pss_nil)
    (pss_cons (ps_if (pt_cmpR (op_neD hr.units) (pe_lc (own := [("_law_hole_here", 4)]) (g := gName 4) rfl sc__law_due.nd (pi_list (pe_cl (c__law_holes T) hr (by omega) rfl (pa_cons (pv 0) pa_nil))) (blkOk_by (own := [("_law_hole_here", 4)]) (N := ["_law_one", "_law_given", "_law_lacks", "_law_whole", "_law_hole_here"]) (sc := defScope s__law_due) (by decide +kernel)) (fun _ _ _ _ _ => (pg_name (i := 4) sc__law_due.nd rfl (Or.inl rfl))) (fun _ _ _ _ _ => (pts_one (pt_not (pt_val (pe_cl (c_is_term T) hr (by omega) rfl (pa_cons (pe_dget (hu_of hr) (pv 1) (pv 4) (fun _ _ => rfl)) pa_nil)))))) (fun _ _ _ _ _ => (pv 4))) (pe_lst pa_nil) (nomark _))
      (pss_one (ps_ret (pe_lst (pa_cons pe_str pa_nil))))
      pss_nil)
    (pss_cons (ps_set (i := 3) sc__law_due.nd rfl (Or.inl rfl) (pe_cl (c__law_put_in T) hr (by omega) rfl (pa_cons (pv 0) (pa_cons (pv 1) pa_nil))))
    (pss_one (ps_ret (pe_ifExp (PW.pt (pw_and (pt_cmpR op_lt (pe_cl (c__law_size T) hr (by omega) rfl (pa_cons (pv 3) pa_nil)) pe_int (nomark _)) (pw_and1 (pt_cmpR op_lt (pe_cl (c__law_depth T) hr (by omega) rfl (pa_cons (pv 3) pa_nil)) pe_int (nomark _))))) (pv 3) (pe_lst (pa_cons pe_str pa_nil)))))))))), ?_⟩
  have l1 : 1 ≤ sizeLine := by decide
  have l2 : 2 ≤ sizeLine := by decide
  refine ⟨_, rfl, v, t, rfl, r, fun H1 s1 => ⟨_, rfl, ?_⟩⟩
  cases hw : within true t with
  | false =>
    rw [out_bad hw] at q
    exact iteT ⟨l1, fun p hp => q _ _ (s1.trans (same_new hp _)) ⟨okS_by "BadPattern", p, rfl, upd_same⟩⟩
  | true =>
  obtain ⟨hs, hdp, hz⟩ := within_iff.mp hw
  have okH : ∀ z ∈ t.holes, okS z := fun z hz' => holes_ok hs (mem_holes.mp hz')
  have few : t.holes.length ≤ 1000 := by
    have := holes_le t
    omega
  refine iteF ⟨_, rfl, v, t, true, rfl, within_hgt hw, hs, by omega, r.wk (Wk.same s1), fun p2 H2 s2 np2 hp2 => ⟨p2, rfl, ⟨_, SqL.of hp2⟩, fun D hD => ?_⟩⟩
  refine lc_keep (p := fun z => (g z).isNone) hp2 hD few (fun x => rfl) (fun z H' hz' sx Q' q' => ?_) (fun z H' Q' q' => ⟨_, rfl, q'⟩) (fun H3 s3 hD3 => ?_)
  · have hG' := (hG.wk (Wk.same ((s1.trans s2).trans sx))) z
    refine ⟨_, rfl, _, rfl, d, _, rfl, DGet.k (k := Sum.inr z) (sx _ _ (s2 _ _ (s1 _ _ hK))), _, rfl, ?_⟩
    rcases hG' with ⟨e, ev⟩ | ⟨t', v', e, ev, _⟩
    · rw [ev]
      have := q' H' (Same.refl H')
      rw [e] at this
      exact this
    · rw [ev]
      have := q' H' (Same.refl H')
      rw [e] at this
      exact this
  have s13 := (s1.trans s2).trans s3
  have okL : ∀ z ∈ t.holes.filter (fun z => (g z).isNone), okS z := fun z hz' => okH z (List.mem_filter.mp hz').1
  refine ⟨_, rfl, Nat.zero_le _, fun pe hpe => ?_⟩
  have se := same_new (o := .lst []) hpe
  refine ne_nil okL (se _ _ hD3) upd_same ?_
  refine ⟨_, rfl, ?_⟩
  cases hL : lackL t g with
  | cons z rest =>
    have hL' : t.holes.filter (fun z => (g z).isNone) = z :: rest := hL
    rw [out_lack hw hL] at q
    rw [hL'] at hD3 okL ⊢
    refine iteT ⟨_, rfl, _, _, _, _, rfl, rfl, SqL.of (se _ _ hD3), atI_nat (j := 0) rfl, l2, fun p4 hp4 => ?_⟩
    exact q _ _ ((s13.trans se).trans (same_new hp4 _)) ⟨okL z (List.mem_cons_self ..), p4, rfl, upd_same⟩
  | nil =>
  have hL' : t.holes.filter (fun z => (g z).isNone) = [] := hL
  have s4 := s13.trans se
  have here : ∀ z ∈ t.hl, ∃ t' v', g z = some t' ∧ valV kvs (Sum.inr z) = some v' ∧ Rep H v' t' := fun z hz => by
    rcases hG z with ⟨e, ev⟩ | h
    · have := List.filter_eq_nil_iff.mp hL' z (mem_holes.mpr hz)
      rw [e] at this
      exact absurd rfl this
    · exact h
  have gTe : ∀ {z t'}, g z = some t' → gT g z = t' := fun {z t'} e => by
    unfold gT
    rw [e]
    rfl
  rw [hL']
  refine iteF ⟨_, rfl, v, t, true, rfl, within_hgt hw, hs, by omega, r.wk (Wk.same s4), fun p5 H5 s5 np5 hp5 => ⟨p5, rfl, ⟨_, SqL.of hp5⟩, fun D5 hD5 => ?_⟩⟩
  refine lc_keep (p := fun z => !within false (gT g z)) hp5 hD5 few (fun x => rfl) (fun z H' hz' sx Q' q' => ?_) (fun z H' Q' q' => ⟨_, rfl, q'⟩) (fun H6 s6 hD6 => ?_)
  · obtain ⟨t', v', e, ev, rv⟩ := here z (mem_holes.mp hz')
    refine ⟨_, rfl, _, rfl, d, v', rfl, ?_, v', t', rfl, rv.wk (Wk.same ((s4.trans s5).trans sx)), fun H7 s7 => ⟨_, rfl, ?_⟩⟩
    · rw [← ev]
      exact DGet.k (k := Sum.inr z) (sx _ _ (s5 _ _ (s4 _ _ hK)))
    · have := q' H7 s7
      rw [gTe e] at this
      exact this
  have s46 := (s4.trans s5).trans s6
  have okB : ∀ z ∈ t.holes.filter (fun z => !within false (gT g z)), okS z := fun z hz' => okH z (List.mem_filter.mp hz').1
  refine ⟨Nat.zero_le _, fun p7 hp7 => ?_⟩
  have s7 := same_new (o := .lst []) hp7
  refine ne_nil okB (s7 _ _ hD6) upd_same ⟨_, rfl, ?_⟩
  have s47 := s46.trans s7
  cases hB : badL t g with
  | cons z rest =>
    have hB' : t.holes.filter (fun z => !within false (gT g z)) = z :: rest := hB
    rw [out_term hw hL (by rw [hB]; exact fun e => by cases e)] at q
    rw [hB']
    exact iteT ⟨l1, fun p hp => q _ _ (s47.trans (same_new hp _)) ⟨okS_by "BadTerm", p, rfl, upd_same⟩⟩
  | nil =>
  have hB' : t.holes.filter (fun z => !within false (gT g z)) = [] := hB
  rw [hB']
  have fine : ∀ z ∈ t.hl, within false (gT g z) = true := fun z hz => by
    have := List.filter_eq_nil_iff.mp hB' z (mem_holes.mpr hz)
    simpa using this
  have hF : Fl H kvs (gT g) t.hl := fun z hz => by
    obtain ⟨t', v', e, ev, rv⟩ := here z hz
    exact ⟨v', ev, by rw [gTe e]; exact rv⟩
  refine iteF ⟨_, rfl, _, rfl, v, t, true, d, kvs, gT g, rfl, within_hgt hw, hs, r.wk (Wk.same s47), s47 _ _ hK, hF.wk (Wk.same s47), fun v' H8 s8 rv' => ?_⟩
  have shp : (t.put (gT g)).shape false = true := put_shape t hs fun z hz => (within_iff.mp (fine z hz)).1
  have hgt : (t.put (gT g)).hgt < 12 := by
    have h1 := put_hgt (g := gT g) (m := 5) t hs fun z hz => by
      have := within_hgt (fine z hz)
      omega
    have h2 := within_hgt hw
    omega
  have s48 := s47.trans s8
  refine ⟨_, rfl, v', _, false, rfl, hgt, shp, rv', fun H9 s9 => ⟨_, _, rfl, rfl, ?_⟩⟩
  have bad : within false (t.put (gT g)) = false → ∀ H', Same H H' → ∀ p, H' p = none → Q (.ref p) (upd H' p (.lst [.str "TooGreat"])) := fun c H' sx p hp => by
    rw [out_great hw hL hB c] at q
    exact q _ _ (sx.trans (same_new hp _)) ⟨okS_by "TooGreat", p, rfl, upd_same⟩
  refine ⟨_, rfl, ite2 (fun c1 => ?_) (fun c1 => iteF ⟨l1, fun p hp => bad ?_ H9 (s48.trans s9) p hp⟩)⟩
  · refine ⟨_, rfl, v', _, false, rfl, hgt, shp, rv'.wk (Wk.same s9), fun H10 s10 => ⟨_, _, rfl, rfl, ?_⟩⟩
    refine ⟨_, rfl, ite2 (fun c2 => ?_) (fun c2 => ⟨l1, fun p hp => bad ?_ H10 ((s48.trans s9).trans s10) p hp⟩)⟩
    · have c1 := of_decide_eq_true c1
      have c2 := of_decide_eq_true c2
      have ww : within false (t.put (gT g)) = true := within_iff.mpr ⟨shp, by omega, by omega⟩
      rw [out_ok hw hL hB ww] at q
      exact ⟨_, rfl, q v' H10 ((s48.trans s9).trans s10) ⟨ww, rv'.wk (Wk.same (s9.trans s10))⟩⟩
    · cases e : within false (t.put (gT g)) with
      | false => rfl
      | true =>
        have := (within_iff.mp e).2.1
        exact absurd (decide_eq_true (by omega)) c2
  · cases e : within false (t.put (gT g)) with
    | false => rfl
    | true =>
      have := (within_iff.mp e).2.2
      exact absurd (decide_eq_true (by omega)) c1
end
end Kt
namespace Kt
open PySem PySem.Spec PyProof.Rows L2
/-! ### a filling as it is told of -/
theorem room65 {k : Nat} {A : Around} (r : Room k A) : A.units + 65 < cLine := by
  have := r.un
  omega
theorem out_hole_ok {t : Th} {g : Str → Option Th} {z : Str} (h : outOf t g = .hole z) : okS z := by
  unfold outOf at h
  split at h
  · rename_i hw
    have hs := (within_iff.mp hw).1
    split at h
    · rename_i y r e
      cases h
      have hm : z ∈ lackL t g := by
        rw [e]
        exact List.mem_cons_self ..
      exact holes_ok hs (mem_holes.mp (List.mem_filter.mp hm).1)
    · split at h
      · split at h
        · cases h
        · cases h
      · cases h
  · cases h
theorem out_kinds {t : Th} {g : Str → Option Th} {z : Str} (h : outOf t g = .kind z) : z = "BadPattern" ∨ z = "BadTerm" ∨ z = "TooGreat" := by
  unfold outOf at h
  split at h
  · split at h
    · cases h
    · split at h
      · split at h
        · cases h
        · cases h
          exact .inr (.inr rfl)
      · cases h
        exact .inr (.inl rfl)
  · cases h
    exact .inl rfl
def fourN : List Str := ["BadPattern", "NoHole", "BadTerm", "TooGreat"]
/-- a kept error and the outcome that it speaks of -/
def ErrS (K : PySem.W.Frag) (mg : Str → Option Value) (H : Hp) (a : Addr) (out : Out) : Prop :=
  ∃ (D : Addr) (o : Option Addr) (b1 b2 b3 b4 : Bool) (j : Nat) (x : Str), ExcC K D ∧ H a = some (ExK (.ref D) o a) ∧ (o = none ∨ ∃ dd fs, o = some dd ∧ H dd = some (.xd fs)) ∧
    PySem.W.kitOne K (.ref D) (.ref (clsA mg "BadPattern")) = some b1 ∧ PySem.W.kitOne K (.ref D) (.ref (clsA mg "NoHole")) = some b2 ∧ PySem.W.kitOne K (.ref D) (.ref (clsA mg "BadTerm")) = some b3 ∧ PySem.W.kitOne K (.ref D) (.ref (clsA mg "TooGreat")) = some b4 ∧ PySem.W.kitOne K (.ref D) (.type "ValueError") = some true ∧
    [b1, b2, b3, b4].count true = 1 ∧ [b1, b2, b3, b4][j]? = some true ∧ (∀ m, m < j → [b1, b2, b3, b4][m]? = some false) ∧ fourN[j]? = some x ∧
    ((x ≠ "NoHole" ∧ okS x ∧ out = .kind x) ∨ (x = "NoHole" ∧ ∃ dd z, D = clsA mg "NoHole" ∧ o = some dd ∧ (∃ y, H dd = some (.xd [("hole", .str z), ("word", .str y)])) ∧ out = .hole z ∧ okS z))
theorem is_of {K : PySem.W.Frag} {H : Hp} {a D : Addr} {o : Option Addr} {c : V} {cv : Value} {b : Bool} {Q : VK} (x : ExcC K D) (e : H a = some (ExK (.ref D) o a)) (f : o = none ∨ ∃ dd fs, o = some dd ∧ H dd = some (.xd fs)) (named : ∀ u, RelV c u → u = cv) (k : PySem.W.kitOne K (.ref D) cv = some b) (q : Q (.bl b) H) : rIsK K [.ref a, c] H Q ∨ rIsKd K [.ref a, c] H Q := by
  rcases f with rfl | ⟨dd, fs, rfl, hd⟩
  · exact .inl ⟨a, D, c, cv, b, rfl, x, e, named, k, q⟩
  · exact .inr ⟨a, D, dd, fs, c, cv, b, rfl, x, e, hd, named, k, q⟩
theorem xd_same {H H' : Hp} {o : Option Addr} (s : Same H H') (f : o = none ∨ ∃ dd fs, o = some dd ∧ H dd = some (.xd fs)) : o = none ∨ ∃ dd fs, o = some dd ∧ H' dd = some (.xd fs) := by
  rcases f with rfl | ⟨dd, fs, rfl, hd⟩
  · exact .inl rfl
  · exact .inr ⟨dd, fs, rfl, s _ _ hd⟩
def sp_ltold : Sp := fun vs H Q _ => ∃ v t a kvs g b, vs = [v, .ref a, .bl b] ∧ Rep H v t ∧ H a = some (.dK kvs) ∧ Gv H kvs g ∧ ∀ u H', Same H H' → OutV H' u (outOf t g) → Q u H'
section
variable {P : Program} {w : World} {K : PySem.W.Frag} {mg : Str → Option Value} {base : Heap}
theorem cs_filled_sw (T : Tx K mg) (Z : ProgF P) : ClSX P w K mg base 12 "filled" "pattern" "fill" (spx_filled mg) := by
  obtain ⟨f, fd, ok, m, kp, b, oc, od, osl, lk⟩ := (cx_filled (P := P) (w := w) (base := base) T Z).ex
  obtain ⟨f', fd', F', m', b'⟩ := T.d_filled.ex
  rw [m] at m'
  cases m'
  obtain ⟨oc', od', kV, doc, pm, an, cdv, ct, osl', rfl, lk', _⟩ := F'.ex
  rw [lk] at lk'
  cases lk'
  exact ⟨f, _, ok, m, kp, fun s u v => .of_eq rfl⟩
theorem c__law_told (T : Tx K mg) (Z : ProgF P) : Cl P w K mg base CX0 14 "_law_told" ["_law_one", "_law_given", "_law_by_name"] sp_ltold := by
  have cx_filled := fun (T : Tx K mg) => cx_filled (P := P) (w := w) (base := base) T Z
  have cs_filled_sw := fun (T : Tx K mg) => cs_filled_sw (P := P) (w := w) (base := base) T Z
  refine Cl.mk0 T.d__law_told sc__law_told (fun vs H Q E h => ?_) (fun f cdv A outer s H vs Q E hr h => ?_)
  · obtain ⟨v, t, a, kvs, g, b, rfl, _⟩ := h
    rfl
  obtain ⟨v, t, d, kvs, g, b, rfl, r, hK, hG, q⟩ := h
  refine ⟨_, (pss_cons (ps_asg (pe_tup (pa_cons pe_non (pa_cons pe_non pa_nil))) (pg_tup rfl (pgs_cons (pg_name (i := 3) sc__law_told.nd rfl (Or.inl rfl)) (pgs_cons (pg_name (i := 4) sc__law_told.nd rfl (Or.inl rfl)) pgs_nil))))
    (Evl.pss_cut (ps_try_val (i := 5) rfl rfl rfl sc__law_told.nd rfl rfl ⟨rfl, by decide, .inl T.e_MatchError.g⟩ (fun W pn xe tk _ => (pss_one (ps_set (i := 3) sc__law_told.nd rfl (Or.inl rfl) (pe_ifExp (pt_val (pv 2)) (pe_clSwX (cs_filled_sw T) hr (by omega) rfl (fun σ => passAt tk σ) (pk_cons (pv 1) (pk_cons (pv 0) pk_nil))) (pe_clS (cx_filled T) hr (by omega) rfl (fun σ => passAt tk σ) (pa_cons (pv 0) (pa_cons (pv 1) pa_nil)))))))
      (fun a oe cls d pn _ _ => (pss_one (ps_set (i := 4) sc__law_told.nd rfl (Or.inl rfl) (pv 5)))))
    (pss_cons (ps_if (pt_cmpR op_isN (pv 4) pe_non (nomark _))
      (pss_one (ps_ret (pv 3)))
      pss_nil)
    (pss_cons (ps_set (i := 6) sc__law_told.nd rfl (Or.inl rfl) (pe_lst (pa_cons (pe_callB (id := "isinstance") (r := fun xs H Q => rIsK K xs H Q ∨ rIsKd K xs H Q) (CallR.either call_isK call_isKd) (by rfl) T.z_isinstance (by decide +kernel) (pa_cons (pv 4) (pa_cons (pe_glob (v := .ref (clsA mg "BadPattern")) (by rfl) T.e_BadPattern.g rfl) pa_nil))) (pa_cons (pe_callB (id := "isinstance") (r := fun xs H Q => rIsK K xs H Q ∨ rIsKd K xs H Q) (CallR.either call_isK call_isKd) (by rfl) T.z_isinstance (by decide +kernel) (pa_cons (pv 4) (pa_cons (pe_glob (v := .ref (clsA mg "NoHole")) (by rfl) T.gi_NoHole rfl) pa_nil))) (pa_cons (pe_callB (id := "isinstance") (r := fun xs H Q => rIsK K xs H Q ∨ rIsKd K xs H Q) (CallR.either call_isK call_isKd) (by rfl) T.z_isinstance (by decide +kernel) (pa_cons (pv 4) (pa_cons (pe_glob (v := .ref (clsA mg "BadTerm")) (by rfl) T.e_BadTerm.g rfl) pa_nil))) pa_nil)))))
    (pss_cons (ps_expr (pe_bm PySem.F.plainAttrs_list PySem.F.slot_list_append PySem.F.type_list_append mt_append (pv 6) (pa_cons (pe_callB (id := "isinstance") (r := fun xs H Q => rIsK K xs H Q ∨ rIsKd K xs H Q) (CallR.either call_isK call_isKd) (by rfl) T.z_isinstance (by decide +kernel) (pa_cons (pv 4) (pa_cons (pe_glob (v := .ref (clsA mg "TooGreat")) (by rfl) T.e_TooGreat.g rfl) pa_nil))) pa_nil)))
    (pss_cons (ps_if (PW.pt (pw_or (pt_cmpR op_ne (pe_bm PySem.F.plainAttrs_list PySem.F.slot_list_count PySem.F.type_list_count mt_lcountB (pv 6) (pa_cons pe_bl pa_nil)) pe_int (nomark _)) (pw_or1 (pt_not (pt_val (pe_callB (id := "isinstance") (r := fun xs H Q => rIsK K xs H Q ∨ rIsKd K xs H Q) (CallR.either call_isK call_isKd) (by rfl) T.z_isinstance (by decide +kernel) (pa_cons (pv 4) (pa_cons (pe_bltn (v := .ty "ValueError") (u := .type "ValueError") (by rfl) T.z_ValueError (by decide +kernel) rfl) pa_nil))))))))
      (pss_one (ps_ret (pe_lst (pa_cons pe_str pa_nil))))
      pss_nil)
    (pss_cons (ps_set (i := 7) sc__law_told.nd rfl (Or.inl rfl) (pe_ix ix_list (pe_lst (pa_cons pe_str (pa_cons pe_str (pa_cons pe_str (pa_cons pe_str pa_nil))))) (pe_bm PySem.F.plainAttrs_list PySem.F.slot_list_index PySem.F.type_list_index (mt_indexD (room65 hr)) (pv 6) (pa_cons pe_bl pa_nil)) (fun _ _ => rfl)))
    (pss_one (ps_ret (pe_ifExp (pt_cmpR op_eq (pv 7) pe_str (nomark _)) (pe_lst (pa_cons (pv 7) (pa_cons (pe_kf T.x_NoHole T.i_NoHole.nof (pv 4)) pa_nil))) (pe_lst (pa_cons (pv 7) pa_nil)))))))))))), ?_⟩
  have l1 : 1 ≤ sizeLine := by decide
  have l2 : 2 ≤ sizeLine := by decide
  have l3 : 3 ≤ sizeLine := by decide
  have l4 : 4 ≤ sizeLine := by decide
  refine ⟨l2, fun p0 hp0 => ?_⟩
  have s0 := same_new (o := .tup [.non, .non]) hp0
  refine ⟨p0, [.non, .non], rfl, SqT.of upd_same, rfl, _, _, rfl, _, _, rfl, rfl, ?_⟩
  refine ⟨fun σ' H' => ∃ fo er, σ' = [some v, some (.ref d), some (.bl b), some fo, some er, none, none, none] ∧ Same H H' ∧ ((er = .non ∧ OutV H' fo (outOf t g)) ∨ ∃ a, er = .ref a ∧ ErrS K mg H' a (outOf t g)), ?_, fun σ1 H1 e1 => ?_⟩
  · refine ⟨_, rfl, _, rfl, ite2 (fun _ => ⟨_, rfl, _, rfl, _, _, rfl, ?_⟩) (fun _ => ⟨_, rfl, _, rfl, ?_⟩)⟩
    all_goals
      refine ⟨v, t, d, kvs, g, rfl, r.wk (Wk.same s0), s0 _ _ hK, hG.wk (Wk.same s0), ?_⟩
      cases ho : outOf t g with
      | term u =>
        intro v' H' s' ww rv'
        exact ⟨v', .non, rfl, s0.trans s', .inl ⟨rfl, ww, rv'⟩⟩
      | kind z =>
        intro dd yy H' s' hdd
        rcases out_kinds ho with rfl | rfl | rfl
        · exact ⟨exm_kitG T.e_MatchError T.k_BadPattern_MatchError, fun a ha => ⟨_, rfl, _, _, rfl, (s0.trans s').trans (same_new ha _), .inr ⟨a, rfl, clsA mg "BadPattern", some dd, true, false, false, false, 0, "BadPattern", T.x_BadPattern, upd_same, .inr ⟨dd, _, rfl, (same_new (o := ExK _ (some dd) a) ha) _ _ hdd⟩, T.k_BadPattern_BadPattern, T.k_BadPattern_NoHole, T.k_BadPattern_BadTerm, T.k_BadPattern_TooGreat, T.k_BadPattern_ValueError, rfl, rfl, fun m hm => absurd hm (Nat.not_lt_zero m), rfl, .inl ⟨by decide, okS_by "BadPattern", rfl⟩⟩⟩⟩
        · exact ⟨exm_kitG T.e_MatchError T.k_BadTerm_MatchError, fun a ha => ⟨_, rfl, _, _, rfl, (s0.trans s').trans (same_new ha _), .inr ⟨a, rfl, clsA mg "BadTerm", some dd, false, false, true, false, 2, "BadTerm", T.x_BadTerm, upd_same, .inr ⟨dd, _, rfl, (same_new (o := ExK _ (some dd) a) ha) _ _ hdd⟩, T.k_BadTerm_BadPattern, T.k_BadTerm_NoHole, T.k_BadTerm_BadTerm, T.k_BadTerm_TooGreat, T.k_BadTerm_ValueError, rfl, rfl, fun m hm => match m, hm with | 0, _ => rfl | 1, _ => rfl, rfl, .inl ⟨by decide, okS_by "BadTerm", rfl⟩⟩⟩⟩
        · exact ⟨exm_kitG T.e_MatchError T.k_TooGreat_MatchError, fun a ha => ⟨_, rfl, _, _, rfl, (s0.trans s').trans (same_new ha _), .inr ⟨a, rfl, clsA mg "TooGreat", some dd, false, false, false, true, 3, "TooGreat", T.x_TooGreat, upd_same, .inr ⟨dd, _, rfl, (same_new (o := ExK _ (some dd) a) ha) _ _ hdd⟩, T.k_TooGreat_BadPattern, T.k_TooGreat_NoHole, T.k_TooGreat_BadTerm, T.k_TooGreat_TooGreat, T.k_TooGreat_ValueError, rfl, rfl, fun m hm => match m, hm with | 0, _ => rfl | 1, _ => rfl | 2, _ => rfl, rfl, .inl ⟨by decide, okS_by "TooGreat", rfl⟩⟩⟩⟩
      | hole z =>
        intro dd yy H' s' hdd
        refine ⟨exm_kitG T.e_MatchError T.k_NoHole_MatchError, fun a ha => ?_⟩
        have hd2 := (same_new (o := ExK (exV mg "NoHole") (some dd) a) ha) _ _ hdd
        exact ⟨_, rfl, _, _, rfl, (s0.trans s').trans (same_new ha _), .inr ⟨a, rfl, clsA mg "NoHole", some dd, false, true, false, false, 1, "NoHole", T.x_NoHole, upd_same, .inr ⟨dd, _, rfl, hd2⟩, T.k_NoHole_BadPattern, T.k_NoHole_NoHole, T.k_NoHole_BadTerm, T.k_NoHole_TooGreat, T.k_NoHole_ValueError, rfl, rfl, fun m hm => match m, hm with | 0, _ => rfl, rfl, .inr ⟨rfl, dd, z, rfl, rfl, ⟨yy, hd2⟩, rfl, out_hole_ok ho⟩⟩⟩
  obtain ⟨fo, er, rfl, sH, e⟩ := e1
  rcases e with ⟨rfl, ho⟩ | ⟨a, rfl, D, o, b1, b2, b3, b4, j, x, hx, ha, hd, k1, k2, k3, k4, kv, cnt, at_, bef, nm, fin⟩
  · refine ⟨_, rfl, rfl, _, rfl, ?_⟩
    rw [decide_eq_true rfl]
    exact iteT ⟨_, rfl, q fo H1 sH ho⟩
  refine ⟨_, rfl, rfl, _, rfl, ?_⟩
  rw [decide_eq_false (fun h => by cases h)]
  refine iteF ⟨_, rfl, is_of hx ha hd (fun u h => h) k1 ⟨_, rfl, is_of hx ha hd (fun u h => h) k2 ⟨_, rfl, is_of hx ha hd (fun u h => h) k3 ⟨l3, fun p hp => ?_⟩⟩⟩⟩
  have sp := same_new (o := .lst [.bl b1, .bl b2, .bl b3]) hp
  refine ⟨_, rfl, .inl ⟨rfl, _, SqL.of upd_same⟩, _, rfl, is_of hx (sp _ _ ha) (xd_same sp hd) (fun u h => h) k4 ⟨p, [.bl b1, .bl b2, .bl b3], .bl b4, rfl, rfl, upd_same, by show 3 < sizeLine; decide, ?_⟩⟩
  have sp2 : Same H1 (upd (upd H1 p (.lst [.bl b1, .bl b2, .bl b3])) p (.lst ([.bl b1, .bl b2, .bl b3] ++ [.bl b4]))) := Same.mut sp hp
  have hp2 : (upd (upd H1 p (.lst [.bl b1, .bl b2, .bl b3])) p (.lst ([.bl b1, .bl b2, .bl b3] ++ [.bl b4]))) p = some (.lst ([b1, b2, b3, b4].map V.bl)) := upd_same
  generalize upd (upd H1 p (.lst [.bl b1, .bl b2, .bl b3])) p (.lst ([.bl b1, .bl b2, .bl b3] ++ [.bl b4])) = H2 at sp2 hp2 ⊢
  have ha2 := sp2 _ _ ha
  have hd2 := xd_same sp2 hd
  refine ⟨_, rfl, .inl ⟨rfl, _, SqL.of hp2⟩, p, [b1, b2, b3, b4], rfl, rfl, SqL.of hp2, ?_⟩
  rw [cnt]
  refine ⟨rfl, _, rfl, ?_⟩
  have one : (!decide (V.int ((1 : Nat) : Int) = V.int 1)) = false := by decide
  rw [one]
  refine iteF ⟨_, rfl, is_of hx ha2 hd2 (fun u h => h) kv ⟨_, rfl, iteF ⟨l4, fun p4 hp4 => ?_⟩⟩⟩
  have s4 := same_new (o := .lst [.str "BadPattern", .str "NoHole", .str "BadTerm", .str "TooGreat"]) hp4
  have hp42 := s4 _ _ hp2
  have ds_at : ∀ (m : Nat) (b : Bool), [b1, b2, b3, b4][m]? = some b → ([b1, b2, b3, b4].map PyData.bool)[m]? = some (.bool b) := fun m b e => by
    rw [List.getElem?_map, e]
    rfl
  refine ⟨_, rfl, .inl ⟨rfl, _, SqL.of hp42⟩, p, .bl true, .bool true, [b1, b2, b3, b4].map PyData.bool, j, .bool true, rfl, rfl, .lst (SqL.of hp42) (dpBls _), .bl true, shapedBls _, rfl, ds_at j true at_, rfl, fun m z' hm hz' => ?_, ?_⟩
  · rw [ds_at m false (bef m hm)] at hz'
    cases hz'
    rfl
  have nmV : (fourN.map V.str)[j]? = some (.str x) := by
    rw [List.getElem?_map, nm]
    rfl
  refine ⟨_, _, _, _, rfl, rfl, SqL.of (xs := fourN.map V.str) upd_same, atI_nat (j := j) nmV, ?_⟩
  have ha4 := s4 _ _ ha2
  have hd4 := xd_same s4 hd2
  have s5 := ((sH.trans sp2).trans s4)
  refine ⟨_, rfl, rfl, _, rfl, ?_⟩
  rcases fin with ⟨ne, okx, ho⟩ | ⟨rfl, dd, z, rfl, rfl, ⟨yy, hdd⟩, ho, okz⟩
  · rw [decide_eq_false (fun h => ne (V.str.inj h))]
    exact iteF ⟨_, rfl, l1, fun p5 hp5 => q _ _ (s5.trans (same_new hp5 _)) (by rw [ho]; exact ⟨okx, p5, rfl, upd_same⟩)⟩
  · rw [decide_eq_true rfl]
    have hdd4 := s4 _ _ (sp2 _ _ hdd)
    exact iteT ⟨_, rfl, _, rfl, a, dd, _, _, rfl, ha4, hdd4, rfl, l2, fun p5 hp5 => q _ _ (s5.trans (same_new hp5 _)) (by rw [ho]; exact ⟨okz, p5, rfl, upd_same⟩)⟩
end
end Kt
namespace Kt
open PySem PySem.Spec PyProof.Rows L2
theorem all_tx {K : PySem.W.Frag} {h : Heap} {mg : Str → Option Value} (X : K.In h) (G : h.Ns mainGlobals mg)
    {f0 : Addr} {od0 an0 : Option Addr} {sl0 : Array (Option Value)} {oc0 kV0 dc0 pm0 cd0 ct0 : Value}
    (a0 : PySem.W.nsIn K mainGlobals "is_word" = some (some (.ref f0))) (l0 : K.lookup f0 = some ⟨oc0, od0, .func (PySem.W.fnOf "is_word" "is_word" (defArgs s_is_word) (defBody s_is_word) (defScope s_is_word) .none kV0 dc0 pm0 an0 cd0 ct0), sl0⟩) (c0 : PySem.W.codeIn K cd0 "is_word" = true) (k0 : PySem.W.keepIn K (.ref f0) = true)
    {f1 : Addr} {od1 an1 : Option Addr} {sl1 : Array (Option Value)} {oc1 kV1 dc1 pm1 cd1 ct1 : Value}
    (a1 : PySem.W.nsIn K mainGlobals "is_name" = some (some (.ref f1))) (l1 : K.lookup f1 = some ⟨oc1, od1, .func (PySem.W.fnOf "is_name" "is_name" (defArgs s_is_name) (defBody s_is_name) (defScope s_is_name) .none kV1 dc1 pm1 an1 cd1 ct1), sl1⟩) (c1 : PySem.W.codeIn K cd1 "is_name" = true) (k1 : PySem.W.keepIn K (.ref f1) = true)
    {f2 : Addr} {od2 an2 : Option Addr} {sl2 : Array (Option Value)} {oc2 kV2 dc2 pm2 cd2 ct2 : Value}
    (a2 : PySem.W.nsIn K mainGlobals "is_hole" = some (some (.ref f2))) (l2 : K.lookup f2 = some ⟨oc2, od2, .func (PySem.W.fnOf "is_hole" "is_hole" (defArgs s_is_hole) (defBody s_is_hole) (defScope s_is_hole) .none kV2 dc2 pm2 an2 cd2 ct2), sl2⟩) (c2 : PySem.W.codeIn K cd2 "is_hole" = true) (k2 : PySem.W.keepIn K (.ref f2) = true)
    {f3 : Addr} {od3 an3 : Option Addr} {sl3 : Array (Option Value)} {oc3 kV3 dc3 pm3 cd3 ct3 : Value}
    (a3 : PySem.W.nsIn K mainGlobals "size_within" = some (some (.ref f3))) (l3 : K.lookup f3 = some ⟨oc3, od3, .func (PySem.W.fnOf "size_within" "size_within" (defArgs s_size_within) (defBody s_size_within) (defScope s_size_within) .none kV3 dc3 pm3 an3 cd3 ct3), sl3⟩) (c3 : PySem.W.codeIn K cd3 "size_within" = true) (k3 : PySem.W.keepIn K (.ref f3) = true)
    {f4 : Addr} {od4 an4 : Option Addr} {sl4 : Array (Option Value)} {oc4 kV4 dc4 pm4 cd4 ct4 : Value}
    (a4 : PySem.W.nsIn K mainGlobals "is_term" = some (some (.ref f4))) (l4 : K.lookup f4 = some ⟨oc4, od4, .func (PySem.W.fnOf "is_term" "is_term" (defArgs s_is_term) (defBody s_is_term) (defScope s_is_term) .none kV4 dc4 pm4 an4 cd4 ct4), sl4⟩) (c4 : PySem.W.codeIn K cd4 "is_term" = true) (k4 : PySem.W.keepIn K (.ref f4) = true)
    {f5 : Addr} {od5 an5 : Option Addr} {sl5 : Array (Option Value)} {oc5 kV5 dc5 pm5 cd5 ct5 : Value}
    (a5 : PySem.W.nsIn K mainGlobals "is_pattern" = some (some (.ref f5))) (l5 : K.lookup f5 = some ⟨oc5, od5, .func (PySem.W.fnOf "is_pattern" "is_pattern" (defArgs s_is_pattern) (defBody s_is_pattern) (defScope s_is_pattern) .none kV5 dc5 pm5 an5 cd5 ct5), sl5⟩) (c5 : PySem.W.codeIn K cd5 "is_pattern" = true) (k5 : PySem.W.keepIn K (.ref f5) = true)
    {f6 : Addr} {od6 an6 : Option Addr} {sl6 : Array (Option Value)} {oc6 kV6 dc6 pm6 cd6 ct6 : Value}
    (a6 : PySem.W.nsIn K mainGlobals "refuse_no_term" = some (some (.ref f6))) (l6 : K.lookup f6 = some ⟨oc6, od6, .func (PySem.W.fnOf "refuse_no_term" "refuse_no_term" (defArgs s_refuse_no_term) (defBody s_refuse_no_term) (defScope s_refuse_no_term) .none kV6 dc6 pm6 an6 cd6 ct6), sl6⟩) (c6 : PySem.W.codeIn K cd6 "refuse_no_term" = true) (k6 : PySem.W.keepIn K (.ref f6) = true)
    {f7 : Addr} {od7 an7 : Option Addr} {sl7 : Array (Option Value)} {oc7 kV7 dc7 pm7 cd7 ct7 : Value}
    (a7 : PySem.W.nsIn K mainGlobals "refuse_no_pattern" = some (some (.ref f7))) (l7 : K.lookup f7 = some ⟨oc7, od7, .func (PySem.W.fnOf "refuse_no_pattern" "refuse_no_pattern" (defArgs s_refuse_no_pattern) (defBody s_refuse_no_pattern) (defScope s_refuse_no_pattern) .none kV7 dc7 pm7 an7 cd7 ct7), sl7⟩) (c7 : PySem.W.codeIn K cd7 "refuse_no_pattern" = true) (k7 : PySem.W.keepIn K (.ref f7) = true)
    {f8 : Addr} {od8 an8 : Option Addr} {sl8 : Array (Option Value)} {oc8 kV8 dc8 pm8 cd8 ct8 : Value}
    (a8 : PySem.W.nsIn K mainGlobals "all_within" = some (some (.ref f8))) (l8 : K.lookup f8 = some ⟨oc8, od8, .func (PySem.W.fnOf "all_within" "all_within" (defArgs s_all_within) (defBody s_all_within) (defScope s_all_within) .none kV8 dc8 pm8 an8 cd8 ct8), sl8⟩) (c8 : PySem.W.codeIn K cd8 "all_within" = true) (k8 : PySem.W.keepIn K (.ref f8) = true)
    {f9 : Addr} {od9 an9 : Option Addr} {sl9 : Array (Option Value)} {oc9 kV9 dc9 pm9 cd9 ct9 : Value}
    (a9 : PySem.W.nsIn K mainGlobals "holes_of" = some (some (.ref f9))) (l9 : K.lookup f9 = some ⟨oc9, od9, .func (PySem.W.fnOf "holes_of" "holes_of" (defArgs s_holes_of) (defBody s_holes_of) (defScope s_holes_of) .none kV9 dc9 pm9 an9 cd9 ct9), sl9⟩) (c9 : PySem.W.codeIn K cd9 "holes_of" = true) (k9 : PySem.W.keepIn K (.ref f9) = true)
    {f10 : Addr} {od10 an10 : Option Addr} {sl10 : Array (Option Value)} {oc10 kV10 dc10 pm10 cd10 ct10 : Value}
    (a10 : PySem.W.nsIn K mainGlobals "exchanged" = some (some (.ref f10))) (l10 : K.lookup f10 = some ⟨oc10, od10, .func (PySem.W.fnOf "exchanged" "exchanged" (defArgs s_exchanged) (defBody s_exchanged) (defScope s_exchanged) .none kV10 dc10 pm10 an10 cd10 ct10), sl10⟩) (c10 : PySem.W.codeIn K cd10 "exchanged" = true) (k10 : PySem.W.keepIn K (.ref f10) = true)
    {f11 : Addr} {od11 an11 : Option Addr} {sl11 : Array (Option Value)} {oc11 kV11 dc11 pm11 cd11 ct11 : Value}
    (a11 : PySem.W.nsIn K mainGlobals "refuse_no_fill" = some (some (.ref f11))) (l11 : K.lookup f11 = some ⟨oc11, od11, .func (PySem.W.fnOf "refuse_no_fill" "refuse_no_fill" (defArgs s_refuse_no_fill) (defBody s_refuse_no_fill) (defScope s_refuse_no_fill) .none kV11 dc11 pm11 an11 cd11 ct11), sl11⟩) (c11 : PySem.W.codeIn K cd11 "refuse_no_fill" = true) (k11 : PySem.W.keepIn K (.ref f11) = true)
    {f12 : Addr} {od12 an12 : Option Addr} {sl12 : Array (Option Value)} {oc12 kV12 dc12 pm12 cd12 ct12 : Value}
    (a12 : PySem.W.nsIn K mainGlobals "filled" = some (some (.ref f12))) (l12 : K.lookup f12 = some ⟨oc12, od12, .func (PySem.W.fnOf "filled" "filled" (defArgs s_filled) (defBody s_filled) (defScope s_filled) .none kV12 dc12 pm12 an12 cd12 ct12), sl12⟩) (c12 : PySem.W.codeIn K cd12 "filled" = true) (k12 : PySem.W.keepIn K (.ref f12) = true)
    {f13 : Addr} {od13 an13 : Option Addr} {sl13 : Array (Option Value)} {oc13 kV13 dc13 pm13 cd13 ct13 : Value}
    (a13 : PySem.W.nsIn K mainGlobals "_law_begin" = some (some (.ref f13))) (l13 : K.lookup f13 = some ⟨oc13, od13, .func (PySem.W.fnOf "_law_begin" "_law_begin" (defArgs s__law_begin) (defBody s__law_begin) (defScope s__law_begin) .none kV13 dc13 pm13 an13 cd13 ct13), sl13⟩) (c13 : PySem.W.codeIn K cd13 "_law_begin" = true) (k13 : PySem.W.keepIn K (.ref f13) = true)
    {f14 : Addr} {od14 an14 : Option Addr} {sl14 : Array (Option Value)} {oc14 kV14 dc14 pm14 cd14 ct14 : Value}
    (a14 : PySem.W.nsIn K mainGlobals "_law_take" = some (some (.ref f14))) (l14 : K.lookup f14 = some ⟨oc14, od14, .func (PySem.W.fnOf "_law_take" "_law_take" (defArgs s__law_take) (defBody s__law_take) (defScope s__law_take) .none kV14 dc14 pm14 an14 cd14 ct14), sl14⟩) (c14 : PySem.W.codeIn K cd14 "_law_take" = true) (k14 : PySem.W.keepIn K (.ref f14) = true)
    {f15 : Addr} {od15 an15 : Option Addr} {sl15 : Array (Option Value)} {oc15 kV15 dc15 pm15 cd15 ct15 : Value}
    (a15 : PySem.W.nsIn K mainGlobals "_law_pick" = some (some (.ref f15))) (l15 : K.lookup f15 = some ⟨oc15, od15, .func (PySem.W.fnOf "_law_pick" "_law_pick" (defArgs s__law_pick) (defBody s__law_pick) (defScope s__law_pick) .none kV15 dc15 pm15 an15 cd15 ct15), sl15⟩) (c15 : PySem.W.codeIn K cd15 "_law_pick" = true) (k15 : PySem.W.keepIn K (.ref f15) = true)
    {f16 : Addr} {od16 an16 : Option Addr} {sl16 : Array (Option Value)} {oc16 kV16 dc16 pm16 cd16 ct16 : Value}
    (a16 : PySem.W.nsIn K mainGlobals "_law_word" = some (some (.ref f16))) (l16 : K.lookup f16 = some ⟨oc16, od16, .func (PySem.W.fnOf "_law_word" "_law_word" (defArgs s__law_word) (defBody s__law_word) (defScope s__law_word) .none kV16 dc16 pm16 an16 cd16 ct16), sl16⟩) (c16 : PySem.W.codeIn K cd16 "_law_word" = true) (k16 : PySem.W.keepIn K (.ref f16) = true)
    {f17 : Addr} {od17 an17 : Option Addr} {sl17 : Array (Option Value)} {oc17 kV17 dc17 pm17 cd17 ct17 : Value}
    (a17 : PySem.W.nsIn K mainGlobals "_law_hole" = some (some (.ref f17))) (l17 : K.lookup f17 = some ⟨oc17, od17, .func (PySem.W.fnOf "_law_hole" "_law_hole" (defArgs s__law_hole) (defBody s__law_hole) (defScope s__law_hole) .none kV17 dc17 pm17 an17 cd17 ct17), sl17⟩) (c17 : PySem.W.codeIn K cd17 "_law_hole" = true) (k17 : PySem.W.keepIn K (.ref f17) = true)
    {f18 : Addr} {od18 an18 : Option Addr} {sl18 : Array (Option Value)} {oc18 kV18 dc18 pm18 cd18 ct18 : Value}
    (a18 : PySem.W.nsIn K mainGlobals "_law_pattern" = some (some (.ref f18))) (l18 : K.lookup f18 = some ⟨oc18, od18, .func (PySem.W.fnOf "_law_pattern" "_law_pattern" (defArgs s__law_pattern) (defBody s__law_pattern) (defScope s__law_pattern) .none kV18 dc18 pm18 an18 cd18 ct18), sl18⟩) (c18 : PySem.W.codeIn K cd18 "_law_pattern" = true) (k18 : PySem.W.keepIn K (.ref f18) = true)
    {f19 : Addr} {od19 an19 : Option Addr} {sl19 : Array (Option Value)} {oc19 kV19 dc19 pm19 cd19 ct19 : Value}
    (a19 : PySem.W.nsIn K mainGlobals "_law_size" = some (some (.ref f19))) (l19 : K.lookup f19 = some ⟨oc19, od19, .func (PySem.W.fnOf "_law_size" "_law_size" (defArgs s__law_size) (defBody s__law_size) (defScope s__law_size) .none kV19 dc19 pm19 an19 cd19 ct19), sl19⟩) (c19 : PySem.W.codeIn K cd19 "_law_size" = true) (k19 : PySem.W.keepIn K (.ref f19) = true)
    {f20 : Addr} {od20 an20 : Option Addr} {sl20 : Array (Option Value)} {oc20 kV20 dc20 pm20 cd20 ct20 : Value}
    (a20 : PySem.W.nsIn K mainGlobals "_law_depth" = some (some (.ref f20))) (l20 : K.lookup f20 = some ⟨oc20, od20, .func (PySem.W.fnOf "_law_depth" "_law_depth" (defArgs s__law_depth) (defBody s__law_depth) (defScope s__law_depth) .none kV20 dc20 pm20 an20 cd20 ct20), sl20⟩) (c20 : PySem.W.codeIn K cd20 "_law_depth" = true) (k20 : PySem.W.keepIn K (.ref f20) = true)
    {f21 : Addr} {od21 an21 : Option Addr} {sl21 : Array (Option Value)} {oc21 kV21 dc21 pm21 cd21 ct21 : Value}
    (a21 : PySem.W.nsIn K mainGlobals "_law_holes" = some (some (.ref f21))) (l21 : K.lookup f21 = some ⟨oc21, od21, .func (PySem.W.fnOf "_law_holes" "_law_holes" (defArgs s__law_holes) (defBody s__law_holes) (defScope s__law_holes) .none kV21 dc21 pm21 an21 cd21 ct21), sl21⟩) (c21 : PySem.W.codeIn K cd21 "_law_holes" = true) (k21 : PySem.W.keepIn K (.ref f21) = true)
    {f22 : Addr} {od22 an22 : Option Addr} {sl22 : Array (Option Value)} {oc22 kV22 dc22 pm22 cd22 ct22 : Value}
    (a22 : PySem.W.nsIn K mainGlobals "_law_put_in" = some (some (.ref f22))) (l22 : K.lookup f22 = some ⟨oc22, od22, .func (PySem.W.fnOf "_law_put_in" "_law_put_in" (defArgs s__law_put_in) (defBody s__law_put_in) (defScope s__law_put_in) .none kV22 dc22 pm22 an22 cd22 ct22), sl22⟩) (c22 : PySem.W.codeIn K cd22 "_law_put_in" = true) (k22 : PySem.W.keepIn K (.ref f22) = true)
    {f23 : Addr} {od23 an23 : Option Addr} {sl23 : Array (Option Value)} {oc23 kV23 dc23 pm23 cd23 ct23 : Value}
    (a23 : PySem.W.nsIn K mainGlobals "_law_due" = some (some (.ref f23))) (l23 : K.lookup f23 = some ⟨oc23, od23, .func (PySem.W.fnOf "_law_due" "_law_due" (defArgs s__law_due) (defBody s__law_due) (defScope s__law_due) .none kV23 dc23 pm23 an23 cd23 ct23), sl23⟩) (c23 : PySem.W.codeIn K cd23 "_law_due" = true) (k23 : PySem.W.keepIn K (.ref f23) = true)
    {f24 : Addr} {od24 an24 : Option Addr} {sl24 : Array (Option Value)} {oc24 kV24 dc24 pm24 cd24 ct24 : Value}
    (a24 : PySem.W.nsIn K mainGlobals "_law_told" = some (some (.ref f24))) (l24 : K.lookup f24 = some ⟨oc24, od24, .func (PySem.W.fnOf "_law_told" "_law_told" (defArgs s__law_told) (defBody s__law_told) (defScope s__law_told) .none kV24 dc24 pm24 an24 cd24 ct24), sl24⟩) (c24 : PySem.W.codeIn K cd24 "_law_told" = true) (k24 : PySem.W.keepIn K (.ref f24) = true)
    {f25 : Addr} {od25 an25 : Option Addr} {sl25 : Array (Option Value)} {oc25 kV25 dc25 pm25 cd25 ct25 : Value}
    (a25 : PySem.W.nsIn K mainGlobals "law" = some (some (.ref f25))) (l25 : K.lookup f25 = some ⟨oc25, od25, .func (PySem.W.fnOf "law" "law" (defArgs s_law) (defBody s_law) (defScope s_law) .none kV25 dc25 pm25 an25 cd25 ct25), sl25⟩) (c25 : PySem.W.codeIn K cd25 "law" = true) (k25 : PySem.W.keepIn K (.ref f25) = true)
    {tk0 : Tok} (m0 : PySem.W.nsIn K mainGlobals "LETTERS" = some (some (.str "abcdefghijklmnopqrstuvwxyz" tk0)))
    {tk1 : Tok} (m1 : PySem.W.nsIn K mainGlobals "MOST_NAME" = some (some (.int 8 tk1)))
    {tk2 : Tok} (m2 : PySem.W.nsIn K mainGlobals "MOST_HOLE" = some (some (.int 4 tk2)))
    {tk3 : Tok} (m3 : PySem.W.nsIn K mainGlobals "MOST_PARTS" = some (some (.int 3 tk3)))
    {tk4 : Tok} (m4 : PySem.W.nsIn K mainGlobals "MOST_SIZE" = some (some (.int 30 tk4)))
    {tk5 : Tok} (m5 : PySem.W.nsIn K mainGlobals "MOST_DEEP" = some (some (.int 5 tk5)))
    (z0 : PySem.W.nsIn K mainGlobals "ValueError" = some none)
    (z1 : PySem.W.nsIn K mainGlobals "abs" = some none)
    (z2 : PySem.W.nsIn K mainGlobals "all" = some none)
    (z3 : PySem.W.nsIn K mainGlobals "dict" = some none)
    (z4 : PySem.W.nsIn K mainGlobals "isinstance" = some none)
    (z5 : PySem.W.nsIn K mainGlobals "len" = some none)
    (z6 : PySem.W.nsIn K mainGlobals "list" = some none)
    (z7 : PySem.W.nsIn K mainGlobals "max" = some none)
    (z8 : PySem.W.nsIn K mainGlobals "range" = some none)
    (z9 : PySem.W.nsIn K mainGlobals "sorted" = some none)
    (z10 : PySem.W.nsIn K mainGlobals "str" = some none)
    (z11 : PySem.W.nsIn K mainGlobals "sum" = some none)
    (z12 : PySem.W.nsIn K mainGlobals "tuple" = some none)
    {e0 : Addr} (ea0 : PySem.W.nsIn K mainGlobals "BadPattern" = some (some (.ref e0))) (eb0 : PySem.W.subIn K (.ref e0) (.type "BaseException") = some true) (et0 : PySem.W.typeIn K (.ref e0) = some (.type "type")) (ei0 : PySem.W.isClsIn K e0 = true) (es0 : PySem.W.subIn K (.ref e0) (.ref e0) = some true)
    {e1 : Addr} (ea1 : PySem.W.nsIn K mainGlobals "BadTerm" = some (some (.ref e1))) (eb1 : PySem.W.subIn K (.ref e1) (.type "BaseException") = some true) (et1 : PySem.W.typeIn K (.ref e1) = some (.type "type")) (ei1 : PySem.W.isClsIn K e1 = true) (es1 : PySem.W.subIn K (.ref e1) (.ref e1) = some true)
    {e2 : Addr} (ea2 : PySem.W.nsIn K mainGlobals "MatchError" = some (some (.ref e2))) (eb2 : PySem.W.subIn K (.ref e2) (.type "BaseException") = some true) (et2 : PySem.W.typeIn K (.ref e2) = some (.type "type")) (ei2 : PySem.W.isClsIn K e2 = true) (es2 : PySem.W.subIn K (.ref e2) (.ref e2) = some true)
    {e3 : Addr} (ea3 : PySem.W.nsIn K mainGlobals "TooGreat" = some (some (.ref e3))) (eb3 : PySem.W.subIn K (.ref e3) (.type "BaseException") = some true) (et3 : PySem.W.typeIn K (.ref e3) = some (.type "type")) (ei3 : PySem.W.isClsIn K e3 = true) (es3 : PySem.W.subIn K (.ref e3) (.ref e3) = some true)
    {yD yfM ycd ycc ydA : Addr} {yda1 : Value} {yda2 : Option Addr} {yits : Array Value} {yn : Nat} {yda3 : Array (Option Value)} {yk : Value → Value → Option (Array Value) → Sem (List (Str × Value))} {yoc ykV ydo ypm yct ycl yxl : Value} {yod yan ycdd yxd : Option Addr} {yos yccs yxs : Array (Option Value)} {yqu : Str} {ypa : Arguments} {yp_a yp_b yp_c yp_d yp_e yp_f yp_g yp_h yp_i yp_j yp_k yp_l yp_m yp_n yp_o yp_p : Pos} {yar : Arg} {yvs : Array Value} {ytf : Tok} {ypl : Env → Sem Bool}
    (ra : PySem.W.nsIn K mainGlobals "MatchError" = some (some (.ref yD)))
    (rm : PySem.W.mroIn K yD (.ref yD) = some true)
    (rs : PySem.W.nsIn K mainGlobals "super" = some none)
    (ri : PySem.W.findIn K (.ref yD) "__init__" = some (some (.ref yfM)))
    (rl : K.lookup yfM = some ⟨yoc, yod, .func (PySem.W.fnX "__init__" yqu ypa (meBody (MePos.mk yp_a yp_b yp_c yp_d yp_e yp_f yp_g yp_h yp_i yp_j yp_k yp_l yp_m yp_n yp_o yp_p)) (initScope "why") [("__class__", ycc)] (.ref ydA) ykV ydo ypm yan (.ref ycd) yct), yos⟩)
    (re : PySem.W.codeIn K (.ref ycd) yqu = true)
    (rh : (ypa.posonlyargs ++ ypa.args).head? = some yar)
    (rz : yar.arg = "self")
    (rda : K.lookup ydA = some ⟨yda1, yda2, .seq yits yn, yda3⟩)
    (rbd : ∀ a b : Value, bindArgs (PySem.W.fnX "__init__" yqu ypa (meBody (MePos.mk yp_a yp_b yp_c yp_d yp_e yp_f yp_g yp_h yp_i yp_j yp_k yp_l yp_m yp_n yp_o yp_p)) (initScope "why") [("__class__", ycc)] (.ref ydA) ykV ydo ypm yan (.ref ycd) yct) ⟨[a, b], []⟩ = seqItems? (.ref ydA) >>= yk a b)
    (rbe : ∀ a b : Value, yk a b (some yits) = pure [(("self" : Str), a), ("why", b)])
    (rev : ∀ env : Env, eval (meSup (MePos.mk yp_a yp_b yp_c yp_d yp_e yp_f yp_g yp_h yp_i yp_j yp_k yp_l yp_m yp_n yp_o yp_p)) env = (do
      let ov ← attributeBase (.Call (.Name "super" yp_a) [] [] yp_b) "__init__" env (eval (.Call (.Name "super" yp_a) [] [] yp_b) env)
      standAt yp_c.atName
      let (f, first) ← holding [ov] (getMethod ov "__init__" (ypl env))
      callWith yp_g f first (backTo yp_g (starEach [meTxt (MePos.mk yp_a yp_b yp_c yp_d yp_e yp_f yp_g yp_h yp_i yp_j yp_k yp_l yp_m yp_n yp_o yp_p)] env)) []))
    (rlc : K.lookup ycd = some ⟨ycl, ycdd, .fields yvs, yccs⟩)
    (rv2 : yvs[2]? = some (.str "/claim/cut.py" ytf))
    (rlx : K.lookup ycc = some ⟨yxl, yxd, .cell (some (.ref yD)), yxs⟩)
    (rnl : (yp_n.endLine == yp_o.line) = true)
    (rty : PySem.W.typeIn K (.ref yfM) = some (.type "function"))
    {sC0 : Addr} {sc0 : Value} {sdd0 : Option Addr} {scd0 : ClassData} {ssl0 : Array (Option Value)} {stk0 : Tok}
    (mesa0 : PySem.W.nsIn K mainGlobals "BadPattern" = some (some (.ref sC0)))
    (mesx0 : PySem.W.excInitIn K sC0 [.type "ValueError", .type "Exception", .type "BaseException", .type "object"] "ValueError.__new__" = true)
    (mesd0 : PySem.W.hasDictIn K sC0 = true)
    (mesq0 : PySem.W.findIn K (.ref sC0) "__setattr__" = some (some (.builtin "object.__setattr__")))
    (mesb0 : PySem.W.subIn K (.ref sC0) (.type "BaseException") = some true)
    (mest0 : PySem.W.typeIn K (.ref sC0) = some (.type "type"))
    (mesk0 : PySem.W.keepIn K (.ref sC0) = true)
    (mesm0 : PySem.W.mroIn K sC0 (.ref yD) = some true)
    (mesp0 : PySem.W.ks_superIn K sC0 yD "__init__" = some (some (.builtin "ValueError.__init__")))
    (mesv0 : PySem.W.subIn K (.ref sC0) (.type "ValueError") = some true)
    (meso0 : PySem.W.nsIn K cStatics "thirdparty.any" = some none)
    (mesf0 : PySem.W.findIn K (.ref sC0) "word" = some none)
    (mesi0 : PySem.W.findIn K (.ref sC0) "__init__" = some (some (.ref yfM)))
    (meng0 : PySem.W.findIn K (.ref sC0) "__getattribute__" = some (some (.builtin "BaseException.__getattribute__")))
    (menh0 : PySem.W.findIn K (.ref sC0) "__getattr__" = some none)
    (menj0 : PySem.W.findIn K (.ref sC0) "__class__" = some (some (.builtin "object.__class__")))
    (menu0 : PySem.W.specialIn K (.builtin "object.__class__") "__get__" = some (some (.builtin "getset_descriptor.__get__")))
    (menw0 : PySem.W.takesIn K (.builtin "object.__class__") = some true)
    (meno0 : PySem.W.mroIn K sC0 (.type "object") = some true)
    (menr0 : PySem.W.readsIn K sC0 (.type "type") = true)
    (meny0 : PySem.W.findCls K (.ref sC0) (.type "type") "__name__" = some (.get (.builtin "getset_descriptor.__get__") (.builtin "type.__name__") (.ref sC0) (.type "type")))
    (menl0 : K.lookup sC0 = some ⟨sc0, sdd0, .cls scd0, ssl0⟩)
    (menz0 : ssl0[2]? = some (some (.str "BadPattern" stk0)))
    {sC1 : Addr} {sc1 : Value} {sdd1 : Option Addr} {scd1 : ClassData} {ssl1 : Array (Option Value)} {stk1 : Tok}
    (mesa1 : PySem.W.nsIn K mainGlobals "BadTerm" = some (some (.ref sC1)))
    (mesx1 : PySem.W.excInitIn K sC1 [.type "ValueError", .type "Exception", .type "BaseException", .type "object"] "ValueError.__new__" = true)
    (mesd1 : PySem.W.hasDictIn K sC1 = true)
    (mesq1 : PySem.W.findIn K (.ref sC1) "__setattr__" = some (some (.builtin "object.__setattr__")))
    (mesb1 : PySem.W.subIn K (.ref sC1) (.type "BaseException") = some true)
    (mest1 : PySem.W.typeIn K (.ref sC1) = some (.type "type"))
    (mesk1 : PySem.W.keepIn K (.ref sC1) = true)
    (mesm1 : PySem.W.mroIn K sC1 (.ref yD) = some true)
    (mesp1 : PySem.W.ks_superIn K sC1 yD "__init__" = some (some (.builtin "ValueError.__init__")))
    (mesv1 : PySem.W.subIn K (.ref sC1) (.type "ValueError") = some true)
    (meso1 : PySem.W.nsIn K cStatics "thirdparty.any" = some none)
    (mesf1 : PySem.W.findIn K (.ref sC1) "word" = some none)
    (mesi1 : PySem.W.findIn K (.ref sC1) "__init__" = some (some (.ref yfM)))
    (meng1 : PySem.W.findIn K (.ref sC1) "__getattribute__" = some (some (.builtin "BaseException.__getattribute__")))
    (menh1 : PySem.W.findIn K (.ref sC1) "__getattr__" = some none)
    (menj1 : PySem.W.findIn K (.ref sC1) "__class__" = some (some (.builtin "object.__class__")))
    (menu1 : PySem.W.specialIn K (.builtin "object.__class__") "__get__" = some (some (.builtin "getset_descriptor.__get__")))
    (menw1 : PySem.W.takesIn K (.builtin "object.__class__") = some true)
    (meno1 : PySem.W.mroIn K sC1 (.type "object") = some true)
    (menr1 : PySem.W.readsIn K sC1 (.type "type") = true)
    (meny1 : PySem.W.findCls K (.ref sC1) (.type "type") "__name__" = some (.get (.builtin "getset_descriptor.__get__") (.builtin "type.__name__") (.ref sC1) (.type "type")))
    (menl1 : K.lookup sC1 = some ⟨sc1, sdd1, .cls scd1, ssl1⟩)
    (menz1 : ssl1[2]? = some (some (.str "BadTerm" stk1)))
    {sC2 : Addr} {sc2 : Value} {sdd2 : Option Addr} {scd2 : ClassData} {ssl2 : Array (Option Value)} {stk2 : Tok}
    (mesa2 : PySem.W.nsIn K mainGlobals "TooGreat" = some (some (.ref sC2)))
    (mesx2 : PySem.W.excInitIn K sC2 [.type "ValueError", .type "Exception", .type "BaseException", .type "object"] "ValueError.__new__" = true)
    (mesd2 : PySem.W.hasDictIn K sC2 = true)
    (mesq2 : PySem.W.findIn K (.ref sC2) "__setattr__" = some (some (.builtin "object.__setattr__")))
    (mesb2 : PySem.W.subIn K (.ref sC2) (.type "BaseException") = some true)
    (mest2 : PySem.W.typeIn K (.ref sC2) = some (.type "type"))
    (mesk2 : PySem.W.keepIn K (.ref sC2) = true)
    (mesm2 : PySem.W.mroIn K sC2 (.ref yD) = some true)
    (mesp2 : PySem.W.ks_superIn K sC2 yD "__init__" = some (some (.builtin "ValueError.__init__")))
    (mesv2 : PySem.W.subIn K (.ref sC2) (.type "ValueError") = some true)
    (meso2 : PySem.W.nsIn K cStatics "thirdparty.any" = some none)
    (mesf2 : PySem.W.findIn K (.ref sC2) "word" = some none)
    (mesi2 : PySem.W.findIn K (.ref sC2) "__init__" = some (some (.ref yfM)))
    (meng2 : PySem.W.findIn K (.ref sC2) "__getattribute__" = some (some (.builtin "BaseException.__getattribute__")))
    (menh2 : PySem.W.findIn K (.ref sC2) "__getattr__" = some none)
    (menj2 : PySem.W.findIn K (.ref sC2) "__class__" = some (some (.builtin "object.__class__")))
    (menu2 : PySem.W.specialIn K (.builtin "object.__class__") "__get__" = some (some (.builtin "getset_descriptor.__get__")))
    (menw2 : PySem.W.takesIn K (.builtin "object.__class__") = some true)
    (meno2 : PySem.W.mroIn K sC2 (.type "object") = some true)
    (menr2 : PySem.W.readsIn K sC2 (.type "type") = true)
    (meny2 : PySem.W.findCls K (.ref sC2) (.type "type") "__name__" = some (.get (.builtin "getset_descriptor.__get__") (.builtin "type.__name__") (.ref sC2) (.type "type")))
    (menl2 : K.lookup sC2 = some ⟨sc2, sdd2, .cls scd2, ssl2⟩)
    (menz2 : ssl2[2]? = some (some (.str "TooGreat" stk2)))
    {sC3 : Addr} {sc3 : Value} {sdd3 : Option Addr} {scd3 : ClassData} {ssl3 : Array (Option Value)} {stk3 : Tok}
    (mesa3 : PySem.W.nsIn K mainGlobals "NoHole" = some (some (.ref sC3)))
    (mesx3 : PySem.W.excInitIn K sC3 [.type "ValueError", .type "Exception", .type "BaseException", .type "object"] "ValueError.__new__" = true)
    (mesd3 : PySem.W.hasDictIn K sC3 = true)
    (mesq3 : PySem.W.findIn K (.ref sC3) "__setattr__" = some (some (.builtin "object.__setattr__")))
    (mesb3 : PySem.W.subIn K (.ref sC3) (.type "BaseException") = some true)
    (mest3 : PySem.W.typeIn K (.ref sC3) = some (.type "type"))
    (mesk3 : PySem.W.keepIn K (.ref sC3) = true)
    (mesm3 : PySem.W.mroIn K sC3 (.ref yD) = some true)
    (mesp3 : PySem.W.ks_superIn K sC3 yD "__init__" = some (some (.builtin "ValueError.__init__")))
    (mesv3 : PySem.W.subIn K (.ref sC3) (.type "ValueError") = some true)
    (meso3 : PySem.W.nsIn K cStatics "thirdparty.any" = some none)
    (mesf3 : PySem.W.findIn K (.ref sC3) "word" = some none)
    (meng3 : PySem.W.findIn K (.ref sC3) "__getattribute__" = some (some (.builtin "BaseException.__getattribute__")))
    (menh3 : PySem.W.findIn K (.ref sC3) "__getattr__" = some none)
    (menj3 : PySem.W.findIn K (.ref sC3) "__class__" = some (some (.builtin "object.__class__")))
    (menu3 : PySem.W.specialIn K (.builtin "object.__class__") "__get__" = some (some (.builtin "getset_descriptor.__get__")))
    (menw3 : PySem.W.takesIn K (.builtin "object.__class__") = some true)
    (meno3 : PySem.W.mroIn K sC3 (.type "object") = some true)
    (menr3 : PySem.W.readsIn K sC3 (.type "type") = true)
    (meny3 : PySem.W.findCls K (.ref sC3) (.type "type") "__name__" = some (.get (.builtin "getset_descriptor.__get__") (.builtin "type.__name__") (.ref sC3) (.type "type")))
    (menl3 : K.lookup sC3 = some ⟨sc3, sdd3, .cls scd3, ssl3⟩)
    (menz3 : ssl3[2]? = some (some (.str "NoHole" stk3)))
    {nfI3 ncd3 ncc3 : Addr} {noc3 ndV3 nkV3 ndo3 npm3 nct3 ncl3 nxl3 : Value} {nod3 nan3 ncdd3 nxd3 : Option Addr} {nos3 nccs3 nxs3 : Array (Option Value)} {nqu3 : Str} {npa3 : Arguments} {ip_a3 ip_b3 ip_c3 ip_d3 ip_e3 ip_f3 ip_g3 ip_h3 ip_i3 ip_j3 ip_k3 ip_l3 ip_m3 : Pos} {ip_n3 : Nat} {nar3 : Arg} {nvs3 : Array Value} {ntf3 : Tok} {npl3 : Env → Sem Bool}
    (miui3 : PySem.W.findIn K (.ref sC3) "__init__" = some (some (.ref nfI3)))
    (miul3 : K.lookup nfI3 = some ⟨noc3, nod3, .func (PySem.W.fnX "__init__" nqu3 npa3 (initBody "hole" "nothing is given for the hole " (InitPos.mk ip_a3 ip_b3 ip_c3 ip_d3 ip_e3 ip_f3 ip_g3 ip_h3 ip_i3 ip_j3 ip_k3 ip_l3 ip_m3 ip_n3)) (initScope "hole") [("__class__", ncc3)] ndV3 nkV3 ndo3 npm3 nan3 (.ref ncd3) nct3), nos3⟩)
    (miue3 : PySem.W.codeIn K (.ref ncd3) nqu3 = true)
    (miuh3 : (npa3.posonlyargs ++ npa3.args).head? = some nar3)
    (miuz3 : nar3.arg = "self")
    (miubd3 : ∀ a b : Value, bindArgs (PySem.W.fnX "__init__" nqu3 npa3 (initBody "hole" "nothing is given for the hole " (InitPos.mk ip_a3 ip_b3 ip_c3 ip_d3 ip_e3 ip_f3 ip_g3 ip_h3 ip_i3 ip_j3 ip_k3 ip_l3 ip_m3 ip_n3)) (initScope "hole") [("__class__", ncc3)] ndV3 nkV3 ndo3 npm3 nan3 (.ref ncd3) nct3) ⟨[a, b], []⟩ = pure [(("self" : Str), a), ("hole", b)])
    (miuev3 : ∀ env : Env, eval (.Call (.Attribute (.Call (.Name "super" ip_a3) [] [] ip_b3) "__init__" ip_c3) [.JoinedStr [.Constant (.str "nothing is given for the hole ") ip_n3 ip_d3, .FormattedValue (.Name "hole" ip_e3) (-1) none ip_f3] ip_g3] [] ip_h3) env = (do
      let ov ← attributeBase (.Call (.Name "super" ip_a3) [] [] ip_b3) "__init__" env (eval (.Call (.Name "super" ip_a3) [] [] ip_b3) env)
      standAt ip_c3.atName
      let (f, first) ← holding [ov] (getMethod ov "__init__" (npl3 env))
      callWith ip_h3 f first (backTo ip_h3 (starEach [.JoinedStr [.Constant (.str "nothing is given for the hole ") ip_n3 ip_d3, .FormattedValue (.Name "hole" ip_e3) (-1) none ip_f3] ip_g3] env)) []))
    (miulc3 : K.lookup ncd3 = some ⟨ncl3, ncdd3, .fields nvs3, nccs3⟩)
    (miuv23 : nvs3[2]? = some (.str "/claim/cut.py" ntf3))
    (miulx3 : K.lookup ncc3 = some ⟨nxl3, nxd3, .cell (some (.ref sC3)), nxs3⟩)
    (miuty3 : PySem.W.typeIn K (.ref nfI3) = some (.type "function"))
    (miup3 : PySem.W.ks_superIn K sC3 sC3 "__init__" = some (some (.ref yfM)))
    (miuf3 : PySem.W.fnIn K yfM = true)
    (mium3 : PySem.W.mroIn K sC3 (.ref sC3) = some true)
    (miuo3 : PySem.W.findIn K (.ref sC3) "hole" = some none)
    (xg0 : PySem.W.findIn K (.ref sC1) "__getattribute__" = some (some (.builtin "BaseException.__getattribute__")))
    (xk0 : PySem.W.findIn K (.ref sC1) "__getattr__" = some none)
    (xs0 : PySem.W.subIn K (.ref sC1) (.type "BaseException") = some true)
    (xd0 : PySem.W.hasDictIn K sC1 = true)
    (xa0 : PySem.W.findIn K (.ref sC1) "__class__" = some (some (.builtin "object.__class__")))
    (xn0 : PySem.W.specialIn K (.builtin "object.__class__") "__get__" = some (some (.builtin "getset_descriptor.__get__")))
    (xt0 : PySem.W.takesIn K (.builtin "object.__class__") = some true)
    (xm0 : PySem.W.mroIn K sC1 (.type "object") = some true)
    (xg1 : PySem.W.findIn K (.ref sC0) "__getattribute__" = some (some (.builtin "BaseException.__getattribute__")))
    (xk1 : PySem.W.findIn K (.ref sC0) "__getattr__" = some none)
    (xs1 : PySem.W.subIn K (.ref sC0) (.type "BaseException") = some true)
    (xd1 : PySem.W.hasDictIn K sC0 = true)
    (xa1 : PySem.W.findIn K (.ref sC0) "__class__" = some (some (.builtin "object.__class__")))
    (xn1 : PySem.W.specialIn K (.builtin "object.__class__") "__get__" = some (some (.builtin "getset_descriptor.__get__")))
    (xt1 : PySem.W.takesIn K (.builtin "object.__class__") = some true)
    (xm1 : PySem.W.mroIn K sC0 (.type "object") = some true)
    (xg2 : PySem.W.findIn K (.ref sC2) "__getattribute__" = some (some (.builtin "BaseException.__getattribute__")))
    (xk2 : PySem.W.findIn K (.ref sC2) "__getattr__" = some none)
    (xs2 : PySem.W.subIn K (.ref sC2) (.type "BaseException") = some true)
    (xd2 : PySem.W.hasDictIn K sC2 = true)
    (xa2 : PySem.W.findIn K (.ref sC2) "__class__" = some (some (.builtin "object.__class__")))
    (xn2 : PySem.W.specialIn K (.builtin "object.__class__") "__get__" = some (some (.builtin "getset_descriptor.__get__")))
    (xt2 : PySem.W.takesIn K (.builtin "object.__class__") = some true)
    (xm2 : PySem.W.mroIn K sC2 (.type "object") = some true)
    (xg3 : PySem.W.findIn K (.ref sC3) "__getattribute__" = some (some (.builtin "BaseException.__getattribute__")))
    (xk3 : PySem.W.findIn K (.ref sC3) "__getattr__" = some none)
    (xs3 : PySem.W.subIn K (.ref sC3) (.type "BaseException") = some true)
    (xd3 : PySem.W.hasDictIn K sC3 = true)
    (xa3 : PySem.W.findIn K (.ref sC3) "__class__" = some (some (.builtin "object.__class__")))
    (xn3 : PySem.W.specialIn K (.builtin "object.__class__") "__get__" = some (some (.builtin "getset_descriptor.__get__")))
    (xt3 : PySem.W.takesIn K (.builtin "object.__class__") = some true)
    (xm3 : PySem.W.mroIn K sC3 (.type "object") = some true)
    (kt0 : PySem.W.kitOne K (.ref sC0) (.ref sC0) = some true)
    (kt1 : PySem.W.kitOne K (.ref sC0) (.ref sC3) = some false)
    (kt2 : PySem.W.kitOne K (.ref sC0) (.ref sC1) = some false)
    (kt3 : PySem.W.kitOne K (.ref sC0) (.ref sC2) = some false)
    (kt4 : PySem.W.kitOne K (.ref sC3) (.ref sC0) = some false)
    (kt5 : PySem.W.kitOne K (.ref sC3) (.ref sC3) = some true)
    (kt6 : PySem.W.kitOne K (.ref sC3) (.ref sC1) = some false)
    (kt7 : PySem.W.kitOne K (.ref sC3) (.ref sC2) = some false)
    (kt8 : PySem.W.kitOne K (.ref sC1) (.ref sC0) = some false)
    (kt9 : PySem.W.kitOne K (.ref sC1) (.ref sC3) = some false)
    (kt10 : PySem.W.kitOne K (.ref sC1) (.ref sC1) = some true)
    (kt11 : PySem.W.kitOne K (.ref sC1) (.ref sC2) = some false)
    (kt12 : PySem.W.kitOne K (.ref sC2) (.ref sC0) = some false)
    (kt13 : PySem.W.kitOne K (.ref sC2) (.ref sC3) = some false)
    (kt14 : PySem.W.kitOne K (.ref sC2) (.ref sC1) = some false)
    (kt15 : PySem.W.kitOne K (.ref sC2) (.ref sC2) = some true)
    (kt16 : PySem.W.kitOne K (.ref sC0) (.type "ValueError") = some true)
    (kt17 : PySem.W.kitOne K (.ref sC0) (.ref yD) = some true)
    (kt18 : PySem.W.kitOne K (.ref sC3) (.type "ValueError") = some true)
    (kt19 : PySem.W.kitOne K (.ref sC3) (.ref yD) = some true)
    (kt20 : PySem.W.kitOne K (.ref sC1) (.type "ValueError") = some true)
    (kt21 : PySem.W.kitOne K (.ref sC1) (.ref yD) = some true)
    (kt22 : PySem.W.kitOne K (.ref sC2) (.type "ValueError") = some true)
    (kt23 : PySem.W.kitOne K (.ref sC2) (.ref yD) = some true)
    : Tx K mg where
  x_BadTerm := by rw [clsA_of (PySem.W.mg_of X G mesa1)]; exact ⟨xg0, xk0, xs0, xd0, xa0, xn0, xt0, xm0⟩
  x_BadPattern := by rw [clsA_of (PySem.W.mg_of X G mesa0)]; exact ⟨xg1, xk1, xs1, xd1, xa1, xn1, xt1, xm1⟩
  x_TooGreat := by rw [clsA_of (PySem.W.mg_of X G mesa2)]; exact ⟨xg2, xk2, xs2, xd2, xa2, xn2, xt2, xm2⟩
  x_NoHole := by rw [clsA_of (PySem.W.mg_of X G mesa3)]; exact ⟨xg3, xk3, xs3, xd3, xa3, xn3, xt3, xm3⟩
  k_BadPattern_BadPattern := by rw [clsA_of (PySem.W.mg_of X G mesa0)]; exact kt0
  k_BadPattern_NoHole := by rw [clsA_of (PySem.W.mg_of X G mesa0), clsA_of (PySem.W.mg_of X G mesa3)]; exact kt1
  k_BadPattern_BadTerm := by rw [clsA_of (PySem.W.mg_of X G mesa0), clsA_of (PySem.W.mg_of X G mesa1)]; exact kt2
  k_BadPattern_TooGreat := by rw [clsA_of (PySem.W.mg_of X G mesa0), clsA_of (PySem.W.mg_of X G mesa2)]; exact kt3
  k_NoHole_BadPattern := by rw [clsA_of (PySem.W.mg_of X G mesa3), clsA_of (PySem.W.mg_of X G mesa0)]; exact kt4
  k_NoHole_NoHole := by rw [clsA_of (PySem.W.mg_of X G mesa3)]; exact kt5
  k_NoHole_BadTerm := by rw [clsA_of (PySem.W.mg_of X G mesa3), clsA_of (PySem.W.mg_of X G mesa1)]; exact kt6
  k_NoHole_TooGreat := by rw [clsA_of (PySem.W.mg_of X G mesa3), clsA_of (PySem.W.mg_of X G mesa2)]; exact kt7
  k_BadTerm_BadPattern := by rw [clsA_of (PySem.W.mg_of X G mesa1), clsA_of (PySem.W.mg_of X G mesa0)]; exact kt8
  k_BadTerm_NoHole := by rw [clsA_of (PySem.W.mg_of X G mesa1), clsA_of (PySem.W.mg_of X G mesa3)]; exact kt9
  k_BadTerm_BadTerm := by rw [clsA_of (PySem.W.mg_of X G mesa1)]; exact kt10
  k_BadTerm_TooGreat := by rw [clsA_of (PySem.W.mg_of X G mesa1), clsA_of (PySem.W.mg_of X G mesa2)]; exact kt11
  k_TooGreat_BadPattern := by rw [clsA_of (PySem.W.mg_of X G mesa2), clsA_of (PySem.W.mg_of X G mesa0)]; exact kt12
  k_TooGreat_NoHole := by rw [clsA_of (PySem.W.mg_of X G mesa2), clsA_of (PySem.W.mg_of X G mesa3)]; exact kt13
  k_TooGreat_BadTerm := by rw [clsA_of (PySem.W.mg_of X G mesa2), clsA_of (PySem.W.mg_of X G mesa1)]; exact kt14
  k_TooGreat_TooGreat := by rw [clsA_of (PySem.W.mg_of X G mesa2)]; exact kt15
  k_BadPattern_ValueError := by rw [clsA_of (PySem.W.mg_of X G mesa0)]; exact kt16
  k_BadPattern_MatchError := by rw [clsA_of (PySem.W.mg_of X G mesa0), clsA_of (PySem.W.mg_of X G ra)]; exact kt17
  k_NoHole_ValueError := by rw [clsA_of (PySem.W.mg_of X G mesa3)]; exact kt18
  k_NoHole_MatchError := by rw [clsA_of (PySem.W.mg_of X G mesa3), clsA_of (PySem.W.mg_of X G ra)]; exact kt19
  k_BadTerm_ValueError := by rw [clsA_of (PySem.W.mg_of X G mesa1)]; exact kt20
  k_BadTerm_MatchError := by rw [clsA_of (PySem.W.mg_of X G mesa1), clsA_of (PySem.W.mg_of X G ra)]; exact kt21
  k_TooGreat_ValueError := by rw [clsA_of (PySem.W.mg_of X G mesa2)]; exact kt22
  k_TooGreat_MatchError := by rw [clsA_of (PySem.W.mg_of X G mesa2), clsA_of (PySem.W.mg_of X G ra)]; exact kt23
  me := by rw [clsA_of (PySem.W.mg_of X G ra)]; exact ⟨⟨yfM, yoc, ycl, yxl, yod, ycdd, yxd, yos, yccs, yxs, yqu, ypa, (MePos.mk yp_a yp_b yp_c yp_d yp_e yp_f yp_g yp_h yp_i yp_j yp_k yp_l yp_m yp_n yp_o yp_p), .ref ydA, ykV, ydo, ypm, yct, yan, ycd, ycc, yvs, ytf, yar, ypl, rl, re, rh, rz, fun s a b Xs => BindsTo.of_defaults rfl (Xs _ _ rda) rfl (rbd a b) (rbe a b), rev, rlc, rv2, rlx, rnl, ri, rty⟩, PySem.W.mg_none_of X G rs, rm⟩
  gs_BadPattern := by rw [clsA_of (PySem.W.mg_of X G mesa0)]; exact PySem.W.mg_of X G mesa0
  s_BadPattern := by rw [clsA_of (PySem.W.mg_of X G mesa0), clsA_of (PySem.W.mg_of X G ra)]; exact ⟨⟨oex_by mesx0 mesd0 mesq0 mesb0 mest0 mesk0, mesm0, mesp0, mesv0, meso0, mesx0, mesf0, ⟨"BadPattern", meng0, menh0, mesb0, menj0, menu0, menw0, meno0, menr0, meny0, ⟨_, _, _, _, _, menl0, menz0⟩, by decide +kernel⟩⟩, mesi0.trans ri.symm⟩
  gs_BadTerm := by rw [clsA_of (PySem.W.mg_of X G mesa1)]; exact PySem.W.mg_of X G mesa1
  s_BadTerm := by rw [clsA_of (PySem.W.mg_of X G mesa1), clsA_of (PySem.W.mg_of X G ra)]; exact ⟨⟨oex_by mesx1 mesd1 mesq1 mesb1 mest1 mesk1, mesm1, mesp1, mesv1, meso1, mesx1, mesf1, ⟨"BadTerm", meng1, menh1, mesb1, menj1, menu1, menw1, meno1, menr1, meny1, ⟨_, _, _, _, _, menl1, menz1⟩, by decide +kernel⟩⟩, mesi1.trans ri.symm⟩
  gs_TooGreat := by rw [clsA_of (PySem.W.mg_of X G mesa2)]; exact PySem.W.mg_of X G mesa2
  s_TooGreat := by rw [clsA_of (PySem.W.mg_of X G mesa2), clsA_of (PySem.W.mg_of X G ra)]; exact ⟨⟨oex_by mesx2 mesd2 mesq2 mesb2 mest2 mesk2, mesm2, mesp2, mesv2, meso2, mesx2, mesf2, ⟨"TooGreat", meng2, menh2, mesb2, menj2, menu2, menw2, meno2, menr2, meny2, ⟨_, _, _, _, _, menl2, menz2⟩, by decide +kernel⟩⟩, mesi2.trans ri.symm⟩
  gi_NoHole := by rw [clsA_of (PySem.W.mg_of X G mesa3)]; exact PySem.W.mg_of X G mesa3
  i_NoHole := by rw [clsA_of (PySem.W.mg_of X G mesa3), clsA_of (PySem.W.mg_of X G ra)]; exact ⟨⟨oex_by mesx3 mesd3 mesq3 mesb3 mest3 mesk3, mesm3, mesp3, mesv3, meso3, mesx3, mesf3, ⟨"NoHole", meng3, menh3, mesb3, menj3, menu3, menw3, meno3, menr3, meny3, ⟨_, _, _, _, _, menl3, menz3⟩, by decide +kernel⟩⟩, ⟨nfI3, yfM, noc3, ncl3, nxl3, nod3, ncdd3, nxd3, nos3, nccs3, nxs3, nqu3, npa3, (InitPos.mk ip_a3 ip_b3 ip_c3 ip_d3 ip_e3 ip_f3 ip_g3 ip_h3 ip_i3 ip_j3 ip_k3 ip_l3 ip_m3 ip_n3), ndV3, nkV3, ndo3, npm3, nct3, nan3, ncd3, ncc3, nvs3, ntf3, nar3, npl3, miul3, miue3, miuh3, miuz3, miubd3, miuev3, miulc3, miuv23, miulx3, miui3, miuty3, miup3, ri, miuf3⟩, mium3, miuo3⟩
  e_BadPattern := ExG.at (PySem.W.mg_of X G ea0) eb0 et0 ei0 es0
  e_BadTerm := ExG.at (PySem.W.mg_of X G ea1) eb1 et1 ei1 es1
  e_MatchError := ExG.at (PySem.W.mg_of X G ea2) eb2 et2 ei2 es2
  e_TooGreat := ExG.at (PySem.W.mg_of X G ea3) eb3 et3 ei3 es3
  d_is_word := ⟨f0, _, fun_mk (st := s_is_word) l0 c0 k0, PySem.W.mg_of X G a0, (fun_mk (st := s_is_word) l0 c0 k0).binds (ps := ["thing", "most"]) fun _ _ _ _ _ _ us hl => match us, hl with | [_, _], _ => rfl⟩
  d_is_name := ⟨f1, _, fun_mk (st := s_is_name) l1 c1 k1, PySem.W.mg_of X G a1, (fun_mk (st := s_is_name) l1 c1 k1).binds (ps := ["thing"]) fun _ _ _ _ _ _ us hl => match us, hl with | [_], _ => rfl⟩
  d_is_hole := ⟨f2, _, fun_mk (st := s_is_hole) l2 c2 k2, PySem.W.mg_of X G a2, (fun_mk (st := s_is_hole) l2 c2 k2).binds (ps := ["thing"]) fun _ _ _ _ _ _ us hl => match us, hl with | [_], _ => rfl⟩
  d_size_within := ⟨f3, _, fun_mk (st := s_size_within) l3 c3 k3, PySem.W.mg_of X G a3, (fun_mk (st := s_size_within) l3 c3 k3).binds (ps := ["thing", "holes", "deep"]) fun _ _ _ _ _ _ us hl => match us, hl with | [_, _, _], _ => rfl⟩
  d_is_term := ⟨f4, _, fun_mk (st := s_is_term) l4 c4 k4, PySem.W.mg_of X G a4, (fun_mk (st := s_is_term) l4 c4 k4).binds (ps := ["thing"]) fun _ _ _ _ _ _ us hl => match us, hl with | [_], _ => rfl⟩
  d_is_pattern := ⟨f5, _, fun_mk (st := s_is_pattern) l5 c5 k5, PySem.W.mg_of X G a5, (fun_mk (st := s_is_pattern) l5 c5 k5).binds (ps := ["thing"]) fun _ _ _ _ _ _ us hl => match us, hl with | [_], _ => rfl⟩
  d_refuse_no_term := ⟨f6, _, fun_mk (st := s_refuse_no_term) l6 c6 k6, PySem.W.mg_of X G a6, (fun_mk (st := s_refuse_no_term) l6 c6 k6).binds (ps := ["thing"]) fun _ _ _ _ _ _ us hl => match us, hl with | [_], _ => rfl⟩
  d_refuse_no_pattern := ⟨f7, _, fun_mk (st := s_refuse_no_pattern) l7 c7 k7, PySem.W.mg_of X G a7, (fun_mk (st := s_refuse_no_pattern) l7 c7 k7).binds (ps := ["thing"]) fun _ _ _ _ _ _ us hl => match us, hl with | [_], _ => rfl⟩
  d_all_within := ⟨f8, _, fun_mk (st := s_all_within) l8 c8 k8, PySem.W.mg_of X G a8, (fun_mk (st := s_all_within) l8 c8 k8).binds (ps := ["pattern"]) fun _ _ _ _ _ _ us hl => match us, hl with | [_], _ => rfl⟩
  d_holes_of := ⟨f9, _, fun_mk (st := s_holes_of) l9 c9 k9, PySem.W.mg_of X G a9, (fun_mk (st := s_holes_of) l9 c9 k9).binds (ps := ["pattern"]) fun _ _ _ _ _ _ us hl => match us, hl with | [_], _ => rfl⟩
  d_exchanged := ⟨f10, _, fun_mk (st := s_exchanged) l10 c10 k10, PySem.W.mg_of X G a10, (fun_mk (st := s_exchanged) l10 c10 k10).binds (ps := ["pattern", "fill"]) fun _ _ _ _ _ _ us hl => match us, hl with | [_, _], _ => rfl⟩
  d_refuse_no_fill := ⟨f11, _, fun_mk (st := s_refuse_no_fill) l11 c11 k11, PySem.W.mg_of X G a11, (fun_mk (st := s_refuse_no_fill) l11 c11 k11).binds (ps := ["holes", "fill"]) fun _ _ _ _ _ _ us hl => match us, hl with | [_, _], _ => rfl⟩
  d_filled := ⟨f12, _, fun_mk (st := s_filled) l12 c12 k12, PySem.W.mg_of X G a12, (fun_mk (st := s_filled) l12 c12 k12).binds (ps := ["pattern", "fill"]) fun _ _ _ _ _ _ us hl => match us, hl with | [_, _], _ => rfl⟩
  d__law_begin := ⟨f13, _, fun_mk (st := s__law_begin) l13 c13 k13, PySem.W.mg_of X G a13, (fun_mk (st := s__law_begin) l13 c13 k13).binds (ps := ["_law_script"]) fun _ _ _ _ _ _ us hl => match us, hl with | [_], _ => rfl⟩
  d__law_take := ⟨f14, _, fun_mk (st := s__law_take) l14 c14 k14, PySem.W.mg_of X G a14, (fun_mk (st := s__law_take) l14 c14 k14).binds (ps := ["_law_draw", "_law_size_here"]) fun _ _ _ _ _ _ us hl => match us, hl with | [_, _], _ => rfl⟩
  d__law_pick := ⟨f15, _, fun_mk (st := s__law_pick) l15 c15 k15, PySem.W.mg_of X G a15, (fun_mk (st := s__law_pick) l15 c15 k15).binds (ps := ["_law_draw", "_law_some"]) fun _ _ _ _ _ _ us hl => match us, hl with | [_, _], _ => rfl⟩
  d__law_word := ⟨f16, _, fun_mk (st := s__law_word) l16 c16 k16, PySem.W.mg_of X G a16, (fun_mk (st := s__law_word) l16 c16 k16).binds (ps := ["_law_draw"]) fun _ _ _ _ _ _ us hl => match us, hl with | [_], _ => rfl⟩
  d__law_hole := ⟨f17, _, fun_mk (st := s__law_hole) l17 c17 k17, PySem.W.mg_of X G a17, (fun_mk (st := s__law_hole) l17 c17 k17).binds (ps := ["_law_draw"]) fun _ _ _ _ _ _ us hl => match us, hl with | [_], _ => rfl⟩
  d__law_pattern := ⟨f18, _, fun_mk (st := s__law_pattern) l18 c18 k18, PySem.W.mg_of X G a18, (fun_mk (st := s__law_pattern) l18 c18 k18).binds (ps := ["_law_draw", "_law_left", "_law_holed"]) fun _ _ _ _ _ _ us hl => match us, hl with | [_, _, _], _ => rfl⟩
  d__law_size := ⟨f19, _, fun_mk (st := s__law_size) l19 c19 k19, PySem.W.mg_of X G a19, (fun_mk (st := s__law_size) l19 c19 k19).binds (ps := ["_law_one"]) fun _ _ _ _ _ _ us hl => match us, hl with | [_], _ => rfl⟩
  d__law_depth := ⟨f20, _, fun_mk (st := s__law_depth) l20 c20 k20, PySem.W.mg_of X G a20, (fun_mk (st := s__law_depth) l20 c20 k20).binds (ps := ["_law_one"]) fun _ _ _ _ _ _ us hl => match us, hl with | [_], _ => rfl⟩
  d__law_holes := ⟨f21, _, fun_mk (st := s__law_holes) l21 c21 k21, PySem.W.mg_of X G a21, (fun_mk (st := s__law_holes) l21 c21 k21).binds (ps := ["_law_one"]) fun _ _ _ _ _ _ us hl => match us, hl with | [_], _ => rfl⟩
  d__law_put_in := ⟨f22, _, fun_mk (st := s__law_put_in) l22 c22 k22, PySem.W.mg_of X G a22, (fun_mk (st := s__law_put_in) l22 c22 k22).binds (ps := ["_law_one", "_law_given"]) fun _ _ _ _ _ _ us hl => match us, hl with | [_, _], _ => rfl⟩
  d__law_due := ⟨f23, _, fun_mk (st := s__law_due) l23 c23 k23, PySem.W.mg_of X G a23, (fun_mk (st := s__law_due) l23 c23 k23).binds (ps := ["_law_one", "_law_given"]) fun _ _ _ _ _ _ us hl => match us, hl with | [_, _], _ => rfl⟩
  d__law_told := ⟨f24, _, fun_mk (st := s__law_told) l24 c24 k24, PySem.W.mg_of X G a24, (fun_mk (st := s__law_told) l24 c24 k24).binds (ps := ["_law_one", "_law_given", "_law_by_name"]) fun _ _ _ _ _ _ us hl => match us, hl with | [_, _, _], _ => rfl⟩
  d_law := ⟨f25, _, fun_mk (st := s_law) l25 c25 k25, PySem.W.mg_of X G a25, (fun_mk (st := s_law) l25 c25 k25).binds (ps := ["_law_script"]) fun _ _ _ _ _ _ us hl => match us, hl with | [_], _ => rfl⟩
  m_LETTERS := ⟨_, PySem.W.mg_of X G m0⟩
  m_MOST_NAME := ⟨_, PySem.W.mg_of X G m1⟩
  m_MOST_HOLE := ⟨_, PySem.W.mg_of X G m2⟩
  m_MOST_PARTS := ⟨_, PySem.W.mg_of X G m3⟩
  m_MOST_SIZE := ⟨_, PySem.W.mg_of X G m4⟩
  m_MOST_DEEP := ⟨_, PySem.W.mg_of X G m5⟩
  z_ValueError := PySem.W.mg_none_of X G z0
  z_abs := PySem.W.mg_none_of X G z1
  z_all := PySem.W.mg_none_of X G z2
  z_dict := PySem.W.mg_none_of X G z3
  z_isinstance := PySem.W.mg_none_of X G z4
  z_len := PySem.W.mg_none_of X G z5
  z_list := PySem.W.mg_none_of X G z6
  z_max := PySem.W.mg_none_of X G z7
  z_range := PySem.W.mg_none_of X G z8
  z_sorted := PySem.W.mg_none_of X G z9
  z_str := PySem.W.mg_none_of X G z10
  z_sum := PySem.W.mg_none_of X G z11
  z_tuple := PySem.W.mg_none_of X G z12
end Kt
namespace Kt
open PySem PySem.Spec PyProof.Rows L2
theorem DU.mut {d c L : Addr} {H H' : Hp} (u : DU d c H H') (h : H L = none) (n1 : L ≠ d) (n2 : L ≠ c) (o : HO) : DU d c H (upd H' L o) := by
  refine ⟨fun x ox nx mx q => by rw [upd_ne (ne_of_none q h)]; exact u.old x ox nx mx q, ?_⟩
  obtain ⟨cells, at', mix, e1, e2, e3⟩ := u.dr
  exact ⟨cells, at', mix, by rw [upd_ne n1.symm]; exact e1, by rw [upd_ne n2.symm]; exact e2, e3⟩
theorem Wk.dK_upd {H : Hp} {D : Addr} {xs : List (Key × V)} (h : H D = some (.dK xs)) (ys : List (Key × V)) : Wk H (upd H D (.dK ys)) :=
  ⟨fun a zs q => by rw [upd_ne (ne_of q h fun e => nomatch e)]; exact q, fun a zs q => ⟨zs, by rw [upd_ne (ne_of q h fun e => nomatch e)]; exact q⟩, fun a zs q => by
    by_cases e : a = D
    · subst e
      exact ⟨_, upd_same⟩
    · exact ⟨zs, by rw [upd_ne e]; exact q⟩⟩
theorem DU.free {d c L : Addr} {H H' : Hp} (u : DU d c H H') (h : H' L = none) : H L = none := by
  obtain ⟨n1, n2⟩ := u.dr.new h
  cases e : H L with
  | none => rfl
  | some o =>
    rw [u.old L o n1 n2 e] at h
    cases h
/-- the dict that a turn fills -/
structure GS (d c pg : Addr) (H0 H : Hp) (n : Nat) : Prop where
  u : DU d c H0 H
  fr : H0 pg = none
  nd : pg ≠ d
  nc : pg ≠ c
  ex : ∃ kvs, H pg = some (.dK kvs) ∧ GD H kvs n
theorem GS.step {d c pg : Addr} {H0 H H' : Hp} {n : Nat} (g : GS d c pg H0 H n) (u : DU d c H H') : GS d c pg H0 H' n := by
  obtain ⟨kvs, hk, hg⟩ := g.ex
  exact ⟨g.u.trans u, g.fr, g.nd, g.nc, kvs, u.old _ _ g.nd g.nc hk, hg.wk (u.wk g.u.dr)⟩
theorem GS.same {d c pg : Addr} {H0 H H' : Hp} {n : Nat} (g : GS d c pg H0 H n) (s : Same H H') : GS d c pg H0 H' n := g.step (DU.same g.u.dr s)
theorem GS.put {d c pg : Addr} {H0 H : Hp} {n m : Nat} {kvs : List (Key × V)} {z : Str} {v : V} {t : Th} (g : GS d c pg H0 H n) (hk : H pg = some (.dK kvs)) (hg : GD H kvs n) (r : Rep H v t) (hm : n + 1 ≤ m) : GS d c pg H0 (upd H pg (.dK (putK kvs (Sum.inr z) v))) m := by
  have w := Wk.dK_upd hk (putK kvs (Sum.inr z) v)
  have := (hg.put (z := z) r).wk w
  exact ⟨g.u.mut g.fr g.nd g.nc _, g.fr, g.nd, g.nc, _, upd_same, this.nd, Nat.le_trans this.few hm, this.all⟩
theorem GS.set {d c pg : Addr} {H0 H : Hp} {n m : Nat} {kvs kvs' : List (Key × V)} (g : GS d c pg H0 H n) (hk : H pg = some (.dK kvs)) (hg : GD H kvs' m) : GS d c pg H0 (upd H pg (.dK kvs')) m :=
  ⟨g.u.mut g.fr g.nd g.nc _, g.fr, g.nd, g.nc, _, upd_same, hg.wk (Wk.dK_upd hk kvs')⟩
theorem GS.more {d c pg : Addr} {H0 H : Hp} {n m : Nat} (g : GS d c pg H0 H n) (hm : n ≤ m) : GS d c pg H0 H m := by
  obtain ⟨kvs, hk, hg⟩ := g.ex
  exact ⟨g.u, g.fr, g.nd, g.nc, kvs, hk, hg.nd, Nat.le_trans hg.few hm, hg.all⟩
/-- a pattern and a dict, as a tuple -/
def PairAt (H : Hp) (x : V) : Prop := ∃ T v dd t kvs, x = .ref T ∧ H T = some (.tup [v, .ref dd]) ∧ Rep H v t ∧ H dd = some (.dK kvs) ∧ GD H kvs 10
theorem PairAt.same {H H' : Hp} {x : V} (h : PairAt H x) (s : Same H H') : PairAt H' x := by
  obtain ⟨T, v, dd, t, kvs, rfl, h1, r, h2, g⟩ := h
  exact ⟨T, v, dd, t, kvs, rfl, s _ _ h1, r.wk (Wk.same s), s _ _ h2, g.wk (Wk.same s)⟩
theorem PairAt.lst {H : Hp} {x : V} {L : Addr} {xs : List V} (h : PairAt H x) (hL : H L = some (.lst xs)) (ys : List V) : PairAt (upd H L (.lst ys)) x := by
  obtain ⟨T, v, dd, t, kvs, rfl, h1, r, h2, g⟩ := h
  exact ⟨T, v, dd, t, kvs, rfl, by rw [upd_ne (ne_of h1 hL fun e => nomatch e)]; exact h1, r.wk (Wk.lst_upd hL ys), by rw [upd_ne (ne_of h2 hL fun e => nomatch e)]; exact h2, g.wk (Wk.lst_upd hL ys)⟩
theorem pair_at {H : Hp} {q1 q2 q3 : Addr} {xs : List V} {ts : List Th} {kvs : List (Key × V)} (h1 : H q1 = none) (r : RepL H xs ts) (n : xs.length ≤ 100) (h2 : (upd H q1 (.tup xs)) q2 = none) (h3 : (upd (upd (upd H q1 (.tup xs)) q2 (.dK [])) q2 (.dK kvs)) q3 = none) (g : GD H kvs 10) :
    Same H (upd (upd (upd (upd H q1 (.tup xs)) q2 (.dK [])) q2 (.dK kvs)) q3 (.tup [.ref q1, .ref q2])) ∧ PairAt (upd (upd (upd (upd H q1 (.tup xs)) q2 (.dK [])) q2 (.dK kvs)) q3 (.tup [.ref q1, .ref q2])) (.ref q3) := by
  have s1 := same_new (o := .tup xs) h1
  have s2 : Same (upd H q1 (.tup xs)) (upd (upd (upd H q1 (.tup xs)) q2 (.dK [])) q2 (.dK kvs)) := Same.mut (same_new h2 _) h2
  have s3 := same_new (o := .tup [.ref q1, .ref q2]) h3
  have s13 := (s1.trans s2).trans s3
  exact ⟨s13, q3, .ref q1, q2, .tup ts, kvs, rfl, upd_same, .tup ((s2.trans s3) _ _ upd_same) n (r.wk (Wk.same s13)), s3 _ _ upd_same, g.wk (Wk.same s13)⟩
def tA : Th := .tup [.str "a"]
def tBA : Th := .tup [.str "b", tA]
theorem out_a : outOf tA (fun _ => none) = .term tA := out_ok (t := tA) (by decide +kernel) rfl rfl (show within false tA = true by decide +kernel)
theorem out_x {g : Str → Option Th} {t : Th} (e : g "?x" = some t) (h : within false t = true) : outOf (.str "?x") g = .term t := by
  have hh : (Th.str "?x").holes = [("?x" : Str)] := by
    show addU [] "?x" = [("?x" : Str)]
    unfold addU
    rw [if_neg (List.not_mem_nil)]
    rfl
  have e1 : gT g "?x" = t := by
    unfold gT
    rw [e]
    rfl
  have e2 : (Th.str "?x").put (gT g) = t := e1
  have := out_ok (t := .str "?x") (g := g) (by decide +kernel) (by unfold lackL; rw [hh, List.filter_cons, e]; rfl) (by unfold badL; rw [hh, List.filter_cons, e1, h]; rfl) (by rw [e2]; exact h)
  rw [e2] at this
  exact this
def sp_law (K : PySem.W.Frag) : Sp := fun vs H Q _ => ∃ (a : Addr) (ns : List Int), vs = [.ref a] ∧ SqL K H a (ns.map V.int) ∧ ns.length ≤ 63 ∧ ∀ H', Q (.bl true) H'
section
variable {P : Program} {w : World} {K : PySem.W.Frag} {mg : Str → Option Value} {base : Heap}
theorem c_law (T : Tx K mg) (Z : ProgF P) : Cl P w K mg base CX0 16 "law" ["_law_script"] (sp_law K) := by
  have c__law_holes := fun (T : Tx K mg) => c__law_holes (P := P) (w := w) (base := base) T 6
  have c__law_told := fun (T : Tx K mg) => c__law_told (P := P) (w := w) (base := base) T Z
  refine Cl.mk0 T.d_law sc_law (fun vs H Q E h => ?_) (fun f cdv A outer s H vs Q E hr h => ?_)
  · obtain ⟨a, ns, rfl, _⟩ := h
    rfl
  obtain ⟨a, ns, rfl, hS, hl, q⟩ := h
  refine ⟨_, (pss_cons (ps_set (i := 1) sc_law.nd rfl (Or.inl rfl) (pe_cl (c__law_begin T) hr (by omega) rfl (pa_cons (pv 0) pa_nil)))
    (pss_cons (ps_for PassesOwn.never rfl (pi_range1 (by rfl) T.z_range (pa_cons pe_int pa_nil)) (pg_name (i := 2) sc_law.nd rfl (Or.inl rfl))
      (pss_cons (ps_set (i := 3) sc_law.nd rfl (Or.inl rfl) (pe_cl (c__law_take T) hr (by omega) rfl (pa_cons (pv 1) (pa_cons pe_int pa_nil))))
      (pss_cons (ps_set (i := 4) sc_law.nd rfl (Or.inl rfl) (pe_cl (c__law_pattern T) hr (by omega) rfl (pa_cons (pv 1) (pa_cons (pe_op op_add pe_int (pe_cl (c__law_take T) hr (by omega) rfl (pa_cons (pv 1) (pa_cons pe_int pa_nil)))) (pa_cons pe_bl pa_nil)))))
      (pss_cons (ps_set (i := 5) sc_law.nd rfl (Or.inl rfl) pe_dnewK)
      (Evl.pss_cut (ps_for PassesOwn.never rfl (pi_list (pe_cl (c__law_holes T) hr (by omega) rfl (pa_cons (pv 4) pa_nil))) (pg_name (i := 6) sc_law.nd rfl (Or.inl rfl))
        (pss_one (ps_dput (hu_of hr) (pv 5) (pv 6) (pe_cl (c__law_pattern T) hr (by omega) rfl (pa_cons (pv 1) (pa_cons (pe_op op_add pe_int (pe_cl (c__law_take T) hr (by omega) rfl (pa_cons (pv 1) (pa_cons pe_int pa_nil)))) (pa_cons pe_bl pa_nil)))) rfl)))
      (Evl.pss_cut (ps_if (pt_cmpR op_eq (pe_cl (c__law_take T) hr (by omega) rfl (pa_cons (pv 1) (pa_cons pe_int pa_nil))) pe_int (nomark _))
        (pss_one (ps_dput (hu_of hr) (pv 5) pe_str (pe_cl (c__law_pick T) hr (by omega) rfl (pa_cons (pv 1) (pa_cons (pe_lst (pa_cons (pe_tup (pa_cons pe_str pa_nil)) (pa_cons pe_non (pa_cons pe_int (pa_cons pe_str pa_nil))))) pa_nil))) rfl))
        pss_nil)
      (Evl.pss_cut (ps_if (PW.pt (pw_and (pt_cmpR op_eq (pv 3) pe_int (nomark _)) (pw_and1 (pt_cmpR (op_neDk hr.units0) (pv 5) pe_dnewK (nomark _)))))
        (pss_one (ps_expr (pe_dpop1 (pv 5) (pe_cl (c__law_pick T) hr (by omega) rfl (pa_cons (pv 1) (pa_cons (pe_callB (call_sortedD rfl) (by rfl) T.z_sorted (by decide +kernel) (pa_cons (pv 5) pa_nil)) pa_nil))) ⟨rfl, rfl, rfl, rfl⟩)))
        pss_nil)
      (Evl.pss_cut (ps_if (PW.pt (pw_and (pt_cmpR op_eq (pv 3) pe_int (nomark _)) (pw_and1 (pt_cmpR (op_neDk hr.units0) (pv 5) pe_dnewK (nomark _)))))
        (pss_cons (ps_set (i := 7) sc_law.nd rfl (Or.inl rfl) (pe_lst (pa_cons pe_non (pa_cons pe_str (pa_cons pe_str (pa_cons (pe_tup (pa_cons pe_str (pa_cons pe_str pa_nil))) (pa_cons (pe_lst (pa_cons pe_str pa_nil)) (pa_cons pe_int (pa_cons (pe_tup (pa_cons pe_str pa_nil)) (pa_cons (pe_tup pa_nil) pa_nil))))))))))
        (pss_one (ps_dput (hu_of hr) (pv 5) (pe_cl (c__law_pick T) hr (by omega) rfl (pa_cons (pv 1) (pa_cons (pe_callB (call_sortedD rfl) (by rfl) T.z_sorted (by decide +kernel) (pa_cons (pv 5) pa_nil)) pa_nil))) (pe_cl (c__law_pick T) hr (by omega) rfl (pa_cons (pv 1) (pa_cons (pv 7) pa_nil))) rfl)))
        pss_nil)
      (Evl.pss_cut (ps_if (pt_cmpR op_eq (pv 3) pe_int (nomark _))
        (pss_one (ps_set (i := 4) sc_law.nd rfl (Or.inl rfl) (pe_cl (c__law_pick T) hr (by omega) rfl (pa_cons (pv 1) (pa_cons (pe_lst (pa_cons pe_non (pa_cons pe_str (pa_cons (pe_tup (pa_cons pe_str (pa_cons (pv 4) (pa_cons pe_int pa_nil)))) (pa_cons (pe_lst (pa_cons pe_str (pa_cons (pv 4) pa_nil))) (pa_cons (pe_tup pa_nil) (pa_cons (pe_tup (pa_cons pe_str (pa_cons (pv 4) (pa_cons (pv 4) (pa_cons (pv 4) (pa_cons (pv 4) pa_nil)))))) pa_nil))))))) pa_nil)))))
        pss_nil)
      (pss_cons (ps_set (i := 8) sc_law.nd rfl (Or.inl rfl) (pe_callTy call_dictD (by rfl) T.z_dict (by decide +kernel) (pa_cons (pv 5) pa_nil)))
      (Evl.pss_cut (ps_set (i := 9) sc_law.nd rfl (Or.inl rfl) (pe_cl (c__law_told T) hr (by omega) rfl (pa_cons (pv 4) (pa_cons (pv 5) (pa_cons (pe_cmpR op_eq (pe_cl (c__law_take T) hr (by omega) rfl (pa_cons (pv 1) (pa_cons pe_int pa_nil))) pe_int (nomark _)) pa_nil)))))
      (pss_one (ps_if (PW.pt (pw_or (pt_cmpR (op_neD hr.units) (pv 9) (pe_cl (c__law_due T) hr (by omega) rfl (pa_cons (pv 4) (pa_cons (pv 5) pa_nil))) (nomark _)) (pw_or1 (pt_cmpR (op_neDk hr.units0) (pv 5) (pv 8) (nomark _)))))
        (pss_one (ps_ret pe_bl))
        pss_nil)))))))))))))
    (pss_cons (ps_set (i := 10) sc_law.nd rfl (Or.inl rfl) (pe_tup (pa_cons pe_str (pa_cons (pe_tup (pa_cons pe_str pa_nil)) (pa_cons (pe_tup (pa_cons pe_str pa_nil)) (pa_cons (pe_tup (pa_cons pe_str pa_nil)) pa_nil))))))
    (pss_cons (ps_set (i := 11) sc_law.nd rfl (Or.inl rfl) (pe_tup (pa_cons pe_str (pa_cons (pv 10) (pa_cons (pv 10) (pa_cons (pv 10) pa_nil))))))
    (pss_cons (ps_set (i := 12) sc_law.nd rfl (Or.inl rfl) (pe_lst (pa_cons (pe_tup (pa_cons (pe_tup (pa_cons pe_str (pa_cons pe_str (pa_cons pe_str pa_nil)))) (pa_cons (pe_disp (pps_cons pe_str pe_non pps_nil) rfl rfl (by simp) (by decide)) pa_nil))) (pa_cons (pe_tup (pa_cons (pe_tup (pa_cons pe_str (pa_cons pe_str (pa_cons pe_str (pa_cons pe_str pa_nil))))) (pa_cons (pe_disp (pps_cons pe_str (pv 11) pps_nil) rfl rfl (by simp) (by decide)) pa_nil))) pa_nil))))
    (pss_cons (ps_expr (pe_bm PySem.F.plainAttrs_list PySem.F.slot_list_append PySem.F.type_list_append mt_append (pv 12) (pa_cons (pe_tup (pa_cons (pe_tup (pa_cons pe_str (pa_cons pe_str (pa_cons pe_str (pa_cons pe_str pa_nil))))) (pa_cons (pe_disp (pps_cons pe_str (pv 11) (pps_cons pe_str pe_int pps_nil)) rfl rfl (by simp) (by decide)) pa_nil))) pa_nil)))
    (pss_cons (ps_if (pt_cmpR (op_neD hr.units) (pe_lc (own := [("_law_one", 4), ("_law_given", 5)]) (g := gTup K 2 (gCons (gName 4) (gCons (gName 5) (gNil)))) rfl sc_law.nd (pi_list (pv 12)) (blkOk_by (own := [("_law_one", 4), ("_law_given", 5)]) (N := ["_law_script", "_law_draw", "_law_turn", "_law_spoil", "_law_one", "_law_given", "_law_hole_here", "_law_odd", "_law_kept", "_law_found", "_law_wide", "_law_great", "_law_some"]) (sc := defScope s_law) (by decide +kernel)) (fun _ _ _ _ _ => (pg_tup rfl (pgs_cons (pg_name (i := 4) sc_law.nd rfl (Or.inl rfl)) (pgs_cons (pg_name (i := 5) sc_law.nd rfl (Or.inl rfl)) pgs_nil)))) (fun _ _ _ _ _ => (pts_one (pt_cmpR (r := rNeD K) (op_neD hr.units) (pe_cl (c__law_told T) hr (by omega) rfl (pa_cons (pv 4) (pa_cons (pv 5) (pa_cons pe_bl pa_nil)))) (pe_cl (c__law_due T) hr (by omega) rfl (pa_cons (pv 4) (pa_cons (pv 5) pa_nil))) (nomark _)))) (fun _ _ _ _ _ => (pv 4))) (pe_lst pa_nil) (nomark _))
      (pss_one (ps_ret pe_bl))
      pss_nil)
    (pss_one (ps_ret (pe_and (pe_cmpR (op_eqD hr.units) (pe_cl (c__law_told T) hr (by omega) rfl (pa_cons (pe_tup (pa_cons pe_str pa_nil)) (pa_cons pe_dnewK (pa_cons pe_bl pa_nil)))) (pe_tup (pa_cons pe_str pa_nil)) (nomark _)) (pe_one (pe_cmpR (op_eqD hr.units) (pe_cl (c__law_told T) hr (by omega) rfl (pa_cons pe_str (pa_cons (pe_disp (pps_cons pe_str (pe_tup (pa_cons pe_str (pa_cons (pe_tup (pa_cons pe_str pa_nil)) pa_nil))) pps_nil) rfl rfl (by simp) (by decide)) (pa_cons pe_bl pa_nil)))) (pe_tup (pa_cons pe_str (pa_cons (pe_tup (pa_cons pe_str pa_nil)) pa_nil))) (nomark _))))))))))))), ?_⟩
  have lx : ∀ n : Nat, n ≤ 100 → n ≤ sizeLine := fun n hn => Nat.le_trans hn (by decide)
  refine ⟨_, rfl, a, ns, rfl, hS, hl, fun d c H0 s0 hD0 => ⟨5, rfl, by decide, by decide, ?_⟩⟩
  refine for_range (lo := 0) (n := 5) (fun i σ' H' => ∃ y2 y3 y4 y5 y6 y7 y8 y9, σ' = [some (.ref a), some (.ref d), y2, y3, y4, y5, y6, y7, y8, y9, none, none, none] ∧ DU d c H0 H')
    ⟨none, none, none, none, none, none, none, none, rfl, DU.refl hD0⟩ (fun i σ H1 hi h' => ?_) (fun σ H1 h' => ?_)
  · obtain ⟨y2, y3, y4, y5, y6, y7, y8, y9, rfl, u1⟩ := h'
    refine ⟨_, rfl, d, c, 5, rfl, by decide, by decide, u1.dr, fun sp H2 f0 f1 u2 => ⟨_, rfl, _, rfl, d, c, 3, rfl, by decide, by decide, u2.dr, fun k H3 k0 k1 u3 => ⟨_, _, rfl, rfl, ?_⟩⟩⟩
    obtain ⟨k, rfl⟩ : ∃ k' : Nat, k = (k' : Int) := ⟨k.toNat, by omega⟩
    refine ⟨d, c, 2 + k, true, rfl, by omega, by omega, u3.dr, fun v t H4 rv sh dp u4 => ?_⟩
    refine fun pg hpg => ?_
    have u14 := ((u1.trans u2).trans u3).trans u4
    obtain ⟨ng1, ng2⟩ := u14.dr.new hpg
    have sg := same_new (o := .dK []) hpg
    have G0 : GS d c pg H0 (upd H4 pg (.dK [])) 0 := ⟨u14.then sg, u14.free hpg, ng1, ng2, [], upd_same, .nil⟩
    have rv0 := rv.wk (Wk.same sg)
    have szt : t.size ≤ 40 := size_cap 3 t sh (by omega)
    have hgt : t.hgt < 6 := by
      have := hgt_dep t sh
      omega
    generalize upd H4 pg (.dK []) = H5 at G0 rv0
    obtain ⟨I, hI⟩ : ∃ I : V, I = .int (0 + (i : Nat)) := ⟨_, rfl⟩
    rw [← hI]
    have mid : ∀ {n : Nat} {H' : Hp} {v' : V} {t' : Th} {z6 z7 : Option V}, GS d c pg H0 H' n → n ≤ 42 → Rep H' v' t' → ∃ z6' z7' v2 t2, [some (.ref a), some (.ref d), some I, some (.int sp), some v', some (.ref pg), z6, z7, y8, y9, none, none, none] = [some (.ref a), some (.ref d), some I, some (.int sp), some v2, some (.ref pg), z6', z7', y8, y9, none, none, none] ∧ GS d c pg H0 H' 42 ∧ Rep H' v2 t2 := fun g hn r => ⟨_, _, _, _, rfl, g.more hn, r⟩
    obtain ⟨kvs0, hk0, hg0⟩ := G0.ex
    refine ⟨fun σ' H' => ∃ z6, σ' = [some (.ref a), some (.ref d), some I, some (.int sp), some v, some (.ref pg), z6, y7, y8, y9, none, none, none] ∧ GS d c pg H0 H' 40 ∧ Rep H' v t, ?_, fun σ6 H6 h6 => ?_⟩
    · refine ⟨_, rfl, v, t, true, rfl, hgt, sh, by omega, rv0, fun p2 H6 s6 np2 hp2 => ⟨p2, rfl, ⟨_, SqL.of hp2⟩, ?_⟩⟩
      obtain ⟨n1, n2⟩ := G0.u.dr.new np2
      have npg : p2 ≠ pg := fun e => by
        rw [e, hk0] at np2
        cases np2
      refine for_list (xs := t.holes.map V.str) (fun j σ' H' => ∃ z6, σ' = [some (.ref a), some (.ref d), some I, some (.int sp), some v, some (.ref pg), z6, y7, y8, y9, none, none, none] ∧ GS d c pg H0 H' j ∧ Rep H' v t ∧ H' p2 = some (.lst (t.holes.map V.str)))
        ⟨_, rfl, G0.same s6, rv0.wk (Wk.same s6), hp2⟩ (fun j σ H' _ h' => ?_) (fun j x σ H7 hx h7 => ?_) (fun σ H' h' => ?_)
      · obtain ⟨_, _, _, _, h5⟩ := h'
        exact SqL.of h5
      · obtain ⟨z6, rfl, G7, rv7, h27⟩ := h7
        obtain ⟨z, rfl, hz⟩ := strs_get hx
        refine ⟨_, rfl, _, rfl, d, c, 3, rfl, by decide, by decide, G7.u.dr, fun k H8 k0 k1 u8 => ⟨_, _, rfl, rfl, ?_⟩⟩
        obtain ⟨k, rfl⟩ : ∃ k' : Nat, k = (k' : Int) := ⟨k.toNat, by omega⟩
        refine ⟨d, c, 1 + k, false, rfl, by omega, by omega, u8.dr, fun v' t' H9 rv' sh' dp' u9 => ?_⟩
        have u79 := u8.trans u9
        have G9 := G7.step u79
        obtain ⟨kvs, hk, hg⟩ := G9.ex
        have hl40 : kvs.length < sizeLine := by
          have hfew := hg.few
          have hj : j < t.holes.length := (List.getElem?_eq_some_iff.mp hz).1
          have := holes_le t
          exact Nat.lt_of_lt_of_le (by omega : kvs.length < 100) (lx 100 (Nat.le_refl _))
        refine ⟨_, rfl, _, rfl, pg, _, rfl, DPut.k (k := Sum.inr z) hk hl40, ?_⟩
        have w9 := Wk.dK_upd hk (putK kvs (Sum.inr z) v')
        exact ⟨_, rfl, G9.put hk hg rv' (Nat.le_refl _), (rv7.wk (u79.wk G7.u.dr)).wk w9, by rw [upd_ne npg]; exact u79.old _ _ n1 n2 h27⟩
      · obtain ⟨z6, rfl, G7, rv7, h27⟩ := h'
        refine ⟨_, rfl, G7.more ?_, rv7⟩
        have := holes_le t
        rw [List.length_map]
        omega
    obtain ⟨z6, rfl, G6, rv6⟩ := h6
    refine ⟨fun σ' H' => ∃ z6 z7 v t, σ' = [some (.ref a), some (.ref d), some I, some (.int sp), some v, some (.ref pg), z6, z7, y8, y9, none, none, none] ∧ GS d c pg H0 H' 41 ∧ Rep H' v t, ?_, fun σ7 H7 h7 => ?_⟩
    · refine ⟨_, rfl, d, c, 2, rfl, by decide, by decide, G6.u.dr, fun r H7 r0 r1 u7 => ⟨rfl, _, rfl, ite2 (fun _ => ?_) (fun _ => ⟨_, _, _, _, rfl, (G6.step u7).more (by decide), rv6.wk (u7.wk G6.u.dr)⟩)⟩⟩
      refine ⟨_, rfl, lx 1 (by decide), fun q1 hq1 => ⟨lx 4 (by decide), fun q2 hq2 => ?_⟩⟩
      have sq1 := same_new (o := .tup [.str "a"]) hq1
      have sq2 := same_new (o := .lst [.ref q1, .non, .int 7, .str "?x"]) hq2
      have G7 := (G6.step u7).same (sq1.trans sq2)
      obtain ⟨m1, m2⟩ := ((G6.step u7).same sq1).u.dr.new hq2
      refine ⟨d, c, q2, _, rfl, G7.u.dr, upd_same, m1, m2, by show 0 < 4; decide, by show 4 ≤ 1000; decide, fun v' H8 hv u8 => ?_⟩
      have rr : RepL (upd (upd H7 q1 (.tup [.str "a"])) q2 (.lst [.ref q1, .non, .int 7, .str "?x"])) [.ref q1, .non, .int 7, .str "?x"] [.tup [.str "a"], .non, .int 7, .str "?x"] :=
        .cons (.tup (sq2 _ _ upd_same) (by decide) (.cons (rstr "a") .nil)) (.cons .non (.cons (.int 7) (.cons (rstr "?x") .nil)))
      obtain ⟨t', _, rv'⟩ := rr.mem hv
      have rv8 := rv'.wk (u8.wk G7.u.dr)
      have G8 := G7.step u8
      obtain ⟨kvs, hk, hg⟩ := G8.ex
      refine ⟨_, rfl, pg, _, rfl, DPut.k (k := Sum.inr "?more") hk (Nat.lt_of_le_of_lt hg.few (Nat.lt_of_lt_of_le (by decide : 40 < 100) (lx 100 (Nat.le_refl _)))), ?_⟩
      exact ⟨_, _, _, _, rfl, G8.put hk hg rv8 (Nat.le_refl _), (((rv6.wk (u7.wk G6.u.dr)).wk (Wk.same (sq1.trans sq2))).wk (u8.wk G7.u.dr)).wk (Wk.dK_upd hk _)⟩
    obtain ⟨z6, z7, v, t, rfl, G7, rv7⟩ := h7
    have key_in : ∀ {H' : Hp} {kvs : List (Key × V)} {n : Nat} {ks ys : List Str} {kx : V}, GD H' kvs n → kvs.map (·.1) = ks.map Sum.inr → ys.Perm ks → kx ∈ ys.map V.str → ∃ z y, kx = .str z ∧ valV kvs (Sum.inr z) = some y := by
      intro H' kvs n ks ys kx hg e1 perm hkx
      obtain ⟨z, hz, rfl⟩ := List.mem_map.mp hkx
      have inK : (Sum.inr z : Key) ∈ kvs.map (·.1) := by
        rw [e1]
        exact List.mem_map.mpr ⟨z, perm.mem_iff.mp hz, rfl⟩
      obtain ⟨pr, hpr, e⟩ := List.mem_map.mp inK
      exact ⟨z, pr.2, rfl, by rw [← e]; exact valV_self hg.nd hpr⟩
    refine ⟨fun σ' H' => ∃ z6 z7 v t, σ' = [some (.ref a), some (.ref d), some I, some (.int sp), some v, some (.ref pg), z6, z7, y8, y9, none, none, none] ∧ GS d c pg H0 H' 41 ∧ Rep H' v t, ?_, fun σ8 H8 h8 => ?_⟩
    · refine ⟨_, rfl, rfl, _, rfl, ite2 (fun _ => ?_) (fun _ => iteF ⟨_, _, _, _, rfl, G7, rv7⟩)⟩
      obtain ⟨kvs, hk, hg⟩ := G7.ex
      refine ⟨_, rfl, fun p hp => ?_⟩
      have sp1 := same_new (o := .dK []) hp
      have G8 := G7.same sp1
      have rv8 := rv7.wk (Wk.same sp1)
      have hk8 := sp1 _ _ hk
      have hg8 := hg.wk (Wk.same sp1)
      refine ⟨pg, p, kvs, [], rfl, rfl, hk8, upd_same, fun e x hx => ?_, _, rfl, ite2 (fun ce => ?_) (fun _ => ⟨_, _, _, _, rfl, G8, rv8⟩)⟩
      · rw [List.eq_nil_of_length_eq_zero e] at hx
        exact (List.not_mem_nil hx).elim
      have pos : 0 < kvs.length := Nat.pos_of_ne_zero fun e => by
        rw [decide_eq_true (show kvs.length = ([] : List (Key × V)).length from e)] at ce
        cases ce
      obtain ⟨ks, e1, e2⟩ := GD.keys hg8.all
      have few := hg8.few
      refine ⟨_, rfl, pg, rfl, .inl ⟨kvs, .inl hk8⟩, _, rfl, _, rfl, pg, kvs, ks, rfl, .inl hk8, e1, by omega, fun ys qa perm srt hq => ?_⟩
      obtain ⟨m1, m2⟩ := G8.u.dr.new hq
      have sq := same_new (o := .lst (ys.map V.str)) hq
      have G9 := G8.same sq
      have yl : ys.length = kvs.length := by rw [perm.length_eq, e2]
      refine ⟨d, c, qa, ys.map V.str, rfl, G9.u.dr, upd_same, m1, m2, by rw [List.length_map]; omega, by rw [List.length_map]; omega, fun kx H9 hkx u9 => ?_⟩
      obtain ⟨z, y, rfl, hy⟩ := key_in hg8 e1 perm hkx
      have G10 := G9.step u9
      have hk10 : H9 pg = some (.dK kvs) := u9.old _ _ G9.nd G9.nc (sq _ _ hk8)
      have hg10 := (hg8.wk (Wk.same sq)).wk (u9.wk G9.u.dr)
      refine ⟨kvs, Sum.inr z, y, hk10, rfl, hy, ?_⟩
      exact ⟨_, _, _, _, rfl, G10.set hk10 hg10.drop, ((rv8.wk (Wk.same sq)).wk (u9.wk G9.u.dr)).wk (Wk.dK_upd hk10 _)⟩
    obtain ⟨z6, z7, v, t, rfl, G8, rv8⟩ := h8
    refine ⟨fun σ' H' => ∃ z6 z7 v t, σ' = [some (.ref a), some (.ref d), some I, some (.int sp), some v, some (.ref pg), z6, z7, y8, y9, none, none, none] ∧ GS d c pg H0 H' 42 ∧ Rep H' v t, ?_, fun σ9 H9 h9 => ?_⟩
    · refine ⟨_, rfl, rfl, _, rfl, ite2 (fun _ => ?_) (fun _ => iteF ⟨_, _, _, _, rfl, G8.more (by decide), rv8⟩)⟩
      obtain ⟨kvs, hk, hg⟩ := G8.ex
      refine ⟨_, rfl, fun p hp => ?_⟩
      have sp1 := same_new (o := .dK []) hp
      refine ⟨pg, p, kvs, [], rfl, rfl, sp1 _ _ hk, upd_same, fun e x hx => ?_, _, rfl, ite2 (fun ce => ?_) (fun _ => ⟨_, _, _, _, rfl, (G8.same sp1).more (by decide), rv8.wk (Wk.same sp1)⟩)⟩
      · rw [List.eq_nil_of_length_eq_zero e] at hx
        exact (List.not_mem_nil hx).elim
      have pos : 0 < kvs.length := Nat.pos_of_ne_zero fun e => by
        rw [decide_eq_true (show kvs.length = ([] : List (Key × V)).length from e)] at ce
        cases ce
      refine ⟨lx 2 (by decide), fun q1 hq1 => ⟨lx 1 (by decide), fun q2 hq2 => ⟨lx 1 (by decide), fun q3 hq3 => ⟨Nat.zero_le _, fun q4 hq4 => ⟨lx 8 (by decide), fun q5 hq5 => ?_⟩⟩⟩⟩⟩
      have t1 := same_new (o := .tup [.str "a", .str "?x"]) hq1
      have t2 := same_new (o := .lst [.str "a"]) hq2
      have t3 := same_new (o := .tup [.str "A"]) hq3
      have t4 := same_new (o := .tup []) hq4
      have t5 := same_new (o := .lst [.non, .str "a", .str "?x", .ref q1, .ref q2, .int 3, .ref q3, .ref q4]) hq5
      have t14 := ((sp1.trans t1).trans t2).trans (t3.trans t4)
      have t15 := t14.trans t5
      obtain ⟨m1, m2⟩ := (G8.same t14).u.dr.new hq5
      have rr := RepL.cons (H := upd (upd (upd (upd (upd (upd H8 p (.dK [])) q1 (.tup [.str "a", .str "?x"])) q2 (.lst [.str "a"])) q3 (.tup [.str "A"])) q4 (.tup [])) q5 (.lst [.non, .str "a", .str "?x", .ref q1, .ref q2, .int 3, .ref q3, .ref q4])) Rep.non
        (.cons (rstr "a") (.cons (rstr "?x") (.cons (.tup (((t2.trans t3).trans (t4.trans t5)) _ _ upd_same) (by decide) (.cons (rstr "a") (.cons (rstr "?x") .nil))) (.cons (.ls ((t3.trans (t4.trans t5)) _ _ upd_same))
          (.cons (.int 3) (.cons (.tup ((t4.trans t5) _ _ upd_same) (by decide) (.cons (rstr "A") .nil)) (.cons (.tup (t5 _ _ upd_same) (by decide) .nil) .nil)))))))
      have G9 := G8.same t15
      have rv9 := rv8.wk (Wk.same t15)
      have h5 : (upd (upd (upd (upd (upd (upd H8 p (.dK [])) q1 (.tup [.str "a", .str "?x"])) q2 (.lst [.str "a"])) q3 (.tup [.str "A"])) q4 (.tup [])) q5 (.lst [.non, .str "a", .str "?x", .ref q1, .ref q2, .int 3, .ref q3, .ref q4])) q5 = some (.lst [.non, .str "a", .str "?x", .ref q1, .ref q2, .int 3, .ref q3, .ref q4]) := upd_same
      have hk9 := t15 _ _ hk
      have hg9 := hg.wk (Wk.same t15)
      generalize upd (upd (upd (upd (upd (upd H8 p (.dK [])) q1 (.tup [.str "a", .str "?x"])) q2 (.lst [.str "a"])) q3 (.tup [.str "A"])) q4 (.tup [])) q5 (.lst [.non, .str "a", .str "?x", .ref q1, .ref q2, .int 3, .ref q3, .ref q4]) = Ha at rr G9 rv9 h5 hk9 hg9 ⊢
      refine ⟨_, rfl, _, rfl, d, c, q5, _, rfl, G9.u.dr, h5, m1, m2, by show 0 < 8; decide, by show 8 ≤ 1000; decide, fun v' Hb hv ub => ?_⟩
      obtain ⟨t', _, rv'⟩ := rr.mem hv
      have w10 := ub.wk G9.u.dr
      have G10 := G9.step ub
      have hk10 : Hb pg = some (.dK kvs) := ub.old _ _ G9.nd G9.nc hk9
      have hg10 := hg9.wk w10
      obtain ⟨ks, e1, e2⟩ := GD.keys hg10.all
      have few := hg10.few
      refine ⟨_, rfl, _, rfl, _, rfl, pg, kvs, ks, rfl, .inl hk10, e1, by omega, fun ys qa perm srt hq => ?_⟩
      obtain ⟨m1, m2⟩ := G10.u.dr.new hq
      have sq := same_new (o := .lst (ys.map V.str)) hq
      have G11 := G10.same sq
      have yl : ys.length = kvs.length := by rw [perm.length_eq, e2]
      refine ⟨d, c, qa, ys.map V.str, rfl, G11.u.dr, upd_same, m1, m2, by rw [List.length_map]; omega, by rw [List.length_map]; omega, fun kx Hc hkx uc => ?_⟩
      obtain ⟨z, y, rfl, hy⟩ := key_in hg10 e1 perm hkx
      have G12 := G11.step uc
      have hk12 : Hc pg = some (.dK kvs) := uc.old _ _ G11.nd G11.nc (sq _ _ hk10)
      have w12 := (Wk.same sq).trans (uc.wk G11.u.dr)
      have hg12 := hg10.wk w12
      refine ⟨pg, _, rfl, DPut.k (k := Sum.inr z) hk12 (Nat.lt_of_lt_of_le (by omega : kvs.length < 100) (lx 100 (Nat.le_refl _))), ?_⟩
      exact ⟨_, _, _, _, rfl, G12.put hk12 hg12 ((rv'.wk w10).wk w12) (Nat.le_refl _), ((rv9.wk w10).wk w12).wk (Wk.dK_upd hk12 _)⟩
    obtain ⟨z6, z7, v, t, rfl, G9, rv9⟩ := h9
    refine ⟨fun σ' H' => ∃ z6 z7 v t, σ' = [some (.ref a), some (.ref d), some I, some (.int sp), some v, some (.ref pg), z6, z7, y8, y9, none, none, none] ∧ GS d c pg H0 H' 42 ∧ Rep H' v t, ?_, fun σ10 H10 h10 => ?_⟩
    · refine ⟨_, rfl, rfl, _, rfl, ite2 (fun _ => ?_) (fun _ => ⟨_, _, _, _, rfl, G9, rv9⟩)⟩
      refine ⟨_, rfl, _, rfl, lx 3 (by decide), fun q1 hq1 => ⟨_, rfl, lx 2 (by decide), fun q2 hq2 => ⟨Nat.zero_le _, fun q3 hq3 => ⟨_, rfl, _, rfl, _, rfl, _, rfl, lx 5 (by decide), fun q4 hq4 => ⟨lx 6 (by decide), fun q5 hq5 => ?_⟩⟩⟩⟩⟩
      have t1 := same_new (o := .tup [.str "f", v, .int 3]) hq1
      have t2 := same_new (o := .lst [.str "f", v]) hq2
      have t3 := same_new (o := .tup []) hq3
      have t4 := same_new (o := .tup [.str "f", v, v, v, v]) hq4
      have t5 := same_new (o := .lst [.non, .str "x", .ref q1, .ref q2, .ref q3, .ref q4]) hq5
      have t14 := (t1.trans t2).trans (t3.trans t4)
      have t15 := t14.trans t5
      obtain ⟨m1, m2⟩ := (G9.same t14).u.dr.new hq5
      have r15 := rv9.wk (Wk.same t15)
      have rr := RepL.cons (H := upd (upd (upd (upd (upd H9 q1 (.tup [.str "f", v, .int 3])) q2 (.lst [.str "f", v])) q3 (.tup [])) q4 (.tup [.str "f", v, v, v, v])) q5 (.lst [.non, .str "x", .ref q1, .ref q2, .ref q3, .ref q4])) Rep.non
        (.cons (rstr "x") (.cons (.tup (((t2.trans t3).trans (t4.trans t5)) _ _ upd_same) (by show 3 ≤ 100; decide) (.cons (rstr "f") (.cons r15 (.cons (.int 3) .nil)))) (.cons (.ls ((t3.trans (t4.trans t5)) _ _ upd_same))
          (.cons (.tup ((t4.trans t5) _ _ upd_same) (by decide) .nil) (.cons (.tup (t5 _ _ upd_same) (by show 5 ≤ 100; decide) (.cons (rstr "f") (.cons r15 (.cons r15 (.cons r15 (.cons r15 .nil)))))) .nil)))))
      have G10 := G9.same t15
      refine ⟨d, c, q5, _, rfl, G10.u.dr, upd_same, m1, m2, by show 0 < 6; decide, by show 6 ≤ 1000; decide, fun v' Hb hv ub => ?_⟩
      obtain ⟨t', _, rv'⟩ := rr.mem hv
      exact ⟨_, _, _, _, rfl, G10.step ub, rv'.wk (ub.wk G10.u.dr)⟩
    obtain ⟨z6, z7, v, t, rfl, G10, rv10⟩ := h10
    obtain ⟨kvs, hk, hg⟩ := G10.ex
    refine ⟨_, rfl, pg, kvs, rfl, .inl hk, fun pk hpk => ?_⟩
    have sk := same_new (o := .dK kvs) hpk
    obtain ⟨nk1, nk2⟩ := G10.u.dr.new hpk
    have G11 := G10.same sk
    have rv11 := rv10.wk (Wk.same sk)
    have hkk : (upd H10 pk (.dK kvs)) pk = some (.dK kvs) := upd_same
    have hk11 := sk _ _ hk
    have hg11 := hg.wk (Wk.same sk)
    generalize upd H10 pk (.dK kvs) = H11 at G11 rv11 hkk hk11 hg11 ⊢
    refine ⟨fun σ' H' => ∃ fo g, σ' = [some (.ref a), some (.ref d), some I, some (.int sp), some v, some (.ref pg), z6, z7, some (.ref pk), some fo, none, none, none] ∧ DU d c H0 H' ∧ H' pg = some (.dK kvs) ∧ H' pk = some (.dK kvs) ∧ GD H' kvs 42 ∧ Gv H' kvs g ∧ Rep H' v t ∧ OutV H' fo (outOf t g), ?_, fun σ12 H12 h12 => ?_⟩
    · refine ⟨_, rfl, _, rfl, _, rfl, d, c, 2, rfl, by decide, by decide, G11.u.dr, fun r H12 r0 r1 u12 => ⟨rfl, ?_⟩⟩
      have w12 := u12.wk G11.u.dr
      have hg12 := hg11.wk w12
      obtain ⟨g, hG⟩ := hg12.gv
      have hk12 := u12.old _ _ G11.nd G11.nc hk11
      have hkk12 := u12.old _ _ nk1 nk2 hkk
      refine ⟨v, t, pg, kvs, g, _, rfl, rv11.wk w12, hk12, hG, fun fo H13 s13 ho => ?_⟩
      exact ⟨fo, g, rfl, (G11.step u12).u.then s13, s13 _ _ hk12, s13 _ _ hkk12, hg12.wk (Wk.same s13), hG.wk (Wk.same s13), (rv11.wk w12).wk (Wk.same s13), ho⟩
    obtain ⟨fo, g, rfl, u12, hk12, hkk12, hg12, hG, rv12, ho⟩ := h12
    refine ⟨_, rfl, _, rfl, _, rfl, v, t, pg, kvs, g, rfl, rv12, hk12, hG, fun u H13 s13 ho' => out_ne (ho.same s13) ho' ⟨_, rfl, iteF ⟨_, rfl, _, rfl, pg, pk, kvs, kvs, rfl, rfl, s13 _ _ hk12, s13 _ _ hkk12, fun _ => (hg12.wk (Wk.same s13)).same, ?_⟩⟩⟩
    rw [decide_eq_true rfl]
    exact ⟨_, rfl, iteF ⟨_, _, _, _, _, _, _, _, rfl, u12.then s13⟩⟩
  · obtain ⟨y2, y3, y4, y5, y6, y7, y8, y9, rfl, u1⟩ := h'
    clear u1
    refine ⟨lx 1 (by decide), fun w1 hw1 => ⟨lx 1 (by decide), fun w2 hw2 => ⟨lx 1 (by decide), fun w3 hw3 => ⟨lx 4 (by decide), fun w4 hw4 => ?_⟩⟩⟩⟩
    have t1 := same_new (o := .tup [.str "a"]) hw1
    have t2 := same_new (o := .tup [.str "a"]) hw2
    have t3 := same_new (o := .tup [.str "a"]) hw3
    have t4 := same_new (o := .tup [.str "f", .ref w1, .ref w2, .ref w3]) hw4
    have rw4 : Rep (upd (upd (upd (upd H1 w1 (.tup [.str "a"])) w2 (.tup [.str "a"])) w3 (.tup [.str "a"])) w4 (.tup [.str "f", .ref w1, .ref w2, .ref w3])) (.ref w4) (.tup [.str "f", tA, tA, tA]) :=
      .tup upd_same (by show 4 ≤ 100; decide) (.cons (rstr "f") (.cons (.tup ((t2.trans (t3.trans t4)) _ _ upd_same) (by decide) (.cons (rstr "a") .nil)) (.cons (.tup ((t3.trans t4) _ _ upd_same) (by decide) (.cons (rstr "a") .nil)) (.cons (.tup (t4 _ _ upd_same) (by decide) (.cons (rstr "a") .nil)) .nil))))
    generalize upd (upd (upd (upd H1 w1 (.tup [.str "a"])) w2 (.tup [.str "a"])) w3 (.tup [.str "a"])) w4 (.tup [.str "f", .ref w1, .ref w2, .ref w3]) = H2 at rw4 ⊢
    refine ⟨_, rfl, _, rfl, _, rfl, lx 4 (by decide), fun w5 hw5 => ?_⟩
    have t5 := same_new (o := .tup [.str "f", .ref w4, .ref w4, .ref w4]) hw5
    have r4 := rw4.wk (Wk.same t5)
    have r5 : Rep (upd H2 w5 (.tup [.str "f", .ref w4, .ref w4, .ref w4])) (.ref w5) (.tup [.str "f", .tup [.str "f", tA, tA, tA], .tup [.str "f", tA, tA, tA], .tup [.str "f", tA, tA, tA]]) :=
      .tup upd_same (by show 4 ≤ 100; decide) (.cons (rstr "f") (.cons r4 (.cons r4 (.cons r4 .nil))))
    generalize upd H2 w5 (.tup [.str "f", .ref w4, .ref w4, .ref w4]) = H3 at r5 ⊢
    refine ⟨lx 3 (by decide), fun q1 h1 => fun q2 h2 => ⟨upd_same, [(Sum.inr "?x", .non)], rfl, by decide, lx 2 (by decide), fun q3 h3 => ?_⟩⟩
    obtain ⟨s4, p3⟩ := pair_at h1 (.cons (rstr "f") (.cons (rstr "?x") (.cons (rstr "?y") .nil))) (by show 3 ≤ 100; decide) h2 h3 ((GD.nil (n := 9)).put (z := "?x") .non)
    generalize upd (upd (upd (upd H3 q1 _) q2 _) q2 _) q3 _ = H4 at s4 p3 ⊢
    refine ⟨lx 4 (by decide), fun q4 h4 => fun q5 h5 => ⟨_, rfl, upd_same, [(Sum.inr "?x", .ref w5)], rfl, by show 1 ≤ 15; decide, lx 2 (by decide), fun q6 h6 => ?_⟩⟩
    obtain ⟨s5, p6⟩ := pair_at h4 (.cons (rstr "f") (.cons (rstr "?x") (.cons (rstr "?x") (.cons (rstr "?x") .nil)))) (by show 4 ≤ 100; decide) h5 h6 ((GD.nil (n := 9)).put (z := "?x") (r5.wk (Wk.same s4)))
    have r6 := r5.wk (Wk.same (s4.trans s5))
    replace p3 := p3.same s5
    generalize upd (upd (upd (upd H4 q4 _) q5 _) q5 _) q6 _ = H5 at s5 p6 p3 r6 ⊢
    refine ⟨lx 2 (by decide), fun L hL => ?_⟩
    have s6 := same_new (o := .lst [.ref q3, .ref q6]) hL
    replace p3 := p3.same s6
    replace p6 := p6.same s6
    replace r6 := r6.wk (Wk.same s6)
    have eL : (upd H5 L (.lst [.ref q3, .ref q6])) L = some (.lst [.ref q3, .ref q6]) := upd_same
    generalize upd H5 L (.lst [.ref q3, .ref q6]) = H6 at p3 p6 r6 eL ⊢
    refine ⟨_, rfl, .inl ⟨rfl, _, SqL.of eL⟩, lx 4 (by decide), fun q7 h7 => fun q8 h8 => ⟨_, rfl, upd_same, [(Sum.inr "?x", .ref w5), (Sum.inr "?y", .int 5)], rfl, by show 2 ≤ 15; decide, lx 2 (by decide), fun q9 h9 => ?_⟩⟩
    obtain ⟨s7, p9⟩ := pair_at h7 (.cons (rstr "f") (.cons (rstr "?x") (.cons (rstr "?x") (.cons (rstr "?y") .nil)))) (by show 4 ≤ 100; decide) h8 h9 (((GD.nil (n := 8)).put (z := "?x") r6).put (z := "?y") (.int 5))
    replace p3 := p3.same s7
    replace p6 := p6.same s7
    replace eL := s7 _ _ eL
    generalize upd (upd (upd (upd H6 q7 _) q8 _) q8 _) q9 _ = H7 at p3 p6 p9 eL ⊢
    refine ⟨L, [.ref q3, .ref q6], .ref q9, rfl, rfl, eL, by show 2 < sizeLine; decide, ?_⟩
    replace p3 := p3.lst eL [.ref q3, .ref q6, .ref q9]
    replace p6 := p6.lst eL [.ref q3, .ref q6, .ref q9]
    replace p9 := p9.lst eL [.ref q3, .ref q6, .ref q9]
    have e8 : (upd H7 L (.lst ([.ref q3, .ref q6] ++ [.ref q9]))) L = some (.lst [.ref q3, .ref q6, .ref q9]) := upd_same
    change PairAt (upd H7 L (.lst ([.ref q3, .ref q6] ++ [.ref q9]))) _ at p3 p6 p9
    generalize upd H7 L (.lst ([.ref q3, .ref q6] ++ [.ref q9])) = H8 at p3 p6 p9 e8 ⊢
    have pairs : ∀ (j : Nat) (x : V), ([.ref q3, .ref q6, .ref q9] : List V)[j]? = some x → PairAt H8 x := fun j x e => by
      have := List.mem_of_getElem? e
      rcases List.mem_cons.mp this with rfl | this
      · exact p3
      rcases List.mem_cons.mp this with rfl | this
      · exact p6
      · rw [List.mem_singleton.mp this]
        exact p9
    refine ⟨_, rfl, L, rfl, ⟨_, SqL.of e8⟩, fun D hD => ?_⟩
    refine lc_it (walk_list (K := K) (xs := [.ref q3, .ref q6, .ref q9])) (fun j Hx => Same H8 Hx ∧ Hx D = some (.lst [])) ⟨same_new hD _, upd_same⟩ (fun j Hx _ k => SqL.of (k.1 _ _ e8)) (fun j x Hx Hy hj k yy => ?_) (fun Hx k => ?_)
    · obtain ⟨rfl, hx⟩ := yy
      obtain ⟨T', v, dd, t, kvs, rfl, hT, rv, hk, hg⟩ := (pairs j x hx).same k.1
      obtain ⟨g, hG⟩ := hg.gv
      refine ⟨T', _, rfl, SqT.of hT, rfl, _, _, rfl, _, _, rfl, rfl, rfl, ?_⟩
      refine ⟨_, rfl, _, rfl, v, t, dd, kvs, g, false, rfl, rv, hk, hG, fun fo Hz sz ho => ⟨_, rfl, _, rfl, v, t, dd, kvs, g, rfl, rv.wk (Wk.same sz), sz _ _ hk, hG.wk (Wk.same sz), fun u Hw sw ho' => out_ne (ho.same sw) ho' ⟨_, rfl, iteF ⟨(k.1.trans sz).trans sw, sw _ _ (sz _ _ k.2)⟩⟩⟩⟩
    · obtain ⟨k1, k2⟩ := k
      refine ⟨Nat.zero_le _, fun pe hpe => ?_⟩
      have se := same_new (o := .lst []) hpe
      refine ne_nil (zs := []) (fun z hz => (List.not_mem_nil hz).elim) (se _ _ k2) upd_same ⟨_, rfl, iteF ?_⟩
      generalize upd Hx pe (.lst []) = H9
      refine ⟨lx 1 (by decide), fun q1 h1 => fun q2 h2 => ⟨.ref q1, tA, q2, [], fun _ => none, false, rfl, .tup ((same_new h2 _) _ _ upd_same) (by decide) (.cons (rstr "a") .nil), upd_same, fun z => .inl ⟨rfl, rfl⟩, fun fo Hz sz ho => ?_⟩⟩
      rw [out_a] at ho
      refine ⟨lx 1 (by decide), fun q3 h3 => ?_⟩
      refine out_eq (o := .term tA) (ho.same (same_new h3 _)) ⟨ho.1, .tup upd_same (by decide) (.cons (rstr "a") .nil)⟩ ⟨_, rfl, iteT ?_⟩
      generalize upd Hz q3 _ = H10
      refine fun p hp => ⟨lx 1 (by decide), fun r1 hr1 => ⟨lx 2 (by decide), fun r2 hr2 => ?_⟩⟩
      have a1 := same_new (o := .tup [.str "a"]) hr1
      have a2 := same_new (o := .tup [.str "b", .ref r1]) hr2
      have rb : Rep (upd (upd (upd H10 p (.dK [])) r1 (.tup [.str "a"])) r2 (.tup [.str "b", .ref r1])) (.ref r2) tBA := .tup upd_same (by show 2 ≤ 100; decide) (.cons (rstr "b") (.cons (.tup (a2 _ _ upd_same) (by decide) (.cons (rstr "a") .nil)) .nil))
      have ep := (a1.trans a2) p _ upd_same
      generalize upd (upd (upd H10 p (.dK [])) r1 (.tup [.str "a"])) r2 (.tup [.str "b", .ref r1]) = H11 at rb ep ⊢
      have wb := Wk.dK_upd ep (putK [] (Sum.inr "?x") (.ref r2))
      refine ⟨ep, [(Sum.inr "?x", .ref r2)], rfl, by show 1 ≤ 15; decide, .str "?x", .str "?x", p, putK [] (Sum.inr "?x") (.ref r2), fun z => if z = "?x" then some tBA else none, true, rfl, rstr "?x", upd_same, fun z => ?_, fun fo2 Hw sw ho2 => ?_⟩
      · by_cases e : z = "?x"
        · subst e
          exact .inr ⟨tBA, .ref r2, if_pos rfl, by rw [valV_put, if_pos rfl], rb.wk wb⟩
        · exact .inl ⟨if_neg e, by rw [valV_put, if_neg (fun x => e (Sum.inr.inj x))]; rfl⟩
      · rw [out_x (t := tBA) (if_pos rfl) (by decide +kernel)] at ho2
        refine ⟨lx 1 (by decide), fun z1 hz1 => ⟨lx 2 (by decide), fun z2 hz2 => ?_⟩⟩
        have b1 := same_new (o := .tup [.str "a"]) hz1
        have b2 := same_new (o := .tup [.str "b", .ref z1]) hz2
        exact out_eq (o := .term tBA) (ho2.same (b1.trans b2)) ⟨ho2.1, .tup upd_same (by show 2 ≤ 100; decide) (.cons (rstr "b") (.cons (.tup (b2 _ _ upd_same) (by decide) (.cons (rstr "a") .nil)) .nil))⟩ (q _)
end
theorem law_end {P : Program} {w : World} {K : PySem.W.Frag} {mg : Str → Option Value} {fa : Addr} (T : Tx K mg) (Z : ProgF P) (hfa : mg "law" = some (.ref fa)) :
    ∃ fd : FuncData, (∀ (s : Shared) (v : Value), BindsTo s fd ⟨[v], []⟩ [("_law_script", v)]) ∧ ∀ base : Heap, K.In base → base.Ns mainGlobals mg → FnOk P w K mg base CX0 16 fa fd ["_law_script"] (sp_law K) := by
  obtain ⟨f', fd', F', m', b'⟩ := T.d_law.ex
  rw [hfa] at m'
  cases m'
  obtain ⟨oc', od', kV, doc, pm, an, cdv, ct, osl', rfl, lk', _⟩ := F'.ex
  refine ⟨PySem.W.fnOf "law" "law" (defArgs s_law) (defBody s_law) (defScope s_law) .none kV doc pm an cdv ct, fun s v => .of_eq rfl, fun base _ _ => ?_⟩
  obtain ⟨f, fd, F, m, kp, b, oc, od, osl, lk⟩ := (c_law (P := P) (w := w) (base := base) T Z).ex
  rw [hfa] at m
  cases m
  rw [lk'] at lk
  cases lk
  exact F
end Kt
open PySem PySem.W PyProof.Rows
set_option maxRecDepth 100000 in
set_option maxHeartbeats 0 in
theorem PySem.Challenge.cw_likematch_k03_patterns_filled_holds : PySem.Challenge.rw_likematch_k03_patterns_filled.Holds := by
  w_on; o_law; k_head; (case hw => w_witness2)
  k_fill
  refine L2.walk_of (l := PySem.Challenge.rw_likematch_k03_patterns_filled) (n := 63) (k := 16) (x := "_law_script") (CX := fun _ => L2.CX0) (sp := fun w => Kt.sp_law _) rfl (by decide) rfl ⟨rfl, by decide, by decide⟩ (fun w h Y => PySem.W.kIn_of Y) ?F (fun _ _ a ns hl _ hS => ⟨a, ns, rfl, hS, hl, fun _ => rfl⟩) (fun _ _ _ _ _ h => h)
  case F =>
    intro w mg fa h KX G hmg
    refine Kt.law_end ?T ⟨by decide +kernel, by decide +kernel⟩ hmg
    case T =>
      refine' Kt.all_tx KX G ?a0 ?l0 ?c0 ?k0 ?a1 ?l1 ?c1 ?k1 ?a2 ?l2 ?c2 ?k2 ?a3 ?l3 ?c3 ?k3 ?a4 ?l4 ?c4 ?k4 ?a5 ?l5 ?c5 ?k5 ?a6 ?l6 ?c6 ?k6 ?a7 ?l7 ?c7 ?k7 ?a8 ?l8 ?c8 ?k8 ?a9 ?l9 ?c9 ?k9 ?a10 ?l10 ?c10 ?k10 ?a11 ?l11 ?c11 ?k11 ?a12 ?l12 ?c12 ?k12 ?a13 ?l13 ?c13 ?k13 ?a14 ?l14 ?c14 ?k14 ?a15 ?l15 ?c15 ?k15 ?a16 ?l16 ?c16 ?k16 ?a17 ?l17 ?c17 ?k17 ?a18 ?l18 ?c18 ?k18 ?a19 ?l19 ?c19 ?k19 ?a20 ?l20 ?c20 ?k20 ?a21 ?l21 ?c21 ?k21 ?a22 ?l22 ?c22 ?k22 ?a23 ?l23 ?c23 ?k23 ?a24 ?l24 ?c24 ?k24 ?a25 ?l25 ?c25 ?k25 ?m0 ?m1 ?m2 ?m3 ?m4 ?m5 ?z0 ?z1 ?z2 ?z3 ?z4 ?z5 ?z6 ?z7 ?z8 ?z9 ?z10 ?z11 ?z12 ?ea0 ?eb0 ?et0 ?ei0 ?es0 ?ea1 ?eb1 ?et1 ?ei1 ?es1 ?ea2 ?eb2 ?et2 ?ei2 ?es2 ?ea3 ?eb3 ?et3 ?ei3 ?es3 ?ra ?rm ?rs ?ri ?rl ?re ?rh ?rz ?rda ?rbd ?rbe ?rev ?rlc ?rv2 ?rlx ?rnl ?rty ?mesa0 ?mesx0 ?mesd0 ?mesq0 ?mesb0 ?mest0 ?mesk0 ?mesm0 ?mesp0 ?mesv0 ?meso0 ?mesf0 ?mesi0 ?meng0 ?menh0 ?menj0 ?menu0 ?menw0 ?meno0 ?menr0 ?meny0 ?menl0 ?menz0 ?mesa1 ?mesx1 ?mesd1 ?mesq1 ?mesb1 ?mest1 ?mesk1 ?mesm1 ?mesp1 ?mesv1 ?meso1 ?mesf1 ?mesi1 ?meng1 ?menh1 ?menj1 ?menu1 ?menw1 ?meno1 ?menr1 ?meny1 ?menl1 ?menz1 ?mesa2 ?mesx2 ?mesd2 ?mesq2 ?mesb2 ?mest2 ?mesk2 ?mesm2 ?mesp2 ?mesv2 ?meso2 ?mesf2 ?mesi2 ?meng2 ?menh2 ?menj2 ?menu2 ?menw2 ?meno2 ?menr2 ?meny2 ?menl2 ?menz2 ?mesa3 ?mesx3 ?mesd3 ?mesq3 ?mesb3 ?mest3 ?mesk3 ?mesm3 ?mesp3 ?mesv3 ?meso3 ?mesf3 ?meng3 ?menh3 ?menj3 ?menu3 ?menw3 ?meno3 ?menr3 ?meny3 ?menl3 ?menz3 ?miui3 ?miul3 ?miue3 ?miuh3 ?miuz3 ?miubd3 ?miuev3 ?miulc3 ?miuv23 ?miulx3 ?miuty3 ?miup3 ?miuf3 ?mium3 ?miuo3 ?xg0 ?xk0 ?xs0 ?xd0 ?xa0 ?xn0 ?xt0 ?xm0 ?xg1 ?xk1 ?xs1 ?xd1 ?xa1 ?xn1 ?xt1 ?xm1 ?xg2 ?xk2 ?xs2 ?xd2 ?xa2 ?xn2 ?xt2 ?xm2 ?xg3 ?xk3 ?xs3 ?xd3 ?xa3 ?xn3 ?xt3 ?xm3 ?kt0 ?kt1 ?kt2 ?kt3 ?kt4 ?kt5 ?kt6 ?kt7 ?kt8 ?kt9 ?kt10 ?kt11 ?kt12 ?kt13 ?kt14 ?kt15 ?kt16 ?kt17 ?kt18 ?kt19 ?kt20 ?kt21 ?kt22 ?kt23
      (case a0 => k_is)
      (case l0 => k_is)
      (case c0 => k_is)
      (case k0 => k_is)
      (case a1 => k_is)
      (case l1 => k_is)
      (case c1 => k_is)
      (case k1 => k_is)
      (case a2 => k_is)
      (case l2 => k_is)
      (case c2 => k_is)
      (case k2 => k_is)
      (case a3 => k_is)
      (case l3 => k_is)
      (case c3 => k_is)
      (case k3 => k_is)
      (case a4 => k_is)
      (case l4 => k_is)
      (case c4 => k_is)
      (case k4 => k_is)
      (case a5 => k_is)
      (case l5 => k_is)
      (case c5 => k_is)
      (case k5 => k_is)
      (case a6 => k_is)
      (case l6 => k_is)
      (case c6 => k_is)
      (case k6 => k_is)
      (case a7 => k_is)
      (case l7 => k_is)
      (case c7 => k_is)
      (case k7 => k_is)
      (case a8 => k_is)
      (case l8 => k_is)
      (case c8 => k_is)
      (case k8 => k_is)
      (case a9 => k_is)
      (case l9 => k_is)
      (case c9 => k_is)
      (case k9 => k_is)
      (case a10 => k_is)
      (case l10 => k_is)
      (case c10 => k_is)
      (case k10 => k_is)
      (case a11 => k_is)
      (case l11 => k_is)
      (case c11 => k_is)
      (case k11 => k_is)
      (case a12 => k_is)
      (case l12 => k_is)
      (case c12 => k_is)
      (case k12 => k_is)
      (case a13 => k_is)
      (case l13 => k_is)
      (case c13 => k_is)
      (case k13 => k_is)
      (case a14 => k_is)
      (case l14 => k_is)
      (case c14 => k_is)
      (case k14 => k_is)
      (case a15 => k_is)
      (case l15 => k_is)
      (case c15 => k_is)
      (case k15 => k_is)
      (case a16 => k_is)
      (case l16 => k_is)
      (case c16 => k_is)
      (case k16 => k_is)
      (case a17 => k_is)
      (case l17 => k_is)
      (case c17 => k_is)
      (case k17 => k_is)
      (case a18 => k_is)
      (case l18 => k_is)
      (case c18 => k_is)
      (case k18 => k_is)
      (case a19 => k_is)
      (case l19 => k_is)
      (case c19 => k_is)
      (case k19 => k_is)
      (case a20 => k_is)
      (case l20 => k_is)
      (case c20 => k_is)
      (case k20 => k_is)
      (case a21 => k_is)
      (case l21 => k_is)
      (case c21 => k_is)
      (case k21 => k_is)
      (case a22 => k_is)
      (case l22 => k_is)
      (case c22 => k_is)
      (case k22 => k_is)
      (case a23 => k_is)
      (case l23 => k_is)
      (case c23 => k_is)
      (case k23 => k_is)
      (case a24 => k_is)
      (case l24 => k_is)
      (case c24 => k_is)
      (case k24 => k_is)
      (case a25 => k_is)
      (case l25 => k_is)
      (case c25 => k_is)
      (case k25 => k_is)
      (case m0 => k_is)
      (case m1 => k_is)
      (case m2 => k_is)
      (case m3 => k_is)
      (case m4 => k_is)
      (case m5 => k_is)
      (case z0 => k_is)
      (case z1 => k_is)
      (case z2 => k_is)
      (case z3 => k_is)
      (case z4 => k_is)
      (case z5 => k_is)
      (case z6 => k_is)
      (case z7 => k_is)
      (case z8 => k_is)
      (case z9 => k_is)
      (case z10 => k_is)
      (case z11 => k_is)
      (case z12 => k_is)
      (case ea0 => k_is)
      (case eb0 => k_is)
      (case et0 => k_is)
      (case ei0 => k_is)
      (case es0 => first | rfl | k_is)
      (case ea1 => k_is)
      (case eb1 => k_is)
      (case et1 => k_is)
      (case ei1 => k_is)
      (case es1 => first | rfl | k_is)
      (case ea2 => k_is)
      (case eb2 => k_is)
      (case et2 => k_is)
      (case ei2 => k_is)
      (case es2 => first | rfl | k_is)
      (case ea3 => k_is)
      (case eb3 => k_is)
      (case et3 => k_is)
      (case ei3 => k_is)
      (case es3 => first | rfl | k_is)
      (case ra => first | k_is | rfl | exact fun _ => rfl | exact fun _ _ => rfl)
      (case rm => first | k_is | rfl | exact fun _ => rfl | exact fun _ _ => rfl)
      (case rs => first | k_is | rfl | exact fun _ => rfl | exact fun _ _ => rfl)
      (case ri => first | k_is | rfl | exact fun _ => rfl | exact fun _ _ => rfl)
      (case rl => first | k_is | rfl | exact fun _ => rfl | exact fun _ _ => rfl)
      (case re => first | k_is | rfl | exact fun _ => rfl | exact fun _ _ => rfl)
      (case rh => first | k_is | rfl | exact fun _ => rfl | exact fun _ _ => rfl)
      (case rz => first | k_is | rfl | exact fun _ => rfl | exact fun _ _ => rfl)
      (case rda => first | k_is | rfl | exact fun _ => rfl | exact fun _ _ => rfl)
      (case rbd => first | k_is | rfl | exact fun _ => rfl | exact fun _ _ => rfl)
      (case rbe => first | k_is | rfl | exact fun _ => rfl | exact fun _ _ => rfl)
      (case rev => first | k_is | rfl | exact fun _ => rfl | exact fun _ _ => rfl)
      (case rlc => first | k_is | rfl | exact fun _ => rfl | exact fun _ _ => rfl)
      (case rv2 => first | k_is | rfl | exact fun _ => rfl | exact fun _ _ => rfl)
      (case rlx => first | k_is | rfl | exact fun _ => rfl | exact fun _ _ => rfl)
      (case rnl => first | k_is | rfl | exact fun _ => rfl | exact fun _ _ => rfl)
      (case rty => first | k_is | rfl | exact fun _ => rfl | exact fun _ _ => rfl)
      (case mesa0 => first | k_is | rfl | exact fun _ => rfl | exact fun _ _ => rfl)
      (case mesx0 => first | k_is | rfl | exact fun _ => rfl | exact fun _ _ => rfl)
      (case mesd0 => first | k_is | rfl | exact fun _ => rfl | exact fun _ _ => rfl)
      (case mesq0 => first | k_is | rfl | exact fun _ => rfl | exact fun _ _ => rfl)
      (case mesb0 => first | k_is | rfl | exact fun _ => rfl | exact fun _ _ => rfl)
      (case mest0 => first | k_is | rfl | exact fun _ => rfl | exact fun _ _ => rfl)
      (case mesk0 => first | k_is | rfl | exact fun _ => rfl | exact fun _ _ => rfl)
      (case mesm0 => first | k_is | rfl | exact fun _ => rfl | exact fun _ _ => rfl)
      (case mesp0 => first | k_is | rfl | exact fun _ => rfl | exact fun _ _ => rfl)
      (case mesv0 => first | k_is | rfl | exact fun _ => rfl | exact fun _ _ => rfl)
      (case meso0 => first | k_is | rfl | exact fun _ => rfl | exact fun _ _ => rfl)
      (case mesf0 => first | k_is | rfl | exact fun _ => rfl | exact fun _ _ => rfl)
      (case mesi0 => first | k_is | rfl | exact fun _ => rfl | exact fun _ _ => rfl)
      (case meng0 => first | k_is | rfl | exact fun _ => rfl | exact fun _ _ => rfl)
      (case menh0 => first | k_is | rfl | exact fun _ => rfl | exact fun _ _ => rfl)
      (case menj0 => first | k_is | rfl | exact fun _ => rfl | exact fun _ _ => rfl)
      (case menu0 => first | k_is | rfl | exact fun _ => rfl | exact fun _ _ => rfl)
      (case menw0 => first | k_is | rfl | exact fun _ => rfl | exact fun _ _ => rfl)
      (case meno0 => first | k_is | rfl | exact fun _ => rfl | exact fun _ _ => rfl)
      (case menr0 => first | k_is | rfl | exact fun _ => rfl | exact fun _ _ => rfl)
      (case meny0 => first | k_is | rfl | exact fun _ => rfl | exact fun _ _ => rfl)
      (case menl0 => first | k_is | rfl | exact fun _ => rfl | exact fun _ _ => rfl)
      (case menz0 => first | k_is | rfl | exact fun _ => rfl | exact fun _ _ => rfl)
      (case mesa1 => first | k_is | rfl | exact fun _ => rfl | exact fun _ _ => rfl)
      (case mesx1 => first | k_is | rfl | exact fun _ => rfl | exact fun _ _ => rfl)
      (case mesd1 => first | k_is | rfl | exact fun _ => rfl | exact fun _ _ => rfl)
      (case mesq1 => first | k_is | rfl | exact fun _ => rfl | exact fun _ _ => rfl)
      (case mesb1 => first | k_is | rfl | exact fun _ => rfl | exact fun _ _ => rfl)
      (case mest1 => first | k_is | rfl | exact fun _ => rfl | exact fun _ _ => rfl)
      (case mesk1 => first | k_is | rfl | exact fun _ => rfl | exact fun _ _ => rfl)
      (case mesm1 => first | k_is | rfl | exact fun _ => rfl | exact fun _ _ => rfl)
      (case mesp1 => first | k_is | rfl | exact fun _ => rfl | exact fun _ _ => rfl)
      (case mesv1 => first | k_is | rfl | exact fun _ => rfl | exact fun _ _ => rfl)
      (case meso1 => first | k_is | rfl | exact fun _ => rfl | exact fun _ _ => rfl)
      (case mesf1 => first | k_is | rfl | exact fun _ => rfl | exact fun _ _ => rfl)
      (case mesi1 => first | k_is | rfl | exact fun _ => rfl | exact fun _ _ => rfl)
      (case meng1 => first | k_is | rfl | exact fun _ => rfl | exact fun _ _ => rfl)
      (case menh1 => first | k_is | rfl | exact fun _ => rfl | exact fun _ _ => rfl)
      (case menj1 => first | k_is | rfl | exact fun _ => rfl | exact fun _ _ => rfl)
      (case menu1 => first | k_is | rfl | exact fun _ => rfl | exact fun _ _ => rfl)
      (case menw1 => first | k_is | rfl | exact fun _ => rfl | exact fun _ _ => rfl)
      (case meno1 => first | k_is | rfl | exact fun _ => rfl | exact fun _ _ => rfl)
      (case menr1 => first | k_is | rfl | exact fun _ => rfl | exact fun _ _ => rfl)
      (case meny1 => first | k_is | rfl | exact fun _ => rfl | exact fun _ _ => rfl)
      (case menl1 => first | k_is | rfl | exact fun _ => rfl | exact fun _ _ => rfl)
      (case menz1 => first | k_is | rfl | exact fun _ => rfl | exact fun _ _ => rfl)
      (case mesa2 => first | k_is | rfl | exact fun _ => rfl | exact fun _ _ => rfl)
      (case mesx2 => first | k_is | rfl | exact fun _ => rfl | exact fun _ _ => rfl)
      (case mesd2 => first | k_is | rfl | exact fun _ => rfl | exact fun _ _ => rfl)
      (case mesq2 => first | k_is | rfl | exact fun _ => rfl | exact fun _ _ => rfl)
      (case mesb2 => first | k_is | rfl | exact fun _ => rfl | exact fun _ _ => rfl)
      (case mest2 => first | k_is | rfl | exact fun _ => rfl | exact fun _ _ => rfl)
      (case mesk2 => first | k_is | rfl | exact fun _ => rfl | exact fun _ _ => rfl)
      (case mesm2 => first | k_is | rfl | exact fun _ => rfl | exact fun _ _ => rfl)
      (case mesp2 => first | k_is | rfl | exact fun _ => rfl | exact fun _ _ => rfl)
      (case mesv2 => first | k_is | rfl | exact fun _ => rfl | exact fun _ _ => rfl)
      (case meso2 => first | k_is | rfl | exact fun _ => rfl | exact fun _ _ => rfl)
      (case mesf2 => first | k_is | rfl | exact fun _ => rfl | exact fun _ _ => rfl)
      (case mesi2 => first | k_is | rfl | exact fun _ => rfl | exact fun _ _ => rfl)
      (case meng2 => first | k_is | rfl | exact fun _ => rfl | exact fun _ _ => rfl)
      (case menh2 => first | k_is | rfl | exact fun _ => rfl | exact fun _ _ => rfl)
      (case menj2 => first | k_is | rfl | exact fun _ => rfl | exact fun _ _ => rfl)
      (case menu2 => first | k_is | rfl | exact fun _ => rfl | exact fun _ _ => rfl)
      (case menw2 => first | k_is | rfl | exact fun _ => rfl | exact fun _ _ => rfl)
      (case meno2 => first | k_is | rfl | exact fun _ => rfl | exact fun _ _ => rfl)
      (case menr2 => first | k_is | rfl | exact fun _ => rfl | exact fun _ _ => rfl)
      (case meny2 => first | k_is | rfl | exact fun _ => rfl | exact fun _ _ => rfl)
      (case menl2 => first | k_is | rfl | exact fun _ => rfl | exact fun _ _ => rfl)
      (case menz2 => first | k_is | rfl | exact fun _ => rfl | exact fun _ _ => rfl)
      (case mesa3 => first | k_is | rfl | exact fun _ => rfl | exact fun _ _ => rfl)
      (case mesx3 => first | k_is | rfl | exact fun _ => rfl | exact fun _ _ => rfl)
      (case mesd3 => first | k_is | rfl | exact fun _ => rfl | exact fun _ _ => rfl)
      (case mesq3 => first | k_is | rfl | exact fun _ => rfl | exact fun _ _ => rfl)
      (case mesb3 => first | k_is | rfl | exact fun _ => rfl | exact fun _ _ => rfl)
      (case mest3 => first | k_is | rfl | exact fun _ => rfl | exact fun _ _ => rfl)
      (case mesk3 => first | k_is | rfl | exact fun _ => rfl | exact fun _ _ => rfl)
      (case mesm3 => first | k_is | rfl | exact fun _ => rfl | exact fun _ _ => rfl)
      (case mesp3 => first | k_is | rfl | exact fun _ => rfl | exact fun _ _ => rfl)
      (case mesv3 => first | k_is | rfl | exact fun _ => rfl | exact fun _ _ => rfl)
      (case meso3 => first | k_is | rfl | exact fun _ => rfl | exact fun _ _ => rfl)
      (case mesf3 => first | k_is | rfl | exact fun _ => rfl | exact fun _ _ => rfl)
      (case meng3 => first | k_is | rfl | exact fun _ => rfl | exact fun _ _ => rfl)
      (case menh3 => first | k_is | rfl | exact fun _ => rfl | exact fun _ _ => rfl)
      (case menj3 => first | k_is | rfl | exact fun _ => rfl | exact fun _ _ => rfl)
      (case menu3 => first | k_is | rfl | exact fun _ => rfl | exact fun _ _ => rfl)
      (case menw3 => first | k_is | rfl | exact fun _ => rfl | exact fun _ _ => rfl)
      (case meno3 => first | k_is | rfl | exact fun _ => rfl | exact fun _ _ => rfl)
      (case menr3 => first | k_is | rfl | exact fun _ => rfl | exact fun _ _ => rfl)
      (case meny3 => first | k_is | rfl | exact fun _ => rfl | exact fun _ _ => rfl)
      (case menl3 => first | k_is | rfl | exact fun _ => rfl | exact fun _ _ => rfl)
      (case menz3 => first | k_is | rfl | exact fun _ => rfl | exact fun _ _ => rfl)
      (case miui3 => first | k_is | rfl | exact fun _ => rfl | exact fun _ _ => rfl)
      (case miul3 => first | k_is | rfl | exact fun _ => rfl | exact fun _ _ => rfl)
      (case miue3 => first | k_is | rfl | exact fun _ => rfl | exact fun _ _ => rfl)
      (case miuh3 => first | k_is | rfl | exact fun _ => rfl | exact fun _ _ => rfl)
      (case miuz3 => first | k_is | rfl | exact fun _ => rfl | exact fun _ _ => rfl)
      (case miubd3 => first | k_is | rfl | exact fun _ => rfl | exact fun _ _ => rfl)
      (case miuev3 => first | k_is | rfl | exact fun _ => rfl | exact fun _ _ => rfl)
      (case miulc3 => first | k_is | rfl | exact fun _ => rfl | exact fun _ _ => rfl)
      (case miuv23 => first | k_is | rfl | exact fun _ => rfl | exact fun _ _ => rfl)
      (case miulx3 => first | k_is | rfl | exact fun _ => rfl | exact fun _ _ => rfl)
      (case miuty3 => first | k_is | rfl | exact fun _ => rfl | exact fun _ _ => rfl)
      (case miup3 => first | k_is | rfl | exact fun _ => rfl | exact fun _ _ => rfl)
      (case miuf3 => first | k_is | rfl | exact fun _ => rfl | exact fun _ _ => rfl)
      (case mium3 => first | k_is | rfl | exact fun _ => rfl | exact fun _ _ => rfl)
      (case miuo3 => first | k_is | rfl | exact fun _ => rfl | exact fun _ _ => rfl)
      (case xg0 => first | k_is | rfl | exact fun _ => rfl | exact fun _ _ => rfl)
      (case xk0 => first | k_is | rfl | exact fun _ => rfl | exact fun _ _ => rfl)
      (case xs0 => first | k_is | rfl | exact fun _ => rfl | exact fun _ _ => rfl)
      (case xd0 => first | k_is | rfl | exact fun _ => rfl | exact fun _ _ => rfl)
      (case xa0 => first | k_is | rfl | exact fun _ => rfl | exact fun _ _ => rfl)
      (case xn0 => first | k_is | rfl | exact fun _ => rfl | exact fun _ _ => rfl)
      (case xt0 => first | k_is | rfl | exact fun _ => rfl | exact fun _ _ => rfl)
      (case xm0 => first | k_is | rfl | exact fun _ => rfl | exact fun _ _ => rfl)
      (case xg1 => first | k_is | rfl | exact fun _ => rfl | exact fun _ _ => rfl)
      (case xk1 => first | k_is | rfl | exact fun _ => rfl | exact fun _ _ => rfl)
      (case xs1 => first | k_is | rfl | exact fun _ => rfl | exact fun _ _ => rfl)
      (case xd1 => first | k_is | rfl | exact fun _ => rfl | exact fun _ _ => rfl)
      (case xa1 => first | k_is | rfl | exact fun _ => rfl | exact fun _ _ => rfl)
      (case xn1 => first | k_is | rfl | exact fun _ => rfl | exact fun _ _ => rfl)
      (case xt1 => first | k_is | rfl | exact fun _ => rfl | exact fun _ _ => rfl)
      (case xm1 => first | k_is | rfl | exact fun _ => rfl | exact fun _ _ => rfl)
      (case xg2 => first | k_is | rfl | exact fun _ => rfl | exact fun _ _ => rfl)
      (case xk2 => first | k_is | rfl | exact fun _ => rfl | exact fun _ _ => rfl)
      (case xs2 => first | k_is | rfl | exact fun _ => rfl | exact fun _ _ => rfl)
      (case xd2 => first | k_is | rfl | exact fun _ => rfl | exact fun _ _ => rfl)
      (case xa2 => first | k_is | rfl | exact fun _ => rfl | exact fun _ _ => rfl)
      (case xn2 => first | k_is | rfl | exact fun _ => rfl | exact fun _ _ => rfl)
      (case xt2 => first | k_is | rfl | exact fun _ => rfl | exact fun _ _ => rfl)
      (case xm2 => first | k_is | rfl | exact fun _ => rfl | exact fun _ _ => rfl)
      (case xg3 => first | k_is | rfl | exact fun _ => rfl | exact fun _ _ => rfl)
      (case xk3 => first | k_is | rfl | exact fun _ => rfl | exact fun _ _ => rfl)
      (case xs3 => first | k_is | rfl | exact fun _ => rfl | exact fun _ _ => rfl)
      (case xd3 => first | k_is | rfl | exact fun _ => rfl | exact fun _ _ => rfl)
      (case xa3 => first | k_is | rfl | exact fun _ => rfl | exact fun _ _ => rfl)
      (case xn3 => first | k_is | rfl | exact fun _ => rfl | exact fun _ _ => rfl)
      (case xt3 => first | k_is | rfl | exact fun _ => rfl | exact fun _ _ => rfl)
      (case xm3 => first | k_is | rfl | exact fun _ => rfl | exact fun _ _ => rfl)
      (case kt0 => first | k_is | rfl | exact fun _ => rfl | exact fun _ _ => rfl)
      (case kt1 => first | k_is | rfl | exact fun _ => rfl | exact fun _ _ => rfl)
      (case kt2 => first | k_is | rfl | exact fun _ => rfl | exact fun _ _ => rfl)
      (case kt3 => first | k_is | rfl | exact fun _ => rfl | exact fun _ _ => rfl)
      (case kt4 => first | k_is | rfl | exact fun _ => rfl | exact fun _ _ => rfl)
      (case kt5 => first | k_is | rfl | exact fun _ => rfl | exact fun _ _ => rfl)
      (case kt6 => first | k_is | rfl | exact fun _ => rfl | exact fun _ _ => rfl)
      (case kt7 => first | k_is | rfl | exact fun _ => rfl | exact fun _ _ => rfl)
      (case kt8 => first | k_is | rfl | exact fun _ => rfl | exact fun _ _ => rfl)
      (case kt9 => first | k_is | rfl | exact fun _ => rfl | exact fun _ _ => rfl)
      (case kt10 => first | k_is | rfl | exact fun _ => rfl | exact fun _ _ => rfl)
      (case kt11 => first | k_is | rfl | exact fun _ => rfl | exact fun _ _ => rfl)
      (case kt12 => first | k_is | rfl | exact fun _ => rfl | exact fun _ _ => rfl)
      (case kt13 => first | k_is | rfl | exact fun _ => rfl | exact fun _ _ => rfl)
      (case kt14 => first | k_is | rfl | exact fun _ => rfl | exact fun _ _ => rfl)
      (case kt15 => first | k_is | rfl | exact fun _ => rfl | exact fun _ _ => rfl)
      (case kt16 => first | k_is | rfl | exact fun _ => rfl | exact fun _ _ => rfl)
      (case kt17 => first | k_is | rfl | exact fun _ => rfl | exact fun _ _ => rfl)
      (case kt18 => first | k_is | rfl | exact fun _ => rfl | exact fun _ _ => rfl)
      (case kt19 => first | k_is | rfl | exact fun _ => rfl | exact fun _ _ => rfl)
      (case kt20 => first | k_is | rfl | exact fun _ => rfl | exact fun _ _ => rfl)
      (case kt21 => first | k_is | rfl | exact fun _ => rfl | exact fun _ _ => rfl)
      (case kt22 => first | k_is | rfl | exact fun _ => rfl | exact fun _ _ => rfl)
      (case kt23 => first | k_is | rfl | exact fun _ => rfl | exact fun _ _ => rfl)
