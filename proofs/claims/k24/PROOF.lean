import PyProof.Rows.All
import Wide.All
import OpenK.AllK
import Wide.FinOn
import HandS.ForMost
import HandS.IsInst
import HandS.TupAny
import HandS.TupMul
import HandS.Conv
import HandS.Walk
import HandS.Evl
import HandS.ForExc
import HandS.DictComp
import HandS.FStr
import HandS.ExcIs
import HandS.ExcValue
import KE.KExcSuper
import HandS.ExcInit
import KE.KExcIs
import KE.KTypeName
import KE.KeyNested
import PyProof.DictMoreH
import KE.KDictWalk
import HandS.Iter
import KE.KDictKeyed
import HandS.Dict
import PyProof.ReprRoads
import PyProof.ReprBulk
import HandS.Small
import HandS.More
import HandS.Deep
import PySem.Challenge.RW_likematch_k24_values_and_what_tables_kee
set_option Elab.async false
set_option linter.all false
set_option maxRecDepth 100000
set_option maxHeartbeats 2100000
/-! Kt0: calls of own defs by name; what lets the heap grow. -/
namespace Kt
open PySem PySem.Spec PyProof.Rows L2

/-! ### a def of the text -/
/-- the def x stands at some address, and its parameters bind by place -/
structure Dx (K : PySem.W.Frag) (mg : Str → Option Value) (x : Str) (st : Stmt) (ps : List Str) : Prop where
  ex : ∃ (f : Addr) (fd : FuncData), Fun K x x st f fd ∧ mg x = some (.ref f) ∧ Binds K fd ps []
/-- a def that may be called -/
structure Cl (P : Program) (w : World) (K : PySem.W.Frag) (mg : Str → Option Value) (base : Heap) (CX : CXT) (k : Nat) (x : Str) (ps : List Str) (sp : Sp) : Prop where
  ex : ∃ (f : Addr) (fd : FuncData), FnOk P w K mg base CX k f fd ps sp ∧ mg x = some (.ref f) ∧ PySem.W.keepIn K (.ref f) = true ∧ Binds K fd ps [] ∧ ∃ (oc : Value) (od : Option Addr) (osl : Array (Option Value)), K.lookup f = some ⟨oc, od, .func fd, osl⟩
section
variable {P : Program} {w : World} {K : PySem.W.Frag} {mg : Str → Option Value} {base : Heap} {x : Str} {st : Stmt} {N ps : List Str} {k : Nat} {sp : Sp}
theorem Fun.at {f : Addr} {fd : FuncData} (F : Fun K x x st f fd) : ∃ (oc : Value) (od : Option Addr) (osl : Array (Option Value)), K.lookup f = some ⟨oc, od, .func fd, osl⟩ := by
  obtain ⟨oc, od, kV, doc, pm, an, cdv, ct, osl, _, lk, _⟩ := F.ex
  exact ⟨oc, od, osl, lk⟩
theorem Cl.mono {CX : CXT} {j : Nat} (c : Cl P w K mg base CX j x ps sp) (h : j ≤ k) : Cl P w K mg base CX k x ps sp := by
  obtain ⟨f, fd, F, r⟩ := c.ex
  exact ⟨f, fd, F.mono h, r⟩
/-- THE RULE: a def by its body -/
theorem Cl.mk0 (D : Dx K mg x st ps) (S : FnScope N ps (defScope st)) (len : ∀ vs H Q E, sp vs H Q E → vs.length = ps.length)
    (hbody : ∀ (f : Addr) (cdv : Value) (A : Around) (outer : List Env) (s : Shared) (H : Hp) (vs : List V) (Q : VK) (E : XK), Room k (A.deeper (envOfC x (defScope st) s.heap.objs.size f cdv)) → sp vs H Q E →
      ∃ t, PSs (cxOf CX0 P w K mg base N x (defScope st) f cdv A outer s H E).nox (defBody st) t ∧ t { nx := fun _ H' => Q .non H', rt := Q } (start N vs) H) : Cl P w K mg base CX0 (k + 1) x ps sp := by
  obtain ⟨f, fd, F, m, b⟩ := D.ex
  exact ⟨f, fd, F.ok S len (hbody f), m, F.kp, b, Fun.at F⟩
/-- nothing can be asked of it -/
theorem Cl.no (D : Dx K mg x st ps) (h : ∀ vs H Q E, ¬ sp vs H Q E) {CX : CXT} : Cl P w K mg base CX k x ps sp := by
  obtain ⟨f, fd, F, m, b⟩ := D.ex
  exact ⟨f, fd, ⟨fun vs H Q E q => absurd q (h vs H Q E), fun A outer s H args us vs Q E _ _ _ _ q => absurd q (h vs H Q E)⟩, m, F.kp, b, Fun.at F⟩
end
/-- f(..) of an own def -/
def tC0 (sp : Sp) (E : XK) (t : TA) : TE := fun σ H Q => t σ H fun vs H1 => sp vs H1 Q E
section
variable {X : Cx} {k j : Nat} {x : Str} {ps : List Str} {sp : Sp} {p pos : Pos} {e : Expr} {es : List Expr} {t : TA}
theorem pe_cl (c : Cl X.prog X.w X.K X.mg X.base CX0 k x ps sp) (hr : Room j X.A) (hk : k ≤ j) (hg : Gl X x) (ha : PA X (e :: es) t)
    (hdb : (x == ("__debug__" : Str)) = false := by decide) (he : starEach (e :: es) X.env = (false, eval e X.env) :: starEach es X.env := by rfl) (hpl : (backTo pos (starEach es X.env)).any (·.1) = false := by rfl) :
    PE X (.Call (.Name x p) (e :: es) [] pos) (tC0 sp E0 t) := by
  obtain ⟨f, fd, F, hm, kp, b, _⟩ := c.ex
  refine ⟨fun pins s σ H Q I h => ?_⟩
  refine (pe_call F (hr.mono hk) hg hm kp b .nil pass0 ha hdb he hpl).run pins s σ H Q I ?_
  refine cast ?_ h
  show tC0 sp E0 t σ H Q = t σ H (fun vs H1 => sp (vs ++ []) H1 Q E0)
  simp only [List.append_nil]
  rfl
end
/-- f(x = ..) by its only parameter's name -/
structure ClK (P : Program) (w : World) (K : PySem.W.Frag) (mg : Str → Option Value) (base : Heap) (CX : CXT) (k : Nat) (x : Str) (ps : List Str) (sp : Sp) : Prop where
  ex : ∃ (f : Addr) (fd : FuncData), FnOk P w K mg base CX k f fd ps sp ∧ mg x = some (.ref f) ∧ PySem.W.keepIn K (.ref f) = true ∧ ∀ (s : Shared) (us : List Value), us.length = ps.length → BindsTo s fd ⟨[], ps.zip us⟩ (ps.zip us)
/-- a def that may be called by place may be by its parameters' names -/
theorem Cl.kw {P : Program} {w : World} {K : PySem.W.Frag} {mg : Str → Option Value} {base : Heap} {CX : CXT} {x : Str} {st : Stmt} {ps : List Str} {k : Nat} {sp : Sp} (c : Cl P w K mg base CX k x ps sp) (D : Dx K mg x st ps)
    (h : ∀ (kV doc pm : Value) (an : Option Addr) (cdv ct : Value) (us : List Value), us.length = ps.length → bindArgs (PySem.W.fnOf x x (defArgs st) (defBody st) (defScope st) .none kV doc pm an cdv ct) ⟨[], ps.zip us⟩ = pure (ps.zip us)) : ClK P w K mg base CX k x ps sp := by
  obtain ⟨f, fd, F, m, kp, b, oc, od, osl, lk⟩ := c.ex
  obtain ⟨f', fd', F', m', b'⟩ := D.ex
  rw [m] at m'
  cases m'
  obtain ⟨oc', od', kV, doc, pm, an, cdv, ct, osl', rfl, lk', _⟩ := F'.ex
  rw [lk] at lk'
  cases lk'
  exact ⟨f, _, F, m, kp, fun s us hl => .of_eq (h kV doc pm an cdv ct us hl)⟩
section
variable {X : Cx} {k j : Nat} {x : Str} {ps : List Str} {sp : Sp} {p pos : Pos} {kws : List Keyword} {tk : TA}
def tCK (sp : Sp) (E : XK) (tk : TA) : TE := fun σ H Q => tk σ H fun zs H2 => sp zs H2 Q E
theorem pe_clK (c : ClK X.prog X.w X.K X.mg X.base CX0 k x ps sp) (hr : Room j X.A) (hk : k ≤ j) (hg : Gl X x) (hkw : PK X kws tk)
    (hall : (backToKw pos (keywordEach kws X.env)).all (·.1.isSome) = true := by rfl) (hks : (backToKw pos (keywordEach kws X.env)).filterMap (·.1) = ps := by rfl) (hdb : (x == ("__debug__" : Str)) = false := by decide)
    (hpl : ((backTo pos (starEach [] X.env)).any (·.1) || (backToKw pos (keywordEach kws X.env)).any (·.1.isNone)) = false := by rfl) :
    PE X (.Call (.Name x p) [] kws pos) (tCK sp E0 tk) := by
  obtain ⟨f, fd, F, hm, kp, b⟩ := c.ex
  refine ⟨fun pins s σ H Q I h => ?_⟩
  refine wpAny_Call_Name_kw (ld_glob I hg hm ?_ hdb)
  refine PySem.W.callWith_KW0 (h₀ := X.base) I.ok.mod.kin kp hall ?_ hpl
  refine thn (hkw.run pos pins s σ H _ I h) fun ws s2 ⟨zs, H2, I2, rz, q2⟩ => ⟨I2.kIn, ?_⟩
  rw [hks]
  have hl : ws.length = ps.length := by rw [← rz.length]; exact F.len _ _ _ _ q2
  refine wpAny_call (codeAny_mono (F.run X.A X.stack s2 H2 ⟨[], ps.zip ws⟩ ws zs Q E0 (hr.mono hk) I2.env0 (b s2 ws hl) rz q2) fun r s' hq => ?_)
  cases r with
  | error e => exact pass0 pins σ H2 s2 e s' I2 hq
  | ok fl =>
    cases fl with
    | ret u => exact I2.after hq
    | next => exact False.elim hq
    | brk => exact False.elim hq
    | cont => exact False.elim hq
end
/-! ### error classes of the text -/
/-- where a module's name stands -/
def clsA (mg : Str → Option Value) (x : Str) : Addr := match mg x with | some (.ref a) => a | _ => 0
/-- an own class of errors over ValueError, without an __init__ of its own -/
structure ExF (K : PySem.W.Frag) (mg : Str → Option Value) (x : Str) (C : Addr) : Prop where
  g : mg x = some (.ref C)
  x : PySem.W.excIn K C [.type "ValueError", .type "Exception", .type "BaseException", .type "object"] "ValueError.__new__" = true
  k : PySem.W.keepIn K (.ref C) = true
  b : PySem.W.subIn K (.ref C) (.type "BaseException") = some true
  t : PySem.W.typeIn K (.ref C) = some (.type "type")
  i : PySem.W.isClsIn K C = true
  s : PySem.W.subIn K (.ref C) (.ref C) = some true
theorem ExF.at {K : PySem.W.Frag} {mg : Str → Option Value} {x : Str} {C : Addr} (g : mg x = some (.ref C)) (e : PySem.W.excIn K C [.type "ValueError", .type "Exception", .type "BaseException", .type "object"] "ValueError.__new__" = true) (k : PySem.W.keepIn K (.ref C) = true)
    (b : PySem.W.subIn K (.ref C) (.type "BaseException") = some true) (t : PySem.W.typeIn K (.ref C) = some (.type "type")) (i : PySem.W.isClsIn K C = true) (s : PySem.W.subIn K (.ref C) (.ref C) = some true) : ExF K mg x (clsA mg x) := by
  have e0 : clsA mg x = C := by
    unfold clsA
    rw [g]
  rw [e0]
  exact ⟨g, e, k, b, t, i, s⟩
section
variable {P : Program} {w : World} {K : PySem.W.Frag} {mg : Str → Option Value} {base : Heap} {x : Str} {st : Stmt} {N ps : List Str} {k : Nat} {sp : Sp}
/-- a def that may raise, by its body -/
theorem Cl.mkX (D : Dx K mg x st ps) (S : FnScope N ps (defScope st)) (len : ∀ vs H Q E, sp vs H Q E → vs.length = ps.length)
    (hbody : ∀ (f : Addr) (cdv : Value) (A : Around) (outer : List Env) (s : Shared) (H : Hp) (vs : List V) (Q : VK) (E : XK), Room k (A.deeper (envOfC x (defScope st) s.heap.objs.size f cdv)) → sp vs H Q E →
      ∃ t, PSs (cxOf (L2.CX P w) P w K mg base N x (defScope st) f cdv A outer s H E) (defBody st) t ∧ t { nx := fun _ H' => Q .non H', rt := Q } (start N vs) H) : Cl P w K mg base (L2.CX P w) (k + 1) x ps sp := by
  obtain ⟨f, fd, F, m, b⟩ := D.ex
  exact ⟨f, fd, F.okX S len (hbody f), m, F.kp, b, Fun.at F⟩
end
section
variable {X : Cx} {k j : Nat} {x : Str} {ps : List Str} {sp : Sp} {p pos : Pos} {e : Expr} {es : List Expr} {t : TA} {E : L2.St → XK}
/-- f(..) of a def that may raise -/
theorem pe_clS (c : Cl X.prog X.w X.K X.mg X.base (L2.CX X.prog X.w) k x ps sp) (hr : Room j X.A) (hk : k ≤ j) (hg : Gl X x) (hx : ∀ σ, PassesAt (L2.CX X.prog X.w) X σ (E σ)) (ha : PA X (e :: es) t)
    (hdb : (x == ("__debug__" : Str)) = false := by decide) (he : starEach (e :: es) X.env = (false, eval e X.env) :: starEach es X.env := by rfl) (hpl : (backTo pos (starEach es X.env)).any (·.1) = false := by rfl) :
    PE X (.Call (.Name x p) (e :: es) [] pos) (tCallS sp E t) := by
  obtain ⟨f, fd, F, hm, kp, b, _⟩ := c.ex
  exact pe_callS F (hr.mono hk) hg hm kp b hx ha hdb he hpl
end
end Kt
namespace Kt
open PySem PySem.Spec PyProof.Rows L2

/-- a slice's part that is left out -/
abbrev tNo : TO := fun _ H Q => Q none H
theorem po_no {X : Cx} : PO X none tNo := po_none
/-! ### heaps that grow -/
theorem same_new {H : Hp} {p : Addr} (h : H p = none) (o : HO) : Same H (upd H p o) := fun b u q => by rw [upd_ne (ne_of_none q h)]; exact q
/-- an object that the first does not know may change -/
theorem Same.mut {H H' : Hp} {p : Addr} {o : HO} (e : Same H H') (h : H p = none) : Same H (upd H' p o) := fun a u ha => by
  rw [upd_ne (ne_of_none ha h)]
  exact e a u ha
/-- tuples stand; lists and dicts are lists and dicts still -/
structure Wk (H H' : Hp) : Prop where
  tup : ∀ a xs, H a = some (.tup xs) → H' a = some (.tup xs)
  lst : ∀ a xs, H a = some (.lst xs) → ∃ ys, H' a = some (.lst ys)
  dK : ∀ a xs, H a = some (.dK xs) → ∃ ys, H' a = some (.dK ys)
theorem Wk.refl (H : Hp) : Wk H H := ⟨fun _ _ h => h, fun _ xs h => ⟨xs, h⟩, fun _ xs h => ⟨xs, h⟩⟩
theorem Wk.trans {H H1 H2 : Hp} (a : Wk H H1) (b : Wk H1 H2) : Wk H H2 :=
  ⟨fun x xs h => b.tup _ _ (a.tup _ _ h), fun x xs h => let ⟨_, e⟩ := a.lst _ _ h; b.lst _ _ e, fun x xs h => let ⟨_, e⟩ := a.dK _ _ h; b.dK _ _ e⟩
theorem Wk.same {H H' : Hp} (h : Same H H') : Wk H H' := ⟨fun _ _ q => h _ _ q, fun _ xs q => ⟨xs, h _ _ q⟩, fun _ xs q => ⟨xs, h _ _ q⟩⟩

/-! ### things -/
inductive Th where
  | non | bl (b : Bool) | int (i : Int) | str (z : Str) | tup (l : List Th) | ls | dc
/-- its signs are signs -/
def okS (z : Str) : Prop := ∀ c ∈ z.cps.toList, c < 1114112
mutual
/-- v stands for the thing t -/
inductive Rep (H : Hp) : V → Th → Prop
  | non : Rep H .non .non
  | bl (b : Bool) : Rep H (.bl b) (.bl b)
  | int (i : Int) : Rep H (.int i) (.int i)
  | str (z : Str) (h : z.length ≤ 100) (ok : okS z) : Rep H (.str z) (.str z)
  | tup {a : Addr} {xs : List V} {l : List Th} (h : H a = some (.tup xs)) (n : xs.length ≤ 100) (hl : RepL H xs l) : Rep H (.ref a) (.tup l)
  | ls {a : Addr} {xs : List V} (h : H a = some (.lst xs)) : Rep H (.ref a) .ls
  | dc {a : Addr} {kvs : List (Key × V)} (h : H a = some (.dK kvs)) : Rep H (.ref a) .dc
inductive RepL (H : Hp) : List V → List Th → Prop
  | nil : RepL H [] []
  | cons {v : V} {vs : List V} {t : Th} {ts : List Th} (h : Rep H v t) (r : RepL H vs ts) : RepL H (v :: vs) (t :: ts)
end
mutual
theorem Rep.wk {H H' : Hp} (w : Wk H H') : ∀ {v : V} {t : Th}, Rep H v t → Rep H' v t
  | _, _, .non => .non
  | _, _, .bl b => .bl b
  | _, _, .int i => .int i
  | _, _, .str z h ok => .str z h ok
  | _, _, .tup h n hl => .tup (w.tup _ _ h) n (RepL.wk w hl)
  | _, _, .ls h => let ⟨_, e⟩ := w.lst _ _ h; .ls e
  | _, _, .dc h => let ⟨_, e⟩ := w.dK _ _ h; .dc e
theorem RepL.wk {H H' : Hp} (w : Wk H H') : ∀ {vs : List V} {ts : List Th}, RepL H vs ts → RepL H' vs ts
  | _, _, .nil => .nil
  | _, _, .cons h r => .cons (Rep.wk w h) (RepL.wk w r)
end
theorem RepL.length {H : Hp} : ∀ {vs : List V} {ts : List Th}, RepL H vs ts → vs.length = ts.length
  | _, _, .nil => rfl
  | _, _, .cons _ r => congrArg Nat.succ (RepL.length r)
theorem RepL.get {H : Hp} : ∀ {vs : List V} {ts : List Th} {i : Nat} {t : Th}, RepL H vs ts → ts[i]? = some t → ∃ v, vs[i]? = some v ∧ Rep H v t
  | _, _, _, _, .nil, e => by simp at e
  | _, _, 0, t, .cons h _, e => by simp at e; subst e; exact ⟨_, rfl, h⟩
  | _, _, i + 1, t, .cons _ r, e => by
    obtain ⟨v, h1, h2⟩ := RepL.get (i := i) (t := t) r (by simpa using e)
    exact ⟨v, by simpa using h1, h2⟩
theorem RepL.get' {H : Hp} : ∀ {vs : List V} {ts : List Th} {i : Nat} {v : V}, RepL H vs ts → vs[i]? = some v → ∃ t, ts[i]? = some t ∧ Rep H v t
  | _, _, _, _, .nil, e => by simp at e
  | _, _, 0, t, .cons h _, e => by simp at e; subst e; exact ⟨_, rfl, h⟩
  | _, _, i + 1, t, .cons _ r, e => by
    obtain ⟨v, h1, h2⟩ := RepL.get' (i := i) (v := t) r (by simpa using e)
    exact ⟨v, by simpa using h1, h2⟩
theorem RepL.append {H : Hp} : ∀ {vs : List V} {ts : List Th} {vs' : List V} {ts' : List Th}, RepL H vs ts → RepL H vs' ts' → RepL H (vs ++ vs') (ts ++ ts')
  | _, _, _, _, .nil, s => s
  | _, _, _, _, .cons h r, s => .cons h (RepL.append r s)
theorem RepL.take {H : Hp} : ∀ {vs : List V} {ts : List Th} (n : Nat), RepL H vs ts → RepL H (vs.take n) (ts.take n)
  | _, _, 0, _ => .nil
  | _, _, _ + 1, .nil => .nil
  | _, _, n + 1, .cons h r => .cons h (RepL.take n r)
theorem RepL.drop {H : Hp} : ∀ {vs : List V} {ts : List Th} (n : Nat), RepL H vs ts → RepL H (vs.drop n) (ts.drop n)
  | _, _, 0, r => r
  | _, _, _ + 1, .nil => .nil
  | _, _, n + 1, .cons _ r => RepL.drop n r
theorem RepL.rep {H : Hp} {vs : List V} {ts : List Th} (r : RepL H vs ts) : ∀ n : Nat, RepL H (List.replicate n vs).flatten (List.replicate n ts).flatten
  | 0 => .nil
  | n + 1 => by
    rw [List.replicate_succ, List.replicate_succ, List.flatten_cons, List.flatten_cons]
    exact r.append (RepL.rep r n)

/-! ### isinstance -/
def Th.ty : Th → String
  | .non => "NoneType" | .bl _ => "bool" | .int _ => "int" | .str _ => "str" | .tup _ => "tuple" | .ls => "list" | .dc => "dict"
def Th.isStr : Th → Bool | .str _ => true | _ => false
def Th.isTup : Th → Bool | .tup _ => true | _ => false
def Th.isBl : Th → Bool | .bl _ => true | _ => false
theorem Rep.tyx {K : PySem.W.Frag} {H : Hp} {v : V} {t : Th} (r : Rep H v t) : TyX K H v (.type t.ty) := by
  cases r with
  | non => exact .base .non
  | bl b => exact .base (.bl b)
  | int i => exact .base (.int i)
  | str z h ok => exact .base (.str z)
  | tup h n hl => exact .base (.tup h)
  | ls h => exact .base (.lst h)
  | dc h => exact .base (.dK h)
theorem kstr {K : PySem.W.Frag} : ∀ t : Th, PySem.W.kitOne K (.type t.ty) (.type "str") = some t.isStr
  | .non => kit_ty (show kitB "NoneType" "str" = some false by decide +kernel)
  | .bl _ => kit_ty (show kitB "bool" "str" = some false by decide +kernel)
  | .int _ => kit_ty (show kitB "int" "str" = some false by decide +kernel)
  | .str _ => kit_ty (show kitB "str" "str" = some true by decide +kernel)
  | .tup _ => kit_ty (show kitB "tuple" "str" = some false by decide +kernel)
  | .ls => kit_ty (show kitB "list" "str" = some false by decide +kernel)
  | .dc => kit_ty (show kitB "dict" "str" = some false by decide +kernel)
theorem ktup {K : PySem.W.Frag} : ∀ t : Th, PySem.W.kitOne K (.type t.ty) (.type "tuple") = some t.isTup
  | .non => kit_ty (show kitB "NoneType" "tuple" = some false by decide +kernel)
  | .bl _ => kit_ty (show kitB "bool" "tuple" = some false by decide +kernel)
  | .int _ => kit_ty (show kitB "int" "tuple" = some false by decide +kernel)
  | .str _ => kit_ty (show kitB "str" "tuple" = some false by decide +kernel)
  | .tup _ => kit_ty (show kitB "tuple" "tuple" = some true by decide +kernel)
  | .ls => kit_ty (show kitB "list" "tuple" = some false by decide +kernel)
  | .dc => kit_ty (show kitB "dict" "tuple" = some false by decide +kernel)
theorem kbl {K : PySem.W.Frag} : ∀ t : Th, PySem.W.kitOne K (.type t.ty) (.type "bool") = some t.isBl
  | .non => kit_ty (show kitB "NoneType" "bool" = some false by decide +kernel)
  | .bl _ => kit_ty (show kitB "bool" "bool" = some true by decide +kernel)
  | .int _ => kit_ty (show kitB "int" "bool" = some false by decide +kernel)
  | .str _ => kit_ty (show kitB "str" "bool" = some false by decide +kernel)
  | .tup _ => kit_ty (show kitB "tuple" "bool" = some false by decide +kernel)
  | .ls => kit_ty (show kitB "list" "bool" = some false by decide +kernel)
  | .dc => kit_ty (show kitB "dict" "bool" = some false by decide +kernel)


/-! ### lists of ints, bools, texts as data -/
theorem dpInts {K : PySem.W.Frag} {H : Hp} : ∀ ns : List Int, DpAll K H (ns.map V.int) (ns.map PyData.int)
  | [] => .nil
  | n :: r => .cons (.int n) (dpInts r)
theorem dpBls {K : PySem.W.Frag} {H : Hp} : ∀ ns : List Bool, DpAll K H (ns.map V.bl) (ns.map PyData.bool)
  | [] => .nil
  | n :: r => .cons (.bl n) (dpBls r)
theorem dpStrs {K : PySem.W.Frag} {H : Hp} : ∀ ns : List Str, DpAll K H (ns.map V.str) (ns.map PyData.str)
  | [] => .nil
  | n :: r => .cons (.str n) (dpStrs r)
theorem depth_all0 {α : Type} {f : α → PyData} (h : ∀ a, (f a).depth = 0) : ∀ l : List α, PyData.depthAll (l.map f) = 0
  | [] => rfl
  | a :: r => by
    show max (f a).depth (PyData.depthAll (r.map f)) = 0
    rw [h a, depth_all0 h r]
    rfl
theorem can_all {α : Type} {f : α → PyData} : ∀ l : List α, (∀ a ∈ l, (f a).canLay0 = true) → PyData.canLayAll0 (l.map f) = true
  | [], _ => rfl
  | a :: r, h => by
    show ((f a).canLay0 && PyData.canLayAll0 (r.map f)) = true
    rw [h a (List.mem_cons_self ..), can_all r fun b hb => h b (List.mem_cons_of_mem _ hb)]
    rfl
theorem shaped_of {α : Type} {f : α → PyData} (h : ∀ a, (f a).depth = 0) (l : List α) (c : ∀ a ∈ l, (f a).canLay0 = true) : SeqAt.shaped (.list (l.map f)) = true := by
  unfold SeqAt.shaped
  have e1 : (PyData.list (l.map f)).canLay0 = true := can_all l c
  have e2 : (PyData.list (l.map f)).depth = 1 := by
    show PyData.depthAll (l.map f) + 1 = 1
    rw [depth_all0 h]
  rw [e1, e2]
  rfl
theorem shapedInts (l : List Int) : SeqAt.shaped (.list (l.map PyData.int)) = true := shaped_of (fun _ => rfl) l fun _ _ => rfl
theorem shapedBls (l : List Bool) : SeqAt.shaped (.list (l.map PyData.bool)) = true := shaped_of (fun _ => rfl) l fun _ _ => rfl
theorem shapedStrs (l : List Str) (h : ∀ z ∈ l, okS z) : SeqAt.shaped (.list (l.map PyData.str)) = true := shaped_of (fun _ => rfl) l fun z hz => by
  have := h z hz
  simp only [PyData.canLay0, PyData.strOk, Array.all_eq_true_iff_forall_mem, decide_eq_true_eq]
  intro x hx
  exact this x (Array.mem_toList_iff.mpr hx)
theorem eqvNil (l : List PyData) : PyData.eqv (.list l) (.list []) = l.isEmpty := by
  cases l <;> rfl
theorem eqvBls : ∀ l r : List Bool, PyData.eqvAll (l.map PyData.bool) (r.map PyData.bool) = decide (l = r)
  | [], [] => rfl
  | [], b :: s => by simp [PyData.eqvAll]
  | a :: l, [] => by simp [PyData.eqvAll]
  | a :: l, b :: r => by
    show (PyData.eqv (.bool a) (.bool b) && PyData.eqvAll (l.map PyData.bool) (r.map PyData.bool)) = _
    rw [eqvBls l r]
    show ((a == b) && decide (l = r)) = _
    by_cases h : a = b
    · subst h
      simp
    · simp [h]

theorem yesI {σ : L2.St} {H : Hp} {X Y : Hp → Prop} (h : X H) : tYes σ H fun b H3 => if b = true then X H3 else Y H3 := by
  unfold tYes
  dsimp only
  rw [if_pos rfl]
  exact h
/-! ### comprehensions whose element only tells -/
section
variable {J : It} {n : Nat} {G : Hp → Prop} {Y : Nat → Hp → V → Hp → Prop} {te : TE} {vs : List Nat} {σ : L2.St} {H1 : Hp} {D : Addr} {Qd : Hp → Prop} {j : Nat}
theorem lc_pure (w : Walk J n G Y) (f : Nat → V) (hD : H1 D = none) (hn : n ≤ 1000) (hG : ∀ H', Same H1 H' → G H') (hset : ∀ x, wipe ((wipe σ vs).set j (some x)) vs = wipe σ vs)
    (he : ∀ i x H H', i < n → Same H1 H → Y i H x H' → Same H H' ∧ ∀ Q : VK, (∀ H2, Same H' H2 → Q (f i) H2) → te ((wipe σ vs).set j (some x)) H' Q)
    (hd : ∀ H', Same H1 H' → H' D = some (.lst ((List.range n).map f)) → Qd H') :
    ∃ W : Nat → Nat → Hp → Prop, (∃ m, W 0 m (upd H1 D (.lst []))) ∧ ∀ i m H, W i m H →
      (J.stop i H ∧ Qd H) ∨ (J.go i H ∧ ∃ Nx : Hp → Prop, (∀ H', Nx H' → ∃ m', m' < m ∧ W (i + 1) m' H') ∧ ∀ x H', J.yld i H x H' → gName j x (wipe σ vs) H' fun σ2 H2 => wipe σ2 vs = wipe σ vs ∧ tYes σ2 H2 fun b H3 =>
        if b = true then te σ2 H3 fun y H4 => ∃ acc, H4 D = some (.lst acc) ∧ acc.length < sizeLine ∧ Nx (upd H4 D (.lst (acc ++ [y]))) else Nx H3) := by
  refine lc_it w (g := gName j) (tt := tYes) (fun i H => Same H1 H ∧ H D = some (.lst ((List.range i).map f))) ⟨same_new hD _, upd_same⟩ (fun i H _ p => hG H p.1) (fun i x H H' hi p y => ?_) (fun H p => hd H p.1 p.2)
  obtain ⟨s, k⟩ := he i x H H' hi p.1 y
  refine ⟨hset x, ?_⟩
  unfold tYes
  dsimp only
  rw [if_pos rfl]
  refine k _ fun H2 s2 => ⟨_, s2 _ _ (s _ _ p.2), ?_, ?_, ?_⟩
  · rw [List.length_map, List.length_range]
    exact small1000 (by omega)
  · exact Same.mut ((p.1.trans s).trans s2) hD
  · rw [upd_same, List.range_succ, List.map_append]
    rfl
end
end Kt
namespace Kt
open PySem PySem.Spec PyProof.Rows L2
theorem clsA_of {mg : Str → Option Value} {x : Str} {C : Addr} (at_ : mg x = some (.ref C)) : clsA mg x = C := by
  unfold clsA
  rw [at_]
/-! ### an error that is kept behind its except suite -/
/-- an error object of the class cls, with the dict d, that nobody handles any more -/
def ExK (cls : Value) (d : Option Addr) (a : Addr) : HO := .ext fun heap => ∃ (ob : Obj) (fl : Array Value), heap.get? a = some ob ∧ Zc cls d ob ∧ ob.data = .fields fl
theorem exK_ok {P : Program} {w : World} {H : Hp} {heap : Heap} {a : Addr} {cls : Value} {d : Option Addr} {ob : Obj} {fl : Array Value} (there : heap.get? a = some ob) (kind : Zc cls d ob) (flds : ob.data = .fields fl) : ObjOk P w H heap a (ExK cls d a) :=
  ⟨⟨ob, fl, there, kind, flds⟩, ⟨ob, there⟩, fun _ _ ⟨o, v, g, k⟩ keeps => ⟨o, v, keeps o g, k⟩⟩
section
variable {X : Cx} {pl : List (Addr × Obj)} {σ : L2.St} {H : Hp} {sh : Shared} {a : Addr} {ob : Obj} {fl : Array Value}
/-- an object that stands, unknown at the entry, is told of from here on -/
theorem Inv.track {o : HO} (I : Inv X pl σ H sh) (there : sh.heap.get? a = some ob) (flds : ob.data = .fields fl) (gone : H a = none) (entry : X.s_0.heap.get? a = none) (loc : a ≠ X.env.locals)
    (pins : ∀ p ∈ X.pn ++ pl, p.1 ≠ a) (new : ObjOk X.prog X.w (upd H a o) sh.heap a o) : Inv X pl σ (upd H a o) sh := by
  have still : ∀ {b : Addr} {u : HO}, H b = some u → upd H a o b = some u := fun {b u} t => by rw [upd_ne (ne_of_none t gone)]; exact t
  have base := I.base
  refine { I with base := { base with free := fun b u t n hx => ?_, tups := fun b xs t => still (base.tups b xs t), frzs := fun b u xs t => still (base.frzs b u xs t), tbls := fun b ps t => ?_ }, free := ?_, freeC := fun x c t => ?_, pin := fun p hp => ?_, hok := fun b u t => ?_ }
  · rw [upd_ne fun z => by rw [z, entry] at t; cases t]
    exact base.free b u t n hx
  · obtain ⟨more, z⟩ := base.tbls b ps t
    exact ⟨more, still z⟩
  · rw [upd_ne loc.symm]
    exact I.free
  · rw [upd_ne fun z => ?_]
    · exact I.freeC x c t
    · obtain ⟨v, oc, g, isCell⟩ := I.cell x c t
      rw [z, there] at g
      cases g
      rw [flds] at isCell
      cases isCell
  · obtain ⟨p1, p2, p3, p4, p5⟩ := I.pin p hp
    exact ⟨p1, by rw [upd_ne (pins p hp)]; exact p2, p3, p4, p5⟩
  · by_cases e : b = a
    · subst e
      rw [upd_same] at t
      cases t
      exact new
    · rw [upd_ne e] at t
      exact (I.hok b u t).stay (fun _ _ _ z => z) (fun _ z => still z) fun _ _ z => still z
/-- nothing stood where an error that flies over the frames is -/
theorem error_new {B heap : Heap} (top : X.stack = X.env :: X.outer) (frm : X.env.frame = some X.env.locals) (I : Inv X pl σ H sh) (ground : ∀ b o, sh.heap.get? b = some o → b ∉ frs X.stack → B.get? b = some o) (empty : B.get? a = none)
    (over : heap.FunFrames B (X.env :: X.outer)) (there : heap.get? a = some ob) (flds : ob.data = .fields fl) : a ∉ X.fs ∧ a ≠ X.env.locals ∧ sh.heap.get? a = none := by
  have noFrame : a ∉ frs (X.env :: X.outer) := fun isF => by
    obtain ⟨_, _, g, other⟩ := over.mem isF
    exact other _ (by rw [there] at g; cases g; exact flds)
  refine ⟨fun isF => noFrame ?_, fun z => noFrame (List.mem_filterMap.mpr ⟨_, List.mem_cons_self, by rw [frm, z]⟩), ?_⟩
  · obtain ⟨env, m, g⟩ := List.mem_filterMap.mp isF
    exact List.mem_filterMap.mpr ⟨env, List.mem_cons_of_mem _ m, g⟩
  · cases t : sh.heap.get? a with
    | none => rfl
    | some o =>
      have := ground a o t (by rw [top]; exact noFrame)
      rw [empty] at this
      cases this
theorem clause_named {x : Str} {c : Value} {np : Pos} {Q E : Value → Shared → Prop} (nm : Names X x c) (I : Inv (X.suite a ((a, ob) :: pl)) [] σ H sh) (q : Q c sh) : wpAny (model X.prog X.w) (X.A.mark (some (.ref a))) (eval (.Name x np) X.env) Q E sh := by
  rcases nm with ⟨gl, db, own | ⟨miss, blt, nn⟩⟩
  · exact ld_glob (X := X.suite a ((a, ob) :: pl)) I gl own q db
  · exact ld_blt (X := X.suite a ((a, ob) :: pl)) I gl miss blt q nn db
end
/-- what a clause that takes all errors of its body wishes, where the error is told of behind the suite -/
def wVal (K : PySem.W.Frag) (c : Value) (i : Nat) (ts : Addr → Value → Option Addr → TS) (D : Ends) : WX := fun cls d σ H =>
  PySem.W.exmOne K cls c = some true ∧ ∀ a, H a = none → ts a cls d { nx := fun σ1 H1 => D.nx (σ1.set i none) (upd H1 a (ExK cls d a)), rt := fun _ _ => False, bk := fun _ _ => False, ct := fun _ _ => False } (σ.set i (some (.ref a))) H
section
variable {X : Cx} {x n : Str} {c : Value} {i : Nat} {body rest : List Stmt} {first : Stmt} {p1 p2 p3 : Pos} {tb : WX → TS} {ts : Addr → Value → Option Addr → TS}
/-- try: body / except x as n: a suite that ends by itself -/
theorem ps_try_val (noex : X.ex = []) (top : X.stack = X.env :: X.outer) (frm : X.env.frame = some X.env.locals) (nd : X.N.Nodup) (slot : X.N[i]? = some n) (isLoc : X.env.kindOf n = some .local) (nm : Names X x c)
    (inner : ∀ (W : WX) (pl : List (Addr × Obj)) (xe : Value → Shared → Prop), Takes (X.tr pl xe) W → PassesOwn (model X.prog X.w) X.A X.env xe → PSs (X.tr pl xe) body (tb W))
    (suite : ∀ (a : Addr) (ob : Obj) (cls : Value) (d : Option Addr) (pl : List (Addr × Obj)), Zc cls d ob → (∃ fl, ob.data = .fields fl) → PSs (X.suite a ((a, ob) :: pl)) (first :: rest) (ts a cls d)) :
    PS X (.Try body [.ExceptHandler (some (.Name x p1)) (some n) (first :: rest) p2] [] [] p3) (fun D => tb (wVal X.K c i ts D) D) := by
  constructor
  intro pl sh st hp dd inv wish
  have good := inv.ok
  apply wpAny_Try_except
  have run := (inner (wVal X.K c i ts dd) (X.pn ++ pl) (fun e s₁ => wpAny (model X.prog X.w) X.A (noteFrame e X.env) (fun _ s₂ => wpAny (model X.prog X.w) X.A (setFlight e none) (fun _ s₃ =>
    wpAny (model X.prog X.w) X.A (handleBy e X.env [.ExceptHandler (some (.Name x p1)) (some n) (first :: rest) p2]) (SP X pl dd) X.xe s₃) X.xe s₂) X.xe s₁) ?caught PassesOwn.looking).run [] sh st hp dd (inv.toTry _) wish
  case caught =>
    intro val sE flies
    obtain ⟨a, B, sB, plB, stB, hpB, cls, d, rfl, invT, ground, upTo, sky, gone, sameOs, bare, matches_, go⟩ := flies
    have invB := invT.ofTry (pins := pl) good
    rw [show (X.tr (X.pn ++ pl) _).stack = X.env :: X.outer from top] at sky
    show wpAny (model X.prog X.w) X.A (noteFrame _ _) _ _ _
    apply Sky.land Zc.steady (show X.A.frames = some (X.env :: X.outer) by rw [good.frames, top]) frm sky
    intro heap1 air1 up1
    have inv1 := invB.landed (s' := { sE with heap := heap1 }) ground air1.1 (upTo.trans up1) sameOs bare
    obtain ⟨ob1, fl1, there1, kind1, flds1⟩ := air1.there
    obtain ⟨noFs, noLoc, notB⟩ := error_new top frm invB ground air1.2.1 air1.2.2.1 there1 flds1
    have entry : X.s_0.heap.get? a = Option.none := by
      cases t : X.s_0.heap.get? a with
      | none => rfl
      | some o =>
        obtain ⟨_, z⟩ := invB.base.there a o t (by rw [noex]; exact List.not_mem_nil)
        rw [notB] at z
        cases z
    have apart : ∀ p ∈ X.pn ++ pl, p.1 ≠ a := fun p hp z => by
      have := (invB.pin p hp).1
      rw [z, notB] at this
      cases this
    apply wpAny_handleBy_cons (codeAny_handlers_test ?_) (fun z => by cases z)
    refine clause_named nm (inv1.suite there1 flds1 gone noLoc noFs) ?_
    have isOf : PySem.W.Looks (model X.prog X.w) heap1 (typeOf (.ref a)) cls := fun _ _ _ _ keeps q => wpAny_typeOf_ref (keeps _ _ there1) (by rw [kind1.1]; exact q)
    refine (PySem.W.exm_one inv1.kIn isOf matches_).here (codeAny_handlers_suite_as ?_)
    apply HandSPX.lands_againZ air1
    intro heap2 air2 up2
    have inv2 := invB.landed (s' := { sE with heap := heap2 }) ground air2.1 ((upTo.trans up1).trans up2) sameOs bare
    obtain ⟨ob2, fl2, there2, kind2, flds2⟩ := air2.there
    refine store_ok (X := X.suite a ((a, ob2) :: (X.pn ++ pl))) (v := .ref a) (inv2.suite there2 flds2 gone noLoc noFs) nd slot (.inl isLoc) rfl (fun s3 inv3 => ?_) (.inr isLoc)
    refine wpAny_mono ((suite a ob2 cls d (X.pn ++ pl) kind2 ⟨_, flds2⟩).run [] s3 _ hpB _ inv3 (go a gone)) (fun flow s4 ended => ?_) fun _ _ never => never.elim
    match flow, ended with
    | .next, ⟨st4, hp4, inv4, q4⟩ =>
      obtain ⟨g4, none4, _⟩ := inv4.pin (a, ob2) (List.mem_append.mpr (.inl List.mem_cons_self))
      have inv5 := inv4.unsuite good
      have pinned : ∀ p ∈ (a, ob2) :: (X.pn ++ pl), s4.heap.get? p.1 = some p.2 ∧ hp4 p.1 = Option.none ∧ p.1 ≠ X.env.locals ∧ p.1 ∉ X.fs ∧ ∀ v, p.2.data ≠ .cell v := fun p m => by
        rcases List.mem_cons.mp m with rfl | old
        · refine ⟨g4, none4, noLoc, noFs, fun v z => ?_⟩
          rw [flds2] at z
          cases z
        · exact inv5.pin p old
      have inv6 : Inv (X.tr ((a, ob2) :: X.pn) X.xe) pl st4 hp4 s4 := ⟨good.toTry _ _, inv5.os, inv5.bare, inv5.base, inv5.loc, inv5.cell, inv5.free, inv5.freeC, pinned, inv5.hok, inv5.len⟩
      refine gone_ok (X := X.tr ((a, ob2) :: X.pn) X.xe) inv6 nd slot isLoc fun s7 inv7 => ⟨_, _, ?_, q4⟩
      have g7 := (inv7.pin (a, ob2) (List.mem_append.mpr (.inl List.mem_cons_self))).1
      have inv8 : Inv X pl (st4.set i Option.none) hp4 s7 := ⟨good, inv7.os, inv7.bare, inv7.base, inv7.loc, inv7.cell, inv7.free, inv7.freeC, fun p m => inv7.pin p (List.mem_cons_of_mem _ m), inv7.hok, inv7.len⟩
      exact Inv.track inv8 g7 flds2 none4 entry noLoc apart (exK_ok g7 kind2 flds2)
    | .brk, ⟨_, _, _, no⟩ => exact no.elim
    | .cont, ⟨_, _, _, no⟩ => exact no.elim
    | .ret _, ⟨_, _, _, _, _, no⟩ => exact no.elim
  refine wpAny_mono run (fun flow s1 ended => ?_) fun _ _ z => z
  match flow, ended with
  | .next, ⟨_, _, inv1, q1⟩ => exact wpAny_execs_nil ⟨_, _, inv1.ofTry good, q1⟩
  | .brk, ⟨_, _, inv1, q1⟩ => exact ⟨_, _, inv1.ofTry good, q1⟩
  | .cont, ⟨_, _, inv1, q1⟩ => exact ⟨_, _, inv1.ofTry good, q1⟩
  | .ret _, ⟨_, _, _, inv1, rel, q1⟩ => exact ⟨_, _, _, inv1.ofTry good, rel, q1⟩
end
/-- isinstance(e, c) of a kept error -/
def rIsK (K : PySem.W.Frag) : List V → Hp → VK → Prop := fun args H Q => ∃ (a D : Addr) (c : V) (cv : Value) (b : Bool), args = [.ref a, c] ∧ ExcC K D ∧ H a = some (ExK (.ref D) none a) ∧ (∀ u, RelV c u → u = cv) ∧ PySem.W.kitOne K (.ref D) cv = some b ∧ Q (.bl b) H
theorem call_isK {X : Cx} : CallR X (.builtin "isinstance") (rIsK X.K) := by
  intro pl sh st hp args vals Q inv rel told
  obtain ⟨a, D, c, cv, b, rfl, fit, kept, named, is_, q⟩ := told
  obtain ⟨u, rfl, r1⟩ : ∃ u, vals = [.ref a, u] ∧ RelV c u := by
    cases rel with
    | cons r0 more =>
      cases more with
      | cons r1 more =>
        cases more
        cases r0
        exact ⟨_, rfl, r1⟩
  obtain rfl := named u r1
  obtain ⟨⟨⟨_, _, dat, _⟩, fl, there, ⟨isD, noDict⟩, flds⟩, _, _⟩ := inv.hok a _ kept
  dsimp only at isD noDict flds
  subst isD noDict flds
  refine PySem.W.kia_one (PySem.W.handS_kitx_exc fit.hg fit.hk fit.hs fit.hd fit.ha fit.hn fit.ht fit.hm) inv.kIn ⟨there, rfl, rfl, trivial⟩ is_ (fun z => by cases z) fun toks => ?_
  exact ⟨.bl b, hp, inv.kept (t' := toks) fun _ _ g => g, rfl, q⟩
theorem CallR.either {X : Cx} {f : Value} {r r' : List V → Hp → VK → Prop} (one : CallR X f r) (two : CallR X f r') : CallR X f (fun args H Q => r args H Q ∨ r' args H Q) :=
  fun pl sh st hp args vals Q inv rel told => told.elim (one pl sh st hp args vals Q inv rel) (two pl sh st hp args vals Q inv rel)
end Kt
namespace Kt
open PySem PySem.Spec PySem.Calls PyProof.Rows L2
/-! ### an own class of errors whose __init__ says super().__init__(a text with its argument) and keeps the argument -/
/-- how an argument is written into a text -/
def inText : V → Option Str
  | .str z => some z
  | .int i => some (toString i)
  | _ => none
structure InitPos where
  (a b c d e f g h i j k l m : Pos)
  n : Nat
def initBody (fld txt : Str) (q : InitPos) : List Stmt :=
  [.Expr (.Call (.Attribute (.Call (.Name "super" q.a) [] [] q.b) "__init__" q.c) [.JoinedStr [.Constant (.str txt) q.n q.d, .FormattedValue (.Name fld q.e) (-1) none q.f] q.g] [] q.h) q.i,
   .Assign [.Attribute (.Name "self" q.j) fld q.k] (.Name fld q.l) q.m]
def initScope (fld : Str) : Scope := { kind := .function, names := [("self", .local), (fld, .local), ("__class__", .free), ("super", .globalImplicit)], isGenerator := false, isCoroutine := false, more := [] }
/-- what the written part says of the class at C, of its __init__ -/
structure IniC (P : Program) (K : PySem.W.Frag) (mg : Str → Option Value) (C fI : Addr) (fld txt : Str) : Prop where
  at_ : OexC K C
  fn : ∃ (oc ccl cl : Value) (od cdd cld : Option Addr) (osl ccs csl : Array (Option Value)) (qual : Str) (params : Arguments) (q : InitPos) (dV kV doc pm ct : Value) (an : Option Addr) (cda cc : Addr) (vs : Array Value) (file : Str) (tf : Tok) (cdD : ClassData) (ar1 : Arg) (pl : Env → Sem Bool),
    K.lookup fI = some ⟨oc, od, .func (PySem.W.fnX "__init__" qual params (initBody fld txt q) (initScope fld) [("__class__", cc)] dV kV doc pm an (.ref cda) ct), osl⟩ ∧ PySem.W.codeIn K (.ref cda) qual = true ∧
    (params.posonlyargs ++ params.args).head? = some ar1 ∧ ar1.arg = "self" ∧ (∀ a b : Value, bindArgs (PySem.W.fnX "__init__" qual params (initBody fld txt q) (initScope fld) [("__class__", cc)] dV kV doc pm an (.ref cda) ct) ⟨[a, b], []⟩ = pure [(("self" : Str), a), (fld, b)]) ∧
    (∀ env : Env, eval (.Call (.Attribute (.Call (.Name "super" q.a) [] [] q.b) "__init__" q.c) [.JoinedStr [.Constant (.str txt) q.n q.d, .FormattedValue (.Name fld q.e) (-1) none q.f] q.g] [] q.h) env = (do
      let ov ← attributeBase (.Call (.Name "super" q.a) [] [] q.b) "__init__" env (eval (.Call (.Name "super" q.a) [] [] q.b) env)
      standAt q.c.atName
      let (f, first) ← holding [ov] (getMethod ov "__init__" (pl env))
      callWith q.h f first (backTo q.h (starEach [.JoinedStr [.Constant (.str txt) q.n q.d, .FormattedValue (.Name fld q.e) (-1) none q.f] q.g] env)) [])) ∧
    K.lookup cda = some ⟨ccl, cdd, .fields vs, ccs⟩ ∧ vs[2]? = some (.str file tf) ∧ ((P.main.file : Str) == file) = true ∧
    K.lookup cc = some ⟨cl, cld, .cell (some (.ref C)), csl⟩ ∧ PySem.W.clsIn K C = some cdD
  top : (P.main.scope.names.lookup ("super" : Str)).isSome = false
  sup : mg "super" = none
  self_ : PySem.W.mroIn K C (.ref C) = some true
  par : PySem.W.ks_superIn K C C "__init__" = some (some (.builtin "ValueError.__init__"))
  val : PySem.W.subIn K (.ref C) (.type "ValueError") = some true
  opq : PySem.W.nsIn K cStatics "thirdparty.any" = some none
  exc : PySem.W.excInitIn K C [.type "ValueError", .type "Exception", .type "BaseException", .type "object"] "ValueError.__new__" = true
  nof : PySem.W.findIn K (.ref C) fld = some none
  ini : PySem.W.findIn K (.ref C) "__init__" = some (some (.ref fI))
  typ : PySem.W.typeIn K (.ref fI) = some (.type "function")
theorem fld_kind {fld : Str} (n : ("self" : Str) ≠ fld) : List.lookup fld (initScope fld).names = some .local := by
  unfold initScope
  rw [List.lookup_cons, beq_eq_false_iff_ne.mpr n.symm]
  simp
theorem sup_kind {fld : Str} (n : ("super" : Str) ≠ fld) : List.lookup ("super" : Str) (initScope fld).names = some .globalImplicit := by
  unfold initScope
  rw [List.lookup_cons, show (("super" : Str) == "self") = false by decide, List.lookup_cons, beq_eq_false_iff_ne.mpr n]
  rfl
theorem cls_kind {fld : Str} (n : ("__class__" : Str) ≠ fld) : List.lookup ("__class__" : Str) (initScope fld).names = some .free := by
  unfold initScope
  rw [List.lookup_cons, show (("__class__" : Str) == "self") = false by decide, List.lookup_cons, beq_eq_false_iff_ne.mpr n]
  rfl
theorem self_look {fld : Str} {a b : Value} (n : ("self" : Str) ≠ fld) : ([(("self" : Str), a), (fld, b)] : List (Str × Value)).reverse.lookup ("self" : Str) = some a := by
  show List.lookup ("self" : Str) [(fld, b), (("self" : Str), a)] = some a
  rw [List.lookup_cons, beq_eq_false_iff_ne.mpr n]
  rfl
theorem fld_look {fld : Str} {a b : Value} : ([(("self" : Str), a), (fld, b)] : List (Str × Value)).reverse.lookup fld = some b := by
  show List.lookup fld [(fld, b), (("self" : Str), a)] = some b
  rw [List.lookup_cons, beq_self_eq_true]
section
variable {P : Program} {w : World} {K : PySem.W.Frag} {mg : Str → Option Value} {A : Around} {base : Heap} {C fI e t0 : Addr} {fld txt : Str} {sh : Shared} {v : V} {u : Value}
theorem init_run (T : IniC P K mg C fI fld txt) (mod : Mod K mg base) (bs : ∀ b o, base.get? b = some o → sh.heap.get? b = some o) (nb : base.get? e = none) (room : A.depth < recursionLimit)
    (there : sh.heap.get? e = some (PySem.W.excObj C t0 none .none)) (rel : RelV v u) (txt2 : Str) (as_ : inText v = some txt2) (short : txt2.length ≤ 4000) (few : txt.length ≤ 4000) (big : ∀ i, v = .int i → i.natAbs.log2 < 1920) (nself : ("self" : Str) ≠ fld) (nsup : ("super" : Str) ≠ fld) (ncls : ("__class__" : Str) ≠ fld) (ndbg : (fld == ("__debug__" : Str)) = false)
    (R : Result → Shared → Prop)
    (fin : ∀ (s' : Shared) (dx t1 : Addr), s'.os = sh.os → s'.gens = sh.gens → (∀ b o, b ≠ e → sh.heap.get? b = some o → s'.heap.get? b = some o) → sh.heap.objs.size ≤ dx → dx ≠ e → s'.heap.get? e = some (PySem.W.excObj C t1 (some dx) .none) → s'.heap.Ns1 dx (fun y => if y = fld then some u else none) → R (.ok (.ret .none)) s')
    (args : Args) (hargs : ∀ fd : FuncData, (∃ (oc : Value) (od : Option Addr) (osl : Array (Option Value)), K.lookup fI = some ⟨oc, od, .func fd, osl⟩) → BindsTo sh fd args [(("self" : Str), .ref e), (fld, u)]) :
    codeAny (model P w) A (.call (.ref fI) args) R sh := by
  obtain ⟨oc, ccl, cl, od, cdd, cld, osl, ccs, csl, qual, params, q, dV, kV, doc, pm, ct, an, cda, cc, vs, file, tf, cdD, ar1, pl, look, code, hpar, ha1, hbind, hev, hcode, hvs, hfile, hcell, hcls⟩ := T.fn
  have X : K.In sh.heap := mod.kin.keeps bs
  obtain ⟨mb, nsb, boot⟩ := mod.blt
  refine ks_codeAny_call_defAt (fd := PySem.W.fnX "__init__" qual _ (initBody fld txt q) (initScope fld) [("__class__", cc)] dV kV doc pm an (.ref cda) ct) (body := initBody fld txt q) (binds := [("self", .ref e), (fld, u)]) room (X _ _ look) rfl (mod.nolimit.keeps bs) (PySem.W.codeRec_of X code) rfl ?binds ?nocell ?local_ ?run
  case binds =>
    exact hargs _ ⟨_, _, _, look⟩
  case nocell =>
    intro z hz
    have hz : z = (("self" : Str), NameKind.local) ∨ z = (fld, NameKind.local) ∨ z = (("__class__" : Str), NameKind.free) ∨ z = (("super" : Str), NameKind.globalImplicit) := by simpa [initScope, PySem.W.fnX] using hz
    rcases hz with rfl | rfl | rfl | rfl <;> exact fun z => by cases z
  case local_ =>
    intro z hz
    have hz : z = (("self" : Str), Value.ref e) ∨ z = (fld, u) := by simpa using hz
    rcases hz with rfl | rfl
    · rfl
    · show List.lookup fld (initScope fld).names = some .local
      unfold initScope
      rw [List.lookup_cons, beq_eq_false_iff_ne.mpr nself.symm]
      simp
  case run =>
    intro h1 frame keep
    have len1 : sh.heap.objs.size < h1.objs.size := frame.lt
    obtain ⟨hid, hhid⟩ : ∃ hid : Hp, hid = fun b => if b = e then some (.own 0) else none := ⟨_, rfl⟩
    have off : ∀ {b : Addr}, b ≠ e → hid b = none := fun {b} n => by rw [hhid]; exact if_neg n
    have on : hid e ≠ none := by
      have z : hid e = some (.own 0) := by rw [hhid]; exact if_pos rfl
      rw [z]
      exact fun y => by cases y
    have elt : e < sh.heap.objs.size := Heap.lt_size there
    obtain ⟨L, hL⟩ : ∃ L, L = sh.heap.objs.size := ⟨_, rfl⟩
    have eL : e ≠ L := by rw [hL]; exact Nat.ne_of_lt elt
    have ground : ∀ b o, (hidT sh.heap hid).get? b = some o → h1.get? b = some o := fun b o z => keep b o (of_hidT z).1
    rw [← hL] at frame ⊢
    have F : Fr (hidT sh.heap hid) L h1 (fun x => ([("self", Value.ref e), (fld, u)] : List (Str × Value)).reverse.lookup x) := ⟨frame, ground, by rw [hL]; exact Nat.le_of_eq (hidT_size _ _)⟩
    have none_ : (hidT sh.heap hid).get? e = none := by
      match z : (hidT sh.heap hid).get? e with
      | none => rfl
      | some o => exact absurd (of_hidT z).2 on
    have N : News (hidT sh.heap hid) L h1 [(e, PySem.W.excObj C t0 none .none)] := fun p hp => by
      rw [List.mem_singleton.mp hp]
      exact ⟨keep _ _ there, eL, none_⟩
    have baseIn : ∀ b o, base.get? b = some o → (hidT sh.heap hid).get? b = some o := fun b o z => hidT_get (bs b o z) (off fun y => by rw [y, nb] at z; cases z)
    have X0 : K.In (hidT sh.heap hid) := mod.kin.keeps baseIn
    obtain ⟨env, henv⟩ : ∃ env, env = callEnv (PySem.W.fnX "__init__" qual params (initBody fld txt q) (initScope fld) [("__class__", cc)] dV kV doc pm an (.ref cda) ct) L fI := ⟨_, rfl⟩
    rw [← henv]
    have kind : env.scope.kind = .function := by rw [henv]; rfl
    have names : env.scope = initScope fld := by rw [henv]; rfl
    have ks : env.kindOf "super" = some .globalImplicit := by rw [henv]; exact sup_kind nsup
    have kc : env.kindOf "__class__" = some .free := by rw [henv]; exact cls_kind ncls
    have kself : env.kindOf "self" = some .local := by rw [henv]; rfl
    have kfld : env.kindOf fld = some .local := by rw [henv]; exact fld_kind nself
    have lself : ([(("self" : Str), Value.ref e), (fld, u)] : List (Str × Value)).reverse.lookup ("self" : Str) = some (.ref e) := self_look nself
    have lfld : ([(("self" : Str), Value.ref e), (fld, u)] : List (Str × Value)).reverse.lookup fld = some u := fld_look
    have X1 : K.In h1 := X0.keeps ground
    have bk1 : ∀ b o, base.get? b = some o → h1.get? b = some o := fun b o z => ground b o (baseIn b o z)
    obtain ⟨oD, hD1, hD2⟩ : ∃ oD, h1.get? C = some oD ∧ oD.data = .cls cdD := by
      unfold PySem.W.clsIn at hcls
      split at hcls
      · rename_i c d cd' sl ho
        cases hcls
        exact ⟨_, X1 _ _ ho, rfl⟩
      · cases hcls
    have I1 : PySem.W.InstAt h1 e (PySem.W.excObj C t0 none .none) C none := ⟨keep _ _ there, rfl, rfl, trivial⟩
    refine ks_wpAt_execs_cons (ks_wpAt_Expr_any (ks_wpAt_MethodCall (pl := pl env) ?_ (hev env)) ?int ?swap)
    case int => rw [henv]; rfl
    case swap => rw [henv]; rfl
    refine ks_wpAt_super_base ks kc (by decide) (f := fI) (by rw [henv]; rfl) (X1 _ _ look) rfl hpar (cc := cda) (by rw [henv]; rfl) (X1 _ _ hcode) rfl hvs hfile T.top ?_
    refine PySem.W.ks_loadName_global kind ks (loadGlobal_builtin (by rw [henv]; exact mod.glob.keeps bk1) T.sup (by rw [henv]; exact nsb.keeps bk1) ((boot _ (by decide)).trans (by decide +kernel)) ⟨rfl, ?_⟩)
    refine wpAny_loadName_free kind kc (by rw [henv]; rfl) ⟨_, X1 _ _ hcell, rfl⟩ ?_
    rw [ha1]
    refine wpAny_loadName_local kind kself (by rw [henv]; exact frame) lself ?_
    refine ks_wpAny_isType_cls hD1 hD2 ⟨rfl, ?_⟩
    refine ks_wpAny_call_super hD1 hD2 I1.at_ I1.cls (fun c z => by cases z) (PySem.W.looks_mroIn X1 T.self_) (fun h2 so2 keep2 => ?_)
    obtain ⟨F2, N2, _⟩ := PySem.W.ks_newsPush (s := ⟨h1, sh.gens, sh.drawn, sh.toks, sh.os⟩) F N rfl so2 keep2
    have I2 : PySem.W.InstAt h2 e (PySem.W.excObj C t0 none .none) C none := ⟨keep2 _ _ I1.at_, rfl, rfl, trivial⟩
    refine PySem.W.kxs_method PySem.W.kxs_ValueError F2 X0 N2 (.head _) I2 T.opq T.par T.val (by decide) (fun m3 h3 F3 N3 lt3 => ?_)
    refine PySem.W.kxs_callWith1 (i := "ValueError.__init__") (x := e) N3 (.head _) ?_
    show wpAny _ _ (spliced ((false, eval (.JoinedStr [.Constant (.str txt) q.n q.d, .FormattedValue (.Name fld q.e) (-1) none q.f] q.g) env) :: backTo q.h (starEach [] env))) _ _ _
    refine Calls.spliced_cons (wpAny_JoinedStr ?_)
    show Joins _ _ _ [eval (.Constant (.str txt) q.n q.d) env, eval (.FormattedValue (.Name fld q.e) (-1) none q.f) env] Str.empty _ _
    have el : (Str.empty ++ txt).length = txt.length := by
      show (Str.empty ++ txt).cps.size = txt.cps.size
      show (#[] ++ txt.cps).size = _
      simp
    have small : ∀ n : Nat, n ≤ 8000 → n ≤ sizeLine := fun n hn => Nat.le_trans hn (by decide)
    refine Constant_str ⟨txt, _, rfl, small _ (by rw [el]; omega), ?_⟩
    have al : ∀ y : Str, (Str.empty ++ txt ++ y).length = txt.length + y.length := fun y => by
      show (Str.empty ++ txt ++ y).cps.size = _
      have : (Str.empty ++ txt ++ y).cps = (Str.empty ++ txt).cps ++ y.cps := rfl
      rw [this, Array.size_append]
      have e2 : (Str.empty ++ txt).cps.size = txt.length := el
      rw [e2]
      rfl
    refine wpAny_FormattedValue_plain (wpAny_Name (wpAny_loadName_local kind kfld (by rw [henv]; exact F3.ns) lfld ?_) ndbg)
    have elt2 : e < m3 := lt3 (e, _) (.tail _ (.head _))
    have ups : PySem.W.UpdF e (PySem.W.excObj C t0 none .none) [(m3, PySem.W.kxs_mw "ValueError.__init__" e), (h1.objs.size, PySem.W.ks_superObj C e C), (e, PySem.W.excObj C t0 none .none)] (fun o' => (m3, PySem.W.kxs_mw "ValueError.__init__" e) :: (h1.objs.size, PySem.W.ks_superObj C e C) :: [(e, o')]) :=
      .tail (Nat.ne_of_gt elt2) (.tail (Nat.ne_of_gt (Nat.lt_trans elt len1)) (.head (fun p hp => by cases hp)))
    have rest : ∀ (y : Str) (ty : Tok) (s4 : Shared), s4.heap = h3 → s4.os = sh.os → s4.gens = sh.gens → y.length ≤ 4000 →
        ∃ y' t', Value.str y ty = .str y' t' ∧ (Str.empty ++ txt ++ y').length ≤ sizeLine ∧ Joins (model P w) (A.deeper env) (fun e s' => wpAny (model P w) (A.deeper env) (leaving env e) (fun _ s'' => R (Except.error e) s'') (fun e' s'' => R (Except.error e') s'') s') [] (Str.empty ++ txt ++ y') (fun out s₁ => out.length ≤ sizeLine ∧ wpAny (model P w) (A.deeper env) (spliced (backTo q.h (starEach [] env))) (fun vs s₂ => PySem.W.KxsAt "ValueError.__init__" m3 e s₂.heap ∧ wpAny (model P w) (A.deeper env) (call (.ref m3) (Value.str out s₁.toks :: vs)) (fun _ s' => PySem.wpAt (model P w) (A.deeper env) (Code.func (initBody fld txt q) env)
              (execs [Stmt.Assign [(Expr.Name ("self" : Str) q.j).Attribute fld q.k] (Expr.Name fld q.l) q.m] env) (fun f s' => R (Except.ok (Flow.ret (match f with | Flow.ret v => v | x => Value.none))) s')
              (fun e s' => wpAny (model P w) (A.deeper env) (leaving env e) (fun _ s'' => R (Except.error e) s'') (fun e' s'' => R (Except.error e') s'') s') s')
              (fun e s' => wpAny (model P w) (A.deeper env) (leaving env e) (fun _ s'' => R (Except.error e) s'') (fun e' s'' => R (Except.error e') s'') s') s₂) (fun e s' => wpAny (model P w) (A.deeper env) (leaving env e) (fun _ s'' => R (Except.error e) s'') (fun e' s'' => R (Except.error e') s'') s') { s₁ with toks := s₁.toks + 1 }) s4 := by
      rintro y ty ⟨hp4, g4, d4, tk4, os4⟩ rfl eo eg hy
      dsimp only at F3 N3 eo eg
      refine ⟨y, ty, rfl, small _ (by rw [al]; omega), small _ (by rw [al]; omega), ?_⟩
      refine Calls.spliced_nil ⟨PySem.W.kxs_at N3 (.head _), ?_⟩
      refine PySem.W.kxs_call (s := ⟨hp4, g4, d4, tk4 + 1, os4⟩) F3 X0 N3 PySem.F.excBase_ValueError T.exc (.head _) ups (by show 1 ≤ sizeLine; decide) (fun t5 h5 F5 N5 lt5 => ?_)
      subst eo eg
      obtain ⟨nm, qn, NN, bss, bm, sn, sub, ab, col, dd, k0, k1, k2, k3, k5, hC, hbm⟩ := T.at_.cls
      have hcl : PySem.W.clsIn K C = some { name := nm, bases := bss, mro := .ref C :: bm, ns := NN, qualname := qn, hasDict := true, slotNames := sn, subclasses := sub, abstract := ab, collection := col, hasDel := false } := by
        unfold PySem.W.clsIn
        rw [hC]
      have X5 : K.In h5 := X0.keeps F5.keep
      obtain ⟨he5, _, _⟩ := N5 (e, PySem.W.excObj C t5 none .none) (.tail _ (.tail _ (.tail _ (.head _))))
      refine ks_wpAt_execs_cons (ks_wpAt_Assign_Attr ?_ ?swap2)
      case swap2 => rw [henv]; rfl
      refine wpAt_of_wpAny (wpAny_Name (wpAny_loadName_local kind kfld (by rw [henv]; exact F5.ns) lfld ?_) ndbg)
      refine wpAny_Name (wpAny_loadName_local kind kself (by rw [henv]; exact F5.ns) lself ?_) (by decide)
      refine PySem.W.set_plain X5 (ox := PySem.W.excObj C t5 none .none) (od := none) ⟨he5, rfl, rfl, trivial⟩ T.at_.sa ?_
      refine PySem.HandSPX.exc_osa X5 he5 hcl (show PySem.HandSPX.refsVE (.ref C :: bm) = true from hbm) rfl T.nof (fun h6 tk6 dx keep6 dn dne hx6 hn6 => ?_)
      refine wpAt_of_wpAny (wpAny_execs_nil ?_)
      refine fin _ dx t5 rfl rfl (fun b o nb z => keep6 b o nb (F5.keep b o (hidT_get z (off nb)))) ?_ dne hx6 hn6
      have lt := F5.ns.lt
      rw [hL] at lt
      exact Nat.le_trans (Nat.le_of_lt lt) dn
    cases v with
    | str z =>
      obtain ⟨t, rfl⟩ := rel
      have e0 : z = txt2 := Option.some.inj as_
      subst e0
      exact wpAny_formatField_str (rest z t _ rfl rfl rfl short) (rest z _ _ rfl rfl rfl short) (small _ (by omega))
    | int i =>
      obtain ⟨t, rfl⟩ := rel
      have e0 : toString i = txt2 := by
        have := Option.some.inj as_
        exact this
      exact wpAny_formatField_int (big i rfl) (rest (Str.ofString (toString i)) _ _ rfl rfl rfl (by rw [show Str.ofString (toString i) = txt2 from e0]; exact short))
    | non => cases as_
    | bl b => cases as_
    | byt b => cases as_
    | flt b => cases as_
    | ref b => cases as_
    | ty b => cases as_
/-- the promise of such an __init__ -/
def sp_init (C : Addr) (fld : Str) : Sp := fun vs H Q _ => ∃ (e : Addr) (v : V) (z : Str), vs = [.ref e, v] ∧ inText v = some z ∧ z.length ≤ 4000 ∧ (∀ i, v = .int i → i.natAbs.log2 < 1920) ∧ H e = some (exo e C none) ∧ ∀ d H', H d = none → d ≠ e → H' = upd (upd H d (exd d [(fld, v)])) e (exo e C (some d)) → Q .non H'
theorem init_ok (T : IniC P K mg C fI fld txt) (few : txt.length ≤ 4000) (nself : ("self" : Str) ≠ fld) (nsup : ("super" : Str) ≠ fld) (ncls : ("__class__" : Str) ≠ fld) (ndbg : (fld == ("__debug__" : Str)) = false) :
    ∃ fd : FuncData, FnOk P w K mg base CX0 1 fI fd [("self" : Str), fld] (sp_init C fld) ∧ Binds K fd [("self" : Str), fld] [] := by
  obtain ⟨oc, ccl, cl, od, cdd, cld, osl, ccs, csl, qual, params, q, dV, kV, doc, pm, ct, an, cda, cc, vs, file, tf, cdD, ar1, pl, look, code, hpar, ha1, hbind, hev, hcode, hvs, hfile, hcell, hcls⟩ := T.fn
  refine ⟨_, ⟨?len, ?run⟩, .all fun us hl => match us, hl with | [a, b], _ => hbind a b⟩
  case len =>
    rintro vs H Q E ⟨e, v, z, rfl, _⟩
    rfl
  case run =>
    rintro A outer s H args us vs Q E room env binds rel ⟨e, v, z, rfl, as_, short, big, tracked, q⟩
    obtain ⟨u, rfl, r⟩ : ∃ u, us = [.ref e, u] ∧ RelV v u := by
      obtain ⟨a, b, rfl, ra, rb⟩ := vals2 rel
      obtain rfl : a = .ref e := ra
      exact ⟨b, rfl, rb⟩
    obtain ⟨t1, there⟩ := exo_at env.hok tracked
    refine init_run T env.mod (fun b o z => (env.bs b o z).1) ?nb room.depth there r z as_ short few big nself nsup ncls ndbg _ (fun s' dx t2 os gens keep dn dne hx hn => ?_) args (fun fd' ⟨oc', od', osl', look'⟩ => ?_)
    case nb =>
      match y : base.get? e with
      | none => rfl
      | some o =>
        have := (env.bs e o y).2
        rw [tracked] at this
        cases this
    · have free : H dx = none := env.hok.fresh dn
      have far : ∀ {b : Addr}, H b = none → b ≠ e := fun {b} n y => by
        rw [y, tracked] at n
        cases n
      have apart : ∀ {b : Addr} {o : Obj}, s.heap.get? b = some o → b ≠ dx := fun {b o} y => Nat.ne_of_lt (Nat.lt_of_lt_of_le (Heap.lt_size y) dn)
      refine ⟨.non, upd (upd H dx (exd dx [(fld, v)])) e (exo e C (some dx)), os, by rw [gens]; exact env.bare, ?un, ?ok, rfl, q dx _ free dne rfl⟩
      case un =>
        constructor
        · intro b o y none_ _ _
          exact keep b o (far none_) y
        · intro b o y none_ _ _
          exact ⟨o.slots, keep b o (far none_) y⟩
        · intro b o y none_ _
          rw [upd_ne (far none_), upd_ne (apart y)]
          exact none_
        · intro b o y _
          by_cases at_ : b = e
          · exact ⟨_, by rw [at_]; exact hx⟩
          · exact ⟨o, keep b o at_ y⟩
        · intro b xs y
          rw [upd_ne (at_ne tracked y exo_tup), upd_ne (ne_of_none y free)]
          exact y
        · intro b o x y
          rw [upd_ne (at_ne tracked y exo_frz), upd_ne (ne_of_none y free)]
          exact y
        · intro b ps y
          refine ⟨#[], ?_⟩
          rw [upd_ne (at_ne tracked y exo_tbl), upd_ne (ne_of_none y free), y, Array.append_empty]
      case ok =>
        intro b o y
        by_cases at_ : b = e
        · subst at_
          rw [upd_same] at y
          obtain rfl := Option.some.inj y
          exact exo_ok hx
        · rw [upd_ne at_] at y
          by_cases new : b = dx
          · subst new
            rw [upd_same] at y
            obtain rfl := Option.some.inj y
            exact exd_ok hn (relO_put (fs := []) r fun _ => trivial)
          · rw [upd_ne new] at y
            refine (env.hok b o y).stay (fun c x own look2 => keep c x ?_ look2) (fun c own => ?_) (fun c xs tup => ?_)
            · rcases own with own | own
              · rw [own]
                exact at_
              · exact at_ne tracked own exo_own
            · rw [upd_ne (at_ne tracked own exo_own), upd_ne (ne_of_none own free)]
              exact own
            · rw [upd_ne (at_ne tracked tup exo_tup), upd_ne (ne_of_none tup free)]
              exact tup
    · rw [look] at look'
      cases look'
      exact binds
end
/-- such a class may be raised -/
structure IniOk (P : Program) (w : World) (K : PySem.W.Frag) (mg : Str → Option Value) (base : Heap) (x fld : Str) : Prop where
  ex : ∃ (C fI : Addr) (fd : FuncData), mg x = some (.ref C) ∧ OexC K C ∧ PySem.W.findIn K (.ref C) "__init__" = some (some (.ref fI)) ∧ PySem.W.typeIn K (.ref fI) = some (.type "function") ∧ FnOk P w K mg base CX0 1 fI fd [("self" : Str), fld] (sp_init C fld) ∧ Binds K fd [("self" : Str), fld] []
theorem pmk_ini {X : Cx} {j : Nat} {x fld : Str} {e : Expr} {ta : TA} {p pos : Pos} (c : IniOk X.prog X.w X.K X.mg X.base x fld) (hr : Room j X.A) (hk : 2 ≤ j) (hg : Gl X x) (ha : PA X [e] ta) (hdb : (x == ("__debug__" : Str)) = false := by decide)
    (he : starEach [e] X.env = (false, eval e X.env) :: starEach [] X.env := by rfl) (hpl : (backTo pos (starEach [] X.env)).any (·.1) = false := by rfl) : PMk X (.Call (.Name x p) [e] [] pos) (tMkO (clsA X.mg x) (sp_init (clsA X.mg x) fld) [] ta) := by
  obtain ⟨C, fI, fd, at_, oex, ini, typ, fn, binds⟩ := c.ex
  rw [clsA_of at_]
  exact pmk_oex oex ini typ fn (hr.mono hk) binds .nil pass0 hg at_ ha hdb he hpl
theorem ini_go {C : Addr} {fld : Str} {H1 : Hp} {v : V} {z : Str} {Q : XK} (as_ : inText v = some z) (short : z.length ≤ 4000) (big : ∀ i, v = .int i → i.natAbs.log2 < 1920) (go : ∀ d H2, Same H1 H2 → H2 d = some (.xd [(fld, v)]) → Q (.ref C) (some d) H2) :
    [v].length ≤ 1000 ∧ ∀ a, H1 a = none → sp_init C fld (.ref a :: ([v] ++ [])) (upd H1 a (exo a C none)) (fun v H2 => v = .non ∧ ∃ (d : Addr) (fs : List (Str × V)), H2 a = some (exo a C (some d)) ∧ H2 d = some (exd d fs) ∧ H1 d = none ∧ Q (.ref C) (some d) (upd (del H2 a) d (.xd fs))) (fun _ _ _ => False) := by
  refine ⟨by show 1 ≤ 1000; decide, fun a na => ⟨a, v, z, rfl, as_, short, big, upd_same, fun d H' nd dne eq => ?_⟩⟩
  rw [upd_ne dne] at nd
  subst eq
  refine ⟨rfl, d, [(fld, v)], upd_same, by rw [upd_ne dne, upd_same], nd, go d _ (fun b o y => ?_) upd_same⟩
  have na2 := ne_of_none y na
  rw [upd_ne (ne_of_none y nd), del_ne na2, upd_ne na2, upd_ne (ne_of_none y nd), upd_ne na2]
  exact y
/-- isinstance(e, c) of a kept error that has a field -/
def rIsKd (K : PySem.W.Frag) : List V → Hp → VK → Prop := fun args H Q => ∃ (a D dd : Addr) (fs : List (Str × V)) (c : V) (cv : Value) (b : Bool), args = [.ref a, c] ∧ ExcC K D ∧ H a = some (ExK (.ref D) (some dd) a) ∧ H dd = some (.xd fs) ∧ (∀ u, RelV c u → u = cv) ∧ PySem.W.kitOne K (.ref D) cv = some b ∧ Q (.bl b) H
theorem call_isKd {X : Cx} : CallR X (.builtin "isinstance") (rIsKd X.K) := by
  intro pl sh st hp args vals Q inv rel told
  obtain ⟨a, D, dd, fs, c, cv, b, rfl, fit, kept, dict, named, is_, q⟩ := told
  obtain ⟨a2, u, rfl, ra, r1⟩ := vals2 rel
  obtain rfl : a2 = Value.ref a := ra
  obtain rfl := named u r1
  obtain ⟨⟨⟨_, _, dat, _⟩, fl, there, ⟨isD, hasDict⟩, flds⟩, _, _⟩ := inv.hok a _ kept
  dsimp only at isD hasDict flds
  subst isD hasDict flds
  obtain ⟨mA, ⟨od, es, ep, ho, _⟩, _⟩ := (show ObjOk X.prog X.w hp sh.heap dd (.xd fs) from inv.hok dd _ dict)
  have known : (PySem.W.clsIn X.K D).isSome = true := by
    have := fit.hm
    unfold PySem.W.mroIn at this
    match z : PySem.W.clsIn X.K D with
    | some _ => rfl
    | none =>
      rw [z] at this
      cases this
  refine PySem.W.kia_one (PySem.W.kitx_exc (od := some od) known fit.hg fit.hk fit.hs fit.ha fit.hn fit.ht fit.hm) inv.kIn ⟨there, rfl, rfl, ho⟩ is_ (fun z => by cases z) fun toks => ?_
  exact ⟨.bl b, hp, inv.kept (t' := toks) fun _ _ g => g, rfl, q⟩
/-- e.f of a kept error -/
def tKf (C : Addr) (f : Str) (te : TE) : TE := fun σ H Q => te σ H fun x H1 => ∃ (a dd : Addr) (fs : List (Str × V)) (v : V), x = .ref a ∧ H1 a = some (ExK (.ref C) (some dd) a) ∧ H1 dd = some (.xd fs) ∧ fs.lookup f = some v ∧ Q v H1
theorem pe_kf {X : Cx} {C : Addr} {e : Expr} {te : TE} {pos : Pos} {n : Str} (T : ExcC X.K C) (nof : PySem.W.findIn X.K (.ref C) n = some none) (he : PE X e te) (hb : attributeBase e n X.env (eval e X.env) = eval e X.env := by rfl) : PE X (.Attribute e n pos) (tKf C n te) := by
  constructor
  intro pins s σ H Q inv told
  refine attr_of hb (thn (he.run pins s σ H _ inv told) fun u s1 ended => ?_)
  obtain ⟨x, H1, inv1, rel, a, dd, fs, v, rfl, kept, dict, field, q⟩ := ended
  obtain rfl : u = Value.ref a := rel
  obtain ⟨⟨ob, fl, there, kind, flds⟩, _, _⟩ := inv1.hok a _ kept
  obtain ⟨mA, hns, fits⟩ := (show ObjOk X.prog X.w H1 s1.heap dd (.xd fs) from inv1.hok dd _ dict)
  obtain ⟨od, ho, look⟩ := lookIn_ns hns
  obtain ⟨w2, hw, rw2⟩ := RelO.some_of (v := v) (o := mA n) (by rw [← field]; exact fits n)
  have inst : PySem.W.InstAt s1.heap a ob C (some od) := ⟨there, kind.1, by unfold PySem.W.notCls; rw [flds] <;> rfl, by rw [kind.2]; exact ho⟩
  exact HandSPX.exc_get inv1.kIn inst T.hg T.hk T.hs (PySem.W.findObj_own T.hd nof rfl (by rw [look, hw])) (handed_of rw2) ⟨v, H1, inv1.tok _, rw2, q⟩
/-! ### the facts of such a class, as the top leaves them -/
structure ProgF (P : Program) : Prop where
  file : ((P.main.file : Str) == "/claim/cut.py") = true
  top : (P.main.scope.names.lookup ("super" : Str)).isSome = false
/-- an own class of errors with an __init__ of its own -/
structure IniK (K : PySem.W.Frag) (mg : Str → Option Value) (C : Addr) (fld txt : Str) : Prop where
  fn : ∃ (fI : Addr) (oc ccl cl : Value) (od cdd cld : Option Addr) (osl ccs csl : Array (Option Value)) (qual : Str) (params : Arguments) (q : InitPos) (dV kV doc pm ct : Value) (an : Option Addr) (cda cc : Addr) (vs : Array Value) (tf : Tok) (ar1 : Arg) (pl : Env → Sem Bool),
    K.lookup fI = some ⟨oc, od, .func (PySem.W.fnX "__init__" qual params (initBody fld txt q) (initScope fld) [("__class__", cc)] dV kV doc pm an (.ref cda) ct), osl⟩ ∧ PySem.W.codeIn K (.ref cda) qual = true ∧
    (params.posonlyargs ++ params.args).head? = some ar1 ∧ ar1.arg = "self" ∧ (∀ a b : Value, bindArgs (PySem.W.fnX "__init__" qual params (initBody fld txt q) (initScope fld) [("__class__", cc)] dV kV doc pm an (.ref cda) ct) ⟨[a, b], []⟩ = pure [(("self" : Str), a), (fld, b)]) ∧
    (∀ env : Env, eval (.Call (.Attribute (.Call (.Name "super" q.a) [] [] q.b) "__init__" q.c) [.JoinedStr [.Constant (.str txt) q.n q.d, .FormattedValue (.Name fld q.e) (-1) none q.f] q.g] [] q.h) env = (do
      let ov ← attributeBase (.Call (.Name "super" q.a) [] [] q.b) "__init__" env (eval (.Call (.Name "super" q.a) [] [] q.b) env)
      standAt q.c.atName
      let (f, first) ← holding [ov] (getMethod ov "__init__" (pl env))
      callWith q.h f first (backTo q.h (starEach [.JoinedStr [.Constant (.str txt) q.n q.d, .FormattedValue (.Name fld q.e) (-1) none q.f] q.g] env)) [])) ∧
    K.lookup cda = some ⟨ccl, cdd, .fields vs, ccs⟩ ∧ vs[2]? = some (.str "/claim/cut.py" tf) ∧ K.lookup cc = some ⟨cl, cld, .cell (some (.ref C)), csl⟩ ∧
    PySem.W.findIn K (.ref C) "__init__" = some (some (.ref fI)) ∧ PySem.W.typeIn K (.ref fI) = some (.type "function")
  at_ : OexC K C
  sup : mg "super" = none
  self_ : PySem.W.mroIn K C (.ref C) = some true
  par : PySem.W.ks_superIn K C C "__init__" = some (some (.builtin "ValueError.__init__"))
  val : PySem.W.subIn K (.ref C) (.type "ValueError") = some true
  opq : PySem.W.nsIn K cStatics "thirdparty.any" = some none
  exc : PySem.W.excInitIn K C [.type "ValueError", .type "Exception", .type "BaseException", .type "object"] "ValueError.__new__" = true
  nof : PySem.W.findIn K (.ref C) fld = some none
theorem clsIn_mro {K : PySem.W.Frag} {C : Addr} {b : Value} {r : Bool} (h : PySem.W.mroIn K C b = some r) : ∃ cd, PySem.W.clsIn K C = some cd := by
  unfold PySem.W.mroIn at h
  match z : PySem.W.clsIn K C with
  | some cd => exact ⟨cd, rfl⟩
  | none =>
    rw [z] at h
    cases h
theorem tail_refs (l : List Value) (h : PySem.W.excTail [.type "ValueError", .type "Exception", .type "BaseException", .type "object"] l = true) : HandSPX.refsVE l = true := by
  induction l with
  | nil => cases h
  | cons v l ih =>
    cases v with
    | ref c => exact ih h
    | _ => exact h
/-- from what is told of a class without its object -/
theorem oex_by {K : PySem.W.Frag} {C : Addr} (q : PySem.W.excInitIn K C [.type "ValueError", .type "Exception", .type "BaseException", .type "object"] "ValueError.__new__" = true) (hd : PySem.W.hasDictIn K C = true)
    (sa : PySem.W.findIn K (.ref C) "__setattr__" = some (some (.builtin "object.__setattr__"))) (b : PySem.W.subIn K (.ref C) (.type "BaseException") = some true) (t : PySem.W.typeIn K (.ref C) = some (.type "type")) (k : PySem.W.keepIn K (.ref C) = true) : OexC K C := by
  refine ⟨?_, sa, b, t, k⟩
  unfold PySem.W.hasDictIn at hd
  unfold PySem.W.excInitIn at q
  split at q
  · rename_i dd cd sl ho
    have hc : PySem.W.clsIn K C = some cd := by
      unfold PySem.W.clsIn
      rw [ho]
    rw [hc] at hd
    split at q
    · rename_i C' bm k0 k1 k2 k3 n k5 hm hs
      simp only [Bool.and_eq_true, beq_iff_eq, Bool.not_eq_true'] at q
      obtain ⟨⟨⟨rfl, rfl⟩, hdel⟩, ht⟩ := q
      obtain ⟨nm, bs, mro, ns, qn, hdct, sn, sb, ab, col, del⟩ := cd
      dsimp only at hm hdel hd
      subst hm hdel
      have hd : hdct = true := hd
      subst hd
      obtain ⟨sl⟩ := sl
      have hs : sl = _ := hs
      subst hs
      refine ⟨nm, qn, ns, bs, bm, sn, sb, ab, col, dd, k0, k1, k2, k3, k5, ?_, ?_⟩
      · rw [ho]
      · exact tail_refs bm ht
    · cases q
  · cases q
theorem IniK.ok {P : Program} {w : World} {K : PySem.W.Frag} {mg : Str → Option Value} {base : Heap} {x fld txt : Str} (T : IniK K mg (clsA mg x) fld txt) (Z : ProgF P) (at_ : mg x = some (.ref (clsA mg x))) (few : txt.length ≤ 4000 := by decide) (nself : ("self" : Str) ≠ fld := by decide) (nsup : ("super" : Str) ≠ fld := by decide)
    (ncls : ("__class__" : Str) ≠ fld := by decide) (ndbg : (fld == ("__debug__" : Str)) = false := by decide) : IniOk P w K mg base x fld := by
  obtain ⟨fI, oc, ccl, cl, od, cdd, cld, osl, ccs, csl, qual, params, q, dV, kV, doc, pm, ct, an, cda, cc, vs, tf, ar1, pl, look, code, hpar, ha1, hbind, hev, hcode, hvs, hcell, hini, htyp⟩ := T.fn
  obtain ⟨cdD, hcls⟩ := clsIn_mro T.self_
  have C0 : IniC P K mg (clsA mg x) fI fld txt := ⟨T.at_, ⟨oc, ccl, cl, od, cdd, cld, osl, ccs, csl, qual, params, q, dV, kV, doc, pm, ct, an, cda, cc, vs, "/claim/cut.py", tf, cdD, ar1, pl, look, code, hpar, ha1, hbind, hev, hcode, hvs, Z.file, hcell, hcls⟩, Z.top, T.sup, T.self_, T.par, T.val, T.opq, T.exc, T.nof, hini, htyp⟩
  obtain ⟨fd, ok, binds⟩ := init_ok (w := w) (base := base) C0 few nself nsup ncls ndbg
  exact ⟨_, fI, fd, at_, T.at_, hini, htyp, ok, binds⟩
end Kt
/-! KtMe1: e.__class__ of an own error, and the __name__ of its class. -/
namespace Kt
open PySem PySem.Spec PySem.Calls PyProof.Rows L2 PySem.W
section
variable {P : Program} {w : World} {A : Around} {E : Value → Shared → Prop} {s : Shared} {K : PySem.W.Frag} {x C : Addr} {ox : Obj} {od : Option Obj}
/-- what the written part says of a class of errors of which one may ask the name -/
structure NameC (K : PySem.W.Frag) (C : Addr) (nm : Str) : Prop where
  ga : findIn K (.ref C) "__getattribute__" = some (some (.builtin "BaseException.__getattribute__"))
  gt : findIn K (.ref C) "__getattr__" = some none
  sub : subIn K (.ref C) (.type "BaseException") = some true
  cl : findIn K (.ref C) "__class__" = some (some (.builtin "object.__class__"))
  gs : specialIn K (.builtin "object.__class__") "__get__" = some (some (.builtin "getset_descriptor.__get__"))
  tk : takesIn K (.builtin "object.__class__") = some true
  ob : mroIn K C (.type "object") = some true
  rd : readsIn K C (.type "type") = true
  nf : findCls K (.ref C) (.type "type") "__name__" = some (.get (.builtin "getset_descriptor.__get__") (.builtin "type.__name__") (.ref C) (.type "type"))
  at_ : ∃ (c : Value) (dd : Option Addr) (cd : ClassData) (sl : Array (Option Value)) (t : Tok), K.lookup C = some ⟨c, dd, .cls cd, sl⟩ ∧ sl[2]? = some (some (.str nm t))
  few : nm.length ≤ 1000
theorem cls_of_err {expr : Bool} {Q : Value → Shared → Prop} {nm : Str} (X : K.In s.heap) (I : InstAt s.heap x ox C od) (T : NameC K C nm) (q : Q (.ref C) { s with toks := s.toks + 1 }) : wpAny (model P w) A (getAttr (.ref x) "__class__" expr) Q E s := by
  have known : (clsIn K C).isSome = true := by
    obtain ⟨c, dd, cd, sl, t, e, _⟩ := T.at_
    unfold clsIn
    rw [e]
    rfl
  have found := findObj_dataE (od := od) known T.cl T.gs T.tk
  obtain ⟨hp, g, dr, t, os⟩ := s
  have l0 := I.type (M := model P w)
  have l1 := looks_findIn (M := model P w) X T.ga
  have l2 := looks_findIn (M := model P w) X T.gt
  have l3 := looks_find (M := model P w) X I found
  have under : Looks (model P w) hp (isInstance (.ref x) (.type "BaseException")) true := l0.andThen (looks_subIn X T.sub)
  have n1 : (Value.builtin "BaseException.__getattribute__" == Value.builtin "object.__getattribute__") = false := by decide +kernel
  refine wpAny_bind (wpAny_mkText (wpAny_holding (wpAny_bind (l0.at (wpAny_bind (l1.at ?_))))))
  show wpAny _ _ (if (onTheHeap (Value.ref C) && _) = true then _ else _) _ _ _
  rw [n1, Bool.and_false, if_neg Bool.false_ne_true]
  unfold getAttrByItsOwn hookBefore
  refine wpAny_bind ?_
  rw [if_pos (show onTheHeap (Value.ref C) = true from rfl)]
  refine l2.at (wpAny_bind (wpAny_attempt (wpAny_holding ?_)))
  unfold callGetattribute
  rw [show (expr && onTheHeap (Value.builtin "BaseException.__getattribute__")) = false from by cases expr <;> rfl, if_neg Bool.false_ne_true]
  unfold boundAndCalled
  rw [PySem.F.excAttr_ValueError.ga.bind (.ref x)]
  refine wpAny_bind (wpAny_pure ?_)
  show wpAny _ _ (call (.builtin "BaseException.__getattribute__") [.ref x, .str "__class__" t]) _ _ _
  refine wpAny_call (codeAny_call_builtin PySem.F.excAttr_ValueError.ga.plain PySem.F.entry_bexc_ga ?_)
  refine @PySem.W.check_slot (model P w) _ _ ⟨hp, g, dr, t + 1, os⟩ "BaseException.__getattribute__" "BaseException" "__getattribute__" (.ref x) [.str "__class__" t] [] _ (by decide +kernel) (by decide +kernel) under (PySem.F.args_bexc_ga (.ref x) (.str "__class__" t)) ?_
  unfold Builtin.«object.__getattribute__»
  refine wpAny_bind (wpAny_of_eq (a := ((Value.ref x : Value), [Value.str "__class__" t])) (by first | rfl | (simp only [slotArgs]; rfl)) ?_)
  refine wpAny_bind (wpAny_pure (wpAny_bind (l0.at (wpAny_bind (l3.at ?_)))))
  refine wpAny_bind (wpAny_holding (wpAny_call (class_get (s := ⟨hp, g, dr, t + 1, os⟩) (ox := ox) (od := od) X I T.ob ?_)))
  refine wpAny_pure ?_
  show wpAny _ _ (handedOut (.ref C)) _ _ _
  rw [handedOut_of (show handedIn (.ref C) = true from rfl)]
  exact wpAny_pure q
theorem dga_cls (d tp : Value) : Builtin.Getset_descriptor.descrGetArgs ⟨[d, .ref C, tp], []⟩ = pure (d, some (.ref C), given tp) := by rfl
theorem name_get {R : Result → Shared → Prop} {nm : Str} {tp : Value} (X : K.In s.heap) (T : NameC K C nm) (q : ∀ t, R (.ok (.ret (.str nm t))) s) :
    codeAny (model P w) A (.call (.builtin "getset_descriptor.__get__") ⟨[.builtin "type.__name__", .ref C, tp], []⟩) R s := by
  obtain ⟨c, dd, cd, sl, tn, e, e2⟩ := T.at_
  have hty : typeIn K (.ref C) = some (.type "type") := by
    have := T.rd
    simp only [readsIn, Bool.and_eq_true, beq_iff_eq] at this
    exact this.1.1.1.2
  obtain ⟨hh, g, dr, t, os⟩ := s
  have L0 : Looks (model P w) hh (typeOf (.ref C)) (.type "type") := looks_typeIn X hty
  have L1 : Looks (model P w) hh (isSubtype (.type "type") (.type "type")) true := Looks.of_pure (by rw [isSubtype_type]; kernel_rfl)
  have hC := X _ _ e
  refine codeAny_call_builtin KF.slot_gs.plain KF.entry_gs (KF.slot_gs.check _ _ _ _ _ _ _ _ ktyn_type (KF.args_gs _ _ _) ?_)
  unfold Builtin.«getset_descriptor.__get__» Builtin.Getset_descriptor.descrGet
  rw [dga_cls]
  refine wpAny_bind (wpAny_pure ?_)
  unfold Builtin.Getset_descriptor.descrGetter Builtin.Getset_descriptor.descrCheckInstance Builtin.Getset_descriptor.descrNameAndClass isInstance
  simp only [ktyn_owner]
  repeat lk
  refine ⟨Code.quiet_builtin _ (by decide +kernel), codeAny_builtin ktyn_entry ?_⟩
  unfold Builtin.«type.__name__»
  dsimp only
  unfold Builtin.keptObject
  dsimp only
  refine wpAny_bind ?_
  unfold slotAt
  refine wpAny_bind (wpAny_loadPart hC (wpAny_pure ?_))
  dsimp only
  rw [e2]
  first | exact wpAny_pure (q _) | exact q _ | trace_state
theorem name_of_cls {expr : Bool} {Q : Value → Shared → Prop} {nm : Str} (X : K.In s.heap) (T : NameC K C nm) (q : ∀ t, Q (.str nm t) { s with toks := s.toks + 1 }) : wpAny (model P w) A (getAttr (.ref C) "__name__" expr) Q E s := by
  refine cls_read X T.rd T.nf ?_
  show wpAny _ _ (do ret (← holding [Value.builtin "type.__name__"] (call (.builtin "getset_descriptor.__get__") [.builtin "type.__name__", .ref C, .type "type"]))) _ _ _
  refine wpAny_bind (wpAny_holding (wpAny_call (name_get (s := { s with toks := s.toks + 1 }) X T fun t => ?_)))
  exact wpAny_pure (handed_on rfl (q t))
/-- e.__class__.__name__.lower() -/
theorem lower_of_err {env : Env} {e : Expr} {p1 p2 p3 p4 : Pos} {Q : Value → Shared → Prop} {nm : Str} (X : K.In s.heap) (I : InstAt s.heap x ox C od) (T : NameC K C nm)
    (he : ∀ Q' : Value → Shared → Prop, Q' (.ref x) s → wpAny (model P w) A (eval e env) Q' E s) (hb : ∀ f : Str, attributeBase e f env (eval e env) = eval e env)
    (hb2 : attributeBase (.Attribute e "__class__" p1) "__name__" env (eval (.Attribute e "__class__" p1) env) = eval (.Attribute e "__class__" p1) env)
    (hb3 : attributeBase (.Attribute (.Attribute e "__class__" p1) "__name__" p2) "lower" env (eval (.Attribute (.Attribute e "__class__" p1) "__name__" p2) env) = eval (.Attribute (.Attribute e "__class__" p1) "__name__" p2) env)
    (hl : (p3.endLine == p4.line) = true) (q : ∀ z t u, Q (.str z t) { s with toks := u }) :
    wpAny (model P w) A (eval (.Call (.Attribute (.Attribute (.Attribute e "__class__" p1) "__name__" p2) "lower" p3) [] [] p4) env) Q E s := by
  refine Call_method0 hb3 hl (attr_of hb2 (attr_of (hb _) (he _ (cls_of_err X I T (name_of_cls (s := { s with toks := s.toks + 1 }) X T fun t => ?_)))))
  refine ⟨"str", _, PySem.F.plainAttrs_str, PySem.F.slot_str_lower, PySem.F.type_str_lower, typeIs_str _ _ _, (fun _ e => nomatch e), Calls.callWith_builtin rfl (PySem.evalArgs_none ?_)⟩
  exact PySem.SC.lower (PyProof.Rows.short24 (by have h1 := T.few; have := PyProof.Rows.len_lower nm; omega)) (q _ _ _)
end
end Kt
/-! KtMe2: the __init__ of the package's first class of errors: super().__init__(f"{why}"), then the word. -/
namespace Kt
open PySem PySem.Spec PySem.Calls PyProof.Rows L2
structure MePos where
  (a b c d e f g h i j k l m n o p : Pos)
abbrev meTxt (q : MePos) : Expr := .JoinedStr [.FormattedValue (.Name "why" q.d) (-1) none q.e] q.f
abbrev meSup (q : MePos) : Expr := .Call (.Attribute (.Call (.Name "super" q.a) [] [] q.b) "__init__" q.c) [meTxt q] [] q.g
abbrev meLow (q : MePos) : Expr := .Call (.Attribute (.Attribute (.Attribute (.Name "self" q.k) "__class__" q.l) "__name__" q.m) "lower" q.n) [] [] q.o
def meBody (q : MePos) : List Stmt := [.Expr (meSup q) q.h, .Assign [.Attribute (.Name "self" q.i) "word" q.j] (meLow q) q.p]
/-- what the written part says of that __init__, of the class at D -/
structure MeC (P : Program) (K : PySem.W.Frag) (mg : Str → Option Value) (D fM : Addr) : Prop where
  fn : ∃ (oc ccl cl : Value) (od cdd cld : Option Addr) (osl ccs csl : Array (Option Value)) (qual : Str) (params : Arguments) (q : MePos) (dV kV doc pm ct : Value) (an : Option Addr) (cda cc : Addr) (vs : Array Value) (file : Str) (tf : Tok) (cdD : ClassData) (ar1 : Arg) (pl : Env → Sem Bool),
    K.lookup fM = some ⟨oc, od, .func (PySem.W.fnX "__init__" qual params (meBody q) (initScope "why") [("__class__", cc)] dV kV doc pm an (.ref cda) ct), osl⟩ ∧ PySem.W.codeIn K (.ref cda) qual = true ∧
    (params.posonlyargs ++ params.args).head? = some ar1 ∧ ar1.arg = "self" ∧ (∀ (s : Shared) (a b : Value), K.In s.heap → BindsTo s (PySem.W.fnX "__init__" qual params (meBody q) (initScope "why") [("__class__", cc)] dV kV doc pm an (.ref cda) ct) ⟨[a, b], []⟩ [(("self" : Str), a), ("why", b)]) ∧
    (∀ env : Env, eval (meSup q) env = (do
      let ov ← attributeBase (.Call (.Name "super" q.a) [] [] q.b) "__init__" env (eval (.Call (.Name "super" q.a) [] [] q.b) env)
      standAt q.c.atName
      let (f, first) ← holding [ov] (getMethod ov "__init__" (pl env))
      callWith q.g f first (backTo q.g (starEach [meTxt q] env)) [])) ∧
    K.lookup cda = some ⟨ccl, cdd, .fields vs, ccs⟩ ∧ vs[2]? = some (.str file tf) ∧ ((P.main.file : Str) == file) = true ∧
    K.lookup cc = some ⟨cl, cld, .cell (some (.ref D)), csl⟩ ∧ PySem.W.clsIn K D = some cdD ∧ (q.n.endLine == q.o.line) = true
  top : (P.main.scope.names.lookup ("super" : Str)).isSome = false
  sup : mg "super" = none
/-- .. of a class at C that has this __init__ or comes to it by super() -/
structure MeOf (K : PySem.W.Frag) (D C : Addr) : Prop where
  at_ : OexC K C
  self_ : PySem.W.mroIn K C (.ref D) = some true
  par : PySem.W.ks_superIn K C D "__init__" = some (some (.builtin "ValueError.__init__"))
  val : PySem.W.subIn K (.ref C) (.type "ValueError") = some true
  opq : PySem.W.nsIn K cStatics "thirdparty.any" = some none
  exc : PySem.W.excInitIn K C [.type "ValueError", .type "Exception", .type "BaseException", .type "object"] "ValueError.__new__" = true
  nof : PySem.W.findIn K (.ref C) "word" = some none
  nm : ∃ nm, NameC K C nm
section
variable {P : Program} {w : World} {K : PySem.W.Frag} {mg : Str → Option Value} {A : Around} {base : Heap} {D C fM e t0 : Addr} {sh : Shared} {v : V} {u : Value}
theorem me_run (T : MeC P K mg D fM) (O : MeOf K D C) (mod : Mod K mg base) (bs : ∀ b o, base.get? b = some o → sh.heap.get? b = some o) (nb : base.get? e = none) (room : A.depth < recursionLimit)
    (there : sh.heap.get? e = some (PySem.W.excObj C t0 none .none)) (rel : RelV v u) (txt2 : Str) (as_ : inText v = some txt2) (short : txt2.length ≤ 5000) (big : ∀ i, v = .int i → i.natAbs.log2 < 1920)
    (R : Result → Shared → Prop)
    (fin : ∀ (s' : Shared) (dx t1 : Addr) (z : Str) (tz : Tok), s'.os = sh.os → s'.gens = sh.gens → (∀ b o, b ≠ e → sh.heap.get? b = some o → s'.heap.get? b = some o) → sh.heap.objs.size ≤ dx → dx ≠ e → s'.heap.get? e = some (PySem.W.excObj C t1 (some dx) .none) →
      s'.heap.Ns1 dx (fun y => if y = "word" then some (.str z tz) else none) → R (.ok (.ret .none)) s')
    (args : Args) (hargs : ∀ fd : FuncData, (∃ (oc : Value) (od : Option Addr) (osl : Array (Option Value)), K.lookup fM = some ⟨oc, od, .func fd, osl⟩) → BindsTo sh fd args [(("self" : Str), .ref e), ("why", u)]) :
    codeAny (model P w) A (.call (.ref fM) args) R sh := by
  obtain ⟨oc, ccl, cl, od, cdd, cld, osl, ccs, csl, qual, params, q, dV, kV, doc, pm, ct, an, cda, cc, vs, file, tf, cdD, ar1, pl, look, code, hpar, ha1, hbind, hev, hcode, hvs, hfile, hcell, hcls, hline⟩ := T.fn
  obtain ⟨nmz, NM⟩ := O.nm
  have X : K.In sh.heap := mod.kin.keeps bs
  obtain ⟨mb, nsb, boot⟩ := mod.blt
  refine ks_codeAny_call_defAt (fd := PySem.W.fnX "__init__" qual _ (meBody q) (initScope "why") [("__class__", cc)] dV kV doc pm an (.ref cda) ct) (body := meBody q) (binds := [("self", .ref e), ("why", u)]) room (X _ _ look) rfl (mod.nolimit.keeps bs) (PySem.W.codeRec_of X code) rfl ?binds ?nocell ?local_ ?run
  case binds => exact hargs _ ⟨_, _, _, look⟩
  case nocell =>
    intro z hz
    have hz : z = (("self" : Str), NameKind.local) ∨ z = (("why" : Str), NameKind.local) ∨ z = (("__class__" : Str), NameKind.free) ∨ z = (("super" : Str), NameKind.globalImplicit) := by simpa [initScope, PySem.W.fnX] using hz
    rcases hz with rfl | rfl | rfl | rfl <;> exact fun z => by cases z
  case local_ =>
    intro z hz
    have hz : z = (("self" : Str), Value.ref e) ∨ z = (("why" : Str), u) := by simpa using hz
    rcases hz with rfl | rfl <;> rfl
  case run =>
    intro h1 frame keep
    have len1 : sh.heap.objs.size < h1.objs.size := frame.lt
    obtain ⟨hid, hhid⟩ : ∃ hid : Hp, hid = fun b => if b = e then some (.own 0) else none := ⟨_, rfl⟩
    have off : ∀ {b : Addr}, b ≠ e → hid b = none := fun {b} n => by rw [hhid]; exact if_neg n
    have on : hid e ≠ none := by
      have z : hid e = some (.own 0) := by rw [hhid]; exact if_pos rfl
      rw [z]
      exact fun y => by cases y
    have elt : e < sh.heap.objs.size := Heap.lt_size there
    obtain ⟨L, hL⟩ : ∃ L, L = sh.heap.objs.size := ⟨_, rfl⟩
    have eL : e ≠ L := by rw [hL]; exact Nat.ne_of_lt elt
    have ground : ∀ b o, (hidT sh.heap hid).get? b = some o → h1.get? b = some o := fun b o z => keep b o (of_hidT z).1
    rw [← hL] at frame ⊢
    have F : Fr (hidT sh.heap hid) L h1 (fun x => ([("self", Value.ref e), ("why", u)] : List (Str × Value)).reverse.lookup x) := ⟨frame, ground, by rw [hL]; exact Nat.le_of_eq (hidT_size _ _)⟩
    have none_ : (hidT sh.heap hid).get? e = none := by
      match z : (hidT sh.heap hid).get? e with
      | none => rfl
      | some o => exact absurd (of_hidT z).2 on
    have N : News (hidT sh.heap hid) L h1 [(e, PySem.W.excObj C t0 none .none)] := fun p hp => by
      rw [List.mem_singleton.mp hp]
      exact ⟨keep _ _ there, eL, none_⟩
    have baseIn : ∀ b o, base.get? b = some o → (hidT sh.heap hid).get? b = some o := fun b o z => hidT_get (bs b o z) (off fun y => by rw [y, nb] at z; cases z)
    have X0 : K.In (hidT sh.heap hid) := mod.kin.keeps baseIn
    obtain ⟨env, henv⟩ : ∃ env, env = callEnv (PySem.W.fnX "__init__" qual params (meBody q) (initScope "why") [("__class__", cc)] dV kV doc pm an (.ref cda) ct) L fM := ⟨_, rfl⟩
    rw [← henv]
    have kind : env.scope.kind = .function := by rw [henv]; rfl
    have ks : env.kindOf "super" = some .globalImplicit := by rw [henv]; rfl
    have kc : env.kindOf "__class__" = some .free := by rw [henv]; rfl
    have kself : env.kindOf "self" = some .local := by rw [henv]; rfl
    have kwhy : env.kindOf "why" = some .local := by rw [henv]; rfl
    have lself : ([(("self" : Str), Value.ref e), ("why", u)] : List (Str × Value)).reverse.lookup ("self" : Str) = some (.ref e) := rfl
    have lwhy : ([(("self" : Str), Value.ref e), ("why", u)] : List (Str × Value)).reverse.lookup ("why" : Str) = some u := rfl
    have X1 : K.In h1 := X0.keeps ground
    have bk1 : ∀ b o, base.get? b = some o → h1.get? b = some o := fun b o z => ground b o (baseIn b o z)
    obtain ⟨oD, hD1, hD2⟩ : ∃ oD, h1.get? D = some oD ∧ oD.data = .cls cdD := by
      unfold PySem.W.clsIn at hcls
      split at hcls
      · rename_i c d cd' sl ho
        cases hcls
        exact ⟨_, X1 _ _ ho, rfl⟩
      · cases hcls
    have I1 : PySem.W.InstAt h1 e (PySem.W.excObj C t0 none .none) C none := ⟨keep _ _ there, rfl, rfl, trivial⟩
    refine ks_wpAt_execs_cons (ks_wpAt_Expr_any (ks_wpAt_MethodCall (pl := pl env) ?_ (hev env)) ?int ?swap)
    case int => rw [henv]; rfl
    case swap => rw [henv]; rfl
    refine ks_wpAt_super_base ks kc (by decide) (f := fM) (by rw [henv]; rfl) (X1 _ _ look) rfl hpar (cc := cda) (by rw [henv]; rfl) (X1 _ _ hcode) rfl hvs hfile T.top ?_
    refine PySem.W.ks_loadName_global kind ks (loadGlobal_builtin (by rw [henv]; exact mod.glob.keeps bk1) T.sup (by rw [henv]; exact nsb.keeps bk1) ((boot _ (by decide)).trans (by decide +kernel)) ⟨rfl, ?_⟩)
    refine wpAny_loadName_free kind kc (by rw [henv]; rfl) ⟨_, X1 _ _ hcell, rfl⟩ ?_
    rw [ha1]
    refine wpAny_loadName_local kind kself (by rw [henv]; exact frame) lself ?_
    refine ks_wpAny_isType_cls hD1 hD2 ⟨rfl, ?_⟩
    refine ks_wpAny_call_super hD1 hD2 I1.at_ I1.cls (fun c z => by cases z) (PySem.W.looks_mroIn X1 O.self_) (fun h2 so2 keep2 => ?_)
    obtain ⟨F2, N2, _⟩ := PySem.W.ks_newsPush (s := ⟨h1, sh.gens, sh.drawn, sh.toks, sh.os⟩) F N rfl so2 keep2
    have I2 : PySem.W.InstAt h2 e (PySem.W.excObj C t0 none .none) C none := ⟨keep2 _ _ I1.at_, rfl, rfl, trivial⟩
    refine PySem.W.kxs_method PySem.W.kxs_ValueError F2 X0 N2 (.head _) I2 O.opq O.par O.val (by decide) (fun m3 h3 F3 N3 lt3 => ?_)
    refine PySem.W.kxs_callWith1 (i := "ValueError.__init__") (x := e) N3 (.head _) ?_
    show wpAny _ _ (spliced ((false, eval (meTxt q) env) :: backTo q.g (starEach [] env))) _ _ _
    refine Calls.spliced_cons (wpAny_JoinedStr_one ?_)
    have small : ∀ n : Nat, n ≤ 8000 → n ≤ sizeLine := fun n hn => Nat.le_trans hn (by decide)
    have al : ∀ y : Str, (Str.empty ++ y).length = y.length := fun y => by
      show (Str.empty ++ y).cps.size = y.cps.size
      show (#[] ++ y.cps).size = _
      simp
    refine wpAny_FormattedValue_plain (wpAny_Name (wpAny_loadName_local kind kwhy (by rw [henv]; exact F3.ns) lwhy ?_) (by decide))
    have elt2 : e < m3 := lt3 (e, _) (.tail _ (.head _))
    have ups : PySem.W.UpdF e (PySem.W.excObj C t0 none .none) [(m3, PySem.W.kxs_mw "ValueError.__init__" e), (h1.objs.size, PySem.W.ks_superObj D e C), (e, PySem.W.excObj C t0 none .none)] (fun o' => (m3, PySem.W.kxs_mw "ValueError.__init__" e) :: (h1.objs.size, PySem.W.ks_superObj D e C) :: [(e, o')]) :=
      .tail (Nat.ne_of_gt elt2) (.tail (Nat.ne_of_gt (Nat.lt_trans elt len1)) (.head (fun p hp => by cases hp)))
    have rest : ∀ (y : Str) (ty : Tok) (s4 : Shared), s4.heap = h3 → s4.os = sh.os → s4.gens = sh.gens → y.length ≤ 5000 →
        wpAny (model P w) (A.deeper env) (spliced (backTo q.g (starEach [] env))) (fun vs s₂ => PySem.W.KxsAt "ValueError.__init__" m3 e s₂.heap ∧ wpAny (model P w) (A.deeper env) (call (.ref m3) (Value.str y ty :: vs)) (fun _ s' => PySem.wpAt (model P w) (A.deeper env) (Code.func (meBody q) env)
              (execs [Stmt.Assign [(Expr.Name ("self" : Str) q.i).Attribute "word" q.j] (meLow q) q.p] env) (fun f s' => R (Except.ok (Flow.ret (match f with | Flow.ret v => v | x => Value.none))) s')
              (fun e s' => wpAny (model P w) (A.deeper env) (leaving env e) (fun _ s'' => R (Except.error e) s'') (fun e' s'' => R (Except.error e') s'') s') s')
              (fun e s' => wpAny (model P w) (A.deeper env) (leaving env e) (fun _ s'' => R (Except.error e) s'') (fun e' s'' => R (Except.error e') s'') s') s₂) (fun e s' => wpAny (model P w) (A.deeper env) (leaving env e) (fun _ s'' => R (Except.error e) s'') (fun e' s'' => R (Except.error e') s'') s') s4 := by
      rintro y ty ⟨hp4, g4, d4, tk4, os4⟩ rfl eo eg hy
      dsimp only at F3 N3 eo eg
      refine Calls.spliced_nil ⟨PySem.W.kxs_at N3 (.head _), ?_⟩
      refine PySem.W.kxs_call (s := ⟨hp4, g4, d4, tk4, os4⟩) F3 X0 N3 PySem.F.excBase_ValueError O.exc (.head _) ups (by show 1 ≤ sizeLine; decide) (fun t5 h5 F5 N5 lt5 => ?_)
      subst eo eg
      obtain ⟨nm, qn, NN, bss, bm, sn, sub, ab, col, dd, k0, k1, k2, k3, k5, hC, hbm⟩ := O.at_.cls
      have hcl : PySem.W.clsIn K C = some { name := nm, bases := bss, mro := .ref C :: bm, ns := NN, qualname := qn, hasDict := true, slotNames := sn, subclasses := sub, abstract := ab, collection := col, hasDel := false } := by
        unfold PySem.W.clsIn
        rw [hC]
      have X5 : K.In h5 := X0.keeps F5.keep
      obtain ⟨he5, _, _⟩ := N5 (e, PySem.W.excObj C t5 none .none) (.tail _ (.tail _ (.tail _ (.head _))))
      have I5 : PySem.W.InstAt h5 e (PySem.W.excObj C t5 none .none) C none := ⟨he5, rfl, rfl, trivial⟩
      refine ks_wpAt_execs_cons (ks_wpAt_Assign_Attr ?_ ?swap2)
      case swap2 => rw [henv]; rfl
      refine wpAt_of_wpAny (lower_of_err (s := ⟨h5, sh.gens, d4, tk4, sh.os⟩) X5 I5 NM (fun Q' q' => wpAny_Name (wpAny_loadName_local kind kself (by rw [henv]; exact F5.ns) lself q') (by decide)) (fun f => by rfl) (by rfl) (by rfl) hline fun z tz u => ?_)
      refine wpAny_Name (wpAny_loadName_local kind kself (by rw [henv]; exact F5.ns) lself ?_) (by decide)
      refine PySem.W.set_plain X5 (ox := PySem.W.excObj C t5 none .none) (od := none) I5 O.at_.sa ?_
      refine PySem.HandSPX.exc_osa X5 he5 hcl (show PySem.HandSPX.refsVE (.ref C :: bm) = true from hbm) rfl O.nof (fun h6 tk6 dx keep6 dn dne hx6 hn6 => ?_)
      refine wpAt_of_wpAny (wpAny_execs_nil ?_)
      refine fin _ dx t5 z tz rfl rfl (fun b o nb z => keep6 b o nb (F5.keep b o (hidT_get z (off nb)))) ?_ dne hx6 hn6
      have lt := F5.ns.lt
      rw [hL] at lt
      exact Nat.le_trans (Nat.le_of_lt lt) dn
    cases v with
    | str z =>
      obtain ⟨t, rfl⟩ := rel
      have e0 : z = txt2 := Option.some.inj as_
      subst e0
      exact wpAny_formatField_str (rest z t _ rfl rfl rfl short) (rest z _ _ rfl rfl rfl short) (small _ (by omega))
    | int i =>
      obtain ⟨t, rfl⟩ := rel
      have e0 : toString i = txt2 := by
        have := Option.some.inj as_
        exact this
      exact wpAny_formatField_int (big i rfl) (rest (Str.ofString (toString i)) _ _ rfl rfl rfl (by rw [show Str.ofString (toString i) = txt2 from e0]; exact short))
    | non => cases as_
    | bl b => cases as_
    | byt b => cases as_
    | flt b => cases as_
    | ref b => cases as_
    | ty b => cases as_
end
end Kt
/-! KtMe3: raising a class of errors that has the package's __init__ (see KtMe2). -/
namespace Kt
open PySem PySem.Spec PySem.Calls PyProof.Rows L2
/-- the promise of that __init__ for errors of the class at C -/
def sp_me (C : Addr) : Sp := fun vs H Q _ => ∃ (e : Addr) (v : V) (z : Str), vs = [.ref e, v] ∧ inText v = some z ∧ z.length ≤ 5000 ∧ (∀ i, v = .int i → i.natAbs.log2 < 1920) ∧ H e = some (exo e C none) ∧ ∀ d y H', H d = none → d ≠ e → H' = upd (upd H d (exd d [("word", .str y)])) e (exo e C (some d)) → Q .non H'
section
variable {P : Program} {w : World} {K : PySem.W.Frag} {mg : Str → Option Value} {base : Heap} {D C fM : Addr}
theorem me_ok (T : MeC P K mg D fM) (O : MeOf K D C) : ∃ fd : FuncData, FnOk P w K mg base CX0 1 fM fd [("self" : Str), "why"] (sp_me C) ∧ Binds K fd [("self" : Str), "why"] [] := by
  have T0 := T
  obtain ⟨oc, ccl, cl, od, cdd, cld, osl, ccs, csl, qual, params, q, dV, kV, doc, pm, ct, an, cda, cc, vs, file, tf, cdD, ar1, pl, look, code, hpar, ha1, hbind, hev, hcode, hvs, hfile, hcell, hcls, hline⟩ := T.fn
  refine ⟨_, ⟨?len, ?run⟩, fun s us X hl => match us, hl with | [a, b], _ => hbind s a b X⟩
  case len =>
    rintro vs H Q E ⟨e, v, z, rfl, _⟩
    rfl
  case run =>
    rintro A outer s H args us vs Q E room env binds rel ⟨e, v, z, rfl, as_, short, big, tracked, q⟩
    obtain ⟨u, rfl, r⟩ : ∃ u, us = [.ref e, u] ∧ RelV v u := by
      obtain ⟨a, b, rfl, ra, rb⟩ := vals2 rel
      obtain rfl : a = .ref e := ra
      exact ⟨b, rfl, rb⟩
    obtain ⟨t1, there⟩ := exo_at env.hok tracked
    refine me_run T0 O env.mod (fun b o z => (env.bs b o z).1) ?nb room.depth there r z as_ short big _ (fun s' dx t1 y ty os gens keep dn dne hx hn => ?_) args (fun fd' ⟨oc', od', osl', look'⟩ => ?_)
    case nb =>
      match y : base.get? e with
      | none => rfl
      | some o =>
        have := (env.bs e o y).2
        rw [tracked] at this
        cases this
    · have free : H dx = none := env.hok.fresh dn
      have far : ∀ {b : Addr}, H b = none → b ≠ e := fun {b} n y => by
        rw [y, tracked] at n
        cases n
      have apart : ∀ {b : Addr} {o : Obj}, s.heap.get? b = some o → b ≠ dx := fun {b o} y => Nat.ne_of_lt (Nat.lt_of_lt_of_le (Heap.lt_size y) dn)
      refine ⟨.non, upd (upd H dx (exd dx [("word", .str y)])) e (exo e C (some dx)), os, by rw [gens]; exact env.bare, ?un, ?ok, rfl, q dx y _ free dne rfl⟩
      case un =>
        constructor
        · intro b o y none_ _ _
          exact keep b o (far none_) y
        · intro b o y none_ _ _
          exact ⟨o.slots, keep b o (far none_) y⟩
        · intro b o y none_ _
          rw [upd_ne (far none_), upd_ne (apart y)]
          exact none_
        · intro b o y _
          by_cases at_ : b = e
          · exact ⟨_, by rw [at_]; exact hx⟩
          · exact ⟨o, keep b o at_ y⟩
        · intro b xs y
          rw [upd_ne (at_ne tracked y exo_tup), upd_ne (ne_of_none y free)]
          exact y
        · intro b o x y
          rw [upd_ne (at_ne tracked y exo_frz), upd_ne (ne_of_none y free)]
          exact y
        · intro b ps y
          refine ⟨#[], ?_⟩
          rw [upd_ne (at_ne tracked y exo_tbl), upd_ne (ne_of_none y free), y, Array.append_empty]
      case ok =>
        intro b o z
        by_cases at_ : b = e
        · subst at_
          rw [upd_same] at z
          obtain rfl := Option.some.inj z
          exact exo_ok hx
        · rw [upd_ne at_] at z
          by_cases new : b = dx
          · subst new
            rw [upd_same] at z
            obtain rfl := Option.some.inj z
            exact exd_ok hn (relO_put (fs := []) (show RelV (.str y) (.str y ty) from ⟨ty, rfl⟩) fun _ => trivial)
          · rw [upd_ne new] at z
            refine (env.hok b o z).stay (fun c x own look2 => keep c x ?_ look2) (fun c own => ?_) (fun c xs tup => ?_)
            · rcases own with own | own
              · rw [own]
                exact at_
              · exact at_ne tracked own exo_own
            · rw [upd_ne (at_ne tracked own exo_own), upd_ne (ne_of_none own free)]
              exact own
            · rw [upd_ne (at_ne tracked tup exo_tup), upd_ne (ne_of_none tup free)]
              exact tup
    · rw [look] at look'
      cases look'
      exact binds
end
/-- such a class may be raised -/
structure MeOk (P : Program) (w : World) (K : PySem.W.Frag) (mg : Str → Option Value) (base : Heap) (x : Str) : Prop where
  ex : ∃ (C fM : Addr) (fd : FuncData), mg x = some (.ref C) ∧ OexC K C ∧ PySem.W.findIn K (.ref C) "__init__" = some (some (.ref fM)) ∧ PySem.W.typeIn K (.ref fM) = some (.type "function") ∧ FnOk P w K mg base CX0 1 fM fd [("self" : Str), "why"] (sp_me C) ∧ Binds K fd [("self" : Str), "why"] []
theorem pmk_me {X : Cx} {j : Nat} {x : Str} {e : Expr} {ta : TA} {p pos : Pos} (c : MeOk X.prog X.w X.K X.mg X.base x) (hr : Room j X.A) (hk : 2 ≤ j) (hg : Gl X x) (ha : PA X [e] ta) (hdb : (x == ("__debug__" : Str)) = false := by decide)
    (he : starEach [e] X.env = (false, eval e X.env) :: starEach [] X.env := by rfl) (hpl : (backTo pos (starEach [] X.env)).any (·.1) = false := by rfl) : PMk X (.Call (.Name x p) [e] [] pos) (tMkO (clsA X.mg x) (sp_me (clsA X.mg x)) [] ta) := by
  obtain ⟨C, fM, fd, at_, oex, ini, typ, fn, binds⟩ := c.ex
  rw [clsA_of at_]
  exact pmk_oex oex ini typ fn (hr.mono hk) binds .nil pass0 hg at_ ha hdb he hpl
theorem me_go {C : Addr} {H1 : Hp} {v : V} {z : Str} {Q : XK} (as_ : inText v = some z) (short : z.length ≤ 5000) (big : ∀ i, v = .int i → i.natAbs.log2 < 1920) (go : ∀ d y H2, Same H1 H2 → H2 d = some (.xd [("word", .str y)]) → Q (.ref C) (some d) H2) :
    [v].length ≤ 1000 ∧ ∀ a, H1 a = none → sp_me C (.ref a :: ([v] ++ [])) (upd H1 a (exo a C none)) (fun v H2 => v = .non ∧ ∃ (d : Addr) (fs : List (Str × V)), H2 a = some (exo a C (some d)) ∧ H2 d = some (exd d fs) ∧ H1 d = none ∧ Q (.ref C) (some d) (upd (del H2 a) d (.xd fs))) (fun _ _ _ => False) := by
  refine ⟨by show 1 ≤ 1000; decide, fun a na => ⟨a, v, z, rfl, as_, short, big, upd_same, fun d y H' nd dne eq => ?_⟩⟩
  rw [upd_ne dne] at nd
  subst eq
  refine ⟨rfl, d, [("word", .str y)], upd_same, by rw [upd_ne dne, upd_same], nd, go d y _ (fun b o z => ?_) upd_same⟩
  have na2 := ne_of_none z na
  rw [upd_ne (ne_of_none z nd), del_ne na2, upd_ne na2, upd_ne (ne_of_none z nd), upd_ne na2]
  exact z
/-- with a written text -/
theorem me_goT {C : Addr} {H1 : Hp} {z : Str} {Q : XK} (go : ∀ d y H2, Same H1 H2 → H2 d = some (.xd [("word", .str y)]) → Q (.ref C) (some d) H2) (short : z.length ≤ 5000 := by decide) :
    [V.str z].length ≤ 1000 ∧ ∀ a, H1 a = none → sp_me C (.ref a :: ([V.str z] ++ [])) (upd H1 a (exo a C none)) (fun v H2 => v = .non ∧ ∃ (d : Addr) (fs : List (Str × V)), H2 a = some (exo a C (some d)) ∧ H2 d = some (exd d fs) ∧ H1 d = none ∧ Q (.ref C) (some d) (upd (del H2 a) d (.xd fs))) (fun _ _ _ => False) :=
  me_go rfl short (fun i e => by cases e) go
/-! ### the facts of such classes, as the top leaves them -/
/-- of the first class, x0, whose __init__ it is -/
structure MeK (K : PySem.W.Frag) (mg : Str → Option Value) (D : Addr) : Prop where
  fn : ∃ (fM : Addr) (oc ccl cl : Value) (od cdd cld : Option Addr) (osl ccs csl : Array (Option Value)) (qual : Str) (params : Arguments) (q : MePos) (dV kV doc pm ct : Value) (an : Option Addr) (cda cc : Addr) (vs : Array Value) (tf : Tok) (ar1 : Arg) (pl : Env → Sem Bool),
    K.lookup fM = some ⟨oc, od, .func (PySem.W.fnX "__init__" qual params (meBody q) (initScope "why") [("__class__", cc)] dV kV doc pm an (.ref cda) ct), osl⟩ ∧ PySem.W.codeIn K (.ref cda) qual = true ∧
    (params.posonlyargs ++ params.args).head? = some ar1 ∧ ar1.arg = "self" ∧ (∀ (s : Shared) (a b : Value), K.In s.heap → BindsTo s (PySem.W.fnX "__init__" qual params (meBody q) (initScope "why") [("__class__", cc)] dV kV doc pm an (.ref cda) ct) ⟨[a, b], []⟩ [(("self" : Str), a), ("why", b)]) ∧
    (∀ env : Env, eval (meSup q) env = (do
      let ov ← attributeBase (.Call (.Name "super" q.a) [] [] q.b) "__init__" env (eval (.Call (.Name "super" q.a) [] [] q.b) env)
      standAt q.c.atName
      let (f, first) ← holding [ov] (getMethod ov "__init__" (pl env))
      callWith q.g f first (backTo q.g (starEach [meTxt q] env)) [])) ∧
    K.lookup cda = some ⟨ccl, cdd, .fields vs, ccs⟩ ∧ vs[2]? = some (.str "/claim/cut.py" tf) ∧ K.lookup cc = some ⟨cl, cld, .cell (some (.ref D)), csl⟩ ∧ (q.n.endLine == q.o.line) = true ∧
    PySem.W.findIn K (.ref D) "__init__" = some (some (.ref fM)) ∧ PySem.W.typeIn K (.ref fM) = some (.type "function")
  sup : mg "super" = none
  self_ : PySem.W.mroIn K D (.ref D) = some true
/-- of a class at C that comes to it -/
structure MeS (K : PySem.W.Frag) (D C : Addr) : Prop where
  of : MeOf K D C
  ini : PySem.W.findIn K (.ref C) "__init__" = PySem.W.findIn K (.ref D) "__init__"
theorem MeK.c {P : Program} {K : PySem.W.Frag} {mg : Str → Option Value} {D : Addr} (T : MeK K mg D) (Z : ProgF P) : ∃ fM, MeC P K mg D fM ∧ PySem.W.findIn K (.ref D) "__init__" = some (some (.ref fM)) ∧ PySem.W.typeIn K (.ref fM) = some (.type "function") := by
  obtain ⟨fM, oc, ccl, cl, od, cdd, cld, osl, ccs, csl, qual, params, q, dV, kV, doc, pm, ct, an, cda, cc, vs, tf, ar1, pl, look, code, hpar, ha1, hbind, hev, hcode, hvs, hcell, hline, hini, htyp⟩ := T.fn
  obtain ⟨cdD, hcls⟩ := clsIn_mro T.self_
  exact ⟨fM, ⟨⟨oc, ccl, cl, od, cdd, cld, osl, ccs, csl, qual, params, q, dV, kV, doc, pm, ct, an, cda, cc, vs, "/claim/cut.py", tf, cdD, ar1, pl, look, code, hpar, ha1, hbind, hev, hcode, hvs, Z.file, hcell, hcls, hline⟩, Z.top, T.sup⟩, hini, htyp⟩
theorem MeS.ok {P : Program} {w : World} {K : PySem.W.Frag} {mg : Str → Option Value} {base : Heap} {D : Addr} {x : Str} (S : MeS K D (clsA mg x)) (T : MeK K mg D) (Z : ProgF P) (at_ : mg x = some (.ref (clsA mg x))) : MeOk P w K mg base x := by
  obtain ⟨fM, c, ini, typ⟩ := T.c Z
  obtain ⟨fd, ok, binds⟩ := me_ok (w := w) (base := base) c S.of
  exact ⟨_, fM, fd, at_, S.of.at_, S.ini.trans ini, typ, ok, binds⟩
end Kt
namespace Kt
open PySem PySem.Spec PyProof.Rows L2
/-- what a raise of such a class at C promises: an error with its dict, all else stands -/
def Err (E : XK) (C : Value) (H : Hp) : Prop := ∀ (d : Addr) (y : Str) (H' : Hp), Same H H' → H' d = some (.xd [("word", .str y)]) → E C (some d) H'
theorem Err.wk {E : XK} {C : Value} {H H' : Hp} (e : Err E C H) (s : Same H H') : Err E C H' := fun d y H2 s2 h => e d y H2 (s.trans s2) h
/-- an own class of errors that is caught or asked by its name -/
structure ExG (K : PySem.W.Frag) (mg : Str → Option Value) (x : Str) (C : Addr) : Prop where
  g : mg x = some (.ref C)
  b : PySem.W.subIn K (.ref C) (.type "BaseException") = some true
  t : PySem.W.typeIn K (.ref C) = some (.type "type")
  i : PySem.W.isClsIn K C = true
  s : PySem.W.subIn K (.ref C) (.ref C) = some true
theorem ExG.at {K : PySem.W.Frag} {mg : Str → Option Value} {x : Str} {C : Addr} (g : mg x = some (.ref C)) (b : PySem.W.subIn K (.ref C) (.type "BaseException") = some true) (t : PySem.W.typeIn K (.ref C) = some (.type "type")) (i : PySem.W.isClsIn K C = true)
    (s : PySem.W.subIn K (.ref C) (.ref C) = some true) : ExG K mg x (clsA mg x) := by
  rw [clsA_of g]
  exact ⟨g, b, t, i, s⟩
/-- it takes what isinstance says it takes -/
theorem exm_kitG {K : PySem.W.Frag} {mg : Str → Option Value} {x : Str} {C : Addr} {t : Value} (e : ExG K mg x C) (k : PySem.W.kitOne K t (.ref C) = some true) : PySem.W.exmOne K t (.ref C) = some true := by
  have k2 : PySem.W.kitCls K t (.ref C) = some true := by
    unfold PySem.W.kitOne at k
    by_cases h : (t == .ref C) = true
    · obtain rfl := beq_iff_eq.mp h
      show (if ((PySem.W.clsIn K C).isSome && PySem.W.typeIn K (.ref C) == some (.type "type")) = true then PySem.W.subIn K (.ref C) (.ref C) else none) = _
      rw [show (PySem.W.clsIn K C).isSome = true from e.i, e.t, e.s]
      rfl
    · rw [if_neg h] at k
      exact k
  unfold PySem.W.exmOne
  rw [e.b]
  exact k2
end Kt
/-! KtN1: dicts whose keys are texts, numbers, None and nested tuples of them, all in one dict. -/
namespace Kt
open PySem PySem.Spec PyProof.Rows

/-- a value that may be a key: k tells it up to == -/
def NK (h : Heap) (k : NestedKey) (v : Value) : Prop := NestedIs h k v ∧ k.depth ≤ 8
theorem NK.inj {h : Heap} {j k : NestedKey} {v : Value} (a : NK h j v) (b : NK h k v) : j = k := NestedIs.inj _ _ _ a.1 b.1
theorem NK.kept {h h' : Heap} {k : NestedKey} {v : Value} {d : Addr} {o : Obj} {es : Array DictEntry} {ep : Nat} (a : NK h k v) (ho : h.get? d = some o) (hd : o.data = .dict es ep) (same : Heap.SameBut d h h') : NK h' k v := by
  refine ⟨NestedIs.at (fun b q vs n hq dat => ?_) k v a.1, a.2⟩
  have far : b ≠ d := fun z => by
    subst z
    cases ho.symm.trans hq
    cases hd.symm.trans dat
  exact (same.2 b far).trans hq
/-- an entry by its key's reading -/
def enN (w : World) (x : NestedKey × Value × Value) : DictEntry := ⟨x.1.hash w, x.2.1, x.2.2⟩
section
variable {P : Program} {w : World} {A : Around} {E : Value → Shared → Prop} {s : Shared} {d : Addr} {xs : List (NestedKey × Value × Value)} {k : NestedKey} {key : Value}
theorem hash_nk {Q : Int → Shared → Prop} (hu : A.units + 8 < cLine) (hk : NK s.heap k key) (q : Q (k.hash w) { s with toks := s.toks + k.draws }) : wpAny (model P w) A (pyHash key) Q E s := by
  have := hk.2
  exact pyHash_key _ _ _ _ _ hk.1 (by omega) q
theorem eq_nk {j : NestedKey} {u : Value} {Q : Bool → Shared → Prop} (hu : A.units + 8 < cLine) (hj : NK s.heap j u) (hk : NK s.heap k key) (q : Q (decide (j = k)) s) : wpAny (model P w) A (PySem.eqBool u key) Q E s := by
  have := hj.2
  have := hk.2
  refine eqAt_key j k A s _ _ hj.1 hk.1 (by omega) _ _ _ _ ?_
  rw [← NestedKey.decide_eq]
  exact q
theorem quiet_nk {Q : Bool → Shared → Prop} (hk : NK s.heap k key) (q : Q true s) : wpAny (model P w) A (eqIsQuiet 8 key) Q E s := quiet_key k _ 8 s hk.1 hk.2 A E Q q
theorem mayTell_nk {stored : List Value} {Q : Bool → Shared → Prop} (hk : NK s.heap k key) (all : ∀ v ∈ stored, ∃ j, NK s.heap j v) (q : Q false s) : wpAny (model P w) A (tableMayTell key stored) Q E s := by
  unfold tableMayTell
  split
  · exact wpAny_pure q
  · refine wpAny_bind (quiet_nk hk ?_)
    simp only [Bool.not_true, Bool.false_eq_true, if_false]
    refine wpAny_bind (wpAny_forIn_list _ (fun left acc now => now = s ∧ acc = (none, ()) ∧ left ⊆ stored) _ ?_ ?_ _ _ ⟨rfl, rfl, fun _ z => z⟩)
    · intro v left acc now I
      obtain ⟨rfl, rfl, sub⟩ := I
      obtain ⟨j, hj⟩ := all v (sub List.mem_cons_self)
      refine wpAny_bind (quiet_nk hj ?_)
      simp only [Bool.not_true, Bool.false_eq_true, if_false]
      exact wpAny_pure ⟨rfl, rfl, fun u hu => sub (List.mem_cons_of_mem _ hu)⟩
    · intro acc now I
      obtain ⟨rfl, rfl, _⟩ := I
      exact wpAny_pure q
end
end Kt
namespace Kt
open PySem PySem.Spec PyProof.Rows
/-- where the key k stands, or that it doesn't -/
def At (xs : List (NestedKey × Value × Value)) (k : NestedKey) (Q : Option Nat → Prop) : Prop :=
  (∃ j p, xs[j]? = some (k, p) ∧ Q (some j)) ∨ ((∀ (j : Nat) p, xs[j]? ≠ some (k, p)) ∧ Q none)
theorem one_place {xs : List (NestedKey × Value × Value)} (nd : (xs.map (·.1)).Nodup) {i j : Nat} {k : NestedKey} {p q : Value × Value} (a : xs[i]? = some (k, p)) (b : xs[j]? = some (k, q)) : i = j := by
  have a' : (xs.map (·.1))[i]? = some k := by rw [List.getElem?_map, a]; rfl
  have b' : (xs.map (·.1))[j]? = some k := by rw [List.getElem?_map, b]; rfl
  exact (List.getElem?_inj (List.getElem?_eq_some_iff.mp a').1 nd).mp (a'.trans b'.symm)
section
variable {P : Program} {w : World} {A : Around} {E : Value → Shared → Prop} {s : Shared} {d : Addr} {xs : List (NestedKey × Value × Value)} {k : NestedKey} {key : Value} {o : Obj} {es : Array DictEntry} {ep : Nat}
theorem enN_get (he : es.toList = xs.map (enN w)) (i : Nat) : es[i]? = (xs[i]?).map (enN w) := by rw [← Array.getElem?_toList, he, List.getElem?_map]
theorem enN_size (he : es.toList = xs.map (enN w)) : es.size = xs.length := by rw [← Array.length_toList, he, List.length_map]
abbrev spots (es : Array DictEntry) (h : Int) : List Nat := placesWithHash es.size (fun i => es[i]?.map (·.hash)) h
theorem spots_lt {h : Int} {i : Nat} (m : i ∈ spots es h) : i < es.size := by
  have := (List.mem_filter.mp m).1
  exact List.mem_range.mp this
theorem spots_mem (he : es.toList = xs.map (enN w)) {j : Nat} {p : Value × Value} (a : xs[j]? = some (k, p)) : j ∈ spots es (k.hash w) := by
  refine List.mem_filter.mpr ⟨List.mem_range.mpr ?_, ?_⟩
  · rw [enN_size he]
    exact (List.getElem?_eq_some_iff.mp a).1
  · show (es[j]?.map (·.hash) == some (k.hash w)) = true
    rw [enN_get he, a]
    simp [enN]
theorem spots_nodup {h : Int} : (spots es h).Nodup := List.Pairwise.filter _ List.nodup_range
theorem plain_nk {Q : Option Nat → Shared → Prop} (hu : A.units + 8 < cLine) (hk : NK s.heap k key) (ho : s.heap.get? d = some o) (hd : o.data = .dict es ep) (he : es.toList = xs.map (enN w))
    (his : ∀ x ∈ xs, NK s.heap x.1 x.2.1) (nd : (xs.map (·.1)).Nodup) (q : At xs k fun r => Q r s) : wpAny (model P w) A (dictWalkPlain d key (k.hash w) es (spots es (k.hash w))) Q E s := by
  unfold dictWalkPlain
  refine wpAny_bind (wpAny_forIn_list _ (fun left acc now => now = s ∧ acc = (none, ()) ∧ (∀ i ∈ left, i < es.size) ∧ ∀ (j : Nat) p, xs[j]? = some (k, p) → j ∈ left) _ ?_ ?_ _ _ ⟨rfl, rfl, fun i => spots_lt, fun j p => spots_mem he⟩)
  · intro i left acc now I
    obtain ⟨rfl, rfl, lt, has⟩ := I
    have il := lt i List.mem_cons_self
    obtain ⟨⟨j, u, v⟩, hx⟩ : ∃ y, xs[i]? = some y := ⟨xs[i]'(by rw [← enN_size he]; exact il), List.getElem?_eq_getElem _⟩
    have hj := his _ (List.mem_of_getElem? hx)
    have hex : es[i]? = some ⟨j.hash w, u, v⟩ := by rw [enN_get he, hx]; rfl
    have next : j ≠ k → (∀ i ∈ left, i < es.size) ∧ ∀ (j : Nat) p, xs[j]? = some (k, p) → j ∈ left := fun ne => ⟨fun i m => lt i (List.mem_cons_of_mem _ m), fun j' p y => by
      rcases List.mem_cons.mp (has j' p y) with rfl | m
      · rw [hx] at y
        cases y
        exact (ne rfl).elim
      · exact m⟩
    rw [hex]
    dsimp only
    by_cases hh : (j.hash w == k.hash w) = true
    · rw [if_pos hh]
      refine wpAny_bind (wpAny_dictEpoch ho hd (wpAny_bind (eq_nk hu hj hk (wpAny_bind (wpAny_dictEpoch ho hd ?_)))))
      show wpAny _ _ (if (ep != ep) = true then _ else _) _ E _
      rw [if_neg (by simp)]
      by_cases e : j = k
      · subst e
        rw [decide_eq_true rfl]
        refine wpAny_bind (wpAny_rule (wpAny_pure (wpAny_pure ?_)))
        rcases q with ⟨j', p, y, r⟩ | ⟨no, _⟩
        · rw [one_place nd hx y]
          exact r
        · exact (no _ _ hx).elim
      · rw [decide_eq_false e]
        exact wpAny_bind (wpAny_rule (wpAny_pure ⟨rfl, rfl, next e⟩))
    · rw [if_neg hh]
      refine wpAny_pure ⟨rfl, rfl, next fun e => ?_⟩
      rw [e] at hh
      simp at hh
  · intro acc now I
    obtain ⟨rfl, rfl, _, has⟩ := I
    rcases q with ⟨j', p, y, r⟩ | ⟨no, r⟩
    · exact absurd (has _ _ y) List.not_mem_nil
    · exact wpAny_pure r
theorem byText_nk {z : Str} {t : Tok} {Q : Option Nat → Shared → Prop} (hu : A.units + 8 < cLine) (hk : NK s.heap k (.str z t)) (ho : s.heap.get? d = some o) (hd : o.data = .dict es ep) (he : es.toList = xs.map (enN w))
    (his : ∀ x ∈ xs, NK s.heap x.1 x.2.1) (nd : (xs.map (·.1)).Nodup) (q : At xs k fun r => Q r s) : wpAny (model P w) A (foundByValue d (.str z t) es z) Q E s := by
  have ek : k = .text z := by
    obtain ⟨x, _⟩ := hk
    cases x
    rfl
  have isz : ∀ {j : NestedKey} {u : Value}, NK s.heap j u → (u.isStr z = true ↔ j = k) := fun {j u} hj => by
    obtain ⟨x, _⟩ := hj
    rw [ek]
    cases x with
    | none => exact ⟨fun y => (by cases y), fun y => (by cases y)⟩
    | bool e => exact ⟨fun y => (by cases y), fun y => (by cases y)⟩
    | int _ t => exact ⟨fun y => (by cases y), fun y => (by cases y)⟩
    | text z2 t2 =>
      constructor
      · intro y
        have : z2 = z := by simpa [Value.isStr] using y
        rw [this]
      · intro y
        cases y
        simp [Value.isStr]
    | tup h1 h2 h3 h4 => exact ⟨fun y => (by cases y), fun y => (by cases y)⟩
  unfold foundByValue
  cases hf : es.findIdx? (fun e => e.key.isStr z) with
  | none =>
    refine wpAny_pure ?_
    rcases q with ⟨j, p, y, r⟩ | ⟨_, r⟩
    · have := Array.findIdx?_eq_none_iff.mp hf (enN w (k, p)) (by
        have := enN_get he j
        rw [y] at this
        exact Array.mem_of_getElem? this)
      have hj := his _ (List.mem_of_getElem? y)
      rw [show (enN w (k, p)).key.isStr z = true from (isz hj).mpr rfl] at this
      cases this
    · exact r
  | some i =>
    obtain ⟨lt, hi, _⟩ := Array.findIdx?_eq_some_iff_getElem.mp hf
    obtain ⟨⟨j, u, v⟩, hx⟩ : ∃ y, xs[i]? = some y := ⟨xs[i]'(by rw [← enN_size he]; exact lt), List.getElem?_eq_getElem _⟩
    have hj := his _ (List.mem_of_getElem? hx)
    have hex : es[i]? = some ⟨j.hash w, u, v⟩ := by rw [enN_get he, hx]; rfl
    have hg : es[i] = ⟨j.hash w, u, v⟩ := by
      rw [Array.getElem?_eq_getElem lt] at hex
      exact Option.some.inj hex
    rw [hg] at hi
    have e : j = k := (isz hj).mp hi
    subst e
    dsimp only
    rw [hex]
    dsimp only
    refine wpAny_bind (wpAny_dictEpoch ho hd (wpAny_bind (eq_nk hu hj hk (wpAny_bind (wpAny_dictEpoch ho hd ?_)))))
    show wpAny _ _ (if (ep != ep) = true then _ else _) _ E _
    rw [if_neg (by simp), decide_eq_true rfl]
    refine wpAny_bind (wpAny_rule (wpAny_pure ?_))
    rcases q with ⟨j', p, y, r⟩ | ⟨no, _⟩
    · rw [one_place nd hx y]
      exact r
    · exact (no _ _ hx).elim
end
end Kt
namespace Kt
open PySem PySem.Spec PyProof.Rows
/-! what is stored at a key, and behind a store -/
abbrev RowN := NestedKey × Value × Value
def valN (xs : List RowN) (k : NestedKey) : Option Value := (xs.find? fun x => decide (x.1 = k)).map (·.2.2)
def putN (xs : List RowN) (k : NestedKey) (key v : Value) : List RowN := if (valN xs k).isSome then xs.map (fun x => if x.1 = k then (x.1, x.2.1, v) else x) else xs ++ [(k, key, v)]
theorem valN_some {xs : List RowN} {k : NestedKey} {v : Value} (h : valN xs k = some v) : ∃ (j : Nat) (u : Value), xs[j]? = some (k, u, v) := by
  unfold valN at h
  obtain ⟨x, hx, rfl⟩ := Option.map_eq_some_iff.mp h
  have hk : x.1 = k := by simpa using List.find?_some hx
  obtain ⟨j, hj⟩ := List.mem_iff_getElem?.mp (List.mem_of_find?_eq_some hx)
  exact ⟨j, x.2.1, by rw [hj, ← hk]⟩
theorem valN_none {xs : List RowN} {k : NestedKey} (h : valN xs k = none) (j : Nat) (p : Value × Value) : xs[j]? ≠ some (k, p) := fun y => by
  unfold valN at h
  have := List.find?_eq_none.mp (Option.map_eq_none_iff.mp h) _ (List.mem_of_getElem? y)
  simp at this
theorem valN_of {xs : List RowN} (nd : (xs.map (·.1)).Nodup) {j : Nat} {k : NestedKey} {u v : Value} (h : xs[j]? = some (k, u, v)) : valN xs k = some v := by
  cases e : valN xs k with
  | none => exact (valN_none e j _ h).elim
  | some v' =>
    obtain ⟨i, u', hi⟩ := valN_some e
    have := one_place nd h hi
    subst this
    rw [h] at hi
    cases hi
    rfl
theorem at_val {xs : List RowN} (nd : (xs.map (·.1)).Nodup) (k : NestedKey) {Q : Option Nat → Prop} (yes : ∀ j u v, xs[j]? = some (k, u, v) → valN xs k = some v → Q (some j)) (no : valN xs k = none → Q none) : At xs k Q := by
  cases e : valN xs k with
  | none => exact .inr ⟨valN_none e, no e⟩
  | some v =>
    obtain ⟨j, u, hj⟩ := valN_some e
    exact .inl ⟨j, _, hj, yes j u v hj e⟩
theorem putN_keys (xs : List RowN) (k : NestedKey) (key v : Value) : (putN xs k key v).map (·.1) = if (valN xs k).isSome then xs.map (·.1) else xs.map (·.1) ++ [k] := by
  unfold putN
  split
  · rw [List.map_map]
    refine List.map_congr_left fun x _ => ?_
    show (if x.1 = k then (x.1, x.2.1, v) else x).1 = x.1
    split <;> rfl
  · simp
theorem putN_nodup {xs : List RowN} (nd : (xs.map (·.1)).Nodup) (k : NestedKey) (key v : Value) : ((putN xs k key v).map (·.1)).Nodup := by
  rw [putN_keys]
  split
  · exact nd
  · rename_i h
    refine List.nodup_append.mpr ⟨nd, by simp, fun x hx y hy e => ?_⟩
    obtain rfl := List.mem_singleton.mp hy
    subst e
    obtain ⟨r, hr, rfl⟩ := List.mem_map.mp hx
    obtain ⟨j, hj⟩ := List.mem_iff_getElem?.mp hr
    rw [valN_of nd (u := r.2.1) (v := r.2.2) hj] at h
    exact h rfl
theorem putN_mem {xs : List RowN} {k : NestedKey} {key v : Value} {F : RowN → Prop} (old : ∀ x ∈ xs, F x) (again : ∀ x ∈ xs, x.1 = k → F (x.1, x.2.1, v)) (new : valN xs k = none → F (k, key, v)) : ∀ x ∈ putN xs k key v, F x := by
  intro x hx
  unfold putN at hx
  split at hx
  · obtain ⟨y, hy, rfl⟩ := List.mem_map.mp hx
    split
    · exact again y hy (by assumption)
    · exact old y hy
  · rename_i h
    rcases List.mem_append.mp hx with hx | hx
    · exact old x hx
    · obtain rfl := List.mem_singleton.mp hx
      exact new (Option.not_isSome_iff_eq_none.mp h)
theorem map_same {xs : List RowN} {k : NestedKey} {v : Value} (h : k ∉ xs.map (·.1)) : xs.map (fun x => if x.1 = k then (x.1, x.2.1, v) else x) = xs := by
  have : xs.map (fun x => if x.1 = k then (x.1, x.2.1, v) else x) = xs.map id := List.map_congr_left fun x hx => if_neg fun e => h (List.mem_map.mpr ⟨x, hx, e⟩)
  rw [this, List.map_id]
theorem putN_modify {w : World} : ∀ {xs : List RowN} {j : Nat} {k : NestedKey} {u v0 v : Value}, (xs.map (·.1)).Nodup → xs[j]? = some (k, u, v0) →
    (xs.map (enN w)).modify j (fun e => { e with val := v }) = (xs.map fun x => if x.1 = k then (x.1, x.2.1, v) else x).map (enN w)
  | [], j, k, u, v0, v, _, h => by simp at h
  | x :: r, 0, k, u, v0, v, nd, h => by
    simp only [List.getElem?_cons_zero, Option.some.injEq] at h
    subst h
    rw [List.map_cons, List.nodup_cons] at nd
    rw [List.map_cons, List.map_cons, map_same nd.1]
    simp [enN]
  | x :: r, j + 1, k, u, v0, v, nd, h => by
    simp only [List.getElem?_cons_succ] at h
    rw [List.map_cons, List.nodup_cons] at nd
    have ne : ¬ x.1 = k := fun e => nd.1 (List.mem_map.mpr ⟨_, List.mem_of_getElem? h, e.symm⟩)
    rw [List.map_cons, List.map_cons, if_neg ne, List.map_cons, List.modify_succ_cons, putN_modify nd.2 h]
/-- at d stands a dict of these rows, in their order -/
def DictN (w : World) (h : Heap) (d : Addr) (xs : List RowN) : Prop :=
  ∃ o es ep, h.get? d = some o ∧ o.ExactDict ∧ o.data = .dict es ep ∧ es.toList = xs.map (enN w) ∧ (∀ x ∈ xs, NK h x.1 x.2.1) ∧ (xs.map (·.1)).Nodup
section
variable {P : Program} {w : World} {A : Around} {E : Value → Shared → Prop} {s : Shared} {d : Addr} {xs : List RowN} {k : NestedKey} {key : Value}
theorem DictN.type (D : DictN w s.heap d xs) : s.TypeIs (.ref d) "dict" := by
  obtain ⟨o, es, ep, ho, ex, _⟩ := D
  exact ⟨o, ho, ex.1⟩
theorem or_nk {α : Type} {M : Model} {c : Prop} [Decidable c] {a b : Sem α} {Q : α → Shared → Prop} (h1 : c → wpAny M A a Q E s) (h2 : ¬ c → wpAny M A b Q E s) : wpAny M A (if c then a else b) Q E s := by
  by_cases h : c
  · rw [if_pos h]
    exact h1 h
  · rw [if_neg h]
    exact h2 h
theorem find_nk {o : Obj} {es : Array DictEntry} {ep : Nat} {Q : Option Nat → Shared → Prop} (hu : A.units + 8 < cLine) (hk : NK s.heap k key) (ho : s.heap.get? d = some o) (hd : o.data = .dict es ep) (he : es.toList = xs.map (enN w))
    (his : ∀ x ∈ xs, NK s.heap x.1 x.2.1) (nd : (xs.map (·.1)).Nodup) (q : At xs k fun r => Q r s) : wpAny (model P w) A (dictFind d key (k.hash w)) Q E s := by
  have all : ∀ v ∈ (spots es (k.hash w)).filterMap (fun i => es[i]?.map (·.key)), ∃ j, NK s.heap j v := by
    intro v hv
    obtain ⟨i, _, hi⟩ := List.mem_filterMap.mp hv
    rw [enN_get he] at hi
    cases hx : xs[i]? with
    | none => rw [hx] at hi; cases hi
    | some x =>
      rw [hx] at hi
      cases hi
      exact ⟨_, his _ (List.mem_of_getElem? hx)⟩
  unfold dictFind
  refine wpAny_holding (wpAny_bind (wpAny_dictEntries ho hd ?_))
  have one : ∀ a, key = .ref a → ¬ (es.any fun e => e.key == key && e.hash != k.hash w) = true := fun a ea => by
    subst ea
    rw [← Array.any_toList, he, Bool.not_eq_true]
    refine List.any_eq_false.mpr fun e m => ?_
    obtain ⟨x, hx, rfl⟩ := List.mem_map.mp m
    simp only [enN, Bool.and_eq_true, beq_iff_eq, bne_iff_ne, ne_eq, not_and, Decidable.not_not]
    intro ek
    have hx' := his x hx
    rw [ek] at hx'
    rw [hx'.inj hk]
  have plain := plain_nk (P := P) (E := E) hu hk ho hd he his nd q
  have hk0 := hk
  obtain ⟨isk, dp⟩ := hk
  obtain ⟨k0, ek⟩ : ∃ k0, k0 = k := ⟨k, rfl⟩
  rw [← ek] at q
  cases isk
  case' text => (show wpAny _ _ (if (es.all fun e => isExactStrKey e.key) = true then _ else _) _ E s; refine or_nk (fun _ => byText_nk hu hk0 ho hd he his nd (by rw [ek] at q; exact q)) fun _ => ?_)
  all_goals dsimp only
  all_goals refine or_nk (fun _ => plain) fun _ => ?_
  case' tup => rw [if_neg (one _ rfl)]
  all_goals refine or_nk (fun _ => wpAny_bind (wpAny_pure ?_)) fun _ => wpAny_bind (mayTell_nk hk0 all ?_)
  all_goals rw [if_neg (show ¬ (false && _) = true from Bool.false_ne_true)]
  all_goals refine wpAny_bind (wpAny_forIn_list _ (fun left acc now => now = s ∧ (∀ i ∈ left, i < es.size) ∧ left.Nodup ∧ ∃ hit, acc = (none, hit) ∧ ((hit = none ∧ ∀ (j : Nat) p, xs[j]? = some (k0, p) → j ∈ left) ∨ ∃ (j : Nat) (p : Value × Value), hit = some j ∧ xs[j]? = some (k0, p) ∧ j ∉ left)) _ ?_ ?_ _ _
      ⟨rfl, fun i => spots_lt, spots_nodup, none, rfl, .inl ⟨rfl, fun j p y => spots_mem he (ek ▸ y)⟩⟩)
  all_goals first
    | (intro acc now I
       obtain ⟨rfl, _, _, hit, rfl, hh⟩ := I
       rcases hh with ⟨rfl, has⟩ | ⟨j', p, rfl, y, _⟩
       · rcases q with ⟨j', p, y, r⟩ | ⟨no, r⟩
         · exact absurd (has _ _ y) List.not_mem_nil
         · exact wpAny_pure r
       · rcases q with ⟨j2, p2, y2, r⟩ | ⟨no, _⟩
         · rw [one_place nd y y2]
           exact wpAny_pure r
         · exact (no _ _ y).elim)
    | (intro i left acc now I
       obtain ⟨rfl, lt, nd2, hit, rfl, hh⟩ := I
       have il := lt i List.mem_cons_self
       have out := (List.nodup_cons.mp nd2).1
       obtain ⟨⟨j, u, v⟩, hx⟩ : ∃ y, xs[i]? = some y := ⟨xs[i]'(by rw [← enN_size he]; exact il), List.getElem?_eq_getElem _⟩
       have hj := his _ (List.mem_of_getElem? hx)
       have hex : es[i]? = some ⟨j.hash w, u, v⟩ := by rw [enN_get he, hx]; rfl
       have next : j ≠ k0 → (∀ i ∈ left, i < es.size) ∧ left.Nodup ∧ ∃ hit', ((none : Option (Option Nat)), hit) = (none, hit') ∧ ((hit' = none ∧ ∀ (j : Nat) p, xs[j]? = some (k0, p) → j ∈ left) ∨ ∃ (j : Nat) (p : Value × Value), hit' = some j ∧ xs[j]? = some (k0, p) ∧ j ∉ left) := fun ne => by
         refine ⟨fun i m => lt i (List.mem_cons_of_mem _ m), (List.nodup_cons.mp nd2).2, hit, rfl, ?_⟩
         rcases hh with ⟨e, has⟩ | ⟨j', p, e, y, no⟩
         · refine .inl ⟨e, fun j' p y => ?_⟩
           rcases List.mem_cons.mp (has j' p y) with rfl | m
           · rw [hx] at y
             cases y
             exact (ne rfl).elim
           · exact m
         · exact .inr ⟨j', p, e, y, fun m => no (List.mem_cons_of_mem _ m)⟩
       rw [hex]
       dsimp only
       refine or_nk (fun yes => ?_) fun ne => ?_
       · refine wpAny_bind (wpAny_dictEpoch ho hd (wpAny_bind (eq_nk hu hj hk0 (wpAny_bind (wpAny_dictEpoch ho hd ?_)))))
         show wpAny _ _ (if (ep != ep) = true then _ else _) _ E _
         rw [if_neg (by simp), ← ek]
         by_cases e : j = k0
         · rw [decide_eq_true e]
           rcases hh with ⟨rfl, has⟩ | ⟨j', p, _, y, no⟩
           · simp only [Option.isSome_none, Bool.false_eq_true, if_false, if_true]
             refine wpAny_bind (wpAny_rule ?_)
             rw [e] at hx
             split
             · refine wpAny_pure (wpAny_pure ?_)
               rcases q with ⟨j', p, y, r⟩ | ⟨no, _⟩
               · rw [one_place nd hx y]
                 exact r
               · exact (no _ _ hx).elim
             · exact wpAny_pure ⟨rfl, fun i m => lt i (List.mem_cons_of_mem _ m), (List.nodup_cons.mp nd2).2, _, rfl, .inr ⟨i, _, rfl, hx, out⟩⟩
           · rw [e] at hx
             exact (no (by rw [one_place nd y hx]; exact List.mem_cons_self)).elim
         · rw [decide_eq_false e]
           simp only [Bool.false_eq_true, if_false, Bool.false_and]
           exact wpAny_bind (wpAny_rule (wpAny_pure ⟨rfl, next e⟩))
       · refine wpAny_pure ⟨rfl, next fun e => ?_⟩
         rw [e, ek] at ne
         simp at ne)
end
end Kt
namespace Kt
open PySem PySem.Spec PyProof.Rows L2
section
variable {P : Program} {w : World} {A : Around} {E : Value → Shared → Prop} {s : Shared} {d : Addr} {xs : List RowN} {k : NestedKey} {key : Value}
theorem get_nk {Q : Option Value → Shared → Prop} (hu : A.units + 8 < cLine) (hk : NK s.heap k key) (D : DictN w s.heap d xs) (q : Q (valN xs k) { s with toks := s.toks + k.draws }) : wpAny (model P w) A (dictGet d key) Q E s := by
  obtain ⟨o, es, ep, ho, _, hd, he, his, nd⟩ := D
  refine wpAny_holding (wpAny_bind (hash_nk hu hk (wpAny_bind (find_nk (s := { s with toks := s.toks + k.draws }) hu hk ho hd he his nd (at_val nd k (fun j u v hj e => ?_) fun e => ?_)))))
  · rw [e] at q
    refine wpAny_bind (wpAny_dictEntries (s := { s with toks := s.toks + k.draws }) ho hd ?_)
    rw [enN_get he, hj]
    exact wpAny_pure q
  · rw [e] at q
    exact wpAny_pure q
theorem set_nk {v : Value} {Q : Unit → Shared → Prop} (hu : A.units + 8 < cLine) (hk : NK s.heap k key) (D : DictN w s.heap d xs) (hz : xs.length ≤ sizeLine)
    (q : ∀ h', DictN w h' d (putN xs k key v) → Heap.SameBut d s.heap h' → Q () { s with heap := h', toks := s.toks + k.draws }) : wpAny (model P w) A (dictSet d key v) Q E s := by
  obtain ⟨o, es, ep, ho, ex, hd, he, his, nd⟩ := D
  refine wpAny_holding (wpAny_bind (hash_nk hu hk ?_))
  refine wpAny_holding (wpAny_bind (find_nk (s := { s with toks := s.toks + k.draws }) hu hk ho hd he his nd (at_val nd k (fun j u v0 hj e => ?_) fun e => ?_)))
  · have et : (putN xs k key v) = xs.map fun x => if x.1 = k then (x.1, x.2.1, v) else x := by
      unfold putN
      rw [e]
      rfl
    refine wpAny_bind (wpAny_rule (wpAny_bind (wpAny_updateDict (s := { s with toks := s.toks + k.draws }) ho hd (wpAny_point (q _ ⟨_, _, ep, Heap.get?_update_self _ ho (Obj.isFreed_of_dict (Obj.data_mapDict hd _)), ex.mapDict _, Obj.data_mapDict hd _, ?_, ?_, putN_nodup nd k key v⟩ (Heap.SameBut.update ..))))))
    · rw [et, ← putN_modify nd hj, ← he]
      obtain ⟨l⟩ := es
      simp
    · exact putN_mem (F := fun y : RowN => NK _ y.1 y.2.1) (fun x hx => (his x hx).kept ho hd (Heap.SameBut.update ..)) (fun x hx _ => (his x hx).kept ho hd (Heap.SameBut.update ..)) (fun _ => hk.kept ho hd (Heap.SameBut.update ..))
  · have et : (putN xs k key v) = xs ++ [(k, key, v)] := by
      unfold putN
      rw [e]
      rfl
    refine wpAny_bind (wpAny_rule (wpAny_updateDictKeys (hz := by rw [enN_size he]; exact hz) (s := { s with toks := s.toks + k.draws }) ho hd (q _ ⟨_, _, ep + 1, Heap.get?_update_self _ ho (Obj.isFreed_of_dict (Obj.data_mapDictKeys hd _)), ex.mapDictKeys _, Obj.data_mapDictKeys hd _, ?_, ?_, putN_nodup nd k key v⟩ (Heap.SameBut.update ..))))
    · rw [et]
      simp [he, enN]
    · exact putN_mem (F := fun y : RowN => NK _ y.1 y.2.1) (fun x hx => (his x hx).kept ho hd (Heap.SameBut.update ..)) (fun x hx _ => (his x hx).kept ho hd (Heap.SameBut.update ..)) (fun _ => hk.kept ho hd (Heap.SameBut.update ..))
theorem has_nk {Q : Bool → Shared → Prop} (hu : A.units + 9 < cLine) (hk : NK s.heap k key) (sys : (d == sysModules) = false) (D : DictN w s.heap d xs) (q : Q (valN xs k).isSome { s with toks := s.toks + k.draws }) : wpAny (model P w) A (contains (.ref d) key) Q E s := by
  refine wpAny_contains_slot D.type PySem.F.slot_dict_contains (wpAny_call_entry PySem.F.slot_dict_contains D.type PySem.F.entry_dict_contains ?_ (PySem.F.args_dict_contains_2 _ _))
  show wpAny _ _ (dictGet d key >>= _) _ _ s
  refine wpAny_bind (get_nk (by rw [Around.in1_units]; omega) hk D ?_)
  cases e : valN xs k with
  | some v =>
    rw [e] at q
    exact wpAny_pure ⟨_, rfl, wpAny_truthy_bool q⟩
  | none =>
    rw [e] at q
    show wpAny _ _ (Builtin.Dict.pendingKey? d key >>= _) _ _ _
    exact wpAny_bind (wpAny_pendingKey_other sys (wpAny_pure ⟨_, rfl, wpAny_truthy_bool q⟩))
theorem in_nk {Q : Value → Shared → Prop} (hu : A.units + 9 < cLine) (hk : NK s.heap k key) (sys : (d == sysModules) = false) (D : DictN w s.heap d xs) (q : Q (.bool (valN xs k).isSome) { s with toks := s.toks + k.draws }) : wpAny (model P w) A (compareOp .In key (.ref d)) Q E s := by
  show wpAny _ _ (do return .bool (← contains (.ref d) key)) Q E s
  exact wpAny_bind (has_nk hu hk sys D (wpAny_pure q))
theorem notIn_nk {Q : Value → Shared → Prop} (hu : A.units + 9 < cLine) (hk : NK s.heap k key) (sys : (d == sysModules) = false) (D : DictN w s.heap d xs) (q : Q (.bool (!(valN xs k).isSome)) { s with toks := s.toks + k.draws }) : wpAny (model P w) A (compareOp .NotIn key (.ref d)) Q E s := by
  show wpAny _ _ (do return .bool (!(← contains (.ref d) key))) Q E s
  exact wpAny_bind (has_nk hu hk sys D (wpAny_pure q))
theorem getItem_nk {v : Value} {Q : Value → Shared → Prop} (hu : A.units + 9 < cLine) (hk : NK s.heap k key) (D : DictN w s.heap d xs) (e : valN xs k = some v) (q : Q v { s with toks := s.toks + k.draws }) : wpAny (model P w) A (getItem (.ref d) key) Q E s := by
  refine wpAny_holding (wpAny_bind (wpAny_sequenceKey D.type (by decide) (wpAny_bind (wpAny_callSpecial?_slot (name := Str.ofString "__getitem__") D.type slot_dict_getitem (wpAny_call_entry slot_dict_getitem D.type entry_dict_getitem ?_ (args_dict_getitem _ _))))))
  show wpAny _ _ (dictGet d key >>= _) _ _ s
  refine wpAny_bind (get_nk (by rw [Around.in1_units]; omega) hk D ?_)
  rw [e]
  exact wpAny_pure ⟨v, rfl, wpAny_pure q⟩
theorem setItem_nk {v : Value} {Q : Unit → Shared → Prop} (hu : A.units + 9 < cLine) (hk : NK s.heap k key) (D : DictN w s.heap d xs) (hz : xs.length ≤ sizeLine)
    (q : ∀ h', DictN w h' d (putN xs k key v) → Heap.SameBut d s.heap h' → Q () { s with heap := h', toks := s.toks + k.draws }) : wpAny (model P w) A (setItem (.ref d) key v) Q E s := by
  refine wpAny_holding (wpAny_bind (wpAny_sequenceKey D.type (by decide) (wpAny_bind (wpAny_callSpecial?_slot (name := Str.ofString "__setitem__") D.type slot_dict_setitem (wpAny_call_entry slot_dict_setitem D.type entry_dict_setitem ?_ (args_dict_setitem _ _ _))))))
  show wpAny _ _ (Builtin.Dict.notOrdered "__setitem__" ⟨[.ref d, key, v], []⟩ >>= _) _ _ s
  refine wpAny_bind (wpAny_notOrdered_dict D.type ?_)
  show wpAny _ _ (dictSet d key v >>= _) _ _ s
  exact wpAny_bind (set_nk (by rw [Around.in1_units]; omega) hk D hz fun h' D' same => wpAny_pure ⟨.none, rfl, wpAny_pure (q h' D' same)⟩)
theorem get2_nk {r : Value} {Q : Value → Shared → Prop} (hu : A.units + 9 < cLine) (hk : NK s.heap k key) (sys : (d == sysModules) = false) (D : DictN w s.heap d xs) (q : Q ((valN xs k).getD r) { s with toks := s.toks + k.draws }) :
    wpAny (model P w) A (call (.builtin "dict.get") [.ref d, key, r]) Q E s := by
  refine wpAny_call_entry PySem.F.slot_dict_get D.type PySem.F.entry_dict_get ?_ (PySem.F.args_dict_get_3 _ _ _)
  show wpAny _ _ (dictGet d key >>= _) _ _ s
  refine wpAny_bind (get_nk (by rw [Around.in1_units]; omega) hk D ?_)
  cases e : valN xs k with
  | some v =>
    rw [e] at q
    exact wpAny_pure ⟨v, rfl, q⟩
  | none =>
    rw [e] at q
    show wpAny _ _ (Builtin.Dict.missed d key >>= _) _ _ _
    exact wpAny_bind (wpAny_missed_other sys (wpAny_pure ⟨r, rfl, q⟩))
end
end Kt
namespace Kt
open PySem PySem.Spec PyProof.Rows L2
/-! ### keys as they stand in the abstract heap -/
mutual
inductive NRep (H : Hp) : NestedKey → V → Prop
  | none : NRep H .none .non
  | bool (b : Bool) : NRep H (.num (if b = true then 1 else 0)) (.bl b)
  | int (i : Int) : NRep H (.num i) (.int i)
  | text (z : Str) : NRep H (.text z) (.str z)
  | tup {a : Addr} {vs : List V} {ks : List NestedKey} : H a = some (.tup vs) → NReps H ks vs → NRep H (.tup ks) (.ref a)
inductive NReps (H : Hp) : List NestedKey → List V → Prop
  | nil : NReps H [] []
  | cons {k : NestedKey} {v : V} {ks : List NestedKey} {vs : List V} : NRep H k v → NReps H ks vs → NReps H (k :: ks) (v :: vs)
end
mutual
theorem NRep.is {P : Program} {w : World} {H : Hp} {h : Heap} (ok : HOk P w H h) : ∀ (k : NestedKey) (v : V) (u : Value), NRep H k v → RelV v u → NestedIs h k u
  | .none, _, _, r, e => by
    cases r
    obtain rfl := (show _ = Value.none from e)
    exact .none
  | .num i, _, _, r, e => by
    cases r with
    | bool b =>
      obtain rfl := (show _ = Value.bool b from e)
      exact .bool rfl
    | int _ =>
      obtain ⟨t, rfl⟩ := (show ∃ t, _ = Value.int i t from e)
      exact .int _ _
  | .text z, _, _, r, e => by
    cases r
    obtain ⟨t, rfl⟩ := (show ∃ t, _ = Value.str z t from e)
    exact .text _ _
  | .tup ks, _, _, r, e => by
    cases r with
    | @tup a vs _ ha rs =>
      obtain rfl := (show _ = Value.ref a from e)
      obtain ⟨_, its, rel, o, h1, h2, n, h3⟩ := (show ObjOk P w H h a (.tup vs) from ok a _ ha)
      exact .tup h1 h2 h3 (by simpa using NReps.are ok ks vs its rs rel)
theorem NReps.are {P : Program} {w : World} {H : Hp} {h : Heap} (ok : HOk P w H h) : ∀ (ks : List NestedKey) (vs : List V) (us : List Value), NReps H ks vs → Vals vs us → NestedAll h ks us
  | [], _, _, r, e => by
    cases r
    cases e
    exact .nil
  | k :: ks, _, _, r, e => by
    cases r with
    | cons r1 r2 =>
      cases e with
      | cons e1 e2 => exact .cons (NRep.is ok k _ _ r1 e1) (NReps.are ok ks _ _ r2 e2)
end
mutual
theorem NRep.wk {H H' : Hp} (w : ∀ a xs, H a = some (.tup xs) → H' a = some (.tup xs)) : ∀ (k : NestedKey) (v : V), NRep H k v → NRep H' k v
  | .none, _, r => by cases r; exact .none
  | .num i, _, r => by
    cases r with
    | bool b => exact .bool b
    | int _ => exact .int _
  | .text z, _, r => by cases r; exact .text _
  | .tup ks, _, r => by
    cases r with
    | tup ha rs => exact .tup (w _ _ ha) (NReps.wk w ks _ rs)
theorem NReps.wk {H H' : Hp} (w : ∀ a xs, H a = some (.tup xs) → H' a = some (.tup xs)) : ∀ (ks : List NestedKey) (vs : List V), NReps H ks vs → NReps H' ks vs
  | [], _, r => by cases r; exact .nil
  | k :: ks, _, r => by
    cases r with
    | cons r1 r2 => exact .cons (NRep.wk w k _ r1) (NReps.wk w ks _ r2)
end
mutual
/-- one value tells one key -/
theorem NRep.one {H : Hp} : ∀ (k j : NestedKey) (v : V), NRep H k v → NRep H j v → k = j
  | .none, _, _, r, q => by cases r; cases q; rfl
  | .num i, _, _, r, q => by
    cases r with
    | bool b => cases q; rfl
    | int _ => cases q; rfl
  | .text z, _, _, r, q => by cases r; cases q; rfl
  | .tup ks, _, _, r, q => by
    cases r with
    | tup ha rs =>
      cases q with
      | tup hb qs =>
        rw [ha] at hb
        cases hb
        rw [NReps.one ks _ _ rs qs]
theorem NReps.one {H : Hp} : ∀ (ks js : List NestedKey) (vs : List V), NReps H ks vs → NReps H js vs → ks = js
  | [], _, _, r, q => by cases r; cases q; rfl
  | k :: ks, _, _, r, q => by
    cases r with
    | cons r1 r2 =>
      cases q with
      | cons q1 q2 => rw [NRep.one k _ _ r1 q1, NReps.one ks _ _ r2 q2]
end
/-! ### the rows of such a dict -/
abbrev RowV := NestedKey × V × V
def valM (xs : List RowV) (k : NestedKey) : Option V := (xs.find? fun x => decide (x.1 = k)).map (·.2.2)
def putM (xs : List RowV) (k : NestedKey) (y v : V) : List RowV := if (valM xs k).isSome then xs.map (fun x => if x.1 = k then (x.1, x.2.1, v) else x) else xs ++ [(k, y, v)]
abbrev RowR (x : RowV) (y : RowN) : Prop := x.1 = y.1 ∧ RelV x.2.1 y.2.1 ∧ RelV x.2.2 y.2.2
theorem rows_val {xs : List RowV} {ys : List RowN} (r : Paired RowR xs ys) (k : NestedKey) : RelO (valM xs k) (valN ys k) := by
  induction r with
  | nil => exact True.intro
  | @cons x y xs ys h t ih =>
    obtain ⟨e, _, hv⟩ := h
    unfold valM valN at ih ⊢
    by_cases c : x.1 = k
    · rw [List.find?_cons_of_pos (by simpa using c), List.find?_cons_of_pos (by simpa using e.symm.trans c)]
      exact hv
    · rw [List.find?_cons_of_neg (by simpa using c), List.find?_cons_of_neg (by simpa using fun z => c (e.trans z))]
      exact ih
theorem rows_set {xs : List RowV} {ys : List RowN} (r : Paired RowR xs ys) {k : NestedKey} {v : V} {z : Value} (rv : RelV v z) : Paired RowR (xs.map fun x => if x.1 = k then (x.1, x.2.1, v) else x) (ys.map fun x => if x.1 = k then (x.1, x.2.1, z) else x) := by
  induction r with
  | nil => exact .nil
  | @cons p q ps qs h t ih =>
    rw [List.map_cons, List.map_cons]
    refine .cons ?_ ih
    by_cases c : p.1 = k
    · rw [if_pos c, if_pos (h.1.symm.trans c)]
      exact ⟨h.1, h.2.1, rv⟩
    · rw [if_neg c, if_neg fun z => c (h.1.trans z)]
      exact h
theorem rows_put {xs : List RowV} {ys : List RowN} (r : Paired RowR xs ys) {k : NestedKey} {y v : V} {u z : Value} (ry : RelV y u) (rv : RelV v z) : Paired RowR (putM xs k y v) (putN ys k u z) := by
  have e : (valM xs k).isSome = (valN ys k).isSome := (rows_val r k).isSome_eq
  unfold putM putN
  rw [e]
  split
  · exact rows_set r rv
  · exact Paired.snoc r ⟨rfl, ry, rv⟩
theorem putM_length (xs : List RowV) (k : NestedKey) (y v : V) : (putM xs k y v).length ≤ xs.length + 1 := by
  unfold putM
  split
  · rw [List.length_map]
    omega
  · rw [List.length_append]
    exact Nat.le_refl _
theorem putM_mem {xs : List RowV} {k : NestedKey} {y v : V} {F : RowV → Prop} (old : ∀ x ∈ xs, F x) (again : ∀ x ∈ xs, x.1 = k → F (x.1, x.2.1, v)) (new : F (k, y, v)) : ∀ x ∈ putM xs k y v, F x := by
  intro x hx
  unfold putM at hx
  split at hx
  · obtain ⟨z, hz, rfl⟩ := List.mem_map.mp hx
    split
    · exact again z hz (by assumption)
    · exact old z hz
  · rcases List.mem_append.mp hx with hx | hx
    · exact old x hx
    · obtain rfl := List.mem_singleton.mp hx
      exact new
/-- the object at a is a dict of these rows -/
def DNok (w : World) (xs : List RowV) (a : Addr) (h : Heap) : Prop :=
  (a == sysModules) = false ∧ xs.length ≤ sizeLine ∧ ∃ ys : List RowN, Paired RowR xs ys ∧ (ys.map (·.1)).Nodup ∧ ∃ o es ep, h.get? a = some o ∧ o.ExactDict ∧ o.data = .dict es ep ∧ es.toList = ys.map (enN w)
def DN (w : World) (a : Addr) (xs : List RowV) : HO := .ext (DNok w xs a)
/-- its keys, in the abstract heap -/
def KeysN (H : Hp) (xs : List RowV) : Prop := ∀ x ∈ xs, NRep H x.1 x.2.1 ∧ x.1.depth ≤ 8
theorem KeysN.wk {H H' : Hp} {xs : List RowV} (k : KeysN H xs) (w : ∀ a ys, H a = some (.tup ys) → H' a = some (.tup ys)) : KeysN H' xs := fun x hx => ⟨NRep.wk w _ _ (k x hx).1, (k x hx).2⟩
theorem KeysN.put {H : Hp} {xs : List RowV} {k : NestedKey} {y v : V} (K : KeysN H xs) (r : NRep H k y) (d : k.depth ≤ 8) : KeysN H (putM xs k y v) := putM_mem (F := fun x => NRep H x.1 x.2.1 ∧ x.1.depth ≤ 8) K (fun x hx _ => K x hx) ⟨r, d⟩
theorem KeysN.nil {H : Hp} : KeysN H [] := fun _ hx => (List.not_mem_nil hx).elim
theorem dn_obj {P : Program} {w : World} {H : Hp} {h : Heap} {a : Addr} {xs : List RowV} (x : DNok w xs a h) : ObjOk P w H h a (DN w a xs) := by
  refine ⟨x, ?_, fun h1 h2 p keep => ?_⟩
  · obtain ⟨_, _, ys, _, _, o, es, ep, ho, _⟩ := x
    exact ⟨o, ho⟩
  · obtain ⟨a1, a2, ys, r, nd, o, es, ep, ho, rest⟩ := p
    exact ⟨a1, a2, ys, r, nd, o, es, ep, keep o ho, rest⟩
section
variable {P : Program} {w : World} {X : Cx} {pins : List (Addr × Obj)} {σ : L2.St} {H : Hp} {s : Shared} {a : Addr} {xs : List RowV} {k : NestedKey} {y v : V} {u r : Value} {A : Around} {E : Value → Shared → Prop}
theorem dn_rd {h : Heap} (ok : HOk P w H h) (e : Rd H a (DN w a xs)) (K : KeysN H xs) : (a == sysModules) = false ∧ xs.length ≤ sizeLine ∧ ∃ ys : List RowN, Paired RowR xs ys ∧ DictN w h a ys := by
  have x : DNok w xs a h := by
    rcases e with e | ⟨o, e⟩
    · exact (show ObjOk P w H h a (DN w a xs) from ok a _ e).1
    · exact (show ObjOk P w H h a (.frz o (DN w a xs)) from ok a _ e).2.1
  obtain ⟨a1, a2, ys, rel, nd, o, es, ep, ho, ex, hd, he⟩ := x
  refine ⟨a1, a2, ys, rel, o, es, ep, ho, ex, hd, he, ?_, nd⟩
  clear nd he a2 e
  induction rel with
  | nil => exact fun _ hy => (List.not_mem_nil hy).elim
  | @cons p q ps qs h t ih =>
    intro z hz
    rcases List.mem_cons.mp hz with rfl | hz
    · obtain ⟨k1, k2⟩ := K p List.mem_cons_self
      obtain ⟨e1, e2, _⟩ := h
      exact ⟨NRep.is ok _ _ _ (e1 ▸ k1) e2, e1 ▸ k2⟩
    · exact ih (fun x hx => K x (List.mem_cons_of_mem _ hx)) z hz
theorem n_getItem {Q : Value → Shared → Prop} (hu : A.units + 9 < cLine) (I : Inv X pins σ H s) (e : Rd H a (DN X.w a xs)) (K : KeysN H xs) (nk : NRep H k y) (dk : k.depth ≤ 8) (l : valM xs k = some v) (ry : RelV y u)
    (h : ∀ w' s', Inv X pins σ H s' → RelV v w' → Q w' s') : wpAny (model X.prog X.w) A (getItem (.ref a) u) Q E s := by
  obtain ⟨_, _, ys, rel, D⟩ := dn_rd I.hok e K
  obtain ⟨w', hw, rw'⟩ := RelO.some_of (v := v) (o := valN ys k) (by rw [← l]; exact rows_val rel k)
  exact getItem_nk hu ⟨NRep.is I.hok _ _ _ nk ry, dk⟩ D hw (h w' _ (I.tok _) rw')
theorem n_in {Q : Value → Shared → Prop} (hu : A.units + 9 < cLine) (I : Inv X pins σ H s) (e : Rd H a (DN X.w a xs)) (K : KeysN H xs) (nk : NRep H k y) (dk : k.depth ≤ 8) (ry : RelV y u)
    (h : ∀ s', Inv X pins σ H s' → Q (.bool (valM xs k).isSome) s') : wpAny (model X.prog X.w) A (compareOp .In u (.ref a)) Q E s := by
  obtain ⟨sys, _, ys, rel, D⟩ := dn_rd I.hok e K
  refine in_nk hu ⟨NRep.is I.hok _ _ _ nk ry, dk⟩ sys D ?_
  rw [← (rows_val rel k).isSome_eq]
  exact h _ (I.tok _)
theorem n_notIn {Q : Value → Shared → Prop} (hu : A.units + 9 < cLine) (I : Inv X pins σ H s) (e : Rd H a (DN X.w a xs)) (K : KeysN H xs) (nk : NRep H k y) (dk : k.depth ≤ 8) (ry : RelV y u)
    (h : ∀ s', Inv X pins σ H s' → Q (.bool (!(valM xs k).isSome)) s') : wpAny (model X.prog X.w) A (compareOp .NotIn u (.ref a)) Q E s := by
  obtain ⟨sys, _, ys, rel, D⟩ := dn_rd I.hok e K
  refine notIn_nk hu ⟨NRep.is I.hok _ _ _ nk ry, dk⟩ sys D ?_
  rw [← (rows_val rel k).isSome_eq]
  exact h _ (I.tok _)
theorem n_setItem {Q : Unit → Shared → Prop} (hu : A.units + 9 < cLine) (I : Inv X pins σ H s) (e : H a = some (DN X.w a xs)) (K : KeysN H xs) (nk : NRep H k y) (dk : k.depth ≤ 8) (few : xs.length < sizeLine) (ry : RelV y u) (rv : RelV v r)
    (h : ∀ s', Inv X pins σ (upd H a (DN X.w a (putM xs k y v))) s' → Q () s') : wpAny (model X.prog X.w) A (setItem (.ref a) u r) Q E s := by
  obtain ⟨sys, hz, ys, rel, D⟩ := dn_rd I.hok (.inl e) K
  refine setItem_nk hu ⟨NRep.is I.hok _ _ _ nk ry, dk⟩ D (by rw [← Paired.length rel]; exact hz) fun h' D' same => h _ ?_
  obtain ⟨o, es, ep, ho, ex, hd, he, _, nd⟩ := D'
  refine I.write (x := a) (e := a) (by rw [e]; exact True.intro) (.inl rfl) (fun b q hb z => (same.2 b hb).trans z) ⟨o, ho⟩ (dn_obj ⟨sys, ?_, _, rows_put rel ry rv, nd, o, es, ep, ho, ex, hd, he⟩)
  have := putM_length xs k y v
  omega
theorem n_get2 {d : V} {Q : Value → Shared → Prop} (hu : A.units + 9 < cLine) (I : Inv X pins σ H s) (e : Rd H a (DN X.w a xs)) (K : KeysN H xs) (nk : NRep H k y) (dk : k.depth ≤ 8) (ry : RelV y u) (rd : RelV d r)
    (h : ∀ w' s', Inv X pins σ H s' → RelV ((valM xs k).getD d) w' → Q w' s') : wpAny (model X.prog X.w) A (call (.builtin "dict.get") [.ref a, u, r]) Q E s := by
  obtain ⟨sys, _, ys, rel, D⟩ := dn_rd I.hok e K
  exact get2_nk hu ⟨NRep.is I.hok _ _ _ nk ry, dk⟩ sys D (h _ _ (I.tok _) ((rows_val rel k).getD rd))
end
/-! ### rules -/
/-- the dict at a has these rows, with keys that stand -/
def IsN (w : World) (H : Hp) (a : Addr) (xs : List RowV) : Prop := Rd H a (DN w a xs) ∧ KeysN H xs
/-- y is a key for such a dict -/
def IsK (H : Hp) (k : NestedKey) (y : V) : Prop := NRep H k y ∧ k.depth ≤ 8
def tNGet (w : World) (td ty : TE) : TE := fun σ H Q => td σ H fun x H1 => ty σ H1 fun y H2 => ∃ a xs k v, x = .ref a ∧ IsN w H2 a xs ∧ IsK H2 k y ∧ valM xs k = some v ∧ Q v H2
def tNIn (w : World) (ty td : TE) : TE := fun σ H Q => ty σ H fun y H1 => td σ H1 fun x H2 => ∃ a xs k, x = .ref a ∧ IsN w H2 a xs ∧ IsK H2 k y ∧ Q (.bl (valM xs k).isSome) H2
def tNNotIn (w : World) (ty td : TE) : TE := fun σ H Q => ty σ H fun y H1 => td σ H1 fun x H2 => ∃ a xs k, x = .ref a ∧ IsN w H2 a xs ∧ IsK H2 k y ∧ Q (.bl (!(valM xs k).isSome)) H2
def sNPut (w : World) (td ty tv : TE) : TS := fun D σ H => tv σ H fun v H1 => td σ H1 fun x H2 => ty σ H2 fun y H3 => ∃ a xs k, x = .ref a ∧ H3 a = some (DN w a xs) ∧ KeysN H3 xs ∧ IsK H3 k y ∧ xs.length < sizeLine ∧ D.nx σ (upd H3 a (DN w a (putM xs k y v)))
def tNGet2 (w : World) (td ty tx : TE) : TE := fun σ H Q => td σ H fun x H1 => ∃ a, x = .ref a ∧ (∃ xs, IsN w H1 a xs) ∧ ty σ H1 fun y H2 => tx σ H2 fun z H3 => ∃ xs k, IsN w H3 a xs ∧ IsK H3 k y ∧ Q ((valM xs k).getD z) H3
def tDNewN (w : World) : TE := fun _ H Q => ∀ p, H p = none → Q (.ref p) (upd H p (DN w p []))
section
variable {X : Cx} {o i e f value : Expr} {pos pos' apos cpos : Pos} {td ty tv tx : TE}
theorem n_type {pins : List (Addr × Obj)} {σ : L2.St} {H : Hp} {s : Shared} {a : Addr} {xs : List RowV} (I : Inv X pins σ H s) (n : IsN X.w H a xs) : s.TypeIs (.ref a) "dict" ∧ ∀ b, Value.ref a = .ref b → ∃ ob, s.heap.get? b = some ob ∧ ob.dict = none := by
  obtain ⟨_, _, ys, _, D⟩ := dn_rd I.hok n.1 n.2
  refine ⟨D.type, fun b q => ?_⟩
  cases q
  obtain ⟨ob, _, _, h1, h2, _⟩ := D
  exact ⟨ob, h1, h2.2.1⟩
theorem pe_dnewN : PE X (.Dict [] [] pos) (tDNewN X.w) := ⟨fun pins s σ H Q I h => by
  refine wpAny_Dict_empty ⟨.ref s.heap.objs.size, _, I.laid (a := s.heap.objs.size) (o := DN X.w s.heap.objs.size []) (t' := s.toks) (fun _ _ q => Heap.get?_push_of_some _ q) (Nat.le_refl _) ?_, rfl, h _ (I.hok.fresh (Nat.le_refl _))⟩
  exact dn_obj ⟨beq_eq_false_iff_ne.mpr (Ne.symm (Nat.ne_of_lt I.big)), Nat.zero_le _, [], .nil, List.nodup_nil, _, #[], 0, Heap.get?_push_size _ rfl, ⟨rfl, rfl, rfl⟩, rfl, rfl⟩⟩
theorem pe_nget (hu : X.A.units + 9 < cLine) (ho : PE X o td) (hi : PE X i ty) (hs : NoSl i) : PE X (.Subscript o i pos) (tNGet X.w td ty) := by
  refine ⟨fun pins s σ H Q I h => ?_⟩
  refine subD_of PySem.F.slot_dict_getitem.lookup hs (thn (ho.run pins s σ H _ I h) fun u s1 ⟨x, H1, I1, rx, q1⟩ => thn (hi.run pins s1 σ H1 _ I1 q1) fun iv s2 ⟨y, H2, I2, ry, a, xs, k, v, ex, n, nk, l, q2⟩ => ?_)
  subst ex
  obtain rfl : u = Value.ref a := rx
  exact ⟨(n_type I2 n).1, n_getItem hu I2 n.1 n.2 nk.1 nk.2 l ry fun w' s3 I3 rw' => ⟨v, H2, I3, rw', q2⟩⟩
theorem pc_nin (hu : X.A.units + 9 < cLine) (hi : PE X i ty) (ho : PE X o td) : PC X .In i o (tNIn X.w ty td) := by
  refine ⟨fun pins s σ H Q I h => ?_⟩
  refine thn (hi.run pins s σ H _ I h) fun iv s1 ⟨y, H1, I1, ry, q1⟩ => thn (ho.run pins s1 σ H1 _ I1 q1) fun u s2 ⟨x, H2, I2, rx, a, xs, k, ex, n, nk, q2⟩ => ?_
  subst ex
  obtain rfl : u = Value.ref a := rx
  exact n_in hu I2 n.1 n.2 nk.1 nk.2 ry fun s3 I3 => ⟨.bl (valM xs k).isSome, H2, I3, rfl, q2⟩
theorem pc_nnotin (hu : X.A.units + 9 < cLine) (hi : PE X i ty) (ho : PE X o td) : PC X .NotIn i o (tNNotIn X.w ty td) := by
  refine ⟨fun pins s σ H Q I h => ?_⟩
  refine thn (hi.run pins s σ H _ I h) fun iv s1 ⟨y, H1, I1, ry, q1⟩ => thn (ho.run pins s1 σ H1 _ I1 q1) fun u s2 ⟨x, H2, I2, rx, a, xs, k, ex, n, nk, q2⟩ => ?_
  subst ex
  obtain rfl : u = Value.ref a := rx
  exact n_notIn hu I2 n.1 n.2 nk.1 nk.2 ry fun s3 I3 => ⟨.bl (!(valM xs k).isSome), H2, I3, rfl, q2⟩
theorem ps_nput (hu : X.A.units + 9 < cLine) (ho : PE X o td) (hi : PE X i ty) (hv : PE X value tv) (hs : swapsWith value (some (.Subscript o i pos')) pos.line X.env = pure false) :
    PS X (.Assign [.Subscript o i pos'] value pos) (sNPut X.w td ty tv) := by
  refine ⟨fun pins s σ H D I h => ?_⟩
  refine wpAny_Assign_Subscript (thn (hv.run pins s σ H _ I h) fun r s1 ⟨v, H1, I1, rv, q1⟩ => thn (ho.run pins s1 σ H1 _ I1 q1) fun u s2 ⟨x, H2, I2, rx, q2⟩ => thn (hi.run pins s2 σ H2 _ I2 q2) fun iv s3 ⟨y, H3, I3, ry, a, xs, k, ex, n, K, nk, few, q3⟩ => ?_) hs
  subst ex
  obtain rfl : u = Value.ref a := rx
  exact n_setItem hu I3 n K nk.1 nk.2 few ry rv fun s4 I4 => ⟨σ, _, I4, q3⟩
theorem pe_nget2 (hu : X.A.units + 9 < cLine) (ho : PE X o td) (he : PE X e ty) (hf : PE X f tx) (m : M2 X o "get" apos e f cpos) : PE X (.Call (.Attribute o "get" apos) [e, f] [] cpos) (tNGet2 X.w td ty tx) := by
  refine ⟨fun pins s σ H Q I h => ?_⟩
  refine wpAny_Call_method m.base m.few m.line PySem.F.plainAttrs_dict PySem.F.slot_dict_get PySem.F.type_dict_get (thn (ho.run pins s σ H _ I h) fun u s1 ⟨x, H1, I1, rx, a, ex, ⟨xs, n⟩, q1⟩ => ?_)
  subst ex
  obtain rfl : u = Value.ref a := rx
  obtain ⟨t1, t2⟩ := n_type I1 n
  refine ⟨t1, t2, ?_⟩
  rw [m.trees]
  refine Calls.callWith_builtin rfl (Calls.evalArgs_plain (Calls.spliced_cons (thn (he.run pins s1 σ H1 _ I1 q1) fun iv s2 ⟨y, H2, I2, ry, q2⟩ =>
    Calls.spliced_cons (thn (hf.run pins s2 σ H2 _ I2 q2) fun fv s3 ⟨z, H3, I3, rz, xs, k, n3, nk, q3⟩ => Calls.spliced_nil ?_))))
  exact n_get2 hu I3 n3.1 n3.2 nk.1 nk.2 ry rz fun w' s4 I4 rw' => ⟨_, H3, I4, rw', q3⟩
end
end Kt
namespace Kt
open PySem PySem.Spec PyProof.Rows L2
/-! ### walks of such a dict, locked -/
theorem row_get {α β : Type} {G : α → β → Prop} {xs : List α} {ys : List β} (r : Paired G xs ys) {i : Nat} {x : α} (e : xs[i]? = some x) : ∃ y, ys[i]? = some y ∧ G x y := by
  induction r generalizing i with
  | nil => cases e
  | @cons a b as bs h t ih =>
    cases i with
    | zero =>
      cases e
      exact ⟨b, rfl, h⟩
    | succ j => exact ih (i := j) (by simpa using e)
/-- its keys, in their order -/
def ItN (w : World) (d : Addr) (o : Obj) (xs : List RowV) : It :=
  ⟨fun i H => H d = some (.frz o (DN w d xs)) ∧ i < xs.length, fun i H x H' => H' = H ∧ ∃ k v, xs[i]? = some (k, x, v), fun i H => H d = some (.frz o (DN w d xs)) ∧ xs.length ≤ i⟩
section
variable {X : Cx} {pins : List (Addr × Obj)} {σ : L2.St} {H : Hp} {s : Shared} {d : Addr} {o : Obj} {xs : List RowV}
theorem frzN {w : World} (I : Inv X pins σ H s) (h : H d = some (.frz o (DN w d xs))) : (d == sysModules) = false ∧ s.heap.get? d = some o ∧ o.ExactDict ∧ ∃ (es : Array DictEntry) (ep : Nat), o.data = .dict es ep ∧ es.size = xs.length ∧
    ∀ (i : Nat) k x v, xs[i]? = some (k, x, v) → ∃ en : DictEntry, es[i]? = some en ∧ RelV x en.key := by
  obtain ⟨hd, ok⟩ := I.hok d _ h
  obtain ⟨⟨sys, _, ys, rel, _, o', es, ep, ho, ex, hdat, he⟩, _⟩ := ok
  rw [hd] at ho
  cases ho
  refine ⟨sys, hd, ex, es, ep, hdat, ?_, fun i k x v e => ?_⟩
  · rw [enN_size he]
    exact (Paired.length rel).symm
  · obtain ⟨y, hy, r⟩ := row_get rel e
    exact ⟨_, by rw [enN_get he, hy]; rfl, r.2.1⟩
theorem turn_keysN {P : Program} {w : World} {K : PySem.W.Frag} {tg : Expr} {es : Array DictEntry} {ep : Nat} (it : Addr) (hod : o.data = .dict es ep) : Turn P w K tg (ItN w d o xs) [it] it (fun i h => h.IsKeyIter it d i xs.length ep) where
  mem := by simp
  obj := fun i h st b hb => by
    obtain rfl : b = it := by simpa using hb
    obtain ⟨oi, e, c, dd⟩ := st
    exact ⟨oi, e, fun v z => by rw [dd] at z; cases z⟩
  keep := fun i h h' st k => st.at fun oi e => k it (by simp) oi e
  item := by
    intro X hP hw hK hc i pins s σ H E I hf st hg
    subst hP hw hK
    obtain ⟨hd, hi⟩ := hg
    obtain ⟨f0, f1, f2, f3, f4, f5⟩ := hf it (by simp)
    obtain ⟨hs, hgd, hx, es', ep', hdt, hsz, ent⟩ := frzN I hd
    obtain ⟨rfl, rfl⟩ := dict_ep hod hdt
    obtain ⟨⟨k, y, v⟩, hkv⟩ : ∃ p, xs[i]? = some p := ⟨xs[i], List.getElem?_eq_getElem hi⟩
    obtain ⟨en, hen, hkey⟩ := ent i k y v hkv
    refine next_key_item st hgd hdt hsz hen fun h' st' sb => ?_
    have I1 : Inv X pins σ H { s with heap := h' } := I.turned (t' := s.toks) (fun b ob hb e => (sb.2 b hb).trans e) f0 f1 f3 f4 f5
    obtain ⟨oi, e, c, dd⟩ := id st'
    exact ⟨en.key, rfl, go_of (s := { s with heap := h' }) e c dd (by decide) ⟨y, H, I1, hkey, ⟨rfl, k, v, hkv⟩, st', fun b hb => (hf b hb).1⟩⟩
  done := by
    intro X hP hw hK hc i pins s σ H E I hf st hg
    subst hP hw hK
    obtain ⟨hd, hi⟩ := hg
    obtain ⟨f0, f1, f2, f3, f4, f5⟩ := hf it (by simp)
    obtain ⟨hs, hgd, hx, es', ep', hdt, hsz, ent⟩ := frzN I hd
    obtain ⟨rfl, rfl⟩ := dict_ep hod hdt
    exact next_key_end (I.ok.hd hc) st hgd hdt hsz hi fun h' eb => ⟨rfl, I.turned (t' := s.toks) (fun b ob hb e => eb b ob hb e) f0 f1 f3 f4 f5⟩
  self := fun A i s Q E st h => by
    refine wpAny_pyIter_slot st.typeIs PySem.F.slot_dict_keyiterator_iter (wpAny_call_entry PySem.F.slot_dict_keyiterator_iter st.typeIs PySem.F.entry_dict_keyiterator_iter ?_ (PySem.F.args_dict_keyiterator_iter_1 _))
    show wpAny _ _ (ret (.ref it)) _ _ s
    exact wpAny_pure ⟨_, rfl, "dict_keyiterator", _, st.typeIs, PySem.F.slot_dict_keyiterator_next.lookup, h⟩
end
/-- the dict is locked -/
def iKeysN (w : World) (td : TE) : TI := fun σ H R => td σ H fun x H1 => ∃ d o xs, x = .ref d ∧ H1 d = some (.frz o (DN w d xs)) ∧ R (ItN w d o xs) H1
theorem pi_keysN {X : Cx} {tg e : Expr} {td : TE} (he : PE X e td) : PI X tg e (iKeysN X.w td) := by
  refine ⟨fun pins s σ H R I h => ?_⟩
  refine thn (he.run pins s σ H _ I h) fun u s1 ⟨x, H1, I1, rx, d, o, xs, ex, hd, q⟩ => ?_
  subst ex
  obtain rfl : u = Value.ref d := rx
  obtain ⟨hs, hgd, hx, es, ep, hdt, hsz, ent⟩ := frzN I1 hd
  refine iter_keys hs hgd hx hdt (pi_one (tk := s1.toks) I1 _ (turn_keysN _ hdt) ⟨_, Heap.get?_push_size _ rfl, rfl, ?_⟩ q)
  rw [hsz] <;> rfl
theorem walk_keysN {w : World} {d : Addr} {o : Obj} {xs : List RowV} : Walk (ItN w d o xs) xs.length (fun H => H d = some (.frz o (DN w d xs))) (fun i H x H' => H' = H ∧ ∃ k v, xs[i]? = some (k, x, v)) :=
  ⟨fun _ _ hi q => ⟨q, hi⟩, fun _ q => ⟨q, Nat.le_refl _⟩, fun _ _ _ _ _ _ y => y⟩
end Kt
namespace Kt
open PySem PySem.Spec PyProof.Rows L2
theorem hu_n {k : Nat} {A : Around} (r : Room k A) : A.units + 9 < cLine := by
  have := r.un
  omega
/-- isinstance(d, c) of such a dict -/
def rIsiN (w : World) (K : PySem.W.Frag) : List V → Hp → VK → Prop := fun args H Q => ∃ (a : Addr) (xs : List RowV) (c : V) (u : Value) (b : Bool), args = [.ref a, c] ∧ Rd H a (DN w a xs) ∧ ClsV c u ∧ PySem.W.kitOne K (.type "dict") u = some b ∧ Q (.bl b) H
theorem call_isiN {X : Cx} : CallR X (.builtin "isinstance") (rIsiN X.w X.K) := by
  intro pins s σ H args us Q I r h
  obtain ⟨a, xs, c, u, b, rfl, e, k, e2, q⟩ := h
  obtain ⟨u1, u2, rfl, r1, r2⟩ := vals2 r
  have e3 := k.eq r2
  subst e3
  obtain rfl : u1 = Value.ref a := r1
  have x : DNok X.w xs a s.heap := by
    rcases e with e | ⟨o, e⟩
    · exact (show ObjOk X.prog X.w H s.heap a (DN X.w a xs) from I.hok a _ e).1
    · exact (show ObjOk X.prog X.w H s.heap a (.frz o (DN X.w a xs)) from I.hok a _ e).2.1
  obtain ⟨_, _, ys, _, _, o, es, ep, ho, ex, _⟩ := x
  exact PySem.W.kia_one (PySem.W.kitx_dict (a := a)) I.kIn ⟨o, ho, ex.1⟩ e2 (fun z => nomatch z) fun tk => ⟨.bl b, H, I.tok tk, rfl, q⟩
theorem call_isiE {X : Cx} : CallR X (.builtin "isinstance") (fun xs H Q => rIsiN X.w X.K xs H Q ∨ rIsi X.K xs H Q) := fun pl sh st hp args vals Q inv rel told => told.elim (call_isiN pl sh st hp args vals Q inv rel) (call_isi pl sh st hp args vals Q inv rel)
end Kt
namespace Kt
open PySem PySem.Spec PyProof.Rows L2
/-- as pe_nget, the world named (within a comprehension) -/
theorem pe_ngetW {X : Cx} {w : World} {o i : Expr} {pos : Pos} {td ty : TE} (hu : X.A.units + 9 < cLine) (ho : PE X o td) (hi : PE X i ty) (hs : NoSl i) (hw : X.w = w := by rfl) : PE X (.Subscript o i pos) (tNGet w td ty) := hw ▸ pe_nget hu ho hi hs
/-- over a list or a tuple -/
def iEith (K : PySem.W.Frag) (td : TE) : TI := fun σ H R => iList K td σ H R ∨ iTup K td σ H R
theorem pi_eith {X : Cx} {tg e : Expr} {td : TE} (he : PE X e td) : PI X tg e (iEith X.K td) := ⟨fun pins s σ H R I h => h.elim ((pi_list he).run pins s σ H R I) ((pi_tup he).run pins s σ H R I)⟩
theorem iEith.of {K : PySem.W.Frag} {td : TE} {σ : L2.St} {H : Hp} {R : It → Hp → Prop} {a : Addr} {xs : List V} (ht : ∀ Q : VK, Q (.ref a) H → td σ H Q) (hs : H a = some (.lst xs) ∨ H a = some (.tup xs))
    (hR : ∀ (J : It) (G : Hp → Prop), Walk J xs.length G (YAt xs) → (∀ H', Same H H' → G H') → R J H) : iEith K td σ H R :=
  hs.elim (fun h => .inl (ht _ ⟨a, rfl, ⟨xs, SqL.of h⟩, hR _ _ walk_list fun H' s => SqL.of (s _ _ h)⟩)) (fun h => .inr (ht _ ⟨a, rfl, ⟨xs, SqT.of h⟩, hR _ _ walk_tup fun H' s => SqT.of (s _ _ h)⟩))
end Kt
namespace Kt
open PySem PySem.Spec PyProof.Rows L2
/-! ### the law as the claim itself calls it: there nothing is being shown -/
def yes : VK := fun v _ => v = .bl true
/-- what the law's def keeps where the claim calls it -/
structure LawOk (P : Program) (w : World) (K : PySem.W.Frag) (mg : Str → Option Value) (base : Heap) (fa : Addr) (fd : FuncData) (y : Str) (sp : Sp) : Prop where
  run : ∀ (s : Shared) (H : Hp) (a : Addr), Env0 P w K mg base callerA [] s H → BindsTo s fd ⟨[.ref a], []⟩ [(y, .ref a)] → sp [.ref a] H yes E0 → codeAny (model P w) callerA (.call (.ref fa) ⟨[.ref a], []⟩) (CR CX0 [] P w H s yes E0) s
section
variable {P : Program} {w : World} {K : PySem.W.Frag} {mg : Str → Option Value} {base : Heap}
theorem LawOk.by_body {x y : Str} {st : Stmt} {fa : Addr} {fd : FuncData} {N : List Str} {sp : Sp} {k : Nat} (room : Room (k + 1) callerA) (F : Fun K x x st fa fd) (S : FnScope N [y] (defScope st))
    (body : ∀ (cdv : Value) (A : Around) (s : Shared) (H : Hp) (a : Addr), A.guards = some [] → Room k (A.deeper (envOfC x (defScope st) s.heap.objs.size fa cdv)) → sp [.ref a] H yes E0 →
      ∃ t, PSs (cxOf CX0 P w K mg base N x (defScope st) fa cdv A [] s H E0).nox (defBody st) t ∧ t { nx := fun _ H' => yes .non H', rt := yes } (start N [.ref a]) H) : LawOk P w K mg base fa fd y sp := by
  constructor
  intro sh hp a env binds told
  obtain ⟨oc, od, kV, doc, pm, an, cdv, ct, osl, rfl, there, code⟩ := F.ex
  have known : K.In sh.heap := env.mod.kin.keeps fun b o z => (env.bs b o z).1
  have free : sh.heap.NoLimit := env.mod.nolimit.keeps fun b o z => (env.bs b o z).1
  apply codeAny_call_function room.depth (known _ _ there) rfl S.co S.gen rfl (PySem.W.codeRec_of known code)
  apply binds
  refine wpAny_newFunctionEnv_cells S.kind ?kinds ?_
  case kinds =>
    intro z hz
    rw [List.mem_singleton.mp hz]
    rcases S.par y (List.mem_singleton.mpr rfl) with q | q
    · exact Or.inl q
    · exact Or.inr ⟨q, PySem.W.cellsFrom_some _ _ _ (Or.inl q)⟩
  rintro _ rfl sh1 entered
  refine ⟨free.keeps entered.toInCall.keep, codeAny_func ?_⟩
  obtain ⟨t, reads, q⟩ := body cdv callerA sh hp a rfl (room.deeper _) told
  have inv := inv_start (CX := CX0) (E := E0) S room.hd env (ps := [y]) (N := N) (by rfl) (us := [.ref a]) (vs := [.ref a]) (show Vals [V.ref a] [Value.ref a] from .cons rfl .nil) entered
  apply wpAny_mono (reads.nox.run [] sh1 (start N [.ref a]) hp _ inv q)
  · intro flow sh2 ended
    match flow, ended with
    | .ret u, ⟨v, _, hp2, inv2, rel, q2⟩ => exact ⟨v, hp2, inv2.os, inv2.bare, inv2.base, inv2.hok, rel, q2⟩
    | .next, ⟨_, hp2, inv2, q2⟩ => exact ⟨.non, hp2, inv2.os, inv2.bare, inv2.base, inv2.hok, rfl, q2⟩
    | .brk, ⟨_, _, _, no⟩ => exact no.elim
    | .cont, ⟨_, _, _, no⟩ => exact no.elim
  · exact fun _ _ z => z
/-- the claim's call, behind the top -/
theorem claim_call {mb : Str → Option Value} {fa a : Addr} {fd : FuncData} {y : Str} {sp : Sp} {sh : Shared} {vs : List Value} {ns : List Int} (known : K.In sh.heap) (main : sh.heap.Ns mainGlobals mg) (blt : sh.heap.Ns builtinsNs mb)
    (boot : ∀ z : Str, z ≠ "__name__" → mb z = bootBuiltins z) (free : sh.heap.NoLimit) (gens : sh.gens = #[]) (script : sh.heap.get? a = some { cls := .type "list", data := .seq vs.toArray }) (nums : IntsAre vs ns) (few : ns.length ≤ sizeLine)
    (ok : ∀ base : Heap, K.In base → base.Ns mainGlobals mg → LawOk P w K mg base fa fd y sp) (binds : ∀ (s : Shared) (u : Value), BindsTo s fd ⟨[u], []⟩ [(y, u)]) (told : ∀ H : Hp, SqL K H a (ns.map V.int) → sp [.ref a] H yes E0) :
    codeAny (model P w) callerA (.call (.ref fa) ⟨[.ref a], []⟩) (fun r s' => r = .ok (.ret (.bool true)) ∧ OldK sh.heap s'.heap ∧ s'.os = sh.os ∧ AllBare s'.gens) sh := by
  have numbers := vals_ints nums
  have many := nums.length
  obtain ⟨scr, hscr⟩ : ∃ scr : Obj, scr = { cls := .type "list", data := .seq vs.toArray } := ⟨_, rfl⟩
  rw [← hscr] at script
  have go : ∀ hp : Hp, (∀ b u, hp b = some u → b = a ∧ K.lookup a = none ∧ u = .frz scr (.lst (ns.map V.int))) → SqL K hp a (ns.map V.int) → HOk P w hp sh.heap →
      codeAny (model P w) callerA (.call (.ref fa) ⟨[.ref a], []⟩) (fun r s' => r = .ok (.ret (.bool true)) ∧ OldK sh.heap s'.heap ∧ s'.os = sh.os ∧ AllBare s'.gens) sh := by
    intro hp alone seq good
    have apart : ∀ {b : Addr} {o : Obj}, sh.heap.get? b = some o → o ≠ scr → hp b = none := by
      intro b o there other
      match t : hp b with
      | none => rfl
      | some u =>
        obtain ⟨z, _, _⟩ := alone b u t
        rw [z, script] at there
        exact absurd (Option.some.inj there).symm other
    have space : ∀ {b : Addr} {m : Str → Option Value}, sh.heap.Ns b m → (hidT sh.heap hp).Ns b m := by
      rintro b m ⟨o, es, ep, there, dict, more⟩
      refine ⟨o, es, ep, hidT_get there (apart there fun z => ?_), dict, more⟩
      rw [z, hscr] at dict
      cases dict
    have part : K.In (hidT sh.heap hp) := by
      intro b o t
      refine hidT_get (known b o t) ?_
      match e : hp b with
      | none => rfl
      | some u =>
        obtain ⟨z, none_, _⟩ := alone b u e
        rw [z, none_] at t
        cases t
    obtain ⟨mc, limit1, limit2⟩ := free
    have mod : Mod K mg (hidT sh.heap hp) := ⟨part, space main, ⟨mb, space blt, boot⟩, ⟨mc, space limit1, limit2⟩⟩
    have env : Env0 P w K mg (hidT sh.heap hp) callerA [] sh hp := by
      refine ⟨rfl, mod, fun b o z => of_hidT z, Nat.le_of_eq (hidT_size _ _), trivial, ?_, good, .of_eq gens⟩
      intro b z
      cases z
    apply codeAny_mono ((ok _ part (space main)).run sh hp a env (binds sh _) (told hp seq))
    intro out sh2 ended
    match out, ended with
    | .error _, no => exact no.elim
    | .ok .next, no => exact no.elim
    | .ok .brk, no => exact no.elim
    | .ok .cont, no => exact no.elim
    | .ok (.ret u), ⟨v, hp2, os, bare, un, good2, rel, q⟩ =>
      have q : v = .bl true := q
      subst q
      have rel : u = Value.bool true := rel
      refine ⟨by rw [rel], OldK.of_keep ?_, os, bare⟩
      intro b o there
      match t : hp b with
      | none => exact un.keep b o there t (fun z => by cases z) (fun z => by cases z)
      | some u =>
        obtain ⟨_, _, z⟩ := alone b u t
        subst z
        have first := (good b _ t).1
        rw [there] at first
        rw [Option.some.inj first]
        exact (good2 b _ (un.frzs b scr _ t)).1
  by_cases own : K.lookup a = none
  · refine go (fun b => if b = a then some (.frz scr (.lst (ns.map V.int))) else none) ?_ (.inl (.inr ⟨scr, if_pos rfl⟩)) ?_
    · intro b u t
      by_cases z : b = a
      · rw [if_pos z] at t
        exact ⟨z, own, (Option.some.inj t).symm⟩
      · rw [if_neg z] at t
        cases t
    · intro b u t
      dsimp only at t
      by_cases z : b = a
      · rw [if_pos z] at t
        obtain rfl := Option.some.inj t
        subst z
        refine ⟨script, by rw [List.length_map]; exact few, vs, 0, numbers, ?_⟩
        rw [script, hscr]

      · rw [if_neg z] at t
        cases t
  · obtain ⟨o, t⟩ : ∃ o, K.lookup a = some o := by
      match e : K.lookup a with
      | none => exact absurd e own
      | some o => exact ⟨o, rfl⟩
    have same := known a o t
    rw [script] at same
    obtain rfl := Option.some.inj same
    subst hscr
    exact go (fun _ => none) (fun b u z => by cases z) (.inr ⟨_, vs.toArray, _, t, rfl, rfl, rfl, by rw [List.size_toArray, many]; exact few, numbers⟩) (fun b u z => by cases z)
end
/-- the end of a law's row -/
theorem walk_claim {l : PySem.W.OpenLaw} {n : Nat} {q : Program} {loose : List Str} {XP : (Str → Option Value) → Heap → Prop} {YP : World → Heap → Prop} {d : DefRec} {K : Params → PySem.W.Frag} {sp : World → Sp} {y : Str}
    (most : l.most = some n) (few : n ≤ sizeLine) (nodef : d.params.defaults = []) (part : ∀ (w : World) (h : Heap), YP w h → (K w.params).In h)
    (F : ∀ (w : World) (mg : Str → Option Value) (fa : Addr) (h : Heap), (K w.params).In h → h.Ns mainGlobals mg → mg d.name = some (.ref fa) →
      ∃ fd : FuncData, (∀ (s : Shared) (u : Value), BindsTo s fd ⟨[u], []⟩ [(y, u)]) ∧ ∀ base : Heap, (K w.params).In base → base.Ns mainGlobals mg → LawOk l.prog w (K w.params) mg base fa fd y (sp w))
    (told : ∀ (w : World) (H : Hp) (a : Addr) (ns : List Int), ns.length ≤ n → SqL (K w.params) H a (ns.map V.int) → sp w [.ref a] H yes E0) :
    PySem.W.WalkO q loose XP YP l.row.toRowW d [] (fun f vs => PySem.call f vs) := by
  apply Att.attach_call most nodef
  intro w s0 sh mg mb fa o pm cd doc a vs ns G Y ho hd hcd at_ script nums len gens
  have known := part w _ Y
  obtain ⟨fd, binds, ok⟩ := F w mg fa _ known G.T.g at_
  exact claim_call known G.T.g G.T.b G.T.builtins G.T.nolimit gens script nums (Nat.le_trans len few) ok binds fun H seq => told w H a ns len seq
/-! ### repr of a list or a tuple of data -/
def rShow (K : PySem.W.Frag) : List V → Hp → VK → Prop := fun xs H Q => ∃ (a : Addr) (d : PyData), xs = [.ref a] ∧ Dp K H (.ref a) d ∧ d.showable = true ∧ d.depth ≤ 100 ∧ d.hasDict = false ∧ d.shown.length ≤ sizeLine ∧ Q (.str d.shown) H
theorem call_show {X : Cx} (none_ : X.A.guards = some []) (room : X.A.units + 101 < cLine) : CallR X (.builtin "repr") (rShow X.K) := by
  intro pins s σ H xs us Q inv rel told
  obtain ⟨a, d, rfl, dat, can, deep, nodict, fits, q⟩ := told
  obtain ⟨u, rfl, r⟩ := vals1 rel
  obtain rfl : u = .ref a := r
  obtain ⟨as, reads⟩ := Dp.reads inv d (.ref a) (.ref a) dat rfl
  exact repr_of_reads' reads can (PyData.noDict_hsm nodict) none_ (by omega) (fun _ _ z => z) (fun h' t tk keeps => ⟨.str d.shown, H, inv.kept keeps, ⟨t, rfl⟩, q⟩) fits
theorem room101 {k : Nat} {A : Around} (r : Room k A) : A.units + 101 < cLine := by
  have := r.un
  omega
end Kt
namespace Kt
open PySem PySem.Spec PyProof.Rows L2
/-! ### dicts compared whose values are the same ones -/
def plainV (v : V) : Prop := flatB v = true ∨ ∃ a, v = .ref a
theorem eqAt_plain {A : Around} {s : Shared} {v : V} {u u' : Value} (r : RelV v u) (r' : RelV v u') (f : plainV v) : SeqAt.EqAt A s u u' true := by
  rcases f with f | ⟨a, rfl⟩
  · exact eqAt_same r r' f
  · obtain rfl : u = Value.ref a := r
    obtain rfl : u' = Value.ref a := r'
    exact SeqAt.EqAt.same _
theorem hits_plain {A : Around} {s : Shared} {ls : List (Key × V)} {vb : List (Key × Value)} (there : KV ls vb) : ∀ {ks : List (Key × V)} {va : List (Key × Value)}, KV ks va → (∀ p ∈ ks, valV ls p.1 = some p.2 ∧ plainV p.2) → PySem.W.KeqHits A s vb va true
  | _, _, .nil, _ => .nil
  | (k, x) :: ks, (k', v) :: va, .cons h more, all => by
    obtain ⟨e, f⟩ := all (k, x) (List.mem_cons_self ..)
    obtain ⟨y, hy, ry⟩ := RelO.some_of (v := x) (o := valueAt vb k) (by have := there.val k; rw [e] at this; exact this)
    have ek : k = k' := h.1
    subst ek
    have := PySem.W.KeqHits.hit hy (eqAt_plain (A := A) (s := s) h.2 ry f) (hits_plain there more fun p hp => all p (List.mem_cons_of_mem _ hp))
    rw [Bool.and_self] at this
    exact this
def rNeDk : R2 := fun x y H Q => ∃ (a b : Addr) (ks ls : List (Key × V)), x = .ref a ∧ y = .ref b ∧ H a = some (.dK ks) ∧ H b = some (.dK ls) ∧ (ks.length = ls.length → ∀ p ∈ ks, valV ls p.1 = some p.2 ∧ plainV p.2) ∧ Q (.bl (!decide (ks.length = ls.length))) H
theorem op_neDk {X : Cx} (room : X.A.units < cLine) : OpR X (compareOp .NotEq) rNeDk := by
  intro pins s σ H x y v u Q inv rx ry told
  obtain ⟨a, b, ks, ls, rfl, rfl, ea, eb, all, q⟩ := told
  obtain rfl : v = Value.ref a := rx
  obtain rfl : u = Value.ref b := ry
  obtain ⟨_, ya, va, ra, da⟩ := (show ObjOk X.prog X.w H s.heap a (.dK ks) from inv.hok a _ ea)
  obtain ⟨_, yb, vb, rb, db⟩ := (show ObjOk X.prog X.w H s.heap b (.dK ls) from inv.hok b _ eb)
  have la := ra.length
  have lb := rb.length
  refine PySem.W.keq_ne (knd := mixKind X.prog X.w) (r := true) ya yb da db room (fun e => hits_plain rb ra (all (by omega))) (fin_bl inv q ?_)
  rw [Bool.and_true, la, lb]
  by_cases e : va.length = vb.length
  · rw [decide_eq_true e, beq_iff_eq.mpr e]
  · rw [decide_eq_false e, beq_eq_false_iff_ne.mpr e]
/-! ### f(b = .., a = ..) of a def that may raise -/
structure ClSX (P : Program) (w : World) (K : PySem.W.Frag) (mg : Str → Option Value) (base : Heap) (k : Nat) (x a b : Str) (sp : Sp) : Prop where
  ex : ∃ (f : Addr) (fd : FuncData), FnOk P w K mg base (L2.CX P w) k f fd [a, b] sp ∧ mg x = some (.ref f) ∧ PySem.W.keepIn K (.ref f) = true ∧ ∀ (s : Shared) (u v : Value), BindsTo s fd ⟨[], [(b, v), (a, u)]⟩ [(a, u), (b, v)]
def tCKx (sp : Sp) (E : L2.St → XK) (tk : TA) : TE := fun σ H Q => tk σ H fun zs H2 => ∃ v u, zs = [v, u] ∧ sp [u, v] H2 Q (E σ)
theorem pe_clSwX {X : Cx} {k j : Nat} {x a b : Str} {sp : Sp} {p pos : Pos} {kws : List Keyword} {tk : TA} {E : L2.St → XK} (cl : ClSX X.prog X.w X.K X.mg X.base k x a b sp) (hr : Room j X.A) (hk : k ≤ j) (hg : Gl X x) (hx : ∀ σ, PassesAt (L2.CX X.prog X.w) X σ (E σ)) (hkw : PK X kws tk)
    (named : (backToKw pos (keywordEach kws X.env)).all (·.1.isSome) = true := by rfl) (names : (backToKw pos (keywordEach kws X.env)).filterMap (·.1) = [b, a] := by rfl) (nodb : (x == ("__debug__" : Str)) = false := by decide)
    (plain : ((backTo pos (starEach [] X.env)).any (·.1) || (backToKw pos (keywordEach kws X.env)).any (·.1.isNone)) = false := by rfl) : PE X (.Call (.Name x p) [] kws pos) (tCKx sp E tk) := by
  obtain ⟨f, fd, ok, at_, kp, binds⟩ := cl.ex
  constructor
  intro pins s σ H Q inv told
  apply wpAny_Call_Name_kw (ld_glob inv hg at_ ?_ nodb)
  apply PySem.W.callWith_KW0 (h₀ := X.base) inv.ok.mod.kin kp named ?_ plain
  refine thn (hkw.run pos pins s σ H _ inv told) fun ws s2 ⟨zs, H2, inv2, rel, v, u, e, q2⟩ => ⟨inv2.kIn, ?_⟩
  subst e
  rw [names]
  obtain ⟨wv, wu, rfl, rv, ru⟩ := vals2 rel
  refine wpAny_call (codeAny_mono (ok.run X.A X.stack s2 H2 ⟨[], [(b, wv), (a, wu)]⟩ [wu, wv] [u, v] Q (E σ) (hr.mono hk) inv2.env0 (binds s2 wu wv) (.cons ru (.cons rv .nil)) q2) fun out s' done => ?_)
  match out, done with
  | .error e, done => exact hx σ pins H2 s2 e s' inv2 done
  | .ok (.ret _), done => exact inv2.after done
  | .ok .next, done => exact done.elim
  | .ok .brk, done => exact done.elim
  | .ok .cont, done => exact done.elim
end Kt
namespace Kt
open PySem PySem.Spec PyProof.Rows L2
def topS (i : Nat) : Stmt := PySem.Challenge.pw_likematch_k24_values_and_what_tables_kee.main.body.getD i (.Pass ⟨0, 0, 0, 0⟩)
abbrev s_is_number : Stmt := topS 13
theorem sc_is_number : FnScope ["thing"] ["thing"] (defScope s_is_number) := ⟨rfl, rfl, rfl, by decide +kernel, rfl, by decide +kernel, by decide +kernel⟩
abbrev s_is_below : Stmt := topS 14
theorem sc_is_below : FnScope ["thing", "many"] ["thing", "many"] (defScope s_is_below) := ⟨rfl, rfl, rfl, by decide +kernel, rfl, by decide +kernel, by decide +kernel⟩
abbrev s_is_word : Stmt := topS 15
theorem sc_is_word : FnScope ["thing", "most", "sign"] ["thing", "most"] (defScope s_is_word) := ⟨rfl, rfl, rfl, by decide +kernel, rfl, by decide +kernel, by decide +kernel⟩
abbrev s_is_name : Stmt := topS 16
theorem sc_is_name : FnScope ["thing"] ["thing"] (defScope s_is_name) := ⟨rfl, rfl, rfl, by decide +kernel, rfl, by decide +kernel, by decide +kernel⟩
abbrev s_is_hole : Stmt := topS 17
theorem sc_is_hole : FnScope ["thing"] ["thing"] (defScope s_is_hole) := ⟨rfl, rfl, rfl, by decide +kernel, rfl, by decide +kernel, by decide +kernel⟩
abbrev s_size_within : Stmt := topS 18
theorem sc_size_within : FnScope ["thing", "holes", "deep", "size", "part", "more"] ["thing", "holes", "deep"] (defScope s_size_within) := ⟨rfl, rfl, rfl, by decide +kernel, rfl, by decide +kernel, by decide +kernel⟩
abbrev s_is_term : Stmt := topS 19
theorem sc_is_term : FnScope ["thing"] ["thing"] (defScope s_is_term) := ⟨rfl, rfl, rfl, by decide +kernel, rfl, by decide +kernel, by decide +kernel⟩
abbrev s_is_pair : Stmt := topS 20
theorem sc_is_pair : FnScope ["thing"] ["thing"] (defScope s_is_pair) := ⟨rfl, rfl, rfl, by decide +kernel, rfl, by decide +kernel, by decide +kernel⟩
abbrev s_refuse_no_term : Stmt := topS 21
theorem sc_refuse_no_term : FnScope ["thing"] ["thing"] (defScope s_refuse_no_term) := ⟨rfl, rfl, rfl, by decide +kernel, rfl, by decide +kernel, by decide +kernel⟩
abbrev s_is_key : Stmt := topS 24
theorem sc_is_key : FnScope ["thing", "size", "part"] ["thing", "size"] (defScope s_is_key) := ⟨rfl, rfl, rfl, by decide +kernel, rfl, by decide +kernel, by decide +kernel⟩
abbrev s_is_table : Stmt := topS 25
theorem sc_is_table : FnScope ["thing", "size", "rows", "rest", "key"] ["thing"] (defScope s_is_table) := ⟨rfl, rfl, rfl, by decide +kernel, rfl, by decide +kernel, by decide +kernel⟩
abbrev s_refuse_no_table : Stmt := topS 26
theorem sc_refuse_no_table : FnScope ["thing"] ["thing"] (defScope s_refuse_no_table) := ⟨rfl, rfl, rfl, by decide +kernel, rfl, by decide +kernel, by decide +kernel⟩
abbrev s_worth : Stmt := topS 27
theorem sc_worth : FnScope ["table", "pattern", "worths", "_", "rows", "rest", "key", "part"] ["table", "pattern", "worths"] (defScope s_worth) := ⟨rfl, rfl, rfl, by decide +kernel, rfl, by decide +kernel, by decide +kernel⟩
abbrev s_value : Stmt := topS 28
theorem sc_value : FnScope ["table", "term"] ["table", "term"] (defScope s_value) := ⟨rfl, rfl, rfl, by decide +kernel, rfl, by decide +kernel, by decide +kernel⟩
abbrev s_keeps : Stmt := topS 29
theorem sc_keeps : FnScope ["table", "pairs", "one", "other", "pair"] ["table", "pairs"] (defScope s_keeps) := ⟨rfl, rfl, rfl, by decide +kernel, rfl, by decide +kernel, by decide +kernel⟩
abbrev s__law_begun : Stmt := topS 31
theorem sc__law_begun : FnScope ["_law_script"] ["_law_script"] (defScope s__law_begun) := ⟨rfl, rfl, rfl, by decide +kernel, rfl, by decide +kernel, by decide +kernel⟩
abbrev s__law_take : Stmt := topS 32
theorem sc__law_take : FnScope ["_law_state", "_law_many", "_law_cells", "_law_found", "_law_cell"] ["_law_state", "_law_many"] (defScope s__law_take) := ⟨rfl, rfl, rfl, by decide +kernel, rfl, by decide +kernel, by decide +kernel⟩
abbrev s__law_name : Stmt := topS 33
theorem sc__law_name : FnScope ["_law_state", "_law_met", "_law_letters", "_law_own", "_law_way", "_law_word", "_law_at", "_law_k", "_law_some", "_law_one"] ["_law_state", "_law_met"] (defScope s__law_name) := ⟨rfl, rfl, rfl, by decide +kernel, rfl, by decide +kernel, by decide +kernel⟩
abbrev s__law_heads : Stmt := topS 34
theorem sc__law_heads : FnScope ["_law_state", "_law_met", "_law_found", "_law_name_here", "_law_many", "_law_k"] ["_law_state"] (defScope s__law_heads) := ⟨rfl, rfl, rfl, by decide +kernel, rfl, by decide +kernel, by decide +kernel⟩
abbrev s__law_term : Stmt := topS 35
theorem sc__law_term : FnScope ["_law_state", "_law_heads_here", "_law_left", "_law_most", "_law_some", "_law_name_here", "_law_many", "_law_one", "_law_k"] ["_law_state", "_law_heads_here", "_law_left"] (defScope s__law_term) := ⟨rfl, rfl, rfl, by decide +kernel, rfl, by decide +kernel, by decide +kernel⟩
abbrev s__law_table : Stmt := topS 36
theorem sc__law_table : FnScope ["_law_state", "_law_heads_here", "_law_size", "_law_rows", "_law_name_here", "_law_many", "_law_k", "_law_at"] ["_law_state", "_law_heads_here", "_law_size"] (defScope s__law_table) := ⟨rfl, rfl, rfl, by decide +kernel, rfl, by decide +kernel, by decide +kernel⟩
abbrev s__law_worth : Stmt := topS 37
theorem sc__law_worth : FnScope ["_law_board", "_law_tree", "_law_place", "_law_part"] ["_law_board", "_law_tree"] (defScope s__law_worth) := ⟨rfl, rfl, rfl, by decide +kernel, rfl, by decide +kernel, by decide +kernel⟩
abbrev s__law_said : Stmt := topS 38
theorem sc__law_said : FnScope ["_law_door", "_law_board", "_law_thing", "_law_found", "_law_error", "e", "_law_marks"] ["_law_door", "_law_board", "_law_thing"] (defScope s__law_said) := ⟨rfl, rfl, rfl, by decide +kernel, rfl, by decide +kernel, by decide +kernel⟩
abbrev s__law_even : Stmt := topS 39
theorem sc__law_even : FnScope ["_law_state", "_law_heads_here", "_law_board", "_law_some", "_law_fit", "_law_k", "_law_one"] ["_law_state", "_law_heads_here", "_law_board"] (defScope s__law_even) := ⟨rfl, rfl, rfl, by decide +kernel, rfl, by decide +kernel, by decide +kernel⟩
abbrev s__law_kept : Stmt := topS 40
theorem sc__law_kept : FnScope ["_law_state", "_law_heads_here", "_law_board", "_law_found", "_law_k", "_law_two"] ["_law_state", "_law_heads_here", "_law_board"] (defScope s__law_kept) := ⟨rfl, rfl, rfl, by decide +kernel, rfl, by decide +kernel, by decide +kernel⟩
abbrev s__law_odd_list : Stmt := topS 41
theorem sc__law_odd_list : FnScope ["_law_state", "_law_some", "_law_a", "_law_bad", "_law_at"] ["_law_state", "_law_some", "_law_a"] (defScope s__law_odd_list) := ⟨rfl, rfl, rfl, by decide +kernel, rfl, by decide +kernel, by decide +kernel⟩
abbrev s_law : Stmt := topS 42
theorem sc_law : FnScope ["_law_script", "_law_state", "_law_heads_here", "_law_a", "_law_more", "_law_turn", "_law_board", "_law_kept_here", "_law_k", "_law_thing", "_law_found", "_law_some", "_law_due", "_law_odd", "_law_bad", "_law_two"] ["_law_script"] (defScope s_law) := ⟨rfl, rfl, rfl, by decide +kernel, rfl, by decide +kernel, by decide +kernel⟩
/-- what the top has left -/
structure Tx (K : PySem.W.Frag) (mg : Str → Option Value) : Prop where
  d_is_number : Dx K mg "is_number" s_is_number ["thing"]
  d_is_below : Dx K mg "is_below" s_is_below ["thing", "many"]
  d_is_word : Dx K mg "is_word" s_is_word ["thing", "most"]
  d_is_name : Dx K mg "is_name" s_is_name ["thing"]
  d_is_hole : Dx K mg "is_hole" s_is_hole ["thing"]
  d_size_within : Dx K mg "size_within" s_size_within ["thing", "holes", "deep"]
  d_is_term : Dx K mg "is_term" s_is_term ["thing"]
  d_is_pair : Dx K mg "is_pair" s_is_pair ["thing"]
  d_refuse_no_term : Dx K mg "refuse_no_term" s_refuse_no_term ["thing"]
  d_is_key : Dx K mg "is_key" s_is_key ["thing", "size"]
  d_is_table : Dx K mg "is_table" s_is_table ["thing"]
  d_refuse_no_table : Dx K mg "refuse_no_table" s_refuse_no_table ["thing"]
  d_worth : Dx K mg "worth" s_worth ["table", "pattern", "worths"]
  d_value : Dx K mg "value" s_value ["table", "term"]
  d_keeps : Dx K mg "keeps" s_keeps ["table", "pairs"]
  d__law_begun : Dx K mg "_law_begun" s__law_begun ["_law_script"]
  d__law_take : Dx K mg "_law_take" s__law_take ["_law_state", "_law_many"]
  d__law_name : Dx K mg "_law_name" s__law_name ["_law_state", "_law_met"]
  d__law_heads : Dx K mg "_law_heads" s__law_heads ["_law_state"]
  d__law_term : Dx K mg "_law_term" s__law_term ["_law_state", "_law_heads_here", "_law_left"]
  d__law_table : Dx K mg "_law_table" s__law_table ["_law_state", "_law_heads_here", "_law_size"]
  d__law_worth : Dx K mg "_law_worth" s__law_worth ["_law_board", "_law_tree"]
  d__law_said : Dx K mg "_law_said" s__law_said ["_law_door", "_law_board", "_law_thing"]
  d__law_even : Dx K mg "_law_even" s__law_even ["_law_state", "_law_heads_here", "_law_board"]
  d__law_kept : Dx K mg "_law_kept" s__law_kept ["_law_state", "_law_heads_here", "_law_board"]
  d__law_odd_list : Dx K mg "_law_odd_list" s__law_odd_list ["_law_state", "_law_some", "_law_a"]
  d_law : Dx K mg "law" s_law ["_law_script"]
  m_LETTERS : ∃ t, mg "LETTERS" = some (.str "abcdefghijklmnopqrstuvwxyz" t)
  m_MOST_NAME : ∃ t, mg "MOST_NAME" = some (.int 8 t)
  m_MOST_HOLE : ∃ t, mg "MOST_HOLE" = some (.int 4 t)
  m_MOST_PARTS : ∃ t, mg "MOST_PARTS" = some (.int 3 t)
  m_MOST_SIZE : ∃ t, mg "MOST_SIZE" = some (.int 30 t)
  m_MOST_DEEP : ∃ t, mg "MOST_DEEP" = some (.int 5 t)
  m_MOST_WORTHS : ∃ t, mg "MOST_WORTHS" = some (.int 100 t)
  e_BadTable : ExG K mg "BadTable" (clsA mg "BadTable")
  e_BadTerm : ExG K mg "BadTerm" (clsA mg "BadTerm")
  e_BadTerms : ExG K mg "BadTerms" (clsA mg "BadTerms")
  e_MatchError : ExG K mg "MatchError" (clsA mg "MatchError")
  me : MeK K mg (clsA mg "MatchError")
  gs_BadTable : mg "BadTable" = some (.ref (clsA mg "BadTable"))
  s_BadTable : MeS K (clsA mg "MatchError") (clsA mg "BadTable")
  gs_BadTerm : mg "BadTerm" = some (.ref (clsA mg "BadTerm"))
  s_BadTerm : MeS K (clsA mg "MatchError") (clsA mg "BadTerm")
  gs_BadTerms : mg "BadTerms" = some (.ref (clsA mg "BadTerms"))
  s_BadTerms : MeS K (clsA mg "MatchError") (clsA mg "BadTerms")
  g_BadPattern : mg "BadPattern" = some (.ref (clsA mg "BadPattern"))
  x_BadTable : ExcC K (clsA mg "BadTable")
  x_BadTerm : ExcC K (clsA mg "BadTerm")
  x_BadTerms : ExcC K (clsA mg "BadTerms")
  k_BadTable_BadTable : PySem.W.kitOne K (.ref (clsA mg "BadTable")) (.ref (clsA mg "BadTable")) = some true
  k_BadTable_BadTerm : PySem.W.kitOne K (.ref (clsA mg "BadTable")) (.ref (clsA mg "BadTerm")) = some false
  k_BadTable_BadTerms : PySem.W.kitOne K (.ref (clsA mg "BadTable")) (.ref (clsA mg "BadTerms")) = some false
  k_BadTable_BadPattern : PySem.W.kitOne K (.ref (clsA mg "BadTable")) (.ref (clsA mg "BadPattern")) = some false
  k_BadTerm_BadTable : PySem.W.kitOne K (.ref (clsA mg "BadTerm")) (.ref (clsA mg "BadTable")) = some false
  k_BadTerm_BadTerm : PySem.W.kitOne K (.ref (clsA mg "BadTerm")) (.ref (clsA mg "BadTerm")) = some true
  k_BadTerm_BadTerms : PySem.W.kitOne K (.ref (clsA mg "BadTerm")) (.ref (clsA mg "BadTerms")) = some false
  k_BadTerm_BadPattern : PySem.W.kitOne K (.ref (clsA mg "BadTerm")) (.ref (clsA mg "BadPattern")) = some false
  k_BadTerms_BadTable : PySem.W.kitOne K (.ref (clsA mg "BadTerms")) (.ref (clsA mg "BadTable")) = some false
  k_BadTerms_BadTerm : PySem.W.kitOne K (.ref (clsA mg "BadTerms")) (.ref (clsA mg "BadTerm")) = some false
  k_BadTerms_BadTerms : PySem.W.kitOne K (.ref (clsA mg "BadTerms")) (.ref (clsA mg "BadTerms")) = some true
  k_BadTerms_BadPattern : PySem.W.kitOne K (.ref (clsA mg "BadTerms")) (.ref (clsA mg "BadPattern")) = some false
  k_BadTable_MatchError : PySem.W.kitOne K (.ref (clsA mg "BadTable")) (.ref (clsA mg "MatchError")) = some true
  k_BadTerm_MatchError : PySem.W.kitOne K (.ref (clsA mg "BadTerm")) (.ref (clsA mg "MatchError")) = some true
  k_BadTerms_MatchError : PySem.W.kitOne K (.ref (clsA mg "BadTerms")) (.ref (clsA mg "MatchError")) = some true
  z_all : mg "all" = none
  z_bool : mg "bool" = none
  z_dict : mg "dict" = none
  z_int : mg "int" = none
  z_isinstance : mg "isinstance" = none
  z_len : mg "len" = none
  z_list : mg "list" = none
  z_range : mg "range" = none
  z_repr : mg "repr" = none
  z_str : mg "str" = none
  z_tuple : mg "tuple" = none
end Kt
namespace Kt
open PySem PySem.Spec PyProof.Rows L2

def LS : Str := "abcdefghijklmnopqrstuvwxyz"
def lowc (c : Nat) : Bool := decide (c ∈ LS.cps.toList)
/-- a text of 1 to m small letters -/
def isW (z : Str) (m : Int) : Bool := decide (1 ≤ (z.length : Int)) && (decide ((z.length : Int) ≤ m) && z.cps.toList.all lowc)
def Th.word (m : Int) : Th → Bool | .str z => isW z m | _ => false
def sp_is_word : Sp := fun vs H Q _ => ∃ v t m, vs = [v, .int m] ∧ Rep H v t ∧ ∀ H', Same H H' → Q (.bl (t.word m)) H'
theorem range_map_get {β : Type} {l : List Nat} (p : Nat → β) : ((List.range l.length).map fun i => p (l.getD i 0)) = l.map p := by
  apply List.ext_getElem
  · rw [List.length_map, List.length_map, List.length_range]
  · intro i h1 h2
    rw [List.length_map, List.length_range] at h1
    rw [List.getElem_map, List.getElem_map, List.getElem_range, List.getD_eq_getElem?_getD, List.getElem?_eq_getElem h1]
    rfl
section
variable {P : Program} {w : World} {K : PySem.W.Frag} {mg : Str → Option Value} {base : Heap}
theorem c_is_word (T : Tx K mg) : Cl P w K mg base CX0 1 "is_word" ["thing", "most"] sp_is_word := by
  refine Cl.mk0 T.d_is_word sc_is_word (fun vs H Q E h => ?_) (fun f cdv A outer s H vs Q E hr h => ?_)
  · obtain ⟨v, t, m, rfl, _⟩ := h
    rfl
  obtain ⟨v, t, m, rfl, r, q⟩ := h
  refine ⟨_, (pss_cons (ps_if (PW.pt (pw_or (pt_not (pt_val (pe_callB (id := "isinstance") (r := rIsi K) call_isi (by rfl) T.z_isinstance (by decide +kernel) (pa_cons (pv 0) (pa_cons (pe_bltn (v := .ty "str") (u := .type "str") (by rfl) T.z_str (by decide +kernel) rfl) pa_nil))))) (pw_or1 (pt_not (pt_chain op_le op_le pe_int (pe_callB call_len (by rfl) T.z_len (by decide +kernel) (pa_cons (pv 0) pa_nil)) (pv 1))))))
      (pss_one (ps_ret pe_bl))
      pss_nil)
    (pss_one (ps_ret (pe_callB (cr_all rfl) (by rfl) T.z_all (by decide +kernel) (pa_cons (pe_lc (own := [("sign", 2)]) (g := gName 2) (tt := tYes) rfl sc_is_word.nd (pi_str (pv 0)) (blkOk_by (own := [("sign", 2)]) (N := ["thing", "most", "sign"]) (sc := defScope s_is_word) (by decide +kernel)) (fun _ _ _ _ _ => (pg_name (i := 2) sc_is_word.nd rfl (Or.inl rfl))) (fun _ _ _ _ _ => pts_nil) (fun _ _ _ _ _ => (pe_cmpR op_in_sign (pv 2) (pe_glob (v := .str "abcdefghijklmnopqrstuvwxyz") (by rfl) T.m_LETTERS.choose_spec ⟨_, rfl⟩) rfl))) pa_nil))))), ?_⟩
  refine ⟨_, rfl, _, _, _, _, _, rfl, .ty _, r.tyx, kstr t, _, rfl, ?_⟩
  cases r with
  | str z hz ok =>
    refine iteF ?_
    refine ⟨_, rfl, _, _, rfl, ⟨Nat.le_of_lt (small1000 (by omega)), rfl⟩, _, _, rfl, rfl, _, rfl, ?_⟩
    have fin : ∀ (b : Bool), isW z m = b → ∀ H', Same H H' → Q (.bl b) H' := fun b e H' s => e ▸ q H' s
    refine ite2 (fun c1 => ?_) (fun c1 => ?_)
    · refine ⟨_, rfl, _, _, rfl, rfl, _, rfl, ?_⟩
      refine ite2 (fun c2 => ?_) (fun c2 => ?_)
      · refine fin false ?_ H (Same.refl H)
        have c2' : decide ((z.length : Int) ≤ m) = false := by simpa using c2
        unfold isW
        rw [c2', Bool.false_and, Bool.and_false]
      · have c2' : decide ((z.length : Int) ≤ m) = true := by simpa using c2
        refine ⟨_, rfl, _, rfl, fun D hD => ?_⟩
        refine lc_pure (walk_str) (fun i => .bl (lowc (z.cps.toList.getD i 0))) hD ?_ (fun _ _ => trivial) (fun x => rfl) (fun i x H1 H2 hi s1 y => ?_) (fun H1 s1 e1 => ?_)
        · have : z.cps.size ≤ 100 := hz
          omega
        · obtain ⟨rfl, c, hc, rfl⟩ := y
          refine ⟨Same.refl _, fun Q' q' => ⟨_, rfl, _, _, rfl, rfl, ?_⟩⟩
          have e : z.cps.toList.getD i 0 = c := by
            rw [List.getD_eq_getElem?_getD, Array.getElem?_toList, hc]
            rfl
          have e2 : lowc (z.cps.toList.getD i 0) = decide (c ∈ LS.cps.toList) := by rw [e]; rfl
          rw [e2] at q'
          exact q' _ (Same.refl _)
        · refine ⟨D, z.cps.toList.map lowc, rfl, SqL.of ?_, ?_⟩
          · rw [e1, List.map_map]
            exact congrArg (fun l => some (HO.lst l)) (range_map_get (l := z.cps.toList) fun c => V.bl (lowc c))
          · refine fin _ ?_ H1 s1
            unfold isW
            rw [c1, c2', Bool.true_and, Bool.true_and, List.all_map]
            rfl
    · refine ⟨_, rfl, iteT (fin false ?_ H (Same.refl H))⟩
      have c1' : decide (1 ≤ (z.length : Int)) = false := by simpa using c1
      unfold isW
      rw [c1', Bool.false_and]
  | _ => exact iteT (iteT (q H (Same.refl H)))
end
end Kt
namespace Kt
open PySem PySem.Spec PyProof.Rows L2
/-! ### slices -/
theorem cutV_lo (xs : List V) (k : Nat) : cutV xs (some (k : Int)) none = xs.drop k := by
  unfold cutV
  rw [HT.sIx_nat, HT.sIx_none]
  by_cases h : k ≤ xs.length
  · rw [Nat.min_eq_left h, ← List.length_drop, List.take_length]
  · rw [Nat.min_eq_right (by omega), List.drop_eq_nil_of_le (Nat.le_refl _), List.drop_eq_nil_of_le (by omega)]
    simp
theorem cutV_hi (xs : List V) (k : Nat) : cutV xs none (some (k : Int)) = xs.take k := by
  unfold cutV
  rw [HT.sIx_nat, HT.sIx_none, Nat.sub_zero, List.drop_zero, List.take_eq_take_iff]
  omega
theorem sl_lo {K : PySem.W.Frag} {H : Hp} {a : Addr} {xs : List V} {Q : VK} (k : Nat) (h : H a = some (.tup xs)) (hk : 0 < k) (hn : 0 < xs.length) (q : ∀ p, H p = none → Q (.ref p) (upd H p (.tup (xs.drop k)))) : rSlA K (.ref a) (some (k : Int)) none H Q := by
  refine ⟨a, xs, rfl, SqT.of h, fun e => absurd e.1 ?_, fun _ p hp => ?_⟩
  · rw [HT.sIx_nat]
    omega
  · rw [cutV_lo]
    exact q p hp
theorem sl_hi {K : PySem.W.Frag} {H : Hp} {a : Addr} {xs : List V} {Q : VK} (k : Nat) (h : H a = some (.tup xs)) (hk : k < xs.length) (q : ∀ p, H p = none → Q (.ref p) (upd H p (.tup (xs.take k)))) : rSlA K (.ref a) none (some (k : Int)) H Q := by
  refine ⟨a, xs, rfl, SqT.of h, fun e => absurd e.2 ?_, fun _ p hp => ?_⟩
  · rw [HT.sIx_nat]
    omega
  · rw [cutV_hi]
    exact q p hp
theorem cutS_len (z : Str) (lo hi : Option Int) : (cutS z lo hi).length ≤ z.length := by
  show ((z.cps.toList.drop _).take _).length ≤ z.cps.size
  rw [List.length_take, List.length_drop, Array.length_toList]
  omega
theorem cutS_ok {z : Str} (h : okS z) (lo hi : Option Int) : okS (cutS z lo hi) := fun c hc => h c (List.mem_of_mem_drop (List.mem_of_mem_take hc))
/-! ### what the program tells -/
def isHl (z : Str) : Bool := decide (V.str (cutS z none (some 1)) = V.str "?") && isW (cutS z (some 1) none) 4
def Th.hole : Th → Bool | .str z => isHl z | _ => false
def swl (f : Th → Int) (acc : Int) : List Th → Int
  | [] => acc
  | p :: ps => if f p = 0 then 0 else swl f (acc + f p) ps
def sw (h : Bool) : Nat → Th → Int
  | 0, _ => 0
  | d + 1, t => if t.hole then (if h then 1 else 0) else match t with
    | .tup (x :: ps) => if ps.length ≤ 3 ∧ x.word 8 = true then swl (sw h d) 1 ps else 0
    | _ => 0
def sp_is_name : Sp := fun vs H Q _ => ∃ v t, vs = [v] ∧ Rep H v t ∧ ∀ H', Same H H' → Q (.bl (t.word 8)) H'
def sp_is_hole : Sp := fun vs H Q _ => ∃ v t, vs = [v] ∧ Rep H v t ∧ ∀ H', Same H H' → Q (.bl t.hole) H'
def sp_size_within (n : Nat) : Sp := fun vs H Q _ => ∃ v t b, ∃ d : Nat, vs = [v, .bl b, .int (d : Int)] ∧ d < n ∧ Rep H v t ∧ ∀ H', Same H H' → Q (.int (sw b d t)) H'
def within (b : Bool) (t : Th) : Bool := decide (1 ≤ sw b 5 t) && decide (sw b 5 t ≤ 30)
def sp_is_term : Sp := fun vs H Q _ => ∃ v t, vs = [v] ∧ Rep H v t ∧ ∀ H', Same H H' → Q (.bl (within false t)) H'
def sp_is_pattern : Sp := fun vs H Q _ => ∃ v t, vs = [v] ∧ Rep H v t ∧ ∀ H', Same H H' → Q (.bl (within true t)) H'
section
variable {P : Program} {w : World} {K : PySem.W.Frag} {mg : Str → Option Value} {base : Heap}
theorem c_is_name (T : Tx K mg) : Cl P w K mg base CX0 2 "is_name" ["thing"] sp_is_name := by
  refine Cl.mk0 T.d_is_name sc_is_name (fun vs H Q E h => ?_) (fun f cdv A outer s H vs Q E hr h => ?_)
  · obtain ⟨v, t, rfl, _⟩ := h
    rfl
  obtain ⟨v, t, rfl, r, q⟩ := h
  refine ⟨_, (pss_one (ps_ret (pe_cl (c_is_word T) hr (by omega) rfl (pa_cons (pv 0) (pa_cons (pe_glob (v := .int 8) (by rfl) T.m_MOST_NAME.choose_spec ⟨_, rfl⟩) pa_nil))))), ?_⟩
  exact ⟨_, rfl, v, t, 8, rfl, r, q⟩
theorem c_is_hole (T : Tx K mg) : Cl P w K mg base CX0 2 "is_hole" ["thing"] sp_is_hole := by
  refine Cl.mk0 T.d_is_hole sc_is_hole (fun vs H Q E h => ?_) (fun f cdv A outer s H vs Q E hr h => ?_)
  · obtain ⟨v, t, rfl, _⟩ := h
    rfl
  obtain ⟨v, t, rfl, r, q⟩ := h
  refine ⟨_, (pss_one (ps_ret (pe_and (pe_callB (id := "isinstance") (r := rIsi K) call_isi (by rfl) T.z_isinstance (by decide +kernel) (pa_cons (pv 0) (pa_cons (pe_bltn (v := .ty "str") (u := .type "str") (by rfl) T.z_str (by decide +kernel) rfl) pa_nil))) (pe_and (pe_cmpR op_eq (pe_slice sl_str (pv 0) po_no (po_some pe_int)) pe_str (nomark _)) (pe_one (pe_cl (c_is_word T) hr (by omega) rfl (pa_cons (pe_slice sl_str (pv 0) (po_some pe_int) po_no) (pa_cons (pe_glob (v := .int 4) (by rfl) T.m_MOST_HOLE.choose_spec ⟨_, rfl⟩) pa_nil)))))))), ?_⟩
  refine ⟨_, rfl, _, _, _, _, _, rfl, .ty _, r.tyx, kstr t, _, rfl, ?_⟩
  cases r with
  | str z hz ok =>
    have hz' : z.length ≤ sizeLine := Nat.le_of_lt (small1000 (by omega))
    have fin : ∀ (b : Bool), isHl z = b → ∀ H', Same H H' → Q (.bl b) H' := fun b e H' s => e ▸ q H' s
    refine iteT ⟨_, rfl, 1, rfl, _, rfl, hz', rfl, _, rfl, ite2 (fun c => ?_) (fun c => ?_)⟩
    · refine ⟨_, rfl, 1, rfl, _, rfl, hz', _, .str _, 4, rfl, .str _ (Nat.le_trans (cutS_len _ _ _) hz) (cutS_ok ok _ _), fun H' s => ?_⟩
      refine fin _ ?_ H' s
      unfold isHl
      rw [c, Bool.true_and]
      rfl
    · refine fin _ ?_ H (Same.refl H)
      unfold isHl
      rw [Bool.eq_false_iff.mpr c, Bool.false_and]
  | _ => exact iteF (q H (Same.refl H))
theorem c_size_within_n (T : Tx K mg) : ∀ n : Nat, Cl P w K mg base CX0 (n + 2) "size_within" ["thing", "holes", "deep"] (sp_size_within n)
  | 0 => Cl.no T.d_size_within fun vs H Q E h => by
    obtain ⟨v, t, b, d, _, hd, _⟩ := h
    exact absurd hd (Nat.not_lt_zero d)
  | n + 1 => by
    have ih := c_size_within_n T n
    refine Cl.mk0 T.d_size_within sc_size_within (fun vs H Q E h => ?_) (fun f cdv A outer s H vs Q E hr h => ?_)
    · obtain ⟨v, t, b, d, rfl, _⟩ := h
      rfl
    obtain ⟨v, t, b, d, rfl, hd, r, q⟩ := h
    refine ⟨_, (pss_cons (ps_if (pt_cmpR op_eq (pv 2) pe_int (nomark _))
      (pss_one (ps_ret pe_int))
      pss_nil)
    (pss_cons (ps_if (pt_val (pe_cl (c_is_hole T) hr (by omega) rfl (pa_cons (pv 0) pa_nil)))
      (pss_one (ps_ret (pe_ifExp (pt_val (pv 1)) pe_int pe_int)))
      pss_nil)
    (pss_cons (ps_if (PW.pt (pw_or (pt_not (pt_val (pe_callB (id := "isinstance") (r := rIsi K) call_isi (by rfl) T.z_isinstance (by decide +kernel) (pa_cons (pv 0) (pa_cons (pe_bltn (v := .ty "tuple") (u := .type "tuple") (by rfl) T.z_tuple (by decide +kernel) rfl) pa_nil))))) (pw_or (pt_not (pt_chain op_le op_le pe_int (pe_callB call_len (by rfl) T.z_len (by decide +kernel) (pa_cons (pv 0) pa_nil)) (pe_op op_add pe_int (pe_glob (v := .int 3) (by rfl) T.m_MOST_PARTS.choose_spec ⟨_, rfl⟩)))) (pw_or1 (pt_not (pt_val (pe_cl (c_is_name T) hr (by omega) rfl (pa_cons (pe_ix ix_tup (pv 0) pe_int (fun _ _ => rfl)) pa_nil))))))))
      (pss_one (ps_ret pe_int))
      pss_nil)
    (pss_cons (ps_set (i := 3) sc_size_within.nd rfl (Or.inl rfl) pe_int)
    (pss_cons (ps_for PassesOwn.never rfl (pi_tup (pe_slice sl_tupA (pv 0) (po_some pe_int) po_no)) (pg_name (i := 4) sc_size_within.nd rfl (Or.inl rfl))
      (pss_cons (ps_set (i := 5) sc_size_within.nd rfl (Or.inl rfl) (pe_cl ih hr (by omega) rfl (pa_cons (pv 4) (pa_cons (pv 1) (pa_cons (pe_op op_sub (pv 2) pe_int) pa_nil)))))
      (pss_cons (ps_if (pt_cmpR op_eq (pv 5) pe_int (nomark _))
        (pss_one (ps_ret pe_int))
        pss_nil)
      (pss_one (ps_aug (i := 3) sc_size_within.nd rfl (Or.inl rfl) (pv 5) ip_add)))))
    (pss_one (ps_ret (pv 3)))))))), ?_⟩
    refine ⟨_, rfl, rfl, _, rfl, ite2 (fun c => ?_) (fun c => ?_)⟩
    · have e : (d : Int) = 0 := V.int.inj (of_decide_eq_true c)
      have e0 : d = 0 := by omega
      subst e0
      exact q H (Same.refl H)
    have d0 : d ≠ 0 := fun e => by
      subst e
      exact c (decide_eq_true rfl)
    obtain ⟨d', rfl⟩ : ∃ d', d = d' + 1 := ⟨d - 1, by omega⟩
    have fin : ∀ (i : Int), sw b (d' + 1) t = i → ∀ H', Same H H' → Q (.int i) H' := fun i e H' s => e ▸ q H' s
    refine ⟨_, rfl, v, t, rfl, r, fun H1 s1 => ⟨_, rfl, ite2 (fun c1 => ?_) (fun c1 => ?_)⟩⟩
    · have e : sw b (d' + 1) t = if b then 1 else 0 := by
        unfold sw
        rw [if_pos c1]
      cases b with
      | true => exact ⟨_, rfl, _, rfl, iteT (fin 1 e H1 s1)⟩
      | false => exact ⟨_, rfl, _, rfl, iteF (fin 0 e H1 s1)⟩
    have r1 := r.wk (Wk.same s1)
    refine ⟨_, rfl, _, _, _, _, _, rfl, .ty _, r1.tyx, ktup t, _, rfl, ?_⟩
    cases r1 with
    | @tup a xs l ha hn hl =>
      have no : ∀ H', Same H H' → (∀ x ps, l = x :: ps → ¬ (ps.length ≤ 3 ∧ x.word 8 = true)) → Q (.int 0) H' := fun H' s' k => fin 0 (by
        unfold sw
        rw [if_neg c1]
        cases l with
        | nil => rfl
        | cons x ps =>
          show (if ps.length ≤ 3 ∧ x.word 8 = true then swl (sw b d') 1 ps else 0) = 0
          rw [if_neg (k x ps rfl)]) H' s'
      have hlen := hl.length
      refine iteF ⟨_, rfl, _, _, rfl, .inr ⟨xs, SqT.of ha, rfl⟩, _, _, rfl, rfl, _, rfl, ite2 (fun c2 => ?_) (fun c2 => ?_)⟩
      · have c2' : 1 ≤ (xs.length : Int) := of_decide_eq_true c2
        refine ⟨_, _, rfl, rfl, _, _, rfl, rfl, _, rfl, ite2 (fun c3 => ?_) (fun c3 => ?_)⟩
        · have c3' : ¬ (xs.length : Int) ≤ 1 + 3 := of_decide_eq_false (by simpa using c3)
          refine iteT (no H1 s1 fun x ps e k => ?_)
          rw [e, List.length_cons] at hlen
          omega
        · have c3' : (xs.length : Int) ≤ 1 + 3 := of_decide_eq_true (by simpa using c3)
          cases hl with
          | nil =>
            have : (1 : Int) ≤ 0 := c2'
            omega
          | @cons y ys x ps hx hps =>
            rw [List.length_cons] at c3'
            have hp3 : ps.length ≤ 3 := by
              have := hps.length
              omega
            refine ⟨_, rfl, _, _, _, _, rfl, rfl, SqT.of ha, atI_nat (j := 0) rfl, y, x, rfl, hx, fun H2 s2 => ⟨_, rfl, ite2 (fun c4 => ?_) (fun c4 => ?_)⟩⟩
            · refine no H2 (s1.trans s2) fun x' ps' e k => ?_
              cases e
              rw [k.2] at c4
              cases c4
            · have c4' : x.word 8 = true := by simpa using c4
              have s12 := s1.trans s2
              have ha2 := s2 _ _ ha
              refine ⟨_, rfl, 1, rfl, ?_⟩
              refine sl_lo (K := K) 1 ha2 (by omega) (by rw [List.length_cons]; omega) fun p hp => ?_
              have s3 : Same H (upd H2 p (.tup ((y :: ys).drop 1))) := s12.trans (same_new hp _)
              have hps2 : RepL H2 ys ps := hps.wk (Wk.same s2)
              have val : ∀ acc, swl (sw b d') 1 ps = acc → ∀ H', Same H H' → Q (.int acc) H' := fun acc e H' s' => fin acc (by
                unfold sw
                rw [if_neg c1]
                show (if ps.length ≤ 3 ∧ x.word 8 = true then swl (sw b d') 1 ps else 0) = acc
                rw [if_pos ⟨hp3, c4'⟩, e]) H' s'
              refine ⟨p, rfl, ⟨ys, SqT.of upd_same⟩, for_tup (xs := ys) (fun i σ H' => ∃ acc y4 y5, σ = [some (.ref a), some (.bl b), some (.int ((d' + 1 : Nat) : Int)), some (.int acc), y4, y5] ∧ Same H2 H' ∧ H' p = some (.tup ys) ∧
                swl (sw b d') 1 ps = swl (sw b d') acc (ps.drop i)) ⟨1, none, none, rfl, same_new hp _, upd_same, rfl⟩ (fun i σ H' _ h' => ?_) (fun i z σ H' hz h' => ?_) (fun σ H' h' => ?_)⟩
              · obtain ⟨acc, y4, y5, _, _, hpH, _⟩ := h'
                exact SqT.of hpH
              · obtain ⟨acc, y4, y5, rfl, sH, hpH, eq⟩ := h'
                obtain ⟨t, ht, hr'⟩ := (hps2.wk (Wk.same sH)).get' hz
                obtain ⟨hi, hti⟩ := List.getElem?_eq_some_iff.mp ht
                rw [List.drop_eq_getElem_cons hi, hti] at eq
                refine ⟨_, rfl, _, rfl, _, rfl, _, _, rfl, rfl, z, t, b, d', ?_, by omega, hr', fun H3 s3' => ?_⟩
                · have : ((d' + 1 : Nat) : Int) - 1 = (d' : Int) := by omega
                  show [z, V.bl b, V.int (((d' + 1 : Nat) : Int) - 1)] = _
                  rw [this]
                refine ⟨_, rfl, rfl, _, rfl, ite2 (fun c5 => ?_) (fun c5 => ?_)⟩
                · refine val 0 ?_ H3 (s12.trans (sH.trans s3'))
                  rw [eq]
                  show (if sw b d' t = 0 then 0 else _) = 0
                  rw [if_pos (V.int.inj (of_decide_eq_true c5))]
                · refine ⟨_, rfl, _, rfl, _, _, rfl, rfl, acc + sw b d' t, _, _, rfl, sH.trans s3', s3' _ _ hpH, ?_⟩
                  rw [eq]
                  show (if sw b d' t = 0 then 0 else _) = _
                  rw [if_neg fun e => c5 (by rw [e]; rfl)]
              · obtain ⟨acc, y4, y5, rfl, sH, hpH, eq⟩ := h'
                rw [List.drop_eq_nil_of_le (by rw [hps2.length]; exact Nat.le_refl _)] at eq
                exact ⟨_, rfl, val acc eq H' (s12.trans sH)⟩
      · refine ⟨_, rfl, iteT (no H1 s1 fun x ps e k => ?_)⟩
        have c2' : ¬ 1 ≤ (xs.length : Int) := of_decide_eq_false (by simpa using c2)
        rw [e, List.length_cons] at hlen
        omega
    | _ => exact iteT (iteT (fin 0 (by unfold sw; rw [if_neg c1]) H1 s1))
theorem c_size_within (T : Tx K mg) : Cl P w K mg base CX0 8 "size_within" ["thing", "holes", "deep"] (sp_size_within 6) := c_size_within_n T 6
end
end Kt
namespace Kt
open PySem PySem.Spec PyProof.Rows L2
section
variable {P : Program} {w : World} {K : PySem.W.Frag} {mg : Str → Option Value} {base : Heap}
theorem c_is_term (T : Tx K mg) : Cl P w K mg base CX0 9 "is_term" ["thing"] sp_is_term := by
  refine Cl.mk0 T.d_is_term sc_is_term (fun vs H Q E h => ?_) (fun f cdv A outer s H vs Q E hr h => ?_)
  · obtain ⟨v, t, rfl, _⟩ := h
    rfl
  obtain ⟨v, t, rfl, r, q⟩ := h
  refine ⟨_, (pss_one (ps_ret (pe_chain op_le op_le pe_int (pe_cl (c_size_within T) hr (by omega) rfl (pa_cons (pv 0) (pa_cons pe_bl (pa_cons (pe_glob (v := .int 5) (by rfl) T.m_MOST_DEEP.choose_spec ⟨_, rfl⟩) pa_nil)))) (pe_glob (v := .int 30) (by rfl) T.m_MOST_SIZE.choose_spec ⟨_, rfl⟩)))), ?_⟩
  refine ⟨_, rfl, v, t, false, 5, rfl, by omega, r, fun H' s' => ⟨_, _, rfl, rfl, _, rfl, ite2 (fun c => ?_) (fun c => ?_)⟩⟩
  · refine ⟨_, _, rfl, rfl, ?_⟩
    have e : within false t = decide (sw false 5 t ≤ 30) := by
      unfold within
      rw [c, Bool.true_and]
    have q' := q H' s'
    rw [e] at q'
    exact q'
  · have e : within false t = false := by
      unfold within
      rw [Bool.eq_false_iff.mpr c, Bool.false_and]
    have q' := q H' s'
    rw [e] at q'
    exact q'
end
end Kt
namespace Kt
open PySem PySem.Spec PyProof.Rows L2
/-! ### texts that grow -/
theorem app_list (x y : Str) : (x ++ y).cps.toList = x.cps.toList ++ y.cps.toList := Array.toList_append
theorem app_len (x y : Str) : (x ++ y).length = x.length + y.length := Array.size_append
theorem len_list (x : Str) : x.length = x.cps.toList.length := rfl
theorem LS_list : LS.cps.toList = [97, 98, 99, 100, 101, 102, 103, 104, 105, 106, 107, 108, 109, 110, 111, 112, 113, 114, 115, 116, 117, 118, 119, 120, 121, 122] := by decide +kernel
theorem lowc_lt {c : Nat} (h : lowc c = true) : c < 1114112 := by
  have h1 : c ∈ LS.cps.toList := of_decide_eq_true h
  rw [LS_list] at h1
  simp only [List.mem_cons, List.not_mem_nil, or_false] at h1
  omega
theorem isW_of {z : Str} {m : Int} (h1 : 1 ≤ z.length) (h2 : (z.length : Int) ≤ m) (h : z.cps.toList.all lowc = true) : isW z m = true := by
  unfold isW
  rw [h, decide_eq_true (by omega : 1 ≤ (z.length : Int)), decide_eq_true h2]
  rfl
theorem isW_out {z : Str} {m : Int} (h : isW z m = true) : 1 ≤ z.length ∧ (z.length : Int) ≤ m ∧ z.cps.toList.all lowc = true := by
  unfold isW at h
  simp only [Bool.and_eq_true, decide_eq_true_eq] at h
  exact ⟨by omega, h.2.1, h.2.2⟩
theorem okS_low {z : Str} (h : z.cps.toList.all lowc = true) : okS z := fun c hc => lowc_lt (List.all_eq_true.mp h c hc)
theorem isW_rep {z : Str} {m : Int} {H : Hp} (h : isW z m = true) (hm : m ≤ 100) : Rep H (.str z) (.str z) := by
  obtain ⟨_, h2, h3⟩ := isW_out h
  exact .str z (by omega) (okS_low h3)
theorem str_ext {x y : Str} (h : x.cps.toList = y.cps.toList) : x = y := by
  cases x with | mk a => cases y with | mk b => exact congrArg Str.mk (Array.toList_inj.mp h)
end Kt
namespace Kt
open PySem PySem.Spec PyProof.Rows L2
/-! ### the draws: a dict at d, over the script's list at c -/
def stA (c : Addr) (a r t m : Int) : List (Key × V) := [(Sum.inr "cells", .ref c), (Sum.inr "at", .int a), (Sum.inr "rest", .int r), (Sum.inr "turn", .int t), (Sum.inr "more", .int m)]
section
variable {c : Addr} {a r t m : Int}
theorem vA_cells : valV (stA c a r t m) (Sum.inr "cells") = some (.ref c) := rfl
theorem vA_at : valV (stA c a r t m) (Sum.inr "at") = some (.int a) := rfl
theorem vA_rest : valV (stA c a r t m) (Sum.inr "rest") = some (.int r) := rfl
theorem vA_turn : valV (stA c a r t m) (Sum.inr "turn") = some (.int t) := rfl
theorem vA_more : valV (stA c a r t m) (Sum.inr "more") = some (.int m) := rfl
theorem pA_at (x : Int) : putK (stA c a r t m) (Sum.inr "at") (.int x) = stA c x r t m := rfl
theorem pA_rest (x : Int) : putK (stA c a r t m) (Sum.inr "rest") (.int x) = stA c a x t m := rfl
theorem pA_turn (x : Int) : putK (stA c a r t m) (Sum.inr "turn") (.int x) = stA c a r x m := rfl
theorem pA_more (x : Int) : putK (stA c a r t m) (Sum.inr "more") (.int x) = stA c a r t x := rfl
theorem mA : mergeK [] (stA c a r t m) = stA c a r t m := rfl
theorem dA_cells {H : Hp} {d : Addr} (h : H d = some (.dK (stA c a r t m))) : DGet H d (.str "cells") (some (.ref c)) := DGet.k (k := Sum.inr "cells") h
theorem dA_at {H : Hp} {d : Addr} (h : H d = some (.dK (stA c a r t m))) : DGet H d (.str "at") (some (.int a)) := DGet.k (k := Sum.inr "at") h
theorem dA_rest {H : Hp} {d : Addr} (h : H d = some (.dK (stA c a r t m))) : DGet H d (.str "rest") (some (.int r)) := DGet.k (k := Sum.inr "rest") h
theorem dA_turn {H : Hp} {d : Addr} (h : H d = some (.dK (stA c a r t m))) : DGet H d (.str "turn") (some (.int t)) := DGet.k (k := Sum.inr "turn") h
theorem dA_more {H : Hp} {d : Addr} (h : H d = some (.dK (stA c a r t m))) : DGet H d (.str "more") (some (.int m)) := DGet.k (k := Sum.inr "more") h
theorem stA_few : (stA c a r t m).length < sizeLine := by show 5 < sizeLine; decide
theorem uA_at {H : Hp} {d : Addr} (h : H d = some (.dK (stA c a r t m))) (x : Int) : DPut H d (.str "at") (.int x) (upd H d (.dK (stA c x r t m))) := DPut.k (k := Sum.inr "at") h stA_few
theorem uA_rest {H : Hp} {d : Addr} (h : H d = some (.dK (stA c a r t m))) (x : Int) : DPut H d (.str "rest") (.int x) (upd H d (.dK (stA c a x t m))) := DPut.k (k := Sum.inr "rest") h stA_few
theorem uA_turn {H : Hp} {d : Addr} (h : H d = some (.dK (stA c a r t m))) (x : Int) : DPut H d (.str "turn") (.int x) (upd H d (.dK (stA c a r x m))) := DPut.k (k := Sum.inr "turn") h stA_few
theorem uA_more {H : Hp} {d : Addr} (h : H d = some (.dK (stA c a r t m))) (x : Int) : DPut H d (.str "more") (.int x) (upd H d (.dK (stA c a r t x))) := DPut.k (k := Sum.inr "more") h stA_few
end
def DrA (K : PySem.W.Frag) (d c : Addr) (H : Hp) : Prop := ∃ (ns : List Int) (a r t m : Int), H d = some (.dK (stA c a r t m)) ∧ SqL K H c (ns.map V.int) ∧ 0 ≤ a ∧ 0 ≤ r ∧ 0 ≤ t ∧ 0 ≤ m ∧ m < 2147483647
/-- all but the draws stands as it stood -/
structure DUA (K : PySem.W.Frag) (d c : Addr) (H H' : Hp) : Prop where
  old : ∀ a o, a ≠ d → H a = some o → H' a = some o
  dr : DrA K d c H'
theorem sql_keep {K : PySem.W.Frag} {H H' : Hp} {d c : Addr} {xs : List V} {kvs : List (Key × V)} (h : SqL K H c xs) (hd : H d = some (.dK kvs)) (k : ∀ a o, a ≠ d → H a = some o → H' a = some o) : SqL K H' c xs := by
  rcases h with (h | ⟨o, h⟩) | h
  · exact .inl (.inl (k _ _ (ne_of h hd fun e => nomatch e) h))
  · exact .inl (.inr ⟨o, k _ _ (ne_of h hd fun e => nomatch e) h⟩)
  · exact .inr h
theorem sql_same {K : PySem.W.Frag} {H H' : Hp} {c : Addr} {xs : List V} (h : SqL K H c xs) (s : Same H H') : SqL K H' c xs := by
  rcases h with (h | ⟨o, h⟩) | h
  · exact .inl (.inl (s _ _ h))
  · exact .inl (.inr ⟨o, s _ _ h⟩)
  · exact .inr h
section
variable {K : PySem.W.Frag} {d c : Addr} {H H' H1 H2 : Hp}
theorem DrA.same (h : DrA K d c H) (s : Same H H') : DrA K d c H' := by
  obtain ⟨ns, a, r, t, m, h1, h2, q⟩ := h
  exact ⟨ns, a, r, t, m, s _ _ h1, sql_same h2 s, q⟩
theorem DUA.same (h : DrA K d c H) (s : Same H H') : DUA K d c H H' := ⟨fun a o _ q => s a o q, h.same s⟩
theorem DUA.refl (h : DrA K d c H) : DUA K d c H H := DUA.same h (Same.refl H)
theorem DUA.trans (a : DUA K d c H H1) (b : DUA K d c H1 H2) : DUA K d c H H2 := ⟨fun x o n q => b.old x o n (a.old x o n q), b.dr⟩
theorem DUA.then (a : DUA K d c H H1) (b : Same H1 H2) : DUA K d c H H2 := a.trans (DUA.same a.dr b)
theorem DUA.tup (h : DrA K d c H) (u : DUA K d c H H') {b : Addr} {xs : List V} (q : H b = some (.tup xs)) : H' b = some (.tup xs) := by
  obtain ⟨ns, a, r, t, m, h1, _⟩ := h
  exact u.old _ _ (ne_of q h1 fun e => nomatch e) q
theorem DUA.lst (h : DrA K d c H) (u : DUA K d c H H') {b : Addr} {xs : List V} (q : H b = some (.lst xs)) : H' b = some (.lst xs) := by
  obtain ⟨ns, a, r, t, m, h1, _⟩ := h
  exact u.old _ _ (ne_of q h1 fun e => nomatch e) q
theorem DUA.wk (h : DrA K d c H) (u : DUA K d c H H') : Wk H H' := by
  refine ⟨fun a xs q => u.tup h q, fun a xs q => ⟨xs, u.lst h q⟩, fun a xs q => ?_⟩
  by_cases e : a = d
  · subst e
    obtain ⟨ns, a, r, t, m, h1, _⟩ := u.dr
    exact ⟨_, h1⟩
  · exact ⟨xs, u.old a _ e q⟩
theorem DrA.ne (h : DrA K d c H) {p : Addr} (hp : H p = none) : p ≠ d := by
  obtain ⟨ns, a, r, t, m, h1, _⟩ := h
  exact (ne_of_none h1 hp).symm
end
theorem ixN_natA {n j : Nat} (hj : j < n) : ixN n (j : Int) = some j := by
  unfold ixN
  rw [if_pos (by omega), if_pos (by omega)]
  simp
theorem fmod_inA {a b : Int} (h : 0 < b) : 0 ≤ a.fmod b ∧ a.fmod b < b := ⟨Int.fmod_nonneg_of_pos a h, Int.fmod_lt_of_pos a h⟩
/-- the list at m is none of the draws' -/
def Far (K : PySem.W.Frag) (c m : Addr) : Prop := m ≠ c ∨ ∀ H : Hp, ∃ ns : List Int, SqL K H c (ns.map V.int)
theorem DrA.far {K : PySem.W.Frag} {d c p : Addr} {H : Hp} (h : DrA K d c H) (hp : H p = none) : Far K c p := by
  obtain ⟨ns, a, r, t, m, h1, h2, _⟩ := h
  rcases h2 with (h | ⟨o, h⟩) | h
  · exact .inl (ne_of_none h hp).symm
  · exact .inl (ne_of_none h hp).symm
  · exact .inr fun _ => ⟨ns, .inr h⟩
theorem DrA.mut {K : PySem.W.Frag} {d c m : Addr} {H : Hp} {o : HO} (h : DrA K d c H) (md : m ≠ d) (far : Far K c m) : DrA K d c (upd H m o) := by
  obtain ⟨ns, a, r, t, mm, h1, h2, h3⟩ := h
  rcases far with ne | k
  · refine ⟨ns, a, r, t, mm, by rw [upd_ne md.symm]; exact h1, ?_, h3⟩
    rcases h2 with (h | ⟨u, h⟩) | h
    · exact .inl (.inl (by rw [upd_ne ne.symm]; exact h))
    · exact .inl (.inr ⟨u, by rw [upd_ne ne.symm]; exact h⟩)
    · exact .inr h
  · obtain ⟨ns', h⟩ := k (upd H m o)
    exact ⟨ns', a, r, t, mm, by rw [upd_ne md.symm]; exact h1, h, h3⟩
def sp_begunA (K : PySem.W.Frag) : Sp := fun vs H Q _ => ∃ (a : Addr) (ns : List Int), vs = [.ref a] ∧ SqL K H a (ns.map V.int) ∧ ∀ d H', Same H H' → H d = none → DrA K d a H' → Q (.ref d) H'
def sp_takeA (K : PySem.W.Frag) : Sp := fun vs H Q _ => ∃ (d c : Addr) (n : Int), vs = [.ref d, .int n] ∧ 0 < n ∧ n < 1000000 ∧ DrA K d c H ∧ ∀ r H', 0 ≤ r → r < n → DUA K d c H H' → Q (.int r) H'
section
variable {P : Program} {w : World} {K : PySem.W.Frag} {mg : Str → Option Value} {base : Heap}
theorem c__law_begun (T : Tx K mg) : Cl P w K mg base CX0 1 "_law_begun" ["_law_script"] (sp_begunA K) := by
  refine Cl.mk0 T.d__law_begun sc__law_begun (fun vs H Q E h => ?_) (fun f cdv A outer s H vs Q E hr h => ?_)
  · obtain ⟨a, ns, rfl, _⟩ := h
    rfl
  obtain ⟨a, ns, rfl, hS, q⟩ := h
  refine ⟨_, (pss_one (ps_ret (pe_disp (pps_cons pe_str (pv 0) (pps_cons pe_str pe_int (pps_cons pe_str pe_int (pps_cons pe_str pe_int (pps_cons pe_str pe_int pps_nil))))) rfl rfl (by simp) (by decide)))), ?_⟩
  refine fun p hp => ⟨_, rfl, ?_⟩
  refine ⟨upd_same, stA a 0 0 0 17, rfl, by show 5 ≤ 15; decide, ?_⟩
  rw [mA]
  have e : upd (upd H p (.dK [])) p (.dK (stA a 0 0 0 17)) = upd H p (.dK (stA a 0 0 0 17)) := upd_upd
  rw [e]
  exact q p _ (same_new hp _) hp ⟨ns, 0, 0, 0, 17, upd_same, sql_same hS (same_new hp _), by decide, by decide, by decide, by decide, by decide⟩
theorem c__law_take (T : Tx K mg) : Cl P w K mg base CX0 1 "_law_take" ["_law_state", "_law_many"] (sp_takeA K) := by
  refine Cl.mk0 T.d__law_take sc__law_take (fun vs H Q E h => ?_) (fun f cdv A outer s H vs Q E hr h => ?_)
  · obtain ⟨d, c, n, rfl, _⟩ := h
    rfl
  obtain ⟨d, c, n, rfl, hn0, hn, hD, q⟩ := h
  obtain ⟨ns, a0, r0, t0, m0, hd, hc, ha, hr0, ht, hm, hm2⟩ := hD
  refine ⟨_, (pss_cons (ps_set (i := 2) sc__law_take.nd rfl (Or.inl rfl) (pe_dget (hu_of hr) (pv 0) pe_str (fun _ _ => rfl)))
    (Evl.pss_cut (ps_while PassesOwn.never (PW.pt (pw_and (pt_cmpR op_lt (pe_dget (hu_of hr) (pv 0) pe_str (fun _ _ => rfl)) pe_int (nomark _)) (pw_and1 (pt_cmpR op_lt (pe_dget (hu_of hr) (pv 0) pe_str (fun _ _ => rfl)) (pe_callB call_len (by rfl) T.z_len (by decide +kernel) (pa_cons (pv 2) pa_nil)) (nomark _)))))
      (pss_cons (ps_if (pt_cmpR op_ge (pe_ix ix_list (pv 2) (pe_dget (hu_of hr) (pv 0) pe_str (fun _ _ => rfl)) (fun _ _ => rfl)) (pe_op op_pow pe_int pe_int) (nomark _))
        (pss_one (ps_dput (hu_of hr) (pv 0) pe_str (pe_ix ix_list (pv 2) (pe_dget (hu_of hr) (pv 0) pe_str (fun _ _ => rfl)) (fun _ _ => rfl)) rfl))
        pss_nil)
      (pss_one (ps_dput (hu_of hr) (pv 0) pe_str (pe_op op_add (pe_dget (hu_of hr) (pv 0) pe_str (fun _ _ => rfl)) pe_int) rfl))))
    (pss_cons (ps_if (pt_cmpR op_gt (pe_dget (hu_of hr) (pv 0) pe_str (fun _ _ => rfl)) pe_int (nomark _))
      (pss_cons (ps_set (i := 3) sc__law_take.nd rfl (Or.inl rfl) (pe_op op_modN (pe_dget (hu_of hr) (pv 0) pe_str (fun _ _ => rfl)) (pv 1)))
      (pss_cons (ps_dput (hu_of hr) (pv 0) pe_str (pe_op op_fdivN (pe_dget (hu_of hr) (pv 0) pe_str (fun _ _ => rfl)) (pv 1)) rfl)
      (pss_one (ps_ret (pv 3)))))
      pss_nil)
    (pss_cons (ps_set (i := 4) sc__law_take.nd rfl (Or.inl rfl) pe_int)
    (Evl.pss_cut (ps_if (pt_cmpR op_gt (pe_callB call_len (by rfl) T.z_len (by decide +kernel) (pa_cons (pv 2) pa_nil)) pe_int (nomark _))
      (pss_one (ps_set (i := 4) sc__law_take.nd rfl (Or.inl rfl) (pe_ix ix_list (pv 2) (pe_op op_modN (pe_dget (hu_of hr) (pv 0) pe_str (fun _ _ => rfl)) (pe_callB call_len (by rfl) T.z_len (by decide +kernel) (pa_cons (pv 2) pa_nil))) (fun _ _ => rfl))))
      pss_nil)
    (pss_cons (ps_dput (hu_of hr) (pv 0) pe_str (pe_op op_add (pe_dget (hu_of hr) (pv 0) pe_str (fun _ _ => rfl)) pe_int) rfl)
    (pss_cons (ps_dput (hu_of hr) (pv 0) pe_str (pe_op op_modN (pe_op op_add (pe_op op_add (pe_op op_mul (pe_dget (hu_of hr) (pv 0) pe_str (fun _ _ => rfl)) pe_int) (pv 4)) (pe_dget (hu_of hr) (pv 0) pe_str (fun _ _ => rfl))) pe_int) rfl)
    (pss_one (ps_ret (pe_op op_modN (pe_op op_modN (pe_op op_add (pe_op op_mul (pe_dget (hu_of hr) (pv 0) pe_str (fun _ _ => rfl)) (pe_dget (hu_of hr) (pv 0) pe_str (fun _ _ => rfl))) (pe_op op_mul pe_int (pe_dget (hu_of hr) (pv 0) pe_str (fun _ _ => rfl)))) pe_int) (pv 1))))))))))), ?_⟩
  refine ⟨_, rfl, d, _, rfl, dA_cells hd, ?_⟩
  refine ⟨fun σ' H' => ∃ a r, σ' = [some (.ref d), some (.int n), some (.ref c), none, none] ∧ H' d = some (.dK (stA c a r t0 m0)) ∧ (∀ b o, b ≠ d → H b = some o → H' b = some o) ∧ 0 ≤ a ∧ 0 ≤ r, ?_, fun σ1 H1 e1 => ?_⟩
  · refine ⟨fun m σ' H' => ∃ a r, σ' = [some (.ref d), some (.int n), some (.ref c), none, none] ∧ H' d = some (.dK (stA c a r t0 m0)) ∧ (∀ b o, b ≠ d → H b = some o → H' b = some o) ∧ 0 ≤ a ∧ 0 ≤ r ∧ m = ns.length - a.toNat, ⟨_, a0, r0, rfl, hd, fun _ _ _ h => h, ha, hr0, rfl⟩, fun m σ' H' hW => ?_⟩
    obtain ⟨a, r, rfl, hd', old, ha', hr', rfl⟩ := hW
    have hc' := sql_keep hc hd old
    refine ⟨_, rfl, d, _, rfl, dA_rest hd', _, _, rfl, rfl, _, rfl, ite2 (fun c1 => ?_) (fun c1 => ⟨a, r, rfl, hd', old, ha', hr'⟩)⟩
    refine ⟨_, rfl, d, _, rfl, dA_at hd', _, rfl, _, _, rfl, .inl ⟨_, hc', rfl⟩, _, _, rfl, rfl, _, rfl, ite2 (fun c2 => ?_) (fun c2 => ⟨a, r, rfl, hd', old, ha', hr'⟩)⟩
    have c2 : a < ((ns.map V.int).length : Nat) := of_decide_eq_true c2
    rw [List.length_map] at c2
    obtain ⟨j, rfl⟩ : ∃ j : Nat, a = (j : Int) := ⟨a.toNat, by omega⟩
    have hj : j < ns.length := by omega
    have hget : (ns.map V.int)[j]? = some (.int ns[j]) := by
      rw [List.getElem?_map, List.getElem?_eq_getElem hj]
      rfl
    refine ⟨fun σ' H2 => ∃ r', σ' = [some (.ref d), some (.int n), some (.ref c), none, none] ∧ H2 d = some (.dK (stA c ((j : Int) + 1) r' t0 m0)) ∧ (∀ b o, b ≠ d → H b = some o → H2 b = some o) ∧ 0 ≤ r', fun σ' H2 h2 => ?_, ?_⟩
    · obtain ⟨r', rfl, h3, h4, h5⟩ := h2
      exact ⟨ns.length - ((j : Int) + 1).toNat, by omega, _, r', rfl, h3, h4, by omega, h5, rfl⟩
    refine ⟨_, rfl, _, rfl, d, _, rfl, dA_at hd', c, _, _, _, rfl, rfl, hc', atI_nat hget, _, _, rfl, rfl, ⟨by decide, by decide, by decide⟩, _, _, rfl, rfl, _, rfl, ite2 (fun c3 => ?_) (fun c3 => ?_)⟩
    · have c3 : (10 : Int) ^ (18 : Int).toNat ≤ ns[j] := of_decide_eq_true c3
      have n0 : 0 ≤ ns[j] := Int.le_trans (by decide) c3
      refine ⟨_, rfl, _, rfl, d, _, rfl, dA_at hd', c, _, _, _, rfl, rfl, hc', atI_nat hget, _, rfl, d, _, rfl, uA_rest hd' _, ?_⟩
      have h1 : (upd H' d (.dK (stA c (j : Int) ns[j] t0 m0))) d = some (.dK (stA c (j : Int) ns[j] t0 m0)) := upd_same
      exact ⟨_, rfl, d, _, rfl, dA_at h1, _, _, rfl, rfl, _, rfl, d, _, rfl, uA_at h1 _, ns[j], rfl, upd_same, fun b o nb hb => by rw [upd_ne nb, upd_ne nb]; exact old b o nb hb, n0⟩
    · exact ⟨_, rfl, d, _, rfl, dA_at hd', _, _, rfl, rfl, _, rfl, d, _, rfl, uA_at hd' _, r, rfl, upd_same, fun b o nb hb => by rw [upd_ne nb]; exact old b o nb hb, hr'⟩
  obtain ⟨a, r, rfl, hd', old, ha', hr'⟩ := e1
  have hc' := sql_keep hc hd old
  refine ⟨_, rfl, d, _, rfl, dA_rest hd', _, _, rfl, rfl, _, rfl, ite2 (fun c1 => ?_) (fun c1 => ?_)⟩
  · refine ⟨_, rfl, d, _, rfl, dA_rest hd', _, rfl, _, _, rfl, rfl, by omega, ?_⟩
    refine ⟨_, rfl, d, _, rfl, dA_rest hd', _, rfl, _, _, rfl, rfl, ⟨by omega, by omega⟩, _, rfl, d, _, rfl, uA_rest hd' _, _, rfl, ?_⟩
    obtain ⟨r1, r2⟩ := fmod_inA (a := r) hn0
    exact q _ _ r1 r2 ⟨fun b o nb hb => by rw [upd_ne nb]; exact old b o nb hb, ns, a, r.fdiv n, t0, m0, upd_same, sql_keep hc' hd' fun b o nb hb => by rw [upd_ne nb]; exact hb, ha', Int.fdiv_nonneg hr' (by omega), ht, hm, hm2⟩
  refine ⟨fun σ' H2 => ∃ cell, σ' = [some (.ref d), some (.int n), some (.ref c), none, some (.int cell)] ∧ H2 = H1, ?_, fun σ2 H2 e2 => ?_⟩
  · refine ⟨_, rfl, _, _, rfl, .inl ⟨_, hc', rfl⟩, _, _, rfl, rfl, _, rfl, ite2 (fun c2 => ?_) (fun c2 => ⟨_, rfl, rfl⟩)⟩
    have c2 : (0 : Int) < ((ns.map V.int).length : Nat) := of_decide_eq_true c2
    obtain ⟨x0, x1⟩ := fmod_inA (a := t0) c2
    obtain ⟨j, hj⟩ : ∃ j : Nat, t0.fmod ((ns.map V.int).length : Nat) = (j : Int) := ⟨(t0.fmod ((ns.map V.int).length : Nat)).toNat, by omega⟩
    have hj2 : j < ns.length := by
      rw [hj, List.length_map] at x1
      omega
    have hget : (ns.map V.int)[j]? = some (.int ns[j]) := by
      rw [List.getElem?_map, List.getElem?_eq_getElem hj2]
      rfl
    exact ⟨_, rfl, _, rfl, d, _, rfl, dA_turn hd', _, rfl, _, _, rfl, .inl ⟨_, hc', rfl⟩, _, _, rfl, rfl, by omega, c, _, _, _, rfl, rfl, hc', by rw [hj]; exact atI_nat hget, _, rfl, rfl⟩
  obtain ⟨cell, rfl, rfl⟩ := e2
  have h1 : (upd H2 d (.dK (stA c a r (t0 + 1) m0))) d = some (.dK (stA c a r (t0 + 1) m0)) := upd_same
  refine ⟨_, rfl, d, _, rfl, dA_turn hd', _, _, rfl, rfl, _, rfl, d, _, rfl, uA_turn hd' _, ?_⟩
  refine ⟨_, rfl, d, _, rfl, dA_more h1, _, _, rfl, rfl, .inl ⟨by omega, by omega⟩, _, rfl, _, _, rfl, rfl, _, rfl, d, _, rfl, dA_turn h1, _, _, rfl, rfl, _, _, rfl, rfl, (show (2147483647 : Int) ≠ 0 by decide), _, rfl, d, _, rfl, uA_more h1 _, ?_⟩
  obtain ⟨x0, x1⟩ := fmod_inA (a := m0 * 48271 + cell + (t0 + 1)) (b := 2147483647) (by decide)
  have h2 : (upd (upd H2 d (.dK (stA c a r (t0 + 1) m0))) d (.dK (stA c a r (t0 + 1) ((m0 * 48271 + cell + (t0 + 1)).fmod 2147483647)))) d = some (.dK (stA c a r (t0 + 1) ((m0 * 48271 + cell + (t0 + 1)).fmod 2147483647))) := upd_same
  generalize (m0 * 48271 + cell + (t0 + 1)).fmod 2147483647 = m1 at x0 x1 h2 ⊢
  refine ⟨_, rfl, d, _, rfl, dA_more h2, _, rfl, d, _, rfl, dA_more h2, _, _, rfl, rfl, .inl ⟨by omega, by omega⟩, _, rfl, d, _, rfl, dA_more h2, _, _, rfl, rfl, .inl ⟨by omega, by omega⟩, _, _, rfl, rfl, _, _, rfl, rfl, (show (2147483629 : Int) ≠ 0 by decide), _, rfl, _, _, rfl, rfl, by omega, ?_⟩
  obtain ⟨y0, y1⟩ := fmod_inA (a := (m1 * m1 + 16807 * m1).fmod 2147483629) hn0
  exact q _ _ y0 y1 ⟨fun b o nb hb => by rw [upd_ne nb, upd_ne nb]; exact old b o nb hb, ns, a, r, t0 + 1, m1, h2, sql_keep hc' hd' fun b o nb hb => by rw [upd_ne nb, upd_ne nb]; exact hb, ha', hr', by omega, x0, x1⟩
end
end Kt
namespace Kt
open PySem PySem.Spec PyProof.Rows L2
theorem pigeon : ∀ (l zs : List Str), l.Nodup → (∀ x ∈ l, x ∈ zs) → l.length ≤ zs.length
  | [], zs, _, _ => Nat.zero_le _
  | x :: l, zs, nd, h => by
    obtain ⟨h1, h2⟩ := List.nodup_cons.mp nd
    have hx := h x List.mem_cons_self
    have := pigeon l (zs.erase x) h2 fun y hy => (List.mem_erase_of_ne (fun (e : y = x) => h1 (by rw [← e]; exact hy))).mpr (h y (List.mem_cons_of_mem _ hy))
    rw [List.length_erase_of_mem hx] at this
    have h0 : 0 < zs.length := List.length_pos_of_mem hx
    rw [List.length_cons]
    omega
theorem cut_lo {z : Str} (k : Nat) : (cutS z (some (k : Int)) none).cps.toList = z.cps.toList.drop k := by
  show (z.cps.toList.drop (HT.sIx z.length 0 (some (k : Int)))).take (HT.sIx z.length z.length none - HT.sIx z.length 0 (some (k : Int))) = _
  rw [HT.sIx_none, HT.sIx_nat]
  by_cases h : k ≤ z.length
  · rw [Nat.min_eq_left h, len_list, ← List.length_drop, List.take_length]
  · rw [Nat.min_eq_right (by omega), len_list, List.drop_length, List.drop_eq_nil_of_le (by rw [← len_list]; omega)]
    simp
theorem cut_hi {z : Str} (k : Nat) : (cutS z none (some (k : Int))).cps.toList = z.cps.toList.take k := by
  show (z.cps.toList.drop (HT.sIx z.length 0 none)).take (HT.sIx z.length z.length (some (k : Int)) - HT.sIx z.length 0 none) = _
  rw [HT.sIx_none, HT.sIx_nat, Nat.sub_zero, List.drop_zero, List.take_eq_take_iff, len_list]
  omega
/-- a word on its way: one to nine small letters -/
def Wd (z : Str) : Prop := 1 ≤ z.length ∧ z.length ≤ 9 ∧ z.cps.toList.all lowc = true
theorem Wd.of {z : Str} (h : isW z 8 = true) : Wd z := by
  obtain ⟨h1, h2, h3⟩ := isW_out h
  exact ⟨h1, by omega, h3⟩
theorem ls_get {k : Int} (h0 : 0 ≤ k) (h1 : k < 26) : ∃ j : Nat, k = (j : Int) ∧ ∃ hj : j < LS.cps.toList.length, LS.cps.toList[j]? = some LS.cps.toList[j] ∧ lowc LS.cps.toList[j] = true := by
  obtain ⟨j, rfl⟩ : ∃ j : Nat, k = (j : Int) := ⟨k.toNat, by omega⟩
  have hj : j < LS.cps.toList.length := by
    rw [LS_list]
    show j < 26
    omega
  exact ⟨j, rfl, hj, List.getElem?_eq_getElem hj, decide_eq_true (List.getElem_mem hj)⟩
theorem sg_list (c : Nat) : (⟨#[c]⟩ : Str).cps.toList = [c] := rfl
theorem ls_at {j : Nat} (h : j < 26) : LS.cps.toList[j]? = some (97 + j) := by
  have all : ∀ j : Fin 26, LS.cps.toList[j.val]? = some (97 + j.val) := by decide +kernel
  exact all ⟨j, h⟩
theorem low_at {j : Nat} (h : j < 26) : lowc (97 + j) = true := decide_eq_true (List.mem_of_getElem? (ls_at h))
theorem inV_strs {z : Str} : ∀ {zs : List Str}, inV (.str z) (zs.map V.str) = true ↔ z ∈ zs
  | [] => ⟨fun h => (by cases h), fun h => (List.not_mem_nil h).elim⟩
  | y :: r => by
    show (eqV (.str y) (.str z) || inV (.str z) (r.map V.str)) = true ↔ _
    rw [Bool.or_eq_true, inV_strs, List.mem_cons]
    constructor
    · rintro (h | h)
      · exact .inl (beq_iff_eq.mp (show (y == z) = true from h)).symm
      · exact .inr h
    · rintro (h | h)
      · subst h
        exact .inl (show (z == z) = true from beq_self_eq_true z)
      · exact .inr h
theorem flat_strs (zs : List Str) : (zs.map V.str).all flatV = true := List.all_eq_true.mpr fun x hx => by
  obtain ⟨z, _, rfl⟩ := List.mem_map.mp hx
  rfl
/-- the word of that number where words are laid anew -/
def wN (wd : Str) (i : Nat) : Str := cutS wd none (some ((6 : Nat) : Int)) ++ (⟨#[97 + i / 26]⟩ : Str) ++ (⟨#[97 + i % 26]⟩ : Str)
theorem wN_list {wd : Str} {i : Nat} : (wN wd i).cps.toList = wd.cps.toList.take 6 ++ [97 + i / 26] ++ [97 + i % 26] := by
  unfold wN
  rw [app_list, app_list, cut_hi, sg_list, sg_list]
theorem wN_ok {wd : Str} (h : Wd wd) {i : Nat} (hi : i < 26) : isW (wN wd i) 8 = true := by
  obtain ⟨h1, h2, h3⟩ := h
  refine isW_of ?_ ?_ ?_
  · rw [len_list, wN_list]
    simp
  · rw [len_list, wN_list]
    simp only [List.length_append, List.length_take, List.length_cons, List.length_nil]
    omega
  · rw [wN_list, List.all_append, List.all_append]
    have t1 : (wd.cps.toList.take 6).all lowc = true := List.all_eq_true.mpr fun x hx => List.all_eq_true.mp h3 x (List.mem_of_mem_take hx)
    have a1 : lowc (97 + i / 26) = true := low_at (by omega)
    have a2 : lowc (97 + i % 26) = true := low_at (by omega)
    rw [t1]
    show (true && (lowc _ && true) && (lowc _ && true)) = true
    rw [a1, a2]
    rfl
theorem wN_inj {wd : Str} {i j : Nat} (hi : i < 26) (hj : j < 26) (h : wN wd i = wN wd j) : i = j := by
  have h := congrArg (fun z : Str => z.cps.toList) h
  simp only [wN_list] at h
  have h2 := List.append_inj_right' h rfl
  have : 97 + i % 26 = 97 + j % 26 := by simpa using h2
  omega
theorem wN_nodup {wd : Str} {n : Nat} (h : n ≤ 26) : ((List.range n).map (wN wd)).Nodup := by
  unfold List.Nodup
  rw [List.pairwise_map]
  refine List.Pairwise.imp_of_mem (fun {a b} ha hb ne => ?_) List.nodup_range
  exact fun e => ne (wN_inj (by have := List.mem_range.mp ha; omega) (by have := List.mem_range.mp hb; omega) e)
def sp_nameA (K : PySem.W.Frag) : Sp := fun vs H Q _ => ∃ (d c m : Addr) (zs : List Str), vs = [.ref d, .ref m] ∧ DrA K d c H ∧ Far K c m ∧ H m = some (.lst (zs.map V.str)) ∧ zs.length ≤ 20 ∧ (∀ z ∈ zs, isW z 8 = true) ∧
  ∀ z H', isW z 8 = true → (∀ a o, a ≠ d → a ≠ m → H a = some o → H' a = some o) → DrA K d c H' → H' m = some (.lst ((zs ++ [z]).map V.str)) → Q (.str z) H'
def ownW : List Str := ["put", "like", "unlike", "alike", "same", "told", "back", "then", "parts", "web", "term", "log", "rule", "least", "when", "apart", "none", "yes", "no", "match", "by", "with", "hole", "class", "head", "f"]
section
variable {P : Program} {w : World} {K : PySem.W.Frag} {mg : Str → Option Value} {base : Heap}
theorem c__law_name (T : Tx K mg) : Cl P w K mg base CX0 2 "_law_name" ["_law_state", "_law_met"] (sp_nameA K) := by
  refine Cl.mk0 T.d__law_name sc__law_name (fun vs H Q E h => ?_) (fun f cdv A outer s H vs Q E hr h => ?_)
  · obtain ⟨d, c, m, zs, rfl, _⟩ := h
    rfl
  obtain ⟨d, c, m, zs, rfl, hD, far, hm, few, ok, q⟩ := h
  have md : m ≠ d := by
    obtain ⟨ns, a, r, t, mm, h1, _⟩ := hD
    exact ne_of hm h1 fun e => nomatch e
  refine ⟨_, (pss_cons (ps_set (i := 2) sc__law_name.nd rfl (Or.inr rfl) pe_str)
    (pss_cons (ps_set (i := 3) sc__law_name.nd rfl (Or.inl rfl) (pe_lst (pa_cons pe_str (pa_cons pe_str (pa_cons pe_str (pa_cons pe_str (pa_cons pe_str (pa_cons pe_str (pa_cons pe_str (pa_cons pe_str (pa_cons pe_str (pa_cons pe_str (pa_cons pe_str (pa_cons pe_str (pa_cons pe_str pa_nil)))))))))))))))
    (pss_cons (ps_set (i := 3) sc__law_name.nd rfl (Or.inl rfl) (pe_op op_cat (pv 3) (pe_lst (pa_cons pe_str (pa_cons pe_str (pa_cons pe_str (pa_cons pe_str (pa_cons pe_str (pa_cons pe_str (pa_cons pe_str (pa_cons pe_str (pa_cons pe_str (pa_cons pe_str (pa_cons pe_str (pa_cons pe_str (pa_cons pe_str pa_nil))))))))))))))))
    (pss_cons (ps_set (i := 4) sc__law_name.nd rfl (Or.inl rfl) (pe_cl (c__law_take T) hr (by omega) rfl (pa_cons (pv 0) (pa_cons pe_int pa_nil))))
    (pss_cons (ps_set (i := 5) sc__law_name.nd rfl (Or.inr rfl) (pe_ix ix_str (pv 2) (pe_cl (c__law_take T) hr (by omega) rfl (pa_cons (pv 0) (pa_cons pe_int pa_nil))) (fun _ _ => rfl)))
    (Evl.pss_cut (ps_if (pt_cmpR op_eq (pv 4) pe_int (nomark _))
      (pss_one (ps_set (i := 5) sc__law_name.nd rfl (Or.inr rfl) (pe_ix ix_list (pv 3) (pe_cl (c__law_take T) hr (by omega) rfl (pa_cons (pv 0) (pa_cons (pe_callB call_len (by rfl) T.z_len (by decide +kernel) (pa_cons (pv 3) pa_nil)) pa_nil))) (fun _ _ => rfl))))
      (pss_one (ps_if (PW.pt (pw_and (pt_cmpR op_eq (pv 4) pe_int (nomark _)) (pw_and1 (pt_cmpR (op_neD hr.units) (pv 1) (pe_lst pa_nil) (nomark _)))))
        (pss_cons (ps_set (i := 5) sc__law_name.nd rfl (Or.inr rfl) (pe_ix ix_list (pv 1) (pe_cl (c__law_take T) hr (by omega) rfl (pa_cons (pv 0) (pa_cons (pe_callB call_len (by rfl) T.z_len (by decide +kernel) (pa_cons (pv 1) pa_nil)) pa_nil))) (fun _ _ => rfl)))
        (pss_cons (ps_set (i := 6) sc__law_name.nd rfl (Or.inl rfl) (pe_cl (c__law_take T) hr (by omega) rfl (pa_cons (pv 0) (pa_cons (pe_callB call_len (by rfl) T.z_len (by decide +kernel) (pa_cons (pv 5) pa_nil)) pa_nil))))
        (pss_one (ps_set (i := 5) sc__law_name.nd rfl (Or.inr rfl) (pe_op op_add_str (pe_op op_add_str (pe_slice sl_str (pv 5) po_no (po_some (pv 6))) (pe_ix ix_str (pv 2) (pe_cl (c__law_take T) hr (by omega) rfl (pa_cons (pv 0) (pa_cons pe_int pa_nil))) (fun _ _ => rfl))) (pe_slice sl_str (pv 5) (po_some (pe_op op_add (pv 6) (pe_cl (c__law_take T) hr (by omega) rfl (pa_cons (pv 0) (pa_cons pe_int pa_nil))))) po_no))))))
        (pss_one (ps_for PassesOwn.never rfl (pi_range1 (by rfl) T.z_range (pa_cons (pe_cl (c__law_take T) hr (by omega) rfl (pa_cons (pv 0) (pa_cons pe_int pa_nil))) pa_nil)) (pg_name (i := 7) sc__law_name.nd rfl (Or.inl rfl))
          (pss_one (ps_set (i := 5) sc__law_name.nd rfl (Or.inr rfl) (pe_op op_add_str (pv 5) (pe_ix ix_str (pv 2) (pe_cl (c__law_take T) hr (by omega) rfl (pa_cons (pv 0) (pa_cons pe_int pa_nil))) (fun _ _ => rfl))))))))))
    (Evl.pss_cut (ps_if (PW.pt (pw_or (pt_cmpR op_in_seq (pv 5) (pv 1) rfl) (pw_or1 (pt_cmpR op_gt (pe_callB call_len (by rfl) T.z_len (by decide +kernel) (pa_cons (pv 5) pa_nil)) pe_int (nomark _)))))
      (pss_cons (ps_setLc (i := 8) (own := [("_law_k", 7)]) (g := gName 7) (tt := tYes) rfl sc__law_name.nd rfl rfl (sw_true rfl rfl rfl (by decide +kernel)) (pi_range1 (by rfl) T.z_range (pa_cons (pe_op op_add (pe_callB call_len (by rfl) T.z_len (by decide +kernel) (pa_cons (pv 1) pa_nil)) pe_int) pa_nil)) (blkOk_by (own := [("_law_k", 7)]) (N := ["_law_state", "_law_met", "_law_letters", "_law_own", "_law_way", "_law_word", "_law_at", "_law_k", "_law_some", "_law_one"]) (sc := defScope s__law_name) (by decide +kernel)) (fun _ _ _ _ _ => (pg_name (i := 7) sc__law_name.nd rfl (Or.inl rfl))) (fun _ _ _ _ _ => pts_nil) (fun _ _ _ _ _ => (pe_op op_add_str (pe_op op_add_str (pe_slice sl_str (pv 5) po_no (po_some pe_int)) (pe_ix ix_str (pv 2) (pe_op op_fdivN (pv 7) pe_int) (fun _ _ => rfl))) (pe_ix ix_str (pv 2) (pe_op op_modN (pv 7) pe_int) (fun _ _ => rfl)))))
      (pss_one (ps_set (i := 5) sc__law_name.nd rfl (Or.inr rfl) (pe_ix ix_list (pe_lc (own := [("_law_one", 9)]) (g := gName 9) rfl sc__law_name.nd (pi_list (pv 8)) (blkOk_by (own := [("_law_one", 9)]) (N := ["_law_state", "_law_met", "_law_letters", "_law_own", "_law_way", "_law_word", "_law_at", "_law_k", "_law_some", "_law_one"]) (sc := defScope s__law_name) (by decide +kernel)) (fun _ _ _ _ _ => (pg_name (i := 9) sc__law_name.nd rfl (Or.inl rfl))) (fun _ _ _ _ _ => (pts_one (pt_cmpR (r := rIn K true) op_notIn_seq (pv 9) (pv 1) rfl))) (fun _ _ _ _ _ => (pv 9))) pe_int (fun _ _ => rfl)))))
      pss_nil)
    (pss_cons (ps_expr (pe_bm PySem.F.plainAttrs_list PySem.F.slot_list_append PySem.F.type_list_append mt_append (pv 1) (pa_cons (pv 5) pa_nil)))
    (pss_one (ps_ret (pv 5))))))))))), ?_⟩
  refine ⟨by show 13 ≤ sizeLine; decide, fun p1 hp1 => ⟨_, rfl, by show 13 ≤ sizeLine; decide, fun p2 hp2 => ?_⟩⟩
  have s1 := (same_new (o := .lst [.str "put", .str "like", .str "unlike", .str "alike", .str "same", .str "told", .str "back", .str "then", .str "parts", .str "web", .str "term", .str "log", .str "rule"]) hp1).trans (same_new (o := .lst [.str "least", .str "when", .str "apart", .str "none", .str "yes", .str "no", .str "match", .str "by", .str "with", .str "hole", .str "class", .str "head", .str "f"]) hp2)
  refine ⟨p1, p2, _, _, rfl, rfl, same_new hp2 _ _ _ upd_same, upd_same, by show 26 ≤ sizeLine; decide, fun p hp => ?_⟩
  have s2 := s1.trans (same_new (o := .lst (ownW.map V.str)) hp)
  refine ⟨_, rfl, d, c, 5, rfl, by decide, by decide, hD.same s2, fun way H1 w0 w1 u1 => ?_⟩
  refine ⟨_, rfl, _, rfl, d, c, 26, rfl, by decide, by decide, u1.dr, fun k H2 k0 k1 u2 => ?_⟩
  obtain ⟨j, rfl, hj, hg, hl⟩ := ls_get k0 k1
  refine ⟨LS, _, _, rfl, rfl, by decide +kernel, atI_nat hg, ?_⟩
  have u12 := u1.trans u2
  have uH : DUA K d c H H2 := ⟨fun a o n h => u12.old a o n (s2 _ _ h), u12.dr⟩
  have hp' : H2 p = some (.lst (ownW.map V.str)) := u12.old p _ ((hD.same s1).ne hp) upd_same
  have hm2 : H2 m = some (.lst (zs.map V.str)) := uH.old m _ md hm
  clear u1 u2 u12 s1 s2
  have okz : ∀ z ∈ zs, okS z := fun z hz => okS_low (isW_out (ok z hz)).2.2
  have lw0 : Wd ⟨#[LS.cps.toList[j]]⟩ := ⟨by show 1 ≤ 1; decide, by show 1 ≤ 9; decide, by rw [sg_list]; show (lowc _ && true) = true; rw [hl]; rfl⟩
  have sl9 : ∀ n : Nat, n ≤ 100 → n ≤ sizeLine := fun n hn => Nat.le_trans hn (by decide)
  refine ⟨fun σ' H' => ∃ wd x6 x7, σ' = [some (.ref d), some (.ref m), some (.str LS), some (.ref p), some (.int way), some (.str wd), x6, x7, none, none] ∧ Wd wd ∧ DUA K d c H H', ?_, fun σ1 H3 e1 => ?_⟩
  · refine ⟨_, rfl, rfl, _, rfl, ite2 (fun c1 => ?_) (fun c1 => ?_)⟩
    · refine ⟨_, rfl, _, rfl, _, rfl, _, _, rfl, .inl ⟨_, SqL.of hp', rfl⟩, d, c, _, rfl, by show (0 : Int) < 26; decide, by show (26 : Int) < 1000000; decide, uH.dr, fun r H4 r0 r1 u3 => ?_⟩
      obtain ⟨i, rfl⟩ : ∃ i : Nat, r = (i : Int) := ⟨r.toNat, by omega⟩
      have hi : i < (ownW.map V.str).length := by omega
      have hp4 : H4 p = some (.lst (ownW.map V.str)) := u3.lst uH.dr hp'
      have hi2 : i < ownW.length := by rw [List.length_map] at hi; exact hi
      have hg2 : (ownW.map V.str)[i]? = some (.str ownW[i]) := by
        rw [List.getElem?_map, List.getElem?_eq_getElem hi2]
        rfl
      have all : ∀ z ∈ ownW, isW z 8 = true := by decide +kernel
      exact ⟨p, _, _, _, rfl, rfl, SqL.of hp4, atI_nat hg2, _, none, none, rfl, Wd.of (all _ (List.getElem_mem hi2)), uH.trans u3⟩
    · refine ⟨_, rfl, rfl, _, rfl, ite2 (fun c2 => ?_) (fun c2 => ?_)⟩
      · refine ⟨_, rfl, Nat.zero_le _, fun p3 hp3 => ⟨_, _, .lst (sql_same (SqL.of hm2) (same_new hp3 _)) (dpStrs zs), .lst (SqL.of upd_same) .nil, shapedStrs zs okz, shapedInts [], _, rfl, ?_⟩⟩
        have s3 := same_new (o := .lst []) hp3
        rw [eqvNil]
        have uX := uH.then s3
        refine ite2 (fun c3 => ?X) (fun c3 => ?B)
        case X =>
          have ne : zs ≠ [] := fun e => by
            subst e
            cases c3
          have hm4 := uX.old m _ md hm
          have hz : 0 < zs.length := List.length_pos_iff.mpr ne
          refine ⟨_, rfl, _, rfl, _, rfl, _, _, rfl, .inl ⟨_, SqL.of hm4, rfl⟩, d, c, _, rfl, by rw [List.length_map]; omega, by rw [List.length_map]; omega, uX.dr, fun r H4 r0 r1 u4 => ?_⟩
          obtain ⟨i, rfl⟩ : ∃ i : Nat, r = (i : Int) := ⟨r.toNat, by omega⟩
          have hi : i < zs.length := by rw [List.length_map] at r1; omega
          have hg2 : (zs.map V.str)[i]? = some (.str zs[i]) := by
            rw [List.getElem?_map, List.getElem?_eq_getElem hi]
            rfl
          obtain ⟨z1, z2, z3⟩ := Wd.of (ok _ (List.getElem_mem hi))
          obtain ⟨_, z8, _⟩ := isW_out (ok _ (List.getElem_mem hi))
          have z8 : zs[i].length ≤ 8 := by omega
          generalize zs[i] = wd at hg2 z1 z2 z3 z8
          have hb : wd.length ≤ sizeLine := sl9 _ (by omega)
          refine ⟨m, _, _, _, rfl, rfl, SqL.of (u4.lst uX.dr hm4), atI_nat hg2, ?_⟩
          have u5 := uX.trans u4
          refine ⟨_, rfl, _, rfl, _, _, rfl, ⟨hb, rfl⟩, d, c, _, rfl, by omega, by omega, u5.dr, fun at' H5 a0 a1 u6 => ?_⟩
          have u7 := u5.trans u6
          obtain ⟨at2, rfl⟩ : ∃ i : Nat, at' = (i : Int) := ⟨at'.toNat, by omega⟩
          refine ⟨_, rfl, _, rfl, _, rfl, _, rfl, hb, _, rfl, _, rfl, d, c, 26, rfl, by decide, by decide, u7.dr, fun k H6 k0 k1 u8 => ?_⟩
          obtain ⟨j2, rfl, hj2, hg3, hl3⟩ := ls_get k0 k1
          have c1 := cutS_len wd none (some (at2 : Int))
          refine ⟨LS, _, _, rfl, rfl, by decide +kernel, atI_nat hg3, _, _, rfl, rfl, sl9 _ (by show _ + 1 ≤ 100; omega), _, rfl, _, rfl, _, rfl, d, c, 2, rfl, by decide, by decide, (u7.trans u8).dr, fun bb H7 b0 b1 u9 => ?_⟩
          obtain ⟨b2, rfl⟩ : ∃ i : Nat, bb = (i : Int) := ⟨bb.toNat, by omega⟩
          have el : (cutS wd none (some (at2 : Int)) ++ (⟨#[LS.cps.toList[j2]]⟩ : Str)).length = min at2 wd.length + 1 := by
            rw [app_len, len_list, cut_hi, List.length_take, ← len_list]
            rfl
          have e2 : (cutS wd (some ((at2 : Int) + (b2 : Int))) none).cps.toList = wd.cps.toList.drop (at2 + b2) := by
            rw [show (at2 : Int) + (b2 : Int) = ((at2 + b2 : Nat) : Int) by omega]
            exact cut_lo _
          have e3 : (cutS wd (some ((at2 : Int) + (b2 : Int))) none).length = wd.length - (at2 + b2) := by rw [len_list, e2, List.length_drop, ← len_list]
          refine ⟨_, _, rfl, rfl, _, rfl, _, rfl, hb, _, _, rfl, rfl, sl9 _ (by omega), _, _, none, rfl, ⟨?_, ?_, ?_⟩, (u7.trans u8).trans u9⟩
          · rw [app_len]
            omega
          · rw [app_len]
            omega
          · rw [app_list, app_list, List.all_append, List.all_append, e2, cut_hi, sg_list]
            have t1 : (wd.cps.toList.take at2).all lowc = true := List.all_eq_true.mpr fun x hx => List.all_eq_true.mp z3 x (List.mem_of_mem_take hx)
            have t2 : (wd.cps.toList.drop (at2 + b2)).all lowc = true := List.all_eq_true.mpr fun x hx => List.all_eq_true.mp z3 x (List.mem_of_mem_drop hx)
            rw [t1, t2]
            show (true && (lowc _ && true) && true) = true
            rw [hl3]
            rfl
        case B =>
          refine ⟨_, rfl, d, c, 8, rfl, by decide, by decide, uX.dr, fun n Hn n0 n1 un => ⟨_, rfl, by omega, by omega, ?_⟩⟩
          refine for_range (lo := 0) (n := n.toNat) (fun i σ H' => ∃ wd x7, σ = [some (.ref d), some (.ref m), some (.str LS), some (.ref p), some (.int way), some (.str wd), none, x7, none, none] ∧ wd.length = i + 1 ∧ wd.cps.toList.all lowc = true ∧ DUA K d c H H') ⟨_, none, rfl, rfl, lw0.2.2, uX.trans un⟩ (fun i σ H' hi h' => ?_) (fun σ H' h' => ?_)
          · obtain ⟨wd, x7, rfl, hz, hlo, u⟩ := h'
            refine ⟨_, rfl, _, rfl, _, rfl, d, c, 26, rfl, by decide, by decide, u.dr, fun k H4 k0 k1 u4 => ?_⟩
            obtain ⟨j2, rfl, hj2, hg3, hl3⟩ := ls_get k0 k1
            refine ⟨LS, _, _, rfl, rfl, by decide +kernel, atI_nat hg3, _, _, rfl, rfl, sl9 _ (by show _ + 1 ≤ 100; omega), _, some (.int (0 + (i : Int))), rfl, ?_, ?_, u.trans u4⟩
            · rw [app_len, hz]
              rfl
            · rw [app_list, List.all_append, hlo, Bool.true_and, sg_list]
              show (lowc _ && true) = true
              rw [hl3]
              rfl
          · obtain ⟨wd, x7, rfl, hz, hlo, u⟩ := h'
            exact ⟨wd, _, _, rfl, ⟨by omega, by omega, hlo⟩, u⟩
      · have uX := uH
        refine ⟨_, rfl, d, c, 8, rfl, by decide, by decide, uX.dr, fun n Hn n0 n1 un => ⟨_, rfl, by omega, by omega, ?_⟩⟩
        refine for_range (lo := 0) (n := n.toNat) (fun i σ H' => ∃ wd x7, σ = [some (.ref d), some (.ref m), some (.str LS), some (.ref p), some (.int way), some (.str wd), none, x7, none, none] ∧ wd.length = i + 1 ∧ wd.cps.toList.all lowc = true ∧ DUA K d c H H') ⟨_, none, rfl, rfl, lw0.2.2, uX.trans un⟩ (fun i σ H' hi h' => ?_) (fun σ H' h' => ?_)
        · obtain ⟨wd, x7, rfl, hz, hlo, u⟩ := h'
          refine ⟨_, rfl, _, rfl, _, rfl, d, c, 26, rfl, by decide, by decide, u.dr, fun k H4 k0 k1 u4 => ?_⟩
          obtain ⟨j2, rfl, hj2, hg3, hl3⟩ := ls_get k0 k1
          refine ⟨LS, _, _, rfl, rfl, by decide +kernel, atI_nat hg3, _, _, rfl, rfl, sl9 _ (by show _ + 1 ≤ 100; omega), _, some (.int (0 + (i : Int))), rfl, ?_, ?_, u.trans u4⟩
          · rw [app_len, hz]
            rfl
          · rw [app_list, List.all_append, hlo, Bool.true_and, sg_list]
            show (lowc _ && true) = true
            rw [hl3]
            rfl
        · obtain ⟨wd, x7, rfl, hz, hlo, u⟩ := h'
          exact ⟨wd, _, _, rfl, ⟨by omega, by omega, hlo⟩, u⟩
  obtain ⟨wd, x6, x7, rfl, hwd, u⟩ := e1
  have hm3 : H3 m = some (.lst (zs.map V.str)) := u.old m _ md hm
  have hbw : wd.length ≤ sizeLine := sl9 _ (by have := hwd.2.1; omega)
  refine ⟨fun σ' H' => ∃ z x6 x7 x8 x9, σ' = [some (.ref d), some (.ref m), some (.str LS), some (.ref p), some (.int way), some (.str z), x6, x7, x8, x9] ∧ isW z 8 = true ∧ DUA K d c H H', ?_, fun σ2 H4 e2 => ?_⟩
  · have again : (fun σ' H' => ∃ z x6 x7 x8 x9, σ' = [some (.ref d), some (.ref m), some (.str LS), some (.ref p), some (.int way), some (.str z), x6, x7, x8, x9] ∧ isW z 8 = true ∧ DUA K d c H H') = (fun (σ' : L2.St) (H' : Hp) => ∃ z x6 x7 x8 x9, σ' = [some (.ref d), some (.ref m), some (.str LS), some (.ref p), some (.int way), some (.str z), x6, x7, x8, x9] ∧ isW z 8 = true ∧ DUA K d c H H') := rfl
    refine ⟨_, rfl, _, rfl, m, _, rfl, .inl (SqL.of hm3), rfl, flat_strs zs, _, rfl, ite2 (fun c1 => ?L) (fun c1 => ⟨_, rfl, _, _, rfl, ⟨hbw, rfl⟩, _, _, rfl, rfl, _, rfl, ite2 (fun c2 => ?L2) (fun c2 => ?N)⟩)⟩
    case N =>
      have c2 : ¬ (8 : Int) < (wd.length : Nat) := fun h => c2 (decide_eq_true h)
      exact ⟨wd, x6, x7, none, none, rfl, isW_of hwd.1 (by omega) hwd.2.2, u⟩
    all_goals
      refine ⟨_, rfl, _, _, rfl, .inl ⟨_, SqL.of hm3, rfl⟩, _, _, rfl, rfl, _, rfl, by rw [List.length_map]; omega, by rw [List.length_map]; omega, fun D hD => ?_⟩
      have hn : ((zs.map V.str).length + 1 : Int).toNat = zs.length + 1 := by rw [List.length_map]; omega
      rw [hn]
      refine lc_pure (walk_range (lo := 0)) (fun i => .str (wN wd i)) hD (by omega) (fun _ _ => trivial) (fun x => rfl) (fun i x H5 H6 hi s1 y => ?_) (fun H5 s5 e5 => ?_)
      · obtain ⟨rfl, rfl⟩ := y
        have hi2 : i < 26 := by omega
        have f1 : (0 + (i : Int)).fdiv 26 = ((i / 26 : Nat) : Int) := by
          rw [Int.zero_add, Int.fdiv_eq_ediv_of_nonneg _ (by decide)]
          omega
        have f2 : (0 + (i : Int)).fmod 26 = ((i % 26 : Nat) : Int) := by
          rw [Int.zero_add, Int.fmod_eq_emod_of_nonneg _ (by decide)]
          omega
        have c1 := cutS_len wd none (some 6)
        have l1 : (cutS wd none (some 6) ++ (⟨#[97 + i / 26]⟩ : Str)).length = (cutS wd none (some 6)).length + 1 := app_len _ _
        have w9 := hwd.2.1
        refine ⟨Same.refl _, fun Q' q' => ?_⟩
        refine ⟨_, rfl, _, rfl, _, rfl, hbw, _, rfl, _, rfl, _, _, rfl, rfl, ⟨by decide, by decide⟩, LS, _, 97 + i / 26, rfl, rfl, by decide +kernel, ?_, _, _, rfl, rfl, sl9 _ (by show _ + 1 ≤ 100; omega), _, rfl, _, rfl, _, _, rfl, rfl, (show (26 : Int) ≠ 0 by decide), LS, _, 97 + i % 26, rfl, rfl, by decide +kernel, ?_, _, _, rfl, rfl, sl9 _ (by show _ + 1 ≤ 100; omega), q' _ (Same.refl _)⟩
        · rw [f1]
          exact atI_nat (ls_at (by omega))
        · rw [f2]
          exact atI_nat (ls_at (by omega))
      · obtain ⟨fs, hfs⟩ : ∃ fs, fs = (List.range (zs.length + 1)).map (wN wd) := ⟨_, rfl⟩
        have e5' : H5 D = some (.lst (fs.map V.str)) := by
          rw [e5, hfs, List.map_map]
          rfl
        have fl : fs.length = zs.length + 1 := by rw [hfs, List.length_map, List.length_range]
        have hm5 := s5 _ _ hm3
        refine ⟨_, rfl, D, rfl, ⟨_, SqL.of e5'⟩, fun D2 hD2 => ?_⟩
        refine lc_it (walk_list (xs := fs.map V.str)) (fun i H' => Same H5 H' ∧ H' D2 = some (.lst (((fs.take i).filter (fun z => decide (z ∉ zs))).map V.str))) ⟨same_new hD2 _, upd_same⟩ (fun i H' _ p' => SqL.of (p'.1 _ _ e5')) (fun i x H6 H7 hi p' y => ?_) (fun H6 p' => ?_)
        · obtain ⟨rfl, hx⟩ := y
          obtain ⟨s6, h6⟩ := p'
          rw [List.getElem?_map] at hx
          obtain ⟨z, hz, rfl⟩ := Option.map_eq_some_iff.mp hx
          have tk : fs.take (i + 1) = fs.take i ++ [z] := by
            rw [List.take_add_one, hz]
            rfl
          rw [tk, List.filter_append, List.map_append]
          refine ⟨rfl, _, rfl, _, rfl, m, _, rfl, .inl (SqL.of (s6 _ _ hm5)), rfl, flat_strs zs, _, rfl, ite2 (fun c => ?_) (fun c => ?_)⟩
          · have nin : z ∉ zs := fun hin => by
              have c : (!inV (.str z) (zs.map V.str)) = true := c
              rw [inV_strs.mpr hin] at c
              cases c
            have e1 : [z].filter (fun z => decide (z ∉ zs)) = [z] := by rw [List.filter_cons_of_pos (by simpa using nin)]; rfl
            rw [e1]
            refine ⟨_, rfl, _, h6, ?_, Same.mut s6 hD2, upd_same⟩
            rw [List.length_map]
            have := List.length_filter_le (fun z => decide (z ∉ zs)) (fs.take i)
            rw [List.length_take] at this
            exact small1000 (by omega)
          · have yin : z ∈ zs := inV_strs.mp (by
              have c : ¬ (!inV (.str z) (zs.map V.str)) = true := c
              cases e : inV (.str z) (zs.map V.str) with
              | true => rfl
              | false => rw [e] at c; exact absurd rfl c)
            have e1 : [z].filter (fun z => decide (z ∉ zs)) = [] := by rw [List.filter_cons_of_neg (by simpa using yin)]; rfl
            rw [e1, List.map_nil, List.append_nil]
            exact ⟨s6, h6⟩
        · obtain ⟨s6, h6⟩ := p'
          rw [List.length_map, List.take_length] at h6
          have ne : fs.filter (fun z => decide (z ∉ zs)) ≠ [] := fun e => by
            have all : ∀ x ∈ fs, x ∈ zs := fun x hx => by
              have := List.filter_eq_nil_iff.mp e x hx
              simpa using this
            have nd : fs.Nodup := by rw [hfs]; exact wN_nodup (by omega)
            have := pigeon fs zs nd all
            omega
          obtain ⟨z0, rr, e0⟩ := List.exists_cons_of_ne_nil ne
          rw [e0, List.map_cons] at h6
          have z0f : z0 ∈ fs := (List.mem_filter.mp (by rw [e0]; exact List.mem_cons_self)).1
          have z0ok : isW z0 8 = true := by
            rw [hfs] at z0f
            obtain ⟨i, hi, rfl⟩ := List.mem_map.mp z0f
            exact wN_ok hwd (by have := List.mem_range.mp hi; omega)
          exact ⟨D2, _, _, _, rfl, rfl, SqL.of h6, atI_nat (j := 0) rfl, z0, _, _, _, _, rfl, z0ok, u.then (s5.trans s6)⟩
  obtain ⟨z, x6, x7, x8, x9, rfl, hz, u⟩ := e2
  have hm4 := u.old m _ md hm
  refine ⟨_, rfl, .inl ⟨rfl, _, SqL.of hm4⟩, _, rfl, m, _, _, rfl, rfl, hm4, by rw [List.length_map]; exact Nat.lt_of_le_of_lt few (by decide), _, rfl, ?_⟩
  exact q z _ hz (fun a o n1 n2 h => by rw [upd_ne n2]; exact u.old a o n1 h) (u.dr.mut md far) (by rw [upd_same, List.map_append]; rfl)
end
end Kt
namespace Kt
open PySem PySem.Spec PyProof.Rows L2
theorem isW_ok {z : Str} {m : Int} (h : isW z m = true) : okS z := okS_low (isW_out h).2.2
theorem room65 {k : Nat} {A : Around} (r : Room k A) : A.units + 65 < cLine := by
  have := r.un
  omega
/-! ### heads: pairs of a name and a number of parts -/
structure HdsAt (H : Hp) (rs : List V) (hs : List (Str × Nat)) : Prop where
  len : rs.length = hs.length
  get : ∀ (i : Nat) (v : V), rs[i]? = some v → ∃ (a : Addr) (h : Str × Nat), v = .ref a ∧ hs[i]? = some h ∧ H a = some (.tup [.str h.1, .int (h.2 : Nat)])
theorem HdsAt.nil {H : Hp} : HdsAt H [] [] := ⟨rfl, fun i v h => by cases h⟩
theorem HdsAt.wk {H H' : Hp} {rs : List V} {hs : List (Str × Nat)} (h : HdsAt H rs hs) (w : ∀ a xs, H a = some (.tup xs) → H' a = some (.tup xs)) : HdsAt H' rs hs :=
  ⟨h.len, fun i v e => let ⟨a, x, e1, e2, e3⟩ := h.get i v e; ⟨a, x, e1, e2, w _ _ e3⟩⟩
theorem HdsAt.app {H : Hp} {rs rs' : List V} {hs hs' : List (Str × Nat)} (h : HdsAt H rs hs) (g : HdsAt H rs' hs') : HdsAt H (rs ++ rs') (hs ++ hs') := by
  refine ⟨by rw [List.length_append, List.length_append, h.len, g.len], fun i v e => ?_⟩
  by_cases c : i < rs.length
  · rw [List.getElem?_append_left c] at e
    obtain ⟨a, x, e1, e2, e3⟩ := h.get i v e
    exact ⟨a, x, e1, by rw [List.getElem?_append_left (by rw [← h.len]; exact c)]; exact e2, e3⟩
  · rw [List.getElem?_append_right (by omega)] at e
    obtain ⟨a, x, e1, e2, e3⟩ := g.get _ v e
    refine ⟨a, x, e1, ?_, e3⟩
    rw [List.getElem?_append_right (by rw [← h.len]; omega), ← h.len]
    exact e2
theorem HdsAt.one {H : Hp} {a : Addr} {z : Str} {n : Nat} (h : H a = some (.tup [.str z, .int (n : Nat)])) : HdsAt H [.ref a] [(z, n)] := by
  refine ⟨rfl, fun i v e => ?_⟩
  cases i with
  | zero =>
    cases e
    exact ⟨a, (z, n), rfl, rfl, h⟩
  | succ j => cases e
theorem HdsAt.at {H : Hp} {rs : List V} {hs : List (Str × Nat)} (h : HdsAt H rs hs) {i : Nat} (hi : i < hs.length) : ∃ a, rs[i]? = some (.ref a) ∧ H a = some (.tup [.str hs[i].1, .int (hs[i].2 : Nat)]) := by
  obtain ⟨v, hv⟩ : ∃ v, rs[i]? = some v := ⟨rs[i]'(by rw [h.len]; exact hi), List.getElem?_eq_getElem _⟩
  obtain ⟨a, x, rfl, e2, e3⟩ := h.get i v hv
  rw [List.getElem?_eq_getElem hi] at e2
  cases e2
  exact ⟨a, hv, e3⟩
def okHs (hs : List (Str × Nat)) : Prop := ∀ h ∈ hs, isW h.1 8 = true ∧ h.2 ≤ 3
def dHs (hs : List (Str × Nat)) : List PyData := hs.map fun h => PyData.tuple [.str h.1, .int (h.2 : Nat)]
theorem dpHs {K : PySem.W.Frag} {H : Hp} : ∀ {rs : List V} {hs : List (Str × Nat)}, HdsAt H rs hs → DpAll K H rs (dHs hs)
  | [], [], _ => .nil
  | [], _ :: _, h => by have := h.len; cases this
  | _ :: _, [], h => by have := h.len; cases this
  | v :: rs, x :: hs, h => by
    obtain ⟨a, y, rfl, e2, e3⟩ := h.get 0 v rfl
    cases e2
    refine .cons (.tup (SqT.of e3) (.cons (.str _) (.cons (.int _) .nil))) (dpHs ⟨Nat.succ.inj h.len, fun i w e => ?_⟩)
    obtain ⟨b, z, e1, e2, e3⟩ := h.get (i + 1) w (by simpa using e)
    exact ⟨b, z, e1, by simpa using e2, e3⟩
theorem shapedHd {z : Str} {n : Nat} (h : okS z) : SeqAt.shaped (.tuple [.str z, .int (n : Nat)]) = true := by
  unfold SeqAt.shaped
  have e : (PyData.tuple [.str z, .int (n : Nat)]).canLay0 = true := by
    show ((PyData.str z).canLay0 && ((PyData.int (n : Nat)).canLay0 && true)) = true
    have : (PyData.str z).canLay0 = true := by
      simp only [PyData.canLay0, PyData.strOk, Array.all_eq_true_iff_forall_mem, decide_eq_true_eq]
      intro x hx
      exact h x (Array.mem_toList_iff.mpr hx)
    rw [this]
    rfl
  rw [e]
  rfl
theorem shapedHds {hs : List (Str × Nat)} (h : ∀ x ∈ hs, okS x.1) : SeqAt.shaped (.list (dHs hs)) = true := by
  have all : ∀ l : List (Str × Nat), (∀ x ∈ l, okS x.1) → PyData.canLayAll0 (dHs l) = true ∧ PyData.depthAll (dHs l) ≤ 1 := by
    intro l
    induction l with
    | nil => exact fun _ => ⟨rfl, by decide⟩
    | cons x r ih =>
      intro hl
      obtain ⟨i1, i2⟩ := ih fun y hy => hl y (List.mem_cons_of_mem _ hy)
      have s := shapedHd (n := x.2) (hl x List.mem_cons_self)
      have c := SeqAt.canLay_of_shaped s
      constructor
      · show (PyData.canLay0 (.tuple [.str x.1, .int (x.2 : Nat)]) && PyData.canLayAll0 (dHs r)) = true
        rw [c, i1]
        rfl
      · show max (PyData.depth (.tuple [.str x.1, .int (x.2 : Nat)])) (PyData.depthAll (dHs r)) ≤ 1
        have : PyData.depth (.tuple [.str x.1, .int (x.2 : Nat)]) = 1 := rfl
        omega
  obtain ⟨a1, a2⟩ := all hs h
  unfold SeqAt.shaped
  have e : (PyData.list (dHs hs)).canLay0 = true := a1
  have e2 : (PyData.list (dHs hs)).depth ≤ 64 := by
    show PyData.depthAll (dHs hs) + 1 ≤ 64
    omega
  rw [e, decide_eq_true e2]
  rfl
/-- how far a row of heads is drawn: at D those so far, at m the names -/
def HS (K : PySem.W.Frag) (H0 : Hp) (d c m D : Addr) (F : Nat → Prop) (i zl : Nat) (H' : Hp) : Prop :=
  ∃ (rs : List V) (hs : List (Str × Nat)) (zs : List Str), (∀ a o, a ≠ d → a ≠ m → H0 a = some o → H' a = some o) ∧ DrA K d c H' ∧ H' m = some (.lst (zs.map V.str)) ∧ zs.length = zl ∧ (∀ z ∈ zs, isW z 8 = true) ∧ H' D = some (.lst rs) ∧ HdsAt H' rs hs ∧
    (∀ h ∈ hs, isW h.1 8 = true ∧ F h.2) ∧ hs.length = i
theorem HS.step {K : PySem.W.Frag} {H0 H1 H2 : Hp} {d c m D p : Addr} {F : Nat → Prop} {i zl n : Nat} {z : Str} {rs : List V} {hs : List (Str × Nat)} {zs : List Str} (far : Far K c D) (h0 : H0 D = none) (hd : H0 d ≠ none) (hm0 : H0 m ≠ none)
    (b1 : ∀ a o, a ≠ d → a ≠ m → H0 a = some o → H1 a = some o) (b2 : zs.length = zl) (b3 : ∀ z ∈ zs, isW z 8 = true) (b4 : H1 D = some (.lst rs)) (b5 : HdsAt H1 rs hs) (b6 : ∀ h ∈ hs, isW h.1 8 = true ∧ F h.2) (b7 : hs.length = i)
    (zok : isW z 8 = true) (old : ∀ a o, a ≠ d → a ≠ m → H1 a = some o → H2 a = some o) (dr : DrA K d c H2) (hm2 : H2 m = some (.lst ((zs ++ [z]).map V.str))) (d1 : DrA K d c H1) (hm1 : H1 m = some (.lst (zs.map V.str))) (fn : F n) (hp : H2 p = none) (few : i < 1000) :
    ∃ acc, (upd H2 p (.tup [.str z, .int (n : Nat)])) D = some (.lst acc) ∧ acc.length < sizeLine ∧ HS K H0 d c m D F (i + 1) (zl + 1) (upd (upd H2 p (.tup [.str z, .int (n : Nat)])) D (.lst (acc ++ [.ref p]))) := by
  have Dd : D ≠ d := fun e => hd (e ▸ h0)
  have Dm : D ≠ m := fun e => hm0 (e ▸ h0)
  have hD2 : H2 D = some (.lst rs) := old D _ Dd Dm b4
  have s1 := same_new (o := .tup [.str z, .int (n : Nat)]) hp
  have keepT : ∀ a xs, H1 a = some (.tup xs) → (upd (upd H2 p (.tup [.str z, .int (n : Nat)])) D (.lst (rs ++ [.ref p]))) a = some (.tup xs) := fun a xs h => by
    obtain ⟨ns, q1, q2, q3, q4, q5, _⟩ := d1
    have n1 : a ≠ d := ne_of h q5 fun e => nomatch e
    have n2 : a ≠ m := ne_of h hm1 fun e => nomatch e
    have n3 : a ≠ D := ne_of h b4 fun e => nomatch e
    rw [upd_ne n3]
    exact s1 _ _ (old a _ n1 n2 h)
  refine ⟨rs, s1 _ _ hD2, small1000 (n := rs.length) (by rw [b5.len, b7]; exact Nat.le_of_lt few), rs ++ [.ref p], hs ++ [(z, n)], zs ++ [z], fun a o n1 n2 h => ?_, ?_, ?_, by rw [List.length_append, b2]; rfl, fun y hy => ?_, upd_same, ?_, fun y hy => ?_, by rw [List.length_append, b7]; rfl⟩
  · rw [upd_ne fun e => by rw [e, h0] at h; cases h]
    exact s1 _ _ (old a o n1 n2 (b1 a o n1 n2 h))
  · exact (dr.same s1).mut Dd far
  · rw [upd_ne Dm.symm]
    exact s1 _ _ hm2
  · rcases List.mem_append.mp hy with hy | hy
    · exact b3 y hy
    · rw [List.mem_singleton.mp hy]
      exact zok
  · refine (b5.wk keepT).app (.one ?_)
    rw [upd_ne (fun e => (by rw [e, hD2] at hp; cases hp)), upd_same]
  · rcases List.mem_append.mp hy with hy | hy
    · exact b6 y hy
    · rw [List.mem_singleton.mp hy]
      exact ⟨zok, fn⟩
def sp_headsA (K : PySem.W.Frag) : Sp := fun vs H Q _ => ∃ (d c : Addr), vs = [.ref d] ∧ DrA K d c H ∧ ∀ (p : Addr) (rs : List V) (hs : List (Str × Nat)) (H' : Hp), DUA K d c H H' → H p = none → H' p = some (.lst rs) → HdsAt H' rs hs → okHs hs → hs.length ≤ 10 → (∃ z r, hs = (z, 0) :: r) → Q (.ref p) H'
theorem HS.start {K : PySem.W.Frag} {H0 : Hp} {d c m D : Addr} {F : Nat → Prop} {zs : List Str} (dr : DrA K d c H0) (hm : H0 m = some (.lst (zs.map V.str))) (ok : ∀ z ∈ zs, isW z 8 = true) (h0 : H0 D = none) : HS K H0 d c m D F 0 zs.length (upd H0 D (.lst [])) :=
  ⟨[], [], zs, fun a o _ _ h => same_new h0 _ _ _ h, dr.same (same_new h0 _), same_new h0 _ _ _ hm, rfl, ok, upd_same, .nil, fun _ h => (List.not_mem_nil h).elim, rfl⟩
theorem first_of0 {hs : List (Str × Nat)} (h : ∀ x ∈ hs, isW x.1 8 = true ∧ x.2 = 0) (n : 1 ≤ hs.length) : ∃ z r, hs = (z, 0) :: r := by
  cases hs with
  | nil => exact absurd n (by decide)
  | cons x r =>
    obtain ⟨z, k⟩ := x
    have := (h _ List.mem_cons_self).2
    subst this
    exact ⟨z, r, rfl⟩
/-- the state between the rows of heads -/
def HSt (K : PySem.W.Frag) (H : Hp) (d c m : Addr) (b : Nat) (x3 x4 x5 : Option V) (σ' : L2.St) (H' : Hp) : Prop :=
  ∃ (fo : Addr) (rs : List V) (hs : List (Str × Nat)) (zs : List Str), σ' = [some (.ref d), some (.ref m), some (.ref fo), x3, x4, x5] ∧ (∀ a o, a ≠ d → H a = some o → H' a = some o) ∧ DrA K d c H' ∧ H' m = some (.lst (zs.map V.str)) ∧ zs.length = hs.length ∧ (∀ z ∈ zs, isW z 8 = true) ∧
    H fo = none ∧ fo ≠ m ∧ Far K c fo ∧ H' fo = some (.lst rs) ∧ HdsAt H' rs hs ∧ okHs hs ∧ hs.length ≤ b ∧ ∃ z r, hs = (z, 0) :: r
section
variable {P : Program} {w : World} {K : PySem.W.Frag} {mg : Str → Option Value} {base : Heap}
theorem c__law_heads (T : Tx K mg) : Cl P w K mg base CX0 3 "_law_heads" ["_law_state"] (sp_headsA K) := by
  refine Cl.mk0 T.d__law_heads sc__law_heads (fun vs H Q E h => ?_) (fun f cdv A outer s H vs Q E hr h => ?_)
  · obtain ⟨d, c, rfl, _⟩ := h
    rfl
  obtain ⟨d, c, rfl, hD, q⟩ := h
  refine ⟨_, (pss_cons (ps_set (i := 1) sc__law_heads.nd rfl (Or.inr rfl) (pe_lst pa_nil))
    (Evl.pss_cut (ps_setLc (i := 2) (own := [("_law_k", 5)]) (g := gName 5) (tt := tYes) rfl sc__law_heads.nd rfl rfl (sw_true rfl rfl rfl (by decide +kernel)) (pi_range1 (by rfl) T.z_range (pa_cons (pe_op op_add pe_int (pe_cl (c__law_take T) hr (by omega) rfl (pa_cons (pv 0) (pa_cons pe_int pa_nil)))) pa_nil)) (blkOk_by (own := [("_law_k", 5)]) (N := ["_law_state", "_law_met", "_law_found", "_law_name_here", "_law_many", "_law_k"]) (sc := defScope s__law_heads) (by decide +kernel)) (fun _ _ _ _ _ => (pg_name (i := 5) sc__law_heads.nd rfl (Or.inl rfl))) (fun _ _ _ _ _ => pts_nil) (fun _ _ _ _ _ => (pe_tup (pa_cons (pe_cl (c__law_name T) hr (by omega) rfl (pa_cons (pv 0) (pa_cons (pv 1) pa_nil))) (pa_cons pe_int pa_nil)))))
    (Evl.pss_cut (ps_set (i := 2) sc__law_heads.nd rfl (Or.inl rfl) (pe_op op_cat (pv 2) (pe_lc (own := [("_law_k", 5)]) (g := gName 5) (tt := tYes) rfl sc__law_heads.nd (pi_range1 (by rfl) T.z_range (pa_cons (pe_op op_add pe_int (pe_cl (c__law_take T) hr (by omega) rfl (pa_cons (pv 0) (pa_cons pe_int pa_nil)))) pa_nil)) (blkOk_by (own := [("_law_k", 5)]) (N := ["_law_state", "_law_met", "_law_found", "_law_name_here", "_law_many", "_law_k"]) (sc := defScope s__law_heads) (by decide +kernel)) (fun _ _ _ _ _ => (pg_name (i := 5) sc__law_heads.nd rfl (Or.inl rfl))) (fun _ _ _ _ _ => pts_nil) (fun _ _ _ _ _ => (pe_tup (pa_cons (pe_cl (c__law_name T) hr (by omega) rfl (pa_cons (pv 0) (pa_cons (pv 1) pa_nil))) (pa_cons pe_int pa_nil)))))))
    (Evl.pss_cut (ps_set (i := 2) sc__law_heads.nd rfl (Or.inl rfl) (pe_op op_cat (pv 2) (pe_lc (own := [("_law_k", 5)]) (g := gName 5) (tt := tYes) rfl sc__law_heads.nd (pi_range1 (by rfl) T.z_range (pa_cons (pe_cl (c__law_take T) hr (by omega) rfl (pa_cons (pv 0) (pa_cons pe_int pa_nil))) pa_nil)) (blkOk_by (own := [("_law_k", 5)]) (N := ["_law_state", "_law_met", "_law_found", "_law_name_here", "_law_many", "_law_k"]) (sc := defScope s__law_heads) (by decide +kernel)) (fun _ _ _ _ _ => (pg_name (i := 5) sc__law_heads.nd rfl (Or.inl rfl))) (fun _ _ _ _ _ => pts_nil) (fun _ _ _ _ _ => (pe_tup (pa_cons (pe_cl (c__law_name T) hr (by omega) rfl (pa_cons (pv 0) (pa_cons (pv 1) pa_nil))) (pa_cons (pe_op op_add pe_int (pv 5)) pa_nil)))))))
    (pss_cons (ps_if (pt_cmpR op_eq (pe_cl (c__law_take T) hr (by omega) rfl (pa_cons (pv 0) (pa_cons pe_int pa_nil))) pe_int (nomark _))
      (pss_cons (ps_set (i := 3) sc__law_heads.nd rfl (Or.inl rfl) (pe_ix ix_list (pv 1) (pe_cl (c__law_take T) hr (by omega) rfl (pa_cons (pv 0) (pa_cons (pe_callB call_len (by rfl) T.z_len (by decide +kernel) (pa_cons (pv 1) pa_nil)) pa_nil))) (fun _ _ => rfl)))
      (pss_cons (ps_set (i := 4) sc__law_heads.nd rfl (Or.inl rfl) (pe_cl (c__law_take T) hr (by omega) rfl (pa_cons (pv 0) (pa_cons pe_int pa_nil))))
      (pss_one (ps_if (pt_cmpR (op_notInD (room65 hr)) (pe_tup (pa_cons (pv 3) (pa_cons (pv 4) pa_nil))) (pv 2) rfl)
        (pss_one (ps_expr (pe_bm PySem.F.plainAttrs_list PySem.F.slot_list_append PySem.F.type_list_append mt_append (pv 2) (pa_cons (pe_tup (pa_cons (pv 3) (pa_cons (pv 4) pa_nil))) pa_nil))))
        pss_nil))))
      pss_nil)
    (pss_one (ps_ret (pv 2)))))))), ?_⟩
  refine ⟨Nat.zero_le _, fun m hm => ?_⟩
  have sm := same_new (o := .lst []) hm
  have md : m ≠ d := hD.ne hm
  have far := hD.far hm
  have dm : ∀ {H' : Hp}, DrA K d c H' → H' d ≠ none := fun {H'} h => by
    obtain ⟨ns, q1, q2, q3, q4, q5, _⟩ := h
    rw [q5]
    exact fun e => by cases e
  refine ⟨HSt K H d c m 3 none none none, ?_, fun σ1 H1 e1 => ?_⟩
  · refine ⟨_, rfl, d, c, 3, rfl, by decide, by decide, hD.same sm, fun r H1 r0 r1 u1 => ⟨_, _, rfl, rfl, _, rfl, by omega, by omega, fun D hDn => ?_⟩⟩
    have hm1 : H1 m = some (.lst (([] : List Str).map V.str)) := u1.old m _ md upd_same
    refine lc_it (walk_range (lo := 0)) (fun i H' => HS K H1 d c m D (fun n => n = 0) i i H') (HS.start (zs := []) u1.dr hm1 (fun _ h => (List.not_mem_nil h).elim) hDn) (fun _ _ _ _ => trivial) (fun i x H' H'' hi p' y => ?_) (fun H' p' => ?_)
    · obtain ⟨rfl, rfl⟩ := y
      obtain ⟨rs, hs, zs, b1, dr, hm', b2, b3, b4, b5, b6, b7⟩ := p'
      refine ⟨rfl, yesI ⟨_, rfl, _, rfl, d, c, m, zs, rfl, dr, far, hm', by omega, b3, fun z H2 zok old dr2 hm2 => ⟨by show 2 ≤ sizeLine; decide, fun p hp => ?_⟩⟩⟩
      exact HS.step (n := 0) (u1.dr.far hDn) hDn (dm u1.dr) (by rw [hm1]; exact fun e => by cases e) b1 b2 b3 b4 b5 b6 b7 zok old dr2 hm2 dr hm' rfl hp (by omega)
    · obtain ⟨rs, hs, zs, b1, dr, hm', b2, b3, b4, b5, b6, b7⟩ := p'
      have Dd : D ≠ d := u1.dr.ne hDn
      refine ⟨D, rs, hs, zs, rfl, fun a o n h => b1 a o n (fun e => by rw [e, hm] at h; cases h) (u1.old a o n (sm a o h)), dr, hm', by omega, b3, ?_, ?_, u1.dr.far hDn, b4, b5, fun x hx => ⟨(b6 x hx).1, by have := (b6 x hx).2; omega⟩, by omega, first_of0 b6 (by omega)⟩
      · cases e : H D with
        | none => rfl
        | some o =>
          rw [u1.old D o Dd (sm D o e)] at hDn
          cases hDn
      · exact fun e => by rw [e, hm1] at hDn; cases hDn
  refine ⟨HSt K H d c m 5 none none none, ?_, fun σ2 H3 e2 => ?_⟩
  · obtain ⟨fo, rs0, hs0, zs0, rfl, old0, dr0, hm0, zl0, zok0, fon, fom, ffo, hfo, at0, ok0, few0, fst0⟩ := e1
    refine ⟨_, rfl, _, rfl, d, c, 2, rfl, by decide, by decide, dr0, fun r H2 r0 r1 u1 => ⟨_, _, rfl, rfl, _, rfl, by omega, by omega, fun D hDn => ?_⟩⟩
    have hm2 := u1.lst dr0 hm0
    have hfo2 := u1.lst dr0 hfo
    have at2 : HdsAt H2 rs0 hs0 := at0.wk fun a xs h => u1.tup dr0 h
    refine lc_it (walk_range (lo := 0)) (fun i H' => HS K H2 d c m D (fun n => n = 1) i (zs0.length + i) H') (HS.start u1.dr hm2 zok0 hDn) (fun _ _ _ _ => trivial) (fun i x H' H'' hi p' y => ?_) (fun H' p' => ?_)
    · obtain ⟨rfl, rfl⟩ := y
      obtain ⟨rs, hs, zs, b1, dr, hm', b2, b3, b4, b5, b6, b7⟩ := p'
      refine ⟨rfl, yesI ⟨_, rfl, _, rfl, d, c, m, zs, rfl, dr, far, hm', by omega, b3, fun z H2 zok old dr2 hm2' => ⟨by show 2 ≤ sizeLine; decide, fun p hp => ?_⟩⟩⟩
      exact HS.step (n := 1) (u1.dr.far hDn) hDn (dm u1.dr) (by rw [hm2]; exact fun e => by cases e) b1 b2 b3 b4 b5 b6 b7 zok old dr2 hm2' dr hm' rfl hp (by omega)
    · obtain ⟨rs, hs, zs, b1, dr, hm', b2, b3, b4, b5, b6, b7⟩ := p'
      have fd : fo ≠ d := by
        obtain ⟨ns, q1, q2, q3, q4, q5, _⟩ := u1.dr
        exact ne_of hfo2 q5 fun e => nomatch e
      have hfo3 : H' fo = some (.lst rs0) := b1 fo _ fd fom hfo2
      have keepT : ∀ a xs, H2 a = some (.tup xs) → H' a = some (.tup xs) := fun a xs h => by
        obtain ⟨ns, q1, q2, q3, q4, q5, _⟩ := u1.dr
        exact b1 a _ (ne_of h q5 fun e => nomatch e) (ne_of h hm2 fun e => nomatch e) h
      refine ⟨fo, D, _, _, rfl, rfl, hfo3, b4, ?_, fun p hp => ?_⟩
      · have e1 := at0.len
        have e2 := b5.len
        exact Nat.le_of_lt (small1000 (n := rs0.length + rs.length) (by omega))
      have sp := same_new (o := .lst (rs0 ++ rs)) hp
      refine ⟨p, _, hs0 ++ hs, zs, rfl, fun a o n h => sp _ _ (b1 a o n (fun e => by rw [e, hm] at h; cases h) (u1.old a o n (old0 a o n h))), dr.same sp, sp _ _ hm', by rw [List.length_append]; omega, b3, ?_, ?_, dr.far hp, upd_same, ((at2.wk keepT).app b5).wk fun a xs h => sp _ _ h, ?_, by rw [List.length_append]; omega, ?_⟩
      · cases e : H p with
        | none => rfl
        | some o =>
          have pd : p ≠ d := (dr.ne hp)
          have := b1 p o pd (fun e2 => by rw [e2, hm] at e; cases e) (u1.old p o pd (old0 p o pd e))
          rw [this] at hp
          cases hp
      · exact fun e => by rw [e, hm'] at hp; cases hp
      · intro x hx
        rcases List.mem_append.mp hx with hx | hx
        · exact ok0 x hx
        · have := b6 x hx
          exact ⟨this.1, by have := this.2; omega⟩
      · obtain ⟨z, rr, e⟩ := fst0
        exact ⟨z, rr ++ hs, by rw [e]; rfl⟩
  refine ⟨HSt K H d c m 7 none none none, ?_, fun σ3 H4 e3 => ?_⟩
  · obtain ⟨fo, rs0, hs0, zs0, rfl, old0, dr0, hm0, zl0, zok0, fon, fom, ffo, hfo, at0, ok0, few0, fst0⟩ := e2
    refine ⟨_, rfl, _, rfl, d, c, 3, rfl, by decide, by decide, dr0, fun r H2 r0 r1 u1 => ⟨_, rfl, by omega, by omega, fun D hDn => ?_⟩⟩
    have hm2 := u1.lst dr0 hm0
    have hfo2 := u1.lst dr0 hfo
    have at2 : HdsAt H2 rs0 hs0 := at0.wk fun a xs h => u1.tup dr0 h
    refine lc_it (walk_range (lo := 0)) (fun i H' => HS K H2 d c m D (fun n => n ≤ 3) i (zs0.length + i) H') (HS.start u1.dr hm2 zok0 hDn) (fun _ _ _ _ => trivial) (fun i x H' H'' hi p' y => ?_) (fun H' p' => ?_)
    · obtain ⟨rfl, rfl⟩ := y
      obtain ⟨rs, hs, zs, b1, dr, hm', b2, b3, b4, b5, b6, b7⟩ := p'
      refine ⟨rfl, yesI ⟨_, rfl, _, rfl, d, c, m, zs, rfl, dr, far, hm', by omega, b3, fun z H2 zok old dr2 hm2' => ⟨_, rfl, _, _, rfl, rfl, by show 2 ≤ sizeLine; decide, fun p hp => ?_⟩⟩⟩
      have st := HS.step (F := fun n => n ≤ 3) (n := 2 + i) (u1.dr.far hDn) hDn (dm u1.dr) (by rw [hm2]; exact fun e => by cases e) b1 b2 b3 b4 b5 b6 b7 zok old dr2 hm2' dr hm' (by show 2 + i ≤ 3; omega) hp (by omega)
      have e : (((2 + i : Nat)) : Int) = 2 + (0 + (i : Int)) := by omega
      rw [e] at st
      exact st
    · obtain ⟨rs, hs, zs, b1, dr, hm', b2, b3, b4, b5, b6, b7⟩ := p'
      have fd : fo ≠ d := by
        obtain ⟨ns, q1, q2, q3, q4, q5, _⟩ := u1.dr
        exact ne_of hfo2 q5 fun e => nomatch e
      have hfo3 : H' fo = some (.lst rs0) := b1 fo _ fd fom hfo2
      have keepT : ∀ a xs, H2 a = some (.tup xs) → H' a = some (.tup xs) := fun a xs h => by
        obtain ⟨ns, q1, q2, q3, q4, q5, _⟩ := u1.dr
        exact b1 a _ (ne_of h q5 fun e => nomatch e) (ne_of h hm2 fun e => nomatch e) h
      refine ⟨fo, D, _, _, rfl, rfl, hfo3, b4, ?_, fun p hp => ?_⟩
      · have e1 := at0.len
        have e2 := b5.len
        exact Nat.le_of_lt (small1000 (n := rs0.length + rs.length) (by omega))
      have sp := same_new (o := .lst (rs0 ++ rs)) hp
      refine ⟨p, _, hs0 ++ hs, zs, rfl, fun a o n h => sp _ _ (b1 a o n (fun e => by rw [e, hm] at h; cases h) (u1.old a o n (old0 a o n h))), dr.same sp, sp _ _ hm', by rw [List.length_append]; omega, b3, ?_, ?_, dr.far hp, upd_same, ((at2.wk keepT).app b5).wk fun a xs h => sp _ _ h, ?_, by rw [List.length_append]; omega, ?_⟩
      · cases e : H p with
        | none => rfl
        | some o =>
          have pd : p ≠ d := (dr.ne hp)
          have := b1 p o pd (fun e2 => by rw [e2, hm] at e; cases e) (u1.old p o pd (old0 p o pd e))
          rw [this] at hp
          cases hp
      · exact fun e => by rw [e, hm'] at hp; cases hp
      · intro x hx
        rcases List.mem_append.mp hx with hx | hx
        · exact ok0 x hx
        · have := b6 x hx
          exact ⟨this.1, by have := this.2; omega⟩
      · obtain ⟨z, rr, e⟩ := fst0
        exact ⟨z, rr ++ hs, by rw [e]; rfl⟩
  obtain ⟨fo, rs, hs, zs, rfl, old, dr, hm', zl, zok, fon, fom, ffo, hfo, at0, ok0, few0, fst0⟩ := e3
  refine ⟨_, rfl, d, c, 3, rfl, by decide, by decide, dr, fun r1 H5 _ _ u1 => ⟨rfl, _, rfl, ite2 (fun _ => ?_) (fun _ => ?_)⟩⟩
  · have hm5 := u1.lst dr hm'
    have ok5 : 0 < (((zs.map V.str).length : Nat) : Int) := by
      rw [List.length_map, zl]
      obtain ⟨z, rr, e⟩ := fst0
      rw [e, List.length_cons]
      omega
    have ok5' : (((zs.map V.str).length : Nat) : Int) < 1000000 := by
      rw [List.length_map, zl]
      omega
    refine ⟨_, rfl, _, rfl, _, rfl, _, _, rfl, .inl ⟨_, SqL.of hm5, rfl⟩, d, c, _, rfl, ok5, ok5', u1.dr, fun r2 H6 r20 r21 u2 => ?_⟩
    obtain ⟨i, rfl⟩ : ∃ i : Nat, r2 = (i : Int) := ⟨r2.toNat, by omega⟩
    have hi : i < zs.length := by rw [List.length_map] at r21; omega
    have hget : (zs.map V.str)[i]? = some (.str zs[i]) := by
      rw [List.getElem?_map, List.getElem?_eq_getElem hi]
      rfl
    have hz := zok zs[i] (List.getElem_mem hi)
    generalize zs[i] = z at hget hz
    refine ⟨m, _, _, _, rfl, rfl, SqL.of (u2.lst u1.dr hm5), atI_nat hget, _, rfl, ?_⟩
    refine ⟨d, c, 4, rfl, by decide, by decide, u2.dr, fun r3 H7 r30 r31 u3 => ?_⟩
    obtain ⟨n, rfl⟩ : ∃ n : Nat, r3 = (n : Int) := ⟨r3.toNat, by omega⟩
    have u : DUA K d c H4 H7 := u1.trans (u2.trans u3)
    have hfo7 := u.lst dr hfo
    have at7 : HdsAt H7 rs hs := at0.wk fun a xs h => u.tup dr h
    have U : DUA K d c H H7 := ⟨fun a o n h => u.old a o n (old a o n h), u.dr⟩
    refine ⟨_, rfl, _, rfl, by show 2 ≤ sizeLine; decide, fun p hp => ?_⟩
    have sp := same_new (o := .tup [.str z, .int (n : Nat)]) hp
    refine ⟨_, rfl, _, _, .tup (SqT.of upd_same) (.cons (.str _) (.cons (.int _) .nil)), .lst (SqL.of (sp _ _ hfo7)) (dpHs (at7.wk fun a xs h => sp _ _ h)), shapedHd (isW_ok hz), shapedHds fun x hx => isW_ok (ok0 x hx).1, _, rfl, ite2 (fun _ => ?_) (fun _ => ?_)⟩
    · refine ⟨_, rfl, .inl ⟨rfl, _, SqL.of (sp _ _ hfo7)⟩, _, rfl, _, rfl, by show 2 ≤ sizeLine; decide, fun p2 hp2 => ?_⟩
      have sp2 := (same_new (o := .tup [.str z, .int (n : Nat)]) hp2)
      refine ⟨fo, rs, _, rfl, rfl, sp2 _ _ (sp _ _ hfo7), small1000 (by rw [at0.len]; omega), _, rfl, ?_⟩
      have fd : fo ≠ d := by
        obtain ⟨ns, q1, q2, q3, q4, q5, _⟩ := u.dr
        exact ne_of hfo7 q5 fun e => nomatch e
      refine q fo (rs ++ [.ref p2]) (hs ++ [(z, n)]) _ ⟨fun a o n h => ?_, ((U.dr.same sp).same sp2).mut fd ffo⟩ fon upd_same ?_ ?_ ?_ ?_
      · rw [upd_ne fun e => by rw [e, fon] at h; cases h]
        exact sp2 _ _ (sp _ _ (U.old a o n h))
      · refine (at7.wk fun a xs h => ?_).app (.one ?_)
        · rw [upd_ne fun e => by rw [e, hfo7] at h; cases h]
          exact sp2 _ _ (sp _ _ h)
        · rw [upd_ne (fun e => (by rw [e, sp _ _ hfo7] at hp2; cases hp2)), upd_same]
      · intro x hx
        rcases List.mem_append.mp hx with hx | hx
        · exact ok0 x hx
        · rw [List.mem_singleton.mp hx]
          exact ⟨hz, by show n ≤ 3; omega⟩
      · rw [List.length_append]
        show hs.length + 1 ≤ 10
        omega
      · obtain ⟨z1, rr, e⟩ := fst0
        exact ⟨z1, rr ++ [(z, n)], by rw [e]; rfl⟩
    · exact ⟨_, rfl, q fo rs hs _ (U.then sp) fon (sp _ _ hfo7) (at7.wk fun a xs h => sp _ _ h) ok0 (by omega) fst0⟩
  · have U : DUA K d c H H5 := ⟨fun a o n h => u1.old a o n (old a o n h), u1.dr⟩
    exact ⟨_, rfl, q fo rs hs _ U fon (u1.lst dr hfo) (at0.wk fun a xs h => u1.tup dr h) ok0 (by omega) fst0⟩
end
end Kt
namespace Kt
open PySem PySem.Spec PyProof.Rows L2
/-! ### patterns, as told -/
mutual
def Th.shape (h : Bool) : Th → Bool
  | .str z => h && isHl z
  | .tup l => shapeT h l
  | _ => false
/-- a tuple's items: a name, then parts -/
def shapeT (h : Bool) : List Th → Bool
  | [] => false
  | x :: ps => decide (ps.length < 4) && (x.word 8 && shapeL h ps)
def shapeL (h : Bool) : List Th → Bool
  | [] => true
  | p :: ps => p.shape h && shapeL h ps
end
mutual
def Th.size : Th → Int
  | .tup l => sizeT l
  | _ => 1
def sizeT : List Th → Int
  | [] => 1
  | _ :: ps => 1 + sizeL ps
def sizeL : List Th → Int
  | [] => 0
  | p :: ps => p.size + sizeL ps
end
mutual
def Th.dep : Th → Nat
  | .tup l => depT l
  | _ => 1
def depT : List Th → Nat
  | [] => 1
  | _ :: ps => 1 + depL ps
def depL : List Th → Nat
  | [] => 0
  | p :: ps => max p.dep (depL ps)
end
mutual
/-- how deep a thing's tuples lie -/
def Th.hgt : Th → Nat
  | .tup l => 1 + hgtL l
  | _ => 0
def hgtL : List Th → Nat
  | [] => 0
  | p :: ps => max p.hgt (hgtL ps)
end
theorem hgtL_le {m : Nat} : ∀ {l : List Th}, hgtL l ≤ m ↔ ∀ p ∈ l, p.hgt ≤ m
  | [] => ⟨fun _ _ h => (List.not_mem_nil h).elim, fun _ => Nat.zero_le _⟩
  | p :: ps => by
    show max p.hgt (hgtL ps) ≤ m ↔ _
    have ih := hgtL_le (m := m) (l := ps)
    constructor
    · intro h q hq
      rcases List.mem_cons.mp hq with rfl | hq
      · omega
      · exact ih.mp (by omega) q hq
    · intro h
      have h1 := h p (List.mem_cons_self ..)
      have h2 := ih.mpr fun q hq => h q (List.mem_cons_of_mem _ hq)
      omega
theorem shapeL_iff {h : Bool} : ∀ {l : List Th}, shapeL h l = true ↔ ∀ p ∈ l, p.shape h = true
  | [] => ⟨fun _ _ h => (List.not_mem_nil h).elim, fun _ => rfl⟩
  | p :: ps => by
    show (p.shape h && shapeL h ps) = true ↔ _
    rw [Bool.and_eq_true, shapeL_iff (l := ps)]
    constructor
    · rintro ⟨h1, h2⟩ q hq
      rcases List.mem_cons.mp hq with rfl | hq
      · exact h1
      · exact h2 q hq
    · exact fun h => ⟨h p (List.mem_cons_self ..), fun q hq => h q (List.mem_cons_of_mem _ hq)⟩
/-- a tuple of the shape has its items so -/
theorem shape_tup {h : Bool} {l : List Th} (e : (Th.tup l).shape h = true) : ∃ z ps, l = .str z :: ps ∧ ps.length < 4 ∧ isW z 8 = true ∧ ∀ p ∈ ps, p.shape h = true := by
  have e : shapeT h l = true := e
  cases l with
  | nil => cases e
  | cons x ps =>
    have e : (decide (ps.length < 4) && (x.word 8 && shapeL h ps)) = true := e
    simp only [Bool.and_eq_true, decide_eq_true_eq] at e
    obtain ⟨h1, h2, h3⟩ := e
    cases x with
    | str z => exact ⟨z, ps, rfl, h1, h2, shapeL_iff.mp h3⟩
    | _ => cases h2
theorem shape_of {h : Bool} {z : Str} {ps : List Th} (h1 : ps.length < 4) (h2 : isW z 8 = true) (h3 : ∀ p ∈ ps, p.shape h = true) : (Th.tup (.str z :: ps)).shape h = true := by
  show (decide (ps.length < 4) && ((Th.str z).word 8 && shapeL h ps)) = true
  rw [decide_eq_true h1, shapeL_iff.mpr h3]
  show (true && (isW z 8 && true)) = true
  rw [h2]
  rfl
/-! ### the law's word and the program's -/
def due (h : Bool) (t : Th) : Bool := t.shape h && (decide (t.size < 31) && decide ((t.dep : Int) < 6))
mutual
theorem size_pos : ∀ t : Th, 1 ≤ t.size
  | .tup [] => Int.le_refl 1
  | .tup (_ :: ps) => by
    have := sizeL_pos ps
    show 1 ≤ 1 + sizeL ps
    omega
  | .non | .bl _ | .int _ | .str _ | .ls | .dc => Int.le_refl 1
theorem sizeL_pos : ∀ l : List Th, 0 ≤ sizeL l
  | [] => Int.le_refl 0
  | p :: ps => by
    have h1 := size_pos p
    have h2 := sizeL_pos ps
    show 0 ≤ p.size + sizeL ps
    omega
end
theorem dep_pos (t : Th) : 1 ≤ t.dep := by
  cases t with
  | tup l =>
    cases l with
    | nil => exact Nat.le_refl 1
    | cons x ps => exact Nat.le_add_right 1 (depL ps)
  | _ => exact Nat.le_refl 1
theorem hole_shape {t : Th} (h : t.hole = true) (b : Bool) : t.shape b = b ∧ t.size = 1 ∧ t.dep = 1 := by
  cases t with
  | str z =>
    refine ⟨?_, rfl, rfl⟩
    show (b && isHl z) = b
    rw [show isHl z = true from h, Bool.and_true]
  | _ => cases h
/-- what the program's walk tells -/
theorem sw_eq (b : Bool) : ∀ (d : Nat) (t : Th), sw b d t = if t.shape b = true ∧ t.dep ≤ d then t.size else 0
  | 0, t => by
    have := dep_pos t
    rw [if_neg (fun h => by omega)]
    rfl
  | d + 1, t => by
    unfold sw
    by_cases hh : t.hole = true
    · obtain ⟨e1, e2, e3⟩ := hole_shape hh b
      rw [if_pos hh, e1, e2, e3]
      cases b with
      | true => rw [if_pos rfl, if_pos ⟨rfl, by omega⟩]
      | false => rw [if_neg Bool.false_ne_true, if_neg fun h => by cases h.1]
    · rw [if_neg hh]
      have loop : ∀ (ps : List Th) (acc : Int), 1 ≤ acc → swl (sw b d) acc ps = if shapeL b ps = true ∧ depL ps ≤ d then acc + sizeL ps else 0 := by
        intro ps
        induction ps with
        | nil =>
          intro acc _
          rw [if_pos ⟨rfl, Nat.zero_le _⟩]
          show acc = acc + 0
          omega
        | cons p ps ih =>
          intro acc ha
          show (if sw b d p = 0 then 0 else swl (sw b d) (acc + sw b d p) ps) = _
          have hp := sw_eq b d p
          have sp := size_pos p
          by_cases c : p.shape b = true ∧ p.dep ≤ d
          · rw [if_pos c] at hp
            rw [hp, if_neg (by omega), ih (acc + p.size) (by omega)]
            by_cases c2 : shapeL b ps = true ∧ depL ps ≤ d
            · rw [if_pos c2, if_pos ⟨by show (p.shape b && shapeL b ps) = true; rw [c.1, c2.1]; rfl, by show max p.dep (depL ps) ≤ d; omega⟩]
              show acc + p.size + sizeL ps = acc + (p.size + sizeL ps)
              omega
            · rw [if_neg c2, if_neg]
              rintro ⟨h1, h2⟩
              have h1 : (p.shape b && shapeL b ps) = true := h1
              have h2 : max p.dep (depL ps) ≤ d := h2
              rw [Bool.and_eq_true] at h1
              exact c2 ⟨h1.2, by omega⟩
          · rw [if_neg c] at hp
            rw [hp, if_pos rfl, if_neg]
            rintro ⟨h1, h2⟩
            have h1 : (p.shape b && shapeL b ps) = true := h1
            have h2 : max p.dep (depL ps) ≤ d := h2
            rw [Bool.and_eq_true] at h1
            exact c ⟨h1.1, by omega⟩
      cases t with
      | tup l =>
        cases l with
        | nil => rw [if_neg fun h => by cases h.1]
        | cons x ps =>
          show (if ps.length ≤ 3 ∧ x.word 8 = true then swl (sw b d) 1 ps else 0) = if (decide (ps.length < 4) && (x.word 8 && shapeL b ps)) = true ∧ 1 + depL ps ≤ d + 1 then 1 + sizeL ps else 0
          rw [loop ps 1 (Int.le_refl 1)]
          by_cases c1 : ps.length ≤ 3 ∧ x.word 8 = true
          · rw [if_pos c1, c1.2, decide_eq_true (by omega : ps.length < 4), Bool.true_and, Bool.true_and]
            by_cases c2 : shapeL b ps = true ∧ depL ps ≤ d
            · rw [if_pos c2, if_pos ⟨c2.1, by omega⟩]
            · rw [if_neg c2, if_neg fun h => c2 ⟨h.1, by omega⟩]
          · rw [if_neg c1, if_neg]
            rintro ⟨h1, _⟩
            simp only [Bool.and_eq_true, decide_eq_true_eq] at h1
            exact c1 ⟨by omega, h1.2.1⟩
      | str z =>
        rw [if_neg]
        rintro ⟨h1, _⟩
        have h1 : (b && isHl z) = true := h1
        rw [Bool.and_eq_true] at h1
        exact hh h1.2
      | _ => rw [if_neg fun h => by cases h.1]
theorem within_due (b : Bool) (t : Th) : within b t = due b t := by
  unfold within due
  rw [sw_eq]
  have hs := size_pos t
  by_cases c : t.shape b = true ∧ t.dep ≤ 5
  · rw [if_pos c, c.1, decide_eq_true hs, decide_eq_true (by omega : (t.dep : Int) < 6), Bool.true_and, Bool.true_and, Bool.and_true]
    exact decide_eq_decide.mpr (by omega)
  · rw [if_neg c, decide_eq_false (by decide : ¬ (1 : Int) ≤ 0), Bool.false_and]
    by_cases c1 : t.shape b = true
    · rw [c1, decide_eq_false (fun h => c ⟨c1, by omega⟩ : ¬ (t.dep : Int) < 6), Bool.and_false, Bool.and_false]
    · rw [Bool.eq_false_iff.mpr c1, Bool.false_and]
theorem range_map_getD {α β : Type} (d : α) (l : List α) (g : α → β) : ((List.range l.length).map fun i => g (l.getD i d)) = l.map g := by
  apply List.ext_getElem
  · rw [List.length_map, List.length_map, List.length_range]
  · intro i h1 h2
    rw [List.length_map, List.length_range] at h1
    rw [List.getElem_map, List.getElem_map, List.getElem_range, List.getD_eq_getElem?_getD, List.getElem?_eq_getElem h1]
    rfl
/-- a comprehension over the parts of a tuple, each told by f -/
theorem lc_parts {K : PySem.W.Frag} {H0 : Hp} {p D : Addr} {ys : List V} {ps : List Th} {σ : L2.St} {vs : List Nat} {j : Nat} {Qd : Hp → Prop} {te : TE} (f : Th → V) (hp : H0 p = some (.tup ys)) (hr : RepL H0 ys ps) (hn : ys.length ≤ 100) (hD : H0 D = none)
    (hset : ∀ x, wipe ((wipe σ vs).set j (some x)) vs = wipe σ vs) (he : ∀ x t H', Same H0 H' → t ∈ ps → Rep H' x t → ∀ Q : VK, (∀ H2, Same H' H2 → Q (f t) H2) → te ((wipe σ vs).set j (some x)) H' Q)
    (hd : ∀ H', Same H0 H' → H' D = some (.lst (ps.map f)) → Qd H') :
    ∃ W : Nat → Nat → Hp → Prop, (∃ m, W 0 m (upd H0 D (.lst []))) ∧ ∀ i m H, W i m H →
      ((Itt K p).stop i H ∧ Qd H) ∨ ((Itt K p).go i H ∧ ∃ Nx : Hp → Prop, (∀ H', Nx H' → ∃ m', m' < m ∧ W (i + 1) m' H') ∧ ∀ x H', (Itt K p).yld i H x H' → gName j x (wipe σ vs) H' fun σ2 H2 => wipe σ2 vs = wipe σ vs ∧ tYes σ2 H2 fun b H3 =>
        if b = true then te σ2 H3 fun y H4 => ∃ acc, H4 D = some (.lst acc) ∧ acc.length < sizeLine ∧ Nx (upd H4 D (.lst (acc ++ [y]))) else Nx H3) := by
  have hl := hr.length
  refine lc_pure (walk_tup (K := K)) (fun i => f (ps.getD i .non)) hD (by omega) (fun H' s' => SqT.of (s' _ _ hp)) hset (fun i x H H' hi s1 y => ?_) (fun H' s' e => hd H' s' ?_)
  · obtain ⟨rfl, hx⟩ := y
    obtain ⟨t, ht, rt⟩ := (hr.wk (Wk.same s1)).get' hx
    refine ⟨Same.refl _, fun Q q => ?_⟩
    have e : ps.getD i .non = t := by rw [List.getD_eq_getElem?_getD, ht]; rfl
    rw [e] at q
    exact he x t _ s1 (List.mem_of_getElem? ht) rt Q q
  · rw [e, hl, range_map_getD]
theorem hgt_part {m : Nat} {l : List Th} (h : (Th.tup l).hgt < m + 1) : ∀ p ∈ l, p.hgt < m := fun p hp => by
  have h : 1 + hgtL l < m + 1 := h
  have := hgtL_le.mp (Nat.le_refl (hgtL l)) p hp
  omega
theorem all_map {ps : List Th} {b : Bool} : (ps.map fun t => t.shape b).all id = shapeL b ps := by
  induction ps with
  | nil => rfl
  | cons p ps ih =>
    rw [List.map_cons, List.all_cons, ih]
    rfl
theorem sum_map {ps : List Th} : (ps.map fun t => t.size).sum = sizeL ps := by
  induction ps with
  | nil => rfl
  | cons p ps ih =>
    rw [List.map_cons, List.sum_cons, ih]
    rfl
theorem max_map {ps : List Th} {m : Int} (h1 : m ∈ ps.map fun t => (t.dep : Int)) (h2 : ∀ y ∈ ps.map (fun t => (t.dep : Int)), y ≤ m) : m = (depL ps : Int) := by
  have g : ∀ l : List Th, (∀ t ∈ l, (t.dep : Int) ≤ m) → (depL l : Int) ≤ m ∨ l = [] := by
    intro l
    induction l with
    | nil => exact fun _ => .inr rfl
    | cons p ps ih =>
      intro h
      have a := h p (List.mem_cons_self ..)
      rcases ih fun t ht => h t (List.mem_cons_of_mem _ ht) with b | b
      · left
        show ((max p.dep (depL ps) : Nat) : Int) ≤ m
        omega
      · left
        subst b
        show ((max p.dep 0 : Nat) : Int) ≤ m
        omega
  have g2 : ∀ l : List Th, ∀ t ∈ l, t.dep ≤ depL l := by
    intro l
    induction l with
    | nil => exact fun t h => (List.not_mem_nil h).elim
    | cons p ps ih =>
      intro t h
      show t.dep ≤ max p.dep (depL ps)
      rcases List.mem_cons.mp h with rfl | h
      · omega
      · have := ih t h
        omega
  obtain ⟨t, ht, rfl⟩ := List.mem_map.mp h1
  have a := g2 ps t ht
  rcases g ps fun u hu => h2 _ (List.mem_map.mpr ⟨u, hu, rfl⟩) with b | b
  · omega
  · subst b
    exact (List.not_mem_nil ht).elim
theorem within_iff {b : Bool} {t : Th} : within b t = true ↔ t.shape b = true ∧ t.dep ≤ 5 ∧ t.size ≤ 30 := by
  rw [within_due]
  unfold due
  rw [Bool.and_eq_true, Bool.and_eq_true, decide_eq_true_eq, decide_eq_true_eq]
  constructor
  · rintro ⟨h1, h2, h3⟩
    exact ⟨h1, by omega, by omega⟩
  · rintro ⟨h1, h2, h3⟩
    exact ⟨h1, by omega, by omega⟩
mutual
theorem hgt_dep {b : Bool} : ∀ t : Th, t.shape b = true → t.hgt ≤ t.dep
  | .str z, _ => Nat.zero_le _
  | .tup [], h => by cases h
  | .tup (x :: ps), h => by
    have h : (decide (ps.length < 4) && (x.word 8 && shapeL b ps)) = true := h
    simp only [Bool.and_eq_true, decide_eq_true_eq] at h
    have h2 := hgtL_dep ps h.2.2
    have h3 : x.hgt = 0 := by
      cases x with
      | str z => rfl
      | _ => cases h.2.1
    show 1 + max x.hgt (hgtL ps) ≤ 1 + depL ps
    omega
  | .non, h | .bl _, h | .int _, h | .ls, h | .dc, h => by cases h
theorem hgtL_dep {b : Bool} : ∀ l : List Th, shapeL b l = true → hgtL l ≤ depL l
  | [], _ => Nat.le_refl 0
  | p :: r, h => by
    have h : (p.shape b && shapeL b r) = true := h
    rw [Bool.and_eq_true] at h
    have h1 := hgt_dep p h.1
    have h2 := hgtL_dep r h.2
    show max p.hgt (hgtL r) ≤ max p.dep (depL r)
    omega
end
theorem size_part {p : Th} : ∀ {l : List Th}, p ∈ l → p.size ≤ sizeL l
  | q :: r, h => by
    show p.size ≤ q.size + sizeL r
    rcases List.mem_cons.mp h with rfl | h
    · have := sizeL_pos r
      omega
    · have h1 := size_part h
      have := size_pos q
      omega
end Kt
namespace Kt
open PySem PySem.Spec PyProof.Rows L2
/-! ### terms drawn -/
def mostT : Nat → Nat | 2 => 3 | 3 => 3 | 4 => 2 | 5 => 1 | _ => 0
def bndT : Nat → Int | 1 => 1 | 2 => 4 | 3 => 13 | 4 => 27 | 5 => 28 | _ => 0
theorem most_at {l : Nat} (h : l ≤ 5) : [V.int 0, .int 0, .int 3, .int 3, .int 2, .int 1][l]? = some (.int (mostT l : Nat)) := by
  have : l = 0 ∨ l = 1 ∨ l = 2 ∨ l = 3 ∨ l = 4 ∨ l = 5 := by omega
  rcases this with rfl | rfl | rfl | rfl | rfl | rfl <;> rfl
theorem most_le (l : Nat) : mostT l ≤ 3 := by
  unfold mostT
  split <;> omega
theorem bnd_step {l : Nat} (h1 : 1 ≤ l) (h : l ≤ 5) {k : Nat} (hk : k ≤ mostT l) : 1 + (k : Int) * bndT (l - 1) ≤ bndT l := by
  have : l = 1 ∨ l = 2 ∨ l = 3 ∨ l = 4 ∨ l = 5 := by omega
  rcases this with rfl | rfl | rfl | rfl | rfl
  · have hk : k ≤ 0 := hk
    show 1 + (k : Int) * 0 ≤ 1
    omega
  · have hk : k ≤ 3 := hk
    show 1 + (k : Int) * 1 ≤ 4
    omega
  · have hk : k ≤ 3 := hk
    show 1 + (k : Int) * 4 ≤ 13
    omega
  · have hk : k ≤ 2 := hk
    show 1 + (k : Int) * 13 ≤ 27
    omega
  · have hk : k ≤ 1 := hk
    show 1 + (k : Int) * 27 ≤ 28
    omega
theorem bnd_30 {l : Nat} (h : l ≤ 5) : bndT l ≤ 30 := by
  have : l = 0 ∨ l = 1 ∨ l = 2 ∨ l = 3 ∨ l = 4 ∨ l = 5 := by omega
  rcases this with rfl | rfl | rfl | rfl | rfl | rfl <;> decide
theorem sizeL_le {m : Int} : ∀ {l : List Th}, (∀ t ∈ l, t.size ≤ m) → sizeL l ≤ (l.length : Int) * m
  | [], _ => by
    show (0 : Int) ≤ ((0 : Nat) : Int) * m
    omega
  | t :: l, h => by
    have h1 := h t List.mem_cons_self
    have h2 := sizeL_le (m := m) (l := l) fun x hx => h x (List.mem_cons_of_mem _ hx)
    show t.size + sizeL l ≤ ((l.length + 1 : Nat) : Int) * m
    rw [show ((l.length + 1 : Nat) : Int) * m = (l.length : Int) * m + m by rw [Int.natCast_add, Int.add_mul]; omega]
    omega
theorem depL_le {m : Nat} : ∀ {l : List Th}, (∀ t ∈ l, t.dep ≤ m) → depL l ≤ m
  | [], _ => Nat.zero_le _
  | t :: l, h => by
    have h1 := h t List.mem_cons_self
    have h2 := depL_le (m := m) (l := l) fun x hx => h x (List.mem_cons_of_mem _ hx)
    show max t.dep (depL l) ≤ m
    omega
theorem RepL.one {H : Hp} {v : V} {t : Th} (h : Rep H v t) : RepL H [v] [t] := .cons h .nil
/-- a list changed is a list still -/
theorem Wk.lst_upd {H : Hp} {D : Addr} {xs : List V} (h : H D = some (.lst xs)) (ys : List V) : Wk H (upd H D (.lst ys)) :=
  ⟨fun a zs q => by rw [upd_ne (ne_of q h fun e => nomatch e)]; exact q, fun a zs q => by
    by_cases e : a = D
    · subst e
      exact ⟨_, upd_same⟩
    · exact ⟨zs, by rw [upd_ne e]; exact q⟩, fun a zs q => ⟨zs, by rw [upd_ne (ne_of q h fun e => nomatch e)]; exact q⟩⟩
/-- two tuples put together -/
theorem catA {K : PySem.W.Frag} {H : Hp} {a b : Addr} {xs ys : List V} {Q : VK} (ha : H a = some (.tup xs)) (hb : H b = some (.tup ys)) (hx : xs ≠ []) (hl : xs.length + ys.length ≤ 200) (q : ∀ p H', Same H H' → H' p = some (.tup (xs ++ ys)) → Q (.ref p) H') : rCatA K (.ref a) (.ref b) H Q := by
  refine ⟨a, b, xs, ys, rfl, rfl, SqT.of ha, SqT.of hb, Nat.le_of_lt (small1000 (by omega)), fun e => absurd e hx, fun _ e => ?_, fun _ _ p hp => q p _ (same_new hp _) upd_same⟩
  subst e
  exact q a H (Same.refl H) (by rw [List.append_nil]; exact ha)
/-- a term as drawn: its shape, how deep, how great -/
def TmA (left : Nat) (t : Th) : Prop := t.shape false = true ∧ t.dep ≤ left ∧ t.size ≤ bndT left
theorem TmA.within {left : Nat} {t : Th} (h : TmA left t) (hl : left ≤ 5) : within false t = true := by
  obtain ⟨h1, h2, h3⟩ := h
  unfold Kt.within
  have := bnd_30 hl
  have hp := size_pos t
  rw [sw_eq, if_pos ⟨h1, by omega⟩, decide_eq_true hp, decide_eq_true (by omega : t.size ≤ 30)]
  rfl
structure HsA (H : Hp) (h : Addr) (rs : List V) (hs : List (Str × Nat)) : Prop where
  hl : H h = some (.lst rs)
  hat : HdsAt H rs hs
  ok : okHs hs
  few : hs.length ≤ 20
  fst : ∃ z r, hs = (z, 0) :: r
theorem HsA.same {H H' : Hp} {h : Addr} {rs : List V} {hs : List (Str × Nat)} (a : HsA H h rs hs) (s : Same H H') : HsA H' h rs hs := ⟨s _ _ a.hl, a.hat.wk fun _ _ q => s _ _ q, a.ok, a.few, a.fst⟩
theorem HsA.du {K : PySem.W.Frag} {d c : Addr} {H H' : Hp} {h : Addr} {rs : List V} {hs : List (Str × Nat)} (a : HsA H h rs hs) (dr : DrA K d c H) (u : DUA K d c H H') : HsA H' h rs hs := ⟨u.lst dr a.hl, a.hat.wk fun _ _ q => u.tup dr q, a.ok, a.few, a.fst⟩
def sp_termA (K : PySem.W.Frag) (n : Nat) : Sp := fun vs H Q _ => ∃ (d c h : Addr) (rs : List V) (hs : List (Str × Nat)) (left : Nat), vs = [.ref d, .ref h, .int (left : Int)] ∧ 1 ≤ left ∧ left ≤ n ∧ DrA K d c H ∧ HsA H h rs hs ∧
  ∀ v t H', Rep H' v t → TmA left t → DUA K d c H H' → Q v H'
section
variable {P : Program} {w : World} {K : PySem.W.Frag} {mg : Str → Option Value} {base : Heap}
theorem c__law_term_n (T : Tx K mg) : ∀ n : Nat, n ≤ 5 → Cl P w K mg base CX0 (n + 2) "_law_term" ["_law_state", "_law_heads_here", "_law_left"] (sp_termA K n)
  | 0, _ => Cl.no T.d__law_term fun vs H Q E h => by
    obtain ⟨d, c, h, rs, hs, left, _, h1, h2, _⟩ := h
    omega
  | n + 1, hn => by
    have ih := c__law_term_n T n (by omega)
    refine Cl.mk0 T.d__law_term sc__law_term (fun vs H Q E h => ?_) (fun f cdv A outer s H vs Q E hr h => ?_)
    · obtain ⟨d, c, h, rs, hs, left, rfl, _⟩ := h
      rfl
    obtain ⟨d, c, h, rs, hs, left, rfl, l1, l2, hD, hh, q⟩ := h
    refine ⟨_, (pss_cons (ps_set (i := 3) sc__law_term.nd rfl (Or.inr rfl) (pe_ix ix_list (pe_lst (pa_cons pe_int (pa_cons pe_int (pa_cons pe_int (pa_cons pe_int (pa_cons pe_int (pa_cons pe_int pa_nil))))))) (pv 2) (fun _ _ => rfl)))
    (pss_cons (ps_setLc (i := 4) (own := [("_law_one", 7)]) (g := gName 7) rfl sc__law_term.nd rfl rfl (sw_true rfl rfl rfl (by decide +kernel)) (pi_list (pv 1)) (blkOk_by (own := [("_law_one", 7)]) (N := ["_law_state", "_law_heads_here", "_law_left", "_law_most", "_law_some", "_law_name_here", "_law_many", "_law_one", "_law_k"]) (sc := defScope s__law_term) (by decide +kernel)) (fun _ _ _ _ _ => (pg_name (i := 7) sc__law_term.nd rfl (Or.inl rfl))) (fun _ _ _ _ _ => (pts_one (pt_cmpR op_le (pe_ix (r := rIxT K) ix_tup (pv 7) pe_int (fun _ _ => rfl)) (pv 3) (nomark _)))) (fun _ _ _ _ _ => (pv 7)))
    (pss_cons (ps_asg (pe_ix ix_list (pv 4) (pe_cl (c__law_take T) hr (by omega) rfl (pa_cons (pv 0) (pa_cons (pe_callB call_len (by rfl) T.z_len (by decide +kernel) (pa_cons (pv 4) pa_nil)) pa_nil))) (fun _ _ => rfl)) (pg_tup rfl (pgs_cons (pg_name (i := 5) sc__law_term.nd rfl (Or.inl rfl)) (pgs_cons (pg_name (i := 6) sc__law_term.nd rfl (Or.inl rfl)) pgs_nil))))
    (pss_one (ps_ret (pe_op op_catA (pe_tup (pa_cons (pv 5) pa_nil)) (pe_callTy call_tuple_of (by rfl) T.z_tuple (by decide +kernel) (pa_cons (pe_lc (own := [("_law_k", 8)]) (g := gName 8) (tt := tYes) rfl sc__law_term.nd (pi_range1 (by rfl) T.z_range (pa_cons (pv 6) pa_nil)) (blkOk_by (own := [("_law_k", 8)]) (N := ["_law_state", "_law_heads_here", "_law_left", "_law_most", "_law_some", "_law_name_here", "_law_many", "_law_one", "_law_k"]) (sc := defScope s__law_term) (by decide +kernel)) (fun _ _ _ _ _ => (pg_name (i := 8) sc__law_term.nd rfl (Or.inl rfl))) (fun _ _ _ _ _ => pts_nil) (fun _ _ _ _ _ => (pe_cl ih hr (by omega) rfl (pa_cons (pv 0) (pa_cons (pv 1) (pa_cons (pe_op op_sub (pv 2) pe_int) pa_nil)))))) pa_nil)))))))), ?_⟩
    refine ⟨by show 6 ≤ sizeLine; decide, fun p0 hp0 => ⟨_, rfl, p0, _, _, _, rfl, rfl, SqL.of upd_same, atI_nat (most_at (by omega)), ?_⟩⟩
    have s0 := same_new (o := .lst [V.int 0, .int 0, .int 3, .int 3, .int 2, .int 1]) hp0
    have hh0 := hh.same s0
    refine ⟨_, rfl, h, rfl, ⟨_, SqL.of hh0.hl⟩, fun D hDn => ?_⟩
    refine lc_it (walk_list (K := K) (xs := rs)) (fun i H' => Same (upd H p0 (.lst [V.int 0, .int 0, .int 3, .int 3, .int 2, .int 1])) H' ∧ ∃ rs' hs', H' D = some (.lst rs') ∧ HdsAt H' rs' hs' ∧ (∀ x ∈ hs', isW x.1 8 = true ∧ x.2 ≤ mostT left) ∧ hs'.length ≤ i ∧ (1 ≤ i → 1 ≤ hs'.length)) ⟨same_new hDn _, [], [], upd_same, .nil, fun _ h => (List.not_mem_nil h).elim, Nat.zero_le _, fun h => absurd h (by decide)⟩ (fun i Hx _ k => SqL.of (k.1 _ _ hh0.hl)) (fun i x Hx Hy hi k yy => ?_) (fun Hx k => ?_)
    · obtain ⟨rfl, hx⟩ := yy
      obtain ⟨sx, rs', hs', b1, b2, b3, b4, b5⟩ := k
      obtain ⟨a, y, rfl, e2, e3⟩ := hh0.hat.get i x hx
      have e4 := sx _ _ e3
      have ilen : i < 20 := by
        have := hh.hat.len
        have := hh.few
        omega
      have ymem : y ∈ hs := List.mem_of_getElem? e2
      refine ⟨rfl, _, rfl, a, _, _, _, rfl, rfl, SqT.of e4, atI_nat (j := 1) rfl, _, rfl, _, _, rfl, rfl, _, rfl, ite2 (fun c1 => ?_) (fun c1 => ?_)⟩
      · have c1 : (y.2 : Int) ≤ (mostT left : Nat) := of_decide_eq_true c1
        refine ⟨_, rfl, rs', b1, small1000 (by rw [b2.len]; omega), Same.mut sx hDn, rs' ++ [.ref a], hs' ++ [y], upd_same, ?_, fun z hz => ?_, ?_, fun _ => ?_⟩
        · refine (b2.wk fun b xs h => ?_).app (.one ?_)
          · rw [upd_ne (ne_of h b1 fun e => nomatch e)]
            exact h
          · rw [upd_ne (ne_of e4 b1 fun e => nomatch e)]
            exact e4
        · rcases List.mem_append.mp hz with hz | hz
          · exact b3 z hz
          · rw [List.mem_singleton.mp hz]
            exact ⟨(hh.ok y ymem).1, by omega⟩
        · rw [List.length_append]
          show hs'.length + 1 ≤ i + 1
          omega
        · rw [List.length_append]
          exact Nat.le_add_left 1 _
      · refine ⟨sx, rs', hs', b1, b2, b3, by omega, fun _ => ?_⟩
        cases i with
        | zero =>
          obtain ⟨z, r, e⟩ := hh.fst
          rw [e] at e2
          cases e2
          exact absurd (decide_eq_true (by show ((0 : Nat) : Int) ≤ (mostT left : Nat); omega)) c1
        | succ j => exact b5 (by omega)
    obtain ⟨sx, rs', hs', b1, b2, b3, b4, b5⟩ := k
    have len1 : 1 ≤ hs'.length := b5 (by
      have := hh.hat.len
      obtain ⟨z, r, e⟩ := hh.fst
      rw [this, e]
      exact Nat.le_add_left 1 _)
    have len2 : hs'.length ≤ 20 := by
      have := hh.hat.len
      have := hh.few
      omega
    have lenr := b2.len
    have dr1 := hD.same (s0.trans sx)
    refine ⟨_, rfl, _, rfl, _, rfl, _, _, rfl, .inl ⟨_, SqL.of b1, rfl⟩, d, c, _, rfl, by omega, by omega, dr1, fun r H2 r0 r1 u1 => ?_⟩
    obtain ⟨j, rfl⟩ : ∃ j : Nat, r = (j : Int) := ⟨r.toNat, by omega⟩
    have hj : j < hs'.length := by omega
    obtain ⟨a, ha, hta⟩ := b2.at hj
    have hm := b3 _ (List.getElem_mem hj)
    generalize hs'[j] = y at hm hta
    obtain ⟨z, k⟩ := y
    obtain ⟨hz, hk⟩ := hm
    have hz : isW z 8 = true := hz
    have hk : k ≤ mostT left := hk
    have hta2 : H2 a = some (.tup [.str z, .int (k : Nat)]) := u1.tup dr1 hta
    have hk3 : k ≤ 3 := Nat.le_trans hk (most_le left)
    refine ⟨D, _, _, _, rfl, rfl, SqL.of (u1.lst dr1 b1), atI_nat ha, a, _, rfl, SqT.of hta2, rfl, ?_⟩
    refine ⟨_, _, rfl, _, _, rfl, rfl, ?_⟩
    have dr2 := u1.dr
    have hh2 := (hh0.same sx).du dr1 u1
    have U2 : DUA K d c H H2 := (DUA.same hD (s0.trans sx)).trans u1
    refine ⟨_, rfl, by show 1 ≤ sizeLine; decide, fun p hp => ?_⟩
    have s3 := same_new (o := .tup [.str z]) hp
    have U3 := U2.then s3
    refine ⟨_, rfl, _, rfl, by omega, by omega, fun L hL => ?_⟩
    have far := U3.dr.far hL
    have Ld : L ≠ d := U3.dr.ne hL
    have pL : p ≠ L := ne_of_none upd_same hL
    refine lc_it (walk_range (lo := 0)) (fun i H' => ∃ vs ts, DUA K d c H H' ∧ HsA H' h rs hs ∧ H' p = some (.tup [.str z]) ∧ H' L = some (.lst vs) ∧ vs.length = i ∧ RepL H' vs ts ∧ ∀ t ∈ ts, TmA (left - 1) t) ⟨[], [], U3.then (same_new hL _), (hh2.same s3).same (same_new hL _), same_new hL _ _ _ upd_same, upd_same, rfl, .nil, fun t h => (List.not_mem_nil h).elim⟩ (fun _ _ _ _ => trivial) (fun i x H' H'' hi p' y => ?_) (fun H' p' => ?_)
    · obtain ⟨rfl, rfl⟩ := y
      obtain ⟨vs, ts, u, hhH, hpH, hLH, hl, hr', hts⟩ := p'
      have l3 : 2 ≤ left := by
        rcases Nat.lt_or_ge 1 left with h | h
        · exact h
        · have e : left = 1 := by omega
          rw [e] at hk
          have hk : k ≤ 0 := hk
          omega
      refine ⟨rfl, yesI ?_⟩
      refine ⟨_, rfl, _, rfl, _, rfl, _, _, rfl, rfl, d, c, h, rs, hs, left - 1, ?_, by omega, by omega, u.dr, hhH, fun v t H4 rv tm u5 => ?_⟩
      · show [V.ref d, V.ref h, V.int ((left : Int) - 1)] = _
        rw [show (left : Int) - 1 = ((left - 1 : Nat) : Int) by omega]
      · have hL4 := u5.lst u.dr hLH
        have w5 := DUA.wk u.dr u5
        have hh4 := hhH.du u.dr u5
        have keep : ∀ a xs, H4 a = some (.tup xs) → (upd H4 L (.lst (vs ++ [v]))) a = some (.tup xs) := fun a xs q => by
          rw [upd_ne (ne_of q hL4 fun e => nomatch e)]
          exact q
        have hLn : H L = none := by
          cases e : H L with
          | none => rfl
          | some o => rw [U3.old L o Ld e] at hL; cases hL
        refine ⟨vs, hL4, small1000 (by omega), vs ++ [v], ts ++ [t], ⟨fun a o a1 q => ?_, u5.dr.mut Ld far⟩, ⟨?_, hh4.hat.wk keep, hh4.ok, hh4.few, hh4.fst⟩, keep _ _ (u5.tup u.dr hpH), upd_same, by rw [List.length_append, hl]; rfl, ((hr'.wk w5).append (RepL.one rv)).wk (Wk.lst_upd hL4 _), fun t' ht' => ?_⟩
        · rw [upd_ne (fun e => by rw [e, hLn] at q; cases q)]
          exact u5.old _ _ a1 (u.old _ _ a1 q)
        · rw [upd_ne (fun e => by have q := hh.hl; rw [e, hLn] at q; cases q)]
          exact hh4.hl
        · rcases List.mem_append.mp ht' with h | h
          · exact hts t' h
          · rw [List.mem_singleton.mp h]
            exact tm
    · obtain ⟨vs, ts, u, hhH, hpH, hLH, hl, hr', hts⟩ := p'
      refine ⟨L, _, rfl, .inl ⟨SqL.of hLH, fun M hM => ?_⟩⟩
      have s6 := same_new (o := .tup vs) hM
      refine catA (s6 _ _ hpH) upd_same (fun e => by cases e) (by rw [List.length_singleton]; omega) fun M2 H5 s7 h5 => ?_
      have hlen := hr'.length
      have w7 := Wk.same (s6.trans s7)
      refine q _ (.tup (.str z :: ts)) _ (.tup h5 ?_ (.cons (isW_rep hz (by decide)) (hr'.wk w7))) ⟨shape_of (by omega) hz fun t ht => (hts t ht).1, ?_, ?_⟩ (u.then (s6.trans s7))
      · rw [List.length_append, List.length_singleton]
        omega
      · have := depL_le (m := left - 1) (l := ts) fun t ht => (hts t ht).2.1
        show 1 + depL ts ≤ left
        omega
      · have e1 := sizeL_le (m := bndT (left - 1)) (l := ts) fun t ht => (hts t ht).2.2
        have e2 := bnd_step (l := left) l1 (by omega) (k := ts.length) (by omega)
        show 1 + sizeL ts ≤ bndT left
        omega
theorem c__law_term (T : Tx K mg) : Cl P w K mg base CX0 7 "_law_term" ["_law_state", "_law_heads_here", "_law_left"] (sp_termA K 5) := c__law_term_n T 5 (by decide)
end
end Kt
namespace Kt
open PySem PySem.Spec PyProof.Rows L2
/-! ### tables drawn -/
def kyA (z : Str) (ns : List Int) : NestedKey := .tup [.text z, .tup (ns.map NestedKey.num)]
def RowA (H : Hp) (size : Int) (x : RowV) : Prop := ∃ (a a2 : Addr) (z : Str) (ns : List Int) (r : Int), x = (kyA z ns, .ref a, .int r) ∧ H a = some (.tup [.str z, .ref a2]) ∧ H a2 = some (.tup (ns.map V.int)) ∧ isW z 8 = true ∧ ns.length ≤ 3 ∧ (∀ n ∈ ns, 0 ≤ n ∧ n < size) ∧ 0 ≤ r ∧ r < size
theorem RowA.wk {H H' : Hp} {size : Int} {x : RowV} (h : RowA H size x) (w : ∀ a xs, H a = some (.tup xs) → H' a = some (.tup xs)) : RowA H' size x := by
  obtain ⟨a, a2, z, ns, r, e, h1, h2, q⟩ := h
  exact ⟨a, a2, z, ns, r, e, w _ _ h1, w _ _ h2, q⟩
theorem nums_rep {H : Hp} : ∀ ns : List Int, NReps H (ns.map NestedKey.num) (ns.map V.int)
  | [] => .nil
  | n :: ns => .cons (.int n) (nums_rep ns)
theorem nums_depth : ∀ ns : List Int, NestedKey.depthAll (ns.map NestedKey.num) = 0
  | [] => rfl
  | n :: ns => by
    show max 0 (NestedKey.depthAll (ns.map NestedKey.num)) = 0
    rw [nums_depth ns]
    rfl
theorem isK_of {H : Hp} {a a2 : Addr} {z : Str} {ns : List Int} (h1 : H a = some (.tup [.str z, .ref a2])) (h2 : H a2 = some (.tup (ns.map V.int))) : IsK H (kyA z ns) (.ref a) := by
  refine ⟨.tup h1 (.cons (.text z) (.cons (.tup h2 (nums_rep ns)) .nil)), ?_⟩
  show max 0 (max (NestedKey.depthAll (ns.map NestedKey.num) + 1) 0) + 1 ≤ 8
  rw [nums_depth]
  decide
theorem RowA.key {H : Hp} {size : Int} {x : RowV} (h : RowA H size x) : NRep H x.1 x.2.1 ∧ x.1.depth ≤ 8 := by
  obtain ⟨a, a2, z, ns, r, rfl, h1, h2, q⟩ := h
  exact isK_of h1 h2
structure BoardA (w : World) (H : Hp) (b : Addr) (size : Int) (D : Addr) (rows : List RowV) (rest : Int) : Prop where
  hb : H b = some (.tup [.int size, .ref D, .int rest])
  hD : H D = some (DN w D rows)
  rws : ∀ x ∈ rows, RowA H size x
  few : rows.length ≤ 100
  s1 : 1 ≤ size
  s2 : size ≤ 100
  r0 : 0 ≤ rest
  r1 : rest < size
theorem BoardA.keys {w : World} {H : Hp} {b D : Addr} {size rest : Int} {rows : List RowV} (h : BoardA w H b size D rows rest) : KeysN H rows := fun x hx => (h.rws x hx).key
theorem BoardA.same {w : World} {H H' : Hp} {b D : Addr} {size rest : Int} {rows : List RowV} (h : BoardA w H b size D rows rest) (s : Same H H') : BoardA w H' b size D rows rest := ⟨s _ _ h.hb, s _ _ h.hD, fun x hx => (h.rws x hx).wk fun _ _ q => s _ _ q, h.few, h.s1, h.s2, h.r0, h.r1⟩
theorem DUA.ext {K : PySem.W.Frag} {d c : Addr} {H H' : Hp} {w : World} {D D' : Addr} {rows : List RowV} (dr : DrA K d c H) (u : DUA K d c H H') (h : H D = some (DN w D' rows)) : D ≠ d ∧ H' D = some (DN w D' rows) := by
  obtain ⟨ns, q1, q2, q3, q4, q5, _⟩ := dr
  have n : D ≠ d := ne_of h q5 fun e => by unfold DN at e; cases e
  exact ⟨n, u.old D _ n h⟩
theorem BoardA.du {K : PySem.W.Frag} {d c : Addr} {w : World} {H H' : Hp} {b D : Addr} {size rest : Int} {rows : List RowV} (h : BoardA w H b size D rows rest) (dr : DrA K d c H) (u : DUA K d c H H') : BoardA w H' b size D rows rest := ⟨u.tup dr h.hb, (u.ext dr h.hD).2, fun x hx => (h.rws x hx).wk fun _ _ q => u.tup dr q, h.few, h.s1, h.s2, h.r0, h.r1⟩
def sp_tableA (w : World) (K : PySem.W.Frag) : Sp := fun vs H Q _ => ∃ (d c h : Addr) (rs : List V) (hs : List (Str × Nat)) (size : Int), vs = [.ref d, .ref h, .int size] ∧ 1 ≤ size ∧ size ≤ 100 ∧ DrA K d c H ∧ HsA H h rs hs ∧
  ∀ b D rows rest H', BoardA w H' b size D rows rest → DUA K d c H H' → Q (.ref b) H'
/-- how far a table is drawn -/
structure TbA (w : World) (K : PySem.W.Frag) (d c h D : Addr) (rs : List V) (hs : List (Str × Nat)) (size : Int) (H H' : Hp) (rows : List RowV) (m : Nat) : Prop where
  old : ∀ a o, a ≠ d → H a = some o → H' a = some o
  dr : DrA K d c H'
  hs' : HsA H' h rs hs
  hD : H' D = some (DN w D rows)
  rws : ∀ x ∈ rows, RowA H' size x
  few : rows.length ≤ m
theorem TbA.du {w : World} {K : PySem.W.Frag} {d c h D : Addr} {rs : List V} {hs : List (Str × Nat)} {size : Int} {H H1 H2 : Hp} {rows : List RowV} {m : Nat} (t : TbA w K d c h D rs hs size H H1 rows m) (u : DUA K d c H1 H2) : TbA w K d c h D rs hs size H H2 rows m :=
  ⟨fun a o n q => u.old a o n (t.old a o n q), u.dr, t.hs'.du t.dr u, (u.ext t.dr t.hD).2, fun x hx => (t.rws x hx).wk fun _ _ q => u.tup t.dr q, t.few⟩
section
variable {P : Program} {w : World} {K : PySem.W.Frag} {mg : Str → Option Value} {base : Heap}
theorem c__law_table (T : Tx K mg) : Cl P w K mg base CX0 2 "_law_table" ["_law_state", "_law_heads_here", "_law_size"] (sp_tableA w K) := by
  refine Cl.mk0 T.d__law_table sc__law_table (fun vs H Q E h => ?_) (fun f cdv A outer s H vs Q E hr h => ?_)
  · obtain ⟨d, c, h, rs, hs, size, rfl, _⟩ := h
    rfl
  obtain ⟨d, c, h, rs, hs, size, rfl, z1, z2, hD, hh, q⟩ := h
  refine ⟨_, (pss_cons (ps_set (i := 3) sc__law_table.nd rfl (Or.inl rfl) pe_dnewN)
    (pss_cons (ps_for PassesOwn.never rfl (pi_list (pv 1)) (pg_tup rfl (pgs_cons (pg_name (i := 4) sc__law_table.nd rfl (Or.inl rfl)) (pgs_cons (pg_name (i := 5) sc__law_table.nd rfl (Or.inl rfl)) pgs_nil)))
      (pss_one (ps_for PassesOwn.never rfl (pi_range1 (by rfl) T.z_range (pa_cons (pe_cl (c__law_take T) hr (by omega) rfl (pa_cons (pv 0) (pa_cons pe_int pa_nil))) pa_nil)) (pg_name (i := 6) sc__law_table.nd rfl (Or.inl rfl))
        (pss_one (ps_nput (hu_n hr) (pv 3) (pe_tup (pa_cons (pv 4) (pa_cons (pe_callTy call_tuple_of (by rfl) T.z_tuple (by decide +kernel) (pa_cons (pe_lc (own := [("_law_at", 7)]) (g := gName 7) (tt := tYes) rfl sc__law_table.nd (pi_range1 (by rfl) T.z_range (pa_cons (pv 5) pa_nil)) (blkOk_by (own := [("_law_at", 7)]) (N := ["_law_state", "_law_heads_here", "_law_size", "_law_rows", "_law_name_here", "_law_many", "_law_k", "_law_at"]) (sc := defScope s__law_table) (by decide +kernel)) (fun _ _ _ _ _ => (pg_name (i := 7) sc__law_table.nd rfl (Or.inl rfl))) (fun _ _ _ _ _ => pts_nil) (fun _ _ _ _ _ => (pe_cl (c__law_take T) hr (by omega) rfl (pa_cons (pv 0) (pa_cons (pv 2) pa_nil))))) pa_nil)) pa_nil))) (pe_cl (c__law_take T) hr (by omega) rfl (pa_cons (pv 0) (pa_cons (pv 2) pa_nil))) rfl)))))
    (pss_one (ps_ret (pe_tup (pa_cons (pv 2) (pa_cons (pv 3) (pa_cons (pe_cl (c__law_take T) hr (by omega) rfl (pa_cons (pv 0) (pa_cons (pv 2) pa_nil))) pa_nil)))))))), ?_⟩
  refine fun D hDn => ?_
  have s0 := same_new (o := DN w D []) hDn
  have len20 : rs.length ≤ 20 := by rw [hh.hat.len]; exact hh.few
  have Dd : D ≠ d := hD.ne hDn
  have far := hD.far hDn
  refine ⟨_, rfl, h, rfl, ⟨_, SqL.of (hh.same s0).hl⟩, for_list (xs := rs) (fun i σ' H' => ∃ x4 x5 x6 rows, σ' = [some (.ref d), some (.ref h), some (.int size), some (.ref D), x4, x5, x6, none] ∧ TbA w K d c h D rs hs size H H' rows (5 * i)) ⟨_, _, _, [], rfl, fun a o _ q => s0 a o q, hD.same s0, hh.same s0, upd_same, fun _ h => (List.not_mem_nil h).elim, Nat.zero_le _⟩ (fun i σ' H' _ k => ?_) (fun i x σ' H' hx k => ?_) (fun σ' H' k => ?_)⟩
  · obtain ⟨x4, x5, x6, rows, _, t⟩ := k
    exact SqL.of t.hs'.hl
  · obtain ⟨x4, x5, x6, rows, rfl, t⟩ := k
    obtain ⟨a, y, rfl, e2, e3⟩ := t.hs'.hat.get i x hx
    have yok := hh.ok y (List.mem_of_getElem? e2)
    have ilen : i < 20 := Nat.lt_of_lt_of_le (List.getElem?_eq_some_iff.mp hx).1 len20
    obtain ⟨z, k⟩ := y
    obtain ⟨hz, hk⟩ := yok
    have hz : isW z 8 = true := hz
    have hk : k ≤ 3 := hk
    have e3 : H' a = some (.tup [.str z, .int (k : Nat)]) := e3
    refine ⟨a, _, rfl, SqT.of e3, rfl, _, _, rfl, _, _, rfl, rfl, ?_⟩
    refine ⟨_, rfl, d, c, 5, rfl, by decide, by decide, t.dr, fun r H2 r0 r1 u1 => ⟨_, rfl, by omega, by omega, ?_⟩⟩
    have t1 := t.du u1
    refine for_range (lo := 0) (n := r.toNat) (fun j σ' H' => ∃ x6 rows, σ' = [some (.ref d), some (.ref h), some (.int size), some (.ref D), some (.str z), some (.int (k : Nat)), x6, none] ∧ TbA w K d c h D rs hs size H H' rows (5 * i + j)) ⟨_, rows, rfl, t1⟩ (fun j σ' H3 hj kk => ?_) (fun σ' H3 kk => ?_)
    · obtain ⟨x6, rows, rfl, t2⟩ := kk
      refine ⟨_, rfl, _, rfl, d, c, size, rfl, by omega, by omega, t2.dr, fun v H4 v0 v1 u2 => ?_⟩
      have t3 := t2.du u2
      refine ⟨_, rfl, _, rfl, _, rfl, _, rfl, by omega, by omega, fun L hL => ?_⟩
      have s5 := same_new (o := .lst []) hL
      have Ld : L ≠ d := t3.dr.ne hL
      have farL := t3.dr.far hL
      refine lc_it (walk_range (lo := 0)) (fun i' H' => ∃ ns : List Int, DUA K d c H4 H' ∧ H' L = some (.lst (ns.map V.int)) ∧ ns.length = i' ∧ ∀ n ∈ ns, 0 ≤ n ∧ n < size) ⟨[], DUA.same t3.dr s5, upd_same, rfl, fun _ h => (List.not_mem_nil h).elim⟩ (fun _ _ _ _ => trivial) (fun i' x H' H'' hi p' y => ?_) (fun H5 p' => ?_)
      · obtain ⟨rfl, rfl⟩ := y
        obtain ⟨ns, u, hL', l, hn⟩ := p'
        refine ⟨rfl, yesI ⟨_, rfl, _, rfl, d, c, size, rfl, by omega, by omega, u.dr, fun n H6 n0 n1 u6 => ⟨_, u6.lst u.dr hL', small1000 (by rw [List.length_map]; omega), ns ++ [n], ⟨fun a o a1 q => ?_, u6.dr.mut Ld farL⟩, ?_, by rw [List.length_append, l]; rfl, fun n' hn' => ?_⟩⟩⟩
        · rw [upd_ne fun e => by rw [e, hL] at q; cases q]
          exact u6.old _ _ a1 (u.old _ _ a1 q)
        · rw [upd_same, List.map_append]
          rfl
        · rcases List.mem_append.mp hn' with h | h
          · exact hn n' h
          · rw [List.mem_singleton.mp h]
            exact ⟨n0, n1⟩
      · obtain ⟨ns, u, hL', l, hn⟩ := p'
        refine ⟨L, _, rfl, .inl ⟨SqL.of hL', fun M hM => ⟨by show 2 ≤ sizeLine; decide, fun p hp => ?_⟩⟩⟩
        have s6 := same_new (o := .tup (ns.map V.int)) hM
        have s7 := same_new (o := .tup [.str z, .ref M]) hp
        have t5 := (t3.du u).du (DUA.same u.dr (s6.trans s7))
        have hM7 := s7 _ _ (upd_same (H := H5) (a := M) (o := .tup (ns.map V.int)))
        have hnew : RowA (upd (upd H5 M (.tup (ns.map V.int))) p (.tup [.str z, .ref M])) size (kyA z ns, .ref p, .int v) := ⟨p, M, z, ns, v, rfl, upd_same, hM7, hz, by omega, hn, v0, v1⟩
        refine ⟨D, rows, _, rfl, t5.hD, fun x hx => (t5.rws x hx).key, isK_of upd_same hM7, small1000 (by have := t5.few; omega), _, putM rows (kyA z ns) (.ref p) (.int v), rfl, ?_⟩
        have keep : ∀ a xs, (upd (upd H5 M (.tup (ns.map V.int))) p (.tup [.str z, .ref M])) a = some (.tup xs) → (upd (upd (upd H5 M (.tup (ns.map V.int))) p (.tup [.str z, .ref M])) D (DN w D (putM rows (kyA z ns) (.ref p) (.int v)))) a = some (.tup xs) := fun a xs h => by
          rw [upd_ne (ne_of h t5.hD fun e => by unfold DN at e; cases e)]
          exact h
        refine ⟨fun a o n q => ?_, t5.dr.mut Dd far, ⟨?_, t5.hs'.hat.wk keep, t5.hs'.ok, t5.hs'.few, t5.hs'.fst⟩, upd_same, ?_, ?_⟩
        · rw [upd_ne fun e => by rw [e, hDn] at q; cases q]
          exact t5.old a o n q
        · rw [upd_ne (ne_of t5.hs'.hl t5.hD fun e => by unfold DN at e; cases e)]
          exact t5.hs'.hl
        · refine putM_mem (F := fun x => RowA _ size x) (fun x hx => (t5.rws x hx).wk keep) (fun x hx _ => ?_) (hnew.wk keep)
          obtain ⟨a, a2, z', ns', r', rfl, h1, h2, h3, h4, h5, _⟩ := (t5.rws x hx).wk keep
          exact ⟨a, a2, z', ns', v, rfl, h1, h2, h3, h4, h5, v0, v1⟩
        · have := putM_length rows (kyA z ns) (.ref p) (.int v)
          have := t5.few
          omega
    · obtain ⟨x6, rows, rfl, t2⟩ := kk
      exact ⟨_, _, _, rows, rfl, { t2 with few := by have := t2.few; omega }⟩
  · obtain ⟨x4, x5, x6, rows, rfl, t⟩ := k
    refine ⟨_, rfl, _, rfl, _, rfl, _, rfl, d, c, size, rfl, by omega, by omega, t.dr, fun r H2 r0 r1 u1 => ⟨by show 3 ≤ sizeLine; decide, fun p hp => ?_⟩⟩
    have s1 := same_new (o := .tup [.int size, .ref D, .int r]) hp
    have t2 := (t.du u1).du (DUA.same u1.dr s1)
    exact q p D rows r _ ⟨upd_same, t2.hD, t2.rws, by have := t2.few; omega, z1, z2, r0, r1⟩ ⟨t2.old, t2.dr⟩
end
end Kt
namespace Kt
open PySem PySem.Spec PyProof.Rows L2
/-! ### numbers -/
def Th.num : Th → Bool | .int _ => true | _ => false
def Th.isNum : Th → Bool | .int _ => true | .bl _ => true | _ => false
def Th.bel (m : Int) : Th → Bool | .int i => decide (0 ≤ i) && decide (i < m) | _ => false
theorem kintT {K : PySem.W.Frag} : ∀ t : Th, PySem.W.kitOne K (.type t.ty) (.type "int") = some t.isNum
  | .non => kit_ty (show kitB "NoneType" "int" = some false by decide +kernel)
  | .bl _ => kit_ty (show kitB "bool" "int" = some true by decide +kernel)
  | .int _ => kit_ty (show kitB "int" "int" = some true by decide +kernel)
  | .str _ => kit_ty (show kitB "str" "int" = some false by decide +kernel)
  | .tup _ => kit_ty (show kitB "tuple" "int" = some false by decide +kernel)
  | .ls => kit_ty (show kitB "list" "int" = some false by decide +kernel)
  | .dc => kit_ty (show kitB "dict" "int" = some false by decide +kernel)
def sp_is_number : Sp := fun vs H Q _ => ∃ v t, vs = [v] ∧ Rep H v t ∧ Q (.bl t.num) H
def sp_is_below : Sp := fun vs H Q _ => ∃ v t m, vs = [v, .int m] ∧ Rep H v t ∧ Q (.bl (t.bel m)) H
section
variable {P : Program} {w : World} {K : PySem.W.Frag} {mg : Str → Option Value} {base : Heap}
theorem c_is_number (T : Tx K mg) : Cl P w K mg base CX0 1 "is_number" ["thing"] sp_is_number := by
  refine Cl.mk0 T.d_is_number sc_is_number (fun vs H Q E h => ?_) (fun f cdv A outer s H vs Q E hr h => ?_)
  · obtain ⟨v, t, rfl, _⟩ := h
    rfl
  obtain ⟨v, t, rfl, r, q⟩ := h
  refine ⟨_, (pss_one (ps_ret (pe_and (pe_callB (id := "isinstance") (r := rIsi K) call_isi (by rfl) T.z_isinstance (by decide +kernel) (pa_cons (pv 0) (pa_cons (pe_bltn (v := .ty "int") (u := .type "int") (by rfl) T.z_int (by decide +kernel) rfl) pa_nil))) (pe_one (pe_not (pe_callB (id := "isinstance") (r := rIsi K) call_isi (by rfl) T.z_isinstance (by decide +kernel) (pa_cons (pv 0) (pa_cons (pe_bltn (v := .ty "bool") (u := .type "bool") (by rfl) T.z_bool (by decide +kernel) rfl) pa_nil)))))))), ?_⟩
  refine ⟨_, rfl, _, _, _, _, _, rfl, .ty _, r.tyx, kintT t, _, rfl, ?_⟩
  cases r with
  | int i => exact iteT ⟨_, rfl, _, _, _, _, _, rfl, .ty _, (Rep.int i).tyx, kbl _, _, rfl, q⟩
  | bl b => exact iteT ⟨_, rfl, _, _, _, _, _, rfl, .ty _, (Rep.bl b).tyx, kbl _, _, rfl, q⟩
  | _ => exact iteF q
theorem c_is_below (T : Tx K mg) : Cl P w K mg base CX0 2 "is_below" ["thing", "many"] sp_is_below := by
  refine Cl.mk0 T.d_is_below sc_is_below (fun vs H Q E h => ?_) (fun f cdv A outer s H vs Q E hr h => ?_)
  · obtain ⟨v, t, m, rfl, _⟩ := h
    rfl
  obtain ⟨v, t, m, rfl, r, q⟩ := h
  refine ⟨_, (pss_one (ps_ret (pe_and (pe_cl (c_is_number T) hr (by omega) rfl (pa_cons (pv 0) pa_nil)) (pe_one (pe_chain op_le op_lt pe_int (pv 0) (pv 1)))))), ?_⟩
  refine ⟨_, rfl, _, _, rfl, r, _, rfl, ?_⟩
  cases r with
  | int i =>
    refine iteT ⟨_, rfl, _, _, rfl, rfl, _, rfl, ite2 (fun c => ⟨_, rfl, _, _, rfl, rfl, ?_⟩) (fun c => ?_)⟩
    · have e : (Th.int i).bel m = decide (i < m) := by
        show (decide (0 ≤ i) && decide (i < m)) = _
        rw [c, Bool.true_and]
      rw [e] at q
      exact q
    · have e : (Th.int i).bel m = false := by
        show (decide (0 ≤ i) && decide (i < m)) = _
        rw [Bool.eq_false_iff.mpr c, Bool.false_and]
      rw [e] at q
      exact q
  | _ => exact iteF q
end
end Kt
namespace Kt
open PySem PySem.Spec PyProof.Rows L2
/-! ### what is a table -/
theorem valM_mem {xs : List RowV} {k : NestedKey} {v : V} (h : valM xs k = some v) : ∃ y, (k, y, v) ∈ xs := by
  unfold valM at h
  obtain ⟨x, hx, rfl⟩ := Option.map_eq_some_iff.mp h
  have h1 := List.find?_some hx
  have h2 := List.mem_of_find?_eq_some hx
  obtain ⟨k', y, v⟩ := x
  have e : k' = k := of_decide_eq_true h1
  subst e
  exact ⟨y, h2⟩
theorem valM_has {xs : List RowV} {x : RowV} (h : x ∈ xs) : ∃ v, valM xs x.1 = some v := by
  cases e : valM xs x.1 with
  | some v => exact ⟨v, rfl⟩
  | none =>
    unfold valM at e
    have := List.find?_eq_none.mp (Option.map_eq_none_iff.mp e) x h
    exact absurd (decide_eq_true rfl) this
theorem rep_name {z : Str} {H : Hp} (h : isW z 8 = true) : Rep H (.str z) (.str z) := isW_rep h (by decide)
def sp_is_key : Sp := fun vs H Q _ => ∃ (a a2 : Addr) (z : Str) (ns : List Int) (size : Int), vs = [.ref a, .int size] ∧ H a = some (.tup [.str z, .ref a2]) ∧ H a2 = some (.tup (ns.map V.int)) ∧ isW z 8 = true ∧ ns.length ≤ 3 ∧ (∀ n ∈ ns, 0 ≤ n ∧ n < size) ∧ ∀ H', Same H H' → Q (.bl true) H'
/-- what is no table, of the kinds that the law hands in -/
def BadB (w : World) (H : Hp) (v : V) : Prop :=
  (∃ t : Th, Rep H v t ∧ t.isTup = false) ∨ (∃ (a : Addr) (xs : List V), v = .ref a ∧ H a = some (.tup xs) ∧ xs.length ≤ 100 ∧ xs.length ≠ 3) ∨ (∃ (a : Addr) (x y : V), v = .ref a ∧ H a = some (.tup [.int 0, x, y])) ∨
  ∃ (b : Addr) (size : Int) (D : Addr) (rows : List RowV), v = .ref b ∧ 1 ≤ size ∧ size ≤ 100 ∧ H b = some (.tup [.int size, .ref D, .int size]) ∧ H D = some (DN w D rows)
theorem BadB.same {w : World} {H H' : Hp} {v : V} (h : BadB w H v) (s : Same H H') : BadB w H' v := by
  rcases h with ⟨t, r, e⟩ | ⟨a, xs, e, h, n⟩ | ⟨a, x, y, e, h⟩ | ⟨b, size, D, rows, e, h1, h2, h3, h4⟩
  · exact .inl ⟨t, r.wk (Wk.same s), e⟩
  · exact .inr (.inl ⟨a, xs, e, s _ _ h, n⟩)
  · exact .inr (.inr (.inl ⟨a, x, y, e, s _ _ h⟩))
  · exact .inr (.inr (.inr ⟨b, size, D, rows, e, h1, h2, s _ _ h3, s _ _ h4⟩))
theorem BadB.du {K : PySem.W.Frag} {d c : Addr} {w : World} {H H' : Hp} {v : V} (h : BadB w H v) (dr : DrA K d c H) (u : DUA K d c H H') : BadB w H' v := by
  rcases h with ⟨t, r, e⟩ | ⟨a, xs, e, h, n⟩ | ⟨a, x, y, e, h⟩ | ⟨b, size, D, rows, e, h1, h2, h3, h4⟩
  · exact .inl ⟨t, r.wk (DUA.wk dr u), e⟩
  · exact .inr (.inl ⟨a, xs, e, u.tup dr h, n⟩)
  · exact .inr (.inr (.inl ⟨a, x, y, e, u.tup dr h⟩))
  · exact .inr (.inr (.inr ⟨b, size, D, rows, e, h1, h2, u.tup dr h3, (u.ext dr h4).2⟩))
def sp_is_table (w : World) : Sp := fun vs H Q _ => (∃ b size D rows rest, vs = [.ref b] ∧ BoardA w H b size D rows rest ∧ ∀ H', Same H H' → Q (.bl true) H') ∨ ∃ v, vs = [v] ∧ BadB w H v ∧ ∀ H', Same H H' → Q (.bl false) H'
section
variable {P : Program} {w : World} {K : PySem.W.Frag} {mg : Str → Option Value} {base : Heap}
theorem c_is_key (T : Tx K mg) : Cl P w K mg base CX0 3 "is_key" ["thing", "size"] sp_is_key := by
  refine Cl.mk0 T.d_is_key sc_is_key (fun vs H Q E h => ?_) (fun f cdv A outer s H vs Q E hr h => ?_)
  · obtain ⟨a, a2, z, ns, size, rfl, _⟩ := h
    rfl
  obtain ⟨a, a2, z, ns, size, rfl, h1, h2, hz, l, hn, q⟩ := h
  refine ⟨_, (pss_cons (ps_if (PW.pt (pw_or (pt_not (pt_val (pe_callB (id := "isinstance") (r := rIsi K) call_isi (by rfl) T.z_isinstance (by decide +kernel) (pa_cons (pv 0) (pa_cons (pe_bltn (v := .ty "tuple") (u := .type "tuple") (by rfl) T.z_tuple (by decide +kernel) rfl) pa_nil))))) (pw_or (pt_cmpR op_ne (pe_callB call_len (by rfl) T.z_len (by decide +kernel) (pa_cons (pv 0) pa_nil)) pe_int (nomark _)) (pw_or1 (pt_not (pt_val (pe_cl (c_is_name T) hr (by omega) rfl (pa_cons (pe_ix ix_tup (pv 0) pe_int (fun _ _ => rfl)) pa_nil))))))))
      (pss_one (ps_ret pe_bl))
      pss_nil)
    (pss_cons (ps_if (PW.pt (pw_or (pt_not (pt_val (pe_callB (id := "isinstance") (r := rIsi K) call_isi (by rfl) T.z_isinstance (by decide +kernel) (pa_cons (pe_ix ix_tup (pv 0) pe_int (fun _ _ => rfl)) (pa_cons (pe_bltn (v := .ty "tuple") (u := .type "tuple") (by rfl) T.z_tuple (by decide +kernel) rfl) pa_nil))))) (pw_or1 (pt_cmpR op_gt (pe_callB call_len (by rfl) T.z_len (by decide +kernel) (pa_cons (pe_ix ix_tup (pv 0) pe_int (fun _ _ => rfl)) pa_nil)) (pe_glob (v := .int 3) (by rfl) T.m_MOST_PARTS.choose_spec ⟨_, rfl⟩) (nomark _)))))
      (pss_one (ps_ret pe_bl))
      pss_nil)
    (pss_one (ps_ret (pe_callB (cr_all rfl) (by rfl) T.z_all (by decide +kernel) (pa_cons (pe_lc (own := [("part", 2)]) (g := gName 2) (tt := tYes) rfl sc_is_key.nd (pi_tup (pe_ix ix_tup (pv 0) pe_int (fun _ _ => rfl))) (blkOk_by (own := [("part", 2)]) (N := ["thing", "size", "part"]) (sc := defScope s_is_key) (by decide +kernel)) (fun _ _ _ _ _ => (pg_name (i := 2) sc_is_key.nd rfl (Or.inl rfl))) (fun _ _ _ _ _ => pts_nil) (fun _ _ _ _ _ => (pe_cl (c_is_below T) hr (by omega) rfl (pa_cons (pv 2) (pa_cons (pv 1) pa_nil))))) pa_nil)))))), ?_⟩
  refine ⟨_, rfl, _, _, _, _, _, rfl, .ty _, .base (.tup h1), ktup (.tup []), _, rfl, iteF ?_⟩
  refine ⟨_, rfl, _, _, rfl, .inr ⟨_, SqT.of h1, rfl⟩, rfl, _, rfl, iteF ?_⟩
  refine ⟨_, rfl, a, _, _, _, rfl, rfl, SqT.of h1, atI_nat (j := 0) rfl, _, _, rfl, rep_name hz, fun H1 s1 => ⟨_, rfl, ?_⟩⟩
  rw [show (Th.str z).word 8 = true from hz]
  refine iteF ?_
  have h1 := s1 _ _ h1
  have h2 := s1 _ _ h2
  refine ⟨_, rfl, a, _, _, _, rfl, rfl, SqT.of h1, atI_nat (j := 1) rfl, _, _, _, _, _, rfl, .ty _, .base (.tup h2), ktup (.tup []), _, rfl, iteF ?_⟩
  refine ⟨_, rfl, a, _, _, _, rfl, rfl, SqT.of h1, atI_nat (j := 1) rfl, _, _, rfl, .inr ⟨_, SqT.of h2, rfl⟩, _, _, rfl, rfl, _, rfl, ite2 (fun c => ?_) (fun c => ?_)⟩
  · have c : (3 : Int) < ((ns.map V.int).length : Nat) := of_decide_eq_true c
    rw [List.length_map] at c
    omega
  refine ⟨_, rfl, a, _, _, _, rfl, rfl, SqT.of h1, atI_nat (j := 1) rfl, a2, rfl, ⟨_, SqT.of h2⟩, fun D hDn => ?_⟩
  refine lc_pure walk_tup (fun _ => .bl true) hDn (by rw [List.length_map]; omega) (fun H' s' => SqT.of (s' _ _ h2)) (fun _ => rfl) (fun j x Hx Hy hj sx y => ?_) (fun H3 s3 e3 => ?_)
  · obtain ⟨rfl, hx⟩ := y
    rw [List.getElem?_map] at hx
    obtain ⟨n, hn', rfl⟩ := Option.map_eq_some_iff.mp hx
    have nb := hn n (List.mem_of_getElem? hn')
    refine ⟨Same.refl _, fun Q' q' => ⟨_, rfl, _, rfl, _, .int n, size, rfl, .int n, ?_⟩⟩
    have e : (Th.int n).bel size = true := by
      show (decide (0 ≤ n) && decide (n < size)) = true
      rw [decide_eq_true nb.1, decide_eq_true nb.2]
      rfl
    rw [e]
    exact q' _ (Same.refl _)
  · refine ⟨D, List.replicate ns.length true, rfl, SqL.of ?_, ?_⟩
    · rw [e3]
      refine congrArg (fun l => some (HO.lst l)) ?_
      rw [List.map_const', List.length_range, List.length_map, List.map_replicate]
    · have : (List.replicate ns.length true).all id = true := by
        rw [List.all_eq_true]
        intro b hb
        rw [List.eq_of_mem_replicate hb]
        rfl
      have hq := q H3 (s1.trans s3)
      rw [← this] at hq
      exact hq
theorem c_is_table (T : Tx K mg) : Cl P w K mg base CX0 4 "is_table" ["thing"] (sp_is_table w) := by
  refine Cl.mk0 T.d_is_table sc_is_table (fun vs H Q E h => ?_) (fun f cdv A outer s H vs Q E hr h => ?_)
  · rcases h with ⟨b, size, D, rows, rest, rfl, _⟩ | ⟨v, rfl, _⟩ <;> rfl
  rcases h with ⟨b, size, D, rows, rest, rfl, hB, q⟩ | ⟨v, rfl, hB, q⟩
  · refine ⟨_, (Evl.pss_cut (ps_if (PW.pt (pw_or (pt_not (pt_val (pe_callB (id := "isinstance") (r := rIsi K) call_isi (by rfl) T.z_isinstance (by decide +kernel) (pa_cons (pv 0) (pa_cons (pe_bltn (v := .ty "tuple") (u := .type "tuple") (by rfl) T.z_tuple (by decide +kernel) rfl) pa_nil))))) (pw_or1 (pt_cmpR op_ne (pe_callB call_len (by rfl) T.z_len (by decide +kernel) (pa_cons (pv 0) pa_nil)) pe_int (nomark _)))))
      (pss_one (ps_ret pe_bl))
      pss_nil)
    (pss_cons (ps_asg (pv 0) (pg_tup rfl (pgs_cons (pg_name (i := 1) sc_is_table.nd rfl (Or.inr rfl)) (pgs_cons (pg_name (i := 2) sc_is_table.nd rfl (Or.inr rfl)) (pgs_cons (pg_name (i := 3) sc_is_table.nd rfl (Or.inl rfl)) pgs_nil)))))
    (Evl.pss_cut (ps_if (PW.pt (pw_or (pt_not (pt_val (pe_cl (c_is_number T) hr (by omega) rfl (pa_cons (pv 1) pa_nil)))) (pw_or1 (pt_not (pt_chain op_le op_le pe_int (pv 1) (pe_glob (v := .int 100) (by rfl) T.m_MOST_WORTHS.choose_spec ⟨_, rfl⟩))))))
      (pss_one (ps_ret pe_bl))
      pss_nil)
    (Evl.pss_cut (ps_if (PW.pt (pw_or (pt_not (pt_val (pe_callB (id := "isinstance") (r := fun xs H Q => rIsiN w K xs H Q ∨ rIsi K xs H Q) call_isiE (by rfl) T.z_isinstance (by decide +kernel) (pa_cons (pv 2) (pa_cons (pe_bltn (v := .ty "dict") (u := .type "dict") (by rfl) T.z_dict (by decide +kernel) rfl) pa_nil))))) (pw_or1 (pt_not (pt_val (pe_cl (c_is_below T) hr (by omega) rfl (pa_cons (pv 3) (pa_cons (pv 1) pa_nil))))))))
      (pss_one (ps_ret pe_bl))
      pss_nil)
    (pss_one (ps_ret (pe_callB (cr_all rfl) (by rfl) T.z_all (by decide +kernel) (pa_cons (pe_lock (pe_lc (own := [("key", 4)]) (g := gName 4) (tt := tYes) rfl sc_is_table.nd (pi_keysN (pv 2)) (blkOk_by (own := [("key", 4)]) (N := ["thing", "size", "rows", "rest", "key"]) (sc := defScope s_is_table) (by decide +kernel)) (fun _ _ _ _ _ => (pg_name (i := 4) sc_is_table.nd rfl (Or.inl rfl))) (fun _ _ _ _ _ => pts_nil) (fun _ _ _ _ _ => (pe_and (pe_cl (c_is_key T) hr (by omega) rfl (pa_cons (pv 4) (pa_cons (pv 1) pa_nil))) (pe_one (pe_cl (c_is_below T) hr (by omega) rfl (pa_cons (pe_ngetW (w := w) (hu_n hr) (pv 2) (pv 4) (fun _ _ => rfl)) (pa_cons (pv 1) pa_nil)))))))) pa_nil)))))))), ?_⟩
    refine ⟨fun σ' H' => σ' = [some (.ref b), none, none, none, none] ∧ H' = H, ⟨_, rfl, _, _, _, _, _, rfl, .ty _, .base (.tup hB.hb), ktup (.tup []), _, rfl, iteF ⟨_, rfl, _, _, rfl, .inr ⟨_, SqT.of hB.hb, rfl⟩, rfl, _, rfl, iteF ⟨rfl, rfl⟩⟩⟩, fun σ1 H1 e1 => ?_⟩
    obtain ⟨rfl, rfl⟩ := e1
    refine ⟨_, rfl, b, _, rfl, SqT.of hB.hb, rfl, _, _, rfl, _, _, rfl, _, _, rfl, rfl, ?_⟩
    refine ⟨fun σ' H' => σ' = [some (.ref b), some (.int size), some (.ref D), some (.int rest), none] ∧ H' = H1, ⟨_, rfl, _, .int size, rfl, .int size, _, rfl, iteF ⟨_, rfl, _, _, rfl, rfl, _, rfl, ite2 (fun c1 => ⟨_, _, rfl, rfl, _, rfl, ite2 (fun c2 => ?_) (fun c2 => ⟨rfl, rfl⟩)⟩) (fun c1 => ?_)⟩⟩, fun σ2 H2 e2 => ?_⟩
    · have := hB.s2
      rw [decide_eq_true this] at c2
      cases c2
    · exact absurd (decide_eq_true hB.s1) c1
    obtain ⟨rfl, rfl⟩ := e2
    refine ⟨fun σ' H' => σ' = [some (.ref b), some (.int size), some (.ref D), some (.int rest), none] ∧ H' = H2, ⟨_, rfl, .inl ⟨D, rows, _, _, _, rfl, .inl hB.hD, .ty _, kit_ty (show kitB "dict" "dict" = some true by decide +kernel), _, rfl, iteF ⟨_, rfl, _, rfl, _, .int rest, size, rfl, .int rest, _, rfl, ite2 (fun c1 => ?_) (fun c1 => ⟨rfl, rfl⟩)⟩⟩⟩, fun σ3 H3 e3 => ?_⟩
    · have e : (Th.int rest).bel size = true := by
        show (decide (0 ≤ rest) && decide (rest < size)) = true
        rw [decide_eq_true hB.r0, decide_eq_true hB.r1]
        rfl
      rw [e] at c1
      cases c1
    obtain ⟨rfl, rfl⟩ := e3
    refine ⟨D, _, hB.hD, ?_, fun od => ?_⟩
    · exact True.intro
    have hF : ∀ a xs, H3 a = some (.tup xs) → (upd H3 D (.frz od (DN w D rows))) a = some (.tup xs) := fun a xs h => by
      rw [upd_ne (ne_of h hB.hD fun e => by unfold DN at e; cases e)]
      exact h
    refine ⟨_, rfl, D, od, rows, rfl, upd_same, fun L hL => ?_⟩
    refine lc_pure walk_keysN (fun _ => .bl true) hL (by have := hB.few; omega) (fun H' s' => s' _ _ upd_same) (fun _ => rfl) (fun j x Hx Hy hj sx y => ?_) (fun H4 s4 e4 => ?_)
    · obtain ⟨rfl, k, v, hx⟩ := y
      have hmem := List.mem_of_getElem? hx
      have rws : ∀ x ∈ rows, RowA Hy size x := fun x hx => (hB.rws x hx).wk fun a xs h => sx _ _ (hF a xs h)
      obtain ⟨a, a2, z, ns, r, e, h1, h2, hz, l, hn, r0, r1⟩ := rws _ hmem
      cases e
      obtain ⟨v', hv'⟩ := valM_has hmem
      obtain ⟨y', hy'⟩ := valM_mem hv'
      obtain ⟨a', a2', z', ns', r', e', _, _, _, _, _, r0', r1'⟩ := rws _ hy'
      have ev : v' = .int r' := by
        have := congrArg (fun x : RowV => x.2.2) e'
        exact this
      subst ev
      refine ⟨Same.refl _, fun Q' q' => ⟨_, rfl, _, rfl, a, a2, z, ns, size, rfl, h1, h2, hz, l, hn, fun H5 s5 => ⟨_, rfl, iteT ⟨_, rfl, _, rfl, D, rows, kyA z ns, .int r', rfl, ⟨.inr ⟨od, s5 _ _ (sx _ _ upd_same)⟩, fun x hx => ((rws x hx).wk fun a xs h => s5 _ _ h).key⟩, isK_of (s5 _ _ h1) (s5 _ _ h2), hv', _, rfl, _, .int r', size, rfl, .int r', ?_⟩⟩⟩⟩
      have e : (Th.int r').bel size = true := by
        show (decide (0 ≤ r') && decide (r' < size)) = true
        rw [decide_eq_true r0', decide_eq_true r1']
        rfl
      rw [e]
      exact q' _ s5
    · have LD : L ≠ D := fun e => by rw [e, upd_same] at hL; cases hL
      refine ⟨s4 _ _ upd_same, L, List.replicate rows.length true, rfl, SqL.of ?_, ?_⟩
      · rw [upd_ne LD, e4, List.map_const', List.length_range, List.map_replicate]
      · have : (List.replicate rows.length true).all id = true := by
          rw [List.all_eq_true]
          intro b hb
          rw [List.eq_of_mem_replicate hb]
          rfl
        have hq := q (upd H4 D (DN w D rows)) fun a o h => by
          by_cases e : a = D
          · subst e
            rw [hB.hD] at h
            cases h
            exact upd_same
          · rw [upd_ne e]
            exact s4 _ _ (by rw [upd_ne e]; exact h)
        rw [← this] at hq
        exact hq
  · refine ⟨_, (Evl.pss_cut (ps_if (PW.pt (pw_or (pt_not (pt_val (pe_callB (id := "isinstance") (r := rIsi K) call_isi (by rfl) T.z_isinstance (by decide +kernel) (pa_cons (pv 0) (pa_cons (pe_bltn (v := .ty "tuple") (u := .type "tuple") (by rfl) T.z_tuple (by decide +kernel) rfl) pa_nil))))) (pw_or1 (pt_cmpR op_ne (pe_callB call_len (by rfl) T.z_len (by decide +kernel) (pa_cons (pv 0) pa_nil)) pe_int (nomark _)))))
      (pss_one (ps_ret pe_bl))
      pss_nil)
    (pss_cons (ps_asg (pv 0) (pg_tup rfl (pgs_cons (pg_name (i := 1) sc_is_table.nd rfl (Or.inr rfl)) (pgs_cons (pg_name (i := 2) sc_is_table.nd rfl (Or.inr rfl)) (pgs_cons (pg_name (i := 3) sc_is_table.nd rfl (Or.inl rfl)) pgs_nil)))))
    (Evl.pss_cut (ps_if (PW.pt (pw_or (pt_not (pt_val (pe_cl (c_is_number T) hr (by omega) rfl (pa_cons (pv 1) pa_nil)))) (pw_or1 (pt_not (pt_chain op_le op_le pe_int (pv 1) (pe_glob (v := .int 100) (by rfl) T.m_MOST_WORTHS.choose_spec ⟨_, rfl⟩))))))
      (pss_one (ps_ret pe_bl))
      pss_nil)
    (Evl.pss_cut (ps_if (PW.pt (pw_or (pt_not (pt_val (pe_callB (id := "isinstance") (r := fun xs H Q => rIsiN w K xs H Q ∨ rIsi K xs H Q) call_isiE (by rfl) T.z_isinstance (by decide +kernel) (pa_cons (pv 2) (pa_cons (pe_bltn (v := .ty "dict") (u := .type "dict") (by rfl) T.z_dict (by decide +kernel) rfl) pa_nil))))) (pw_or1 (pt_not (pt_val (pe_cl (c_is_below T) hr (by omega) rfl (pa_cons (pv 3) (pa_cons (pv 1) pa_nil))))))))
      (pss_one (ps_ret pe_bl))
      pss_nil)
    (pss_one (ps_ret (pe_callB (cr_all rfl) (by rfl) T.z_all (by decide +kernel) (pa_cons (pe_lock (pe_lc (own := [("key", 4)]) (g := gName 4) (tt := tYes) rfl sc_is_table.nd (pi_keysN (pv 2)) (blkOk_by (own := [("key", 4)]) (N := ["thing", "size", "rows", "rest", "key"]) (sc := defScope s_is_table) (by decide +kernel)) (fun _ _ _ _ _ => (pg_name (i := 4) sc_is_table.nd rfl (Or.inl rfl))) (fun _ _ _ _ _ => pts_nil) (fun _ _ _ _ _ => (pe_and (pe_cl (c_is_key T) hr (by omega) rfl (pa_cons (pv 4) (pa_cons (pv 1) pa_nil))) (pe_one (pe_cl (c_is_below T) hr (by omega) rfl (pa_cons (pe_ngetW (w := w) (hu_n hr) (pv 2) (pv 4) (fun _ _ => rfl)) (pa_cons (pv 1) pa_nil)))))))) pa_nil)))))))), ?_⟩
    rcases hB with ⟨t, r, e⟩ | ⟨a, xs, rfl, h, n, ne⟩ | ⟨a, x, y, rfl, h⟩ | ⟨b, size, D, rows, rfl, z1, z2, h, hD⟩
    · refine ⟨fun _ _ => False, ⟨_, rfl, _, _, _, _, _, rfl, .ty _, r.tyx, ktup t, _, rfl, ?_⟩, fun _ _ h => h.elim⟩
      rw [e]
      exact iteT (iteT (q H (Same.refl H)))
    · refine ⟨fun _ _ => False, ⟨_, rfl, _, _, _, _, _, rfl, .ty _, .base (.tup h), ktup (.tup []), _, rfl, iteF ⟨_, rfl, _, _, rfl, .inr ⟨_, SqT.of h, rfl⟩, rfl, _, rfl, ite2 (fun c => q H (Same.refl H)) (fun c => ?_)⟩⟩, fun _ _ h => h.elim⟩
      have c : ¬ (!decide (V.int (xs.length : Nat) = V.int 3)) = true := c
      rw [decide_eq_false (fun e => ne (by have := V.int.inj e; omega))] at c
      exact absurd rfl c
    · refine ⟨fun σ' H' => σ' = [some (.ref a), none, none, none, none] ∧ H' = H, ⟨_, rfl, _, _, _, _, _, rfl, .ty _, .base (.tup h), ktup (.tup []), _, rfl, iteF ⟨_, rfl, _, _, rfl, .inr ⟨_, SqT.of h, rfl⟩, rfl, _, rfl, iteF ⟨rfl, rfl⟩⟩⟩, fun σ1 H1 e1 => ?_⟩
      obtain ⟨rfl, rfl⟩ := e1
      refine ⟨_, rfl, a, _, rfl, SqT.of h, rfl, _, _, rfl, _, _, rfl, _, _, rfl, rfl, ?_⟩
      exact ⟨fun _ _ => False, ⟨_, rfl, _, .int 0, rfl, .int 0, _, rfl, iteF ⟨_, rfl, _, _, rfl, rfl, _, rfl, iteF ⟨_, rfl, iteT (q H1 (Same.refl H1))⟩⟩⟩, fun _ _ h => h.elim⟩
    · refine ⟨fun σ' H' => σ' = [some (.ref b), none, none, none, none] ∧ H' = H, ⟨_, rfl, _, _, _, _, _, rfl, .ty _, .base (.tup h), ktup (.tup []), _, rfl, iteF ⟨_, rfl, _, _, rfl, .inr ⟨_, SqT.of h, rfl⟩, rfl, _, rfl, iteF ⟨rfl, rfl⟩⟩⟩, fun σ1 H1 e1 => ?_⟩
      obtain ⟨rfl, rfl⟩ := e1
      refine ⟨_, rfl, b, _, rfl, SqT.of h, rfl, _, _, rfl, _, _, rfl, _, _, rfl, rfl, ?_⟩
      refine ⟨fun σ' H' => σ' = [some (.ref b), some (.int size), some (.ref D), some (.int size), none] ∧ H' = H1, ⟨_, rfl, _, .int size, rfl, .int size, _, rfl, iteF ⟨_, rfl, _, _, rfl, rfl, _, rfl, ite2 (fun c1 => ⟨_, _, rfl, rfl, _, rfl, ite2 (fun c2 => ?_) (fun c2 => ⟨rfl, rfl⟩)⟩) (fun c1 => ?_)⟩⟩, fun σ2 H2 e2 => ?_⟩
      · rw [decide_eq_true z2] at c2
        cases c2
      · exact absurd (decide_eq_true z1) c1
      obtain ⟨rfl, rfl⟩ := e2
      refine ⟨fun _ _ => False, ⟨_, rfl, .inl ⟨D, rows, _, _, _, rfl, .inl hD, .ty _, kit_ty (show kitB "dict" "dict" = some true by decide +kernel), _, rfl, iteF ⟨_, rfl, _, rfl, _, .int size, size, rfl, .int size, _, rfl, ite2 (fun c1 => q H2 (Same.refl H2)) (fun c1 => ?_)⟩⟩⟩, fun _ _ h => h.elim⟩
      have e : (Th.int size).bel size = false := by
        show (decide (0 ≤ size) && decide (size < size)) = false
        rw [decide_eq_false (Int.lt_irrefl size), Bool.and_false]
      rw [e] at c1
      exact absurd rfl c1
end
end Kt
namespace Kt
open PySem PySem.Spec PyProof.Rows L2
/-! ### what a term is worth -/
def Th.nm : Th → Str | .str z => z | _ => ""
def lookI (rows : List RowV) (rest : Int) (z : Str) (ns : List Int) : Int := match valM rows (kyA z ns) with | some (.int r) => r | _ => rest
mutual
def Th.wT (rows : List RowV) (rest : Int) : Th → Int
  | .tup l => wTT rows rest l
  | _ => 0
def wTT (rows : List RowV) (rest : Int) : List Th → Int
  | [] => 0
  | x :: ps => lookI rows rest x.nm (wTL rows rest ps)
def wTL (rows : List RowV) (rest : Int) : List Th → List Int
  | [] => []
  | p :: ps => p.wT rows rest :: wTL rows rest ps
end
theorem wTL_length (rows : List RowV) (rest : Int) : ∀ l : List Th, (wTL rows rest l).length = l.length
  | [] => rfl
  | p :: ps => congrArg Nat.succ (wTL_length rows rest ps)
theorem wTL_get {rows : List RowV} {rest : Int} : ∀ {l : List Th} {i : Nat} {t : Th}, l[i]? = some t → (wTL rows rest l).getD i 0 = t.wT rows rest
  | [], i, t, h => by simp at h
  | p :: ps, 0, t, h => by
    cases h
    rfl
  | p :: ps, i + 1, t, h => by
    have := wTL_get (rows := rows) (rest := rest) (l := ps) (i := i) (t := t) (by simpa using h)
    show ((p.wT rows rest :: wTL rows rest ps).getD (i + 1) 0) = _
    rw [List.getD_cons_succ]
    exact this
theorem range_getI {β : Type} {l : List Int} (p : Int → β) : ((List.range l.length).map fun i => p (l.getD i 0)) = l.map p := by
  apply List.ext_getElem
  · rw [List.length_map, List.length_map, List.length_range]
  · intro i h1 h2
    rw [List.length_map, List.length_range] at h1
    rw [List.getElem_map, List.getElem_map, List.getElem_range, List.getD_eq_getElem?_getD, List.getElem?_eq_getElem h1]
    rfl
theorem look_getD {H : Hp} {size : Int} {rows : List RowV} (h : ∀ x ∈ rows, RowA H size x) (rest : Int) (z : Str) (ns : List Int) : (valM rows (kyA z ns)).getD (.int rest) = .int (lookI rows rest z ns) := by
  unfold lookI
  cases e : valM rows (kyA z ns) with
  | none => rfl
  | some v =>
    obtain ⟨y, hy⟩ := valM_mem e
    obtain ⟨a, a2, z', ns', r, e', _⟩ := h _ hy
    have ev : v = .int r := congrArg (fun x : RowV => x.2.2) e'
    subst ev
    rfl
def sp_worth (w : World) (n : Nat) : Sp := fun vs H Q _ => ∃ (b : Addr) (size : Int) (D : Addr) (rows : List RowV) (rest : Int) (v u : V) (t : Th), vs = [.ref b, v, u] ∧ BoardA w H b size D rows rest ∧ Rep H v t ∧ t.shape false = true ∧ t.dep ≤ n ∧ ∀ H', Same H H' → Q (.int (t.wT rows rest)) H'
def sp_lworth (w : World) (n : Nat) : Sp := fun vs H Q _ => ∃ (b : Addr) (size : Int) (D : Addr) (rows : List RowV) (rest : Int) (v : V) (t : Th), vs = [.ref b, v] ∧ BoardA w H b size D rows rest ∧ Rep H v t ∧ t.shape false = true ∧ t.dep ≤ n ∧ ∀ H', Same H H' → Q (.int (t.wT rows rest)) H'
theorem depL_mem {m : Nat} : ∀ {l : List Th}, depL l ≤ m → ∀ t ∈ l, t.dep ≤ m
  | [], _, _, h => (List.not_mem_nil h).elim
  | p :: ps, h, t, ht => by
    have h : max p.dep (depL ps) ≤ m := h
    rcases List.mem_cons.mp ht with rfl | ht
    · omega
    · exact depL_mem (l := ps) (by omega) t ht
section
variable {P : Program} {w : World} {K : PySem.W.Frag} {mg : Str → Option Value} {base : Heap}
theorem c_worth_n (T : Tx K mg) : ∀ n : Nat, Cl P w K mg base CX0 (n + 1) "worth" ["table", "pattern", "worths"] (sp_worth w n)
  | 0 => Cl.no T.d_worth fun vs H Q E h => by
    obtain ⟨b, size, D, rows, rest, v, u, t, _, _, _, _, hd, _⟩ := h
    have := dep_pos t
    omega
  | n + 1 => by
    have ih := c_worth_n T n
    refine Cl.mk0 T.d_worth sc_worth (fun vs H Q E h => ?_) (fun f cdv A outer s H vs Q E hr h => ?_)
    · obtain ⟨b, size, D, rows, rest, v, u, t, rfl, _⟩ := h
      rfl
    obtain ⟨b, size, D, rows, rest, v, u, t, rfl, hB, r, sh, hd, q⟩ := h
    refine ⟨_, (pss_cons (ps_if (pt_val (pe_callB (id := "isinstance") (r := rIsi K) call_isi (by rfl) T.z_isinstance (by decide +kernel) (pa_cons (pv 1) (pa_cons (pe_bltn (v := .ty "str") (u := .type "str") (by rfl) T.z_str (by decide +kernel) rfl) pa_nil))))
      (pss_one (ps_ret (pe_dget (hu_of hr) (pv 2) (pv 1) (fun _ _ => rfl))))
      pss_nil)
    (pss_cons (ps_asg (pv 0) (pg_tup rfl (pgs_cons (pg_name (i := 3) sc_worth.nd rfl (Or.inl rfl)) (pgs_cons (pg_name (i := 4) sc_worth.nd rfl (Or.inl rfl)) (pgs_cons (pg_name (i := 5) sc_worth.nd rfl (Or.inl rfl)) pgs_nil)))))
    (pss_cons (ps_set (i := 6) sc_worth.nd rfl (Or.inl rfl) (pe_tup (pa_cons (pe_ix ix_tup (pv 1) pe_int (fun _ _ => rfl)) (pa_cons (pe_callTy call_tuple_of (by rfl) T.z_tuple (by decide +kernel) (pa_cons (pe_lc (own := [("part", 7)]) (g := gName 7) (tt := tYes) rfl sc_worth.nd (pi_tup (pe_slice sl_tupA (pv 1) (po_some pe_int) po_no)) (blkOk_by (own := [("part", 7)]) (N := ["table", "pattern", "worths", "_", "rows", "rest", "key", "part"]) (sc := defScope s_worth) (by decide +kernel)) (fun _ _ _ _ _ => (pg_name (i := 7) sc_worth.nd rfl (Or.inl rfl))) (fun _ _ _ _ _ => pts_nil) (fun _ _ _ _ _ => (pe_cl ih hr (by omega) rfl (pa_cons (pv 0) (pa_cons (pv 7) (pa_cons (pv 2) pa_nil)))))) pa_nil)) pa_nil))))
    (pss_one (ps_ret (pe_nget2 (hu_n hr) (pv 4) (pv 6) (pv 5) ⟨rfl, rfl, rfl, rfl⟩)))))), ?_⟩
    cases r with
    | @tup a xs l ha hn hl =>
      obtain ⟨z, ps, rfl, h4, h8, hall⟩ := shape_tup sh
      cases hl with
      | @cons y ys _ _ hx hps =>
        cases hx
        have hlen := hps.length
        refine ⟨_, rfl, _, _, _, _, _, rfl, .ty _, .base (.tup ha), kstr (.tup []), _, rfl, iteF ?_⟩
        refine ⟨_, rfl, b, _, rfl, SqT.of hB.hb, rfl, _, _, rfl, _, _, rfl, _, _, rfl, rfl, ?_⟩
        refine ⟨_, rfl, a, _, _, _, rfl, rfl, SqT.of ha, atI_nat (j := 0) rfl, ?_⟩
        refine ⟨_, rfl, 1, rfl, sl_lo (K := K) 1 ha (by omega) (by rw [List.length_cons]; omega) fun p hp => ?_⟩
        have s1 := same_new (o := .tup ys) hp
        refine ⟨p, rfl, ⟨_, SqT.of upd_same⟩, fun L hL => ?_⟩
        refine lc_pure (walk_tup (xs := ys)) (fun i => .int ((wTL rows rest ps).getD i 0)) hL (by omega) (fun H' s' => SqT.of (s' _ _ upd_same)) (fun _ => rfl) (fun j x Hx Hy hj sx y => ?_) (fun H3 s3 e3 => ?_)
        · obtain ⟨rfl, hx⟩ := y
          obtain ⟨t, ht, rt⟩ := hps.get' hx
          have tm := List.mem_of_getElem? ht
          have hdep : 1 + depL ps ≤ n + 1 := hd
          refine ⟨Same.refl _, fun Q' q' => ⟨_, rfl, _, rfl, _, rfl, b, size, D, rows, rest, x, u, t, rfl, hB.same (s1.trans sx), rt.wk (Wk.same (s1.trans sx)), hall t tm, depL_mem (by omega) t tm, fun H' s' => ?_⟩⟩
          have := q' H' s'
          rw [wTL_get ht] at this
          exact this
        · have e4 : H3 L = some (.lst ((wTL rows rest ps).map V.int)) := by
            rw [e3, ← range_getI V.int, wTL_length, hlen]
          refine ⟨L, _, rfl, .inl ⟨SqL.of e4, fun M hM => ⟨by show 2 ≤ sizeLine; decide, fun p2 hp2 => ?_⟩⟩⟩
          have s4 := same_new (o := .tup ((wTL rows rest ps).map V.int)) hM
          have s5 := same_new (o := .tup [.str z, .ref M]) hp2
          have S : Same H _ := s1.trans (s3.trans (s4.trans s5))
          have hB' := hB.same S
          have key : IsK _ (kyA z (wTL rows rest ps)) (.ref p2) := isK_of upd_same (s5 _ _ (upd_same (H := H3) (a := M)))
          refine ⟨_, rfl, D, rfl, ⟨rows, .inl hB'.hD, hB'.keys⟩, _, rfl, _, rfl, rows, _, ⟨.inl hB'.hD, hB'.keys⟩, key, ?_⟩
          rw [look_getD hB.rws]
          exact q _ S
    | _ => cases sh
theorem c_worth (T : Tx K mg) : Cl P w K mg base CX0 6 "worth" ["table", "pattern", "worths"] (sp_worth w 5) := c_worth_n T 5
theorem c__law_worth_n (T : Tx K mg) : ∀ n : Nat, Cl P w K mg base CX0 (n + 1) "_law_worth" ["_law_board", "_law_tree"] (sp_lworth w n)
  | 0 => Cl.no T.d__law_worth fun vs H Q E h => by
    obtain ⟨b, size, D, rows, rest, v, t, _, _, _, _, hd, _⟩ := h
    have := dep_pos t
    omega
  | n + 1 => by
    have ih := c__law_worth_n T n
    refine Cl.mk0 T.d__law_worth sc__law_worth (fun vs H Q E h => ?_) (fun f cdv A outer s H vs Q E hr h => ?_)
    · obtain ⟨b, size, D, rows, rest, v, t, rfl, _⟩ := h
      rfl
    obtain ⟨b, size, D, rows, rest, v, t, rfl, hB, r, sh, hd, q⟩ := h
    refine ⟨_, (pss_cons (ps_set (i := 2) sc__law_worth.nd rfl (Or.inl rfl) (pe_tup (pa_cons (pe_ix ix_tup (pv 1) pe_int (fun _ _ => rfl)) (pa_cons (pe_callTy call_tuple_of (by rfl) T.z_tuple (by decide +kernel) (pa_cons (pe_lc (own := [("_law_part", 3)]) (g := gName 3) (tt := tYes) rfl sc__law_worth.nd (pi_tup (pe_slice sl_tupA (pv 1) (po_some pe_int) po_no)) (blkOk_by (own := [("_law_part", 3)]) (N := ["_law_board", "_law_tree", "_law_place", "_law_part"]) (sc := defScope s__law_worth) (by decide +kernel)) (fun _ _ _ _ _ => (pg_name (i := 3) sc__law_worth.nd rfl (Or.inl rfl))) (fun _ _ _ _ _ => pts_nil) (fun _ _ _ _ _ => (pe_cl ih hr (by omega) rfl (pa_cons (pv 0) (pa_cons (pv 3) pa_nil))))) pa_nil)) pa_nil))))
    (pss_one (ps_ret (pe_ifExp (pt_cmp (pc_nin (hu_n hr) (pv 2) (pe_ix ix_tup (pv 0) pe_int (fun _ _ => rfl))) rfl) (pe_ngetW (w := w) (hu_n hr) (pe_ix ix_tup (pv 0) pe_int (fun _ _ => rfl)) (pv 2) (fun _ _ => rfl)) (pe_ix ix_tup (pv 0) pe_int (fun _ _ => rfl)))))), ?_⟩
    cases r with
    | @tup a xs l ha hn hl =>
      obtain ⟨z, ps, rfl, h4, h8, hall⟩ := shape_tup sh
      cases hl with
      | @cons y ys _ _ hx hps =>
        cases hx
        have hlen := hps.length
        refine ⟨_, rfl, a, _, _, _, rfl, rfl, SqT.of ha, atI_nat (j := 0) rfl, ?_⟩
        refine ⟨_, rfl, 1, rfl, sl_lo (K := K) 1 ha (by omega) (by rw [List.length_cons]; omega) fun p hp => ?_⟩
        have s1 := same_new (o := .tup ys) hp
        refine ⟨p, rfl, ⟨_, SqT.of upd_same⟩, fun L hL => ?_⟩
        refine lc_pure (walk_tup (xs := ys)) (fun i => .int ((wTL rows rest ps).getD i 0)) hL (by omega) (fun H' s' => SqT.of (s' _ _ upd_same)) (fun _ => rfl) (fun j x Hx Hy hj sx y => ?_) (fun H3 s3 e3 => ?_)
        · obtain ⟨rfl, hx⟩ := y
          obtain ⟨t, ht, rt⟩ := hps.get' hx
          have tm := List.mem_of_getElem? ht
          have hdep : 1 + depL ps ≤ n + 1 := hd
          refine ⟨Same.refl _, fun Q' q' => ⟨_, rfl, _, rfl, b, size, D, rows, rest, x, t, rfl, hB.same (s1.trans sx), rt.wk (Wk.same (s1.trans sx)), hall t tm, depL_mem (by omega) t tm, fun H' s' => ?_⟩⟩
          have := q' H' s'
          rw [wTL_get ht] at this
          exact this
        · have e4 : H3 L = some (.lst ((wTL rows rest ps).map V.int)) := by
            rw [e3, ← range_getI V.int, wTL_length, hlen]
          refine ⟨L, _, rfl, .inl ⟨SqL.of e4, fun M hM => ⟨by show 2 ≤ sizeLine; decide, fun p2 hp2 => ?_⟩⟩⟩
          have s4 := same_new (o := .tup ((wTL rows rest ps).map V.int)) hM
          have s5 := same_new (o := .tup [.str z, .ref M]) hp2
          have S : Same H _ := s1.trans (s3.trans (s4.trans s5))
          have hB' := hB.same S
          have key : IsK _ (kyA z (wTL rows rest ps)) (.ref p2) := isK_of upd_same (s5 _ _ (upd_same (H := H3) (a := M)))
          have lk := look_getD hB.rws rest z (wTL rows rest ps)
          refine ⟨_, rfl, _, rfl, b, _, _, _, rfl, rfl, SqT.of hB'.hb, atI_nat (j := 1) rfl, D, rows, _, rfl, ⟨.inl hB'.hD, hB'.keys⟩, key, _, rfl, ?_⟩
          cases ev : valM rows (kyA z (wTL rows rest ps)) with
          | some v =>
            rw [ev] at lk
            have lk : v = .int (lookI rows rest z (wTL rows rest ps)) := lk
            refine iteT ⟨_, rfl, b, _, _, _, rfl, rfl, SqT.of hB'.hb, atI_nat (j := 1) rfl, _, rfl, D, rows, _, v, rfl, ⟨.inl hB'.hD, hB'.keys⟩, key, ev, ?_⟩
            rw [lk]
            exact q _ S
          | none =>
            rw [ev] at lk
            have lk : V.int rest = .int (lookI rows rest z (wTL rows rest ps)) := lk
            refine iteF ⟨_, rfl, b, _, _, _, rfl, rfl, SqT.of hB'.hb, atI_nat (j := 2) rfl, ?_⟩
            rw [lk]
            exact q _ S
    | _ => cases sh
theorem c__law_worth (T : Tx K mg) : Cl P w K mg base CX0 6 "_law_worth" ["_law_board", "_law_tree"] (sp_lworth w 5) := c__law_worth_n T 5
end
end Kt
namespace Kt
open PySem PySem.Spec PyProof.Rows L2
/-! ### value and keeps, and what they refuse -/
def erE (mg : Str → Option Value) (x : Str) : Value := .ref (clsA mg x)
def pairT (t : Th) : Bool := match t with | .tup [x, y] => within false x && within false y | _ => false
def sp_is_pair : Sp := fun vs H Q _ => ∃ v t, vs = [v] ∧ Rep H v t ∧ ∀ H', Same H H' → Q (.bl (pairT t)) H'
def spx_rtable (w : World) (mg : Str → Option Value) : Sp := fun vs H Q E => (∃ b size D rows rest, vs = [.ref b] ∧ BoardA w H b size D rows rest ∧ ∀ H', Same H H' → Q .non H') ∨ ∃ v, vs = [v] ∧ BadB w H v ∧ Err E (erE mg "BadTable") H
def spx_rterm (mg : Str → Option Value) : Sp := fun vs H Q E => ∃ v t, vs = [v] ∧ Rep H v t ∧ (within false t = true → ∀ H', Same H H' → Q .non H') ∧ (within false t = false → Err E (erE mg "BadTerm") H)
def spx_value (w : World) (mg : Str → Option Value) : Sp := fun vs H Q E =>
  (∃ b size D rows rest v t, vs = [.ref b, v] ∧ BoardA w H b size D rows rest ∧ Rep H v t ∧ (within false t = true → ∀ H', Same H H' → Q (.int (t.wT rows rest)) H') ∧ (within false t = false → Err E (erE mg "BadTerm") H)) ∨
  ∃ b v, vs = [b, v] ∧ BadB w H b ∧ Err E (erE mg "BadTable") H
section
variable {P : Program} {w : World} {K : PySem.W.Frag} {mg : Str → Option Value} {base : Heap}
theorem c_is_pair (T : Tx K mg) : Cl P w K mg base CX0 10 "is_pair" ["thing"] sp_is_pair := by
  refine Cl.mk0 T.d_is_pair sc_is_pair (fun vs H Q E h => ?_) (fun f cdv A outer s H vs Q E hr h => ?_)
  · obtain ⟨v, t, rfl, _⟩ := h
    rfl
  obtain ⟨v, t, rfl, r, q⟩ := h
  refine ⟨_, (pss_one (ps_ret (pe_and (pe_callB (id := "isinstance") (r := rIsi K) call_isi (by rfl) T.z_isinstance (by decide +kernel) (pa_cons (pv 0) (pa_cons (pe_bltn (v := .ty "tuple") (u := .type "tuple") (by rfl) T.z_tuple (by decide +kernel) rfl) pa_nil))) (pe_and (pe_cmpR op_eq (pe_callB call_len (by rfl) T.z_len (by decide +kernel) (pa_cons (pv 0) pa_nil)) pe_int (nomark _)) (pe_and (pe_cl (c_is_term T) hr (by omega) rfl (pa_cons (pe_ix ix_tup (pv 0) pe_int (fun _ _ => rfl)) pa_nil)) (pe_one (pe_cl (c_is_term T) hr (by omega) rfl (pa_cons (pe_ix ix_tup (pv 0) pe_int (fun _ _ => rfl)) pa_nil)))))))), ?_⟩
  refine ⟨_, rfl, _, _, _, _, _, rfl, .ty _, r.tyx, ktup t, _, rfl, ?_⟩
  cases r with
  | @tup a xs l ha hn hl =>
    have hlen := hl.length
    refine iteT ⟨_, rfl, _, _, rfl, .inr ⟨_, SqT.of ha, rfl⟩, rfl, _, rfl, ite2 (fun c => ?_) (fun c => ?_)⟩
    · have c : ((xs.length : Nat) : Int) = 2 := V.int.inj (of_decide_eq_true c)
      cases hl with
      | nil => cases c
      | @cons v1 vs1 t1 ts1 r1 hl1 =>
        cases hl1 with
        | nil => cases c
        | @cons v2 vs2 t2 ts2 r2 hl2 =>
          cases hl2 with
          | cons r3 hl3 =>
            rw [List.length_cons, List.length_cons, List.length_cons] at c
            omega
          | nil =>
            refine ⟨_, rfl, a, _, _, _, rfl, rfl, SqT.of ha, atI_nat (j := 0) rfl, _, _, rfl, r1, fun H1 s1 => ⟨_, rfl, ?_⟩⟩
            have q' := fun H' (s : Same H H') => q H' s
            cases e1 : within false t1 with
            | true =>
              refine iteT ⟨_, rfl, a, _, _, _, rfl, rfl, SqT.of (s1 _ _ ha), atI_nat (j := 1) rfl, _, _, rfl, r2.wk (Wk.same s1), fun H2 s2 => ?_⟩
              have := q H2 (s1.trans s2)
              rw [show pairT (.tup [t1, t2]) = (within false t1 && within false t2) from rfl, e1, Bool.true_and] at this
              exact this
            | false =>
              have := q H1 s1
              rw [show pairT (.tup [t1, t2]) = (within false t1 && within false t2) from rfl, e1, Bool.false_and] at this
              exact iteF this
    · have e : pairT (.tup l) = false := by
        have c : ¬ decide (V.int (xs.length : Nat) = V.int 2) = true := c
        unfold pairT
        split
        · rename_i x y e
          cases e
          rw [hlen] at c
          exact absurd (decide_eq_true rfl) c
        · rfl
      have := q H (Same.refl H)
      rw [e] at this
      exact this
  | _ => exact iteF (q H (Same.refl H))
theorem cx_refuse_no_table (T : Tx K mg) (Z : ProgF P) : Cl P w K mg base (L2.CX P w) 5 "refuse_no_table" ["thing"] (spx_rtable w mg) := by
  refine Cl.mkX T.d_refuse_no_table sc_refuse_no_table (fun vs H Q E h => ?_) (fun f cdv A outer s H vs Q E hr h => ?_)
  · rcases h with ⟨b, size, D, rows, rest, rfl, _⟩ | ⟨v, rfl, _⟩ <;> rfl
  refine ⟨_, (pss_one (ps_if (pt_not (pt_val (pe_cl (c_is_table T) hr (by omega) rfl (pa_cons (pv 0) pa_nil))))
      (pss_one (ps_raise rfl (takes_of rfl rfl rfl rfl) (pmk_me (T.s_BadTable.ok T.me Z T.gs_BadTable) hr (by omega) rfl (pa_cons pe_str pa_nil))))
      pss_nil)), ?_⟩
  rcases h with ⟨b, size, D, rows, rest, rfl, hB, q⟩ | ⟨v, rfl, hB, q⟩
  · exact ⟨_, rfl, .inl ⟨b, size, D, rows, rest, rfl, hB, fun H' s' => ⟨_, rfl, iteF (q H' s')⟩⟩⟩
  · exact ⟨_, rfl, .inr ⟨v, rfl, hB, fun H' s' => ⟨_, rfl, iteT (me_goT (q.wk s'))⟩⟩⟩
theorem cx_refuse_no_term (T : Tx K mg) (Z : ProgF P) : Cl P w K mg base (L2.CX P w) 10 "refuse_no_term" ["thing"] (spx_rterm mg) := by
  refine Cl.mkX T.d_refuse_no_term sc_refuse_no_term (fun vs H Q E h => ?_) (fun f cdv A outer s H vs Q E hr h => ?_)
  · obtain ⟨v, t, rfl, _⟩ := h
    rfl
  obtain ⟨v, t, rfl, r, q1, q2⟩ := h
  refine ⟨_, (pss_one (ps_if (pt_not (pt_val (pe_cl (c_is_term T) hr (by omega) rfl (pa_cons (pv 0) pa_nil))))
      (pss_one (ps_raise rfl (takes_of rfl rfl rfl rfl) (pmk_me (T.s_BadTerm.ok T.me Z T.gs_BadTerm) hr (by omega) rfl (pa_cons pe_str pa_nil))))
      pss_nil)), ?_⟩
  refine ⟨_, rfl, v, t, rfl, r, fun H' s' => ⟨_, rfl, ?_⟩⟩
  cases e : within false t with
  | true => exact iteF (q1 e H' s')
  | false => exact iteT (me_goT ((q2 e).wk s'))
theorem cx_value (T : Tx K mg) (Z : ProgF P) : Cl P w K mg base (L2.CX P w) 11 "value" ["table", "term"] (spx_value w mg) := by
  refine Cl.mkX T.d_value sc_value (fun vs H Q E h => ?_) (fun f cdv A outer s H vs Q E hr h => ?_)
  · rcases h with ⟨b, size, D, rows, rest, v, t, rfl, _⟩ | ⟨b, v, rfl, _⟩ <;> rfl
  have cx_refuse_no_table := fun (T : Tx K mg) => cx_refuse_no_table (P := P) (w := w) (base := base) T
  have cx_refuse_no_term := fun (T : Tx K mg) => cx_refuse_no_term (P := P) (w := w) (base := base) T
  refine ⟨_, (pss_cons (ps_expr (pe_clS (cx_refuse_no_table T Z) hr (by omega) rfl (fun σ => passAt (takes_of rfl rfl rfl rfl) σ) (pa_cons (pv 0) pa_nil)))
    (pss_cons (ps_expr (pe_clS (cx_refuse_no_term T Z) hr (by omega) rfl (fun σ => passAt (takes_of rfl rfl rfl rfl) σ) (pa_cons (pv 1) pa_nil)))
    (pss_one (ps_ret (pe_cl (c_worth T) hr (by omega) rfl (pa_cons (pv 0) (pa_cons (pv 1) (pa_cons pe_dnewK pa_nil)))))))), ?_⟩
  rcases h with ⟨b, size, D, rows, rest, v, t, rfl, hB, r, q, qe⟩ | ⟨b, v, rfl, hB, q⟩
  · refine ⟨_, rfl, .inl ⟨b, size, D, rows, rest, rfl, hB, fun H1 s1 => ?_⟩⟩
    refine ⟨_, rfl, v, t, rfl, r.wk (Wk.same s1), fun e H2 s2 => ?_, fun e => (qe e).wk s1⟩
    have S := s1.trans s2
    obtain ⟨h1, h2, _⟩ := within_iff.mp e
    refine ⟨_, rfl, _, rfl, fun p hp => ?_⟩
    have s3 := S.trans (same_new (o := .dK []) hp)
    exact ⟨b, size, D, rows, rest, v, .ref p, t, rfl, hB.same s3, r.wk (Wk.same s3), h1, h2, fun H' s' => q e H' (s3.trans s')⟩
  · exact ⟨_, rfl, .inr ⟨b, rfl, hB, q⟩⟩
end
/-! ### keeps -/
def Th.isLs : Th → Bool | .ls => true | _ => false
theorem klist {K : PySem.W.Frag} : ∀ t : Th, PySem.W.kitOne K (.type t.ty) (.type "list") = some t.isLs
  | .non => kit_ty (show kitB "NoneType" "list" = some false by decide +kernel)
  | .bl _ => kit_ty (show kitB "bool" "list" = some false by decide +kernel)
  | .int _ => kit_ty (show kitB "int" "list" = some false by decide +kernel)
  | .str _ => kit_ty (show kitB "str" "list" = some false by decide +kernel)
  | .tup _ => kit_ty (show kitB "tuple" "list" = some false by decide +kernel)
  | .ls => kit_ty (show kitB "list" "list" = some true by decide +kernel)
  | .dc => kit_ty (show kitB "dict" "list" = some false by decide +kernel)
theorem kseq {K : PySem.W.Frag} (t : Th) : PySem.W.kitAny K (.type t.ty) [.type "list", .type "tuple"] = some (t.isLs || t.isTup) :=
  kitAny_cons (klist t) (fun h => kitAny_cons (ktup t) (fun h2 => by rw [h, h2]; exact kitAny_nil) (fun h2 => by rw [h2, Bool.or_true])) (fun h => by rw [h]; rfl)
def evenT (rows : List RowV) (rest : Int) (t : Th) : Bool := match t with | .tup [x, y] => decide (V.int (x.wT rows rest) = V.int (y.wT rows rest)) | _ => false
/-- a list or a tuple of things -/
def SqTh (H : Hp) (v : V) (ts : List Th) : Prop := ∃ (a : Addr) (xs : List V), v = .ref a ∧ (H a = some (.lst xs) ∨ H a = some (.tup xs)) ∧ xs.length ≤ 100 ∧ RepL H xs ts
theorem SqTh.same {H H' : Hp} {v : V} {ts : List Th} (h : SqTh H v ts) (s : Same H H') : SqTh H' v ts := by
  obtain ⟨a, xs, e, h1, h2, h3⟩ := h
  exact ⟨a, xs, e, h1.imp (s _ _) (s _ _), h2, h3.wk (Wk.same s)⟩
def spx_keeps (w : World) (mg : Str → Option Value) : Sp := fun vs H Q E =>
  (∃ b size D rows rest v ts, vs = [.ref b, v] ∧ BoardA w H b size D rows rest ∧ SqTh H v ts ∧ ((∀ t ∈ ts, pairT t = true) → ∀ H', Same H H' → Q (.bl ((ts.map (evenT rows rest)).all id)) H') ∧ ((∃ t ∈ ts, pairT t = false) → Err E (erE mg "BadTerms") H)) ∨
  (∃ b size D rows rest v t, vs = [.ref b, v] ∧ BoardA w H b size D rows rest ∧ Rep H v t ∧ t.isLs = false ∧ t.isTup = false ∧ Err E (erE mg "BadTerms") H) ∨
  ∃ b v, vs = [b, v] ∧ BadB w H b ∧ Err E (erE mg "BadTable") H
theorem range_getB {β : Type} {l : List Bool} (p : Bool → β) : ((List.range l.length).map fun i => p (l.getD i false)) = l.map p := by
  apply List.ext_getElem
  · rw [List.length_map, List.length_map, List.length_range]
  · intro i h1 h2
    rw [List.length_map, List.length_range] at h1
    rw [List.getElem_map, List.getElem_map, List.getElem_range, List.getD_eq_getElem?_getD, List.getElem?_eq_getElem h1]
    rfl
theorem pair_of {t : Th} (h : pairT t = true) : ∃ x y, t = .tup [x, y] ∧ within false x = true ∧ within false y = true := by
  unfold pairT at h
  split at h
  · rename_i x y
    rw [Bool.and_eq_true] at h
    exact ⟨x, y, rfl, h.1, h.2⟩
  · cases h
section
variable {P : Program} {w : World} {K : PySem.W.Frag} {mg : Str → Option Value} {base : Heap}
theorem cx_keeps (T : Tx K mg) (Z : ProgF P) : Cl P w K mg base (L2.CX P w) 12 "keeps" ["table", "pairs"] (spx_keeps w mg) := by
  refine Cl.mkX T.d_keeps sc_keeps (fun vs H Q E h => ?_) (fun f cdv A outer s H vs Q E hr h => ?_)
  · rcases h with ⟨b, size, D, rows, rest, v, ts, rfl, _⟩ | ⟨b, size, D, rows, rest, v, t, rfl, _⟩ | ⟨b, v, rfl, _⟩ <;> rfl
  have cx_refuse_no_table := fun (T : Tx K mg) => cx_refuse_no_table (P := P) (w := w) (base := base) T
  have c_worth := fun (T : Tx K mg) => c_worth (P := P) (w := w) (base := base) T
  refine ⟨_, (pss_cons (ps_expr (pe_clS (cx_refuse_no_table T Z) hr (by omega) rfl (fun σ => passAt (takes_of rfl rfl rfl rfl) σ) (pa_cons (pv 0) pa_nil)))
    (Evl.pss_cut (ps_if (PW.pt (pw_or (pt_not (pt_val (pe_callB (id := "isinstance") (r := rIsiT K) call_isiT (by rfl) T.z_isinstance (by decide +kernel) (pa_cons (pv 1) (pa_cons (pe_tup (pa_cons (pe_bltn (v := .ty "list") (u := .type "list") (by rfl) T.z_list (by decide +kernel) rfl) (pa_cons (pe_bltn (v := .ty "tuple") (u := .type "tuple") (by rfl) T.z_tuple (by decide +kernel) rfl) pa_nil))) pa_nil))))) (pw_or1 (pt_not (pt_val (pe_callB (cr_all rfl) (by rfl) T.z_all (by decide +kernel) (pa_cons (pe_lc (own := [("pair", 4)]) (g := gName 4) (tt := tYes) rfl sc_keeps.nd (pi_eith (pv 1)) (blkOk_by (own := [("pair", 4)]) (N := ["table", "pairs", "one", "other", "pair"]) (sc := defScope s_keeps) (by decide +kernel)) (fun _ _ _ _ _ => (pg_name (i := 4) sc_keeps.nd rfl (Or.inl rfl))) (fun _ _ _ _ _ => pts_nil) (fun _ _ _ _ _ => (pe_cl (c_is_pair T) hr (by omega) rfl (pa_cons (pv 4) pa_nil)))) pa_nil)))))))
      (pss_one (ps_raise rfl (takes_of rfl rfl rfl rfl) (pmk_me (T.s_BadTerms.ok T.me Z T.gs_BadTerms) hr (by omega) rfl (pa_cons pe_str pa_nil))))
      pss_nil)
    (pss_one (ps_ret (pe_callB (cr_all rfl) (by rfl) T.z_all (by decide +kernel) (pa_cons (pe_lc (own := [("one", 2), ("other", 3)]) (g := gTup K 2 (gCons (gName 2) (gCons (gName 3) (gNil)))) (tt := tYes) rfl sc_keeps.nd (pi_eith (pv 1)) (blkOk_by (own := [("one", 2), ("other", 3)]) (N := ["table", "pairs", "one", "other", "pair"]) (sc := defScope s_keeps) (by decide +kernel)) (fun _ _ _ _ _ => (pg_tup rfl (pgs_cons (pg_name (i := 2) sc_keeps.nd rfl (Or.inl rfl)) (pgs_cons (pg_name (i := 3) sc_keeps.nd rfl (Or.inl rfl)) pgs_nil)))) (fun _ _ _ _ _ => pts_nil) (fun _ _ _ _ _ => (pe_cmpR op_eq (pe_cl (c_worth T) hr (by omega) rfl (pa_cons (pv 0) (pa_cons (pv 2) (pa_cons pe_dnewK pa_nil)))) (pe_cl (c_worth T) hr (by omega) rfl (pa_cons (pv 0) (pa_cons (pv 3) (pa_cons pe_dnewK pa_nil)))) (nomark _)))) pa_nil)))))), ?_⟩
  rcases h with ⟨b, size, D, rows, rest, v, ts, rfl, hB, hs, q, qe⟩ | ⟨b, size, D, rows, rest, v, t, rfl, hB, r, e1, e2, qe⟩ | ⟨b, v, rfl, hB, q⟩
  · refine ⟨_, rfl, .inl ⟨b, size, D, rows, rest, rfl, hB, fun H1 s1 => ?_⟩⟩
    obtain ⟨a, xs, rfl, h1, few, rl⟩ := hs.same s1
    have hlen := rl.length
    have ty : ∃ t : Th, (t.isLs || t.isTup) = true ∧ ∀ H2, Same H1 H2 → TyX K H2 (.ref a) (.type t.ty) := by
      rcases h1 with h | h
      · exact ⟨.ls, rfl, fun H2 s => .base (.lst (s _ _ h))⟩
      · exact ⟨.tup [], rfl, fun H2 s => .base (.tup (s _ _ h))⟩
    obtain ⟨t, et, ty⟩ := ty
    refine ⟨fun σ' H' => σ' = [some (.ref b), some (.ref a), none, none, none] ∧ Same H1 H' ∧ ∀ t ∈ ts, pairT t = true, ⟨_, rfl, by show 2 ≤ sizeLine; decide, fun tp htp => ⟨_, tp, _, _, _, _, rfl, upd_same, .cons (.ty _) (.cons (.ty _) .nil), ty _ (same_new htp _), kseq t, _, rfl, ?_⟩⟩, fun σ2 H2 e2 => ?_⟩
    · rw [et]
      refine iteF ?_
      have s2 := same_new (o := .tup [.ty "list", .ty "tuple"]) htp
      refine iEith.of (fun Q' q' => ⟨_, rfl, q'⟩) (h1.imp (s2 _ _) (s2 _ _)) (fun J G wk hG => fun L hL => ?_)
      refine lc_pure wk (fun i => .bl ((ts.map pairT).getD i false)) hL (by omega) hG (fun _ => rfl) (fun j x Hx Hy hj sx y => ?_) (fun H3 s3 e3 => ?_)
      · obtain ⟨rfl, hx⟩ := y
        obtain ⟨t1, ht, rt⟩ := rl.get' hx
        refine ⟨Same.refl _, fun Q' q' => ⟨_, rfl, x, t1, rfl, rt.wk (Wk.same (s2.trans sx)), fun H' s' => ?_⟩⟩
        have := q' H' s'
        rw [List.getD_eq_getElem?_getD, List.getElem?_map, ht] at this
        exact this
      · have e4 : H3 L = some (.lst ((ts.map pairT).map V.bl)) := by
          rw [e3, ← range_getB V.bl, List.length_map, hlen]
        refine ⟨L, ts.map pairT, rfl, SqL.of e4, _, rfl, ?_⟩
        cases ea : (ts.map pairT).all id with
        | true =>
          refine iteF ⟨rfl, s2.trans s3, fun t ht => ?_⟩
          exact List.all_eq_true.mp ea _ (List.mem_map.mpr ⟨t, ht, rfl⟩)
        | false =>
          obtain ⟨x, hx, nx⟩ := List.all_eq_false.mp ea
          obtain ⟨t, ht, rfl⟩ := List.mem_map.mp hx
          exact iteT (me_goT ((qe ⟨t, ht, Bool.eq_false_iff.mpr nx⟩).wk (s1.trans (s2.trans s3))))
    · obtain ⟨rfl, s2, hall⟩ := e2
      refine iEith.of (fun Q' q' => ⟨_, rfl, q'⟩) (h1.imp (s2 _ _) (s2 _ _)) (fun J G wk hG => fun L hL => ?_)
      refine lc_it wk (fun i H' => Same H2 H' ∧ H' L = some (.lst (((ts.take i).map (evenT rows rest)).map V.bl))) ⟨same_new hL _, upd_same⟩ (fun i H' _ k => hG _ k.1) (fun j x Hx Hy hj k y => ?_) (fun H3 k => ?_)
      · obtain ⟨rfl, hx⟩ := y
        obtain ⟨sx, hLx⟩ := k
        obtain ⟨t1, ht, rt⟩ := rl.get' hx
        obtain ⟨x', y', rfl, wx, wy⟩ := pair_of (hall t1 (List.mem_of_getElem? ht))
        have rt := rt.wk (Wk.same (s2.trans sx))
        obtain ⟨x1, x2, _⟩ := within_iff.mp wx
        obtain ⟨y1, y2, _⟩ := within_iff.mp wy
        cases rt with
        | @tup p ps _ hp hn hl =>
          cases hl with
          | @cons v1 vs1 _ _ r1 hl1 =>
            cases hl1 with
            | @cons v2 vs2 _ _ r2 hl2 =>
              cases hl2
              have S0 := s1.trans (s2.trans sx)
              refine ⟨p, _, rfl, SqT.of hp, rfl, _, _, rfl, _, _, rfl, rfl, rfl, yesI ⟨_, rfl, _, rfl, fun d1 hd1 => ?_⟩⟩
              have s3 := same_new (o := .dK []) hd1
              refine ⟨b, size, D, rows, rest, v1, .ref d1, x', rfl, hB.same (S0.trans s3), r1.wk (Wk.same s3), x1, x2, fun H5 s5 => ⟨_, rfl, _, rfl, fun d2 hd2 => ?_⟩⟩
              have s6 := s3.trans (s5.trans (same_new (o := .dK []) hd2))
              refine ⟨b, size, D, rows, rest, v2, .ref d2, y', rfl, hB.same (S0.trans s6), r2.wk (Wk.same s6), y1, y2, fun H7 s7 => ⟨rfl, ?_⟩⟩
              have s8 := s6.trans s7
              refine ⟨_, s8 _ _ hLx, small1000 (by rw [List.length_map, List.length_map, List.length_take]; omega), Same.mut (sx.trans s8) hL, ?_⟩
              rw [upd_same, List.take_add_one, ht, List.map_append, List.map_append]
              rfl
      · obtain ⟨s3, e3⟩ := k
        rw [hlen, List.take_length] at e3
        exact ⟨L, ts.map (evenT rows rest), rfl, SqL.of e3, q hall H3 (s1.trans (s2.trans s3))⟩
  · refine ⟨_, rfl, .inl ⟨b, size, D, rows, rest, rfl, hB, fun H1 s1 => ?_⟩⟩
    refine ⟨fun _ _ => False, ⟨_, rfl, by show 2 ≤ sizeLine; decide, fun tp htp => ⟨_, tp, _, _, _, _, rfl, upd_same, .cons (.ty _) (.cons (.ty _) .nil), (r.wk (Wk.same (s1.trans (same_new htp _)))).tyx, kseq t, _, rfl, ?_⟩⟩, fun _ _ h => h.elim⟩
    rw [e1, e2]
    exact iteT (iteT (me_goT (qe.wk (s1.trans (same_new htp _)))))
  · exact ⟨_, rfl, .inr ⟨b, rfl, hB, q⟩⟩
end
end Kt
namespace Kt
open PySem PySem.Spec PyProof.Rows L2
/-! ### a list of bools that are counted -/
def isTr (v : Value) : Bool := match v with
  | .bool b => b
  | _ => false
def rCntB (K : PySem.W.Frag) : V → List V → Hp → VK → Prop := fun x xs H Q => ∃ (p : Addr) (bs : List Bool), x = .ref p ∧ xs = [.bl true] ∧ SqL K H p (bs.map V.bl) ∧ Q (.int (bs.count true : Nat)) H
theorem bls_of_vals : ∀ {bs : List Bool} {us : List Value}, Vals (bs.map V.bl) us → us = bs.map Value.bool
  | [], us, r => by
    rw [List.map_nil] at r
    cases r
    rfl
  | b :: bs, us, r => by
    rw [List.map_cons] at r
    cases r with
    | cons h r2 =>
      cases h
      rw [bls_of_vals r2]
      rfl
theorem mt_lcountB {X : Cx} : MtR X "list.count" (rCntB X.K) := by
  intro pins s σ H x xs v us Q I rx rxs h
  obtain ⟨p, bs, rfl, rfl, hs, q⟩ := h
  cases rx
  obtain ⟨u, rfl, ru⟩ := rxs.one
  cases ru
  obtain ⟨its, rv, ⟨⟨cls, dd, data, sl⟩, n, ho, hc, hdn, hd⟩, hlen⟩ := I.list hs
  simp only at hc hd
  subst hc hd
  have hi := bls_of_vals rv
  subst hi
  refine call_meets PySem.F.slot_list_count ⟨_, ho, rfl⟩ PySem.F.entry_list_count (PySem.F.args_list_count_2 _ _)
    (SeqAt.list_countAt p (bs.map Value.bool).toArray n dd sl (.bool true) isTr) ⟨ho, fun y hy => ?_, ?_⟩
  · obtain ⟨b, _, rfl⟩ := List.mem_map.mp (show y ∈ bs.map Value.bool by simpa using hy)
    have := SeqAt.EqAt.bool_bool (A := X.A.in1) (s := s) b true
    rw [show (b == true) = isTr (Value.bool b) by cases b <;> rfl] at this
    exact this
  have ec : (bs.map Value.bool).toArray.toList.countP isTr = bs.count true := by
    show (bs.map Value.bool).countP isTr = bs.count true
    rw [List.countP_map]
    refine List.countP_congr fun b _ => ?_
    show isTr (Value.bool b) = true ↔ (b == true) = true
    cases b <;> exact Iff.rfl
  refine ⟨.int (bs.count true : Nat), H, I.tok _, ⟨s.toks, ?_⟩, q⟩
  show Value.int (((bs.map Value.bool).toArray.toList.countP isTr : Nat) : Int) s.toks = Value.int ((bs.count true : Nat) : Int) s.toks
  rw [ec]
end Kt
namespace Kt
open PySem PySem.Spec PyProof.Rows L2
/-! ### what the law is told -/
def fourW : List Str := ["table", "term", "terms", "pattern"]
/-- a kept error and the word for it -/
def ErrW (K : PySem.W.Frag) (mg : Str → Option Value) (H : Hp) (a : Addr) (out : V) : Prop :=
  ∃ (D : Addr) (o : Option Addr) (b1 b2 b3 b4 : Bool) (j : Nat) (x : Str), ExcC K D ∧ H a = some (ExK (.ref D) o a) ∧ (o = none ∨ ∃ dd fs, o = some dd ∧ H dd = some (.xd fs)) ∧
    PySem.W.kitOne K (.ref D) (.ref (clsA mg "BadTable")) = some b1 ∧ PySem.W.kitOne K (.ref D) (.ref (clsA mg "BadTerm")) = some b2 ∧ PySem.W.kitOne K (.ref D) (.ref (clsA mg "BadTerms")) = some b3 ∧ PySem.W.kitOne K (.ref D) (.ref (clsA mg "BadPattern")) = some b4 ∧
    [b1, b2, b3, b4].count true = 1 ∧ [b1, b2, b3, b4][j]? = some true ∧ (∀ m, m < j → [b1, b2, b3, b4][m]? = some false) ∧ fourW[j]? = some x ∧ out = .str x
theorem is_of {K : PySem.W.Frag} {H : Hp} {a D : Addr} {o : Option Addr} {c : V} {cv : Value} {b : Bool} {Q : VK} (x : ExcC K D) (e : H a = some (ExK (.ref D) o a)) (f : o = none ∨ ∃ dd fs, o = some dd ∧ H dd = some (.xd fs)) (named : ∀ u, RelV c u → u = cv) (k : PySem.W.kitOne K (.ref D) cv = some b) (q : Q (.bl b) H) : rIsK K [.ref a, c] H Q ∨ rIsKd K [.ref a, c] H Q := by
  rcases f with rfl | ⟨dd, fs, rfl, hd⟩
  · exact .inl ⟨a, D, c, cv, b, rfl, x, e, named, k, q⟩
  · exact .inr ⟨a, D, dd, fs, c, cv, b, rfl, x, e, hd, named, k, q⟩
theorem xd_same {H H' : Hp} {o : Option Addr} (s : Same H H') (f : o = none ∨ ∃ dd fs, o = some dd ∧ H dd = some (.xd fs)) : o = none ∨ ∃ dd fs, o = some dd ∧ H' dd = some (.xd fs) := by
  rcases f with rfl | ⟨dd, fs, rfl, hd⟩
  · exact .inl rfl
  · exact .inr ⟨dd, fs, rfl, s _ _ hd⟩
/-- what is due -/
def SaidAt (w : World) (H : Hp) (door : Int) (b v out : V) : Prop :=
  (door = 0 ∧ ((∃ bb size D rows rest t, b = .ref bb ∧ BoardA w H bb size D rows rest ∧ Rep H v t ∧ ((within false t = true ∧ out = .int (t.wT rows rest)) ∨ (within false t = false ∧ out = .str "term"))) ∨ (BadB w H b ∧ out = .str "table"))) ∨
  (door = 1 ∧ ((∃ bb size D rows rest ts, b = .ref bb ∧ BoardA w H bb size D rows rest ∧ SqTh H v ts ∧ (((∀ t ∈ ts, pairT t = true) ∧ out = .bl ((ts.map (evenT rows rest)).all id)) ∨ ((∃ t ∈ ts, pairT t = false) ∧ out = .str "terms"))) ∨
    (∃ bb size D rows rest t, b = .ref bb ∧ BoardA w H bb size D rows rest ∧ Rep H v t ∧ t.isLs = false ∧ t.isTup = false ∧ out = .str "terms") ∨ (BadB w H b ∧ out = .str "table")))
def sp_said (w : World) : Sp := fun vs H Q _ => ∃ door b v out, vs = [.int door, b, v] ∧ SaidAt w H door b v out ∧ ∀ H', Same H H' → Q out H'
theorem some_bad {ts : List Th} (h : ¬ ∀ t ∈ ts, pairT t = true) : ∃ t ∈ ts, pairT t = false := by
  refine Classical.byContradiction fun n => h fun t ht => ?_
  cases e : pairT t with
  | true => rfl
  | false => exact (n ⟨t, ht, e⟩).elim
section
variable {P : Program} {w : World} {K : PySem.W.Frag} {mg : Str → Option Value} {base : Heap}
theorem cs_keeps_sw (T : Tx K mg) (Z : ProgF P) : ClSX P w K mg base 12 "keeps" "table" "pairs" (spx_keeps w mg) := by
  obtain ⟨f, fd, ok, m, kp, b, oc, od, osl, lk⟩ := (cx_keeps (P := P) (w := w) (base := base) T Z).ex
  obtain ⟨f', fd', F', m', b'⟩ := T.d_keeps.ex
  rw [m] at m'
  cases m'
  obtain ⟨oc', od', kV, doc, pm, an, cdv, ct, osl', rfl, lk', _⟩ := F'.ex
  rw [lk] at lk'
  cases lk'
  exact ⟨f, _, ok, m, kp, fun s u v => .of_eq rfl⟩
theorem c__law_said (T : Tx K mg) (Z : ProgF P) : Cl P w K mg base CX0 14 "_law_said" ["_law_door", "_law_board", "_law_thing"] (sp_said w) := by
  have cx_value := fun (T : Tx K mg) => cx_value (P := P) (w := w) (base := base) T
  have cs_keeps_sw := fun (T : Tx K mg) => cs_keeps_sw (P := P) (w := w) (base := base) T
  refine Cl.mk0 T.d__law_said sc__law_said (fun vs H Q E h => ?_) (fun f cdv A outer s H vs Q E hr h => ?_)
  · obtain ⟨door, b, v, out, rfl, _⟩ := h
    rfl
  obtain ⟨door, b, v, out, rfl, hs, q⟩ := h
  refine ⟨_, (pss_cons (ps_asg (pe_tup (pa_cons pe_non (pa_cons pe_non pa_nil))) (pg_tup rfl (pgs_cons (pg_name (i := 3) sc__law_said.nd rfl (Or.inl rfl)) (pgs_cons (pg_name (i := 4) sc__law_said.nd rfl (Or.inl rfl)) pgs_nil))))
    (Evl.pss_cut (ps_try_val (i := 5) rfl rfl rfl sc__law_said.nd rfl rfl ⟨rfl, by decide, .inl T.e_MatchError.g⟩ (fun W pn xe tk _ => (pss_one (ps_set (i := 3) sc__law_said.nd rfl (Or.inl rfl) (pe_ifExp (pt_cmpR op_eq (pv 0) pe_int (nomark _)) (pe_clS (cx_value T Z) hr (by omega) rfl (fun σ => passAt tk σ) (pa_cons (pv 1) (pa_cons (pv 2) pa_nil))) (pe_clSwX (cs_keeps_sw T Z) hr (by omega) rfl (fun σ => passAt tk σ) (pk_cons (pv 2) (pk_cons (pv 1) pk_nil)))))))
      (fun a oe cls d pn _ _ => (pss_one (ps_set (i := 4) sc__law_said.nd rfl (Or.inl rfl) (pv 5)))))
    (pss_cons (ps_if (pt_cmpR op_isN (pv 4) pe_non (nomark _))
      (pss_one (ps_ret (pv 3)))
      pss_nil)
    (pss_cons (ps_set (i := 6) sc__law_said.nd rfl (Or.inl rfl) (pe_lst (pa_cons (pe_callB (id := "isinstance") (r := fun xs H Q => rIsK K xs H Q ∨ rIsKd K xs H Q) (CallR.either call_isK call_isKd) (by rfl) T.z_isinstance (by decide +kernel) (pa_cons (pv 4) (pa_cons (pe_glob (v := .ref (clsA mg "BadTable")) (by rfl) T.e_BadTable.g rfl) pa_nil))) (pa_cons (pe_callB (id := "isinstance") (r := fun xs H Q => rIsK K xs H Q ∨ rIsKd K xs H Q) (CallR.either call_isK call_isKd) (by rfl) T.z_isinstance (by decide +kernel) (pa_cons (pv 4) (pa_cons (pe_glob (v := .ref (clsA mg "BadTerm")) (by rfl) T.e_BadTerm.g rfl) pa_nil))) (pa_cons (pe_callB (id := "isinstance") (r := fun xs H Q => rIsK K xs H Q ∨ rIsKd K xs H Q) (CallR.either call_isK call_isKd) (by rfl) T.z_isinstance (by decide +kernel) (pa_cons (pv 4) (pa_cons (pe_glob (v := .ref (clsA mg "BadTerms")) (by rfl) T.e_BadTerms.g rfl) pa_nil))) pa_nil)))))
    (pss_cons (ps_set (i := 6) sc__law_said.nd rfl (Or.inl rfl) (pe_op op_cat (pv 6) (pe_lst (pa_cons (pe_callB (id := "isinstance") (r := fun xs H Q => rIsK K xs H Q ∨ rIsKd K xs H Q) (CallR.either call_isK call_isKd) (by rfl) T.z_isinstance (by decide +kernel) (pa_cons (pv 4) (pa_cons (pe_glob (v := .ref (clsA mg "BadPattern")) (by rfl) T.g_BadPattern rfl) pa_nil))) pa_nil))))
    (pss_one (ps_ret (pe_ifExp (pt_cmpR op_eq (pe_bm PySem.F.plainAttrs_list PySem.F.slot_list_count PySem.F.type_list_count mt_lcountB (pv 6) (pa_cons pe_bl pa_nil)) pe_int (nomark _)) (pe_ix ix_list (pe_lst (pa_cons pe_str (pa_cons pe_str (pa_cons pe_str (pa_cons pe_str pa_nil))))) (pe_bm PySem.F.plainAttrs_list PySem.F.slot_list_index PySem.F.type_list_index (mt_indexD (room65 hr)) (pv 6) (pa_cons pe_bl pa_nil)) (fun _ _ => rfl)) pe_str)))))))), ?_⟩
  have l1 : 1 ≤ sizeLine := by decide
  have l2 : 2 ≤ sizeLine := by decide
  have l3 : 3 ≤ sizeLine := by decide
  have l4 : 4 ≤ sizeLine := by decide
  refine ⟨l2, fun p0 hp0 => ?_⟩
  have s0 := same_new (o := .tup [.non, .non]) hp0
  refine ⟨p0, [.non, .non], rfl, SqT.of upd_same, rfl, _, _, rfl, _, _, rfl, rfl, ?_⟩
  refine ⟨fun σ' H' => ∃ fo er, σ' = [some (.int door), some b, some v, some fo, some er, none, none] ∧ Same H H' ∧ ((er = .non ∧ fo = out) ∨ ∃ a, er = .ref a ∧ ErrW K mg H' a out), ?_, fun σ1 H1 e1 => ?_⟩
  · rcases hs with ⟨rfl, hs⟩ | ⟨rfl, hs⟩
    · refine ⟨_, rfl, rfl, _, rfl, ?_⟩
      rw [decide_eq_true rfl]
      refine iteT ⟨_, rfl, _, rfl, ?_⟩
      rcases hs with ⟨bb, size, D, rows, rest, t, rfl, hB, r, ho⟩ | ⟨hB, rfl⟩
      · refine .inl ⟨bb, size, D, rows, rest, v, t, rfl, hB.same s0, r.wk (Wk.same s0), fun e H' s' => ?_, fun e dd yy H' s' hdd => ?_⟩
        · rcases ho with ⟨_, rfl⟩ | ⟨e2, _⟩
          · exact ⟨_, .non, rfl, s0.trans s', .inl ⟨rfl, rfl⟩⟩
          · rw [e] at e2
            cases e2
        · rcases ho with ⟨e2, _⟩ | ⟨_, rfl⟩
          · rw [e] at e2
            cases e2
          · exact ⟨exm_kitG T.e_MatchError T.k_BadTerm_MatchError, fun a ha => ⟨_, rfl, _, _, rfl, (s0.trans s').trans (same_new ha _), .inr ⟨a, rfl, clsA mg "BadTerm", some dd, false, true, false, false, 1, "term", T.x_BadTerm, upd_same, .inr ⟨dd, _, rfl, (same_new (o := ExK _ (some dd) a) ha) _ _ hdd⟩, T.k_BadTerm_BadTable, T.k_BadTerm_BadTerm, T.k_BadTerm_BadTerms, T.k_BadTerm_BadPattern, rfl, rfl, fun m hm => match m, hm with | 0, _ => rfl, rfl, rfl⟩⟩⟩
      · refine .inr ⟨b, v, rfl, hB.same s0, fun dd yy H' s' hdd => ?_⟩
        exact ⟨exm_kitG T.e_MatchError T.k_BadTable_MatchError, fun a ha => ⟨_, rfl, _, _, rfl, (s0.trans s').trans (same_new ha _), .inr ⟨a, rfl, clsA mg "BadTable", some dd, true, false, false, false, 0, "table", T.x_BadTable, upd_same, .inr ⟨dd, _, rfl, (same_new (o := ExK _ (some dd) a) ha) _ _ hdd⟩, T.k_BadTable_BadTable, T.k_BadTable_BadTerm, T.k_BadTable_BadTerms, T.k_BadTable_BadPattern, rfl, rfl, fun m hm => absurd hm (Nat.not_lt_zero m), rfl, rfl⟩⟩⟩
    · refine ⟨_, rfl, rfl, _, rfl, ?_⟩
      rw [decide_eq_false (fun h => by cases h)]
      refine iteF ⟨_, rfl, _, rfl, _, _, rfl, ?_⟩
      rcases hs with ⟨bb, size, D, rows, rest, ts, rfl, hB, hq, ho⟩ | ⟨bb, size, D, rows, rest, t, rfl, hB, r, e1, e2, rfl⟩ | ⟨hB, rfl⟩
      · refine .inl ⟨bb, size, D, rows, rest, v, ts, rfl, hB.same s0, hq.same s0, fun e H' s' => ?_, fun e dd yy H' s' hdd => ?_⟩
        · rcases ho with ⟨_, rfl⟩ | ⟨⟨t, ht, e2⟩, _⟩
          · exact ⟨_, .non, rfl, s0.trans s', .inl ⟨rfl, rfl⟩⟩
          · rw [e t ht] at e2
            cases e2
        · rcases ho with ⟨e2, _⟩ | ⟨_, rfl⟩
          · obtain ⟨t, ht, e⟩ := e
            rw [e2 t ht] at e
            cases e
          · exact ⟨exm_kitG T.e_MatchError T.k_BadTerms_MatchError, fun a ha => ⟨_, rfl, _, _, rfl, (s0.trans s').trans (same_new ha _), .inr ⟨a, rfl, clsA mg "BadTerms", some dd, false, false, true, false, 2, "terms", T.x_BadTerms, upd_same, .inr ⟨dd, _, rfl, (same_new (o := ExK _ (some dd) a) ha) _ _ hdd⟩, T.k_BadTerms_BadTable, T.k_BadTerms_BadTerm, T.k_BadTerms_BadTerms, T.k_BadTerms_BadPattern, rfl, rfl, fun m hm => match m, hm with | 0, _ => rfl | 1, _ => rfl, rfl, rfl⟩⟩⟩
      · refine .inr (.inl ⟨bb, size, D, rows, rest, v, t, rfl, hB.same s0, r.wk (Wk.same s0), e1, e2, fun dd yy H' s' hdd => ?_⟩)
        exact ⟨exm_kitG T.e_MatchError T.k_BadTerms_MatchError, fun a ha => ⟨_, rfl, _, _, rfl, (s0.trans s').trans (same_new ha _), .inr ⟨a, rfl, clsA mg "BadTerms", some dd, false, false, true, false, 2, "terms", T.x_BadTerms, upd_same, .inr ⟨dd, _, rfl, (same_new (o := ExK _ (some dd) a) ha) _ _ hdd⟩, T.k_BadTerms_BadTable, T.k_BadTerms_BadTerm, T.k_BadTerms_BadTerms, T.k_BadTerms_BadPattern, rfl, rfl, fun m hm => match m, hm with | 0, _ => rfl | 1, _ => rfl, rfl, rfl⟩⟩⟩
      · refine .inr (.inr ⟨b, v, rfl, hB.same s0, fun dd yy H' s' hdd => ?_⟩)
        exact ⟨exm_kitG T.e_MatchError T.k_BadTable_MatchError, fun a ha => ⟨_, rfl, _, _, rfl, (s0.trans s').trans (same_new ha _), .inr ⟨a, rfl, clsA mg "BadTable", some dd, true, false, false, false, 0, "table", T.x_BadTable, upd_same, .inr ⟨dd, _, rfl, (same_new (o := ExK _ (some dd) a) ha) _ _ hdd⟩, T.k_BadTable_BadTable, T.k_BadTable_BadTerm, T.k_BadTable_BadTerms, T.k_BadTable_BadPattern, rfl, rfl, fun m hm => absurd hm (Nat.not_lt_zero m), rfl, rfl⟩⟩⟩
  obtain ⟨fo, er, rfl, sH, e⟩ := e1
  rcases e with ⟨rfl, rfl⟩ | ⟨a, rfl, D, o, b1, b2, b3, b4, j, x, hx, ha, hd, k1, k2, k3, k4, cnt, at_, bef, nm, rfl⟩
  · refine ⟨_, rfl, rfl, _, rfl, ?_⟩
    rw [decide_eq_true rfl]
    exact iteT ⟨_, rfl, q H1 sH⟩
  refine ⟨_, rfl, rfl, _, rfl, ?_⟩
  rw [decide_eq_false (fun h => by cases h)]
  refine iteF ⟨_, rfl, is_of hx ha hd (fun u h => h) k1 ⟨_, rfl, is_of hx ha hd (fun u h => h) k2 ⟨_, rfl, is_of hx ha hd (fun u h => h) k3 ⟨l3, fun p hp => ?_⟩⟩⟩⟩
  have sp := same_new (o := .lst [.bl b1, .bl b2, .bl b3]) hp
  refine ⟨_, rfl, _, rfl, is_of hx (sp _ _ ha) (xd_same sp hd) (fun u h => h) k4 ⟨l1, fun p1 hp1 => ?_⟩⟩
  have sp1 := same_new (o := .lst [.bl b4]) hp1
  refine ⟨p, p1, [.bl b1, .bl b2, .bl b3], [.bl b4], rfl, rfl, sp1 _ _ upd_same, upd_same, l4, fun p2 hp2 => ?_⟩
  have sp2 := (sp.trans sp1).trans (same_new (o := .lst ([.bl b1, .bl b2, .bl b3] ++ [.bl b4])) hp2)
  have h2 : (upd (upd (upd H1 p (.lst [.bl b1, .bl b2, .bl b3])) p1 (.lst [.bl b4])) p2 (.lst ([.bl b1, .bl b2, .bl b3] ++ [.bl b4]))) p2 = some (.lst ([b1, b2, b3, b4].map V.bl)) := upd_same
  generalize upd (upd (upd H1 p (.lst [.bl b1, .bl b2, .bl b3])) p1 (.lst [.bl b4])) p2 (.lst ([.bl b1, .bl b2, .bl b3] ++ [.bl b4])) = H2 at sp2 h2 ⊢
  refine ⟨_, rfl, .inl ⟨rfl, _, SqL.of h2⟩, p2, [b1, b2, b3, b4], rfl, rfl, SqL.of h2, ?_⟩
  rw [cnt]
  refine ⟨rfl, _, rfl, ?_⟩
  rw [show decide (V.int ((1 : Nat) : Int) = V.int 1) = true by decide]
  refine iteT ⟨l4, fun p4 hp4 => ?_⟩
  have s4 := same_new (o := .lst [.str "table", .str "term", .str "terms", .str "pattern"]) hp4
  have h42 := s4 _ _ h2
  have ds_at : ∀ (m : Nat) (b : Bool), [b1, b2, b3, b4][m]? = some b → ([b1, b2, b3, b4].map PyData.bool)[m]? = some (.bool b) := fun m b e => by
    rw [List.getElem?_map, e]
    rfl
  refine ⟨_, rfl, .inl ⟨rfl, _, SqL.of h42⟩, p2, .bl true, .bool true, [b1, b2, b3, b4].map PyData.bool, j, .bool true, rfl, rfl, .lst (SqL.of h42) (dpBls _), .bl true, shapedBls _, rfl, ds_at j true at_, rfl, fun m z' hm hz' => ?_, ?_⟩
  · rw [ds_at m false (bef m hm)] at hz'
    cases hz'
    rfl
  have nmV : (fourW.map V.str)[j]? = some (.str x) := by
    rw [List.getElem?_map, nm]
    rfl
  refine ⟨_, _, _, _, rfl, rfl, SqL.of (xs := fourW.map V.str) upd_same, atI_nat (j := j) nmV, ?_⟩
  exact q _ ((sH.trans sp2).trans s4)
end
end Kt
namespace Kt
open PySem PySem.Spec PyProof.Rows L2
/-! ### a table's text -/
mutual
def noLs : PyData → Bool
  | .list _ => false
  | .dict _ => false
  | .tuple xs => noLsAll xs
  | .none | .bool _ | .int _ | .str _ => true
def noLsAll : List PyData → Bool
  | [] => true
  | x :: xs => noLs x && noLsAll xs
end
mutual
theorem reads_nil {h : Heap} : ∀ (d : PyData) (v : Value) (as : List Addr), noLs d = true → Reads h v d as → as = []
  | .none, _, _, _, r => by cases r; rfl
  | .bool _, _, _, _, r => by cases r; rfl
  | .int _, _, _, _, r => by cases r; rfl
  | .str _, _, _, _, r => by cases r; rfl
  | .list _, _, _, n, _ => by cases n
  | .dict _, _, _, n, _ => by cases n
  | .tuple xs, _, _, n, r => by
    cases r with
    | tuple _ _ _ ra => exact readsAll_nil xs _ _ n ra
theorem readsAll_nil {h : Heap} : ∀ (ds : List PyData) (vs : List Value) (as : List Addr), noLsAll ds = true → ReadsAll h vs ds as → as = []
  | [], _, _, _, r => by cases r; rfl
  | x :: xs, _, _, n, r => by
    have n : (noLs x && noLsAll xs) = true := n
    rw [Bool.and_eq_true] at n
    cases r with
    | cons r1 r2 => rw [reads_nil x _ _ n.1 r1, readsAll_nil xs _ _ n.2 r2]; rfl
end
mutual
def kD : NestedKey → PyData
  | .none => .none
  | .num i => .int i
  | .text z => .str z
  | .tup ks => .tuple (kDL ks)
def kDL : List NestedKey → List PyData
  | [] => []
  | k :: ks => kD k :: kDL ks
end
def vD : V → PyData | .int i => .int i | _ => .none
def rowD (x : RowV) : PyData × PyData := (kD x.1, vD x.2.2)
def dB (size : Int) (rows : List RowV) (rest : Int) : PyData := .tuple [.int size, .dict (rows.map rowD), .int rest]
theorem kD_nums : ∀ ns : List Int, kDL (ns.map NestedKey.num) = ns.map PyData.int
  | [] => rfl
  | n :: ns => congrArg (PyData.int n :: ·) (kD_nums ns)
theorem noLs_ints : ∀ ns : List Int, noLsAll (ns.map PyData.int) = true
  | [] => rfl
  | n :: ns => noLs_ints ns
theorem int_fits {i : Int} (h0 : 0 ≤ i) (h : i ≤ 100) : PyData.showable (.int i) = true ∧ PyData.leavesShort 8 (.int i) = true := by
  have all : ∀ j : Fin 101, PyData.showable (.int (j.val : Nat)) = true ∧ PyData.leavesShort 8 (.int (j.val : Nat)) = true := by decide +kernel
  obtain ⟨k, rfl⟩ : ∃ k : Nat, i = (k : Int) := ⟨i.toNat, by omega⟩
  exact all ⟨k, by omega⟩
theorem ints_fit : ∀ {ns : List Int}, (∀ n ∈ ns, 0 ≤ n ∧ n ≤ 100) → PyData.showableAll (ns.map PyData.int) = true ∧ PyData.leavesShortAll 8 (ns.map PyData.int) = true ∧ PyData.bulkAll (ns.map PyData.int) = ns.length ∧ PyData.depthAll (ns.map PyData.int) = 0
  | [], _ => ⟨rfl, rfl, rfl, rfl⟩
  | n :: ns, h => by
    obtain ⟨h1, h2⟩ := int_fits (h n List.mem_cons_self).1 (h n List.mem_cons_self).2
    obtain ⟨h3, h4, h5, h6⟩ := ints_fit (ns := ns) fun x hx => h x (List.mem_cons_of_mem _ hx)
    refine ⟨?_, ?_, ?_, ?_⟩
    · show (PyData.showable (.int n) && PyData.showableAll (ns.map PyData.int)) = true
      rw [h1, h3]
      rfl
    · show (PyData.leavesShort 8 (.int n) && PyData.leavesShortAll 8 (ns.map PyData.int)) = true
      rw [h2, h4]
      rfl
    · show 0 + 1 + PyData.bulkAll (ns.map PyData.int) = ns.length + 1
      omega
    · show max 0 (PyData.depthAll (ns.map PyData.int)) = 0
      omega
theorem short_name {z : Str} (h : okS z) : PyData.leavesShort 8 (.str z) = true := by
  show (z.cps.toList.all fun c => decide (c < 16 ^ 8)) = true
  rw [List.all_eq_true]
  intro c hc
  have := h c hc
  exact decide_eq_true (by omega)
theorem row_fits {H : Hp} {size : Int} {x : RowV} (hs : size ≤ 100) (h : RowA H size x) : PyData.showable (rowD x).1 = true ∧ PyData.showable (rowD x).2 = true ∧ PyData.leavesShort 8 (rowD x).1 = true ∧ PyData.leavesShort 8 (rowD x).2 = true ∧ PyData.bulk (rowD x).1 ≤ 14 ∧ PyData.bulk (rowD x).2 = 0 ∧
    PyData.depth (rowD x).1 = 2 ∧ PyData.depth (rowD x).2 = 0 := by
  obtain ⟨a, a2, z, ns, r, rfl, h1, h2, hz, l, hn, r0, r1⟩ := h
  obtain ⟨i1, i2⟩ := int_fits r0 (by omega : r ≤ 100)
  obtain ⟨n1, n2, n3, n4⟩ := ints_fit (ns := ns) fun n hn' => ⟨(hn n hn').1, by have := (hn n hn').2; omega⟩
  obtain ⟨_, w2, _⟩ := isW_out hz
  have e : (rowD (kyA z ns, V.ref a, V.int r)).1 = .tuple [.str z, .tuple (ns.map PyData.int)] := by
    show PyData.tuple [.str z, .tuple (kDL (ns.map NestedKey.num))] = _
    rw [kD_nums]
  rw [e]
  refine ⟨?_, i1, ?_, i2, ?_, rfl, ?_, rfl⟩
  · show (true && (PyData.showableAll (ns.map PyData.int) && true)) = true
    rw [n1]
    rfl
  · show (PyData.leavesShort 8 (.str z) && (PyData.leavesShortAll 8 (ns.map PyData.int) && true)) = true
    rw [short_name (isW_ok hz), n2]
    rfl
  · show z.cps.size + 1 + (PyData.bulkAll (ns.map PyData.int) + 1 + 0) ≤ 14
    have : z.length = z.cps.size := rfl
    omega
  · show max 0 (max (PyData.depthAll (ns.map PyData.int) + 1) 0) + 1 = 2
    rw [n4]
    rfl
theorem rows_fit {H : Hp} {size : Int} (hs : size ≤ 100) : ∀ {rows : List RowV}, (∀ x ∈ rows, RowA H size x) → PyData.showableKv (rows.map rowD) = true ∧ PyData.leavesShortKv 8 (rows.map rowD) = true ∧ PyData.bulkKv (rows.map rowD) ≤ 16 * rows.length ∧ PyData.depthKv (rows.map rowD) ≤ 2
  | [], _ => ⟨rfl, rfl, Nat.le_refl 0, by decide⟩
  | x :: rows, h => by
    obtain ⟨a1, a2, a3, a4, a5, a6, a7, a8⟩ := row_fits hs (h x List.mem_cons_self)
    obtain ⟨h3, h4, h5, h6⟩ := rows_fit hs (rows := rows) fun x hx => h x (List.mem_cons_of_mem _ hx)
    refine ⟨?_, ?_, ?_, ?_⟩
    · show (PyData.showable (rowD x).1 && PyData.showable (rowD x).2 && PyData.showableKv (rows.map rowD)) = true
      rw [a1, a2, h3]
      rfl
    · show (PyData.leavesShort 8 (rowD x).1 && PyData.leavesShort 8 (rowD x).2 && PyData.leavesShortKv 8 (rows.map rowD)) = true
      rw [a3, a4, h4]
      rfl
    · show PyData.bulk (rowD x).1 + PyData.bulk (rowD x).2 + 2 + PyData.bulkKv (rows.map rowD) ≤ 16 * (rows.length + 1)
      omega
    · show max (max (PyData.depth (rowD x).1) (PyData.depth (rowD x).2)) (PyData.depthKv (rows.map rowD)) ≤ 2
      omega
theorem dB_fits {w : World} {H : Hp} {b D : Addr} {size rest : Int} {rows : List RowV} (h : BoardA w H b size D rows rest) : (dB size rows rest).showable = true ∧ (dB size rows rest).depth ≤ 100 ∧ (dB size rows rest).shown.length ≤ sizeLine := by
  have s1 := h.s1
  have s2 := h.s2
  have r0 := h.r0
  have r1 := h.r1
  obtain ⟨i1, i2⟩ := int_fits (by omega : 0 ≤ size) s2
  obtain ⟨j1, j2⟩ := int_fits r0 (by omega : rest ≤ 100)
  obtain ⟨h3, h4, h5, h6⟩ := rows_fit s2 h.rws
  have few := h.few
  refine ⟨?_, ?_, PyData.shown_fits_bulk (B := 8) (by decide) (by decide) ?_ ?_⟩
  · show (PyData.showable (.int size) && (PyData.showableKv (rows.map rowD) && (PyData.showable (.int rest) && true))) = true
    rw [i1, h3, j1]
    rfl
  · show max 0 (max (PyData.depthKv (rows.map rowD) + 1) (max 0 0)) + 1 ≤ 100
    omega
  · show (PyData.leavesShort 8 (.int size) && (PyData.leavesShortKv 8 (rows.map rowD) && (PyData.leavesShort 8 (.int rest) && true))) = true
    rw [i2, h4, j2]
    rfl
  · show 0 + 1 + (PyData.bulkKv (rows.map rowD) + 1 + (0 + 1 + 0)) ≤ 2 ^ 20
    have : (2 : Nat) ^ 20 = 1048576 := by decide
    omega
theorem rows_read {X : Cx} {pins : List (Addr × Obj)} {σ : L2.St} {H : Hp} {s : Shared} {size : Int} (I : Inv X pins σ H s) : ∀ {rows : List RowV} {ys : List RowN}, Paired RowR rows ys → (∀ x ∈ rows, RowA H size x) →
    ReadsAll s.heap ((ys.map (enN X.w)).map (·.key)) ((rows.map rowD).map (·.1)) [] ∧ ReadsAll s.heap ((ys.map (enN X.w)).map (·.val)) ((rows.map rowD).map (·.2)) []
  | _, _, .nil, _ => ⟨.nil, .nil⟩
  | x :: rows, y :: ys, .cons hr rr, h => by
    obtain ⟨k1, k2⟩ := rows_read I rr fun x hx => h x (List.mem_cons_of_mem _ hx)
    obtain ⟨a, a2, z, ns, r, rfl, h1, h2, _⟩ := h x List.mem_cons_self
    obtain ⟨e1, e2, e3⟩ := hr
    have dp : Dp X.K H (.ref a) (.tuple [.str z, .tuple (ns.map PyData.int)]) := .tup (SqT.of h1) (.cons (.str z) (.cons (.tup (SqT.of h2) (dpInts ns)) .nil))
    obtain ⟨as, r1⟩ := Dp.reads I _ _ _ dp e2
    have n1 := reads_nil _ _ _ (by show (true && (noLsAll (ns.map PyData.int) && true)) = true; rw [noLs_ints]; rfl) r1
    obtain ⟨bs, r2⟩ := Dp.reads I _ _ _ (Dp.int r) e3
    have n2 := reads_nil _ _ _ rfl r2
    subst n1 n2
    have e : kD (kyA z ns) = .tuple [.str z, .tuple (ns.map PyData.int)] := by
      show PyData.tuple [.str z, .tuple (kDL (ns.map NestedKey.num))] = _
      rw [kD_nums]
    refine ⟨?_, .cons r2 k2⟩
    have : Reads s.heap (enN X.w y).key (kD (kyA z ns)) [] := by rw [e]; exact r1
    exact .cons this k1
def rShowB (w : World) : List V → Hp → VK → Prop := fun xs H Q => ∃ b size D rows rest, xs = [.ref b] ∧ BoardA w H b size D rows rest ∧ Q (.str (dB size rows rest).shown) H
theorem call_showB {X : Cx} (none_ : X.A.guards = some []) (room : X.A.units + 101 < cLine) : CallR X (.builtin "repr") (rShowB X.w) := by
  intro pins s σ H xs us Q inv rel told
  obtain ⟨b, size, D, rows, rest, rfl, hB, q⟩ := told
  obtain ⟨u, rfl, r⟩ := vals1 rel
  obtain rfl : u = .ref b := r
  obtain ⟨sys, _, ys, pr, o, es, ep, ho, ex, hd, he, _⟩ := dn_rd inv.hok (.inl hB.hD) hB.keys
  obtain ⟨k1, k2⟩ := rows_read inv pr hB.rws
  rw [← he] at k1 k2
  have rD : Reads s.heap (.ref D) (.dict (rows.map rowD)) (D :: [] ++ []) := .dict ho ex.1 hd k1 k2
  obtain ⟨its, rv, ⟨⟨cls, dd, data, sl⟩, hob, hc, n, hdb⟩, _⟩ := inv.tuple (SqT.of hB.hb)
  cases rv with
  | cons e1 rv =>
    cases rv with
    | cons e2 rv =>
      cases rv with
      | cons e3 rv =>
        cases rv
        obtain ⟨t1, rfl⟩ := e1
        obtain rfl := e2
        obtain ⟨t3, rfl⟩ := e3
        have rB : Reads s.heap (.ref b) (dB size rows rest) ([] ++ ((D :: [] ++ []) ++ ([] ++ []))) := .tuple hob hc hdb (by simpa using ReadsAll.cons (.int size t1) (.cons rD (.cons (.int rest t3) .nil)))
        obtain ⟨f1, f2, f3⟩ := dB_fits hB
        refine repr_of_reads' rB f1 (fun _ m => ?_) none_ (by omega) (fun _ _ z => z) (fun h' t tk keeps => ⟨.str (dB size rows rest).shown, H, inv.kept keeps, ⟨t, rfl⟩, q⟩) f3
        have m : sysModules = D := by simpa using m
        rw [← m] at sys
        exact absurd sys (by simp)
end Kt
namespace Kt
open PySem PySem.Spec PyProof.Rows L2
/-! ### pairs drawn -/
/-- heap facts that a step of the law keeps -/
structure LawA (w : World) (K : PySem.W.Frag) (d c h b D : Addr) (rs : List V) (hs : List (Str × Nat)) (size rest : Int) (rows : List RowV) (H : Hp) : Prop where
  dr : DrA K d c H
  hh : HsA H h rs hs
  hB : BoardA w H b size D rows rest
theorem LawA.du {w : World} {K : PySem.W.Frag} {d c h b D : Addr} {rs : List V} {hs : List (Str × Nat)} {size rest : Int} {rows : List RowV} {H H' : Hp} (a : LawA w K d c h b D rs hs size rest rows H) (u : DUA K d c H H') : LawA w K d c h b D rs hs size rest rows H' := ⟨u.dr, a.hh.du a.dr u, a.hB.du a.dr u⟩
theorem LawA.same {w : World} {K : PySem.W.Frag} {d c h b D : Addr} {rs : List V} {hs : List (Str × Nat)} {size rest : Int} {rows : List RowV} {H H' : Hp} (a : LawA w K d c h b D rs hs size rest rows H) (s : Same H H') : LawA w K d c h b D rs hs size rest rows H' := a.du (DUA.same a.dr s)
/-- a list that is new grows -/
theorem DUA.grow {K : PySem.W.Frag} {d c L : Addr} {H H' : Hp} {o : HO} (u : DUA K d c H H') (Ld : L ≠ d) (far : Far K c L) (hL : H L = none) : DUA K d c H (upd H' L o) :=
  ⟨fun a x n q => by rw [upd_ne fun e => by rw [e, hL] at q; cases q]; exact u.old a x n q, u.dr.mut Ld far⟩
theorem HsA.mut {H : Hp} {h L : Addr} {rs : List V} {hs : List (Str × Nat)} {xs ys : List V} (a : HsA H h rs hs) (n : h ≠ L) (hL : H L = some (.lst xs)) : HsA (upd H L (.lst ys)) h rs hs :=
  ⟨by rw [upd_ne n]; exact a.hl, a.hat.wk fun b zs q => by rw [upd_ne (ne_of q hL fun e => nomatch e)]; exact q, a.ok, a.few, a.fst⟩
theorem BoardA.mut {w : World} {H : Hp} {b D L : Addr} {size rest : Int} {rows : List RowV} {xs ys : List V} (h : BoardA w H b size D rows rest) (hL : H L = some (.lst xs)) : BoardA w (upd H L (.lst ys)) b size D rows rest := by
  have k : ∀ a zs, H a = some (.tup zs) → (upd H L (.lst ys)) a = some (.tup zs) := fun a zs q => by rw [upd_ne (ne_of q hL fun e => nomatch e)]; exact q
  exact ⟨k _ _ h.hb, by rw [upd_ne (ne_of h.hD hL fun e => by unfold DN at e; cases e)]; exact h.hD, fun x hx => (h.rws x hx).wk k, h.few, h.s1, h.s2, h.r0, h.r1⟩
def sp_even (w : World) (K : PySem.W.Frag) : Sp := fun vs H Q _ => ∃ d c h b D rs hs size rest rows, vs = [.ref d, .ref h, .ref b] ∧ LawA w K d c h b D rs hs size rest rows H ∧
  ∀ (p : Addr) (v1 v2 : V) (x y : Th) (H' : Hp), H' p = some (.tup [v1, v2]) → Rep H' v1 x → Rep H' v2 y → within false x = true → within false y = true → DUA K d c H H' → Q (.ref p) H'
def sp_kept (w : World) (K : PySem.W.Frag) : Sp := fun vs H Q _ => ∃ d c h b D rs hs size rest rows, vs = [.ref d, .ref h, .ref b] ∧ LawA w K d c h b D rs hs size rest rows H ∧
  ∀ (L : Addr) (xs : List V) (ts : List Th) (H' : Hp), H' L = some (.lst xs) → RepL H' xs ts → xs.length ≤ 5 → (∀ t ∈ ts, pairT t = true) → DUA K d c H H' → Q (.ref L) H'
section
variable {P : Program} {w : World} {K : PySem.W.Frag} {mg : Str → Option Value} {base : Heap}
theorem c__law_even (T : Tx K mg) : Cl P w K mg base CX0 8 "_law_even" ["_law_state", "_law_heads_here", "_law_board"] (sp_even w K) := by
  have c__law_worth := fun (T : Tx K mg) => c__law_worth (P := P) (w := w) (base := base) T
  refine Cl.mk0 T.d__law_even sc__law_even (fun vs H Q E h => ?_) (fun f cdv A outer s H vs Q E hr h => ?_)
  · obtain ⟨d, c, h, b, D, rs, hs, size, rest, rows, rfl, _⟩ := h
    rfl
  obtain ⟨d, c, h, b, D, rs, hs, size, rest, rows, rfl, hA, q⟩ := h
  refine ⟨_, (pss_cons (ps_set (i := 3) sc__law_even.nd rfl (Or.inr rfl) (pe_lc (own := [("_law_k", 5)]) (g := gName 5) (tt := tYes) rfl sc__law_even.nd (pi_range1 (by rfl) T.z_range (pa_cons pe_int pa_nil)) (blkOk_by (own := [("_law_k", 5)]) (N := ["_law_state", "_law_heads_here", "_law_board", "_law_some", "_law_fit", "_law_k", "_law_one"]) (sc := defScope s__law_even) (by decide +kernel)) (fun _ _ _ _ _ => (pg_name (i := 5) sc__law_even.nd rfl (Or.inl rfl))) (fun _ _ _ _ _ => pts_nil) (fun _ _ _ _ _ => (pe_cl (c__law_term T) hr (by omega) rfl (pa_cons (pv 0) (pa_cons (pv 1) (pa_cons (pe_op op_add pe_int (pe_cl (c__law_take T) hr (by omega) rfl (pa_cons (pv 0) (pa_cons pe_int pa_nil)))) pa_nil)))))))
    (pss_cons (ps_setLc (i := 4) (own := [("_law_one", 6)]) (g := gName 6) rfl sc__law_even.nd rfl rfl (sw_true rfl rfl rfl (by decide +kernel)) (pi_list (pv 3)) (blkOk_by (own := [("_law_one", 6)]) (N := ["_law_state", "_law_heads_here", "_law_board", "_law_some", "_law_fit", "_law_k", "_law_one"]) (sc := defScope s__law_even) (by decide +kernel)) (fun _ _ _ _ _ => (pg_name (i := 6) sc__law_even.nd rfl (Or.inl rfl))) (fun _ _ _ _ _ => (pts_one (pt_cmpR op_eq (pe_cl (c__law_worth T) hr (by omega) rfl (pa_cons (pv 2) (pa_cons (pv 6) pa_nil))) (pe_cl (c__law_worth T) hr (by omega) rfl (pa_cons (pv 2) (pa_cons (pe_ix (r := rIxL K) ix_list (pv 3) pe_int (fun _ _ => rfl)) pa_nil))) (nomark _)))) (fun _ _ _ _ _ => (pv 6)))
    (pss_one (ps_ret (pe_tup (pa_cons (pe_ix ix_list (pv 3) pe_int (fun _ _ => rfl)) (pa_cons (pe_ix ix_list (pv 4) (pe_cl (c__law_take T) hr (by omega) rfl (pa_cons (pv 0) (pa_cons (pe_callB call_len (by rfl) T.z_len (by decide +kernel) (pa_cons (pv 4) pa_nil)) pa_nil))) (fun _ _ => rfl)) pa_nil))))))), ?_⟩
  refine ⟨6, rfl, by decide, by decide, fun L hL => ?_⟩
  have Ld := hA.dr.ne hL
  have far := hA.dr.far hL
  refine lc_it (walk_range (lo := 0)) (fun i H' => ∃ vs ts, DUA K d c H H' ∧ H' L = some (.lst vs) ∧ vs.length = i ∧ RepL H' vs ts ∧ ∀ t ∈ ts, within false t = true) ⟨[], [], DUA.same hA.dr (same_new hL _), upd_same, rfl, .nil, fun t h => (List.not_mem_nil h).elim⟩ (fun _ _ _ _ => trivial) (fun i x H' H'' hi p' y => ?_) (fun H1 p' => ?_)
  · obtain ⟨rfl, rfl⟩ := y
    obtain ⟨vs, ts, u, hLH, hl, hr', hts⟩ := p'
    have hA' := hA.du u
    refine ⟨rfl, yesI ⟨_, rfl, _, rfl, _, rfl, d, c, 4, rfl, by decide, by decide, u.dr, fun r H2 r0 r1 u2 => ⟨_, _, rfl, rfl, ?_⟩⟩⟩
    obtain ⟨j, rfl⟩ : ∃ j : Nat, r = (j : Int) := ⟨r.toNat, by omega⟩
    refine ⟨d, c, h, rs, hs, 1 + j, ?_, by omega, by omega, u2.dr, (hA'.du u2).hh, fun v t H3 rv tm u3 => ?_⟩
    · show [V.ref d, V.ref h, V.int (1 + (j : Int))] = _
      rw [show 1 + (j : Int) = ((1 + j : Nat) : Int) by omega]
    · have u4 := u2.trans u3
      have w4 := DUA.wk u.dr u4
      have hL4 := u4.lst u.dr hLH
      refine ⟨vs, hL4, small1000 (by have : i < 6 := hi; omega), vs ++ [v], ts ++ [t], (u.trans u4).grow Ld far hL, upd_same, by rw [List.length_append, hl]; rfl, ((hr'.wk w4).append (RepL.one rv)).wk (Wk.lst_upd hL4 _), fun t' ht' => ?_⟩
      rcases List.mem_append.mp ht' with h | h
      · exact hts t' h
      · rw [List.mem_singleton.mp h]
        exact tm.within (by omega)
  obtain ⟨vs, ts, u, hLH, hl, hr', hts⟩ := p'
  have hl : vs.length = 6 := hl
  have hA1 := hA.du u
  obtain ⟨v0, hv0⟩ : ∃ v, vs[0]? = some v := ⟨vs[0]'(by omega), List.getElem?_eq_getElem _⟩
  obtain ⟨t0, ht0, r0⟩ := hr'.get' hv0
  have w0 := hts t0 (List.mem_of_getElem? ht0)
  obtain ⟨x01, x02, _⟩ := within_iff.mp w0
  refine ⟨_, rfl, L, rfl, ⟨_, SqL.of hLH⟩, fun D2 hD2 => ?_⟩
  refine lc_it (walk_list (K := K) (xs := vs)) (fun i H' => Same H1 H' ∧ ∃ vs' ts', H' D2 = some (.lst vs') ∧ RepL H' vs' ts' ∧ vs'.length ≤ i ∧ (1 ≤ i → 1 ≤ vs'.length) ∧ ∀ t ∈ ts', within false t = true) ⟨same_new hD2 _, [], [], upd_same, .nil, Nat.zero_le _, fun h => absurd h (by decide), fun t h => (List.not_mem_nil h).elim⟩ (fun i Hx _ k => SqL.of (k.1 _ _ hLH)) (fun i x Hx Hy hi k yy => ?_) (fun H2 k => ?_)
  · obtain ⟨rfl, hx⟩ := yy
    obtain ⟨sx, vs', ts', b1, b2, b3, b4, b5⟩ := k
    obtain ⟨t, ht, rt⟩ := hr'.get' hx
    have wt := hts t (List.mem_of_getElem? ht)
    obtain ⟨x1, x2, _⟩ := within_iff.mp wt
    refine ⟨rfl, _, rfl, _, rfl, b, size, D, rows, rest, x, t, rfl, hA1.hB.same sx, rt.wk (Wk.same sx), x1, x2, fun H5 s5 => ?_⟩
    refine ⟨_, rfl, _, rfl, L, _, _, _, rfl, rfl, SqL.of (s5 _ _ (sx _ _ hLH)), atI_nat (j := 0) hv0, b, size, D, rows, rest, v0, t0, rfl, hA1.hB.same (sx.trans s5), r0.wk (Wk.same (sx.trans s5)), x01, x02, fun H6 s6 => ⟨rfl, _, rfl, ite2 (fun c1 => ?_) (fun c1 => ?_)⟩⟩
    · have s7 := s5.trans s6
      refine ⟨_, rfl, vs', s7 _ _ b1, small1000 (by omega), Same.mut (sx.trans s7) hD2, vs' ++ [x], ts' ++ [t], upd_same, ((b2.wk (Wk.same s7)).append (RepL.one (rt.wk (Wk.same (sx.trans s7))))).wk (Wk.lst_upd (s7 _ _ b1) _), ?_, fun _ => ?_, fun t' ht' => ?_⟩
      · rw [List.length_append]
        show vs'.length + 1 ≤ i + 1
        omega
      · rw [List.length_append]
        exact Nat.le_add_left 1 _
      · rcases List.mem_append.mp ht' with h | h
        · exact b5 t' h
        · rw [List.mem_singleton.mp h]
          exact wt
    · have s7 := s5.trans s6
      refine ⟨sx.trans s7, vs', ts', s7 _ _ b1, b2.wk (Wk.same s7), by omega, fun _ => ?_, b5⟩
      cases i with
      | zero =>
        rw [ht0] at ht
        cases ht
        exact absurd (decide_eq_true rfl) c1
      | succ j => exact b4 (by omega)
  obtain ⟨sx, vs', ts', b1, b2, b3, b4, b5⟩ := k
  have len1 : 1 ≤ vs'.length := b4 (by omega)
  have dr2 := hA1.dr.same sx
  refine ⟨_, rfl, L, _, _, _, rfl, rfl, SqL.of (sx _ _ hLH), atI_nat (j := 0) hv0, ?_⟩
  refine ⟨_, rfl, _, rfl, _, rfl, _, _, rfl, .inl ⟨_, SqL.of b1, rfl⟩, d, c, _, rfl, by omega, by omega, dr2, fun r H3 r00 r1 u3 => ?_⟩
  obtain ⟨j, rfl⟩ : ∃ j : Nat, r = (j : Int) := ⟨r.toNat, by omega⟩
  have hj : j < vs'.length := by omega
  obtain ⟨t1, ht1, rt1⟩ := b2.get' (List.getElem?_eq_getElem hj)
  refine ⟨D2, _, _, _, rfl, rfl, SqL.of (u3.lst dr2 b1), atI_nat (List.getElem?_eq_getElem hj), by show 2 ≤ sizeLine; decide, fun p hp => ?_⟩
  have sp := same_new (o := .tup [v0, vs'[j]]) hp
  have w3 := DUA.wk dr2 u3
  exact q p v0 vs'[j] t0 t1 _ upd_same ((((r0.wk (Wk.same sx)).wk w3)).wk (Wk.same sp)) ((rt1.wk w3).wk (Wk.same sp)) w0 (b5 t1 (List.mem_of_getElem? ht1)) ((u.then sx).trans (u3.then sp))
theorem c__law_kept (T : Tx K mg) : Cl P w K mg base CX0 9 "_law_kept" ["_law_state", "_law_heads_here", "_law_board"] (sp_kept w K) := by
  refine Cl.mk0 T.d__law_kept sc__law_kept (fun vs H Q E h => ?_) (fun f cdv A outer s H vs Q E hr h => ?_)
  · obtain ⟨d, c, h, b, D, rs, hs, size, rest, rows, rfl, _⟩ := h
    rfl
  obtain ⟨d, c, h, b, D, rs, hs, size, rest, rows, rfl, hA, q⟩ := h
  refine ⟨_, (pss_cons (ps_set (i := 3) sc__law_kept.nd rfl (Or.inl rfl) (pe_lst pa_nil))
    (pss_cons (ps_for PassesOwn.never rfl (pi_range1 (by rfl) T.z_range (pa_cons (pe_cl (c__law_take T) hr (by omega) rfl (pa_cons (pv 0) (pa_cons pe_int pa_nil))) pa_nil)) (pg_name (i := 4) sc__law_kept.nd rfl (Or.inl rfl))
      (pss_cons (ps_set (i := 5) sc__law_kept.nd rfl (Or.inl rfl) (pe_cl (c__law_even T) hr (by omega) rfl (pa_cons (pv 0) (pa_cons (pv 1) (pa_cons (pv 2) pa_nil)))))
      (pss_cons (ps_if (pt_cmpR op_eq (pe_cl (c__law_take T) hr (by omega) rfl (pa_cons (pv 0) (pa_cons pe_int pa_nil))) pe_int (nomark _))
        (pss_one (ps_set (i := 5) sc__law_kept.nd rfl (Or.inl rfl) (pe_tup (pa_cons (pe_ix ix_tup (pv 5) pe_int (fun _ _ => rfl)) (pa_cons (pe_cl (c__law_term T) hr (by omega) rfl (pa_cons (pv 0) (pa_cons (pv 1) (pa_cons (pe_op op_add pe_int (pe_cl (c__law_take T) hr (by omega) rfl (pa_cons (pv 0) (pa_cons pe_int pa_nil)))) pa_nil)))) pa_nil)))))
        pss_nil)
      (pss_one (ps_expr (pe_bm PySem.F.plainAttrs_list PySem.F.slot_list_append PySem.F.type_list_append mt_append (pv 3) (pa_cons (pv 5) pa_nil)))))))
    (pss_one (ps_ret (pv 3))))), ?_⟩
  refine ⟨Nat.zero_le _, fun L hL => ?_⟩
  have Ld := hA.dr.ne hL
  have far := hA.dr.far hL
  have s0 := same_new (o := .lst []) hL
  have hA0 := hA.same s0
  refine ⟨_, rfl, d, c, 6, rfl, by decide, by decide, hA0.dr, fun r H1 r0 r1 u1 => ⟨r, rfl, by omega, by omega, ?_⟩⟩
  refine for_range (lo := 0) (n := r.toNat) (fun i σ' H' => ∃ x4 x5 vs ts, σ' = [some (.ref d), some (.ref h), some (.ref b), some (.ref L), x4, x5] ∧ DUA K d c H H' ∧ H' L = some (.lst vs) ∧ vs.length = i ∧ RepL H' vs ts ∧ ∀ t ∈ ts, pairT t = true) ⟨_, _, [], [], rfl, (DUA.same hA.dr s0).trans u1, u1.lst hA0.dr upd_same, rfl, .nil, fun t h => (List.not_mem_nil h).elim⟩ (fun i σ' H2 hi kk => ?_) (fun σ' H2 kk => ?_)
  · obtain ⟨x4, x5, vs, ts, rfl, u, hLH, hl, hr', hts⟩ := kk
    have hA2 := hA.du u
    refine ⟨_, rfl, _, rfl, _, rfl, d, c, h, b, D, rs, hs, size, rest, rows, rfl, hA2, fun p v1 v2 x y H3 hp rx ry wx wy u3 => ?_⟩
    have fin : ∀ (p : Addr) (v1 v2 : V) (x y : Th) (H4 : Hp), H4 p = some (.tup [v1, v2]) → Rep H4 v1 x → Rep H4 v2 y → within false x = true → within false y = true → DUA K d c H2 H4 → ∃ ys, H4 L = some (.lst ys) ∧ ys.length < sizeLine ∧
        ∃ x4 x5 vs ts, [some (.ref d), some (.ref h), some (.ref b), some (.ref L), some (V.int (0 + (i : Int))), some (.ref p)] = [some (.ref d), some (.ref h), some (.ref b), some (.ref L), x4, x5] ∧ DUA K d c H (upd H4 L (.lst (ys ++ [.ref p]))) ∧ (upd H4 L (.lst (ys ++ [.ref p]))) L = some (.lst vs) ∧ vs.length = i + 1 ∧ RepL (upd H4 L (.lst (ys ++ [.ref p]))) vs ts ∧ ∀ t ∈ ts, pairT t = true := fun p v1 v2 x y H4 hp rx ry wx wy u4 => by
      have hL4 := u4.lst u.dr hLH
      refine ⟨vs, hL4, small1000 (by omega), _, _, vs ++ [.ref p], ts ++ [.tup [x, y]], rfl, (u.trans u4).grow Ld far hL, upd_same, by rw [List.length_append, hl]; rfl, ((hr'.wk (DUA.wk u.dr u4)).append (RepL.one (.tup hp (by show 2 ≤ 100; decide) (.cons rx (.cons ry .nil))))).wk (Wk.lst_upd hL4 _), fun t' ht' => ?_⟩
      rcases List.mem_append.mp ht' with h | h
      · exact hts t' h
      · rw [List.mem_singleton.mp h]
        show (within false x && within false y) = true
        rw [wx, wy]
        rfl
    refine ⟨_, rfl, d, c, 6, rfl, by decide, by decide, u3.dr, fun r2 H4 r20 r21 u4 => ⟨rfl, _, rfl, ite2 (fun _ => ?_) (fun _ => ?_)⟩⟩
    · have hp4 := u4.tup u3.dr hp
      refine ⟨_, rfl, p, _, _, _, rfl, rfl, SqT.of hp4, atI_nat (j := 0) rfl, _, rfl, _, rfl, _, rfl, d, c, 3, rfl, by decide, by decide, u4.dr, fun r3 H5 r30 r31 u5 => ⟨_, _, rfl, rfl, ?_⟩⟩
      obtain ⟨j, rfl⟩ : ∃ j : Nat, r3 = (j : Int) := ⟨r3.toNat, by omega⟩
      have hA5 := ((hA2.du u3).du u4).du u5
      refine ⟨d, c, h, rs, hs, 1 + j, ?_, by omega, by omega, u5.dr, hA5.hh, fun v t H6 rv tm u6 => ⟨by show 2 ≤ sizeLine; decide, fun p2 hp2 => ?_⟩⟩
      · show [V.ref d, V.ref h, V.int (1 + (j : Int))] = _
        rw [show 1 + (j : Int) = ((1 + j : Nat) : Int) by omega]
      have s7 := same_new (o := .tup [v1, v]) hp2
      have u7 := (u4.trans (u5.trans u6)).then s7
      obtain ⟨ys, f1, f2, f3⟩ := fin p2 v1 v x t _ upd_same (rx.wk (DUA.wk u3.dr u7)) (rv.wk (Wk.same s7)) wx (tm.within (by omega)) (u3.trans u7)
      exact ⟨_, rfl, .inl ⟨rfl, _, SqL.of f1⟩, _, rfl, L, ys, _, rfl, rfl, f1, f2, f3⟩
    · obtain ⟨ys, f1, f2, f3⟩ := fin p v1 v2 x y _ (u4.tup u3.dr hp) (rx.wk (DUA.wk u3.dr u4)) (ry.wk (DUA.wk u3.dr u4)) wx wy (u3.trans u4)
      exact ⟨_, rfl, .inl ⟨rfl, _, SqL.of f1⟩, _, rfl, L, ys, _, rfl, rfl, f1, f2, f3⟩
  · obtain ⟨x4, x5, vs, ts, rfl, u, hLH, hl, hr', hts⟩ := kk
    exact ⟨_, rfl, q L vs ts H2 hLH hr' (by omega) hts u⟩
end
end Kt
namespace Kt
open PySem PySem.Spec PyProof.Rows L2
/-! ### what is no list of pairs -/
theorem rstr {H : Hp} (z : Str) (h : z.length ≤ 100 := by decide) (ok : z.cps.toList.all (fun c => decide (c < 1114112)) = true := by decide +kernel) : Rep H (.str z) (.str z) :=
  .str z h fun c hc => of_decide_eq_true (List.all_eq_true.mp ok c hc)
def BadL (H : Hp) (v : V) : Prop := (∃ ts, SqTh H v ts ∧ ∃ t ∈ ts, pairT t = false) ∨ ∃ t : Th, Rep H v t ∧ t.isLs = false ∧ t.isTup = false
theorem BadL.same {H H' : Hp} {v : V} (h : BadL H v) (s : Same H H') : BadL H' v := by
  rcases h with ⟨ts, hs, e⟩ | ⟨t, r, e⟩
  · exact .inl ⟨ts, hs.same s, e⟩
  · exact .inr ⟨t, r.wk (Wk.same s), e⟩
def badTs (ta : Th) : List Th := [.tup [ta], .tup [ta, ta, ta], .ls, .tup [ta, .str "?x"], .tup [.non, ta], ta, .int 5, .non, .tup [ta, .tup [.str "Ab"]], .tup []]
theorem bad_all {z : Str} : ∀ t ∈ badTs (.tup [.str z]), pairT t = false := by
  have e1 : within false (.str "?x") = false := by decide +kernel
  have e2 : within false .non = false := by decide +kernel
  have e3 : within false (.tup [.str "Ab"]) = false := by decide +kernel
  intro t ht
  simp only [badTs, List.mem_cons, List.not_mem_nil, or_false] at ht
  rcases ht with rfl | rfl | rfl | rfl | rfl | rfl | rfl | rfl | rfl | rfl
  · rfl
  · rfl
  · rfl
  · show (within false (.tup [.str z]) && within false (.str "?x")) = false
    rw [e1, Bool.and_false]
  · show (within false .non && within false (.tup [.str z])) = false
    rw [e2, Bool.false_and]
  · rfl
  · rfl
  · rfl
  · show (within false (.tup [.str z]) && within false (.tup [.str "Ab"])) = false
    rw [e3, Bool.and_false]
  · rfl
def sp_odd (K : PySem.W.Frag) : Sp := fun vs H Q _ => ∃ (d c L a : Addr) (xs : List V) (ts : List Th) (z : Str), vs = [.ref d, .ref L, .ref a] ∧ DrA K d c H ∧ H L = some (.lst xs) ∧ RepL H xs ts ∧ xs.length ≤ 5 ∧ H a = some (.tup [.str z]) ∧ isW z 8 = true ∧
  ∀ v H', BadL H' v → DUA K d c H H' → Q v H'
section
variable {P : Program} {w : World} {K : PySem.W.Frag} {mg : Str → Option Value} {base : Heap}
theorem c__law_odd_list (T : Tx K mg) : Cl P w K mg base CX0 2 "_law_odd_list" ["_law_state", "_law_some", "_law_a"] (sp_odd K) := by
  refine Cl.mk0 T.d__law_odd_list sc__law_odd_list (fun vs H Q E h => ?_) (fun f cdv A outer s H vs Q E hr h => ?_)
  · obtain ⟨d, c, L, a, xs, ts, z, rfl, _⟩ := h
    rfl
  obtain ⟨d, c, L, a, xs, ts, z, rfl, hD, hL, rl, few, ha, hz, q⟩ := h
  refine ⟨_, (pss_cons (ps_set (i := 3) sc__law_odd_list.nd rfl (Or.inl rfl) (pe_lst (pa_cons (pe_tup (pa_cons (pv 2) pa_nil)) (pa_cons (pe_tup (pa_cons (pv 2) (pa_cons (pv 2) (pa_cons (pv 2) pa_nil)))) (pa_cons (pe_lst (pa_cons (pv 2) (pa_cons (pv 2) pa_nil))) (pa_cons (pe_tup (pa_cons (pv 2) (pa_cons pe_str pa_nil))) (pa_cons (pe_tup (pa_cons pe_non (pa_cons (pv 2) pa_nil))) (pa_cons (pv 2) (pa_cons pe_int (pa_cons pe_non (pa_cons (pe_tup (pa_cons (pv 2) (pa_cons (pe_tup (pa_cons pe_str pa_nil)) pa_nil))) (pa_cons (pe_tup pa_nil) pa_nil))))))))))))
    (pss_cons (ps_set (i := 4) sc__law_odd_list.nd rfl (Or.inl rfl) (pe_cl (c__law_take T) hr (by omega) rfl (pa_cons (pv 0) (pa_cons (pe_op op_add (pe_callB call_len (by rfl) T.z_len (by decide +kernel) (pa_cons (pv 1) pa_nil)) pe_int) pa_nil))))
    (pss_cons (ps_if (pt_cmpR op_eq (pe_cl (c__law_take T) hr (by omega) rfl (pa_cons (pv 0) (pa_cons pe_int pa_nil))) pe_int (nomark _))
      (pss_one (ps_ret (pe_ix ix_list (pe_lst (pa_cons pe_non (pa_cons pe_dnewK (pa_cons pe_str (pa_cons pe_int (pa_cons pe_bl (pa_cons (pe_tup (pa_cons (pv 2) (pa_cons (pv 2) pa_nil))) pa_nil))))))) (pe_cl (c__law_take T) hr (by omega) rfl (pa_cons (pv 0) (pa_cons pe_int pa_nil))) (fun _ _ => rfl))))
      pss_nil)
    (pss_one (ps_ret (pe_op op_cat (pe_op op_cat (pe_slice sl_list (pv 1) po_no (po_some (pv 4))) (pe_lst (pa_cons (pe_ix ix_list (pv 3) (pe_cl (c__law_take T) hr (by omega) rfl (pa_cons (pv 0) (pa_cons pe_int pa_nil))) (fun _ _ => rfl)) pa_nil))) (pe_slice sl_list (pv 1) (po_some (pv 4)) po_no))))))), ?_⟩
  have l0 : 0 ≤ sizeLine := by decide
  have l1 : 1 ≤ sizeLine := by decide
  have l2 : 2 ≤ sizeLine := by decide
  have l3 : 3 ≤ sizeLine := by decide
  have ra : ∀ {H' : Hp}, H' a = some (.tup [.str z]) → Rep H' (.ref a) (.tup [.str z]) := fun h => .tup h (by show 1 ≤ 100; decide) (.cons (isW_rep hz (by decide)) .nil)
  refine ⟨_, rfl, l1, fun p1 h1 => ⟨_, rfl, _, rfl, _, rfl, l3, fun p2 h2 => ⟨_, rfl, _, rfl, l2, fun p3 h3 => ⟨_, rfl, l2, fun p4 h4 => ⟨_, rfl, l2, fun p5 h5 => ⟨_, rfl, _, rfl, l1, fun p6 h6 => ⟨l2, fun p7 h7 => ⟨l0, fun p8 h8 => ⟨by show 10 ≤ sizeLine; decide, fun M hM => ?_⟩⟩⟩⟩⟩⟩⟩⟩⟩
  have s1 := same_new (o := .tup [.ref a]) h1
  have s2 := same_new (o := .tup [.ref a, .ref a, .ref a]) h2
  have s3 := same_new (o := .lst [.ref a, .ref a]) h3
  have s4 := same_new (o := .tup [.ref a, .str "?x"]) h4
  have s5 := same_new (o := .tup [.non, .ref a]) h5
  have s6 := same_new (o := .tup [.str "Ab"]) h6
  have s7 := same_new (o := .tup [.ref a, .ref p6]) h7
  have s8 := same_new (o := .tup []) h8
  have s9 := same_new (o := .lst [.ref p1, .ref p2, .ref p3, .ref p4, .ref p5, .ref a, .int 5, .non, .ref p7, .ref p8]) hM
  have t8 := s8.trans s9
  have t7 := s7.trans t8
  have t6 := s6.trans t7
  have t5 := s5.trans t6
  have t4 := s4.trans t5
  have t3 := s3.trans t4
  have t2 := s2.trans t3
  have S := s1.trans t2
  have g1 := t2 _ _ (upd_same (H := H) (a := p1) (o := .tup [.ref a]))
  have g2 := t3 _ _ (upd_same (a := p2) (o := .tup [.ref a, .ref a, .ref a]))
  have g3 := t4 _ _ (upd_same (a := p3) (o := .lst [.ref a, .ref a]))
  have g4 := t5 _ _ (upd_same (a := p4) (o := .tup [.ref a, .str "?x"]))
  have g5 := t6 _ _ (upd_same (a := p5) (o := .tup [.non, .ref a]))
  have g6 := t7 _ _ (upd_same (a := p6) (o := .tup [.str "Ab"]))
  have g7 := t8 _ _ (upd_same (a := p7) (o := .tup [.ref a, .ref p6]))
  have g8 := s9 _ _ (upd_same (a := p8) (o := .tup []))
  have gM := upd_same (H := upd (upd (upd (upd (upd (upd (upd (upd H p1 (.tup [.ref a])) p2 (.tup [.ref a, .ref a, .ref a])) p3 (.lst [.ref a, .ref a])) p4 (.tup [.ref a, .str "?x"])) p5 (.tup [.non, .ref a])) p6 (.tup [.str "Ab"])) p7 (.tup [.ref a, .ref p6])) p8 (.tup [])) (a := M) (o := .lst [.ref p1, .ref p2, .ref p3, .ref p4, .ref p5, .ref a, .int 5, .non, .ref p7, .ref p8])
  generalize upd (upd (upd (upd (upd (upd (upd (upd (upd H p1 (.tup [.ref a])) p2 (.tup [.ref a, .ref a, .ref a])) p3 (.lst [.ref a, .ref a])) p4 (.tup [.ref a, .str "?x"])) p5 (.tup [.non, .ref a])) p6 (.tup [.str "Ab"])) p7 (.tup [.ref a, .ref p6])) p8 (.tup [])) M (.lst [.ref p1, .ref p2, .ref p3, .ref p4, .ref p5, .ref a, .int 5, .non, .ref p7, .ref p8]) = H1 at S g1 g2 g3 g4 g5 g6 g7 g8 gM ⊢
  clear t2 t3 t4 t5 t6 t7 t8 s1 s2 s3 s4 s5 s6 s7 s8 s9
  have ra1 := ra (S _ _ ha)
  have lr : RepL H1 [.ref p1, .ref p2, .ref p3, .ref p4, .ref p5, .ref a, .int 5, .non, .ref p7, .ref p8] (badTs (.tup [.str z])) :=
    .cons (.tup g1 (by show 1 ≤ 100; decide) (.cons ra1 .nil)) (.cons (.tup g2 (by show 3 ≤ 100; decide) (.cons ra1 (.cons ra1 (.cons ra1 .nil)))) (.cons (.ls g3) (.cons (.tup g4 (by show 2 ≤ 100; decide) (.cons ra1 (.cons (rstr "?x") .nil))) (.cons (.tup g5 (by show 2 ≤ 100; decide) (.cons .non (.cons ra1 .nil))) (.cons ra1 (.cons (.int 5) (.cons .non
      (.cons (.tup g7 (by show 2 ≤ 100; decide) (.cons ra1 (.cons (.tup g6 (by show 1 ≤ 100; decide) (.cons (rstr "Ab") .nil)) .nil))) (.cons (.tup g8 (by show 0 ≤ 100; decide) .nil) .nil)))))))))
  have D1 := hD.same S
  refine ⟨_, rfl, _, rfl, _, _, rfl, .inl ⟨_, SqL.of (S _ _ hL), rfl⟩, _, _, rfl, rfl, d, c, _, rfl, by omega, by omega, D1, fun r2 H2 r20 r21 u2 => ?_⟩
  refine ⟨_, rfl, d, c, 3, rfl, by decide, by decide, u2.dr, fun r3 H3 _ _ u3 => ⟨rfl, _, rfl, ite2 (fun _ => ?_) (fun _ => ?_)⟩⟩
  · have u23 := u2.trans u3
    have ha3 := u23.tup D1 (S _ _ ha)
    refine fun pd hpd => ⟨_, rfl, _, rfl, l2, fun pt hpt => ⟨by show 6 ≤ sizeLine; decide, fun pl hpl => ?_⟩⟩
    have sd := same_new (o := .dK []) hpd
    have st := same_new (o := .tup [.ref a, .ref a]) hpt
    have sl := same_new (o := .lst [.non, .ref pd, .str "ab", .int 5, .bl true, .ref pt]) hpl
    have S3 := sd.trans (st.trans sl)
    have D4 := u3.dr.same S3
    refine ⟨_, rfl, d, c, 6, rfl, by decide, by decide, D4, fun r4 H4 r40 r41 u4 => ?_⟩
    obtain ⟨j, rfl⟩ : ∃ j : Nat, r4 = (j : Int) := ⟨r4.toNat, by omega⟩
    have ha4 := u4.tup D4 (S3 _ _ ha3)
    have hpt4 := u4.tup D4 (sl _ _ (upd_same (a := pt) (o := .tup [.ref a, .ref a])))
    have hpl4 := u4.lst D4 (upd_same (a := pl) (o := .lst [.non, .ref pd, .str "ab", .int 5, .bl true, .ref pt]))
    have rd : Rep H4 (.ref pd) .dc := (Rep.dc (sl _ _ (st _ _ (upd_same (a := pd) (o := .dK []))))).wk (DUA.wk D4 u4)
    have U := (((DUA.same hD S).trans u23).then S3).trans u4
    have hj : j = 0 ∨ j = 1 ∨ j = 2 ∨ j = 3 ∨ j = 4 ∨ j = 5 := by omega
    rcases hj with rfl | rfl | rfl | rfl | rfl | rfl
    · exact ⟨pl, _, _, _, rfl, rfl, SqL.of hpl4, atI_nat (j := 0) rfl, q _ H4 (.inr ⟨.non, .non, rfl, rfl⟩) U⟩
    · exact ⟨pl, _, _, _, rfl, rfl, SqL.of hpl4, atI_nat (j := 1) rfl, q _ H4 (.inr ⟨.dc, rd, rfl, rfl⟩) U⟩
    · exact ⟨pl, _, _, _, rfl, rfl, SqL.of hpl4, atI_nat (j := 2) rfl, q _ H4 (.inr ⟨.str "ab", rstr "ab", rfl, rfl⟩) U⟩
    · exact ⟨pl, _, _, _, rfl, rfl, SqL.of hpl4, atI_nat (j := 3) rfl, q _ H4 (.inr ⟨.int 5, .int 5, rfl, rfl⟩) U⟩
    · exact ⟨pl, _, _, _, rfl, rfl, SqL.of hpl4, atI_nat (j := 4) rfl, q _ H4 (.inr ⟨.bl true, .bl true, rfl, rfl⟩) U⟩
    · exact ⟨pl, _, _, _, rfl, rfl, SqL.of hpl4, atI_nat (j := 5) rfl, q _ H4 (.inl ⟨[.tup [.str z], .tup [.str z]], ⟨pt, _, rfl, .inr hpt4, by show 2 ≤ 100; decide, .cons (ra ha4) (.cons (ra ha4) .nil)⟩, .tup [.str z], List.mem_cons_self, rfl⟩) U⟩
  · obtain ⟨i, rfl⟩ : ∃ i : Nat, r2 = (i : Int) := ⟨r2.toNat, by omega⟩
    have u23 := u2.trans u3
    have hL3 := u23.lst D1 (S _ _ hL)
    have gM3 := u23.lst D1 gM
    refine ⟨_, rfl, _, rfl, (i : Int), rfl, L, xs, rfl, SqL.of hL3, fun q1 hq1 => ?_⟩
    rw [cutV_hi]
    have e1 := same_new (o := .lst (xs.take i)) hq1
    have D4 := u3.dr.same e1
    refine ⟨_, rfl, _, rfl, d, c, 10, rfl, by decide, by decide, D4, fun r5 H5 r50 r51 u5 => ?_⟩
    obtain ⟨j, rfl⟩ : ∃ j : Nat, r5 = (j : Int) := ⟨r5.toNat, by omega⟩
    have w5 := (DUA.same D1 (Same.refl H1)).trans (u23.trans ((DUA.same u3.dr e1).trans u5))
    have W5 := DUA.wk D1 w5
    obtain ⟨v, hv⟩ : ∃ v, ([.ref p1, .ref p2, .ref p3, .ref p4, .ref p5, .ref a, .int 5, .non, .ref p7, .ref p8] : List V)[j]? = some v := ⟨_, List.getElem?_eq_getElem (by show j < 10; omega)⟩
    obtain ⟨t, ht, rt⟩ := lr.get' hv
    refine ⟨M, _, _, _, rfl, rfl, SqL.of (u5.lst D4 (e1 _ _ gM3)), atI_nat hv, l1, fun q2 hq2 => ?_⟩
    have e2 := same_new (o := .lst [v]) hq2
    refine ⟨q1, q2, _, _, rfl, rfl, e2 _ _ (u5.lst D4 upd_same), upd_same, Nat.le_of_lt (small1000 (by rw [List.length_take, List.length_singleton]; omega)), fun q3 hq3 => ?_⟩
    have e3 := same_new (o := .lst (xs.take i ++ [v])) hq3
    have hL5 := e3 _ _ (e2 _ _ (u5.lst D4 (e1 _ _ hL3)))
    refine ⟨_, rfl, _, rfl, (i : Int), rfl, L, xs, rfl, SqL.of hL5, fun q4 hq4 => ?_⟩
    rw [cutV_lo]
    have e4 := same_new (o := .lst (xs.drop i)) hq4
    refine ⟨q3, q4, _, _, rfl, rfl, e4 _ _ upd_same, upd_same, Nat.le_of_lt (small1000 (by rw [List.length_append, List.length_take, List.length_singleton, List.length_drop]; omega)), fun q5 hq5 => ?_⟩
    have e5 := same_new (o := .lst (xs.take i ++ [v] ++ xs.drop i)) hq5
    have E5 := e2.trans (e3.trans (e4.trans e5))
    have rl' := ((rl.wk (Wk.same S)).wk W5).wk (Wk.same E5)
    have rt' := (rt.wk W5).wk (Wk.same E5)
    refine q _ _ (.inl ⟨ts.take i ++ [t] ++ ts.drop i, ⟨q5, _, rfl, .inl upd_same, ?_, ((rl'.take i).append (RepL.one rt')).append (rl'.drop i)⟩, t, List.mem_append_left _ (List.mem_append_right _ List.mem_cons_self), bad_all t (List.mem_of_getElem? ht)⟩) (((DUA.same hD S).trans w5).then E5)
    rw [List.length_append, List.length_append, List.length_take, List.length_singleton, List.length_drop]
    omega
end
end Kt
namespace Kt
open PySem PySem.Spec PyProof.Rows L2
theorem isHl_out {z : Str} (h : isHl z = true) : ∃ l, z.cps.toList = 63 :: l ∧ 1 ≤ l.length ∧ l.length ≤ 4 ∧ l.all lowc = true := by
  unfold isHl at h
  rw [Bool.and_eq_true] at h
  obtain ⟨h1, h2⟩ := h
  have h1 := V.str.inj (of_decide_eq_true h1)
  have e1 : (cutS z none (some 1)).cps.toList = [63] := by
    rw [h1]
    decide +kernel
  have e1 : (z.cps.toList.drop (HT.sIx z.length 0 none)).take (HT.sIx z.length z.length (some ((1 : Nat) : Int)) - HT.sIx z.length 0 none) = [63] := e1
  rw [HT.sIx_none, HT.sIx_nat] at e1
  have e2 : (cutS z (some 1) none).cps.toList = (z.cps.toList.drop (HT.sIx z.length 0 (some ((1 : Nat) : Int)))).take (HT.sIx z.length z.length none - HT.sIx z.length 0 (some ((1 : Nat) : Int))) := rfl
  rw [HT.sIx_none, HT.sIx_nat] at e2
  have zl : z.length = z.cps.toList.length := rfl
  cases hz : z.cps.toList with
  | nil =>
    rw [hz, List.drop_nil, List.take_nil] at e1
    cases e1
  | cons c l =>
    rw [hz, List.length_cons] at zl
    rw [hz, Nat.min_eq_left (by omega)] at e1
    have e1 : [c] = [63] := e1
    cases e1
    rw [hz, Nat.min_eq_left (by omega)] at e2
    have e2 : (cutS z (some 1) none).cps.toList = l.take (z.length - 1) := e2
    rw [List.take_of_length_le (by omega)] at e2
    obtain ⟨g1, g2, g3⟩ := isW_out h2
    rw [len_list, e2] at g1 g2
    rw [e2] at g3
    exact ⟨l, rfl, g1, by omega, g3⟩
end Kt
namespace Kt
open PySem PySem.Spec PyProof.Rows L2
/-! ### things as data; texts tell things apart -/
mutual
def Th.da : Th → PyData
  | .non => .none
  | .bl b => .bool b
  | .int i => .int i
  | .str z => .str z
  | .tup l => .tuple (daL l)
  | .ls => .list []
  | .dc => .list []
def daL : List Th → List PyData
  | [] => []
  | p :: ps => p.da :: daL ps
end
mutual
theorem dp_of {K : PySem.W.Frag} {H : Hp} : ∀ {b : Bool} (t : Th) {v : V}, t.shape b = true → Rep H v t → Dp K H v t.da
  | _, .str z, _, _, r => by
    cases r with
    | str z hz ok => exact .str z
  | _, .tup [], _, h, _ => by cases h
  | b, .tup (x :: ps), _, hs, r => by
    have hs : (decide (ps.length < 4) && (x.word 8 && shapeL b ps)) = true := hs
    simp only [Bool.and_eq_true, decide_eq_true_eq] at hs
    cases r with
    | tup ha hn hl =>
      cases hl with
      | cons hx hps =>
        cases x with
        | str z =>
          cases hx with
          | str z hz ok => exact .tup (SqT.of ha) (.cons (.str z) (dp_ofL ps hs.2.2 hps))
        | _ => cases hs.2.1
  | _, .non, _, h, _ | _, .bl _, _, h, _ | _, .int _, _, h, _ | _, .ls, _, h, _ | _, .dc, _, h, _ => by cases h
theorem dp_ofL {K : PySem.W.Frag} {H : Hp} : ∀ {b : Bool} (l : List Th) {vs : List V}, shapeL b l = true → RepL H vs l → DpAll K H vs (daL l)
  | _, [], _, _, r => by
    cases r
    exact .nil
  | b, p :: ps, _, hs, r => by
    have hs : (p.shape b && shapeL b ps) = true := hs
    rw [Bool.and_eq_true] at hs
    cases r with
    | cons h r => exact .cons (dp_of p hs.1 h) (dp_ofL ps hs.2 r)
end
theorem canStr {z : Str} (h : okS z) : (PyData.str z).canLay0 = true := by
  simp only [PyData.canLay0, PyData.strOk, Array.all_eq_true_iff_forall_mem, decide_eq_true_eq]
  intro x hx
  exact h x (Array.mem_toList_iff.mpr hx)
theorem isHl_ok {z : Str} (h : isHl z = true) : okS z := by
  obtain ⟨l, e, _, _, h3⟩ := isHl_out h
  intro c hc
  rw [e] at hc
  rcases List.mem_cons.mp hc with rfl | hc
  · decide
  · exact lowc_lt (List.all_eq_true.mp h3 c hc)
mutual
theorem can_da {b : Bool} : ∀ t : Th, t.shape b = true → t.da.canLay0 = true ∧ t.da.depth ≤ t.dep
  | .str z, h => by
    have h : (b && isHl z) = true := h
    rw [Bool.and_eq_true] at h
    exact ⟨canStr (isHl_ok h.2), Nat.zero_le _⟩
  | .tup [], h => by cases h
  | .tup (x :: ps), hs => by
    have hs : (decide (ps.length < 4) && (x.word 8 && shapeL b ps)) = true := hs
    simp only [Bool.and_eq_true, decide_eq_true_eq] at hs
    cases x with
    | str z =>
      obtain ⟨h1, h2⟩ := can_daL ps hs.2.2
      have hz := okS_low (isW_out (show isW z 8 = true from hs.2.1)).2.2
      refine ⟨?_, ?_⟩
      · show ((PyData.str z).canLay0 && PyData.canLayAll0 (daL ps)) = true
        rw [canStr hz, h1]
        rfl
      · show max (PyData.str z).depth (PyData.depthAll (daL ps)) + 1 ≤ 1 + depL ps
        have : (PyData.str z).depth = 0 := rfl
        omega
    | _ => cases hs.2.1
  | .non, h | .bl _, h | .int _, h | .ls, h | .dc, h => by cases h
theorem can_daL {b : Bool} : ∀ l : List Th, shapeL b l = true → PyData.canLayAll0 (daL l) = true ∧ PyData.depthAll (daL l) ≤ depL l
  | [], _ => ⟨rfl, Nat.le_refl _⟩
  | p :: ps, hs => by
    have hs : (p.shape b && shapeL b ps) = true := hs
    rw [Bool.and_eq_true] at hs
    obtain ⟨h1, h2⟩ := can_da p hs.1
    obtain ⟨h3, h4⟩ := can_daL ps hs.2
    refine ⟨?_, ?_⟩
    · show (p.da.canLay0 && PyData.canLayAll0 (daL ps)) = true
      rw [h1, h3]
      rfl
    · show max p.da.depth (PyData.depthAll (daL ps)) ≤ max p.dep (depL ps)
      omega
end
theorem shaped_da {b : Bool} {t : Th} (h : within b t = true) : SeqAt.shaped t.da = true := by
  obtain ⟨h1, h2, _⟩ := within_iff.mp h
  obtain ⟨h3, h4⟩ := can_da t h1
  unfold SeqAt.shaped
  rw [h3, decide_eq_true (by omega)]
  rfl
mutual
theorem eqv_da {b c : Bool} : ∀ t u : Th, t.shape b = true → u.shape c = true → (PyData.eqv t.da u.da = true ↔ t = u)
  | .str z, .str y, _, _ => by
    show (z == y) = true ↔ _
    rw [beq_iff_eq]
    exact ⟨fun e => by rw [e], fun e => Th.str.inj e⟩
  | .str z, .tup l, _, _ => ⟨fun h => (by cases h), fun h => (by cases h)⟩
  | .tup l, .str z, _, _ => ⟨fun h => (by cases h), fun h => (by cases h)⟩
  | .tup [], _, h, _ => by cases h
  | .tup (_ :: _), .tup [], _, h => by cases h
  | .tup (x :: ps), .tup (y :: qs), hs, hu => by
    have hs : (decide (ps.length < 4) && (x.word 8 && shapeL b ps)) = true := hs
    have hu : (decide (qs.length < 4) && (y.word 8 && shapeL c qs)) = true := hu
    simp only [Bool.and_eq_true, decide_eq_true_eq] at hs hu
    have ih := eqv_daL ps qs hs.2.2 hu.2.2
    cases x with
    | str z =>
      cases y with
      | str z' =>
        show ((z == z') && PyData.eqvAll (daL ps) (daL qs)) = true ↔ _
        rw [Bool.and_eq_true, ih, beq_iff_eq]
        exact ⟨fun ⟨e1, e2⟩ => by rw [e1, e2], fun e => by
          have := Th.tup.inj e
          exact ⟨Th.str.inj (List.cons.inj this).1, (List.cons.inj this).2⟩⟩
      | _ => cases hu.2.1
    | _ => cases hs.2.1
  | .non, _, h, _ | .bl _, _, h, _ | .int _, _, h, _ | .ls, _, h, _ | .dc, _, h, _ => by cases h
  | .str _, .non, _, h | .str _, .bl _, _, h | .str _, .int _, _, h | .str _, .ls, _, h | .str _, .dc, _, h => by cases h
  | .tup (_ :: _), .non, _, h | .tup (_ :: _), .bl _, _, h | .tup (_ :: _), .int _, _, h | .tup (_ :: _), .ls, _, h | .tup (_ :: _), .dc, _, h => by cases h
theorem eqv_daL {b c : Bool} : ∀ l r : List Th, shapeL b l = true → shapeL c r = true → (PyData.eqvAll (daL l) (daL r) = true ↔ l = r)
  | [], [], _, _ => ⟨fun _ => rfl, fun _ => rfl⟩
  | [], _ :: _, _, _ => ⟨fun h => (by cases h), fun h => (by cases h)⟩
  | _ :: _, [], _, _ => ⟨fun h => (by cases h), fun h => (by cases h)⟩
  | p :: ps, q :: qs, hs, hu => by
    have hs : (p.shape b && shapeL b ps) = true := hs
    have hu : (q.shape c && shapeL c qs) = true := hu
    rw [Bool.and_eq_true] at hs hu
    show (PyData.eqv p.da q.da && PyData.eqvAll (daL ps) (daL qs)) = true ↔ _
    rw [Bool.and_eq_true, eqv_da p q hs.1 hu.1, eqv_daL ps qs hs.2 hu.2]
    exact ⟨fun ⟨e1, e2⟩ => by rw [e1, e2], fun e => List.cons.inj e⟩
end
end Kt
namespace Kt
open PySem PySem.Spec PyProof.Rows L2
/-! ### a def called by its two names, the other way about -/
structure ClS (P : Program) (w : World) (K : PySem.W.Frag) (mg : Str → Option Value) (base : Heap) (k : Nat) (x a b : Str) (sp : Sp) : Prop where
  ex : ∃ (f : Addr) (fd : FuncData), FnOk P w K mg base CX0 k f fd [a, b] sp ∧ mg x = some (.ref f) ∧ PySem.W.keepIn K (.ref f) = true ∧ ∀ (s : Shared) (u v : Value), BindsTo s fd ⟨[], [(b, v), (a, u)]⟩ [(a, u), (b, v)]
def tCKs (sp : Sp) (tk : TA) : TE := fun σ H Q => tk σ H fun zs H2 => ∃ v u, zs = [v, u] ∧ sp [u, v] H2 Q E0
theorem pe_clSw {X : Cx} {k j : Nat} {x a b : Str} {sp : Sp} {p pos : Pos} {kws : List Keyword} {tk : TA} (cl : ClS X.prog X.w X.K X.mg X.base k x a b sp) (hr : Room j X.A) (hk : k ≤ j) (hg : Gl X x) (hkw : PK X kws tk)
    (named : (backToKw pos (keywordEach kws X.env)).all (·.1.isSome) = true := by rfl) (names : (backToKw pos (keywordEach kws X.env)).filterMap (·.1) = [b, a] := by rfl) (nodb : (x == ("__debug__" : Str)) = false := by decide)
    (plain : ((backTo pos (starEach [] X.env)).any (·.1) || (backToKw pos (keywordEach kws X.env)).any (·.1.isNone)) = false := by rfl) : PE X (.Call (.Name x p) [] kws pos) (tCKs sp tk) := by
  obtain ⟨f, fd, ok, at_, kp, binds⟩ := cl.ex
  constructor
  intro pins s σ H Q inv told
  apply wpAny_Call_Name_kw (ld_glob inv hg at_ ?_ nodb)
  apply PySem.W.callWith_KW0 (h₀ := X.base) inv.ok.mod.kin kp named ?_ plain
  refine thn (hkw.run pos pins s σ H _ inv told) fun ws s2 ⟨zs, H2, inv2, rel, v, u, e, q2⟩ => ⟨inv2.kIn, ?_⟩
  subst e
  rw [names]
  obtain ⟨wv, wu, rfl, rv, ru⟩ := vals2 rel
  refine wpAny_call (codeAny_mono (ok.run X.A X.stack s2 H2 ⟨[], [(b, wv), (a, wu)]⟩ [wu, wv] [u, v] Q E0 (hr.mono hk) inv2.env0 (binds s2 wu wv) (.cons ru (.cons rv .nil)) q2) fun out s' done => ?_)
  match out, done with
  | .error e, done => exact pass0 pins σ H2 s2 e s' inv2 done
  | .ok (.ret _), done => exact inv2.after done
  | .ok .next, done => exact done.elim
  | .ok .brk, done => exact done.elim
  | .ok .cont, done => exact done.elim
end Kt
namespace Kt
open PySem PySem.Spec PyProof.Rows L2
/-! ### the law -/
def sp_law (K : PySem.W.Frag) : Sp := fun vs H Q _ => ∃ (a : Addr) (ns : List Int), vs = [.ref a] ∧ SqL K H a (ns.map V.int) ∧ ns.length ≤ 63 ∧ ∀ H', Q (.bl true) H'
def pairD (t : Th) : PyData := match t with | .tup [x, y] => .tuple [x.da, y.da] | _ => .none
theorem dp_pairs {K : PySem.W.Frag} {H : Hp} : ∀ {vs : List V} {ts : List Th}, RepL H vs ts → (∀ t ∈ ts, pairT t = true) → DpAll K H vs (ts.map pairD) ∧ PyData.canLayAll0 (ts.map pairD) = true ∧ PyData.depthAll (ts.map pairD) ≤ 10
  | _, _, .nil, _ => ⟨.nil, rfl, by decide⟩
  | _, _, .cons (t := t) h r, ok => by
    obtain ⟨g1, g2, g3⟩ := dp_pairs r fun t ht => ok t (List.mem_cons_of_mem _ ht)
    obtain ⟨x, y, rfl, wx, wy⟩ := pair_of (ok t List.mem_cons_self)
    obtain ⟨x1, x2, _⟩ := within_iff.mp wx
    obtain ⟨y1, y2, _⟩ := within_iff.mp wy
    obtain ⟨x3, x4⟩ := can_da x x1
    obtain ⟨y3, y4⟩ := can_da y y1
    cases h with
    | tup ha hn hl =>
      cases hl with
      | cons rx hl =>
        cases hl with
        | cons ry hl =>
          cases hl
          refine ⟨.cons (.tup (SqT.of ha) (.cons (dp_of x x1 rx) (.cons (dp_of y y1 ry) .nil))) g1, ?_, ?_⟩
          · show ((x.da.canLay0 && (y.da.canLay0 && true)) && PyData.canLayAll0 _) = true
            rw [x3, y3, g2]
            rfl
          · show max (max x.da.depth (max y.da.depth 0) + 1) (PyData.depthAll _) ≤ 10
            omega
theorem iteSame {p q : Prop} {x : V} (h : q) : if (!decide (x = x)) = true then p else q := by
  rw [decide_eq_true rfl]
  exact h
theorem no_terms {z : Str} : ∀ t ∈ ([.non, .str "?x", .tup [.str "Ab"], .ls, .tup [.tup [.str z], .int 5], .int 0, .tup []] : List Th), within false t = false := by
  intro t ht
  simp only [List.mem_cons, List.not_mem_nil, or_false] at ht
  rcases ht with rfl | rfl | rfl | rfl | rfl | rfl | rfl
  · decide +kernel
  · decide +kernel
  · decide +kernel
  · decide +kernel
  · rfl
  · decide +kernel
  · decide +kernel
def sp_value0 (w : World) : Sp := fun vs H Q _ => ∃ b size D rows rest v t, vs = [.ref b, v] ∧ BoardA w H b size D rows rest ∧ Rep H v t ∧ within false t = true ∧ ∀ H', Same H H' → Q (.int (t.wT rows rest)) H'
def sp_rtable0 (w : World) : Sp := fun vs H Q _ => ∃ b size D rows rest, vs = [.ref b] ∧ BoardA w H b size D rows rest ∧ ∀ H', Same H H' → Q .non H'
def sp_rterm0 : Sp := fun vs H Q _ => ∃ v t, vs = [v] ∧ Rep H v t ∧ within false t = true ∧ ∀ H', Same H H' → Q .non H'
theorem HsA.grow {H : Hp} {h : Addr} {rs rs' : List V} {hs hs' : List (Str × Nat)} {m : Addr} (a : HsA H h rs hs) (hm : H m = some (.lst (rs ++ rs'))) (b : HdsAt H rs' hs') (ok : okHs hs') (few : hs.length + hs'.length ≤ 20) : HsA H m (rs ++ rs') (hs ++ hs') :=
  ⟨hm, a.hat.app b, fun x hx => (List.mem_append.mp hx).elim (a.ok x) (ok x), by rw [List.length_append]; exact few, by obtain ⟨z, r, e⟩ := a.fst; exact ⟨z, r ++ hs', by rw [e]; rfl⟩⟩
/-- what stands through the law -/
structure JA (K : PySem.W.Frag) (d c h m pa : Addr) (rs rs2 : List V) (hs hs2 : List (Str × Nat)) (z : Str) (H : Hp) : Prop where
  dr : DrA K d c H
  hh : HsA H h rs hs
  hm : HsA H m rs2 hs2
  ha : H pa = some (.tup [.str z])
theorem JA.du {K : PySem.W.Frag} {d c h m pa : Addr} {rs rs2 : List V} {hs hs2 : List (Str × Nat)} {z : Str} {H H' : Hp} (j : JA K d c h m pa rs rs2 hs hs2 z H) (u : DUA K d c H H') : JA K d c h m pa rs rs2 hs hs2 z H' := ⟨u.dr, j.hh.du j.dr u, j.hm.du j.dr u, u.tup j.dr j.ha⟩
section
variable {P : Program} {w : World} {K : PySem.W.Frag} {mg : Str → Option Value} {base : Heap}
theorem c_refuse_no_table (T : Tx K mg) : Cl P w K mg base CX0 5 "refuse_no_table" ["thing"] (sp_rtable0 w) := by
  refine Cl.mk0 T.d_refuse_no_table sc_refuse_no_table (fun vs H Q E h => ?_) (fun f cdv A outer s H vs Q E hr h => ?_)
  · obtain ⟨b, size, D, rows, rest, rfl, _⟩ := h
    rfl
  obtain ⟨b, size, D, rows, rest, rfl, hB, q⟩ := h
  refine ⟨_, (pss_one (ps_if (pt_not (pt_val (pe_cl (c_is_table T) hr (by omega) rfl (pa_cons (pv 0) pa_nil))))
      (pss_one ps_never)
      pss_nil)), ?_⟩
  exact ⟨_, rfl, .inl ⟨b, size, D, rows, rest, rfl, hB, fun H' s' => ⟨_, rfl, iteF (q H' s')⟩⟩⟩
theorem c_refuse_no_term (T : Tx K mg) : Cl P w K mg base CX0 10 "refuse_no_term" ["thing"] sp_rterm0 := by
  refine Cl.mk0 T.d_refuse_no_term sc_refuse_no_term (fun vs H Q E h => ?_) (fun f cdv A outer s H vs Q E hr h => ?_)
  · obtain ⟨v, t, rfl, _⟩ := h
    rfl
  obtain ⟨v, t, rfl, r, hw, q⟩ := h
  refine ⟨_, (pss_one (ps_if (pt_not (pt_val (pe_cl (c_is_term T) hr (by omega) rfl (pa_cons (pv 0) pa_nil))))
      (pss_one ps_never)
      pss_nil)), ?_⟩
  refine ⟨_, rfl, v, t, rfl, r, fun H' s' => ⟨_, rfl, ?_⟩⟩
  rw [hw]
  exact iteF (q H' s')
theorem c_value (T : Tx K mg) : Cl P w K mg base CX0 11 "value" ["table", "term"] (sp_value0 w) := by
  refine Cl.mk0 T.d_value sc_value (fun vs H Q E h => ?_) (fun f cdv A outer s H vs Q E hr h => ?_)
  · obtain ⟨b, size, D, rows, rest, v, t, rfl, _⟩ := h
    rfl
  obtain ⟨b, size, D, rows, rest, v, t, rfl, hB, r, hw, q⟩ := h
  have c_refuse_no_table := fun (T : Tx K mg) => c_refuse_no_table (P := P) (w := w) (base := base) T
  refine ⟨_, (pss_cons (ps_expr (pe_cl (c_refuse_no_table T) hr (by omega) rfl (pa_cons (pv 0) pa_nil)))
    (pss_cons (ps_expr (pe_cl (c_refuse_no_term T) hr (by omega) rfl (pa_cons (pv 1) pa_nil)))
    (pss_one (ps_ret (pe_cl (c_worth T) hr (by omega) rfl (pa_cons (pv 0) (pa_cons (pv 1) (pa_cons pe_dnewK pa_nil)))))))), ?_⟩
  obtain ⟨h1, h2, _⟩ := within_iff.mp hw
  refine ⟨_, rfl, b, size, D, rows, rest, rfl, hB, fun H1 s1 => ⟨_, rfl, v, t, rfl, r.wk (Wk.same s1), hw, fun H2 s2 => ⟨_, rfl, _, rfl, fun p hp => ?_⟩⟩⟩
  have s3 := (s1.trans s2).trans (same_new (o := .dK []) hp)
  exact ⟨b, size, D, rows, rest, v, .ref p, t, rfl, hB.same s3, r.wk (Wk.same s3), h1, h2, fun H' s' => q H' (s3.trans s')⟩
theorem ck_value_sw (T : Tx K mg) (Z : ProgF P) : ClS P w K mg base 11 "value" "table" "term" (sp_value0 w) := by
  obtain ⟨f, fd, ok, m, kp, b, oc, od, osl, lk⟩ := (c_value (P := P) (w := w) (base := base) T).ex
  obtain ⟨f', fd', F', m', b'⟩ := T.d_value.ex
  rw [m] at m'
  cases m'
  obtain ⟨oc', od', kV, doc, pm, an, cdv, ct, osl', rfl, lk', _⟩ := F'.ex
  rw [lk] at lk'
  cases lk'
  exact ⟨f, _, ok, m, kp, fun s u v => .of_eq rfl⟩
theorem law_ok (T : Tx K mg) (Z : ProgF P) {fa : Addr} {fd : FuncData} (F : Fun K "law" "law" s_law fa fd) : LawOk P w K mg base fa fd "_law_script" (sp_law K) := by
  have c__law_said := fun (T : Tx K mg) => c__law_said (P := P) (w := w) (base := base) T
  have c__law_worth := fun (T : Tx K mg) => c__law_worth (P := P) (w := w) (base := base) T
  have ck_value_sw := fun (T : Tx K mg) => ck_value_sw (P := P) (w := w) (base := base) T
  have c__law_table := fun (T : Tx K mg) => c__law_table (P := P) (w := w) (base := base) T
  have c__law_kept := fun (T : Tx K mg) => c__law_kept (P := P) (w := w) (base := base) T
  refine LawOk.by_body (k := 15) ⟨rfl, by decide, by decide⟩ F sc_law (fun cdv A s H a hg hr h => ?_)
  obtain ⟨a', ns, e, hS, hl, q⟩ := h
  obtain rfl : a = a' := V.ref.inj (List.cons.inj e).1
  refine ⟨_, (pss_cons (ps_set (i := 1) sc_law.nd rfl (Or.inl rfl) (pe_cl (c__law_begun T) hr (by omega) rfl (pa_cons (pv 0) pa_nil)))
    (pss_cons (ps_set (i := 2) sc_law.nd rfl (Or.inl rfl) (pe_cl (c__law_heads T) hr (by omega) rfl (pa_cons (pv 1) pa_nil)))
    (pss_cons (ps_set (i := 3) sc_law.nd rfl (Or.inl rfl) (pe_slice sl_tupA (pe_ix ix_list (pv 2) pe_int (fun _ _ => rfl)) po_no (po_some pe_int)))
    (pss_cons (ps_set (i := 4) sc_law.nd rfl (Or.inl rfl) (pe_op op_cat (pv 2) (pe_op op_rep (pe_lst (pa_cons (pe_tup (pa_cons pe_str (pa_cons pe_int pa_nil))) (pa_cons (pe_tup (pa_cons pe_str (pa_cons pe_int pa_nil))) pa_nil))) (pe_cl (c__law_take T) hr (by omega) rfl (pa_cons (pv 1) (pa_cons pe_int pa_nil))))))
    (Evl.pss_cut (ps_for PassesOwn.never rfl (pi_range1 (by rfl) T.z_range (pa_cons pe_int pa_nil)) (pg_name (i := 5) sc_law.nd rfl (Or.inl rfl))
      (pss_cons (ps_set (i := 6) sc_law.nd rfl (Or.inr rfl) (pe_cl (c__law_table T) hr (by omega) rfl (pa_cons (pv 1) (pa_cons (pv 2) (pa_cons (pe_ix ix_list (pe_lst (pa_cons pe_int (pa_cons pe_int (pa_cons pe_int (pa_cons (pe_op op_add pe_int (pe_cl (c__law_take T) hr (by omega) rfl (pa_cons (pv 1) (pa_cons pe_int pa_nil)))) (pa_cons pe_int (pa_cons pe_int pa_nil))))))) (pe_cl (c__law_take T) hr (by omega) rfl (pa_cons (pv 1) (pa_cons pe_int pa_nil))) (fun _ _ => rfl)) pa_nil)))))
      (pss_cons (ps_set (i := 7) sc_law.nd rfl (Or.inl rfl) (pe_callB (call_showB hg (room101 hr)) (by rfl) T.z_repr (by decide +kernel) (pa_cons (pv 6) pa_nil)))
      (Evl.pss_cut (ps_for PassesOwn.never rfl (pi_range1 (by rfl) T.z_range (pa_cons pe_int pa_nil)) (pg_name (i := 8) sc_law.nd rfl (Or.inl rfl))
        (pss_cons (ps_set (i := 9) sc_law.nd rfl (Or.inl rfl) (pe_cl (c__law_term T) hr (by omega) rfl (pa_cons (pv 1) (pa_cons (pv 4) (pa_cons (pe_op op_add pe_int (pe_cl (c__law_take T) hr (by omega) rfl (pa_cons (pv 1) (pa_cons pe_int pa_nil)))) pa_nil)))))
        (pss_cons (ps_set (i := 10) sc_law.nd rfl (Or.inl rfl) (pe_cl (c__law_said T Z) hr (by omega) rfl (pa_cons pe_int (pa_cons (pv 6) (pa_cons (pv 9) pa_nil)))))
        (Evl.pss_cut (ps_if (PW.pt (pw_or (pt_not (pt_val (pe_callB (id := "isinstance") (r := rIsi K) call_isi (by rfl) T.z_isinstance (by decide +kernel) (pa_cons (pv 10) (pa_cons (pe_bltn (v := .ty "int") (u := .type "int") (by rfl) T.z_int (by decide +kernel) rfl) pa_nil))))) (pw_or (pt_val (pe_callB (id := "isinstance") (r := rIsi K) call_isi (by rfl) T.z_isinstance (by decide +kernel) (pa_cons (pv 10) (pa_cons (pe_bltn (v := .ty "bool") (u := .type "bool") (by rfl) T.z_bool (by decide +kernel) rfl) pa_nil)))) (pw_or1 (pt_cmpR op_ne (pv 10) (pe_cl (c__law_worth T) hr (by omega) rfl (pa_cons (pv 6) (pa_cons (pv 9) pa_nil))) (nomark _))))))
          (pss_one (ps_ret pe_bl))
          pss_nil)
        (pss_one (ps_if (pt_cmpR op_ne (pe_clSw (ck_value_sw T Z) hr (by omega) rfl (pk_cons (pv 9) (pk_cons (pv 6) pk_nil))) (pv 10) (nomark _))
          (pss_one (ps_ret pe_bl))
          pss_nil))))))
      (pss_cons (ps_set (i := 11) sc_law.nd rfl (Or.inl rfl) (pe_cl (c__law_kept T) hr (by omega) rfl (pa_cons (pv 1) (pa_cons (pv 4) (pa_cons (pv 6) pa_nil)))))
      (pss_cons (ps_set (i := 12) sc_law.nd rfl (Or.inl rfl) (pe_cmpR (op_eqD hr.units) (pe_lc (own := [("_law_two", 15)]) (g := gName 15) rfl sc_law.nd (pi_list (pv 11)) (blkOk_by (own := [("_law_two", 15)]) (N := ["_law_script", "_law_state", "_law_heads_here", "_law_a", "_law_more", "_law_turn", "_law_board", "_law_kept_here", "_law_k", "_law_thing", "_law_found", "_law_some", "_law_due", "_law_odd", "_law_bad", "_law_two"]) (sc := defScope s_law) (by decide +kernel)) (fun _ _ _ _ _ => (pg_name (i := 15) sc_law.nd rfl (Or.inl rfl))) (fun _ _ _ _ _ => (pts_one (pt_cmpR op_ne (pe_cl (c__law_worth T) hr (by omega) rfl (pa_cons (pv 6) (pa_cons (pe_ix (r := rIxT K) ix_tup (pv 15) pe_int (fun _ _ => rfl)) pa_nil))) (pe_cl (c__law_worth T) hr (by omega) rfl (pa_cons (pv 6) (pa_cons (pe_ix (r := rIxT K) ix_tup (pv 15) pe_int (fun _ _ => rfl)) pa_nil))) (nomark _)))) (fun _ _ _ _ _ => (pv 15))) (pe_lst pa_nil) (nomark _)))
      (pss_cons (ps_set (i := 10) sc_law.nd rfl (Or.inl rfl) (pe_cl (c__law_said T Z) hr (by omega) rfl (pa_cons pe_int (pa_cons (pv 6) (pa_cons (pe_ifExp (pt_cmpR op_eq (pe_cl (c__law_take T) hr (by omega) rfl (pa_cons (pv 1) (pa_cons pe_int pa_nil))) pe_int (nomark _)) (pe_callTy call_tuple_of (by rfl) T.z_tuple (by decide +kernel) (pa_cons (pv 11) pa_nil)) (pv 11)) pa_nil)))))
      (Evl.pss_cut (ps_if (PW.pt (pw_or (pt_not (pt_val (pe_callB (id := "isinstance") (r := rIsi K) call_isi (by rfl) T.z_isinstance (by decide +kernel) (pa_cons (pv 10) (pa_cons (pe_bltn (v := .ty "bool") (u := .type "bool") (by rfl) T.z_bool (by decide +kernel) rfl) pa_nil))))) (pw_or (pt_cmpR op_ne (pv 10) (pv 12) (nomark _)) (pw_or1 (pt_cmpR op_ne (pe_callB (call_showB hg (room101 hr)) (by rfl) T.z_repr (by decide +kernel) (pa_cons (pv 6) pa_nil)) (pv 7) (nomark _))))))
        (pss_one (ps_ret pe_bl))
        pss_nil)
      (pss_cons (ps_set (i := 13) sc_law.nd rfl (Or.inl rfl) (pe_ix ix_list (pe_lst (pa_cons pe_non (pa_cons (pe_tup (pa_cons pe_int (pa_cons pe_dnewK (pa_cons pe_int pa_nil)))) (pa_cons (pe_slice sl_tupA (pv 6) po_no (po_some pe_int)) (pa_cons (pe_callTy call_list_of (by rfl) T.z_list (by decide +kernel) (pa_cons (pv 6) pa_nil)) (pa_cons (pe_tup (pa_cons (pe_ix ix_tup (pv 6) pe_int (fun _ _ => rfl)) (pa_cons (pe_ix ix_tup (pv 6) pe_int (fun _ _ => rfl)) (pa_cons (pe_ix ix_tup (pv 6) pe_int (fun _ _ => rfl)) pa_nil)))) (pa_cons pe_int pa_nil))))))) (pe_cl (c__law_take T) hr (by omega) rfl (pa_cons (pv 1) (pa_cons pe_int pa_nil))) (fun _ _ => rfl)))
      (pss_cons (ps_set (i := 14) sc_law.nd rfl (Or.inl rfl) (pe_cl (c__law_odd_list T) hr (by omega) rfl (pa_cons (pv 1) (pa_cons (pv 11) (pa_cons (pv 3) pa_nil)))))
      (Evl.pss_cut (ps_if (PW.pt (pw_or (pt_cmpR op_ne (pe_cl (c__law_said T Z) hr (by omega) rfl (pa_cons pe_int (pa_cons (pv 6) (pa_cons (pv 14) pa_nil)))) pe_str (nomark _)) (pw_or (pt_cmpR op_ne (pe_cl (c__law_said T Z) hr (by omega) rfl (pa_cons pe_int (pa_cons (pv 13) (pa_cons (pv 14) pa_nil)))) pe_str (nomark _)) (pw_or1 (pt_cmpR op_ne (pe_cl (c__law_said T Z) hr (by omega) rfl (pa_cons pe_int (pa_cons (pv 13) (pa_cons (pv 3) pa_nil)))) pe_str (nomark _))))))
        (pss_one (ps_ret pe_bl))
        pss_nil)
      (pss_cons (ps_set (i := 9) sc_law.nd rfl (Or.inl rfl) (pe_ix ix_list (pe_lst (pa_cons pe_non (pa_cons pe_str (pa_cons (pe_tup (pa_cons pe_str pa_nil)) (pa_cons (pe_lst (pa_cons (pv 3) pa_nil)) (pa_cons (pe_tup (pa_cons (pv 3) (pa_cons pe_int pa_nil))) (pa_cons pe_int (pa_cons (pe_tup pa_nil) pa_nil)))))))) (pe_cl (c__law_take T) hr (by omega) rfl (pa_cons (pv 1) (pa_cons pe_int pa_nil))) (fun _ _ => rfl)))
      (pss_one (ps_if (PW.pt (pw_or (pt_cmpR op_ne (pe_cl (c__law_said T Z) hr (by omega) rfl (pa_cons pe_int (pa_cons (pv 6) (pa_cons (pv 9) pa_nil)))) pe_str (nomark _)) (pw_or1 (pt_cmpR op_ne (pe_cl (c__law_said T Z) hr (by omega) rfl (pa_cons pe_int (pa_cons (pv 13) (pa_cons (pv 9) pa_nil)))) pe_str (nomark _)))))
        (pss_one (ps_ret pe_bl))
        pss_nil))))))))))))))
    (pss_one (ps_ret pe_bl))))))), ?_⟩
  have l1 : 1 ≤ sizeLine := by decide
  have l2 : 2 ≤ sizeLine := by decide
  have l3 : 3 ≤ sizeLine := by decide
  refine ⟨_, rfl, a, ns, rfl, hS, fun d H1 s1 hdn dr1 => ?_⟩
  refine ⟨_, rfl, d, a, rfl, dr1, fun h rs hs H2 u2 hhn hh hat ok few fst => ?_⟩
  obtain ⟨z, hr0, rfl⟩ := fst
  have hhA : HsA H2 h rs ((z, 0) :: hr0) := ⟨hh, hat, ok, by omega, z, hr0, rfl⟩
  obtain ⟨a0, ha0, hta0⟩ := hat.at (i := 0) (by rw [List.length_cons]; omega)
  have hta0 : H2 a0 = some (.tup [.str z, .int 0]) := hta0
  have hz : isW z 8 = true := (ok (z, 0) List.mem_cons_self).1
  refine ⟨_, rfl, h, _, _, _, rfl, rfl, SqL.of hh, atI_nat (j := 0) ha0, 1, rfl, sl_hi (K := K) 1 hta0 (by show 1 < 2; decide) fun pa hpa => ?_⟩
  have s3 := same_new (o := .tup [.str z]) hpa
  refine ⟨_, rfl, l2, fun z1 hz1 => ⟨l2, fun z2 hz2 => ⟨l2, fun zl hzl => ?_⟩⟩⟩
  have e1 := same_new (o := .tup [.str "zz", .int 0]) hz1
  have e2 := same_new (o := .tup [.str "zz", .int 1]) hz2
  have e3 := same_new (o := .lst [.ref z1, .ref z2]) hzl
  have S3 := s3.trans (e1.trans (e2.trans e3))
  refine ⟨_, rfl, d, a, 2, rfl, by decide, by decide, u2.dr.same S3, fun r H4 r0 r1 u4 => ?_⟩
  have hzl4 := u4.lst (u2.dr.same S3) (upd_same (a := zl) (o := .lst [.ref z1, .ref z2]))
  have hz14 := u4.tup (u2.dr.same S3) (e3 _ _ (e2 _ _ (upd_same (a := z1) (o := .tup [.str "zz", .int 0]))))
  have hz24 := u4.tup (u2.dr.same S3) (e3 _ _ (upd_same (a := z2) (o := .tup [.str "zz", .int 1])))
  have hhA4 := (hhA.same S3).du (u2.dr.same S3) u4
  have ha4 := u4.tup (u2.dr.same S3) (e3 _ _ (e2 _ _ (e1 _ _ (upd_same (a := pa) (o := .tup [.str z])))))
  refine ⟨zl, r, _, rfl, rfl, hzl4, by omega, by omega, ?_, fun q1 hq1 => ?_⟩
  · show 2 * r.toNat ≤ sizeLine
    exact Nat.le_of_lt (small1000 (by omega))
  have f1 := same_new (o := .lst (List.replicate r.toNat [V.ref z1, .ref z2]).flatten) hq1
  have zat : HdsAt H4 (List.replicate r.toNat [V.ref z1, .ref z2]).flatten (List.replicate r.toNat [(("zz" : Str), 0), (("zz" : Str), 1)]).flatten ∧ okHs (List.replicate r.toNat [(("zz" : Str), 0), (("zz" : Str), 1)]).flatten ∧ (List.replicate r.toNat [(("zz" : Str), 0), (("zz" : Str), 1)]).flatten.length ≤ 2 := by
    have hr2 : r.toNat = 0 ∨ r.toNat = 1 := by omega
    rcases hr2 with e | e
    · rw [e]
      exact ⟨.nil, fun _ h => (List.not_mem_nil h).elim, by decide⟩
    · rw [e]
      have zz := HdsAt.app (HdsAt.one (z := "zz") (n := 0) hz14) (HdsAt.one (z := "zz") (n := 1) hz24)
      refine ⟨zz, ?_, by decide⟩
      intro x hx
      rcases List.mem_cons.mp hx with rfl | hx
      · exact ⟨by decide +kernel, by decide⟩
      · rw [List.mem_singleton.mp hx]
        exact ⟨by decide +kernel, by decide⟩
  obtain ⟨zat1, zat2, zat3⟩ := zat
  have rsl : rs.length ≤ 10 := by rw [hat.len]; exact few
  have zln := zat1.len
  refine ⟨h, q1, rs, _, rfl, rfl, f1 _ _ hhA4.hl, upd_same, Nat.le_of_lt (small1000 (by omega)), fun m hm => ?_⟩
  have f2 := same_new (o := .lst (rs ++ (List.replicate r.toNat [V.ref z1, .ref z2]).flatten)) hm
  have F2 := f1.trans f2
  have J0 : JA K d a h m pa rs _ ((z, 0) :: hr0) _ z _ := ⟨u4.dr.same F2, hhA4.same F2, (hhA4.same F2).grow upd_same (zat1.wk fun _ _ q => F2 _ _ q) zat2 (by omega), F2 _ _ ha4⟩
  generalize rs ++ (List.replicate r.toNat [V.ref z1, .ref z2]).flatten = rs2 at J0 ⊢
  generalize ((z, 0) :: hr0) ++ (List.replicate r.toNat [(("zz" : Str), 0), (("zz" : Str), 1)]).flatten = hs2 at J0
  refine ⟨fun _ _ => True, ?_, fun σ' H' _ => q H'⟩
  refine ⟨3, rfl, by decide, by decide, ?_⟩
  refine for_range (lo := 0) (n := 3) (fun i σ' H' => ∃ x5 x6 x7 x8 x9 x10 x11 x12 x13 x14 x15, σ' = [some (.ref a), some (.ref d), some (.ref h), some (.ref pa), some (.ref m), x5, x6, x7, x8, x9, x10, x11, x12, x13, x14, x15] ∧ JA K d a h m pa rs rs2 ((z, 0) :: hr0) hs2 z H') ⟨_, _, _, _, _, _, _, _, _, _, _, rfl, J0⟩ (fun i σ' H5 hi kk => ?_) (fun _ _ _ => True.intro)
  obtain ⟨x5, x6, x7, x8, x9, x10, x11, x12, x13, x14, x15, rfl, J⟩ := kk
  refine ⟨_, rfl, _, rfl, _, rfl, d, a, 6, rfl, by decide, by decide, J.dr, fun r1 H6 r10 r11 u6 => ⟨_, _, rfl, rfl, by show 6 ≤ sizeLine; decide, fun pl hpl => ?_⟩⟩
  have g1 := same_new (o := .lst [.int 1, .int 2, .int 3, .int (1 + r1), .int 100, .int 2]) hpl
  refine ⟨_, rfl, d, a, 6, rfl, by decide, by decide, u6.dr.same g1, fun r2 H7 r20 r21 u7 => ?_⟩
  have hpl7 := u7.lst (u6.dr.same g1) (upd_same (a := pl) (o := .lst [.int 1, .int 2, .int 3, .int (1 + r1), .int 100, .int 2]))
  obtain ⟨j, rfl⟩ : ∃ j : Nat, r2 = (j : Int) := ⟨r2.toNat, by omega⟩
  obtain ⟨size, hsz, z1', z2'⟩ : ∃ size : Int, [V.int 1, .int 2, .int 3, .int (1 + r1), .int 100, .int 2][j]? = some (.int size) ∧ 1 ≤ size ∧ size ≤ 100 := by
    have hj : j = 0 ∨ j = 1 ∨ j = 2 ∨ j = 3 ∨ j = 4 ∨ j = 5 := by omega
    rcases hj with rfl | rfl | rfl | rfl | rfl | rfl
    · exact ⟨1, rfl, by decide, by decide⟩
    · exact ⟨2, rfl, by decide, by decide⟩
    · exact ⟨3, rfl, by decide, by decide⟩
    · exact ⟨1 + r1, rfl, by omega, by omega⟩
    · exact ⟨100, rfl, by decide, by decide⟩
    · exact ⟨2, rfl, by decide, by decide⟩
  have U7 : DUA K d a H5 H7 := (u6.then g1).trans u7
  have J7 := J.du U7
  refine ⟨pl, _, _, _, rfl, rfl, SqL.of hpl7, atI_nat hsz, d, a, h, rs, _, size, rfl, z1', z2', J7.dr, J7.hh, fun b D rows rest H8 hB8 u8 => ?_⟩
  have J8 := J7.du u8
  refine ⟨_, rfl, b, size, D, rows, rest, rfl, hB8, ?_⟩
  refine ⟨fun σ' H' => ∃ x8 x9 x10, σ' = [some (.ref a), some (.ref d), some (.ref h), some (.ref pa), some (.ref m), some (.int (0 + (i : Int))), some (.ref b), some (.str (dB size rows rest).shown), x8, x9, x10, x11, x12, x13, x14, x15] ∧ DUA K d a H8 H', ?_, fun σ9 H9 e9 => ?_⟩
  · refine ⟨3, rfl, by decide, by decide, ?_⟩
    refine for_range (lo := 0) (n := 3) (fun k σ' H' => ∃ x8 x9 x10, σ' = [some (.ref a), some (.ref d), some (.ref h), some (.ref pa), some (.ref m), some (.int (0 + (i : Int))), some (.ref b), some (.str (dB size rows rest).shown), x8, x9, x10, x11, x12, x13, x14, x15] ∧ DUA K d a H8 H') ⟨_, _, _, rfl, DUA.refl J8.dr⟩ (fun k σ' H9 hk kk => ?_) (fun _ _ kk => kk)
    obtain ⟨x8, x9, x10, rfl, u9⟩ := kk
    have J9 := J8.du u9
    refine ⟨_, rfl, _, rfl, _, rfl, d, a, 5, rfl, by decide, by decide, J9.dr, fun r3 H10 r30 r31 u10 => ⟨_, _, rfl, rfl, ?_⟩⟩
    obtain ⟨j3, rfl⟩ : ∃ j : Nat, r3 = (j : Int) := ⟨r3.toNat, by omega⟩
    have J10 := J9.du u10
    refine ⟨d, a, m, rs2, hs2, 1 + j3, ?_, by omega, by omega, J10.dr, J10.hm, fun v t H11 rv tm u11 => ?_⟩
    · show [V.ref d, V.ref m, V.int (1 + (j3 : Int))] = _
      rw [show 1 + (j3 : Int) = ((1 + j3 : Nat) : Int) by omega]
    have hw := tm.within (by omega : 1 + j3 ≤ 5)
    obtain ⟨sh1, sh2, _⟩ := within_iff.mp hw
    have U11 := u9.trans (u10.trans u11)
    have hB11 := hB8.du J8.dr U11
    refine ⟨_, rfl, _, rfl, 0, .ref b, v, .int (t.wT rows rest), rfl, .inl ⟨rfl, .inl ⟨b, size, D, rows, rest, t, rfl, hB11, rv, .inl ⟨hw, rfl⟩⟩⟩, fun H12 s12 => ?_⟩
    refine ⟨fun σ' H' => σ' = [some (.ref a), some (.ref d), some (.ref h), some (.ref pa), some (.ref m), some (.int (0 + (i : Int))), some (.ref b), some (.str (dB size rows rest).shown), some (.int (0 + (k : Int))), some v, some (.int (t.wT rows rest)), x11, x12, x13, x14, x15] ∧ Same H11 H', ⟨_, rfl, _, _, _, _, _, rfl, .ty _, .base (.int _), kintT (.int 0), _, rfl, iteF ⟨_, rfl, _, _, _, _, _, rfl, .ty _, .base (.int _), kbl (.int 0), _, rfl, iteF ⟨_, rfl, _, rfl, _, rfl, b, size, D, rows, rest, v, t, rfl, hB11.same s12, rv.wk (Wk.same s12), sh1, sh2, fun H13 s13 => ⟨rfl, _, rfl, ?_⟩⟩⟩⟩, fun σ13 H13 e13 => ?_⟩
    · rw [decide_eq_true rfl]
      exact iteF ⟨rfl, s12.trans s13⟩
    obtain ⟨rfl, s13⟩ := e13
    refine ⟨_, rfl, _, rfl, _, _, rfl, b, size, D, rows, rest, v, t, rfl, hB11.same s13, rv.wk (Wk.same s13), hw, fun H14 s14 => ⟨_, rfl, rfl, _, rfl, ?_⟩⟩
    rw [decide_eq_true rfl]
    exact iteF ⟨_, _, _, rfl, U11.then (s13.trans s14)⟩
  obtain ⟨x8, x9, x10, rfl, u9⟩ := e9
  have J9 := J8.du u9
  have hB9 := hB8.du J8.dr u9
  refine ⟨_, rfl, _, rfl, _, rfl, d, a, m, b, D, rs2, hs2, size, rest, rows, rfl, ⟨J9.dr, J9.hm, hB9⟩, fun L xs ts H10 hL rl fewx okp u10 => ?_⟩
  have J10 := J9.du u10
  have hB10 := hB9.du J9.dr u10
  have lenx := rl.length
  refine ⟨_, rfl, L, rfl, ⟨_, SqL.of hL⟩, fun D3 hD3 => ?_⟩
  refine lc_it (walk_list (K := K) (xs := xs)) (fun i H' => Same H10 H' ∧ ∃ ws us, H' D3 = some (.lst ws) ∧ RepL H' ws us ∧ ws.length ≤ i ∧ (∀ t ∈ us, pairT t = true) ∧ ((ts.take i).map (evenT rows rest)).all id = us.isEmpty) ⟨same_new hD3 _, [], [], upd_same, .nil, Nat.le_refl 0, fun t h => (List.not_mem_nil h).elim, rfl⟩ (fun i Hx _ k => SqL.of (k.1 _ _ hL)) (fun i x Hx Hy hi k yy => ?_) (fun H11 k => ?_)
  · obtain ⟨rfl, hx⟩ := yy
    obtain ⟨sx, ws, us, b1, b2, b3, b4, b5⟩ := k
    obtain ⟨t, ht, rt⟩ := rl.get' hx
    have pt := okp t (List.mem_of_getElem? ht)
    obtain ⟨x', y', rfl, wx, wy⟩ := pair_of pt
    have rt := rt.wk (Wk.same sx)
    obtain ⟨x1, x2, _⟩ := within_iff.mp wx
    obtain ⟨y1, y2, _⟩ := within_iff.mp wy
    have tk : ts.take (i + 1) = ts.take i ++ [.tup [x', y']] := by
      rw [List.take_add_one, ht]
      rfl
    have rt0 := rt
    cases rt with
    | @tup p ps _ hp hn hl =>
      cases hl with
      | @cons v1 vs1 _ _ r1 hl1 =>
        cases hl1 with
        | @cons v2 vs2 _ _ r2 hl2 =>
          cases hl2
          refine ⟨rfl, _, rfl, _, rfl, p, _, _, _, rfl, rfl, SqT.of hp, atI_nat (j := 0) rfl, b, size, D, rows, rest, v1, x', rfl, hB10.same sx, r1, x1, x2, fun H5 s5 => ?_⟩
          refine ⟨_, rfl, _, rfl, p, _, _, _, rfl, rfl, SqT.of (s5 _ _ hp), atI_nat (j := 1) rfl, b, size, D, rows, rest, v2, y', rfl, hB10.same (sx.trans s5), r2.wk (Wk.same s5), y1, y2, fun H6 s6 => ⟨rfl, _, rfl, ite2 (fun c1 => ?_) (fun c1 => ?_)⟩⟩
          · have s7 := s5.trans s6
            have ev : evenT rows rest (.tup [x', y']) = false := by
              show decide (V.int _ = V.int _) = false
              have c1 : (!decide (V.int (x'.wT rows rest) = V.int (y'.wT rows rest))) = true := c1
              cases e : decide (V.int (x'.wT rows rest) = V.int (y'.wT rows rest)) with
              | false => rfl
              | true => rw [e] at c1; cases c1
            refine ⟨_, rfl, ws, s7 _ _ b1, small1000 (by omega), Same.mut (sx.trans s7) hD3, ws ++ [.ref p], us ++ [.tup [x', y']], upd_same, ((b2.wk (Wk.same s7)).append (RepL.one (rt0.wk (Wk.same s7)))).wk (Wk.lst_upd (s7 _ _ b1) _), ?_, fun t' ht' => ?_, ?_⟩
            · rw [List.length_append]
              show ws.length + 1 ≤ i + 1
              omega
            · rcases List.mem_append.mp ht' with h | h
              · exact b4 t' h
              · rw [List.mem_singleton.mp h]
                exact pt
            · rw [tk, List.map_append, List.all_append]
              show (_ && (evenT rows rest (.tup [x', y']) && true)) = _
              rw [ev]
              cases us <;> simp
          · have s7 := s5.trans s6
            have ev : evenT rows rest (.tup [x', y']) = true := by
              show decide (V.int _ = V.int _) = true
              have c1 : ¬ (!decide (V.int (x'.wT rows rest) = V.int (y'.wT rows rest))) = true := c1
              cases e : decide (V.int (x'.wT rows rest) = V.int (y'.wT rows rest)) with
              | true => rfl
              | false => rw [e] at c1; exact absurd rfl c1
            refine ⟨sx.trans s7, ws, us, s7 _ _ b1, b2.wk (Wk.same s7), by omega, b4, ?_⟩
            rw [tk, List.map_append, List.all_append, b5]
            show (_ && (evenT rows rest (.tup [x', y']) && true)) = _
            rw [ev]
            simp
  obtain ⟨s11, ws, us, b1, b2, b3, b4, b5⟩ := k
  rw [lenx, List.take_length] at b5
  refine ⟨Nat.zero_le _, fun D4 hD4 => ?_⟩
  have s12 := same_new (o := .lst []) hD4
  obtain ⟨dp1, dp2, dp3⟩ := dp_pairs (b2.wk (Wk.same s12)) b4
  have shp : SeqAt.shaped (.list (us.map pairD)) = true := by
    unfold SeqAt.shaped
    have e : (PyData.list (us.map pairD)).canLay0 = true := dp2
    have e2 : (PyData.list (us.map pairD)).depth ≤ 64 := by
      show PyData.depthAll (us.map pairD) + 1 ≤ 64
      omega
    rw [e, decide_eq_true e2]
    rfl
  refine ⟨.list (us.map pairD), .list [], .lst (SqL.of (s12 _ _ b1)) dp1, .lst (SqL.of upd_same) .nil, shp, rfl, ?_⟩
  have eqe : PyData.eqv (.list (us.map pairD)) (.list []) = ((ts.map (evenT rows rest)).all id) := by
    rw [b5]
    cases us <;> rfl
  rw [eqe]
  have S12 := s11.trans s12
  have J12 := J10.du (DUA.same J10.dr S12)
  have hB12 := hB10.same S12
  have hL12 := S12 _ _ hL
  have rl12 := rl.wk (Wk.same S12)
  have l0 : 0 ≤ sizeLine := by decide
  generalize upd H11 D4 (.lst []) = H12 at J12 hB12 S12 hL12 rl12 ⊢
  clear shp dp1 dp2 dp3 eqe s12 b1 b2 b3 b4 b5 s11
  refine ⟨_, rfl, _, rfl, d, a, 2, rfl, by decide, by decide, J12.dr, fun r4 H13 _ _ u13 => ⟨rfl, _, rfl, ite2 (fun _ => ⟨_, rfl, L, xs, rfl, .inl ⟨SqL.of (u13.lst J12.dr hL12), fun M hM => ?ta⟩⟩) (fun _ => ⟨_, rfl, ?tb⟩)⟩⟩
  case' ta =>
    have sM := same_new (o := .tup xs) hM
    have U14 := u13.then sM
    have hq : SqTh (upd H13 M (.tup xs)) (.ref M) ts := ⟨M, xs, rfl, .inr upd_same, by omega, rl12.wk (DUA.wk J12.dr U14)⟩
    generalize upd H13 M (.tup xs) = H14 at U14 hq ⊢
  case' tb =>
    have U14 := u13
    have hq : SqTh H13 (.ref L) ts := ⟨L, xs, rfl, .inl (u13.lst J12.dr hL12), by omega, rl12.wk (DUA.wk J12.dr u13)⟩
    generalize H13 = H14 at U14 hq ⊢
  all_goals
    have J14 := J12.du U14
    have hB14 := hB12.du J12.dr U14
    have hL14 := U14.lst J12.dr hL12
    have rl14 := rl12.wk (DUA.wk J12.dr U14)
    refine ⟨1, .ref b, _, .bl ((ts.map (evenT rows rest)).all id), rfl, .inr ⟨rfl, .inl ⟨b, size, D, rows, rest, ts, rfl, hB14, hq, .inl ⟨okp, rfl⟩⟩⟩, fun H15 s15 => ?_⟩
    have J15 := J14.du (DUA.same J14.dr s15)
    have hB15 := hB14.same s15
    have hL15 := s15 _ _ hL14
    have rl15 := rl14.wk (Wk.same s15)
    generalize (ts.map (evenT rows rest)).all id = ev
    refine ⟨fun σ' H' => σ' = [some (.ref a), some (.ref d), some (.ref h), some (.ref pa), some (.ref m), some (.int (0 + (i : Int))), some (.ref b), some (.str (dB size rows rest).shown), x8, x9, some (.bl ev), some (.ref L), some (.bl ev), x13, x14, x15] ∧ H' = H15, ⟨_, rfl, _, _, _, _, _, rfl, .ty _, .base (.bl _), kbl (.bl ev), _, rfl, iteF ⟨_, rfl, _, rfl, rfl, _, rfl, iteSame ⟨_, rfl, b, size, D, rows, rest, rfl, hB15, _, rfl, rfl, _, rfl, iteSame ⟨rfl, rfl⟩⟩⟩⟩, fun σ16 H16 e16 => ?_⟩
    obtain ⟨rfl, rfl⟩ := e16
    have hbt := hB15.hb
    refine fun pd hpd => ⟨l3, fun t1 ht1 => ?_⟩
    have k1 := same_new (o := .dK []) hpd
    have k2 := same_new (o := .tup [.int 0, .ref pd, .int 0]) ht1
    refine ⟨_, rfl, 2, rfl, sl_hi (K := K) 2 (k2 _ _ (k1 _ _ hbt)) (by show 2 < 3; decide) fun t2 ht2 => ?_⟩
    have k3 := same_new (o := .tup ([V.int size, .ref D, .int rest].take 2)) ht2
    refine ⟨_, rfl, b, _, rfl, .inr (SqT.of (k3 _ _ (k2 _ _ (k1 _ _ hbt)))), fun t3 ht3 => ?_⟩
    have k4 := same_new (o := .lst [V.int size, .ref D, .int rest]) ht3
    have hb4 := k4 _ _ (k3 _ _ (k2 _ _ (k1 _ _ hbt)))
    refine ⟨_, rfl, b, _, _, _, rfl, rfl, SqT.of hb4, atI_nat (j := 0) rfl, _, rfl, b, _, _, _, rfl, rfl, SqT.of hb4, atI_nat (j := 1) rfl, _, rfl, b, _, _, _, rfl, rfl, SqT.of hb4, atI_nat (j := 0) rfl, l3, fun t4 ht4 => ⟨by show 6 ≤ sizeLine; decide, fun ml hml => ?_⟩⟩
    have k5 := same_new (o := .tup [.int size, .ref D, .int size]) ht4
    have k6 := same_new (o := .lst [.non, .ref t1, .ref t2, .ref t3, .ref t4, .int 5]) hml
    have k46 := k5.trans k6
    have k36 := k4.trans k46
    have k26 := k3.trans k36
    have k16 := k2.trans k26
    have k06 := k1.trans k16
    have y1 := k26 _ _ (upd_same (a := t1) (o := .tup [.int 0, .ref pd, .int 0]))
    have y2 := k36 _ _ (upd_same (a := t2) (o := .tup ([V.int size, .ref D, .int rest].take 2)))
    have y3 := k46 _ _ (upd_same (a := t3) (o := .lst [V.int size, .ref D, .int rest]))
    have y4 := k6 _ _ (upd_same (a := t4) (o := .tup [.int size, .ref D, .int size]))
    have J16 := J15.du (DUA.same J15.dr k06)
    have hB16 := hB15.same k06
    have hL16 := k06 _ _ hL15
    have rl16 := rl15.wk (Wk.same k06)
    refine ⟨_, rfl, d, a, 6, rfl, by decide, by decide, J16.dr, fun r5 H17 r50 r51 u17 => ?_⟩
    obtain ⟨j5, rfl⟩ : ∃ j : Nat, r5 = (j : Int) := ⟨r5.toNat, by omega⟩
    have hml17 := u17.lst J16.dr (upd_same (a := ml) (o := .lst [.non, .ref t1, .ref t2, .ref t3, .ref t4, .int 5]))
    have J17 := J16.du u17
    have hB17 := hB16.du J16.dr u17
    have hL17 := u17.lst J16.dr hL16
    have rl17 := rl16.wk (DUA.wk J16.dr u17)
    obtain ⟨ov, hov, hodd⟩ : ∃ ov, [V.non, .ref t1, .ref t2, .ref t3, .ref t4, .int 5][j5]? = some ov ∧ BadB w H17 ov := by
      have hj : j5 = 0 ∨ j5 = 1 ∨ j5 = 2 ∨ j5 = 3 ∨ j5 = 4 ∨ j5 = 5 := by omega
      rcases hj with rfl | rfl | rfl | rfl | rfl | rfl
      · exact ⟨_, rfl, .inl ⟨.non, .non, rfl⟩⟩
      · exact ⟨_, rfl, .inr (.inr (.inl ⟨t1, _, _, rfl, u17.tup J16.dr y1⟩))⟩
      · exact ⟨_, rfl, .inr (.inl ⟨t2, _, rfl, u17.tup J16.dr y2, by show 2 ≤ 100; decide, by show 2 ≠ 3; decide⟩)⟩
      · exact ⟨_, rfl, .inl ⟨.ls, .ls (u17.lst J16.dr y3), rfl⟩⟩
      · exact ⟨_, rfl, .inr (.inr (.inr ⟨t4, size, D, rows, rfl, z1', z2', u17.tup J16.dr y4, hB17.hD⟩))⟩
      · exact ⟨_, rfl, .inl ⟨.int 5, .int 5, rfl⟩⟩
    refine ⟨ml, _, _, _, rfl, rfl, SqL.of hml17, atI_nat hov, ?_⟩
    refine ⟨_, rfl, _, rfl, _, rfl, d, a, L, pa, xs, ts, z, rfl, J17.dr, hL17, rl17, fewx, J17.ha, hz, fun bv H18 hbad u18 => ?_⟩
    have J18 := J17.du u18
    have hB18 := hB17.du J17.dr u18
    have hodd18 := hodd.du J17.dr u18
    have said1 : SaidAt w H18 1 (.ref b) bv (.str "terms") := by
      rcases hbad with ⟨ts', hs', e⟩ | ⟨t, r, e1, e2⟩
      · exact .inr ⟨rfl, .inl ⟨b, size, D, rows, rest, ts', rfl, hB18, hs', .inr ⟨e, rfl⟩⟩⟩
      · exact .inr ⟨rfl, .inr (.inl ⟨b, size, D, rows, rest, t, rfl, hB18, r, e1, e2, rfl⟩)⟩
    refine ⟨fun σ' H' => σ' = [some (.ref a), some (.ref d), some (.ref h), some (.ref pa), some (.ref m), some (.int (0 + (i : Int))), some (.ref b), some (.str (dB size rows rest).shown), x8, x9, some (.bl ev), some (.ref L), some (.bl ev), some ov, some bv, x15] ∧ Same H18 H', ⟨_, rfl, _, rfl, 1, .ref b, bv, .str "terms", rfl, said1, fun H19 s19 => ⟨rfl, _, rfl, iteSame ⟨_, rfl, _, rfl, 1, ov, bv, .str "table", rfl, .inr ⟨rfl, .inr (.inr ⟨hodd18.same s19, rfl⟩)⟩, fun H20 s20 => ⟨rfl, _, rfl, iteSame ⟨_, rfl, _, rfl, 0, ov, .ref pa, .str "table", rfl, .inl ⟨rfl, .inr ⟨hodd18.same (s19.trans s20), rfl⟩⟩, fun H21 s21 => ⟨rfl, _, rfl, iteSame ⟨rfl, s19.trans (s20.trans s21)⟩⟩⟩⟩⟩⟩⟩, fun σ19 H19 e19 => ?_⟩
    obtain ⟨rfl, s19⟩ := e19
    have J19 := J18.du (DUA.same J18.dr s19)
    have hB19 := hB18.same s19
    have hodd19 := hodd18.same s19
    refine ⟨l1, fun n1 hn1 => ⟨_, rfl, l1, fun n2 hn2 => ⟨_, rfl, l2, fun n3 hn3 => ⟨l0, fun n4 hn4 => ⟨by show 7 ≤ sizeLine; decide, fun n5 hn5 => ?_⟩⟩⟩⟩⟩
    have w1 := same_new (o := .tup [.str "Ab"]) hn1
    have w2 := same_new (o := .lst [.ref pa]) hn2
    have w3 := same_new (o := .tup [.ref pa, .int 5]) hn3
    have w4 := same_new (o := .tup []) hn4
    have w5 := same_new (o := .lst [.non, .str "?x", .ref n1, .ref n2, .ref n3, .int 0, .ref n4]) hn5
    have w45 := w4.trans w5
    have w35 := w3.trans w45
    have w25 := w2.trans w35
    have w15 := w1.trans w25
    have c1 := w25 _ _ (upd_same (a := n1) (o := .tup [.str "Ab"]))
    have c2 := w35 _ _ (upd_same (a := n2) (o := .lst [.ref pa]))
    have c3 := w45 _ _ (upd_same (a := n3) (o := .tup [.ref pa, .int 5]))
    have c4 := w5 _ _ (upd_same (a := n4) (o := .tup []))
    have J20 := J19.du (DUA.same J19.dr w15)
    have rla := RepL.cons .non (.cons (rstr "?x") (.cons (.tup c1 (by show 1 ≤ 100; decide) (.cons (rstr "Ab") .nil)) (.cons (.ls c2) (.cons (.tup c3 (by show 2 ≤ 100; decide) (.cons (.tup J20.ha (by show 1 ≤ 100; decide) (.cons (isW_rep hz (by decide)) .nil)) (.cons (.int 5) .nil))) (.cons (.int 0) (.cons (.tup c4 (by show 0 ≤ 100; decide) .nil) .nil))))))
    refine ⟨_, rfl, d, a, 7, rfl, by decide, by decide, J20.dr, fun r6 H21 r60 r61 u21 => ?_⟩
    obtain ⟨j6, rfl⟩ : ∃ j : Nat, r6 = (j : Int) := ⟨r6.toNat, by omega⟩
    have hn521 := u21.lst J20.dr (upd_same (a := n5) (o := .lst [.non, .str "?x", .ref n1, .ref n2, .ref n3, .int 0, .ref n4]))
    obtain ⟨v21, hv21⟩ : ∃ v, ([.non, .str "?x", .ref n1, .ref n2, .ref n3, .int 0, .ref n4] : List V)[j6]? = some v := ⟨_, List.getElem?_eq_getElem (by show j6 < 7; omega)⟩
    obtain ⟨t21, ht21, rt21⟩ := rla.get' hv21
    have no21 := no_terms (z := z) t21 (List.mem_of_getElem? ht21)
    have rt21 := rt21.wk (DUA.wk J20.dr u21)
    have J21 := J20.du u21
    have hB21 := (hB19.same w15).du J20.dr u21
    have hodd21 := (hodd19.same w15).du J20.dr u21
    refine ⟨n5, _, _, _, rfl, rfl, SqL.of hn521, atI_nat hv21, ?_⟩
    refine ⟨_, rfl, _, rfl, 0, .ref b, v21, .str "term", rfl, .inl ⟨rfl, .inl ⟨b, size, D, rows, rest, t21, rfl, hB21, rt21, .inr ⟨no21, rfl⟩⟩⟩, fun H22 s22 => ⟨rfl, _, rfl, iteSame ⟨_, rfl, _, rfl, 0, ov, v21, .str "table", rfl, .inl ⟨rfl, .inr ⟨hodd21.same s22, rfl⟩⟩, fun H23 s23 => ⟨rfl, _, rfl, iteSame ?_⟩⟩⟩⟩
    exact ⟨_, _, _, _, _, _, _, _, _, _, _, rfl, J21.du (DUA.same J21.dr (s22.trans s23))⟩
theorem law_end {fa : Addr} (T : Tx K mg) (Z : ProgF P) (at_ : mg "law" = some (.ref fa)) :
    ∃ fd : FuncData, (∀ (s : Shared) (v : Value), BindsTo s fd ⟨[v], []⟩ [("_law_script", v)]) ∧ ∀ base : Heap, K.In base → base.Ns mainGlobals mg → LawOk P w K mg base fa fd "_law_script" (sp_law K) := by
  obtain ⟨f, fd, F, m, b⟩ := T.d_law.ex
  rw [at_] at m
  cases m
  refine ⟨fd, fun s v => ?_, fun base _ _ => law_ok T Z F⟩
  obtain ⟨oc, od, kV, doc, pm, an, cdv, ct, osl, rfl, _, _⟩ := F.ex
  exact .of_eq rfl
end
end Kt
namespace Kt
open PySem PySem.Spec PyProof.Rows L2
theorem all_tx {K : PySem.W.Frag} {h : Heap} {mg : Str → Option Value} (X : K.In h) (G : h.Ns mainGlobals mg)
    {f0 : Addr} {od0 an0 : Option Addr} {sl0 : Array (Option Value)} {oc0 kV0 dc0 pm0 cd0 ct0 : Value}
    (a0 : PySem.W.nsIn K mainGlobals "is_number" = some (some (.ref f0))) (l0 : K.lookup f0 = some ⟨oc0, od0, .func (PySem.W.fnOf "is_number" "is_number" (defArgs s_is_number) (defBody s_is_number) (defScope s_is_number) .none kV0 dc0 pm0 an0 cd0 ct0), sl0⟩) (c0 : PySem.W.codeIn K cd0 "is_number" = true) (k0 : PySem.W.keepIn K (.ref f0) = true)
    {f1 : Addr} {od1 an1 : Option Addr} {sl1 : Array (Option Value)} {oc1 kV1 dc1 pm1 cd1 ct1 : Value}
    (a1 : PySem.W.nsIn K mainGlobals "is_below" = some (some (.ref f1))) (l1 : K.lookup f1 = some ⟨oc1, od1, .func (PySem.W.fnOf "is_below" "is_below" (defArgs s_is_below) (defBody s_is_below) (defScope s_is_below) .none kV1 dc1 pm1 an1 cd1 ct1), sl1⟩) (c1 : PySem.W.codeIn K cd1 "is_below" = true) (k1 : PySem.W.keepIn K (.ref f1) = true)
    {f2 : Addr} {od2 an2 : Option Addr} {sl2 : Array (Option Value)} {oc2 kV2 dc2 pm2 cd2 ct2 : Value}
    (a2 : PySem.W.nsIn K mainGlobals "is_word" = some (some (.ref f2))) (l2 : K.lookup f2 = some ⟨oc2, od2, .func (PySem.W.fnOf "is_word" "is_word" (defArgs s_is_word) (defBody s_is_word) (defScope s_is_word) .none kV2 dc2 pm2 an2 cd2 ct2), sl2⟩) (c2 : PySem.W.codeIn K cd2 "is_word" = true) (k2 : PySem.W.keepIn K (.ref f2) = true)
    {f3 : Addr} {od3 an3 : Option Addr} {sl3 : Array (Option Value)} {oc3 kV3 dc3 pm3 cd3 ct3 : Value}
    (a3 : PySem.W.nsIn K mainGlobals "is_name" = some (some (.ref f3))) (l3 : K.lookup f3 = some ⟨oc3, od3, .func (PySem.W.fnOf "is_name" "is_name" (defArgs s_is_name) (defBody s_is_name) (defScope s_is_name) .none kV3 dc3 pm3 an3 cd3 ct3), sl3⟩) (c3 : PySem.W.codeIn K cd3 "is_name" = true) (k3 : PySem.W.keepIn K (.ref f3) = true)
    {f4 : Addr} {od4 an4 : Option Addr} {sl4 : Array (Option Value)} {oc4 kV4 dc4 pm4 cd4 ct4 : Value}
    (a4 : PySem.W.nsIn K mainGlobals "is_hole" = some (some (.ref f4))) (l4 : K.lookup f4 = some ⟨oc4, od4, .func (PySem.W.fnOf "is_hole" "is_hole" (defArgs s_is_hole) (defBody s_is_hole) (defScope s_is_hole) .none kV4 dc4 pm4 an4 cd4 ct4), sl4⟩) (c4 : PySem.W.codeIn K cd4 "is_hole" = true) (k4 : PySem.W.keepIn K (.ref f4) = true)
    {f5 : Addr} {od5 an5 : Option Addr} {sl5 : Array (Option Value)} {oc5 kV5 dc5 pm5 cd5 ct5 : Value}
    (a5 : PySem.W.nsIn K mainGlobals "size_within" = some (some (.ref f5))) (l5 : K.lookup f5 = some ⟨oc5, od5, .func (PySem.W.fnOf "size_within" "size_within" (defArgs s_size_within) (defBody s_size_within) (defScope s_size_within) .none kV5 dc5 pm5 an5 cd5 ct5), sl5⟩) (c5 : PySem.W.codeIn K cd5 "size_within" = true) (k5 : PySem.W.keepIn K (.ref f5) = true)
    {f6 : Addr} {od6 an6 : Option Addr} {sl6 : Array (Option Value)} {oc6 kV6 dc6 pm6 cd6 ct6 : Value}
    (a6 : PySem.W.nsIn K mainGlobals "is_term" = some (some (.ref f6))) (l6 : K.lookup f6 = some ⟨oc6, od6, .func (PySem.W.fnOf "is_term" "is_term" (defArgs s_is_term) (defBody s_is_term) (defScope s_is_term) .none kV6 dc6 pm6 an6 cd6 ct6), sl6⟩) (c6 : PySem.W.codeIn K cd6 "is_term" = true) (k6 : PySem.W.keepIn K (.ref f6) = true)
    {f7 : Addr} {od7 an7 : Option Addr} {sl7 : Array (Option Value)} {oc7 kV7 dc7 pm7 cd7 ct7 : Value}
    (a7 : PySem.W.nsIn K mainGlobals "is_pair" = some (some (.ref f7))) (l7 : K.lookup f7 = some ⟨oc7, od7, .func (PySem.W.fnOf "is_pair" "is_pair" (defArgs s_is_pair) (defBody s_is_pair) (defScope s_is_pair) .none kV7 dc7 pm7 an7 cd7 ct7), sl7⟩) (c7 : PySem.W.codeIn K cd7 "is_pair" = true) (k7 : PySem.W.keepIn K (.ref f7) = true)
    {f8 : Addr} {od8 an8 : Option Addr} {sl8 : Array (Option Value)} {oc8 kV8 dc8 pm8 cd8 ct8 : Value}
    (a8 : PySem.W.nsIn K mainGlobals "refuse_no_term" = some (some (.ref f8))) (l8 : K.lookup f8 = some ⟨oc8, od8, .func (PySem.W.fnOf "refuse_no_term" "refuse_no_term" (defArgs s_refuse_no_term) (defBody s_refuse_no_term) (defScope s_refuse_no_term) .none kV8 dc8 pm8 an8 cd8 ct8), sl8⟩) (c8 : PySem.W.codeIn K cd8 "refuse_no_term" = true) (k8 : PySem.W.keepIn K (.ref f8) = true)
    {f9 : Addr} {od9 an9 : Option Addr} {sl9 : Array (Option Value)} {oc9 kV9 dc9 pm9 cd9 ct9 : Value}
    (a9 : PySem.W.nsIn K mainGlobals "is_key" = some (some (.ref f9))) (l9 : K.lookup f9 = some ⟨oc9, od9, .func (PySem.W.fnOf "is_key" "is_key" (defArgs s_is_key) (defBody s_is_key) (defScope s_is_key) .none kV9 dc9 pm9 an9 cd9 ct9), sl9⟩) (c9 : PySem.W.codeIn K cd9 "is_key" = true) (k9 : PySem.W.keepIn K (.ref f9) = true)
    {f10 : Addr} {od10 an10 : Option Addr} {sl10 : Array (Option Value)} {oc10 kV10 dc10 pm10 cd10 ct10 : Value}
    (a10 : PySem.W.nsIn K mainGlobals "is_table" = some (some (.ref f10))) (l10 : K.lookup f10 = some ⟨oc10, od10, .func (PySem.W.fnOf "is_table" "is_table" (defArgs s_is_table) (defBody s_is_table) (defScope s_is_table) .none kV10 dc10 pm10 an10 cd10 ct10), sl10⟩) (c10 : PySem.W.codeIn K cd10 "is_table" = true) (k10 : PySem.W.keepIn K (.ref f10) = true)
    {f11 : Addr} {od11 an11 : Option Addr} {sl11 : Array (Option Value)} {oc11 kV11 dc11 pm11 cd11 ct11 : Value}
    (a11 : PySem.W.nsIn K mainGlobals "refuse_no_table" = some (some (.ref f11))) (l11 : K.lookup f11 = some ⟨oc11, od11, .func (PySem.W.fnOf "refuse_no_table" "refuse_no_table" (defArgs s_refuse_no_table) (defBody s_refuse_no_table) (defScope s_refuse_no_table) .none kV11 dc11 pm11 an11 cd11 ct11), sl11⟩) (c11 : PySem.W.codeIn K cd11 "refuse_no_table" = true) (k11 : PySem.W.keepIn K (.ref f11) = true)
    {f12 : Addr} {od12 an12 : Option Addr} {sl12 : Array (Option Value)} {oc12 kV12 dc12 pm12 cd12 ct12 : Value}
    (a12 : PySem.W.nsIn K mainGlobals "worth" = some (some (.ref f12))) (l12 : K.lookup f12 = some ⟨oc12, od12, .func (PySem.W.fnOf "worth" "worth" (defArgs s_worth) (defBody s_worth) (defScope s_worth) .none kV12 dc12 pm12 an12 cd12 ct12), sl12⟩) (c12 : PySem.W.codeIn K cd12 "worth" = true) (k12 : PySem.W.keepIn K (.ref f12) = true)
    {f13 : Addr} {od13 an13 : Option Addr} {sl13 : Array (Option Value)} {oc13 kV13 dc13 pm13 cd13 ct13 : Value}
    (a13 : PySem.W.nsIn K mainGlobals "value" = some (some (.ref f13))) (l13 : K.lookup f13 = some ⟨oc13, od13, .func (PySem.W.fnOf "value" "value" (defArgs s_value) (defBody s_value) (defScope s_value) .none kV13 dc13 pm13 an13 cd13 ct13), sl13⟩) (c13 : PySem.W.codeIn K cd13 "value" = true) (k13 : PySem.W.keepIn K (.ref f13) = true)
    {f14 : Addr} {od14 an14 : Option Addr} {sl14 : Array (Option Value)} {oc14 kV14 dc14 pm14 cd14 ct14 : Value}
    (a14 : PySem.W.nsIn K mainGlobals "keeps" = some (some (.ref f14))) (l14 : K.lookup f14 = some ⟨oc14, od14, .func (PySem.W.fnOf "keeps" "keeps" (defArgs s_keeps) (defBody s_keeps) (defScope s_keeps) .none kV14 dc14 pm14 an14 cd14 ct14), sl14⟩) (c14 : PySem.W.codeIn K cd14 "keeps" = true) (k14 : PySem.W.keepIn K (.ref f14) = true)
    {f15 : Addr} {od15 an15 : Option Addr} {sl15 : Array (Option Value)} {oc15 kV15 dc15 pm15 cd15 ct15 : Value}
    (a15 : PySem.W.nsIn K mainGlobals "_law_begun" = some (some (.ref f15))) (l15 : K.lookup f15 = some ⟨oc15, od15, .func (PySem.W.fnOf "_law_begun" "_law_begun" (defArgs s__law_begun) (defBody s__law_begun) (defScope s__law_begun) .none kV15 dc15 pm15 an15 cd15 ct15), sl15⟩) (c15 : PySem.W.codeIn K cd15 "_law_begun" = true) (k15 : PySem.W.keepIn K (.ref f15) = true)
    {f16 : Addr} {od16 an16 : Option Addr} {sl16 : Array (Option Value)} {oc16 kV16 dc16 pm16 cd16 ct16 : Value}
    (a16 : PySem.W.nsIn K mainGlobals "_law_take" = some (some (.ref f16))) (l16 : K.lookup f16 = some ⟨oc16, od16, .func (PySem.W.fnOf "_law_take" "_law_take" (defArgs s__law_take) (defBody s__law_take) (defScope s__law_take) .none kV16 dc16 pm16 an16 cd16 ct16), sl16⟩) (c16 : PySem.W.codeIn K cd16 "_law_take" = true) (k16 : PySem.W.keepIn K (.ref f16) = true)
    {f17 : Addr} {od17 an17 : Option Addr} {sl17 : Array (Option Value)} {oc17 kV17 dc17 pm17 cd17 ct17 : Value}
    (a17 : PySem.W.nsIn K mainGlobals "_law_name" = some (some (.ref f17))) (l17 : K.lookup f17 = some ⟨oc17, od17, .func (PySem.W.fnOf "_law_name" "_law_name" (defArgs s__law_name) (defBody s__law_name) (defScope s__law_name) .none kV17 dc17 pm17 an17 cd17 ct17), sl17⟩) (c17 : PySem.W.codeIn K cd17 "_law_name" = true) (k17 : PySem.W.keepIn K (.ref f17) = true)
    {f18 : Addr} {od18 an18 : Option Addr} {sl18 : Array (Option Value)} {oc18 kV18 dc18 pm18 cd18 ct18 : Value}
    (a18 : PySem.W.nsIn K mainGlobals "_law_heads" = some (some (.ref f18))) (l18 : K.lookup f18 = some ⟨oc18, od18, .func (PySem.W.fnOf "_law_heads" "_law_heads" (defArgs s__law_heads) (defBody s__law_heads) (defScope s__law_heads) .none kV18 dc18 pm18 an18 cd18 ct18), sl18⟩) (c18 : PySem.W.codeIn K cd18 "_law_heads" = true) (k18 : PySem.W.keepIn K (.ref f18) = true)
    {f19 : Addr} {od19 an19 : Option Addr} {sl19 : Array (Option Value)} {oc19 kV19 dc19 pm19 cd19 ct19 : Value}
    (a19 : PySem.W.nsIn K mainGlobals "_law_term" = some (some (.ref f19))) (l19 : K.lookup f19 = some ⟨oc19, od19, .func (PySem.W.fnOf "_law_term" "_law_term" (defArgs s__law_term) (defBody s__law_term) (defScope s__law_term) .none kV19 dc19 pm19 an19 cd19 ct19), sl19⟩) (c19 : PySem.W.codeIn K cd19 "_law_term" = true) (k19 : PySem.W.keepIn K (.ref f19) = true)
    {f20 : Addr} {od20 an20 : Option Addr} {sl20 : Array (Option Value)} {oc20 kV20 dc20 pm20 cd20 ct20 : Value}
    (a20 : PySem.W.nsIn K mainGlobals "_law_table" = some (some (.ref f20))) (l20 : K.lookup f20 = some ⟨oc20, od20, .func (PySem.W.fnOf "_law_table" "_law_table" (defArgs s__law_table) (defBody s__law_table) (defScope s__law_table) .none kV20 dc20 pm20 an20 cd20 ct20), sl20⟩) (c20 : PySem.W.codeIn K cd20 "_law_table" = true) (k20 : PySem.W.keepIn K (.ref f20) = true)
    {f21 : Addr} {od21 an21 : Option Addr} {sl21 : Array (Option Value)} {oc21 kV21 dc21 pm21 cd21 ct21 : Value}
    (a21 : PySem.W.nsIn K mainGlobals "_law_worth" = some (some (.ref f21))) (l21 : K.lookup f21 = some ⟨oc21, od21, .func (PySem.W.fnOf "_law_worth" "_law_worth" (defArgs s__law_worth) (defBody s__law_worth) (defScope s__law_worth) .none kV21 dc21 pm21 an21 cd21 ct21), sl21⟩) (c21 : PySem.W.codeIn K cd21 "_law_worth" = true) (k21 : PySem.W.keepIn K (.ref f21) = true)
    {f22 : Addr} {od22 an22 : Option Addr} {sl22 : Array (Option Value)} {oc22 kV22 dc22 pm22 cd22 ct22 : Value}
    (a22 : PySem.W.nsIn K mainGlobals "_law_said" = some (some (.ref f22))) (l22 : K.lookup f22 = some ⟨oc22, od22, .func (PySem.W.fnOf "_law_said" "_law_said" (defArgs s__law_said) (defBody s__law_said) (defScope s__law_said) .none kV22 dc22 pm22 an22 cd22 ct22), sl22⟩) (c22 : PySem.W.codeIn K cd22 "_law_said" = true) (k22 : PySem.W.keepIn K (.ref f22) = true)
    {f23 : Addr} {od23 an23 : Option Addr} {sl23 : Array (Option Value)} {oc23 kV23 dc23 pm23 cd23 ct23 : Value}
    (a23 : PySem.W.nsIn K mainGlobals "_law_even" = some (some (.ref f23))) (l23 : K.lookup f23 = some ⟨oc23, od23, .func (PySem.W.fnOf "_law_even" "_law_even" (defArgs s__law_even) (defBody s__law_even) (defScope s__law_even) .none kV23 dc23 pm23 an23 cd23 ct23), sl23⟩) (c23 : PySem.W.codeIn K cd23 "_law_even" = true) (k23 : PySem.W.keepIn K (.ref f23) = true)
    {f24 : Addr} {od24 an24 : Option Addr} {sl24 : Array (Option Value)} {oc24 kV24 dc24 pm24 cd24 ct24 : Value}
    (a24 : PySem.W.nsIn K mainGlobals "_law_kept" = some (some (.ref f24))) (l24 : K.lookup f24 = some ⟨oc24, od24, .func (PySem.W.fnOf "_law_kept" "_law_kept" (defArgs s__law_kept) (defBody s__law_kept) (defScope s__law_kept) .none kV24 dc24 pm24 an24 cd24 ct24), sl24⟩) (c24 : PySem.W.codeIn K cd24 "_law_kept" = true) (k24 : PySem.W.keepIn K (.ref f24) = true)
    {f25 : Addr} {od25 an25 : Option Addr} {sl25 : Array (Option Value)} {oc25 kV25 dc25 pm25 cd25 ct25 : Value}
    (a25 : PySem.W.nsIn K mainGlobals "_law_odd_list" = some (some (.ref f25))) (l25 : K.lookup f25 = some ⟨oc25, od25, .func (PySem.W.fnOf "_law_odd_list" "_law_odd_list" (defArgs s__law_odd_list) (defBody s__law_odd_list) (defScope s__law_odd_list) .none kV25 dc25 pm25 an25 cd25 ct25), sl25⟩) (c25 : PySem.W.codeIn K cd25 "_law_odd_list" = true) (k25 : PySem.W.keepIn K (.ref f25) = true)
    {f26 : Addr} {od26 an26 : Option Addr} {sl26 : Array (Option Value)} {oc26 kV26 dc26 pm26 cd26 ct26 : Value}
    (a26 : PySem.W.nsIn K mainGlobals "law" = some (some (.ref f26))) (l26 : K.lookup f26 = some ⟨oc26, od26, .func (PySem.W.fnOf "law" "law" (defArgs s_law) (defBody s_law) (defScope s_law) .none kV26 dc26 pm26 an26 cd26 ct26), sl26⟩) (c26 : PySem.W.codeIn K cd26 "law" = true) (k26 : PySem.W.keepIn K (.ref f26) = true)
    {tk0 : Tok} (m0 : PySem.W.nsIn K mainGlobals "LETTERS" = some (some (.str "abcdefghijklmnopqrstuvwxyz" tk0)))
    {tk1 : Tok} (m1 : PySem.W.nsIn K mainGlobals "MOST_NAME" = some (some (.int 8 tk1)))
    {tk2 : Tok} (m2 : PySem.W.nsIn K mainGlobals "MOST_HOLE" = some (some (.int 4 tk2)))
    {tk3 : Tok} (m3 : PySem.W.nsIn K mainGlobals "MOST_PARTS" = some (some (.int 3 tk3)))
    {tk4 : Tok} (m4 : PySem.W.nsIn K mainGlobals "MOST_SIZE" = some (some (.int 30 tk4)))
    {tk5 : Tok} (m5 : PySem.W.nsIn K mainGlobals "MOST_DEEP" = some (some (.int 5 tk5)))
    {tk6 : Tok} (m6 : PySem.W.nsIn K mainGlobals "MOST_WORTHS" = some (some (.int 100 tk6)))
    (z0 : PySem.W.nsIn K mainGlobals "all" = some none)
    (z1 : PySem.W.nsIn K mainGlobals "bool" = some none)
    (z2 : PySem.W.nsIn K mainGlobals "dict" = some none)
    (z3 : PySem.W.nsIn K mainGlobals "int" = some none)
    (z4 : PySem.W.nsIn K mainGlobals "isinstance" = some none)
    (z5 : PySem.W.nsIn K mainGlobals "len" = some none)
    (z6 : PySem.W.nsIn K mainGlobals "list" = some none)
    (z7 : PySem.W.nsIn K mainGlobals "range" = some none)
    (z8 : PySem.W.nsIn K mainGlobals "repr" = some none)
    (z9 : PySem.W.nsIn K mainGlobals "str" = some none)
    (z10 : PySem.W.nsIn K mainGlobals "tuple" = some none)
    {e0 : Addr} (ea0 : PySem.W.nsIn K mainGlobals "BadTable" = some (some (.ref e0))) (eb0 : PySem.W.subIn K (.ref e0) (.type "BaseException") = some true) (et0 : PySem.W.typeIn K (.ref e0) = some (.type "type")) (ei0 : PySem.W.isClsIn K e0 = true) (es0 : PySem.W.subIn K (.ref e0) (.ref e0) = some true)
    {e1 : Addr} (ea1 : PySem.W.nsIn K mainGlobals "BadTerm" = some (some (.ref e1))) (eb1 : PySem.W.subIn K (.ref e1) (.type "BaseException") = some true) (et1 : PySem.W.typeIn K (.ref e1) = some (.type "type")) (ei1 : PySem.W.isClsIn K e1 = true) (es1 : PySem.W.subIn K (.ref e1) (.ref e1) = some true)
    {e2 : Addr} (ea2 : PySem.W.nsIn K mainGlobals "BadTerms" = some (some (.ref e2))) (eb2 : PySem.W.subIn K (.ref e2) (.type "BaseException") = some true) (et2 : PySem.W.typeIn K (.ref e2) = some (.type "type")) (ei2 : PySem.W.isClsIn K e2 = true) (es2 : PySem.W.subIn K (.ref e2) (.ref e2) = some true)
    {e3 : Addr} (ea3 : PySem.W.nsIn K mainGlobals "MatchError" = some (some (.ref e3))) (eb3 : PySem.W.subIn K (.ref e3) (.type "BaseException") = some true) (et3 : PySem.W.typeIn K (.ref e3) = some (.type "type")) (ei3 : PySem.W.isClsIn K e3 = true) (es3 : PySem.W.subIn K (.ref e3) (.ref e3) = some true)
    {h0 : Addr} (ha0 : PySem.W.nsIn K mainGlobals "BadPattern" = some (some (.ref h0)))
    {yD yfM ycd ycc ydA : Addr} {yda1 : Value} {yda2 : Option Addr} {yits : Array Value} {yn : Nat} {yda3 : Array (Option Value)} {yk : Value → Value → Option (Array Value) → Sem (List (Str × Value))} {yoc ykV ydo ypm yct ycl yxl : Value} {yod yan ycdd yxd : Option Addr} {yos yccs yxs : Array (Option Value)} {yqu : Str} {ypa : Arguments} {yp_a yp_b yp_c yp_d yp_e yp_f yp_g yp_h yp_i yp_j yp_k yp_l yp_m yp_n yp_o yp_p : Pos} {yar : Arg} {yvs : Array Value} {ytf : Tok} {ypl : Env → Sem Bool}
    (ra : PySem.W.nsIn K mainGlobals "MatchError" = some (some (.ref yD)))
    (rm : PySem.W.mroIn K yD (.ref yD) = some true)
    (rs : PySem.W.nsIn K mainGlobals "super" = some none)
    (ri : PySem.W.findIn K (.ref yD) "__init__" = some (some (.ref yfM)))
    (rl : K.lookup yfM = some ⟨yoc, yod, .func (PySem.W.fnX "__init__" yqu ypa (meBody (MePos.mk yp_a yp_b yp_c yp_d yp_e yp_f yp_g yp_h yp_i yp_j yp_k yp_l yp_m yp_n yp_o yp_p)) (initScope "why") [("__class__", ycc)] (.ref ydA) ykV ydo ypm yan (.ref ycd) yct), yos⟩)
    (re : PySem.W.codeIn K (.ref ycd) yqu = true)
    (rh : (ypa.posonlyargs ++ ypa.args).head? = some yar)
    (rz : yar.arg = "self")
    (rda : K.lookup ydA = some ⟨yda1, yda2, .seq yits yn, yda3⟩)
    (rbd : ∀ a b : Value, bindArgs (PySem.W.fnX "__init__" yqu ypa (meBody (MePos.mk yp_a yp_b yp_c yp_d yp_e yp_f yp_g yp_h yp_i yp_j yp_k yp_l yp_m yp_n yp_o yp_p)) (initScope "why") [("__class__", ycc)] (.ref ydA) ykV ydo ypm yan (.ref ycd) yct) ⟨[a, b], []⟩ = seqItems? (.ref ydA) >>= yk a b)
    (rbe : ∀ a b : Value, yk a b (some yits) = pure [(("self" : Str), a), ("why", b)])
    (rev : ∀ env : Env, eval (meSup (MePos.mk yp_a yp_b yp_c yp_d yp_e yp_f yp_g yp_h yp_i yp_j yp_k yp_l yp_m yp_n yp_o yp_p)) env = (do
      let ov ← attributeBase (.Call (.Name "super" yp_a) [] [] yp_b) "__init__" env (eval (.Call (.Name "super" yp_a) [] [] yp_b) env)
      standAt yp_c.atName
      let (f, first) ← holding [ov] (getMethod ov "__init__" (ypl env))
      callWith yp_g f first (backTo yp_g (starEach [meTxt (MePos.mk yp_a yp_b yp_c yp_d yp_e yp_f yp_g yp_h yp_i yp_j yp_k yp_l yp_m yp_n yp_o yp_p)] env)) []))
    (rlc : K.lookup ycd = some ⟨ycl, ycdd, .fields yvs, yccs⟩)
    (rv2 : yvs[2]? = some (.str "/claim/cut.py" ytf))
    (rlx : K.lookup ycc = some ⟨yxl, yxd, .cell (some (.ref yD)), yxs⟩)
    (rnl : (yp_n.endLine == yp_o.line) = true)
    (rty : PySem.W.typeIn K (.ref yfM) = some (.type "function"))
    {sC0 : Addr} {sc0 : Value} {sdd0 : Option Addr} {scd0 : ClassData} {ssl0 : Array (Option Value)} {stk0 : Tok}
    (mesa0 : PySem.W.nsIn K mainGlobals "BadTable" = some (some (.ref sC0)))
    (mesx0 : PySem.W.excInitIn K sC0 [.type "ValueError", .type "Exception", .type "BaseException", .type "object"] "ValueError.__new__" = true)
    (mesd0 : PySem.W.hasDictIn K sC0 = true)
    (mesq0 : PySem.W.findIn K (.ref sC0) "__setattr__" = some (some (.builtin "object.__setattr__")))
    (mesb0 : PySem.W.subIn K (.ref sC0) (.type "BaseException") = some true)
    (mest0 : PySem.W.typeIn K (.ref sC0) = some (.type "type"))
    (mesk0 : PySem.W.keepIn K (.ref sC0) = true)
    (mesm0 : PySem.W.mroIn K sC0 (.ref yD) = some true)
    (mesp0 : PySem.W.ks_superIn K sC0 yD "__init__" = some (some (.builtin "ValueError.__init__")))
    (mesv0 : PySem.W.subIn K (.ref sC0) (.type "ValueError") = some true)
    (meso0 : PySem.W.nsIn K cStatics "thirdparty.any" = some none)
    (mesf0 : PySem.W.findIn K (.ref sC0) "word" = some none)
    (mesi0 : PySem.W.findIn K (.ref sC0) "__init__" = some (some (.ref yfM)))
    (meng0 : PySem.W.findIn K (.ref sC0) "__getattribute__" = some (some (.builtin "BaseException.__getattribute__")))
    (menh0 : PySem.W.findIn K (.ref sC0) "__getattr__" = some none)
    (menj0 : PySem.W.findIn K (.ref sC0) "__class__" = some (some (.builtin "object.__class__")))
    (menu0 : PySem.W.specialIn K (.builtin "object.__class__") "__get__" = some (some (.builtin "getset_descriptor.__get__")))
    (menw0 : PySem.W.takesIn K (.builtin "object.__class__") = some true)
    (meno0 : PySem.W.mroIn K sC0 (.type "object") = some true)
    (menr0 : PySem.W.readsIn K sC0 (.type "type") = true)
    (meny0 : PySem.W.findCls K (.ref sC0) (.type "type") "__name__" = some (.get (.builtin "getset_descriptor.__get__") (.builtin "type.__name__") (.ref sC0) (.type "type")))
    (menl0 : K.lookup sC0 = some ⟨sc0, sdd0, .cls scd0, ssl0⟩)
    (menz0 : ssl0[2]? = some (some (.str "BadTable" stk0)))
    {sC1 : Addr} {sc1 : Value} {sdd1 : Option Addr} {scd1 : ClassData} {ssl1 : Array (Option Value)} {stk1 : Tok}
    (mesa1 : PySem.W.nsIn K mainGlobals "BadTerm" = some (some (.ref sC1)))
    (mesx1 : PySem.W.excInitIn K sC1 [.type "ValueError", .type "Exception", .type "BaseException", .type "object"] "ValueError.__new__" = true)
    (mesd1 : PySem.W.hasDictIn K sC1 = true)
    (mesq1 : PySem.W.findIn K (.ref sC1) "__setattr__" = some (some (.builtin "object.__setattr__")))
    (mesb1 : PySem.W.subIn K (.ref sC1) (.type "BaseException") = some true)
    (mest1 : PySem.W.typeIn K (.ref sC1) = some (.type "type"))
    (mesk1 : PySem.W.keepIn K (.ref sC1) = true)
    (mesm1 : PySem.W.mroIn K sC1 (.ref yD) = some true)
    (mesp1 : PySem.W.ks_superIn K sC1 yD "__init__" = some (some (.builtin "ValueError.__init__")))
    (mesv1 : PySem.W.subIn K (.ref sC1) (.type "ValueError") = some true)
    (meso1 : PySem.W.nsIn K cStatics "thirdparty.any" = some none)
    (mesf1 : PySem.W.findIn K (.ref sC1) "word" = some none)
    (mesi1 : PySem.W.findIn K (.ref sC1) "__init__" = some (some (.ref yfM)))
    (meng1 : PySem.W.findIn K (.ref sC1) "__getattribute__" = some (some (.builtin "BaseException.__getattribute__")))
    (menh1 : PySem.W.findIn K (.ref sC1) "__getattr__" = some none)
    (menj1 : PySem.W.findIn K (.ref sC1) "__class__" = some (some (.builtin "object.__class__")))
    (menu1 : PySem.W.specialIn K (.builtin "object.__class__") "__get__" = some (some (.builtin "getset_descriptor.__get__")))
    (menw1 : PySem.W.takesIn K (.builtin "object.__class__") = some true)
    (meno1 : PySem.W.mroIn K sC1 (.type "object") = some true)
    (menr1 : PySem.W.readsIn K sC1 (.type "type") = true)
    (meny1 : PySem.W.findCls K (.ref sC1) (.type "type") "__name__" = some (.get (.builtin "getset_descriptor.__get__") (.builtin "type.__name__") (.ref sC1) (.type "type")))
    (menl1 : K.lookup sC1 = some ⟨sc1, sdd1, .cls scd1, ssl1⟩)
    (menz1 : ssl1[2]? = some (some (.str "BadTerm" stk1)))
    {sC2 : Addr} {sc2 : Value} {sdd2 : Option Addr} {scd2 : ClassData} {ssl2 : Array (Option Value)} {stk2 : Tok}
    (mesa2 : PySem.W.nsIn K mainGlobals "BadTerms" = some (some (.ref sC2)))
    (mesx2 : PySem.W.excInitIn K sC2 [.type "ValueError", .type "Exception", .type "BaseException", .type "object"] "ValueError.__new__" = true)
    (mesd2 : PySem.W.hasDictIn K sC2 = true)
    (mesq2 : PySem.W.findIn K (.ref sC2) "__setattr__" = some (some (.builtin "object.__setattr__")))
    (mesb2 : PySem.W.subIn K (.ref sC2) (.type "BaseException") = some true)
    (mest2 : PySem.W.typeIn K (.ref sC2) = some (.type "type"))
    (mesk2 : PySem.W.keepIn K (.ref sC2) = true)
    (mesm2 : PySem.W.mroIn K sC2 (.ref yD) = some true)
    (mesp2 : PySem.W.ks_superIn K sC2 yD "__init__" = some (some (.builtin "ValueError.__init__")))
    (mesv2 : PySem.W.subIn K (.ref sC2) (.type "ValueError") = some true)
    (meso2 : PySem.W.nsIn K cStatics "thirdparty.any" = some none)
    (mesf2 : PySem.W.findIn K (.ref sC2) "word" = some none)
    (mesi2 : PySem.W.findIn K (.ref sC2) "__init__" = some (some (.ref yfM)))
    (meng2 : PySem.W.findIn K (.ref sC2) "__getattribute__" = some (some (.builtin "BaseException.__getattribute__")))
    (menh2 : PySem.W.findIn K (.ref sC2) "__getattr__" = some none)
    (menj2 : PySem.W.findIn K (.ref sC2) "__class__" = some (some (.builtin "object.__class__")))
    (menu2 : PySem.W.specialIn K (.builtin "object.__class__") "__get__" = some (some (.builtin "getset_descriptor.__get__")))
    (menw2 : PySem.W.takesIn K (.builtin "object.__class__") = some true)
    (meno2 : PySem.W.mroIn K sC2 (.type "object") = some true)
    (menr2 : PySem.W.readsIn K sC2 (.type "type") = true)
    (meny2 : PySem.W.findCls K (.ref sC2) (.type "type") "__name__" = some (.get (.builtin "getset_descriptor.__get__") (.builtin "type.__name__") (.ref sC2) (.type "type")))
    (menl2 : K.lookup sC2 = some ⟨sc2, sdd2, .cls scd2, ssl2⟩)
    (menz2 : ssl2[2]? = some (some (.str "BadTerms" stk2)))
    (xg0 : PySem.W.findIn K (.ref sC0) "__getattribute__" = some (some (.builtin "BaseException.__getattribute__")))
    (xk0 : PySem.W.findIn K (.ref sC0) "__getattr__" = some none)
    (xs0 : PySem.W.subIn K (.ref sC0) (.type "BaseException") = some true)
    (xd0 : PySem.W.hasDictIn K sC0 = true)
    (xa0 : PySem.W.findIn K (.ref sC0) "__class__" = some (some (.builtin "object.__class__")))
    (xn0 : PySem.W.specialIn K (.builtin "object.__class__") "__get__" = some (some (.builtin "getset_descriptor.__get__")))
    (xt0 : PySem.W.takesIn K (.builtin "object.__class__") = some true)
    (xm0 : PySem.W.mroIn K sC0 (.type "object") = some true)
    (xg1 : PySem.W.findIn K (.ref sC1) "__getattribute__" = some (some (.builtin "BaseException.__getattribute__")))
    (xk1 : PySem.W.findIn K (.ref sC1) "__getattr__" = some none)
    (xs1 : PySem.W.subIn K (.ref sC1) (.type "BaseException") = some true)
    (xd1 : PySem.W.hasDictIn K sC1 = true)
    (xa1 : PySem.W.findIn K (.ref sC1) "__class__" = some (some (.builtin "object.__class__")))
    (xn1 : PySem.W.specialIn K (.builtin "object.__class__") "__get__" = some (some (.builtin "getset_descriptor.__get__")))
    (xt1 : PySem.W.takesIn K (.builtin "object.__class__") = some true)
    (xm1 : PySem.W.mroIn K sC1 (.type "object") = some true)
    (xg2 : PySem.W.findIn K (.ref sC2) "__getattribute__" = some (some (.builtin "BaseException.__getattribute__")))
    (xk2 : PySem.W.findIn K (.ref sC2) "__getattr__" = some none)
    (xs2 : PySem.W.subIn K (.ref sC2) (.type "BaseException") = some true)
    (xd2 : PySem.W.hasDictIn K sC2 = true)
    (xa2 : PySem.W.findIn K (.ref sC2) "__class__" = some (some (.builtin "object.__class__")))
    (xn2 : PySem.W.specialIn K (.builtin "object.__class__") "__get__" = some (some (.builtin "getset_descriptor.__get__")))
    (xt2 : PySem.W.takesIn K (.builtin "object.__class__") = some true)
    (xm2 : PySem.W.mroIn K sC2 (.type "object") = some true)
    (kt0 : PySem.W.kitOne K (.ref sC0) (.ref sC0) = some true)
    (kt1 : PySem.W.kitOne K (.ref sC0) (.ref sC1) = some false)
    (kt2 : PySem.W.kitOne K (.ref sC0) (.ref sC2) = some false)
    (kt3 : PySem.W.kitOne K (.ref sC0) (.ref h0) = some false)
    (kt4 : PySem.W.kitOne K (.ref sC1) (.ref sC0) = some false)
    (kt5 : PySem.W.kitOne K (.ref sC1) (.ref sC1) = some true)
    (kt6 : PySem.W.kitOne K (.ref sC1) (.ref sC2) = some false)
    (kt7 : PySem.W.kitOne K (.ref sC1) (.ref h0) = some false)
    (kt8 : PySem.W.kitOne K (.ref sC2) (.ref sC0) = some false)
    (kt9 : PySem.W.kitOne K (.ref sC2) (.ref sC1) = some false)
    (kt10 : PySem.W.kitOne K (.ref sC2) (.ref sC2) = some true)
    (kt11 : PySem.W.kitOne K (.ref sC2) (.ref h0) = some false)
    (kt12 : PySem.W.kitOne K (.ref sC0) (.ref yD) = some true)
    (kt13 : PySem.W.kitOne K (.ref sC1) (.ref yD) = some true)
    (kt14 : PySem.W.kitOne K (.ref sC2) (.ref yD) = some true)
    : Tx K mg where
  x_BadTable := by rw [clsA_of (PySem.W.mg_of X G mesa0)]; exact ⟨xg0, xk0, xs0, xd0, xa0, xn0, xt0, xm0⟩
  x_BadTerm := by rw [clsA_of (PySem.W.mg_of X G mesa1)]; exact ⟨xg1, xk1, xs1, xd1, xa1, xn1, xt1, xm1⟩
  x_BadTerms := by rw [clsA_of (PySem.W.mg_of X G mesa2)]; exact ⟨xg2, xk2, xs2, xd2, xa2, xn2, xt2, xm2⟩
  k_BadTable_BadTable := by rw [clsA_of (PySem.W.mg_of X G mesa0)]; exact kt0
  k_BadTable_BadTerm := by rw [clsA_of (PySem.W.mg_of X G mesa0), clsA_of (PySem.W.mg_of X G mesa1)]; exact kt1
  k_BadTable_BadTerms := by rw [clsA_of (PySem.W.mg_of X G mesa0), clsA_of (PySem.W.mg_of X G mesa2)]; exact kt2
  k_BadTable_BadPattern := by rw [clsA_of (PySem.W.mg_of X G mesa0), clsA_of (PySem.W.mg_of X G ha0)]; exact kt3
  k_BadTerm_BadTable := by rw [clsA_of (PySem.W.mg_of X G mesa1), clsA_of (PySem.W.mg_of X G mesa0)]; exact kt4
  k_BadTerm_BadTerm := by rw [clsA_of (PySem.W.mg_of X G mesa1)]; exact kt5
  k_BadTerm_BadTerms := by rw [clsA_of (PySem.W.mg_of X G mesa1), clsA_of (PySem.W.mg_of X G mesa2)]; exact kt6
  k_BadTerm_BadPattern := by rw [clsA_of (PySem.W.mg_of X G mesa1), clsA_of (PySem.W.mg_of X G ha0)]; exact kt7
  k_BadTerms_BadTable := by rw [clsA_of (PySem.W.mg_of X G mesa2), clsA_of (PySem.W.mg_of X G mesa0)]; exact kt8
  k_BadTerms_BadTerm := by rw [clsA_of (PySem.W.mg_of X G mesa2), clsA_of (PySem.W.mg_of X G mesa1)]; exact kt9
  k_BadTerms_BadTerms := by rw [clsA_of (PySem.W.mg_of X G mesa2)]; exact kt10
  k_BadTerms_BadPattern := by rw [clsA_of (PySem.W.mg_of X G mesa2), clsA_of (PySem.W.mg_of X G ha0)]; exact kt11
  k_BadTable_MatchError := by rw [clsA_of (PySem.W.mg_of X G mesa0), clsA_of (PySem.W.mg_of X G ra)]; exact kt12
  k_BadTerm_MatchError := by rw [clsA_of (PySem.W.mg_of X G mesa1), clsA_of (PySem.W.mg_of X G ra)]; exact kt13
  k_BadTerms_MatchError := by rw [clsA_of (PySem.W.mg_of X G mesa2), clsA_of (PySem.W.mg_of X G ra)]; exact kt14
  me := by rw [clsA_of (PySem.W.mg_of X G ra)]; exact ⟨⟨yfM, yoc, ycl, yxl, yod, ycdd, yxd, yos, yccs, yxs, yqu, ypa, (MePos.mk yp_a yp_b yp_c yp_d yp_e yp_f yp_g yp_h yp_i yp_j yp_k yp_l yp_m yp_n yp_o yp_p), .ref ydA, ykV, ydo, ypm, yct, yan, ycd, ycc, yvs, ytf, yar, ypl, rl, re, rh, rz, fun s a b Xs => BindsTo.of_defaults rfl (Xs _ _ rda) rfl (rbd a b) (rbe a b), rev, rlc, rv2, rlx, rnl, ri, rty⟩, PySem.W.mg_none_of X G rs, rm⟩
  gs_BadTable := by rw [clsA_of (PySem.W.mg_of X G mesa0)]; exact PySem.W.mg_of X G mesa0
  s_BadTable := by rw [clsA_of (PySem.W.mg_of X G mesa0), clsA_of (PySem.W.mg_of X G ra)]; exact ⟨⟨oex_by mesx0 mesd0 mesq0 mesb0 mest0 mesk0, mesm0, mesp0, mesv0, meso0, mesx0, mesf0, ⟨"BadTable", meng0, menh0, mesb0, menj0, menu0, menw0, meno0, menr0, meny0, ⟨_, _, _, _, _, menl0, menz0⟩, by decide +kernel⟩⟩, mesi0.trans ri.symm⟩
  gs_BadTerm := by rw [clsA_of (PySem.W.mg_of X G mesa1)]; exact PySem.W.mg_of X G mesa1
  s_BadTerm := by rw [clsA_of (PySem.W.mg_of X G mesa1), clsA_of (PySem.W.mg_of X G ra)]; exact ⟨⟨oex_by mesx1 mesd1 mesq1 mesb1 mest1 mesk1, mesm1, mesp1, mesv1, meso1, mesx1, mesf1, ⟨"BadTerm", meng1, menh1, mesb1, menj1, menu1, menw1, meno1, menr1, meny1, ⟨_, _, _, _, _, menl1, menz1⟩, by decide +kernel⟩⟩, mesi1.trans ri.symm⟩
  gs_BadTerms := by rw [clsA_of (PySem.W.mg_of X G mesa2)]; exact PySem.W.mg_of X G mesa2
  s_BadTerms := by rw [clsA_of (PySem.W.mg_of X G mesa2), clsA_of (PySem.W.mg_of X G ra)]; exact ⟨⟨oex_by mesx2 mesd2 mesq2 mesb2 mest2 mesk2, mesm2, mesp2, mesv2, meso2, mesx2, mesf2, ⟨"BadTerms", meng2, menh2, mesb2, menj2, menu2, menw2, meno2, menr2, meny2, ⟨_, _, _, _, _, menl2, menz2⟩, by decide +kernel⟩⟩, mesi2.trans ri.symm⟩
  g_BadPattern := by rw [clsA_of (PySem.W.mg_of X G ha0)]; exact PySem.W.mg_of X G ha0
  e_BadTable := ExG.at (PySem.W.mg_of X G ea0) eb0 et0 ei0 es0
  e_BadTerm := ExG.at (PySem.W.mg_of X G ea1) eb1 et1 ei1 es1
  e_BadTerms := ExG.at (PySem.W.mg_of X G ea2) eb2 et2 ei2 es2
  e_MatchError := ExG.at (PySem.W.mg_of X G ea3) eb3 et3 ei3 es3
  d_is_number := ⟨f0, _, fun_mk (st := s_is_number) l0 c0 k0, PySem.W.mg_of X G a0, (fun_mk (st := s_is_number) l0 c0 k0).binds (ps := ["thing"]) fun _ _ _ _ _ _ us hl => match us, hl with | [_], _ => rfl⟩
  d_is_below := ⟨f1, _, fun_mk (st := s_is_below) l1 c1 k1, PySem.W.mg_of X G a1, (fun_mk (st := s_is_below) l1 c1 k1).binds (ps := ["thing", "many"]) fun _ _ _ _ _ _ us hl => match us, hl with | [_, _], _ => rfl⟩
  d_is_word := ⟨f2, _, fun_mk (st := s_is_word) l2 c2 k2, PySem.W.mg_of X G a2, (fun_mk (st := s_is_word) l2 c2 k2).binds (ps := ["thing", "most"]) fun _ _ _ _ _ _ us hl => match us, hl with | [_, _], _ => rfl⟩
  d_is_name := ⟨f3, _, fun_mk (st := s_is_name) l3 c3 k3, PySem.W.mg_of X G a3, (fun_mk (st := s_is_name) l3 c3 k3).binds (ps := ["thing"]) fun _ _ _ _ _ _ us hl => match us, hl with | [_], _ => rfl⟩
  d_is_hole := ⟨f4, _, fun_mk (st := s_is_hole) l4 c4 k4, PySem.W.mg_of X G a4, (fun_mk (st := s_is_hole) l4 c4 k4).binds (ps := ["thing"]) fun _ _ _ _ _ _ us hl => match us, hl with | [_], _ => rfl⟩
  d_size_within := ⟨f5, _, fun_mk (st := s_size_within) l5 c5 k5, PySem.W.mg_of X G a5, (fun_mk (st := s_size_within) l5 c5 k5).binds (ps := ["thing", "holes", "deep"]) fun _ _ _ _ _ _ us hl => match us, hl with | [_, _, _], _ => rfl⟩
  d_is_term := ⟨f6, _, fun_mk (st := s_is_term) l6 c6 k6, PySem.W.mg_of X G a6, (fun_mk (st := s_is_term) l6 c6 k6).binds (ps := ["thing"]) fun _ _ _ _ _ _ us hl => match us, hl with | [_], _ => rfl⟩
  d_is_pair := ⟨f7, _, fun_mk (st := s_is_pair) l7 c7 k7, PySem.W.mg_of X G a7, (fun_mk (st := s_is_pair) l7 c7 k7).binds (ps := ["thing"]) fun _ _ _ _ _ _ us hl => match us, hl with | [_], _ => rfl⟩
  d_refuse_no_term := ⟨f8, _, fun_mk (st := s_refuse_no_term) l8 c8 k8, PySem.W.mg_of X G a8, (fun_mk (st := s_refuse_no_term) l8 c8 k8).binds (ps := ["thing"]) fun _ _ _ _ _ _ us hl => match us, hl with | [_], _ => rfl⟩
  d_is_key := ⟨f9, _, fun_mk (st := s_is_key) l9 c9 k9, PySem.W.mg_of X G a9, (fun_mk (st := s_is_key) l9 c9 k9).binds (ps := ["thing", "size"]) fun _ _ _ _ _ _ us hl => match us, hl with | [_, _], _ => rfl⟩
  d_is_table := ⟨f10, _, fun_mk (st := s_is_table) l10 c10 k10, PySem.W.mg_of X G a10, (fun_mk (st := s_is_table) l10 c10 k10).binds (ps := ["thing"]) fun _ _ _ _ _ _ us hl => match us, hl with | [_], _ => rfl⟩
  d_refuse_no_table := ⟨f11, _, fun_mk (st := s_refuse_no_table) l11 c11 k11, PySem.W.mg_of X G a11, (fun_mk (st := s_refuse_no_table) l11 c11 k11).binds (ps := ["thing"]) fun _ _ _ _ _ _ us hl => match us, hl with | [_], _ => rfl⟩
  d_worth := ⟨f12, _, fun_mk (st := s_worth) l12 c12 k12, PySem.W.mg_of X G a12, (fun_mk (st := s_worth) l12 c12 k12).binds (ps := ["table", "pattern", "worths"]) fun _ _ _ _ _ _ us hl => match us, hl with | [_, _, _], _ => rfl⟩
  d_value := ⟨f13, _, fun_mk (st := s_value) l13 c13 k13, PySem.W.mg_of X G a13, (fun_mk (st := s_value) l13 c13 k13).binds (ps := ["table", "term"]) fun _ _ _ _ _ _ us hl => match us, hl with | [_, _], _ => rfl⟩
  d_keeps := ⟨f14, _, fun_mk (st := s_keeps) l14 c14 k14, PySem.W.mg_of X G a14, (fun_mk (st := s_keeps) l14 c14 k14).binds (ps := ["table", "pairs"]) fun _ _ _ _ _ _ us hl => match us, hl with | [_, _], _ => rfl⟩
  d__law_begun := ⟨f15, _, fun_mk (st := s__law_begun) l15 c15 k15, PySem.W.mg_of X G a15, (fun_mk (st := s__law_begun) l15 c15 k15).binds (ps := ["_law_script"]) fun _ _ _ _ _ _ us hl => match us, hl with | [_], _ => rfl⟩
  d__law_take := ⟨f16, _, fun_mk (st := s__law_take) l16 c16 k16, PySem.W.mg_of X G a16, (fun_mk (st := s__law_take) l16 c16 k16).binds (ps := ["_law_state", "_law_many"]) fun _ _ _ _ _ _ us hl => match us, hl with | [_, _], _ => rfl⟩
  d__law_name := ⟨f17, _, fun_mk (st := s__law_name) l17 c17 k17, PySem.W.mg_of X G a17, (fun_mk (st := s__law_name) l17 c17 k17).binds (ps := ["_law_state", "_law_met"]) fun _ _ _ _ _ _ us hl => match us, hl with | [_, _], _ => rfl⟩
  d__law_heads := ⟨f18, _, fun_mk (st := s__law_heads) l18 c18 k18, PySem.W.mg_of X G a18, (fun_mk (st := s__law_heads) l18 c18 k18).binds (ps := ["_law_state"]) fun _ _ _ _ _ _ us hl => match us, hl with | [_], _ => rfl⟩
  d__law_term := ⟨f19, _, fun_mk (st := s__law_term) l19 c19 k19, PySem.W.mg_of X G a19, (fun_mk (st := s__law_term) l19 c19 k19).binds (ps := ["_law_state", "_law_heads_here", "_law_left"]) fun _ _ _ _ _ _ us hl => match us, hl with | [_, _, _], _ => rfl⟩
  d__law_table := ⟨f20, _, fun_mk (st := s__law_table) l20 c20 k20, PySem.W.mg_of X G a20, (fun_mk (st := s__law_table) l20 c20 k20).binds (ps := ["_law_state", "_law_heads_here", "_law_size"]) fun _ _ _ _ _ _ us hl => match us, hl with | [_, _, _], _ => rfl⟩
  d__law_worth := ⟨f21, _, fun_mk (st := s__law_worth) l21 c21 k21, PySem.W.mg_of X G a21, (fun_mk (st := s__law_worth) l21 c21 k21).binds (ps := ["_law_board", "_law_tree"]) fun _ _ _ _ _ _ us hl => match us, hl with | [_, _], _ => rfl⟩
  d__law_said := ⟨f22, _, fun_mk (st := s__law_said) l22 c22 k22, PySem.W.mg_of X G a22, (fun_mk (st := s__law_said) l22 c22 k22).binds (ps := ["_law_door", "_law_board", "_law_thing"]) fun _ _ _ _ _ _ us hl => match us, hl with | [_, _, _], _ => rfl⟩
  d__law_even := ⟨f23, _, fun_mk (st := s__law_even) l23 c23 k23, PySem.W.mg_of X G a23, (fun_mk (st := s__law_even) l23 c23 k23).binds (ps := ["_law_state", "_law_heads_here", "_law_board"]) fun _ _ _ _ _ _ us hl => match us, hl with | [_, _, _], _ => rfl⟩
  d__law_kept := ⟨f24, _, fun_mk (st := s__law_kept) l24 c24 k24, PySem.W.mg_of X G a24, (fun_mk (st := s__law_kept) l24 c24 k24).binds (ps := ["_law_state", "_law_heads_here", "_law_board"]) fun _ _ _ _ _ _ us hl => match us, hl with | [_, _, _], _ => rfl⟩
  d__law_odd_list := ⟨f25, _, fun_mk (st := s__law_odd_list) l25 c25 k25, PySem.W.mg_of X G a25, (fun_mk (st := s__law_odd_list) l25 c25 k25).binds (ps := ["_law_state", "_law_some", "_law_a"]) fun _ _ _ _ _ _ us hl => match us, hl with | [_, _, _], _ => rfl⟩
  d_law := ⟨f26, _, fun_mk (st := s_law) l26 c26 k26, PySem.W.mg_of X G a26, (fun_mk (st := s_law) l26 c26 k26).binds (ps := ["_law_script"]) fun _ _ _ _ _ _ us hl => match us, hl with | [_], _ => rfl⟩
  m_LETTERS := ⟨_, PySem.W.mg_of X G m0⟩
  m_MOST_NAME := ⟨_, PySem.W.mg_of X G m1⟩
  m_MOST_HOLE := ⟨_, PySem.W.mg_of X G m2⟩
  m_MOST_PARTS := ⟨_, PySem.W.mg_of X G m3⟩
  m_MOST_SIZE := ⟨_, PySem.W.mg_of X G m4⟩
  m_MOST_DEEP := ⟨_, PySem.W.mg_of X G m5⟩
  m_MOST_WORTHS := ⟨_, PySem.W.mg_of X G m6⟩
  z_all := PySem.W.mg_none_of X G z0
  z_bool := PySem.W.mg_none_of X G z1
  z_dict := PySem.W.mg_none_of X G z2
  z_int := PySem.W.mg_none_of X G z3
  z_isinstance := PySem.W.mg_none_of X G z4
  z_len := PySem.W.mg_none_of X G z5
  z_list := PySem.W.mg_none_of X G z6
  z_range := PySem.W.mg_none_of X G z7
  z_repr := PySem.W.mg_none_of X G z8
  z_str := PySem.W.mg_none_of X G z9
  z_tuple := PySem.W.mg_none_of X G z10
end Kt
open PySem PySem.W PyProof.Rows
set_option maxRecDepth 100000 in
set_option maxHeartbeats 0 in
theorem PySem.Challenge.cw_likematch_k24_values_and_what_tables_kee_holds : PySem.Challenge.rw_likematch_k24_values_and_what_tables_kee.Holds := by
  w_on; o_law; k_head; (case hw => w_witness2)
  k_fill
  refine Kt.walk_claim (l := PySem.Challenge.rw_likematch_k24_values_and_what_tables_kee) (n := 63) (y := "_law_script") (sp := fun w => Kt.sp_law _) rfl (by decide) rfl (fun w h Y => PySem.W.kIn_of Y) ?F (fun _ _ a ns hl hS => ⟨a, ns, rfl, hS, hl, fun _ => rfl⟩)
  case F =>
    intro w mg fa h KX G hmg
    refine Kt.law_end ?T ⟨by decide +kernel, by decide +kernel⟩ hmg
    case T =>
      refine' Kt.all_tx KX G ?a0 ?l0 ?c0 ?k0 ?a1 ?l1 ?c1 ?k1 ?a2 ?l2 ?c2 ?k2 ?a3 ?l3 ?c3 ?k3 ?a4 ?l4 ?c4 ?k4 ?a5 ?l5 ?c5 ?k5 ?a6 ?l6 ?c6 ?k6 ?a7 ?l7 ?c7 ?k7 ?a8 ?l8 ?c8 ?k8 ?a9 ?l9 ?c9 ?k9 ?a10 ?l10 ?c10 ?k10 ?a11 ?l11 ?c11 ?k11 ?a12 ?l12 ?c12 ?k12 ?a13 ?l13 ?c13 ?k13 ?a14 ?l14 ?c14 ?k14 ?a15 ?l15 ?c15 ?k15 ?a16 ?l16 ?c16 ?k16 ?a17 ?l17 ?c17 ?k17 ?a18 ?l18 ?c18 ?k18 ?a19 ?l19 ?c19 ?k19 ?a20 ?l20 ?c20 ?k20 ?a21 ?l21 ?c21 ?k21 ?a22 ?l22 ?c22 ?k22 ?a23 ?l23 ?c23 ?k23 ?a24 ?l24 ?c24 ?k24 ?a25 ?l25 ?c25 ?k25 ?a26 ?l26 ?c26 ?k26 ?m0 ?m1 ?m2 ?m3 ?m4 ?m5 ?m6 ?z0 ?z1 ?z2 ?z3 ?z4 ?z5 ?z6 ?z7 ?z8 ?z9 ?z10 ?ea0 ?eb0 ?et0 ?ei0 ?es0 ?ea1 ?eb1 ?et1 ?ei1 ?es1 ?ea2 ?eb2 ?et2 ?ei2 ?es2 ?ea3 ?eb3 ?et3 ?ei3 ?es3 ?ha0 ?ra ?rm ?rs ?ri ?rl ?re ?rh ?rz ?rda ?rbd ?rbe ?rev ?rlc ?rv2 ?rlx ?rnl ?rty ?mesa0 ?mesx0 ?mesd0 ?mesq0 ?mesb0 ?mest0 ?mesk0 ?mesm0 ?mesp0 ?mesv0 ?meso0 ?mesf0 ?mesi0 ?meng0 ?menh0 ?menj0 ?menu0 ?menw0 ?meno0 ?menr0 ?meny0 ?menl0 ?menz0 ?mesa1 ?mesx1 ?mesd1 ?mesq1 ?mesb1 ?mest1 ?mesk1 ?mesm1 ?mesp1 ?mesv1 ?meso1 ?mesf1 ?mesi1 ?meng1 ?menh1 ?menj1 ?menu1 ?menw1 ?meno1 ?menr1 ?meny1 ?menl1 ?menz1 ?mesa2 ?mesx2 ?mesd2 ?mesq2 ?mesb2 ?mest2 ?mesk2 ?mesm2 ?mesp2 ?mesv2 ?meso2 ?mesf2 ?mesi2 ?meng2 ?menh2 ?menj2 ?menu2 ?menw2 ?meno2 ?menr2 ?meny2 ?menl2 ?menz2 ?xg0 ?xk0 ?xs0 ?xd0 ?xa0 ?xn0 ?xt0 ?xm0 ?xg1 ?xk1 ?xs1 ?xd1 ?xa1 ?xn1 ?xt1 ?xm1 ?xg2 ?xk2 ?xs2 ?xd2 ?xa2 ?xn2 ?xt2 ?xm2 ?kt0 ?kt1 ?kt2 ?kt3 ?kt4 ?kt5 ?kt6 ?kt7 ?kt8 ?kt9 ?kt10 ?kt11 ?kt12 ?kt13 ?kt14
      (case a0 => k_is)
      (case l0 => k_is)
      (case c0 => k_is)
      (case k0 => k_is)
      (case a1 => k_is)
      (case l1 => k_is)
      (case c1 => k_is)
      (case k1 => k_is)
      (case a2 => k_is)
      (case l2 => k_is)
      (case c2 => k_is)
      (case k2 => k_is)
      (case a3 => k_is)
      (case l3 => k_is)
      (case c3 => k_is)
      (case k3 => k_is)
      (case a4 => k_is)
      (case l4 => k_is)
      (case c4 => k_is)
      (case k4 => k_is)
      (case a5 => k_is)
      (case l5 => k_is)
      (case c5 => k_is)
      (case k5 => k_is)
      (case a6 => k_is)
      (case l6 => k_is)
      (case c6 => k_is)
      (case k6 => k_is)
      (case a7 => k_is)
      (case l7 => k_is)
      (case c7 => k_is)
      (case k7 => k_is)
      (case a8 => k_is)
      (case l8 => k_is)
      (case c8 => k_is)
      (case k8 => k_is)
      (case a9 => k_is)
      (case l9 => k_is)
      (case c9 => k_is)
      (case k9 => k_is)
      (case a10 => k_is)
      (case l10 => k_is)
      (case c10 => k_is)
      (case k10 => k_is)
      (case a11 => k_is)
      (case l11 => k_is)
      (case c11 => k_is)
      (case k11 => k_is)
      (case a12 => k_is)
      (case l12 => k_is)
      (case c12 => k_is)
      (case k12 => k_is)
      (case a13 => k_is)
      (case l13 => k_is)
      (case c13 => k_is)
      (case k13 => k_is)
      (case a14 => k_is)
      (case l14 => k_is)
      (case c14 => k_is)
      (case k14 => k_is)
      (case a15 => k_is)
      (case l15 => k_is)
      (case c15 => k_is)
      (case k15 => k_is)
      (case a16 => k_is)
      (case l16 => k_is)
      (case c16 => k_is)
      (case k16 => k_is)
      (case a17 => k_is)
      (case l17 => k_is)
      (case c17 => k_is)
      (case k17 => k_is)
      (case a18 => k_is)
      (case l18 => k_is)
      (case c18 => k_is)
      (case k18 => k_is)
      (case a19 => k_is)
      (case l19 => k_is)
      (case c19 => k_is)
      (case k19 => k_is)
      (case a20 => k_is)
      (case l20 => k_is)
      (case c20 => k_is)
      (case k20 => k_is)
      (case a21 => k_is)
      (case l21 => k_is)
      (case c21 => k_is)
      (case k21 => k_is)
      (case a22 => k_is)
      (case l22 => k_is)
      (case c22 => k_is)
      (case k22 => k_is)
      (case a23 => k_is)
      (case l23 => k_is)
      (case c23 => k_is)
      (case k23 => k_is)
      (case a24 => k_is)
      (case l24 => k_is)
      (case c24 => k_is)
      (case k24 => k_is)
      (case a25 => k_is)
      (case l25 => k_is)
      (case c25 => k_is)
      (case k25 => k_is)
      (case a26 => k_is)
      (case l26 => k_is)
      (case c26 => k_is)
      (case k26 => k_is)
      (case m0 => k_is)
      (case m1 => k_is)
      (case m2 => k_is)
      (case m3 => k_is)
      (case m4 => k_is)
      (case m5 => k_is)
      (case m6 => k_is)
      (case z0 => k_is)
      (case z1 => k_is)
      (case z2 => k_is)
      (case z3 => k_is)
      (case z4 => k_is)
      (case z5 => k_is)
      (case z6 => k_is)
      (case z7 => k_is)
      (case z8 => k_is)
      (case z9 => k_is)
      (case z10 => k_is)
      (case ea0 => k_is)
      (case eb0 => k_is)
      (case et0 => k_is)
      (case ei0 => k_is)
      (case es0 => first | rfl | k_is)
      (case ea1 => k_is)
      (case eb1 => k_is)
      (case et1 => k_is)
      (case ei1 => k_is)
      (case es1 => first | rfl | k_is)
      (case ea2 => k_is)
      (case eb2 => k_is)
      (case et2 => k_is)
      (case ei2 => k_is)
      (case es2 => first | rfl | k_is)
      (case ea3 => k_is)
      (case eb3 => k_is)
      (case et3 => k_is)
      (case ei3 => k_is)
      (case es3 => first | rfl | k_is)
      (case ha0 => first | k_is | rfl | exact fun _ => rfl | exact fun _ _ => rfl)
      (case ra => first | k_is | rfl | exact fun _ => rfl | exact fun _ _ => rfl)
      (case rm => first | k_is | rfl | exact fun _ => rfl | exact fun _ _ => rfl)
      (case rs => first | k_is | rfl | exact fun _ => rfl | exact fun _ _ => rfl)
      (case ri => first | k_is | rfl | exact fun _ => rfl | exact fun _ _ => rfl)
      (case rl => first | k_is | rfl | exact fun _ => rfl | exact fun _ _ => rfl)
      (case re => first | k_is | rfl | exact fun _ => rfl | exact fun _ _ => rfl)
      (case rh => first | k_is | rfl | exact fun _ => rfl | exact fun _ _ => rfl)
      (case rz => first | k_is | rfl | exact fun _ => rfl | exact fun _ _ => rfl)
      (case rda => first | k_is | rfl | exact fun _ => rfl | exact fun _ _ => rfl)
      (case rbd => first | k_is | rfl | exact fun _ => rfl | exact fun _ _ => rfl)
      (case rbe => first | k_is | rfl | exact fun _ => rfl | exact fun _ _ => rfl)
      (case rev => first | k_is | rfl | exact fun _ => rfl | exact fun _ _ => rfl)
      (case rlc => first | k_is | rfl | exact fun _ => rfl | exact fun _ _ => rfl)
      (case rv2 => first | k_is | rfl | exact fun _ => rfl | exact fun _ _ => rfl)
      (case rlx => first | k_is | rfl | exact fun _ => rfl | exact fun _ _ => rfl)
      (case rnl => first | k_is | rfl | exact fun _ => rfl | exact fun _ _ => rfl)
      (case rty => first | k_is | rfl | exact fun _ => rfl | exact fun _ _ => rfl)
      (case mesa0 => first | k_is | rfl | exact fun _ => rfl | exact fun _ _ => rfl)
      (case mesx0 => first | k_is | rfl | exact fun _ => rfl | exact fun _ _ => rfl)
      (case mesd0 => first | k_is | rfl | exact fun _ => rfl | exact fun _ _ => rfl)
      (case mesq0 => first | k_is | rfl | exact fun _ => rfl | exact fun _ _ => rfl)
      (case mesb0 => first | k_is | rfl | exact fun _ => rfl | exact fun _ _ => rfl)
      (case mest0 => first | k_is | rfl | exact fun _ => rfl | exact fun _ _ => rfl)
      (case mesk0 => first | k_is | rfl | exact fun _ => rfl | exact fun _ _ => rfl)
      (case mesm0 => first | k_is | rfl | exact fun _ => rfl | exact fun _ _ => rfl)
      (case mesp0 => first | k_is | rfl | exact fun _ => rfl | exact fun _ _ => rfl)
      (case mesv0 => first | k_is | rfl | exact fun _ => rfl | exact fun _ _ => rfl)
      (case meso0 => first | k_is | rfl | exact fun _ => rfl | exact fun _ _ => rfl)
      (case mesf0 => first | k_is | rfl | exact fun _ => rfl | exact fun _ _ => rfl)
      (case mesi0 => first | k_is | rfl | exact fun _ => rfl | exact fun _ _ => rfl)
      (case meng0 => first | k_is | rfl | exact fun _ => rfl | exact fun _ _ => rfl)
      (case menh0 => first | k_is | rfl | exact fun _ => rfl | exact fun _ _ => rfl)
      (case menj0 => first | k_is | rfl | exact fun _ => rfl | exact fun _ _ => rfl)
      (case menu0 => first | k_is | rfl | exact fun _ => rfl | exact fun _ _ => rfl)
      (case menw0 => first | k_is | rfl | exact fun _ => rfl | exact fun _ _ => rfl)
      (case meno0 => first | k_is | rfl | exact fun _ => rfl | exact fun _ _ => rfl)
      (case menr0 => first | k_is | rfl | exact fun _ => rfl | exact fun _ _ => rfl)
      (case meny0 => first | k_is | rfl | exact fun _ => rfl | exact fun _ _ => rfl)
      (case menl0 => first | k_is | rfl | exact fun _ => rfl | exact fun _ _ => rfl)
      (case menz0 => first | k_is | rfl | exact fun _ => rfl | exact fun _ _ => rfl)
      (case mesa1 => first | k_is | rfl | exact fun _ => rfl | exact fun _ _ => rfl)
      (case mesx1 => first | k_is | rfl | exact fun _ => rfl | exact fun _ _ => rfl)
      (case mesd1 => first | k_is | rfl | exact fun _ => rfl | exact fun _ _ => rfl)
      (case mesq1 => first | k_is | rfl | exact fun _ => rfl | exact fun _ _ => rfl)
      (case mesb1 => first | k_is | rfl | exact fun _ => rfl | exact fun _ _ => rfl)
      (case mest1 => first | k_is | rfl | exact fun _ => rfl | exact fun _ _ => rfl)
      (case mesk1 => first | k_is | rfl | exact fun _ => rfl | exact fun _ _ => rfl)
      (case mesm1 => first | k_is | rfl | exact fun _ => rfl | exact fun _ _ => rfl)
      (case mesp1 => first | k_is | rfl | exact fun _ => rfl | exact fun _ _ => rfl)
      (case mesv1 => first | k_is | rfl | exact fun _ => rfl | exact fun _ _ => rfl)
      (case meso1 => first | k_is | rfl | exact fun _ => rfl | exact fun _ _ => rfl)
      (case mesf1 => first | k_is | rfl | exact fun _ => rfl | exact fun _ _ => rfl)
      (case mesi1 => first | k_is | rfl | exact fun _ => rfl | exact fun _ _ => rfl)
      (case meng1 => first | k_is | rfl | exact fun _ => rfl | exact fun _ _ => rfl)
      (case menh1 => first | k_is | rfl | exact fun _ => rfl | exact fun _ _ => rfl)
      (case menj1 => first | k_is | rfl | exact fun _ => rfl | exact fun _ _ => rfl)
      (case menu1 => first | k_is | rfl | exact fun _ => rfl | exact fun _ _ => rfl)
      (case menw1 => first | k_is | rfl | exact fun _ => rfl | exact fun _ _ => rfl)
      (case meno1 => first | k_is | rfl | exact fun _ => rfl | exact fun _ _ => rfl)
      (case menr1 => first | k_is | rfl | exact fun _ => rfl | exact fun _ _ => rfl)
      (case meny1 => first | k_is | rfl | exact fun _ => rfl | exact fun _ _ => rfl)
      (case menl1 => first | k_is | rfl | exact fun _ => rfl | exact fun _ _ => rfl)
      (case menz1 => first | k_is | rfl | exact fun _ => rfl | exact fun _ _ => rfl)
      (case mesa2 => first | k_is | rfl | exact fun _ => rfl | exact fun _ _ => rfl)
      (case mesx2 => first | k_is | rfl | exact fun _ => rfl | exact fun _ _ => rfl)
      (case mesd2 => first | k_is | rfl | exact fun _ => rfl | exact fun _ _ => rfl)
      (case mesq2 => first | k_is | rfl | exact fun _ => rfl | exact fun _ _ => rfl)
      (case mesb2 => first | k_is | rfl | exact fun _ => rfl | exact fun _ _ => rfl)
      (case mest2 => first | k_is | rfl | exact fun _ => rfl | exact fun _ _ => rfl)
      (case mesk2 => first | k_is | rfl | exact fun _ => rfl | exact fun _ _ => rfl)
      (case mesm2 => first | k_is | rfl | exact fun _ => rfl | exact fun _ _ => rfl)
      (case mesp2 => first | k_is | rfl | exact fun _ => rfl | exact fun _ _ => rfl)
      (case mesv2 => first | k_is | rfl | exact fun _ => rfl | exact fun _ _ => rfl)
      (case meso2 => first | k_is | rfl | exact fun _ => rfl | exact fun _ _ => rfl)
      (case mesf2 => first | k_is | rfl | exact fun _ => rfl | exact fun _ _ => rfl)
      (case mesi2 => first | k_is | rfl | exact fun _ => rfl | exact fun _ _ => rfl)
      (case meng2 => first | k_is | rfl | exact fun _ => rfl | exact fun _ _ => rfl)
      (case menh2 => first | k_is | rfl | exact fun _ => rfl | exact fun _ _ => rfl)
      (case menj2 => first | k_is | rfl | exact fun _ => rfl | exact fun _ _ => rfl)
      (case menu2 => first | k_is | rfl | exact fun _ => rfl | exact fun _ _ => rfl)
      (case menw2 => first | k_is | rfl | exact fun _ => rfl | exact fun _ _ => rfl)
      (case meno2 => first | k_is | rfl | exact fun _ => rfl | exact fun _ _ => rfl)
      (case menr2 => first | k_is | rfl | exact fun _ => rfl | exact fun _ _ => rfl)
      (case meny2 => first | k_is | rfl | exact fun _ => rfl | exact fun _ _ => rfl)
      (case menl2 => first | k_is | rfl | exact fun _ => rfl | exact fun _ _ => rfl)
      (case menz2 => first | k_is | rfl | exact fun _ => rfl | exact fun _ _ => rfl)
      (case xg0 => first | k_is | rfl | exact fun _ => rfl | exact fun _ _ => rfl)
      (case xk0 => first | k_is | rfl | exact fun _ => rfl | exact fun _ _ => rfl)
      (case xs0 => first | k_is | rfl | exact fun _ => rfl | exact fun _ _ => rfl)
      (case xd0 => first | k_is | rfl | exact fun _ => rfl | exact fun _ _ => rfl)
      (case xa0 => first | k_is | rfl | exact fun _ => rfl | exact fun _ _ => rfl)
      (case xn0 => first | k_is | rfl | exact fun _ => rfl | exact fun _ _ => rfl)
      (case xt0 => first | k_is | rfl | exact fun _ => rfl | exact fun _ _ => rfl)
      (case xm0 => first | k_is | rfl | exact fun _ => rfl | exact fun _ _ => rfl)
      (case xg1 => first | k_is | rfl | exact fun _ => rfl | exact fun _ _ => rfl)
      (case xk1 => first | k_is | rfl | exact fun _ => rfl | exact fun _ _ => rfl)
      (case xs1 => first | k_is | rfl | exact fun _ => rfl | exact fun _ _ => rfl)
      (case xd1 => first | k_is | rfl | exact fun _ => rfl | exact fun _ _ => rfl)
      (case xa1 => first | k_is | rfl | exact fun _ => rfl | exact fun _ _ => rfl)
      (case xn1 => first | k_is | rfl | exact fun _ => rfl | exact fun _ _ => rfl)
      (case xt1 => first | k_is | rfl | exact fun _ => rfl | exact fun _ _ => rfl)
      (case xm1 => first | k_is | rfl | exact fun _ => rfl | exact fun _ _ => rfl)
      (case xg2 => first | k_is | rfl | exact fun _ => rfl | exact fun _ _ => rfl)
      (case xk2 => first | k_is | rfl | exact fun _ => rfl | exact fun _ _ => rfl)
      (case xs2 => first | k_is | rfl | exact fun _ => rfl | exact fun _ _ => rfl)
      (case xd2 => first | k_is | rfl | exact fun _ => rfl | exact fun _ _ => rfl)
      (case xa2 => first | k_is | rfl | exact fun _ => rfl | exact fun _ _ => rfl)
      (case xn2 => first | k_is | rfl | exact fun _ => rfl | exact fun _ _ => rfl)
      (case xt2 => first | k_is | rfl | exact fun _ => rfl | exact fun _ _ => rfl)
      (case xm2 => first | k_is | rfl | exact fun _ => rfl | exact fun _ _ => rfl)
      (case kt0 => first | k_is | rfl | exact fun _ => rfl | exact fun _ _ => rfl)
      (case kt1 => first | k_is | rfl | exact fun _ => rfl | exact fun _ _ => rfl)
      (case kt2 => first | k_is | rfl | exact fun _ => rfl | exact fun _ _ => rfl)
      (case kt3 => first | k_is | rfl | exact fun _ => rfl | exact fun _ _ => rfl)
      (case kt4 => first | k_is | rfl | exact fun _ => rfl | exact fun _ _ => rfl)
      (case kt5 => first | k_is | rfl | exact fun _ => rfl | exact fun _ _ => rfl)
      (case kt6 => first | k_is | rfl | exact fun _ => rfl | exact fun _ _ => rfl)
      (case kt7 => first | k_is | rfl | exact fun _ => rfl | exact fun _ _ => rfl)
      (case kt8 => first | k_is | rfl | exact fun _ => rfl | exact fun _ _ => rfl)
      (case kt9 => first | k_is | rfl | exact fun _ => rfl | exact fun _ _ => rfl)
      (case kt10 => first | k_is | rfl | exact fun _ => rfl | exact fun _ _ => rfl)
      (case kt11 => first | k_is | rfl | exact fun _ => rfl | exact fun _ _ => rfl)
      (case kt12 => first | k_is | rfl | exact fun _ => rfl | exact fun _ _ => rfl)
      (case kt13 => first | k_is | rfl | exact fun _ => rfl | exact fun _ _ => rfl)
      (case kt14 => first | k_is | rfl | exact fun _ => rfl | exact fun _ _ => rfl)
