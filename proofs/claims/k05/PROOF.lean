import PyProof.Rows.All
import Wide.All
import OpenK.AllK
import Wide.FinOn
import HandS.ForMost
import HandS.IsInst
import HandS.TupAny
import HandS.TupMul
import HandS.Conv
import HandS.Walk
import HandS.Evl
import HandS.ForExc
import HandS.DictComp
import HandS.FStr
import HandS.ExcIs
import PyProof.ListMulRoad
import PyProof.FactsAll.tuple_2
import HandS.ExcValue
import KE.KExcSuper
import HandS.ExcInit
import KE.KExcIs
import KE.KTypeName
import OpenK.KWalk
import OpenK.KLine
import KE.KSuper
import HandS.Small
import HandS.More
import HandS.Deep
import HandS.Iter
import PyProof.Draws
import PyProof.EnumMake
import PyProof.EnumFor
import HandS.Replace
import HandS.Text
import HandS.Style
import HandS.ReplaceList
import PySem.Challenge.RW_likematch_k05_texts_read_or_refused
set_option Elab.async false
set_option linter.all false
set_option maxRecDepth 100000
set_option maxHeartbeats 2100000
/-! Kt0: calls of own defs by name; what lets the heap grow. -/
namespace Kt
open PySem PySem.Spec PyProof.Rows L2

/-! ### a def of the text -/
/-- the def x stands at some address, and its parameters bind by place -/
structure Dx (K : PySem.W.Frag) (mg : Str → Option Value) (x : Str) (st : Stmt) (ps : List Str) : Prop where
  ex : ∃ (f : Addr) (fd : FuncData), Fun K x x st f fd ∧ mg x = some (.ref f) ∧ Binds K fd ps []
/-- a def that may be called -/
structure Cl (P : Program) (w : World) (K : PySem.W.Frag) (mg : Str → Option Value) (base : Heap) (CX : CXT) (k : Nat) (x : Str) (ps : List Str) (sp : Sp) : Prop where
  ex : ∃ (f : Addr) (fd : FuncData), FnOk P w K mg base CX k f fd ps sp ∧ mg x = some (.ref f) ∧ PySem.W.keepIn K (.ref f) = true ∧ Binds K fd ps [] ∧ ∃ (oc : Value) (od : Option Addr) (osl : Array (Option Value)), K.lookup f = some ⟨oc, od, .func fd, osl⟩
section
variable {P : Program} {w : World} {K : PySem.W.Frag} {mg : Str → Option Value} {base : Heap} {x : Str} {st : Stmt} {N ps : List Str} {k : Nat} {sp : Sp}
theorem Fun.at {f : Addr} {fd : FuncData} (F : Fun K x x st f fd) : ∃ (oc : Value) (od : Option Addr) (osl : Array (Option Value)), K.lookup f = some ⟨oc, od, .func fd, osl⟩ := by
  obtain ⟨oc, od, kV, doc, pm, an, cdv, ct, osl, _, lk, _⟩ := F.ex
  exact ⟨oc, od, osl, lk⟩
theorem Cl.mono {CX : CXT} {j : Nat} (c : Cl P w K mg base CX j x ps sp) (h : j ≤ k) : Cl P w K mg base CX k x ps sp := by
  obtain ⟨f, fd, F, r⟩ := c.ex
  exact ⟨f, fd, F.mono h, r⟩
/-- THE RULE: a def by its body -/
theorem Cl.mk0 (D : Dx K mg x st ps) (S : FnScope N ps (defScope st)) (len : ∀ vs H Q E, sp vs H Q E → vs.length = ps.length)
    (hbody : ∀ (f : Addr) (cdv : Value) (A : Around) (outer : List Env) (s : Shared) (H : Hp) (vs : List V) (Q : VK) (E : XK), Room k (A.deeper (envOfC x (defScope st) s.heap.objs.size f cdv)) → sp vs H Q E →
      ∃ t, PSs (cxOf CX0 P w K mg base N x (defScope st) f cdv A outer s H E).nox (defBody st) t ∧ t { nx := fun _ H' => Q .non H', rt := Q } (start N vs) H) : Cl P w K mg base CX0 (k + 1) x ps sp := by
  obtain ⟨f, fd, F, m, b⟩ := D.ex
  exact ⟨f, fd, F.ok S len (hbody f), m, F.kp, b, Fun.at F⟩
/-- nothing can be asked of it -/
theorem Cl.no (D : Dx K mg x st ps) (h : ∀ vs H Q E, ¬ sp vs H Q E) {CX : CXT} : Cl P w K mg base CX k x ps sp := by
  obtain ⟨f, fd, F, m, b⟩ := D.ex
  exact ⟨f, fd, ⟨fun vs H Q E q => absurd q (h vs H Q E), fun A outer s H args us vs Q E _ _ _ _ q => absurd q (h vs H Q E)⟩, m, F.kp, b, Fun.at F⟩
end
/-- f(..) of an own def -/
def tC0 (sp : Sp) (E : XK) (t : TA) : TE := fun σ H Q => t σ H fun vs H1 => sp vs H1 Q E
section
variable {X : Cx} {k j : Nat} {x : Str} {ps : List Str} {sp : Sp} {p pos : Pos} {e : Expr} {es : List Expr} {t : TA}
theorem pe_cl (c : Cl X.prog X.w X.K X.mg X.base CX0 k x ps sp) (hr : Room j X.A) (hk : k ≤ j) (hg : Gl X x) (ha : PA X (e :: es) t)
    (hdb : (x == ("__debug__" : Str)) = false := by decide) (he : starEach (e :: es) X.env = (false, eval e X.env) :: starEach es X.env := by rfl) (hpl : (backTo pos (starEach es X.env)).any (·.1) = false := by rfl) :
    PE X (.Call (.Name x p) (e :: es) [] pos) (tC0 sp E0 t) := by
  obtain ⟨f, fd, F, hm, kp, b, _⟩ := c.ex
  refine ⟨fun pins s σ H Q I h => ?_⟩
  refine (pe_call F (hr.mono hk) hg hm kp b .nil pass0 ha hdb he hpl).run pins s σ H Q I ?_
  refine cast ?_ h
  show tC0 sp E0 t σ H Q = t σ H (fun vs H1 => sp (vs ++ []) H1 Q E0)
  simp only [List.append_nil]
  rfl
end
/-- f(x = ..) by its only parameter's name -/
structure ClK (P : Program) (w : World) (K : PySem.W.Frag) (mg : Str → Option Value) (base : Heap) (CX : CXT) (k : Nat) (x : Str) (ps : List Str) (sp : Sp) : Prop where
  ex : ∃ (f : Addr) (fd : FuncData), FnOk P w K mg base CX k f fd ps sp ∧ mg x = some (.ref f) ∧ PySem.W.keepIn K (.ref f) = true ∧ ∀ (s : Shared) (us : List Value), us.length = ps.length → BindsTo s fd ⟨[], ps.zip us⟩ (ps.zip us)
/-- a def that may be called by place may be by its parameters' names -/
theorem Cl.kw {P : Program} {w : World} {K : PySem.W.Frag} {mg : Str → Option Value} {base : Heap} {CX : CXT} {x : Str} {st : Stmt} {ps : List Str} {k : Nat} {sp : Sp} (c : Cl P w K mg base CX k x ps sp) (D : Dx K mg x st ps)
    (h : ∀ (kV doc pm : Value) (an : Option Addr) (cdv ct : Value) (us : List Value), us.length = ps.length → bindArgs (PySem.W.fnOf x x (defArgs st) (defBody st) (defScope st) .none kV doc pm an cdv ct) ⟨[], ps.zip us⟩ = pure (ps.zip us)) : ClK P w K mg base CX k x ps sp := by
  obtain ⟨f, fd, F, m, kp, b, oc, od, osl, lk⟩ := c.ex
  obtain ⟨f', fd', F', m', b'⟩ := D.ex
  rw [m] at m'
  cases m'
  obtain ⟨oc', od', kV, doc, pm, an, cdv, ct, osl', rfl, lk', _⟩ := F'.ex
  rw [lk] at lk'
  cases lk'
  exact ⟨f, _, F, m, kp, fun s us hl => .of_eq (h kV doc pm an cdv ct us hl)⟩
section
variable {X : Cx} {k j : Nat} {x : Str} {ps : List Str} {sp : Sp} {p pos : Pos} {kws : List Keyword} {tk : TA}
def tCK (sp : Sp) (E : XK) (tk : TA) : TE := fun σ H Q => tk σ H fun zs H2 => sp zs H2 Q E
theorem pe_clK (c : ClK X.prog X.w X.K X.mg X.base CX0 k x ps sp) (hr : Room j X.A) (hk : k ≤ j) (hg : Gl X x) (hkw : PK X kws tk)
    (hall : (backToKw pos (keywordEach kws X.env)).all (·.1.isSome) = true := by rfl) (hks : (backToKw pos (keywordEach kws X.env)).filterMap (·.1) = ps := by rfl) (hdb : (x == ("__debug__" : Str)) = false := by decide)
    (hpl : ((backTo pos (starEach [] X.env)).any (·.1) || (backToKw pos (keywordEach kws X.env)).any (·.1.isNone)) = false := by rfl) :
    PE X (.Call (.Name x p) [] kws pos) (tCK sp E0 tk) := by
  obtain ⟨f, fd, F, hm, kp, b⟩ := c.ex
  refine ⟨fun pins s σ H Q I h => ?_⟩
  refine wpAny_Call_Name_kw (ld_glob I hg hm ?_ hdb)
  refine PySem.W.callWith_KW0 (h₀ := X.base) I.ok.mod.kin kp hall ?_ hpl
  refine thn (hkw.run pos pins s σ H _ I h) fun ws s2 ⟨zs, H2, I2, rz, q2⟩ => ⟨I2.kIn, ?_⟩
  rw [hks]
  have hl : ws.length = ps.length := by rw [← rz.length]; exact F.len _ _ _ _ q2
  refine wpAny_call (codeAny_mono (F.run X.A X.stack s2 H2 ⟨[], ps.zip ws⟩ ws zs Q E0 (hr.mono hk) I2.env0 (b s2 ws hl) rz q2) fun r s' hq => ?_)
  cases r with
  | error e => exact pass0 pins σ H2 s2 e s' I2 hq
  | ok fl =>
    cases fl with
    | ret u => exact I2.after hq
    | next => exact False.elim hq
    | brk => exact False.elim hq
    | cont => exact False.elim hq
end
/-! ### error classes of the text -/
/-- where a module's name stands -/
def clsA (mg : Str → Option Value) (x : Str) : Addr := match mg x with | some (.ref a) => a | _ => 0
/-- an own class of errors over ValueError, without an __init__ of its own -/
structure ExF (K : PySem.W.Frag) (mg : Str → Option Value) (x : Str) (C : Addr) : Prop where
  g : mg x = some (.ref C)
  x : PySem.W.excIn K C [.type "ValueError", .type "Exception", .type "BaseException", .type "object"] "ValueError.__new__" = true
  k : PySem.W.keepIn K (.ref C) = true
  b : PySem.W.subIn K (.ref C) (.type "BaseException") = some true
  t : PySem.W.typeIn K (.ref C) = some (.type "type")
  i : PySem.W.isClsIn K C = true
  s : PySem.W.subIn K (.ref C) (.ref C) = some true
theorem ExF.at {K : PySem.W.Frag} {mg : Str → Option Value} {x : Str} {C : Addr} (g : mg x = some (.ref C)) (e : PySem.W.excIn K C [.type "ValueError", .type "Exception", .type "BaseException", .type "object"] "ValueError.__new__" = true) (k : PySem.W.keepIn K (.ref C) = true)
    (b : PySem.W.subIn K (.ref C) (.type "BaseException") = some true) (t : PySem.W.typeIn K (.ref C) = some (.type "type")) (i : PySem.W.isClsIn K C = true) (s : PySem.W.subIn K (.ref C) (.ref C) = some true) : ExF K mg x (clsA mg x) := by
  have e0 : clsA mg x = C := by
    unfold clsA
    rw [g]
  rw [e0]
  exact ⟨g, e, k, b, t, i, s⟩
section
variable {P : Program} {w : World} {K : PySem.W.Frag} {mg : Str → Option Value} {base : Heap} {x : Str} {st : Stmt} {N ps : List Str} {k : Nat} {sp : Sp}
/-- a def that may raise, by its body -/
theorem Cl.mkX (D : Dx K mg x st ps) (S : FnScope N ps (defScope st)) (len : ∀ vs H Q E, sp vs H Q E → vs.length = ps.length)
    (hbody : ∀ (f : Addr) (cdv : Value) (A : Around) (outer : List Env) (s : Shared) (H : Hp) (vs : List V) (Q : VK) (E : XK), Room k (A.deeper (envOfC x (defScope st) s.heap.objs.size f cdv)) → sp vs H Q E →
      ∃ t, PSs (cxOf (L2.CX P w) P w K mg base N x (defScope st) f cdv A outer s H E) (defBody st) t ∧ t { nx := fun _ H' => Q .non H', rt := Q } (start N vs) H) : Cl P w K mg base (L2.CX P w) (k + 1) x ps sp := by
  obtain ⟨f, fd, F, m, b⟩ := D.ex
  exact ⟨f, fd, F.okX S len (hbody f), m, F.kp, b, Fun.at F⟩
end
section
variable {X : Cx} {k j : Nat} {x : Str} {ps : List Str} {sp : Sp} {p pos : Pos} {e : Expr} {es : List Expr} {t : TA} {E : L2.St → XK}
/-- f(..) of a def that may raise -/
theorem pe_clS (c : Cl X.prog X.w X.K X.mg X.base (L2.CX X.prog X.w) k x ps sp) (hr : Room j X.A) (hk : k ≤ j) (hg : Gl X x) (hx : ∀ σ, PassesAt (L2.CX X.prog X.w) X σ (E σ)) (ha : PA X (e :: es) t)
    (hdb : (x == ("__debug__" : Str)) = false := by decide) (he : starEach (e :: es) X.env = (false, eval e X.env) :: starEach es X.env := by rfl) (hpl : (backTo pos (starEach es X.env)).any (·.1) = false := by rfl) :
    PE X (.Call (.Name x p) (e :: es) [] pos) (tCallS sp E t) := by
  obtain ⟨f, fd, F, hm, kp, b, _⟩ := c.ex
  exact pe_callS F (hr.mono hk) hg hm kp b hx ha hdb he hpl
end
end Kt
namespace Kt
open PySem PySem.Spec PyProof.Rows L2

/-- a slice's part that is left out -/
abbrev tNo : TO := fun _ H Q => Q none H
theorem po_no {X : Cx} : PO X none tNo := po_none
/-! ### heaps that grow -/
theorem same_new {H : Hp} {p : Addr} (h : H p = none) (o : HO) : Same H (upd H p o) := fun b u q => by rw [upd_ne (ne_of_none q h)]; exact q
/-- an object that the first does not know may change -/
theorem Same.mut {H H' : Hp} {p : Addr} {o : HO} (e : Same H H') (h : H p = none) : Same H (upd H' p o) := fun a u ha => by
  rw [upd_ne (ne_of_none ha h)]
  exact e a u ha
/-- tuples stand; lists and dicts are lists and dicts still -/
structure Wk (H H' : Hp) : Prop where
  tup : ∀ a xs, H a = some (.tup xs) → H' a = some (.tup xs)
  lst : ∀ a xs, H a = some (.lst xs) → ∃ ys, H' a = some (.lst ys)
  dK : ∀ a xs, H a = some (.dK xs) → ∃ ys, H' a = some (.dK ys)
theorem Wk.refl (H : Hp) : Wk H H := ⟨fun _ _ h => h, fun _ xs h => ⟨xs, h⟩, fun _ xs h => ⟨xs, h⟩⟩
theorem Wk.trans {H H1 H2 : Hp} (a : Wk H H1) (b : Wk H1 H2) : Wk H H2 :=
  ⟨fun x xs h => b.tup _ _ (a.tup _ _ h), fun x xs h => let ⟨_, e⟩ := a.lst _ _ h; b.lst _ _ e, fun x xs h => let ⟨_, e⟩ := a.dK _ _ h; b.dK _ _ e⟩
theorem Wk.same {H H' : Hp} (h : Same H H') : Wk H H' := ⟨fun _ _ q => h _ _ q, fun _ xs q => ⟨xs, h _ _ q⟩, fun _ xs q => ⟨xs, h _ _ q⟩⟩

/-! ### things -/
inductive Th where
  | non | bl (b : Bool) | int (i : Int) | str (z : Str) | tup (l : List Th) | ls | dc
/-- its signs are signs -/
def okS (z : Str) : Prop := ∀ c ∈ z.cps.toList, c < 1114112
mutual
/-- v stands for the thing t -/
inductive Rep (H : Hp) : V → Th → Prop
  | non : Rep H .non .non
  | bl (b : Bool) : Rep H (.bl b) (.bl b)
  | int (i : Int) : Rep H (.int i) (.int i)
  | str (z : Str) (h : z.length ≤ 100) (ok : okS z) : Rep H (.str z) (.str z)
  | tup {a : Addr} {xs : List V} {l : List Th} (h : H a = some (.tup xs)) (n : xs.length ≤ 100) (hl : RepL H xs l) : Rep H (.ref a) (.tup l)
  | ls {a : Addr} {xs : List V} (h : H a = some (.lst xs)) : Rep H (.ref a) .ls
  | dc {a : Addr} {kvs : List (Key × V)} (h : H a = some (.dK kvs)) : Rep H (.ref a) .dc
inductive RepL (H : Hp) : List V → List Th → Prop
  | nil : RepL H [] []
  | cons {v : V} {vs : List V} {t : Th} {ts : List Th} (h : Rep H v t) (r : RepL H vs ts) : RepL H (v :: vs) (t :: ts)
end
mutual
theorem Rep.wk {H H' : Hp} (w : Wk H H') : ∀ {v : V} {t : Th}, Rep H v t → Rep H' v t
  | _, _, .non => .non
  | _, _, .bl b => .bl b
  | _, _, .int i => .int i
  | _, _, .str z h ok => .str z h ok
  | _, _, .tup h n hl => .tup (w.tup _ _ h) n (RepL.wk w hl)
  | _, _, .ls h => let ⟨_, e⟩ := w.lst _ _ h; .ls e
  | _, _, .dc h => let ⟨_, e⟩ := w.dK _ _ h; .dc e
theorem RepL.wk {H H' : Hp} (w : Wk H H') : ∀ {vs : List V} {ts : List Th}, RepL H vs ts → RepL H' vs ts
  | _, _, .nil => .nil
  | _, _, .cons h r => .cons (Rep.wk w h) (RepL.wk w r)
end
theorem RepL.length {H : Hp} : ∀ {vs : List V} {ts : List Th}, RepL H vs ts → vs.length = ts.length
  | _, _, .nil => rfl
  | _, _, .cons _ r => congrArg Nat.succ (RepL.length r)
theorem RepL.get {H : Hp} : ∀ {vs : List V} {ts : List Th} {i : Nat} {t : Th}, RepL H vs ts → ts[i]? = some t → ∃ v, vs[i]? = some v ∧ Rep H v t
  | _, _, _, _, .nil, e => by simp at e
  | _, _, 0, t, .cons h _, e => by simp at e; subst e; exact ⟨_, rfl, h⟩
  | _, _, i + 1, t, .cons _ r, e => by
    obtain ⟨v, h1, h2⟩ := RepL.get (i := i) (t := t) r (by simpa using e)
    exact ⟨v, by simpa using h1, h2⟩
theorem RepL.get' {H : Hp} : ∀ {vs : List V} {ts : List Th} {i : Nat} {v : V}, RepL H vs ts → vs[i]? = some v → ∃ t, ts[i]? = some t ∧ Rep H v t
  | _, _, _, _, .nil, e => by simp at e
  | _, _, 0, t, .cons h _, e => by simp at e; subst e; exact ⟨_, rfl, h⟩
  | _, _, i + 1, t, .cons _ r, e => by
    obtain ⟨v, h1, h2⟩ := RepL.get' (i := i) (v := t) r (by simpa using e)
    exact ⟨v, by simpa using h1, h2⟩
theorem RepL.append {H : Hp} : ∀ {vs : List V} {ts : List Th} {vs' : List V} {ts' : List Th}, RepL H vs ts → RepL H vs' ts' → RepL H (vs ++ vs') (ts ++ ts')
  | _, _, _, _, .nil, s => s
  | _, _, _, _, .cons h r, s => .cons h (RepL.append r s)
theorem RepL.take {H : Hp} : ∀ {vs : List V} {ts : List Th} (n : Nat), RepL H vs ts → RepL H (vs.take n) (ts.take n)
  | _, _, 0, _ => .nil
  | _, _, _ + 1, .nil => .nil
  | _, _, n + 1, .cons h r => .cons h (RepL.take n r)
theorem RepL.drop {H : Hp} : ∀ {vs : List V} {ts : List Th} (n : Nat), RepL H vs ts → RepL H (vs.drop n) (ts.drop n)
  | _, _, 0, r => r
  | _, _, _ + 1, .nil => .nil
  | _, _, n + 1, .cons _ r => RepL.drop n r
theorem RepL.rep {H : Hp} {vs : List V} {ts : List Th} (r : RepL H vs ts) : ∀ n : Nat, RepL H (List.replicate n vs).flatten (List.replicate n ts).flatten
  | 0 => .nil
  | n + 1 => by
    rw [List.replicate_succ, List.replicate_succ, List.flatten_cons, List.flatten_cons]
    exact r.append (RepL.rep r n)

/-! ### isinstance -/
def Th.ty : Th → String
  | .non => "NoneType" | .bl _ => "bool" | .int _ => "int" | .str _ => "str" | .tup _ => "tuple" | .ls => "list" | .dc => "dict"
def Th.isStr : Th → Bool | .str _ => true | _ => false
def Th.isTup : Th → Bool | .tup _ => true | _ => false
def Th.isBl : Th → Bool | .bl _ => true | _ => false
theorem Rep.tyx {K : PySem.W.Frag} {H : Hp} {v : V} {t : Th} (r : Rep H v t) : TyX K H v (.type t.ty) := by
  cases r with
  | non => exact .base .non
  | bl b => exact .base (.bl b)
  | int i => exact .base (.int i)
  | str z h ok => exact .base (.str z)
  | tup h n hl => exact .base (.tup h)
  | ls h => exact .base (.lst h)
  | dc h => exact .base (.dK h)
theorem kstr {K : PySem.W.Frag} : ∀ t : Th, PySem.W.kitOne K (.type t.ty) (.type "str") = some t.isStr
  | .non => kit_ty (show kitB "NoneType" "str" = some false by decide +kernel)
  | .bl _ => kit_ty (show kitB "bool" "str" = some false by decide +kernel)
  | .int _ => kit_ty (show kitB "int" "str" = some false by decide +kernel)
  | .str _ => kit_ty (show kitB "str" "str" = some true by decide +kernel)
  | .tup _ => kit_ty (show kitB "tuple" "str" = some false by decide +kernel)
  | .ls => kit_ty (show kitB "list" "str" = some false by decide +kernel)
  | .dc => kit_ty (show kitB "dict" "str" = some false by decide +kernel)
theorem ktup {K : PySem.W.Frag} : ∀ t : Th, PySem.W.kitOne K (.type t.ty) (.type "tuple") = some t.isTup
  | .non => kit_ty (show kitB "NoneType" "tuple" = some false by decide +kernel)
  | .bl _ => kit_ty (show kitB "bool" "tuple" = some false by decide +kernel)
  | .int _ => kit_ty (show kitB "int" "tuple" = some false by decide +kernel)
  | .str _ => kit_ty (show kitB "str" "tuple" = some false by decide +kernel)
  | .tup _ => kit_ty (show kitB "tuple" "tuple" = some true by decide +kernel)
  | .ls => kit_ty (show kitB "list" "tuple" = some false by decide +kernel)
  | .dc => kit_ty (show kitB "dict" "tuple" = some false by decide +kernel)
theorem kbl {K : PySem.W.Frag} : ∀ t : Th, PySem.W.kitOne K (.type t.ty) (.type "bool") = some t.isBl
  | .non => kit_ty (show kitB "NoneType" "bool" = some false by decide +kernel)
  | .bl _ => kit_ty (show kitB "bool" "bool" = some true by decide +kernel)
  | .int _ => kit_ty (show kitB "int" "bool" = some false by decide +kernel)
  | .str _ => kit_ty (show kitB "str" "bool" = some false by decide +kernel)
  | .tup _ => kit_ty (show kitB "tuple" "bool" = some false by decide +kernel)
  | .ls => kit_ty (show kitB "list" "bool" = some false by decide +kernel)
  | .dc => kit_ty (show kitB "dict" "bool" = some false by decide +kernel)


/-! ### lists of ints, bools, texts as data -/
theorem dpInts {K : PySem.W.Frag} {H : Hp} : ∀ ns : List Int, DpAll K H (ns.map V.int) (ns.map PyData.int)
  | [] => .nil
  | n :: r => .cons (.int n) (dpInts r)
theorem dpBls {K : PySem.W.Frag} {H : Hp} : ∀ ns : List Bool, DpAll K H (ns.map V.bl) (ns.map PyData.bool)
  | [] => .nil
  | n :: r => .cons (.bl n) (dpBls r)
theorem dpStrs {K : PySem.W.Frag} {H : Hp} : ∀ ns : List Str, DpAll K H (ns.map V.str) (ns.map PyData.str)
  | [] => .nil
  | n :: r => .cons (.str n) (dpStrs r)
theorem depth_all0 {α : Type} {f : α → PyData} (h : ∀ a, (f a).depth = 0) : ∀ l : List α, PyData.depthAll (l.map f) = 0
  | [] => rfl
  | a :: r => by
    show max (f a).depth (PyData.depthAll (r.map f)) = 0
    rw [h a, depth_all0 h r]
    rfl
theorem can_all {α : Type} {f : α → PyData} : ∀ l : List α, (∀ a ∈ l, (f a).canLay0 = true) → PyData.canLayAll0 (l.map f) = true
  | [], _ => rfl
  | a :: r, h => by
    show ((f a).canLay0 && PyData.canLayAll0 (r.map f)) = true
    rw [h a (List.mem_cons_self ..), can_all r fun b hb => h b (List.mem_cons_of_mem _ hb)]
    rfl
theorem shaped_of {α : Type} {f : α → PyData} (h : ∀ a, (f a).depth = 0) (l : List α) (c : ∀ a ∈ l, (f a).canLay0 = true) : SeqAt.shaped (.list (l.map f)) = true := by
  unfold SeqAt.shaped
  have e1 : (PyData.list (l.map f)).canLay0 = true := can_all l c
  have e2 : (PyData.list (l.map f)).depth = 1 := by
    show PyData.depthAll (l.map f) + 1 = 1
    rw [depth_all0 h]
  rw [e1, e2]
  rfl
theorem shapedInts (l : List Int) : SeqAt.shaped (.list (l.map PyData.int)) = true := shaped_of (fun _ => rfl) l fun _ _ => rfl
theorem shapedBls (l : List Bool) : SeqAt.shaped (.list (l.map PyData.bool)) = true := shaped_of (fun _ => rfl) l fun _ _ => rfl
theorem shapedStrs (l : List Str) (h : ∀ z ∈ l, okS z) : SeqAt.shaped (.list (l.map PyData.str)) = true := shaped_of (fun _ => rfl) l fun z hz => by
  have := h z hz
  simp only [PyData.canLay0, PyData.strOk, Array.all_eq_true_iff_forall_mem, decide_eq_true_eq]
  intro x hx
  exact this x (Array.mem_toList_iff.mpr hx)
theorem eqvNil (l : List PyData) : PyData.eqv (.list l) (.list []) = l.isEmpty := by
  cases l <;> rfl
theorem eqvBls : ∀ l r : List Bool, PyData.eqvAll (l.map PyData.bool) (r.map PyData.bool) = decide (l = r)
  | [], [] => rfl
  | [], b :: s => by simp [PyData.eqvAll]
  | a :: l, [] => by simp [PyData.eqvAll]
  | a :: l, b :: r => by
    show (PyData.eqv (.bool a) (.bool b) && PyData.eqvAll (l.map PyData.bool) (r.map PyData.bool)) = _
    rw [eqvBls l r]
    show ((a == b) && decide (l = r)) = _
    by_cases h : a = b
    · subst h
      simp
    · simp [h]

theorem yesI {σ : L2.St} {H : Hp} {X Y : Hp → Prop} (h : X H) : tYes σ H fun b H3 => if b = true then X H3 else Y H3 := by
  unfold tYes
  dsimp only
  rw [if_pos rfl]
  exact h
/-! ### comprehensions whose element only tells -/
section
variable {J : It} {n : Nat} {G : Hp → Prop} {Y : Nat → Hp → V → Hp → Prop} {te : TE} {vs : List Nat} {σ : L2.St} {H1 : Hp} {D : Addr} {Qd : Hp → Prop} {j : Nat}
theorem lc_pure (w : Walk J n G Y) (f : Nat → V) (hD : H1 D = none) (hn : n ≤ 1000) (hG : ∀ H', Same H1 H' → G H') (hset : ∀ x, wipe ((wipe σ vs).set j (some x)) vs = wipe σ vs)
    (he : ∀ i x H H', i < n → Same H1 H → Y i H x H' → Same H H' ∧ ∀ Q : VK, (∀ H2, Same H' H2 → Q (f i) H2) → te ((wipe σ vs).set j (some x)) H' Q)
    (hd : ∀ H', Same H1 H' → H' D = some (.lst ((List.range n).map f)) → Qd H') :
    ∃ W : Nat → Nat → Hp → Prop, (∃ m, W 0 m (upd H1 D (.lst []))) ∧ ∀ i m H, W i m H →
      (J.stop i H ∧ Qd H) ∨ (J.go i H ∧ ∃ Nx : Hp → Prop, (∀ H', Nx H' → ∃ m', m' < m ∧ W (i + 1) m' H') ∧ ∀ x H', J.yld i H x H' → gName j x (wipe σ vs) H' fun σ2 H2 => wipe σ2 vs = wipe σ vs ∧ tYes σ2 H2 fun b H3 =>
        if b = true then te σ2 H3 fun y H4 => ∃ acc, H4 D = some (.lst acc) ∧ acc.length < sizeLine ∧ Nx (upd H4 D (.lst (acc ++ [y]))) else Nx H3) := by
  refine lc_it w (g := gName j) (tt := tYes) (fun i H => Same H1 H ∧ H D = some (.lst ((List.range i).map f))) ⟨same_new hD _, upd_same⟩ (fun i H _ p => hG H p.1) (fun i x H H' hi p y => ?_) (fun H p => hd H p.1 p.2)
  obtain ⟨s, k⟩ := he i x H H' hi p.1 y
  refine ⟨hset x, ?_⟩
  unfold tYes
  dsimp only
  rw [if_pos rfl]
  refine k _ fun H2 s2 => ⟨_, s2 _ _ (s _ _ p.2), ?_, ?_, ?_⟩
  · rw [List.length_map, List.length_range]
    exact small1000 (by omega)
  · exact Same.mut ((p.1.trans s).trans s2) hD
  · rw [upd_same, List.range_succ, List.map_append]
    rfl
end
end Kt
namespace Kt
open PySem PySem.Spec PyProof.Rows L2
/-! a tuple once is the tuple itself -/
theorem tuple_mul1 (l : Addr) (items : Array Value) (n : Nat) (dd : Option Addr) (sl : Array (Option Value)) (u : Tok) (c1 : (items.isEmpty || (1 : Int) == 1) = true) :
    Meets (Builtin.«tuple.__mul__» ⟨[.ref l, .int 1 u], []⟩) (fun _ R s => s.heap.get? l = some { cls := .type "tuple", dict := dd, data := .seq items n, slots := sl } ∧
      R (.ok (.ret (Value.ref l))) s) :=
  .of_wp fun prog w A R s h => by
    obtain ⟨hp, g, d, tk, os⟩ := s
    obtain ⟨hl, h⟩ := h
    have f1 := AutoSeq1.idx_int
    wp_walk using wpAny_loadPart' hl
    repeat (first
      | (refine wpAny_ite_false (decide_eq_false (by decide)) ?_; wp_walk using wpAny_loadPart' hl)
      | (refine wpAny_ite_true (decide_eq_true (by rw [c1])) ?_; wp_walk using wpAny_loadPart' hl))
    exact ⟨_, rfl, h⟩
section
variable {X : Cx}
def rRep1 (K : PySem.W.Frag) : R2 := fun x y H Q => ∃ l xs, x = .ref l ∧ y = .int 1 ∧ SqT K H l xs ∧ Q (.ref l) H
theorem op_rep1 : OpR X (binaryOp .Mult) (rRep1 X.K) := by
  intro pins s σ H x y v u Q I rx ry h
  obtain ⟨l, xs, rfl, rfl, hT, q⟩ := h
  cases rx
  obtain ⟨t, rfl⟩ := ry
  obtain ⟨its, r, ⟨⟨cls, dd, data, sl⟩, ho, hc, n, hd⟩, hs⟩ := I.tuple hT
  simp only at hc hd
  subst hc hd
  refine wpAny_binaryOp_repeat_ref (T := "tuple") (U := "int") (by decide) ⟨_, ho, rfl⟩ (fun s' => typeIs_int s' 1 t) noFill_tuple_mul F.fills_int_mul F.slot_int_rmul repeat_tuple F.slot_int_index.lookup
    (call_meets F.slot_int_rmul (typeIs_int s 1 t) F.entry_int_rmul (F.args_int_rmul_2 _ _) (int_rmul_tuple 1 t l its.toArray n dd sl)
      ⟨ho, rfl, ⟨_, ho, rfl⟩, call_meets F.slot_tuple_mul ⟨_, ho, rfl⟩ F.entry_tuple_mul (F.args_tuple_mul_2 _ _) (tuple_mul1 l its.toArray n dd sl t (by rw [Bool.or_eq_true]; exact .inr rfl)) ⟨ho, ?_⟩⟩)
  exact ⟨.ref l, H, I, rfl, q⟩
/-- a tuple, one to a thousand times -/
def rRepA (K : PySem.W.Frag) : R2 := fun x y H Q => rRepT K x y H Q ∨ rRep1 K x y H Q
theorem op_repTA : OpR X (binaryOp .Mult) (rRepA X.K) := OpR.or op_repT op_rep1
end
end Kt
namespace Kt
open PySem PySem.Spec PyProof.Rows L2
theorem clsA_of {mg : Str → Option Value} {x : Str} {C : Addr} (at_ : mg x = some (.ref C)) : clsA mg x = C := by
  unfold clsA
  rw [at_]
/-! ### an error that is kept behind its except suite -/
/-- an error object of the class cls, with the dict d, that nobody handles any more -/
def ExK (cls : Value) (d : Option Addr) (a : Addr) : HO := .ext fun heap => ∃ (ob : Obj) (fl : Array Value), heap.get? a = some ob ∧ Zc cls d ob ∧ ob.data = .fields fl
theorem exK_ok {P : Program} {w : World} {H : Hp} {heap : Heap} {a : Addr} {cls : Value} {d : Option Addr} {ob : Obj} {fl : Array Value} (there : heap.get? a = some ob) (kind : Zc cls d ob) (flds : ob.data = .fields fl) : ObjOk P w H heap a (ExK cls d a) :=
  ⟨⟨ob, fl, there, kind, flds⟩, ⟨ob, there⟩, fun _ _ ⟨o, v, g, k⟩ keeps => ⟨o, v, keeps o g, k⟩⟩
section
variable {X : Cx} {pl : List (Addr × Obj)} {σ : L2.St} {H : Hp} {sh : Shared} {a : Addr} {ob : Obj} {fl : Array Value}
/-- an object that stands, unknown at the entry, is told of from here on -/
theorem Inv.track {o : HO} (I : Inv X pl σ H sh) (there : sh.heap.get? a = some ob) (flds : ob.data = .fields fl) (gone : H a = none) (entry : X.s_0.heap.get? a = none) (loc : a ≠ X.env.locals)
    (pins : ∀ p ∈ X.pn ++ pl, p.1 ≠ a) (new : ObjOk X.prog X.w (upd H a o) sh.heap a o) : Inv X pl σ (upd H a o) sh := by
  have still : ∀ {b : Addr} {u : HO}, H b = some u → upd H a o b = some u := fun {b u} t => by rw [upd_ne (ne_of_none t gone)]; exact t
  have base := I.base
  refine { I with base := { base with free := fun b u t n hx => ?_, tups := fun b xs t => still (base.tups b xs t), frzs := fun b u xs t => still (base.frzs b u xs t), tbls := fun b ps t => ?_ }, free := ?_, freeC := fun x c t => ?_, pin := fun p hp => ?_, hok := fun b u t => ?_ }
  · rw [upd_ne fun z => by rw [z, entry] at t; cases t]
    exact base.free b u t n hx
  · obtain ⟨more, z⟩ := base.tbls b ps t
    exact ⟨more, still z⟩
  · rw [upd_ne loc.symm]
    exact I.free
  · rw [upd_ne fun z => ?_]
    · exact I.freeC x c t
    · obtain ⟨v, oc, g, isCell⟩ := I.cell x c t
      rw [z, there] at g
      cases g
      rw [flds] at isCell
      cases isCell
  · obtain ⟨p1, p2, p3, p4, p5⟩ := I.pin p hp
    exact ⟨p1, by rw [upd_ne (pins p hp)]; exact p2, p3, p4, p5⟩
  · by_cases e : b = a
    · subst e
      rw [upd_same] at t
      cases t
      exact new
    · rw [upd_ne e] at t
      exact (I.hok b u t).stay (fun _ _ _ z => z) (fun _ z => still z) fun _ _ z => still z
/-- nothing stood where an error that flies over the frames is -/
theorem error_new {B heap : Heap} (top : X.stack = X.env :: X.outer) (frm : X.env.frame = some X.env.locals) (I : Inv X pl σ H sh) (ground : ∀ b o, sh.heap.get? b = some o → b ∉ frs X.stack → B.get? b = some o) (empty : B.get? a = none)
    (over : heap.FunFrames B (X.env :: X.outer)) (there : heap.get? a = some ob) (flds : ob.data = .fields fl) : a ∉ X.fs ∧ a ≠ X.env.locals ∧ sh.heap.get? a = none := by
  have noFrame : a ∉ frs (X.env :: X.outer) := fun isF => by
    obtain ⟨_, _, g, other⟩ := over.mem isF
    exact other _ (by rw [there] at g; cases g; exact flds)
  refine ⟨fun isF => noFrame ?_, fun z => noFrame (List.mem_filterMap.mpr ⟨_, List.mem_cons_self, by rw [frm, z]⟩), ?_⟩
  · obtain ⟨env, m, g⟩ := List.mem_filterMap.mp isF
    exact List.mem_filterMap.mpr ⟨env, List.mem_cons_of_mem _ m, g⟩
  · cases t : sh.heap.get? a with
    | none => rfl
    | some o =>
      have := ground a o t (by rw [top]; exact noFrame)
      rw [empty] at this
      cases this
theorem clause_named {x : Str} {c : Value} {np : Pos} {Q E : Value → Shared → Prop} (nm : Names X x c) (I : Inv (X.suite a ((a, ob) :: pl)) [] σ H sh) (q : Q c sh) : wpAny (model X.prog X.w) (X.A.mark (some (.ref a))) (eval (.Name x np) X.env) Q E sh := by
  rcases nm with ⟨gl, db, own | ⟨miss, blt, nn⟩⟩
  · exact ld_glob (X := X.suite a ((a, ob) :: pl)) I gl own q db
  · exact ld_blt (X := X.suite a ((a, ob) :: pl)) I gl miss blt q nn db
end
/-- what a clause that takes all errors of its body wishes, where the error is told of behind the suite -/
def wVal (K : PySem.W.Frag) (c : Value) (i : Nat) (ts : Addr → Value → Option Addr → TS) (D : Ends) : WX := fun cls d σ H =>
  PySem.W.exmOne K cls c = some true ∧ ∀ a, H a = none → ts a cls d { nx := fun σ1 H1 => D.nx (σ1.set i none) (upd H1 a (ExK cls d a)), rt := fun _ _ => False, bk := fun _ _ => False, ct := fun _ _ => False } (σ.set i (some (.ref a))) H
section
variable {X : Cx} {x n : Str} {c : Value} {i : Nat} {body rest : List Stmt} {first : Stmt} {p1 p2 p3 : Pos} {tb : WX → TS} {ts : Addr → Value → Option Addr → TS}
/-- try: body / except x as n: a suite that ends by itself -/
theorem ps_try_val (noex : X.ex = []) (top : X.stack = X.env :: X.outer) (frm : X.env.frame = some X.env.locals) (nd : X.N.Nodup) (slot : X.N[i]? = some n) (isLoc : X.env.kindOf n = some .local) (nm : Names X x c)
    (inner : ∀ (W : WX) (pl : List (Addr × Obj)) (xe : Value → Shared → Prop), Takes (X.tr pl xe) W → PassesOwn (model X.prog X.w) X.A X.env xe → PSs (X.tr pl xe) body (tb W))
    (suite : ∀ (a : Addr) (ob : Obj) (cls : Value) (d : Option Addr) (pl : List (Addr × Obj)), Zc cls d ob → (∃ fl, ob.data = .fields fl) → PSs (X.suite a ((a, ob) :: pl)) (first :: rest) (ts a cls d)) :
    PS X (.Try body [.ExceptHandler (some (.Name x p1)) (some n) (first :: rest) p2] [] [] p3) (fun D => tb (wVal X.K c i ts D) D) := by
  constructor
  intro pl sh st hp dd inv wish
  have good := inv.ok
  apply wpAny_Try_except
  have run := (inner (wVal X.K c i ts dd) (X.pn ++ pl) (fun e s₁ => wpAny (model X.prog X.w) X.A (noteFrame e X.env) (fun _ s₂ => wpAny (model X.prog X.w) X.A (setFlight e none) (fun _ s₃ =>
    wpAny (model X.prog X.w) X.A (handleBy e X.env [.ExceptHandler (some (.Name x p1)) (some n) (first :: rest) p2]) (SP X pl dd) X.xe s₃) X.xe s₂) X.xe s₁) ?caught PassesOwn.looking).run [] sh st hp dd (inv.toTry _) wish
  case caught =>
    intro val sE flies
    obtain ⟨a, B, sB, plB, stB, hpB, cls, d, rfl, invT, ground, upTo, sky, gone, sameOs, bare, matches_, go⟩ := flies
    have invB := invT.ofTry (pins := pl) good
    rw [show (X.tr (X.pn ++ pl) _).stack = X.env :: X.outer from top] at sky
    show wpAny (model X.prog X.w) X.A (noteFrame _ _) _ _ _
    apply Sky.land Zc.steady (show X.A.frames = some (X.env :: X.outer) by rw [good.frames, top]) frm sky
    intro heap1 air1 up1
    have inv1 := invB.landed (s' := { sE with heap := heap1 }) ground air1.1 (upTo.trans up1) sameOs bare
    obtain ⟨ob1, fl1, there1, kind1, flds1⟩ := air1.there
    obtain ⟨noFs, noLoc, notB⟩ := error_new top frm invB ground air1.2.1 air1.2.2.1 there1 flds1
    have entry : X.s_0.heap.get? a = Option.none := by
      cases t : X.s_0.heap.get? a with
      | none => rfl
      | some o =>
        obtain ⟨_, z⟩ := invB.base.there a o t (by rw [noex]; exact List.not_mem_nil)
        rw [notB] at z
        cases z
    have apart : ∀ p ∈ X.pn ++ pl, p.1 ≠ a := fun p hp z => by
      have := (invB.pin p hp).1
      rw [z, notB] at this
      cases this
    apply wpAny_handleBy_cons (codeAny_handlers_test ?_) (fun z => by cases z)
    refine clause_named nm (inv1.suite there1 flds1 gone noLoc noFs) ?_
    have isOf : PySem.W.Looks (model X.prog X.w) heap1 (typeOf (.ref a)) cls := fun _ _ _ _ keeps q => wpAny_typeOf_ref (keeps _ _ there1) (by rw [kind1.1]; exact q)
    refine (PySem.W.exm_one inv1.kIn isOf matches_).here (codeAny_handlers_suite_as ?_)
    apply HandSPX.lands_againZ air1
    intro heap2 air2 up2
    have inv2 := invB.landed (s' := { sE with heap := heap2 }) ground air2.1 ((upTo.trans up1).trans up2) sameOs bare
    obtain ⟨ob2, fl2, there2, kind2, flds2⟩ := air2.there
    refine store_ok (X := X.suite a ((a, ob2) :: (X.pn ++ pl))) (v := .ref a) (inv2.suite there2 flds2 gone noLoc noFs) nd slot (.inl isLoc) rfl (fun s3 inv3 => ?_) (.inr isLoc)
    refine wpAny_mono ((suite a ob2 cls d (X.pn ++ pl) kind2 ⟨_, flds2⟩).run [] s3 _ hpB _ inv3 (go a gone)) (fun flow s4 ended => ?_) fun _ _ never => never.elim
    match flow, ended with
    | .next, ⟨st4, hp4, inv4, q4⟩ =>
      obtain ⟨g4, none4, _⟩ := inv4.pin (a, ob2) (List.mem_append.mpr (.inl List.mem_cons_self))
      have inv5 := inv4.unsuite good
      have pinned : ∀ p ∈ (a, ob2) :: (X.pn ++ pl), s4.heap.get? p.1 = some p.2 ∧ hp4 p.1 = Option.none ∧ p.1 ≠ X.env.locals ∧ p.1 ∉ X.fs ∧ ∀ v, p.2.data ≠ .cell v := fun p m => by
        rcases List.mem_cons.mp m with rfl | old
        · refine ⟨g4, none4, noLoc, noFs, fun v z => ?_⟩
          rw [flds2] at z
          cases z
        · exact inv5.pin p old
      have inv6 : Inv (X.tr ((a, ob2) :: X.pn) X.xe) pl st4 hp4 s4 := ⟨good.toTry _ _, inv5.os, inv5.bare, inv5.base, inv5.loc, inv5.cell, inv5.free, inv5.freeC, pinned, inv5.hok, inv5.len⟩
      refine gone_ok (X := X.tr ((a, ob2) :: X.pn) X.xe) inv6 nd slot isLoc fun s7 inv7 => ⟨_, _, ?_, q4⟩
      have g7 := (inv7.pin (a, ob2) (List.mem_append.mpr (.inl List.mem_cons_self))).1
      have inv8 : Inv X pl (st4.set i Option.none) hp4 s7 := ⟨good, inv7.os, inv7.bare, inv7.base, inv7.loc, inv7.cell, inv7.free, inv7.freeC, fun p m => inv7.pin p (List.mem_cons_of_mem _ m), inv7.hok, inv7.len⟩
      exact Inv.track inv8 g7 flds2 none4 entry noLoc apart (exK_ok g7 kind2 flds2)
    | .brk, ⟨_, _, _, no⟩ => exact no.elim
    | .cont, ⟨_, _, _, no⟩ => exact no.elim
    | .ret _, ⟨_, _, _, _, _, no⟩ => exact no.elim
  refine wpAny_mono run (fun flow s1 ended => ?_) fun _ _ z => z
  match flow, ended with
  | .next, ⟨_, _, inv1, q1⟩ => exact wpAny_execs_nil ⟨_, _, inv1.ofTry good, q1⟩
  | .brk, ⟨_, _, inv1, q1⟩ => exact ⟨_, _, inv1.ofTry good, q1⟩
  | .cont, ⟨_, _, inv1, q1⟩ => exact ⟨_, _, inv1.ofTry good, q1⟩
  | .ret _, ⟨_, _, _, inv1, rel, q1⟩ => exact ⟨_, _, _, inv1.ofTry good, rel, q1⟩
end
/-- isinstance(e, c) of a kept error -/
def rIsK (K : PySem.W.Frag) : List V → Hp → VK → Prop := fun args H Q => ∃ (a D : Addr) (c : V) (cv : Value) (b : Bool), args = [.ref a, c] ∧ ExcC K D ∧ H a = some (ExK (.ref D) none a) ∧ (∀ u, RelV c u → u = cv) ∧ PySem.W.kitOne K (.ref D) cv = some b ∧ Q (.bl b) H
theorem call_isK {X : Cx} : CallR X (.builtin "isinstance") (rIsK X.K) := by
  intro pl sh st hp args vals Q inv rel told
  obtain ⟨a, D, c, cv, b, rfl, fit, kept, named, is_, q⟩ := told
  obtain ⟨u, rfl, r1⟩ : ∃ u, vals = [.ref a, u] ∧ RelV c u := by
    cases rel with
    | cons r0 more =>
      cases more with
      | cons r1 more =>
        cases more
        cases r0
        exact ⟨_, rfl, r1⟩
  obtain rfl := named u r1
  obtain ⟨⟨⟨_, _, dat, _⟩, fl, there, ⟨isD, noDict⟩, flds⟩, _, _⟩ := inv.hok a _ kept
  dsimp only at isD noDict flds
  subst isD noDict flds
  refine PySem.W.kia_one (PySem.W.handS_kitx_exc fit.hg fit.hk fit.hs fit.hd fit.ha fit.hn fit.ht fit.hm) inv.kIn ⟨there, rfl, rfl, trivial⟩ is_ (fun z => by cases z) fun toks => ?_
  exact ⟨.bl b, hp, inv.kept (t' := toks) fun _ _ g => g, rfl, q⟩
theorem CallR.either {X : Cx} {f : Value} {r r' : List V → Hp → VK → Prop} (one : CallR X f r) (two : CallR X f r') : CallR X f (fun args H Q => r args H Q ∨ r' args H Q) :=
  fun pl sh st hp args vals Q inv rel told => told.elim (one pl sh st hp args vals Q inv rel) (two pl sh st hp args vals Q inv rel)
end Kt
namespace Kt
open PySem PySem.Spec PySem.Calls PyProof.Rows L2
/-! ### an own class of errors whose __init__ says super().__init__(a text with its argument) and keeps the argument -/
/-- how an argument is written into a text -/
def inText : V → Option Str
  | .str z => some z
  | .int i => some (toString i)
  | _ => none
structure InitPos where
  (a b c d e f g h i j k l m : Pos)
  n : Nat
def initBody (fld txt : Str) (q : InitPos) : List Stmt :=
  [.Expr (.Call (.Attribute (.Call (.Name "super" q.a) [] [] q.b) "__init__" q.c) [.JoinedStr [.Constant (.str txt) q.n q.d, .FormattedValue (.Name fld q.e) (-1) none q.f] q.g] [] q.h) q.i,
   .Assign [.Attribute (.Name "self" q.j) fld q.k] (.Name fld q.l) q.m]
def initScope (fld : Str) : Scope := { kind := .function, names := [("self", .local), (fld, .local), ("__class__", .free), ("super", .globalImplicit)], isGenerator := false, isCoroutine := false, more := [] }
/-- what the written part says of the class at C, of its __init__ -/
structure IniC (P : Program) (K : PySem.W.Frag) (mg : Str → Option Value) (C fI : Addr) (fld txt : Str) : Prop where
  at_ : OexC K C
  fn : ∃ (oc ccl cl : Value) (od cdd cld : Option Addr) (osl ccs csl : Array (Option Value)) (qual : Str) (params : Arguments) (q : InitPos) (dV kV doc pm ct : Value) (an : Option Addr) (cda cc : Addr) (vs : Array Value) (file : Str) (tf : Tok) (cdD : ClassData) (ar1 : Arg) (pl : Env → Sem Bool),
    K.lookup fI = some ⟨oc, od, .func (PySem.W.fnX "__init__" qual params (initBody fld txt q) (initScope fld) [("__class__", cc)] dV kV doc pm an (.ref cda) ct), osl⟩ ∧ PySem.W.codeIn K (.ref cda) qual = true ∧
    (params.posonlyargs ++ params.args).head? = some ar1 ∧ ar1.arg = "self" ∧ (∀ a b : Value, bindArgs (PySem.W.fnX "__init__" qual params (initBody fld txt q) (initScope fld) [("__class__", cc)] dV kV doc pm an (.ref cda) ct) ⟨[a, b], []⟩ = pure [(("self" : Str), a), (fld, b)]) ∧
    (∀ env : Env, eval (.Call (.Attribute (.Call (.Name "super" q.a) [] [] q.b) "__init__" q.c) [.JoinedStr [.Constant (.str txt) q.n q.d, .FormattedValue (.Name fld q.e) (-1) none q.f] q.g] [] q.h) env = (do
      let ov ← attributeBase (.Call (.Name "super" q.a) [] [] q.b) "__init__" env (eval (.Call (.Name "super" q.a) [] [] q.b) env)
      standAt q.c.atName
      let (f, first) ← holding [ov] (getMethod ov "__init__" (pl env))
      callWith q.h f first (backTo q.h (starEach [.JoinedStr [.Constant (.str txt) q.n q.d, .FormattedValue (.Name fld q.e) (-1) none q.f] q.g] env)) [])) ∧
    K.lookup cda = some ⟨ccl, cdd, .fields vs, ccs⟩ ∧ vs[2]? = some (.str file tf) ∧ ((P.main.file : Str) == file) = true ∧
    K.lookup cc = some ⟨cl, cld, .cell (some (.ref C)), csl⟩ ∧ PySem.W.clsIn K C = some cdD
  top : (P.main.scope.names.lookup ("super" : Str)).isSome = false
  sup : mg "super" = none
  self_ : PySem.W.mroIn K C (.ref C) = some true
  par : PySem.W.ks_superIn K C C "__init__" = some (some (.builtin "ValueError.__init__"))
  val : PySem.W.subIn K (.ref C) (.type "ValueError") = some true
  opq : PySem.W.nsIn K cStatics "thirdparty.any" = some none
  exc : PySem.W.excInitIn K C [.type "ValueError", .type "Exception", .type "BaseException", .type "object"] "ValueError.__new__" = true
  nof : PySem.W.findIn K (.ref C) fld = some none
  ini : PySem.W.findIn K (.ref C) "__init__" = some (some (.ref fI))
  typ : PySem.W.typeIn K (.ref fI) = some (.type "function")
theorem fld_kind {fld : Str} (n : ("self" : Str) ≠ fld) : List.lookup fld (initScope fld).names = some .local := by
  unfold initScope
  rw [List.lookup_cons, beq_eq_false_iff_ne.mpr n.symm]
  simp
theorem sup_kind {fld : Str} (n : ("super" : Str) ≠ fld) : List.lookup ("super" : Str) (initScope fld).names = some .globalImplicit := by
  unfold initScope
  rw [List.lookup_cons, show (("super" : Str) == "self") = false by decide, List.lookup_cons, beq_eq_false_iff_ne.mpr n]
  rfl
theorem cls_kind {fld : Str} (n : ("__class__" : Str) ≠ fld) : List.lookup ("__class__" : Str) (initScope fld).names = some .free := by
  unfold initScope
  rw [List.lookup_cons, show (("__class__" : Str) == "self") = false by decide, List.lookup_cons, beq_eq_false_iff_ne.mpr n]
  rfl
theorem self_look {fld : Str} {a b : Value} (n : ("self" : Str) ≠ fld) : ([(("self" : Str), a), (fld, b)] : List (Str × Value)).reverse.lookup ("self" : Str) = some a := by
  show List.lookup ("self" : Str) [(fld, b), (("self" : Str), a)] = some a
  rw [List.lookup_cons, beq_eq_false_iff_ne.mpr n]
  rfl
theorem fld_look {fld : Str} {a b : Value} : ([(("self" : Str), a), (fld, b)] : List (Str × Value)).reverse.lookup fld = some b := by
  show List.lookup fld [(fld, b), (("self" : Str), a)] = some b
  rw [List.lookup_cons, beq_self_eq_true]
section
variable {P : Program} {w : World} {K : PySem.W.Frag} {mg : Str → Option Value} {A : Around} {base : Heap} {C fI e t0 : Addr} {fld txt : Str} {sh : Shared} {v : V} {u : Value}
theorem init_run (T : IniC P K mg C fI fld txt) (mod : Mod K mg base) (bs : ∀ b o, base.get? b = some o → sh.heap.get? b = some o) (nb : base.get? e = none) (room : A.depth < recursionLimit)
    (there : sh.heap.get? e = some (PySem.W.excObj C t0 none .none)) (rel : RelV v u) (txt2 : Str) (as_ : inText v = some txt2) (short : txt2.length ≤ 4000) (few : txt.length ≤ 4000) (big : ∀ i, v = .int i → i.natAbs.log2 < 1920) (nself : ("self" : Str) ≠ fld) (nsup : ("super" : Str) ≠ fld) (ncls : ("__class__" : Str) ≠ fld) (ndbg : (fld == ("__debug__" : Str)) = false)
    (R : Result → Shared → Prop)
    (fin : ∀ (s' : Shared) (dx t1 : Addr), s'.os = sh.os → s'.gens = sh.gens → (∀ b o, b ≠ e → sh.heap.get? b = some o → s'.heap.get? b = some o) → sh.heap.objs.size ≤ dx → dx ≠ e → s'.heap.get? e = some (PySem.W.excObj C t1 (some dx) .none) → s'.heap.Ns1 dx (fun y => if y = fld then some u else none) → R (.ok (.ret .none)) s')
    (args : Args) (hargs : ∀ fd : FuncData, (∃ (oc : Value) (od : Option Addr) (osl : Array (Option Value)), K.lookup fI = some ⟨oc, od, .func fd, osl⟩) → BindsTo sh fd args [(("self" : Str), .ref e), (fld, u)]) :
    codeAny (model P w) A (.call (.ref fI) args) R sh := by
  obtain ⟨oc, ccl, cl, od, cdd, cld, osl, ccs, csl, qual, params, q, dV, kV, doc, pm, ct, an, cda, cc, vs, file, tf, cdD, ar1, pl, look, code, hpar, ha1, hbind, hev, hcode, hvs, hfile, hcell, hcls⟩ := T.fn
  have X : K.In sh.heap := mod.kin.keeps bs
  obtain ⟨mb, nsb, boot⟩ := mod.blt
  refine ks_codeAny_call_defAt (fd := PySem.W.fnX "__init__" qual _ (initBody fld txt q) (initScope fld) [("__class__", cc)] dV kV doc pm an (.ref cda) ct) (body := initBody fld txt q) (binds := [("self", .ref e), (fld, u)]) room (X _ _ look) rfl (mod.nolimit.keeps bs) (PySem.W.codeRec_of X code) rfl ?binds ?nocell ?local_ ?run
  case binds =>
    exact hargs _ ⟨_, _, _, look⟩
  case nocell =>
    intro z hz
    have hz : z = (("self" : Str), NameKind.local) ∨ z = (fld, NameKind.local) ∨ z = (("__class__" : Str), NameKind.free) ∨ z = (("super" : Str), NameKind.globalImplicit) := by simpa [initScope, PySem.W.fnX] using hz
    rcases hz with rfl | rfl | rfl | rfl <;> exact fun z => by cases z
  case local_ =>
    intro z hz
    have hz : z = (("self" : Str), Value.ref e) ∨ z = (fld, u) := by simpa using hz
    rcases hz with rfl | rfl
    · rfl
    · show List.lookup fld (initScope fld).names = some .local
      unfold initScope
      rw [List.lookup_cons, beq_eq_false_iff_ne.mpr nself.symm]
      simp
  case run =>
    intro h1 frame keep
    have len1 : sh.heap.objs.size < h1.objs.size := frame.lt
    obtain ⟨hid, hhid⟩ : ∃ hid : Hp, hid = fun b => if b = e then some (.own 0) else none := ⟨_, rfl⟩
    have off : ∀ {b : Addr}, b ≠ e → hid b = none := fun {b} n => by rw [hhid]; exact if_neg n
    have on : hid e ≠ none := by
      have z : hid e = some (.own 0) := by rw [hhid]; exact if_pos rfl
      rw [z]
      exact fun y => by cases y
    have elt : e < sh.heap.objs.size := Heap.lt_size there
    obtain ⟨L, hL⟩ : ∃ L, L = sh.heap.objs.size := ⟨_, rfl⟩
    have eL : e ≠ L := by rw [hL]; exact Nat.ne_of_lt elt
    have ground : ∀ b o, (hidT sh.heap hid).get? b = some o → h1.get? b = some o := fun b o z => keep b o (of_hidT z).1
    rw [← hL] at frame ⊢
    have F : Fr (hidT sh.heap hid) L h1 (fun x => ([("self", Value.ref e), (fld, u)] : List (Str × Value)).reverse.lookup x) := ⟨frame, ground, by rw [hL]; exact Nat.le_of_eq (hidT_size _ _)⟩
    have none_ : (hidT sh.heap hid).get? e = none := by
      match z : (hidT sh.heap hid).get? e with
      | none => rfl
      | some o => exact absurd (of_hidT z).2 on
    have N : News (hidT sh.heap hid) L h1 [(e, PySem.W.excObj C t0 none .none)] := fun p hp => by
      rw [List.mem_singleton.mp hp]
      exact ⟨keep _ _ there, eL, none_⟩
    have baseIn : ∀ b o, base.get? b = some o → (hidT sh.heap hid).get? b = some o := fun b o z => hidT_get (bs b o z) (off fun y => by rw [y, nb] at z; cases z)
    have X0 : K.In (hidT sh.heap hid) := mod.kin.keeps baseIn
    obtain ⟨env, henv⟩ : ∃ env, env = callEnv (PySem.W.fnX "__init__" qual params (initBody fld txt q) (initScope fld) [("__class__", cc)] dV kV doc pm an (.ref cda) ct) L fI := ⟨_, rfl⟩
    rw [← henv]
    have kind : env.scope.kind = .function := by rw [henv]; rfl
    have names : env.scope = initScope fld := by rw [henv]; rfl
    have ks : env.kindOf "super" = some .globalImplicit := by rw [henv]; exact sup_kind nsup
    have kc : env.kindOf "__class__" = some .free := by rw [henv]; exact cls_kind ncls
    have kself : env.kindOf "self" = some .local := by rw [henv]; rfl
    have kfld : env.kindOf fld = some .local := by rw [henv]; exact fld_kind nself
    have lself : ([(("self" : Str), Value.ref e), (fld, u)] : List (Str × Value)).reverse.lookup ("self" : Str) = some (.ref e) := self_look nself
    have lfld : ([(("self" : Str), Value.ref e), (fld, u)] : List (Str × Value)).reverse.lookup fld = some u := fld_look
    have X1 : K.In h1 := X0.keeps ground
    have bk1 : ∀ b o, base.get? b = some o → h1.get? b = some o := fun b o z => ground b o (baseIn b o z)
    obtain ⟨oD, hD1, hD2⟩ : ∃ oD, h1.get? C = some oD ∧ oD.data = .cls cdD := by
      unfold PySem.W.clsIn at hcls
      split at hcls
      · rename_i c d cd' sl ho
        cases hcls
        exact ⟨_, X1 _ _ ho, rfl⟩
      · cases hcls
    have I1 : PySem.W.InstAt h1 e (PySem.W.excObj C t0 none .none) C none := ⟨keep _ _ there, rfl, rfl, trivial⟩
    refine ks_wpAt_execs_cons (ks_wpAt_Expr_any (ks_wpAt_MethodCall (pl := pl env) ?_ (hev env)) ?int ?swap)
    case int => rw [henv]; rfl
    case swap => rw [henv]; rfl
    refine ks_wpAt_super_base ks kc (by decide) (f := fI) (by rw [henv]; rfl) (X1 _ _ look) rfl hpar (cc := cda) (by rw [henv]; rfl) (X1 _ _ hcode) rfl hvs hfile T.top ?_
    refine PySem.W.ks_loadName_global kind ks (loadGlobal_builtin (by rw [henv]; exact mod.glob.keeps bk1) T.sup (by rw [henv]; exact nsb.keeps bk1) ((boot _ (by decide)).trans (by decide +kernel)) ⟨rfl, ?_⟩)
    refine wpAny_loadName_free kind kc (by rw [henv]; rfl) ⟨_, X1 _ _ hcell, rfl⟩ ?_
    rw [ha1]
    refine wpAny_loadName_local kind kself (by rw [henv]; exact frame) lself ?_
    refine ks_wpAny_isType_cls hD1 hD2 ⟨rfl, ?_⟩
    refine ks_wpAny_call_super hD1 hD2 I1.at_ I1.cls (fun c z => by cases z) (PySem.W.looks_mroIn X1 T.self_) (fun h2 so2 keep2 => ?_)
    obtain ⟨F2, N2, _⟩ := PySem.W.ks_newsPush (s := ⟨h1, sh.gens, sh.drawn, sh.toks, sh.os⟩) F N rfl so2 keep2
    have I2 : PySem.W.InstAt h2 e (PySem.W.excObj C t0 none .none) C none := ⟨keep2 _ _ I1.at_, rfl, rfl, trivial⟩
    refine PySem.W.kxs_method PySem.W.kxs_ValueError F2 X0 N2 (.head _) I2 T.opq T.par T.val (by decide) (fun m3 h3 F3 N3 lt3 => ?_)
    refine PySem.W.kxs_callWith1 (i := "ValueError.__init__") (x := e) N3 (.head _) ?_
    show wpAny _ _ (spliced ((false, eval (.JoinedStr [.Constant (.str txt) q.n q.d, .FormattedValue (.Name fld q.e) (-1) none q.f] q.g) env) :: backTo q.h (starEach [] env))) _ _ _
    refine Calls.spliced_cons (wpAny_JoinedStr ?_)
    show Joins _ _ _ [eval (.Constant (.str txt) q.n q.d) env, eval (.FormattedValue (.Name fld q.e) (-1) none q.f) env] Str.empty _ _
    have el : (Str.empty ++ txt).length = txt.length := by
      show (Str.empty ++ txt).cps.size = txt.cps.size
      show (#[] ++ txt.cps).size = _
      simp
    have small : ∀ n : Nat, n ≤ 8000 → n ≤ sizeLine := fun n hn => Nat.le_trans hn (by decide)
    refine Constant_str ⟨txt, _, rfl, small _ (by rw [el]; omega), ?_⟩
    have al : ∀ y : Str, (Str.empty ++ txt ++ y).length = txt.length + y.length := fun y => by
      show (Str.empty ++ txt ++ y).cps.size = _
      have : (Str.empty ++ txt ++ y).cps = (Str.empty ++ txt).cps ++ y.cps := rfl
      rw [this, Array.size_append]
      have e2 : (Str.empty ++ txt).cps.size = txt.length := el
      rw [e2]
      rfl
    refine wpAny_FormattedValue_plain (wpAny_Name (wpAny_loadName_local kind kfld (by rw [henv]; exact F3.ns) lfld ?_) ndbg)
    have elt2 : e < m3 := lt3 (e, _) (.tail _ (.head _))
    have ups : PySem.W.UpdF e (PySem.W.excObj C t0 none .none) [(m3, PySem.W.kxs_mw "ValueError.__init__" e), (h1.objs.size, PySem.W.ks_superObj C e C), (e, PySem.W.excObj C t0 none .none)] (fun o' => (m3, PySem.W.kxs_mw "ValueError.__init__" e) :: (h1.objs.size, PySem.W.ks_superObj C e C) :: [(e, o')]) :=
      .tail (Nat.ne_of_gt elt2) (.tail (Nat.ne_of_gt (Nat.lt_trans elt len1)) (.head (fun p hp => by cases hp)))
    have rest : ∀ (y : Str) (ty : Tok) (s4 : Shared), s4.heap = h3 → s4.os = sh.os → s4.gens = sh.gens → y.length ≤ 4000 →
        ∃ y' t', Value.str y ty = .str y' t' ∧ (Str.empty ++ txt ++ y').length ≤ sizeLine ∧ Joins (model P w) (A.deeper env) (fun e s' => wpAny (model P w) (A.deeper env) (leaving env e) (fun _ s'' => R (Except.error e) s'') (fun e' s'' => R (Except.error e') s'') s') [] (Str.empty ++ txt ++ y') (fun out s₁ => out.length ≤ sizeLine ∧ wpAny (model P w) (A.deeper env) (spliced (backTo q.h (starEach [] env))) (fun vs s₂ => PySem.W.KxsAt "ValueError.__init__" m3 e s₂.heap ∧ wpAny (model P w) (A.deeper env) (call (.ref m3) (Value.str out s₁.toks :: vs)) (fun _ s' => PySem.wpAt (model P w) (A.deeper env) (Code.func (initBody fld txt q) env)
              (execs [Stmt.Assign [(Expr.Name ("self" : Str) q.j).Attribute fld q.k] (Expr.Name fld q.l) q.m] env) (fun f s' => R (Except.ok (Flow.ret (match f with | Flow.ret v => v | x => Value.none))) s')
              (fun e s' => wpAny (model P w) (A.deeper env) (leaving env e) (fun _ s'' => R (Except.error e) s'') (fun e' s'' => R (Except.error e') s'') s') s')
              (fun e s' => wpAny (model P w) (A.deeper env) (leaving env e) (fun _ s'' => R (Except.error e) s'') (fun e' s'' => R (Except.error e') s'') s') s₂) (fun e s' => wpAny (model P w) (A.deeper env) (leaving env e) (fun _ s'' => R (Except.error e) s'') (fun e' s'' => R (Except.error e') s'') s') { s₁ with toks := s₁.toks + 1 }) s4 := by
      rintro y ty ⟨hp4, g4, d4, tk4, os4⟩ rfl eo eg hy
      dsimp only at F3 N3 eo eg
      refine ⟨y, ty, rfl, small _ (by rw [al]; omega), small _ (by rw [al]; omega), ?_⟩
      refine Calls.spliced_nil ⟨PySem.W.kxs_at N3 (.head _), ?_⟩
      refine PySem.W.kxs_call (s := ⟨hp4, g4, d4, tk4 + 1, os4⟩) F3 X0 N3 PySem.F.excBase_ValueError T.exc (.head _) ups (by show 1 ≤ sizeLine; decide) (fun t5 h5 F5 N5 lt5 => ?_)
      subst eo eg
      obtain ⟨nm, qn, NN, bss, bm, sn, sub, ab, col, dd, k0, k1, k2, k3, k5, hC, hbm⟩ := T.at_.cls
      have hcl : PySem.W.clsIn K C = some { name := nm, bases := bss, mro := .ref C :: bm, ns := NN, qualname := qn, hasDict := true, slotNames := sn, subclasses := sub, abstract := ab, collection := col, hasDel := false } := by
        unfold PySem.W.clsIn
        rw [hC]
      have X5 : K.In h5 := X0.keeps F5.keep
      obtain ⟨he5, _, _⟩ := N5 (e, PySem.W.excObj C t5 none .none) (.tail _ (.tail _ (.tail _ (.head _))))
      refine ks_wpAt_execs_cons (ks_wpAt_Assign_Attr ?_ ?swap2)
      case swap2 => rw [henv]; rfl
      refine wpAt_of_wpAny (wpAny_Name (wpAny_loadName_local kind kfld (by rw [henv]; exact F5.ns) lfld ?_) ndbg)
      refine wpAny_Name (wpAny_loadName_local kind kself (by rw [henv]; exact F5.ns) lself ?_) (by decide)
      refine PySem.W.set_plain X5 (ox := PySem.W.excObj C t5 none .none) (od := none) ⟨he5, rfl, rfl, trivial⟩ T.at_.sa ?_
      refine PySem.HandSPX.exc_osa X5 he5 hcl (show PySem.HandSPX.refsVE (.ref C :: bm) = true from hbm) rfl T.nof (fun h6 tk6 dx keep6 dn dne hx6 hn6 => ?_)
      refine wpAt_of_wpAny (wpAny_execs_nil ?_)
      refine fin _ dx t5 rfl rfl (fun b o nb z => keep6 b o nb (F5.keep b o (hidT_get z (off nb)))) ?_ dne hx6 hn6
      have lt := F5.ns.lt
      rw [hL] at lt
      exact Nat.le_trans (Nat.le_of_lt lt) dn
    cases v with
    | str z =>
      obtain ⟨t, rfl⟩ := rel
      have e0 : z = txt2 := Option.some.inj as_
      subst e0
      exact wpAny_formatField_str (rest z t _ rfl rfl rfl short) (rest z _ _ rfl rfl rfl short) (small _ (by omega))
    | int i =>
      obtain ⟨t, rfl⟩ := rel
      have e0 : toString i = txt2 := by
        have := Option.some.inj as_
        exact this
      exact wpAny_formatField_int (big i rfl) (rest (Str.ofString (toString i)) _ _ rfl rfl rfl (by rw [show Str.ofString (toString i) = txt2 from e0]; exact short))
    | non => cases as_
    | bl b => cases as_
    | byt b => cases as_
    | flt b => cases as_
    | ref b => cases as_
    | ty b => cases as_
/-- the promise of such an __init__ -/
def sp_init (C : Addr) (fld : Str) : Sp := fun vs H Q _ => ∃ (e : Addr) (v : V) (z : Str), vs = [.ref e, v] ∧ inText v = some z ∧ z.length ≤ 4000 ∧ (∀ i, v = .int i → i.natAbs.log2 < 1920) ∧ H e = some (exo e C none) ∧ ∀ d H', H d = none → d ≠ e → H' = upd (upd H d (exd d [(fld, v)])) e (exo e C (some d)) → Q .non H'
theorem init_ok (T : IniC P K mg C fI fld txt) (few : txt.length ≤ 4000) (nself : ("self" : Str) ≠ fld) (nsup : ("super" : Str) ≠ fld) (ncls : ("__class__" : Str) ≠ fld) (ndbg : (fld == ("__debug__" : Str)) = false) :
    ∃ fd : FuncData, FnOk P w K mg base CX0 1 fI fd [("self" : Str), fld] (sp_init C fld) ∧ Binds K fd [("self" : Str), fld] [] := by
  obtain ⟨oc, ccl, cl, od, cdd, cld, osl, ccs, csl, qual, params, q, dV, kV, doc, pm, ct, an, cda, cc, vs, file, tf, cdD, ar1, pl, look, code, hpar, ha1, hbind, hev, hcode, hvs, hfile, hcell, hcls⟩ := T.fn
  refine ⟨_, ⟨?len, ?run⟩, .all fun us hl => match us, hl with | [a, b], _ => hbind a b⟩
  case len =>
    rintro vs H Q E ⟨e, v, z, rfl, _⟩
    rfl
  case run =>
    rintro A outer s H args us vs Q E room env binds rel ⟨e, v, z, rfl, as_, short, big, tracked, q⟩
    obtain ⟨u, rfl, r⟩ : ∃ u, us = [.ref e, u] ∧ RelV v u := by
      obtain ⟨a, b, rfl, ra, rb⟩ := vals2 rel
      obtain rfl : a = .ref e := ra
      exact ⟨b, rfl, rb⟩
    obtain ⟨t1, there⟩ := exo_at env.hok tracked
    refine init_run T env.mod (fun b o z => (env.bs b o z).1) ?nb room.depth there r z as_ short few big nself nsup ncls ndbg _ (fun s' dx t2 os gens keep dn dne hx hn => ?_) args (fun fd' ⟨oc', od', osl', look'⟩ => ?_)
    case nb =>
      match y : base.get? e with
      | none => rfl
      | some o =>
        have := (env.bs e o y).2
        rw [tracked] at this
        cases this
    · have free : H dx = none := env.hok.fresh dn
      have far : ∀ {b : Addr}, H b = none → b ≠ e := fun {b} n y => by
        rw [y, tracked] at n
        cases n
      have apart : ∀ {b : Addr} {o : Obj}, s.heap.get? b = some o → b ≠ dx := fun {b o} y => Nat.ne_of_lt (Nat.lt_of_lt_of_le (Heap.lt_size y) dn)
      refine ⟨.non, upd (upd H dx (exd dx [(fld, v)])) e (exo e C (some dx)), os, by rw [gens]; exact env.bare, ?un, ?ok, rfl, q dx _ free dne rfl⟩
      case un =>
        constructor
        · intro b o y none_ _ _
          exact keep b o (far none_) y
        · intro b o y none_ _ _
          exact ⟨o.slots, keep b o (far none_) y⟩
        · intro b o y none_ _
          rw [upd_ne (far none_), upd_ne (apart y)]
          exact none_
        · intro b o y _
          by_cases at_ : b = e
          · exact ⟨_, by rw [at_]; exact hx⟩
          · exact ⟨o, keep b o at_ y⟩
        · intro b xs y
          rw [upd_ne (at_ne tracked y exo_tup), upd_ne (ne_of_none y free)]
          exact y
        · intro b o x y
          rw [upd_ne (at_ne tracked y exo_frz), upd_ne (ne_of_none y free)]
          exact y
        · intro b ps y
          refine ⟨#[], ?_⟩
          rw [upd_ne (at_ne tracked y exo_tbl), upd_ne (ne_of_none y free), y, Array.append_empty]
      case ok =>
        intro b o y
        by_cases at_ : b = e
        · subst at_
          rw [upd_same] at y
          obtain rfl := Option.some.inj y
          exact exo_ok hx
        · rw [upd_ne at_] at y
          by_cases new : b = dx
          · subst new
            rw [upd_same] at y
            obtain rfl := Option.some.inj y
            exact exd_ok hn (relO_put (fs := []) r fun _ => trivial)
          · rw [upd_ne new] at y
            refine (env.hok b o y).stay (fun c x own look2 => keep c x ?_ look2) (fun c own => ?_) (fun c xs tup => ?_)
            · rcases own with own | own
              · rw [own]
                exact at_
              · exact at_ne tracked own exo_own
            · rw [upd_ne (at_ne tracked own exo_own), upd_ne (ne_of_none own free)]
              exact own
            · rw [upd_ne (at_ne tracked tup exo_tup), upd_ne (ne_of_none tup free)]
              exact tup
    · rw [look] at look'
      cases look'
      exact binds
end
/-- such a class may be raised -/
structure IniOk (P : Program) (w : World) (K : PySem.W.Frag) (mg : Str → Option Value) (base : Heap) (x fld : Str) : Prop where
  ex : ∃ (C fI : Addr) (fd : FuncData), mg x = some (.ref C) ∧ OexC K C ∧ PySem.W.findIn K (.ref C) "__init__" = some (some (.ref fI)) ∧ PySem.W.typeIn K (.ref fI) = some (.type "function") ∧ FnOk P w K mg base CX0 1 fI fd [("self" : Str), fld] (sp_init C fld) ∧ Binds K fd [("self" : Str), fld] []
theorem pmk_ini {X : Cx} {j : Nat} {x fld : Str} {e : Expr} {ta : TA} {p pos : Pos} (c : IniOk X.prog X.w X.K X.mg X.base x fld) (hr : Room j X.A) (hk : 2 ≤ j) (hg : Gl X x) (ha : PA X [e] ta) (hdb : (x == ("__debug__" : Str)) = false := by decide)
    (he : starEach [e] X.env = (false, eval e X.env) :: starEach [] X.env := by rfl) (hpl : (backTo pos (starEach [] X.env)).any (·.1) = false := by rfl) : PMk X (.Call (.Name x p) [e] [] pos) (tMkO (clsA X.mg x) (sp_init (clsA X.mg x) fld) [] ta) := by
  obtain ⟨C, fI, fd, at_, oex, ini, typ, fn, binds⟩ := c.ex
  rw [clsA_of at_]
  exact pmk_oex oex ini typ fn (hr.mono hk) binds .nil pass0 hg at_ ha hdb he hpl
theorem ini_go {C : Addr} {fld : Str} {H1 : Hp} {v : V} {z : Str} {Q : XK} (as_ : inText v = some z) (short : z.length ≤ 4000) (big : ∀ i, v = .int i → i.natAbs.log2 < 1920) (go : ∀ d H2, Same H1 H2 → H2 d = some (.xd [(fld, v)]) → Q (.ref C) (some d) H2) :
    [v].length ≤ 1000 ∧ ∀ a, H1 a = none → sp_init C fld (.ref a :: ([v] ++ [])) (upd H1 a (exo a C none)) (fun v H2 => v = .non ∧ ∃ (d : Addr) (fs : List (Str × V)), H2 a = some (exo a C (some d)) ∧ H2 d = some (exd d fs) ∧ H1 d = none ∧ Q (.ref C) (some d) (upd (del H2 a) d (.xd fs))) (fun _ _ _ => False) := by
  refine ⟨by show 1 ≤ 1000; decide, fun a na => ⟨a, v, z, rfl, as_, short, big, upd_same, fun d H' nd dne eq => ?_⟩⟩
  rw [upd_ne dne] at nd
  subst eq
  refine ⟨rfl, d, [(fld, v)], upd_same, by rw [upd_ne dne, upd_same], nd, go d _ (fun b o y => ?_) upd_same⟩
  have na2 := ne_of_none y na
  rw [upd_ne (ne_of_none y nd), del_ne na2, upd_ne na2, upd_ne (ne_of_none y nd), upd_ne na2]
  exact y
/-- isinstance(e, c) of a kept error that has a field -/
def rIsKd (K : PySem.W.Frag) : List V → Hp → VK → Prop := fun args H Q => ∃ (a D dd : Addr) (fs : List (Str × V)) (c : V) (cv : Value) (b : Bool), args = [.ref a, c] ∧ ExcC K D ∧ H a = some (ExK (.ref D) (some dd) a) ∧ H dd = some (.xd fs) ∧ (∀ u, RelV c u → u = cv) ∧ PySem.W.kitOne K (.ref D) cv = some b ∧ Q (.bl b) H
theorem call_isKd {X : Cx} : CallR X (.builtin "isinstance") (rIsKd X.K) := by
  intro pl sh st hp args vals Q inv rel told
  obtain ⟨a, D, dd, fs, c, cv, b, rfl, fit, kept, dict, named, is_, q⟩ := told
  obtain ⟨a2, u, rfl, ra, r1⟩ := vals2 rel
  obtain rfl : a2 = Value.ref a := ra
  obtain rfl := named u r1
  obtain ⟨⟨⟨_, _, dat, _⟩, fl, there, ⟨isD, hasDict⟩, flds⟩, _, _⟩ := inv.hok a _ kept
  dsimp only at isD hasDict flds
  subst isD hasDict flds
  obtain ⟨mA, ⟨od, es, ep, ho, _⟩, _⟩ := (show ObjOk X.prog X.w hp sh.heap dd (.xd fs) from inv.hok dd _ dict)
  have known : (PySem.W.clsIn X.K D).isSome = true := by
    have := fit.hm
    unfold PySem.W.mroIn at this
    match z : PySem.W.clsIn X.K D with
    | some _ => rfl
    | none =>
      rw [z] at this
      cases this
  refine PySem.W.kia_one (PySem.W.kitx_exc (od := some od) known fit.hg fit.hk fit.hs fit.ha fit.hn fit.ht fit.hm) inv.kIn ⟨there, rfl, rfl, ho⟩ is_ (fun z => by cases z) fun toks => ?_
  exact ⟨.bl b, hp, inv.kept (t' := toks) fun _ _ g => g, rfl, q⟩
/-- e.f of a kept error -/
def tKf (C : Addr) (f : Str) (te : TE) : TE := fun σ H Q => te σ H fun x H1 => ∃ (a dd : Addr) (fs : List (Str × V)) (v : V), x = .ref a ∧ H1 a = some (ExK (.ref C) (some dd) a) ∧ H1 dd = some (.xd fs) ∧ fs.lookup f = some v ∧ Q v H1
theorem pe_kf {X : Cx} {C : Addr} {e : Expr} {te : TE} {pos : Pos} {n : Str} (T : ExcC X.K C) (nof : PySem.W.findIn X.K (.ref C) n = some none) (he : PE X e te) (hb : attributeBase e n X.env (eval e X.env) = eval e X.env := by rfl) : PE X (.Attribute e n pos) (tKf C n te) := by
  constructor
  intro pins s σ H Q inv told
  refine attr_of hb (thn (he.run pins s σ H _ inv told) fun u s1 ended => ?_)
  obtain ⟨x, H1, inv1, rel, a, dd, fs, v, rfl, kept, dict, field, q⟩ := ended
  obtain rfl : u = Value.ref a := rel
  obtain ⟨⟨ob, fl, there, kind, flds⟩, _, _⟩ := inv1.hok a _ kept
  obtain ⟨mA, hns, fits⟩ := (show ObjOk X.prog X.w H1 s1.heap dd (.xd fs) from inv1.hok dd _ dict)
  obtain ⟨od, ho, look⟩ := lookIn_ns hns
  obtain ⟨w2, hw, rw2⟩ := RelO.some_of (v := v) (o := mA n) (by rw [← field]; exact fits n)
  have inst : PySem.W.InstAt s1.heap a ob C (some od) := ⟨there, kind.1, by unfold PySem.W.notCls; rw [flds] <;> rfl, by rw [kind.2]; exact ho⟩
  exact HandSPX.exc_get inv1.kIn inst T.hg T.hk T.hs (PySem.W.findObj_own T.hd nof rfl (by rw [look, hw])) (handed_of rw2) ⟨v, H1, inv1.tok _, rw2, q⟩
/-! ### the facts of such a class, as the top leaves them -/
structure ProgF (P : Program) : Prop where
  file : ((P.main.file : Str) == "/claim/cut.py") = true
  top : (P.main.scope.names.lookup ("super" : Str)).isSome = false
/-- an own class of errors with an __init__ of its own -/
structure IniK (K : PySem.W.Frag) (mg : Str → Option Value) (C : Addr) (fld txt : Str) : Prop where
  fn : ∃ (fI : Addr) (oc ccl cl : Value) (od cdd cld : Option Addr) (osl ccs csl : Array (Option Value)) (qual : Str) (params : Arguments) (q : InitPos) (dV kV doc pm ct : Value) (an : Option Addr) (cda cc : Addr) (vs : Array Value) (tf : Tok) (ar1 : Arg) (pl : Env → Sem Bool),
    K.lookup fI = some ⟨oc, od, .func (PySem.W.fnX "__init__" qual params (initBody fld txt q) (initScope fld) [("__class__", cc)] dV kV doc pm an (.ref cda) ct), osl⟩ ∧ PySem.W.codeIn K (.ref cda) qual = true ∧
    (params.posonlyargs ++ params.args).head? = some ar1 ∧ ar1.arg = "self" ∧ (∀ a b : Value, bindArgs (PySem.W.fnX "__init__" qual params (initBody fld txt q) (initScope fld) [("__class__", cc)] dV kV doc pm an (.ref cda) ct) ⟨[a, b], []⟩ = pure [(("self" : Str), a), (fld, b)]) ∧
    (∀ env : Env, eval (.Call (.Attribute (.Call (.Name "super" q.a) [] [] q.b) "__init__" q.c) [.JoinedStr [.Constant (.str txt) q.n q.d, .FormattedValue (.Name fld q.e) (-1) none q.f] q.g] [] q.h) env = (do
      let ov ← attributeBase (.Call (.Name "super" q.a) [] [] q.b) "__init__" env (eval (.Call (.Name "super" q.a) [] [] q.b) env)
      standAt q.c.atName
      let (f, first) ← holding [ov] (getMethod ov "__init__" (pl env))
      callWith q.h f first (backTo q.h (starEach [.JoinedStr [.Constant (.str txt) q.n q.d, .FormattedValue (.Name fld q.e) (-1) none q.f] q.g] env)) [])) ∧
    K.lookup cda = some ⟨ccl, cdd, .fields vs, ccs⟩ ∧ vs[2]? = some (.str "/claim/cut.py" tf) ∧ K.lookup cc = some ⟨cl, cld, .cell (some (.ref C)), csl⟩ ∧
    PySem.W.findIn K (.ref C) "__init__" = some (some (.ref fI)) ∧ PySem.W.typeIn K (.ref fI) = some (.type "function")
  at_ : OexC K C
  sup : mg "super" = none
  self_ : PySem.W.mroIn K C (.ref C) = some true
  par : PySem.W.ks_superIn K C C "__init__" = some (some (.builtin "ValueError.__init__"))
  val : PySem.W.subIn K (.ref C) (.type "ValueError") = some true
  opq : PySem.W.nsIn K cStatics "thirdparty.any" = some none
  exc : PySem.W.excInitIn K C [.type "ValueError", .type "Exception", .type "BaseException", .type "object"] "ValueError.__new__" = true
  nof : PySem.W.findIn K (.ref C) fld = some none
theorem clsIn_mro {K : PySem.W.Frag} {C : Addr} {b : Value} {r : Bool} (h : PySem.W.mroIn K C b = some r) : ∃ cd, PySem.W.clsIn K C = some cd := by
  unfold PySem.W.mroIn at h
  match z : PySem.W.clsIn K C with
  | some cd => exact ⟨cd, rfl⟩
  | none =>
    rw [z] at h
    cases h
theorem tail_refs (l : List Value) (h : PySem.W.excTail [.type "ValueError", .type "Exception", .type "BaseException", .type "object"] l = true) : HandSPX.refsVE l = true := by
  induction l with
  | nil => cases h
  | cons v l ih =>
    cases v with
    | ref c => exact ih h
    | _ => exact h
/-- from what is told of a class without its object -/
theorem oex_by {K : PySem.W.Frag} {C : Addr} (q : PySem.W.excInitIn K C [.type "ValueError", .type "Exception", .type "BaseException", .type "object"] "ValueError.__new__" = true) (hd : PySem.W.hasDictIn K C = true)
    (sa : PySem.W.findIn K (.ref C) "__setattr__" = some (some (.builtin "object.__setattr__"))) (b : PySem.W.subIn K (.ref C) (.type "BaseException") = some true) (t : PySem.W.typeIn K (.ref C) = some (.type "type")) (k : PySem.W.keepIn K (.ref C) = true) : OexC K C := by
  refine ⟨?_, sa, b, t, k⟩
  unfold PySem.W.hasDictIn at hd
  unfold PySem.W.excInitIn at q
  split at q
  · rename_i dd cd sl ho
    have hc : PySem.W.clsIn K C = some cd := by
      unfold PySem.W.clsIn
      rw [ho]
    rw [hc] at hd
    split at q
    · rename_i C' bm k0 k1 k2 k3 n k5 hm hs
      simp only [Bool.and_eq_true, beq_iff_eq, Bool.not_eq_true'] at q
      obtain ⟨⟨⟨rfl, rfl⟩, hdel⟩, ht⟩ := q
      obtain ⟨nm, bs, mro, ns, qn, hdct, sn, sb, ab, col, del⟩ := cd
      dsimp only at hm hdel hd
      subst hm hdel
      have hd : hdct = true := hd
      subst hd
      obtain ⟨sl⟩ := sl
      have hs : sl = _ := hs
      subst hs
      refine ⟨nm, qn, ns, bs, bm, sn, sb, ab, col, dd, k0, k1, k2, k3, k5, ?_, ?_⟩
      · rw [ho]
      · exact tail_refs bm ht
    · cases q
  · cases q
theorem IniK.ok {P : Program} {w : World} {K : PySem.W.Frag} {mg : Str → Option Value} {base : Heap} {x fld txt : Str} (T : IniK K mg (clsA mg x) fld txt) (Z : ProgF P) (at_ : mg x = some (.ref (clsA mg x))) (few : txt.length ≤ 4000 := by decide) (nself : ("self" : Str) ≠ fld := by decide) (nsup : ("super" : Str) ≠ fld := by decide)
    (ncls : ("__class__" : Str) ≠ fld := by decide) (ndbg : (fld == ("__debug__" : Str)) = false := by decide) : IniOk P w K mg base x fld := by
  obtain ⟨fI, oc, ccl, cl, od, cdd, cld, osl, ccs, csl, qual, params, q, dV, kV, doc, pm, ct, an, cda, cc, vs, tf, ar1, pl, look, code, hpar, ha1, hbind, hev, hcode, hvs, hcell, hini, htyp⟩ := T.fn
  obtain ⟨cdD, hcls⟩ := clsIn_mro T.self_
  have C0 : IniC P K mg (clsA mg x) fI fld txt := ⟨T.at_, ⟨oc, ccl, cl, od, cdd, cld, osl, ccs, csl, qual, params, q, dV, kV, doc, pm, ct, an, cda, cc, vs, "/claim/cut.py", tf, cdD, ar1, pl, look, code, hpar, ha1, hbind, hev, hcode, hvs, Z.file, hcell, hcls⟩, Z.top, T.sup, T.self_, T.par, T.val, T.opq, T.exc, T.nof, hini, htyp⟩
  obtain ⟨fd, ok, binds⟩ := init_ok (w := w) (base := base) C0 few nself nsup ncls ndbg
  exact ⟨_, fI, fd, at_, T.at_, hini, htyp, ok, binds⟩
end Kt
/-! KtMe1: e.__class__ of an own error, and the __name__ of its class. -/
namespace Kt
open PySem PySem.Spec PySem.Calls PyProof.Rows L2 PySem.W
section
variable {P : Program} {w : World} {A : Around} {E : Value → Shared → Prop} {s : Shared} {K : PySem.W.Frag} {x C : Addr} {ox : Obj} {od : Option Obj}
/-- what the written part says of a class of errors of which one may ask the name -/
structure NameC (K : PySem.W.Frag) (C : Addr) (nm : Str) : Prop where
  ga : findIn K (.ref C) "__getattribute__" = some (some (.builtin "BaseException.__getattribute__"))
  gt : findIn K (.ref C) "__getattr__" = some none
  sub : subIn K (.ref C) (.type "BaseException") = some true
  cl : findIn K (.ref C) "__class__" = some (some (.builtin "object.__class__"))
  gs : specialIn K (.builtin "object.__class__") "__get__" = some (some (.builtin "getset_descriptor.__get__"))
  tk : takesIn K (.builtin "object.__class__") = some true
  ob : mroIn K C (.type "object") = some true
  rd : readsIn K C (.type "type") = true
  nf : findCls K (.ref C) (.type "type") "__name__" = some (.get (.builtin "getset_descriptor.__get__") (.builtin "type.__name__") (.ref C) (.type "type"))
  at_ : ∃ (c : Value) (dd : Option Addr) (cd : ClassData) (sl : Array (Option Value)) (t : Tok), K.lookup C = some ⟨c, dd, .cls cd, sl⟩ ∧ sl[2]? = some (some (.str nm t))
  few : nm.length ≤ 1000
theorem cls_of_err {expr : Bool} {Q : Value → Shared → Prop} {nm : Str} (X : K.In s.heap) (I : InstAt s.heap x ox C od) (T : NameC K C nm) (q : Q (.ref C) { s with toks := s.toks + 1 }) : wpAny (model P w) A (getAttr (.ref x) "__class__" expr) Q E s := by
  have known : (clsIn K C).isSome = true := by
    obtain ⟨c, dd, cd, sl, t, e, _⟩ := T.at_
    unfold clsIn
    rw [e]
    rfl
  have found := findObj_dataE (od := od) known T.cl T.gs T.tk
  obtain ⟨hp, g, dr, t, os⟩ := s
  have l0 := I.type (M := model P w)
  have l1 := looks_findIn (M := model P w) X T.ga
  have l2 := looks_findIn (M := model P w) X T.gt
  have l3 := looks_find (M := model P w) X I found
  have under : Looks (model P w) hp (isInstance (.ref x) (.type "BaseException")) true := l0.andThen (looks_subIn X T.sub)
  have n1 : (Value.builtin "BaseException.__getattribute__" == Value.builtin "object.__getattribute__") = false := by decide +kernel
  refine wpAny_bind (wpAny_mkText (wpAny_holding (wpAny_bind (l0.at (wpAny_bind (l1.at ?_))))))
  show wpAny _ _ (if (onTheHeap (Value.ref C) && _) = true then _ else _) _ _ _
  rw [n1, Bool.and_false, if_neg Bool.false_ne_true]
  unfold getAttrByItsOwn hookBefore
  refine wpAny_bind ?_
  rw [if_pos (show onTheHeap (Value.ref C) = true from rfl)]
  refine l2.at (wpAny_bind (wpAny_attempt (wpAny_holding ?_)))
  unfold callGetattribute
  rw [show (expr && onTheHeap (Value.builtin "BaseException.__getattribute__")) = false from by cases expr <;> rfl, if_neg Bool.false_ne_true]
  unfold boundAndCalled
  rw [PySem.F.excAttr_ValueError.ga.bind (.ref x)]
  refine wpAny_bind (wpAny_pure ?_)
  show wpAny _ _ (call (.builtin "BaseException.__getattribute__") [.ref x, .str "__class__" t]) _ _ _
  refine wpAny_call (codeAny_call_builtin PySem.F.excAttr_ValueError.ga.plain PySem.F.entry_bexc_ga ?_)
  refine @PySem.W.check_slot (model P w) _ _ ⟨hp, g, dr, t + 1, os⟩ "BaseException.__getattribute__" "BaseException" "__getattribute__" (.ref x) [.str "__class__" t] [] _ (by decide +kernel) (by decide +kernel) under (PySem.F.args_bexc_ga (.ref x) (.str "__class__" t)) ?_
  unfold Builtin.«object.__getattribute__»
  refine wpAny_bind (wpAny_of_eq (a := ((Value.ref x : Value), [Value.str "__class__" t])) (by first | rfl | (simp only [slotArgs]; rfl)) ?_)
  refine wpAny_bind (wpAny_pure (wpAny_bind (l0.at (wpAny_bind (l3.at ?_)))))
  refine wpAny_bind (wpAny_holding (wpAny_call (class_get (s := ⟨hp, g, dr, t + 1, os⟩) (ox := ox) (od := od) X I T.ob ?_)))
  refine wpAny_pure ?_
  show wpAny _ _ (handedOut (.ref C)) _ _ _
  rw [handedOut_of (show handedIn (.ref C) = true from rfl)]
  exact wpAny_pure q
theorem dga_cls (d tp : Value) : Builtin.Getset_descriptor.descrGetArgs ⟨[d, .ref C, tp], []⟩ = pure (d, some (.ref C), given tp) := by rfl
theorem name_get {R : Result → Shared → Prop} {nm : Str} {tp : Value} (X : K.In s.heap) (T : NameC K C nm) (q : ∀ t, R (.ok (.ret (.str nm t))) s) :
    codeAny (model P w) A (.call (.builtin "getset_descriptor.__get__") ⟨[.builtin "type.__name__", .ref C, tp], []⟩) R s := by
  obtain ⟨c, dd, cd, sl, tn, e, e2⟩ := T.at_
  have hty : typeIn K (.ref C) = some (.type "type") := by
    have := T.rd
    simp only [readsIn, Bool.and_eq_true, beq_iff_eq] at this
    exact this.1.1.1.2
  obtain ⟨hh, g, dr, t, os⟩ := s
  have L0 : Looks (model P w) hh (typeOf (.ref C)) (.type "type") := looks_typeIn X hty
  have L1 : Looks (model P w) hh (isSubtype (.type "type") (.type "type")) true := Looks.of_pure (by rw [isSubtype_type]; kernel_rfl)
  have hC := X _ _ e
  refine codeAny_call_builtin KF.slot_gs.plain KF.entry_gs (KF.slot_gs.check _ _ _ _ _ _ _ _ ktyn_type (KF.args_gs _ _ _) ?_)
  unfold Builtin.«getset_descriptor.__get__» Builtin.Getset_descriptor.descrGet
  rw [dga_cls]
  refine wpAny_bind (wpAny_pure ?_)
  unfold Builtin.Getset_descriptor.descrGetter Builtin.Getset_descriptor.descrCheckInstance Builtin.Getset_descriptor.descrNameAndClass isInstance
  simp only [ktyn_owner]
  repeat lk
  refine ⟨Code.quiet_builtin _ (by decide +kernel), codeAny_builtin ktyn_entry ?_⟩
  unfold Builtin.«type.__name__»
  dsimp only
  unfold Builtin.keptObject
  dsimp only
  refine wpAny_bind ?_
  unfold slotAt
  refine wpAny_bind (wpAny_loadPart hC (wpAny_pure ?_))
  dsimp only
  rw [e2]
  first | exact wpAny_pure (q _) | exact q _ | trace_state
theorem name_of_cls {expr : Bool} {Q : Value → Shared → Prop} {nm : Str} (X : K.In s.heap) (T : NameC K C nm) (q : ∀ t, Q (.str nm t) { s with toks := s.toks + 1 }) : wpAny (model P w) A (getAttr (.ref C) "__name__" expr) Q E s := by
  refine cls_read X T.rd T.nf ?_
  show wpAny _ _ (do ret (← holding [Value.builtin "type.__name__"] (call (.builtin "getset_descriptor.__get__") [.builtin "type.__name__", .ref C, .type "type"]))) _ _ _
  refine wpAny_bind (wpAny_holding (wpAny_call (name_get (s := { s with toks := s.toks + 1 }) X T fun t => ?_)))
  exact wpAny_pure (handed_on rfl (q t))
/-- e.__class__.__name__.lower() -/
theorem lower_of_err {env : Env} {e : Expr} {p1 p2 p3 p4 : Pos} {Q : Value → Shared → Prop} {nm : Str} (X : K.In s.heap) (I : InstAt s.heap x ox C od) (T : NameC K C nm)
    (he : ∀ Q' : Value → Shared → Prop, Q' (.ref x) s → wpAny (model P w) A (eval e env) Q' E s) (hb : ∀ f : Str, attributeBase e f env (eval e env) = eval e env)
    (hb2 : attributeBase (.Attribute e "__class__" p1) "__name__" env (eval (.Attribute e "__class__" p1) env) = eval (.Attribute e "__class__" p1) env)
    (hb3 : attributeBase (.Attribute (.Attribute e "__class__" p1) "__name__" p2) "lower" env (eval (.Attribute (.Attribute e "__class__" p1) "__name__" p2) env) = eval (.Attribute (.Attribute e "__class__" p1) "__name__" p2) env)
    (hl : (p3.endLine == p4.line) = true) (q : ∀ z t u, Q (.str z t) { s with toks := u }) :
    wpAny (model P w) A (eval (.Call (.Attribute (.Attribute (.Attribute e "__class__" p1) "__name__" p2) "lower" p3) [] [] p4) env) Q E s := by
  refine Call_method0 hb3 hl (attr_of hb2 (attr_of (hb _) (he _ (cls_of_err X I T (name_of_cls (s := { s with toks := s.toks + 1 }) X T fun t => ?_)))))
  refine ⟨"str", _, PySem.F.plainAttrs_str, PySem.F.slot_str_lower, PySem.F.type_str_lower, typeIs_str _ _ _, (fun _ e => nomatch e), Calls.callWith_builtin rfl (PySem.evalArgs_none ?_)⟩
  exact PySem.SC.lower (PyProof.Rows.short24 (by have h1 := T.few; have := PyProof.Rows.len_lower nm; omega)) (q _ _ _)
end
end Kt
/-! KtMe2: the __init__ of the package's first class of errors: super().__init__(f"{why}"), then the word. -/
namespace Kt
open PySem PySem.Spec PySem.Calls PyProof.Rows L2
structure MePos where
  (a b c d e f g h i j k l m n o p : Pos)
abbrev meTxt (q : MePos) : Expr := .JoinedStr [.FormattedValue (.Name "why" q.d) (-1) none q.e] q.f
abbrev meSup (q : MePos) : Expr := .Call (.Attribute (.Call (.Name "super" q.a) [] [] q.b) "__init__" q.c) [meTxt q] [] q.g
abbrev meLow (q : MePos) : Expr := .Call (.Attribute (.Attribute (.Attribute (.Name "self" q.k) "__class__" q.l) "__name__" q.m) "lower" q.n) [] [] q.o
def meBody (q : MePos) : List Stmt := [.Expr (meSup q) q.h, .Assign [.Attribute (.Name "self" q.i) "word" q.j] (meLow q) q.p]
/-- what the written part says of that __init__, of the class at D -/
structure MeC (P : Program) (K : PySem.W.Frag) (mg : Str → Option Value) (D fM : Addr) : Prop where
  fn : ∃ (oc ccl cl : Value) (od cdd cld : Option Addr) (osl ccs csl : Array (Option Value)) (qual : Str) (params : Arguments) (q : MePos) (dV kV doc pm ct : Value) (an : Option Addr) (cda cc : Addr) (vs : Array Value) (file : Str) (tf : Tok) (cdD : ClassData) (ar1 : Arg) (pl : Env → Sem Bool),
    K.lookup fM = some ⟨oc, od, .func (PySem.W.fnX "__init__" qual params (meBody q) (initScope "why") [("__class__", cc)] dV kV doc pm an (.ref cda) ct), osl⟩ ∧ PySem.W.codeIn K (.ref cda) qual = true ∧
    (params.posonlyargs ++ params.args).head? = some ar1 ∧ ar1.arg = "self" ∧ (∀ (s : Shared) (a b : Value), K.In s.heap → BindsTo s (PySem.W.fnX "__init__" qual params (meBody q) (initScope "why") [("__class__", cc)] dV kV doc pm an (.ref cda) ct) ⟨[a, b], []⟩ [(("self" : Str), a), ("why", b)]) ∧
    (∀ env : Env, eval (meSup q) env = (do
      let ov ← attributeBase (.Call (.Name "super" q.a) [] [] q.b) "__init__" env (eval (.Call (.Name "super" q.a) [] [] q.b) env)
      standAt q.c.atName
      let (f, first) ← holding [ov] (getMethod ov "__init__" (pl env))
      callWith q.g f first (backTo q.g (starEach [meTxt q] env)) [])) ∧
    K.lookup cda = some ⟨ccl, cdd, .fields vs, ccs⟩ ∧ vs[2]? = some (.str file tf) ∧ ((P.main.file : Str) == file) = true ∧
    K.lookup cc = some ⟨cl, cld, .cell (some (.ref D)), csl⟩ ∧ PySem.W.clsIn K D = some cdD ∧ (q.n.endLine == q.o.line) = true
  top : (P.main.scope.names.lookup ("super" : Str)).isSome = false
  sup : mg "super" = none
/-- .. of a class at C that has this __init__ or comes to it by super() -/
structure MeOf (K : PySem.W.Frag) (D C : Addr) : Prop where
  at_ : OexC K C
  self_ : PySem.W.mroIn K C (.ref D) = some true
  par : PySem.W.ks_superIn K C D "__init__" = some (some (.builtin "ValueError.__init__"))
  val : PySem.W.subIn K (.ref C) (.type "ValueError") = some true
  opq : PySem.W.nsIn K cStatics "thirdparty.any" = some none
  exc : PySem.W.excInitIn K C [.type "ValueError", .type "Exception", .type "BaseException", .type "object"] "ValueError.__new__" = true
  nof : PySem.W.findIn K (.ref C) "word" = some none
  nm : ∃ nm, NameC K C nm
section
variable {P : Program} {w : World} {K : PySem.W.Frag} {mg : Str → Option Value} {A : Around} {base : Heap} {D C fM e t0 : Addr} {sh : Shared} {v : V} {u : Value}
theorem me_run (T : MeC P K mg D fM) (O : MeOf K D C) (mod : Mod K mg base) (bs : ∀ b o, base.get? b = some o → sh.heap.get? b = some o) (nb : base.get? e = none) (room : A.depth < recursionLimit)
    (there : sh.heap.get? e = some (PySem.W.excObj C t0 none .none)) (rel : RelV v u) (txt2 : Str) (as_ : inText v = some txt2) (short : txt2.length ≤ 5000) (big : ∀ i, v = .int i → i.natAbs.log2 < 1920)
    (R : Result → Shared → Prop)
    (fin : ∀ (s' : Shared) (dx t1 : Addr) (z : Str) (tz : Tok), s'.os = sh.os → s'.gens = sh.gens → (∀ b o, b ≠ e → sh.heap.get? b = some o → s'.heap.get? b = some o) → sh.heap.objs.size ≤ dx → dx ≠ e → s'.heap.get? e = some (PySem.W.excObj C t1 (some dx) .none) →
      s'.heap.Ns1 dx (fun y => if y = "word" then some (.str z tz) else none) → R (.ok (.ret .none)) s')
    (args : Args) (hargs : ∀ fd : FuncData, (∃ (oc : Value) (od : Option Addr) (osl : Array (Option Value)), K.lookup fM = some ⟨oc, od, .func fd, osl⟩) → BindsTo sh fd args [(("self" : Str), .ref e), ("why", u)]) :
    codeAny (model P w) A (.call (.ref fM) args) R sh := by
  obtain ⟨oc, ccl, cl, od, cdd, cld, osl, ccs, csl, qual, params, q, dV, kV, doc, pm, ct, an, cda, cc, vs, file, tf, cdD, ar1, pl, look, code, hpar, ha1, hbind, hev, hcode, hvs, hfile, hcell, hcls, hline⟩ := T.fn
  obtain ⟨nmz, NM⟩ := O.nm
  have X : K.In sh.heap := mod.kin.keeps bs
  obtain ⟨mb, nsb, boot⟩ := mod.blt
  refine ks_codeAny_call_defAt (fd := PySem.W.fnX "__init__" qual _ (meBody q) (initScope "why") [("__class__", cc)] dV kV doc pm an (.ref cda) ct) (body := meBody q) (binds := [("self", .ref e), ("why", u)]) room (X _ _ look) rfl (mod.nolimit.keeps bs) (PySem.W.codeRec_of X code) rfl ?binds ?nocell ?local_ ?run
  case binds => exact hargs _ ⟨_, _, _, look⟩
  case nocell =>
    intro z hz
    have hz : z = (("self" : Str), NameKind.local) ∨ z = (("why" : Str), NameKind.local) ∨ z = (("__class__" : Str), NameKind.free) ∨ z = (("super" : Str), NameKind.globalImplicit) := by simpa [initScope, PySem.W.fnX] using hz
    rcases hz with rfl | rfl | rfl | rfl <;> exact fun z => by cases z
  case local_ =>
    intro z hz
    have hz : z = (("self" : Str), Value.ref e) ∨ z = (("why" : Str), u) := by simpa using hz
    rcases hz with rfl | rfl <;> rfl
  case run =>
    intro h1 frame keep
    have len1 : sh.heap.objs.size < h1.objs.size := frame.lt
    obtain ⟨hid, hhid⟩ : ∃ hid : Hp, hid = fun b => if b = e then some (.own 0) else none := ⟨_, rfl⟩
    have off : ∀ {b : Addr}, b ≠ e → hid b = none := fun {b} n => by rw [hhid]; exact if_neg n
    have on : hid e ≠ none := by
      have z : hid e = some (.own 0) := by rw [hhid]; exact if_pos rfl
      rw [z]
      exact fun y => by cases y
    have elt : e < sh.heap.objs.size := Heap.lt_size there
    obtain ⟨L, hL⟩ : ∃ L, L = sh.heap.objs.size := ⟨_, rfl⟩
    have eL : e ≠ L := by rw [hL]; exact Nat.ne_of_lt elt
    have ground : ∀ b o, (hidT sh.heap hid).get? b = some o → h1.get? b = some o := fun b o z => keep b o (of_hidT z).1
    rw [← hL] at frame ⊢
    have F : Fr (hidT sh.heap hid) L h1 (fun x => ([("self", Value.ref e), ("why", u)] : List (Str × Value)).reverse.lookup x) := ⟨frame, ground, by rw [hL]; exact Nat.le_of_eq (hidT_size _ _)⟩
    have none_ : (hidT sh.heap hid).get? e = none := by
      match z : (hidT sh.heap hid).get? e with
      | none => rfl
      | some o => exact absurd (of_hidT z).2 on
    have N : News (hidT sh.heap hid) L h1 [(e, PySem.W.excObj C t0 none .none)] := fun p hp => by
      rw [List.mem_singleton.mp hp]
      exact ⟨keep _ _ there, eL, none_⟩
    have baseIn : ∀ b o, base.get? b = some o → (hidT sh.heap hid).get? b = some o := fun b o z => hidT_get (bs b o z) (off fun y => by rw [y, nb] at z; cases z)
    have X0 : K.In (hidT sh.heap hid) := mod.kin.keeps baseIn
    obtain ⟨env, henv⟩ : ∃ env, env = callEnv (PySem.W.fnX "__init__" qual params (meBody q) (initScope "why") [("__class__", cc)] dV kV doc pm an (.ref cda) ct) L fM := ⟨_, rfl⟩
    rw [← henv]
    have kind : env.scope.kind = .function := by rw [henv]; rfl
    have ks : env.kindOf "super" = some .globalImplicit := by rw [henv]; rfl
    have kc : env.kindOf "__class__" = some .free := by rw [henv]; rfl
    have kself : env.kindOf "self" = some .local := by rw [henv]; rfl
    have kwhy : env.kindOf "why" = some .local := by rw [henv]; rfl
    have lself : ([(("self" : Str), Value.ref e), ("why", u)] : List (Str × Value)).reverse.lookup ("self" : Str) = some (.ref e) := rfl
    have lwhy : ([(("self" : Str), Value.ref e), ("why", u)] : List (Str × Value)).reverse.lookup ("why" : Str) = some u := rfl
    have X1 : K.In h1 := X0.keeps ground
    have bk1 : ∀ b o, base.get? b = some o → h1.get? b = some o := fun b o z => ground b o (baseIn b o z)
    obtain ⟨oD, hD1, hD2⟩ : ∃ oD, h1.get? D = some oD ∧ oD.data = .cls cdD := by
      unfold PySem.W.clsIn at hcls
      split at hcls
      · rename_i c d cd' sl ho
        cases hcls
        exact ⟨_, X1 _ _ ho, rfl⟩
      · cases hcls
    have I1 : PySem.W.InstAt h1 e (PySem.W.excObj C t0 none .none) C none := ⟨keep _ _ there, rfl, rfl, trivial⟩
    refine ks_wpAt_execs_cons (ks_wpAt_Expr_any (ks_wpAt_MethodCall (pl := pl env) ?_ (hev env)) ?int ?swap)
    case int => rw [henv]; rfl
    case swap => rw [henv]; rfl
    refine ks_wpAt_super_base ks kc (by decide) (f := fM) (by rw [henv]; rfl) (X1 _ _ look) rfl hpar (cc := cda) (by rw [henv]; rfl) (X1 _ _ hcode) rfl hvs hfile T.top ?_
    refine PySem.W.ks_loadName_global kind ks (loadGlobal_builtin (by rw [henv]; exact mod.glob.keeps bk1) T.sup (by rw [henv]; exact nsb.keeps bk1) ((boot _ (by decide)).trans (by decide +kernel)) ⟨rfl, ?_⟩)
    refine wpAny_loadName_free kind kc (by rw [henv]; rfl) ⟨_, X1 _ _ hcell, rfl⟩ ?_
    rw [ha1]
    refine wpAny_loadName_local kind kself (by rw [henv]; exact frame) lself ?_
    refine ks_wpAny_isType_cls hD1 hD2 ⟨rfl, ?_⟩
    refine ks_wpAny_call_super hD1 hD2 I1.at_ I1.cls (fun c z => by cases z) (PySem.W.looks_mroIn X1 O.self_) (fun h2 so2 keep2 => ?_)
    obtain ⟨F2, N2, _⟩ := PySem.W.ks_newsPush (s := ⟨h1, sh.gens, sh.drawn, sh.toks, sh.os⟩) F N rfl so2 keep2
    have I2 : PySem.W.InstAt h2 e (PySem.W.excObj C t0 none .none) C none := ⟨keep2 _ _ I1.at_, rfl, rfl, trivial⟩
    refine PySem.W.kxs_method PySem.W.kxs_ValueError F2 X0 N2 (.head _) I2 O.opq O.par O.val (by decide) (fun m3 h3 F3 N3 lt3 => ?_)
    refine PySem.W.kxs_callWith1 (i := "ValueError.__init__") (x := e) N3 (.head _) ?_
    show wpAny _ _ (spliced ((false, eval (meTxt q) env) :: backTo q.g (starEach [] env))) _ _ _
    refine Calls.spliced_cons (wpAny_JoinedStr_one ?_)
    have small : ∀ n : Nat, n ≤ 8000 → n ≤ sizeLine := fun n hn => Nat.le_trans hn (by decide)
    have al : ∀ y : Str, (Str.empty ++ y).length = y.length := fun y => by
      show (Str.empty ++ y).cps.size = y.cps.size
      show (#[] ++ y.cps).size = _
      simp
    refine wpAny_FormattedValue_plain (wpAny_Name (wpAny_loadName_local kind kwhy (by rw [henv]; exact F3.ns) lwhy ?_) (by decide))
    have elt2 : e < m3 := lt3 (e, _) (.tail _ (.head _))
    have ups : PySem.W.UpdF e (PySem.W.excObj C t0 none .none) [(m3, PySem.W.kxs_mw "ValueError.__init__" e), (h1.objs.size, PySem.W.ks_superObj D e C), (e, PySem.W.excObj C t0 none .none)] (fun o' => (m3, PySem.W.kxs_mw "ValueError.__init__" e) :: (h1.objs.size, PySem.W.ks_superObj D e C) :: [(e, o')]) :=
      .tail (Nat.ne_of_gt elt2) (.tail (Nat.ne_of_gt (Nat.lt_trans elt len1)) (.head (fun p hp => by cases hp)))
    have rest : ∀ (y : Str) (ty : Tok) (s4 : Shared), s4.heap = h3 → s4.os = sh.os → s4.gens = sh.gens → y.length ≤ 5000 →
        wpAny (model P w) (A.deeper env) (spliced (backTo q.g (starEach [] env))) (fun vs s₂ => PySem.W.KxsAt "ValueError.__init__" m3 e s₂.heap ∧ wpAny (model P w) (A.deeper env) (call (.ref m3) (Value.str y ty :: vs)) (fun _ s' => PySem.wpAt (model P w) (A.deeper env) (Code.func (meBody q) env)
              (execs [Stmt.Assign [(Expr.Name ("self" : Str) q.i).Attribute "word" q.j] (meLow q) q.p] env) (fun f s' => R (Except.ok (Flow.ret (match f with | Flow.ret v => v | x => Value.none))) s')
              (fun e s' => wpAny (model P w) (A.deeper env) (leaving env e) (fun _ s'' => R (Except.error e) s'') (fun e' s'' => R (Except.error e') s'') s') s')
              (fun e s' => wpAny (model P w) (A.deeper env) (leaving env e) (fun _ s'' => R (Except.error e) s'') (fun e' s'' => R (Except.error e') s'') s') s₂) (fun e s' => wpAny (model P w) (A.deeper env) (leaving env e) (fun _ s'' => R (Except.error e) s'') (fun e' s'' => R (Except.error e') s'') s') s4 := by
      rintro y ty ⟨hp4, g4, d4, tk4, os4⟩ rfl eo eg hy
      dsimp only at F3 N3 eo eg
      refine Calls.spliced_nil ⟨PySem.W.kxs_at N3 (.head _), ?_⟩
      refine PySem.W.kxs_call (s := ⟨hp4, g4, d4, tk4, os4⟩) F3 X0 N3 PySem.F.excBase_ValueError O.exc (.head _) ups (by show 1 ≤ sizeLine; decide) (fun t5 h5 F5 N5 lt5 => ?_)
      subst eo eg
      obtain ⟨nm, qn, NN, bss, bm, sn, sub, ab, col, dd, k0, k1, k2, k3, k5, hC, hbm⟩ := O.at_.cls
      have hcl : PySem.W.clsIn K C = some { name := nm, bases := bss, mro := .ref C :: bm, ns := NN, qualname := qn, hasDict := true, slotNames := sn, subclasses := sub, abstract := ab, collection := col, hasDel := false } := by
        unfold PySem.W.clsIn
        rw [hC]
      have X5 : K.In h5 := X0.keeps F5.keep
      obtain ⟨he5, _, _⟩ := N5 (e, PySem.W.excObj C t5 none .none) (.tail _ (.tail _ (.tail _ (.head _))))
      have I5 : PySem.W.InstAt h5 e (PySem.W.excObj C t5 none .none) C none := ⟨he5, rfl, rfl, trivial⟩
      refine ks_wpAt_execs_cons (ks_wpAt_Assign_Attr ?_ ?swap2)
      case swap2 => rw [henv]; rfl
      refine wpAt_of_wpAny (lower_of_err (s := ⟨h5, sh.gens, d4, tk4, sh.os⟩) X5 I5 NM (fun Q' q' => wpAny_Name (wpAny_loadName_local kind kself (by rw [henv]; exact F5.ns) lself q') (by decide)) (fun f => by rfl) (by rfl) (by rfl) hline fun z tz u => ?_)
      refine wpAny_Name (wpAny_loadName_local kind kself (by rw [henv]; exact F5.ns) lself ?_) (by decide)
      refine PySem.W.set_plain X5 (ox := PySem.W.excObj C t5 none .none) (od := none) I5 O.at_.sa ?_
      refine PySem.HandSPX.exc_osa X5 he5 hcl (show PySem.HandSPX.refsVE (.ref C :: bm) = true from hbm) rfl O.nof (fun h6 tk6 dx keep6 dn dne hx6 hn6 => ?_)
      refine wpAt_of_wpAny (wpAny_execs_nil ?_)
      refine fin _ dx t5 z tz rfl rfl (fun b o nb z => keep6 b o nb (F5.keep b o (hidT_get z (off nb)))) ?_ dne hx6 hn6
      have lt := F5.ns.lt
      rw [hL] at lt
      exact Nat.le_trans (Nat.le_of_lt lt) dn
    cases v with
    | str z =>
      obtain ⟨t, rfl⟩ := rel
      have e0 : z = txt2 := Option.some.inj as_
      subst e0
      exact wpAny_formatField_str (rest z t _ rfl rfl rfl short) (rest z _ _ rfl rfl rfl short) (small _ (by omega))
    | int i =>
      obtain ⟨t, rfl⟩ := rel
      have e0 : toString i = txt2 := by
        have := Option.some.inj as_
        exact this
      exact wpAny_formatField_int (big i rfl) (rest (Str.ofString (toString i)) _ _ rfl rfl rfl (by rw [show Str.ofString (toString i) = txt2 from e0]; exact short))
    | non => cases as_
    | bl b => cases as_
    | byt b => cases as_
    | flt b => cases as_
    | ref b => cases as_
    | ty b => cases as_
end
end Kt
/-! KtMe3: raising a class of errors that has the package's __init__ (see KtMe2). -/
namespace Kt
open PySem PySem.Spec PySem.Calls PyProof.Rows L2
/-- the promise of that __init__ for errors of the class at C -/
def sp_me (C : Addr) : Sp := fun vs H Q _ => ∃ (e : Addr) (v : V) (z : Str), vs = [.ref e, v] ∧ inText v = some z ∧ z.length ≤ 5000 ∧ (∀ i, v = .int i → i.natAbs.log2 < 1920) ∧ H e = some (exo e C none) ∧ ∀ d y H', H d = none → d ≠ e → H' = upd (upd H d (exd d [("word", .str y)])) e (exo e C (some d)) → Q .non H'
section
variable {P : Program} {w : World} {K : PySem.W.Frag} {mg : Str → Option Value} {base : Heap} {D C fM : Addr}
theorem me_ok (T : MeC P K mg D fM) (O : MeOf K D C) : ∃ fd : FuncData, FnOk P w K mg base CX0 1 fM fd [("self" : Str), "why"] (sp_me C) ∧ Binds K fd [("self" : Str), "why"] [] := by
  have T0 := T
  obtain ⟨oc, ccl, cl, od, cdd, cld, osl, ccs, csl, qual, params, q, dV, kV, doc, pm, ct, an, cda, cc, vs, file, tf, cdD, ar1, pl, look, code, hpar, ha1, hbind, hev, hcode, hvs, hfile, hcell, hcls, hline⟩ := T.fn
  refine ⟨_, ⟨?len, ?run⟩, fun s us X hl => match us, hl with | [a, b], _ => hbind s a b X⟩
  case len =>
    rintro vs H Q E ⟨e, v, z, rfl, _⟩
    rfl
  case run =>
    rintro A outer s H args us vs Q E room env binds rel ⟨e, v, z, rfl, as_, short, big, tracked, q⟩
    obtain ⟨u, rfl, r⟩ : ∃ u, us = [.ref e, u] ∧ RelV v u := by
      obtain ⟨a, b, rfl, ra, rb⟩ := vals2 rel
      obtain rfl : a = .ref e := ra
      exact ⟨b, rfl, rb⟩
    obtain ⟨t1, there⟩ := exo_at env.hok tracked
    refine me_run T0 O env.mod (fun b o z => (env.bs b o z).1) ?nb room.depth there r z as_ short big _ (fun s' dx t1 y ty os gens keep dn dne hx hn => ?_) args (fun fd' ⟨oc', od', osl', look'⟩ => ?_)
    case nb =>
      match y : base.get? e with
      | none => rfl
      | some o =>
        have := (env.bs e o y).2
        rw [tracked] at this
        cases this
    · have free : H dx = none := env.hok.fresh dn
      have far : ∀ {b : Addr}, H b = none → b ≠ e := fun {b} n y => by
        rw [y, tracked] at n
        cases n
      have apart : ∀ {b : Addr} {o : Obj}, s.heap.get? b = some o → b ≠ dx := fun {b o} y => Nat.ne_of_lt (Nat.lt_of_lt_of_le (Heap.lt_size y) dn)
      refine ⟨.non, upd (upd H dx (exd dx [("word", .str y)])) e (exo e C (some dx)), os, by rw [gens]; exact env.bare, ?un, ?ok, rfl, q dx y _ free dne rfl⟩
      case un =>
        constructor
        · intro b o y none_ _ _
          exact keep b o (far none_) y
        · intro b o y none_ _ _
          exact ⟨o.slots, keep b o (far none_) y⟩
        · intro b o y none_ _
          rw [upd_ne (far none_), upd_ne (apart y)]
          exact none_
        · intro b o y _
          by_cases at_ : b = e
          · exact ⟨_, by rw [at_]; exact hx⟩
          · exact ⟨o, keep b o at_ y⟩
        · intro b xs y
          rw [upd_ne (at_ne tracked y exo_tup), upd_ne (ne_of_none y free)]
          exact y
        · intro b o x y
          rw [upd_ne (at_ne tracked y exo_frz), upd_ne (ne_of_none y free)]
          exact y
        · intro b ps y
          refine ⟨#[], ?_⟩
          rw [upd_ne (at_ne tracked y exo_tbl), upd_ne (ne_of_none y free), y, Array.append_empty]
      case ok =>
        intro b o z
        by_cases at_ : b = e
        · subst at_
          rw [upd_same] at z
          obtain rfl := Option.some.inj z
          exact exo_ok hx
        · rw [upd_ne at_] at z
          by_cases new : b = dx
          · subst new
            rw [upd_same] at z
            obtain rfl := Option.some.inj z
            exact exd_ok hn (relO_put (fs := []) (show RelV (.str y) (.str y ty) from ⟨ty, rfl⟩) fun _ => trivial)
          · rw [upd_ne new] at z
            refine (env.hok b o z).stay (fun c x own look2 => keep c x ?_ look2) (fun c own => ?_) (fun c xs tup => ?_)
            · rcases own with own | own
              · rw [own]
                exact at_
              · exact at_ne tracked own exo_own
            · rw [upd_ne (at_ne tracked own exo_own), upd_ne (ne_of_none own free)]
              exact own
            · rw [upd_ne (at_ne tracked tup exo_tup), upd_ne (ne_of_none tup free)]
              exact tup
    · rw [look] at look'
      cases look'
      exact binds
end
/-- such a class may be raised -/
structure MeOk (P : Program) (w : World) (K : PySem.W.Frag) (mg : Str → Option Value) (base : Heap) (x : Str) : Prop where
  ex : ∃ (C fM : Addr) (fd : FuncData), mg x = some (.ref C) ∧ OexC K C ∧ PySem.W.findIn K (.ref C) "__init__" = some (some (.ref fM)) ∧ PySem.W.typeIn K (.ref fM) = some (.type "function") ∧ FnOk P w K mg base CX0 1 fM fd [("self" : Str), "why"] (sp_me C) ∧ Binds K fd [("self" : Str), "why"] []
theorem pmk_me {X : Cx} {j : Nat} {x : Str} {e : Expr} {ta : TA} {p pos : Pos} (c : MeOk X.prog X.w X.K X.mg X.base x) (hr : Room j X.A) (hk : 2 ≤ j) (hg : Gl X x) (ha : PA X [e] ta) (hdb : (x == ("__debug__" : Str)) = false := by decide)
    (he : starEach [e] X.env = (false, eval e X.env) :: starEach [] X.env := by rfl) (hpl : (backTo pos (starEach [] X.env)).any (·.1) = false := by rfl) : PMk X (.Call (.Name x p) [e] [] pos) (tMkO (clsA X.mg x) (sp_me (clsA X.mg x)) [] ta) := by
  obtain ⟨C, fM, fd, at_, oex, ini, typ, fn, binds⟩ := c.ex
  rw [clsA_of at_]
  exact pmk_oex oex ini typ fn (hr.mono hk) binds .nil pass0 hg at_ ha hdb he hpl
theorem me_go {C : Addr} {H1 : Hp} {v : V} {z : Str} {Q : XK} (as_ : inText v = some z) (short : z.length ≤ 5000) (big : ∀ i, v = .int i → i.natAbs.log2 < 1920) (go : ∀ d y H2, Same H1 H2 → H2 d = some (.xd [("word", .str y)]) → Q (.ref C) (some d) H2) :
    [v].length ≤ 1000 ∧ ∀ a, H1 a = none → sp_me C (.ref a :: ([v] ++ [])) (upd H1 a (exo a C none)) (fun v H2 => v = .non ∧ ∃ (d : Addr) (fs : List (Str × V)), H2 a = some (exo a C (some d)) ∧ H2 d = some (exd d fs) ∧ H1 d = none ∧ Q (.ref C) (some d) (upd (del H2 a) d (.xd fs))) (fun _ _ _ => False) := by
  refine ⟨by show 1 ≤ 1000; decide, fun a na => ⟨a, v, z, rfl, as_, short, big, upd_same, fun d y H' nd dne eq => ?_⟩⟩
  rw [upd_ne dne] at nd
  subst eq
  refine ⟨rfl, d, [("word", .str y)], upd_same, by rw [upd_ne dne, upd_same], nd, go d y _ (fun b o z => ?_) upd_same⟩
  have na2 := ne_of_none z na
  rw [upd_ne (ne_of_none z nd), del_ne na2, upd_ne na2, upd_ne (ne_of_none z nd), upd_ne na2]
  exact z
/-- with a written text -/
theorem me_goT {C : Addr} {H1 : Hp} {z : Str} {Q : XK} (go : ∀ d y H2, Same H1 H2 → H2 d = some (.xd [("word", .str y)]) → Q (.ref C) (some d) H2) (short : z.length ≤ 5000 := by decide) :
    [V.str z].length ≤ 1000 ∧ ∀ a, H1 a = none → sp_me C (.ref a :: ([V.str z] ++ [])) (upd H1 a (exo a C none)) (fun v H2 => v = .non ∧ ∃ (d : Addr) (fs : List (Str × V)), H2 a = some (exo a C (some d)) ∧ H2 d = some (exd d fs) ∧ H1 d = none ∧ Q (.ref C) (some d) (upd (del H2 a) d (.xd fs))) (fun _ _ _ => False) :=
  me_go rfl short (fun i e => by cases e) go
/-! ### the facts of such classes, as the top leaves them -/
/-- of the first class, x0, whose __init__ it is -/
structure MeK (K : PySem.W.Frag) (mg : Str → Option Value) (D : Addr) : Prop where
  fn : ∃ (fM : Addr) (oc ccl cl : Value) (od cdd cld : Option Addr) (osl ccs csl : Array (Option Value)) (qual : Str) (params : Arguments) (q : MePos) (dV kV doc pm ct : Value) (an : Option Addr) (cda cc : Addr) (vs : Array Value) (tf : Tok) (ar1 : Arg) (pl : Env → Sem Bool),
    K.lookup fM = some ⟨oc, od, .func (PySem.W.fnX "__init__" qual params (meBody q) (initScope "why") [("__class__", cc)] dV kV doc pm an (.ref cda) ct), osl⟩ ∧ PySem.W.codeIn K (.ref cda) qual = true ∧
    (params.posonlyargs ++ params.args).head? = some ar1 ∧ ar1.arg = "self" ∧ (∀ (s : Shared) (a b : Value), K.In s.heap → BindsTo s (PySem.W.fnX "__init__" qual params (meBody q) (initScope "why") [("__class__", cc)] dV kV doc pm an (.ref cda) ct) ⟨[a, b], []⟩ [(("self" : Str), a), ("why", b)]) ∧
    (∀ env : Env, eval (meSup q) env = (do
      let ov ← attributeBase (.Call (.Name "super" q.a) [] [] q.b) "__init__" env (eval (.Call (.Name "super" q.a) [] [] q.b) env)
      standAt q.c.atName
      let (f, first) ← holding [ov] (getMethod ov "__init__" (pl env))
      callWith q.g f first (backTo q.g (starEach [meTxt q] env)) [])) ∧
    K.lookup cda = some ⟨ccl, cdd, .fields vs, ccs⟩ ∧ vs[2]? = some (.str "/claim/cut.py" tf) ∧ K.lookup cc = some ⟨cl, cld, .cell (some (.ref D)), csl⟩ ∧ (q.n.endLine == q.o.line) = true ∧
    PySem.W.findIn K (.ref D) "__init__" = some (some (.ref fM)) ∧ PySem.W.typeIn K (.ref fM) = some (.type "function")
  sup : mg "super" = none
  self_ : PySem.W.mroIn K D (.ref D) = some true
/-- of a class at C that comes to it -/
structure MeS (K : PySem.W.Frag) (D C : Addr) : Prop where
  of : MeOf K D C
  ini : PySem.W.findIn K (.ref C) "__init__" = PySem.W.findIn K (.ref D) "__init__"
theorem MeK.c {P : Program} {K : PySem.W.Frag} {mg : Str → Option Value} {D : Addr} (T : MeK K mg D) (Z : ProgF P) : ∃ fM, MeC P K mg D fM ∧ PySem.W.findIn K (.ref D) "__init__" = some (some (.ref fM)) ∧ PySem.W.typeIn K (.ref fM) = some (.type "function") := by
  obtain ⟨fM, oc, ccl, cl, od, cdd, cld, osl, ccs, csl, qual, params, q, dV, kV, doc, pm, ct, an, cda, cc, vs, tf, ar1, pl, look, code, hpar, ha1, hbind, hev, hcode, hvs, hcell, hline, hini, htyp⟩ := T.fn
  obtain ⟨cdD, hcls⟩ := clsIn_mro T.self_
  exact ⟨fM, ⟨⟨oc, ccl, cl, od, cdd, cld, osl, ccs, csl, qual, params, q, dV, kV, doc, pm, ct, an, cda, cc, vs, "/claim/cut.py", tf, cdD, ar1, pl, look, code, hpar, ha1, hbind, hev, hcode, hvs, Z.file, hcell, hcls, hline⟩, Z.top, T.sup⟩, hini, htyp⟩
theorem MeS.ok {P : Program} {w : World} {K : PySem.W.Frag} {mg : Str → Option Value} {base : Heap} {D : Addr} {x : Str} (S : MeS K D (clsA mg x)) (T : MeK K mg D) (Z : ProgF P) (at_ : mg x = some (.ref (clsA mg x))) : MeOk P w K mg base x := by
  obtain ⟨fM, c, ini, typ⟩ := T.c Z
  obtain ⟨fd, ok, binds⟩ := me_ok (w := w) (base := base) c S.of
  exact ⟨_, fM, fd, at_, S.of.at_, S.ini.trans ini, typ, ok, binds⟩
end Kt
namespace Kt
open PySem PySem.Spec PyProof.Rows L2
/-- what a raise of such a class at C promises: an error with its dict, all else stands -/
def Err (E : XK) (C : Value) (H : Hp) : Prop := ∀ (d : Addr) (y : Str) (H' : Hp), Same H H' → H' d = some (.xd [("word", .str y)]) → E C (some d) H'
theorem Err.wk {E : XK} {C : Value} {H H' : Hp} (e : Err E C H) (s : Same H H') : Err E C H' := fun d y H2 s2 h => e d y H2 (s.trans s2) h
/-- an own class of errors that is caught or asked by its name -/
structure ExG (K : PySem.W.Frag) (mg : Str → Option Value) (x : Str) (C : Addr) : Prop where
  g : mg x = some (.ref C)
  b : PySem.W.subIn K (.ref C) (.type "BaseException") = some true
  t : PySem.W.typeIn K (.ref C) = some (.type "type")
  i : PySem.W.isClsIn K C = true
  s : PySem.W.subIn K (.ref C) (.ref C) = some true
theorem ExG.at {K : PySem.W.Frag} {mg : Str → Option Value} {x : Str} {C : Addr} (g : mg x = some (.ref C)) (b : PySem.W.subIn K (.ref C) (.type "BaseException") = some true) (t : PySem.W.typeIn K (.ref C) = some (.type "type")) (i : PySem.W.isClsIn K C = true)
    (s : PySem.W.subIn K (.ref C) (.ref C) = some true) : ExG K mg x (clsA mg x) := by
  rw [clsA_of g]
  exact ⟨g, b, t, i, s⟩
/-- it takes what isinstance says it takes -/
theorem exm_kitG {K : PySem.W.Frag} {mg : Str → Option Value} {x : Str} {C : Addr} {t : Value} (e : ExG K mg x C) (k : PySem.W.kitOne K t (.ref C) = some true) : PySem.W.exmOne K t (.ref C) = some true := by
  have k2 : PySem.W.kitCls K t (.ref C) = some true := by
    unfold PySem.W.kitOne at k
    by_cases h : (t == .ref C) = true
    · obtain rfl := beq_iff_eq.mp h
      show (if ((PySem.W.clsIn K C).isSome && PySem.W.typeIn K (.ref C) == some (.type "type")) = true then PySem.W.subIn K (.ref C) (.ref C) else none) = _
      rw [show (PySem.W.clsIn K C).isSome = true from e.i, e.t, e.s]
      rfl
    · rw [if_neg h] at k
      exact k
  unfold PySem.W.exmOne
  rw [e.b]
  exact k2
end Kt
/-! KtMi: an own class of errors with an __init__ of its own, super().__init__(f"..{x}") and self.x = x, over the package's first class (KtMe2). -/
namespace Kt
open PySem PySem.Spec PySem.Calls PyProof.Rows L2
/-- what the written part says of the class at C, of its __init__, over the class at D -/
structure MiC (P : Program) (K : PySem.W.Frag) (mg : Str → Option Value) (C fI fM : Addr) (fld txt : Str) : Prop where
  fn : ∃ (oc ccl cl : Value) (od cdd cld : Option Addr) (osl ccs csl : Array (Option Value)) (qual : Str) (params : Arguments) (q : InitPos) (dV kV doc pm ct : Value) (an : Option Addr) (cda cc : Addr) (vs : Array Value) (file : Str) (tf : Tok) (cdD : ClassData) (ar1 : Arg) (pl : Env → Sem Bool),
    K.lookup fI = some ⟨oc, od, .func (PySem.W.fnX "__init__" qual params (initBody fld txt q) (initScope fld) [("__class__", cc)] dV kV doc pm an (.ref cda) ct), osl⟩ ∧ PySem.W.codeIn K (.ref cda) qual = true ∧
    (params.posonlyargs ++ params.args).head? = some ar1 ∧ ar1.arg = "self" ∧ (∀ a b : Value, bindArgs (PySem.W.fnX "__init__" qual params (initBody fld txt q) (initScope fld) [("__class__", cc)] dV kV doc pm an (.ref cda) ct) ⟨[a, b], []⟩ = pure [(("self" : Str), a), (fld, b)]) ∧
    (∀ env : Env, eval (.Call (.Attribute (.Call (.Name "super" q.a) [] [] q.b) "__init__" q.c) [.JoinedStr [.Constant (.str txt) q.n q.d, .FormattedValue (.Name fld q.e) (-1) none q.f] q.g] [] q.h) env = (do
      let ov ← attributeBase (.Call (.Name "super" q.a) [] [] q.b) "__init__" env (eval (.Call (.Name "super" q.a) [] [] q.b) env)
      standAt q.c.atName
      let (f, first) ← holding [ov] (getMethod ov "__init__" (pl env))
      callWith q.h f first (backTo q.h (starEach [.JoinedStr [.Constant (.str txt) q.n q.d, .FormattedValue (.Name fld q.e) (-1) none q.f] q.g] env)) [])) ∧
    K.lookup cda = some ⟨ccl, cdd, .fields vs, ccs⟩ ∧ vs[2]? = some (.str file tf) ∧ ((P.main.file : Str) == file) = true ∧
    K.lookup cc = some ⟨cl, cld, .cell (some (.ref C)), csl⟩ ∧ PySem.W.clsIn K C = some cdD
  top : (P.main.scope.names.lookup ("super" : Str)).isSome = false
  sup : mg "super" = none
  self_ : PySem.W.mroIn K C (.ref C) = some true
  par : PySem.W.ks_superIn K C C "__init__" = some (some (.ref fM))
  typ : PySem.W.typeIn K (.ref fM) = some (.type "function")
  fni : PySem.W.fnIn K fM = true
  nof : PySem.W.findIn K (.ref C) fld = some none
section
variable {P : Program} {w : World} {K : PySem.W.Frag} {mg : Str → Option Value} {A : Around} {base : Heap} {D C fI fM e t0 : Addr} {fld txt : Str} {sh : Shared} {v : V} {u : Value}
theorem mi_run (T : MiC P K mg C fI fM fld txt) (M : MeC P K mg D fM) (O : MeOf K D C) (mod : Mod K mg base) (bs : ∀ b o, base.get? b = some o → sh.heap.get? b = some o) (nb : base.get? e = none) (room : A.depth + 1 < recursionLimit)
    (there : sh.heap.get? e = some (PySem.W.excObj C t0 none .none)) (rel : RelV v u) (txt2 : Str) (as_ : inText v = some txt2) (short : txt2.length ≤ 3000) (few : txt.length ≤ 1000) (big : ∀ i, v = .int i → i.natAbs.log2 < 1920) (nself : ("self" : Str) ≠ fld) (nsup : ("super" : Str) ≠ fld) (ncls : ("__class__" : Str) ≠ fld) (nword : ("word" : Str) ≠ fld) (ndbg : (fld == ("__debug__" : Str)) = false)
    (R : Result → Shared → Prop)
    (fin : ∀ (s' : Shared) (dx t1 : Addr) (z : Str) (tz : Tok), s'.os = sh.os → s'.gens = sh.gens → (∀ b o, b ≠ e → sh.heap.get? b = some o → s'.heap.get? b = some o) → sh.heap.objs.size ≤ dx → dx ≠ e → s'.heap.get? e = some (PySem.W.excObj C t1 (some dx) .none) →
      s'.heap.Ns1 dx (fun y => if y = fld then some u else if y = "word" then some (.str z tz) else none) → R (.ok (.ret .none)) s')
    (args : Args) (hargs : ∀ fd : FuncData, (∃ (oc : Value) (od : Option Addr) (osl : Array (Option Value)), K.lookup fI = some ⟨oc, od, .func fd, osl⟩) → BindsTo sh fd args [(("self" : Str), .ref e), (fld, u)]) :
    codeAny (model P w) A (.call (.ref fI) args) R sh := by
  obtain ⟨oc, ccl, cl, od, cdd, cld, osl, ccs, csl, qual, params, q, dV, kV, doc, pm, ct, an, cda, cc, vs, file, tf, cdD, ar1, pl, look, code, hpar, ha1, hbind, hev, hcode, hvs, hfile, hcell, hcls⟩ := T.fn
  have X : K.In sh.heap := mod.kin.keeps bs
  obtain ⟨mb, nsb, boot⟩ := mod.blt
  refine ks_codeAny_call_defAt (fd := PySem.W.fnX "__init__" qual _ (initBody fld txt q) (initScope fld) [("__class__", cc)] dV kV doc pm an (.ref cda) ct) (body := initBody fld txt q) (binds := [("self", .ref e), (fld, u)]) (Nat.lt_of_succ_lt room) (X _ _ look) rfl (mod.nolimit.keeps bs) (PySem.W.codeRec_of X code) rfl ?binds ?nocell ?local_ ?run
  case binds =>
    exact hargs _ ⟨_, _, _, look⟩
  case nocell =>
    intro z hz
    have hz : z = (("self" : Str), NameKind.local) ∨ z = (fld, NameKind.local) ∨ z = (("__class__" : Str), NameKind.free) ∨ z = (("super" : Str), NameKind.globalImplicit) := by simpa [initScope, PySem.W.fnX] using hz
    rcases hz with rfl | rfl | rfl | rfl <;> exact fun z => by cases z
  case local_ =>
    intro z hz
    have hz : z = (("self" : Str), Value.ref e) ∨ z = (fld, u) := by simpa using hz
    rcases hz with rfl | rfl
    · rfl
    · exact fld_kind nself
  case run =>
    intro h1 frame keep
    have len1 : sh.heap.objs.size < h1.objs.size := frame.lt
    obtain ⟨hid, hhid⟩ : ∃ hid : Hp, hid = fun b => if b = e then some (.own 0) else none := ⟨_, rfl⟩
    have off : ∀ {b : Addr}, b ≠ e → hid b = none := fun {b} n => by rw [hhid]; exact if_neg n
    have on : hid e ≠ none := by
      have z : hid e = some (.own 0) := by rw [hhid]; exact if_pos rfl
      rw [z]
      exact fun y => by cases y
    have elt : e < sh.heap.objs.size := Heap.lt_size there
    obtain ⟨L, hL⟩ : ∃ L, L = sh.heap.objs.size := ⟨_, rfl⟩
    have eL : e ≠ L := by rw [hL]; exact Nat.ne_of_lt elt
    have ground : ∀ b o, (hidT sh.heap hid).get? b = some o → h1.get? b = some o := fun b o z => keep b o (of_hidT z).1
    rw [← hL] at frame ⊢
    have F : Fr (hidT sh.heap hid) L h1 (fun x => ([("self", Value.ref e), (fld, u)] : List (Str × Value)).reverse.lookup x) := ⟨frame, ground, by rw [hL]; exact Nat.le_of_eq (hidT_size _ _)⟩
    have none_ : (hidT sh.heap hid).get? e = none := by
      match z : (hidT sh.heap hid).get? e with
      | none => rfl
      | some o => exact absurd (of_hidT z).2 on
    have N : News (hidT sh.heap hid) L h1 [(e, PySem.W.excObj C t0 none .none)] := fun p hp => by
      rw [List.mem_singleton.mp hp]
      exact ⟨keep _ _ there, eL, none_⟩
    have baseIn : ∀ b o, base.get? b = some o → (hidT sh.heap hid).get? b = some o := fun b o z => hidT_get (bs b o z) (off fun y => by rw [y, nb] at z; cases z)
    have X0 : K.In (hidT sh.heap hid) := mod.kin.keeps baseIn
    obtain ⟨env, henv⟩ : ∃ env, env = callEnv (PySem.W.fnX "__init__" qual params (initBody fld txt q) (initScope fld) [("__class__", cc)] dV kV doc pm an (.ref cda) ct) L fI := ⟨_, rfl⟩
    rw [← henv]
    have kind : env.scope.kind = .function := by rw [henv]; rfl
    have ks : env.kindOf "super" = some .globalImplicit := by rw [henv]; exact sup_kind nsup
    have kc : env.kindOf "__class__" = some .free := by rw [henv]; exact cls_kind ncls
    have kself : env.kindOf "self" = some .local := by rw [henv]; rfl
    have kfld : env.kindOf fld = some .local := by rw [henv]; exact fld_kind nself
    have lself : ([(("self" : Str), Value.ref e), (fld, u)] : List (Str × Value)).reverse.lookup ("self" : Str) = some (.ref e) := self_look nself
    have lfld : ([(("self" : Str), Value.ref e), (fld, u)] : List (Str × Value)).reverse.lookup fld = some u := fld_look
    have X1 : K.In h1 := X0.keeps ground
    have bk1 : ∀ b o, base.get? b = some o → h1.get? b = some o := fun b o z => ground b o (baseIn b o z)
    obtain ⟨oD, hD1, hD2⟩ : ∃ oD, h1.get? C = some oD ∧ oD.data = .cls cdD := by
      unfold PySem.W.clsIn at hcls
      split at hcls
      · rename_i c d cd' sl ho
        cases hcls
        exact ⟨_, X1 _ _ ho, rfl⟩
      · cases hcls
    have I1 : PySem.W.InstAt h1 e (PySem.W.excObj C t0 none .none) C none := ⟨keep _ _ there, rfl, rfl, trivial⟩
    refine ks_wpAt_execs_cons (ks_wpAt_Expr_any (ks_wpAt_MethodCall (pl := pl env) ?_ (hev env)) ?int ?swap)
    case int => rw [henv]; rfl
    case swap => rw [henv]; rfl
    refine ks_wpAt_super_base ks kc (by decide) (f := fI) (by rw [henv]; rfl) (X1 _ _ look) rfl hpar (cc := cda) (by rw [henv]; rfl) (X1 _ _ hcode) rfl hvs hfile T.top ?_
    refine PySem.W.ks_loadName_global kind ks (loadGlobal_builtin (by rw [henv]; exact mod.glob.keeps bk1) T.sup (by rw [henv]; exact nsb.keeps bk1) ((boot _ (by decide)).trans (by decide +kernel)) ⟨rfl, ?_⟩)
    refine wpAny_loadName_free kind kc (by rw [henv]; rfl) ⟨_, X1 _ _ hcell, rfl⟩ ?_
    rw [ha1]
    refine wpAny_loadName_local kind kself (by rw [henv]; exact frame) lself ?_
    refine ks_wpAny_isType_cls hD1 hD2 ⟨rfl, ?_⟩
    refine ks_wpAny_call_super hD1 hD2 I1.at_ I1.cls (fun c z => by cases z) (PySem.W.looks_mroIn X1 T.self_) (fun h2 so2 keep2 => ?_)
    obtain ⟨F2, N2, _⟩ := PySem.W.ks_newsPush (s := ⟨h1, sh.gens, sh.drawn, sh.toks, sh.os⟩) F N rfl so2 keep2
    have I2 : PySem.W.InstAt h2 e (PySem.W.excObj C t0 none .none) C none := ⟨keep2 _ _ I1.at_, rfl, rfl, trivial⟩
    refine PySem.W.ks_method F2 X0 N2 (.head _) I2 O.opq T.par T.typ (by decide) (fun m3 h3 F3 N3 lt3 => ?_)
    refine PySem.W.callWith_M (self := .ref e) X0 N3 (.head _) T.fni ?_ rfl rfl
    show wpAny _ _ (spliced ((false, eval (.JoinedStr [.Constant (.str txt) q.n q.d, .FormattedValue (.Name fld q.e) (-1) none q.f] q.g) env) :: backTo q.h (starEach [] env))) _ _ _
    refine Calls.spliced_cons (wpAny_JoinedStr ?_)
    show Joins _ _ _ [eval (.Constant (.str txt) q.n q.d) env, eval (.FormattedValue (.Name fld q.e) (-1) none q.f) env] Str.empty _ _
    have el : (Str.empty ++ txt).length = txt.length := by
      show (Str.empty ++ txt).cps.size = txt.cps.size
      show (#[] ++ txt.cps).size = _
      simp
    have small : ∀ n : Nat, n ≤ 8000 → n ≤ sizeLine := fun n hn => Nat.le_trans hn (by decide)
    refine Constant_str ⟨txt, _, rfl, small _ (by rw [el]; omega), ?_⟩
    have al : ∀ y : Str, (Str.empty ++ txt ++ y).length = txt.length + y.length := fun y => by
      show (Str.empty ++ txt ++ y).cps.size = _
      have : (Str.empty ++ txt ++ y).cps = (Str.empty ++ txt).cps ++ y.cps := rfl
      rw [this, Array.size_append]
      have e2 : (Str.empty ++ txt).cps.size = txt.length := el
      rw [e2]
      rfl
    refine wpAny_FormattedValue_plain (wpAny_Name (wpAny_loadName_local kind kfld (by rw [henv]; exact F3.ns) lfld ?_) ndbg)
    have rest : ∀ (y : Str) (ty : Tok) (s4 : Shared), s4.heap = h3 → s4.os = sh.os → s4.gens = sh.gens → y.length ≤ 3000 →
        ∃ y' t', Value.str y ty = .str y' t' ∧ (Str.empty ++ txt ++ y').length ≤ sizeLine ∧ Joins (model P w) (A.deeper env) (fun e s' => wpAny (model P w) (A.deeper env) (leaving env e) (fun _ s'' => R (Except.error e) s'') (fun e' s'' => R (Except.error e') s'') s') [] (Str.empty ++ txt ++ y') (fun out s₁ => out.length ≤ sizeLine ∧ wpAny (model P w) (A.deeper env) (spliced (backTo q.h (starEach [] env))) (fun vs s₂ => PySem.W.MethP K m3 fM (.ref e) s₂.heap ∧ wpAny (model P w) (A.deeper env) (call (.ref m3) ([] ++ (Value.str out s₁.toks :: vs))) (fun _ s' => PySem.wpAt (model P w) (A.deeper env) (Code.func (initBody fld txt q) env)
              (execs [Stmt.Assign [(Expr.Name ("self" : Str) q.j).Attribute fld q.k] (Expr.Name fld q.l) q.m] env) (fun f s' => R (Except.ok (Flow.ret (match f with | Flow.ret v => v | x => Value.none))) s')
              (fun e s' => wpAny (model P w) (A.deeper env) (leaving env e) (fun _ s'' => R (Except.error e) s'') (fun e' s'' => R (Except.error e') s'') s') s')
              (fun e s' => wpAny (model P w) (A.deeper env) (leaving env e) (fun _ s'' => R (Except.error e) s'') (fun e' s'' => R (Except.error e') s'') s') s₂) (fun e s' => wpAny (model P w) (A.deeper env) (leaving env e) (fun _ s'' => R (Except.error e) s'') (fun e' s'' => R (Except.error e') s'') s') { s₁ with toks := s₁.toks + 1 }) s4 := by
      rintro y ty ⟨hp4, g4, d4, tk4, os4⟩ rfl eo eg hy
      dsimp only at F3 N3 eo eg
      refine ⟨y, ty, rfl, small _ (by rw [al]; omega), small _ (by rw [al]; omega), ?_⟩
      have X3 : K.In hp4 := X0.keeps F3.keep
      refine Calls.spliced_nil ⟨PySem.W.methP N3 (.head _) X3, ?_⟩
      obtain ⟨he3, _, _⟩ := N3 (e, PySem.W.excObj C t0 none .none) (.tail _ (.tail _ (.head _)))
      refine PySem.W.call_meth N3 (.head _) ?_
      have bk3 : ∀ b o, base.get? b = some o → hp4.get? b = some o := fun b o z => F3.keep b o (baseIn b o z)
      obtain ⟨moc, mccl, mcl, mod2, mcdd, mcld, mosl, mccs, mcsl, mqual, mparams, mq, mdV, mkV, mdoc, mpm, mct, man, mcda, mcc, mvs, mfile, mtf, mcdD, mar1, mpl, mlook, mcode, mhpar, mha1, mhbind, mrest⟩ := M.fn
      refine me_run (v := .str (Str.empty ++ txt ++ y)) (u := .str (Str.empty ++ txt ++ y) tk4) M O mod bk3 nb (by first | exact room | (show A.depth + 1 < _; exact room)) he3 ⟨_, rfl⟩ (Str.empty ++ txt ++ y) rfl (by rw [al]; omega) (fun i z => by cases z) _ (fun s6 dx t1 z tz os6 gens6 keep6 dn dne hx6 hn6 => ?fin6) _ (fun fd' ⟨oc', od', osl', look'⟩ => ?args6)
      case args6 =>
        rw [mlook] at look'
        cases look'
        exact mhbind _ _ _ X3
      obtain ⟨h6, g6, d6, tk6, o6⟩ := s6
      dsimp only at os6 gens6 keep6 hx6 hn6
      subst os6 gens6 eo eg
      obtain ⟨nm, qn, NN, bss, bm, sn, sub, ab, col, dd, k0, k1, k2, k3, k5, hC, hbm⟩ := O.at_.cls
      have hcl : PySem.W.clsIn K C = some { name := nm, bases := bss, mro := .ref C :: bm, ns := NN, qualname := qn, hasDict := true, slotNames := sn, subclasses := sub, abstract := ab, collection := col, hasDel := false } := by
        unfold PySem.W.clsIn
        rw [hC]
      have k6 : ∀ b o, (hidT sh.heap hid).get? b = some o → h6.get? b = some o := fun b o z => keep6 b o (fun y => by rw [y, none_] at z; cases z) (F3.keep b o z)
      have X6 : K.In h6 := X0.keeps k6
      have F6 : Fr (hidT sh.heap hid) L h6 (fun x => ([("self", Value.ref e), (fld, u)] : List (Str × Value)).reverse.lookup x) := by
        obtain ⟨oL, es, ep, hL6, r⟩ := F3.ns
        exact ⟨⟨oL, es, ep, keep6 _ _ eL.symm hL6, r⟩, k6, F3.above⟩
      obtain ⟨oX, _, _, hoX, hdX, _⟩ := id hn6
      have I6 : PySem.W.InstAt h6 e (PySem.W.excObj C t1 (some dx) .none) C (some oX) := ⟨hx6, rfl, rfl, hoX⟩
      refine ks_wpAt_execs_cons (ks_wpAt_Assign_Attr ?_ ?swap2)
      case swap2 => rw [henv]; rfl
      refine wpAt_of_wpAny (wpAny_Name (wpAny_loadName_local kind kfld (by rw [henv]; exact F6.ns) lfld ?_) ndbg)
      refine wpAny_Name (wpAny_loadName_local kind kself (by rw [henv]; exact F6.ns) lself ?_) (by decide)
      refine PySem.W.set_plain X6 I6 O.at_.sa ?_
      have wn : PySem.Within (fun y => if y = ("word" : Str) then some (Value.str z tz) else none) ["word"] := fun y hy => by
        by_cases h : y = "word"
        · exact List.mem_singleton.mpr h
        · exact absurd (if_neg h) hy
      refine PySem.OEX.osa_old X6 hx6 hn6 wn (by decide) hcl (show PySem.HandSPX.refsVE (.ref C :: bm) = true from hbm) rfl T.nof (fun h7 tk7 keep7 hn7 => ?_)
      refine wpAt_of_wpAny (wpAny_execs_nil ?_)
      refine fin _ dx t1 z tz rfl rfl (fun b o nb z2 => keep7 b o (fun y => ?_) (keep6 b o nb (F3.keep b o (hidT_get z2 (off nb))))) ?_ dne (keep7 _ _ dne.symm hx6) hn7
      · subst y
        have lt3 : b < hp4.objs.size := Heap.lt_size (F3.keep b o (hidT_get z2 (off nb)))
        exact absurd (Nat.lt_of_lt_of_le lt3 dn) (Nat.lt_irrefl _)
      · have lt := F3.ns.lt
        rw [hL] at lt
        exact Nat.le_trans (Nat.le_of_lt lt) dn
    cases v with
    | str z =>
      obtain ⟨t, rfl⟩ := rel
      have e0 : z = txt2 := Option.some.inj as_
      subst e0
      exact wpAny_formatField_str (rest z t _ rfl rfl rfl short) (rest z _ _ rfl rfl rfl short) (small _ (by omega))
    | int i =>
      obtain ⟨t, rfl⟩ := rel
      have e0 : toString i = txt2 := by
        have := Option.some.inj as_
        exact this
      exact wpAny_formatField_int (big i rfl) (rest (Str.ofString (toString i)) _ _ rfl rfl rfl (by rw [show Str.ofString (toString i) = txt2 from e0]; exact short))
    | non => cases as_
    | bl b => cases as_
    | byt b => cases as_
    | flt b => cases as_
    | ref b => cases as_
    | ty b => cases as_
end
end Kt
namespace Kt
open PySem PySem.Spec PySem.Calls PyProof.Rows L2
/-- the promise of such an __init__ -/
def sp_mi (C : Addr) (fld : Str) : Sp := fun vs H Q _ => ∃ (e : Addr) (v : V) (z : Str), vs = [.ref e, v] ∧ inText v = some z ∧ z.length ≤ 3000 ∧ (∀ i, v = .int i → i.natAbs.log2 < 1920) ∧ H e = some (exo e C none) ∧ ∀ d y H', H d = none → d ≠ e → H' = upd (upd H d (exd d [(fld, v), ("word", .str y)])) e (exo e C (some d)) → Q .non H'
section
variable {P : Program} {w : World} {K : PySem.W.Frag} {mg : Str → Option Value} {base : Heap} {D C fI fM : Addr} {fld txt : Str}
theorem mi_ok (T : MiC P K mg C fI fM fld txt) (M : MeC P K mg D fM) (O : MeOf K D C) (few : txt.length ≤ 1000) (nself : ("self" : Str) ≠ fld) (nsup : ("super" : Str) ≠ fld) (ncls : ("__class__" : Str) ≠ fld) (nword : ("word" : Str) ≠ fld) (ndbg : (fld == ("__debug__" : Str)) = false) :
    ∃ fd : FuncData, FnOk P w K mg base CX0 2 fI fd [("self" : Str), fld] (sp_mi C fld) ∧ Binds K fd [("self" : Str), fld] [] := by
  have T0 := T
  obtain ⟨oc, ccl, cl, od, cdd, cld, osl, ccs, csl, qual, params, q, dV, kV, doc, pm, ct, an, cda, cc, vs, file, tf, cdD, ar1, pl, look, code, hpar, ha1, hbind, hev, hcode, hvs, hfile, hcell, hcls⟩ := T.fn
  refine ⟨_, ⟨?len, ?run⟩, .all fun us hl => match us, hl with | [a, b], _ => hbind a b⟩
  case len =>
    rintro vs H Q E ⟨e, v, z, rfl, _⟩
    rfl
  case run =>
    rintro A outer s H args us vs Q E room env binds rel ⟨e, v, z, rfl, as_, short, big, tracked, q⟩
    obtain ⟨u, rfl, r⟩ : ∃ u, us = [.ref e, u] ∧ RelV v u := by
      obtain ⟨a, b, rfl, ra, rb⟩ := vals2 rel
      obtain rfl : a = .ref e := ra
      exact ⟨b, rfl, rb⟩
    obtain ⟨t1, there⟩ := exo_at env.hok tracked
    refine mi_run T0 M O env.mod (fun b o z => (env.bs b o z).1) ?nb ?room there r z as_ short few big nself nsup ncls nword ndbg _ (fun s' dx t1 y ty os gens keep dn dne hx hn => ?_) args (fun fd' ⟨oc', od', osl', look'⟩ => ?_)
    case nb =>
      match y : base.get? e with
      | none => rfl
      | some o =>
        have := (env.bs e o y).2
        rw [tracked] at this
        cases this
    case room =>
      have := room.dp
      omega
    · have free : H dx = none := env.hok.fresh dn
      have far : ∀ {b : Addr}, H b = none → b ≠ e := fun {b} n y => by
        rw [y, tracked] at n
        cases n
      have apart : ∀ {b : Addr} {o : Obj}, s.heap.get? b = some o → b ≠ dx := fun {b o} y => Nat.ne_of_lt (Nat.lt_of_lt_of_le (Heap.lt_size y) dn)
      refine ⟨.non, upd (upd H dx (exd dx [(fld, v), ("word", .str y)])) e (exo e C (some dx)), os, by rw [gens]; exact env.bare, ?un, ?ok, rfl, q dx y _ free dne rfl⟩
      case un =>
        constructor
        · intro b o y none_ _ _
          exact keep b o (far none_) y
        · intro b o y none_ _ _
          exact ⟨o.slots, keep b o (far none_) y⟩
        · intro b o y none_ _
          rw [upd_ne (far none_), upd_ne (apart y)]
          exact none_
        · intro b o y _
          by_cases at_ : b = e
          · exact ⟨_, by rw [at_]; exact hx⟩
          · exact ⟨o, keep b o at_ y⟩
        · intro b xs y
          rw [upd_ne (at_ne tracked y exo_tup), upd_ne (ne_of_none y free)]
          exact y
        · intro b o x y
          rw [upd_ne (at_ne tracked y exo_frz), upd_ne (ne_of_none y free)]
          exact y
        · intro b ps y
          refine ⟨#[], ?_⟩
          rw [upd_ne (at_ne tracked y exo_tbl), upd_ne (ne_of_none y free), y, Array.append_empty]
      case ok =>
        intro b o z
        by_cases at_ : b = e
        · subst at_
          rw [upd_same] at z
          obtain rfl := Option.some.inj z
          exact exo_ok hx
        · rw [upd_ne at_] at z
          by_cases new : b = dx
          · subst new
            rw [upd_same] at z
            obtain rfl := Option.some.inj z
            exact exd_ok hn (relO_put r (relO_put (fs := []) (show RelV (.str y) (.str y ty) from ⟨ty, rfl⟩) fun _ => trivial))
          · rw [upd_ne new] at z
            refine (env.hok b o z).stay (fun c x own look2 => keep c x ?_ look2) (fun c own => ?_) (fun c xs tup => ?_)
            · rcases own with own | own
              · rw [own]
                exact at_
              · exact at_ne tracked own exo_own
            · rw [upd_ne (at_ne tracked own exo_own), upd_ne (ne_of_none own free)]
              exact own
            · rw [upd_ne (at_ne tracked tup exo_tup), upd_ne (ne_of_none tup free)]
              exact tup
    · rw [look] at look'
      cases look'
      exact binds
end
/-- such a class may be raised -/
structure MiOk (P : Program) (w : World) (K : PySem.W.Frag) (mg : Str → Option Value) (base : Heap) (x fld : Str) : Prop where
  ex : ∃ (C fI : Addr) (fd : FuncData), mg x = some (.ref C) ∧ OexC K C ∧ PySem.W.findIn K (.ref C) "__init__" = some (some (.ref fI)) ∧ PySem.W.typeIn K (.ref fI) = some (.type "function") ∧ FnOk P w K mg base CX0 2 fI fd [("self" : Str), fld] (sp_mi C fld) ∧ Binds K fd [("self" : Str), fld] []
theorem pmk_mi {X : Cx} {j : Nat} {x fld : Str} {e : Expr} {ta : TA} {p pos : Pos} (c : MiOk X.prog X.w X.K X.mg X.base x fld) (hr : Room j X.A) (hk : 3 ≤ j) (hg : Gl X x) (ha : PA X [e] ta) (hdb : (x == ("__debug__" : Str)) = false := by decide)
    (he : starEach [e] X.env = (false, eval e X.env) :: starEach [] X.env := by rfl) (hpl : (backTo pos (starEach [] X.env)).any (·.1) = false := by rfl) : PMk X (.Call (.Name x p) [e] [] pos) (tMkO (clsA X.mg x) (sp_mi (clsA X.mg x) fld) [] ta) := by
  obtain ⟨C, fI, fd, at_, oex, ini, typ, fn, binds⟩ := c.ex
  rw [clsA_of at_]
  exact pmk_oex oex ini typ fn (hr.mono hk) binds .nil pass0 hg at_ ha hdb he hpl
theorem mi_go {C : Addr} {fld : Str} {H1 : Hp} {v : V} {z : Str} {Q : XK} (as_ : inText v = some z) (short : z.length ≤ 3000) (big : ∀ i, v = .int i → i.natAbs.log2 < 1920) (go : ∀ d y H2, Same H1 H2 → H2 d = some (.xd [(fld, v), ("word", .str y)]) → Q (.ref C) (some d) H2) :
    [v].length ≤ 1000 ∧ ∀ a, H1 a = none → sp_mi C fld (.ref a :: ([v] ++ [])) (upd H1 a (exo a C none)) (fun v H2 => v = .non ∧ ∃ (d : Addr) (fs : List (Str × V)), H2 a = some (exo a C (some d)) ∧ H2 d = some (exd d fs) ∧ H1 d = none ∧ Q (.ref C) (some d) (upd (del H2 a) d (.xd fs))) (fun _ _ _ => False) := by
  refine ⟨by show 1 ≤ 1000; decide, fun a na => ⟨a, v, z, rfl, as_, short, big, upd_same, fun d y H' nd dne eq => ?_⟩⟩
  rw [upd_ne dne] at nd
  subst eq
  refine ⟨rfl, d, [(fld, v), ("word", .str y)], upd_same, by rw [upd_ne dne, upd_same], nd, go d y _ (fun b o z => ?_) upd_same⟩
  have na2 := ne_of_none z na
  rw [upd_ne (ne_of_none z nd), del_ne na2, upd_ne na2, upd_ne (ne_of_none z nd), upd_ne na2]
  exact z
/-- the facts of such a class, as the top leaves them -/
structure MiK (K : PySem.W.Frag) (mg : Str → Option Value) (D C : Addr) (fld txt : Str) : Prop where
  of : MeOf K D C
  fn : ∃ (fI fM : Addr) (oc ccl cl : Value) (od cdd cld : Option Addr) (osl ccs csl : Array (Option Value)) (qual : Str) (params : Arguments) (q : InitPos) (dV kV doc pm ct : Value) (an : Option Addr) (cda cc : Addr) (vs : Array Value) (tf : Tok) (ar1 : Arg) (pl : Env → Sem Bool),
    K.lookup fI = some ⟨oc, od, .func (PySem.W.fnX "__init__" qual params (initBody fld txt q) (initScope fld) [("__class__", cc)] dV kV doc pm an (.ref cda) ct), osl⟩ ∧ PySem.W.codeIn K (.ref cda) qual = true ∧
    (params.posonlyargs ++ params.args).head? = some ar1 ∧ ar1.arg = "self" ∧ (∀ a b : Value, bindArgs (PySem.W.fnX "__init__" qual params (initBody fld txt q) (initScope fld) [("__class__", cc)] dV kV doc pm an (.ref cda) ct) ⟨[a, b], []⟩ = pure [(("self" : Str), a), (fld, b)]) ∧
    (∀ env : Env, eval (.Call (.Attribute (.Call (.Name "super" q.a) [] [] q.b) "__init__" q.c) [.JoinedStr [.Constant (.str txt) q.n q.d, .FormattedValue (.Name fld q.e) (-1) none q.f] q.g] [] q.h) env = (do
      let ov ← attributeBase (.Call (.Name "super" q.a) [] [] q.b) "__init__" env (eval (.Call (.Name "super" q.a) [] [] q.b) env)
      standAt q.c.atName
      let (f, first) ← holding [ov] (getMethod ov "__init__" (pl env))
      callWith q.h f first (backTo q.h (starEach [.JoinedStr [.Constant (.str txt) q.n q.d, .FormattedValue (.Name fld q.e) (-1) none q.f] q.g] env)) [])) ∧
    K.lookup cda = some ⟨ccl, cdd, .fields vs, ccs⟩ ∧ vs[2]? = some (.str "/claim/cut.py" tf) ∧ K.lookup cc = some ⟨cl, cld, .cell (some (.ref C)), csl⟩ ∧
    PySem.W.findIn K (.ref C) "__init__" = some (some (.ref fI)) ∧ PySem.W.typeIn K (.ref fI) = some (.type "function") ∧
    PySem.W.ks_superIn K C C "__init__" = some (some (.ref fM)) ∧ PySem.W.findIn K (.ref D) "__init__" = some (some (.ref fM)) ∧ PySem.W.fnIn K fM = true
  self_ : PySem.W.mroIn K C (.ref C) = some true
  nof : PySem.W.findIn K (.ref C) fld = some none
theorem MiK.ok {P : Program} {w : World} {K : PySem.W.Frag} {mg : Str → Option Value} {base : Heap} {D : Addr} {x fld txt : Str} (T : MiK K mg D (clsA mg x) fld txt) (M : MeK K mg D) (Z : ProgF P) (at_ : mg x = some (.ref (clsA mg x))) (few : txt.length ≤ 1000 := by decide) (nself : ("self" : Str) ≠ fld := by decide) (nsup : ("super" : Str) ≠ fld := by decide)
    (ncls : ("__class__" : Str) ≠ fld := by decide) (nword : ("word" : Str) ≠ fld := by decide) (ndbg : (fld == ("__debug__" : Str)) = false := by decide) : MiOk P w K mg base x fld := by
  obtain ⟨fM, c, ini, typ⟩ := M.c Z
  obtain ⟨fI, fM2, oc, ccl, cl, od, cdd, cld, osl, ccs, csl, qual, params, q, dV, kV, doc, pm, ct, an, cda, cc, vs, tf, ar1, pl, look, code, hpar, ha1, hbind, hev, hcode, hvs, hcell, hini, htyp, hpar2, hD, hfn⟩ := T.fn
  rw [ini] at hD
  cases hD
  obtain ⟨cdD, hcls⟩ := clsIn_mro T.self_
  have C0 : MiC P K mg (clsA mg x) fI fM fld txt := ⟨⟨oc, ccl, cl, od, cdd, cld, osl, ccs, csl, qual, params, q, dV, kV, doc, pm, ct, an, cda, cc, vs, "/claim/cut.py", tf, cdD, ar1, pl, look, code, hpar, ha1, hbind, hev, hcode, hvs, Z.file, hcell, hcls⟩, Z.top, M.sup, T.self_, hpar2, typ, hfn, T.nof⟩
  obtain ⟨fd, ok, binds⟩ := mi_ok (w := w) (base := base) C0 c T.of few nself nsup ncls nword ndbg
  exact ⟨_, fI, fd, at_, T.of.at_, hini, htyp, ok, binds⟩
end Kt
namespace Kt
open PySem PySem.Spec PyProof.Rows L2
/-! ### dicts compared whose values are the same ones -/
def plainV (v : V) : Prop := flatB v = true ∨ ∃ a, v = .ref a
theorem eqAt_plain {A : Around} {s : Shared} {v : V} {u u' : Value} (r : RelV v u) (r' : RelV v u') (f : plainV v) : SeqAt.EqAt A s u u' true := by
  rcases f with f | ⟨a, rfl⟩
  · exact eqAt_same r r' f
  · obtain rfl : u = Value.ref a := r
    obtain rfl : u' = Value.ref a := r'
    exact SeqAt.EqAt.same _
theorem hits_plain {A : Around} {s : Shared} {ls : List (Key × V)} {vb : List (Key × Value)} (there : KV ls vb) : ∀ {ks : List (Key × V)} {va : List (Key × Value)}, KV ks va → (∀ p ∈ ks, valV ls p.1 = some p.2 ∧ plainV p.2) → PySem.W.KeqHits A s vb va true
  | _, _, .nil, _ => .nil
  | (k, x) :: ks, (k', v) :: va, .cons h more, all => by
    obtain ⟨e, f⟩ := all (k, x) (List.mem_cons_self ..)
    obtain ⟨y, hy, ry⟩ := RelO.some_of (v := x) (o := valueAt vb k) (by have := there.val k; rw [e] at this; exact this)
    have ek : k = k' := h.1
    subst ek
    have := PySem.W.KeqHits.hit hy (eqAt_plain (A := A) (s := s) h.2 ry f) (hits_plain there more fun p hp => all p (List.mem_cons_of_mem _ hp))
    rw [Bool.and_self] at this
    exact this
def rNeDk : R2 := fun x y H Q => ∃ (a b : Addr) (ks ls : List (Key × V)), x = .ref a ∧ y = .ref b ∧ H a = some (.dK ks) ∧ H b = some (.dK ls) ∧ (ks.length = ls.length → ∀ p ∈ ks, valV ls p.1 = some p.2 ∧ plainV p.2) ∧ Q (.bl (!decide (ks.length = ls.length))) H
theorem op_neDk {X : Cx} (room : X.A.units < cLine) : OpR X (compareOp .NotEq) rNeDk := by
  intro pins s σ H x y v u Q inv rx ry told
  obtain ⟨a, b, ks, ls, rfl, rfl, ea, eb, all, q⟩ := told
  obtain rfl : v = Value.ref a := rx
  obtain rfl : u = Value.ref b := ry
  obtain ⟨_, ya, va, ra, da⟩ := (show ObjOk X.prog X.w H s.heap a (.dK ks) from inv.hok a _ ea)
  obtain ⟨_, yb, vb, rb, db⟩ := (show ObjOk X.prog X.w H s.heap b (.dK ls) from inv.hok b _ eb)
  have la := ra.length
  have lb := rb.length
  refine PySem.W.keq_ne (knd := mixKind X.prog X.w) (r := true) ya yb da db room (fun e => hits_plain rb ra (all (by omega))) (fin_bl inv q ?_)
  rw [Bool.and_true, la, lb]
  by_cases e : va.length = vb.length
  · rw [decide_eq_true e, beq_iff_eq.mpr e]
  · rw [decide_eq_false e, beq_eq_false_iff_ne.mpr e]
/-! ### f(b = .., a = ..) of a def that may raise -/
structure ClSX (P : Program) (w : World) (K : PySem.W.Frag) (mg : Str → Option Value) (base : Heap) (k : Nat) (x a b : Str) (sp : Sp) : Prop where
  ex : ∃ (f : Addr) (fd : FuncData), FnOk P w K mg base (L2.CX P w) k f fd [a, b] sp ∧ mg x = some (.ref f) ∧ PySem.W.keepIn K (.ref f) = true ∧ ∀ (s : Shared) (u v : Value), BindsTo s fd ⟨[], [(b, v), (a, u)]⟩ [(a, u), (b, v)]
def tCKx (sp : Sp) (E : L2.St → XK) (tk : TA) : TE := fun σ H Q => tk σ H fun zs H2 => ∃ v u, zs = [v, u] ∧ sp [u, v] H2 Q (E σ)
theorem pe_clSwX {X : Cx} {k j : Nat} {x a b : Str} {sp : Sp} {p pos : Pos} {kws : List Keyword} {tk : TA} {E : L2.St → XK} (cl : ClSX X.prog X.w X.K X.mg X.base k x a b sp) (hr : Room j X.A) (hk : k ≤ j) (hg : Gl X x) (hx : ∀ σ, PassesAt (L2.CX X.prog X.w) X σ (E σ)) (hkw : PK X kws tk)
    (named : (backToKw pos (keywordEach kws X.env)).all (·.1.isSome) = true := by rfl) (names : (backToKw pos (keywordEach kws X.env)).filterMap (·.1) = [b, a] := by rfl) (nodb : (x == ("__debug__" : Str)) = false := by decide)
    (plain : ((backTo pos (starEach [] X.env)).any (·.1) || (backToKw pos (keywordEach kws X.env)).any (·.1.isNone)) = false := by rfl) : PE X (.Call (.Name x p) [] kws pos) (tCKx sp E tk) := by
  obtain ⟨f, fd, ok, at_, kp, binds⟩ := cl.ex
  constructor
  intro pins s σ H Q inv told
  apply wpAny_Call_Name_kw (ld_glob inv hg at_ ?_ nodb)
  apply PySem.W.callWith_KW0 (h₀ := X.base) inv.ok.mod.kin kp named ?_ plain
  refine thn (hkw.run pos pins s σ H _ inv told) fun ws s2 ⟨zs, H2, inv2, rel, v, u, e, q2⟩ => ⟨inv2.kIn, ?_⟩
  subst e
  rw [names]
  obtain ⟨wv, wu, rfl, rv, ru⟩ := vals2 rel
  refine wpAny_call (codeAny_mono (ok.run X.A X.stack s2 H2 ⟨[], [(b, wv), (a, wu)]⟩ [wu, wv] [u, v] Q (E σ) (hr.mono hk) inv2.env0 (binds s2 wu wv) (.cons ru (.cons rv .nil)) q2) fun out s' done => ?_)
  match out, done with
  | .error e, done => exact hx σ pins H2 s2 e s' inv2 done
  | .ok (.ret _), done => exact inv2.after done
  | .ok .next, done => exact done.elim
  | .ok .brk, done => exact done.elim
  | .ok .cont, done => exact done.elim
end Kt
namespace Kt
open PySem PySem.Spec PyProof.Rows L2
/-! ### enumerate(a text) -/
/-- its signs by number, each in a pair of its own -/
def Itse (x : Str) : It :=
  ⟨fun i _ => i < x.cps.size, fun i H v H' => ∃ T c, v = .ref T ∧ H T = none ∧ H' = upd H T (.tup [.int (i : Nat), .str ⟨#[c]⟩]) ∧ x.cps[i]? = some c, fun i _ => x.cps.size ≤ i⟩
def EnS (x : Str) (t : Tok) (ty : String) (e it : Addr) (i : Nat) (h : Heap) : Prop := (∃ old, IsEnum h e it ((i : Nat) : Int) old) ∧ h.IsStrIter it ty x t i ∧ e ≠ it ∧ i ≤ x.cps.size
theorem turn_enumS {P : Program} {w : World} {K : PySem.W.Frag} {elts : List Expr} {kk : Nat} {tpos : Pos} {x : Str} {t : Tok} {ty : String} {e it : Addr}
    (D : ∀ A : Around, A.handled = none → Draws P w A it [it] x.cps.size (fun i v => ∃ c u, x.cps[i]? = some c ∧ v = .str ⟨#[c]⟩ u) (fun i h => h.IsStrIter it ty x t i)) :
    Turn P w K (.Tuple elts kk tpos) (Itse x) [e, it] e (EnS x t ty e it) := by
  have two : ∀ {b : Addr}, b ∈ [e, it] → b = e ∨ b = it := fun {b} h => by simpa using h
  refine ⟨by simp, fun i h st b hb => ?_, fun i h h' st k => ?_, ?_, ?_, fun A i s Q E st h => ?_⟩
  · obtain ⟨⟨old, he⟩, ⟨o, ho, r⟩, _⟩ := st
    rcases two hb with rfl | rfl
    · exact ⟨_, he, fun v q => nomatch q⟩
    · refine ⟨o, ho, fun v q => ?_⟩
      rw [r.2] at q
      cases q
  · obtain ⟨⟨old, he⟩, hi, hne, hle⟩ := st
    obtain ⟨o, ho, r⟩ := hi
    exact ⟨⟨old, k e (by simp) _ he⟩, ⟨o, k it (by simp) o ho, r⟩, hne, hle⟩
  · intro X hP hw hK hc i pins s σ H E I hf st hg
    subst hP hw hK
    obtain ⟨⟨old, he⟩, hit, hne, hle⟩ := st
    have lt : i < x.cps.size := hg
    have el : e < s.heap.objs.size := Heap.lt_size he
    have il : it < s.heap.objs.size := by
      obtain ⟨_, q, _⟩ := hit
      exact Heap.lt_size q
    refine wpAny_pyNext_enum_itemD (D X.A.in1 (I.ok.hd hc)) he hit lt hne (fun q => hne (List.mem_singleton.mp q)) fun u h' tk pu he' hit' hT hsz hk => ?_
    obtain ⟨c, tu, hcx, rfl⟩ := pu
    refine ⟨_, rfl, wpAny_letOwnedTupleGo_enum (s := { s with heap := h', toks := tk + 1 }) he' fun h2 he2 sb => ?_⟩
    have hT2 : h2.get? s.heap.objs.size = some { cls := .type "tuple", data := .seq #[.int i tk, .str ⟨#[c]⟩ tu] } := (sb.2 _ (Nat.ne_of_gt el)).trans hT
    have made : ObjOk X.prog X.w (upd H s.heap.objs.size (.tup [.int (i : Nat), .str ⟨#[c]⟩])) h2 s.heap.objs.size (.tup [.int (i : Nat), .str ⟨#[c]⟩]) :=
      ⟨by show 2 ≤ sizeLine; decide, [.int i tk, .str ⟨#[c]⟩ tu], .cons ⟨_, rfl⟩ (.cons ⟨_, rfl⟩ .nil), ⟨_, hT2, rfl, _, rfl⟩⟩
    have I2 : Inv X pins σ (upd H s.heap.objs.size (.tup [.int (i : Nat), .str ⟨#[c]⟩])) { s with heap := h2, toks := tk + 1 } :=
      I.turnedNew (ch := [e, it]) (fun b ob hb q => (sb.2 b (fun z => hb (by rw [z]; simp))).trans (hk b ob (fun z => hb (by rw [z]; simp)) (fun z => hb (by rw [z]; simp)) q)) hf (Nat.le_refl _) made
    refine ⟨.ref s.heap.objs.size, _, I2, rfl, ⟨_, c, rfl, I.hok.fresh (Nat.le_refl _), rfl, hcx⟩, ⟨⟨_, he2⟩, ?_, hne, lt⟩, fun b hb => ?_⟩
    · obtain ⟨o, ho, r⟩ := hit'
      exact ⟨o, (sb.2 it hne.symm).trans ho, r⟩
    · have lb : b < s.heap.objs.size := by
        rcases two hb with rfl | rfl
        · exact el
        · exact il
      rw [upd_ne (Nat.ne_of_lt lb)]
      exact (hf b hb).1
  · intro X hP hw hK hc i pins s σ H E I hf st hg
    subst hP hw hK
    obtain ⟨⟨old, he⟩, hit, hne, hle⟩ := st
    have ei : i = x.cps.size := Nat.le_antisymm hle hg
    subst ei
    obtain ⟨f0, f1, f2, f3, f4, f5⟩ := hf it (by simp)
    exact wpAny_pyNext_enum_endD (D X.A.in1 (I.ok.hd hc)) he hit fun h' eb => ⟨rfl, I.turned (t' := s.toks) (fun b o hb q => eb b o hb q) f0 f1 f3 f4 f5⟩
  · obtain ⟨⟨_, he⟩, _⟩ := st
    exact wpAny_pyIter_enum he h
def iEnumS (ta : TA) : TI := fun σ H R => ta σ H fun vs H1 => ∃ x, vs = [.str x] ∧ R (Itse x) H1
theorem pi_enumS {X : Cx} {e : Expr} {ta : TA} {p pos tpos : Pos} {elts : List Expr} {kk : Nat} (hg : Gl X "enumerate") (hm : X.mg "enumerate" = none) (ha : PA X [e] ta) (hs : starEach [e] X.env = [(false, eval e X.env)] := by rfl) :
    PI X (.Tuple elts kk tpos) (.Call (.Name "enumerate" p) [e] [] pos) (iEnumS ta) := by
  constructor
  intro pins s σ H R I told
  refine Call_ (ld_blt I hg hm boot_enumerate (PyProof.Rows.callWith_type1 (thn (ha.run pos pins s σ H _ I told) fun us s1 ⟨vs, H1, I1, r1, x, ex, q⟩ => ?_) hs rfl))
  subst ex
  obtain ⟨u, rfl, t, rfl⟩ := vals1 r1
  refine call_enumerate_str fun h' he hit hsz hk => wpAny_pyIter_enum he ?_
  have I2 : Inv X pins σ H1 { s1 with heap := h' } := I1.kept (t' := s1.toks) hk
  have fine : ∀ b ∈ [s1.heap.objs.size + 1, s1.heap.objs.size], FpOk X pins H1 b := fun b hb => by
    have : b = s1.heap.objs.size + 1 ∨ b = s1.heap.objs.size := by simpa using hb
    have le : s1.heap.objs.size ≤ b := by omega
    exact I1.fpOk le (I1.hok.fresh le)
  have st : EnS x t (strIterType x) (s1.heap.objs.size + 1) s1.heap.objs.size 0 h' := ⟨⟨.none, he⟩, hit, Nat.succ_ne_self _, Nat.zero_le _⟩
  refine ⟨s1.heap.objs.size + 1, [s1.heap.objs.size + 1, s1.heap.objs.size], _, Itse x, H1, rfl, I2, turn_enumS (ty := strIterType x) (t := t) fun A hh => ?_, st, fine, q⟩
  unfold strIterType
  by_cases low : x.cps.all (· < 128) = true
  · rw [if_pos low]
    exact Draws.strAscii hh _ x t
  · rw [if_neg low]
    exact Draws.strWide hh _ x t
theorem walk_enumS {x : Str} : Walk (Itse x) x.cps.size (fun _ => True) (fun i H v H' => ∃ T c, v = .ref T ∧ H T = none ∧ H' = upd H T (.tup [.int (i : Nat), .str ⟨#[c]⟩]) ∧ x.cps[i]? = some c) :=
  ⟨fun _ _ hi _ => hi, fun _ _ => Nat.le_refl _, fun _ _ _ _ _ _ y => y⟩
/-! ### isinstance(e, (c1, c2)) of a kept error that has a field -/
def rIsKdT (K : PySem.W.Frag) : List V → Hp → VK → Prop := fun args H Q => ∃ (a D dd p : Addr) (fs : List (Str × V)) (c1 c2 : Addr) (b : Bool), args = [.ref a, .ref p] ∧ ExcC K D ∧ H a = some (ExK (.ref D) (some dd) a) ∧ H dd = some (.xd fs) ∧ H p = some (.tup [.ref c1, .ref c2]) ∧ PySem.W.kitAny K (.ref D) [.ref c1, .ref c2] = some b ∧ Q (.bl b) H
theorem call_isKdT {X : Cx} : CallR X (.builtin "isinstance") (rIsKdT X.K) := by
  intro pl sh st hp args vals Q inv rel told
  obtain ⟨a, D, dd, p, fs, c1, c2, b, rfl, fit, kept, dict, pair, is_, q⟩ := told
  obtain ⟨a2, p2, rfl, ra, rp⟩ := vals2 rel
  obtain rfl : a2 = Value.ref a := ra
  obtain rfl : p2 = Value.ref p := rp
  obtain ⟨⟨_, _, dat, _⟩, fl, there, ⟨isD, hasDict⟩, flds⟩ := (inv.hok a _ kept).1
  dsimp only at isD hasDict flds
  subst isD hasDict flds
  obtain ⟨mA, ⟨od, es, ep, ho, _⟩, _⟩ := (show ObjOk X.prog X.w hp sh.heap dd (.xd fs) from inv.hok dd _ dict)
  obtain ⟨its, rv, ⟨⟨cls, ddx, data, sl⟩, hto, hc, n, hd⟩, _⟩ := inv.tuple (SqT.of pair)
  dsimp only at hc hd
  subst hc hd
  obtain ⟨x1, x2, rfl, r1, r2⟩ := vals2 rv
  obtain rfl : x1 = Value.ref c1 := r1
  obtain rfl : x2 = Value.ref c2 := r2
  have known : (PySem.W.clsIn X.K D).isSome = true := by
    have := fit.hm
    unfold PySem.W.mroIn at this
    match z : PySem.W.clsIn X.K D with
    | some _ => rfl
    | none =>
      rw [z] at this
      cases this
  refine PySem.W.kia_tup (PySem.W.kitx_exc (od := some od) known fit.hg fit.hk fit.hs fit.ha fit.hn fit.ht fit.hm) inv.kIn ⟨there, rfl, rfl, ho⟩ hto is_ (fun z => by cases z) fun toks => ?_
  exact ⟨.bl b, hp, inv.kept (t' := toks) fun _ _ g => g, rfl, q⟩
theorem kit_none2 {K : PySem.W.Frag} {t u1 u2 : Value} (h1 : PySem.W.kitOne K t u1 = some false) (h2 : PySem.W.kitOne K t u2 = some false) : PySem.W.kitAny K t [u1, u2] = some false := by
  unfold PySem.W.kitAny
  rw [h1]
  unfold PySem.W.kitAny
  rw [h2]
  rfl
end Kt
namespace Kt
open PySem PySem.Spec PyProof.Rows L2
/-! ### a token is out: what gives one, and s.replace(y, z) of written texts behind it -/
theorem keep1 {α : Type} {M : Model} {A : Around} {t : Sem α} {Q : α → Shared → Prop} {E : Value → Shared → Prop} {s : Shared} (out : 1 ≤ s.toks) (h : wpAny M A t Q E s) : wpAny M A t (fun a s' => 1 ≤ s'.toks ∧ Q a s') E s :=
  wpAny_mono (PySem.wpAny_toks_of out h) (fun _ _ q => q) fun _ _ q => q.2
section
variable {X : Cx}
def PEg (X : Cx) (e : Expr) (t : TE) : Prop := ∀ (pins : List (Addr × Obj)) (s : Shared) (σ : L2.St) (H : Hp) (Q : VK), Inv X pins σ H s → t σ H Q → wpAny (model X.prog X.w) X.A (eval e X.env) (fun v s1 => 1 ≤ s1.toks ∧ EP X pins σ Q v s1) X.xe s
def PAg (X : Cx) (es : List Expr) (t : TA) : Prop := ∀ (pos : Pos) (pins : List (Addr × Obj)) (s : Shared) (σ : L2.St) (H : Hp) (Q : List V → Hp → Prop), Inv X pins σ H s → t σ H Q → wpAny (model X.prog X.w) X.A (spliced (backTo pos (starEach es X.env))) (fun us s1 => 1 ≤ s1.toks ∧ AP X pins σ Q us s1) X.xe s
theorem peg_int {i : Int} {j : Nat} {pos : Pos} : PEg X (.Constant (.int i) j pos) (tC (.int i)) := fun _ s _ H _ inv q => wpAny_Constant_int ⟨Nat.succ_le_succ (Nat.zero_le s.toks), .int i, H, inv.tok _, ⟨_, rfl⟩, q⟩
theorem pag_head {e : Expr} {es : List Expr} {te : TE} {ta : TA} (he : PEg X e te) (hr : PA X es ta) (st : starEach (e :: es) X.env = (false, eval e X.env) :: starEach es X.env := by rfl) : PAg X (e :: es) (tCons te ta) := by
  intro pos pins s σ H Q inv told
  rw [st]
  change wpAny _ _ (spliced ((false, eval e X.env) :: backTo pos (starEach es X.env))) _ _ s
  refine Calls.spliced_cons (thn (he pins s σ H _ inv told) fun v s1 got => ?_)
  obtain ⟨out, x, H1, inv1, rel, q1⟩ := got
  refine thn (keep1 out (hr.run pos pins s1 σ H1 _ inv1 q1)) fun us s2 got2 => ?_
  obtain ⟨out2, xs, H2, inv2, rels, q2⟩ := got2
  exact ⟨out2, x :: xs, H2, inv2, .cons rel rels, q2⟩
theorem pag_skip {e : Expr} {es : List Expr} {te : TE} {ta : TA} (he : PE X e te) (hr : PAg X es ta) (st : starEach (e :: es) X.env = (false, eval e X.env) :: starEach es X.env := by rfl) : PAg X (e :: es) (tCons te ta) := by
  intro pos pins s σ H Q inv told
  rw [st]
  change wpAny _ _ (spliced ((false, eval e X.env) :: backTo pos (starEach es X.env))) _ _ s
  refine Calls.spliced_cons (thn (he.run pins s σ H _ inv told) fun v s1 got => ?_)
  obtain ⟨x, H1, inv1, rel, q1⟩ := got
  refine thn (hr pos pins s1 σ H1 _ inv1 q1) fun us s2 got2 => ?_
  obtain ⟨out2, xs, H2, inv2, rels, q2⟩ := got2
  exact ⟨out2, x :: xs, H2, inv2, .cons rel rels, q2⟩
theorem peg_bin {a b : Expr} {ta tb : TE} {pos : Pos} {op : Operator} {r : R2} (ho : OpR X (binaryOp op) r) (ha : PEg X a ta) (hb : PE X b tb) : PEg X (.BinOp a op b pos) (tOp r ta tb) := by
  intro pins s σ H Q inv told
  refine wpAny_BinOp (thn (ha pins s σ H _ inv told) fun v s1 got => ?_)
  obtain ⟨out, x, H1, inv1, rx, q1⟩ := got
  refine thn (keep1 out (hb.run pins s1 σ H1 _ inv1 q1)) fun u s2 got2 => ?_
  obtain ⟨out2, y, H2, inv2, ry, q2⟩ := got2
  exact keep1 out2 (ho pins s2 σ H2 x y v u Q inv2 rx ry q2)
theorem peg_cl {k j : Nat} {x : Str} {ps : List Str} {sp : Sp} {p pos : Pos} {e : Expr} {es : List Expr} {t : TA} (c : Cl X.prog X.w X.K X.mg X.base CX0 k x ps sp) (hr : Room j X.A) (hk : k ≤ j) (hg : Gl X x) (ha : PAg X (e :: es) t)
    (hdb : (x == ("__debug__" : Str)) = false := by decide) (he : starEach (e :: es) X.env = (false, eval e X.env) :: starEach es X.env := by rfl) (hpl : (backTo pos (starEach es X.env)).any (·.1) = false := by rfl) :
    PEg X (.Call (.Name x p) (e :: es) [] pos) (tC0 sp E0 t) := by
  obtain ⟨f, fd, F, hm, kp, b, _⟩ := c.ex
  intro pins s σ H Q inv told
  apply wpAny_Call_Name_kw (ld_glob inv hg hm ?_ hdb)
  refine PySem.W.callWith_K (h₀ := X.base) inv.ok.mod.kin kp (thn (ha pos pins s σ H _ inv told) fun us s1 got => ?_) he hpl
  obtain ⟨out, vs, H1, inv1, rel, q1⟩ := got
  have q2 : sp (vs ++ []) H1 Q E0 := by
    rw [List.append_nil]
    exact q1
  exact ⟨inv1.kIn, keep1 out (run_fn F (hr.mono hk) b .nil pass0 inv1 rel q2)⟩
/-- a name set, a token given -/
theorem pssg_set {i : Nat} {x : Str} {e : Expr} {te : TE} {pos' pos : Pos} {rest : List Stmt} {u : TS} (hN : X.N.Nodup) (hi : X.N[i]? = some x) (hx : Loc X.env.scope x) (he : PEg X e te) (h2 : PSsT X rest u) (hs : swapsWith e (some (.Name x pos')) pos.line X.env = pure false := by rfl)
    (hf : X.fn x = true ∨ X.env.scope.names.lookup x = some .local := by first | exact .inl rfl | exact .inr rfl | assumption) : PSs X (.Assign [.Name x pos'] e pos :: rest) (tSeq (tAsg te (gName i)) u) := by
  constructor
  intro pins s σ H D inv told
  refine wpAny_execs_cons (wpAny_Assign_Name (thn (he pins s σ H _ inv told) fun v s1 got => ?_) hs)
  obtain ⟨out, y, H1, inv1, rel, q1⟩ := got
  refine thn (keep1 out (store_ok (Q := fun _ s2 => Inv X pins (σ.set i (some y)) H1 s2) inv1 hN hi hx rel (fun _ i2 => i2) hf)) fun _ s2 got2 => ?_
  exact h2 pins s2 _ H1 D got2.1 got2.2 q1
/-- targets set, a token given -/
theorem pssg_asg {tg e : Expr} {te : TE} {g : TG} {pos : Pos} {rest : List Stmt} {u : TS} (he : PEg X e te) (hg : PG X tg g) (h2 : PSsT X rest u) (hs : swapsWithSole [tg] e pos.line X.env = pure false := by rfl) (hw : swappedStores [tg] e X.env = pure none := by rfl)
    (h1 : (assignEach [tg] X.env).map (·.2) = [assign tg X.env] := by rfl) : PSs X (.Assign [tg] e pos :: rest) (tSeq (tAsg te g) u) := by
  constructor
  intro pins s σ H D inv told
  refine wpAny_execs_cons (wpAny_Assign_stores (thn (he pins s σ H _ inv told) fun v s1 got => ?_) hs hw)
  obtain ⟨out, y, H1, inv1, rel, q1⟩ := got
  rw [h1]
  refine thn (keep1 out (hg.run pins s1 σ H1 y v _ inv1 rel q1)) fun _ s2 got2 => ?_
  obtain ⟨out2, σ2, H2, inv2, q2⟩ := got2
  exact h2 pins s2 σ2 H2 D out2 inv2 q2
theorem peg_tup {es : List Expr} {ta : TA} {k : Nat} {pos : Pos} (h : PAg X es ta) : PEg X (.Tuple es k pos) (tTup ta) := by
  intro pins s σ H Q inv told
  refine Tuple_ (thn (h _ pins s σ H _ inv told) fun us s1 got => ?_)
  obtain ⟨out, xs, H1, inv1, rel, z, q1⟩ := got
  have free := inv1.hok.fresh (Nat.le_refl s1.heap.objs.size)
  refine wpAny_newObj_type ?_ (by show us.length ≤ sizeLine; rw [← rel.length]; exact z)
  refine ⟨out, .ref s1.heap.objs.size, upd H1 s1.heap.objs.size (.tup xs), inv1.laid (t' := s1.toks) (fun b o q => Heap.get?_push_of_some _ q) (Nat.le_refl _) ?_, rfl, q1 _ free⟩
  exact ⟨z, us, rel, _, Heap.get?_push_size _ rfl, rfl, 0, rfl⟩
/-! what is said where a token is out -/
theorem pet_of {e : Expr} {t : TE} (h : PE X e t) : PET X e t := fun pins s σ H Q _ inv told => h.run pins s σ H Q inv told
def tRp (y z : Str) (to : TE) : TE := fun σ H Q => to σ H fun v H1 => ∃ x, v = .str x ∧ x.length + (x.length + 1) * z.length ≤ 16777216 ∧ Q (.str (Txt.replace x y z)) H1
theorem pet_rep {o : Expr} {to : TE} {y z : Str} {j0 j1 : Nat} {c0 c1 apos pos : Pos} (ho : PET X o to) (differ : (y == z) = false)
    (st : starEach [.Constant (.str y) j0 c0, .Constant (.str z) j1 c1] X.env = [(false, eval (.Constant (.str y) j0 c0) X.env), (false, eval (.Constant (.str z) j1 c1) X.env)] := by rfl)
    (base_ : attributeBase o "replace" X.env (eval o X.env) = eval o X.env := by rfl) (one : (apos.endLine == pos.line) = true := by rfl) : PET X (.Call (.Attribute o "replace" apos) [.Constant (.str y) j0 c0, .Constant (.str z) j1 c1] [] pos) (tRp y z to) := by
  intro pins s σ H Q out inv told
  refine PySem.Call_method2 base_ st one (thn (keep1 out (ho pins s σ H _ out inv told)) fun v s1 got => ?_)
  obtain ⟨out1, v', H1, inv1, rel, x, rfl, fits, q⟩ := got
  obtain ⟨t, rfl⟩ := rel
  refine ⟨"str", _, F.plainAttrs_str, F.slot_str_replace, F.type_str_replace, typeIs_str _ _ _, (fun _ e => nomatch e), Calls.callWith_builtin rfl (Calls.evalArgs_plain (Calls.spliced_cons (Calls.Constant_str (Calls.spliced_cons (Calls.Constant_str (Calls.spliced_nil ?_))))))⟩
  have a1 : s1.toks ≠ 0 := Nat.ne_of_gt out1
  exact PySem.SC.replace a1 (Nat.succ_ne_zero _) (Nat.ne_of_lt (Nat.lt_succ_self _)) differ fits fun t' k => ⟨.str (Txt.replace x y z), H1, inv1.tok k, ⟨t', rfl⟩, q⟩
theorem pet_sp {o e : Expr} {to te : TE} {apos pos : Pos} (ho : PET X o to) (he : PE X e te) (st : starEach [e] X.env = [(false, eval e X.env)] := by rfl) (base_ : attributeBase o "split" X.env (eval o X.env) = eval o X.env := by rfl) (one : (apos.endLine == pos.line) = true := by rfl) :
    PET X (.Call (.Attribute o "split" apos) [e] [] pos) (tM1 (fun x xs H Q => ∃ a b, x = .str a ∧ xs = [.str b] ∧ (b.length == 0) = false ∧ a.length + 2 ≤ sizeLine ∧ rNewStrs (Txt.split a b) H Q) to te) := by
  intro pins s σ H Q out inv told
  refine PySem.Call_method1 base_ st one (thn (ho pins s σ H _ out inv told) fun v s1 got => ?_)
  obtain ⟨v', H1, inv1, rel, ⟨a, rfl⟩, q⟩ := got
  have rel0 := rel
  obtain ⟨t, rfl⟩ := rel
  refine ⟨"str", _, F.plainAttrs_str, F.slot_str_split, F.type_str_split, typeIs_str _ _ _, (fun _ e => nomatch e), Calls.callWith_builtin rfl (Calls.evalArgs_plain (Calls.spliced_cons ?_))⟩
  refine thn (he.run pins s1 σ H1 _ inv1 q) fun u s2 got2 => Calls.spliced_nil ?_
  obtain ⟨y, H2, inv2, r2, q2⟩ := got2
  exact mt_split pins s2 σ H2 _ [y] _ [u] Q inv2 rel0 (.cons r2 .nil) q2
theorem pst_set {i : Nat} {x : Str} {e : Expr} {te : TE} {pos' pos : Pos} (hN : X.N.Nodup) (hi : X.N[i]? = some x) (hx : Loc X.env.scope x) (he : PET X e te) (hs : swapsWith e (some (.Name x pos')) pos.line X.env = pure false := by rfl)
    (hf : X.fn x = true ∨ X.env.scope.names.lookup x = some .local := by first | exact .inl rfl | exact .inr rfl | assumption) : PST X (.Assign [.Name x pos'] e pos) (tAsg te (gName i)) := by
  intro pins s σ H D out inv told
  refine wpAny_Assign_Name (thn (he pins s σ H _ out inv told) fun v s1 got => ?_) hs
  obtain ⟨y, H1, inv1, rel, q1⟩ := got
  exact store_ok inv1 hN hi hx rel (fun s2 i2 => ⟨_, H1, i2, q1⟩) hf
def PTT (X : Cx) (e : Expr) (t : TT) : Prop := ∀ (pins : List (Addr × Obj)) (s : Shared) (σ : L2.St) (H : Hp) (Q : Bool → Hp → Prop), 1 ≤ s.toks → Inv X pins σ H s → t σ H Q → wpAny (model X.prog X.w) X.A (isTrue e X.env (eval e X.env)) (TP X pins σ Q) X.xe s
theorem ptt_cmpR {a b : Expr} {ta tb : TE} {pos : Pos} {op : CmpOp} {r : R2} (ho : OpR X (compareOp op) r) (ha : PE X a ta) (hb : PET X b tb) (hm : behindInMarks op b = false) : PTT X (.Compare a [op] [b] pos) (tTest (tOp r ta tb)) := by
  intro pins s σ H Q out inv told
  refine wpAny_isTrue_Compare1 (thn (keep1 out (ha.run pins s σ H _ inv told)) fun v s1 got => ?_) hm
  obtain ⟨out1, x, H1, inv1, rx, q1⟩ := got
  refine thn (hb pins s1 σ H1 _ out1 inv1 q1) fun u s2 got2 => ?_
  obtain ⟨y, H2, inv2, ry, q2⟩ := got2
  refine thn (ho pins s2 σ H2 x y v u _ inv2 rx ry q2) fun c s3 got3 => ?_
  obtain ⟨z, H3, inv3, rz, k, rfl, q3⟩ := got3
  cases rz
  exact wpAny_truthy_bool ⟨H3, inv3, q3⟩
theorem ptt_and2 {a b : Expr} {ta tb : TT} {pos : Pos} (ha : PT X a ta) (hb : PTT X b tb) : PTT X (.BoolOp .And [a, b] pos) (tAnd ta tb) := by
  intro pins s σ H Q out inv told
  refine isTrue_and (thn (keep1 out (ha.run pins s σ H _ inv told)) fun c s1 got => ?_)
  obtain ⟨out1, H1, inv1, q1⟩ := got
  cases c with
  | false => exact ⟨H1, inv1, q1⟩
  | true =>
    refine isTrue_and (thn (hb pins s1 σ H1 Q out1 inv1 q1) fun c s2 got2 => ?_)
    cases c with
    | true => exact isTrue_and_nil got2
    | false => exact got2
theorem pst_if {c : Expr} {a b : List Stmt} {tc : TT} {t u : TS} {pos : Pos} (hc : PTT X c tc) (ha : PSs X a t) (hb : PSs X b u) : PST X (.If c a b pos) (tIfS tc t u) := by
  intro pins s σ H D out inv told
  refine wpAny_If (thn (hc pins s σ H _ out inv told) fun d s1 got => ?_)
  obtain ⟨H1, inv1, q1⟩ := got
  cases d with
  | true => exact ha.run pins s1 σ H1 D inv1 q1
  | false => exact hb.run pins s1 σ H1 D inv1 q1
end
end Kt
namespace Kt
open PySem PySem.Spec PyProof.Rows L2
def topS (i : Nat) : Stmt := PySem.Challenge.pw_likematch_k05_texts_read_or_refused.main.body.getD i (.Pass ⟨0, 0, 0, 0⟩)
abbrev s_is_word : Stmt := topS 12
theorem sc_is_word : FnScope ["thing", "most", "sign"] ["thing", "most"] (defScope s_is_word) := ⟨rfl, rfl, rfl, by decide +kernel, rfl, by decide +kernel, by decide +kernel⟩
abbrev s_is_name : Stmt := topS 13
theorem sc_is_name : FnScope ["thing"] ["thing"] (defScope s_is_name) := ⟨rfl, rfl, rfl, by decide +kernel, rfl, by decide +kernel, by decide +kernel⟩
abbrev s_is_hole : Stmt := topS 14
theorem sc_is_hole : FnScope ["thing"] ["thing"] (defScope s_is_hole) := ⟨rfl, rfl, rfl, by decide +kernel, rfl, by decide +kernel, by decide +kernel⟩
abbrev s_size_within : Stmt := topS 15
theorem sc_size_within : FnScope ["thing", "holes", "deep", "size", "part", "more"] ["thing", "holes", "deep"] (defScope s_size_within) := ⟨rfl, rfl, rfl, by decide +kernel, rfl, by decide +kernel, by decide +kernel⟩
abbrev s_is_pattern : Stmt := topS 16
theorem sc_is_pattern : FnScope ["thing"] ["thing"] (defScope s_is_pattern) := ⟨rfl, rfl, rfl, by decide +kernel, rfl, by decide +kernel, by decide +kernel⟩
abbrev s_behind_blanks : Stmt := topS 18
theorem sc_behind_blanks : FnScope ["text", "at"] ["text", "at"] (defScope s_behind_blanks) := ⟨rfl, rfl, rfl, by decide +kernel, rfl, by decide +kernel, by decide +kernel⟩
abbrev s_word_at : Stmt := topS 19
theorem sc_word_at : FnScope ["text", "at", "begin", "most", "end"] ["text", "at"] (defScope s_word_at) := ⟨rfl, rfl, rfl, by decide +kernel, rfl, by decide +kernel, by decide +kernel⟩
abbrev s_closed : Stmt := topS 20
theorem sc_closed : FnScope ["text", "at", "rows", "whole"] ["text", "at", "rows", "whole"] (defScope s_closed) := ⟨rfl, rfl, rfl, by decide +kernel, rfl, by decide +kernel, by decide +kernel⟩
abbrev s_read_whole : Stmt := topS 21
theorem sc_read_whole : FnScope ["text", "rows", "at", "word", "is_head", "whole"] ["text"] (defScope s_read_whole) := ⟨rfl, rfl, rfl, by decide +kernel, rfl, by decide +kernel, by decide +kernel⟩
abbrev s_read_pattern : Stmt := topS 22
theorem sc_read_pattern : FnScope ["text", "pattern"] ["text"] (defScope s_read_pattern) := ⟨rfl, rfl, rfl, by decide +kernel, rfl, by decide +kernel, by decide +kernel⟩
abbrev s__law_begin : Stmt := topS 24
theorem sc__law_begin : FnScope ["_law_script", "_law_cells", "_law_cell"] ["_law_script"] (defScope s__law_begin) := ⟨rfl, rfl, rfl, by decide +kernel, rfl, by decide +kernel, by decide +kernel⟩
abbrev s__law_take : Stmt := topS 25
theorem sc__law_take : FnScope ["_law_draw", "_law_size", "_law_cells", "_law_at", "_law_cell"] ["_law_draw", "_law_size"] (defScope s__law_take) := ⟨rfl, rfl, rfl, by decide +kernel, rfl, by decide +kernel, by decide +kernel⟩
abbrev s__law_pick : Stmt := topS 26
theorem sc__law_pick : FnScope ["_law_draw", "_law_some"] ["_law_draw", "_law_some"] (defScope s__law_pick) := ⟨rfl, rfl, rfl, by decide +kernel, rfl, by decide +kernel, by decide +kernel⟩
abbrev s__law_word : Stmt := topS 27
theorem sc__law_word : FnScope ["_law_draw", "_law_way", "_law_word_here", "_law_k"] ["_law_draw"] (defScope s__law_word) := ⟨rfl, rfl, rfl, by decide +kernel, rfl, by decide +kernel, by decide +kernel⟩
abbrev s__law_hole : Stmt := topS 28
theorem sc__law_hole : FnScope ["_law_draw", "_law_word_here", "_law_k"] ["_law_draw"] (defScope s__law_hole) := ⟨rfl, rfl, rfl, by decide +kernel, rfl, by decide +kernel, by decide +kernel⟩
abbrev s__law_pattern : Stmt := topS 29
theorem sc__law_pattern : FnScope ["_law_draw", "_law_left", "_law_holed", "_law_many", "_law_k"] ["_law_draw", "_law_left", "_law_holed"] (defScope s__law_pattern) := ⟨rfl, rfl, rfl, by decide +kernel, rfl, by decide +kernel, by decide +kernel⟩
abbrev s__law_written : Stmt := topS 30
theorem sc__law_written : FnScope ["_law_one", "_law_inner", "_law_part"] ["_law_one"] (defScope s__law_written) := ⟨rfl, rfl, rfl, by decide +kernel, rfl, by decide +kernel, by decide +kernel⟩
abbrev s__law_next : Stmt := topS 31
theorem sc__law_next : FnScope ["_law_state", "_law_sign", "_law_many", "_law_deep", "_law_small"] ["_law_state", "_law_sign", "_law_many", "_law_deep"] (defScope s__law_next) := ⟨rfl, rfl, rfl, by decide +kernel, rfl, by decide +kernel, by decide +kernel⟩
abbrev s__law_walk : Stmt := topS 32
theorem sc__law_walk : FnScope ["_law_row", "_law_state", "_law_many", "_law_deep", "_law_at", "_law_sign", "_law_found", "_law_way"] ["_law_row"] (defScope s__law_walk) := ⟨rfl, rfl, rfl, by decide +kernel, rfl, by decide +kernel, by decide +kernel⟩
abbrev s__law_bounds : Stmt := topS 33
theorem sc__law_bounds : FnScope ["_law_row", "_law_deep", "_law_most", "_law_sign", "_law_words", "_law_word_here"] ["_law_row"] (defScope s__law_bounds) := ⟨rfl, rfl, rfl, by decide +kernel, rfl, by decide +kernel, by decide +kernel⟩
abbrev s__law_due : Stmt := topS 34
theorem sc__law_due : FnScope ["_law_row", "_law_at", "_law_is_whole"] ["_law_row"] (defScope s__law_due) := ⟨rfl, rfl, rfl, by decide +kernel, rfl, by decide +kernel, by decide +kernel⟩
abbrev s__law_told : Stmt := topS 35
theorem sc__law_told : FnScope ["_law_row", "_law_found", "_law_error", "e"] ["_law_row"] (defScope s__law_told) := ⟨rfl, rfl, rfl, by decide +kernel, rfl, by decide +kernel, by decide +kernel⟩
abbrev s__law_spoilt : Stmt := topS 36
theorem sc__law_spoilt : FnScope ["_law_draw", "_law_row", "_law_at", "_law_way", "_law_some"] ["_law_draw", "_law_row"] (defScope s__law_spoilt) := ⟨rfl, rfl, rfl, by decide +kernel, rfl, by decide +kernel, by decide +kernel⟩
abbrev s_law : Stmt := topS 37
theorem sc_law : FnScope ["_law_script", "_law_draw", "_law_turn", "_law_one", "_law_some", "_law_spoil", "_law_due_here", "_law_told_here", "_law_odd"] ["_law_script"] (defScope s_law) := ⟨rfl, rfl, rfl, by decide +kernel, rfl, by decide +kernel, by decide +kernel⟩
/-- what the top has left -/
structure Tx (K : PySem.W.Frag) (mg : Str → Option Value) : Prop where
  d_is_word : Dx K mg "is_word" s_is_word ["thing", "most"]
  d_is_name : Dx K mg "is_name" s_is_name ["thing"]
  d_is_hole : Dx K mg "is_hole" s_is_hole ["thing"]
  d_size_within : Dx K mg "size_within" s_size_within ["thing", "holes", "deep"]
  d_is_pattern : Dx K mg "is_pattern" s_is_pattern ["thing"]
  d_behind_blanks : Dx K mg "behind_blanks" s_behind_blanks ["text", "at"]
  d_word_at : Dx K mg "word_at" s_word_at ["text", "at"]
  d_closed : Dx K mg "closed" s_closed ["text", "at", "rows", "whole"]
  d_read_whole : Dx K mg "read_whole" s_read_whole ["text"]
  d_read_pattern : Dx K mg "read_pattern" s_read_pattern ["text"]
  d__law_begin : Dx K mg "_law_begin" s__law_begin ["_law_script"]
  d__law_take : Dx K mg "_law_take" s__law_take ["_law_draw", "_law_size"]
  d__law_pick : Dx K mg "_law_pick" s__law_pick ["_law_draw", "_law_some"]
  d__law_word : Dx K mg "_law_word" s__law_word ["_law_draw"]
  d__law_hole : Dx K mg "_law_hole" s__law_hole ["_law_draw"]
  d__law_pattern : Dx K mg "_law_pattern" s__law_pattern ["_law_draw", "_law_left", "_law_holed"]
  d__law_written : Dx K mg "_law_written" s__law_written ["_law_one"]
  d__law_next : Dx K mg "_law_next" s__law_next ["_law_state", "_law_sign", "_law_many", "_law_deep"]
  d__law_walk : Dx K mg "_law_walk" s__law_walk ["_law_row"]
  d__law_bounds : Dx K mg "_law_bounds" s__law_bounds ["_law_row"]
  d__law_due : Dx K mg "_law_due" s__law_due ["_law_row"]
  d__law_told : Dx K mg "_law_told" s__law_told ["_law_row"]
  d__law_spoilt : Dx K mg "_law_spoilt" s__law_spoilt ["_law_draw", "_law_row"]
  d_law : Dx K mg "law" s_law ["_law_script"]
  m_LETTERS : ∃ t, mg "LETTERS" = some (.str "abcdefghijklmnopqrstuvwxyz" t)
  m_MOST_NAME : ∃ t, mg "MOST_NAME" = some (.int 8 t)
  m_MOST_HOLE : ∃ t, mg "MOST_HOLE" = some (.int 4 t)
  m_MOST_PARTS : ∃ t, mg "MOST_PARTS" = some (.int 3 t)
  m_MOST_SIZE : ∃ t, mg "MOST_SIZE" = some (.int 30 t)
  m_MOST_DEEP : ∃ t, mg "MOST_DEEP" = some (.int 5 t)
  e_MatchError : ExG K mg "MatchError" (clsA mg "MatchError")
  me : MeK K mg (clsA mg "MatchError")
  gi_NoText : mg "NoText" = some (.ref (clsA mg "NoText"))
  i_NoText : MiK K mg (clsA mg "MatchError") (clsA mg "NoText") "at" "this is no text of a pattern, by what stands at "
  g_BadPattern : mg "BadPattern" = some (.ref (clsA mg "BadPattern"))
  g_BadTerm : mg "BadTerm" = some (.ref (clsA mg "BadTerm"))
  x_NoText : ExcC K (clsA mg "NoText")
  k_NoText_NoText : PySem.W.kitOne K (.ref (clsA mg "NoText")) (.ref (clsA mg "NoText")) = some true
  k_NoText_BadPattern : PySem.W.kitOne K (.ref (clsA mg "NoText")) (.ref (clsA mg "BadPattern")) = some false
  k_NoText_BadTerm : PySem.W.kitOne K (.ref (clsA mg "NoText")) (.ref (clsA mg "BadTerm")) = some false
  k_NoText_ValueError : PySem.W.kitOne K (.ref (clsA mg "NoText")) (.type "ValueError") = some true
  k_NoText_MatchError : PySem.W.kitOne K (.ref (clsA mg "NoText")) (.ref (clsA mg "MatchError")) = some true
  z_ValueError : mg "ValueError" = none
  z_abs : mg "abs" = none
  z_all : mg "all" = none
  z_enumerate : mg "enumerate" = none
  z_int : mg "int" = none
  z_isinstance : mg "isinstance" = none
  z_len : mg "len" = none
  z_max : mg "max" = none
  z_range : mg "range" = none
  z_str : mg "str" = none
  z_tuple : mg "tuple" = none
end Kt
namespace Kt
open PySem PySem.Spec PyProof.Rows L2

def LS : Str := "abcdefghijklmnopqrstuvwxyz"
def lowc (c : Nat) : Bool := decide (c ∈ LS.cps.toList)
/-- a text of 1 to m small letters -/
def isW (z : Str) (m : Int) : Bool := decide (1 ≤ (z.length : Int)) && (decide ((z.length : Int) ≤ m) && z.cps.toList.all lowc)
def Th.word (m : Int) : Th → Bool | .str z => isW z m | _ => false
def sp_is_word : Sp := fun vs H Q _ => ∃ v t m, vs = [v, .int m] ∧ Rep H v t ∧ ∀ H', Same H H' → Q (.bl (t.word m)) H'
theorem range_map_get {β : Type} {l : List Nat} (p : Nat → β) : ((List.range l.length).map fun i => p (l.getD i 0)) = l.map p := by
  apply List.ext_getElem
  · rw [List.length_map, List.length_map, List.length_range]
  · intro i h1 h2
    rw [List.length_map, List.length_range] at h1
    rw [List.getElem_map, List.getElem_map, List.getElem_range, List.getD_eq_getElem?_getD, List.getElem?_eq_getElem h1]
    rfl
section
variable {P : Program} {w : World} {K : PySem.W.Frag} {mg : Str → Option Value} {base : Heap}
theorem c_is_word (T : Tx K mg) : Cl P w K mg base CX0 1 "is_word" ["thing", "most"] sp_is_word := by
  refine Cl.mk0 T.d_is_word sc_is_word (fun vs H Q E h => ?_) (fun f cdv A outer s H vs Q E hr h => ?_)
  · obtain ⟨v, t, m, rfl, _⟩ := h
    rfl
  obtain ⟨v, t, m, rfl, r, q⟩ := h
  refine ⟨_, (pss_cons (ps_if (PW.pt (pw_or (pt_not (pt_val (pe_callB (id := "isinstance") (r := rIsi K) call_isi (by rfl) T.z_isinstance (by decide +kernel) (pa_cons (pv 0) (pa_cons (pe_bltn (v := .ty "str") (u := .type "str") (by rfl) T.z_str (by decide +kernel) rfl) pa_nil))))) (pw_or1 (pt_not (pt_chain op_le op_le pe_int (pe_callB call_len (by rfl) T.z_len (by decide +kernel) (pa_cons (pv 0) pa_nil)) (pv 1))))))
      (pss_one (ps_ret pe_bl))
      pss_nil)
    (pss_one (ps_ret (pe_callB (cr_all rfl) (by rfl) T.z_all (by decide +kernel) (pa_cons (pe_lc (own := [("sign", 2)]) (g := gName 2) (tt := tYes) rfl sc_is_word.nd (pi_str (pv 0)) (blkOk_by (own := [("sign", 2)]) (N := ["thing", "most", "sign"]) (sc := defScope s_is_word) (by decide +kernel)) (fun _ _ _ _ _ => (pg_name (i := 2) sc_is_word.nd rfl (Or.inl rfl))) (fun _ _ _ _ _ => pts_nil) (fun _ _ _ _ _ => (pe_cmpR op_in_sign (pv 2) (pe_glob (v := .str "abcdefghijklmnopqrstuvwxyz") (by rfl) T.m_LETTERS.choose_spec ⟨_, rfl⟩) rfl))) pa_nil))))), ?_⟩
  refine ⟨_, rfl, _, _, _, _, _, rfl, .ty _, r.tyx, kstr t, _, rfl, ?_⟩
  cases r with
  | str z hz ok =>
    refine iteF ?_
    refine ⟨_, rfl, _, _, rfl, ⟨Nat.le_of_lt (small1000 (by omega)), rfl⟩, _, _, rfl, rfl, _, rfl, ?_⟩
    have fin : ∀ (b : Bool), isW z m = b → ∀ H', Same H H' → Q (.bl b) H' := fun b e H' s => e ▸ q H' s
    refine ite2 (fun c1 => ?_) (fun c1 => ?_)
    · refine ⟨_, rfl, _, _, rfl, rfl, _, rfl, ?_⟩
      refine ite2 (fun c2 => ?_) (fun c2 => ?_)
      · refine fin false ?_ H (Same.refl H)
        have c2' : decide ((z.length : Int) ≤ m) = false := by simpa using c2
        unfold isW
        rw [c2', Bool.false_and, Bool.and_false]
      · have c2' : decide ((z.length : Int) ≤ m) = true := by simpa using c2
        refine ⟨_, rfl, _, rfl, fun D hD => ?_⟩
        refine lc_pure (walk_str) (fun i => .bl (lowc (z.cps.toList.getD i 0))) hD ?_ (fun _ _ => trivial) (fun x => rfl) (fun i x H1 H2 hi s1 y => ?_) (fun H1 s1 e1 => ?_)
        · have : z.cps.size ≤ 100 := hz
          omega
        · obtain ⟨rfl, c, hc, rfl⟩ := y
          refine ⟨Same.refl _, fun Q' q' => ⟨_, rfl, _, _, rfl, rfl, ?_⟩⟩
          have e : z.cps.toList.getD i 0 = c := by
            rw [List.getD_eq_getElem?_getD, Array.getElem?_toList, hc]
            rfl
          have e2 : lowc (z.cps.toList.getD i 0) = decide (c ∈ LS.cps.toList) := by rw [e]; rfl
          rw [e2] at q'
          exact q' _ (Same.refl _)
        · refine ⟨D, z.cps.toList.map lowc, rfl, SqL.of ?_, ?_⟩
          · rw [e1, List.map_map]
            exact congrArg (fun l => some (HO.lst l)) (range_map_get (l := z.cps.toList) fun c => V.bl (lowc c))
          · refine fin _ ?_ H1 s1
            unfold isW
            rw [c1, c2', Bool.true_and, Bool.true_and, List.all_map]
            rfl
    · refine ⟨_, rfl, iteT (fin false ?_ H (Same.refl H))⟩
      have c1' : decide (1 ≤ (z.length : Int)) = false := by simpa using c1
      unfold isW
      rw [c1', Bool.false_and]
  | _ => exact iteT (iteT (q H (Same.refl H)))
end
end Kt
namespace Kt
open PySem PySem.Spec PyProof.Rows L2
/-! ### slices -/
theorem cutV_lo (xs : List V) (k : Nat) : cutV xs (some (k : Int)) none = xs.drop k := by
  unfold cutV
  rw [HT.sIx_nat, HT.sIx_none]
  by_cases h : k ≤ xs.length
  · rw [Nat.min_eq_left h, ← List.length_drop, List.take_length]
  · rw [Nat.min_eq_right (by omega), List.drop_eq_nil_of_le (Nat.le_refl _), List.drop_eq_nil_of_le (by omega)]
    simp
theorem cutV_hi (xs : List V) (k : Nat) : cutV xs none (some (k : Int)) = xs.take k := by
  unfold cutV
  rw [HT.sIx_nat, HT.sIx_none, Nat.sub_zero, List.drop_zero, List.take_eq_take_iff]
  omega
theorem sl_lo {K : PySem.W.Frag} {H : Hp} {a : Addr} {xs : List V} {Q : VK} (k : Nat) (h : H a = some (.tup xs)) (hk : 0 < k) (hn : 0 < xs.length) (q : ∀ p, H p = none → Q (.ref p) (upd H p (.tup (xs.drop k)))) : rSlA K (.ref a) (some (k : Int)) none H Q := by
  refine ⟨a, xs, rfl, SqT.of h, fun e => absurd e.1 ?_, fun _ p hp => ?_⟩
  · rw [HT.sIx_nat]
    omega
  · rw [cutV_lo]
    exact q p hp
theorem sl_hi {K : PySem.W.Frag} {H : Hp} {a : Addr} {xs : List V} {Q : VK} (k : Nat) (h : H a = some (.tup xs)) (hk : k < xs.length) (q : ∀ p, H p = none → Q (.ref p) (upd H p (.tup (xs.take k)))) : rSlA K (.ref a) none (some (k : Int)) H Q := by
  refine ⟨a, xs, rfl, SqT.of h, fun e => absurd e.2 ?_, fun _ p hp => ?_⟩
  · rw [HT.sIx_nat]
    omega
  · rw [cutV_hi]
    exact q p hp
theorem cutS_len (z : Str) (lo hi : Option Int) : (cutS z lo hi).length ≤ z.length := by
  show ((z.cps.toList.drop _).take _).length ≤ z.cps.size
  rw [List.length_take, List.length_drop, Array.length_toList]
  omega
theorem cutS_ok {z : Str} (h : okS z) (lo hi : Option Int) : okS (cutS z lo hi) := fun c hc => h c (List.mem_of_mem_drop (List.mem_of_mem_take hc))
/-! ### what the program tells -/
def isHl (z : Str) : Bool := decide (V.str (cutS z none (some 1)) = V.str "?") && isW (cutS z (some 1) none) 4
def Th.hole : Th → Bool | .str z => isHl z | _ => false
def swl (f : Th → Int) (acc : Int) : List Th → Int
  | [] => acc
  | p :: ps => if f p = 0 then 0 else swl f (acc + f p) ps
def sw (h : Bool) : Nat → Th → Int
  | 0, _ => 0
  | d + 1, t => if t.hole then (if h then 1 else 0) else match t with
    | .tup (x :: ps) => if ps.length ≤ 3 ∧ x.word 8 = true then swl (sw h d) 1 ps else 0
    | _ => 0
def sp_is_name : Sp := fun vs H Q _ => ∃ v t, vs = [v] ∧ Rep H v t ∧ ∀ H', Same H H' → Q (.bl (t.word 8)) H'
def sp_is_hole : Sp := fun vs H Q _ => ∃ v t, vs = [v] ∧ Rep H v t ∧ ∀ H', Same H H' → Q (.bl t.hole) H'
def sp_size_within (n : Nat) : Sp := fun vs H Q _ => ∃ v t b, ∃ d : Nat, vs = [v, .bl b, .int (d : Int)] ∧ d < n ∧ Rep H v t ∧ ∀ H', Same H H' → Q (.int (sw b d t)) H'
def within (b : Bool) (t : Th) : Bool := decide (1 ≤ sw b 5 t) && decide (sw b 5 t ≤ 30)
def sp_is_term : Sp := fun vs H Q _ => ∃ v t, vs = [v] ∧ Rep H v t ∧ ∀ H', Same H H' → Q (.bl (within false t)) H'
def sp_is_pattern : Sp := fun vs H Q _ => ∃ v t, vs = [v] ∧ Rep H v t ∧ ∀ H', Same H H' → Q (.bl (within true t)) H'
section
variable {P : Program} {w : World} {K : PySem.W.Frag} {mg : Str → Option Value} {base : Heap}
theorem c_is_name (T : Tx K mg) : Cl P w K mg base CX0 2 "is_name" ["thing"] sp_is_name := by
  refine Cl.mk0 T.d_is_name sc_is_name (fun vs H Q E h => ?_) (fun f cdv A outer s H vs Q E hr h => ?_)
  · obtain ⟨v, t, rfl, _⟩ := h
    rfl
  obtain ⟨v, t, rfl, r, q⟩ := h
  refine ⟨_, (pss_one (ps_ret (pe_cl (c_is_word T) hr (by omega) rfl (pa_cons (pv 0) (pa_cons (pe_glob (v := .int 8) (by rfl) T.m_MOST_NAME.choose_spec ⟨_, rfl⟩) pa_nil))))), ?_⟩
  exact ⟨_, rfl, v, t, 8, rfl, r, q⟩
theorem c_is_hole (T : Tx K mg) : Cl P w K mg base CX0 2 "is_hole" ["thing"] sp_is_hole := by
  refine Cl.mk0 T.d_is_hole sc_is_hole (fun vs H Q E h => ?_) (fun f cdv A outer s H vs Q E hr h => ?_)
  · obtain ⟨v, t, rfl, _⟩ := h
    rfl
  obtain ⟨v, t, rfl, r, q⟩ := h
  refine ⟨_, (pss_one (ps_ret (pe_and (pe_callB (id := "isinstance") (r := rIsi K) call_isi (by rfl) T.z_isinstance (by decide +kernel) (pa_cons (pv 0) (pa_cons (pe_bltn (v := .ty "str") (u := .type "str") (by rfl) T.z_str (by decide +kernel) rfl) pa_nil))) (pe_and (pe_cmpR op_eq (pe_slice sl_str (pv 0) po_no (po_some pe_int)) pe_str (nomark _)) (pe_one (pe_cl (c_is_word T) hr (by omega) rfl (pa_cons (pe_slice sl_str (pv 0) (po_some pe_int) po_no) (pa_cons (pe_glob (v := .int 4) (by rfl) T.m_MOST_HOLE.choose_spec ⟨_, rfl⟩) pa_nil)))))))), ?_⟩
  refine ⟨_, rfl, _, _, _, _, _, rfl, .ty _, r.tyx, kstr t, _, rfl, ?_⟩
  cases r with
  | str z hz ok =>
    have hz' : z.length ≤ sizeLine := Nat.le_of_lt (small1000 (by omega))
    have fin : ∀ (b : Bool), isHl z = b → ∀ H', Same H H' → Q (.bl b) H' := fun b e H' s => e ▸ q H' s
    refine iteT ⟨_, rfl, 1, rfl, _, rfl, hz', rfl, _, rfl, ite2 (fun c => ?_) (fun c => ?_)⟩
    · refine ⟨_, rfl, 1, rfl, _, rfl, hz', _, .str _, 4, rfl, .str _ (Nat.le_trans (cutS_len _ _ _) hz) (cutS_ok ok _ _), fun H' s => ?_⟩
      refine fin _ ?_ H' s
      unfold isHl
      rw [c, Bool.true_and]
      rfl
    · refine fin _ ?_ H (Same.refl H)
      unfold isHl
      rw [Bool.eq_false_iff.mpr c, Bool.false_and]
  | _ => exact iteF (q H (Same.refl H))
theorem c_size_within_n (T : Tx K mg) : ∀ n : Nat, Cl P w K mg base CX0 (n + 2) "size_within" ["thing", "holes", "deep"] (sp_size_within n)
  | 0 => Cl.no T.d_size_within fun vs H Q E h => by
    obtain ⟨v, t, b, d, _, hd, _⟩ := h
    exact absurd hd (Nat.not_lt_zero d)
  | n + 1 => by
    have ih := c_size_within_n T n
    refine Cl.mk0 T.d_size_within sc_size_within (fun vs H Q E h => ?_) (fun f cdv A outer s H vs Q E hr h => ?_)
    · obtain ⟨v, t, b, d, rfl, _⟩ := h
      rfl
    obtain ⟨v, t, b, d, rfl, hd, r, q⟩ := h
    refine ⟨_, (pss_cons (ps_if (pt_cmpR op_eq (pv 2) pe_int (nomark _))
      (pss_one (ps_ret pe_int))
      pss_nil)
    (pss_cons (ps_if (pt_val (pe_cl (c_is_hole T) hr (by omega) rfl (pa_cons (pv 0) pa_nil)))
      (pss_one (ps_ret (pe_ifExp (pt_val (pv 1)) pe_int pe_int)))
      pss_nil)
    (pss_cons (ps_if (PW.pt (pw_or (pt_not (pt_val (pe_callB (id := "isinstance") (r := rIsi K) call_isi (by rfl) T.z_isinstance (by decide +kernel) (pa_cons (pv 0) (pa_cons (pe_bltn (v := .ty "tuple") (u := .type "tuple") (by rfl) T.z_tuple (by decide +kernel) rfl) pa_nil))))) (pw_or (pt_not (pt_chain op_le op_le pe_int (pe_callB call_len (by rfl) T.z_len (by decide +kernel) (pa_cons (pv 0) pa_nil)) (pe_op op_add pe_int (pe_glob (v := .int 3) (by rfl) T.m_MOST_PARTS.choose_spec ⟨_, rfl⟩)))) (pw_or1 (pt_not (pt_val (pe_cl (c_is_name T) hr (by omega) rfl (pa_cons (pe_ix ix_tup (pv 0) pe_int (fun _ _ => rfl)) pa_nil))))))))
      (pss_one (ps_ret pe_int))
      pss_nil)
    (pss_cons (ps_set (i := 3) sc_size_within.nd rfl (Or.inl rfl) pe_int)
    (pss_cons (ps_for PassesOwn.never rfl (pi_tup (pe_slice sl_tupA (pv 0) (po_some pe_int) po_no)) (pg_name (i := 4) sc_size_within.nd rfl (Or.inl rfl))
      (pss_cons (ps_set (i := 5) sc_size_within.nd rfl (Or.inl rfl) (pe_cl ih hr (by omega) rfl (pa_cons (pv 4) (pa_cons (pv 1) (pa_cons (pe_op op_sub (pv 2) pe_int) pa_nil)))))
      (pss_cons (ps_if (pt_cmpR op_eq (pv 5) pe_int (nomark _))
        (pss_one (ps_ret pe_int))
        pss_nil)
      (pss_one (ps_aug (i := 3) sc_size_within.nd rfl (Or.inl rfl) (pv 5) ip_add)))))
    (pss_one (ps_ret (pv 3)))))))), ?_⟩
    refine ⟨_, rfl, rfl, _, rfl, ite2 (fun c => ?_) (fun c => ?_)⟩
    · have e : (d : Int) = 0 := V.int.inj (of_decide_eq_true c)
      have e0 : d = 0 := by omega
      subst e0
      exact q H (Same.refl H)
    have d0 : d ≠ 0 := fun e => by
      subst e
      exact c (decide_eq_true rfl)
    obtain ⟨d', rfl⟩ : ∃ d', d = d' + 1 := ⟨d - 1, by omega⟩
    have fin : ∀ (i : Int), sw b (d' + 1) t = i → ∀ H', Same H H' → Q (.int i) H' := fun i e H' s => e ▸ q H' s
    refine ⟨_, rfl, v, t, rfl, r, fun H1 s1 => ⟨_, rfl, ite2 (fun c1 => ?_) (fun c1 => ?_)⟩⟩
    · have e : sw b (d' + 1) t = if b then 1 else 0 := by
        unfold sw
        rw [if_pos c1]
      cases b with
      | true => exact ⟨_, rfl, _, rfl, iteT (fin 1 e H1 s1)⟩
      | false => exact ⟨_, rfl, _, rfl, iteF (fin 0 e H1 s1)⟩
    have r1 := r.wk (Wk.same s1)
    refine ⟨_, rfl, _, _, _, _, _, rfl, .ty _, r1.tyx, ktup t, _, rfl, ?_⟩
    cases r1 with
    | @tup a xs l ha hn hl =>
      have no : ∀ H', Same H H' → (∀ x ps, l = x :: ps → ¬ (ps.length ≤ 3 ∧ x.word 8 = true)) → Q (.int 0) H' := fun H' s' k => fin 0 (by
        unfold sw
        rw [if_neg c1]
        cases l with
        | nil => rfl
        | cons x ps =>
          show (if ps.length ≤ 3 ∧ x.word 8 = true then swl (sw b d') 1 ps else 0) = 0
          rw [if_neg (k x ps rfl)]) H' s'
      have hlen := hl.length
      refine iteF ⟨_, rfl, _, _, rfl, .inr ⟨xs, SqT.of ha, rfl⟩, _, _, rfl, rfl, _, rfl, ite2 (fun c2 => ?_) (fun c2 => ?_)⟩
      · have c2' : 1 ≤ (xs.length : Int) := of_decide_eq_true c2
        refine ⟨_, _, rfl, rfl, _, _, rfl, rfl, _, rfl, ite2 (fun c3 => ?_) (fun c3 => ?_)⟩
        · have c3' : ¬ (xs.length : Int) ≤ 1 + 3 := of_decide_eq_false (by simpa using c3)
          refine iteT (no H1 s1 fun x ps e k => ?_)
          rw [e, List.length_cons] at hlen
          omega
        · have c3' : (xs.length : Int) ≤ 1 + 3 := of_decide_eq_true (by simpa using c3)
          cases hl with
          | nil =>
            have : (1 : Int) ≤ 0 := c2'
            omega
          | @cons y ys x ps hx hps =>
            rw [List.length_cons] at c3'
            have hp3 : ps.length ≤ 3 := by
              have := hps.length
              omega
            refine ⟨_, rfl, _, _, _, _, rfl, rfl, SqT.of ha, atI_nat (j := 0) rfl, y, x, rfl, hx, fun H2 s2 => ⟨_, rfl, ite2 (fun c4 => ?_) (fun c4 => ?_)⟩⟩
            · refine no H2 (s1.trans s2) fun x' ps' e k => ?_
              cases e
              rw [k.2] at c4
              cases c4
            · have c4' : x.word 8 = true := by simpa using c4
              have s12 := s1.trans s2
              have ha2 := s2 _ _ ha
              refine ⟨_, rfl, 1, rfl, ?_⟩
              refine sl_lo (K := K) 1 ha2 (by omega) (by rw [List.length_cons]; omega) fun p hp => ?_
              have s3 : Same H (upd H2 p (.tup ((y :: ys).drop 1))) := s12.trans (same_new hp _)
              have hps2 : RepL H2 ys ps := hps.wk (Wk.same s2)
              have val : ∀ acc, swl (sw b d') 1 ps = acc → ∀ H', Same H H' → Q (.int acc) H' := fun acc e H' s' => fin acc (by
                unfold sw
                rw [if_neg c1]
                show (if ps.length ≤ 3 ∧ x.word 8 = true then swl (sw b d') 1 ps else 0) = acc
                rw [if_pos ⟨hp3, c4'⟩, e]) H' s'
              refine ⟨p, rfl, ⟨ys, SqT.of upd_same⟩, for_tup (xs := ys) (fun i σ H' => ∃ acc y4 y5, σ = [some (.ref a), some (.bl b), some (.int ((d' + 1 : Nat) : Int)), some (.int acc), y4, y5] ∧ Same H2 H' ∧ H' p = some (.tup ys) ∧
                swl (sw b d') 1 ps = swl (sw b d') acc (ps.drop i)) ⟨1, none, none, rfl, same_new hp _, upd_same, rfl⟩ (fun i σ H' _ h' => ?_) (fun i z σ H' hz h' => ?_) (fun σ H' h' => ?_)⟩
              · obtain ⟨acc, y4, y5, _, _, hpH, _⟩ := h'
                exact SqT.of hpH
              · obtain ⟨acc, y4, y5, rfl, sH, hpH, eq⟩ := h'
                obtain ⟨t, ht, hr'⟩ := (hps2.wk (Wk.same sH)).get' hz
                obtain ⟨hi, hti⟩ := List.getElem?_eq_some_iff.mp ht
                rw [List.drop_eq_getElem_cons hi, hti] at eq
                refine ⟨_, rfl, _, rfl, _, rfl, _, _, rfl, rfl, z, t, b, d', ?_, by omega, hr', fun H3 s3' => ?_⟩
                · have : ((d' + 1 : Nat) : Int) - 1 = (d' : Int) := by omega
                  show [z, V.bl b, V.int (((d' + 1 : Nat) : Int) - 1)] = _
                  rw [this]
                refine ⟨_, rfl, rfl, _, rfl, ite2 (fun c5 => ?_) (fun c5 => ?_)⟩
                · refine val 0 ?_ H3 (s12.trans (sH.trans s3'))
                  rw [eq]
                  show (if sw b d' t = 0 then 0 else _) = 0
                  rw [if_pos (V.int.inj (of_decide_eq_true c5))]
                · refine ⟨_, rfl, _, rfl, _, _, rfl, rfl, acc + sw b d' t, _, _, rfl, sH.trans s3', s3' _ _ hpH, ?_⟩
                  rw [eq]
                  show (if sw b d' t = 0 then 0 else _) = _
                  rw [if_neg fun e => c5 (by rw [e]; rfl)]
              · obtain ⟨acc, y4, y5, rfl, sH, hpH, eq⟩ := h'
                rw [List.drop_eq_nil_of_le (by rw [hps2.length]; exact Nat.le_refl _)] at eq
                exact ⟨_, rfl, val acc eq H' (s12.trans sH)⟩
      · refine ⟨_, rfl, iteT (no H1 s1 fun x ps e k => ?_)⟩
        have c2' : ¬ 1 ≤ (xs.length : Int) := of_decide_eq_false (by simpa using c2)
        rw [e, List.length_cons] at hlen
        omega
    | _ => exact iteT (iteT (fin 0 (by unfold sw; rw [if_neg c1]) H1 s1))
theorem c_size_within (T : Tx K mg) : Cl P w K mg base CX0 8 "size_within" ["thing", "holes", "deep"] (sp_size_within 6) := c_size_within_n T 6
end
end Kt
namespace Kt
open PySem PySem.Spec PyProof.Rows L2
section
variable {P : Program} {w : World} {K : PySem.W.Frag} {mg : Str → Option Value} {base : Heap}
theorem c_is_pattern (T : Tx K mg) : Cl P w K mg base CX0 9 "is_pattern" ["thing"] sp_is_pattern := by
  refine Cl.mk0 T.d_is_pattern sc_is_pattern (fun vs H Q E h => ?_) (fun f cdv A outer s H vs Q E hr h => ?_)
  · obtain ⟨v, t, rfl, _⟩ := h
    rfl
  obtain ⟨v, t, rfl, r, q⟩ := h
  refine ⟨_, (pss_one (ps_ret (pe_chain op_le op_le pe_int (pe_cl (c_size_within T) hr (by omega) rfl (pa_cons (pv 0) (pa_cons pe_bl (pa_cons (pe_glob (v := .int 5) (by rfl) T.m_MOST_DEEP.choose_spec ⟨_, rfl⟩) pa_nil)))) (pe_glob (v := .int 30) (by rfl) T.m_MOST_SIZE.choose_spec ⟨_, rfl⟩)))), ?_⟩
  refine ⟨_, rfl, v, t, true, 5, rfl, by omega, r, fun H' s' => ⟨_, _, rfl, rfl, _, rfl, ite2 (fun c => ?_) (fun c => ?_)⟩⟩
  · refine ⟨_, _, rfl, rfl, ?_⟩
    have e : within true t = decide (sw true 5 t ≤ 30) := by
      unfold within
      rw [c, Bool.true_and]
    have q' := q H' s'
    rw [e] at q'
    exact q'
  · have e : within true t = false := by
      unfold within
      rw [Bool.eq_false_iff.mpr c, Bool.false_and]
    have q' := q H' s'
    rw [e] at q'
    exact q'
end
end Kt
namespace Kt
open PySem PySem.Spec PyProof.Rows L2
/-! ### the draws: a list at d of the cells' list at c, a place and a mixed number -/
def Dr (d c : Addr) (H : Hp) : Prop := ∃ (cells : List Int) (at' mix : Int), H d = some (.lst [.ref c, .int at', .int mix]) ∧ H c = some (.lst (cells.map V.int)) ∧ 0 < cells.length ∧ cells.length ≤ 63 ∧ 0 ≤ mix ∧ mix < 2147483647
/-- all but the draws stands as it stood -/
structure DU (d c : Addr) (H H' : Hp) : Prop where
  old : ∀ a o, a ≠ d → a ≠ c → H a = some o → H' a = some o
  dr : Dr d c H'
theorem Dr.ne {d c : Addr} {H : Hp} (h : Dr d c H) : c ≠ d := by
  obtain ⟨cells, at', mix, h1, h2, hl, _⟩ := h
  intro e
  subst e
  rw [h1] at h2
  cases cells with
  | nil => cases h2
  | cons a r => cases h2
theorem Dr.same {d c : Addr} {H H' : Hp} (h : Dr d c H) (s : Same H H') : Dr d c H' := by
  obtain ⟨cells, at', mix, h1, h2, r⟩ := h
  exact ⟨cells, at', mix, s _ _ h1, s _ _ h2, r⟩
theorem DU.same {d c : Addr} {H H' : Hp} (h : Dr d c H) (s : Same H H') : DU d c H H' := ⟨fun a o _ _ q => s a o q, h.same s⟩
theorem DU.refl {d c : Addr} {H : Hp} (h : Dr d c H) : DU d c H H := DU.same h (Same.refl H)
theorem DU.trans {d c : Addr} {H H1 H2 : Hp} (a : DU d c H H1) (b : DU d c H1 H2) : DU d c H H2 := ⟨fun x o n m q => b.old x o n m (a.old x o n m q), b.dr⟩
theorem DU.then {d c : Addr} {H H1 H2 : Hp} (a : DU d c H H1) (b : Same H1 H2) : DU d c H H2 := a.trans (DU.same a.dr b)
theorem DU.wk {d c : Addr} {H H' : Hp} (h : Dr d c H) (u : DU d c H H') : Wk H H' := by
  obtain ⟨cells, at', mix, h1, h2, _⟩ := h
  obtain ⟨cells', at2, mix', h1', h2', _⟩ := u.dr
  refine ⟨fun a xs q => u.old a _ (ne_of q h1 fun e => nomatch e) (ne_of q h2 fun e => nomatch e) q, fun a xs q => ?_, fun a xs q => ⟨xs, u.old a _ (ne_of q h1 fun e => nomatch e) (ne_of q h2 fun e => nomatch e) q⟩⟩
  by_cases e1 : a = d
  · subst e1
    exact ⟨_, h1'⟩
  · by_cases e2 : a = c
    · subst e2
      exact ⟨_, h2'⟩
    · exact ⟨xs, u.old a _ e1 e2 q⟩
/-- an address that the draws' heap does not know is none of theirs -/
theorem Dr.new {d c p : Addr} {H : Hp} (h : Dr d c H) (hp : H p = none) : p ≠ d ∧ p ≠ c := by
  obtain ⟨cells, at', mix, h1, h2, _⟩ := h
  exact ⟨(ne_of_none h1 hp).symm, (ne_of_none h2 hp).symm⟩
theorem ixN_nat {n j : Nat} (hj : j < n) : ixN n (j : Int) = some j := by
  unfold ixN
  rw [if_pos (by omega), if_pos (by omega)]
  simp
theorem fmod_in {a b : Int} (h : 0 < b) : 0 ≤ a.fmod b ∧ a.fmod b < b := ⟨Int.fmod_nonneg_of_pos a h, Int.fmod_lt_of_pos a h⟩
def sp_take : Sp := fun vs H Q _ => ∃ (d c : Addr) (n : Int), vs = [.ref d, .int n] ∧ 0 < n ∧ n < 1000000 ∧ Dr d c H ∧ ∀ r H', 0 ≤ r → r < n → DU d c H H' → Q (.int r) H'
section
variable {P : Program} {w : World} {K : PySem.W.Frag} {mg : Str → Option Value} {base : Heap}
theorem c__law_take (T : Tx K mg) : Cl P w K mg base CX0 1 "_law_take" ["_law_draw", "_law_size"] sp_take := by
  refine Cl.mk0 T.d__law_take sc__law_take (fun vs H Q E h => ?_) (fun f cdv A outer s H vs Q E hr h => ?_)
  · obtain ⟨d, c, n, rfl, _⟩ := h
    rfl
  obtain ⟨d, c, n, rfl, hn0, hn, hD, q⟩ := h
  have cd := hD.ne
  obtain ⟨cells, at', mix, hd, hc, hl, hl63, hm0, hm⟩ := hD
  refine ⟨_, (pss_cons (ps_set (i := 2) sc__law_take.nd rfl (Or.inl rfl) (pe_ix ix_list (pv 0) pe_int (fun _ _ => rfl)))
    (pss_cons (ps_set (i := 3) sc__law_take.nd rfl (Or.inl rfl) (pe_op op_modN (pe_ix ix_list (pv 0) pe_int (fun _ _ => rfl)) (pe_callB call_len (by rfl) T.z_len (by decide +kernel) (pa_cons (pv 2) pa_nil))))
    (pss_cons (ps_set (i := 4) sc__law_take.nd rfl (Or.inl rfl) (pe_ix ix_list (pv 2) (pv 3) (fun _ _ => rfl)))
    (pss_cons (ps_if (pt_cmpR op_ge (pv 4) (pe_op op_pow pe_int pe_int) (nomark _))
      (pss_cons (ps_asg (pe_op op_fdivN (pv 4) (pv 1)) (pg_sub (pv 2) (pv 3) set_list))
      (pss_one (ps_ret (pe_op op_modN (pv 4) (pv 1)))))
      pss_nil)
    (pss_cons (ps_asg (pe_op op_add (pe_ix ix_list (pv 0) pe_int (fun _ _ => rfl)) pe_int) (pg_sub (pv 0) pe_int set_list))
    (pss_cons (ps_asg (pe_op op_modN (pe_op op_add (pe_op op_add (pe_op op_mul (pe_ix ix_list (pv 0) pe_int (fun _ _ => rfl)) pe_int) (pv 4)) pe_int) pe_int) (pg_sub (pv 0) pe_int set_list))
    (pss_one (ps_ret (pe_op op_modN (pe_op op_fdivN (pe_op op_modN (pe_op op_mul (pe_ix ix_list (pv 0) pe_int (fun _ _ => rfl)) (pe_ix ix_list (pv 0) pe_int (fun _ _ => rfl))) pe_int) pe_int) (pv 1)))))))))), ?_⟩
  refine ⟨_, rfl, _, _, _, _, rfl, rfl, SqL.of hd, atI_nat (j := 0) rfl, ?_⟩
  have hlen : 0 < ((cells.map V.int).length : Int) := by
    rw [List.length_map]
    omega
  refine ⟨_, rfl, _, _, _, _, rfl, rfl, SqL.of hd, atI_nat (j := 1) rfl, _, rfl, _, _, rfl, .inl ⟨_, SqL.of hc, rfl⟩, _, _, rfl, rfl, by omega, ?_⟩
  obtain ⟨a0, a1⟩ := fmod_in (a := at') hlen
  obtain ⟨k, hk⟩ : ∃ k : Nat, at'.fmod ((cells.map V.int).length : Int) = (k : Int) := ⟨(at'.fmod ((cells.map V.int).length : Int)).toNat, by omega⟩
  have hk2 : k < cells.length := by
    rw [hk, List.length_map] at a1
    omega
  have hget : (cells.map V.int)[k]? = some (.int cells[k]) := by
    rw [List.getElem?_map, List.getElem?_eq_getElem hk2]
    rfl
  refine ⟨_, rfl, _, rfl, _, _, _, _, rfl, rfl, SqL.of hc, by rw [hk]; exact atI_nat hget, ?_⟩
  refine ⟨_, rfl, _, _, rfl, rfl, ⟨by decide, by decide, by decide⟩, _, _, rfl, rfl, _, rfl, ite2 (fun c1 => ?_) (fun c1 => ?_)⟩
  · refine ⟨_, rfl, _, rfl, _, _, rfl, rfl, ⟨by omega, by omega⟩, ?_⟩
    refine ⟨_, rfl, _, rfl, c, _, _, k, rfl, rfl, hc, by rw [hk]; exact ixN_nat (by rw [List.length_map]; exact hk2), ?_⟩
    refine ⟨_, rfl, _, rfl, _, _, rfl, rfl, by omega, ?_⟩
    obtain ⟨r0, r1⟩ := fmod_in (a := cells[k]) hn0
    refine q _ _ r0 r1 ⟨fun a o n1 n2 h => by rw [upd_ne n2]; exact h, cells.set k (cells[k].fdiv n), at', mix, by rw [upd_ne cd.symm]; exact hd, ?_, by rw [List.length_set]; exact hl, by rw [List.length_set]; exact hl63, hm0, hm⟩
    rw [upd_same, List.map_set]
  · refine ⟨_, rfl, _, _, _, _, rfl, rfl, SqL.of hd, atI_nat (j := 1) rfl, _, _, rfl, rfl, _, rfl, d, _, _, 1, rfl, rfl, hd, rfl, ?_⟩
    have hd1 : (upd H d (.lst ([.ref c, .int at', .int mix].set 1 (.int (at' + 1))))) d = some (.lst [.ref c, .int (at' + 1), .int mix]) := upd_same
    refine ⟨_, rfl, _, _, _, _, rfl, rfl, SqL.of hd1, atI_nat (j := 2) rfl, _, _, rfl, rfl, .inl ⟨by omega, by omega⟩, _, rfl, _, _, rfl, rfl, _, _, rfl, rfl, _, _, rfl, rfl, (show (2147483647 : Int) ≠ 0 by decide), _, rfl, d, _, _, 2, rfl, rfl, hd1, rfl, ?_⟩
    obtain ⟨x0, x1⟩ := fmod_in (a := mix * 48271 + cells[k] + 12345) (b := 2147483647) (by decide)
    have hd2 : (upd (upd H d (.lst ([.ref c, .int at', .int mix].set 1 (.int (at' + 1))))) d (.lst ([.ref c, .int (at' + 1), .int mix].set 2 (.int ((mix * 48271 + cells[k] + 12345).fmod 2147483647))))) d = some (.lst [.ref c, .int (at' + 1), .int ((mix * 48271 + cells[k] + 12345).fmod 2147483647)]) := upd_same
    refine ⟨_, rfl, _, _, _, _, rfl, rfl, SqL.of hd2, atI_nat (j := 2) rfl, _, rfl, _, _, _, _, rfl, rfl, SqL.of hd2, atI_nat (j := 2) rfl, _, _, rfl, rfl, .inl ⟨by omega, by omega⟩, _, _, rfl, rfl, (show (2147483629 : Int) ≠ 0 by decide), _, _, rfl, rfl, (show (16 : Int) ≠ 0 ∧ (16 : Int).natAbs < 1073741824 by decide), _, rfl, _, _, rfl, rfl, by omega, ?_⟩
    obtain ⟨r0, r1⟩ := fmod_in (a := ((((mix * 48271 + cells[k] + 12345).fmod 2147483647) * ((mix * 48271 + cells[k] + 12345).fmod 2147483647)).fmod 2147483629).fdiv 16) hn0
    refine q _ _ r0 r1 ⟨fun a o n1 n2 h => by rw [upd_ne n1, upd_ne n1]; exact h, cells, at' + 1, _, hd2, by rw [upd_ne cd, upd_ne cd]; exact hc, hl, hl63, x0, x1⟩
end
end Kt
namespace Kt
open PySem PySem.Spec PyProof.Rows L2
/-! ### texts that grow -/
theorem app_list (x y : Str) : (x ++ y).cps.toList = x.cps.toList ++ y.cps.toList := Array.toList_append
theorem app_len (x y : Str) : (x ++ y).length = x.length + y.length := Array.size_append
theorem len_list (x : Str) : x.length = x.cps.toList.length := rfl
theorem LS_list : LS.cps.toList = [97, 98, 99, 100, 101, 102, 103, 104, 105, 106, 107, 108, 109, 110, 111, 112, 113, 114, 115, 116, 117, 118, 119, 120, 121, 122] := by decide +kernel
theorem lowc_lt {c : Nat} (h : lowc c = true) : c < 1114112 := by
  have h1 : c ∈ LS.cps.toList := of_decide_eq_true h
  rw [LS_list] at h1
  simp only [List.mem_cons, List.not_mem_nil, or_false] at h1
  omega
theorem isW_of {z : Str} {m : Int} (h1 : 1 ≤ z.length) (h2 : (z.length : Int) ≤ m) (h : z.cps.toList.all lowc = true) : isW z m = true := by
  unfold isW
  rw [h, decide_eq_true (by omega : 1 ≤ (z.length : Int)), decide_eq_true h2]
  rfl
theorem isW_out {z : Str} {m : Int} (h : isW z m = true) : 1 ≤ z.length ∧ (z.length : Int) ≤ m ∧ z.cps.toList.all lowc = true := by
  unfold isW at h
  simp only [Bool.and_eq_true, decide_eq_true_eq] at h
  exact ⟨by omega, h.2.1, h.2.2⟩
theorem okS_low {z : Str} (h : z.cps.toList.all lowc = true) : okS z := fun c hc => lowc_lt (List.all_eq_true.mp h c hc)
theorem isW_rep {z : Str} {m : Int} {H : Hp} (h : isW z m = true) (hm : m ≤ 100) : Rep H (.str z) (.str z) := by
  obtain ⟨_, h2, h3⟩ := isW_out h
  exact .str z (by omega) (okS_low h3)
theorem str_ext {x y : Str} (h : x.cps.toList = y.cps.toList) : x = y := by
  cases x with | mk a => cases y with | mk b => exact congrArg Str.mk (Array.toList_inj.mp h)
/-- a hole's text: a question mark, then one to four letters -/
theorem isHl_of {z : Str} {l : List Nat} (e : z.cps.toList = 63 :: l) (h1 : 1 ≤ l.length) (h2 : l.length ≤ 4) (h : l.all lowc = true) : isHl z = true := by
  have hl : z.length = l.length + 1 := by rw [len_list, e, List.length_cons]
  have e1 : cutS z none (some 1) = ("?" : Str) := by
    apply str_ext
    show (z.cps.toList.drop (HT.sIx z.length 0 none)).take (HT.sIx z.length z.length (some ((1 : Nat) : Int)) - HT.sIx z.length 0 none) = _
    rw [HT.sIx_none, HT.sIx_nat, e, hl, Nat.min_eq_left (by omega)]
    rfl
  have e2 : (cutS z (some 1) none).cps.toList = l := by
    show (z.cps.toList.drop (HT.sIx z.length 0 (some ((1 : Nat) : Int)))).take (HT.sIx z.length z.length none - HT.sIx z.length 0 (some ((1 : Nat) : Int))) = l
    rw [HT.sIx_none, HT.sIx_nat, e, hl, Nat.min_eq_left (by omega)]
    show l.take (l.length + 1 - 1) = l
    rw [Nat.add_sub_cancel, List.take_length]
  unfold isHl
  rw [e1, decide_eq_true rfl, Bool.true_and]
  exact isW_of (by rw [len_list, e2]; exact h1) (by rw [len_list, e2]; omega) (by rw [e2]; exact h)
def sp_begin (K : PySem.W.Frag) : Sp := fun vs H Q _ => ∃ (a : Addr) (ns : List Int), vs = [.ref a] ∧ SqL K H a (ns.map V.int) ∧ ns.length ≤ 63 ∧ ∀ d c H', Same H H' → Dr d c H' → Q (.ref d) H'
def sp_pick : Sp := fun vs H Q _ => ∃ (d c p : Addr) (xs : List V), vs = [.ref d, .ref p] ∧ Dr d c H ∧ H p = some (.lst xs) ∧ p ≠ d ∧ p ≠ c ∧ 0 < xs.length ∧ xs.length ≤ 1000 ∧ ∀ v H', v ∈ xs → DU d c H H' → Q v H'
def sp_word : Sp := fun vs H Q _ => ∃ (d c : Addr), vs = [.ref d] ∧ Dr d c H ∧ ∀ z H', isW z 8 = true → DU d c H H' → Q (.str z) H'
def sp_hole : Sp := fun vs H Q _ => ∃ (d c : Addr), vs = [.ref d] ∧ Dr d c H ∧ ∀ z H', isHl z = true → z.length ≤ 5 → okS z → DU d c H H' → Q (.str z) H'
section
variable {P : Program} {w : World} {K : PySem.W.Frag} {mg : Str → Option Value} {base : Heap}
theorem c__law_begin (T : Tx K mg) : Cl P w K mg base CX0 1 "_law_begin" ["_law_script"] (sp_begin K) := by
  refine Cl.mk0 T.d__law_begin sc__law_begin (fun vs H Q E h => ?_) (fun f cdv A outer s H vs Q E hr h => ?_)
  · obtain ⟨a, ns, rfl, _⟩ := h
    rfl
  obtain ⟨a, ns, rfl, hS, hl, q⟩ := h
  refine ⟨_, (pss_cons (ps_setLc (i := 1) (own := [("_law_cell", 2)]) (g := gName 2) (tt := tYes) rfl sc__law_begin.nd rfl rfl (sw_true rfl rfl rfl (by decide +kernel)) (pi_list (pe_slice sl_list (pv 0) po_no (po_some pe_int))) (blkOk_by (own := [("_law_cell", 2)]) (N := ["_law_script", "_law_cells", "_law_cell"]) (sc := defScope s__law_begin) (by decide +kernel)) (fun _ _ _ _ _ => (pg_name (i := 2) sc__law_begin.nd rfl (Or.inl rfl))) (fun _ _ _ _ _ => pts_nil) (fun _ _ _ _ _ => (pe_callB call_abs (by rfl) T.z_abs (by decide +kernel) (pa_cons (pv 2) pa_nil))))
    (pss_cons (ps_if (pt_cmpR (op_eqD hr.units) (pv 1) (pe_lst pa_nil) (nomark _))
      (pss_one (ps_set (i := 1) sc__law_begin.nd rfl (Or.inl rfl) (pe_lst (pa_cons pe_int pa_nil))))
      pss_nil)
    (pss_one (ps_ret (pe_lst (pa_cons (pv 1) (pa_cons pe_int (pa_cons pe_int pa_nil)))))))), ?_⟩
  refine ⟨_, rfl, 63, rfl, a, _, rfl, hS, fun p hp => ⟨p, rfl, ⟨_, SqL.of upd_same⟩, fun D hD => ?_⟩⟩
  have hlen : (cutV (ns.map V.int) none (some 63)).length = ns.length := by
    rw [show cutV (ns.map V.int) none (some 63) = (ns.map V.int).take 63 from cutV_hi _ 63, List.length_take, List.length_map]
    omega
  have hget : ∀ i, i < ns.length → (cutV (ns.map V.int) none (some 63))[i]? = some (.int (ns.getD i 0)) := fun i hi => by
    rw [show cutV (ns.map V.int) none (some 63) = (ns.map V.int).take 63 from cutV_hi _ 63, List.getElem?_take, if_pos (by omega), List.getElem?_map, List.getD_eq_getElem?_getD, List.getElem?_eq_getElem hi]
    rfl
  refine lc_pure walk_list (fun i => .int (if ns.getD i 0 < 0 then - ns.getD i 0 else ns.getD i 0)) hD (by omega) (fun H' s' => SqL.of (s' _ _ upd_same)) (fun x => rfl) (fun i x H1 H2 hi s1 y => ?_) (fun H1 s1 e1 => ?_)
  · obtain ⟨rfl, hx⟩ := y
    rw [hlen] at hi
    rw [hget i hi] at hx
    cases hx
    exact ⟨Same.refl _, fun Q' q' => ⟨_, rfl, _, rfl, q' _ (Same.refl _)⟩⟩
  · have s2 : Same H H1 := (same_new hp _).trans s1
    rw [hlen] at e1
    have e2 : H1 D = some (.lst (((List.range ns.length).map fun i => if ns.getD i 0 < 0 then - ns.getD i 0 else ns.getD i 0).map V.int)) := by
      rw [e1, List.map_map]
      rfl
    generalize hg : ((List.range ns.length).map fun i => if ns.getD i 0 < 0 then - ns.getD i 0 else ns.getD i 0) = ms at e2
    have hms : ms.length = ns.length := by rw [← hg, List.length_map, List.length_range]
    refine ⟨_, rfl, Nat.zero_le _, fun p2 hp2 => ⟨_, _, .lst (SqL.of (same_new hp2 _ _ _ e2)) (dpInts ms), .lst (SqL.of upd_same) .nil, shapedInts ms, shapedInts [], _, rfl, ?_⟩⟩
    have s3 : Same H1 (upd H1 p2 (.lst [])) := same_new hp2 _
    rw [eqvNil]
    refine ite2 (fun c1 => ?_) (fun c1 => ?_)
    · refine ⟨by show 1 ≤ sizeLine; decide, fun p3 hp3 => ⟨_, rfl, by show 3 ≤ sizeLine; decide, fun p4 hp4 => ?_⟩⟩
      have s4 := (s2.trans s3).trans ((same_new hp3 (.lst [V.int 7])).trans (same_new hp4 (.lst [V.ref p3, V.int 0, V.int 1])))
      exact q p4 p3 _ s4 ⟨[7], 0, 1, upd_same, by rw [upd_ne (ne_of_none upd_same hp4)]; exact upd_same, by decide, by decide, by decide, by decide⟩
    · refine ⟨_, rfl, by show 3 ≤ sizeLine; decide, fun p4 hp4 => ?_⟩
      have s4 := (s2.trans s3).trans (same_new hp4 (.lst [V.ref D, V.int 0, V.int 1]))
      have : 0 < ms.length := by
        cases ms with
        | nil => exact absurd rfl c1
        | cons a b => exact Nat.succ_pos _
      exact q p4 D _ s4 ⟨ms, 0, 1, upd_same, same_new hp4 _ _ _ (s3 _ _ e2), this, by omega, by decide, by decide⟩
theorem c__law_pick (T : Tx K mg) : Cl P w K mg base CX0 2 "_law_pick" ["_law_draw", "_law_some"] sp_pick := by
  refine Cl.mk0 T.d__law_pick sc__law_pick (fun vs H Q E h => ?_) (fun f cdv A outer s H vs Q E hr h => ?_)
  · obtain ⟨d, c, p, xs, rfl, _⟩ := h
    rfl
  obtain ⟨d, c, p, xs, rfl, hD, hp, n1, n2, h0, h1, q⟩ := h
  refine ⟨_, (pss_one (ps_ret (pe_ix ix_list (pv 1) (pe_cl (c__law_take T) hr (by omega) rfl (pa_cons (pv 0) (pa_cons (pe_callB call_len (by rfl) T.z_len (by decide +kernel) (pa_cons (pv 1) pa_nil)) pa_nil))) (fun _ _ => rfl)))), ?_⟩
  refine ⟨_, rfl, _, rfl, _, rfl, _, _, rfl, .inl ⟨_, SqL.of hp, rfl⟩, d, c, _, rfl, by omega, by omega, hD, fun r H' r0 r1 u => ?_⟩
  obtain ⟨k, rfl⟩ : ∃ k : Nat, r = (k : Int) := ⟨r.toNat, by omega⟩
  have hk : k < xs.length := by omega
  exact ⟨p, xs, _, xs[k], rfl, rfl, SqL.of (u.old _ _ n1 n2 hp), atI_nat (List.getElem?_eq_getElem hk), q _ _ (List.getElem_mem hk) u⟩
theorem c__law_word (T : Tx K mg) : Cl P w K mg base CX0 3 "_law_word" ["_law_draw"] sp_word := by
  refine Cl.mk0 T.d__law_word sc__law_word (fun vs H Q E h => ?_) (fun f cdv A outer s H vs Q E hr h => ?_)
  · obtain ⟨d, c, rfl, _⟩ := h
    rfl
  obtain ⟨d, c, rfl, hD, q⟩ := h
  have pick : ∀ (zs : List Str) (H1 : Hp), DU d c H H1 → zs.all (fun z => isW z 8) = true → ∀ v H', v ∈ zs.map V.str → DU d c H1 H' → Q v H' := fun zs H1 u hz v H' hv u' => by
    obtain ⟨z, hm, rfl⟩ := List.mem_map.mp hv
    exact q z H' (List.all_eq_true.mp hz z hm) (u.trans u')
  refine ⟨_, (pss_cons (ps_set (i := 1) sc__law_word.nd rfl (Or.inl rfl) (pe_cl (c__law_take T) hr (by omega) rfl (pa_cons (pv 0) (pa_cons pe_int pa_nil))))
    (pss_cons (ps_if (pt_cmpR op_lt (pv 1) pe_int (nomark _))
      (pss_one (ps_ret (pe_cl (c__law_pick T) hr (by omega) rfl (pa_cons (pv 0) (pa_cons (pe_lst (pa_cons pe_str (pa_cons pe_str (pa_cons pe_str (pa_cons pe_str pa_nil))))) pa_nil)))))
      pss_nil)
    (pss_cons (ps_if (pt_cmpR op_eq (pv 1) pe_int (nomark _))
      (pss_one (ps_ret (pe_cl (c__law_pick T) hr (by omega) rfl (pa_cons (pv 0) (pa_cons (pe_lst (pa_cons pe_str (pa_cons pe_str (pa_cons pe_str (pa_cons pe_str (pa_cons pe_str (pa_cons pe_str (pa_cons pe_str (pa_cons pe_str (pa_cons pe_str (pa_cons pe_str pa_nil))))))))))) pa_nil)))))
      pss_nil)
    (pss_cons (ps_set (i := 2) sc__law_word.nd rfl (Or.inl rfl) pe_str)
    (pss_cons (ps_for PassesOwn.never rfl (pi_range1 (by rfl) T.z_range (pa_cons (pe_op op_add pe_int (pe_cl (c__law_take T) hr (by omega) rfl (pa_cons (pv 0) (pa_cons pe_int pa_nil)))) pa_nil)) (pg_name (i := 3) sc__law_word.nd rfl (Or.inl rfl))
      (pss_one (ps_set (i := 2) sc__law_word.nd rfl (Or.inl rfl) (pe_op op_add_str (pv 2) (pe_ix ix_str pe_str (pe_cl (c__law_take T) hr (by omega) rfl (pa_cons (pv 0) (pa_cons pe_int pa_nil))) (fun _ _ => rfl))))))
    (pss_one (ps_ret (pv 2)))))))), ?_⟩
  refine ⟨_, rfl, d, c, 6, rfl, by decide, by decide, hD, fun r H1 r0 r1 u1 => ?_⟩
  refine ⟨_, rfl, _, _, rfl, rfl, _, rfl, ite2 (fun c1 => ?_) (fun c1 => ?_)⟩
  · refine ⟨_, rfl, by show 4 ≤ sizeLine; decide, fun p hp => ?_⟩
    obtain ⟨n1, n2⟩ := u1.dr.new hp
    exact ⟨d, c, p, _, rfl, u1.dr.same (same_new hp _), upd_same, n1, n2, by decide, by decide, pick ["a", "b", "f", "g"] _ (u1.then (same_new hp _)) (by decide +kernel)⟩
  refine ⟨_, rfl, rfl, _, rfl, ite2 (fun c2 => ?_) (fun c2 => ?_)⟩
  · refine ⟨_, rfl, by show 10 ≤ sizeLine; decide, fun p hp => ?_⟩
    obtain ⟨n1, n2⟩ := u1.dr.new hp
    exact ⟨d, c, p, _, rfl, u1.dr.same (same_new hp _), upd_same, n1, n2, by decide, by decide, pick ["told", "back", "then", "parts", "same", "like", "put", "rule", "hole", "z"] _ (u1.then (same_new hp _)) (by decide +kernel)⟩
  refine ⟨_, rfl, d, c, 8, rfl, by decide, by decide, u1.dr, fun m H2 m0 m1 u2 => ⟨_, _, rfl, rfl, _, rfl, by omega, by omega, ?_⟩⟩
  refine for_range (lo := 0) (n := (1 + m).toNat) (fun i σ H' => ∃ z y, σ = [some (.ref d), some (.int r), some (.str z), y] ∧ z.length = i ∧ z.cps.toList.all lowc = true ∧ DU d c H H') ⟨"", none, rfl, rfl, rfl, u1.trans u2⟩ (fun i σ H' hi h' => ?_) (fun σ H' h' => ?_)
  · obtain ⟨z, y, rfl, hz, hlo, u⟩ := h'
    refine ⟨_, rfl, _, rfl, d, c, 26, rfl, by decide, by decide, u.dr, fun k H3 k0 k1 u3 => ?_⟩
    obtain ⟨j, rfl⟩ : ∃ j : Nat, k = (j : Int) := ⟨k.toNat, by omega⟩
    have hj : j < LS.cps.toList.length := by
      rw [LS_list]
      show j < 26
      omega
    refine ⟨LS, _, LS.cps.toList[j], rfl, rfl, by decide +kernel, atI_nat (List.getElem?_eq_getElem hj), _, _, rfl, rfl, ?_, _, some (.int (0 + (i : Int))), rfl, ?_, ?_, u.trans u3⟩
    · show z.length + 1 ≤ sizeLine
      exact small1000 (n := z.length) (by omega)
    · rw [app_len, hz]
      rfl
    · rw [app_list, List.all_append, hlo, Bool.true_and]
      show (lowc LS.cps.toList[j] && true) = true
      rw [Bool.and_true]
      exact decide_eq_true (List.getElem_mem hj)
  · obtain ⟨z, y, rfl, hz, hlo, u⟩ := h'
    exact ⟨_, rfl, q z H' (isW_of (by omega) (by omega) hlo) u⟩
theorem c__law_hole (T : Tx K mg) : Cl P w K mg base CX0 3 "_law_hole" ["_law_draw"] sp_hole := by
  refine Cl.mk0 T.d__law_hole sc__law_hole (fun vs H Q E h => ?_) (fun f cdv A outer s H vs Q E hr h => ?_)
  · obtain ⟨d, c, rfl, _⟩ := h
    rfl
  obtain ⟨d, c, rfl, hD, q⟩ := h
  have fin : ∀ z H' l, z.cps.toList = 63 :: l → 1 ≤ l.length → l.length ≤ 4 → l.all lowc = true → DU d c H H' → Q (.str z) H' := fun z H' l e h1 h2 h3 u =>
    q z H' (isHl_of e h1 h2 h3) (by rw [len_list, e, List.length_cons]; omega) (fun x hx => by
      rw [e] at hx
      rcases List.mem_cons.mp hx with rfl | hx
      · decide
      · exact lowc_lt (List.all_eq_true.mp h3 x hx)) u
  refine ⟨_, (pss_cons (ps_if (pt_cmpR op_gt (pe_cl (c__law_take T) hr (by omega) rfl (pa_cons (pv 0) (pa_cons pe_int pa_nil))) pe_int (nomark _))
      (pss_one (ps_ret (pe_cl (c__law_pick T) hr (by omega) rfl (pa_cons (pv 0) (pa_cons (pe_lst (pa_cons pe_str (pa_cons pe_str (pa_cons pe_str pa_nil)))) pa_nil)))))
      pss_nil)
    (pss_cons (ps_set (i := 1) sc__law_hole.nd rfl (Or.inl rfl) pe_str)
    (pss_cons (ps_for PassesOwn.never rfl (pi_range1 (by rfl) T.z_range (pa_cons (pe_op op_add pe_int (pe_cl (c__law_take T) hr (by omega) rfl (pa_cons (pv 0) (pa_cons pe_int pa_nil)))) pa_nil)) (pg_name (i := 2) sc__law_hole.nd rfl (Or.inl rfl))
      (pss_one (ps_set (i := 1) sc__law_hole.nd rfl (Or.inl rfl) (pe_op op_add_str (pv 1) (pe_ix ix_str pe_str (pe_cl (c__law_take T) hr (by omega) rfl (pa_cons (pv 0) (pa_cons pe_int pa_nil))) (fun _ _ => rfl))))))
    (pss_one (ps_ret (pv 1)))))), ?_⟩
  refine ⟨_, rfl, d, c, 4, rfl, by decide, by decide, hD, fun r H1 r0 r1 u1 => ?_⟩
  refine ⟨_, _, rfl, rfl, _, rfl, ite2 (fun c1 => ?_) (fun c1 => ?_)⟩
  · refine ⟨_, rfl, by show 3 ≤ sizeLine; decide, fun p hp => ?_⟩
    obtain ⟨n1, n2⟩ := u1.dr.new hp
    refine ⟨d, c, p, _, rfl, u1.dr.same (same_new hp _), upd_same, n1, n2, by decide, by decide, fun v H' hv u' => ?_⟩
    have u := (u1.then (same_new hp _)).trans u'
    have hv' : v = .str "?x" ∨ v = .str "?y" ∨ v = .str "?z" := by simpa using hv
    rcases hv' with rfl | rfl | rfl
    · exact fin _ _ [120] (by decide +kernel) (by decide) (by decide) (by decide +kernel) u
    · exact fin _ _ [121] (by decide +kernel) (by decide) (by decide) (by decide +kernel) u
    · exact fin _ _ [122] (by decide +kernel) (by decide) (by decide) (by decide +kernel) u
  refine ⟨_, rfl, d, c, 4, rfl, by decide, by decide, u1.dr, fun m H2 m0 m1 u2 => ⟨_, _, rfl, rfl, _, rfl, by omega, by omega, ?_⟩⟩
  refine for_range (lo := 0) (n := (1 + m).toNat) (fun i σ H' => ∃ z y l, σ = [some (.ref d), some (.str z), y] ∧ z.cps.toList = 63 :: l ∧ l.length = i ∧ l.all lowc = true ∧ DU d c H H') ⟨"?", none, [], rfl, by decide +kernel, rfl, rfl, u1.trans u2⟩ (fun i σ H' hi h' => ?_) (fun σ H' h' => ?_)
  · obtain ⟨z, y, l, rfl, hz, hl, hlo, u⟩ := h'
    refine ⟨_, rfl, _, rfl, d, c, 26, rfl, by decide, by decide, u.dr, fun k H3 k0 k1 u3 => ?_⟩
    obtain ⟨j, rfl⟩ : ∃ j : Nat, k = (j : Int) := ⟨k.toNat, by omega⟩
    have hj : j < LS.cps.toList.length := by
      rw [LS_list]
      show j < 26
      omega
    have hzl : z.length = l.length + 1 := by rw [len_list, hz, List.length_cons]
    refine ⟨LS, _, LS.cps.toList[j], rfl, rfl, by decide +kernel, atI_nat (List.getElem?_eq_getElem hj), _, _, rfl, rfl, ?_, _, some (.int (0 + (i : Int))), l ++ [LS.cps.toList[j]], rfl, ?_, ?_, ?_, u.trans u3⟩
    · show z.length + 1 ≤ sizeLine
      exact small1000 (n := z.length) (by omega)
    · rw [app_list, hz]
      rfl
    · rw [List.length_append, hl]
      rfl
    · rw [List.all_append, hlo, Bool.true_and]
      show (lowc LS.cps.toList[j] && true) = true
      rw [Bool.and_true]
      exact decide_eq_true (List.getElem_mem hj)
  · obtain ⟨z, y, l, rfl, hz, hl, hlo, u⟩ := h'
    exact ⟨_, rfl, fin z H' l hz (by omega) (by omega) hlo u⟩
end
end Kt
namespace Kt
open PySem PySem.Spec PyProof.Rows L2
/-! ### patterns, as told -/
mutual
def Th.shape (h : Bool) : Th → Bool
  | .str z => h && isHl z
  | .tup l => shapeT h l
  | _ => false
/-- a tuple's items: a name, then parts -/
def shapeT (h : Bool) : List Th → Bool
  | [] => false
  | x :: ps => decide (ps.length < 4) && (x.word 8 && shapeL h ps)
def shapeL (h : Bool) : List Th → Bool
  | [] => true
  | p :: ps => p.shape h && shapeL h ps
end
mutual
def Th.size : Th → Int
  | .tup l => sizeT l
  | _ => 1
def sizeT : List Th → Int
  | [] => 1
  | _ :: ps => 1 + sizeL ps
def sizeL : List Th → Int
  | [] => 0
  | p :: ps => p.size + sizeL ps
end
mutual
def Th.dep : Th → Nat
  | .tup l => depT l
  | _ => 1
def depT : List Th → Nat
  | [] => 1
  | _ :: ps => 1 + depL ps
def depL : List Th → Nat
  | [] => 0
  | p :: ps => max p.dep (depL ps)
end
mutual
/-- how deep a thing's tuples lie -/
def Th.hgt : Th → Nat
  | .tup l => 1 + hgtL l
  | _ => 0
def hgtL : List Th → Nat
  | [] => 0
  | p :: ps => max p.hgt (hgtL ps)
end
theorem hgtL_le {m : Nat} : ∀ {l : List Th}, hgtL l ≤ m ↔ ∀ p ∈ l, p.hgt ≤ m
  | [] => ⟨fun _ _ h => (List.not_mem_nil h).elim, fun _ => Nat.zero_le _⟩
  | p :: ps => by
    show max p.hgt (hgtL ps) ≤ m ↔ _
    have ih := hgtL_le (m := m) (l := ps)
    constructor
    · intro h q hq
      rcases List.mem_cons.mp hq with rfl | hq
      · omega
      · exact ih.mp (by omega) q hq
    · intro h
      have h1 := h p (List.mem_cons_self ..)
      have h2 := ih.mpr fun q hq => h q (List.mem_cons_of_mem _ hq)
      omega
theorem shapeL_iff {h : Bool} : ∀ {l : List Th}, shapeL h l = true ↔ ∀ p ∈ l, p.shape h = true
  | [] => ⟨fun _ _ h => (List.not_mem_nil h).elim, fun _ => rfl⟩
  | p :: ps => by
    show (p.shape h && shapeL h ps) = true ↔ _
    rw [Bool.and_eq_true, shapeL_iff (l := ps)]
    constructor
    · rintro ⟨h1, h2⟩ q hq
      rcases List.mem_cons.mp hq with rfl | hq
      · exact h1
      · exact h2 q hq
    · exact fun h => ⟨h p (List.mem_cons_self ..), fun q hq => h q (List.mem_cons_of_mem _ hq)⟩
/-- a tuple of the shape has its items so -/
theorem shape_tup {h : Bool} {l : List Th} (e : (Th.tup l).shape h = true) : ∃ z ps, l = .str z :: ps ∧ ps.length < 4 ∧ isW z 8 = true ∧ ∀ p ∈ ps, p.shape h = true := by
  have e : shapeT h l = true := e
  cases l with
  | nil => cases e
  | cons x ps =>
    have e : (decide (ps.length < 4) && (x.word 8 && shapeL h ps)) = true := e
    simp only [Bool.and_eq_true, decide_eq_true_eq] at e
    obtain ⟨h1, h2, h3⟩ := e
    cases x with
    | str z => exact ⟨z, ps, rfl, h1, h2, shapeL_iff.mp h3⟩
    | _ => cases h2
theorem shape_of {h : Bool} {z : Str} {ps : List Th} (h1 : ps.length < 4) (h2 : isW z 8 = true) (h3 : ∀ p ∈ ps, p.shape h = true) : (Th.tup (.str z :: ps)).shape h = true := by
  show (decide (ps.length < 4) && ((Th.str z).word 8 && shapeL h ps)) = true
  rw [decide_eq_true h1, shapeL_iff.mpr h3]
  show (true && (isW z 8 && true)) = true
  rw [h2]
  rfl
/-! ### the law's word and the program's -/
def due (h : Bool) (t : Th) : Bool := t.shape h && (decide (t.size < 31) && decide ((t.dep : Int) < 6))
mutual
theorem size_pos : ∀ t : Th, 1 ≤ t.size
  | .tup [] => Int.le_refl 1
  | .tup (_ :: ps) => by
    have := sizeL_pos ps
    show 1 ≤ 1 + sizeL ps
    omega
  | .non | .bl _ | .int _ | .str _ | .ls | .dc => Int.le_refl 1
theorem sizeL_pos : ∀ l : List Th, 0 ≤ sizeL l
  | [] => Int.le_refl 0
  | p :: ps => by
    have h1 := size_pos p
    have h2 := sizeL_pos ps
    show 0 ≤ p.size + sizeL ps
    omega
end
theorem dep_pos (t : Th) : 1 ≤ t.dep := by
  cases t with
  | tup l =>
    cases l with
    | nil => exact Nat.le_refl 1
    | cons x ps => exact Nat.le_add_right 1 (depL ps)
  | _ => exact Nat.le_refl 1
theorem hole_shape {t : Th} (h : t.hole = true) (b : Bool) : t.shape b = b ∧ t.size = 1 ∧ t.dep = 1 := by
  cases t with
  | str z =>
    refine ⟨?_, rfl, rfl⟩
    show (b && isHl z) = b
    rw [show isHl z = true from h, Bool.and_true]
  | _ => cases h
/-- what the program's walk tells -/
theorem sw_eq (b : Bool) : ∀ (d : Nat) (t : Th), sw b d t = if t.shape b = true ∧ t.dep ≤ d then t.size else 0
  | 0, t => by
    have := dep_pos t
    rw [if_neg (fun h => by omega)]
    rfl
  | d + 1, t => by
    unfold sw
    by_cases hh : t.hole = true
    · obtain ⟨e1, e2, e3⟩ := hole_shape hh b
      rw [if_pos hh, e1, e2, e3]
      cases b with
      | true => rw [if_pos rfl, if_pos ⟨rfl, by omega⟩]
      | false => rw [if_neg Bool.false_ne_true, if_neg fun h => by cases h.1]
    · rw [if_neg hh]
      have loop : ∀ (ps : List Th) (acc : Int), 1 ≤ acc → swl (sw b d) acc ps = if shapeL b ps = true ∧ depL ps ≤ d then acc + sizeL ps else 0 := by
        intro ps
        induction ps with
        | nil =>
          intro acc _
          rw [if_pos ⟨rfl, Nat.zero_le _⟩]
          show acc = acc + 0
          omega
        | cons p ps ih =>
          intro acc ha
          show (if sw b d p = 0 then 0 else swl (sw b d) (acc + sw b d p) ps) = _
          have hp := sw_eq b d p
          have sp := size_pos p
          by_cases c : p.shape b = true ∧ p.dep ≤ d
          · rw [if_pos c] at hp
            rw [hp, if_neg (by omega), ih (acc + p.size) (by omega)]
            by_cases c2 : shapeL b ps = true ∧ depL ps ≤ d
            · rw [if_pos c2, if_pos ⟨by show (p.shape b && shapeL b ps) = true; rw [c.1, c2.1]; rfl, by show max p.dep (depL ps) ≤ d; omega⟩]
              show acc + p.size + sizeL ps = acc + (p.size + sizeL ps)
              omega
            · rw [if_neg c2, if_neg]
              rintro ⟨h1, h2⟩
              have h1 : (p.shape b && shapeL b ps) = true := h1
              have h2 : max p.dep (depL ps) ≤ d := h2
              rw [Bool.and_eq_true] at h1
              exact c2 ⟨h1.2, by omega⟩
          · rw [if_neg c] at hp
            rw [hp, if_pos rfl, if_neg]
            rintro ⟨h1, h2⟩
            have h1 : (p.shape b && shapeL b ps) = true := h1
            have h2 : max p.dep (depL ps) ≤ d := h2
            rw [Bool.and_eq_true] at h1
            exact c ⟨h1.1, by omega⟩
      cases t with
      | tup l =>
        cases l with
        | nil => rw [if_neg fun h => by cases h.1]
        | cons x ps =>
          show (if ps.length ≤ 3 ∧ x.word 8 = true then swl (sw b d) 1 ps else 0) = if (decide (ps.length < 4) && (x.word 8 && shapeL b ps)) = true ∧ 1 + depL ps ≤ d + 1 then 1 + sizeL ps else 0
          rw [loop ps 1 (Int.le_refl 1)]
          by_cases c1 : ps.length ≤ 3 ∧ x.word 8 = true
          · rw [if_pos c1, c1.2, decide_eq_true (by omega : ps.length < 4), Bool.true_and, Bool.true_and]
            by_cases c2 : shapeL b ps = true ∧ depL ps ≤ d
            · rw [if_pos c2, if_pos ⟨c2.1, by omega⟩]
            · rw [if_neg c2, if_neg fun h => c2 ⟨h.1, by omega⟩]
          · rw [if_neg c1, if_neg]
            rintro ⟨h1, _⟩
            simp only [Bool.and_eq_true, decide_eq_true_eq] at h1
            exact c1 ⟨by omega, h1.2.1⟩
      | str z =>
        rw [if_neg]
        rintro ⟨h1, _⟩
        have h1 : (b && isHl z) = true := h1
        rw [Bool.and_eq_true] at h1
        exact hh h1.2
      | _ => rw [if_neg fun h => by cases h.1]
theorem within_due (b : Bool) (t : Th) : within b t = due b t := by
  unfold within due
  rw [sw_eq]
  have hs := size_pos t
  by_cases c : t.shape b = true ∧ t.dep ≤ 5
  · rw [if_pos c, c.1, decide_eq_true hs, decide_eq_true (by omega : (t.dep : Int) < 6), Bool.true_and, Bool.true_and, Bool.and_true]
    exact decide_eq_decide.mpr (by omega)
  · rw [if_neg c, decide_eq_false (by decide : ¬ (1 : Int) ≤ 0), Bool.false_and]
    by_cases c1 : t.shape b = true
    · rw [c1, decide_eq_false (fun h => c ⟨c1, by omega⟩ : ¬ (t.dep : Int) < 6), Bool.and_false, Bool.and_false]
    · rw [Bool.eq_false_iff.mpr c1, Bool.false_and]
theorem range_map_getD {α β : Type} (d : α) (l : List α) (g : α → β) : ((List.range l.length).map fun i => g (l.getD i d)) = l.map g := by
  apply List.ext_getElem
  · rw [List.length_map, List.length_map, List.length_range]
  · intro i h1 h2
    rw [List.length_map, List.length_range] at h1
    rw [List.getElem_map, List.getElem_map, List.getElem_range, List.getD_eq_getElem?_getD, List.getElem?_eq_getElem h1]
    rfl
/-- a comprehension over the parts of a tuple, each told by f -/
theorem lc_parts {K : PySem.W.Frag} {H0 : Hp} {p D : Addr} {ys : List V} {ps : List Th} {σ : L2.St} {vs : List Nat} {j : Nat} {Qd : Hp → Prop} {te : TE} (f : Th → V) (hp : H0 p = some (.tup ys)) (hr : RepL H0 ys ps) (hn : ys.length ≤ 100) (hD : H0 D = none)
    (hset : ∀ x, wipe ((wipe σ vs).set j (some x)) vs = wipe σ vs) (he : ∀ x t H', Same H0 H' → t ∈ ps → Rep H' x t → ∀ Q : VK, (∀ H2, Same H' H2 → Q (f t) H2) → te ((wipe σ vs).set j (some x)) H' Q)
    (hd : ∀ H', Same H0 H' → H' D = some (.lst (ps.map f)) → Qd H') :
    ∃ W : Nat → Nat → Hp → Prop, (∃ m, W 0 m (upd H0 D (.lst []))) ∧ ∀ i m H, W i m H →
      ((Itt K p).stop i H ∧ Qd H) ∨ ((Itt K p).go i H ∧ ∃ Nx : Hp → Prop, (∀ H', Nx H' → ∃ m', m' < m ∧ W (i + 1) m' H') ∧ ∀ x H', (Itt K p).yld i H x H' → gName j x (wipe σ vs) H' fun σ2 H2 => wipe σ2 vs = wipe σ vs ∧ tYes σ2 H2 fun b H3 =>
        if b = true then te σ2 H3 fun y H4 => ∃ acc, H4 D = some (.lst acc) ∧ acc.length < sizeLine ∧ Nx (upd H4 D (.lst (acc ++ [y]))) else Nx H3) := by
  have hl := hr.length
  refine lc_pure (walk_tup (K := K)) (fun i => f (ps.getD i .non)) hD (by omega) (fun H' s' => SqT.of (s' _ _ hp)) hset (fun i x H H' hi s1 y => ?_) (fun H' s' e => hd H' s' ?_)
  · obtain ⟨rfl, hx⟩ := y
    obtain ⟨t, ht, rt⟩ := (hr.wk (Wk.same s1)).get' hx
    refine ⟨Same.refl _, fun Q q => ?_⟩
    have e : ps.getD i .non = t := by rw [List.getD_eq_getElem?_getD, ht]; rfl
    rw [e] at q
    exact he x t _ s1 (List.mem_of_getElem? ht) rt Q q
  · rw [e, hl, range_map_getD]
theorem hgt_part {m : Nat} {l : List Th} (h : (Th.tup l).hgt < m + 1) : ∀ p ∈ l, p.hgt < m := fun p hp => by
  have h : 1 + hgtL l < m + 1 := h
  have := hgtL_le.mp (Nat.le_refl (hgtL l)) p hp
  omega
theorem all_map {ps : List Th} {b : Bool} : (ps.map fun t => t.shape b).all id = shapeL b ps := by
  induction ps with
  | nil => rfl
  | cons p ps ih =>
    rw [List.map_cons, List.all_cons, ih]
    rfl
theorem sum_map {ps : List Th} : (ps.map fun t => t.size).sum = sizeL ps := by
  induction ps with
  | nil => rfl
  | cons p ps ih =>
    rw [List.map_cons, List.sum_cons, ih]
    rfl
theorem max_map {ps : List Th} {m : Int} (h1 : m ∈ ps.map fun t => (t.dep : Int)) (h2 : ∀ y ∈ ps.map (fun t => (t.dep : Int)), y ≤ m) : m = (depL ps : Int) := by
  have g : ∀ l : List Th, (∀ t ∈ l, (t.dep : Int) ≤ m) → (depL l : Int) ≤ m ∨ l = [] := by
    intro l
    induction l with
    | nil => exact fun _ => .inr rfl
    | cons p ps ih =>
      intro h
      have a := h p (List.mem_cons_self ..)
      rcases ih fun t ht => h t (List.mem_cons_of_mem _ ht) with b | b
      · left
        show ((max p.dep (depL ps) : Nat) : Int) ≤ m
        omega
      · left
        subst b
        show ((max p.dep 0 : Nat) : Int) ≤ m
        omega
  have g2 : ∀ l : List Th, ∀ t ∈ l, t.dep ≤ depL l := by
    intro l
    induction l with
    | nil => exact fun t h => (List.not_mem_nil h).elim
    | cons p ps ih =>
      intro t h
      show t.dep ≤ max p.dep (depL ps)
      rcases List.mem_cons.mp h with rfl | h
      · omega
      · have := ih t h
        omega
  obtain ⟨t, ht, rfl⟩ := List.mem_map.mp h1
  have a := g2 ps t ht
  rcases g ps fun u hu => h2 _ (List.mem_map.mpr ⟨u, hu, rfl⟩) with b | b
  · omega
  · subst b
    exact (List.not_mem_nil ht).elim
theorem within_iff {b : Bool} {t : Th} : within b t = true ↔ t.shape b = true ∧ t.dep ≤ 5 ∧ t.size ≤ 30 := by
  rw [within_due]
  unfold due
  rw [Bool.and_eq_true, Bool.and_eq_true, decide_eq_true_eq, decide_eq_true_eq]
  constructor
  · rintro ⟨h1, h2, h3⟩
    exact ⟨h1, by omega, by omega⟩
  · rintro ⟨h1, h2, h3⟩
    exact ⟨h1, by omega, by omega⟩
mutual
theorem hgt_dep {b : Bool} : ∀ t : Th, t.shape b = true → t.hgt ≤ t.dep
  | .str z, _ => Nat.zero_le _
  | .tup [], h => by cases h
  | .tup (x :: ps), h => by
    have h : (decide (ps.length < 4) && (x.word 8 && shapeL b ps)) = true := h
    simp only [Bool.and_eq_true, decide_eq_true_eq] at h
    have h2 := hgtL_dep ps h.2.2
    have h3 : x.hgt = 0 := by
      cases x with
      | str z => rfl
      | _ => cases h.2.1
    show 1 + max x.hgt (hgtL ps) ≤ 1 + depL ps
    omega
  | .non, h | .bl _, h | .int _, h | .ls, h | .dc, h => by cases h
theorem hgtL_dep {b : Bool} : ∀ l : List Th, shapeL b l = true → hgtL l ≤ depL l
  | [], _ => Nat.le_refl 0
  | p :: r, h => by
    have h : (p.shape b && shapeL b r) = true := h
    rw [Bool.and_eq_true] at h
    have h1 := hgt_dep p h.1
    have h2 := hgtL_dep r h.2
    show max p.hgt (hgtL r) ≤ max p.dep (depL r)
    omega
end
theorem size_part {p : Th} : ∀ {l : List Th}, p ∈ l → p.size ≤ sizeL l
  | q :: r, h => by
    show p.size ≤ q.size + sizeL r
    rcases List.mem_cons.mp h with rfl | h
    · have := sizeL_pos r
      omega
    · have h1 := size_part h
      have := size_pos q
      omega
end Kt
namespace Kt
open PySem PySem.Spec PyProof.Rows L2
/-- a pattern of at most n levels -/
def sp_pattern (n : Nat) : Sp := fun vs H Q _ => ∃ (d c : Addr) (left : Nat) (b : Bool), vs = [.ref d, .int (left : Int), .bl b] ∧ 1 ≤ left ∧ left ≤ n ∧ Dr d c H ∧
  ∀ v t H', Rep H' v t → t.shape b = true → t.hgt ≤ left → DU d c H H' → Q v H'
theorem RepL.mem {H : Hp} : ∀ {vs : List V} {ts : List Th} {v : V}, RepL H vs ts → v ∈ vs → ∃ t, t ∈ ts ∧ Rep H v t
  | _, _, _, .nil, h => (List.not_mem_nil h).elim
  | _, _, _, .cons h r, hm => by
    rcases List.mem_cons.mp hm with rfl | hm
    · exact ⟨_, List.mem_cons_self .., h⟩
    · obtain ⟨t, h1, h2⟩ := RepL.mem r hm
      exact ⟨t, List.mem_cons_of_mem _ h1, h2⟩
theorem RepL.one {H : Hp} {v : V} {t : Th} (h : Rep H v t) : RepL H [v] [t] := .cons h .nil
/-- a list changed is a list still -/
theorem Wk.lst_upd {H : Hp} {D : Addr} {xs : List V} (h : H D = some (.lst xs)) (ys : List V) : Wk H (upd H D (.lst ys)) :=
  ⟨fun a zs q => by rw [upd_ne (ne_of q h fun e => nomatch e)]; exact q, fun a zs q => by
    by_cases e : a = D
    · subst e
      exact ⟨_, upd_same⟩
    · exact ⟨zs, by rw [upd_ne e]; exact q⟩, fun a zs q => ⟨zs, by rw [upd_ne (ne_of q h fun e => nomatch e)]; exact q⟩⟩
/-- two tuples put together -/
theorem catA {K : PySem.W.Frag} {H : Hp} {a b : Addr} {xs ys : List V} {Q : VK} (ha : H a = some (.tup xs)) (hb : H b = some (.tup ys)) (hx : xs ≠ []) (hl : xs.length + ys.length ≤ 200) (q : ∀ p H', Same H H' → H' p = some (.tup (xs ++ ys)) → Q (.ref p) H') : rCatA K (.ref a) (.ref b) H Q := by
  refine ⟨a, b, xs, ys, rfl, rfl, SqT.of ha, SqT.of hb, Nat.le_of_lt (small1000 (by omega)), fun e => absurd e hx, fun _ e => ?_, fun _ _ p hp => q p _ (same_new hp _) upd_same⟩
  subst e
  exact q a H (Same.refl H) (by rw [List.append_nil]; exact ha)
section
variable {P : Program} {w : World} {K : PySem.W.Frag} {mg : Str → Option Value} {base : Heap}
theorem c__law_pattern_n (T : Tx K mg) : ∀ n : Nat, Cl P w K mg base CX0 (n + 3) "_law_pattern" ["_law_draw", "_law_left", "_law_holed"] (sp_pattern n)
  | 0 => Cl.no T.d__law_pattern fun vs H Q E h => by
    obtain ⟨d, c, left, b, _, h1, h2, _⟩ := h
    omega
  | n + 1 => by
    have ih := c__law_pattern_n T n
    refine Cl.mk0 T.d__law_pattern sc__law_pattern (fun vs H Q E h => ?_) (fun f cdv A outer s H vs Q E hr h => ?_)
    · obtain ⟨d, c, left, b, rfl, _⟩ := h
      rfl
    obtain ⟨d, c, left, b, rfl, h1, h2, hD, q⟩ := h
    refine ⟨_, (Evl.pss_cut (ps_if (PW.pt (pw_and (pt_val (pv 2)) (pw_and1 (pt_cmpR op_eq (pe_cl (c__law_take T) hr (by omega) rfl (pa_cons (pv 0) (pa_cons pe_int pa_nil))) pe_int (nomark _)))))
      (pss_one (ps_ret (pe_cl (c__law_hole T) hr (by omega) rfl (pa_cons (pv 0) pa_nil))))
      pss_nil)
    (Evl.pss_cut (ps_set (i := 3) sc__law_pattern.nd rfl (Or.inl rfl) (pe_ifExp (pt_cmpR op_gt (pv 1) pe_int (nomark _)) (pe_cl (c__law_take T) hr (by omega) rfl (pa_cons (pv 0) (pa_cons pe_int pa_nil))) pe_int))
    (pss_one (ps_ret (pe_callTy call_tuple_of (by rfl) T.z_tuple (by decide +kernel) (pa_cons (pe_op op_cat (pe_lst (pa_cons (pe_cl (c__law_word T) hr (by omega) rfl (pa_cons (pv 0) pa_nil)) pa_nil)) (pe_lc (own := [("_law_k", 4)]) (g := gName 4) (tt := tYes) rfl sc__law_pattern.nd (pi_range1 (by rfl) T.z_range (pa_cons (pv 3) pa_nil)) (blkOk_by (own := [("_law_k", 4)]) (N := ["_law_draw", "_law_left", "_law_holed", "_law_many", "_law_k"]) (sc := defScope s__law_pattern) (by decide +kernel)) (fun _ _ _ _ _ => (pg_name (i := 4) sc__law_pattern.nd rfl (Or.inl rfl))) (fun _ _ _ _ _ => pts_nil) (fun _ _ _ _ _ => (pe_cl ih hr (by omega) rfl (pa_cons (pv 0) (pa_cons (pe_op op_sub (pv 1) pe_int) (pa_cons (pv 2) pa_nil))))))) pa_nil)))))), ?_⟩
    refine ⟨fun σ' H' => σ' = [some (.ref d), some (.int (left : Int)), some (.bl b), none, none] ∧ DU d c H H', ?_, fun σ1 H1 h1' => ?_⟩
    · cases b with
      | false => exact ⟨_, rfl, _, rfl, iteF (iteF ⟨rfl, DU.refl hD⟩)⟩
      | true =>
        refine ⟨_, rfl, _, rfl, iteT ⟨_, rfl, d, c, 4, rfl, by decide, by decide, hD, fun r H1 r0 r1 u1 => ⟨rfl, _, rfl, ite2 (fun c1 => ?_) (fun c1 => ?_)⟩⟩⟩
        · exact ⟨_, rfl, d, c, rfl, u1.dr, fun z H2 hz hl ok u2 => q _ (.str z) H2 (.str z (by omega) ok) hz (Nat.zero_le _) (u1.trans u2)⟩
        · exact ⟨rfl, u1⟩
    obtain ⟨rfl, u1⟩ := h1'
    refine ⟨fun σ' H' => ∃ m : Int, σ' = [some (.ref d), some (.int (left : Int)), some (.bl b), some (.int m), none] ∧ 0 ≤ m ∧ m < 4 ∧ (m = 0 ∨ 1 < left) ∧ DU d c H H', ?_, fun σ2 H2 h2' => ?_⟩
    · refine ⟨_, rfl, _, _, rfl, rfl, _, rfl, ite2 (fun c1 => ?_) (fun c1 => ?_)⟩
      · have c1' : (1 : Int) < (left : Int) := of_decide_eq_true c1
        exact ⟨_, rfl, d, c, 4, rfl, by decide, by decide, u1.dr, fun r H2 r0 r1 u2 => ⟨r, rfl, r0, r1, .inr (by omega), u1.trans u2⟩⟩
      · exact ⟨0, rfl, by decide, by decide, .inl rfl, u1⟩
    obtain ⟨m, rfl, m0, m4, hm, u2⟩ := h2'
    refine ⟨_, rfl, d, c, rfl, u2.dr, fun z H3 hz u3 => ⟨by show 1 ≤ sizeLine; decide, fun p hp => ?_⟩⟩
    have u4 := (u2.trans u3).then (same_new (o := .lst [.str z]) hp)
    obtain ⟨n1, n2⟩ := u3.dr.new hp
    refine ⟨_, rfl, m, rfl, by omega, by omega, fun D hD' => ?_⟩
    obtain ⟨n3, n4⟩ := u4.dr.new hD'
    have npD : p ≠ D := ne_of_none upd_same hD'
    refine lc_range (lo := 0) (n := m.toNat) (fun i H' => ∃ vs ts, DU d c H H' ∧ H' p = some (.lst [.str z]) ∧ H' D = some (.lst vs) ∧ vs.length = i ∧ RepL H' vs ts ∧ ∀ t ∈ ts, t.shape b = true ∧ t.hgt < left) ⟨[], [], u4.then (same_new hD' _), by rw [upd_ne npD]; exact upd_same, upd_same, rfl, .nil, fun t h => (List.not_mem_nil h).elim⟩ (fun i H' hi h' => ?_) (fun H' h' => ?_)
    · obtain ⟨vs, ts, u, hpH, hDH, hl, hr', hts⟩ := h'
      refine ⟨rfl, yesI ?_⟩
      refine ⟨_, rfl, _, rfl, _, _, rfl, rfl, _, rfl, d, c, left - 1, b, ?_, by omega, by omega, u.dr, fun v t H4 rv sh hg u5 => ?_⟩
      · show [V.ref d, V.int ((left : Int) - 1), V.bl b] = _
        rw [show (left : Int) - 1 = ((left - 1 : Nat) : Int) by omega]
      · have w5 := DU.wk u.dr u5
        have hD4 := u5.old _ _ n3 n4 hDH
        refine ⟨vs, hD4, small1000 (by omega), vs ++ [v], ts ++ [t], ?_, ?_, upd_same, ?_, ?_, ?_⟩
        · refine ⟨fun a o a1 a2 h => ?_, ?_⟩
          · have e : a ≠ D := fun e => by
              subst e
              rw [u4.old _ _ a1 a2 h] at hD'
              cases hD'
            rw [upd_ne e]
            exact u5.old _ _ a1 a2 (u.old _ _ a1 a2 h)
          · obtain ⟨cells, at', mix, e1, e2, r⟩ := u5.dr
            exact ⟨cells, at', mix, by rw [upd_ne n3.symm]; exact e1, by rw [upd_ne n4.symm]; exact e2, r⟩
        · rw [upd_ne npD]
          exact u5.old _ _ n1 n2 hpH
        · rw [List.length_append, hl]
          rfl
        · exact ((hr'.wk w5).append (RepL.one rv)).wk (Wk.lst_upd hD4 _)
        · intro t' ht'
          rcases List.mem_append.mp ht' with h | h
          · exact hts t' h
          · rw [List.mem_singleton.mp h]
            exact ⟨sh, by omega⟩
    · obtain ⟨vs, ts, u, hpH, hDH, hl, hr', hts⟩ := h'
      refine ⟨p, D, _, _, rfl, rfl, hpH, hDH, ?_, fun L hL => ?_⟩
      · show 1 + vs.length ≤ sizeLine
        exact Nat.le_of_lt (small1000 (by omega))
      · have s5 := same_new (o := .lst ([.str z] ++ vs)) hL
        refine ⟨L, _, rfl, .inl ⟨SqL.of upd_same, fun M hM => ?_⟩⟩
        have s6 := s5.trans (same_new (o := .tup ([.str z] ++ vs)) hM)
        have hlen := hr'.length
        refine q _ (.tup (.str z :: ts)) _ (.tup upd_same ?_ (.cons (isW_rep hz (by decide)) (hr'.wk (Wk.same s6)))) (shape_of (by omega) hz fun t ht => (hts t ht).1) ?_ (u.then s6)
        · rw [List.length_append, List.length_singleton]
          omega
        · have hh : hgtL ts ≤ left - 1 := hgtL_le.mpr fun t ht => by
            have := (hts t ht).2
            omega
          show 1 + max 0 (hgtL ts) ≤ left
          omega
theorem c__law_pattern (T : Tx K mg) : Cl P w K mg base CX0 8 "_law_pattern" ["_law_draw", "_law_left", "_law_holed"] (sp_pattern 5) := c__law_pattern_n T 5
end
end Kt
namespace Kt
open PySem PySem.Spec PyProof.Rows L2
mutual
/-- a pattern and all in it, from left to right -/
def allW : Th → List Th
  | .tup l => .tup l :: allT l
  | t => [t]
def allT : List Th → List Th
  | [] => []
  | _ :: ps => allL ps
def allL : List Th → List Th
  | [] => []
  | p :: ps => allW p ++ allL ps
end
mutual
theorem allW_len : ∀ t : Th, ((allW t).length : Int) = t.size
  | .tup [] => rfl
  | .tup (x :: ps) => by
    have := allL_len ps
    show (((.tup (x :: ps) :: allL ps : List Th).length : Nat) : Int) = 1 + sizeL ps
    rw [List.length_cons]
    omega
  | .non | .bl _ | .int _ | .str _ | .ls | .dc => rfl
theorem allL_len : ∀ l : List Th, ((allL l).length : Int) = sizeL l
  | [] => rfl
  | p :: ps => by
    have h1 := allW_len p
    have h2 := allL_len ps
    show (((allW p ++ allL ps).length : Nat) : Int) = p.size + sizeL ps
    rw [List.length_append]
    omega
end
end Kt
namespace Kt
open PySem PySem.Spec PyProof.Rows L2
/-! ### texts of patterns -/
def hdc : Th → List Nat | .str z => z.cps.toList | _ => []
open TL in
mutual
def Th.wl : Th → List Nat
  | .str z => z.cps.toList
  | .tup l => wlT l
  | _ => []
def wlT : List Th → List Nat
  | [] => []
  | x :: ps => match ps with
    | [] => hdc x
    | p :: r => hdc x ++ (40 :: (joinL [44] (p.wl :: wlL r) ++ [41]))
def wlL : List Th → List (List Nat)
  | [] => []
  | p :: ps => p.wl :: wlL ps
end
def Th.wr (t : Th) : Str := ⟨t.wl.toArray⟩
theorem wlL_map : ∀ l : List Th, wlL l = l.map Th.wl
  | [] => rfl
  | p :: ps => congrArg (p.wl :: ·) (wlL_map ps)
theorem wr_list (t : Th) : t.wr.cps.toList = t.wl := rfl
theorem wr_len (t : Th) : t.wr.length = t.wl.length := rfl
theorem wl_tup (x p : Th) (r : List Th) : (Th.tup (x :: p :: r)).wl = hdc x ++ (40 :: (TL.joinL [44] ((p :: r).map Th.wl) ++ [41])) := by
  rw [← wlL_map]
  rfl
theorem joinL_len (S : List Nat) : ∀ l : List (List Nat), (TL.joinL S l).length + S.length ≤ (l.map List.length).sum + l.length * S.length + S.length
  | [] => by simp [TL.joinL]
  | [p] => by simp [TL.joinL]
  | p :: q :: r => by
    have ih := joinL_len S (q :: r)
    show (p ++ (S ++ TL.joinL S (q :: r))).length + S.length ≤ _
    rw [List.length_append, List.length_append, List.map_cons, List.sum_cons, List.length_cons, Nat.succ_mul]
    omega
mutual
theorem wl_bound {b : Bool} : ∀ t : Th, t.shape b = true → (t.wl.length : Int) ≤ 16 * t.size
  | .str z, h => by
    have h : (b && isHl z) = true := h
    rw [Bool.and_eq_true] at h
    have h2 := h.2
    unfold isHl at h2
    rw [Bool.and_eq_true] at h2
    have h3 := (isW_out h2.2).2.1
    have e2 : (cutS z (some 1) none).length + 1 ≥ z.length := by
      show ((z.cps.toList.drop (HT.sIx z.length 0 (some ((1 : Nat) : Int)))).take (HT.sIx z.length z.length none - HT.sIx z.length 0 (some ((1 : Nat) : Int)))).length + 1 ≥ z.cps.size
      rw [HT.sIx_nat, HT.sIx_none, List.length_take, List.length_drop, Array.length_toList]
      have : z.length = z.cps.size := rfl
      omega
    show ((z.cps.toList.length : Nat) : Int) ≤ 16 * 1
    have : z.length = z.cps.toList.length := rfl
    omega
  | .tup [], h => by cases h
  | .tup (x :: ps), h => by
    have h : (decide (ps.length < 4) && (x.word 8 && shapeL b ps)) = true := h
    simp only [Bool.and_eq_true, decide_eq_true_eq] at h
    have hw : (hdc x).length ≤ 8 := by
      cases x with
      | str z =>
        have h3 := (isW_out (show isW z 8 = true from h.2.1)).2.1
        have : (hdc (.str z)).length = z.length := rfl
        omega
      | _ => exact Nat.zero_le _
    have hs := wlL_bound ps h.2.2
    have sp := sizeL_pos ps
    cases ps with
    | nil =>
      show (((hdc x).length : Nat) : Int) ≤ 16 * (1 + 0)
      omega
    | cons p r =>
      have hj := joinL_len [44] ((p :: r).map Th.wl)
      rw [List.length_map, List.length_singleton, List.map_map] at hj
      rw [wl_tup, List.length_append, List.length_cons, List.length_append, List.length_singleton]
      show _ ≤ 16 * (1 + sizeL (p :: r))
      have h4 := h.1
      have e : (List.map (List.length ∘ Th.wl) (p :: r)).sum = ((p :: r).map fun t => t.wl.length).sum := rfl
      rw [e] at hj
      omega
  | .non, h | .bl _, h | .int _, h | .ls, h | .dc, h => by cases h
theorem wlL_bound {b : Bool} : ∀ l : List Th, shapeL b l = true → (((l.map fun t => t.wl.length).sum : Nat) : Int) ≤ 16 * sizeL l
  | [], _ => Int.le_refl 0
  | p :: r, h => by
    have h : (p.shape b && shapeL b r) = true := h
    rw [Bool.and_eq_true] at h
    have h1 := wl_bound p h.1
    have h2 := wlL_bound r h.2
    rw [List.map_cons, List.sum_cons]
    show _ ≤ 16 * (p.size + sizeL r)
    omega
end
end Kt
namespace Kt
open PySem PySem.Spec PyProof.Rows L2
/-! ### a law's own walk: texts -/
def sp_lwritten (n : Nat) : Sp := fun vs H Q _ => ∃ v t b, vs = [v] ∧ t.hgt < n ∧ t.shape b = true ∧ t.size ≤ 5000 ∧ Rep H v t ∧ ∀ H', Same H H' → Q (.str t.wr) H'
theorem size_in {t : Th} {z : Str} {ps : List Th} (h : t ∈ ps) : t.size + 1 ≤ (Th.tup (.str z :: ps)).size := by
  have key : ∀ l : List Th, t ∈ l → t.size ≤ sizeL l := by
    intro l
    induction l with
    | nil => exact fun h => (List.not_mem_nil h).elim
    | cons p r ih =>
      intro h
      have h1 := allL_len r
      have h2 := allW_len p
      show t.size ≤ p.size + sizeL r
      rcases List.mem_cons.mp h with rfl | h
      · omega
      · have := ih h
        omega
  have := key ps h
  show _ ≤ 1 + sizeL ps
  omega
section
variable {P : Program} {w : World} {K : PySem.W.Frag} {mg : Str → Option Value} {base : Heap}
theorem c__law_written (T : Tx K mg) : ∀ n : Nat, Cl P w K mg base CX0 (n + 1) "_law_written" ["_law_one"] (sp_lwritten n)
  | 0 => Cl.no T.d__law_written fun vs H Q E h => by
    obtain ⟨v, t, b, _, hd, _⟩ := h
    exact absurd hd (Nat.not_lt_zero _)
  | n + 1 => by
    have ih := c__law_written T n
    refine Cl.mk0 T.d__law_written sc__law_written (fun vs H Q E h => ?_) (fun f cdv A outer s H vs Q E hr h => ?_)
    · obtain ⟨v, t, b, rfl, _⟩ := h
      rfl
    obtain ⟨v, t, b, rfl, hd, hs, hz, r, q⟩ := h
    refine ⟨_, (pss_cons (ps_if (pt_val (pe_callB (id := "isinstance") (r := rIsi K) call_isi (by rfl) T.z_isinstance (by decide +kernel) (pa_cons (pv 0) (pa_cons (pe_bltn (v := .ty "str") (u := .type "str") (by rfl) T.z_str (by decide +kernel) rfl) pa_nil))))
      (pss_one (ps_ret (pv 0)))
      pss_nil)
    (pss_cons (ps_set (i := 1) sc__law_written.nd rfl (Or.inl rfl) (pe_join pe_str (pe_lc (own := [("_law_part", 2)]) (g := gName 2) (tt := tYes) rfl sc__law_written.nd (pi_tup (pe_slice (SlR.or sl_str sl_tupA) (pv 0) (po_some pe_int) po_no)) (blkOk_by (own := [("_law_part", 2)]) (N := ["_law_one", "_law_inner", "_law_part"]) (sc := defScope s__law_written) (by decide +kernel)) (fun _ _ _ _ _ => (pg_name (i := 2) sc__law_written.nd rfl (Or.inl rfl))) (fun _ _ _ _ _ => pts_nil) (fun _ _ _ _ _ => (pe_cl ih hr (by omega) rfl (pa_cons (pv 2) pa_nil))))))
    (pss_one (ps_ret (pe_ifExp (pt_cmpR op_gt (pe_callB call_len (by rfl) T.z_len (by decide +kernel) (pa_cons (pv 0) pa_nil)) pe_int (nomark _)) (pe_op op_add_str (pe_op op_add_str (pe_op op_add_str (pe_ix ix_tup (pv 0) pe_int (fun _ _ => rfl)) pe_str) (pv 1)) pe_str) (pe_ix ix_tup (pv 0) pe_int (fun _ _ => rfl))))))), ?_⟩
    refine ⟨_, rfl, _, _, _, _, _, rfl, .ty _, r.tyx, kstr t, _, rfl, ?_⟩
    have hb := wl_bound t hs
    cases r with
    | str z hz' ok =>
      refine iteT ⟨_, rfl, ?_⟩
      have e : (Th.str z).wr = z := str_ext rfl
      rw [e] at q
      exact q H (Same.refl H)
    | @tup a xs l ha hn hl =>
      obtain ⟨z, ps, rfl, h4, h8, hall⟩ := shape_tup hs
      cases hl with
      | @cons y ys _ _ hx hps =>
        have hlen := hps.length
        have hsz : (Th.tup (.str z :: ps)).size = 1 + sizeL ps := rfl
        refine iteF ⟨⟨_, rfl⟩, _, rfl, 1, rfl, .inr (sl_lo (K := K) 1 ha (by omega) (by rw [List.length_cons]; omega) fun p hp => ?_)⟩
        refine ⟨p, rfl, ⟨ys, SqT.of upd_same⟩, fun D hD => ?_⟩
        have s2 := same_new (o := .tup ys) hp
        refine lc_parts (ys := ys) (ps := ps) (fun t => .str t.wr) upd_same (hps.wk (Wk.same s2)) (by rw [List.length_cons] at hn; omega) hD (fun _ => rfl) (fun x' t' H' sH ht rt Q' q' => ?_) (fun H' sH e => ?_)
        · have := size_in (z := z) ht
          exact ⟨_, rfl, x', t', b, rfl, hgt_part hd t' (List.mem_cons_of_mem _ ht), hall t' ht, by omega, rt, fun H2 s3 => q' H2 s3⟩
        · have hbp := wlL_bound (b := b) ps (shapeL_iff.mpr hall)
          have hsum : ((ps.map Th.wr).map fun x => x.length).sum = (ps.map fun t => t.wl.length).sum := by
            rw [List.map_map]
            rfl
          refine ⟨_, D, ps.map Th.wr, rfl, rfl, .inl (SqL.of ?_), ?_, ?_⟩
          · rw [e, List.map_map]
            rfl
          · have e2 : (List.map (fun x => x.length) (List.map Th.wr ps)).sum = (ps.map fun t => t.wl.length).sum := hsum
            rw [e2, List.length_map]
            show _ + ps.length * 1 ≤ 16777216
            omega
          · have ha' := (s2.trans sH) _ _ ha
            have jl : (Txt.join "," (ps.map Th.wr)).cps.toList = TL.joinL [44] (ps.map Th.wl) := by
              rw [TL.join_eq]
              have := TL.tl_join "," (ps.map Th.wr)
              rw [List.map_map] at this
              exact this
            generalize hJ : Txt.join "," (ps.map Th.wr) = J at jl
            have jlen : J.length = (TL.joinL [44] (ps.map Th.wl)).length := by rw [← jl]; rfl
            have h8' := (isW_out h8).2.1
            have jb := joinL_len [44] (ps.map Th.wl)
            rw [List.map_map, List.length_map] at jb
            have jb : (TL.joinL [44] (ps.map Th.wl)).length + 1 ≤ (ps.map fun t => t.wl.length).sum + ps.length * 1 + 1 := jb
            have small : ∀ k : Nat, k ≤ 200000 → k ≤ sizeLine := fun k hk => Nat.le_trans hk (by decide)
            cases hx with
            | str _ hz2 ok =>
              refine ⟨_, rfl, _, _, rfl, .inr ⟨_, SqT.of ha', rfl⟩, _, _, rfl, rfl, _, rfl, ite2 (fun c => ?_) (fun c => ?_)⟩
              · have c : (1 : Int) < (((.str z :: ys : List V).length : Nat) : Int) := of_decide_eq_true c
                rw [List.length_cons] at c
                obtain ⟨p0, r0, rfl⟩ : ∃ p0 r0, ps = p0 :: r0 := by
                  cases ps with
                  | nil =>
                    rw [List.length_nil] at hlen
                    omega
                  | cons a b => exact ⟨a, b, rfl⟩
                refine ⟨_, rfl, _, _, _, _, rfl, rfl, SqT.of ha', atI_nat (j := 0) rfl, z, "(", rfl, rfl, ?_, _, rfl, _, J, rfl, rfl, ?_, _, ")", rfl, rfl, ?_, ?_⟩
                · exact small _ (by show z.length + 1 ≤ 200000; omega)
                · rw [app_len]
                  exact small _ (by show z.length + 1 + J.length ≤ 200000; omega)
                · rw [app_len, app_len]
                  exact small _ (by show z.length + 1 + J.length + 1 ≤ 200000; omega)
                · have e3 : (Th.tup (.str z :: p0 :: r0)).wr = ((z ++ "(") ++ J) ++ ")" := by
                    apply str_ext
                    rw [app_list, app_list, app_list, jl, wr_list, wl_tup]
                    show _ = ((z.cps.toList ++ [40]) ++ _) ++ [41]
                    rw [List.append_assoc, List.append_assoc]
                    rfl
                  rw [e3] at q
                  exact q H' (s2.trans sH)
              · have c : ¬ (1 : Int) < (((.str z :: ys : List V).length : Nat) : Int) := of_decide_eq_false (Bool.eq_false_iff.mpr c)
                rw [List.length_cons] at c
                have e : ps = [] := List.eq_nil_of_length_eq_zero (by omega)
                subst e
                refine ⟨_, rfl, _, _, _, _, rfl, rfl, SqT.of ha', atI_nat (j := 0) rfl, ?_⟩
                have e : (Th.tup [.str z]).wr = z := str_ext rfl
                rw [e] at q
                exact q H' (s2.trans sH)
    | _ => cases hs
end
end Kt
namespace Kt
open PySem PySem.Spec PyProof.Rows L2
/-! ### texts read -/
theorem blank_is : (" " : Str) = ⟨#[32]⟩ := by decide +kernel
theorem quest_is : ("?" : Str) = ⟨#[63]⟩ := by decide +kernel
theorem open_is : ("(" : Str) = ⟨#[40]⟩ := by decide +kernel
theorem shut_is : (")" : Str) = ⟨#[41]⟩ := by decide +kernel
theorem comma_is : ("," : Str) = ⟨#[44]⟩ := by decide +kernel
theorem sgn_eq (c d : Nat) : decide (V.str ⟨#[c]⟩ = V.str ⟨#[d]⟩) = decide (c = d) := decide_eq_decide.mpr ⟨fun e => by
  have := congrArg Str.cps (V.str.inj e)
  simpa using this, fun e => by rw [e]⟩
/-- how many blanks ahead -/
def bbl (l : List Nat) : Nat := (l.takeWhile (· == 32)).length
theorem bbl_cons (c : Nat) (l : List Nat) : bbl (c :: l) = if c = 32 then bbl l + 1 else 0 := by
  unfold bbl
  rw [List.takeWhile_cons]
  by_cases h : c = 32
  · rw [if_pos h, if_pos (beq_iff_eq.mpr h), List.length_cons]
  · rw [if_neg h, if_neg fun q => h (beq_iff_eq.mp q)]
    rfl
def Bk (b : List Nat) : Prop := ∀ c ∈ b, c = 32
theorem bbl_app {b s : List Nat} (h : Bk b) : bbl (b ++ s) = b.length + bbl s := by
  induction b with
  | nil => rw [List.nil_append, List.length_nil, Nat.zero_add]
  | cons c r ih =>
    rw [List.cons_append, bbl_cons, if_pos (h c (List.mem_cons_self ..)), ih fun x hx => h x (List.mem_cons_of_mem _ hx), List.length_cons]
    omega
theorem cut2 (z : Str) {i j : Nat} (h : i ≤ j) : (cutS z (some (i : Int)) (some (j : Int))).cps.toList = (z.cps.toList.drop i).take (j - i) := by
  show (z.cps.toList.drop (HT.sIx z.length 0 (some (i : Int)))).take (HT.sIx z.length z.length (some (j : Int)) - HT.sIx z.length 0 (some (i : Int))) = _
  rw [HT.sIx_nat, HT.sIx_nat]
  have e : z.length = z.cps.toList.length := rfl
  by_cases h1 : i ≤ z.length
  · rw [Nat.min_eq_left h1]
    by_cases h2 : j ≤ z.length
    · rw [Nat.min_eq_left h2]
    · rw [Nat.min_eq_right (by omega), List.take_of_length_le (by rw [List.length_drop]; omega), List.take_of_length_le (by rw [List.length_drop]; omega)]
  · rw [Nat.min_eq_right (by omega), Nat.min_eq_right (by omega), List.drop_eq_nil_of_le (by omega), List.drop_eq_nil_of_le (by omega)]
    simp
/-- text[k:k + 1] == a sign -/
theorem at1 (z : Str) (k c : Nat) : decide (V.str (cutS z (some (k : Int)) (some ((k : Int) + 1))) = V.str ⟨#[c]⟩) = decide ((z.cps.toList.drop k).head? = some c) := by
  apply decide_eq_decide.mpr
  have e := cut2 z (Nat.le_succ k)
  rw [show k.succ - k = 1 by omega] at e
  constructor
  · intro h
    have h1 := congrArg (fun x : Str => x.cps.toList) (V.str.inj h)
    have h1 : (cutS z (some (k : Int)) (some ((k.succ : Nat) : Int))).cps.toList = [c] := h1
    rw [e] at h1
    cases hd : z.cps.toList.drop k with
    | nil =>
      rw [hd] at h1
      cases h1
    | cons a r =>
      rw [hd] at h1
      exact congrArg some (List.cons.inj h1).1
  · intro h
    refine congrArg V.str (str_ext ?_)
    show (cutS z (some (k : Int)) (some ((k.succ : Nat) : Int))).cps.toList = [c]
    rw [e]
    cases hd : z.cps.toList.drop k with
    | nil =>
      rw [hd] at h
      cases h
    | cons a r =>
      rw [hd] at h
      cases h
      rfl
def sp_bb : Sp := fun vs H Q _ => ∃ (z : Str) (k : Nat), vs = [.str z, .int (k : Int)] ∧ z.length ≤ 100000 ∧ Q (.int ((k + bbl (z.cps.toList.drop k) : Nat) : Int)) H
/-- a word's codes: a hole's, a name's -/
def wordL (wd : List Nat) : Prop := (∃ ls, wd = 63 :: ls ∧ 1 ≤ ls.length ∧ ls.length ≤ 4 ∧ ls.all lowc = true) ∨ (1 ≤ wd.length ∧ wd.length ≤ 8 ∧ wd.all lowc = true)
def sp_word_at : Sp := fun vs H Q _ => ∃ (z : Str) (k : Nat) (wd rest : List Nat), vs = [.str z, .int (k : Int)] ∧ z.length ≤ 100000 ∧ z.cps.toList.drop k = wd ++ rest ∧ wordL wd ∧ (∀ c, rest.head? = some c → lowc c = false) ∧ ∀ H', Same H H' → Q (.str ⟨wd.toArray⟩) H'
theorem drop_get {l : List Nat} {k c : Nat} {r : List Nat} (h : l.drop k = c :: r) : l[k]? = some c ∧ l.drop (k + 1) = r ∧ k < l.length := by
  have hk : k < l.length := by
    rcases Nat.lt_or_ge k l.length with q | q
    · exact q
    · rw [List.drop_eq_nil_of_le q] at h
      cases h
  rw [List.drop_eq_getElem_cons hk] at h
  exact ⟨by rw [List.getElem?_eq_getElem hk, (List.cons.inj h).1], (List.cons.inj h).2, hk⟩
theorem drop_nil {l : List Nat} {k : Nat} (h : l.drop k = []) : l.length ≤ k := by
  rcases Nat.lt_or_ge k l.length with q | q
  · rw [List.drop_eq_getElem_cons q] at h
    cases h
  · exact q
theorem drop_app {l a b : List Nat} {k : Nat} (h : l.drop k = a ++ b) : l.drop (k + a.length) = b := by
  rw [← List.drop_drop, h, List.drop_left]
theorem big {n : Nat} (h : n ≤ 100000) : n ≤ sizeLine := Nat.le_trans h (by decide)
section
variable {P : Program} {w : World} {K : PySem.W.Frag} {mg : Str → Option Value} {base : Heap}
theorem c_behind_blanks (T : Tx K mg) : Cl P w K mg base CX0 1 "behind_blanks" ["text", "at"] sp_bb := by
  refine Cl.mk0 T.d_behind_blanks sc_behind_blanks (fun vs H Q E h => ?_) (fun f cdv A outer s H vs Q E hr h => ?_)
  · obtain ⟨z, k, rfl, _⟩ := h
    rfl
  obtain ⟨z, k, rfl, hz, q⟩ := h
  refine ⟨_, (pss_cons (ps_while PassesOwn.never (PW.pt (pw_and (pt_cmpR op_lt (pv 1) (pe_callB call_len (by rfl) T.z_len (by decide +kernel) (pa_cons (pv 0) pa_nil)) (nomark _)) (pw_and1 (pt_cmpR op_eq (pe_ix ix_str (pv 0) (pv 1) (fun _ _ => rfl)) pe_str (nomark _)))))
      (pss_one (ps_aug (i := 1) sc_behind_blanks.nd rfl (Or.inl rfl) pe_int ip_add)))
    (pss_one (ps_ret (pv 1)))), ?_⟩
  refine ⟨fun m σ H' => ∃ j : Nat, σ = [some (.str z), some (.int ((k + j : Nat) : Int))] ∧ H' = H ∧ j + bbl (z.cps.toList.drop (k + j)) = bbl (z.cps.toList.drop k) ∧ m = z.length - (k + j), ⟨_, 0, rfl, rfl, Nat.zero_add _, rfl⟩, fun m σ H' hw => ?_⟩
  obtain ⟨j, rfl, rfl, hj, rfl⟩ := hw
  have fin : bbl (z.cps.toList.drop (k + j)) = 0 → Q (.int ((k + j : Nat) : Int)) H' := fun e => by
    rw [e, Nat.add_zero] at hj
    rw [hj]
    exact q
  refine ⟨_, rfl, _, rfl, _, _, rfl, ⟨big hz, rfl⟩, _, _, rfl, rfl, _, rfl, ite2 (fun c1 => ?_) (fun c1 => ?_)⟩
  · have c1' : ((k + j : Nat) : Int) < (z.length : Int) := of_decide_eq_true c1
    have hlt : k + j < z.cps.toList.length := by
      have : z.length = z.cps.toList.length := rfl
      omega
    have hd := List.drop_eq_getElem_cons hlt
    refine ⟨_, rfl, _, rfl, z, _, z.cps.toList[k + j], rfl, rfl, big hz, atI_nat (List.getElem?_eq_getElem hlt), rfl, _, rfl, ?_⟩
    rw [blank_is, sgn_eq]
    rw [hd, bbl_cons] at hj
    refine ite2 (fun c2 => ?_) (fun c2 => ?_)
    · rw [if_pos (of_decide_eq_true c2)] at hj
      refine ⟨fun σ' H2 => ∃ j' : Nat, j' = j + 1 ∧ σ' = [some (.str z), some (.int ((k + j' : Nat) : Int))] ∧ H2 = H', fun σ' H2 h2 => ?_, _, rfl, _, _, rfl, rfl, j + 1, rfl, rfl, rfl⟩
      obtain ⟨j', rfl, rfl, rfl⟩ := h2
      refine ⟨z.length - (k + (j + 1)), by omega, j + 1, rfl, rfl, ?_, rfl⟩
      rw [show k + (j + 1) = k + j + 1 by omega]
      omega
    · refine ⟨_, rfl, fin ?_⟩
      rw [hd, bbl_cons, if_neg fun e => c2 (decide_eq_true e)]
  · have c1' : ¬ ((k + j : Nat) : Int) < (z.length : Int) := of_decide_eq_false (Bool.eq_false_iff.mpr c1)
    refine ⟨_, rfl, fin ?_⟩
    rw [List.drop_eq_nil_of_le (by have : z.length = z.cps.toList.length := rfl; omega)]
    rfl
theorem c_word_at (T : Tx K mg) : Cl P w K mg base CX0 1 "word_at" ["text", "at"] sp_word_at := by
  refine Cl.mk0 T.d_word_at sc_word_at (fun vs H Q E h => ?_) (fun f cdv A outer s H vs Q E hr h => ?_)
  · obtain ⟨z, k, wd, rest, rfl, _⟩ := h
    rfl
  obtain ⟨z, k, wd, rest, rfl, hz, hdr, hwd, hrest, q⟩ := h
  have l2 : 2 ≤ sizeLine := by decide
  refine ⟨_, (Evl.pss_cut (ps_asg (pe_ifExp (pt_cmpR op_eq (pe_slice sl_str (pv 0) (po_some (pv 1)) (po_some (pe_op op_add (pv 1) pe_int))) pe_str (nomark _)) (pe_tup (pa_cons (pe_op op_add (pv 1) pe_int) (pa_cons (pe_glob (v := .int 4) (by rfl) T.m_MOST_HOLE.choose_spec ⟨_, rfl⟩) pa_nil))) (pe_tup (pa_cons (pv 1) (pa_cons (pe_glob (v := .int 8) (by rfl) T.m_MOST_NAME.choose_spec ⟨_, rfl⟩) pa_nil)))) (pg_tup rfl (pgs_cons (pg_name (i := 2) sc_word_at.nd rfl (Or.inl rfl)) (pgs_cons (pg_name (i := 3) sc_word_at.nd rfl (Or.inl rfl)) pgs_nil))))
    (pss_cons (ps_set (i := 4) sc_word_at.nd rfl (Or.inl rfl) (pv 2))
    (Evl.pss_cut (ps_while PassesOwn.never (PW.pt (pw_and (pt_cmpR op_lt (pv 4) (pe_callB call_len (by rfl) T.z_len (by decide +kernel) (pa_cons (pv 0) pa_nil)) (nomark _)) (pw_and (pt_cmpR op_lt (pv 4) (pe_op op_add (pv 2) (pv 3)) (nomark _)) (pw_and1 (pt_cmpR op_in_sign (pe_ix ix_str (pv 0) (pv 4) (fun _ _ => rfl)) (pe_glob (v := .str "abcdefghijklmnopqrstuvwxyz") (by rfl) T.m_LETTERS.choose_spec ⟨_, rfl⟩) rfl)))))
      (pss_one (ps_aug (i := 4) sc_word_at.nd rfl (Or.inl rfl) pe_int ip_add)))
    (pss_cons (ps_if (pt_cmpR op_eq (pv 4) (pv 2) (nomark _))
      (pss_one ps_never)
      pss_nil)
    (pss_one (ps_ret (pe_slice sl_str (pv 0) (po_some (pv 1)) (po_some (pv 4))))))))), ?_⟩
  refine ⟨fun σ' H' => ∃ (o mst : Nat) (ls : List Nat), σ' = [some (.str z), some (.int (k : Int)), some (.int ((k + o : Nat) : Int)), some (.int (mst : Int)), none] ∧ Same H H' ∧ z.cps.toList.drop (k + o) = ls ++ rest ∧ 1 ≤ ls.length ∧ ls.length ≤ mst ∧ ls.all lowc = true ∧ wd.length = o + ls.length, ?_, fun σ1 H1 e1 => ?_⟩
  · refine ⟨_, rfl, _, rfl, _, rfl, _, rfl, _, _, rfl, rfl, _, rfl, _, rfl, big hz, rfl, _, rfl, ?_⟩
    rw [quest_is, at1, hdr]
    rcases hwd with ⟨ls, rfl, h1, h2, h3⟩ | ⟨h1, h2, h3⟩
    · refine iteT ⟨_, rfl, _, _, rfl, rfl, l2, fun p hp => ⟨p, _, rfl, SqT.of upd_same, rfl, _, _, rfl, _, _, rfl, rfl, 1, 4, ls, rfl, same_new hp _, ?_, h1, h2, h3, ?_⟩⟩
      · exact drop_app (a := [63]) hdr
      · rw [List.length_cons]
        omega
    · have hne : ¬ decide ((wd ++ rest).head? = some 63) = true := fun e => by
        have e := of_decide_eq_true e
        cases wd with
        | nil => exact absurd h1 (by decide)
        | cons a r =>
          have e : some a = some 63 := e
          cases e
          rw [List.all_cons] at h3
          exact absurd h3 (by rw [show lowc 63 = false by decide +kernel, Bool.false_and]; decide)
      rw [Bool.eq_false_iff.mpr hne]
      refine iteF ⟨_, rfl, l2, fun p hp => ⟨p, _, rfl, SqT.of upd_same, rfl, _, _, rfl, _, _, rfl, rfl, 0, 8, wd, rfl, same_new hp _, hdr, h1, h2, h3, ?_⟩⟩
      omega
  obtain ⟨o, mst, ls, rfl, s1, hd, h1, h2, h3, hlen⟩ := e1
  refine ⟨_, rfl, ?_⟩
  refine ⟨fun σ' H' => σ' = [some (.str z), some (.int (k : Int)), some (.int ((k + o : Nat) : Int)), some (.int (mst : Int)), some (.int ((k + o + ls.length : Nat) : Int))] ∧ H' = H1, ?_, fun σ2 H2 e2 => ?_⟩
  · refine ⟨fun m σ H' => ∃ j : Nat, σ = [some (.str z), some (.int (k : Int)), some (.int ((k + o : Nat) : Int)), some (.int (mst : Int)), some (.int ((k + o + j : Nat) : Int))] ∧ H' = H1 ∧ j ≤ ls.length ∧ m = ls.length - j, ⟨_, 0, rfl, rfl, Nat.zero_le _, rfl⟩, fun m σ H' hw => ?_⟩
    obtain ⟨j, rfl, rfl, hj, rfl⟩ := hw
    have zl : z.length = z.cps.toList.length := rfl
    by_cases hjl : j < ls.length
    · have hdj : z.cps.toList.drop (k + o + j) = ls[j] :: (ls.drop (j + 1) ++ rest) := by
        rw [← List.drop_drop, hd, List.drop_append_of_le_length (Nat.le_of_lt hjl), List.drop_eq_getElem_cons hjl]
        rfl
      obtain ⟨g1, _, g2⟩ := drop_get hdj
      have hlow : lowc ls[j] = true := List.all_eq_true.mp h3 _ (List.getElem_mem hjl)
      refine ⟨_, rfl, _, rfl, _, _, rfl, ⟨big hz, rfl⟩, _, _, rfl, rfl, _, rfl, ?_⟩
      rw [decide_eq_true (by omega : ((k + o + j : Nat) : Int) < (z.length : Int))]
      refine iteT ⟨_, rfl, _, rfl, _, rfl, _, _, rfl, rfl, _, _, rfl, rfl, _, rfl, ?_⟩
      rw [decide_eq_true (by omega : ((k + o + j : Nat) : Int) < ((k + o : Nat) : Int) + (mst : Int))]
      refine iteT ⟨_, rfl, _, rfl, z, _, _, rfl, rfl, big hz, atI_nat g1, _, _, rfl, rfl, _, rfl, ?_⟩
      refine ite2 (fun _ => ?_) (fun c => absurd hlow c)
      refine ⟨fun σ' H2 => σ' = [some (.str z), some (.int (k : Int)), some (.int ((k + o : Nat) : Int)), some (.int (mst : Int)), some (.int ((k + o + (j + 1) : Nat) : Int))] ∧ H2 = H', fun σ' H2 h2' => ?_, _, rfl, _, _, rfl, rfl, rfl, rfl⟩
      obtain ⟨rfl, rfl⟩ := h2'
      exact ⟨ls.length - (j + 1), by omega, j + 1, rfl, rfl, hjl, rfl⟩
    · have ej : j = ls.length := by omega
      subst ej
      have hdj : z.cps.toList.drop (k + o + ls.length) = rest := drop_app hd
      refine ⟨_, rfl, _, rfl, _, _, rfl, ⟨big hz, rfl⟩, _, _, rfl, rfl, _, rfl, ite2 (fun c1 => ?_) (fun _ => ⟨rfl, rfl⟩)⟩
      have c1' : ((k + o + ls.length : Nat) : Int) < (z.length : Int) := of_decide_eq_true c1
      refine ⟨_, rfl, _, rfl, _, rfl, _, _, rfl, rfl, _, _, rfl, rfl, _, rfl, ite2 (fun c2 => ?_) (fun _ => ⟨rfl, rfl⟩)⟩
      have hlt : k + o + ls.length < z.cps.toList.length := by omega
      rw [List.drop_eq_getElem_cons hlt] at hdj
      have hlow := hrest z.cps.toList[k + o + ls.length] (by rw [← hdj]; rfl)
      refine ⟨_, rfl, _, rfl, z, _, _, rfl, rfl, big hz, atI_nat (List.getElem?_eq_getElem hlt), _, _, rfl, rfl, _, rfl, ite2 (fun c => ?_) (fun _ => ⟨rfl, rfl⟩)⟩
      exact absurd (hlow.symm.trans c) (by decide)
  obtain ⟨rfl, rfl⟩ := e2
  refine ⟨_, rfl, _, rfl, rfl, _, rfl, ?_⟩
  refine ite2 (fun c => ?_) (fun _ => ?_)
  · have c : ((k + o + ls.length : Nat) : Int) = ((k + o : Nat) : Int) := V.int.inj (of_decide_eq_true c)
    omega
  · refine ⟨_, rfl, _, rfl, _, rfl, _, rfl, _, rfl, _, rfl, big hz, ?_⟩
    have e : cutS z (some (k : Int)) (some ((k + o + ls.length : Nat) : Int)) = ⟨wd.toArray⟩ := by
      apply str_ext
      rw [cut2 z (by omega), hdr, show k + o + ls.length - k = wd.length by omega, List.take_left]
    rw [e]
    exact q H2 s1
end
end Kt
namespace Kt
open PySem PySem.Spec PyProof.Rows L2
/-! ### what a text writes: blanks may stand round names, holes, brackets and commas -/
mutual
def TS : Th → List Nat → Prop
  | .str z, s => ∃ b1 b2, Bk b1 ∧ Bk b2 ∧ s = b1 ++ (z.cps.toList ++ b2)
  | .tup l, s => TST l s
  | _, _ => False
def TST : List Th → List Nat → Prop
  | [], _ => False
  | x :: ps, s => (ps = [] ∧ ∃ b1 b2, Bk b1 ∧ Bk b2 ∧ s = b1 ++ (hdc x ++ b2)) ∨ ∃ b1 b2 b3 u, Bk b1 ∧ Bk b2 ∧ Bk b3 ∧ LSp ps u ∧ s = b1 ++ (hdc x ++ (b2 ++ 40 :: (u ++ 41 :: b3)))
def LSp : List Th → List Nat → Prop
  | [], _ => False
  | p :: ps, u => (ps = [] ∧ TS p u) ∨ ∃ u1 u2, TS p u1 ∧ LSp ps u2 ∧ u = u1 ++ 44 :: u2
end
/-- a bracket that is open: its head, the parts that are read, those that are to come behind the one that is being read -/
abbrev Fra := Str × List Th × List Th
def FrOK (H : Hp) : List Addr → List Fra → Prop
  | [], [] => True
  | a :: as, (z, ds, _) :: C => (∃ vs, H a = some (.lst (.str z :: vs)) ∧ RepL H vs ds) ∧ FrOK H as C
  | _, _ => False
def CtxOK : List Fra → Prop
  | [] => True
  | (z, ds, ps) :: C => isW z 8 = true ∧ ds.length + ps.length ≤ 2 ∧ (∀ p ∈ ps, p.shape true = true) ∧ CtxOK C
def plug : List Fra → Th → Th
  | [], t => t
  | (z, ds, ps) :: C, t => plug C (.tup (.str z :: (ds ++ t :: ps)))
def RestC : List Fra → List Nat → Prop
  | [], s => s = []
  | (_, _, ps) :: C, s => (ps = [] ∧ ∃ b s', Bk b ∧ s = 41 :: (b ++ s') ∧ RestC C s') ∨ ∃ u b s', LSp ps u ∧ Bk b ∧ s = 44 :: (u ++ 41 :: (b ++ s')) ∧ RestC C s'
theorem rest_head : ∀ {C : List Fra} {s : List Nat}, RestC C s → s = [] ∨ ∃ r, s = 41 :: r ∨ s = 44 :: r
  | [], s, h => .inl h
  | (_, _, ps) :: C, s, h => by
    rcases h with ⟨_, b, s', _, e, _⟩ | ⟨u, b, s', _, _, e, _⟩
    · exact .inr ⟨_, .inl e⟩
    · exact .inr ⟨_, .inr e⟩
theorem rest_bbl {C : List Fra} {s : List Nat} (h : RestC C s) : bbl s = 0 := by
  rcases rest_head h with e | ⟨r, e | e⟩ <;> subst e <;> rfl
theorem low40 : lowc 32 = false ∧ lowc 40 = false ∧ lowc 41 = false ∧ lowc 44 = false ∧ lowc 63 = false := by decide +kernel
/-- behind blanks no letter stands -/
theorem rest_low {C : List Fra} {s b : List Nat} (hb : Bk b) (h : RestC C s) : ∀ c, (b ++ s).head? = some c → lowc c = false := by
  intro c hc
  cases b with
  | nil =>
    rcases rest_head h with e | ⟨r, e | e⟩ <;> subst e <;> cases hc
    · exact low40.2.2.1
    · exact low40.2.2.2.1
  | cons x r =>
    cases hc
    rw [hb c (List.mem_cons_self ..)]
    exact low40.1
/-- what comes next of a row of parts -/
theorem LSp_next {C : List Fra} {z : Str} {ds : List Th} {p : Th} {r : List Th} {u b s : List Nat} (h : LSp (p :: r) u) (hb : Bk b) (hs : RestC C s) : ∃ v s', u ++ 41 :: (b ++ s) = v ++ s' ∧ TS p v ∧ RestC ((z, ds, r) :: C) s' := by
  rcases h with ⟨rfl, h⟩ | ⟨u1, u2, h1, h2, rfl⟩
  · exact ⟨u, _, rfl, h, .inl ⟨rfl, b, s, hb, rfl, hs⟩⟩
  · exact ⟨u1, 44 :: (u2 ++ 41 :: (b ++ s)), by rw [List.append_assoc]; rfl, h1, .inr ⟨u2, b, s, h2, hb, rfl, hs⟩⟩
theorem FrOK.up {H H' : Hp} {R : Addr} (x : ∀ b o, b ≠ R → H b = some o → H' b = some o) (w : Wk H H') : ∀ {as : List Addr} {C : List Fra}, (∀ a ∈ as, a ≠ R) → FrOK H as C → FrOK H' as C
  | [], [], _, _ => trivial
  | a :: as, (z, ds, ps) :: C, hn, h => by
    obtain ⟨⟨vs, h1, h2⟩, h3⟩ := h
    exact ⟨⟨vs, x _ _ (hn a (List.mem_cons_self ..)) h1, h2.wk w⟩, FrOK.up x w (fun b hb => hn b (List.mem_cons_of_mem _ hb)) h3⟩
  | [], _ :: _, _, h => h.elim
  | _ :: _, [], _, h => h.elim
theorem bne (xs : List V) (v : V) : (!(xs ++ [v]).isEmpty) = true := by
  cases xs <;> rfl
/-- all but the list at R stands -/
def ExR (R : Addr) (H H' : Hp) : Prop := ∀ b o, b ≠ R → H b = some o → H' b = some o
theorem ExR.wk {R : Addr} {H H' : Hp} {xs ys : List V} (x : ExR R H H') (h : H R = some (.lst xs)) (h' : H' R = some (.lst ys)) : Wk H H' :=
  ⟨fun a zs q => x _ _ (ne_of q h fun e => nomatch e) q, fun a zs q => by
    by_cases e : a = R
    · subst e
      exact ⟨_, h'⟩
    · exact ⟨zs, x _ _ e q⟩, fun a zs q => ⟨zs, x _ _ (ne_of q h fun e => nomatch e) q⟩⟩
def rvs (as : List Addr) : List V := as.reverse.map V.ref
theorem rvs_cons (a : Addr) (as : List Addr) : rvs (a :: as) = rvs as ++ [.ref a] := by
  unfold rvs
  rw [List.reverse_cons, List.map_append]
  rfl
theorem rvs_len (as : List Addr) : (rvs as).length = as.length := by
  unfold rvs
  rw [List.length_map, List.length_reverse]
theorem FrOK.len {H : Hp} : ∀ {as : List Addr} {C : List Fra}, FrOK H as C → as.length = C.length
  | [], [], _ => rfl
  | _ :: _, _ :: _, h => congrArg Nat.succ (FrOK.len h.2)
  | [], _ :: _, h => h.elim
  | _ :: _, [], h => h.elim
theorem isHl_out {z : Str} (h : isHl z = true) : ∃ l, z.cps.toList = 63 :: l ∧ 1 ≤ l.length ∧ l.length ≤ 4 ∧ l.all lowc = true := by
  unfold isHl at h
  rw [Bool.and_eq_true] at h
  obtain ⟨h1, h2⟩ := h
  have h1 := V.str.inj (of_decide_eq_true h1)
  have e1 : (cutS z none (some 1)).cps.toList = [63] := by
    rw [h1]
    decide +kernel
  have e1 : (z.cps.toList.drop (HT.sIx z.length 0 none)).take (HT.sIx z.length z.length (some ((1 : Nat) : Int)) - HT.sIx z.length 0 none) = [63] := e1
  rw [HT.sIx_none, HT.sIx_nat] at e1
  have e2 : (cutS z (some 1) none).cps.toList = (z.cps.toList.drop (HT.sIx z.length 0 (some ((1 : Nat) : Int)))).take (HT.sIx z.length z.length none - HT.sIx z.length 0 (some ((1 : Nat) : Int))) := rfl
  rw [HT.sIx_none, HT.sIx_nat] at e2
  have zl : z.length = z.cps.toList.length := rfl
  cases hz : z.cps.toList with
  | nil =>
    rw [hz, List.drop_nil, List.take_nil] at e1
    cases e1
  | cons c l =>
    rw [hz, List.length_cons] at zl
    rw [hz, Nat.min_eq_left (by omega)] at e1
    have e1 : [c] = [63] := e1
    cases e1
    rw [hz, Nat.min_eq_left (by omega)] at e2
    have e2 : (cutS z (some 1) none).cps.toList = l.take (z.length - 1) := e2
    rw [List.take_of_length_le (by omega)] at e2
    obtain ⟨g1, g2, g3⟩ := isW_out h2
    rw [len_list, e2] at g1 g2
    rw [e2] at g3
    exact ⟨l, rfl, g1, by omega, g3⟩
theorem str_of (z : Str) : z = ⟨z.cps.toList.toArray⟩ := str_ext rfl
/-- what a text of a thing begins with -/
theorem TS_parts {t : Th} {v : List Nat} (hs : t.shape true = true) (h : TS t v) : ∃ b1 wd b2 e, Bk b1 ∧ Bk b2 ∧ wordL wd ∧ v = b1 ++ (wd ++ (b2 ++ e)) ∧
    ((e = [] ∧ (t = .str ⟨wd.toArray⟩ ∧ wd.head? = some 63 ∨ t = .tup [.str ⟨wd.toArray⟩] ∧ isW ⟨wd.toArray⟩ 8 = true ∧ wd.head? ≠ some 63)) ∨
     (∃ p r u b3, t = .tup (.str ⟨wd.toArray⟩ :: p :: r) ∧ isW ⟨wd.toArray⟩ 8 = true ∧ wd.head? ≠ some 63 ∧ e = 40 :: (u ++ 41 :: b3) ∧ LSp (p :: r) u ∧ Bk b3 ∧ r.length ≤ 2 ∧ p.shape true = true ∧ ∀ x ∈ r, x.shape true = true)) := by
  have hq : lowc 63 = false := low40.2.2.2.2
  have key : ∀ z : Str, isW z 8 = true → wordL z.cps.toList ∧ z.cps.toList.head? ≠ some 63 := fun z hz => by
    obtain ⟨g1, g2, g3⟩ := isW_out hz
    rw [len_list] at g1 g2
    refine ⟨.inr ⟨g1, by omega, g3⟩, fun e => ?_⟩
    have := List.all_eq_true.mp g3 63 (List.mem_of_mem_head? e)
    rw [hq] at this
    cases this
  cases t with
  | str z =>
    obtain ⟨b1, b2, h1, h2, rfl⟩ := h
    have hs : (true && isHl z) = true := hs
    obtain ⟨l, e, g⟩ := isHl_out hs
    refine ⟨b1, z.cps.toList, b2, [], h1, h2, .inl ⟨l, e, g⟩, by rw [List.append_nil], .inl ⟨rfl, .inl ⟨by rw [← str_of], by rw [e]; rfl⟩⟩⟩
  | tup l =>
    obtain ⟨z, ps, rfl, h4, h8, hall⟩ := shape_tup hs
    obtain ⟨k1, k2⟩ := key z h8
    rcases h with ⟨rfl, b1, b2, h1, h2, rfl⟩ | ⟨b1, b2, b3, u, h1, h2, h3, hu, rfl⟩
    · exact ⟨b1, z.cps.toList, b2, [], h1, h2, k1, by rw [List.append_nil]; rfl, .inl ⟨rfl, .inr ⟨by rw [← str_of], by rw [← str_of]; exact h8, k2⟩⟩⟩
    · cases ps with
      | nil => exact hu.elim
      | cons p r =>
        exact ⟨b1, z.cps.toList, b2, _, h1, h2, k1, rfl, .inr ⟨p, r, u, b3, by rw [← str_of], by rw [← str_of]; exact h8, k2, rfl, hu, h3, by rw [List.length_cons] at h4; omega, hall p (List.mem_cons_self ..), fun x hx => hall x (List.mem_cons_of_mem _ hx)⟩⟩
  | _ => exact h.elim
def sp_closed (K : PySem.W.Frag) : Sp := fun vs H Q _ => ∃ (z : Str) (k : Nat) (R : Addr) (w : V) (t : Th) (C : List Fra) (as : List Addr), vs = [.str z, .int (k : Int), .ref R, w] ∧ z.length ≤ 100000 ∧ RestC C (z.cps.toList.drop k) ∧ H R = some (.lst (rvs as)) ∧ FrOK H as C ∧
  (∀ a ∈ as, a ≠ R) ∧ CtxOK C ∧ Rep H w t ∧
  ∀ p H' (k' : Nat) w' t' C' as', H' p = some (.tup [.int (k' : Int), w']) → k ≤ k' → (k ≤ z.length → k' ≤ z.length) → RestC C' (z.cps.toList.drop k') → plug C' t' = plug C t → H' R = some (.lst (rvs as')) → FrOK H' as' C' → CtxOK C' → Rep H' w' t' → ExR R H H' → (∃ pre, as = pre ++ as') →
    (C' = [] ∨ ∃ zz ds q ps C2, C' = (zz, ds, q :: ps) :: C2) → Q (.ref p) H'
section
variable {P : Program} {w : World} {K : PySem.W.Frag} {mg : Str → Option Value} {base : Heap}
theorem c_closed (T : Tx K mg) : Cl P w K mg base CX0 2 "closed" ["text", "at", "rows", "whole"] (sp_closed K) := by
  refine Cl.mk0 T.d_closed sc_closed (fun vs H Q E h => ?_) (fun f cdv A outer s H vs Q E hr h => ?_)
  · obtain ⟨z, k, R, w, t, C, as, rfl, _⟩ := h
    rfl
  obtain ⟨z, k, R, w, t, C, as, rfl, hz, hR0, hRl, hFr, hne, hC, hw, q⟩ := h
  have l1 : 1 ≤ sizeLine := by decide
  refine ⟨_, (pss_cons (ps_while PassesOwn.never (PW.pt (pw_and (pt_truth (pv 2) (by intro _; rfl)) (pw_and1 (pt_cmpR op_eq (pe_slice sl_str (pv 0) (po_some (pv 1)) (po_some (pe_op op_add (pv 1) pe_int))) pe_str (nomark _)))))
      (pss_cons (ps_set (i := 3) sc_closed.nd rfl (Or.inl rfl) (pe_op op_catA (pe_callTy call_tuple_of (by rfl) T.z_tuple (by decide +kernel) (pa_cons (pe_bm0 PySem.F.plainAttrs_list PySem.F.slot_list_pop PySem.F.type_list_pop mt_pop (pv 2)) pa_nil)) (pe_tup (pa_cons (pv 3) pa_nil))))
      (pss_one (ps_set (i := 1) sc_closed.nd rfl (Or.inl rfl) (pe_cl (c_behind_blanks T) hr (by omega) rfl (pa_cons (pv 0) (pa_cons (pe_op op_add (pv 1) pe_int) pa_nil)))))))
    (pss_one (ps_ret (pe_tup (pa_cons (pv 1) (pa_cons (pv 3) pa_nil)))))), ?_⟩
  refine ⟨fun m σ H' => ∃ k' : Nat, ∃ w' t' C' as', σ = [some (.str z), some (.int (k' : Int)), some (.ref R), some w'] ∧ k ≤ k' ∧ (k ≤ z.length → k' ≤ z.length) ∧ RestC C' (z.cps.toList.drop k') ∧ plug C' t' = plug C t ∧ H' R = some (.lst (rvs as')) ∧ FrOK H' as' C' ∧ CtxOK C' ∧ Rep H' w' t' ∧ ExR R H H' ∧ (∃ pre, as = pre ++ as') ∧ m = as'.length,
    ⟨_, k, w, t, C, as, rfl, Nat.le_refl _, id, hR0, rfl, hRl, hFr, hC, hw, fun _ _ _ h => h, ⟨[], rfl⟩, rfl⟩, fun m σ H' hW => ?_⟩
  obtain ⟨k', w', t', C', as', rfl, hk, hkz, hRe, hpl, hR, hF, hCo, hw', hx, ⟨pre, hpre⟩, rfl⟩ := hW
  have hne' : ∀ a ∈ as', a ≠ R := fun a ha => hne a (by rw [hpre]; exact List.mem_append_right _ ha)
  have fin : (C' = [] ∨ ∃ zz ds q ps C2, C' = (zz, ds, q :: ps) :: C2) → tRet (tTup (tCons (tVar 1) (tCons (tVar 3) tNil))) { nx := fun _ H' => Q .non H', rt := Q } [some (.str z), some (.int (k' : Int)), some (.ref R), some w'] H' := fun hd => by
    refine ⟨_, rfl, _, rfl, by show 2 ≤ sizeLine; decide, fun p hp => ?_⟩
    have s1 := same_new hp (.tup [.int (k' : Int), w'])
    exact q p _ k' w' t' C' as' upd_same hk hkz hRe hpl (s1 _ _ hR) (FrOK.up (R := p) (fun b o hb e => s1 _ _ e) (Wk.same s1) (fun a ha e => by
      subst e
      have : ∀ {as : List Addr} {C : List Fra}, FrOK H' as C → a ∈ as → H' a ≠ none := by
        intro as
        induction as with
        | nil => exact fun _ hm => (List.not_mem_nil hm).elim
        | cons b bs ih =>
          intro C hF hm
          cases C with
          | nil => exact hF.elim
          | cons c C =>
            obtain ⟨⟨vs, e1, _⟩, h3⟩ := hF
            rcases List.mem_cons.mp hm with rfl | hm
            · rw [e1]
              exact fun e => by cases e
            · exact ih h3 hm
      exact this hF ha hp) hF) hCo (hw'.wk (Wk.same s1)) (fun b o hb e => s1 _ _ (hx b o hb e)) ⟨pre, hpre⟩ hd
  refine ⟨_, rfl, _, .inl ⟨rvs as', SqL.of hR, rfl⟩, ?_⟩
  cases as' with
  | nil =>
    cases C' with
    | nil => exact iteF (fin (.inl rfl))
    | cons c C' => exact hF.elim
  | cons a as' =>
    cases C' with
    | nil => exact hF.elim
    | cons fr C' =>
      obtain ⟨zz, ds, ps⟩ := fr
      rw [rvs_cons, bne]
      refine iteT ⟨_, rfl, _, rfl, _, rfl, _, rfl, _, _, rfl, rfl, _, rfl, _, rfl, big hz, rfl, _, rfl, ?_⟩
      rw [shut_is, at1]
      rcases hRe with ⟨rfl, b, s', hb, e, hs'⟩ | ⟨u, b, s', hu, hb, e, hs'⟩
      · rw [e]
        refine iteT ?_
        obtain ⟨⟨vs, ha, rvs'⟩, hF'⟩ := hF
        rw [rvs_cons] at hR
        have hvl := rvs'.length
        have hds := hCo.2.1
        refine ⟨fun σ' H2 => ∃ k2 : Nat, ∃ w2 t2, σ' = [some (.str z), some (.int (k2 : Int)), some (.ref R), some w2] ∧ k ≤ k2 ∧ (k ≤ z.length → k2 ≤ z.length) ∧ RestC C' (z.cps.toList.drop k2) ∧ plug C' t2 = plug C t ∧ H2 R = some (.lst (rvs as')) ∧ FrOK H2 as' C' ∧ CtxOK C' ∧ Rep H2 w2 t2 ∧ ExR R H H2, fun σ' H2 h2 => ?_, ?_⟩
        · obtain ⟨k2, w2, t2, rfl, g1, g1z, g2, g3, g4, g5, g6, g7, g8⟩ := h2
          exact ⟨as'.length, Nat.lt_succ_self _, k2, w2, t2, C', as', rfl, g1, g1z, g2, g3, g4, g5, g6, g7, g8, ⟨pre ++ [a], by rw [hpre, List.append_assoc]; rfl⟩, rfl⟩
        · have hlast : (rvs as' ++ [V.ref a])[(rvs as' ++ [V.ref a]).length - 1]? = some (.ref a) := by
            rw [List.length_append, List.length_singleton, Nat.add_sub_cancel, List.getElem?_append_right (Nat.le_refl _), Nat.sub_self]
            rfl
          refine ⟨_, rfl, .inl ⟨rfl, _, SqL.of hR⟩, R, _, _, rfl, rfl, hR, hlast, ?_⟩
          rw [List.dropLast_concat]
          have aR : a ≠ R := hne' a (List.mem_cons_self ..)
          have ha1 : (upd H' R (.lst (rvs as'))) a = some (.lst (.str zz :: vs)) := by
            rw [upd_ne aR]
            exact ha
          have x1 : ExR R H' (upd H' R (.lst (rvs as'))) := fun b o hb e => by
            rw [upd_ne hb]
            exact e
          have w1 := Wk.lst_upd hR (rvs as')
          refine ⟨a, _, rfl, .inl ⟨SqL.of ha1, fun p1 hp1 => ⟨_, rfl, l1, fun p2 hp2 => ?_⟩⟩⟩
          have s1 := same_new hp1 (.tup (.str zz :: vs))
          have s2 := same_new hp2 (.tup [w'])
          refine catA (s2 p1 _ upd_same) upd_same (fun e => by cases e) (by rw [List.length_cons, List.length_singleton]; omega) fun p3 H3 s3 e3 => ?_
          have s13 := (s1.trans s2).trans s3
          have w13 := w1.trans (Wk.same s13)
          have hR3 := s13 R _ upd_same
          refine ⟨_, rfl, _, rfl, _, _, rfl, rfl, z, k' + 1, rfl, hz, ?_⟩
          obtain ⟨g1, g2, g3⟩ := drop_get e
          rw [g2, bbl_app hb, rest_bbl hs']; simp only [Nat.add_zero]
          refine ⟨_, _, .tup (.str zz :: (ds ++ [t'])), rfl, by omega, fun _ => ?_, ?_, ?_, hR3, ?_, hCo.2.2.2, ?_, ?_⟩
          · have h5 := congrArg List.length g2
            rw [List.length_drop, List.length_append] at h5
            have zl : z.length = z.cps.toList.length := rfl
            omega
          · rw [drop_app g2]
            exact hs'
          · rw [← hpl]
            rfl
          · exact FrOK.up (R := R) (fun b o hb e => s13 _ _ (x1 b o hb e)) w13 (fun b hb' => hne' b (List.mem_cons_of_mem _ hb')) hF'
          · refine .tup e3 ?_ (.cons (isW_rep hCo.1 (by decide)) ((rvs'.wk w13).append (.cons (hw'.wk w13) .nil)))
            rw [List.length_append, List.length_cons, List.length_singleton]
            omega
          · exact fun b o hb e => s13 _ _ (x1 b o hb (hx b o hb e))
      · rw [e]
        refine iteF (fin (.inr ?_))
        cases ps with
        | nil => exact hu.elim
        | cons q ps => exact ⟨_, _, _, _, _, rfl⟩
end
end Kt
namespace Kt
open PySem PySem.Spec PyProof.Rows L2
/-! ### a text gone through sign by sign -/
inductive Sta where
  | beg | mark | hole (n : Nat) | name (n : Nat) | head | behind
def Sta.acc : Sta → Bool
  | .beg | .mark => false
  | _ => true
def Sta.hd : Sta → Bool
  | .name _ | .head => true
  | _ => false
def Sta.grow : Sta → Option Sta
  | .hole n => if n < 4 then some (.hole (n + 1)) else none
  | .name n => if n < 8 then some (.name (n + 1)) else none
  | _ => none
def tailS (s : Sta) (D : List Nat) (c : Nat) : Option (Sta × List Nat) :=
  if c = 32 then some (if s.hd = true then .head else .behind, D)
  else if c = 40 ∧ s.hd = true then some (.beg, 1 :: D)
  else match D with
    | [] => none
    | m :: D' => if c = 44 ∧ m < 3 then some (.beg, (m + 1) :: D') else if c = 41 then some (.behind, D') else none
def stp (s : Sta) (D : List Nat) (c : Nat) : Option (Sta × List Nat) :=
  match s with
  | .beg => if lowc c = true then some (.name 1, D) else if c = 63 then some (.mark, D) else if c = 32 then some (.beg, D) else none
  | .mark => if lowc c = true then some (.hole 1, D) else none
  | s => if lowc c = true then s.grow.map fun s' => (s', D) else tailS s D c
inductive Res where
  | bad (k : Nat) | fin (b : Bool)
def run : Sta → List Nat → List Nat → Nat → Res
  | s, D, [], _ => .fin (s.acc && D.isEmpty)
  | s, D, c :: r, k => match stp s D c with
    | none => .bad k
    | some (s', D') => run s' D' r (k + 1)
/-- where the first wrong place is, if there is one -/
def Res.pos (n : Nat) : Res → Option Nat
  | .bad k => some k
  | .fin true => none
  | .fin false => some n
theorem run_nil (s : Sta) (D : List Nat) (k : Nat) : run s D [] k = .fin (s.acc && D.isEmpty) := rfl
theorem run_bad {s : Sta} {D r : List Nat} {c k : Nat} (h : stp s D c = none) : run s D (c :: r) k = .bad k := by
  rw [run, h]
theorem run_go {s s' : Sta} {D D' r : List Nat} {c k : Nat} (h : stp s D c = some (s', D')) : run s D (c :: r) k = run s' D' r (k + 1) := by
  rw [run, h]
theorem stp_acc {s : Sta} (h : s.acc = true) (D : List Nat) (c : Nat) : stp s D c = if lowc c = true then s.grow.map fun s' => (s', D) else tailS s D c := by
  cases s with
  | beg | mark => cases h
  | _ => rfl
/-- behind a word and blanks -/
def aftB (s : Sta) (b : List Nat) : Sta := match b with
  | [] => s
  | _ => if s.hd = true then .head else .behind
theorem aftB_acc {s : Sta} (h : s.acc = true) (b : List Nat) : (aftB s b).acc = true := by
  cases b with
  | nil => exact h
  | cons c r =>
    show (if s.hd = true then Sta.head else Sta.behind).acc = true
    split <;> rfl
theorem aftB_hd {s : Sta} (b : List Nat) : (aftB s b).hd = s.hd := by
  cases b with
  | nil => rfl
  | cons c r =>
    show (if s.hd = true then Sta.head else Sta.behind).hd = s.hd
    split
    · rename_i h
      rw [h]
      rfl
    · rename_i h
      rw [Bool.eq_false_iff.mpr h]
      rfl
theorem stp_beg {D : List Nat} {c : Nat} (h : lowc c = false) : stp .beg D c = if c = 63 then some (.mark, D) else if c = 32 then some (.beg, D) else none := if_neg (by rw [h]; decide)
theorem run_beg {D s : List Nat} : ∀ {b : List Nat} {k : Nat}, Bk b → run .beg D (b ++ s) k = run .beg D s (k + b.length)
  | [], _, _ => rfl
  | c :: b, k, h => by
    have e : c = 32 := h c (List.mem_cons_self ..)
    subst e
    have hs : stp .beg D 32 = some (.beg, D) := stp_beg low40.1
    rw [List.cons_append, run_go hs, run_beg fun x hx => h x (List.mem_cons_of_mem _ hx), List.length_cons]
    rw [show k + 1 + b.length = k + (b.length + 1) by omega]
theorem stp_32 {s : Sta} (h : s.acc = true) (D : List Nat) : stp s D 32 = some (if s.hd = true then .head else .behind, D) := by
  rw [stp_acc h, if_neg (by rw [low40.1]; decide)]
  rfl
theorem run_aft {D s : List Nat} : ∀ {b : List Nat} {st : Sta} {k : Nat}, st.acc = true → Bk b → run st D (b ++ s) k = run (aftB st b) D s (k + b.length)
  | [], _, _, _, _ => rfl
  | c :: b, st, k, ha, h => by
    have e : c = 32 := h c (List.mem_cons_self ..)
    subst e
    have a2 : (if st.hd = true then Sta.head else Sta.behind).acc = true := by split <;> rfl
    rw [List.cons_append, run_go (stp_32 ha D), run_aft a2 fun x hx => h x (List.mem_cons_of_mem _ hx), List.length_cons]
    rw [show k + 1 + b.length = k + (b.length + 1) by omega]
    have e2 : aftB (if st.hd = true then Sta.head else Sta.behind) b = aftB st (32 :: b) := by
      cases b with
      | nil => rfl
      | cons x r =>
        show (if (if st.hd = true then Sta.head else Sta.behind).hd = true then Sta.head else Sta.behind) = if st.hd = true then Sta.head else Sta.behind
        by_cases hh : st.hd = true
        · rw [if_pos hh]
          rfl
        · rw [if_neg hh]
          rfl
    rw [e2]
theorem run_name {D s : List Nat} : ∀ {ls : List Nat} {n k : Nat}, ls.all lowc = true → n + ls.length ≤ 8 → 1 ≤ n → run (.name n) D (ls ++ s) k = run (.name (n + ls.length)) D s (k + ls.length)
  | [], _, _, _, _, _ => rfl
  | c :: ls, n, k, h, hl, h1 => by
    rw [List.all_cons, Bool.and_eq_true] at h
    rw [List.length_cons] at hl
    have hs : stp (.name n) D c = some (.name (n + 1), D) := by
      show (if lowc c = true then _ else _) = _
      rw [if_pos h.1]
      show (if n < 8 then some (Sta.name (n + 1)) else none).map _ = _
      rw [if_pos (by omega)]
      rfl
    rw [List.cons_append, run_go hs, run_name h.2 (by omega) (by omega), List.length_cons, show n + 1 + ls.length = n + (ls.length + 1) by omega, show k + 1 + ls.length = k + (ls.length + 1) by omega]
theorem run_hole {D s : List Nat} : ∀ {ls : List Nat} {n k : Nat}, ls.all lowc = true → n + ls.length ≤ 4 → 1 ≤ n → run (.hole n) D (ls ++ s) k = run (.hole (n + ls.length)) D s (k + ls.length)
  | [], _, _, _, _, _ => rfl
  | c :: ls, n, k, h, hl, h1 => by
    rw [List.all_cons, Bool.and_eq_true] at h
    rw [List.length_cons] at hl
    have hs : stp (.hole n) D c = some (.hole (n + 1), D) := by
      show (if lowc c = true then _ else _) = _
      rw [if_pos h.1]
      show (if n < 4 then some (Sta.hole (n + 1)) else none).map _ = _
      rw [if_pos (by omega)]
      rfl
    rw [List.cons_append, run_go hs, run_hole h.2 (by omega) (by omega), List.length_cons, show n + 1 + ls.length = n + (ls.length + 1) by omega, show k + 1 + ls.length = k + (ls.length + 1) by omega]
/-- a whole word -/
theorem run_wname {D s ls : List Nat} {k : Nat} (h : ls.all lowc = true) (h1 : 1 ≤ ls.length) (h8 : ls.length ≤ 8) : run .beg D (ls ++ s) k = run (.name ls.length) D s (k + ls.length) := by
  cases ls with
  | nil => cases h1
  | cons c ls =>
    rw [List.all_cons, Bool.and_eq_true] at h
    rw [List.length_cons] at h8
    have hs : stp .beg D c = some (.name 1, D) := if_pos h.1
    rw [List.cons_append, run_go hs, run_name h.2 (by omega) (Nat.le_refl _), List.length_cons, show 1 + ls.length = ls.length + 1 by omega, show k + 1 + ls.length = k + (ls.length + 1) by omega]
theorem stp_63 (D : List Nat) : stp .beg D 63 = some (.mark, D) := stp_beg low40.2.2.2.2
theorem run_whole {D s ls : List Nat} {k : Nat} (h : ls.all lowc = true) (h1 : 1 ≤ ls.length) (h4 : ls.length ≤ 4) : run .beg D (63 :: (ls ++ s)) k = run (.hole ls.length) D s (k + 1 + ls.length) := by
  cases ls with
  | nil => cases h1
  | cons c ls =>
    rw [List.all_cons, Bool.and_eq_true] at h
    rw [List.length_cons] at h4
    have hs : stp .mark D c = some (.hole 1, D) := if_pos h.1
    rw [run_go (stp_63 D), List.cons_append, run_go hs, run_hole h.2 (by omega) (Nat.le_refl _), List.length_cons, show 1 + ls.length = ls.length + 1 by omega, show k + 1 + 1 + ls.length = k + 1 + (ls.length + 1) by omega]
/-- no letter can follow -/
def Full (s : Sta) (r : List Nat) : Prop := ∀ c, r.head? = some c → lowc c = true → s.grow = none
theorem Full.aft {s : Sta} {b r : List Nat} (h : Full s (b ++ r)) : Full (aftB s b) r := by
  cases b with
  | nil => exact h
  | cons c b =>
    intro d _ _
    show (if s.hd = true then Sta.head else Sta.behind).grow = none
    split <;> rfl
/-- letters ahead, at most m -/
theorem span_m (m : Nat) : ∀ l : List Nat, ∃ ls tl, l = ls ++ tl ∧ ls.length ≤ m ∧ ls.all lowc = true ∧ (ls.length < m → ∀ c, tl.head? = some c → lowc c = false)
  | [] => ⟨[], [], rfl, Nat.zero_le _, rfl, fun _ c h => by cases h⟩
  | c :: l => by
    cases m with
    | zero => exact ⟨[], c :: l, rfl, Nat.zero_le _, rfl, fun h => absurd h (Nat.not_lt_zero _)⟩
    | succ m =>
      cases hc : lowc c with
      | false => exact ⟨[], c :: l, rfl, Nat.zero_le _, rfl, fun _ d h => by cases h; exact hc⟩
      | true =>
        obtain ⟨ls, tl, e, h1, h2, h3⟩ := span_m m l
        exact ⟨c :: ls, tl, by rw [e]; rfl, Nat.succ_le_succ h1, by rw [List.all_cons, hc, h2]; rfl, fun h => h3 (Nat.lt_of_succ_lt_succ h)⟩
theorem bk_split : ∀ l : List Nat, ∃ b r, l = b ++ r ∧ Bk b ∧ b.length = bbl l ∧ r.head? ≠ some 32
  | [] => ⟨[], [], rfl, fun c h => (List.not_mem_nil h).elim, rfl, fun h => by cases h⟩
  | c :: l => by
    by_cases e : c = 32
    · obtain ⟨b, r, e1, h1, h2, h3⟩ := bk_split l
      refine ⟨c :: b, r, by rw [e1]; rfl, fun x hx => ?_, by rw [bbl_cons, if_pos e, List.length_cons, h2], h3⟩
      rcases List.mem_cons.mp hx with rfl | hx
      · exact e
      · exact h1 x hx
    · exact ⟨[], c :: l, rfl, fun c h => (List.not_mem_nil h).elim, by rw [bbl_cons, if_neg e]; rfl, fun h => e (Option.some.inj h)⟩
end Kt
namespace Kt
open PySem PySem.Spec PyProof.Rows L2
/-! ### a word, or none -/
def noText (mg : Str → Option Value) : Value := .ref (clsA mg "NoText")
def spx_word (mg : Str → Option Value) : Sp := fun vs H Q E => ∃ (z : Str) (k o mst : Nat) (ls tl : List Nat), vs = [.str z, .int (k : Int)] ∧ z.length ≤ 100000 ∧ k + o ≤ 200000 ∧
  ((o = 1 ∧ mst = 4 ∧ (z.cps.toList.drop k).head? = some 63) ∨ (o = 0 ∧ mst = 8 ∧ (z.cps.toList.drop k).head? ≠ some 63)) ∧ z.cps.toList.drop (k + o) = ls ++ tl ∧ ls.length ≤ mst ∧ ls.all lowc = true ∧ (ls.length < mst → ∀ c, tl.head? = some c → lowc c = false) ∧
  (ls = [] → ∀ d y H', Same H H' → H' d = some (.xd [("at", .int ((k + o : Nat) : Int)), ("word", .str y)]) → E (noText mg) (some d) H') ∧ (ls ≠ [] → ∀ H', Same H H' → Q (.str ⟨((z.cps.toList.drop k).take (o + ls.length)).toArray⟩) H')
theorem short_int (k : Nat) (h : k ≤ 200000) : (Str.ofString (toString (k : Int))).length ≤ 3000 ∧ ∀ i, V.int (k : Int) = .int i → i.natAbs.log2 < 1920 := by
  have l : (Str.ofString (toString (k : Int))).length ≤ 10 := toString_length_le (by omega) (by decide) (show (k : Int) < 10 ^ 10 by omega)
  refine ⟨by omega, fun i e => ?_⟩
  obtain rfl := V.int.inj e
  rw [Int.natAbs_natCast]
  by_cases h0 : k = 0
  · subst h0
    decide
  · refine (Nat.log2_lt h0).mpr (Nat.lt_of_le_of_lt h ?_)
    exact Nat.lt_of_lt_of_le (show 200000 < 2 ^ 18 by decide) (Nat.pow_le_pow_right (by decide) (by decide))
section
variable {P : Program} {w : World} {K : PySem.W.Frag} {mg : Str → Option Value} {base : Heap}
theorem cx_word_at (T : Tx K mg) (Z : ProgF P) : Cl P w K mg base (L2.CX P w) 4 "word_at" ["text", "at"] (spx_word mg) := by
  refine Cl.mkX T.d_word_at sc_word_at (fun vs H Q E h => ?_) (fun f cdv A outer s H vs Q E hr h => ?_)
  · obtain ⟨z, k, o, mst, ls, tl, rfl, _⟩ := h
    rfl
  obtain ⟨z, k, o, mst, ls, tl, rfl, hz, kz, how, hd, h2, h3, h4, qe, q⟩ := h
  have l2 : 2 ≤ sizeLine := by decide
  refine ⟨_, (Evl.pss_cut (ps_asg (pe_ifExp (pt_cmpR op_eq (pe_slice sl_str (pv 0) (po_some (pv 1)) (po_some (pe_op op_add (pv 1) pe_int))) pe_str (nomark _)) (pe_tup (pa_cons (pe_op op_add (pv 1) pe_int) (pa_cons (pe_glob (v := .int 4) (by rfl) T.m_MOST_HOLE.choose_spec ⟨_, rfl⟩) pa_nil))) (pe_tup (pa_cons (pv 1) (pa_cons (pe_glob (v := .int 8) (by rfl) T.m_MOST_NAME.choose_spec ⟨_, rfl⟩) pa_nil)))) (pg_tup rfl (pgs_cons (pg_name (i := 2) sc_word_at.nd rfl (Or.inl rfl)) (pgs_cons (pg_name (i := 3) sc_word_at.nd rfl (Or.inl rfl)) pgs_nil))))
    (pss_cons (ps_set (i := 4) sc_word_at.nd rfl (Or.inl rfl) (pv 2))
    (Evl.pss_cut (ps_while (passes_of rfl) (PW.pt (pw_and (pt_cmpR op_lt (pv 4) (pe_callB call_len (by rfl) T.z_len (by decide +kernel) (pa_cons (pv 0) pa_nil)) (nomark _)) (pw_and (pt_cmpR op_lt (pv 4) (pe_op op_add (pv 2) (pv 3)) (nomark _)) (pw_and1 (pt_cmpR op_in_sign (pe_ix ix_str (pv 0) (pv 4) (fun _ _ => rfl)) (pe_glob (v := .str "abcdefghijklmnopqrstuvwxyz") (by rfl) T.m_LETTERS.choose_spec ⟨_, rfl⟩) rfl)))))
      (pss_one (ps_aug (i := 4) sc_word_at.nd rfl (Or.inl rfl) pe_int ip_add)))
    (pss_cons (ps_if (pt_cmpR op_eq (pv 4) (pv 2) (nomark _))
      (pss_one (ps_raise rfl (takes_of rfl rfl rfl rfl) (pmk_mi (T.i_NoText.ok T.me Z T.gi_NoText) hr (by omega) rfl (pa_cons (pv 4) pa_nil))))
      pss_nil)
    (pss_one (ps_ret (pe_slice sl_str (pv 0) (po_some (pv 1)) (po_some (pv 4))))))))), ?_⟩
  refine ⟨fun σ' H' => σ' = [some (.str z), some (.int (k : Int)), some (.int ((k + o : Nat) : Int)), some (.int (mst : Int)), none] ∧ Same H H', ?_, fun σ1 H1 e1 => ?_⟩
  · refine ⟨_, rfl, _, rfl, _, rfl, _, rfl, _, _, rfl, rfl, _, rfl, _, rfl, big hz, rfl, _, rfl, ?_⟩
    rw [quest_is, at1]
    rcases how with ⟨rfl, rfl, e⟩ | ⟨rfl, rfl, e⟩
    · rw [decide_eq_true e]
      exact iteT ⟨_, rfl, _, _, rfl, rfl, l2, fun p hp => ⟨p, _, rfl, SqT.of upd_same, rfl, _, _, rfl, _, _, rfl, rfl, rfl, same_new hp _⟩⟩
    · rw [decide_eq_false e]
      exact iteF ⟨_, rfl, l2, fun p hp => ⟨p, _, rfl, SqT.of upd_same, rfl, _, _, rfl, _, _, rfl, rfl, rfl, same_new hp _⟩⟩
  obtain ⟨rfl, s1⟩ := e1
  refine ⟨_, rfl, ?_⟩
  have zl : z.length = z.cps.toList.length := rfl
  refine ⟨fun σ' H' => σ' = [some (.str z), some (.int (k : Int)), some (.int ((k + o : Nat) : Int)), some (.int (mst : Int)), some (.int ((k + o + ls.length : Nat) : Int))] ∧ H' = H1, ?_, fun σ2 H2 e2 => ?_⟩
  · refine ⟨fun m σ H' => ∃ j : Nat, σ = [some (.str z), some (.int (k : Int)), some (.int ((k + o : Nat) : Int)), some (.int (mst : Int)), some (.int ((k + o + j : Nat) : Int))] ∧ H' = H1 ∧ j ≤ ls.length ∧ m = ls.length - j, ⟨_, 0, rfl, rfl, Nat.zero_le _, rfl⟩, fun m σ H' hw => ?_⟩
    obtain ⟨j, rfl, rfl, hj, rfl⟩ := hw
    by_cases hjl : j < ls.length
    · have hdj : z.cps.toList.drop (k + o + j) = ls[j] :: (ls.drop (j + 1) ++ tl) := by
        rw [← List.drop_drop, hd, List.drop_append_of_le_length (Nat.le_of_lt hjl), List.drop_eq_getElem_cons hjl]
        rfl
      obtain ⟨g1, _, g2⟩ := drop_get hdj
      have hlow : lowc ls[j] = true := List.all_eq_true.mp h3 _ (List.getElem_mem hjl)
      refine ⟨_, rfl, _, rfl, _, _, rfl, ⟨big hz, rfl⟩, _, _, rfl, rfl, _, rfl, ?_⟩
      rw [decide_eq_true (by omega : ((k + o + j : Nat) : Int) < (z.length : Int))]
      refine iteT ⟨_, rfl, _, rfl, _, rfl, _, _, rfl, rfl, _, _, rfl, rfl, _, rfl, ?_⟩
      rw [decide_eq_true (by omega : ((k + o + j : Nat) : Int) < ((k + o : Nat) : Int) + (mst : Int))]
      refine iteT ⟨_, rfl, _, rfl, z, _, _, rfl, rfl, big hz, atI_nat g1, _, _, rfl, rfl, _, rfl, ?_⟩
      refine ite2 (fun _ => ?_) (fun c => absurd hlow c)
      refine ⟨fun σ' H2 => σ' = [some (.str z), some (.int (k : Int)), some (.int ((k + o : Nat) : Int)), some (.int (mst : Int)), some (.int ((k + o + (j + 1) : Nat) : Int))] ∧ H2 = H', fun σ' H2 h2' => ?_, _, rfl, _, _, rfl, rfl, rfl, rfl⟩
      obtain ⟨rfl, rfl⟩ := h2'
      exact ⟨ls.length - (j + 1), by omega, j + 1, rfl, rfl, hjl, rfl⟩
    · have ej : j = ls.length := by omega
      subst ej
      have hdj : z.cps.toList.drop (k + o + ls.length) = tl := drop_app hd
      refine ⟨_, rfl, _, rfl, _, _, rfl, ⟨big hz, rfl⟩, _, _, rfl, rfl, _, rfl, ite2 (fun c1 => ?_) (fun _ => ⟨rfl, rfl⟩)⟩
      have c1' : ((k + o + ls.length : Nat) : Int) < (z.length : Int) := of_decide_eq_true c1
      refine ⟨_, rfl, _, rfl, _, rfl, _, _, rfl, rfl, _, _, rfl, rfl, _, rfl, ite2 (fun c2 => ?_) (fun _ => ⟨rfl, rfl⟩)⟩
      have c2' : ((k + o + ls.length : Nat) : Int) < ((k + o : Nat) : Int) + (mst : Int) := of_decide_eq_true c2
      have hlt : k + o + ls.length < z.cps.toList.length := by omega
      rw [List.drop_eq_getElem_cons hlt] at hdj
      have hlow := h4 (by omega) z.cps.toList[k + o + ls.length] (by rw [← hdj]; rfl)
      refine ⟨_, rfl, _, rfl, z, _, _, rfl, rfl, big hz, atI_nat (List.getElem?_eq_getElem hlt), _, _, rfl, rfl, _, rfl, ite2 (fun c => ?_) (fun _ => ⟨rfl, rfl⟩)⟩
      exact absurd (hlow.symm.trans c) (by decide)
  obtain ⟨rfl, rfl⟩ := e2
  have inz : k + o + ls.length ≤ z.length ∨ ls = [] := by
    cases ls with
    | nil => exact .inr rfl
    | cons c r =>
      have := congrArg List.length hd
      rw [List.length_drop, List.length_append, List.length_cons] at this
      rw [List.length_cons]
      omega
  refine ⟨_, rfl, _, rfl, rfl, _, rfl, ?_⟩
  refine ite2 (fun c => ?_) (fun c => ?_)
  · have c : ((k + o + ls.length : Nat) : Int) = ((k + o : Nat) : Int) := V.int.inj (of_decide_eq_true c)
    have e : ls = [] := List.eq_nil_of_length_eq_zero (by omega)
    subst e
    refine ⟨_, rfl, ?_⟩
    obtain ⟨i1, i2⟩ := short_int (k + o) kz
    exact mi_go (v := .int ((k + o : Nat) : Int)) rfl i1 i2 fun d yy H2 s2 hd2 => qe rfl d yy H2 (s1.trans s2) hd2
  · have ne : ls ≠ [] := fun e => by
      subst e
      exact c (decide_eq_true rfl)
    refine ⟨_, rfl, _, rfl, _, rfl, _, rfl, _, rfl, _, rfl, big hz, ?_⟩
    have e : cutS z (some (k : Int)) (some ((k + o + ls.length : Nat) : Int)) = ⟨((z.cps.toList.drop k).take (o + ls.length)).toArray⟩ := by
      apply str_ext
      rw [cut2 z (by omega), show k + o + ls.length - k = o + ls.length by omega]
    rw [e]
    exact q ne H2 s1
end
end Kt
namespace Kt
open PySem PySem.Spec PyProof.Rows L2
theorem wordL_len {wd : List Nat} (h : wordL wd) : 1 ≤ wd.length ∧ wd.length ≤ 8 ∧ ∀ c ∈ wd, c < 1114112 := by
  have key : ∀ l : List Nat, l.all lowc = true → ∀ c ∈ l, c < 1114112 := fun l hl c hc => lowc_lt (List.all_eq_true.mp hl c hc)
  rcases h with ⟨ls, rfl, h1, h2, h3⟩ | ⟨h1, h2, h3⟩
  · refine ⟨Nat.le_add_left .., by rw [List.length_cons]; omega, fun c hc => ?_⟩
    rcases List.mem_cons.mp hc with rfl | hc
    · decide
    · exact key _ h3 c hc
  · exact ⟨h1, h2, key _ h3⟩
theorem fr_none {H H' : Hp} : ∀ {as : List Addr} {C : List Fra}, FrOK H' as C → ∀ a ∈ as, H' a ≠ none
  | b :: bs, c :: C, hF, a, ha => by
    obtain ⟨⟨vs, e1, _⟩, h3⟩ := hF
    rcases List.mem_cons.mp ha with rfl | hm
    · rw [e1]
      exact fun e => by cases e
    · exact fr_none (H := H) h3 a hm
  | [], [], _, _, ha => (List.not_mem_nil ha).elim
  | [], _ :: _, h, _, _ => h.elim
  | _ :: _, [], h, _, _ => h.elim
theorem low_bk {b r : List Nat} (hb : Bk b) (h : ∀ c, r.head? = some c → lowc c = false) : ∀ c, (b ++ r).head? = some c → lowc c = false := by
  intro c hc
  cases b with
  | nil => exact h c hc
  | cons x r =>
    cases hc
    rw [hb c (List.mem_cons_self ..)]
    exact low40.1
end Kt
namespace Kt
open PySem PySem.Spec PyProof.Rows L2
/-! ### where a reader stands -/
inductive PC : List Th → List Nat → Prop
  | nil : PC [] []
  | snoc {ds : List Th} {u v : List Nat} {t : Th} (h : PC ds u) (r : TS t v) : PC (ds ++ [t]) (u ++ (v ++ [44]))
theorem PC.to {ds : List Th} {u : List Nat} (h : PC ds u) : ∀ (l : List Th) (w : List Nat), LSp l w → l ≠ [] → LSp (ds ++ l) (u ++ w) := by
  induction h with
  | nil => exact fun l w h _ => h
  | @snoc ds u v t h r ih =>
    intro l w hl ne
    have e1 : (ds ++ [t]) ++ l = ds ++ (t :: l) := by rw [List.append_assoc]; rfl
    have e2 : (u ++ (v ++ [44])) ++ w = u ++ (v ++ 44 :: w) := by rw [List.append_assoc, List.append_assoc]; rfl
    rw [e1, e2]
    exact ih (t :: l) _ (.inr ⟨v, w, r, hl, rfl⟩) (fun e => by cases e)
theorem PC.lsp {ds : List Th} {u v : List Nat} {t : Th} (h : PC ds u) (r : TS t v) : LSp (ds ++ [t]) (u ++ v) := h.to [t] v (.inl ⟨rfl, r⟩) (fun e => by cases e)
def Cd (C : List Fra) : List Nat := C.map fun f => f.2.1.length + 1
def PreT : List Fra → List Nat → Prop
  | [], s => s = []
  | (z, ds, _) :: C, s => ∃ s0 b1 b2 u, PreT C s0 ∧ Bk b1 ∧ Bk b2 ∧ PC ds u ∧ s = s0 ++ (b1 ++ (z.cps.toList ++ (b2 ++ 40 :: u)))
def CtxS : List Fra → Prop
  | [] => True
  | (z, ds, _) :: C => isW z 8 = true ∧ ds.length ≤ 2 ∧ (∀ p ∈ ds, p.shape true = true) ∧ CtxS C
/-- a whole is read up to k -/
def WSt (z : Str) (R0 : Res) (k : Nat) (C : List Fra) (t : Th) : Prop := k ≤ z.length ∧ ∃ st pre v, z.cps.toList.take k = pre ++ v ∧ PreT C pre ∧ TS t v ∧ st.acc = true ∧ Full st (z.cps.toList.drop k) ∧ (z.cps.toList.drop k).head? ≠ some 32 ∧
  (st.hd = true → (z.cps.toList.drop k).head? ≠ some 40) ∧ run st (Cd C) (z.cps.toList.drop k) k = R0
theorem take_more {l r s : List Nat} {k : Nat} (h : l.drop k = r ++ s) : l.take (k + r.length) = l.take k ++ r := by
  rw [List.take_add, h, List.take_left]
theorem drop_len {l r : List Nat} {k : Nat} (h : l.drop k = r) (hk : k ≤ l.length) : l.length = k + r.length := by
  have := congrArg List.length h
  rw [List.length_drop] at this
  omega
theorem stp_out {st : Sta} (ha : st.acc = true) {c : Nat} (hc : lowc c = false) (D : List Nat) : stp st D c = tailS st D c := by
  rw [stp_acc ha, if_neg (by rw [hc]; decide)]
theorem WSt.pop {z zz : Str} {R0 : Res} {k : Nat} {C : List Fra} {ds ps : List Th} {t : Th} {b s : List Nat} (h : WSt z R0 k ((zz, ds, ps) :: C) t) (e : z.cps.toList.drop k = 41 :: (b ++ s)) (hb : Bk b) (hs : s.head? ≠ some 32) : WSt z R0 (k + 1 + b.length) C (.tup (.str zz :: (ds ++ [t]))) := by
  obtain ⟨hk, st, pre, v, h1, ⟨s0, b1, b2, u, p1, p2, p3, p4, rfl⟩, h3, h4, h5, h6, h7, h8⟩ := h
  have zl : z.length = z.cps.toList.length := rfl
  have e1 : z.cps.toList.drop (k + 1 + b.length) = s := by
    have : z.cps.toList.drop k = (41 :: b) ++ s := e
    have := drop_app this
    rw [List.length_cons] at this
    rw [show k + 1 + b.length = k + (b.length + 1) by omega]
    exact this
  have e2 : z.cps.toList.take (k + 1 + b.length) = z.cps.toList.take k ++ 41 :: b := by
    have : z.cps.toList.drop k = (41 :: b) ++ s := e
    have := take_more this
    rw [List.length_cons] at this
    rw [show k + 1 + b.length = k + (b.length + 1) by omega]
    exact this
  have hl := drop_len e (by rw [← zl]; exact hk)
  rw [List.length_cons, List.length_append] at hl
  refine ⟨by omega, .behind, s0, b1 ++ (zz.cps.toList ++ (b2 ++ 40 :: ((u ++ v) ++ 41 :: b))), ?_, p1, ?_, rfl, fun _ _ _ => rfl, by rw [e1]; exact hs, (fun h => nomatch h), ?_⟩
  · rw [e2, h1]
    simp only [List.append_assoc, List.cons_append]
  · exact .inr ⟨b1, b2, b, u ++ v, p2, p3, hb, p4.lsp h3, rfl⟩
  · rw [e, run_go (s' := .behind) (D' := Cd C)] at h8
    · rw [run_aft (st := .behind) rfl hb] at h8
      rw [e1, ← h8]
      cases b <;> rfl
    · rw [stp_out h4 low40.2.2.1]
      rfl
theorem WSt.done {z : Str} {R0 : Res} {t : Th} (h : WSt z R0 z.length [] t) : TS t z.cps.toList ∧ R0.pos z.length = none := by
  obtain ⟨hk, st, pre, v, h1, h2, h3, h4, h5, h6, h7, h8⟩ := h
  have zl : z.length = z.cps.toList.length := rfl
  obtain rfl : pre = [] := h2
  rw [zl, List.take_length] at h1
  rw [h1]
  refine ⟨h3, ?_⟩
  rw [zl, List.drop_length] at h8
  rw [← h8, run_nil, h4]
  rfl
theorem WSt.bad {z : Str} {R0 : Res} {k : Nat} {C : List Fra} {t : Th} (h : WSt z R0 k C t) (h41 : C = [] ∨ (z.cps.toList.drop k).head? ≠ some 41) (nd : ¬ (C = [] ∧ k = z.length))
    (why : C = [] ∨ (z.cps.toList.drop k).head? ≠ some 44 ∨ ∃ zz ds ps C2, C = (zz, ds, ps) :: C2 ∧ 2 ≤ ds.length) : R0.pos z.length = some k := by
  obtain ⟨hk, st, pre, v, h1, h2, h3, h4, h5, h6, h7, h8⟩ := h
  have zl : z.length = z.cps.toList.length := rfl
  cases e : z.cps.toList.drop k with
  | nil =>
    have hl := drop_nil e
    have ek : k = z.length := by omega
    rw [e, run_nil] at h8
    cases C with
    | nil => exact absurd ⟨rfl, ek⟩ nd
    | cons f C =>
      rw [← h8, ek]
      have : (st.acc && (Cd (f :: C)).isEmpty) = false := by
        rw [show (Cd (f :: C)).isEmpty = false from rfl, Bool.and_false]
      rw [this]
      rfl
  | cons c r =>
    rw [e] at h8 h5 h6 h7 h41 why
    have n32 : c ≠ 32 := fun x => h6 (by rw [x]; rfl)
    have none_ : stp st (Cd C) c = none := by
      cases hc : lowc c with
      | true =>
        rw [stp_acc h4, if_pos hc, h5 c rfl hc]
        rfl
      | false =>
        rw [stp_out h4 hc]
        unfold tailS
        rw [if_neg n32, if_neg (fun x => h7 x.2 (by rw [x.1]; rfl))]
        cases C with
        | nil => rfl
        | cons f C =>
          obtain ⟨zz, ds, ps⟩ := f
          show (if c = 44 ∧ ds.length + 1 < 3 then _ else if c = 41 then _ else none) = none
          rw [if_neg, if_neg]
          · intro x
            rcases h41 with x2 | x2
            · cases x2
            · exact x2 (by rw [x]; rfl)
          · rintro ⟨x, y⟩
            rcases why with w | w | ⟨_, _, _, _, w, l⟩
            · cases w
            · exact w (by rw [x]; rfl)
            · cases w
              omega
    rw [← h8, run_bad none_]
    rfl
end Kt
namespace Kt
open PySem PySem.Spec PyProof.Rows L2
/-! ### brackets that are closed -/
def sp_closed2 (K : PySem.W.Frag) : Sp := fun vs H Q _ => ∃ (z : Str) (k : Nat) (R : Addr) (w : V) (t : Th) (C : List Fra) (as : List Addr) (R0 : Res), vs = [.str z, .int (k : Int), .ref R, w] ∧ z.length ≤ 100000 ∧ WSt z R0 k C t ∧ H R = some (.lst (rvs as)) ∧ FrOK H as C ∧
  (∀ a ∈ as, a ≠ R) ∧ CtxS C ∧ t.shape true = true ∧ Rep H w t ∧
  ∀ p H' (k' : Nat) w' t' C' as', H' p = some (.tup [.int (k' : Int), w']) → k ≤ k' → WSt z R0 k' C' t' → H' R = some (.lst (rvs as')) → FrOK H' as' C' → CtxS C' → t'.shape true = true → Rep H' w' t' → ExR R H H' → (∃ pre, as = pre ++ as') →
    (C' = [] ∨ (z.cps.toList.drop k').head? ≠ some 41) → Q (.ref p) H'
section
variable {P : Program} {w : World} {K : PySem.W.Frag} {mg : Str → Option Value} {base : Heap}
theorem c_closed2 (T : Tx K mg) : Cl P w K mg base CX0 2 "closed" ["text", "at", "rows", "whole"] (sp_closed2 K) := by
  refine Cl.mk0 T.d_closed sc_closed (fun vs H Q E h => ?_) (fun f cdv A outer s H vs Q E hr h => ?_)
  · obtain ⟨z, k, R, w, t, C, as, R0, rfl, _⟩ := h
    rfl
  obtain ⟨z, k, R, w, t, C, as, R0, rfl, hz, hW0, hRl, hFr, hne, hC, hsh, hw, q⟩ := h
  have l1 : 1 ≤ sizeLine := by decide
  refine ⟨_, (pss_cons (ps_while PassesOwn.never (PW.pt (pw_and (pt_truth (pv 2) (by intro _; rfl)) (pw_and1 (pt_cmpR op_eq (pe_slice sl_str (pv 0) (po_some (pv 1)) (po_some (pe_op op_add (pv 1) pe_int))) pe_str (nomark _)))))
      (pss_cons (ps_set (i := 3) sc_closed.nd rfl (Or.inl rfl) (pe_op op_catA (pe_callTy call_tuple_of (by rfl) T.z_tuple (by decide +kernel) (pa_cons (pe_bm0 PySem.F.plainAttrs_list PySem.F.slot_list_pop PySem.F.type_list_pop mt_pop (pv 2)) pa_nil)) (pe_tup (pa_cons (pv 3) pa_nil))))
      (pss_one (ps_set (i := 1) sc_closed.nd rfl (Or.inl rfl) (pe_cl (c_behind_blanks T) hr (by omega) rfl (pa_cons (pv 0) (pa_cons (pe_op op_add (pv 1) pe_int) pa_nil)))))))
    (pss_one (ps_ret (pe_tup (pa_cons (pv 1) (pa_cons (pv 3) pa_nil)))))), ?_⟩
  refine ⟨fun m σ H' => ∃ k' : Nat, ∃ w' t' C' as', σ = [some (.str z), some (.int (k' : Int)), some (.ref R), some w'] ∧ k ≤ k' ∧ WSt z R0 k' C' t' ∧ H' R = some (.lst (rvs as')) ∧ FrOK H' as' C' ∧ CtxS C' ∧ t'.shape true = true ∧ Rep H' w' t' ∧ ExR R H H' ∧ (∃ pre, as = pre ++ as') ∧ m = as'.length,
    ⟨_, k, w, t, C, as, rfl, Nat.le_refl _, hW0, hRl, hFr, hC, hsh, hw, fun _ _ _ h => h, ⟨[], rfl⟩, rfl⟩, fun m σ H' hW => ?_⟩
  obtain ⟨k', w', t', C', as', rfl, hk, hWS, hR, hF, hCo, hsh', hw', hx, ⟨pre, hpre⟩, rfl⟩ := hW
  have hne' : ∀ a ∈ as', a ≠ R := fun a ha => hne a (by rw [hpre]; exact List.mem_append_right _ ha)
  have fin : (C' = [] ∨ (z.cps.toList.drop k').head? ≠ some 41) → tRet (tTup (tCons (tVar 1) (tCons (tVar 3) tNil))) { nx := fun _ H' => Q .non H', rt := Q } [some (.str z), some (.int (k' : Int)), some (.ref R), some w'] H' := fun hd => by
    refine ⟨_, rfl, _, rfl, by show 2 ≤ sizeLine; decide, fun p hp => ?_⟩
    have s1 := same_new hp (.tup [.int (k' : Int), w'])
    exact q p _ k' w' t' C' as' upd_same hk hWS (s1 _ _ hR) (FrOK.up (R := p) (fun b o hb e => s1 _ _ e) (Wk.same s1) (fun a ha e => fr_none (H := H) hF a ha (by rw [e]; exact hp)) hF) hCo hsh' (hw'.wk (Wk.same s1)) (fun b o hb e => s1 _ _ (hx b o hb e)) ⟨pre, hpre⟩ hd
  refine ⟨_, rfl, _, .inl ⟨rvs as', SqL.of hR, rfl⟩, ?_⟩
  cases as' with
  | nil =>
    cases C' with
    | nil => exact iteF (fin (.inl rfl))
    | cons c C' => exact hF.elim
  | cons a as' =>
    cases C' with
    | nil => exact hF.elim
    | cons fr C' =>
      obtain ⟨zz, ds, ps⟩ := fr
      rw [rvs_cons, bne]
      refine iteT ⟨_, rfl, _, rfl, _, rfl, _, rfl, _, _, rfl, rfl, _, rfl, _, rfl, big hz, rfl, _, rfl, ?_⟩
      rw [shut_is, at1]
      by_cases h41 : (z.cps.toList.drop k').head? = some 41
      · rw [decide_eq_true h41]
        refine iteT ?_
        obtain ⟨r0, e⟩ : ∃ r0, z.cps.toList.drop k' = 41 :: r0 := by
          cases e : z.cps.toList.drop k' with
          | nil =>
            rw [e] at h41
            cases h41
          | cons c r =>
            rw [e] at h41
            cases h41
            exact ⟨r, rfl⟩
        obtain ⟨b, s', rfl, hb, hbl, hs'⟩ := bk_split r0
        have hWp := hWS.pop e hb hs'
        obtain ⟨⟨vs, ha, rvs'⟩, hF'⟩ := hF
        obtain ⟨hC1, hC2, hC3, hC4⟩ := hCo
        rw [rvs_cons] at hR
        have hvl := rvs'.length
        refine ⟨fun σ' H2 => ∃ k2 : Nat, ∃ w2 t2, σ' = [some (.str z), some (.int (k2 : Int)), some (.ref R), some w2] ∧ k ≤ k2 ∧ WSt z R0 k2 C' t2 ∧ H2 R = some (.lst (rvs as')) ∧ FrOK H2 as' C' ∧ CtxS C' ∧ t2.shape true = true ∧ Rep H2 w2 t2 ∧ ExR R H H2, fun σ' H2 h2 => ?_, ?_⟩
        · obtain ⟨k2, w2, t2, rfl, g1, g2, g4, g5, g6, g7, g8, g9⟩ := h2
          exact ⟨as'.length, Nat.lt_succ_self _, k2, w2, t2, C', as', rfl, g1, g2, g4, g5, g6, g7, g8, g9, ⟨pre ++ [a], by rw [hpre, List.append_assoc]; rfl⟩, rfl⟩
        · have hlast : (rvs as' ++ [V.ref a])[(rvs as' ++ [V.ref a]).length - 1]? = some (.ref a) := by
            rw [List.length_append, List.length_singleton, Nat.add_sub_cancel, List.getElem?_append_right (Nat.le_refl _), Nat.sub_self]
            rfl
          refine ⟨_, rfl, .inl ⟨rfl, _, SqL.of hR⟩, R, _, _, rfl, rfl, hR, hlast, ?_⟩
          rw [List.dropLast_concat]
          have aR : a ≠ R := hne' a (List.mem_cons_self ..)
          have ha1 : (upd H' R (.lst (rvs as'))) a = some (.lst (.str zz :: vs)) := by
            rw [upd_ne aR]
            exact ha
          have x1 : ExR R H' (upd H' R (.lst (rvs as'))) := fun b o hb e => by
            rw [upd_ne hb]
            exact e
          have w1 := Wk.lst_upd hR (rvs as')
          refine ⟨a, _, rfl, .inl ⟨SqL.of ha1, fun p1 hp1 => ⟨_, rfl, l1, fun p2 hp2 => ?_⟩⟩⟩
          have s1 := same_new hp1 (.tup (.str zz :: vs))
          have s2 := same_new hp2 (.tup [w'])
          refine catA (s2 p1 _ upd_same) upd_same (fun e => by cases e) (by rw [List.length_cons, List.length_singleton]; omega) fun p3 H3 s3 e3 => ?_
          have s13 := (s1.trans s2).trans s3
          have w13 := w1.trans (Wk.same s13)
          have hR3 := s13 R _ upd_same
          refine ⟨_, rfl, _, rfl, _, _, rfl, rfl, z, k' + 1, rfl, hz, ?_⟩
          obtain ⟨g1, g2, g3⟩ := drop_get e
          rw [g2, ← hbl]
          refine ⟨_, _, .tup (.str zz :: (ds ++ [t'])), rfl, by omega, hWp, hR3, ?_, hC4, ?_, ?_, ?_⟩
          · exact FrOK.up (R := R) (fun b o hb e => s13 _ _ (x1 b o hb e)) w13 (fun b hb' => hne' b (List.mem_cons_of_mem _ hb')) hF'
          · exact shape_of (by rw [List.length_append, List.length_singleton]; omega) hC1 fun p hp => (List.mem_append.mp hp).elim (hC3 p) fun h => by rw [List.mem_singleton.mp h]; exact hsh'
          · refine .tup e3 ?_ (.cons (isW_rep hC1 (by decide)) ((rvs'.wk w13).append (.cons (hw'.wk w13) .nil)))
            rw [List.length_append, List.length_cons, List.length_singleton]
            omega
          · exact fun b o hb e => s13 _ _ (x1 b o hb (hx b o hb e))
      · rw [decide_eq_false h41]
        exact iteF (fin (.inr h41))
end
end Kt
namespace Kt
open PySem PySem.Spec PyProof.Rows L2
/-! ### any text read -/
def spx_rw (mg : Str → Option Value) : Sp := fun vs H Q E => ∃ (z : Str), vs = [.str z] ∧ z.length ≤ 100000 ∧
  (∀ e, (run .beg [] z.cps.toList 0).pos z.length = some e → ∀ d y H', Same H H' → H' d = some (.xd [("at", .int (e : Nat)), ("word", .str y)]) → E (noText mg) (some d) H') ∧
  ((run .beg [] z.cps.toList 0).pos z.length = none → ∀ v t H', Same H H' → Rep H' v t → t.shape true = true → TS t z.cps.toList → Q v H')
/-- read_pattern: of another thing than a text, or of a text -/
def spx_rp (mg : Str → Option Value) : Sp := fun vs H Q E => ∃ v, vs = [v] ∧ ((∃ t, Rep H v t ∧ t.isStr = false ∧ ∀ d y H', Same H H' → H' d = some (.xd [("at", .int 0), ("word", .str y)]) → E (noText mg) (some d) H') ∨
  ∃ (z : Str), v = .str z ∧ z.length ≤ 100000 ∧ (∀ e, (run .beg [] z.cps.toList 0).pos z.length = some e → ∀ d y H', Same H H' → H' d = some (.xd [("at", .int (e : Nat)), ("word", .str y)]) → E (noText mg) (some d) H') ∧
    ((run .beg [] z.cps.toList 0).pos z.length = none → ∀ t, t.shape true = true → TS t z.cps.toList → within true t = false → ∀ d y H', Same H H' → H' d = some (.xd [("at", .int (z.length : Nat)), ("word", .str y)]) → E (noText mg) (some d) H') ∧
    ((run .beg [] z.cps.toList 0).pos z.length = none → ∀ v t H', Same H H' → Rep H' v t → within true t = true → TS t z.cps.toList → Q v H'))
/-- behind an opened bracket or a comma, or at the begin -/
def BSt (z : Str) (R : Addr) (H : Hp) (R0 : Res) (k : Nat) (σ : L2.St) (H' : Hp) : Prop := ∃ C as y3 y4 y5, σ = [some (.str z), some (.ref R), some (.int (k : Int)), y3, y4, y5] ∧ k ≤ z.length ∧ PreT C (z.cps.toList.take k) ∧ run .beg (Cd C) (z.cps.toList.drop k) k = R0 ∧ CtxS C ∧
  H' R = some (.lst (rvs as)) ∧ FrOK H' as C ∧ as.Nodup ∧ (∀ a ∈ as, a ≠ R ∧ H a = none) ∧ Same H H' ∧ as.length ≤ k
theorem BSt.le {z : Str} {R : Addr} {H : Hp} {R0 : Res} {k : Nat} {σ : L2.St} {H' : Hp} (h : BSt z R H R0 k σ H') : k ≤ z.length := by
  obtain ⟨C, as, y3, y4, y5, _, h, _⟩ := h
  exact h
/-- no word stands here -/
theorem no_word {z : Str} {R0 : Res} {D : List Nat} {k o mst : Nat} {tl : List Nat} (hk : k ≤ z.length) (hr : run .beg D (z.cps.toList.drop k) k = R0) (how : (o = 1 ∧ mst = 4 ∧ (z.cps.toList.drop k).head? = some 63) ∨ (o = 0 ∧ mst = 8 ∧ (z.cps.toList.drop k).head? ≠ some 63))
    (n32 : (z.cps.toList.drop k).head? ≠ some 32) (hd : z.cps.toList.drop (k + o) = [] ++ tl) (h4 : ([] : List Nat).length < mst → ∀ c, tl.head? = some c → lowc c = false) : R0.pos z.length = some (k + o) := by
  have zl : z.length = z.cps.toList.length := rfl
  rw [List.nil_append] at hd
  rcases how with ⟨rfl, rfl, e⟩ | ⟨rfl, rfl, e⟩
  · have h4 := h4 (by decide)
    cases ed : z.cps.toList.drop k with
    | nil =>
      rw [ed] at e
      cases e
    | cons c r =>
      rw [ed] at e hr
      cases e
      obtain ⟨g1, g2, g3⟩ := drop_get ed
      rw [hd] at g2
      subst g2
      rw [run_go (stp_63 D)] at hr
      cases tl with
      | nil =>
        have hl := drop_len hd (by omega)
        rw [← hr, run_nil]
        show some z.length = some (k + 1)
        rw [List.length_nil] at hl
        rw [zl, hl]
      | cons c r =>
        have hc := h4 c rfl
        have : stp .mark D c = none := if_neg (by rw [hc]; decide)
        rw [← hr, run_bad this]
        rfl
  · have h4 := h4 (by decide)
    rw [Nat.add_zero] at hd
    rw [hd] at hr e n32
    cases tl with
    | nil =>
      have hl := drop_len hd (by omega)
      rw [← hr, run_nil]
      show some z.length = some (k + 0)
      rw [List.length_nil] at hl
      rw [zl, hl]
    | cons c r =>
      have hc := h4 c rfl
      have : stp .beg D c = none := by
        rw [stp_beg hc, if_neg (fun x => e (by rw [x]; rfl)), if_neg (fun x => n32 (by rw [x]; rfl))]
      rw [← hr, run_bad this]
      rfl
/-- a word stands here -/
theorem a_word {D l ls tl : List Nat} {k o mst : Nat} (how : (o = 1 ∧ mst = 4 ∧ l.head? = some 63) ∨ (o = 0 ∧ mst = 8 ∧ l.head? ≠ some 63)) (hd : l.drop o = ls ++ tl) (hm : ls.length ≤ mst) (h3 : ls.all lowc = true) (h4 : ls.length < mst → ∀ c, tl.head? = some c → lowc c = false) (ne : ls ≠ []) :
    ∃ st wd, l = wd ++ tl ∧ wd = l.take (o + ls.length) ∧ wordL wd ∧ st.acc = true ∧ Full st tl ∧ run .beg D l k = run st D tl (k + wd.length) ∧ wd.length = o + ls.length ∧
      ((o = 1 ∧ st.hd = false ∧ wd.head? = some 63) ∨ (o = 0 ∧ st.hd = true ∧ isW ⟨wd.toArray⟩ 8 = true ∧ wd.head? ≠ some 63)) := by
  have h1 : 1 ≤ ls.length := List.length_pos_iff.mpr ne
  rcases how with ⟨rfl, rfl, e⟩ | ⟨rfl, rfl, e⟩
  · cases l with
    | nil => cases e
    | cons c r =>
      cases e
      have hd : r = ls ++ tl := hd
      subst hd
      refine ⟨.hole ls.length, 63 :: ls, rfl, ?_, .inl ⟨ls, rfl, h1, hm, h3⟩, rfl, fun c hc hl => ?_, ?_, by rw [List.length_cons]; omega, .inl ⟨rfl, rfl, rfl⟩⟩
      · rw [Nat.add_comm, List.take_succ_cons, List.take_left]
      · show (if ls.length < 4 then some _ else none) = none
        refine if_neg fun x => ?_
        rw [h4 x c hc] at hl
        cases hl
      · rw [run_whole h3 h1 hm, List.length_cons]
        rw [show k + 1 + ls.length = k + (ls.length + 1) by omega]
  · have hd : l = ls ++ tl := hd
    subst hd
    refine ⟨.name ls.length, ls, rfl, ?_, .inr ⟨h1, hm, h3⟩, rfl, fun c hc hl => ?_, run_wname h3 h1 hm, by omega, .inr ⟨rfl, rfl, isW_of h1 (show ((⟨ls.toArray⟩ : Str).length : Int) ≤ 8 from by show ((ls.toArray.size : Nat) : Int) ≤ 8; rw [List.size_toArray]; omega) h3, ?_⟩⟩
    · rw [Nat.zero_add, List.take_left]
    · show (if ls.length < 8 then some _ else none) = none
      refine if_neg fun x => ?_
      rw [h4 x c hc] at hl
      cases hl
    · cases ls with
      | nil => cases h1
      | cons c r =>
        intro x
        exact e x
section
variable {P : Program} {w : World} {K : PySem.W.Frag} {mg : Str → Option Value} {base : Heap}
theorem cx_read_whole (T : Tx K mg) (Z : ProgF P) : Cl P w K mg base (L2.CX P w) 6 "read_whole" ["text"] (spx_rw mg) := by
  have c_closed := fun (T : Tx K mg) => c_closed2 (P := P) (w := w) (base := base) T
  have cx_word_at := fun (T : Tx K mg) => cx_word_at (P := P) (w := w) (base := base) T Z
  refine Cl.mkX T.d_read_whole sc_read_whole (fun vs H Q E h => ?_) (fun f cdv A outer s H vs Q E hr h => ?_)
  · obtain ⟨z, rfl, _⟩ := h
    rfl
  obtain ⟨z, rfl, hz, qe, q⟩ := h
  obtain ⟨R0, hR0⟩ : ∃ R0, R0 = run .beg [] z.cps.toList 0 := ⟨_, rfl⟩
  rw [← hR0] at qe q
  have l1 : 1 ≤ sizeLine := by decide
  refine ⟨_, (pss_cons (ps_set (i := 1) sc_read_whole.nd rfl (Or.inl rfl) (pe_lst pa_nil))
    (pss_cons (ps_set (i := 2) sc_read_whole.nd rfl (Or.inl rfl) pe_int)
    (pss_one (ps_while (passes_of rfl) (pt_val pe_bl)
      (pss_cons (ps_set (i := 2) sc_read_whole.nd rfl (Or.inl rfl) (pe_cl (c_behind_blanks T) hr (by omega) rfl (pa_cons (pv 0) (pa_cons (pv 2) pa_nil))))
      (pss_cons (ps_set (i := 3) sc_read_whole.nd rfl (Or.inl rfl) (pe_clS (cx_word_at T) hr (by omega) rfl (fun σ => passAt (takes_of rfl rfl rfl rfl) σ) (pa_cons (pv 0) (pa_cons (pv 2) pa_nil))))
      (pss_cons (ps_set (i := 2) sc_read_whole.nd rfl (Or.inl rfl) (pe_cl (c_behind_blanks T) hr (by omega) rfl (pa_cons (pv 0) (pa_cons (pe_op op_add (pv 2) (pe_callB call_len (by rfl) T.z_len (by decide +kernel) (pa_cons (pv 3) pa_nil))) pa_nil))))
      (pss_cons (ps_set (i := 4) sc_read_whole.nd rfl (Or.inl rfl) (pe_cmpR op_ne (pe_ix ix_str (pv 3) pe_int (fun _ _ => rfl)) pe_str (nomark _)))
      (pss_cons (ps_if (PW.pt (pw_and (pt_val (pv 4)) (pw_and1 (pt_cmpR op_eq (pe_slice sl_str (pv 0) (po_some (pv 2)) (po_some (pe_op op_add (pv 2) pe_int))) pe_str (nomark _)))))
        (pss_cons (ps_expr (pe_bm PySem.F.plainAttrs_list PySem.F.slot_list_append PySem.F.type_list_append mt_append (pv 1) (pa_cons (pe_lst (pa_cons (pv 3) pa_nil)) pa_nil)))
        (pss_cons (ps_aug (i := 2) sc_read_whole.nd rfl (Or.inl rfl) pe_int ip_add)
        (pss_one ps_continue)))
        pss_nil)
      (pss_cons (ps_asg (pe_cl (c_closed T) hr (by omega) rfl (pa_cons (pv 0) (pa_cons (pv 2) (pa_cons (pv 1) (pa_cons (pe_ifExp (pt_val (pv 4)) (pe_tup (pa_cons (pv 3) pa_nil)) (pv 3)) pa_nil))))) (pg_tup rfl (pgs_cons (pg_name (i := 2) sc_read_whole.nd rfl (Or.inl rfl)) (pgs_cons (pg_name (i := 5) sc_read_whole.nd rfl (Or.inl rfl)) pgs_nil))))
      (pss_cons (ps_if (PW.pt (pw_and (pt_not (pt_truth (pv 1) (by intro _; rfl))) (pw_and1 (pt_cmpR op_eq (pv 2) (pe_callB call_len (by rfl) T.z_len (by decide +kernel) (pa_cons (pv 0) pa_nil)) (nomark _)))))
        (pss_one (ps_ret (pv 5)))
        pss_nil)
      (pss_cons (ps_if (PW.pt (pw_or (pt_not (pt_truth (pv 1) (by intro _; rfl))) (pw_or (pt_cmpR op_ne (pe_slice sl_str (pv 0) (po_some (pv 2)) (po_some (pe_op op_add (pv 2) pe_int))) pe_str (nomark _)) (pw_or1 (pt_cmpR op_ge (pe_callB call_len (by rfl) T.z_len (by decide +kernel) (pa_cons (pe_ix ix_list (pv 1) (pe_un un_neg pe_int) (fun _ _ => rfl)) pa_nil)) (pe_glob (v := .int 3) (by rfl) T.m_MOST_PARTS.choose_spec ⟨_, rfl⟩) (nomark _))))))
        (pss_one (ps_raise rfl (takes_of rfl rfl rfl rfl) (pmk_mi (T.i_NoText.ok T.me Z T.gi_NoText) hr (by omega) rfl (pa_cons (pv 2) pa_nil))))
        pss_nil)
      (pss_cons (ps_expr (pe_bm PySem.F.plainAttrs_list PySem.F.slot_list_append PySem.F.type_list_append mt_append (pe_ix ix_list (pv 1) (pe_un un_neg pe_int) (fun _ _ => rfl)) (pa_cons (pv 5) pa_nil)))
      (pss_one (ps_aug (i := 2) sc_read_whole.nd rfl (Or.inl rfl) pe_int ip_add))))))))))))))), ?_⟩
  refine ⟨Nat.zero_le _, fun R hR => ?_⟩
  have zl : z.length = z.cps.toList.length := rfl
  refine ⟨fun m σ H' => ∃ k : Nat, BSt z R H R0 k σ H' ∧ m = z.length - k,
    ⟨_, 0, ⟨[], [], _, _, _, rfl, Nat.zero_le _, rfl, hR0.symm, trivial, upd_same, trivial, List.nodup_nil, fun a ha => (List.not_mem_nil ha).elim, same_new hR _, Nat.le_refl _⟩, rfl⟩, fun m σ H' hW => ?_⟩
  obtain ⟨k, ⟨C, as, y3, y4, y5, rfl, hkz, hpre, hrun, hC, hHR, hF, hnd, has, hS, hak⟩, rfl⟩ := hW
  obtain ⟨b1, s1, eb1, hb1, hbl1, hs1⟩ := bk_split (z.cps.toList.drop k)
  have c1 : z.cps.toList.drop (k + b1.length) = s1 := drop_app eb1
  have t1 := take_more eb1
  have l1' := drop_len eb1 (by omega)
  rw [List.length_append] at l1'
  rw [eb1, run_beg hb1] at hrun
  refine ⟨_, rfl, iteT ⟨fun σ' H2 => ∃ k2 : Nat, k < k2 ∧ BSt z R H R0 k2 σ' H2, fun σ' H2 h2 => ?_, ?_⟩⟩
  · obtain ⟨k2, hk2, hW⟩ := h2
    have hk3 := BSt.le hW
    exact ⟨z.length - k2, by omega, k2, hW, rfl⟩
  refine ⟨_, rfl, _, rfl, z, k, rfl, hz, ?_⟩
  rw [← hbl1]
  obtain ⟨o, mst, how⟩ : ∃ o mst : Nat, (o = 1 ∧ mst = 4 ∧ s1.head? = some 63) ∨ (o = 0 ∧ mst = 8 ∧ s1.head? ≠ some 63) := by
    by_cases e : s1.head? = some 63
    · exact ⟨1, 4, .inl ⟨rfl, rfl, e⟩⟩
    · exact ⟨0, 8, .inr ⟨rfl, rfl, e⟩⟩
  obtain ⟨ls, tl, hspan, hm, hlow, hstop⟩ := span_m mst (s1.drop o)
  have c2 : z.cps.toList.drop (k + b1.length + o) = ls ++ tl := by rw [← List.drop_drop, c1, hspan]
  have o2 : o ≤ 1 := by rcases how with ⟨rfl, _⟩ | ⟨rfl, _⟩ <;> decide
  refine ⟨_, rfl, _, rfl, z, k + b1.length, o, mst, ls, tl, rfl, hz, by omega, by rw [c1]; exact how, c2, hm, hlow, hstop, fun e dd yy H1 s1' hdd => ?_, fun ne H1 s1' => ?_⟩
  · subst e
    refine qe _ (no_word (by omega) (by rw [c1]; exact hrun) (by rw [c1]; exact how) (by rw [c1]; exact hs1) c2 hstop) dd yy H1 (hS.trans s1') hdd
  obtain ⟨st, wd, ew, ewd, hwd, hacc, hfull, hrw, hwl, hkind⟩ := a_word (D := Cd C) (k := k + b1.length) how hspan hm hlow hstop ne
  rw [c1, ← ewd]
  rw [hrw] at hrun
  obtain ⟨wl1, wl8, wok⟩ := wordL_len hwd
  obtain ⟨b2, s2, eb2, hb2, hbl2, hs2⟩ := bk_split tl
  have c3 : z.cps.toList.drop (k + b1.length + wd.length) = tl := drop_app (c1.trans ew)
  have c4 : z.cps.toList.drop (k + b1.length + wd.length + b2.length) = s2 := drop_app (c3.trans eb2)
  have t2 := take_more (c1.trans ew)
  have t3 := take_more (c3.trans eb2)
  have l5 : k + b1.length + wd.length + b2.length + s2.length = z.length := by
    have h6 := congrArg List.length ew
    have h7 := congrArg List.length eb2
    rw [List.length_append] at h6 h7
    omega
  rw [eb2, run_aft hacc hb2] at hrun
  rw [eb2] at hfull
  have hfull2 := hfull.aft
  refine ⟨_, rfl, _, rfl, _, rfl, _, _, rfl, ⟨big (Nat.le_trans wl8 (by decide)), rfl⟩, _, _, rfl, rfl, z, k + b1.length + wd.length, rfl, hz, ?_⟩
  rw [c3, ← hbl2]
  obtain ⟨c, wr, rfl⟩ : ∃ c wr, wd = c :: wr := by
    cases wd with
    | nil => exact absurd wl1 (by decide)
    | cons c wr => exact ⟨c, wr, rfl⟩
  refine ⟨_, rfl, ⟨(c :: wr).toArray⟩, _, c, rfl, rfl, big (Nat.le_trans wl8 (by decide)), atI_nat (j := 0) rfl, ?_⟩
  refine ⟨rfl, ?_⟩
  rw [quest_is, sgn_eq]
  refine ⟨_, rfl, _, rfl, ?_⟩
  have hs1 : Same H H1 := hS.trans s1'
  have hR1 := s1' _ _ hHR
  have hF1 : FrOK H1 as C := FrOK.up (R := R) (fun b o hb e => s1' _ _ e) (Wk.same s1') (fun a ha => (has a ha).1) hF
  obtain ⟨kk, hkk⟩ : ∃ kk, kk = k + b1.length + (c :: wr).length + b2.length := ⟨_, rfl⟩
  have tk : z.cps.toList.take kk = z.cps.toList.take k ++ (b1 ++ ((c :: wr) ++ b2)) := by
    rw [hkk, t3, t2, t1, List.append_assoc, List.append_assoc]
  rw [← hkk] at c4 hrun l5 ⊢
  have hkk2 : k < kk := by
    rw [hkk, List.length_cons]
    omega
  have wk : ∀ t, TS t (b1 ++ ((c :: wr) ++ b2)) → ((aftB st b2).hd = true → s2.head? ≠ some 40) → WSt z R0 kk C t := fun t ht h40 =>
    ⟨by omega, aftB st b2, _, _, tk, hpre, ht, aftB_acc hacc b2, by rw [c4]; exact hfull2, by rw [c4]; exact hs2, by rw [c4]; exact h40, by rw [c4]; exact hrun⟩
  have raise_ : ∀ {k' : Nat} {C' : List Fra} {t' : Th} {H3 : Hp}, WSt z R0 k' C' t' → Same H H3 → (C' = [] ∨ (z.cps.toList.drop k').head? ≠ some 41) → ¬ (C' = [] ∧ k' = z.length) → (C' = [] ∨ (z.cps.toList.drop k').head? ≠ some 44 ∨ ∃ zz ds ps C2, C' = (zz, ds, ps) :: C2 ∧ 2 ≤ ds.length) →
      [V.int (k' : Int)].length ≤ 1000 ∧ ∀ a, H3 a = none → sp_mi (clsA mg "NoText") "at" (.ref a :: ([V.int (k' : Int)] ++ [])) (upd H3 a (exo a (clsA mg "NoText") none)) (fun v H2 => v = .non ∧ ∃ (d : Addr) (fs : List (Str × V)), H2 a = some (exo a (clsA mg "NoText") (some d)) ∧ H2 d = some (exd d fs) ∧ H3 d = none ∧ E (noText mg) (some d) (upd (del H2 a) d (.xd fs))) (fun _ _ _ => False) := by
    intro k' C' t' H3 hW hS3 h41 nd why
    have hle := hW.1
    obtain ⟨i1, i2⟩ := short_int k' (by omega)
    exact mi_go (v := .int (k' : Int)) rfl i1 i2 fun dd yy H2 s2 hd2 => qe _ (hW.bad h41 nd why) dd yy H2 (hS3.trans s2) hd2
  by_cases h40 : o = 0 ∧ s2.head? = some 40
  · obtain ⟨rfl, h40⟩ := h40
    obtain ⟨hhd, h8, hq⟩ : st.hd = true ∧ isW ⟨(c :: wr).toArray⟩ 8 = true ∧ (c :: wr).head? ≠ some 63 := by
      rcases hkind with ⟨x, _⟩ | ⟨_, x⟩
      · cases x
      · exact x
    have hq : c ≠ 63 := fun e => hq (congrArg some e)
    rw [decide_eq_false hq]
    refine iteT ⟨_, rfl, _, rfl, _, rfl, _, rfl, _, _, rfl, rfl, _, rfl, _, rfl, big hz, rfl, _, rfl, ?_⟩
    rw [open_is, at1, c4, decide_eq_true h40]
    refine iteT ?_
    obtain ⟨s3, rfl⟩ : ∃ s3, s2 = 40 :: s3 := by
      cases s2 with
      | nil => cases h40
      | cons x r =>
        cases h40
        exact ⟨r, rfl⟩
    refine ⟨_, rfl, .inl ⟨rfl, _, SqL.of hR1⟩, _, rfl, l1, fun p1 hp1 => ?_⟩
    have sp := same_new hp1 (.lst [V.str ⟨(c :: wr).toArray⟩])
    have hR2 := sp _ _ hR1
    obtain ⟨g1, g2, g3⟩ := drop_get c4
    have hz' := big hz
    refine ⟨R, _, _, rfl, rfl, hR2, by rw [rvs_len]; omega, _, rfl, _, _, rfl, rfl, ?_⟩
    have pR : p1 ≠ R := fun e => by
      subst e
      rw [hR1] at hp1
      cases hp1
    have w2 : Wk H1 (upd (upd H1 p1 (.lst [V.str ⟨(c :: wr).toArray⟩])) R (.lst (rvs as ++ [.ref p1]))) := (Wk.same sp).trans (Wk.lst_upd hR2 _)
    have tk2 : z.cps.toList.take (kk + 1) = z.cps.toList.take kk ++ [40] := take_more (r := [40]) c4
    have r40 : stp (aftB st b2) (Cd C) 40 = some (.beg, 1 :: Cd C) := by
      rw [stp_out (aftB_acc hacc b2) low40.2.1]
      unfold tailS
      rw [if_neg (by decide), if_pos ⟨rfl, by rw [aftB_hd]; exact hhd⟩]
    rw [run_go r40] at hrun
    refine ⟨kk + 1, by omega, (⟨(c :: wr).toArray⟩, [], []) :: C, p1 :: as, _, _, _, rfl, by omega, ?_, by rw [g2]; exact hrun, ⟨h8, Nat.zero_le _, (fun p hp => (List.not_mem_nil hp).elim), hC⟩, by rw [rvs_cons]; exact upd_same, ⟨⟨[], by rw [upd_ne pR]; exact upd_same, .nil⟩, FrOK.up (R := R) (fun b o hb e => by rw [upd_ne hb]; exact sp _ _ e) w2 (fun a ha => (has a ha).1) hF1⟩, List.nodup_cons.mpr ⟨fun hm => fr_none (H := H) hF1 _ hm hp1, hnd⟩, fun a ha => ?_, Same.mut (hs1.trans sp) hR, by rw [List.length_cons]; omega⟩
    · rw [tk2, tk]
      exact ⟨_, b1, b2, [], hpre, hb1, hb2, .nil, by simp only [List.append_assoc, List.cons_append, List.nil_append]⟩
    · rcases List.mem_cons.mp ha with rfl | ha
      · refine ⟨pR, ?_⟩
        cases hh : H a with
        | none => rfl
        | some o =>
          have := hs1 _ _ hh
          rw [hp1] at this
          cases this
      · exact has a ha
  refine Or.elim hkind (fun hone => ?one) (fun htwo => ?two)
  case' one =>
    obtain ⟨rfl, hhd, hq⟩ := hone
    have hq : c = 63 := Option.some.inj hq
    rw [decide_eq_true hq]
    have hsh0 : (Th.str ⟨(c :: wr).toArray⟩).shape true = true := by
      rcases hwd with ⟨ls, e, g1, g2, g3⟩ | ⟨_, _, g3⟩
      · exact isHl_of (z := ⟨(c :: wr).toArray⟩) e g1 g2 g3
      · rw [List.all_cons, hq, low40.2.2.2.2] at g3
        cases g3
    have s2 : Same H' H1 := s1'
    refine iteF (iteF ⟨_, rfl, _, rfl, _, rfl, _, rfl, _, rfl, iteF ⟨_, rfl, z, kk, R, _, .str ⟨(c :: wr).toArray⟩, C, as, R0, rfl, hz, wk _ ⟨b1, b2, hb1, hb2, rfl⟩ (fun h => by rw [aftB_hd, hhd] at h; cases h), hR1, hF1, fun a ha => (has a ha).1, hC, hsh0, .str _ (Nat.le_trans wl8 (by decide)) wok, fun p H3 k' w' t' C' as' hp hk' hWS hR' hF' hC' hsh' hw' hx hpre2 hdd => ?_⟩⟩)
  case' two =>
    obtain ⟨rfl, hhd, h8, hq⟩ := htwo
    have hq : c ≠ 63 := fun e => hq (congrArg some e)
    rw [decide_eq_false hq]
    have n40 : s2.head? ≠ some 40 := fun e => h40 ⟨rfl, e⟩
    refine iteT ⟨_, rfl, _, rfl, _, rfl, _, rfl, _, _, rfl, rfl, _, rfl, _, rfl, big hz, rfl, _, rfl, ?_⟩
    rw [open_is, at1, c4, decide_eq_false n40]
    refine iteF ⟨_, rfl, _, rfl, _, rfl, _, rfl, _, rfl, iteT ⟨_, rfl, l1, fun p1 hp1 => ?_⟩⟩
    have s3 := same_new hp1 (.tup [V.str ⟨(c :: wr).toArray⟩])
    have s2 := s1'.trans s3
    refine ⟨z, kk, R, _, .tup [.str ⟨(c :: wr).toArray⟩], C, as, R0, rfl, hz, wk _ (.inl ⟨rfl, b1, b2, hb1, hb2, rfl⟩) (fun _ => n40), s3 _ _ hR1, FrOK.up (R := R) (fun b o hb e => s3 _ _ e) (Wk.same s3) (fun a ha => (has a ha).1) hF1, fun a ha => (has a ha).1, hC, shape_of (ps := []) (by decide) h8 (fun p hp => (List.not_mem_nil hp).elim), .tup upd_same (Nat.le_trans (Nat.le_refl 1) (by decide)) (.cons (isW_rep h8 (by decide)) .nil), fun p H3 k' w' t' C' as' hp hk' hWS hR' hF' hC' hsh' hw' hx hpre2 hdd => ?_⟩
  all_goals
    have hS3 : Same H H3 := fun a o ha => hx a o (fun e => by subst e; rw [hR] at ha; cases ha) (s2 _ _ (hS a o ha))
    obtain ⟨pre2, hpre2⟩ := hpre2
    have has' : ∀ a ∈ as', a ≠ R ∧ H a = none := fun a ha => has a (by rw [hpre2]; exact List.mem_append_right _ ha)
    have hnd' : as'.Nodup := by rw [hpre2] at hnd; exact (List.nodup_append.mp hnd).2.1
    have hl' : as'.length ≤ as.length := by rw [hpre2, List.length_append]; omega
    have hle := hWS.1
    refine ⟨p, _, rfl, SqT.of hp, rfl, _, _, rfl, _, _, rfl, rfl, ?_⟩
    refine ⟨_, rfl, _, .inl ⟨rvs as', SqL.of hR', rfl⟩, ?_⟩
    cases as' with
    | nil =>
      cases C' with
      | cons f C' => exact hF'.elim
      | nil =>
        refine iteT ⟨_, rfl, _, rfl, _, _, rfl, ⟨big hz, rfl⟩, rfl, _, rfl, ?_⟩
        by_cases hke : k' = z.length
        · subst hke
          rw [decide_eq_true rfl]
          obtain ⟨d1, d2⟩ := hWS.done
          exact iteT ⟨_, rfl, q d2 _ _ _ hS3 hw' hsh' d1⟩
        · rw [decide_eq_false (fun e => hke (by have := V.int.inj e; omega))]
          exact iteF ⟨_, rfl, _, .inl ⟨_, SqL.of hR', rfl⟩, iteT ⟨_, rfl, raise_ hWS hS3 hdd (fun x => hke x.2) (.inl rfl)⟩⟩
    | cons a as' =>
      cases C' with
      | nil => exact hF'.elim
      | cons f C2 =>
        obtain ⟨zz, ds, ps⟩ := f
        obtain ⟨⟨vs, ha, hvs⟩, hF''⟩ := hF'
        rw [rvs_cons] at hR' ⊢
        rw [bne]
        refine iteF ⟨_, rfl, _, .inl ⟨_, SqL.of hR', rfl⟩, ?_⟩
        rw [bne]
        refine iteF ⟨_, rfl, _, rfl, _, rfl, _, rfl, _, _, rfl, rfl, _, rfl, _, rfl, big hz, rfl, _, rfl, ?_⟩
        rw [comma_is, at1]
        by_cases h44 : (z.cps.toList.drop k').head? = some 44
        · rw [decide_eq_true h44]
          obtain ⟨hC1, hC2, hC3, hC4⟩ := hC'
          have hvl := hvs.length
          have hz' := big hz
          have hsz : 100 ≤ sizeLine := by decide
          refine iteF ⟨_, rfl, _, rfl, R, _, _, _, rfl, rfl, SqL.of hR', atI_last _ _, _, _, rfl, .inl ⟨_, SqL.of ha, rfl⟩, _, _, rfl, rfl, _, rfl, ?_⟩
          by_cases h2 : 2 ≤ ds.length
          · rw [decide_eq_true (by rw [List.length_cons]; omega)]
            exact iteT ⟨_, rfl, raise_ hWS hS3 hdd (fun x => by cases x.1) (.inr (.inr ⟨_, _, _, _, rfl, h2⟩))⟩
          · rw [decide_eq_false (by rw [List.length_cons]; omega)]
            obtain ⟨r0, e⟩ : ∃ r0, z.cps.toList.drop k' = 44 :: r0 := by
              cases e : z.cps.toList.drop k' with
              | nil =>
                rw [e] at h44
                cases h44
              | cons x r =>
                rw [e] at h44
                cases h44
                exact ⟨r, rfl⟩
            obtain ⟨g1, g2, g3⟩ := drop_get e
            refine iteF ⟨_, rfl, _, rfl, R, _, _, _, rfl, rfl, SqL.of hR', atI_last _ _, ?_⟩
            have w3 : Wk H3 (upd H3 a (.lst ((V.str zz :: vs) ++ [w']))) := Wk.lst_upd ha _
            have haR := has' a (List.mem_cons_self ..)
            obtain ⟨hn1, hn2⟩ := List.nodup_cons.mp hnd'
            obtain ⟨_, st4, pre4, v4, x1, ⟨s04, bb1, bb2, u4, y1, y2, y3', y4', rfl⟩, x3, x4, x5, x6, x7, x8⟩ := hWS
            have r44 : stp st4 (Cd ((zz, ds, ps) :: C2)) 44 = some (.beg, (ds.length + 1 + 1) :: Cd C2) := by
              rw [stp_out x4 low40.2.2.2.1]
              unfold tailS
              rw [if_neg (by decide), if_neg (fun x => absurd x.1 (by decide))]
              show (if 44 = 44 ∧ ds.length + 1 < 3 then _ else _) = _
              rw [if_pos ⟨rfl, by omega⟩]
              rfl
            rw [e, run_go r44] at x8
            have tk4 : z.cps.toList.take (k' + 1) = z.cps.toList.take k' ++ [44] := take_more (r := [44]) e
            rw [List.length_cons] at hl'
            refine ⟨.inl ⟨rfl, _, SqL.of ha⟩, _, rfl, a, _, _, rfl, rfl, ha, by rw [List.length_cons]; omega, _, rfl, _, _, rfl, rfl, ?_⟩
            refine ⟨k' + 1, by omega, (zz, ds ++ [t'], ps) :: C2, a :: as', _, _, _, rfl, by omega, ?_, ?_, ⟨hC1, by rw [List.length_append, List.length_singleton]; omega, (fun x hx => (List.mem_append.mp hx).elim (hC3 x) fun h => by rw [List.mem_singleton.mp h]; exact hsh'), hC4⟩, by rw [upd_ne haR.1.symm, rvs_cons]; exact hR', ⟨⟨vs ++ [w'], upd_same, (hvs.wk w3).append (.cons (hw'.wk w3) .nil)⟩, FrOK.up (R := a) (fun b o hb e => by rw [upd_ne hb]; exact e) w3 (fun b hb e => hn1 (e ▸ hb)) hF''⟩, hnd', has', Same.mut hS3 haR.2, by rw [List.length_cons]; omega⟩
            · rw [tk4, x1]
              exact ⟨s04, bb1, bb2, _, y1, y2, y3', y4'.snoc x3, by simp only [List.append_assoc, List.cons_append, List.nil_append]⟩
            · rw [g2]
              show run .beg (((ds ++ [t']).length + 1) :: Cd C2) r0 (k' + 1) = R0
              rw [List.length_append]
              exact x8
        · rw [decide_eq_false h44]
          exact iteT ⟨_, rfl, raise_ hWS hS3 hdd (fun x => by cases x.1) (.inr (.inl h44))⟩
theorem cx_read_pattern (T : Tx K mg) (Z : ProgF P) : Cl P w K mg base (L2.CX P w) 10 "read_pattern" ["text"] (spx_rp mg) := by
  have cx_read_whole := fun (T : Tx K mg) => cx_read_whole (P := P) (w := w) (base := base) T Z
  refine Cl.mkX T.d_read_pattern sc_read_pattern (fun vs H Q E h => ?_) (fun f cdv A outer s H vs Q E hr h => ?_)
  · obtain ⟨v, rfl, _⟩ := h
    rfl
  obtain ⟨v, rfl, h⟩ := h
  refine ⟨_, (pss_cons (ps_if (pt_not (pt_val (pe_callB (id := "isinstance") (r := rIsi K) call_isi (by rfl) T.z_isinstance (by decide +kernel) (pa_cons (pv 0) (pa_cons (pe_bltn (v := .ty "str") (u := .type "str") (by rfl) T.z_str (by decide +kernel) rfl) pa_nil)))))
      (pss_one (ps_raise rfl (takes_of rfl rfl rfl rfl) (pmk_mi (T.i_NoText.ok T.me Z T.gi_NoText) hr (by omega) rfl (pa_cons pe_int pa_nil))))
      pss_nil)
    (pss_cons (ps_set (i := 1) sc_read_pattern.nd rfl (Or.inl rfl) (pe_clS (cx_read_whole T) hr (by omega) rfl (fun σ => passAt (takes_of rfl rfl rfl rfl) σ) (pa_cons (pv 0) pa_nil)))
    (pss_cons (ps_if (pt_not (pt_val (pe_cl (c_is_pattern T) hr (by omega) rfl (pa_cons (pv 1) pa_nil))))
      (pss_one (ps_raise rfl (takes_of rfl rfl rfl rfl) (pmk_mi (T.i_NoText.ok T.me Z T.gi_NoText) hr (by omega) rfl (pa_cons (pe_callB call_len (by rfl) T.z_len (by decide +kernel) (pa_cons (pv 0) pa_nil)) pa_nil))))
      pss_nil)
    (pss_one (ps_ret (pv 1)))))), ?_⟩
  rcases h with ⟨t, r, ns, qe⟩ | ⟨z, rfl, hz, qe1, qe2, q⟩
  · refine ⟨_, rfl, _, _, _, _, _, rfl, .ty _, r.tyx, kstr t, _, rfl, ?_⟩
    rw [ns]
    exact iteT (mi_go (v := .int 0) rfl (by decide +kernel) (fun i e => by cases e; decide) fun dd yy H2 s2 hd2 => qe dd yy H2 s2 hd2)
  · refine ⟨_, rfl, _, _, _, _, _, rfl, .ty _, .base (.str z), kstr (.str z), _, rfl, iteF ⟨_, rfl, z, rfl, hz, qe1, fun hp v t H1 s1 rv sh ts => ?_⟩⟩
    refine ⟨_, rfl, v, t, rfl, rv, fun H2 s2 => ⟨_, rfl, ?_⟩⟩
    cases hw : within true t with
    | true => exact iteF ⟨_, rfl, q hp v t H2 (s1.trans s2) (rv.wk (Wk.same s2)) hw ts⟩
    | false =>
      obtain ⟨i1, i2⟩ := short_int z.length (by omega)
      exact iteT ⟨_, rfl, _, _, rfl, ⟨big hz, rfl⟩, mi_go (v := .int (z.length : Nat)) rfl i1 i2 fun dd yy H3 s3 hd3 => qe2 hp t sh ts hw dd yy H3 ((s1.trans s2).trans s3) hd3⟩
end
end Kt
namespace Kt
open PySem PySem.Spec PyProof.Rows L2
/-! ### the law's own walk -/
def Sta.nm : Sta → Str
  | .beg => "begin" | .mark => "mark" | .hole _ => "hole" | .name _ => "name" | .head => "head" | .behind => "behind"
def Sta.isBeg : Sta → Bool
  | .beg => true
  | _ => false
/-- a mark, or a hole -/
def Sta.mh : Sta → Bool
  | .mark | .hole _ => true
  | _ => false
def Sta.mn : Sta → Nat
  | .hole n => n | .name n => n | _ => 0
/-- what a sign does to the open brackets: nothing, one more, a comma, one less -/
def Way (w : Int) (D D' : List Nat) : Prop := (w = 0 ∧ D' = D) ∨ (w = 1 ∧ D' = 1 :: D) ∨ (w = 2 ∧ ∃ m R, D = m :: R ∧ D' = (m + 1) :: R) ∨ (w = -1 ∧ ∃ m R, D = m :: R ∧ D' = R)
def revI (D : List Nat) : List V := (D.reverse.map fun n : Nat => V.int (n : Int))
def sp_next : Sp := fun vs H Q _ => ∃ (s : Sta) (c : Nat) (D : List Nat) (L : Addr), vs = [.str s.nm, .str ⟨#[c]⟩, .int (s.mn : Int), .ref L] ∧ H L = some (.lst (revI D)) ∧
  (stp s D c = none → ∀ H', Same H H' → Q .non H') ∧ (∀ s' D' w p H', stp s D c = some (s', D') → Way w D D' → Same H H' → H' p = some (.tup [.str s'.nm, .int (s'.mn : Int), .int w]) → Q (.ref p) H')
theorem tail_low {s : Sta} {D : List Nat} {c : Nat} (h : lowc c = true) : tailS s D c = none := by
  have n : c ≠ 32 ∧ c ≠ 40 ∧ c ≠ 41 ∧ c ≠ 44 := by
    refine ⟨?_, ?_, ?_, ?_⟩ <;> (intro e; subst e; revert h)
    · rw [low40.1]; exact fun h => by cases h
    · rw [low40.2.1]; exact fun h => by cases h
    · rw [low40.2.2.1]; exact fun h => by cases h
    · rw [low40.2.2.2.1]; exact fun h => by cases h
  unfold tailS
  rw [if_neg n.1, if_neg fun x => n.2.1 x.1]
  cases D with
  | nil => rfl
  | cons m D =>
    show (if c = 44 ∧ m < 3 then _ else if c = 41 then _ else none) = _
    rw [if_neg fun x => n.2.2.2 x.1, if_neg n.2.2.1]
theorem in_two {K : PySem.W.Frag} {H : Hp} {x y z : Str} {p : Addr} {b : Bool} {Q : VK} (hp : H p = some (.tup [.str y, .str z])) (e : inV (.str x) [.str y, .str z] = b) (q : Q (.bl b) H) : rIn K false (.str x) (.ref p) H Q := by
  refine ⟨p, _, rfl, .inr (SqT.of hp), rfl, rfl, ?_⟩
  show Q (.bl (inV (.str x) [.str y, .str z])) H
  rw [e]
  exact q
theorem revI_cons (m : Nat) (D : List Nat) : revI (m :: D) = revI D ++ [.int (m : Int)] := by
  unfold revI
  rw [List.reverse_cons, List.map_append]
  rfl
theorem revI_ints (D : List Nat) : revI D = (D.reverse.map fun n : Nat => (n : Int)).map V.int := by
  unfold revI
  rw [List.map_map]
  rfl
/-- the row of numbers is told from the empty one -/
theorem ne_revI {K : PySem.W.Frag} {H : Hp} {D : List Nat} {a b : Addr} {Q : VK} (ha : H a = some (.lst (revI D))) (hb : H b = some (.lst [])) (q : Q (.bl (!D.isEmpty)) H) : rNeD K (.ref a) (.ref b) H Q := by
  rw [revI_ints] at ha
  refine ⟨.list ((D.reverse.map fun n : Nat => (n : Int)).map PyData.int), .list [], .lst (SqL.of ha) (dpInts _), .lst (SqL.of hb) .nil, shapedInts _, shapedInts [], ?_⟩
  rw [eqvNil, List.isEmpty_map, List.isEmpty_map, List.isEmpty_reverse]
  exact q
theorem eq_revI {K : PySem.W.Frag} {H : Hp} {D : List Nat} {a b : Addr} {Q : VK} (ha : H a = some (.lst (revI D))) (hb : H b = some (.lst [])) (q : Q (.bl D.isEmpty) H) : rEqD K (.ref a) (.ref b) H Q := by
  rw [revI_ints] at ha
  refine ⟨.list ((D.reverse.map fun n : Nat => (n : Int)).map PyData.int), .list [], .lst (SqL.of ha) (dpInts _), .lst (SqL.of hb) .nil, shapedInts _, shapedInts [], ?_⟩
  rw [eqvNil, List.isEmpty_map, List.isEmpty_map, List.isEmpty_reverse]
  exact q
theorem ifT {b : Bool} {X Y : Prop} (h : b = true) (x : X) : if b = true then X else Y := by
  rw [if_pos h]
  exact x
theorem ifF {b : Bool} {X Y : Prop} (h : b = false) (y : Y) : if b = true then X else Y := by
  rw [if_neg (by rw [h]; decide)]
  exact y
theorem nmF {a b : Str} (h : (a == b) = false) : decide (V.str a = V.str b) = false := decide_eq_false fun e => by
  rw [V.str.inj e, beq_self_eq_true] at h
  cases h
theorem sg63 (c : Nat) : decide (V.str ⟨#[c]⟩ = V.str "?") = decide (c = 63) := by rw [quest_is, sgn_eq]
theorem sg32 (c : Nat) : decide (V.str ⟨#[c]⟩ = V.str " ") = decide (c = 32) := by rw [blank_is, sgn_eq]
theorem sg40 (c : Nat) : decide (V.str ⟨#[c]⟩ = V.str "(") = decide (c = 40) := by rw [open_is, sgn_eq]
theorem sg41 (c : Nat) : decide (V.str ⟨#[c]⟩ = V.str ")") = decide (c = 41) := by rw [shut_is, sgn_eq]
theorem sg44 (c : Nat) : decide (V.str ⟨#[c]⟩ = V.str ",") = decide (c = 44) := by rw [comma_is, sgn_eq]
theorem in_hb {s : Sta} (h : s.acc = true) : inV (.str s.nm) [.str "hole", .str "behind"] = !s.hd := by
  cases s with
  | beg | mark => cases h
  | hole n => exact (by decide +kernel : inV (.str "hole") [.str "hole", .str "behind"] = true)
  | name n => exact (by decide +kernel : inV (.str "name") [.str "hole", .str "behind"] = false)
  | head => exact (by decide +kernel : inV (.str "head") [.str "hole", .str "behind"] = false)
  | behind => exact (by decide +kernel : inV (.str "behind") [.str "hole", .str "behind"] = true)
theorem in_nh {s : Sta} (h : s.acc = true) : inV (.str s.nm) [.str "name", .str "head"] = s.hd := by
  cases s with
  | beg | mark => cases h
  | hole n => exact (by decide +kernel : inV (.str "hole") [.str "name", .str "head"] = false)
  | name n => exact (by decide +kernel : inV (.str "name") [.str "name", .str "head"] = true)
  | head => exact (by decide +kernel : inV (.str "head") [.str "name", .str "head"] = true)
  | behind => exact (by decide +kernel : inV (.str "behind") [.str "name", .str "head"] = false)
section
variable {P : Program} {w : World} {K : PySem.W.Frag} {mg : Str → Option Value} {base : Heap}
theorem c__law_next (T : Tx K mg) : Cl P w K mg base CX0 1 "_law_next" ["_law_state", "_law_sign", "_law_many", "_law_deep"] sp_next := by
  refine Cl.mk0 T.d__law_next sc__law_next (fun vs H Q E h => ?_) (fun f cdv A outer s H vs Q E hr h => ?_)
  · obtain ⟨s, c, D, L, rfl, _⟩ := h
    rfl
  obtain ⟨s0, c, D, L, rfl, hL, qn, q⟩ := h
  have l1 : 1 ≤ sizeLine := by decide
  have l2 : 2 ≤ sizeLine := by decide
  have l3 : 3 ≤ sizeLine := by decide
  refine ⟨_, (pss_cons (ps_set (i := 4) sc__law_next.nd rfl (Or.inl rfl) (pe_cmpR op_in_sign (pv 1) pe_str rfl))
    (Evl.pss_cut (ps_if (pt_cmpR op_eq (pv 0) pe_str (nomark _))
      (pss_cons (ps_if (PW.pt (pw_or (pt_val (pv 4)) (pw_or1 (pt_cmpR op_eq (pv 1) pe_str (nomark _)))))
        (pss_one (ps_ret (pe_ifExp (pt_val (pv 4)) (pe_tup (pa_cons pe_str (pa_cons pe_int (pa_cons pe_int pa_nil)))) (pe_tup (pa_cons pe_str (pa_cons pe_int (pa_cons pe_int pa_nil)))))))
        pss_nil)
      (pss_one (ps_ret (pe_ifExp (pt_cmpR op_eq (pv 1) pe_str (nomark _)) (pe_tup (pa_cons pe_str (pa_cons pe_int (pa_cons pe_int pa_nil)))) pe_non))))
      pss_nil)
    (Evl.pss_cut (ps_if (PW.pt (pw_and (pt_cmpR op_in_seq (pv 0) (pe_tup (pa_cons pe_str (pa_cons pe_str pa_nil))) rfl) (pw_and1 (pt_val (pv 4)))))
      (pss_one (ps_ret (pe_ifExp (pt_cmpR op_lt (pv 2) pe_int (nomark _)) (pe_tup (pa_cons pe_str (pa_cons (pe_op op_add (pv 2) pe_int) (pa_cons pe_int pa_nil)))) pe_non)))
      pss_nil)
    (Evl.pss_cut (ps_if (pt_cmpR op_eq (pv 0) pe_str (nomark _))
      (pss_one (ps_ret pe_non))
      pss_nil)
    (Evl.pss_cut (ps_if (PW.pt (pw_and (pt_cmpR op_eq (pv 0) pe_str (nomark _)) (pw_and1 (pt_val (pv 4)))))
      (pss_one (ps_ret (pe_ifExp (pt_cmpR op_lt (pv 2) pe_int (nomark _)) (pe_tup (pa_cons pe_str (pa_cons (pe_op op_add (pv 2) pe_int) (pa_cons pe_int pa_nil)))) pe_non)))
      pss_nil)
    (Evl.pss_cut (ps_if (pt_cmpR op_eq (pv 1) pe_str (nomark _))
      (pss_one (ps_ret (pe_tup (pa_cons (pe_ifExp (pt_cmpR op_in_seq (pv 0) (pe_tup (pa_cons pe_str (pa_cons pe_str pa_nil))) rfl) pe_str pe_str) (pa_cons pe_int (pa_cons pe_int pa_nil))))))
      pss_nil)
    (Evl.pss_cut (ps_if (PW.pt (pw_and (pt_cmpR op_eq (pv 1) pe_str (nomark _)) (pw_and1 (pt_cmpR op_in_seq (pv 0) (pe_tup (pa_cons pe_str (pa_cons pe_str pa_nil))) rfl))))
      (pss_one (ps_ret (pe_tup (pa_cons pe_str (pa_cons pe_int (pa_cons pe_int pa_nil))))))
      pss_nil)
    (Evl.pss_cut (ps_if (PW.pt (pw_and (pt_cmpR op_eq (pv 1) pe_str (nomark _)) (pw_and (pt_cmpR (op_neD hr.units) (pv 3) (pe_lst pa_nil) (nomark _)) (pw_and1 (pt_cmpR op_lt (pe_ix ix_list (pv 3) (pe_un un_neg pe_int) (fun _ _ => rfl)) pe_int (nomark _))))))
      (pss_one (ps_ret (pe_tup (pa_cons pe_str (pa_cons pe_int (pa_cons pe_int pa_nil))))))
      pss_nil)
    (pss_one (ps_ret (pe_ifExp (PW.pt (pw_and (pt_cmpR op_eq (pv 1) pe_str (nomark _)) (pw_and1 (pt_cmpR (op_neD hr.units) (pv 3) (pe_lst pa_nil) (nomark _))))) (pe_tup (pa_cons pe_str (pa_cons pe_int (pa_cons (pe_un un_neg pe_int) pa_nil)))) pe_non))))))))))), ?_⟩
  refine ⟨_, rfl, c, _, rfl, rfl, ?_⟩
  have tailK : ∀ {s : Sta}, s.acc = true → lowc c = true → s.grow = none → stp s D c = tailS s D c := fun {s} ha hc hg => by
    rw [stp_acc ha, if_pos hc, hg, tail_low hc]
    rfl
  obtain ⟨S, hSt⟩ : ∃ S : L2.St, S = [some (.str s0.nm), some (.str ⟨#[c]⟩), some (.int (s0.mn : Int)), some (.ref L), some (.bl (lowc c))] := ⟨_, rfl⟩
  refine ⟨fun σ' H' => σ' = S ∧ Same H H' ∧ s0.isBeg = false, ?_, fun σ1 H1 e1 => ?_⟩
  · subst hSt
    cases s0 with
    | beg =>
      refine ⟨_, rfl, rfl, _, rfl, ifT (by decide +kernel) ⟨_, rfl, _, rfl, ?_⟩⟩
      cases hc : lowc c with
      | true => exact ifT hc ⟨_, rfl, _, rfl, ifT hc ⟨l3, fun p hp => q (.name 1) D 0 p _ (if_pos hc) (.inl ⟨rfl, rfl⟩) (same_new hp _) upd_same⟩⟩
      | false =>
        refine ifF hc ⟨_, rfl, rfl, _, rfl, ?_⟩
        by_cases e : c = 63
        · exact ifT ((sg63 c).trans (decide_eq_true e)) ⟨_, rfl, _, rfl, ifF hc ⟨l3, fun p hp => q .mark D 0 p _ (by rw [stp_beg hc, if_pos e]) (.inl ⟨rfl, rfl⟩) (same_new hp _) upd_same⟩⟩
        · refine ifF ((sg63 c).trans (decide_eq_false e)) ⟨_, rfl, rfl, _, rfl, ?_⟩
          by_cases e2 : c = 32
          · exact ifT ((sg32 c).trans (decide_eq_true e2)) ⟨l3, fun p hp => q .beg D 0 p _ (by rw [stp_beg hc, if_neg e, if_pos e2]) (.inl ⟨rfl, rfl⟩) (same_new hp _) upd_same⟩
          · exact ifF ((sg32 c).trans (decide_eq_false e2)) (qn (by rw [stp_beg hc, if_neg e, if_neg e2]) H (Same.refl H))
    | mark => exact ⟨_, rfl, rfl, _, rfl, ifF (nmF (by decide +kernel : (("mark" : Str) == "begin") = false)) ⟨rfl, Same.refl H, rfl⟩⟩
    | hole n => exact ⟨_, rfl, rfl, _, rfl, ifF (nmF (by decide +kernel : (("hole" : Str) == "begin") = false)) ⟨rfl, Same.refl H, rfl⟩⟩
    | name n => exact ⟨_, rfl, rfl, _, rfl, ifF (nmF (by decide +kernel : (("name" : Str) == "begin") = false)) ⟨rfl, Same.refl H, rfl⟩⟩
    | head => exact ⟨_, rfl, rfl, _, rfl, ifF (nmF (by decide +kernel : (("head" : Str) == "begin") = false)) ⟨rfl, Same.refl H, rfl⟩⟩
    | behind => exact ⟨_, rfl, rfl, _, rfl, ifF (nmF (by decide +kernel : (("behind" : Str) == "begin") = false)) ⟨rfl, Same.refl H, rfl⟩⟩
  obtain ⟨eσ, s1, nb⟩ := e1
  rw [eσ]
  clear eσ
  refine ⟨fun σ' H' => σ' = S ∧ Same H H' ∧ (s0.mh = true → lowc c = false), ?_, fun σ2 H2 e2 => ?_⟩
  · subst hSt
    cases s0 with
    | beg => cases nb
    | mark =>
      refine ⟨_, rfl, l2, fun p hp => in_two upd_same (by decide +kernel : inV (.str "mark") [.str "mark", .str "hole"] = true) ⟨_, rfl, iteT ⟨_, rfl, _, rfl, ?_⟩⟩⟩
      have s2 := s1.trans (same_new (o := .tup [.str "mark", .str "hole"]) hp)
      cases hc : lowc c with
      | true => exact iteT ⟨_, rfl, _, _, rfl, rfl, _, rfl, ifT (by decide) ⟨_, rfl, _, _, rfl, rfl, l3, fun p2 hp2 => q (.hole 1) D 0 p2 _ (if_pos hc) (.inl ⟨rfl, rfl⟩) (s2.trans (same_new hp2 _)) upd_same⟩⟩
      | false => exact iteF ⟨rfl, s2, fun _ => rfl⟩
    | hole n =>
      refine ⟨_, rfl, l2, fun p hp => in_two upd_same (by decide +kernel : inV (.str "hole") [.str "mark", .str "hole"] = true) ⟨_, rfl, iteT ⟨_, rfl, _, rfl, ?_⟩⟩⟩
      have s2 := s1.trans (same_new (o := .tup [.str "mark", .str "hole"]) hp)
      cases hc : lowc c with
      | true =>
        refine iteT ⟨_, rfl, _, _, rfl, rfl, _, rfl, ?_⟩
        by_cases e : n < 4
        · exact ifT (decide_eq_true (by show (n : Int) < 4; omega)) ⟨_, rfl, _, _, rfl, rfl, l3, fun p2 hp2 => q (.hole (n + 1)) D 0 p2 _ (by rw [stp_acc rfl, if_pos hc]; show (if n < 4 then some (Sta.hole (n + 1)) else none).map _ = _; rw [if_pos e]; rfl) (.inl ⟨rfl, rfl⟩) (s2.trans (same_new hp2 _)) upd_same⟩
        · exact ifF (decide_eq_false (by show ¬ (n : Int) < 4; omega)) (qn (by rw [stp_acc rfl, if_pos hc]; show (if n < 4 then some (Sta.hole (n + 1)) else none).map _ = _; rw [if_neg e]; rfl) _ s2)
      | false => exact iteF ⟨rfl, s2, fun _ => rfl⟩
    | name n => exact ⟨_, rfl, l2, fun p hp => in_two upd_same (by decide +kernel : inV (.str "name") [.str "mark", .str "hole"] = false) ⟨_, rfl, iteF (iteF ⟨rfl, s1.trans (same_new hp _), fun h => by cases h⟩)⟩⟩
    | head => exact ⟨_, rfl, l2, fun p hp => in_two upd_same (by decide +kernel : inV (.str "head") [.str "mark", .str "hole"] = false) ⟨_, rfl, iteF (iteF ⟨rfl, s1.trans (same_new hp _), fun h => by cases h⟩)⟩⟩
    | behind => exact ⟨_, rfl, l2, fun p hp => in_two upd_same (by decide +kernel : inV (.str "behind") [.str "mark", .str "hole"] = false) ⟨_, rfl, iteF (iteF ⟨rfl, s1.trans (same_new hp _), fun h => by cases h⟩)⟩⟩
  obtain ⟨eσ, s2, nh⟩ := e2
  rw [eσ]
  clear eσ
  refine ⟨fun σ' H' => σ' = S ∧ Same H H' ∧ s0.acc = true, ?_, fun σ3 H3 e3 => ?_⟩
  · subst hSt
    cases s0 with
    | beg => cases nb
    | mark => exact ⟨_, rfl, rfl, _, rfl, ifT (by decide +kernel : decide (V.str "mark" = V.str "mark") = true) (qn (if_neg (by rw [nh rfl]; decide)) _ s2)⟩
    | hole n => exact ⟨_, rfl, rfl, _, rfl, ifF (nmF (by decide +kernel : (("hole" : Str) == "mark") = false)) ⟨rfl, s2, rfl⟩⟩
    | name n => exact ⟨_, rfl, rfl, _, rfl, ifF (nmF (by decide +kernel : (("name" : Str) == "mark") = false)) ⟨rfl, s2, rfl⟩⟩
    | head => exact ⟨_, rfl, rfl, _, rfl, ifF (nmF (by decide +kernel : (("head" : Str) == "mark") = false)) ⟨rfl, s2, rfl⟩⟩
    | behind => exact ⟨_, rfl, rfl, _, rfl, ifF (nmF (by decide +kernel : (("behind" : Str) == "mark") = false)) ⟨rfl, s2, rfl⟩⟩
  obtain ⟨eσ, s3, acc⟩ := e3
  rw [eσ]
  clear eσ
  refine ⟨fun σ' H' => σ' = S ∧ Same H H' ∧ stp s0 D c = tailS s0 D c, ?_, fun σ4 H4 e4 => ?_⟩
  · subst hSt
    cases s0 with
    | beg | mark => cases acc
    | hole n => exact ⟨_, rfl, rfl, _, rfl, ifF (nmF (by decide +kernel : (("hole" : Str) == "name") = false)) (iteF ⟨rfl, s3, stp_out rfl (nh rfl) D⟩)⟩
    | name n =>
      refine ⟨_, rfl, rfl, _, rfl, ifT (by decide +kernel : decide (V.str "name" = V.str "name") = true) ⟨_, rfl, _, rfl, ?_⟩⟩
      cases hc : lowc c with
      | true =>
        refine iteT ⟨_, rfl, _, _, rfl, rfl, _, rfl, ?_⟩
        by_cases e : n < 8
        · exact ifT (decide_eq_true (by show (n : Int) < 8; omega)) ⟨_, rfl, _, _, rfl, rfl, l3, fun p2 hp2 => q (.name (n + 1)) D 0 p2 _ (by rw [stp_acc rfl, if_pos hc]; show (if n < 8 then some (Sta.name (n + 1)) else none).map _ = _; rw [if_pos e]; rfl) (.inl ⟨rfl, rfl⟩) (s3.trans (same_new hp2 _)) upd_same⟩
        · exact ifF (decide_eq_false (by show ¬ (n : Int) < 8; omega)) (qn (by rw [stp_acc rfl, if_pos hc]; show (if n < 8 then some (Sta.name (n + 1)) else none).map _ = _; rw [if_neg e]; rfl) _ s3)
      | false => exact iteF ⟨rfl, s3, stp_out rfl hc D⟩
    | head =>
      refine ⟨_, rfl, rfl, _, rfl, ifF (nmF (by decide +kernel : (("head" : Str) == "name") = false)) (iteF ⟨rfl, s3, ?_⟩)⟩
      cases hc : lowc c with
      | false => exact stp_out rfl hc D
      | true => exact tailK rfl hc rfl
    | behind =>
      refine ⟨_, rfl, rfl, _, rfl, ifF (nmF (by decide +kernel : (("behind" : Str) == "name") = false)) (iteF ⟨rfl, s3, ?_⟩)⟩
      cases hc : lowc c with
      | false => exact stp_out rfl hc D
      | true => exact tailK rfl hc rfl
  obtain ⟨eσ, s4, eqT⟩ := e4
  rw [eσ]
  clear eσ
  rw [eqT] at qn q
  refine ⟨fun σ' H' => σ' = S ∧ Same H H' ∧ c ≠ 32, ?_, fun σ5 H5 e5 => ?_⟩
  · subst hSt
    refine ⟨_, rfl, rfl, _, rfl, ?_⟩
    by_cases e : c = 32
    · refine ifT ((sg32 c).trans (decide_eq_true e)) ⟨_, rfl, l2, fun p hp => in_two upd_same (in_hb acc) ⟨_, rfl, ?_⟩⟩
      have s5 := s4.trans (same_new (o := .tup [.str "hole", .str "behind"]) hp)
      cases hh : s0.hd with
      | true => exact iteF ⟨l3, fun p2 hp2 => q .head D 0 p2 _ (by unfold tailS; rw [if_pos e, if_pos hh]) (.inl ⟨rfl, rfl⟩) (s5.trans (same_new hp2 _)) upd_same⟩
      | false => exact iteT ⟨l3, fun p2 hp2 => q .behind D 0 p2 _ (by unfold tailS; rw [if_pos e, if_neg (by rw [hh]; decide)]) (.inl ⟨rfl, rfl⟩) (s5.trans (same_new hp2 _)) upd_same⟩
    · exact ifF ((sg32 c).trans (decide_eq_false e)) ⟨rfl, s4, e⟩
  obtain ⟨eσ, s5, n32⟩ := e5
  rw [eσ]
  clear eσ
  refine ⟨fun σ' H' => σ' = S ∧ Same H H' ∧ ¬ (c = 40 ∧ s0.hd = true), ?_, fun σ6 H6 e6 => ?_⟩
  · subst hSt
    refine ⟨_, rfl, rfl, _, rfl, ?_⟩
    by_cases e : c = 40
    · refine ifT ((sg40 c).trans (decide_eq_true e)) ⟨_, rfl, l2, fun p hp => in_two upd_same (in_nh acc) ⟨_, rfl, ?_⟩⟩
      have s6 := s5.trans (same_new (o := .tup [.str "name", .str "head"]) hp)
      cases hh : s0.hd with
      | true => exact iteT ⟨l3, fun p2 hp2 => q .beg (1 :: D) 1 p2 _ (by unfold tailS; rw [if_neg n32, if_pos ⟨e, hh⟩]) (.inr (.inl ⟨rfl, rfl⟩)) (s6.trans (same_new hp2 _)) upd_same⟩
      | false => exact iteF ⟨rfl, s6, fun x => by cases x.2⟩
    · exact ifF ((sg40 c).trans (decide_eq_false e)) (iteF ⟨rfl, s5, fun x => e x.1⟩)
  obtain ⟨eσ, s6, n40⟩ := e6
  rw [eσ]
  clear eσ
  have tE : tailS s0 D c = match (generalizing := false) D with
    | [] => none
    | m :: D' => if c = 44 ∧ m < 3 then some (.beg, (m + 1) :: D') else if c = 41 then some (.behind, D') else none := by
    unfold tailS
    rw [if_neg n32, if_neg n40]
    all_goals (cases D <;> rfl)
  rw [tE] at qn q
  have hL6 := s6 _ _ hL
  refine ⟨fun σ' H' => σ' = S ∧ Same H H' ∧ ¬ (c = 44 ∧ ∃ m R, D = m :: R ∧ m < 3), ?_, fun σ7 H7 e7 => ?_⟩
  · subst hSt
    refine ⟨_, rfl, rfl, _, rfl, ?_⟩
    by_cases e : c = 44
    · refine ifT ((sg44 c).trans (decide_eq_true e)) ⟨_, rfl, Nat.zero_le _, fun p hp => ?_⟩
      have sp := same_new (o := .lst []) hp
      refine ne_revI (sp _ _ hL6) upd_same ⟨_, rfl, ?_⟩
      cases D with
      | nil => exact iteF (iteF ⟨rfl, s6.trans sp, fun x => by obtain ⟨_, m, R, y, _⟩ := x; cases y⟩)
      | cons m R =>
        have hL7 := sp _ _ hL6
        rw [revI_cons] at hL7
        refine iteT ⟨_, rfl, _, rfl, L, _, _, _, rfl, rfl, SqL.of hL7, atI_last _ _, _, _, rfl, rfl, _, rfl, ?_⟩
        by_cases e2 : m < 3
        · exact ifT (decide_eq_true (by show (m : Int) < 3; omega)) ⟨l3, fun p2 hp2 => q .beg ((m + 1) :: R) 2 p2 _ (if_pos ⟨e, e2⟩) (.inr (.inr (.inl ⟨rfl, m, R, rfl, rfl⟩))) ((s6.trans sp).trans (same_new hp2 _)) upd_same⟩
        · exact ifF (decide_eq_false (by show ¬ (m : Int) < 3; omega)) ⟨rfl, s6.trans sp, fun x => by obtain ⟨_, m', R', y, z⟩ := x; cases y; exact e2 z⟩
    · exact ifF ((sg44 c).trans (decide_eq_false e)) (iteF ⟨rfl, s6, fun x => e x.1⟩)
  obtain ⟨eσ, s7, n44⟩ := e7
  rw [eσ]
  clear eσ
  subst hSt
  refine ⟨_, rfl, rfl, _, rfl, ?_⟩
  have hL7 := s7 _ _ hL
  by_cases e : c = 41
  · refine ifT ((sg41 c).trans (decide_eq_true e)) ⟨_, rfl, Nat.zero_le _, fun p hp => ?_⟩
    have sp := same_new (o := .lst []) hp
    refine ne_revI (sp _ _ hL7) upd_same ⟨_, rfl, ?_⟩
    cases D with
    | nil => exact iteF (qn rfl _ (s7.trans sp))
    | cons m R => exact iteT ⟨_, rfl, l3, fun p2 hp2 => q .behind R (-1) p2 _ (by show (if c = 44 ∧ m < 3 then _ else if c = 41 then _ else none) = _; rw [if_neg (fun x => n44 ⟨x.1, m, R, rfl, x.2⟩), if_pos e]) (.inr (.inr (.inr ⟨rfl, m, R, rfl, rfl⟩))) ((s7.trans sp).trans (same_new hp2 _)) upd_same⟩
  · refine ifF ((sg41 c).trans (decide_eq_false e)) (iteF (qn ?_ _ s7))
    cases D with
    | nil => rfl
    | cons m R =>
      show (if c = 44 ∧ m < 3 then _ else if c = 41 then _ else none) = none
      rw [if_neg (fun x => n44 ⟨x.1, m, R, rfl, x.2⟩), if_neg e]
end
end Kt
namespace Kt
open PySem PySem.Spec PyProof.Rows L2
theorem in_acc (s : Sta) : inV (.str s.nm) [.str "name", .str "head", .str "hole", .str "behind"] = s.acc := by
  cases s with
  | beg => exact (by decide +kernel : inV (.str "begin") [.str "name", .str "head", .str "hole", .str "behind"] = false)
  | mark => exact (by decide +kernel : inV (.str "mark") [.str "name", .str "head", .str "hole", .str "behind"] = false)
  | hole n => exact (by decide +kernel : inV (.str "hole") [.str "name", .str "head", .str "hole", .str "behind"] = true)
  | name n => exact (by decide +kernel : inV (.str "name") [.str "name", .str "head", .str "hole", .str "behind"] = true)
  | head => exact (by decide +kernel : inV (.str "head") [.str "name", .str "head", .str "hole", .str "behind"] = true)
  | behind => exact (by decide +kernel : inV (.str "behind") [.str "name", .str "head", .str "hole", .str "behind"] = true)
def Res.tup : Res → List V
  | .bad k => [.int (k : Int), .bl false]
  | .fin b => [.non, .bl b]
def sp_walk : Sp := fun vs H Q _ => ∃ z : Str, vs = [.str z] ∧ z.length ≤ 100000 ∧ ∀ p H', Same H H' → H' p = some (.tup (run .beg [] z.cps.toList 0).tup) → Q (.ref p) H'
theorem ix_last (xs : List V) (v : V) : ixN (xs ++ [v]).length (-1) = some xs.length := by
  unfold ixN
  rw [List.length_append, List.length_singleton, if_neg (by decide), if_pos (by omega)]
  congr 1
  omega
theorem way_len {D D' : List Nat} {w : Int} (h : Way w D D') : D'.length ≤ D.length + 1 := by
  rcases h with ⟨_, rfl⟩ | ⟨_, rfl⟩ | ⟨_, m, R, rfl, rfl⟩ | ⟨_, m, R, rfl, rfl⟩
  · omega
  · rw [List.length_cons]
    omega
  · rw [List.length_cons, List.length_cons]
    omega
  · rw [List.length_cons]
    omega
theorem intNe {a b : Int} (h : a ≠ b) : decide (V.int a = V.int b) = false := decide_eq_false fun e => h (V.int.inj e)
section
variable {P : Program} {w : World} {K : PySem.W.Frag} {mg : Str → Option Value} {base : Heap}
theorem c__law_walk (T : Tx K mg) : Cl P w K mg base CX0 2 "_law_walk" ["_law_row"] sp_walk := by
  refine Cl.mk0 T.d__law_walk sc__law_walk (fun vs H Q E h => ?_) (fun f cdv A outer s H vs Q E hr h => ?_)
  · obtain ⟨z, rfl, _⟩ := h
    rfl
  obtain ⟨z, rfl, hz, q⟩ := h
  have l2 : 2 ≤ sizeLine := by decide
  have l3 : 3 ≤ sizeLine := by decide
  have l4 : 4 ≤ sizeLine := by decide
  obtain ⟨R0, hR0⟩ : ∃ R0, R0 = run .beg [] z.cps.toList 0 := ⟨_, rfl⟩
  rw [← hR0] at q
  refine ⟨_, (pss_cons (ps_par3 (i := 1) (j := 2) (l := 3) (by rfl) sc__law_walk.nd rfl rfl rfl (by decide) (by decide) (by decide) rfl rfl rfl (pa_cons pe_str (pa_cons pe_int (pa_cons (pe_lst pa_nil) pa_nil))) (by rfl))
    (pss_cons (ps_for PassesOwn.never rfl (pi_enumS (by rfl) T.z_enumerate (pa_cons (pv 0) pa_nil)) (pg_tup rfl (pgs_cons (pg_name (i := 4) sc__law_walk.nd rfl (Or.inl rfl)) (pgs_cons (pg_name (i := 5) sc__law_walk.nd rfl (Or.inl rfl)) pgs_nil)))
      (pss_cons (ps_set (i := 6) sc__law_walk.nd rfl (Or.inl rfl) (pe_cl (c__law_next T) hr (by omega) rfl (pa_cons (pv 1) (pa_cons (pv 5) (pa_cons (pv 2) (pa_cons (pv 3) pa_nil))))))
      (pss_cons (ps_if (pt_cmpR op_isN (pv 6) pe_non (nomark _))
        (pss_one (ps_ret (pe_tup (pa_cons (pv 4) (pa_cons pe_bl pa_nil)))))
        pss_nil)
      (pss_cons (ps_asg (pv 6) (pg_tup rfl (pgs_cons (pg_name (i := 1) sc__law_walk.nd rfl (Or.inl rfl)) (pgs_cons (pg_name (i := 2) sc__law_walk.nd rfl (Or.inl rfl)) (pgs_cons (pg_name (i := 7) sc__law_walk.nd rfl (Or.inl rfl)) pgs_nil)))))
      (pss_cons (ps_if (pt_cmpR op_eq (pv 7) pe_int (nomark _))
        (pss_one (ps_expr (pe_bm PySem.F.plainAttrs_list PySem.F.slot_list_append PySem.F.type_list_append mt_append (pv 3) (pa_cons pe_int pa_nil))))
        pss_nil)
      (pss_cons (ps_if (pt_cmpR op_eq (pv 7) pe_int (nomark _))
        (pss_one (ps_asg (pe_op op_add (pe_ix ix_list (pv 3) (pe_un un_neg pe_int) (fun _ _ => rfl)) pe_int) (pg_sub (pv 3) (pe_un un_neg pe_int) set_list)))
        pss_nil)
      (pss_one (ps_if (pt_cmpR op_eq (pv 7) (pe_un un_neg pe_int) (nomark _))
        (pss_one (ps_expr (pe_bm0 PySem.F.plainAttrs_list PySem.F.slot_list_pop PySem.F.type_list_pop mt_pop (pv 3))))
        pss_nil))))))))
    (pss_one (ps_ret (pe_tup (pa_cons pe_non (pa_cons (pe_and (pe_cmpR op_in_seq (pv 1) (pe_tup (pa_cons pe_str (pa_cons pe_str (pa_cons pe_str (pa_cons pe_str pa_nil))))) rfl) (pe_one (pe_cmpR (op_eqD hr.units) (pv 3) (pe_lst pa_nil) (nomark _)))) pa_nil))))))), ?_⟩
  refine ⟨Nat.zero_le _, fun L hL => ⟨_, _, _, rfl, ?_⟩⟩
  have s0 := same_new (o := .lst []) hL
  refine ⟨_, rfl, z, rfl, for_it (walk_enumS (x := z)) (fun i σ H' => ∃ st D y4 y5 y6 y7, σ = [some (.str z), some (.str (Sta.nm st)), some (.int (Sta.mn st : Int)), some (.ref L), y4, y5, y6, y7] ∧ Same H H' ∧ H' L = some (.lst (revI D)) ∧ D.length ≤ i ∧ run st D (z.cps.toList.drop i) i = R0)
    ⟨.beg, [], none, none, none, none, rfl, s0, upd_same, Nat.le_refl _, hR0.symm⟩ (fun _ _ _ _ _ => trivial) (fun i x σ H1 H2 hi h' yy => ?_) (fun σ H1 h' => ?_)⟩
  · obtain ⟨st, D, y4, y5, y6, y7, rfl, s1, hL1, hDl, hrun⟩ := h'
    obtain ⟨Tp, c, rfl, hT, rfl, hc⟩ := yy
    have hlt : i < z.cps.toList.length := hi
    have hcl : z.cps.toList[i]? = some c := by rw [Array.getElem?_toList]; exact hc
    have hdr : z.cps.toList.drop i = c :: z.cps.toList.drop (i + 1) := by
      rw [List.drop_eq_getElem_cons hlt]
      rw [List.getElem?_eq_getElem hlt] at hcl
      rw [Option.some.inj hcl]
    rw [hdr] at hrun
    have sT := same_new (o := .tup [.int (i : Nat), .str ⟨#[c]⟩]) hT
    have hL2 := sT _ _ hL1
    refine ⟨Tp, _, rfl, SqT.of upd_same, rfl, _, _, rfl, _, _, rfl, rfl, ?_⟩
    refine ⟨_, rfl, _, rfl, _, rfl, _, rfl, st, c, D, L, rfl, hL2, fun hn H3 s3 => ?_, fun st' D' wy p H3 hs hw s3 hp => ?_⟩
    · refine ⟨_, rfl, rfl, _, rfl, iteT ⟨_, rfl, l2, fun p hp => ?_⟩⟩
      rw [run_bad hn] at hrun
      refine q p _ (((s1.trans sT).trans s3).trans (same_new hp _)) ?_
      rw [← hrun]
      exact upd_same
    · rw [run_go hs] at hrun
      have hL3 := s3 _ _ hL2
      have s13 := (s1.trans sT).trans s3
      have hDl' := way_len hw
      have hlt2 : i < z.length := hlt
      refine ⟨_, rfl, rfl, _, rfl, iteF ⟨_, rfl, p, _, rfl, SqT.of hp, rfl, _, _, rfl, _, _, rfl, _, _, rfl, rfl, ?_⟩⟩
      have hbig := big hz
      rcases hw with ⟨rfl, rfl⟩ | ⟨rfl, rfl⟩ | ⟨rfl, m, R, rfl, rfl⟩ | ⟨rfl, m, R, rfl, rfl⟩
      · exact ⟨_, rfl, rfl, _, rfl, ifF (intNe (by decide)) ⟨_, rfl, rfl, _, rfl, ifF (intNe (by decide)) ⟨_, rfl, _, rfl, rfl, _, rfl, ifF (intNe (by decide)) ⟨st', _, _, _, _, _, rfl, s13, hL3, by omega, hrun⟩⟩⟩⟩
      · refine ⟨_, rfl, rfl, _, rfl, iteT ⟨_, rfl, .inl ⟨rfl, _, SqL.of hL3⟩, L, _, _, rfl, rfl, hL3, ?_, ?_⟩⟩
        · rw [show (revI D).length = D.length by unfold revI; rw [List.length_map, List.length_reverse]]
          omega
        · exact ⟨_, rfl, rfl, _, rfl, ifF (intNe (by decide)) ⟨_, rfl, _, rfl, rfl, _, rfl, ifF (intNe (by decide)) ⟨st', _, _, _, _, _, rfl, Same.mut s13 hL, by rw [revI_cons]; exact upd_same, by rw [List.length_cons]; omega, hrun⟩⟩⟩
      · rw [revI_cons] at hL3
        refine ⟨_, rfl, rfl, _, rfl, ifF (intNe (by decide)) ⟨_, rfl, rfl, _, rfl, iteT ?_⟩⟩
        refine ⟨_, rfl, _, rfl, L, _, _, _, rfl, rfl, SqL.of hL3, atI_last _ _, _, _, rfl, rfl, _, rfl, _, rfl, L, _, _, _, rfl, rfl, hL3, ix_last _ _, ?_⟩
        refine ⟨_, rfl, _, rfl, rfl, _, rfl, ifF (intNe (by decide)) ⟨st', _, _, _, _, _, rfl, Same.mut s13 hL, ?_, ?_, hrun⟩⟩
        · rw [upd_same, revI_cons]
          rw [List.set_append_right _ _ (Nat.le_refl _), Nat.sub_self]
          rfl
        · rw [List.length_cons] at hDl ⊢
          omega
      · rw [revI_cons] at hL3
        refine ⟨_, rfl, rfl, _, rfl, ifF (intNe (by decide)) ⟨_, rfl, rfl, _, rfl, ifF (intNe (by decide)) ⟨_, rfl, _, rfl, rfl, _, rfl, iteT ?_⟩⟩⟩
        refine ⟨_, rfl, .inl ⟨rfl, _, SqL.of hL3⟩, L, _, _, rfl, rfl, hL3, by rw [List.length_append, List.length_singleton, Nat.add_sub_cancel, List.getElem?_append_right (Nat.le_refl _), Nat.sub_self]; rfl, ?_⟩
        rw [List.dropLast_concat]
        rw [List.length_cons] at hDl
        exact ⟨st', _, _, _, _, _, rfl, Same.mut s13 hL, upd_same, by omega, hrun⟩
  · obtain ⟨st, D, y4, y5, y6, y7, rfl, s1, hL1, hDl, hrun⟩ := h'
    have e : z.cps.toList.drop z.cps.size = [] := List.drop_eq_nil_of_le (by rw [Array.length_toList]; exact Nat.le_refl _)
    rw [e, run_nil] at hrun
    refine ⟨_, rfl, l4, fun p1 hp1 => ⟨p1, _, rfl, .inr (SqT.of upd_same), rfl, rfl, ?_⟩⟩
    have s2 := s1.trans (same_new (o := .tup [.str "name", .str "head", .str "hole", .str "behind"]) hp1)
    have hL2 := (same_new (o := .tup [.str "name", .str "head", .str "hole", .str "behind"]) hp1) _ _ hL1
    refine ⟨_, rfl, ?_⟩
    show if inV (.str st.nm) [.str "name", .str "head", .str "hole", .str "behind"] = true then _ else _
    rw [in_acc]
    cases ha : st.acc with
    | true =>
      rw [ha] at hrun
      refine iteT ⟨_, rfl, Nat.zero_le _, fun pe hpe => ?_⟩
      have se := same_new (o := .lst []) hpe
      refine eq_revI (se _ _ hL2) upd_same ⟨l2, fun p hp => q p _ ((s2.trans se).trans (same_new hp _)) ?_⟩
      rw [← hrun]
      exact upd_same
    | false =>
      rw [ha] at hrun
      refine iteF ⟨l2, fun p hp => q p _ (s2.trans (same_new hp _)) ?_⟩
      rw [← hrun]
      exact upd_same
end
end Kt
namespace Kt
open PySem PySem.Spec PyProof.Rows L2
/-! ### how deep a text's brackets stand, how many words it has, what it is without blanks -/
def dl (c : Nat) : Int := if c = 40 then 1 else if c = 41 then -1 else 0
def dfold : Int → Int → List Nat → Int × Int
  | d, m, [] => (d, m)
  | d, m, c :: r => dfold (d + dl c) (if d + dl c > m then d + dl c else m) r
theorem dfold_app : ∀ (a b : List Nat) (d m : Int), dfold d m (a ++ b) = dfold (dfold d m a).1 (dfold d m a).2 b
  | [], _, _, _ => rfl
  | c :: a, b, d, m => dfold_app a b _ _
theorem dfold_flat : ∀ {l : List Nat} {d m : Int}, (∀ c ∈ l, c ≠ 40 ∧ c ≠ 41) → d ≤ m → dfold d m l = (d, m)
  | [], _, _, _, _ => rfl
  | c :: l, d, m, h, hd => by
    obtain ⟨h1, h2⟩ := h c (List.mem_cons_self ..)
    have e : dl c = 0 := by
      unfold dl
      rw [if_neg h1, if_neg h2]
    show dfold (d + dl c) (if d + dl c > m then d + dl c else m) l = _
    rw [e, Int.add_zero, if_neg (by omega)]
    exact dfold_flat (fun x hx => h x (List.mem_cons_of_mem _ hx)) hd
theorem flat_bk {b : List Nat} (h : Bk b) : ∀ c ∈ b, c ≠ 40 ∧ c ≠ 41 := fun c hc => by
  rw [h c hc]
  decide
theorem flat_low {l : List Nat} (h : l.all lowc = true) : ∀ c ∈ l, c ≠ 40 ∧ c ≠ 41 := fun c hc => by
  have hl := List.all_eq_true.mp h c hc
  refine ⟨fun e => ?_, fun e => ?_⟩
  · rw [e, low40.2.1] at hl
    cases hl
  · rw [e, low40.2.2.1] at hl
    cases hl
theorem flat_app {a b : List Nat} (h : ∀ c ∈ a, c ≠ 40 ∧ c ≠ 41) (h' : ∀ c ∈ b, c ≠ 40 ∧ c ≠ 41) : ∀ c ∈ a ++ b, c ≠ 40 ∧ c ≠ 41 := fun c hc => (List.mem_append.mp hc).elim (h c) (h' c)
theorem depL_pos {l : List Th} (h : l ≠ []) : 1 ≤ depL l := by
  cases l with
  | nil => exact absurd rfl h
  | cons p r =>
    have := dep_pos p
    show 1 ≤ max p.dep (depL r)
    omega
theorem lsp_ne {l : List Th} {u : List Nat} (h : LSp l u) : l ≠ [] := fun e => by
  subst e
  exact h.elim
mutual
theorem df_ts : ∀ (t : Th) (v : List Nat), t.shape true = true → TS t v → ∀ d m : Int, d ≤ m → dfold d m v = (d, max m (d + (t.dep : Int) - 1))
  | .str z, v, hs, h, d, m, hd => by
    obtain ⟨b1, b2, h1, h2, rfl⟩ := h
    have hs : (true && isHl z) = true := hs
    obtain ⟨l, e, _, _, h3⟩ := isHl_out hs
    rw [dfold_flat (flat_app (flat_bk h1) (flat_app (by
      rw [e]
      intro c hc
      rcases List.mem_cons.mp hc with rfl | hc
      · decide
      · exact flat_low h3 c hc) (flat_bk h2))) hd]
    have : ((Th.str z).dep : Int) = 1 := rfl
    rw [this, Int.max_eq_left (by omega)]
  | .tup l, v, hs, h, d, m, hd => by
    obtain ⟨z, ps, rfl, h4, h8, hall⟩ := shape_tup hs
    obtain ⟨_, _, g3⟩ := isW_out h8
    rcases h with ⟨rfl, b1, b2, h1, h2, rfl⟩ | ⟨b1, b2, b3, u, h1, h2, h3, hu, rfl⟩
    · show dfold d m (b1 ++ (z.cps.toList ++ b2)) = _
      rw [dfold_flat (flat_app (flat_bk h1) (flat_app (flat_low g3) (flat_bk h2))) hd]
      have : ((Th.tup [.str z]).dep : Int) = 1 := rfl
      rw [this, Int.max_eq_left (by omega)]
    · have hp := depL_pos (lsp_ne hu)
      have e1 : dfold d m (b1 ++ (hdc (.str z) ++ (b2 ++ 40 :: (u ++ 41 :: b3)))) = dfold d m (40 :: (u ++ 41 :: b3)) := by
        rw [dfold_app b1, dfold_flat (flat_bk h1) hd]
        show dfold d m (z.cps.toList ++ (b2 ++ 40 :: (u ++ 41 :: b3))) = _
        rw [dfold_app z.cps.toList, dfold_flat (flat_low g3) hd]
        show dfold d m (b2 ++ 40 :: (u ++ 41 :: b3)) = _
        rw [dfold_app b2, dfold_flat (flat_bk h2) hd]
      rw [e1]
      show dfold (d + 1) (if d + 1 > m then d + 1 else m) (u ++ 41 :: b3) = _
      have hm : ∃ m', m' = (if d + 1 > m then d + 1 else m) ∧ m' = max m (d + 1) := ⟨_, rfl, by split <;> omega⟩
      obtain ⟨m', em, em2⟩ := hm
      rw [← em, dfold_app u, df_lsp ps u hall hu (d + 1) m' (by omega)]
      show dfold (d + 1 + -1) (if d + 1 + -1 > max m' (d + 1 + (depL ps : Int) - 1) then d + 1 + -1 else max m' (d + 1 + (depL ps : Int) - 1)) b3 = _
      rw [if_neg (by omega), dfold_flat (flat_bk h3) (by omega)]
      have : ((Th.tup (.str z :: ps)).dep : Int) = 1 + (depL ps : Int) := by
        show ((1 + depL ps : Nat) : Int) = _
        omega
      rw [this]
      refine Prod.ext (by show d + 1 + -1 = d; omega) ?_
      show max m' (d + 1 + (depL ps : Int) - 1) = max m (d + (1 + (depL ps : Int)) - 1)
      omega
  | .non, _, h, _, _, _, _ | .bl _, _, h, _, _, _, _ | .int _, _, h, _, _, _, _ | .ls, _, h, _, _, _, _ | .dc, _, h, _, _, _, _ => by cases h
theorem df_lsp : ∀ (l : List Th) (u : List Nat), (∀ p ∈ l, p.shape true = true) → LSp l u → ∀ d m : Int, d ≤ m → dfold d m u = (d, max m (d + (depL l : Int) - 1))
  | [], _, _, h, _, _, _ => h.elim
  | p :: ps, u, hs, h, d, m, hd => by
    have hp := hs p (List.mem_cons_self ..)
    have pp := dep_pos p
    rcases h with ⟨rfl, h⟩ | ⟨u1, u2, h1, h2, rfl⟩
    · rw [df_ts p u hp h d m hd]
      have : (depL [p] : Int) = (p.dep : Int) := by
        show ((max p.dep 0 : Nat) : Int) = _
        omega
      rw [this]
    · rw [dfold_app u1, df_ts p u1 hp h1 d m hd]
      show dfold (d + 0) (if d + 0 > max m (d + (p.dep : Int) - 1) then d + 0 else max m (d + (p.dep : Int) - 1)) u2 = _
      rw [if_neg (by omega), Int.add_zero, df_lsp ps u2 (fun q hq => hs q (List.mem_cons_of_mem _ hq)) h2 d _ (by omega)]
      have : (depL (p :: ps) : Int) = max (p.dep : Int) (depL ps : Int) := by
        show ((max p.dep (depL ps) : Nat) : Int) = _
        omega
      rw [this]
      refine Prod.ext rfl ?_
      show max (max m (d + (p.dep : Int) - 1)) (d + (depL ps : Int) - 1) = max m (d + max (p.dep : Int) (depL ps : Int) - 1)
      omega
end
/-! words -/
def sepc (c : Nat) : Bool := decide (c = 40 ∨ c = 41 ∨ c = 44)
def mpc (c : Nat) : Nat := if c = 40 ∨ c = 41 ∨ c = 44 then 32 else c
def wcM : Bool → List Nat → Nat
  | _, [] => 0
  | b, c :: r => if c = 32 then wcM false r else (if b = true then 0 else 1) + wcM true r
def wcT (b : Bool) (l : List Nat) : Nat := wcM b (l.map mpc)
def SepH (s : List Nat) : Prop := ∀ c, s.head? = some c → mpc c = 32
theorem wcT_sep {b : Bool} {c : Nat} {r : List Nat} (h : mpc c = 32) : wcT b (c :: r) = wcT false r := by
  show (if mpc c = 32 then wcM false (r.map mpc) else _) = _
  rw [if_pos h]
  rfl
theorem wcT_same {s : List Nat} (h : SepH s) (b : Bool) : wcT b s = wcT false s := by
  cases s with
  | nil => rfl
  | cons c r => rw [wcT_sep (h c rfl), wcT_sep (h c rfl)]
theorem mp32 : mpc 32 = 32 := rfl
theorem wcT_bk {s : List Nat} : ∀ {b : List Nat}, Bk b → wcT false (b ++ s) = wcT false s
  | [], _ => rfl
  | c :: b, h => by
    have e : c = 32 := h c (List.mem_cons_self ..)
    subst e
    rw [List.cons_append, wcT_sep mp32]
    exact wcT_bk fun x hx => h x (List.mem_cons_of_mem _ hx)
theorem wcT_aft {s b : List Nat} (hb : Bk b) (h : SepH s) : wcT true (b ++ s) = wcT false s := by
  cases b with
  | nil => exact wcT_same h true
  | cons c b =>
    have e : c = 32 := hb c (List.mem_cons_self ..)
    subst e
    rw [List.cons_append, wcT_sep mp32]
    exact wcT_bk fun x hx => hb x (List.mem_cons_of_mem _ hx)
theorem wcT_in {s : List Nat} : ∀ {w : List Nat}, (∀ c ∈ w, mpc c ≠ 32) → wcT true (w ++ s) = wcT true s
  | [], _ => rfl
  | c :: w, h => by
    show (if mpc c = 32 then _ else (if true = true then 0 else 1) + wcM true ((w ++ s).map mpc)) = _
    rw [if_neg (h c (List.mem_cons_self ..)), if_pos rfl, Nat.zero_add]
    exact wcT_in fun x hx => h x (List.mem_cons_of_mem _ hx)
theorem wcT_word {s w : List Nat} (ne : w ≠ []) (h : ∀ c ∈ w, mpc c ≠ 32) : wcT false (w ++ s) = 1 + wcT true s := by
  cases w with
  | nil => exact absurd rfl ne
  | cons c w =>
    show (if mpc c = 32 then _ else (if false = true then 0 else 1) + wcM true ((w ++ s).map mpc)) = _
    rw [if_neg (h c (List.mem_cons_self ..)), if_neg (by decide)]
    exact congrArg (1 + ·) (wcT_in fun x hx => h x (List.mem_cons_of_mem _ hx))
theorem mp_low {l : List Nat} (h : l.all lowc = true) : ∀ c ∈ l, mpc c ≠ 32 := fun c hc => by
  have hl := List.all_eq_true.mp h c hc
  have n : c ≠ 32 ∧ c ≠ 40 ∧ c ≠ 41 ∧ c ≠ 44 := by
    refine ⟨?_, ?_, ?_, ?_⟩ <;> (intro e; subst e; revert hl)
    · rw [low40.1]; exact fun h => by cases h
    · rw [low40.2.1]; exact fun h => by cases h
    · rw [low40.2.2.1]; exact fun h => by cases h
    · rw [low40.2.2.2.1]; exact fun h => by cases h
  unfold mpc
  rw [if_neg (by rintro (x | x | x); exact n.2.1 x; exact n.2.2.1 x; exact n.2.2.2 x)]
  exact n.1
theorem mp_hole {z : Str} (h : isHl z = true) : z.cps.toList ≠ [] ∧ ∀ c ∈ z.cps.toList, mpc c ≠ 32 := by
  obtain ⟨l, e, _, _, h3⟩ := isHl_out h
  rw [e]
  refine ⟨(fun x => nomatch x), fun c hc => ?_⟩
  rcases List.mem_cons.mp hc with rfl | hc
  · decide
  · exact mp_low h3 c hc
theorem mp_name {z : Str} (h : isW z 8 = true) : z.cps.toList ≠ [] ∧ ∀ c ∈ z.cps.toList, mpc c ≠ 32 := by
  obtain ⟨g1, _, g3⟩ := isW_out h
  refine ⟨fun e => ?_, mp_low g3⟩
  rw [len_list, e] at g1
  cases g1
mutual
theorem wc_ts : ∀ (t : Th) (v s : List Nat), t.shape true = true → TS t v → SepH s → (wcT false (v ++ s) : Int) = t.size + (wcT false s : Int)
  | .str z, v, s, hs, h, hh => by
    obtain ⟨b1, b2, h1, h2, rfl⟩ := h
    have hs : (true && isHl z) = true := hs
    obtain ⟨k1, k2⟩ := mp_hole hs
    rw [List.append_assoc, List.append_assoc, wcT_bk h1, wcT_word k1 k2, wcT_aft h2 hh]
    show ((1 + wcT false s : Nat) : Int) = 1 + _
    omega
  | .tup l, v, s, hs, h, hh => by
    obtain ⟨z, ps, rfl, h4, h8, hall⟩ := shape_tup hs
    obtain ⟨k1, k2⟩ := mp_name h8
    rcases h with ⟨rfl, b1, b2, h1, h2, rfl⟩ | ⟨b1, b2, b3, u, h1, h2, h3, hu, rfl⟩
    · rw [List.append_assoc, List.append_assoc, wcT_bk h1]
      show (wcT false (z.cps.toList ++ (b2 ++ s)) : Int) = _
      rw [wcT_word k1 k2, wcT_aft h2 hh]
      show ((1 + wcT false s : Nat) : Int) = (1 + 0) + _
      omega
    · rw [List.append_assoc, List.append_assoc, wcT_bk h1]
      show (wcT false (z.cps.toList ++ ((b2 ++ 40 :: (u ++ 41 :: b3)) ++ s)) : Int) = _
      have s40 : SepH (40 :: (u ++ 41 :: b3) ++ s) := fun c hc => by cases hc; rfl
      rw [wcT_word k1 k2, List.append_assoc, wcT_aft h2 s40]
      show ((1 + wcT false (40 :: ((u ++ 41 :: b3) ++ s)) : Nat) : Int) = _
      rw [wcT_sep (c := 40) rfl, List.append_assoc]
      have ih := wc_lsp ps u (41 :: (b3 ++ s)) hall hu (fun c hc => by cases hc; rfl)
      rw [wcT_sep (c := 41) rfl, wcT_bk h3] at ih
      have e : (Th.tup (.str z :: ps)).size = 1 + sizeL ps := rfl
      rw [e]
      show ((1 + wcT false (u ++ (41 :: (b3 ++ s))) : Nat) : Int) = _
      omega
  | .non, _, _, h, _, _ | .bl _, _, _, h, _, _ | .int _, _, _, h, _, _ | .ls, _, _, h, _, _ | .dc, _, _, h, _, _ => by cases h
theorem wc_lsp : ∀ (l : List Th) (u s : List Nat), (∀ p ∈ l, p.shape true = true) → LSp l u → SepH s → (wcT false (u ++ s) : Int) = sizeL l + (wcT false s : Int)
  | [], _, _, _, h, _ => h.elim
  | p :: ps, u, s, hs, h, hh => by
    have hp := hs p (List.mem_cons_self ..)
    rcases h with ⟨rfl, h⟩ | ⟨u1, u2, h1, h2, rfl⟩
    · rw [wc_ts p u s hp h hh]
      show _ = (p.size + 0) + _
      omega
    · rw [List.append_assoc, wc_ts p u1 _ hp h1 (fun c hc => by cases hc; rfl)]
      show p.size + (wcT false (44 :: (u2 ++ s)) : Int) = (p.size + sizeL ps) + _
      rw [wcT_sep (c := 44) rfl, wc_lsp ps u2 s (fun q hq => hs q (List.mem_cons_of_mem _ hq)) h2 hh]
      omega
end
/-! without blanks -/
def nb (l : List Nat) : List Nat := l.filter fun c => decide (c ≠ 32)
theorem nb_app (a b : List Nat) : nb (a ++ b) = nb a ++ nb b := List.filter_append ..
theorem nb_bk {b : List Nat} (h : Bk b) : nb b = [] := List.filter_eq_nil_iff.mpr fun c hc => by
  rw [h c hc]
  decide
theorem nb_id {l : List Nat} (h : ∀ c ∈ l, mpc c ≠ 32) : nb l = l := List.filter_eq_self.mpr fun c hc => decide_eq_true fun e => h c hc (by rw [e]; rfl)
mutual
theorem nb_ts : ∀ (t : Th) (v : List Nat), t.shape true = true → TS t v → nb v = t.wl
  | .str z, v, hs, h => by
    obtain ⟨b1, b2, h1, h2, rfl⟩ := h
    have hs : (true && isHl z) = true := hs
    rw [nb_app, nb_app, nb_bk h1, nb_bk h2, nb_id (mp_hole hs).2, List.append_nil]
    rfl
  | .tup l, v, hs, h => by
    obtain ⟨z, ps, rfl, h4, h8, hall⟩ := shape_tup hs
    rcases h with ⟨rfl, b1, b2, h1, h2, rfl⟩ | ⟨b1, b2, b3, u, h1, h2, h3, hu, rfl⟩
    · rw [nb_app, nb_app, nb_bk h1, nb_bk h2, List.append_nil]
      show [] ++ nb z.cps.toList = _
      rw [nb_id (mp_name h8).2]
      rfl
    · cases ps with
      | nil => exact hu.elim
      | cons p r =>
        rw [nb_app, nb_app, nb_app, nb_bk h1, nb_bk h2, wl_tup]
        show nb z.cps.toList ++ ([] ++ nb (40 :: (u ++ 41 :: b3))) = hdc (.str z) ++ _
        have e : nb (40 :: (u ++ 41 :: b3)) = 40 :: (nb u ++ 41 :: nb b3) := by
          show nb ([40] ++ (u ++ ([41] ++ b3))) = _
          rw [nb_app, nb_app, nb_app]
          rfl
        rw [e, nb_bk h3, nb_lsp (p :: r) u hall hu, nb_id (mp_name h8).2]
        rfl
  | .non, _, h, _ | .bl _, _, h, _ | .int _, _, h, _ | .ls, _, h, _ | .dc, _, h, _ => by cases h
theorem nb_lsp : ∀ (l : List Th) (u : List Nat), (∀ p ∈ l, p.shape true = true) → LSp l u → nb u = TL.joinL [44] (l.map Th.wl)
  | [], _, _, h => h.elim
  | p :: ps, u, hs, h => by
    have hp := hs p (List.mem_cons_self ..)
    rcases h with ⟨rfl, h⟩ | ⟨u1, u2, h1, h2, rfl⟩
    · exact nb_ts p u hp h
    · cases ps with
      | nil => exact h2.elim
      | cons q r =>
        have e : nb (u1 ++ 44 :: u2) = nb u1 ++ 44 :: nb u2 := by
          show nb (u1 ++ ([44] ++ u2)) = _
          rw [nb_app, nb_app]
          rfl
        rw [e, nb_ts p u1 hp h1, nb_lsp (q :: r) u2 (fun x hx => hs x (List.mem_cons_of_mem _ hx)) h2]
        rfl
end
/-- the law's bounds -/
def bnd (l : List Nat) : Bool := decide ((dfold 1 1 l).2 < 6) && decide ((wcT false l : Int) < 31)
theorem bnd_within {t : Th} {l : List Nat} (hs : t.shape true = true) (h : TS t l) : bnd l = within true t := by
  have h1 := df_ts t l hs h 1 1 (Int.le_refl 1)
  have h2 := wc_ts t l [] hs h (fun c hc => by cases hc)
  rw [List.append_nil] at h2
  have h3 : wcT false [] = 0 := rfl
  have dp := dep_pos t
  unfold bnd
  rw [h1, h2, h3, Bool.eq_iff_iff, within_iff, Bool.and_eq_true, decide_eq_true_eq, decide_eq_true_eq]
  constructor
  · rintro ⟨a, b⟩
    exact ⟨hs, by omega, by omega⟩
  · rintro ⟨_, a, b⟩
    exact ⟨by omega, by omega⟩
end Kt
namespace Kt
open PySem PySem.Spec PyProof.Rows L2
theorem strs_get {l : List Str} {j : Nat} {x : V} (h : (l.map V.str)[j]? = some x) : ∃ z, x = .str z ∧ l[j]? = some z := by
  rw [List.getElem?_map] at h
  cases e : l[j]? with
  | none =>
    rw [e] at h
    cases h
  | some z =>
    rw [e] at h
    cases h
    exact ⟨z, rfl, rfl⟩
theorem lc_keep {K : PySem.W.Frag} {zs : List Str} {p : Str → Bool} {p0 D : Addr} {H2 : Hp} {σ : L2.St} {vs : List Nat} {j : Nat} {tt : TT} {te : TE} {Qd : Hp → Prop} (hp : H2 p0 = some (.lst (zs.map V.str))) (hD : H2 D = none) (hn : zs.length < sizeLine)
    (hset : ∀ x, wipe ((wipe σ vs).set j (some x)) vs = wipe σ vs)
    (ht : ∀ z H, z ∈ zs → Same H2 H → ∀ Q : Bool → Hp → Prop, (∀ H', Same H H' → Q (p z) H') → tt ((wipe σ vs).set j (some (.str z))) H Q)
    (he : ∀ z H (Q : VK), Q (.str z) H → te ((wipe σ vs).set j (some (.str z))) H Q)
    (hd : ∀ H', Same H2 H' → H' D = some (.lst ((zs.filter p).map V.str)) → Qd H') :
    ∃ W : Nat → Nat → Hp → Prop, (∃ m, W 0 m (upd H2 D (.lst []))) ∧ ∀ i m H, W i m H →
      ((Itl K p0).stop i H ∧ Qd H) ∨ ((Itl K p0).go i H ∧ ∃ Nx : Hp → Prop, (∀ H', Nx H' → ∃ m', m' < m ∧ W (i + 1) m' H') ∧ ∀ x H', (Itl K p0).yld i H x H' → gName j x (wipe σ vs) H' fun σ2 H2 => wipe σ2 vs = wipe σ vs ∧ tt σ2 H2 fun b H3 =>
        if b = true then te σ2 H3 fun y H4 => ∃ acc, H4 D = some (.lst acc) ∧ acc.length < sizeLine ∧ Nx (upd H4 D (.lst (acc ++ [y]))) else Nx H3) := by
  refine lc_it (walk_list (K := K) (xs := zs.map V.str)) (fun i Hx => Same H2 Hx ∧ Hx D = some (.lst (((zs.take i).filter p).map V.str))) ⟨same_new hD _, upd_same⟩ (fun i Hx _ k => SqL.of (k.1 _ _ hp)) (fun i x Hx Hy hi k yy => ?_) (fun Hx k => ?_)
  · obtain ⟨rfl, hx⟩ := yy
    obtain ⟨z, rfl, hz⟩ := strs_get hx
    have tk : zs.take (i + 1) = zs.take i ++ [z] := by
      rw [List.take_add_one, hz]
      rfl
    refine ⟨hset _, ht z _ (List.mem_of_getElem? hz) k.1 _ fun H' s' => ?_⟩
    have k2 := s' _ _ k.2
    refine ite2 (fun c => he z H' _ ⟨_, k2, ?_, Same.mut (k.1.trans s') hD, ?_⟩) (fun c => ⟨k.1.trans s', ?_⟩)
    · have k1 := List.length_filter_le p (zs.take i)
      have k3 := List.length_take_le' i zs
      rw [List.length_map]
      omega
    · rw [tk, List.filter_append, List.filter_cons, if_pos c, upd_same, List.map_append]
      rfl
    · rw [tk, List.filter_append, List.filter_cons, if_neg c, List.filter_nil, List.append_nil]
      exact k2
  · obtain ⟨k1, k2⟩ := k
    rw [List.length_map, List.take_length] at k2
    exact hd Hx k1 k2
/-! ### texts replaced and split, as lists of signs -/
theorem repl1 (a b : Nat) : ∀ l : List Nat, PySem.StrLaws.replL [a] [b] l = l.map fun c => if c = a then b else c
  | [] => PySem.StrLaws.replL_nil
  | c :: l => by
    by_cases e : c = a
    · rw [PySem.StrLaws.replL_hit (fun x => by cases x) (by rw [e]; rfl)]
      show b :: PySem.StrLaws.replL [a] [b] l = _
      rw [repl1 a b l, List.map_cons, if_pos e]
    · rw [PySem.StrLaws.replL_miss (y := [a]) (z := [b]) (c := c) (r := l) (show ¬ [c] = [a] from fun x => e (List.cons.inj x).1), repl1 a b l, List.map_cons, if_neg e]
theorem repl0 : ∀ l : List Nat, PySem.StrLaws.replL [32] [] l = nb l
  | [] => PySem.StrLaws.replL_nil
  | c :: l => by
    by_cases e : c = 32
    · rw [PySem.StrLaws.replL_hit (fun x => by cases x) (by rw [e]; rfl)]
      show PySem.StrLaws.replL [32] [] l = _
      rw [repl0 l]
      show nb l = List.filter _ (c :: l)
      rw [List.filter_cons, if_neg (by rw [e]; decide)]
      rfl
    · rw [PySem.StrLaws.replL_miss (y := [32]) (z := []) (c := c) (r := l) (show ¬ [c] = [32] from fun x => e (List.cons.inj x).1), repl0 l]
      show c :: nb l = List.filter _ (c :: l)
      rw [List.filter_cons, if_pos (decide_eq_true e)]
      rfl
theorem rep_list {x : Str} {a b : Nat} {y z : Str} (hy : y = ⟨#[a]⟩) (hz : z = ⟨#[b]⟩) : (Txt.replace x y z).cps.toList = x.cps.toList.map fun c => if c = a then b else c := by
  subst hy hz
  rw [PySem.StrLaws.replace_list (by show 1 ≤ 1; decide)]
  exact repl1 a b _
theorem rep_len {x : Str} {a b : Nat} {y z : Str} (hy : y = ⟨#[a]⟩) (hz : z = ⟨#[b]⟩) : (Txt.replace x y z).length = x.length := by
  rw [len_list, rep_list hy hz, List.length_map, len_list]
theorem three {x : Str} : (Txt.replace (Txt.replace (Txt.replace x "(" " ") ")" " ") "," " ").cps.toList = x.cps.toList.map mpc := by
  rw [rep_list comma_is blank_is, rep_list shut_is blank_is, rep_list open_is blank_is, List.map_map, List.map_map]
  apply List.map_congr_left
  intro c _
  show (if (if (if c = 40 then 32 else c) = 41 then 32 else (if c = 40 then 32 else c)) = 44 then 32 else (if (if c = 40 then 32 else c) = 41 then 32 else (if c = 40 then 32 else c))) = mpc c
  unfold mpc
  by_cases h1 : c = 40
  · subst h1
    rfl
  · rw [if_neg h1]
    by_cases h2 : c = 41
    · subst h2
      rfl
    · rw [if_neg h2]
      by_cases h3 : c = 44
      · subst h3
        rfl
      · rw [if_neg h3, if_neg (by rintro (x | x | x); exact h1 x; exact h2 x; exact h3 x)]
theorem spl_32 : ∀ (l acc : List Nat), ((TL.spl [32] 0 acc l).filter fun p => !p.isEmpty).length = (if acc.isEmpty then 0 else 1) + wcM (!acc.isEmpty) l
  | [], acc => by
    rw [TL.spl_nil]
    show ([acc].filter _).length = _
    rw [List.filter_cons]
    cases acc <;> rfl
  | c :: r, acc => by
    by_cases e : c = 32
    · subst e
      rw [TL.spl_hit rfl]
      show ((acc :: TL.spl [32] 0 [] r).filter _).length = _
      rw [List.filter_cons]
      have ih := spl_32 r []
      have w : wcM (!acc.isEmpty) (32 :: r) = wcM false r := rfl
      rw [w]
      cases acc with
      | nil =>
        rw [if_neg (by decide), ih]
        rfl
      | cons a acc =>
        show ((a :: acc) :: List.filter (fun p => !p.isEmpty) (TL.spl [32] 0 [] r)).length = 1 + wcM false r
        rw [List.length_cons, ih]
        show 0 + wcM false r + 1 = 1 + wcM false r
        omega
    · have np : TL.pre [32] (c :: r) = false := by
        show (([c] : List Nat) == [32]) = false
        rw [beq_eq_false_iff_ne]
        exact fun x => e (List.cons.inj x).1
      have step : TL.spl [32] 0 acc (c :: r) = TL.spl [32] 0 (acc ++ [c]) r := by
        rw [TL.spl, if_neg (by rw [np]; decide)]
      rw [step, spl_32 r (acc ++ [c])]
      have ne : (acc ++ [c]).isEmpty = false := by cases acc <;> rfl
      rw [ne]
      show 1 + wcM true r = (if acc.isEmpty = true then 0 else 1) + (if c = 32 then wcM false r else (if (!acc.isEmpty) = true then 0 else 1) + wcM true r)
      rw [if_neg e]
      cases acc with
      | nil =>
        show 1 + wcM true r = 0 + (1 + wcM true r)
        omega
      | cons a acc =>
        show 1 + wcM true r = 1 + (0 + wcM true r)
        omega
theorem spl_len : ∀ (l acc : List Nat), (TL.spl [32] 0 acc l).length ≤ l.length + 1
  | [], acc => by
    rw [TL.spl_nil]
    exact Nat.le_refl 1
  | c :: r, acc => by
    rw [TL.spl]
    split
    · show (TL.spl [32] 0 [] r).length + 1 ≤ _
      have := spl_len r []
      rw [List.length_cons]
      omega
    · have := spl_len r (acc ++ [c])
      rw [List.length_cons]
      omega
theorem split_at {x : Str} (hx : x.length ≤ 200000) : (Txt.split x " ").length ≤ 200001 ∧ (((Txt.split x " ").filter fun z => !decide (V.str z = V.str "")).length : Nat) = wcM false x.cps.toList := by
  have e := TL.split_spl x " " (by rw [blank_is]; exact fun h => by cases h) (TL.kind_ok (by rw [blank_is]; decide +kernel))
  have e2 : TL.tl (" " : Str) = [32] := by rw [blank_is]
  rw [e2] at e
  have l1 : (Txt.split x " ").length = (TL.spl [32] 0 [] (TL.tl x)).length := by rw [← e, List.length_map]
  refine ⟨by rw [l1]; have := spl_len (TL.tl x) []; have : (TL.tl x).length = x.length := rfl; omega, ?_⟩
  have h := spl_32 (TL.tl x) []
  rw [← e, List.filter_map, List.length_map] at h
  have h0 : (if ([] : List Nat).isEmpty = true then 0 else 1) + wcM (!([] : List Nat).isEmpty) (TL.tl x) = wcM false (TL.tl x) := Nat.zero_add _
  rw [h0] at h
  rw [← (show wcM false (TL.tl x) = wcM false x.cps.toList from rfl), ← h]
  congr 1
  apply List.filter_congr
  intro z _
  show (!decide (V.str z = V.str "")) = !(TL.tl z).isEmpty
  congr 1
  cases hz : TL.tl z with
  | nil =>
    have : z = "" := str_ext (by show TL.tl z = _; rw [hz]; decide +kernel)
    rw [this]
    decide +kernel
  | cons c r =>
    show decide _ = false
    refine decide_eq_false fun h => ?_
    have h2 := congrArg (fun s : Str => s.cps.toList) (V.str.inj h)
    have h2 : TL.tl z = _ := h2
    rw [hz] at h2
    revert h2
    rw [show (("" : Str).cps.toList) = [] by decide +kernel]
    exact fun h => by cases h
def sp_bounds : Sp := fun vs H Q _ => ∃ z : Str, vs = [.str z] ∧ z.length ≤ 100000 ∧ ∀ H', Same H H' → Q (.bl (bnd z.cps.toList)) H'
section
variable {P : Program} {w : World} {K : PySem.W.Frag} {mg : Str → Option Value} {base : Heap}
theorem c__law_bounds (T : Tx K mg) : Cl P w K mg base CX0 1 "_law_bounds" ["_law_row"] sp_bounds := by
  refine Cl.mk0 T.d__law_bounds sc__law_bounds (fun vs H Q E h => ?_) (fun f cdv A outer s H vs Q E hr h => ?_)
  · obtain ⟨z, rfl, _⟩ := h
    rfl
  obtain ⟨z, rfl, hz, q⟩ := h
  have l2 : 2 ≤ sizeLine := by decide
  refine ⟨_, (pssg_asg (peg_tup (pag_head peg_int (pa_cons pe_int pa_nil))) (pg_tup rfl (pgs_cons (pg_name (i := 1) sc__law_bounds.nd rfl (Or.inl rfl)) (pgs_cons (pg_name (i := 2) sc__law_bounds.nd rfl (Or.inl rfl)) pgs_nil)))
    (psst_cons (PST.of (ps_for PassesOwn.never rfl (pi_str (pv 0)) (pg_name (i := 3) sc__law_bounds.nd rfl (Or.inl rfl))
      (pss_cons (ps_set (i := 1) sc__law_bounds.nd rfl (Or.inl rfl) (pe_op op_add (pv 1) (pe_dget2 (hu_of hr) (pe_disp (pps_cons pe_str pe_int (pps_cons pe_str (pe_un un_neg pe_int) pps_nil)) rfl rfl (by simp) (by decide)) (pv 3) pe_int ⟨rfl, rfl, rfl, rfl⟩)))
      (pss_one (ps_set (i := 2) sc__law_bounds.nd rfl (Or.inl rfl) (pe_callB (call_max2 rfl) (by rfl) T.z_max (by decide +kernel) (pa_cons (pv 2) (pa_cons (pv 1) pa_nil))))))))
    (psst_cons (pst_set (i := 4) sc__law_bounds.nd rfl (Or.inl rfl) (pet_sp (pet_rep (pet_rep (pet_rep (pet_of (pv 0)) (by decide +kernel)) (by decide +kernel)) (by decide +kernel)) pe_str))
    (PSsT.of (pss_one (ps_ret (pe_and (pe_cmpR op_lt (pv 2) pe_int (nomark _)) (pe_one (pe_cmpR op_lt (pe_callB call_len (by rfl) T.z_len (by decide +kernel) (pa_cons (pe_lc (own := [("_law_word_here", 5)]) (g := gName 5) rfl sc__law_bounds.nd (pi_list (pv 4)) (blkOk_by (own := [("_law_word_here", 5)]) (N := ["_law_row", "_law_deep", "_law_most", "_law_sign", "_law_words", "_law_word_here"]) (sc := defScope s__law_bounds) (by decide +kernel)) (fun _ _ _ _ _ => (pg_name (i := 5) sc__law_bounds.nd rfl (Or.inl rfl))) (fun _ _ _ _ _ => (pts_one (pt_cmpR op_ne (pv 5) pe_str (nomark _)))) (fun _ _ _ _ _ => (pv 5))) pa_nil)) pe_int (nomark _)))))))))), ?_⟩
  refine ⟨l2, fun p0 hp0 => ⟨p0, _, rfl, SqT.of upd_same, rfl, _, _, rfl, _, _, rfl, rfl, ?_⟩⟩
  have s0 := same_new (o := .tup [.int 1, .int 1]) hp0
  refine ⟨_, rfl, z, rfl, for_it (walk_str (z := z)) (fun i σ H' => ∃ d m y3, σ = [some (.str z), some (.int d), some (.int m), y3, none, none] ∧ Same H H' ∧ dfold d m (z.cps.toList.drop i) = dfold 1 1 z.cps.toList)
    ⟨1, 1, none, rfl, s0, rfl⟩ (fun _ _ _ _ _ => trivial) (fun i x σ H1 H2 hi h' yy => ?_) (fun σ H1 h' => ?_)⟩
  · obtain ⟨d, m, y3, rfl, s1, hd⟩ := h'
    obtain ⟨rfl, c, hc, rfl⟩ := yy
    have hlt : i < z.cps.toList.length := hi
    have hcl : z.cps.toList[i]? = some c := by rw [Array.getElem?_toList]; exact hc
    have hdr : z.cps.toList.drop i = c :: z.cps.toList.drop (i + 1) := by
      rw [List.drop_eq_getElem_cons hlt]
      rw [List.getElem?_eq_getElem hlt] at hcl
      rw [Option.some.inj hcl]
    rw [hdr] at hd
    have val : (valV (mergeK [] [((Sum.inr ("(" : Str) : Key), V.int 1), ((Sum.inr (")" : Str) : Key), V.int (-1))]) (Sum.inr (⟨#[c]⟩ : Str) : Key)).getD (.int 0) = .int (dl c) := by
      show (valV (putK (putK [] (Sum.inr ("(" : Str) : Key) (V.int 1)) (Sum.inr (")" : Str) : Key) (V.int (-1))) (Sum.inr (⟨#[c]⟩ : Str) : Key)).getD (.int 0) = _
      rw [valV_put, valV_put]
      have k40 : ((Sum.inr (⟨#[c]⟩ : Str) : Key) = (Sum.inr ("(" : Str) : Key)) ↔ c = 40 := by
        rw [open_is]
        exact ⟨fun e => by have := congrArg Str.cps (Sum.inr.inj e); simpa using this, fun e => by rw [e]⟩
      have k41 : ((Sum.inr (⟨#[c]⟩ : Str) : Key) = (Sum.inr (")" : Str) : Key)) ↔ c = 41 := by
        rw [shut_is]
        exact ⟨fun e => by have := congrArg Str.cps (Sum.inr.inj e); simpa using this, fun e => by rw [e]⟩
      unfold dl
      by_cases e1 : c = 41
      · rw [if_pos (k41.mpr e1), if_neg (by omega), if_pos e1]
        rfl
      · rw [if_neg (fun x => e1 (k41.mp x))]
        by_cases e2 : c = 40
        · rw [if_pos (k40.mpr e2), if_pos e2]
          rfl
        · rw [if_neg (fun x => e2 (k40.mp x)), if_neg e2, if_neg e1]
          rfl
    refine ⟨_, rfl, fun p hp => ⟨_, rfl, upd_same, [(Sum.inr "(", .int 1), (Sum.inr ")", .int (-1))], rfl, by show 2 ≤ 15; decide, p, rfl, .inl ⟨_, .inl upd_same⟩, _, rfl, _, DGet.k (k := (Sum.inr (⟨#[c]⟩ : Str) : Key)) upd_same, ?_⟩⟩
    rw [val]
    have s2 : Same H2 (upd (upd H2 p (.dK [])) p (.dK (mergeK [] [(Sum.inr "(", .int 1), (Sum.inr ")", .int (-1))]))) := Same.mut (same_new hp _) hp
    exact ⟨d, dl c, rfl, rfl, _, rfl, _, rfl, m, d + dl c, rfl, _, _, _, rfl, s1.trans s2, hd⟩
  · obtain ⟨d, m, y3, rfl, s1, hd⟩ := h'
    have e : z.cps.toList.drop z.cps.size = [] := List.drop_eq_nil_of_le (by rw [Array.length_toList]; exact Nat.le_refl _)
    rw [e] at hd
    have hd : (d, m) = dfold 1 1 z.cps.toList := hd
    have hm : (dfold 1 1 z.cps.toList).2 = m := by rw [← hd]
    have b1 : (" " : Str).length = 1 := by decide +kernel
    have n1 : (Txt.replace z "(" " ").length = z.length := rep_len open_is blank_is
    have n2 : (Txt.replace (Txt.replace z "(" " ") ")" " ").length = z.length := (rep_len shut_is blank_is).trans n1
    have n3 : (Txt.replace (Txt.replace (Txt.replace z "(" " ") ")" " ") "," " ").length = z.length := (rep_len comma_is blank_is).trans n2
    have sl : (400000 : Nat) ≤ sizeLine := by decide
    refine ⟨_, rfl, z, rfl, by rw [b1]; omega, _, rfl, by rw [b1, n1]; omega, _, rfl, by rw [b1, n2]; omega, ⟨_, rfl⟩, _, _, rfl, rfl, by rw [b1]; rfl, by rw [n3]; omega, fun p hp => ?_⟩
    obtain ⟨k1, k2⟩ := split_at (x := Txt.replace (Txt.replace (Txt.replace z "(" " ") ")" " ") "," " ") (by rw [n3]; omega)
    rw [three] at k2
    generalize Txt.split (Txt.replace (Txt.replace (Txt.replace z "(" " ") ")" " ") "," " ") " " = ys at k1 k2 hp ⊢
    have sp := s1.trans (same_new (o := .lst (ys.map V.str)) hp)
    have fin : ∀ H', Same H H' → Q (.bl (bnd z.cps.toList)) H' := q
    refine ⟨_, rfl, _, _, rfl, rfl, _, rfl, ite2 (fun c1 => ?_) (fun c1 => ?_)⟩
    · refine ⟨_, rfl, p, rfl, ⟨_, SqL.of upd_same⟩, fun D hD => ?_⟩
      refine lc_keep (p := fun z => !decide (V.str z = V.str "")) upd_same hD (by omega) (fun x => rfl) (fun y H' hy sx Q' q' => ⟨_, rfl, rfl, _, rfl, q' H' (Same.refl H')⟩) (fun y H' Q' q' => ⟨_, rfl, q'⟩) (fun H3 s3 hD3 => ?_)
      refine ⟨_, _, rfl, .inl ⟨_, SqL.of hD3, rfl⟩, _, _, rfl, rfl, ?_⟩
      have h5 := fin H3 (sp.trans s3)
      have e5 : bnd z.cps.toList = decide ((((ys.filter fun z => !decide (V.str z = V.str "")).map V.str).length : Int) < 31) := by
        unfold bnd wcT
        rw [hm, c1, Bool.true_and, List.length_map, k2]
      rw [e5] at h5
      exact h5
    · have h5 := fin _ sp
      have e5 : bnd z.cps.toList = false := by
        unfold bnd
        rw [hm, Bool.eq_false_iff.mpr c1, Bool.false_and]
      rw [e5] at h5
      exact h5
end
end Kt
namespace Kt
open PySem PySem.Spec PyProof.Rows L2
theorem rstr {H : Hp} (z : Str) (h : z.length ≤ 100 := by decide) (ok : z.cps.toList.all (fun c => decide (c < 1114112)) = true := by decide +kernel) : Rep H (.str z) (.str z) :=
  .str z h fun c hc => of_decide_eq_true (List.all_eq_true.mp ok c hc)
end Kt
namespace Kt
open PySem PySem.Spec PyProof.Rows L2
/-! ### what is due, and what the program tells -/
def dueV (z : Str) : V := match run .beg [] z.cps.toList 0 with
  | .bad k => .int (k : Int)
  | .fin b => if (b && bnd z.cps.toList) = true then .non else .int (z.length : Int)
def sp_due : Sp := fun vs H Q _ => ∃ z : Str, vs = [.str z] ∧ z.length ≤ 100000 ∧ ∀ H', Same H H' → Q (dueV z) H'
def sp_told5 : Sp := fun vs H Q _ => ∃ v, vs = [v] ∧ ((∃ t, Rep H v t ∧ t.isStr = false ∧ ∀ H', Same H H' → Q (.int 0) H') ∨
  ∃ z : Str, v = .str z ∧ z.length ≤ 100000 ∧ (∀ e, (run .beg [] z.cps.toList 0).pos z.length = some e → ∀ H', Same H H' → Q (.int (e : Nat)) H') ∧
    ((run .beg [] z.cps.toList 0).pos z.length = none → ∀ t, t.shape true = true → TS t z.cps.toList → within true t = false → ∀ H', Same H H' → Q (.int (z.length : Nat)) H') ∧
    ((run .beg [] z.cps.toList 0).pos z.length = none → ∀ v t H', Same H H' → Rep H' v t → within true t = true → TS t z.cps.toList → Q v H'))
def sp_spoilt : Sp := fun vs H Q _ => ∃ (d c : Addr) (z : Str), vs = [.ref d, .str z] ∧ z.length ≤ 50000 ∧ Dr d c H ∧ ∀ z' H', z'.length ≤ 2 * z.length + 8 → DU d c H H' → Q (.str z') H'
section
variable {P : Program} {w : World} {K : PySem.W.Frag} {mg : Str → Option Value} {base : Heap}
theorem c__law_due (T : Tx K mg) : Cl P w K mg base CX0 3 "_law_due" ["_law_row"] sp_due := by
  refine Cl.mk0 T.d__law_due sc__law_due (fun vs H Q E h => ?_) (fun f cdv A outer s H vs Q E hr h => ?_)
  · obtain ⟨z, rfl, _⟩ := h
    rfl
  obtain ⟨z, rfl, hz, q⟩ := h
  refine ⟨_, (pss_cons (ps_asg (pe_cl (c__law_walk T) hr (by omega) rfl (pa_cons (pv 0) pa_nil)) (pg_tup rfl (pgs_cons (pg_name (i := 1) sc__law_due.nd rfl (Or.inl rfl)) (pgs_cons (pg_name (i := 2) sc__law_due.nd rfl (Or.inl rfl)) pgs_nil))))
    (pss_cons (ps_if (pt_cmpR op_notN (pv 1) pe_non (nomark _))
      (pss_one (ps_ret (pv 1)))
      pss_nil)
    (pss_one (ps_ret (pe_ifExp (PW.pt (pw_and (pt_val (pv 2)) (pw_and1 (pt_val (pe_cl (c__law_bounds T) hr (by omega) rfl (pa_cons (pv 0) pa_nil)))))) pe_non (pe_callB call_len (by rfl) T.z_len (by decide +kernel) (pa_cons (pv 0) pa_nil))))))), ?_⟩
  refine ⟨_, rfl, z, rfl, hz, fun p H1 s1 hp => ?_⟩
  unfold dueV at q
  cases hr' : run .beg [] z.cps.toList 0 with
  | bad k =>
    rw [hr'] at q hp
    exact ⟨p, _, rfl, SqT.of hp, rfl, _, _, rfl, _, _, rfl, rfl, _, rfl, rfl, _, rfl, ifT (by rw [decide_eq_false (fun h => by cases h)]; rfl) ⟨_, rfl, q H1 s1⟩⟩
  | fin b =>
    rw [hr'] at q hp
    refine ⟨p, _, rfl, SqT.of hp, rfl, _, _, rfl, _, _, rfl, rfl, _, rfl, rfl, _, rfl, ifF (by rw [decide_eq_true rfl]; rfl) ⟨_, rfl, _, rfl, ?_⟩⟩
    cases b with
    | false => exact iteF (iteF ⟨_, rfl, _, _, rfl, ⟨big hz, rfl⟩, q H1 s1⟩)
    | true =>
      refine iteT ⟨_, rfl, z, rfl, hz, fun H2 s2 => ⟨_, rfl, ?_⟩⟩
      have h2 : Q (if (true && bnd z.cps.toList) = true then .non else .int (z.length : Int)) H2 := q H2 (s1.trans s2)
      rw [Bool.true_and] at h2
      cases hb : bnd z.cps.toList with
      | true =>
        rw [hb] at h2
        exact iteT h2
      | false =>
        rw [hb] at h2
        exact iteF ⟨_, rfl, _, _, rfl, ⟨big hz, rfl⟩, h2⟩
theorem c__law_told (T : Tx K mg) (Z : ProgF P) : Cl P w K mg base CX0 11 "_law_told" ["_law_row"] sp_told5 := by
  have cx_read_pattern := fun (T : Tx K mg) => cx_read_pattern (P := P) (w := w) (base := base) T Z
  refine Cl.mk0 T.d__law_told sc__law_told (fun vs H Q E h => ?_) (fun f cdv A outer s H vs Q E hr h => ?_)
  · obtain ⟨v, rfl, _⟩ := h
    rfl
  obtain ⟨v, rfl, h⟩ := h
  have l2 : 2 ≤ sizeLine := by decide
  refine ⟨_, (pss_cons (ps_asg (pe_tup (pa_cons pe_non (pa_cons pe_non pa_nil))) (pg_tup rfl (pgs_cons (pg_name (i := 1) sc__law_told.nd rfl (Or.inl rfl)) (pgs_cons (pg_name (i := 2) sc__law_told.nd rfl (Or.inl rfl)) pgs_nil))))
    (Evl.pss_cut (ps_try_val (i := 3) rfl rfl rfl sc__law_told.nd rfl rfl ⟨rfl, by decide, .inl T.e_MatchError.g⟩ (fun W pn xe tk _ => (pss_one (ps_set (i := 1) sc__law_told.nd rfl (Or.inl rfl) (pe_clS (cx_read_pattern T) hr (by omega) rfl (fun σ => passAt tk σ) (pa_cons (pv 0) pa_nil)))))
      (fun a oe cls d pn _ _ => (pss_one (ps_set (i := 2) sc__law_told.nd rfl (Or.inl rfl) (pv 3)))))
    (pss_cons (ps_if (pt_cmpR op_isN (pv 2) pe_non (nomark _))
      (pss_one (ps_ret (pv 1)))
      pss_nil)
    (pss_cons (ps_if (PW.pt (pw_or (pt_not (pt_val (pe_callB (id := "isinstance") (r := fun xs H Q => rIsK K xs H Q ∨ rIsKd K xs H Q) (CallR.either call_isK call_isKd) (by rfl) T.z_isinstance (by decide +kernel) (pa_cons (pv 2) (pa_cons (pe_glob (v := .ref (clsA mg "NoText")) (by rfl) T.gi_NoText rfl) pa_nil))))) (pw_or (pt_val (pe_callB (id := "isinstance") (r := rIsKdT K) call_isKdT (by rfl) T.z_isinstance (by decide +kernel) (pa_cons (pv 2) (pa_cons (pe_tup (pa_cons (pe_glob (v := .ref (clsA mg "BadPattern")) (by rfl) T.g_BadPattern rfl) (pa_cons (pe_glob (v := .ref (clsA mg "BadTerm")) (by rfl) T.g_BadTerm rfl) pa_nil))) pa_nil)))) (pw_or1 (pt_not (pt_val (pe_callB (id := "isinstance") (r := fun xs H Q => rIsK K xs H Q ∨ rIsKd K xs H Q) (CallR.either call_isK call_isKd) (by rfl) T.z_isinstance (by decide +kernel) (pa_cons (pv 2) (pa_cons (pe_bltn (v := .ty "ValueError") (u := .type "ValueError") (by rfl) T.z_ValueError (by decide +kernel) rfl) pa_nil)))))))))
      (pss_one (ps_ret pe_str))
      pss_nil)
    (pss_one (ps_ret (pe_kf T.x_NoText T.i_NoText.nof (pv 2)))))))), ?_⟩
  refine ⟨l2, fun p0 hp0 => ?_⟩
  have s0 := same_new (o := .tup [.non, .non]) hp0
  refine ⟨p0, [.non, .non], rfl, SqT.of upd_same, rfl, _, _, rfl, _, _, rfl, rfl, ?_⟩
  refine ⟨fun σ' H' => ∃ fo er, σ' = [some v, some fo, some er, none] ∧ ((er = .non ∧ Q fo H') ∨ ∃ a dd i y, er = .ref a ∧ H' a = some (ExK (noText mg) (some dd) a) ∧ H' dd = some (.xd [("at", .int i), ("word", .str y)]) ∧ ∀ H2, Same H' H2 → Q (.int i) H2), ?_, fun σ1 H1 e1 => ?_⟩
  · have keep : ∀ (i : Int) (y : Str) (d : Addr) (H' : Hp), Same (upd H p0 (.tup [.non, .non])) H' → H' d = some (.xd [("at", .int i), ("word", .str y)]) → (∀ H2, Same H H2 → Q (.int i) H2) → ∀ a, H' a = none → (upd H' a (ExK (noText mg) (some d) a)) a = some (ExK (noText mg) (some d) a) ∧ (upd H' a (ExK (noText mg) (some d) a)) d = some (.xd [("at", .int i), ("word", .str y)]) ∧ ∀ H2, Same (upd H' a (ExK (noText mg) (some d) a)) H2 → Q (.int i) H2 :=
      fun i y d H' s' hd q a ha => ⟨upd_same, (same_new ha _) _ _ hd, fun H2 s2 => q H2 ((s0.trans s').trans ((same_new ha _).trans s2))⟩
    rcases h with ⟨t, r, ns, q⟩ | ⟨z, rfl, hz, q1, q2, q3⟩
    · refine ⟨_, rfl, v, rfl, .inl ⟨t, r.wk (Wk.same s0), ns, fun d yy H' s' hd => ⟨exm_kitG T.e_MatchError T.k_NoText_MatchError, fun a ha => ⟨_, rfl, ?_⟩⟩⟩⟩
      obtain ⟨x1, x2, x3⟩ := keep 0 yy d H' s' hd q a ha
      exact ⟨_, _, rfl, .inr ⟨a, d, 0, yy, rfl, x1, x2, x3⟩⟩
    · refine ⟨_, rfl, _, rfl, .inr ⟨z, rfl, hz, fun e he d yy H' s' hd => ⟨exm_kitG T.e_MatchError T.k_NoText_MatchError, fun a ha => ⟨_, rfl, ?_⟩⟩, fun hn t sh ts hw d yy H' s' hd => ⟨exm_kitG T.e_MatchError T.k_NoText_MatchError, fun a ha => ⟨_, rfl, ?_⟩⟩, fun hn v' t H' s' rv hw ts => ⟨v', .non, rfl, .inl ⟨rfl, q3 hn v' t H' (s0.trans s') rv hw ts⟩⟩⟩⟩
      · obtain ⟨x1, x2, x3⟩ := keep (e : Nat) yy d H' s' hd (q1 e he) a ha
        exact ⟨_, _, rfl, .inr ⟨a, d, _, yy, rfl, x1, x2, x3⟩⟩
      · obtain ⟨x1, x2, x3⟩ := keep (z.length : Nat) yy d H' s' hd (q2 hn t sh ts hw) a ha
        exact ⟨_, _, rfl, .inr ⟨a, d, _, yy, rfl, x1, x2, x3⟩⟩
  obtain ⟨fo, er, rfl, e⟩ := e1
  rcases e with ⟨rfl, ho⟩ | ⟨a, dd, i, yy, rfl, ha, hd, q⟩
  · refine ⟨_, rfl, rfl, _, rfl, ?_⟩
    rw [decide_eq_true rfl]
    exact iteT ⟨_, rfl, ho⟩
  refine ⟨_, rfl, rfl, _, rfl, ?_⟩
  rw [decide_eq_false (fun h => by cases h)]
  refine iteF ⟨_, rfl, .inr ⟨a, _, dd, _, _, _, _, rfl, T.x_NoText, ha, hd, (fun u h => h), T.k_NoText_NoText, _, rfl, iteF ⟨_, rfl, l2, fun p hp => ?_⟩⟩⟩
  have sp := same_new (o := .tup [V.ref (clsA mg "BadPattern"), V.ref (clsA mg "BadTerm")]) hp
  refine ⟨a, _, dd, p, _, _, _, _, rfl, T.x_NoText, sp _ _ ha, sp _ _ hd, upd_same, kit_none2 T.k_NoText_BadPattern T.k_NoText_BadTerm, _, rfl, iteF ⟨_, rfl, .inr ⟨a, _, dd, _, _, _, _, rfl, T.x_NoText, sp _ _ ha, sp _ _ hd, (fun u h => h), T.k_NoText_ValueError, _, rfl, iteF ⟨_, rfl, a, dd, _, _, rfl, sp _ _ ha, sp _ _ hd, rfl, q _ sp⟩⟩⟩⟩
theorem c__law_spoilt (T : Tx K mg) : Cl P w K mg base CX0 3 "_law_spoilt" ["_law_draw", "_law_row"] sp_spoilt := by
  refine Cl.mk0 T.d__law_spoilt sc__law_spoilt (fun vs H Q E h => ?_) (fun f cdv A outer s H vs Q E hr h => ?_)
  · obtain ⟨d, c, z, rfl, _⟩ := h
    rfl
  obtain ⟨d, c, z, rfl, hz, hD, q⟩ := h
  refine ⟨_, (pss_cons (ps_par (i := 2) (j := 3) (by rfl) sc__law_spoilt.nd rfl rfl (by decide) rfl rfl (pa_cons (pe_cl (c__law_take T) hr (by omega) rfl (pa_cons (pv 0) (pa_cons (pe_op op_add (pe_callB call_len (by rfl) T.z_len (by decide +kernel) (pa_cons (pv 1) pa_nil)) pe_int) pa_nil))) (pa_cons (pe_cl (c__law_take T) hr (by omega) rfl (pa_cons (pv 0) (pa_cons pe_int pa_nil))) pa_nil)) (by rfl))
    (pss_cons (ps_set (i := 4) sc__law_spoilt.nd rfl (Or.inl rfl) (pe_lst (pa_cons pe_str (pa_cons pe_str (pa_cons pe_str (pa_cons pe_str (pa_cons pe_str (pa_cons pe_str (pa_cons pe_str (pa_cons pe_str (pa_cons pe_str (pa_cons pe_str (pa_cons pe_str (pa_cons pe_str (pa_cons pe_str (pa_cons pe_str (pa_cons pe_str (pa_cons pe_str (pa_cons pe_str (pa_cons pe_str pa_nil))))))))))))))))))))
    (pss_cons (ps_set (i := 4) sc__law_spoilt.nd rfl (Or.inl rfl) (pe_op op_cat (pv 4) (pe_lst (pa_cons pe_str (pa_cons pe_str pa_nil)))))
    (pss_cons (ps_if (pt_cmpR op_eq (pv 3) pe_int (nomark _))
      (pss_one (ps_ret (pe_op op_add_str (pe_slice sl_str (pv 1) po_no (po_some (pv 2))) (pe_slice sl_str (pv 1) (po_some (pe_op op_add (pv 2) pe_int)) po_no))))
      pss_nil)
    (pss_one (ps_ret (pe_op op_add_str (pe_op op_add_str (pe_slice sl_str (pv 1) po_no (po_some (pv 2))) (pe_cl (c__law_pick T) hr (by omega) rfl (pa_cons (pv 0) (pa_cons (pv 4) pa_nil)))) (pe_slice sl_str (pv 1) (po_some (pe_op op_sub (pe_op op_add (pv 2) (pv 3)) pe_int)) po_no)))))))), ?_⟩
  have sl : (200000 : Nat) ≤ sizeLine := by decide
  refine ⟨_, rfl, _, rfl, _, _, rfl, ⟨by omega, rfl⟩, _, _, rfl, rfl, d, c, (z.length : Int) + 1, rfl, by omega, by omega, hD, fun at' H1 a0 a1 u1 => ⟨_, rfl, d, c, 3, rfl, by decide, by decide, u1.dr, fun wy H2 w0 w1 u2 => ⟨_, _, rfl, ?_⟩⟩⟩
  have lx : ∀ n : Nat, n ≤ 100 → n ≤ sizeLine := fun n hn => Nat.le_trans hn (by decide)
  have hbz : z.length ≤ sizeLine := by omega
  refine ⟨lx 18 (by decide), fun p1 hp1 => ⟨_, rfl, lx 2 (by decide), fun p2 hp2 => ⟨p1, p2, _, _, rfl, rfl, (same_new (o := .lst (([("\n" : Str), "\t"] : List Str).map V.str)) hp2) p1 _ upd_same, upd_same, lx 20 (by decide), fun L hL => ?_⟩⟩⟩
  have t1 := same_new (o := .lst (([("a" : Str), "z", "(", ")", ",", "?", " ", "?x", "f(", ",a", "A", "0", "-", "abcdefgh", "?abcd", "()", ")a", "a b"] : List Str).map V.str)) hp1
  have t2 := same_new (o := .lst (([("\n" : Str), "\t"] : List Str).map V.str)) hp2
  have t3 := same_new (o := .lst (([("a" : Str), "z", "(", ")", ",", "?", " ", "?x", "f(", ",a", "A", "0", "-", "abcdefgh", "?abcd", "()", ")a", "a b"] : List Str).map V.str ++ ([("\n" : Str), "\t"] : List Str).map V.str)) hL
  have u3 := (u1.trans u2).then (t1.trans (t2.trans t3))
  obtain ⟨n1, n2⟩ := ((u1.trans u2).then (t1.trans t2)).dr.new hL
  refine ⟨_, rfl, rfl, _, rfl, ite2 (fun _ => ?_) (fun _ => ?_)⟩
  · refine ⟨_, rfl, _, rfl, _, rfl, _, rfl, hbz, _, rfl, _, rfl, _, _, rfl, rfl, _, rfl, _, rfl, hbz, _, _, rfl, rfl, ?_, ?_⟩
    · have := cutS_len z none (some at')
      have := cutS_len z (some (at' + 1)) none
      omega
    · refine q _ _ ?_ u3
      rw [app_len]
      have := cutS_len z none (some at')
      have := cutS_len z (some (at' + 1)) none
      omega
  · refine ⟨_, rfl, _, rfl, _, rfl, _, rfl, hbz, _, rfl, _, rfl, d, c, L, _, rfl, u3.dr, upd_same, n1, n2, by show 0 < 20; decide, by show 20 ≤ 1000; decide, fun v H' hv u4 => ?_⟩
    obtain ⟨y, rfl, hy⟩ : ∃ y : Str, v = .str y ∧ y.length ≤ 8 := by
      have key : ∀ x ∈ [("a" : Str), "z", "(", ")", ",", "?", " ", "?x", "f(", ",a", "A", "0", "-", "abcdefgh", "?abcd", "()", ")a", "a b", "\n", "\t"], x.length ≤ 8 := by decide +kernel
      have hv : v ∈ ([("a" : Str), "z", "(", ")", ",", "?", " ", "?x", "f(", ",a", "A", "0", "-", "abcdefgh", "?abcd", "()", ")a", "a b", "\n", "\t"] : List Str).map V.str := hv
      obtain ⟨y, hy, rfl⟩ := List.mem_map.mp hv
      exact ⟨y, rfl, key y hy⟩
    have c1 := cutS_len z none (some at')
    refine ⟨_, _, rfl, rfl, by omega, _, rfl, _, rfl, _, rfl, _, _, rfl, rfl, _, _, rfl, rfl, _, rfl, _, rfl, hbz, _, _, rfl, rfl, ?_, ?_⟩
    · rw [app_len]
      have := cutS_len z (some (at' + wy - 1)) none
      omega
    · refine q _ _ ?_ (u3.trans u4)
      rw [app_len, app_len]
      have := cutS_len z (some (at' + wy - 1)) none
      omega
end
end Kt
namespace Kt
open PySem PySem.Spec PyProof.Rows L2
/-- "f(" nine hundred times -/
def manyF : Str := ⟨((List.replicate 900 ([102, 40] : List Nat)).flatten).toArray⟩
theorem f_is : ("f(" : Str) = ⟨#[102, 40]⟩ := by decide +kernel
theorem fl_len : ∀ n : Nat, ((List.replicate n ([102, 40] : List Nat)).flatten).length = 2 * n
  | 0 => rfl
  | n + 1 => by
    rw [List.replicate_succ, List.flatten_cons, List.length_append, fl_len n]
    show 2 + 2 * n = _
    omega
theorem op_fs {X : Cx} : OpR X (binaryOp .Mult) (fun x y H Q => x = .str "f(" ∧ y = .int 900 ∧ Q (.str manyF) H) := by
  intro pins s σ H x y v u Q I rx ry h
  obtain ⟨rfl, rfl, q⟩ := h
  obtain ⟨t, rfl⟩ := rx
  obtain ⟨t', rfl⟩ := ry
  have fin : ∀ (z : Str) (t2 : Tok) (tk : Nat), z.cps.toList = (List.replicate 900 ([102, 40] : List Nat)).flatten → EP X pins σ Q (.str z t2) { s with toks := tk } := fun z t2 tk e => by
    have : z = manyF := str_ext e
    subst this
    exact ⟨.str _, H, I.tok _, ⟨t2, rfl⟩, q⟩
  have two : ("f(" : Str).length = 2 := by decide
  have e : ∀ (n : Nat) (acc : Array Nat), ((List.replicate n ("f(" : Str).cps).foldl (· ++ ·) acc).toList = acc.toList ++ (List.replicate n ([102, 40] : List Nat)).flatten := by
    intro n
    induction n with
    | zero => exact fun acc => (List.append_nil _).symm
    | succ n ih =>
      intro acc
      rw [List.replicate_succ, List.foldl_cons, ih, Array.toList_append, List.append_assoc, List.replicate_succ, List.flatten_cons, f_is]
  refine PySem.P.mul_str ?_ (fun h1 _ => ?_) (fun h1 _ => ?_) ?_
  · decide
  · rw [two]
    decide
  · rw [two]
    unfold Builtin.Str.tooLong
    exact decide_eq_false (by rw [sizeLine_eq]; decide)
  · rw [if_neg (by decide), if_neg (by rw [two]; decide)]
    refine ⟨?_, fin _ _ _ ?_⟩
    · show ((List.replicate (900 : Int).toNat ("f(" : Str).cps).foldl (· ++ ·) #[]).size ≤ _
      rw [← Array.length_toList, e]
      show (([] : List Nat) ++ (List.replicate 900 ([102, 40] : List Nat)).flatten).length ≤ _
      rw [List.nil_append, fl_len]
      decide
    · show ((List.replicate (900 : Int).toNat ("f(" : Str).cps).foldl (· ++ ·) #[]).toList = _
      rw [e]
      rfl
theorem manyF_len : manyF.length = 1800 := by
  rw [len_list]
  show ((List.replicate 900 ([102, 40] : List Nat)).flatten).length = 1800
  rw [fl_len]
theorem stp_low {D : List Nat} {c : Nat} (h : lowc c = true) : stp .beg D c = some (.name 1, D) := if_pos h
theorem low102 : lowc 102 = true := by decide +kernel
theorem run_fs {s : List Nat} : ∀ (n : Nat) (D : List Nat) (k : Nat), run .beg D ((List.replicate n ([102, 40] : List Nat)).flatten ++ s) k = run .beg (List.replicate n 1 ++ D) s (k + 2 * n)
  | 0, _, _ => rfl
  | n + 1, D, k => by
    rw [List.replicate_succ, List.flatten_cons]
    show run .beg D (102 :: 40 :: ((List.replicate n ([102, 40] : List Nat)).flatten ++ s)) k = _
    have h1 : stp .beg D 102 = some (.name 1, D) := stp_low low102
    have h2 : stp (.name 1) D 40 = some (.beg, 1 :: D) := by
      rw [stp_out rfl low40.2.1]
      unfold tailS
      rw [if_neg (by decide), if_pos ⟨rfl, rfl⟩]
    rw [run_go h1, run_go h2, run_fs n (1 :: D) (k + 1 + 1)]
    rw [show k + 1 + 1 + 2 * n = k + 2 * (n + 1) by omega]
    have e : List.replicate n 1 ++ 1 :: D = List.replicate (n + 1) 1 ++ D := by
      rw [List.replicate_succ', List.append_assoc]
      rfl
    rw [e]
theorem pos_f1 : (run .beg [] manyF.cps.toList 0).pos manyF.length = some 1800 := by
  have := run_fs (s := []) 900 [] 0
  rw [List.append_nil] at this
  have e : manyF.cps.toList = (List.replicate 900 ([102, 40] : List Nat)).flatten := rfl
  rw [e, this, run_nil, manyF_len]
  rfl
theorem pos_f2 : (run .beg [] (manyF ++ (")" : Str)).cps.toList 0).pos (manyF ++ (")" : Str)).length = some 1800 := by
  have e : (manyF ++ (")" : Str)).cps.toList = (List.replicate 900 ([102, 40] : List Nat)).flatten ++ [41] := by
    rw [app_list, shut_is]
    rfl
  have h : stp .beg (List.replicate 900 1 ++ []) 41 = none := by
    rw [stp_beg low40.2.2.1, if_neg (by decide), if_neg (by decide)]
  rw [e, run_fs, run_bad h]
  rfl
end Kt
namespace Kt
open PySem PySem.Spec PyProof.Rows L2
/-! ### the law -/
def caph : Nat → Int
  | 0 => 1
  | n + 1 => 1 + 3 * caph n
theorem caph_pos : ∀ n, 1 ≤ caph n
  | 0 => by decide
  | n + 1 => by
    have := caph_pos n
    show 1 ≤ 1 + 3 * caph n
    omega
theorem sizeL_ub {m : Int} (m0 : 0 ≤ m) : ∀ {n : Nat} {l : List Th}, l.length ≤ n → (∀ t ∈ l, t.size ≤ m) → sizeL l ≤ (n : Int) * m
  | n, [], _, _ => Int.mul_nonneg (Int.natCast_nonneg n) m0
  | 0, p :: ps, h, _ => by cases h
  | n + 1, p :: ps, hl, h => by
    have h1 := h p (List.mem_cons_self ..)
    have h2 := sizeL_ub m0 (n := n) (l := ps) (by rw [List.length_cons] at hl; omega) fun t ht => h t (List.mem_cons_of_mem _ ht)
    show p.size + sizeL ps ≤ ((n + 1 : Nat) : Int) * m
    rw [Int.natCast_add, Int.add_mul]
    show p.size + sizeL ps ≤ (n : Int) * m + 1 * m
    omega
theorem size_hgt {b : Bool} : ∀ (n : Nat) (t : Th), t.shape b = true → t.hgt ≤ n → t.size ≤ caph n
  | n, .str z, _, _ => caph_pos n
  | 0, .tup l, hs, hd => by
    obtain ⟨z, ps, rfl, h4, h8, hall⟩ := shape_tup hs
    have hd : 1 + max 0 (hgtL ps) ≤ 0 := hd
    omega
  | n + 1, .tup l, hs, hd => by
    obtain ⟨z, ps, rfl, h4, h8, hall⟩ := shape_tup hs
    have hd : 1 + max 0 (hgtL ps) ≤ n + 1 := hd
    have := sizeL_ub (m := caph n) (by have := caph_pos n; omega) (n := 3) (l := ps) (by omega) fun t ht => size_hgt n t (hall t ht) (hgtL_le.mp (by omega) t ht)
    show 1 + sizeL ps ≤ 1 + 3 * caph n
    have e : ((3 : Nat) : Int) = 3 := rfl
    rw [e] at this
    omega
  | _, .non, h, _ | _, .bl _, h, _ | _, .int _, h, _ | _, .ls, h, _ | _, .dc, h, _ => by cases h
theorem kit_ts {K : PySem.W.Frag} {t : Th} (h : t.isTup = true ∨ t.isStr = true) : PySem.W.kitAny K (.type t.ty) [.type "tuple", .type "str"] = some true := by
  unfold PySem.W.kitAny
  rw [ktup t]
  rcases h with h | h
  · rw [h]
  · cases ht : t.isTup with
    | true => rfl
    | false =>
      show PySem.W.kitAny K (.type t.ty) [.type "str"] = some true
      unfold PySem.W.kitAny
      rw [kstr t, h]
theorem shape_ts {b : Bool} {t : Th} (h : t.shape b = true) : t.isTup = true ∨ t.isStr = true := by
  cases t with
  | tup l => exact .inl rfl
  | str z => exact .inr rfl
  | _ => cases h
theorem kint {K : PySem.W.Frag} : PySem.W.kitOne K (.type "int") (.type "int") = some true := kit_ty (show kitB "int" "int" = some true by decide +kernel)
theorem ne_int {K : PySem.W.Frag} {H : Hp} {i : Int} {Q : VK} (q : Q (.bl false) H) : rNeD K (.int i) (.int i) H Q := by
  refine ⟨.int i, .int i, .int i, .int i, rfl, rfl, ?_⟩
  have e : PyData.eqv (.int i) (.int i) = true := by
    show (i == i) = true
    exact beq_self_eq_true i
  rw [e]
  exact q
/-- one behind the other, what is due and what is told -/
def Both (H : Hp) (z : Str) (due told : V) : Prop := due = dueV z ∧ ((∃ i : Int, due = .int i ∧ told = .int i) ∨ (due = .non ∧ ∃ t, within true t = true ∧ TS t z.cps.toList ∧ Rep H told t))
def sp_law (K : PySem.W.Frag) : Sp := fun vs H Q _ => ∃ (a : Addr) (ns : List Int), vs = [.ref a] ∧ SqL K H a (ns.map V.int) ∧ ns.length ≤ 63 ∧ ∀ H', Q (.bl true) H'
theorem dueV_pos {z : Str} {e : Nat} (h : (run .beg [] z.cps.toList 0).pos z.length = some e) : dueV z = .int (e : Int) := by
  unfold dueV
  cases hr : run .beg [] z.cps.toList 0 with
  | bad k =>
    rw [hr] at h
    rw [Option.some.inj (show some k = some e from h)]
  | fin b =>
    rw [hr] at h
    cases b with
    | true => cases h
    | false =>
      rw [← Option.some.inj (show some z.length = some e from h)]
      rfl
theorem dueV_none {z : Str} (h : (run .beg [] z.cps.toList 0).pos z.length = none) : dueV z = if bnd z.cps.toList = true then .non else .int (z.length : Int) := by
  unfold dueV
  cases hr : run .beg [] z.cps.toList 0 with
  | bad k =>
    rw [hr] at h
    cases h
  | fin b =>
    rw [hr] at h
    cases b with
    | true => rfl
    | false => cases h
theorem within_hgt {b : Bool} {t : Th} (h : within b t = true) : t.hgt < 6 := by
  obtain ⟨h1, h2, _⟩ := within_iff.mp h
  have := hgt_dep t h1
  omega
end Kt
namespace Kt
open PySem PySem.Spec PyProof.Rows L2
section
variable {P : Program} {w : World} {K : PySem.W.Frag} {mg : Str → Option Value} {base : Heap}
theorem c_law (T : Tx K mg) (Z : ProgF P) : Cl P w K mg base CX0 16 "law" ["_law_script"] (sp_law K) := by
  have c__law_pattern := fun (T : Tx K mg) => c__law_pattern_n (P := P) (w := w) (base := base) T 6
  have c__law_written := fun (T : Tx K mg) => c__law_written (P := P) (w := w) (base := base) T 7
  have c__law_told := fun (T : Tx K mg) => c__law_told (P := P) (w := w) (base := base) T Z
  refine Cl.mk0 T.d_law sc_law (fun vs H Q E h => ?_) (fun f cdv A outer s H vs Q E hr h => ?_)
  · obtain ⟨a, ns, rfl, _⟩ := h
    rfl
  obtain ⟨a, ns, rfl, hS, hl, q⟩ := h
  refine ⟨_, (pss_cons (ps_set (i := 1) sc_law.nd rfl (Or.inl rfl) (pe_cl (c__law_begin T) hr (by omega) rfl (pa_cons (pv 0) pa_nil)))
    (pss_cons (ps_for PassesOwn.never rfl (pi_range1 (by rfl) T.z_range (pa_cons pe_int pa_nil)) (pg_name (i := 2) sc_law.nd rfl (Or.inl rfl))
      (pssg_set (i := 3) sc_law.nd rfl (Or.inl rfl) (peg_cl (c__law_pattern T) hr (by omega) rfl (pag_skip (pv 1) (pag_head (peg_bin op_add peg_int (pe_cl (c__law_take T) hr (by omega) rfl (pa_cons (pv 1) (pa_cons pe_int pa_nil)))) (pa_cons (pe_cmpR op_eq (pe_cl (c__law_take T) hr (by omega) rfl (pa_cons (pv 1) (pa_cons pe_int pa_nil))) pe_int (nomark _)) pa_nil))))
      (psst_cons (PST.of (ps_set (i := 4) sc_law.nd rfl (Or.inl rfl) (pe_cl (c__law_written T) hr (by omega) rfl (pa_cons (pv 3) pa_nil))))
      (psst_cons (PST.of (ps_for PassesOwn.never rfl (pi_range1 (by rfl) T.z_range (pa_cons (pe_op op_modN (pe_cl (c__law_take T) hr (by omega) rfl (pa_cons (pv 1) (pa_cons pe_int pa_nil))) pe_int) pa_nil)) (pg_name (i := 5) sc_law.nd rfl (Or.inl rfl))
        (pss_one (ps_set (i := 4) sc_law.nd rfl (Or.inl rfl) (pe_cl (c__law_spoilt T) hr (by omega) rfl (pa_cons (pv 1) (pa_cons (pv 4) pa_nil)))))))
      (psst_cons (PST.of (ps_par (i := 6) (j := 7) (by rfl) sc_law.nd rfl rfl (by decide) rfl rfl (pa_cons (pe_cl (c__law_due T) hr (by omega) rfl (pa_cons (pv 4) pa_nil)) (pa_cons (pe_cl (c__law_told T) hr (by omega) rfl (pa_cons (pv 4) pa_nil)) pa_nil)) (by rfl)))
      (psst_cons (PST.of (ps_if (PW.pt (pw_and (pt_cmpR op_notN (pv 6) pe_non (nomark _)) (pw_and1 (PW.pt (pw_or (pt_cmpR (op_neD hr.units) (pv 7) (pv 6) (nomark _)) (pw_or1 (pt_not (pt_val (pe_callB (id := "isinstance") (r := rIsi K) call_isi (by rfl) T.z_isinstance (by decide +kernel) (pa_cons (pv 7) (pa_cons (pe_bltn (v := .ty "int") (u := .type "int") (by rfl) T.z_int (by decide +kernel) rfl) pa_nil)))))))))))
        (pss_one (ps_ret pe_bl))
        pss_nil))
      (psst_cons (PST.of (ps_if (PW.pt (pw_and (pt_cmpR op_isN (pv 6) pe_non (nomark _)) (pw_and1 (pt_not (pt_val (pe_callB (id := "isinstance") (r := rIsiT K) call_isiT (by rfl) T.z_isinstance (by decide +kernel) (pa_cons (pv 7) (pa_cons (pe_tup (pa_cons (pe_bltn (v := .ty "tuple") (u := .type "tuple") (by rfl) T.z_tuple (by decide +kernel) rfl) (pa_cons (pe_bltn (v := .ty "str") (u := .type "str") (by rfl) T.z_str (by decide +kernel) rfl) pa_nil))) pa_nil))))))))
        (pss_one (ps_ret pe_bl))
        pss_nil))
      (psst_cons (pst_if (ptt_and2 (pt_cmpR op_isN (pv 6) pe_non (nomark _)) (ptt_cmpR op_ne (pe_cl (c__law_written T) hr (by omega) rfl (pa_cons (pv 7) pa_nil)) (pet_rep (pet_of (pv 4)) (by decide +kernel)) (nomark _)))
        (pss_one (ps_ret pe_bl))
        pss_nil) (PSsT.of pss_nil)))))))))
    (pss_cons (ps_set (i := 8) sc_law.nd rfl (Or.inl rfl) (pe_cl (c__law_pick T) hr (by omega) rfl (pa_cons (pv 1) (pa_cons (pe_lst (pa_cons pe_non (pa_cons pe_int (pa_cons pe_bl (pa_cons (pe_tup (pa_cons pe_str pa_nil)) (pa_cons (pe_lst (pa_cons pe_str pa_nil)) (pa_cons pe_dnewK (pa_cons (pe_tup pa_nil) (pa_cons pe_int pa_nil))))))))) pa_nil))))
    (pss_cons (ps_if (pt_cmpR op_ne (pe_cl (c__law_told T) hr (by omega) rfl (pa_cons (pv 8) pa_nil)) pe_int (nomark _))
      (pss_one (ps_ret pe_bl))
      pss_nil)
    (pss_one (ps_ret (pe_and (pe_cmpR op_eq (pe_cl (c__law_told T) hr (by omega) rfl (pa_cons (pe_op op_fs pe_str pe_int) pa_nil)) pe_int (nomark _)) (pe_one (pe_cmpR op_eq (pe_cl (c__law_told T) hr (by omega) rfl (pa_cons (pe_op op_add_str (pe_op op_fs pe_str pe_int) pe_str) pa_nil)) pe_int (nomark _)))))))))), ?_⟩
  have lx : ∀ n : Nat, n ≤ 100 → n ≤ sizeLine := fun n hn => Nat.le_trans hn (by decide)
  refine ⟨_, rfl, a, ns, rfl, hS, hl, fun d c H0 s0 hD0 => ⟨8, rfl, by decide, by decide, ?_⟩⟩
  refine for_range (lo := 0) (n := 8) (fun i σ' H' => ∃ y2 y3 y4 y5 y6 y7, σ' = [some (.ref a), some (.ref d), y2, y3, y4, y5, y6, y7, none] ∧ DU d c H0 H')
    ⟨none, none, none, none, none, none, rfl, DU.refl hD0⟩ (fun i σ H1 hi h' => ?_) (fun σ H1 h' => ?_)
  · obtain ⟨y2, y3, y4, y5, y6, y7, rfl, u1⟩ := h'
    refine ⟨_, rfl, _, rfl, d, c, 6, rfl, by decide, by decide, u1.dr, fun k H3 k0 k1 u3 => ⟨_, _, rfl, rfl, _, rfl, d, c, 2, rfl, by decide, by decide, u3.dr, fun ho H4 o0 o1 u4 => ?_⟩⟩
    refine ⟨rfl, ?_⟩
    obtain ⟨k, rfl⟩ : ∃ k' : Nat, k = (k' : Int) := ⟨k.toNat, by omega⟩
    refine ⟨d, c, 1 + k, _, rfl, by omega, by omega, u4.dr, fun v t H5 rv sh hg u5 => ?_⟩
    have szt : t.size ≤ 1093 := size_hgt 6 t sh (by omega)
    refine ⟨_, rfl, v, t, _, rfl, by omega, sh, by omega, rv, fun H6 s6 => ?_⟩
    have u16 := (((u1.trans u3).trans u4).trans u5).then s6
    have wl := wl_bound t sh
    have wl2 : t.wr.length ≤ 17488 := by
      rw [wr_len]
      omega
    generalize t.wr = z0 at wl2
    obtain ⟨I, hI⟩ : ∃ I : V, I = .int (0 + (i : Nat)) := ⟨_, rfl⟩
    rw [← hI]
    refine ⟨_, rfl, d, c, 4, rfl, by decide, by decide, u16.dr, fun r H7 r0 r1 u7 => ?_⟩
    obtain ⟨m, hm, hm2⟩ : ∃ m : Nat, r.fmod 3 = (m : Int) ∧ m ≤ 2 := by
      have hr : r = 0 ∨ r = 1 ∨ r = 2 ∨ r = 3 := by omega
      rcases hr with rfl | rfl | rfl | rfl
      · exact ⟨0, rfl, by decide⟩
      · exact ⟨1, rfl, by decide⟩
      · exact ⟨2, rfl, by decide⟩
      · exact ⟨0, rfl, by decide⟩
    have u17 := u16.trans u7
    refine ⟨_, _, rfl, rfl, (by show (3 : Int) ≠ 0; decide), r.fmod 3, rfl, by omega, by omega, ?_⟩
    have em : (r.fmod 3).toNat = m := by omega
    rw [em]
    refine for_range (lo := 0) (n := m) (fun j σ' H' => ∃ (zz : Str) (y5 : Option V), σ' = [some (.ref a), some (.ref d), some I, some v, some (.str zz), y5, y6, y7, none] ∧ DU d c H0 H' ∧ zz.length + 8 ≤ 17496 * 2 ^ j)
      ⟨z0, y5, rfl, u17, by omega⟩ (fun j σ H8 hj h8 => ?_) (fun σ H8 h8 => ?_)
    · obtain ⟨zz, y5', rfl, u8, hzz⟩ := h8
      have l5 : zz.length ≤ 50000 := by
        have hj2 : j = 0 ∨ j = 1 := by omega
        rcases hj2 with rfl | rfl <;> omega
      refine ⟨_, rfl, _, rfl, d, c, zz, rfl, l5, u8.dr, fun z' H9 hl' u9 => ⟨z', _, rfl, u8.trans u9, ?_⟩⟩
      rw [Nat.pow_succ]
      omega
    · obtain ⟨zz, y5', rfl, u8, hzz⟩ := h8
      have hz : zz.length ≤ 100000 := by
        have hm3 : m = 0 ∨ m = 1 ∨ m = 2 := by omega
        rcases hm3 with rfl | rfl | rfl <;> omega
      refine ⟨_, rfl, zz, rfl, hz, fun H9 s9 => ⟨_, rfl, _, rfl, .inr ⟨zz, rfl, hz, fun e he H10 s10 => ?_, fun hn t' sh' ts' hw' H10 s10 => ?_, fun hn v' t' H10 s10 rv' hw' ts' => ?_⟩⟩⟩
      · have u10 := (u8.then s9).then s10
        rw [dueV_pos he]
        refine ⟨_, _, rfl, _, rfl, rfl, _, rfl, ifT (by rw [decide_eq_false (fun h => by cases h)]; rfl) ⟨_, rfl, _, rfl, ne_int ⟨_, rfl, iteF ⟨_, rfl, _, _, _, _, _, rfl, .ty _, .base (.int _), kint, _, rfl, iteF ?_⟩⟩⟩⟩
        exact ⟨_, rfl, rfl, _, rfl, ifF (decide_eq_false (fun h => by cases h)) (iteF ⟨_, rfl, rfl, _, rfl, ifF (decide_eq_false (fun h => by cases h)) (iteF ⟨_, _, _, _, _, _, rfl, u10⟩)⟩)⟩
      · have u10 := (u8.then s9).then s10
        have hb : bnd zz.cps.toList = false := (bnd_within sh' ts').trans hw'
        rw [dueV_none hn, hb]
        refine ⟨_, _, rfl, _, rfl, rfl, _, rfl, ifT (by rw [decide_eq_false (fun h => by cases h)]; rfl) ⟨_, rfl, _, rfl, ne_int ⟨_, rfl, iteF ⟨_, rfl, _, _, _, _, _, rfl, .ty _, .base (.int _), kint, _, rfl, iteF ?_⟩⟩⟩⟩
        exact ⟨_, rfl, rfl, _, rfl, ifF (decide_eq_false (fun h => by cases h)) (iteF ⟨_, rfl, rfl, _, rfl, ifF (decide_eq_false (fun h => by cases h)) (iteF ⟨_, _, _, _, _, _, rfl, u10⟩)⟩)⟩
      · have u10 := (u8.then s9).then s10
        have sh' := (within_iff.mp hw').1
        have hb : bnd zz.cps.toList = true := (bnd_within sh' ts').trans hw'
        have hsz := (within_iff.mp hw').2.2
        rw [dueV_none hn, hb]
        refine ⟨_, _, rfl, _, rfl, rfl, _, rfl, ifF (by rw [decide_eq_true (show (if true = true then V.non else V.int (zz.length : Int)) = V.non from rfl)]; rfl) (iteF ?_)⟩
        refine ⟨_, rfl, rfl, _, rfl, ifT (decide_eq_true (show (if true = true then V.non else V.int (zz.length : Int)) = V.non from rfl)) ⟨_, rfl, lx 2 (by decide), fun p hp => ?_⟩⟩
        have s11 := same_new (o := .tup [V.ty "tuple", V.ty "str"]) hp
        have rv11 := rv'.wk (Wk.same s11)
        refine ⟨_, p, _, _, _, _, rfl, upd_same, .cons (.ty _) (.cons (.ty _) .nil), rv11.tyx, kit_ts (shape_ts sh'), _, rfl, iteF ?_⟩
        refine ⟨_, rfl, rfl, _, rfl, ifT (decide_eq_true (show (if true = true then V.non else V.int (zz.length : Int)) = V.non from rfl)) ⟨_, rfl, v', t', true, rfl, Nat.lt_succ_of_lt (within_hgt hw'), sh', by omega, rv11, fun H12 s12 => ⟨_, rfl, zz, rfl, ?_, rfl, _, rfl, ?_⟩⟩⟩
        · have : ("" : Str).length = 0 := by decide +kernel
          rw [this]
          omega
        · have e : t'.wr = Txt.replace zz " " "" := by
            apply str_ext
            rw [wr_list, PySem.StrLaws.replace_list (by decide +kernel), ← nb_ts t' _ sh' ts', ← repl0]
            congr 1
          rw [e, decide_eq_true rfl]
          exact iteF ⟨_, _, _, _, _, _, rfl, (u10.then s11).then s12⟩
  · obtain ⟨y2, y3, y4, y5, y6, y7, rfl, u1⟩ := h'
    refine ⟨_, rfl, lx 1 (by decide), fun p1 hp1 => ⟨lx 1 (by decide), fun p2 hp2 => fun p3 hp3 => ⟨Nat.zero_le _, fun p4 hp4 => ⟨lx 8 (by decide), fun p5 hp5 => ?_⟩⟩⟩⟩
    have t1 := same_new (o := .tup [.str "a"]) hp1
    have t2 := same_new (o := .lst [.str "a"]) hp2
    have t3 := same_new (o := .dK []) hp3
    have t4 := same_new (o := .tup []) hp4
    have t5 := same_new (o := .lst [.non, .int 0, .bl true, .ref p1, .ref p2, .ref p3, .ref p4, .int 7]) hp5
    have t14 := (t1.trans t2).trans (t3.trans t4)
    obtain ⟨n1, n2⟩ := (u1.then t14).dr.new hp5
    have u2 := u1.then (t14.trans t5)
    have rr := RepL.cons (H := upd (upd (upd (upd (upd H1 p1 (.tup [.str "a"])) p2 (.lst [.str "a"])) p3 (.dK [])) p4 (.tup [])) p5 (.lst [.non, .int 0, .bl true, .ref p1, .ref p2, .ref p3, .ref p4, .int 7])) Rep.non
      (.cons (.int 0) (.cons (.bl true) (.cons (.tup ((t2.trans (t3.trans (t4.trans t5))) _ _ upd_same) (by decide) (.cons (rstr "a") .nil)) (.cons (.ls ((t3.trans (t4.trans t5)) _ _ upd_same)) (.cons (.dc ((t4.trans t5) _ _ upd_same)) (.cons (.tup (t5 _ _ upd_same) (by decide) .nil) (.cons (.int 7) .nil)))))))
    refine ⟨d, c, p5, _, rfl, u2.dr, upd_same, n1, n2, by show 0 < 8; decide, by show 8 ≤ 1000; decide, fun v' H2 hv u3 => ?_⟩
    obtain ⟨t', ht', rv'⟩ := rr.mem hv
    have ns' : t'.isStr = false := by
      have := List.all_eq_true.mp (rfl : ([Th.non, .int 0, .bl true, .tup [.str "a"], .ls, .dc, .tup [], .int 7] : List Th).all (fun t => !t.isStr) = true) t' ht'
      simpa using this
    refine ⟨_, rfl, v', rfl, .inl ⟨t', rv'.wk (u3.wk u2.dr), ns', fun H3 s3 => ⟨rfl, _, rfl, ifF (by decide) ?_⟩⟩⟩
    have e18 : ∀ e : Nat, e = 1800 → decide (V.int (e : Int) = V.int 1800) = true := fun e h => by
      subst h
      decide
    have l1 : (")" : Str).length = 1 := by decide +kernel
    have sl : (200000 : Nat) ≤ sizeLine := by decide
    refine ⟨rfl, rfl, _, rfl, .inr ⟨manyF, rfl, by rw [manyF_len]; decide, fun e he H4 s4 => ?_, fun hn => ?_, fun hn => ?_⟩⟩
    · rw [pos_f1] at he
      refine ⟨rfl, _, rfl, ifT (e18 e (Option.some.inj he).symm) ?_⟩
      refine ⟨rfl, rfl, _, _, rfl, rfl, by rw [manyF_len, l1]; omega, _, rfl, .inr ⟨manyF ++ ")", rfl, by rw [app_len, manyF_len, l1]; decide, fun e2 he2 H5 s5 => ?_, fun hn => ?_, fun hn => ?_⟩⟩
      · rw [pos_f2] at he2
        refine ⟨rfl, ?_⟩
        rw [e18 e2 (Option.some.inj he2).symm]
        exact q _
      · rw [pos_f2] at hn
        cases hn
      · rw [pos_f2] at hn
        cases hn
    · rw [pos_f1] at hn
      cases hn
    · rw [pos_f1] at hn
      cases hn
end
theorem law_end {P : Program} {w : World} {K : PySem.W.Frag} {mg : Str → Option Value} {fa : Addr} (T : Tx K mg) (Z : ProgF P) (hfa : mg "law" = some (.ref fa)) :
    ∃ fd : FuncData, (∀ (s : Shared) (v : Value), BindsTo s fd ⟨[v], []⟩ [("_law_script", v)]) ∧ ∀ base : Heap, K.In base → base.Ns mainGlobals mg → FnOk P w K mg base CX0 16 fa fd ["_law_script"] (sp_law K) := by
  obtain ⟨f', fd', F', m', b'⟩ := T.d_law.ex
  rw [hfa] at m'
  cases m'
  obtain ⟨oc', od', kV, doc, pm, an, cdv, ct, osl', rfl, lk', _⟩ := F'.ex
  refine ⟨PySem.W.fnOf "law" "law" (defArgs s_law) (defBody s_law) (defScope s_law) .none kV doc pm an cdv ct, fun s v => .of_eq rfl, fun base _ _ => ?_⟩
  obtain ⟨f, fd, F, m, kp, b, oc, od, osl, lk⟩ := (c_law (P := P) (w := w) (base := base) T Z).ex
  rw [hfa] at m
  cases m
  rw [lk'] at lk
  cases lk
  exact F
end Kt
namespace Kt
open PySem PySem.Spec PyProof.Rows L2
theorem all_tx {K : PySem.W.Frag} {h : Heap} {mg : Str → Option Value} (X : K.In h) (G : h.Ns mainGlobals mg)
    {f0 : Addr} {od0 an0 : Option Addr} {sl0 : Array (Option Value)} {oc0 kV0 dc0 pm0 cd0 ct0 : Value}
    (a0 : PySem.W.nsIn K mainGlobals "is_word" = some (some (.ref f0))) (l0 : K.lookup f0 = some ⟨oc0, od0, .func (PySem.W.fnOf "is_word" "is_word" (defArgs s_is_word) (defBody s_is_word) (defScope s_is_word) .none kV0 dc0 pm0 an0 cd0 ct0), sl0⟩) (c0 : PySem.W.codeIn K cd0 "is_word" = true) (k0 : PySem.W.keepIn K (.ref f0) = true)
    {f1 : Addr} {od1 an1 : Option Addr} {sl1 : Array (Option Value)} {oc1 kV1 dc1 pm1 cd1 ct1 : Value}
    (a1 : PySem.W.nsIn K mainGlobals "is_name" = some (some (.ref f1))) (l1 : K.lookup f1 = some ⟨oc1, od1, .func (PySem.W.fnOf "is_name" "is_name" (defArgs s_is_name) (defBody s_is_name) (defScope s_is_name) .none kV1 dc1 pm1 an1 cd1 ct1), sl1⟩) (c1 : PySem.W.codeIn K cd1 "is_name" = true) (k1 : PySem.W.keepIn K (.ref f1) = true)
    {f2 : Addr} {od2 an2 : Option Addr} {sl2 : Array (Option Value)} {oc2 kV2 dc2 pm2 cd2 ct2 : Value}
    (a2 : PySem.W.nsIn K mainGlobals "is_hole" = some (some (.ref f2))) (l2 : K.lookup f2 = some ⟨oc2, od2, .func (PySem.W.fnOf "is_hole" "is_hole" (defArgs s_is_hole) (defBody s_is_hole) (defScope s_is_hole) .none kV2 dc2 pm2 an2 cd2 ct2), sl2⟩) (c2 : PySem.W.codeIn K cd2 "is_hole" = true) (k2 : PySem.W.keepIn K (.ref f2) = true)
    {f3 : Addr} {od3 an3 : Option Addr} {sl3 : Array (Option Value)} {oc3 kV3 dc3 pm3 cd3 ct3 : Value}
    (a3 : PySem.W.nsIn K mainGlobals "size_within" = some (some (.ref f3))) (l3 : K.lookup f3 = some ⟨oc3, od3, .func (PySem.W.fnOf "size_within" "size_within" (defArgs s_size_within) (defBody s_size_within) (defScope s_size_within) .none kV3 dc3 pm3 an3 cd3 ct3), sl3⟩) (c3 : PySem.W.codeIn K cd3 "size_within" = true) (k3 : PySem.W.keepIn K (.ref f3) = true)
    {f4 : Addr} {od4 an4 : Option Addr} {sl4 : Array (Option Value)} {oc4 kV4 dc4 pm4 cd4 ct4 : Value}
    (a4 : PySem.W.nsIn K mainGlobals "is_pattern" = some (some (.ref f4))) (l4 : K.lookup f4 = some ⟨oc4, od4, .func (PySem.W.fnOf "is_pattern" "is_pattern" (defArgs s_is_pattern) (defBody s_is_pattern) (defScope s_is_pattern) .none kV4 dc4 pm4 an4 cd4 ct4), sl4⟩) (c4 : PySem.W.codeIn K cd4 "is_pattern" = true) (k4 : PySem.W.keepIn K (.ref f4) = true)
    {f5 : Addr} {od5 an5 : Option Addr} {sl5 : Array (Option Value)} {oc5 kV5 dc5 pm5 cd5 ct5 : Value}
    (a5 : PySem.W.nsIn K mainGlobals "behind_blanks" = some (some (.ref f5))) (l5 : K.lookup f5 = some ⟨oc5, od5, .func (PySem.W.fnOf "behind_blanks" "behind_blanks" (defArgs s_behind_blanks) (defBody s_behind_blanks) (defScope s_behind_blanks) .none kV5 dc5 pm5 an5 cd5 ct5), sl5⟩) (c5 : PySem.W.codeIn K cd5 "behind_blanks" = true) (k5 : PySem.W.keepIn K (.ref f5) = true)
    {f6 : Addr} {od6 an6 : Option Addr} {sl6 : Array (Option Value)} {oc6 kV6 dc6 pm6 cd6 ct6 : Value}
    (a6 : PySem.W.nsIn K mainGlobals "word_at" = some (some (.ref f6))) (l6 : K.lookup f6 = some ⟨oc6, od6, .func (PySem.W.fnOf "word_at" "word_at" (defArgs s_word_at) (defBody s_word_at) (defScope s_word_at) .none kV6 dc6 pm6 an6 cd6 ct6), sl6⟩) (c6 : PySem.W.codeIn K cd6 "word_at" = true) (k6 : PySem.W.keepIn K (.ref f6) = true)
    {f7 : Addr} {od7 an7 : Option Addr} {sl7 : Array (Option Value)} {oc7 kV7 dc7 pm7 cd7 ct7 : Value}
    (a7 : PySem.W.nsIn K mainGlobals "closed" = some (some (.ref f7))) (l7 : K.lookup f7 = some ⟨oc7, od7, .func (PySem.W.fnOf "closed" "closed" (defArgs s_closed) (defBody s_closed) (defScope s_closed) .none kV7 dc7 pm7 an7 cd7 ct7), sl7⟩) (c7 : PySem.W.codeIn K cd7 "closed" = true) (k7 : PySem.W.keepIn K (.ref f7) = true)
    {f8 : Addr} {od8 an8 : Option Addr} {sl8 : Array (Option Value)} {oc8 kV8 dc8 pm8 cd8 ct8 : Value}
    (a8 : PySem.W.nsIn K mainGlobals "read_whole" = some (some (.ref f8))) (l8 : K.lookup f8 = some ⟨oc8, od8, .func (PySem.W.fnOf "read_whole" "read_whole" (defArgs s_read_whole) (defBody s_read_whole) (defScope s_read_whole) .none kV8 dc8 pm8 an8 cd8 ct8), sl8⟩) (c8 : PySem.W.codeIn K cd8 "read_whole" = true) (k8 : PySem.W.keepIn K (.ref f8) = true)
    {f9 : Addr} {od9 an9 : Option Addr} {sl9 : Array (Option Value)} {oc9 kV9 dc9 pm9 cd9 ct9 : Value}
    (a9 : PySem.W.nsIn K mainGlobals "read_pattern" = some (some (.ref f9))) (l9 : K.lookup f9 = some ⟨oc9, od9, .func (PySem.W.fnOf "read_pattern" "read_pattern" (defArgs s_read_pattern) (defBody s_read_pattern) (defScope s_read_pattern) .none kV9 dc9 pm9 an9 cd9 ct9), sl9⟩) (c9 : PySem.W.codeIn K cd9 "read_pattern" = true) (k9 : PySem.W.keepIn K (.ref f9) = true)
    {f10 : Addr} {od10 an10 : Option Addr} {sl10 : Array (Option Value)} {oc10 kV10 dc10 pm10 cd10 ct10 : Value}
    (a10 : PySem.W.nsIn K mainGlobals "_law_begin" = some (some (.ref f10))) (l10 : K.lookup f10 = some ⟨oc10, od10, .func (PySem.W.fnOf "_law_begin" "_law_begin" (defArgs s__law_begin) (defBody s__law_begin) (defScope s__law_begin) .none kV10 dc10 pm10 an10 cd10 ct10), sl10⟩) (c10 : PySem.W.codeIn K cd10 "_law_begin" = true) (k10 : PySem.W.keepIn K (.ref f10) = true)
    {f11 : Addr} {od11 an11 : Option Addr} {sl11 : Array (Option Value)} {oc11 kV11 dc11 pm11 cd11 ct11 : Value}
    (a11 : PySem.W.nsIn K mainGlobals "_law_take" = some (some (.ref f11))) (l11 : K.lookup f11 = some ⟨oc11, od11, .func (PySem.W.fnOf "_law_take" "_law_take" (defArgs s__law_take) (defBody s__law_take) (defScope s__law_take) .none kV11 dc11 pm11 an11 cd11 ct11), sl11⟩) (c11 : PySem.W.codeIn K cd11 "_law_take" = true) (k11 : PySem.W.keepIn K (.ref f11) = true)
    {f12 : Addr} {od12 an12 : Option Addr} {sl12 : Array (Option Value)} {oc12 kV12 dc12 pm12 cd12 ct12 : Value}
    (a12 : PySem.W.nsIn K mainGlobals "_law_pick" = some (some (.ref f12))) (l12 : K.lookup f12 = some ⟨oc12, od12, .func (PySem.W.fnOf "_law_pick" "_law_pick" (defArgs s__law_pick) (defBody s__law_pick) (defScope s__law_pick) .none kV12 dc12 pm12 an12 cd12 ct12), sl12⟩) (c12 : PySem.W.codeIn K cd12 "_law_pick" = true) (k12 : PySem.W.keepIn K (.ref f12) = true)
    {f13 : Addr} {od13 an13 : Option Addr} {sl13 : Array (Option Value)} {oc13 kV13 dc13 pm13 cd13 ct13 : Value}
    (a13 : PySem.W.nsIn K mainGlobals "_law_word" = some (some (.ref f13))) (l13 : K.lookup f13 = some ⟨oc13, od13, .func (PySem.W.fnOf "_law_word" "_law_word" (defArgs s__law_word) (defBody s__law_word) (defScope s__law_word) .none kV13 dc13 pm13 an13 cd13 ct13), sl13⟩) (c13 : PySem.W.codeIn K cd13 "_law_word" = true) (k13 : PySem.W.keepIn K (.ref f13) = true)
    {f14 : Addr} {od14 an14 : Option Addr} {sl14 : Array (Option Value)} {oc14 kV14 dc14 pm14 cd14 ct14 : Value}
    (a14 : PySem.W.nsIn K mainGlobals "_law_hole" = some (some (.ref f14))) (l14 : K.lookup f14 = some ⟨oc14, od14, .func (PySem.W.fnOf "_law_hole" "_law_hole" (defArgs s__law_hole) (defBody s__law_hole) (defScope s__law_hole) .none kV14 dc14 pm14 an14 cd14 ct14), sl14⟩) (c14 : PySem.W.codeIn K cd14 "_law_hole" = true) (k14 : PySem.W.keepIn K (.ref f14) = true)
    {f15 : Addr} {od15 an15 : Option Addr} {sl15 : Array (Option Value)} {oc15 kV15 dc15 pm15 cd15 ct15 : Value}
    (a15 : PySem.W.nsIn K mainGlobals "_law_pattern" = some (some (.ref f15))) (l15 : K.lookup f15 = some ⟨oc15, od15, .func (PySem.W.fnOf "_law_pattern" "_law_pattern" (defArgs s__law_pattern) (defBody s__law_pattern) (defScope s__law_pattern) .none kV15 dc15 pm15 an15 cd15 ct15), sl15⟩) (c15 : PySem.W.codeIn K cd15 "_law_pattern" = true) (k15 : PySem.W.keepIn K (.ref f15) = true)
    {f16 : Addr} {od16 an16 : Option Addr} {sl16 : Array (Option Value)} {oc16 kV16 dc16 pm16 cd16 ct16 : Value}
    (a16 : PySem.W.nsIn K mainGlobals "_law_written" = some (some (.ref f16))) (l16 : K.lookup f16 = some ⟨oc16, od16, .func (PySem.W.fnOf "_law_written" "_law_written" (defArgs s__law_written) (defBody s__law_written) (defScope s__law_written) .none kV16 dc16 pm16 an16 cd16 ct16), sl16⟩) (c16 : PySem.W.codeIn K cd16 "_law_written" = true) (k16 : PySem.W.keepIn K (.ref f16) = true)
    {f17 : Addr} {od17 an17 : Option Addr} {sl17 : Array (Option Value)} {oc17 kV17 dc17 pm17 cd17 ct17 : Value}
    (a17 : PySem.W.nsIn K mainGlobals "_law_next" = some (some (.ref f17))) (l17 : K.lookup f17 = some ⟨oc17, od17, .func (PySem.W.fnOf "_law_next" "_law_next" (defArgs s__law_next) (defBody s__law_next) (defScope s__law_next) .none kV17 dc17 pm17 an17 cd17 ct17), sl17⟩) (c17 : PySem.W.codeIn K cd17 "_law_next" = true) (k17 : PySem.W.keepIn K (.ref f17) = true)
    {f18 : Addr} {od18 an18 : Option Addr} {sl18 : Array (Option Value)} {oc18 kV18 dc18 pm18 cd18 ct18 : Value}
    (a18 : PySem.W.nsIn K mainGlobals "_law_walk" = some (some (.ref f18))) (l18 : K.lookup f18 = some ⟨oc18, od18, .func (PySem.W.fnOf "_law_walk" "_law_walk" (defArgs s__law_walk) (defBody s__law_walk) (defScope s__law_walk) .none kV18 dc18 pm18 an18 cd18 ct18), sl18⟩) (c18 : PySem.W.codeIn K cd18 "_law_walk" = true) (k18 : PySem.W.keepIn K (.ref f18) = true)
    {f19 : Addr} {od19 an19 : Option Addr} {sl19 : Array (Option Value)} {oc19 kV19 dc19 pm19 cd19 ct19 : Value}
    (a19 : PySem.W.nsIn K mainGlobals "_law_bounds" = some (some (.ref f19))) (l19 : K.lookup f19 = some ⟨oc19, od19, .func (PySem.W.fnOf "_law_bounds" "_law_bounds" (defArgs s__law_bounds) (defBody s__law_bounds) (defScope s__law_bounds) .none kV19 dc19 pm19 an19 cd19 ct19), sl19⟩) (c19 : PySem.W.codeIn K cd19 "_law_bounds" = true) (k19 : PySem.W.keepIn K (.ref f19) = true)
    {f20 : Addr} {od20 an20 : Option Addr} {sl20 : Array (Option Value)} {oc20 kV20 dc20 pm20 cd20 ct20 : Value}
    (a20 : PySem.W.nsIn K mainGlobals "_law_due" = some (some (.ref f20))) (l20 : K.lookup f20 = some ⟨oc20, od20, .func (PySem.W.fnOf "_law_due" "_law_due" (defArgs s__law_due) (defBody s__law_due) (defScope s__law_due) .none kV20 dc20 pm20 an20 cd20 ct20), sl20⟩) (c20 : PySem.W.codeIn K cd20 "_law_due" = true) (k20 : PySem.W.keepIn K (.ref f20) = true)
    {f21 : Addr} {od21 an21 : Option Addr} {sl21 : Array (Option Value)} {oc21 kV21 dc21 pm21 cd21 ct21 : Value}
    (a21 : PySem.W.nsIn K mainGlobals "_law_told" = some (some (.ref f21))) (l21 : K.lookup f21 = some ⟨oc21, od21, .func (PySem.W.fnOf "_law_told" "_law_told" (defArgs s__law_told) (defBody s__law_told) (defScope s__law_told) .none kV21 dc21 pm21 an21 cd21 ct21), sl21⟩) (c21 : PySem.W.codeIn K cd21 "_law_told" = true) (k21 : PySem.W.keepIn K (.ref f21) = true)
    {f22 : Addr} {od22 an22 : Option Addr} {sl22 : Array (Option Value)} {oc22 kV22 dc22 pm22 cd22 ct22 : Value}
    (a22 : PySem.W.nsIn K mainGlobals "_law_spoilt" = some (some (.ref f22))) (l22 : K.lookup f22 = some ⟨oc22, od22, .func (PySem.W.fnOf "_law_spoilt" "_law_spoilt" (defArgs s__law_spoilt) (defBody s__law_spoilt) (defScope s__law_spoilt) .none kV22 dc22 pm22 an22 cd22 ct22), sl22⟩) (c22 : PySem.W.codeIn K cd22 "_law_spoilt" = true) (k22 : PySem.W.keepIn K (.ref f22) = true)
    {f23 : Addr} {od23 an23 : Option Addr} {sl23 : Array (Option Value)} {oc23 kV23 dc23 pm23 cd23 ct23 : Value}
    (a23 : PySem.W.nsIn K mainGlobals "law" = some (some (.ref f23))) (l23 : K.lookup f23 = some ⟨oc23, od23, .func (PySem.W.fnOf "law" "law" (defArgs s_law) (defBody s_law) (defScope s_law) .none kV23 dc23 pm23 an23 cd23 ct23), sl23⟩) (c23 : PySem.W.codeIn K cd23 "law" = true) (k23 : PySem.W.keepIn K (.ref f23) = true)
    {tk0 : Tok} (m0 : PySem.W.nsIn K mainGlobals "LETTERS" = some (some (.str "abcdefghijklmnopqrstuvwxyz" tk0)))
    {tk1 : Tok} (m1 : PySem.W.nsIn K mainGlobals "MOST_NAME" = some (some (.int 8 tk1)))
    {tk2 : Tok} (m2 : PySem.W.nsIn K mainGlobals "MOST_HOLE" = some (some (.int 4 tk2)))
    {tk3 : Tok} (m3 : PySem.W.nsIn K mainGlobals "MOST_PARTS" = some (some (.int 3 tk3)))
    {tk4 : Tok} (m4 : PySem.W.nsIn K mainGlobals "MOST_SIZE" = some (some (.int 30 tk4)))
    {tk5 : Tok} (m5 : PySem.W.nsIn K mainGlobals "MOST_DEEP" = some (some (.int 5 tk5)))
    (z0 : PySem.W.nsIn K mainGlobals "ValueError" = some none)
    (z1 : PySem.W.nsIn K mainGlobals "abs" = some none)
    (z2 : PySem.W.nsIn K mainGlobals "all" = some none)
    (z3 : PySem.W.nsIn K mainGlobals "enumerate" = some none)
    (z4 : PySem.W.nsIn K mainGlobals "int" = some none)
    (z5 : PySem.W.nsIn K mainGlobals "isinstance" = some none)
    (z6 : PySem.W.nsIn K mainGlobals "len" = some none)
    (z7 : PySem.W.nsIn K mainGlobals "max" = some none)
    (z8 : PySem.W.nsIn K mainGlobals "range" = some none)
    (z9 : PySem.W.nsIn K mainGlobals "str" = some none)
    (z10 : PySem.W.nsIn K mainGlobals "tuple" = some none)
    {e0 : Addr} (ea0 : PySem.W.nsIn K mainGlobals "MatchError" = some (some (.ref e0))) (eb0 : PySem.W.subIn K (.ref e0) (.type "BaseException") = some true) (et0 : PySem.W.typeIn K (.ref e0) = some (.type "type")) (ei0 : PySem.W.isClsIn K e0 = true) (es0 : PySem.W.subIn K (.ref e0) (.ref e0) = some true)
    {h0 : Addr} (ha0 : PySem.W.nsIn K mainGlobals "BadPattern" = some (some (.ref h0)))
    {h1 : Addr} (ha1 : PySem.W.nsIn K mainGlobals "BadTerm" = some (some (.ref h1)))
    {yD yfM ycd ycc ydA : Addr} {yda1 : Value} {yda2 : Option Addr} {yits : Array Value} {yn : Nat} {yda3 : Array (Option Value)} {yk : Value → Value → Option (Array Value) → Sem (List (Str × Value))} {yoc ykV ydo ypm yct ycl yxl : Value} {yod yan ycdd yxd : Option Addr} {yos yccs yxs : Array (Option Value)} {yqu : Str} {ypa : Arguments} {yp_a yp_b yp_c yp_d yp_e yp_f yp_g yp_h yp_i yp_j yp_k yp_l yp_m yp_n yp_o yp_p : Pos} {yar : Arg} {yvs : Array Value} {ytf : Tok} {ypl : Env → Sem Bool}
    (ra : PySem.W.nsIn K mainGlobals "MatchError" = some (some (.ref yD)))
    (rm : PySem.W.mroIn K yD (.ref yD) = some true)
    (rs : PySem.W.nsIn K mainGlobals "super" = some none)
    (ri : PySem.W.findIn K (.ref yD) "__init__" = some (some (.ref yfM)))
    (rl : K.lookup yfM = some ⟨yoc, yod, .func (PySem.W.fnX "__init__" yqu ypa (meBody (MePos.mk yp_a yp_b yp_c yp_d yp_e yp_f yp_g yp_h yp_i yp_j yp_k yp_l yp_m yp_n yp_o yp_p)) (initScope "why") [("__class__", ycc)] (.ref ydA) ykV ydo ypm yan (.ref ycd) yct), yos⟩)
    (re : PySem.W.codeIn K (.ref ycd) yqu = true)
    (rh : (ypa.posonlyargs ++ ypa.args).head? = some yar)
    (rz : yar.arg = "self")
    (rda : K.lookup ydA = some ⟨yda1, yda2, .seq yits yn, yda3⟩)
    (rbd : ∀ a b : Value, bindArgs (PySem.W.fnX "__init__" yqu ypa (meBody (MePos.mk yp_a yp_b yp_c yp_d yp_e yp_f yp_g yp_h yp_i yp_j yp_k yp_l yp_m yp_n yp_o yp_p)) (initScope "why") [("__class__", ycc)] (.ref ydA) ykV ydo ypm yan (.ref ycd) yct) ⟨[a, b], []⟩ = seqItems? (.ref ydA) >>= yk a b)
    (rbe : ∀ a b : Value, yk a b (some yits) = pure [(("self" : Str), a), ("why", b)])
    (rev : ∀ env : Env, eval (meSup (MePos.mk yp_a yp_b yp_c yp_d yp_e yp_f yp_g yp_h yp_i yp_j yp_k yp_l yp_m yp_n yp_o yp_p)) env = (do
      let ov ← attributeBase (.Call (.Name "super" yp_a) [] [] yp_b) "__init__" env (eval (.Call (.Name "super" yp_a) [] [] yp_b) env)
      standAt yp_c.atName
      let (f, first) ← holding [ov] (getMethod ov "__init__" (ypl env))
      callWith yp_g f first (backTo yp_g (starEach [meTxt (MePos.mk yp_a yp_b yp_c yp_d yp_e yp_f yp_g yp_h yp_i yp_j yp_k yp_l yp_m yp_n yp_o yp_p)] env)) []))
    (rlc : K.lookup ycd = some ⟨ycl, ycdd, .fields yvs, yccs⟩)
    (rv2 : yvs[2]? = some (.str "/claim/cut.py" ytf))
    (rlx : K.lookup ycc = some ⟨yxl, yxd, .cell (some (.ref yD)), yxs⟩)
    (rnl : (yp_n.endLine == yp_o.line) = true)
    (rty : PySem.W.typeIn K (.ref yfM) = some (.type "function"))
    {sC0 : Addr} {sc0 : Value} {sdd0 : Option Addr} {scd0 : ClassData} {ssl0 : Array (Option Value)} {stk0 : Tok}
    (mesa0 : PySem.W.nsIn K mainGlobals "NoText" = some (some (.ref sC0)))
    (mesx0 : PySem.W.excInitIn K sC0 [.type "ValueError", .type "Exception", .type "BaseException", .type "object"] "ValueError.__new__" = true)
    (mesd0 : PySem.W.hasDictIn K sC0 = true)
    (mesq0 : PySem.W.findIn K (.ref sC0) "__setattr__" = some (some (.builtin "object.__setattr__")))
    (mesb0 : PySem.W.subIn K (.ref sC0) (.type "BaseException") = some true)
    (mest0 : PySem.W.typeIn K (.ref sC0) = some (.type "type"))
    (mesk0 : PySem.W.keepIn K (.ref sC0) = true)
    (mesm0 : PySem.W.mroIn K sC0 (.ref yD) = some true)
    (mesp0 : PySem.W.ks_superIn K sC0 yD "__init__" = some (some (.builtin "ValueError.__init__")))
    (mesv0 : PySem.W.subIn K (.ref sC0) (.type "ValueError") = some true)
    (meso0 : PySem.W.nsIn K cStatics "thirdparty.any" = some none)
    (mesf0 : PySem.W.findIn K (.ref sC0) "word" = some none)
    (meng0 : PySem.W.findIn K (.ref sC0) "__getattribute__" = some (some (.builtin "BaseException.__getattribute__")))
    (menh0 : PySem.W.findIn K (.ref sC0) "__getattr__" = some none)
    (menj0 : PySem.W.findIn K (.ref sC0) "__class__" = some (some (.builtin "object.__class__")))
    (menu0 : PySem.W.specialIn K (.builtin "object.__class__") "__get__" = some (some (.builtin "getset_descriptor.__get__")))
    (menw0 : PySem.W.takesIn K (.builtin "object.__class__") = some true)
    (meno0 : PySem.W.mroIn K sC0 (.type "object") = some true)
    (menr0 : PySem.W.readsIn K sC0 (.type "type") = true)
    (meny0 : PySem.W.findCls K (.ref sC0) (.type "type") "__name__" = some (.get (.builtin "getset_descriptor.__get__") (.builtin "type.__name__") (.ref sC0) (.type "type")))
    (menl0 : K.lookup sC0 = some ⟨sc0, sdd0, .cls scd0, ssl0⟩)
    (menz0 : ssl0[2]? = some (some (.str "NoText" stk0)))
    {nfI0 ncd0 ncc0 : Addr} {noc0 ndV0 nkV0 ndo0 npm0 nct0 ncl0 nxl0 : Value} {nod0 nan0 ncdd0 nxd0 : Option Addr} {nos0 nccs0 nxs0 : Array (Option Value)} {nqu0 : Str} {npa0 : Arguments} {ip_a0 ip_b0 ip_c0 ip_d0 ip_e0 ip_f0 ip_g0 ip_h0 ip_i0 ip_j0 ip_k0 ip_l0 ip_m0 : Pos} {ip_n0 : Nat} {nar0 : Arg} {nvs0 : Array Value} {ntf0 : Tok} {npl0 : Env → Sem Bool}
    (miui0 : PySem.W.findIn K (.ref sC0) "__init__" = some (some (.ref nfI0)))
    (miul0 : K.lookup nfI0 = some ⟨noc0, nod0, .func (PySem.W.fnX "__init__" nqu0 npa0 (initBody "at" "this is no text of a pattern, by what stands at " (InitPos.mk ip_a0 ip_b0 ip_c0 ip_d0 ip_e0 ip_f0 ip_g0 ip_h0 ip_i0 ip_j0 ip_k0 ip_l0 ip_m0 ip_n0)) (initScope "at") [("__class__", ncc0)] ndV0 nkV0 ndo0 npm0 nan0 (.ref ncd0) nct0), nos0⟩)
    (miue0 : PySem.W.codeIn K (.ref ncd0) nqu0 = true)
    (miuh0 : (npa0.posonlyargs ++ npa0.args).head? = some nar0)
    (miuz0 : nar0.arg = "self")
    (miubd0 : ∀ a b : Value, bindArgs (PySem.W.fnX "__init__" nqu0 npa0 (initBody "at" "this is no text of a pattern, by what stands at " (InitPos.mk ip_a0 ip_b0 ip_c0 ip_d0 ip_e0 ip_f0 ip_g0 ip_h0 ip_i0 ip_j0 ip_k0 ip_l0 ip_m0 ip_n0)) (initScope "at") [("__class__", ncc0)] ndV0 nkV0 ndo0 npm0 nan0 (.ref ncd0) nct0) ⟨[a, b], []⟩ = pure [(("self" : Str), a), ("at", b)])
    (miuev0 : ∀ env : Env, eval (.Call (.Attribute (.Call (.Name "super" ip_a0) [] [] ip_b0) "__init__" ip_c0) [.JoinedStr [.Constant (.str "this is no text of a pattern, by what stands at ") ip_n0 ip_d0, .FormattedValue (.Name "at" ip_e0) (-1) none ip_f0] ip_g0] [] ip_h0) env = (do
      let ov ← attributeBase (.Call (.Name "super" ip_a0) [] [] ip_b0) "__init__" env (eval (.Call (.Name "super" ip_a0) [] [] ip_b0) env)
      standAt ip_c0.atName
      let (f, first) ← holding [ov] (getMethod ov "__init__" (npl0 env))
      callWith ip_h0 f first (backTo ip_h0 (starEach [.JoinedStr [.Constant (.str "this is no text of a pattern, by what stands at ") ip_n0 ip_d0, .FormattedValue (.Name "at" ip_e0) (-1) none ip_f0] ip_g0] env)) []))
    (miulc0 : K.lookup ncd0 = some ⟨ncl0, ncdd0, .fields nvs0, nccs0⟩)
    (miuv20 : nvs0[2]? = some (.str "/claim/cut.py" ntf0))
    (miulx0 : K.lookup ncc0 = some ⟨nxl0, nxd0, .cell (some (.ref sC0)), nxs0⟩)
    (miuty0 : PySem.W.typeIn K (.ref nfI0) = some (.type "function"))
    (miup0 : PySem.W.ks_superIn K sC0 sC0 "__init__" = some (some (.ref yfM)))
    (miuf0 : PySem.W.fnIn K yfM = true)
    (mium0 : PySem.W.mroIn K sC0 (.ref sC0) = some true)
    (miuo0 : PySem.W.findIn K (.ref sC0) "at" = some none)
    (xg0 : PySem.W.findIn K (.ref sC0) "__getattribute__" = some (some (.builtin "BaseException.__getattribute__")))
    (xk0 : PySem.W.findIn K (.ref sC0) "__getattr__" = some none)
    (xs0 : PySem.W.subIn K (.ref sC0) (.type "BaseException") = some true)
    (xd0 : PySem.W.hasDictIn K sC0 = true)
    (xa0 : PySem.W.findIn K (.ref sC0) "__class__" = some (some (.builtin "object.__class__")))
    (xn0 : PySem.W.specialIn K (.builtin "object.__class__") "__get__" = some (some (.builtin "getset_descriptor.__get__")))
    (xt0 : PySem.W.takesIn K (.builtin "object.__class__") = some true)
    (xm0 : PySem.W.mroIn K sC0 (.type "object") = some true)
    (kt0 : PySem.W.kitOne K (.ref sC0) (.ref sC0) = some true)
    (kt1 : PySem.W.kitOne K (.ref sC0) (.ref h0) = some false)
    (kt2 : PySem.W.kitOne K (.ref sC0) (.ref h1) = some false)
    (kt3 : PySem.W.kitOne K (.ref sC0) (.type "ValueError") = some true)
    (kt4 : PySem.W.kitOne K (.ref sC0) (.ref yD) = some true)
    : Tx K mg where
  x_NoText := by rw [clsA_of (PySem.W.mg_of X G mesa0)]; exact ⟨xg0, xk0, xs0, xd0, xa0, xn0, xt0, xm0⟩
  k_NoText_NoText := by rw [clsA_of (PySem.W.mg_of X G mesa0)]; exact kt0
  k_NoText_BadPattern := by rw [clsA_of (PySem.W.mg_of X G mesa0), clsA_of (PySem.W.mg_of X G ha0)]; exact kt1
  k_NoText_BadTerm := by rw [clsA_of (PySem.W.mg_of X G mesa0), clsA_of (PySem.W.mg_of X G ha1)]; exact kt2
  k_NoText_ValueError := by rw [clsA_of (PySem.W.mg_of X G mesa0)]; exact kt3
  k_NoText_MatchError := by rw [clsA_of (PySem.W.mg_of X G mesa0), clsA_of (PySem.W.mg_of X G ra)]; exact kt4
  me := by rw [clsA_of (PySem.W.mg_of X G ra)]; exact ⟨⟨yfM, yoc, ycl, yxl, yod, ycdd, yxd, yos, yccs, yxs, yqu, ypa, (MePos.mk yp_a yp_b yp_c yp_d yp_e yp_f yp_g yp_h yp_i yp_j yp_k yp_l yp_m yp_n yp_o yp_p), .ref ydA, ykV, ydo, ypm, yct, yan, ycd, ycc, yvs, ytf, yar, ypl, rl, re, rh, rz, fun s a b Xs => BindsTo.of_defaults rfl (Xs _ _ rda) rfl (rbd a b) (rbe a b), rev, rlc, rv2, rlx, rnl, ri, rty⟩, PySem.W.mg_none_of X G rs, rm⟩
  gi_NoText := by rw [clsA_of (PySem.W.mg_of X G mesa0)]; exact PySem.W.mg_of X G mesa0
  i_NoText := by rw [clsA_of (PySem.W.mg_of X G mesa0), clsA_of (PySem.W.mg_of X G ra)]; exact ⟨⟨oex_by mesx0 mesd0 mesq0 mesb0 mest0 mesk0, mesm0, mesp0, mesv0, meso0, mesx0, mesf0, ⟨"NoText", meng0, menh0, mesb0, menj0, menu0, menw0, meno0, menr0, meny0, ⟨_, _, _, _, _, menl0, menz0⟩, by decide +kernel⟩⟩, ⟨nfI0, yfM, noc0, ncl0, nxl0, nod0, ncdd0, nxd0, nos0, nccs0, nxs0, nqu0, npa0, (InitPos.mk ip_a0 ip_b0 ip_c0 ip_d0 ip_e0 ip_f0 ip_g0 ip_h0 ip_i0 ip_j0 ip_k0 ip_l0 ip_m0 ip_n0), ndV0, nkV0, ndo0, npm0, nct0, nan0, ncd0, ncc0, nvs0, ntf0, nar0, npl0, miul0, miue0, miuh0, miuz0, miubd0, miuev0, miulc0, miuv20, miulx0, miui0, miuty0, miup0, ri, miuf0⟩, mium0, miuo0⟩
  g_BadPattern := by rw [clsA_of (PySem.W.mg_of X G ha0)]; exact PySem.W.mg_of X G ha0
  g_BadTerm := by rw [clsA_of (PySem.W.mg_of X G ha1)]; exact PySem.W.mg_of X G ha1
  e_MatchError := ExG.at (PySem.W.mg_of X G ea0) eb0 et0 ei0 es0
  d_is_word := ⟨f0, _, fun_mk (st := s_is_word) l0 c0 k0, PySem.W.mg_of X G a0, (fun_mk (st := s_is_word) l0 c0 k0).binds (ps := ["thing", "most"]) fun _ _ _ _ _ _ us hl => match us, hl with | [_, _], _ => rfl⟩
  d_is_name := ⟨f1, _, fun_mk (st := s_is_name) l1 c1 k1, PySem.W.mg_of X G a1, (fun_mk (st := s_is_name) l1 c1 k1).binds (ps := ["thing"]) fun _ _ _ _ _ _ us hl => match us, hl with | [_], _ => rfl⟩
  d_is_hole := ⟨f2, _, fun_mk (st := s_is_hole) l2 c2 k2, PySem.W.mg_of X G a2, (fun_mk (st := s_is_hole) l2 c2 k2).binds (ps := ["thing"]) fun _ _ _ _ _ _ us hl => match us, hl with | [_], _ => rfl⟩
  d_size_within := ⟨f3, _, fun_mk (st := s_size_within) l3 c3 k3, PySem.W.mg_of X G a3, (fun_mk (st := s_size_within) l3 c3 k3).binds (ps := ["thing", "holes", "deep"]) fun _ _ _ _ _ _ us hl => match us, hl with | [_, _, _], _ => rfl⟩
  d_is_pattern := ⟨f4, _, fun_mk (st := s_is_pattern) l4 c4 k4, PySem.W.mg_of X G a4, (fun_mk (st := s_is_pattern) l4 c4 k4).binds (ps := ["thing"]) fun _ _ _ _ _ _ us hl => match us, hl with | [_], _ => rfl⟩
  d_behind_blanks := ⟨f5, _, fun_mk (st := s_behind_blanks) l5 c5 k5, PySem.W.mg_of X G a5, (fun_mk (st := s_behind_blanks) l5 c5 k5).binds (ps := ["text", "at"]) fun _ _ _ _ _ _ us hl => match us, hl with | [_, _], _ => rfl⟩
  d_word_at := ⟨f6, _, fun_mk (st := s_word_at) l6 c6 k6, PySem.W.mg_of X G a6, (fun_mk (st := s_word_at) l6 c6 k6).binds (ps := ["text", "at"]) fun _ _ _ _ _ _ us hl => match us, hl with | [_, _], _ => rfl⟩
  d_closed := ⟨f7, _, fun_mk (st := s_closed) l7 c7 k7, PySem.W.mg_of X G a7, (fun_mk (st := s_closed) l7 c7 k7).binds (ps := ["text", "at", "rows", "whole"]) fun _ _ _ _ _ _ us hl => match us, hl with | [_, _, _, _], _ => rfl⟩
  d_read_whole := ⟨f8, _, fun_mk (st := s_read_whole) l8 c8 k8, PySem.W.mg_of X G a8, (fun_mk (st := s_read_whole) l8 c8 k8).binds (ps := ["text"]) fun _ _ _ _ _ _ us hl => match us, hl with | [_], _ => rfl⟩
  d_read_pattern := ⟨f9, _, fun_mk (st := s_read_pattern) l9 c9 k9, PySem.W.mg_of X G a9, (fun_mk (st := s_read_pattern) l9 c9 k9).binds (ps := ["text"]) fun _ _ _ _ _ _ us hl => match us, hl with | [_], _ => rfl⟩
  d__law_begin := ⟨f10, _, fun_mk (st := s__law_begin) l10 c10 k10, PySem.W.mg_of X G a10, (fun_mk (st := s__law_begin) l10 c10 k10).binds (ps := ["_law_script"]) fun _ _ _ _ _ _ us hl => match us, hl with | [_], _ => rfl⟩
  d__law_take := ⟨f11, _, fun_mk (st := s__law_take) l11 c11 k11, PySem.W.mg_of X G a11, (fun_mk (st := s__law_take) l11 c11 k11).binds (ps := ["_law_draw", "_law_size"]) fun _ _ _ _ _ _ us hl => match us, hl with | [_, _], _ => rfl⟩
  d__law_pick := ⟨f12, _, fun_mk (st := s__law_pick) l12 c12 k12, PySem.W.mg_of X G a12, (fun_mk (st := s__law_pick) l12 c12 k12).binds (ps := ["_law_draw", "_law_some"]) fun _ _ _ _ _ _ us hl => match us, hl with | [_, _], _ => rfl⟩
  d__law_word := ⟨f13, _, fun_mk (st := s__law_word) l13 c13 k13, PySem.W.mg_of X G a13, (fun_mk (st := s__law_word) l13 c13 k13).binds (ps := ["_law_draw"]) fun _ _ _ _ _ _ us hl => match us, hl with | [_], _ => rfl⟩
  d__law_hole := ⟨f14, _, fun_mk (st := s__law_hole) l14 c14 k14, PySem.W.mg_of X G a14, (fun_mk (st := s__law_hole) l14 c14 k14).binds (ps := ["_law_draw"]) fun _ _ _ _ _ _ us hl => match us, hl with | [_], _ => rfl⟩
  d__law_pattern := ⟨f15, _, fun_mk (st := s__law_pattern) l15 c15 k15, PySem.W.mg_of X G a15, (fun_mk (st := s__law_pattern) l15 c15 k15).binds (ps := ["_law_draw", "_law_left", "_law_holed"]) fun _ _ _ _ _ _ us hl => match us, hl with | [_, _, _], _ => rfl⟩
  d__law_written := ⟨f16, _, fun_mk (st := s__law_written) l16 c16 k16, PySem.W.mg_of X G a16, (fun_mk (st := s__law_written) l16 c16 k16).binds (ps := ["_law_one"]) fun _ _ _ _ _ _ us hl => match us, hl with | [_], _ => rfl⟩
  d__law_next := ⟨f17, _, fun_mk (st := s__law_next) l17 c17 k17, PySem.W.mg_of X G a17, (fun_mk (st := s__law_next) l17 c17 k17).binds (ps := ["_law_state", "_law_sign", "_law_many", "_law_deep"]) fun _ _ _ _ _ _ us hl => match us, hl with | [_, _, _, _], _ => rfl⟩
  d__law_walk := ⟨f18, _, fun_mk (st := s__law_walk) l18 c18 k18, PySem.W.mg_of X G a18, (fun_mk (st := s__law_walk) l18 c18 k18).binds (ps := ["_law_row"]) fun _ _ _ _ _ _ us hl => match us, hl with | [_], _ => rfl⟩
  d__law_bounds := ⟨f19, _, fun_mk (st := s__law_bounds) l19 c19 k19, PySem.W.mg_of X G a19, (fun_mk (st := s__law_bounds) l19 c19 k19).binds (ps := ["_law_row"]) fun _ _ _ _ _ _ us hl => match us, hl with | [_], _ => rfl⟩
  d__law_due := ⟨f20, _, fun_mk (st := s__law_due) l20 c20 k20, PySem.W.mg_of X G a20, (fun_mk (st := s__law_due) l20 c20 k20).binds (ps := ["_law_row"]) fun _ _ _ _ _ _ us hl => match us, hl with | [_], _ => rfl⟩
  d__law_told := ⟨f21, _, fun_mk (st := s__law_told) l21 c21 k21, PySem.W.mg_of X G a21, (fun_mk (st := s__law_told) l21 c21 k21).binds (ps := ["_law_row"]) fun _ _ _ _ _ _ us hl => match us, hl with | [_], _ => rfl⟩
  d__law_spoilt := ⟨f22, _, fun_mk (st := s__law_spoilt) l22 c22 k22, PySem.W.mg_of X G a22, (fun_mk (st := s__law_spoilt) l22 c22 k22).binds (ps := ["_law_draw", "_law_row"]) fun _ _ _ _ _ _ us hl => match us, hl with | [_, _], _ => rfl⟩
  d_law := ⟨f23, _, fun_mk (st := s_law) l23 c23 k23, PySem.W.mg_of X G a23, (fun_mk (st := s_law) l23 c23 k23).binds (ps := ["_law_script"]) fun _ _ _ _ _ _ us hl => match us, hl with | [_], _ => rfl⟩
  m_LETTERS := ⟨_, PySem.W.mg_of X G m0⟩
  m_MOST_NAME := ⟨_, PySem.W.mg_of X G m1⟩
  m_MOST_HOLE := ⟨_, PySem.W.mg_of X G m2⟩
  m_MOST_PARTS := ⟨_, PySem.W.mg_of X G m3⟩
  m_MOST_SIZE := ⟨_, PySem.W.mg_of X G m4⟩
  m_MOST_DEEP := ⟨_, PySem.W.mg_of X G m5⟩
  z_ValueError := PySem.W.mg_none_of X G z0
  z_abs := PySem.W.mg_none_of X G z1
  z_all := PySem.W.mg_none_of X G z2
  z_enumerate := PySem.W.mg_none_of X G z3
  z_int := PySem.W.mg_none_of X G z4
  z_isinstance := PySem.W.mg_none_of X G z5
  z_len := PySem.W.mg_none_of X G z6
  z_max := PySem.W.mg_none_of X G z7
  z_range := PySem.W.mg_none_of X G z8
  z_str := PySem.W.mg_none_of X G z9
  z_tuple := PySem.W.mg_none_of X G z10
end Kt
open PySem PySem.W PyProof.Rows
set_option maxRecDepth 100000 in
set_option maxHeartbeats 0 in
theorem PySem.Challenge.cw_likematch_k05_texts_read_or_refused_holds : PySem.Challenge.rw_likematch_k05_texts_read_or_refused.Holds := by
  w_on; o_law; k_head; (case hw => w_witness2)
  k_fill
  refine L2.walk_of (l := PySem.Challenge.rw_likematch_k05_texts_read_or_refused) (n := 63) (k := 16) (x := "_law_script") (CX := fun _ => L2.CX0) (sp := fun w => Kt.sp_law _) rfl (by decide) rfl ⟨rfl, by decide, by decide⟩ (fun w h Y => PySem.W.kIn_of Y) ?F (fun _ _ a ns hl _ hS => ⟨a, ns, rfl, hS, hl, fun _ => rfl⟩) (fun _ _ _ _ _ h => h)
  case F =>
    intro w mg fa h KX G hmg
    refine Kt.law_end ?T ⟨by decide +kernel, by decide +kernel⟩ hmg
    case T =>
      refine' Kt.all_tx KX G ?a0 ?l0 ?c0 ?k0 ?a1 ?l1 ?c1 ?k1 ?a2 ?l2 ?c2 ?k2 ?a3 ?l3 ?c3 ?k3 ?a4 ?l4 ?c4 ?k4 ?a5 ?l5 ?c5 ?k5 ?a6 ?l6 ?c6 ?k6 ?a7 ?l7 ?c7 ?k7 ?a8 ?l8 ?c8 ?k8 ?a9 ?l9 ?c9 ?k9 ?a10 ?l10 ?c10 ?k10 ?a11 ?l11 ?c11 ?k11 ?a12 ?l12 ?c12 ?k12 ?a13 ?l13 ?c13 ?k13 ?a14 ?l14 ?c14 ?k14 ?a15 ?l15 ?c15 ?k15 ?a16 ?l16 ?c16 ?k16 ?a17 ?l17 ?c17 ?k17 ?a18 ?l18 ?c18 ?k18 ?a19 ?l19 ?c19 ?k19 ?a20 ?l20 ?c20 ?k20 ?a21 ?l21 ?c21 ?k21 ?a22 ?l22 ?c22 ?k22 ?a23 ?l23 ?c23 ?k23 ?m0 ?m1 ?m2 ?m3 ?m4 ?m5 ?z0 ?z1 ?z2 ?z3 ?z4 ?z5 ?z6 ?z7 ?z8 ?z9 ?z10 ?ea0 ?eb0 ?et0 ?ei0 ?es0 ?ha0 ?ha1 ?ra ?rm ?rs ?ri ?rl ?re ?rh ?rz ?rda ?rbd ?rbe ?rev ?rlc ?rv2 ?rlx ?rnl ?rty ?mesa0 ?mesx0 ?mesd0 ?mesq0 ?mesb0 ?mest0 ?mesk0 ?mesm0 ?mesp0 ?mesv0 ?meso0 ?mesf0 ?meng0 ?menh0 ?menj0 ?menu0 ?menw0 ?meno0 ?menr0 ?meny0 ?menl0 ?menz0 ?miui0 ?miul0 ?miue0 ?miuh0 ?miuz0 ?miubd0 ?miuev0 ?miulc0 ?miuv20 ?miulx0 ?miuty0 ?miup0 ?miuf0 ?mium0 ?miuo0 ?xg0 ?xk0 ?xs0 ?xd0 ?xa0 ?xn0 ?xt0 ?xm0 ?kt0 ?kt1 ?kt2 ?kt3 ?kt4
      (case a0 => k_is)
      (case l0 => k_is)
      (case c0 => k_is)
      (case k0 => k_is)
      (case a1 => k_is)
      (case l1 => k_is)
      (case c1 => k_is)
      (case k1 => k_is)
      (case a2 => k_is)
      (case l2 => k_is)
      (case c2 => k_is)
      (case k2 => k_is)
      (case a3 => k_is)
      (case l3 => k_is)
      (case c3 => k_is)
      (case k3 => k_is)
      (case a4 => k_is)
      (case l4 => k_is)
      (case c4 => k_is)
      (case k4 => k_is)
      (case a5 => k_is)
      (case l5 => k_is)
      (case c5 => k_is)
      (case k5 => k_is)
      (case a6 => k_is)
      (case l6 => k_is)
      (case c6 => k_is)
      (case k6 => k_is)
      (case a7 => k_is)
      (case l7 => k_is)
      (case c7 => k_is)
      (case k7 => k_is)
      (case a8 => k_is)
      (case l8 => k_is)
      (case c8 => k_is)
      (case k8 => k_is)
      (case a9 => k_is)
      (case l9 => k_is)
      (case c9 => k_is)
      (case k9 => k_is)
      (case a10 => k_is)
      (case l10 => k_is)
      (case c10 => k_is)
      (case k10 => k_is)
      (case a11 => k_is)
      (case l11 => k_is)
      (case c11 => k_is)
      (case k11 => k_is)
      (case a12 => k_is)
      (case l12 => k_is)
      (case c12 => k_is)
      (case k12 => k_is)
      (case a13 => k_is)
      (case l13 => k_is)
      (case c13 => k_is)
      (case k13 => k_is)
      (case a14 => k_is)
      (case l14 => k_is)
      (case c14 => k_is)
      (case k14 => k_is)
      (case a15 => k_is)
      (case l15 => k_is)
      (case c15 => k_is)
      (case k15 => k_is)
      (case a16 => k_is)
      (case l16 => k_is)
      (case c16 => k_is)
      (case k16 => k_is)
      (case a17 => k_is)
      (case l17 => k_is)
      (case c17 => k_is)
      (case k17 => k_is)
      (case a18 => k_is)
      (case l18 => k_is)
      (case c18 => k_is)
      (case k18 => k_is)
      (case a19 => k_is)
      (case l19 => k_is)
      (case c19 => k_is)
      (case k19 => k_is)
      (case a20 => k_is)
      (case l20 => k_is)
      (case c20 => k_is)
      (case k20 => k_is)
      (case a21 => k_is)
      (case l21 => k_is)
      (case c21 => k_is)
      (case k21 => k_is)
      (case a22 => k_is)
      (case l22 => k_is)
      (case c22 => k_is)
      (case k22 => k_is)
      (case a23 => k_is)
      (case l23 => k_is)
      (case c23 => k_is)
      (case k23 => k_is)
      (case m0 => k_is)
      (case m1 => k_is)
      (case m2 => k_is)
      (case m3 => k_is)
      (case m4 => k_is)
      (case m5 => k_is)
      (case z0 => k_is)
      (case z1 => k_is)
      (case z2 => k_is)
      (case z3 => k_is)
      (case z4 => k_is)
      (case z5 => k_is)
      (case z6 => k_is)
      (case z7 => k_is)
      (case z8 => k_is)
      (case z9 => k_is)
      (case z10 => k_is)
      (case ea0 => k_is)
      (case eb0 => k_is)
      (case et0 => k_is)
      (case ei0 => k_is)
      (case es0 => first | rfl | k_is)
      (case ha0 => first | k_is | rfl | exact fun _ => rfl | exact fun _ _ => rfl)
      (case ha1 => first | k_is | rfl | exact fun _ => rfl | exact fun _ _ => rfl)
      (case ra => first | k_is | rfl | exact fun _ => rfl | exact fun _ _ => rfl)
      (case rm => first | k_is | rfl | exact fun _ => rfl | exact fun _ _ => rfl)
      (case rs => first | k_is | rfl | exact fun _ => rfl | exact fun _ _ => rfl)
      (case ri => first | k_is | rfl | exact fun _ => rfl | exact fun _ _ => rfl)
      (case rl => first | k_is | rfl | exact fun _ => rfl | exact fun _ _ => rfl)
      (case re => first | k_is | rfl | exact fun _ => rfl | exact fun _ _ => rfl)
      (case rh => first | k_is | rfl | exact fun _ => rfl | exact fun _ _ => rfl)
      (case rz => first | k_is | rfl | exact fun _ => rfl | exact fun _ _ => rfl)
      (case rda => first | k_is | rfl | exact fun _ => rfl | exact fun _ _ => rfl)
      (case rbd => first | k_is | rfl | exact fun _ => rfl | exact fun _ _ => rfl)
      (case rbe => first | k_is | rfl | exact fun _ => rfl | exact fun _ _ => rfl)
      (case rev => first | k_is | rfl | exact fun _ => rfl | exact fun _ _ => rfl)
      (case rlc => first | k_is | rfl | exact fun _ => rfl | exact fun _ _ => rfl)
      (case rv2 => first | k_is | rfl | exact fun _ => rfl | exact fun _ _ => rfl)
      (case rlx => first | k_is | rfl | exact fun _ => rfl | exact fun _ _ => rfl)
      (case rnl => first | k_is | rfl | exact fun _ => rfl | exact fun _ _ => rfl)
      (case rty => first | k_is | rfl | exact fun _ => rfl | exact fun _ _ => rfl)
      (case mesa0 => first | k_is | rfl | exact fun _ => rfl | exact fun _ _ => rfl)
      (case mesx0 => first | k_is | rfl | exact fun _ => rfl | exact fun _ _ => rfl)
      (case mesd0 => first | k_is | rfl | exact fun _ => rfl | exact fun _ _ => rfl)
      (case mesq0 => first | k_is | rfl | exact fun _ => rfl | exact fun _ _ => rfl)
      (case mesb0 => first | k_is | rfl | exact fun _ => rfl | exact fun _ _ => rfl)
      (case mest0 => first | k_is | rfl | exact fun _ => rfl | exact fun _ _ => rfl)
      (case mesk0 => first | k_is | rfl | exact fun _ => rfl | exact fun _ _ => rfl)
      (case mesm0 => first | k_is | rfl | exact fun _ => rfl | exact fun _ _ => rfl)
      (case mesp0 => first | k_is | rfl | exact fun _ => rfl | exact fun _ _ => rfl)
      (case mesv0 => first | k_is | rfl | exact fun _ => rfl | exact fun _ _ => rfl)
      (case meso0 => first | k_is | rfl | exact fun _ => rfl | exact fun _ _ => rfl)
      (case mesf0 => first | k_is | rfl | exact fun _ => rfl | exact fun _ _ => rfl)
      (case meng0 => first | k_is | rfl | exact fun _ => rfl | exact fun _ _ => rfl)
      (case menh0 => first | k_is | rfl | exact fun _ => rfl | exact fun _ _ => rfl)
      (case menj0 => first | k_is | rfl | exact fun _ => rfl | exact fun _ _ => rfl)
      (case menu0 => first | k_is | rfl | exact fun _ => rfl | exact fun _ _ => rfl)
      (case menw0 => first | k_is | rfl | exact fun _ => rfl | exact fun _ _ => rfl)
      (case meno0 => first | k_is | rfl | exact fun _ => rfl | exact fun _ _ => rfl)
      (case menr0 => first | k_is | rfl | exact fun _ => rfl | exact fun _ _ => rfl)
      (case meny0 => first | k_is | rfl | exact fun _ => rfl | exact fun _ _ => rfl)
      (case menl0 => first | k_is | rfl | exact fun _ => rfl | exact fun _ _ => rfl)
      (case menz0 => first | k_is | rfl | exact fun _ => rfl | exact fun _ _ => rfl)
      (case miui0 => first | k_is | rfl | exact fun _ => rfl | exact fun _ _ => rfl)
      (case miul0 => first | k_is | rfl | exact fun _ => rfl | exact fun _ _ => rfl)
      (case miue0 => first | k_is | rfl | exact fun _ => rfl | exact fun _ _ => rfl)
      (case miuh0 => first | k_is | rfl | exact fun _ => rfl | exact fun _ _ => rfl)
      (case miuz0 => first | k_is | rfl | exact fun _ => rfl | exact fun _ _ => rfl)
      (case miubd0 => first | k_is | rfl | exact fun _ => rfl | exact fun _ _ => rfl)
      (case miuev0 => first | k_is | rfl | exact fun _ => rfl | exact fun _ _ => rfl)
      (case miulc0 => first | k_is | rfl | exact fun _ => rfl | exact fun _ _ => rfl)
      (case miuv20 => first | k_is | rfl | exact fun _ => rfl | exact fun _ _ => rfl)
      (case miulx0 => first | k_is | rfl | exact fun _ => rfl | exact fun _ _ => rfl)
      (case miuty0 => first | k_is | rfl | exact fun _ => rfl | exact fun _ _ => rfl)
      (case miup0 => first | k_is | rfl | exact fun _ => rfl | exact fun _ _ => rfl)
      (case miuf0 => first | k_is | rfl | exact fun _ => rfl | exact fun _ _ => rfl)
      (case mium0 => first | k_is | rfl | exact fun _ => rfl | exact fun _ _ => rfl)
      (case miuo0 => first | k_is | rfl | exact fun _ => rfl | exact fun _ _ => rfl)
      (case xg0 => first | k_is | rfl | exact fun _ => rfl | exact fun _ _ => rfl)
      (case xk0 => first | k_is | rfl | exact fun _ => rfl | exact fun _ _ => rfl)
      (case xs0 => first | k_is | rfl | exact fun _ => rfl | exact fun _ _ => rfl)
      (case xd0 => first | k_is | rfl | exact fun _ => rfl | exact fun _ _ => rfl)
      (case xa0 => first | k_is | rfl | exact fun _ => rfl | exact fun _ _ => rfl)
      (case xn0 => first | k_is | rfl | exact fun _ => rfl | exact fun _ _ => rfl)
      (case xt0 => first | k_is | rfl | exact fun _ => rfl | exact fun _ _ => rfl)
      (case xm0 => first | k_is | rfl | exact fun _ => rfl | exact fun _ _ => rfl)
      (case kt0 => first | k_is | rfl | exact fun _ => rfl | exact fun _ _ => rfl)
      (case kt1 => first | k_is | rfl | exact fun _ => rfl | exact fun _ _ => rfl)
      (case kt2 => first | k_is | rfl | exact fun _ => rfl | exact fun _ _ => rfl)
      (case kt3 => first | k_is | rfl | exact fun _ => rfl | exact fun _ _ => rfl)
      (case kt4 => first | k_is | rfl | exact fun _ => rfl | exact fun _ _ => rfl)
