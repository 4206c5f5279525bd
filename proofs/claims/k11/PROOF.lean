import PyProof.Rows.All
import Wide.All
import OpenK.AllK
import Wide.FinOn
import HandS.ForMost
import HandS.IsInst
import HandS.TupAny
import HandS.TupMul
import HandS.Conv
import HandS.Walk
import HandS.Evl
import HandS.ForExc
import HandS.DictComp
import HandS.FStr
import HandS.ExcIs
import PyProof.ListMulRoad
import PyProof.FactsAll.tuple_2
import HandS.ExcValue
import KE.KExcSuper
import HandS.ExcInit
import KE.KExcIs
import KE.KTypeName
import KE.KeyNested
import PyProof.DictMoreH
import KE.KDictWalk
import HandS.Iter
import KE.KDictKeyed
import HandS.Dict
import HandS.Records
import KE.KDictSum
import HandS.Nested
import KE.SortKeyHeap
import KE.GoesEnumKw
import KE.GoesEnum
import HandS.Style
import PyProof.ReprRoads
import PyProof.ReprBulk
import HandS.Small
import HandS.More
import HandS.Deep
import PyProof.Draws
import PyProof.EnumMake
import PyProof.EnumFor
import OpenK.KOps
import KE.KEqNest
import PyProof.NeKinds
import KE.KDictPairs
import HandS.Text
import HandS.SetKeys
import HandS.Zip
import HandS.TryOnly
import HandS.Finally
import HandS.EndTab
import KE.KNestM
import HandS.NestedK
import PySem.Challenge.RW_likematch_k11_alike
set_option Elab.async false
set_option linter.all false
set_option maxRecDepth 100000
set_option maxHeartbeats 2100000
/-! Kt0: calls of own defs by name; what lets the heap grow. -/
namespace Kt
open PySem PySem.Spec PyProof.Rows L2

/-! ### a def of the text -/
/-- the def x stands at some address, and its parameters bind by place -/
structure Dx (K : PySem.W.Frag) (mg : Str → Option Value) (x : Str) (st : Stmt) (ps : List Str) : Prop where
  ex : ∃ (f : Addr) (fd : FuncData), Fun K x x st f fd ∧ mg x = some (.ref f) ∧ Binds K fd ps []
/-- a def that may be called -/
structure Cl (P : Program) (w : World) (K : PySem.W.Frag) (mg : Str → Option Value) (base : Heap) (CX : CXT) (k : Nat) (x : Str) (ps : List Str) (sp : Sp) : Prop where
  ex : ∃ (f : Addr) (fd : FuncData), FnOk P w K mg base CX k f fd ps sp ∧ mg x = some (.ref f) ∧ PySem.W.keepIn K (.ref f) = true ∧ Binds K fd ps [] ∧ ∃ (oc : Value) (od : Option Addr) (osl : Array (Option Value)), K.lookup f = some ⟨oc, od, .func fd, osl⟩
section
variable {P : Program} {w : World} {K : PySem.W.Frag} {mg : Str → Option Value} {base : Heap} {x : Str} {st : Stmt} {N ps : List Str} {k : Nat} {sp : Sp}
theorem Fun.at {f : Addr} {fd : FuncData} (F : Fun K x x st f fd) : ∃ (oc : Value) (od : Option Addr) (osl : Array (Option Value)), K.lookup f = some ⟨oc, od, .func fd, osl⟩ := by
  obtain ⟨oc, od, kV, doc, pm, an, cdv, ct, osl, _, lk, _⟩ := F.ex
  exact ⟨oc, od, osl, lk⟩
theorem Cl.mono {CX : CXT} {j : Nat} (c : Cl P w K mg base CX j x ps sp) (h : j ≤ k) : Cl P w K mg base CX k x ps sp := by
  obtain ⟨f, fd, F, r⟩ := c.ex
  exact ⟨f, fd, F.mono h, r⟩
/-- THE RULE: a def by its body -/
theorem Cl.mk0 (D : Dx K mg x st ps) (S : FnScope N ps (defScope st)) (len : ∀ vs H Q E, sp vs H Q E → vs.length = ps.length)
    (hbody : ∀ (f : Addr) (cdv : Value) (A : Around) (outer : List Env) (s : Shared) (H : Hp) (vs : List V) (Q : VK) (E : XK), Room k (A.deeper (envOfC x (defScope st) s.heap.objs.size f cdv)) → sp vs H Q E →
      ∃ t, PSs (cxOf CX0 P w K mg base N x (defScope st) f cdv A outer s H E).nox (defBody st) t ∧ t { nx := fun _ H' => Q .non H', rt := Q } (start N vs) H) : Cl P w K mg base CX0 (k + 1) x ps sp := by
  obtain ⟨f, fd, F, m, b⟩ := D.ex
  exact ⟨f, fd, F.ok S len (hbody f), m, F.kp, b, Fun.at F⟩
/-- nothing can be asked of it -/
theorem Cl.no (D : Dx K mg x st ps) (h : ∀ vs H Q E, ¬ sp vs H Q E) {CX : CXT} : Cl P w K mg base CX k x ps sp := by
  obtain ⟨f, fd, F, m, b⟩ := D.ex
  exact ⟨f, fd, ⟨fun vs H Q E q => absurd q (h vs H Q E), fun A outer s H args us vs Q E _ _ _ _ q => absurd q (h vs H Q E)⟩, m, F.kp, b, Fun.at F⟩
end
/-- f(..) of an own def -/
def tC0 (sp : Sp) (E : XK) (t : TA) : TE := fun σ H Q => t σ H fun vs H1 => sp vs H1 Q E
section
variable {X : Cx} {k j : Nat} {x : Str} {ps : List Str} {sp : Sp} {p pos : Pos} {e : Expr} {es : List Expr} {t : TA}
theorem pe_cl (c : Cl X.prog X.w X.K X.mg X.base CX0 k x ps sp) (hr : Room j X.A) (hk : k ≤ j) (hg : Gl X x) (ha : PA X (e :: es) t)
    (hdb : (x == ("__debug__" : Str)) = false := by decide) (he : starEach (e :: es) X.env = (false, eval e X.env) :: starEach es X.env := by rfl) (hpl : (backTo pos (starEach es X.env)).any (·.1) = false := by rfl) :
    PE X (.Call (.Name x p) (e :: es) [] pos) (tC0 sp E0 t) := by
  obtain ⟨f, fd, F, hm, kp, b, _⟩ := c.ex
  refine ⟨fun pins s σ H Q I h => ?_⟩
  refine (pe_call F (hr.mono hk) hg hm kp b .nil pass0 ha hdb he hpl).run pins s σ H Q I ?_
  refine cast ?_ h
  show tC0 sp E0 t σ H Q = t σ H (fun vs H1 => sp (vs ++ []) H1 Q E0)
  simp only [List.append_nil]
  rfl
end
/-- f(x = ..) by its only parameter's name -/
structure ClK (P : Program) (w : World) (K : PySem.W.Frag) (mg : Str → Option Value) (base : Heap) (CX : CXT) (k : Nat) (x : Str) (ps : List Str) (sp : Sp) : Prop where
  ex : ∃ (f : Addr) (fd : FuncData), FnOk P w K mg base CX k f fd ps sp ∧ mg x = some (.ref f) ∧ PySem.W.keepIn K (.ref f) = true ∧ ∀ (s : Shared) (us : List Value), us.length = ps.length → BindsTo s fd ⟨[], ps.zip us⟩ (ps.zip us)
/-- a def that may be called by place may be by its parameters' names -/
theorem Cl.kw {P : Program} {w : World} {K : PySem.W.Frag} {mg : Str → Option Value} {base : Heap} {CX : CXT} {x : Str} {st : Stmt} {ps : List Str} {k : Nat} {sp : Sp} (c : Cl P w K mg base CX k x ps sp) (D : Dx K mg x st ps)
    (h : ∀ (kV doc pm : Value) (an : Option Addr) (cdv ct : Value) (us : List Value), us.length = ps.length → bindArgs (PySem.W.fnOf x x (defArgs st) (defBody st) (defScope st) .none kV doc pm an cdv ct) ⟨[], ps.zip us⟩ = pure (ps.zip us)) : ClK P w K mg base CX k x ps sp := by
  obtain ⟨f, fd, F, m, kp, b, oc, od, osl, lk⟩ := c.ex
  obtain ⟨f', fd', F', m', b'⟩ := D.ex
  rw [m] at m'
  cases m'
  obtain ⟨oc', od', kV, doc, pm, an, cdv, ct, osl', rfl, lk', _⟩ := F'.ex
  rw [lk] at lk'
  cases lk'
  exact ⟨f, _, F, m, kp, fun s us hl => .of_eq (h kV doc pm an cdv ct us hl)⟩
section
variable {X : Cx} {k j : Nat} {x : Str} {ps : List Str} {sp : Sp} {p pos : Pos} {kws : List Keyword} {tk : TA}
def tCK (sp : Sp) (E : XK) (tk : TA) : TE := fun σ H Q => tk σ H fun zs H2 => sp zs H2 Q E
theorem pe_clK (c : ClK X.prog X.w X.K X.mg X.base CX0 k x ps sp) (hr : Room j X.A) (hk : k ≤ j) (hg : Gl X x) (hkw : PK X kws tk)
    (hall : (backToKw pos (keywordEach kws X.env)).all (·.1.isSome) = true := by rfl) (hks : (backToKw pos (keywordEach kws X.env)).filterMap (·.1) = ps := by rfl) (hdb : (x == ("__debug__" : Str)) = false := by decide)
    (hpl : ((backTo pos (starEach [] X.env)).any (·.1) || (backToKw pos (keywordEach kws X.env)).any (·.1.isNone)) = false := by rfl) :
    PE X (.Call (.Name x p) [] kws pos) (tCK sp E0 tk) := by
  obtain ⟨f, fd, F, hm, kp, b⟩ := c.ex
  refine ⟨fun pins s σ H Q I h => ?_⟩
  refine wpAny_Call_Name_kw (ld_glob I hg hm ?_ hdb)
  refine PySem.W.callWith_KW0 (h₀ := X.base) I.ok.mod.kin kp hall ?_ hpl
  refine thn (hkw.run pos pins s σ H _ I h) fun ws s2 ⟨zs, H2, I2, rz, q2⟩ => ⟨I2.kIn, ?_⟩
  rw [hks]
  have hl : ws.length = ps.length := by rw [← rz.length]; exact F.len _ _ _ _ q2
  refine wpAny_call (codeAny_mono (F.run X.A X.stack s2 H2 ⟨[], ps.zip ws⟩ ws zs Q E0 (hr.mono hk) I2.env0 (b s2 ws hl) rz q2) fun r s' hq => ?_)
  cases r with
  | error e => exact pass0 pins σ H2 s2 e s' I2 hq
  | ok fl =>
    cases fl with
    | ret u => exact I2.after hq
    | next => exact False.elim hq
    | brk => exact False.elim hq
    | cont => exact False.elim hq
end
/-! ### error classes of the text -/
/-- where a module's name stands -/
def clsA (mg : Str → Option Value) (x : Str) : Addr := match mg x with | some (.ref a) => a | _ => 0
/-- an own class of errors over ValueError, without an __init__ of its own -/
structure ExF (K : PySem.W.Frag) (mg : Str → Option Value) (x : Str) (C : Addr) : Prop where
  g : mg x = some (.ref C)
  x : PySem.W.excIn K C [.type "ValueError", .type "Exception", .type "BaseException", .type "object"] "ValueError.__new__" = true
  k : PySem.W.keepIn K (.ref C) = true
  b : PySem.W.subIn K (.ref C) (.type "BaseException") = some true
  t : PySem.W.typeIn K (.ref C) = some (.type "type")
  i : PySem.W.isClsIn K C = true
  s : PySem.W.subIn K (.ref C) (.ref C) = some true
theorem ExF.at {K : PySem.W.Frag} {mg : Str → Option Value} {x : Str} {C : Addr} (g : mg x = some (.ref C)) (e : PySem.W.excIn K C [.type "ValueError", .type "Exception", .type "BaseException", .type "object"] "ValueError.__new__" = true) (k : PySem.W.keepIn K (.ref C) = true)
    (b : PySem.W.subIn K (.ref C) (.type "BaseException") = some true) (t : PySem.W.typeIn K (.ref C) = some (.type "type")) (i : PySem.W.isClsIn K C = true) (s : PySem.W.subIn K (.ref C) (.ref C) = some true) : ExF K mg x (clsA mg x) := by
  have e0 : clsA mg x = C := by
    unfold clsA
    rw [g]
  rw [e0]
  exact ⟨g, e, k, b, t, i, s⟩
section
variable {P : Program} {w : World} {K : PySem.W.Frag} {mg : Str → Option Value} {base : Heap} {x : Str} {st : Stmt} {N ps : List Str} {k : Nat} {sp : Sp}
/-- a def that may raise, by its body -/
theorem Cl.mkX (D : Dx K mg x st ps) (S : FnScope N ps (defScope st)) (len : ∀ vs H Q E, sp vs H Q E → vs.length = ps.length)
    (hbody : ∀ (f : Addr) (cdv : Value) (A : Around) (outer : List Env) (s : Shared) (H : Hp) (vs : List V) (Q : VK) (E : XK), Room k (A.deeper (envOfC x (defScope st) s.heap.objs.size f cdv)) → sp vs H Q E →
      ∃ t, PSs (cxOf (L2.CX P w) P w K mg base N x (defScope st) f cdv A outer s H E) (defBody st) t ∧ t { nx := fun _ H' => Q .non H', rt := Q } (start N vs) H) : Cl P w K mg base (L2.CX P w) (k + 1) x ps sp := by
  obtain ⟨f, fd, F, m, b⟩ := D.ex
  exact ⟨f, fd, F.okX S len (hbody f), m, F.kp, b, Fun.at F⟩
end
section
variable {X : Cx} {k j : Nat} {x : Str} {ps : List Str} {sp : Sp} {p pos : Pos} {e : Expr} {es : List Expr} {t : TA} {E : L2.St → XK}
/-- f(..) of a def that may raise -/
theorem pe_clS (c : Cl X.prog X.w X.K X.mg X.base (L2.CX X.prog X.w) k x ps sp) (hr : Room j X.A) (hk : k ≤ j) (hg : Gl X x) (hx : ∀ σ, PassesAt (L2.CX X.prog X.w) X σ (E σ)) (ha : PA X (e :: es) t)
    (hdb : (x == ("__debug__" : Str)) = false := by decide) (he : starEach (e :: es) X.env = (false, eval e X.env) :: starEach es X.env := by rfl) (hpl : (backTo pos (starEach es X.env)).any (·.1) = false := by rfl) :
    PE X (.Call (.Name x p) (e :: es) [] pos) (tCallS sp E t) := by
  obtain ⟨f, fd, F, hm, kp, b, _⟩ := c.ex
  exact pe_callS F (hr.mono hk) hg hm kp b hx ha hdb he hpl
end
end Kt
namespace Kt
open PySem PySem.Spec PyProof.Rows L2

/-- a slice's part that is left out -/
abbrev tNo : TO := fun _ H Q => Q none H
theorem po_no {X : Cx} : PO X none tNo := po_none
/-! ### heaps that grow -/
theorem same_new {H : Hp} {p : Addr} (h : H p = none) (o : HO) : Same H (upd H p o) := fun b u q => by rw [upd_ne (ne_of_none q h)]; exact q
/-- an object that the first does not know may change -/
theorem Same.mut {H H' : Hp} {p : Addr} {o : HO} (e : Same H H') (h : H p = none) : Same H (upd H' p o) := fun a u ha => by
  rw [upd_ne (ne_of_none ha h)]
  exact e a u ha
/-- tuples stand; lists and dicts are lists and dicts still -/
structure Wk (H H' : Hp) : Prop where
  tup : ∀ a xs, H a = some (.tup xs) → H' a = some (.tup xs)
  lst : ∀ a xs, H a = some (.lst xs) → ∃ ys, H' a = some (.lst ys)
  dK : ∀ a xs, H a = some (.dK xs) → ∃ ys, H' a = some (.dK ys)
theorem Wk.refl (H : Hp) : Wk H H := ⟨fun _ _ h => h, fun _ xs h => ⟨xs, h⟩, fun _ xs h => ⟨xs, h⟩⟩
theorem Wk.trans {H H1 H2 : Hp} (a : Wk H H1) (b : Wk H1 H2) : Wk H H2 :=
  ⟨fun x xs h => b.tup _ _ (a.tup _ _ h), fun x xs h => let ⟨_, e⟩ := a.lst _ _ h; b.lst _ _ e, fun x xs h => let ⟨_, e⟩ := a.dK _ _ h; b.dK _ _ e⟩
theorem Wk.same {H H' : Hp} (h : Same H H') : Wk H H' := ⟨fun _ _ q => h _ _ q, fun _ xs q => ⟨xs, h _ _ q⟩, fun _ xs q => ⟨xs, h _ _ q⟩⟩

/-! ### things -/
inductive Th where
  | non | bl (b : Bool) | int (i : Int) | str (z : Str) | tup (l : List Th) | ls | dc
/-- its signs are signs -/
def okS (z : Str) : Prop := ∀ c ∈ z.cps.toList, c < 1114112
mutual
/-- v stands for the thing t -/
inductive Rep (H : Hp) : V → Th → Prop
  | non : Rep H .non .non
  | bl (b : Bool) : Rep H (.bl b) (.bl b)
  | int (i : Int) : Rep H (.int i) (.int i)
  | str (z : Str) (h : z.length ≤ 100) (ok : okS z) : Rep H (.str z) (.str z)
  | tup {a : Addr} {xs : List V} {l : List Th} (h : H a = some (.tup xs)) (n : xs.length ≤ 100) (hl : RepL H xs l) : Rep H (.ref a) (.tup l)
  | ls {a : Addr} {xs : List V} (h : H a = some (.lst xs)) : Rep H (.ref a) .ls
  | dc {a : Addr} {kvs : List (Key × V)} (h : H a = some (.dK kvs)) : Rep H (.ref a) .dc
inductive RepL (H : Hp) : List V → List Th → Prop
  | nil : RepL H [] []
  | cons {v : V} {vs : List V} {t : Th} {ts : List Th} (h : Rep H v t) (r : RepL H vs ts) : RepL H (v :: vs) (t :: ts)
end
mutual
theorem Rep.wk {H H' : Hp} (w : Wk H H') : ∀ {v : V} {t : Th}, Rep H v t → Rep H' v t
  | _, _, .non => .non
  | _, _, .bl b => .bl b
  | _, _, .int i => .int i
  | _, _, .str z h ok => .str z h ok
  | _, _, .tup h n hl => .tup (w.tup _ _ h) n (RepL.wk w hl)
  | _, _, .ls h => let ⟨_, e⟩ := w.lst _ _ h; .ls e
  | _, _, .dc h => let ⟨_, e⟩ := w.dK _ _ h; .dc e
theorem RepL.wk {H H' : Hp} (w : Wk H H') : ∀ {vs : List V} {ts : List Th}, RepL H vs ts → RepL H' vs ts
  | _, _, .nil => .nil
  | _, _, .cons h r => .cons (Rep.wk w h) (RepL.wk w r)
end
theorem RepL.length {H : Hp} : ∀ {vs : List V} {ts : List Th}, RepL H vs ts → vs.length = ts.length
  | _, _, .nil => rfl
  | _, _, .cons _ r => congrArg Nat.succ (RepL.length r)
theorem RepL.get {H : Hp} : ∀ {vs : List V} {ts : List Th} {i : Nat} {t : Th}, RepL H vs ts → ts[i]? = some t → ∃ v, vs[i]? = some v ∧ Rep H v t
  | _, _, _, _, .nil, e => by simp at e
  | _, _, 0, t, .cons h _, e => by simp at e; subst e; exact ⟨_, rfl, h⟩
  | _, _, i + 1, t, .cons _ r, e => by
    obtain ⟨v, h1, h2⟩ := RepL.get (i := i) (t := t) r (by simpa using e)
    exact ⟨v, by simpa using h1, h2⟩
theorem RepL.get' {H : Hp} : ∀ {vs : List V} {ts : List Th} {i : Nat} {v : V}, RepL H vs ts → vs[i]? = some v → ∃ t, ts[i]? = some t ∧ Rep H v t
  | _, _, _, _, .nil, e => by simp at e
  | _, _, 0, t, .cons h _, e => by simp at e; subst e; exact ⟨_, rfl, h⟩
  | _, _, i + 1, t, .cons _ r, e => by
    obtain ⟨v, h1, h2⟩ := RepL.get' (i := i) (v := t) r (by simpa using e)
    exact ⟨v, by simpa using h1, h2⟩
theorem RepL.append {H : Hp} : ∀ {vs : List V} {ts : List Th} {vs' : List V} {ts' : List Th}, RepL H vs ts → RepL H vs' ts' → RepL H (vs ++ vs') (ts ++ ts')
  | _, _, _, _, .nil, s => s
  | _, _, _, _, .cons h r, s => .cons h (RepL.append r s)
theorem RepL.take {H : Hp} : ∀ {vs : List V} {ts : List Th} (n : Nat), RepL H vs ts → RepL H (vs.take n) (ts.take n)
  | _, _, 0, _ => .nil
  | _, _, _ + 1, .nil => .nil
  | _, _, n + 1, .cons h r => .cons h (RepL.take n r)
theorem RepL.drop {H : Hp} : ∀ {vs : List V} {ts : List Th} (n : Nat), RepL H vs ts → RepL H (vs.drop n) (ts.drop n)
  | _, _, 0, r => r
  | _, _, _ + 1, .nil => .nil
  | _, _, n + 1, .cons _ r => RepL.drop n r
theorem RepL.rep {H : Hp} {vs : List V} {ts : List Th} (r : RepL H vs ts) : ∀ n : Nat, RepL H (List.replicate n vs).flatten (List.replicate n ts).flatten
  | 0 => .nil
  | n + 1 => by
    rw [List.replicate_succ, List.replicate_succ, List.flatten_cons, List.flatten_cons]
    exact r.append (RepL.rep r n)

/-! ### isinstance -/
def Th.ty : Th → String
  | .non => "NoneType" | .bl _ => "bool" | .int _ => "int" | .str _ => "str" | .tup _ => "tuple" | .ls => "list" | .dc => "dict"
def Th.isStr : Th → Bool | .str _ => true | _ => false
def Th.isTup : Th → Bool | .tup _ => true | _ => false
def Th.isBl : Th → Bool | .bl _ => true | _ => false
theorem Rep.tyx {K : PySem.W.Frag} {H : Hp} {v : V} {t : Th} (r : Rep H v t) : TyX K H v (.type t.ty) := by
  cases r with
  | non => exact .base .non
  | bl b => exact .base (.bl b)
  | int i => exact .base (.int i)
  | str z h ok => exact .base (.str z)
  | tup h n hl => exact .base (.tup h)
  | ls h => exact .base (.lst h)
  | dc h => exact .base (.dK h)
theorem kstr {K : PySem.W.Frag} : ∀ t : Th, PySem.W.kitOne K (.type t.ty) (.type "str") = some t.isStr
  | .non => kit_ty (show kitB "NoneType" "str" = some false by decide +kernel)
  | .bl _ => kit_ty (show kitB "bool" "str" = some false by decide +kernel)
  | .int _ => kit_ty (show kitB "int" "str" = some false by decide +kernel)
  | .str _ => kit_ty (show kitB "str" "str" = some true by decide +kernel)
  | .tup _ => kit_ty (show kitB "tuple" "str" = some false by decide +kernel)
  | .ls => kit_ty (show kitB "list" "str" = some false by decide +kernel)
  | .dc => kit_ty (show kitB "dict" "str" = some false by decide +kernel)
theorem ktup {K : PySem.W.Frag} : ∀ t : Th, PySem.W.kitOne K (.type t.ty) (.type "tuple") = some t.isTup
  | .non => kit_ty (show kitB "NoneType" "tuple" = some false by decide +kernel)
  | .bl _ => kit_ty (show kitB "bool" "tuple" = some false by decide +kernel)
  | .int _ => kit_ty (show kitB "int" "tuple" = some false by decide +kernel)
  | .str _ => kit_ty (show kitB "str" "tuple" = some false by decide +kernel)
  | .tup _ => kit_ty (show kitB "tuple" "tuple" = some true by decide +kernel)
  | .ls => kit_ty (show kitB "list" "tuple" = some false by decide +kernel)
  | .dc => kit_ty (show kitB "dict" "tuple" = some false by decide +kernel)
theorem kbl {K : PySem.W.Frag} : ∀ t : Th, PySem.W.kitOne K (.type t.ty) (.type "bool") = some t.isBl
  | .non => kit_ty (show kitB "NoneType" "bool" = some false by decide +kernel)
  | .bl _ => kit_ty (show kitB "bool" "bool" = some true by decide +kernel)
  | .int _ => kit_ty (show kitB "int" "bool" = some false by decide +kernel)
  | .str _ => kit_ty (show kitB "str" "bool" = some false by decide +kernel)
  | .tup _ => kit_ty (show kitB "tuple" "bool" = some false by decide +kernel)
  | .ls => kit_ty (show kitB "list" "bool" = some false by decide +kernel)
  | .dc => kit_ty (show kitB "dict" "bool" = some false by decide +kernel)


/-! ### lists of ints, bools, texts as data -/
theorem dpInts {K : PySem.W.Frag} {H : Hp} : ∀ ns : List Int, DpAll K H (ns.map V.int) (ns.map PyData.int)
  | [] => .nil
  | n :: r => .cons (.int n) (dpInts r)
theorem dpBls {K : PySem.W.Frag} {H : Hp} : ∀ ns : List Bool, DpAll K H (ns.map V.bl) (ns.map PyData.bool)
  | [] => .nil
  | n :: r => .cons (.bl n) (dpBls r)
theorem dpStrs {K : PySem.W.Frag} {H : Hp} : ∀ ns : List Str, DpAll K H (ns.map V.str) (ns.map PyData.str)
  | [] => .nil
  | n :: r => .cons (.str n) (dpStrs r)
theorem depth_all0 {α : Type} {f : α → PyData} (h : ∀ a, (f a).depth = 0) : ∀ l : List α, PyData.depthAll (l.map f) = 0
  | [] => rfl
  | a :: r => by
    show max (f a).depth (PyData.depthAll (r.map f)) = 0
    rw [h a, depth_all0 h r]
    rfl
theorem can_all {α : Type} {f : α → PyData} : ∀ l : List α, (∀ a ∈ l, (f a).canLay0 = true) → PyData.canLayAll0 (l.map f) = true
  | [], _ => rfl
  | a :: r, h => by
    show ((f a).canLay0 && PyData.canLayAll0 (r.map f)) = true
    rw [h a (List.mem_cons_self ..), can_all r fun b hb => h b (List.mem_cons_of_mem _ hb)]
    rfl
theorem shaped_of {α : Type} {f : α → PyData} (h : ∀ a, (f a).depth = 0) (l : List α) (c : ∀ a ∈ l, (f a).canLay0 = true) : SeqAt.shaped (.list (l.map f)) = true := by
  unfold SeqAt.shaped
  have e1 : (PyData.list (l.map f)).canLay0 = true := can_all l c
  have e2 : (PyData.list (l.map f)).depth = 1 := by
    show PyData.depthAll (l.map f) + 1 = 1
    rw [depth_all0 h]
  rw [e1, e2]
  rfl
theorem shapedInts (l : List Int) : SeqAt.shaped (.list (l.map PyData.int)) = true := shaped_of (fun _ => rfl) l fun _ _ => rfl
theorem shapedBls (l : List Bool) : SeqAt.shaped (.list (l.map PyData.bool)) = true := shaped_of (fun _ => rfl) l fun _ _ => rfl
theorem shapedStrs (l : List Str) (h : ∀ z ∈ l, okS z) : SeqAt.shaped (.list (l.map PyData.str)) = true := shaped_of (fun _ => rfl) l fun z hz => by
  have := h z hz
  simp only [PyData.canLay0, PyData.strOk, Array.all_eq_true_iff_forall_mem, decide_eq_true_eq]
  intro x hx
  exact this x (Array.mem_toList_iff.mpr hx)
theorem eqvNil (l : List PyData) : PyData.eqv (.list l) (.list []) = l.isEmpty := by
  cases l <;> rfl
theorem eqvBls : ∀ l r : List Bool, PyData.eqvAll (l.map PyData.bool) (r.map PyData.bool) = decide (l = r)
  | [], [] => rfl
  | [], b :: s => by simp [PyData.eqvAll]
  | a :: l, [] => by simp [PyData.eqvAll]
  | a :: l, b :: r => by
    show (PyData.eqv (.bool a) (.bool b) && PyData.eqvAll (l.map PyData.bool) (r.map PyData.bool)) = _
    rw [eqvBls l r]
    show ((a == b) && decide (l = r)) = _
    by_cases h : a = b
    · subst h
      simp
    · simp [h]

theorem yesI {σ : L2.St} {H : Hp} {X Y : Hp → Prop} (h : X H) : tYes σ H fun b H3 => if b = true then X H3 else Y H3 := by
  unfold tYes
  dsimp only
  rw [if_pos rfl]
  exact h
/-! ### comprehensions whose element only tells -/
section
variable {J : It} {n : Nat} {G : Hp → Prop} {Y : Nat → Hp → V → Hp → Prop} {te : TE} {vs : List Nat} {σ : L2.St} {H1 : Hp} {D : Addr} {Qd : Hp → Prop} {j : Nat}
theorem lc_pure (w : Walk J n G Y) (f : Nat → V) (hD : H1 D = none) (hn : n ≤ 1000) (hG : ∀ H', Same H1 H' → G H') (hset : ∀ x, wipe ((wipe σ vs).set j (some x)) vs = wipe σ vs)
    (he : ∀ i x H H', i < n → Same H1 H → Y i H x H' → Same H H' ∧ ∀ Q : VK, (∀ H2, Same H' H2 → Q (f i) H2) → te ((wipe σ vs).set j (some x)) H' Q)
    (hd : ∀ H', Same H1 H' → H' D = some (.lst ((List.range n).map f)) → Qd H') :
    ∃ W : Nat → Nat → Hp → Prop, (∃ m, W 0 m (upd H1 D (.lst []))) ∧ ∀ i m H, W i m H →
      (J.stop i H ∧ Qd H) ∨ (J.go i H ∧ ∃ Nx : Hp → Prop, (∀ H', Nx H' → ∃ m', m' < m ∧ W (i + 1) m' H') ∧ ∀ x H', J.yld i H x H' → gName j x (wipe σ vs) H' fun σ2 H2 => wipe σ2 vs = wipe σ vs ∧ tYes σ2 H2 fun b H3 =>
        if b = true then te σ2 H3 fun y H4 => ∃ acc, H4 D = some (.lst acc) ∧ acc.length < sizeLine ∧ Nx (upd H4 D (.lst (acc ++ [y]))) else Nx H3) := by
  refine lc_it w (g := gName j) (tt := tYes) (fun i H => Same H1 H ∧ H D = some (.lst ((List.range i).map f))) ⟨same_new hD _, upd_same⟩ (fun i H _ p => hG H p.1) (fun i x H H' hi p y => ?_) (fun H p => hd H p.1 p.2)
  obtain ⟨s, k⟩ := he i x H H' hi p.1 y
  refine ⟨hset x, ?_⟩
  unfold tYes
  dsimp only
  rw [if_pos rfl]
  refine k _ fun H2 s2 => ⟨_, s2 _ _ (s _ _ p.2), ?_, ?_, ?_⟩
  · rw [List.length_map, List.length_range]
    exact small1000 (by omega)
  · exact Same.mut ((p.1.trans s).trans s2) hD
  · rw [upd_same, List.range_succ, List.map_append]
    rfl
end
end Kt
namespace Kt
open PySem PySem.Spec PyProof.Rows L2
/-! a tuple once is the tuple itself -/
theorem tuple_mul1 (l : Addr) (items : Array Value) (n : Nat) (dd : Option Addr) (sl : Array (Option Value)) (u : Tok) (c1 : (items.isEmpty || (1 : Int) == 1) = true) :
    Meets (Builtin.«tuple.__mul__» ⟨[.ref l, .int 1 u], []⟩) (fun _ R s => s.heap.get? l = some { cls := .type "tuple", dict := dd, data := .seq items n, slots := sl } ∧
      R (.ok (.ret (Value.ref l))) s) :=
  .of_wp fun prog w A R s h => by
    obtain ⟨hp, g, d, tk, os⟩ := s
    obtain ⟨hl, h⟩ := h
    have f1 := AutoSeq1.idx_int
    wp_walk using wpAny_loadPart' hl
    repeat (first
      | (refine wpAny_ite_false (decide_eq_false (by decide)) ?_; wp_walk using wpAny_loadPart' hl)
      | (refine wpAny_ite_true (decide_eq_true (by rw [c1])) ?_; wp_walk using wpAny_loadPart' hl))
    exact ⟨_, rfl, h⟩
section
variable {X : Cx}
def rRep1 (K : PySem.W.Frag) : R2 := fun x y H Q => ∃ l xs, x = .ref l ∧ y = .int 1 ∧ SqT K H l xs ∧ Q (.ref l) H
theorem op_rep1 : OpR X (binaryOp .Mult) (rRep1 X.K) := by
  intro pins s σ H x y v u Q I rx ry h
  obtain ⟨l, xs, rfl, rfl, hT, q⟩ := h
  cases rx
  obtain ⟨t, rfl⟩ := ry
  obtain ⟨its, r, ⟨⟨cls, dd, data, sl⟩, ho, hc, n, hd⟩, hs⟩ := I.tuple hT
  simp only at hc hd
  subst hc hd
  refine wpAny_binaryOp_repeat_ref (T := "tuple") (U := "int") (by decide) ⟨_, ho, rfl⟩ (fun s' => typeIs_int s' 1 t) noFill_tuple_mul F.fills_int_mul F.slot_int_rmul repeat_tuple F.slot_int_index.lookup
    (call_meets F.slot_int_rmul (typeIs_int s 1 t) F.entry_int_rmul (F.args_int_rmul_2 _ _) (int_rmul_tuple 1 t l its.toArray n dd sl)
      ⟨ho, rfl, ⟨_, ho, rfl⟩, call_meets F.slot_tuple_mul ⟨_, ho, rfl⟩ F.entry_tuple_mul (F.args_tuple_mul_2 _ _) (tuple_mul1 l its.toArray n dd sl t (by rw [Bool.or_eq_true]; exact .inr rfl)) ⟨ho, ?_⟩⟩)
  exact ⟨.ref l, H, I, rfl, q⟩
/-- a tuple, one to a thousand times -/
def rRepA (K : PySem.W.Frag) : R2 := fun x y H Q => rRepT K x y H Q ∨ rRep1 K x y H Q
theorem op_repTA : OpR X (binaryOp .Mult) (rRepA X.K) := OpR.or op_repT op_rep1
end
end Kt
namespace Kt
open PySem PySem.Spec PyProof.Rows L2
theorem clsA_of {mg : Str → Option Value} {x : Str} {C : Addr} (at_ : mg x = some (.ref C)) : clsA mg x = C := by
  unfold clsA
  rw [at_]
/-! ### an error that is kept behind its except suite -/
/-- an error object of the class cls, with the dict d, that nobody handles any more -/
def ExK (cls : Value) (d : Option Addr) (a : Addr) : HO := .ext fun heap => ∃ (ob : Obj) (fl : Array Value), heap.get? a = some ob ∧ Zc cls d ob ∧ ob.data = .fields fl
theorem exK_ok {P : Program} {w : World} {H : Hp} {heap : Heap} {a : Addr} {cls : Value} {d : Option Addr} {ob : Obj} {fl : Array Value} (there : heap.get? a = some ob) (kind : Zc cls d ob) (flds : ob.data = .fields fl) : ObjOk P w H heap a (ExK cls d a) :=
  ⟨⟨ob, fl, there, kind, flds⟩, ⟨ob, there⟩, fun _ _ ⟨o, v, g, k⟩ keeps => ⟨o, v, keeps o g, k⟩⟩
section
variable {X : Cx} {pl : List (Addr × Obj)} {σ : L2.St} {H : Hp} {sh : Shared} {a : Addr} {ob : Obj} {fl : Array Value}
/-- an object that stands, unknown at the entry, is told of from here on -/
theorem Inv.track {o : HO} (I : Inv X pl σ H sh) (there : sh.heap.get? a = some ob) (flds : ob.data = .fields fl) (gone : H a = none) (entry : X.s_0.heap.get? a = none) (loc : a ≠ X.env.locals)
    (pins : ∀ p ∈ X.pn ++ pl, p.1 ≠ a) (new : ObjOk X.prog X.w (upd H a o) sh.heap a o) : Inv X pl σ (upd H a o) sh := by
  have still : ∀ {b : Addr} {u : HO}, H b = some u → upd H a o b = some u := fun {b u} t => by rw [upd_ne (ne_of_none t gone)]; exact t
  have base := I.base
  refine { I with base := { base with free := fun b u t n hx => ?_, tups := fun b xs t => still (base.tups b xs t), frzs := fun b u xs t => still (base.frzs b u xs t), tbls := fun b ps t => ?_ }, free := ?_, freeC := fun x c t => ?_, pin := fun p hp => ?_, hok := fun b u t => ?_ }
  · rw [upd_ne fun z => by rw [z, entry] at t; cases t]
    exact base.free b u t n hx
  · obtain ⟨more, z⟩ := base.tbls b ps t
    exact ⟨more, still z⟩
  · rw [upd_ne loc.symm]
    exact I.free
  · rw [upd_ne fun z => ?_]
    · exact I.freeC x c t
    · obtain ⟨v, oc, g, isCell⟩ := I.cell x c t
      rw [z, there] at g
      cases g
      rw [flds] at isCell
      cases isCell
  · obtain ⟨p1, p2, p3, p4, p5⟩ := I.pin p hp
    exact ⟨p1, by rw [upd_ne (pins p hp)]; exact p2, p3, p4, p5⟩
  · by_cases e : b = a
    · subst e
      rw [upd_same] at t
      cases t
      exact new
    · rw [upd_ne e] at t
      exact (I.hok b u t).stay (fun _ _ _ z => z) (fun _ z => still z) fun _ _ z => still z
/-- nothing stood where an error that flies over the frames is -/
theorem error_new {B heap : Heap} (top : X.stack = X.env :: X.outer) (frm : X.env.frame = some X.env.locals) (I : Inv X pl σ H sh) (ground : ∀ b o, sh.heap.get? b = some o → b ∉ frs X.stack → B.get? b = some o) (empty : B.get? a = none)
    (over : heap.FunFrames B (X.env :: X.outer)) (there : heap.get? a = some ob) (flds : ob.data = .fields fl) : a ∉ X.fs ∧ a ≠ X.env.locals ∧ sh.heap.get? a = none := by
  have noFrame : a ∉ frs (X.env :: X.outer) := fun isF => by
    obtain ⟨_, _, g, other⟩ := over.mem isF
    exact other _ (by rw [there] at g; cases g; exact flds)
  refine ⟨fun isF => noFrame ?_, fun z => noFrame (List.mem_filterMap.mpr ⟨_, List.mem_cons_self, by rw [frm, z]⟩), ?_⟩
  · obtain ⟨env, m, g⟩ := List.mem_filterMap.mp isF
    exact List.mem_filterMap.mpr ⟨env, List.mem_cons_of_mem _ m, g⟩
  · cases t : sh.heap.get? a with
    | none => rfl
    | some o =>
      have := ground a o t (by rw [top]; exact noFrame)
      rw [empty] at this
      cases this
theorem clause_named {x : Str} {c : Value} {np : Pos} {Q E : Value → Shared → Prop} (nm : Names X x c) (I : Inv (X.suite a ((a, ob) :: pl)) [] σ H sh) (q : Q c sh) : wpAny (model X.prog X.w) (X.A.mark (some (.ref a))) (eval (.Name x np) X.env) Q E sh := by
  rcases nm with ⟨gl, db, own | ⟨miss, blt, nn⟩⟩
  · exact ld_glob (X := X.suite a ((a, ob) :: pl)) I gl own q db
  · exact ld_blt (X := X.suite a ((a, ob) :: pl)) I gl miss blt q nn db
end
/-- what a clause that takes all errors of its body wishes, where the error is told of behind the suite -/
def wVal (K : PySem.W.Frag) (c : Value) (i : Nat) (ts : Addr → Value → Option Addr → TS) (D : Ends) : WX := fun cls d σ H =>
  PySem.W.exmOne K cls c = some true ∧ ∀ a, H a = none → ts a cls d { nx := fun σ1 H1 => D.nx (σ1.set i none) (upd H1 a (ExK cls d a)), rt := fun _ _ => False, bk := fun _ _ => False, ct := fun _ _ => False } (σ.set i (some (.ref a))) H
section
variable {X : Cx} {x n : Str} {c : Value} {i : Nat} {body rest : List Stmt} {first : Stmt} {p1 p2 p3 : Pos} {tb : WX → TS} {ts : Addr → Value → Option Addr → TS}
/-- try: body / except x as n: a suite that ends by itself -/
theorem ps_try_val (noex : X.ex = []) (top : X.stack = X.env :: X.outer) (frm : X.env.frame = some X.env.locals) (nd : X.N.Nodup) (slot : X.N[i]? = some n) (isLoc : X.env.kindOf n = some .local) (nm : Names X x c)
    (inner : ∀ (W : WX) (pl : List (Addr × Obj)) (xe : Value → Shared → Prop), Takes (X.tr pl xe) W → PassesOwn (model X.prog X.w) X.A X.env xe → PSs (X.tr pl xe) body (tb W))
    (suite : ∀ (a : Addr) (ob : Obj) (cls : Value) (d : Option Addr) (pl : List (Addr × Obj)), Zc cls d ob → (∃ fl, ob.data = .fields fl) → PSs (X.suite a ((a, ob) :: pl)) (first :: rest) (ts a cls d)) :
    PS X (.Try body [.ExceptHandler (some (.Name x p1)) (some n) (first :: rest) p2] [] [] p3) (fun D => tb (wVal X.K c i ts D) D) := by
  constructor
  intro pl sh st hp dd inv wish
  have good := inv.ok
  apply wpAny_Try_except
  have run := (inner (wVal X.K c i ts dd) (X.pn ++ pl) (fun e s₁ => wpAny (model X.prog X.w) X.A (noteFrame e X.env) (fun _ s₂ => wpAny (model X.prog X.w) X.A (setFlight e none) (fun _ s₃ =>
    wpAny (model X.prog X.w) X.A (handleBy e X.env [.ExceptHandler (some (.Name x p1)) (some n) (first :: rest) p2]) (SP X pl dd) X.xe s₃) X.xe s₂) X.xe s₁) ?caught PassesOwn.looking).run [] sh st hp dd (inv.toTry _) wish
  case caught =>
    intro val sE flies
    obtain ⟨a, B, sB, plB, stB, hpB, cls, d, rfl, invT, ground, upTo, sky, gone, sameOs, bare, matches_, go⟩ := flies
    have invB := invT.ofTry (pins := pl) good
    rw [show (X.tr (X.pn ++ pl) _).stack = X.env :: X.outer from top] at sky
    show wpAny (model X.prog X.w) X.A (noteFrame _ _) _ _ _
    apply Sky.land Zc.steady (show X.A.frames = some (X.env :: X.outer) by rw [good.frames, top]) frm sky
    intro heap1 air1 up1
    have inv1 := invB.landed (s' := { sE with heap := heap1 }) ground air1.1 (upTo.trans up1) sameOs bare
    obtain ⟨ob1, fl1, there1, kind1, flds1⟩ := air1.there
    obtain ⟨noFs, noLoc, notB⟩ := error_new top frm invB ground air1.2.1 air1.2.2.1 there1 flds1
    have entry : X.s_0.heap.get? a = Option.none := by
      cases t : X.s_0.heap.get? a with
      | none => rfl
      | some o =>
        obtain ⟨_, z⟩ := invB.base.there a o t (by rw [noex]; exact List.not_mem_nil)
        rw [notB] at z
        cases z
    have apart : ∀ p ∈ X.pn ++ pl, p.1 ≠ a := fun p hp z => by
      have := (invB.pin p hp).1
      rw [z, notB] at this
      cases this
    apply wpAny_handleBy_cons (codeAny_handlers_test ?_) (fun z => by cases z)
    refine clause_named nm (inv1.suite there1 flds1 gone noLoc noFs) ?_
    have isOf : PySem.W.Looks (model X.prog X.w) heap1 (typeOf (.ref a)) cls := fun _ _ _ _ keeps q => wpAny_typeOf_ref (keeps _ _ there1) (by rw [kind1.1]; exact q)
    refine (PySem.W.exm_one inv1.kIn isOf matches_).here (codeAny_handlers_suite_as ?_)
    apply HandSPX.lands_againZ air1
    intro heap2 air2 up2
    have inv2 := invB.landed (s' := { sE with heap := heap2 }) ground air2.1 ((upTo.trans up1).trans up2) sameOs bare
    obtain ⟨ob2, fl2, there2, kind2, flds2⟩ := air2.there
    refine store_ok (X := X.suite a ((a, ob2) :: (X.pn ++ pl))) (v := .ref a) (inv2.suite there2 flds2 gone noLoc noFs) nd slot (.inl isLoc) rfl (fun s3 inv3 => ?_) (.inr isLoc)
    refine wpAny_mono ((suite a ob2 cls d (X.pn ++ pl) kind2 ⟨_, flds2⟩).run [] s3 _ hpB _ inv3 (go a gone)) (fun flow s4 ended => ?_) fun _ _ never => never.elim
    match flow, ended with
    | .next, ⟨st4, hp4, inv4, q4⟩ =>
      obtain ⟨g4, none4, _⟩ := inv4.pin (a, ob2) (List.mem_append.mpr (.inl List.mem_cons_self))
      have inv5 := inv4.unsuite good
      have pinned : ∀ p ∈ (a, ob2) :: (X.pn ++ pl), s4.heap.get? p.1 = some p.2 ∧ hp4 p.1 = Option.none ∧ p.1 ≠ X.env.locals ∧ p.1 ∉ X.fs ∧ ∀ v, p.2.data ≠ .cell v := fun p m => by
        rcases List.mem_cons.mp m with rfl | old
        · refine ⟨g4, none4, noLoc, noFs, fun v z => ?_⟩
          rw [flds2] at z
          cases z
        · exact inv5.pin p old
      have inv6 : Inv (X.tr ((a, ob2) :: X.pn) X.xe) pl st4 hp4 s4 := ⟨good.toTry _ _, inv5.os, inv5.bare, inv5.base, inv5.loc, inv5.cell, inv5.free, inv5.freeC, pinned, inv5.hok, inv5.len⟩
      refine gone_ok (X := X.tr ((a, ob2) :: X.pn) X.xe) inv6 nd slot isLoc fun s7 inv7 => ⟨_, _, ?_, q4⟩
      have g7 := (inv7.pin (a, ob2) (List.mem_append.mpr (.inl List.mem_cons_self))).1
      have inv8 : Inv X pl (st4.set i Option.none) hp4 s7 := ⟨good, inv7.os, inv7.bare, inv7.base, inv7.loc, inv7.cell, inv7.free, inv7.freeC, fun p m => inv7.pin p (List.mem_cons_of_mem _ m), inv7.hok, inv7.len⟩
      exact Inv.track inv8 g7 flds2 none4 entry noLoc apart (exK_ok g7 kind2 flds2)
    | .brk, ⟨_, _, _, no⟩ => exact no.elim
    | .cont, ⟨_, _, _, no⟩ => exact no.elim
    | .ret _, ⟨_, _, _, _, _, no⟩ => exact no.elim
  refine wpAny_mono run (fun flow s1 ended => ?_) fun _ _ z => z
  match flow, ended with
  | .next, ⟨_, _, inv1, q1⟩ => exact wpAny_execs_nil ⟨_, _, inv1.ofTry good, q1⟩
  | .brk, ⟨_, _, inv1, q1⟩ => exact ⟨_, _, inv1.ofTry good, q1⟩
  | .cont, ⟨_, _, inv1, q1⟩ => exact ⟨_, _, inv1.ofTry good, q1⟩
  | .ret _, ⟨_, _, _, inv1, rel, q1⟩ => exact ⟨_, _, _, inv1.ofTry good, rel, q1⟩
end
/-- isinstance(e, c) of a kept error -/
def rIsK (K : PySem.W.Frag) : List V → Hp → VK → Prop := fun args H Q => ∃ (a D : Addr) (c : V) (cv : Value) (b : Bool), args = [.ref a, c] ∧ ExcC K D ∧ H a = some (ExK (.ref D) none a) ∧ (∀ u, RelV c u → u = cv) ∧ PySem.W.kitOne K (.ref D) cv = some b ∧ Q (.bl b) H
theorem call_isK {X : Cx} : CallR X (.builtin "isinstance") (rIsK X.K) := by
  intro pl sh st hp args vals Q inv rel told
  obtain ⟨a, D, c, cv, b, rfl, fit, kept, named, is_, q⟩ := told
  obtain ⟨u, rfl, r1⟩ : ∃ u, vals = [.ref a, u] ∧ RelV c u := by
    cases rel with
    | cons r0 more =>
      cases more with
      | cons r1 more =>
        cases more
        cases r0
        exact ⟨_, rfl, r1⟩
  obtain rfl := named u r1
  obtain ⟨⟨⟨_, _, dat, _⟩, fl, there, ⟨isD, noDict⟩, flds⟩, _, _⟩ := inv.hok a _ kept
  dsimp only at isD noDict flds
  subst isD noDict flds
  refine PySem.W.kia_one (PySem.W.handS_kitx_exc fit.hg fit.hk fit.hs fit.hd fit.ha fit.hn fit.ht fit.hm) inv.kIn ⟨there, rfl, rfl, trivial⟩ is_ (fun z => by cases z) fun toks => ?_
  exact ⟨.bl b, hp, inv.kept (t' := toks) fun _ _ g => g, rfl, q⟩
theorem CallR.either {X : Cx} {f : Value} {r r' : List V → Hp → VK → Prop} (one : CallR X f r) (two : CallR X f r') : CallR X f (fun args H Q => r args H Q ∨ r' args H Q) :=
  fun pl sh st hp args vals Q inv rel told => told.elim (one pl sh st hp args vals Q inv rel) (two pl sh st hp args vals Q inv rel)
end Kt
namespace Kt
open PySem PySem.Spec PySem.Calls PyProof.Rows L2
/-! ### an own class of errors whose __init__ says super().__init__(a text with its argument) and keeps the argument -/
/-- how an argument is written into a text -/
def inText : V → Option Str
  | .str z => some z
  | .int i => some (toString i)
  | _ => none
structure InitPos where
  (a b c d e f g h i j k l m : Pos)
  n : Nat
def initBody (fld txt : Str) (q : InitPos) : List Stmt :=
  [.Expr (.Call (.Attribute (.Call (.Name "super" q.a) [] [] q.b) "__init__" q.c) [.JoinedStr [.Constant (.str txt) q.n q.d, .FormattedValue (.Name fld q.e) (-1) none q.f] q.g] [] q.h) q.i,
   .Assign [.Attribute (.Name "self" q.j) fld q.k] (.Name fld q.l) q.m]
def initScope (fld : Str) : Scope := { kind := .function, names := [("self", .local), (fld, .local), ("__class__", .free), ("super", .globalImplicit)], isGenerator := false, isCoroutine := false, more := [] }
/-- what the written part says of the class at C, of its __init__ -/
structure IniC (P : Program) (K : PySem.W.Frag) (mg : Str → Option Value) (C fI : Addr) (fld txt : Str) : Prop where
  at_ : OexC K C
  fn : ∃ (oc ccl cl : Value) (od cdd cld : Option Addr) (osl ccs csl : Array (Option Value)) (qual : Str) (params : Arguments) (q : InitPos) (dV kV doc pm ct : Value) (an : Option Addr) (cda cc : Addr) (vs : Array Value) (file : Str) (tf : Tok) (cdD : ClassData) (ar1 : Arg) (pl : Env → Sem Bool),
    K.lookup fI = some ⟨oc, od, .func (PySem.W.fnX "__init__" qual params (initBody fld txt q) (initScope fld) [("__class__", cc)] dV kV doc pm an (.ref cda) ct), osl⟩ ∧ PySem.W.codeIn K (.ref cda) qual = true ∧
    (params.posonlyargs ++ params.args).head? = some ar1 ∧ ar1.arg = "self" ∧ (∀ a b : Value, bindArgs (PySem.W.fnX "__init__" qual params (initBody fld txt q) (initScope fld) [("__class__", cc)] dV kV doc pm an (.ref cda) ct) ⟨[a, b], []⟩ = pure [(("self" : Str), a), (fld, b)]) ∧
    (∀ env : Env, eval (.Call (.Attribute (.Call (.Name "super" q.a) [] [] q.b) "__init__" q.c) [.JoinedStr [.Constant (.str txt) q.n q.d, .FormattedValue (.Name fld q.e) (-1) none q.f] q.g] [] q.h) env = (do
      let ov ← attributeBase (.Call (.Name "super" q.a) [] [] q.b) "__init__" env (eval (.Call (.Name "super" q.a) [] [] q.b) env)
      standAt q.c.atName
      let (f, first) ← holding [ov] (getMethod ov "__init__" (pl env))
      callWith q.h f first (backTo q.h (starEach [.JoinedStr [.Constant (.str txt) q.n q.d, .FormattedValue (.Name fld q.e) (-1) none q.f] q.g] env)) [])) ∧
    K.lookup cda = some ⟨ccl, cdd, .fields vs, ccs⟩ ∧ vs[2]? = some (.str file tf) ∧ ((P.main.file : Str) == file) = true ∧
    K.lookup cc = some ⟨cl, cld, .cell (some (.ref C)), csl⟩ ∧ PySem.W.clsIn K C = some cdD
  top : (P.main.scope.names.lookup ("super" : Str)).isSome = false
  sup : mg "super" = none
  self_ : PySem.W.mroIn K C (.ref C) = some true
  par : PySem.W.ks_superIn K C C "__init__" = some (some (.builtin "ValueError.__init__"))
  val : PySem.W.subIn K (.ref C) (.type "ValueError") = some true
  opq : PySem.W.nsIn K cStatics "thirdparty.any" = some none
  exc : PySem.W.excInitIn K C [.type "ValueError", .type "Exception", .type "BaseException", .type "object"] "ValueError.__new__" = true
  nof : PySem.W.findIn K (.ref C) fld = some none
  ini : PySem.W.findIn K (.ref C) "__init__" = some (some (.ref fI))
  typ : PySem.W.typeIn K (.ref fI) = some (.type "function")
theorem fld_kind {fld : Str} (n : ("self" : Str) ≠ fld) : List.lookup fld (initScope fld).names = some .local := by
  unfold initScope
  rw [List.lookup_cons, beq_eq_false_iff_ne.mpr n.symm]
  simp
theorem sup_kind {fld : Str} (n : ("super" : Str) ≠ fld) : List.lookup ("super" : Str) (initScope fld).names = some .globalImplicit := by
  unfold initScope
  rw [List.lookup_cons, show (("super" : Str) == "self") = false by decide, List.lookup_cons, beq_eq_false_iff_ne.mpr n]
  rfl
theorem cls_kind {fld : Str} (n : ("__class__" : Str) ≠ fld) : List.lookup ("__class__" : Str) (initScope fld).names = some .free := by
  unfold initScope
  rw [List.lookup_cons, show (("__class__" : Str) == "self") = false by decide, List.lookup_cons, beq_eq_false_iff_ne.mpr n]
  rfl
theorem self_look {fld : Str} {a b : Value} (n : ("self" : Str) ≠ fld) : ([(("self" : Str), a), (fld, b)] : List (Str × Value)).reverse.lookup ("self" : Str) = some a := by
  show List.lookup ("self" : Str) [(fld, b), (("self" : Str), a)] = some a
  rw [List.lookup_cons, beq_eq_false_iff_ne.mpr n]
  rfl
theorem fld_look {fld : Str} {a b : Value} : ([(("self" : Str), a), (fld, b)] : List (Str × Value)).reverse.lookup fld = some b := by
  show List.lookup fld [(fld, b), (("self" : Str), a)] = some b
  rw [List.lookup_cons, beq_self_eq_true]
section
variable {P : Program} {w : World} {K : PySem.W.Frag} {mg : Str → Option Value} {A : Around} {base : Heap} {C fI e t0 : Addr} {fld txt : Str} {sh : Shared} {v : V} {u : Value}
theorem init_run (T : IniC P K mg C fI fld txt) (mod : Mod K mg base) (bs : ∀ b o, base.get? b = some o → sh.heap.get? b = some o) (nb : base.get? e = none) (room : A.depth < recursionLimit)
    (there : sh.heap.get? e = some (PySem.W.excObj C t0 none .none)) (rel : RelV v u) (txt2 : Str) (as_ : inText v = some txt2) (short : txt2.length ≤ 4000) (few : txt.length ≤ 4000) (big : ∀ i, v = .int i → i.natAbs.log2 < 1920) (nself : ("self" : Str) ≠ fld) (nsup : ("super" : Str) ≠ fld) (ncls : ("__class__" : Str) ≠ fld) (ndbg : (fld == ("__debug__" : Str)) = false)
    (R : Result → Shared → Prop)
    (fin : ∀ (s' : Shared) (dx t1 : Addr), s'.os = sh.os → s'.gens = sh.gens → (∀ b o, b ≠ e → sh.heap.get? b = some o → s'.heap.get? b = some o) → sh.heap.objs.size ≤ dx → dx ≠ e → s'.heap.get? e = some (PySem.W.excObj C t1 (some dx) .none) → s'.heap.Ns1 dx (fun y => if y = fld then some u else none) → R (.ok (.ret .none)) s')
    (args : Args) (hargs : ∀ fd : FuncData, (∃ (oc : Value) (od : Option Addr) (osl : Array (Option Value)), K.lookup fI = some ⟨oc, od, .func fd, osl⟩) → BindsTo sh fd args [(("self" : Str), .ref e), (fld, u)]) :
    codeAny (model P w) A (.call (.ref fI) args) R sh := by
  obtain ⟨oc, ccl, cl, od, cdd, cld, osl, ccs, csl, qual, params, q, dV, kV, doc, pm, ct, an, cda, cc, vs, file, tf, cdD, ar1, pl, look, code, hpar, ha1, hbind, hev, hcode, hvs, hfile, hcell, hcls⟩ := T.fn
  have X : K.In sh.heap := mod.kin.keeps bs
  obtain ⟨mb, nsb, boot⟩ := mod.blt
  refine ks_codeAny_call_defAt (fd := PySem.W.fnX "__init__" qual _ (initBody fld txt q) (initScope fld) [("__class__", cc)] dV kV doc pm an (.ref cda) ct) (body := initBody fld txt q) (binds := [("self", .ref e), (fld, u)]) room (X _ _ look) rfl (mod.nolimit.keeps bs) (PySem.W.codeRec_of X code) rfl ?binds ?nocell ?local_ ?run
  case binds =>
    exact hargs _ ⟨_, _, _, look⟩
  case nocell =>
    intro z hz
    have hz : z = (("self" : Str), NameKind.local) ∨ z = (fld, NameKind.local) ∨ z = (("__class__" : Str), NameKind.free) ∨ z = (("super" : Str), NameKind.globalImplicit) := by simpa [initScope, PySem.W.fnX] using hz
    rcases hz with rfl | rfl | rfl | rfl <;> exact fun z => by cases z
  case local_ =>
    intro z hz
    have hz : z = (("self" : Str), Value.ref e) ∨ z = (fld, u) := by simpa using hz
    rcases hz with rfl | rfl
    · rfl
    · show List.lookup fld (initScope fld).names = some .local
      unfold initScope
      rw [List.lookup_cons, beq_eq_false_iff_ne.mpr nself.symm]
      simp
  case run =>
    intro h1 frame keep
    have len1 : sh.heap.objs.size < h1.objs.size := frame.lt
    obtain ⟨hid, hhid⟩ : ∃ hid : Hp, hid = fun b => if b = e then some (.own 0) else none := ⟨_, rfl⟩
    have off : ∀ {b : Addr}, b ≠ e → hid b = none := fun {b} n => by rw [hhid]; exact if_neg n
    have on : hid e ≠ none := by
      have z : hid e = some (.own 0) := by rw [hhid]; exact if_pos rfl
      rw [z]
      exact fun y => by cases y
    have elt : e < sh.heap.objs.size := Heap.lt_size there
    obtain ⟨L, hL⟩ : ∃ L, L = sh.heap.objs.size := ⟨_, rfl⟩
    have eL : e ≠ L := by rw [hL]; exact Nat.ne_of_lt elt
    have ground : ∀ b o, (hidT sh.heap hid).get? b = some o → h1.get? b = some o := fun b o z => keep b o (of_hidT z).1
    rw [← hL] at frame ⊢
    have F : Fr (hidT sh.heap hid) L h1 (fun x => ([("self", Value.ref e), (fld, u)] : List (Str × Value)).reverse.lookup x) := ⟨frame, ground, by rw [hL]; exact Nat.le_of_eq (hidT_size _ _)⟩
    have none_ : (hidT sh.heap hid).get? e = none := by
      match z : (hidT sh.heap hid).get? e with
      | none => rfl
      | some o => exact absurd (of_hidT z).2 on
    have N : News (hidT sh.heap hid) L h1 [(e, PySem.W.excObj C t0 none .none)] := fun p hp => by
      rw [List.mem_singleton.mp hp]
      exact ⟨keep _ _ there, eL, none_⟩
    have baseIn : ∀ b o, base.get? b = some o → (hidT sh.heap hid).get? b = some o := fun b o z => hidT_get (bs b o z) (off fun y => by rw [y, nb] at z; cases z)
    have X0 : K.In (hidT sh.heap hid) := mod.kin.keeps baseIn
    obtain ⟨env, henv⟩ : ∃ env, env = callEnv (PySem.W.fnX "__init__" qual params (initBody fld txt q) (initScope fld) [("__class__", cc)] dV kV doc pm an (.ref cda) ct) L fI := ⟨_, rfl⟩
    rw [← henv]
    have kind : env.scope.kind = .function := by rw [henv]; rfl
    have names : env.scope = initScope fld := by rw [henv]; rfl
    have ks : env.kindOf "super" = some .globalImplicit := by rw [henv]; exact sup_kind nsup
    have kc : env.kindOf "__class__" = some .free := by rw [henv]; exact cls_kind ncls
    have kself : env.kindOf "self" = some .local := by rw [henv]; rfl
    have kfld : env.kindOf fld = some .local := by rw [henv]; exact fld_kind nself
    have lself : ([(("self" : Str), Value.ref e), (fld, u)] : List (Str × Value)).reverse.lookup ("self" : Str) = some (.ref e) := self_look nself
    have lfld : ([(("self" : Str), Value.ref e), (fld, u)] : List (Str × Value)).reverse.lookup fld = some u := fld_look
    have X1 : K.In h1 := X0.keeps ground
    have bk1 : ∀ b o, base.get? b = some o → h1.get? b = some o := fun b o z => ground b o (baseIn b o z)
    obtain ⟨oD, hD1, hD2⟩ : ∃ oD, h1.get? C = some oD ∧ oD.data = .cls cdD := by
      unfold PySem.W.clsIn at hcls
      split at hcls
      · rename_i c d cd' sl ho
        cases hcls
        exact ⟨_, X1 _ _ ho, rfl⟩
      · cases hcls
    have I1 : PySem.W.InstAt h1 e (PySem.W.excObj C t0 none .none) C none := ⟨keep _ _ there, rfl, rfl, trivial⟩
    refine ks_wpAt_execs_cons (ks_wpAt_Expr_any (ks_wpAt_MethodCall (pl := pl env) ?_ (hev env)) ?int ?swap)
    case int => rw [henv]; rfl
    case swap => rw [henv]; rfl
    refine ks_wpAt_super_base ks kc (by decide) (f := fI) (by rw [henv]; rfl) (X1 _ _ look) rfl hpar (cc := cda) (by rw [henv]; rfl) (X1 _ _ hcode) rfl hvs hfile T.top ?_
    refine PySem.W.ks_loadName_global kind ks (loadGlobal_builtin (by rw [henv]; exact mod.glob.keeps bk1) T.sup (by rw [henv]; exact nsb.keeps bk1) ((boot _ (by decide)).trans (by decide +kernel)) ⟨rfl, ?_⟩)
    refine wpAny_loadName_free kind kc (by rw [henv]; rfl) ⟨_, X1 _ _ hcell, rfl⟩ ?_
    rw [ha1]
    refine wpAny_loadName_local kind kself (by rw [henv]; exact frame) lself ?_
    refine ks_wpAny_isType_cls hD1 hD2 ⟨rfl, ?_⟩
    refine ks_wpAny_call_super hD1 hD2 I1.at_ I1.cls (fun c z => by cases z) (PySem.W.looks_mroIn X1 T.self_) (fun h2 so2 keep2 => ?_)
    obtain ⟨F2, N2, _⟩ := PySem.W.ks_newsPush (s := ⟨h1, sh.gens, sh.drawn, sh.toks, sh.os⟩) F N rfl so2 keep2
    have I2 : PySem.W.InstAt h2 e (PySem.W.excObj C t0 none .none) C none := ⟨keep2 _ _ I1.at_, rfl, rfl, trivial⟩
    refine PySem.W.kxs_method PySem.W.kxs_ValueError F2 X0 N2 (.head _) I2 T.opq T.par T.val (by decide) (fun m3 h3 F3 N3 lt3 => ?_)
    refine PySem.W.kxs_callWith1 (i := "ValueError.__init__") (x := e) N3 (.head _) ?_
    show wpAny _ _ (spliced ((false, eval (.JoinedStr [.Constant (.str txt) q.n q.d, .FormattedValue (.Name fld q.e) (-1) none q.f] q.g) env) :: backTo q.h (starEach [] env))) _ _ _
    refine Calls.spliced_cons (wpAny_JoinedStr ?_)
    show Joins _ _ _ [eval (.Constant (.str txt) q.n q.d) env, eval (.FormattedValue (.Name fld q.e) (-1) none q.f) env] Str.empty _ _
    have el : (Str.empty ++ txt).length = txt.length := by
      show (Str.empty ++ txt).cps.size = txt.cps.size
      show (#[] ++ txt.cps).size = _
      simp
    have small : ∀ n : Nat, n ≤ 8000 → n ≤ sizeLine := fun n hn => Nat.le_trans hn (by decide)
    refine Constant_str ⟨txt, _, rfl, small _ (by rw [el]; omega), ?_⟩
    have al : ∀ y : Str, (Str.empty ++ txt ++ y).length = txt.length + y.length := fun y => by
      show (Str.empty ++ txt ++ y).cps.size = _
      have : (Str.empty ++ txt ++ y).cps = (Str.empty ++ txt).cps ++ y.cps := rfl
      rw [this, Array.size_append]
      have e2 : (Str.empty ++ txt).cps.size = txt.length := el
      rw [e2]
      rfl
    refine wpAny_FormattedValue_plain (wpAny_Name (wpAny_loadName_local kind kfld (by rw [henv]; exact F3.ns) lfld ?_) ndbg)
    have elt2 : e < m3 := lt3 (e, _) (.tail _ (.head _))
    have ups : PySem.W.UpdF e (PySem.W.excObj C t0 none .none) [(m3, PySem.W.kxs_mw "ValueError.__init__" e), (h1.objs.size, PySem.W.ks_superObj C e C), (e, PySem.W.excObj C t0 none .none)] (fun o' => (m3, PySem.W.kxs_mw "ValueError.__init__" e) :: (h1.objs.size, PySem.W.ks_superObj C e C) :: [(e, o')]) :=
      .tail (Nat.ne_of_gt elt2) (.tail (Nat.ne_of_gt (Nat.lt_trans elt len1)) (.head (fun p hp => by cases hp)))
    have rest : ∀ (y : Str) (ty : Tok) (s4 : Shared), s4.heap = h3 → s4.os = sh.os → s4.gens = sh.gens → y.length ≤ 4000 →
        ∃ y' t', Value.str y ty = .str y' t' ∧ (Str.empty ++ txt ++ y').length ≤ sizeLine ∧ Joins (model P w) (A.deeper env) (fun e s' => wpAny (model P w) (A.deeper env) (leaving env e) (fun _ s'' => R (Except.error e) s'') (fun e' s'' => R (Except.error e') s'') s') [] (Str.empty ++ txt ++ y') (fun out s₁ => out.length ≤ sizeLine ∧ wpAny (model P w) (A.deeper env) (spliced (backTo q.h (starEach [] env))) (fun vs s₂ => PySem.W.KxsAt "ValueError.__init__" m3 e s₂.heap ∧ wpAny (model P w) (A.deeper env) (call (.ref m3) (Value.str out s₁.toks :: vs)) (fun _ s' => PySem.wpAt (model P w) (A.deeper env) (Code.func (initBody fld txt q) env)
              (execs [Stmt.Assign [(Expr.Name ("self" : Str) q.j).Attribute fld q.k] (Expr.Name fld q.l) q.m] env) (fun f s' => R (Except.ok (Flow.ret (match f with | Flow.ret v => v | x => Value.none))) s')
              (fun e s' => wpAny (model P w) (A.deeper env) (leaving env e) (fun _ s'' => R (Except.error e) s'') (fun e' s'' => R (Except.error e') s'') s') s')
              (fun e s' => wpAny (model P w) (A.deeper env) (leaving env e) (fun _ s'' => R (Except.error e) s'') (fun e' s'' => R (Except.error e') s'') s') s₂) (fun e s' => wpAny (model P w) (A.deeper env) (leaving env e) (fun _ s'' => R (Except.error e) s'') (fun e' s'' => R (Except.error e') s'') s') { s₁ with toks := s₁.toks + 1 }) s4 := by
      rintro y ty ⟨hp4, g4, d4, tk4, os4⟩ rfl eo eg hy
      dsimp only at F3 N3 eo eg
      refine ⟨y, ty, rfl, small _ (by rw [al]; omega), small _ (by rw [al]; omega), ?_⟩
      refine Calls.spliced_nil ⟨PySem.W.kxs_at N3 (.head _), ?_⟩
      refine PySem.W.kxs_call (s := ⟨hp4, g4, d4, tk4 + 1, os4⟩) F3 X0 N3 PySem.F.excBase_ValueError T.exc (.head _) ups (by show 1 ≤ sizeLine; decide) (fun t5 h5 F5 N5 lt5 => ?_)
      subst eo eg
      obtain ⟨nm, qn, NN, bss, bm, sn, sub, ab, col, dd, k0, k1, k2, k3, k5, hC, hbm⟩ := T.at_.cls
      have hcl : PySem.W.clsIn K C = some { name := nm, bases := bss, mro := .ref C :: bm, ns := NN, qualname := qn, hasDict := true, slotNames := sn, subclasses := sub, abstract := ab, collection := col, hasDel := false } := by
        unfold PySem.W.clsIn
        rw [hC]
      have X5 : K.In h5 := X0.keeps F5.keep
      obtain ⟨he5, _, _⟩ := N5 (e, PySem.W.excObj C t5 none .none) (.tail _ (.tail _ (.tail _ (.head _))))
      refine ks_wpAt_execs_cons (ks_wpAt_Assign_Attr ?_ ?swap2)
      case swap2 => rw [henv]; rfl
      refine wpAt_of_wpAny (wpAny_Name (wpAny_loadName_local kind kfld (by rw [henv]; exact F5.ns) lfld ?_) ndbg)
      refine wpAny_Name (wpAny_loadName_local kind kself (by rw [henv]; exact F5.ns) lself ?_) (by decide)
      refine PySem.W.set_plain X5 (ox := PySem.W.excObj C t5 none .none) (od := none) ⟨he5, rfl, rfl, trivial⟩ T.at_.sa ?_
      refine PySem.HandSPX.exc_osa X5 he5 hcl (show PySem.HandSPX.refsVE (.ref C :: bm) = true from hbm) rfl T.nof (fun h6 tk6 dx keep6 dn dne hx6 hn6 => ?_)
      refine wpAt_of_wpAny (wpAny_execs_nil ?_)
      refine fin _ dx t5 rfl rfl (fun b o nb z => keep6 b o nb (F5.keep b o (hidT_get z (off nb)))) ?_ dne hx6 hn6
      have lt := F5.ns.lt
      rw [hL] at lt
      exact Nat.le_trans (Nat.le_of_lt lt) dn
    cases v with
    | str z =>
      obtain ⟨t, rfl⟩ := rel
      have e0 : z = txt2 := Option.some.inj as_
      subst e0
      exact wpAny_formatField_str (rest z t _ rfl rfl rfl short) (rest z _ _ rfl rfl rfl short) (small _ (by omega))
    | int i =>
      obtain ⟨t, rfl⟩ := rel
      have e0 : toString i = txt2 := by
        have := Option.some.inj as_
        exact this
      exact wpAny_formatField_int (big i rfl) (rest (Str.ofString (toString i)) _ _ rfl rfl rfl (by rw [show Str.ofString (toString i) = txt2 from e0]; exact short))
    | non => cases as_
    | bl b => cases as_
    | byt b => cases as_
    | flt b => cases as_
    | ref b => cases as_
    | ty b => cases as_
/-- the promise of such an __init__ -/
def sp_init (C : Addr) (fld : Str) : Sp := fun vs H Q _ => ∃ (e : Addr) (v : V) (z : Str), vs = [.ref e, v] ∧ inText v = some z ∧ z.length ≤ 4000 ∧ (∀ i, v = .int i → i.natAbs.log2 < 1920) ∧ H e = some (exo e C none) ∧ ∀ d H', H d = none → d ≠ e → H' = upd (upd H d (exd d [(fld, v)])) e (exo e C (some d)) → Q .non H'
theorem init_ok (T : IniC P K mg C fI fld txt) (few : txt.length ≤ 4000) (nself : ("self" : Str) ≠ fld) (nsup : ("super" : Str) ≠ fld) (ncls : ("__class__" : Str) ≠ fld) (ndbg : (fld == ("__debug__" : Str)) = false) :
    ∃ fd : FuncData, FnOk P w K mg base CX0 1 fI fd [("self" : Str), fld] (sp_init C fld) ∧ Binds K fd [("self" : Str), fld] [] := by
  obtain ⟨oc, ccl, cl, od, cdd, cld, osl, ccs, csl, qual, params, q, dV, kV, doc, pm, ct, an, cda, cc, vs, file, tf, cdD, ar1, pl, look, code, hpar, ha1, hbind, hev, hcode, hvs, hfile, hcell, hcls⟩ := T.fn
  refine ⟨_, ⟨?len, ?run⟩, .all fun us hl => match us, hl with | [a, b], _ => hbind a b⟩
  case len =>
    rintro vs H Q E ⟨e, v, z, rfl, _⟩
    rfl
  case run =>
    rintro A outer s H args us vs Q E room env binds rel ⟨e, v, z, rfl, as_, short, big, tracked, q⟩
    obtain ⟨u, rfl, r⟩ : ∃ u, us = [.ref e, u] ∧ RelV v u := by
      obtain ⟨a, b, rfl, ra, rb⟩ := vals2 rel
      obtain rfl : a = .ref e := ra
      exact ⟨b, rfl, rb⟩
    obtain ⟨t1, there⟩ := exo_at env.hok tracked
    refine init_run T env.mod (fun b o z => (env.bs b o z).1) ?nb room.depth there r z as_ short few big nself nsup ncls ndbg _ (fun s' dx t2 os gens keep dn dne hx hn => ?_) args (fun fd' ⟨oc', od', osl', look'⟩ => ?_)
    case nb =>
      match y : base.get? e with
      | none => rfl
      | some o =>
        have := (env.bs e o y).2
        rw [tracked] at this
        cases this
    · have free : H dx = none := env.hok.fresh dn
      have far : ∀ {b : Addr}, H b = none → b ≠ e := fun {b} n y => by
        rw [y, tracked] at n
        cases n
      have apart : ∀ {b : Addr} {o : Obj}, s.heap.get? b = some o → b ≠ dx := fun {b o} y => Nat.ne_of_lt (Nat.lt_of_lt_of_le (Heap.lt_size y) dn)
      refine ⟨.non, upd (upd H dx (exd dx [(fld, v)])) e (exo e C (some dx)), os, by rw [gens]; exact env.bare, ?un, ?ok, rfl, q dx _ free dne rfl⟩
      case un =>
        constructor
        · intro b o y none_ _ _
          exact keep b o (far none_) y
        · intro b o y none_ _ _
          exact ⟨o.slots, keep b o (far none_) y⟩
        · intro b o y none_ _
          rw [upd_ne (far none_), upd_ne (apart y)]
          exact none_
        · intro b o y _
          by_cases at_ : b = e
          · exact ⟨_, by rw [at_]; exact hx⟩
          · exact ⟨o, keep b o at_ y⟩
        · intro b xs y
          rw [upd_ne (at_ne tracked y exo_tup), upd_ne (ne_of_none y free)]
          exact y
        · intro b o x y
          rw [upd_ne (at_ne tracked y exo_frz), upd_ne (ne_of_none y free)]
          exact y
        · intro b ps y
          refine ⟨#[], ?_⟩
          rw [upd_ne (at_ne tracked y exo_tbl), upd_ne (ne_of_none y free), y, Array.append_empty]
      case ok =>
        intro b o y
        by_cases at_ : b = e
        · subst at_
          rw [upd_same] at y
          obtain rfl := Option.some.inj y
          exact exo_ok hx
        · rw [upd_ne at_] at y
          by_cases new : b = dx
          · subst new
            rw [upd_same] at y
            obtain rfl := Option.some.inj y
            exact exd_ok hn (relO_put (fs := []) r fun _ => trivial)
          · rw [upd_ne new] at y
            refine (env.hok b o y).stay (fun c x own look2 => keep c x ?_ look2) (fun c own => ?_) (fun c xs tup => ?_)
            · rcases own with own | own
              · rw [own]
                exact at_
              · exact at_ne tracked own exo_own
            · rw [upd_ne (at_ne tracked own exo_own), upd_ne (ne_of_none own free)]
              exact own
            · rw [upd_ne (at_ne tracked tup exo_tup), upd_ne (ne_of_none tup free)]
              exact tup
    · rw [look] at look'
      cases look'
      exact binds
end
/-- such a class may be raised -/
structure IniOk (P : Program) (w : World) (K : PySem.W.Frag) (mg : Str → Option Value) (base : Heap) (x fld : Str) : Prop where
  ex : ∃ (C fI : Addr) (fd : FuncData), mg x = some (.ref C) ∧ OexC K C ∧ PySem.W.findIn K (.ref C) "__init__" = some (some (.ref fI)) ∧ PySem.W.typeIn K (.ref fI) = some (.type "function") ∧ FnOk P w K mg base CX0 1 fI fd [("self" : Str), fld] (sp_init C fld) ∧ Binds K fd [("self" : Str), fld] []
theorem pmk_ini {X : Cx} {j : Nat} {x fld : Str} {e : Expr} {ta : TA} {p pos : Pos} (c : IniOk X.prog X.w X.K X.mg X.base x fld) (hr : Room j X.A) (hk : 2 ≤ j) (hg : Gl X x) (ha : PA X [e] ta) (hdb : (x == ("__debug__" : Str)) = false := by decide)
    (he : starEach [e] X.env = (false, eval e X.env) :: starEach [] X.env := by rfl) (hpl : (backTo pos (starEach [] X.env)).any (·.1) = false := by rfl) : PMk X (.Call (.Name x p) [e] [] pos) (tMkO (clsA X.mg x) (sp_init (clsA X.mg x) fld) [] ta) := by
  obtain ⟨C, fI, fd, at_, oex, ini, typ, fn, binds⟩ := c.ex
  rw [clsA_of at_]
  exact pmk_oex oex ini typ fn (hr.mono hk) binds .nil pass0 hg at_ ha hdb he hpl
theorem ini_go {C : Addr} {fld : Str} {H1 : Hp} {v : V} {z : Str} {Q : XK} (as_ : inText v = some z) (short : z.length ≤ 4000) (big : ∀ i, v = .int i → i.natAbs.log2 < 1920) (go : ∀ d H2, Same H1 H2 → H2 d = some (.xd [(fld, v)]) → Q (.ref C) (some d) H2) :
    [v].length ≤ 1000 ∧ ∀ a, H1 a = none → sp_init C fld (.ref a :: ([v] ++ [])) (upd H1 a (exo a C none)) (fun v H2 => v = .non ∧ ∃ (d : Addr) (fs : List (Str × V)), H2 a = some (exo a C (some d)) ∧ H2 d = some (exd d fs) ∧ H1 d = none ∧ Q (.ref C) (some d) (upd (del H2 a) d (.xd fs))) (fun _ _ _ => False) := by
  refine ⟨by show 1 ≤ 1000; decide, fun a na => ⟨a, v, z, rfl, as_, short, big, upd_same, fun d H' nd dne eq => ?_⟩⟩
  rw [upd_ne dne] at nd
  subst eq
  refine ⟨rfl, d, [(fld, v)], upd_same, by rw [upd_ne dne, upd_same], nd, go d _ (fun b o y => ?_) upd_same⟩
  have na2 := ne_of_none y na
  rw [upd_ne (ne_of_none y nd), del_ne na2, upd_ne na2, upd_ne (ne_of_none y nd), upd_ne na2]
  exact y
/-- isinstance(e, c) of a kept error that has a field -/
def rIsKd (K : PySem.W.Frag) : List V → Hp → VK → Prop := fun args H Q => ∃ (a D dd : Addr) (fs : List (Str × V)) (c : V) (cv : Value) (b : Bool), args = [.ref a, c] ∧ ExcC K D ∧ H a = some (ExK (.ref D) (some dd) a) ∧ H dd = some (.xd fs) ∧ (∀ u, RelV c u → u = cv) ∧ PySem.W.kitOne K (.ref D) cv = some b ∧ Q (.bl b) H
theorem call_isKd {X : Cx} : CallR X (.builtin "isinstance") (rIsKd X.K) := by
  intro pl sh st hp args vals Q inv rel told
  obtain ⟨a, D, dd, fs, c, cv, b, rfl, fit, kept, dict, named, is_, q⟩ := told
  obtain ⟨a2, u, rfl, ra, r1⟩ := vals2 rel
  obtain rfl : a2 = Value.ref a := ra
  obtain rfl := named u r1
  obtain ⟨⟨⟨_, _, dat, _⟩, fl, there, ⟨isD, hasDict⟩, flds⟩, _, _⟩ := inv.hok a _ kept
  dsimp only at isD hasDict flds
  subst isD hasDict flds
  obtain ⟨mA, ⟨od, es, ep, ho, _⟩, _⟩ := (show ObjOk X.prog X.w hp sh.heap dd (.xd fs) from inv.hok dd _ dict)
  have known : (PySem.W.clsIn X.K D).isSome = true := by
    have := fit.hm
    unfold PySem.W.mroIn at this
    match z : PySem.W.clsIn X.K D with
    | some _ => rfl
    | none =>
      rw [z] at this
      cases this
  refine PySem.W.kia_one (PySem.W.kitx_exc (od := some od) known fit.hg fit.hk fit.hs fit.ha fit.hn fit.ht fit.hm) inv.kIn ⟨there, rfl, rfl, ho⟩ is_ (fun z => by cases z) fun toks => ?_
  exact ⟨.bl b, hp, inv.kept (t' := toks) fun _ _ g => g, rfl, q⟩
/-- e.f of a kept error -/
def tKf (C : Addr) (f : Str) (te : TE) : TE := fun σ H Q => te σ H fun x H1 => ∃ (a dd : Addr) (fs : List (Str × V)) (v : V), x = .ref a ∧ H1 a = some (ExK (.ref C) (some dd) a) ∧ H1 dd = some (.xd fs) ∧ fs.lookup f = some v ∧ Q v H1
theorem pe_kf {X : Cx} {C : Addr} {e : Expr} {te : TE} {pos : Pos} {n : Str} (T : ExcC X.K C) (nof : PySem.W.findIn X.K (.ref C) n = some none) (he : PE X e te) (hb : attributeBase e n X.env (eval e X.env) = eval e X.env := by rfl) : PE X (.Attribute e n pos) (tKf C n te) := by
  constructor
  intro pins s σ H Q inv told
  refine attr_of hb (thn (he.run pins s σ H _ inv told) fun u s1 ended => ?_)
  obtain ⟨x, H1, inv1, rel, a, dd, fs, v, rfl, kept, dict, field, q⟩ := ended
  obtain rfl : u = Value.ref a := rel
  obtain ⟨⟨ob, fl, there, kind, flds⟩, _, _⟩ := inv1.hok a _ kept
  obtain ⟨mA, hns, fits⟩ := (show ObjOk X.prog X.w H1 s1.heap dd (.xd fs) from inv1.hok dd _ dict)
  obtain ⟨od, ho, look⟩ := lookIn_ns hns
  obtain ⟨w2, hw, rw2⟩ := RelO.some_of (v := v) (o := mA n) (by rw [← field]; exact fits n)
  have inst : PySem.W.InstAt s1.heap a ob C (some od) := ⟨there, kind.1, by unfold PySem.W.notCls; rw [flds] <;> rfl, by rw [kind.2]; exact ho⟩
  exact HandSPX.exc_get inv1.kIn inst T.hg T.hk T.hs (PySem.W.findObj_own T.hd nof rfl (by rw [look, hw])) (handed_of rw2) ⟨v, H1, inv1.tok _, rw2, q⟩
/-! ### the facts of such a class, as the top leaves them -/
structure ProgF (P : Program) : Prop where
  file : ((P.main.file : Str) == "/claim/cut.py") = true
  top : (P.main.scope.names.lookup ("super" : Str)).isSome = false
/-- an own class of errors with an __init__ of its own -/
structure IniK (K : PySem.W.Frag) (mg : Str → Option Value) (C : Addr) (fld txt : Str) : Prop where
  fn : ∃ (fI : Addr) (oc ccl cl : Value) (od cdd cld : Option Addr) (osl ccs csl : Array (Option Value)) (qual : Str) (params : Arguments) (q : InitPos) (dV kV doc pm ct : Value) (an : Option Addr) (cda cc : Addr) (vs : Array Value) (tf : Tok) (ar1 : Arg) (pl : Env → Sem Bool),
    K.lookup fI = some ⟨oc, od, .func (PySem.W.fnX "__init__" qual params (initBody fld txt q) (initScope fld) [("__class__", cc)] dV kV doc pm an (.ref cda) ct), osl⟩ ∧ PySem.W.codeIn K (.ref cda) qual = true ∧
    (params.posonlyargs ++ params.args).head? = some ar1 ∧ ar1.arg = "self" ∧ (∀ a b : Value, bindArgs (PySem.W.fnX "__init__" qual params (initBody fld txt q) (initScope fld) [("__class__", cc)] dV kV doc pm an (.ref cda) ct) ⟨[a, b], []⟩ = pure [(("self" : Str), a), (fld, b)]) ∧
    (∀ env : Env, eval (.Call (.Attribute (.Call (.Name "super" q.a) [] [] q.b) "__init__" q.c) [.JoinedStr [.Constant (.str txt) q.n q.d, .FormattedValue (.Name fld q.e) (-1) none q.f] q.g] [] q.h) env = (do
      let ov ← attributeBase (.Call (.Name "super" q.a) [] [] q.b) "__init__" env (eval (.Call (.Name "super" q.a) [] [] q.b) env)
      standAt q.c.atName
      let (f, first) ← holding [ov] (getMethod ov "__init__" (pl env))
      callWith q.h f first (backTo q.h (starEach [.JoinedStr [.Constant (.str txt) q.n q.d, .FormattedValue (.Name fld q.e) (-1) none q.f] q.g] env)) [])) ∧
    K.lookup cda = some ⟨ccl, cdd, .fields vs, ccs⟩ ∧ vs[2]? = some (.str "/claim/cut.py" tf) ∧ K.lookup cc = some ⟨cl, cld, .cell (some (.ref C)), csl⟩ ∧
    PySem.W.findIn K (.ref C) "__init__" = some (some (.ref fI)) ∧ PySem.W.typeIn K (.ref fI) = some (.type "function")
  at_ : OexC K C
  sup : mg "super" = none
  self_ : PySem.W.mroIn K C (.ref C) = some true
  par : PySem.W.ks_superIn K C C "__init__" = some (some (.builtin "ValueError.__init__"))
  val : PySem.W.subIn K (.ref C) (.type "ValueError") = some true
  opq : PySem.W.nsIn K cStatics "thirdparty.any" = some none
  exc : PySem.W.excInitIn K C [.type "ValueError", .type "Exception", .type "BaseException", .type "object"] "ValueError.__new__" = true
  nof : PySem.W.findIn K (.ref C) fld = some none
theorem clsIn_mro {K : PySem.W.Frag} {C : Addr} {b : Value} {r : Bool} (h : PySem.W.mroIn K C b = some r) : ∃ cd, PySem.W.clsIn K C = some cd := by
  unfold PySem.W.mroIn at h
  match z : PySem.W.clsIn K C with
  | some cd => exact ⟨cd, rfl⟩
  | none =>
    rw [z] at h
    cases h
theorem tail_refs (l : List Value) (h : PySem.W.excTail [.type "ValueError", .type "Exception", .type "BaseException", .type "object"] l = true) : HandSPX.refsVE l = true := by
  induction l with
  | nil => cases h
  | cons v l ih =>
    cases v with
    | ref c => exact ih h
    | _ => exact h
/-- from what is told of a class without its object -/
theorem oex_by {K : PySem.W.Frag} {C : Addr} (q : PySem.W.excInitIn K C [.type "ValueError", .type "Exception", .type "BaseException", .type "object"] "ValueError.__new__" = true) (hd : PySem.W.hasDictIn K C = true)
    (sa : PySem.W.findIn K (.ref C) "__setattr__" = some (some (.builtin "object.__setattr__"))) (b : PySem.W.subIn K (.ref C) (.type "BaseException") = some true) (t : PySem.W.typeIn K (.ref C) = some (.type "type")) (k : PySem.W.keepIn K (.ref C) = true) : OexC K C := by
  refine ⟨?_, sa, b, t, k⟩
  unfold PySem.W.hasDictIn at hd
  unfold PySem.W.excInitIn at q
  split at q
  · rename_i dd cd sl ho
    have hc : PySem.W.clsIn K C = some cd := by
      unfold PySem.W.clsIn
      rw [ho]
    rw [hc] at hd
    split at q
    · rename_i C' bm k0 k1 k2 k3 n k5 hm hs
      simp only [Bool.and_eq_true, beq_iff_eq, Bool.not_eq_true'] at q
      obtain ⟨⟨⟨rfl, rfl⟩, hdel⟩, ht⟩ := q
      obtain ⟨nm, bs, mro, ns, qn, hdct, sn, sb, ab, col, del⟩ := cd
      dsimp only at hm hdel hd
      subst hm hdel
      have hd : hdct = true := hd
      subst hd
      obtain ⟨sl⟩ := sl
      have hs : sl = _ := hs
      subst hs
      refine ⟨nm, qn, ns, bs, bm, sn, sb, ab, col, dd, k0, k1, k2, k3, k5, ?_, ?_⟩
      · rw [ho]
      · exact tail_refs bm ht
    · cases q
  · cases q
theorem IniK.ok {P : Program} {w : World} {K : PySem.W.Frag} {mg : Str → Option Value} {base : Heap} {x fld txt : Str} (T : IniK K mg (clsA mg x) fld txt) (Z : ProgF P) (at_ : mg x = some (.ref (clsA mg x))) (few : txt.length ≤ 4000 := by decide) (nself : ("self" : Str) ≠ fld := by decide) (nsup : ("super" : Str) ≠ fld := by decide)
    (ncls : ("__class__" : Str) ≠ fld := by decide) (ndbg : (fld == ("__debug__" : Str)) = false := by decide) : IniOk P w K mg base x fld := by
  obtain ⟨fI, oc, ccl, cl, od, cdd, cld, osl, ccs, csl, qual, params, q, dV, kV, doc, pm, ct, an, cda, cc, vs, tf, ar1, pl, look, code, hpar, ha1, hbind, hev, hcode, hvs, hcell, hini, htyp⟩ := T.fn
  obtain ⟨cdD, hcls⟩ := clsIn_mro T.self_
  have C0 : IniC P K mg (clsA mg x) fI fld txt := ⟨T.at_, ⟨oc, ccl, cl, od, cdd, cld, osl, ccs, csl, qual, params, q, dV, kV, doc, pm, ct, an, cda, cc, vs, "/claim/cut.py", tf, cdD, ar1, pl, look, code, hpar, ha1, hbind, hev, hcode, hvs, Z.file, hcell, hcls⟩, Z.top, T.sup, T.self_, T.par, T.val, T.opq, T.exc, T.nof, hini, htyp⟩
  obtain ⟨fd, ok, binds⟩ := init_ok (w := w) (base := base) C0 few nself nsup ncls ndbg
  exact ⟨_, fI, fd, at_, T.at_, hini, htyp, ok, binds⟩
end Kt
/-! KtMe1: e.__class__ of an own error, and the __name__ of its class. -/
namespace Kt
open PySem PySem.Spec PySem.Calls PyProof.Rows L2 PySem.W
section
variable {P : Program} {w : World} {A : Around} {E : Value → Shared → Prop} {s : Shared} {K : PySem.W.Frag} {x C : Addr} {ox : Obj} {od : Option Obj}
/-- what the written part says of a class of errors of which one may ask the name -/
structure NameC (K : PySem.W.Frag) (C : Addr) (nm : Str) : Prop where
  ga : findIn K (.ref C) "__getattribute__" = some (some (.builtin "BaseException.__getattribute__"))
  gt : findIn K (.ref C) "__getattr__" = some none
  sub : subIn K (.ref C) (.type "BaseException") = some true
  cl : findIn K (.ref C) "__class__" = some (some (.builtin "object.__class__"))
  gs : specialIn K (.builtin "object.__class__") "__get__" = some (some (.builtin "getset_descriptor.__get__"))
  tk : takesIn K (.builtin "object.__class__") = some true
  ob : mroIn K C (.type "object") = some true
  rd : readsIn K C (.type "type") = true
  nf : findCls K (.ref C) (.type "type") "__name__" = some (.get (.builtin "getset_descriptor.__get__") (.builtin "type.__name__") (.ref C) (.type "type"))
  at_ : ∃ (c : Value) (dd : Option Addr) (cd : ClassData) (sl : Array (Option Value)) (t : Tok), K.lookup C = some ⟨c, dd, .cls cd, sl⟩ ∧ sl[2]? = some (some (.str nm t))
  few : nm.length ≤ 1000
theorem cls_of_err {expr : Bool} {Q : Value → Shared → Prop} {nm : Str} (X : K.In s.heap) (I : InstAt s.heap x ox C od) (T : NameC K C nm) (q : Q (.ref C) { s with toks := s.toks + 1 }) : wpAny (model P w) A (getAttr (.ref x) "__class__" expr) Q E s := by
  have known : (clsIn K C).isSome = true := by
    obtain ⟨c, dd, cd, sl, t, e, _⟩ := T.at_
    unfold clsIn
    rw [e]
    rfl
  have found := findObj_dataE (od := od) known T.cl T.gs T.tk
  obtain ⟨hp, g, dr, t, os⟩ := s
  have l0 := I.type (M := model P w)
  have l1 := looks_findIn (M := model P w) X T.ga
  have l2 := looks_findIn (M := model P w) X T.gt
  have l3 := looks_find (M := model P w) X I found
  have under : Looks (model P w) hp (isInstance (.ref x) (.type "BaseException")) true := l0.andThen (looks_subIn X T.sub)
  have n1 : (Value.builtin "BaseException.__getattribute__" == Value.builtin "object.__getattribute__") = false := by decide +kernel
  refine wpAny_bind (wpAny_mkText (wpAny_holding (wpAny_bind (l0.at (wpAny_bind (l1.at ?_))))))
  show wpAny _ _ (if (onTheHeap (Value.ref C) && _) = true then _ else _) _ _ _
  rw [n1, Bool.and_false, if_neg Bool.false_ne_true]
  unfold getAttrByItsOwn hookBefore
  refine wpAny_bind ?_
  rw [if_pos (show onTheHeap (Value.ref C) = true from rfl)]
  refine l2.at (wpAny_bind (wpAny_attempt (wpAny_holding ?_)))
  unfold callGetattribute
  rw [show (expr && onTheHeap (Value.builtin "BaseException.__getattribute__")) = false from by cases expr <;> rfl, if_neg Bool.false_ne_true]
  unfold boundAndCalled
  rw [PySem.F.excAttr_ValueError.ga.bind (.ref x)]
  refine wpAny_bind (wpAny_pure ?_)
  show wpAny _ _ (call (.builtin "BaseException.__getattribute__") [.ref x, .str "__class__" t]) _ _ _
  refine wpAny_call (codeAny_call_builtin PySem.F.excAttr_ValueError.ga.plain PySem.F.entry_bexc_ga ?_)
  refine @PySem.W.check_slot (model P w) _ _ ⟨hp, g, dr, t + 1, os⟩ "BaseException.__getattribute__" "BaseException" "__getattribute__" (.ref x) [.str "__class__" t] [] _ (by decide +kernel) (by decide +kernel) under (PySem.F.args_bexc_ga (.ref x) (.str "__class__" t)) ?_
  unfold Builtin.«object.__getattribute__»
  refine wpAny_bind (wpAny_of_eq (a := ((Value.ref x : Value), [Value.str "__class__" t])) (by first | rfl | (simp only [slotArgs]; rfl)) ?_)
  refine wpAny_bind (wpAny_pure (wpAny_bind (l0.at (wpAny_bind (l3.at ?_)))))
  refine wpAny_bind (wpAny_holding (wpAny_call (class_get (s := ⟨hp, g, dr, t + 1, os⟩) (ox := ox) (od := od) X I T.ob ?_)))
  refine wpAny_pure ?_
  show wpAny _ _ (handedOut (.ref C)) _ _ _
  rw [handedOut_of (show handedIn (.ref C) = true from rfl)]
  exact wpAny_pure q
theorem dga_cls (d tp : Value) : Builtin.Getset_descriptor.descrGetArgs ⟨[d, .ref C, tp], []⟩ = pure (d, some (.ref C), given tp) := by rfl
theorem name_get {R : Result → Shared → Prop} {nm : Str} {tp : Value} (X : K.In s.heap) (T : NameC K C nm) (q : ∀ t, R (.ok (.ret (.str nm t))) s) :
    codeAny (model P w) A (.call (.builtin "getset_descriptor.__get__") ⟨[.builtin "type.__name__", .ref C, tp], []⟩) R s := by
  obtain ⟨c, dd, cd, sl, tn, e, e2⟩ := T.at_
  have hty : typeIn K (.ref C) = some (.type "type") := by
    have := T.rd
    simp only [readsIn, Bool.and_eq_true, beq_iff_eq] at this
    exact this.1.1.1.2
  obtain ⟨hh, g, dr, t, os⟩ := s
  have L0 : Looks (model P w) hh (typeOf (.ref C)) (.type "type") := looks_typeIn X hty
  have L1 : Looks (model P w) hh (isSubtype (.type "type") (.type "type")) true := Looks.of_pure (by rw [isSubtype_type]; kernel_rfl)
  have hC := X _ _ e
  refine codeAny_call_builtin KF.slot_gs.plain KF.entry_gs (KF.slot_gs.check _ _ _ _ _ _ _ _ ktyn_type (KF.args_gs _ _ _) ?_)
  unfold Builtin.«getset_descriptor.__get__» Builtin.Getset_descriptor.descrGet
  rw [dga_cls]
  refine wpAny_bind (wpAny_pure ?_)
  unfold Builtin.Getset_descriptor.descrGetter Builtin.Getset_descriptor.descrCheckInstance Builtin.Getset_descriptor.descrNameAndClass isInstance
  simp only [ktyn_owner]
  repeat lk
  refine ⟨Code.quiet_builtin _ (by decide +kernel), codeAny_builtin ktyn_entry ?_⟩
  unfold Builtin.«type.__name__»
  dsimp only
  unfold Builtin.keptObject
  dsimp only
  refine wpAny_bind ?_
  unfold PySem.slotAt
  refine wpAny_bind (wpAny_loadPart hC (wpAny_pure ?_))
  dsimp only
  rw [e2]
  first | exact wpAny_pure (q _) | exact q _ | trace_state
theorem name_of_cls {expr : Bool} {Q : Value → Shared → Prop} {nm : Str} (X : K.In s.heap) (T : NameC K C nm) (q : ∀ t, Q (.str nm t) { s with toks := s.toks + 1 }) : wpAny (model P w) A (getAttr (.ref C) "__name__" expr) Q E s := by
  refine cls_read X T.rd T.nf ?_
  show wpAny _ _ (do ret (← holding [Value.builtin "type.__name__"] (call (.builtin "getset_descriptor.__get__") [.builtin "type.__name__", .ref C, .type "type"]))) _ _ _
  refine wpAny_bind (wpAny_holding (wpAny_call (name_get (s := { s with toks := s.toks + 1 }) X T fun t => ?_)))
  exact wpAny_pure (handed_on rfl (q t))
/-- e.__class__.__name__.lower() -/
theorem lower_of_err {env : Env} {e : Expr} {p1 p2 p3 p4 : Pos} {Q : Value → Shared → Prop} {nm : Str} (X : K.In s.heap) (I : InstAt s.heap x ox C od) (T : NameC K C nm)
    (he : ∀ Q' : Value → Shared → Prop, Q' (.ref x) s → wpAny (model P w) A (eval e env) Q' E s) (hb : ∀ f : Str, attributeBase e f env (eval e env) = eval e env)
    (hb2 : attributeBase (.Attribute e "__class__" p1) "__name__" env (eval (.Attribute e "__class__" p1) env) = eval (.Attribute e "__class__" p1) env)
    (hb3 : attributeBase (.Attribute (.Attribute e "__class__" p1) "__name__" p2) "lower" env (eval (.Attribute (.Attribute e "__class__" p1) "__name__" p2) env) = eval (.Attribute (.Attribute e "__class__" p1) "__name__" p2) env)
    (hl : (p3.endLine == p4.line) = true) (q : ∀ z t u, Q (.str z t) { s with toks := u }) :
    wpAny (model P w) A (eval (.Call (.Attribute (.Attribute (.Attribute e "__class__" p1) "__name__" p2) "lower" p3) [] [] p4) env) Q E s := by
  refine Call_method0 hb3 hl (attr_of hb2 (attr_of (hb _) (he _ (cls_of_err X I T (name_of_cls (s := { s with toks := s.toks + 1 }) X T fun t => ?_)))))
  refine ⟨"str", _, PySem.F.plainAttrs_str, PySem.F.slot_str_lower, PySem.F.type_str_lower, typeIs_str _ _ _, (fun _ e => nomatch e), Calls.callWith_builtin rfl (PySem.evalArgs_none ?_)⟩
  exact PySem.SC.lower (PyProof.Rows.short24 (by have h1 := T.few; have := PyProof.Rows.len_lower nm; omega)) (q _ _ _)
end
end Kt
/-! KtMe2: the __init__ of the package's first class of errors: super().__init__(f"{why}"), then the word. -/
namespace Kt
open PySem PySem.Spec PySem.Calls PyProof.Rows L2
structure MePos where
  (a b c d e f g h i j k l m n o p : Pos)
abbrev meTxt (q : MePos) : Expr := .JoinedStr [.FormattedValue (.Name "why" q.d) (-1) none q.e] q.f
abbrev meSup (q : MePos) : Expr := .Call (.Attribute (.Call (.Name "super" q.a) [] [] q.b) "__init__" q.c) [meTxt q] [] q.g
abbrev meLow (q : MePos) : Expr := .Call (.Attribute (.Attribute (.Attribute (.Name "self" q.k) "__class__" q.l) "__name__" q.m) "lower" q.n) [] [] q.o
def meBody (q : MePos) : List Stmt := [.Expr (meSup q) q.h, .Assign [.Attribute (.Name "self" q.i) "word" q.j] (meLow q) q.p]
/-- what the written part says of that __init__, of the class at D -/
structure MeC (P : Program) (K : PySem.W.Frag) (mg : Str → Option Value) (D fM : Addr) : Prop where
  fn : ∃ (oc ccl cl : Value) (od cdd cld : Option Addr) (osl ccs csl : Array (Option Value)) (qual : Str) (params : Arguments) (q : MePos) (dV kV doc pm ct : Value) (an : Option Addr) (cda cc : Addr) (vs : Array Value) (file : Str) (tf : Tok) (cdD : ClassData) (ar1 : Arg) (pl : Env → Sem Bool),
    K.lookup fM = some ⟨oc, od, .func (PySem.W.fnX "__init__" qual params (meBody q) (initScope "why") [("__class__", cc)] dV kV doc pm an (.ref cda) ct), osl⟩ ∧ PySem.W.codeIn K (.ref cda) qual = true ∧
    (params.posonlyargs ++ params.args).head? = some ar1 ∧ ar1.arg = "self" ∧ (∀ (s : Shared) (a b : Value), K.In s.heap → BindsTo s (PySem.W.fnX "__init__" qual params (meBody q) (initScope "why") [("__class__", cc)] dV kV doc pm an (.ref cda) ct) ⟨[a, b], []⟩ [(("self" : Str), a), ("why", b)]) ∧
    (∀ env : Env, eval (meSup q) env = (do
      let ov ← attributeBase (.Call (.Name "super" q.a) [] [] q.b) "__init__" env (eval (.Call (.Name "super" q.a) [] [] q.b) env)
      standAt q.c.atName
      let (f, first) ← holding [ov] (getMethod ov "__init__" (pl env))
      callWith q.g f first (backTo q.g (starEach [meTxt q] env)) [])) ∧
    K.lookup cda = some ⟨ccl, cdd, .fields vs, ccs⟩ ∧ vs[2]? = some (.str file tf) ∧ ((P.main.file : Str) == file) = true ∧
    K.lookup cc = some ⟨cl, cld, .cell (some (.ref D)), csl⟩ ∧ PySem.W.clsIn K D = some cdD ∧ (q.n.endLine == q.o.line) = true
  top : (P.main.scope.names.lookup ("super" : Str)).isSome = false
  sup : mg "super" = none
/-- .. of a class at C that has this __init__ or comes to it by super() -/
structure MeOf (K : PySem.W.Frag) (D C : Addr) : Prop where
  at_ : OexC K C
  self_ : PySem.W.mroIn K C (.ref D) = some true
  par : PySem.W.ks_superIn K C D "__init__" = some (some (.builtin "ValueError.__init__"))
  val : PySem.W.subIn K (.ref C) (.type "ValueError") = some true
  opq : PySem.W.nsIn K cStatics "thirdparty.any" = some none
  exc : PySem.W.excInitIn K C [.type "ValueError", .type "Exception", .type "BaseException", .type "object"] "ValueError.__new__" = true
  nof : PySem.W.findIn K (.ref C) "word" = some none
  nm : ∃ nm, NameC K C nm
section
variable {P : Program} {w : World} {K : PySem.W.Frag} {mg : Str → Option Value} {A : Around} {base : Heap} {D C fM e t0 : Addr} {sh : Shared} {v : V} {u : Value}
theorem me_run (T : MeC P K mg D fM) (O : MeOf K D C) (mod : Mod K mg base) (bs : ∀ b o, base.get? b = some o → sh.heap.get? b = some o) (nb : base.get? e = none) (room : A.depth < recursionLimit)
    (there : sh.heap.get? e = some (PySem.W.excObj C t0 none .none)) (rel : RelV v u) (txt2 : Str) (as_ : inText v = some txt2) (short : txt2.length ≤ 5000) (big : ∀ i, v = .int i → i.natAbs.log2 < 1920)
    (R : Result → Shared → Prop)
    (fin : ∀ (s' : Shared) (dx t1 : Addr) (z : Str) (tz : Tok), s'.os = sh.os → s'.gens = sh.gens → (∀ b o, b ≠ e → sh.heap.get? b = some o → s'.heap.get? b = some o) → sh.heap.objs.size ≤ dx → dx ≠ e → s'.heap.get? e = some (PySem.W.excObj C t1 (some dx) .none) →
      s'.heap.Ns1 dx (fun y => if y = "word" then some (.str z tz) else none) → R (.ok (.ret .none)) s')
    (args : Args) (hargs : ∀ fd : FuncData, (∃ (oc : Value) (od : Option Addr) (osl : Array (Option Value)), K.lookup fM = some ⟨oc, od, .func fd, osl⟩) → BindsTo sh fd args [(("self" : Str), .ref e), ("why", u)]) :
    codeAny (model P w) A (.call (.ref fM) args) R sh := by
  obtain ⟨oc, ccl, cl, od, cdd, cld, osl, ccs, csl, qual, params, q, dV, kV, doc, pm, ct, an, cda, cc, vs, file, tf, cdD, ar1, pl, look, code, hpar, ha1, hbind, hev, hcode, hvs, hfile, hcell, hcls, hline⟩ := T.fn
  obtain ⟨nmz, NM⟩ := O.nm
  have X : K.In sh.heap := mod.kin.keeps bs
  obtain ⟨mb, nsb, boot⟩ := mod.blt
  refine ks_codeAny_call_defAt (fd := PySem.W.fnX "__init__" qual _ (meBody q) (initScope "why") [("__class__", cc)] dV kV doc pm an (.ref cda) ct) (body := meBody q) (binds := [("self", .ref e), ("why", u)]) room (X _ _ look) rfl (mod.nolimit.keeps bs) (PySem.W.codeRec_of X code) rfl ?binds ?nocell ?local_ ?run
  case binds => exact hargs _ ⟨_, _, _, look⟩
  case nocell =>
    intro z hz
    have hz : z = (("self" : Str), NameKind.local) ∨ z = (("why" : Str), NameKind.local) ∨ z = (("__class__" : Str), NameKind.free) ∨ z = (("super" : Str), NameKind.globalImplicit) := by simpa [initScope, PySem.W.fnX] using hz
    rcases hz with rfl | rfl | rfl | rfl <;> exact fun z => by cases z
  case local_ =>
    intro z hz
    have hz : z = (("self" : Str), Value.ref e) ∨ z = (("why" : Str), u) := by simpa using hz
    rcases hz with rfl | rfl <;> rfl
  case run =>
    intro h1 frame keep
    have len1 : sh.heap.objs.size < h1.objs.size := frame.lt
    obtain ⟨hid, hhid⟩ : ∃ hid : Hp, hid = fun b => if b = e then some (.own 0) else none := ⟨_, rfl⟩
    have off : ∀ {b : Addr}, b ≠ e → hid b = none := fun {b} n => by rw [hhid]; exact if_neg n
    have on : hid e ≠ none := by
      have z : hid e = some (.own 0) := by rw [hhid]; exact if_pos rfl
      rw [z]
      exact fun y => by cases y
    have elt : e < sh.heap.objs.size := Heap.lt_size there
    obtain ⟨L, hL⟩ : ∃ L, L = sh.heap.objs.size := ⟨_, rfl⟩
    have eL : e ≠ L := by rw [hL]; exact Nat.ne_of_lt elt
    have ground : ∀ b o, (hidT sh.heap hid).get? b = some o → h1.get? b = some o := fun b o z => keep b o (of_hidT z).1
    rw [← hL] at frame ⊢
    have F : Fr (hidT sh.heap hid) L h1 (fun x => ([("self", Value.ref e), ("why", u)] : List (Str × Value)).reverse.lookup x) := ⟨frame, ground, by rw [hL]; exact Nat.le_of_eq (hidT_size _ _)⟩
    have none_ : (hidT sh.heap hid).get? e = none := by
      match z : (hidT sh.heap hid).get? e with
      | none => rfl
      | some o => exact absurd (of_hidT z).2 on
    have N : News (hidT sh.heap hid) L h1 [(e, PySem.W.excObj C t0 none .none)] := fun p hp => by
      rw [List.mem_singleton.mp hp]
      exact ⟨keep _ _ there, eL, none_⟩
    have baseIn : ∀ b o, base.get? b = some o → (hidT sh.heap hid).get? b = some o := fun b o z => hidT_get (bs b o z) (off fun y => by rw [y, nb] at z; cases z)
    have X0 : K.In (hidT sh.heap hid) := mod.kin.keeps baseIn
    obtain ⟨env, henv⟩ : ∃ env, env = callEnv (PySem.W.fnX "__init__" qual params (meBody q) (initScope "why") [("__class__", cc)] dV kV doc pm an (.ref cda) ct) L fM := ⟨_, rfl⟩
    rw [← henv]
    have kind : env.scope.kind = .function := by rw [henv]; rfl
    have ks : env.kindOf "super" = some .globalImplicit := by rw [henv]; rfl
    have kc : env.kindOf "__class__" = some .free := by rw [henv]; rfl
    have kself : env.kindOf "self" = some .local := by rw [henv]; rfl
    have kwhy : env.kindOf "why" = some .local := by rw [henv]; rfl
    have lself : ([(("self" : Str), Value.ref e), ("why", u)] : List (Str × Value)).reverse.lookup ("self" : Str) = some (.ref e) := rfl
    have lwhy : ([(("self" : Str), Value.ref e), ("why", u)] : List (Str × Value)).reverse.lookup ("why" : Str) = some u := rfl
    have X1 : K.In h1 := X0.keeps ground
    have bk1 : ∀ b o, base.get? b = some o → h1.get? b = some o := fun b o z => ground b o (baseIn b o z)
    obtain ⟨oD, hD1, hD2⟩ : ∃ oD, h1.get? D = some oD ∧ oD.data = .cls cdD := by
      unfold PySem.W.clsIn at hcls
      split at hcls
      · rename_i c d cd' sl ho
        cases hcls
        exact ⟨_, X1 _ _ ho, rfl⟩
      · cases hcls
    have I1 : PySem.W.InstAt h1 e (PySem.W.excObj C t0 none .none) C none := ⟨keep _ _ there, rfl, rfl, trivial⟩
    refine ks_wpAt_execs_cons (ks_wpAt_Expr_any (ks_wpAt_MethodCall (pl := pl env) ?_ (hev env)) ?int ?swap)
    case int => rw [henv]; rfl
    case swap => rw [henv]; rfl
    refine ks_wpAt_super_base ks kc (by decide) (f := fM) (by rw [henv]; rfl) (X1 _ _ look) rfl hpar (cc := cda) (by rw [henv]; rfl) (X1 _ _ hcode) rfl hvs hfile T.top ?_
    refine PySem.W.ks_loadName_global kind ks (loadGlobal_builtin (by rw [henv]; exact mod.glob.keeps bk1) T.sup (by rw [henv]; exact nsb.keeps bk1) ((boot _ (by decide)).trans (by decide +kernel)) ⟨rfl, ?_⟩)
    refine wpAny_loadName_free kind kc (by rw [henv]; rfl) ⟨_, X1 _ _ hcell, rfl⟩ ?_
    rw [ha1]
    refine wpAny_loadName_local kind kself (by rw [henv]; exact frame) lself ?_
    refine ks_wpAny_isType_cls hD1 hD2 ⟨rfl, ?_⟩
    refine ks_wpAny_call_super hD1 hD2 I1.at_ I1.cls (fun c z => by cases z) (PySem.W.looks_mroIn X1 O.self_) (fun h2 so2 keep2 => ?_)
    obtain ⟨F2, N2, _⟩ := PySem.W.ks_newsPush (s := ⟨h1, sh.gens, sh.drawn, sh.toks, sh.os⟩) F N rfl so2 keep2
    have I2 : PySem.W.InstAt h2 e (PySem.W.excObj C t0 none .none) C none := ⟨keep2 _ _ I1.at_, rfl, rfl, trivial⟩
    refine PySem.W.kxs_method PySem.W.kxs_ValueError F2 X0 N2 (.head _) I2 O.opq O.par O.val (by decide) (fun m3 h3 F3 N3 lt3 => ?_)
    refine PySem.W.kxs_callWith1 (i := "ValueError.__init__") (x := e) N3 (.head _) ?_
    show wpAny _ _ (spliced ((false, eval (meTxt q) env) :: backTo q.g (starEach [] env))) _ _ _
    refine Calls.spliced_cons (wpAny_JoinedStr_one ?_)
    have small : ∀ n : Nat, n ≤ 8000 → n ≤ sizeLine := fun n hn => Nat.le_trans hn (by decide)
    have al : ∀ y : Str, (Str.empty ++ y).length = y.length := fun y => by
      show (Str.empty ++ y).cps.size = y.cps.size
      show (#[] ++ y.cps).size = _
      simp
    refine wpAny_FormattedValue_plain (wpAny_Name (wpAny_loadName_local kind kwhy (by rw [henv]; exact F3.ns) lwhy ?_) (by decide))
    have elt2 : e < m3 := lt3 (e, _) (.tail _ (.head _))
    have ups : PySem.W.UpdF e (PySem.W.excObj C t0 none .none) [(m3, PySem.W.kxs_mw "ValueError.__init__" e), (h1.objs.size, PySem.W.ks_superObj D e C), (e, PySem.W.excObj C t0 none .none)] (fun o' => (m3, PySem.W.kxs_mw "ValueError.__init__" e) :: (h1.objs.size, PySem.W.ks_superObj D e C) :: [(e, o')]) :=
      .tail (Nat.ne_of_gt elt2) (.tail (Nat.ne_of_gt (Nat.lt_trans elt len1)) (.head (fun p hp => by cases hp)))
    have rest : ∀ (y : Str) (ty : Tok) (s4 : Shared), s4.heap = h3 → s4.os = sh.os → s4.gens = sh.gens → y.length ≤ 5000 →
        wpAny (model P w) (A.deeper env) (spliced (backTo q.g (starEach [] env))) (fun vs s₂ => PySem.W.KxsAt "ValueError.__init__" m3 e s₂.heap ∧ wpAny (model P w) (A.deeper env) (call (.ref m3) (Value.str y ty :: vs)) (fun _ s' => PySem.wpAt (model P w) (A.deeper env) (Code.func (meBody q) env)
              (execs [Stmt.Assign [(Expr.Name ("self" : Str) q.i).Attribute "word" q.j] (meLow q) q.p] env) (fun f s' => R (Except.ok (Flow.ret (match f with | Flow.ret v => v | x => Value.none))) s')
              (fun e s' => wpAny (model P w) (A.deeper env) (leaving env e) (fun _ s'' => R (Except.error e) s'') (fun e' s'' => R (Except.error e') s'') s') s')
              (fun e s' => wpAny (model P w) (A.deeper env) (leaving env e) (fun _ s'' => R (Except.error e) s'') (fun e' s'' => R (Except.error e') s'') s') s₂) (fun e s' => wpAny (model P w) (A.deeper env) (leaving env e) (fun _ s'' => R (Except.error e) s'') (fun e' s'' => R (Except.error e') s'') s') s4 := by
      rintro y ty ⟨hp4, g4, d4, tk4, os4⟩ rfl eo eg hy
      dsimp only at F3 N3 eo eg
      refine Calls.spliced_nil ⟨PySem.W.kxs_at N3 (.head _), ?_⟩
      refine PySem.W.kxs_call (s := ⟨hp4, g4, d4, tk4, os4⟩) F3 X0 N3 PySem.F.excBase_ValueError O.exc (.head _) ups (by show 1 ≤ sizeLine; decide) (fun t5 h5 F5 N5 lt5 => ?_)
      subst eo eg
      obtain ⟨nm, qn, NN, bss, bm, sn, sub, ab, col, dd, k0, k1, k2, k3, k5, hC, hbm⟩ := O.at_.cls
      have hcl : PySem.W.clsIn K C = some { name := nm, bases := bss, mro := .ref C :: bm, ns := NN, qualname := qn, hasDict := true, slotNames := sn, subclasses := sub, abstract := ab, collection := col, hasDel := false } := by
        unfold PySem.W.clsIn
        rw [hC]
      have X5 : K.In h5 := X0.keeps F5.keep
      obtain ⟨he5, _, _⟩ := N5 (e, PySem.W.excObj C t5 none .none) (.tail _ (.tail _ (.tail _ (.head _))))
      have I5 : PySem.W.InstAt h5 e (PySem.W.excObj C t5 none .none) C none := ⟨he5, rfl, rfl, trivial⟩
      refine ks_wpAt_execs_cons (ks_wpAt_Assign_Attr ?_ ?swap2)
      case swap2 => rw [henv]; rfl
      refine wpAt_of_wpAny (lower_of_err (s := ⟨h5, sh.gens, d4, tk4, sh.os⟩) X5 I5 NM (fun Q' q' => wpAny_Name (wpAny_loadName_local kind kself (by rw [henv]; exact F5.ns) lself q') (by decide)) (fun f => by rfl) (by rfl) (by rfl) hline fun z tz u => ?_)
      refine wpAny_Name (wpAny_loadName_local kind kself (by rw [henv]; exact F5.ns) lself ?_) (by decide)
      refine PySem.W.set_plain X5 (ox := PySem.W.excObj C t5 none .none) (od := none) I5 O.at_.sa ?_
      refine PySem.HandSPX.exc_osa X5 he5 hcl (show PySem.HandSPX.refsVE (.ref C :: bm) = true from hbm) rfl O.nof (fun h6 tk6 dx keep6 dn dne hx6 hn6 => ?_)
      refine wpAt_of_wpAny (wpAny_execs_nil ?_)
      refine fin _ dx t5 z tz rfl rfl (fun b o nb z => keep6 b o nb (F5.keep b o (hidT_get z (off nb)))) ?_ dne hx6 hn6
      have lt := F5.ns.lt
      rw [hL] at lt
      exact Nat.le_trans (Nat.le_of_lt lt) dn
    cases v with
    | str z =>
      obtain ⟨t, rfl⟩ := rel
      have e0 : z = txt2 := Option.some.inj as_
      subst e0
      exact wpAny_formatField_str (rest z t _ rfl rfl rfl short) (rest z _ _ rfl rfl rfl short) (small _ (by omega))
    | int i =>
      obtain ⟨t, rfl⟩ := rel
      have e0 : toString i = txt2 := by
        have := Option.some.inj as_
        exact this
      exact wpAny_formatField_int (big i rfl) (rest (Str.ofString (toString i)) _ _ rfl rfl rfl (by rw [show Str.ofString (toString i) = txt2 from e0]; exact short))
    | non => cases as_
    | bl b => cases as_
    | byt b => cases as_
    | flt b => cases as_
    | ref b => cases as_
    | ty b => cases as_
end
end Kt
/-! KtMe3: raising a class of errors that has the package's __init__ (see KtMe2). -/
namespace Kt
open PySem PySem.Spec PySem.Calls PyProof.Rows L2
/-- the promise of that __init__ for errors of the class at C -/
def sp_me (C : Addr) : Sp := fun vs H Q _ => ∃ (e : Addr) (v : V) (z : Str), vs = [.ref e, v] ∧ inText v = some z ∧ z.length ≤ 5000 ∧ (∀ i, v = .int i → i.natAbs.log2 < 1920) ∧ H e = some (exo e C none) ∧ ∀ d y H', H d = none → d ≠ e → H' = upd (upd H d (exd d [("word", .str y)])) e (exo e C (some d)) → Q .non H'
section
variable {P : Program} {w : World} {K : PySem.W.Frag} {mg : Str → Option Value} {base : Heap} {D C fM : Addr}
theorem me_ok (T : MeC P K mg D fM) (O : MeOf K D C) : ∃ fd : FuncData, FnOk P w K mg base CX0 1 fM fd [("self" : Str), "why"] (sp_me C) ∧ Binds K fd [("self" : Str), "why"] [] := by
  have T0 := T
  obtain ⟨oc, ccl, cl, od, cdd, cld, osl, ccs, csl, qual, params, q, dV, kV, doc, pm, ct, an, cda, cc, vs, file, tf, cdD, ar1, pl, look, code, hpar, ha1, hbind, hev, hcode, hvs, hfile, hcell, hcls, hline⟩ := T.fn
  refine ⟨_, ⟨?len, ?run⟩, fun s us X hl => match us, hl with | [a, b], _ => hbind s a b X⟩
  case len =>
    rintro vs H Q E ⟨e, v, z, rfl, _⟩
    rfl
  case run =>
    rintro A outer s H args us vs Q E room env binds rel ⟨e, v, z, rfl, as_, short, big, tracked, q⟩
    obtain ⟨u, rfl, r⟩ : ∃ u, us = [.ref e, u] ∧ RelV v u := by
      obtain ⟨a, b, rfl, ra, rb⟩ := vals2 rel
      obtain rfl : a = .ref e := ra
      exact ⟨b, rfl, rb⟩
    obtain ⟨t1, there⟩ := exo_at env.hok tracked
    refine me_run T0 O env.mod (fun b o z => (env.bs b o z).1) ?nb room.depth there r z as_ short big _ (fun s' dx t1 y ty os gens keep dn dne hx hn => ?_) args (fun fd' ⟨oc', od', osl', look'⟩ => ?_)
    case nb =>
      match y : base.get? e with
      | none => rfl
      | some o =>
        have := (env.bs e o y).2
        rw [tracked] at this
        cases this
    · have free : H dx = none := env.hok.fresh dn
      have far : ∀ {b : Addr}, H b = none → b ≠ e := fun {b} n y => by
        rw [y, tracked] at n
        cases n
      have apart : ∀ {b : Addr} {o : Obj}, s.heap.get? b = some o → b ≠ dx := fun {b o} y => Nat.ne_of_lt (Nat.lt_of_lt_of_le (Heap.lt_size y) dn)
      refine ⟨.non, upd (upd H dx (exd dx [("word", .str y)])) e (exo e C (some dx)), os, by rw [gens]; exact env.bare, ?un, ?ok, rfl, q dx y _ free dne rfl⟩
      case un =>
        constructor
        · intro b o y none_ _ _
          exact keep b o (far none_) y
        · intro b o y none_ _ _
          exact ⟨o.slots, keep b o (far none_) y⟩
        · intro b o y none_ _
          rw [upd_ne (far none_), upd_ne (apart y)]
          exact none_
        · intro b o y _
          by_cases at_ : b = e
          · exact ⟨_, by rw [at_]; exact hx⟩
          · exact ⟨o, keep b o at_ y⟩
        · intro b xs y
          rw [upd_ne (at_ne tracked y exo_tup), upd_ne (ne_of_none y free)]
          exact y
        · intro b o x y
          rw [upd_ne (at_ne tracked y exo_frz), upd_ne (ne_of_none y free)]
          exact y
        · intro b ps y
          refine ⟨#[], ?_⟩
          rw [upd_ne (at_ne tracked y exo_tbl), upd_ne (ne_of_none y free), y, Array.append_empty]
      case ok =>
        intro b o z
        by_cases at_ : b = e
        · subst at_
          rw [upd_same] at z
          obtain rfl := Option.some.inj z
          exact exo_ok hx
        · rw [upd_ne at_] at z
          by_cases new : b = dx
          · subst new
            rw [upd_same] at z
            obtain rfl := Option.some.inj z
            exact exd_ok hn (relO_put (fs := []) (show RelV (.str y) (.str y ty) from ⟨ty, rfl⟩) fun _ => trivial)
          · rw [upd_ne new] at z
            refine (env.hok b o z).stay (fun c x own look2 => keep c x ?_ look2) (fun c own => ?_) (fun c xs tup => ?_)
            · rcases own with own | own
              · rw [own]
                exact at_
              · exact at_ne tracked own exo_own
            · rw [upd_ne (at_ne tracked own exo_own), upd_ne (ne_of_none own free)]
              exact own
            · rw [upd_ne (at_ne tracked tup exo_tup), upd_ne (ne_of_none tup free)]
              exact tup
    · rw [look] at look'
      cases look'
      exact binds
end
/-- such a class may be raised -/
structure MeOk (P : Program) (w : World) (K : PySem.W.Frag) (mg : Str → Option Value) (base : Heap) (x : Str) : Prop where
  ex : ∃ (C fM : Addr) (fd : FuncData), mg x = some (.ref C) ∧ OexC K C ∧ PySem.W.findIn K (.ref C) "__init__" = some (some (.ref fM)) ∧ PySem.W.typeIn K (.ref fM) = some (.type "function") ∧ FnOk P w K mg base CX0 1 fM fd [("self" : Str), "why"] (sp_me C) ∧ Binds K fd [("self" : Str), "why"] []
theorem pmk_me {X : Cx} {j : Nat} {x : Str} {e : Expr} {ta : TA} {p pos : Pos} (c : MeOk X.prog X.w X.K X.mg X.base x) (hr : Room j X.A) (hk : 2 ≤ j) (hg : Gl X x) (ha : PA X [e] ta) (hdb : (x == ("__debug__" : Str)) = false := by decide)
    (he : starEach [e] X.env = (false, eval e X.env) :: starEach [] X.env := by rfl) (hpl : (backTo pos (starEach [] X.env)).any (·.1) = false := by rfl) : PMk X (.Call (.Name x p) [e] [] pos) (tMkO (clsA X.mg x) (sp_me (clsA X.mg x)) [] ta) := by
  obtain ⟨C, fM, fd, at_, oex, ini, typ, fn, binds⟩ := c.ex
  rw [clsA_of at_]
  exact pmk_oex oex ini typ fn (hr.mono hk) binds .nil pass0 hg at_ ha hdb he hpl
theorem me_go {C : Addr} {H1 : Hp} {v : V} {z : Str} {Q : XK} (as_ : inText v = some z) (short : z.length ≤ 5000) (big : ∀ i, v = .int i → i.natAbs.log2 < 1920) (go : ∀ d y H2, Same H1 H2 → H2 d = some (.xd [("word", .str y)]) → Q (.ref C) (some d) H2) :
    [v].length ≤ 1000 ∧ ∀ a, H1 a = none → sp_me C (.ref a :: ([v] ++ [])) (upd H1 a (exo a C none)) (fun v H2 => v = .non ∧ ∃ (d : Addr) (fs : List (Str × V)), H2 a = some (exo a C (some d)) ∧ H2 d = some (exd d fs) ∧ H1 d = none ∧ Q (.ref C) (some d) (upd (del H2 a) d (.xd fs))) (fun _ _ _ => False) := by
  refine ⟨by show 1 ≤ 1000; decide, fun a na => ⟨a, v, z, rfl, as_, short, big, upd_same, fun d y H' nd dne eq => ?_⟩⟩
  rw [upd_ne dne] at nd
  subst eq
  refine ⟨rfl, d, [("word", .str y)], upd_same, by rw [upd_ne dne, upd_same], nd, go d y _ (fun b o z => ?_) upd_same⟩
  have na2 := ne_of_none z na
  rw [upd_ne (ne_of_none z nd), del_ne na2, upd_ne na2, upd_ne (ne_of_none z nd), upd_ne na2]
  exact z
/-- with a written text -/
theorem me_goT {C : Addr} {H1 : Hp} {z : Str} {Q : XK} (go : ∀ d y H2, Same H1 H2 → H2 d = some (.xd [("word", .str y)]) → Q (.ref C) (some d) H2) (short : z.length ≤ 5000 := by decide) :
    [V.str z].length ≤ 1000 ∧ ∀ a, H1 a = none → sp_me C (.ref a :: ([V.str z] ++ [])) (upd H1 a (exo a C none)) (fun v H2 => v = .non ∧ ∃ (d : Addr) (fs : List (Str × V)), H2 a = some (exo a C (some d)) ∧ H2 d = some (exd d fs) ∧ H1 d = none ∧ Q (.ref C) (some d) (upd (del H2 a) d (.xd fs))) (fun _ _ _ => False) :=
  me_go rfl short (fun i e => by cases e) go
/-! ### the facts of such classes, as the top leaves them -/
/-- of the first class, x0, whose __init__ it is -/
structure MeK (K : PySem.W.Frag) (mg : Str → Option Value) (D : Addr) : Prop where
  fn : ∃ (fM : Addr) (oc ccl cl : Value) (od cdd cld : Option Addr) (osl ccs csl : Array (Option Value)) (qual : Str) (params : Arguments) (q : MePos) (dV kV doc pm ct : Value) (an : Option Addr) (cda cc : Addr) (vs : Array Value) (tf : Tok) (ar1 : Arg) (pl : Env → Sem Bool),
    K.lookup fM = some ⟨oc, od, .func (PySem.W.fnX "__init__" qual params (meBody q) (initScope "why") [("__class__", cc)] dV kV doc pm an (.ref cda) ct), osl⟩ ∧ PySem.W.codeIn K (.ref cda) qual = true ∧
    (params.posonlyargs ++ params.args).head? = some ar1 ∧ ar1.arg = "self" ∧ (∀ (s : Shared) (a b : Value), K.In s.heap → BindsTo s (PySem.W.fnX "__init__" qual params (meBody q) (initScope "why") [("__class__", cc)] dV kV doc pm an (.ref cda) ct) ⟨[a, b], []⟩ [(("self" : Str), a), ("why", b)]) ∧
    (∀ env : Env, eval (meSup q) env = (do
      let ov ← attributeBase (.Call (.Name "super" q.a) [] [] q.b) "__init__" env (eval (.Call (.Name "super" q.a) [] [] q.b) env)
      standAt q.c.atName
      let (f, first) ← holding [ov] (getMethod ov "__init__" (pl env))
      callWith q.g f first (backTo q.g (starEach [meTxt q] env)) [])) ∧
    K.lookup cda = some ⟨ccl, cdd, .fields vs, ccs⟩ ∧ vs[2]? = some (.str "/claim/cut.py" tf) ∧ K.lookup cc = some ⟨cl, cld, .cell (some (.ref D)), csl⟩ ∧ (q.n.endLine == q.o.line) = true ∧
    PySem.W.findIn K (.ref D) "__init__" = some (some (.ref fM)) ∧ PySem.W.typeIn K (.ref fM) = some (.type "function")
  sup : mg "super" = none
  self_ : PySem.W.mroIn K D (.ref D) = some true
/-- of a class at C that comes to it -/
structure MeS (K : PySem.W.Frag) (D C : Addr) : Prop where
  of : MeOf K D C
  ini : PySem.W.findIn K (.ref C) "__init__" = PySem.W.findIn K (.ref D) "__init__"
theorem MeK.c {P : Program} {K : PySem.W.Frag} {mg : Str → Option Value} {D : Addr} (T : MeK K mg D) (Z : ProgF P) : ∃ fM, MeC P K mg D fM ∧ PySem.W.findIn K (.ref D) "__init__" = some (some (.ref fM)) ∧ PySem.W.typeIn K (.ref fM) = some (.type "function") := by
  obtain ⟨fM, oc, ccl, cl, od, cdd, cld, osl, ccs, csl, qual, params, q, dV, kV, doc, pm, ct, an, cda, cc, vs, tf, ar1, pl, look, code, hpar, ha1, hbind, hev, hcode, hvs, hcell, hline, hini, htyp⟩ := T.fn
  obtain ⟨cdD, hcls⟩ := clsIn_mro T.self_
  exact ⟨fM, ⟨⟨oc, ccl, cl, od, cdd, cld, osl, ccs, csl, qual, params, q, dV, kV, doc, pm, ct, an, cda, cc, vs, "/claim/cut.py", tf, cdD, ar1, pl, look, code, hpar, ha1, hbind, hev, hcode, hvs, Z.file, hcell, hcls, hline⟩, Z.top, T.sup⟩, hini, htyp⟩
theorem MeS.ok {P : Program} {w : World} {K : PySem.W.Frag} {mg : Str → Option Value} {base : Heap} {D : Addr} {x : Str} (S : MeS K D (clsA mg x)) (T : MeK K mg D) (Z : ProgF P) (at_ : mg x = some (.ref (clsA mg x))) : MeOk P w K mg base x := by
  obtain ⟨fM, c, ini, typ⟩ := T.c Z
  obtain ⟨fd, ok, binds⟩ := me_ok (w := w) (base := base) c S.of
  exact ⟨_, fM, fd, at_, S.of.at_, S.ini.trans ini, typ, ok, binds⟩
end Kt
namespace Kt
open PySem PySem.Spec PyProof.Rows L2
/-- what a raise of such a class at C promises: an error with its dict, all else stands -/
def Err (E : XK) (C : Value) (H : Hp) : Prop := ∀ (d : Addr) (y : Str) (H' : Hp), Same H H' → H' d = some (.xd [("word", .str y)]) → E C (some d) H'
theorem Err.wk {E : XK} {C : Value} {H H' : Hp} (e : Err E C H) (s : Same H H') : Err E C H' := fun d y H2 s2 h => e d y H2 (s.trans s2) h
/-- an own class of errors that is caught or asked by its name -/
structure ExG (K : PySem.W.Frag) (mg : Str → Option Value) (x : Str) (C : Addr) : Prop where
  g : mg x = some (.ref C)
  b : PySem.W.subIn K (.ref C) (.type "BaseException") = some true
  t : PySem.W.typeIn K (.ref C) = some (.type "type")
  i : PySem.W.isClsIn K C = true
  s : PySem.W.subIn K (.ref C) (.ref C) = some true
theorem ExG.at {K : PySem.W.Frag} {mg : Str → Option Value} {x : Str} {C : Addr} (g : mg x = some (.ref C)) (b : PySem.W.subIn K (.ref C) (.type "BaseException") = some true) (t : PySem.W.typeIn K (.ref C) = some (.type "type")) (i : PySem.W.isClsIn K C = true)
    (s : PySem.W.subIn K (.ref C) (.ref C) = some true) : ExG K mg x (clsA mg x) := by
  rw [clsA_of g]
  exact ⟨g, b, t, i, s⟩
/-- it takes what isinstance says it takes -/
theorem exm_kitG {K : PySem.W.Frag} {mg : Str → Option Value} {x : Str} {C : Addr} {t : Value} (e : ExG K mg x C) (k : PySem.W.kitOne K t (.ref C) = some true) : PySem.W.exmOne K t (.ref C) = some true := by
  have k2 : PySem.W.kitCls K t (.ref C) = some true := by
    unfold PySem.W.kitOne at k
    by_cases h : (t == .ref C) = true
    · obtain rfl := beq_iff_eq.mp h
      show (if ((PySem.W.clsIn K C).isSome && PySem.W.typeIn K (.ref C) == some (.type "type")) = true then PySem.W.subIn K (.ref C) (.ref C) else none) = _
      rw [show (PySem.W.clsIn K C).isSome = true from e.i, e.t, e.s]
      rfl
    · rw [if_neg h] at k
      exact k
  unfold PySem.W.exmOne
  rw [e.b]
  exact k2
end Kt
/-! KtN1: dicts whose keys are texts, numbers, None and nested tuples of them, all in one dict. -/
namespace Kt
open PySem PySem.Spec PyProof.Rows

/-- a value that may be a key: k tells it up to == -/
def NK (h : Heap) (k : NestedKey) (v : Value) : Prop := NestedIs h k v ∧ k.depth ≤ 8
theorem NK.inj {h : Heap} {j k : NestedKey} {v : Value} (a : NK h j v) (b : NK h k v) : j = k := NestedIs.inj _ _ _ a.1 b.1
theorem NK.kept {h h' : Heap} {k : NestedKey} {v : Value} {d : Addr} {o : Obj} {es : Array DictEntry} {ep : Nat} (a : NK h k v) (ho : h.get? d = some o) (hd : o.data = .dict es ep) (same : Heap.SameBut d h h') : NK h' k v := by
  refine ⟨NestedIs.at (fun b q vs n hq dat => ?_) k v a.1, a.2⟩
  have far : b ≠ d := fun z => by
    subst z
    cases ho.symm.trans hq
    cases hd.symm.trans dat
  exact (same.2 b far).trans hq
/-- an entry by its key's reading -/
def enN (w : World) (x : NestedKey × Value × Value) : DictEntry := ⟨x.1.hash w, x.2.1, x.2.2⟩
section
variable {P : Program} {w : World} {A : Around} {E : Value → Shared → Prop} {s : Shared} {d : Addr} {xs : List (NestedKey × Value × Value)} {k : NestedKey} {key : Value}
theorem hash_nk {Q : Int → Shared → Prop} (hu : A.units + 8 < cLine) (hk : NK s.heap k key) (q : Q (k.hash w) { s with toks := s.toks + k.draws }) : wpAny (model P w) A (pyHash key) Q E s := by
  have := hk.2
  exact pyHash_key _ _ _ _ _ hk.1 (by omega) q
theorem eq_nk {j : NestedKey} {u : Value} {Q : Bool → Shared → Prop} (hu : A.units + 8 < cLine) (hj : NK s.heap j u) (hk : NK s.heap k key) (q : Q (decide (j = k)) s) : wpAny (model P w) A (PySem.eqBool u key) Q E s := by
  have := hj.2
  have := hk.2
  refine eqAt_key j k A s _ _ hj.1 hk.1 (by omega) _ _ _ _ ?_
  rw [← NestedKey.decide_eq]
  exact q
theorem quiet_nk {Q : Bool → Shared → Prop} (hk : NK s.heap k key) (q : Q true s) : wpAny (model P w) A (eqIsQuiet 8 key) Q E s := quiet_key k _ 8 s hk.1 hk.2 A E Q q
theorem mayTell_nk {stored : List Value} {Q : Bool → Shared → Prop} (hk : NK s.heap k key) (all : ∀ v ∈ stored, ∃ j, NK s.heap j v) (q : Q false s) : wpAny (model P w) A (tableMayTell key stored) Q E s := by
  unfold tableMayTell
  split
  · exact wpAny_pure q
  · refine wpAny_bind (quiet_nk hk ?_)
    simp only [Bool.not_true, Bool.false_eq_true, if_false]
    refine wpAny_bind (wpAny_forIn_list _ (fun left acc now => now = s ∧ acc = (none, ()) ∧ left ⊆ stored) _ ?_ ?_ _ _ ⟨rfl, rfl, fun _ z => z⟩)
    · intro v left acc now I
      obtain ⟨rfl, rfl, sub⟩ := I
      obtain ⟨j, hj⟩ := all v (sub List.mem_cons_self)
      refine wpAny_bind (quiet_nk hj ?_)
      simp only [Bool.not_true, Bool.false_eq_true, if_false]
      exact wpAny_pure ⟨rfl, rfl, fun u hu => sub (List.mem_cons_of_mem _ hu)⟩
    · intro acc now I
      obtain ⟨rfl, rfl, _⟩ := I
      exact wpAny_pure q
end
end Kt
namespace Kt
open PySem PySem.Spec PyProof.Rows
/-- where the key k stands, or that it doesn't -/
def At (xs : List (NestedKey × Value × Value)) (k : NestedKey) (Q : Option Nat → Prop) : Prop :=
  (∃ j p, xs[j]? = some (k, p) ∧ Q (some j)) ∨ ((∀ (j : Nat) p, xs[j]? ≠ some (k, p)) ∧ Q none)
theorem one_place {xs : List (NestedKey × Value × Value)} (nd : (xs.map (·.1)).Nodup) {i j : Nat} {k : NestedKey} {p q : Value × Value} (a : xs[i]? = some (k, p)) (b : xs[j]? = some (k, q)) : i = j := by
  have a' : (xs.map (·.1))[i]? = some k := by rw [List.getElem?_map, a]; rfl
  have b' : (xs.map (·.1))[j]? = some k := by rw [List.getElem?_map, b]; rfl
  exact (List.getElem?_inj (List.getElem?_eq_some_iff.mp a').1 nd).mp (a'.trans b'.symm)
section
variable {P : Program} {w : World} {A : Around} {E : Value → Shared → Prop} {s : Shared} {d : Addr} {xs : List (NestedKey × Value × Value)} {k : NestedKey} {key : Value} {o : Obj} {es : Array DictEntry} {ep : Nat}
theorem enN_get (he : es.toList = xs.map (enN w)) (i : Nat) : es[i]? = (xs[i]?).map (enN w) := by rw [← Array.getElem?_toList, he, List.getElem?_map]
theorem enN_size (he : es.toList = xs.map (enN w)) : es.size = xs.length := by rw [← Array.length_toList, he, List.length_map]
abbrev spots (es : Array DictEntry) (h : Int) : List Nat := placesWithHash es.size (fun i => es[i]?.map (·.hash)) h
theorem spots_lt {h : Int} {i : Nat} (m : i ∈ spots es h) : i < es.size := by
  have := (List.mem_filter.mp m).1
  exact List.mem_range.mp this
theorem spots_mem (he : es.toList = xs.map (enN w)) {j : Nat} {p : Value × Value} (a : xs[j]? = some (k, p)) : j ∈ spots es (k.hash w) := by
  refine List.mem_filter.mpr ⟨List.mem_range.mpr ?_, ?_⟩
  · rw [enN_size he]
    exact (List.getElem?_eq_some_iff.mp a).1
  · show (es[j]?.map (·.hash) == some (k.hash w)) = true
    rw [enN_get he, a]
    simp [enN]
theorem spots_nodup {h : Int} : (spots es h).Nodup := List.Pairwise.filter _ List.nodup_range
theorem plain_nk {Q : Option Nat → Shared → Prop} (hu : A.units + 8 < cLine) (hk : NK s.heap k key) (ho : s.heap.get? d = some o) (hd : o.data = .dict es ep) (he : es.toList = xs.map (enN w))
    (his : ∀ x ∈ xs, NK s.heap x.1 x.2.1) (nd : (xs.map (·.1)).Nodup) (q : At xs k fun r => Q r s) : wpAny (model P w) A (dictWalkPlain d key (k.hash w) es (spots es (k.hash w))) Q E s := by
  unfold dictWalkPlain
  refine wpAny_bind (wpAny_forIn_list _ (fun left acc now => now = s ∧ acc = (none, ()) ∧ (∀ i ∈ left, i < es.size) ∧ ∀ (j : Nat) p, xs[j]? = some (k, p) → j ∈ left) _ ?_ ?_ _ _ ⟨rfl, rfl, fun i => spots_lt, fun j p => spots_mem he⟩)
  · intro i left acc now I
    obtain ⟨rfl, rfl, lt, has⟩ := I
    have il := lt i List.mem_cons_self
    obtain ⟨⟨j, u, v⟩, hx⟩ : ∃ y, xs[i]? = some y := ⟨xs[i]'(by rw [← enN_size he]; exact il), List.getElem?_eq_getElem _⟩
    have hj := his _ (List.mem_of_getElem? hx)
    have hex : es[i]? = some ⟨j.hash w, u, v⟩ := by rw [enN_get he, hx]; rfl
    have next : j ≠ k → (∀ i ∈ left, i < es.size) ∧ ∀ (j : Nat) p, xs[j]? = some (k, p) → j ∈ left := fun ne => ⟨fun i m => lt i (List.mem_cons_of_mem _ m), fun j' p y => by
      rcases List.mem_cons.mp (has j' p y) with rfl | m
      · rw [hx] at y
        cases y
        exact (ne rfl).elim
      · exact m⟩
    rw [hex]
    dsimp only
    by_cases hh : (j.hash w == k.hash w) = true
    · rw [if_pos hh]
      refine wpAny_bind (wpAny_dictEpoch ho hd (wpAny_bind (eq_nk hu hj hk (wpAny_bind (wpAny_dictEpoch ho hd ?_)))))
      show wpAny _ _ (if (ep != ep) = true then _ else _) _ E _
      rw [if_neg (by simp)]
      by_cases e : j = k
      · subst e
        rw [decide_eq_true rfl]
        refine wpAny_bind (wpAny_rule (wpAny_pure (wpAny_pure ?_)))
        rcases q with ⟨j', p, y, r⟩ | ⟨no, _⟩
        · rw [one_place nd hx y]
          exact r
        · exact (no _ _ hx).elim
      · rw [decide_eq_false e]
        exact wpAny_bind (wpAny_rule (wpAny_pure ⟨rfl, rfl, next e⟩))
    · rw [if_neg hh]
      refine wpAny_pure ⟨rfl, rfl, next fun e => ?_⟩
      rw [e] at hh
      simp at hh
  · intro acc now I
    obtain ⟨rfl, rfl, _, has⟩ := I
    rcases q with ⟨j', p, y, r⟩ | ⟨no, r⟩
    · exact absurd (has _ _ y) List.not_mem_nil
    · exact wpAny_pure r
theorem byText_nk {z : Str} {t : Tok} {Q : Option Nat → Shared → Prop} (hu : A.units + 8 < cLine) (hk : NK s.heap k (.str z t)) (ho : s.heap.get? d = some o) (hd : o.data = .dict es ep) (he : es.toList = xs.map (enN w))
    (his : ∀ x ∈ xs, NK s.heap x.1 x.2.1) (nd : (xs.map (·.1)).Nodup) (q : At xs k fun r => Q r s) : wpAny (model P w) A (foundByValue d (.str z t) es z) Q E s := by
  have ek : k = .text z := by
    obtain ⟨x, _⟩ := hk
    cases x
    rfl
  have isz : ∀ {j : NestedKey} {u : Value}, NK s.heap j u → (u.isStr z = true ↔ j = k) := fun {j u} hj => by
    obtain ⟨x, _⟩ := hj
    rw [ek]
    cases x with
    | none => exact ⟨fun y => (by cases y), fun y => (by cases y)⟩
    | bool e => exact ⟨fun y => (by cases y), fun y => (by cases y)⟩
    | int _ t => exact ⟨fun y => (by cases y), fun y => (by cases y)⟩
    | text z2 t2 =>
      constructor
      · intro y
        have : z2 = z := by simpa [Value.isStr] using y
        rw [this]
      · intro y
        cases y
        simp [Value.isStr]
    | tup h1 h2 h3 h4 => exact ⟨fun y => (by cases y), fun y => (by cases y)⟩
  unfold foundByValue
  cases hf : es.findIdx? (fun e => e.key.isStr z) with
  | none =>
    refine wpAny_pure ?_
    rcases q with ⟨j, p, y, r⟩ | ⟨_, r⟩
    · have := Array.findIdx?_eq_none_iff.mp hf (enN w (k, p)) (by
        have := enN_get he j
        rw [y] at this
        exact Array.mem_of_getElem? this)
      have hj := his _ (List.mem_of_getElem? y)
      rw [show (enN w (k, p)).key.isStr z = true from (isz hj).mpr rfl] at this
      cases this
    · exact r
  | some i =>
    obtain ⟨lt, hi, _⟩ := Array.findIdx?_eq_some_iff_getElem.mp hf
    obtain ⟨⟨j, u, v⟩, hx⟩ : ∃ y, xs[i]? = some y := ⟨xs[i]'(by rw [← enN_size he]; exact lt), List.getElem?_eq_getElem _⟩
    have hj := his _ (List.mem_of_getElem? hx)
    have hex : es[i]? = some ⟨j.hash w, u, v⟩ := by rw [enN_get he, hx]; rfl
    have hg : es[i] = ⟨j.hash w, u, v⟩ := by
      rw [Array.getElem?_eq_getElem lt] at hex
      exact Option.some.inj hex
    rw [hg] at hi
    have e : j = k := (isz hj).mp hi
    subst e
    dsimp only
    rw [hex]
    dsimp only
    refine wpAny_bind (wpAny_dictEpoch ho hd (wpAny_bind (eq_nk hu hj hk (wpAny_bind (wpAny_dictEpoch ho hd ?_)))))
    show wpAny _ _ (if (ep != ep) = true then _ else _) _ E _
    rw [if_neg (by simp), decide_eq_true rfl]
    refine wpAny_bind (wpAny_rule (wpAny_pure ?_))
    rcases q with ⟨j', p, y, r⟩ | ⟨no, _⟩
    · rw [one_place nd hx y]
      exact r
    · exact (no _ _ hx).elim
end
end Kt
namespace Kt
open PySem PySem.Spec PyProof.Rows
/-! what is stored at a key, and behind a store -/
abbrev RowN := NestedKey × Value × Value
def valN (xs : List RowN) (k : NestedKey) : Option Value := (xs.find? fun x => decide (x.1 = k)).map (·.2.2)
def putN (xs : List RowN) (k : NestedKey) (key v : Value) : List RowN := if (valN xs k).isSome then xs.map (fun x => if x.1 = k then (x.1, x.2.1, v) else x) else xs ++ [(k, key, v)]
theorem valN_some {xs : List RowN} {k : NestedKey} {v : Value} (h : valN xs k = some v) : ∃ (j : Nat) (u : Value), xs[j]? = some (k, u, v) := by
  unfold valN at h
  obtain ⟨x, hx, rfl⟩ := Option.map_eq_some_iff.mp h
  have hk : x.1 = k := by simpa using List.find?_some hx
  obtain ⟨j, hj⟩ := List.mem_iff_getElem?.mp (List.mem_of_find?_eq_some hx)
  exact ⟨j, x.2.1, by rw [hj, ← hk]⟩
theorem valN_none {xs : List RowN} {k : NestedKey} (h : valN xs k = none) (j : Nat) (p : Value × Value) : xs[j]? ≠ some (k, p) := fun y => by
  unfold valN at h
  have := List.find?_eq_none.mp (Option.map_eq_none_iff.mp h) _ (List.mem_of_getElem? y)
  simp at this
theorem valN_of {xs : List RowN} (nd : (xs.map (·.1)).Nodup) {j : Nat} {k : NestedKey} {u v : Value} (h : xs[j]? = some (k, u, v)) : valN xs k = some v := by
  cases e : valN xs k with
  | none => exact (valN_none e j _ h).elim
  | some v' =>
    obtain ⟨i, u', hi⟩ := valN_some e
    have := one_place nd h hi
    subst this
    rw [h] at hi
    cases hi
    rfl
theorem at_val {xs : List RowN} (nd : (xs.map (·.1)).Nodup) (k : NestedKey) {Q : Option Nat → Prop} (yes : ∀ j u v, xs[j]? = some (k, u, v) → valN xs k = some v → Q (some j)) (no : valN xs k = none → Q none) : At xs k Q := by
  cases e : valN xs k with
  | none => exact .inr ⟨valN_none e, no e⟩
  | some v =>
    obtain ⟨j, u, hj⟩ := valN_some e
    exact .inl ⟨j, _, hj, yes j u v hj e⟩
theorem putN_keys (xs : List RowN) (k : NestedKey) (key v : Value) : (putN xs k key v).map (·.1) = if (valN xs k).isSome then xs.map (·.1) else xs.map (·.1) ++ [k] := by
  unfold putN
  split
  · rw [List.map_map]
    refine List.map_congr_left fun x _ => ?_
    show (if x.1 = k then (x.1, x.2.1, v) else x).1 = x.1
    split <;> rfl
  · simp
theorem putN_nodup {xs : List RowN} (nd : (xs.map (·.1)).Nodup) (k : NestedKey) (key v : Value) : ((putN xs k key v).map (·.1)).Nodup := by
  rw [putN_keys]
  split
  · exact nd
  · rename_i h
    refine List.nodup_append.mpr ⟨nd, by simp, fun x hx y hy e => ?_⟩
    obtain rfl := List.mem_singleton.mp hy
    subst e
    obtain ⟨r, hr, rfl⟩ := List.mem_map.mp hx
    obtain ⟨j, hj⟩ := List.mem_iff_getElem?.mp hr
    rw [valN_of nd (u := r.2.1) (v := r.2.2) hj] at h
    exact h rfl
theorem putN_mem {xs : List RowN} {k : NestedKey} {key v : Value} {F : RowN → Prop} (old : ∀ x ∈ xs, F x) (again : ∀ x ∈ xs, x.1 = k → F (x.1, x.2.1, v)) (new : valN xs k = none → F (k, key, v)) : ∀ x ∈ putN xs k key v, F x := by
  intro x hx
  unfold putN at hx
  split at hx
  · obtain ⟨y, hy, rfl⟩ := List.mem_map.mp hx
    split
    · exact again y hy (by assumption)
    · exact old y hy
  · rename_i h
    rcases List.mem_append.mp hx with hx | hx
    · exact old x hx
    · obtain rfl := List.mem_singleton.mp hx
      exact new (Option.not_isSome_iff_eq_none.mp h)
theorem map_same {xs : List RowN} {k : NestedKey} {v : Value} (h : k ∉ xs.map (·.1)) : xs.map (fun x => if x.1 = k then (x.1, x.2.1, v) else x) = xs := by
  have : xs.map (fun x => if x.1 = k then (x.1, x.2.1, v) else x) = xs.map id := List.map_congr_left fun x hx => if_neg fun e => h (List.mem_map.mpr ⟨x, hx, e⟩)
  rw [this, List.map_id]
theorem putN_modify {w : World} : ∀ {xs : List RowN} {j : Nat} {k : NestedKey} {u v0 v : Value}, (xs.map (·.1)).Nodup → xs[j]? = some (k, u, v0) →
    (xs.map (enN w)).modify j (fun e => { e with val := v }) = (xs.map fun x => if x.1 = k then (x.1, x.2.1, v) else x).map (enN w)
  | [], j, k, u, v0, v, _, h => by simp at h
  | x :: r, 0, k, u, v0, v, nd, h => by
    simp only [List.getElem?_cons_zero, Option.some.injEq] at h
    subst h
    rw [List.map_cons, List.nodup_cons] at nd
    rw [List.map_cons, List.map_cons, map_same nd.1]
    simp [enN]
  | x :: r, j + 1, k, u, v0, v, nd, h => by
    simp only [List.getElem?_cons_succ] at h
    rw [List.map_cons, List.nodup_cons] at nd
    have ne : ¬ x.1 = k := fun e => nd.1 (List.mem_map.mpr ⟨_, List.mem_of_getElem? h, e.symm⟩)
    rw [List.map_cons, List.map_cons, if_neg ne, List.map_cons, List.modify_succ_cons, putN_modify nd.2 h]
/-- at d stands a dict of these rows, in their order -/
def DictN (w : World) (h : Heap) (d : Addr) (xs : List RowN) : Prop :=
  ∃ o es ep, h.get? d = some o ∧ o.ExactDict ∧ o.data = .dict es ep ∧ es.toList = xs.map (enN w) ∧ (∀ x ∈ xs, NK h x.1 x.2.1) ∧ (xs.map (·.1)).Nodup
section
variable {P : Program} {w : World} {A : Around} {E : Value → Shared → Prop} {s : Shared} {d : Addr} {xs : List RowN} {k : NestedKey} {key : Value}
theorem DictN.type (D : DictN w s.heap d xs) : s.TypeIs (.ref d) "dict" := by
  obtain ⟨o, es, ep, ho, ex, _⟩ := D
  exact ⟨o, ho, ex.1⟩
theorem or_nk {α : Type} {M : Model} {c : Prop} [Decidable c] {a b : Sem α} {Q : α → Shared → Prop} (h1 : c → wpAny M A a Q E s) (h2 : ¬ c → wpAny M A b Q E s) : wpAny M A (if c then a else b) Q E s := by
  by_cases h : c
  · rw [if_pos h]
    exact h1 h
  · rw [if_neg h]
    exact h2 h
theorem find_nk {o : Obj} {es : Array DictEntry} {ep : Nat} {Q : Option Nat → Shared → Prop} (hu : A.units + 8 < cLine) (hk : NK s.heap k key) (ho : s.heap.get? d = some o) (hd : o.data = .dict es ep) (he : es.toList = xs.map (enN w))
    (his : ∀ x ∈ xs, NK s.heap x.1 x.2.1) (nd : (xs.map (·.1)).Nodup) (q : At xs k fun r => Q r s) : wpAny (model P w) A (dictFind d key (k.hash w)) Q E s := by
  have all : ∀ v ∈ (spots es (k.hash w)).filterMap (fun i => es[i]?.map (·.key)), ∃ j, NK s.heap j v := by
    intro v hv
    obtain ⟨i, _, hi⟩ := List.mem_filterMap.mp hv
    rw [enN_get he] at hi
    cases hx : xs[i]? with
    | none => rw [hx] at hi; cases hi
    | some x =>
      rw [hx] at hi
      cases hi
      exact ⟨_, his _ (List.mem_of_getElem? hx)⟩
  unfold dictFind
  refine wpAny_holding (wpAny_bind (wpAny_dictEntries ho hd ?_))
  have one : ∀ a, key = .ref a → ¬ (es.any fun e => e.key == key && e.hash != k.hash w) = true := fun a ea => by
    subst ea
    rw [← Array.any_toList, he, Bool.not_eq_true]
    refine List.any_eq_false.mpr fun e m => ?_
    obtain ⟨x, hx, rfl⟩ := List.mem_map.mp m
    simp only [enN, Bool.and_eq_true, beq_iff_eq, bne_iff_ne, ne_eq, not_and, Decidable.not_not]
    intro ek
    have hx' := his x hx
    rw [ek] at hx'
    rw [hx'.inj hk]
  have plain := plain_nk (P := P) (E := E) hu hk ho hd he his nd q
  have hk0 := hk
  obtain ⟨isk, dp⟩ := hk
  obtain ⟨k0, ek⟩ : ∃ k0, k0 = k := ⟨k, rfl⟩
  rw [← ek] at q
  cases isk
  case' text => (show wpAny _ _ (if (es.all fun e => isExactStrKey e.key) = true then _ else _) _ E s; refine or_nk (fun _ => byText_nk hu hk0 ho hd he his nd (by rw [ek] at q; exact q)) fun _ => ?_)
  all_goals dsimp only
  all_goals refine or_nk (fun _ => plain) fun _ => ?_
  case' tup => rw [if_neg (one _ rfl)]
  all_goals refine or_nk (fun _ => wpAny_bind (wpAny_pure ?_)) fun _ => wpAny_bind (mayTell_nk hk0 all ?_)
  all_goals rw [if_neg (show ¬ (false && _) = true from Bool.false_ne_true)]
  all_goals refine wpAny_bind (wpAny_forIn_list _ (fun left acc now => now = s ∧ (∀ i ∈ left, i < es.size) ∧ left.Nodup ∧ ∃ hit, acc = (none, hit) ∧ ((hit = none ∧ ∀ (j : Nat) p, xs[j]? = some (k0, p) → j ∈ left) ∨ ∃ (j : Nat) (p : Value × Value), hit = some j ∧ xs[j]? = some (k0, p) ∧ j ∉ left)) _ ?_ ?_ _ _
      ⟨rfl, fun i => spots_lt, spots_nodup, none, rfl, .inl ⟨rfl, fun j p y => spots_mem he (ek ▸ y)⟩⟩)
  all_goals first
    | (intro acc now I
       obtain ⟨rfl, _, _, hit, rfl, hh⟩ := I
       rcases hh with ⟨rfl, has⟩ | ⟨j', p, rfl, y, _⟩
       · rcases q with ⟨j', p, y, r⟩ | ⟨no, r⟩
         · exact absurd (has _ _ y) List.not_mem_nil
         · exact wpAny_pure r
       · rcases q with ⟨j2, p2, y2, r⟩ | ⟨no, _⟩
         · rw [one_place nd y y2]
           exact wpAny_pure r
         · exact (no _ _ y).elim)
    | (intro i left acc now I
       obtain ⟨rfl, lt, nd2, hit, rfl, hh⟩ := I
       have il := lt i List.mem_cons_self
       have out := (List.nodup_cons.mp nd2).1
       obtain ⟨⟨j, u, v⟩, hx⟩ : ∃ y, xs[i]? = some y := ⟨xs[i]'(by rw [← enN_size he]; exact il), List.getElem?_eq_getElem _⟩
       have hj := his _ (List.mem_of_getElem? hx)
       have hex : es[i]? = some ⟨j.hash w, u, v⟩ := by rw [enN_get he, hx]; rfl
       have next : j ≠ k0 → (∀ i ∈ left, i < es.size) ∧ left.Nodup ∧ ∃ hit', ((none : Option (Option Nat)), hit) = (none, hit') ∧ ((hit' = none ∧ ∀ (j : Nat) p, xs[j]? = some (k0, p) → j ∈ left) ∨ ∃ (j : Nat) (p : Value × Value), hit' = some j ∧ xs[j]? = some (k0, p) ∧ j ∉ left) := fun ne => by
         refine ⟨fun i m => lt i (List.mem_cons_of_mem _ m), (List.nodup_cons.mp nd2).2, hit, rfl, ?_⟩
         rcases hh with ⟨e, has⟩ | ⟨j', p, e, y, no⟩
         · refine .inl ⟨e, fun j' p y => ?_⟩
           rcases List.mem_cons.mp (has j' p y) with rfl | m
           · rw [hx] at y
             cases y
             exact (ne rfl).elim
           · exact m
         · exact .inr ⟨j', p, e, y, fun m => no (List.mem_cons_of_mem _ m)⟩
       rw [hex]
       dsimp only
       refine or_nk (fun yes => ?_) fun ne => ?_
       · refine wpAny_bind (wpAny_dictEpoch ho hd (wpAny_bind (eq_nk hu hj hk0 (wpAny_bind (wpAny_dictEpoch ho hd ?_)))))
         show wpAny _ _ (if (ep != ep) = true then _ else _) _ E _
         rw [if_neg (by simp), ← ek]
         by_cases e : j = k0
         · rw [decide_eq_true e]
           rcases hh with ⟨rfl, has⟩ | ⟨j', p, _, y, no⟩
           · simp only [Option.isSome_none, Bool.false_eq_true, if_false, if_true]
             refine wpAny_bind (wpAny_rule ?_)
             rw [e] at hx
             split
             · refine wpAny_pure (wpAny_pure ?_)
               rcases q with ⟨j', p, y, r⟩ | ⟨no, _⟩
               · rw [one_place nd hx y]
                 exact r
               · exact (no _ _ hx).elim
             · exact wpAny_pure ⟨rfl, fun i m => lt i (List.mem_cons_of_mem _ m), (List.nodup_cons.mp nd2).2, _, rfl, .inr ⟨i, _, rfl, hx, out⟩⟩
           · rw [e] at hx
             exact (no (by rw [one_place nd y hx]; exact List.mem_cons_self)).elim
         · rw [decide_eq_false e]
           simp only [Bool.false_eq_true, if_false, Bool.false_and]
           exact wpAny_bind (wpAny_rule (wpAny_pure ⟨rfl, next e⟩))
       · refine wpAny_pure ⟨rfl, next fun e => ?_⟩
         rw [e, ek] at ne
         simp at ne)
end
end Kt
namespace Kt
open PySem PySem.Spec PyProof.Rows L2
section
variable {P : Program} {w : World} {A : Around} {E : Value → Shared → Prop} {s : Shared} {d : Addr} {xs : List RowN} {k : NestedKey} {key : Value}
theorem get_nk {Q : Option Value → Shared → Prop} (hu : A.units + 8 < cLine) (hk : NK s.heap k key) (D : DictN w s.heap d xs) (q : Q (valN xs k) { s with toks := s.toks + k.draws }) : wpAny (model P w) A (dictGet d key) Q E s := by
  obtain ⟨o, es, ep, ho, _, hd, he, his, nd⟩ := D
  refine wpAny_holding (wpAny_bind (hash_nk hu hk (wpAny_bind (find_nk (s := { s with toks := s.toks + k.draws }) hu hk ho hd he his nd (at_val nd k (fun j u v hj e => ?_) fun e => ?_)))))
  · rw [e] at q
    refine wpAny_bind (wpAny_dictEntries (s := { s with toks := s.toks + k.draws }) ho hd ?_)
    rw [enN_get he, hj]
    exact wpAny_pure q
  · rw [e] at q
    exact wpAny_pure q
theorem set_nk {v : Value} {Q : Unit → Shared → Prop} (hu : A.units + 8 < cLine) (hk : NK s.heap k key) (D : DictN w s.heap d xs) (hz : xs.length ≤ sizeLine)
    (q : ∀ h', DictN w h' d (putN xs k key v) → Heap.SameBut d s.heap h' → Q () { s with heap := h', toks := s.toks + k.draws }) : wpAny (model P w) A (dictSet d key v) Q E s := by
  obtain ⟨o, es, ep, ho, ex, hd, he, his, nd⟩ := D
  refine wpAny_holding (wpAny_bind (hash_nk hu hk ?_))
  refine wpAny_holding (wpAny_bind (find_nk (s := { s with toks := s.toks + k.draws }) hu hk ho hd he his nd (at_val nd k (fun j u v0 hj e => ?_) fun e => ?_)))
  · have et : (putN xs k key v) = xs.map fun x => if x.1 = k then (x.1, x.2.1, v) else x := by
      unfold putN
      rw [e]
      rfl
    refine wpAny_bind (wpAny_rule (wpAny_bind (wpAny_updateDict (s := { s with toks := s.toks + k.draws }) ho hd (wpAny_point (q _ ⟨_, _, ep, Heap.get?_update_self _ ho (Obj.isFreed_of_dict (Obj.data_mapDict hd _)), ex.mapDict _, Obj.data_mapDict hd _, ?_, ?_, putN_nodup nd k key v⟩ (Heap.SameBut.update ..))))))
    · rw [et, ← putN_modify nd hj, ← he]
      obtain ⟨l⟩ := es
      simp
    · exact putN_mem (F := fun y : RowN => NK _ y.1 y.2.1) (fun x hx => (his x hx).kept ho hd (Heap.SameBut.update ..)) (fun x hx _ => (his x hx).kept ho hd (Heap.SameBut.update ..)) (fun _ => hk.kept ho hd (Heap.SameBut.update ..))
  · have et : (putN xs k key v) = xs ++ [(k, key, v)] := by
      unfold putN
      rw [e]
      rfl
    refine wpAny_bind (wpAny_rule (wpAny_updateDictKeys (hz := by rw [enN_size he]; exact hz) (s := { s with toks := s.toks + k.draws }) ho hd (q _ ⟨_, _, ep + 1, Heap.get?_update_self _ ho (Obj.isFreed_of_dict (Obj.data_mapDictKeys hd _)), ex.mapDictKeys _, Obj.data_mapDictKeys hd _, ?_, ?_, putN_nodup nd k key v⟩ (Heap.SameBut.update ..))))
    · rw [et]
      simp [he, enN]
    · exact putN_mem (F := fun y : RowN => NK _ y.1 y.2.1) (fun x hx => (his x hx).kept ho hd (Heap.SameBut.update ..)) (fun x hx _ => (his x hx).kept ho hd (Heap.SameBut.update ..)) (fun _ => hk.kept ho hd (Heap.SameBut.update ..))
theorem has_nk {Q : Bool → Shared → Prop} (hu : A.units + 9 < cLine) (hk : NK s.heap k key) (sys : (d == sysModules) = false) (D : DictN w s.heap d xs) (q : Q (valN xs k).isSome { s with toks := s.toks + k.draws }) : wpAny (model P w) A (contains (.ref d) key) Q E s := by
  refine wpAny_contains_slot D.type PySem.F.slot_dict_contains (wpAny_call_entry PySem.F.slot_dict_contains D.type PySem.F.entry_dict_contains ?_ (PySem.F.args_dict_contains_2 _ _))
  show wpAny _ _ (dictGet d key >>= _) _ _ s
  refine wpAny_bind (get_nk (by rw [Around.in1_units]; omega) hk D ?_)
  cases e : valN xs k with
  | some v =>
    rw [e] at q
    exact wpAny_pure ⟨_, rfl, wpAny_truthy_bool q⟩
  | none =>
    rw [e] at q
    show wpAny _ _ (Builtin.Dict.pendingKey? d key >>= _) _ _ _
    exact wpAny_bind (wpAny_pendingKey_other sys (wpAny_pure ⟨_, rfl, wpAny_truthy_bool q⟩))
theorem in_nk {Q : Value → Shared → Prop} (hu : A.units + 9 < cLine) (hk : NK s.heap k key) (sys : (d == sysModules) = false) (D : DictN w s.heap d xs) (q : Q (.bool (valN xs k).isSome) { s with toks := s.toks + k.draws }) : wpAny (model P w) A (compareOp .In key (.ref d)) Q E s := by
  show wpAny _ _ (do return .bool (← contains (.ref d) key)) Q E s
  exact wpAny_bind (has_nk hu hk sys D (wpAny_pure q))
theorem notIn_nk {Q : Value → Shared → Prop} (hu : A.units + 9 < cLine) (hk : NK s.heap k key) (sys : (d == sysModules) = false) (D : DictN w s.heap d xs) (q : Q (.bool (!(valN xs k).isSome)) { s with toks := s.toks + k.draws }) : wpAny (model P w) A (compareOp .NotIn key (.ref d)) Q E s := by
  show wpAny _ _ (do return .bool (!(← contains (.ref d) key))) Q E s
  exact wpAny_bind (has_nk hu hk sys D (wpAny_pure q))
theorem getItem_nk {v : Value} {Q : Value → Shared → Prop} (hu : A.units + 9 < cLine) (hk : NK s.heap k key) (D : DictN w s.heap d xs) (e : valN xs k = some v) (q : Q v { s with toks := s.toks + k.draws }) : wpAny (model P w) A (getItem (.ref d) key) Q E s := by
  refine wpAny_holding (wpAny_bind (wpAny_sequenceKey D.type (by decide) (wpAny_bind (wpAny_callSpecial?_slot (name := Str.ofString "__getitem__") D.type slot_dict_getitem (wpAny_call_entry slot_dict_getitem D.type entry_dict_getitem ?_ (args_dict_getitem _ _))))))
  show wpAny _ _ (dictGet d key >>= _) _ _ s
  refine wpAny_bind (get_nk (by rw [Around.in1_units]; omega) hk D ?_)
  rw [e]
  exact wpAny_pure ⟨v, rfl, wpAny_pure q⟩
theorem setItem_nk {v : Value} {Q : Unit → Shared → Prop} (hu : A.units + 9 < cLine) (hk : NK s.heap k key) (D : DictN w s.heap d xs) (hz : xs.length ≤ sizeLine)
    (q : ∀ h', DictN w h' d (putN xs k key v) → Heap.SameBut d s.heap h' → Q () { s with heap := h', toks := s.toks + k.draws }) : wpAny (model P w) A (setItem (.ref d) key v) Q E s := by
  refine wpAny_holding (wpAny_bind (wpAny_sequenceKey D.type (by decide) (wpAny_bind (wpAny_callSpecial?_slot (name := Str.ofString "__setitem__") D.type slot_dict_setitem (wpAny_call_entry slot_dict_setitem D.type entry_dict_setitem ?_ (args_dict_setitem _ _ _))))))
  show wpAny _ _ (Builtin.Dict.notOrdered "__setitem__" ⟨[.ref d, key, v], []⟩ >>= _) _ _ s
  refine wpAny_bind (wpAny_notOrdered_dict D.type ?_)
  show wpAny _ _ (dictSet d key v >>= _) _ _ s
  exact wpAny_bind (set_nk (by rw [Around.in1_units]; omega) hk D hz fun h' D' same => wpAny_pure ⟨.none, rfl, wpAny_pure (q h' D' same)⟩)
theorem get2_nk {r : Value} {Q : Value → Shared → Prop} (hu : A.units + 9 < cLine) (hk : NK s.heap k key) (sys : (d == sysModules) = false) (D : DictN w s.heap d xs) (q : Q ((valN xs k).getD r) { s with toks := s.toks + k.draws }) :
    wpAny (model P w) A (call (.builtin "dict.get") [.ref d, key, r]) Q E s := by
  refine wpAny_call_entry PySem.F.slot_dict_get D.type PySem.F.entry_dict_get ?_ (PySem.F.args_dict_get_3 _ _ _)
  show wpAny _ _ (dictGet d key >>= _) _ _ s
  refine wpAny_bind (get_nk (by rw [Around.in1_units]; omega) hk D ?_)
  cases e : valN xs k with
  | some v =>
    rw [e] at q
    exact wpAny_pure ⟨v, rfl, q⟩
  | none =>
    rw [e] at q
    show wpAny _ _ (Builtin.Dict.missed d key >>= _) _ _ _
    exact wpAny_bind (wpAny_missed_other sys (wpAny_pure ⟨r, rfl, q⟩))
end
end Kt
namespace Kt
open PySem PySem.Spec PyProof.Rows L2
/-! ### keys as they stand in the abstract heap -/
mutual
inductive NRep (H : Hp) : NestedKey → V → Prop
  | none : NRep H .none .non
  | bool (b : Bool) : NRep H (.num (if b = true then 1 else 0)) (.bl b)
  | int (i : Int) : NRep H (.num i) (.int i)
  | text (z : Str) : NRep H (.text z) (.str z)
  | tup {a : Addr} {vs : List V} {ks : List NestedKey} : H a = some (.tup vs) → NReps H ks vs → NRep H (.tup ks) (.ref a)
inductive NReps (H : Hp) : List NestedKey → List V → Prop
  | nil : NReps H [] []
  | cons {k : NestedKey} {v : V} {ks : List NestedKey} {vs : List V} : NRep H k v → NReps H ks vs → NReps H (k :: ks) (v :: vs)
end
mutual
theorem NRep.is {P : Program} {w : World} {H : Hp} {h : Heap} (ok : HOk P w H h) : ∀ (k : NestedKey) (v : V) (u : Value), NRep H k v → RelV v u → NestedIs h k u
  | .none, _, _, r, e => by
    cases r
    obtain rfl := (show _ = Value.none from e)
    exact .none
  | .num i, _, _, r, e => by
    cases r with
    | bool b =>
      obtain rfl := (show _ = Value.bool b from e)
      exact .bool rfl
    | int _ =>
      obtain ⟨t, rfl⟩ := (show ∃ t, _ = Value.int i t from e)
      exact .int _ _
  | .text z, _, _, r, e => by
    cases r
    obtain ⟨t, rfl⟩ := (show ∃ t, _ = Value.str z t from e)
    exact .text _ _
  | .tup ks, _, _, r, e => by
    cases r with
    | @tup a vs _ ha rs =>
      obtain rfl := (show _ = Value.ref a from e)
      obtain ⟨_, its, rel, o, h1, h2, n, h3⟩ := (show ObjOk P w H h a (.tup vs) from ok a _ ha)
      exact .tup h1 h2 h3 (by simpa using NReps.are ok ks vs its rs rel)
theorem NReps.are {P : Program} {w : World} {H : Hp} {h : Heap} (ok : HOk P w H h) : ∀ (ks : List NestedKey) (vs : List V) (us : List Value), NReps H ks vs → Vals vs us → NestedAll h ks us
  | [], _, _, r, e => by
    cases r
    cases e
    exact .nil
  | k :: ks, _, _, r, e => by
    cases r with
    | cons r1 r2 =>
      cases e with
      | cons e1 e2 => exact .cons (NRep.is ok k _ _ r1 e1) (NReps.are ok ks _ _ r2 e2)
end
mutual
theorem NRep.wk {H H' : Hp} (w : ∀ a xs, H a = some (.tup xs) → H' a = some (.tup xs)) : ∀ (k : NestedKey) (v : V), NRep H k v → NRep H' k v
  | .none, _, r => by cases r; exact .none
  | .num i, _, r => by
    cases r with
    | bool b => exact .bool b
    | int _ => exact .int _
  | .text z, _, r => by cases r; exact .text _
  | .tup ks, _, r => by
    cases r with
    | tup ha rs => exact .tup (w _ _ ha) (NReps.wk w ks _ rs)
theorem NReps.wk {H H' : Hp} (w : ∀ a xs, H a = some (.tup xs) → H' a = some (.tup xs)) : ∀ (ks : List NestedKey) (vs : List V), NReps H ks vs → NReps H' ks vs
  | [], _, r => by cases r; exact .nil
  | k :: ks, _, r => by
    cases r with
    | cons r1 r2 => exact .cons (NRep.wk w k _ r1) (NReps.wk w ks _ r2)
end
mutual
/-- one value tells one key -/
theorem NRep.one {H : Hp} : ∀ (k j : NestedKey) (v : V), NRep H k v → NRep H j v → k = j
  | .none, _, _, r, q => by cases r; cases q; rfl
  | .num i, _, _, r, q => by
    cases r with
    | bool b => cases q; rfl
    | int _ => cases q; rfl
  | .text z, _, _, r, q => by cases r; cases q; rfl
  | .tup ks, _, _, r, q => by
    cases r with
    | tup ha rs =>
      cases q with
      | tup hb qs =>
        rw [ha] at hb
        cases hb
        rw [NReps.one ks _ _ rs qs]
theorem NReps.one {H : Hp} : ∀ (ks js : List NestedKey) (vs : List V), NReps H ks vs → NReps H js vs → ks = js
  | [], _, _, r, q => by cases r; cases q; rfl
  | k :: ks, _, _, r, q => by
    cases r with
    | cons r1 r2 =>
      cases q with
      | cons q1 q2 => rw [NRep.one k _ _ r1 q1, NReps.one ks _ _ r2 q2]
end
/-! ### the rows of such a dict -/
abbrev RowV := NestedKey × V × V
def valM (xs : List RowV) (k : NestedKey) : Option V := (xs.find? fun x => decide (x.1 = k)).map (·.2.2)
def putM (xs : List RowV) (k : NestedKey) (y v : V) : List RowV := if (valM xs k).isSome then xs.map (fun x => if x.1 = k then (x.1, x.2.1, v) else x) else xs ++ [(k, y, v)]
abbrev RowR (x : RowV) (y : RowN) : Prop := x.1 = y.1 ∧ RelV x.2.1 y.2.1 ∧ RelV x.2.2 y.2.2
theorem rows_val {xs : List RowV} {ys : List RowN} (r : Paired RowR xs ys) (k : NestedKey) : RelO (valM xs k) (valN ys k) := by
  induction r with
  | nil => exact True.intro
  | @cons x y xs ys h t ih =>
    obtain ⟨e, _, hv⟩ := h
    unfold valM valN at ih ⊢
    by_cases c : x.1 = k
    · rw [List.find?_cons_of_pos (by simpa using c), List.find?_cons_of_pos (by simpa using e.symm.trans c)]
      exact hv
    · rw [List.find?_cons_of_neg (by simpa using c), List.find?_cons_of_neg (by simpa using fun z => c (e.trans z))]
      exact ih
theorem rows_set {xs : List RowV} {ys : List RowN} (r : Paired RowR xs ys) {k : NestedKey} {v : V} {z : Value} (rv : RelV v z) : Paired RowR (xs.map fun x => if x.1 = k then (x.1, x.2.1, v) else x) (ys.map fun x => if x.1 = k then (x.1, x.2.1, z) else x) := by
  induction r with
  | nil => exact .nil
  | @cons p q ps qs h t ih =>
    rw [List.map_cons, List.map_cons]
    refine .cons ?_ ih
    by_cases c : p.1 = k
    · rw [if_pos c, if_pos (h.1.symm.trans c)]
      exact ⟨h.1, h.2.1, rv⟩
    · rw [if_neg c, if_neg fun z => c (h.1.trans z)]
      exact h
theorem rows_put {xs : List RowV} {ys : List RowN} (r : Paired RowR xs ys) {k : NestedKey} {y v : V} {u z : Value} (ry : RelV y u) (rv : RelV v z) : Paired RowR (putM xs k y v) (putN ys k u z) := by
  have e : (valM xs k).isSome = (valN ys k).isSome := (rows_val r k).isSome_eq
  unfold putM putN
  rw [e]
  split
  · exact rows_set r rv
  · exact Paired.snoc r ⟨rfl, ry, rv⟩
theorem putM_length (xs : List RowV) (k : NestedKey) (y v : V) : (putM xs k y v).length ≤ xs.length + 1 := by
  unfold putM
  split
  · rw [List.length_map]
    omega
  · rw [List.length_append]
    exact Nat.le_refl _
theorem putM_mem {xs : List RowV} {k : NestedKey} {y v : V} {F : RowV → Prop} (old : ∀ x ∈ xs, F x) (again : ∀ x ∈ xs, x.1 = k → F (x.1, x.2.1, v)) (new : F (k, y, v)) : ∀ x ∈ putM xs k y v, F x := by
  intro x hx
  unfold putM at hx
  split at hx
  · obtain ⟨z, hz, rfl⟩ := List.mem_map.mp hx
    split
    · exact again z hz (by assumption)
    · exact old z hz
  · rcases List.mem_append.mp hx with hx | hx
    · exact old x hx
    · obtain rfl := List.mem_singleton.mp hx
      exact new
/-- the object at a is a dict of these rows -/
def DNok (w : World) (xs : List RowV) (a : Addr) (h : Heap) : Prop :=
  (a == sysModules) = false ∧ xs.length ≤ sizeLine ∧ ∃ ys : List RowN, Paired RowR xs ys ∧ (ys.map (·.1)).Nodup ∧ ∃ o es ep, h.get? a = some o ∧ o.ExactDict ∧ o.data = .dict es ep ∧ es.toList = ys.map (enN w)
def DN (w : World) (a : Addr) (xs : List RowV) : HO := .ext (DNok w xs a)
/-- its keys, in the abstract heap -/
def KeysN (H : Hp) (xs : List RowV) : Prop := ∀ x ∈ xs, NRep H x.1 x.2.1 ∧ x.1.depth ≤ 8
theorem KeysN.wk {H H' : Hp} {xs : List RowV} (k : KeysN H xs) (w : ∀ a ys, H a = some (.tup ys) → H' a = some (.tup ys)) : KeysN H' xs := fun x hx => ⟨NRep.wk w _ _ (k x hx).1, (k x hx).2⟩
theorem KeysN.put {H : Hp} {xs : List RowV} {k : NestedKey} {y v : V} (K : KeysN H xs) (r : NRep H k y) (d : k.depth ≤ 8) : KeysN H (putM xs k y v) := putM_mem (F := fun x => NRep H x.1 x.2.1 ∧ x.1.depth ≤ 8) K (fun x hx _ => K x hx) ⟨r, d⟩
theorem KeysN.nil {H : Hp} : KeysN H [] := fun _ hx => (List.not_mem_nil hx).elim
theorem dn_obj {P : Program} {w : World} {H : Hp} {h : Heap} {a : Addr} {xs : List RowV} (x : DNok w xs a h) : ObjOk P w H h a (DN w a xs) := by
  refine ⟨x, ?_, fun h1 h2 p keep => ?_⟩
  · obtain ⟨_, _, ys, _, _, o, es, ep, ho, _⟩ := x
    exact ⟨o, ho⟩
  · obtain ⟨a1, a2, ys, r, nd, o, es, ep, ho, rest⟩ := p
    exact ⟨a1, a2, ys, r, nd, o, es, ep, keep o ho, rest⟩
section
variable {P : Program} {w : World} {X : Cx} {pins : List (Addr × Obj)} {σ : L2.St} {H : Hp} {s : Shared} {a : Addr} {xs : List RowV} {k : NestedKey} {y v : V} {u r : Value} {A : Around} {E : Value → Shared → Prop}
theorem dn_rd {h : Heap} (ok : HOk P w H h) (e : Rd H a (DN w a xs)) (K : KeysN H xs) : (a == sysModules) = false ∧ xs.length ≤ sizeLine ∧ ∃ ys : List RowN, Paired RowR xs ys ∧ DictN w h a ys := by
  have x : DNok w xs a h := by
    rcases e with e | ⟨o, e⟩
    · exact (show ObjOk P w H h a (DN w a xs) from ok a _ e).1
    · exact (show ObjOk P w H h a (.frz o (DN w a xs)) from ok a _ e).2.1
  obtain ⟨a1, a2, ys, rel, nd, o, es, ep, ho, ex, hd, he⟩ := x
  refine ⟨a1, a2, ys, rel, o, es, ep, ho, ex, hd, he, ?_, nd⟩
  clear nd he a2 e
  induction rel with
  | nil => exact fun _ hy => (List.not_mem_nil hy).elim
  | @cons p q ps qs h t ih =>
    intro z hz
    rcases List.mem_cons.mp hz with rfl | hz
    · obtain ⟨k1, k2⟩ := K p List.mem_cons_self
      obtain ⟨e1, e2, _⟩ := h
      exact ⟨NRep.is ok _ _ _ (e1 ▸ k1) e2, e1 ▸ k2⟩
    · exact ih (fun x hx => K x (List.mem_cons_of_mem _ hx)) z hz
theorem n_getItem {Q : Value → Shared → Prop} (hu : A.units + 9 < cLine) (I : Inv X pins σ H s) (e : Rd H a (DN X.w a xs)) (K : KeysN H xs) (nk : NRep H k y) (dk : k.depth ≤ 8) (l : valM xs k = some v) (ry : RelV y u)
    (h : ∀ w' s', Inv X pins σ H s' → RelV v w' → Q w' s') : wpAny (model X.prog X.w) A (getItem (.ref a) u) Q E s := by
  obtain ⟨_, _, ys, rel, D⟩ := dn_rd I.hok e K
  obtain ⟨w', hw, rw'⟩ := RelO.some_of (v := v) (o := valN ys k) (by rw [← l]; exact rows_val rel k)
  exact getItem_nk hu ⟨NRep.is I.hok _ _ _ nk ry, dk⟩ D hw (h w' _ (I.tok _) rw')
theorem n_in {Q : Value → Shared → Prop} (hu : A.units + 9 < cLine) (I : Inv X pins σ H s) (e : Rd H a (DN X.w a xs)) (K : KeysN H xs) (nk : NRep H k y) (dk : k.depth ≤ 8) (ry : RelV y u)
    (h : ∀ s', Inv X pins σ H s' → Q (.bool (valM xs k).isSome) s') : wpAny (model X.prog X.w) A (compareOp .In u (.ref a)) Q E s := by
  obtain ⟨sys, _, ys, rel, D⟩ := dn_rd I.hok e K
  refine in_nk hu ⟨NRep.is I.hok _ _ _ nk ry, dk⟩ sys D ?_
  rw [← (rows_val rel k).isSome_eq]
  exact h _ (I.tok _)
theorem n_notIn {Q : Value → Shared → Prop} (hu : A.units + 9 < cLine) (I : Inv X pins σ H s) (e : Rd H a (DN X.w a xs)) (K : KeysN H xs) (nk : NRep H k y) (dk : k.depth ≤ 8) (ry : RelV y u)
    (h : ∀ s', Inv X pins σ H s' → Q (.bool (!(valM xs k).isSome)) s') : wpAny (model X.prog X.w) A (compareOp .NotIn u (.ref a)) Q E s := by
  obtain ⟨sys, _, ys, rel, D⟩ := dn_rd I.hok e K
  refine notIn_nk hu ⟨NRep.is I.hok _ _ _ nk ry, dk⟩ sys D ?_
  rw [← (rows_val rel k).isSome_eq]
  exact h _ (I.tok _)
theorem n_setItem {Q : Unit → Shared → Prop} (hu : A.units + 9 < cLine) (I : Inv X pins σ H s) (e : H a = some (DN X.w a xs)) (K : KeysN H xs) (nk : NRep H k y) (dk : k.depth ≤ 8) (few : xs.length < sizeLine) (ry : RelV y u) (rv : RelV v r)
    (h : ∀ s', Inv X pins σ (upd H a (DN X.w a (putM xs k y v))) s' → Q () s') : wpAny (model X.prog X.w) A (setItem (.ref a) u r) Q E s := by
  obtain ⟨sys, hz, ys, rel, D⟩ := dn_rd I.hok (.inl e) K
  refine setItem_nk hu ⟨NRep.is I.hok _ _ _ nk ry, dk⟩ D (by rw [← Paired.length rel]; exact hz) fun h' D' same => h _ ?_
  obtain ⟨o, es, ep, ho, ex, hd, he, _, nd⟩ := D'
  refine I.write (x := a) (e := a) (by rw [e]; exact True.intro) (.inl rfl) (fun b q hb z => (same.2 b hb).trans z) ⟨o, ho⟩ (dn_obj ⟨sys, ?_, _, rows_put rel ry rv, nd, o, es, ep, ho, ex, hd, he⟩)
  have := putM_length xs k y v
  omega
theorem n_get2 {d : V} {Q : Value → Shared → Prop} (hu : A.units + 9 < cLine) (I : Inv X pins σ H s) (e : Rd H a (DN X.w a xs)) (K : KeysN H xs) (nk : NRep H k y) (dk : k.depth ≤ 8) (ry : RelV y u) (rd : RelV d r)
    (h : ∀ w' s', Inv X pins σ H s' → RelV ((valM xs k).getD d) w' → Q w' s') : wpAny (model X.prog X.w) A (call (.builtin "dict.get") [.ref a, u, r]) Q E s := by
  obtain ⟨sys, _, ys, rel, D⟩ := dn_rd I.hok e K
  exact get2_nk hu ⟨NRep.is I.hok _ _ _ nk ry, dk⟩ sys D (h _ _ (I.tok _) ((rows_val rel k).getD rd))
end
/-! ### rules -/
/-- the dict at a has these rows, with keys that stand -/
def IsN (w : World) (H : Hp) (a : Addr) (xs : List RowV) : Prop := Rd H a (DN w a xs) ∧ KeysN H xs
/-- y is a key for such a dict -/
def IsK (H : Hp) (k : NestedKey) (y : V) : Prop := NRep H k y ∧ k.depth ≤ 8
def tNGet (w : World) (td ty : TE) : TE := fun σ H Q => td σ H fun x H1 => ty σ H1 fun y H2 => ∃ a xs k v, x = .ref a ∧ IsN w H2 a xs ∧ IsK H2 k y ∧ valM xs k = some v ∧ Q v H2
def tNIn (w : World) (ty td : TE) : TE := fun σ H Q => ty σ H fun y H1 => td σ H1 fun x H2 => ∃ a xs k, x = .ref a ∧ IsN w H2 a xs ∧ IsK H2 k y ∧ Q (.bl (valM xs k).isSome) H2
def tNNotIn (w : World) (ty td : TE) : TE := fun σ H Q => ty σ H fun y H1 => td σ H1 fun x H2 => ∃ a xs k, x = .ref a ∧ IsN w H2 a xs ∧ IsK H2 k y ∧ Q (.bl (!(valM xs k).isSome)) H2
def sNPut (w : World) (td ty tv : TE) : TS := fun D σ H => tv σ H fun v H1 => td σ H1 fun x H2 => ty σ H2 fun y H3 => ∃ a xs k, x = .ref a ∧ H3 a = some (DN w a xs) ∧ KeysN H3 xs ∧ IsK H3 k y ∧ xs.length < sizeLine ∧ D.nx σ (upd H3 a (DN w a (putM xs k y v)))
def tNGet2 (w : World) (td ty tx : TE) : TE := fun σ H Q => td σ H fun x H1 => ∃ a, x = .ref a ∧ (∃ xs, IsN w H1 a xs) ∧ ty σ H1 fun y H2 => tx σ H2 fun z H3 => ∃ xs k, IsN w H3 a xs ∧ IsK H3 k y ∧ Q ((valM xs k).getD z) H3
def tDNewN (w : World) : TE := fun _ H Q => ∀ p, H p = none → Q (.ref p) (upd H p (DN w p []))
section
variable {X : Cx} {o i e f value : Expr} {pos pos' apos cpos : Pos} {td ty tv tx : TE}
theorem n_type {pins : List (Addr × Obj)} {σ : L2.St} {H : Hp} {s : Shared} {a : Addr} {xs : List RowV} (I : Inv X pins σ H s) (n : IsN X.w H a xs) : s.TypeIs (.ref a) "dict" ∧ ∀ b, Value.ref a = .ref b → ∃ ob, s.heap.get? b = some ob ∧ ob.dict = none := by
  obtain ⟨_, _, ys, _, D⟩ := dn_rd I.hok n.1 n.2
  refine ⟨D.type, fun b q => ?_⟩
  cases q
  obtain ⟨ob, _, _, h1, h2, _⟩ := D
  exact ⟨ob, h1, h2.2.1⟩
theorem pe_dnewN : PE X (.Dict [] [] pos) (tDNewN X.w) := ⟨fun pins s σ H Q I h => by
  refine wpAny_Dict_empty ⟨.ref s.heap.objs.size, _, I.laid (a := s.heap.objs.size) (o := DN X.w s.heap.objs.size []) (t' := s.toks) (fun _ _ q => Heap.get?_push_of_some _ q) (Nat.le_refl _) ?_, rfl, h _ (I.hok.fresh (Nat.le_refl _))⟩
  exact dn_obj ⟨beq_eq_false_iff_ne.mpr (Ne.symm (Nat.ne_of_lt I.big)), Nat.zero_le _, [], .nil, List.nodup_nil, _, #[], 0, Heap.get?_push_size _ rfl, ⟨rfl, rfl, rfl⟩, rfl, rfl⟩⟩
theorem pe_nget (hu : X.A.units + 9 < cLine) (ho : PE X o td) (hi : PE X i ty) (hs : NoSl i) : PE X (.Subscript o i pos) (tNGet X.w td ty) := by
  refine ⟨fun pins s σ H Q I h => ?_⟩
  refine subD_of PySem.F.slot_dict_getitem.lookup hs (thn (ho.run pins s σ H _ I h) fun u s1 ⟨x, H1, I1, rx, q1⟩ => thn (hi.run pins s1 σ H1 _ I1 q1) fun iv s2 ⟨y, H2, I2, ry, a, xs, k, v, ex, n, nk, l, q2⟩ => ?_)
  subst ex
  obtain rfl : u = Value.ref a := rx
  exact ⟨(n_type I2 n).1, n_getItem hu I2 n.1 n.2 nk.1 nk.2 l ry fun w' s3 I3 rw' => ⟨v, H2, I3, rw', q2⟩⟩
theorem pc_nin (hu : X.A.units + 9 < cLine) (hi : PE X i ty) (ho : PE X o td) : PC X .In i o (tNIn X.w ty td) := by
  refine ⟨fun pins s σ H Q I h => ?_⟩
  refine thn (hi.run pins s σ H _ I h) fun iv s1 ⟨y, H1, I1, ry, q1⟩ => thn (ho.run pins s1 σ H1 _ I1 q1) fun u s2 ⟨x, H2, I2, rx, a, xs, k, ex, n, nk, q2⟩ => ?_
  subst ex
  obtain rfl : u = Value.ref a := rx
  exact n_in hu I2 n.1 n.2 nk.1 nk.2 ry fun s3 I3 => ⟨.bl (valM xs k).isSome, H2, I3, rfl, q2⟩
theorem pc_nnotin (hu : X.A.units + 9 < cLine) (hi : PE X i ty) (ho : PE X o td) : PC X .NotIn i o (tNNotIn X.w ty td) := by
  refine ⟨fun pins s σ H Q I h => ?_⟩
  refine thn (hi.run pins s σ H _ I h) fun iv s1 ⟨y, H1, I1, ry, q1⟩ => thn (ho.run pins s1 σ H1 _ I1 q1) fun u s2 ⟨x, H2, I2, rx, a, xs, k, ex, n, nk, q2⟩ => ?_
  subst ex
  obtain rfl : u = Value.ref a := rx
  exact n_notIn hu I2 n.1 n.2 nk.1 nk.2 ry fun s3 I3 => ⟨.bl (!(valM xs k).isSome), H2, I3, rfl, q2⟩
theorem ps_nput (hu : X.A.units + 9 < cLine) (ho : PE X o td) (hi : PE X i ty) (hv : PE X value tv) (hs : swapsWith value (some (.Subscript o i pos')) pos.line X.env = pure false) :
    PS X (.Assign [.Subscript o i pos'] value pos) (sNPut X.w td ty tv) := by
  refine ⟨fun pins s σ H D I h => ?_⟩
  refine wpAny_Assign_Subscript (thn (hv.run pins s σ H _ I h) fun r s1 ⟨v, H1, I1, rv, q1⟩ => thn (ho.run pins s1 σ H1 _ I1 q1) fun u s2 ⟨x, H2, I2, rx, q2⟩ => thn (hi.run pins s2 σ H2 _ I2 q2) fun iv s3 ⟨y, H3, I3, ry, a, xs, k, ex, n, K, nk, few, q3⟩ => ?_) hs
  subst ex
  obtain rfl : u = Value.ref a := rx
  exact n_setItem hu I3 n K nk.1 nk.2 few ry rv fun s4 I4 => ⟨σ, _, I4, q3⟩
theorem pe_nget2 (hu : X.A.units + 9 < cLine) (ho : PE X o td) (he : PE X e ty) (hf : PE X f tx) (m : M2 X o "get" apos e f cpos) : PE X (.Call (.Attribute o "get" apos) [e, f] [] cpos) (tNGet2 X.w td ty tx) := by
  refine ⟨fun pins s σ H Q I h => ?_⟩
  refine wpAny_Call_method m.base m.few m.line PySem.F.plainAttrs_dict PySem.F.slot_dict_get PySem.F.type_dict_get (thn (ho.run pins s σ H _ I h) fun u s1 ⟨x, H1, I1, rx, a, ex, ⟨xs, n⟩, q1⟩ => ?_)
  subst ex
  obtain rfl : u = Value.ref a := rx
  obtain ⟨t1, t2⟩ := n_type I1 n
  refine ⟨t1, t2, ?_⟩
  rw [m.trees]
  refine Calls.callWith_builtin rfl (Calls.evalArgs_plain (Calls.spliced_cons (thn (he.run pins s1 σ H1 _ I1 q1) fun iv s2 ⟨y, H2, I2, ry, q2⟩ =>
    Calls.spliced_cons (thn (hf.run pins s2 σ H2 _ I2 q2) fun fv s3 ⟨z, H3, I3, rz, xs, k, n3, nk, q3⟩ => Calls.spliced_nil ?_))))
  exact n_get2 hu I3 n3.1 n3.2 nk.1 nk.2 ry rz fun w' s4 I4 rw' => ⟨_, H3, I4, rw', q3⟩
end
end Kt
namespace Kt
open PySem PySem.Spec PyProof.Rows L2
/-! ### walks of such a dict, locked -/
theorem row_get {α β : Type} {G : α → β → Prop} {xs : List α} {ys : List β} (r : Paired G xs ys) {i : Nat} {x : α} (e : xs[i]? = some x) : ∃ y, ys[i]? = some y ∧ G x y := by
  induction r generalizing i with
  | nil => cases e
  | @cons a b as bs h t ih =>
    cases i with
    | zero =>
      cases e
      exact ⟨b, rfl, h⟩
    | succ j => exact ih (i := j) (by simpa using e)
/-- its keys, in their order -/
def ItN (w : World) (d : Addr) (o : Obj) (xs : List RowV) : It :=
  ⟨fun i H => H d = some (.frz o (DN w d xs)) ∧ i < xs.length, fun i H x H' => H' = H ∧ ∃ k v, xs[i]? = some (k, x, v), fun i H => H d = some (.frz o (DN w d xs)) ∧ xs.length ≤ i⟩
section
variable {X : Cx} {pins : List (Addr × Obj)} {σ : L2.St} {H : Hp} {s : Shared} {d : Addr} {o : Obj} {xs : List RowV}
theorem frzN {w : World} (I : Inv X pins σ H s) (h : H d = some (.frz o (DN w d xs))) : (d == sysModules) = false ∧ s.heap.get? d = some o ∧ o.ExactDict ∧ ∃ (es : Array DictEntry) (ep : Nat), o.data = .dict es ep ∧ es.size = xs.length ∧
    ∀ (i : Nat) k x v, xs[i]? = some (k, x, v) → ∃ en : DictEntry, es[i]? = some en ∧ RelV x en.key := by
  obtain ⟨hd, ok⟩ := I.hok d _ h
  obtain ⟨⟨sys, _, ys, rel, _, o', es, ep, ho, ex, hdat, he⟩, _⟩ := ok
  rw [hd] at ho
  cases ho
  refine ⟨sys, hd, ex, es, ep, hdat, ?_, fun i k x v e => ?_⟩
  · rw [enN_size he]
    exact (Paired.length rel).symm
  · obtain ⟨y, hy, r⟩ := row_get rel e
    exact ⟨_, by rw [enN_get he, hy]; rfl, r.2.1⟩
theorem turn_keysN {P : Program} {w : World} {K : PySem.W.Frag} {tg : Expr} {es : Array DictEntry} {ep : Nat} (it : Addr) (hod : o.data = .dict es ep) : Turn P w K tg (ItN w d o xs) [it] it (fun i h => h.IsKeyIter it d i xs.length ep) where
  mem := by simp
  obj := fun i h st b hb => by
    obtain rfl : b = it := by simpa using hb
    obtain ⟨oi, e, c, dd⟩ := st
    exact ⟨oi, e, fun v z => by rw [dd] at z; cases z⟩
  keep := fun i h h' st k => st.at fun oi e => k it (by simp) oi e
  item := by
    intro X hP hw hK hc i pins s σ H E I hf st hg
    subst hP hw hK
    obtain ⟨hd, hi⟩ := hg
    obtain ⟨f0, f1, f2, f3, f4, f5⟩ := hf it (by simp)
    obtain ⟨hs, hgd, hx, es', ep', hdt, hsz, ent⟩ := frzN I hd
    obtain ⟨rfl, rfl⟩ := dict_ep hod hdt
    obtain ⟨⟨k, y, v⟩, hkv⟩ : ∃ p, xs[i]? = some p := ⟨xs[i], List.getElem?_eq_getElem hi⟩
    obtain ⟨en, hen, hkey⟩ := ent i k y v hkv
    refine next_key_item st hgd hdt hsz hen fun h' st' sb => ?_
    have I1 : Inv X pins σ H { s with heap := h' } := I.turned (t' := s.toks) (fun b ob hb e => (sb.2 b hb).trans e) f0 f1 f3 f4 f5
    obtain ⟨oi, e, c, dd⟩ := id st'
    exact ⟨en.key, rfl, go_of (s := { s with heap := h' }) e c dd (by decide) ⟨y, H, I1, hkey, ⟨rfl, k, v, hkv⟩, st', fun b hb => (hf b hb).1⟩⟩
  done := by
    intro X hP hw hK hc i pins s σ H E I hf st hg
    subst hP hw hK
    obtain ⟨hd, hi⟩ := hg
    obtain ⟨f0, f1, f2, f3, f4, f5⟩ := hf it (by simp)
    obtain ⟨hs, hgd, hx, es', ep', hdt, hsz, ent⟩ := frzN I hd
    obtain ⟨rfl, rfl⟩ := dict_ep hod hdt
    exact next_key_end (I.ok.hd hc) st hgd hdt hsz hi fun h' eb => ⟨rfl, I.turned (t' := s.toks) (fun b ob hb e => eb b ob hb e) f0 f1 f3 f4 f5⟩
  self := fun A i s Q E st h => by
    refine wpAny_pyIter_slot st.typeIs PySem.F.slot_dict_keyiterator_iter (wpAny_call_entry PySem.F.slot_dict_keyiterator_iter st.typeIs PySem.F.entry_dict_keyiterator_iter ?_ (PySem.F.args_dict_keyiterator_iter_1 _))
    show wpAny _ _ (ret (.ref it)) _ _ s
    exact wpAny_pure ⟨_, rfl, "dict_keyiterator", _, st.typeIs, PySem.F.slot_dict_keyiterator_next.lookup, h⟩
end
/-- the dict is locked -/
def iKeysN (w : World) (td : TE) : TI := fun σ H R => td σ H fun x H1 => ∃ d o xs, x = .ref d ∧ H1 d = some (.frz o (DN w d xs)) ∧ R (ItN w d o xs) H1
theorem pi_keysN {X : Cx} {tg e : Expr} {td : TE} (he : PE X e td) : PI X tg e (iKeysN X.w td) := by
  refine ⟨fun pins s σ H R I h => ?_⟩
  refine thn (he.run pins s σ H _ I h) fun u s1 ⟨x, H1, I1, rx, d, o, xs, ex, hd, q⟩ => ?_
  subst ex
  obtain rfl : u = Value.ref d := rx
  obtain ⟨hs, hgd, hx, es, ep, hdt, hsz, ent⟩ := frzN I1 hd
  refine iter_keys hs hgd hx hdt (pi_one (tk := s1.toks) I1 _ (turn_keysN _ hdt) ⟨_, Heap.get?_push_size _ rfl, rfl, ?_⟩ q)
  rw [hsz] <;> rfl
theorem walk_keysN {w : World} {d : Addr} {o : Obj} {xs : List RowV} : Walk (ItN w d o xs) xs.length (fun H => H d = some (.frz o (DN w d xs))) (fun i H x H' => H' = H ∧ ∃ k v, xs[i]? = some (k, x, v)) :=
  ⟨fun _ _ hi q => ⟨q, hi⟩, fun _ q => ⟨q, Nat.le_refl _⟩, fun _ _ _ _ _ _ y => y⟩
end Kt
namespace Kt
open PySem PySem.Spec PyProof.Rows L2
theorem hu_n {k : Nat} {A : Around} (r : Room k A) : A.units + 9 < cLine := by
  have := r.un
  omega
/-- isinstance(d, c) of such a dict -/
def rIsiN (w : World) (K : PySem.W.Frag) : List V → Hp → VK → Prop := fun args H Q => ∃ (a : Addr) (xs : List RowV) (c : V) (u : Value) (b : Bool), args = [.ref a, c] ∧ Rd H a (DN w a xs) ∧ ClsV c u ∧ PySem.W.kitOne K (.type "dict") u = some b ∧ Q (.bl b) H
theorem call_isiN {X : Cx} : CallR X (.builtin "isinstance") (rIsiN X.w X.K) := by
  intro pins s σ H args us Q I r h
  obtain ⟨a, xs, c, u, b, rfl, e, k, e2, q⟩ := h
  obtain ⟨u1, u2, rfl, r1, r2⟩ := vals2 r
  have e3 := k.eq r2
  subst e3
  obtain rfl : u1 = Value.ref a := r1
  have x : DNok X.w xs a s.heap := by
    rcases e with e | ⟨o, e⟩
    · exact (show ObjOk X.prog X.w H s.heap a (DN X.w a xs) from I.hok a _ e).1
    · exact (show ObjOk X.prog X.w H s.heap a (.frz o (DN X.w a xs)) from I.hok a _ e).2.1
  obtain ⟨_, _, ys, _, _, o, es, ep, ho, ex, _⟩ := x
  exact PySem.W.kia_one (PySem.W.kitx_dict (a := a)) I.kIn ⟨o, ho, ex.1⟩ e2 (fun z => nomatch z) fun tk => ⟨.bl b, H, I.tok tk, rfl, q⟩
theorem call_isiE {X : Cx} : CallR X (.builtin "isinstance") (fun xs H Q => rIsiN X.w X.K xs H Q ∨ rIsi X.K xs H Q) := fun pl sh st hp args vals Q inv rel told => told.elim (call_isiN pl sh st hp args vals Q inv rel) (call_isi pl sh st hp args vals Q inv rel)
end Kt
namespace Kt
open PySem PySem.Spec PyProof.Rows L2
/-- as pe_nget, the world named (within a comprehension) -/
theorem pe_ngetW {X : Cx} {w : World} {o i : Expr} {pos : Pos} {td ty : TE} (hu : X.A.units + 9 < cLine) (ho : PE X o td) (hi : PE X i ty) (hs : NoSl i) (hw : X.w = w := by rfl) : PE X (.Subscript o i pos) (tNGet w td ty) := hw ▸ pe_nget hu ho hi hs
/-- over a list or a tuple -/
def iEith (K : PySem.W.Frag) (td : TE) : TI := fun σ H R => iList K td σ H R ∨ iTup K td σ H R
theorem pi_eith {X : Cx} {tg e : Expr} {td : TE} (he : PE X e td) : PI X tg e (iEith X.K td) := ⟨fun pins s σ H R I h => h.elim ((pi_list he).run pins s σ H R I) ((pi_tup he).run pins s σ H R I)⟩
theorem iEith.of {K : PySem.W.Frag} {td : TE} {σ : L2.St} {H : Hp} {R : It → Hp → Prop} {a : Addr} {xs : List V} (ht : ∀ Q : VK, Q (.ref a) H → td σ H Q) (hs : H a = some (.lst xs) ∨ H a = some (.tup xs))
    (hR : ∀ (J : It) (G : Hp → Prop), Walk J xs.length G (YAt xs) → (∀ H', Same H H' → G H') → R J H) : iEith K td σ H R :=
  hs.elim (fun h => .inl (ht _ ⟨a, rfl, ⟨xs, SqL.of h⟩, hR _ _ walk_list fun H' s => SqL.of (s _ _ h)⟩)) (fun h => .inr (ht _ ⟨a, rfl, ⟨xs, SqT.of h⟩, hR _ _ walk_tup fun H' s => SqT.of (s _ _ h)⟩))
end Kt
/-! KtW1: dicts of KtN: setdefault, len, truth, their keys in a list. -/
namespace Kt
open PySem PySem.Spec PyProof.Rows L2
section
variable {P : Program} {w : World} {A : Around} {E : Value → Shared → Prop} {s : Shared} {d : Addr} {xs : List RowN} {k : NestedKey} {key : Value}
/-- what stands at the key, or the default laid there -/
theorem setd_nk {dv : Value} {Q : Value → Shared → Prop} (hu : A.units + 8 < cLine) (hk : NK s.heap k key) (D : DictN w s.heap d xs) (hz : xs.length ≤ sizeLine)
    (old : ∀ v, valN xs k = some v → Q v { s with toks := s.toks + k.draws })
    (new : valN xs k = none → ∀ h', DictN w h' d (putN xs k key dv) → Heap.SameBut d s.heap h' → Q dv { s with heap := h', toks := s.toks + k.draws }) : wpAny (model P w) A (dictSetDefault d key dv) Q E s := by
  obtain ⟨o, es, ep, ho, ex, hd, he, his, nd⟩ := D
  unfold dictSetDefault
  refine wpAny_holding (wpAny_bind (hash_nk hu hk ?_))
  refine wpAny_bind (find_nk (s := { s with toks := s.toks + k.draws }) hu hk ho hd he his nd (at_val nd k (fun j u v0 hj e => ?_) fun e => ?_))
  · refine wpAny_bind (wpAny_dictEntries (s := { s with toks := s.toks + k.draws }) ho hd ?_)
    rw [enN_get he, hj]
    exact wpAny_bind (wpAny_rule (wpAny_pure (old _ e)))
  · have et : (putN xs k key dv) = xs ++ [(k, key, dv)] := by
      unfold putN
      rw [e]
      rfl
    refine wpAny_bind (wpAny_rule (wpAny_bind (wpAny_updateDictKeys (hz := by rw [enN_size he]; exact hz) (s := { s with toks := s.toks + k.draws }) ho hd (wpAny_pure (new e _ ⟨_, _, ep + 1, Heap.get?_update_self _ ho (Obj.isFreed_of_dict (Obj.data_mapDictKeys hd _)), ex.mapDictKeys _, Obj.data_mapDictKeys hd _, ?_, ?_, putN_nodup nd k key dv⟩ (Heap.SameBut.update ..))))))
    · rw [et]
      simp [he, enN]
    · exact putN_mem (F := fun y : RowN => NK _ y.1 y.2.1) (fun x hx => (his x hx).kept ho hd (Heap.SameBut.update ..)) (fun x hx _ => (his x hx).kept ho hd (Heap.SameBut.update ..)) (fun _ => hk.kept ho hd (Heap.SameBut.update ..))
theorem callSetd_nk {dv : Value} {Q : Value → Shared → Prop} (hu : A.units + 9 < cLine) (hk : NK s.heap k key) (sys : (d == sysModules) = false) (D : DictN w s.heap d xs) (hz : xs.length ≤ sizeLine)
    (old : ∀ v, valN xs k = some v → Q v { s with toks := s.toks + k.draws })
    (new : valN xs k = none → ∀ h', DictN w h' d (putN xs k key dv) → Heap.SameBut d s.heap h' → Q dv { s with heap := h', toks := s.toks + k.draws }) :
    wpAny (model P w) A (call (.builtin "dict.setdefault") [.ref d, key, dv]) Q E s := by
  refine wpAny_call_entry PySem.F.slot_dict_setdefault D.type PySem.F.entry_dict_setdefault ?_ (PySem.F.args_dict_setdefault_3 _ _ _)
  unfold Builtin.«dict.setdefault»
  refine wpAny_bind ?_
  unfold Builtin.Dict.keyAndDefault
  refine wpAny_bind (wpAny_notOrdered_dict D.type (wpAny_pure ?_))
  show wpAny _ _ (if (d == sysModules) = true then _ else (dictSetDefault d key dv >>= _)) _ _ s
  rw [if_neg (by rw [sys]; exact Bool.false_ne_true)]
  exact wpAny_bind (setd_nk (by rw [Around.in1_units]; omega) hk D hz (fun v e => wpAny_pure ⟨v, rfl, old v e⟩) fun e h' D' same => wpAny_pure ⟨dv, rfl, new e h' D' same⟩)
/-- how many there are -/
theorem size_nk (sys : (d == sysModules) = false) : MeetsIn P w (Builtin.«dict.__len__» ⟨[.ref d], []⟩) (fun _ R s => ∃ xs, DictN w s.heap d xs ∧ R (.ok (.ret (.int xs.length s.toks))) { s with toks := s.toks + 1 }) :=
  .of_wp fun A R s ⟨xs, D, h⟩ => by
    obtain ⟨o, es, ep, ho, _, hd, he, _⟩ := D
    show wpAny _ _ (dictSize d >>= _) _ _ s
    unfold dictSize
    refine wpAny_bind (wpAny_bind (wpAny_dictEntries ho hd (wpAny_pure ?_)))
    refine wpAny_bind (m := Builtin.Dict.pendingCount d) (wpAny_pendingCount_other sys (wpAny_ret_mkInt ?_))
    rw [Nat.add_zero, enN_size he]
    exact h
theorem lenBody_nk {Q : Value → Shared → Prop} (sys : (d == sysModules) = false) (D : DictN w s.heap d xs) (hz : (xs.length : Int) < 2 ^ 63) (h : Q (.int xs.length (s.toks + 1)) { s with toks := s.toks + 1 + 1 }) :
    wpAny (model P w) A (Builtin.«len» ⟨[.ref d], []⟩) (fun fin s' => ∃ r, fin = .done (.ret r) ∧ Q r s') E s := by
  unfold Builtin.«len»
  refine wpAny_bind (m := oneArg "len" _) (wpAny_pure (wpAny_bind (m := callSpecial? (.ref d) (Str.ofString "__len__")) ?_))
  refine wpAny_callSpecial?_slot (name := Str.ofString "__len__") D.type F.slot_dict_len (call_meetsIn F.slot_dict_len D.type F.entry_dict_len (F.args_dict_len_1 _) (size_nk (w := w) sys) ⟨xs, D, ?_⟩)
  refine wpAny_bind (wpAny_holding (wpAny_pure (wpAny_bind (wpAny_letGo ?_))))
  show wpAny _ _ (if ((xs.length : Nat) : Int) < 0 then _ else _) _ _ { s with toks := s.toks + 1 }
  rw [if_neg (by omega)]
  show wpAny _ _ (if ((xs.length : Nat) : Int) ≥ 2 ^ 63 then _ else _) _ _ _
  rw [if_neg (by omega)]
  exact wpAny_bind (wpAny_mkInt (wpAny_pure ⟨_, rfl, h⟩))
theorem len_nk {Q : Value → Shared → Prop} (sys : (d == sysModules) = false) (D : DictN w s.heap d xs) (hz : (xs.length : Int) < 2 ^ 63) (h : Q (.int xs.length (s.toks + 1)) { s with toks := s.toks + 1 + 1 }) :
    wpAny (model P w) A (call (.builtin "len") [.ref d]) Q E s := Calls.call_function_entry kind_len plain_len entry_len (args_len1 _) (lenBody_nk sys D hz h)
theorem truthy_nk {Q : Bool → Shared → Prop} (sys : (d == sysModules) = false) (D : DictN w s.heap d xs) (hz : (xs.length : Int) < 2 ^ 63) (h : Q (!xs.isEmpty) { s with toks := s.toks + 1 + 1 }) : wpAny (model P w) A (truthy (.ref d)) Q E s := by
  have ne : ((xs.length : Int) != 0) = !xs.isEmpty := by cases xs <;> simp <;> omega
  have key : wpAny (model P w) A (runValue (.builtin "len" ⟨[.ref d], []⟩)) (fun r s' => r = .int xs.length (s.toks + 1) ∧ Q (!xs.isEmpty) s') E s := by
    refine wpAny_runValue (codeAny_builtin entry_len ?_)
    rw [Around.under_plainId plain_len _]
    refine wpAny_mono (lenBody_nk (Q := fun r s' => r = .int xs.length (s.toks + 1) ∧ Q (!xs.isEmpty) s') sys D hz ⟨rfl, h⟩) (fun fin s' x => ?_) fun _ _ e => e
    obtain ⟨r, rfl, hq⟩ := x
    exact hq
  unfold truthy
  first
    | refine wpAny_bind (wpAny_callSpecial?_none (name := Str.ofString "__bool__") D.type noBool_dict ?_)
    | refine wpAny_bind (wpAny_pure (wpAny_bind (wpAny_callSpecial?_none (name := Str.ofString "__bool__") D.type noBool_dict ?_)))
  first
    | refine wpAny_bind (wpAny_specialOf (name := Str.ofString "__len__") D.type F.slot_dict_len.lookup ?_)
    | refine wpAny_bind (wpAny_pure (wpAny_bind (wpAny_specialOf (name := Str.ofString "__len__") D.type F.slot_dict_len.lookup ?_)))
  first
    | exact wpAny_bind (wpAny_mono key (fun r s' x => by obtain ⟨rfl, hq⟩ := x; exact wpAny_pure (ne ▸ hq)) fun _ _ e => e)
    | exact wpAny_bind (wpAny_pure (wpAny_bind (wpAny_mono key (fun r s' x => by obtain ⟨rfl, hq⟩ := x; exact wpAny_pure (ne ▸ hq)) fun _ _ e => e)))
/-- its keys, drawn one by one -/
theorem src_nk (sys : (d == sysModules) = false) {es : Array DictEntry} {ep : Nat} : PySem.W.KdlSrc P w "dict" d d es.size (fun i v => ∃ hi : i < es.size, v = es[i].key) (fun h => h.DictRaw d es ep) where
  type := fun _ r => r.typeIs
  there := fun _ r => by
    obtain ⟨o, ho, _⟩ := r
    exact ⟨Heap.lt_size ho, Heap.lt_size ho⟩
  keep := fun _ _ r kp => r.at fun o e => kp d (.inl rfl) o e
  notList := by decide
  notTuple := by decide
  hint := fun _ _ _ _ r q => PySem.W.kdl_hint_dict r.typeIs q
  iter := fun _ _ hh r => by
    have lt : d < _ := (let ⟨_, ho, _⟩ := r; Heap.lt_size ho)
    exact ⟨_, _, fun _ _ q => wpAny_pyIter_dict_raw sys r q, Walks.rawKeys hh _ d (Nat.ne_of_lt lt) es ep, ⟨⟨_, Heap.get?_push_size _ rfl, rfl, rfl⟩, r.at fun o e => Heap.get?_push_of_some _ e⟩⟩
end
end Kt
/-! KtW2: dict comprehensions that make dicts of KtN. -/
namespace Kt
open PySem PySem.Spec PyProof.Rows L2
/-- laid at a new place, such a dict without rows -/
theorem dn_new (w : World) {P : Program} {H : Hp} {h : Heap} (big : sysModules < h.objs.size) : ObjOk P w (upd H h.objs.size (DN w h.objs.size [])) (h.push { cls := .type "dict", data := .dict #[] }) h.objs.size (DN w h.objs.size []) :=
  dn_obj ⟨beq_eq_false_iff_ne.mpr (Ne.symm (Nat.ne_of_lt big)), Nat.zero_le _, [], .nil, List.nodup_nil, _, #[], 0, Heap.get?_push_size _ rfl, ⟨rfl, rfl, rfl⟩, rfl, rfl⟩
/-- {key: value for target in source if ..}: D the new dict -/
def tDcN (w : World) (src : TI) (tg : TG) (tst : TT) (tkey tval : TE) (own : List Nat) : TE := fun σ H Q => src σ H fun J H1 => ∀ D, H1 D = none → ∃ W : Nat → Nat → Hp → Prop, (∃ m, W 0 m (upd H1 D (DN w D []))) ∧ ∀ i m Hi, W i m Hi →
  (J.stop i Hi ∧ Q (.ref D) Hi) ∨ (J.go i Hi ∧ ∃ Nx : Hp → Prop, (∀ Hn, Nx Hn → ∃ m', m' < m ∧ W (i + 1) m' Hn) ∧ ∀ x Hy, J.yld i Hi x Hy → tg x (wipe σ own) Hy fun σ2 H2 => wipe σ2 own = wipe σ own ∧ tst σ2 H2 fun b H3 =>
    if b = true then tkey σ2 H3 fun y H4 => tval σ2 H4 fun z H5 => ∃ rows k, IsK H5 k y ∧ H5 D = some (DN w D rows) ∧ KeysN H5 rows ∧ rows.length < sizeLine ∧ Nx (upd H5 D (DN w D (putM rows k y z))) else Nx H3)
theorem n_dictSet {X : Cx} {pins : List (Addr × Obj)} {σ : L2.St} {H : Hp} {s : Shared} {a : Addr} {xs : List RowV} {k : NestedKey} {y v : V} {u r : Value} {E : Value → Shared → Prop} {Q : Unit → Shared → Prop} (hu : X.A.units + 8 < cLine) (I : Inv X pins σ H s) (e : H a = some (DN X.w a xs)) (K : KeysN H xs) (nk : IsK H k y) (few : xs.length < sizeLine) (ry : RelV y u) (rv : RelV v r)
    (h : ∀ s', Inv X pins σ (upd H a (DN X.w a (putM xs k y v))) s' → Q () s') : wpAny (model X.prog X.w) X.A (dictSet a u r) Q E s := by
  obtain ⟨sys, hz, ys, rel, D⟩ := dn_rd I.hok (.inl e) K
  refine set_nk hu ⟨NRep.is I.hok _ _ _ nk.1 ry, nk.2⟩ D (by rw [← Paired.length rel]; exact hz) fun h' D' same => h _ ?_
  obtain ⟨o, es, ep, ho, ex, hd, he, _, nd⟩ := D'
  refine I.write (x := a) (e := a) (by rw [e]; exact True.intro) (.inl rfl) (fun b q hb z => (same.2 b hb).trans z) ⟨o, ho⟩ (dn_obj ⟨sys, ?_, _, rows_put rel ry rv, nd, o, es, ep, ho, ex, hd, he⟩)
  have := putM_length xs k y v
  omega
section
variable {X : Cx}
theorem dcN_core {pl : List (Addr × Obj)} {sh : Shared} {σ : L2.St} {hp : Hp} {Q : VK} {kx vx tg src : Expr} {ifs : List Expr} {scope : Scope} {own : List (Str × Nat)} {pos pos' : Pos} {ti : TI} {g : TG} {tt : TT} {tk tv : TE} {use : Option (Value → Sem Unit)} {Qf : Value → Shared → Prop}
    (calm : X.calm = true) (hu : X.A.units + 8 < cLine) (nd : X.N.Nodup) (inv : Inv X pl σ hp sh) (hi : PI X tg src ti) (ok : BlkOk X.N X.env.scope scope own)
    (hg : ∀ (s : Shared) (H : Hp) (C : Addr) (cl : List (Str × Addr)) (fp : List Addr), PG (X.blk s H scope (compEnvC scope cl C X.env) fp) tg g) (ht : ∀ (s : Shared) (H : Hp) (C : Addr) (cl : List (Str × Addr)) (fp : List Addr), PTs (X.blk s H scope (compEnvC scope cl C X.env) fp) ifs tt)
    (hk : ∀ (s : Shared) (H : Hp) (C : Addr) (cl : List (Str × Addr)) (fp : List Addr), PE (X.blk s H scope (compEnvC scope cl C X.env) fp) kx tk)
    (hv : ∀ (s : Shared) (H : Hp) (C : Addr) (cl : List (Str × Addr)) (fp : List Addr), PE (X.blk s H scope (compEnvC scope cl C X.env) fp) vx tv) (fold : ∀ x, foldedSetIterable src X.env x = pure x)
    (told : tDcN X.w ti g tt tk tv (own.map (·.2)) σ hp Q)
    (done : ∀ D C sh' m hp', Inv X pl σ hp' sh' → Q (.ref D) hp' → sh'.heap.Ns C m → FpOk X pl hp' C → compPost (model X.prog X.w) X.A X.xe use Qf (.ref D) C (.ok .next) sh') :
    wpAny (model X.prog X.w) X.A (comprehension (.DictComp kx vx [⟨tg, src, ifs, 0⟩] scope pos) scope X.env pos' newDict false (eval src X.env) use) Qf X.xe sh := by
  have frees : ∀ y ∈ scope.names, y.2 = .free → ∃ c, X.env.cells.lookup y.1 = some c := by
    intro y hy e
    rcases ok.free y hy e with z | z
    · exact inv.ok.has _ (.inl z)
    · exact inv.ok.has _ (.inr z)
  refine wpAny_comprehension_free (use := use) rfl fold (closure_ok frees) ok.kind (fun y hy e => by rw [ok.uniq y hy, e]) ?_
  refine thn (hi.run pl sh σ hp _ inv told) fun xv sh1 hx => thn hx fun itv sh2 ⟨it, fp, tn, J, hp2, e, inv2, turn, st2, f2, q⟩ => ?_
  subst e
  refine wpAny_newObj_type (newEnv_comp ?_)
  obtain ⟨D, eD⟩ : ∃ D, D = sh2.heap.objs.size := ⟨_, rfl⟩
  have newD : hp2 D = none := inv2.hok.fresh (Nat.le_of_eq eD.symm)
  obtain ⟨W, ⟨m0, w0⟩, step⟩ := q D newD
  rw [← eD]
  -- the new dict stands
  obtain ⟨sh3, e3⟩ : ∃ sh3 : Shared, sh3 = { sh2 with heap := sh2.heap.push { cls := .type "dict", data := .dict #[] } } := ⟨_, rfl⟩
  have h3 : sh3.heap = sh2.heap.push { cls := .type "dict", data := .dict #[] } := by rw [e3]
  have inv3 : Inv X pl σ (upd hp2 D (DN X.w D [])) sh3 := by
    rw [e3]
    refine inv2.laid (t' := sh2.toks) (fun b o z => Heap.get?_push_of_some _ z) (Nat.le_of_eq eD.symm) ?_
    rw [eD]
    exact dn_new X.w inv2.big
  have low : ∀ b ∈ fp, b < sh2.heap.objs.size := by
    intro b hb
    obtain ⟨o, z, _⟩ := turn.obj _ _ st2 b hb
    exact Heap.lt_size z
  have f3 : ∀ b ∈ fp, FpOk X pl (upd hp2 D (DN X.w D [])) b ∧ b < sh3.heap.objs.size := by
    intro b hb
    have lt := low b hb
    refine ⟨⟨?_, (f2 b hb).2⟩, ?_⟩
    · rw [upd_ne (by rw [eD]; exact Nat.ne_of_lt lt)]
      exact (f2 b hb).1
    · rw [h3, Heap.size_push]
      exact Nat.lt_succ_of_lt lt
  have st3 : tn 0 sh3.heap := turn.keep _ _ _ st2 fun b _ o z => by
    rw [h3]
    exact Heap.get?_push_of_some _ z
  have inv4 := block_start inv3 ok nd f3
  obtain ⟨C, eC⟩ : ∃ C, C = sh3.heap.objs.size := ⟨_, rfl⟩
  obtain ⟨ce, ece⟩ : ∃ ce, ce = compEnvC scope (cellsFrom (C + 1) scope.names (cloFrom X.env.cells scope.names [])) C X.env := ⟨_, rfl⟩
  have eCe : compEnvC scope (cellsFrom (sh3.heap.objs.size + 1) scope.names (cloFrom X.env.cells scope.names [])) sh3.heap.objs.size X.env = ce := by rw [ece, eC]
  have pg := hg sh3 (upd hp2 D (DN X.w D [])) C (cellsFrom (C + 1) scope.names (cloFrom X.env.cells scope.names [])) fp
  have pt := ht sh3 (upd hp2 D (DN X.w D [])) C (cellsFrom (C + 1) scope.names (cloFrom X.env.cells scope.names [])) fp
  have pk := hk sh3 (upd hp2 D (DN X.w D [])) C (cellsFrom (C + 1) scope.names (cloFrom X.env.cells scope.names [])) fp
  have pv := hv sh3 (upd hp2 D (DN X.w D [])) C (cellsFrom (C + 1) scope.names (cloFrom X.env.cells scope.names [])) fp
  rw [← ece] at pg pt pk pv
  rw [eCe] at inv4
  have nofp : ∀ b ∈ fp, (upd hp2 D (DN X.w D [])) b = none := fun b hb => (f3 b hb).1.1
  obtain ⟨sh4, e4⟩ : ∃ sh4 : Shared, sh4 = { sh3 with heap := pushCells (sh3.heap.push { cls := .type "dict", data := .dict #[] }) scope.names } := ⟨_, rfl⟩
  rw [← e4] at inv4
  have cLoc : ce.locals = C := by rw [ece]; rfl
  have st4 : tn 0 sh4.heap := turn.keep _ _ _ st3 fun b _ o z => by
    rw [e4]
    exact pushCells_keeps _ _ _ _ (Heap.get?_push_of_some _ z)
  obtain ⟨hp3, eh3⟩ : ∃ hp3, hp3 = upd hp2 D (DN X.w D []) := ⟨_, rfl⟩
  rw [← eh3] at inv3 inv4 pg pt pk pv w0 nofp f3
  have stat : ∀ {σ' : L2.St} {H' : Hp} {s' : Shared}, Inv (X.blk sh3 hp3 scope ce fp) [] σ' H' s' → (∀ b ∈ fp, H' b = none) → ∀ b ∈ fp, FpOk (X.blk sh3 hp3 scope ce fp) [] H' b := by
    intro σ' H' s' J hn b hb
    refine ⟨hn b hb, (J.ok.exf b hb).1, J.ok.exfs b hb, .inl hb, fun x c z => (J.ok.exf b hb).2 x c z, fun p hp => ?_⟩
    have hp : p ∈ ([] : List (Addr × Obj)) ++ [] := hp
    simp at hp
  have loop : codeAny (model X.prog X.w) X.A (.compLoop (.DictComp kx vx [⟨tg, src, ifs, 0⟩] scope pos) 0 (.ref it) (.ref D) ce) (compPost (model X.prog X.w) X.A X.xe use Qf (.ref D) C) sh4 := by
    refine compLoop_anyD (fun n s' => ∃ i H', Inv (X.blk sh3 hp3 scope ce fp) [] (wipe σ (own.map (·.2))) H' s' ∧ tn i s'.heap ∧ (∀ b ∈ fp, H' b = none) ∧ W i n H') ?_ m0 ⟨0, hp3, inv4, st4, nofp, w0⟩
    rintro n sh5 ⟨i, hp5, inv5, st5, n5, w5⟩
    rcases step i n hp5 w5 with ⟨stop, fin⟩ | ⟨go, Nx, next, one⟩
    · refine thnF (turn.done (X.blk sh3 hp3 scope ce fp) rfl rfl rfl calm i [] sh5 _ hp5 (fun _ _ => False) inv5 (stat inv5 n5) st5 stop) fun r sh6 ⟨er, inv6⟩ => ?_
      subst er
      have inv7 : Inv X pl σ hp5 sh6 := inv3.call' (ch := fp) inv6.os inv6.base inv6.hok inv6.bare fun b hb => ⟨(f3 b hb).1.2.2.2.1, (f3 b hb).1.2.1, (f3 b hb).1.2.2.2.2.1, (f3 b hb).1.2.2.2.2.2⟩
      have noC : hp5 C = none := by
        have z : hp5 ce.locals = none := inv6.free
        rw [cLoc] at z
        exact z
      obtain ⟨m, ns, _⟩ := inv6.loc
      have ns : sh6.heap.Ns ce.locals m := ns
      rw [cLoc] at ns
      exact done D C sh6 m hp5 inv7 fin ns (inv3.fpOk (Nat.le_of_eq eC.symm) noC)
    · refine thnF (turn.item (X.blk sh3 hp3 scope ce fp) rfl rfl rfl calm i [] sh5 _ hp5 (fun _ _ => False) inv5 (stat inv5 n5) st5 go) fun r sh6 ⟨u, er, h6⟩ => ?_
      subst er
      refine thnF h6 fun _ sh7 ⟨x, hp7, inv7, r7, y7, st7, n7⟩ => ?_
      have inv7' := inv7.pinned (stat inv7 n7) (turn.obj _ _ st7)
      refine thnF (pg.run _ sh7 _ hp7 x u _ inv7' r7 (one x hp7 y7)) fun _ sh8 ⟨σ8, hp8, inv8, hw8, q8⟩ => ?_
      refine thnF (pt.run _ sh8 σ8 hp8 _ inv8 q8) fun b sh9 ⟨hp9, inv9, q9⟩ => ?_
      have fin : ∀ {s' : Shared} {H' : Hp}, Inv (X.blk sh3 hp3 scope ce fp) ([] ++ pinsAt fp sh7.heap) σ8 H' s' → Nx H' → ∃ m, m < n ∧ ∃ i H', Inv (X.blk sh3 hp3 scope ce fp) [] (wipe σ (own.map (·.2))) H' s' ∧ tn i s'.heap ∧ (∀ b ∈ fp, H' b = none) ∧ W i m H' := by
        intro s' H' J nx
        obtain ⟨m', hm, w'⟩ := next H' nx
        have pin : ∀ b ∈ fp, ∀ o, sh7.heap.get? b = some o → s'.heap.get? b = some o ∧ H' b = none := by
          intro b hb o z
          have := J.pin (b, o) (List.mem_append_right _ (List.mem_append_right _ (mem_pinsAt hb z)))
          exact ⟨this.1, this.2.1⟩
        have len : (wipe σ (own.map (·.2))).length = σ8.length := by rw [← hw8, wipe_length]
        refine ⟨m', hm, i + 1, H', (J.unpinned (pins := [])).weak len (fun j v z => ?_), turn.keep _ _ _ st7 fun b hb o z => (pin b hb o z).1, fun b hb => ?_, w'⟩
        · rw [← hw8] at z
          exact (wipe_some z).1
        · obtain ⟨o, z, _⟩ := turn.obj _ _ st7 b hb
          exact (pin b hb o z).2
      cases b with
      | false =>
        simp only [Bool.false_eq_true, if_false] at q9 ⊢
        exact fin inv9 q9
      | true =>
        simp only [if_true] at q9 ⊢
        refine thnF (pk.run _ sh9 σ8 hp9 _ inv9 q9) fun z sh10 ⟨yk, hp10, inv10, r10, q10⟩ => ?_
        refine thnF (pv.run _ sh10 σ8 hp10 _ inv10 q10) fun z2 sh11 ⟨yv, hp11, inv11, r11, rows, k, isk, hD, K, few, nx⟩ => ?_
        exact n_dictSet (X := X.blk sh3 hp3 scope ce fp) hu inv11 hD K isk few r10 r11 fun s12 inv12 => fin inv12 nx
  have := codeAny_compStart_dict loop (turn.self X.A 0 _ _ _ st4 loop)
  rw [e4, ece, eC] at this
  rw [e3] at this
  exact this
/-- as a value -/
theorem pe_dcN {kx vx tg src : Expr} {ifs : List Expr} {scope : Scope} {own : List (Str × Nat)} {pos : Pos} {ti : TI} {g : TG} {tt : TT} {tk tv : TE} (calm : X.calm = true) (hu : X.A.units + 9 < cLine) (nd : X.N.Nodup) (hi : PI X tg src ti) (ok : BlkOk X.N X.env.scope scope own)
    (hg : ∀ (s : Shared) (H : Hp) (C : Addr) (cl : List (Str × Addr)) (fp : List Addr), PG (X.blk s H scope (compEnvC scope cl C X.env) fp) tg g) (ht : ∀ (s : Shared) (H : Hp) (C : Addr) (cl : List (Str × Addr)) (fp : List Addr), PTs (X.blk s H scope (compEnvC scope cl C X.env) fp) ifs tt)
    (hk : ∀ (s : Shared) (H : Hp) (C : Addr) (cl : List (Str × Addr)) (fp : List Addr), PE (X.blk s H scope (compEnvC scope cl C X.env) fp) kx tk)
    (hv : ∀ (s : Shared) (H : Hp) (C : Addr) (cl : List (Str × Addr)) (fp : List Addr), PE (X.blk s H scope (compEnvC scope cl C X.env) fp) vx tv) (fold : ∀ x, foldedSetIterable src X.env x = pure x := by intro _; rfl) :
    PE X (.DictComp kx vx [⟨tg, src, ifs, 0⟩] scope pos) (tDcN X.w ti g tt tk tv (own.map (·.2))) := by
  constructor
  intro pl sh σ hp Q inv told
  rw [arm_eval_DictComp]
  refine dcN_core calm (by omega) nd inv hi ok hg ht hk hv fold told fun D C sh' m hp' inv' q ns fpok => ⟨m, ns, fun heap2 but => ?_⟩
  obtain ⟨f0, f1, f2, f3, f4, f5⟩ := fpok
  exact ⟨.ref D, hp', inv'.turned (t' := sh'.toks) (fun b o hb z => (but.2 b hb).trans z) f0 f1 f3 f4 f5, rfl, q⟩
end
section
variable {J : It} {n : Nat} {G : Hp → Prop} {Y : Nat → Hp → V → Hp → Prop} {w : World} {g : TG} {tt : TT} {tk tv : TE} {own : List Nat} {σ : L2.St} {H1 : Hp} {D : Addr} {Qd : Hp → Prop}
/-- the walk of such a comprehension -/
theorem dcN_it (wk : Walk J n G Y) (Pv : Nat → Hp → Prop) (h0 : Pv 0 (upd H1 D (DN w D []))) (hG : ∀ i H, i ≤ n → Pv i H → G H)
    (hs : ∀ i x H H', i < n → Pv i H → Y i H x H' → g x (wipe σ own) H' fun σ2 H2 => wipe σ2 own = wipe σ own ∧ tt σ2 H2 fun b H3 =>
      if b = true then tk σ2 H3 fun y H4 => tv σ2 H4 fun z H5 => ∃ rows k, IsK H5 k y ∧ H5 D = some (DN w D rows) ∧ KeysN H5 rows ∧ rows.length < sizeLine ∧ Pv (i + 1) (upd H5 D (DN w D (putM rows k y z))) else Pv (i + 1) H3)
    (hd : ∀ H, Pv n H → Qd H) :
    ∃ W : Nat → Nat → Hp → Prop, (∃ m, W 0 m (upd H1 D (DN w D []))) ∧ ∀ i m Hi, W i m Hi →
      (J.stop i Hi ∧ Qd Hi) ∨ (J.go i Hi ∧ ∃ Nx : Hp → Prop, (∀ Hn, Nx Hn → ∃ m', m' < m ∧ W (i + 1) m' Hn) ∧ ∀ x Hy, J.yld i Hi x Hy → g x (wipe σ own) Hy fun σ2 H2 => wipe σ2 own = wipe σ own ∧ tt σ2 H2 fun b H3 =>
        if b = true then tk σ2 H3 fun y H4 => tv σ2 H4 fun z H5 => ∃ rows k, IsK H5 k y ∧ H5 D = some (DN w D rows) ∧ KeysN H5 rows ∧ rows.length < sizeLine ∧ Nx (upd H5 D (DN w D (putM rows k y z))) else Nx H3) := by
  refine ⟨fun i m H => m = n - i ∧ i ≤ n ∧ Pv i H, ⟨n, by omega, Nat.zero_le _, h0⟩, ?_⟩
  rintro i m H ⟨rfl, le, p⟩
  have q := hG i H le p
  by_cases lt : i < n
  · exact .inr ⟨wk.goes i H lt q, Pv (i + 1), fun H' p' => ⟨n - (i + 1), by omega, rfl, lt, p'⟩, fun x H' y => hs i x H H' lt p (wk.yields i H x H' lt q y)⟩
  · have e : i = n := by omega
    subst e
    exact .inl ⟨wk.stops H q, hd H p⟩
end
end Kt
/-! KtW3: sorted(d, key=lambda x: y.fld[x]), d a dict of KtN, y.fld such a dict, too. -/
namespace Kt
open PySem PySem.Spec PyProof.Rows L2 LamX
/-! ### data without lists and dicts -/
mutual
def noLs : PyData → Bool
  | .list _ => false
  | .dict _ => false
  | .tuple xs => noLsAll xs
  | _ => true
def noLsAll : List PyData → Bool
  | [] => true
  | x :: xs => noLs x && noLsAll xs
end
mutual
theorem reads_nil {h : Heap} : ∀ (d : PyData) (v : Value) (as : List Addr), noLs d = true → Reads h v d as → as = []
  | .none, _, _, _, r => by cases r; rfl
  | .bool _, _, _, _, r => by cases r; rfl
  | .int _, _, _, _, r => by cases r; rfl
  | .str _, _, _, _, r => by cases r; rfl
  | .list _, _, _, n, _ => by cases n
  | .dict _, _, _, n, _ => by cases n
  | .tuple xs, _, _, n, r => by
    cases r with
    | tuple _ _ _ ra => exact readsAll_nil xs _ _ n ra
theorem readsAll_nil {h : Heap} : ∀ (ds : List PyData) (vs : List Value) (as : List Addr), noLsAll ds = true → ReadsAll h vs ds as → as = []
  | [], _, _, _, r => by cases r; rfl
  | x :: xs, _, _, n, r => by
    have n : (noLs x && noLsAll xs) = true := n
    rw [Bool.and_eq_true] at n
    cases r with
    | cons r1 r2 => rw [reads_nil x _ _ n.1 r1, readsAll_nil xs _ _ n.2 r2]; rfl
end
/-! ### the lambda runs -/
/-- the lambda's own names: x its parameter, y captured -/
structure LamT (scope : Scope) (params : Arguments) (x y : Str) : Prop where
  kind : scope.kind = .function
  co : scope.isCoroutine = false
  gen : scope.isGenerator = false
  nocell : ∀ z ∈ scope.names, z.2 ≠ .cell
  par : scope.names.lookup x = some .local
  cap : scope.names.lookup y = some .free
  capIn : (y, NameKind.free) ∈ scope.names
def lamTB (scope : Scope) (x y : Str) : Bool := decide (scope.kind = .function) && !scope.isCoroutine && !scope.isGenerator && scope.names.all (fun z => !decide (z.2 = .cell)) && decide (scope.names.lookup x = some .local) && decide (scope.names.lookup y = some .free) && decide ((y, NameKind.free) ∈ scope.names)
theorem lamT_by {scope : Scope} {params : Arguments} {x y : Str} (h : lamTB scope x y = true) : LamT scope params x y := by
  unfold lamTB at h
  simp only [Bool.and_eq_true, Bool.not_eq_true', decide_eq_true_eq, List.all_eq_true, decide_eq_false_iff_not] at h
  obtain ⟨⟨⟨⟨⟨⟨h1, h2⟩, h3⟩, h4⟩, h5⟩, h6⟩, h7⟩ := h
  exact ⟨h1, h2, h3, h4, h5, h6, h7⟩
section
variable {X : Cx} {pl : List (Addr × Obj)} {σ : L2.St} {H : Hp} {s : Shared} {A : Around} {E : Value → Shared → Prop} {scope : Scope} {params : Arguments} {x y fld qual : Str} {cl : List (Str × Addr)} {pm ctv : Value} {f c' cy p C dx d : Addr} {fs : List (Str × V)} {rows : List RowV} {k : NestedKey} {v0 vv : V} {v : Value} {p1 p2 p3 p4 : Pos}
theorem lam_turn (I : Inv X pl σ H s) (dp : A.depth < recursionLimit) (un : A.units + 100 < cLine) (L : LamT scope params x y) (hf : s.heap.get? f = some (PySem.W.kla_obj "<lambda>" qual params (.Subscript (.Attribute (.Name y p1) fld p2) (.Name x p3) p4) scope cl pm c' ctv)) (hc : H c' = some (CodeO c' qual))
    (hbind : ∀ u, bindArgs (PySem.W.kla_fn "<lambda>" qual params (.Subscript (.Attribute (.Name y p1) fld p2) (.Name x p3) p4) scope cl pm (.ref c') ctv) ⟨[u], []⟩ = pure [(x, u)])
    (hcl : cl.lookup y = some cy) (cell : s.heap.IsCell cy (some (.ref p))) (hp : H p = some (.ins C dx fs)) (cls : Cls X.K C) (na : NoAttr X.K C fld) (hfs : fs.lookup fld = some (.ref d)) (n : IsN X.w H d rows) (isk : IsK H k v0) (rv : RelV v0 v) (at_ : valM rows k = some vv)
    (hat : ∀ env : Env, attributeBase (.Name y p1) fld env (eval (.Name y p1) env) = eval (.Name y p1) env := by intro _; rfl) (dx1 : (x == ("__debug__" : Str)) = false := by decide) (dy1 : (y == ("__debug__" : Str)) = false := by decide) (dy2 : (y == ("__classdict__" : Str)) = false := by decide) :
    wpAny (model X.prog X.w) A (call (.ref f) [v]) (fun u s' => ∃ h' tk, s' = { s with heap := h', toks := tk } ∧ (∀ b o, s.heap.get? b = some o → h'.get? b = some o) ∧ RelV vv u) (fun _ _ => False) s := by
  obtain ⟨⟨oc, vs, t, hoc, hdc, hvc⟩, _, _⟩ := I.hok c' _ hc
  refine wpAny_call ?_
  refine PySem.W.kla_callFunE dp hf rfl L.co L.gen rfl ⟨c', oc, vs, t, rfl, hoc, hdc, hvc⟩ ?_
  rw [hbind]
  refine wpAny_pure (wpAny_newFunctionEnv L.nocell (fun z hz => by rw [List.mem_singleton.mp hz]; exact L.par) (fun h1 ns sb => ⟨I.nolimit.fresh _ sb, ?_⟩) L.kind)
  show codeAny _ _ (.expr _ (PySem.W.envX qual scope s.heap.objs.size f (.ref c') cl)) _ _
  have keeps : ∀ b o, s.heap.get? b = some o → h1.get? b = some o := fun b o e => sb.extBut b o (Nat.ne_of_lt (Heap.lt_size e)) (Heap.get?_push_of_some _ e)
  refine PySem.W.kla_codeExpr ?_
  obtain ⟨s1, es1⟩ : ∃ s1 : Shared, s1 = { s with heap := h1, toks := s.toks + [(x, v)].length } := ⟨_, rfl⟩
  rw [← es1]
  have I1 : Inv X pl σ H s1 := by
    rw [es1]
    exact I.kept keeps
  refine subD_of PySem.F.slot_dict_getitem.lookup (fun _ _ => rfl) ?_
  refine attr_of (hat _) (wpAny_Name (wpAny_loadName_free L.kind L.cap hcl (by rw [es1]; exact cell.keeps keeps) ?_ dy2) dy1)
  obtain ⟨mA, O, rels, _, _, _⟩ := ins_get I1.hok hp
  obtain ⟨u2, hu2, r2⟩ := RelO.some_of (v := V.ref d) (o := mA fld) (by rw [← hfs]; exact rels fld)
  refine get_map I1.kIn O (cls.get fld) cls.hd na hu2 (handed_of r2) ?_
  obtain rfl : u2 = Value.ref d := r2
  refine wpAny_Name (wpAny_loadName_local (v := v) L.kind L.par (m := fun z => ([(x, v)] : List (Str × Value)).reverse.lookup z) (by rw [es1]; exact ns) (by simp [List.lookup]) ?_) dx1
  have I2 : Inv X pl σ H { s1 with toks := s1.toks + 1 } := I1.tok _
  refine ⟨(n_type I2 n).1, ?_⟩
  obtain ⟨_, _, ys, rel, D⟩ := dn_rd I2.hok n.1 n.2
  obtain ⟨w', hw, rw'⟩ := RelO.some_of (v := vv) (o := valN ys k) (by rw [← at_]; exact rows_val rel k)
  refine getItem_nk (by show A.units + 3 + 9 < cLine; omega) ⟨NRep.is I2.hok _ _ _ isk.1 rv, isk.2⟩ D hw ?_
  subst es1
  exact ⟨_, _, rfl, keeps, rw'⟩
end
/-! ### sorted of the keys by what a def tells of each -/
section
variable {P : Program} {w : World} {A : Around} {E : Value → Shared → Prop} {s : Shared} {d q : Addr} {es : Array DictEntry} {ep : Nat} {β : Type} {bs : List β} {R : Value → β → Prop} {Q : Value → Shared → Prop}
open PySem.W in
theorem sortN_run (sys : (d == sysModules) = false) (raw : s.heap.DictRaw d es ep) (calm : A.handled = none) (keys : EachIs R (es.toList.map (·.key)) bs) (k : β → PyData) (hal : AllAlike (bs.map k)) (hk : Sortable (bs.map k)) (hL : bs.length ≤ sizeLine) (hu : ∀ x, x ∈ bs → A.units + 2 + (k x).depth < cLine)
    (turn : ∀ (v : Value) (x : β), R v x → x ∈ bs → ∀ (h : Heap) (tk : Nat), (∀ b o, s.heap.get? b = some o → h.get? b = some o) → wpAny (model P w) A.in1.in1 (call (.ref q) [v]) (KeyPure (k x) { s with heap := h, toks := tk }) (fun _ _ => False) { s with heap := h, toks := tk })
    (fin : ∀ out c h' tk p, (∀ b o, s.heap.get? b = some o → h'.get? b = some o) → (∃ h1 : Heap, (∀ b o, s.heap.get? b = some o → h1.get? b = some o) ∧ (∀ b o, h1.get? b = some o → h'.get? b = some o) ∧ h1.objs.size ≤ p) → h'.get? p = some (seqObj "list" (List.toArray out) c) → EachIs R out (bs.mergeSort (dataLe false k)) → Q (.ref p) { s with heap := h', toks := tk }) :
    wpAny (model P w) A (call (.builtin "sorted") [.ref d] [(Str.ofString "key", .ref q)]) Q E s := by
  have len : es.size = bs.length := by
    have := keys.length
    rw [List.length_map, Array.length_toList] at this
    exact this
  refine PyProof.Rows.call_function_entry_kw kind_sorted plain_sorted entry_sorted (PyProof.Rows.ksk_s1 _ _) ?_
  unfold Builtin.«sorted»
  refine wpAny_bind (m := checkCount "sorted" 1 1 _) (wpAny_pure (wpAny_bind ?_))
  refine kdu_collect (A := A.in1) (src_nk (w := w) sys) calm raw (by rw [len]; exact hL) fun h1 tk1 acc kp1 items => ?_
  have eq : acc.toList = es.toList.map (·.key) := by
    refine List.ext_getElem? fun i => ?_
    rw [List.getElem?_map, Array.getElem?_toList, Array.getElem?_toList]
    cases e : acc[i]? with
    | none =>
      have hi : es.size ≤ i := by
        have := Array.getElem?_eq_none_iff.mp e
        rw [items.1] at this
        exact this
      rw [Array.getElem?_eq_none_iff.mpr hi]
      rfl
    | some u =>
      obtain ⟨hi, hv⟩ := items.2 i u e
      rw [Array.getElem?_eq_getElem hi, hv]
      rfl
  have lenA : acc.toList.length ≤ sizeLine := by
    rw [eq, List.length_map, Array.length_toList, len]
    exact hL
  refine wpAny_bind (wpAny_newList ?_ lenA)
  have there : (h1.push (seqObj "list" acc.toList.toArray 0)).get? h1.objs.size = some (seqObj "list" acc.toList.toArray 0) := Heap.get?_push_size _ rfl
  show wpAny _ _ _ _ _ { s with heap := h1.push (seqObj "list" acc.toList.toArray 0), toks := tk1 }
  have old : ∀ b o, s.heap.get? b = some o → b < h1.objs.size := fun b o e => Heap.lt_size (kp1 b o e)
  have up : ∀ {g : Heap}, KeepsBut h1.objs.size (h1.push (seqObj "list" acc.toList.toArray 0)) g → ∀ b o, s.heap.get? b = some o → g.get? b = some o := fun {g} kp b o e => kp b o (Nat.ne_of_lt (old b o e)) (Heap.get?_push_of_some _ (kp1 b o e))
  refine wpAny_bind (wpAny_holding (wpAny_call_entry_kw slot_list_sort ⟨_, there, rfl⟩ entry_list_sort ?body (PyProof.Rows.ksk_l1 _ _)))
  case body =>
    show wpAny (model P w) A.in1.in1 (Builtin.«list.sort» ⟨[.ref h1.objs.size], [(Str.ofString "key", .ref q)]⟩) _ _ _
    rw [PyProof.Rows.ksk_t1]
    rw [← eq] at keys
    refine keyH_tree (kz := bs.map k) there (by rw [List.length_map]; exact keys.length.symm) lenA hal hk (bound_map (A := A.in1.in1) hu) (keyH_turns (s := { s with heap := h1.push (seqObj "list" acc.toList.toArray 0), toks := tk1 }) keys fun v x hR hx h tk kp => turn v x hR hx h tk (up kp)) fun h' tk out c kp hD ko => ⟨.none, rfl, wpAny_pure ⟨_, rfl, ?_⟩⟩
    exact fin out c h' tk _ (up kp) ⟨h1, kp1, fun b o e => kp b o (Nat.ne_of_lt (Heap.lt_size e)) (Heap.get?_push_of_some _ e), Nat.le_refl _⟩ hD (keyedOut_each k ko keys)
end
/-- nothing but a table stood there -/
def New (H : Hp) (a : Addr) : Prop := ∀ o, H a = some o → ∃ ps, o = .tbl ps
theorem New.of {H : Hp} {a : Addr} (h : H a = none) : New H a := fun o z => by rw [h] at z; cases z
theorem New.ne {H : Hp} {a b : Addr} {o : HO} (h : New H a) (z : H b = some o) (n : ∀ ps, o ≠ .tbl ps) : b ≠ a := fun e => by
  subst e
  obtain ⟨ps, q⟩ := h o z
  exact n ps q
def kdP (x : Int × Str) : PyData := .tuple [.int x.1, .str x.2]
/-- sorted(e, key=lambda x: y.fld[x]), e the very dict y.fld: y stands in the slot j -/
def tSortLam (w : World) (K : PySem.W.Frag) (T : List (Addr × Str)) (fld : Str) (j : Nat) (te : TE) : TE := fun σ H Q => te σ H fun v H1 => Tabs T H1 ∧ ∃ (d p C dx : Addr) (fs : List (Str × V)) (rows : List RowV) (key : RowV → Int × Str), v = .ref d ∧ IsN w H1 d rows ∧ σ[j]? = some (some (.ref p)) ∧ H1 p = some (.ins C dx fs) ∧ Cls K C ∧ NoAttr K C fld ∧ fs.lookup fld = some (.ref d) ∧
  (∀ r ∈ rows, valM rows r.1 = some r.2.2 ∧ ∃ a, r.2.2 = .ref a ∧ H1 a = some (.tup [.int (key r).1, .str (key r).2])) ∧
  ∀ q H2, ExtN H1 H2 → Tabs T H2 → New H1 q → H2 q = some (.lst ((rows.mergeSort (PySem.W.dataLe false fun r => kdP (key r))).map (·.2.1))) → Q (.ref q) H2
section
variable {X : Cx} {T : List (Addr × Str)} {cA tP : Addr} {e : Expr} {te : TE} {params : Arguments} {scope : Scope} {p pos lpos kpos p1 p2 p3 p4 : Pos} {x y fld : Str} {j : Nat}
theorem keys_rows {ys : List RowN} {xs : List RowV} {es : Array DictEntry} (he : es.toList = ys.map (enN X.w)) (r : Paired RowR xs ys) : PySem.W.EachIs (fun (v : Value) (x : RowV) => RelV x.2.1 v) (es.toList.map (·.key)) xs := by
  rw [he, List.map_map]
  clear he
  induction r with
  | nil => exact .nil
  | @cons a b as bs h t ih => exact .cons h.2.1 ih
theorem each_vals : ∀ {out : List Value} {xs : List RowV}, PySem.W.EachIs (fun (v : Value) (x : RowV) => RelV x.2.1 v) out xs → Vals (xs.map (·.2.1)) out
  | _, _, .nil => .nil
  | _, _, .cons h t => .cons h (each_vals t)
theorem pe_sortLam (TB : TabB X.base X.mg cA tP) (hcode : X.env.code = .ref cA) (hm : (tP, X.env.qual ++ "<lambda>") ∈ T) (hu : ∀ z ∈ T, z.1 = tP → z.2 = X.env.qual ++ "<lambda>") {k : Nat} (hr : Room (k + 3) X.A) (calm : X.calm = true) (hg : Gl X "sorted") (mgN : X.mg "sorted" = none) (he : PE X e te)
    (L : LamT scope params x y) (hN : X.N[j]? = some y) (vis : X.env.scope.names.lookup y = some .cell) (hfree : ∀ z ∈ scope.names, z.2 = .free → z.1 = y)
    (hbind : ∀ (cl : List (Str × Addr)) (pm ctv : Value) (c' : Addr) (qual : Str) (u : Value), bindArgs (PySem.W.kla_fn "<lambda>" qual params (.Subscript (.Attribute (.Name y p1) fld p2) (.Name x p3) p4) scope cl pm (.ref c') ctv) ⟨[u], []⟩ = pure [(x, u)])
    (hdef : defaultsOf params X.env = ([], [])) (bt : bootBuiltins "sorted" = some (.builtin "sorted") := by decide +kernel)
    (hat : ∀ env : Env, attributeBase (.Name y p1) fld env (eval (.Name y p1) env) = eval (.Name y p1) env := by intro _; rfl) (dx1 : (x == ("__debug__" : Str)) = false := by decide) (dy1 : (y == ("__debug__" : Str)) = false := by decide) (dy2 : (y == ("__classdict__" : Str)) = false := by decide)
    (hse : backTo pos (starEach [e] X.env) = (false, eval e X.env) :: backTo pos (starEach [] X.env) := by rfl) :
    PE X (.Call (.Name "sorted" p) [e] [⟨some "key", .Lambda params (.Subscript (.Attribute (.Name y p1) fld p2) (.Name x p3) p4) scope lpos, kpos⟩] pos) (tSortLam X.w X.K T fld j te) := by
  constructor
  intro pl s σ H Q I h
  refine wpAny_Call_Name_kw (ld_blt I hg mgN bt ?_)
  refine PyProof.Rows.callWith_kw ?_ hse (by rw [hse]; rfl) (by rfl) (by rfl)
  rw [hse]
  refine Calls.spliced_cons (thn (he.run pl s σ H _ I h) fun u s1 ⟨v, H1, I1, ru, tabs, d, q, C, dx, fs, rows, key, ev, n, sj, hq, cls, na, hfs, hrows, fin⟩ => Calls.spliced_nil ?_)
  subst ev
  obtain rfl : u = Value.ref d := ru
  have frees : ∀ z ∈ scope.names, z.2 = .free → ∃ c, X.env.cells.lookup z.1 = some c := fun z hz e => by
    rw [hfree z hz e]
    exact I1.ok.has _ (.inl vis)
  show wpAny _ _ (evalAll [do let v ← eval (.Lambda params (.Subscript (.Attribute (.Name y p1) fld p2) (.Name x p3) p4) scope lpos) X.env; standAt pos; pure v]) _ _ s1
  refine wpAny_evalAll_cons (wpAny_bind (lam_make2 I1 TB hcode hm hu tabs hdef frees fun f c' pm ctv H2 s2 I2 ext tabs2 hf fnone _ hc => wpAny_bind (wpAny_standAt (wpAny_pure (wpAny_evalAll_nil ?_)))))
  show wpAny _ _ (call (.builtin "sorted") [.ref d] [(Str.ofString "key", .ref f)]) _ _ s2
  have noTab : ∀ {b : Addr} {o : HO}, H1 b = some o → (∀ ps, o ≠ .tbl ps) → H2 b = some o := fun {b o} e z => ext b o e z
  have rd : Rd H2 d (DN X.w d rows) := by
    rcases n.1 with z | ⟨o, z⟩
    · exact .inl (noTab z fun ps e => by cases e)
    · exact .inr ⟨o, noTab z fun ps e => by cases e⟩
  have tups : ∀ a zs, H1 a = some (.tup zs) → H2 a = some (.tup zs) := fun a zs z => noTab z fun ps e => by cases e
  have n2 : IsN X.w H2 d rows := ⟨rd, n.2.wk tups⟩
  have hq2 := noTab hq fun ps e => by cases e
  obtain ⟨sys, hz, ys, rel, nd, o, es, ep, ho, ex, hd, hes⟩ : DNok X.w rows d s2.heap := by
    rcases rd with z | ⟨o, z⟩
    · exact (show ObjOk X.prog X.w H2 s2.heap d (DN X.w d rows) from I2.hok d _ z).1
    · exact (show ObjOk X.prog X.w H2 s2.heap d (.frz o (DN X.w d rows)) from I2.hok d _ z).2.1
  have un := hr.un
  have dpt := hr.dp
  refine sortN_run sys ⟨o, ho, ex, hd⟩ (I2.ok.hd calm) (keys_rows hes rel) (fun r => kdP (key r)) (PySem.W.AllAlike.of fun _ _ => rfl) (PySem.W.Sortable.tuples fun _ => ⟨_, _, rfl⟩) hz (fun r _ => ?_) (fun v r hv hr' h tk kp => ?_) fun out c h' tk a kp ⟨h1, kp1, kp2, le⟩ ha each => ?_
  · show X.A.units + 2 + 1 < cLine
    omega
  · obtain ⟨va, a, ea, ta⟩ := hrows r hr'
    have I3 : Inv X pl σ H2 { s2 with heap := h, toks := tk } := I2.kept kp
    obtain ⟨m, hn, hl⟩ := I3.loc
    obtain ⟨w1, r1, l1⟩ := hl j y _ hN sj (.inr (.inl vis))
    obtain rfl : w1 = Value.ref q := r1
    rcases l1 with ⟨z, _⟩ | ⟨_, cy, hcy, cell⟩
    · have z : X.env.scope.names.lookup y = some .local := z
      rw [vis] at z
      cases z
    have hclo := NdefX.clo_has frees L.capIn hcy
    refine wpAny_mono (lam_turn (v := v) (vv := r.2.2) (k := r.1) I3 ?_ ?_ L (kp _ _ hf) hc (fun u => hbind _ _ _ _ _ u) hclo cell hq2 cls na hfs n2 (n2.2 r hr') hv va hat dx1 dy1 dy2) (fun u s3 ⟨h3, tk3, es3, kp3, r3⟩ => ?_) fun _ _ z => z
    · show X.A.depth < recursionLimit
      omega
    · show X.A.units + 2 + 100 < cLine
      omega
    · subst es3
      refine ⟨h3, tk3, rfl, kp3, ?_⟩
      have I4 : Inv X pl σ H2 { s2 with heap := h3, toks := tk3 } := I3.kept kp3
      have dp : Dp X.K H2 r.2.2 (kdP (key r)) := by
        rw [ea]
        exact .tup (SqT.of (tups _ _ ta)) (.cons (.int _) (.cons (.str _) .nil))
      obtain ⟨as, rds⟩ := Dp.reads I4 _ _ _ dp r3
      have := reads_nil _ _ _ rfl rds
      subst this
      exact rds
  · have I5 : Inv X pl σ H2 { s2 with heap := h1 } := I2.kept (t' := s2.toks) kp1
    have new : H2 a = none := I5.hok.fresh le
    have small : ((rows.mergeSort (PySem.W.dataLe false fun r => kdP (key r))).map (·.2.1)).length ≤ sizeLine := by
      rw [List.length_map, List.length_mergeSort]
      exact hz
    have eA : New H1 a := by
      intro o z
      cases o with
      | tbl ps => exact ⟨ps, rfl⟩
      | _ => rw [noTab z fun ps e => by cases e] at new; cases new
    refine ⟨.ref a, upd H2 a (.lst ((rows.mergeSort (PySem.W.dataLe false fun r => kdP (key r))).map (·.2.1))), I5.laid (t' := tk) kp2 le ⟨small, out, c, each_vals each, ha⟩, rfl, fin a _ ?_ ?_ eA upd_same⟩
    · exact ext.trans (.of fun b o z => by rw [upd_ne (ne_of_none z new)]; exact z)
    · exact tabs2.ext fun b o z => by rw [upd_ne (ne_of_none z new)]; exact z
end
end Kt
/-! KtW4: enumerate(xs, start=n); list(d.values()); own classes and their methods by short words. -/
namespace Kt
open PySem PySem.Spec PyProof.Rows L2
/-! ### enumerate(a list, start=k) -/
/-- the list at a, each item in a new pair with its number from k on -/
def Itek (K : PySem.W.Frag) (a : Addr) (k : Int) : It :=
  ⟨fun i H => ∃ (xs : List V) (x : V), SqL K H a xs ∧ xs[i]? = some x, fun i H v H' => ∃ T x, v = .ref T ∧ H T = none ∧ H' = upd H T (.tup [.int (k + (i : Nat)), x]) ∧ ∀ xs, SqL K H a xs → xs[i]? = some x, fun i H => ∃ xs : List V, SqL K H a xs ∧ xs.length ≤ i⟩
def EnK (k : Int) (e it a : Addr) (i : Nat) (h : Heap) : Prop := (∃ old, IsEnum h e it (k + (i : Nat)) old) ∧ h.IsListIter it a i ∧ e ≠ it
theorem enumK_end {prog : Program} {w : World} {A : Around} {E : Value → Shared → Prop} {s : Shared} {e it l : Addr} {i : Nat} {c : Int} {items : Array Value} {was : Value} {Q : Option Value → Shared → Prop} (calm : A.handled = none) (he : IsEnum s.heap e it c was) (hit : s.heap.IsListIter it l i) (hl : s.heap.IsList l items) (out : items[i]? = none)
    (q : ∀ h', Heap.ExtBut it s.heap h' → Q none { s with heap := h' }) : wpAny (model prog w) A (pyNext (.ref e)) Q E s := by
  have ty : s.TypeIs (.ref e) "enumerate" := ⟨_, he, rfl⟩
  unfold pyNext
  refine wpAny_bind (wpAny_attempt (wpAny_callSpecial?_slot (name := Str.ofString "__next__") ty F.slot_enumerate_next (wpAny_call_entry F.slot_enumerate_next ty F.entry_enumerate_next ?_ (F.args_enumerate_next_1 _))))
  show wpAny _ _ (field (.ref e) 2 >>= _) _ _ _
  refine wpAny_bind (wpAny_field he rfl (x := .ref it) rfl (wpAny_bind (wpAny_nextOf_list_end calm hit hl out fun h' x eb there => ?_)))
  obtain ⟨o, ho, hc⟩ := there
  exact wpAny_bind (wpAny_isInstance (T := "StopIteration") (b := true) ⟨o, ho, hc⟩ isSubtype_stop (wpAny_pure (q _ eb)))
theorem turn_enumK {P : Program} {w : World} {K : PySem.W.Frag} {elts : List Expr} {kk : Nat} {tpos : Pos} (k : Int) (a e it : Addr) (apart : a ≠ it) (apart2 : a ≠ e) : Turn P w K (.Tuple elts kk tpos) (Itek K a k) [e, it] e (EnK k e it a) := by
  have two : ∀ {b : Addr}, b ∈ [e, it] → b = e ∨ b = it := fun {b} h => by simpa using h
  refine ⟨by simp, fun i h st b hb => ?_, fun i h h' st kp => ?_, ?_, ?_, fun A i s Q E st h => ?_⟩
  · obtain ⟨⟨old, he⟩, ⟨o, ho, hc, hd⟩, _⟩ := st
    rcases two hb with rfl | rfl
    · exact ⟨_, he, fun v q => nomatch q⟩
    · exact ⟨o, ho, fun v q => by rw [hd] at q; cases q⟩
  · obtain ⟨⟨old, he⟩, hi, ne⟩ := st
    exact ⟨⟨old, kp e (by simp) _ he⟩, hi.at fun o q => kp it (by simp) o q, ne⟩
  · intro X hP hw hK calm i pl s σ H E I free st go
    subst hP hw hK
    obtain ⟨⟨old, he⟩, hit, ne⟩ := st
    obtain ⟨xs, x, sq, hx⟩ := go
    obtain ⟨its, rv, p, hz⟩ := I.list sq
    obtain ⟨u, hu, ru⟩ := rv.get hx
    have le : e < s.heap.objs.size := Heap.lt_size he
    have li : it < s.heap.objs.size := by
      obtain ⟨_, q, _⟩ := hit
      exact Heap.lt_size q
    have D := Draws.list (prog := X.prog) (w := X.w) (A := X.A.in1) (I.ok.hd calm) it a apart its.toArray
    refine wpAny_pyNext_enum_itemC D he ⟨hit, p.isList⟩ (by rw [List.size_toArray]; exact (List.getElem?_eq_some_iff.mp hu).1) ne (fun z => ?_) fun y h1 tk hy out st1 ht hs kp => ?_
    · rcases List.mem_cons.mp z with z | z
      · exact ne z
      · exact apart2 (List.mem_singleton.mp z).symm
    have ey : y = u := by
      have hy : its.toArray[i]? = some y := hy
      rw [List.getElem?_toArray, hu] at hy
      exact (Option.some.inj hy).symm
    subst ey
    refine ⟨_, rfl, wpAny_letOwnedTupleGo_enum (s := { s with heap := h1, toks := tk + 1 }) out fun h2 he2 sb => ?_⟩
    have there : h2.get? s.heap.objs.size = some { cls := .type "tuple", data := .seq #[.int (k + (i : Nat)) tk, y] } := (sb.2 _ (Nat.ne_of_gt le)).trans ht
    have made : ObjOk X.prog X.w (upd H s.heap.objs.size (.tup [.int (k + (i : Nat)), x])) h2 s.heap.objs.size (.tup [.int (k + (i : Nat)), x]) :=
      ⟨by show 2 ≤ sizeLine; decide, [.int (k + (i : Nat)) tk, y], .cons ⟨_, rfl⟩ (.cons ru .nil), ⟨_, there, rfl, _, rfl⟩⟩
    have I2 : Inv X pl σ (upd H s.heap.objs.size (.tup [.int (k + (i : Nat)), x])) { s with heap := h2, toks := tk + 1 } :=
      I.turnedNew (ch := [e, it]) (fun b ob hb q => (sb.2 b (fun z => hb (by rw [z]; simp))).trans (kp b ob (fun z => hb (by rw [z]; simp)) (fun z => hb (by rw [z]; simp)) q)) free (Nat.le_refl _) made
    refine ⟨.ref s.heap.objs.size, _, I2, rfl, ⟨_, x, rfl, I.hok.fresh (Nat.le_refl _), rfl, fun ys hy => by rw [I.list_inj hy sq]; exact hx⟩, ⟨⟨y, ?_⟩, st1.1.at fun o q => (sb.2 it ne.symm).trans q, ne⟩, fun b hb => ?_⟩
    · have e1 : k + ((i + 1 : Nat) : Int) = k + (i : Int) + 1 := by omega
      rw [e1]
      exact he2
    · have lb : b < s.heap.objs.size := by
        rcases two hb with rfl | rfl
        · exact le
        · exact li
      rw [upd_ne (Nat.ne_of_lt lb)]
      exact (free b hb).1
  · intro X hP hw hK calm i pl s σ H E I free st stop
    subst hP hw hK
    obtain ⟨⟨old, he⟩, hit, ne⟩ := st
    obtain ⟨xs, sq, hx⟩ := stop
    obtain ⟨its, rv, p, hz⟩ := I.list sq
    obtain ⟨f0, f1, f2, f3, f4, f5⟩ := free it (by simp)
    have hl := rv.length
    exact enumK_end (I.ok.hd calm) he hit p.isList (by simp; omega) fun h' eb => ⟨rfl, I.turned (t' := s.toks) (fun b o hb q => eb b o hb q) f0 f1 f3 f4 f5⟩
  · obtain ⟨⟨_, he⟩, _⟩ := st
    exact wpAny_pyIter_enum he h
def iEnumK (K : PySem.W.Frag) (ta tk : TE) : TI := fun σ H R => ta σ H fun v H1 => tk σ H1 fun n H2 => ∃ a xs k, v = .ref a ∧ n = .int k ∧ 0 ≤ k ∧ k < 1000000 ∧ SqL K H2 a xs ∧ R (Itek K a k) H2
theorem type_kw {M : Model} {A : Around} {E : Value → Shared → Prop} {s : Shared} {pos : Pos} {T : String} {first : List Value} {args : List (Bool × Sem Value)} {kws : List (Option Str × Sem Value)} {Q : Value → Shared → Prop} (h1 : args.any (·.1) = false) (h2 : kws.any (·.1.isNone) = false)
    (h : wpAny M A (evalArgs (.type T) true args kws) (fun a s1 => wpAny M A (call (.type T) (first ++ a.pos) a.kw) Q E s1) E s) : wpAny M A (callWith pos (.type T) first args kws) Q E s := by
  unfold callWith
  refine wpAny_bind (wpAny_holding (wpAny_mono h (fun a s1 told => wpAny_bind (wpAny_standAt ?_)) fun _ _ x => x))
  simp only [h1, h2, Bool.or_false]
  refine wpAny_bind (wpAny_pure ?_)
  exact wpAny_bind (wpAny_mono told (fun r s2 hr => wpAny_bind (wpAny_holding (wpAny_point (wpAny_pure hr)))) fun _ _ x => x)
theorem pi_enumK {X : Cx} {e f : Expr} {ta tk : TE} {p pos tpos kpos : Pos} {elts : List Expr} {kk : Nat} (hg : Gl X "enumerate") (hm : X.mg "enumerate" = none) (he : PE X e ta) (hf : PE X f tk) (hse : backTo pos (starEach [e] X.env) = (false, eval e X.env) :: backTo pos (starEach [] X.env) := by rfl) :
    PI X (.Tuple elts kk tpos) (.Call (.Name "enumerate" p) [e] [⟨some "start", f, kpos⟩] pos) (iEnumK X.K ta tk) := by
  constructor
  intro pl s σ H R I told
  refine wpAny_Call_Name_kw (ld_blt I hg hm boot_enumerate ?_)
  refine type_kw (by rw [hse]; rfl) rfl ?_
  rw [hse]
  refine evalArgs_kwB rfl ?_
  refine Calls.spliced_cons (thn (he.run pl s σ H _ I told) fun u s1 ⟨v, H1, I1, r1, q1⟩ => Calls.spliced_nil ?_)
  show wpAny _ _ (evalAll [do let v ← eval f X.env; standAt pos; pure v]) _ _ s1
  refine wpAny_evalAll_cons (wpAny_bind (thn (hf.run pl s1 σ H1 _ I1 q1) fun u2 s2 ⟨n, H2, I2, r2, a, xs, k, ev, en, k0, k1, sq, q⟩ => wpAny_bind (wpAny_standAt (wpAny_pure (wpAny_evalAll_nil ?_)))))
  subst ev en
  obtain rfl : u = Value.ref a := r1
  obtain ⟨t, rfl⟩ : ∃ t, u2 = Value.int k t := r2
  obtain ⟨its, rv, p', hz⟩ := I2.list sq
  show wpAny _ _ (call (.type "enumerate") [.ref a] [(Str.ofString "start", .int k t)]) _ _ s2
  refine enum_begins_start (begins_list a its.toArray) p'.isList (by omega) (by omega) fun h' he' hit hsz kp => wpAny_pyIter_enum he' ?_
  have I3 : Inv X pl σ H2 { s2 with heap := h' } := I2.kept (t' := s2.toks) kp
  have la : a < s2.heap.objs.size := by
    obtain ⟨_, q, _⟩ := p'.isList
    exact Heap.lt_size q
  refine ⟨s2.heap.objs.size + 1, [s2.heap.objs.size + 1, s2.heap.objs.size], _, _, H2, rfl, I3, turn_enumK k a (s2.heap.objs.size + 1) s2.heap.objs.size (Nat.ne_of_lt la) (Nat.ne_of_lt (Nat.lt_succ_of_lt la)), ⟨⟨.none, ?_⟩, ⟨_, hit, rfl, rfl⟩, Nat.succ_ne_self _⟩, fun b hb => ?_, q⟩
  · have e0 : k + ((0 : Nat) : Int) = k := by omega
    rw [e0]
    exact he'
  · have : b = s2.heap.objs.size + 1 ∨ b = s2.heap.objs.size := by simpa using hb
    have le : s2.heap.objs.size ≤ b := by
      rcases this with z | z
      · rw [z]; exact Nat.le_succ _
      · rw [z]; exact Nat.le_refl _
    exact I2.fpOk le (I2.hok.fresh le)
theorem walk_enumK {K : PySem.W.Frag} {a : Addr} {k : Int} {xs : List V} : Walk (Itek K a k) xs.length (fun H => SqL K H a xs) (fun i H v H' => ∃ T x, v = .ref T ∧ H T = none ∧ H' = upd H T (.tup [.int (k + (i : Nat)), x]) ∧ xs[i]? = some x) :=
  ⟨fun i H hi q => ⟨xs, xs[i], q, List.getElem?_eq_getElem hi⟩, fun _ q => ⟨xs, q, Nat.le_refl _⟩, fun _ H v H' _ q ⟨T, x, e1, e2, e3, e4⟩ => ⟨T, x, e1, e2, e3, e4 xs q⟩⟩
/-! ### list(d.values()) -/
def tListVals (te : TE) : TE := fun σ H Q => te σ H fun x H1 => ∃ d kvs, x = .ref d ∧ H1 d = some (.dK kvs) ∧ ∀ p, H1 p = none → Q (.ref p) (upd H1 p (.lst (kvs.map (·.2))))
section
variable {X : Cx} {e : Expr} {te : TE} {p apos cpos pos : Pos}
theorem pe_listVals (hc : X.calm = true) (he : PE X e te) (hg : Gl X "list") (hm : X.mg "list" = none) (hv : bootBuiltins "list" = some (.type "list")) (hbase : attributeBase e "values" X.env (eval e X.env) = eval e X.env := by rfl) (hline : (apos.endLine == cpos.line) = true := by rfl)
    (hs : starEach [.Call (.Attribute e "values" apos) [] [] cpos] X.env = (false, eval (.Call (.Attribute e "values" apos) [] [] cpos) X.env) :: starEach [] X.env := by rfl) :
    PE X (.Call (.Name "list" p) [.Call (.Attribute e "values" apos) [] [] cpos] [] pos) (tListVals te) := by
  constructor
  intro pl s σ H Q I told
  refine wpAny_Call_Name_kw (ld_blt I hg hm hv (PyProof.Rows.callWith_type1 ?_ hs rfl))
  rw [hs]
  refine Calls.spliced_cons ?_
  refine wpAny_Call_method (T := "dict") (id := "dict.values") hbase rfl hline F.plainAttrs_dict F.slot_dict_values F.type_dict_values (thn (he.run pl s σ H _ I told) fun u s1 ⟨x, H1, I1, rx, d, kvs, ex, hd, q⟩ => ?_)
  subst ex
  obtain rfl : u = Value.ref d := rx
  obtain ⟨hz, low, vs, kv, hdo⟩ := I1.hok d _ hd
  obtain ⟨ep, hat⟩ := hdo.dictAt
  have lk : kvs.length = vs.length := Paired.length kv
  refine ⟨hdo.typeIs, hdo.mapOf.noDict, ?_⟩
  show wpAny _ _ (callWith cpos (.builtin "dict.values") [.ref d] [] []) _ X.xe s1
  refine method_meetsIn F.slot_dict_values F.entry_dict_values rfl (PySem.evalArgs_none ⟨rfl, hdo.typeIs, F.args_dict_values_1 _, _, meets_dict_values (mixKind X.prog X.w) d low, ⟨vs, hdo⟩, ?_⟩)
  refine Calls.spliced_nil ?_
  refine PySem.W.kdl_call (PySem.W.kdl_values (knd := mixKind X.prog X.w) (kvs := vs) (ep := ep)) (I1.ok.hd hc) ⟨⟨_, Heap.get?_push_size _ rfl, rfl, rfl⟩, hat.push _⟩ (by omega) fun h' tk acc c keep there items => ?_
  have I2 : Inv X pl σ H1 { s1 with heap := s1.heap.push { cls := .type "dict_values", data := .fields #[.ref d] } } := I1.kept (t' := s1.toks) fun b ob z => Heap.get?_push_of_some _ z
  have eqv : acc.toList = vs.map (·.2) := PySem.W.kdl_vals_eq acc.toList (by rw [Array.length_toList]; exact items.1) fun j v z => items.2 j v (by rw [← Array.getElem?_toList]; exact z)
  have rel : Vals (kvs.map (·.2)) acc.toList := by
    rw [eqv]
    clear eqv hat hdo lk items told hd hz q
    induction kv with
    | nil => exact .nil
    | cons h t ih => exact .cons h.2 ih
  refine ⟨.ref _, upd H1 _ (.lst (kvs.map (·.2))), I2.laid (t' := tk) keep (Nat.le_refl _) ⟨by rw [List.length_map]; exact hz, acc.toList, c, rel, by rw [Array.toArray_toList]; exact there⟩, rfl, q _ (I2.hok.fresh (Nat.le_refl _))⟩
end
/-! ### own classes and their methods -/
/-- what of a class must be known to make and use its instances -/
structure OwnC (K : PySem.W.Frag) (mg : Str → Option Value) (x : Str) (C : Addr) : Prop where
  g : mg x = some (.ref C)
  c : Cls K C
  makes : PySem.W.makesIn K C = true
  kp : PySem.W.keepIn K (.ref C) = true
theorem OwnC.at {K : PySem.W.Frag} {mg : Str → Option Value} {x : Str} {C : Addr} (g : mg x = some (.ref C)) (c : Cls K C) (mk : PySem.W.makesIn K C = true) (kp : PySem.W.keepIn K (.ref C) = true) : OwnC K mg x (clsA mg x) := by
  have e : clsA mg x = C := by
    unfold clsA
    rw [g]
  rw [e]
  exact ⟨g, c, mk, kp⟩
theorem NoAttr.at {K : PySem.W.Frag} {mg : Str → Option Value} {x f : Str} {C : Addr} (g : mg x = some (.ref C)) (n : PySem.W.findIn K (.ref C) f = some none) : NoAttr K (clsA mg x) f := by
  have e : clsA mg x = C := by
    unfold clsA
    rw [g]
  rw [e]
  exact n
/-- the method m of the class at C is the def st -/
structure DxM (K : PySem.W.Frag) (C : Addr) (m qual : Str) (st : Stmt) (ps : List Str) : Prop where
  ex : ∃ (f : Addr) (fd : FuncData), Fun K m qual st f fd ∧ Meth K C m f ∧ Binds K fd ps []
/-- .. where its code object is known, whose table makes lambdas -/
structure DxL (K : PySem.W.Frag) (C cA : Addr) (m qual : Str) (st : Stmt) (ps : List Str) : Prop where
  ex : ∃ (f : Addr) (oc kV doc pm ct : Value) (od an : Option Addr) (osl : Array (Option Value)), K.lookup f = some ⟨oc, od, .func (PySem.W.fnOf m qual (defArgs st) (defBody st) (defScope st) .none kV doc pm an (.ref cA) ct), osl⟩ ∧ PySem.W.codeIn K (.ref cA) qual = true ∧ Meth K C m f ∧ Binds K (PySem.W.fnOf m qual (defArgs st) (defBody st) (defScope st) .none kV doc pm an (.ref cA) ct) ps []
/-- a method that may be called -/
structure ClM (P : Program) (w : World) (K : PySem.W.Frag) (mg : Str → Option Value) (base : Heap) (CX : CXT) (k : Nat) (C : Addr) (m : Str) (ps : List Str) (sp : Sp) : Prop where
  ex : ∃ (f : Addr) (fd : FuncData), FnOk P w K mg base CX k f fd ps sp ∧ Meth K C m f ∧ Binds K fd ps []
section
variable {P : Program} {w : World} {K : PySem.W.Frag} {mg : Str → Option Value} {base : Heap} {C cA : Addr} {m qual : Str} {st : Stmt} {N ps : List Str} {k : Nat} {sp : Sp}
theorem ClM.mono {CX : CXT} {j : Nat} (c : ClM P w K mg base CX j C m ps sp) (h : j ≤ k) : ClM P w K mg base CX k C m ps sp := by
  obtain ⟨f, fd, F, r⟩ := c.ex
  exact ⟨f, fd, F.mono h, r⟩
theorem ClM.mk0 (D : DxM K C m qual st ps) (S : FnScope N ps (defScope st)) (len : ∀ vs H Q E, sp vs H Q E → vs.length = ps.length)
    (hbody : ∀ (f : Addr) (cdv : Value) (A : Around) (outer : List Env) (s : Shared) (H : Hp) (vs : List V) (Q : VK) (E : XK), Room k (A.deeper (envOfC qual (defScope st) s.heap.objs.size f cdv)) → sp vs H Q E →
      ∃ t, PSs (cxOf CX0 P w K mg base N qual (defScope st) f cdv A outer s H E).nox (defBody st) t ∧ t { nx := fun _ H' => Q .non H', rt := Q } (start N vs) H) : ClM P w K mg base CX0 (k + 1) C m ps sp := by
  obtain ⟨f, fd, F, mm, b⟩ := D.ex
  exact ⟨f, fd, F.ok S len (hbody f), mm, b⟩
theorem ClM.mkX (D : DxM K C m qual st ps) (S : FnScope N ps (defScope st)) (len : ∀ vs H Q E, sp vs H Q E → vs.length = ps.length)
    (hbody : ∀ (f : Addr) (cdv : Value) (A : Around) (outer : List Env) (s : Shared) (H : Hp) (vs : List V) (Q : VK) (E : XK), Room k (A.deeper (envOfC qual (defScope st) s.heap.objs.size f cdv)) → sp vs H Q E →
      ∃ t, PSs (cxOf (L2.CX P w) P w K mg base N qual (defScope st) f cdv A outer s H E) (defBody st) t ∧ t { nx := fun _ H' => Q .non H', rt := Q } (start N vs) H) : ClM P w K mg base (L2.CX P w) (k + 1) C m ps sp := by
  obtain ⟨f, fd, F, mm, b⟩ := D.ex
  exact ⟨f, fd, F.okX S len (hbody f), mm, b⟩
/-- a method that makes lambdas -/
theorem ClM.mkL (D : DxL K C cA m qual st ps) (S : FnScope N ps (defScope st)) (len : ∀ vs H Q E, sp vs H Q E → vs.length = ps.length)
    (hbody : ∀ (f : Addr) (A : Around) (outer : List Env) (s : Shared) (H : Hp) (vs : List V) (Q : VK) (E : XK), Room k (A.deeper (envOfC qual (defScope st) s.heap.objs.size f (.ref cA))) → sp vs H Q E →
      ∃ t, PSs (cxOf CX0 P w K mg base N qual (defScope st) f (.ref cA) A outer s H E).nox (defBody st) t ∧ t { nx := fun _ H' => Q .non H', rt := Q } (start N vs) H) : ClM P w K mg base CX0 (k + 1) C m ps sp := by
  obtain ⟨f, oc, kV, doc, pm, ct, od, an, osl, lk, cd, mm, b⟩ := D.ex
  refine ⟨f, _, fn_of lk cd S len fun A outer s H vs Q E hr told => ?_, mm, b⟩
  obtain ⟨t, h, q⟩ := hbody f A outer s H vs Q E hr told
  exact ⟨t, h.nox, q⟩
/-- nothing can be asked of it -/
theorem ClM.no (D : DxM K C m qual st ps) (h : ∀ vs H Q E, ¬ sp vs H Q E) {CX : CXT} : ClM P w K mg base CX k C m ps sp := by
  obtain ⟨f, fd, F, mm, b⟩ := D.ex
  exact ⟨f, fd, ⟨fun vs H Q E q => absurd q (h vs H Q E), fun A outer s H args us vs Q E _ _ _ _ q => absurd q (h vs H Q E)⟩, mm, b⟩
end
section
variable {X : Cx} {k j : Nat} {C : Addr} {x m : Str} {ps : List Str} {sp : Sp} {p apos pos : Pos} {e o : Expr} {es : List Expr} {kws : List Keyword} {ta : TE} {t tk : TA} {E : L2.St → XK} {pl : Sem Bool}
theorem pe_mm (c : Cls X.K C) (d : ClM X.prog X.w X.K X.mg X.base CX0 k C m ps sp) (hr : Room j X.A) (hk : k ≤ j) (he : PE X o ta) (ha : PA X (e :: es) t)
    (hst : starEach (e :: es) X.env = (false, eval e X.env) :: starEach es X.env := by rfl) (hpl : (backTo pos (starEach es X.env)).any (·.1) = false := by rfl)
    (ht : eval (.Call (.Attribute o m apos) (e :: es) [] pos) X.env = (do
      let ov ← eval o X.env
      standAt apos.atName
      let (f, first) ← holding [ov] (getMethod ov m pl)
      callWith pos f first (backTo pos (starEach (e :: es) X.env)) (backToKw pos (keywordEach [] X.env))) := by rfl) :
    PE X (.Call (.Attribute o m apos) (e :: es) [] pos) (tMeth C m sp [] E0 ta t) := by
  obtain ⟨f, fd, F, mm, b⟩ := d.ex
  exact pe_meth he c mm F (hr.mono hk) b .nil pass0 ha hst hpl ht
theorem pe_mm0 (c : Cls X.K C) (d : ClM X.prog X.w X.K X.mg X.base CX0 k C m ps sp) (hr : Room j X.A) (hk : k ≤ j) (he : PE X o ta)
    (ht : eval (.Call (.Attribute o m apos) [] [] pos) X.env = (do
      let ov ← eval o X.env
      standAt apos.atName
      let (f, first) ← holding [ov] (getMethod ov m pl)
      callWith pos f first (backTo pos (starEach [] X.env)) (backToKw pos (keywordEach [] X.env))) := by rfl) :
    PE X (.Call (.Attribute o m apos) [] [] pos) (tMeth C m sp [] E0 ta tNil) := by
  obtain ⟨f, fd, F, mm, b⟩ := d.ex
  exact pe_meth0 he c mm F (hr.mono hk) b .nil pass0 ht
/-- o.m(..) of a method that may raise -/
def tMethS2 (C : Addr) (m : Str) (sp : Sp) (E : L2.St → XK) (ta : TE) (t : TA) : TE := fun σ H Q => ta σ H fun x H1 => ∃ a dx fs, x = .ref a ∧ H1 a = some (.ins C dx fs) ∧ fs.lookup m = none ∧ t σ H1 fun vs H2 => sp (x :: vs) H2 Q (E σ)
theorem pe_mmS (c : Cls X.K C) (d : ClM X.prog X.w X.K X.mg X.base (L2.CX X.prog X.w) k C m ps sp) (hr : Room j X.A) (hk : k ≤ j) (hx : ∀ σ, PassesAt (L2.CX X.prog X.w) X σ (E σ)) (he : PE X o ta) (ha : PA X (e :: es) t)
    (hst : starEach (e :: es) X.env = (false, eval e X.env) :: starEach es X.env := by rfl) (hpl : (backTo pos (starEach es X.env)).any (·.1) = false := by rfl)
    (ht : eval (.Call (.Attribute o m apos) (e :: es) [] pos) X.env = (do
      let ov ← eval o X.env
      standAt apos.atName
      let (f, first) ← holding [ov] (getMethod ov m pl)
      callWith pos f first (backTo pos (starEach (e :: es) X.env)) (backToKw pos (keywordEach [] X.env))) := by rfl) :
    PE X (.Call (.Attribute o m apos) (e :: es) [] pos) (tMethS2 C m sp E ta t) := by
  obtain ⟨f, fd, F, mm, b⟩ := d.ex
  constructor
  intro pins s σ H Q I told
  refine PySem.W.methodCall_KW (pl := pl) (thn (he.run pins s σ H _ I told) fun u s1 ⟨v, H1, I1, rx, a, dx, fs, ev, ea, l, q⟩ => ?_) ht
  subst ev
  obtain rfl : u = Value.ref a := rx
  refine getmeth_ok I1 ea c mm l (PySem.W.callWith_K (first := [.ref a]) (h₀ := X.base) I.ok.mod.kin mm.kp (thn (ha.run pos pins s1 σ H1 _ I1 q) fun us s2 ⟨vs, H2, I2, r, q2⟩ => ⟨I2.kIn, ?_⟩) hst hpl)
  exact run_fnS (us := .ref a :: us) (vs := .ref a :: vs) F (hr.mono hk) b (hx σ) I2 (.cons rfl r) q2
theorem pe_mmS0 (c : Cls X.K C) (d : ClM X.prog X.w X.K X.mg X.base (L2.CX X.prog X.w) k C m ps sp) (hr : Room j X.A) (hk : k ≤ j) (hx : ∀ σ, PassesAt (L2.CX X.prog X.w) X σ (E σ)) (he : PE X o ta)
    (ht : eval (.Call (.Attribute o m apos) [] [] pos) X.env = (do
      let ov ← eval o X.env
      standAt apos.atName
      let (f, first) ← holding [ov] (getMethod ov m pl)
      callWith pos f first (backTo pos (starEach [] X.env)) (backToKw pos (keywordEach [] X.env))) := by rfl) :
    PE X (.Call (.Attribute o m apos) [] [] pos) (tMethS2 C m sp E ta tNil) := by
  obtain ⟨f, fd, F, mm, b⟩ := d.ex
  constructor
  intro pins s σ H Q I told
  refine PySem.W.methodCall_KW (pl := pl) (thn (he.run pins s σ H _ I told) fun u s1 ⟨v, H1, I1, rx, a, dx, fs, ev, ea, l, q⟩ => ?_) ht
  subst ev
  obtain rfl : u = Value.ref a := rx
  refine getmeth_ok I1 ea c mm l (PySem.W.callWith_K0 (first := [.ref a]) I1.kIn mm.kp ?_)
  exact run_fnS (us := [.ref a]) (vs := [.ref a]) F (hr.mono hk) b (hx σ) I1 (.cons rfl .nil) q
/-- C(..) -/
theorem pe_mkC (c : OwnC X.K X.mg x C) (d : ClM X.prog X.w X.K X.mg X.base CX0 k C "__init__" ps sp) (hr : Room j X.A) (hk : k + 1 ≤ j) (hg : Gl X x) (ha : PA X (e :: es) t)
    (hdb : (x == ("__debug__" : Str)) = false := by decide) (he : starEach (e :: es) X.env = (false, eval e X.env) :: starEach es X.env := by rfl) (hpl : (backTo pos (starEach es X.env)).any (·.1) = false := by rfl) :
    PE X (.Call (.Name x p) (e :: es) [] pos) (tMake C sp [] E0 t) := by
  obtain ⟨f, fd, F, mm, b⟩ := d.ex
  exact pe_make ⟨c.makes, mm.at_, mm.fn, c.kp⟩ F (hr.mono hk) hg c.g b .nil pass0 ha hdb he hpl
theorem pe_mkC0 (c : OwnC X.K X.mg x C) (d : ClM X.prog X.w X.K X.mg X.base CX0 k C "__init__" ps sp) (hr : Room j X.A) (hk : k + 1 ≤ j) (hg : Gl X x) (hdb : (x == ("__debug__" : Str)) = false := by decide) :
    PE X (.Call (.Name x p) [] [] pos) (tMake C sp [] E0 tNil) := by
  obtain ⟨f, fd, F, mm, b⟩ := d.ex
  exact pe_make0 ⟨c.makes, mm.at_, mm.fn, c.kp⟩ F (hr.mono hk) hg c.g b .nil pass0 hdb
end
/-! ### len and truth of dicts of KtN -/
section
variable {X : Cx}
def rLenN (w : World) : List V → Hp → VK → Prop := fun xs H Q => ∃ (a : Addr) (rows : List RowV), xs = [.ref a] ∧ IsN w H a rows ∧ Q (.int rows.length) H
theorem call_lenN : CallR X (.builtin "len") (rLenN X.w) := by
  intro pins s σ H xs us Q I r told
  obtain ⟨a, rows, rfl, n, q⟩ := told
  obtain ⟨u, rfl, ru⟩ := vals1 r
  obtain rfl : u = Value.ref a := ru
  obtain ⟨sys, hz, ys, rel, D⟩ := dn_rd I.hok n.1 n.2
  have len : rows.length = ys.length := Paired.length rel
  refine len_nk sys D (by rw [sizeLine_eq] at hz; omega) ?_
  rw [← len]
  exact ⟨.int rows.length, H, I.tok _, ⟨_, rfl⟩, q⟩
def rTruN (w : World) : V → Hp → (Bool → Hp → Prop) → Prop := fun x H Q => ∃ (a : Addr) (rows : List RowV), x = .ref a ∧ IsN w H a rows ∧ Q (!rows.isEmpty) H
theorem tru_N : TruR X (rTruN X.w) := by
  intro pins s σ H x v Q I r told
  obtain ⟨a, rows, rfl, n, q⟩ := told
  obtain rfl : v = Value.ref a := r
  obtain ⟨sys, hz, ys, rel, D⟩ := dn_rd I.hok n.1 n.2
  have len : rows.length = ys.length := Paired.length rel
  refine truthy_nk sys D (by rw [sizeLine_eq] at hz; omega) ⟨H, I.tok _, ?_⟩
  have e : ys.isEmpty = rows.isEmpty := by
    cases rel with
    | nil => rfl
    | cons h t => rfl
  rw [e]
  exact q
/-- d.setdefault(k, v) -/
def tNSetd (w : World) (td ty tx : TE) : TE := fun σ H Q => td σ H fun x H1 => ∃ a, x = .ref a ∧ (∃ xs, IsN w H1 a xs) ∧ ty σ H1 fun y H2 => tx σ H2 fun z H3 => ∃ xs k, H3 a = some (DN w a xs) ∧ KeysN H3 xs ∧ IsK H3 k y ∧ xs.length < sizeLine ∧
  (∀ v, valM xs k = some v → Q v H3) ∧ (valM xs k = none → Q z (upd H3 a (DN w a (putM xs k y z))))
variable {o e f : Expr} {td ty tx : TE} {apos cpos : Pos}
theorem pe_nsetd (hu : X.A.units + 9 < cLine) (ho : PE X o td) (he : PE X e ty) (hf : PE X f tx) (m : M2 X o "setdefault" apos e f cpos) : PE X (.Call (.Attribute o "setdefault" apos) [e, f] [] cpos) (tNSetd X.w td ty tx) := by
  constructor
  intro pins s σ H Q I told
  refine wpAny_Call_method m.base m.few m.line PySem.F.plainAttrs_dict PySem.F.slot_dict_setdefault PySem.F.type_dict_setdefault (thn (ho.run pins s σ H _ I told) fun u s1 ⟨x, H1, I1, rx, a, ex, ⟨xs, n⟩, q1⟩ => ?_)
  subst ex
  obtain rfl : u = Value.ref a := rx
  obtain ⟨t1, t2⟩ := n_type I1 n
  refine ⟨t1, t2, ?_⟩
  rw [m.trees]
  refine Calls.callWith_builtin rfl (Calls.evalArgs_plain (Calls.spliced_cons (thn (he.run pins s1 σ H1 _ I1 q1) fun iv s2 ⟨y, H2, I2, ry, q2⟩ =>
    Calls.spliced_cons (thn (hf.run pins s2 σ H2 _ I2 q2) fun fv s3 ⟨z, H3, I3, rz, ws, k, e3, K3, nk, few, old, new⟩ => Calls.spliced_nil ?_))))
  obtain ⟨sys, hz, ys, rel, D⟩ := dn_rd I3.hok (.inl e3) K3
  refine callSetd_nk hu ⟨NRep.is I3.hok _ _ _ nk.1 ry, nk.2⟩ sys D (by rw [← Paired.length rel]; exact hz) (fun v hv => ?_) fun hn h' D' same => ?_
  · have := rows_val rel k
    rw [hv] at this
    cases q : valM ws k with
    | none =>
      rw [q] at this
      exact (show False from this).elim
    | some v0 =>
      rw [q] at this
      exact ⟨v0, H3, I3.tok _, this, old v0 q⟩
  · have := rows_val rel k
    rw [hn] at this
    cases q : valM ws k with
    | some v0 =>
      rw [q] at this
      exact (show False from this).elim
    | none =>
      obtain ⟨o, es, ep, ho, ex, hd, he, _, nd⟩ := D'
      have := putM_length ws k y z
      refine ⟨z, upd H3 a (DN X.w a (putM ws k y z)), I3.write (x := a) (e := a) (by rw [e3]; exact True.intro) (.inl rfl) (fun b q hb z => (same.2 b hb).trans z) ⟨o, ho⟩ (dn_obj ⟨sys, ?_, _, rows_put rel ry rz, nd, o, es, ep, ho, ex, hd, he⟩), rz, new q⟩
      omega
end
/-- as pe_fld, the fragment named (within a comprehension) -/
theorem pe_fldW {X : Cx} {K : PySem.W.Frag} {e : Expr} {f : Str} {pos : Pos} {ta : TE} (he : PE X e ta) (hb : attributeBase e f X.env (eval e X.env) = eval e X.env) (hK : X.K = K := by rfl) : PE X (.Attribute e f pos) (tFld K ta f) := hK ▸ pe_fld he hb
theorem pi_tupW {X : Cx} {K : PySem.W.Frag} {tg l : Expr} {tl : TE} (hl : PE X l tl) (hK : X.K = K := by rfl) : PI X tg l (iTup K tl) := hK ▸ pi_tup hl
theorem pi_listW {X : Cx} {K : PySem.W.Frag} {tg l : Expr} {tl : TE} (hl : PE X l tl) (hK : X.K = K := by rfl) : PI X tg l (iList K tl) := hK ▸ pi_list hl
/-! ### o.m(b = .., a = ..) -/
/-- two by two turned -/
def swp {α : Type} : List α → List α
  | [a, b] => [b, a]
  | l => l
/-- with the def at hand -/
structure ClMF (P : Program) (w : World) (K : PySem.W.Frag) (mg : Str → Option Value) (base : Heap) (CX : CXT) (k : Nat) (C : Addr) (m qual : Str) (st : Stmt) (ps : List Str) (sp : Sp) : Prop where
  ex : ∃ (f : Addr) (fd : FuncData), FnOk P w K mg base CX k f fd ps sp ∧ Meth K C m f ∧ Binds K fd ps [] ∧ Fun K m qual st f fd
/-- a method that may be called by its parameters' names; bk turns the call's order into the def's -/
structure ClMK (P : Program) (w : World) (K : PySem.W.Frag) (mg : Str → Option Value) (base : Heap) (CX : CXT) (k : Nat) (C : Addr) (m : Str) (ps kn : List Str) (bk : ∀ {α : Type}, List α → List α) (sp : Sp) : Prop where
  ex : ∃ (f : Addr) (fd : FuncData), FnOk P w K mg base CX k f fd ps sp ∧ Meth K C m f ∧ ∀ (s : Shared) (u : Value) (us : List Value), us.length = kn.length → BindsTo s fd ⟨[u], kn.zip us⟩ (ps.zip (u :: bk us))
section
variable {P : Program} {w : World} {K : PySem.W.Frag} {mg : Str → Option Value} {base : Heap} {C : Addr} {m qual : Str} {st : Stmt} {N ps kn : List Str} {k : Nat} {sp : Sp} {bk : ∀ {α : Type}, List α → List α}
theorem ClMF.mk0 (D : DxM K C m qual st ps) (S : FnScope N ps (defScope st)) (len : ∀ vs H Q E, sp vs H Q E → vs.length = ps.length)
    (hbody : ∀ (f : Addr) (cdv : Value) (A : Around) (outer : List Env) (s : Shared) (H : Hp) (vs : List V) (Q : VK) (E : XK), Room k (A.deeper (envOfC qual (defScope st) s.heap.objs.size f cdv)) → sp vs H Q E →
      ∃ t, PSs (cxOf CX0 P w K mg base N qual (defScope st) f cdv A outer s H E).nox (defBody st) t ∧ t { nx := fun _ H' => Q .non H', rt := Q } (start N vs) H) : ClMF P w K mg base CX0 (k + 1) C m qual st ps sp := by
  obtain ⟨f, fd, F, mm, b⟩ := D.ex
  exact ⟨f, fd, F.ok S len (hbody f), mm, b, F⟩
theorem ClMF.cl {CX : CXT} (c : ClMF P w K mg base CX k C m qual st ps sp) : ClM P w K mg base CX k C m ps sp := by
  obtain ⟨f, fd, F, mm, b, _⟩ := c.ex
  exact ⟨f, fd, F, mm, b⟩
theorem ClMF.kw {CX : CXT} (c : ClMF P w K mg base CX k C m qual st ps sp) (h : ∀ (kV doc pm : Value) (an : Option Addr) (cdv ct : Value) (u : Value) (us : List Value), us.length = kn.length → bindArgs (PySem.W.fnOf m qual (defArgs st) (defBody st) (defScope st) .none kV doc pm an cdv ct) ⟨[u], kn.zip us⟩ = pure (ps.zip (u :: bk us))) :
    ClMK P w K mg base CX k C m ps kn bk sp := by
  obtain ⟨f, fd, F, mm, b, ff⟩ := c.ex
  obtain ⟨oc, od, kV, doc, pm, an, cdv, ct, osl, rfl, _⟩ := ff.ex
  exact ⟨f, _, F, mm, fun s u us hl => .of_eq (h kV doc pm an cdv ct u us hl)⟩
end
def tMethK (C : Addr) (m : Str) (sp : Sp) (bk : ∀ {α : Type}, List α → List α) (ta : TE) (t : TA) : TE := fun σ H Q => ta σ H fun x H1 => ∃ a dx fs, x = .ref a ∧ H1 a = some (.ins C dx fs) ∧ fs.lookup m = none ∧ t σ H1 fun vs H2 => sp (x :: bk vs) H2 Q E0
section
variable {X : Cx} {k j : Nat} {C : Addr} {m : Str} {ps kn : List Str} {sp : Sp} {apos pos : Pos} {o : Expr} {kws : List Keyword} {ta : TE} {tk : TA} {pl : Sem Bool} {bk : ∀ {α : Type}, List α → List α}
theorem pe_mmK (c : Cls X.K C) (d : ClMK X.prog X.w X.K X.mg X.base CX0 k C m ps kn bk sp) (hr : Room j X.A) (hk : k ≤ j) (he : PE X o ta) (hkw : PK X kws tk)
    (hb : ∀ (zs : List V) (ws : List Value), zs.length = kn.length → Vals zs ws → Vals (bk zs) (bk ws)) (hbl : ∀ zs : List V, (bk zs).length = zs.length) (pl1 : ps.length = kn.length + 1 := by rfl)
    (hall : (backToKw pos (keywordEach kws X.env)).all (·.1.isSome) = true := by rfl) (hks : (backToKw pos (keywordEach kws X.env)).filterMap (·.1) = kn := by rfl)
    (hpl : ((backTo pos (starEach [] X.env)).any (·.1) || (backToKw pos (keywordEach kws X.env)).any (·.1.isNone)) = false := by rfl)
    (ht : eval (.Call (.Attribute o m apos) [] kws pos) X.env = (do
      let ov ← eval o X.env
      standAt apos.atName
      let (f, first) ← holding [ov] (getMethod ov m pl)
      callWith pos f first (backTo pos (starEach [] X.env)) (backToKw pos (keywordEach kws X.env))) := by rfl) :
    PE X (.Call (.Attribute o m apos) [] kws pos) (tMethK C m sp bk ta tk) := by
  obtain ⟨f, fd, F, mm, b⟩ := d.ex
  constructor
  intro pins s σ H Q I told
  refine PySem.W.methodCall_KW (pl := pl) (thn (he.run pins s σ H _ I told) fun u s1 ⟨v, H1, I1, rx, a, dx, fs, ev, ea, l, q⟩ => ?_) ht
  subst ev
  obtain rfl : u = Value.ref a := rx
  refine getmeth_ok I1 ea c mm l (PySem.W.callWith_KW0 (first := [.ref a]) (h₀ := X.base) I.ok.mod.kin mm.kp hall (thn (hkw.run pos pins s1 σ H1 _ I1 q) fun ws s2 ⟨zs, H2, I2, rz, q2⟩ => ⟨I2.kIn, ?_⟩) hpl)
  rw [hks]
  have zl : zs.length = kn.length := by
    have := F.len _ _ _ _ q2
    rw [List.length_cons, hbl, pl1] at this
    omega
  have hl : ws.length = kn.length := by rw [← rz.length]; exact zl
  refine wpAny_call (codeAny_mono (F.run X.A X.stack s2 H2 ⟨[.ref a], kn.zip ws⟩ (.ref a :: bk ws) (.ref a :: bk zs) Q E0 (hr.mono hk) I2.env0 (b s2 (.ref a) ws hl) (.cons rfl (hb zs ws zl rz)) q2) fun r s' hq => ?_)
  cases r with
  | error e => exact pass0 pins σ H2 s2 e s' I2 hq
  | ok fl =>
    cases fl with
    | ret u => exact I2.after hq
    | next => exact False.elim hq
    | brk => exact False.elim hq
    | cont => exact False.elim hq
end
theorem vals_swp : ∀ (zs : List V) (ws : List Value), zs.length = 2 → Vals zs ws → Vals (swp zs) (swp ws)
  | _, _, h, .cons a (.cons b .nil) => .cons b (.cons a .nil)
  | _, _, h, .nil => by cases h
  | _, _, h, .cons _ .nil => by cases h
  | _, _, h, .cons _ (.cons _ (.cons _ _)) => by simp at h
theorem len_swp {α : Type} : ∀ zs : List α, (swp zs).length = zs.length
  | [] => rfl
  | [_] => rfl
  | [_, _] => rfl
  | _ :: _ :: _ :: _ => rfl
/-! ### list(d): its keys -/
theorem call_listN {X : Cx} (calm : X.calm = true) : CallR X (.type "list") (fun xs H Q => ∃ (a : Addr) (rows : List RowV), xs = [.ref a] ∧ IsN X.w H a rows ∧ ∀ p, H p = none → Q (.ref p) (upd H p (.lst (rows.map (·.2.1))))) := by
  intro pins s σ H xs us Q I r told
  obtain ⟨a, rows, rfl, n, q⟩ := told
  obtain ⟨u, rfl, ru⟩ := vals1 r
  obtain rfl : u = Value.ref a := ru
  obtain ⟨sys, hz, ys, rel, o, es, ep, ho, ex, hd, hes, _⟩ := dn_rd I.hok n.1 n.2
  have len : es.size = rows.length := by
    rw [enN_size hes]
    exact (Paired.length rel).symm
  refine PySem.W.kdl_call (src_nk sys) (I.ok.hd calm) ⟨o, ho, ex, hd⟩ (by rw [len]; exact hz) fun h' tk acc c' hk hD hacc => ?_
  have eq : acc.toList = es.toList.map (·.key) := by
    refine List.ext_getElem? fun j => ?_
    by_cases hj : j < acc.size
    · have e : acc[j]? = some acc[j] := Array.getElem?_eq_getElem hj
      obtain ⟨hi, e2⟩ := hacc.2 j _ e
      rw [Array.getElem?_toList, e, List.getElem?_map, Array.getElem?_toList, Array.getElem?_eq_getElem hi, e2]
      rfl
    · have e1 := hacc.1
      rw [Array.getElem?_toList, Array.getElem?_eq_none (by omega), List.getElem?_map, Array.getElem?_toList, Array.getElem?_eq_none (by omega)]
      rfl
  have hv : Vals (rows.map (·.2.1)) acc.toList := by
    rw [eq]
    exact each_vals (keys_rows (X := X) hes rel)
  refine ⟨.ref s.heap.objs.size, upd H s.heap.objs.size (.lst (rows.map (·.2.1))), I.laid (t' := tk) hk (Nat.le_refl _)
    (show ObjOk X.prog X.w _ _ _ (.lst (rows.map (·.2.1))) from ⟨by rw [List.length_map]; exact hz, acc.toList, c', hv, by rw [Array.toArray_toList]; exact hD⟩), rfl, q _ (I.hok.fresh (Nat.le_refl _))⟩
end Kt
/-! KtW5: t[:0:-1] of a tuple of two or three. -/
namespace Kt
open PySem PySem.Spec PyProof.Rows L2
section
variable {prog : Program} {w : World} {A : Around} {E : Value → Shared → Prop} {s : Shared}
theorem applied_back {sl : Addr} {vl vu vs : Value} {n : Nat} {Q : Int × Int × Nat → Shared → Prop} (hs : s.heap.IsSliceOf sl vl vu vs) (pl : IsPart vl none) (pu : IsPart vu (some 0)) (ps : IsPart vs (some (-1))) (hn : n = 2 ∨ n = 3)
    (h : Q (((n - 1 : Nat) : Int), -1, n - 1) s) : wpAny (model prog w) A (Builtin.Slice.sliceApplied (.ref sl) (pure (n : Int))) Q E s := by
  obtain ⟨ob, get, _, dat⟩ := id hs
  unfold Builtin.Slice.sliceApplied Builtin.Slice.sliceFields
  refine wpAny_bind (wpAny_bind (wpAny_field get dat (x := vl) rfl (wpAny_bind (wpAny_field get dat (x := vu) rfl (wpAny_bind (wpAny_field get dat (x := vs) rfl (wpAny_pure ?_)))))))
  refine wpAny_bind (HT.slicePart_ ps ?_)
  show wpAny _ _ (if ((-1 : Int) == 0) = true then _ else _) _ _ s
  rw [if_neg (by decide)]
  refine wpAny_bind (HT.slicePart_ pl (wpAny_bind (HT.slicePart_ pu (wpAny_bind (wpAny_pure ?_)))))
  rcases hn with e | e
  · subst e
    exact wpAny_pure h
  · subst e
    exact wpAny_pure h
theorem back_pick {its : List Value} (hn : its.length = 2 ∨ its.length = 3) : ((List.range (its.length - 1)).filterMap fun (k : Nat) => its.toArray[(((its.length - 1 : Nat) : Int) + (k : Int) * -1).toNat]?) = (its.drop 1).reverse := by
  match its, hn with
  | [a, b], _ => rfl
  | [a, b, c], _ => rfl
theorem getItem_back {t sl : Addr} {its : List Value} {vl vu vs : Value} {Q : Value → Shared → Prop} (ht : IsTup s.heap t its.toArray) (hs : s.heap.IsSliceOf sl vl vu vs) (pl : IsPart vl none) (pu : IsPart vu (some 0)) (ps : IsPart vs (some (-1))) (hn : its.length = 2 ∨ its.length = 3)
    (h : Q (.ref s.heap.objs.size) { s with heap := s.heap.push { cls := .type "tuple", data := .seq ((its.drop 1).reverse).toArray } }) : wpAny (model prog w) A (getItem (.ref t) (.ref sl)) Q E s := by
  obtain ⟨ob, get, cl, dat⟩ := id hs
  have isl : s.TypeIs (.ref sl) "slice" := ⟨ob, get, cl⟩
  unfold getItem
  try with_reducible refine wpAny_holding ?_
  first | refine wpAny_bind (wpAny_pure ?_) | skip
  refine wpAny_bind (wpAny_sequenceKey ht.typeIs (by decide) ?_)
  refine wpAny_bind (wpAny_callSpecial?_slot (name := Str.ofString "__getitem__") ht.typeIs PyProof.Rows.slot_tuple_getitem (wpAny_call_entry PyProof.Rows.slot_tuple_getitem ht.typeIs entry_tuple_getitem ?_ (args_tuple_getitem _ _)))
  show wpAny _ _ (Builtin.Tuple.tupleItemsOf (.ref t) >>= _) _ _ s
  refine wpAny_bind (tupleItemsOf_ ht ?_)
  refine wpAny_bind (wpAny_typeOf isl ?_)
  rw [if_pos (by decide)]
  have sz : its.toArray.size = its.length := List.size_toArray
  refine wpAny_bind (applied_back (n := its.toArray.size) hs pl pu ps (by rw [sz]; exact hn) ?_)
  have no : ¬ ((((its.toArray.size - 1 : Nat) : Int) == 0 && (-1 : Int) == 1 && (its.toArray.size - 1) == its.toArray.size) = true) := by
    rw [show ((-1 : Int) == 1) = false from rfl, Bool.and_false, Bool.false_and]
    exact fun z => nomatch z
  show wpAny _ _ (if (((its.toArray.size - 1 : Nat) : Int) == 0 && (-1 : Int) == 1 && (its.toArray.size - 1) == its.toArray.size) = true then _ else _) _ _ s
  rw [if_neg no, sz, back_pick hn]
  have few : sizeOk (.seq ((its.drop 1).reverse).toArray) := by
    show ((its.drop 1).reverse).toArray.size ≤ sizeLine
    rw [List.size_toArray, List.length_reverse, List.length_drop, sizeLine_eq]
    omega
  first
    | exact wpAny_bind (m := Builtin.Tuple.tupleExact _) (wpAny_newObj_type (wpAny_pure ⟨_, rfl, wpAny_pure h⟩) few)
    | exact wpAny_bind (m := Builtin.Tuple.tupleExact _) (wpAny_newObj_type (wpAny_bind (wpAny_pure (wpAny_pure ⟨_, rfl, wpAny_pure h⟩))) few)
    | exact wpAny_bind (wpAny_bind (m := Builtin.Tuple.tupleExact _) (wpAny_newObj_type (wpAny_pure (wpAny_pure ⟨_, rfl, wpAny_pure h⟩)) few))
    | exact wpAny_bind (wpAny_bind (m := Builtin.Tuple.tupleExact _) (wpAny_newObj_type (wpAny_pure ⟨_, rfl, wpAny_pure h⟩) few))
end
def tBack (K : PySem.W.Frag) (te : TE) : TE := fun σ H Q => te σ H fun x H1 => ∃ a xs, x = .ref a ∧ SqT K H1 a xs ∧ (xs.length = 2 ∨ xs.length = 3) ∧ ∀ p, H1 p = none → Q (.ref p) (upd H1 p (.tup (xs.drop 1).reverse))
theorem pe_back {X : Cx} {e : Expr} {te : TE} {k k0 : Nat} {p0 p1 p2 p3 pos : Pos} (he : PE X e te) : PE X (.Subscript e (.Slice none (some (.Constant (.int 0) k0 p0)) (some (.UnaryOp .USub (.Constant (.int 1) k p1) p2)) p3) pos) (tBack X.K te) := by
  constructor
  intro pins s σ H Q I told
  refine Subscript_ (thn (he.run pins s σ H _ I told) fun v s1 ⟨x, H1, I1, r1, a, xs, ex, hx, hn, q⟩ => ?_)
  subst ex
  obtain rfl : v = Value.ref a := r1
  have up : PO X (some (.Constant (.int 0) k0 p0)) (tPart (tC (.int 0))) := po_some pe_int
  have st : PO X (some (.UnaryOp .USub (.Constant (.int 1) k p1) p2)) (tPart (tUn (rU fun i => .int (-i)) (tC (.int 1)))) := po_some (pe_un un_neg pe_int)
  have lower := po_none.run (X := X) pins s1 σ H1 (fun part there => part = none ∧ there = H1) I1 ⟨rfl, rfl⟩
  refine wpAny_Slice (thn lower ?_)
  rintro vl s2 ⟨_, H2, I2, pl, rfl, rfl⟩
  refine thn (up.run pins s2 σ H2 (fun part there => part = some 0 ∧ there = H2) I2 ⟨0, rfl, rfl, rfl⟩) ?_
  rintro vu s3 ⟨_, H3, I3, pu, rfl, rfl⟩
  refine thn (st.run pins s3 σ H3 (fun part there => part = some (-1) ∧ there = H3) I3 ⟨1, rfl, -1, rfl, rfl, rfl⟩) ?_
  rintro vs s4 ⟨_, H4, I4, ps, rfl, rfl⟩
  have I5 := Inv.kept (h' := s4.heap.push { cls := .type "slice", data := .fields #[vl, vu, vs] }) (t' := s4.toks) I4 fun _ _ known => Heap.get?_push_of_some _ known
  obtain ⟨its, r, ht, hz⟩ := I5.tuple hx
  have len := r.length
  show wpAny (model X.prog X.w) X.A (subscriptTail e (.Slice none (some (.Constant (.int 0) k0 p0)) (some (.UnaryOp .USub (.Constant (.int 1) k p1) p2)) p3) (.ref a) (.ref s4.heap.objs.size)) (EP X pins σ Q) X.xe { s4 with heap := s4.heap.push { cls := .type "slice", data := .fields #[vl, vu, vs] } }
  refine tail_any (ops := [.ref a, .ref s4.heap.objs.size]) ht.typeIs (PyProof.Rows.slot_tuple_getitem.lookup) ?_ (by with_unfolding_all rfl)
  refine getItem_back ht (Heap.IsSliceOf.new _ vl vu vs) pl pu ps (by rw [← len]; exact hn) ?_
  refine ⟨.ref _, _, I5.laid (t' := s4.toks) (o := .tup (xs.drop 1).reverse) (fun b ob q => Heap.get?_push_of_some _ q) (Nat.le_refl _) ?_, rfl, q _ (I5.hok.fresh (Nat.le_refl _))⟩
  exact ⟨by rw [List.length_reverse, List.length_drop]; omega, _, (r.drop 1).reverse, IsTup.new _ _⟩
theorem pe_backW {X : Cx} {K : PySem.W.Frag} {e : Expr} {te : TE} {k k0 : Nat} {p0 p1 p2 p3 pos : Pos} (he : PE X e te) (hK : X.K = K := by rfl) : PE X (.Subscript e (.Slice none (some (.Constant (.int 0) k0 p0)) (some (.UnaryOp .USub (.Constant (.int 1) k p1) p2)) p3) pos) (tBack K te) := hK ▸ pe_back he
end Kt
/-! KtL: classes of places by their least ones; no Python here. -/
namespace Kt
namespace Lk
/-- what the told pairs of places and like parts bring together -/
inductive CC (rows : List (PySem.Str × List Nat)) (E : List (Nat × Nat)) : Nat → Nat → Prop
  | refl (i : Nat) : CC rows E i i
  | symm {i j : Nat} : CC rows E i j → CC rows E j i
  | trans {i j k : Nat} : CC rows E i j → CC rows E j k → CC rows E i k
  | told {i j : Nat} : (i, j) ∈ E → CC rows E i j
  | cong {i j : Nat} {h : PySem.Str} {ps qs : List Nat} : rows[i]? = some (h, ps) → rows[j]? = some (h, qs) → ps.length = qs.length → (∀ (n : Nat) (p q : Nat), ps[n]? = some p → qs[n]? = some q → CC rows E p q) → CC rows E i j
/-- the low at a place -/
def at_ (L : List Nat) (i : Nat) : Nat := L.getD i 0
/-- the lows behind it that two classes are one -/
def join (L : List Nat) (a b : Nat) : List Nat := L.map fun p => if p = max (at_ L a) (at_ L b) then min (at_ L a) (at_ L b) else p
def key (L : List Nat) (r : PySem.Str × List Nat) : PySem.Str × List Nat := (r.1, r.2.map (at_ L))
/-- each place has the least of its class -/
structure Canon (L : List Nat) : Prop where
  le : ∀ i, i < L.length → at_ L i ≤ i
  idem : ∀ i, i < L.length → at_ L (at_ L i) = at_ L i
theorem at_get {L : List Nat} {i : Nat} (h : i < L.length) : L[i]? = some (at_ L i) := by
  unfold at_
  rw [List.getD_eq_getElem?_getD, List.getElem?_eq_getElem h]
  rfl
theorem at_of {L : List Nat} {i v : Nat} (h : L[i]? = some v) : at_ L i = v := by
  unfold at_
  rw [List.getD_eq_getElem?_getD, h]
  rfl
theorem canon_range (n : Nat) : Canon (List.range n) := by
  have e : ∀ i, i < (List.range n).length → at_ (List.range n) i = i := fun i hi => at_of (by rw [List.length_range] at hi; exact List.getElem?_range hi)
  refine ⟨fun i hi => by rw [e i hi]; exact Nat.le_refl _, fun i hi => ?_⟩
  rw [e i hi, e i hi]
theorem join_len (L : List Nat) (a b : Nat) : (join L a b).length = L.length := List.length_map _
theorem join_at {L : List Nat} {a b i : Nat} (h : i < L.length) : at_ (join L a b) i = if at_ L i = max (at_ L a) (at_ L b) then min (at_ L a) (at_ L b) else at_ L i := by
  refine at_of ?_
  unfold join
  rw [List.getElem?_map, at_get h]
  rfl
theorem join_same {L : List Nat} {a b : Nat} (ha : a < L.length) (hb : b < L.length) : at_ (join L a b) a = at_ (join L a b) b := by
  rw [join_at ha, join_at hb]
  by_cases h1 : at_ L a = max (at_ L a) (at_ L b) <;> by_cases h2 : at_ L b = max (at_ L a) (at_ L b)
  · rw [if_pos h1, if_pos h2]
  · rw [if_pos h1, if_neg h2]
    omega
  · rw [if_neg h1, if_pos h2]
    omega
  · omega
/-- what was one stays one -/
theorem join_keeps {L : List Nat} {a b i j : Nat} (hi : i < L.length) (hj : j < L.length) (h : at_ L i = at_ L j) : at_ (join L a b) i = at_ (join L a b) j := by rw [join_at hi, join_at hj, h]
theorem join_canon {L : List Nat} {a b : Nat} (c : Canon L) (ha : a < L.length) (hb : b < L.length) : Canon (join L a b) := by
  have la := c.le a ha
  have lb := c.le b hb
  have ia := c.idem a ha
  have ib := c.idem b hb
  refine ⟨fun i hi => ?_, fun i hi => ?_⟩
  · rw [join_len] at hi
    rw [join_at hi]
    have := c.le i hi
    split <;> omega
  · rw [join_len] at hi
    have li := c.le i hi
    have ii := c.idem i hi
    rw [join_at hi]
    by_cases h : at_ L i = max (at_ L a) (at_ L b)
    · rw [if_pos h, join_at (by omega)]
      rcases Nat.le_total (at_ L a) (at_ L b) with z | z
      · rw [Nat.min_eq_left z, ia]
        split <;> rfl
      · rw [Nat.min_eq_right z, ib]
        split <;> rfl
    · rw [if_neg h, join_at (by omega), ii, if_neg h]
/-- the sum falls where two are joined -/
theorem join_sum {L : List Nat} {a b : Nat} : (join L a b).sum ≤ L.sum := by
  unfold join
  generalize hx : max (at_ L a) (at_ L b) = x
  generalize hy : min (at_ L a) (at_ L b) = y
  have le : y ≤ x := by omega
  clear hx hy
  induction L with
  | nil => exact Nat.le_refl _
  | cons p L ih =>
    rw [List.map_cons, List.sum_cons, List.sum_cons]
    split <;> omega
theorem join_sum_lt {L : List Nat} {a b : Nat} (c : Canon L) (ha : a < L.length) (hb : b < L.length) (ne : at_ L a ≠ at_ L b) : (join L a b).sum < L.sum := by
  unfold join
  generalize hx : max (at_ L a) (at_ L b) = x
  generalize hy : min (at_ L a) (at_ L b) = y
  have lt : y < x := by omega
  have mem : x ∈ L := by
    rcases Nat.le_total (at_ L a) (at_ L b) with z | z
    · have e : x = at_ L b := by omega
      rw [e]
      exact List.mem_of_getElem? (at_get hb)
    · have e : x = at_ L a := by omega
      rw [e]
      exact List.mem_of_getElem? (at_get ha)
  clear hx hy ne c ha hb
  induction L with
  | nil => cases mem
  | cons p L ih =>
    have all : ∀ M : List Nat, (M.map fun q => if q = x then y else q).sum ≤ M.sum := by
      intro M
      induction M with
      | nil => exact Nat.le_refl _
      | cons q M ihM =>
        rw [List.map_cons, List.sum_cons, List.sum_cons]
        split <;> omega
    have := all L
    rw [List.map_cons, List.sum_cons, List.sum_cons]
    rcases List.mem_cons.mp mem with rfl | m
    · rw [if_pos rfl]
      omega
    · have := ih m
      split <;> omega
section
variable {rows : List (PySem.Str × List Nat)} {E : List (Nat × Nat)} {L : List Nat}
/-- what has one low is together -/
def Sound (rows : List (PySem.Str × List Nat)) (E : List (Nat × Nat)) (L : List Nat) : Prop := ∀ i j, i < L.length → j < L.length → at_ L i = at_ L j → CC rows E i j
theorem Sound.rep (c : Canon L) (s : Sound rows E L) {i : Nat} (hi : i < L.length) : CC rows E i (at_ L i) := by
  have := c.le i hi
  exact s i _ hi (by omega) (c.idem i hi).symm
theorem join_sound {a b : Nat} (c : Canon L) (s : Sound rows E L) (ha : a < L.length) (hb : b < L.length) (ab : CC rows E a b) : Sound rows E (join L a b) := by
  intro i j hi hj h
  rw [join_len] at hi hj
  rw [join_at hi, join_at hj] at h
  have ra := s.rep c ha
  have rb := s.rep c hb
  have ri := s.rep c hi
  have rj := s.rep c hj
  have lows : CC rows E (max (at_ L a) (at_ L b)) (min (at_ L a) (at_ L b)) := by
    rcases Nat.le_total (at_ L a) (at_ L b) with z | z
    · rw [Nat.max_eq_right z, Nat.min_eq_left z]
      exact .trans (.symm rb) (.trans (.symm ab) ra)
    · rw [Nat.max_eq_left z, Nat.min_eq_right z]
      exact .trans (.symm ra) (.trans ab rb)
  have go : ∀ k, k < L.length → CC rows E k (if at_ L k = max (at_ L a) (at_ L b) then min (at_ L a) (at_ L b) else at_ L k) := by
    intro k hk
    split
    · rename_i e
      exact .trans (s.rep c hk) (by rw [e]; exact lows)
    · exact s.rep c hk
  have := go j hj
  rw [← h] at this
  exact .trans (go i hi) (.symm this)
/-- no two rows of one head and like parts are apart -/
def Closed (rows : List (PySem.Str × List Nat)) (L : List Nat) : Prop := ∀ (i j : Nat) (r q : PySem.Str × List Nat), rows[i]? = some r → rows[j]? = some q → key L r = key L q → at_ L i = at_ L j
structure IsLows (rows : List (PySem.Str × List Nat)) (E : List (Nat × Nat)) (L : List Nat) : Prop where
  len : L.length = rows.length
  canon : Canon L
  sound : Sound rows E L
  told : ∀ a b, (a, b) ∈ E → at_ L a = at_ L b
  closed : Closed rows L
def RowsIn (rows : List (PySem.Str × List Nat)) : Prop := ∀ (i : Nat) (r : PySem.Str × List Nat), rows[i]? = some r → ∀ p ∈ r.2, p < rows.length
theorem IsLows.full (h : IsLows rows E L) : ∀ {i j : Nat}, CC rows E i j → at_ L i = at_ L j := by
  intro i j c
  induction c with
  | refl => rfl
  | symm _ ih => exact ih.symm
  | trans _ _ ih1 ih2 => exact ih1.trans ih2
  | told m => exact h.told _ _ m
  | @cong i j hd ps qs hi hj len _ ih =>
    refine h.closed i j _ _ hi hj ?_
    unfold key
    congr 1
    refine List.ext_getElem? fun n => ?_
    rw [List.getElem?_map, List.getElem?_map]
    cases e1 : ps[n]? with
    | none =>
      have : qs[n]? = none := by
        rw [List.getElem?_eq_none_iff] at e1 ⊢
        omega
      rw [this]
    | some p =>
      have hn : n < qs.length := by
        have := (List.getElem?_eq_some_iff.mp e1).1
        omega
      have e2 : qs[n]? = some qs[n] := List.getElem?_eq_getElem hn
      rw [e2]
      exact congrArg some (ih n p _ e1 e2)
theorem IsLows.iff (h : IsLows rows E L) {i j : Nat} (hi : i < L.length) (hj : j < L.length) : at_ L i = at_ L j ↔ CC rows E i j := ⟨h.sound i j hi hj, h.full⟩
/-- the lows are told by what is together -/
theorem IsLows.one {F : List (Nat × Nat)} {M : List Nat} (h : IsLows rows E L) (g : IsLows rows F M) (same : ∀ i j, CC rows E i j ↔ CC rows F i j) : L = M := by
  have len : L.length = M.length := h.len.trans g.len.symm
  refine List.ext_getElem? fun n => ?_
  by_cases hn : n < L.length
  · have hm : n < M.length := by omega
    rw [at_get hn, at_get hm]
    have l1 := h.canon.le n hn
    have l2 := g.canon.le n hm
    have a : at_ L (at_ M n) = at_ L n := h.full ((same _ _).mpr (g.sound _ _ (by omega) hm (g.canon.idem n hm)))
    have b : at_ M (at_ L n) = at_ M n := g.full ((same _ _).mp (h.sound _ _ (by omega) hn (h.canon.idem n hn)))
    have l3 := h.canon.le (at_ M n) (by omega)
    have l4 := g.canon.le (at_ L n) (by omega)
    exact congrArg some (by omega)
  · rw [List.getElem?_eq_none_iff.mpr (by omega), List.getElem?_eq_none_iff.mpr (by omega)]
end
end Lk
end Kt
namespace Kt
open PySem PySem.Spec PyProof.Rows L2
/-! ### the law as the claim itself calls it: there nothing is being shown -/
def yes : VK := fun v _ => v = .bl true
/-- what the law's def keeps where the claim calls it -/
structure LawOk (P : Program) (w : World) (K : PySem.W.Frag) (mg : Str → Option Value) (base : Heap) (fa : Addr) (fd : FuncData) (y : Str) (sp : Sp) : Prop where
  run : ∀ (s : Shared) (H : Hp) (a : Addr), Env0 P w K mg base callerA [] s H → BindsTo s fd ⟨[.ref a], []⟩ [(y, .ref a)] → sp [.ref a] H yes E0 → codeAny (model P w) callerA (.call (.ref fa) ⟨[.ref a], []⟩) (CR CX0 [] P w H s yes E0) s
section
variable {P : Program} {w : World} {K : PySem.W.Frag} {mg : Str → Option Value} {base : Heap}
theorem LawOk.by_body {x y : Str} {st : Stmt} {fa : Addr} {fd : FuncData} {N : List Str} {sp : Sp} {k : Nat} (room : Room (k + 1) callerA) (F : Fun K x x st fa fd) (S : FnScope N [y] (defScope st))
    (body : ∀ (cdv : Value) (A : Around) (s : Shared) (H : Hp) (a : Addr), A.guards = some [] → Room k (A.deeper (envOfC x (defScope st) s.heap.objs.size fa cdv)) → sp [.ref a] H yes E0 →
      ∃ t, PSs (cxOf CX0 P w K mg base N x (defScope st) fa cdv A [] s H E0).nox (defBody st) t ∧ t { nx := fun _ H' => yes .non H', rt := yes } (start N [.ref a]) H) : LawOk P w K mg base fa fd y sp := by
  constructor
  intro sh hp a env binds told
  obtain ⟨oc, od, kV, doc, pm, an, cdv, ct, osl, rfl, there, code⟩ := F.ex
  have known : K.In sh.heap := env.mod.kin.keeps fun b o z => (env.bs b o z).1
  have free : sh.heap.NoLimit := env.mod.nolimit.keeps fun b o z => (env.bs b o z).1
  apply codeAny_call_function room.depth (known _ _ there) rfl S.co S.gen rfl (PySem.W.codeRec_of known code)
  apply binds
  refine wpAny_newFunctionEnv_cells S.kind ?kinds ?_
  case kinds =>
    intro z hz
    rw [List.mem_singleton.mp hz]
    rcases S.par y (List.mem_singleton.mpr rfl) with q | q
    · exact Or.inl q
    · exact Or.inr ⟨q, PySem.W.cellsFrom_some _ _ _ (Or.inl q)⟩
  rintro _ rfl sh1 entered
  refine ⟨free.keeps entered.toInCall.keep, codeAny_func ?_⟩
  obtain ⟨t, reads, q⟩ := body cdv callerA sh hp a rfl (room.deeper _) told
  have inv := inv_start (CX := CX0) (E := E0) S room.hd env (ps := [y]) (N := N) (by rfl) (us := [.ref a]) (vs := [.ref a]) (show Vals [V.ref a] [Value.ref a] from .cons rfl .nil) entered
  apply wpAny_mono (reads.nox.run [] sh1 (start N [.ref a]) hp _ inv q)
  · intro flow sh2 ended
    match flow, ended with
    | .ret u, ⟨v, _, hp2, inv2, rel, q2⟩ => exact ⟨v, hp2, inv2.os, inv2.bare, inv2.base, inv2.hok, rel, q2⟩
    | .next, ⟨_, hp2, inv2, q2⟩ => exact ⟨.non, hp2, inv2.os, inv2.bare, inv2.base, inv2.hok, rfl, q2⟩
    | .brk, ⟨_, _, _, no⟩ => exact no.elim
    | .cont, ⟨_, _, _, no⟩ => exact no.elim
  · exact fun _ _ z => z
/-- the claim's call, behind the top -/
theorem claim_call {mb : Str → Option Value} {fa a : Addr} {fd : FuncData} {y : Str} {sp : Sp} {sh : Shared} {vs : List Value} {ns : List Int} (known : K.In sh.heap) (main : sh.heap.Ns mainGlobals mg) (blt : sh.heap.Ns builtinsNs mb)
    (boot : ∀ z : Str, z ≠ "__name__" → mb z = bootBuiltins z) (free : sh.heap.NoLimit) (gens : sh.gens = #[]) (script : sh.heap.get? a = some { cls := .type "list", data := .seq vs.toArray }) (nums : IntsAre vs ns) (few : ns.length ≤ sizeLine)
    (ok : ∀ base : Heap, K.In base → base.Ns mainGlobals mg → LawOk P w K mg base fa fd y sp) (binds : ∀ (s : Shared) (u : Value), BindsTo s fd ⟨[u], []⟩ [(y, u)]) (told : ∀ H : Hp, SqL K H a (ns.map V.int) → sp [.ref a] H yes E0) :
    codeAny (model P w) callerA (.call (.ref fa) ⟨[.ref a], []⟩) (fun r s' => r = .ok (.ret (.bool true)) ∧ OldK sh.heap s'.heap ∧ s'.os = sh.os ∧ AllBare s'.gens) sh := by
  have numbers := vals_ints nums
  have many := nums.length
  obtain ⟨scr, hscr⟩ : ∃ scr : Obj, scr = { cls := .type "list", data := .seq vs.toArray } := ⟨_, rfl⟩
  rw [← hscr] at script
  have go : ∀ hp : Hp, (∀ b u, hp b = some u → b = a ∧ K.lookup a = none ∧ u = .frz scr (.lst (ns.map V.int))) → SqL K hp a (ns.map V.int) → HOk P w hp sh.heap →
      codeAny (model P w) callerA (.call (.ref fa) ⟨[.ref a], []⟩) (fun r s' => r = .ok (.ret (.bool true)) ∧ OldK sh.heap s'.heap ∧ s'.os = sh.os ∧ AllBare s'.gens) sh := by
    intro hp alone seq good
    have apart : ∀ {b : Addr} {o : Obj}, sh.heap.get? b = some o → o ≠ scr → hp b = none := by
      intro b o there other
      match t : hp b with
      | none => rfl
      | some u =>
        obtain ⟨z, _, _⟩ := alone b u t
        rw [z, script] at there
        exact absurd (Option.some.inj there).symm other
    have space : ∀ {b : Addr} {m : Str → Option Value}, sh.heap.Ns b m → (hidT sh.heap hp).Ns b m := by
      rintro b m ⟨o, es, ep, there, dict, more⟩
      refine ⟨o, es, ep, hidT_get there (apart there fun z => ?_), dict, more⟩
      rw [z, hscr] at dict
      cases dict
    have part : K.In (hidT sh.heap hp) := by
      intro b o t
      refine hidT_get (known b o t) ?_
      match e : hp b with
      | none => rfl
      | some u =>
        obtain ⟨z, none_, _⟩ := alone b u e
        rw [z, none_] at t
        cases t
    obtain ⟨mc, limit1, limit2⟩ := free
    have mod : Mod K mg (hidT sh.heap hp) := ⟨part, space main, ⟨mb, space blt, boot⟩, ⟨mc, space limit1, limit2⟩⟩
    have env : Env0 P w K mg (hidT sh.heap hp) callerA [] sh hp := by
      refine ⟨rfl, mod, fun b o z => of_hidT z, Nat.le_of_eq (hidT_size _ _), trivial, ?_, good, .of_eq gens⟩
      intro b z
      cases z
    apply codeAny_mono ((ok _ part (space main)).run sh hp a env (binds sh _) (told hp seq))
    intro out sh2 ended
    match out, ended with
    | .error _, no => exact no.elim
    | .ok .next, no => exact no.elim
    | .ok .brk, no => exact no.elim
    | .ok .cont, no => exact no.elim
    | .ok (.ret u), ⟨v, hp2, os, bare, un, good2, rel, q⟩ =>
      have q : v = .bl true := q
      subst q
      have rel : u = Value.bool true := rel
      refine ⟨by rw [rel], OldK.of_keep ?_, os, bare⟩
      intro b o there
      match t : hp b with
      | none => exact un.keep b o there t (fun z => by cases z) (fun z => by cases z)
      | some u =>
        obtain ⟨_, _, z⟩ := alone b u t
        subst z
        have first := (good b _ t).1
        rw [there] at first
        rw [Option.some.inj first]
        exact (good2 b _ (un.frzs b scr _ t)).1
  by_cases own : K.lookup a = none
  · refine go (fun b => if b = a then some (.frz scr (.lst (ns.map V.int))) else none) ?_ (.inl (.inr ⟨scr, if_pos rfl⟩)) ?_
    · intro b u t
      by_cases z : b = a
      · rw [if_pos z] at t
        exact ⟨z, own, (Option.some.inj t).symm⟩
      · rw [if_neg z] at t
        cases t
    · intro b u t
      dsimp only at t
      by_cases z : b = a
      · rw [if_pos z] at t
        obtain rfl := Option.some.inj t
        subst z
        refine ⟨script, by rw [List.length_map]; exact few, vs, 0, numbers, ?_⟩
        rw [script, hscr]

      · rw [if_neg z] at t
        cases t
  · obtain ⟨o, t⟩ : ∃ o, K.lookup a = some o := by
      match e : K.lookup a with
      | none => exact absurd e own
      | some o => exact ⟨o, rfl⟩
    have same := known a o t
    rw [script] at same
    obtain rfl := Option.some.inj same
    subst hscr
    exact go (fun _ => none) (fun b u z => by cases z) (.inr ⟨_, vs.toArray, _, t, rfl, rfl, rfl, by rw [List.size_toArray, many]; exact few, numbers⟩) (fun b u z => by cases z)
end
/-- the end of a law's row -/
theorem walk_claim {l : PySem.W.OpenLaw} {n : Nat} {q : Program} {loose : List Str} {XP : (Str → Option Value) → Heap → Prop} {YP : World → Heap → Prop} {d : DefRec} {K : Params → PySem.W.Frag} {sp : World → Sp} {y : Str}
    (most : l.most = some n) (few : n ≤ sizeLine) (nodef : d.params.defaults = []) (part : ∀ (w : World) (h : Heap), YP w h → (K w.params).In h)
    (F : ∀ (w : World) (mg : Str → Option Value) (fa : Addr) (h : Heap), (K w.params).In h → h.Ns mainGlobals mg → mg d.name = some (.ref fa) →
      ∃ fd : FuncData, (∀ (s : Shared) (u : Value), BindsTo s fd ⟨[u], []⟩ [(y, u)]) ∧ ∀ base : Heap, (K w.params).In base → base.Ns mainGlobals mg → LawOk l.prog w (K w.params) mg base fa fd y (sp w))
    (told : ∀ (w : World) (H : Hp) (a : Addr) (ns : List Int), ns.length ≤ n → SqL (K w.params) H a (ns.map V.int) → sp w [.ref a] H yes E0) :
    PySem.W.WalkO q loose XP YP l.row.toRowW d [] (fun f vs => PySem.call f vs) := by
  apply Att.attach_call most nodef
  intro w s0 sh mg mb fa o pm cd doc a vs ns G Y ho hd hcd at_ script nums len gens
  have known := part w _ Y
  obtain ⟨fd, binds, ok⟩ := F w mg fa _ known G.T.g at_
  exact claim_call known G.T.g G.T.b G.T.builtins G.T.nolimit gens script nums (Nat.le_trans len few) ok binds fun H seq => told w H a ns len seq
/-! ### repr of a list or a tuple of data -/
def rShow (K : PySem.W.Frag) : List V → Hp → VK → Prop := fun xs H Q => ∃ (a : Addr) (d : PyData), xs = [.ref a] ∧ Dp K H (.ref a) d ∧ d.showable = true ∧ d.depth ≤ 100 ∧ d.hasDict = false ∧ d.shown.length ≤ sizeLine ∧ Q (.str d.shown) H
theorem call_show {X : Cx} (none_ : X.A.guards = some []) (room : X.A.units + 101 < cLine) : CallR X (.builtin "repr") (rShow X.K) := by
  intro pins s σ H xs us Q inv rel told
  obtain ⟨a, d, rfl, dat, can, deep, nodict, fits, q⟩ := told
  obtain ⟨u, rfl, r⟩ := vals1 rel
  obtain rfl : u = .ref a := r
  obtain ⟨as, reads⟩ := Dp.reads inv d (.ref a) (.ref a) dat rfl
  exact repr_of_reads' reads can (PyData.noDict_hsm nodict) none_ (by omega) (fun _ _ z => z) (fun h' t tk keeps => ⟨.str d.shown, H, inv.kept keeps, ⟨t, rfl⟩, q⟩) fits
theorem room101 {k : Nat} {A : Around} (r : Room k A) : A.units + 101 < cLine := by
  have := r.un
  omega
end Kt
namespace Kt
open PySem PySem.Spec PyProof.Rows L2
/-! ### dicts compared whose values are the same ones -/
def plainV (v : V) : Prop := flatB v = true ∨ ∃ a, v = .ref a
theorem eqAt_plain {A : Around} {s : Shared} {v : V} {u u' : Value} (r : RelV v u) (r' : RelV v u') (f : plainV v) : SeqAt.EqAt A s u u' true := by
  rcases f with f | ⟨a, rfl⟩
  · exact eqAt_same r r' f
  · obtain rfl : u = Value.ref a := r
    obtain rfl : u' = Value.ref a := r'
    exact SeqAt.EqAt.same _
theorem hits_plain {A : Around} {s : Shared} {ls : List (Key × V)} {vb : List (Key × Value)} (there : KV ls vb) : ∀ {ks : List (Key × V)} {va : List (Key × Value)}, KV ks va → (∀ p ∈ ks, valV ls p.1 = some p.2 ∧ plainV p.2) → PySem.W.KeqHits A s vb va true
  | _, _, .nil, _ => .nil
  | (k, x) :: ks, (k', v) :: va, .cons h more, all => by
    obtain ⟨e, f⟩ := all (k, x) (List.mem_cons_self ..)
    obtain ⟨y, hy, ry⟩ := RelO.some_of (v := x) (o := valueAt vb k) (by have := there.val k; rw [e] at this; exact this)
    have ek : k = k' := h.1
    subst ek
    have := PySem.W.KeqHits.hit hy (eqAt_plain (A := A) (s := s) h.2 ry f) (hits_plain there more fun p hp => all p (List.mem_cons_of_mem _ hp))
    rw [Bool.and_self] at this
    exact this
def rNeDk : R2 := fun x y H Q => ∃ (a b : Addr) (ks ls : List (Key × V)), x = .ref a ∧ y = .ref b ∧ H a = some (.dK ks) ∧ H b = some (.dK ls) ∧ (ks.length = ls.length → ∀ p ∈ ks, valV ls p.1 = some p.2 ∧ plainV p.2) ∧ Q (.bl (!decide (ks.length = ls.length))) H
theorem op_neDk {X : Cx} (room : X.A.units < cLine) : OpR X (compareOp .NotEq) rNeDk := by
  intro pins s σ H x y v u Q inv rx ry told
  obtain ⟨a, b, ks, ls, rfl, rfl, ea, eb, all, q⟩ := told
  obtain rfl : v = Value.ref a := rx
  obtain rfl : u = Value.ref b := ry
  obtain ⟨_, ya, va, ra, da⟩ := (show ObjOk X.prog X.w H s.heap a (.dK ks) from inv.hok a _ ea)
  obtain ⟨_, yb, vb, rb, db⟩ := (show ObjOk X.prog X.w H s.heap b (.dK ls) from inv.hok b _ eb)
  have la := ra.length
  have lb := rb.length
  refine PySem.W.keq_ne (knd := mixKind X.prog X.w) (r := true) ya yb da db room (fun e => hits_plain rb ra (all (by omega))) (fin_bl inv q ?_)
  rw [Bool.and_true, la, lb]
  by_cases e : va.length = vb.length
  · rw [decide_eq_true e, beq_iff_eq.mpr e]
  · rw [decide_eq_false e, beq_eq_false_iff_ne.mpr e]
/-! ### f(b = .., a = ..) of a def that may raise -/
structure ClSX (P : Program) (w : World) (K : PySem.W.Frag) (mg : Str → Option Value) (base : Heap) (k : Nat) (x a b : Str) (sp : Sp) : Prop where
  ex : ∃ (f : Addr) (fd : FuncData), FnOk P w K mg base (L2.CX P w) k f fd [a, b] sp ∧ mg x = some (.ref f) ∧ PySem.W.keepIn K (.ref f) = true ∧ ∀ (s : Shared) (u v : Value), BindsTo s fd ⟨[], [(b, v), (a, u)]⟩ [(a, u), (b, v)]
def tCKx (sp : Sp) (E : L2.St → XK) (tk : TA) : TE := fun σ H Q => tk σ H fun zs H2 => ∃ v u, zs = [v, u] ∧ sp [u, v] H2 Q (E σ)
theorem pe_clSwX {X : Cx} {k j : Nat} {x a b : Str} {sp : Sp} {p pos : Pos} {kws : List Keyword} {tk : TA} {E : L2.St → XK} (cl : ClSX X.prog X.w X.K X.mg X.base k x a b sp) (hr : Room j X.A) (hk : k ≤ j) (hg : Gl X x) (hx : ∀ σ, PassesAt (L2.CX X.prog X.w) X σ (E σ)) (hkw : PK X kws tk)
    (named : (backToKw pos (keywordEach kws X.env)).all (·.1.isSome) = true := by rfl) (names : (backToKw pos (keywordEach kws X.env)).filterMap (·.1) = [b, a] := by rfl) (nodb : (x == ("__debug__" : Str)) = false := by decide)
    (plain : ((backTo pos (starEach [] X.env)).any (·.1) || (backToKw pos (keywordEach kws X.env)).any (·.1.isNone)) = false := by rfl) : PE X (.Call (.Name x p) [] kws pos) (tCKx sp E tk) := by
  obtain ⟨f, fd, ok, at_, kp, binds⟩ := cl.ex
  constructor
  intro pins s σ H Q inv told
  apply wpAny_Call_Name_kw (ld_glob inv hg at_ ?_ nodb)
  apply PySem.W.callWith_KW0 (h₀ := X.base) inv.ok.mod.kin kp named ?_ plain
  refine thn (hkw.run pos pins s σ H _ inv told) fun ws s2 ⟨zs, H2, inv2, rel, v, u, e, q2⟩ => ⟨inv2.kIn, ?_⟩
  subst e
  rw [names]
  obtain ⟨wv, wu, rfl, rv, ru⟩ := vals2 rel
  refine wpAny_call (codeAny_mono (ok.run X.A X.stack s2 H2 ⟨[], [(b, wv), (a, wu)]⟩ [wu, wv] [u, v] Q (E σ) (hr.mono hk) inv2.env0 (binds s2 wu wv) (.cons ru (.cons rv .nil)) q2) fun out s' done => ?_)
  match out, done with
  | .error e, done => exact hx σ pins H2 s2 e s' inv2 done
  | .ok (.ret _), done => exact inv2.after done
  | .ok .next, done => exact done.elim
  | .ok .brk, done => exact done.elim
  | .ok .cont, done => exact done.elim
end Kt
namespace Kt
open PySem PySem.Spec PyProof.Rows L2
/-! ### enumerate(a text) -/
/-- its signs by number, each in a pair of its own -/
def Itse (x : Str) : It :=
  ⟨fun i _ => i < x.cps.size, fun i H v H' => ∃ T c, v = .ref T ∧ H T = none ∧ H' = upd H T (.tup [.int (i : Nat), .str ⟨#[c]⟩]) ∧ x.cps[i]? = some c, fun i _ => x.cps.size ≤ i⟩
def EnS (x : Str) (t : Tok) (ty : String) (e it : Addr) (i : Nat) (h : Heap) : Prop := (∃ old, IsEnum h e it ((i : Nat) : Int) old) ∧ h.IsStrIter it ty x t i ∧ e ≠ it ∧ i ≤ x.cps.size
theorem turn_enumS {P : Program} {w : World} {K : PySem.W.Frag} {elts : List Expr} {kk : Nat} {tpos : Pos} {x : Str} {t : Tok} {ty : String} {e it : Addr}
    (D : ∀ A : Around, A.handled = none → Draws P w A it [it] x.cps.size (fun i v => ∃ c u, x.cps[i]? = some c ∧ v = .str ⟨#[c]⟩ u) (fun i h => h.IsStrIter it ty x t i)) :
    Turn P w K (.Tuple elts kk tpos) (Itse x) [e, it] e (EnS x t ty e it) := by
  have two : ∀ {b : Addr}, b ∈ [e, it] → b = e ∨ b = it := fun {b} h => by simpa using h
  refine ⟨by simp, fun i h st b hb => ?_, fun i h h' st k => ?_, ?_, ?_, fun A i s Q E st h => ?_⟩
  · obtain ⟨⟨old, he⟩, ⟨o, ho, r⟩, _⟩ := st
    rcases two hb with rfl | rfl
    · exact ⟨_, he, fun v q => nomatch q⟩
    · refine ⟨o, ho, fun v q => ?_⟩
      rw [r.2] at q
      cases q
  · obtain ⟨⟨old, he⟩, hi, hne, hle⟩ := st
    obtain ⟨o, ho, r⟩ := hi
    exact ⟨⟨old, k e (by simp) _ he⟩, ⟨o, k it (by simp) o ho, r⟩, hne, hle⟩
  · intro X hP hw hK hc i pins s σ H E I hf st hg
    subst hP hw hK
    obtain ⟨⟨old, he⟩, hit, hne, hle⟩ := st
    have lt : i < x.cps.size := hg
    have el : e < s.heap.objs.size := Heap.lt_size he
    have il : it < s.heap.objs.size := by
      obtain ⟨_, q, _⟩ := hit
      exact Heap.lt_size q
    refine wpAny_pyNext_enum_itemD (D X.A.in1 (I.ok.hd hc)) he hit lt hne (fun q => hne (List.mem_singleton.mp q)) fun u h' tk pu he' hit' hT hsz hk => ?_
    obtain ⟨c, tu, hcx, rfl⟩ := pu
    refine ⟨_, rfl, wpAny_letOwnedTupleGo_enum (s := { s with heap := h', toks := tk + 1 }) he' fun h2 he2 sb => ?_⟩
    have hT2 : h2.get? s.heap.objs.size = some { cls := .type "tuple", data := .seq #[.int i tk, .str ⟨#[c]⟩ tu] } := (sb.2 _ (Nat.ne_of_gt el)).trans hT
    have made : ObjOk X.prog X.w (upd H s.heap.objs.size (.tup [.int (i : Nat), .str ⟨#[c]⟩])) h2 s.heap.objs.size (.tup [.int (i : Nat), .str ⟨#[c]⟩]) :=
      ⟨by show 2 ≤ sizeLine; decide, [.int i tk, .str ⟨#[c]⟩ tu], .cons ⟨_, rfl⟩ (.cons ⟨_, rfl⟩ .nil), ⟨_, hT2, rfl, _, rfl⟩⟩
    have I2 : Inv X pins σ (upd H s.heap.objs.size (.tup [.int (i : Nat), .str ⟨#[c]⟩])) { s with heap := h2, toks := tk + 1 } :=
      I.turnedNew (ch := [e, it]) (fun b ob hb q => (sb.2 b (fun z => hb (by rw [z]; simp))).trans (hk b ob (fun z => hb (by rw [z]; simp)) (fun z => hb (by rw [z]; simp)) q)) hf (Nat.le_refl _) made
    refine ⟨.ref s.heap.objs.size, _, I2, rfl, ⟨_, c, rfl, I.hok.fresh (Nat.le_refl _), rfl, hcx⟩, ⟨⟨_, he2⟩, ?_, hne, lt⟩, fun b hb => ?_⟩
    · obtain ⟨o, ho, r⟩ := hit'
      exact ⟨o, (sb.2 it hne.symm).trans ho, r⟩
    · have lb : b < s.heap.objs.size := by
        rcases two hb with rfl | rfl
        · exact el
        · exact il
      rw [upd_ne (Nat.ne_of_lt lb)]
      exact (hf b hb).1
  · intro X hP hw hK hc i pins s σ H E I hf st hg
    subst hP hw hK
    obtain ⟨⟨old, he⟩, hit, hne, hle⟩ := st
    have ei : i = x.cps.size := Nat.le_antisymm hle hg
    subst ei
    obtain ⟨f0, f1, f2, f3, f4, f5⟩ := hf it (by simp)
    exact wpAny_pyNext_enum_endD (D X.A.in1 (I.ok.hd hc)) he hit fun h' eb => ⟨rfl, I.turned (t' := s.toks) (fun b o hb q => eb b o hb q) f0 f1 f3 f4 f5⟩
  · obtain ⟨⟨_, he⟩, _⟩ := st
    exact wpAny_pyIter_enum he h
def iEnumS (ta : TA) : TI := fun σ H R => ta σ H fun vs H1 => ∃ x, vs = [.str x] ∧ R (Itse x) H1
theorem pi_enumS {X : Cx} {e : Expr} {ta : TA} {p pos tpos : Pos} {elts : List Expr} {kk : Nat} (hg : Gl X "enumerate") (hm : X.mg "enumerate" = none) (ha : PA X [e] ta) (hs : starEach [e] X.env = [(false, eval e X.env)] := by rfl) :
    PI X (.Tuple elts kk tpos) (.Call (.Name "enumerate" p) [e] [] pos) (iEnumS ta) := by
  constructor
  intro pins s σ H R I told
  refine Call_ (ld_blt I hg hm boot_enumerate (PyProof.Rows.callWith_type1 (thn (ha.run pos pins s σ H _ I told) fun us s1 ⟨vs, H1, I1, r1, x, ex, q⟩ => ?_) hs rfl))
  subst ex
  obtain ⟨u, rfl, t, rfl⟩ := vals1 r1
  refine call_enumerate_str fun h' he hit hsz hk => wpAny_pyIter_enum he ?_
  have I2 : Inv X pins σ H1 { s1 with heap := h' } := I1.kept (t' := s1.toks) hk
  have fine : ∀ b ∈ [s1.heap.objs.size + 1, s1.heap.objs.size], FpOk X pins H1 b := fun b hb => by
    have : b = s1.heap.objs.size + 1 ∨ b = s1.heap.objs.size := by simpa using hb
    have le : s1.heap.objs.size ≤ b := by omega
    exact I1.fpOk le (I1.hok.fresh le)
  have st : EnS x t (strIterType x) (s1.heap.objs.size + 1) s1.heap.objs.size 0 h' := ⟨⟨.none, he⟩, hit, Nat.succ_ne_self _, Nat.zero_le _⟩
  refine ⟨s1.heap.objs.size + 1, [s1.heap.objs.size + 1, s1.heap.objs.size], _, Itse x, H1, rfl, I2, turn_enumS (ty := strIterType x) (t := t) fun A hh => ?_, st, fine, q⟩
  unfold strIterType
  by_cases low : x.cps.all (· < 128) = true
  · rw [if_pos low]
    exact Draws.strAscii hh _ x t
  · rw [if_neg low]
    exact Draws.strWide hh _ x t
theorem walk_enumS {x : Str} : Walk (Itse x) x.cps.size (fun _ => True) (fun i H v H' => ∃ T c, v = .ref T ∧ H T = none ∧ H' = upd H T (.tup [.int (i : Nat), .str ⟨#[c]⟩]) ∧ x.cps[i]? = some c) :=
  ⟨fun _ _ hi _ => hi, fun _ _ => Nat.le_refl _, fun _ _ _ _ _ _ y => y⟩
/-! ### isinstance(e, (c1, c2)) of a kept error that has a field -/
def rIsKdT (K : PySem.W.Frag) : List V → Hp → VK → Prop := fun args H Q => ∃ (a D dd p : Addr) (fs : List (Str × V)) (c1 c2 : Addr) (b : Bool), args = [.ref a, .ref p] ∧ ExcC K D ∧ H a = some (ExK (.ref D) (some dd) a) ∧ H dd = some (.xd fs) ∧ H p = some (.tup [.ref c1, .ref c2]) ∧ PySem.W.kitAny K (.ref D) [.ref c1, .ref c2] = some b ∧ Q (.bl b) H
theorem call_isKdT {X : Cx} : CallR X (.builtin "isinstance") (rIsKdT X.K) := by
  intro pl sh st hp args vals Q inv rel told
  obtain ⟨a, D, dd, p, fs, c1, c2, b, rfl, fit, kept, dict, pair, is_, q⟩ := told
  obtain ⟨a2, p2, rfl, ra, rp⟩ := vals2 rel
  obtain rfl : a2 = Value.ref a := ra
  obtain rfl : p2 = Value.ref p := rp
  obtain ⟨⟨_, _, dat, _⟩, fl, there, ⟨isD, hasDict⟩, flds⟩ := (inv.hok a _ kept).1
  dsimp only at isD hasDict flds
  subst isD hasDict flds
  obtain ⟨mA, ⟨od, es, ep, ho, _⟩, _⟩ := (show ObjOk X.prog X.w hp sh.heap dd (.xd fs) from inv.hok dd _ dict)
  obtain ⟨its, rv, ⟨⟨cls, ddx, data, sl⟩, hto, hc, n, hd⟩, _⟩ := inv.tuple (SqT.of pair)
  dsimp only at hc hd
  subst hc hd
  obtain ⟨x1, x2, rfl, r1, r2⟩ := vals2 rv
  obtain rfl : x1 = Value.ref c1 := r1
  obtain rfl : x2 = Value.ref c2 := r2
  have known : (PySem.W.clsIn X.K D).isSome = true := by
    have := fit.hm
    unfold PySem.W.mroIn at this
    match z : PySem.W.clsIn X.K D with
    | some _ => rfl
    | none =>
      rw [z] at this
      cases this
  refine PySem.W.kia_tup (PySem.W.kitx_exc (od := some od) known fit.hg fit.hk fit.hs fit.ha fit.hn fit.ht fit.hm) inv.kIn ⟨there, rfl, rfl, ho⟩ hto is_ (fun z => by cases z) fun toks => ?_
  exact ⟨.bl b, hp, inv.kept (t' := toks) fun _ _ g => g, rfl, q⟩
theorem kit_none2 {K : PySem.W.Frag} {t u1 u2 : Value} (h1 : PySem.W.kitOne K t u1 = some false) (h2 : PySem.W.kitOne K t u2 = some false) : PySem.W.kitAny K t [u1, u2] = some false := by
  unfold PySem.W.kitAny
  rw [h1]
  unfold PySem.W.kitAny
  rw [h2]
  rfl
end Kt
/-! KtW6: len(x) of an own class; x != y of lists in which dicts by numbers may stand, where all is the same. -/
namespace Kt
open PySem PySem.Spec PyProof.Rows L2
/-! ### len(x), by the class's own def -/
def rLenO (C : Addr) (sp : Sp) : List V → Hp → VK → Prop := fun xs H Q => ∃ (a dx : Addr) (fs : List (Str × V)), xs = [.ref a] ∧ H a = some (.ins C dx fs) ∧ sp [.ref a] H (fun v H' => ∃ n : Nat, v = .int n ∧ n ≤ 100000 ∧ Q (.int n) H') E0
theorem call_lenO {X : Cx} {k j : Nat} {C : Addr} {ps : List Str} {sp : Sp} (d : ClM X.prog X.w X.K X.mg X.base CX0 k C "__len__" ps sp) (hr : Room j X.A) (hk : k + 1 ≤ j) : CallR X (.builtin "len") (rLenO C sp) := by
  intro pins s σ H xs us Q I r told
  obtain ⟨a, dx, fs, rfl, ha, told⟩ := told
  obtain ⟨u, rfl, ru⟩ := vals1 r
  obtain rfl : u = Value.ref a := ru
  obtain ⟨f, fd, F, mm, b⟩ := d.ex
  obtain ⟨mA, J, _⟩ := ins_get I.hok ha
  obtain ⟨od, J, _⟩ := J.look
  obtain ⟨m, hF⟩ := I.fr
  have e := I.env0
  have e0 : Env0 X.prog X.w X.K X.mg X.base X.A.in1 X.stack s H := ⟨e.frames, e.mod, e.bs, e.bsz, e.funs, e.frf, e.hok, e.bare⟩
  have hl := F.len _ _ _ _ told
  refine PySem.W.len_K hF I.ok.mod.kin J mm.at_ mm.fn (wpAny_call (codeAny_mono (F.run X.A.in1 X.stack s H ⟨[.ref a], []⟩ [.ref a] [.ref a] _ E0 (hr.mono hk).in1 e0 (by
    have := b s [.ref a] I.kIn (by simpa using hl)
    simpa using this) (.cons rfl .nil) told) fun r s' hq => ?_))
  cases r with
  | error v => exact pass0 pins σ H s v s' I hq
  | ok fl =>
    cases fl with
    | ret v =>
      obtain ⟨z, H', I', rz, n, ez, few, q⟩ := I.after hq
      subst ez
      obtain ⟨t, rfl⟩ := rz
      exact ⟨⟨by omega, by omega⟩, .int n, H', I'.tok _, ⟨_, rfl⟩, q⟩
    | next => exact False.elim hq
    | brk => exact False.elim hq
    | cont => exact False.elim hq
/-! ### x != y, lists whose items are the same -/
section
open PySem.SeqAt AutoSeq1 MeetsSeq MeetsSeq2 MeetsSeq3 SeqRoads2
variable {prog : Program} {w : World}
theorem ne_goes (p q : Addr) (us vs : Array Value) (c c' : Nat) (len : us.size = vs.size) (k : Nat) : ∀ i : Nat, us.size - i = k → MeetsIn prog w (Builtin.«list.__eq__.loop» ⟨[.ref p, .ref q, rawInt i, rawInt 3], []⟩) (fun A R s =>
      s.heap.get? p = some { cls := .type "list", data := .seq us c } ∧ s.heap.get? q = some { cls := .type "list", data := .seq vs c' } ∧ (∀ j (g1 : j < us.size) (g2 : j < vs.size), EqIn prog w A.in1 s us[j] vs[j] true) ∧ R (.ok (.ret (.bool false))) s) := by
  induction k with
  | zero =>
    intro i hk A R s told
    obtain ⟨hp, g, d, tk, os⟩ := s; obtain ⟨hl, hb, all, told⟩ := told
    wp_walk using wpAny_loadPart' hl, wpAny_loadPart' hb
    have out1 : us[((i : Nat) : Int).toNat]? = none := by simp; omega
    have out2 : vs[((i : Nat) : Int).toNat]? = none := by simp; omega
    rw [out1, out2]
    wp_walk using wpAny_loadPart' hl, wpAny_loadPart' hb
    show R (.ok (.ret (.bool (us.size != vs.size)))) _
    rw [len, bne_self_eq_false]
    exact told
  | succ k ih =>
    intro i hk A R s told
    obtain ⟨hp, g, d, tk, os⟩ := s; obtain ⟨hl, hb, all, told⟩ := told
    wp_walk using wpAny_loadPart' hl, wpAny_loadPart' hb
    have lt1 : i < us.size := by omega
    have lt2 : i < vs.size := by omega
    have in1 : us[((i : Nat) : Int).toNat]? = some us[i] := by simp [lt1]
    have in2 : vs[((i : Nat) : Int).toNat]? = some vs[i] := by simp [lt2]
    have up : ((i : Int) + 1) = ((i + 1 : Nat) : Int) := by omega
    rw [in1, in2]
    refine wpAny_bind (all i lt1 lt2 _ _ ?_)
    wp_walk
    rw [up]
    refine ⟨plainId_quiet plain_eq_loop _, codeAny_builtin entry_eq_loop ?_⟩
    rw [Around.under_plainId plain_eq_loop _]
    exact ih (i + 1) (by omega) A R _ ⟨hl, hb, all, told⟩
theorem ne_meets (p q : Addr) (us vs : Array Value) (c c' : Nat) (len : us.size = vs.size) : MeetsIn prog w (Builtin.«list.__ne__» ⟨[.ref p, .ref q], []⟩) (fun A R s =>
      s.heap.get? p = some { cls := .type "list", data := .seq us c } ∧ s.heap.get? q = some { cls := .type "list", data := .seq vs c' } ∧ (∀ j (g1 : j < us.size) (g2 : j < vs.size), EqIn prog w A.in1 s us[j] vs[j] true) ∧ R (.ok (.ret (.bool false))) s) := by
  intro A R s told
  obtain ⟨hp, g, d, tk, os⟩ := s; obtain ⟨hl, hb, all, told⟩ := told
  have sub := AutoSeq1.sub_list_list
  have nd : ¬ (us.size != vs.size) = true := by simp [len]
  wp_walk using wpAny_loadPart' hl, wpAny_loadPart' hb
  refine ⟨plainId_quiet plain_eq_loop _, codeAny_builtin entry_eq_loop ?_⟩
  rw [Around.under_plainId plain_eq_loop _]
  exact ne_goes p q us vs c c' len _ 0 rfl A R _ ⟨hl, hb, all, told⟩
theorem ne_run {A : Around} {E : Value → Shared → Prop} {s : Shared} {p q : Addr} {us vs : Array Value} {c c' : Nat} {Q : Value → Shared → Prop} (len : us.size = vs.size) (hl : s.heap.get? p = some { cls := .type "list", data := .seq us c }) (hb : s.heap.get? q = some { cls := .type "list", data := .seq vs c' }) (room : A.units < cLine)
    (all : ∀ j (g1 : j < us.size) (g2 : j < vs.size), EqIn prog w A.in1 s us[j] vs[j] true) (told : Q (.bool false) s) : wpAny (model prog w) A (richCompare .NotEq (.ref p) (.ref q)) Q E s :=
  wpAny_richCompare_same_room (T := "list") (op := .NotEq) ⟨_, hl, rfl⟩ ⟨_, hb, rfl⟩ F.slot_list_ne (call_meetsIn F.slot_list_ne ⟨_, hl, rfl⟩ F.entry_list_ne (F.args_list_ne_2 _ _) (ne_meets p q us vs c c' len)
    ⟨hl, hb, all, show Value.bool false ≠ Value.notImplemented ∧ Q (.bool false) s from ⟨(fun x => nomatch x), told⟩⟩) room
end
/-- two values that hold the same: data, or dicts by numbers of such -/
def SmD (K : PySem.W.Frag) (H : Hp) (x y : V) : Prop :=
  (∃ d, Dp K H x d ∧ Dp K H y d ∧ SeqAt.shaped d = true) ∨
  ∃ (a b : Addr) (ks ls : List (Key × V)), x = .ref a ∧ y = .ref b ∧ H a = some (.dK ks) ∧ H b = some (.dK ls) ∧ ks.length = ls.length ∧ ∀ kv ∈ ks, ∃ v d, valV ls kv.1 = some v ∧ Dp K H kv.2 d ∧ Dp K H v d ∧ SeqAt.shaped d = true
section
open PySem.SeqAt
variable {X : Cx} {pins : List (Addr × Obj)} {σ : L2.St} {H : Hp} {s : Shared}
theorem eq_dat (I : Inv X pins σ H s) {x y : V} {u v : Value} {d : PyData} (rx : RelV x u) (ry : RelV y v) (hx : Dp X.K H x d) (hy : Dp X.K H y d) (sd : SeqAt.shaped d = true) {A : Around} (room : A.units + 64 < cLine) : EqAt A s u v true := by
  obtain ⟨as, r1⟩ := Dp.reads I d x u hx rx
  obtain ⟨bs, r2⟩ := Dp.reads I d y v hy ry
  unfold SeqAt.shaped at sd
  rw [Bool.and_eq_true, decide_eq_true_eq] at sd
  have := eqAt_reads d d A s u v as bs r1 r2 sd.1 sd.1 (by omega)
  rw [eqv_refl d sd.1] at this
  exact this
theorem hits_dat (I : Inv X pins σ H s) {A : Around} (room : A.units + 64 < cLine) {ls : List (Key × V)} {vb : List (Key × Value)} (there : KV ls vb) : ∀ {ks : List (Key × V)} {va : List (Key × Value)}, KV ks va → (∀ kv ∈ ks, ∃ v d, valV ls kv.1 = some v ∧ Dp X.K H kv.2 d ∧ Dp X.K H v d ∧ SeqAt.shaped d = true) → PySem.W.KeqHitsIn X.prog X.w A s vb va true
  | _, _, .nil, _ => .nil
  | (k, x) :: ks, (k', u) :: va, .cons h more, all => by
    obtain ⟨v, d, e, hx, hy, sd⟩ := all (k, x) (List.mem_cons_self ..)
    obtain ⟨y, hy', ry⟩ := RelO.some_of (v := v) (o := valueAt vb k) (by have := there.val k; rw [e] at this; exact this)
    have ek : k = k' := h.1
    subst ek
    have := PySem.W.KeqHitsIn.hit hy' ((eq_dat I h.2 ry hx hy sd (A := A) room).inModel X.prog X.w) (hits_dat I room there more fun p hp => all p (List.mem_cons_of_mem _ hp))
    rw [Bool.and_self] at this
    exact this
theorem eq_smd (I : Inv X pins σ H s) {x y : V} {u v : Value} (rx : RelV x u) (ry : RelV y v) (sm : SmD X.K H x y) {A : Around} (room : A.units + 70 < cLine) : EqIn X.prog X.w A s u v true := by
  rcases sm with ⟨d, hx, hy, sd⟩ | ⟨a, b, ks, ls, rfl, rfl, ea, eb, len, all⟩
  · exact (eq_dat I rx ry hx hy sd (by omega)).inModel _ _
  · obtain rfl : u = Value.ref a := rx
    obtain rfl : v = Value.ref b := ry
    by_cases ab : a = b
    · subst ab
      exact (EqAt.same _).inModel _ _
    · obtain ⟨_, ya, va, ra, da⟩ := (show ObjOk X.prog X.w H s.heap a (.dK ks) from I.hok a _ ea)
      obtain ⟨_, yb, vb, rb, db⟩ := (show ObjOk X.prog X.w H s.heap b (.dK ls) from I.hok b _ eb)
      have la := ra.length
      have lb := rb.length
      refine EqIn.of_refs ab fun E Q hq => PySem.W.keq_eqIn (knd := mixKind X.prog X.w) (r := true) ya yb da db (by omega) (fun _ => hits_dat I (A := A.in1) (by show A.units + 1 + 64 < cLine; omega) rb ra all) ?_
      rw [Bool.and_true, show (va.length == vb.length) = true by rw [beq_iff_eq]; omega]
      exact hq
end
def rNeS (K : PySem.W.Frag) : R2 := fun x y H Q => ∃ (a b : Addr) (xs ys : List V), x = .ref a ∧ y = .ref b ∧ H a = some (.lst xs) ∧ H b = some (.lst ys) ∧ xs.length = ys.length ∧ (∀ (i : Nat) (u v : V), xs[i]? = some u → ys[i]? = some v → SmD K H u v) ∧ Q (.bl false) H
theorem op_neS {X : Cx} (room : X.A.units + 80 < cLine) : OpR X (compareOp .NotEq) (rNeS X.K) := by
  intro pins s σ H x y v u Q I rx ry told
  obtain ⟨a, b, xs, ys, rfl, rfl, ea, eb, len, all, q⟩ := told
  obtain rfl : v = Value.ref a := rx
  obtain rfl : u = Value.ref b := ry
  obtain ⟨_, us, c, r1, ha⟩ := I.hok a _ ea
  obtain ⟨_, vs, c', r2, hb⟩ := I.hok b _ eb
  have l1 := r1.length
  have l2 := r2.length
  refine ne_run (us := us.toArray) (vs := vs.toArray) (by rw [List.size_toArray, List.size_toArray]; omega) ha hb (by omega) (fun j g1 g2 => ?_) ⟨.bl false, H, I, rfl, q⟩
  rw [List.size_toArray] at g1 g2
  obtain ⟨u, hu, ru⟩ := r1.get (List.getElem?_eq_getElem (show j < xs.length by omega))
  obtain ⟨v, hv, rv⟩ := r2.get (List.getElem?_eq_getElem (show j < ys.length by omega))
  rw [List.getElem?_eq_getElem g1] at hu
  rw [List.getElem?_eq_getElem g2] at hv
  have hu := Option.some.inj hu
  have hv := Option.some.inj hv
  rw [List.getElem_toArray, List.getElem_toArray, hu, hv]
  exact eq_smd I ru rv (all j _ _ (List.getElem?_eq_getElem (by omega)) (List.getElem?_eq_getElem (by omega))) (by show X.A.units + 1 + 70 < cLine; omega)
/-! ### isinstance of the error that the suite holds, whose dict is known -/
def rIsS (K : PySem.W.Frag) (cls : Value) (d : Option Addr) (a : Addr) : List V → Hp → VK → Prop := fun xs H Q => ∃ (D dd : Addr) (fs : List (Str × V)) (c : V) (cv : Value) (b : Bool), cls = .ref D ∧ d = some dd ∧ H dd = some (.xd fs) ∧ ExcC K D ∧ xs = [.ref a, c] ∧ (∀ u, RelV c u → u = cv) ∧ PySem.W.kitOne K (.ref D) cv = some b ∧ Q (.bl b) H
def rIsST (K : PySem.W.Frag) (cls : Value) (d : Option Addr) (a : Addr) : List V → Hp → VK → Prop := fun xs H Q => ∃ (D dd p : Addr) (fs : List (Str × V)) (c1 c2 : Addr) (b : Bool), cls = .ref D ∧ d = some dd ∧ H dd = some (.xd fs) ∧ ExcC K D ∧ xs = [.ref a, .ref p] ∧ H p = some (.tup [.ref c1, .ref c2]) ∧ PySem.W.kitAny K (.ref D) [.ref c1, .ref c2] = some b ∧ Q (.bl b) H
section
variable {X : Cx} {a : Addr} {oe : Obj} {pn : List (Addr × Obj)} {cls : Value} {d : Option Addr}
theorem exc_known {K : PySem.W.Frag} {D : Addr} (fit : ExcC K D) : (PySem.W.clsIn K D).isSome = true := by
  have top := fit.hm
  unfold PySem.W.mroIn at top
  cases z : PySem.W.clsIn K D with
  | some _ => rfl
  | none =>
    rw [z] at top
    cases top
theorem call_isS (hz : Zc cls d oe) (hf : ∃ vs, oe.data = .fields vs) : CallR (X.suite a ((a, oe) :: pn)) (.builtin "isinstance") (rIsS X.K cls d a) := by
  intro pins s σ H xs us Q I r told
  obtain ⟨D, dd, fs, c, cv, b, rfl, rfl, dict, fit, rfl, named, is_, q⟩ := told
  obtain ⟨a2, u, rfl, ra, r1⟩ := vals2 r
  obtain rfl : a2 = Value.ref a := ra
  obtain rfl := named u r1
  obtain ⟨there, _⟩ := I.pin (a, oe) (List.mem_append.mpr (.inl List.mem_cons_self))
  obtain ⟨vs, hv⟩ := hf
  obtain ⟨oc, od, oda, osl⟩ := oe
  obtain ⟨h1, h2⟩ := hz
  dsimp only at h1 h2 hv
  subst h1 h2 hv
  obtain ⟨mA, ⟨ob, es, ep, ho, _⟩, _⟩ := (show ObjOk X.prog X.w H s.heap dd (.xd fs) from I.hok dd _ dict)
  exact PySem.W.kia_one (PySem.W.kitx_exc (od := some ob) (exc_known fit) fit.hg fit.hk fit.hs fit.ha fit.hn fit.ht fit.hm) I.kIn ⟨there, rfl, rfl, ho⟩ is_ (fun z => by cases z) fun toks => ⟨.bl b, H, I.kept (t' := toks) fun _ _ g => g, rfl, q⟩
theorem call_isST (hz : Zc cls d oe) (hf : ∃ vs, oe.data = .fields vs) : CallR (X.suite a ((a, oe) :: pn)) (.builtin "isinstance") (rIsST X.K cls d a) := by
  intro pins s σ H xs us Q I r told
  obtain ⟨D, dd, p, fs, c1, c2, b, rfl, rfl, dict, fit, rfl, pair, is_, q⟩ := told
  obtain ⟨a2, p2, rfl, ra, rp⟩ := vals2 r
  obtain rfl : a2 = Value.ref a := ra
  obtain rfl : p2 = Value.ref p := rp
  obtain ⟨there, _⟩ := I.pin (a, oe) (List.mem_append.mpr (.inl List.mem_cons_self))
  obtain ⟨vs, hv⟩ := hf
  obtain ⟨oc, od, oda, osl⟩ := oe
  obtain ⟨h1, h2⟩ := hz
  dsimp only at h1 h2 hv
  subst h1 h2 hv
  obtain ⟨mA, ⟨ob, es, ep, ho, _⟩, _⟩ := (show ObjOk X.prog X.w H s.heap dd (.xd fs) from I.hok dd _ dict)
  obtain ⟨its, rv, ⟨⟨tc, ddx, data, sl⟩, hto, hc, n, hd⟩, _⟩ := I.tuple (SqT.of pair)
  dsimp only at hc hd
  subst hc hd
  obtain ⟨x1, x2, rfl, r1, r2⟩ := vals2 rv
  obtain rfl : x1 = Value.ref c1 := r1
  obtain rfl : x2 = Value.ref c2 := r2
  exact PySem.W.kia_tup (PySem.W.kitx_exc (od := some ob) (exc_known fit) fit.hg fit.hk fit.hs fit.ha fit.hn fit.ht fit.hm) I.kIn ⟨there, rfl, rfl, ho⟩ hto is_ (fun z => by cases z) fun toks => ⟨.bl b, H, I.kept (t' := toks) fun _ _ g => g, rfl, q⟩
end
end Kt
/-! KtW7: dict(xs) of a list of pairs, whose first ones are tuples that are keys, no two alike. -/
namespace Kt
open PySem PySem.Spec PyProof.Rows L2
theorem storedAllH_app {κ : Type} [DecidableEq κ] : ∀ (ps acc : List (κ × Addr × Value)), ((acc ++ ps).map (·.1)).Nodup → storedAllH acc ps = acc ++ ps
  | [], acc, _ => (List.append_nil acc).symm
  | p :: ps, acc, nd => by
    have hn : p.1 ∉ acc.map (·.1) := by
      rw [List.map_append, List.map_cons, List.nodup_append] at nd
      exact fun z => nd.2.2 _ z _ List.mem_cons_self rfl
    have e : storedH acc p.1 p.2.1 p.2.2 = acc ++ [p] := storedH_new (atKey_none_of_get fun j q hj => hn (List.mem_map.mpr ⟨_, List.mem_of_getElem? hj, rfl⟩)) _ _
    show storedAllH (storedH acc p.1 p.2.1 p.2.2) ps = _
    rw [e, storedAllH_app ps (acc ++ [p]) (by rw [List.append_assoc]; exact nd), List.append_assoc]
    rfl
abbrev RowA (x : RowV) (q : NestedKey × Addr × Value) : Prop := x.1 = q.1 ∧ x.2.1 = .ref q.2.1 ∧ RelV x.2.2 q.2.2
def PairV (K : PySem.W.Frag) (H : Hp) (p : Addr) (x : RowV) : Prop := (∃ b, x.2.1 = .ref b) ∧ SqT K H p [x.2.1, x.2.2]
section
variable {X : Cx}
theorem pairsN_of {pins : List (Addr × Obj)} {σ : L2.St} {H : Hp} {s : Shared} (I : Inv X pins σ H s) : ∀ {ps : List Addr} {rows : List RowV}, Paired (PairV X.K H) ps rows →
    ∃ prs : List (NestedKey × Addr × Value), Paired RowA rows prs ∧ prs.length = ps.length ∧ ∀ (j : Nat) (q : NestedKey × Addr × Value), prs[j]? = some q → ∃ b : Addr, ps[j]? = some b ∧ IsTup s.heap b #[.ref q.2.1, q.2.2]
  | _, _, .nil => ⟨[], .nil, rfl, fun j q e => by simp at e⟩
  | _, _, .cons (a := p) (b := x) h t => by
    obtain ⟨prs, r, hl, hp⟩ := pairsN_of I t
    obtain ⟨⟨b, eb⟩, sq⟩ := h
    obtain ⟨its, rv, ht, _⟩ := I.tuple sq
    obtain ⟨u, y, ei, ru, ry⟩ := vals2 rv
    subst ei
    rw [eb] at ru
    obtain rfl : u = Value.ref b := ru
    refine ⟨(x.1, b, y) :: prs, .cons ⟨rfl, eb, ry⟩ r, by rw [List.length_cons, List.length_cons, hl], fun j q e => ?_⟩
    cases j with
    | zero =>
      have e' : (x.1, b, y) = q := Option.some.inj e
      subst e'
      exact ⟨p, rfl, ht⟩
    | succ j =>
      obtain ⟨b', e1, e2⟩ := hp j q (by simpa using e)
      exact ⟨b', by simpa using e1, e2⟩
theorem rowA_map {rows : List RowV} {prs : List (NestedKey × Addr × Value)} (rel : Paired RowA rows prs) : Paired RowR rows (prs.map fun q => ((q.1, .ref q.2.1, q.2.2) : RowN)) := by
  induction rel with
  | nil => exact .nil
  | cons h t ih => exact .cons ⟨h.1, by rw [h.2.1]; exact rfl, h.2.2⟩ ih
def rDictN (w : World) (K : PySem.W.Frag) : List V → Hp → VK → Prop := fun xs H Q => ∃ (a : Addr) (ps : List Addr) (rows : List RowV), xs = [.ref a] ∧ SqL K H a (ps.map V.ref) ∧ Paired (PairV K H) ps rows ∧ KeysN H rows ∧ (rows.map (·.1)).Nodup ∧
  ∀ p, H p = none → Q (.ref p) (upd H p (DN w p rows))
theorem call_dictN (hcalm : X.calm = true) (hu : X.A.units + 10 < cLine) : CallR X (.type "dict") (rDictN X.w X.K) := by
  intro pins s σ H xs us Q I r q
  obtain ⟨a, ps, rows, ex, hq, hp, kn, nd, q⟩ := q
  subst ex
  obtain ⟨u, eu, rx⟩ := vals1 r
  subst eu
  cases rx
  obtain ⟨its, rv, pl, hz⟩ := I.list hq
  have ei := refs_at rv
  subst ei
  rw [List.length_map] at hz
  obtain ⟨prs, rel, hl, hpr⟩ := pairsN_of I hp
  obtain ⟨o, n, ho, hc, hd, hdat⟩ := pl
  have ndp : (prs.map (·.1)).Nodup := by
    have e : prs.map (·.1) = rows.map (·.1) := by
      clear hq hp kn nd q hl hpr
      induction rel with
      | nil => rfl
      | cons h t ih => rw [List.map_cons, List.map_cons, ih, h.1]
    rw [e]
    exact nd
  have big := I.big
  refine call_dict_pairsH (knd := nestedKind X.prog X.w) (ps := prs) (PairArg.list a _ (fun j => (ps[j]?).getD 0) (prs.map fun q => (.ref q.2.1, q.2.2))) (I.ok.hd hcalm) (show X.A.units + 1 + 1 + 8 < cLine by omega) ⟨⟨o, n, ho, hc, hd, hdat⟩, by simp [hl], fun j k v e => ?_⟩ ⟨by rw [List.length_map], fun i k v e => ?_⟩ (fun h' keep x hx => ?_) (by rw [List.length_map, hl]; exact hz) fun h' tk hd' k => ?_
  · rw [List.getElem?_map] at e
    obtain ⟨q', e1, e2⟩ := Option.map_eq_some_iff.mp e
    injection e2 with e2 e3
    subst e2 e3
    obtain ⟨b, eb, ht⟩ := hpr j q' e1
    obtain ⟨ot, t1, t2, t3⟩ := ht
    exact ⟨by simp [eb], .inl (by simp only [eb, Option.getD_some]; exact ⟨ot, t1, t2, t3⟩)⟩
  · rw [PairRel, List.getElem?_map] at e
    obtain ⟨q', e1, e2⟩ := Option.map_eq_some_iff.mp e
    injection e2 with e2 e3
    subst e2 e3
    exact ⟨q'.1, q'.2.1, e1, rfl⟩
  · have hin : NestedIs s.heap x.1 (.ref x.2.1) ∧ x.1.depth ≤ 8 := by
      obtain ⟨i, hi⟩ := List.getElem?_of_mem hx
      clear hq hp nd q hl hpr ndp
      induction rel generalizing i with
      | nil => exact absurd hx List.not_mem_nil
      | @cons y z ys zs h t ih =>
        rcases List.mem_cons.mp hx with rfl | hx
        · have := kn y List.mem_cons_self
          exact ⟨NRep.is I.hok _ _ _ (h.1 ▸ this.1) (by rw [h.2.1]; exact rfl), h.1 ▸ this.2⟩
        · obtain ⟨j, hj⟩ := List.getElem?_of_mem hx
          exact ih (fun z hz => kn z (List.mem_cons_of_mem _ hz)) hx j hj
    exact ⟨NestedIs.at (fun b ob vs n hb _ => keep b ob (Nat.ne_of_lt (Heap.lt_size hb)) (fun z => nomatch z) hb) _ _ hin.1, hin.2⟩
  · have hm : (s.heap.objs.size == sysModules) = false := beq_eq_false_iff_ne.mpr (Nat.ne_of_gt I.big)
    rw [storedAllH_app prs [] (by simpa using ndp), List.nil_append] at hd'
    obtain ⟨od, es, ep, d1, d2, d3, d4, _, _⟩ := hd'
    refine ⟨.ref s.heap.objs.size, _, I.laid (a := s.heap.objs.size) (o := DN X.w s.heap.objs.size rows) (t' := tk) (fun b ob z => k b ob (fun z => nomatch z) z) (Nat.le_refl _) (dn_obj ⟨hm, ?_, prs.map fun q => (q.1, .ref q.2.1, q.2.2), ?_, ?_, od, es, ep, d1, d2, d3, ?_⟩), rfl, q _ (I.hok.fresh (Nat.le_refl _))⟩
    · rw [rel.length, hl]
      exact hz
    · exact rowA_map rel
    · rw [List.map_map]
      exact ndp
    · rw [d4, List.map_map]
      rfl
end
end Kt
namespace Kt
open PySem PySem.Spec PyProof.Rows L2
def topS (i : Nat) : Stmt := PySem.Challenge.pw_likematch_k11_alike.main.body.getD i (.Pass ⟨0, 0, 0, 0⟩)
abbrev s_is_word : Stmt := topS 13
theorem sc_is_word : FnScope ["thing", "most", "sign"] ["thing", "most"] (defScope s_is_word) := ⟨rfl, rfl, rfl, by decide +kernel, rfl, by decide +kernel, by decide +kernel⟩
abbrev s_is_name : Stmt := topS 14
theorem sc_is_name : FnScope ["thing"] ["thing"] (defScope s_is_name) := ⟨rfl, rfl, rfl, by decide +kernel, rfl, by decide +kernel, by decide +kernel⟩
abbrev s_is_hole : Stmt := topS 15
theorem sc_is_hole : FnScope ["thing"] ["thing"] (defScope s_is_hole) := ⟨rfl, rfl, rfl, by decide +kernel, rfl, by decide +kernel, by decide +kernel⟩
abbrev s_size_within : Stmt := topS 16
theorem sc_size_within : FnScope ["thing", "holes", "deep", "size", "part", "more"] ["thing", "holes", "deep"] (defScope s_size_within) := ⟨rfl, rfl, rfl, by decide +kernel, rfl, by decide +kernel, by decide +kernel⟩
abbrev s_is_term : Stmt := topS 17
theorem sc_is_term : FnScope ["thing"] ["thing"] (defScope s_is_term) := ⟨rfl, rfl, rfl, by decide +kernel, rfl, by decide +kernel, by decide +kernel⟩
abbrev s_refuse_no_term : Stmt := topS 18
theorem sc_refuse_no_term : FnScope ["thing"] ["thing"] (defScope s_refuse_no_term) := ⟨rfl, rfl, rfl, by decide +kernel, rfl, by decide +kernel, by decide +kernel⟩
abbrev s_all_within : Stmt := topS 19
theorem sc_all_within : FnScope ["pattern", "found", "part"] ["pattern"] (defScope s_all_within) := ⟨rfl, rfl, rfl, by decide +kernel, rfl, by decide +kernel, by decide +kernel⟩
abbrev s_written : Stmt := topS 20
theorem sc_written : FnScope ["pattern", "parts", "part"] ["pattern"] (defScope s_written) := ⟨rfl, rfl, rfl, by decide +kernel, rfl, by decide +kernel, by decide +kernel⟩
abbrev s_order_of : Stmt := topS 21
theorem sc_order_of : FnScope ["pattern"] ["pattern"] (defScope s_order_of) := ⟨rfl, rfl, rfl, by decide +kernel, rfl, by decide +kernel, by decide +kernel⟩
abbrev s_joined : Stmt := topS 28
theorem sc_joined : FnScope ["lows", "one", "other", "low", "high", "place"] ["lows", "one", "other"] (defScope s_joined) := ⟨rfl, rfl, rfl, by decide +kernel, rfl, by decide +kernel, by decide +kernel⟩
abbrev s_alike_by_parts : Stmt := topS 29
theorem sc_alike_by_parts : FnScope ["rows", "lows", "first", "found", "at", "head", "parts", "shape", "mate", "part"] ["rows", "lows"] (defScope s_alike_by_parts) := ⟨rfl, rfl, rfl, by decide +kernel, rfl, by decide +kernel, by decide +kernel⟩
abbrev s_Likeness___init__ : Stmt := inClass (topS 30) 0
theorem sc_Likeness___init__ : FnScope ["self", "terms", "pairs", "one", "other", "at", "term", "part"] ["self", "terms", "pairs"] (defScope s_Likeness___init__) := ⟨rfl, rfl, rfl, by decide +kernel, rfl, by decide +kernel, by decide +kernel⟩
abbrev s_Likeness_tell : Stmt := inClass (topS 30) 1
theorem sc_Likeness_tell : FnScope ["self", "one", "other"] ["self", "one", "other"] (defScope s_Likeness_tell) := ⟨rfl, rfl, rfl, by decide +kernel, rfl, by decide +kernel, by decide +kernel⟩
abbrev s_Likeness_alike : Stmt := inClass (topS 30) 2
theorem sc_Likeness_alike : FnScope ["self", "one", "other"] ["self", "one", "other"] (defScope s_Likeness_alike) := ⟨rfl, rfl, rfl, by decide +kernel, rfl, by decide +kernel, by decide +kernel⟩
abbrev s_Likeness_mark : Stmt := inClass (topS 30) 3
theorem sc_Likeness_mark : FnScope ["self", "term", "shape", "part"] ["self", "term"] (defScope s_Likeness_mark) := ⟨rfl, rfl, rfl, by decide +kernel, rfl, by decide +kernel, by decide +kernel⟩
abbrev s_Likeness__settle : Stmt := inClass (topS 30) 4
theorem sc_Likeness__settle : FnScope ["self", "one", "other", "head", "parts", "low", "part"] ["self"] (defScope s_Likeness__settle) := ⟨rfl, rfl, rfl, by decide +kernel, rfl, by decide +kernel, by decide +kernel⟩
abbrev s_Web___init__ : Stmt := inClass (topS 31) 0
theorem sc_Web___init__ : FnScope ["self"] ["self"] (defScope s_Web___init__) := ⟨rfl, rfl, rfl, by decide +kernel, rfl, by decide +kernel, by decide +kernel⟩
abbrev s_Web_put : Stmt := inClass (topS 31) 1
theorem sc_Web_put : FnScope ["self", "term"] ["self", "term"] (defScope s_Web_put) := ⟨rfl, rfl, rfl, by decide +kernel, rfl, by decide +kernel, by decide +kernel⟩
abbrev s_Web_like : Stmt := inClass (topS 31) 2
theorem sc_Web_like : FnScope ["self", "one", "other"] ["self", "one", "other"] (defScope s_Web_like) := ⟨rfl, rfl, rfl, by decide +kernel, rfl, by decide +kernel, by decide +kernel⟩
abbrev s_Web_unlike : Stmt := inClass (topS 31) 3
theorem sc_Web_unlike : FnScope ["self", "one", "other"] ["self", "one", "other"] (defScope s_Web_unlike) := ⟨rfl, rfl, rfl, by decide +kernel, rfl, by decide +kernel, by decide +kernel⟩
abbrev s_Web_alike : Stmt := inClass (topS 31) 4
theorem sc_Web_alike : FnScope ["self", "one", "other"] ["self", "one", "other"] (defScope s_Web_alike) := ⟨rfl, rfl, rfl, by decide +kernel, rfl, by decide +kernel, by decide +kernel⟩
abbrev s_Web_classes : Stmt := inClass (topS 31) 5
theorem sc_Web_classes : FnScope ["self", "rows", "term", "low"] ["self"] (defScope s_Web_classes) := ⟨rfl, rfl, rfl, by decide +kernel, rfl, by decide +kernel, by decide +kernel⟩
abbrev s_Web_least : Stmt := inClass (topS 31) 6
theorem sc_Web_least : FnScope ["self", "term", "mark"] ["self", "term"] (defScope s_Web_least) := ⟨rfl, rfl, rfl, by decide +kernel, rfl, by decide +kernel, by decide +kernel⟩
abbrev s_Web_terms : Stmt := inClass (topS 31) 7
theorem sc_Web_terms : FnScope ["self"] ["self"] (defScope s_Web_terms) := ⟨rfl, rfl, rfl, by decide +kernel, rfl, by decide +kernel, by decide +kernel⟩
abbrev s_Web___len__ : Stmt := inClass (topS 31) 8
theorem sc_Web___len__ : FnScope ["self"] ["self"] (defScope s_Web___len__) := ⟨rfl, rfl, rfl, by decide +kernel, rfl, by decide +kernel, by decide +kernel⟩
abbrev s_Web_told : Stmt := inClass (topS 31) 9
theorem sc_Web_told : FnScope ["self"] ["self"] (defScope s_Web_told) := ⟨rfl, rfl, rfl, by decide +kernel, rfl, by decide +kernel, by decide +kernel⟩
abbrev s_Web_back : Stmt := inClass (topS 31) 11
theorem sc_Web_back : FnScope ["self", "row"] ["self"] (defScope s_Web_back) := ⟨rfl, rfl, rfl, by decide +kernel, rfl, by decide +kernel, by decide +kernel⟩
abbrev s_Web_again : Stmt := inClass (topS 31) 12
theorem sc_Web_again : FnScope ["self"] ["self"] (defScope s_Web_again) := ⟨rfl, rfl, rfl, by decide +kernel, rfl, by decide +kernel, by decide +kernel⟩
abbrev s_Web_log : Stmt := inClass (topS 31) 13
theorem sc_Web_log : FnScope ["self"] ["self"] (defScope s_Web_log) := ⟨rfl, rfl, rfl, by decide +kernel, rfl, by decide +kernel, by decide +kernel⟩
abbrev s_Web_twin : Stmt := inClass (topS 31) 14
theorem sc_Web_twin : FnScope ["self", "other"] ["self"] (defScope s_Web_twin) := ⟨rfl, rfl, rfl, by decide +kernel, rfl, by decide +kernel, by decide +kernel⟩
abbrev s_Web__new_deed : Stmt := inClass (topS 31) 16
theorem sc_Web__new_deed : FnScope ["self", "row", "given"] ["self", "row"] (defScope s_Web__new_deed) := ⟨rfl, rfl, rfl, by decide +kernel, rfl, by decide +kernel, by decide +kernel⟩
abbrev s_Web__do : Stmt := inClass (topS 31) 17
theorem sc_Web__do : FnScope ["self", "row", "term", "fresh", "is_telling"] ["self", "row"] (defScope s_Web__do) := ⟨rfl, rfl, rfl, by decide +kernel, rfl, by decide +kernel, by decide +kernel⟩
abbrev s_Web__ranks_beyond : Stmt := inClass (topS 31) 18
theorem sc_Web__ranks_beyond : FnScope ["self", "known", "rows", "found", "row", "term", "part"] ["self", "known", "rows"] (defScope s_Web__ranks_beyond) := ⟨rfl, rfl, rfl, by decide +kernel, rfl, by decide +kernel, by decide +kernel⟩
abbrev s_Web__settle : Stmt := inClass (topS 31) 19
theorem sc_Web__settle : FnScope ["self"] ["self"] (defScope s_Web__settle) := ⟨rfl, rfl, rfl, by decide +kernel, rfl, by decide +kernel, by decide +kernel⟩
abbrev s_Web__numbered : Stmt := inClass (topS 31) 20
theorem sc_Web__numbered : FnScope ["self", "word", "at", "row"] ["self", "word"] (defScope s_Web__numbered) := ⟨rfl, rfl, rfl, by decide +kernel, rfl, by decide +kernel, by decide +kernel⟩
abbrev s_Web__take : Stmt := inClass (topS 31) 21
theorem sc_Web__take : FnScope ["self", "other", "term"] ["self", "other"] (defScope s_Web__take) := ⟨rfl, rfl, rfl, by decide +kernel, rfl, by decide +kernel, by decide +kernel⟩
abbrev s__law_begun : Stmt := topS 33
theorem sc__law_begun : FnScope ["_law_script"] ["_law_script"] (defScope s__law_begun) := ⟨rfl, rfl, rfl, by decide +kernel, rfl, by decide +kernel, by decide +kernel⟩
abbrev s__law_take : Stmt := topS 34
theorem sc__law_take : FnScope ["_law_state", "_law_many", "_law_cells", "_law_found", "_law_cell"] ["_law_state", "_law_many"] (defScope s__law_take) := ⟨rfl, rfl, rfl, by decide +kernel, rfl, by decide +kernel, by decide +kernel⟩
abbrev s__law_name : Stmt := topS 35
theorem sc__law_name : FnScope ["_law_state", "_law_met", "_law_letters", "_law_own", "_law_way", "_law_word", "_law_at", "_law_k", "_law_some", "_law_x"] ["_law_state", "_law_met"] (defScope s__law_name) := ⟨rfl, rfl, rfl, by decide +kernel, rfl, by decide +kernel, by decide +kernel⟩
abbrev s__law_heads : Stmt := topS 36
theorem sc__law_heads : FnScope ["_law_state", "_law_met", "_law_found", "_law_name_here", "_law_many", "_law_k"] ["_law_state"] (defScope s__law_heads) := ⟨rfl, rfl, rfl, by decide +kernel, rfl, by decide +kernel, by decide +kernel⟩
abbrev s__law_term : Stmt := topS 37
theorem sc__law_term : FnScope ["_law_state", "_law_heads_here", "_law_left", "_law_most", "_law_some", "_law_name_here", "_law_many", "_law_x", "_law_k"] ["_law_state", "_law_heads_here", "_law_left"] (defScope s__law_term) := ⟨rfl, rfl, rfl, by decide +kernel, rfl, by decide +kernel, by decide +kernel⟩
abbrev s__law_parts : Stmt := topS 38
theorem sc__law_parts : FnScope ["_law_term_here", "_law_found", "_law_part", "_law_x"] ["_law_term_here"] (defScope s__law_parts) := ⟨rfl, rfl, rfl, by decide +kernel, rfl, by decide +kernel, by decide +kernel⟩
abbrev s__law_every : Stmt := topS 39
theorem sc__law_every : FnScope ["_law_terms", "_law_found", "_law_term_here", "_law_part"] ["_law_terms"] (defScope s__law_every) := ⟨rfl, rfl, rfl, by decide +kernel, rfl, by decide +kernel, by decide +kernel⟩
abbrev s__law_any : Stmt := topS 40
theorem sc__law_any : FnScope ["_law_state", "_law_heads_here", "_law_terms"] ["_law_state", "_law_heads_here", "_law_terms"] (defScope s__law_any) := ⟨rfl, rfl, rfl, by decide +kernel, rfl, by decide +kernel, by decide +kernel⟩
abbrev s__law_deeds : Stmt := topS 41
theorem sc__law_deeds : FnScope ["_law_state", "_law_heads_here", "_law_words", "_law_many", "_law_most", "_law_deeds_here", "_law_terms", "_law_k", "_law_row", "_law_more"] ["_law_state", "_law_heads_here", "_law_words", "_law_many", "_law_most"] (defScope s__law_deeds) := ⟨rfl, rfl, rfl, by decide +kernel, rfl, by decide +kernel, by decide +kernel⟩
abbrev s__law_closed : Stmt := topS 42
theorem sc__law_closed : FnScope ["_law_terms", "_law_pairs_here", "_law_term_here", "_law_found", "_law_left", "_law_x", "_law_y", "_law_low", "_law_high", "_law_seen", "_law_sign", "_law_k", "_law_part"] ["_law_terms", "_law_pairs_here"] (defScope s__law_closed) := ⟨rfl, rfl, rfl, by decide +kernel, rfl, by decide +kernel, by decide +kernel⟩
abbrev s__law_done : Stmt := topS 43
theorem sc__law_done : FnScope ["_law_web_here", "_law_row"] ["_law_web_here", "_law_row"] (defScope s__law_done) := ⟨rfl, rfl, rfl, by decide +kernel, rfl, by decide +kernel, by decide +kernel⟩
abbrev s__law_web : Stmt := topS 44
theorem sc__law_web : FnScope ["_law_deeds_here", "_law_web_here", "_law_row"] ["_law_deeds_here"] (defScope s__law_web) := ⟨rfl, rfl, rfl, by decide +kernel, rfl, by decide +kernel, by decide +kernel⟩
abbrev s__law_pairs : Stmt := topS 45
theorem sc__law_pairs : FnScope ["_law_deeds_here", "_law_row"] ["_law_deeds_here"] (defScope s__law_pairs) := ⟨rfl, rfl, rfl, by decide +kernel, rfl, by decide +kernel, by decide +kernel⟩
abbrev s__law_stood : Stmt := topS 46
theorem sc__law_stood : FnScope ["_law_deeds_here", "_law_found", "_law_row"] ["_law_deeds_here"] (defScope s__law_stood) := ⟨rfl, rfl, rfl, by decide +kernel, rfl, by decide +kernel, by decide +kernel⟩
abbrev s__law_agains : Stmt := topS 47
theorem sc__law_agains : FnScope ["_law_web_here", "_law_twin", "_law_count", "_law_more"] ["_law_web_here"] (defScope s__law_agains) := ⟨rfl, rfl, rfl, by decide +kernel, rfl, by decide +kernel, by decide +kernel⟩
abbrev s__law_gone : Stmt := topS 48
theorem sc__law_gone : FnScope ["_law_state", "_law_web_here", "_law_many", "_law_k"] ["_law_state", "_law_web_here"] (defScope s__law_gone) := ⟨rfl, rfl, rfl, by decide +kernel, rfl, by decide +kernel, by decide +kernel⟩
abbrev s_law : Stmt := topS 49
theorem sc_law : FnScope ["_law_script", "_law_state", "_law_heads_here", "_law_deeds_here", "_law_web_here", "_law_gone_here", "_law_stood_here", "_law_asked", "_law_numbers", "_law_x", "_law_y", "_law_found", "_law_k"] ["_law_script"] (defScope s_law) := ⟨rfl, rfl, rfl, by decide +kernel, rfl, by decide +kernel, by decide +kernel⟩
/-- what the top has left -/
structure Tx (K : PySem.W.Frag) (mg : Str → Option Value) : Prop where
  d_is_word : Dx K mg "is_word" s_is_word ["thing", "most"]
  d_is_name : Dx K mg "is_name" s_is_name ["thing"]
  d_is_hole : Dx K mg "is_hole" s_is_hole ["thing"]
  d_size_within : Dx K mg "size_within" s_size_within ["thing", "holes", "deep"]
  d_is_term : Dx K mg "is_term" s_is_term ["thing"]
  d_refuse_no_term : Dx K mg "refuse_no_term" s_refuse_no_term ["thing"]
  d_all_within : Dx K mg "all_within" s_all_within ["pattern"]
  d_written : Dx K mg "written" s_written ["pattern"]
  d_order_of : Dx K mg "order_of" s_order_of ["pattern"]
  d_joined : Dx K mg "joined" s_joined ["lows", "one", "other"]
  d_alike_by_parts : Dx K mg "alike_by_parts" s_alike_by_parts ["rows", "lows"]
  d_Likeness___init__ : DxM K (clsA mg "Likeness") "__init__" "Likeness.__init__" s_Likeness___init__ ["self", "terms", "pairs"]
  d_Likeness_tell : DxM K (clsA mg "Likeness") "tell" "Likeness.tell" s_Likeness_tell ["self", "one", "other"]
  d_Likeness_alike : DxM K (clsA mg "Likeness") "alike" "Likeness.alike" s_Likeness_alike ["self", "one", "other"]
  d_Likeness_mark : DxM K (clsA mg "Likeness") "mark" "Likeness.mark" s_Likeness_mark ["self", "term"]
  d_Likeness__settle : DxM K (clsA mg "Likeness") "_settle" "Likeness._settle" s_Likeness__settle ["self"]
  d_Web___init__ : DxM K (clsA mg "Web") "__init__" "Web.__init__" s_Web___init__ ["self"]
  d_Web_put : DxM K (clsA mg "Web") "put" "Web.put" s_Web_put ["self", "term"]
  d_Web_like : DxM K (clsA mg "Web") "like" "Web.like" s_Web_like ["self", "one", "other"]
  d_Web_unlike : DxM K (clsA mg "Web") "unlike" "Web.unlike" s_Web_unlike ["self", "one", "other"]
  d_Web_alike : DxM K (clsA mg "Web") "alike" "Web.alike" s_Web_alike ["self", "one", "other"]
  d_Web_classes : DxM K (clsA mg "Web") "classes" "Web.classes" s_Web_classes ["self"]
  d_Web_least : DxM K (clsA mg "Web") "least" "Web.least" s_Web_least ["self", "term"]
  d_Web_terms : DxM K (clsA mg "Web") "terms" "Web.terms" s_Web_terms ["self"]
  d_Web___len__ : DxM K (clsA mg "Web") "__len__" "Web.__len__" s_Web___len__ ["self"]
  d_Web_told : DxM K (clsA mg "Web") "told" "Web.told" s_Web_told ["self"]
  d_Web_back : DxM K (clsA mg "Web") "back" "Web.back" s_Web_back ["self"]
  d_Web_again : DxM K (clsA mg "Web") "again" "Web.again" s_Web_again ["self"]
  d_Web_log : DxM K (clsA mg "Web") "log" "Web.log" s_Web_log ["self"]
  d_Web_twin : DxM K (clsA mg "Web") "twin" "Web.twin" s_Web_twin ["self"]
  d_Web__new_deed : DxM K (clsA mg "Web") "_new_deed" "Web._new_deed" s_Web__new_deed ["self", "row"]
  d_Web__do : DxM K (clsA mg "Web") "_do" "Web._do" s_Web__do ["self", "row"]
  d_Web__ranks_beyond : DxM K (clsA mg "Web") "_ranks_beyond" "Web._ranks_beyond" s_Web__ranks_beyond ["self", "known", "rows"]
  d_Web__numbered : DxM K (clsA mg "Web") "_numbered" "Web._numbered" s_Web__numbered ["self", "word"]
  d_Web__take : DxM K (clsA mg "Web") "_take" "Web._take" s_Web__take ["self", "other"]
  d__law_begun : Dx K mg "_law_begun" s__law_begun ["_law_script"]
  d__law_take : Dx K mg "_law_take" s__law_take ["_law_state", "_law_many"]
  d__law_name : Dx K mg "_law_name" s__law_name ["_law_state", "_law_met"]
  d__law_heads : Dx K mg "_law_heads" s__law_heads ["_law_state"]
  d__law_term : Dx K mg "_law_term" s__law_term ["_law_state", "_law_heads_here", "_law_left"]
  d__law_parts : Dx K mg "_law_parts" s__law_parts ["_law_term_here"]
  d__law_every : Dx K mg "_law_every" s__law_every ["_law_terms"]
  d__law_any : Dx K mg "_law_any" s__law_any ["_law_state", "_law_heads_here", "_law_terms"]
  d__law_deeds : Dx K mg "_law_deeds" s__law_deeds ["_law_state", "_law_heads_here", "_law_words", "_law_many", "_law_most"]
  d__law_closed : Dx K mg "_law_closed" s__law_closed ["_law_terms", "_law_pairs_here"]
  d__law_done : Dx K mg "_law_done" s__law_done ["_law_web_here", "_law_row"]
  d__law_web : Dx K mg "_law_web" s__law_web ["_law_deeds_here"]
  d__law_pairs : Dx K mg "_law_pairs" s__law_pairs ["_law_deeds_here"]
  d__law_stood : Dx K mg "_law_stood" s__law_stood ["_law_deeds_here"]
  d__law_agains : Dx K mg "_law_agains" s__law_agains ["_law_web_here"]
  d__law_gone : Dx K mg "_law_gone" s__law_gone ["_law_state", "_law_web_here"]
  d_law : Dx K mg "law" s_law ["_law_script"]
  c_Likeness : OwnC K mg "Likeness" (clsA mg "Likeness")
  n_Likeness_places : NoAttr K (clsA mg "Likeness") "places"
  n_Likeness_rows : NoAttr K (clsA mg "Likeness") "rows"
  n_Likeness_lows : NoAttr K (clsA mg "Likeness") "lows"
  n_Likeness_shapes : NoAttr K (clsA mg "Likeness") "shapes"
  n_Likeness_due : NoAttr K (clsA mg "Likeness") "due"
  c_Web : OwnC K mg "Web" (clsA mg "Web")
  n_Web_deeds : NoAttr K (clsA mg "Web") "deeds"
  n_Web_undone : NoAttr K (clsA mg "Web") "undone"
  n_Web_tellings : NoAttr K (clsA mg "Web") "tellings"
  n_Web_ranks : NoAttr K (clsA mg "Web") "ranks"
  n_Web_rising : NoAttr K (clsA mg "Web") "rising"
  n_Web_likeness : NoAttr K (clsA mg "Web") "likeness"
  m_LETTERS : ∃ t, mg "LETTERS" = some (.str "abcdefghijklmnopqrstuvwxyz" t)
  m_MOST_NAME : ∃ t, mg "MOST_NAME" = some (.int 8 t)
  m_MOST_HOLE : ∃ t, mg "MOST_HOLE" = some (.int 4 t)
  m_MOST_PARTS : ∃ t, mg "MOST_PARTS" = some (.int 3 t)
  m_MOST_SIZE : ∃ t, mg "MOST_SIZE" = some (.int 30 t)
  m_MOST_DEEP : ∃ t, mg "MOST_DEEP" = some (.int 5 t)
  m_MOST_TERMS : ∃ t, mg "MOST_TERMS" = some (.int 60 t)
  m_MOST_TELLINGS : ∃ t, mg "MOST_TELLINGS" = some (.int 40 t)
  m_PUT : ∃ t, mg "PUT" = some (.str "put" t)
  m_LIKE : ∃ t, mg "LIKE" = some (.str "like" t)
  m_UNLIKE : ∃ t, mg "UNLIKE" = some (.str "unlike" t)
  e_MatchError : ExG K mg "MatchError" (clsA mg "MatchError")
  e_NoDeed : ExG K mg "NoDeed" (clsA mg "NoDeed")
  me : MeK K mg (clsA mg "MatchError")
  gs_BadTerm : mg "BadTerm" = some (.ref (clsA mg "BadTerm"))
  s_BadTerm : MeS K (clsA mg "MatchError") (clsA mg "BadTerm")
  gs_TooMany : mg "TooMany" = some (.ref (clsA mg "TooMany"))
  s_TooMany : MeS K (clsA mg "MatchError") (clsA mg "TooMany")
  gs_NoDeed : mg "NoDeed" = some (.ref (clsA mg "NoDeed"))
  s_NoDeed : MeS K (clsA mg "MatchError") (clsA mg "NoDeed")
  z_all : mg "all" = none
  z_bool : mg "bool" = none
  z_dict : mg "dict" = none
  z_enumerate : mg "enumerate" = none
  z_int : mg "int" = none
  z_isinstance : mg "isinstance" = none
  z_len : mg "len" = none
  z_list : mg "list" = none
  z_max : mg "max" = none
  z_min : mg "min" = none
  z_range : mg "range" = none
  z_sorted : mg "sorted" = none
  z_str : mg "str" = none
  z_tuple : mg "tuple" = none
  z_zip : mg "zip" = none
/-- the defs that make lambdas -/
structure TxL (K : PySem.W.Frag) (mg : Str → Option Value) (base : Heap) (cA tP : Addr) : Prop where
  d_Web__settle : DxL K (clsA mg "Web") cA "_settle" "Web._settle" s_Web__settle ["self"]
  tb : LamX.TabB base mg cA tP
end Kt
namespace Kt
open PySem PySem.Spec PyProof.Rows L2

def LS : Str := "abcdefghijklmnopqrstuvwxyz"
def lowc (c : Nat) : Bool := decide (c ∈ LS.cps.toList)
/-- a text of 1 to m small letters -/
def isW (z : Str) (m : Int) : Bool := decide (1 ≤ (z.length : Int)) && (decide ((z.length : Int) ≤ m) && z.cps.toList.all lowc)
def Th.word (m : Int) : Th → Bool | .str z => isW z m | _ => false
def sp_is_word : Sp := fun vs H Q _ => ∃ v t m, vs = [v, .int m] ∧ Rep H v t ∧ ∀ H', Same H H' → Q (.bl (t.word m)) H'
theorem range_map_get {β : Type} {l : List Nat} (p : Nat → β) : ((List.range l.length).map fun i => p (l.getD i 0)) = l.map p := by
  apply List.ext_getElem
  · rw [List.length_map, List.length_map, List.length_range]
  · intro i h1 h2
    rw [List.length_map, List.length_range] at h1
    rw [List.getElem_map, List.getElem_map, List.getElem_range, List.getD_eq_getElem?_getD, List.getElem?_eq_getElem h1]
    rfl
section
variable {P : Program} {w : World} {K : PySem.W.Frag} {mg : Str → Option Value} {base : Heap}
theorem c_is_word (T : Tx K mg) : Cl P w K mg base CX0 1 "is_word" ["thing", "most"] sp_is_word := by
  refine Cl.mk0 T.d_is_word sc_is_word (fun vs H Q E h => ?_) (fun f cdv A outer s H vs Q E hr h => ?_)
  · obtain ⟨v, t, m, rfl, _⟩ := h
    rfl
  obtain ⟨v, t, m, rfl, r, q⟩ := h
  refine ⟨_, (pss_cons (ps_if (PW.pt (pw_or (pt_not (pt_val (pe_callB (id := "isinstance") (r := rIsi K) call_isi (by rfl) T.z_isinstance (by decide +kernel) (pa_cons (pv 0) (pa_cons (pe_bltn (v := .ty "str") (u := .type "str") (by rfl) T.z_str (by decide +kernel) rfl) pa_nil))))) (pw_or1 (pt_not (pt_chain op_le op_le pe_int (pe_callB call_len (by rfl) T.z_len (by decide +kernel) (pa_cons (pv 0) pa_nil)) (pv 1))))))
      (pss_one (ps_ret pe_bl))
      pss_nil)
    (pss_one (ps_ret (pe_callB (cr_all rfl) (by rfl) T.z_all (by decide +kernel) (pa_cons (pe_lc (own := [("sign", 2)]) (g := gName 2) (tt := tYes) rfl sc_is_word.nd (pi_str (pv 0)) (blkOk_by (own := [("sign", 2)]) (N := ["thing", "most", "sign"]) (sc := defScope s_is_word) (by decide +kernel)) (fun _ _ _ _ _ => (pg_name (i := 2) sc_is_word.nd rfl (Or.inl rfl))) (fun _ _ _ _ _ => pts_nil) (fun _ _ _ _ _ => (pe_cmpR op_in_sign (pv 2) (pe_glob (v := .str "abcdefghijklmnopqrstuvwxyz") (by rfl) T.m_LETTERS.choose_spec ⟨_, rfl⟩) rfl))) pa_nil))))), ?_⟩
  refine ⟨_, rfl, _, _, _, _, _, rfl, .ty _, r.tyx, kstr t, _, rfl, ?_⟩
  cases r with
  | str z hz ok =>
    refine iteF ?_
    refine ⟨_, rfl, _, _, rfl, ⟨Nat.le_of_lt (small1000 (by omega)), rfl⟩, _, _, rfl, rfl, _, rfl, ?_⟩
    have fin : ∀ (b : Bool), isW z m = b → ∀ H', Same H H' → Q (.bl b) H' := fun b e H' s => e ▸ q H' s
    refine ite2 (fun c1 => ?_) (fun c1 => ?_)
    · refine ⟨_, rfl, _, _, rfl, rfl, _, rfl, ?_⟩
      refine ite2 (fun c2 => ?_) (fun c2 => ?_)
      · refine fin false ?_ H (Same.refl H)
        have c2' : decide ((z.length : Int) ≤ m) = false := by simpa using c2
        unfold isW
        rw [c2', Bool.false_and, Bool.and_false]
      · have c2' : decide ((z.length : Int) ≤ m) = true := by simpa using c2
        refine ⟨_, rfl, _, rfl, fun D hD => ?_⟩
        refine lc_pure (walk_str) (fun i => .bl (lowc (z.cps.toList.getD i 0))) hD ?_ (fun _ _ => trivial) (fun x => rfl) (fun i x H1 H2 hi s1 y => ?_) (fun H1 s1 e1 => ?_)
        · have : z.cps.size ≤ 100 := hz
          omega
        · obtain ⟨rfl, c, hc, rfl⟩ := y
          refine ⟨Same.refl _, fun Q' q' => ⟨_, rfl, _, _, rfl, rfl, ?_⟩⟩
          have e : z.cps.toList.getD i 0 = c := by
            rw [List.getD_eq_getElem?_getD, Array.getElem?_toList, hc]
            rfl
          have e2 : lowc (z.cps.toList.getD i 0) = decide (c ∈ LS.cps.toList) := by rw [e]; rfl
          rw [e2] at q'
          exact q' _ (Same.refl _)
        · refine ⟨D, z.cps.toList.map lowc, rfl, SqL.of ?_, ?_⟩
          · rw [e1, List.map_map]
            exact congrArg (fun l => some (HO.lst l)) (range_map_get (l := z.cps.toList) fun c => V.bl (lowc c))
          · refine fin _ ?_ H1 s1
            unfold isW
            rw [c1, c2', Bool.true_and, Bool.true_and, List.all_map]
            rfl
    · refine ⟨_, rfl, iteT (fin false ?_ H (Same.refl H))⟩
      have c1' : decide (1 ≤ (z.length : Int)) = false := by simpa using c1
      unfold isW
      rw [c1', Bool.false_and]
  | _ => exact iteT (iteT (q H (Same.refl H)))
end
end Kt
namespace Kt
open PySem PySem.Spec PyProof.Rows L2
/-! ### slices -/
theorem cutV_lo (xs : List V) (k : Nat) : cutV xs (some (k : Int)) none = xs.drop k := by
  unfold cutV
  rw [HT.sIx_nat, HT.sIx_none]
  by_cases h : k ≤ xs.length
  · rw [Nat.min_eq_left h, ← List.length_drop, List.take_length]
  · rw [Nat.min_eq_right (by omega), List.drop_eq_nil_of_le (Nat.le_refl _), List.drop_eq_nil_of_le (by omega)]
    simp
theorem cutV_hi (xs : List V) (k : Nat) : cutV xs none (some (k : Int)) = xs.take k := by
  unfold cutV
  rw [HT.sIx_nat, HT.sIx_none, Nat.sub_zero, List.drop_zero, List.take_eq_take_iff]
  omega
theorem sl_lo {K : PySem.W.Frag} {H : Hp} {a : Addr} {xs : List V} {Q : VK} (k : Nat) (h : H a = some (.tup xs)) (hk : 0 < k) (hn : 0 < xs.length) (q : ∀ p, H p = none → Q (.ref p) (upd H p (.tup (xs.drop k)))) : rSlA K (.ref a) (some (k : Int)) none H Q := by
  refine ⟨a, xs, rfl, SqT.of h, fun e => absurd e.1 ?_, fun _ p hp => ?_⟩
  · rw [HT.sIx_nat]
    omega
  · rw [cutV_lo]
    exact q p hp
theorem sl_hi {K : PySem.W.Frag} {H : Hp} {a : Addr} {xs : List V} {Q : VK} (k : Nat) (h : H a = some (.tup xs)) (hk : k < xs.length) (q : ∀ p, H p = none → Q (.ref p) (upd H p (.tup (xs.take k)))) : rSlA K (.ref a) none (some (k : Int)) H Q := by
  refine ⟨a, xs, rfl, SqT.of h, fun e => absurd e.2 ?_, fun _ p hp => ?_⟩
  · rw [HT.sIx_nat]
    omega
  · rw [cutV_hi]
    exact q p hp
theorem cutS_len (z : Str) (lo hi : Option Int) : (cutS z lo hi).length ≤ z.length := by
  show ((z.cps.toList.drop _).take _).length ≤ z.cps.size
  rw [List.length_take, List.length_drop, Array.length_toList]
  omega
theorem cutS_ok {z : Str} (h : okS z) (lo hi : Option Int) : okS (cutS z lo hi) := fun c hc => h c (List.mem_of_mem_drop (List.mem_of_mem_take hc))
/-! ### what the program tells -/
def isHl (z : Str) : Bool := decide (V.str (cutS z none (some 1)) = V.str "?") && isW (cutS z (some 1) none) 4
def Th.hole : Th → Bool | .str z => isHl z | _ => false
def swl (f : Th → Int) (acc : Int) : List Th → Int
  | [] => acc
  | p :: ps => if f p = 0 then 0 else swl f (acc + f p) ps
def sw (h : Bool) : Nat → Th → Int
  | 0, _ => 0
  | d + 1, t => if t.hole then (if h then 1 else 0) else match t with
    | .tup (x :: ps) => if ps.length ≤ 3 ∧ x.word 8 = true then swl (sw h d) 1 ps else 0
    | _ => 0
def sp_is_name : Sp := fun vs H Q _ => ∃ v t, vs = [v] ∧ Rep H v t ∧ ∀ H', Same H H' → Q (.bl (t.word 8)) H'
def sp_is_hole : Sp := fun vs H Q _ => ∃ v t, vs = [v] ∧ Rep H v t ∧ ∀ H', Same H H' → Q (.bl t.hole) H'
def sp_size_within (n : Nat) : Sp := fun vs H Q _ => ∃ v t b, ∃ d : Nat, vs = [v, .bl b, .int (d : Int)] ∧ d < n ∧ Rep H v t ∧ ∀ H', Same H H' → Q (.int (sw b d t)) H'
def within (b : Bool) (t : Th) : Bool := decide (1 ≤ sw b 5 t) && decide (sw b 5 t ≤ 30)
def sp_is_term : Sp := fun vs H Q _ => ∃ v t, vs = [v] ∧ Rep H v t ∧ ∀ H', Same H H' → Q (.bl (within false t)) H'
def sp_is_pattern : Sp := fun vs H Q _ => ∃ v t, vs = [v] ∧ Rep H v t ∧ ∀ H', Same H H' → Q (.bl (within true t)) H'
section
variable {P : Program} {w : World} {K : PySem.W.Frag} {mg : Str → Option Value} {base : Heap}
theorem c_is_name (T : Tx K mg) : Cl P w K mg base CX0 2 "is_name" ["thing"] sp_is_name := by
  refine Cl.mk0 T.d_is_name sc_is_name (fun vs H Q E h => ?_) (fun f cdv A outer s H vs Q E hr h => ?_)
  · obtain ⟨v, t, rfl, _⟩ := h
    rfl
  obtain ⟨v, t, rfl, r, q⟩ := h
  refine ⟨_, (pss_one (ps_ret (pe_cl (c_is_word T) hr (by omega) rfl (pa_cons (pv 0) (pa_cons (pe_glob (v := .int 8) (by rfl) T.m_MOST_NAME.choose_spec ⟨_, rfl⟩) pa_nil))))), ?_⟩
  exact ⟨_, rfl, v, t, 8, rfl, r, q⟩
theorem c_is_hole (T : Tx K mg) : Cl P w K mg base CX0 2 "is_hole" ["thing"] sp_is_hole := by
  refine Cl.mk0 T.d_is_hole sc_is_hole (fun vs H Q E h => ?_) (fun f cdv A outer s H vs Q E hr h => ?_)
  · obtain ⟨v, t, rfl, _⟩ := h
    rfl
  obtain ⟨v, t, rfl, r, q⟩ := h
  refine ⟨_, (pss_one (ps_ret (pe_and (pe_callB (id := "isinstance") (r := rIsi K) call_isi (by rfl) T.z_isinstance (by decide +kernel) (pa_cons (pv 0) (pa_cons (pe_bltn (v := .ty "str") (u := .type "str") (by rfl) T.z_str (by decide +kernel) rfl) pa_nil))) (pe_and (pe_cmpR op_eq (pe_slice sl_str (pv 0) po_no (po_some pe_int)) pe_str (nomark _)) (pe_one (pe_cl (c_is_word T) hr (by omega) rfl (pa_cons (pe_slice sl_str (pv 0) (po_some pe_int) po_no) (pa_cons (pe_glob (v := .int 4) (by rfl) T.m_MOST_HOLE.choose_spec ⟨_, rfl⟩) pa_nil)))))))), ?_⟩
  refine ⟨_, rfl, _, _, _, _, _, rfl, .ty _, r.tyx, kstr t, _, rfl, ?_⟩
  cases r with
  | str z hz ok =>
    have hz' : z.length ≤ sizeLine := Nat.le_of_lt (small1000 (by omega))
    have fin : ∀ (b : Bool), isHl z = b → ∀ H', Same H H' → Q (.bl b) H' := fun b e H' s => e ▸ q H' s
    refine iteT ⟨_, rfl, 1, rfl, _, rfl, hz', rfl, _, rfl, ite2 (fun c => ?_) (fun c => ?_)⟩
    · refine ⟨_, rfl, 1, rfl, _, rfl, hz', _, .str _, 4, rfl, .str _ (Nat.le_trans (cutS_len _ _ _) hz) (cutS_ok ok _ _), fun H' s => ?_⟩
      refine fin _ ?_ H' s
      unfold isHl
      rw [c, Bool.true_and]
      rfl
    · refine fin _ ?_ H (Same.refl H)
      unfold isHl
      rw [Bool.eq_false_iff.mpr c, Bool.false_and]
  | _ => exact iteF (q H (Same.refl H))
theorem c_size_within_n (T : Tx K mg) : ∀ n : Nat, Cl P w K mg base CX0 (n + 2) "size_within" ["thing", "holes", "deep"] (sp_size_within n)
  | 0 => Cl.no T.d_size_within fun vs H Q E h => by
    obtain ⟨v, t, b, d, _, hd, _⟩ := h
    exact absurd hd (Nat.not_lt_zero d)
  | n + 1 => by
    have ih := c_size_within_n T n
    refine Cl.mk0 T.d_size_within sc_size_within (fun vs H Q E h => ?_) (fun f cdv A outer s H vs Q E hr h => ?_)
    · obtain ⟨v, t, b, d, rfl, _⟩ := h
      rfl
    obtain ⟨v, t, b, d, rfl, hd, r, q⟩ := h
    refine ⟨_, (pss_cons (ps_if (pt_cmpR op_eq (pv 2) pe_int (nomark _))
      (pss_one (ps_ret pe_int))
      pss_nil)
    (pss_cons (ps_if (pt_val (pe_cl (c_is_hole T) hr (by omega) rfl (pa_cons (pv 0) pa_nil)))
      (pss_one (ps_ret (pe_ifExp (pt_val (pv 1)) pe_int pe_int)))
      pss_nil)
    (pss_cons (ps_if (PW.pt (pw_or (pt_not (pt_val (pe_callB (id := "isinstance") (r := rIsi K) call_isi (by rfl) T.z_isinstance (by decide +kernel) (pa_cons (pv 0) (pa_cons (pe_bltn (v := .ty "tuple") (u := .type "tuple") (by rfl) T.z_tuple (by decide +kernel) rfl) pa_nil))))) (pw_or (pt_not (pt_chain op_le op_le pe_int (pe_callB call_len (by rfl) T.z_len (by decide +kernel) (pa_cons (pv 0) pa_nil)) (pe_op op_add pe_int (pe_glob (v := .int 3) (by rfl) T.m_MOST_PARTS.choose_spec ⟨_, rfl⟩)))) (pw_or1 (pt_not (pt_val (pe_cl (c_is_name T) hr (by omega) rfl (pa_cons (pe_ix ix_tup (pv 0) pe_int (fun _ _ => rfl)) pa_nil))))))))
      (pss_one (ps_ret pe_int))
      pss_nil)
    (pss_cons (ps_set (i := 3) sc_size_within.nd rfl (Or.inl rfl) pe_int)
    (pss_cons (ps_for PassesOwn.never rfl (pi_tup (pe_slice sl_tupA (pv 0) (po_some pe_int) po_no)) (pg_name (i := 4) sc_size_within.nd rfl (Or.inl rfl))
      (pss_cons (ps_set (i := 5) sc_size_within.nd rfl (Or.inl rfl) (pe_cl ih hr (by omega) rfl (pa_cons (pv 4) (pa_cons (pv 1) (pa_cons (pe_op op_sub (pv 2) pe_int) pa_nil)))))
      (pss_cons (ps_if (pt_cmpR op_eq (pv 5) pe_int (nomark _))
        (pss_one (ps_ret pe_int))
        pss_nil)
      (pss_one (ps_aug (i := 3) sc_size_within.nd rfl (Or.inl rfl) (pv 5) ip_add)))))
    (pss_one (ps_ret (pv 3)))))))), ?_⟩
    refine ⟨_, rfl, rfl, _, rfl, ite2 (fun c => ?_) (fun c => ?_)⟩
    · have e : (d : Int) = 0 := V.int.inj (of_decide_eq_true c)
      have e0 : d = 0 := by omega
      subst e0
      exact q H (Same.refl H)
    have d0 : d ≠ 0 := fun e => by
      subst e
      exact c (decide_eq_true rfl)
    obtain ⟨d', rfl⟩ : ∃ d', d = d' + 1 := ⟨d - 1, by omega⟩
    have fin : ∀ (i : Int), sw b (d' + 1) t = i → ∀ H', Same H H' → Q (.int i) H' := fun i e H' s => e ▸ q H' s
    refine ⟨_, rfl, v, t, rfl, r, fun H1 s1 => ⟨_, rfl, ite2 (fun c1 => ?_) (fun c1 => ?_)⟩⟩
    · have e : sw b (d' + 1) t = if b then 1 else 0 := by
        unfold sw
        rw [if_pos c1]
      cases b with
      | true => exact ⟨_, rfl, _, rfl, iteT (fin 1 e H1 s1)⟩
      | false => exact ⟨_, rfl, _, rfl, iteF (fin 0 e H1 s1)⟩
    have r1 := r.wk (Wk.same s1)
    refine ⟨_, rfl, _, _, _, _, _, rfl, .ty _, r1.tyx, ktup t, _, rfl, ?_⟩
    cases r1 with
    | @tup a xs l ha hn hl =>
      have no : ∀ H', Same H H' → (∀ x ps, l = x :: ps → ¬ (ps.length ≤ 3 ∧ x.word 8 = true)) → Q (.int 0) H' := fun H' s' k => fin 0 (by
        unfold sw
        rw [if_neg c1]
        cases l with
        | nil => rfl
        | cons x ps =>
          show (if ps.length ≤ 3 ∧ x.word 8 = true then swl (sw b d') 1 ps else 0) = 0
          rw [if_neg (k x ps rfl)]) H' s'
      have hlen := hl.length
      refine iteF ⟨_, rfl, _, _, rfl, .inr ⟨xs, SqT.of ha, rfl⟩, _, _, rfl, rfl, _, rfl, ite2 (fun c2 => ?_) (fun c2 => ?_)⟩
      · have c2' : 1 ≤ (xs.length : Int) := of_decide_eq_true c2
        refine ⟨_, _, rfl, rfl, _, _, rfl, rfl, _, rfl, ite2 (fun c3 => ?_) (fun c3 => ?_)⟩
        · have c3' : ¬ (xs.length : Int) ≤ 1 + 3 := of_decide_eq_false (by simpa using c3)
          refine iteT (no H1 s1 fun x ps e k => ?_)
          rw [e, List.length_cons] at hlen
          omega
        · have c3' : (xs.length : Int) ≤ 1 + 3 := of_decide_eq_true (by simpa using c3)
          cases hl with
          | nil =>
            have : (1 : Int) ≤ 0 := c2'
            omega
          | @cons y ys x ps hx hps =>
            rw [List.length_cons] at c3'
            have hp3 : ps.length ≤ 3 := by
              have := hps.length
              omega
            refine ⟨_, rfl, _, _, _, _, rfl, rfl, SqT.of ha, atI_nat (j := 0) rfl, y, x, rfl, hx, fun H2 s2 => ⟨_, rfl, ite2 (fun c4 => ?_) (fun c4 => ?_)⟩⟩
            · refine no H2 (s1.trans s2) fun x' ps' e k => ?_
              cases e
              rw [k.2] at c4
              cases c4
            · have c4' : x.word 8 = true := by simpa using c4
              have s12 := s1.trans s2
              have ha2 := s2 _ _ ha
              refine ⟨_, rfl, 1, rfl, ?_⟩
              refine sl_lo (K := K) 1 ha2 (by omega) (by rw [List.length_cons]; omega) fun p hp => ?_
              have s3 : Same H (upd H2 p (.tup ((y :: ys).drop 1))) := s12.trans (same_new hp _)
              have hps2 : RepL H2 ys ps := hps.wk (Wk.same s2)
              have val : ∀ acc, swl (sw b d') 1 ps = acc → ∀ H', Same H H' → Q (.int acc) H' := fun acc e H' s' => fin acc (by
                unfold sw
                rw [if_neg c1]
                show (if ps.length ≤ 3 ∧ x.word 8 = true then swl (sw b d') 1 ps else 0) = acc
                rw [if_pos ⟨hp3, c4'⟩, e]) H' s'
              refine ⟨p, rfl, ⟨ys, SqT.of upd_same⟩, for_tup (xs := ys) (fun i σ H' => ∃ acc y4 y5, σ = [some (.ref a), some (.bl b), some (.int ((d' + 1 : Nat) : Int)), some (.int acc), y4, y5] ∧ Same H2 H' ∧ H' p = some (.tup ys) ∧
                swl (sw b d') 1 ps = swl (sw b d') acc (ps.drop i)) ⟨1, none, none, rfl, same_new hp _, upd_same, rfl⟩ (fun i σ H' _ h' => ?_) (fun i z σ H' hz h' => ?_) (fun σ H' h' => ?_)⟩
              · obtain ⟨acc, y4, y5, _, _, hpH, _⟩ := h'
                exact SqT.of hpH
              · obtain ⟨acc, y4, y5, rfl, sH, hpH, eq⟩ := h'
                obtain ⟨t, ht, hr'⟩ := (hps2.wk (Wk.same sH)).get' hz
                obtain ⟨hi, hti⟩ := List.getElem?_eq_some_iff.mp ht
                rw [List.drop_eq_getElem_cons hi, hti] at eq
                refine ⟨_, rfl, _, rfl, _, rfl, _, _, rfl, rfl, z, t, b, d', ?_, by omega, hr', fun H3 s3' => ?_⟩
                · have : ((d' + 1 : Nat) : Int) - 1 = (d' : Int) := by omega
                  show [z, V.bl b, V.int (((d' + 1 : Nat) : Int) - 1)] = _
                  rw [this]
                refine ⟨_, rfl, rfl, _, rfl, ite2 (fun c5 => ?_) (fun c5 => ?_)⟩
                · refine val 0 ?_ H3 (s12.trans (sH.trans s3'))
                  rw [eq]
                  show (if sw b d' t = 0 then 0 else _) = 0
                  rw [if_pos (V.int.inj (of_decide_eq_true c5))]
                · refine ⟨_, rfl, _, rfl, _, _, rfl, rfl, acc + sw b d' t, _, _, rfl, sH.trans s3', s3' _ _ hpH, ?_⟩
                  rw [eq]
                  show (if sw b d' t = 0 then 0 else _) = _
                  rw [if_neg fun e => c5 (by rw [e]; rfl)]
              · obtain ⟨acc, y4, y5, rfl, sH, hpH, eq⟩ := h'
                rw [List.drop_eq_nil_of_le (by rw [hps2.length]; exact Nat.le_refl _)] at eq
                exact ⟨_, rfl, val acc eq H' (s12.trans sH)⟩
      · refine ⟨_, rfl, iteT (no H1 s1 fun x ps e k => ?_)⟩
        have c2' : ¬ 1 ≤ (xs.length : Int) := of_decide_eq_false (by simpa using c2)
        rw [e, List.length_cons] at hlen
        omega
    | _ => exact iteT (iteT (fin 0 (by unfold sw; rw [if_neg c1]) H1 s1))
theorem c_size_within (T : Tx K mg) : Cl P w K mg base CX0 8 "size_within" ["thing", "holes", "deep"] (sp_size_within 6) := c_size_within_n T 6
end
end Kt
namespace Kt
open PySem PySem.Spec PyProof.Rows L2
section
variable {P : Program} {w : World} {K : PySem.W.Frag} {mg : Str → Option Value} {base : Heap}
theorem c_is_term (T : Tx K mg) : Cl P w K mg base CX0 9 "is_term" ["thing"] sp_is_term := by
  refine Cl.mk0 T.d_is_term sc_is_term (fun vs H Q E h => ?_) (fun f cdv A outer s H vs Q E hr h => ?_)
  · obtain ⟨v, t, rfl, _⟩ := h
    rfl
  obtain ⟨v, t, rfl, r, q⟩ := h
  refine ⟨_, (pss_one (ps_ret (pe_chain op_le op_le pe_int (pe_cl (c_size_within T) hr (by omega) rfl (pa_cons (pv 0) (pa_cons pe_bl (pa_cons (pe_glob (v := .int 5) (by rfl) T.m_MOST_DEEP.choose_spec ⟨_, rfl⟩) pa_nil)))) (pe_glob (v := .int 30) (by rfl) T.m_MOST_SIZE.choose_spec ⟨_, rfl⟩)))), ?_⟩
  refine ⟨_, rfl, v, t, false, 5, rfl, by omega, r, fun H' s' => ⟨_, _, rfl, rfl, _, rfl, ite2 (fun c => ?_) (fun c => ?_)⟩⟩
  · refine ⟨_, _, rfl, rfl, ?_⟩
    have e : within false t = decide (sw false 5 t ≤ 30) := by
      unfold within
      rw [c, Bool.true_and]
    have q' := q H' s'
    rw [e] at q'
    exact q'
  · have e : within false t = false := by
      unfold within
      rw [Bool.eq_false_iff.mpr c, Bool.false_and]
    have q' := q H' s'
    rw [e] at q'
    exact q'
end
end Kt
namespace Kt
open PySem PySem.Spec PyProof.Rows L2
/-! ### texts that grow -/
theorem app_list (x y : Str) : (x ++ y).cps.toList = x.cps.toList ++ y.cps.toList := Array.toList_append
theorem app_len (x y : Str) : (x ++ y).length = x.length + y.length := Array.size_append
theorem len_list (x : Str) : x.length = x.cps.toList.length := rfl
theorem LS_list : LS.cps.toList = [97, 98, 99, 100, 101, 102, 103, 104, 105, 106, 107, 108, 109, 110, 111, 112, 113, 114, 115, 116, 117, 118, 119, 120, 121, 122] := by decide +kernel
theorem lowc_lt {c : Nat} (h : lowc c = true) : c < 1114112 := by
  have h1 : c ∈ LS.cps.toList := of_decide_eq_true h
  rw [LS_list] at h1
  simp only [List.mem_cons, List.not_mem_nil, or_false] at h1
  omega
theorem isW_of {z : Str} {m : Int} (h1 : 1 ≤ z.length) (h2 : (z.length : Int) ≤ m) (h : z.cps.toList.all lowc = true) : isW z m = true := by
  unfold isW
  rw [h, decide_eq_true (by omega : 1 ≤ (z.length : Int)), decide_eq_true h2]
  rfl
theorem isW_out {z : Str} {m : Int} (h : isW z m = true) : 1 ≤ z.length ∧ (z.length : Int) ≤ m ∧ z.cps.toList.all lowc = true := by
  unfold isW at h
  simp only [Bool.and_eq_true, decide_eq_true_eq] at h
  exact ⟨by omega, h.2.1, h.2.2⟩
theorem okS_low {z : Str} (h : z.cps.toList.all lowc = true) : okS z := fun c hc => lowc_lt (List.all_eq_true.mp h c hc)
theorem isW_rep {z : Str} {m : Int} {H : Hp} (h : isW z m = true) (hm : m ≤ 100) : Rep H (.str z) (.str z) := by
  obtain ⟨_, h2, h3⟩ := isW_out h
  exact .str z (by omega) (okS_low h3)
theorem str_ext {x y : Str} (h : x.cps.toList = y.cps.toList) : x = y := by
  cases x with | mk a => cases y with | mk b => exact congrArg Str.mk (Array.toList_inj.mp h)
end Kt
namespace Kt
open PySem PySem.Spec PyProof.Rows L2
/-! ### the draws: a dict at d, over the script's list at c -/
def stA (c : Addr) (a r t m : Int) : List (Key × V) := [(Sum.inr "cells", .ref c), (Sum.inr "at", .int a), (Sum.inr "rest", .int r), (Sum.inr "turn", .int t), (Sum.inr "more", .int m)]
section
variable {c : Addr} {a r t m : Int}
theorem vA_cells : valV (stA c a r t m) (Sum.inr "cells") = some (.ref c) := rfl
theorem vA_at : valV (stA c a r t m) (Sum.inr "at") = some (.int a) := rfl
theorem vA_rest : valV (stA c a r t m) (Sum.inr "rest") = some (.int r) := rfl
theorem vA_turn : valV (stA c a r t m) (Sum.inr "turn") = some (.int t) := rfl
theorem vA_more : valV (stA c a r t m) (Sum.inr "more") = some (.int m) := rfl
theorem pA_at (x : Int) : putK (stA c a r t m) (Sum.inr "at") (.int x) = stA c x r t m := rfl
theorem pA_rest (x : Int) : putK (stA c a r t m) (Sum.inr "rest") (.int x) = stA c a x t m := rfl
theorem pA_turn (x : Int) : putK (stA c a r t m) (Sum.inr "turn") (.int x) = stA c a r x m := rfl
theorem pA_more (x : Int) : putK (stA c a r t m) (Sum.inr "more") (.int x) = stA c a r t x := rfl
theorem mA : mergeK [] (stA c a r t m) = stA c a r t m := rfl
theorem dA_cells {H : Hp} {d : Addr} (h : H d = some (.dK (stA c a r t m))) : DGet H d (.str "cells") (some (.ref c)) := DGet.k (k := Sum.inr "cells") h
theorem dA_at {H : Hp} {d : Addr} (h : H d = some (.dK (stA c a r t m))) : DGet H d (.str "at") (some (.int a)) := DGet.k (k := Sum.inr "at") h
theorem dA_rest {H : Hp} {d : Addr} (h : H d = some (.dK (stA c a r t m))) : DGet H d (.str "rest") (some (.int r)) := DGet.k (k := Sum.inr "rest") h
theorem dA_turn {H : Hp} {d : Addr} (h : H d = some (.dK (stA c a r t m))) : DGet H d (.str "turn") (some (.int t)) := DGet.k (k := Sum.inr "turn") h
theorem dA_more {H : Hp} {d : Addr} (h : H d = some (.dK (stA c a r t m))) : DGet H d (.str "more") (some (.int m)) := DGet.k (k := Sum.inr "more") h
theorem stA_few : (stA c a r t m).length < sizeLine := by show 5 < sizeLine; decide
theorem uA_at {H : Hp} {d : Addr} (h : H d = some (.dK (stA c a r t m))) (x : Int) : DPut H d (.str "at") (.int x) (upd H d (.dK (stA c x r t m))) := DPut.k (k := Sum.inr "at") h stA_few
theorem uA_rest {H : Hp} {d : Addr} (h : H d = some (.dK (stA c a r t m))) (x : Int) : DPut H d (.str "rest") (.int x) (upd H d (.dK (stA c a x t m))) := DPut.k (k := Sum.inr "rest") h stA_few
theorem uA_turn {H : Hp} {d : Addr} (h : H d = some (.dK (stA c a r t m))) (x : Int) : DPut H d (.str "turn") (.int x) (upd H d (.dK (stA c a r x m))) := DPut.k (k := Sum.inr "turn") h stA_few
theorem uA_more {H : Hp} {d : Addr} (h : H d = some (.dK (stA c a r t m))) (x : Int) : DPut H d (.str "more") (.int x) (upd H d (.dK (stA c a r t x))) := DPut.k (k := Sum.inr "more") h stA_few
end
def DrA (K : PySem.W.Frag) (d c : Addr) (H : Hp) : Prop := ∃ (ns : List Int) (a r t m : Int), H d = some (.dK (stA c a r t m)) ∧ SqL K H c (ns.map V.int) ∧ 0 ≤ a ∧ 0 ≤ r ∧ 0 ≤ t ∧ 0 ≤ m ∧ m < 2147483647
/-- all but the draws stands as it stood -/
structure DUA (K : PySem.W.Frag) (d c : Addr) (H H' : Hp) : Prop where
  old : ∀ a o, a ≠ d → H a = some o → H' a = some o
  dr : DrA K d c H'
theorem sql_keep {K : PySem.W.Frag} {H H' : Hp} {d c : Addr} {xs : List V} {kvs : List (Key × V)} (h : SqL K H c xs) (hd : H d = some (.dK kvs)) (k : ∀ a o, a ≠ d → H a = some o → H' a = some o) : SqL K H' c xs := by
  rcases h with (h | ⟨o, h⟩) | h
  · exact .inl (.inl (k _ _ (ne_of h hd fun e => nomatch e) h))
  · exact .inl (.inr ⟨o, k _ _ (ne_of h hd fun e => nomatch e) h⟩)
  · exact .inr h
theorem sql_same {K : PySem.W.Frag} {H H' : Hp} {c : Addr} {xs : List V} (h : SqL K H c xs) (s : Same H H') : SqL K H' c xs := by
  rcases h with (h | ⟨o, h⟩) | h
  · exact .inl (.inl (s _ _ h))
  · exact .inl (.inr ⟨o, s _ _ h⟩)
  · exact .inr h
section
variable {K : PySem.W.Frag} {d c : Addr} {H H' H1 H2 : Hp}
theorem DrA.same (h : DrA K d c H) (s : Same H H') : DrA K d c H' := by
  obtain ⟨ns, a, r, t, m, h1, h2, q⟩ := h
  exact ⟨ns, a, r, t, m, s _ _ h1, sql_same h2 s, q⟩
theorem DUA.same (h : DrA K d c H) (s : Same H H') : DUA K d c H H' := ⟨fun a o _ q => s a o q, h.same s⟩
theorem DUA.refl (h : DrA K d c H) : DUA K d c H H := DUA.same h (Same.refl H)
theorem DUA.trans (a : DUA K d c H H1) (b : DUA K d c H1 H2) : DUA K d c H H2 := ⟨fun x o n q => b.old x o n (a.old x o n q), b.dr⟩
theorem DUA.then (a : DUA K d c H H1) (b : Same H1 H2) : DUA K d c H H2 := a.trans (DUA.same a.dr b)
theorem DUA.tup (h : DrA K d c H) (u : DUA K d c H H') {b : Addr} {xs : List V} (q : H b = some (.tup xs)) : H' b = some (.tup xs) := by
  obtain ⟨ns, a, r, t, m, h1, _⟩ := h
  exact u.old _ _ (ne_of q h1 fun e => nomatch e) q
theorem DUA.lst (h : DrA K d c H) (u : DUA K d c H H') {b : Addr} {xs : List V} (q : H b = some (.lst xs)) : H' b = some (.lst xs) := by
  obtain ⟨ns, a, r, t, m, h1, _⟩ := h
  exact u.old _ _ (ne_of q h1 fun e => nomatch e) q
theorem DUA.wk (h : DrA K d c H) (u : DUA K d c H H') : Wk H H' := by
  refine ⟨fun a xs q => u.tup h q, fun a xs q => ⟨xs, u.lst h q⟩, fun a xs q => ?_⟩
  by_cases e : a = d
  · subst e
    obtain ⟨ns, a, r, t, m, h1, _⟩ := u.dr
    exact ⟨_, h1⟩
  · exact ⟨xs, u.old a _ e q⟩
theorem DrA.ne (h : DrA K d c H) {p : Addr} (hp : H p = none) : p ≠ d := by
  obtain ⟨ns, a, r, t, m, h1, _⟩ := h
  exact (ne_of_none h1 hp).symm
end
theorem ixN_natA {n j : Nat} (hj : j < n) : ixN n (j : Int) = some j := by
  unfold ixN
  rw [if_pos (by omega), if_pos (by omega)]
  simp
theorem fmod_inA {a b : Int} (h : 0 < b) : 0 ≤ a.fmod b ∧ a.fmod b < b := ⟨Int.fmod_nonneg_of_pos a h, Int.fmod_lt_of_pos a h⟩
/-- the list at m is none of the draws' -/
def Far (K : PySem.W.Frag) (c m : Addr) : Prop := m ≠ c ∨ ∀ H : Hp, ∃ ns : List Int, SqL K H c (ns.map V.int)
theorem DrA.far {K : PySem.W.Frag} {d c p : Addr} {H : Hp} (h : DrA K d c H) (hp : H p = none) : Far K c p := by
  obtain ⟨ns, a, r, t, m, h1, h2, _⟩ := h
  rcases h2 with (h | ⟨o, h⟩) | h
  · exact .inl (ne_of_none h hp).symm
  · exact .inl (ne_of_none h hp).symm
  · exact .inr fun _ => ⟨ns, .inr h⟩
theorem DrA.mut {K : PySem.W.Frag} {d c m : Addr} {H : Hp} {o : HO} (h : DrA K d c H) (md : m ≠ d) (far : Far K c m) : DrA K d c (upd H m o) := by
  obtain ⟨ns, a, r, t, mm, h1, h2, h3⟩ := h
  rcases far with ne | k
  · refine ⟨ns, a, r, t, mm, by rw [upd_ne md.symm]; exact h1, ?_, h3⟩
    rcases h2 with (h | ⟨u, h⟩) | h
    · exact .inl (.inl (by rw [upd_ne ne.symm]; exact h))
    · exact .inl (.inr ⟨u, by rw [upd_ne ne.symm]; exact h⟩)
    · exact .inr h
  · obtain ⟨ns', h⟩ := k (upd H m o)
    exact ⟨ns', a, r, t, mm, by rw [upd_ne md.symm]; exact h1, h, h3⟩
def sp_begunA (K : PySem.W.Frag) : Sp := fun vs H Q _ => ∃ (a : Addr) (ns : List Int), vs = [.ref a] ∧ SqL K H a (ns.map V.int) ∧ ∀ d H', Same H H' → H d = none → DrA K d a H' → Q (.ref d) H'
def sp_takeA (K : PySem.W.Frag) : Sp := fun vs H Q _ => ∃ (d c : Addr) (n : Int), vs = [.ref d, .int n] ∧ 0 < n ∧ n < 1000000 ∧ DrA K d c H ∧ ∀ r H', 0 ≤ r → r < n → DUA K d c H H' → Q (.int r) H'
section
variable {P : Program} {w : World} {K : PySem.W.Frag} {mg : Str → Option Value} {base : Heap}
theorem c__law_begun (T : Tx K mg) : Cl P w K mg base CX0 1 "_law_begun" ["_law_script"] (sp_begunA K) := by
  refine Cl.mk0 T.d__law_begun sc__law_begun (fun vs H Q E h => ?_) (fun f cdv A outer s H vs Q E hr h => ?_)
  · obtain ⟨a, ns, rfl, _⟩ := h
    rfl
  obtain ⟨a, ns, rfl, hS, q⟩ := h
  refine ⟨_, (pss_one (ps_ret (pe_disp (pps_cons pe_str (pv 0) (pps_cons pe_str pe_int (pps_cons pe_str pe_int (pps_cons pe_str pe_int (pps_cons pe_str pe_int pps_nil))))) rfl rfl (by simp) (by decide)))), ?_⟩
  refine fun p hp => ⟨_, rfl, ?_⟩
  refine ⟨upd_same, stA a 0 0 0 17, rfl, by show 5 ≤ 15; decide, ?_⟩
  rw [mA]
  have e : upd (upd H p (.dK [])) p (.dK (stA a 0 0 0 17)) = upd H p (.dK (stA a 0 0 0 17)) := upd_upd
  rw [e]
  exact q p _ (same_new hp _) hp ⟨ns, 0, 0, 0, 17, upd_same, sql_same hS (same_new hp _), by decide, by decide, by decide, by decide, by decide⟩
theorem c__law_take (T : Tx K mg) : Cl P w K mg base CX0 1 "_law_take" ["_law_state", "_law_many"] (sp_takeA K) := by
  refine Cl.mk0 T.d__law_take sc__law_take (fun vs H Q E h => ?_) (fun f cdv A outer s H vs Q E hr h => ?_)
  · obtain ⟨d, c, n, rfl, _⟩ := h
    rfl
  obtain ⟨d, c, n, rfl, hn0, hn, hD, q⟩ := h
  obtain ⟨ns, a0, r0, t0, m0, hd, hc, ha, hr0, ht, hm, hm2⟩ := hD
  refine ⟨_, (pss_cons (ps_set (i := 2) sc__law_take.nd rfl (Or.inl rfl) (pe_dget (hu_of hr) (pv 0) pe_str (fun _ _ => rfl)))
    (Evl.pss_cut (ps_while PassesOwn.never (PW.pt (pw_and (pt_cmpR op_lt (pe_dget (hu_of hr) (pv 0) pe_str (fun _ _ => rfl)) pe_int (nomark _)) (pw_and1 (pt_cmpR op_lt (pe_dget (hu_of hr) (pv 0) pe_str (fun _ _ => rfl)) (pe_callB call_len (by rfl) T.z_len (by decide +kernel) (pa_cons (pv 2) pa_nil)) (nomark _)))))
      (pss_cons (ps_if (pt_cmpR op_ge (pe_ix ix_list (pv 2) (pe_dget (hu_of hr) (pv 0) pe_str (fun _ _ => rfl)) (fun _ _ => rfl)) (pe_op op_pow pe_int pe_int) (nomark _))
        (pss_one (ps_dput (hu_of hr) (pv 0) pe_str (pe_ix ix_list (pv 2) (pe_dget (hu_of hr) (pv 0) pe_str (fun _ _ => rfl)) (fun _ _ => rfl)) rfl))
        pss_nil)
      (pss_one (ps_dput (hu_of hr) (pv 0) pe_str (pe_op op_add (pe_dget (hu_of hr) (pv 0) pe_str (fun _ _ => rfl)) pe_int) rfl))))
    (pss_cons (ps_if (pt_cmpR op_gt (pe_dget (hu_of hr) (pv 0) pe_str (fun _ _ => rfl)) pe_int (nomark _))
      (pss_cons (ps_set (i := 3) sc__law_take.nd rfl (Or.inl rfl) (pe_op op_modN (pe_dget (hu_of hr) (pv 0) pe_str (fun _ _ => rfl)) (pv 1)))
      (pss_cons (ps_dput (hu_of hr) (pv 0) pe_str (pe_op op_fdivN (pe_dget (hu_of hr) (pv 0) pe_str (fun _ _ => rfl)) (pv 1)) rfl)
      (pss_one (ps_ret (pv 3)))))
      pss_nil)
    (pss_cons (ps_set (i := 4) sc__law_take.nd rfl (Or.inl rfl) pe_int)
    (Evl.pss_cut (ps_if (pt_cmpR op_gt (pe_callB call_len (by rfl) T.z_len (by decide +kernel) (pa_cons (pv 2) pa_nil)) pe_int (nomark _))
      (pss_one (ps_set (i := 4) sc__law_take.nd rfl (Or.inl rfl) (pe_ix ix_list (pv 2) (pe_op op_modN (pe_dget (hu_of hr) (pv 0) pe_str (fun _ _ => rfl)) (pe_callB call_len (by rfl) T.z_len (by decide +kernel) (pa_cons (pv 2) pa_nil))) (fun _ _ => rfl))))
      pss_nil)
    (pss_cons (ps_dput (hu_of hr) (pv 0) pe_str (pe_op op_add (pe_dget (hu_of hr) (pv 0) pe_str (fun _ _ => rfl)) pe_int) rfl)
    (pss_cons (ps_dput (hu_of hr) (pv 0) pe_str (pe_op op_modN (pe_op op_add (pe_op op_add (pe_op op_mul (pe_dget (hu_of hr) (pv 0) pe_str (fun _ _ => rfl)) pe_int) (pv 4)) (pe_dget (hu_of hr) (pv 0) pe_str (fun _ _ => rfl))) pe_int) rfl)
    (pss_one (ps_ret (pe_op op_modN (pe_op op_modN (pe_op op_add (pe_op op_mul (pe_dget (hu_of hr) (pv 0) pe_str (fun _ _ => rfl)) (pe_dget (hu_of hr) (pv 0) pe_str (fun _ _ => rfl))) (pe_op op_mul pe_int (pe_dget (hu_of hr) (pv 0) pe_str (fun _ _ => rfl)))) pe_int) (pv 1))))))))))), ?_⟩
  refine ⟨_, rfl, d, _, rfl, dA_cells hd, ?_⟩
  refine ⟨fun σ' H' => ∃ a r, σ' = [some (.ref d), some (.int n), some (.ref c), none, none] ∧ H' d = some (.dK (stA c a r t0 m0)) ∧ (∀ b o, b ≠ d → H b = some o → H' b = some o) ∧ 0 ≤ a ∧ 0 ≤ r, ?_, fun σ1 H1 e1 => ?_⟩
  · refine ⟨fun m σ' H' => ∃ a r, σ' = [some (.ref d), some (.int n), some (.ref c), none, none] ∧ H' d = some (.dK (stA c a r t0 m0)) ∧ (∀ b o, b ≠ d → H b = some o → H' b = some o) ∧ 0 ≤ a ∧ 0 ≤ r ∧ m = ns.length - a.toNat, ⟨_, a0, r0, rfl, hd, fun _ _ _ h => h, ha, hr0, rfl⟩, fun m σ' H' hW => ?_⟩
    obtain ⟨a, r, rfl, hd', old, ha', hr', rfl⟩ := hW
    have hc' := sql_keep hc hd old
    refine ⟨_, rfl, d, _, rfl, dA_rest hd', _, _, rfl, rfl, _, rfl, ite2 (fun c1 => ?_) (fun c1 => ⟨a, r, rfl, hd', old, ha', hr'⟩)⟩
    refine ⟨_, rfl, d, _, rfl, dA_at hd', _, rfl, _, _, rfl, .inl ⟨_, hc', rfl⟩, _, _, rfl, rfl, _, rfl, ite2 (fun c2 => ?_) (fun c2 => ⟨a, r, rfl, hd', old, ha', hr'⟩)⟩
    have c2 : a < ((ns.map V.int).length : Nat) := of_decide_eq_true c2
    rw [List.length_map] at c2
    obtain ⟨j, rfl⟩ : ∃ j : Nat, a = (j : Int) := ⟨a.toNat, by omega⟩
    have hj : j < ns.length := by omega
    have hget : (ns.map V.int)[j]? = some (.int ns[j]) := by
      rw [List.getElem?_map, List.getElem?_eq_getElem hj]
      rfl
    refine ⟨fun σ' H2 => ∃ r', σ' = [some (.ref d), some (.int n), some (.ref c), none, none] ∧ H2 d = some (.dK (stA c ((j : Int) + 1) r' t0 m0)) ∧ (∀ b o, b ≠ d → H b = some o → H2 b = some o) ∧ 0 ≤ r', fun σ' H2 h2 => ?_, ?_⟩
    · obtain ⟨r', rfl, h3, h4, h5⟩ := h2
      exact ⟨ns.length - ((j : Int) + 1).toNat, by omega, _, r', rfl, h3, h4, by omega, h5, rfl⟩
    refine ⟨_, rfl, _, rfl, d, _, rfl, dA_at hd', c, _, _, _, rfl, rfl, hc', atI_nat hget, _, _, rfl, rfl, ⟨by decide, by decide, by decide⟩, _, _, rfl, rfl, _, rfl, ite2 (fun c3 => ?_) (fun c3 => ?_)⟩
    · have c3 : (10 : Int) ^ (18 : Int).toNat ≤ ns[j] := of_decide_eq_true c3
      have n0 : 0 ≤ ns[j] := Int.le_trans (by decide) c3
      refine ⟨_, rfl, _, rfl, d, _, rfl, dA_at hd', c, _, _, _, rfl, rfl, hc', atI_nat hget, _, rfl, d, _, rfl, uA_rest hd' _, ?_⟩
      have h1 : (upd H' d (.dK (stA c (j : Int) ns[j] t0 m0))) d = some (.dK (stA c (j : Int) ns[j] t0 m0)) := upd_same
      exact ⟨_, rfl, d, _, rfl, dA_at h1, _, _, rfl, rfl, _, rfl, d, _, rfl, uA_at h1 _, ns[j], rfl, upd_same, fun b o nb hb => by rw [upd_ne nb, upd_ne nb]; exact old b o nb hb, n0⟩
    · exact ⟨_, rfl, d, _, rfl, dA_at hd', _, _, rfl, rfl, _, rfl, d, _, rfl, uA_at hd' _, r, rfl, upd_same, fun b o nb hb => by rw [upd_ne nb]; exact old b o nb hb, hr'⟩
  obtain ⟨a, r, rfl, hd', old, ha', hr'⟩ := e1
  have hc' := sql_keep hc hd old
  refine ⟨_, rfl, d, _, rfl, dA_rest hd', _, _, rfl, rfl, _, rfl, ite2 (fun c1 => ?_) (fun c1 => ?_)⟩
  · refine ⟨_, rfl, d, _, rfl, dA_rest hd', _, rfl, _, _, rfl, rfl, by omega, ?_⟩
    refine ⟨_, rfl, d, _, rfl, dA_rest hd', _, rfl, _, _, rfl, rfl, ⟨by omega, by omega⟩, _, rfl, d, _, rfl, uA_rest hd' _, _, rfl, ?_⟩
    obtain ⟨r1, r2⟩ := fmod_inA (a := r) hn0
    exact q _ _ r1 r2 ⟨fun b o nb hb => by rw [upd_ne nb]; exact old b o nb hb, ns, a, r.fdiv n, t0, m0, upd_same, sql_keep hc' hd' fun b o nb hb => by rw [upd_ne nb]; exact hb, ha', Int.fdiv_nonneg hr' (by omega), ht, hm, hm2⟩
  refine ⟨fun σ' H2 => ∃ cell, σ' = [some (.ref d), some (.int n), some (.ref c), none, some (.int cell)] ∧ H2 = H1, ?_, fun σ2 H2 e2 => ?_⟩
  · refine ⟨_, rfl, _, _, rfl, .inl ⟨_, hc', rfl⟩, _, _, rfl, rfl, _, rfl, ite2 (fun c2 => ?_) (fun c2 => ⟨_, rfl, rfl⟩)⟩
    have c2 : (0 : Int) < ((ns.map V.int).length : Nat) := of_decide_eq_true c2
    obtain ⟨x0, x1⟩ := fmod_inA (a := t0) c2
    obtain ⟨j, hj⟩ : ∃ j : Nat, t0.fmod ((ns.map V.int).length : Nat) = (j : Int) := ⟨(t0.fmod ((ns.map V.int).length : Nat)).toNat, by omega⟩
    have hj2 : j < ns.length := by
      rw [hj, List.length_map] at x1
      omega
    have hget : (ns.map V.int)[j]? = some (.int ns[j]) := by
      rw [List.getElem?_map, List.getElem?_eq_getElem hj2]
      rfl
    exact ⟨_, rfl, _, rfl, d, _, rfl, dA_turn hd', _, rfl, _, _, rfl, .inl ⟨_, hc', rfl⟩, _, _, rfl, rfl, by omega, c, _, _, _, rfl, rfl, hc', by rw [hj]; exact atI_nat hget, _, rfl, rfl⟩
  obtain ⟨cell, rfl, rfl⟩ := e2
  have h1 : (upd H2 d (.dK (stA c a r (t0 + 1) m0))) d = some (.dK (stA c a r (t0 + 1) m0)) := upd_same
  refine ⟨_, rfl, d, _, rfl, dA_turn hd', _, _, rfl, rfl, _, rfl, d, _, rfl, uA_turn hd' _, ?_⟩
  refine ⟨_, rfl, d, _, rfl, dA_more h1, _, _, rfl, rfl, .inl ⟨by omega, by omega⟩, _, rfl, _, _, rfl, rfl, _, rfl, d, _, rfl, dA_turn h1, _, _, rfl, rfl, _, _, rfl, rfl, (show (2147483647 : Int) ≠ 0 by decide), _, rfl, d, _, rfl, uA_more h1 _, ?_⟩
  obtain ⟨x0, x1⟩ := fmod_inA (a := m0 * 48271 + cell + (t0 + 1)) (b := 2147483647) (by decide)
  have h2 : (upd (upd H2 d (.dK (stA c a r (t0 + 1) m0))) d (.dK (stA c a r (t0 + 1) ((m0 * 48271 + cell + (t0 + 1)).fmod 2147483647)))) d = some (.dK (stA c a r (t0 + 1) ((m0 * 48271 + cell + (t0 + 1)).fmod 2147483647))) := upd_same
  generalize (m0 * 48271 + cell + (t0 + 1)).fmod 2147483647 = m1 at x0 x1 h2 ⊢
  refine ⟨_, rfl, d, _, rfl, dA_more h2, _, rfl, d, _, rfl, dA_more h2, _, _, rfl, rfl, .inl ⟨by omega, by omega⟩, _, rfl, d, _, rfl, dA_more h2, _, _, rfl, rfl, .inl ⟨by omega, by omega⟩, _, _, rfl, rfl, _, _, rfl, rfl, (show (2147483629 : Int) ≠ 0 by decide), _, rfl, _, _, rfl, rfl, by omega, ?_⟩
  obtain ⟨y0, y1⟩ := fmod_inA (a := (m1 * m1 + 16807 * m1).fmod 2147483629) hn0
  exact q _ _ y0 y1 ⟨fun b o nb hb => by rw [upd_ne nb, upd_ne nb]; exact old b o nb hb, ns, a, r, t0 + 1, m1, h2, sql_keep hc' hd' fun b o nb hb => by rw [upd_ne nb, upd_ne nb]; exact hb, ha', hr', by omega, x0, x1⟩
end
end Kt
namespace Kt
open PySem PySem.Spec PyProof.Rows L2
theorem pigeon : ∀ (l zs : List Str), l.Nodup → (∀ x ∈ l, x ∈ zs) → l.length ≤ zs.length
  | [], zs, _, _ => Nat.zero_le _
  | x :: l, zs, nd, h => by
    obtain ⟨h1, h2⟩ := List.nodup_cons.mp nd
    have hx := h x List.mem_cons_self
    have := pigeon l (zs.erase x) h2 fun y hy => (List.mem_erase_of_ne (fun (e : y = x) => h1 (by rw [← e]; exact hy))).mpr (h y (List.mem_cons_of_mem _ hy))
    rw [List.length_erase_of_mem hx] at this
    have h0 : 0 < zs.length := List.length_pos_of_mem hx
    rw [List.length_cons]
    omega
theorem cut_lo {z : Str} (k : Nat) : (cutS z (some (k : Int)) none).cps.toList = z.cps.toList.drop k := by
  show (z.cps.toList.drop (HT.sIx z.length 0 (some (k : Int)))).take (HT.sIx z.length z.length none - HT.sIx z.length 0 (some (k : Int))) = _
  rw [HT.sIx_none, HT.sIx_nat]
  by_cases h : k ≤ z.length
  · rw [Nat.min_eq_left h, len_list, ← List.length_drop, List.take_length]
  · rw [Nat.min_eq_right (by omega), len_list, List.drop_length, List.drop_eq_nil_of_le (by rw [← len_list]; omega)]
    simp
theorem cut_hi {z : Str} (k : Nat) : (cutS z none (some (k : Int))).cps.toList = z.cps.toList.take k := by
  show (z.cps.toList.drop (HT.sIx z.length 0 none)).take (HT.sIx z.length z.length (some (k : Int)) - HT.sIx z.length 0 none) = _
  rw [HT.sIx_none, HT.sIx_nat, Nat.sub_zero, List.drop_zero, List.take_eq_take_iff, len_list]
  omega
/-- a word on its way: one to nine small letters -/
def Wd (z : Str) : Prop := 1 ≤ z.length ∧ z.length ≤ 9 ∧ z.cps.toList.all lowc = true
theorem Wd.of {z : Str} (h : isW z 8 = true) : Wd z := by
  obtain ⟨h1, h2, h3⟩ := isW_out h
  exact ⟨h1, by omega, h3⟩
theorem ls_get {k : Int} (h0 : 0 ≤ k) (h1 : k < 26) : ∃ j : Nat, k = (j : Int) ∧ ∃ hj : j < LS.cps.toList.length, LS.cps.toList[j]? = some LS.cps.toList[j] ∧ lowc LS.cps.toList[j] = true := by
  obtain ⟨j, rfl⟩ : ∃ j : Nat, k = (j : Int) := ⟨k.toNat, by omega⟩
  have hj : j < LS.cps.toList.length := by
    rw [LS_list]
    show j < 26
    omega
  exact ⟨j, rfl, hj, List.getElem?_eq_getElem hj, decide_eq_true (List.getElem_mem hj)⟩
theorem sg_list (c : Nat) : (⟨#[c]⟩ : Str).cps.toList = [c] := rfl
theorem ls_at {j : Nat} (h : j < 26) : LS.cps.toList[j]? = some (97 + j) := by
  have all : ∀ j : Fin 26, LS.cps.toList[j.val]? = some (97 + j.val) := by decide +kernel
  exact all ⟨j, h⟩
theorem low_at {j : Nat} (h : j < 26) : lowc (97 + j) = true := decide_eq_true (List.mem_of_getElem? (ls_at h))
theorem inV_strs {z : Str} : ∀ {zs : List Str}, inV (.str z) (zs.map V.str) = true ↔ z ∈ zs
  | [] => ⟨fun h => (by cases h), fun h => (List.not_mem_nil h).elim⟩
  | y :: r => by
    show (eqV (.str y) (.str z) || inV (.str z) (r.map V.str)) = true ↔ _
    rw [Bool.or_eq_true, inV_strs, List.mem_cons]
    constructor
    · rintro (h | h)
      · exact .inl (beq_iff_eq.mp (show (y == z) = true from h)).symm
      · exact .inr h
    · rintro (h | h)
      · subst h
        exact .inl (show (z == z) = true from beq_self_eq_true z)
      · exact .inr h
theorem flat_strs (zs : List Str) : (zs.map V.str).all flatV = true := List.all_eq_true.mpr fun x hx => by
  obtain ⟨z, _, rfl⟩ := List.mem_map.mp hx
  rfl
/-- the word of that number where words are laid anew -/
def wN (wd : Str) (i : Nat) : Str := cutS wd none (some ((6 : Nat) : Int)) ++ (⟨#[97 + i / 26]⟩ : Str) ++ (⟨#[97 + i % 26]⟩ : Str)
theorem wN_list {wd : Str} {i : Nat} : (wN wd i).cps.toList = wd.cps.toList.take 6 ++ [97 + i / 26] ++ [97 + i % 26] := by
  unfold wN
  rw [app_list, app_list, cut_hi, sg_list, sg_list]
theorem wN_ok {wd : Str} (h : Wd wd) {i : Nat} (hi : i < 26) : isW (wN wd i) 8 = true := by
  obtain ⟨h1, h2, h3⟩ := h
  refine isW_of ?_ ?_ ?_
  · rw [len_list, wN_list]
    simp
  · rw [len_list, wN_list]
    simp only [List.length_append, List.length_take, List.length_cons, List.length_nil]
    omega
  · rw [wN_list, List.all_append, List.all_append]
    have t1 : (wd.cps.toList.take 6).all lowc = true := List.all_eq_true.mpr fun x hx => List.all_eq_true.mp h3 x (List.mem_of_mem_take hx)
    have a1 : lowc (97 + i / 26) = true := low_at (by omega)
    have a2 : lowc (97 + i % 26) = true := low_at (by omega)
    rw [t1]
    show (true && (lowc _ && true) && (lowc _ && true)) = true
    rw [a1, a2]
    rfl
theorem wN_inj {wd : Str} {i j : Nat} (hi : i < 26) (hj : j < 26) (h : wN wd i = wN wd j) : i = j := by
  have h := congrArg (fun z : Str => z.cps.toList) h
  simp only [wN_list] at h
  have h2 := List.append_inj_right' h rfl
  have : 97 + i % 26 = 97 + j % 26 := by simpa using h2
  omega
theorem wN_nodup {wd : Str} {n : Nat} (h : n ≤ 26) : ((List.range n).map (wN wd)).Nodup := by
  unfold List.Nodup
  rw [List.pairwise_map]
  refine List.Pairwise.imp_of_mem (fun {a b} ha hb ne => ?_) List.nodup_range
  exact fun e => ne (wN_inj (by have := List.mem_range.mp ha; omega) (by have := List.mem_range.mp hb; omega) e)
def sp_nameA (K : PySem.W.Frag) : Sp := fun vs H Q _ => ∃ (d c m : Addr) (zs : List Str), vs = [.ref d, .ref m] ∧ DrA K d c H ∧ Far K c m ∧ H m = some (.lst (zs.map V.str)) ∧ zs.length ≤ 20 ∧ (∀ z ∈ zs, isW z 8 = true) ∧
  ∀ z H', isW z 8 = true → (∀ a o, a ≠ d → a ≠ m → H a = some o → H' a = some o) → DrA K d c H' → H' m = some (.lst ((zs ++ [z]).map V.str)) → Q (.str z) H'
def ownW : List Str := ["put", "like", "unlike", "alike", "same", "told", "back", "then", "parts", "web", "term", "log", "rule", "least", "when", "apart", "none", "yes", "no", "match", "by", "with", "hole", "class", "head", "f"]
section
variable {P : Program} {w : World} {K : PySem.W.Frag} {mg : Str → Option Value} {base : Heap}
theorem c__law_name (T : Tx K mg) : Cl P w K mg base CX0 2 "_law_name" ["_law_state", "_law_met"] (sp_nameA K) := by
  refine Cl.mk0 T.d__law_name sc__law_name (fun vs H Q E h => ?_) (fun f cdv A outer s H vs Q E hr h => ?_)
  · obtain ⟨d, c, m, zs, rfl, _⟩ := h
    rfl
  obtain ⟨d, c, m, zs, rfl, hD, far, hm, few, ok, q⟩ := h
  have md : m ≠ d := by
    obtain ⟨ns, a, r, t, mm, h1, _⟩ := hD
    exact ne_of hm h1 fun e => nomatch e
  refine ⟨_, (pss_cons (ps_set (i := 2) sc__law_name.nd rfl (Or.inr rfl) pe_str)
    (pss_cons (ps_set (i := 3) sc__law_name.nd rfl (Or.inl rfl) (pe_lst (pa_cons pe_str (pa_cons pe_str (pa_cons pe_str (pa_cons pe_str (pa_cons pe_str (pa_cons pe_str (pa_cons pe_str (pa_cons pe_str (pa_cons pe_str (pa_cons pe_str (pa_cons pe_str (pa_cons pe_str (pa_cons pe_str pa_nil)))))))))))))))
    (pss_cons (ps_set (i := 3) sc__law_name.nd rfl (Or.inl rfl) (pe_op op_cat (pv 3) (pe_lst (pa_cons pe_str (pa_cons pe_str (pa_cons pe_str (pa_cons pe_str (pa_cons pe_str (pa_cons pe_str (pa_cons pe_str (pa_cons pe_str (pa_cons pe_str (pa_cons pe_str (pa_cons pe_str (pa_cons pe_str (pa_cons pe_str pa_nil))))))))))))))))
    (pss_cons (ps_set (i := 4) sc__law_name.nd rfl (Or.inl rfl) (pe_cl (c__law_take T) hr (by omega) rfl (pa_cons (pv 0) (pa_cons pe_int pa_nil))))
    (pss_cons (ps_set (i := 5) sc__law_name.nd rfl (Or.inr rfl) (pe_ix ix_str (pv 2) (pe_cl (c__law_take T) hr (by omega) rfl (pa_cons (pv 0) (pa_cons pe_int pa_nil))) (fun _ _ => rfl)))
    (Evl.pss_cut (ps_if (pt_cmpR op_eq (pv 4) pe_int (nomark _))
      (pss_one (ps_set (i := 5) sc__law_name.nd rfl (Or.inr rfl) (pe_ix ix_list (pv 3) (pe_cl (c__law_take T) hr (by omega) rfl (pa_cons (pv 0) (pa_cons (pe_callB call_len (by rfl) T.z_len (by decide +kernel) (pa_cons (pv 3) pa_nil)) pa_nil))) (fun _ _ => rfl))))
      (pss_one (ps_if (PW.pt (pw_and (pt_cmpR op_eq (pv 4) pe_int (nomark _)) (pw_and1 (pt_cmpR (op_neD hr.units) (pv 1) (pe_lst pa_nil) (nomark _)))))
        (pss_cons (ps_set (i := 5) sc__law_name.nd rfl (Or.inr rfl) (pe_ix ix_list (pv 1) (pe_cl (c__law_take T) hr (by omega) rfl (pa_cons (pv 0) (pa_cons (pe_callB call_len (by rfl) T.z_len (by decide +kernel) (pa_cons (pv 1) pa_nil)) pa_nil))) (fun _ _ => rfl)))
        (pss_cons (ps_set (i := 6) sc__law_name.nd rfl (Or.inl rfl) (pe_cl (c__law_take T) hr (by omega) rfl (pa_cons (pv 0) (pa_cons (pe_callB call_len (by rfl) T.z_len (by decide +kernel) (pa_cons (pv 5) pa_nil)) pa_nil))))
        (pss_one (ps_set (i := 5) sc__law_name.nd rfl (Or.inr rfl) (pe_op op_add_str (pe_op op_add_str (pe_slice sl_str (pv 5) po_no (po_some (pv 6))) (pe_ix ix_str (pv 2) (pe_cl (c__law_take T) hr (by omega) rfl (pa_cons (pv 0) (pa_cons pe_int pa_nil))) (fun _ _ => rfl))) (pe_slice sl_str (pv 5) (po_some (pe_op op_add (pv 6) (pe_cl (c__law_take T) hr (by omega) rfl (pa_cons (pv 0) (pa_cons pe_int pa_nil))))) po_no))))))
        (pss_one (ps_for PassesOwn.never rfl (pi_range1 (by rfl) T.z_range (pa_cons (pe_cl (c__law_take T) hr (by omega) rfl (pa_cons (pv 0) (pa_cons pe_int pa_nil))) pa_nil)) (pg_name (i := 7) sc__law_name.nd rfl (Or.inl rfl))
          (pss_one (ps_set (i := 5) sc__law_name.nd rfl (Or.inr rfl) (pe_op op_add_str (pv 5) (pe_ix ix_str (pv 2) (pe_cl (c__law_take T) hr (by omega) rfl (pa_cons (pv 0) (pa_cons pe_int pa_nil))) (fun _ _ => rfl))))))))))
    (Evl.pss_cut (ps_if (PW.pt (pw_or (pt_cmpR op_in_seq (pv 5) (pv 1) rfl) (pw_or1 (pt_cmpR op_gt (pe_callB call_len (by rfl) T.z_len (by decide +kernel) (pa_cons (pv 5) pa_nil)) pe_int (nomark _)))))
      (pss_cons (ps_setLc (i := 8) (own := [("_law_k", 7)]) (g := gName 7) (tt := tYes) rfl sc__law_name.nd rfl rfl (sw_true rfl rfl rfl (by decide +kernel)) (pi_range1 (by rfl) T.z_range (pa_cons (pe_op op_add (pe_callB call_len (by rfl) T.z_len (by decide +kernel) (pa_cons (pv 1) pa_nil)) pe_int) pa_nil)) (blkOk_by (own := [("_law_k", 7)]) (N := ["_law_state", "_law_met", "_law_letters", "_law_own", "_law_way", "_law_word", "_law_at", "_law_k", "_law_some", "_law_x"]) (sc := defScope s__law_name) (by decide +kernel)) (fun _ _ _ _ _ => (pg_name (i := 7) sc__law_name.nd rfl (Or.inl rfl))) (fun _ _ _ _ _ => pts_nil) (fun _ _ _ _ _ => (pe_op op_add_str (pe_op op_add_str (pe_slice sl_str (pv 5) po_no (po_some pe_int)) (pe_ix ix_str (pv 2) (pe_op op_fdivN (pv 7) pe_int) (fun _ _ => rfl))) (pe_ix ix_str (pv 2) (pe_op op_modN (pv 7) pe_int) (fun _ _ => rfl)))))
      (pss_one (ps_set (i := 5) sc__law_name.nd rfl (Or.inr rfl) (pe_ix ix_list (pe_lc (own := [("_law_x", 9)]) (g := gName 9) rfl sc__law_name.nd (pi_list (pv 8)) (blkOk_by (own := [("_law_x", 9)]) (N := ["_law_state", "_law_met", "_law_letters", "_law_own", "_law_way", "_law_word", "_law_at", "_law_k", "_law_some", "_law_x"]) (sc := defScope s__law_name) (by decide +kernel)) (fun _ _ _ _ _ => (pg_name (i := 9) sc__law_name.nd rfl (Or.inl rfl))) (fun _ _ _ _ _ => (pts_one (pt_cmpR (r := rIn K true) op_notIn_seq (pv 9) (pv 1) rfl))) (fun _ _ _ _ _ => (pv 9))) pe_int (fun _ _ => rfl)))))
      pss_nil)
    (pss_cons (ps_expr (pe_bm PySem.F.plainAttrs_list PySem.F.slot_list_append PySem.F.type_list_append mt_append (pv 1) (pa_cons (pv 5) pa_nil)))
    (pss_one (ps_ret (pv 5))))))))))), ?_⟩
  refine ⟨by show 13 ≤ sizeLine; decide, fun p1 hp1 => ⟨_, rfl, by show 13 ≤ sizeLine; decide, fun p2 hp2 => ?_⟩⟩
  have s1 := (same_new (o := .lst [.str "put", .str "like", .str "unlike", .str "alike", .str "same", .str "told", .str "back", .str "then", .str "parts", .str "web", .str "term", .str "log", .str "rule"]) hp1).trans (same_new (o := .lst [.str "least", .str "when", .str "apart", .str "none", .str "yes", .str "no", .str "match", .str "by", .str "with", .str "hole", .str "class", .str "head", .str "f"]) hp2)
  refine ⟨p1, p2, _, _, rfl, rfl, same_new hp2 _ _ _ upd_same, upd_same, by show 26 ≤ sizeLine; decide, fun p hp => ?_⟩
  have s2 := s1.trans (same_new (o := .lst (ownW.map V.str)) hp)
  refine ⟨_, rfl, d, c, 5, rfl, by decide, by decide, hD.same s2, fun way H1 w0 w1 u1 => ?_⟩
  refine ⟨_, rfl, _, rfl, d, c, 26, rfl, by decide, by decide, u1.dr, fun k H2 k0 k1 u2 => ?_⟩
  obtain ⟨j, rfl, hj, hg, hl⟩ := ls_get k0 k1
  refine ⟨LS, _, _, rfl, rfl, by decide +kernel, atI_nat hg, ?_⟩
  have u12 := u1.trans u2
  have uH : DUA K d c H H2 := ⟨fun a o n h => u12.old a o n (s2 _ _ h), u12.dr⟩
  have hp' : H2 p = some (.lst (ownW.map V.str)) := u12.old p _ ((hD.same s1).ne hp) upd_same
  have hm2 : H2 m = some (.lst (zs.map V.str)) := uH.old m _ md hm
  clear u1 u2 u12 s1 s2
  have okz : ∀ z ∈ zs, okS z := fun z hz => okS_low (isW_out (ok z hz)).2.2
  have lw0 : Wd ⟨#[LS.cps.toList[j]]⟩ := ⟨by show 1 ≤ 1; decide, by show 1 ≤ 9; decide, by rw [sg_list]; show (lowc _ && true) = true; rw [hl]; rfl⟩
  have sl9 : ∀ n : Nat, n ≤ 100 → n ≤ sizeLine := fun n hn => Nat.le_trans hn (by decide)
  refine ⟨fun σ' H' => ∃ wd x6 x7, σ' = [some (.ref d), some (.ref m), some (.str LS), some (.ref p), some (.int way), some (.str wd), x6, x7, none, none] ∧ Wd wd ∧ DUA K d c H H', ?_, fun σ1 H3 e1 => ?_⟩
  · refine ⟨_, rfl, rfl, _, rfl, ite2 (fun c1 => ?_) (fun c1 => ?_)⟩
    · refine ⟨_, rfl, _, rfl, _, rfl, _, _, rfl, .inl ⟨_, SqL.of hp', rfl⟩, d, c, _, rfl, by show (0 : Int) < 26; decide, by show (26 : Int) < 1000000; decide, uH.dr, fun r H4 r0 r1 u3 => ?_⟩
      obtain ⟨i, rfl⟩ : ∃ i : Nat, r = (i : Int) := ⟨r.toNat, by omega⟩
      have hi : i < (ownW.map V.str).length := by omega
      have hp4 : H4 p = some (.lst (ownW.map V.str)) := u3.lst uH.dr hp'
      have hi2 : i < ownW.length := by rw [List.length_map] at hi; exact hi
      have hg2 : (ownW.map V.str)[i]? = some (.str ownW[i]) := by
        rw [List.getElem?_map, List.getElem?_eq_getElem hi2]
        rfl
      have all : ∀ z ∈ ownW, isW z 8 = true := by decide +kernel
      exact ⟨p, _, _, _, rfl, rfl, SqL.of hp4, atI_nat hg2, _, none, none, rfl, Wd.of (all _ (List.getElem_mem hi2)), uH.trans u3⟩
    · refine ⟨_, rfl, rfl, _, rfl, ite2 (fun c2 => ?_) (fun c2 => ?_)⟩
      · refine ⟨_, rfl, Nat.zero_le _, fun p3 hp3 => ⟨_, _, .lst (sql_same (SqL.of hm2) (same_new hp3 _)) (dpStrs zs), .lst (SqL.of upd_same) .nil, shapedStrs zs okz, shapedInts [], _, rfl, ?_⟩⟩
        have s3 := same_new (o := .lst []) hp3
        rw [eqvNil]
        have uX := uH.then s3
        refine ite2 (fun c3 => ?X) (fun c3 => ?B)
        case X =>
          have ne : zs ≠ [] := fun e => by
            subst e
            cases c3
          have hm4 := uX.old m _ md hm
          have hz : 0 < zs.length := List.length_pos_iff.mpr ne
          refine ⟨_, rfl, _, rfl, _, rfl, _, _, rfl, .inl ⟨_, SqL.of hm4, rfl⟩, d, c, _, rfl, by rw [List.length_map]; omega, by rw [List.length_map]; omega, uX.dr, fun r H4 r0 r1 u4 => ?_⟩
          obtain ⟨i, rfl⟩ : ∃ i : Nat, r = (i : Int) := ⟨r.toNat, by omega⟩
          have hi : i < zs.length := by rw [List.length_map] at r1; omega
          have hg2 : (zs.map V.str)[i]? = some (.str zs[i]) := by
            rw [List.getElem?_map, List.getElem?_eq_getElem hi]
            rfl
          obtain ⟨z1, z2, z3⟩ := Wd.of (ok _ (List.getElem_mem hi))
          obtain ⟨_, z8, _⟩ := isW_out (ok _ (List.getElem_mem hi))
          have z8 : zs[i].length ≤ 8 := by omega
          generalize zs[i] = wd at hg2 z1 z2 z3 z8
          have hb : wd.length ≤ sizeLine := sl9 _ (by omega)
          refine ⟨m, _, _, _, rfl, rfl, SqL.of (u4.lst uX.dr hm4), atI_nat hg2, ?_⟩
          have u5 := uX.trans u4
          refine ⟨_, rfl, _, rfl, _, _, rfl, ⟨hb, rfl⟩, d, c, _, rfl, by omega, by omega, u5.dr, fun at' H5 a0 a1 u6 => ?_⟩
          have u7 := u5.trans u6
          obtain ⟨at2, rfl⟩ : ∃ i : Nat, at' = (i : Int) := ⟨at'.toNat, by omega⟩
          refine ⟨_, rfl, _, rfl, _, rfl, _, rfl, hb, _, rfl, _, rfl, d, c, 26, rfl, by decide, by decide, u7.dr, fun k H6 k0 k1 u8 => ?_⟩
          obtain ⟨j2, rfl, hj2, hg3, hl3⟩ := ls_get k0 k1
          have c1 := cutS_len wd none (some (at2 : Int))
          refine ⟨LS, _, _, rfl, rfl, by decide +kernel, atI_nat hg3, _, _, rfl, rfl, sl9 _ (by show _ + 1 ≤ 100; omega), _, rfl, _, rfl, _, rfl, d, c, 2, rfl, by decide, by decide, (u7.trans u8).dr, fun bb H7 b0 b1 u9 => ?_⟩
          obtain ⟨b2, rfl⟩ : ∃ i : Nat, bb = (i : Int) := ⟨bb.toNat, by omega⟩
          have el : (cutS wd none (some (at2 : Int)) ++ (⟨#[LS.cps.toList[j2]]⟩ : Str)).length = min at2 wd.length + 1 := by
            rw [app_len, len_list, cut_hi, List.length_take, ← len_list]
            rfl
          have e2 : (cutS wd (some ((at2 : Int) + (b2 : Int))) none).cps.toList = wd.cps.toList.drop (at2 + b2) := by
            rw [show (at2 : Int) + (b2 : Int) = ((at2 + b2 : Nat) : Int) by omega]
            exact cut_lo _
          have e3 : (cutS wd (some ((at2 : Int) + (b2 : Int))) none).length = wd.length - (at2 + b2) := by rw [len_list, e2, List.length_drop, ← len_list]
          refine ⟨_, _, rfl, rfl, _, rfl, _, rfl, hb, _, _, rfl, rfl, sl9 _ (by omega), _, _, none, rfl, ⟨?_, ?_, ?_⟩, (u7.trans u8).trans u9⟩
          · rw [app_len]
            omega
          · rw [app_len]
            omega
          · rw [app_list, app_list, List.all_append, List.all_append, e2, cut_hi, sg_list]
            have t1 : (wd.cps.toList.take at2).all lowc = true := List.all_eq_true.mpr fun x hx => List.all_eq_true.mp z3 x (List.mem_of_mem_take hx)
            have t2 : (wd.cps.toList.drop (at2 + b2)).all lowc = true := List.all_eq_true.mpr fun x hx => List.all_eq_true.mp z3 x (List.mem_of_mem_drop hx)
            rw [t1, t2]
            show (true && (lowc _ && true) && true) = true
            rw [hl3]
            rfl
        case B =>
          refine ⟨_, rfl, d, c, 8, rfl, by decide, by decide, uX.dr, fun n Hn n0 n1 un => ⟨_, rfl, by omega, by omega, ?_⟩⟩
          refine for_range (lo := 0) (n := n.toNat) (fun i σ H' => ∃ wd x7, σ = [some (.ref d), some (.ref m), some (.str LS), some (.ref p), some (.int way), some (.str wd), none, x7, none, none] ∧ wd.length = i + 1 ∧ wd.cps.toList.all lowc = true ∧ DUA K d c H H') ⟨_, none, rfl, rfl, lw0.2.2, uX.trans un⟩ (fun i σ H' hi h' => ?_) (fun σ H' h' => ?_)
          · obtain ⟨wd, x7, rfl, hz, hlo, u⟩ := h'
            refine ⟨_, rfl, _, rfl, _, rfl, d, c, 26, rfl, by decide, by decide, u.dr, fun k H4 k0 k1 u4 => ?_⟩
            obtain ⟨j2, rfl, hj2, hg3, hl3⟩ := ls_get k0 k1
            refine ⟨LS, _, _, rfl, rfl, by decide +kernel, atI_nat hg3, _, _, rfl, rfl, sl9 _ (by show _ + 1 ≤ 100; omega), _, some (.int (0 + (i : Int))), rfl, ?_, ?_, u.trans u4⟩
            · rw [app_len, hz]
              rfl
            · rw [app_list, List.all_append, hlo, Bool.true_and, sg_list]
              show (lowc _ && true) = true
              rw [hl3]
              rfl
          · obtain ⟨wd, x7, rfl, hz, hlo, u⟩ := h'
            exact ⟨wd, _, _, rfl, ⟨by omega, by omega, hlo⟩, u⟩
      · have uX := uH
        refine ⟨_, rfl, d, c, 8, rfl, by decide, by decide, uX.dr, fun n Hn n0 n1 un => ⟨_, rfl, by omega, by omega, ?_⟩⟩
        refine for_range (lo := 0) (n := n.toNat) (fun i σ H' => ∃ wd x7, σ = [some (.ref d), some (.ref m), some (.str LS), some (.ref p), some (.int way), some (.str wd), none, x7, none, none] ∧ wd.length = i + 1 ∧ wd.cps.toList.all lowc = true ∧ DUA K d c H H') ⟨_, none, rfl, rfl, lw0.2.2, uX.trans un⟩ (fun i σ H' hi h' => ?_) (fun σ H' h' => ?_)
        · obtain ⟨wd, x7, rfl, hz, hlo, u⟩ := h'
          refine ⟨_, rfl, _, rfl, _, rfl, d, c, 26, rfl, by decide, by decide, u.dr, fun k H4 k0 k1 u4 => ?_⟩
          obtain ⟨j2, rfl, hj2, hg3, hl3⟩ := ls_get k0 k1
          refine ⟨LS, _, _, rfl, rfl, by decide +kernel, atI_nat hg3, _, _, rfl, rfl, sl9 _ (by show _ + 1 ≤ 100; omega), _, some (.int (0 + (i : Int))), rfl, ?_, ?_, u.trans u4⟩
          · rw [app_len, hz]
            rfl
          · rw [app_list, List.all_append, hlo, Bool.true_and, sg_list]
            show (lowc _ && true) = true
            rw [hl3]
            rfl
        · obtain ⟨wd, x7, rfl, hz, hlo, u⟩ := h'
          exact ⟨wd, _, _, rfl, ⟨by omega, by omega, hlo⟩, u⟩
  obtain ⟨wd, x6, x7, rfl, hwd, u⟩ := e1
  have hm3 : H3 m = some (.lst (zs.map V.str)) := u.old m _ md hm
  have hbw : wd.length ≤ sizeLine := sl9 _ (by have := hwd.2.1; omega)
  refine ⟨fun σ' H' => ∃ z x6 x7 x8 x9, σ' = [some (.ref d), some (.ref m), some (.str LS), some (.ref p), some (.int way), some (.str z), x6, x7, x8, x9] ∧ isW z 8 = true ∧ DUA K d c H H', ?_, fun σ2 H4 e2 => ?_⟩
  · have again : (fun σ' H' => ∃ z x6 x7 x8 x9, σ' = [some (.ref d), some (.ref m), some (.str LS), some (.ref p), some (.int way), some (.str z), x6, x7, x8, x9] ∧ isW z 8 = true ∧ DUA K d c H H') = (fun (σ' : L2.St) (H' : Hp) => ∃ z x6 x7 x8 x9, σ' = [some (.ref d), some (.ref m), some (.str LS), some (.ref p), some (.int way), some (.str z), x6, x7, x8, x9] ∧ isW z 8 = true ∧ DUA K d c H H') := rfl
    refine ⟨_, rfl, _, rfl, m, _, rfl, .inl (SqL.of hm3), rfl, flat_strs zs, _, rfl, ite2 (fun c1 => ?L) (fun c1 => ⟨_, rfl, _, _, rfl, ⟨hbw, rfl⟩, _, _, rfl, rfl, _, rfl, ite2 (fun c2 => ?L2) (fun c2 => ?N)⟩)⟩
    case N =>
      have c2 : ¬ (8 : Int) < (wd.length : Nat) := fun h => c2 (decide_eq_true h)
      exact ⟨wd, x6, x7, none, none, rfl, isW_of hwd.1 (by omega) hwd.2.2, u⟩
    all_goals
      refine ⟨_, rfl, _, _, rfl, .inl ⟨_, SqL.of hm3, rfl⟩, _, _, rfl, rfl, _, rfl, by rw [List.length_map]; omega, by rw [List.length_map]; omega, fun D hD => ?_⟩
      have hn : ((zs.map V.str).length + 1 : Int).toNat = zs.length + 1 := by rw [List.length_map]; omega
      rw [hn]
      refine lc_pure (walk_range (lo := 0)) (fun i => .str (wN wd i)) hD (by omega) (fun _ _ => trivial) (fun x => rfl) (fun i x H5 H6 hi s1 y => ?_) (fun H5 s5 e5 => ?_)
      · obtain ⟨rfl, rfl⟩ := y
        have hi2 : i < 26 := by omega
        have f1 : (0 + (i : Int)).fdiv 26 = ((i / 26 : Nat) : Int) := by
          rw [Int.zero_add, Int.fdiv_eq_ediv_of_nonneg _ (by decide)]
          omega
        have f2 : (0 + (i : Int)).fmod 26 = ((i % 26 : Nat) : Int) := by
          rw [Int.zero_add, Int.fmod_eq_emod_of_nonneg _ (by decide)]
          omega
        have c1 := cutS_len wd none (some 6)
        have l1 : (cutS wd none (some 6) ++ (⟨#[97 + i / 26]⟩ : Str)).length = (cutS wd none (some 6)).length + 1 := app_len _ _
        have w9 := hwd.2.1
        refine ⟨Same.refl _, fun Q' q' => ?_⟩
        refine ⟨_, rfl, _, rfl, _, rfl, hbw, _, rfl, _, rfl, _, _, rfl, rfl, ⟨by decide, by decide⟩, LS, _, 97 + i / 26, rfl, rfl, by decide +kernel, ?_, _, _, rfl, rfl, sl9 _ (by show _ + 1 ≤ 100; omega), _, rfl, _, rfl, _, _, rfl, rfl, (show (26 : Int) ≠ 0 by decide), LS, _, 97 + i % 26, rfl, rfl, by decide +kernel, ?_, _, _, rfl, rfl, sl9 _ (by show _ + 1 ≤ 100; omega), q' _ (Same.refl _)⟩
        · rw [f1]
          exact atI_nat (ls_at (by omega))
        · rw [f2]
          exact atI_nat (ls_at (by omega))
      · obtain ⟨fs, hfs⟩ : ∃ fs, fs = (List.range (zs.length + 1)).map (wN wd) := ⟨_, rfl⟩
        have e5' : H5 D = some (.lst (fs.map V.str)) := by
          rw [e5, hfs, List.map_map]
          rfl
        have fl : fs.length = zs.length + 1 := by rw [hfs, List.length_map, List.length_range]
        have hm5 := s5 _ _ hm3
        refine ⟨_, rfl, D, rfl, ⟨_, SqL.of e5'⟩, fun D2 hD2 => ?_⟩
        refine lc_it (walk_list (xs := fs.map V.str)) (fun i H' => Same H5 H' ∧ H' D2 = some (.lst (((fs.take i).filter (fun z => decide (z ∉ zs))).map V.str))) ⟨same_new hD2 _, upd_same⟩ (fun i H' _ p' => SqL.of (p'.1 _ _ e5')) (fun i x H6 H7 hi p' y => ?_) (fun H6 p' => ?_)
        · obtain ⟨rfl, hx⟩ := y
          obtain ⟨s6, h6⟩ := p'
          rw [List.getElem?_map] at hx
          obtain ⟨z, hz, rfl⟩ := Option.map_eq_some_iff.mp hx
          have tk : fs.take (i + 1) = fs.take i ++ [z] := by
            rw [List.take_add_one, hz]
            rfl
          rw [tk, List.filter_append, List.map_append]
          refine ⟨rfl, _, rfl, _, rfl, m, _, rfl, .inl (SqL.of (s6 _ _ hm5)), rfl, flat_strs zs, _, rfl, ite2 (fun c => ?_) (fun c => ?_)⟩
          · have nin : z ∉ zs := fun hin => by
              have c : (!inV (.str z) (zs.map V.str)) = true := c
              rw [inV_strs.mpr hin] at c
              cases c
            have e1 : [z].filter (fun z => decide (z ∉ zs)) = [z] := by rw [List.filter_cons_of_pos (by simpa using nin)]; rfl
            rw [e1]
            refine ⟨_, rfl, _, h6, ?_, Same.mut s6 hD2, upd_same⟩
            rw [List.length_map]
            have := List.length_filter_le (fun z => decide (z ∉ zs)) (fs.take i)
            rw [List.length_take] at this
            exact small1000 (by omega)
          · have yin : z ∈ zs := inV_strs.mp (by
              have c : ¬ (!inV (.str z) (zs.map V.str)) = true := c
              cases e : inV (.str z) (zs.map V.str) with
              | true => rfl
              | false => rw [e] at c; exact absurd rfl c)
            have e1 : [z].filter (fun z => decide (z ∉ zs)) = [] := by rw [List.filter_cons_of_neg (by simpa using yin)]; rfl
            rw [e1, List.map_nil, List.append_nil]
            exact ⟨s6, h6⟩
        · obtain ⟨s6, h6⟩ := p'
          rw [List.length_map, List.take_length] at h6
          have ne : fs.filter (fun z => decide (z ∉ zs)) ≠ [] := fun e => by
            have all : ∀ x ∈ fs, x ∈ zs := fun x hx => by
              have := List.filter_eq_nil_iff.mp e x hx
              simpa using this
            have nd : fs.Nodup := by rw [hfs]; exact wN_nodup (by omega)
            have := pigeon fs zs nd all
            omega
          obtain ⟨z0, rr, e0⟩ := List.exists_cons_of_ne_nil ne
          rw [e0, List.map_cons] at h6
          have z0f : z0 ∈ fs := (List.mem_filter.mp (by rw [e0]; exact List.mem_cons_self)).1
          have z0ok : isW z0 8 = true := by
            rw [hfs] at z0f
            obtain ⟨i, hi, rfl⟩ := List.mem_map.mp z0f
            exact wN_ok hwd (by have := List.mem_range.mp hi; omega)
          exact ⟨D2, _, _, _, rfl, rfl, SqL.of h6, atI_nat (j := 0) rfl, z0, _, _, _, _, rfl, z0ok, u.then (s5.trans s6)⟩
  obtain ⟨z, x6, x7, x8, x9, rfl, hz, u⟩ := e2
  have hm4 := u.old m _ md hm
  refine ⟨_, rfl, .inl ⟨rfl, _, SqL.of hm4⟩, _, rfl, m, _, _, rfl, rfl, hm4, by rw [List.length_map]; exact Nat.lt_of_le_of_lt few (by decide), _, rfl, ?_⟩
  exact q z _ hz (fun a o n1 n2 h => by rw [upd_ne n2]; exact u.old a o n1 h) (u.dr.mut md far) (by rw [upd_same, List.map_append]; rfl)
end
end Kt
namespace Kt
open PySem PySem.Spec PyProof.Rows L2
theorem isW_ok {z : Str} {m : Int} (h : isW z m = true) : okS z := okS_low (isW_out h).2.2
theorem room65 {k : Nat} {A : Around} (r : Room k A) : A.units + 65 < cLine := by
  have := r.un
  omega
/-! ### heads: pairs of a name and a number of parts -/
structure HdsAt (H : Hp) (rs : List V) (hs : List (Str × Nat)) : Prop where
  len : rs.length = hs.length
  get : ∀ (i : Nat) (v : V), rs[i]? = some v → ∃ (a : Addr) (h : Str × Nat), v = .ref a ∧ hs[i]? = some h ∧ H a = some (.tup [.str h.1, .int (h.2 : Nat)])
theorem HdsAt.nil {H : Hp} : HdsAt H [] [] := ⟨rfl, fun i v h => by cases h⟩
theorem HdsAt.wk {H H' : Hp} {rs : List V} {hs : List (Str × Nat)} (h : HdsAt H rs hs) (w : ∀ a xs, H a = some (.tup xs) → H' a = some (.tup xs)) : HdsAt H' rs hs :=
  ⟨h.len, fun i v e => let ⟨a, x, e1, e2, e3⟩ := h.get i v e; ⟨a, x, e1, e2, w _ _ e3⟩⟩
theorem HdsAt.app {H : Hp} {rs rs' : List V} {hs hs' : List (Str × Nat)} (h : HdsAt H rs hs) (g : HdsAt H rs' hs') : HdsAt H (rs ++ rs') (hs ++ hs') := by
  refine ⟨by rw [List.length_append, List.length_append, h.len, g.len], fun i v e => ?_⟩
  by_cases c : i < rs.length
  · rw [List.getElem?_append_left c] at e
    obtain ⟨a, x, e1, e2, e3⟩ := h.get i v e
    exact ⟨a, x, e1, by rw [List.getElem?_append_left (by rw [← h.len]; exact c)]; exact e2, e3⟩
  · rw [List.getElem?_append_right (by omega)] at e
    obtain ⟨a, x, e1, e2, e3⟩ := g.get _ v e
    refine ⟨a, x, e1, ?_, e3⟩
    rw [List.getElem?_append_right (by rw [← h.len]; omega), ← h.len]
    exact e2
theorem HdsAt.one {H : Hp} {a : Addr} {z : Str} {n : Nat} (h : H a = some (.tup [.str z, .int (n : Nat)])) : HdsAt H [.ref a] [(z, n)] := by
  refine ⟨rfl, fun i v e => ?_⟩
  cases i with
  | zero =>
    cases e
    exact ⟨a, (z, n), rfl, rfl, h⟩
  | succ j => cases e
theorem HdsAt.at {H : Hp} {rs : List V} {hs : List (Str × Nat)} (h : HdsAt H rs hs) {i : Nat} (hi : i < hs.length) : ∃ a, rs[i]? = some (.ref a) ∧ H a = some (.tup [.str hs[i].1, .int (hs[i].2 : Nat)]) := by
  obtain ⟨v, hv⟩ : ∃ v, rs[i]? = some v := ⟨rs[i]'(by rw [h.len]; exact hi), List.getElem?_eq_getElem _⟩
  obtain ⟨a, x, rfl, e2, e3⟩ := h.get i v hv
  rw [List.getElem?_eq_getElem hi] at e2
  cases e2
  exact ⟨a, hv, e3⟩
def okHs (hs : List (Str × Nat)) : Prop := ∀ h ∈ hs, isW h.1 8 = true ∧ h.2 ≤ 3
def dHs (hs : List (Str × Nat)) : List PyData := hs.map fun h => PyData.tuple [.str h.1, .int (h.2 : Nat)]
theorem dpHs {K : PySem.W.Frag} {H : Hp} : ∀ {rs : List V} {hs : List (Str × Nat)}, HdsAt H rs hs → DpAll K H rs (dHs hs)
  | [], [], _ => .nil
  | [], _ :: _, h => by have := h.len; cases this
  | _ :: _, [], h => by have := h.len; cases this
  | v :: rs, x :: hs, h => by
    obtain ⟨a, y, rfl, e2, e3⟩ := h.get 0 v rfl
    cases e2
    refine .cons (.tup (SqT.of e3) (.cons (.str _) (.cons (.int _) .nil))) (dpHs ⟨Nat.succ.inj h.len, fun i w e => ?_⟩)
    obtain ⟨b, z, e1, e2, e3⟩ := h.get (i + 1) w (by simpa using e)
    exact ⟨b, z, e1, by simpa using e2, e3⟩
theorem shapedHd {z : Str} {n : Nat} (h : okS z) : SeqAt.shaped (.tuple [.str z, .int (n : Nat)]) = true := by
  unfold SeqAt.shaped
  have e : (PyData.tuple [.str z, .int (n : Nat)]).canLay0 = true := by
    show ((PyData.str z).canLay0 && ((PyData.int (n : Nat)).canLay0 && true)) = true
    have : (PyData.str z).canLay0 = true := by
      simp only [PyData.canLay0, PyData.strOk, Array.all_eq_true_iff_forall_mem, decide_eq_true_eq]
      intro x hx
      exact h x (Array.mem_toList_iff.mpr hx)
    rw [this]
    rfl
  rw [e]
  rfl
theorem shapedHds {hs : List (Str × Nat)} (h : ∀ x ∈ hs, okS x.1) : SeqAt.shaped (.list (dHs hs)) = true := by
  have all : ∀ l : List (Str × Nat), (∀ x ∈ l, okS x.1) → PyData.canLayAll0 (dHs l) = true ∧ PyData.depthAll (dHs l) ≤ 1 := by
    intro l
    induction l with
    | nil => exact fun _ => ⟨rfl, by decide⟩
    | cons x r ih =>
      intro hl
      obtain ⟨i1, i2⟩ := ih fun y hy => hl y (List.mem_cons_of_mem _ hy)
      have s := shapedHd (n := x.2) (hl x List.mem_cons_self)
      have c := SeqAt.canLay_of_shaped s
      constructor
      · show (PyData.canLay0 (.tuple [.str x.1, .int (x.2 : Nat)]) && PyData.canLayAll0 (dHs r)) = true
        rw [c, i1]
        rfl
      · show max (PyData.depth (.tuple [.str x.1, .int (x.2 : Nat)])) (PyData.depthAll (dHs r)) ≤ 1
        have : PyData.depth (.tuple [.str x.1, .int (x.2 : Nat)]) = 1 := rfl
        omega
  obtain ⟨a1, a2⟩ := all hs h
  unfold SeqAt.shaped
  have e : (PyData.list (dHs hs)).canLay0 = true := a1
  have e2 : (PyData.list (dHs hs)).depth ≤ 64 := by
    show PyData.depthAll (dHs hs) + 1 ≤ 64
    omega
  rw [e, decide_eq_true e2]
  rfl
/-- how far a row of heads is drawn: at D those so far, at m the names -/
def HS (K : PySem.W.Frag) (H0 : Hp) (d c m D : Addr) (F : Nat → Prop) (i zl : Nat) (H' : Hp) : Prop :=
  ∃ (rs : List V) (hs : List (Str × Nat)) (zs : List Str), (∀ a o, a ≠ d → a ≠ m → H0 a = some o → H' a = some o) ∧ DrA K d c H' ∧ H' m = some (.lst (zs.map V.str)) ∧ zs.length = zl ∧ (∀ z ∈ zs, isW z 8 = true) ∧ H' D = some (.lst rs) ∧ HdsAt H' rs hs ∧
    (∀ h ∈ hs, isW h.1 8 = true ∧ F h.2) ∧ hs.length = i
theorem HS.step {K : PySem.W.Frag} {H0 H1 H2 : Hp} {d c m D p : Addr} {F : Nat → Prop} {i zl n : Nat} {z : Str} {rs : List V} {hs : List (Str × Nat)} {zs : List Str} (far : Far K c D) (h0 : H0 D = none) (hd : H0 d ≠ none) (hm0 : H0 m ≠ none)
    (b1 : ∀ a o, a ≠ d → a ≠ m → H0 a = some o → H1 a = some o) (b2 : zs.length = zl) (b3 : ∀ z ∈ zs, isW z 8 = true) (b4 : H1 D = some (.lst rs)) (b5 : HdsAt H1 rs hs) (b6 : ∀ h ∈ hs, isW h.1 8 = true ∧ F h.2) (b7 : hs.length = i)
    (zok : isW z 8 = true) (old : ∀ a o, a ≠ d → a ≠ m → H1 a = some o → H2 a = some o) (dr : DrA K d c H2) (hm2 : H2 m = some (.lst ((zs ++ [z]).map V.str))) (d1 : DrA K d c H1) (hm1 : H1 m = some (.lst (zs.map V.str))) (fn : F n) (hp : H2 p = none) (few : i < 1000) :
    ∃ acc, (upd H2 p (.tup [.str z, .int (n : Nat)])) D = some (.lst acc) ∧ acc.length < sizeLine ∧ HS K H0 d c m D F (i + 1) (zl + 1) (upd (upd H2 p (.tup [.str z, .int (n : Nat)])) D (.lst (acc ++ [.ref p]))) := by
  have Dd : D ≠ d := fun e => hd (e ▸ h0)
  have Dm : D ≠ m := fun e => hm0 (e ▸ h0)
  have hD2 : H2 D = some (.lst rs) := old D _ Dd Dm b4
  have s1 := same_new (o := .tup [.str z, .int (n : Nat)]) hp
  have keepT : ∀ a xs, H1 a = some (.tup xs) → (upd (upd H2 p (.tup [.str z, .int (n : Nat)])) D (.lst (rs ++ [.ref p]))) a = some (.tup xs) := fun a xs h => by
    obtain ⟨ns, q1, q2, q3, q4, q5, _⟩ := d1
    have n1 : a ≠ d := ne_of h q5 fun e => nomatch e
    have n2 : a ≠ m := ne_of h hm1 fun e => nomatch e
    have n3 : a ≠ D := ne_of h b4 fun e => nomatch e
    rw [upd_ne n3]
    exact s1 _ _ (old a _ n1 n2 h)
  refine ⟨rs, s1 _ _ hD2, small1000 (n := rs.length) (by rw [b5.len, b7]; exact Nat.le_of_lt few), rs ++ [.ref p], hs ++ [(z, n)], zs ++ [z], fun a o n1 n2 h => ?_, ?_, ?_, by rw [List.length_append, b2]; rfl, fun y hy => ?_, upd_same, ?_, fun y hy => ?_, by rw [List.length_append, b7]; rfl⟩
  · rw [upd_ne fun e => by rw [e, h0] at h; cases h]
    exact s1 _ _ (old a o n1 n2 (b1 a o n1 n2 h))
  · exact (dr.same s1).mut Dd far
  · rw [upd_ne Dm.symm]
    exact s1 _ _ hm2
  · rcases List.mem_append.mp hy with hy | hy
    · exact b3 y hy
    · rw [List.mem_singleton.mp hy]
      exact zok
  · refine (b5.wk keepT).app (.one ?_)
    rw [upd_ne (fun e => (by rw [e, hD2] at hp; cases hp)), upd_same]
  · rcases List.mem_append.mp hy with hy | hy
    · exact b6 y hy
    · rw [List.mem_singleton.mp hy]
      exact ⟨zok, fn⟩
def sp_headsA (K : PySem.W.Frag) : Sp := fun vs H Q _ => ∃ (d c : Addr), vs = [.ref d] ∧ DrA K d c H ∧ ∀ (p : Addr) (rs : List V) (hs : List (Str × Nat)) (H' : Hp), DUA K d c H H' → H p = none → H' p = some (.lst rs) → HdsAt H' rs hs → okHs hs → hs.length ≤ 10 → (∃ z r, hs = (z, 0) :: r) → Q (.ref p) H'
theorem HS.start {K : PySem.W.Frag} {H0 : Hp} {d c m D : Addr} {F : Nat → Prop} {zs : List Str} (dr : DrA K d c H0) (hm : H0 m = some (.lst (zs.map V.str))) (ok : ∀ z ∈ zs, isW z 8 = true) (h0 : H0 D = none) : HS K H0 d c m D F 0 zs.length (upd H0 D (.lst [])) :=
  ⟨[], [], zs, fun a o _ _ h => same_new h0 _ _ _ h, dr.same (same_new h0 _), same_new h0 _ _ _ hm, rfl, ok, upd_same, .nil, fun _ h => (List.not_mem_nil h).elim, rfl⟩
theorem first_of0 {hs : List (Str × Nat)} (h : ∀ x ∈ hs, isW x.1 8 = true ∧ x.2 = 0) (n : 1 ≤ hs.length) : ∃ z r, hs = (z, 0) :: r := by
  cases hs with
  | nil => exact absurd n (by decide)
  | cons x r =>
    obtain ⟨z, k⟩ := x
    have := (h _ List.mem_cons_self).2
    subst this
    exact ⟨z, r, rfl⟩
/-- the state between the rows of heads -/
def HSt (K : PySem.W.Frag) (H : Hp) (d c m : Addr) (b : Nat) (x3 x4 x5 : Option V) (σ' : L2.St) (H' : Hp) : Prop :=
  ∃ (fo : Addr) (rs : List V) (hs : List (Str × Nat)) (zs : List Str), σ' = [some (.ref d), some (.ref m), some (.ref fo), x3, x4, x5] ∧ (∀ a o, a ≠ d → H a = some o → H' a = some o) ∧ DrA K d c H' ∧ H' m = some (.lst (zs.map V.str)) ∧ zs.length = hs.length ∧ (∀ z ∈ zs, isW z 8 = true) ∧
    H fo = none ∧ fo ≠ m ∧ Far K c fo ∧ H' fo = some (.lst rs) ∧ HdsAt H' rs hs ∧ okHs hs ∧ hs.length ≤ b ∧ ∃ z r, hs = (z, 0) :: r
section
variable {P : Program} {w : World} {K : PySem.W.Frag} {mg : Str → Option Value} {base : Heap}
theorem c__law_heads (T : Tx K mg) : Cl P w K mg base CX0 3 "_law_heads" ["_law_state"] (sp_headsA K) := by
  refine Cl.mk0 T.d__law_heads sc__law_heads (fun vs H Q E h => ?_) (fun f cdv A outer s H vs Q E hr h => ?_)
  · obtain ⟨d, c, rfl, _⟩ := h
    rfl
  obtain ⟨d, c, rfl, hD, q⟩ := h
  refine ⟨_, (pss_cons (ps_set (i := 1) sc__law_heads.nd rfl (Or.inr rfl) (pe_lst pa_nil))
    (Evl.pss_cut (ps_setLc (i := 2) (own := [("_law_k", 5)]) (g := gName 5) (tt := tYes) rfl sc__law_heads.nd rfl rfl (sw_true rfl rfl rfl (by decide +kernel)) (pi_range1 (by rfl) T.z_range (pa_cons (pe_op op_add pe_int (pe_cl (c__law_take T) hr (by omega) rfl (pa_cons (pv 0) (pa_cons pe_int pa_nil)))) pa_nil)) (blkOk_by (own := [("_law_k", 5)]) (N := ["_law_state", "_law_met", "_law_found", "_law_name_here", "_law_many", "_law_k"]) (sc := defScope s__law_heads) (by decide +kernel)) (fun _ _ _ _ _ => (pg_name (i := 5) sc__law_heads.nd rfl (Or.inl rfl))) (fun _ _ _ _ _ => pts_nil) (fun _ _ _ _ _ => (pe_tup (pa_cons (pe_cl (c__law_name T) hr (by omega) rfl (pa_cons (pv 0) (pa_cons (pv 1) pa_nil))) (pa_cons pe_int pa_nil)))))
    (Evl.pss_cut (ps_set (i := 2) sc__law_heads.nd rfl (Or.inl rfl) (pe_op op_cat (pv 2) (pe_lc (own := [("_law_k", 5)]) (g := gName 5) (tt := tYes) rfl sc__law_heads.nd (pi_range1 (by rfl) T.z_range (pa_cons (pe_op op_add pe_int (pe_cl (c__law_take T) hr (by omega) rfl (pa_cons (pv 0) (pa_cons pe_int pa_nil)))) pa_nil)) (blkOk_by (own := [("_law_k", 5)]) (N := ["_law_state", "_law_met", "_law_found", "_law_name_here", "_law_many", "_law_k"]) (sc := defScope s__law_heads) (by decide +kernel)) (fun _ _ _ _ _ => (pg_name (i := 5) sc__law_heads.nd rfl (Or.inl rfl))) (fun _ _ _ _ _ => pts_nil) (fun _ _ _ _ _ => (pe_tup (pa_cons (pe_cl (c__law_name T) hr (by omega) rfl (pa_cons (pv 0) (pa_cons (pv 1) pa_nil))) (pa_cons pe_int pa_nil)))))))
    (Evl.pss_cut (ps_set (i := 2) sc__law_heads.nd rfl (Or.inl rfl) (pe_op op_cat (pv 2) (pe_lc (own := [("_law_k", 5)]) (g := gName 5) (tt := tYes) rfl sc__law_heads.nd (pi_range1 (by rfl) T.z_range (pa_cons (pe_cl (c__law_take T) hr (by omega) rfl (pa_cons (pv 0) (pa_cons pe_int pa_nil))) pa_nil)) (blkOk_by (own := [("_law_k", 5)]) (N := ["_law_state", "_law_met", "_law_found", "_law_name_here", "_law_many", "_law_k"]) (sc := defScope s__law_heads) (by decide +kernel)) (fun _ _ _ _ _ => (pg_name (i := 5) sc__law_heads.nd rfl (Or.inl rfl))) (fun _ _ _ _ _ => pts_nil) (fun _ _ _ _ _ => (pe_tup (pa_cons (pe_cl (c__law_name T) hr (by omega) rfl (pa_cons (pv 0) (pa_cons (pv 1) pa_nil))) (pa_cons (pe_op op_add pe_int (pv 5)) pa_nil)))))))
    (pss_cons (ps_if (pt_cmpR op_eq (pe_cl (c__law_take T) hr (by omega) rfl (pa_cons (pv 0) (pa_cons pe_int pa_nil))) pe_int (nomark _))
      (pss_cons (ps_set (i := 3) sc__law_heads.nd rfl (Or.inl rfl) (pe_ix ix_list (pv 1) (pe_cl (c__law_take T) hr (by omega) rfl (pa_cons (pv 0) (pa_cons (pe_callB call_len (by rfl) T.z_len (by decide +kernel) (pa_cons (pv 1) pa_nil)) pa_nil))) (fun _ _ => rfl)))
      (pss_cons (ps_set (i := 4) sc__law_heads.nd rfl (Or.inl rfl) (pe_cl (c__law_take T) hr (by omega) rfl (pa_cons (pv 0) (pa_cons pe_int pa_nil))))
      (pss_one (ps_if (pt_cmpR (op_notInD (room65 hr)) (pe_tup (pa_cons (pv 3) (pa_cons (pv 4) pa_nil))) (pv 2) rfl)
        (pss_one (ps_expr (pe_bm PySem.F.plainAttrs_list PySem.F.slot_list_append PySem.F.type_list_append mt_append (pv 2) (pa_cons (pe_tup (pa_cons (pv 3) (pa_cons (pv 4) pa_nil))) pa_nil))))
        pss_nil))))
      pss_nil)
    (pss_one (ps_ret (pv 2)))))))), ?_⟩
  refine ⟨Nat.zero_le _, fun m hm => ?_⟩
  have sm := same_new (o := .lst []) hm
  have md : m ≠ d := hD.ne hm
  have far := hD.far hm
  have dm : ∀ {H' : Hp}, DrA K d c H' → H' d ≠ none := fun {H'} h => by
    obtain ⟨ns, q1, q2, q3, q4, q5, _⟩ := h
    rw [q5]
    exact fun e => by cases e
  refine ⟨HSt K H d c m 3 none none none, ?_, fun σ1 H1 e1 => ?_⟩
  · refine ⟨_, rfl, d, c, 3, rfl, by decide, by decide, hD.same sm, fun r H1 r0 r1 u1 => ⟨_, _, rfl, rfl, _, rfl, by omega, by omega, fun D hDn => ?_⟩⟩
    have hm1 : H1 m = some (.lst (([] : List Str).map V.str)) := u1.old m _ md upd_same
    refine lc_it (walk_range (lo := 0)) (fun i H' => HS K H1 d c m D (fun n => n = 0) i i H') (HS.start (zs := []) u1.dr hm1 (fun _ h => (List.not_mem_nil h).elim) hDn) (fun _ _ _ _ => trivial) (fun i x H' H'' hi p' y => ?_) (fun H' p' => ?_)
    · obtain ⟨rfl, rfl⟩ := y
      obtain ⟨rs, hs, zs, b1, dr, hm', b2, b3, b4, b5, b6, b7⟩ := p'
      refine ⟨rfl, yesI ⟨_, rfl, _, rfl, d, c, m, zs, rfl, dr, far, hm', by omega, b3, fun z H2 zok old dr2 hm2 => ⟨by show 2 ≤ sizeLine; decide, fun p hp => ?_⟩⟩⟩
      exact HS.step (n := 0) (u1.dr.far hDn) hDn (dm u1.dr) (by rw [hm1]; exact fun e => by cases e) b1 b2 b3 b4 b5 b6 b7 zok old dr2 hm2 dr hm' rfl hp (by omega)
    · obtain ⟨rs, hs, zs, b1, dr, hm', b2, b3, b4, b5, b6, b7⟩ := p'
      have Dd : D ≠ d := u1.dr.ne hDn
      refine ⟨D, rs, hs, zs, rfl, fun a o n h => b1 a o n (fun e => by rw [e, hm] at h; cases h) (u1.old a o n (sm a o h)), dr, hm', by omega, b3, ?_, ?_, u1.dr.far hDn, b4, b5, fun x hx => ⟨(b6 x hx).1, by have := (b6 x hx).2; omega⟩, by omega, first_of0 b6 (by omega)⟩
      · cases e : H D with
        | none => rfl
        | some o =>
          rw [u1.old D o Dd (sm D o e)] at hDn
          cases hDn
      · exact fun e => by rw [e, hm1] at hDn; cases hDn
  refine ⟨HSt K H d c m 5 none none none, ?_, fun σ2 H3 e2 => ?_⟩
  · obtain ⟨fo, rs0, hs0, zs0, rfl, old0, dr0, hm0, zl0, zok0, fon, fom, ffo, hfo, at0, ok0, few0, fst0⟩ := e1
    refine ⟨_, rfl, _, rfl, d, c, 2, rfl, by decide, by decide, dr0, fun r H2 r0 r1 u1 => ⟨_, _, rfl, rfl, _, rfl, by omega, by omega, fun D hDn => ?_⟩⟩
    have hm2 := u1.lst dr0 hm0
    have hfo2 := u1.lst dr0 hfo
    have at2 : HdsAt H2 rs0 hs0 := at0.wk fun a xs h => u1.tup dr0 h
    refine lc_it (walk_range (lo := 0)) (fun i H' => HS K H2 d c m D (fun n => n = 1) i (zs0.length + i) H') (HS.start u1.dr hm2 zok0 hDn) (fun _ _ _ _ => trivial) (fun i x H' H'' hi p' y => ?_) (fun H' p' => ?_)
    · obtain ⟨rfl, rfl⟩ := y
      obtain ⟨rs, hs, zs, b1, dr, hm', b2, b3, b4, b5, b6, b7⟩ := p'
      refine ⟨rfl, yesI ⟨_, rfl, _, rfl, d, c, m, zs, rfl, dr, far, hm', by omega, b3, fun z H2 zok old dr2 hm2' => ⟨by show 2 ≤ sizeLine; decide, fun p hp => ?_⟩⟩⟩
      exact HS.step (n := 1) (u1.dr.far hDn) hDn (dm u1.dr) (by rw [hm2]; exact fun e => by cases e) b1 b2 b3 b4 b5 b6 b7 zok old dr2 hm2' dr hm' rfl hp (by omega)
    · obtain ⟨rs, hs, zs, b1, dr, hm', b2, b3, b4, b5, b6, b7⟩ := p'
      have fd : fo ≠ d := by
        obtain ⟨ns, q1, q2, q3, q4, q5, _⟩ := u1.dr
        exact ne_of hfo2 q5 fun e => nomatch e
      have hfo3 : H' fo = some (.lst rs0) := b1 fo _ fd fom hfo2
      have keepT : ∀ a xs, H2 a = some (.tup xs) → H' a = some (.tup xs) := fun a xs h => by
        obtain ⟨ns, q1, q2, q3, q4, q5, _⟩ := u1.dr
        exact b1 a _ (ne_of h q5 fun e => nomatch e) (ne_of h hm2 fun e => nomatch e) h
      refine ⟨fo, D, _, _, rfl, rfl, hfo3, b4, ?_, fun p hp => ?_⟩
      · have e1 := at0.len
        have e2 := b5.len
        exact Nat.le_of_lt (small1000 (n := rs0.length + rs.length) (by omega))
      have sp := same_new (o := .lst (rs0 ++ rs)) hp
      refine ⟨p, _, hs0 ++ hs, zs, rfl, fun a o n h => sp _ _ (b1 a o n (fun e => by rw [e, hm] at h; cases h) (u1.old a o n (old0 a o n h))), dr.same sp, sp _ _ hm', by rw [List.length_append]; omega, b3, ?_, ?_, dr.far hp, upd_same, ((at2.wk keepT).app b5).wk fun a xs h => sp _ _ h, ?_, by rw [List.length_append]; omega, ?_⟩
      · cases e : H p with
        | none => rfl
        | some o =>
          have pd : p ≠ d := (dr.ne hp)
          have := b1 p o pd (fun e2 => by rw [e2, hm] at e; cases e) (u1.old p o pd (old0 p o pd e))
          rw [this] at hp
          cases hp
      · exact fun e => by rw [e, hm'] at hp; cases hp
      · intro x hx
        rcases List.mem_append.mp hx with hx | hx
        · exact ok0 x hx
        · have := b6 x hx
          exact ⟨this.1, by have := this.2; omega⟩
      · obtain ⟨z, rr, e⟩ := fst0
        exact ⟨z, rr ++ hs, by rw [e]; rfl⟩
  refine ⟨HSt K H d c m 7 none none none, ?_, fun σ3 H4 e3 => ?_⟩
  · obtain ⟨fo, rs0, hs0, zs0, rfl, old0, dr0, hm0, zl0, zok0, fon, fom, ffo, hfo, at0, ok0, few0, fst0⟩ := e2
    refine ⟨_, rfl, _, rfl, d, c, 3, rfl, by decide, by decide, dr0, fun r H2 r0 r1 u1 => ⟨_, rfl, by omega, by omega, fun D hDn => ?_⟩⟩
    have hm2 := u1.lst dr0 hm0
    have hfo2 := u1.lst dr0 hfo
    have at2 : HdsAt H2 rs0 hs0 := at0.wk fun a xs h => u1.tup dr0 h
    refine lc_it (walk_range (lo := 0)) (fun i H' => HS K H2 d c m D (fun n => n ≤ 3) i (zs0.length + i) H') (HS.start u1.dr hm2 zok0 hDn) (fun _ _ _ _ => trivial) (fun i x H' H'' hi p' y => ?_) (fun H' p' => ?_)
    · obtain ⟨rfl, rfl⟩ := y
      obtain ⟨rs, hs, zs, b1, dr, hm', b2, b3, b4, b5, b6, b7⟩ := p'
      refine ⟨rfl, yesI ⟨_, rfl, _, rfl, d, c, m, zs, rfl, dr, far, hm', by omega, b3, fun z H2 zok old dr2 hm2' => ⟨_, rfl, _, _, rfl, rfl, by show 2 ≤ sizeLine; decide, fun p hp => ?_⟩⟩⟩
      have st := HS.step (F := fun n => n ≤ 3) (n := 2 + i) (u1.dr.far hDn) hDn (dm u1.dr) (by rw [hm2]; exact fun e => by cases e) b1 b2 b3 b4 b5 b6 b7 zok old dr2 hm2' dr hm' (by show 2 + i ≤ 3; omega) hp (by omega)
      have e : (((2 + i : Nat)) : Int) = 2 + (0 + (i : Int)) := by omega
      rw [e] at st
      exact st
    · obtain ⟨rs, hs, zs, b1, dr, hm', b2, b3, b4, b5, b6, b7⟩ := p'
      have fd : fo ≠ d := by
        obtain ⟨ns, q1, q2, q3, q4, q5, _⟩ := u1.dr
        exact ne_of hfo2 q5 fun e => nomatch e
      have hfo3 : H' fo = some (.lst rs0) := b1 fo _ fd fom hfo2
      have keepT : ∀ a xs, H2 a = some (.tup xs) → H' a = some (.tup xs) := fun a xs h => by
        obtain ⟨ns, q1, q2, q3, q4, q5, _⟩ := u1.dr
        exact b1 a _ (ne_of h q5 fun e => nomatch e) (ne_of h hm2 fun e => nomatch e) h
      refine ⟨fo, D, _, _, rfl, rfl, hfo3, b4, ?_, fun p hp => ?_⟩
      · have e1 := at0.len
        have e2 := b5.len
        exact Nat.le_of_lt (small1000 (n := rs0.length + rs.length) (by omega))
      have sp := same_new (o := .lst (rs0 ++ rs)) hp
      refine ⟨p, _, hs0 ++ hs, zs, rfl, fun a o n h => sp _ _ (b1 a o n (fun e => by rw [e, hm] at h; cases h) (u1.old a o n (old0 a o n h))), dr.same sp, sp _ _ hm', by rw [List.length_append]; omega, b3, ?_, ?_, dr.far hp, upd_same, ((at2.wk keepT).app b5).wk fun a xs h => sp _ _ h, ?_, by rw [List.length_append]; omega, ?_⟩
      · cases e : H p with
        | none => rfl
        | some o =>
          have pd : p ≠ d := (dr.ne hp)
          have := b1 p o pd (fun e2 => by rw [e2, hm] at e; cases e) (u1.old p o pd (old0 p o pd e))
          rw [this] at hp
          cases hp
      · exact fun e => by rw [e, hm'] at hp; cases hp
      · intro x hx
        rcases List.mem_append.mp hx with hx | hx
        · exact ok0 x hx
        · have := b6 x hx
          exact ⟨this.1, by have := this.2; omega⟩
      · obtain ⟨z, rr, e⟩ := fst0
        exact ⟨z, rr ++ hs, by rw [e]; rfl⟩
  obtain ⟨fo, rs, hs, zs, rfl, old, dr, hm', zl, zok, fon, fom, ffo, hfo, at0, ok0, few0, fst0⟩ := e3
  refine ⟨_, rfl, d, c, 3, rfl, by decide, by decide, dr, fun r1 H5 _ _ u1 => ⟨rfl, _, rfl, ite2 (fun _ => ?_) (fun _ => ?_)⟩⟩
  · have hm5 := u1.lst dr hm'
    have ok5 : 0 < (((zs.map V.str).length : Nat) : Int) := by
      rw [List.length_map, zl]
      obtain ⟨z, rr, e⟩ := fst0
      rw [e, List.length_cons]
      omega
    have ok5' : (((zs.map V.str).length : Nat) : Int) < 1000000 := by
      rw [List.length_map, zl]
      omega
    refine ⟨_, rfl, _, rfl, _, rfl, _, _, rfl, .inl ⟨_, SqL.of hm5, rfl⟩, d, c, _, rfl, ok5, ok5', u1.dr, fun r2 H6 r20 r21 u2 => ?_⟩
    obtain ⟨i, rfl⟩ : ∃ i : Nat, r2 = (i : Int) := ⟨r2.toNat, by omega⟩
    have hi : i < zs.length := by rw [List.length_map] at r21; omega
    have hget : (zs.map V.str)[i]? = some (.str zs[i]) := by
      rw [List.getElem?_map, List.getElem?_eq_getElem hi]
      rfl
    have hz := zok zs[i] (List.getElem_mem hi)
    generalize zs[i] = z at hget hz
    refine ⟨m, _, _, _, rfl, rfl, SqL.of (u2.lst u1.dr hm5), atI_nat hget, _, rfl, ?_⟩
    refine ⟨d, c, 4, rfl, by decide, by decide, u2.dr, fun r3 H7 r30 r31 u3 => ?_⟩
    obtain ⟨n, rfl⟩ : ∃ n : Nat, r3 = (n : Int) := ⟨r3.toNat, by omega⟩
    have u : DUA K d c H4 H7 := u1.trans (u2.trans u3)
    have hfo7 := u.lst dr hfo
    have at7 : HdsAt H7 rs hs := at0.wk fun a xs h => u.tup dr h
    have U : DUA K d c H H7 := ⟨fun a o n h => u.old a o n (old a o n h), u.dr⟩
    refine ⟨_, rfl, _, rfl, by show 2 ≤ sizeLine; decide, fun p hp => ?_⟩
    have sp := same_new (o := .tup [.str z, .int (n : Nat)]) hp
    refine ⟨_, rfl, _, _, .tup (SqT.of upd_same) (.cons (.str _) (.cons (.int _) .nil)), .lst (SqL.of (sp _ _ hfo7)) (dpHs (at7.wk fun a xs h => sp _ _ h)), shapedHd (isW_ok hz), shapedHds fun x hx => isW_ok (ok0 x hx).1, _, rfl, ite2 (fun _ => ?_) (fun _ => ?_)⟩
    · refine ⟨_, rfl, .inl ⟨rfl, _, SqL.of (sp _ _ hfo7)⟩, _, rfl, _, rfl, by show 2 ≤ sizeLine; decide, fun p2 hp2 => ?_⟩
      have sp2 := (same_new (o := .tup [.str z, .int (n : Nat)]) hp2)
      refine ⟨fo, rs, _, rfl, rfl, sp2 _ _ (sp _ _ hfo7), small1000 (by rw [at0.len]; omega), _, rfl, ?_⟩
      have fd : fo ≠ d := by
        obtain ⟨ns, q1, q2, q3, q4, q5, _⟩ := u.dr
        exact ne_of hfo7 q5 fun e => nomatch e
      refine q fo (rs ++ [.ref p2]) (hs ++ [(z, n)]) _ ⟨fun a o n h => ?_, ((U.dr.same sp).same sp2).mut fd ffo⟩ fon upd_same ?_ ?_ ?_ ?_
      · rw [upd_ne fun e => by rw [e, fon] at h; cases h]
        exact sp2 _ _ (sp _ _ (U.old a o n h))
      · refine (at7.wk fun a xs h => ?_).app (.one ?_)
        · rw [upd_ne fun e => by rw [e, hfo7] at h; cases h]
          exact sp2 _ _ (sp _ _ h)
        · rw [upd_ne (fun e => (by rw [e, sp _ _ hfo7] at hp2; cases hp2)), upd_same]
      · intro x hx
        rcases List.mem_append.mp hx with hx | hx
        · exact ok0 x hx
        · rw [List.mem_singleton.mp hx]
          exact ⟨hz, by show n ≤ 3; omega⟩
      · rw [List.length_append]
        show hs.length + 1 ≤ 10
        omega
      · obtain ⟨z1, rr, e⟩ := fst0
        exact ⟨z1, rr ++ [(z, n)], by rw [e]; rfl⟩
    · exact ⟨_, rfl, q fo rs hs _ (U.then sp) fon (sp _ _ hfo7) (at7.wk fun a xs h => sp _ _ h) ok0 (by omega) fst0⟩
  · have U : DUA K d c H H5 := ⟨fun a o n h => u1.old a o n (old a o n h), u1.dr⟩
    exact ⟨_, rfl, q fo rs hs _ U fon (u1.lst dr hfo) (at0.wk fun a xs h => u1.tup dr h) ok0 (by omega) fst0⟩
end
end Kt
namespace Kt
open PySem PySem.Spec PyProof.Rows L2
/-! ### patterns, as told -/
mutual
def Th.shape (h : Bool) : Th → Bool
  | .str z => h && isHl z
  | .tup l => shapeT h l
  | _ => false
/-- a tuple's items: a name, then parts -/
def shapeT (h : Bool) : List Th → Bool
  | [] => false
  | x :: ps => decide (ps.length < 4) && (x.word 8 && shapeL h ps)
def shapeL (h : Bool) : List Th → Bool
  | [] => true
  | p :: ps => p.shape h && shapeL h ps
end
mutual
def Th.size : Th → Int
  | .tup l => sizeT l
  | _ => 1
def sizeT : List Th → Int
  | [] => 1
  | _ :: ps => 1 + sizeL ps
def sizeL : List Th → Int
  | [] => 0
  | p :: ps => p.size + sizeL ps
end
mutual
def Th.dep : Th → Nat
  | .tup l => depT l
  | _ => 1
def depT : List Th → Nat
  | [] => 1
  | _ :: ps => 1 + depL ps
def depL : List Th → Nat
  | [] => 0
  | p :: ps => max p.dep (depL ps)
end
mutual
/-- how deep a thing's tuples lie -/
def Th.hgt : Th → Nat
  | .tup l => 1 + hgtL l
  | _ => 0
def hgtL : List Th → Nat
  | [] => 0
  | p :: ps => max p.hgt (hgtL ps)
end
theorem hgtL_le {m : Nat} : ∀ {l : List Th}, hgtL l ≤ m ↔ ∀ p ∈ l, p.hgt ≤ m
  | [] => ⟨fun _ _ h => (List.not_mem_nil h).elim, fun _ => Nat.zero_le _⟩
  | p :: ps => by
    show max p.hgt (hgtL ps) ≤ m ↔ _
    have ih := hgtL_le (m := m) (l := ps)
    constructor
    · intro h q hq
      rcases List.mem_cons.mp hq with rfl | hq
      · omega
      · exact ih.mp (by omega) q hq
    · intro h
      have h1 := h p (List.mem_cons_self ..)
      have h2 := ih.mpr fun q hq => h q (List.mem_cons_of_mem _ hq)
      omega
theorem shapeL_iff {h : Bool} : ∀ {l : List Th}, shapeL h l = true ↔ ∀ p ∈ l, p.shape h = true
  | [] => ⟨fun _ _ h => (List.not_mem_nil h).elim, fun _ => rfl⟩
  | p :: ps => by
    show (p.shape h && shapeL h ps) = true ↔ _
    rw [Bool.and_eq_true, shapeL_iff (l := ps)]
    constructor
    · rintro ⟨h1, h2⟩ q hq
      rcases List.mem_cons.mp hq with rfl | hq
      · exact h1
      · exact h2 q hq
    · exact fun h => ⟨h p (List.mem_cons_self ..), fun q hq => h q (List.mem_cons_of_mem _ hq)⟩
/-- a tuple of the shape has its items so -/
theorem shape_tup {h : Bool} {l : List Th} (e : (Th.tup l).shape h = true) : ∃ z ps, l = .str z :: ps ∧ ps.length < 4 ∧ isW z 8 = true ∧ ∀ p ∈ ps, p.shape h = true := by
  have e : shapeT h l = true := e
  cases l with
  | nil => cases e
  | cons x ps =>
    have e : (decide (ps.length < 4) && (x.word 8 && shapeL h ps)) = true := e
    simp only [Bool.and_eq_true, decide_eq_true_eq] at e
    obtain ⟨h1, h2, h3⟩ := e
    cases x with
    | str z => exact ⟨z, ps, rfl, h1, h2, shapeL_iff.mp h3⟩
    | _ => cases h2
theorem shape_of {h : Bool} {z : Str} {ps : List Th} (h1 : ps.length < 4) (h2 : isW z 8 = true) (h3 : ∀ p ∈ ps, p.shape h = true) : (Th.tup (.str z :: ps)).shape h = true := by
  show (decide (ps.length < 4) && ((Th.str z).word 8 && shapeL h ps)) = true
  rw [decide_eq_true h1, shapeL_iff.mpr h3]
  show (true && (isW z 8 && true)) = true
  rw [h2]
  rfl
/-! ### the law's word and the program's -/
def due (h : Bool) (t : Th) : Bool := t.shape h && (decide (t.size < 31) && decide ((t.dep : Int) < 6))
mutual
theorem size_pos : ∀ t : Th, 1 ≤ t.size
  | .tup [] => Int.le_refl 1
  | .tup (_ :: ps) => by
    have := sizeL_pos ps
    show 1 ≤ 1 + sizeL ps
    omega
  | .non | .bl _ | .int _ | .str _ | .ls | .dc => Int.le_refl 1
theorem sizeL_pos : ∀ l : List Th, 0 ≤ sizeL l
  | [] => Int.le_refl 0
  | p :: ps => by
    have h1 := size_pos p
    have h2 := sizeL_pos ps
    show 0 ≤ p.size + sizeL ps
    omega
end
theorem dep_pos (t : Th) : 1 ≤ t.dep := by
  cases t with
  | tup l =>
    cases l with
    | nil => exact Nat.le_refl 1
    | cons x ps => exact Nat.le_add_right 1 (depL ps)
  | _ => exact Nat.le_refl 1
theorem hole_shape {t : Th} (h : t.hole = true) (b : Bool) : t.shape b = b ∧ t.size = 1 ∧ t.dep = 1 := by
  cases t with
  | str z =>
    refine ⟨?_, rfl, rfl⟩
    show (b && isHl z) = b
    rw [show isHl z = true from h, Bool.and_true]
  | _ => cases h
/-- what the program's walk tells -/
theorem sw_eq (b : Bool) : ∀ (d : Nat) (t : Th), sw b d t = if t.shape b = true ∧ t.dep ≤ d then t.size else 0
  | 0, t => by
    have := dep_pos t
    rw [if_neg (fun h => by omega)]
    rfl
  | d + 1, t => by
    unfold sw
    by_cases hh : t.hole = true
    · obtain ⟨e1, e2, e3⟩ := hole_shape hh b
      rw [if_pos hh, e1, e2, e3]
      cases b with
      | true => rw [if_pos rfl, if_pos ⟨rfl, by omega⟩]
      | false => rw [if_neg Bool.false_ne_true, if_neg fun h => by cases h.1]
    · rw [if_neg hh]
      have loop : ∀ (ps : List Th) (acc : Int), 1 ≤ acc → swl (sw b d) acc ps = if shapeL b ps = true ∧ depL ps ≤ d then acc + sizeL ps else 0 := by
        intro ps
        induction ps with
        | nil =>
          intro acc _
          rw [if_pos ⟨rfl, Nat.zero_le _⟩]
          show acc = acc + 0
          omega
        | cons p ps ih =>
          intro acc ha
          show (if sw b d p = 0 then 0 else swl (sw b d) (acc + sw b d p) ps) = _
          have hp := sw_eq b d p
          have sp := size_pos p
          by_cases c : p.shape b = true ∧ p.dep ≤ d
          · rw [if_pos c] at hp
            rw [hp, if_neg (by omega), ih (acc + p.size) (by omega)]
            by_cases c2 : shapeL b ps = true ∧ depL ps ≤ d
            · rw [if_pos c2, if_pos ⟨by show (p.shape b && shapeL b ps) = true; rw [c.1, c2.1]; rfl, by show max p.dep (depL ps) ≤ d; omega⟩]
              show acc + p.size + sizeL ps = acc + (p.size + sizeL ps)
              omega
            · rw [if_neg c2, if_neg]
              rintro ⟨h1, h2⟩
              have h1 : (p.shape b && shapeL b ps) = true := h1
              have h2 : max p.dep (depL ps) ≤ d := h2
              rw [Bool.and_eq_true] at h1
              exact c2 ⟨h1.2, by omega⟩
          · rw [if_neg c] at hp
            rw [hp, if_pos rfl, if_neg]
            rintro ⟨h1, h2⟩
            have h1 : (p.shape b && shapeL b ps) = true := h1
            have h2 : max p.dep (depL ps) ≤ d := h2
            rw [Bool.and_eq_true] at h1
            exact c ⟨h1.1, by omega⟩
      cases t with
      | tup l =>
        cases l with
        | nil => rw [if_neg fun h => by cases h.1]
        | cons x ps =>
          show (if ps.length ≤ 3 ∧ x.word 8 = true then swl (sw b d) 1 ps else 0) = if (decide (ps.length < 4) && (x.word 8 && shapeL b ps)) = true ∧ 1 + depL ps ≤ d + 1 then 1 + sizeL ps else 0
          rw [loop ps 1 (Int.le_refl 1)]
          by_cases c1 : ps.length ≤ 3 ∧ x.word 8 = true
          · rw [if_pos c1, c1.2, decide_eq_true (by omega : ps.length < 4), Bool.true_and, Bool.true_and]
            by_cases c2 : shapeL b ps = true ∧ depL ps ≤ d
            · rw [if_pos c2, if_pos ⟨c2.1, by omega⟩]
            · rw [if_neg c2, if_neg fun h => c2 ⟨h.1, by omega⟩]
          · rw [if_neg c1, if_neg]
            rintro ⟨h1, _⟩
            simp only [Bool.and_eq_true, decide_eq_true_eq] at h1
            exact c1 ⟨by omega, h1.2.1⟩
      | str z =>
        rw [if_neg]
        rintro ⟨h1, _⟩
        have h1 : (b && isHl z) = true := h1
        rw [Bool.and_eq_true] at h1
        exact hh h1.2
      | _ => rw [if_neg fun h => by cases h.1]
theorem within_due (b : Bool) (t : Th) : within b t = due b t := by
  unfold within due
  rw [sw_eq]
  have hs := size_pos t
  by_cases c : t.shape b = true ∧ t.dep ≤ 5
  · rw [if_pos c, c.1, decide_eq_true hs, decide_eq_true (by omega : (t.dep : Int) < 6), Bool.true_and, Bool.true_and, Bool.and_true]
    exact decide_eq_decide.mpr (by omega)
  · rw [if_neg c, decide_eq_false (by decide : ¬ (1 : Int) ≤ 0), Bool.false_and]
    by_cases c1 : t.shape b = true
    · rw [c1, decide_eq_false (fun h => c ⟨c1, by omega⟩ : ¬ (t.dep : Int) < 6), Bool.and_false, Bool.and_false]
    · rw [Bool.eq_false_iff.mpr c1, Bool.false_and]
theorem range_map_getD {α β : Type} (d : α) (l : List α) (g : α → β) : ((List.range l.length).map fun i => g (l.getD i d)) = l.map g := by
  apply List.ext_getElem
  · rw [List.length_map, List.length_map, List.length_range]
  · intro i h1 h2
    rw [List.length_map, List.length_range] at h1
    rw [List.getElem_map, List.getElem_map, List.getElem_range, List.getD_eq_getElem?_getD, List.getElem?_eq_getElem h1]
    rfl
/-- a comprehension over the parts of a tuple, each told by f -/
theorem lc_parts {K : PySem.W.Frag} {H0 : Hp} {p D : Addr} {ys : List V} {ps : List Th} {σ : L2.St} {vs : List Nat} {j : Nat} {Qd : Hp → Prop} {te : TE} (f : Th → V) (hp : H0 p = some (.tup ys)) (hr : RepL H0 ys ps) (hn : ys.length ≤ 100) (hD : H0 D = none)
    (hset : ∀ x, wipe ((wipe σ vs).set j (some x)) vs = wipe σ vs) (he : ∀ x t H', Same H0 H' → t ∈ ps → Rep H' x t → ∀ Q : VK, (∀ H2, Same H' H2 → Q (f t) H2) → te ((wipe σ vs).set j (some x)) H' Q)
    (hd : ∀ H', Same H0 H' → H' D = some (.lst (ps.map f)) → Qd H') :
    ∃ W : Nat → Nat → Hp → Prop, (∃ m, W 0 m (upd H0 D (.lst []))) ∧ ∀ i m H, W i m H →
      ((Itt K p).stop i H ∧ Qd H) ∨ ((Itt K p).go i H ∧ ∃ Nx : Hp → Prop, (∀ H', Nx H' → ∃ m', m' < m ∧ W (i + 1) m' H') ∧ ∀ x H', (Itt K p).yld i H x H' → gName j x (wipe σ vs) H' fun σ2 H2 => wipe σ2 vs = wipe σ vs ∧ tYes σ2 H2 fun b H3 =>
        if b = true then te σ2 H3 fun y H4 => ∃ acc, H4 D = some (.lst acc) ∧ acc.length < sizeLine ∧ Nx (upd H4 D (.lst (acc ++ [y]))) else Nx H3) := by
  have hl := hr.length
  refine lc_pure (walk_tup (K := K)) (fun i => f (ps.getD i .non)) hD (by omega) (fun H' s' => SqT.of (s' _ _ hp)) hset (fun i x H H' hi s1 y => ?_) (fun H' s' e => hd H' s' ?_)
  · obtain ⟨rfl, hx⟩ := y
    obtain ⟨t, ht, rt⟩ := (hr.wk (Wk.same s1)).get' hx
    refine ⟨Same.refl _, fun Q q => ?_⟩
    have e : ps.getD i .non = t := by rw [List.getD_eq_getElem?_getD, ht]; rfl
    rw [e] at q
    exact he x t _ s1 (List.mem_of_getElem? ht) rt Q q
  · rw [e, hl, range_map_getD]
theorem hgt_part {m : Nat} {l : List Th} (h : (Th.tup l).hgt < m + 1) : ∀ p ∈ l, p.hgt < m := fun p hp => by
  have h : 1 + hgtL l < m + 1 := h
  have := hgtL_le.mp (Nat.le_refl (hgtL l)) p hp
  omega
theorem all_map {ps : List Th} {b : Bool} : (ps.map fun t => t.shape b).all id = shapeL b ps := by
  induction ps with
  | nil => rfl
  | cons p ps ih =>
    rw [List.map_cons, List.all_cons, ih]
    rfl
theorem sum_map {ps : List Th} : (ps.map fun t => t.size).sum = sizeL ps := by
  induction ps with
  | nil => rfl
  | cons p ps ih =>
    rw [List.map_cons, List.sum_cons, ih]
    rfl
theorem max_map {ps : List Th} {m : Int} (h1 : m ∈ ps.map fun t => (t.dep : Int)) (h2 : ∀ y ∈ ps.map (fun t => (t.dep : Int)), y ≤ m) : m = (depL ps : Int) := by
  have g : ∀ l : List Th, (∀ t ∈ l, (t.dep : Int) ≤ m) → (depL l : Int) ≤ m ∨ l = [] := by
    intro l
    induction l with
    | nil => exact fun _ => .inr rfl
    | cons p ps ih =>
      intro h
      have a := h p (List.mem_cons_self ..)
      rcases ih fun t ht => h t (List.mem_cons_of_mem _ ht) with b | b
      · left
        show ((max p.dep (depL ps) : Nat) : Int) ≤ m
        omega
      · left
        subst b
        show ((max p.dep 0 : Nat) : Int) ≤ m
        omega
  have g2 : ∀ l : List Th, ∀ t ∈ l, t.dep ≤ depL l := by
    intro l
    induction l with
    | nil => exact fun t h => (List.not_mem_nil h).elim
    | cons p ps ih =>
      intro t h
      show t.dep ≤ max p.dep (depL ps)
      rcases List.mem_cons.mp h with rfl | h
      · omega
      · have := ih t h
        omega
  obtain ⟨t, ht, rfl⟩ := List.mem_map.mp h1
  have a := g2 ps t ht
  rcases g ps fun u hu => h2 _ (List.mem_map.mpr ⟨u, hu, rfl⟩) with b | b
  · omega
  · subst b
    exact (List.not_mem_nil ht).elim
theorem within_iff {b : Bool} {t : Th} : within b t = true ↔ t.shape b = true ∧ t.dep ≤ 5 ∧ t.size ≤ 30 := by
  rw [within_due]
  unfold due
  rw [Bool.and_eq_true, Bool.and_eq_true, decide_eq_true_eq, decide_eq_true_eq]
  constructor
  · rintro ⟨h1, h2, h3⟩
    exact ⟨h1, by omega, by omega⟩
  · rintro ⟨h1, h2, h3⟩
    exact ⟨h1, by omega, by omega⟩
mutual
theorem hgt_dep {b : Bool} : ∀ t : Th, t.shape b = true → t.hgt ≤ t.dep
  | .str z, _ => Nat.zero_le _
  | .tup [], h => by cases h
  | .tup (x :: ps), h => by
    have h : (decide (ps.length < 4) && (x.word 8 && shapeL b ps)) = true := h
    simp only [Bool.and_eq_true, decide_eq_true_eq] at h
    have h2 := hgtL_dep ps h.2.2
    have h3 : x.hgt = 0 := by
      cases x with
      | str z => rfl
      | _ => cases h.2.1
    show 1 + max x.hgt (hgtL ps) ≤ 1 + depL ps
    omega
  | .non, h | .bl _, h | .int _, h | .ls, h | .dc, h => by cases h
theorem hgtL_dep {b : Bool} : ∀ l : List Th, shapeL b l = true → hgtL l ≤ depL l
  | [], _ => Nat.le_refl 0
  | p :: r, h => by
    have h : (p.shape b && shapeL b r) = true := h
    rw [Bool.and_eq_true] at h
    have h1 := hgt_dep p h.1
    have h2 := hgtL_dep r h.2
    show max p.hgt (hgtL r) ≤ max p.dep (depL r)
    omega
end
theorem size_part {p : Th} : ∀ {l : List Th}, p ∈ l → p.size ≤ sizeL l
  | q :: r, h => by
    show p.size ≤ q.size + sizeL r
    rcases List.mem_cons.mp h with rfl | h
    · have := sizeL_pos r
      omega
    · have h1 := size_part h
      have := size_pos q
      omega
end Kt
namespace Kt
open PySem PySem.Spec PyProof.Rows L2
/-! ### terms drawn -/
def mostT : Nat → Nat | 2 => 3 | 3 => 3 | 4 => 2 | 5 => 1 | _ => 0
def bndT : Nat → Int | 1 => 1 | 2 => 4 | 3 => 13 | 4 => 27 | 5 => 28 | _ => 0
theorem most_at {l : Nat} (h : l ≤ 5) : [V.int 0, .int 0, .int 3, .int 3, .int 2, .int 1][l]? = some (.int (mostT l : Nat)) := by
  have : l = 0 ∨ l = 1 ∨ l = 2 ∨ l = 3 ∨ l = 4 ∨ l = 5 := by omega
  rcases this with rfl | rfl | rfl | rfl | rfl | rfl <;> rfl
theorem most_le (l : Nat) : mostT l ≤ 3 := by
  unfold mostT
  split <;> omega
theorem bnd_step {l : Nat} (h1 : 1 ≤ l) (h : l ≤ 5) {k : Nat} (hk : k ≤ mostT l) : 1 + (k : Int) * bndT (l - 1) ≤ bndT l := by
  have : l = 1 ∨ l = 2 ∨ l = 3 ∨ l = 4 ∨ l = 5 := by omega
  rcases this with rfl | rfl | rfl | rfl | rfl
  · have hk : k ≤ 0 := hk
    show 1 + (k : Int) * 0 ≤ 1
    omega
  · have hk : k ≤ 3 := hk
    show 1 + (k : Int) * 1 ≤ 4
    omega
  · have hk : k ≤ 3 := hk
    show 1 + (k : Int) * 4 ≤ 13
    omega
  · have hk : k ≤ 2 := hk
    show 1 + (k : Int) * 13 ≤ 27
    omega
  · have hk : k ≤ 1 := hk
    show 1 + (k : Int) * 27 ≤ 28
    omega
theorem bnd_30 {l : Nat} (h : l ≤ 5) : bndT l ≤ 30 := by
  have : l = 0 ∨ l = 1 ∨ l = 2 ∨ l = 3 ∨ l = 4 ∨ l = 5 := by omega
  rcases this with rfl | rfl | rfl | rfl | rfl | rfl <;> decide
theorem sizeL_le {m : Int} : ∀ {l : List Th}, (∀ t ∈ l, t.size ≤ m) → sizeL l ≤ (l.length : Int) * m
  | [], _ => by
    show (0 : Int) ≤ ((0 : Nat) : Int) * m
    omega
  | t :: l, h => by
    have h1 := h t List.mem_cons_self
    have h2 := sizeL_le (m := m) (l := l) fun x hx => h x (List.mem_cons_of_mem _ hx)
    show t.size + sizeL l ≤ ((l.length + 1 : Nat) : Int) * m
    rw [show ((l.length + 1 : Nat) : Int) * m = (l.length : Int) * m + m by rw [Int.natCast_add, Int.add_mul]; omega]
    omega
theorem depL_le {m : Nat} : ∀ {l : List Th}, (∀ t ∈ l, t.dep ≤ m) → depL l ≤ m
  | [], _ => Nat.zero_le _
  | t :: l, h => by
    have h1 := h t List.mem_cons_self
    have h2 := depL_le (m := m) (l := l) fun x hx => h x (List.mem_cons_of_mem _ hx)
    show max t.dep (depL l) ≤ m
    omega
theorem RepL.one {H : Hp} {v : V} {t : Th} (h : Rep H v t) : RepL H [v] [t] := .cons h .nil
/-- a list changed is a list still -/
theorem Wk.lst_upd {H : Hp} {D : Addr} {xs : List V} (h : H D = some (.lst xs)) (ys : List V) : Wk H (upd H D (.lst ys)) :=
  ⟨fun a zs q => by rw [upd_ne (ne_of q h fun e => nomatch e)]; exact q, fun a zs q => by
    by_cases e : a = D
    · subst e
      exact ⟨_, upd_same⟩
    · exact ⟨zs, by rw [upd_ne e]; exact q⟩, fun a zs q => ⟨zs, by rw [upd_ne (ne_of q h fun e => nomatch e)]; exact q⟩⟩
/-- two tuples put together -/
theorem catA {K : PySem.W.Frag} {H : Hp} {a b : Addr} {xs ys : List V} {Q : VK} (ha : H a = some (.tup xs)) (hb : H b = some (.tup ys)) (hx : xs ≠ []) (hl : xs.length + ys.length ≤ 200) (q : ∀ p H', Same H H' → H' p = some (.tup (xs ++ ys)) → Q (.ref p) H') : rCatA K (.ref a) (.ref b) H Q := by
  refine ⟨a, b, xs, ys, rfl, rfl, SqT.of ha, SqT.of hb, Nat.le_of_lt (small1000 (by omega)), fun e => absurd e hx, fun _ e => ?_, fun _ _ p hp => q p _ (same_new hp _) upd_same⟩
  subst e
  exact q a H (Same.refl H) (by rw [List.append_nil]; exact ha)
/-- a term as drawn: its shape, how deep, how great -/
def TmA (left : Nat) (t : Th) : Prop := t.shape false = true ∧ t.dep ≤ left ∧ t.size ≤ bndT left
theorem TmA.within {left : Nat} {t : Th} (h : TmA left t) (hl : left ≤ 5) : within false t = true := by
  obtain ⟨h1, h2, h3⟩ := h
  unfold Kt.within
  have := bnd_30 hl
  have hp := size_pos t
  rw [sw_eq, if_pos ⟨h1, by omega⟩, decide_eq_true hp, decide_eq_true (by omega : t.size ≤ 30)]
  rfl
structure HsA (H : Hp) (h : Addr) (rs : List V) (hs : List (Str × Nat)) : Prop where
  hl : H h = some (.lst rs)
  hat : HdsAt H rs hs
  ok : okHs hs
  few : hs.length ≤ 20
  fst : ∃ z r, hs = (z, 0) :: r
theorem HsA.same {H H' : Hp} {h : Addr} {rs : List V} {hs : List (Str × Nat)} (a : HsA H h rs hs) (s : Same H H') : HsA H' h rs hs := ⟨s _ _ a.hl, a.hat.wk fun _ _ q => s _ _ q, a.ok, a.few, a.fst⟩
theorem HsA.du {K : PySem.W.Frag} {d c : Addr} {H H' : Hp} {h : Addr} {rs : List V} {hs : List (Str × Nat)} (a : HsA H h rs hs) (dr : DrA K d c H) (u : DUA K d c H H') : HsA H' h rs hs := ⟨u.lst dr a.hl, a.hat.wk fun _ _ q => u.tup dr q, a.ok, a.few, a.fst⟩
def sp_termA (K : PySem.W.Frag) (n : Nat) : Sp := fun vs H Q _ => ∃ (d c h : Addr) (rs : List V) (hs : List (Str × Nat)) (left : Nat), vs = [.ref d, .ref h, .int (left : Int)] ∧ 1 ≤ left ∧ left ≤ n ∧ DrA K d c H ∧ HsA H h rs hs ∧
  ∀ v t H', Rep H' v t → TmA left t → DUA K d c H H' → Q v H'
section
variable {P : Program} {w : World} {K : PySem.W.Frag} {mg : Str → Option Value} {base : Heap}
theorem c__law_term_n (T : Tx K mg) : ∀ n : Nat, n ≤ 5 → Cl P w K mg base CX0 (n + 2) "_law_term" ["_law_state", "_law_heads_here", "_law_left"] (sp_termA K n)
  | 0, _ => Cl.no T.d__law_term fun vs H Q E h => by
    obtain ⟨d, c, h, rs, hs, left, _, h1, h2, _⟩ := h
    omega
  | n + 1, hn => by
    have ih := c__law_term_n T n (by omega)
    refine Cl.mk0 T.d__law_term sc__law_term (fun vs H Q E h => ?_) (fun f cdv A outer s H vs Q E hr h => ?_)
    · obtain ⟨d, c, h, rs, hs, left, rfl, _⟩ := h
      rfl
    obtain ⟨d, c, h, rs, hs, left, rfl, l1, l2, hD, hh, q⟩ := h
    refine ⟨_, (pss_cons (ps_set (i := 3) sc__law_term.nd rfl (Or.inr rfl) (pe_ix ix_list (pe_lst (pa_cons pe_int (pa_cons pe_int (pa_cons pe_int (pa_cons pe_int (pa_cons pe_int (pa_cons pe_int pa_nil))))))) (pv 2) (fun _ _ => rfl)))
    (pss_cons (ps_setLc (i := 4) (own := [("_law_x", 7)]) (g := gName 7) rfl sc__law_term.nd rfl rfl (sw_true rfl rfl rfl (by decide +kernel)) (pi_list (pv 1)) (blkOk_by (own := [("_law_x", 7)]) (N := ["_law_state", "_law_heads_here", "_law_left", "_law_most", "_law_some", "_law_name_here", "_law_many", "_law_x", "_law_k"]) (sc := defScope s__law_term) (by decide +kernel)) (fun _ _ _ _ _ => (pg_name (i := 7) sc__law_term.nd rfl (Or.inl rfl))) (fun _ _ _ _ _ => (pts_one (pt_cmpR op_le (pe_ix (r := rIxT K) ix_tup (pv 7) pe_int (fun _ _ => rfl)) (pv 3) (nomark _)))) (fun _ _ _ _ _ => (pv 7)))
    (pss_cons (ps_asg (pe_ix ix_list (pv 4) (pe_cl (c__law_take T) hr (by omega) rfl (pa_cons (pv 0) (pa_cons (pe_callB call_len (by rfl) T.z_len (by decide +kernel) (pa_cons (pv 4) pa_nil)) pa_nil))) (fun _ _ => rfl)) (pg_tup rfl (pgs_cons (pg_name (i := 5) sc__law_term.nd rfl (Or.inl rfl)) (pgs_cons (pg_name (i := 6) sc__law_term.nd rfl (Or.inl rfl)) pgs_nil))))
    (pss_one (ps_ret (pe_op op_catA (pe_tup (pa_cons (pv 5) pa_nil)) (pe_callTy call_tuple_of (by rfl) T.z_tuple (by decide +kernel) (pa_cons (pe_lc (own := [("_law_k", 8)]) (g := gName 8) (tt := tYes) rfl sc__law_term.nd (pi_range1 (by rfl) T.z_range (pa_cons (pv 6) pa_nil)) (blkOk_by (own := [("_law_k", 8)]) (N := ["_law_state", "_law_heads_here", "_law_left", "_law_most", "_law_some", "_law_name_here", "_law_many", "_law_x", "_law_k"]) (sc := defScope s__law_term) (by decide +kernel)) (fun _ _ _ _ _ => (pg_name (i := 8) sc__law_term.nd rfl (Or.inl rfl))) (fun _ _ _ _ _ => pts_nil) (fun _ _ _ _ _ => (pe_cl ih hr (by omega) rfl (pa_cons (pv 0) (pa_cons (pv 1) (pa_cons (pe_op op_sub (pv 2) pe_int) pa_nil)))))) pa_nil)))))))), ?_⟩
    refine ⟨by show 6 ≤ sizeLine; decide, fun p0 hp0 => ⟨_, rfl, p0, _, _, _, rfl, rfl, SqL.of upd_same, atI_nat (most_at (by omega)), ?_⟩⟩
    have s0 := same_new (o := .lst [V.int 0, .int 0, .int 3, .int 3, .int 2, .int 1]) hp0
    have hh0 := hh.same s0
    refine ⟨_, rfl, h, rfl, ⟨_, SqL.of hh0.hl⟩, fun D hDn => ?_⟩
    refine lc_it (walk_list (K := K) (xs := rs)) (fun i H' => Same (upd H p0 (.lst [V.int 0, .int 0, .int 3, .int 3, .int 2, .int 1])) H' ∧ ∃ rs' hs', H' D = some (.lst rs') ∧ HdsAt H' rs' hs' ∧ (∀ x ∈ hs', isW x.1 8 = true ∧ x.2 ≤ mostT left) ∧ hs'.length ≤ i ∧ (1 ≤ i → 1 ≤ hs'.length)) ⟨same_new hDn _, [], [], upd_same, .nil, fun _ h => (List.not_mem_nil h).elim, Nat.zero_le _, fun h => absurd h (by decide)⟩ (fun i Hx _ k => SqL.of (k.1 _ _ hh0.hl)) (fun i x Hx Hy hi k yy => ?_) (fun Hx k => ?_)
    · obtain ⟨rfl, hx⟩ := yy
      obtain ⟨sx, rs', hs', b1, b2, b3, b4, b5⟩ := k
      obtain ⟨a, y, rfl, e2, e3⟩ := hh0.hat.get i x hx
      have e4 := sx _ _ e3
      have ilen : i < 20 := by
        have := hh.hat.len
        have := hh.few
        omega
      have ymem : y ∈ hs := List.mem_of_getElem? e2
      refine ⟨rfl, _, rfl, a, _, _, _, rfl, rfl, SqT.of e4, atI_nat (j := 1) rfl, _, rfl, _, _, rfl, rfl, _, rfl, ite2 (fun c1 => ?_) (fun c1 => ?_)⟩
      · have c1 : (y.2 : Int) ≤ (mostT left : Nat) := of_decide_eq_true c1
        refine ⟨_, rfl, rs', b1, small1000 (by rw [b2.len]; omega), Same.mut sx hDn, rs' ++ [.ref a], hs' ++ [y], upd_same, ?_, fun z hz => ?_, ?_, fun _ => ?_⟩
        · refine (b2.wk fun b xs h => ?_).app (.one ?_)
          · rw [upd_ne (ne_of h b1 fun e => nomatch e)]
            exact h
          · rw [upd_ne (ne_of e4 b1 fun e => nomatch e)]
            exact e4
        · rcases List.mem_append.mp hz with hz | hz
          · exact b3 z hz
          · rw [List.mem_singleton.mp hz]
            exact ⟨(hh.ok y ymem).1, by omega⟩
        · rw [List.length_append]
          show hs'.length + 1 ≤ i + 1
          omega
        · rw [List.length_append]
          exact Nat.le_add_left 1 _
      · refine ⟨sx, rs', hs', b1, b2, b3, by omega, fun _ => ?_⟩
        cases i with
        | zero =>
          obtain ⟨z, r, e⟩ := hh.fst
          rw [e] at e2
          cases e2
          exact absurd (decide_eq_true (by show ((0 : Nat) : Int) ≤ (mostT left : Nat); omega)) c1
        | succ j => exact b5 (by omega)
    obtain ⟨sx, rs', hs', b1, b2, b3, b4, b5⟩ := k
    have len1 : 1 ≤ hs'.length := b5 (by
      have := hh.hat.len
      obtain ⟨z, r, e⟩ := hh.fst
      rw [this, e]
      exact Nat.le_add_left 1 _)
    have len2 : hs'.length ≤ 20 := by
      have := hh.hat.len
      have := hh.few
      omega
    have lenr := b2.len
    have dr1 := hD.same (s0.trans sx)
    refine ⟨_, rfl, _, rfl, _, rfl, _, _, rfl, .inl ⟨_, SqL.of b1, rfl⟩, d, c, _, rfl, by omega, by omega, dr1, fun r H2 r0 r1 u1 => ?_⟩
    obtain ⟨j, rfl⟩ : ∃ j : Nat, r = (j : Int) := ⟨r.toNat, by omega⟩
    have hj : j < hs'.length := by omega
    obtain ⟨a, ha, hta⟩ := b2.at hj
    have hm := b3 _ (List.getElem_mem hj)
    generalize hs'[j] = y at hm hta
    obtain ⟨z, k⟩ := y
    obtain ⟨hz, hk⟩ := hm
    have hz : isW z 8 = true := hz
    have hk : k ≤ mostT left := hk
    have hta2 : H2 a = some (.tup [.str z, .int (k : Nat)]) := u1.tup dr1 hta
    have hk3 : k ≤ 3 := Nat.le_trans hk (most_le left)
    refine ⟨D, _, _, _, rfl, rfl, SqL.of (u1.lst dr1 b1), atI_nat ha, a, _, rfl, SqT.of hta2, rfl, ?_⟩
    refine ⟨_, _, rfl, _, _, rfl, rfl, ?_⟩
    have dr2 := u1.dr
    have hh2 := (hh0.same sx).du dr1 u1
    have U2 : DUA K d c H H2 := (DUA.same hD (s0.trans sx)).trans u1
    refine ⟨_, rfl, by show 1 ≤ sizeLine; decide, fun p hp => ?_⟩
    have s3 := same_new (o := .tup [.str z]) hp
    have U3 := U2.then s3
    refine ⟨_, rfl, _, rfl, by omega, by omega, fun L hL => ?_⟩
    have far := U3.dr.far hL
    have Ld : L ≠ d := U3.dr.ne hL
    have pL : p ≠ L := ne_of_none upd_same hL
    refine lc_it (walk_range (lo := 0)) (fun i H' => ∃ vs ts, DUA K d c H H' ∧ HsA H' h rs hs ∧ H' p = some (.tup [.str z]) ∧ H' L = some (.lst vs) ∧ vs.length = i ∧ RepL H' vs ts ∧ ∀ t ∈ ts, TmA (left - 1) t) ⟨[], [], U3.then (same_new hL _), (hh2.same s3).same (same_new hL _), same_new hL _ _ _ upd_same, upd_same, rfl, .nil, fun t h => (List.not_mem_nil h).elim⟩ (fun _ _ _ _ => trivial) (fun i x H' H'' hi p' y => ?_) (fun H' p' => ?_)
    · obtain ⟨rfl, rfl⟩ := y
      obtain ⟨vs, ts, u, hhH, hpH, hLH, hl, hr', hts⟩ := p'
      have l3 : 2 ≤ left := by
        rcases Nat.lt_or_ge 1 left with h | h
        · exact h
        · have e : left = 1 := by omega
          rw [e] at hk
          have hk : k ≤ 0 := hk
          omega
      refine ⟨rfl, yesI ?_⟩
      refine ⟨_, rfl, _, rfl, _, rfl, _, _, rfl, rfl, d, c, h, rs, hs, left - 1, ?_, by omega, by omega, u.dr, hhH, fun v t H4 rv tm u5 => ?_⟩
      · show [V.ref d, V.ref h, V.int ((left : Int) - 1)] = _
        rw [show (left : Int) - 1 = ((left - 1 : Nat) : Int) by omega]
      · have hL4 := u5.lst u.dr hLH
        have w5 := DUA.wk u.dr u5
        have hh4 := hhH.du u.dr u5
        have keep : ∀ a xs, H4 a = some (.tup xs) → (upd H4 L (.lst (vs ++ [v]))) a = some (.tup xs) := fun a xs q => by
          rw [upd_ne (ne_of q hL4 fun e => nomatch e)]
          exact q
        have hLn : H L = none := by
          cases e : H L with
          | none => rfl
          | some o => rw [U3.old L o Ld e] at hL; cases hL
        refine ⟨vs, hL4, small1000 (by omega), vs ++ [v], ts ++ [t], ⟨fun a o a1 q => ?_, u5.dr.mut Ld far⟩, ⟨?_, hh4.hat.wk keep, hh4.ok, hh4.few, hh4.fst⟩, keep _ _ (u5.tup u.dr hpH), upd_same, by rw [List.length_append, hl]; rfl, ((hr'.wk w5).append (RepL.one rv)).wk (Wk.lst_upd hL4 _), fun t' ht' => ?_⟩
        · rw [upd_ne (fun e => by rw [e, hLn] at q; cases q)]
          exact u5.old _ _ a1 (u.old _ _ a1 q)
        · rw [upd_ne (fun e => by have q := hh.hl; rw [e, hLn] at q; cases q)]
          exact hh4.hl
        · rcases List.mem_append.mp ht' with h | h
          · exact hts t' h
          · rw [List.mem_singleton.mp h]
            exact tm
    · obtain ⟨vs, ts, u, hhH, hpH, hLH, hl, hr', hts⟩ := p'
      refine ⟨L, _, rfl, .inl ⟨SqL.of hLH, fun M hM => ?_⟩⟩
      have s6 := same_new (o := .tup vs) hM
      refine catA (s6 _ _ hpH) upd_same (fun e => by cases e) (by rw [List.length_singleton]; omega) fun M2 H5 s7 h5 => ?_
      have hlen := hr'.length
      have w7 := Wk.same (s6.trans s7)
      refine q _ (.tup (.str z :: ts)) _ (.tup h5 ?_ (.cons (isW_rep hz (by decide)) (hr'.wk w7))) ⟨shape_of (by omega) hz fun t ht => (hts t ht).1, ?_, ?_⟩ (u.then (s6.trans s7))
      · rw [List.length_append, List.length_singleton]
        omega
      · have := depL_le (m := left - 1) (l := ts) fun t ht => (hts t ht).2.1
        show 1 + depL ts ≤ left
        omega
      · have e1 := sizeL_le (m := bndT (left - 1)) (l := ts) fun t ht => (hts t ht).2.2
        have e2 := bnd_step (l := left) l1 (by omega) (k := ts.length) (by omega)
        show 1 + sizeL ts ≤ bndT left
        omega
theorem c__law_term (T : Tx K mg) : Cl P w K mg base CX0 7 "_law_term" ["_law_state", "_law_heads_here", "_law_left"] (sp_termA K 5) := c__law_term_n T 5 (by decide)
end
end Kt
namespace Kt
open PySem PySem.Spec PyProof.Rows L2
mutual
/-- a pattern and all in it, from left to right -/
def allW : Th → List Th
  | .tup l => .tup l :: allT l
  | t => [t]
def allT : List Th → List Th
  | [] => []
  | _ :: ps => allL ps
def allL : List Th → List Th
  | [] => []
  | p :: ps => allW p ++ allL ps
end
mutual
theorem allW_len : ∀ t : Th, ((allW t).length : Int) = t.size
  | .tup [] => rfl
  | .tup (x :: ps) => by
    have := allL_len ps
    show (((.tup (x :: ps) :: allL ps : List Th).length : Nat) : Int) = 1 + sizeL ps
    rw [List.length_cons]
    omega
  | .non | .bl _ | .int _ | .str _ | .ls | .dc => rfl
theorem allL_len : ∀ l : List Th, ((allL l).length : Int) = sizeL l
  | [] => rfl
  | p :: ps => by
    have h1 := allW_len p
    have h2 := allL_len ps
    show (((allW p ++ allL ps).length : Nat) : Int) = p.size + sizeL ps
    rw [List.length_append]
    omega
end
theorem allL_app : ∀ l r : List Th, allL (l ++ r) = allL l ++ allL r
  | [], r => rfl
  | p :: l, r => by
    show allW p ++ allL (l ++ r) = (allW p ++ allL l) ++ allL r
    rw [allL_app l r, List.append_assoc]
/-- a dict's comprehension over any walk -/
theorem dc_it {J : It} {n : Nat} {G : Hp → Prop} {Y : Nat → Hp → V → Hp → Prop} (w : Walk J n G Y) {g : TG} {tt : TT} {tk tv : TE} {vs : List Nat} {σ : L2.St} {H1 : Hp} {D : Addr} {Qd : Hp → Prop} (Pv : Nat → Hp → Prop) (h0 : Pv 0 (upd H1 D (.dK []))) (hG : ∀ i H, i ≤ n → Pv i H → G H)
    (hs : ∀ i x H H', i < n → Pv i H → Y i H x H' → g x (wipe σ vs) H' fun σ2 H2 => wipe σ2 vs = wipe σ vs ∧ tt σ2 H2 fun b H3 => if b = true then tk σ2 H3 fun y H4 => tv σ2 H4 fun z H5 => ∃ kvs k, y = kV k ∧ H5 D = some (.dK kvs) ∧ kvs.length < sizeLine ∧ Pv (i + 1) (upd H5 D (.dK (putK kvs k z))) else Pv (i + 1) H3)
    (hd : ∀ H, Pv n H → Qd H) :
    ∃ W : Nat → Nat → Hp → Prop, (∃ m, W 0 m (upd H1 D (.dK []))) ∧ ∀ i m H, W i m H → (J.stop i H ∧ Qd H) ∨ (J.go i H ∧ ∃ Nx : Hp → Prop, (∀ H', Nx H' → ∃ m', m' < m ∧ W (i + 1) m' H') ∧ ∀ x H', J.yld i H x H' → g x (wipe σ vs) H' fun σ2 H2 => wipe σ2 vs = wipe σ vs ∧ tt σ2 H2 fun b H3 =>
      if b = true then tk σ2 H3 fun y H4 => tv σ2 H4 fun z H5 => ∃ kvs k, y = kV k ∧ H5 D = some (.dK kvs) ∧ kvs.length < sizeLine ∧ Nx (upd H5 D (.dK (putK kvs k z))) else Nx H3) := by
  refine ⟨fun i m H => m + i = n ∧ Pv i H, ⟨n, rfl, h0⟩, fun i m H hw => ?_⟩
  obtain ⟨e, p⟩ := hw
  by_cases hm : m = 0
  · have hi : i = n := by omega
    subst hi
    exact .inl ⟨w.stops H (hG _ H (Nat.le_refl _) p), hd H p⟩
  · have hi : i < n := by omega
    exact .inr ⟨w.goes i H hi (hG i H (Nat.le_of_lt hi) p), Pv (i + 1), fun H' p' => ⟨m - 1, by omega, by omega, p'⟩, fun x H' y => hs i x H H' hi p (w.yields i H x H' hi (hG i H (Nat.le_of_lt hi) p) y)⟩
def sp_all (n : Nat) : Sp := fun vs H Q _ => ∃ v t b, vs = [v] ∧ t.hgt < n ∧ t.shape b = true ∧ t.size ≤ 100 ∧ Rep H v t ∧ ∀ p H' xs, Same H H' → H p = none → H' p = some (.lst xs) → RepL H' xs (allW t) → Q (.ref p) H'
section
variable {P : Program} {w : World} {K : PySem.W.Frag} {mg : Str → Option Value} {base : Heap}
theorem c_all_within_n (T : Tx K mg) : ∀ n : Nat, Cl P w K mg base CX0 (n + 1) "all_within" ["pattern"] (sp_all n)
  | 0 => Cl.no T.d_all_within fun vs H Q E h => by
    obtain ⟨v, t, b, _, hd, _⟩ := h
    exact absurd hd (Nat.not_lt_zero _)
  | n + 1 => by
    have ih := c_all_within_n T n
    refine Cl.mk0 T.d_all_within sc_all_within (fun vs H Q E h => ?_) (fun f cdv A outer s H vs Q E hr h => ?_)
    · obtain ⟨v, t, b, rfl, _⟩ := h
      rfl
    obtain ⟨v, t, b, rfl, hd, hs, hz, r, q⟩ := h
    refine ⟨_, (pss_cons (ps_set (i := 1) sc_all_within.nd rfl (Or.inl rfl) (pe_lst (pa_cons (pv 0) pa_nil)))
    (Evl.pss_cut (ps_if (pt_val (pe_callB (id := "isinstance") (r := rIsi K) call_isi (by rfl) T.z_isinstance (by decide +kernel) (pa_cons (pv 0) (pa_cons (pe_bltn (v := .ty "tuple") (u := .type "tuple") (by rfl) T.z_tuple (by decide +kernel) rfl) pa_nil))))
      (pss_one (ps_for PassesOwn.never rfl (pi_tup (pe_slice sl_tupA (pv 0) (po_some pe_int) po_no)) (pg_name (i := 2) sc_all_within.nd rfl (Or.inl rfl))
        (pss_one (ps_expr (pe_bm PySem.F.plainAttrs_list PySem.F.slot_list_extend PySem.F.type_list_extend mt_extend (pv 1) (pa_cons (pe_cl ih hr (by omega) rfl (pa_cons (pv 2) pa_nil)) pa_nil))))))
      pss_nil)
    (pss_one (ps_ret (pv 1))))), ?_⟩
    refine ⟨_, rfl, by show 1 ≤ sizeLine; decide, fun p hp => ?_⟩
    have s0 := same_new hp (.lst [v])
    have r0 := r.wk (Wk.same s0)
    refine ⟨fun σ' H' => ∃ y xs, σ' = [some v, some (.ref p), y] ∧ Same H H' ∧ H' p = some (.lst xs) ∧ RepL H' xs (allW t), ?_, fun σ1 H1 e1 => ?_⟩
    · refine ⟨_, rfl, _, _, _, _, _, rfl, .ty _, r0.tyx, ktup t, _, rfl, ?_⟩
      cases r0 with
      | @tup a xs l ha hn hl =>
        obtain ⟨z, ps, rfl, h4, h8, hall⟩ := shape_tup hs
        cases hl with
        | @cons y ys _ _ hx hps =>
          refine iteT ⟨_, rfl, 1, rfl, ?_⟩
          refine sl_lo (K := K) 1 ha (by omega) (by rw [List.length_cons]; omega) fun p1 hp1 => ?_
          have s1 := same_new hp1 (.tup ys)
          have np1 : p ≠ p1 := ne_of_none upd_same hp1
          refine ⟨p1, rfl, ⟨ys, SqT.of upd_same⟩, for_tup (xs := ys) (fun i σ H' => ∃ y xs, σ = [some (.ref a), some (.ref p), y] ∧ Same H H' ∧ H' p1 = some (.tup ys) ∧ H' p = some (.lst xs) ∧ RepL H' xs (.tup (.str z :: ps) :: allL (ps.take i)) ∧ RepL H' ys ps)
            ⟨none, _, rfl, s0.trans s1, upd_same, s1 p _ upd_same, .cons (r.wk (Wk.same (s0.trans s1))) .nil, hps.wk (Wk.same s1)⟩ (fun i σ H' _ h' => ?_) (fun i x σ H' hx' h' => ?_) (fun σ H' h' => ?_)⟩
          · obtain ⟨_, _, _, _, h5, _⟩ := h'
            exact SqT.of h5
          · obtain ⟨y0, xs0, rfl, sH, h5, h6, h7, h8'⟩ := h'
            obtain ⟨t', ht', rt'⟩ := h8'.get' hx'
            have mt := List.mem_of_getElem? ht'
            have hsz := size_part mt
            have hszT : (Th.tup (.str z :: ps)).size = 1 + sizeL ps := rfl
            have hlen7 := h7.length
            have tl : ps.take (i + 1) = ps.take i ++ [t'] := by
              rw [List.take_add_one, ht']
              rfl
            have hal : ((allL (ps.take i) ++ allW t').length : Int) ≤ sizeL ps := by
              have e1 : allL (ps.take i) ++ allW t' = allL (ps.take (i + 1)) := by
                rw [tl, allL_app]
                show _ = allL (ps.take i) ++ (allW t' ++ [])
                rw [List.append_nil]
              rw [e1, ← allL_len ps]
              have : allL ps = allL (ps.take (i + 1)) ++ allL (ps.drop (i + 1)) := by rw [← allL_app, List.take_append_drop]
              rw [this, List.length_append]
              omega
            rw [List.length_append] at hal
            refine ⟨_, rfl, .inl ⟨rfl, _, SqL.of h6⟩, _, rfl, x, t', b, rfl, hgt_part hd t' (List.mem_cons_of_mem _ mt), hall t' mt, by omega, rt', fun p2 H2 zs s2 np2 h9 rz => ?_⟩
            have hlz := rz.length
            rw [List.length_cons] at hlen7
            have pp2 : p ≠ p2 := ne_of_none h6 np2
            refine ⟨p, p2, xs0, zs, rfl, rfl, s2 _ _ h6, h9, Nat.le_of_lt (small1000 (by omega)), ?_⟩
            have w2 := Wk.lst_upd (s2 _ _ h6) (xs0 ++ zs)
            refine ⟨_, _, rfl, Same.mut (sH.trans s2) hp, by rw [upd_ne (ne_of (s2 _ _ h5) (s2 _ _ h6) fun e => nomatch e)]; exact s2 _ _ h5, upd_same, ?_, (h8'.wk (Wk.same s2)).wk w2⟩
            have : (Th.tup (.str z :: ps) :: allL (ps.take (i + 1))) = (Th.tup (.str z :: ps) :: allL (ps.take i)) ++ allW t' := by
              rw [tl, allL_app]
              show _ :: (allL (ps.take i) ++ (allW t' ++ [])) = _
              rw [List.append_nil]
              rfl
            rw [this]
            exact ((h7.wk (Wk.same s2)).append rz).wk w2
          · obtain ⟨y0, xs0, rfl, sH, h5, h6, h7, h8'⟩ := h'
            rw [h8'.length, List.take_length] at h7
            exact ⟨_, _, rfl, sH, h6, h7⟩
      | str z hz' ok => exact iteF ⟨_, _, rfl, s0, upd_same, .cons (.str z hz' ok) .nil⟩
      | _ => cases hs
    obtain ⟨y, xs, rfl, sH, h1, h2⟩ := e1
    exact ⟨_, rfl, q p H1 xs sH hp h1 h2⟩
theorem c_all_within (T : Tx K mg) : Cl P w K mg base CX0 7 "all_within" ["pattern"] (sp_all 6) := c_all_within_n T 6
end
end Kt
namespace Kt
open PySem PySem.Spec PyProof.Rows L2
/-! ### texts of patterns -/
def hdc : Th → List Nat | .str z => z.cps.toList | _ => []
open TL in
mutual
def Th.wl : Th → List Nat
  | .str z => z.cps.toList
  | .tup l => wlT l
  | _ => []
def wlT : List Th → List Nat
  | [] => []
  | x :: ps => match ps with
    | [] => hdc x
    | p :: r => hdc x ++ (40 :: (joinL [44] (p.wl :: wlL r) ++ [41]))
def wlL : List Th → List (List Nat)
  | [] => []
  | p :: ps => p.wl :: wlL ps
end
def Th.wr (t : Th) : Str := ⟨t.wl.toArray⟩
theorem wlL_map : ∀ l : List Th, wlL l = l.map Th.wl
  | [] => rfl
  | p :: ps => congrArg (p.wl :: ·) (wlL_map ps)
theorem wr_list (t : Th) : t.wr.cps.toList = t.wl := rfl
theorem wr_len (t : Th) : t.wr.length = t.wl.length := rfl
theorem wl_tup (x p : Th) (r : List Th) : (Th.tup (x :: p :: r)).wl = hdc x ++ (40 :: (TL.joinL [44] ((p :: r).map Th.wl) ++ [41])) := by
  rw [← wlL_map]
  rfl
theorem joinL_len (S : List Nat) : ∀ l : List (List Nat), (TL.joinL S l).length + S.length ≤ (l.map List.length).sum + l.length * S.length + S.length
  | [] => by simp [TL.joinL]
  | [p] => by simp [TL.joinL]
  | p :: q :: r => by
    have ih := joinL_len S (q :: r)
    show (p ++ (S ++ TL.joinL S (q :: r))).length + S.length ≤ _
    rw [List.length_append, List.length_append, List.map_cons, List.sum_cons, List.length_cons, Nat.succ_mul]
    omega
mutual
theorem wl_bound {b : Bool} : ∀ t : Th, t.shape b = true → (t.wl.length : Int) ≤ 16 * t.size
  | .str z, h => by
    have h : (b && isHl z) = true := h
    rw [Bool.and_eq_true] at h
    have h2 := h.2
    unfold isHl at h2
    rw [Bool.and_eq_true] at h2
    have h3 := (isW_out h2.2).2.1
    have e2 : (cutS z (some 1) none).length + 1 ≥ z.length := by
      show ((z.cps.toList.drop (HT.sIx z.length 0 (some ((1 : Nat) : Int)))).take (HT.sIx z.length z.length none - HT.sIx z.length 0 (some ((1 : Nat) : Int)))).length + 1 ≥ z.cps.size
      rw [HT.sIx_nat, HT.sIx_none, List.length_take, List.length_drop, Array.length_toList]
      have : z.length = z.cps.size := rfl
      omega
    show ((z.cps.toList.length : Nat) : Int) ≤ 16 * 1
    have : z.length = z.cps.toList.length := rfl
    omega
  | .tup [], h => by cases h
  | .tup (x :: ps), h => by
    have h : (decide (ps.length < 4) && (x.word 8 && shapeL b ps)) = true := h
    simp only [Bool.and_eq_true, decide_eq_true_eq] at h
    have hw : (hdc x).length ≤ 8 := by
      cases x with
      | str z =>
        have h3 := (isW_out (show isW z 8 = true from h.2.1)).2.1
        have : (hdc (.str z)).length = z.length := rfl
        omega
      | _ => exact Nat.zero_le _
    have hs := wlL_bound ps h.2.2
    have sp := sizeL_pos ps
    cases ps with
    | nil =>
      show (((hdc x).length : Nat) : Int) ≤ 16 * (1 + 0)
      omega
    | cons p r =>
      have hj := joinL_len [44] ((p :: r).map Th.wl)
      rw [List.length_map, List.length_singleton, List.map_map] at hj
      rw [wl_tup, List.length_append, List.length_cons, List.length_append, List.length_singleton]
      show _ ≤ 16 * (1 + sizeL (p :: r))
      have h4 := h.1
      have e : (List.map (List.length ∘ Th.wl) (p :: r)).sum = ((p :: r).map fun t => t.wl.length).sum := rfl
      rw [e] at hj
      omega
  | .non, h | .bl _, h | .int _, h | .ls, h | .dc, h => by cases h
theorem wlL_bound {b : Bool} : ∀ l : List Th, shapeL b l = true → (((l.map fun t => t.wl.length).sum : Nat) : Int) ≤ 16 * sizeL l
  | [], _ => Int.le_refl 0
  | p :: r, h => by
    have h : (p.shape b && shapeL b r) = true := h
    rw [Bool.and_eq_true] at h
    have h1 := wl_bound p h.1
    have h2 := wlL_bound r h.2
    rw [List.map_cons, List.sum_cons]
    show _ ≤ 16 * (p.size + sizeL r)
    omega
end
def sp_written (n : Nat) : Sp := fun vs H Q _ => ∃ v t b, vs = [v] ∧ t.hgt < n ∧ t.shape b = true ∧ t.size ≤ 100 ∧ Rep H v t ∧ ∀ H', Same H H' → Q (.str t.wr) H'
def sp_text : Sp := fun vs H Q _ => ∃ v t, vs = [v] ∧ Rep H v t ∧ within true t = true ∧ ∀ H', Same H H' → Q (.str t.wr) H'
section
variable {P : Program} {w : World} {K : PySem.W.Frag} {mg : Str → Option Value} {base : Heap}
theorem c_written_n (T : Tx K mg) : ∀ n : Nat, Cl P w K mg base CX0 (n + 1) "written" ["pattern"] (sp_written n)
  | 0 => Cl.no T.d_written fun vs H Q E h => by
    obtain ⟨v, t, b, _, hd, _⟩ := h
    exact absurd hd (Nat.not_lt_zero _)
  | n + 1 => by
    have ih := c_written_n T n
    refine Cl.mk0 T.d_written sc_written (fun vs H Q E h => ?_) (fun f cdv A outer s H vs Q E hr h => ?_)
    · obtain ⟨v, t, b, rfl, _⟩ := h
      rfl
    obtain ⟨v, t, b, rfl, hd, hs, hz, r, q⟩ := h
    refine ⟨_, (pss_cons (ps_if (pt_val (pe_callB (id := "isinstance") (r := rIsi K) call_isi (by rfl) T.z_isinstance (by decide +kernel) (pa_cons (pv 0) (pa_cons (pe_bltn (v := .ty "str") (u := .type "str") (by rfl) T.z_str (by decide +kernel) rfl) pa_nil))))
      (pss_one (ps_ret (pv 0)))
      pss_nil)
    (pss_cons (ps_if (pt_cmpR op_eq (pe_callB call_len (by rfl) T.z_len (by decide +kernel) (pa_cons (pv 0) pa_nil)) pe_int (nomark _))
      (pss_one (ps_ret (pe_ix ix_tup (pv 0) pe_int (fun _ _ => rfl))))
      pss_nil)
    (pss_cons (ps_set (i := 1) sc_written.nd rfl (Or.inl rfl) (pe_join pe_str (pe_lc (own := [("part", 2)]) (g := gName 2) (tt := tYes) rfl sc_written.nd (pi_tup (pe_slice sl_tupA (pv 0) (po_some pe_int) po_no)) (blkOk_by (own := [("part", 2)]) (N := ["pattern", "parts", "part"]) (sc := defScope s_written) (by decide +kernel)) (fun _ _ _ _ _ => (pg_name (i := 2) sc_written.nd rfl (Or.inl rfl))) (fun _ _ _ _ _ => pts_nil) (fun _ _ _ _ _ => (pe_cl ih hr (by omega) rfl (pa_cons (pv 2) pa_nil))))))
    (pss_one (ps_ret (pe_joined (PJ.cons (pe_fmt (pe_ix ix_tup (pv 0) pe_int (fun _ _ => rfl))) (PJ.cons pe_str (PJ.cons (pe_fmt (pv 1)) (PJ.cons pe_str PJ.nil)))))))))), ?_⟩
    refine ⟨_, rfl, _, _, _, _, _, rfl, .ty _, r.tyx, kstr t, _, rfl, ?_⟩
    have hb := wl_bound t hs
    cases r with
    | str z hz' ok =>
      refine iteT ⟨_, rfl, ?_⟩
      have e : (Th.str z).wr = z := str_ext rfl
      rw [e] at q
      exact q H (Same.refl H)
    | @tup a xs l ha hn hl =>
      obtain ⟨z, ps, rfl, h4, h8, hall⟩ := shape_tup hs
      cases hl with
      | @cons y ys _ _ hx hps =>
        have hlen := hps.length
        refine iteF ⟨_, rfl, _, _, rfl, .inr ⟨_, SqT.of ha, rfl⟩, rfl, _, rfl, ite2 (fun c => ?_) (fun c => ?_)⟩
        · have c' : (((y :: ys).length : Nat) : Int) = 1 := V.int.inj (of_decide_eq_true c)
          rw [List.length_cons] at c'
          have e : ps = [] := List.eq_nil_of_length_eq_zero (by omega)
          subst e
          refine ⟨_, rfl, _, _, _, _, rfl, rfl, SqT.of ha, atI_nat (j := 0) rfl, ?_⟩
          have e : (Th.tup [.str z]).wr = z := str_ext rfl
          rw [e] at q
          cases hx
          exact q H (Same.refl H)
        obtain ⟨p0, r0, rfl⟩ : ∃ p0 r0, ps = p0 :: r0 := by
          cases ps with
          | nil =>
            cases hps
            exact absurd (decide_eq_true rfl) c
          | cons a b => exact ⟨a, b, rfl⟩
        have hsz : (Th.tup (.str z :: p0 :: r0)).size = 1 + sizeL (p0 :: r0) := rfl
        refine ⟨⟨_, rfl⟩, _, rfl, 1, rfl, ?_⟩
        refine sl_lo (K := K) 1 ha (by omega) (by rw [List.length_cons]; omega) fun p hp => ?_
        refine ⟨p, rfl, ⟨ys, SqT.of upd_same⟩, fun D hD => ?_⟩
        have s2 := same_new (o := .tup ys) hp
        refine lc_parts (ys := ys) (ps := p0 :: r0) (fun t => .str t.wr) upd_same (hps.wk (Wk.same s2)) (by rw [List.length_cons] at hn; omega) hD (fun _ => rfl) (fun x' t' H' sH ht rt Q' q' => ?_) (fun H' sH e => ?_)
        · have := size_part ht
          exact ⟨_, rfl, x', t', b, rfl, hgt_part hd t' (List.mem_cons_of_mem _ ht), hall t' ht, by omega, rt, fun H2 s3 => q' H2 s3⟩
        · have hbp := wlL_bound (b := b) (p0 :: r0) (shapeL_iff.mpr hall)
          have hsum : (((p0 :: r0).map Th.wr).map fun x => x.length).sum = ((p0 :: r0).map fun t => t.wl.length).sum := by
            rw [List.map_map]
            rfl
          refine ⟨_, D, (p0 :: r0).map Th.wr, rfl, rfl, .inl (SqL.of ?_), ?_, ?_⟩
          · rw [e, List.map_map]
            rfl
          · have e2 : (List.map (fun x => x.length) (List.map Th.wr (p0 :: r0))).sum = ((p0 :: r0).map fun t => t.wl.length).sum := hsum
            rw [e2, List.length_map]
            show _ + (p0 :: r0).length * 1 ≤ 16777216
            omega
          · have ha' := (s2.trans sH) _ _ ha
            have jl : (Txt.join "," ((p0 :: r0).map Th.wr)).cps.toList = TL.joinL [44] ((p0 :: r0).map Th.wl) := by
              rw [TL.join_eq]
              have := TL.tl_join "," ((p0 :: r0).map Th.wr)
              rw [List.map_map] at this
              exact this
            generalize hJ : Txt.join "," ((p0 :: r0).map Th.wr) = J at jl
            have jlen : J.length = (TL.joinL [44] ((p0 :: r0).map Th.wl)).length := by rw [← jl]; rfl
            have h8' := (isW_out h8).2.1
            have hw2 : (Th.tup (.str z :: p0 :: r0)).wl.length = z.length + (1 + (J.length + 1)) := by
              rw [wl_tup, List.length_append, List.length_cons, List.length_append, List.length_singleton, jlen]
              show z.cps.toList.length + _ = z.cps.toList.length + _
              omega
            cases hx with
            | str _ hz2 ok =>
              have small : ∀ k : Nat, k ≤ 2000 → k ≤ sizeLine := fun k hk => Nat.le_trans hk (by decide)
              refine ⟨_, rfl, _, _, _, _, rfl, rfl, SqT.of ha', atI_nat (j := 0) rfl, .inl ⟨z, rfl, small _ (by omega), z, rfl, ?_, "(", rfl, ?_, _, rfl, .inl ⟨J, rfl, small _ (by omega), J, rfl, ?_, ")", rfl, ?_, ?_⟩⟩⟩
              · rw [app_len]
                exact small _ (by show 0 + z.length ≤ 2000; omega)
              · rw [app_len, app_len]
                exact small _ (by show 0 + z.length + 1 ≤ 2000; omega)
              · rw [app_len, app_len, app_len]
                exact small _ (by show 0 + z.length + 1 + J.length ≤ 2000; omega)
              · rw [app_len, app_len, app_len, app_len]
                exact small _ (by show 0 + z.length + 1 + J.length + 1 ≤ 2000; omega)
              · have e3 : (Th.tup (.str z :: p0 :: r0)).wr = (((Str.empty ++ z) ++ "(") ++ J) ++ ")" := by
                  apply str_ext
                  rw [app_list, app_list, app_list, app_list, jl, wr_list, wl_tup]
                  show _ = (([] ++ z.cps.toList) ++ [40] ++ _) ++ [41]
                  rw [List.nil_append, List.append_assoc, List.append_assoc]
                  rfl
                rw [e3] at q
                exact q H' (s2.trans sH)
    | _ => cases hs
theorem c_written (T : Tx K mg) : Cl P w K mg base CX0 7 "written" ["pattern"] (sp_written 6) := c_written_n T 6
end
end Kt
namespace Kt
open PySem PySem.Spec PyProof.Rows L2
theorem sw_within {b : Bool} {t : Th} (h : within b t = true) : sw b 5 t = t.size := by
  obtain ⟨h1, h2, _⟩ := within_iff.mp h
  rw [sw_eq, if_pos ⟨h1, h2⟩]
theorem within_hgt {b : Bool} {t : Th} (h : within b t = true) : t.hgt < 6 := by
  obtain ⟨h1, h2, _⟩ := within_iff.mp h
  have := hgt_dep t h1
  omega
/-! ### the order's key -/
def sp_order : Sp := fun vs H Q _ => ∃ v t, vs = [v] ∧ Rep H v t ∧ within true t = true ∧ ∀ p H', Same H H' → H' p = some (.tup [.int t.size, .str t.wr]) → Q (.ref p) H'
section
variable {P : Program} {w : World} {K : PySem.W.Frag} {mg : Str → Option Value} {base : Heap}
theorem c_order_of (T : Tx K mg) : Cl P w K mg base CX0 9 "order_of" ["pattern"] sp_order := by
  refine Cl.mk0 T.d_order_of sc_order_of (fun vs H Q E h => ?_) (fun f cdv A outer s H vs Q E hr h => ?_)
  · obtain ⟨v, t, rfl, _⟩ := h
    rfl
  obtain ⟨v, t, rfl, r, hw, q⟩ := h
  obtain ⟨hs, hd, hz⟩ := within_iff.mp hw
  refine ⟨_, (pss_one (ps_ret (pe_tup (pa_cons (pe_cl (c_size_within T) hr (by omega) rfl (pa_cons (pv 0) (pa_cons pe_bl (pa_cons (pe_glob (v := .int 5) (by rfl) T.m_MOST_DEEP.choose_spec ⟨_, rfl⟩) pa_nil)))) (pa_cons (pe_cl (c_written T) hr (by omega) rfl (pa_cons (pv 0) pa_nil)) pa_nil))))), ?_⟩
  refine ⟨_, rfl, v, t, true, 5, rfl, by omega, r, fun H1 s1 => ⟨_, rfl, v, t, true, rfl, within_hgt hw, hs, by omega, r.wk (Wk.same s1), fun H2 s2 => ⟨by show 2 ≤ sizeLine; decide, fun p hp => ?_⟩⟩⟩
  rw [sw_within hw]
  exact q p _ ((s1.trans s2).trans (same_new hp _)) upd_same
end
end Kt
namespace Kt
open PySem PySem.Spec PyProof.Rows L2
/-! ### lows joined; pairs by like parts -/
def natV (L : List Nat) : List V := L.map fun n : Nat => V.int (n : Int)
theorem natV_get {L : List Nat} {i : Nat} (h : i < L.length) : (natV L)[i]? = some (.int (Lk.at_ L i : Nat)) := by
  unfold natV
  rw [List.getElem?_map, Lk.at_get h]
  rfl
theorem natV_len (L : List Nat) : (natV L).length = L.length := List.length_map _
def sp_joined : Sp := fun vs H Q _ => ∃ (a : Addr) (L : List Nat) (i j : Nat), vs = [.ref a, .int (i : Int), .int (j : Int)] ∧ H a = some (.lst (natV L)) ∧ i < L.length ∧ j < L.length ∧ L.length ≤ 1000 ∧
  ∀ p H', Same H H' → H p = none → H' p = some (.lst (natV (Lk.join L i j))) → Q (.ref p) H'
section
variable {P : Program} {w : World} {K : PySem.W.Frag} {mg : Str → Option Value} {base : Heap}
theorem c_joined (T : Tx K mg) : Cl P w K mg base CX0 1 "joined" ["lows", "one", "other"] sp_joined := by
  refine Cl.mk0 T.d_joined sc_joined (fun vs H Q E h => ?_) (fun f cdv A outer s H vs Q E hr h => ?_)
  · obtain ⟨a, L, i, j, rfl, _⟩ := h
    rfl
  obtain ⟨a, L, i, j, rfl, ha, hi, hj, hn, q⟩ := h
  refine ⟨_, (pss_cons (ps_set (i := 3) sc_joined.nd rfl (Or.inr rfl) (pe_callB (call_min2 rfl) (by rfl) T.z_min (by decide +kernel) (pa_cons (pe_ix ix_list (pv 0) (pv 1) (fun _ _ => rfl)) (pa_cons (pe_ix ix_list (pv 0) (pv 2) (fun _ _ => rfl)) pa_nil))))
    (pss_cons (ps_set (i := 4) sc_joined.nd rfl (Or.inr rfl) (pe_callB (call_max2 rfl) (by rfl) T.z_max (by decide +kernel) (pa_cons (pe_ix ix_list (pv 0) (pv 1) (fun _ _ => rfl)) (pa_cons (pe_ix ix_list (pv 0) (pv 2) (fun _ _ => rfl)) pa_nil))))
    (pss_one (ps_ret (pe_lc (own := [("place", 5)]) (g := gName 5) (tt := tYes) rfl sc_joined.nd (pi_list (pv 0)) (blkOk_by (own := [("place", 5)]) (N := ["lows", "one", "other", "low", "high", "place"]) (sc := defScope s_joined) (by decide +kernel)) (fun _ _ _ _ _ => (pg_name (i := 5) sc_joined.nd rfl (Or.inl rfl))) (fun _ _ _ _ _ => pts_nil) (fun _ _ _ _ _ => (pe_ifExp (pt_cmpR op_eq (pv 5) (pv 4) (nomark _)) (pv 3) (pv 5)))))))), ?_⟩
  refine ⟨_, rfl, _, rfl, a, _, _, _, rfl, rfl, SqL.of ha, atI_nat (natV_get hi), _, rfl, _, rfl, a, _, _, _, rfl, rfl, SqL.of ha, atI_nat (natV_get hj), _, _, rfl, ?_⟩
  refine ⟨_, rfl, _, rfl, a, _, _, _, rfl, rfl, SqL.of ha, atI_nat (natV_get hi), _, rfl, _, rfl, a, _, _, _, rfl, rfl, SqL.of ha, atI_nat (natV_get hj), _, _, rfl, ?_⟩
  have e1 : (if ((Lk.at_ L j : Nat) : Int) < ((Lk.at_ L i : Nat) : Int) then ((Lk.at_ L j : Nat) : Int) else ((Lk.at_ L i : Nat) : Int)) = ((min (Lk.at_ L i) (Lk.at_ L j) : Nat) : Int) := by
    split <;> omega
  have e2 : (if ((Lk.at_ L j : Nat) : Int) > ((Lk.at_ L i : Nat) : Int) then ((Lk.at_ L j : Nat) : Int) else ((Lk.at_ L i : Nat) : Int)) = ((max (Lk.at_ L i) (Lk.at_ L j) : Nat) : Int) := by
    split <;> omega
  rw [e1, e2]
  refine ⟨_, rfl, a, rfl, ⟨_, SqL.of ha⟩, fun D hD => ?_⟩
  refine lc_pure walk_list (fun k => .int ((if Lk.at_ L k = max (Lk.at_ L i) (Lk.at_ L j) then min (Lk.at_ L i) (Lk.at_ L j) else Lk.at_ L k : Nat) : Int)) hD (by rw [natV_len]; exact hn) (fun H' s' => SqL.of (s' _ _ ha)) (fun x => rfl) (fun k x H1 H2 hk s1 y => ?_) (fun H1 s1 e => ?_)
  · obtain ⟨rfl, hx⟩ := y
    rw [natV_len] at hk
    rw [natV_get hk] at hx
    cases hx
    refine ⟨Same.refl _, fun Q' q' => ⟨_, rfl, _, rfl, rfl, _, rfl, ?_⟩⟩
    by_cases c : Lk.at_ L k = max (Lk.at_ L i) (Lk.at_ L j)
    · rw [decide_eq_true (by rw [c] : V.int ((Lk.at_ L k : Nat) : Int) = V.int ((max (Lk.at_ L i) (Lk.at_ L j) : Nat) : Int))]
      rw [if_pos c] at q'
      exact iteT ⟨_, rfl, q' _ (Same.refl _)⟩
    · rw [decide_eq_false (fun z => c (by have := V.int.inj z; omega))]
      rw [if_neg c] at q'
      exact iteF ⟨_, rfl, q' _ (Same.refl _)⟩
  · refine q D H1 s1 hD ?_
    rw [e, natV_len]
    congr 2
    unfold natV Lk.join
    refine List.ext_getElem? fun n => ?_
    rw [List.getElem?_map, List.map_map, List.getElem?_map]
    by_cases hn : n < L.length
    · rw [List.getElem?_range hn, Lk.at_get hn]
      rfl
    · rw [List.getElem?_eq_none_iff.mpr (by rw [List.length_range]; omega), List.getElem?_eq_none_iff.mpr (by omega)]
      rfl
end
end Kt
namespace Kt
open PySem PySem.Spec PyProof.Rows L2
theorem Same.none {H H' : Hp} {a : Addr} (s : Same H H') (h : H' a = Option.none) : H a = Option.none := by
  cases z : H a with
  | none => rfl
  | some o => rw [s _ _ z] at h; cases h
/-! ### what a dict of KtN tells behind a store -/
theorem valM_nil (k : NestedKey) : valM [] k = none := rfl
theorem valM_cons (x : RowV) (xs : List RowV) (k : NestedKey) : valM (x :: xs) k = if x.1 = k then some x.2.2 else valM xs k := by
  unfold valM
  by_cases h : x.1 = k
  · rw [List.find?_cons_of_pos (by simpa using h), if_pos h]
    rfl
  · rw [List.find?_cons_of_neg (by simpa using h), if_neg h]
theorem valM_app (xs ys : List RowV) (k : NestedKey) : valM (xs ++ ys) k = (valM xs k).or (valM ys k) := by
  induction xs with
  | nil => rfl
  | cons x xs ih =>
    rw [List.cons_append, valM_cons, valM_cons]
    split
    · rfl
    · exact ih
theorem valM_put (xs : List RowV) (k : NestedKey) (y v : V) (j : NestedKey) : valM (putM xs k y v) j = if j = k then some v else valM xs j := by
  have out : (valM xs k).isSome = false → valM xs k = none := fun h => by
    cases e : valM xs k with
    | none => rfl
    | some _ => rw [e] at h; cases h
  unfold putM
  by_cases h : (valM xs k).isSome = true
  · rw [if_pos h]
    clear out
    induction xs with
    | nil => cases h
    | cons x xs ih =>
      rw [List.map_cons, valM_cons, valM_cons]
      by_cases c : x.1 = k
      · rw [if_pos c]
        show (if x.1 = j then some v else valM (xs.map _) j) = _
        by_cases cj : j = k
        · rw [if_pos cj, if_pos (by rw [c, cj])]
        · rw [if_neg cj, if_neg (fun z => cj (by rw [← z, c])), if_neg (fun z => cj (by rw [← z, c]))]
          clear ih h
          induction xs with
          | nil => rfl
          | cons y ys ih =>
            rw [List.map_cons, valM_cons, valM_cons, ih]
            by_cases cy : y.1 = k
            · have nj : ¬ y.1 = j := fun z => cj (by rw [← z, cy])
              rw [if_pos cy]
              show (if y.1 = j then some v else valM ys j) = if y.1 = j then some y.2.2 else valM ys j
              rw [if_neg nj, if_neg nj]
            · rw [if_neg cy]
      · rw [if_neg c]
        by_cases cj : x.1 = j
        · rw [if_pos cj, if_pos cj, if_neg (fun z => c (by rw [cj, z]))]
        · rw [if_neg cj, if_neg cj]
          refine ih ?_
          rw [valM_cons, if_neg c] at h
          exact h
  · rw [if_neg h, valM_app, valM_cons, valM_nil]
    have hn := out (Bool.eq_false_iff.mpr h)
    by_cases cj : j = k
    · rw [if_pos cj, cj, hn, if_pos rfl]
      rfl
    · rw [if_neg cj, if_neg (fun z => cj z.symm)]
      cases valM xs j <;> rfl
theorem valM_mem {xs : List RowV} {k : NestedKey} {v : V} (h : valM xs k = some v) : ∃ y, (k, y, v) ∈ xs := by
  induction xs with
  | nil => cases h
  | cons x xs ih =>
    rw [valM_cons] at h
    by_cases c : x.1 = k
    · rw [if_pos c] at h
      cases h
      subst c
      exact ⟨x.2.1, List.mem_cons_self⟩
    · rw [if_neg c] at h
      obtain ⟨y, m⟩ := ih h
      exact ⟨y, List.mem_cons_of_mem _ m⟩
/-! ### pairs of rows of one head and like parts -/
/-- a head with its parts' lows, as a key -/
def kk (L : List Nat) (r : Str × List Nat) : NestedKey := .tup (.text r.1 :: r.2.map fun p => .num (Lk.at_ L p : Nat))
theorem kk_inj {L : List Nat} {r q : Str × List Nat} (h : kk L r = kk L q) : Lk.key L r = Lk.key L q := by
  obtain ⟨h1, ps⟩ := r
  obtain ⟨h2, qs⟩ := q
  unfold kk at h
  injection h with h
  injection h with e1 e2
  injection e1 with e1
  unfold Lk.key
  dsimp only at e1 e2 ⊢
  subst e1
  congr 1
  induction ps generalizing qs with
  | nil =>
    cases qs with
    | nil => rfl
    | cons q qs => cases e2
  | cons p ps ih =>
    cases qs with
    | nil => cases e2
    | cons q qs =>
      rw [List.map_cons, List.map_cons] at e2
      injection e2 with a b
      injection a with a
      rw [List.map_cons, List.map_cons, ih qs b]
      congr 1
      omega
/-- one row: a tuple of its head and a list of its parts' places -/
def RowAt (H : Hp) (v : V) (r : Str × List Nat) : Prop := ∃ a b, v = .ref a ∧ H a = some (.tup [.str r.1, .ref b]) ∧ H b = some (.lst (natV r.2)) ∧ r.2.length ≤ 3
inductive RowsL (H : Hp) : List V → List (Str × List Nat) → Prop
  | nil : RowsL H [] []
  | cons {v : V} {vs : List V} {r : Str × List Nat} {rs : List (Str × List Nat)} : RowAt H v r → RowsL H vs rs → RowsL H (v :: vs) (r :: rs)
theorem RowsL.len {H : Hp} {vs : List V} {rs : List (Str × List Nat)} (h : RowsL H vs rs) : vs.length = rs.length := by
  induction h with
  | nil => rfl
  | cons _ _ ih => rw [List.length_cons, List.length_cons, ih]
theorem RowsL.get {H : Hp} {vs : List V} {rs : List (Str × List Nat)} (h : RowsL H vs rs) {i : Nat} {v : V} (e : vs[i]? = some v) : ∃ r, rs[i]? = some r ∧ RowAt H v r := by
  induction h generalizing i with
  | nil => cases e
  | @cons v' vs r rs a t ih =>
    cases i with
    | zero =>
      cases e
      exact ⟨r, rfl, a⟩
    | succ j => exact ih (i := j) (by simpa using e)
theorem RowAt.keep {H H' : Hp} {v : V} {r : Str × List Nat} (h : RowAt H v r) (k1 : ∀ a xs, H a = some (.tup xs) → H' a = some (.tup xs)) (k2 : ∀ a xs, H a = some (.lst xs) → H' a = some (.lst xs)) : RowAt H' v r := by
  obtain ⟨a, b, e, h1, h2, h3⟩ := h
  exact ⟨a, b, e, k1 _ _ h1, k2 _ _ h2, h3⟩
theorem RowAt.same {H H' : Hp} {v : V} {r : Str × List Nat} (h : RowAt H v r) (s : Same H H') : RowAt H' v r := h.keep (fun _ _ z => s _ _ z) fun _ _ z => s _ _ z
theorem RowsL.same {H H' : Hp} {vs : List V} {rs : List (Str × List Nat)} (h : RowsL H vs rs) (s : Same H H') : RowsL H' vs rs := by
  induction h with
  | nil => exact .nil
  | cons a _ ih => exact .cons (a.same s) ih
theorem RowsL.keep {H H' : Hp} {vs : List V} {rs : List (Str × List Nat)} (h : RowsL H vs rs) (k1 : ∀ a xs, H a = some (.tup xs) → H' a = some (.tup xs)) (k2 : ∀ a xs, H a = some (.lst xs) → H' a = some (.lst xs)) : RowsL H' vs rs := by
  induction h with
  | nil => exact .nil
  | cons a _ ih => exact .cons (a.keep k1 k2) ih
/-- pairs of places -/
def PairAt (H : Hp) (v : V) (p : Nat × Nat) : Prop := ∃ a, v = .ref a ∧ H a = some (.tup [.int (p.1 : Nat), .int (p.2 : Nat)])
inductive PairsL (H : Hp) : List V → List (Nat × Nat) → Prop
  | nil : PairsL H [] []
  | cons {v : V} {vs : List V} {p : Nat × Nat} {ps : List (Nat × Nat)} : PairAt H v p → PairsL H vs ps → PairsL H (v :: vs) (p :: ps)
theorem PairsL.len {H : Hp} {vs : List V} {ps : List (Nat × Nat)} (h : PairsL H vs ps) : vs.length = ps.length := by
  induction h with
  | nil => rfl
  | cons _ _ ih => rw [List.length_cons, List.length_cons, ih]
theorem PairsL.get {H : Hp} {vs : List V} {ps : List (Nat × Nat)} (h : PairsL H vs ps) {i : Nat} {v : V} (e : vs[i]? = some v) : ∃ p, ps[i]? = some p ∧ PairAt H v p := by
  induction h generalizing i with
  | nil => cases e
  | @cons v' vs r rs a t ih =>
    cases i with
    | zero =>
      cases e
      exact ⟨r, rfl, a⟩
    | succ j => exact ih (i := j) (by simpa using e)
theorem PairsL.tups {H H' : Hp} {vs : List V} {ps : List (Nat × Nat)} (h : PairsL H vs ps) (k : ∀ a xs, H a = some (.tup xs) → H' a = some (.tup xs)) : PairsL H' vs ps := by
  induction h with
  | nil => exact .nil
  | cons a _ ih =>
    obtain ⟨b, e, h1⟩ := a
    exact .cons ⟨b, e, k _ _ h1⟩ ih
theorem PairsL.app {H : Hp} {vs ws : List V} {ps qs : List (Nat × Nat)} (h : PairsL H vs ps) (g : PairsL H ws qs) : PairsL H (vs ++ ws) (ps ++ qs) := by
  induction h with
  | nil => exact g
  | cons a _ ih => exact .cons a ih
/-- what alike_by_parts tells: pairs of places that are to be joined -/
structure Due (rows : List (Str × List Nat)) (L : List Nat) (due : List (Nat × Nat)) : Prop where
  ok : ∀ p ∈ due, p.1 < rows.length ∧ p.2 < rows.length ∧ Lk.at_ L p.1 ≠ Lk.at_ L p.2 ∧ ∃ r q, rows[p.1]? = some r ∧ rows[p.2]? = some q ∧ Lk.key L r = Lk.key L q
  all : due = [] → Lk.Closed rows L
def sp_abp : Sp := fun vs H Q _ => ∃ (a b : Addr) (rv : List V) (rows : List (Str × List Nat)) (L : List Nat), vs = [.ref a, .ref b] ∧ H a = some (.lst rv) ∧ RowsL H rv rows ∧ H b = some (.lst (natV L)) ∧ L.length = rows.length ∧ rows.length ≤ 100 ∧ Lk.RowsIn rows ∧
  ∀ p H' dv due, Same H H' → H p = none → H' p = some (.lst dv) → PairsL H' dv due → Due rows L due → due.length ≤ 100 → Q (.ref p) H'
/-- what stands within alike_by_parts behind i rows -/
structure AbpI (w : World) (H0 H : Hp) (F G : Addr) (rows : List (Str × List Nat)) (L : List Nat) (i : Nat) (fr : List RowV) (dv : List V) (due : List (Nat × Nat)) : Prop where
  same : Same H0 H
  dict : H F = some (DN w F fr)
  keys : KeysN H fr
  few : fr.length ≤ i
  list : H G = some (.lst dv)
  pairs : PairsL H dv due
  dlen : due.length ≤ i
  ok : ∀ p ∈ due, p.1 < rows.length ∧ p.2 < rows.length ∧ Lk.at_ L p.1 ≠ Lk.at_ L p.2 ∧ ∃ r q, rows[p.1]? = some r ∧ rows[p.2]? = some q ∧ Lk.key L r = Lk.key L q
  seen : ∀ j r, j < i → rows[j]? = some r → ∃ m, valM fr (kk L r) = some (.int (m : Nat)) ∧ (due = [] → Lk.at_ L m = Lk.at_ L j)
  from_ : ∀ k v, valM fr k = some v → ∃ m r, v = .int (m : Nat) ∧ rows[m]? = some r ∧ kk L r = k
section
variable {P : Program} {w : World} {K : PySem.W.Frag} {mg : Str → Option Value} {base : Heap}
theorem kk_depth (L : List Nat) (r : Str × List Nat) : (kk L r).depth ≤ 8 := by
  have all : ∀ ps : List Nat, NestedKey.depthAll (ps.map fun p => NestedKey.num (Lk.at_ L p : Nat)) = 0 := by
    intro ps
    induction ps with
    | nil => rfl
    | cons p ps ih =>
      show max 0 (NestedKey.depthAll _) = 0
      rw [ih]
      rfl
  show max 0 (NestedKey.depthAll _) + 1 ≤ 8
  rw [all]
  decide
theorem nreps_nat {H : Hp} (f : Nat → Nat) : ∀ ps : List Nat, NReps H (ps.map fun p => NestedKey.num (f p : Nat)) (ps.map fun p => V.int (f p : Nat))
  | [] => .nil
  | p :: ps => .cons (.int _) (nreps_nat f ps)
theorem kk_is {H : Hp} {L : List Nat} {r : Str × List Nat} {a : Addr} (h : H a = some (.tup (.str r.1 :: r.2.map fun p => V.int (Lk.at_ L p : Nat)))) : IsK H (kk L r) (.ref a) := ⟨.tup h (.cons (.text _) (nreps_nat (Lk.at_ L) _)), kk_depth L r⟩
theorem c_alike_by_parts (T : Tx K mg) : Cl P w K mg base CX0 1 "alike_by_parts" ["rows", "lows"] sp_abp := by
  refine Cl.mk0 T.d_alike_by_parts sc_alike_by_parts (fun vs H Q E h => ?_) (fun f cdv A outer s H vs Q E hr h => ?_)
  · obtain ⟨a, b, rv, rows, L, rfl, _⟩ := h
    rfl
  obtain ⟨a, b, rv, rows, L, rfl, ha, hrows, hb, len, n100, rin, q⟩ := h
  refine ⟨_, (pss_cons (ps_set (i := 2) sc_alike_by_parts.nd rfl (Or.inl rfl) pe_dnewN)
    (pss_cons (ps_set (i := 3) sc_alike_by_parts.nd rfl (Or.inl rfl) (pe_lst pa_nil))
    (pss_cons (ps_for PassesOwn.never rfl (pi_enum (by rfl) T.z_enumerate (pa_cons (pv 0) pa_nil)) (pg_tup rfl (pgs_cons (pg_name (i := 4) sc_alike_by_parts.nd rfl (Or.inl rfl)) (pgs_cons (pg_tup rfl (pgs_cons (pg_name (i := 5) sc_alike_by_parts.nd rfl (Or.inl rfl)) (pgs_cons (pg_name (i := 6) sc_alike_by_parts.nd rfl (Or.inl rfl)) pgs_nil))) pgs_nil)))
      (pss_cons (ps_set (i := 7) sc_alike_by_parts.nd rfl (Or.inl rfl) (pe_op op_catA (pe_tup (pa_cons (pv 5) pa_nil)) (pe_callTy call_tuple_of (by rfl) T.z_tuple (by decide +kernel) (pa_cons (pe_lc (own := [("part", 9)]) (g := gName 9) (tt := tYes) rfl sc_alike_by_parts.nd (pi_list (pv 6)) (blkOk_by (own := [("part", 9)]) (N := ["rows", "lows", "first", "found", "at", "head", "parts", "shape", "mate", "part"]) (sc := defScope s_alike_by_parts) (by decide +kernel)) (fun _ _ _ _ _ => (pg_name (i := 9) sc_alike_by_parts.nd rfl (Or.inl rfl))) (fun _ _ _ _ _ => pts_nil) (fun _ _ _ _ _ => (pe_ix (r := rIxL K) ix_list (pv 1) (pv 9) (fun _ _ => rfl)))) pa_nil))))
      (pss_cons (ps_set (i := 8) sc_alike_by_parts.nd rfl (Or.inl rfl) (pe_nsetd (hu_n hr) (pv 2) (pv 7) (pv 4) ⟨rfl, rfl, rfl, rfl⟩))
      (pss_one (ps_if (pt_cmpR op_ne (pe_ix ix_list (pv 1) (pv 8) (fun _ _ => rfl)) (pe_ix ix_list (pv 1) (pv 4) (fun _ _ => rfl)) (nomark _))
        (pss_one (ps_expr (pe_bm PySem.F.plainAttrs_list PySem.F.slot_list_append PySem.F.type_list_append mt_append (pv 3) (pa_cons (pe_tup (pa_cons (pv 8) (pa_cons (pv 4) pa_nil))) pa_nil))))
        pss_nil)))))
    (pss_one (ps_ret (pv 3)))))), ?_⟩
  refine fun F hF => ⟨Nat.zero_le _, fun G hG => ?_⟩
  have sF := same_new hF (DN w F [])
  have sG := same_new hG (.lst [])
  have FG : F ≠ G := ne_of_none upd_same hG
  have vlen := hrows.len
  have l1 : 1 ≤ sizeLine := by decide
  have l2 : 2 ≤ sizeLine := by decide
  have HG := sG _ _ upd_same
  refine ⟨_, rfl, a, rv, rfl, SqL.of (sG _ _ (sF _ _ ha)), for_it (walk_enum (xs := rv)) (fun i σ H' => ∃ y4 y5 y6 y7 y8 y9 fr dv due, σ = [some (.ref a), some (.ref b), some (.ref F), some (.ref G), y4, y5, y6, y7, y8, y9] ∧ AbpI w H H' F G rows L i fr dv due)
    ⟨none, none, none, none, none, none, [], [], [], rfl, sF.trans sG, HG, .nil, Nat.le_refl _, upd_same, .nil, Nat.le_refl _, (fun p hp => (List.not_mem_nil hp).elim), (fun j r hj => absurd hj (Nat.not_lt_zero _)), fun k v hv => by cases hv⟩ (fun i σ H' _ h' => ?_) (fun i x σ H' H'' hi h' yy => ?_) (fun σ H' h' => ?_)⟩
  · obtain ⟨_, _, _, _, _, _, _, _, _, _, I⟩ := h'
    exact SqL.of (I.same _ _ ha)
  · obtain ⟨y4, y5, y6, y7, y8, y9, fr, dv, due, rfl, I⟩ := h'
    obtain ⟨Tt, x1, x2, rfl, hT, rfl, e1, e2⟩ := yy
    cases e1
    obtain ⟨r, er, ra⟩ := hrows.get e2
    have sT := same_new (o := .tup [.int (i : Nat), x2]) hT
    obtain ⟨a1, b1, rfl, t1, t2, t3⟩ := ra.same (I.same.trans sT)
    have ilen : i < rows.length := by omega
    refine ⟨Tt, _, rfl, SqT.of upd_same, rfl, _, _, rfl, _, _, rfl, a1, _, rfl, SqT.of t1, rfl, _, _, rfl, _, _, rfl, rfl, rfl, ?_⟩
    refine ⟨_, rfl, l1, fun p hp => ⟨_, rfl, b1, rfl, ⟨_, SqL.of ((same_new hp _) _ _ t2)⟩, fun D hD => ?_⟩⟩
    have sp := same_new (o := .tup [.str r.1]) hp
    have Ib : ∀ H', Same (upd H' Tt (.tup [.int (i : Nat), .ref a1])) H' → True := fun _ _ => trivial
    refine lc_pure (walk_list (xs := natV r.2)) (fun k => .int (Lk.at_ L (Lk.at_ r.2 k) : Nat)) hD (by rw [natV_len]; omega) (fun H' s' => SqL.of (s' _ _ (sp _ _ t2))) (fun x => rfl) (fun k x H1 H2 hk s1 y => ?_) (fun H1 s1 e => ?_)
    · obtain ⟨rfl, hx⟩ := y
      rw [natV_len] at hk
      rw [natV_get hk] at hx
      cases hx
      have pin := rin i r er (Lk.at_ r.2 k) (List.mem_of_getElem? (Lk.at_get hk))
      have hbH := s1 _ _ (sp _ _ (sT _ _ (I.same _ _ hb)))
      exact ⟨Same.refl _, fun Q' q' => ⟨_, rfl, _, rfl, b, _, _, _, rfl, rfl, SqL.of hbH, atI_nat (natV_get (by omega)), q' _ (Same.refl _)⟩⟩
    · have eK : ((List.range (natV r.2).length).map fun k => V.int (Lk.at_ L (Lk.at_ r.2 k) : Nat)) = r.2.map fun p => V.int (Lk.at_ L p : Nat) := by
        rw [natV_len]
        refine List.ext_getElem? fun n => ?_
        rw [List.getElem?_map, List.getElem?_map]
        by_cases hn : n < r.2.length
        · rw [List.getElem?_range hn, Lk.at_get hn]
          rfl
        · rw [List.getElem?_eq_none_iff.mpr (by rw [List.length_range]; omega), List.getElem?_eq_none_iff.mpr (by omega)]
          rfl
      rw [eK] at e
      refine ⟨D, _, rfl, .inl ⟨SqL.of e, fun M hM => ?_⟩⟩
      have sM := same_new (o := .tup (r.2.map fun p => V.int (Lk.at_ L p : Nat))) hM
      refine catA (sM _ _ (s1 _ _ upd_same)) upd_same (fun z => by cases z) (by rw [List.length_singleton, List.length_map]; omega) fun M2 H5 s5 h5 => ?_
      have s15 : Same H' H5 := (((sT.trans sp).trans s1).trans sM).trans s5
      have k5 : ∀ a xs, H' a = some (.tup xs) → H5 a = some (.tup xs) := fun _ _ z => s15 _ _ z
      have keys5 := I.keys.wk k5
      have d5 := s15 _ _ I.dict
      have isk : IsK H5 (kk L r) (.ref M2) := kk_is h5
      have b5 : ∀ o, o ≠ F → H5 o = H5 o := fun _ _ => rfl
      have hb5 := s15 _ _ (I.same _ _ hb)
      have g5 := s15 _ _ I.list
      have hFb : b ≠ F := ne_of_none hb hF
      have hFG : G ≠ F := FG.symm
      refine ⟨_, rfl, F, rfl, ⟨fr, .inl d5, keys5⟩, _, rfl, _, rfl, fr, kk L r, d5, keys5, isk, small1000 (by have := I.few; omega), fun v hv => ?_, fun hn => ?_⟩
      · obtain ⟨m, r', rfl, em, ek⟩ := I.from_ _ _ hv
        have mlen : m < rows.length := (List.getElem?_eq_some_iff.mp em).1
        refine ⟨_, rfl, _, rfl, b, _, _, _, rfl, rfl, SqL.of hb5, atI_nat (natV_get (by omega)), _, rfl, _, rfl, b, _, _, _, rfl, rfl, SqL.of hb5, atI_nat (natV_get (by omega)), rfl, _, rfl, ite2 (fun c => ?_) (fun c => ?_)⟩
        · have ne : Lk.at_ L m ≠ Lk.at_ L i := fun z => by
            rw [z] at c
            simp at c
          refine ⟨_, rfl, .inl ⟨rfl, _, SqL.of g5⟩, _, rfl, _, rfl, l2, fun p2 hp2 => ?_⟩
          have s6 := same_new (o := .tup [.int (m : Nat), .int (i : Nat)]) hp2
          refine ⟨G, _, _, rfl, rfl, s6 _ _ g5, small1000 (by have := I.pairs.len; have := I.dlen; omega), _, _, _, _, _, _, fr, _, due ++ [(m, i)], rfl, ?_, ?_, ?_, by have := I.few; omega, upd_same, ?_, by rw [List.length_append]; exact Nat.succ_le_succ I.dlen, ?_, ?_, I.from_⟩
          · exact Same.mut (I.same.trans (s15.trans s6)) (Same.none sF hG)
          · rw [upd_ne FG]
            exact s6 _ _ d5
          · refine keys5.wk fun a xs z => ?_
            rw [upd_ne (ne_of (s6 _ _ z) (s6 _ _ g5) fun e => nomatch e)]
            exact s6 _ _ z
          · have tk : ∀ a xs, (upd H5 p2 (.tup [.int (m : Nat), .int (i : Nat)])) a = some (.tup xs) → (upd (upd H5 p2 (.tup [.int (m : Nat), .int (i : Nat)])) G (.lst (dv ++ [.ref p2]))) a = some (.tup xs) := fun a xs z => by
              rw [upd_ne (ne_of z (s6 _ _ g5) fun e => nomatch e)]
              exact z
            exact ((I.pairs.tups k5).tups fun a xs z => tk _ _ (s6 _ _ z)).app (.cons ⟨p2, rfl, tk _ _ upd_same⟩ .nil)
          · intro q hq
            rcases List.mem_append.mp hq with hq | hq
            · exact I.ok q hq
            · rw [List.mem_singleton.mp hq]
              exact ⟨mlen, ilen, ne, r', r, em, er, kk_inj ek⟩
          · intro j rj hj ej
            by_cases z : j = i
            · subst z
              rw [er] at ej
              cases ej
              exact ⟨m, hv, fun z => absurd z (by simp)⟩
            · obtain ⟨m', h1, _⟩ := I.seen j rj (by omega) ej
              exact ⟨m', h1, fun z => absurd z (by simp)⟩
        · have eq : Lk.at_ L m = Lk.at_ L i := by
            have := c
            simp at this
            omega
          refine ⟨_, _, _, _, _, _, fr, dv, due, rfl, I.same.trans s15, d5, keys5, by have := I.few; omega, g5, I.pairs.tups k5, by have := I.dlen; omega, I.ok, fun j rj hj ej => ?_, I.from_⟩
          by_cases z : j = i
          · subst z
            rw [er] at ej
            cases ej
            exact ⟨m, hv, fun _ => eq⟩
          · exact I.seen j rj (by omega) ej
      · have hF6 : (upd H5 F (DN w F (putM fr (kk L r) (.ref M2) (.int (i : Nat))))) F = some (DN w F (putM fr (kk L r) (.ref M2) (.int (i : Nat)))) := upd_same
        have hb6 : (upd H5 F (DN w F (putM fr (kk L r) (.ref M2) (.int (i : Nat))))) b = some (.lst (natV L)) := by rw [upd_ne hFb]; exact hb5
        refine ⟨_, rfl, _, rfl, b, _, _, _, rfl, rfl, SqL.of hb6, atI_nat (natV_get (by omega)), _, rfl, _, rfl, b, _, _, _, rfl, rfl, SqL.of hb6, atI_nat (natV_get (by omega)), rfl, _, rfl, ite2 (fun c => ?_) (fun c => ?_)⟩
        · simp at c
        have tk : ∀ a xs, H5 a = some (.tup xs) → (upd H5 F (DN w F (putM fr (kk L r) (.ref M2) (.int (i : Nat))))) a = some (.tup xs) := fun a xs z => by
          rw [upd_ne (ne_of z d5 fun e => nomatch e)]
          exact z
        refine ⟨_, _, _, _, _, _, putM fr (kk L r) (.ref M2) (.int (i : Nat)), dv, due, rfl, Same.mut (I.same.trans s15) hF, hF6, (keys5.put isk.1 isk.2).wk tk, Nat.le_trans (putM_length _ _ _ _) (Nat.succ_le_succ I.few), by rw [upd_ne hFG]; exact g5, (I.pairs.tups k5).tups tk, by have := I.dlen; omega, I.ok, fun j rj hj ej => ?_, fun k v hv => ?_⟩
        · by_cases z : j = i
          · subst z
            rw [er] at ej
            cases ej
            exact ⟨j, by rw [valM_put, if_pos rfl], fun _ => rfl⟩
          · obtain ⟨m', h1, h2⟩ := I.seen j rj (by omega) ej
            refine ⟨m', ?_, h2⟩
            rw [valM_put, if_neg fun z => by rw [z, hn] at h1; cases h1]
            exact h1
        · rw [valM_put] at hv
          by_cases z : k = kk L r
          · rw [if_pos z] at hv
            cases hv
            exact ⟨i, r, rfl, er, z.symm⟩
          · rw [if_neg z] at hv
            exact I.from_ k v hv
  · obtain ⟨_, _, _, _, _, _, fr, dv, due, rfl, I⟩ := h'
    have hGn : H G = none := Same.none sF hG
    refine ⟨_, rfl, q G H' dv due I.same hGn I.list I.pairs ⟨I.ok, fun e i j r s er es ks => ?_⟩ (by have := I.dlen; omega)⟩
    have li := (List.getElem?_eq_some_iff.mp er).1
    have lj := (List.getElem?_eq_some_iff.mp es).1
    obtain ⟨m1, h1, h2⟩ := I.seen i r (by omega) er
    obtain ⟨m2, h3, h4⟩ := I.seen j s (by omega) es
    have ke : kk L r = kk L s := by
      obtain ⟨r1, r2⟩ := r
      obtain ⟨s1, s2⟩ := s
      unfold Lk.key at ks
      injection ks with k1 k2
      dsimp only at k1 k2
      unfold kk
      dsimp only
      have f : ∀ ps : List Nat, (ps.map fun p => NestedKey.num (Lk.at_ L p : Nat)) = (ps.map (Lk.at_ L)).map fun n : Nat => NestedKey.num (n : Nat) := fun ps => by rw [List.map_map]; rfl
      rw [f, f, k1, k2]
    rw [ke, h3] at h1
    have : m2 = m1 := by
      injection h1 with h1
      injection h1 with h1
      omega
    rw [← h2 e, ← h4 e, this]
end
end Kt
namespace Kt
open PySem PySem.Spec PyProof.Rows L2
/-! ### terms as keys; their parts -/
mutual
def Th.nk : Th → NestedKey
  | .non => .none
  | .bl b => .num (if b = true then 1 else 0)
  | .int i => .num i
  | .str z => .text z
  | .tup l => .tup (nkL l)
  | .ls => .none
  | .dc => .none
def nkL : List Th → List NestedKey
  | [] => []
  | p :: ps => p.nk :: nkL ps
end
mutual
def thOf : NestedKey → Th
  | .none => .non
  | .num i => .int i
  | .text z => .str z
  | .tup ks => .tup (thL ks)
def thL : List NestedKey → List Th
  | [] => []
  | k :: ks => thOf k :: thL ks
end
theorem nkL_map : ∀ l : List Th, nkL l = l.map Th.nk
  | [] => rfl
  | _ :: ps => congrArg _ (nkL_map ps)
mutual
theorem thOf_nk {b : Bool} : ∀ t : Th, t.shape b = true → thOf t.nk = t
  | .str z, _ => rfl
  | .tup [], h => by cases h
  | .tup (x :: ps), h => by
    have h : (decide (ps.length < 4) && (x.word 8 && shapeL b ps)) = true := h
    simp only [Bool.and_eq_true, decide_eq_true_eq] at h
    cases x with
    | str z =>
      show Th.tup (.str z :: thL (nkL ps)) = _
      rw [thL_nk ps h.2.2]
    | _ => cases h.2.1
  | .non, h | .bl _, h | .int _, h | .ls, h | .dc, h => by cases h
theorem thL_nk {b : Bool} : ∀ l : List Th, shapeL b l = true → thL (nkL l) = l
  | [], _ => rfl
  | p :: ps, h => by
    have h : (p.shape b && shapeL b ps) = true := h
    rw [Bool.and_eq_true] at h
    show thOf p.nk :: thL (nkL ps) = _
    rw [thOf_nk p h.1, thL_nk ps h.2]
end
mutual
theorem nk_rep {H : Hp} {b : Bool} : ∀ (t : Th) (v : V), t.shape b = true → Rep H v t → NRep H t.nk v
  | .str z, _, _, r => by
    cases r
    exact .text z
  | .tup [], _, h, _ => by cases h
  | .tup (x :: ps), _, h, r => by
    have h : (decide (ps.length < 4) && (x.word 8 && shapeL b ps)) = true := h
    simp only [Bool.and_eq_true, decide_eq_true_eq] at h
    cases x with
    | str z =>
      cases r with
      | tup ha hn hl =>
        cases hl with
        | cons hx hps =>
          cases hx
          exact .tup ha (.cons (.text z) (nkL_rep ps _ h.2.2 hps))
    | _ => cases h.2.1
  | .non, _, h, _ | .bl _, _, h, _ | .int _, _, h, _ | .ls, _, h, _ | .dc, _, h, _ => by cases h
theorem nkL_rep {H : Hp} {b : Bool} : ∀ (l : List Th) (vs : List V), shapeL b l = true → RepL H vs l → NReps H (nkL l) vs
  | [], _, _, r => by
    cases r
    exact .nil
  | p :: ps, _, h, r => by
    have h : (p.shape b && shapeL b ps) = true := h
    rw [Bool.and_eq_true] at h
    cases r with
    | cons h1 h2 => exact .cons (nk_rep p _ h.1 h1) (nkL_rep ps _ h.2 h2)
end
mutual
theorem nk_depth {b : Bool} : ∀ t : Th, t.shape b = true → t.nk.depth ≤ t.dep
  | .str z, _ => Nat.zero_le _
  | .tup [], h => by cases h
  | .tup (x :: ps), h => by
    have h : (decide (ps.length < 4) && (x.word 8 && shapeL b ps)) = true := h
    simp only [Bool.and_eq_true, decide_eq_true_eq] at h
    cases x with
    | str z =>
      have := nkL_depth ps h.2.2
      show max 0 (NestedKey.depthAll (nkL ps)) + 1 ≤ 1 + depL ps
      omega
    | _ => cases h.2.1
  | .non, h | .bl _, h | .int _, h | .ls, h | .dc, h => by cases h
theorem nkL_depth {b : Bool} : ∀ l : List Th, shapeL b l = true → NestedKey.depthAll (nkL l) ≤ depL l
  | [], _ => Nat.le_refl _
  | p :: ps, h => by
    have h : (p.shape b && shapeL b ps) = true := h
    rw [Bool.and_eq_true] at h
    have h1 := nk_depth p h.1
    have h2 := nkL_depth ps h.2
    show max p.nk.depth (NestedKey.depthAll (nkL ps)) ≤ max p.dep (depL ps)
    omega
end
mutual
theorem shape_mono : ∀ t : Th, t.shape false = true → t.shape true = true
  | .str z, h => by
    have h : (false && isHl z) = true := h
    cases h
  | .tup [], h => by cases h
  | .tup (x :: ps), h => by
    have h : (decide (ps.length < 4) && (x.word 8 && shapeL false ps)) = true := h
    simp only [Bool.and_eq_true, decide_eq_true_eq] at h
    show (decide (ps.length < 4) && (x.word 8 && shapeL true ps)) = true
    rw [decide_eq_true h.1, h.2.1, shapeL_mono ps h.2.2]
    rfl
  | .non, h | .bl _, h | .int _, h | .ls, h | .dc, h => by cases h
theorem shapeL_mono : ∀ l : List Th, shapeL false l = true → shapeL true l = true
  | [], _ => rfl
  | p :: ps, h => by
    have h : (p.shape false && shapeL false ps) = true := h
    rw [Bool.and_eq_true] at h
    show (p.shape true && shapeL true ps) = true
    rw [shape_mono p h.1, shapeL_mono ps h.2]
    rfl
end
/-- a term within the bounds -/
def tm (t : Th) : Prop := within false t = true
theorem tm.shape {t : Th} (h : tm t) : t.shape false = true := (within_iff.mp h).1
theorem tm.back {t : Th} (h : tm t) : thOf t.nk = t := thOf_nk t h.shape
theorem tm.inj {t u : Th} (h : tm t) (g : tm u) (e : t.nk = u.nk) : t = u := by rw [← h.back, ← g.back, e]
theorem tm.isk {H : Hp} {v : V} {t : Th} (h : tm t) (r : Rep H v t) : IsK H t.nk v := by
  obtain ⟨h1, h2, _⟩ := within_iff.mp h
  have := nk_depth t h1
  exact ⟨nk_rep t v h1 r, by omega⟩
def headT : Th → Str
  | .tup (.str z :: _) => z
  | _ => ""
def partsT : Th → List Th
  | .tup (_ :: ps) => ps
  | _ => []
theorem tm.tup {t : Th} (h : tm t) : ∃ z ps, t = .tup (.str z :: ps) ∧ ps.length ≤ 3 ∧ isW z 8 = true ∧ ∀ p ∈ ps, tm p := by
  obtain ⟨h1, h2, h3⟩ := within_iff.mp h
  cases t with
  | tup l =>
    obtain ⟨z, ps, rfl, h4, h5, h6⟩ := shape_tup h1
    refine ⟨z, ps, rfl, by omega, h5, fun p hp => within_iff.mpr ⟨h6 p hp, ?_, ?_⟩⟩
    · have e : (Th.tup (.str z :: ps)).dep = 1 + depL ps := rfl
      have : ∀ (l : List Th) (p : Th), p ∈ l → p.dep ≤ depL l := by
        intro l
        induction l with
        | nil => exact fun _ h => (List.not_mem_nil h).elim
        | cons q l ih =>
          intro p hp
          show p.dep ≤ max q.dep (depL l)
          rcases List.mem_cons.mp hp with rfl | hp
          · exact Nat.le_max_left _ _
          · have := ih p hp
            omega
      have := this ps p hp
      omega
    · have e : (Th.tup (.str z :: ps)).size = 1 + sizeL ps := rfl
      have := size_part hp
      omega
  | str z =>
    have h1 : (false && isHl z) = true := h1
    cases h1
  | _ => cases h1
theorem tm.parts {t : Th} (h : tm t) : ∀ p ∈ partsT t, tm p := by
  obtain ⟨z, ps, rfl, _, _, hp⟩ := h.tup
  exact hp
theorem tm.eta {t : Th} (h : tm t) : t = .tup (.str (headT t) :: partsT t) := by
  obtain ⟨z, ps, rfl, _⟩ := h.tup
  rfl
theorem tm.few {t : Th} (h : tm t) : (partsT t).length ≤ 3 := by
  obtain ⟨z, ps, rfl, h, _⟩ := h.tup
  exact h
theorem tm.pat {t : Th} (h : tm t) : within true t = true := by
  obtain ⟨h1, h2, h3⟩ := within_iff.mp h
  exact within_iff.mpr ⟨shape_mono t h1, h2, h3⟩
/-- how a term stands: its tuple, its parts' values -/
theorem tm.rep {H : Hp} {v : V} {t : Th} (h : tm t) (r : Rep H v t) : ∃ a vs, v = .ref a ∧ H a = some (.tup (.str (headT t) :: vs)) ∧ RepL H vs (partsT t) := by
  obtain ⟨z, ps, rfl, _⟩ := h.tup
  cases r with
  | tup ha hn hl =>
    cases hl with
    | cons hx hps =>
      cases hx
      exact ⟨_, _, rfl, ha, hps⟩
mutual
theorem allW_tm : ∀ t : Th, tm t → ∀ s ∈ allW t, tm s
  | .tup [], h, _, _ => by
    obtain ⟨z, ps, e, _⟩ := h.tup
    cases e
  | .tup (x :: ps), h, s, hs => by
    have hs : s ∈ Th.tup (x :: ps) :: allL ps := hs
    rcases List.mem_cons.mp hs with rfl | hs
    · exact h
    · exact allL_tm ps (fun p hp => h.parts p hp) s hs
  | .str z, h, s, hs => by rw [List.mem_singleton.mp hs]; exact h
  | .non, h, s, hs => by rw [List.mem_singleton.mp hs]; exact h
  | .bl b, h, s, hs => by rw [List.mem_singleton.mp hs]; exact h
  | .int i, h, s, hs => by rw [List.mem_singleton.mp hs]; exact h
  | .ls, h, s, hs => by rw [List.mem_singleton.mp hs]; exact h
  | .dc, h, s, hs => by rw [List.mem_singleton.mp hs]; exact h
theorem allL_tm : ∀ l : List Th, (∀ p ∈ l, tm p) → ∀ s ∈ allL l, tm s
  | [], _, s, hs => by cases hs
  | p :: ps, h, s, hs => by
    have hs : s ∈ allW p ++ allL ps := hs
    rcases List.mem_append.mp hs with hs | hs
    · exact allW_tm p (h p List.mem_cons_self) s hs
    · exact allL_tm ps (fun q hq => h q (List.mem_cons_of_mem _ hq)) s hs
end
theorem allW_self (t : Th) : t ∈ allW t := by cases t <;> exact List.mem_cons_self
theorem allL_mem : ∀ {l : List Th} {p : Th}, p ∈ l → ∀ s ∈ allW p, s ∈ allL l
  | q :: l, p, hp, s, hs => by
    show s ∈ allW q ++ allL l
    rcases List.mem_cons.mp hp with rfl | hp
    · exact List.mem_append.mpr (.inl hs)
    · exact List.mem_append.mpr (.inr (allL_mem hp s hs))
theorem allW_part {t p : Th} (h : tm t) (hp : p ∈ partsT t) : ∀ s ∈ allW p, s ∈ allW t := by
  obtain ⟨z, ps, rfl, _⟩ := h.tup
  intro s hs
  exact List.mem_cons_of_mem _ (allL_mem hp s hs)
mutual
/-- what is within has its parts within -/
theorem allW_closed : ∀ t : Th, tm t → ∀ s ∈ allW t, ∀ p ∈ partsT s, p ∈ allW t
  | .tup [], h, _, _, _, _ => by
    obtain ⟨z, ps, e, _⟩ := h.tup
    cases e
  | .tup (x :: ps), h, s, hs, p, hp => by
    have hs : s ∈ Th.tup (x :: ps) :: allL ps := hs
    rcases List.mem_cons.mp hs with rfl | hs
    · exact allW_part h hp p (allW_self p)
    · exact List.mem_cons_of_mem _ (allL_closed ps (fun p hp => h.parts p hp) s hs p hp)
  | .str z, _, s, hs, p, hp => by rw [List.mem_singleton.mp hs] at hp; cases hp
  | .non, _, s, hs, p, hp => by rw [List.mem_singleton.mp hs] at hp; cases hp
  | .bl b, _, s, hs, p, hp => by rw [List.mem_singleton.mp hs] at hp; cases hp
  | .int i, _, s, hs, p, hp => by rw [List.mem_singleton.mp hs] at hp; cases hp
  | .ls, _, s, hs, p, hp => by rw [List.mem_singleton.mp hs] at hp; cases hp
  | .dc, _, s, hs, p, hp => by rw [List.mem_singleton.mp hs] at hp; cases hp
theorem allL_closed : ∀ l : List Th, (∀ p ∈ l, tm p) → ∀ s ∈ allL l, ∀ p ∈ partsT s, p ∈ allL l
  | [], _, s, hs, _, _ => by cases hs
  | q :: l, h, s, hs, p, hp => by
    have hs : s ∈ allW q ++ allL l := hs
    show p ∈ allW q ++ allL l
    rcases List.mem_append.mp hs with hs | hs
    · exact List.mem_append.mpr (.inl (allW_closed q (h q List.mem_cons_self) s hs p hp))
    · exact List.mem_append.mpr (.inr (allL_closed l (fun q hq => h q (List.mem_cons_of_mem _ hq)) s hs p hp))
end
/-! ### rows of a list of terms -/
/-- the place of a term -/
def ixT (ts : List Th) (t : Th) : Nat := ts.findIdx fun u => decide (u.nk = t.nk)
def rowT (ts : List Th) (t : Th) : Str × List Nat := (headT t, (partsT t).map (ixT ts))
def rowsT (ts : List Th) : List (Str × List Nat) := ts.map (rowT ts)
/-- terms, each once, with all that is in them -/
structure TmS (ts : List Th) : Prop where
  tm : ∀ t ∈ ts, tm t
  nd : (ts.map Th.nk).Nodup
  closed : ∀ t ∈ ts, ∀ p ∈ partsT t, p ∈ ts
theorem ix_at {ts : List Th} (S : TmS ts) {i : Nat} {t : Th} (h : ts[i]? = some t) : ixT ts t = i := by
  unfold ixT
  obtain ⟨hi, ht⟩ := List.getElem?_eq_some_iff.mp h
  refine (List.findIdx_eq hi).mpr ⟨by simp [ht], fun j hj => ?_⟩
  have nd := S.nd
  have : (ts.map Th.nk)[j]'(by rw [List.length_map]; omega) ≠ (ts.map Th.nk)[i]'(by rw [List.length_map]; omega) := by
    intro e
    have := (List.getElem_inj nd).mp e
    omega
  rw [List.getElem_map, List.getElem_map, ht] at this
  simpa using this
theorem ix_of {ts : List Th} (S : TmS ts) {t : Th} (h : t ∈ ts) : ts[ixT ts t]? = some t := by
  obtain ⟨i, hi⟩ := List.mem_iff_getElem?.mp h
  rw [ix_at S hi]
  exact hi
theorem ix_lt {ts : List Th} (S : TmS ts) {t : Th} (h : t ∈ ts) : ixT ts t < ts.length := (List.getElem?_eq_some_iff.mp (ix_of S h)).1
theorem rowsT_len (ts : List Th) : (rowsT ts).length = ts.length := List.length_map _
theorem rowsT_get {ts : List Th} {i : Nat} {t : Th} (h : ts[i]? = some t) : (rowsT ts)[i]? = some (rowT ts t) := by
  unfold rowsT
  rw [List.getElem?_map, h]
  rfl
theorem rowsT_in {ts : List Th} (S : TmS ts) : Lk.RowsIn (rowsT ts) := by
  intro i r hr p hp
  unfold rowsT at hr
  rw [List.getElem?_map] at hr
  cases e : ts[i]? with
  | none => rw [e] at hr; cases hr
  | some t =>
    rw [e] at hr
    cases hr
    obtain ⟨q, hq, rfl⟩ := List.mem_map.mp hp
    rw [rowsT_len]
    exact ix_lt S (S.closed t (List.mem_of_getElem? e) q hq)
/-- where nothing is told, like rows are one row -/
theorem rowsT_closed {ts : List Th} (S : TmS ts) : Lk.Closed (rowsT ts) (List.range ts.length) := by
  intro i j r q hr hq e
  have li : i < ts.length := by rw [← rowsT_len]; exact (List.getElem?_eq_some_iff.mp hr).1
  have lj : j < ts.length := by rw [← rowsT_len]; exact (List.getElem?_eq_some_iff.mp hq).1
  have ei : ts[i]? = some ts[i] := List.getElem?_eq_getElem li
  have ej : ts[j]? = some ts[j] := List.getElem?_eq_getElem lj
  rw [rowsT_get ei] at hr
  rw [rowsT_get ej] at hq
  cases hr
  cases hq
  have id_ : ∀ k, k < ts.length → Lk.at_ (List.range ts.length) k = k := fun k hk => Lk.at_of (List.getElem?_range hk)
  have ti := S.tm _ (List.mem_of_getElem? ei)
  have tj := S.tm _ (List.mem_of_getElem? ej)
  have same : ts[i] = ts[j] := by
    unfold Lk.key rowT at e
    injection e with e1 e2
    dsimp only at e1 e2
    rw [ti.eta, tj.eta, e1]
    congr 2
    have back : ∀ l : List Th, (∀ p ∈ l, p ∈ ts) → ((l.map (ixT ts)).map (Lk.at_ (List.range ts.length))).map (fun n => ts[n]?) = l.map some := by
      intro l hl
      rw [List.map_map, List.map_map]
      refine List.map_congr_left fun p hp => ?_
      show ts[Lk.at_ (List.range ts.length) (ixT ts p)]? = some p
      rw [id_ _ (ix_lt S (hl p hp))]
      exact ix_of S (hl p hp)
    have := congrArg (List.map fun n => ts[n]?) e2
    rw [back _ (S.closed _ (List.mem_of_getElem? ei)), back _ (S.closed _ (List.mem_of_getElem? ej))] at this
    exact List.map_inj_right (fun a b h => Option.some.inj h) |>.mp this
  have := (List.getElem_inj (List.Pairwise.of_map Th.nk (fun a b h e => h (by rw [e])) S.nd)).mp same
  rw [id_ i li, id_ j lj, this]
end Kt
namespace Kt
open PySem PySem.Spec PyProof.Rows L2
/-! ### Likeness: its fields; tell; _settle -/
def lkF (a1 a2 a3 a4 a5 : Addr) : List (Str × V) := [("places", .ref a1), ("rows", .ref a2), ("lows", .ref a3), ("shapes", .ref a4), ("due", .ref a5)]
/-- all but one object stands -/
def Bt (x : Addr) (H H' : Hp) : Prop := ∀ b o, H b = some o → b ≠ x → H' b = some o
theorem Bt.refl {x : Addr} {H : Hp} : Bt x H H := fun _ _ h _ => h
theorem Bt.trans {x : Addr} {H H1 H2 : Hp} (a : Bt x H H1) (b : Bt x H1 H2) : Bt x H H2 := fun c o h n => b c o (a c o h n) n
theorem Bt.of {x : Addr} {H H' : Hp} (s : Same H H') : Bt x H H' := fun b o h _ => s b o h
theorem Bt.upd {x : Addr} {H : Hp} (o : HO) : Bt x H (upd H x o) := fun b u h n => by rw [upd_ne n]; exact h
theorem Bt.ins {x C dx : Addr} {fs : List (Str × V)} {H H' : Hp} (h : Bt x H H') (hx : H x = some (.ins C dx fs)) {b : Addr} {o : HO} (e : H b = some o) (n : ∀ C dx fs, o ≠ .ins C dx fs) : H' b = some o := h b o e fun z => by
  subst z
  rw [hx] at e
  cases e
  exact n _ _ _ rfl
/-- the shapes of the rows, each with its low -/
structure ShapesAt (w : World) (H : Hp) (a : Addr) (rows : List (Str × List Nat)) (L : List Nat) (fr : List RowV) : Prop where
  dict : H a = some (DN w a fr)
  keys : KeysN H fr
  few : fr.length ≤ rows.length
  all : ∀ i r, rows[i]? = some r → valM fr (kk L r) = some (.int (Lk.at_ L i : Nat))
  from_ : ∀ k v, valM fr k = some v → ∃ i r, rows[i]? = some r ∧ kk L r = k ∧ v = .int (Lk.at_ L i : Nat)
def sp_tell (C : Addr) (w : World) : Sp := fun vs H Q _ => ∃ (x dx a1 a2 a3 a4 a5 : Addr) (fr : List RowV) (v u : V) (k j : NestedKey) (m n : Nat) (dv : List V), vs = [.ref x, v, u] ∧ H x = some (.ins C dx (lkF a1 a2 a3 a4 a5)) ∧ IsN w H a1 fr ∧ IsK H k v ∧ IsK H j u ∧ valM fr k = some (.int (m : Nat)) ∧ valM fr j = some (.int (n : Nat)) ∧
  H a5 = some (.lst dv) ∧ dv.length ≤ 100 ∧ ∀ p, H p = none → Q .non (upd (upd H p (.tup [.int (m : Nat), .int (n : Nat)])) a5 (.lst (dv ++ [.ref p])))
/-- what stands while lows settle -/
structure SettI (w : World) (N : Addr → Prop) (C x dx a1 a2 : Addr) (rv : List V) (rows : List (Str × List Nat)) (E : List (Nat × Nat)) (H0 H : Hp) (a3 a4 a5 : Addr) (L : List Nat) (dv : List V) (due : List (Nat × Nat)) : Prop where
  ob : H x = some (.ins C dx (lkF a1 a2 a3 a4 a5))
  bt : Bt x H0 H
  hr : H a2 = some (.lst rv)
  rs : RowsL H rv rows
  hl : H a3 = some (.lst (natV L))
  len : L.length = rows.length
  canon : Lk.Canon L
  sound : Lk.Sound rows E L
  hd : H a5 = some (.lst dv)
  ps : PairsL H dv due
  dok : ∀ p ∈ due, p.1 < rows.length ∧ p.2 < rows.length ∧ Lk.CC rows E p.1 p.2
  told : ∀ a b, (a, b) ∈ E → Lk.at_ L a = Lk.at_ L b ∨ (a, b) ∈ due
  fin : due = [] → Lk.Closed rows L
  ein : ∀ a b, (a, b) ∈ E → a < rows.length ∧ b < rows.length
  n3 : N a3
  n5 : N a5
theorem Bt.none {x : Addr} {H H' : Hp} {o : HO} (h : Bt x H H') (hx : H' x = some o) {r : Addr} (hr : H' r = Option.none) : H r = Option.none := by
  cases e : H r with
  | none => rfl
  | some u =>
    by_cases z : r = x
    · subst z
      rw [hx] at hr
      cases hr
    · rw [h _ _ e z] at hr
      cases hr
def sp_lsettle (C : Addr) (w : World) : Sp := fun vs H Q _ => ∃ (x dx a1 a2 a3 a4 a5 : Addr) (rv : List V) (rows : List (Str × List Nat)) (E : List (Nat × Nat)) (L : List Nat) (dv : List V) (due : List (Nat × Nat)) (N : Addr → Prop), vs = [.ref x] ∧ (∀ b, H b = none → N b) ∧ SettI w N C x dx a1 a2 rv rows E H H a3 a4 a5 L dv due ∧ rows.length ≤ 100 ∧ due.length ≤ 100 ∧ Lk.RowsIn rows ∧
  ∀ (H' : Hp) (b3 b4 b5 : Addr) (M : List Nat) (fr : List RowV), Bt x H H' → H' x = some (.ins C dx (lkF a1 a2 b3 b4 b5)) → H' b3 = some (.lst (natV M)) → Lk.IsLows rows E M → ShapesAt w H' b4 rows M fr → H' b5 = some (.lst []) → N b3 → N b4 → N b5 → Q .non H'
section
variable {P : Program} {w : World} {K : PySem.W.Frag} {mg : Str → Option Value} {base : Heap}
theorem c_Likeness_tell (T : Tx K mg) : ClM P w K mg base CX0 1 (clsA mg "Likeness") "tell" ["self", "one", "other"] (sp_tell (clsA mg "Likeness") w) := by
  refine ClM.mk0 T.d_Likeness_tell sc_Likeness_tell (fun vs H Q E h => ?_) (fun f cdv A outer s H vs Q E hr h => ?_)
  · obtain ⟨x, dx, a1, a2, a3, a4, a5, fr, v, u, k, j, m, n, dv, rfl, _⟩ := h
    rfl
  obtain ⟨x, dx, a1, a2, a3, a4, a5, fr, v, u, k, j, m, n, dv, rfl, hx, hn, hk, hj, e1, e2, hd, few, q⟩ := h
  refine ⟨_, (pss_one (ps_expr (pe_bm PySem.F.plainAttrs_list PySem.F.slot_list_append PySem.F.type_list_append mt_append (pe_fld (pv 0) rfl) (pa_cons (pe_tup (pa_cons (pe_ngetW (w := w) (hu_n hr) (pe_fld (pv 0) rfl) (pv 1) (fun _ _ => rfl)) (pa_cons (pe_ngetW (w := w) (hu_n hr) (pe_fld (pv 0) rfl) (pv 2) (fun _ _ => rfl)) pa_nil))) pa_nil)))), ?_⟩
  refine ⟨_, rfl, x, _, dx, _, _, rfl, hx, T.c_Likeness.c, T.n_Likeness_due, rfl, .inl ⟨rfl, _, SqL.of hd⟩, ?_⟩
  refine ⟨_, rfl, x, _, dx, _, _, rfl, hx, T.c_Likeness.c, T.n_Likeness_places, rfl, _, rfl, a1, fr, k, _, rfl, hn, hk, e1, ?_⟩
  refine ⟨_, rfl, x, _, dx, _, _, rfl, hx, T.c_Likeness.c, T.n_Likeness_places, rfl, _, rfl, a1, fr, j, _, rfl, hn, hj, e2, by show 2 ≤ sizeLine; decide, fun p hp => ?_⟩
  exact ⟨a5, _, _, rfl, rfl, (same_new hp _) _ _ hd, small1000 (by omega), q p hp⟩
theorem c_Likeness__settle (T : Tx K mg) : ClM P w K mg base CX0 2 (clsA mg "Likeness") "_settle" ["self"] (sp_lsettle (clsA mg "Likeness") w) := by
  refine ClM.mk0 T.d_Likeness__settle sc_Likeness__settle (fun vs H Q E h => ?_) (fun f cdv A outer s H vs Q E hr h => ?_)
  · obtain ⟨x, dx, a1, a2, a3, a4, a5, rv, rows, E, L, dv, due, N, rfl, _⟩ := h
    rfl
  obtain ⟨x, dx, a1, a2, a3, a4, a5, rv, rows, E', L, dv, due, N, rfl, hN, I0, n100, d100, rin, q⟩ := h
  refine ⟨_, (Evl.pss_cut (ps_while PassesOwn.never (pt_truth (pe_fld (pv 0) rfl) (by intro _; rfl))
      (pss_cons (ps_for PassesOwn.never rfl (pi_list (pe_fld (pv 0) rfl)) (pg_tup rfl (pgs_cons (pg_name (i := 1) sc_Likeness__settle.nd rfl (Or.inl rfl)) (pgs_cons (pg_name (i := 2) sc_Likeness__settle.nd rfl (Or.inl rfl)) pgs_nil)))
        (pss_one (ps_fld (pv 0) (pe_cl (c_joined T) hr (by omega) rfl (pa_cons (pe_fld (pv 0) rfl) (pa_cons (pv 1) (pa_cons (pv 2) pa_nil)))) rfl)))
      (pss_one (ps_fld (pv 0) (pe_cl (c_alike_by_parts T) hr (by omega) rfl (pa_cons (pe_fld (pv 0) rfl) (pa_cons (pe_fld (pv 0) rfl) pa_nil))) rfl))))
    (pss_cons (ps_fld (pv 0) pe_dnewN rfl)
    (pss_one (ps_for PassesOwn.never rfl (pi_zip (by rfl) T.z_zip (pa_cons (pe_fld (pv 0) rfl) (pa_cons (pe_fld (pv 0) rfl) pa_nil))) (pg_tup rfl (pgs_cons (pg_tup rfl (pgs_cons (pg_name (i := 3) sc_Likeness__settle.nd rfl (Or.inl rfl)) (pgs_cons (pg_name (i := 4) sc_Likeness__settle.nd rfl (Or.inl rfl)) pgs_nil))) (pgs_cons (pg_name (i := 5) sc_Likeness__settle.nd rfl (Or.inl rfl)) pgs_nil)))
      (pss_one (ps_nput (hu_n hr) (pe_fld (pv 0) rfl) (pe_op op_catA (pe_tup (pa_cons (pv 3) pa_nil)) (pe_callTy call_tuple_of (by rfl) T.z_tuple (by decide +kernel) (pa_cons (pe_lc (own := [("part", 6)]) (g := gName 6) (tt := tYes) rfl sc_Likeness__settle.nd (pi_list (pv 4)) (blkOk_by (own := [("part", 6)]) (N := ["self", "one", "other", "head", "parts", "low", "part"]) (sc := defScope s_Likeness__settle) (by decide +kernel)) (fun _ _ _ _ _ => (pg_name (i := 6) sc_Likeness__settle.nd rfl (Or.inl rfl))) (fun _ _ _ _ _ => pts_nil) (fun _ _ _ _ _ => (pe_ix (r := rIxL K) ix_list (pe_fldW (K := K) (pv 0) rfl) (pv 6) (fun _ _ => rfl)))) pa_nil))) (pv 5) rfl)))))), ?_⟩
  have cl := T.c_Likeness.c
  refine ⟨fun σ' H' => ∃ y1 y2 b3 b5 M dv', σ' = [some (.ref x), y1, y2, none, none, none, none] ∧ SettI w N (clsA mg "Likeness") x dx a1 a2 rv rows E' H H' b3 a4 b5 M dv' [], ?_, fun σ1 H1 e1 => ?_⟩
  · refine ⟨fun m σ' H' => ∃ y1 y2 b3 b5 M dv' due', σ' = [some (.ref x), y1, y2, none, none, none, none] ∧ SettI w N (clsA mg "Likeness") x dx a1 a2 rv rows E' H H' b3 a4 b5 M dv' due' ∧ due'.length ≤ 100 ∧ ((due' = [] ∧ m = M.sum) ∨ ((∃ p, due'[0]? = some p ∧ Lk.at_ M p.1 ≠ Lk.at_ M p.2) ∧ m = M.sum) ∨ m = M.sum + 1),
      ⟨L.sum + 1, none, none, a3, a5, L, dv, due, rfl, I0, d100, .inr (.inr rfl)⟩, fun m σ' H' hW => ?_⟩
    obtain ⟨y1, y2, b3, b5, M, dv', due', rfl, I, dl, hm⟩ := hW
    refine ⟨_, rfl, x, _, dx, _, _, rfl, I.ob, cl, T.n_Likeness_due, rfl, _, .inl ⟨_, SqL.of I.hd, rfl⟩, ?_⟩
    cases hdv : dv' with
    | nil =>
      subst hdv
      refine iteF ⟨y1, y2, b3, b5, M, [], rfl, ?_⟩
      have : due' = [] := by
        have := I.ps.len
        cases due' with
        | nil => rfl
        | cons _ _ => cases this
      rw [this] at I
      exact I
    | cons d0 dr =>
      refine iteT ?_
      have dne : due' ≠ [] := by
        intro z
        have := I.ps.len
        rw [hdv, z] at this
        cases this
      refine ⟨fun σ2 H2 => ∃ y1 y2 b3 b5 M' dv2 due2, σ2 = [some (.ref x), y1, y2, none, none, none, none] ∧ SettI w N (clsA mg "Likeness") x dx a1 a2 rv rows E' H H2 b3 a4 b5 M' dv2 due2 ∧ due2.length ≤ 100 ∧ ((due2 = [] ∧ M'.sum < m) ∨ ((∃ p, due2[0]? = some p ∧ Lk.at_ M' p.1 ≠ Lk.at_ M' p.2) ∧ M'.sum < m)), fun σ2 H2 h2 => ?_, ?_⟩
      · obtain ⟨z1, z2, c3, c5, M', dv2, due2, rfl, I2, dl2, hm2⟩ := h2
        rcases hm2 with ⟨z, lt⟩ | ⟨z, lt⟩
        · exact ⟨M'.sum, lt, z1, z2, c3, c5, M', dv2, due2, rfl, I2, dl2, .inl ⟨z, rfl⟩⟩
        · exact ⟨M'.sum, lt, z1, z2, c3, c5, M', dv2, due2, rfl, I2, dl2, .inr (.inl ⟨z, rfl⟩)⟩
      have pl := I.ps.len
      refine ⟨_, rfl, x, _, dx, _, _, rfl, I.ob, cl, T.n_Likeness_due, rfl, b5, rfl, ⟨dv', SqL.of I.hd⟩, for_it (walk_list (xs := dv')) (fun i σ H2 => ∃ y1 y2 b3 M', σ = [some (.ref x), y1, y2, none, none, none, none] ∧ N b3 ∧ H2 x = some (.ins (clsA mg "Likeness") dx (lkF a1 a2 b3 a4 b5)) ∧ Bt x H' H2 ∧ H2 b3 = some (.lst (natV M')) ∧ M'.length = rows.length ∧ Lk.Canon M' ∧ Lk.Sound rows E' M' ∧ M'.sum ≤ M.sum ∧
        (∀ u v, u < rows.length → v < rows.length → Lk.at_ M u = Lk.at_ M v → Lk.at_ M' u = Lk.at_ M' v) ∧ (∀ j p, j < i → due'[j]? = some p → Lk.at_ M' p.1 = Lk.at_ M' p.2) ∧ (0 < i → ∀ p, due'[0]? = some p → Lk.at_ M p.1 ≠ Lk.at_ M p.2 → M'.sum < M.sum) ∧ (i = 0 → M' = M))
        ⟨y1, y2, b3, M, rfl, I.n3, I.ob, Bt.refl, I.hl, I.len, I.canon, I.sound, Nat.le_refl _, fun _ _ _ _ z => z, fun j p hj => absurd hj (Nat.not_lt_zero _), fun z => absurd z (Nat.lt_irrefl _), fun _ => rfl⟩ (fun i σ H2 _ h2 => ?_) (fun i v σ H2 H3 hi h2 yy => ?_) (fun σ H2 h2 => ?_)⟩
      · obtain ⟨_, _, _, _, _, _, _, bt, _⟩ := h2
        exact SqL.of (bt.ins I.ob I.hd fun _ _ _ e => by cases e)
      · obtain ⟨z1, z2, c3, M', rfl, nc3, ob, bt, hl, len, canon, sound, sum, keep, joined_, less, same0⟩ := h2
        obtain ⟨rfl, hv⟩ := yy
        obtain ⟨p, hp, pa⟩ := I.ps.get hv
        obtain ⟨b, rfl, hb⟩ := pa
        obtain ⟨d1, d2, dc⟩ := I.dok p (List.mem_of_getElem? hp)
        have hb' := bt.ins I.ob hb fun _ _ _ e => by cases e
        refine ⟨b, _, rfl, SqT.of hb', rfl, _, _, rfl, _, _, rfl, rfl, ?_⟩
        refine ⟨_, rfl, x, _, dx, _, _, rfl, ob, cl, T.n_Likeness_lows, rfl, _, rfl, _, rfl, c3, M', p.1, p.2, rfl, hl, by omega, by omega, by omega, fun r H4 s4 hr4 hr4' => ?_⟩
        have ob4 := s4 _ _ ob
        refine ⟨_, rfl, x, _, dx, _, rfl, ob4, cl, T.n_Likeness_lows, by show 5 < 1000; decide, ?_⟩
        have rx : r ≠ x := (ne_of_none ob hr4).symm
        refine ⟨_, _, r, Lk.join M' p.1 p.2, rfl, hN r ((I.bt.trans bt).none ob hr4), upd_same, bt.trans ((Bt.of s4).trans (Bt.upd _)), by rw [upd_ne rx]; exact hr4', by rw [Lk.join_len]; exact len, Lk.join_canon canon (by omega) (by omega), Lk.join_sound canon sound (by omega) (by omega) dc, Nat.le_trans Lk.join_sum sum, fun u v hu hv' e => Lk.join_keeps (by omega) (by omega) (keep u v hu hv' e), fun j pj hj ej => ?_, fun _ p0 e0 ne => ?_, fun z => absurd z (Nat.succ_ne_zero _)⟩
        · by_cases z : j = i
          · subst z
            rw [hp] at ej
            cases ej
            exact Lk.join_same (by omega) (by omega)
          · obtain ⟨k1, k2, _⟩ := I.dok pj (List.mem_of_getElem? ej)
            exact Lk.join_keeps (by omega) (by omega) (joined_ j pj (by omega) ej)
        · by_cases z : i = 0
          · subst z
            have eM := same0 rfl
            subst eM
            rw [hp] at e0
            cases e0
            exact Lk.join_sum_lt canon (by omega) (by omega) ne
          · exact Nat.lt_of_le_of_lt Lk.join_sum (less (by omega) p0 e0 ne)
      · obtain ⟨z1, z2, c3, M', rfl, nc3, ob, bt, hl, len, canon, sound, sum, keep, joined_, less, same0⟩ := h2
        have hr2 := bt.ins I.ob I.hr fun _ _ _ e => by cases e
        have rs2 : RowsL H2 rv rows := by
          have k1 : ∀ a xs, H' a = some (.tup xs) → H2 a = some (.tup xs) := fun a xs z => bt.ins I.ob z fun _ _ _ e => by cases e
          have k2 : ∀ a xs, H' a = some (.lst xs) → H2 a = some (.lst xs) := fun a xs z => bt.ins I.ob z fun _ _ _ e => by cases e
          exact I.rs.keep k1 k2
        refine ⟨_, rfl, x, _, dx, _, _, rfl, ob, cl, T.n_Likeness_rows, rfl, _, rfl, x, _, dx, _, _, rfl, ob, cl, T.n_Likeness_lows, rfl, a2, c3, rv, rows, M', rfl, hr2, rs2, hl, len, n100, rin, fun r H4 dv4 due4 s4 hr4 h4 ps4 D4 dl4 => ?_⟩
        have ob4 := s4 _ _ ob
        have rx : r ≠ x := (ne_of_none ob hr4).symm
        refine ⟨_, rfl, x, _, dx, _, rfl, ob4, cl, T.n_Likeness_due, by show 5 < 1000; decide, ?_⟩
        have b4 : Bt x H2 (upd H4 x (.ins (clsA mg "Likeness") dx (putF "due" (.ref r) (lkF a1 a2 c3 a4 b5)))) := (Bt.of s4).trans (Bt.upd _)
        have k4 : ∀ a xs, H2 a = some (.tup xs) → (upd H4 x (.ins (clsA mg "Likeness") dx (putF "due" (.ref r) (lkF a1 a2 c3 a4 b5)))) a = some (.tup xs) := fun a xs z => b4.ins ob z fun _ _ _ e => by cases e
        have k5 : ∀ a xs, H2 a = some (.lst xs) → (upd H4 x (.ins (clsA mg "Likeness") dx (putF "due" (.ref r) (lkF a1 a2 c3 a4 b5)))) a = some (.lst xs) := fun a xs z => b4.ins ob z fun _ _ _ e => by cases e
        have tk4 : ∀ a xs, H4 a = some (.tup xs) → (upd H4 x (.ins (clsA mg "Likeness") dx (putF "due" (.ref r) (lkF a1 a2 c3 a4 b5)))) a = some (.tup xs) := fun a xs z => by
          rw [upd_ne (ne_of z ob4 fun e => nomatch e)]
          exact z
        refine ⟨_, _, c3, r, M', dv4, due4, rfl, ⟨upd_same, I.bt.trans (bt.trans b4), k5 _ _ hr2, ?_, k5 _ _ hl, len, canon, sound, by rw [upd_ne rx]; exact h4, ps4.tups tk4, fun p hp => ?_, fun a b hab => ?_, D4.all, I.ein, nc3, hN r ((I.bt.trans bt).none ob hr4)⟩, dl4, ?_⟩
        · exact rs2.keep k4 k5
        · obtain ⟨p1, p2, _, r1, q1, er, eq, ek⟩ := D4.ok p hp
          refine ⟨p1, p2, ?_⟩
          obtain ⟨r1a, r1b⟩ := r1
          obtain ⟨q1a, q1b⟩ := q1
          unfold Lk.key at ek
          injection ek with e1 e2
          dsimp only at e1 e2
          subst e1
          have lens : r1b.length = q1b.length := by
            have := congrArg List.length e2
            rw [List.length_map, List.length_map] at this
            exact this
          refine .cong er eq lens fun n u v hu hv => ?_
          have := congrArg (fun l : List Nat => l[n]?) e2
          rw [List.getElem?_map, List.getElem?_map, hu, hv] at this
          have lu := rin _ _ er u (List.mem_of_getElem? hu)
          have lv := rin _ _ eq v (List.mem_of_getElem? hv)
          exact sound u v (by omega) (by omega) (Option.some.inj this)
        · left
          rcases I.told a b hab with z | z
          · obtain ⟨la, lb⟩ := I.ein a b hab
            exact keep a b la lb z
          · obtain ⟨j, hj⟩ := List.mem_iff_getElem?.mp z
            exact joined_ j (a, b) (by rw [pl]; exact (List.getElem?_eq_some_iff.mp hj).1) hj
        · have lt : M'.sum < m := by
            rcases hm with ⟨z, _⟩ | ⟨⟨p0, e0, ne⟩, e⟩ | e
            · exact absurd z dne
            · rw [e]
              exact less (by rw [pl]; exact (List.getElem?_eq_some_iff.mp e0).1) p0 e0 ne
            · omega
          cases hdue : due4 with
          | nil => exact .inl ⟨rfl, lt⟩
          | cons p0 ps =>
            rw [hdue] at D4
            exact .inr ⟨⟨p0, rfl, (D4.ok p0 List.mem_cons_self).2.2.1⟩, lt⟩
  obtain ⟨y1, y2, b3, b5, M, dv', rfl, I⟩ := e1
  have low : Lk.IsLows rows E' M := ⟨I.len, I.canon, I.sound, fun a b hab => (I.told a b hab).elim id fun z => (List.not_mem_nil z).elim, I.fin rfl⟩
  have dv0 : dv' = [] := by
    have := I.ps.len
    cases dv' with
    | nil => rfl
    | cons _ _ => cases this
  subst dv0
  refine fun F hF => ?_
  have sF := same_new hF (DN w F [])
  have Fx : F ≠ x := (ne_of_none I.ob hF).symm
  refine ⟨_, rfl, x, _, dx, _, rfl, sF _ _ I.ob, cl, T.n_Likeness_shapes, by show 5 < 1000; decide, ?_⟩
  obtain ⟨H2, eH2⟩ : ∃ H2, H2 = upd (upd H1 F (DN w F [])) x (.ins (clsA mg "Likeness") dx (putF "shapes" (.ref F) (lkF a1 a2 b3 a4 b5))) := ⟨_, rfl⟩
  have b2 : Bt x H1 H2 := by
    rw [eH2]
    exact (Bt.of sF).trans (Bt.upd _)
  have ob2 : H2 x = some (.ins (clsA mg "Likeness") dx (lkF a1 a2 b3 F b5)) := by
    rw [eH2]
    exact upd_same
  have hF2 : H2 F = some (DN w F []) := by
    rw [eH2, upd_ne Fx]
    exact upd_same
  have keepT : ∀ a xs, H1 a = some (.tup xs) → H2 a = some (.tup xs) := fun a xs z => b2.ins I.ob z fun _ _ _ e => by cases e
  have keepL : ∀ a xs, H1 a = some (.lst xs) → H2 a = some (.lst xs) := fun a xs z => b2.ins I.ob z fun _ _ _ e => by cases e
  erw [← eH2]
  have hr2 := keepL _ _ I.hr
  have hl2 := keepL _ _ I.hl
  have rs2 := I.rs.keep keepT keepL
  have l1 : 1 ≤ sizeLine := by decide
  have fx : F ≠ a2 := ne_of hF2 hr2 fun e => nomatch e
  have fl : F ≠ b3 := ne_of hF2 hl2 fun e => nomatch e
  have rvl := rs2.len
  refine ⟨_, rfl, x, _, dx, _, _, rfl, ob2, cl, T.n_Likeness_rows, rfl, _, rfl, x, _, dx, _, _, rfl, ob2, cl, T.n_Likeness_lows, rfl, a2, b3, rv, natV M, rfl, SqL.of hr2, SqL.of hl2, for_it (walk_zip (xs := rv) (ys := natV M) (n := rows.length) (by rw [natV_len, rvl, I.len, Nat.min_self])) (fun i σ H' => ∃ y1 y2 y3 y4 y5 y6 fr, σ = [some (.ref x), y1, y2, y3, y4, y5, y6] ∧ (∀ b o, H2 b = some o → b ≠ F → H' b = some o) ∧ H' F = some (DN w F fr) ∧ KeysN H' fr ∧ fr.length ≤ i ∧
    (∀ j r, j < i → rows[j]? = some r → valM fr (kk M r) = some (.int (Lk.at_ M j : Nat))) ∧ (∀ k v, valM fr k = some v → ∃ j r, rows[j]? = some r ∧ kk M r = k ∧ v = .int (Lk.at_ M j : Nat)))
    ⟨_, _, _, _, _, _, [], rfl, fun _ _ z _ => z, hF2, .nil, Nat.le_refl _, fun j r hj => absurd hj (Nat.not_lt_zero _), fun k v hv => by cases hv⟩ (fun i σ H' _ h' => ?_) (fun i v σ H' H'' hi h' yy => ?_) (fun σ H' h' => ?_)⟩
  · obtain ⟨_, _, _, _, _, _, _, _, kp, _⟩ := h'
    exact ⟨SqL.of (kp _ _ hr2 fx.symm), SqL.of (kp _ _ hl2 fl.symm)⟩
  · obtain ⟨z1, z2, z3, z4, z5, z6, fr, rfl, kp, hFr, keys, few, all, from_⟩ := h'
    obtain ⟨Tt, v1, v2, rfl, hT, rfl, e1, e2⟩ := yy
    have e1 : rv[i]? = some v1 := e1
    have e2 : (natV M)[i]? = some v2 := e2
    rw [natV_get (by rw [I.len]; exact hi)] at e2
    cases e2
    obtain ⟨r, er, ra⟩ := rs2.get e1
    have sT := same_new (o := .tup [v1, .int (Lk.at_ M i : Nat)]) hT
    have kpT : ∀ a xs, H2 a = some (.tup xs) → H' a = some (.tup xs) := fun a xs z => kp _ _ z (ne_of z hF2 fun e => nomatch e)
    have kpL : ∀ a xs, H2 a = some (.lst xs) → H' a = some (.lst xs) := fun a xs z => kp _ _ z (ne_of z hF2 fun e => nomatch e)
    obtain ⟨a6, b6, rfl, t1, t2, t3⟩ := (ra.keep kpT kpL).same sT
    have obT := sT _ _ (kp _ _ ob2 Fx.symm)
    have FT : F ≠ Tt := ne_of_none hFr hT
    refine ⟨Tt, _, rfl, SqT.of upd_same, rfl, _, _, rfl, a6, _, rfl, SqT.of t1, rfl, _, _, rfl, _, _, rfl, rfl, _, _, rfl, rfl, ?_⟩
    refine ⟨_, rfl, _, rfl, x, _, dx, _, _, rfl, obT, cl, T.n_Likeness_shapes, rfl, ?_⟩
    refine ⟨_, rfl, l1, fun p hp => ⟨_, rfl, b6, rfl, ⟨_, SqL.of ((same_new hp _) _ _ t2)⟩, fun D hD => ?_⟩⟩
    have sp := same_new (o := .tup [.str r.1]) hp
    refine lc_pure (walk_list (xs := natV r.2)) (fun k => .int (Lk.at_ M (Lk.at_ r.2 k) : Nat)) hD (by rw [natV_len]; omega) (fun H' s' => SqL.of (s' _ _ (sp _ _ t2))) (fun x => rfl) (fun k v H3 H4 hk s1 y => ?_) (fun H3 s1 e => ?_)
    · obtain ⟨rfl, hx⟩ := y
      rw [natV_len] at hk
      rw [natV_get hk] at hx
      cases hx
      have pin := rin i r er (Lk.at_ r.2 k) (List.mem_of_getElem? (Lk.at_get hk))
      have hb3 := s1 _ _ (sp _ _ (sT _ _ (kpL _ _ hl2)))
      have ob3 := s1 _ _ (sp _ _ obT)
      exact ⟨Same.refl _, fun Q' q' => ⟨_, rfl, x, _, dx, _, _, rfl, ob3, cl, T.n_Likeness_lows, rfl, _, rfl, b3, _, _, _, rfl, rfl, SqL.of hb3, atI_nat (natV_get (by rw [I.len]; exact pin)), q' _ (Same.refl _)⟩⟩
    · have eK : ((List.range (natV r.2).length).map fun k => V.int (Lk.at_ M (Lk.at_ r.2 k) : Nat)) = r.2.map fun p => V.int (Lk.at_ M p : Nat) := by
        rw [natV_len]
        refine List.ext_getElem? fun n => ?_
        rw [List.getElem?_map, List.getElem?_map]
        by_cases hn : n < r.2.length
        · rw [List.getElem?_range hn, Lk.at_get hn]
          rfl
        · rw [List.getElem?_eq_none_iff.mpr (by rw [List.length_range]; omega), List.getElem?_eq_none_iff.mpr (by omega)]
          rfl
      rw [eK] at e
      refine ⟨D, _, rfl, .inl ⟨SqL.of e, fun N hN => ?_⟩⟩
      have sN := same_new (o := .tup (r.2.map fun p => V.int (Lk.at_ M p : Nat))) hN
      refine catA (sN _ _ (s1 _ _ upd_same)) upd_same (fun z => by cases z) (by rw [List.length_singleton, List.length_map]; omega) fun N2 H5 s5 h5 => ?_
      have s15 : Same H' H5 := (((sT.trans sp).trans s1).trans sN).trans s5
      have isk : IsK H5 (kk M r) (.ref N2) := kk_is h5
      have d5 := s15 _ _ hFr
      have keys5 := keys.wk fun a xs z => s15 _ _ z
      refine ⟨F, fr, kk M r, rfl, d5, keys5, isk, small1000 (by omega), ?_⟩
      have tk : ∀ a xs, H5 a = some (.tup xs) → (upd H5 F (DN w F (putM fr (kk M r) (.ref N2) (.int (Lk.at_ M i : Nat))))) a = some (.tup xs) := fun a xs z => by
        rw [upd_ne (ne_of z d5 fun e => nomatch e)]
        exact z
      refine ⟨_, _, _, _, _, _, putM fr (kk M r) (.ref N2) (.int (Lk.at_ M i : Nat)), rfl, fun b o z nb => by rw [upd_ne nb]; exact s15 _ _ (kp b o z nb), upd_same, (keys5.put isk.1 isk.2).wk tk, Nat.le_trans (putM_length _ _ _ _) (Nat.succ_le_succ few), fun j rj hj ej => ?_, fun k v hv => ?_⟩
      · rw [valM_put]
        by_cases z : kk M rj = kk M r
        · rw [if_pos z]
          have := low.closed i j r rj er ej (kk_inj z.symm)
          rw [this]
        · rw [if_neg z]
          exact all j rj (by
            rcases Nat.lt_or_ge j i with h | h
            · exact h
            · have : j = i := by omega
              subst this
              rw [er] at ej
              cases ej
              exact absurd rfl z) ej
      · rw [valM_put] at hv
        by_cases z : k = kk M r
        · rw [if_pos z] at hv
          cases hv
          exact ⟨i, r, er, z.symm, rfl⟩
        · rw [if_neg z] at hv
          exact from_ k v hv
  · obtain ⟨z1, z2, z3, z4, z5, z6, fr, rfl, kp, hFr, keys, few, all, from_⟩ := h'
    refine q H' b3 F b5 M fr (fun b o z nb => kp _ _ (b2 _ _ (I.bt _ _ z nb) nb) ?_) (kp _ _ ob2 Fx.symm) (kp _ _ hl2 fl.symm) low ⟨hFr, keys, few, fun j r e => all j r (List.getElem?_eq_some_iff.mp e).1 e, from_⟩ (kp _ _ (keepL _ _ I.hd) (ne_of hF2 (keepL _ _ I.hd) fun e => nomatch e).symm) I.n3 (hN F (I.bt.none I.ob hF)) I.n5
    exact ne_of_none (I.bt _ _ z nb) hF
end
end Kt
namespace Kt
open PySem PySem.Spec PyProof.Rows L2
/-! ### Likeness: made -/
/-- pairs of terms -/
def TPairAt (H : Hp) (v : V) (p : Th × Th) : Prop := ∃ a v1 v2, v = .ref a ∧ H a = some (.tup [v1, v2]) ∧ Rep H v1 p.1 ∧ Rep H v2 p.2
inductive TPairsL (H : Hp) : List V → List (Th × Th) → Prop
  | nil : TPairsL H [] []
  | cons {v : V} {vs : List V} {p : Th × Th} {ps : List (Th × Th)} : TPairAt H v p → TPairsL H vs ps → TPairsL H (v :: vs) (p :: ps)
theorem TPairsL.len {H : Hp} {vs : List V} {ps : List (Th × Th)} (h : TPairsL H vs ps) : vs.length = ps.length := by
  induction h with
  | nil => rfl
  | cons _ _ ih => rw [List.length_cons, List.length_cons, ih]
theorem TPairsL.get {H : Hp} {vs : List V} {ps : List (Th × Th)} (h : TPairsL H vs ps) {i : Nat} {v : V} (e : vs[i]? = some v) : ∃ p, ps[i]? = some p ∧ TPairAt H v p := by
  induction h generalizing i with
  | nil => cases e
  | @cons v' vs r rs a t ih =>
    cases i with
    | zero =>
      cases e
      exact ⟨r, rfl, a⟩
    | succ j => exact ih (i := j) (by simpa using e)
theorem TPairsL.wk {H H' : Hp} {vs : List V} {ps : List (Th × Th)} (h : TPairsL H vs ps) (k : Wk H H') : TPairsL H' vs ps := by
  induction h with
  | nil => exact .nil
  | cons a _ ih =>
    obtain ⟨b, v1, v2, e, h1, h2, h3⟩ := a
    exact .cons ⟨b, v1, v2, e, k.tup _ _ h1, h2.wk k, h3.wk k⟩ ih
theorem TPairsL.app {H : Hp} {vs ws : List V} {ps qs : List (Th × Th)} (h : TPairsL H vs ps) (g : TPairsL H ws qs) : TPairsL H (vs ++ ws) (ps ++ qs) := by
  induction h with
  | nil => exact g
  | cons a _ ih => exact .cons a ih
/-- what a Likeness holds behind its making -/
structure LkAt (w : World) (C : Addr) (H : Hp) (x b3 b4 b5 : Addr) (ts : List Th) (E : List (Nat × Nat)) (L : List Nat) : Prop where
  ob : ∃ dx a1 a2, H x = some (.ins C dx (lkF a1 a2 b3 b4 b5))
  hl : H b3 = some (.lst (natV L))
  hs : ∃ fr, ShapesAt w H b4 (rowsT ts) L fr
  hd : H b5 = some (.lst [])
  low : Lk.IsLows (rowsT ts) E L
def prsT (ts : List Th) (ps : List (Th × Th)) : List (Nat × Nat) := ps.map fun p => (ixT ts p.1, ixT ts p.2)
def sp_lkinit (C : Addr) (w : World) : Sp := fun vs H Q _ => ∃ (x dx a b : Addr) (tv qv : List V) (ts : List Th) (ps : List (Th × Th)), vs = [.ref x, .ref a, .ref b] ∧ H x = some (.ins C dx []) ∧ H a = some (.lst tv) ∧ RepL H tv ts ∧ TmS ts ∧ ts.length ≤ 100 ∧ H b = some (.lst qv) ∧ TPairsL H qv ps ∧ ps.length ≤ 100 ∧ (∀ p ∈ ps, p.1 ∈ ts ∧ p.2 ∈ ts) ∧
  ∀ H' b3 b4 b5 L, Bt x H H' → LkAt w C H' x b3 b4 b5 ts (prsT ts ps) L → H b3 = none → H b4 = none → H b5 = none → Q .non H'
theorem Bt.wk {x C dx : Addr} {fs : List (Str × V)} {H H' : Hp} (h : Bt x H H') (hx : H x = some (.ins C dx fs)) : Wk H H' :=
  ⟨fun _ _ z => h.ins hx z (fun _ _ _ e => nomatch e), fun _ xs z => ⟨xs, h.ins hx z (fun _ _ _ e => nomatch e)⟩, fun _ xs z => ⟨xs, h.ins hx z (fun _ _ _ e => nomatch e)⟩⟩
theorem Bt.wkl {x : Addr} {ys zs : List V} {H H' : Hp} (h : Bt x H H') (hx : H x = some (.lst ys)) (hx' : H' x = some (.lst zs)) : Wk H H' :=
  ⟨fun _ _ z => h _ _ z (ne_of z hx fun e => nomatch e), fun a xs z => by
    by_cases e : a = x
    · subst e
      exact ⟨zs, hx'⟩
    · exact ⟨xs, h _ _ z e⟩, fun _ xs z => ⟨xs, h _ _ z (ne_of z hx fun e => nomatch e)⟩⟩
/-- one object hidden -/
def hid (D : Addr) (H : Hp) : Hp := fun a => if a = D then none else H a
theorem hid_ne {D a : Addr} {H : Hp} (h : a ≠ D) : hid D H a = H a := if_neg h
theorem hid_same {D : Addr} {H H' : Hp} (h : Bt D H H') : Same (hid D H) (hid D H') := fun b o e => by
  unfold hid at e ⊢
  split at e
  · cases e
  · rename_i n
    rw [if_neg n]
    exact h b o e n
theorem hid_out {D a : Addr} {H : Hp} {o : HO} (h : hid D H a = some o) : H a = some o := by
  unfold hid at h
  split at h
  · cases h
  · exact h
theorem RowsL.app {H : Hp} {vs ws : List V} {ps qs : List (Str × List Nat)} (h : RowsL H vs ps) (g : RowsL H ws qs) : RowsL H (vs ++ ws) (ps ++ qs) := by
  induction h with
  | nil => exact g
  | cons a _ ih => exact .cons a ih
section
variable {P : Program} {w : World} {K : PySem.W.Frag} {mg : Str → Option Value} {base : Heap}
theorem c_Likeness___init__ (T : Tx K mg) : ClM P w K mg base CX0 3 (clsA mg "Likeness") "__init__" ["self", "terms", "pairs"] (sp_lkinit (clsA mg "Likeness") w) := by
  refine ClM.mk0 T.d_Likeness___init__ sc_Likeness___init__ (fun vs H Q E h => ?_) (fun f cdv A outer s H vs Q E hr h => ?_)
  · obtain ⟨x, dx, a, b, tv, qv, ts, ps, rfl, _⟩ := h
    rfl
  obtain ⟨x, dx, a, b, tv, qv, ts, ps, rfl, hx, ha, ht, S, n100, hb, hp, p100, hin, q⟩ := h
  refine ⟨_, (pss_cons (ps_fld (pv 0) (pe_dcN (own := [("at", 5), ("term", 6)]) (g := gTup K 2 (gCons (gName 5) (gCons (gName 6) (gNil)))) (tt := tYes) rfl (hu_n hr) sc_Likeness___init__.nd (pi_enum (by rfl) T.z_enumerate (pa_cons (pv 1) pa_nil)) (blkOk_by (own := [("at", 5), ("term", 6)]) (N := ["self", "terms", "pairs", "one", "other", "at", "term", "part"]) (sc := defScope s_Likeness___init__) (by decide +kernel)) (fun _ _ _ _ _ => (pg_tup rfl (pgs_cons (pg_name (i := 5) sc_Likeness___init__.nd rfl (Or.inl rfl)) (pgs_cons (pg_name (i := 6) sc_Likeness___init__.nd rfl (Or.inl rfl)) pgs_nil)))) (fun _ _ _ _ _ => pts_nil) (fun _ _ _ _ _ => (pv 6)) (fun _ _ _ _ _ => (pv 5))) rfl)
    (pss_cons (ps_fld (pv 0) (pe_lc (own := [("term", 6)]) (g := gName 6) (tt := tYes) rfl sc_Likeness___init__.nd (pi_list (pv 1)) (blkOk_by (own := [("term", 6)]) (N := ["self", "terms", "pairs", "one", "other", "at", "term", "part"]) (sc := defScope s_Likeness___init__) (by decide +kernel)) (fun _ _ _ _ _ => (pg_name (i := 6) sc_Likeness___init__.nd rfl (Or.inl rfl))) (fun _ _ _ _ _ => pts_nil) (fun _ _ _ _ _ => (pe_tup (pa_cons (pe_ix (r := rIxT K) ix_tup (pv 6) pe_int (fun _ _ => rfl)) (pa_cons (pe_lc (own := [("part", 7)]) (g := gName 7) (tt := tYes) rfl sc_Likeness___init__.nd (pi_tupW (K := K) (pe_slice (r := rSlA K) sl_tupA (pv 6) (po_some pe_int) po_no)) (blkOk_by (own := [("part", 7)]) (N := ["self", "terms", "pairs", "one", "other", "at", "term", "part"]) (sc := { kind := ScopeKind.function, names := [(Str.ofString ".0", NameKind.local), (Str.ofString "term", NameKind.local), (Str.ofString "self", NameKind.cell)], isGenerator := false, isCoroutine := false }) (by decide +kernel)) (fun _ _ _ _ _ => (pg_name (i := 7) sc_Likeness___init__.nd rfl (Or.inl rfl))) (fun _ _ _ _ _ => pts_nil) (fun _ _ _ _ _ => (pe_ngetW (w := w) (hu_n hr) (pe_fldW (K := K) (pv 0) rfl) (pv 7) (fun _ _ => rfl)))) pa_nil))))) rfl)
    (pss_cons (ps_fld (pv 0) (pe_listRg rfl (by rfl) T.z_list (prg_1 (by rfl) T.z_range (pe_callB call_len (by rfl) T.z_len (by decide +kernel) (pa_cons (pv 1) pa_nil)))) rfl)
    (pss_cons (ps_fld (pv 0) pe_dnewN rfl)
    (pss_cons (ps_fld (pv 0) (pe_lst pa_nil) rfl)
    (pss_cons (ps_for PassesOwn.never rfl (pi_list (pv 2)) (pg_tup rfl (pgs_cons (pg_name (i := 3) sc_Likeness___init__.nd rfl (Or.inl rfl)) (pgs_cons (pg_name (i := 4) sc_Likeness___init__.nd rfl (Or.inl rfl)) pgs_nil)))
      (pss_one (ps_expr (pe_mm T.c_Likeness.c (c_Likeness_tell T) hr (by omega) (pv 0) (pa_cons (pv 3) (pa_cons (pv 4) pa_nil))))))
    (pss_one (ps_expr (pe_mm0 T.c_Likeness.c (c_Likeness__settle T) hr (by omega) (pv 0)))))))))), ?_⟩
  have cl := T.c_Likeness.c
  have tl := ht.length
  have l1 : 1 ≤ sizeLine := by decide
  have l2 : 2 ≤ sizeLine := by decide
  -- the places
  refine ⟨_, rfl, a, tv, rfl, SqL.of ha, fun F hF => dcN_it (walk_enum (xs := tv)) (fun i H' => Same H H' ∧ ∃ fr, H' F = some (DN w F fr) ∧ KeysN H' fr ∧ fr.length ≤ i ∧ ∀ j t, j < i → ts[j]? = some t → valM fr t.nk = some (.int (j : Nat)))
    ⟨same_new hF _, [], upd_same, .nil, Nat.le_refl _, fun j t hj => absurd hj (Nat.not_lt_zero _)⟩ (fun i H' _ h' => SqL.of (h'.1 _ _ ha)) (fun i v H' H'' hi h' yy => ?_) (fun H1 h1 => ?_)⟩
  · obtain ⟨s1, fr, hFr, keys, few, all⟩ := h'
    obtain ⟨Tt, v1, v2, rfl, hT, rfl, e1, e2⟩ := yy
    cases e1
    have e2 : tv[i]? = some v2 := e2
    obtain ⟨t, et, rt⟩ := ht.get' e2
    have sT := same_new (o := .tup [.int (i : Nat), v2]) hT
    have tmt := S.tm t (List.mem_of_getElem? et)
    have rt' := rt.wk (Wk.same (s1.trans sT))
    have d1 := sT _ _ hFr
    refine ⟨Tt, _, rfl, SqT.of upd_same, rfl, _, _, rfl, _, _, rfl, rfl, rfl, yesI ⟨_, rfl, _, rfl, fr, t.nk, tmt.isk rt', d1, keys.wk fun a xs z => sT _ _ z, small1000 (by omega), Same.mut (s1.trans sT) hF, _, upd_same, ?_, Nat.le_trans (putM_length _ _ _ _) (Nat.succ_le_succ few), fun j u hj eu => ?_⟩⟩
    · have isk := tmt.isk rt'
      refine ((keys.wk fun a xs z => sT _ _ z).put isk.1 isk.2).wk fun a xs z => ?_
      rw [upd_ne (ne_of z d1 fun e => nomatch e)]
      exact z
    · rw [valM_put]
      by_cases z : j = i
      · subst z
        rw [et] at eu
        cases eu
        rw [if_pos rfl]
      · rw [if_neg fun e => z ?_]
        · exact all j u (by omega) eu
        · have tmu := S.tm u (List.mem_of_getElem? eu)
          have := tmu.inj tmt e
          subst this
          rw [← ix_at S eu, ix_at S et]
  obtain ⟨s1, frP, hP, keysP, fewP, allP⟩ := h1
  have allP : ∀ t ∈ ts, valM frP t.nk = some (.int (ixT ts t : Nat)) := fun t m => allP _ t (by rw [tl]; exact ix_lt S m) (ix_of S m)
  refine ⟨_, rfl, x, _, dx, [], rfl, s1 _ _ hx, cl, T.n_Likeness_places, by show 0 < 1000; decide, ?_⟩
  have Fx : F ≠ x := (ne_of_none hx hF).symm
  obtain ⟨H2, eH2⟩ : ∃ H2, H2 = upd H1 x (.ins (clsA mg "Likeness") dx (putF "places" (.ref F) [])) := ⟨_, rfl⟩
  have b2 : Bt x H H2 := by
    rw [eH2]
    exact (Bt.of s1).trans (Bt.upd _)
  have ob2 : H2 x = some (.ins (clsA mg "Likeness") dx [("places", .ref F)]) := by
    rw [eH2]
    exact upd_same
  have hP2 : IsN w H2 F frP := by
    rw [eH2]
    refine ⟨.inl (by rw [upd_ne Fx]; exact hP), keysP.wk fun a xs z => ?_⟩
    rw [upd_ne (ne_of z (s1 _ _ hx) fun e => nomatch e)]
    exact z
  erw [← eH2]
  have w2 := b2.wk hx
  have ha2 := b2.ins hx ha fun _ _ _ e => by cases e
  have ht2 := ht.wk w2
  -- the rows
  refine ⟨_, rfl, a, rfl, ⟨_, SqL.of ha2⟩, fun D hD => ?_⟩
  refine lc_it (walk_list (xs := tv)) (fun i H' => Same H2 H' ∧ ∃ rv, H' D = some (.lst rv) ∧ RowsL (hid D H') rv ((rowsT ts).take i)) ⟨same_new hD _, [], upd_same, .nil⟩ (fun i H' _ h' => SqL.of (h'.1 _ _ ha2)) (fun i v H' H'' hi h' yy => ?_) (fun H3 h3 => ?_)
  · obtain ⟨rfl, hv⟩ := yy
    obtain ⟨s3, rv, hrv, rls⟩ := h'
    obtain ⟨t, et, rt⟩ := ht2.get' hv
    have tmt := S.tm t (List.mem_of_getElem? et)
    obtain ⟨ta, pvs, rfl, hta, hps⟩ := tmt.rep (rt.wk (Wk.same s3))
    have plen := hps.length
    have pfew := tmt.few
    refine ⟨rfl, yesI ⟨_, rfl, _, _, _, _, rfl, rfl, SqT.of hta, atI_nat (j := 0) rfl, _, rfl, 1, rfl, sl_lo (K := K) 1 hta (by omega) (by rw [List.length_cons]; omega) fun p hp => ⟨p, rfl, ⟨_, SqT.of upd_same⟩, fun D2 hD2 => ?_⟩⟩⟩
    have sp := same_new (o := .tup ((V.str (headT t) :: pvs).drop 1)) hp
    refine lc_pure (walk_tup (xs := pvs)) (fun k => .int (((partsT t).map (ixT ts)).getD k 0 : Nat)) hD2 (by omega) (fun H4 s4 => SqT.of (s4 _ _ upd_same)) (fun x => rfl) (fun k v H4 H5 hk s4 y => ?_) (fun H4 s4 e => ?_)
    · obtain ⟨rfl, hx'⟩ := y
      obtain ⟨u, eu, ru⟩ := hps.get' hx'
      have mu := S.closed t (List.mem_of_getElem? et) u (List.mem_of_getElem? eu)
      have s24 := (s3.trans sp).trans s4
      have e4 : ((partsT t).map (ixT ts)).getD k 0 = ixT ts u := by
        rw [List.getD_eq_getElem?_getD, List.getElem?_map, eu]
        rfl
      refine ⟨Same.refl _, fun Q' q' => ⟨_, rfl, x, _, dx, _, _, rfl, s24 _ _ ob2, cl, T.n_Likeness_places, rfl, _, rfl, F, frP, u.nk, _, rfl, ⟨.inl ?_, hP2.2.wk fun a xs z => s24 _ _ z⟩, (S.tm u mu).isk (ru.wk (Wk.same (sp.trans s4))), allP u mu, ?_⟩⟩
      · rcases hP2.1 with z | ⟨o, z⟩
        · exact s24 _ _ z
        · rw [eH2, upd_ne Fx, hP] at z
          cases z
      · rw [e4] at q'
        exact q' _ (Same.refl _)
    · have eK : ((List.range pvs.length).map fun k => V.int (((partsT t).map (ixT ts)).getD k 0 : Nat)) = natV ((partsT t).map (ixT ts)) := by
        unfold natV
        rw [plen]
        refine List.ext_getElem? fun n => ?_
        rw [List.getElem?_map, List.getElem?_map, List.getElem?_map]
        by_cases hn : n < (partsT t).length
        · rw [List.getElem?_range hn, List.getElem?_eq_getElem hn]
          show some (V.int _) = some (V.int _)
          rw [List.getD_eq_getElem?_getD, List.getElem?_map, List.getElem?_eq_getElem hn]
          rfl
        · rw [List.getElem?_eq_none_iff.mpr (by rw [List.length_range]; omega), List.getElem?_eq_none_iff.mpr (by omega)]
          rfl
      have e : H4 D2 = some (.lst (natV ((partsT t).map (ixT ts)))) := by rw [e, eK]
      refine ⟨l2, fun q2 hq2 => ⟨rv, ?_, small1000 ?_, ?_, _, upd_same, ?_⟩⟩
      · exact (same_new hq2 _) _ _ ((sp.trans s4) _ _ hrv)
      · have := rls.len
        rw [List.length_take] at this
        omega
      · refine Same.mut (((s3.trans sp).trans s4).trans (same_new hq2 _)) hD
      · have s5 := same_new (o := .tup [.str (headT t), .ref D2]) hq2
        have hrv5 := s5 _ _ ((sp.trans s4) _ _ hrv)
        have btD := (Bt.of (x := D) ((sp.trans s4).trans s5)).trans (Bt.upd (.lst (rv ++ [.ref q2])))
        have n2 : q2 ≠ D := (ne_of_none ((sp.trans s4) _ _ hrv) hq2).symm
        have n1 : D2 ≠ D := (ne_of_none (sp _ _ hrv) hD2).symm
        rw [List.take_add_one, rowsT_get et]
        refine (rls.same (hid_same btD)).app (.cons ⟨q2, D2, rfl, ?_, ?_, ?_⟩ .nil)
        · rw [hid_ne n2, upd_ne n2]
          exact upd_same
        · rw [hid_ne n1, upd_ne n1]
          exact s5 _ _ e
        · show ((partsT t).map (ixT ts)).length ≤ 3
          rw [List.length_map]
          exact pfew
  obtain ⟨s3, rv, hrv, rls0⟩ := h3
  have rls : RowsL H3 rv (rowsT ts) := by
    rw [List.take_of_length_le (by rw [rowsT_len]; omega)] at rls0
    exact rls0.keep (fun _ _ z => hid_out z) fun _ _ z => hid_out z
  have ob3 := s3 _ _ ob2
  refine ⟨_, rfl, x, _, dx, _, rfl, ob3, cl, T.n_Likeness_rows, by show 1 < 1000; decide, ?_⟩
  have Dx : D ≠ x := (ne_of_none ob2 hD).symm
  obtain ⟨H4, eH4⟩ : ∃ H4, H4 = upd H3 x (.ins (clsA mg "Likeness") dx (putF "rows" (.ref D) [("places", .ref F)])) := ⟨_, rfl⟩
  have b4 : Bt x H2 H4 := by
    rw [eH4]
    exact (Bt.of s3).trans (Bt.upd _)
  have b34 : Bt x H3 H4 := by
    rw [eH4]
    exact Bt.upd _
  have ob4 : H4 x = some (.ins (clsA mg "Likeness") dx [("places", .ref F), ("rows", .ref D)]) := by
    rw [eH4]
    exact upd_same
  erw [← eH4]
  have ha4 := b4.ins ob2 ha2 fun _ _ _ e => by cases e
  have hD4 := b34.ins ob3 hrv fun _ _ _ e => by cases e
  have rs4 : RowsL H4 rv (rowsT ts) := rls.keep (fun _ _ z => b34.ins ob3 z fun _ _ _ e => by cases e) fun _ _ z => b34.ins ob3 z fun _ _ _ e => by cases e
  have hF4 : IsN w H4 F frP := by
    refine ⟨.inl (b4 _ _ ?_ Fx), (hP2.2.wk fun a xs z => b4.ins ob2 z fun _ _ _ e => by cases e)⟩
    rw [eH2, upd_ne Fx]
    exact hP
  -- the lows
  refine ⟨_, rfl, _, tv.length, rfl, .inl ⟨tv, SqL.of ha4, rfl⟩, _, rfl, RgOk.of_le (by omega) (by omega) (by omega) (by omega), fun r hr4 => ?_⟩
  have er : rgV 0 ((tv.length : Nat) : Int) = natV (List.range ts.length) := by
    unfold rgV natV
    rw [tl, show (((ts.length : Nat) : Int) - 0).toNat = ts.length by omega]
    refine List.map_congr_left fun i _ => ?_
    show V.int (0 + (i : Nat)) = V.int (i : Nat)
    rw [Int.zero_add]
  rw [er]
  obtain ⟨H5, eH5⟩ : ∃ H5, H5 = upd H4 r (.lst (natV (List.range ts.length))) := ⟨_, rfl⟩
  have s5 : Same H4 H5 := by
    rw [eH5]
    exact same_new hr4 _
  have hr5 : H5 r = some (.lst (natV (List.range ts.length))) := by
    rw [eH5]
    exact upd_same
  erw [← eH5]
  have ob5 := s5 _ _ ob4
  refine ⟨_, rfl, x, _, dx, _, rfl, ob5, cl, T.n_Likeness_lows, by show 2 < 1000; decide, ?_⟩
  obtain ⟨H6, eH6⟩ : ∃ H6, H6 = upd H5 x (.ins (clsA mg "Likeness") dx (putF "lows" (.ref r) [("places", .ref F), ("rows", .ref D)])) := ⟨_, rfl⟩
  have b56 : Bt x H5 H6 := by
    rw [eH6]
    exact Bt.upd _
  have b46 : Bt x H4 H6 := (Bt.of s5).trans b56
  have ob6 : H6 x = some (.ins (clsA mg "Likeness") dx [("places", .ref F), ("rows", .ref D), ("lows", .ref r)]) := by
    rw [eH6]
    exact upd_same
  erw [← eH6]
  -- the shapes
  refine fun G hG => ⟨_, rfl, x, _, dx, _, rfl, (same_new hG _) _ _ ob6, cl, T.n_Likeness_shapes, by show 3 < 1000; decide, ?_⟩
  have Gx : G ≠ x := (ne_of_none ob6 hG).symm
  obtain ⟨H7, eH7⟩ : ∃ H7, H7 = upd (upd H6 G (DN w G [])) x (.ins (clsA mg "Likeness") dx (putF "shapes" (.ref G) [("places", .ref F), ("rows", .ref D), ("lows", .ref r)])) := ⟨_, rfl⟩
  have b67 : Bt x H6 H7 := by
    rw [eH7]
    exact (Bt.of (same_new hG _)).trans (Bt.upd _)
  have b47 := b46.trans b67
  have ob7 : H7 x = some (.ins (clsA mg "Likeness") dx [("places", .ref F), ("rows", .ref D), ("lows", .ref r), ("shapes", .ref G)]) := by
    rw [eH7]
    exact upd_same
  erw [← eH7]
  -- the list of what is due
  refine ⟨Nat.zero_le _, fun U hU => ⟨_, rfl, x, _, dx, _, rfl, (same_new hU _) _ _ ob7, cl, T.n_Likeness_due, by show 4 < 1000; decide, ?_⟩⟩
  have Ux : U ≠ x := (ne_of_none ob7 hU).symm
  obtain ⟨H8, eH8⟩ : ∃ H8, H8 = upd (upd H7 U (.lst [])) x (.ins (clsA mg "Likeness") dx (putF "due" (.ref U) [("places", .ref F), ("rows", .ref D), ("lows", .ref r), ("shapes", .ref G)])) := ⟨_, rfl⟩
  have b78 : Bt x H7 H8 := by
    rw [eH8]
    exact (Bt.of (same_new hU _)).trans (Bt.upd _)
  have b48 := b47.trans b78
  have ob8 : H8 x = some (.ins (clsA mg "Likeness") dx (lkF F D r G U)) := by
    rw [eH8]
    exact upd_same
  have hU8 : H8 U = some (.lst []) := by
    rw [eH8, upd_ne Ux]
    exact upd_same
  erw [← eH8]
  have b08 : Bt x H H8 := (((b2.trans (Bt.of s3)).trans b34).trans b48)
  have w8 := b08.wk hx
  have hb8 := b08.ins hx hb fun _ _ _ e => by cases e
  have hp8 := hp.wk w8
  have hF8 : IsN w H8 F frP := by
    refine ⟨.inl (b48 _ _ ?_ Fx), (hF4.2.wk fun a xs z => b48.ins ob4 z fun _ _ _ e => by cases e)⟩
    refine b4 _ _ ?_ Fx
    rw [eH2, upd_ne Fx]
    exact hP
  have hF8' : H8 F = some (DN w F frP) := b48 _ _ (b4 _ _ (by rw [eH2, upd_ne Fx]; exact hP) Fx) Fx
  have hD8 := b48.ins ob4 hD4 fun _ _ _ e => by cases e
  have hr8 : H8 r = some (.lst (natV (List.range ts.length))) := (b67.trans b78).ins ob6 (b56.ins ob5 hr5 fun _ _ _ e => by cases e) fun _ _ _ e => by cases e
  have rs8 : RowsL H8 rv (rowsT ts) := rs4.keep (fun _ _ z => b48.ins ob4 z fun _ _ _ e => by cases e) fun _ _ z => b48.ins ob4 z fun _ _ _ e => by cases e
  have hb7 := ((((b2.trans (Bt.of s3)).trans b34).trans b47)).ins hx hb fun _ _ _ e => by cases e
  have nbU : b ≠ U := ne_of_none hb7 hU
  have ql := hp8.len
  refine ⟨_, rfl, b, rfl, ⟨qv, SqL.of hb8⟩, for_it (walk_list (xs := qv)) (fun i σ H' => ∃ y1 y2 y3 y4 y5 dv, σ = [some (.ref x), y1, y2, y3, y4, y5, none, none] ∧ Bt U H8 H' ∧ H' U = some (.lst dv) ∧ PairsL H' dv ((prsT ts ps).take i) ∧ dv.length = i)
    ⟨_, _, _, _, _, [], rfl, Bt.refl, hU8, .nil, rfl⟩ (fun i σ H' _ h' => ?_) (fun i v σ H' H'' hi h' yy => ?_) (fun σ H' h' => ?_)⟩
  · obtain ⟨_, _, _, _, _, _, _, bt, _⟩ := h'
    exact SqL.of (bt _ _ hb8 nbU)
  · obtain ⟨y1, y2, y3, y4, y5, dv, rfl, bt, hU', pl, dl⟩ := h'
    obtain ⟨rfl, hv⟩ := yy
    obtain ⟨p, ep, aT, v1, v2, rfl, hT, r1, r2⟩ := hp8.get hv
    obtain ⟨m1, m2⟩ := hin p (List.mem_of_getElem? ep)
    have tk : ∀ a xs, H8 a = some (.tup xs) → H'' a = some (.tup xs) := fun a xs z => bt _ _ z (ne_of z hU8 fun e => nomatch e)
    have w9 : Wk H8 H'' := bt.wkl hU8 hU'
    refine ⟨aT, _, rfl, SqT.of (tk _ _ hT), rfl, _, _, rfl, _, _, rfl, rfl, ?_⟩
    refine ⟨_, rfl, x, dx, _, rfl, bt _ _ ob8 Ux.symm, rfl, _, rfl, _, rfl, ?_⟩
    refine ⟨x, dx, F, D, r, G, U, frP, v1, v2, p.1.nk, p.2.nk, ixT ts p.1, ixT ts p.2, dv, rfl, bt _ _ ob8 Ux.symm, ⟨.inl (bt _ _ hF8' (ne_of hF8' hU8 fun e => nomatch e)), hF8.2.wk tk⟩, (S.tm _ m1).isk (r1.wk w9), (S.tm _ m2).isk (r2.wk w9), allP _ m1, allP _ m2, hU', by omega, fun q2 hq2 => ?_⟩
    have s2 := same_new (o := .tup [.int (ixT ts p.1 : Nat), .int (ixT ts p.2 : Nat)]) hq2
    have U2 := s2 _ _ hU'
    refine ⟨_, _, _, _, _, dv ++ [.ref q2], rfl, bt.trans ((Bt.of s2).trans (Bt.upd _)), upd_same, ?_, by rw [List.length_append, dl, List.length_singleton]⟩
    rw [List.take_add_one, show (prsT ts ps)[i]? = some (ixT ts p.1, ixT ts p.2) by unfold prsT; rw [List.getElem?_map, ep]; rfl]
    refine PairsL.app (pl.tups fun a xs z => ?_) (.cons ⟨q2, rfl, ?_⟩ .nil)
    · rw [upd_ne (ne_of (s2 _ _ z) U2 fun e => nomatch e)]
      exact s2 _ _ z
    · rw [upd_ne (ne_of_none hU' hq2).symm]
      exact upd_same
  · obtain ⟨y1, y2, y3, y4, y5, dv, rfl, bt, hU', pl, dl⟩ := h'
    rw [List.take_of_length_le (by unfold prsT; rw [List.length_map]; omega)] at pl
    have tk : ∀ a xs, H8 a = some (.tup xs) → H' a = some (.tup xs) := fun a xs z => bt _ _ z (ne_of z hU8 fun e => nomatch e)
    have nDU : D ≠ U := ne_of_none (b47.ins ob4 hD4 fun _ _ _ e => by cases e) hU
    have nrU : r ≠ U := ne_of_none (b67.ins ob6 (b56.ins ob5 hr5 fun _ _ _ e => by cases e) fun _ _ _ e => by cases e) hU
    have rs9 : RowsL H' rv (rowsT ts) := by
      have r7 : RowsL H7 rv (rowsT ts) := rs4.keep (fun _ _ z => b47.ins ob4 z fun _ _ _ e => by cases e) fun _ _ z => b47.ins ob4 z fun _ _ _ e => by cases e
      refine r7.keep (fun a xs z => tk _ _ (b78.ins ob7 z fun _ _ _ e => by cases e)) fun a xs z => bt _ _ (b78.ins ob7 z fun _ _ _ e => by cases e) (ne_of_none z hU)
    have rl := rowsT_len ts
    have btx : Bt x H H' := fun c o hc nc => by
      have := b08 c o hc nc
      by_cases z : c = U
      · subst z
        have h7 := ((((b2.trans (Bt.of s3)).trans b34).trans b47)) c o hc nc
        rw [hU] at h7
        cases h7
      · exact bt _ _ this z
    refine ⟨_, rfl, x, dx, _, rfl, bt _ _ ob8 Ux.symm, rfl, ?_⟩
    refine ⟨x, dx, F, D, r, G, U, rv, rowsT ts, prsT ts ps, List.range ts.length, dv, prsT ts ps, fun b => H b = none, rfl, fun b hb => btx.none (bt _ _ ob8 Ux.symm) hb, ⟨bt _ _ ob8 Ux.symm, Bt.refl, bt _ _ hD8 nDU, rs9, bt _ _ hr8 nrU, by rw [List.length_range, rl], Lk.canon_range _, fun i j hi hj e => ?_, hU', pl, fun p hp => ?_, fun a b hab => .inr hab, fun _ => rowsT_closed S, fun a b hab => ?_, (((b2.trans (Bt.of s3)).trans b34).trans (Bt.refl)).none ob4 hr4, ((((b2.trans (Bt.of s3)).trans b34).trans b47)).none ob7 hU⟩, by omega, by unfold prsT; rw [List.length_map]; exact p100, rowsT_in S, fun H2 b3 b4' b5 M fr bt2 ob hl low sh hd n3 n4 n5 => ?_⟩
    · rw [List.length_range] at hi hj
      rw [Lk.at_of (List.getElem?_range hi), Lk.at_of (List.getElem?_range hj)] at e
      subst e
      exact .refl _
    · obtain ⟨q', hq, rfl⟩ := List.mem_map.mp hp
      obtain ⟨m1, m2⟩ := hin q' hq
      rw [rl]
      exact ⟨ix_lt S m1, ix_lt S m2, .told hp⟩
    · obtain ⟨q', hq, e⟩ := List.mem_map.mp hab
      cases e
      obtain ⟨m1, m2⟩ := hin q' hq
      rw [rl]
      exact ⟨ix_lt S m1, ix_lt S m2⟩
    · exact q H2 b3 b4' b5 M (btx.trans bt2) ⟨⟨_, _, _, ob⟩, hl, ⟨fr, sh⟩, hd, low⟩ n3 n4 n5
end
end Kt
namespace Kt
open PySem PySem.Spec PyProof.Rows L2
/-! ### lists by lists -/
inductive A2 {α β : Type} (R : α → β → Prop) : List α → List β → Prop
  | nil : A2 R [] []
  | cons {x : α} {xs : List α} {y : β} {ys : List β} : R x y → A2 R xs ys → A2 R (x :: xs) (y :: ys)
theorem A2.len {α β : Type} {R : α → β → Prop} {xs : List α} {ys : List β} (h : A2 R xs ys) : xs.length = ys.length := by
  induction h with
  | nil => rfl
  | cons _ _ ih => rw [List.length_cons, List.length_cons, ih]
theorem A2.imp {α β : Type} {R S : α → β → Prop} {xs : List α} {ys : List β} (h : A2 R xs ys) (f : ∀ x y, R x y → S x y) : A2 S xs ys := by
  induction h with
  | nil => exact .nil
  | cons a _ ih => exact .cons (f _ _ a) ih
theorem A2.app {α β : Type} {R : α → β → Prop} {xs zs : List α} {ys ws : List β} (h : A2 R xs ys) (g : A2 R zs ws) : A2 R (xs ++ zs) (ys ++ ws) := by
  induction h with
  | nil => exact g
  | cons a _ ih => exact .cons a ih
theorem A2.get {α β : Type} {R : α → β → Prop} {xs : List α} {ys : List β} (h : A2 R xs ys) {i : Nat} {x : α} (e : xs[i]? = some x) : ∃ y, ys[i]? = some y ∧ R x y := by
  induction h generalizing i with
  | nil => cases e
  | @cons x' xs y ys a t ih =>
    cases i with
    | zero =>
      cases e
      exact ⟨y, rfl, a⟩
    | succ j => exact ih (i := j) (by simpa using e)
theorem A2.getR {α β : Type} {R : α → β → Prop} {xs : List α} {ys : List β} (h : A2 R xs ys) {i : Nat} {y : β} (e : ys[i]? = some y) : ∃ x, xs[i]? = some x ∧ R x y := by
  induction h generalizing i with
  | nil => cases e
  | @cons x' xs y ys a t ih =>
    cases i with
    | zero =>
      cases e
      exact ⟨x', rfl, a⟩
    | succ j => exact ih (i := j) (by simpa using e)
theorem A2.memL {α β : Type} {R : α → β → Prop} {xs : List α} {ys : List β} (h : A2 R xs ys) {x : α} (m : x ∈ xs) : ∃ y ∈ ys, R x y := by
  obtain ⟨i, e⟩ := List.mem_iff_getElem?.mp m
  obtain ⟨y, e', r⟩ := h.get e
  exact ⟨y, List.mem_of_getElem? e', r⟩
/-! ### deeds -/
abbrev Deed := Str × List Th
def DeedAt (H : Hp) (v : V) (r : Deed) : Prop := ∃ a vs, v = .ref a ∧ H a = some (.tup (.str r.1 :: vs)) ∧ RepL H vs r.2
theorem DeedAt.wk {H H' : Hp} {v : V} {r : Deed} (h : DeedAt H v r) (k : Wk H H') : DeedAt H' v r := by
  obtain ⟨a, vs, e, h1, h2⟩ := h
  exact ⟨a, vs, e, k.tup _ _ h1, h2.wk k⟩
def okD (r : Deed) : Prop := (∀ t ∈ r.2, tm t) ∧ r.2.length ≤ 2
/-- a row of the ranks -/
def RankAt (H : Hp) (x : RowV) (t : Th) : Prop := tm t ∧ x.1 = t.nk ∧ Rep H x.2.1 t ∧ ∃ a, x.2.2 = .ref a ∧ H a = some (.tup [.int t.size, .str t.wr])
theorem RankAt.wk {H H' : Hp} {x : RowV} {t : Th} (h : RankAt H x t) (k : Wk H H') : RankAt H' x t := by
  obtain ⟨h1, h2, h3, a, e, h4⟩ := h
  exact ⟨h1, h2, h3.wk k, a, e, k.tup _ _ h4⟩
def hasT (l : List Th) (t : Th) : Bool := l.any fun u => decide (u.nk = t.nk)
theorem hasT_iff {l : List Th} {t : Th} (h : ∀ u ∈ l, tm u) (ht : tm t) : hasT l t = true ↔ t ∈ l := by
  unfold hasT
  rw [List.any_eq_true]
  constructor
  · rintro ⟨u, m, e⟩
    have := (h u m).inj ht (of_decide_eq_true e)
    rw [← this]
    exact m
  · exact fun m => ⟨t, m, decide_eq_true rfl⟩
theorem rank_val {H : Hp} {fr : List RowV} {R : List Th} (h : A2 (RankAt H) fr R) (t : Th) : (valM fr t.nk).isSome = hasT R t := by
  induction h with
  | nil => rfl
  | @cons x xs y ys a _ ih =>
    rw [valM_cons]
    show _ = (decide (y.nk = t.nk) || hasT ys t)
    rw [a.2.1]
    by_cases e : y.nk = t.nk
    · rw [if_pos e, decide_eq_true e]
      rfl
    · rw [if_neg e, decide_eq_false e, ih]
      rfl
theorem rank_keys {H : Hp} {fr : List RowV} {R : List Th} (h : A2 (RankAt H) fr R) : KeysN H fr := fun x m => by
  obtain ⟨t, _, a⟩ := h.memL m
  have := a.1.isk a.2.2.1
  rw [a.2.1]
  exact this
theorem rank_put {H : Hp} {fr : List RowV} {R : List Th} (h : A2 (RankAt H) fr R) {t : Th} {y v : V} (a : RankAt H (t.nk, y, v) t) : A2 (RankAt H) (putM fr t.nk y v) (if hasT R t then R else R ++ [t]) := by
  have e := rank_val h t
  unfold putM
  by_cases z : hasT R t = true
  · rw [if_pos (e.trans z), if_pos z]
    clear e z
    induction h with
    | nil => exact .nil
    | @cons x xs u us b _ ih =>
      refine .cons ?_ ih
      show RankAt H (if x.1 = t.nk then (x.1, x.2.1, v) else x) u
      by_cases q : x.1 = t.nk
      · rw [if_pos q]
        have : u = t := b.1.inj a.1 (by rw [← b.2.1, q])
        subst this
        exact ⟨b.1, b.2.1, b.2.2.1, a.2.2.2⟩
      · rw [if_neg q]
        exact b
  · rw [if_neg (by rw [e]; exact z), if_neg z]
    exact h.app (.cons a .nil)
/-! ### the terms that deeds put -/
def addT (K F : List Th) (t : Th) : List Th := if hasT K t then F else if hasT F t then F else F ++ [t]
def partsD (ds : List Deed) : List Th := ds.flatMap fun r => r.2.flatMap allW
def foundT (K : List Th) (ds : List Deed) : List Th := (partsD ds).foldl (addT K) []
theorem addT_mem {K F : List Th} {t : Th} (hK : ∀ u ∈ K, tm u) (hF : ∀ u ∈ F, tm u) (ht : tm t) (s : Th) : s ∈ addT K F t ↔ s ∈ F ∨ (s = t ∧ s ∉ K) := by
  unfold addT
  by_cases z : hasT K t = true
  · rw [if_pos z]
    have := (hasT_iff hK ht).mp z
    exact ⟨.inl, fun h => h.elim id fun q => absurd (q.1 ▸ this) q.2⟩
  · rw [if_neg z]
    have nK : t ∉ K := fun m => z ((hasT_iff hK ht).mpr m)
    by_cases y : hasT F t = true
    · rw [if_pos y]
      have := (hasT_iff hF ht).mp y
      exact ⟨.inl, fun h => h.elim id fun q => q.1 ▸ this⟩
    · rw [if_neg y, List.mem_append, List.mem_singleton]
      exact ⟨fun h => h.imp id fun q => ⟨q, q ▸ nK⟩, fun h => h.imp id fun q => q.1⟩
theorem fold_mem {K : List Th} (hK : ∀ u ∈ K, tm u) : ∀ (l F : List Th), (∀ u ∈ F, tm u) → (∀ u ∈ l, tm u) → ∀ s, s ∈ l.foldl (addT K) F ↔ s ∈ F ∨ (s ∈ l ∧ s ∉ K)
  | [], F, _, _, s => ⟨.inl, fun h => h.elim id fun q => absurd q.1 List.not_mem_nil⟩
  | t :: l, F, hF, hl, s => by
    have ht := hl t List.mem_cons_self
    have hF' : ∀ u ∈ addT K F t, tm u := fun u m => ((addT_mem hK hF ht u).mp m).elim (hF u) fun q => q.1 ▸ ht
    rw [List.foldl_cons, fold_mem hK l _ hF' (fun u m => hl u (List.mem_cons_of_mem _ m)) s, addT_mem hK hF ht, List.mem_cons]
    constructor
    · rintro ((h | ⟨h, n⟩) | ⟨h, n⟩)
      · exact .inl h
      · exact .inr ⟨.inl h, n⟩
      · exact .inr ⟨.inr h, n⟩
    · rintro (h | ⟨h | h, n⟩)
      · exact .inl (.inl h)
      · exact .inl (.inr ⟨h, n⟩)
      · exact .inr ⟨h, n⟩
theorem addT_nd {K F : List Th} {t : Th} (nd : ((K ++ F).map Th.nk).Nodup) : ((K ++ addT K F t).map Th.nk).Nodup := by
  unfold addT
  by_cases z : hasT K t = true
  · rw [if_pos z]
    exact nd
  · rw [if_neg z]
    by_cases y : hasT F t = true
    · rw [if_pos y]
      exact nd
    · rw [if_neg y, ← List.append_assoc, List.map_append]
      refine List.nodup_append.mpr ⟨nd, by simp, fun a ha b hb e => ?_⟩
      rw [List.map_cons, List.map_nil, List.mem_singleton] at hb
      subst hb
      obtain ⟨u, mu, eu⟩ := List.mem_map.mp ha
      have here : ∀ l : List Th, u ∈ l → hasT l t = true := fun l m => List.any_eq_true.mpr ⟨u, m, decide_eq_true (eu.trans e)⟩
      rcases List.mem_append.mp mu with m | m
      · exact z (here _ m)
      · exact y (here _ m)
theorem fold_nd {K : List Th} : ∀ (l F : List Th), ((K ++ F).map Th.nk).Nodup → ((K ++ l.foldl (addT K) F).map Th.nk).Nodup
  | [], _, nd => nd
  | t :: l, F, nd => by
    rw [List.foldl_cons]
    exact fold_nd l _ (addT_nd nd)
theorem tms_fold {K F l : List Th} (S : TmS (K ++ F)) (hl : ∀ u ∈ l, tm u) (cl : ∀ u ∈ l, ∀ p ∈ partsT u, p ∈ l) : TmS (K ++ l.foldl (addT K) F) := by
  have hK : ∀ u ∈ K, tm u := fun u m => S.tm u (List.mem_append.mpr (.inl m))
  have hF : ∀ u ∈ F, tm u := fun u m => S.tm u (List.mem_append.mpr (.inr m))
  have mem := fold_mem hK l F hF hl
  have in_ : ∀ s, s ∈ K ++ F ∨ s ∈ l → s ∈ K ++ l.foldl (addT K) F := fun s h => by
    rw [List.mem_append, mem]
    by_cases z : s ∈ K
    · exact .inl z
    · rcases h with h | h
      · rcases List.mem_append.mp h with m | m
        · exact .inl m
        · exact .inr (.inl m)
      · exact .inr (.inr ⟨h, z⟩)
  refine ⟨fun t m => ?_, fold_nd l F S.nd, fun t m p hp => in_ p ?_⟩
  · rcases List.mem_append.mp m with m | m
    · exact hK t m
    · rcases (mem t).mp m with m | m
      · exact hF t m
      · exact hl t m.1
  · rcases List.mem_append.mp m with m | m
    · exact .inl (S.closed t (List.mem_append.mpr (.inl m)) p hp)
    · rcases (mem t).mp m with m | m
      · exact .inl (S.closed t (List.mem_append.mpr (.inr m)) p hp)
      · exact .inr (cl t m.1 p hp)
mutual
theorem allW_of {R : List Th} (cl : ∀ t ∈ R, ∀ p ∈ partsT t, p ∈ R) : ∀ t : Th, tm t → t ∈ R → ∀ s ∈ allW t, s ∈ R
  | .tup l, ht, m, s, hs => by
    obtain ⟨z, ps, e, _, _, hp⟩ := ht.tup
    cases e
    rcases List.mem_cons.mp hs with h | h
    · rw [h]
      exact m
    · exact allT_of cl (.str z :: ps) hp (fun p q => cl _ m p q) s h
  | .str z, ht, m, s, hs => by
    obtain ⟨_, _, e, _⟩ := ht.tup
    cases e
  | .int i, ht, m, s, hs => by
    obtain ⟨_, _, e, _⟩ := ht.tup
    cases e
  | .bl b, ht, m, s, hs => by
    obtain ⟨_, _, e, _⟩ := ht.tup
    cases e
  | .non, ht, m, s, hs => by
    obtain ⟨_, _, e, _⟩ := ht.tup
    cases e
  | .ls, ht, m, s, hs => by
    obtain ⟨_, _, e, _⟩ := ht.tup
    cases e
  | .dc, ht, m, s, hs => by
    obtain ⟨_, _, e, _⟩ := ht.tup
    cases e
theorem allT_of {R : List Th} (cl : ∀ t ∈ R, ∀ p ∈ partsT t, p ∈ R) : ∀ l : List Th, (∀ p ∈ l.drop 1, tm p) → (∀ p ∈ l.drop 1, p ∈ R) → ∀ s ∈ allT l, s ∈ R
  | [], _, _, s, hs => absurd hs List.not_mem_nil
  | _ :: ps, h, m, s, hs => allL_of cl ps h m s hs
theorem allL_of {R : List Th} (cl : ∀ t ∈ R, ∀ p ∈ partsT t, p ∈ R) : ∀ l : List Th, (∀ p ∈ l, tm p) → (∀ p ∈ l, p ∈ R) → ∀ s ∈ allL l, s ∈ R
  | [], _, _, s, hs => absurd hs List.not_mem_nil
  | t :: l, h, m, s, hs => by
    rcases List.mem_append.mp hs with q | q
    · exact allW_of cl t (h t List.mem_cons_self) (m t List.mem_cons_self) s q
    · exact allL_of cl l (fun p hp => h p (List.mem_cons_of_mem _ hp)) (fun p hp => m p (List.mem_cons_of_mem _ hp)) s q
end
theorem addT_same {K F : List Th} (hK : ∀ u ∈ K ++ F, tm u) {t : Th} (ht : tm t) (m : t ∈ K ++ F) : addT K F t = F := by
  unfold addT
  rcases List.mem_append.mp m with m | m
  · rw [if_pos ((hasT_iff (fun u q => hK u (List.mem_append.mpr (.inl q))) ht).mpr m)]
  · split
    · rfl
    · rw [if_pos ((hasT_iff (fun u q => hK u (List.mem_append.mpr (.inr q))) ht).mpr m)]
theorem fold_same {K F : List Th} (hK : ∀ u ∈ K ++ F, tm u) : ∀ l : List Th, (∀ u ∈ l, tm u) → (∀ u ∈ l, u ∈ K ++ F) → l.foldl (addT K) F = F
  | [], _, _ => rfl
  | t :: l, h, m => by
    rw [List.foldl_cons, addT_same hK (h t List.mem_cons_self) (m t List.mem_cons_self)]
    exact fold_same hK l (fun u q => h u (List.mem_cons_of_mem _ q)) fun u q => m u (List.mem_cons_of_mem _ q)
/-- what stands within a list of so many is as few -/
theorem nd_few {β : Type} [DecidableEq β] : ∀ (l G : List β), l.Nodup → (∀ x ∈ l, x ∈ G) → l.length ≤ G.length
  | [], _, _, _ => Nat.zero_le _
  | x :: l, G, nd, h => by
    have hx := h x List.mem_cons_self
    obtain ⟨n1, n2⟩ := List.nodup_cons.mp nd
    have := nd_few l (G.erase x) n2 fun y hy => (List.mem_erase_of_ne (fun e => n1 (by rw [← e]; exact hy))).mpr (h y (List.mem_cons_of_mem _ hy))
    rw [List.length_erase_of_mem hx] at this
    have pos := List.length_pos_of_mem hx
    rw [List.length_cons]
    omega
theorem few_in {F G : List Th} (nd : (F.map Th.nk).Nodup) (h : ∀ s ∈ F, s ∈ G) : F.length ≤ G.length := by
  have := nd_few (F.map Th.nk) (G.map Th.nk) nd fun k m => by
    obtain ⟨t, q, e⟩ := List.mem_map.mp m
    exact List.mem_map.mpr ⟨t, h t q, e⟩
  rw [List.length_map, List.length_map] at this
  exact this
end Kt
namespace Kt
open PySem PySem.Spec PyProof.Rows L2
/-! ### _ranks_beyond -/
def sp_rb (w : World) : Sp := fun vs H Q _ => ∃ (p k l : Addr) (kfr : List RowV) (R : List Th) (rv : List V) (ds : List Deed) (G : List Th), vs = [.ref p, .ref k, .ref l] ∧ H k = some (DN w k kfr) ∧ A2 (RankAt H) kfr R ∧ H l = some (.lst rv) ∧ A2 (DeedAt H) rv ds ∧ (∀ r ∈ ds, okD r) ∧ TmS R ∧ G.length ≤ 200 ∧ (∀ s ∈ partsD ds, s ∈ G) ∧
  ∀ q H' fr, Same H H' → H q = none → H' q = some (DN w q fr) → A2 (RankAt H') fr (foundT R ds) → Q (.ref q) H'
/-- what stands within _ranks_beyond -/
structure RbI (w : World) (H0 H : Hp) (F : Addr) (R : List Th) (fr : List RowV) (l : List Th) : Prop where
  same : Same H0 H
  dict : H F = some (DN w F fr)
  rk : A2 (RankAt H) fr (l.foldl (addT R) [])
theorem Bt.wkN {w : World} {x : Addr} {xs : List RowV} {H H' : Hp} (h : Bt x H H') (hx : H x = some (DN w x xs)) : Wk H H' :=
  ⟨fun _ _ z => h _ _ z (ne_of z hx fun e => nomatch e), fun _ ys z => ⟨ys, h _ _ z (ne_of z hx fun e => nomatch e)⟩, fun _ ys z => ⟨ys, h _ _ z (ne_of z hx fun e => nomatch e)⟩⟩
section
variable {P : Program} {w : World} {K : PySem.W.Frag} {mg : Str → Option Value} {base : Heap}
theorem RbI.same' {H0 H H' : Hp} {F : Addr} {R : List Th} {fr : List RowV} {l : List Th} (I : RbI w H0 H F R fr l) (s : Same H H') : RbI w H0 H' F R fr l := ⟨I.same.trans s, s _ _ I.dict, I.rk.imp fun _ _ a => a.wk (Wk.same s)⟩
theorem c_Web__ranks_beyond (T : Tx K mg) : ClM P w K mg base CX0 20 (clsA mg "Web") "_ranks_beyond" ["self", "known", "rows"] (sp_rb w) := by
  refine ClM.mk0 T.d_Web__ranks_beyond sc_Web__ranks_beyond (fun vs H Q E h => ?_) (fun f cdv A outer s H vs Q E hr h => ?_)
  · obtain ⟨p, k, l, kfr, R, rv, ds, G, rfl, _⟩ := h
    rfl
  obtain ⟨p, k, l, kfr, R, rv, ds, G, rfl, hk, kr, hl, hd, okd, S, g200, gall, q⟩ := h
  refine ⟨_, (pss_cons (ps_set (i := 3) sc_Web__ranks_beyond.nd rfl (Or.inl rfl) pe_dnewN)
    (pss_cons (ps_for PassesOwn.never rfl (pi_list (pv 2)) (pg_name (i := 4) sc_Web__ranks_beyond.nd rfl (Or.inl rfl))
      (pss_one (ps_for PassesOwn.never rfl (pi_tup (pe_slice sl_tupA (pv 4) (po_some pe_int) po_no)) (pg_name (i := 5) sc_Web__ranks_beyond.nd rfl (Or.inl rfl))
        (pss_one (ps_if (PW.pt (pw_and (pt_cmp (pc_nnotin (hu_n hr) (pv 5) (pv 1)) rfl) (pw_and1 (pt_cmp (pc_nnotin (hu_n hr) (pv 5) (pv 3)) rfl))))
          (pss_one (ps_for PassesOwn.never rfl (pi_list (pe_cl (c_all_within T) hr (by omega) rfl (pa_cons (pv 5) pa_nil))) (pg_name (i := 6) sc_Web__ranks_beyond.nd rfl (Or.inl rfl))
            (pss_one (ps_if (pt_cmp (pc_nnotin (hu_n hr) (pv 6) (pv 1)) rfl)
              (pss_one (ps_nput (hu_n hr) (pv 3) (pv 6) (pe_cl (c_order_of T) hr (by omega) rfl (pa_cons (pv 6) pa_nil)) rfl))
              pss_nil))))
          pss_nil)))))
    (pss_one (ps_ret (pv 3))))), ?_⟩
  refine fun F hF => ?_
  have s0 := same_new hF (DN w F [])
  have dl := hd.len
  have tmR : ∀ u ∈ R, tm u := S.tm
  have tmP : ∀ u ∈ partsD ds, tm u := fun u m => by
    obtain ⟨r, mr, m⟩ := List.mem_flatMap.mp m
    obtain ⟨t, mt, m⟩ := List.mem_flatMap.mp m
    exact allW_tm t ((okd r mr).1 t mt) u m
  refine ⟨_, rfl, l, rfl, ⟨rv, SqL.of (s0 _ _ hl)⟩, for_it (walk_list (xs := rv)) (fun i σ H' => ∃ y1 y2 y3 fr, σ = [some (.ref p), some (.ref k), some (.ref l), some (.ref F), y1, y2, y3] ∧ RbI w H H' F R fr (partsD (ds.take i)))
    ⟨_, _, _, [], rfl, s0, upd_same, .nil⟩ (fun i σ H' _ h' => ?_) (fun i v σ H' H'' hi h' yy => ?_) (fun σ H' h' => ?_)⟩
  · obtain ⟨_, _, _, _, _, I⟩ := h'
    exact SqL.of (I.same _ _ hl)
  · obtain ⟨y1, y2, y3, fr, rfl, I⟩ := h'
    obtain ⟨rfl, hv⟩ := yy
    obtain ⟨r, er, a, vs, rfl, ha, rvs⟩ := hd.get hv
    have mr := List.mem_of_getElem? er
    obtain ⟨okt, ok2⟩ := okd r mr
    have vl := rvs.length
    have ha' := I.same _ _ ha
    refine ⟨_, rfl, 1, rfl, sl_lo (K := K) 1 ha' (by omega) (by rw [List.length_cons]; omega) fun p1 hp1 => ?_⟩
    have s1 := same_new hp1 (.tup ((V.str r.1 :: vs).drop 1))
    have I1 := I.same' s1
    refine ⟨p1, rfl, ⟨_, SqT.of upd_same⟩, for_it (walk_tup (xs := vs)) (fun j σ H' => ∃ y2 y3 fr, σ = [some (.ref p), some (.ref k), some (.ref l), some (.ref F), some (.ref a), y2, y3] ∧ RbI w H H' F R fr (partsD (ds.take i) ++ (r.2.take j).flatMap allW) ∧ H' p1 = some (.tup vs))
      ⟨_, _, fr, rfl, ?_, upd_same⟩ (fun j σ H' _ h' => ?_) (fun j v σ H' H'' hj h' yy => ?_) (fun σ H' h' => ?_)⟩
    · rw [List.take_zero, List.flatMap_nil, List.append_nil]
      exact I1
    · obtain ⟨_, _, _, _, _, h⟩ := h'
      exact SqT.of h
    · obtain ⟨y2, y3, fr, rfl, I, hp1'⟩ := h'
      obtain ⟨rfl, hv⟩ := yy
      obtain ⟨t, et, rt⟩ := rvs.get' hv
      have mt := List.mem_of_getElem? et
      have tt := okt t mt
      have rt' := rt.wk (Wk.same I.same)
      have vl' : (V.str r.1 :: vs).length = vs.length + 1 := rfl
      have pre_mem : ∀ u ∈ partsD (ds.take i) ++ (r.2.take j).flatMap allW, ∃ t', tm t' ∧ u ∈ allW t' ∧ ∀ z ∈ allW t', z ∈ partsD (ds.take i) ++ (r.2.take j).flatMap allW := fun u m => by
        rcases List.mem_append.mp m with m | m
        · obtain ⟨r', mr', m⟩ := List.mem_flatMap.mp m
          obtain ⟨t', mt', m⟩ := List.mem_flatMap.mp m
          exact ⟨t', (okd r' (List.mem_of_mem_take mr')).1 t' mt', m, fun z hz => List.mem_append.mpr (.inl (List.mem_flatMap.mpr ⟨r', mr', List.mem_flatMap.mpr ⟨t', mt', hz⟩⟩))⟩
        · obtain ⟨t', mt', m⟩ := List.mem_flatMap.mp m
          exact ⟨t', okt t' (List.mem_of_mem_take mt'), m, fun z hz => List.mem_append.mpr (.inr (List.mem_flatMap.mpr ⟨t', mt', hz⟩))⟩
      have pre_in : ∀ u ∈ partsD (ds.take i) ++ (r.2.take j).flatMap allW, u ∈ partsD ds := fun u m => by
        rcases List.mem_append.mp m with m | m
        · obtain ⟨r', mr', m⟩ := List.mem_flatMap.mp m
          exact List.mem_flatMap.mpr ⟨r', List.mem_of_mem_take mr', m⟩
        · obtain ⟨t', mt', m⟩ := List.mem_flatMap.mp m
          exact List.mem_flatMap.mpr ⟨r, mr, List.mem_flatMap.mpr ⟨t', List.mem_of_mem_take mt', m⟩⟩
      have in2 : ∀ u ∈ allW t, u ∈ partsD ds := fun u m => List.mem_flatMap.mpr ⟨r, mr, List.mem_flatMap.mpr ⟨t, mt, m⟩⟩
      have nextE : partsD (ds.take i) ++ (r.2.take (j + 1)).flatMap allW = (partsD (ds.take i) ++ (r.2.take j).flatMap allW) ++ allW t := by
        rw [List.take_add_one, et, List.flatMap_append, List.append_assoc]
        show _ ++ (_ ++ (allW t ++ [])) = _
        rw [List.append_nil]
      generalize partsD (ds.take i) ++ (r.2.take j).flatMap allW = pre at *
      have S2 : TmS (R ++ pre.foldl (addT R) []) := tms_fold (F := []) (by rw [List.append_nil]; exact S) (fun u m => tmP u (pre_in u m)) fun u m z hz => by
        obtain ⟨t', h1, h2, h3⟩ := pre_mem u m
        exact h3 z (allW_closed t' h1 u h2 z hz)
      have skip : t ∈ R ++ pre.foldl (addT R) [] → RbI w H H'' F R fr (pre ++ allW t) := fun m => by
        refine ⟨I.same, I.dict, ?_⟩
        rw [List.foldl_append, fold_same S2.tm (allW t) (allW_tm t tt) fun u q => allW_of S2.closed t tt m u q]
        exact I.rk
      have isk := tt.isk rt'
      have kr' := kr.imp fun _ _ a => a.wk (Wk.same I.same)
      have okK : IsN w H'' k kfr := ⟨.inl (I.same _ _ hk), rank_keys kr'⟩
      have okF : IsN w H'' F fr := ⟨.inl I.dict, rank_keys I.rk⟩
      refine ⟨_, rfl, _, rfl, k, kfr, t.nk, rfl, okK, isk, _, rfl, ?_⟩
      rw [rank_val kr t]
      by_cases hR : hasT R t = true
      · rw [hR]
        refine iteF (iteF ?_)
        refine ⟨_, _, fr, rfl, ?_, hp1'⟩
        rw [nextE]
        exact skip (List.mem_append.mpr (.inl ((hasT_iff tmR tt).mp hR)))
      rw [Bool.eq_false_iff.mpr hR]
      refine iteT ⟨_, rfl, _, rfl, F, fr, t.nk, rfl, okF, isk, _, rfl, ?_⟩
      rw [rank_val I.rk t]
      by_cases hF' : hasT (pre.foldl (addT R) []) t = true
      · rw [hF']
        refine iteF ?_
        refine ⟨_, _, fr, rfl, ?_, hp1'⟩
        rw [nextE]
        exact skip (List.mem_append.mpr (.inr ((hasT_iff (fun u m => S2.tm u (List.mem_append.mpr (.inr m))) tt).mp hF')))
      rw [Bool.eq_false_iff.mpr hF']
      refine iteT ?_
      clear skip
      obtain ⟨sh, dp, sz⟩ := within_iff.mp tt
      refine ⟨_, rfl, v, t, false, rfl, within_hgt tt, sh, by omega, rt', fun q2 H2 zs s2 np2 h2 rz => ?_⟩
      have I2 := I.same' s2
      have hp2 := s2 _ _ hp1'
      have zl := rz.length
      refine ⟨q2, rfl, ⟨zs, SqL.of h2⟩, for_it (walk_list (xs := zs)) (fun n σ H' => ∃ y3 fr, σ = [some (.ref p), some (.ref k), some (.ref l), some (.ref F), some (.ref a), some v, y3] ∧ RbI w H H' F R fr (pre ++ (allW t).take n) ∧ Bt F H2 H')
        ⟨_, fr, rfl, by rw [List.take_zero, List.append_nil]; exact I2, Bt.refl⟩ (fun n σ H' _ h' => ?_) (fun n u σ H' H3 hn h' yy => ?_) (fun σ H' h' => ?_)⟩
      · obtain ⟨_, _, _, _, bt⟩ := h'
        exact SqL.of (bt _ _ h2 (ne_of h2 I2.dict fun e => nomatch e))
      · obtain ⟨y3, fr, rfl, I3, bt⟩ := h'
        obtain ⟨rfl, hu⟩ := yy
        obtain ⟨u', eu, ru⟩ := rz.get' hu
        have mu := List.mem_of_getElem? eu
        have tu := allW_tm t tt u' mu
        have ru3 := ru.wk (bt.wkN I2.dict)
        have isku := tu.isk ru3
        have kr3 := kr.imp fun _ _ a => a.wk (Wk.same I3.same)
        have stepE : (pre ++ (allW t).take (n + 1)).foldl (addT R) [] = addT R ((pre ++ (allW t).take n).foldl (addT R) []) u' := by
          rw [List.take_add_one, eu, ← List.append_assoc, List.foldl_append]
          rfl
        refine ⟨_, rfl, _, rfl, k, kfr, u'.nk, rfl, ⟨.inl (I3.same _ _ hk), rank_keys kr3⟩, isku, _, rfl, ?_⟩
        rw [rank_val kr u']
        by_cases hRu : hasT R u' = true
        · rw [hRu]
          refine iteF ⟨_, fr, rfl, ⟨I3.same, I3.dict, ?_⟩, bt⟩
          rw [stepE]
          unfold addT
          rw [if_pos hRu]
          exact I3.rk
        rw [Bool.eq_false_iff.mpr hRu]
        refine iteT ⟨_, rfl, u, u', rfl, ru3, tu.pat, fun q3 H5 s5 h5 => ?_⟩
        have I5 := I3.same' s5
        have ru5 := ru3.wk (Wk.same s5)
        have few : fr.length ≤ 200 := by
          rw [I5.rk.len]
          refine Nat.le_trans (few_in (G := G) ?_ fun z m => ?_) g200
          · have := fold_nd (K := R) (pre ++ (allW t).take n) [] (by rw [List.append_nil]; exact S.nd)
            rw [List.map_append] at this
            exact (List.nodup_append.mp this).2.1
          · have tmX : ∀ x ∈ pre ++ (allW t).take n, tm x := fun x m => (List.mem_append.mp m).elim (fun m => tmP x (pre_in x m)) fun m => allW_tm t tt x (List.mem_of_mem_take m)
            rcases (fold_mem tmR _ [] (fun _ q => absurd q List.not_mem_nil) tmX z).mp m with m | ⟨m, _⟩
            · exact absurd m List.not_mem_nil
            · exact gall z ((List.mem_append.mp m).elim (pre_in z) fun m => in2 z (List.mem_of_mem_take m))
        refine ⟨_, rfl, _, rfl, F, fr, u'.nk, rfl, I5.dict, rank_keys I5.rk, tu.isk ru5, small1000 (by omega), ?_⟩
        have wk6 : Wk H5 (upd H5 F (DN w F (putM fr u'.nk u (.ref q3)))) := (Bt.upd (x := F) (DN w F (putM fr u'.nk u (.ref q3)))).wkN I5.dict
        refine ⟨_, putM fr u'.nk u (.ref q3), rfl, ⟨Same.mut I5.same hF, upd_same, ?_⟩, (bt.trans (Bt.of s5)).trans (Bt.upd _)⟩
        rw [stepE]
        unfold addT
        rw [if_neg hRu]
        exact rank_put (I5.rk.imp fun _ _ a => a.wk wk6) ⟨tu, rfl, ru5.wk wk6, q3, rfl, wk6.tup _ _ h5⟩
      · obtain ⟨y3, fr, rfl, I3, bt⟩ := h'
        rw [zl, List.take_length] at I3
        refine ⟨_, _, fr, rfl, ?_, bt _ _ hp2 (ne_of hp2 I2.dict fun e => nomatch e)⟩
        rw [nextE]
        exact I3
    · obtain ⟨y2, y3, fr, rfl, I, _⟩ := h'
      refine ⟨_, _, _, fr, rfl, ?_⟩
      rw [vl, List.take_length] at I
      rw [List.take_add_one, er]
      have : partsD (ds.take i ++ (some r).toList) = partsD (ds.take i) ++ r.2.flatMap allW := by
        unfold partsD
        rw [List.flatMap_append]
        show _ ++ (r.2.flatMap allW ++ []) = _
        rw [List.append_nil]
      rw [this]
      exact I
  · obtain ⟨y1, y2, y3, fr, rfl, I⟩ := h'
    rw [dl, List.take_length] at I
    exact ⟨_, rfl, q F H' fr I.same hF I.dict I.rk⟩
end
end Kt
namespace Kt
open PySem PySem.Spec PyProof.Rows L2
/-! ### the tellings by their numbers -/
def deedOk (r : Deed) : Prop := (∀ t ∈ r.2, tm t) ∧ ((r.1 = "put" ∧ r.2.length = 1) ∨ ((r.1 = "like" ∨ r.1 = "unlike") ∧ r.2.length = 2))
theorem deedOk.ok {r : Deed} (h : deedOk r) : okD r := ⟨h.1, by rcases h.2 with ⟨_, e⟩ | ⟨_, e⟩ <;> omega⟩
def telling (r : Deed) : Bool := decide (r.1 ≠ ("put" : Str))
theorem deedOk.two {r : Deed} (h : deedOk r) (t : telling r = true) : r.2.length = 2 := by
  rcases h.2 with ⟨e, _⟩ | ⟨_, e⟩
  · unfold telling at t
    rw [e] at t
    exact absurd t (by decide)
  · exact e
def tellsD (ds : List Deed) : List Deed := ds.filter telling
def numd (z : Str) : Nat → List Deed → List (Nat × Deed)
  | _, [] => []
  | n, r :: rs => if r.1 = z then (n, r) :: numd z (n + 1) rs else numd z (n + 1) rs
theorem numd_app (z : Str) : ∀ (n : Nat) (l : List Deed) (r : Deed), numd z n (l ++ [r]) = numd z n l ++ (if r.1 = z then [(n + l.length, r)] else [])
  | n, [], r => by
    show (if r.1 = z then _ else _) = _
    by_cases e : r.1 = z
    · rw [if_pos e, if_pos e]
      rfl
    · rw [if_neg e, if_neg e]
      rfl
  | n, s :: l, r => by
    show (if s.1 = z then _ else _) = (if s.1 = z then _ else _) ++ _
    have ih := numd_app z (n + 1) l r
    rw [show n + 1 + l.length = n + (s :: l).length by rw [List.length_cons]; omega] at ih
    by_cases e : s.1 = z
    · rw [if_pos e, if_pos e, List.cons_append, ← ih]
      rfl
    · rw [if_neg e, if_neg e, ← ih]
      rfl
theorem numd_lt (z : Str) : ∀ (n : Nat) (l : List Deed), ∀ p ∈ numd z n l, n ≤ p.1 ∧ p.1 < n + l.length ∧ p.2 ∈ l
  | _, [], _, h => absurd h List.not_mem_nil
  | n, s :: l, p, h => by
    have h : p ∈ (if s.1 = z then (n, s) :: numd z (n + 1) l else numd z (n + 1) l) := h
    rw [List.length_cons]
    have ih := fun q => numd_lt z (n + 1) l p q
    split at h
    · rcases List.mem_cons.mp h with q | q
      · rw [q]
        exact ⟨Nat.le_refl _, by show n < _; omega, List.mem_cons_self⟩
      · obtain ⟨a, b, c⟩ := ih q
        exact ⟨by omega, by omega, List.mem_cons_of_mem _ c⟩
    · obtain ⟨a, b, c⟩ := ih h
      exact ⟨by omega, by omega, List.mem_cons_of_mem _ c⟩
theorem numd_len (z : Str) : ∀ (n : Nat) (l : List Deed), (numd z n l).length ≤ l.length
  | _, [] => Nat.le_refl _
  | n, s :: l => by
    show (if s.1 = z then _ else _ : List (Nat × Deed)).length ≤ _
    have ih := numd_len z (n + 1) l
    split
    · rw [List.length_cons, List.length_cons]
      omega
    · rw [List.length_cons]
      omega
def pairOf (r : Deed) : Th × Th := (r.2.getD 0 .non, r.2.getD 1 .non)
def NumAt (H : Hp) (kv : Key × V) (p : Nat × Deed) : Prop := kv.1 = .inl (p.1 : Nat) ∧ TPairAt H kv.2 (pairOf p.2)
theorem TPairAt.wk {H H' : Hp} {v : V} {p : Th × Th} (h : TPairAt H v p) (k : Wk H H') : TPairAt H' v p := by
  obtain ⟨b, v1, v2, e, h1, h2, h3⟩ := h
  exact ⟨b, v1, v2, e, k.tup _ _ h1, h2.wk k, h3.wk k⟩
def wbF (d u t r g l : Addr) : List (Str × V) := [("deeds", .ref d), ("undone", .ref u), ("tellings", .ref t), ("ranks", .ref r), ("rising", .ref g), ("likeness", .ref l)]
def sp_num (C : Addr) (z0 : Option Str) : Sp := fun vs H Q _ => ∃ (p t dx d u g r l : Addr) (z : Str) (tv : List V) (ts : List Deed), vs = (match z0 with | none => [.ref p, .str z] | some _ => [.ref p]) ∧ (∀ y, z0 = some y → z = y) ∧ H p = some (.ins C dx (wbF d u t r g l)) ∧ H t = some (.lst tv) ∧ A2 (DeedAt H) tv ts ∧ (∀ r ∈ ts, r.2.length = 2) ∧ ts.length ≤ 200 ∧
  ∀ D H' kvs, Same H H' → H D = none → H' D = some (.dK kvs) → A2 (NumAt H') kvs (numd z 1 ts) → Q (.ref D) H'
theorem putK_out {kvs : List (Key × V)} {k : Key} {v : V} (h : ∀ kv ∈ kvs, kv.1 ≠ k) : putK kvs k v = kvs ++ [(k, v)] := by
  unfold putK
  rw [if_neg]
  intro z
  obtain ⟨kv, m, e⟩ := List.any_eq_true.mp z
  exact h kv m (of_decide_eq_true e)
theorem wk_dK {H : Hp} {a : Addr} {kvs : List (Key × V)} (h : H a = some (.dK kvs)) (kvs' : List (Key × V)) : Wk H (upd H a (.dK kvs')) :=
  ⟨fun b xs z => by rw [upd_ne (ne_of z h fun e => nomatch e)]; exact z, fun b xs z => ⟨xs, by rw [upd_ne (ne_of z h fun e => nomatch e)]; exact z⟩, fun b xs z => by
    by_cases e : b = a
    · subst e
      exact ⟨kvs', upd_same⟩
    · exact ⟨xs, by rw [upd_ne e]; exact z⟩⟩
section
variable {P : Program} {w : World} {K : PySem.W.Frag} {mg : Str → Option Value} {base : Heap}
theorem c_Web__numbered (T : Tx K mg) : ClM P w K mg base CX0 1 (clsA mg "Web") "_numbered" ["self", "word"] (sp_num (clsA mg "Web") none) := by
  refine ClM.mk0 T.d_Web__numbered sc_Web__numbered (fun vs H Q E h => ?_) (fun f cdv A outer s H vs Q E hr h => ?_)
  · obtain ⟨p, t, dx, d, u, g, r, l, z, tv, ts, rfl, _⟩ := h
    rfl
  obtain ⟨p, t, dx, d, u, g, r, l, z, tv, ts, rfl, _, hp, ht, hd, two, few, q⟩ := h
  refine ⟨_, (pss_one (ps_ret (pe_dc (own := [("at", 2), ("row", 3)]) (g := gTup K 2 (gCons (gName 2) (gCons (gName 3) (gNil)))) rfl sc_Web__numbered.nd (pi_enumK (by rfl) T.z_enumerate (pe_fld (pv 0) rfl) pe_int) (blkOk_by (own := [("at", 2), ("row", 3)]) (N := ["self", "word", "at", "row"]) (sc := defScope s_Web__numbered) (by decide +kernel)) (fun _ _ _ _ _ => (pg_tup rfl (pgs_cons (pg_name (i := 2) sc_Web__numbered.nd rfl (Or.inl rfl)) (pgs_cons (pg_name (i := 3) sc_Web__numbered.nd rfl (Or.inl rfl)) pgs_nil)))) (fun _ _ _ _ _ => (pts_one (pt_cmpR op_eq (pe_ix (r := rIxT K) ix_tup (pv 3) pe_int (fun _ _ => rfl)) (pv 1) (nomark _)))) (fun _ _ _ _ _ => (pv 2)) (fun _ _ _ _ _ => (pe_tup (pa_cons (pe_ix (r := rIxT K) ix_tup (pv 3) pe_int (fun _ _ => rfl)) (pa_cons (pe_ix (r := rIxT K) ix_tup (pv 3) pe_int (fun _ _ => rfl)) pa_nil))))))), ?_⟩
  have tl := hd.len
  have cl := T.c_Web.c
  refine ⟨_, rfl, p, _, dx, _, _, rfl, hp, cl, T.n_Web_tellings, rfl, t, tv, 1, rfl, rfl, by decide, by decide, SqL.of ht, fun F hF => dc_it (walk_enumK (xs := tv)) (fun i H' => Same H H' ∧ ∃ kvs, H' F = some (.dK kvs) ∧ A2 (NumAt H') kvs (numd z 1 (ts.take i)))
    ⟨same_new hF _, [], upd_same, .nil⟩ (fun i H' _ h' => SqL.of (h'.1 _ _ ht)) (fun i v H' H'' hi h' yy => ?_) (fun H1 h1 => ?_)⟩
  · obtain ⟨s1, kvs, hk, nums⟩ := h'
    obtain ⟨Tt, x, rfl, hT, rfl, hx⟩ := yy
    obtain ⟨r', er, a, vs, rfl, ha, rvs⟩ := hd.get hx
    have sT := same_new (o := .tup [.int (1 + (i : Nat)), .ref a]) hT
    have hk' := sT _ _ hk
    have ha' := sT _ _ (s1 _ _ ha)
    have l2 := two r' (List.mem_of_getElem? er)
    refine ⟨Tt, _, rfl, SqT.of upd_same, rfl, _, _, rfl, _, _, rfl, rfl, ?_⟩
    have two2 : ∀ l : List Th, l.length = 2 → ∃ a b, l = [a, b] := fun l h => by
      match l, h with
      | [a, b], _ => exact ⟨a, b, rfl⟩
    obtain ⟨h0, args⟩ := r'
    obtain ⟨t1, t2, e2⟩ := two2 _ l2
    dsimp only at e2
    subst e2
    obtain ⟨v1, v2, rfl, r1, r2⟩ : ∃ v1 v2, vs = [v1, v2] ∧ Rep H v1 t1 ∧ Rep H v2 t2 := by
      cases rvs with
      | cons a b =>
        cases b with
        | cons c d =>
          cases d
          exact ⟨_, _, rfl, a, c⟩
    have takeE : ts.take (i + 1) = ts.take i ++ [(h0, [t1, t2])] := by
      rw [List.take_add_one, er]
      rfl
    have il : (ts.take i).length = i := by
      rw [List.length_take]
      omega
    refine ⟨rfl, ⟨_, rfl, a, _, 0, .str h0, rfl, rfl, SqT.of ha', rfl, _, rfl, rfl, _, rfl, ?_⟩⟩
    by_cases e : h0 = z
    · subst e
      refine (if_pos (decide_eq_true rfl)).mpr ⟨_, rfl, _, rfl, a, _, 1, v1, rfl, rfl, SqT.of ha', rfl, _, rfl, a, _, 2, v2, rfl, rfl, SqT.of ha', rfl, by show 2 ≤ sizeLine; decide, fun p2 hp2 => ?_⟩
      have s2 := same_new (o := .tup [v1, v2]) hp2
      have hk2 := s2 _ _ hk'
      have kl := nums.len
      have kl2 := numd_len h0 1 (ts.take i)
      have out : putK kvs (.inl (1 + (i : Nat))) (.ref p2) = kvs ++ [(.inl (1 + (i : Nat)), .ref p2)] := putK_out fun kv m => by
        obtain ⟨pp, mp, ep⟩ := nums.memL m
        obtain ⟨_, lt, _⟩ := numd_lt _ _ _ pp mp
        rw [ep.1]
        intro z
        injection z with z
        omega
      have w2 : Wk _ (upd (upd (upd H' Tt (.tup [.int (1 + (i : Nat)), .ref a])) p2 (.tup [v1, v2])) F (.dK (kvs ++ [(.inl (1 + (i : Nat)), .ref p2)]))) := wk_dK hk2 _
      have w1 := (Wk.same (sT.trans s2)).trans w2
      refine ⟨kvs, .inl (1 + (i : Nat)), rfl, hk2, small1000 (by omega), Same.mut ((s1.trans sT).trans s2) hF, _, upd_same, ?_⟩
      rw [takeE, numd_app, if_pos rfl, il, out]
      refine (nums.imp fun _ _ a => ⟨a.1, a.2.wk w1⟩).app (.cons ⟨?_, p2, v1, v2, rfl, w2.tup _ _ upd_same, (r1.wk (Wk.same s1)).wk w1, (r2.wk (Wk.same s1)).wk w1⟩ .nil)
      show (Sum.inl (1 + (i : Int)) : Key) = .inl ((1 + i : Nat) : Int)
      congr 1
    · have ne : decide (V.str h0 = V.str z) = false := decide_eq_false fun q => e (by injection q)
      rw [ne]
      refine (if_neg (by decide)).mpr ⟨s1.trans sT, kvs, hk', ?_⟩
      rw [takeE, numd_app, if_neg e, List.append_nil]
      exact nums.imp fun _ _ a => ⟨a.1, a.2.wk (Wk.same sT)⟩
  · obtain ⟨s1, kvs, hk, nums⟩ := h1
    rw [tl, List.take_length] at nums
    exact q F H1 kvs s1 hF hk nums
theorem c_Web_told (T : Tx K mg) : ClM P w K mg base CX0 2 (clsA mg "Web") "told" ["self"] (sp_num (clsA mg "Web") (some "like")) := by
  refine ClM.mk0 T.d_Web_told sc_Web_told (fun vs H Q E h => ?_) (fun f cdv A outer s H vs Q E hr h => ?_)
  · obtain ⟨p, t, dx, d, u, g, r, l, z, tv, ts, rfl, _⟩ := h
    rfl
  obtain ⟨p, t, dx, d, u, g, r, l, z, tv, ts, rfl, ez, hp, ht, hd, two, few, q⟩ := h
  cases ez _ rfl
  refine ⟨_, (pss_one (ps_ret (pe_mm T.c_Web.c (c_Web__numbered T) hr (by omega) (pv 0) (pa_cons (pe_glob (v := .str "like") (by rfl) T.m_LIKE.choose_spec ⟨_, rfl⟩) pa_nil)))), ?_⟩
  exact ⟨_, rfl, p, dx, _, rfl, hp, rfl, p, t, dx, d, u, g, r, l, "like", tv, ts, rfl, (fun _ e => nomatch e), hp, ht, hd, two, few, q⟩
end
end Kt
namespace Kt
open PySem PySem.Spec PyProof.Rows L2
/-! ### terms where only tuples stand -/
def TK (H H' : Hp) : Prop := ∀ a xs, H a = some (.tup xs) → H' a = some (.tup xs)
mutual
theorem rep_tk {H H' : Hp} (k : TK H H') {b : Bool} : ∀ (t : Th) (v : V), t.shape b = true → Rep H v t → Rep H' v t
  | .str z, _, _, r => by
    cases r with
    | str z h ok => exact .str z h ok
  | .tup [], _, h, _ => by cases h
  | .tup (x :: ps), _, h, r => by
    have h : (decide (ps.length < 4) && (x.word 8 && shapeL b ps)) = true := h
    simp only [Bool.and_eq_true, decide_eq_true_eq] at h
    cases x with
    | str z =>
      cases r with
      | tup ha hn hl =>
        cases hl with
        | cons hx hps =>
          cases hx with
          | str z h1 ok => exact .tup (k _ _ ha) hn (.cons (.str z h1 ok) (repL_tk k ps _ h.2.2 hps))
    | _ => cases h.2.1
  | .non, _, h, _ | .bl _, _, h, _ | .int _, _, h, _ | .ls, _, h, _ | .dc, _, h, _ => by cases h
theorem repL_tk {H H' : Hp} (k : TK H H') {b : Bool} : ∀ (l : List Th) (vs : List V), shapeL b l = true → RepL H vs l → RepL H' vs l
  | [], _, _, r => by
    cases r
    exact .nil
  | p :: ps, _, h, r => by
    have h : (p.shape b && shapeL b ps) = true := h
    rw [Bool.and_eq_true] at h
    cases r with
    | cons h1 h2 => exact .cons (rep_tk k p _ h.1 h1) (repL_tk k ps _ h.2 h2)
end
theorem reps_tk {H H' : Hp} (k : TK H H') : ∀ {l : List Th} {vs : List V}, (∀ t ∈ l, tm t) → RepL H vs l → RepL H' vs l
  | [], _, _, r => by
    cases r
    exact .nil
  | t :: l, _, h, r => by
    cases r with
    | cons h1 h2 => exact .cons (rep_tk k t _ (h t List.mem_cons_self).shape h1) (reps_tk k (fun u m => h u (List.mem_cons_of_mem _ m)) h2)
theorem DeedAt.tk {H H' : Hp} {v : V} {r : Deed} (h : DeedAt H v r) (o : ∀ t ∈ r.2, tm t) (k : TK H H') : DeedAt H' v r := by
  obtain ⟨a, vs, e, h1, h2⟩ := h
  exact ⟨a, vs, e, k _ _ h1, reps_tk k o h2⟩
theorem RankAt.tk {H H' : Hp} {x : RowV} {t : Th} (h : RankAt H x t) (k : TK H H') : RankAt H' x t := by
  obtain ⟨h1, h2, h3, a, e, h4⟩ := h
  exact ⟨h1, h2, rep_tk k t _ h1.shape h3, a, e, k _ _ h4⟩
theorem deeds_tk {H H' : Hp} (k : TK H H') : ∀ {vs : List V} {ds : List Deed}, A2 (DeedAt H) vs ds → (∀ r ∈ ds, ∀ t ∈ r.2, tm t) → A2 (DeedAt H') vs ds
  | _, _, .nil, _ => .nil
  | _, _, .cons a t, h => .cons (a.tk (h _ List.mem_cons_self) k) (deeds_tk k t fun r m => h r (List.mem_cons_of_mem _ m))
theorem ranks_tk {H H' : Hp} (k : TK H H') {fr : List RowV} {R : List Th} (h : A2 (RankAt H) fr R) : A2 (RankAt H') fr R := h.imp fun _ _ a => a.tk k
/-! ### the web's own heap, hidden -/
def noTb (o : HO) : Prop := ∀ ps, o ≠ .tbl ps
/-- the heap without these objects and without tables -/
def hidW (M : List Addr) (H : Hp) : Hp := fun a => if a ∈ M then none else match H a with
  | some (.tbl _) => none
  | o => o
theorem hidW_out {M : List Addr} {H : Hp} {a : Addr} {o : HO} (h : hidW M H a = some o) : H a = some o ∧ a ∉ M ∧ noTb o := by
  unfold hidW at h
  split at h
  · cases h
  · rename_i n
    split at h
    · cases h
    · rename_i q
      exact ⟨h, n, fun ps e => q ps (by rw [h, e])⟩
theorem hidW_in {M : List Addr} {H : Hp} {a : Addr} {o : HO} (h : H a = some o) (n : a ∉ M) (t : noTb o) : hidW M H a = some o := by
  unfold hidW
  rw [if_neg n, h]
  split
  · rename_i ps e
    exact absurd (Option.some.inj e) (t ps)
  · rfl
/-- all but the objects of M and tables stands, and is not in M' -/
def FrM (M M' : List Addr) (H H' : Hp) : Prop := ∀ b o, H b = some o → noTb o → b ∉ M → b ∉ M' ∧ H' b = some o
theorem FrM.refl (M : List Addr) (H : Hp) : FrM M M H H := fun _ _ h _ n => ⟨n, h⟩
theorem FrM.trans {M M1 M2 : List Addr} {H H1 H2 : Hp} (a : FrM M M1 H H1) (b : FrM M1 M2 H1 H2) : FrM M M2 H H2 := fun c o h t n =>
  let ⟨n1, h1⟩ := a c o h t n
  b c o h1 t n1
theorem FrM.same {M M' : List Addr} {H H' : Hp} (f : FrM M M' H H') : Same (hidW M H) (hidW M' H') := fun a o h => by
  obtain ⟨h1, n, t⟩ := hidW_out h
  obtain ⟨n', h'⟩ := f a o h1 t n
  exact hidW_in h' n' t
theorem FrM.plus {M M' : List Addr} {H H' : Hp} (f : FrM M M' H H') (N : List Addr) : FrM (M ++ N) (M' ++ N) H H' := fun b o e t n => by
  rw [List.mem_append, not_or] at n
  obtain ⟨n1, h⟩ := f b o e t n.1
  exact ⟨fun m => (List.mem_append.mp m).elim n1 n.2, h⟩
theorem FrM.of {M : List Addr} {H H' : Hp} (s : Same H H') : FrM M M H H' := fun b o h _ n => ⟨n, s b o h⟩
/-- these stand, and are neither tuples nor tables -/
def Mok (M : List Addr) (H : Hp) : Prop := ∀ b ∈ M, ∃ o, H b = some o ∧ noTb o ∧ ∀ xs, o ≠ .tup xs
theorem Mok.tup {M : List Addr} {H : Hp} (k : Mok M H) {a : Addr} {xs : List V} (h : H a = some (.tup xs)) : a ∉ M := fun m => by
  obtain ⟨o, e, _, n⟩ := k a m
  rw [h] at e
  exact n xs (Option.some.inj e).symm
theorem Mok.hid {M : List Addr} {H : Hp} (k : Mok M H) {a : Addr} {xs : List V} (h : H a = some (.tup xs)) : hidW M H a = some (.tup xs) := hidW_in h (k.tup h) fun _ e => nomatch e
theorem Mok.fr {M M' N : List Addr} {H H' : Hp} (f : FrM M M' H H') (nn : Mok N H) (nd : ∀ b ∈ N, b ∉ M) : Mok N H' ∧ ∀ b ∈ N, b ∉ M' :=
  ⟨fun b m => let ⟨o, e, t, n⟩ := nn b m; ⟨o, (f b o e t (nd b m)).2, t, n⟩, fun b m => let ⟨o, e, t, _⟩ := nn b m; (f b o e t (nd b m)).1⟩
/-- a dict of terms is no code object -/
theorem dn_code {w : World} {a c : Addr} {xs : List RowV} {q : Str} : DN w a xs ≠ LamX.CodeO c q := fun e => by
  have f : DNok w xs a = _ := HO.ext.inj e
  have g := congrFun f { objs := Array.replicate (c + 1) { cls := .none, data := .fields #[.none, .str q 0] } }
  have hg : Heap.get? { objs := Array.replicate (c + 1) { cls := .none, data := .fields #[.none, .str q 0] } } c = some { cls := .none, data := .fields #[.none, .str q 0] } := by
    unfold Heap.get?
    rw [show (Array.replicate (c + 1) ({ cls := .none, data := .fields #[.none, .str q 0] } : Obj))[c]? = some { cls := .none, data := .fields #[.none, .str q 0] } by rw [Array.getElem?_replicate, if_pos (Nat.lt_succ_self c)]]
  have : DNok w xs a { objs := Array.replicate (c + 1) { cls := .none, data := .fields #[.none, .str q 0] } } := by
    rw [g]
    exact ⟨_, _, _, hg, rfl, rfl⟩
  obtain ⟨_, _, ys, _, _, o, es, ep, ho, _, hd, _⟩ := this
  unfold Heap.get? at ho
  dsimp only at ho
  by_cases z : a < c + 1
  · rw [Array.getElem?_replicate, if_pos z] at ho
    cases ho
    cases hd
  · rw [Array.getElem?_replicate, if_neg z] at ho
    cases ho
/-- what holds the tables -/
def tabO (o : HO) : Prop := (∃ ps, o = .tbl ps) ∨ ∃ c q, o = LamX.CodeO c q
theorem tabs_keep {T : List (Addr × Str)} {H H' : Hp} (t : LamX.Tabs T H) (k : ∀ b o, H b = some o → tabO o → H' b = some o) : LamX.Tabs T H' := fun p hp => by
  obtain ⟨ps, h1, h2, h3⟩ := t p hp
  refine ⟨ps, k _ _ h1 (.inl ⟨_, rfl⟩), h2, fun pos cv hc => ?_⟩
  obtain ⟨c, e1, e2⟩ := h3 pos cv hc
  exact ⟨c, e1, k _ _ e2 (.inr ⟨_, _, rfl⟩)⟩
theorem tabO.ins {o : HO} (t : tabO o) {C dx : Addr} {fs : List (Str × V)} : o ≠ .ins C dx fs := fun e => by
  subst e
  rcases t with ⟨_, z⟩ | ⟨_, _, z⟩ <;> cases z
theorem tabO.lst {o : HO} (t : tabO o) {xs : List V} : o ≠ .lst xs := fun e => by
  subst e
  rcases t with ⟨_, z⟩ | ⟨_, _, z⟩ <;> cases z
theorem tabO.dn {o : HO} (t : tabO o) {w : World} {a : Addr} {xs : List RowV} : o ≠ DN w a xs := fun e => by
  rcases t with ⟨_, z⟩ | ⟨_, _, z⟩
  · rw [z] at e
    cases e
  · exact dn_code (e.symm.trans z)
theorem LkAt.to {w : World} {C : Addr} {H H' : Hp} {x b3 b4 b5 : Addr} {ts : List Th} {E : List (Nat × Nat)} {L : List Nat} (k : LkAt w C H x b3 b4 b5 ts E L) (hx : ∀ o, H x = some o → noTb o → H' x = some o) (h3 : ∀ o, H b3 = some o → noTb o → H' b3 = some o) (h4 : ∀ o, H b4 = some o → noTb o → H' b4 = some o) (h5 : ∀ o, H b5 = some o → noTb o → H' b5 = some o) (ht : ∀ a xs, H a = some (.tup xs) → H' a = some (.tup xs)) : LkAt w C H' x b3 b4 b5 ts E L := by
  obtain ⟨⟨dx, a1, a2, e⟩, hl, ⟨fr, s⟩, hd, low⟩ := k
  exact ⟨⟨dx, a1, a2, hx _ e fun _ z => (nomatch z)⟩, h3 _ hl fun _ z => (nomatch z), ⟨fr, ⟨h4 _ s.dict fun _ z => (nomatch z), s.keys.wk ht, s.few, s.all, s.from_⟩⟩, h5 _ hd fun _ z => (nomatch z), low⟩
theorem LkAt.same {w : World} {C : Addr} {H H' : Hp} {x b3 b4 b5 : Addr} {ts : List Th} {E : List (Nat × Nat)} {L : List Nat} (k : LkAt w C H x b3 b4 b5 ts E L) (s : Same H H') : LkAt w C H' x b3 b4 b5 ts E L := k.to (fun _ e _ => s _ _ e) (fun _ e _ => s _ _ e) (fun _ e _ => s _ _ e) (fun _ e _ => s _ _ e) fun _ _ h => s _ _ h
/-! ### the terms in their order -/
def ordT (t : Th) : Int × Str := (t.size, t.wr)
def leT : Th → Th → Bool := PySem.W.dataLe false fun t => kdP (ordT t)
def risT (R : List Th) : List Th := R.mergeSort leT
theorem risT_mem {R : List Th} {t : Th} : t ∈ risT R ↔ t ∈ R := (List.mergeSort_perm R leT).mem_iff
theorem risT_tms {R : List Th} (S : TmS R) : TmS (risT R) := by
  have p := List.mergeSort_perm R leT
  exact ⟨fun t m => S.tm t (risT_mem.mp m), (p.map Th.nk).nodup_iff.mpr S.nd, fun t m q hq => risT_mem.mpr (S.closed t (risT_mem.mp m) q hq)⟩
theorem risT_len (R : List Th) : (risT R).length = R.length := List.length_mergeSort R
def keyR (x : RowV) : Int × Str := ordT (thOf x.1)
theorem rank_map {H : Hp} {fr : List RowV} {R : List Th} (h : A2 (RankAt H) fr R) : fr.map (fun x => thOf x.1) = R := by
  induction h with
  | nil => rfl
  | cons a _ ih => rw [List.map_cons, ih, a.2.1, a.1.back]
theorem rank_reps {H : Hp} : ∀ {fr : List RowV}, (∀ x ∈ fr, RankAt H x (thOf x.1)) → RepL H (fr.map (·.2.1)) (fr.map fun x => thOf x.1)
  | [], _ => .nil
  | x :: xs, h => .cons (h x List.mem_cons_self).2.2.1 (rank_reps fun y m => h y (List.mem_cons_of_mem _ m))
theorem rank_each {H : Hp} {fr : List RowV} {R : List Th} (h : A2 (RankAt H) fr R) : ∀ x ∈ fr, RankAt H x (thOf x.1) := fun x m => by
  obtain ⟨t, _, a⟩ := h.memL m
  rw [a.2.1, a.1.back]
  exact a
theorem rank_sort {H : Hp} {fr : List RowV} {R : List Th} (h : A2 (RankAt H) fr R) : RepL H ((fr.mergeSort (PySem.W.dataLe false fun r => kdP (keyR r))).map (·.2.1)) (risT R) := by
  have e : risT R = (fr.mergeSort (PySem.W.dataLe false fun r => kdP (keyR r))).map fun x => thOf x.1 := by
    unfold risT
    rw [← rank_map h]
    exact (List.map_mergeSort (r := PySem.W.dataLe false fun r => kdP (keyR r)) (s := leT) (f := fun x : RowV => thOf x.1) (l := fr) fun a _ b _ => rfl).symm
  rw [e]
  exact rank_reps fun x m => rank_each h x ((List.mergeSort_perm _ _).mem_iff.mp m)
theorem rank_at {H : Hp} {fr : List RowV} {R : List Th} (h : A2 (RankAt H) fr R) (nd : (R.map Th.nk).Nodup) : ∀ x ∈ fr, valM fr x.1 = some x.2.2 := by
  induction h with
  | nil => exact fun x m => absurd m List.not_mem_nil
  | @cons y ys t ts a g ih =>
    rw [List.map_cons, List.nodup_cons] at nd
    intro x m
    rw [valM_cons]
    rcases List.mem_cons.mp m with q | q
    · rw [if_pos (by rw [q]), q]
    · obtain ⟨u, mu, b⟩ := g.memL q
      rw [if_neg, ih nd.2 x q]
      intro e
      rw [a.2.1, b.2.1] at e
      exact nd.1 (List.mem_map.mpr ⟨u, mu, e.symm⟩)
/-! ### what is told to be alike -/
def likesT (ts : List Deed) : List (Th × Th) := (numd "like" 1 ts).map fun p => pairOf p.2
theorem num_pairs {H : Hp} {kvs : List (Key × V)} {ns : List (Nat × Deed)} (h : A2 (NumAt H) kvs ns) : TPairsL H (kvs.map (·.2)) (ns.map fun p => pairOf p.2) := by
  induction h with
  | nil => exact .nil
  | cons a _ ih => exact .cons a.2 ih
theorem likes_in {ts : List Deed} {R : List Th} (two : ∀ r ∈ ts, r.2.length = 2) (h : ∀ r ∈ ts, ∀ t ∈ r.2, t ∈ R) : ∀ p ∈ likesT ts, p.1 ∈ R ∧ p.2 ∈ R := fun p m => by
  obtain ⟨n, mn, rfl⟩ := List.mem_map.mp m
  obtain ⟨_, _, mr⟩ := numd_lt _ _ _ n mn
  obtain ⟨k, z, args⟩ := n
  have l2 := two _ mr
  have al := h _ mr
  match args, l2, al with
  | [a, b], _, al => exact ⟨al a List.mem_cons_self, al b (List.mem_cons_of_mem _ List.mem_cons_self)⟩
/-! ### Web._settle -/
def tabsW (tP : Addr) : List (Addr × Str) := [(tP, "Web._settle.<locals>.<lambda>")]
def sp_wset (CW CL tP : Addr) (w : World) : Sp := fun vs H Q _ => ∃ (p dx d u t r g l : Addr) (N : List Addr) (dv uv tv : List V) (ts : List Deed) (fr : List RowV) (R : List Th), vs = [.ref p] ∧ Mok N H ∧ (∀ b ∈ N, b ∉ [p, d, u, t, r]) ∧ LamX.Tabs (tabsW tP) H ∧ H p = some (.ins CW dx (wbF d u t r g l)) ∧ H d = some (.lst dv) ∧ H u = some (.lst uv) ∧ H t = some (.lst tv) ∧ A2 (DeedAt H) tv ts ∧ (∀ r ∈ ts, r.2.length = 2) ∧ ts.length ≤ 100 ∧ (∀ r ∈ ts, ∀ t ∈ r.2, t ∈ R) ∧
  H r = some (DN w r fr) ∧ A2 (RankAt H) fr R ∧ TmS R ∧ R.length ≤ 100 ∧
  ∀ H' g' l' b3 b4 b5 gv L, (∀ b o, H b = some o → noTb o → b ≠ p → H' b = some o) → LamX.Tabs (tabsW tP) H' → H' p = some (.ins CW dx (wbF d u t r g' l')) → hidW ([p, d, u, t, r] ++ N) H' g' = some (.lst gv) → RepL (hidW ([p, d, u, t, r] ++ N) H') gv (risT R) → LkAt w CL (hidW ([p, d, u, t, r] ++ N) H') l' b3 b4 b5 (risT R) (prsT (risT R) (likesT ts)) L → Q .non H'
section
variable {P : Program} {w : World} {K : PySem.W.Frag} {mg : Str → Option Value} {base : Heap} {cA tP : Addr}
theorem c_Web__settle (T : Tx K mg) (L : TxL K mg base cA tP) : ClM P w K mg base CX0 7 (clsA mg "Web") "_settle" ["self"] (sp_wset (clsA mg "Web") (clsA mg "Likeness") tP w) := by
  refine ClM.mkL L.d_Web__settle sc_Web__settle (fun vs H Q E h => ?_) (fun f A outer s H vs Q E hr h => ?_)
  · obtain ⟨p, dx, d, u, t, r, g, l, N, dv, uv, tv, ts, fr, R, rfl, _⟩ := h
    rfl
  obtain ⟨p, dx, d, u, t, r, g, l, N, dv, uv, tv, ts, fr, R, rfl, nn, nd, tb, hp, hd, hu, ht, td, two, few, tin, hr', rk, S, r100, q⟩ := h
  refine ⟨_, (pss_cons (ps_fld (pv 0) (pe_sortLam L.tb rfl (List.mem_singleton.mpr rfl) (fun z hz _ => by rw [List.mem_singleton.mp hz]) hr rfl (by rfl) T.z_sorted (pe_fld (pv 0) rfl) (lamT_by (by decide +kernel)) (j := 0) rfl rfl (by decide +kernel) (fun _ _ _ _ _ _ => rfl) rfl) rfl)
    (pss_one (ps_fld (pv 0) (pe_mkC T.c_Likeness (c_Likeness___init__ T) hr (by omega) rfl (pa_cons (pe_fld (pv 0) rfl) (pa_cons (pe_listVals rfl (pe_mm0 T.c_Web.c (c_Web_told T) hr (by omega) (pv 0)) rfl T.z_list (by decide +kernel)) pa_nil))) rfl))), ?_⟩
  have cl := T.c_Web.c
  refine ⟨_, rfl, p, _, dx, _, _, rfl, hp, cl, T.n_Web_ranks, rfl, ?_⟩
  refine ⟨tb, r, p, _, dx, _, fr, keyR, rfl, ⟨.inl hr', rank_keys rk⟩, rfl, hp, cl, T.n_Web_ranks, rfl, fun x m => ⟨rank_at rk S.nd x m, ?_⟩, fun g' H2 ext tb2 hn hg' => ?_⟩
  · obtain ⟨_, _, _, a, e, h⟩ := rank_each rk x m
    exact ⟨a, e, h⟩
  have hp2 := ext _ _ hp fun _ e => nomatch e
  have np : ∀ {b : Addr} {o : HO}, H b = some o → noTb o → b ≠ g' := fun e t => New.ne hn e t
  have tk : ∀ {a : Addr} {xs : List V}, H a = some (.tup xs) → H2 a = some (.tup xs) := fun z => ext _ _ z fun _ e => nomatch e
  have w2 : Wk H H2 := ⟨fun _ _ z => tk z, fun _ xs z => ⟨xs, ext _ _ z fun _ e => nomatch e⟩, fun _ xs z => ⟨xs, ext _ _ z fun _ e => nomatch e⟩⟩
  refine ⟨_, rfl, p, _, dx, _, rfl, hp2, cl, T.n_Web_rising, by show 6 < 1000; decide, ?_⟩
  obtain ⟨H3, eH3⟩ : ∃ H3, H3 = upd H2 p (.ins (clsA mg "Web") dx (putF "rising" (.ref g') (wbF d u t r g l))) := ⟨_, rfl⟩
  have b23 : Bt p H2 H3 := by
    rw [eH3]
    exact Bt.upd _
  have hp3 : H3 p = some (.ins (clsA mg "Web") dx (wbF d u t r g' l)) := by
    rw [eH3]
    exact upd_same
  erw [← eH3]
  have w3 : Wk H H3 := w2.trans (b23.wk hp2)
  have b13 : ∀ {b : Addr} {o : HO}, H b = some o → noTb o → b ≠ p → H3 b = some o := fun e t n => b23 _ _ (ext _ _ e t) n
  have tp : t ≠ p := ne_of ht hp fun e => nomatch e
  have ht3 := b13 ht (fun _ e => nomatch e) tp
  have gp : g' ≠ p := (np hp fun _ e => nomatch e).symm
  have hg3 := b23 _ _ hg' gp
  refine ⟨_, rfl, p, _, dx, _, _, rfl, hp3, cl, T.n_Web_rising, rfl, _, rfl, p, dx, _, rfl, hp3, rfl, p, t, dx, d, u, g', r, l, "like", tv, ts, rfl, fun y e => by cases e; rfl, hp3, ht3, td.imp fun _ _ a => a.wk w3, two, by omega, fun D H4 kvs s4 hD hk nums => ⟨D, kvs, rfl, hk, fun q5 hq5 x dx2 hx hdx nx => ?_⟩⟩
  have s5 := same_new (o := .lst (kvs.map (·.2))) hq5
  obtain ⟨H6, eH6⟩ : ∃ H6, H6 = upd (upd (upd H4 q5 (.lst (kvs.map (·.2)))) dx2 (.own x)) x (.ins (clsA mg "Likeness") dx2 []) := ⟨_, rfl⟩
  have s6 : Same (upd H4 q5 (.lst (kvs.map (·.2)))) H6 := by
    rw [eH6]
    exact (same_new hdx _).trans (same_new (by rw [upd_ne nx.symm]; exact hx) _)
  have hx6 : H6 x = some (.ins (clsA mg "Likeness") dx2 []) := by
    rw [eH6]
    exact upd_same
  erw [← eH6]
  have s36 := (s4.trans s5).trans s6
  have w36 := Wk.same s36
  have lin := likes_in two tin
  refine ⟨x, dx2, g', q5, _, _, risT R, likesT ts, rfl, hx6, s36 _ _ hg3, ((rank_sort rk).wk w3).wk w36, risT_tms S, by rw [risT_len]; exact r100, s6 _ _ upd_same, (num_pairs nums).wk (Wk.same (s5.trans s6)), ?_, fun pr m => ⟨risT_mem.mpr (lin pr m).1, risT_mem.mpr (lin pr m).2⟩, fun H7 b3 b4 b5 L7 bt lk n3 n4 n5 => ⟨rfl, ?_⟩⟩
  · have := numd_len "like" 1 ts
    unfold likesT
    rw [List.length_map]
    omega
  have hp6 := s36 _ _ hp3
  have px : p ≠ x := fun e => by
    subst e
    rw [s5 _ _ (s4 _ _ hp3)] at hx
    cases hx
  have hp7 := bt _ _ hp6 px
  refine ⟨_, rfl, p, _, dx, _, rfl, hp7, cl, T.n_Web_likeness, by show 6 < 1000; decide, ?_⟩
  obtain ⟨H8, eH8⟩ : ∃ H8, H8 = upd H7 p (.ins (clsA mg "Web") dx (putF "likeness" (.ref x) (wbF d u t r g' l))) := ⟨_, rfl⟩
  have b78 : Bt p H7 H8 := by
    rw [eH8]
    exact Bt.upd _
  have hp8 : H8 p = some (.ins (clsA mg "Web") dx (wbF d u t r g' x)) := by
    rw [eH8]
    exact upd_same
  erw [← eH8]
  -- all together
  have b38 : ∀ {b : Addr} {o : HO}, H3 b = some o → b ≠ p → H8 b = some o := fun {b o} e n => b78 _ _ (bt _ _ (s36 _ _ e) fun z => by
    subst z
    have := (s4.trans s5) _ _ e
    rw [hx] at this
    cases this) n
  have b18 : ∀ b o, H b = some o → noTb o → b ≠ p → H8 b = some o := fun b o e t n => b38 (b13 e t n) n
  have inH : ∀ b ∈ ([p, d, u, t, r] ++ N), ∃ o, H b = some o ∧ noTb o ∧ ∀ xs, o ≠ .tup xs := fun b m => by
    rcases List.mem_append.mp m with m | m
    case inr => exact nn b m
    simp only [List.mem_cons, List.not_mem_nil, or_false] at m
    rcases m with e | e | e | e | e
    · exact ⟨.ins (clsA mg "Web") dx (wbF d u t r g l), by rw [e]; exact hp, (fun _ e => nomatch e), fun _ e => nomatch e⟩
    · exact ⟨.lst dv, by rw [e]; exact hd, (fun _ e => nomatch e), fun _ e => nomatch e⟩
    · exact ⟨.lst uv, by rw [e]; exact hu, (fun _ e => nomatch e), fun _ e => nomatch e⟩
    · exact ⟨.lst tv, by rw [e]; exact ht, (fun _ e => nomatch e), fun _ e => nomatch e⟩
    · exact ⟨DN w r fr, by rw [e]; exact hr', (fun _ e => nomatch e), fun _ e => nomatch e⟩
  have inH6 : ∀ b ∈ ([p, d, u, t, r] ++ N), ∃ o, H6 b = some o := fun b m => by
    obtain ⟨o, e, t, _⟩ := inH b m
    by_cases z : b = p
    · subst z
      exact ⟨_, hp6⟩
    · exact ⟨o, s36 _ _ (b13 e t z)⟩
  have out6 : ∀ {b : Addr}, H6 b = none → b ∉ ([p, d, u, t, r] ++ N) := fun {b} e m => by
    obtain ⟨o, z⟩ := inH6 b m
    rw [e] at z
    cases z
  have gM : g' ∉ ([p, d, u, t, r] ++ N) := fun m => by
    obtain ⟨o, e, t, _⟩ := inH g' m
    exact np e t rfl
  have xM : x ∉ ([p, d, u, t, r] ++ N) := fun m => by
    obtain ⟨o, e, t, _⟩ := inH x m
    have := (s4.trans s5) _ _ (b13 e t fun z => px z.symm)
    rw [hx] at this
    cases this
  have hM8 : Mok ([p, d, u, t, r] ++ N) H8 := fun b m => by
    obtain ⟨o, e, t, n⟩ := inH b m
    by_cases z : b = p
    · subst z
      exact ⟨_, hp8, (fun _ e => nomatch e), fun _ e => nomatch e⟩
    · exact ⟨o, b18 b o e t z, t, n⟩
  have tk8 : ∀ a xs, H7 a = some (.tup xs) → hidW ([p, d, u, t, r] ++ N) H8 a = some (.tup xs) := fun a xs z => hM8.hid (b78 _ _ z (ne_of z hp7 fun e => nomatch e))
  have tabs8 : LamX.Tabs (tabsW tP) H8 := by
    refine tabs_keep (T := tabsW tP) tb2 fun b o e t => ?_
    have n1 := ne_of e hp2 t.ins
    refine b38 (b23 _ _ e n1) n1
  have m3 : b3 ∉ ([p, d, u, t, r] ++ N) := out6 n3
  have m4 : b4 ∉ ([p, d, u, t, r] ++ N) := out6 n4
  have m5 : b5 ∉ ([p, d, u, t, r] ++ N) := out6 n5
  have into : ∀ {b : Addr} {o : HO}, b ∉ ([p, d, u, t, r] ++ N) → H7 b = some o → noTb o → hidW ([p, d, u, t, r] ++ N) H8 b = some o := fun m e t => hidW_in (b78 _ _ e fun z => m (by rw [z]; exact List.mem_append_left _ List.mem_cons_self)) m t
  refine q H8 g' x b3 b4 b5 _ L7 b18 tabs8 hp8 (hidW_in (b38 hg3 gp) gM fun _ e => nomatch e) ?_ (lk.to (fun o e t => into xM e t) (fun o e t => into m3 e t) (fun o e t => into m4 e t) (fun o e t => into m5 e t) tk8)
  exact reps_tk (fun a xs z => hM8.hid (b18 _ _ z (fun _ e => nomatch e) (ne_of z hp fun e => nomatch e))) (risT_tms S).tm (rank_sort rk)
end
end Kt
namespace Kt
open PySem PySem.Spec PyProof.Rows L2
/-! ### the web by its deeds -/
theorem hasT_app (K F : List Th) (t : Th) : hasT (K ++ F) t = (hasT K t || hasT F t) := by
  unfold hasT
  rw [List.any_append]
theorem addT_nil (F : List Th) (t : Th) : addT [] F t = if hasT F t then F else F ++ [t] := rfl
theorem fold_shift (K : List Th) : ∀ (l G : List Th), l.foldl (addT []) (K ++ G) = K ++ l.foldl (addT K) G
  | [], _ => rfl
  | t :: l, G => by
    rw [List.foldl_cons, List.foldl_cons]
    have : addT [] (K ++ G) t = K ++ addT K G t := by
      rw [addT_nil, hasT_app]
      unfold addT
      cases hasT K t with
      | true => rfl
      | false =>
        cases hasT G t with
        | true => rfl
        | false => exact List.append_assoc _ _ _
    rw [this]
    exact fold_shift K l _
def termsD (ds : List Deed) : List Th := foundT [] ds
theorem parts_app (ds : List Deed) (r : Deed) : partsD (ds ++ [r]) = partsD ds ++ r.2.flatMap allW := by
  unfold partsD
  rw [List.flatMap_append]
  show _ ++ (r.2.flatMap allW ++ []) = _
  rw [List.append_nil]
theorem parts_one (r : Deed) : partsD [r] = r.2.flatMap allW := by
  show r.2.flatMap allW ++ [] = _
  rw [List.append_nil]
theorem terms_app (ds : List Deed) (r : Deed) : termsD (ds ++ [r]) = termsD ds ++ foundT (termsD ds) [r] := by
  unfold termsD foundT
  rw [parts_app, parts_one, List.foldl_append, ← fold_shift, List.append_nil]
theorem parts_tm {ds : List Deed} (h : ∀ r ∈ ds, ∀ t ∈ r.2, tm t) : ∀ u ∈ partsD ds, tm u := fun u m => by
  obtain ⟨r, mr, m⟩ := List.mem_flatMap.mp m
  obtain ⟨t, mt, m⟩ := List.mem_flatMap.mp m
  exact allW_tm t (h r mr t mt) u m
theorem parts_cl {ds : List Deed} (h : ∀ r ∈ ds, ∀ t ∈ r.2, tm t) : ∀ u ∈ partsD ds, ∀ p ∈ partsT u, p ∈ partsD ds := fun u m p hp => by
  obtain ⟨r, mr, m⟩ := List.mem_flatMap.mp m
  obtain ⟨t, mt, m⟩ := List.mem_flatMap.mp m
  exact List.mem_flatMap.mpr ⟨r, mr, List.mem_flatMap.mpr ⟨t, mt, allW_closed t (h r mr t mt) u m p hp⟩⟩
theorem tms_nil : TmS [] := ⟨fun _ m => absurd m List.not_mem_nil, List.nodup_nil, fun _ m => absurd m List.not_mem_nil⟩
theorem terms_tms {ds : List Deed} (h : ∀ r ∈ ds, ∀ t ∈ r.2, tm t) : TmS (termsD ds) := by
  have := tms_fold (K := []) (F := []) (l := partsD ds) tms_nil (parts_tm h) (parts_cl h)
  exact this
theorem terms_mem {ds : List Deed} (h : ∀ r ∈ ds, ∀ t ∈ r.2, tm t) {s : Th} : s ∈ termsD ds ↔ s ∈ partsD ds := by
  have := fold_mem (K := []) (fun _ q => absurd q List.not_mem_nil) (partsD ds) [] (fun _ q => absurd q List.not_mem_nil) (parts_tm h) s
  unfold termsD foundT
  rw [this]
  exact ⟨fun q => q.elim (fun q => absurd q List.not_mem_nil) fun q => q.1, fun q => .inr ⟨q, List.not_mem_nil⟩⟩
theorem terms_arg {ds : List Deed} (h : ∀ r ∈ ds, ∀ t ∈ r.2, tm t) {r : Deed} (mr : r ∈ ds) {t : Th} (mt : t ∈ r.2) : t ∈ termsD ds :=
  (terms_mem h).mpr (List.mem_flatMap.mpr ⟨r, mr, List.mem_flatMap.mpr ⟨t, mt, allW_self t⟩⟩)
theorem found_tms {R : List Th} (S : TmS R) {ds : List Deed} (h : ∀ r ∈ ds, ∀ t ∈ r.2, tm t) : TmS (R ++ foundT R ds) := tms_fold (F := []) (by rw [List.append_nil]; exact S) (parts_tm h) (parts_cl h)
theorem tells_app (ds : List Deed) (r : Deed) : tellsD (ds ++ [r]) = tellsD ds ++ (if telling r then [r] else []) := by
  unfold tellsD
  rw [List.filter_append, List.filter_cons, List.filter_nil]
/-- the web at p, its lists and its dict of ranks at d, u, t, r, behind these deeds -/
structure WebAt (w : World) (CW CL : Addr) (N : List Addr) (H : Hp) (p d u t r : Addr) (ds us : List Deed) : Prop where
  de : ∃ dv, H d = some (.lst dv) ∧ A2 (DeedAt H) dv ds
  un : ∃ uv, H u = some (.lst uv) ∧ A2 (DeedAt H) uv us
  te : ∃ tv, H t = some (.lst tv) ∧ A2 (DeedAt H) tv (tellsD ds)
  ra : ∃ fr, H r = some (DN w r fr) ∧ A2 (RankAt H) fr (termsD ds)
  ob : ∃ dx g l gv b3 b4 b5 L, H p = some (.ins CW dx (wbF d u t r g l)) ∧ hidW ([p, d, u, t, r] ++ N) H g = some (.lst gv) ∧ RepL (hidW ([p, d, u, t, r] ++ N) H) gv (risT (termsD ds)) ∧ LkAt w CL (hidW ([p, d, u, t, r] ++ N) H) l b3 b4 b5 (risT (termsD ds)) (prsT (risT (termsD ds)) (likesT (tellsD ds))) L
  du : d ≠ u
  dt : d ≠ t
  ut : u ≠ t
  okd : ∀ r ∈ ds, deedOk r
  oku : ∀ r ∈ us, deedOk r
  few : (termsD ds).length ≤ 60
  tel : (tellsD ds).length ≤ 40
  nn : Mok N H
  nd : ∀ b ∈ N, b ∉ [p, d, u, t, r]
theorem WebAt.tmd {w : World} {CW CL : Addr} {N : List Addr} {H : Hp} {p d u t r : Addr} {ds us : List Deed} (W : WebAt w CW CL N H p d u t r ds us) : ∀ r ∈ ds, ∀ t ∈ r.2, tm t := fun r m => (W.okd r m).1
theorem WebAt.mok {w : World} {CW CL : Addr} {N : List Addr} {H : Hp} {p d u t r : Addr} {ds us : List Deed} (W : WebAt w CW CL N H p d u t r ds us) : Mok [p, d, u, t, r] H := fun b m => by
  obtain ⟨dv, hd, _⟩ := W.de
  obtain ⟨uv, hu, _⟩ := W.un
  obtain ⟨tv, ht, _⟩ := W.te
  obtain ⟨fr, hr, _⟩ := W.ra
  obtain ⟨dx, g, l, _, _, _, _, _, hp, _⟩ := W.ob
  simp only [List.mem_cons, List.not_mem_nil, or_false] at m
  rcases m with e | e | e | e | e
  · exact ⟨.ins CW dx (wbF d u t r g l), by rw [e]; exact hp, (fun _ e => nomatch e), fun _ e => nomatch e⟩
  · exact ⟨.lst dv, by rw [e]; exact hd, (fun _ e => nomatch e), fun _ e => nomatch e⟩
  · exact ⟨.lst uv, by rw [e]; exact hu, (fun _ e => nomatch e), fun _ e => nomatch e⟩
  · exact ⟨.lst tv, by rw [e]; exact ht, (fun _ e => nomatch e), fun _ e => nomatch e⟩
  · exact ⟨DN w r fr, by rw [e]; exact hr, (fun _ e => nomatch e), fun _ e => nomatch e⟩
/-- it stands where its own things stand as they are and all else is kept -/
theorem WebAt.keep {w : World} {CW CL : Addr} {N : List Addr} {H H' : Hp} {p d u t r : Addr} {ds us : List Deed} (W : WebAt w CW CL N H p d u t r ds us) (k : ∀ b o, H b = some o → noTb o → H' b = some o) : WebAt w CW CL N H' p d u t r ds us := by
  have tk : TK H H' := fun a xs z => k _ _ z fun _ e => nomatch e
  have sm : Same (hidW ([p, d, u, t, r] ++ N) H) (hidW ([p, d, u, t, r] ++ N) H') := (show FrM _ _ H H' from fun b o e t n => ⟨n, k b o e t⟩).same
  obtain ⟨dv, hd, d2⟩ := W.de
  obtain ⟨uv, hu, u2⟩ := W.un
  obtain ⟨tv, ht, t2⟩ := W.te
  obtain ⟨fr, hr, r2⟩ := W.ra
  obtain ⟨dx, g, l, gv, b3, b4, b5, L, hp, hg, rg, lk⟩ := W.ob
  exact ⟨⟨dv, k _ _ hd fun _ e => (nomatch e), deeds_tk tk d2 W.tmd⟩, ⟨uv, k _ _ hu fun _ e => (nomatch e), deeds_tk tk u2 fun r m => (W.oku r m).1⟩, ⟨tv, k _ _ ht fun _ e => (nomatch e), deeds_tk tk t2 fun r m => W.tmd r (List.mem_filter.mp m).1⟩,
    ⟨fr, k _ _ hr fun _ e => (nomatch e), ranks_tk tk r2⟩, ⟨dx, g, l, gv, b3, b4, b5, L, k _ _ hp fun _ e => (nomatch e), sm _ _ hg, rg.wk (Wk.same sm), lk.same sm⟩, W.du, W.dt, W.ut, W.okd, W.oku, W.few, W.tel, fun b m => let ⟨o, e, t, n⟩ := W.nn b m; ⟨o, k _ _ e t, t, n⟩, W.nd⟩
def sp_winit (CW CL : Addr) (w : World) : Sp := fun vs H Q _ => ∃ (p dx : Addr) (N : List Addr), vs = [.ref p] ∧ H p = some (.ins CW dx []) ∧ Mok N H ∧ p ∉ N ∧
  ∀ H' d u t r, Bt p H H' → H d = none → H u = none → H t = none → H r = none → WebAt w CW CL N H' p d u t r [] [] → Q .non H'
section
variable {P : Program} {w : World} {K : PySem.W.Frag} {mg : Str → Option Value} {base : Heap} {cA tP : Addr}
theorem c_Web___init__ (T : Tx K mg) : ClM P w K mg base CX0 6 (clsA mg "Web") "__init__" ["self"] (sp_winit (clsA mg "Web") (clsA mg "Likeness") w) := by
  refine ClM.mk0 T.d_Web___init__ sc_Web___init__ (fun vs H Q E h => ?_) (fun f cdv A outer s H vs Q E hr h => ?_)
  · obtain ⟨p, dx, N, rfl, _⟩ := h
    rfl
  obtain ⟨p, dx, N, rfl, hp, nn, pN, q⟩ := h
  refine ⟨_, (pss_cons (ps_fld (pv 0) (pe_lst pa_nil) rfl)
    (pss_cons (ps_fld (pv 0) (pe_lst pa_nil) rfl)
    (pss_cons (ps_fld (pv 0) (pe_lst pa_nil) rfl)
    (pss_cons (ps_fld (pv 0) pe_dnewN rfl)
    (pss_cons (ps_fld (pv 0) (pe_lst pa_nil) rfl)
    (pss_one (ps_fld (pv 0) (pe_mkC T.c_Likeness (c_Likeness___init__ T) hr (by omega) rfl (pa_cons (pe_lst pa_nil) (pa_cons (pe_lst pa_nil) pa_nil))) rfl))))))), ?_⟩
  have cl := T.c_Web.c
  refine ⟨Nat.zero_le _, fun d hd => ⟨_, rfl, p, _, dx, _, rfl, (same_new hd _) _ _ hp, cl, T.n_Web_deeds, by decide, ?_⟩⟩
  obtain ⟨H1, e1⟩ : ∃ H1, H1 = upd (upd H d (.lst [])) p (.ins (clsA mg "Web") dx (putF "deeds" (.ref d) [])) := ⟨_, rfl⟩
  have b1 : Bt p H H1 := by rw [e1]; exact (Bt.of (same_new hd _)).trans (Bt.upd _)
  have o1 : H1 p = some (.ins (clsA mg "Web") dx [("deeds", .ref d)]) := by rw [e1]; exact upd_same
  have d1 : H1 d = some (.lst []) := by rw [e1, upd_ne (ne_of_none hp hd).symm]; exact upd_same
  erw [← e1]
  refine ⟨Nat.zero_le _, fun u hu => ⟨_, rfl, p, _, dx, _, rfl, (same_new hu _) _ _ o1, cl, T.n_Web_undone, by show 1 < 1000; decide, ?_⟩⟩
  obtain ⟨H2, e2⟩ : ∃ H2, H2 = upd (upd H1 u (.lst [])) p (.ins (clsA mg "Web") dx (putF "undone" (.ref u) [("deeds", .ref d)])) := ⟨_, rfl⟩
  have b2 : Bt p H1 H2 := by rw [e2]; exact (Bt.of (same_new hu _)).trans (Bt.upd _)
  have o2 : H2 p = some (.ins (clsA mg "Web") dx [("deeds", .ref d), ("undone", .ref u)]) := by rw [e2]; exact upd_same
  have u2 : H2 u = some (.lst []) := by rw [e2, upd_ne (ne_of_none o1 hu).symm]; exact upd_same
  erw [← e2]
  refine ⟨Nat.zero_le _, fun t ht => ⟨_, rfl, p, _, dx, _, rfl, (same_new ht _) _ _ o2, cl, T.n_Web_tellings, by show 2 < 1000; decide, ?_⟩⟩
  obtain ⟨H3, e3⟩ : ∃ H3, H3 = upd (upd H2 t (.lst [])) p (.ins (clsA mg "Web") dx (putF "tellings" (.ref t) [("deeds", .ref d), ("undone", .ref u)])) := ⟨_, rfl⟩
  have b3 : Bt p H2 H3 := by rw [e3]; exact (Bt.of (same_new ht _)).trans (Bt.upd _)
  have o3 : H3 p = some (.ins (clsA mg "Web") dx [("deeds", .ref d), ("undone", .ref u), ("tellings", .ref t)]) := by rw [e3]; exact upd_same
  have t3 : H3 t = some (.lst []) := by rw [e3, upd_ne (ne_of_none o2 ht).symm]; exact upd_same
  erw [← e3]
  refine fun r hr' => ⟨_, rfl, p, _, dx, _, rfl, (same_new hr' _) _ _ o3, cl, T.n_Web_ranks, by show 3 < 1000; decide, ?_⟩
  obtain ⟨H4, e4⟩ : ∃ H4, H4 = upd (upd H3 r (DN w r [])) p (.ins (clsA mg "Web") dx (putF "ranks" (.ref r) [("deeds", .ref d), ("undone", .ref u), ("tellings", .ref t)])) := ⟨_, rfl⟩
  have b4 : Bt p H3 H4 := by rw [e4]; exact (Bt.of (same_new hr' _)).trans (Bt.upd _)
  have o4 : H4 p = some (.ins (clsA mg "Web") dx [("deeds", .ref d), ("undone", .ref u), ("tellings", .ref t), ("ranks", .ref r)]) := by rw [e4]; exact upd_same
  have r4 : H4 r = some (DN w r []) := by rw [e4, upd_ne (ne_of_none o3 hr').symm]; exact upd_same
  erw [← e4]
  refine ⟨Nat.zero_le _, fun g hg => ⟨_, rfl, p, _, dx, _, rfl, (same_new hg _) _ _ o4, cl, T.n_Web_rising, by show 4 < 1000; decide, ?_⟩⟩
  obtain ⟨H5, e5⟩ : ∃ H5, H5 = upd (upd H4 g (.lst [])) p (.ins (clsA mg "Web") dx (putF "rising" (.ref g) [("deeds", .ref d), ("undone", .ref u), ("tellings", .ref t), ("ranks", .ref r)])) := ⟨_, rfl⟩
  have b5 : Bt p H4 H5 := by rw [e5]; exact (Bt.of (same_new hg _)).trans (Bt.upd _)
  have o5 : H5 p = some (.ins (clsA mg "Web") dx [("deeds", .ref d), ("undone", .ref u), ("tellings", .ref t), ("ranks", .ref r), ("rising", .ref g)]) := by rw [e5]; exact upd_same
  have g5 : H5 g = some (.lst []) := by rw [e5, upd_ne (ne_of_none o4 hg).symm]; exact upd_same
  erw [← e5]
  refine ⟨Nat.zero_le _, fun q1 h1 => ⟨Nat.zero_le _, fun q2 h2 x dx2 hx hdx nx => ?_⟩⟩
  have s1 := same_new (o := .lst []) h1
  have s2 := same_new (o := .lst []) h2
  obtain ⟨H6, e6⟩ : ∃ H6, H6 = upd (upd (upd (upd H5 q1 (.lst [])) q2 (.lst [])) dx2 (.own x)) x (.ins (clsA mg "Likeness") dx2 []) := ⟨_, rfl⟩
  have s26 : Same (upd (upd H5 q1 (.lst [])) q2 (.lst [])) H6 := by
    rw [e6]
    exact (same_new hdx _).trans (same_new (by rw [upd_ne nx.symm]; exact hx) _)
  have hx6 : H6 x = some (.ins (clsA mg "Likeness") dx2 []) := by rw [e6]; exact upd_same
  erw [← e6]
  have s56 := (s1.trans s2).trans s26
  refine ⟨x, dx2, q1, q2, [], [], [], [], rfl, hx6, s26 _ _ (s2 _ _ upd_same), .nil, tms_nil, by decide, s26 _ _ upd_same, .nil, by decide, (fun _ m => absurd m List.not_mem_nil), fun H7 c3 c4 c5 L7 bt lk n3 n4 n5 => ⟨rfl, ?_⟩⟩
  have px : p ≠ x := ne_of_none ((s1.trans s2) _ _ o5) hx
  have o7 := bt _ _ (s56 _ _ o5) px
  refine ⟨_, rfl, p, _, dx, _, rfl, o7, cl, T.n_Web_likeness, by show 5 < 1000; decide, ?_⟩
  obtain ⟨H8, e8⟩ : ∃ H8, H8 = upd H7 p (.ins (clsA mg "Web") dx (putF "likeness" (.ref x) [("deeds", .ref d), ("undone", .ref u), ("tellings", .ref t), ("ranks", .ref r), ("rising", .ref g)])) := ⟨_, rfl⟩
  have b78 : Bt p H7 H8 := by rw [e8]; exact Bt.upd _
  have o8 : H8 p = some (.ins (clsA mg "Web") dx (wbF d u t r g x)) := by rw [e8]; exact upd_same
  erw [← e8]
  have b58 : Bt p H5 H8 := fun b o e n => b78 _ _ (bt _ _ (s56 _ _ e) (ne_of_none ((s1.trans s2) _ _ e) hx)) n
  have b45 := b5.trans b58
  have b35 := b4.trans b45
  have b25 := b3.trans b35
  have b15 := b2.trans b25
  have dd : H8 d = some (.lst []) := b15.ins o1 d1 fun _ _ _ e => nomatch e
  have uu : H8 u = some (.lst []) := b25.ins o2 u2 fun _ _ _ e => nomatch e
  have tt : H8 t = some (.lst []) := b35.ins o3 t3 fun _ _ _ e => nomatch e
  have rr : H8 r = some (DN w r []) := b45 _ _ r4 (ne_of_none o3 hr').symm
  have gg : H8 g = some (.lst []) := b58.ins o5 g5 fun _ _ _ e => nomatch e
  have u1 : H1 u = none := hu
  have du : d ≠ u := ne_of_none d1 hu
  have dt : d ≠ t := ne_of_none (b2.ins o1 d1 fun _ _ _ e => nomatch e) ht
  have ut : u ≠ t := ne_of_none u2 ht
  have nd : H d = none := hd
  have nu : H u = none := b1.none o1 hu
  have nt : H t = none := (b1.trans b2).none o2 ht
  have nr : H r = none := ((b1.trans b2).trans b3).none o3 hr'
  have H6of : ∀ {b : Addr} {o : HO}, H5 b = some o → ∃ o', H6 b = some o' := fun e => ⟨_, s56 _ _ e⟩
  have b04 := ((b1.trans b2).trans b3).trans b4
  have b05 := b04.trans b5
  have b08 := b04.trans b45
  have in6 : ∀ b ∈ ([p, d, u, t, r] ++ N), ∃ o, H5 b = some o := fun b m => by
    rcases List.mem_append.mp m with m | m
    case inr =>
      obtain ⟨o, e, _, _⟩ := nn b m
      exact ⟨o, b05 _ _ e (fun z => pN (by rw [← z]; exact m))⟩
    simp only [List.mem_cons, List.not_mem_nil, or_false] at m
    rcases m with e | e | e | e | e
    · exact ⟨_, by rw [e]; exact o5⟩
    · exact ⟨_, by rw [e]; exact ((((b2.trans b3).trans b4).trans b5).ins o1 d1 fun _ _ _ e => nomatch e)⟩
    · exact ⟨_, by rw [e]; exact (((b3.trans b4).trans b5).ins o2 u2 fun _ _ _ e => nomatch e)⟩
    · exact ⟨_, by rw [e]; exact ((b4.trans b5).ins o3 t3 fun _ _ _ e => nomatch e)⟩
    · exact ⟨_, by rw [e]; exact b5 _ _ r4 (ne_of_none o3 hr').symm⟩
  have out6 : ∀ {b : Addr}, H6 b = none → b ∉ ([p, d, u, t, r] ++ N) := fun {b} e m => by
    obtain ⟨o, z⟩ := in6 b m
    rw [s56 _ _ z] at e
    cases e
  have xM : x ∉ ([p, d, u, t, r] ++ N) := fun m => by
    obtain ⟨o, z⟩ := in6 x m
    rw [(s1.trans s2) _ _ z] at hx
    cases hx
  have gM : g ∉ ([p, d, u, t, r] ++ N) := fun m => by
    rcases List.mem_append.mp m with m | m
    case inr =>
      obtain ⟨o, e, _, _⟩ := nn g m
      exact ne_of_none (b04 _ _ e (fun z => pN (by rw [← z]; exact m))) hg rfl
    simp only [List.mem_cons, List.not_mem_nil, or_false] at m
    rcases m with e | e | e | e | e
    · exact ne_of_none o4 hg e.symm
    · exact ne_of_none (((b2.trans b3).trans b4).ins o1 d1 fun _ _ _ e => nomatch e) hg e.symm
    · exact ne_of_none ((b3.trans b4).ins o2 u2 fun _ _ _ e => nomatch e) hg e.symm
    · exact ne_of_none (b4.ins o3 t3 fun _ _ _ e => nomatch e) hg e.symm
    · exact ne_of_none r4 hg e.symm
  have nn8 : Mok N H8 := fun b m => by
    obtain ⟨o, e, t, n⟩ := nn b m
    exact ⟨o, b08 _ _ e (fun z => pN (by rw [← z]; exact m)), t, n⟩
  have nd8 : ∀ b ∈ N, b ∉ [p, d, u, t, r] := fun b m => by
    obtain ⟨o, e, _, _⟩ := nn b m
    simp only [List.mem_cons, List.not_mem_nil, or_false, not_or]
    exact ⟨fun z => pN (by rw [← z]; exact m), ne_of_none e nd, ne_of_none e nu, ne_of_none e nt, ne_of_none e nr⟩
  have M8 : Mok ([p, d, u, t, r] ++ N) H8 := fun b m => by
    rcases List.mem_append.mp m with m | m
    case inr => exact nn8 b m
    simp only [List.mem_cons, List.not_mem_nil, or_false] at m
    rcases m with e | e | e | e | e
    · exact ⟨.ins (clsA mg "Web") dx (wbF d u t r g x), by rw [e]; exact o8, (fun _ e => nomatch e), fun _ e => nomatch e⟩
    · exact ⟨.lst [], by rw [e]; exact dd, (fun _ e => nomatch e), fun _ e => nomatch e⟩
    · exact ⟨.lst [], by rw [e]; exact uu, (fun _ e => nomatch e), fun _ e => nomatch e⟩
    · exact ⟨.lst [], by rw [e]; exact tt, (fun _ e => nomatch e), fun _ e => nomatch e⟩
    · exact ⟨DN w r [], by rw [e]; exact rr, (fun _ e => nomatch e), fun _ e => nomatch e⟩
  have into : ∀ {b : Addr} {o : HO}, b ∉ ([p, d, u, t, r] ++ N) → H7 b = some o → noTb o → hidW ([p, d, u, t, r] ++ N) H8 b = some o := fun m e t => hidW_in (b78 _ _ e fun z => m (by rw [z]; exact List.mem_append_left _ List.mem_cons_self)) m t
  have m3 := out6 n3
  have m4 := out6 n4
  have m5 := out6 n5
  refine q H8 d u t r ((((b1.trans b2).trans b3).trans b4).trans b45) nd nu nt nr ⟨⟨[], dd, .nil⟩, ⟨[], uu, .nil⟩, ⟨[], tt, .nil⟩, ⟨[], rr, .nil⟩, ⟨dx, g, x, [], c3, c4, c5, L7, o8, hidW_in gg gM (fun _ e => nomatch e), ?_, ?_⟩, du, dt, ut, (fun _ m => absurd m List.not_mem_nil), (fun _ m => absurd m List.not_mem_nil), Nat.zero_le _, Nat.zero_le _, nn8, nd8⟩
  · rw [show risT (termsD []) = [] from List.mergeSort_nil]
    exact .nil
  have e0 : risT (termsD []) = [] := List.mergeSort_nil
  rw [e0]
  exact lk.to (fun o e t => into xM e t) (fun o e t => into m3 e t) (fun o e t => into m4 e t) (fun o e t => into m5 e t) fun a xs z => M8.hid (b78 _ _ z (ne_of z o7 fun e => nomatch e))
end
end Kt
namespace Kt
open PySem PySem.Spec PyProof.Rows L2
/-! ### a deed is done -/
def sp_rterm0 : Sp := fun vs H Q _ => ∃ v t, vs = [v] ∧ Rep H v t ∧ within false t = true ∧ ∀ H', Same H H' → Q .non H'
theorem FrM.upd {M : List Addr} {H H' : Hp} (f : FrM M M H H') {b : Addr} (m : b ∈ M) (o : HO) : FrM M M H (upd H' b o) := fun c u h t n => by
  refine ⟨n, ?_⟩
  rw [upd_ne fun e => n (by rw [e]; exact m)]
  exact (f c u h t n).2
theorem FrM.mut {M : List Addr} {H H' : Hp} (f : FrM M M H H') {b : Addr} (m : H b = none) (o : HO) : FrM M M H (_root_.L2.upd H' b o) := fun c u h t n => by
  refine ⟨n, ?_⟩
  rw [upd_ne (ne_of_none h m)]
  exact (f c u h t n).2
def ansD (ds : List Deed) (r : Deed) : V := if telling r then .int ((tellsD (ds ++ [r])).length : Nat) else .non
def sp_do (CW CL tP : Addr) (w : World) : Sp := fun vs H Q _ => ∃ (p d u t r : Addr) (N : List Addr) (v : V) (ds us : List Deed) (r0 : Deed), vs = [.ref p, v] ∧ WebAt w CW CL N H p d u t r ds us ∧ LamX.Tabs (tabsW tP) H ∧ DeedAt H v r0 ∧ deedOk r0 ∧ ds.length ≤ 900 ∧ (termsD (ds ++ [r0])).length ≤ 60 ∧ (tellsD (ds ++ [r0])).length ≤ 40 ∧
  ∀ H', FrM [p, d, u, t, r] [p, d, u, t, r] H H' → LamX.Tabs (tabsW tP) H' → WebAt w CW CL N H' p d u t r (ds ++ [r0]) us → Q (ansD ds r0) H'
section
variable {P : Program} {w : World} {K : PySem.W.Frag} {mg : Str → Option Value} {base : Heap} {cA tP : Addr}
theorem c_refuse_no_term (T : Tx K mg) : Cl P w K mg base CX0 10 "refuse_no_term" ["thing"] sp_rterm0 := by
  refine Cl.mk0 T.d_refuse_no_term sc_refuse_no_term (fun vs H Q E h => ?_) (fun f cdv A outer s H vs Q E hr h => ?_)
  · obtain ⟨v, t, rfl, _⟩ := h
    rfl
  obtain ⟨v, t, rfl, r, hw, q⟩ := h
  refine ⟨_, (pss_one (ps_if (pt_not (pt_val (pe_cl (c_is_term T) hr (by omega) rfl (pa_cons (pv 0) pa_nil))))
      (pss_one ps_never)
      pss_nil)), ?_⟩
  refine ⟨_, rfl, v, t, rfl, r, fun H' s' => ⟨_, rfl, ?_⟩⟩
  rw [hw]
  exact iteF (q H' s')
theorem c_Web__do (T : Tx K mg) (L : TxL K mg base cA tP) : ClM P w K mg base CX0 21 (clsA mg "Web") "_do" ["self", "row"] (sp_do (clsA mg "Web") (clsA mg "Likeness") tP w) := by
  refine ClM.mk0 T.d_Web__do sc_Web__do (fun vs H Q E h => ?_) (fun f cdv A outer s H vs Q E hr h => ?_)
  · obtain ⟨p, d, u, t, r, N, v, ds, us, r0, rfl, _⟩ := h
    rfl
  obtain ⟨p, d, u, t, r, N, v, ds, us, r0, rfl, W, tb, dAt, dok, d900, t60, l40, q⟩ := h
  refine ⟨_, (Evl.pss_cut (ps_for PassesOwn.never rfl (pi_tup (pe_slice sl_tupA (pv 1) (po_some pe_int) po_no)) (pg_name (i := 2) sc_Web__do.nd rfl (Or.inl rfl))
      (pss_one (ps_expr (pe_cl (c_refuse_no_term T) hr (by omega) rfl (pa_cons (pv 2) pa_nil)))))
    (pss_cons (ps_set (i := 3) sc_Web__do.nd rfl (Or.inl rfl) (pe_mm T.c_Web.c (c_Web__ranks_beyond T) hr (by omega) (pv 0) (pa_cons (pe_fld (pv 0) rfl) (pa_cons (pe_lst (pa_cons (pv 1) pa_nil)) pa_nil))))
    (pss_cons (ps_set (i := 4) sc_Web__do.nd rfl (Or.inl rfl) (pe_cmpR op_ne (pe_ix ix_tup (pv 1) pe_int (fun _ _ => rfl)) (pe_glob (v := .str "put") (by rfl) T.m_PUT.choose_spec ⟨_, rfl⟩) (nomark _)))
    (Evl.pss_cut (ps_if (pt_cmpR op_gt (pe_op op_add (pe_callB (id := "len") (r := rLenN w) call_lenN (by rfl) T.z_len (by decide +kernel) (pa_cons (pe_fld (pv 0) rfl) pa_nil)) (pe_callB (id := "len") (r := rLenN w) call_lenN (by rfl) T.z_len (by decide +kernel) (pa_cons (pv 3) pa_nil))) (pe_glob (v := .int 60) (by rfl) T.m_MOST_TERMS.choose_spec ⟨_, rfl⟩) (nomark _))
      (pss_one ps_never)
      pss_nil)
    (Evl.pss_cut (ps_if (PW.pt (pw_and (pt_val (pv 4)) (pw_and1 (pt_cmpR op_ge (pe_callB call_len (by rfl) T.z_len (by decide +kernel) (pa_cons (pe_fld (pv 0) rfl) pa_nil)) (pe_glob (v := .int 40) (by rfl) T.m_MOST_TELLINGS.choose_spec ⟨_, rfl⟩) (nomark _)))))
      (pss_one ps_never)
      pss_nil)
    (pss_cons (ps_expr (pe_bm PySem.F.plainAttrs_list PySem.F.slot_list_append PySem.F.type_list_append mt_append (pe_fld (pv 0) rfl) (pa_cons (pv 1) pa_nil)))
    (Evl.pss_cut (ps_lock (ps_for PassesOwn.never rfl (pi_keysN (pv 3)) (pg_name (i := 2) sc_Web__do.nd rfl (Or.inl rfl))
      (pss_one (ps_nput (hu_n hr) (pe_fld (pv 0) rfl) (pv 2) (pe_ngetW (w := w) (hu_n hr) (pv 3) (pv 2) (fun _ _ => rfl)) rfl))))
    (Evl.pss_cut (ps_if (pt_val (pv 4))
      (pss_one (ps_expr (pe_bm PySem.F.plainAttrs_list PySem.F.slot_list_append PySem.F.type_list_append mt_append (pe_fld (pv 0) rfl) (pa_cons (pv 1) pa_nil))))
      pss_nil)
    (Evl.pss_cut (ps_if (PW.pt (pw_or (pt_truthR (pv 3) (r := rTruN w) tru_N (by intro _; rfl)) (pw_or1 (pt_cmpR op_eq (pe_ix ix_tup (pv 1) pe_int (fun _ _ => rfl)) (pe_glob (v := .str "like") (by rfl) T.m_LIKE.choose_spec ⟨_, rfl⟩) (nomark _)))))
      (pss_one (ps_expr (pe_mm0 T.c_Web.c (c_Web__settle T L) hr (by omega) (pv 0))))
      pss_nil)
    (pss_one (ps_ret (pe_ifExp (pt_val (pv 4)) (pe_callB call_len (by rfl) T.z_len (by decide +kernel) (pa_cons (pe_fld (pv 0) rfl) pa_nil)) pe_non)))))))))))), ?_⟩
  have cl := T.c_Web.c
  obtain ⟨dv, hd, dd⟩ := W.de
  obtain ⟨uv, hu, uu⟩ := W.un
  obtain ⟨tv, ht, tt⟩ := W.te
  obtain ⟨fr, hr', rk⟩ := W.ra
  obtain ⟨dx, g, l, gv, b3, b4, b5, L7, hp, hg, rg, lk⟩ := W.ob
  obtain ⟨a, vs, rfl, ha, rvs⟩ := dAt
  have vl := rvs.length
  have l2 := dok.ok.2
  have MK := W.mok
  have tmd := W.tmd
  have S := terms_tms tmd
  have l1 : 1 ≤ sizeLine := by decide
  have dl := dd.len
  have tl := tt.len
  have tmd' : ∀ x ∈ ds ++ [r0], ∀ t ∈ x.2, tm t := fun x m => (List.mem_append.mp m).elim (tmd x) fun m => by
    rw [List.mem_singleton.mp m]
    exact dok.1
  -- the terms are terms
  refine ⟨fun σ' H' => ∃ y, σ' = [some (.ref p), some (.ref a), y, none, none] ∧ Same H H', ?_, fun σ1 H1 e1 => ?_⟩
  · refine ⟨_, rfl, 1, rfl, sl_lo (K := K) 1 ha (by omega) (by rw [List.length_cons]; omega) fun p1 hp1 => ?_⟩
    have s1 := same_new hp1 (.tup ((V.str r0.1 :: vs).drop 1))
    refine ⟨p1, rfl, ⟨_, SqT.of upd_same⟩, for_it (walk_tup (xs := vs)) (fun j σ H' => ∃ y, σ = [some (.ref p), some (.ref a), y, none, none] ∧ Same H H' ∧ H' p1 = some (.tup vs))
      ⟨_, rfl, s1, upd_same⟩ (fun j σ H' _ h' => ?_) (fun j v σ H' H'' hj h' yy => ?_) (fun σ H' h' => ?_)⟩
    · obtain ⟨_, _, _, h⟩ := h'
      exact SqT.of h
    · obtain ⟨y, rfl, s', h⟩ := h'
      obtain ⟨rfl, hv⟩ := yy
      obtain ⟨x, ex, rx⟩ := rvs.get' hv
      exact ⟨_, rfl, v, x, rfl, rx.wk (Wk.same s'), dok.1 x (List.mem_of_getElem? ex), fun H2 s2 => ⟨_, rfl, s'.trans s2, s2 _ _ h⟩⟩
    · obtain ⟨y, rfl, s', h⟩ := h'
      exact ⟨y, rfl, s'⟩
  obtain ⟨y, rfl, s1⟩ := e1
  -- what is fresh
  refine ⟨_, rfl, p, dx, _, rfl, s1 _ _ hp, rfl, _, rfl, p, _, dx, _, _, rfl, s1 _ _ hp, cl, T.n_Web_ranks, rfl, _, rfl, l1, fun q1 h1 => ?_⟩
  have s2 := same_new (o := .lst [.ref a]) h1
  have s12 := s1.trans s2
  refine ⟨p, r, q1, fr, termsD ds, [.ref a], [r0], termsD (ds ++ [r0]), rfl, s12 _ _ hr', rk.imp fun _ _ x => x.wk (Wk.same s12), upd_same, .cons ⟨a, vs, rfl, s12 _ _ ha, rvs.wk (Wk.same s12)⟩ .nil, fun x m => by rw [List.mem_singleton.mp m]; exact dok.ok, S, by omega, fun x m => (terms_mem tmd').mpr ?_, fun q2 H3 ffr s3 hq2 hf rkf => ?_⟩
  · rw [parts_app, ← parts_one]
    exact List.mem_append.mpr (.inr m)
  have s13 := s12.trans s3
  have hq0 : H q2 = none := Same.none s12 hq2
  have telE : (!decide (V.str r0.1 = V.str "put")) = telling r0 := by
    unfold telling
    by_cases e : r0.1 = ("put" : Str)
    · rw [e, decide_eq_true rfl, decide_eq_false fun z => z rfl]
      rfl
    · rw [decide_eq_false (p := V.str r0.1 = V.str "put") fun z => e (by injection z), decide_eq_true e]
      rfl
  have nF : (termsD ds).length + (foundT (termsD ds) [r0]).length ≤ 60 := by
    rw [terms_app, List.length_append] at t60
    exact t60
  have fl := rkf.len
  have rl := rk.len
  refine ⟨_, rfl, a, _, 0, .str r0.1, rfl, rfl, SqT.of (s13 _ _ ha), atI_nat (j := 0) rfl, rfl, ?_⟩
  rw [telE]
  -- not too many
  refine ⟨fun σ' H' => σ' = [some (.ref p), some (.ref a), y, some (.ref q2), some (.bl (telling r0))] ∧ H' = H3, ?_, fun σ1 H4 e4 => ?_⟩
  · refine ⟨_, rfl, p, _, dx, _, _, rfl, s13 _ _ hp, cl, T.n_Web_ranks, rfl, r, fr, rfl, ⟨.inl (s13 _ _ hr'), rank_keys (rk.imp fun _ _ x => x.wk (Wk.same s13))⟩, _, rfl, q2, ffr, rfl, ⟨.inl hf, rank_keys rkf⟩, _, _, rfl, rfl, _, _, rfl, rfl, _, rfl, ?_⟩
    rw [decide_eq_false (by omega)]
    exact iteF ⟨rfl, rfl⟩
  obtain ⟨rfl, rfl⟩ := e4
  refine ⟨fun σ' H' => σ' = [some (.ref p), some (.ref a), y, some (.ref q2), some (.bl (telling r0))] ∧ H' = H4, ?_, fun σ1 H5 e5 => ?_⟩
  · refine ⟨_, rfl, _, rfl, ?_⟩
    cases ct : telling r0 with
    | false => exact iteF (iteF ⟨rfl, rfl⟩)
    | true =>
      refine iteT ⟨_, rfl, p, _, dx, _, _, rfl, s13 _ _ hp, cl, T.n_Web_tellings, rfl, _, _, rfl, .inl ⟨tv, SqL.of (s13 _ _ ht), rfl⟩, _, _, rfl, rfl, _, rfl, ?_⟩
      rw [tells_app, ct, if_pos rfl, List.length_append, List.length_singleton] at l40
      rw [decide_eq_false (by omega)]
      exact iteF ⟨rfl, rfl⟩
  obtain ⟨rfl, rfl⟩ := e5
  -- the deed's row
  refine ⟨_, rfl, p, _, dx, _, _, rfl, s13 _ _ hp, cl, T.n_Web_deeds, rfl, .inl ⟨rfl, _, SqL.of (s13 _ _ hd)⟩, _, rfl, d, dv, _, rfl, rfl, s13 _ _ hd, small1000 (by omega), ?_⟩
  obtain ⟨H6, e6⟩ : ∃ H6, H6 = L2.upd H5 d (.lst (dv ++ [.ref a])) := ⟨_, rfl⟩
  have b6 : Bt d H5 H6 := by rw [e6]; exact Bt.upd _
  have hd6 : H6 d = some (.lst (dv ++ [.ref a])) := by rw [e6]; exact upd_same
  erw [← e6]
  have pd : p ≠ d := ne_of hp hd fun e => nomatch e
  have pt : p ≠ t := ne_of hp ht fun e => nomatch e
  have pr : p ≠ r := ne_of hp hr' fun e => nomatch e
  have rd : r ≠ d := ne_of hr' hd fun e => nomatch e
  have rt : r ≠ t := ne_of hr' ht fun e => nomatch e
  have qd : q2 ≠ d := (ne_of_none hd hq0).symm
  have qr : q2 ≠ r := (ne_of_none hr' hq0).symm
  have qp : q2 ≠ p := (ne_of_none hp hq0).symm
  have qt : q2 ≠ t := (ne_of_none ht hq0).symm
  have hp6 := b6 _ _ (s13 _ _ hp) pd
  have hr6 := b6 _ _ (s13 _ _ hr') rd
  have hq6 := b6 _ _ hf qd
  have tk56 : TK H5 H6 := fun a' xs z => b6 _ _ z (ne_of z (s13 _ _ hd) fun e => nomatch e)
  have tk06 : TK H H6 := fun a' xs z => tk56 _ _ (s13 _ _ z)
  have SF := found_tms S (ds := [r0]) fun x m => by rw [List.mem_singleton.mp m]; exact dok.1
  -- the ranks
  refine ⟨fun σ' H' => ∃ y fr', σ' = [some (.ref p), some (.ref a), y, some (.ref q2), some (.bl (telling r0))] ∧ (∀ b o, H6 b = some o → b ≠ r → H' b = some o) ∧ H' r = some (DN w r fr') ∧ A2 (RankAt H') fr' (termsD (ds ++ [r0])), ?_, fun σ1 H7 e7 => ?_⟩
  · refine ⟨q2, _, hq6, True.intro, fun od => ⟨_, rfl, q2, od, ffr, rfl, upd_same, for_it (walk_keysN (xs := ffr)) (fun n σ H' => ∃ y fr', σ = [some (.ref p), some (.ref a), y, some (.ref q2), some (.bl (telling r0))] ∧ (∀ b o, H6 b = some o → b ≠ r → b ≠ q2 → H' b = some o) ∧ H' q2 = some (.frz od (DN w q2 ffr)) ∧ H' r = some (DN w r fr') ∧ A2 (RankAt H') fr' (termsD ds ++ (foundT (termsD ds) [r0]).take n))
      ⟨y, fr, rfl, fun b o e n1 n2 => by rw [upd_ne n2]; exact e, upd_same, by rw [upd_ne qr.symm]; exact hr6, ?_⟩ (fun n σ H' _ h' => ?_) (fun n v σ H' H'' hn h' yy => ?_) (fun σ H' h' => ?_)⟩⟩
    · rw [List.take_zero, List.append_nil]
      refine ranks_tk (fun a' xs z => ?_) rk
      rw [upd_ne (ne_of (tk06 _ _ z) hq6 fun e => nomatch e)]
      exact tk06 _ _ z
    · obtain ⟨_, _, _, _, h, _⟩ := h'
      exact h
    · obtain ⟨y', fr', rfl, kp, hq, hr7, rk7⟩ := h'
      obtain ⟨rfl, k, vv, ev⟩ := yy
      obtain ⟨x, ex, ra⟩ := rkf.get ev
      have tk7 : TK H5 H'' := fun a' xs z => kp _ _ (tk56 _ _ z) (ne_of (tk56 _ _ z) hr6 fun e => nomatch e) (ne_of (tk56 _ _ z) hq6 fun e => nomatch e)
      have ra7 := ra.tk tk7
      obtain ⟨tx, kx, rx, a', ea, ha'⟩ := id ra7
      have kx : k = x.nk := kx
      subst kx
      have isk := tx.isk rx
      have fx : valM ffr x.nk = some vv := rank_at rkf (by
        have := SF.nd
        rw [List.map_append] at this
        exact (List.nodup_append.mp this).2.1) (x.nk, v, vv) (List.mem_of_getElem? ev)
      have hp7 := kp _ _ hp6 pr qp.symm
      have len7 := rk7.len
      have fewT : (termsD ds ++ (foundT (termsD ds) [r0]).take n).length ≤ 60 := by
        rw [List.length_append, List.length_take]
        omega
      refine ⟨_, rfl, _, rfl, q2, ffr, x.nk, vv, rfl, ⟨.inr ⟨od, hq⟩, rank_keys (ranks_tk tk7 rkf)⟩, isk, fx, ?_⟩
      refine ⟨_, rfl, p, _, dx, _, _, rfl, hp7, cl, T.n_Web_ranks, rfl, _, rfl, r, fr', x.nk, rfl, hr7, rank_keys rk7, isk, small1000 (by omega), ?_⟩
      have tk8 : TK H'' (L2.upd H'' r (DN w r (putM fr' x.nk v vv))) := fun a' xs z => by
        rw [upd_ne (ne_of z hr7 fun e => nomatch e)]
        exact z
      refine ⟨_, putM fr' x.nk v vv, rfl, fun b o e n1 n2 => by rw [upd_ne n1]; exact kp b o e n1 n2, by rw [upd_ne qr]; exact hq, upd_same, ?_⟩
      have new : hasT (termsD ds ++ (foundT (termsD ds) [r0]).take n) x = false := by
        refine Bool.eq_false_iff.mpr fun z => ?_
        have m := (hasT_iff (fun u m => SF.tm u (List.mem_append.mpr ((List.mem_append.mp m).imp id List.mem_of_mem_take))) tx).mp z
        have nd := SF.nd
        have sp : (termsD ds ++ foundT (termsD ds) [r0]) = (termsD ds ++ (foundT (termsD ds) [r0]).take n) ++ (foundT (termsD ds) [r0]).drop n := by rw [List.append_assoc, List.take_append_drop]
        rw [sp, List.map_append] at nd
        have mx : x ∈ (foundT (termsD ds) [r0]).drop n := by
          refine List.mem_of_getElem? (i := 0) ?_
          rw [List.getElem?_drop]
          exact ex
        exact (List.nodup_append.mp nd).2.2 _ (List.mem_map.mpr ⟨x, m, rfl⟩) _ (List.mem_map.mpr ⟨x, mx, rfl⟩) rfl
      have := rank_put (ranks_tk tk8 rk7) (ra7.tk tk8)
      rw [new, if_neg (by decide), List.append_assoc] at this
      rw [List.take_add_one, ex]
      exact this
    · obtain ⟨y', fr', rfl, kp, hq, hr7, rk7⟩ := h'
      rw [fl, List.take_length, ← terms_app] at rk7
      refine ⟨hq, y', fr', rfl, fun b o e n1 => ?_, by rw [upd_ne qr.symm]; exact hr7, ranks_tk (fun a' xs z => ?_) rk7⟩
      · by_cases z : b = q2
        · subst z
          rw [hq6] at e
          cases e
          exact upd_same
        · rw [upd_ne z]
          exact kp b o e n1 z
      · rw [upd_ne (ne_of z hq fun e => nomatch e)]
        exact z
  obtain ⟨y', fr', rfl, kp7, hr7, rk7⟩ := e7
  have tk67 : TK H6 H7 := fun a' xs z => kp7 _ _ z (ne_of z hr6 fun e => nomatch e)
  have hp7 := kp7 _ _ hp6 pr
  have ht7 := kp7 _ _ (b6 _ _ (s13 _ _ ht) (Ne.symm W.dt)) rt.symm
  have tk07 : TK H H7 := fun a' xs z => tk67 _ _ (tk06 _ _ z)
  have tmT : ∀ x ∈ tellsD ds, ∀ t ∈ x.2, tm t := fun x m => tmd x (List.mem_filter.mp m).1
  have tmT' : ∀ x ∈ tellsD (ds ++ [r0]), ∀ t ∈ x.2, tm t := fun x m => tmd' x (List.mem_filter.mp m).1
  -- the tellings
  refine ⟨fun σ' H' => ∃ tv', σ' = [some (.ref p), some (.ref a), y', some (.ref q2), some (.bl (telling r0))] ∧ (∀ b o, H7 b = some o → b ≠ t → H' b = some o) ∧ H' t = some (.lst tv') ∧ A2 (DeedAt H') tv' (tellsD (ds ++ [r0])), ⟨_, rfl, _, rfl, ?_⟩, fun σ1 H8 e8 => ?_⟩
  · cases ct : telling r0 with
    | false =>
      refine iteF ⟨tv, rfl, fun _ _ e _ => e, ht7, ?_⟩
      rw [tells_app, ct, if_neg (by decide), List.append_nil]
      exact deeds_tk tk07 tt tmT
    | true =>
      refine iteT ⟨_, rfl, p, _, dx, _, _, rfl, hp7, cl, T.n_Web_tellings, rfl, .inl ⟨rfl, _, SqL.of ht7⟩, _, rfl, t, tv, _, rfl, rfl, ht7, small1000 (by have := W.tel; omega), tv ++ [.ref a], rfl, fun b o e n => by rw [upd_ne n]; exact e, upd_same, ?_⟩
      rw [tells_app, ct, if_pos rfl]
      have tk8 : TK H (L2.upd H7 t (.lst (tv ++ [.ref a]))) := fun a' xs z => by
        rw [upd_ne (ne_of (tk07 _ _ z) ht7 fun e => nomatch e)]
        exact tk07 _ _ z
      exact (deeds_tk tk8 tt tmT).app (.cons ((show DeedAt H (.ref a) r0 from ⟨a, vs, rfl, ha, rvs⟩).tk dok.1 tk8) .nil)
  obtain ⟨tv', rfl, kp8, ht8, tt8⟩ := e8
  have k08 : ∀ b o, H b = some o → b ≠ d → b ≠ r → b ≠ t → H8 b = some o := fun b o e n1 n2 n3 => kp8 _ _ (kp7 _ _ (b6 _ _ (s13 _ _ e) n1) n2) n3
  have hp8 := k08 _ _ hp pd pr pt
  have hd8 := kp8 _ _ (kp7 _ _ hd6 rd.symm) W.dt
  have hu8 := k08 _ _ hu W.du.symm (ne_of hu hr' fun e => nomatch e) W.ut
  have hr8 := kp8 _ _ hr7 rt
  have tk78 : TK H7 H8 := fun a' xs z => kp8 _ _ z (ne_of z ht7 fun e => nomatch e)
  have tk08 : TK H H8 := fun a' xs z => tk78 _ _ (tk07 _ _ z)
  have rk8 := ranks_tk tk78 rk7
  have fr08 : FrM [p, d, u, t, r] [p, d, u, t, r] H H8 := fun b o e _ n => by
    simp only [List.mem_cons, List.not_mem_nil, or_false, not_or] at n
    exact ⟨by simp only [List.mem_cons, List.not_mem_nil, or_false, not_or]; exact n, k08 b o e n.2.1 n.2.2.2.2 n.2.2.2.1⟩
  have tb8 : LamX.Tabs (tabsW tP) H8 := tabs_keep tb fun b o e t => k08 b o e (ne_of e hd t.lst) (ne_of e hr' t.dn) (ne_of e ht t.lst)
  have dd8 : A2 (DeedAt H8) (dv ++ [.ref a]) (ds ++ [r0]) := (deeds_tk tk08 dd tmd).app (.cons ((show DeedAt H (.ref a) r0 from ⟨a, vs, rfl, ha, rvs⟩).tk dok.1 tk08) .nil)
  have uu8 : A2 (DeedAt H8) uv us := deeds_tk tk08 uu fun x m => (W.oku x m).1
  have S' := terms_tms tmd'
  obtain ⟨nn8, nd8⟩ := Mok.fr fr08 W.nn W.nd
  have okd' : ∀ x ∈ ds ++ [r0], deedOk x := fun x m => (List.mem_append.mp m).elim (W.okd x) fun m => by rw [List.mem_singleton.mp m]; exact dok
  -- what is alike
  refine ⟨fun σ' H' => σ' = [some (.ref p), some (.ref a), y', some (.ref q2), some (.bl (telling r0))] ∧ FrM [p, d, u, t, r] [p, d, u, t, r] H H' ∧ LamX.Tabs (tabsW tP) H' ∧ WebAt w (clsA mg "Web") (clsA mg "Likeness") N H' p d u t r (ds ++ [r0]) us, ?_, fun σ1 H9 e9 => ?_⟩
  · have settle : ∀ E', sp_wset (clsA mg "Web") (clsA mg "Likeness") tP w [.ref p] H8 (fun _ H' => ([some (.ref p), some (.ref a), y', some (.ref q2), some (.bl (telling r0))] : L2.St) = [some (.ref p), some (.ref a), y', some (.ref q2), some (.bl (telling r0))] ∧ FrM [p, d, u, t, r] [p, d, u, t, r] H H' ∧ LamX.Tabs (tabsW tP) H' ∧ WebAt w (clsA mg "Web") (clsA mg "Likeness") N H' p d u t r (ds ++ [r0]) us) E' := fun E' => by
      refine ⟨p, dx, d, u, t, r, g, l, N, _, uv, tv', tellsD (ds ++ [r0]), fr', termsD (ds ++ [r0]), rfl, nn8, nd8, tb8, hp8, hd8, hu8, ht8, tt8, fun x m => (okd' x (List.mem_filter.mp m).1).two (List.mem_filter.mp m).2, by omega, fun x m z hz => terms_arg tmd' (List.mem_filter.mp m).1 hz, hr8, rk8, S', by omega, fun H9 g' l' c3 c4 c5 gv' L9 k9 tb9 hp9 hg9 rg9 lk9 => ?_⟩
      have tk9 : TK H8 H9 := fun a' xs z => k9 _ _ z (fun _ e => nomatch e) (ne_of z hp8 fun e => nomatch e)
      refine ⟨rfl, fr08.trans fun b o e t n => ⟨n, k9 b o e t fun z => n (by rw [z]; exact List.mem_cons_self)⟩, tb9, ⟨⟨_, k9 _ _ hd8 (fun _ e => nomatch e) pd.symm, deeds_tk tk9 dd8 tmd'⟩, ⟨uv, k9 _ _ hu8 (fun _ e => nomatch e) (ne_of hu8 hp8 fun e => nomatch e), deeds_tk tk9 uu8 fun x m => (W.oku x m).1⟩, ⟨tv', k9 _ _ ht8 (fun _ e => nomatch e) pt.symm, deeds_tk tk9 tt8 tmT'⟩,
        ⟨fr', k9 _ _ hr8 (fun _ e => nomatch e) pr.symm, ranks_tk tk9 rk8⟩, ⟨dx, g', l', gv', c3, c4, c5, L9, hp9, hg9, rg9, lk9⟩, W.du, W.dt, W.ut, okd', W.oku, t60, l40, (fun b m => let ⟨o, e, t, n⟩ := nn8 b m; ⟨o, k9 _ _ e t (fun z => nd8 b m (by rw [z]; exact List.mem_cons_self)), t, n⟩), nd8⟩⟩
    refine ⟨_, rfl, q2, ffr, rfl, ⟨.inl (kp8 _ _ (kp7 _ _ hq6 qr) qt), rank_keys (ranks_tk (fun a' xs z => tk78 _ _ (tk67 _ _ (tk56 _ _ z))) rkf)⟩, ?_⟩
    cases ce : (!ffr.isEmpty) with
    | true => exact iteT (iteT ⟨_, rfl, p, dx, _, rfl, hp8, rfl, settle E⟩)
    | false =>
      refine iteF ⟨_, rfl, a, _, 0, .str r0.1, rfl, rfl, SqT.of (tk08 _ _ ha), atI_nat (j := 0) rfl, rfl, _, rfl, ?_⟩
      by_cases el : r0.1 = ("like" : Str)
      · rw [show decide (V.str r0.1 = V.str "like") = true by rw [el]; rfl]
        exact iteT ⟨_, rfl, p, dx, _, rfl, hp8, rfl, settle E⟩
      · rw [decide_eq_false (p := V.str r0.1 = V.str "like") fun z => el (by injection z)]
        refine iteF ⟨rfl, fr08, tb8, ?_⟩
        have F0 : foundT (termsD ds) [r0] = [] := by
          cases ef : foundT (termsD ds) [r0] with
          | nil => rfl
          | cons x xs =>
            rw [ef] at fl
            cases ffr with
            | nil => cases fl
            | cons _ _ => cases ce
        have eT : termsD (ds ++ [r0]) = termsD ds := by rw [terms_app, F0, List.append_nil]
        have eL : likesT (tellsD (ds ++ [r0])) = likesT (tellsD ds) := by
          unfold likesT
          rw [tells_app]
          cases telling r0 with
          | false => rw [if_neg (by decide), List.append_nil]
          | true => rw [if_pos rfl, numd_app, if_neg el, List.append_nil]
        have sm := (fr08.plus N).same
        exact ⟨⟨_, hd8, dd8⟩, ⟨uv, hu8, uu8⟩, ⟨tv', ht8, tt8⟩, ⟨fr', hr8, rk8⟩, ⟨dx, g, l, gv, b3, b4, b5, L7, hp8, sm _ _ hg, by rw [eT]; exact rg.wk (Wk.same sm), by rw [eT, eL]; exact lk.same sm⟩, W.du, W.dt, W.ut, okd', W.oku, t60, l40, nn8, nd8⟩
  obtain ⟨rfl, fr9, tb9, W9⟩ := e9
  obtain ⟨dx9, g9, l9, _, _, _, _, _, hp9, _⟩ := W9.ob
  obtain ⟨tv9, ht9, tt9⟩ := W9.te
  refine ⟨_, rfl, _, rfl, ?_⟩
  have qq := q H9 fr9 tb9 W9
  unfold ansD at qq
  cases ct : telling r0 with
  | false =>
    rw [ct, if_neg (by decide)] at qq
    exact iteF qq
  | true =>
    rw [ct, if_pos rfl] at qq
    refine iteT ⟨_, rfl, p, _, dx9, _, _, rfl, hp9, cl, T.n_Web_tellings, rfl, _, _, rfl, .inl ⟨tv9, SqL.of ht9, rfl⟩, ?_⟩
    rw [tt9.len]
    exact qq
end
end Kt
namespace Kt
open PySem PySem.Spec PyProof.Rows L2
/-! ### put, like, unlike, log -/
def sp_new (CW CL tP : Addr) (w : World) : Sp := fun vs H Q _ => ∃ (p d u t r : Addr) (N : List Addr) (v : V) (ds us : List Deed) (r0 : Deed), vs = [.ref p, v] ∧ WebAt w CW CL N H p d u t r ds us ∧ LamX.Tabs (tabsW tP) H ∧ DeedAt H v r0 ∧ deedOk r0 ∧ ds.length ≤ 900 ∧ (termsD (ds ++ [r0])).length ≤ 60 ∧ (tellsD (ds ++ [r0])).length ≤ 40 ∧
  ∀ H' u', FrM [p, d, u, t, r] [p, d, u', t, r] H H' → LamX.Tabs (tabsW tP) H' → WebAt w CW CL N H' p d u' t r (ds ++ [r0]) [] → Q (ansD ds r0) H'
/-- a deed by its terms -/
def sp_deed (z : Str) (CW CL tP : Addr) (w : World) : Sp := fun vs H Q _ => ∃ (p d u t r : Addr) (N : List Addr) (xs : List V) (ds us : List Deed) (ts : List Th), vs = .ref p :: xs ∧ WebAt w CW CL N H p d u t r ds us ∧ LamX.Tabs (tabsW tP) H ∧ RepL H xs ts ∧ deedOk (z, ts) ∧ ds.length ≤ 900 ∧ (termsD (ds ++ [(z, ts)])).length ≤ 60 ∧ (tellsD (ds ++ [(z, ts)])).length ≤ 40 ∧
  ∀ H' u', FrM [p, d, u, t, r] [p, d, u', t, r] H H' → LamX.Tabs (tabsW tP) H' → WebAt w CW CL N H' p d u' t r (ds ++ [(z, ts)]) [] → Q (ansD ds (z, ts)) H'
def sp_log (CW CL : Addr) (w : World) : Sp := fun vs H Q _ => ∃ (p d u t r : Addr) (N : List Addr) (ds us : List Deed), vs = [.ref p] ∧ WebAt w CW CL N H p d u t r ds us ∧
  ∀ q H' dv, Same H H' → H q = none → H' q = some (.lst dv) → A2 (DeedAt H') dv ds → Q (.ref q) H'
theorem deed_put {ts : List Th} (h : deedOk ("put", ts)) : ts.length = 1 := h.2.elim (fun q => q.2) fun q => absurd (show ("put" : Str) = "like" ∨ ("put" : Str) = "unlike" from q.1) (by decide)
theorem deed_like {ts : List Th} (h : deedOk ("like", ts)) : ts.length = 2 := h.2.elim (fun q => absurd (show ("like" : Str) = "put" from q.1) (by decide)) fun q => q.2
theorem deed_unlike {ts : List Th} (h : deedOk ("unlike", ts)) : ts.length = 2 := h.2.elim (fun q => absurd (show ("unlike" : Str) = "put" from q.1) (by decide)) fun q => q.2
theorem FrM.wk {M M' : List Addr} {H H' : Hp} (f : FrM M M' H H') (k : Mok M H) : TK H H' := fun a xs z => (f a _ z (fun _ e => nomatch e) (k.tup z)).2
section
variable {P : Program} {w : World} {K : PySem.W.Frag} {mg : Str → Option Value} {base : Heap} {cA tP : Addr}
theorem c_Web__new_deed (T : Tx K mg) (L : TxL K mg base cA tP) : ClM P w K mg base CX0 22 (clsA mg "Web") "_new_deed" ["self", "row"] (sp_new (clsA mg "Web") (clsA mg "Likeness") tP w) := by
  refine ClM.mk0 T.d_Web__new_deed sc_Web__new_deed (fun vs H Q E h => ?_) (fun f cdv A outer s H vs Q E hr h => ?_)
  · obtain ⟨p, d, u, t, r, N, v, ds, us, r0, rfl, _⟩ := h
    rfl
  obtain ⟨p, d, u, t, r, N, v, ds, us, r0, rfl, W, tb, dAt, dok, d900, t60, l40, q⟩ := h
  refine ⟨_, (pss_cons (ps_set (i := 2) sc_Web__new_deed.nd rfl (Or.inl rfl) (pe_mm T.c_Web.c (c_Web__do T L) hr (by omega) (pv 0) (pa_cons (pv 1) pa_nil)))
    (pss_cons (ps_fld (pv 0) (pe_lst pa_nil) rfl)
    (pss_one (ps_ret (pv 2))))), ?_⟩
  have cl := T.c_Web.c
  obtain ⟨dx, g, l, _, _, _, _, _, hp, _⟩ := W.ob
  refine ⟨_, rfl, p, dx, _, rfl, hp, rfl, _, rfl, p, d, u, t, r, N, v, ds, us, r0, rfl, W, tb, dAt, dok, d900, t60, l40, fun H1 f1 tb1 W1 => ?_⟩
  obtain ⟨dx1, g1, l1, gv, b3, b4, b5, L7, hp1, hg1, rg1, lk1⟩ := W1.ob
  obtain ⟨dv, hd1, dd1⟩ := W1.de
  obtain ⟨tv, ht1, tt1⟩ := W1.te
  obtain ⟨fr, hr1, rk1⟩ := W1.ra
  refine ⟨Nat.zero_le _, fun u' hu' => ⟨_, rfl, p, _, dx1, _, rfl, (same_new hu' _) _ _ hp1, cl, T.n_Web_undone, by show 6 < 1000; decide, ?_⟩⟩
  have s2 := same_new (o := .lst []) hu'
  obtain ⟨H2, e2⟩ : ∃ H2, H2 = L2.upd (L2.upd H1 u' (.lst [])) p (.ins (clsA mg "Web") dx1 (putF "undone" (.ref u') (wbF d u t r g1 l1))) := ⟨_, rfl⟩
  have b2 : Bt p H1 H2 := by rw [e2]; exact (Bt.of s2).trans (Bt.upd _)
  have hp2 : H2 p = some (.ins (clsA mg "Web") dx1 (wbF d u' t r g1 l1)) := by rw [e2]; exact upd_same
  have hu2 : H2 u' = some (.lst []) := by rw [e2, upd_ne (ne_of_none hp1 hu').symm]; exact upd_same
  erw [← e2]
  have f2 : FrM [p, d, u, t, r] [p, d, u', t, r] H1 H2 := fun b o e _ n => by
    simp only [List.mem_cons, List.not_mem_nil, or_false, not_or] at n ⊢
    exact ⟨⟨n.1, n.2.1, ne_of_none e hu', n.2.2.2⟩, b2 _ _ e n.1⟩
  have tk2 : TK H1 H2 := fun a xs z => b2 _ _ z (ne_of z hp1 fun e => nomatch e)
  have sm := (f2.plus N).same
  obtain ⟨nn2, nd2⟩ := Mok.fr f2 W1.nn W1.nd
  have tmT : ∀ x ∈ tellsD (ds ++ [r0]), ∀ t ∈ x.2, tm t := fun x m => W1.tmd x (List.mem_filter.mp m).1
  exact ⟨_, rfl, q H2 u' (f1.trans f2) (tabs_keep tb1 fun b o e t => b2 _ _ e (ne_of e hp1 t.ins)) ⟨⟨dv, b2 _ _ hd1 (ne_of hd1 hp1 fun e => nomatch e), deeds_tk tk2 dd1 W1.tmd⟩, ⟨[], hu2, .nil⟩, ⟨tv, b2 _ _ ht1 (ne_of ht1 hp1 fun e => nomatch e), deeds_tk tk2 tt1 tmT⟩, ⟨fr, b2 _ _ hr1 (ne_of hr1 hp1 fun e => nomatch e), ranks_tk tk2 rk1⟩,
    ⟨dx1, g1, l1, gv, b3, b4, b5, L7, hp2, sm _ _ hg1, rg1.wk (Wk.same sm), lk1.same sm⟩, ne_of_none hd1 hu', W1.dt, (ne_of_none ht1 hu').symm, W1.okd, (fun _ m => absurd m List.not_mem_nil), W1.few, W1.tel, nn2, nd2⟩⟩
theorem c_Web_put_f (T : Tx K mg) (L : TxL K mg base cA tP) : ClMF P w K mg base CX0 23 (clsA mg "Web") "put" "Web.put" s_Web_put ["self", "term"] (sp_deed "put" (clsA mg "Web") (clsA mg "Likeness") tP w) := by
  refine ClMF.mk0 T.d_Web_put sc_Web_put (fun vs H Q E h => ?_) (fun f cdv A outer s H vs Q E hr h => ?_)
  · obtain ⟨p, d, u, t, r, N, xs, ds, us, ts, rfl, _, _, rx, ok, _⟩ := h
    have l1 := rx.length
    have l2 := deed_put ok
    rw [List.length_cons, l1, l2]
    rfl
  obtain ⟨p, d, u, t, r, N, xs, ds, us, ts, rfl, W, tb, rx, ok, d900, t60, l40, q⟩ := h
  have l2 := deed_put ok
  refine ⟨_, (pss_one (ps_ret (pe_mm T.c_Web.c (c_Web__new_deed T L) hr (by omega) (pv 0) (pa_cons (pe_tup (pa_cons (pe_glob (v := .str "put") (by rfl) T.m_PUT.choose_spec ⟨_, rfl⟩) (pa_cons (pv 1) pa_nil))) pa_nil)))), ?_⟩
  have cl := T.c_Web.c
  obtain ⟨dx, g, l, _, _, _, _, _, hp, _⟩ := W.ob
  obtain ⟨x0, rfl⟩ : ∃ x0, xs = [x0] := by
    have l1 := rx.length
    match xs, l1.trans l2 with
    | [x0], _ => exact ⟨x0, rfl⟩
  refine ⟨_, rfl, p, dx, _, rfl, hp, rfl, _, rfl, by show 2 ≤ sizeLine; decide, fun p1 h1 => ?_⟩
  have s1 := same_new (o := .tup [.str "put", x0]) h1
  have W1 := W.keep fun b o e _ => s1 b o e
  refine ⟨p, d, u, t, r, N, .ref p1, ds, us, ("put", _), rfl, W1, tb.ext s1, ⟨p1, _, rfl, upd_same, rx.wk (Wk.same s1)⟩, ok, d900, t60, l40, fun H' u' f' tb' W' => q H' u' ((FrM.of s1).trans f') tb' W'⟩
theorem c_Web_put (T : Tx K mg) (L : TxL K mg base cA tP) : ClM P w K mg base CX0 23 (clsA mg "Web") "put" ["self", "term"] (sp_deed "put" (clsA mg "Web") (clsA mg "Likeness") tP w) := (c_Web_put_f T L).cl
theorem c_Web_like_f (T : Tx K mg) (L : TxL K mg base cA tP) : ClMF P w K mg base CX0 23 (clsA mg "Web") "like" "Web.like" s_Web_like ["self", "one", "other"] (sp_deed "like" (clsA mg "Web") (clsA mg "Likeness") tP w) := by
  refine ClMF.mk0 T.d_Web_like sc_Web_like (fun vs H Q E h => ?_) (fun f cdv A outer s H vs Q E hr h => ?_)
  · obtain ⟨p, d, u, t, r, N, xs, ds, us, ts, rfl, _, _, rx, ok, _⟩ := h
    have l1 := rx.length
    have l2 := deed_like ok
    rw [List.length_cons, l1, l2]
    rfl
  obtain ⟨p, d, u, t, r, N, xs, ds, us, ts, rfl, W, tb, rx, ok, d900, t60, l40, q⟩ := h
  have l2 := deed_like ok
  refine ⟨_, (pss_one (ps_ret (pe_mm T.c_Web.c (c_Web__new_deed T L) hr (by omega) (pv 0) (pa_cons (pe_tup (pa_cons (pe_glob (v := .str "like") (by rfl) T.m_LIKE.choose_spec ⟨_, rfl⟩) (pa_cons (pv 1) (pa_cons (pv 2) pa_nil)))) pa_nil)))), ?_⟩
  have cl := T.c_Web.c
  obtain ⟨dx, g, l, _, _, _, _, _, hp, _⟩ := W.ob
  obtain ⟨x0, x1, rfl⟩ : ∃ x0 x1, xs = [x0, x1] := by
    have l1 := rx.length
    match xs, l1.trans l2 with
    | [x0, x1], _ => exact ⟨x0, x1, rfl⟩
  refine ⟨_, rfl, p, dx, _, rfl, hp, rfl, _, rfl, _, rfl, by show 3 ≤ sizeLine; decide, fun p1 h1 => ?_⟩
  have s1 := same_new (o := .tup [.str "like", x0, x1]) h1
  have W1 := W.keep fun b o e _ => s1 b o e
  refine ⟨p, d, u, t, r, N, .ref p1, ds, us, ("like", _), rfl, W1, tb.ext s1, ⟨p1, _, rfl, upd_same, rx.wk (Wk.same s1)⟩, ok, d900, t60, l40, fun H' u' f' tb' W' => q H' u' ((FrM.of s1).trans f') tb' W'⟩
theorem c_Web_like (T : Tx K mg) (L : TxL K mg base cA tP) : ClM P w K mg base CX0 23 (clsA mg "Web") "like" ["self", "one", "other"] (sp_deed "like" (clsA mg "Web") (clsA mg "Likeness") tP w) := (c_Web_like_f T L).cl
theorem c_Web_unlike_f (T : Tx K mg) (L : TxL K mg base cA tP) : ClMF P w K mg base CX0 23 (clsA mg "Web") "unlike" "Web.unlike" s_Web_unlike ["self", "one", "other"] (sp_deed "unlike" (clsA mg "Web") (clsA mg "Likeness") tP w) := by
  refine ClMF.mk0 T.d_Web_unlike sc_Web_unlike (fun vs H Q E h => ?_) (fun f cdv A outer s H vs Q E hr h => ?_)
  · obtain ⟨p, d, u, t, r, N, xs, ds, us, ts, rfl, _, _, rx, ok, _⟩ := h
    have l1 := rx.length
    have l2 := deed_unlike ok
    rw [List.length_cons, l1, l2]
    rfl
  obtain ⟨p, d, u, t, r, N, xs, ds, us, ts, rfl, W, tb, rx, ok, d900, t60, l40, q⟩ := h
  have l2 := deed_unlike ok
  refine ⟨_, (pss_one (ps_ret (pe_mm T.c_Web.c (c_Web__new_deed T L) hr (by omega) (pv 0) (pa_cons (pe_tup (pa_cons (pe_glob (v := .str "unlike") (by rfl) T.m_UNLIKE.choose_spec ⟨_, rfl⟩) (pa_cons (pv 1) (pa_cons (pv 2) pa_nil)))) pa_nil)))), ?_⟩
  have cl := T.c_Web.c
  obtain ⟨dx, g, l, _, _, _, _, _, hp, _⟩ := W.ob
  obtain ⟨x0, x1, rfl⟩ : ∃ x0 x1, xs = [x0, x1] := by
    have l1 := rx.length
    match xs, l1.trans l2 with
    | [x0, x1], _ => exact ⟨x0, x1, rfl⟩
  refine ⟨_, rfl, p, dx, _, rfl, hp, rfl, _, rfl, _, rfl, by show 3 ≤ sizeLine; decide, fun p1 h1 => ?_⟩
  have s1 := same_new (o := .tup [.str "unlike", x0, x1]) h1
  have W1 := W.keep fun b o e _ => s1 b o e
  refine ⟨p, d, u, t, r, N, .ref p1, ds, us, ("unlike", _), rfl, W1, tb.ext s1, ⟨p1, _, rfl, upd_same, rx.wk (Wk.same s1)⟩, ok, d900, t60, l40, fun H' u' f' tb' W' => q H' u' ((FrM.of s1).trans f') tb' W'⟩
theorem c_Web_unlike (T : Tx K mg) (L : TxL K mg base cA tP) : ClM P w K mg base CX0 23 (clsA mg "Web") "unlike" ["self", "one", "other"] (sp_deed "unlike" (clsA mg "Web") (clsA mg "Likeness") tP w) := (c_Web_unlike_f T L).cl
theorem k_Web_put (T : Tx K mg) (L : TxL K mg base cA tP) : ClMK P w K mg base CX0 23 (clsA mg "Web") "put" ["self", "term"] ["term"] (fun l => l) (sp_deed "put" (clsA mg "Web") (clsA mg "Likeness") tP w) :=
  (c_Web_put_f T L).kw fun kV doc pm an cdv ct u us hl => by
    match us, hl with
    | [a], _ => rfl
theorem k_Web_like_sw (T : Tx K mg) (L : TxL K mg base cA tP) : ClMK P w K mg base CX0 23 (clsA mg "Web") "like" ["self", "one", "other"] ["other", "one"] swp (sp_deed "like" (clsA mg "Web") (clsA mg "Likeness") tP w) :=
  (c_Web_like_f T L).kw fun kV doc pm an cdv ct u us hl => by
    match us, hl with
    | [a, b], _ => rfl
theorem k_Web_unlike_sw (T : Tx K mg) (L : TxL K mg base cA tP) : ClMK P w K mg base CX0 23 (clsA mg "Web") "unlike" ["self", "one", "other"] ["other", "one"] swp (sp_deed "unlike" (clsA mg "Web") (clsA mg "Likeness") tP w) :=
  (c_Web_unlike_f T L).kw fun kV doc pm an cdv ct u us hl => by
    match us, hl with
    | [a, b], _ => rfl
theorem c_Web_log (T : Tx K mg) : ClM P w K mg base CX0 1 (clsA mg "Web") "log" ["self"] (sp_log (clsA mg "Web") (clsA mg "Likeness") w) := by
  refine ClM.mk0 T.d_Web_log sc_Web_log (fun vs H Q E h => ?_) (fun f cdv A outer s H vs Q E hr h => ?_)
  · obtain ⟨p, d, u, t, r, N, ds, us, rfl, _⟩ := h
    rfl
  obtain ⟨p, d, u, t, r, N, ds, us, rfl, W, q⟩ := h
  refine ⟨_, (pss_one (ps_ret (pe_callTy call_list_of (by rfl) T.z_list (by decide +kernel) (pa_cons (pe_fld (pv 0) rfl) pa_nil)))), ?_⟩
  obtain ⟨dx, g, l, _, _, _, _, _, hp, _⟩ := W.ob
  obtain ⟨dv, hd, dd⟩ := W.de
  exact ⟨_, rfl, p, _, dx, _, _, rfl, hp, T.c_Web.c, T.n_Web_deeds, rfl, d, dv, rfl, .inl (SqL.of hd), fun l hl => q l _ dv (same_new hl _) hl upd_same (dd.imp fun _ _ a => a.wk (Wk.same (same_new hl _)))⟩
end
end Kt
namespace Kt
open PySem PySem.Spec PyProof.Rows L2
/-! ### what a web tells: terms, len, classes -/
theorem hid_tk (M : List Addr) (H : Hp) : TK (hidW M H) H := fun _ _ z => (hidW_out z).1
/-- the classes so far, each with its low -/
def addC : List (Nat × List Th) → Th × Nat → List (Nat × List Th)
  | [], p => [(p.2, [p.1])]
  | c :: cs, p => if c.1 = p.2 then (c.1, c.2 ++ [p.1]) :: cs else c :: addC cs p
def clsL (ts : List Th) (L : List Nat) : List (Nat × List Th) := (ts.zip L).foldl addC []
def ClsAt (H : Hp) (kv : Key × V) (c : Nat × List Th) : Prop := kv.1 = .inl (c.1 : Nat) ∧ ∃ a xs, kv.2 = .ref a ∧ H a = some (.lst xs) ∧ RepL H xs c.2
theorem cls_out {H : Hp} {kvs : List (Key × V)} {cs : List (Nat × List Th)} (h : A2 (ClsAt H) kvs cs) {p : Th × Nat} (e : valV kvs (.inl (p.2 : Nat)) = none) : addC cs p = cs ++ [(p.2, [p.1])] := by
  induction h with
  | nil => rfl
  | @cons kv kvs c cs a t ih =>
    by_cases z : kv.1 = .inl (p.2 : Nat)
    · rw [valV_pos z] at e
      cases e
    · rw [valV_neg z] at e
      show (if c.1 = p.2 then _ else _) = _
      rw [if_neg fun y => z (by rw [a.1, y]), ih e]
      rfl
theorem ClsAt.to {H H' : Hp} {kv : Key × V} {c : Nat × List Th} (h : ClsAt H kv c) {a : Addr} (n : kv.2 ≠ .ref a) (k : ∀ b o, H b = some o → b ≠ a → H' b = some o) (wk : Wk H H') : ClsAt H' kv c := by
  obtain ⟨e, b, xs, e2, hb, r⟩ := h
  exact ⟨e, b, xs, e2, k _ _ hb fun z => n (by rw [e2, z]), r.wk wk⟩
theorem cls_to {H H' : Hp} {a : Addr} (k : ∀ b o, H b = some o → b ≠ a → H' b = some o) (wk : Wk H H') : ∀ {kvs : List (Key × V)} {cs : List (Nat × List Th)}, A2 (ClsAt H) kvs cs → (∀ kv ∈ kvs, kv.2 ≠ .ref a) → A2 (ClsAt H') kvs cs
  | _, _, .nil, _ => .nil
  | _, _, .cons h t, n => .cons (h.to (n _ List.mem_cons_self) k wk) (cls_to k wk t fun kv m => n kv (List.mem_cons_of_mem _ m))
theorem cls_hit {H : Hp} {kvs : List (Key × V)} {cs : List (Nat × List Th)} (h : A2 (ClsAt H) kvs cs) (nd : (kvs.map (·.2)).Nodup) {p : Th × Nat} {v : V} (e : valV kvs (.inl (p.2 : Nat)) = some v) : ∃ a xs, v = .ref a ∧ v ∈ kvs.map (·.2) ∧ H a = some (.lst xs) ∧ (∃ c ∈ cs, xs.length = c.2.length) ∧
    ∀ {H' : Hp} {x : V}, (∀ b o, H b = some o → b ≠ a → H' b = some o) → Wk H H' → H' a = some (.lst (xs ++ [x])) → Rep H' x p.1 → A2 (ClsAt H') kvs (addC cs p) := by
  induction h with
  | nil => cases e
  | @cons kv kvs c cs a t ih =>
    rw [List.map_cons, List.nodup_cons] at nd
    by_cases z : kv.1 = .inl (p.2 : Nat)
    · rw [valV_pos z] at e
      cases e
      obtain ⟨e1, b, xs, e2, hb, r⟩ := a
      have cp : c.1 = p.2 := by
        rw [e1] at z
        injection z with z
        omega
      refine ⟨b, xs, e2, List.mem_cons_self, hb, ⟨c, List.mem_cons_self, r.length⟩, fun {H' x} k wk hb' rx => ?_⟩
      show A2 _ _ (if c.1 = p.2 then _ else _)
      rw [if_pos cp]
      refine .cons ⟨e1, b, _, e2, hb', (r.wk wk).append (.cons rx .nil)⟩ (cls_to k wk t fun kv' m y => nd.1 ?_)
      rw [e2, ← y]
      exact List.mem_map.mpr ⟨kv', m, rfl⟩
    · rw [valV_neg z] at e
      obtain ⟨b, xs, e2, mv, hb, ⟨c', mc, ec⟩, go⟩ := ih nd.2 e
      refine ⟨b, xs, e2, List.mem_cons_of_mem _ mv, hb, ⟨c', List.mem_cons_of_mem _ mc, ec⟩, fun {H' x} k wk hb' rx => ?_⟩
      show A2 _ _ (if c.1 = p.2 then _ else _)
      rw [if_neg fun y => z (by rw [a.1, y])]
      exact .cons (a.to (fun y => nd.1 (by rw [y, ← e2]; exact mv)) k wk) (go k wk hb' rx)
/-- the lists of the classes -/
def ClassAt (H : Hp) (v : V) (c : List Th) : Prop := ∃ a xs, v = .ref a ∧ H a = some (.lst xs) ∧ RepL H xs c
theorem cls_vals {H : Hp} {kvs : List (Key × V)} {cs : List (Nat × List Th)} (h : A2 (ClsAt H) kvs cs) : A2 (ClassAt H) (kvs.map (·.2)) (cs.map (·.2)) := by
  induction h with
  | nil => exact .nil
  | cons a _ ih => exact .cons a.2 ih
theorem addC_len (cs : List (Nat × List Th)) (p : Th × Nat) : (addC cs p).length ≤ cs.length + 1 := by
  induction cs with
  | nil => exact Nat.le_refl _
  | cons c cs ih =>
    show (if c.1 = p.2 then _ else _ : List (Nat × List Th)).length ≤ _
    split
    · exact Nat.le_succ _
    · rw [List.length_cons, List.length_cons]
      exact Nat.succ_le_succ ih
theorem addC_each {n : Nat} (cs : List (Nat × List Th)) (p : Th × Nat) (h : ∀ c ∈ cs, c.2.length ≤ n) : ∀ c ∈ addC cs p, c.2.length ≤ n + 1 := by
  induction cs with
  | nil =>
    intro c m
    rw [List.mem_singleton.mp m]
    exact Nat.succ_le_succ (Nat.zero_le _)
  | cons a cs ih =>
    intro c m
    have m : c ∈ (if a.1 = p.2 then (a.1, a.2 ++ [p.1]) :: cs else a :: addC cs p) := m
    have ih := ih fun c m => h c (List.mem_cons_of_mem _ m)
    have ha := h a List.mem_cons_self
    split at m
    · rcases List.mem_cons.mp m with e | m
      · rw [e, List.length_append]
        exact Nat.succ_le_succ ha
      · exact Nat.le_succ_of_le (h c (List.mem_cons_of_mem _ m))
    · rcases List.mem_cons.mp m with e | m
      · rw [e]
        exact Nat.le_succ_of_le ha
      · exact ih c m
def sp_terms (CW CL : Addr) (w : World) : Sp := fun vs H Q _ => ∃ (p d u t r : Addr) (N : List Addr) (ds us : List Deed), vs = [.ref p] ∧ WebAt w CW CL N H p d u t r ds us ∧
  ∀ q H' tv, Same H H' → H q = none → H' q = some (.lst tv) → RepL H' tv (risT (termsD ds)) → Q (.ref q) H'
def sp_len (CW CL : Addr) (w : World) : Sp := fun vs H Q _ => ∃ (p d u t r : Addr) (N : List Addr) (ds us : List Deed), vs = [.ref p] ∧ WebAt w CW CL N H p d u t r ds us ∧ Q (.int (termsD ds).length) H
def sp_classes (CW CL : Addr) (w : World) : Sp := fun vs H Q _ => ∃ (p d u t r : Addr) (N : List Addr) (ds us : List Deed), vs = [.ref p] ∧ WebAt w CW CL N H p d u t r ds us ∧
  ∀ q H' cv L, Same H H' → H q = none → H' q = some (.lst cv) → Lk.IsLows (rowsT (risT (termsD ds))) (prsT (risT (termsD ds)) (likesT (tellsD ds))) L → A2 (ClassAt H') cv ((clsL (risT (termsD ds)) L).map (·.2)) → Q (.ref q) H'
section
variable {P : Program} {w : World} {K : PySem.W.Frag} {mg : Str → Option Value} {base : Heap} {cA tP : Addr}
theorem c_Web_terms (T : Tx K mg) : ClM P w K mg base CX0 1 (clsA mg "Web") "terms" ["self"] (sp_terms (clsA mg "Web") (clsA mg "Likeness") w) := by
  refine ClM.mk0 T.d_Web_terms sc_Web_terms (fun vs H Q E h => ?_) (fun f cdv A outer s H vs Q E hr h => ?_)
  · obtain ⟨p, d, u, t, r, N, ds, us, rfl, _⟩ := h
    rfl
  obtain ⟨p, d, u, t, r, N, ds, us, rfl, W, q⟩ := h
  refine ⟨_, (pss_one (ps_ret (pe_callTy call_list_of (by rfl) T.z_list (by decide +kernel) (pa_cons (pe_fld (pv 0) rfl) pa_nil)))), ?_⟩
  obtain ⟨dx, g, l, gv, _, _, _, _, hp, hg, rg, _⟩ := W.ob
  have hg0 := (hidW_out hg).1
  have rg0 := reps_tk (hid_tk _ _) (risT_tms (terms_tms W.tmd)).tm rg
  exact ⟨_, rfl, p, _, dx, _, _, rfl, hp, T.c_Web.c, T.n_Web_rising, rfl, g, gv, rfl, .inl (SqL.of hg0), fun l hl => q l _ gv (same_new hl _) hl upd_same (rg0.wk (Wk.same (same_new hl _)))⟩
theorem c_Web___len__ (T : Tx K mg) : ClM P w K mg base CX0 1 (clsA mg "Web") "__len__" ["self"] (sp_len (clsA mg "Web") (clsA mg "Likeness") w) := by
  refine ClM.mk0 T.d_Web___len__ sc_Web___len__ (fun vs H Q E h => ?_) (fun f cdv A outer s H vs Q E hr h => ?_)
  · obtain ⟨p, d, u, t, r, N, ds, us, rfl, _⟩ := h
    rfl
  obtain ⟨p, d, u, t, r, N, ds, us, rfl, W, q⟩ := h
  refine ⟨_, (pss_one (ps_ret (pe_callB (id := "len") (r := rLenN w) call_lenN (by rfl) T.z_len (by decide +kernel) (pa_cons (pe_fld (pv 0) rfl) pa_nil)))), ?_⟩
  obtain ⟨dx, g, l, _, _, _, _, _, hp, _⟩ := W.ob
  obtain ⟨fr, hr', rk⟩ := W.ra
  have rl := rk.len
  refine ⟨_, rfl, p, _, dx, _, _, rfl, hp, T.c_Web.c, T.n_Web_ranks, rfl, r, fr, rfl, ⟨.inl hr', rank_keys rk⟩, ?_⟩
  rw [rl]
  exact q
theorem c_Web_classes (T : Tx K mg) : ClM P w K mg base CX0 1 (clsA mg "Web") "classes" ["self"] (sp_classes (clsA mg "Web") (clsA mg "Likeness") w) := by
  refine ClM.mk0 T.d_Web_classes sc_Web_classes (fun vs H Q E h => ?_) (fun f cdv A outer s H vs Q E hr h => ?_)
  · obtain ⟨p, d, u, t, r, N, ds, us, rfl, _⟩ := h
    rfl
  obtain ⟨p, d, u, t, r, N, ds, us, rfl, W, q⟩ := h
  refine ⟨_, (pss_cons (ps_set (i := 1) sc_Web_classes.nd rfl (Or.inl rfl) pe_dnewK)
    (pss_cons (ps_for PassesOwn.never rfl (pi_zip (by rfl) T.z_zip (pa_cons (pe_fld (pv 0) rfl) (pa_cons (pe_fld (pe_fld (pv 0) rfl) rfl) pa_nil))) (pg_tup rfl (pgs_cons (pg_name (i := 2) sc_Web_classes.nd rfl (Or.inl rfl)) (pgs_cons (pg_name (i := 3) sc_Web_classes.nd rfl (Or.inl rfl)) pgs_nil)))
      (pss_one (ps_expr (pe_bm PySem.F.plainAttrs_list PySem.F.slot_list_append PySem.F.type_list_append mt_append (pe_dsetd (pv 1) (pv 3) (pe_lst pa_nil) ⟨rfl, rfl, rfl, rfl⟩) (pa_cons (pv 2) pa_nil)))))
    (pss_one (ps_ret (pe_listVals rfl (pv 1) rfl T.z_list (by decide +kernel)))))), ?_⟩
  obtain ⟨dx, g, l, gv, b3, b4, b5, L, hp, hg, rg, lk⟩ := W.ob
  have S := risT_tms (terms_tms W.tmd)
  have hg0 := (hidW_out hg).1
  have rg0 := reps_tk (hid_tk _ _) S.tm rg
  obtain ⟨⟨dl, a1, a2, hl⟩, hL, _, _, low⟩ := lk
  have hl0 := (hidW_out hl).1
  have hL0 := (hidW_out hL).1
  have few := W.few
  have gl := rg0.length
  have rl := risT_len (termsD ds)
  have Ll : L.length = (risT (termsD ds)).length := low.len.trans (by unfold rowsT; rw [List.length_map])
  refine fun F hF => ?_
  have sF := same_new (o := .dK []) hF
  refine ⟨_, rfl, p, _, dx, _, _, rfl, sF _ _ hp, T.c_Web.c, T.n_Web_rising, rfl, _, rfl, p, _, dx, _, _, rfl, sF _ _ hp, T.c_Web.c, T.n_Web_likeness, rfl, l, _, dl, _, _, rfl, sF _ _ hl0, T.c_Likeness.c, T.n_Likeness_lows, rfl, g, b3, gv, natV L, rfl, SqL.of (sF _ _ hg0), SqL.of (sF _ _ hL0),
    for_it (walk_zip (xs := gv) (ys := natV L) (n := gv.length) (by rw [natV_len, Ll, gl, Nat.min_self])) (fun i σ H' => ∃ y2 y3 kvs, σ = [some (.ref p), some (.ref F), y2, y3] ∧ Same H H' ∧ H' F = some (.dK kvs) ∧ kvs.length ≤ i ∧ (∀ c ∈ (((risT (termsD ds)).zip L).take i).foldl addC [], c.2.length ≤ i) ∧ (kvs.map (·.2)).Nodup ∧ (∀ kv ∈ kvs, ∃ a, kv.2 = .ref a ∧ H a = none) ∧ A2 (ClsAt H') kvs (((risT (termsD ds)).zip L).take i |>.foldl addC []))
    ⟨_, _, [], rfl, sF, upd_same, Nat.le_refl _, (fun _ m => absurd m List.not_mem_nil), List.nodup_nil, (fun _ m => absurd m List.not_mem_nil), .nil⟩ (fun i σ H' _ h' => ?_) (fun i v σ H' H'' hi h' yy => ?_) (fun σ H' h' => ?_)⟩
  · obtain ⟨_, _, _, _, s1, _⟩ := h'
    exact ⟨SqL.of (s1 _ _ hg0), SqL.of (s1 _ _ hL0)⟩
  · obtain ⟨z2, z3, kvs, rfl, s1, hk, few1, each, nd, new, cls⟩ := h'
    obtain ⟨Tt, v1, v2, rfl, hT, rfl, e1, e2⟩ := yy
    have e1 : gv[i]? = some v1 := e1
    have e2 : (natV L)[i]? = some v2 := e2
    rw [natV_get (by rw [Ll, ← gl]; exact hi)] at e2
    cases e2
    obtain ⟨t0, et, rt⟩ := rg0.get' e1
    have sT := same_new (o := .tup [v1, .int (Lk.at_ L i : Nat)]) hT
    have hk1 := sT _ _ hk
    have takeE : ((risT (termsD ds)).zip L).take (i + 1) = ((risT (termsD ds)).zip L).take i ++ [(t0, Lk.at_ L i)] := by
      rw [List.take_add_one, List.getElem?_zip_eq_some (z := (t0, Lk.at_ L i)) |>.mpr ⟨et, Lk.at_get (by rw [Ll, ← gl]; exact hi)⟩]
      rfl
    refine ⟨Tt, _, rfl, SqT.of upd_same, rfl, _, _, rfl, _, _, rfl, rfl, ?_⟩
    refine ⟨_, rfl, F, rfl, .inl ⟨kvs, .inl hk1⟩, _, rfl, Nat.zero_le _, fun q0 hq0 => ⟨kvs, .inl (Lk.at_ L i : Nat), (same_new hq0 _) _ _ hk1, rfl, small1000 (by omega), fun v hv => ?_, fun hv => ?_⟩⟩
    · obtain ⟨a, xs, rfl, mv, ha, ⟨c, mc, ec⟩, go⟩ := cls_hit cls nd (p := (t0, Lk.at_ L i)) hv
      have s2 := sT.trans (same_new (o := .lst []) hq0)
      have ha2 := s2 _ _ ha
      have hk2 := s2 _ _ hk
      have an : H a = none := by
        obtain ⟨kv, m, e⟩ := List.mem_map.mp mv
        obtain ⟨b, eb, hb⟩ := new kv m
        rw [e] at eb
        cases eb
        exact hb
      have cl2 := each c mc
      have w3 := (Wk.same s2).trans (Wk.lst_upd ha2 (xs ++ [v1]))
      refine ⟨.inl ⟨rfl, _, SqL.of ha2⟩, _, rfl, a, xs, v1, rfl, rfl, ha2, small1000 (by omega), _, _, kvs, rfl, Same.mut (s1.trans s2) an, ?_, by omega, ?_, nd, new, ?_⟩
      · rw [upd_ne (ne_of hk2 ha2 fun e => nomatch e)]
        exact hk2
      · rw [takeE, List.foldl_append]
        exact addC_each _ _ each
      · rw [takeE, List.foldl_append]
        exact go (fun b o e n => by rw [upd_ne n]; exact s2 _ _ e) w3 upd_same ((rt.wk (Wk.same s1)).wk w3)
    · have s2 := sT.trans (same_new (o := .lst []) hq0)
      have hk2 := s2 _ _ hk
      have hq' : H' q0 = none := Same.none sT hq0
      have qF : q0 ≠ F := (ne_of_none hk hq').symm
      have eP : putK kvs (.inl (Lk.at_ L i : Nat)) (.ref q0) = kvs ++ [(.inl (Lk.at_ L i : Nat), .ref q0)] := putK_out fun kv m e => valV_not hv (List.mem_map.mpr ⟨kv, m, e⟩)
      rw [eP]
      have hF0 : H F = none := hF
      obtain ⟨H3, e3⟩ : ∃ H3, H3 = upd (upd (upd H' Tt (HO.tup [v1, V.int (Lk.at_ L i : Nat)])) q0 (HO.lst [])) F (.dK (kvs ++ [(.inl (Lk.at_ L i : Nat), .ref q0)])) := ⟨_, rfl⟩
      have w23 : Wk (upd (upd H' Tt (HO.tup [v1, V.int (Lk.at_ L i : Nat)])) q0 (HO.lst [])) H3 := by rw [e3]; exact wk_dK hk2 _
      have k23 : ∀ b o, H' b = some o → b ≠ F → H3 b = some o := fun b o e n => by rw [e3, upd_ne n]; exact s2 _ _ e
      have s3 : Same H H3 := by rw [e3]; exact Same.mut (s1.trans s2) hF0
      have hF3 : H3 F = some (.dK (kvs ++ [(.inl (Lk.at_ L i : Nat), .ref q0)])) := by rw [e3]; exact upd_same
      have hq3 : H3 q0 = some (.lst []) := by rw [e3, upd_ne qF]; exact upd_same
      erw [← e3]
      have w3 := (Wk.same s2).trans w23
      have w34 := Wk.lst_upd hq3 ([] ++ [v1])
      have nF : ∀ kv ∈ kvs, kv.2 ≠ .ref F := fun kv m e => by
        obtain ⟨c, _, _, b, xs, eb, hb, _⟩ := cls.memL m
        rw [e] at eb
        cases eb
        rw [hk] at hb
        cases hb
      have nq : ∀ kv ∈ kvs, kv.2 ≠ .ref q0 := fun kv m e => by
        obtain ⟨c, _, _, b, xs, eb, hb, _⟩ := cls.memL m
        rw [e] at eb
        cases eb
        rw [hq'] at hb
        cases hb
      refine ⟨.inl ⟨rfl, _, SqL.of hq3⟩, _, rfl, q0, [], v1, rfl, rfl, hq3, small1000 (by decide), _, _, kvs ++ [(.inl (Lk.at_ L i : Nat), .ref q0)], rfl, Same.mut s3 (Same.none s1 hq'), ?_, ?_, ?_, ?_, ?_, ?_⟩
      · rw [upd_ne qF.symm]
        exact hF3
      · rw [List.length_append]
        exact Nat.succ_le_succ few1
      · rw [takeE, List.foldl_append]
        exact addC_each _ _ each
      · rw [List.map_append]
        refine List.nodup_append.mpr ⟨nd, List.nodup_cons.mpr ⟨List.not_mem_nil, List.nodup_nil⟩, fun x mx y my e => ?_⟩
        obtain ⟨kv, m, ex⟩ := List.mem_map.mp mx
        have my : y = .ref q0 := List.mem_singleton.mp my
        exact nq kv m (by rw [ex, e, my])
      · intro kv m
        rcases List.mem_append.mp m with m | m
        · exact new kv m
        · rw [List.mem_singleton.mp m]
          exact ⟨q0, rfl, Same.none s1 hq'⟩
      · rw [takeE, List.foldl_append]
        show A2 _ _ (addC _ (t0, Lk.at_ L i))
        rw [cls_out cls (p := (t0, Lk.at_ L i)) hv]
        exact (cls_to (fun b o e n => by rw [upd_ne n]; exact e) w34 (cls_to k23 w3 cls nF) nq).app (.cons ⟨rfl, q0, _, rfl, upd_same, .cons (((rt.wk (Wk.same s1)).wk w3).wk w34) .nil⟩ .nil)
  · obtain ⟨z2, z3, kvs, rfl, s1, hk, few1, each, nd, new, cls⟩ := h'
    rw [List.take_of_length_le (by rw [List.length_zip, Ll, gl, Nat.min_self]; exact Nat.le_refl _)] at cls
    refine ⟨_, rfl, F, kvs, rfl, hk, fun q0 hq0 => ?_⟩
    have s2 := same_new (o := .lst (kvs.map (·.2))) hq0
    exact q q0 _ _ L (s1.trans s2) (Same.none s1 hq0) upd_same low ((cls_vals cls).imp fun _ _ a => by
      obtain ⟨b, xs, e, hb, r⟩ := a
      exact ⟨b, xs, e, s2 _ _ hb, r.wk (Wk.same s2)⟩)
end
end Kt
namespace Kt
open PySem PySem.Spec PyProof.Rows L2
/-! ### back and again -/
def erE (mg : Str → Option Value) (x : Str) : Value := .ref (clsA mg x)
theorem last_split {α : Type} : ∀ l : List α, l = [] ∨ ∃ l' x, l = l' ++ [x]
  | [] => .inl rfl
  | a :: l => .inr (by
    rcases last_split l with h | ⟨l', x, h⟩
    · exact ⟨[], a, by rw [h]; rfl⟩
    · exact ⟨a :: l', x, by rw [h]; rfl⟩)
theorem A2.split {α β : Type} {R : α → β → Prop} : ∀ {xs : List α} {ys : List β} {y : β}, A2 R xs (ys ++ [y]) → ∃ xs' x, xs = xs' ++ [x] ∧ A2 R xs' ys ∧ R x y
  | _, [], _, .cons a .nil => ⟨[], _, rfl, .nil, a⟩
  | _, z :: ys, _, .cons a t => by
    obtain ⟨xs', x, e, t', b⟩ := A2.split (ys := ys) t
    exact ⟨_ :: xs', x, by rw [e]; rfl, .cons a t', b⟩
theorem last_at {α : Type} (l : List α) (x : α) : (l ++ [x])[(l ++ [x]).length - 1]? = some x := by
  rw [List.length_append, List.length_singleton, Nat.add_sub_cancel, List.getElem?_append_right (Nat.le_refl _), Nat.sub_self]
  rfl
theorem telE {r : Deed} : (!decide (V.str r.1 = V.str "put")) = telling r := by
  unfold telling
  by_cases e : r.1 = ("put" : Str)
  · rw [e, decide_eq_true rfl, decide_eq_false fun z => z rfl]
    rfl
  · rw [decide_eq_false (p := V.str r.1 = V.str "put") fun z => e (by injection z), decide_eq_true e]
    rfl
/-- only what was taken back changes -/
theorem WebAt.undo {w : World} {CW CL : Addr} {N : List Addr} {H H' : Hp} {p d u t r : Addr} {ds us us' : List Deed} {uv' : List V} (W : WebAt w CW CL N H p d u t r ds us) (hu' : H' u = some (.lst uv')) (k : ∀ b o, H b = some o → b ≠ u → H' b = some o) (uu : A2 (DeedAt H') uv' us') (ok : ∀ x ∈ us', deedOk x) : WebAt w CW CL N H' p d u t r ds us' := by
  obtain ⟨dv, hd, dd⟩ := W.de
  obtain ⟨uv, hu, _⟩ := W.un
  obtain ⟨tv, ht, tt⟩ := W.te
  obtain ⟨fr, hr', rk⟩ := W.ra
  obtain ⟨dx, g, l, gv, b3, b4, b5, L7, hp, hg, rg, lk⟩ := W.ob
  have tk : TK H H' := fun a xs z => k _ _ z (ne_of z hu fun e => nomatch e)
  have f : FrM [p, d, u, t, r] [p, d, u, t, r] H H' := fun b o e _ n => ⟨n, k b o e fun z => n (by rw [z]; simp)⟩
  have sm := (f.plus N).same
  obtain ⟨nn2, nd2⟩ := Mok.fr f W.nn W.nd
  exact ⟨⟨dv, k _ _ hd W.du, deeds_tk tk dd W.tmd⟩, ⟨uv', hu', uu⟩, ⟨tv, k _ _ ht W.ut.symm, deeds_tk tk tt fun x m => W.tmd x (List.mem_filter.mp m).1⟩, ⟨fr, k _ _ hr' (ne_of hr' hu fun e => nomatch e), ranks_tk tk rk⟩,
    ⟨dx, g, l, gv, b3, b4, b5, L7, k _ _ hp (ne_of hp hu fun e => nomatch e), sm _ _ hg, rg.wk (Wk.same sm), lk.same sm⟩, W.du, W.dt, W.ut, W.okd, ok, W.few, W.tel, nn2, nd2⟩
def spx_back (CW CL tP : Addr) (mg : Str → Option Value) (w : World) : Sp := fun vs H Q E => ∃ (p d u t r : Addr) (N : List Addr) (ds us : List Deed), vs = [.ref p] ∧ WebAt w CW CL N H p d u t r ds us ∧ LamX.Tabs (tabsW tP) H ∧ ds.length ≤ 900 ∧ us.length ≤ 900 ∧ (ds = [] → Err E (erE mg "NoDeed") H) ∧
  ∀ ds' r0 H' t' r', ds = ds' ++ [r0] → FrM [p, d, u, t, r] [p, d, u, t', r'] H H' → LamX.Tabs (tabsW tP) H' → WebAt w CW CL N H' p d u t' r' ds' (us ++ [r0]) → Q .non H'
def spx_again (CW CL tP : Addr) (mg : Str → Option Value) (w : World) : Sp := fun vs H Q E => ∃ (p d u t r : Addr) (N : List Addr) (ds us : List Deed), vs = [.ref p] ∧ WebAt w CW CL N H p d u t r ds us ∧ LamX.Tabs (tabsW tP) H ∧ ds.length ≤ 900 ∧ (us = [] → Err E (erE mg "NoDeed") H) ∧
  (∀ us' r0, us = us' ++ [r0] → (termsD (ds ++ [r0])).length ≤ 60 ∧ (tellsD (ds ++ [r0])).length ≤ 40) ∧
  ∀ us' r0 H', us = us' ++ [r0] → FrM [p, d, u, t, r] [p, d, u, t, r] H H' → LamX.Tabs (tabsW tP) H' → WebAt w CW CL N H' p d u t r (ds ++ [r0]) us' → Q .non H'
theorem tells_pre (ds : List Deed) (r : Deed) : (tellsD ds).length ≤ (tellsD (ds ++ [r])).length := by
  rw [tells_app, List.length_append]
  exact Nat.le_add_right _ _
theorem terms_pre (ds : List Deed) (r : Deed) : (termsD ds).length ≤ (termsD (ds ++ [r])).length := by
  rw [terms_app, List.length_append]
  exact Nat.le_add_right _ _
section
variable {P : Program} {w : World} {K : PySem.W.Frag} {mg : Str → Option Value} {base : Heap} {cA tP : Addr}
theorem cx_Web_back (T : Tx K mg) (L : TxL K mg base cA tP) (Z : ProgF P) : ClM P w K mg base (L2.CX P w) 22 (clsA mg "Web") "back" ["self"] (spx_back (clsA mg "Web") (clsA mg "Likeness") tP mg w) := by
  refine ClM.mkX T.d_Web_back sc_Web_back (fun vs H Q E h => ?_) (fun f cdv A outer s H vs Q E hr h => ?_)
  · obtain ⟨p, d, u, t, r, N, ds, us, rfl, _⟩ := h
    rfl
  obtain ⟨p, d, u, t, r, N, ds, us, rfl, W, tb, d900, u900, qe, q⟩ := h
  have c_Web__ranks_beyond := fun (T : Tx K mg) => c_Web__ranks_beyond (P := P) (w := w) (base := base) T
  have c_Web__settle := fun (T : Tx K mg) (L : TxL K mg base cA tP) => c_Web__settle (P := P) (w := w) T L
  refine ⟨_, (pss_cons (ps_if (pt_cmpR op_eq (pe_callB call_len (by rfl) T.z_len (by decide +kernel) (pa_cons (pe_fld (pv 0) rfl) pa_nil)) pe_int (nomark _))
      (pss_one (ps_raise rfl (takes_of rfl rfl rfl rfl) (pmk_me (T.s_NoDeed.ok T.me Z T.gs_NoDeed) hr (by omega) rfl (pa_cons pe_str pa_nil))))
      pss_nil)
    (pss_cons (ps_expr (pe_bm PySem.F.plainAttrs_list PySem.F.slot_list_append PySem.F.type_list_append mt_append (pe_fld (pv 0) rfl) (pa_cons (pe_bm0 PySem.F.plainAttrs_list PySem.F.slot_list_pop PySem.F.type_list_pop mt_pop (pe_fld (pv 0) rfl)) pa_nil)))
    (pss_cons (ps_fld (pv 0) (pe_lc (own := [("row", 1)]) (g := gName 1) rfl sc_Web_back.nd (pi_list (pe_fld (pv 0) rfl)) (blkOk_by (own := [("row", 1)]) (N := ["self", "row"]) (sc := defScope s_Web_back) (by decide +kernel)) (fun _ _ _ _ _ => (pg_name (i := 1) sc_Web_back.nd rfl (Or.inl rfl))) (fun _ _ _ _ _ => (pts_one (pt_cmpR op_ne (pe_ix (r := rIxT K) ix_tup (pv 1) pe_int (fun _ _ => rfl)) (pe_glob (v := .str "put") (by rfl) T.m_PUT.choose_spec ⟨_, rfl⟩) (nomark _)))) (fun _ _ _ _ _ => (pv 1))) rfl)
    (pss_cons (ps_fld (pv 0) (pe_mm T.c_Web.c (c_Web__ranks_beyond T) hr (by omega) (pv 0) (pa_cons pe_dnewN (pa_cons (pe_fld (pv 0) rfl) pa_nil))) rfl)
    (pss_one (ps_expr (pe_mm0 T.c_Web.c (c_Web__settle T L) hr (by omega) (pv 0)))))))), ?_⟩
  have cl := T.c_Web.c
  obtain ⟨dv, hd, dd⟩ := W.de
  obtain ⟨uv, hu, uu⟩ := W.un
  obtain ⟨tv, ht, tt⟩ := W.te
  obtain ⟨fr, hr', rk⟩ := W.ra
  obtain ⟨dx, g, l, gv, b3, b4, b5, L7, hp, hg, rg, lk⟩ := W.ob
  have tmd := W.tmd
  have dl := dd.len
  have ul := uu.len
  refine ⟨_, rfl, p, _, dx, _, _, rfl, hp, cl, T.n_Web_deeds, rfl, _, _, rfl, .inl ⟨dv, SqL.of hd, rfl⟩, rfl, _, rfl, ?_⟩
  rcases last_split ds with rfl | ⟨ds', r0, rfl⟩
  · have : dv.length = 0 := dl
    rw [this]
    exact iteT (me_goT (qe rfl))
  obtain ⟨dv', x, rfl, dd', ax⟩ := dd.split
  rw [decide_eq_false (by rw [List.length_append, List.length_singleton]; intro z; injection z with z; omega)]
  refine iteF ?_
  rw [List.length_append, List.length_singleton] at d900
  have dl' := dd'.len
  have pd : p ≠ d := ne_of hp hd fun e => nomatch e
  have pu : p ≠ u := ne_of hp hu fun e => nomatch e
  have rd : r ≠ d := ne_of hr' hd fun e => nomatch e
  have ru : r ≠ u := ne_of hr' hu fun e => nomatch e
  refine ⟨_, rfl, p, _, dx, _, _, rfl, hp, cl, T.n_Web_undone, rfl, .inl ⟨rfl, _, SqL.of hu⟩, _, rfl, p, _, dx, _, _, rfl, hp, cl, T.n_Web_deeds, rfl, .inl ⟨rfl, _, SqL.of hd⟩, d, _, x, rfl, rfl, hd, last_at _ _, ?_⟩
  rw [List.dropLast_concat]
  obtain ⟨H1, e1⟩ : ∃ H1, H1 = L2.upd H d (.lst dv') := ⟨_, rfl⟩
  have bd1 : Bt d H H1 := by rw [e1]; exact Bt.upd _
  have hd1 : H1 d = some (.lst dv') := by rw [e1]; exact upd_same
  erw [← e1]
  have hu1 := bd1 _ _ hu W.du.symm
  have hp1 := bd1 _ _ hp pd
  refine ⟨u, uv, x, rfl, rfl, hu1, small1000 (by omega), ?_⟩
  obtain ⟨H2, e2⟩ : ∃ H2, H2 = L2.upd H1 u (.lst (uv ++ [x])) := ⟨_, rfl⟩
  have bu2 : Bt u H1 H2 := by rw [e2]; exact Bt.upd _
  have hu2 : H2 u = some (.lst (uv ++ [x])) := by rw [e2]; exact upd_same
  erw [← e2]
  have hd2 := bu2 _ _ hd1 W.du
  have hp2 := bu2 _ _ hp1 pu
  have tk2 : TK H H2 := fun a xs z => bu2 _ _ (bd1 _ _ z (ne_of z hd fun e => nomatch e)) (ne_of (bd1 _ _ z (ne_of z hd fun e => nomatch e)) hu1 fun e => nomatch e)
  have k02 : ∀ b o, H b = some o → b ≠ d → b ≠ u → H2 b = some o := fun b o e n1 n2 => bu2 _ _ (bd1 _ _ e n1) n2
  have tmd' : ∀ x ∈ ds', ∀ t ∈ x.2, tm t := fun x m => tmd x (List.mem_append.mpr (.inl m))
  have okd' : ∀ x ∈ ds', deedOk x := fun x m => W.okd x (List.mem_append.mpr (.inl m))
  have ok0 : deedOk r0 := W.okd r0 (List.mem_append.mpr (.inr (List.mem_singleton.mpr rfl)))
  have dd2 : A2 (DeedAt H2) dv' ds' := deeds_tk tk2 dd' tmd'
  have uu2 : A2 (DeedAt H2) (uv ++ [x]) (us ++ [r0]) := (deeds_tk tk2 uu fun x m => (W.oku x m).1).app (.cons (ax.tk ok0.1 tk2) .nil)
  -- the tellings
  refine ⟨_, rfl, p, _, dx, _, _, rfl, hp2, cl, T.n_Web_deeds, rfl, d, rfl, ⟨_, SqL.of hd2⟩, fun t' ht' => ?_⟩
  refine lc_it (walk_list (xs := dv')) (fun i H' => Same H2 H' ∧ ∃ acc, H' t' = some (.lst acc) ∧ A2 (DeedAt H') acc (tellsD (ds'.take i))) ⟨same_new ht' _, [], upd_same, .nil⟩ (fun i H' _ h' => SqL.of (h'.1 _ _ hd2)) (fun i v H' H'' hi h' yy => ?_) (fun H3 h3 => ?_)
  · obtain ⟨s3, acc, hacc, dacc⟩ := h'
    obtain ⟨rfl, hv⟩ := yy
    obtain ⟨r1, er, a, vs, rfl, ha, rvs⟩ := dd2.get hv
    have ok1 := okd' r1 (List.mem_of_getElem? er)
    have ha3 := s3 _ _ ha
    have al := dacc.len
    have tl1 : (tellsD (ds'.take i)).length ≤ (ds'.take i).length := List.length_filter_le _ _
    rw [List.length_take] at tl1
    have takeE : tellsD (ds'.take (i + 1)) = tellsD (ds'.take i) ++ (if telling r1 then [r1] else []) := by
      rw [List.take_add_one, er]
      exact tells_app _ _
    refine ⟨rfl, _, rfl, a, _, 0, .str r1.1, rfl, rfl, SqT.of ha3, atI_nat (j := 0) rfl, rfl, _, rfl, ?_⟩
    rw [telE]
    cases ct : telling r1 with
    | true =>
      have w4 := Wk.lst_upd hacc (acc ++ [.ref a])
      refine (if_pos rfl).mpr ⟨_, rfl, acc, hacc, small1000 (by omega), Same.mut s3 ht', _, upd_same, ?_⟩
      rw [takeE, ct, if_pos rfl]
      exact (dacc.imp fun _ _ x => x.wk w4).app (.cons ⟨a, vs, rfl, w4.tup _ _ ha3, (rvs.wk (Wk.same s3)).wk w4⟩ .nil)
    | false =>
      refine (if_neg (by decide)).mpr ⟨s3, acc, hacc, ?_⟩
      rw [takeE, ct, if_neg (by decide), List.append_nil]
      exact dacc
  obtain ⟨s3, tv', ht3, tt3⟩ := h3
  have dl2 := dd2.len
  rw [dl2, List.take_length] at tt3
  have hp3 := s3 _ _ hp2
  refine ⟨_, rfl, p, _, dx, _, rfl, hp3, cl, T.n_Web_tellings, by show 6 < 1000; decide, ?_⟩
  obtain ⟨H4, e4⟩ : ∃ H4, H4 = L2.upd H3 p (.ins (clsA mg "Web") dx (putF "tellings" (.ref t') (wbF d u t r g l))) := ⟨_, rfl⟩
  have bp4 : Bt p H3 H4 := by rw [e4]; exact Bt.upd _
  have hp4 : H4 p = some (.ins (clsA mg "Web") dx (wbF d u t' r g l)) := by rw [e4]; exact upd_same
  erw [← e4]
  have b24 : Bt p H2 H4 := fun b o e n => bp4 _ _ (s3 _ _ e) n
  have dp : d ≠ p := pd.symm
  have up : u ≠ p := pu.symm
  have hd4 := b24 _ _ hd2 dp
  have hu4 := b24 _ _ hu2 up
  have tp : t' ≠ p := ne_of ht3 hp3 fun e => nomatch e
  have ht4 := bp4 _ _ ht3 tp
  have tk24 : TK H2 H4 := fun a xs z => b24 _ _ z (ne_of z hp2 fun e => nomatch e)
  have tk34 : TK H3 H4 := fun a xs z => bp4 _ _ z (ne_of z hp3 fun e => nomatch e)
  have tmT : ∀ x ∈ tellsD ds', ∀ t ∈ x.2, tm t := fun x m => tmd' x (List.mem_filter.mp m).1
  have dd4 := deeds_tk tk24 dd2 tmd'
  have S' := terms_tms tmd'
  have few60 : (termsD ds').length ≤ 60 := Nat.le_trans (terms_pre ds' r0) W.few
  have tel40 : (tellsD ds').length ≤ 40 := Nat.le_trans (tells_pre ds' r0) W.tel
  -- the ranks
  refine ⟨_, rfl, p, dx, _, rfl, hp4, rfl, fun k0 hk0 => ?_⟩
  have s5 := same_new (o := DN w k0 []) hk0
  refine ⟨_, rfl, p, _, dx, _, _, rfl, s5 _ _ hp4, cl, T.n_Web_deeds, rfl, p, k0, d, [], [], dv', ds', termsD ds', rfl, upd_same, .nil, s5 _ _ hd4, deeds_tk (fun a xs z => s5 _ _ z) dd4 tmd', fun x m => (okd' x m).ok, tms_nil, by omega, fun x m => (terms_mem tmd').mpr m, fun r' H6 fr' s6 hr6 hf6 rk6 => ?_⟩
  have s46 := s5.trans s6
  have hp6 := s46 _ _ hp4
  refine ⟨_, rfl, p, _, dx, _, rfl, hp6, cl, T.n_Web_ranks, by show 6 < 1000; decide, ?_⟩
  obtain ⟨H7, e7⟩ : ∃ H7, H7 = L2.upd H6 p (.ins (clsA mg "Web") dx (putF "ranks" (.ref r') (wbF d u t' r g l))) := ⟨_, rfl⟩
  have bp7 : Bt p H6 H7 := by rw [e7]; exact Bt.upd _
  have hp7 : H7 p = some (.ins (clsA mg "Web") dx (wbF d u t' r' g l)) := by rw [e7]; exact upd_same
  erw [← e7]
  have b47 : Bt p H4 H7 := fun b o e n => bp7 _ _ (s46 _ _ e) n
  have b27 : Bt p H2 H7 := fun b o e n => b47 _ _ (b24 _ _ e n) n
  have hd7 := b47 _ _ hd4 dp
  have hu7 := b47 _ _ hu4 up
  have ht7 := b47 _ _ ht4 tp
  have rp : r' ≠ p := ne_of hf6 hp6 fun e => nomatch e
  have hr7 := bp7 _ _ hf6 rp
  have tk27 : TK H2 H7 := fun a xs z => b27 _ _ z (ne_of z hp2 fun e => nomatch e)
  have tk47 : TK H4 H7 := fun a xs z => b47 _ _ z (ne_of z hp4 fun e => nomatch e)
  have tk67 : TK H6 H7 := fun a xs z => bp7 _ _ z (ne_of z hp6 fun e => nomatch e)
  have rk7 : A2 (RankAt H7) fr' (termsD ds') := ranks_tk tk67 rk6
  have tt7 := deeds_tk tk47 (deeds_tk tk34 tt3 tmT) tmT
  have tb7 : LamX.Tabs (tabsW tP) H7 := tabs_keep tb fun b o e t => b27 _ _ (k02 b o e (ne_of e hd t.lst) (ne_of e hu t.lst)) (ne_of (k02 b o e (ne_of e hd t.lst) (ne_of e hu t.lst)) hp2 t.ins)
  have nt0 : H t' = none := by
    cases z : H t' with
    | none => rfl
    | some o =>
      have td : t' ≠ d := fun e => by rw [e] at ht'; rw [hd2] at ht'; cases ht'
      have tu : t' ≠ u := fun e => by rw [e] at ht'; rw [hu2] at ht'; cases ht'
      rw [k02 _ _ z td tu] at ht'
      cases ht'
  have nr4 : H4 r' = none := Same.none s5 hr6
  have nr2 : H2 r' = none := by
    cases z : H2 r' with
    | none => rfl
    | some o =>
      rw [b24 _ _ z rp] at nr4
      cases nr4
  have nr0 : H r' = none := by
    cases z : H r' with
    | none => rfl
    | some o =>
      have td : r' ≠ d := fun e => by rw [e] at nr2; rw [hd2] at nr2; cases nr2
      have tu : r' ≠ u := fun e => by rw [e] at nr2; rw [hu2] at nr2; cases nr2
      rw [k02 _ _ z td tu] at nr2
      cases nr2
  have fr07 : FrM [p, d, u, t, r] [p, d, u, t', r'] H H7 := fun b o e _ n => by
    simp only [List.mem_cons, List.not_mem_nil, or_false, not_or] at n ⊢
    exact ⟨⟨n.1, n.2.1, n.2.2.1, ne_of_none e nt0, ne_of_none e nr0⟩, b27 _ _ (k02 b o e n.2.1 n.2.2.1) n.1⟩
  have dt' : d ≠ t' := ne_of_none hd2 ht'
  have ut' : u ≠ t' := ne_of_none hu2 ht'
  refine ⟨_, rfl, p, dx, _, rfl, hp7, rfl, ?_⟩
  obtain ⟨nn7, nd7⟩ := Mok.fr fr07 W.nn W.nd
  refine ⟨p, dx, d, u, t', r', g, l, N, dv', uv ++ [x], tv', tellsD ds', fr', termsD ds', rfl, nn7, nd7, tb7, hp7, hd7, hu7, ht7, tt7, fun x m => (okd' x (List.mem_filter.mp m).1).two (List.mem_filter.mp m).2, by omega, fun x m z hz => terms_arg tmd' (List.mem_filter.mp m).1 hz, hr7, rk7, S', by omega, fun H9 g' l' c3 c4 c5 gv' L9 k9 tb9 hp9 hg9 rg9 lk9 => ?_⟩
  have tk9 : TK H7 H9 := fun a' xs z => k9 _ _ z (fun _ e => nomatch e) (ne_of z hp7 fun e => nomatch e)
  refine q ds' r0 H9 t' r' rfl (fr07.trans fun b o e t n => ⟨n, k9 b o e t fun z => n (by rw [z]; exact List.mem_cons_self)⟩) tb9 ⟨⟨_, k9 _ _ hd7 (fun _ e => nomatch e) dp, deeds_tk tk9 (deeds_tk tk27 dd2 tmd') tmd'⟩, ⟨_, k9 _ _ hu7 (fun _ e => nomatch e) up, deeds_tk tk9 (deeds_tk tk27 uu2 fun x m => ?_) fun x m => ?_⟩, ⟨tv', k9 _ _ ht7 (fun _ e => nomatch e) tp, deeds_tk tk9 tt7 tmT⟩,
    ⟨fr', k9 _ _ hr7 (fun _ e => nomatch e) rp, ranks_tk tk9 rk7⟩, ⟨dx, g', l', gv', c3, c4, c5, L9, hp9, hg9, rg9, lk9⟩, W.du, dt', ut', okd', fun x m => ?_, few60, tel40, (fun b m => let ⟨o, e, t, n⟩ := nn7 b m; ⟨o, k9 _ _ e t (fun z => nd7 b m (by rw [z]; exact List.mem_cons_self)), t, n⟩), nd7⟩
  · exact (List.mem_append.mp m).elim (fun m => (W.oku x m).1) fun m => by rw [List.mem_singleton.mp m]; exact ok0.1
  · exact (List.mem_append.mp m).elim (fun m => (W.oku x m).1) fun m => by rw [List.mem_singleton.mp m]; exact ok0.1
  · exact (List.mem_append.mp m).elim (fun m => W.oku x m) fun m => by rw [List.mem_singleton.mp m]; exact ok0
theorem cx_Web_again (T : Tx K mg) (L : TxL K mg base cA tP) (Z : ProgF P) : ClM P w K mg base (L2.CX P w) 22 (clsA mg "Web") "again" ["self"] (spx_again (clsA mg "Web") (clsA mg "Likeness") tP mg w) := by
  refine ClM.mkX T.d_Web_again sc_Web_again (fun vs H Q E h => ?_) (fun f cdv A outer s H vs Q E hr h => ?_)
  · obtain ⟨p, d, u, t, r, N, ds, us, rfl, _⟩ := h
    rfl
  obtain ⟨p, d, u, t, r, N, ds, us, rfl, W, tb, d900, qe, bd, q⟩ := h
  have c_Web__do := fun (T : Tx K mg) (L : TxL K mg base cA tP) => c_Web__do (P := P) (w := w) T L
  refine ⟨_, (pss_cons (ps_if (pt_cmpR op_eq (pe_callB call_len (by rfl) T.z_len (by decide +kernel) (pa_cons (pe_fld (pv 0) rfl) pa_nil)) pe_int (nomark _))
      (pss_one (ps_raise rfl (takes_of rfl rfl rfl rfl) (pmk_me (T.s_NoDeed.ok T.me Z T.gs_NoDeed) hr (by omega) rfl (pa_cons pe_str pa_nil))))
      pss_nil)
    (pss_one (ps_expr (pe_mm T.c_Web.c (c_Web__do T L) hr (by omega) (pv 0) (pa_cons (pe_bm0 PySem.F.plainAttrs_list PySem.F.slot_list_pop PySem.F.type_list_pop mt_pop (pe_fld (pv 0) rfl)) pa_nil))))), ?_⟩
  have cl := T.c_Web.c
  obtain ⟨uv, hu, uu⟩ := W.un
  obtain ⟨dx, g, l, gv, b3, b4, b5, L7, hp, hg, rg, lk⟩ := W.ob
  have ul := uu.len
  refine ⟨_, rfl, p, _, dx, _, _, rfl, hp, cl, T.n_Web_undone, rfl, _, _, rfl, .inl ⟨uv, SqL.of hu, rfl⟩, rfl, _, rfl, ?_⟩
  rcases last_split us with rfl | ⟨us', r0, rfl⟩
  · have : uv.length = 0 := ul
    rw [this]
    exact iteT (me_goT (qe rfl))
  obtain ⟨uv', x, rfl, uu', ax⟩ := uu.split
  rw [decide_eq_false (by rw [List.length_append, List.length_singleton]; intro z; injection z with z; omega)]
  obtain ⟨t60, l40⟩ := bd us' r0 rfl
  refine iteF ⟨_, rfl, p, dx, _, rfl, hp, rfl, _, rfl, p, _, dx, _, _, rfl, hp, cl, T.n_Web_undone, rfl, .inl ⟨rfl, _, SqL.of hu⟩, u, _, x, rfl, rfl, hu, last_at _ _, ?_⟩
  rw [List.dropLast_concat]
  have ok0 : deedOk r0 := W.oku r0 (List.mem_append.mpr (.inr (List.mem_singleton.mpr rfl)))
  have tku : TK H (L2.upd H u (.lst uv')) := fun a xs z => by rw [upd_ne (ne_of z hu fun e => nomatch e)]; exact z
  have f1 : FrM [p, d, u, t, r] [p, d, u, t, r] H (L2.upd H u (.lst uv')) := (FrM.refl _ H).upd (by simp) _
  have W1 := W.undo (uv' := uv') (us' := us') upd_same (fun b o e n => by rw [upd_ne n]; exact e) (deeds_tk tku uu' fun x m => (W.oku x (List.mem_append.mpr (.inl m))).1) fun x m => W.oku x (List.mem_append.mpr (.inl m))
  exact ⟨p, d, u, t, r, N, x, ds, us', r0, rfl, W1, tabs_keep tb fun b o e t => by rw [upd_ne (ne_of e hu t.lst)]; exact e, ax.tk ok0.1 tku, ok0, d900, t60, l40, fun H' f' tb' W' => q us' r0 H' rfl (f1.trans f') tb' W'⟩
end
end Kt
namespace Kt
open PySem PySem.Spec PyProof.Rows L2
/-! ### a deed of what is no term -/
def spx_rterm (mg : Str → Option Value) : Sp := fun vs H Q E => ∃ v t, vs = [v] ∧ Rep H v t ∧ (within false t = true → ∀ H', Same H H' → Q .non H') ∧ (within false t = false → Err E (erE mg "BadTerm") H)
def spx_bad (CW : Addr) (mg : Str → Option Value) : Sp := fun vs H Q E => ∃ (p a dx d u t r g l : Addr) (z : Str) (xs : List V) (ts : List Th), vs = [.ref p, .ref a] ∧ H p = some (.ins CW dx (wbF d u t r g l)) ∧ H a = some (.tup (.str z :: xs)) ∧ RepL H xs ts ∧ xs.length ≤ 10 ∧ (∃ t ∈ ts, within false t = false) ∧ Err E (erE mg "BadTerm") H
def spx_badl (CW : Addr) (mg : Str → Option Value) : Sp := fun vs H Q E => ∃ (p dx d u t r g l : Addr) (x y : V) (ts : List Th), vs = [.ref p, x, y] ∧ H p = some (.ins CW dx (wbF d u t r g l)) ∧ RepL H [x, y] ts ∧ (∃ t ∈ ts, within false t = false) ∧ Err E (erE mg "BadTerm") H
section
variable {P : Program} {w : World} {K : PySem.W.Frag} {mg : Str → Option Value} {base : Heap} {cA tP : Addr}
theorem cx_refuse_no_term (T : Tx K mg) (Z : ProgF P) : Cl P w K mg base (L2.CX P w) 10 "refuse_no_term" ["thing"] (spx_rterm mg) := by
  refine Cl.mkX T.d_refuse_no_term sc_refuse_no_term (fun vs H Q E h => ?_) (fun f cdv A outer s H vs Q E hr h => ?_)
  · obtain ⟨v, t, rfl, _⟩ := h
    rfl
  obtain ⟨v, t, rfl, r, q1, q2⟩ := h
  refine ⟨_, (pss_one (ps_if (pt_not (pt_val (pe_cl (c_is_term T) hr (by omega) rfl (pa_cons (pv 0) pa_nil))))
      (pss_one (ps_raise rfl (takes_of rfl rfl rfl rfl) (pmk_me (T.s_BadTerm.ok T.me Z T.gs_BadTerm) hr (by omega) rfl (pa_cons pe_str pa_nil))))
      pss_nil)), ?_⟩
  refine ⟨_, rfl, v, t, rfl, r, fun H' s' => ⟨_, rfl, ?_⟩⟩
  cases e : within false t with
  | true => exact iteF (q1 e H' s')
  | false => exact iteT (me_goT ((q2 e).wk s'))
theorem cx_Web__do (T : Tx K mg) (L : TxL K mg base cA tP) (Z : ProgF P) : ClM P w K mg base (L2.CX P w) 21 (clsA mg "Web") "_do" ["self", "row"] (spx_bad (clsA mg "Web") mg) := by
  refine ClM.mkX T.d_Web__do sc_Web__do (fun vs H Q E h => ?_) (fun f cdv A outer s H vs Q E hr h => ?_)
  · obtain ⟨p, a, dx, d, u, t, r, g, l, z, xs, ts, rfl, _⟩ := h
    rfl
  obtain ⟨p, a, dx, d, u, t, r, g, l, z, xs, ts, rfl, hp, ha, rx, few, ⟨tb, mb, wb⟩, qe⟩ := h
  have cx_refuse_no_term := fun (T : Tx K mg) => cx_refuse_no_term (P := P) (w := w) (base := base) T
  have c_Web__ranks_beyond := fun (T : Tx K mg) => c_Web__ranks_beyond (P := P) (w := w) (base := base) T
  have c_Web__settle := fun (T : Tx K mg) (L : TxL K mg base cA tP) => c_Web__settle (P := P) (w := w) T L
  refine ⟨_, (Evl.pss_cut (ps_for (passes_of rfl) rfl (pi_tup (pe_slice sl_tupA (pv 1) (po_some pe_int) po_no)) (pg_name (i := 2) sc_Web__do.nd rfl (Or.inl rfl))
      (pss_one (ps_expr (pe_clS (cx_refuse_no_term T Z) hr (by omega) rfl (fun σ => passAt (takes_of rfl rfl rfl rfl) σ) (pa_cons (pv 2) pa_nil)))))
    (pss_cons (ps_set (i := 3) sc_Web__do.nd rfl (Or.inl rfl) (pe_mm T.c_Web.c (c_Web__ranks_beyond T) hr (by omega) (pv 0) (pa_cons (pe_fld (pv 0) rfl) (pa_cons (pe_lst (pa_cons (pv 1) pa_nil)) pa_nil))))
    (pss_cons (ps_set (i := 4) sc_Web__do.nd rfl (Or.inl rfl) (pe_cmpR op_ne (pe_ix ix_tup (pv 1) pe_int (fun _ _ => rfl)) (pe_glob (v := .str "put") (by rfl) T.m_PUT.choose_spec ⟨_, rfl⟩) (nomark _)))
    (Evl.pss_cut (ps_if (pt_cmpR op_gt (pe_op op_add (pe_callB (id := "len") (r := rLenN w) call_lenN (by rfl) T.z_len (by decide +kernel) (pa_cons (pe_fld (pv 0) rfl) pa_nil)) (pe_callB (id := "len") (r := rLenN w) call_lenN (by rfl) T.z_len (by decide +kernel) (pa_cons (pv 3) pa_nil))) (pe_glob (v := .int 60) (by rfl) T.m_MOST_TERMS.choose_spec ⟨_, rfl⟩) (nomark _))
      (pss_one (ps_raise rfl (takes_of rfl rfl rfl rfl) (pmk_me (T.s_TooMany.ok T.me Z T.gs_TooMany) hr (by omega) rfl (pa_cons pe_str pa_nil))))
      pss_nil)
    (Evl.pss_cut (ps_if (PW.pt (pw_and (pt_val (pv 4)) (pw_and1 (pt_cmpR op_ge (pe_callB call_len (by rfl) T.z_len (by decide +kernel) (pa_cons (pe_fld (pv 0) rfl) pa_nil)) (pe_glob (v := .int 40) (by rfl) T.m_MOST_TELLINGS.choose_spec ⟨_, rfl⟩) (nomark _)))))
      (pss_one (ps_raise rfl (takes_of rfl rfl rfl rfl) (pmk_me (T.s_TooMany.ok T.me Z T.gs_TooMany) hr (by omega) rfl (pa_cons pe_str pa_nil))))
      pss_nil)
    (pss_cons (ps_expr (pe_bm PySem.F.plainAttrs_list PySem.F.slot_list_append PySem.F.type_list_append mt_append (pe_fld (pv 0) rfl) (pa_cons (pv 1) pa_nil)))
    (Evl.pss_cut (ps_lock (ps_for (passes_of rfl) rfl (pi_keysN (pv 3)) (pg_name (i := 2) sc_Web__do.nd rfl (Or.inl rfl))
      (pss_one (ps_nput (hu_n hr) (pe_fld (pv 0) rfl) (pv 2) (pe_ngetW (w := w) (hu_n hr) (pv 3) (pv 2) (fun _ _ => rfl)) rfl))))
    (Evl.pss_cut (ps_if (pt_val (pv 4))
      (pss_one (ps_expr (pe_bm PySem.F.plainAttrs_list PySem.F.slot_list_append PySem.F.type_list_append mt_append (pe_fld (pv 0) rfl) (pa_cons (pv 1) pa_nil))))
      pss_nil)
    (Evl.pss_cut (ps_if (PW.pt (pw_or (pt_truthR (pv 3) (r := rTruN w) tru_N (by intro _; rfl)) (pw_or1 (pt_cmpR op_eq (pe_ix ix_tup (pv 1) pe_int (fun _ _ => rfl)) (pe_glob (v := .str "like") (by rfl) T.m_LIKE.choose_spec ⟨_, rfl⟩) (nomark _)))))
      (pss_one (ps_expr (pe_mm0 T.c_Web.c (c_Web__settle T L) hr (by omega) (pv 0))))
      pss_nil)
    (pss_one (ps_ret (pe_ifExp (pt_val (pv 4)) (pe_callB call_len (by rfl) T.z_len (by decide +kernel) (pa_cons (pe_fld (pv 0) rfl) pa_nil)) pe_non)))))))))))), ?_⟩
  have xl := rx.length
  refine ⟨fun _ _ => False, ?_, fun _ _ h => h.elim⟩
  refine ⟨_, rfl, 1, rfl, sl_lo (K := K) 1 ha (by omega) (by rw [List.length_cons]; omega) fun p1 hp1 => ?_⟩
  have s1 := same_new hp1 (.tup ((V.str z :: xs).drop 1))
  refine ⟨p1, rfl, ⟨_, SqT.of upd_same⟩, for_it (walk_tup (xs := xs)) (fun j σ H' => ∃ y, σ = [some (.ref p), some (.ref a), y, none, none] ∧ Same H H' ∧ H' p1 = some (.tup xs) ∧ ∀ t ∈ ts.take j, within false t = true)
    ⟨_, rfl, s1, upd_same, fun _ m => absurd m List.not_mem_nil⟩ (fun j σ H' _ h' => ?_) (fun j v σ H' H'' hj h' yy => ?_) (fun σ H' h' => ?_)⟩
  · obtain ⟨_, _, _, h, _⟩ := h'
    exact SqT.of h
  · obtain ⟨y, rfl, s', h, ok⟩ := h'
    obtain ⟨rfl, hv⟩ := yy
    obtain ⟨x, ex, rx'⟩ := rx.get' hv
    refine ⟨_, rfl, v, x, rfl, rx'.wk (Wk.same s'), fun wx H2 s2 => ⟨_, rfl, s'.trans s2, s2 _ _ h, fun t m => ?_⟩, fun wx => qe.wk s'⟩
    rw [List.take_add_one, ex] at m
    rcases List.mem_append.mp m with m | m
    · exact ok t m
    · rw [List.mem_singleton.mp m]
      exact wx
  · obtain ⟨y, rfl, s', h, ok⟩ := h'
    rw [xl, List.take_length] at ok
    rw [ok tb mb] at wb
    cases wb
theorem cx_Web__new_deed (T : Tx K mg) (L : TxL K mg base cA tP) (Z : ProgF P) : ClM P w K mg base (L2.CX P w) 22 (clsA mg "Web") "_new_deed" ["self", "row"] (spx_bad (clsA mg "Web") mg) := by
  refine ClM.mkX T.d_Web__new_deed sc_Web__new_deed (fun vs H Q E h => ?_) (fun f cdv A outer s H vs Q E hr h => ?_)
  · obtain ⟨p, a, dx, d, u, t, r, g, l, z, xs, ts, rfl, _⟩ := h
    rfl
  have cx_Web__do := fun (T : Tx K mg) (L : TxL K mg base cA tP) => cx_Web__do (P := P) (w := w) T L
  refine ⟨_, (pss_cons (ps_set (i := 2) sc_Web__new_deed.nd rfl (Or.inl rfl) (pe_mmS T.c_Web.c (cx_Web__do T L Z) hr (by omega) (fun σ => passAt (takes_of rfl rfl rfl rfl) σ) (pv 0) (pa_cons (pv 1) pa_nil)))
    (pss_cons (ps_fld (pv 0) (pe_lst pa_nil) rfl)
    (pss_one (ps_ret (pv 2))))), ?_⟩
  obtain ⟨p, a, dx, d, u, t, r, g, l, z, xs, ts, rfl, hp, ha, rx, few, bad, qe⟩ := h
  exact ⟨_, rfl, p, dx, _, rfl, hp, rfl, _, rfl, p, a, dx, d, u, t, r, g, l, z, xs, ts, rfl, hp, ha, rx, few, bad, qe⟩
theorem cx_Web_like (T : Tx K mg) (L : TxL K mg base cA tP) (Z : ProgF P) : ClM P w K mg base (L2.CX P w) 23 (clsA mg "Web") "like" ["self", "one", "other"] (spx_badl (clsA mg "Web") mg) := by
  refine ClM.mkX T.d_Web_like sc_Web_like (fun vs H Q E h => ?_) (fun f cdv A outer s H vs Q E hr h => ?_)
  · obtain ⟨p, dx, d, u, t, r, g, l, x, y, ts, rfl, _⟩ := h
    rfl
  have cx_Web__new_deed := fun (T : Tx K mg) (L : TxL K mg base cA tP) => cx_Web__new_deed (P := P) (w := w) T L
  refine ⟨_, (pss_one (ps_ret (pe_mmS T.c_Web.c (cx_Web__new_deed T L Z) hr (by omega) (fun σ => passAt (takes_of rfl rfl rfl rfl) σ) (pv 0) (pa_cons (pe_tup (pa_cons (pe_glob (v := .str "like") (by rfl) T.m_LIKE.choose_spec ⟨_, rfl⟩) (pa_cons (pv 1) (pa_cons (pv 2) pa_nil)))) pa_nil)))), ?_⟩
  obtain ⟨p, dx, d, u, t, r, g, l, x, y, ts, rfl, hp, rx, bad, qe⟩ := h
  refine ⟨_, rfl, p, dx, _, rfl, hp, rfl, _, rfl, _, rfl, by show 3 ≤ sizeLine; decide, fun p1 h1 => ?_⟩
  have s1 := same_new (o := .tup [.str "like", x, y]) h1
  exact ⟨p, p1, dx, d, u, t, r, g, l, "like", [x, y], ts, rfl, s1 _ _ hp, upd_same, rx.wk (Wk.same s1), by show 2 ≤ 10; decide, bad, qe.wk s1⟩
end
end Kt
namespace Kt
open PySem PySem.Spec PyProof.Rows L2
/-! ### twins -/
/-- the web told of in another heap, apart of other things -/
theorem WebAt.re {w : World} {CW CL : Addr} {N N' : List Addr} {H H' : Hp} {p d u t r : Addr} {ds us : List Deed} (W : WebAt w CW CL N H p d u t r ds us) (k : ∀ b o, H b = some o → noTb o → b ∉ N → H' b = some o) (sub : ∀ b ∈ N', ∀ o, H b = some o → noTb o → b ∈ N) (nn : Mok N' H') : WebAt w CW CL N' H' p d u t r ds us := by
  have out : ∀ {b : Addr}, b ∈ [p, d, u, t, r] → b ∉ N := fun m n => W.nd _ n m
  have tk : TK H H' := fun a xs z => k _ _ z (fun _ e => nomatch e) fun m => by
    obtain ⟨o, e, _, n⟩ := W.nn a m
    rw [z] at e
    exact n xs (Option.some.inj e).symm
  have sm : Same (hidW ([p, d, u, t, r] ++ N) H) (hidW ([p, d, u, t, r] ++ N') H') := fun a o h => by
    obtain ⟨h1, n, t⟩ := hidW_out h
    rw [List.mem_append, not_or] at n
    exact hidW_in (k _ _ h1 t n.2) (fun m => (List.mem_append.mp m).elim n.1 fun m => n.2 (sub a m o h1 t)) t
  obtain ⟨dv, hd, d2⟩ := W.de
  obtain ⟨uv, hu, u2⟩ := W.un
  obtain ⟨tv, ht, t2⟩ := W.te
  obtain ⟨fr, hr, r2⟩ := W.ra
  obtain ⟨dx, g, l, gv, b3, b4, b5, L, hp, hg, rg, lk⟩ := W.ob
  exact ⟨⟨dv, k _ _ hd (fun _ e => (nomatch e)) (out (by simp)), deeds_tk tk d2 W.tmd⟩, ⟨uv, k _ _ hu (fun _ e => (nomatch e)) (out (by simp)), deeds_tk tk u2 fun r m => (W.oku r m).1⟩, ⟨tv, k _ _ ht (fun _ e => (nomatch e)) (out (by simp)), deeds_tk tk t2 fun r m => W.tmd r (List.mem_filter.mp m).1⟩,
    ⟨fr, k _ _ hr (fun _ e => (nomatch e)) (out (by simp)), ranks_tk tk r2⟩, ⟨dx, g, l, gv, b3, b4, b5, L, k _ _ hp (fun _ e => (nomatch e)) (out (by simp)), sm _ _ hg, rg.wk (Wk.same sm), lk.same sm⟩, W.du, W.dt, W.ut, W.okd, W.oku, W.few, W.tel, nn, fun b m z => by
      obtain ⟨o, e, t, _⟩ := W.mok b z
      exact out z (sub b m o e t)⟩
def sp_wtake (CW CL : Addr) (w : World) : Sp := fun vs H Q _ => ∃ (p dx p2 d2 u2 t2 r2 d0 u0 t0 r0 g0 l0 : Addr) (N : List Addr) (ds us : List Deed), vs = [.ref p, .ref p2] ∧ H p = some (.ins CW dx (wbF d0 u0 t0 r0 g0 l0)) ∧ WebAt w CW CL N H p2 d2 u2 t2 r2 ds us ∧ p ∉ N ∧ p ∉ [p2, d2, u2, t2, r2] ∧
  ∀ H' d u t r, Bt p H H' → H d = none → H u = none → H t = none → H r = none → WebAt w CW CL (N ++ [p2, d2, u2, t2, r2]) H' p d u t r ds us → Q .non H'
def sp_twin (CW CL : Addr) (w : World) : Sp := fun vs H Q _ => ∃ (p2 d2 u2 t2 r2 : Addr) (N : List Addr) (ds us : List Deed), vs = [.ref p2] ∧ WebAt w CW CL N H p2 d2 u2 t2 r2 ds us ∧
  ∀ H' p d u t r, Same H H' → H p = none → H d = none → H u = none → H t = none → H r = none → WebAt w CW CL (N ++ [p2, d2, u2, t2, r2]) H' p d u t r ds us → Q (.ref p) H'
section
variable {P : Program} {w : World} {K : PySem.W.Frag} {mg : Str → Option Value} {base : Heap} {cA tP : Addr}
theorem c_Web__take (T : Tx K mg) : ClM P w K mg base CX0 1 (clsA mg "Web") "_take" ["self", "other"] (sp_wtake (clsA mg "Web") (clsA mg "Likeness") w) := by
  refine ClM.mk0 T.d_Web__take sc_Web__take (fun vs H Q E h => ?_) (fun f cdv A outer s H vs Q E hr h => ?_)
  · obtain ⟨p, dx, p2, d2, u2, t2, r2, d0, u0, t0, r0, g0, l0, N, ds, us, rfl, _⟩ := h
    rfl
  obtain ⟨p, dx, p2, d2, u2, t2, r2, d0, u0, t0, r0, g0, l0, N, ds, us, rfl, hp, W, pN, p5, q⟩ := h
  refine ⟨_, (pss_cons (ps_fld (pv 0) (pe_callTy call_list_of (by rfl) T.z_list (by decide +kernel) (pa_cons (pe_fld (pv 1) rfl) pa_nil)) rfl)
    (pss_cons (ps_fld (pv 0) (pe_callTy call_list_of (by rfl) T.z_list (by decide +kernel) (pa_cons (pe_fld (pv 1) rfl) pa_nil)) rfl)
    (pss_cons (ps_fld (pv 0) (pe_callTy call_list_of (by rfl) T.z_list (by decide +kernel) (pa_cons (pe_fld (pv 1) rfl) pa_nil)) rfl)
    (pss_cons (ps_fld (pv 0) (pe_lock (pe_dcN (own := [("term", 2)]) (g := gName 2) (tt := tYes) rfl (hu_n hr) sc_Web__take.nd (pi_keysN (pe_fld (pv 1) rfl)) (blkOk_by (own := [("term", 2)]) (N := ["self", "other", "term"]) (sc := defScope s_Web__take) (by decide +kernel)) (fun _ _ _ _ _ => (pg_name (i := 2) sc_Web__take.nd rfl (Or.inl rfl))) (fun _ _ _ _ _ => pts_nil) (fun _ _ _ _ _ => (pv 2)) (fun _ _ _ _ _ => (pe_ngetW (w := w) (hu_n hr) (pe_fldW (K := K) (pv 1) rfl) (pv 2) (fun _ _ => rfl))))) rfl)
    (pss_cons (ps_fld (pv 0) (pe_callTy call_list_of (by rfl) T.z_list (by decide +kernel) (pa_cons (pe_fld (pv 1) rfl) pa_nil)) rfl)
    (pss_one (ps_fld (pv 0) (pe_fld (pv 1) rfl) rfl))))))), ?_⟩
  have cl := T.c_Web.c
  obtain ⟨dv, hd2, dd⟩ := W.de
  obtain ⟨uv, hu2, uu⟩ := W.un
  obtain ⟨tv, ht2, tt⟩ := W.te
  obtain ⟨fr, hr2, rk⟩ := W.ra
  obtain ⟨dx2, g, l, gv, b3, b4, b5, L7, hp2, hg, rg, lk⟩ := W.ob
  have tmd := W.tmd
  have S := risT_tms (terms_tms tmd)
  have hg0 := (hidW_out hg).1
  simp only [List.mem_cons, List.not_mem_nil, or_false, not_or] at p5
  obtain ⟨pp2, pd2, pu2, pt2, pr2⟩ := p5
  -- the deeds
  refine ⟨_, rfl, p2, _, dx2, _, _, rfl, hp2, cl, T.n_Web_deeds, rfl, d2, dv, rfl, .inl (SqL.of hd2), fun d hd => ⟨_, rfl, p, _, dx, _, rfl, (same_new hd _) _ _ hp, cl, T.n_Web_deeds, by show 6 < 1000; decide, ?_⟩⟩
  obtain ⟨H1, e1⟩ : ∃ H1, H1 = L2.upd (L2.upd H d (.lst dv)) p (.ins (clsA mg "Web") dx (putF "deeds" (.ref d) (wbF d0 u0 t0 r0 g0 l0))) := ⟨_, rfl⟩
  have b1 : Bt p H H1 := by rw [e1]; exact (Bt.of (same_new hd _)).trans (Bt.upd _)
  have o1 : H1 p = some (.ins (clsA mg "Web") dx (wbF d u0 t0 r0 g0 l0)) := by rw [e1]; exact upd_same
  have d1 : H1 d = some (.lst dv) := by rw [e1, upd_ne (ne_of_none hp hd).symm]; exact upd_same
  erw [← e1]
  -- what was taken back
  refine ⟨_, rfl, p2, _, dx2, _, _, rfl, b1 _ _ hp2 (Ne.symm pp2), cl, T.n_Web_undone, rfl, u2, uv, rfl, .inl (SqL.of (b1 _ _ hu2 (Ne.symm pu2))), fun u hu => ⟨_, rfl, p, _, dx, _, rfl, (same_new hu _) _ _ o1, cl, T.n_Web_undone, by show 6 < 1000; decide, ?_⟩⟩
  obtain ⟨H2, e2⟩ : ∃ H2, H2 = L2.upd (L2.upd H1 u (.lst uv)) p (.ins (clsA mg "Web") dx (putF "undone" (.ref u) (wbF d u0 t0 r0 g0 l0))) := ⟨_, rfl⟩
  have b2 : Bt p H1 H2 := by rw [e2]; exact (Bt.of (same_new hu _)).trans (Bt.upd _)
  have o2 : H2 p = some (.ins (clsA mg "Web") dx (wbF d u t0 r0 g0 l0)) := by rw [e2]; exact upd_same
  have u2' : H2 u = some (.lst uv) := by rw [e2, upd_ne (ne_of_none o1 hu).symm]; exact upd_same
  erw [← e2]
  have b02 := b1.trans b2
  -- the tellings
  refine ⟨_, rfl, p2, _, dx2, _, _, rfl, b02 _ _ hp2 (Ne.symm pp2), cl, T.n_Web_tellings, rfl, t2, tv, rfl, .inl (SqL.of (b02 _ _ ht2 (Ne.symm pt2))), fun t ht => ⟨_, rfl, p, _, dx, _, rfl, (same_new ht _) _ _ o2, cl, T.n_Web_tellings, by show 6 < 1000; decide, ?_⟩⟩
  obtain ⟨H3, e3⟩ : ∃ H3, H3 = L2.upd (L2.upd H2 t (.lst tv)) p (.ins (clsA mg "Web") dx (putF "tellings" (.ref t) (wbF d u t0 r0 g0 l0))) := ⟨_, rfl⟩
  have b3' : Bt p H2 H3 := by rw [e3]; exact (Bt.of (same_new ht _)).trans (Bt.upd _)
  have o3 : H3 p = some (.ins (clsA mg "Web") dx (wbF d u t r0 g0 l0)) := by rw [e3]; exact upd_same
  have t3 : H3 t = some (.lst tv) := by rw [e3, upd_ne (ne_of_none o2 ht).symm]; exact upd_same
  erw [← e3]
  have b03 := b02.trans b3'
  -- the ranks
  have hr3 := b03 _ _ hr2 (Ne.symm pr2)
  have tk03 : TK H H3 := fun a xs z => b03 _ _ z (ne_of z hp fun e => nomatch e)
  have rk3 := ranks_tk tk03 rk
  have SR := terms_tms tmd
  have len60 := W.few
  have rl3 := rk3.len
  refine ⟨r2, _, hr3, True.intro, fun od => ?_⟩
  have hp23 := b03 _ _ hp2 (Ne.symm pp2)
  have rp2 : p2 ≠ r2 := ne_of hp23 hr3 fun e => nomatch e
  have prr : p ≠ r2 := pr2
  refine ⟨_, rfl, p2, _, dx2, _, _, rfl, by rw [upd_ne rp2]; exact hp23, cl, T.n_Web_ranks, rfl, r2, od, fr, rfl, upd_same, fun F hF => ?_⟩
  have Fr : F ≠ r2 := (ne_of_none upd_same hF).symm
  have hF3 : H3 F = none := by rw [upd_ne Fr] at hF; exact hF
  refine dcN_it (walk_keysN (xs := fr)) (fun i H' => (∀ b o, H3 b = some o → b ≠ r2 → H' b = some o) ∧ H' r2 = some (.frz od (DN w r2 fr)) ∧ ∃ fr', H' F = some (DN w F fr') ∧ A2 (RankAt H') fr' ((termsD ds).take i))
    ⟨fun b o e n => by rw [upd_ne (ne_of_none e hF3), upd_ne n]; exact e, by rw [upd_ne Fr.symm]; exact upd_same, [], upd_same, .nil⟩ (fun i H' _ h' => h'.2.1) (fun i v H' H'' hi h' yy => ?_) (fun H' h' => ?_)
  · obtain ⟨kp, hq, fr', hFr, rk'⟩ := h'
    obtain ⟨rfl, k, vv, ev⟩ := yy
    obtain ⟨x, ex, ra⟩ := rk3.get ev
    have tk' : TK H3 H'' := fun a' xs z => kp _ _ z (ne_of z hr3 fun e => nomatch e)
    have ra' := ra.tk tk'
    obtain ⟨tx, kx, rx, a', ea, ha'⟩ := id ra'
    have kx : k = x.nk := kx
    subst kx
    have isk := tx.isk rx
    have fx : valM fr x.nk = some vv := rank_at rk3 SR.nd (x.nk, v, vv) (List.mem_of_getElem? ev)
    have lenf := rk'.len
    rw [List.length_take] at lenf
    refine ⟨rfl, yesI ⟨_, rfl, _, rfl, p2, _, dx2, _, _, rfl, kp _ _ hp23 rp2, cl, T.n_Web_ranks, rfl, _, rfl, r2, fr, x.nk, vv, rfl, ⟨.inr ⟨od, hq⟩, rank_keys (ranks_tk tk' rk3)⟩, isk, fx, ?_⟩⟩
    have tk8 : TK H'' (L2.upd H'' F (DN w F (putM fr' x.nk v vv))) := fun a' xs z => by
      rw [upd_ne (ne_of z hFr fun e => nomatch e)]
      exact z
    refine ⟨fr', x.nk, isk, hFr, rank_keys rk', small1000 (by omega), fun b o e n => by rw [upd_ne (ne_of_none e hF3)]; exact kp b o e n, by rw [upd_ne Fr.symm]; exact hq, _, upd_same, ?_⟩
    have new : hasT ((termsD ds).take i) x = false := by
      refine Bool.eq_false_iff.mpr fun z => ?_
      have m := (hasT_iff (fun u m => SR.tm u (List.mem_of_mem_take m)) tx).mp z
      have nd := SR.nd
      rw [← List.take_append_drop i (termsD ds), List.map_append] at nd
      have mx : x ∈ (termsD ds).drop i := by
        refine List.mem_of_getElem? (i := 0) ?_
        rw [List.getElem?_drop]
        exact ex
      exact (List.nodup_append.mp nd).2.2 _ (List.mem_map.mpr ⟨x, m, rfl⟩) _ (List.mem_map.mpr ⟨x, mx, rfl⟩) rfl
    have := rank_put (ranks_tk tk8 rk') (ra'.tk tk8)
    rw [new, if_neg (by decide)] at this
    rw [List.take_add_one, ex]
    exact this
  obtain ⟨kp, hq, fr', hFr, rk'⟩ := h'
  rw [rl3, List.take_length] at rk'
  refine ⟨hq, ?_⟩
  -- behind the lock
  obtain ⟨H4', e4'⟩ : ∃ H4', H4' = L2.upd H' r2 (DN w r2 fr) := ⟨_, rfl⟩
  have s34 : Same H3 H4' := fun b o e => by
    rw [e4']
    by_cases z : b = r2
    · subst z
      rw [hr3] at e
      cases e
      exact upd_same
    · rw [upd_ne z]
      exact kp b o e z
  have hF4 : H4' F = some (DN w F fr') := by rw [e4', upd_ne Fr]; exact hFr
  have rk4 : A2 (RankAt H4') fr' (termsD ds) := ranks_tk (fun a xs z => by rw [e4', upd_ne (ne_of z hq fun e => nomatch e)]; exact z) rk'
  erw [← e4']
  have o4' := s34 _ _ o3
  refine ⟨_, rfl, p, _, dx, _, rfl, o4', cl, T.n_Web_ranks, by show 6 < 1000; decide, ?_⟩
  obtain ⟨H4, e4⟩ : ∃ H4, H4 = L2.upd H4' p (.ins (clsA mg "Web") dx (putF "ranks" (.ref F) (wbF d u t r0 g0 l0))) := ⟨_, rfl⟩
  have b4p : Bt p H4' H4 := by rw [e4]; exact Bt.upd _
  have o4 : H4 p = some (.ins (clsA mg "Web") dx (wbF d u t F g0 l0)) := by rw [e4]; exact upd_same
  have Fp : F ≠ p := ne_of hF4 o4' fun e => nomatch e
  have r4 : H4 F = some (DN w F fr') := b4p _ _ hF4 Fp
  erw [← e4]
  have b34 : Bt p H3 H4 := fun b o e n => b4p _ _ (s34 _ _ e) n
  have b04 := b03.trans b34
  -- the rising ones
  have gp : g ≠ p := ne_of hg0 hp fun e => nomatch e
  refine ⟨_, rfl, p2, _, dx2, _, _, rfl, b04 _ _ hp2 (Ne.symm pp2), cl, T.n_Web_rising, rfl, g, gv, rfl, .inl (SqL.of (b04 _ _ hg0 gp)), fun g' hg' => ⟨_, rfl, p, _, dx, _, rfl, (same_new hg' _) _ _ o4, cl, T.n_Web_rising, by show 6 < 1000; decide, ?_⟩⟩
  obtain ⟨H5, e5⟩ : ∃ H5, H5 = L2.upd (L2.upd H4 g' (.lst gv)) p (.ins (clsA mg "Web") dx (putF "rising" (.ref g') (wbF d u t F g0 l0))) := ⟨_, rfl⟩
  have b5' : Bt p H4 H5 := by rw [e5]; exact (Bt.of (same_new hg' _)).trans (Bt.upd _)
  have o5 : H5 p = some (.ins (clsA mg "Web") dx (wbF d u t F g' l0)) := by rw [e5]; exact upd_same
  have g5 : H5 g' = some (.lst gv) := by rw [e5, upd_ne (ne_of_none o4 hg').symm]; exact upd_same
  erw [← e5]
  have b05 := b04.trans b5'
  refine ⟨_, rfl, p2, _, dx2, _, _, rfl, b05 _ _ hp2 (Ne.symm pp2), cl, T.n_Web_likeness, rfl, _, rfl, p, _, dx, _, rfl, o5, cl, T.n_Web_likeness, by show 6 < 1000; decide, ?_⟩
  obtain ⟨H6, e6⟩ : ∃ H6, H6 = L2.upd H5 p (.ins (clsA mg "Web") dx (putF "likeness" (.ref l) (wbF d u t F g' l0))) := ⟨_, rfl⟩
  have b6 : Bt p H5 H6 := by rw [e6]; exact Bt.upd _
  have o6 : H6 p = some (.ins (clsA mg "Web") dx (wbF d u t F g' l)) := by rw [e6]; exact upd_same
  erw [← e6]
  have b06 := b05.trans b6
  have tk06 : TK H H6 := fun a xs z => b06 _ _ z (ne_of z hp fun e => nomatch e)
  have b16 := ((b2.trans b3').trans b34).trans (b5'.trans b6)
  have b26 := (b3'.trans b34).trans (b5'.trans b6)
  have b36 := b34.trans (b5'.trans b6)
  have b46 := b5'.trans b6
  have dd6 : H6 d = some (.lst dv) := b16.ins o1 d1 fun _ _ _ e => nomatch e
  have uu6 : H6 u = some (.lst uv) := b26.ins o2 u2' fun _ _ _ e => nomatch e
  have tt6 : H6 t = some (.lst tv) := b36.ins o3 t3 fun _ _ _ e => nomatch e
  have rr6 : H6 F = some (DN w F fr') := b46 _ _ r4 Fp
  have gp' : g' ≠ p := ne_of g5 o5 fun e => nomatch e
  have gg6 : H6 g' = some (.lst gv) := b6 _ _ g5 gp'
  have tk46 : TK H4' H6 := fun a xs z => b46 _ _ (b4p _ _ z (ne_of z o4' fun e => nomatch e)) (ne_of z o4' fun e => nomatch e)
  have du : d ≠ u := ne_of_none d1 hu
  have dt : d ≠ t := ne_of_none (b2.ins o1 d1 fun _ _ _ e => nomatch e) ht
  have ut : u ≠ t := ne_of_none u2' ht
  have nd : H d = none := hd
  have nu : H u = none := b1.none o1 hu
  have nt : H t = none := b02.none o2 ht
  have nF : H F = none := b03.none o3 hF3
  have ng : H g' = none := b04.none o4 hg'
  have in0 : ∀ b ∈ N ++ [p2, d2, u2, t2, r2], ∃ o, H b = some o ∧ noTb o ∧ (∀ xs, o ≠ .tup xs) ∧ b ≠ p := fun b m => by
    rcases List.mem_append.mp m with m | m
    · obtain ⟨o, e, tb, n⟩ := W.nn b m
      exact ⟨o, e, tb, n, fun z => pN (by rw [← z]; exact m)⟩
    · obtain ⟨o, e, tb, n⟩ := W.mok b m
      refine ⟨o, e, tb, n, fun z => ?_⟩
      simp only [List.mem_cons, List.not_mem_nil, or_false] at m
      rcases m with y | y | y | y | y
      · exact pp2 (z.symm.trans y)
      · exact pd2 (z.symm.trans y)
      · exact pu2 (z.symm.trans y)
      · exact pt2 (z.symm.trans y)
      · exact pr2 (z.symm.trans y)
  have nn6 : Mok (N ++ [p2, d2, u2, t2, r2]) H6 := fun b m => by
    obtain ⟨o, e, tb, n, np⟩ := in0 b m
    exact ⟨o, b06 _ _ e np, tb, n⟩
  have nd6 : ∀ b ∈ N ++ [p2, d2, u2, t2, r2], b ∉ [p, d, u, t, F] := fun b m z => by
    obtain ⟨o, e, tb, n, np⟩ := in0 b m
    simp only [List.mem_cons, List.not_mem_nil, or_false] at z
    rcases z with y | y | y | y | y
    · exact np y
    · rw [y, nd] at e; cases e
    · rw [y, nu] at e; cases e
    · rw [y, nt] at e; cases e
    · rw [y, nF] at e; cases e
  -- into the hidden heap
  have into : ∀ {b : Addr} {o : HO}, hidW ([p2, d2, u2, t2, r2] ++ N) H b = some o → b ≠ p → hidW ([p, d, u, t, F] ++ (N ++ [p2, d2, u2, t2, r2])) H6 b = some o := fun {b o} e np => by
    obtain ⟨e1, n, tb⟩ := hidW_out e
    rw [List.mem_append, not_or] at n
    refine hidW_in (b06 _ _ e1 np) (fun m => ?_) tb
    rcases List.mem_append.mp m with m | m
    · simp only [List.mem_cons, List.not_mem_nil, or_false] at m
      rcases m with y | y | y | y | y
      · exact np y
      · rw [y, nd] at e1; cases e1
      · rw [y, nu] at e1; cases e1
      · rw [y, nt] at e1; cases e1
      · rw [y, nF] at e1; cases e1
    · exact (List.mem_append.mp m).elim n.2 n.1
  have gM : g' ∉ [p, d, u, t, F] ++ (N ++ [p2, d2, u2, t2, r2]) := fun m => by
    rcases List.mem_append.mp m with m | m
    · simp only [List.mem_cons, List.not_mem_nil, or_false] at m
      have b14 := (b2.trans b3').trans b34
      have b24 := b3'.trans b34
      rcases m with y | y | y | y | y
      · exact gp' y
      · rw [y, b14.ins o1 d1 fun _ _ _ e => nomatch e] at hg'; cases hg'
      · rw [y, b24.ins o2 u2' fun _ _ _ e => nomatch e] at hg'; cases hg'
      · rw [y, b34.ins o3 t3 fun _ _ _ e => nomatch e] at hg'; cases hg'
      · rw [y, r4] at hg'; cases hg'
    · obtain ⟨o, e, _⟩ := in0 g' m
      rw [ng] at e
      cases e
  have tkh : TK (hidW ([p2, d2, u2, t2, r2] ++ N) H) (hidW ([p, d, u, t, F] ++ (N ++ [p2, d2, u2, t2, r2])) H6) := fun a xs z => into z (ne_of (hidW_out z).1 hp fun e => nomatch e)
  have rg6 : RepL (hidW ([p, d, u, t, F] ++ (N ++ [p2, d2, u2, t2, r2])) H6) gv (risT (termsD ds)) := reps_tk tkh S.tm rg
  obtain ⟨⟨dl, a1, a2, hl⟩, hL, ⟨frS, hS⟩, hD, low⟩ := id lk
  have lp : l ≠ p := ne_of (hidW_out hl).1 hp fun e => by
    injection e with _ _ e
    have := congrArg List.length e
    cases this
  refine q H6 d u t F b06 nd nu nt nF ⟨⟨dv, dd6, deeds_tk tk06 dd tmd⟩, ⟨uv, uu6, deeds_tk tk06 uu fun x m => (W.oku x m).1⟩, ⟨tv, tt6, deeds_tk tk06 tt fun x m => tmd x (List.mem_filter.mp m).1⟩, ⟨fr', rr6, ranks_tk tk46 rk4⟩,
    ⟨dx, g', l, gv, b3, b4, b5, L7, o6, hidW_in gg6 gM (fun _ e => nomatch e), rg6, ⟨⟨dl, a1, a2, into hl lp⟩, into hL (ne_of (hidW_out hL).1 hp fun e => nomatch e), ⟨frS, ⟨into hS.dict (ne_of (hidW_out hS.dict).1 hp fun e => nomatch e), hS.keys.wk tkh, hS.few, hS.all, hS.from_⟩⟩, into hD (ne_of (hidW_out hD).1 hp fun e => nomatch e), low⟩⟩, du, dt, ut, W.okd, W.oku, W.few, W.tel, nn6, nd6⟩
theorem c_Web_twin (T : Tx K mg) : ClM P w K mg base CX0 8 (clsA mg "Web") "twin" ["self"] (sp_twin (clsA mg "Web") (clsA mg "Likeness") w) := by
  refine ClM.mk0 T.d_Web_twin sc_Web_twin (fun vs H Q E h => ?_) (fun f cdv A outer s H vs Q E hr h => ?_)
  · obtain ⟨p2, d2, u2, t2, r2, N, ds, us, rfl, _⟩ := h
    rfl
  obtain ⟨p2, d2, u2, t2, r2, N, ds, us, rfl, W, q⟩ := h
  refine ⟨_, (pss_cons (ps_set (i := 1) sc_Web_twin.nd rfl (Or.inl rfl) (pe_mkC0 T.c_Web (c_Web___init__ T) hr (by omega) rfl))
    (pss_cons (ps_expr (pe_mm T.c_Web.c (c_Web__take T) hr (by omega) (pv 1) (pa_cons (pv 0) pa_nil)))
    (pss_one (ps_ret (pv 1))))), ?_⟩
  refine fun x dx hx hdx nx => ?_
  obtain ⟨H1, e1⟩ : ∃ H1, H1 = L2.upd (L2.upd H dx (.own x)) x (.ins (clsA mg "Web") dx []) := ⟨_, rfl⟩
  have s1 : Same H H1 := by
    rw [e1]
    exact (same_new hdx _).trans (same_new (by rw [upd_ne nx.symm]; exact hx) _)
  have hx1 : H1 x = some (.ins (clsA mg "Web") dx []) := by rw [e1]; exact upd_same
  erw [← e1]
  refine ⟨x, dx, [], rfl, hx1, (fun _ m => absurd m List.not_mem_nil), List.not_mem_nil, fun H2 d' u' t' r' bt nd nu nt nr W0 => ⟨rfl, ?_⟩⟩
  have s2 : Same H H2 := fun b o e => bt b o (s1 b o e) (ne_of_none e hx)
  obtain ⟨dx0, g0, l0, _, _, _, _, _, hx2, _⟩ := W0.ob
  have W2 := W.keep (H' := H2) fun b o e _ => s2 b o e
  have xN : x ∉ N := fun m => by
    obtain ⟨o, e, _⟩ := W.nn x m
    rw [hx] at e
    cases e
  have x5 : x ∉ [p2, d2, u2, t2, r2] := fun m => by
    obtain ⟨o, e, _⟩ := W.mok x m
    rw [hx] at e
    cases e
  refine ⟨_, rfl, x, dx0, _, rfl, hx2, rfl, _, rfl, x, dx0, p2, d2, u2, t2, r2, d', u', t', r', g0, l0, N, ds, us, rfl, hx2, W2, xN, x5, fun H3 d u t r b3 n1 n2 n3 n4 W3 => ?_⟩
  have s3 : Same H H3 := fun b o e => b3 b o (s2 b o e) (ne_of_none e hx)
  exact ⟨_, rfl, q H3 x d u t r s3 hx (Same.none s2 n1) (Same.none s2 n2) (Same.none s2 n3) (Same.none s2 n4) W3⟩
end
end Kt
namespace Kt
open PySem PySem.Spec PyProof.Rows L2
/-! ### marks -/
/-- the low of a shape, if a row has it -/
def gOf (rows : List (Str × List Nat)) (L : List Nat) (k : NestedKey) : Option Nat := ((List.range rows.length).find? fun i => match rows[i]? with | some r => decide (kk L r = k) | none => false).map (Lk.at_ L)
mutual
/-- the mark of a term: its class's low, or its shape -/
def mkF (g : NestedKey → Option Nat) : Th → NestedKey
  | .tup (.str z :: ps) => match g (.tup (.text z :: mkFL g ps)) with
    | some i => .num (i : Nat)
    | none => .tup (.text z :: mkFL g ps)
  | _ => .none
def mkFL (g : NestedKey → Option Nat) : List Th → List NestedKey
  | [] => []
  | p :: ps => mkF g p :: mkFL g ps
end
def shF (g : NestedKey → Option Nat) (t : Th) : NestedKey := .tup (.text (headT t) :: mkFL g (partsT t))
theorem mkFL_map (g : NestedKey → Option Nat) : ∀ l : List Th, mkFL g l = l.map (mkF g)
  | [] => rfl
  | p :: ps => by
    show mkF g p :: mkFL g ps = _
    rw [mkFL_map g ps]
    rfl
theorem mkF_eq (g : NestedKey → Option Nat) {t : Th} (h : tm t) : mkF g t = match g (shF g t) with | some i => .num (i : Nat) | none => shF g t := by
  obtain ⟨z, ps, e, _⟩ := h.tup
  subst e
  rfl
theorem g_val {w : World} {H : Hp} {a : Addr} {rows : List (Str × List Nat)} {L : List Nat} {fr : List RowV} (S : ShapesAt w H a rows L fr) (k : NestedKey) : valM fr k = (gOf rows L k).map fun i => V.int (i : Nat) := by
  unfold gOf
  cases e : (List.range rows.length).find? fun i => match rows[i]? with | some r => decide (kk L r = k) | none => false with
  | some i =>
    have f := List.find?_some e
    cases er : rows[i]? with
    | none =>
      rw [er] at f
      cases f
    | some r =>
      rw [er] at f
      have f : kk L r = k := of_decide_eq_true f
      rw [← f, S.all i r er]
      rfl
  | none =>
    cases ev : valM fr k with
    | none => rfl
    | some v =>
      obtain ⟨i, r, er, ek, _⟩ := S.from_ k v ev
      have := List.find?_eq_none.mp e i (List.mem_range.mpr (List.getElem?_eq_some_iff.mp er).1)
      rw [er] at this
      exact absurd (decide_eq_true ek) this
mutual
/-- a value that is a mark -/
inductive MkR (H : Hp) : NestedKey → V → Prop
  | low (i : Nat) : MkR H (.num (i : Nat)) (.int (i : Nat))
  | sh {a : Addr} {z : Str} {ks : List NestedKey} {vs : List V} (h : H a = some (.tup (.str z :: vs))) (ok : okS z) (r : MkRs H ks vs) : MkR H (.tup (.text z :: ks)) (.ref a)
inductive MkRs (H : Hp) : List NestedKey → List V → Prop
  | nil : MkRs H [] []
  | cons {k : NestedKey} {v : V} {ks : List NestedKey} {vs : List V} : MkR H k v → MkRs H ks vs → MkRs H (k :: ks) (v :: vs)
end
theorem MkRs.len {H : Hp} : ∀ {ks : List NestedKey} {vs : List V}, MkRs H ks vs → vs.length = ks.length
  | _, _, .nil => rfl
  | _, _, .cons _ r => by rw [List.length_cons, List.length_cons, r.len]
theorem MkRs.app {H : Hp} : ∀ {ks : List NestedKey} {vs : List V} {k : NestedKey} {v : V}, MkRs H ks vs → MkR H k v → MkRs H (ks ++ [k]) (vs ++ [v])
  | _, _, _, _, .nil, h => .cons h .nil
  | _, _, _, _, .cons a r, h => .cons a (r.app h)
mutual
theorem MkR.tk {H H' : Hp} (k : ∀ a xs, H a = some (.tup xs) → H' a = some (.tup xs)) : ∀ (m : NestedKey) (v : V), MkR H m v → MkR H' m v
  | .num _, _, h => by
    cases h with
    | low i => exact .low i
  | .tup [], _, h => by cases h
  | .tup (_ :: ks), _, h => by
    cases h with
    | sh h ok r => exact .sh (k _ _ h) ok (MkRs.tk k ks _ r)
  | .none, _, h => by cases h
  | .text _, _, h => by cases h
theorem MkRs.tk {H H' : Hp} (k : ∀ a xs, H a = some (.tup xs) → H' a = some (.tup xs)) : ∀ (ms : List NestedKey) (vs : List V), MkRs H ms vs → MkRs H' ms vs
  | [], _, h => by
    cases h
    exact .nil
  | m :: ms, _, h => by
    cases h with
    | cons a r => exact .cons (MkR.tk k m _ a) (MkRs.tk k ms _ r)
end
mutual
theorem MkR.nrep {H : Hp} : ∀ (m : NestedKey) (v : V), MkR H m v → NRep H m v
  | .num _, _, h => by
    cases h with
    | low i => exact .int _
  | .tup [], _, h => by cases h
  | .tup (_ :: ks), _, h => by
    cases h with
    | sh h ok r => exact .tup h (.cons (.text _) (MkRs.nrep ks _ r))
  | .none, _, h => by cases h
  | .text _, _, h => by cases h
theorem MkRs.nrep {H : Hp} : ∀ (ms : List NestedKey) (vs : List V), MkRs H ms vs → NReps H ms vs
  | [], _, h => by
    cases h
    exact .nil
  | m :: ms, _, h => by
    cases h with
    | cons a r => exact .cons (MkR.nrep m _ a) (MkRs.nrep ms _ r)
end
mutual
def nkD : NestedKey → PyData
  | .none => .none
  | .num i => .int i
  | .text z => .str z
  | .tup ks => .tuple (nkDL ks)
def nkDL : List NestedKey → List PyData
  | [] => []
  | k :: ks => nkD k :: nkDL ks
end
mutual
theorem MkR.dp {K : PySem.W.Frag} {H : Hp} : ∀ (m : NestedKey) (v : V), MkR H m v → Dp K H v (nkD m) ∧ (nkD m).canLay0 = true ∧ (nkD m).depth ≤ m.depth
  | .num _, _, h => by
    cases h with
    | low i => exact ⟨.int _, rfl, Nat.zero_le _⟩
  | .tup [], _, h => by cases h
  | .tup (_ :: ks), _, h => by
    cases h with
    | @sh a z _ vs h ok r =>
      obtain ⟨h1, h2, h3⟩ := MkRs.dp (K := K) ks _ r
      refine ⟨.tup (SqT.of h) (.cons (.str z) h1), ?_, ?_⟩
      · show ((PyData.str z).canLay0 && PyData.canLayAll0 (nkDL ks)) = true
        rw [h2, Bool.and_true]
        simp only [PyData.canLay0, PyData.strOk, Array.all_eq_true_iff_forall_mem, decide_eq_true_eq]
        intro x hx
        exact ok x (Array.mem_toList_iff.mpr hx)
      · show max (PyData.str z).depth (PyData.depthAll (nkDL ks)) + 1 ≤ max (NestedKey.depth (.text z)) (NestedKey.depthAll ks) + 1
        have e1 : (PyData.str z).depth = 0 := rfl
        have e2 : NestedKey.depth (.text z) = 0 := rfl
        omega
  | .none, _, h => by cases h
  | .text _, _, h => by cases h
theorem MkRs.dp {K : PySem.W.Frag} {H : Hp} : ∀ (ms : List NestedKey) (vs : List V), MkRs H ms vs → DpAll K H vs (nkDL ms) ∧ PyData.canLayAll0 (nkDL ms) = true ∧ PyData.depthAll (nkDL ms) ≤ NestedKey.depthAll ms
  | [], _, h => by
    cases h
    exact ⟨.nil, rfl, Nat.zero_le _⟩
  | m :: ms, _, h => by
    cases h with
    | cons a r =>
      obtain ⟨a1, a2, a3⟩ := MkR.dp (K := K) m _ a
      obtain ⟨h1, h2, h3⟩ := MkRs.dp (K := K) ms _ r
      refine ⟨.cons a1 h1, ?_, ?_⟩
      · show ((nkD m).canLay0 && PyData.canLayAll0 (nkDL ms)) = true
        rw [a2, h2]
        rfl
      · show max (nkD m).depth (PyData.depthAll (nkDL ms)) ≤ max m.depth (NestedKey.depthAll ms)
        omega
end
mutual
theorem MkR.eqv {H : Hp} : ∀ (a b : NestedKey) (u v : V), MkR H a u → MkR H b v → (PyData.eqv (nkD a) (nkD b) = true ↔ a = b)
  | .num i, .num j, _, _, _, _ => by
    show (i == j) = true ↔ _
    rw [beq_iff_eq]
    exact ⟨fun e => by rw [e], fun e => by injection e⟩
  | .num i, .tup ks, _, _, _, _ => ⟨fun h => (by cases h), fun h => (by cases h)⟩
  | .tup ks, .num j, _, _, _, _ => ⟨fun h => (by cases h), fun h => (by cases h)⟩
  | .tup [], _, _, _, h, _ => by cases h
  | .tup (_ :: _), .tup [], _, _, _, h => by cases h
  | .tup (x :: ks), .tup (y :: ls), u, v, h, g => by
    cases h with
    | @sh a z _ vs h1 ok r =>
      cases g with
      | @sh b z' _ ws g1 ok' r' =>
        show ((z == z') && PyData.eqvAll (nkDL ks) (nkDL ls)) = true ↔ _
        rw [Bool.and_eq_true, beq_iff_eq, MkRs.eqv ks ls vs ws r r']
        exact ⟨fun ⟨e1, e2⟩ => by rw [e1, e2], fun e => by
          injection e with e
          injection e with e1 e2
          injection e1 with e1
          exact ⟨e1, e2⟩⟩
  | .none, _, _, _, h, _ => by cases h
  | .text _, _, _, _, h, _ => by cases h
  | .num _, .none, _, _, _, h => by cases h
  | .num _, .text _, _, _, _, h => by cases h
  | .tup (_ :: _), .none, _, _, _, h => by cases h
  | .tup (_ :: _), .text _, _, _, _, h => by cases h
theorem MkRs.eqv {H : Hp} : ∀ (as bs : List NestedKey) (us vs : List V), MkRs H as us → MkRs H bs vs → (PyData.eqvAll (nkDL as) (nkDL bs) = true ↔ as = bs)
  | [], [], _, _, _, _ => ⟨fun _ => rfl, fun _ => rfl⟩
  | [], _ :: _, _, _, _, _ => ⟨fun h => (by cases h), fun h => (by cases h)⟩
  | _ :: _, [], _, _, _, _ => ⟨fun h => (by cases h), fun h => (by cases h)⟩
  | a :: as, b :: bs, _, _, h, g => by
    cases h with
    | cons h1 h2 =>
      cases g with
      | cons g1 g2 =>
        show (PyData.eqv (nkD a) (nkD b) && PyData.eqvAll (nkDL as) (nkDL bs)) = true ↔ _
        rw [Bool.and_eq_true, MkR.eqv a b _ _ h1 g1, MkRs.eqv as bs _ _ h2 g2]
        exact ⟨fun ⟨e1, e2⟩ => by rw [e1, e2], fun e => List.cons.inj e⟩
end
theorem hgt_le {t : Th} (h : tm t) : t.hgt < 6 := within_hgt h
theorem hgt_of_part {t p : Th} (h : tm t) (m : p ∈ partsT t) {n : Nat} (g : t.hgt < n + 1) : p.hgt < n := by
  have e := h.eta
  rw [e] at g
  exact hgt_part g p (List.mem_cons_of_mem _ m)
theorem mk_depth (g : NestedKey → Option Nat) : ∀ (n : Nat) (t : Th), tm t → t.hgt < n → (shF g t).depth ≤ n ∧ (mkF g t).depth ≤ n
  | 0, _, _, h => absurd h (Nat.not_lt_zero _)
  | n + 1, t, h, hg => by
    have all : ∀ l : List Th, (∀ p ∈ l, p ∈ partsT t) → NestedKey.depthAll (mkFL g l) ≤ n := by
      intro l
      induction l with
      | nil => exact fun _ => Nat.zero_le _
      | cons p ps ih =>
        intro m
        show max (mkF g p).depth (NestedKey.depthAll (mkFL g ps)) ≤ n
        have mp := m p List.mem_cons_self
        have := (mk_depth g n p (h.parts p mp) (hgt_of_part h mp hg)).2
        have := ih fun q mq => m q (List.mem_cons_of_mem _ mq)
        omega
    have d : (shF g t).depth ≤ n + 1 := by
      show max (NestedKey.depth (.text (headT t))) (NestedKey.depthAll (mkFL g (partsT t))) + 1 ≤ n + 1
      have e : NestedKey.depth (.text (headT t)) = 0 := rfl
      have := all (partsT t) fun _ m => m
      omega
    refine ⟨d, ?_⟩
    rw [mkF_eq g h]
    split
    · exact Nat.zero_le _
    · exact d
theorem LkAt.out {w : World} {C : Addr} {M : List Addr} {H : Hp} {x b3 b4 b5 : Addr} {ts : List Th} {E : List (Nat × Nat)} {L : List Nat} (k : LkAt w C (hidW M H) x b3 b4 b5 ts E L) : LkAt w C H x b3 b4 b5 ts E L :=
  k.to (fun _ e _ => (hidW_out e).1) (fun _ e _ => (hidW_out e).1) (fun _ e _ => (hidW_out e).1) (fun _ e _ => (hidW_out e).1) fun _ _ h => (hidW_out h).1
theorem head_ok {H : Hp} {v : V} {t : Th} (h : tm t) (r : Rep H v t) : okS (headT t) := by
  obtain ⟨z, ps, rfl, _⟩ := h.tup
  cases r with
  | tup _ _ hl =>
    cases hl with
    | cons r _ =>
      cases r with
      | str z h1 h2 => exact h2
def sp_mark (C : Addr) (w : World) (n : Nat) : Sp := fun vs H Q _ => ∃ (x b3 b4 b5 : Addr) (v : V) (ts : List Th) (E : List (Nat × Nat)) (L : List Nat) (t : Th), vs = [.ref x, v] ∧ LkAt w C H x b3 b4 b5 ts E L ∧ ts.length ≤ 100 ∧ Rep H v t ∧ tm t ∧ t.hgt < n ∧
  ∀ H' m, Same H H' → MkR H' (mkF (gOf (rowsT ts) L) t) m → Q m H'
section
variable {P : Program} {w : World} {K : PySem.W.Frag} {mg : Str → Option Value} {base : Heap} {cA tP : Addr}
theorem c_Likeness_mark_n (T : Tx K mg) : ∀ n : Nat, n ≤ 6 → ClM P w K mg base CX0 (n + 6) (clsA mg "Likeness") "mark" ["self", "term"] (sp_mark (clsA mg "Likeness") w n)
  | 0, _ => ClM.no T.d_Likeness_mark fun vs H Q E h => by
    obtain ⟨_, _, _, _, _, _, _, _, _, _, _, _, _, _, h, _⟩ := h
    exact absurd h (Nat.not_lt_zero _)
  | n + 1, n6 => by
    have ih := c_Likeness_mark_n T n (by omega)
    refine ClM.mk0 T.d_Likeness_mark sc_Likeness_mark (fun vs H Q E h => ?_) (fun f cdv A outer s H vs Q E hr h => ?_)
    · obtain ⟨x, b3, b4, b5, v, ts, E, L, t, rfl, _⟩ := h
      rfl
    obtain ⟨x, b3, b4, b5, v, ts, E, L, t, rfl, lk, t100, rt, ht, hg, q⟩ := h
    refine ⟨_, (pss_cons (ps_if (pt_truth (pe_fld (pv 0) rfl) (by intro _; rfl))
      (pss_one (ps_expr (pe_mm0 T.c_Likeness.c (c_Likeness__settle T) hr (by omega) (pv 0))))
      pss_nil)
    (pss_cons (ps_set (i := 2) sc_Likeness_mark.nd rfl (Or.inl rfl) (pe_op op_catA (pe_tup (pa_cons (pe_ix ix_tup (pv 1) pe_int (fun _ _ => rfl)) pa_nil)) (pe_callTy call_tuple_of (by rfl) T.z_tuple (by decide +kernel) (pa_cons (pe_lc (own := [("part", 3)]) (g := gName 3) (tt := tYes) rfl sc_Likeness_mark.nd (pi_tup (pe_slice sl_tupA (pv 1) (po_some pe_int) po_no)) (blkOk_by (own := [("part", 3)]) (N := ["self", "term", "shape", "part"]) (sc := defScope s_Likeness_mark) (by decide +kernel)) (fun _ _ _ _ _ => (pg_name (i := 3) sc_Likeness_mark.nd rfl (Or.inl rfl))) (fun _ _ _ _ _ => pts_nil) (fun _ _ _ _ _ => (pe_mm T.c_Likeness.c ih hr (by omega) (pv 0) (pa_cons (pv 3) pa_nil)))) pa_nil))))
    (pss_one (ps_ret (pe_nget2 (hu_n hr) (pe_fld (pv 0) rfl) (pv 2) (pv 2) ⟨rfl, rfl, rfl, rfl⟩))))), ?_⟩
    have cl := T.c_Likeness.c
    obtain ⟨⟨dx, a1, a2, hx⟩, hL, ⟨fr, hS⟩, hD, low⟩ := id lk
    obtain ⟨ta, pvs, rfl, hta, hps⟩ := ht.rep rt
    have plen := hps.length
    have pfew := ht.few
    have l1 : 1 ≤ sizeLine := by decide
    refine ⟨_, rfl, x, _, dx, _, _, rfl, hx, cl, T.n_Likeness_due, rfl, _, .inl ⟨_, SqL.of hD, rfl⟩, ?_⟩
    refine iteF ⟨_, rfl, ta, _, 0, .str (headT t), rfl, rfl, SqT.of hta, atI_nat (j := 0) rfl, l1, fun p hp => ⟨_, rfl, 1, rfl, sl_lo (K := K) 1 ((same_new hp _) _ _ hta) (by omega) (by rw [List.length_cons]; omega) fun p2 hp2 => ⟨p2, rfl, ⟨_, SqT.of upd_same⟩, fun D hDn => ?_⟩⟩⟩
    have s1 := same_new (o := .tup [V.str (headT t)]) hp
    have s2 := same_new (o := .tup ((V.str (headT t) :: pvs).drop 1)) hp2
    have s12 := s1.trans s2
    refine lc_it (walk_tup (xs := pvs)) (fun i H' => Same H H' ∧ H' p = some (.tup [V.str (headT t)]) ∧ H' p2 = some (.tup pvs) ∧ ∃ ms, H' D = some (.lst ms) ∧ MkRs H' ((mkFL (gOf (rowsT ts) L) (partsT t)).take i) ms)
      ⟨s12.trans (same_new hDn _), same_new hDn _ _ _ (s2 _ _ upd_same), same_new hDn _ _ _ upd_same, [], upd_same, .nil⟩ (fun i H' _ h' => SqT.of h'.2.2.1) (fun i v H' H'' hi h' yy => ?_) (fun H' h' => ?_)
    · obtain ⟨s3, hp', hp2', ms, hms, mk⟩ := h'
      obtain ⟨rfl, hv⟩ := yy
      obtain ⟨u, eu, ru⟩ := hps.get' hv
      have mu := List.mem_of_getElem? eu
      have lk3 := lk.same s3
      obtain ⟨⟨dx3, c1, c2, hx3⟩, _⟩ := id lk3
      have mlen := mk.len
      refine ⟨rfl, yesI ⟨_, rfl, x, dx3, _, rfl, hx3, rfl, _, rfl, x, b3, b4, b5, v, ts, E, L, u, rfl, lk3, t100, ru.wk (Wk.same s3), ht.parts u mu, hgt_of_part ht mu hg, fun H4 m s4 mk4 => ?_⟩⟩
      have hms4 := s4 _ _ hms
      have w5 := Wk.lst_upd hms4 (ms ++ [m])
      have e1 : (mkFL (gOf (rowsT ts) L) (partsT t)).take (i + 1) = (mkFL (gOf (rowsT ts) L) (partsT t)).take i ++ [mkF (gOf (rowsT ts) L) u] := by
        rw [List.take_add_one, mkFL_map, List.getElem?_map, eu]
        rfl
      rw [List.length_take, mkFL_map, List.length_map] at mlen
      have t5 : ∀ a xs, H4 a = some (.tup xs) → (L2.upd H4 D (.lst (ms ++ [m]))) a = some (.tup xs) := fun a xs z => by
        rw [upd_ne (ne_of z hms4 fun e => nomatch e)]
        exact z
      refine ⟨ms, hms4, small1000 (by omega), Same.mut (s3.trans s4) (Same.none s12 hDn), t5 _ _ (s4 _ _ hp'), t5 _ _ (s4 _ _ hp2'), _, upd_same, ?_⟩
      rw [e1]
      exact (MkRs.tk (fun a xs z => t5 _ _ (s4 _ _ z)) _ _ mk).app (MkR.tk t5 _ _ mk4)
    · obtain ⟨s3, hp', hp2', ms, hms, mk⟩ := h'
      have full : (mkFL (gOf (rowsT ts) L) (partsT t)).take pvs.length = mkFL (gOf (rowsT ts) L) (partsT t) := List.take_of_length_le (by rw [mkFL_map, List.length_map]; omega)
      rw [full] at mk
      have mlen := mk.len
      rw [mkFL_map, List.length_map] at mlen
      refine ⟨D, _, rfl, .inl ⟨SqL.of hms, fun N hN => ?_⟩⟩
      have sN := same_new (o := .tup ms) hN
      refine catA (sN _ _ hp') upd_same (fun z => by cases z) (by rw [List.length_singleton]; omega) fun N2 H5 s5 h5 => ?_
      have s15 : Same H H5 := (s3.trans sN).trans s5
      have lk5 := lk.same s15
      obtain ⟨⟨dx5, c1, c2, hx5⟩, _, ⟨fr5, S5⟩, _⟩ := id lk5
      have mk5 := MkRs.tk (fun a xs z => (sN.trans s5) _ _ z) _ _ mk
      have msh : MkR H5 (shF (gOf (rowsT ts) L) t) (.ref N2) := .sh h5 (head_ok ht rt) mk5
      have dep := (mk_depth (gOf (rowsT ts) L) (n + 1) t ht hg).1
      refine ⟨_, rfl, x, _, dx5, _, _, rfl, hx5, cl, T.n_Likeness_shapes, rfl, b4, rfl, ⟨fr5, .inl S5.dict, S5.keys⟩, _, rfl, _, rfl, fr5, shF (gOf (rowsT ts) L) t, ⟨.inl S5.dict, S5.keys⟩, ⟨MkR.nrep _ _ msh, by omega⟩, ?_⟩
      have eq := q H5
      rw [mkF_eq _ ht] at eq
      rw [g_val S5]
      cases eg : gOf (rowsT ts) L (shF (gOf (rowsT ts) L) t) with
      | some i =>
        rw [eg] at eq
        exact eq _ s15 (.low i)
      | none =>
        rw [eg] at eq
        exact eq _ s15 msh
theorem c_Likeness_mark (T : Tx K mg) : ClM P w K mg base CX0 12 (clsA mg "Likeness") "mark" ["self", "term"] (sp_mark (clsA mg "Likeness") w 6) := c_Likeness_mark_n T 6 (Nat.le_refl _)
end
/-- what is told of two terms -/
def sp_lalike (C : Addr) (w : World) : Sp := fun vs H Q _ => ∃ (x b3 b4 b5 : Addr) (v u : V) (ts : List Th) (E : List (Nat × Nat)) (L : List Nat) (t s : Th), vs = [.ref x, v, u] ∧ LkAt w C H x b3 b4 b5 ts E L ∧ ts.length ≤ 100 ∧ Rep H v t ∧ tm t ∧ Rep H u s ∧ tm s ∧
  ∀ H', Same H H' → (∀ b : Bool, (b = true ↔ mkF (gOf (rowsT ts) L) t = mkF (gOf (rowsT ts) L) s) → Q (.bl b) H')
def sp_walike (CW CL : Addr) (w : World) : Sp := fun vs H Q _ => ∃ (p d u t r : Addr) (N : List Addr) (ds us : List Deed) (v y : V) (a b : Th), vs = [.ref p, v, y] ∧ WebAt w CW CL N H p d u t r ds us ∧ Rep H v a ∧ tm a ∧ Rep H y b ∧ tm b ∧
  ∀ H' L, Same H H' → Lk.IsLows (rowsT (risT (termsD ds))) (prsT (risT (termsD ds)) (likesT (tellsD ds))) L → (∀ z : Bool, (z = true ↔ mkF (gOf (rowsT (risT (termsD ds))) L) a = mkF (gOf (rowsT (risT (termsD ds))) L) b) → Q (.bl z) H')
def sp_wleast (CW CL : Addr) (w : World) : Sp := fun vs H Q _ => ∃ (p d u t r : Addr) (N : List Addr) (ds us : List Deed) (v : V) (a : Th), vs = [.ref p, v] ∧ WebAt w CW CL N H p d u t r ds us ∧ Rep H v a ∧ tm a ∧
  ∀ H' L o, Same H H' → Lk.IsLows (rowsT (risT (termsD ds))) (prsT (risT (termsD ds)) (likesT (tellsD ds))) L → ((∃ (i : Nat) (t : Th), mkF (gOf (rowsT (risT (termsD ds))) L) a = .num (i : Nat) ∧ (risT (termsD ds))[i]? = some t ∧ Rep H' o t) ∨ ((∀ i : Int, mkF (gOf (rowsT (risT (termsD ds))) L) a ≠ .num i) ∧ o = .non)) → Q o H'
theorem g_lt {rows : List (Str × List Nat)} {E : List (Nat × Nat)} {L : List Nat} (low : Lk.IsLows rows E L) {k : NestedKey} {i : Nat} (h : gOf rows L k = some i) : i < rows.length := by
  unfold gOf at h
  cases e : (List.range rows.length).find? fun i => match rows[i]? with | some r => decide (kk L r = k) | none => false with
  | none =>
    rw [e] at h
    cases h
  | some j =>
    rw [e] at h
    have h : some (Lk.at_ L j) = some i := h
    injection h with h
    have m := List.mem_of_find?_eq_some e
    have lt := List.mem_range.mp m
    have le := low.canon.le j (by rw [low.len]; exact lt)
    omega
section
variable {P : Program} {w : World} {K : PySem.W.Frag} {mg : Str → Option Value} {base : Heap} {cA tP : Addr}
theorem c_Likeness_alike (T : Tx K mg) : ClM P w K mg base CX0 13 (clsA mg "Likeness") "alike" ["self", "one", "other"] (sp_lalike (clsA mg "Likeness") w) := by
  refine ClM.mk0 T.d_Likeness_alike sc_Likeness_alike (fun vs H Q E h => ?_) (fun f cdv A outer s H vs Q E hr h => ?_)
  · obtain ⟨x, b3, b4, b5, v, u, ts, E, L, t, s, rfl, _⟩ := h
    rfl
  obtain ⟨x, b3, b4, b5, v, u, ts, E, L, t, s', rfl, lk, t100, rt, ht, rs, hs, q⟩ := h
  refine ⟨_, (pss_one (ps_ret (pe_cmpR (op_eqD hr.units) (pe_mm T.c_Likeness.c (c_Likeness_mark T) hr (by omega) (pv 0) (pa_cons (pv 1) pa_nil)) (pe_mm T.c_Likeness.c (c_Likeness_mark T) hr (by omega) (pv 0) (pa_cons (pv 2) pa_nil)) (nomark _)))), ?_⟩
  obtain ⟨⟨dx, a1, a2, hx⟩, _⟩ := id lk
  refine ⟨_, rfl, x, dx, _, rfl, hx, rfl, _, rfl, x, b3, b4, b5, v, ts, E, L, t, rfl, lk, t100, rt, ht, hgt_le ht, fun H1 m1 s1 k1 => ?_⟩
  refine ⟨_, rfl, x, dx, _, rfl, s1 _ _ hx, rfl, _, rfl, x, b3, b4, b5, u, ts, E, L, s', rfl, lk.same s1, t100, rs.wk (Wk.same s1), hs, hgt_le hs, fun H2 m2 s2 k2 => ?_⟩
  have k1' := MkR.tk (fun a xs z => s2 _ _ z) _ _ k1
  obtain ⟨d1, c1, e1⟩ := MkR.dp (K := K) _ _ k1'
  obtain ⟨d2, c2, e2⟩ := MkR.dp (K := K) _ _ k2
  have n1 := (mk_depth (gOf (rowsT ts) L) 6 t ht (hgt_le ht)).2
  have n2 := (mk_depth (gOf (rowsT ts) L) 6 s' hs (hgt_le hs)).2
  have sh : ∀ {d : PyData}, d.canLay0 = true → d.depth ≤ 20 → SeqAt.shaped d = true := fun {d} h1 h2 => by
    unfold SeqAt.shaped
    rw [h1, decide_eq_true (by omega)]
    rfl
  exact ⟨_, _, d1, d2, sh c1 (by omega), sh c2 (by omega), q H2 (s1.trans s2) _ (MkR.eqv _ _ _ _ k1' k2)⟩
theorem c_Web_alike_f (T : Tx K mg) : ClMF P w K mg base CX0 14 (clsA mg "Web") "alike" "Web.alike" s_Web_alike ["self", "one", "other"] (sp_walike (clsA mg "Web") (clsA mg "Likeness") w) := by
  refine ClMF.mk0 T.d_Web_alike sc_Web_alike (fun vs H Q E h => ?_) (fun f cdv A outer s H vs Q E hr h => ?_)
  · obtain ⟨p, d, u, t, r, N, ds, us, v, y, a, b, rfl, _⟩ := h
    rfl
  obtain ⟨p, d, u, t, r, N, ds, us, v, y, a, b, rfl, W, ra, ta, rb, tb, q⟩ := h
  refine ⟨_, (pss_cons (ps_expr (pe_cl (c_refuse_no_term T) hr (by omega) rfl (pa_cons (pv 1) pa_nil)))
    (pss_cons (ps_expr (pe_cl (c_refuse_no_term T) hr (by omega) rfl (pa_cons (pv 2) pa_nil)))
    (pss_one (ps_ret (pe_mm T.c_Likeness.c (c_Likeness_alike T) hr (by omega) (pe_fld (pv 0) rfl) (pa_cons (pv 1) (pa_cons (pv 2) pa_nil))))))), ?_⟩
  refine ⟨_, rfl, v, a, rfl, ra, ta, fun H1 s1 => ⟨_, rfl, y, b, rfl, rb.wk (Wk.same s1), tb, fun H2 s2 => ?_⟩⟩
  have s12 := s1.trans s2
  obtain ⟨dx, g, l, gv, b3, b4, b5, L, hp, hg, rg, lk⟩ := W.ob
  have lk2 := lk.out.same s12
  have few := W.few
  have rl := risT_len (termsD ds)
  obtain ⟨⟨dl, a1, a2, hl⟩, _, _, _, low⟩ := id lk2
  exact ⟨_, rfl, p, _, dx, _, _, rfl, s12 _ _ hp, T.c_Web.c, T.n_Web_likeness, rfl, l, dl, _, rfl, hl, rfl, _, rfl, _, rfl, l, b3, b4, b5, v, y, _, _, L, a, b, rfl, lk2, by omega, ra.wk (Wk.same s12), ta, rb.wk (Wk.same s12), tb, fun H3 s3 z hz => q H3 L (s12.trans s3) low z hz⟩
theorem c_Web_alike (T : Tx K mg) : ClM P w K mg base CX0 14 (clsA mg "Web") "alike" ["self", "one", "other"] (sp_walike (clsA mg "Web") (clsA mg "Likeness") w) := (c_Web_alike_f T).cl
theorem k_Web_alike_sw (T : Tx K mg) : ClMK P w K mg base CX0 14 (clsA mg "Web") "alike" ["self", "one", "other"] ["other", "one"] swp (sp_walike (clsA mg "Web") (clsA mg "Likeness") w) :=
  (c_Web_alike_f T).kw fun kV doc pm an cdv ct u us hl => by
    match us, hl with
    | [a, b], _ => rfl
theorem c_Web_least_f (T : Tx K mg) : ClMF P w K mg base CX0 13 (clsA mg "Web") "least" "Web.least" s_Web_least ["self", "term"] (sp_wleast (clsA mg "Web") (clsA mg "Likeness") w) := by
  refine ClMF.mk0 T.d_Web_least sc_Web_least (fun vs H Q E h => ?_) (fun f cdv A outer s H vs Q E hr h => ?_)
  · obtain ⟨p, d, u, t, r, N, ds, us, v, a, rfl, _⟩ := h
    rfl
  obtain ⟨p, d, u, t, r, N, ds, us, v, a, rfl, W, ra, ta, q⟩ := h
  refine ⟨_, (pss_cons (ps_expr (pe_cl (c_refuse_no_term T) hr (by omega) rfl (pa_cons (pv 1) pa_nil)))
    (pss_cons (ps_set (i := 2) sc_Web_least.nd rfl (Or.inl rfl) (pe_mm T.c_Likeness.c (c_Likeness_mark T) hr (by omega) (pe_fld (pv 0) rfl) (pa_cons (pv 1) pa_nil)))
    (pss_one (ps_ret (pe_ifExp (pt_val (pe_callB (id := "isinstance") (r := rIsi K) call_isi (by rfl) T.z_isinstance (by decide +kernel) (pa_cons (pv 2) (pa_cons (pe_bltn (v := .ty "int") (u := .type "int") (by rfl) T.z_int (by decide +kernel) rfl) pa_nil)))) (pe_ix ix_list (pe_fld (pv 0) rfl) (pv 2) (fun _ _ => rfl)) pe_non))))), ?_⟩
  refine ⟨_, rfl, v, a, rfl, ra, ta, fun H1 s1 => ?_⟩
  obtain ⟨dx, g, l, gv, b3, b4, b5, L, hp, hg, rg, lk⟩ := W.ob
  have lk1 := lk.out.same s1
  have few := W.few
  have rl := risT_len (termsD ds)
  have S := risT_tms (terms_tms W.tmd)
  have hg0 := (hidW_out hg).1
  have rg0 := reps_tk (hid_tk _ _) S.tm rg
  obtain ⟨⟨dl, a1, a2, hl⟩, _, _, _, low⟩ := id lk1
  refine ⟨_, rfl, p, _, dx, _, _, rfl, s1 _ _ hp, T.c_Web.c, T.n_Web_likeness, rfl, l, dl, _, rfl, hl, rfl, _, rfl, l, b3, b4, b5, v, _, _, L, a, rfl, lk1, by omega, ra.wk (Wk.same s1), ta, hgt_le ta, fun H2 m s2 mk => ?_⟩
  have s12 := s1.trans s2
  cases em : mkF (gOf (rowsT (risT (termsD ds))) L) a with
  | num j =>
    rw [em] at mk
    cases mk with
    | low i =>
      have lt : i < (risT (termsD ds)).length := by
        rw [mkF_eq _ ta] at em
        split at em
        · rename_i k ek
          injection em with em
          have lt := g_lt low ek
          unfold rowsT at lt
          rw [List.length_map] at lt
          omega
        · unfold shF at em
          cases em
      have gl := rg0.length
      have eg : gv[i]? = some (gv[i]'(by omega)) := List.getElem?_eq_getElem (by omega)
      obtain ⟨t0, et, rt⟩ := rg0.get' eg
      refine ⟨_, rfl, _, _, _, _, _, rfl, .ty _, .base (.int i), kit_ty (show kitB "int" "int" = some true by decide +kernel), _, rfl, ?_⟩
      refine iteT ⟨_, rfl, p, _, dx, _, _, rfl, s12 _ _ hp, T.c_Web.c, T.n_Web_rising, rfl, _, rfl, g, gv, _, _, rfl, rfl, SqL.of (s12 _ _ hg0), atI_nat eg, ?_⟩
      exact q H2 L _ s12 low (.inl ⟨i, t0, em, et, rt.wk (Wk.same s12)⟩)
  | tup ks =>
    rw [em] at mk
    cases mk with
    | sh h ok r =>
      refine ⟨_, rfl, _, _, _, _, _, rfl, .ty _, .base (.tup h), kit_ty (show kitB "tuple" "int" = some false by decide +kernel), _, rfl, ?_⟩
      exact iteF (q H2 L _ s12 low (.inr ⟨fun i => (by rw [em]; exact fun z => nomatch z), rfl⟩))
  | none =>
    rw [em] at mk
    cases mk
  | text z =>
    rw [em] at mk
    cases mk
theorem c_Web_least (T : Tx K mg) : ClM P w K mg base CX0 13 (clsA mg "Web") "least" ["self", "term"] (sp_wleast (clsA mg "Web") (clsA mg "Likeness") w) := (c_Web_least_f T).cl
end
end Kt
namespace Kt
open PySem PySem.Spec PyProof.Rows L2
theorem isHl_out {z : Str} (h : isHl z = true) : ∃ l, z.cps.toList = 63 :: l ∧ 1 ≤ l.length ∧ l.length ≤ 4 ∧ l.all lowc = true := by
  unfold isHl at h
  rw [Bool.and_eq_true] at h
  obtain ⟨h1, h2⟩ := h
  have h1 := V.str.inj (of_decide_eq_true h1)
  have e1 : (cutS z none (some 1)).cps.toList = [63] := by
    rw [h1]
    decide +kernel
  have e1 : (z.cps.toList.drop (HT.sIx z.length 0 none)).take (HT.sIx z.length z.length (some ((1 : Nat) : Int)) - HT.sIx z.length 0 none) = [63] := e1
  rw [HT.sIx_none, HT.sIx_nat] at e1
  have e2 : (cutS z (some 1) none).cps.toList = (z.cps.toList.drop (HT.sIx z.length 0 (some ((1 : Nat) : Int)))).take (HT.sIx z.length z.length none - HT.sIx z.length 0 (some ((1 : Nat) : Int))) := rfl
  rw [HT.sIx_none, HT.sIx_nat] at e2
  have zl : z.length = z.cps.toList.length := rfl
  cases hz : z.cps.toList with
  | nil =>
    rw [hz, List.drop_nil, List.take_nil] at e1
    cases e1
  | cons c l =>
    rw [hz, List.length_cons] at zl
    rw [hz, Nat.min_eq_left (by omega)] at e1
    have e1 : [c] = [63] := e1
    cases e1
    rw [hz, Nat.min_eq_left (by omega)] at e2
    have e2 : (cutS z (some 1) none).cps.toList = l.take (z.length - 1) := e2
    rw [List.take_of_length_le (by omega)] at e2
    obtain ⟨g1, g2, g3⟩ := isW_out h2
    rw [len_list, e2] at g1 g2
    rw [e2] at g3
    exact ⟨l, rfl, g1, by omega, g3⟩
end Kt
namespace Kt
open PySem PySem.Spec PyProof.Rows L2
/-! ### things as data; texts tell things apart -/
mutual
def Th.da : Th → PyData
  | .non => .none
  | .bl b => .bool b
  | .int i => .int i
  | .str z => .str z
  | .tup l => .tuple (daL l)
  | .ls => .list []
  | .dc => .list []
def daL : List Th → List PyData
  | [] => []
  | p :: ps => p.da :: daL ps
end
mutual
theorem dp_of {K : PySem.W.Frag} {H : Hp} : ∀ {b : Bool} (t : Th) {v : V}, t.shape b = true → Rep H v t → Dp K H v t.da
  | _, .str z, _, _, r => by
    cases r with
    | str z hz ok => exact .str z
  | _, .tup [], _, h, _ => by cases h
  | b, .tup (x :: ps), _, hs, r => by
    have hs : (decide (ps.length < 4) && (x.word 8 && shapeL b ps)) = true := hs
    simp only [Bool.and_eq_true, decide_eq_true_eq] at hs
    cases r with
    | tup ha hn hl =>
      cases hl with
      | cons hx hps =>
        cases x with
        | str z =>
          cases hx with
          | str z hz ok => exact .tup (SqT.of ha) (.cons (.str z) (dp_ofL ps hs.2.2 hps))
        | _ => cases hs.2.1
  | _, .non, _, h, _ | _, .bl _, _, h, _ | _, .int _, _, h, _ | _, .ls, _, h, _ | _, .dc, _, h, _ => by cases h
theorem dp_ofL {K : PySem.W.Frag} {H : Hp} : ∀ {b : Bool} (l : List Th) {vs : List V}, shapeL b l = true → RepL H vs l → DpAll K H vs (daL l)
  | _, [], _, _, r => by
    cases r
    exact .nil
  | b, p :: ps, _, hs, r => by
    have hs : (p.shape b && shapeL b ps) = true := hs
    rw [Bool.and_eq_true] at hs
    cases r with
    | cons h r => exact .cons (dp_of p hs.1 h) (dp_ofL ps hs.2 r)
end
theorem canStr {z : Str} (h : okS z) : (PyData.str z).canLay0 = true := by
  simp only [PyData.canLay0, PyData.strOk, Array.all_eq_true_iff_forall_mem, decide_eq_true_eq]
  intro x hx
  exact h x (Array.mem_toList_iff.mpr hx)
theorem isHl_ok {z : Str} (h : isHl z = true) : okS z := by
  obtain ⟨l, e, _, _, h3⟩ := isHl_out h
  intro c hc
  rw [e] at hc
  rcases List.mem_cons.mp hc with rfl | hc
  · decide
  · exact lowc_lt (List.all_eq_true.mp h3 c hc)
mutual
theorem can_da {b : Bool} : ∀ t : Th, t.shape b = true → t.da.canLay0 = true ∧ t.da.depth ≤ t.dep
  | .str z, h => by
    have h : (b && isHl z) = true := h
    rw [Bool.and_eq_true] at h
    exact ⟨canStr (isHl_ok h.2), Nat.zero_le _⟩
  | .tup [], h => by cases h
  | .tup (x :: ps), hs => by
    have hs : (decide (ps.length < 4) && (x.word 8 && shapeL b ps)) = true := hs
    simp only [Bool.and_eq_true, decide_eq_true_eq] at hs
    cases x with
    | str z =>
      obtain ⟨h1, h2⟩ := can_daL ps hs.2.2
      have hz := okS_low (isW_out (show isW z 8 = true from hs.2.1)).2.2
      refine ⟨?_, ?_⟩
      · show ((PyData.str z).canLay0 && PyData.canLayAll0 (daL ps)) = true
        rw [canStr hz, h1]
        rfl
      · show max (PyData.str z).depth (PyData.depthAll (daL ps)) + 1 ≤ 1 + depL ps
        have : (PyData.str z).depth = 0 := rfl
        omega
    | _ => cases hs.2.1
  | .non, h | .bl _, h | .int _, h | .ls, h | .dc, h => by cases h
theorem can_daL {b : Bool} : ∀ l : List Th, shapeL b l = true → PyData.canLayAll0 (daL l) = true ∧ PyData.depthAll (daL l) ≤ depL l
  | [], _ => ⟨rfl, Nat.le_refl _⟩
  | p :: ps, hs => by
    have hs : (p.shape b && shapeL b ps) = true := hs
    rw [Bool.and_eq_true] at hs
    obtain ⟨h1, h2⟩ := can_da p hs.1
    obtain ⟨h3, h4⟩ := can_daL ps hs.2
    refine ⟨?_, ?_⟩
    · show (p.da.canLay0 && PyData.canLayAll0 (daL ps)) = true
      rw [h1, h3]
      rfl
    · show max p.da.depth (PyData.depthAll (daL ps)) ≤ max p.dep (depL ps)
      omega
end
theorem shaped_da {b : Bool} {t : Th} (h : within b t = true) : SeqAt.shaped t.da = true := by
  obtain ⟨h1, h2, _⟩ := within_iff.mp h
  obtain ⟨h3, h4⟩ := can_da t h1
  unfold SeqAt.shaped
  rw [h3, decide_eq_true (by omega)]
  rfl
mutual
theorem eqv_da {b c : Bool} : ∀ t u : Th, t.shape b = true → u.shape c = true → (PyData.eqv t.da u.da = true ↔ t = u)
  | .str z, .str y, _, _ => by
    show (z == y) = true ↔ _
    rw [beq_iff_eq]
    exact ⟨fun e => by rw [e], fun e => Th.str.inj e⟩
  | .str z, .tup l, _, _ => ⟨fun h => (by cases h), fun h => (by cases h)⟩
  | .tup l, .str z, _, _ => ⟨fun h => (by cases h), fun h => (by cases h)⟩
  | .tup [], _, h, _ => by cases h
  | .tup (_ :: _), .tup [], _, h => by cases h
  | .tup (x :: ps), .tup (y :: qs), hs, hu => by
    have hs : (decide (ps.length < 4) && (x.word 8 && shapeL b ps)) = true := hs
    have hu : (decide (qs.length < 4) && (y.word 8 && shapeL c qs)) = true := hu
    simp only [Bool.and_eq_true, decide_eq_true_eq] at hs hu
    have ih := eqv_daL ps qs hs.2.2 hu.2.2
    cases x with
    | str z =>
      cases y with
      | str z' =>
        show ((z == z') && PyData.eqvAll (daL ps) (daL qs)) = true ↔ _
        rw [Bool.and_eq_true, ih, beq_iff_eq]
        exact ⟨fun ⟨e1, e2⟩ => by rw [e1, e2], fun e => by
          have := Th.tup.inj e
          exact ⟨Th.str.inj (List.cons.inj this).1, (List.cons.inj this).2⟩⟩
      | _ => cases hu.2.1
    | _ => cases hs.2.1
  | .non, _, h, _ | .bl _, _, h, _ | .int _, _, h, _ | .ls, _, h, _ | .dc, _, h, _ => by cases h
  | .str _, .non, _, h | .str _, .bl _, _, h | .str _, .int _, _, h | .str _, .ls, _, h | .str _, .dc, _, h => by cases h
  | .tup (_ :: _), .non, _, h | .tup (_ :: _), .bl _, _, h | .tup (_ :: _), .int _, _, h | .tup (_ :: _), .ls, _, h | .tup (_ :: _), .dc, _, h => by cases h
theorem eqv_daL {b c : Bool} : ∀ l r : List Th, shapeL b l = true → shapeL c r = true → (PyData.eqvAll (daL l) (daL r) = true ↔ l = r)
  | [], [], _, _ => ⟨fun _ => rfl, fun _ => rfl⟩
  | [], _ :: _, _, _ => ⟨fun h => (by cases h), fun h => (by cases h)⟩
  | _ :: _, [], _, _ => ⟨fun h => (by cases h), fun h => (by cases h)⟩
  | p :: ps, q :: qs, hs, hu => by
    have hs : (p.shape b && shapeL b ps) = true := hs
    have hu : (q.shape c && shapeL c qs) = true := hu
    rw [Bool.and_eq_true] at hs hu
    show (PyData.eqv p.da q.da && PyData.eqvAll (daL ps) (daL qs)) = true ↔ _
    rw [Bool.and_eq_true, eqv_da p q hs.1 hu.1, eqv_daL ps qs hs.2 hu.2]
    exact ⟨fun ⟨e1, e2⟩ => by rw [e1, e2], fun e => List.cons.inj e⟩
end
end Kt
namespace Kt
open PySem PySem.Spec PyProof.Rows L2
/-! ### _law_parts: a term's parts, each once -/
mutual
def lp : Th → List Th
  | .tup (x :: ps) => lpL ps [] ++ [.tup (x :: ps)]
  | t => [t]
def lpL : List Th → List Th → List Th
  | [], F => F
  | p :: ps, F => lpL ps (F ++ (lp p).filter fun x => !hasT F x)
end
theorem da_map : ∀ l : List Th, daL l = l.map Th.da
  | [] => rfl
  | t :: l => by
    rw [List.map_cons, ← da_map l]
    rfl
theorem shapeL_tm : ∀ l : List Th, (∀ t ∈ l, tm t) → shapeL false l = true
  | [], _ => rfl
  | t :: l, h => by
    show (t.shape false && shapeL false l) = true
    rw [(h t List.mem_cons_self).shape, shapeL_tm l fun u m => h u (List.mem_cons_of_mem _ m)]
    rfl
theorem dpL_tm {K : PySem.W.Frag} {H : Hp} {l : List Th} {vs : List V} (h : ∀ t ∈ l, tm t) (r : RepL H vs l) : DpAll K H vs (daL l) := dp_ofL l (shapeL_tm l h) r
theorem depL_tm : ∀ l : List Th, (∀ t ∈ l, tm t) → depL l ≤ 5
  | [], _ => Nat.zero_le _
  | t :: l, h => by
    have h1 := depL_tm l fun u m => h u (List.mem_cons_of_mem _ m)
    obtain ⟨_, h2, _⟩ := within_iff.mp (h t List.mem_cons_self)
    show max t.dep (depL l) ≤ 5
    omega
theorem shaped_list {l : List Th} (h : ∀ t ∈ l, tm t) : SeqAt.shaped (.list (daL l)) = true := by
  obtain ⟨a, b⟩ := can_daL (b := false) l (shapeL_tm l h)
  have c := depL_tm l h
  unfold SeqAt.shaped
  rw [Bool.and_eq_true]
  refine ⟨a, decide_eq_true ?_⟩
  show PyData.depthAll (daL l) + 1 ≤ 64
  omega
theorem any_has {l : List Th} (h : ∀ t ∈ l, tm t) {t : Th} (ht : tm t) : ((daL l).any fun z => PyData.eqv z t.da) = hasT l t := by
  unfold hasT
  induction l with
  | nil => rfl
  | cons u us ih =>
    show (PyData.eqv u.da t.da || (daL us).any fun z => PyData.eqv z t.da) = _
    rw [List.any_cons, ih fun x m => h x (List.mem_cons_of_mem _ m)]
    congr 1
    have hu := h u List.mem_cons_self
    show PyData.eqv u.da t.da = decide (u.nk = t.nk)
    rw [Bool.eq_iff_iff, eqv_da u t hu.shape ht.shape, decide_eq_true_eq]
    exact ⟨fun e => by rw [e], fun e => hu.inj ht e⟩
mutual
theorem allW_size : ∀ t : Th, ∀ s ∈ allW t, s.size ≤ t.size
  | .tup [], s, m => by
    rw [List.mem_singleton.mp m]
    exact Int.le_refl _
  | .tup (x :: ps), s, m => by
    rcases List.mem_cons.mp m with e | m
    · rw [e]
      exact Int.le_refl _
    · have := allL_size ps s m
      show s.size ≤ 1 + sizeL ps
      omega
  | .non, s, m | .bl _, s, m | .int _, s, m | .str _, s, m | .ls, s, m | .dc, s, m => by
    rw [List.mem_singleton.mp m]
    exact Int.le_refl _
theorem allL_size : ∀ l : List Th, ∀ s ∈ allL l, s.size ≤ sizeL l
  | [], s, m => absurd m List.not_mem_nil
  | p :: ps, s, m => by
    have hp : 0 ≤ p.size := by
      have := allW_len p
      omega
    have hs : 0 ≤ sizeL ps := by
      have := allL_len ps
      omega
    show s.size ≤ p.size + sizeL ps
    rcases List.mem_append.mp m with m | m
    · have := allW_size p s m
      omega
    · have := allL_size ps s m
      omega
end
theorem nd_app {F G : List Th} (h : (F.map Th.nk).Nodup) (g : (G.map Th.nk).Nodup) (hF : ∀ t ∈ F, tm t) (hG : ∀ t ∈ G, tm t) (d : ∀ t ∈ G, t ∉ F) : ((F ++ G).map Th.nk).Nodup := by
  rw [List.map_append]
  refine List.nodup_append.mpr ⟨h, g, fun a ha b hb e => ?_⟩
  obtain ⟨u, mu, rfl⟩ := List.mem_map.mp ha
  obtain ⟨v, mv, rfl⟩ := List.mem_map.mp hb
  have := (hF u mu).inj (hG v mv) e
  subst this
  exact d u mv mu
mutual
theorem lp_ok : ∀ t : Th, tm t → (∀ s, s ∈ lp t ↔ s ∈ allW t) ∧ ((lp t).map Th.nk).Nodup
  | .tup [], h => by
    obtain ⟨_, _, e, _⟩ := h.tup
    cases e
  | .tup (x :: ps), h => by
    obtain ⟨z, qs, e, _, _, hp⟩ := h.tup
    cases e
    obtain ⟨a, b⟩ := lpL_ok ps [] hp (fun _ m => absurd m List.not_mem_nil) List.nodup_nil
    have a : ∀ s, s ∈ lpL ps [] ↔ s ∈ allL ps := fun s => (a s).trans ⟨fun q => q.elim (fun q => absurd q List.not_mem_nil) id, .inr⟩
    constructor
    · intro s
      show s ∈ lpL ps [] ++ [_] ↔ s ∈ Th.tup (.str z :: ps) :: allL ps
      rw [List.mem_append, List.mem_singleton, List.mem_cons, a]
      exact Or.comm
    · refine nd_app b (by simp) (fun t m => allL_tm ps hp t ((a t).mp m)) (fun t m => by rw [List.mem_singleton.mp m]; exact h) fun t m q => ?_
      rw [List.mem_singleton.mp m] at q
      have := allL_size ps _ ((a _).mp q)
      have : (1 : Int) + sizeL ps ≤ sizeL ps := this
      omega
  | .str z, h => by
    obtain ⟨_, _, e, _⟩ := h.tup
    cases e
  | .int i, h => by
    obtain ⟨_, _, e, _⟩ := h.tup
    cases e
  | .bl b, h => by
    obtain ⟨_, _, e, _⟩ := h.tup
    cases e
  | .non, h => by
    obtain ⟨_, _, e, _⟩ := h.tup
    cases e
  | .ls, h => by
    obtain ⟨_, _, e, _⟩ := h.tup
    cases e
  | .dc, h => by
    obtain ⟨_, _, e, _⟩ := h.tup
    cases e
theorem lpL_ok : ∀ (ps F : List Th), (∀ t ∈ ps, tm t) → (∀ t ∈ F, tm t) → (F.map Th.nk).Nodup → (∀ s, s ∈ lpL ps F ↔ s ∈ F ∨ s ∈ allL ps) ∧ ((lpL ps F).map Th.nk).Nodup
  | [], F, _, _, nd => ⟨fun s => ⟨.inl, fun q => q.elim id fun q => absurd q List.not_mem_nil⟩, nd⟩
  | p :: ps, F, h, hF, nd => by
    have hp := h p List.mem_cons_self
    obtain ⟨a, b⟩ := lp_ok p hp
    have tl : ∀ t ∈ lp p, tm t := fun t m => allW_tm p hp t ((a t).mp m)
    have tf : ∀ t ∈ (lp p).filter fun x => !hasT F x, tm t := fun t m => tl t (List.mem_filter.mp m).1
    have mem : ∀ t, t ∈ (lp p).filter (fun x => !hasT F x) ↔ t ∈ allW p ∧ t ∉ F := fun t => by
      rw [List.mem_filter, a]
      constructor
      · rintro ⟨m, q⟩
        refine ⟨m, fun z => ?_⟩
        rw [(hasT_iff hF (allW_tm p hp t m)).mpr z] at q
        cases q
      · rintro ⟨m, q⟩
        refine ⟨m, ?_⟩
        rw [Bool.eq_false_iff.mpr fun z => q ((hasT_iff hF (allW_tm p hp t m)).mp z)]
        rfl
    have nd2 : ((F ++ (lp p).filter fun x => !hasT F x).map Th.nk).Nodup := nd_app nd (List.Sublist.nodup (List.filter_sublist.map Th.nk) b) hF tf fun t m => ((mem t).mp m).2
    obtain ⟨c, d⟩ := lpL_ok ps (F ++ (lp p).filter fun x => !hasT F x) (fun t m => h t (List.mem_cons_of_mem _ m)) (fun t m => (List.mem_append.mp m).elim (hF t) (tf t)) nd2
    refine ⟨fun s => ?_, d⟩
    show s ∈ lpL ps _ ↔ s ∈ F ∨ s ∈ allW p ++ allL ps
    rw [c, List.mem_append, mem, List.mem_append]
    constructor
    · rintro ((q | ⟨q, _⟩) | q)
      · exact .inl q
      · exact .inr (.inl q)
      · exact .inr (.inr q)
    · rintro (q | q | q)
      · exact .inl (.inl q)
      · by_cases z : s ∈ F
        · exact .inl (.inl z)
        · exact .inl (.inr ⟨q, z⟩)
      · exact .inr q
end
theorem lp_tm {t : Th} (h : tm t) : ∀ s ∈ lp t, tm s := fun s m => allW_tm t h s (((lp_ok t h).1 s).mp m)
theorem allW_30 {t : Th} (h : tm t) : (allW t).length ≤ 30 := by
  have := allW_len t
  obtain ⟨_, _, z⟩ := within_iff.mp h
  omega
theorem lp_30 {t : Th} (h : tm t) : (lp t).length ≤ 30 := Nat.le_trans (few_in (lp_ok t h).2 fun s m => ((lp_ok t h).1 s).mp m) (allW_30 h)
def sp_lparts (n : Nat) : Sp := fun vs H Q _ => ∃ v t, vs = [v] ∧ tm t ∧ t.hgt < n ∧ Rep H v t ∧ ∀ p H' xs, Same H H' → H p = none → H' p = some (.lst xs) → RepL H' xs (lp t) → Q (.ref p) H'
section
variable {P : Program} {w : World} {K : PySem.W.Frag} {mg : Str → Option Value} {base : Heap}
theorem c__law_parts_n (T : Tx K mg) : ∀ n : Nat, Cl P w K mg base CX0 (n + 1) "_law_parts" ["_law_term_here"] (sp_lparts n)
  | 0 => Cl.no T.d__law_parts fun vs H Q E h => by
    obtain ⟨v, t, _, _, hd, _⟩ := h
    exact absurd hd (Nat.not_lt_zero _)
  | n + 1 => by
    have ih := c__law_parts_n T n
    refine Cl.mk0 T.d__law_parts sc__law_parts (fun vs H Q E h => ?_) (fun f cdv A outer s H vs Q E hr h => ?_)
    · obtain ⟨v, t, rfl, _⟩ := h
      rfl
    obtain ⟨v, t, rfl, ht, hd, rt, q⟩ := h
    refine ⟨_, (pss_cons (ps_set (i := 1) sc__law_parts.nd rfl (Or.inr rfl) (pe_lst pa_nil))
    (pss_cons (ps_for PassesOwn.never rfl (pi_tup (pe_slice sl_tupA (pv 0) (po_some pe_int) po_no)) (pg_name (i := 2) sc__law_parts.nd rfl (Or.inl rfl))
      (pss_one (ps_set (i := 1) sc__law_parts.nd rfl (Or.inr rfl) (pe_op op_cat (pv 1) (pe_lc (own := [("_law_x", 3)]) (g := gName 3) rfl sc__law_parts.nd (pi_list (pe_cl ih hr (by omega) rfl (pa_cons (pv 2) pa_nil))) (blkOk_by (own := [("_law_x", 3)]) (N := ["_law_term_here", "_law_found", "_law_part", "_law_x"]) (sc := defScope s__law_parts) (by decide +kernel)) (fun _ _ _ _ _ => (pg_name (i := 3) sc__law_parts.nd rfl (Or.inl rfl))) (fun _ _ _ _ _ => (pts_one (pt_cmpR (r := rNotInD K) (op_notInD (room65 hr)) (pv 3) (pv 1) rfl))) (fun _ _ _ _ _ => (pv 3)))))))
    (pss_one (ps_ret (pe_op op_cat (pv 1) (pe_lst (pa_cons (pv 0) pa_nil))))))), ?_⟩
    obtain ⟨z, ps, rfl, h4, h8, hall⟩ := ht.tup
    obtain ⟨a, vs, rfl, ha, rvs⟩ := ht.rep rt
    have rvs : RepL H vs ps := rvs
    have vl := rvs.length
    have all30 := allW_30 ht
    have l1 : 1 ≤ sizeLine := by decide
    have okAll := (lp_ok _ ht).1
    refine ⟨Nat.zero_le _, fun F hF => ?_⟩
    have s0 := same_new hF (.lst [])
    refine ⟨_, rfl, 1, rfl, sl_lo (K := K) 1 (s0 _ _ ha) (by omega) (by rw [List.length_cons]; omega) fun p1 hp1 => ?_⟩
    have s1 := same_new hp1 (.tup ((V.str (headT (.tup (.str z :: ps))) :: vs).drop 1))
    refine ⟨p1, rfl, ⟨_, SqT.of upd_same⟩, for_it (walk_tup (xs := vs)) (fun i σ H' => ∃ y2 y3 q2 xs G, σ = [some (.ref a), some (.ref q2), y2, y3] ∧ Same H H' ∧ H' p1 = some (.tup vs) ∧ H' q2 = some (.lst xs) ∧ H q2 = none ∧ RepL H' xs G ∧ (∀ s ∈ G, tm s) ∧ (G.map Th.nk).Nodup ∧ (∀ s ∈ G, s ∈ allL ps) ∧ lpL (ps.drop i) G = lpL ps [])
      ⟨_, _, F, [], [], rfl, s0.trans s1, upd_same, s1 _ _ upd_same, hF, .nil, (fun _ m => absurd m List.not_mem_nil), List.nodup_nil, (fun _ m => absurd m List.not_mem_nil), rfl⟩ (fun i σ H' _ h' => ?_) (fun i x σ H' H'' hi h' yy => ?_) (fun σ H' h' => ?_)⟩
    · obtain ⟨_, _, _, _, _, _, _, h, _⟩ := h'
      exact SqT.of h
    · obtain ⟨y2, y3, q2, xs, G, rfl, sH, hp1', hq2, hn2, rG, tG, nG, inG, e⟩ := h'
      obtain ⟨rfl, hx⟩ := yy
      obtain ⟨u, eu, ru⟩ := rvs.get' hx
      have mu := List.mem_of_getElem? eu
      have tu := hall u mu
      have gl := few_in nG inG
      have al : (allL ps).length + 1 ≤ 30 := all30
      refine ⟨_, rfl, _, rfl, x, u, rfl, tu, hgt_part hd u (List.mem_cons_of_mem _ mu), ru.wk (Wk.same sH), fun p2 H2 zs s2 np2 h2 rz => ⟨p2, rfl, ⟨zs, SqL.of h2⟩, fun D hD => ?_⟩⟩
      have zl := rz.length
      have l30 := lp_30 tu
      have tz := lp_tm tu
      refine lc_it (walk_list (xs := zs)) (fun j H' => Same H2 H' ∧ ∃ acc, H' D = some (.lst acc) ∧ RepL H' acc (((lp u).take j).filter fun x => !hasT G x)) ⟨same_new hD _, [], upd_same, .nil⟩ (fun j H' _ h' => SqL.of (h'.1 _ _ h2)) (fun j y H' H3 hj h' yy => ?_) (fun H3 h3 => ?_)
      · obtain ⟨s3, acc, hacc, racc⟩ := h'
        obtain ⟨rfl, hy⟩ := yy
        obtain ⟨x', ex, rx⟩ := rz.get' hy
        have tx := tz x' (List.mem_of_getElem? ex)
        have rx3 := rx.wk (Wk.same s3)
        have rG3 := rG.wk (Wk.same (s2.trans s3))
        have acl := racc.length
        have fl : (((lp u).take j).filter fun x => !hasT G x).length ≤ 30 := Nat.le_trans (List.length_filter_le _ _) (by rw [List.length_take]; omega)
        refine ⟨rfl, _, rfl, _, rfl, x'.da, daL G, dp_of x' tx.shape rx3, .lst (SqL.of (s3 _ _ (s2 _ _ hq2))) (dpL_tm tG rG3), shaped_da tx, shaped_list tG, _, rfl, ?_⟩
        rw [any_has tG tx, List.take_add_one, ex]
        cases ch : hasT G x' with
        | true =>
          refine (if_neg (by decide)).mpr ⟨s3, acc, hacc, ?_⟩
          rw [List.filter_append]
          show RepL _ _ (_ ++ List.filter _ [x'])
          rw [List.filter_cons, ch, List.filter_nil]
          simpa using racc
        | false =>
          refine (if_pos rfl).mpr ⟨_, rfl, acc, hacc, small1000 (by omega), Same.mut s3 hD, _, upd_same, ?_⟩
          rw [List.filter_append]
          have e1 : List.filter (fun x => !hasT G x) (some x').toList = [x'] := by
            show List.filter _ [x'] = _
            rw [List.filter_cons, ch, List.filter_nil]
            rfl
          rw [e1]
          have w4 := Wk.lst_upd hacc (acc ++ [y])
          exact (racc.wk w4).append (.cons (rx3.wk w4) .nil)
      · obtain ⟨s3, acc, hacc, racc⟩ := h3
        rw [zl, List.take_length] at racc
        have acl := racc.length
        have fl : ((lp u).filter fun x => !hasT G x).length ≤ 30 := Nat.le_trans (List.length_filter_le _ _) l30
        have gl2 := rG.length
        refine ⟨q2, D, xs, acc, rfl, rfl, s3 _ _ (s2 _ _ hq2), hacc, Nat.le_of_lt (small1000 (by omega)), fun p3 hp3 => ?_⟩
        have s4 := same_new (o := .lst (xs ++ acc)) hp3
        have s24 := (s2.trans s3).trans s4
        have memF : ∀ s ∈ (lp u).filter fun x => !hasT G x, s ∈ allW u ∧ s ∉ G := fun s m => by
          obtain ⟨m1, m2⟩ := List.mem_filter.mp m
          refine ⟨((lp_ok u tu).1 s).mp m1, fun z => ?_⟩
          rw [(hasT_iff tG (tz s m1)).mpr z] at m2
          cases m2
        have tF : ∀ s ∈ (lp u).filter fun x => !hasT G x, tm s := fun s m => tz s (List.mem_filter.mp m).1
        refine ⟨_, _, p3, _, G ++ (lp u).filter fun x => !hasT G x, rfl, sH.trans s24, s24 _ _ hp1', upd_same, Same.none (sH.trans (s2.trans s3)) hp3, (rG.wk (Wk.same s24)).append (racc.wk (Wk.same s4)), fun s m => (List.mem_append.mp m).elim (tG s) (tF s), nd_app nG (List.Sublist.nodup (List.filter_sublist.map Th.nk) (lp_ok u tu).2) tG tF fun s m => (memF s m).2, fun s m => (List.mem_append.mp m).elim (inG s) fun m => allL_mem mu s (memF s m).1, ?_⟩
        have dr : ps.drop i = u :: ps.drop (i + 1) := by
          obtain ⟨hi', e'⟩ := List.getElem?_eq_some_iff.mp eu
          rw [List.drop_eq_getElem_cons hi', e']
        rw [dr] at e
        exact e
    · obtain ⟨y2, y3, q2, xs, G, rfl, sH, hp1', hq2, hn2, rG, tG, nG, inG, e⟩ := h'
      rw [vl, List.drop_length] at e
      have e : G = lpL ps [] := e
      have gl := few_in nG inG
      have al : (allL ps).length + 1 ≤ 30 := all30
      have gl2 := rG.length
      refine ⟨_, rfl, _, rfl, l1, fun p2 hp2 => ?_⟩
      have s2 := same_new (o := .lst [.ref a]) hp2
      refine ⟨q2, p2, xs, [.ref a], rfl, rfl, s2 _ _ hq2, upd_same, Nat.le_of_lt (small1000 (by rw [List.length_singleton]; omega)), fun p3 hp3 => ?_⟩
      have s3 := same_new (o := .lst (xs ++ [.ref a])) hp3
      refine q p3 _ _ ((sH.trans s2).trans s3) (Same.none (sH.trans s2) hp3) upd_same ?_
      show RepL _ _ (lpL ps [] ++ [.tup (.str z :: ps)])
      rw [← e]
      exact (rG.wk (Wk.same (s2.trans s3))).append (.cons (rt.wk (Wk.same ((sH.trans s2).trans s3))) .nil)
theorem c__law_parts (T : Tx K mg) : Cl P w K mg base CX0 7 "_law_parts" ["_law_term_here"] (sp_lparts 6) := c__law_parts_n T 6
end
end Kt
namespace Kt
open PySem PySem.Spec PyProof.Rows L2
/-! ### _law_every: all that stands in some terms, each once -/
def KeyAt (H : Hp) (x : RowV) (t : Th) : Prop := tm t ∧ x.1 = t.nk ∧ Rep H x.2.1 t
theorem KeyAt.tk {H H' : Hp} {x : RowV} {t : Th} (h : KeyAt H x t) (k : TK H H') : KeyAt H' x t := ⟨h.1, h.2.1, rep_tk k t _ h.1.shape h.2.2⟩
theorem key_val {H : Hp} {fr : List RowV} {R : List Th} (h : A2 (KeyAt H) fr R) (t : Th) : (valM fr t.nk).isSome = hasT R t := by
  induction h with
  | nil => rfl
  | @cons x xs y ys a _ ih =>
    rw [valM_cons]
    show _ = (decide (y.nk = t.nk) || hasT ys t)
    rw [a.2.1]
    by_cases e : y.nk = t.nk
    · rw [if_pos e, decide_eq_true e]
      rfl
    · rw [if_neg e, decide_eq_false e, ih]
      rfl
theorem key_keys {H : Hp} {fr : List RowV} {R : List Th} (h : A2 (KeyAt H) fr R) : KeysN H fr := fun x m => by
  obtain ⟨t, _, a⟩ := h.memL m
  have := a.1.isk a.2.2
  rw [a.2.1]
  exact this
theorem key_put {H : Hp} {fr : List RowV} {R : List Th} (h : A2 (KeyAt H) fr R) {t : Th} {y v : V} (a : KeyAt H (t.nk, y, v) t) : A2 (KeyAt H) (putM fr t.nk y v) (addT [] R t) := by
  have e := key_val h t
  rw [addT_nil]
  unfold putM
  by_cases z : hasT R t = true
  · rw [if_pos (e.trans z), if_pos z]
    clear e z
    induction h with
    | nil => exact .nil
    | @cons x xs u us b _ ih =>
      refine .cons ?_ ih
      show KeyAt H (if x.1 = t.nk then (x.1, x.2.1, v) else x) u
      by_cases q : x.1 = t.nk
      · rw [if_pos q]
        exact b
      · rw [if_neg q]
        exact b
  · rw [if_neg (by rw [e]; exact z), if_neg z]
    exact h.app (.cons a .nil)
theorem key_reps {H : Hp} {fr : List RowV} {R : List Th} (h : A2 (KeyAt H) fr R) : RepL H (fr.map (·.2.1)) R := by
  induction h with
  | nil => exact .nil
  | cons a _ ih => exact .cons a.2.2 ih
def everyT (ts : List Th) : List Th := (ts.flatMap lp).foldl (addT []) []
theorem lps_tm {ts : List Th} (h : ∀ t ∈ ts, tm t) : ∀ u ∈ ts.flatMap lp, tm u := fun u m => by
  obtain ⟨t, mt, m⟩ := List.mem_flatMap.mp m
  exact lp_tm (h t mt) u m
theorem fold0_mem {l F : List Th} (hF : ∀ u ∈ F, tm u) (hl : ∀ u ∈ l, tm u) (s : Th) : s ∈ l.foldl (addT []) F ↔ s ∈ F ∨ s ∈ l := by
  rw [fold_mem (K := []) (fun _ q => absurd q List.not_mem_nil) l F hF hl s]
  exact ⟨fun q => q.imp id fun q => q.1, fun q => q.imp id fun q => ⟨q, List.not_mem_nil⟩⟩
theorem every_mem {ts : List Th} (h : ∀ t ∈ ts, tm t) {s : Th} : s ∈ everyT ts ↔ ∃ t ∈ ts, s ∈ allW t := by
  unfold everyT
  rw [fold0_mem (fun _ q => absurd q List.not_mem_nil) (lps_tm h)]
  constructor
  · rintro (q | q)
    · exact absurd q List.not_mem_nil
    · obtain ⟨t, mt, m⟩ := List.mem_flatMap.mp q
      exact ⟨t, mt, ((lp_ok t (h t mt)).1 s).mp m⟩
  · rintro ⟨t, mt, m⟩
    exact .inr (List.mem_flatMap.mpr ⟨t, mt, ((lp_ok t (h t mt)).1 s).mpr m⟩)
theorem every_tms {ts : List Th} (h : ∀ t ∈ ts, tm t) : TmS (everyT ts) := by
  refine ⟨fun s m => ?_, ?_, fun s m p hp => ?_⟩
  · obtain ⟨t, mt, m⟩ := (every_mem h).mp m
    exact allW_tm t (h t mt) s m
  · exact fold_nd (K := []) (ts.flatMap lp) [] List.nodup_nil
  · obtain ⟨t, mt, m⟩ := (every_mem h).mp m
    exact (every_mem h).mpr ⟨t, mt, allW_closed t (h t mt) s m p hp⟩
theorem fold0_few {l G : List Th} (hl : ∀ u ∈ l, tm u) (h : ∀ u ∈ l, u ∈ G) : (l.foldl (addT []) []).length ≤ G.length := by
  refine few_in (fold_nd (K := []) l [] List.nodup_nil) fun s m => ?_
  rcases (fold0_mem (fun _ q => absurd q List.not_mem_nil) hl s).mp m with q | q
  · exact absurd q List.not_mem_nil
  · exact h s q
def sp_every : Sp := fun vs H Q _ => ∃ (l : Addr) (xs : List V) (ts G : List Th), vs = [.ref l] ∧ H l = some (.lst xs) ∧ RepL H xs ts ∧ (∀ t ∈ ts, tm t) ∧ G.length ≤ 400 ∧ (∀ t ∈ ts, ∀ s ∈ allW t, s ∈ G) ∧ ∀ p H' ys, Same H H' → H p = none → H' p = some (.lst ys) → RepL H' ys (everyT ts) → Q (.ref p) H'
section
variable {P : Program} {w : World} {K : PySem.W.Frag} {mg : Str → Option Value} {base : Heap}
theorem c__law_every (T : Tx K mg) : Cl P w K mg base CX0 8 "_law_every" ["_law_terms"] sp_every := by
  refine Cl.mk0 T.d__law_every sc__law_every (fun vs H Q E h => ?_) (fun f cdv A outer s H vs Q E hr h => ?_)
  · obtain ⟨l, xs, ts, G, rfl, _⟩ := h
    rfl
  obtain ⟨l, xs, ts, G, rfl, hl, rt, tts, g200, inG, q⟩ := h
  refine ⟨_, (pss_cons (ps_set (i := 1) sc__law_every.nd rfl (Or.inl rfl) pe_dnewN)
    (pss_cons (ps_for PassesOwn.never rfl (pi_list (pv 0)) (pg_name (i := 2) sc__law_every.nd rfl (Or.inl rfl))
      (pss_one (ps_for PassesOwn.never rfl (pi_list (pe_cl (c__law_parts T) hr (by omega) rfl (pa_cons (pv 2) pa_nil))) (pg_name (i := 3) sc__law_every.nd rfl (Or.inl rfl))
        (pss_one (ps_nput (hu_n hr) (pv 1) (pv 3) pe_bl rfl)))))
    (pss_one (ps_ret (pe_callTy (call_listN rfl) (by rfl) T.z_list (by decide +kernel) (pa_cons (pv 1) pa_nil)))))), ?_⟩
  have xl := rt.length
  refine fun F hF => ?_
  have s0 := same_new hF (DN w F [])
  have lIn : ∀ u ∈ ts.flatMap lp, u ∈ G := fun u m => by
    obtain ⟨t, mt, m⟩ := List.mem_flatMap.mp m
    exact inG t mt u (((lp_ok t (tts t mt)).1 u).mp m)
  refine ⟨_, rfl, l, rfl, ⟨xs, SqL.of (s0 _ _ hl)⟩, for_it (walk_list (xs := xs)) (fun i σ H' => ∃ y2 y3 fr, σ = [some (.ref l), some (.ref F), y2, y3] ∧ Same H H' ∧ H' F = some (DN w F fr) ∧ A2 (KeyAt H') fr (((ts.take i).flatMap lp).foldl (addT []) []))
    ⟨_, _, [], rfl, s0, upd_same, .nil⟩ (fun i σ H' _ h' => ?_) (fun i x σ H' H'' hi h' yy => ?_) (fun σ H' h' => ?_)⟩
  · obtain ⟨_, _, _, _, sH, _⟩ := h'
    exact SqL.of (sH _ _ hl)
  · obtain ⟨y2, y3, fr, rfl, sH, hF', kr⟩ := h'
    obtain ⟨rfl, hx⟩ := yy
    obtain ⟨t, et, rx⟩ := rt.get' hx
    have mt := List.mem_of_getElem? et
    have tt := tts t mt
    refine ⟨_, rfl, x, t, rfl, tt, within_hgt tt, rx.wk (Wk.same sH), fun p2 H2 zs s2 np2 h2 rz => ⟨p2, rfl, ⟨zs, SqL.of h2⟩, ?_⟩⟩
    have zl := rz.length
    have tz := lp_tm tt
    have F2 := s2 _ _ hF'
    refine for_it (walk_list (xs := zs)) (fun j σ H' => ∃ y3 fr, σ = [some (.ref l), some (.ref F), some x, y3] ∧ Bt F H2 H' ∧ H' F = some (DN w F fr) ∧ A2 (KeyAt H') fr ((((ts.take i).flatMap lp) ++ (lp t).take j).foldl (addT []) []))
      ⟨_, fr, rfl, Bt.refl, F2, by rw [List.take_zero, List.append_nil]; exact kr.imp fun _ _ a => a.tk fun _ _ z => s2 _ _ z⟩ (fun j σ H' _ h' => ?_) (fun j y σ H' H3 hj h' yy => ?_) (fun σ H' h' => ?_)
    · obtain ⟨_, _, _, bt, _⟩ := h'
      exact SqL.of (bt _ _ h2 (ne_of h2 F2 fun e => nomatch e))
    · obtain ⟨y3, fr, rfl, bt, hF3, kr3⟩ := h'
      obtain ⟨rfl, hy⟩ := yy
      obtain ⟨u, eu, ru⟩ := rz.get' hy
      have tu := tz u (List.mem_of_getElem? eu)
      have tk3 : TK H2 H3 := fun _ _ z => bt _ _ z (ne_of z F2 fun e => nomatch e)
      have ru3 := rep_tk tk3 u _ tu.shape ru
      have few : fr.length ≤ 400 := by
        rw [kr3.len]
        refine Nat.le_trans (fold0_few (G := G) (fun v m => ?_) fun v m => ?_) g200
        · rcases List.mem_append.mp m with m | m
          · obtain ⟨t', mt', m⟩ := List.mem_flatMap.mp m
            exact lp_tm (tts t' (List.mem_of_mem_take mt')) v m
          · exact tz v (List.mem_of_mem_take m)
        · rcases List.mem_append.mp m with m | m
          · obtain ⟨t', mt', m⟩ := List.mem_flatMap.mp m
            exact lIn v (List.mem_flatMap.mpr ⟨t', List.mem_of_mem_take mt', m⟩)
          · exact lIn v (List.mem_flatMap.mpr ⟨t, mt, List.mem_of_mem_take m⟩)
      refine ⟨_, rfl, _, rfl, F, fr, u.nk, rfl, hF3, key_keys kr3, tu.isk ru3, small1000 (by omega), ?_⟩
      have tk4 : TK H3 (L2.upd H3 F (DN w F (putM fr u.nk y (.bl true)))) := fun a zs z => by
        rw [upd_ne (ne_of z hF3 fun e => nomatch e)]
        exact z
      refine ⟨_, putM fr u.nk y (.bl true), rfl, bt.trans (Bt.upd _), upd_same, ?_⟩
      rw [List.take_add_one, eu, ← List.append_assoc, List.foldl_append]
      exact key_put (kr3.imp fun _ _ a => a.tk tk4) ⟨tu, rfl, rep_tk tk4 u _ tu.shape ru3⟩
    · obtain ⟨y3, fr, rfl, bt, hF3, kr3⟩ := h'
      rw [zl, List.take_length] at kr3
      refine ⟨_, _, fr, rfl, fun b o e => bt _ _ (s2 _ _ (sH _ _ e)) (ne_of_none e hF), hF3, ?_⟩
      rw [List.take_add_one, et, List.flatMap_append]
      show A2 _ _ ((_ ++ (lp t ++ [])).foldl _ _)
      rw [List.append_nil]
      exact kr3
  · obtain ⟨y2, y3, fr, rfl, sH, hF', kr⟩ := h'
    rw [xl, List.take_length] at kr
    exact ⟨_, rfl, F, fr, rfl, ⟨.inl hF', key_keys kr⟩, fun p hp => q p _ _ (sH.trans (same_new hp _)) (Same.none sH hp) upd_same ((key_reps kr).wk (Wk.same (same_new hp _)))⟩
end
end Kt
namespace Kt
open PySem PySem.Spec PyProof.Rows L2
/-! ### _law_any: one of the terms, or a new one -/
theorem TmA.tm {left : Nat} {t : Th} (h : TmA left t) (hl : left ≤ 5) : tm t := h.within hl
def sp_any (K : PySem.W.Frag) : Sp := fun vs H Q _ => ∃ (d c h l : Addr) (rs : List V) (hs : List (Str × Nat)) (xs : List V) (ts : List Th), vs = [.ref d, .ref h, .ref l] ∧ DrA K d c H ∧ HsA H h rs hs ∧ H l = some (.lst xs) ∧ RepL H xs ts ∧ (∀ t ∈ ts, tm t) ∧ ts.length ≤ 200 ∧
  ∀ v t H', DUA K d c H H' → Rep H' v t → tm t → Q v H'
section
variable {P : Program} {w : World} {K : PySem.W.Frag} {mg : Str → Option Value} {base : Heap}
theorem nat_of {k n : Int} (h0 : 0 ≤ k) (h1 : k < n) : ∃ j : Nat, k = (j : Int) ∧ (j : Int) < n := ⟨k.toNat, by omega, by omega⟩
theorem c__law_any (T : Tx K mg) : Cl P w K mg base CX0 8 "_law_any" ["_law_state", "_law_heads_here", "_law_terms"] (sp_any K) := by
  refine Cl.mk0 T.d__law_any sc__law_any (fun vs H Q E h => ?_) (fun f cdv A outer s H vs Q E hr h => ?_)
  · obtain ⟨d, c, h, l, rs, hs, xs, ts, rfl, _⟩ := h
    rfl
  obtain ⟨d, c, h, l, rs, hs, xs, ts, rfl, dr, hh, hl, rt, tts, few, q⟩ := h
  refine ⟨_, (pss_cons (ps_if (PW.pt (pw_and (pt_cmpR (op_neD hr.units) (pv 2) (pe_lst pa_nil) (nomark _)) (pw_and1 (pt_cmpR op_eq (pe_cl (c__law_take T) hr (by omega) rfl (pa_cons (pv 0) (pa_cons pe_int pa_nil))) pe_int (nomark _)))))
      (pss_one (ps_ret (pe_ix ix_list (pv 2) (pe_cl (c__law_take T) hr (by omega) rfl (pa_cons (pv 0) (pa_cons (pe_callB call_len (by rfl) T.z_len (by decide +kernel) (pa_cons (pv 2) pa_nil)) pa_nil))) (fun _ _ => rfl))))
      pss_nil)
    (pss_one (ps_ret (pe_cl (c__law_term T) hr (by omega) rfl (pa_cons (pv 0) (pa_cons (pv 1) (pa_cons (pe_ix ix_list (pe_lst (pa_cons pe_int (pa_cons pe_int (pa_cons pe_int (pa_cons pe_int (pa_cons pe_int (pa_cons pe_int (pa_cons pe_int pa_nil)))))))) (pe_cl (c__law_take T) hr (by omega) rfl (pa_cons (pv 0) (pa_cons pe_int pa_nil))) (fun _ _ => rfl)) pa_nil))))))), ?_⟩
  have xl := rt.length
  -- a new one, from any heap behind
  have new : ∀ H1, DUA K d c H H1 → tRet (tC0 (sp_termA K 5) E0 (tCons (tVar 0) (tCons (tVar 1) (tCons (tOp (rIxL K) (tLst (tCons (tC (V.int 1)) (tCons (tC (V.int 2)) (tCons (tC (V.int 2)) (tCons (tC (V.int 3)) (tCons (tC (V.int 3)) (tCons (tC (V.int 4)) (tCons (tC (V.int 5)) tNil)))))))) (tC0 (sp_takeA K) E0 (tCons (tVar 0) (tCons (tC (V.int 7)) tNil)))) tNil)))) { nx := fun _ H' => Q .non H', rt := Q } [some (.ref d), some (.ref h), some (.ref l)] H1 := by
    intro H1 u1
    refine ⟨_, rfl, _, rfl, by show 7 ≤ sizeLine; decide, fun p hp => ?_⟩
    have s1 := same_new (o := .lst [V.int 1, .int 2, .int 2, .int 3, .int 3, .int 4, .int 5]) hp
    have u2 := u1.then s1
    refine ⟨_, rfl, d, c, 7, rfl, by decide, by decide, u2.dr, fun k H2 k0 k1 u3 => ?_⟩
    obtain ⟨j, rfl, j1⟩ := nat_of k0 k1
    have u := u2.trans u3
    have j7 : j < 7 := by omega
    obtain ⟨left, e, l1, l5⟩ : ∃ left : Nat, ([V.int 1, .int 2, .int 2, .int 3, .int 3, .int 4, .int 5] : List V)[j]? = some (.int (left : Nat)) ∧ 1 ≤ left ∧ left ≤ 5 := by
      match j, j7 with
      | 0, _ => exact ⟨1, rfl, by decide, by decide⟩
      | 1, _ => exact ⟨2, rfl, by decide, by decide⟩
      | 2, _ => exact ⟨2, rfl, by decide, by decide⟩
      | 3, _ => exact ⟨3, rfl, by decide, by decide⟩
      | 4, _ => exact ⟨3, rfl, by decide, by decide⟩
      | 5, _ => exact ⟨4, rfl, by decide, by decide⟩
      | 6, _ => exact ⟨5, rfl, by decide, by decide⟩
      | j + 7, h => omega
    exact ⟨p, _, _, _, rfl, rfl, SqL.of (u3.lst u2.dr upd_same), atI_nat e, d, c, h, rs, hs, left, rfl, l1, l5, u.dr, hh.du dr u, fun v t H3 r tA u4 => q v t H3 (u.trans u4) r (tA.tm l5)⟩
  refine ⟨_, rfl, Nat.zero_le _, fun p1 h1 => ?_⟩
  have s1 := same_new (o := .lst []) h1
  have u1 := DUA.same dr s1
  have r1 := rt.wk (Wk.same s1)
  refine ⟨.list (daL ts), .list [], .lst (SqL.of (s1 _ _ hl)) (dpL_tm tts r1), .lst (SqL.of upd_same) .nil, shaped_list tts, by decide, _, rfl, ?_⟩
  cases hts : ts with
  | nil => exact iteF (iteF (new _ u1))
  | cons t0 tr =>
    refine iteT ⟨_, rfl, d, c, 2, rfl, by decide, by decide, u1.dr, fun k H2 k0 k1 u2 => ⟨rfl, _, rfl, ite2 (fun c1 => ?_) fun c1 => ?_⟩⟩
    · have u := u1.trans u2
      have hl2 := u.lst dr hl
      have pos : 0 < xs.length := by rw [xl, hts, List.length_cons]; omega
      refine ⟨_, rfl, _, rfl, _, rfl, _, _, rfl, .inl ⟨xs, SqL.of hl2, rfl⟩, d, c, _, rfl, by omega, by omega, u2.dr, fun k H3 k0 k1 u3 => ?_⟩
      obtain ⟨j, rfl, j1⟩ := nat_of k0 k1
      have jl : j < xs.length := by omega
      have ex : xs[j]? = some xs[j] := List.getElem?_eq_getElem jl
      obtain ⟨t, et, rx⟩ := rt.get' ex
      have u4 := u.trans u3
      exact ⟨l, xs, _, _, rfl, rfl, SqL.of (u3.lst u.dr hl2), atI_nat ex, q _ t H3 u4 (rx.wk (u4.wk dr)) (tts t (List.mem_of_getElem? et))⟩
    · exact new _ (u1.trans u2)
end
end Kt
namespace Kt
open PySem PySem.Spec PyProof.Rows L2
/-! ### _law_deeds -/
theorem DUA.mut {K : PySem.W.Frag} {d c q : Addr} {H H' : Hp} (u : DUA K d c H H') (h : H q = none) (qd : q ≠ d) (far : Far K c q) (o : HO) : DUA K d c H (L2.upd H' q o) :=
  ⟨fun a o' n e => by rw [upd_ne (ne_of_none e h)]; exact u.old a o' n e, u.dr.mut qd far⟩
theorem DUA.none {K : PySem.W.Frag} {d c q : Addr} {H H' : Hp} (u : DUA K d c H H') (h : H' q = Option.none) : H q = Option.none := by
  cases e : H q with
  | none => rfl
  | some o =>
    rw [u.old q o (u.dr.ne h) e] at h
    cases h
theorem DUA.tk {K : PySem.W.Frag} {d c : Addr} {H H' : Hp} (h : DrA K d c H) (u : DUA K d c H H') : TK H H' := fun _ _ z => u.tup h z
def okW (words : List Str) : Prop := ∀ w ∈ words, w = "put" ∨ w = "like" ∨ w = "unlike"
def sp_deeds (K : PySem.W.Frag) : Sp := fun vs H Q _ => ∃ (d c h wl : Addr) (rs : List V) (hs : List (Str × Nat)) (words : List Str) (many most : Nat), vs = [.ref d, .ref h, .ref wl, .int (many : Nat), .int (most : Nat)] ∧ DrA K d c H ∧ HsA H h rs hs ∧ H wl = some (.lst (words.map V.str)) ∧ okW words ∧ 1 ≤ words.length ∧ words.length ≤ 20 ∧ many ≤ 100 ∧ most ≤ 100 ∧
  ∀ q H' dv ds ts, DUA K d c H H' → H q = none → H' q = some (.lst dv) → A2 (DeedAt H') dv ds → (∀ r ∈ ds, deedOk r ∧ r.1 ∈ words) → ds.length ≤ many → TmS ts → ts.length ≤ most → (∀ r ∈ ds, ∀ t ∈ r.2, t ∈ ts) → Q (.ref q) H'
section
variable {P : Program} {w : World} {K : PySem.W.Frag} {mg : Str → Option Value} {base : Heap}
theorem c__law_deeds (T : Tx K mg) : Cl P w K mg base CX0 9 "_law_deeds" ["_law_state", "_law_heads_here", "_law_words", "_law_many", "_law_most"] (sp_deeds K) := by
  refine Cl.mk0 T.d__law_deeds sc__law_deeds (fun vs H Q E h => ?_) (fun f cdv A outer s H vs Q E hr h => ?_)
  · obtain ⟨d, c, h, wl, rs, hs, words, many, most, rfl, _⟩ := h
    rfl
  obtain ⟨d, c, h, wl, rs, hs, words, many, most, rfl, dr, hh, hw, okw, w1, w20, m100, t100, q⟩ := h
  refine ⟨_, (pss_cons (ps_par (i := 5) (j := 6) (by rfl) sc__law_deeds.nd rfl rfl (by decide) rfl rfl (pa_cons (pe_lst pa_nil) (pa_cons (pe_lst pa_nil) pa_nil)) (by rfl))
    (pss_cons (ps_for PassesOwn.never rfl (pi_range1 (by rfl) T.z_range (pa_cons (pv 3) pa_nil)) (pg_name (i := 7) sc__law_deeds.nd rfl (Or.inl rfl))
      (pss_cons (ps_set (i := 8) sc__law_deeds.nd rfl (Or.inl rfl) (pe_tup (pa_cons (pe_ix ix_list (pv 2) (pe_cl (c__law_take T) hr (by omega) rfl (pa_cons (pv 0) (pa_cons (pe_callB call_len (by rfl) T.z_len (by decide +kernel) (pa_cons (pv 2) pa_nil)) pa_nil))) (fun _ _ => rfl)) (pa_cons (pe_cl (c__law_any T) hr (by omega) rfl (pa_cons (pv 0) (pa_cons (pv 1) (pa_cons (pv 6) pa_nil)))) pa_nil))))
      (Evl.pss_cut (ps_if (pt_cmpR op_ne (pe_ix ix_tup (pv 8) pe_int (fun _ _ => rfl)) pe_str (nomark _))
        (pss_one (ps_set (i := 8) sc__law_deeds.nd rfl (Or.inl rfl) (pe_op op_catA (pv 8) (pe_tup (pa_cons (pe_cl (c__law_any T) hr (by omega) rfl (pa_cons (pv 0) (pa_cons (pv 1) (pa_cons (pv 6) pa_nil)))) pa_nil)))))
        pss_nil)
      (pss_cons (ps_set (i := 9) sc__law_deeds.nd rfl (Or.inl rfl) (pe_cl (c__law_every T) hr (by omega) rfl (pa_cons (pe_op op_cat (pv 6) (pe_callTy call_list_of (by rfl) T.z_list (by decide +kernel) (pa_cons (pe_slice sl_tupA (pv 8) (po_some pe_int) po_no) pa_nil))) pa_nil)))
      (pss_one (ps_if (pt_cmpR op_le (pe_callB call_len (by rfl) T.z_len (by decide +kernel) (pa_cons (pv 9) pa_nil)) (pv 4) (nomark _))
        (pss_cons (ps_expr (pe_bm PySem.F.plainAttrs_list PySem.F.slot_list_append PySem.F.type_list_append mt_append (pv 5) (pa_cons (pv 8) pa_nil)))
        (pss_one (ps_set (i := 6) sc__law_deeds.nd rfl (Or.inl rfl) (pv 9))))
        pss_nil))))))
    (pss_one (ps_ret (pv 5))))), ?_⟩
  have l1 : 1 ≤ sizeLine := by decide
  have l2 : 2 ≤ sizeLine := by decide
  refine ⟨Nat.zero_le _, fun q0 hq0 => ⟨Nat.zero_le _, fun l0 hl0 => ⟨_, _, rfl, ?_⟩⟩⟩
  have s1 := same_new (o := .lst []) hq0
  have s2 := same_new (o := .lst []) hl0
  have s12 := s1.trans s2
  have far0 := dr.far hq0
  have q0d := dr.ne hq0
  refine ⟨_, rfl, _, rfl, by omega, by omega, for_it (walk_range (lo := 0)) (fun i σ H' => ∃ l x7 x8 x9 dv ds xs ts, σ = [some (.ref d), some (.ref h), some (.ref wl), some (.int (many : Nat)), some (.int (most : Nat)), some (.ref q0), some (.ref l), x7, x8, x9] ∧ DUA K d c H H' ∧ H' q0 = some (.lst dv) ∧ A2 (DeedAt H') dv ds ∧ (∀ r ∈ ds, deedOk r ∧ r.1 ∈ words) ∧ ds.length ≤ i ∧ H' l = some (.lst xs) ∧ l ≠ q0 ∧ RepL H' xs ts ∧ TmS ts ∧ ts.length ≤ most ∧ (∀ r ∈ ds, ∀ t ∈ r.2, t ∈ ts))
    ⟨l0, none, none, none, [], [], [], [], rfl, DUA.same dr s12, s2 _ _ upd_same, .nil, (fun _ m => absurd m List.not_mem_nil), Nat.zero_le _, upd_same, (ne_of_none upd_same hl0).symm, .nil, tms_nil, Nat.zero_le _, (fun _ m => absurd m List.not_mem_nil)⟩ (fun _ _ _ _ _ => trivial) (fun i x σ H' H'' hi h' yy => ?_) (fun σ H' h' => ?_)⟩
  · obtain ⟨rfl, rfl⟩ := yy
    obtain ⟨l, x7, x8, x9, dv, ds, xs, ts, rfl, u, hq, dd, okd, dl, hl, lq, rt, S, tl, inT⟩ := h'
    have hw' := u.lst dr hw
    have hh' := hh.du dr u
    have wlen : (words.map V.str).length = words.length := List.length_map _
    refine ⟨_, rfl, _, rfl, _, rfl, _, _, rfl, .inl ⟨_, SqL.of hw', rfl⟩, d, c, _, rfl, by omega, by omega, u.dr, fun k H1 k0 k1 u1 => ?_⟩
    obtain ⟨j, rfl, j1⟩ := nat_of k0 k1
    have jl : j < words.length := by omega
    obtain ⟨wd, ewd⟩ : ∃ wd, words[j]? = some wd := ⟨_, List.getElem?_eq_getElem jl⟩
    have mwd := List.mem_of_getElem? ewd
    have u01 := u.trans u1
    refine ⟨wl, _, _, .str wd, rfl, rfl, SqL.of (u01.lst dr hw), atI_nat (by rw [List.getElem?_map, ewd]; rfl), _, rfl, _, rfl, _, rfl, d, c, h, l, rs, hs, xs, ts, rfl, u01.dr, hh.du dr u01, u1.lst u.dr hl, rt.wk (u1.wk u.dr), S.tm, by omega, fun v t H2 u2 rv tv => ⟨l2, fun p hp => ?_⟩⟩
    have s3 := same_new (o := .tup [.str wd, v]) hp
    have u3 := (u1.trans u2).then s3
    have u03 := u.trans u3
    refine ⟨fun σ' H4 => ∃ a vs2 args, σ' = [some (.ref d), some (.ref h), some (.ref wl), some (.int (many : Nat)), some (.int (most : Nat)), some (.ref q0), some (.ref l), some (.int (0 + (i : Nat))), some (.ref a), x9] ∧ DUA K d c H'' H4 ∧ H4 a = some (.tup (.str wd :: vs2)) ∧ RepL H4 vs2 args ∧ deedOk (wd, args), ?_, fun σ1 H4 e4 => ?_⟩
    · refine ⟨_, rfl, p, _, 0, .str wd, rfl, rfl, SqT.of upd_same, rfl, rfl, _, rfl, ?_⟩
      by_cases ew : wd = ("put" : Str)
      · rw [show (!decide (V.str wd = V.str "put")) = false by rw [ew]; rfl]
        exact iteF ⟨p, [v], [t], rfl, u3, upd_same, .cons (rv.wk (Wk.same s3)) .nil, fun x m => by rw [List.mem_singleton.mp m]; exact tv, .inl ⟨ew, rfl⟩⟩
      · rw [show (!decide (V.str wd = V.str "put")) = true by rw [decide_eq_false fun z => ew (by injection z)]; rfl]
        refine iteT ⟨_, rfl, _, rfl, _, rfl, _, rfl, d, c, h, l, rs, hs, xs, ts, rfl, u03.dr, hh.du dr u03, u3.lst u.dr hl, rt.wk (u3.wk u.dr), S.tm, by omega, fun v2 t2 H5 u5 rv2 tv2 => ⟨l1, fun p2 hp2 => ?_⟩⟩
        have s6 := same_new (o := .tup [v2]) hp2
        refine catA (s6 _ _ (u5.tup u03.dr upd_same)) upd_same (fun z => by cases z) (by show 2 + 1 ≤ 200; decide) fun p3 H6 s7 h6 => ?_
        have s67 := s6.trans s7
        refine ⟨p3, [v, v2], [t, t2], rfl, (u3.trans u5).then s67, h6, .cons ((rv.wk (Wk.same s3)).wk ((u5.wk u03.dr).trans (Wk.same s67))) (.cons (rv2.wk (Wk.same s67)) .nil), fun x m => ?_, .inr ⟨(okw wd mwd).resolve_left ew, rfl⟩⟩
        rcases List.mem_cons.mp m with m | m
        · rw [m]
          exact tv
        · rw [List.mem_singleton.mp m]
          exact tv2
    obtain ⟨a, vs2, args, rfl, u4, ha, rargs, dok⟩ := e4
    have u04 := u.trans u4
    have vl := rargs.length
    have al := dok.ok.2
    have al : args.length ≤ 2 := al
    have xl := rt.length
    have hl4 := u4.lst u.dr hl
    refine ⟨_, rfl, _, rfl, 1, rfl, sl_lo (K := K) 1 ha (by omega) (by rw [List.length_cons]; omega) fun p1 hp1 => ⟨p1, _, rfl, .inr (SqT.of upd_same), fun l5 hl5 => ?_⟩⟩
    have s5 := same_new (o := .tup ((V.str wd :: vs2).drop 1)) hp1
    have s6 := same_new (o := .lst ((V.str wd :: vs2).drop 1)) hl5
    have s56 := s5.trans s6
    refine ⟨l, l5, xs, vs2, rfl, rfl, s56 _ _ hl4, upd_same, Nat.le_of_lt (small1000 (by omega)), fun l6 hl6 => ?_⟩
    have s7 := same_new (o := .lst (xs ++ vs2)) hl6
    have s57 := s56.trans s7
    have tms2 : ∀ z ∈ ts ++ args, tm z := fun z m => (List.mem_append.mp m).elim (S.tm z) (dok.1 z)
    refine ⟨l6, xs ++ vs2, ts ++ args, ts ++ args.flatMap allW, rfl, upd_same, ((rt.wk (u4.wk u.dr)).wk (Wk.same s57)).append (rargs.wk (Wk.same s57)), tms2, ?_, fun z m s hs => ?_, fun lm H7 ys s8 nlm hlm rm => ?_⟩
    · have few : ∀ l : List Th, (∀ t ∈ l, tm t) → (l.flatMap allW).length ≤ 30 * l.length := by
        intro l h
        induction l with
        | nil => exact Nat.le_refl _
        | cons t l ih =>
          rw [List.flatMap_cons, List.length_append, List.length_cons]
          have := ih fun u m => h u (List.mem_cons_of_mem _ m)
          have := allW_30 (h t List.mem_cons_self)
          omega
      have := few args dok.1
      rw [List.length_append]
      omega
    · rcases List.mem_append.mp m with m | m
      · exact List.mem_append.mpr (.inl (allW_of S.closed z (S.tm z m) m s hs))
      · exact List.mem_append.mpr (.inr (List.mem_flatMap.mpr ⟨z, m, hs⟩))
    have s48 := s57.trans s8
    have u8 := u4.then s48
    have u08 := u.trans u8
    have yl := rm.length
    have hq8 := u8.lst u.dr hq
    have hl8 := u8.lst u.dr hl
    have dd8 := deeds_tk (u8.tk u.dr) dd fun r m => (okd r m).1.1
    have few8 := dd.len
    refine ⟨_, rfl, _, _, rfl, .inl ⟨ys, SqL.of hlm, rfl⟩, _, rfl, _, _, rfl, rfl, _, rfl, ite2 (fun c1 => ?_) fun c1 => ?_⟩
    · have c1 : (ys.length : Int) ≤ (most : Nat) := of_decide_eq_true c1
      refine ⟨_, rfl, .inl ⟨rfl, _, SqL.of hq8⟩, _, rfl, q0, dv, _, rfl, rfl, hq8, small1000 (by omega), _, rfl, ?_⟩
      have tk9 : TK H7 (L2.upd H7 q0 (.lst (dv ++ [.ref a]))) := fun b zs z => by
        rw [upd_ne (ne_of z hq8 fun e => nomatch e)]
        exact z
      have nq : H q0 = none := hq0
      have lmq : lm ≠ q0 := (ne_of_none (s57 _ _ (u4.lst u.dr hq)) nlm).symm
      refine ⟨lm, _, _, _, dv ++ [.ref a], ds ++ [(wd, args)], ys, everyT (ts ++ args), rfl, u08.mut nq q0d far0 _, upd_same, (deeds_tk tk9 dd8 fun r m => (okd r m).1.1).app (.cons ⟨a, vs2, rfl, tk9 _ _ (s48 _ _ ha), reps_tk tk9 dok.1 (rargs.wk (Wk.same s48))⟩ .nil), fun r m => ?_, by rw [List.length_append, List.length_singleton]; omega, by rw [upd_ne lmq]; exact hlm, lmq, reps_tk tk9 (every_tms tms2).tm rm, every_tms tms2, by omega, fun r m z hz => ?_⟩
      · rcases List.mem_append.mp m with m | m
        · exact okd r m
        · rw [List.mem_singleton.mp m]
          exact ⟨dok, mwd⟩
      · refine (every_mem tms2).mpr ⟨z, ?_, allW_self z⟩
        rcases List.mem_append.mp m with m | m
        · exact List.mem_append.mpr (.inl (inT r m z hz))
        · rw [List.mem_singleton.mp m] at hz
          exact List.mem_append.mpr (.inr hz)
    · exact ⟨l, _, _, _, dv, ds, xs, ts, rfl, u08, hq8, dd8, okd, by omega, hl8, lq, rt.wk (u8.wk u.dr), S, tl, inT⟩
  · obtain ⟨l, x7, x8, x9, dv, ds, xs, ts, rfl, u, hq, dd, okd, dl, hl, lq, rt, S, tl, inT⟩ := h'
    exact ⟨_, rfl, q q0 H' dv ds ts u hq0 hq dd okd (by omega) S tl inT⟩
end
end Kt
namespace Kt
open PySem PySem.Spec PyProof.Rows L2
/-! ### _law_done, _law_web -/
def sp_done (CW CL tP : Addr) (w : World) : Sp := fun vs H Q _ => ∃ (p d u t r : Addr) (N : List Addr) (v : V) (ds us : List Deed) (r0 : Deed), vs = [.ref p, v] ∧ WebAt w CW CL N H p d u t r ds us ∧ LamX.Tabs (tabsW tP) H ∧ DeedAt H v r0 ∧ deedOk r0 ∧ ds.length ≤ 900 ∧ (termsD (ds ++ [r0])).length ≤ 60 ∧ (tellsD (ds ++ [r0])).length ≤ 40 ∧
  ∀ H' u', FrM [p, d, u, t, r] [p, d, u', t, r] H H' → LamX.Tabs (tabsW tP) H' → WebAt w CW CL N H' p d u' t r (ds ++ [r0]) [] → Q (ansD ds r0) H'
def sp_lweb (CW CL tP : Addr) (w : World) : Sp := fun vs H Q _ => ∃ (q0 : Addr) (dv : List V) (ds : List Deed), vs = [.ref q0] ∧ LamX.Tabs (tabsW tP) H ∧ H q0 = some (.lst dv) ∧ A2 (DeedAt H) dv ds ∧ (∀ r ∈ ds, deedOk r) ∧ ds.length ≤ 900 ∧ (termsD ds).length ≤ 60 ∧ (tellsD ds).length ≤ 40 ∧
  ∀ H' p d u t r, FrM [] [p, d, u, t, r] H H' → LamX.Tabs (tabsW tP) H' → WebAt w CW CL [] H' p d u t r ds [] → Q (.ref p) H'
theorem strEq {z y : Str} : decide (V.str z = V.str y) = decide (z = y) := by
  by_cases e : z = y
  · rw [e, decide_eq_true rfl, decide_eq_true rfl]
  · rw [decide_eq_false e, decide_eq_false fun q => e (by injection q)]
theorem terms_take (ds : List Deed) (k : Nat) : (termsD (ds.take k)).length ≤ (termsD ds).length := by
  rcases Nat.lt_or_ge k ds.length with h | h
  · have e : ds = ds.take k ++ ds.drop k := (List.take_append_drop k ds).symm
    have go : ∀ (l K : List Deed), (termsD K).length ≤ (termsD (K ++ l)).length := by
      intro l
      induction l with
      | nil => intro K; rw [List.append_nil]; exact Nat.le_refl _
      | cons x l ih =>
        intro K
        have := ih (K ++ [x])
        rw [List.append_assoc] at this
        exact Nat.le_trans (terms_pre K x) this
    have := go (ds.drop k) (ds.take k)
    rw [← e] at this
    exact this
  · rw [List.take_of_length_le h]
    exact Nat.le_refl _
theorem tells_take (ds : List Deed) (k : Nat) : (tellsD (ds.take k)).length ≤ (tellsD ds).length := by
  have e : ds = ds.take k ++ ds.drop k := (List.take_append_drop k ds).symm
  have : tellsD ds = tellsD (ds.take k) ++ tellsD (ds.drop k) := by
    have := congrArg tellsD e
    unfold tellsD at this ⊢
    rw [List.filter_append] at this
    exact this
  rw [this, List.length_append]
  exact Nat.le_add_right _ _
/-- a web newly made stands apart of what stood -/
theorem new_fr {H H1 H2 : Hp} {x d u t r : Addr} (s1 : Same H H1) (hx : H x = none) (bt : Bt x H1 H2) (nd : H1 d = none) (nu : H1 u = none) (nt : H1 t = none) (nr : H1 r = none) : FrM [] [x, d, u, t, r] H H2 := fun b o e _ _ => by
  have e1 := s1 _ _ e
  refine ⟨?_, bt b o e1 (ne_of_none e hx)⟩
  simp only [List.mem_cons, List.not_mem_nil, or_false, not_or]
  exact ⟨ne_of_none e hx, ne_of_none e1 nd, ne_of_none e1 nu, ne_of_none e1 nt, ne_of_none e1 nr⟩
section
variable {P : Program} {w : World} {K : PySem.W.Frag} {mg : Str → Option Value} {base : Heap} {cA tP : Addr}
theorem c__law_done (T : Tx K mg) (L : TxL K mg base cA tP) : Cl P w K mg base CX0 24 "_law_done" ["_law_web_here", "_law_row"] (sp_done (clsA mg "Web") (clsA mg "Likeness") tP w) := by
  refine Cl.mk0 T.d__law_done sc__law_done (fun vs H Q E h => ?_) (fun f cdv A outer s H vs Q E hr h => ?_)
  · obtain ⟨p, d, u, t, r, N, v, ds, us, r0, rfl, _⟩ := h
    rfl
  obtain ⟨p, d, u, t, r, N, v, ds, us, ⟨z, ts⟩, rfl, W, tb, ⟨a, xs, rfl, ha, rx⟩, ok, d900, t60, l40, q⟩ := h
  refine ⟨_, (pss_cons (ps_if (pt_cmpR op_eq (pe_ix ix_tup (pv 1) pe_int (fun _ _ => rfl)) pe_str (nomark _))
      (pss_one (ps_ret (pe_mm T.c_Web.c (c_Web_put T L) hr (by omega) (pv 0) (pa_cons (pe_ix ix_tup (pv 1) pe_int (fun _ _ => rfl)) pa_nil))))
      pss_nil)
    (pss_one (ps_ret (pe_ifExp (pt_cmpR op_eq (pe_ix ix_tup (pv 1) pe_int (fun _ _ => rfl)) pe_str (nomark _)) (pe_mm T.c_Web.c (c_Web_like T L) hr (by omega) (pv 0) (pa_cons (pe_ix ix_tup (pv 1) pe_int (fun _ _ => rfl)) (pa_cons (pe_ix ix_tup (pv 1) pe_int (fun _ _ => rfl)) pa_nil))) (pe_mm T.c_Web.c (c_Web_unlike T L) hr (by omega) (pv 0) (pa_cons (pe_ix ix_tup (pv 1) pe_int (fun _ _ => rfl)) (pa_cons (pe_ix ix_tup (pv 1) pe_int (fun _ _ => rfl)) pa_nil))))))), ?_⟩
  obtain ⟨dx, g, l, _, _, _, _, _, hp, _⟩ := W.ob
  have xl := rx.length
  have sq := SqT.of (K := K) ha
  have spd : ∀ E', sp_deed z (clsA mg "Web") (clsA mg "Likeness") tP w (.ref p :: xs) H Q E' := fun E' => ⟨p, d, u, t, r, N, xs, ds, us, ts, rfl, W, tb, rx, ok, d900, t60, l40, q⟩
  refine ⟨_, rfl, a, _, 0, .str z, rfl, rfl, sq, atI_nat (j := 0) rfl, rfl, _, rfl, ?_⟩
  rw [strEq]
  rcases ok.2 with ⟨e, l2⟩ | ⟨e, l2⟩
  · have e : z = "put" := e
    subst e
    rw [decide_eq_true (p := ("put" : Str) = "put") rfl]
    obtain ⟨x0, rfl⟩ : ∃ x0, xs = [x0] := by
      have l2 : ts.length = 1 := l2
      match xs, xl.trans l2 with
      | [x0], _ => exact ⟨x0, rfl⟩
    exact iteT ⟨_, rfl, p, dx, _, rfl, hp, rfl, _, rfl, a, _, 1, x0, rfl, rfl, sq, rfl, spd E⟩
  · obtain ⟨x0, x1, rfl⟩ : ∃ x0 x1, xs = [x0, x1] := by
      have l2 : ts.length = 2 := l2
      match xs, xl.trans l2 with
      | [x0, x1], _ => exact ⟨x0, x1, rfl⟩
    have e : z = "like" ∨ z = "unlike" := e
    have np : z ≠ ("put" : Str) := by
      rcases e with e | e <;> rw [e] <;> decide
    rw [decide_eq_false np]
    refine iteF ⟨_, rfl, a, _, 0, .str z, rfl, rfl, sq, rfl, rfl, _, rfl, ?_⟩
    rw [strEq]
    rcases e with e | e
    · subst e
      rw [decide_eq_true (p := ("like" : Str) = "like") rfl]
      exact iteT ⟨_, rfl, p, dx, _, rfl, hp, rfl, _, rfl, a, _, 1, x0, rfl, rfl, sq, rfl, _, rfl, a, _, 2, x1, rfl, rfl, sq, rfl, spd E⟩
    · subst e
      rw [decide_eq_false (p := ("unlike" : Str) = "like") (by decide)]
      exact iteF ⟨_, rfl, p, dx, _, rfl, hp, rfl, _, rfl, a, _, 1, x0, rfl, rfl, sq, rfl, _, rfl, a, _, 2, x1, rfl, rfl, sq, rfl, spd E⟩
theorem c__law_web (T : Tx K mg) (L : TxL K mg base cA tP) : Cl P w K mg base CX0 25 "_law_web" ["_law_deeds_here"] (sp_lweb (clsA mg "Web") (clsA mg "Likeness") tP w) := by
  refine Cl.mk0 T.d__law_web sc__law_web (fun vs H Q E h => ?_) (fun f cdv A outer s H vs Q E hr h => ?_)
  · obtain ⟨q0, dv, ds, rfl, _⟩ := h
    rfl
  obtain ⟨q0, dv, ds, rfl, tb, hq, dd, okd, d900, t60, l40, q⟩ := h
  refine ⟨_, (pss_cons (ps_set (i := 1) sc__law_web.nd rfl (Or.inl rfl) (pe_mkC0 T.c_Web (c_Web___init__ T) hr (by omega) rfl))
    (pss_cons (ps_for PassesOwn.never rfl (pi_list (pv 0)) (pg_name (i := 2) sc__law_web.nd rfl (Or.inl rfl))
      (pss_one (ps_expr (pe_cl (c__law_done T L) hr (by omega) rfl (pa_cons (pv 1) (pa_cons (pv 2) pa_nil))))))
    (pss_one (ps_ret (pv 1))))), ?_⟩
  have dl := dd.len
  have tmd : ∀ x ∈ ds, ∀ t ∈ x.2, tm t := fun x m => (okd x m).1
  refine fun x dx hx hdx nx => ?_
  obtain ⟨H1, e1⟩ : ∃ H1, H1 = L2.upd (L2.upd H dx (.own x)) x (.ins (clsA mg "Web") dx []) := ⟨_, rfl⟩
  have s1 : Same H H1 := by
    rw [e1]
    exact (same_new hdx _).trans (same_new (by rw [upd_ne nx.symm]; exact hx) _)
  have hx1 : H1 x = some (.ins (clsA mg "Web") dx []) := by rw [e1]; exact upd_same
  erw [← e1]
  refine ⟨x, dx, [], rfl, hx1, (fun _ m => absurd m List.not_mem_nil), List.not_mem_nil, fun H2 dd' uu' tt' rr' bt nd nu nt nr W0 => ⟨rfl, ?_⟩⟩
  have f2 := new_fr s1 hx bt nd nu nt nr
  have tb2 : LamX.Tabs (tabsW tP) H2 := tabs_keep tb fun b o e _ => bt b o (s1 b o e) (ne_of_none e hx)
  refine ⟨_, rfl, q0, rfl, ⟨dv, SqL.of (f2 _ _ hq (fun _ e => nomatch e) List.not_mem_nil).2⟩, for_it (walk_list (xs := dv)) (fun i σ H' => ∃ y u', σ = [some (.ref q0), some (.ref x), y] ∧ FrM [] [x, dd', u', tt', rr'] H H' ∧ LamX.Tabs (tabsW tP) H' ∧ WebAt w (clsA mg "Web") (clsA mg "Likeness") [] H' x dd' u' tt' rr' (ds.take i) [])
    ⟨_, _, rfl, f2, tb2, W0⟩ (fun i σ H' _ h' => ?_) (fun i v σ H' H'' hi h' yy => ?_) (fun σ H' h' => ?_)⟩
  · obtain ⟨_, _, _, f, _⟩ := h'
    exact SqL.of (f _ _ hq (fun _ e => nomatch e) List.not_mem_nil).2
  · obtain ⟨y, u', rfl, f, tb', W⟩ := h'
    obtain ⟨rfl, hv⟩ := yy
    obtain ⟨r, er, ar⟩ := dd.get hv
    have ok := okd r (List.mem_of_getElem? er)
    have takeE : ds.take (i + 1) = ds.take i ++ [r] := by
      rw [List.take_add_one, er]
      rfl
    have tk : TK H H'' := fun a xs z => (f _ _ z (fun _ e => nomatch e) List.not_mem_nil).2
    refine ⟨_, rfl, _, rfl, x, dd', u', tt', rr', [], v, ds.take i, [], r, rfl, W, tb', ar.tk ok.1 tk, ok, by rw [List.length_take]; omega, by rw [← takeE]; exact Nat.le_trans (terms_take _ _) t60, by rw [← takeE]; exact Nat.le_trans (tells_take _ _) l40, fun H3 u3 f3 tb3 W3 => ⟨_, u3, rfl, f.trans f3, tb3, ?_⟩⟩
    rw [takeE]
    exact W3
  · obtain ⟨y, u', rfl, f, tb', W⟩ := h'
    rw [dl, List.take_length] at W
    exact ⟨_, rfl, q H' x dd' u' tt' rr' f tb' W⟩
end
end Kt
namespace Kt
open PySem PySem.Spec PyProof.Rows L2
/-! ### all of it as data -/
theorem shp {t : Th} (h : tm t) : t.shape false = true := h.shape
theorem shpL : ∀ {ts : List Th}, (∀ t ∈ ts, tm t) → shapeL false ts = true
  | [], _ => rfl
  | t :: ts, h => by
    show (t.shape false && shapeL false ts) = true
    rw [shp (h t List.mem_cons_self), shpL fun u m => h u (List.mem_cons_of_mem _ m)]
    rfl
theorem dep_tm {t : Th} (h : tm t) : t.da.depth ≤ 5 := Nat.le_trans (can_da t (shp h)).2 (within_iff.mp h).2.1
theorem ldp_tm : ∀ {ts : List Th}, (∀ t ∈ ts, tm t) → PyData.canLayAll0 (daL ts) = true ∧ PyData.depthAll (daL ts) ≤ 5
  | [], _ => ⟨rfl, Nat.zero_le _⟩
  | t :: ts, h => by
    obtain ⟨h1, h2⟩ := ldp_tm (ts := ts) fun u m => h u (List.mem_cons_of_mem _ m)
    have ht := h t List.mem_cons_self
    refine ⟨?_, ?_⟩
    · show (t.da.canLay0 && PyData.canLayAll0 (daL ts)) = true
      rw [(can_da t (shp ht)).1, h1]
      rfl
    · show max t.da.depth (PyData.depthAll (daL ts)) ≤ 5
      have := dep_tm ht
      omega
theorem deed_wrd {r : Deed} (h : deedOk r) : r.1.length ≤ 100 ∧ okS r.1 := by
  have ok : ∀ z : Str, z = "put" ∨ z = "like" ∨ z = "unlike" → z.length ≤ 100 ∧ okS z := fun z h => by
    rcases h with e | e | e <;> subst e <;> refine ⟨by decide, fun c m => ?_⟩
    · have : ∀ c ∈ ("put" : Str).cps.toList, c < 1114112 := by decide
      exact this c m
    · have : ∀ c ∈ ("like" : Str).cps.toList, c < 1114112 := by decide
      exact this c m
    · have : ∀ c ∈ ("unlike" : Str).cps.toList, c < 1114112 := by decide
      exact this c m
  exact ok r.1 (h.2.elim (fun q => .inl q.1) fun q => .inr q.1)
def dD (r : Deed) : PyData := .tuple (.str r.1 :: daL r.2)
theorem dp_deed {K : PySem.W.Frag} {H : Hp} {v : V} {r : Deed} (ok : deedOk r) (h : DeedAt H v r) : Dp K H v (dD r) := by
  obtain ⟨a, vs, rfl, ha, rv⟩ := h
  exact .tup (SqT.of ha) (.cons (.str _) (dp_ofL _ (shpL ok.1) rv))
theorem dp_deeds {K : PySem.W.Frag} {H : Hp} {vs : List V} {ds : List Deed} (ok : ∀ r ∈ ds, deedOk r) (h : A2 (DeedAt H) vs ds) : DpAll K H vs (ds.map dD) := by
  induction h with
  | nil => exact .nil
  | cons a _ ih => exact .cons (dp_deed (ok _ List.mem_cons_self) a) (ih fun r m => ok r (List.mem_cons_of_mem _ m))
theorem can_deeds : ∀ {ds : List Deed}, (∀ r ∈ ds, deedOk r) → PyData.canLayAll0 (ds.map dD) = true ∧ PyData.depthAll (ds.map dD) ≤ 6
  | [], _ => ⟨rfl, Nat.zero_le _⟩
  | r :: ds, h => by
    obtain ⟨h1, h2⟩ := can_deeds (ds := ds) fun u m => h u (List.mem_cons_of_mem _ m)
    have hr := h r List.mem_cons_self
    obtain ⟨g1, g2⟩ := ldp_tm hr.1
    refine ⟨?_, ?_⟩
    · show (((PyData.str r.1).canLay0 && PyData.canLayAll0 (daL r.2)) && PyData.canLayAll0 (ds.map dD)) = true
      rw [canStr (deed_wrd hr).2, g1, h1]
      rfl
    · show max (max (PyData.str r.1).depth (PyData.depthAll (daL r.2)) + 1) (PyData.depthAll (ds.map dD)) ≤ 6
      have : (PyData.str r.1).depth = 0 := rfl
      omega
theorem shp_of {d : PyData} (h1 : d.canLay0 = true) (h2 : d.depth ≤ 20) : SeqAt.shaped d = true := by
  unfold SeqAt.shaped
  rw [h1, decide_eq_true (by omega)]
  rfl
theorem sh_deeds {ds : List Deed} (h : ∀ r ∈ ds, deedOk r) : SeqAt.shaped (.list (ds.map dD)) = true := by
  obtain ⟨h1, h2⟩ := can_deeds h
  exact shp_of h1 (by show PyData.depthAll _ + 1 ≤ 20; omega)
theorem sh_terms {ts : List Th} (h : ∀ t ∈ ts, tm t) : SeqAt.shaped (.list (daL ts)) = true := by
  obtain ⟨h1, h2⟩ := ldp_tm h
  exact shp_of h1 (by show PyData.depthAll _ + 1 ≤ 20; omega)
theorem sh_pair {ts : List Th} (h : ∀ t ∈ ts, tm t) : SeqAt.shaped (.tuple (daL ts)) = true := by
  obtain ⟨h1, h2⟩ := ldp_tm h
  exact shp_of h1 (by show PyData.depthAll _ + 1 ≤ 20; omega)
end Kt
namespace Kt
open PySem PySem.Spec PyProof.Rows L2
/-! ### _law_closed -/
theorem putM_len_old {xs : List RowV} {k : NestedKey} {y v : V} (h : (valM xs k).isSome = true) : (putM xs k y v).length = xs.length := by
  unfold putM
  rw [if_pos h, List.length_map]
theorem valM_at {xs : List RowV} (nd : (xs.map (·.1)).Nodup) {i : Nat} {x : RowV} (h : xs[i]? = some x) : valM xs x.1 = some x.2.2 := by
  induction xs generalizing i with
  | nil => cases h
  | cons y ys ih =>
    rw [List.map_cons, List.nodup_cons] at nd
    rw [valM_cons]
    cases i with
    | zero =>
      cases h
      rw [if_pos rfl]
    | succ j =>
      have h : ys[j]? = some x := by simpa using h
      rw [if_neg fun (e : y.1 = x.1) => nd.1 (by rw [e]; exact List.mem_map.mpr ⟨x, List.mem_of_getElem? h, rfl⟩)]
      exact ih nd.2 h
theorem tpairs_tk {H H' : Hp} (k : TK H H') {vs : List V} {ps : List (Th × Th)} (h : TPairsL H vs ps) (ok : ∀ p ∈ ps, tm p.1 ∧ tm p.2) : TPairsL H' vs ps := by
  induction h with
  | nil => exact .nil
  | cons a _ ih =>
    obtain ⟨b, v1, v2, e, h1, r1, r2⟩ := a
    have o := ok _ List.mem_cons_self
    exact .cons ⟨b, v1, v2, e, k _ _ h1, rep_tk k _ _ o.1.shape r1, rep_tk k _ _ o.2.shape r2⟩ (ih fun p m => ok p (List.mem_cons_of_mem _ m))
def pdD (ps : List (Th × Th)) : List PyData := ps.map fun p => .tuple (daL [p.1, p.2])
theorem dp_pairs {K : PySem.W.Frag} {H : Hp} {vs : List V} {ps : List (Th × Th)} (h : TPairsL H vs ps) (ok : ∀ p ∈ ps, tm p.1 ∧ tm p.2) : DpAll K H vs (pdD ps) := by
  induction h with
  | nil => exact .nil
  | cons a _ ih =>
    obtain ⟨b, v1, v2, rfl, h1, r1, r2⟩ := a
    have o := ok _ List.mem_cons_self
    refine .cons (.tup (SqT.of h1) (dpL_tm (fun t m => ?_) (.cons r1 (.cons r2 .nil)))) (ih fun p m => ok p (List.mem_cons_of_mem _ m))
    rcases List.mem_cons.mp m with rfl | m
    · exact o.1
    · rw [List.mem_singleton.mp m]
      exact o.2
theorem can_pairs : ∀ {ps : List (Th × Th)}, (∀ p ∈ ps, tm p.1 ∧ tm p.2) → PyData.canLayAll0 (pdD ps) = true ∧ PyData.depthAll (pdD ps) ≤ 6
  | [], _ => ⟨rfl, Nat.zero_le _⟩
  | p :: ps, h => by
    obtain ⟨h1, h2⟩ := can_pairs (ps := ps) fun u m => h u (List.mem_cons_of_mem _ m)
    have hp := h p List.mem_cons_self
    obtain ⟨g1, g2⟩ := ldp_tm (ts := [p.1, p.2]) fun t m => by
      rcases List.mem_cons.mp m with rfl | m
      · exact hp.1
      · rw [List.mem_singleton.mp m]
        exact hp.2
    refine ⟨?_, ?_⟩
    · show (PyData.canLayAll0 (daL [p.1, p.2]) && PyData.canLayAll0 (pdD ps)) = true
      rw [g1, h1]
      rfl
    · show max (PyData.depthAll (daL [p.1, p.2]) + 1) (PyData.depthAll (pdD ps)) ≤ 6
      omega
theorem sh_pairs {ps : List (Th × Th)} (h : ∀ p ∈ ps, tm p.1 ∧ tm p.2) : SeqAt.shaped (.list (pdD ps)) = true := by
  obtain ⟨h1, h2⟩ := can_pairs h
  exact shp_of h1 (by show PyData.depthAll _ + 1 ≤ 20; omega)
theorem pair_sort {ns : List Int} {x y : Nat} (p : ns.Perm [(x : Int), (y : Int)]) (s : ns.Pairwise (· ≤ ·)) : ns = [((min x y : Nat) : Int), ((max x y : Nat) : Int)] := by
  match ns, p.length_eq with
  | [a, b], _ =>
    have s1 : a ≤ b := (List.pairwise_cons.mp s).1 b List.mem_cons_self
    have ha : a = x ∨ a = y := by simpa using p.mem_iff.mp (List.mem_cons_self (a := a) (l := [b]))
    have hb : (a = x ∧ b = y) ∨ (a = y ∧ b = x) := by
      rcases ha with e | e
      · subst e
        exact .inl ⟨rfl, by simpa using p.cons_inv⟩
      · subst e
        exact .inr ⟨rfl, by simpa using (p.trans (List.Perm.swap _ _ _)).cons_inv⟩
    have e1 : a = ((min x y : Nat) : Int) := by omega
    have e2 : b = ((max x y : Nat) : Int) := by omega
    rw [e1, e2]
/-- a dict of terms, each with its number -/
def FndAt (w : World) (H : Hp) (D : Addr) (ts : List Th) (f : Nat → Nat) : Prop :=
  ∃ fr, H D = some (DN w D fr) ∧ KeysN H fr ∧ fr.length ≤ ts.length ∧ ∀ i t, ts[i]? = some t → valM fr t.nk = some (.int (f i : Nat))
theorem FndAt.same {w : World} {H H' : Hp} {D : Addr} {ts : List Th} {f : Nat → Nat} (h : FndAt w H D ts f) (b : Same H H') : FndAt w H' D ts f := by
  obtain ⟨fr, h1, h2, h3, h4⟩ := h
  exact ⟨fr, b _ _ h1, h2.wk fun a xs z => b _ _ z, h3, h4⟩
theorem fnd_put {w : World} {H : Hp} {D : Addr} {ts : List Th} {f : Nat → Nat} {fr : List RowV} (S : TmS ts) (h1 : H D = some (DN w D fr)) (h2 : KeysN H fr) (h3 : fr.length ≤ ts.length) (h4 : ∀ i t, ts[i]? = some t → valM fr t.nk = some (.int (f i : Nat)))
    {i n : Nat} {t : Th} {y : V} (et : ts[i]? = some t) (ry : Rep H y t) : FndAt w (L2.upd H D (DN w D (putM fr t.nk y (.int (n : Nat))))) D ts (fun j => if j = i then n else f j) := by
  have tt := S.tm t (List.mem_of_getElem? et)
  have isk := tt.isk ry
  refine ⟨_, upd_same, (h2.put isk.1 isk.2).wk fun a xs z => ?_, ?_, fun j u eu => ?_⟩
  · rw [upd_ne (ne_of z h1 fun e => nomatch e)]
    exact z
  · rw [putM_len_old (by rw [h4 i t et]; rfl)]
    exact h3
  · rw [valM_put]
    by_cases z : j = i
    · subst z
      rw [et] at eu
      cases eu
      rw [if_pos rfl]
      dsimp only
      rw [if_pos rfl]
    · rw [if_neg fun e => z ?_]
      · dsimp only
        rw [if_neg z]
        exact h4 j u eu
      · have := (S.tm u (List.mem_of_getElem? eu)).inj tt e
        subst this
        rw [← ix_at S eu, ix_at S et]
/-- what stands while signs are seen -/
structure SeenI (w : World) (H : Hp) (S G : Addr) (ts : List Th) (M : List Nat) (i n : Nat) (fr : List RowV) (lv : List V) (ps : List (Th × Th)) : Prop where
  dict : H S = some (DN w S fr)
  keys : KeysN H fr
  few : fr.length ≤ i
  list : H G = some (.lst lv)
  pairs : TPairsL H lv ps
  plen : ps.length ≤ n
  ok : ∀ p ∈ ps, p.1 ∈ ts ∧ p.2 ∈ ts ∧ Lk.at_ M (ixT ts p.1) ≠ Lk.at_ M (ixT ts p.2) ∧ kk M (rowT ts p.1) = kk M (rowT ts p.2)
  seen : ∀ j u, j < i → ts[j]? = some u → ∃ v um, valM fr (kk M (rowT ts u)) = some v ∧ Rep H v um ∧ um ∈ ts ∧ (ps = [] → Lk.at_ M (ixT ts um) = Lk.at_ M j)
  from_ : ∀ k v, valM fr k = some v → ∃ um, um ∈ ts ∧ Rep H v um ∧ kk M (rowT ts um) = k
theorem SeenI.same {w : World} {H H' : Hp} {S G : Addr} {ts : List Th} {M : List Nat} {i n : Nat} {fr : List RowV} {lv : List V} {ps : List (Th × Th)} (I : SeenI w H S G ts M i n fr lv ps) (s : Same H H') : SeenI w H' S G ts M i n fr lv ps := by
  refine ⟨s _ _ I.dict, I.keys.wk fun _ _ z => s _ _ z, I.few, s _ _ I.list, I.pairs.wk (Wk.same s), I.plen, I.ok, fun j u hj eu => ?_, fun k v e => ?_⟩
  · obtain ⟨v, um, h1, h2, h3, h4⟩ := I.seen j u hj eu
    exact ⟨v, um, h1, h2.wk (Wk.same s), h3, h4⟩
  · obtain ⟨um, h1, h2, h3⟩ := I.from_ k v e
    exact ⟨um, h1, h2.wk (Wk.same s), h3⟩
theorem SeenI.add {w : World} {H : Hp} {S G : Addr} {ts : List Th} {M : List Nat} {i n : Nat} {fr : List RowV} {lv : List V} {ps : List (Th × Th)} (T : TmS ts) (I : SeenI w H S G ts M i n fr lv ps) {p : Addr} {a b : Th} {v1 v2 : V} (hp : H p = some (.tup [v1, v2])) (r1 : Rep H v1 a) (r2 : Rep H v2 b)
    (ok : a ∈ ts ∧ b ∈ ts ∧ Lk.at_ M (ixT ts a) ≠ Lk.at_ M (ixT ts b) ∧ kk M (rowT ts a) = kk M (rowT ts b)) : SeenI w (L2.upd H G (.lst (lv ++ [.ref p]))) S G ts M i (n + 1) fr (lv ++ [.ref p]) (ps ++ [(a, b)]) := by
  have k : TK H (L2.upd H G (.lst (lv ++ [.ref p]))) := fun c xs z => by
    rw [upd_ne (ne_of z I.list fun e => nomatch e)]
    exact z
  have nS : S ≠ G := ne_of I.dict I.list fun e => nomatch e
  have pok : ∀ q ∈ ps, tm q.1 ∧ tm q.2 := fun q m => ⟨T.tm _ (I.ok q m).1, T.tm _ (I.ok q m).2.1⟩
  refine ⟨by rw [upd_ne nS]; exact I.dict, I.keys.wk k, I.few, upd_same, (tpairs_tk k I.pairs pok).app (.cons ⟨p, v1, v2, rfl, k _ _ hp, rep_tk k _ _ (T.tm a ok.1).shape r1, rep_tk k _ _ (T.tm b ok.2.1).shape r2⟩ .nil), by rw [List.length_append]; exact Nat.succ_le_succ I.plen, fun q m => ?_, fun j u hj eu => ?_, fun c v e => ?_⟩
  · rcases List.mem_append.mp m with m | m
    · exact I.ok q m
    · rw [List.mem_singleton.mp m]
      exact ok
  · obtain ⟨v, um, h1, h2, h3, h4⟩ := I.seen j u hj eu
    exact ⟨v, um, h1, rep_tk k _ _ (T.tm um h3).shape h2, h3, fun z => absurd z (by simp)⟩
  · obtain ⟨um, h1, h2, h3⟩ := I.from_ c v e
    exact ⟨um, h1, rep_tk k _ _ (T.tm um h1).shape h2, h3⟩
theorem SeenI.put {w : World} {H : Hp} {S G : Addr} {ts : List Th} {M : List Nat} {i n : Nat} {fr : List RowV} {lv : List V} {ps : List (Th × Th)} (T : TmS ts) (I : SeenI w H S G ts M i n fr lv ps) {t um : Th} {q : Addr} {d : V} (et : ts[i]? = some t) (isk : IsK H (kk M (rowT ts t)) (.ref q)) (mu : um ∈ ts) (ru : Rep H ((valM fr (kk M (rowT ts t))).getD d) um) (ku : kk M (rowT ts um) = kk M (rowT ts t))
    (hc : ps = [] → Lk.at_ M (ixT ts um) = Lk.at_ M i) : SeenI w (L2.upd H S (DN w S (putM fr (kk M (rowT ts t)) (.ref q) ((valM fr (kk M (rowT ts t))).getD d)))) S G ts M (i + 1) n (putM fr (kk M (rowT ts t)) (.ref q) ((valM fr (kk M (rowT ts t))).getD d)) lv ps := by
  have k : TK H (L2.upd H S (DN w S (putM fr (kk M (rowT ts t)) (.ref q) ((valM fr (kk M (rowT ts t))).getD d)))) := fun c xs z => by
    rw [upd_ne (ne_of z I.dict fun e => nomatch e)]
    exact z
  have nG : G ≠ S := ne_of I.list I.dict fun e => nomatch e
  have pok : ∀ q ∈ ps, tm q.1 ∧ tm q.2 := fun q m => ⟨T.tm _ (I.ok q m).1, T.tm _ (I.ok q m).2.1⟩
  refine ⟨upd_same, (I.keys.put isk.1 isk.2).wk k, Nat.le_trans (putM_length _ _ _ _) (Nat.succ_le_succ I.few), by rw [upd_ne nG]; exact I.list, tpairs_tk k I.pairs pok, I.plen, I.ok, fun j u hj eu => ?_, fun c v e => ?_⟩
  · by_cases z : kk M (rowT ts u) = kk M (rowT ts t)
    · by_cases zj : j = i
      · subst zj
        rw [et] at eu
        cases eu
        exact ⟨_, um, by rw [valM_put, if_pos rfl], rep_tk k _ _ (T.tm um mu).shape ru, mu, hc⟩
      · obtain ⟨v, um', h1, h2, h3, h4⟩ := I.seen j u (by omega) eu
        refine ⟨v, um', ?_, rep_tk k _ _ (T.tm um' h3).shape h2, h3, h4⟩
        rw [valM_put, if_pos z, ← z, h1]
        rfl
    · have zj : j ≠ i := fun e => by
        subst e
        rw [et] at eu
        cases eu
        exact z rfl
      obtain ⟨v, um', h1, h2, h3, h4⟩ := I.seen j u (by omega) eu
      exact ⟨v, um', by rw [valM_put, if_neg z]; exact h1, rep_tk k _ _ (T.tm um' h3).shape h2, h3, h4⟩
  · rw [valM_put] at e
    by_cases z : c = kk M (rowT ts t)
    · rw [if_pos z] at e
      cases e
      exact ⟨um, mu, rep_tk k _ _ (T.tm um mu).shape ru, by rw [z]; exact ku⟩
    · rw [if_neg z] at e
      obtain ⟨um', h1, h2, h3⟩ := I.from_ c v e
      exact ⟨um', h1, rep_tk k _ _ (T.tm um' h1).shape h2, h3⟩
theorem rep_fun {H : Hp} {v : V} {t u : Th} (ht : tm t) (hu : tm u) (r : Rep H v t) (q : Rep H v u) : t = u :=
  ht.inj hu (NRep.one _ _ _ (nk_rep t v ht.shape r) (nk_rep u v hu.shape q))
theorem paired_imp {α β : Type} {R S : α → β → Prop} {xs : List α} {ys : List β} (h : Paired R xs ys) (f : ∀ x y, R x y → S x y) : Paired S xs ys := by
  induction h with
  | nil => exact .nil
  | cons a _ ih => exact .cons (f _ _ a) ih
def PairS (H : Hp) (p : Addr) (x : RowV) : Prop := (∃ b, x.2.1 = .ref b) ∧ H p = some (.tup [x.2.1, x.2.2])
theorem key_kk {L : List Nat} {r s : Str × List Nat} (ks : Lk.key L r = Lk.key L s) : kk L r = kk L s := by
  obtain ⟨r1, r2⟩ := r
  obtain ⟨s1, s2⟩ := s
  unfold Lk.key at ks
  injection ks with k1 k2
  dsimp only at k1 k2
  unfold kk
  dsimp only
  have f : ∀ ps : List Nat, (ps.map fun p => NestedKey.num (Lk.at_ L p : Nat)) = (ps.map (Lk.at_ L)).map fun n : Nat => NestedKey.num (n : Nat) := fun ps => by rw [List.map_map]; rfl
  rw [f, f, k1, k2]
theorem reps_at {H : Hp} {vs : List V} {ts : List Th} (h : RepL H vs ts) {i : Nat} {t : Th} (e : ts[i]? = some t) : ∃ v, vs[i]? = some v ∧ Rep H v t := by
  have hl := h.length
  have hi := (List.getElem?_eq_some_iff.mp e).1
  obtain ⟨u, eu, ru⟩ := h.get' (List.getElem?_eq_getElem (show i < vs.length by omega))
  rw [e] at eu
  cases eu
  exact ⟨_, List.getElem?_eq_getElem (by omega), ru⟩
def cRow (ts : List Th) (tv : List V) (j : Nat) : RowV := ((ts.map Th.nk).getD j .none, tv.getD j .non, .int (j : Nat))
theorem cRow_at {ts : List Th} {tv : List V} {j : Nat} {t : Th} {v : V} (et : ts[j]? = some t) (ev : tv[j]? = some v) : cRow ts tv j = (t.nk, v, .int (j : Nat)) := by
  unfold cRow
  rw [List.getD_eq_getElem?_getD, List.getElem?_map, et, List.getD_eq_getElem?_getD, ev]
  rfl
theorem cRow_keys {ts : List Th} {tv : List V} : ((List.range ts.length).map (cRow ts tv)).map (·.1) = ts.map Th.nk := by
  refine List.ext_getElem? fun n => ?_
  rw [List.map_map, List.getElem?_map]
  by_cases hn : n < ts.length
  · rw [List.getElem?_range hn]
    show some ((ts.map Th.nk).getD n .none) = _
    rw [List.getD_eq_getElem?_getD, List.getElem?_map, List.getElem?_eq_getElem hn]
    rfl
  · rw [List.getElem?_eq_none_iff.mpr (by rw [List.length_range]; omega), List.getElem?_eq_none_iff.mpr (by rw [List.length_map]; omega)]
    rfl
/-- the numbers of some terms, and of the pairs told of them -/
def sp_closed (w : World) : Sp := fun vs H Q _ => ∃ (a b : Addr) (tv qv : List V) (ts : List Th) (ps : List (Th × Th)), vs = [.ref a, .ref b] ∧ H a = some (.lst tv) ∧ RepL H tv ts ∧ TmS ts ∧ ts.length ≤ 400 ∧ H b = some (.lst qv) ∧ TPairsL H qv ps ∧ ps.length ≤ 400 ∧ (∀ p ∈ ps, p.1 ∈ ts ∧ p.2 ∈ ts) ∧
  ∀ D H' L, Same H H' → H D = none → FndAt w H' D ts (Lk.at_ L) → Lk.IsLows (rowsT ts) (prsT ts ps) L → Q (.ref D) H'
/-- what stands while classes are put together -/
structure ClosI (w : World) (H0 H : Hp) (D q : Addr) (ts : List Th) (E : List (Nat × Nat)) (M : List Nat) (lv : List V) (ps : List (Th × Th)) : Prop where
  same : Same H0 H
  new_ : H0 D = none
  fnd : FndAt w H D ts (Lk.at_ M)
  len : M.length = ts.length
  canon : Lk.Canon M
  sound : Lk.Sound (rowsT ts) E M
  list : H q = some (.lst lv)
  pairs : TPairsL H lv ps
  few : ps.length ≤ 400
  ok : ∀ p ∈ ps, p.1 ∈ ts ∧ p.2 ∈ ts ∧ Lk.CC (rowsT ts) E (ixT ts p.1) (ixT ts p.2)
  told : ∀ a b, (a, b) ∈ E → Lk.at_ M a = Lk.at_ M b ∨ ∃ p ∈ ps, a = ixT ts p.1 ∧ b = ixT ts p.2
  fin : ps = [] → Lk.Closed (rowsT ts) M
section
variable {P : Program} {w : World} {K : PySem.W.Frag} {mg : Str → Option Value} {base : Heap} {cA tP : Addr}
theorem c__law_closed (T : Tx K mg) : Cl P w K mg base CX0 1 "_law_closed" ["_law_terms", "_law_pairs_here"] (sp_closed w) := by
  refine Cl.mk0 T.d__law_closed sc__law_closed (fun vs H Q E h => ?_) (fun f cdv A outer s H vs Q E hr h => ?_)
  · obtain ⟨a, b, tv, qv, ts, ps, rfl, _⟩ := h
    rfl
  obtain ⟨a, b, tv, qv, ts, ps0, rfl, ha, rt, S, n400, hb, hq, q400, hin, q⟩ := h
  refine ⟨_, (pss_cons (ps_set (i := 3) sc__law_closed.nd rfl (Or.inr rfl) (pe_callTy (call_dictN rfl (Nat.lt_trans (Nat.add_lt_add_left (show 10 < 101 by decide) _) (room101 hr))) (by rfl) T.z_dict (by decide +kernel) (pa_cons (pe_lc (own := [("_law_k", 11), ("_law_term_here", 2)]) (g := gTup K 2 (gCons (gName 11) (gCons (gName 2) (gNil)))) (tt := tYes) rfl sc__law_closed.nd (pi_enum (by rfl) T.z_enumerate (pa_cons (pv 0) pa_nil)) (blkOk_by (own := [("_law_k", 11), ("_law_term_here", 2)]) (N := ["_law_terms", "_law_pairs_here", "_law_term_here", "_law_found", "_law_left", "_law_x", "_law_y", "_law_low", "_law_high", "_law_seen", "_law_sign", "_law_k", "_law_part"]) (sc := defScope s__law_closed) (by decide +kernel)) (fun _ _ _ _ _ => (pg_tup rfl (pgs_cons (pg_name (i := 11) sc__law_closed.nd rfl (Or.inl rfl)) (pgs_cons (pg_name (i := 2) sc__law_closed.nd rfl (Or.inl rfl)) pgs_nil)))) (fun _ _ _ _ _ => pts_nil) (fun _ _ _ _ _ => (pe_tup (pa_cons (pv 2) (pa_cons (pv 11) pa_nil))))) pa_nil)))
    (pss_cons (ps_set (i := 4) sc__law_closed.nd rfl (Or.inl rfl) (pe_callTy call_list_of (by rfl) T.z_list (by decide +kernel) (pa_cons (pv 1) pa_nil)))
    (Evl.pss_cut (ps_while PassesOwn.never (pt_cmpR (op_neD hr.units) (pv 4) (pe_lst pa_nil) (nomark _))
      (pss_cons (ps_for PassesOwn.never rfl (pi_list (pv 4)) (pg_tup rfl (pgs_cons (pg_name (i := 5) sc__law_closed.nd rfl (Or.inl rfl)) (pgs_cons (pg_name (i := 6) sc__law_closed.nd rfl (Or.inl rfl)) pgs_nil)))
        (pss_cons (ps_asg (pe_callB cr_sorted (by rfl) T.z_sorted (by decide +kernel) (pa_cons (pe_lst (pa_cons (pe_ngetW (w := w) (hu_n hr) (pv 3) (pv 5) (fun _ _ => rfl)) (pa_cons (pe_ngetW (w := w) (hu_n hr) (pv 3) (pv 6) (fun _ _ => rfl)) pa_nil))) pa_nil)) (pg_lst rfl (pgs_cons (pg_name (i := 7) sc__law_closed.nd rfl (Or.inl rfl)) (pgs_cons (pg_name (i := 8) sc__law_closed.nd rfl (Or.inl rfl)) pgs_nil))))
        (pss_one (ps_for PassesOwn.never rfl (pi_list (pv 0)) (pg_name (i := 2) sc__law_closed.nd rfl (Or.inl rfl))
          (pss_one (ps_nput (hu_n hr) (pv 3) (pv 2) (pe_ifExp (pt_cmpR op_eq (pe_ngetW (w := w) (hu_n hr) (pv 3) (pv 2) (fun _ _ => rfl)) (pv 8) (nomark _)) (pv 7) (pe_ngetW (w := w) (hu_n hr) (pv 3) (pv 2) (fun _ _ => rfl))) rfl))))))
      (pss_cons (ps_set (i := 4) sc__law_closed.nd rfl (Or.inl rfl) (pe_lst pa_nil))
      (pss_cons (ps_set (i := 9) sc__law_closed.nd rfl (Or.inl rfl) pe_dnewN)
      (pss_one (ps_for PassesOwn.never rfl (pi_list (pv 0)) (pg_name (i := 2) sc__law_closed.nd rfl (Or.inl rfl))
        (pss_cons (ps_set (i := 10) sc__law_closed.nd rfl (Or.inl rfl) (pe_op op_catA (pe_tup (pa_cons (pe_ix ix_tup (pv 2) pe_int (fun _ _ => rfl)) pa_nil)) (pe_callTy call_tuple_of (by rfl) T.z_tuple (by decide +kernel) (pa_cons (pe_lc (own := [("_law_part", 12)]) (g := gName 12) (tt := tYes) rfl sc__law_closed.nd (pi_tup (pe_slice sl_tupA (pv 2) (po_some pe_int) po_no)) (blkOk_by (own := [("_law_part", 12)]) (N := ["_law_terms", "_law_pairs_here", "_law_term_here", "_law_found", "_law_left", "_law_x", "_law_y", "_law_low", "_law_high", "_law_seen", "_law_sign", "_law_k", "_law_part"]) (sc := defScope s__law_closed) (by decide +kernel)) (fun _ _ _ _ _ => (pg_name (i := 12) sc__law_closed.nd rfl (Or.inl rfl))) (fun _ _ _ _ _ => pts_nil) (fun _ _ _ _ _ => (pe_ngetW (w := w) (hu_n hr) (pv 3) (pv 12) (fun _ _ => rfl)))) pa_nil))))
        (pss_cons (ps_if (pt_cmpR op_ne (pe_ngetW (w := w) (hu_n hr) (pv 3) (pe_nget2 (hu_n hr) (pv 9) (pv 10) (pv 2) ⟨rfl, rfl, rfl, rfl⟩) (fun _ _ => rfl)) (pe_ngetW (w := w) (hu_n hr) (pv 3) (pv 2) (fun _ _ => rfl)) (nomark _))
          (pss_one (ps_expr (pe_bm PySem.F.plainAttrs_list PySem.F.slot_list_append PySem.F.type_list_append mt_append (pv 4) (pa_cons (pe_tup (pa_cons (pe_ngetW (w := w) (hu_n hr) (pv 9) (pv 10) (fun _ _ => rfl)) (pa_cons (pv 2) pa_nil))) pa_nil))))
          pss_nil)
        (pss_one (ps_nput (hu_n hr) (pv 9) (pv 10) (pe_nget2 (hu_n hr) (pv 9) (pv 10) (pv 2) ⟨rfl, rfl, rfl, rfl⟩) rfl))))))))))
    (pss_one (ps_ret (pv 3)))))), ?_⟩
  have tl := rt.length
  have l1 : 1 ≤ sizeLine := by decide
  have l2 : 2 ≤ sizeLine := by decide
  have slt : ∀ {n : Nat}, n ≤ 900 → n < sizeLine := fun h => small1000 (by omega)
  -- dict([(term, k) for ..])
  refine ⟨_, rfl, a, tv, rfl, SqL.of ha, fun Lc hLc => lc_it (walk_enum (xs := tv)) (fun i H' => Same H H' ∧ ∃ qs : List Addr, H' Lc = some (.lst (qs.map V.ref)) ∧ qs.length = i ∧ Paired (PairS H') qs ((List.range i).map (cRow ts tv)))
    ⟨same_new hLc _, [], upd_same, rfl, .nil⟩ (fun i H' _ h' => SqL.of (h'.1 _ _ ha)) (fun i v H' H'' hi h' yy => ?_) (fun H1 h1 => ?_)⟩
  · obtain ⟨s1, qs, hqs, ql, pr⟩ := h'
    obtain ⟨Tt, v1, v2, rfl, hT, rfl, e1, e2⟩ := yy
    cases e1
    have e2 : tv[i]? = some v2 := e2
    obtain ⟨t, et, rt1⟩ := rt.get' e2
    have sT := same_new (o := .tup [.int (i : Nat), v2]) hT
    refine ⟨Tt, _, rfl, SqT.of upd_same, rfl, _, _, rfl, _, _, rfl, rfl, rfl, yesI ⟨_, rfl, _, rfl, l2, fun p hp => ?_⟩⟩
    have sp := same_new (o := .tup [v2, .int (i : Nat)]) hp
    have hq2 := sp _ _ (sT _ _ hqs)
    have k : TK H' (L2.upd (L2.upd (L2.upd H' Tt (.tup [.int (i : Nat), v2])) p (.tup [v2, .int (i : Nat)])) Lc (.lst (qs.map V.ref ++ [.ref p]))) := fun c xs z => by
      rw [upd_ne (ne_of (sp _ _ (sT _ _ z)) hq2 fun e => nomatch e)]
      exact sp _ _ (sT _ _ z)
    have hp2 : (L2.upd (L2.upd (L2.upd H' Tt (.tup [.int (i : Nat), v2])) p (.tup [v2, .int (i : Nat)])) Lc (.lst (qs.map V.ref ++ [.ref p]))) p = some (.tup [v2, .int (i : Nat)]) := by
      rw [upd_ne (ne_of upd_same hq2 fun e => nomatch e)]
      exact upd_same
    refine ⟨_, hq2, slt (by rw [List.length_map]; omega), Same.mut (s1.trans (sT.trans sp)) hLc, qs ++ [p], ?_, by rw [List.length_append, ql]; rfl, ?_⟩
    · rw [List.map_append]
      exact upd_same
    · rw [List.range_succ, List.map_append]
      refine Paired.snoc ?_ ?_
      · exact paired_imp pr fun c x o => ⟨o.1, k _ _ o.2⟩
      · rw [cRow_at et e2]
        obtain ⟨at_, _, rfl, _, _⟩ := (S.tm t (List.mem_of_getElem? et)).rep rt1
        exact ⟨⟨at_, rfl⟩, hp2⟩
  obtain ⟨s1, qs, hqs, ql, pr⟩ := h1
  rw [tl] at pr
  have nd0 : (((List.range ts.length).map (cRow ts tv)).map (·.1)).Nodup := by
    rw [cRow_keys]
    exact S.nd
  have keys0 : KeysN H1 ((List.range ts.length).map (cRow ts tv)) := fun x m => by
    obtain ⟨j, mj, rfl⟩ := List.mem_map.mp m
    have hj := List.mem_range.mp mj
    have et : ts[j]? = some ts[j] := List.getElem?_eq_getElem hj
    obtain ⟨v, ev, rv⟩ := reps_at rt et
    rw [cRow_at et ev]
    exact (S.tm _ (List.mem_of_getElem? et)).isk (rv.wk (Wk.same s1))
  refine ⟨Lc, qs, _, rfl, SqL.of hqs, paired_imp pr fun c x o => ⟨o.1, SqT.of o.2⟩, keys0, nd0, fun D hD => ?_⟩
  have sD := same_new hD (DN w D ((List.range ts.length).map (cRow ts tv)))
  have DH : H D = none := Same.none s1 hD
  refine ⟨_, rfl, b, qv, rfl, .inl (SqL.of (sD _ _ (s1 _ _ hb))), fun Lq hLq => ?_⟩
  have sL := same_new hLq (.lst qv)
  have s2 : Same H (L2.upd (L2.upd H1 D (DN w D ((List.range ts.length).map (cRow ts tv)))) Lq (.lst qv)) := s1.trans (sD.trans sL)
  have at_r : ∀ i, i < ts.length → Lk.at_ (List.range ts.length) i = i := fun i hi => Lk.at_of (List.getElem?_range hi)
  have I0 : ClosI w H (L2.upd (L2.upd H1 D (DN w D ((List.range ts.length).map (cRow ts tv)))) Lq (.lst qv)) D Lq ts (prsT ts ps0) (List.range ts.length) qv ps0 := by
    refine ⟨s2, DH, ⟨_, sL _ _ upd_same, keys0.wk fun _ _ z => sL _ _ (sD _ _ z), by rw [List.length_map, List.length_range]; exact Nat.le_refl _, fun i t et => ?_⟩, List.length_range, Lk.canon_range _, fun i j hi hj e => ?_, upd_same, hq.wk (Wk.same s2), q400, fun p m => ⟨(hin p m).1, (hin p m).2, .told (List.mem_map.mpr ⟨p, m, rfl⟩)⟩, fun x y m => .inr ?_, fun e => rowsT_closed S⟩
    · have hi := (List.getElem?_eq_some_iff.mp et).1
      obtain ⟨v, ev, _⟩ := reps_at rt et
      have e := valM_at nd0 (i := i) (x := cRow ts tv i) (by rw [List.getElem?_map, List.getElem?_range hi]; rfl)
      rw [cRow_at et ev] at e
      rw [at_r i hi]
      exact e
    · rw [List.length_range] at hi hj
      rw [at_r i hi, at_r j hj] at e
      subst e
      exact .refl _
    · obtain ⟨p, mp, e⟩ := List.mem_map.mp m
      injection e with e1 e2
      exact ⟨p, mp, e1.symm, e2.symm⟩
  obtain ⟨H2, eH2⟩ : ∃ H2, H2 = (L2.upd (L2.upd H1 D (DN w D ((List.range ts.length).map (cRow ts tv)))) Lq (.lst qv)) := ⟨_, rfl⟩
  rw [← eH2] at I0
  erw [← eH2]
  clear eH2 s2
  refine ⟨fun σ' H' => ∃ y2 q' y5 y6 y7 y8 y9 y10 M lv, σ' = [some (.ref a), some (.ref b), y2, some (.ref D), some (.ref q'), y5, y6, y7, y8, y9, y10, none, none] ∧ ClosI w H H' D q' ts (prsT ts ps0) M lv [], ?_, fun σ1 H3 e1 => ?_⟩
  · refine ⟨fun m σ' H' => ∃ y2 q' y5 y6 y7 y8 y9 y10 M lv ps, σ' = [some (.ref a), some (.ref b), y2, some (.ref D), some (.ref q'), y5, y6, y7, y8, y9, y10, none, none] ∧ ClosI w H H' D q' ts (prsT ts ps0) M lv ps ∧ ((ps = [] ∧ m = M.sum) ∨ ((∃ p, ps[0]? = some p ∧ Lk.at_ M (ixT ts p.1) ≠ Lk.at_ M (ixT ts p.2)) ∧ m = M.sum) ∨ m = M.sum + 1),
      ⟨(List.range ts.length).sum + 1, _, Lq, _, _, _, _, _, _, _, qv, ps0, rfl, I0, .inr (.inr rfl)⟩, fun m σ' H' hW => ?_⟩
    obtain ⟨y2, q', y5, y6, y7, y8, y9, y10, M, lv, ps, rfl, I, hm⟩ := hW
    have pok : ∀ p ∈ ps, tm p.1 ∧ tm p.2 := fun p mp => ⟨S.tm _ (I.ok p mp).1, S.tm _ (I.ok p mp).2.1⟩
    refine ⟨_, rfl, Nat.zero_le _, fun e0 he0 => ?_⟩
    have sE := same_new he0 (.lst [])
    refine ⟨_, _, .lst (SqL.of (sE _ _ I.list)) (dp_pairs (I.pairs.wk (Wk.same sE)) pok), .lst (SqL.of upd_same) .nil, sh_pairs pok, rfl, _, rfl, ?_⟩
    obtain ⟨H4, eH4⟩ : ∃ H4, H4 = L2.upd H' e0 (.lst []) := ⟨_, rfl⟩
    have I4 : ClosI w H H4 D q' ts (prsT ts ps0) M lv ps := by
      rw [eH4]
      exact ⟨I.same.trans sE, I.new_, I.fnd.same sE, I.len, I.canon, I.sound, sE _ _ I.list, I.pairs.wk (Wk.same sE), I.few, I.ok, I.told, I.fin⟩
    erw [← eH4]
    clear eH4 I sE
    have I := I4
    clear I4
    cases ps with
    | nil => exact iteF ⟨y2, q', y5, y6, y7, y8, y9, y10, M, lv, rfl, I⟩
    | cons p0 pr0 =>
    refine iteT ?_
    refine ⟨fun σ2 H2 => ∃ y2 q' y5 y6 y7 y8 y9 y10 M lv ps, σ2 = [some (.ref a), some (.ref b), y2, some (.ref D), some (.ref q'), y5, y6, y7, y8, y9, y10, none, none] ∧ ClosI w H H2 D q' ts (prsT ts ps0) M lv ps ∧ M.sum < m ∧ (ps = [] ∨ ∃ p, ps[0]? = some p ∧ Lk.at_ M (ixT ts p.1) ≠ Lk.at_ M (ixT ts p.2)), fun σ2 H2 h2 => ?_, ?_⟩
    · obtain ⟨y2, q', y5, y6, y7, y8, y9, y10, M, lv, ps, rfl, I2, lt, z⟩ := h2
      exact ⟨M.sum, lt, y2, q', y5, y6, y7, y8, y9, y10, M, lv, ps, rfl, I2, z.elim (fun e => .inl ⟨e, rfl⟩) fun e => .inr (.inl ⟨e, rfl⟩)⟩
    have pl := I.pairs.len
    have Mlen := I.len
    refine ⟨_, rfl, q', rfl, ⟨lv, SqL.of I.list⟩, for_it (walk_list (xs := lv)) (fun i σ H' => ∃ y2 y5 y6 y7 y8 M', σ = [some (.ref a), some (.ref b), y2, some (.ref D), some (.ref q'), y5, y6, y7, y8, y9, y10, none, none] ∧ Same H H' ∧ FndAt w H' D ts (Lk.at_ M') ∧ H' q' = some (.lst lv) ∧ TPairsL H' lv (p0 :: pr0) ∧ M'.length = ts.length ∧ Lk.Canon M' ∧ Lk.Sound (rowsT ts) (prsT ts ps0) M' ∧ M'.sum ≤ M.sum ∧
      (∀ u v, u < ts.length → v < ts.length → Lk.at_ M u = Lk.at_ M v → Lk.at_ M' u = Lk.at_ M' v) ∧ (∀ j p, j < i → (p0 :: pr0)[j]? = some p → Lk.at_ M' (ixT ts p.1) = Lk.at_ M' (ixT ts p.2)) ∧ (0 < i → Lk.at_ M (ixT ts p0.1) ≠ Lk.at_ M (ixT ts p0.2) → M'.sum < M.sum) ∧ (i = 0 → M' = M))
      ⟨y2, y5, y6, y7, y8, M, rfl, I.same, I.fnd, I.list, I.pairs, I.len, I.canon, I.sound, Nat.le_refl _, fun _ _ _ _ z => z, fun j p hj => absurd hj (Nat.not_lt_zero _), fun z => absurd z (Nat.lt_irrefl _), fun _ => rfl⟩ (fun i σ H5 _ h5 => ?_) (fun i v σ H5 H6 hi h5 yy => ?_) (fun σ H5 h5 => ?_)⟩
    · obtain ⟨_, _, _, _, _, _, _, _, _, hl, _⟩ := h5
      exact SqL.of hl
    · obtain ⟨z2, z5, z6, z7, z8, M', rfl, sm, fnd, hl, hps, len, canon, sound, sum, keep, joined_, less, same0⟩ := h5
      obtain ⟨rfl, hv⟩ := yy
      obtain ⟨p, hp, pa⟩ := hps.get hv
      have mp := List.mem_of_getElem? hp
      obtain ⟨i1, i2, icc⟩ := I.ok p mp
      obtain ⟨t1, t2⟩ := pok p mp
      obtain ⟨b1, v1, v2, rfl, hb1, r1, r2⟩ := pa
      obtain ⟨fr, f1, f2, f3, f4⟩ := fnd
      have x1 := ix_lt S i1
      have x2 := ix_lt S i2
      refine ⟨b1, _, rfl, SqT.of hb1, rfl, _, _, rfl, _, _, rfl, rfl, ?_⟩
      refine ⟨_, rfl, _, rfl, D, fr, p.1.nk, _, rfl, ⟨.inl f1, f2⟩, t1.isk r1, f4 _ _ (ix_of S i1), _, rfl, _, rfl, D, fr, p.2.nk, _, rfl, ⟨.inl f1, f2⟩, t2.isk r2, f4 _ _ (ix_of S i2), l2, fun e1 he1 => ?_⟩
      refine ⟨e1, [((Lk.at_ M' (ixT ts p.1) : Nat) : Int), ((Lk.at_ M' (ixT ts p.2) : Nat) : Int)], rfl, SqL.of upd_same, by show 2 < 64; decide, fun ns e2 perm pw he2 => ?_⟩
      rw [pair_sort perm pw]
      have sS := (same_new he1 (.lst [.int (Lk.at_ M' (ixT ts p.1) : Nat), .int (Lk.at_ M' (ixT ts p.2) : Nat)])).trans (same_new he2 (.lst (List.map V.int [((min (Lk.at_ M' (ixT ts p.1)) (Lk.at_ M' (ixT ts p.2)) : Nat) : Int), ((max (Lk.at_ M' (ixT ts p.1)) (Lk.at_ M' (ixT ts p.2)) : Nat) : Int)])))
      refine ⟨e2, _, rfl, SqL.of upd_same, rfl, _, _, rfl, _, _, rfl, rfl, ?_⟩
      obtain ⟨H7, eH7⟩ : ∃ H7, H7 = L2.upd (L2.upd H6 e1 (.lst [.int (Lk.at_ M' (ixT ts p.1) : Nat), .int (Lk.at_ M' (ixT ts p.2) : Nat)])) e2 (.lst (List.map V.int [((min (Lk.at_ M' (ixT ts p.1)) (Lk.at_ M' (ixT ts p.2)) : Nat) : Int), ((max (Lk.at_ M' (ixT ts p.1)) (Lk.at_ M' (ixT ts p.2)) : Nat) : Int)])) := ⟨_, rfl⟩
      rw [← eH7] at sS
      erw [← eH7]
      clear eH7
      have sm7 := sm.trans sS
      have fnd7 : FndAt w H7 D ts (Lk.at_ M') := FndAt.same ⟨fr, f1, f2, f3, f4⟩ sS
      refine ⟨_, rfl, a, rfl, ⟨tv, SqL.of (sm7 _ _ ha)⟩, for_it (walk_list (xs := tv)) (fun k σ H' => ∃ y2, σ = [some (.ref a), some (.ref b), y2, some (.ref D), some (.ref q'), some v1, some v2, some (.int (min (Lk.at_ M' (ixT ts p.1)) (Lk.at_ M' (ixT ts p.2)) : Nat)), some (.int (max (Lk.at_ M' (ixT ts p.1)) (Lk.at_ M' (ixT ts p.2)) : Nat)), y9, y10, none, none] ∧ Same H H' ∧ Bt D H7 H' ∧ FndAt w H' D ts (fun j => if j < k then Lk.at_ (Lk.join M' (ixT ts p.1) (ixT ts p.2)) j else Lk.at_ M' j))
        ⟨_, rfl, sm7, Bt.refl, fnd7⟩ (fun k σ H8 _ h8 => ?_) (fun k v σ H8 H9 hk h8 yy => ?_) (fun σ H8 h8 => ?_)⟩
      · obtain ⟨_, _, s8, _⟩ := h8
        exact SqL.of (s8 _ _ ha)
      · obtain ⟨w2, rfl, s8, b8, fnd8⟩ := h8
        obtain ⟨rfl, hv8⟩ := yy
        obtain ⟨u, eu, ru⟩ := rt.get' hv8
        have mu := List.mem_of_getElem? eu
        have tu := S.tm u mu
        have ru8 := ru.wk (Wk.same s8)
        obtain ⟨g, g1, g2, g3, g4⟩ := fnd8
        have hk' : k < ts.length := by omega
        have gv := g4 k u eu
        dsimp only at gv
        rw [if_neg (Nat.lt_irrefl k)] at gv
        have done : ∀ n : Nat, n = Lk.at_ (Lk.join M' (ixT ts p.1) (ixT ts p.2)) k → ∃ y2, ([some (.ref a), some (.ref b), some v, some (.ref D), some (.ref q'), some v1, some v2, some (.int (min (Lk.at_ M' (ixT ts p.1)) (Lk.at_ M' (ixT ts p.2)) : Nat)), some (.int (max (Lk.at_ M' (ixT ts p.1)) (Lk.at_ M' (ixT ts p.2)) : Nat)), y9, y10, none, none] : L2.St) = [some (.ref a), some (.ref b), y2, some (.ref D), some (.ref q'), some v1, some v2, some (.int (min (Lk.at_ M' (ixT ts p.1)) (Lk.at_ M' (ixT ts p.2)) : Nat)), some (.int (max (Lk.at_ M' (ixT ts p.1)) (Lk.at_ M' (ixT ts p.2)) : Nat)), y9, y10, none, none] ∧
            Same H (L2.upd H9 D (DN w D (putM g u.nk v (.int (n : Nat))))) ∧ Bt D H7 (L2.upd H9 D (DN w D (putM g u.nk v (.int (n : Nat))))) ∧ FndAt w (L2.upd H9 D (DN w D (putM g u.nk v (.int (n : Nat))))) D ts (fun j => if j < k + 1 then Lk.at_ (Lk.join M' (ixT ts p.1) (ixT ts p.2)) j else Lk.at_ M' j) := fun n en => by
          refine ⟨_, rfl, Same.mut s8 DH, b8.trans (Bt.upd _), ?_⟩
          obtain ⟨fr2, k1, k2, k3, k4⟩ := fnd_put S g1 g2 g3 g4 (n := n) eu ru8
          refine ⟨fr2, k1, k2, k3, fun j t' ej => ?_⟩
          rw [k4 j t' ej]
          dsimp only
          by_cases z : j = k
          · subst z
            rw [if_pos rfl, if_pos (Nat.lt_succ_self _), en]
          · rw [if_neg z]
            by_cases z2 : j < k
            · rw [if_pos z2, if_pos (by omega)]
            · rw [if_neg z2, if_neg (by omega)]
        refine ⟨_, rfl, _, rfl, D, g, u.nk, _, rfl, ⟨.inl g1, g2⟩, tu.isk ru8, gv, _, rfl, rfl, _, rfl, ite2 (fun c => ?_) (fun c => ?_)⟩
        · have c : Lk.at_ M' k = max (Lk.at_ M' (ixT ts p.1)) (Lk.at_ M' (ixT ts p.2)) := by
            simp at c
            omega
          refine ⟨_, rfl, _, rfl, _, rfl, D, g, u.nk, rfl, g1, g2, tu.isk ru8, slt (by omega), done _ ?_⟩
          rw [Lk.join_at (by omega), if_pos c]
        · have c : ¬ Lk.at_ M' k = max (Lk.at_ M' (ixT ts p.1)) (Lk.at_ M' (ixT ts p.2)) := fun z => by
            rw [z] at c
            simp at c
          refine ⟨_, rfl, _, rfl, D, g, u.nk, _, rfl, ⟨.inl g1, g2⟩, tu.isk ru8, gv, _, rfl, _, rfl, D, g, u.nk, rfl, g1, g2, tu.isk ru8, slt (by omega), done _ ?_⟩
          rw [Lk.join_at (by omega), if_neg c]
      · obtain ⟨w2, rfl, s8, b8, fnd8⟩ := h8
        have hl7 := sS _ _ hl
        have hl8 : H8 q' = some (.lst lv) := by
          obtain ⟨_, f1', _⟩ := fnd7
          exact b8 _ _ hl7 (ne_of hl7 f1' fun e => nomatch e)
        have tk8 : TK H6 H8 := fun c xs z => by
          obtain ⟨_, f1', _⟩ := fnd7
          exact b8 _ _ (sS _ _ z) (ne_of (sS _ _ z) f1' fun e => nomatch e)
        refine ⟨_, _, _, _, _, Lk.join M' (ixT ts p.1) (ixT ts p.2), rfl, s8, ?_, hl8, tpairs_tk tk8 hps pok, by rw [Lk.join_len]; exact len, Lk.join_canon canon (by omega) (by omega), Lk.join_sound canon sound (by omega) (by omega) icc, Nat.le_trans Lk.join_sum sum, fun u v hu hv' e => Lk.join_keeps (by omega) (by omega) (keep u v hu hv' e), fun j pj hj ej => ?_, fun _ ne => ?_, fun z => absurd z (Nat.succ_ne_zero _)⟩
        · obtain ⟨fr2, k1, k2, k3, k4⟩ := fnd8
          refine ⟨fr2, k1, k2, k3, fun j t' ej => ?_⟩
          rw [k4 j t' ej]
          dsimp only
          rw [if_pos (by rw [tl]; exact (List.getElem?_eq_some_iff.mp ej).1)]
        · by_cases z : j = i
          · subst z
            rw [hp] at ej
            cases ej
            exact Lk.join_same (by omega) (by omega)
          · have mj := List.mem_of_getElem? ej
            have k1 := ix_lt S (I.ok pj mj).1
            have k2 := ix_lt S (I.ok pj mj).2.1
            exact Lk.join_keeps (by omega) (by omega) (joined_ j pj (by omega) ej)
        · by_cases z : i = 0
          · subst z
            have eM := same0 rfl
            subst eM
            cases hp
            exact Lk.join_sum_lt canon (by omega) (by omega) ne
          · exact Nat.lt_of_le_of_lt Lk.join_sum (less (by omega) ne)
    · obtain ⟨z2, z5, z6, z7, z8, M', rfl, sm, fnd, hl, hps, len, canon, sound, sum, keep, joined_, less, same0⟩ := h5
      refine ⟨Nat.zero_le _, fun G hG => fun Sd hSd => ?_⟩
      have sG := same_new hG (.lst [])
      have sSd := same_new hSd (DN w Sd [])
      have s0 := sm.trans (sG.trans sSd)
      have hGs : (L2.upd (L2.upd H5 G (.lst [])) Sd (DN w Sd [])) G = some (.lst []) := sSd _ _ upd_same
      have nDS : D ≠ Sd := by
        obtain ⟨_, f1, _⟩ := fnd
        exact ne_of_none (sG _ _ f1) hSd
      have GH : H G = none := Same.none sm hG
      have SH : H Sd = none := Same.none (sm.trans sG) hSd
      have nGD : G ≠ D := by
        obtain ⟨_, f1, _⟩ := fnd
        exact (ne_of_none f1 hG).symm
      refine ⟨_, rfl, a, rfl, ⟨tv, SqL.of (s0 _ _ ha)⟩, for_it (walk_list (xs := tv)) (fun i σ H' => ∃ y2 y10 frS lv2 ps2, σ = [some (.ref a), some (.ref b), y2, some (.ref D), some (.ref G), z5, z6, z7, z8, some (.ref Sd), y10, none, none] ∧ Same H H' ∧ FndAt w H' D ts (Lk.at_ M') ∧ SeenI w H' Sd G ts M' i i frS lv2 ps2)
        ⟨z2, y10, [], [], [], rfl, s0, fnd.same (sG.trans sSd), upd_same, .nil, Nat.le_refl _, hGs, .nil, Nat.le_refl _, fun p m => (List.not_mem_nil m).elim, fun j u hj => absurd hj (Nat.not_lt_zero _), fun k v e => by cases e⟩ (fun i σ H6 _ h6 => ?_) (fun i v σ H6 H7 hi h6 yy => ?_) (fun σ H6 h6 => ?_)⟩
      · obtain ⟨_, _, _, _, _, _, s6, _⟩ := h6
        exact SqL.of (s6 _ _ ha)
      · obtain ⟨x2, x10, frS, lv2, ps2, rfl, s6, fnd6, J⟩ := h6
        obtain ⟨rfl, hv⟩ := yy
        obtain ⟨t, et, rt1⟩ := rt.get' hv
        have mt := List.mem_of_getElem? et
        have tt := S.tm t mt
        have rt6 := rt1.wk (Wk.same s6)
        obtain ⟨ta, pvs, rfl, hta, hpv⟩ := tt.rep rt6
        have plen := hpv.length
        have pfew := tt.few
        refine ⟨_, rfl, ta, _, 0, .str (headT t), rfl, rfl, SqT.of hta, atI_nat (j := 0) rfl, l1, fun p hp => ⟨_, rfl, 1, rfl, sl_lo (K := K) 1 ((same_new hp _) _ _ hta) (by omega) (by rw [List.length_cons]; omega) fun p2 hp2 => ⟨p2, rfl, ⟨_, SqT.of upd_same⟩, fun Dl hDl => ?_⟩⟩⟩
        have sA := same_new (o := .tup [V.str (headT t)]) hp
        have sB := same_new (o := .tup ((V.str (headT t) :: pvs).drop 1)) hp2
        have sAB := sA.trans sB
        have inT := S.closed t mt
        refine lc_pure (walk_tup (xs := pvs)) (fun k => .int (Lk.at_ M' (Lk.at_ (rowT ts t).2 k) : Nat)) hDl (by omega) (fun H' s' => SqT.of (s' _ _ upd_same)) (fun x => rfl) (fun k x H1 H2 hk sk y => ?_) (fun H1 sk e => ?_)
        · obtain ⟨rfl, hx⟩ := y
          obtain ⟨u, eu, ru⟩ := hpv.get' hx
          have mu := List.mem_of_getElem? eu
          have tu := tt.parts u mu
          have sK := sAB.trans sk
          obtain ⟨fr, f1, f2, f3, f4⟩ := fnd6.same sK
          have ek : Lk.at_ (rowT ts t).2 k = ixT ts u := Lk.at_of (by
            show ((partsT t).map (ixT ts))[k]? = _
            rw [List.getElem?_map, eu]
            rfl)
          refine ⟨Same.refl _, fun Q' q2 => ⟨_, rfl, _, rfl, D, fr, u.nk, _, rfl, ⟨.inl f1, f2⟩, tu.isk (ru.wk (Wk.same sK)), f4 _ _ (ix_of S (inT u mu)), ?_⟩⟩
          rw [ek] at q2
          exact q2 _ (Same.refl _)
        · have eK : ((List.range pvs.length).map fun k => V.int (Lk.at_ M' (Lk.at_ (rowT ts t).2 k) : Nat)) = (rowT ts t).2.map fun p => V.int (Lk.at_ M' p : Nat) := by
            have l3 : (rowT ts t).2.length = pvs.length := by
              show ((partsT t).map (ixT ts)).length = _
              rw [List.length_map]
              omega
            refine List.ext_getElem? fun n => ?_
            rw [List.getElem?_map, List.getElem?_map]
            by_cases hn : n < pvs.length
            · rw [List.getElem?_range hn, Lk.at_get (by omega)]
              rfl
            · rw [List.getElem?_eq_none_iff.mpr (by rw [List.length_range]; omega), List.getElem?_eq_none_iff.mpr (by omega)]
              rfl
          have e := (show H1 Dl = some (.lst ((List.range pvs.length).map fun k => V.int (Lk.at_ M' (Lk.at_ (rowT ts t).2 k) : Nat))) from e)
          rw [eK] at e
          refine ⟨Dl, _, rfl, .inl ⟨SqL.of e, fun N1 hN1 => ?_⟩⟩
          have sN := same_new (o := .tup ((rowT ts t).2.map fun p => V.int (Lk.at_ M' p : Nat))) hN1
          have l3 : (rowT ts t).2.length ≤ 3 := by
            show ((partsT t).map (ixT ts)).length ≤ 3
            rw [List.length_map]
            omega
          refine catA (sN _ _ (sk _ _ (sB _ _ upd_same))) upd_same (fun z => by cases z) (by rw [List.length_singleton, List.length_map]; omega) fun N2 H8 s8 h8 => ?_
          have s68 : Same H7 H8 := ((sAB.trans sk).trans sN).trans s8
          have J8 := J.same s68
          obtain ⟨fr, f1, f2, f3, f4⟩ := fnd6.same s68
          have isk : IsK H8 (kk M' (rowT ts t)) (.ref N2) := kk_is h8
          have rt8 := rt6.wk (Wk.same s68)
          obtain ⟨um, mu, ru, ku⟩ : ∃ um, um ∈ ts ∧ Rep H8 ((valM frS (kk M' (rowT ts t))).getD (.ref ta)) um ∧ kk M' (rowT ts um) = kk M' (rowT ts t) := by
            cases ev : valM frS (kk M' (rowT ts t)) with
            | none => exact ⟨t, mt, rt8, rfl⟩
            | some v => exact J8.from_ _ _ ev
          have tum := S.tm um mu
          have S9 := SH
          refine ⟨_, rfl, _, rfl, Sd, rfl, ⟨frS, .inl J8.dict, J8.keys⟩, _, rfl, _, rfl, frS, kk M' (rowT ts t), ⟨.inl J8.dict, J8.keys⟩, isk, D, fr, um.nk, _, rfl, ⟨.inl f1, f2⟩, tum.isk ru, f4 _ _ (ix_of S mu), _, rfl, _, rfl, D, fr, t.nk, _, rfl, ⟨.inl f1, f2⟩, tt.isk rt8, f4 _ _ et, rfl, _, rfl, ite2 (fun c => ?_) (fun c => ?_)⟩
          · have ne : Lk.at_ M' (ixT ts um) ≠ Lk.at_ M' i := fun z => by
              rw [z] at c
              simp at c
            have ev : valM frS (kk M' (rowT ts t)) = some ((valM frS (kk M' (rowT ts t))).getD (.ref ta)) := by
              cases ev : valM frS (kk M' (rowT ts t)) with
              | none =>
                rw [ev] at ru
                have := rep_fun tum tt ru rt8
                subst this
                exact absurd (by rw [ix_at S et]) ne
              | some v => rfl
            refine ⟨_, rfl, .inl ⟨rfl, _, SqL.of J8.list⟩, _, rfl, _, rfl, Sd, frS, _, _, rfl, ⟨.inl J8.dict, J8.keys⟩, isk, ev, _, rfl, l2, fun p3 hp3 => ?_⟩
            have s9 := same_new (o := .tup [(valM frS (kk M' (rowT ts t))).getD (.ref ta), .ref ta]) hp3
            have J9 := J8.same s9
            have J10 := J9.add S upd_same (ru.wk (Wk.same s9)) (rt8.wk (Wk.same s9)) ⟨mu, mt, by rw [ix_at S et]; exact ne, ku⟩
            have k10 := Wk.lst_upd J9.list (lv2 ++ [.ref p3])
            have hn := J9.list
            refine ⟨G, _, _, rfl, rfl, J9.list, slt (by have := J9.pairs.len; have := J9.plen; omega), ?_⟩
            have isk10 : IsK (L2.upd (L2.upd H8 p3 (.tup [(valM frS (kk M' (rowT ts t))).getD (.ref ta), .ref ta])) G (.lst (lv2 ++ [.ref p3]))) (kk M' (rowT ts t)) (.ref N2) := kk_is (k10.tup _ _ (s9 _ _ h8))
            refine ⟨_, rfl, Sd, rfl, ⟨frS, .inl J10.dict, J10.keys⟩, _, rfl, _, rfl, frS, kk M' (rowT ts t), ⟨.inl J10.dict, J10.keys⟩, isk10, _, rfl, _, rfl, Sd, frS, kk M' (rowT ts t), rfl, J10.dict, J10.keys, isk10, slt (by have := J10.few; omega), ?_⟩
            refine ⟨_, _, putM frS (kk M' (rowT ts t)) (.ref N2) ((valM frS (kk M' (rowT ts t))).getD (.ref ta)), _, _, rfl, Same.mut (Same.mut (s6.trans (s68.trans s9)) GH) SH, ?_, J10.put S et isk10 mu ((ru.wk (Wk.same s9)).wk k10) ku (fun z => absurd z (by simp))⟩
            have f10 : FndAt w (L2.upd (L2.upd H8 p3 (.tup [(valM frS (kk M' (rowT ts t))).getD (.ref ta), .ref ta])) G (.lst (lv2 ++ [.ref p3]))) D ts (Lk.at_ M') := by
              refine ⟨fr, ?_, (f2.wk fun _ _ z => s9 _ _ z).wk fun _ _ z => k10.tup _ _ z, f3, f4⟩
              rw [upd_ne nGD.symm]
              exact s9 _ _ f1
            obtain ⟨g, g1, g2, g3, g4⟩ := f10
            refine ⟨g, by rw [upd_ne nDS]; exact g1, g2.wk fun c xs z => ?_, g3, g4⟩
            rw [upd_ne (ne_of z J10.dict fun e => nomatch e)]
            exact z
          · have eq : Lk.at_ M' (ixT ts um) = Lk.at_ M' i := by
              simp at c
              omega
            refine ⟨_, rfl, Sd, rfl, ⟨frS, .inl J8.dict, J8.keys⟩, _, rfl, _, rfl, frS, kk M' (rowT ts t), ⟨.inl J8.dict, J8.keys⟩, isk, _, rfl, _, rfl, Sd, frS, kk M' (rowT ts t), rfl, J8.dict, J8.keys, isk, slt (by have := J8.few; omega), ?_⟩
            refine ⟨_, _, putM frS (kk M' (rowT ts t)) (.ref N2) ((valM frS (kk M' (rowT ts t))).getD (.ref ta)), lv2, ps2, rfl, Same.mut (s6.trans s68) SH, ⟨fr, by rw [upd_ne nDS]; exact f1, f2.wk fun c xs z => ?_, f3, f4⟩, ?_⟩
            · rw [upd_ne (ne_of z J8.dict fun e => nomatch e)]
              exact z
            · have J9 : SeenI w H8 Sd G ts M' i (i + 1) frS lv2 ps2 := ⟨J8.dict, J8.keys, J8.few, J8.list, J8.pairs, Nat.le_succ_of_le J8.plen, J8.ok, J8.seen, J8.from_⟩
              exact J9.put S et isk mu ru ku fun _ => eq
      · obtain ⟨x2, x10, frS, lv2, ps2, rfl, s6, fnd6, J⟩ := h6
        rw [tl] at J
        have lt : M'.sum < m := by
          rcases hm with ⟨z, _⟩ | ⟨⟨p, e0, ne⟩, e⟩ | e
          · cases z
          · rw [e]
            cases e0
            exact less (by rw [pl]; exact Nat.succ_pos _) ne
          · omega
        have cc : ∀ p ∈ ps2, Lk.CC (rowsT ts) (prsT ts ps0) (ixT ts p.1) (ixT ts p.2) := fun p mp => by
          obtain ⟨i1, i2, _, ek⟩ := J.ok p mp
          have ek := kk_inj ek
          have e1 := rowsT_get (ix_of S i1)
          have e2 := rowsT_get (ix_of S i2)
          have rin := rowsT_in S
          unfold Lk.key at ek
          injection ek with k1 k2
          have lens : (rowT ts p.1).2.length = (rowT ts p.2).2.length := by
            have := congrArg List.length k2
            rw [List.length_map, List.length_map] at this
            exact this
          have e2' : (rowsT ts)[ixT ts p.2]? = some ((rowT ts p.1).1, (rowT ts p.2).2) := by rw [e2, k1]
          refine .cong e1 e2' lens fun n u v hu hv => ?_
          have := congrArg (fun l : List Nat => l[n]?) k2
          rw [show ((rowT ts p.1).2.map (Lk.at_ M'))[n]? = some (Lk.at_ M' u) by rw [List.getElem?_map, show (rowT ts p.1).2[n]? = some u from hu]; rfl, show ((rowT ts p.2).2.map (Lk.at_ M'))[n]? = some (Lk.at_ M' v) by rw [List.getElem?_map, show (rowT ts p.2).2[n]? = some v from hv]; rfl] at this
          have lu := rin _ _ e1 u (List.mem_of_getElem? hu)
          have lv := rin _ _ e2 v (List.mem_of_getElem? hv)
          rw [rowsT_len] at lu lv
          exact sound u v (by omega) (by omega) (Option.some.inj this)
        refine ⟨_, G, _, _, _, _, _, _, M', lv2, ps2, rfl, ⟨s6, DH, fnd6, len, canon, sound, J.list, J.pairs, by have := J.plen; omega, fun p mp => ⟨(J.ok p mp).1, (J.ok p mp).2.1, cc p mp⟩, fun x y mxy => .inl ?_, fun e => ?_⟩, lt, ?_⟩
        · rcases I.told x y mxy with z | ⟨p, mp, rfl, rfl⟩
          · obtain ⟨p, mp, e⟩ := List.mem_map.mp mxy
            injection e with e1 e2
            subst e1 e2
            exact keep _ _ (ix_lt S (hin p mp).1) (ix_lt S (hin p mp).2) z
          · obtain ⟨j, hj⟩ := List.mem_iff_getElem?.mp mp
            exact joined_ j p (by rw [pl]; exact (List.getElem?_eq_some_iff.mp hj).1) hj
        · intro i j r s er es ks
          have li : i < ts.length := by rw [← rowsT_len]; exact (List.getElem?_eq_some_iff.mp er).1
          have lj : j < ts.length := by rw [← rowsT_len]; exact (List.getElem?_eq_some_iff.mp es).1
          have ei : ts[i]? = some ts[i] := List.getElem?_eq_getElem li
          have ej : ts[j]? = some ts[j] := List.getElem?_eq_getElem lj
          rw [rowsT_get ei] at er
          rw [rowsT_get ej] at es
          cases er
          cases es
          obtain ⟨v1, u1, h1, h2, h3, h4⟩ := J.seen i _ li ei
          obtain ⟨v2, u2, g1, g2, g3, g4⟩ := J.seen j _ lj ej
          rw [key_kk ks, g1] at h1
          cases h1
          have := rep_fun (S.tm _ h3) (S.tm _ g3) h2 g2
          subst this
          rw [← h4 e, ← g4 e]
        · cases ps2 with
          | nil => exact .inl rfl
          | cons p1 pr1 => exact .inr ⟨p1, rfl, (J.ok p1 List.mem_cons_self).2.2.1⟩
  obtain ⟨y2, q', y5, y6, y7, y8, y9, y10, M, lv, rfl, I⟩ := e1
  exact ⟨_, rfl, q D _ M I.same DH I.fnd ⟨by rw [rowsT_len]; exact I.len, I.canon, I.sound, fun x y m => (I.told x y m).elim id fun ⟨p, mp, _⟩ => (List.not_mem_nil mp).elim, I.fin rfl⟩⟩
end
end Kt
namespace Kt
open PySem PySem.Spec PyProof.Rows L2
/-! ### marks, and classes put together over more terms -/
theorem g_some {rows : List (Str × List Nat)} {L : List Nat} {k : NestedKey} {i : Nat} (h : gOf rows L k = some i) : ∃ j r, rows[j]? = some r ∧ kk L r = k ∧ i = Lk.at_ L j := by
  unfold gOf at h
  obtain ⟨j, e, rfl⟩ := Option.map_eq_some_iff.mp h
  have f := List.find?_some e
  cases er : rows[j]? with
  | none =>
    rw [er] at f
    cases f
  | some r =>
    rw [er] at f
    exact ⟨j, r, er, of_decide_eq_true f, rfl⟩
theorem g_of {rows : List (Str × List Nat)} {E : List (Nat × Nat)} {L : List Nat} (low : Lk.IsLows rows E L) {j : Nat} {r : Str × List Nat} (er : rows[j]? = some r) : gOf rows L (kk L r) = some (Lk.at_ L j) := by
  cases e : gOf rows L (kk L r) with
  | some i =>
    obtain ⟨m, q, em, ek, rfl⟩ := g_some e
    rw [low.closed m j q r em er (kk_inj ek)]
  | none =>
    unfold gOf at e
    have e := Option.map_eq_none_iff.mp e
    have := List.find?_eq_none.mp e j (List.mem_range.mpr (List.getElem?_eq_some_iff.mp er).1)
    rw [er] at this
    exact absurd (decide_eq_true rfl) this
section
variable {R S : List Th} {ps : List (Th × Th)} {L M : List Nat}
theorem mk_in (SR : TmS R) (low : Lk.IsLows (rowsT R) (prsT R ps) L) : ∀ (n : Nat) (t : Th), t ∈ R → t.hgt < n → mkF (gOf (rowsT R) L) t = .num (Lk.at_ L (ixT R t) : Nat)
  | 0, _, _, h => absurd h (Nat.not_lt_zero _)
  | n + 1, t, mt, hg => by
    have tt := SR.tm t mt
    have sh : shF (gOf (rowsT R) L) t = kk L (rowT R t) := by
      show NestedKey.tup (.text (headT t) :: mkFL _ (partsT t)) = .tup (.text (headT t) :: ((partsT t).map (ixT R)).map fun p => NestedKey.num (Lk.at_ L p : Nat))
      rw [mkFL_map, List.map_map]
      congr 2
      refine List.map_congr_left fun p mp => ?_
      exact mk_in SR low n p (SR.closed t mt p mp) (hgt_of_part tt mp hg)
    rw [mkF_eq _ tt, sh, g_of low (rowsT_get (ix_of SR mt))]
/-- a place among some terms, told as one among more of them -/
def emb (R S : List Th) (i : Nat) : Nat := ((R[i]?).map (ixT S)).getD 0
theorem emb_ix (SR : TmS R) {t : Th} (mt : t ∈ R) : emb R S (ixT R t) = ixT S t := by
  unfold emb
  rw [ix_of SR mt]
  rfl
theorem cc_row {R : List Th} {i : Nat} {h : Str} {qs : List Nat} (e : (rowsT R)[i]? = some (h, qs)) : ∃ t, R[i]? = some t ∧ headT t = h ∧ (partsT t).map (ixT R) = qs := by
  unfold rowsT at e
  rw [List.getElem?_map] at e
  obtain ⟨t, et, e⟩ := Option.map_eq_some_iff.mp e
  unfold rowT at e
  injection e with e1 e2
  exact ⟨t, et, e1, e2⟩
theorem cc_lift (SR : TmS R) (SS : TmS S) (sub : ∀ t ∈ R, t ∈ S) (pin : ∀ p ∈ ps, p.1 ∈ R ∧ p.2 ∈ R) {i j : Nat} (c : Lk.CC (rowsT R) (prsT R ps) i j) : Lk.CC (rowsT S) (prsT S ps) (emb R S i) (emb R S j) := by
  induction c with
  | refl i => exact .refl _
  | symm _ ih => exact .symm ih
  | trans _ _ a b => exact .trans a b
  | told m =>
    obtain ⟨p, mp, e⟩ := List.mem_map.mp m
    injection e with e1 e2
    subst e1 e2
    rw [emb_ix SR (pin p mp).1, emb_ix SR (pin p mp).2]
    exact .told (List.mem_map.mpr ⟨p, mp, rfl⟩)
  | @cong i j h as bs ei ej el _ ih =>
    obtain ⟨t, et, rfl, rfl⟩ := cc_row ei
    obtain ⟨u, eu, eh, rfl⟩ := cc_row ej
    have mt := List.mem_of_getElem? et
    have mu := List.mem_of_getElem? eu
    have e1 : emb R S i = ixT S t := by
      unfold emb
      rw [et]
      rfl
    have e2 : emb R S j = ixT S u := by
      unfold emb
      rw [eu]
      rfl
    rw [e1, e2]
    rw [List.length_map, List.length_map] at el
    refine .cong (rowsT_get (ix_of SS (sub t mt))) (show (rowsT S)[ixT S u]? = some (headT t, (partsT u).map (ixT S)) by rw [rowsT_get (ix_of SS (sub u mu)), ← eh]; rfl) (by show ((partsT t).map _).length = _; rw [List.length_map, List.length_map]; exact el) fun n p q hp hq => ?_
    have hp : ((partsT t).map (ixT S))[n]? = some p := hp
    rw [List.getElem?_map] at hp hq
    obtain ⟨x, ex, rfl⟩ := Option.map_eq_some_iff.mp hp
    obtain ⟨y, ey, rfl⟩ := Option.map_eq_some_iff.mp hq
    have := ih n (ixT R x) (ixT R y) (by rw [List.getElem?_map, ex]; rfl) (by rw [List.getElem?_map, ey]; rfl)
    rw [emb_ix SR (SR.closed t mt x (List.mem_of_getElem? ex)), emb_ix SR (SR.closed u mu y (List.mem_of_getElem? ey))] at this
    exact this
/-- terms of one head, whose parts are in one class, are in one class -/
theorem cc_parts (SS : TmS S) {t u : Th} (mt : t ∈ S) (mu : u ∈ S) (eh : headT t = headT u) (el : (partsT t).length = (partsT u).length) (h : ∀ (n : Nat) (x y : Th), (partsT t)[n]? = some x → (partsT u)[n]? = some y → Lk.CC (rowsT S) (prsT S ps) (ixT S x) (ixT S y)) : Lk.CC (rowsT S) (prsT S ps) (ixT S t) (ixT S u) := by
  refine .cong (rowsT_get (ix_of SS mt)) (show (rowsT S)[ixT S u]? = some (headT t, (partsT u).map (ixT S)) by rw [rowsT_get (ix_of SS mu), eh]; rfl) (by show ((partsT t).map _).length = _; rw [List.length_map, List.length_map]; exact el) fun n p q hp hq => ?_
  have hp : ((partsT t).map (ixT S))[n]? = some p := hp
  rw [List.getElem?_map] at hp hq
  obtain ⟨x, ex, rfl⟩ := Option.map_eq_some_iff.mp hp
  obtain ⟨y, ey, rfl⟩ := Option.map_eq_some_iff.mp hq
  exact h n x y ex ey
theorem mk_low (SR : TmS R) (SS : TmS S) (sub : ∀ t ∈ R, t ∈ S) (pin : ∀ p ∈ ps, p.1 ∈ R ∧ p.2 ∈ R) (low : Lk.IsLows (rowsT R) (prsT R ps) L) : ∀ (n : Nat) (t : Th), t ∈ S → t.hgt < n → ∀ i : Nat, mkF (gOf (rowsT R) L) t = .num (i : Nat) → ∃ r ∈ R, Lk.at_ L (ixT R r) = i ∧ Lk.CC (rowsT S) (prsT S ps) (ixT S t) (ixT S r)
  | 0, _, _, h, _, _ => absurd h (Nat.not_lt_zero _)
  | n + 1, t, mt, hg, i, e => by
    have tt := SS.tm t mt
    rw [mkF_eq _ tt] at e
    cases eg : gOf (rowsT R) L (shF (gOf (rowsT R) L) t) with
    | none =>
      rw [eg] at e
      unfold shF at e
      cases e
    | some k =>
      rw [eg] at e
      have e : k = i := by
        injection e with e
        exact_mod_cast e
      subst e
      obtain ⟨j, row, ej, ek, rfl⟩ := g_some eg
      obtain ⟨r, er, rfl⟩ : ∃ r, R[j]? = some r ∧ rowT R r = row := by
        unfold rowsT at ej
        rw [List.getElem?_map] at ej
        obtain ⟨r, er, e⟩ := Option.map_eq_some_iff.mp ej
        exact ⟨r, er, e⟩
      have mr := List.mem_of_getElem? er
      have jx := ix_at SR er
      refine ⟨r, mr, by rw [jx], ?_⟩
      have ek : NestedKey.tup (.text (headT r) :: ((partsT r).map (ixT R)).map fun p => NestedKey.num (Lk.at_ L p : Nat)) = .tup (.text (headT t) :: mkFL (gOf (rowsT R) L) (partsT t)) := ek
      injection ek with ek
      injection ek with k1 k2
      injection k1 with k1
      rw [mkFL_map, List.map_map] at k2
      have el : (partsT t).length = (partsT r).length := by
        have := congrArg List.length k2
        rw [List.length_map, List.length_map] at this
        exact this.symm
      refine cc_parts SS mt (sub r mr) k1.symm el fun m x y ex ey => ?_
      have mx := List.mem_of_getElem? ex
      have my := SR.closed r mr y (List.mem_of_getElem? ey)
      have := congrArg (fun l : List NestedKey => l[m]?) k2
      rw [show ((partsT r).map ((fun p => NestedKey.num (Lk.at_ L p : Nat)) ∘ ixT R))[m]? = some (NestedKey.num (Lk.at_ L (ixT R y) : Nat)) by rw [List.getElem?_map, ey]; rfl, show ((partsT t).map (mkF (gOf (rowsT R) L)))[m]? = some (mkF (gOf (rowsT R) L) x) by rw [List.getElem?_map, ex]; rfl] at this
      obtain ⟨r', mr', e1, c1⟩ := mk_low SR SS sub pin low n x (SS.closed t mt x mx) (hgt_of_part tt mx hg) _ (Option.some.inj this).symm
      have c2 := cc_lift SR SS sub pin ((low.iff (by rw [low.len, rowsT_len]; exact ix_lt SR mr') (by rw [low.len, rowsT_len]; exact ix_lt SR my)).mp e1)
      rw [emb_ix SR mr', emb_ix SR my] at c2
      exact .trans c1 c2
theorem mk_cc (SR : TmS R) (SS : TmS S) (sub : ∀ t ∈ R, t ∈ S) (pin : ∀ p ∈ ps, p.1 ∈ R ∧ p.2 ∈ R) (low : Lk.IsLows (rowsT R) (prsT R ps) L) : ∀ (n : Nat) (t u : Th), t ∈ S → u ∈ S → t.hgt < n → mkF (gOf (rowsT R) L) t = mkF (gOf (rowsT R) L) u → Lk.CC (rowsT S) (prsT S ps) (ixT S t) (ixT S u)
  | 0, _, _, _, _, h, _ => absurd h (Nat.not_lt_zero _)
  | n + 1, t, u, mt, mu, hg, e => by
    have tt := SS.tm t mt
    have tu := SS.tm u mu
    have gt := mkF_eq (gOf (rowsT R) L) tt
    have gu := mkF_eq (gOf (rowsT R) L) tu
    cases et : gOf (rowsT R) L (shF (gOf (rowsT R) L) t) with
    | some i =>
      rw [et] at gt
      cases eu : gOf (rowsT R) L (shF (gOf (rowsT R) L) u) with
      | some k =>
        rw [eu] at gu
        obtain ⟨r1, m1, e1, c1⟩ := mk_low SR SS sub pin low (n + 1) t mt hg _ gt
        obtain ⟨r2, m2, e2, c2⟩ := mk_low SR SS sub pin low 6 u mu (hgt_le tu) _ gu
        have ik : i = k := by
          rw [gt, gu] at e
          injection e with e
          exact_mod_cast e
        have c3 := cc_lift SR SS sub pin ((low.iff (by rw [low.len, rowsT_len]; exact ix_lt SR m1) (by rw [low.len, rowsT_len]; exact ix_lt SR m2)).mp (by rw [e1, e2, ik]))
        rw [emb_ix SR m1, emb_ix SR m2] at c3
        exact .trans c1 (.trans c3 (.symm c2))
      | none =>
        rw [eu] at gu
        rw [gt, gu] at e
        unfold shF at e
        cases e
    | none =>
      rw [et] at gt
      cases eu : gOf (rowsT R) L (shF (gOf (rowsT R) L) u) with
      | some k =>
        rw [eu] at gu
        rw [gt, gu] at e
        unfold shF at e
        cases e
      | none =>
        rw [eu] at gu
        rw [gt, gu] at e
        unfold shF at e
        injection e with e
        injection e with k1 k2
        injection k1 with k1
        rw [mkFL_map, mkFL_map] at k2
        have el : (partsT t).length = (partsT u).length := by
          have := congrArg List.length k2
          rw [List.length_map, List.length_map] at this
          exact this
        refine cc_parts SS mt mu k1 el fun m x y ex ey => ?_
        have mx := List.mem_of_getElem? ex
        have my := List.mem_of_getElem? ey
        have := congrArg (fun l : List NestedKey => l[m]?) k2
        rw [show ((partsT t).map (mkF (gOf (rowsT R) L)))[m]? = some (mkF (gOf (rowsT R) L) x) by rw [List.getElem?_map, ex]; rfl, show ((partsT u).map (mkF (gOf (rowsT R) L)))[m]? = some (mkF (gOf (rowsT R) L) y) by rw [List.getElem?_map, ey]; rfl] at this
        exact mk_cc SR SS sub pin low n x y (SS.closed t mt x mx) (SS.closed u mu y my) (hgt_of_part tt mx hg) (Option.some.inj this)
def mkAt (g : NestedKey → Option Nat) (S : List Th) (i : Nat) : NestedKey := ((S[i]?).map (mkF g)).getD .none
theorem cc_mk (SR : TmS R) (SS : TmS S) (pin : ∀ p ∈ ps, p.1 ∈ R ∧ p.2 ∈ R) (sub : ∀ t ∈ R, t ∈ S) (low : Lk.IsLows (rowsT R) (prsT R ps) L) {i j : Nat} (c : Lk.CC (rowsT S) (prsT S ps) i j) : mkAt (gOf (rowsT R) L) S i = mkAt (gOf (rowsT R) L) S j := by
  have at_in : ∀ {t : Th}, t ∈ S → mkAt (gOf (rowsT R) L) S (ixT S t) = mkF (gOf (rowsT R) L) t := fun m => by
    unfold mkAt
    rw [ix_of SS m]
    rfl
  induction c with
  | refl i => rfl
  | symm _ ih => exact ih.symm
  | trans _ _ a b => exact a.trans b
  | told m =>
    obtain ⟨p, mp, e⟩ := List.mem_map.mp m
    injection e with e1 e2
    subst e1 e2
    obtain ⟨p1, p2⟩ := pin p mp
    rw [at_in (sub _ p1), at_in (sub _ p2), mk_in SR low 6 _ p1 (hgt_le (SR.tm _ p1)), mk_in SR low 6 _ p2 (hgt_le (SR.tm _ p2)), low.told _ _ (List.mem_map.mpr ⟨p, mp, rfl⟩)]
  | @cong i j h as bs ei ej el _ ih =>
    obtain ⟨t, et, rfl, rfl⟩ := cc_row ei
    obtain ⟨u, eu, eh, rfl⟩ := cc_row ej
    have mt := List.mem_of_getElem? et
    have mu := List.mem_of_getElem? eu
    rw [← ix_at SS et, ← ix_at SS eu, at_in mt, at_in mu, mkF_eq _ (SS.tm t mt), mkF_eq _ (SS.tm u mu)]
    have sh : shF (gOf (rowsT R) L) t = shF (gOf (rowsT R) L) u := by
      unfold shF
      rw [eh, mkFL_map, mkFL_map]
      congr 2
      rw [List.length_map, List.length_map] at el
      refine List.ext_getElem? fun n => ?_
      rw [List.getElem?_map, List.getElem?_map]
      cases ex : (partsT t)[n]? with
      | none =>
        have : (partsT u)[n]? = none := by
          have := List.getElem?_eq_none_iff.mp ex
          exact List.getElem?_eq_none_iff.mpr (by omega)
        rw [this]
      | some x =>
        have hn := (List.getElem?_eq_some_iff.mp ex).1
        have ey : (partsT u)[n]? = some ((partsT u)[n]'(by omega)) := List.getElem?_eq_getElem (by omega)
        rw [ey]
        have := ih n (ixT S x) (ixT S ((partsT u)[n]'(by omega))) (by rw [List.getElem?_map, ex]; rfl) (by rw [List.getElem?_map, ey]; rfl)
        rw [at_in (SS.closed t mt x (List.mem_of_getElem? ex)), at_in (SS.closed u mu _ (List.mem_of_getElem? ey))] at this
        show some (mkF _ x) = some (mkF _ _)
        rw [this]
    rw [sh]
/-- two terms have one mark just where putting classes together over more terms makes them one -/
theorem mark_iff (SR : TmS R) (SS : TmS S) (sub : ∀ t ∈ R, t ∈ S) (pin : ∀ p ∈ ps, p.1 ∈ R ∧ p.2 ∈ R) (low : Lk.IsLows (rowsT R) (prsT R ps) L) (low' : Lk.IsLows (rowsT S) (prsT S ps) M) {t u : Th} (mt : t ∈ S) (mu : u ∈ S) :
    mkF (gOf (rowsT R) L) t = mkF (gOf (rowsT R) L) u ↔ Lk.at_ M (ixT S t) = Lk.at_ M (ixT S u) := by
  rw [low'.iff (by rw [low'.len, rowsT_len]; exact ix_lt SS mt) (by rw [low'.len, rowsT_len]; exact ix_lt SS mu)]
  constructor
  · exact fun e => mk_cc SR SS sub pin low 6 t u mt mu (hgt_le (SS.tm t mt)) e
  · intro c
    have := cc_mk SR SS pin sub low c
    unfold mkAt at this
    rw [ix_of SS mt, ix_of SS mu] at this
    exact this
end
end Kt
namespace Kt
open PySem PySem.Spec PyProof.Rows L2
/-! ### back, where a deed stands -/
def sp_back (CW CL tP : Addr) (w : World) : Sp := fun vs H Q _ => ∃ (p d u t r : Addr) (N : List Addr) (ds us : List Deed), vs = [.ref p] ∧ WebAt w CW CL N H p d u t r ds us ∧ LamX.Tabs (tabsW tP) H ∧ ds.length ≤ 900 ∧ us.length ≤ 900 ∧ ds ≠ [] ∧
  ∀ ds' r0 H' t' r', ds = ds' ++ [r0] → FrM [p, d, u, t, r] [p, d, u, t', r'] H H' → LamX.Tabs (tabsW tP) H' → WebAt w CW CL N H' p d u t' r' ds' (us ++ [r0]) → Q .non H'
section
variable {P : Program} {w : World} {K : PySem.W.Frag} {mg : Str → Option Value} {base : Heap} {cA tP : Addr}
theorem c_Web_back (T : Tx K mg) (L : TxL K mg base cA tP) : ClM P w K mg base CX0 22 (clsA mg "Web") "back" ["self"] (sp_back (clsA mg "Web") (clsA mg "Likeness") tP w) := by
  refine ClM.mk0 T.d_Web_back sc_Web_back (fun vs H Q E h => ?_) (fun f cdv A outer s H vs Q E hr h => ?_)
  · obtain ⟨p, d, u, t, r, N, ds, us, rfl, _⟩ := h
    rfl
  obtain ⟨p, d, u, t, r, N, ds, us, rfl, W, tb, d900, u900, qe, q⟩ := h
  have c_Web__ranks_beyond := fun (T : Tx K mg) => c_Web__ranks_beyond (P := P) (w := w) (base := base) T
  have c_Web__settle := fun (T : Tx K mg) (L : TxL K mg base cA tP) => c_Web__settle (P := P) (w := w) T L
  refine ⟨_, (pss_cons (ps_if (pt_cmpR op_eq (pe_callB call_len (by rfl) T.z_len (by decide +kernel) (pa_cons (pe_fld (pv 0) rfl) pa_nil)) pe_int (nomark _))
      (pss_one ps_never)
      pss_nil)
    (pss_cons (ps_expr (pe_bm PySem.F.plainAttrs_list PySem.F.slot_list_append PySem.F.type_list_append mt_append (pe_fld (pv 0) rfl) (pa_cons (pe_bm0 PySem.F.plainAttrs_list PySem.F.slot_list_pop PySem.F.type_list_pop mt_pop (pe_fld (pv 0) rfl)) pa_nil)))
    (pss_cons (ps_fld (pv 0) (pe_lc (own := [("row", 1)]) (g := gName 1) rfl sc_Web_back.nd (pi_list (pe_fld (pv 0) rfl)) (blkOk_by (own := [("row", 1)]) (N := ["self", "row"]) (sc := defScope s_Web_back) (by decide +kernel)) (fun _ _ _ _ _ => (pg_name (i := 1) sc_Web_back.nd rfl (Or.inl rfl))) (fun _ _ _ _ _ => (pts_one (pt_cmpR op_ne (pe_ix (r := rIxT K) ix_tup (pv 1) pe_int (fun _ _ => rfl)) (pe_glob (v := .str "put") (by rfl) T.m_PUT.choose_spec ⟨_, rfl⟩) (nomark _)))) (fun _ _ _ _ _ => (pv 1))) rfl)
    (pss_cons (ps_fld (pv 0) (pe_mm T.c_Web.c (c_Web__ranks_beyond T) hr (by omega) (pv 0) (pa_cons pe_dnewN (pa_cons (pe_fld (pv 0) rfl) pa_nil))) rfl)
    (pss_one (ps_expr (pe_mm0 T.c_Web.c (c_Web__settle T L) hr (by omega) (pv 0)))))))), ?_⟩
  have cl := T.c_Web.c
  obtain ⟨dv, hd, dd⟩ := W.de
  obtain ⟨uv, hu, uu⟩ := W.un
  obtain ⟨tv, ht, tt⟩ := W.te
  obtain ⟨fr, hr', rk⟩ := W.ra
  obtain ⟨dx, g, l, gv, b3, b4, b5, L7, hp, hg, rg, lk⟩ := W.ob
  have tmd := W.tmd
  have dl := dd.len
  have ul := uu.len
  refine ⟨_, rfl, p, _, dx, _, _, rfl, hp, cl, T.n_Web_deeds, rfl, _, _, rfl, .inl ⟨dv, SqL.of hd, rfl⟩, rfl, _, rfl, ?_⟩
  rcases last_split ds with rfl | ⟨ds', r0, rfl⟩
  · have : dv.length = 0 := dl
    rw [this]
    exact absurd rfl qe
  obtain ⟨dv', x, rfl, dd', ax⟩ := dd.split
  rw [decide_eq_false (by rw [List.length_append, List.length_singleton]; intro z; injection z with z; omega)]
  refine iteF ?_
  rw [List.length_append, List.length_singleton] at d900
  have dl' := dd'.len
  have pd : p ≠ d := ne_of hp hd fun e => nomatch e
  have pu : p ≠ u := ne_of hp hu fun e => nomatch e
  have rd : r ≠ d := ne_of hr' hd fun e => nomatch e
  have ru : r ≠ u := ne_of hr' hu fun e => nomatch e
  refine ⟨_, rfl, p, _, dx, _, _, rfl, hp, cl, T.n_Web_undone, rfl, .inl ⟨rfl, _, SqL.of hu⟩, _, rfl, p, _, dx, _, _, rfl, hp, cl, T.n_Web_deeds, rfl, .inl ⟨rfl, _, SqL.of hd⟩, d, _, x, rfl, rfl, hd, last_at _ _, ?_⟩
  rw [List.dropLast_concat]
  obtain ⟨H1, e1⟩ : ∃ H1, H1 = L2.upd H d (.lst dv') := ⟨_, rfl⟩
  have bd1 : Bt d H H1 := by rw [e1]; exact Bt.upd _
  have hd1 : H1 d = some (.lst dv') := by rw [e1]; exact upd_same
  erw [← e1]
  have hu1 := bd1 _ _ hu W.du.symm
  have hp1 := bd1 _ _ hp pd
  refine ⟨u, uv, x, rfl, rfl, hu1, small1000 (by omega), ?_⟩
  obtain ⟨H2, e2⟩ : ∃ H2, H2 = L2.upd H1 u (.lst (uv ++ [x])) := ⟨_, rfl⟩
  have bu2 : Bt u H1 H2 := by rw [e2]; exact Bt.upd _
  have hu2 : H2 u = some (.lst (uv ++ [x])) := by rw [e2]; exact upd_same
  erw [← e2]
  have hd2 := bu2 _ _ hd1 W.du
  have hp2 := bu2 _ _ hp1 pu
  have tk2 : TK H H2 := fun a xs z => bu2 _ _ (bd1 _ _ z (ne_of z hd fun e => nomatch e)) (ne_of (bd1 _ _ z (ne_of z hd fun e => nomatch e)) hu1 fun e => nomatch e)
  have k02 : ∀ b o, H b = some o → b ≠ d → b ≠ u → H2 b = some o := fun b o e n1 n2 => bu2 _ _ (bd1 _ _ e n1) n2
  have tmd' : ∀ x ∈ ds', ∀ t ∈ x.2, tm t := fun x m => tmd x (List.mem_append.mpr (.inl m))
  have okd' : ∀ x ∈ ds', deedOk x := fun x m => W.okd x (List.mem_append.mpr (.inl m))
  have ok0 : deedOk r0 := W.okd r0 (List.mem_append.mpr (.inr (List.mem_singleton.mpr rfl)))
  have dd2 : A2 (DeedAt H2) dv' ds' := deeds_tk tk2 dd' tmd'
  have uu2 : A2 (DeedAt H2) (uv ++ [x]) (us ++ [r0]) := (deeds_tk tk2 uu fun x m => (W.oku x m).1).app (.cons (ax.tk ok0.1 tk2) .nil)
  -- the tellings
  refine ⟨_, rfl, p, _, dx, _, _, rfl, hp2, cl, T.n_Web_deeds, rfl, d, rfl, ⟨_, SqL.of hd2⟩, fun t' ht' => ?_⟩
  refine lc_it (walk_list (xs := dv')) (fun i H' => Same H2 H' ∧ ∃ acc, H' t' = some (.lst acc) ∧ A2 (DeedAt H') acc (tellsD (ds'.take i))) ⟨same_new ht' _, [], upd_same, .nil⟩ (fun i H' _ h' => SqL.of (h'.1 _ _ hd2)) (fun i v H' H'' hi h' yy => ?_) (fun H3 h3 => ?_)
  · obtain ⟨s3, acc, hacc, dacc⟩ := h'
    obtain ⟨rfl, hv⟩ := yy
    obtain ⟨r1, er, a, vs, rfl, ha, rvs⟩ := dd2.get hv
    have ok1 := okd' r1 (List.mem_of_getElem? er)
    have ha3 := s3 _ _ ha
    have al := dacc.len
    have tl1 : (tellsD (ds'.take i)).length ≤ (ds'.take i).length := List.length_filter_le _ _
    rw [List.length_take] at tl1
    have takeE : tellsD (ds'.take (i + 1)) = tellsD (ds'.take i) ++ (if telling r1 then [r1] else []) := by
      rw [List.take_add_one, er]
      exact tells_app _ _
    refine ⟨rfl, _, rfl, a, _, 0, .str r1.1, rfl, rfl, SqT.of ha3, atI_nat (j := 0) rfl, rfl, _, rfl, ?_⟩
    rw [telE]
    cases ct : telling r1 with
    | true =>
      have w4 := Wk.lst_upd hacc (acc ++ [.ref a])
      refine (if_pos rfl).mpr ⟨_, rfl, acc, hacc, small1000 (by omega), Same.mut s3 ht', _, upd_same, ?_⟩
      rw [takeE, ct, if_pos rfl]
      exact (dacc.imp fun _ _ x => x.wk w4).app (.cons ⟨a, vs, rfl, w4.tup _ _ ha3, (rvs.wk (Wk.same s3)).wk w4⟩ .nil)
    | false =>
      refine (if_neg (by decide)).mpr ⟨s3, acc, hacc, ?_⟩
      rw [takeE, ct, if_neg (by decide), List.append_nil]
      exact dacc
  obtain ⟨s3, tv', ht3, tt3⟩ := h3
  have dl2 := dd2.len
  rw [dl2, List.take_length] at tt3
  have hp3 := s3 _ _ hp2
  refine ⟨_, rfl, p, _, dx, _, rfl, hp3, cl, T.n_Web_tellings, by show 6 < 1000; decide, ?_⟩
  obtain ⟨H4, e4⟩ : ∃ H4, H4 = L2.upd H3 p (.ins (clsA mg "Web") dx (putF "tellings" (.ref t') (wbF d u t r g l))) := ⟨_, rfl⟩
  have bp4 : Bt p H3 H4 := by rw [e4]; exact Bt.upd _
  have hp4 : H4 p = some (.ins (clsA mg "Web") dx (wbF d u t' r g l)) := by rw [e4]; exact upd_same
  erw [← e4]
  have b24 : Bt p H2 H4 := fun b o e n => bp4 _ _ (s3 _ _ e) n
  have dp : d ≠ p := pd.symm
  have up : u ≠ p := pu.symm
  have hd4 := b24 _ _ hd2 dp
  have hu4 := b24 _ _ hu2 up
  have tp : t' ≠ p := ne_of ht3 hp3 fun e => nomatch e
  have ht4 := bp4 _ _ ht3 tp
  have tk24 : TK H2 H4 := fun a xs z => b24 _ _ z (ne_of z hp2 fun e => nomatch e)
  have tk34 : TK H3 H4 := fun a xs z => bp4 _ _ z (ne_of z hp3 fun e => nomatch e)
  have tmT : ∀ x ∈ tellsD ds', ∀ t ∈ x.2, tm t := fun x m => tmd' x (List.mem_filter.mp m).1
  have dd4 := deeds_tk tk24 dd2 tmd'
  have S' := terms_tms tmd'
  have few60 : (termsD ds').length ≤ 60 := Nat.le_trans (terms_pre ds' r0) W.few
  have tel40 : (tellsD ds').length ≤ 40 := Nat.le_trans (tells_pre ds' r0) W.tel
  -- the ranks
  refine ⟨_, rfl, p, dx, _, rfl, hp4, rfl, fun k0 hk0 => ?_⟩
  have s5 := same_new (o := DN w k0 []) hk0
  refine ⟨_, rfl, p, _, dx, _, _, rfl, s5 _ _ hp4, cl, T.n_Web_deeds, rfl, p, k0, d, [], [], dv', ds', termsD ds', rfl, upd_same, .nil, s5 _ _ hd4, deeds_tk (fun a xs z => s5 _ _ z) dd4 tmd', fun x m => (okd' x m).ok, tms_nil, by omega, fun x m => (terms_mem tmd').mpr m, fun r' H6 fr' s6 hr6 hf6 rk6 => ?_⟩
  have s46 := s5.trans s6
  have hp6 := s46 _ _ hp4
  refine ⟨_, rfl, p, _, dx, _, rfl, hp6, cl, T.n_Web_ranks, by show 6 < 1000; decide, ?_⟩
  obtain ⟨H7, e7⟩ : ∃ H7, H7 = L2.upd H6 p (.ins (clsA mg "Web") dx (putF "ranks" (.ref r') (wbF d u t' r g l))) := ⟨_, rfl⟩
  have bp7 : Bt p H6 H7 := by rw [e7]; exact Bt.upd _
  have hp7 : H7 p = some (.ins (clsA mg "Web") dx (wbF d u t' r' g l)) := by rw [e7]; exact upd_same
  erw [← e7]
  have b47 : Bt p H4 H7 := fun b o e n => bp7 _ _ (s46 _ _ e) n
  have b27 : Bt p H2 H7 := fun b o e n => b47 _ _ (b24 _ _ e n) n
  have hd7 := b47 _ _ hd4 dp
  have hu7 := b47 _ _ hu4 up
  have ht7 := b47 _ _ ht4 tp
  have rp : r' ≠ p := ne_of hf6 hp6 fun e => nomatch e
  have hr7 := bp7 _ _ hf6 rp
  have tk27 : TK H2 H7 := fun a xs z => b27 _ _ z (ne_of z hp2 fun e => nomatch e)
  have tk47 : TK H4 H7 := fun a xs z => b47 _ _ z (ne_of z hp4 fun e => nomatch e)
  have tk67 : TK H6 H7 := fun a xs z => bp7 _ _ z (ne_of z hp6 fun e => nomatch e)
  have rk7 : A2 (RankAt H7) fr' (termsD ds') := ranks_tk tk67 rk6
  have tt7 := deeds_tk tk47 (deeds_tk tk34 tt3 tmT) tmT
  have tb7 : LamX.Tabs (tabsW tP) H7 := tabs_keep tb fun b o e t => b27 _ _ (k02 b o e (ne_of e hd t.lst) (ne_of e hu t.lst)) (ne_of (k02 b o e (ne_of e hd t.lst) (ne_of e hu t.lst)) hp2 t.ins)
  have nt0 : H t' = none := by
    cases z : H t' with
    | none => rfl
    | some o =>
      have td : t' ≠ d := fun e => by rw [e] at ht'; rw [hd2] at ht'; cases ht'
      have tu : t' ≠ u := fun e => by rw [e] at ht'; rw [hu2] at ht'; cases ht'
      rw [k02 _ _ z td tu] at ht'
      cases ht'
  have nr4 : H4 r' = none := Same.none s5 hr6
  have nr2 : H2 r' = none := by
    cases z : H2 r' with
    | none => rfl
    | some o =>
      rw [b24 _ _ z rp] at nr4
      cases nr4
  have nr0 : H r' = none := by
    cases z : H r' with
    | none => rfl
    | some o =>
      have td : r' ≠ d := fun e => by rw [e] at nr2; rw [hd2] at nr2; cases nr2
      have tu : r' ≠ u := fun e => by rw [e] at nr2; rw [hu2] at nr2; cases nr2
      rw [k02 _ _ z td tu] at nr2
      cases nr2
  have fr07 : FrM [p, d, u, t, r] [p, d, u, t', r'] H H7 := fun b o e _ n => by
    simp only [List.mem_cons, List.not_mem_nil, or_false, not_or] at n ⊢
    exact ⟨⟨n.1, n.2.1, n.2.2.1, ne_of_none e nt0, ne_of_none e nr0⟩, b27 _ _ (k02 b o e n.2.1 n.2.2.1) n.1⟩
  have dt' : d ≠ t' := ne_of_none hd2 ht'
  have ut' : u ≠ t' := ne_of_none hu2 ht'
  refine ⟨_, rfl, p, dx, _, rfl, hp7, rfl, ?_⟩
  obtain ⟨nn7, nd7⟩ := Mok.fr fr07 W.nn W.nd
  refine ⟨p, dx, d, u, t', r', g, l, N, dv', uv ++ [x], tv', tellsD ds', fr', termsD ds', rfl, nn7, nd7, tb7, hp7, hd7, hu7, ht7, tt7, fun x m => (okd' x (List.mem_filter.mp m).1).two (List.mem_filter.mp m).2, by omega, fun x m z hz => terms_arg tmd' (List.mem_filter.mp m).1 hz, hr7, rk7, S', by omega, fun H9 g' l' c3 c4 c5 gv' L9 k9 tb9 hp9 hg9 rg9 lk9 => ?_⟩
  have tk9 : TK H7 H9 := fun a' xs z => k9 _ _ z (fun _ e => nomatch e) (ne_of z hp7 fun e => nomatch e)
  refine q ds' r0 H9 t' r' rfl (fr07.trans fun b o e t n => ⟨n, k9 b o e t fun z => n (by rw [z]; exact List.mem_cons_self)⟩) tb9 ⟨⟨_, k9 _ _ hd7 (fun _ e => nomatch e) dp, deeds_tk tk9 (deeds_tk tk27 dd2 tmd') tmd'⟩, ⟨_, k9 _ _ hu7 (fun _ e => nomatch e) up, deeds_tk tk9 (deeds_tk tk27 uu2 fun x m => ?_) fun x m => ?_⟩, ⟨tv', k9 _ _ ht7 (fun _ e => nomatch e) tp, deeds_tk tk9 tt7 tmT⟩,
    ⟨fr', k9 _ _ hr7 (fun _ e => nomatch e) rp, ranks_tk tk9 rk7⟩, ⟨dx, g', l', gv', c3, c4, c5, L9, hp9, hg9, rg9, lk9⟩, W.du, dt', ut', okd', fun x m => ?_, few60, tel40, (fun b m => let ⟨o, e, t, n⟩ := nn7 b m; ⟨o, k9 _ _ e t (fun z => nd7 b m (by rw [z]; exact List.mem_cons_self)), t, n⟩), nd7⟩
  · exact (List.mem_append.mp m).elim (fun m => (W.oku x m).1) fun m => by rw [List.mem_singleton.mp m]; exact ok0.1
  · exact (List.mem_append.mp m).elim (fun m => (W.oku x m).1) fun m => by rw [List.mem_singleton.mp m]; exact ok0.1
  · exact (List.mem_append.mp m).elim (fun m => W.oku x m) fun m => by rw [List.mem_singleton.mp m]; exact ok0
end
end Kt
namespace Kt
open PySem PySem.Spec PyProof.Rows L2
/-! ### a web stands while a law draws and notes -/
theorem A2.take {α β : Type} {R : α → β → Prop} : ∀ {xs : List α} {ys : List β} (n : Nat), A2 R xs ys → A2 R (xs.take n) (ys.take n)
  | _, _, 0, _ => by rw [List.take_zero, List.take_zero]; exact .nil
  | _, _, _ + 1, .nil => by rw [List.take_nil, List.take_nil]; exact .nil
  | _, _, n + 1, .cons a t => .cons a (A2.take n t)
theorem A2.drop {α β : Type} {R : α → β → Prop} : ∀ {xs : List α} {ys : List β} (n : Nat), A2 R xs ys → A2 R (xs.drop n) (ys.drop n)
  | _, _, 0, h => h
  | _, _, _ + 1, .nil => .nil
  | _, _, n + 1, .cons _ t => A2.drop n t
theorem DUA.tabs {K : PySem.W.Frag} {d c : Addr} {H H' : Hp} {T : List (Addr × Str)} (dr : DrA K d c H) (u : DUA K d c H H') (t : LamX.Tabs T H) : LamX.Tabs T H' := by
  obtain ⟨ns, a, r, k, m, h1, _⟩ := dr
  exact tabs_keep t fun b o e q => u.old b o (ne_of e h1 fun z => by
    subst z
    rcases q with ⟨_, z⟩ | ⟨_, _, z⟩ <;> cases z) e
theorem WebAt.noDK {w : World} {CW CL : Addr} {N : List Addr} {H : Hp} {p d u t r : Addr} {ds us : List Deed} (W : WebAt w CW CL N H p d u t r ds us) {b : Addr} {kvs : List (Key × V)} (e : H b = some (.dK kvs)) : b ∉ [p, d, u, t, r] := fun m => by
  obtain ⟨dv, hd, _⟩ := W.de
  obtain ⟨uv, hu, _⟩ := W.un
  obtain ⟨tv, ht, _⟩ := W.te
  obtain ⟨fr, hr, _⟩ := W.ra
  obtain ⟨dx, g, l, _, _, _, _, _, hp, _⟩ := W.ob
  simp only [List.mem_cons, List.not_mem_nil, or_false] at m
  rcases m with q | q | q | q | q <;> subst q
  · exact nomatch (Option.some.inj (e.symm.trans hp))
  · exact nomatch (Option.some.inj (e.symm.trans hd))
  · exact nomatch (Option.some.inj (e.symm.trans hu))
  · exact nomatch (Option.some.inj (e.symm.trans ht))
  · exact nomatch (Option.some.inj (e.symm.trans hr))
theorem DrA.fr {K : PySem.W.Frag} {d c : Addr} {H H' : Hp} {M M' : List Addr} (dr : DrA K d c H) (f : FrM M M' H H') (nd : d ∉ M) (far : c ∉ M ∨ ∀ H : Hp, ∃ ns : List Int, SqL K H c (ns.map V.int)) : DrA K d c H' ∧ (c ∉ M' ∨ ∀ H : Hp, ∃ ns : List Int, SqL K H c (ns.map V.int)) := by
  obtain ⟨ns, a, r, k, m, h1, h2, h3⟩ := dr
  have hd := (f _ _ h1 (fun _ e => nomatch e) nd).2
  rcases far with nc | fr
  · rcases h2 with (h | ⟨o, h⟩) | h
    · obtain ⟨n1, e1⟩ := f _ _ h (fun _ e => nomatch e) nc
      exact ⟨⟨ns, a, r, k, m, hd, .inl (.inl e1), h3⟩, .inl n1⟩
    · obtain ⟨n1, e1⟩ := f _ _ h (fun _ e => nomatch e) nc
      exact ⟨⟨ns, a, r, k, m, hd, .inl (.inr ⟨o, e1⟩), h3⟩, .inl n1⟩
    · exact ⟨⟨ns, a, r, k, m, hd, .inr h, h3⟩, .inr fun _ => ⟨ns, .inr h⟩⟩
  · obtain ⟨ns', h⟩ := fr H'
    exact ⟨⟨ns', a, r, k, m, hd, h, h3⟩, .inr fr⟩
theorem WebAt.keep2 {w : World} {CW CL : Addr} {N : List Addr} {H H' : Hp} {p d u t r : Addr} {ds us : List Deed} (W : WebAt w CW CL N H p d u t r ds us) (k : ∀ b o, H b = some o → noTb o → (∀ kvs, o ≠ .dK kvs) → H' b = some o) (nk : ∀ b ∈ N, ∀ kvs, H b ≠ some (.dK kvs)) : WebAt w CW CL N H' p d u t r ds us := by
  have tk : TK H H' := fun a xs z => k _ _ z (fun _ e => nomatch e) fun _ e => nomatch e
  have mv : ∀ {b : Addr} {o : HO}, hidW ([p, d, u, t, r] ++ N) H b = some o → (∀ kvs, o ≠ .dK kvs) → hidW ([p, d, u, t, r] ++ N) H' b = some o := fun e n => by
    obtain ⟨e1, nm, nt⟩ := hidW_out e
    exact hidW_in (k _ _ e1 nt n) nm nt
  have tkh : TK (hidW ([p, d, u, t, r] ++ N) H) (hidW ([p, d, u, t, r] ++ N) H') := fun a xs z => mv z fun _ e => nomatch e
  obtain ⟨dv, hd, d2⟩ := W.de
  obtain ⟨uv, hu, u2⟩ := W.un
  obtain ⟨tv, ht, t2⟩ := W.te
  obtain ⟨fr, hr, r2⟩ := W.ra
  obtain ⟨dx, g, l, gv, b3, b4, b5, L, hp, hg, rg, ⟨ex, a1, a2, e⟩, hl, ⟨fr2, s⟩, hdu, low⟩ := W.ob
  have S := terms_tms W.tmd
  exact ⟨⟨dv, k _ _ hd (fun _ e => nomatch e) (fun _ e => nomatch e), deeds_tk tk d2 W.tmd⟩, ⟨uv, k _ _ hu (fun _ e => nomatch e) (fun _ e => nomatch e), deeds_tk tk u2 fun r m => (W.oku r m).1⟩, ⟨tv, k _ _ ht (fun _ e => nomatch e) (fun _ e => nomatch e), deeds_tk tk t2 fun r m => W.tmd r (List.mem_filter.mp m).1⟩,
    ⟨fr, k _ _ hr (fun _ e => nomatch e) (fun _ e => nomatch e), ranks_tk tk r2⟩, ⟨dx, g, l, gv, b3, b4, b5, L, k _ _ hp (fun _ e => nomatch e) (fun _ e => nomatch e), mv hg (fun _ e => nomatch e), reps_tk tkh (risT_tms S).tm rg,
      ⟨ex, a1, a2, mv e (fun _ e => nomatch e)⟩, mv hl (fun _ e => nomatch e), ⟨fr2, ⟨mv s.dict (fun _ e => nomatch e), s.keys.wk tkh, s.few, s.all, s.from_⟩⟩, mv hdu (fun _ e => nomatch e), low⟩, W.du, W.dt, W.ut, W.okd, W.oku, W.few, W.tel, (fun b m => let ⟨o, e, t, n⟩ := W.nn b m; ⟨o, k _ _ e t (fun kvs z => nk b m kvs (by rw [e, z])), t, n⟩), W.nd⟩
end Kt
namespace Kt
open PySem PySem.Spec PyProof.Rows L2
/-! ### _law_pairs, _law_stood, _law_gone, _law_agains -/
theorem few_tells (ds : List Deed) : (tellsD ds).length ≤ ds.length := List.length_filter_le _ _
theorem exm_own {K : PySem.W.Frag} {mg : Str → Option Value} {x : Str} {C : Addr} (e : ExG K mg x C) : PySem.W.exmOne K (.ref C) (.ref C) = some true := by
  unfold PySem.W.exmOne
  rw [e.b]
  show (if ((PySem.W.clsIn K C).isSome && PySem.W.typeIn K (.ref C) == some (.type "type")) = true then PySem.W.subIn K (.ref C) (.ref C) else none) = _
  rw [show (PySem.W.clsIn K C).isSome = true from e.i, e.t, e.s]
  rfl
theorem likes_app (l : List Deed) (r : Deed) : likesT (l ++ [r]) = likesT l ++ (if r.1 = "like" then [pairOf r] else []) := by
  unfold likesT
  rw [numd_app, List.map_append]
  split
  · rfl
  · rfl
theorem likes_tells (ds : List Deed) : likesT (tellsD ds) = likesT ds := by
  have go : ∀ (n m : Nat) (l : List Deed), (numd "like" n (tellsD l)).map (fun p => pairOf p.2) = (numd "like" m l).map fun p => pairOf p.2 := by
    intro n m l
    induction l generalizing n m with
    | nil => rfl
    | cons r l ih =>
      unfold tellsD
      rw [List.filter_cons]
      by_cases e : r.1 = ("like" : Str)
      · have t : telling r = true := by
          unfold telling
          rw [e]
          decide
        rw [if_pos t]
        unfold numd
        rw [if_pos e, if_pos e, List.map_cons, List.map_cons]
        exact congrArg _ (ih (n + 1) (m + 1))
      · cases t : telling r with
        | true =>
          rw [if_pos rfl]
          unfold numd
          rw [if_neg e, if_neg e]
          exact ih (n + 1) (m + 1)
        | false =>
          rw [if_neg (by decide)]
          show _ = (if r.1 = ("like" : Str) then _ else numd "like" (m + 1) l).map _
          rw [if_neg e]
          exact ih n (m + 1)
  exact go 1 1 ds
def argsD (ds : List Deed) : List Th := ds.flatMap (·.2)
theorem args_tm {ds : List Deed} (h : ∀ r ∈ ds, ∀ t ∈ r.2, tm t) : ∀ t ∈ argsD ds, tm t := fun t m => by
  obtain ⟨r, mr, mt⟩ := List.mem_flatMap.mp m
  exact h r mr t mt
theorem stood_mem {ds : List Deed} (h : ∀ r ∈ ds, ∀ t ∈ r.2, tm t) {s : Th} : s ∈ everyT (argsD ds) ↔ s ∈ termsD ds := by
  rw [every_mem (args_tm h), terms_mem h]
  constructor
  · rintro ⟨t, mt, ms⟩
    obtain ⟨r, mr, mt⟩ := List.mem_flatMap.mp mt
    exact List.mem_flatMap.mpr ⟨r, mr, List.mem_flatMap.mpr ⟨t, mt, ms⟩⟩
  · intro m
    obtain ⟨r, mr, m⟩ := List.mem_flatMap.mp m
    obtain ⟨t, mt, ms⟩ := List.mem_flatMap.mp m
    exact ⟨t, List.mem_flatMap.mpr ⟨r, mr, mt⟩, ms⟩
theorem stood_len {ds : List Deed} (h : ∀ r ∈ ds, ∀ t ∈ r.2, tm t) : (everyT (argsD ds)).length = (termsD ds).length :=
  Nat.le_antisymm (few_in (every_tms (args_tm h)).nd fun s m => (stood_mem h).mp m) (few_in (terms_tms h).nd fun s m => (stood_mem h).mpr m)
def sp_lpairs : Sp := fun vs H Q _ => ∃ (q0 : Addr) (dv : List V) (ds : List Deed), vs = [.ref q0] ∧ H q0 = some (.lst dv) ∧ A2 (DeedAt H) dv ds ∧ (∀ r ∈ ds, deedOk r) ∧ ds.length ≤ 900 ∧
  ∀ p H' lv, Same H H' → H p = none → H' p = some (.lst lv) → TPairsL H' lv (likesT ds) → Q (.ref p) H'
def sp_lstood : Sp := fun vs H Q _ => ∃ (q0 : Addr) (dv : List V) (ds : List Deed) (G : List Th), vs = [.ref q0] ∧ H q0 = some (.lst dv) ∧ A2 (DeedAt H) dv ds ∧ (∀ r ∈ ds, deedOk r) ∧ ds.length ≤ 100 ∧ G.length ≤ 400 ∧ (∀ r ∈ ds, ∀ t ∈ r.2, ∀ s ∈ allW t, s ∈ G) ∧
  ∀ p H' ys, Same H H' → H p = none → H' p = some (.lst ys) → RepL H' ys (everyT (argsD ds)) → Q (.ref p) H'
theorem WebAt.draw {w : World} {K : PySem.W.Frag} {CW CL dd c : Addr} {H H' : Hp} {p d u t r : Addr} {ds us : List Deed} (W : WebAt w CW CL [] H p d u t r ds us) (dr : DrA K dd c H) (U : DUA K dd c H H') : WebAt w CW CL [] H' p d u t r ds us := by
  obtain ⟨ns, a, r', k, m, h1, _⟩ := id dr
  exact W.keep2 (fun b o e _ n => U.old b o (fun z => by subst z; rw [h1] at e; cases e; exact n _ rfl) e) (fun b m => absurd m List.not_mem_nil)
theorem WebAt.sm {w : World} {CW CL : Addr} {N : List Addr} {H H' : Hp} {p d u t r : Addr} {ds us : List Deed} (W : WebAt w CW CL N H p d u t r ds us) (s : Same H H') (nk : ∀ b ∈ N, ∀ kvs, H b ≠ some (.dK kvs)) : WebAt w CW CL N H' p d u t r ds us :=
  W.keep2 (fun b o e _ _ => s b o e) nk
def sp_gone (K : PySem.W.Frag) (CW CL tP : Addr) (w : World) : Sp := fun vs H Q _ => ∃ (dd c p d u t r : Addr) (ds : List Deed), vs = [.ref dd, .ref p] ∧ DrA K dd c H ∧ WebAt w CW CL [] H p d u t r ds [] ∧ LamX.Tabs (tabsW tP) H ∧ ds.length ≤ 100 ∧
  ∀ (m : Nat) (H1 H' : Hp) (t' r' : Addr) (us' : List Deed), DUA K dd c H H1 → WebAt w CW CL [] H1 p d u t r ds [] → FrM [p, d, u, t, r] [p, d, u, t', r'] H1 H' → LamX.Tabs (tabsW tP) H' → m ≤ ds.length → us'.length = m → (∀ x ∈ us', x ∈ ds) → WebAt w CW CL [] H' p d u t' r' (ds.take (ds.length - m)) us' → Q (.int (m : Nat)) H'
def sp_agains (CW CL tP : Addr) (w : World) : Sp := fun vs H Q _ => ∃ (p d u t r : Addr) (ds us : List Deed), vs = [.ref p] ∧ WebAt w CW CL [] H p d u t r ds us ∧ LamX.Tabs (tabsW tP) H ∧ ds.length + us.length ≤ 40 ∧ (∀ l : List Deed, (∀ x ∈ l, x ∈ ds ∨ x ∈ us) → (termsD l).length ≤ 60) ∧
  ∀ H', Q (.int (us.length : Nat)) H'
section
variable {P : Program} {w : World} {K : PySem.W.Frag} {mg : Str → Option Value} {base : Heap} {cA tP : Addr}
theorem c__law_pairs (T : Tx K mg) : Cl P w K mg base CX0 1 "_law_pairs" ["_law_deeds_here"] sp_lpairs := by
  refine Cl.mk0 T.d__law_pairs sc__law_pairs (fun vs H Q E h => ?_) (fun f cdv A outer s H vs Q E hr h => ?_)
  · obtain ⟨q0, dv, ds, rfl, _⟩ := h
    rfl
  obtain ⟨q0, dv, ds, rfl, hq, dd, ok, d900, q⟩ := h
  refine ⟨_, (pss_one (ps_ret (pe_lc (own := [("_law_row", 1)]) (g := gName 1) rfl sc__law_pairs.nd (pi_list (pv 0)) (blkOk_by (own := [("_law_row", 1)]) (N := ["_law_deeds_here", "_law_row"]) (sc := defScope s__law_pairs) (by decide +kernel)) (fun _ _ _ _ _ => (pg_name (i := 1) sc__law_pairs.nd rfl (Or.inl rfl))) (fun _ _ _ _ _ => (pts_one (pt_cmpR op_eq (pe_ix (r := rIxT K) ix_tup (pv 1) pe_int (fun _ _ => rfl)) pe_str (nomark _)))) (fun _ _ _ _ _ => (pe_slice (r := rSlA K) sl_tupA (pv 1) (po_some pe_int) po_no))))), ?_⟩
  have dl := dd.len
  refine ⟨_, rfl, q0, rfl, ⟨_, SqL.of hq⟩, fun L hL => ?_⟩
  refine lc_it (walk_list (xs := dv)) (fun i H' => Same H H' ∧ ∃ lv, H' L = some (.lst lv) ∧ TPairsL H' lv (likesT (ds.take i)) ∧ lv.length ≤ i) ⟨same_new hL _, [], upd_same, .nil, Nat.le_refl _⟩ (fun i H' _ h' => SqL.of (h'.1 _ _ hq)) (fun i v H' H'' hi h' yy => ?_) (fun H1 h1 => ?_)
  · obtain ⟨s1, lv, hlv, tp, few⟩ := h'
    obtain ⟨rfl, hv⟩ := yy
    obtain ⟨r, er, a, vs, rfl, ha, rvs⟩ := dd.get hv
    have okr := ok r (List.mem_of_getElem? er)
    have ha1 := s1 _ _ ha
    have vl := rvs.length
    have al := okr.ok.2
    refine ⟨rfl, _, rfl, a, _, 0, .str r.1, rfl, rfl, SqT.of ha1, atI_nat (j := 0) rfl, rfl, _, rfl, ?_⟩
    have tk : likesT (ds.take (i + 1)) = likesT (ds.take i) ++ (if r.1 = "like" then [pairOf r] else []) := by
      rw [List.take_add_one, er]
      exact likes_app _ _
    by_cases e : r.1 = ("like" : Str)
    · rw [decide_eq_true (p := V.str r.1 = V.str "like") (by rw [e])]
      have l2 : r.2.length = 2 := by
        rcases okr.2 with ⟨z, _⟩ | ⟨_, z⟩
        · rw [e] at z
          exact absurd z (by decide)
        · exact z
      refine (if_pos rfl).mpr ⟨_, rfl, 1, rfl, sl_lo (K := K) 1 ha1 (by omega) (by rw [List.length_cons]; omega) fun p1 hp1 => ?_⟩
      have s2 := same_new (o := .tup ((V.str r.1 :: vs).drop 1)) hp1
      have hlv2 := s2 _ _ hlv
      have w3 := Wk.lst_upd hlv2 (lv ++ [.ref p1])
      refine ⟨lv, hlv2, small1000 (by omega), Same.mut (s1.trans s2) hL, _, upd_same, ?_, by rw [List.length_append]; exact Nat.succ_le_succ few⟩
      rw [tk, if_pos e]
      refine ((tp.wk (Wk.same s2)).wk w3).app (.cons ?_ .nil)
      obtain ⟨rn, ra⟩ := r
      dsimp only at l2 rvs
      match ra, vs, l2, vl, rvs with
      | [x, y], [vx, vy], _, _, .cons r1 (.cons r2 .nil) =>
        exact ⟨p1, vx, vy, rfl, w3.tup _ _ upd_same, (r1.wk (Wk.same (s1.trans s2))).wk w3, (r2.wk (Wk.same (s1.trans s2))).wk w3⟩
    · rw [decide_eq_false (p := V.str r.1 = V.str "like") fun z => e (by injection z)]
      refine (if_neg (by decide)).mpr ⟨s1, lv, hlv, ?_, by omega⟩
      rw [tk, if_neg e, List.append_nil]
      exact tp
  · obtain ⟨s1, lv, hlv, tp, few⟩ := h1
    rw [dl, List.take_length] at tp
    exact q L H1 lv s1 hL hlv tp
theorem c__law_stood (T : Tx K mg) : Cl P w K mg base CX0 9 "_law_stood" ["_law_deeds_here"] sp_lstood := by
  refine Cl.mk0 T.d__law_stood sc__law_stood (fun vs H Q E h => ?_) (fun f cdv A outer s H vs Q E hr h => ?_)
  · obtain ⟨q0, dv, ds, G, rfl, _⟩ := h
    rfl
  obtain ⟨q0, dv, ds, G, rfl, hq, dd, ok, d100, g200, inG, q⟩ := h
  refine ⟨_, (pss_cons (ps_set (i := 1) sc__law_stood.nd rfl (Or.inl rfl) (pe_lst pa_nil))
    (pss_cons (ps_for PassesOwn.never rfl (pi_list (pv 0)) (pg_name (i := 2) sc__law_stood.nd rfl (Or.inl rfl))
      (pss_one (ps_set (i := 1) sc__law_stood.nd rfl (Or.inl rfl) (pe_op op_cat (pv 1) (pe_callTy call_list_of (by rfl) T.z_list (by decide +kernel) (pa_cons (pe_slice sl_tupA (pv 2) (po_some pe_int) po_no) pa_nil))))))
    (pss_one (ps_ret (pe_cl (c__law_every T) hr (by omega) rfl (pa_cons (pv 1) pa_nil)))))), ?_⟩
  have dl := dd.len
  have tmd : ∀ r ∈ ds, ∀ t ∈ r.2, tm t := fun r m => (ok r m).1
  refine ⟨Nat.zero_le _, fun l0 hl0 => ?_⟩
  have s0 := same_new (o := .lst []) hl0
  refine ⟨_, rfl, q0, rfl, ⟨_, SqL.of (s0 _ _ hq)⟩, for_it (walk_list (xs := dv)) (fun i σ H' => ∃ y2 l xs, σ = [some (.ref q0), some (.ref l), y2] ∧ Same H H' ∧ H l = none ∧ H' l = some (.lst xs) ∧ RepL H' xs (argsD (ds.take i)) ∧ xs.length ≤ 2 * i)
    ⟨_, l0, [], rfl, s0, hl0, upd_same, .nil, Nat.le_refl _⟩ (fun i σ H' _ h' => ?_) (fun i v σ H' H'' hi h' yy => ?_) (fun σ H' h' => ?_)⟩
  · obtain ⟨_, _, _, _, s1, _⟩ := h'
    exact SqL.of (s1 _ _ hq)
  · obtain ⟨y2, l, xs, rfl, s1, nl, hl, rx, few⟩ := h'
    obtain ⟨rfl, hv⟩ := yy
    obtain ⟨r, er, a, vs, rfl, ha, rvs⟩ := dd.get hv
    have okr := ok r (List.mem_of_getElem? er)
    have al := okr.ok.2
    have vl := rvs.length
    have ha1 := s1 _ _ ha
    refine ⟨_, rfl, _, rfl, 1, rfl, sl_lo (K := K) 1 ha1 (by omega) (by rw [List.length_cons]; omega) fun p1 hp1 => ⟨p1, _, rfl, .inr (SqT.of upd_same), fun l5 hl5 => ?_⟩⟩
    have s5 := same_new (o := .tup ((V.str r.1 :: vs).drop 1)) hp1
    have s6 := same_new (o := .lst ((V.str r.1 :: vs).drop 1)) hl5
    have s56 := s5.trans s6
    refine ⟨l, l5, xs, vs, rfl, rfl, s56 _ _ hl, upd_same, Nat.le_of_lt (small1000 (by omega)), fun l6 hl6 => ?_⟩
    have s7 := same_new (o := .lst (xs ++ vs)) hl6
    have s57 := s56.trans s7
    refine ⟨_, l6, xs ++ vs, rfl, s1.trans s57, Same.none (s1.trans s56) hl6, upd_same, ?_, by rw [List.length_append]; omega⟩
    have e : argsD (ds.take (i + 1)) = argsD (ds.take i) ++ r.2 := by
      unfold argsD
      rw [List.take_add_one, er, List.flatMap_append]
      show _ ++ (r.2 ++ []) = _
      rw [List.append_nil]
    rw [e]
    exact (rx.wk (Wk.same s57)).append (rvs.wk (Wk.same (s1.trans s57)))
  · obtain ⟨y2, l, xs, rfl, s1, nl, hl, rx, few⟩ := h'
    rw [dl, List.take_length] at rx
    refine ⟨_, rfl, l, xs, argsD ds, G, rfl, hl, rx, args_tm tmd, g200, fun t m s ms => ?_, fun p H2 ys s2 np hp ry => q p H2 ys (s1.trans s2) (Same.none s1 np) hp ry⟩
    obtain ⟨r, mr, mt⟩ := List.mem_flatMap.mp m
    exact inG r mr t mt s ms
theorem c__law_gone (T : Tx K mg) (L : TxL K mg base cA tP) : Cl P w K mg base CX0 24 "_law_gone" ["_law_state", "_law_web_here"] (sp_gone K (clsA mg "Web") (clsA mg "Likeness") tP w) := by
  refine Cl.mk0 T.d__law_gone sc__law_gone (fun vs H Q E h => ?_) (fun f cdv A outer s H vs Q E hr h => ?_)
  · obtain ⟨dd, c, p, d, u, t, r, ds, rfl, _⟩ := h
    rfl
  obtain ⟨dd, c, p, d, u, t, r, ds, rfl, dr, W, tb, d100, q⟩ := h
  refine ⟨_, (pss_cons (ps_set (i := 2) sc__law_gone.nd rfl (Or.inl rfl) (pe_callB (call_min2 rfl) (by rfl) T.z_min (by decide +kernel) (pa_cons (pe_ix ix_list (pe_lst (pa_cons pe_int (pa_cons pe_int (pa_cons pe_int (pa_cons pe_int (pa_cons pe_int pa_nil)))))) (pe_cl (c__law_take T) hr (by omega) rfl (pa_cons (pv 0) (pa_cons pe_int pa_nil))) (fun _ _ => rfl)) (pa_cons (pe_callB call_len (by rfl) T.z_len (by decide +kernel) (pa_cons (pe_mm0 T.c_Web.c (c_Web_log T) hr (by omega) (pv 1)) pa_nil)) pa_nil))))
    (pss_cons (ps_for PassesOwn.never rfl (pi_range1 (by rfl) T.z_range (pa_cons (pv 2) pa_nil)) (pg_name (i := 3) sc__law_gone.nd rfl (Or.inl rfl))
      (pss_one (ps_expr (pe_mm0 T.c_Web.c (c_Web_back T L) hr (by omega) (pv 1)))))
    (pss_one (ps_ret (pv 2))))), ?_⟩
  refine ⟨by show 5 ≤ sizeLine; decide, fun p0 hp0 => ⟨_, rfl, dd, c, 5, rfl, by decide, by decide, dr.same (same_new hp0 _), fun k H1 k0 k1 U1 => ?_⟩⟩
  obtain ⟨j, rfl, j5⟩ := nat_of k0 k1
  have U : DUA K dd c H H1 := (DUA.same dr (same_new hp0 _)).trans U1
  have W1 := W.draw dr U
  obtain ⟨mm, em⟩ : ∃ mm : Nat, ([V.int 0, V.int 0, V.int 1, V.int 2, V.int 3] : List V)[j]? = some (V.int (mm : Nat)) := by
    match j, j5 with
    | 0, _ => exact ⟨0, rfl⟩
    | 1, _ => exact ⟨0, rfl⟩
    | 2, _ => exact ⟨1, rfl⟩
    | 3, _ => exact ⟨2, rfl⟩
    | 4, _ => exact ⟨3, rfl⟩
  have hp1 := U1.lst (dr.same (same_new hp0 _)) (upd_same (H := H) (a := p0) (o := .lst [V.int 0, V.int 0, V.int 1, V.int 2, V.int 3]))
  obtain ⟨dx, g, l, _, _, _, _, _, hp, _⟩ := W1.ob
  refine ⟨p0, _, j, _, rfl, rfl, SqL.of hp1, atI_nat em, _, rfl, p, dx, _, rfl, hp, rfl, p, d, u, t, r, [], ds, [], rfl, W1, fun q1 H2 dv s2 nq1 hq1 dd2 => ?_⟩
  have dl := dd2.len
  refine ⟨_, _, rfl, .inl ⟨_, SqL.of hq1, rfl⟩, _, _, rfl, ?_⟩
  have W2 := W1.sm s2 (fun b m => absurd m List.not_mem_nil)
  have U2 : DUA K dd c H H2 := U.then s2
  have tb2 : LamX.Tabs (tabsW tP) H2 := (U.tabs dr tb).ext s2
  have emin : (if (dv.length : Int) < ((mm : Nat) : Int) then (dv.length : Int) else ((mm : Nat) : Int)) = ((min mm ds.length : Nat) : Int) := by
    split <;> omega
  rw [emin]
  obtain ⟨n, en⟩ : ∃ n, n = min mm ds.length := ⟨_, rfl⟩
  rw [← en]
  have nle : n ≤ ds.length := by omega
  refine ⟨_, rfl, _, rfl, by omega, by omega, for_it (walk_range (lo := 0)) (fun i σ H' => ∃ y3 t' r' us', σ = [some (.ref dd), some (.ref p), some (.int (n : Nat)), y3] ∧ i ≤ n ∧ FrM [p, d, u, t, r] [p, d, u, t', r'] H2 H' ∧ LamX.Tabs (tabsW tP) H' ∧ us'.length = i ∧ (∀ x ∈ us', x ∈ ds) ∧ WebAt w (clsA mg "Web") (clsA mg "Likeness") [] H' p d u t' r' (ds.take (ds.length - i)) us')
    ⟨_, t, r, [], rfl, Nat.zero_le _, FrM.refl _ _, tb2, rfl, (fun _ m => absurd m List.not_mem_nil), by rw [Nat.sub_zero, List.take_length]; exact W2⟩ (fun _ _ _ _ _ => trivial) (fun i v σ H' H'' hi h' yy => ?_) (fun σ H' h' => ?_)⟩
  · obtain ⟨rfl, rfl⟩ := yy
    obtain ⟨y3, t', r', us', rfl, hin, f, tb', ul, uin, W'⟩ := h'
    obtain ⟨dx', g', l', _, _, _, _, _, hp', _⟩ := W'.ob
    have hi' : i < n := by omega
    have tl : (ds.take (ds.length - i)).length = ds.length - i := by
      rw [List.length_take]
      omega
    refine ⟨_, rfl, p, dx', _, rfl, hp', rfl, p, d, u, t', r', [], ds.take (ds.length - i), us', rfl, W', tb', by omega, by omega, fun z => ?_, fun ds' r0 H3 t2 r2 e f3 tb3 W3 => ?_⟩
    · rw [z] at tl
      rw [List.length_nil] at tl
      omega
    · have el := congrArg List.length e
      rw [tl, List.length_append, List.length_singleton] at el
      have eds : ds' = ds.take (ds.length - (i + 1)) := by
        have : (ds.take (ds.length - i)).take (ds.length - (i + 1)) = (ds' ++ [r0]).take (ds.length - (i + 1)) := by rw [e]
        rw [List.take_take, show min (ds.length - (i + 1)) (ds.length - i) = ds.length - (i + 1) by omega, List.take_append_of_le_length (by omega), show ds'.take (ds.length - (i + 1)) = ds' from List.take_of_length_le (by omega)] at this
        exact this.symm
      rw [eds] at W3
      refine ⟨_, t2, r2, us' ++ [r0], rfl, by omega, f.trans f3, tb3, by rw [List.length_append, ul]; rfl, fun x m => ?_, W3⟩
      rcases List.mem_append.mp m with m | m
      · exact uin x m
      · rw [List.mem_singleton.mp m]
        have : r0 ∈ ds.take (ds.length - i) := by
          rw [e]
          exact List.mem_append.mpr (.inr (List.mem_singleton.mpr rfl))
        exact List.mem_of_mem_take this
  · obtain ⟨y3, t', r', us', rfl, hin, f, tb', ul, uin, W'⟩ := h'
    have en2 : (n : Int).toNat = n := Int.toNat_natCast n
    exact ⟨_, rfl, q n H2 H' t' r' us' U2 W2 f tb' nle ul uin W'⟩
theorem c__law_agains (T : Tx K mg) (L : TxL K mg base cA tP) (Z : ProgF P) : Cl P w K mg base CX0 24 "_law_agains" ["_law_web_here"] (sp_agains (clsA mg "Web") (clsA mg "Likeness") tP w) := by
  have cx_Web_again := fun (T : Tx K mg) (L : TxL K mg base cA tP) => cx_Web_again (P := P) (w := w) T L
  refine Cl.mk0 T.d__law_agains sc__law_agains (fun vs H Q E h => ?_) (fun f cdv A outer s H vs Q E hr h => ?_)
  · obtain ⟨p, d, u, t, r, ds, us, rfl, _⟩ := h
    rfl
  obtain ⟨p, d, u, t, r, ds, us, rfl, W, tb, few, bd, q⟩ := h
  refine ⟨_, (pss_cons (ps_par3 (i := 1) (j := 2) (l := 3) (by rfl) sc__law_agains.nd rfl rfl rfl (by decide) (by decide) (by decide) rfl rfl rfl (pa_cons (pe_mm0 T.c_Web.c (c_Web_twin T) hr (by omega) (pv 0)) (pa_cons pe_int (pa_cons pe_bl pa_nil))) (by rfl))
    (Evl.pss_cut (ps_while PassesOwn.never (pt_val (pv 3))
      (pss_one (ps_try_only (Wout := fun _ _ _ _ => False) rfl rfl ⟨rfl, by decide, .inl T.e_NoDeed.g⟩ takes0 (fun W pn xe tk _ => (pss_cons (ps_expr (pe_mmS0 T.c_Web.c (cx_Web_again T L Z) hr (by omega) (fun σ => passAt tk σ) (pv 1)))
        (pss_one (ps_set (i := 2) sc__law_agains.nd rfl (Or.inl rfl) (pe_op op_add (pv 2) pe_int)))))
        (fun a oe cls d pn _ _ => (pss_one (ps_set (i := 3) sc__law_agains.nd rfl (Or.inl rfl) pe_bl))))))
    (pss_one (ps_ret (pv 2))))), ?_⟩
  obtain ⟨dx, g, l, _, _, _, _, _, hp, _⟩ := W.ob
  refine ⟨_, rfl, p, dx, _, rfl, hp, rfl, p, d, u, t, r, [], ds, us, rfl, W, fun H1 p1 d1 u1 t1 r1 s1 n1 n2 n3 n4 n5 W1 => ⟨_, _, _, rfl, ?_⟩⟩
  have tb1 := tb.ext s1
  refine ⟨fun σ' H' => σ' = [some (.ref p), some (.ref p1), some (.int (us.length : Nat)), some (.bl false)], ?_, fun σ2 H2 e2 => ?_⟩
  · refine ⟨fun m σ' H' => ∃ (k : Nat) (b : Bool) (ds' us' : List Deed), σ' = [some (.ref p), some (.ref p1), some (.int (k : Nat)), some (.bl b)] ∧ k + us'.length = us.length ∧ ((b = false ∧ us' = [] ∧ m = 0) ∨ (b = true ∧ m = us'.length + 1 ∧ LamX.Tabs (tabsW tP) H' ∧ ds'.length = ds.length + k ∧ (∀ x ∈ ds', x ∈ ds ∨ x ∈ us) ∧ (∀ x ∈ us', x ∈ us) ∧ WebAt w (clsA mg "Web") (clsA mg "Likeness") ([] ++ [p, d, u, t, r]) H' p1 d1 u1 t1 r1 ds' us')),
      ⟨us.length + 1, 0, true, ds, us, rfl, by omega, .inr ⟨rfl, rfl, tb1, rfl, fun x m => .inl m, fun x m => m, W1⟩⟩, fun m σ' H' hW => ?_⟩
    obtain ⟨k, b, ds', us', rfl, ek, hW⟩ := hW
    rcases hW with ⟨rfl, rfl, rfl⟩ | ⟨rfl, rfl, tb', dl, din, uin, W'⟩
    · refine ⟨_, rfl, _, rfl, iteF ?_⟩
      have : k = us.length := by
        rw [List.length_nil] at ek
        omega
      rw [this]
    · obtain ⟨dx', g', l', _, _, _, _, _, hp', _⟩ := W'.ob
      refine ⟨_, rfl, _, rfl, iteT ?_⟩
      refine ⟨fun σ2 H2 => ∃ (k2 : Nat) (b : Bool) (ds2 us2 : List Deed), σ2 = [some (.ref p), some (.ref p1), some (.int (k2 : Nat)), some (.bl b)] ∧ k2 + us2.length = us.length ∧ ((b = false ∧ us2 = []) ∨ (b = true ∧ us2.length < us'.length ∧ LamX.Tabs (tabsW tP) H2 ∧ ds2.length = ds.length + k2 ∧ (∀ x ∈ ds2, x ∈ ds ∨ x ∈ us) ∧ (∀ x ∈ us2, x ∈ us) ∧ WebAt w (clsA mg "Web") (clsA mg "Likeness") ([] ++ [p, d, u, t, r]) H2 p1 d1 u1 t1 r1 ds2 us2)), fun σ2 H2 h2 => ?_, ?_⟩
      · obtain ⟨k2, b, ds2, us2, rfl, ek2, h2⟩ := h2
        rcases h2 with ⟨rfl, rfl⟩ | ⟨rfl, lt, rest⟩
        · exact ⟨0, Nat.succ_pos _, k2, false, ds2, [], rfl, ek2, .inl ⟨rfl, rfl, rfl⟩⟩
        · exact ⟨us2.length + 1, by omega, k2, true, ds2, us2, rfl, ek2, .inr ⟨rfl, rfl, rest⟩⟩
      refine ⟨_, rfl, p1, dx', _, rfl, hp', rfl, p1, d1, u1, t1, r1, _, ds', us', rfl, W', tb', by omega, fun e dd y H3 s3 hdd => ?_, fun us2 r0 e => ?_, fun us2 r0 H3 e f3 tb3 W3 => ?_⟩
      · subst e
        exact ⟨true, exm_own T.e_NoDeed, fun _ a ha => ⟨k, false, ds', [], rfl, ek, .inl ⟨rfl, rfl⟩⟩, fun z => nomatch z⟩
      · have m0 : r0 ∈ us := uin r0 (by rw [e]; exact List.mem_append.mpr (.inr (List.mem_singleton.mpr rfl)))
        have tl := few_tells (ds' ++ [r0])
        rw [List.length_append, List.length_singleton] at tl
        have el := congrArg List.length e
        rw [List.length_append, List.length_singleton] at el
        refine ⟨bd _ fun x m => ?_, by omega⟩
        rcases List.mem_append.mp m with m | m
        · exact din x m
        · rw [List.mem_singleton.mp m]
          exact .inr m0
      · have m0 : r0 ∈ us := uin r0 (by rw [e]; exact List.mem_append.mpr (.inr (List.mem_singleton.mpr rfl)))
        have el := congrArg List.length e
        rw [List.length_append, List.length_singleton] at el
        refine ⟨_, rfl, _, _, rfl, rfl, k + 1, true, ds' ++ [r0], us2, rfl, by omega, .inr ⟨rfl, by omega, tb3, by rw [List.length_append, List.length_singleton]; omega, fun x m => ?_, fun x m => uin x (by rw [e]; exact List.mem_append.mpr (.inl m)), W3⟩⟩
        rcases List.mem_append.mp m with m | m
        · exact din x m
        · rw [List.mem_singleton.mp m]
          exact .inr m0
  · subst e2
    exact ⟨_, rfl, q H2⟩
end
end Kt
namespace Kt
open PySem PySem.Spec PyProof.Rows L2
/-! ### k11's law -/
theorem few_terms {D ds : List Deed} {G : List Th} (okD : ∀ r ∈ D, deedOk r) (inG : ∀ r ∈ D, ∀ t ∈ r.2, ∀ s ∈ allW t, s ∈ G) (sub : ∀ r ∈ ds, r ∈ D) : (termsD ds).length ≤ G.length := by
  have tmd : ∀ x ∈ ds, ∀ t ∈ x.2, tm t := fun x m => (okD x (sub x m)).1
  refine few_in (terms_tms tmd).nd fun s m => ?_
  obtain ⟨x, mx, m⟩ := List.mem_flatMap.mp ((terms_mem tmd).mp m)
  obtain ⟨t, mt, m⟩ := List.mem_flatMap.mp m
  exact inG x (sub x mx) t mt s m
theorem neBl (a b : Bool) : (!decide (V.bl a = V.bl b)) = (a != b) := by cases a <;> cases b <;> rfl
theorem inE (a b : Int) : decide (V.int a = V.int b) = decide (a = b) := by
  by_cases e : a = b
  · rw [e, decide_eq_true rfl, decide_eq_true rfl]
  · rw [decide_eq_false e, decide_eq_false fun z => e (by injection z)]
theorem reps_take {H : Hp} : ∀ {vs : List V} {ts : List Th} (n : Nat), RepL H vs ts → RepL H (vs.take n) (ts.take n)
  | _, _, 0, _ => by rw [List.take_zero, List.take_zero]; exact .nil
  | _, _, _ + 1, .nil => by rw [List.take_nil, List.take_nil]; exact .nil
  | _, _, n + 1, .cons a t => .cons a (reps_take n t)
theorem reps_drop {H : Hp} : ∀ {vs : List V} {ts : List Th} (n : Nat), RepL H vs ts → RepL H (vs.drop n) (ts.drop n)
  | _, _, 0, h => h
  | _, _, _ + 1, .nil => .nil
  | _, _, n + 1, .cons _ t => reps_drop n t
theorem reps_cut {H : Hp} {vs : List V} {ts : List Th} (h : RepL H vs ts) (lo hi : Option Int) : ∃ us, RepL H (cutV vs lo hi) us ∧ (∀ t ∈ us, t ∈ ts) ∧ us.length ≤ ts.length := by
  unfold cutV
  exact ⟨_, reps_take _ (reps_drop _ h), fun t m => List.mem_of_mem_drop (List.mem_of_mem_take m), by rw [List.length_take, List.length_drop]; omega⟩
theorem few_all : ∀ l : List Th, (∀ t ∈ l, tm t) → (l.flatMap allW).length ≤ 30 * l.length := by
  intro l h
  induction l with
  | nil => exact Nat.le_refl _
  | cons t l ih =>
    rw [List.flatMap_cons, List.length_append, List.length_cons]
    have := ih fun u m => h u (List.mem_cons_of_mem _ m)
    have := allW_30 (h t List.mem_cons_self)
    omega
def sp_law11 (K : PySem.W.Frag) (tP : Addr) : Sp := fun vs H Q _ => ∃ (a : Addr) (ns : List Int), vs = [.ref a] ∧ SqL K H a (ns.map V.int) ∧ ns.length ≤ 63 ∧ LamX.Tabs (tabsW tP) H ∧ ∀ H', Q (.bl true) H'
section
variable {P : Program} {w : World} {K : PySem.W.Frag} {mg : Str → Option Value} {base : Heap} {cA tP : Addr}
theorem c_law (T : Tx K mg) (L : TxL K mg base cA tP) (Z : ProgF P) : Cl P w K mg base CX0 27 "law" ["_law_script"] (sp_law11 K tP) := by
  have c__law_agains := fun (T : Tx K mg) (L : TxL K mg base cA tP) => c__law_agains (P := P) (w := w) T L
  refine Cl.mk0 T.d_law sc_law (fun vs H Q E h => ?_) (fun f cdv A outer s H vs Q E hr h => ?_)
  · obtain ⟨a, ns, rfl, _⟩ := h
    rfl
  obtain ⟨c, ns, rfl, hs, n63, tb, q⟩ := h
  refine ⟨_, (pss_cons (ps_set (i := 1) sc_law.nd rfl (Or.inr rfl) (pe_cl (c__law_begun T) hr (by omega) rfl (pa_cons (pv 0) pa_nil)))
    (pss_cons (ps_set (i := 2) sc_law.nd rfl (Or.inr rfl) (pe_cl (c__law_heads T) hr (by omega) rfl (pa_cons (pv 1) pa_nil)))
    (pss_cons (ps_set (i := 3) sc_law.nd rfl (Or.inl rfl) (pe_cl (c__law_deeds T) hr (by omega) rfl (pa_cons (pv 1) (pa_cons (pv 2) (pa_cons (pe_lst (pa_cons pe_str (pa_cons pe_str (pa_cons pe_str pa_nil)))) (pa_cons (pe_cl (c__law_take T) hr (by omega) rfl (pa_cons (pv 1) (pa_cons pe_int pa_nil))) (pa_cons pe_int pa_nil)))))))
    (pss_cons (ps_set (i := 4) sc_law.nd rfl (Or.inl rfl) (pe_cl (c__law_web T L) hr (by omega) rfl (pa_cons (pv 3) pa_nil)))
    (pss_cons (ps_set (i := 5) sc_law.nd rfl (Or.inl rfl) (pe_cl (c__law_gone T L) hr (by omega) rfl (pa_cons (pv 1) (pa_cons (pv 4) pa_nil))))
    (pss_cons (ps_set (i := 3) sc_law.nd rfl (Or.inl rfl) (pe_mm0 T.c_Web.c (c_Web_log T) hr (by omega) (pv 4)))
    (pss_cons (ps_set (i := 6) sc_law.nd rfl (Or.inr rfl) (pe_cl (c__law_stood T) hr (by omega) rfl (pa_cons (pv 3) pa_nil)))
    (pss_cons (ps_set (i := 7) sc_law.nd rfl (Or.inl rfl) (pe_op op_cat (pe_lc (own := [("_law_k", 12)]) (g := gName 12) (tt := tYes) rfl sc_law.nd (pi_range1 (by rfl) T.z_range (pa_cons pe_int pa_nil)) (blkOk_by (own := [("_law_k", 12)]) (N := ["_law_script", "_law_state", "_law_heads_here", "_law_deeds_here", "_law_web_here", "_law_gone_here", "_law_stood_here", "_law_asked", "_law_numbers", "_law_x", "_law_y", "_law_found", "_law_k"]) (sc := defScope s_law) (by decide +kernel)) (fun _ _ _ _ _ => (pg_name (i := 12) sc_law.nd rfl (Or.inl rfl))) (fun _ _ _ _ _ => pts_nil) (fun _ _ _ _ _ => (pe_cl (c__law_any T) hr (by omega) rfl (pa_cons (pv 1) (pa_cons (pv 2) (pa_cons (pv 6) pa_nil)))))) (pe_lc (own := [("_law_k", 12)]) (g := gName 12) (tt := tYes) rfl sc_law.nd (pi_range1 (by rfl) T.z_range (pa_cons pe_int pa_nil)) (blkOk_by (own := [("_law_k", 12)]) (N := ["_law_script", "_law_state", "_law_heads_here", "_law_deeds_here", "_law_web_here", "_law_gone_here", "_law_stood_here", "_law_asked", "_law_numbers", "_law_x", "_law_y", "_law_found", "_law_k"]) (sc := defScope s_law) (by decide +kernel)) (fun _ _ _ _ _ => (pg_name (i := 12) sc_law.nd rfl (Or.inl rfl))) (fun _ _ _ _ _ => pts_nil) (fun _ _ _ _ _ => (pe_cl (c__law_any T) hr (by omega) rfl (pa_cons (pv 1) (pa_cons (pv 2) (pa_cons (pe_lst pa_nil) pa_nil))))))))
    (pss_cons (ps_set (i := 7) sc_law.nd rfl (Or.inl rfl) (pe_op op_cat (pe_slice sl_list (pv 7) po_no (po_some (pe_op op_add pe_int (pe_cl (c__law_take T) hr (by omega) rfl (pa_cons (pv 1) (pa_cons pe_int pa_nil)))))) (pe_slice sl_list (pv 7) (po_some pe_int) (po_some (pe_op op_add pe_int (pe_cl (c__law_take T) hr (by omega) rfl (pa_cons (pv 1) (pa_cons pe_int pa_nil))))))))
    (pss_cons (ps_set (i := 8) sc_law.nd rfl (Or.inl rfl) (pe_cl (c__law_closed T) hr (by omega) rfl (pa_cons (pe_cl (c__law_every T) hr (by omega) rfl (pa_cons (pe_op op_cat (pv 6) (pv 7)) pa_nil)) (pa_cons (pe_cl (c__law_pairs T) hr (by omega) rfl (pa_cons (pv 3) pa_nil)) pa_nil))))
    (pss_cons (ps_for PassesOwn.never rfl (pi_list (pv 7)) (pg_name (i := 9) sc_law.nd rfl (Or.inl rfl))
      (pss_one (ps_for PassesOwn.never rfl (pi_list (pv 7)) (pg_name (i := 10) sc_law.nd rfl (Or.inl rfl))
        (pss_cons (ps_set (i := 11) sc_law.nd rfl (Or.inl rfl) (pe_mmK T.c_Web.c (k_Web_alike_sw T) hr (by omega) (pv 4) (pk_cons (pv 10) (pk_cons (pv 9) pk_nil)) vals_swp len_swp))
        (pss_one (ps_if (PW.pt (pw_or (pt_not (pt_val (pe_callB (id := "isinstance") (r := rIsi K) call_isi (by rfl) T.z_isinstance (by decide +kernel) (pa_cons (pv 11) (pa_cons (pe_bltn (v := .ty "bool") (u := .type "bool") (by rfl) T.z_bool (by decide +kernel) rfl) pa_nil))))) (pw_or1 (pt_cmpR op_ne (pv 11) (pe_cmpR op_eq (pe_ngetW (w := w) (hu_n hr) (pv 8) (pv 9) (fun _ _ => rfl)) (pe_ngetW (w := w) (hu_n hr) (pv 8) (pv 10) (fun _ _ => rfl)) (nomark _)) (nomark _)))))
          (pss_one (ps_ret pe_bl))
          pss_nil))))))
    (pss_one (ps_ret (pe_and (pe_cmpR op_eq (pe_callB (id := "len") (call_lenO (c_Web___len__ T) hr (by omega)) (by rfl) T.z_len (by decide +kernel) (pa_cons (pv 4) pa_nil)) (pe_callB call_len (by rfl) T.z_len (by decide +kernel) (pa_cons (pv 6) pa_nil)) (nomark _)) (pe_and (pe_cmpR (op_eqD hr.units) (pe_mm0 T.c_Web.c (c_Web_log T) hr (by omega) (pv 4)) (pv 3) (nomark _)) (pe_one (pe_cmpR op_eq (pe_cl (c__law_agains T L Z) hr (by omega) rfl (pa_cons (pv 4) pa_nil)) (pv 5) (nomark _)))))))))))))))))), ?_⟩
  have l1 : 1 ≤ sizeLine := by decide
  refine ⟨_, rfl, c, ns, rfl, hs, fun d H1 s1 hd dr1 => ?_⟩
  have tb1 := tb.ext s1
  refine ⟨_, rfl, d, c, rfl, dr1, fun h rs hds H2 u2 hn hh hat okh few fst => ?_⟩
  have hh2 : HsA H2 h rs hds := ⟨hh, hat, okh, by omega, fst⟩
  have tb2 := u2.tabs dr1 tb1
  -- the deeds
  refine ⟨_, rfl, _, rfl, by show 3 ≤ sizeLine; decide, fun wl hwl => ⟨_, rfl, d, c, 10, rfl, by decide, by decide, u2.dr.same (same_new hwl _), fun k H3 k0 k1 U3 => ?_⟩⟩
  obtain ⟨j, rfl, j10⟩ := nat_of k0 k1
  have sw := same_new (o := .lst [V.str "like", .str "like", .str "put"]) hwl
  have dr2 := u2.dr.same sw
  have hh3 := (hh2.same sw).du dr2 U3
  have hw3 := U3.lst dr2 (upd_same (H := H2) (a := wl) (o := .lst [V.str "like", .str "like", .str "put"]))
  have tb3 := U3.tabs dr2 (tb2.ext sw)
  refine ⟨d, c, h, wl, rs, hds, ["like", "like", "put"], j, 16, rfl, U3.dr, hh3, hw3, fun z m => ?_, by decide, by decide, by omega, by decide, fun q0 H5 dv D ts u5 nq hq dd okd dl S tl inT => ?_⟩
  · simp only [List.mem_cons, List.not_mem_nil, or_false] at m
    rcases m with e | e | e
    · exact .inr (.inl e)
    · exact .inr (.inl e)
    · exact .inl e
  have okD : ∀ r ∈ D, deedOk r := fun r m => (okd r m).1
  have inG : ∀ r ∈ D, ∀ t ∈ r.2, ∀ s ∈ allW t, s ∈ ts := fun r m t mt s ms => allW_of S.closed t ((okd r m).1.1 t mt) (inT r m t mt) s ms
  have tb5 := u5.tabs U3.dr tb3
  have hh5 := hh3.du U3.dr u5
  have dr5 := u5.dr
  have bd60 : ∀ l : List Deed, (∀ r ∈ l, r ∈ D) → (termsD l).length ≤ 60 := fun l m => by
    have := few_terms (ds := l) okD inG m
    omega
  have tel := few_tells D
  -- the web
  refine ⟨_, rfl, q0, dv, D, rfl, tb5, hq, dd, okD, by omega, bd60 D fun _ m => m, by omega, fun H6 x wd wu wt wr f6 tb6 W6 => ?_⟩
  have s56 : ∀ b o, H5 b = some o → noTb o → H6 b = some o := fun b o e t => (f6 b o e t List.not_mem_nil).2
  obtain ⟨dr6, far6⟩ := dr5.fr f6 List.not_mem_nil (.inl List.not_mem_nil)
  have tk6 : TK H5 H6 := fun a xs z => s56 _ _ z fun _ e => nomatch e
  have hh6 : HsA H6 h rs hds := ⟨s56 _ _ hh5.hl (fun _ e => nomatch e), hh5.hat.wk fun _ _ q => s56 _ _ q (fun _ e => nomatch e), hh5.ok, hh5.few, hh5.fst⟩
  have nh : h ∉ [x, wd, wu, wt, wr] := (f6 h _ hh5.hl (fun _ e => nomatch e) List.not_mem_nil).1
  -- some are taken back
  refine ⟨_, rfl, _, rfl, d, c, x, wd, wu, wt, wr, D, rfl, dr6, W6, tb6, by omega, fun m H7 H8 t' r' us' U7 W7 f8 tb8 mle ul uin W8 => ?_⟩
  obtain ⟨E, eE⟩ : ∃ E, E = D.take (D.length - m) := ⟨_, rfl⟩
  rw [← eE] at W8
  have subE : ∀ r ∈ E, r ∈ D := fun r mr => by
    rw [eE] at mr
    exact List.mem_of_mem_take mr
  have lenE : E.length = D.length - m := by
    rw [eE, List.length_take]
    omega
  have okE : ∀ r ∈ E, deedOk r := fun r mr => okD r (subE r mr)
  have tmE : ∀ r ∈ E, ∀ t ∈ r.2, tm t := fun r mr => (okE r mr).1
  have nd7 : d ∉ [x, wd, wu, wt, wr] := by
    obtain ⟨_, _, _, _, _, h1, _⟩ := id U7.dr
    exact W7.noDK h1
  have far7 : c ∉ [x, wd, wu, wt, wr] ∨ ∀ H : Hp, ∃ ns : List Int, SqL K H c (ns.map V.int) := far6
  obtain ⟨dr8, _⟩ := U7.dr.fr f8 nd7 far7
  have hh7 := hh6.du dr6 U7
  have hh8 : HsA H8 h rs hds := ⟨(f8 _ _ hh7.hl (fun _ e => nomatch e) nh).2, hh7.hat.wk fun a xs q => f8.wk W7.mok a xs q, hh7.ok, hh7.few, hh7.fst⟩
  -- the log
  obtain ⟨dx8, g8, l8, _, _, _, _, _, hp8, _⟩ := W8.ob
  refine ⟨_, rfl, x, dx8, _, rfl, hp8, rfl, x, wd, wu, t', r', [], E, us', rfl, W8, fun q1 H9 dv1 s9 nq1 hq1 dd1 => ?_⟩
  have W9 := W8.sm s9 (fun b m => absurd m List.not_mem_nil)
  -- what stands
  refine ⟨_, rfl, q1, dv1, E, ts, rfl, hq1, dd1, okE, by omega, by omega, fun r mr => inG r (subE r mr), fun p6 H10 ys s10 np6 hp6 ry6 => ?_⟩
  have W10 := W9.sm s10 (fun b m => absurd m List.not_mem_nil)
  have dr10 := (dr8.same s9).same s10
  have hh10 := (hh8.same s9).same s10
  have tmS0 : ∀ t ∈ everyT (argsD E), tm t := (every_tms (args_tm tmE)).tm
  have lenS0 : (everyT (argsD E)).length ≤ 60 := by
    rw [stood_len tmE]
    exact bd60 E subE
  have ysl := ry6.length
  have dd10 := deeds_tk (fun a xs z => s10 _ _ z) dd1 tmE
  have hq10 := s10 _ _ hq1
  have tb10 := (tb8.ext s9).ext s10
  -- those asked
  refine ⟨_, rfl, by omega, by omega, fun LA hLA => lc_it (walk_range (lo := 0)) (fun i H' => DUA K d c H10 H' ∧ ∃ zs as, H' LA = some (.lst zs) ∧ RepL H' zs as ∧ (∀ a ∈ as, tm a) ∧ as.length = i)
    ⟨DUA.same dr10 (same_new hLA _), [], [], upd_same, .nil, (fun _ m => absurd m List.not_mem_nil), rfl⟩ (fun _ _ _ _ => trivial) (fun i v H' H'' hi h' yy => ?_) (fun H11 h11 => ?_)⟩
  · obtain ⟨rfl, rfl⟩ := yy
    obtain ⟨U, zs, as, hz, rz, ta, al⟩ := h'
    have zl := rz.length
    refine ⟨rfl, yesI ⟨_, rfl, _, rfl, _, rfl, d, c, h, p6, rs, hds, ys, everyT (argsD E), rfl, U.dr, hh10.du dr10 U, U.lst dr10 hp6, ry6.wk (U.wk dr10), tmS0, by omega, fun v t H3 U3 rv tv => ?_⟩⟩
    have hz3 := U3.lst U.dr hz
    have k3 := Wk.lst_upd hz3 (zs ++ [v])
    exact ⟨zs, hz3, small1000 (by omega), (U.trans U3).mut hLA (dr10.ne hLA) (dr10.far hLA) _, _, as ++ [t], upd_same, ((rz.wk (U3.wk U.dr)).wk k3).append (.cons (rv.wk k3) .nil), fun a m => (List.mem_append.mp m).elim (ta a) fun m => by rw [List.mem_singleton.mp m]; exact tv, by rw [List.length_append, al]; rfl⟩
  obtain ⟨UA, za, as1, hza, rza, ta1, al1⟩ := h11
  refine ⟨_, rfl, by omega, by omega, fun LB hLB => lc_it (walk_range (lo := 0)) (fun i H' => DUA K d c H11 H' ∧ ∃ zs as, H' LB = some (.lst zs) ∧ RepL H' zs as ∧ (∀ a ∈ as, tm a) ∧ as.length = i)
    ⟨DUA.same UA.dr (same_new hLB _), [], [], upd_same, .nil, (fun _ m => absurd m List.not_mem_nil), rfl⟩ (fun _ _ _ _ => trivial) (fun i v H' H'' hi h' yy => ?_) (fun H12 h12 => ?_)⟩
  · obtain ⟨rfl, rfl⟩ := yy
    obtain ⟨U, zs, as, hz, rz, ta, al⟩ := h'
    have zl := rz.length
    refine ⟨rfl, yesI ⟨_, rfl, _, rfl, Nat.zero_le _, fun e0 he0 => ?_⟩⟩
    have s0 := same_new (o := .lst []) he0
    refine ⟨d, c, h, e0, rs, hds, [], [], rfl, U.dr.same s0, ((hh10.du dr10 UA).du UA.dr U).same s0, upd_same, .nil, (fun _ m => absurd m List.not_mem_nil), Nat.zero_le _, fun v t H3 U3 rv tv => ?_⟩
    have U4 : DUA K d c _ H3 := (U.then s0).trans U3
    have hz3 := U3.lst (U.dr.same s0) (s0 _ _ hz)
    have k3 := Wk.lst_upd hz3 (zs ++ [v])
    exact ⟨zs, hz3, small1000 (by omega), U4.mut hLB (UA.dr.ne hLB) (UA.dr.far hLB) _, _, as ++ [t], upd_same, (((rz.wk (Wk.same s0)).wk (U3.wk (U.dr.same s0))).wk k3).append (.cons (rv.wk k3) .nil), fun a m => (List.mem_append.mp m).elim (ta a) fun m => by rw [List.mem_singleton.mp m]; exact tv, by rw [List.length_append, al]; rfl⟩
  obtain ⟨UB, zb, as2, hzb, rzb, ta2, al2⟩ := h12
  have hza12 := UB.lst UA.dr hza
  have rza12 := rza.wk (UB.wk UA.dr)
  have zal := rza12.length
  have zbl := rzb.length
  refine ⟨LA, LB, za, zb, rfl, rfl, hza12, hzb, Nat.le_of_lt (small1000 (by omega)), fun L8 hL8 => ?_⟩
  have s13 := same_new (o := .lst (za ++ zb)) hL8
  obtain ⟨H13, e13⟩ : ∃ H13, H13 = L2.upd H12 L8 (.lst (za ++ zb)) := ⟨_, rfl⟩
  have h813 : H13 L8 = some (.lst (za ++ zb)) := by rw [e13]; exact upd_same
  rw [← e13] at s13
  erw [← e13]
  have U13 : DUA K d c H10 H13 := (UA.trans UB).then s13
  have r813 : RepL H13 (za ++ zb) (as1 ++ as2) := (rza12.wk (Wk.same s13)).append (rzb.wk (Wk.same s13))
  have ta8 : ∀ a ∈ as1 ++ as2, tm a := fun a m => (List.mem_append.mp m).elim (ta1 a) (ta2 a)
  have al8 : (as1 ++ as2).length = 8 := by rw [List.length_append, al1, al2]; rfl
  -- some of these
  refine ⟨_, rfl, _, rfl, d, c, 8, rfl, by decide, by decide, U13.dr, fun k H14 k0 k1 U14 => ⟨_, _, rfl, rfl, _, rfl, L8, _, rfl, SqL.of (U14.lst U13.dr h813), fun p1 hp1 => ?_⟩⟩
  obtain ⟨c1, rc1, sc1, lc1⟩ := reps_cut (r813.wk (U14.wk U13.dr)) none (some (1 + k))
  have s15 := same_new (o := .lst (cutV (za ++ zb) none (some (1 + k)))) hp1
  have dr15 := U14.dr.same s15
  refine ⟨_, rfl, _, rfl, _, rfl, d, c, 4, rfl, by decide, by decide, dr15, fun k' H16 k0' k1' U16 => ⟨_, _, rfl, rfl, _, rfl, L8, _, rfl, SqL.of (U16.lst dr15 (s15 _ _ (U14.lst U13.dr h813))), fun p2 hp2 => ?_⟩⟩
  obtain ⟨c2, rc2, sc2, lc2⟩ := reps_cut (((r813.wk (U14.wk U13.dr)).wk (Wk.same s15)).wk (U16.wk dr15)) (some 4) (some (5 + k'))
  have s17 := same_new (o := .lst (cutV (za ++ zb) (some 4) (some (5 + k')))) hp2
  have hp1' := s17 _ _ (U16.lst dr15 (upd_same (H := H14) (a := p1) (o := .lst (cutV (za ++ zb) none (some (1 + k))))))
  have rc1' := ((rc1.wk (Wk.same s15)).wk (U16.wk dr15)).wk (Wk.same s17)
  have rc2' := rc2.wk (Wk.same s17)
  have c1l := rc1'.length
  have c2l := rc2'.length
  refine ⟨p1, p2, _, _, rfl, rfl, hp1', upd_same, Nat.le_of_lt (small1000 (by omega)), fun pa hpa => ?_⟩
  have s18 := same_new (o := .lst (cutV (za ++ zb) none (some (1 + k)) ++ cutV (za ++ zb) (some 4) (some (5 + k')))) hpa
  obtain ⟨H18, e18⟩ : ∃ H18, H18 = L2.upd (L2.upd H16 p2 (.lst (cutV (za ++ zb) (some 4) (some (5 + k'))))) pa (.lst (cutV (za ++ zb) none (some (1 + k)) ++ cutV (za ++ zb) (some 4) (some (5 + k')))) := ⟨_, rfl⟩
  rw [← e18] at s18
  have hpa18 : H18 pa = some (.lst (cutV (za ++ zb) none (some (1 + k)) ++ cutV (za ++ zb) (some 4) (some (5 + k')))) := by rw [e18]; exact upd_same
  erw [← e18]
  clear e18
  obtain ⟨qv, eqv⟩ : ∃ qv, qv = cutV (za ++ zb) none (some (1 + k)) ++ cutV (za ++ zb) (some 4) (some (5 + k')) := ⟨_, rfl⟩
  have rq : RepL H18 qv (c1 ++ c2) := by
    rw [eqv]
    exact (rc1'.wk (Wk.same s18)).append (rc2'.wk (Wk.same s18))
  rw [← eqv] at hpa18
  obtain ⟨as, eas⟩ : ∃ as, as = c1 ++ c2 := ⟨_, rfl⟩
  rw [← eas] at rq
  have asub : ∀ a ∈ as, a ∈ as1 ++ as2 := fun a m => by
    rw [eas] at m
    exact (List.mem_append.mp m).elim (sc1 a) (sc2 a)
  have asl : as.length ≤ 16 := by
    rw [eas, List.length_append]
    omega
  have tas : ∀ a ∈ as, tm a := fun a m => ta8 a (asub a m)
  have U18 : DUA K d c H10 H18 := ((((U13.trans U14).then s15).trans U16).then s17).then s18
  have W18 := W10.draw dr10 U18
  have hp618 := U18.lst dr10 hp6
  have ry18 := ry6.wk (U18.wk dr10)
  have hq18 := U18.lst dr10 hq10
  have dd18 := deeds_tk (U18.tk dr10) dd10 tmE
  have tb18 := U18.tabs dr10 tb10
  clear hp1' rc1' rc2'
  -- all of them
  refine ⟨_, rfl, _, rfl, p6, pa, ys, qv, rfl, rfl, hp618, hpa18, Nat.le_of_lt (small1000 (by have := rq.length; omega)), fun p7 hp7 => ?_⟩
  have s19 := same_new (o := .lst (ys ++ qv)) hp7
  have ts7 : ∀ t ∈ everyT (argsD E) ++ as, tm t := fun t m => (List.mem_append.mp m).elim (tmS0 t) (tas t)
  refine ⟨p7, ys ++ qv, everyT (argsD E) ++ as, ts ++ (as1 ++ as2).flatMap allW, rfl, upd_same, (ry18.wk (Wk.same s19)).append (rq.wk (Wk.same s19)), ts7, ?_, fun t m s ms => ?_, fun p8 H20 vs8 s20 np8 hp8 rv8 => ?_⟩
  · have := few_all (as1 ++ as2) ta8
    rw [List.length_append]
    omega
  · rcases List.mem_append.mp m with m | m
    · obtain ⟨t0, m0, ms0⟩ := (every_mem (args_tm tmE)).mp m
      obtain ⟨r0, mr0, mt0⟩ := List.mem_flatMap.mp m0
      exact List.mem_append.mpr (.inl (allW_of S.closed t (tmS0 t m) (inG r0 (subE r0 mr0) t0 mt0 t ms0) s ms))
    · exact List.mem_append.mpr (.inr (List.mem_flatMap.mpr ⟨t, asub t m, ms⟩))
  have s1820 := s19.trans s20
  have SS := every_tms ts7
  have lenSS : (everyT (everyT (argsD E) ++ as)).length ≤ 400 := by
    refine Nat.le_trans (few_in (G := ts ++ (as1 ++ as2).flatMap allW) SS.nd fun s m => ?_) ?_
    · obtain ⟨t, mt, ms⟩ := (every_mem ts7).mp m
      rcases List.mem_append.mp mt with mt | mt
      · obtain ⟨t0, m0, ms0⟩ := (every_mem (args_tm tmE)).mp mt
        obtain ⟨r0, mr0, mt0⟩ := List.mem_flatMap.mp m0
        exact List.mem_append.mpr (.inl (allW_of S.closed t (tmS0 t mt) (inG r0 (subE r0 mr0) t0 mt0 t ms0) s ms))
      · exact List.mem_append.mpr (.inr (List.mem_flatMap.mpr ⟨t, asub t mt, ms⟩))
    · have := few_all (as1 ++ as2) ta8
      rw [List.length_append]
      omega
  obtain ⟨SL, eSL⟩ : ∃ SL, SL = everyT (everyT (argsD E) ++ as) := ⟨_, rfl⟩
  rw [← eSL] at rv8 SS lenSS
  have inSL : ∀ t ∈ everyT (argsD E) ++ as, t ∈ SL := fun t m => by
    rw [eSL]
    exact (every_mem ts7).mpr ⟨t, m, allW_self t⟩
  -- the pairs
  refine ⟨_, rfl, q1, dv1, E, rfl, s1820 _ _ hq18, deeds_tk (fun a xs z => s1820 _ _ z) dd18 tmE, okE, by omega, fun p9 H21 lv s21 np9 hp9 tp9 => ?_⟩
  have two : ∀ r ∈ tellsD E, r.2.length = 2 := fun r m => (okE r (List.mem_filter.mp m).1).two (List.mem_filter.mp m).2
  have pinT : ∀ p ∈ likesT E, p.1 ∈ termsD E ∧ p.2 ∈ termsD E := by
    rw [← likes_tells]
    exact likes_in two fun r m t mt => terms_arg tmE (List.mem_filter.mp m).1 mt
  have inS : ∀ t ∈ termsD E, t ∈ SL := fun t m => inSL t (List.mem_append.mpr (.inl ((stood_mem tmE).mpr m)))
  have lkl : (likesT E).length ≤ 400 := by
    unfold likesT
    rw [List.length_map]
    have := numd_len "like" 1 E
    omega
  refine ⟨p8, p9, vs8, lv, SL, likesT E, rfl, s21 _ _ hp8, rv8.wk (Wk.same s21), SS, lenSS, hp9, tp9, lkl, fun p m => ⟨inS _ (pinT p m).1, inS _ (pinT p m).2⟩, fun Dn H22 M s22 nDn fnd low' => ?_⟩
  have s1822 : Same H18 H22 := (s1820.trans s21).trans s22
  have SR := risT_tms (terms_tms tmE)
  have subR : ∀ t ∈ risT (termsD E), t ∈ SL := fun t m => inS t (risT_mem.mp m)
  have pinR : ∀ p ∈ likesT E, p.1 ∈ risT (termsD E) ∧ p.2 ∈ risT (termsD E) := fun p m => ⟨risT_mem.mpr (pinT p m).1, risT_mem.mpr (pinT p m).2⟩
  have W22 := W18.sm s1822 (fun b m => absurd m List.not_mem_nil)
  have hpa22 := s1822 _ _ hpa18
  have rq22 := rq.wk (Wk.same s1822)
  have l15 := rq22.length
  -- each two of them
  refine ⟨_, rfl, pa, rfl, ⟨qv, SqL.of hpa22⟩, for_it (walk_list (xs := qv)) (fun i σ H' => ∃ y9 y10 y11, σ = [some (.ref c), some (.ref d), some (.ref h), some (.ref q1), some (.ref x), some (.int (m : Nat)), some (.ref p6), some (.ref pa), some (.ref Dn), y9, y10, y11, none] ∧ Same H22 H')
    ⟨_, _, _, rfl, Same.refl _⟩ (fun i σ H' _ h' => ?_) (fun i v σ H' H'' hi h' yy => ?_) (fun σ H' h' => ?_)⟩
  · obtain ⟨_, _, _, _, s⟩ := h'
    exact SqL.of (s _ _ hpa22)
  · obtain ⟨y9, y10, y11, rfl, sH⟩ := h'
    obtain ⟨rfl, hv⟩ := yy
    obtain ⟨a, ea, ra⟩ := rq22.get' hv
    have ma := List.mem_of_getElem? ea
    have ta := tas a ma
    have iS := inSL a (List.mem_append.mpr (.inr ma))
    refine ⟨_, rfl, pa, rfl, ⟨qv, SqL.of (sH _ _ hpa22)⟩, for_it (walk_list (xs := qv)) (fun i σ H' => ∃ y10 y11, σ = [some (.ref c), some (.ref d), some (.ref h), some (.ref q1), some (.ref x), some (.int (m : Nat)), some (.ref p6), some (.ref pa), some (.ref Dn), some v, y10, y11, none] ∧ Same H22 H')
      ⟨_, _, rfl, sH⟩ (fun i σ H' _ h' => ?_) (fun i y σ H' H'' hi h' yy => ?_) (fun σ H' h' => ?_)⟩
    · obtain ⟨_, _, _, s⟩ := h'
      exact SqL.of (s _ _ hpa22)
    · obtain ⟨y10, y11, rfl, sK⟩ := h'
      obtain ⟨rfl, hy⟩ := yy
      obtain ⟨b, eb, rb⟩ := rq22.get' hy
      have mb := List.mem_of_getElem? eb
      have tb := tas b mb
      have jS := inSL b (List.mem_append.mpr (.inr mb))
      have WK := W22.sm sK (fun b m => absurd m List.not_mem_nil)
      obtain ⟨dxk, gk, lk, _, _, _, _, Lk0, hpk, _, _, lkk⟩ := WK.ob
      refine ⟨_, rfl, x, dxk, _, rfl, hpk, rfl, _, rfl, _, rfl, x, wd, wu, t', r', [], E, us', v, y, a, b, rfl, WK, ra.wk (Wk.same sK), ta, rb.wk (Wk.same sK), tb, fun H3 L3 s3 low z hz => ?_⟩
      have sK3 := sK.trans s3
      obtain ⟨fr, f1, f2, f3, f4⟩ := fnd.same sK3
      rw [likes_tells] at low
      have key := mark_iff SR SS subR pinR low low' iS jS
      have ez : z = decide (V.int (Lk.at_ M (ixT SL a) : Nat) = V.int (Lk.at_ M (ixT SL b) : Nat)) := by
        rw [Bool.eq_iff_iff, hz, key, decide_eq_true_iff]
        exact ⟨fun e => by rw [e], fun e => by injection e with e; omega⟩
      refine ⟨_, rfl, _, _, _, _, _, rfl, .ty _, .base (.bl z), kit_ty (show kitB "bool" "bool" = some true by decide +kernel), _, rfl, ?_⟩
      refine ⟨_, rfl, _, rfl, _, rfl, Dn, fr, a.nk, _, rfl, ⟨.inl f1, f2⟩, ta.isk (ra.wk (Wk.same sK3)), f4 _ _ (ix_of SS iS), _, rfl, _, rfl, Dn, fr, b.nk, _, rfl, ⟨.inl f1, f2⟩, tb.isk (rb.wk (Wk.same sK3)), f4 _ _ (ix_of SS jS), rfl, rfl, _, rfl, ?_⟩
      rw [← ez, decide_eq_true rfl]
      exact iteF ⟨_, _, rfl, sK3⟩
    · obtain ⟨y10, y11, rfl, sK⟩ := h'
      exact ⟨_, _, _, rfl, sK⟩
  · obtain ⟨y9, y10, y11, rfl, sH⟩ := h'
    have WH := W22.sm sH (fun b m => absurd m List.not_mem_nil)
    obtain ⟨dxh, gh, lh, _, _, _, _, _, hph, _⟩ := WH.ob
    have few60 := bd60 E subE
    have sl := stood_len tmE
    have s18H := s1822.trans sH
    refine ⟨_, rfl, x, dxh, _, rfl, hph, ⟨x, wd, wu, t', r', [], E, us', rfl, WH, (termsD E).length, rfl, by omega, ?_⟩⟩
    refine ⟨_, rfl, _, _, rfl, .inl ⟨ys, SqL.of (s18H _ _ hp618), rfl⟩, rfl, _, rfl, ?_⟩
    rw [ysl, sl, decide_eq_true rfl]
    refine iteT ⟨_, rfl, x, dxh, _, rfl, hph, rfl, x, wd, wu, t', r', [], E, us', rfl, WH, fun q2 H30 dv2 s30 nq2 hq2 dd2 => ?_⟩
    have ddo := deeds_tk (fun a xs z => s30 _ _ (s18H _ _ z)) dd18 tmE
    have W30 := WH.sm s30 (fun b m => absurd m List.not_mem_nil)
    refine ⟨_, rfl, _, _, .lst (SqL.of hq2) (dp_deeds okE dd2), .lst (SqL.of (s30 _ _ (s18H _ _ hq18))) (dp_deeds okE ddo), sh_deeds okE, sh_deeds okE, ?_⟩
    rw [SeqAt.eqv_refl _ (by have := can_deeds okE; exact this.1)]
    refine ⟨_, rfl, iteT ?_⟩
    refine ⟨_, rfl, x, wd, wu, t', r', E, us', rfl, W30, (tb18.ext s18H).ext s30, by omega, fun l hl => bd60 l fun r mr => (hl r mr).elim (subE r) (uin r), fun H31 => ?_⟩
    refine ⟨_, rfl, rfl, ?_⟩
    rw [ul, decide_eq_true rfl]
    exact q _
end
end Kt
namespace Kt
open PySem PySem.Spec PyProof.Rows L2
theorem all_tx {K : PySem.W.Frag} {h : Heap} {mg : Str → Option Value} (X : K.In h) (G : h.Ns mainGlobals mg)
    {K0 : Addr}
    (Ka0 : PySem.W.nsIn K mainGlobals "Likeness" = some (some (.ref K0)))
    (Kb0 : PySem.W.plainGet K K0 Str.empty = true)
    (Kc0 : PySem.W.hasDictIn K K0 = true)
    (Kd0 : PySem.W.plainOver K K0 = true)
    (Ke0 : PySem.W.findIn K (.ref K0) "__setattr__" = some (some (.builtin "object.__setattr__")))
    (Kf0 : PySem.W.makesIn K K0 = true)
    (Kg0 : PySem.W.keepIn K (.ref K0) = true)
    (Kn0_0 : PySem.W.findIn K (.ref K0) "places" = some none)
    (Kn1_0 : PySem.W.findIn K (.ref K0) "rows" = some none)
    (Kn2_0 : PySem.W.findIn K (.ref K0) "lows" = some none)
    (Kn3_0 : PySem.W.findIn K (.ref K0) "shapes" = some none)
    (Kn4_0 : PySem.W.findIn K (.ref K0) "due" = some none)
    {K1 : Addr}
    (Ka1 : PySem.W.nsIn K mainGlobals "Web" = some (some (.ref K1)))
    (Kb1 : PySem.W.plainGet K K1 Str.empty = true)
    (Kc1 : PySem.W.hasDictIn K K1 = true)
    (Kd1 : PySem.W.plainOver K K1 = true)
    (Ke1 : PySem.W.findIn K (.ref K1) "__setattr__" = some (some (.builtin "object.__setattr__")))
    (Kf1 : PySem.W.makesIn K K1 = true)
    (Kg1 : PySem.W.keepIn K (.ref K1) = true)
    (Kn0_1 : PySem.W.findIn K (.ref K1) "deeds" = some none)
    (Kn1_1 : PySem.W.findIn K (.ref K1) "undone" = some none)
    (Kn2_1 : PySem.W.findIn K (.ref K1) "tellings" = some none)
    (Kn3_1 : PySem.W.findIn K (.ref K1) "ranks" = some none)
    (Kn4_1 : PySem.W.findIn K (.ref K1) "rising" = some none)
    (Kn5_1 : PySem.W.findIn K (.ref K1) "likeness" = some none)
    {Mf0 : Addr} {Mod0 Man0 : Option Addr} {Msl0 : Array (Option Value)} {Moc0 MkV0 Mdc0 Mpm0 Mct0 : Value} {Md0 : Value}
    (Ma0 : PySem.W.findIn K (.ref K0) "__init__" = some (some (.ref Mf0)))
    (Ml0 : K.lookup Mf0 = some ⟨Moc0, Mod0, .func (PySem.W.fnOf "__init__" "Likeness.__init__" (defArgs s_Likeness___init__) (defBody s_Likeness___init__) (defScope s_Likeness___init__) .none MkV0 Mdc0 Mpm0 Man0 Md0 Mct0), Msl0⟩)
    (Mc0 : PySem.W.codeIn K Md0 "Likeness.__init__" = true)
    (Mi0 : PySem.W.isFn K (.ref Mf0) = true)
    (Mk0 : PySem.W.keepIn K (.ref Mf0) = true)
    {Mf1 : Addr} {Mod1 Man1 : Option Addr} {Msl1 : Array (Option Value)} {Moc1 MkV1 Mdc1 Mpm1 Mct1 : Value} {Md1 : Value}
    (Ma1 : PySem.W.findIn K (.ref K0) "tell" = some (some (.ref Mf1)))
    (Ml1 : K.lookup Mf1 = some ⟨Moc1, Mod1, .func (PySem.W.fnOf "tell" "Likeness.tell" (defArgs s_Likeness_tell) (defBody s_Likeness_tell) (defScope s_Likeness_tell) .none MkV1 Mdc1 Mpm1 Man1 Md1 Mct1), Msl1⟩)
    (Mc1 : PySem.W.codeIn K Md1 "Likeness.tell" = true)
    (Mi1 : PySem.W.isFn K (.ref Mf1) = true)
    (Mk1 : PySem.W.keepIn K (.ref Mf1) = true)
    {Mf2 : Addr} {Mod2 Man2 : Option Addr} {Msl2 : Array (Option Value)} {Moc2 MkV2 Mdc2 Mpm2 Mct2 : Value} {Md2 : Value}
    (Ma2 : PySem.W.findIn K (.ref K0) "alike" = some (some (.ref Mf2)))
    (Ml2 : K.lookup Mf2 = some ⟨Moc2, Mod2, .func (PySem.W.fnOf "alike" "Likeness.alike" (defArgs s_Likeness_alike) (defBody s_Likeness_alike) (defScope s_Likeness_alike) .none MkV2 Mdc2 Mpm2 Man2 Md2 Mct2), Msl2⟩)
    (Mc2 : PySem.W.codeIn K Md2 "Likeness.alike" = true)
    (Mi2 : PySem.W.isFn K (.ref Mf2) = true)
    (Mk2 : PySem.W.keepIn K (.ref Mf2) = true)
    {Mf3 : Addr} {Mod3 Man3 : Option Addr} {Msl3 : Array (Option Value)} {Moc3 MkV3 Mdc3 Mpm3 Mct3 : Value} {Md3 : Value}
    (Ma3 : PySem.W.findIn K (.ref K0) "mark" = some (some (.ref Mf3)))
    (Ml3 : K.lookup Mf3 = some ⟨Moc3, Mod3, .func (PySem.W.fnOf "mark" "Likeness.mark" (defArgs s_Likeness_mark) (defBody s_Likeness_mark) (defScope s_Likeness_mark) .none MkV3 Mdc3 Mpm3 Man3 Md3 Mct3), Msl3⟩)
    (Mc3 : PySem.W.codeIn K Md3 "Likeness.mark" = true)
    (Mi3 : PySem.W.isFn K (.ref Mf3) = true)
    (Mk3 : PySem.W.keepIn K (.ref Mf3) = true)
    {Mf4 : Addr} {Mod4 Man4 : Option Addr} {Msl4 : Array (Option Value)} {Moc4 MkV4 Mdc4 Mpm4 Mct4 : Value} {Md4 : Value}
    (Ma4 : PySem.W.findIn K (.ref K0) "_settle" = some (some (.ref Mf4)))
    (Ml4 : K.lookup Mf4 = some ⟨Moc4, Mod4, .func (PySem.W.fnOf "_settle" "Likeness._settle" (defArgs s_Likeness__settle) (defBody s_Likeness__settle) (defScope s_Likeness__settle) .none MkV4 Mdc4 Mpm4 Man4 Md4 Mct4), Msl4⟩)
    (Mc4 : PySem.W.codeIn K Md4 "Likeness._settle" = true)
    (Mi4 : PySem.W.isFn K (.ref Mf4) = true)
    (Mk4 : PySem.W.keepIn K (.ref Mf4) = true)
    {Mf5 : Addr} {Mod5 Man5 : Option Addr} {Msl5 : Array (Option Value)} {Moc5 MkV5 Mdc5 Mpm5 Mct5 : Value} {Md5 : Value}
    (Ma5 : PySem.W.findIn K (.ref K1) "__init__" = some (some (.ref Mf5)))
    (Ml5 : K.lookup Mf5 = some ⟨Moc5, Mod5, .func (PySem.W.fnOf "__init__" "Web.__init__" (defArgs s_Web___init__) (defBody s_Web___init__) (defScope s_Web___init__) .none MkV5 Mdc5 Mpm5 Man5 Md5 Mct5), Msl5⟩)
    (Mc5 : PySem.W.codeIn K Md5 "Web.__init__" = true)
    (Mi5 : PySem.W.isFn K (.ref Mf5) = true)
    (Mk5 : PySem.W.keepIn K (.ref Mf5) = true)
    {Mf6 : Addr} {Mod6 Man6 : Option Addr} {Msl6 : Array (Option Value)} {Moc6 MkV6 Mdc6 Mpm6 Mct6 : Value} {Md6 : Value}
    (Ma6 : PySem.W.findIn K (.ref K1) "put" = some (some (.ref Mf6)))
    (Ml6 : K.lookup Mf6 = some ⟨Moc6, Mod6, .func (PySem.W.fnOf "put" "Web.put" (defArgs s_Web_put) (defBody s_Web_put) (defScope s_Web_put) .none MkV6 Mdc6 Mpm6 Man6 Md6 Mct6), Msl6⟩)
    (Mc6 : PySem.W.codeIn K Md6 "Web.put" = true)
    (Mi6 : PySem.W.isFn K (.ref Mf6) = true)
    (Mk6 : PySem.W.keepIn K (.ref Mf6) = true)
    {Mf7 : Addr} {Mod7 Man7 : Option Addr} {Msl7 : Array (Option Value)} {Moc7 MkV7 Mdc7 Mpm7 Mct7 : Value} {Md7 : Value}
    (Ma7 : PySem.W.findIn K (.ref K1) "like" = some (some (.ref Mf7)))
    (Ml7 : K.lookup Mf7 = some ⟨Moc7, Mod7, .func (PySem.W.fnOf "like" "Web.like" (defArgs s_Web_like) (defBody s_Web_like) (defScope s_Web_like) .none MkV7 Mdc7 Mpm7 Man7 Md7 Mct7), Msl7⟩)
    (Mc7 : PySem.W.codeIn K Md7 "Web.like" = true)
    (Mi7 : PySem.W.isFn K (.ref Mf7) = true)
    (Mk7 : PySem.W.keepIn K (.ref Mf7) = true)
    {Mf8 : Addr} {Mod8 Man8 : Option Addr} {Msl8 : Array (Option Value)} {Moc8 MkV8 Mdc8 Mpm8 Mct8 : Value} {Md8 : Value}
    (Ma8 : PySem.W.findIn K (.ref K1) "unlike" = some (some (.ref Mf8)))
    (Ml8 : K.lookup Mf8 = some ⟨Moc8, Mod8, .func (PySem.W.fnOf "unlike" "Web.unlike" (defArgs s_Web_unlike) (defBody s_Web_unlike) (defScope s_Web_unlike) .none MkV8 Mdc8 Mpm8 Man8 Md8 Mct8), Msl8⟩)
    (Mc8 : PySem.W.codeIn K Md8 "Web.unlike" = true)
    (Mi8 : PySem.W.isFn K (.ref Mf8) = true)
    (Mk8 : PySem.W.keepIn K (.ref Mf8) = true)
    {Mf9 : Addr} {Mod9 Man9 : Option Addr} {Msl9 : Array (Option Value)} {Moc9 MkV9 Mdc9 Mpm9 Mct9 : Value} {Md9 : Value}
    (Ma9 : PySem.W.findIn K (.ref K1) "alike" = some (some (.ref Mf9)))
    (Ml9 : K.lookup Mf9 = some ⟨Moc9, Mod9, .func (PySem.W.fnOf "alike" "Web.alike" (defArgs s_Web_alike) (defBody s_Web_alike) (defScope s_Web_alike) .none MkV9 Mdc9 Mpm9 Man9 Md9 Mct9), Msl9⟩)
    (Mc9 : PySem.W.codeIn K Md9 "Web.alike" = true)
    (Mi9 : PySem.W.isFn K (.ref Mf9) = true)
    (Mk9 : PySem.W.keepIn K (.ref Mf9) = true)
    {Mf10 : Addr} {Mod10 Man10 : Option Addr} {Msl10 : Array (Option Value)} {Moc10 MkV10 Mdc10 Mpm10 Mct10 : Value} {Md10 : Value}
    (Ma10 : PySem.W.findIn K (.ref K1) "classes" = some (some (.ref Mf10)))
    (Ml10 : K.lookup Mf10 = some ⟨Moc10, Mod10, .func (PySem.W.fnOf "classes" "Web.classes" (defArgs s_Web_classes) (defBody s_Web_classes) (defScope s_Web_classes) .none MkV10 Mdc10 Mpm10 Man10 Md10 Mct10), Msl10⟩)
    (Mc10 : PySem.W.codeIn K Md10 "Web.classes" = true)
    (Mi10 : PySem.W.isFn K (.ref Mf10) = true)
    (Mk10 : PySem.W.keepIn K (.ref Mf10) = true)
    {Mf11 : Addr} {Mod11 Man11 : Option Addr} {Msl11 : Array (Option Value)} {Moc11 MkV11 Mdc11 Mpm11 Mct11 : Value} {Md11 : Value}
    (Ma11 : PySem.W.findIn K (.ref K1) "least" = some (some (.ref Mf11)))
    (Ml11 : K.lookup Mf11 = some ⟨Moc11, Mod11, .func (PySem.W.fnOf "least" "Web.least" (defArgs s_Web_least) (defBody s_Web_least) (defScope s_Web_least) .none MkV11 Mdc11 Mpm11 Man11 Md11 Mct11), Msl11⟩)
    (Mc11 : PySem.W.codeIn K Md11 "Web.least" = true)
    (Mi11 : PySem.W.isFn K (.ref Mf11) = true)
    (Mk11 : PySem.W.keepIn K (.ref Mf11) = true)
    {Mf12 : Addr} {Mod12 Man12 : Option Addr} {Msl12 : Array (Option Value)} {Moc12 MkV12 Mdc12 Mpm12 Mct12 : Value} {Md12 : Value}
    (Ma12 : PySem.W.findIn K (.ref K1) "terms" = some (some (.ref Mf12)))
    (Ml12 : K.lookup Mf12 = some ⟨Moc12, Mod12, .func (PySem.W.fnOf "terms" "Web.terms" (defArgs s_Web_terms) (defBody s_Web_terms) (defScope s_Web_terms) .none MkV12 Mdc12 Mpm12 Man12 Md12 Mct12), Msl12⟩)
    (Mc12 : PySem.W.codeIn K Md12 "Web.terms" = true)
    (Mi12 : PySem.W.isFn K (.ref Mf12) = true)
    (Mk12 : PySem.W.keepIn K (.ref Mf12) = true)
    {Mf13 : Addr} {Mod13 Man13 : Option Addr} {Msl13 : Array (Option Value)} {Moc13 MkV13 Mdc13 Mpm13 Mct13 : Value} {Md13 : Value}
    (Ma13 : PySem.W.findIn K (.ref K1) "__len__" = some (some (.ref Mf13)))
    (Ml13 : K.lookup Mf13 = some ⟨Moc13, Mod13, .func (PySem.W.fnOf "__len__" "Web.__len__" (defArgs s_Web___len__) (defBody s_Web___len__) (defScope s_Web___len__) .none MkV13 Mdc13 Mpm13 Man13 Md13 Mct13), Msl13⟩)
    (Mc13 : PySem.W.codeIn K Md13 "Web.__len__" = true)
    (Mi13 : PySem.W.isFn K (.ref Mf13) = true)
    (Mk13 : PySem.W.keepIn K (.ref Mf13) = true)
    {Mf14 : Addr} {Mod14 Man14 : Option Addr} {Msl14 : Array (Option Value)} {Moc14 MkV14 Mdc14 Mpm14 Mct14 : Value} {Md14 : Value}
    (Ma14 : PySem.W.findIn K (.ref K1) "told" = some (some (.ref Mf14)))
    (Ml14 : K.lookup Mf14 = some ⟨Moc14, Mod14, .func (PySem.W.fnOf "told" "Web.told" (defArgs s_Web_told) (defBody s_Web_told) (defScope s_Web_told) .none MkV14 Mdc14 Mpm14 Man14 Md14 Mct14), Msl14⟩)
    (Mc14 : PySem.W.codeIn K Md14 "Web.told" = true)
    (Mi14 : PySem.W.isFn K (.ref Mf14) = true)
    (Mk14 : PySem.W.keepIn K (.ref Mf14) = true)
    {Mf15 : Addr} {Mod15 Man15 : Option Addr} {Msl15 : Array (Option Value)} {Moc15 MkV15 Mdc15 Mpm15 Mct15 : Value} {Md15 : Value}
    (Ma15 : PySem.W.findIn K (.ref K1) "back" = some (some (.ref Mf15)))
    (Ml15 : K.lookup Mf15 = some ⟨Moc15, Mod15, .func (PySem.W.fnOf "back" "Web.back" (defArgs s_Web_back) (defBody s_Web_back) (defScope s_Web_back) .none MkV15 Mdc15 Mpm15 Man15 Md15 Mct15), Msl15⟩)
    (Mc15 : PySem.W.codeIn K Md15 "Web.back" = true)
    (Mi15 : PySem.W.isFn K (.ref Mf15) = true)
    (Mk15 : PySem.W.keepIn K (.ref Mf15) = true)
    {Mf16 : Addr} {Mod16 Man16 : Option Addr} {Msl16 : Array (Option Value)} {Moc16 MkV16 Mdc16 Mpm16 Mct16 : Value} {Md16 : Value}
    (Ma16 : PySem.W.findIn K (.ref K1) "again" = some (some (.ref Mf16)))
    (Ml16 : K.lookup Mf16 = some ⟨Moc16, Mod16, .func (PySem.W.fnOf "again" "Web.again" (defArgs s_Web_again) (defBody s_Web_again) (defScope s_Web_again) .none MkV16 Mdc16 Mpm16 Man16 Md16 Mct16), Msl16⟩)
    (Mc16 : PySem.W.codeIn K Md16 "Web.again" = true)
    (Mi16 : PySem.W.isFn K (.ref Mf16) = true)
    (Mk16 : PySem.W.keepIn K (.ref Mf16) = true)
    {Mf17 : Addr} {Mod17 Man17 : Option Addr} {Msl17 : Array (Option Value)} {Moc17 MkV17 Mdc17 Mpm17 Mct17 : Value} {Md17 : Value}
    (Ma17 : PySem.W.findIn K (.ref K1) "log" = some (some (.ref Mf17)))
    (Ml17 : K.lookup Mf17 = some ⟨Moc17, Mod17, .func (PySem.W.fnOf "log" "Web.log" (defArgs s_Web_log) (defBody s_Web_log) (defScope s_Web_log) .none MkV17 Mdc17 Mpm17 Man17 Md17 Mct17), Msl17⟩)
    (Mc17 : PySem.W.codeIn K Md17 "Web.log" = true)
    (Mi17 : PySem.W.isFn K (.ref Mf17) = true)
    (Mk17 : PySem.W.keepIn K (.ref Mf17) = true)
    {Mf18 : Addr} {Mod18 Man18 : Option Addr} {Msl18 : Array (Option Value)} {Moc18 MkV18 Mdc18 Mpm18 Mct18 : Value} {Md18 : Value}
    (Ma18 : PySem.W.findIn K (.ref K1) "twin" = some (some (.ref Mf18)))
    (Ml18 : K.lookup Mf18 = some ⟨Moc18, Mod18, .func (PySem.W.fnOf "twin" "Web.twin" (defArgs s_Web_twin) (defBody s_Web_twin) (defScope s_Web_twin) .none MkV18 Mdc18 Mpm18 Man18 Md18 Mct18), Msl18⟩)
    (Mc18 : PySem.W.codeIn K Md18 "Web.twin" = true)
    (Mi18 : PySem.W.isFn K (.ref Mf18) = true)
    (Mk18 : PySem.W.keepIn K (.ref Mf18) = true)
    {Mf19 : Addr} {Mod19 Man19 : Option Addr} {Msl19 : Array (Option Value)} {Moc19 MkV19 Mdc19 Mpm19 Mct19 : Value} {Md19 : Value}
    (Ma19 : PySem.W.findIn K (.ref K1) "_new_deed" = some (some (.ref Mf19)))
    (Ml19 : K.lookup Mf19 = some ⟨Moc19, Mod19, .func (PySem.W.fnOf "_new_deed" "Web._new_deed" (defArgs s_Web__new_deed) (defBody s_Web__new_deed) (defScope s_Web__new_deed) .none MkV19 Mdc19 Mpm19 Man19 Md19 Mct19), Msl19⟩)
    (Mc19 : PySem.W.codeIn K Md19 "Web._new_deed" = true)
    (Mi19 : PySem.W.isFn K (.ref Mf19) = true)
    (Mk19 : PySem.W.keepIn K (.ref Mf19) = true)
    {Mf20 : Addr} {Mod20 Man20 : Option Addr} {Msl20 : Array (Option Value)} {Moc20 MkV20 Mdc20 Mpm20 Mct20 : Value} {Md20 : Value}
    (Ma20 : PySem.W.findIn K (.ref K1) "_do" = some (some (.ref Mf20)))
    (Ml20 : K.lookup Mf20 = some ⟨Moc20, Mod20, .func (PySem.W.fnOf "_do" "Web._do" (defArgs s_Web__do) (defBody s_Web__do) (defScope s_Web__do) .none MkV20 Mdc20 Mpm20 Man20 Md20 Mct20), Msl20⟩)
    (Mc20 : PySem.W.codeIn K Md20 "Web._do" = true)
    (Mi20 : PySem.W.isFn K (.ref Mf20) = true)
    (Mk20 : PySem.W.keepIn K (.ref Mf20) = true)
    {Mf21 : Addr} {Mod21 Man21 : Option Addr} {Msl21 : Array (Option Value)} {Moc21 MkV21 Mdc21 Mpm21 Mct21 : Value} {Md21 : Value}
    (Ma21 : PySem.W.findIn K (.ref K1) "_ranks_beyond" = some (some (.ref Mf21)))
    (Ml21 : K.lookup Mf21 = some ⟨Moc21, Mod21, .func (PySem.W.fnOf "_ranks_beyond" "Web._ranks_beyond" (defArgs s_Web__ranks_beyond) (defBody s_Web__ranks_beyond) (defScope s_Web__ranks_beyond) .none MkV21 Mdc21 Mpm21 Man21 Md21 Mct21), Msl21⟩)
    (Mc21 : PySem.W.codeIn K Md21 "Web._ranks_beyond" = true)
    (Mi21 : PySem.W.isFn K (.ref Mf21) = true)
    (Mk21 : PySem.W.keepIn K (.ref Mf21) = true)
    {Mf22 : Addr} {Mod22 Man22 : Option Addr} {Msl22 : Array (Option Value)} {Moc22 MkV22 Mdc22 Mpm22 Mct22 : Value} {Md22 : Addr}
    (Ma22 : PySem.W.findIn K (.ref K1) "_settle" = some (some (.ref Mf22)))
    (Ml22 : K.lookup Mf22 = some ⟨Moc22, Mod22, .func (PySem.W.fnOf "_settle" "Web._settle" (defArgs s_Web__settle) (defBody s_Web__settle) (defScope s_Web__settle) .none MkV22 Mdc22 Mpm22 Man22 (.ref Md22) Mct22), Msl22⟩)
    (Mc22 : PySem.W.codeIn K (.ref Md22) "Web._settle" = true)
    (Mi22 : PySem.W.isFn K (.ref Mf22) = true)
    (Mk22 : PySem.W.keepIn K (.ref Mf22) = true)
    {Mf23 : Addr} {Mod23 Man23 : Option Addr} {Msl23 : Array (Option Value)} {Moc23 MkV23 Mdc23 Mpm23 Mct23 : Value} {Md23 : Value}
    (Ma23 : PySem.W.findIn K (.ref K1) "_numbered" = some (some (.ref Mf23)))
    (Ml23 : K.lookup Mf23 = some ⟨Moc23, Mod23, .func (PySem.W.fnOf "_numbered" "Web._numbered" (defArgs s_Web__numbered) (defBody s_Web__numbered) (defScope s_Web__numbered) .none MkV23 Mdc23 Mpm23 Man23 Md23 Mct23), Msl23⟩)
    (Mc23 : PySem.W.codeIn K Md23 "Web._numbered" = true)
    (Mi23 : PySem.W.isFn K (.ref Mf23) = true)
    (Mk23 : PySem.W.keepIn K (.ref Mf23) = true)
    {Mf24 : Addr} {Mod24 Man24 : Option Addr} {Msl24 : Array (Option Value)} {Moc24 MkV24 Mdc24 Mpm24 Mct24 : Value} {Md24 : Value}
    (Ma24 : PySem.W.findIn K (.ref K1) "_take" = some (some (.ref Mf24)))
    (Ml24 : K.lookup Mf24 = some ⟨Moc24, Mod24, .func (PySem.W.fnOf "_take" "Web._take" (defArgs s_Web__take) (defBody s_Web__take) (defScope s_Web__take) .none MkV24 Mdc24 Mpm24 Man24 Md24 Mct24), Msl24⟩)
    (Mc24 : PySem.W.codeIn K Md24 "Web._take" = true)
    (Mi24 : PySem.W.isFn K (.ref Mf24) = true)
    (Mk24 : PySem.W.keepIn K (.ref Mf24) = true)
    {f0 : Addr} {od0 an0 : Option Addr} {sl0 : Array (Option Value)} {oc0 kV0 dc0 pm0 cd0 ct0 : Value}
    (a0 : PySem.W.nsIn K mainGlobals "is_word" = some (some (.ref f0))) (l0 : K.lookup f0 = some ⟨oc0, od0, .func (PySem.W.fnOf "is_word" "is_word" (defArgs s_is_word) (defBody s_is_word) (defScope s_is_word) .none kV0 dc0 pm0 an0 cd0 ct0), sl0⟩) (c0 : PySem.W.codeIn K cd0 "is_word" = true) (k0 : PySem.W.keepIn K (.ref f0) = true)
    {f1 : Addr} {od1 an1 : Option Addr} {sl1 : Array (Option Value)} {oc1 kV1 dc1 pm1 cd1 ct1 : Value}
    (a1 : PySem.W.nsIn K mainGlobals "is_name" = some (some (.ref f1))) (l1 : K.lookup f1 = some ⟨oc1, od1, .func (PySem.W.fnOf "is_name" "is_name" (defArgs s_is_name) (defBody s_is_name) (defScope s_is_name) .none kV1 dc1 pm1 an1 cd1 ct1), sl1⟩) (c1 : PySem.W.codeIn K cd1 "is_name" = true) (k1 : PySem.W.keepIn K (.ref f1) = true)
    {f2 : Addr} {od2 an2 : Option Addr} {sl2 : Array (Option Value)} {oc2 kV2 dc2 pm2 cd2 ct2 : Value}
    (a2 : PySem.W.nsIn K mainGlobals "is_hole" = some (some (.ref f2))) (l2 : K.lookup f2 = some ⟨oc2, od2, .func (PySem.W.fnOf "is_hole" "is_hole" (defArgs s_is_hole) (defBody s_is_hole) (defScope s_is_hole) .none kV2 dc2 pm2 an2 cd2 ct2), sl2⟩) (c2 : PySem.W.codeIn K cd2 "is_hole" = true) (k2 : PySem.W.keepIn K (.ref f2) = true)
    {f3 : Addr} {od3 an3 : Option Addr} {sl3 : Array (Option Value)} {oc3 kV3 dc3 pm3 cd3 ct3 : Value}
    (a3 : PySem.W.nsIn K mainGlobals "size_within" = some (some (.ref f3))) (l3 : K.lookup f3 = some ⟨oc3, od3, .func (PySem.W.fnOf "size_within" "size_within" (defArgs s_size_within) (defBody s_size_within) (defScope s_size_within) .none kV3 dc3 pm3 an3 cd3 ct3), sl3⟩) (c3 : PySem.W.codeIn K cd3 "size_within" = true) (k3 : PySem.W.keepIn K (.ref f3) = true)
    {f4 : Addr} {od4 an4 : Option Addr} {sl4 : Array (Option Value)} {oc4 kV4 dc4 pm4 cd4 ct4 : Value}
    (a4 : PySem.W.nsIn K mainGlobals "is_term" = some (some (.ref f4))) (l4 : K.lookup f4 = some ⟨oc4, od4, .func (PySem.W.fnOf "is_term" "is_term" (defArgs s_is_term) (defBody s_is_term) (defScope s_is_term) .none kV4 dc4 pm4 an4 cd4 ct4), sl4⟩) (c4 : PySem.W.codeIn K cd4 "is_term" = true) (k4 : PySem.W.keepIn K (.ref f4) = true)
    {f5 : Addr} {od5 an5 : Option Addr} {sl5 : Array (Option Value)} {oc5 kV5 dc5 pm5 cd5 ct5 : Value}
    (a5 : PySem.W.nsIn K mainGlobals "refuse_no_term" = some (some (.ref f5))) (l5 : K.lookup f5 = some ⟨oc5, od5, .func (PySem.W.fnOf "refuse_no_term" "refuse_no_term" (defArgs s_refuse_no_term) (defBody s_refuse_no_term) (defScope s_refuse_no_term) .none kV5 dc5 pm5 an5 cd5 ct5), sl5⟩) (c5 : PySem.W.codeIn K cd5 "refuse_no_term" = true) (k5 : PySem.W.keepIn K (.ref f5) = true)
    {f6 : Addr} {od6 an6 : Option Addr} {sl6 : Array (Option Value)} {oc6 kV6 dc6 pm6 cd6 ct6 : Value}
    (a6 : PySem.W.nsIn K mainGlobals "all_within" = some (some (.ref f6))) (l6 : K.lookup f6 = some ⟨oc6, od6, .func (PySem.W.fnOf "all_within" "all_within" (defArgs s_all_within) (defBody s_all_within) (defScope s_all_within) .none kV6 dc6 pm6 an6 cd6 ct6), sl6⟩) (c6 : PySem.W.codeIn K cd6 "all_within" = true) (k6 : PySem.W.keepIn K (.ref f6) = true)
    {f7 : Addr} {od7 an7 : Option Addr} {sl7 : Array (Option Value)} {oc7 kV7 dc7 pm7 cd7 ct7 : Value}
    (a7 : PySem.W.nsIn K mainGlobals "written" = some (some (.ref f7))) (l7 : K.lookup f7 = some ⟨oc7, od7, .func (PySem.W.fnOf "written" "written" (defArgs s_written) (defBody s_written) (defScope s_written) .none kV7 dc7 pm7 an7 cd7 ct7), sl7⟩) (c7 : PySem.W.codeIn K cd7 "written" = true) (k7 : PySem.W.keepIn K (.ref f7) = true)
    {f8 : Addr} {od8 an8 : Option Addr} {sl8 : Array (Option Value)} {oc8 kV8 dc8 pm8 cd8 ct8 : Value}
    (a8 : PySem.W.nsIn K mainGlobals "order_of" = some (some (.ref f8))) (l8 : K.lookup f8 = some ⟨oc8, od8, .func (PySem.W.fnOf "order_of" "order_of" (defArgs s_order_of) (defBody s_order_of) (defScope s_order_of) .none kV8 dc8 pm8 an8 cd8 ct8), sl8⟩) (c8 : PySem.W.codeIn K cd8 "order_of" = true) (k8 : PySem.W.keepIn K (.ref f8) = true)
    {f9 : Addr} {od9 an9 : Option Addr} {sl9 : Array (Option Value)} {oc9 kV9 dc9 pm9 cd9 ct9 : Value}
    (a9 : PySem.W.nsIn K mainGlobals "joined" = some (some (.ref f9))) (l9 : K.lookup f9 = some ⟨oc9, od9, .func (PySem.W.fnOf "joined" "joined" (defArgs s_joined) (defBody s_joined) (defScope s_joined) .none kV9 dc9 pm9 an9 cd9 ct9), sl9⟩) (c9 : PySem.W.codeIn K cd9 "joined" = true) (k9 : PySem.W.keepIn K (.ref f9) = true)
    {f10 : Addr} {od10 an10 : Option Addr} {sl10 : Array (Option Value)} {oc10 kV10 dc10 pm10 cd10 ct10 : Value}
    (a10 : PySem.W.nsIn K mainGlobals "alike_by_parts" = some (some (.ref f10))) (l10 : K.lookup f10 = some ⟨oc10, od10, .func (PySem.W.fnOf "alike_by_parts" "alike_by_parts" (defArgs s_alike_by_parts) (defBody s_alike_by_parts) (defScope s_alike_by_parts) .none kV10 dc10 pm10 an10 cd10 ct10), sl10⟩) (c10 : PySem.W.codeIn K cd10 "alike_by_parts" = true) (k10 : PySem.W.keepIn K (.ref f10) = true)
    {f11 : Addr} {od11 an11 : Option Addr} {sl11 : Array (Option Value)} {oc11 kV11 dc11 pm11 cd11 ct11 : Value}
    (a11 : PySem.W.nsIn K mainGlobals "_law_begun" = some (some (.ref f11))) (l11 : K.lookup f11 = some ⟨oc11, od11, .func (PySem.W.fnOf "_law_begun" "_law_begun" (defArgs s__law_begun) (defBody s__law_begun) (defScope s__law_begun) .none kV11 dc11 pm11 an11 cd11 ct11), sl11⟩) (c11 : PySem.W.codeIn K cd11 "_law_begun" = true) (k11 : PySem.W.keepIn K (.ref f11) = true)
    {f12 : Addr} {od12 an12 : Option Addr} {sl12 : Array (Option Value)} {oc12 kV12 dc12 pm12 cd12 ct12 : Value}
    (a12 : PySem.W.nsIn K mainGlobals "_law_take" = some (some (.ref f12))) (l12 : K.lookup f12 = some ⟨oc12, od12, .func (PySem.W.fnOf "_law_take" "_law_take" (defArgs s__law_take) (defBody s__law_take) (defScope s__law_take) .none kV12 dc12 pm12 an12 cd12 ct12), sl12⟩) (c12 : PySem.W.codeIn K cd12 "_law_take" = true) (k12 : PySem.W.keepIn K (.ref f12) = true)
    {f13 : Addr} {od13 an13 : Option Addr} {sl13 : Array (Option Value)} {oc13 kV13 dc13 pm13 cd13 ct13 : Value}
    (a13 : PySem.W.nsIn K mainGlobals "_law_name" = some (some (.ref f13))) (l13 : K.lookup f13 = some ⟨oc13, od13, .func (PySem.W.fnOf "_law_name" "_law_name" (defArgs s__law_name) (defBody s__law_name) (defScope s__law_name) .none kV13 dc13 pm13 an13 cd13 ct13), sl13⟩) (c13 : PySem.W.codeIn K cd13 "_law_name" = true) (k13 : PySem.W.keepIn K (.ref f13) = true)
    {f14 : Addr} {od14 an14 : Option Addr} {sl14 : Array (Option Value)} {oc14 kV14 dc14 pm14 cd14 ct14 : Value}
    (a14 : PySem.W.nsIn K mainGlobals "_law_heads" = some (some (.ref f14))) (l14 : K.lookup f14 = some ⟨oc14, od14, .func (PySem.W.fnOf "_law_heads" "_law_heads" (defArgs s__law_heads) (defBody s__law_heads) (defScope s__law_heads) .none kV14 dc14 pm14 an14 cd14 ct14), sl14⟩) (c14 : PySem.W.codeIn K cd14 "_law_heads" = true) (k14 : PySem.W.keepIn K (.ref f14) = true)
    {f15 : Addr} {od15 an15 : Option Addr} {sl15 : Array (Option Value)} {oc15 kV15 dc15 pm15 cd15 ct15 : Value}
    (a15 : PySem.W.nsIn K mainGlobals "_law_term" = some (some (.ref f15))) (l15 : K.lookup f15 = some ⟨oc15, od15, .func (PySem.W.fnOf "_law_term" "_law_term" (defArgs s__law_term) (defBody s__law_term) (defScope s__law_term) .none kV15 dc15 pm15 an15 cd15 ct15), sl15⟩) (c15 : PySem.W.codeIn K cd15 "_law_term" = true) (k15 : PySem.W.keepIn K (.ref f15) = true)
    {f16 : Addr} {od16 an16 : Option Addr} {sl16 : Array (Option Value)} {oc16 kV16 dc16 pm16 cd16 ct16 : Value}
    (a16 : PySem.W.nsIn K mainGlobals "_law_parts" = some (some (.ref f16))) (l16 : K.lookup f16 = some ⟨oc16, od16, .func (PySem.W.fnOf "_law_parts" "_law_parts" (defArgs s__law_parts) (defBody s__law_parts) (defScope s__law_parts) .none kV16 dc16 pm16 an16 cd16 ct16), sl16⟩) (c16 : PySem.W.codeIn K cd16 "_law_parts" = true) (k16 : PySem.W.keepIn K (.ref f16) = true)
    {f17 : Addr} {od17 an17 : Option Addr} {sl17 : Array (Option Value)} {oc17 kV17 dc17 pm17 cd17 ct17 : Value}
    (a17 : PySem.W.nsIn K mainGlobals "_law_every" = some (some (.ref f17))) (l17 : K.lookup f17 = some ⟨oc17, od17, .func (PySem.W.fnOf "_law_every" "_law_every" (defArgs s__law_every) (defBody s__law_every) (defScope s__law_every) .none kV17 dc17 pm17 an17 cd17 ct17), sl17⟩) (c17 : PySem.W.codeIn K cd17 "_law_every" = true) (k17 : PySem.W.keepIn K (.ref f17) = true)
    {f18 : Addr} {od18 an18 : Option Addr} {sl18 : Array (Option Value)} {oc18 kV18 dc18 pm18 cd18 ct18 : Value}
    (a18 : PySem.W.nsIn K mainGlobals "_law_any" = some (some (.ref f18))) (l18 : K.lookup f18 = some ⟨oc18, od18, .func (PySem.W.fnOf "_law_any" "_law_any" (defArgs s__law_any) (defBody s__law_any) (defScope s__law_any) .none kV18 dc18 pm18 an18 cd18 ct18), sl18⟩) (c18 : PySem.W.codeIn K cd18 "_law_any" = true) (k18 : PySem.W.keepIn K (.ref f18) = true)
    {f19 : Addr} {od19 an19 : Option Addr} {sl19 : Array (Option Value)} {oc19 kV19 dc19 pm19 cd19 ct19 : Value}
    (a19 : PySem.W.nsIn K mainGlobals "_law_deeds" = some (some (.ref f19))) (l19 : K.lookup f19 = some ⟨oc19, od19, .func (PySem.W.fnOf "_law_deeds" "_law_deeds" (defArgs s__law_deeds) (defBody s__law_deeds) (defScope s__law_deeds) .none kV19 dc19 pm19 an19 cd19 ct19), sl19⟩) (c19 : PySem.W.codeIn K cd19 "_law_deeds" = true) (k19 : PySem.W.keepIn K (.ref f19) = true)
    {f20 : Addr} {od20 an20 : Option Addr} {sl20 : Array (Option Value)} {oc20 kV20 dc20 pm20 cd20 ct20 : Value}
    (a20 : PySem.W.nsIn K mainGlobals "_law_closed" = some (some (.ref f20))) (l20 : K.lookup f20 = some ⟨oc20, od20, .func (PySem.W.fnOf "_law_closed" "_law_closed" (defArgs s__law_closed) (defBody s__law_closed) (defScope s__law_closed) .none kV20 dc20 pm20 an20 cd20 ct20), sl20⟩) (c20 : PySem.W.codeIn K cd20 "_law_closed" = true) (k20 : PySem.W.keepIn K (.ref f20) = true)
    {f21 : Addr} {od21 an21 : Option Addr} {sl21 : Array (Option Value)} {oc21 kV21 dc21 pm21 cd21 ct21 : Value}
    (a21 : PySem.W.nsIn K mainGlobals "_law_done" = some (some (.ref f21))) (l21 : K.lookup f21 = some ⟨oc21, od21, .func (PySem.W.fnOf "_law_done" "_law_done" (defArgs s__law_done) (defBody s__law_done) (defScope s__law_done) .none kV21 dc21 pm21 an21 cd21 ct21), sl21⟩) (c21 : PySem.W.codeIn K cd21 "_law_done" = true) (k21 : PySem.W.keepIn K (.ref f21) = true)
    {f22 : Addr} {od22 an22 : Option Addr} {sl22 : Array (Option Value)} {oc22 kV22 dc22 pm22 cd22 ct22 : Value}
    (a22 : PySem.W.nsIn K mainGlobals "_law_web" = some (some (.ref f22))) (l22 : K.lookup f22 = some ⟨oc22, od22, .func (PySem.W.fnOf "_law_web" "_law_web" (defArgs s__law_web) (defBody s__law_web) (defScope s__law_web) .none kV22 dc22 pm22 an22 cd22 ct22), sl22⟩) (c22 : PySem.W.codeIn K cd22 "_law_web" = true) (k22 : PySem.W.keepIn K (.ref f22) = true)
    {f23 : Addr} {od23 an23 : Option Addr} {sl23 : Array (Option Value)} {oc23 kV23 dc23 pm23 cd23 ct23 : Value}
    (a23 : PySem.W.nsIn K mainGlobals "_law_pairs" = some (some (.ref f23))) (l23 : K.lookup f23 = some ⟨oc23, od23, .func (PySem.W.fnOf "_law_pairs" "_law_pairs" (defArgs s__law_pairs) (defBody s__law_pairs) (defScope s__law_pairs) .none kV23 dc23 pm23 an23 cd23 ct23), sl23⟩) (c23 : PySem.W.codeIn K cd23 "_law_pairs" = true) (k23 : PySem.W.keepIn K (.ref f23) = true)
    {f24 : Addr} {od24 an24 : Option Addr} {sl24 : Array (Option Value)} {oc24 kV24 dc24 pm24 cd24 ct24 : Value}
    (a24 : PySem.W.nsIn K mainGlobals "_law_stood" = some (some (.ref f24))) (l24 : K.lookup f24 = some ⟨oc24, od24, .func (PySem.W.fnOf "_law_stood" "_law_stood" (defArgs s__law_stood) (defBody s__law_stood) (defScope s__law_stood) .none kV24 dc24 pm24 an24 cd24 ct24), sl24⟩) (c24 : PySem.W.codeIn K cd24 "_law_stood" = true) (k24 : PySem.W.keepIn K (.ref f24) = true)
    {f25 : Addr} {od25 an25 : Option Addr} {sl25 : Array (Option Value)} {oc25 kV25 dc25 pm25 cd25 ct25 : Value}
    (a25 : PySem.W.nsIn K mainGlobals "_law_agains" = some (some (.ref f25))) (l25 : K.lookup f25 = some ⟨oc25, od25, .func (PySem.W.fnOf "_law_agains" "_law_agains" (defArgs s__law_agains) (defBody s__law_agains) (defScope s__law_agains) .none kV25 dc25 pm25 an25 cd25 ct25), sl25⟩) (c25 : PySem.W.codeIn K cd25 "_law_agains" = true) (k25 : PySem.W.keepIn K (.ref f25) = true)
    {f26 : Addr} {od26 an26 : Option Addr} {sl26 : Array (Option Value)} {oc26 kV26 dc26 pm26 cd26 ct26 : Value}
    (a26 : PySem.W.nsIn K mainGlobals "_law_gone" = some (some (.ref f26))) (l26 : K.lookup f26 = some ⟨oc26, od26, .func (PySem.W.fnOf "_law_gone" "_law_gone" (defArgs s__law_gone) (defBody s__law_gone) (defScope s__law_gone) .none kV26 dc26 pm26 an26 cd26 ct26), sl26⟩) (c26 : PySem.W.codeIn K cd26 "_law_gone" = true) (k26 : PySem.W.keepIn K (.ref f26) = true)
    {f27 : Addr} {od27 an27 : Option Addr} {sl27 : Array (Option Value)} {oc27 kV27 dc27 pm27 cd27 ct27 : Value}
    (a27 : PySem.W.nsIn K mainGlobals "law" = some (some (.ref f27))) (l27 : K.lookup f27 = some ⟨oc27, od27, .func (PySem.W.fnOf "law" "law" (defArgs s_law) (defBody s_law) (defScope s_law) .none kV27 dc27 pm27 an27 cd27 ct27), sl27⟩) (c27 : PySem.W.codeIn K cd27 "law" = true) (k27 : PySem.W.keepIn K (.ref f27) = true)
    {tk0 : Tok} (m0 : PySem.W.nsIn K mainGlobals "LETTERS" = some (some (.str "abcdefghijklmnopqrstuvwxyz" tk0)))
    {tk1 : Tok} (m1 : PySem.W.nsIn K mainGlobals "MOST_NAME" = some (some (.int 8 tk1)))
    {tk2 : Tok} (m2 : PySem.W.nsIn K mainGlobals "MOST_HOLE" = some (some (.int 4 tk2)))
    {tk3 : Tok} (m3 : PySem.W.nsIn K mainGlobals "MOST_PARTS" = some (some (.int 3 tk3)))
    {tk4 : Tok} (m4 : PySem.W.nsIn K mainGlobals "MOST_SIZE" = some (some (.int 30 tk4)))
    {tk5 : Tok} (m5 : PySem.W.nsIn K mainGlobals "MOST_DEEP" = some (some (.int 5 tk5)))
    {tk6 : Tok} (m6 : PySem.W.nsIn K mainGlobals "MOST_TERMS" = some (some (.int 60 tk6)))
    {tk7 : Tok} (m7 : PySem.W.nsIn K mainGlobals "MOST_TELLINGS" = some (some (.int 40 tk7)))
    {tk8 : Tok} (m8 : PySem.W.nsIn K mainGlobals "PUT" = some (some (.str "put" tk8)))
    {tk9 : Tok} (m9 : PySem.W.nsIn K mainGlobals "LIKE" = some (some (.str "like" tk9)))
    {tk10 : Tok} (m10 : PySem.W.nsIn K mainGlobals "UNLIKE" = some (some (.str "unlike" tk10)))
    (z0 : PySem.W.nsIn K mainGlobals "all" = some none)
    (z1 : PySem.W.nsIn K mainGlobals "bool" = some none)
    (z2 : PySem.W.nsIn K mainGlobals "dict" = some none)
    (z3 : PySem.W.nsIn K mainGlobals "enumerate" = some none)
    (z4 : PySem.W.nsIn K mainGlobals "int" = some none)
    (z5 : PySem.W.nsIn K mainGlobals "isinstance" = some none)
    (z6 : PySem.W.nsIn K mainGlobals "len" = some none)
    (z7 : PySem.W.nsIn K mainGlobals "list" = some none)
    (z8 : PySem.W.nsIn K mainGlobals "max" = some none)
    (z9 : PySem.W.nsIn K mainGlobals "min" = some none)
    (z10 : PySem.W.nsIn K mainGlobals "range" = some none)
    (z11 : PySem.W.nsIn K mainGlobals "sorted" = some none)
    (z12 : PySem.W.nsIn K mainGlobals "str" = some none)
    (z13 : PySem.W.nsIn K mainGlobals "tuple" = some none)
    (z14 : PySem.W.nsIn K mainGlobals "zip" = some none)
    {e0 : Addr} (ea0 : PySem.W.nsIn K mainGlobals "MatchError" = some (some (.ref e0))) (eb0 : PySem.W.subIn K (.ref e0) (.type "BaseException") = some true) (et0 : PySem.W.typeIn K (.ref e0) = some (.type "type")) (ei0 : PySem.W.isClsIn K e0 = true) (es0 : PySem.W.subIn K (.ref e0) (.ref e0) = some true)
    {e1 : Addr} (ea1 : PySem.W.nsIn K mainGlobals "NoDeed" = some (some (.ref e1))) (eb1 : PySem.W.subIn K (.ref e1) (.type "BaseException") = some true) (et1 : PySem.W.typeIn K (.ref e1) = some (.type "type")) (ei1 : PySem.W.isClsIn K e1 = true) (es1 : PySem.W.subIn K (.ref e1) (.ref e1) = some true)
    {yD yfM ycd ycc ydA : Addr} {yda1 : Value} {yda2 : Option Addr} {yits : Array Value} {yn : Nat} {yda3 : Array (Option Value)} {yk : Value → Value → Option (Array Value) → Sem (List (Str × Value))} {yoc ykV ydo ypm yct ycl yxl : Value} {yod yan ycdd yxd : Option Addr} {yos yccs yxs : Array (Option Value)} {yqu : Str} {ypa : Arguments} {yp_a yp_b yp_c yp_d yp_e yp_f yp_g yp_h yp_i yp_j yp_k yp_l yp_m yp_n yp_o yp_p : Pos} {yar : Arg} {yvs : Array Value} {ytf : Tok} {ypl : Env → Sem Bool}
    (ra : PySem.W.nsIn K mainGlobals "MatchError" = some (some (.ref yD)))
    (rm : PySem.W.mroIn K yD (.ref yD) = some true)
    (rs : PySem.W.nsIn K mainGlobals "super" = some none)
    (ri : PySem.W.findIn K (.ref yD) "__init__" = some (some (.ref yfM)))
    (rl : K.lookup yfM = some ⟨yoc, yod, .func (PySem.W.fnX "__init__" yqu ypa (meBody (MePos.mk yp_a yp_b yp_c yp_d yp_e yp_f yp_g yp_h yp_i yp_j yp_k yp_l yp_m yp_n yp_o yp_p)) (initScope "why") [("__class__", ycc)] (.ref ydA) ykV ydo ypm yan (.ref ycd) yct), yos⟩)
    (re : PySem.W.codeIn K (.ref ycd) yqu = true)
    (rh : (ypa.posonlyargs ++ ypa.args).head? = some yar)
    (rz : yar.arg = "self")
    (rda : K.lookup ydA = some ⟨yda1, yda2, .seq yits yn, yda3⟩)
    (rbd : ∀ a b : Value, bindArgs (PySem.W.fnX "__init__" yqu ypa (meBody (MePos.mk yp_a yp_b yp_c yp_d yp_e yp_f yp_g yp_h yp_i yp_j yp_k yp_l yp_m yp_n yp_o yp_p)) (initScope "why") [("__class__", ycc)] (.ref ydA) ykV ydo ypm yan (.ref ycd) yct) ⟨[a, b], []⟩ = seqItems? (.ref ydA) >>= yk a b)
    (rbe : ∀ a b : Value, yk a b (some yits) = pure [(("self" : Str), a), ("why", b)])
    (rev : ∀ env : Env, eval (meSup (MePos.mk yp_a yp_b yp_c yp_d yp_e yp_f yp_g yp_h yp_i yp_j yp_k yp_l yp_m yp_n yp_o yp_p)) env = (do
      let ov ← attributeBase (.Call (.Name "super" yp_a) [] [] yp_b) "__init__" env (eval (.Call (.Name "super" yp_a) [] [] yp_b) env)
      standAt yp_c.atName
      let (f, first) ← holding [ov] (getMethod ov "__init__" (ypl env))
      callWith yp_g f first (backTo yp_g (starEach [meTxt (MePos.mk yp_a yp_b yp_c yp_d yp_e yp_f yp_g yp_h yp_i yp_j yp_k yp_l yp_m yp_n yp_o yp_p)] env)) []))
    (rlc : K.lookup ycd = some ⟨ycl, ycdd, .fields yvs, yccs⟩)
    (rv2 : yvs[2]? = some (.str "/claim/cut.py" ytf))
    (rlx : K.lookup ycc = some ⟨yxl, yxd, .cell (some (.ref yD)), yxs⟩)
    (rnl : (yp_n.endLine == yp_o.line) = true)
    (rty : PySem.W.typeIn K (.ref yfM) = some (.type "function"))
    {sC0 : Addr} {sc0 : Value} {sdd0 : Option Addr} {scd0 : ClassData} {ssl0 : Array (Option Value)} {stk0 : Tok}
    (mesa0 : PySem.W.nsIn K mainGlobals "BadTerm" = some (some (.ref sC0)))
    (mesx0 : PySem.W.excInitIn K sC0 [.type "ValueError", .type "Exception", .type "BaseException", .type "object"] "ValueError.__new__" = true)
    (mesd0 : PySem.W.hasDictIn K sC0 = true)
    (mesq0 : PySem.W.findIn K (.ref sC0) "__setattr__" = some (some (.builtin "object.__setattr__")))
    (mesb0 : PySem.W.subIn K (.ref sC0) (.type "BaseException") = some true)
    (mest0 : PySem.W.typeIn K (.ref sC0) = some (.type "type"))
    (mesk0 : PySem.W.keepIn K (.ref sC0) = true)
    (mesm0 : PySem.W.mroIn K sC0 (.ref yD) = some true)
    (mesp0 : PySem.W.ks_superIn K sC0 yD "__init__" = some (some (.builtin "ValueError.__init__")))
    (mesv0 : PySem.W.subIn K (.ref sC0) (.type "ValueError") = some true)
    (meso0 : PySem.W.nsIn K cStatics "thirdparty.any" = some none)
    (mesf0 : PySem.W.findIn K (.ref sC0) "word" = some none)
    (mesi0 : PySem.W.findIn K (.ref sC0) "__init__" = some (some (.ref yfM)))
    (meng0 : PySem.W.findIn K (.ref sC0) "__getattribute__" = some (some (.builtin "BaseException.__getattribute__")))
    (menh0 : PySem.W.findIn K (.ref sC0) "__getattr__" = some none)
    (menj0 : PySem.W.findIn K (.ref sC0) "__class__" = some (some (.builtin "object.__class__")))
    (menu0 : PySem.W.specialIn K (.builtin "object.__class__") "__get__" = some (some (.builtin "getset_descriptor.__get__")))
    (menw0 : PySem.W.takesIn K (.builtin "object.__class__") = some true)
    (meno0 : PySem.W.mroIn K sC0 (.type "object") = some true)
    (menr0 : PySem.W.readsIn K sC0 (.type "type") = true)
    (meny0 : PySem.W.findCls K (.ref sC0) (.type "type") "__name__" = some (.get (.builtin "getset_descriptor.__get__") (.builtin "type.__name__") (.ref sC0) (.type "type")))
    (menl0 : K.lookup sC0 = some ⟨sc0, sdd0, .cls scd0, ssl0⟩)
    (menz0 : ssl0[2]? = some (some (.str "BadTerm" stk0)))
    {sC1 : Addr} {sc1 : Value} {sdd1 : Option Addr} {scd1 : ClassData} {ssl1 : Array (Option Value)} {stk1 : Tok}
    (mesa1 : PySem.W.nsIn K mainGlobals "TooMany" = some (some (.ref sC1)))
    (mesx1 : PySem.W.excInitIn K sC1 [.type "ValueError", .type "Exception", .type "BaseException", .type "object"] "ValueError.__new__" = true)
    (mesd1 : PySem.W.hasDictIn K sC1 = true)
    (mesq1 : PySem.W.findIn K (.ref sC1) "__setattr__" = some (some (.builtin "object.__setattr__")))
    (mesb1 : PySem.W.subIn K (.ref sC1) (.type "BaseException") = some true)
    (mest1 : PySem.W.typeIn K (.ref sC1) = some (.type "type"))
    (mesk1 : PySem.W.keepIn K (.ref sC1) = true)
    (mesm1 : PySem.W.mroIn K sC1 (.ref yD) = some true)
    (mesp1 : PySem.W.ks_superIn K sC1 yD "__init__" = some (some (.builtin "ValueError.__init__")))
    (mesv1 : PySem.W.subIn K (.ref sC1) (.type "ValueError") = some true)
    (meso1 : PySem.W.nsIn K cStatics "thirdparty.any" = some none)
    (mesf1 : PySem.W.findIn K (.ref sC1) "word" = some none)
    (mesi1 : PySem.W.findIn K (.ref sC1) "__init__" = some (some (.ref yfM)))
    (meng1 : PySem.W.findIn K (.ref sC1) "__getattribute__" = some (some (.builtin "BaseException.__getattribute__")))
    (menh1 : PySem.W.findIn K (.ref sC1) "__getattr__" = some none)
    (menj1 : PySem.W.findIn K (.ref sC1) "__class__" = some (some (.builtin "object.__class__")))
    (menu1 : PySem.W.specialIn K (.builtin "object.__class__") "__get__" = some (some (.builtin "getset_descriptor.__get__")))
    (menw1 : PySem.W.takesIn K (.builtin "object.__class__") = some true)
    (meno1 : PySem.W.mroIn K sC1 (.type "object") = some true)
    (menr1 : PySem.W.readsIn K sC1 (.type "type") = true)
    (meny1 : PySem.W.findCls K (.ref sC1) (.type "type") "__name__" = some (.get (.builtin "getset_descriptor.__get__") (.builtin "type.__name__") (.ref sC1) (.type "type")))
    (menl1 : K.lookup sC1 = some ⟨sc1, sdd1, .cls scd1, ssl1⟩)
    (menz1 : ssl1[2]? = some (some (.str "TooMany" stk1)))
    {sC2 : Addr} {sc2 : Value} {sdd2 : Option Addr} {scd2 : ClassData} {ssl2 : Array (Option Value)} {stk2 : Tok}
    (mesa2 : PySem.W.nsIn K mainGlobals "NoDeed" = some (some (.ref sC2)))
    (mesx2 : PySem.W.excInitIn K sC2 [.type "ValueError", .type "Exception", .type "BaseException", .type "object"] "ValueError.__new__" = true)
    (mesd2 : PySem.W.hasDictIn K sC2 = true)
    (mesq2 : PySem.W.findIn K (.ref sC2) "__setattr__" = some (some (.builtin "object.__setattr__")))
    (mesb2 : PySem.W.subIn K (.ref sC2) (.type "BaseException") = some true)
    (mest2 : PySem.W.typeIn K (.ref sC2) = some (.type "type"))
    (mesk2 : PySem.W.keepIn K (.ref sC2) = true)
    (mesm2 : PySem.W.mroIn K sC2 (.ref yD) = some true)
    (mesp2 : PySem.W.ks_superIn K sC2 yD "__init__" = some (some (.builtin "ValueError.__init__")))
    (mesv2 : PySem.W.subIn K (.ref sC2) (.type "ValueError") = some true)
    (meso2 : PySem.W.nsIn K cStatics "thirdparty.any" = some none)
    (mesf2 : PySem.W.findIn K (.ref sC2) "word" = some none)
    (mesi2 : PySem.W.findIn K (.ref sC2) "__init__" = some (some (.ref yfM)))
    (meng2 : PySem.W.findIn K (.ref sC2) "__getattribute__" = some (some (.builtin "BaseException.__getattribute__")))
    (menh2 : PySem.W.findIn K (.ref sC2) "__getattr__" = some none)
    (menj2 : PySem.W.findIn K (.ref sC2) "__class__" = some (some (.builtin "object.__class__")))
    (menu2 : PySem.W.specialIn K (.builtin "object.__class__") "__get__" = some (some (.builtin "getset_descriptor.__get__")))
    (menw2 : PySem.W.takesIn K (.builtin "object.__class__") = some true)
    (meno2 : PySem.W.mroIn K sC2 (.type "object") = some true)
    (menr2 : PySem.W.readsIn K sC2 (.type "type") = true)
    (meny2 : PySem.W.findCls K (.ref sC2) (.type "type") "__name__" = some (.get (.builtin "getset_descriptor.__get__") (.builtin "type.__name__") (.ref sC2) (.type "type")))
    (menl2 : K.lookup sC2 = some ⟨sc2, sdd2, .cls scd2, ssl2⟩)
    (menz2 : ssl2[2]? = some (some (.str "NoDeed" stk2)))
    : Tx K mg where
  me := by rw [clsA_of (PySem.W.mg_of X G ra)]; exact ⟨⟨yfM, yoc, ycl, yxl, yod, ycdd, yxd, yos, yccs, yxs, yqu, ypa, (MePos.mk yp_a yp_b yp_c yp_d yp_e yp_f yp_g yp_h yp_i yp_j yp_k yp_l yp_m yp_n yp_o yp_p), .ref ydA, ykV, ydo, ypm, yct, yan, ycd, ycc, yvs, ytf, yar, ypl, rl, re, rh, rz, fun s a b Xs => BindsTo.of_defaults rfl (Xs _ _ rda) rfl (rbd a b) (rbe a b), rev, rlc, rv2, rlx, rnl, ri, rty⟩, PySem.W.mg_none_of X G rs, rm⟩
  gs_BadTerm := by rw [clsA_of (PySem.W.mg_of X G mesa0)]; exact PySem.W.mg_of X G mesa0
  s_BadTerm := by rw [clsA_of (PySem.W.mg_of X G mesa0), clsA_of (PySem.W.mg_of X G ra)]; exact ⟨⟨oex_by mesx0 mesd0 mesq0 mesb0 mest0 mesk0, mesm0, mesp0, mesv0, meso0, mesx0, mesf0, ⟨"BadTerm", meng0, menh0, mesb0, menj0, menu0, menw0, meno0, menr0, meny0, ⟨_, _, _, _, _, menl0, menz0⟩, by decide +kernel⟩⟩, mesi0.trans ri.symm⟩
  gs_TooMany := by rw [clsA_of (PySem.W.mg_of X G mesa1)]; exact PySem.W.mg_of X G mesa1
  s_TooMany := by rw [clsA_of (PySem.W.mg_of X G mesa1), clsA_of (PySem.W.mg_of X G ra)]; exact ⟨⟨oex_by mesx1 mesd1 mesq1 mesb1 mest1 mesk1, mesm1, mesp1, mesv1, meso1, mesx1, mesf1, ⟨"TooMany", meng1, menh1, mesb1, menj1, menu1, menw1, meno1, menr1, meny1, ⟨_, _, _, _, _, menl1, menz1⟩, by decide +kernel⟩⟩, mesi1.trans ri.symm⟩
  gs_NoDeed := by rw [clsA_of (PySem.W.mg_of X G mesa2)]; exact PySem.W.mg_of X G mesa2
  s_NoDeed := by rw [clsA_of (PySem.W.mg_of X G mesa2), clsA_of (PySem.W.mg_of X G ra)]; exact ⟨⟨oex_by mesx2 mesd2 mesq2 mesb2 mest2 mesk2, mesm2, mesp2, mesv2, meso2, mesx2, mesf2, ⟨"NoDeed", meng2, menh2, mesb2, menj2, menu2, menw2, meno2, menr2, meny2, ⟨_, _, _, _, _, menl2, menz2⟩, by decide +kernel⟩⟩, mesi2.trans ri.symm⟩
  e_MatchError := ExG.at (PySem.W.mg_of X G ea0) eb0 et0 ei0 es0
  e_NoDeed := ExG.at (PySem.W.mg_of X G ea1) eb1 et1 ei1 es1
  c_Likeness := OwnC.at (PySem.W.mg_of X G Ka0) ⟨Kb0, Kc0, Kd0, Ke0⟩ Kf0 Kg0
  n_Likeness_places := NoAttr.at (PySem.W.mg_of X G Ka0) Kn0_0
  n_Likeness_rows := NoAttr.at (PySem.W.mg_of X G Ka0) Kn1_0
  n_Likeness_lows := NoAttr.at (PySem.W.mg_of X G Ka0) Kn2_0
  n_Likeness_shapes := NoAttr.at (PySem.W.mg_of X G Ka0) Kn3_0
  n_Likeness_due := NoAttr.at (PySem.W.mg_of X G Ka0) Kn4_0
  c_Web := OwnC.at (PySem.W.mg_of X G Ka1) ⟨Kb1, Kc1, Kd1, Ke1⟩ Kf1 Kg1
  n_Web_deeds := NoAttr.at (PySem.W.mg_of X G Ka1) Kn0_1
  n_Web_undone := NoAttr.at (PySem.W.mg_of X G Ka1) Kn1_1
  n_Web_tellings := NoAttr.at (PySem.W.mg_of X G Ka1) Kn2_1
  n_Web_ranks := NoAttr.at (PySem.W.mg_of X G Ka1) Kn3_1
  n_Web_rising := NoAttr.at (PySem.W.mg_of X G Ka1) Kn4_1
  n_Web_likeness := NoAttr.at (PySem.W.mg_of X G Ka1) Kn5_1
  d_Likeness___init__ := by rw [clsA_of (PySem.W.mg_of X G Ka0)]; exact ⟨Mf0, _, (fun_mk (st := s_Likeness___init__) Ml0 Mc0 Mk0), ⟨Ma0, Mi0, Mk0⟩, (fun_mk (st := s_Likeness___init__) Ml0 Mc0 Mk0).binds (ps := ["self", "terms", "pairs"]) fun _ _ _ _ _ _ us hl => match us, hl with | [_, _, _], _ => rfl⟩
  d_Likeness_tell := by rw [clsA_of (PySem.W.mg_of X G Ka0)]; exact ⟨Mf1, _, (fun_mk (st := s_Likeness_tell) Ml1 Mc1 Mk1), ⟨Ma1, Mi1, Mk1⟩, (fun_mk (st := s_Likeness_tell) Ml1 Mc1 Mk1).binds (ps := ["self", "one", "other"]) fun _ _ _ _ _ _ us hl => match us, hl with | [_, _, _], _ => rfl⟩
  d_Likeness_alike := by rw [clsA_of (PySem.W.mg_of X G Ka0)]; exact ⟨Mf2, _, (fun_mk (st := s_Likeness_alike) Ml2 Mc2 Mk2), ⟨Ma2, Mi2, Mk2⟩, (fun_mk (st := s_Likeness_alike) Ml2 Mc2 Mk2).binds (ps := ["self", "one", "other"]) fun _ _ _ _ _ _ us hl => match us, hl with | [_, _, _], _ => rfl⟩
  d_Likeness_mark := by rw [clsA_of (PySem.W.mg_of X G Ka0)]; exact ⟨Mf3, _, (fun_mk (st := s_Likeness_mark) Ml3 Mc3 Mk3), ⟨Ma3, Mi3, Mk3⟩, (fun_mk (st := s_Likeness_mark) Ml3 Mc3 Mk3).binds (ps := ["self", "term"]) fun _ _ _ _ _ _ us hl => match us, hl with | [_, _], _ => rfl⟩
  d_Likeness__settle := by rw [clsA_of (PySem.W.mg_of X G Ka0)]; exact ⟨Mf4, _, (fun_mk (st := s_Likeness__settle) Ml4 Mc4 Mk4), ⟨Ma4, Mi4, Mk4⟩, (fun_mk (st := s_Likeness__settle) Ml4 Mc4 Mk4).binds (ps := ["self"]) fun _ _ _ _ _ _ us hl => match us, hl with | [_], _ => rfl⟩
  d_Web___init__ := by rw [clsA_of (PySem.W.mg_of X G Ka1)]; exact ⟨Mf5, _, (fun_mk (st := s_Web___init__) Ml5 Mc5 Mk5), ⟨Ma5, Mi5, Mk5⟩, (fun_mk (st := s_Web___init__) Ml5 Mc5 Mk5).binds (ps := ["self"]) fun _ _ _ _ _ _ us hl => match us, hl with | [_], _ => rfl⟩
  d_Web_put := by rw [clsA_of (PySem.W.mg_of X G Ka1)]; exact ⟨Mf6, _, (fun_mk (st := s_Web_put) Ml6 Mc6 Mk6), ⟨Ma6, Mi6, Mk6⟩, (fun_mk (st := s_Web_put) Ml6 Mc6 Mk6).binds (ps := ["self", "term"]) fun _ _ _ _ _ _ us hl => match us, hl with | [_, _], _ => rfl⟩
  d_Web_like := by rw [clsA_of (PySem.W.mg_of X G Ka1)]; exact ⟨Mf7, _, (fun_mk (st := s_Web_like) Ml7 Mc7 Mk7), ⟨Ma7, Mi7, Mk7⟩, (fun_mk (st := s_Web_like) Ml7 Mc7 Mk7).binds (ps := ["self", "one", "other"]) fun _ _ _ _ _ _ us hl => match us, hl with | [_, _, _], _ => rfl⟩
  d_Web_unlike := by rw [clsA_of (PySem.W.mg_of X G Ka1)]; exact ⟨Mf8, _, (fun_mk (st := s_Web_unlike) Ml8 Mc8 Mk8), ⟨Ma8, Mi8, Mk8⟩, (fun_mk (st := s_Web_unlike) Ml8 Mc8 Mk8).binds (ps := ["self", "one", "other"]) fun _ _ _ _ _ _ us hl => match us, hl with | [_, _, _], _ => rfl⟩
  d_Web_alike := by rw [clsA_of (PySem.W.mg_of X G Ka1)]; exact ⟨Mf9, _, (fun_mk (st := s_Web_alike) Ml9 Mc9 Mk9), ⟨Ma9, Mi9, Mk9⟩, (fun_mk (st := s_Web_alike) Ml9 Mc9 Mk9).binds (ps := ["self", "one", "other"]) fun _ _ _ _ _ _ us hl => match us, hl with | [_, _, _], _ => rfl⟩
  d_Web_classes := by rw [clsA_of (PySem.W.mg_of X G Ka1)]; exact ⟨Mf10, _, (fun_mk (st := s_Web_classes) Ml10 Mc10 Mk10), ⟨Ma10, Mi10, Mk10⟩, (fun_mk (st := s_Web_classes) Ml10 Mc10 Mk10).binds (ps := ["self"]) fun _ _ _ _ _ _ us hl => match us, hl with | [_], _ => rfl⟩
  d_Web_least := by rw [clsA_of (PySem.W.mg_of X G Ka1)]; exact ⟨Mf11, _, (fun_mk (st := s_Web_least) Ml11 Mc11 Mk11), ⟨Ma11, Mi11, Mk11⟩, (fun_mk (st := s_Web_least) Ml11 Mc11 Mk11).binds (ps := ["self", "term"]) fun _ _ _ _ _ _ us hl => match us, hl with | [_, _], _ => rfl⟩
  d_Web_terms := by rw [clsA_of (PySem.W.mg_of X G Ka1)]; exact ⟨Mf12, _, (fun_mk (st := s_Web_terms) Ml12 Mc12 Mk12), ⟨Ma12, Mi12, Mk12⟩, (fun_mk (st := s_Web_terms) Ml12 Mc12 Mk12).binds (ps := ["self"]) fun _ _ _ _ _ _ us hl => match us, hl with | [_], _ => rfl⟩
  d_Web___len__ := by rw [clsA_of (PySem.W.mg_of X G Ka1)]; exact ⟨Mf13, _, (fun_mk (st := s_Web___len__) Ml13 Mc13 Mk13), ⟨Ma13, Mi13, Mk13⟩, (fun_mk (st := s_Web___len__) Ml13 Mc13 Mk13).binds (ps := ["self"]) fun _ _ _ _ _ _ us hl => match us, hl with | [_], _ => rfl⟩
  d_Web_told := by rw [clsA_of (PySem.W.mg_of X G Ka1)]; exact ⟨Mf14, _, (fun_mk (st := s_Web_told) Ml14 Mc14 Mk14), ⟨Ma14, Mi14, Mk14⟩, (fun_mk (st := s_Web_told) Ml14 Mc14 Mk14).binds (ps := ["self"]) fun _ _ _ _ _ _ us hl => match us, hl with | [_], _ => rfl⟩
  d_Web_back := by rw [clsA_of (PySem.W.mg_of X G Ka1)]; exact ⟨Mf15, _, (fun_mk (st := s_Web_back) Ml15 Mc15 Mk15), ⟨Ma15, Mi15, Mk15⟩, (fun_mk (st := s_Web_back) Ml15 Mc15 Mk15).binds (ps := ["self"]) fun _ _ _ _ _ _ us hl => match us, hl with | [_], _ => rfl⟩
  d_Web_again := by rw [clsA_of (PySem.W.mg_of X G Ka1)]; exact ⟨Mf16, _, (fun_mk (st := s_Web_again) Ml16 Mc16 Mk16), ⟨Ma16, Mi16, Mk16⟩, (fun_mk (st := s_Web_again) Ml16 Mc16 Mk16).binds (ps := ["self"]) fun _ _ _ _ _ _ us hl => match us, hl with | [_], _ => rfl⟩
  d_Web_log := by rw [clsA_of (PySem.W.mg_of X G Ka1)]; exact ⟨Mf17, _, (fun_mk (st := s_Web_log) Ml17 Mc17 Mk17), ⟨Ma17, Mi17, Mk17⟩, (fun_mk (st := s_Web_log) Ml17 Mc17 Mk17).binds (ps := ["self"]) fun _ _ _ _ _ _ us hl => match us, hl with | [_], _ => rfl⟩
  d_Web_twin := by rw [clsA_of (PySem.W.mg_of X G Ka1)]; exact ⟨Mf18, _, (fun_mk (st := s_Web_twin) Ml18 Mc18 Mk18), ⟨Ma18, Mi18, Mk18⟩, (fun_mk (st := s_Web_twin) Ml18 Mc18 Mk18).binds (ps := ["self"]) fun _ _ _ _ _ _ us hl => match us, hl with | [_], _ => rfl⟩
  d_Web__new_deed := by rw [clsA_of (PySem.W.mg_of X G Ka1)]; exact ⟨Mf19, _, (fun_mk (st := s_Web__new_deed) Ml19 Mc19 Mk19), ⟨Ma19, Mi19, Mk19⟩, (fun_mk (st := s_Web__new_deed) Ml19 Mc19 Mk19).binds (ps := ["self", "row"]) fun _ _ _ _ _ _ us hl => match us, hl with | [_, _], _ => rfl⟩
  d_Web__do := by rw [clsA_of (PySem.W.mg_of X G Ka1)]; exact ⟨Mf20, _, (fun_mk (st := s_Web__do) Ml20 Mc20 Mk20), ⟨Ma20, Mi20, Mk20⟩, (fun_mk (st := s_Web__do) Ml20 Mc20 Mk20).binds (ps := ["self", "row"]) fun _ _ _ _ _ _ us hl => match us, hl with | [_, _], _ => rfl⟩
  d_Web__ranks_beyond := by rw [clsA_of (PySem.W.mg_of X G Ka1)]; exact ⟨Mf21, _, (fun_mk (st := s_Web__ranks_beyond) Ml21 Mc21 Mk21), ⟨Ma21, Mi21, Mk21⟩, (fun_mk (st := s_Web__ranks_beyond) Ml21 Mc21 Mk21).binds (ps := ["self", "known", "rows"]) fun _ _ _ _ _ _ us hl => match us, hl with | [_, _, _], _ => rfl⟩
  d_Web__numbered := by rw [clsA_of (PySem.W.mg_of X G Ka1)]; exact ⟨Mf23, _, (fun_mk (st := s_Web__numbered) Ml23 Mc23 Mk23), ⟨Ma23, Mi23, Mk23⟩, (fun_mk (st := s_Web__numbered) Ml23 Mc23 Mk23).binds (ps := ["self", "word"]) fun _ _ _ _ _ _ us hl => match us, hl with | [_, _], _ => rfl⟩
  d_Web__take := by rw [clsA_of (PySem.W.mg_of X G Ka1)]; exact ⟨Mf24, _, (fun_mk (st := s_Web__take) Ml24 Mc24 Mk24), ⟨Ma24, Mi24, Mk24⟩, (fun_mk (st := s_Web__take) Ml24 Mc24 Mk24).binds (ps := ["self", "other"]) fun _ _ _ _ _ _ us hl => match us, hl with | [_, _], _ => rfl⟩
  d_is_word := ⟨f0, _, fun_mk (st := s_is_word) l0 c0 k0, PySem.W.mg_of X G a0, (fun_mk (st := s_is_word) l0 c0 k0).binds (ps := ["thing", "most"]) fun _ _ _ _ _ _ us hl => match us, hl with | [_, _], _ => rfl⟩
  d_is_name := ⟨f1, _, fun_mk (st := s_is_name) l1 c1 k1, PySem.W.mg_of X G a1, (fun_mk (st := s_is_name) l1 c1 k1).binds (ps := ["thing"]) fun _ _ _ _ _ _ us hl => match us, hl with | [_], _ => rfl⟩
  d_is_hole := ⟨f2, _, fun_mk (st := s_is_hole) l2 c2 k2, PySem.W.mg_of X G a2, (fun_mk (st := s_is_hole) l2 c2 k2).binds (ps := ["thing"]) fun _ _ _ _ _ _ us hl => match us, hl with | [_], _ => rfl⟩
  d_size_within := ⟨f3, _, fun_mk (st := s_size_within) l3 c3 k3, PySem.W.mg_of X G a3, (fun_mk (st := s_size_within) l3 c3 k3).binds (ps := ["thing", "holes", "deep"]) fun _ _ _ _ _ _ us hl => match us, hl with | [_, _, _], _ => rfl⟩
  d_is_term := ⟨f4, _, fun_mk (st := s_is_term) l4 c4 k4, PySem.W.mg_of X G a4, (fun_mk (st := s_is_term) l4 c4 k4).binds (ps := ["thing"]) fun _ _ _ _ _ _ us hl => match us, hl with | [_], _ => rfl⟩
  d_refuse_no_term := ⟨f5, _, fun_mk (st := s_refuse_no_term) l5 c5 k5, PySem.W.mg_of X G a5, (fun_mk (st := s_refuse_no_term) l5 c5 k5).binds (ps := ["thing"]) fun _ _ _ _ _ _ us hl => match us, hl with | [_], _ => rfl⟩
  d_all_within := ⟨f6, _, fun_mk (st := s_all_within) l6 c6 k6, PySem.W.mg_of X G a6, (fun_mk (st := s_all_within) l6 c6 k6).binds (ps := ["pattern"]) fun _ _ _ _ _ _ us hl => match us, hl with | [_], _ => rfl⟩
  d_written := ⟨f7, _, fun_mk (st := s_written) l7 c7 k7, PySem.W.mg_of X G a7, (fun_mk (st := s_written) l7 c7 k7).binds (ps := ["pattern"]) fun _ _ _ _ _ _ us hl => match us, hl with | [_], _ => rfl⟩
  d_order_of := ⟨f8, _, fun_mk (st := s_order_of) l8 c8 k8, PySem.W.mg_of X G a8, (fun_mk (st := s_order_of) l8 c8 k8).binds (ps := ["pattern"]) fun _ _ _ _ _ _ us hl => match us, hl with | [_], _ => rfl⟩
  d_joined := ⟨f9, _, fun_mk (st := s_joined) l9 c9 k9, PySem.W.mg_of X G a9, (fun_mk (st := s_joined) l9 c9 k9).binds (ps := ["lows", "one", "other"]) fun _ _ _ _ _ _ us hl => match us, hl with | [_, _, _], _ => rfl⟩
  d_alike_by_parts := ⟨f10, _, fun_mk (st := s_alike_by_parts) l10 c10 k10, PySem.W.mg_of X G a10, (fun_mk (st := s_alike_by_parts) l10 c10 k10).binds (ps := ["rows", "lows"]) fun _ _ _ _ _ _ us hl => match us, hl with | [_, _], _ => rfl⟩
  d__law_begun := ⟨f11, _, fun_mk (st := s__law_begun) l11 c11 k11, PySem.W.mg_of X G a11, (fun_mk (st := s__law_begun) l11 c11 k11).binds (ps := ["_law_script"]) fun _ _ _ _ _ _ us hl => match us, hl with | [_], _ => rfl⟩
  d__law_take := ⟨f12, _, fun_mk (st := s__law_take) l12 c12 k12, PySem.W.mg_of X G a12, (fun_mk (st := s__law_take) l12 c12 k12).binds (ps := ["_law_state", "_law_many"]) fun _ _ _ _ _ _ us hl => match us, hl with | [_, _], _ => rfl⟩
  d__law_name := ⟨f13, _, fun_mk (st := s__law_name) l13 c13 k13, PySem.W.mg_of X G a13, (fun_mk (st := s__law_name) l13 c13 k13).binds (ps := ["_law_state", "_law_met"]) fun _ _ _ _ _ _ us hl => match us, hl with | [_, _], _ => rfl⟩
  d__law_heads := ⟨f14, _, fun_mk (st := s__law_heads) l14 c14 k14, PySem.W.mg_of X G a14, (fun_mk (st := s__law_heads) l14 c14 k14).binds (ps := ["_law_state"]) fun _ _ _ _ _ _ us hl => match us, hl with | [_], _ => rfl⟩
  d__law_term := ⟨f15, _, fun_mk (st := s__law_term) l15 c15 k15, PySem.W.mg_of X G a15, (fun_mk (st := s__law_term) l15 c15 k15).binds (ps := ["_law_state", "_law_heads_here", "_law_left"]) fun _ _ _ _ _ _ us hl => match us, hl with | [_, _, _], _ => rfl⟩
  d__law_parts := ⟨f16, _, fun_mk (st := s__law_parts) l16 c16 k16, PySem.W.mg_of X G a16, (fun_mk (st := s__law_parts) l16 c16 k16).binds (ps := ["_law_term_here"]) fun _ _ _ _ _ _ us hl => match us, hl with | [_], _ => rfl⟩
  d__law_every := ⟨f17, _, fun_mk (st := s__law_every) l17 c17 k17, PySem.W.mg_of X G a17, (fun_mk (st := s__law_every) l17 c17 k17).binds (ps := ["_law_terms"]) fun _ _ _ _ _ _ us hl => match us, hl with | [_], _ => rfl⟩
  d__law_any := ⟨f18, _, fun_mk (st := s__law_any) l18 c18 k18, PySem.W.mg_of X G a18, (fun_mk (st := s__law_any) l18 c18 k18).binds (ps := ["_law_state", "_law_heads_here", "_law_terms"]) fun _ _ _ _ _ _ us hl => match us, hl with | [_, _, _], _ => rfl⟩
  d__law_deeds := ⟨f19, _, fun_mk (st := s__law_deeds) l19 c19 k19, PySem.W.mg_of X G a19, (fun_mk (st := s__law_deeds) l19 c19 k19).binds (ps := ["_law_state", "_law_heads_here", "_law_words", "_law_many", "_law_most"]) fun _ _ _ _ _ _ us hl => match us, hl with | [_, _, _, _, _], _ => rfl⟩
  d__law_closed := ⟨f20, _, fun_mk (st := s__law_closed) l20 c20 k20, PySem.W.mg_of X G a20, (fun_mk (st := s__law_closed) l20 c20 k20).binds (ps := ["_law_terms", "_law_pairs_here"]) fun _ _ _ _ _ _ us hl => match us, hl with | [_, _], _ => rfl⟩
  d__law_done := ⟨f21, _, fun_mk (st := s__law_done) l21 c21 k21, PySem.W.mg_of X G a21, (fun_mk (st := s__law_done) l21 c21 k21).binds (ps := ["_law_web_here", "_law_row"]) fun _ _ _ _ _ _ us hl => match us, hl with | [_, _], _ => rfl⟩
  d__law_web := ⟨f22, _, fun_mk (st := s__law_web) l22 c22 k22, PySem.W.mg_of X G a22, (fun_mk (st := s__law_web) l22 c22 k22).binds (ps := ["_law_deeds_here"]) fun _ _ _ _ _ _ us hl => match us, hl with | [_], _ => rfl⟩
  d__law_pairs := ⟨f23, _, fun_mk (st := s__law_pairs) l23 c23 k23, PySem.W.mg_of X G a23, (fun_mk (st := s__law_pairs) l23 c23 k23).binds (ps := ["_law_deeds_here"]) fun _ _ _ _ _ _ us hl => match us, hl with | [_], _ => rfl⟩
  d__law_stood := ⟨f24, _, fun_mk (st := s__law_stood) l24 c24 k24, PySem.W.mg_of X G a24, (fun_mk (st := s__law_stood) l24 c24 k24).binds (ps := ["_law_deeds_here"]) fun _ _ _ _ _ _ us hl => match us, hl with | [_], _ => rfl⟩
  d__law_agains := ⟨f25, _, fun_mk (st := s__law_agains) l25 c25 k25, PySem.W.mg_of X G a25, (fun_mk (st := s__law_agains) l25 c25 k25).binds (ps := ["_law_web_here"]) fun _ _ _ _ _ _ us hl => match us, hl with | [_], _ => rfl⟩
  d__law_gone := ⟨f26, _, fun_mk (st := s__law_gone) l26 c26 k26, PySem.W.mg_of X G a26, (fun_mk (st := s__law_gone) l26 c26 k26).binds (ps := ["_law_state", "_law_web_here"]) fun _ _ _ _ _ _ us hl => match us, hl with | [_, _], _ => rfl⟩
  d_law := ⟨f27, _, fun_mk (st := s_law) l27 c27 k27, PySem.W.mg_of X G a27, (fun_mk (st := s_law) l27 c27 k27).binds (ps := ["_law_script"]) fun _ _ _ _ _ _ us hl => match us, hl with | [_], _ => rfl⟩
  m_LETTERS := ⟨_, PySem.W.mg_of X G m0⟩
  m_MOST_NAME := ⟨_, PySem.W.mg_of X G m1⟩
  m_MOST_HOLE := ⟨_, PySem.W.mg_of X G m2⟩
  m_MOST_PARTS := ⟨_, PySem.W.mg_of X G m3⟩
  m_MOST_SIZE := ⟨_, PySem.W.mg_of X G m4⟩
  m_MOST_DEEP := ⟨_, PySem.W.mg_of X G m5⟩
  m_MOST_TERMS := ⟨_, PySem.W.mg_of X G m6⟩
  m_MOST_TELLINGS := ⟨_, PySem.W.mg_of X G m7⟩
  m_PUT := ⟨_, PySem.W.mg_of X G m8⟩
  m_LIKE := ⟨_, PySem.W.mg_of X G m9⟩
  m_UNLIKE := ⟨_, PySem.W.mg_of X G m10⟩
  z_all := PySem.W.mg_none_of X G z0
  z_bool := PySem.W.mg_none_of X G z1
  z_dict := PySem.W.mg_none_of X G z2
  z_enumerate := PySem.W.mg_none_of X G z3
  z_int := PySem.W.mg_none_of X G z4
  z_isinstance := PySem.W.mg_none_of X G z5
  z_len := PySem.W.mg_none_of X G z6
  z_list := PySem.W.mg_none_of X G z7
  z_max := PySem.W.mg_none_of X G z8
  z_min := PySem.W.mg_none_of X G z9
  z_range := PySem.W.mg_none_of X G z10
  z_sorted := PySem.W.mg_none_of X G z11
  z_str := PySem.W.mg_none_of X G z12
  z_tuple := PySem.W.mg_none_of X G z13
  z_zip := PySem.W.mg_none_of X G z14
end Kt
namespace Kt
open PySem PySem.Spec PyProof.Rows L2
/-! ### the end -/
theorem all_tl {K : PySem.W.Frag} {h : Heap} {mg : Str → Option Value} (X : K.In h) (G : h.Ns mainGlobals mg) {C0 cA Mf : Addr} {oc kV doc pm ct : Value} {od an : Option Addr} {osl : Array (Option Value)}
    (La : PySem.W.nsIn K mainGlobals "Web" = some (some (.ref C0))) (Lb : PySem.W.findIn K (.ref C0) "_settle" = some (some (.ref Mf)))
    (Lc : K.lookup Mf = some ⟨oc, od, .func (PySem.W.fnOf "_settle" "Web._settle" (defArgs s_Web__settle) (defBody s_Web__settle) (defScope s_Web__settle) .none kV doc pm an (.ref cA) ct), osl⟩)
    (Ld : PySem.W.codeIn K (.ref cA) "Web._settle" = true) (Le : PySem.W.isFn K (.ref Mf) = true) (Lf : PySem.W.keepIn K (.ref Mf) = true) : ∀ (base : Heap) (tP : Addr), LamX.TabB base mg cA tP → TxL K mg base cA tP := fun base tP tb =>
  ⟨by rw [clsA_of (PySem.W.mg_of X G La)]; exact ⟨⟨Mf, oc, kV, doc, pm, ct, od, an, osl, Lc, Ld, ⟨Lb, Le, Lf⟩, (fun_mk (st := s_Web__settle) Lc Ld Lf).binds (ps := ["self"]) fun _ _ _ _ _ _ us hl => match us, hl with | [_], _ => rfl⟩⟩, tb⟩
theorem law_end11 {l : PySem.W.OpenLaw} {w : World} {K : PySem.W.Frag} {mg : Str → Option Value} {h : Heap} {fa tP cA : Addr} (T : Tx K mg) (Z : ProgF l.prog) (TL : ∀ (base : Heap) (tP : Addr), LamX.TabB base mg cA tP → TxL K mg base cA tP) (hmg : mg "law" = some (.ref fa)) (nT : K.lookup tP = none) (hT : h.get? tP = some { cls := .none, data := .fields #[] }) (hC : PySem.W.CodeHd h cA tP) : LamX.LawAtS l w K CX0 27 63 "_law_script" mg fa h := by
  obtain ⟨f, fd, F, m, b⟩ := T.d_law.ex
  rw [hmg] at m
  cases m
  have one : ∀ p ∈ [(cA, tP)], p = (cA, tP) := fun p hp => List.mem_singleton.mp hp
  refine ⟨fd, [(cA, tP)], sp_law11 K tP, fun p hp => by rw [one p hp]; exact hT, fun p hp => by rw [one p hp]; exact nT, fun p hp => by rw [one p hp]; exact hC, fun s u => ?_, fun H a ns hn _ hc hS => ⟨a, ns, rfl, hS, hn, fun p hp => ?_, fun H' => rfl⟩, fun base KB GB tb => ?_⟩
  · obtain ⟨oc, od, kV, doc, pm, an, cdv, ct, osl, rfl, _⟩ := F.ex
    exact .of_eq rfl
  · rw [List.mem_singleton.mp hp]
    exact LamX.TabS.nil (hc (cA, tP) (List.mem_singleton.mpr rfl))
  · have L := TL base tP (tb (cA, tP) (List.mem_singleton.mpr rfl))
    obtain ⟨f', fd', F', m', _, _, oc, od, osl, lk⟩ := (c_law (P := l.prog) (w := w) (base := base) T L Z).ex
    rw [hmg] at m'
    cases m'
    obtain ⟨oc2, od2, kV, doc, pm, an, cdv, ct, osl2, rfl, lk2, _⟩ := F.ex
    rw [lk] at lk2
    cases lk2
    exact F'
end Kt
open PySem PySem.W PyProof.Rows
set_option pp.maxSteps 30 in
set_option maxRecDepth 100000 in
set_option maxHeartbeats 0 in
theorem PySem.Challenge.cw_likematch_k11_alike_holds : PySem.Challenge.rw_likematch_k11_alike.Holds := by
  w_on; o_law; k_head; (case hw => w_witness2)
  k_fill
  refine LamX.walk_ofTs (l := PySem.Challenge.rw_likematch_k11_alike) (n := 63) (k := 27) (x := "_law_script") (CX := fun _ => L2.CX0) rfl (by decide) rfl (by constructor <;> decide) (fun w h Y => PySem.W.km_in_of Y) ?F (fun _ _ _ _ _ hq => hq)
  case F =>
    intro w mg fa h Y KX G hmg
    refine' Kt.law_end11 (tP := 332) ?T ⟨by decide +kernel, by decide +kernel⟩ ?TL hmg ?nT ?hT ?hC
    case hT => exact PySem.W.km_tabs_of Y _ (List.mem_singleton.mpr rfl)
    case TL =>
      refine' Kt.all_tl KX G ?zla ?zlb ?zlc ?zld ?zle ?zlf
      (case zla => k_is)
      (case zlb => k_is)
      (case zlc => k_is)
      (case zld => k_is)
      (all_goals first | k_is | rfl)
    case nT => kernel_rfl
    case hC => exact PySem.W.codeHd_of_K KX (by kernel_rfl)
    case T =>
      refine' Kt.all_tx KX G ?Ka0 ?Kb0 ?Kc0 ?Kd0 ?Ke0 ?Kf0 ?Kg0 ?Kn0_0 ?Kn1_0 ?Kn2_0 ?Kn3_0 ?Kn4_0 ?Ka1 ?Kb1 ?Kc1 ?Kd1 ?Ke1 ?Kf1 ?Kg1 ?Kn0_1 ?Kn1_1 ?Kn2_1 ?Kn3_1 ?Kn4_1 ?Kn5_1 ?Ma0 ?Ml0 ?Mc0 ?Mi0 ?Mk0 ?Ma1 ?Ml1 ?Mc1 ?Mi1 ?Mk1 ?Ma2 ?Ml2 ?Mc2 ?Mi2 ?Mk2 ?Ma3 ?Ml3 ?Mc3 ?Mi3 ?Mk3 ?Ma4 ?Ml4 ?Mc4 ?Mi4 ?Mk4 ?Ma5 ?Ml5 ?Mc5 ?Mi5 ?Mk5 ?Ma6 ?Ml6 ?Mc6 ?Mi6 ?Mk6 ?Ma7 ?Ml7 ?Mc7 ?Mi7 ?Mk7 ?Ma8 ?Ml8 ?Mc8 ?Mi8 ?Mk8 ?Ma9 ?Ml9 ?Mc9 ?Mi9 ?Mk9 ?Ma10 ?Ml10 ?Mc10 ?Mi10 ?Mk10 ?Ma11 ?Ml11 ?Mc11 ?Mi11 ?Mk11 ?Ma12 ?Ml12 ?Mc12 ?Mi12 ?Mk12 ?Ma13 ?Ml13 ?Mc13 ?Mi13 ?Mk13 ?Ma14 ?Ml14 ?Mc14 ?Mi14 ?Mk14 ?Ma15 ?Ml15 ?Mc15 ?Mi15 ?Mk15 ?Ma16 ?Ml16 ?Mc16 ?Mi16 ?Mk16 ?Ma17 ?Ml17 ?Mc17 ?Mi17 ?Mk17 ?Ma18 ?Ml18 ?Mc18 ?Mi18 ?Mk18 ?Ma19 ?Ml19 ?Mc19 ?Mi19 ?Mk19 ?Ma20 ?Ml20 ?Mc20 ?Mi20 ?Mk20 ?Ma21 ?Ml21 ?Mc21 ?Mi21 ?Mk21 ?Ma22 ?Ml22 ?Mc22 ?Mi22 ?Mk22 ?Ma23 ?Ml23 ?Mc23 ?Mi23 ?Mk23 ?Ma24 ?Ml24 ?Mc24 ?Mi24 ?Mk24 ?a0 ?l0 ?c0 ?k0 ?a1 ?l1 ?c1 ?k1 ?a2 ?l2 ?c2 ?k2 ?a3 ?l3 ?c3 ?k3 ?a4 ?l4 ?c4 ?k4 ?a5 ?l5 ?c5 ?k5 ?a6 ?l6 ?c6 ?k6 ?a7 ?l7 ?c7 ?k7 ?a8 ?l8 ?c8 ?k8 ?a9 ?l9 ?c9 ?k9 ?a10 ?l10 ?c10 ?k10 ?a11 ?l11 ?c11 ?k11 ?a12 ?l12 ?c12 ?k12 ?a13 ?l13 ?c13 ?k13 ?a14 ?l14 ?c14 ?k14 ?a15 ?l15 ?c15 ?k15 ?a16 ?l16 ?c16 ?k16 ?a17 ?l17 ?c17 ?k17 ?a18 ?l18 ?c18 ?k18 ?a19 ?l19 ?c19 ?k19 ?a20 ?l20 ?c20 ?k20 ?a21 ?l21 ?c21 ?k21 ?a22 ?l22 ?c22 ?k22 ?a23 ?l23 ?c23 ?k23 ?a24 ?l24 ?c24 ?k24 ?a25 ?l25 ?c25 ?k25 ?a26 ?l26 ?c26 ?k26 ?a27 ?l27 ?c27 ?k27 ?m0 ?m1 ?m2 ?m3 ?m4 ?m5 ?m6 ?m7 ?m8 ?m9 ?m10 ?z0 ?z1 ?z2 ?z3 ?z4 ?z5 ?z6 ?z7 ?z8 ?z9 ?z10 ?z11 ?z12 ?z13 ?z14 ?ea0 ?eb0 ?et0 ?ei0 ?es0 ?ea1 ?eb1 ?et1 ?ei1 ?es1 ?ra ?rm ?rs ?ri ?rl ?re ?rh ?rz ?rda ?rbd ?rbe ?rev ?rlc ?rv2 ?rlx ?rnl ?rty ?mesa0 ?mesx0 ?mesd0 ?mesq0 ?mesb0 ?mest0 ?mesk0 ?mesm0 ?mesp0 ?mesv0 ?meso0 ?mesf0 ?mesi0 ?meng0 ?menh0 ?menj0 ?menu0 ?menw0 ?meno0 ?menr0 ?meny0 ?menl0 ?menz0 ?mesa1 ?mesx1 ?mesd1 ?mesq1 ?mesb1 ?mest1 ?mesk1 ?mesm1 ?mesp1 ?mesv1 ?meso1 ?mesf1 ?mesi1 ?meng1 ?menh1 ?menj1 ?menu1 ?menw1 ?meno1 ?menr1 ?meny1 ?menl1 ?menz1 ?mesa2 ?mesx2 ?mesd2 ?mesq2 ?mesb2 ?mest2 ?mesk2 ?mesm2 ?mesp2 ?mesv2 ?meso2 ?mesf2 ?mesi2 ?meng2 ?menh2 ?menj2 ?menu2 ?menw2 ?meno2 ?menr2 ?meny2 ?menl2 ?menz2
      (case Ka0 => k_is)
      (case Kb0 => k_is)
      (case Kc0 => k_is)
      (case Kd0 => k_is)
      (case Ke0 => k_is)
      (case Kf0 => k_is)
      (case Kg0 => k_is)
      (case Kn0_0 => k_is)
      (case Kn1_0 => k_is)
      (case Kn2_0 => k_is)
      (case Kn3_0 => k_is)
      (case Kn4_0 => k_is)
      (case Ka1 => k_is)
      (case Kb1 => k_is)
      (case Kc1 => k_is)
      (case Kd1 => k_is)
      (case Ke1 => k_is)
      (case Kf1 => k_is)
      (case Kg1 => k_is)
      (case Kn0_1 => k_is)
      (case Kn1_1 => k_is)
      (case Kn2_1 => k_is)
      (case Kn3_1 => k_is)
      (case Kn4_1 => k_is)
      (case Kn5_1 => k_is)
      (case Ma0 => k_is)
      (case Ml0 => k_is)
      (case Mc0 => k_is)
      (case Mi0 => k_is)
      (case Mk0 => k_is)
      (case Ma1 => k_is)
      (case Ml1 => k_is)
      (case Mc1 => k_is)
      (case Mi1 => k_is)
      (case Mk1 => k_is)
      (case Ma2 => k_is)
      (case Ml2 => k_is)
      (case Mc2 => k_is)
      (case Mi2 => k_is)
      (case Mk2 => k_is)
      (case Ma3 => k_is)
      (case Ml3 => k_is)
      (case Mc3 => k_is)
      (case Mi3 => k_is)
      (case Mk3 => k_is)
      (case Ma4 => k_is)
      (case Ml4 => k_is)
      (case Mc4 => k_is)
      (case Mi4 => k_is)
      (case Mk4 => k_is)
      (case Ma5 => k_is)
      (case Ml5 => k_is)
      (case Mc5 => k_is)
      (case Mi5 => k_is)
      (case Mk5 => k_is)
      (case Ma6 => k_is)
      (case Ml6 => k_is)
      (case Mc6 => k_is)
      (case Mi6 => k_is)
      (case Mk6 => k_is)
      (case Ma7 => k_is)
      (case Ml7 => k_is)
      (case Mc7 => k_is)
      (case Mi7 => k_is)
      (case Mk7 => k_is)
      (case Ma8 => k_is)
      (case Ml8 => k_is)
      (case Mc8 => k_is)
      (case Mi8 => k_is)
      (case Mk8 => k_is)
      (case Ma9 => k_is)
      (case Ml9 => k_is)
      (case Mc9 => k_is)
      (case Mi9 => k_is)
      (case Mk9 => k_is)
      (case Ma10 => k_is)
      (case Ml10 => k_is)
      (case Mc10 => k_is)
      (case Mi10 => k_is)
      (case Mk10 => k_is)
      (case Ma11 => k_is)
      (case Ml11 => k_is)
      (case Mc11 => k_is)
      (case Mi11 => k_is)
      (case Mk11 => k_is)
      (case Ma12 => k_is)
      (case Ml12 => k_is)
      (case Mc12 => k_is)
      (case Mi12 => k_is)
      (case Mk12 => k_is)
      (case Ma13 => k_is)
      (case Ml13 => k_is)
      (case Mc13 => k_is)
      (case Mi13 => k_is)
      (case Mk13 => k_is)
      (case Ma14 => k_is)
      (case Ml14 => k_is)
      (case Mc14 => k_is)
      (case Mi14 => k_is)
      (case Mk14 => k_is)
      (case Ma15 => k_is)
      (case Ml15 => k_is)
      (case Mc15 => k_is)
      (case Mi15 => k_is)
      (case Mk15 => k_is)
      (case Ma16 => k_is)
      (case Ml16 => k_is)
      (case Mc16 => k_is)
      (case Mi16 => k_is)
      (case Mk16 => k_is)
      (case Ma17 => k_is)
      (case Ml17 => k_is)
      (case Mc17 => k_is)
      (case Mi17 => k_is)
      (case Mk17 => k_is)
      (case Ma18 => k_is)
      (case Ml18 => k_is)
      (case Mc18 => k_is)
      (case Mi18 => k_is)
      (case Mk18 => k_is)
      (case Ma19 => k_is)
      (case Ml19 => k_is)
      (case Mc19 => k_is)
      (case Mi19 => k_is)
      (case Mk19 => k_is)
      (case Ma20 => k_is)
      (case Ml20 => k_is)
      (case Mc20 => k_is)
      (case Mi20 => k_is)
      (case Mk20 => k_is)
      (case Ma21 => k_is)
      (case Ml21 => k_is)
      (case Mc21 => k_is)
      (case Mi21 => k_is)
      (case Mk21 => k_is)
      (case Ma22 => k_is)
      (case Ml22 => k_is)
      (case Mc22 => k_is)
      (case Mi22 => k_is)
      (case Mk22 => k_is)
      (case Ma23 => k_is)
      (case Ml23 => k_is)
      (case Mc23 => k_is)
      (case Mi23 => k_is)
      (case Mk23 => k_is)
      (case Ma24 => k_is)
      (case Ml24 => k_is)
      (case Mc24 => k_is)
      (case Mi24 => k_is)
      (case Mk24 => k_is)
      (case a0 => k_is)
      (case l0 => k_is)
      (case c0 => k_is)
      (case k0 => k_is)
      (case a1 => k_is)
      (case l1 => k_is)
      (case c1 => k_is)
      (case k1 => k_is)
      (case a2 => k_is)
      (case l2 => k_is)
      (case c2 => k_is)
      (case k2 => k_is)
      (case a3 => k_is)
      (case l3 => k_is)
      (case c3 => k_is)
      (case k3 => k_is)
      (case a4 => k_is)
      (case l4 => k_is)
      (case c4 => k_is)
      (case k4 => k_is)
      (case a5 => k_is)
      (case l5 => k_is)
      (case c5 => k_is)
      (case k5 => k_is)
      (case a6 => k_is)
      (case l6 => k_is)
      (case c6 => k_is)
      (case k6 => k_is)
      (case a7 => k_is)
      (case l7 => k_is)
      (case c7 => k_is)
      (case k7 => k_is)
      (case a8 => k_is)
      (case l8 => k_is)
      (case c8 => k_is)
      (case k8 => k_is)
      (case a9 => k_is)
      (case l9 => k_is)
      (case c9 => k_is)
      (case k9 => k_is)
      (case a10 => k_is)
      (case l10 => k_is)
      (case c10 => k_is)
      (case k10 => k_is)
      (case a11 => k_is)
      (case l11 => k_is)
      (case c11 => k_is)
      (case k11 => k_is)
      (case a12 => k_is)
      (case l12 => k_is)
      (case c12 => k_is)
      (case k12 => k_is)
      (case a13 => k_is)
      (case l13 => k_is)
      (case c13 => k_is)
      (case k13 => k_is)
      (case a14 => k_is)
      (case l14 => k_is)
      (case c14 => k_is)
      (case k14 => k_is)
      (case a15 => k_is)
      (case l15 => k_is)
      (case c15 => k_is)
      (case k15 => k_is)
      (case a16 => k_is)
      (case l16 => k_is)
      (case c16 => k_is)
      (case k16 => k_is)
      (case a17 => k_is)
      (case l17 => k_is)
      (case c17 => k_is)
      (case k17 => k_is)
      (case a18 => k_is)
      (case l18 => k_is)
      (case c18 => k_is)
      (case k18 => k_is)
      (case a19 => k_is)
      (case l19 => k_is)
      (case c19 => k_is)
      (case k19 => k_is)
      (case a20 => k_is)
      (case l20 => k_is)
      (case c20 => k_is)
      (case k20 => k_is)
      (case a21 => k_is)
      (case l21 => k_is)
      (case c21 => k_is)
      (case k21 => k_is)
      (case a22 => k_is)
      (case l22 => k_is)
      (case c22 => k_is)
      (case k22 => k_is)
      (case a23 => k_is)
      (case l23 => k_is)
      (case c23 => k_is)
      (case k23 => k_is)
      (case a24 => k_is)
      (case l24 => k_is)
      (case c24 => k_is)
      (case k24 => k_is)
      (case a25 => k_is)
      (case l25 => k_is)
      (case c25 => k_is)
      (case k25 => k_is)
      (case a26 => k_is)
      (case l26 => k_is)
      (case c26 => k_is)
      (case k26 => k_is)
      (case a27 => k_is)
      (case l27 => k_is)
      (case c27 => k_is)
      (case k27 => k_is)
      (case m0 => k_is)
      (case m1 => k_is)
      (case m2 => k_is)
      (case m3 => k_is)
      (case m4 => k_is)
      (case m5 => k_is)
      (case m6 => k_is)
      (case m7 => k_is)
      (case m8 => k_is)
      (case m9 => k_is)
      (case m10 => k_is)
      (case z0 => k_is)
      (case z1 => k_is)
      (case z2 => k_is)
      (case z3 => k_is)
      (case z4 => k_is)
      (case z5 => k_is)
      (case z6 => k_is)
      (case z7 => k_is)
      (case z8 => k_is)
      (case z9 => k_is)
      (case z10 => k_is)
      (case z11 => k_is)
      (case z12 => k_is)
      (case z13 => k_is)
      (case z14 => k_is)
      (case ea0 => k_is)
      (case eb0 => k_is)
      (case et0 => k_is)
      (case ei0 => k_is)
      (case es0 => first | rfl | k_is)
      (case ea1 => k_is)
      (case eb1 => k_is)
      (case et1 => k_is)
      (case ei1 => k_is)
      (case es1 => first | rfl | k_is)
      (case ra => first | k_is | rfl | exact fun _ => rfl | exact fun _ _ => rfl)
      (case rm => first | k_is | rfl | exact fun _ => rfl | exact fun _ _ => rfl)
      (case rs => first | k_is | rfl | exact fun _ => rfl | exact fun _ _ => rfl)
      (case ri => first | k_is | rfl | exact fun _ => rfl | exact fun _ _ => rfl)
      (case rl => first | k_is | rfl | exact fun _ => rfl | exact fun _ _ => rfl)
      (case re => first | k_is | rfl | exact fun _ => rfl | exact fun _ _ => rfl)
      (case rh => first | k_is | rfl | exact fun _ => rfl | exact fun _ _ => rfl)
      (case rz => first | k_is | rfl | exact fun _ => rfl | exact fun _ _ => rfl)
      (case rda => first | k_is | rfl | exact fun _ => rfl | exact fun _ _ => rfl)
      (case rbd => first | k_is | rfl | exact fun _ => rfl | exact fun _ _ => rfl)
      (case rbe => first | k_is | rfl | exact fun _ => rfl | exact fun _ _ => rfl)
      (case rev => first | k_is | rfl | exact fun _ => rfl | exact fun _ _ => rfl)
      (case rlc => first | k_is | rfl | exact fun _ => rfl | exact fun _ _ => rfl)
      (case rv2 => first | k_is | rfl | exact fun _ => rfl | exact fun _ _ => rfl)
      (case rlx => first | k_is | rfl | exact fun _ => rfl | exact fun _ _ => rfl)
      (case rnl => first | k_is | rfl | exact fun _ => rfl | exact fun _ _ => rfl)
      (case rty => first | k_is | rfl | exact fun _ => rfl | exact fun _ _ => rfl)
      (case mesa0 => first | k_is | rfl | exact fun _ => rfl | exact fun _ _ => rfl)
      (case mesx0 => first | k_is | rfl | exact fun _ => rfl | exact fun _ _ => rfl)
      (case mesd0 => first | k_is | rfl | exact fun _ => rfl | exact fun _ _ => rfl)
      (case mesq0 => first | k_is | rfl | exact fun _ => rfl | exact fun _ _ => rfl)
      (case mesb0 => first | k_is | rfl | exact fun _ => rfl | exact fun _ _ => rfl)
      (case mest0 => first | k_is | rfl | exact fun _ => rfl | exact fun _ _ => rfl)
      (case mesk0 => first | k_is | rfl | exact fun _ => rfl | exact fun _ _ => rfl)
      (case mesm0 => first | k_is | rfl | exact fun _ => rfl | exact fun _ _ => rfl)
      (case mesp0 => first | k_is | rfl | exact fun _ => rfl | exact fun _ _ => rfl)
      (case mesv0 => first | k_is | rfl | exact fun _ => rfl | exact fun _ _ => rfl)
      (case meso0 => first | k_is | rfl | exact fun _ => rfl | exact fun _ _ => rfl)
      (case mesf0 => first | k_is | rfl | exact fun _ => rfl | exact fun _ _ => rfl)
      (case mesi0 => first | k_is | rfl | exact fun _ => rfl | exact fun _ _ => rfl)
      (case meng0 => first | k_is | rfl | exact fun _ => rfl | exact fun _ _ => rfl)
      (case menh0 => first | k_is | rfl | exact fun _ => rfl | exact fun _ _ => rfl)
      (case menj0 => first | k_is | rfl | exact fun _ => rfl | exact fun _ _ => rfl)
      (case menu0 => first | k_is | rfl | exact fun _ => rfl | exact fun _ _ => rfl)
      (case menw0 => first | k_is | rfl | exact fun _ => rfl | exact fun _ _ => rfl)
      (case meno0 => first | k_is | rfl | exact fun _ => rfl | exact fun _ _ => rfl)
      (case menr0 => first | k_is | rfl | exact fun _ => rfl | exact fun _ _ => rfl)
      (case meny0 => first | k_is | rfl | exact fun _ => rfl | exact fun _ _ => rfl)
      (case menl0 => first | k_is | rfl | exact fun _ => rfl | exact fun _ _ => rfl)
      (case menz0 => first | k_is | rfl | exact fun _ => rfl | exact fun _ _ => rfl)
      (case mesa1 => first | k_is | rfl | exact fun _ => rfl | exact fun _ _ => rfl)
      (case mesx1 => first | k_is | rfl | exact fun _ => rfl | exact fun _ _ => rfl)
      (case mesd1 => first | k_is | rfl | exact fun _ => rfl | exact fun _ _ => rfl)
      (case mesq1 => first | k_is | rfl | exact fun _ => rfl | exact fun _ _ => rfl)
      (case mesb1 => first | k_is | rfl | exact fun _ => rfl | exact fun _ _ => rfl)
      (case mest1 => first | k_is | rfl | exact fun _ => rfl | exact fun _ _ => rfl)
      (case mesk1 => first | k_is | rfl | exact fun _ => rfl | exact fun _ _ => rfl)
      (case mesm1 => first | k_is | rfl | exact fun _ => rfl | exact fun _ _ => rfl)
      (case mesp1 => first | k_is | rfl | exact fun _ => rfl | exact fun _ _ => rfl)
      (case mesv1 => first | k_is | rfl | exact fun _ => rfl | exact fun _ _ => rfl)
      (case meso1 => first | k_is | rfl | exact fun _ => rfl | exact fun _ _ => rfl)
      (case mesf1 => first | k_is | rfl | exact fun _ => rfl | exact fun _ _ => rfl)
      (case mesi1 => first | k_is | rfl | exact fun _ => rfl | exact fun _ _ => rfl)
      (case meng1 => first | k_is | rfl | exact fun _ => rfl | exact fun _ _ => rfl)
      (case menh1 => first | k_is | rfl | exact fun _ => rfl | exact fun _ _ => rfl)
      (case menj1 => first | k_is | rfl | exact fun _ => rfl | exact fun _ _ => rfl)
      (case menu1 => first | k_is | rfl | exact fun _ => rfl | exact fun _ _ => rfl)
      (case menw1 => first | k_is | rfl | exact fun _ => rfl | exact fun _ _ => rfl)
      (case meno1 => first | k_is | rfl | exact fun _ => rfl | exact fun _ _ => rfl)
      (case menr1 => first | k_is | rfl | exact fun _ => rfl | exact fun _ _ => rfl)
      (case meny1 => first | k_is | rfl | exact fun _ => rfl | exact fun _ _ => rfl)
      (case menl1 => first | k_is | rfl | exact fun _ => rfl | exact fun _ _ => rfl)
      (case menz1 => first | k_is | rfl | exact fun _ => rfl | exact fun _ _ => rfl)
      (case mesa2 => first | k_is | rfl | exact fun _ => rfl | exact fun _ _ => rfl)
      (case mesx2 => first | k_is | rfl | exact fun _ => rfl | exact fun _ _ => rfl)
      (case mesd2 => first | k_is | rfl | exact fun _ => rfl | exact fun _ _ => rfl)
      (case mesq2 => first | k_is | rfl | exact fun _ => rfl | exact fun _ _ => rfl)
      (case mesb2 => first | k_is | rfl | exact fun _ => rfl | exact fun _ _ => rfl)
      (case mest2 => first | k_is | rfl | exact fun _ => rfl | exact fun _ _ => rfl)
      (case mesk2 => first | k_is | rfl | exact fun _ => rfl | exact fun _ _ => rfl)
      (case mesm2 => first | k_is | rfl | exact fun _ => rfl | exact fun _ _ => rfl)
      (case mesp2 => first | k_is | rfl | exact fun _ => rfl | exact fun _ _ => rfl)
      (case mesv2 => first | k_is | rfl | exact fun _ => rfl | exact fun _ _ => rfl)
      (case meso2 => first | k_is | rfl | exact fun _ => rfl | exact fun _ _ => rfl)
      (case mesf2 => first | k_is | rfl | exact fun _ => rfl | exact fun _ _ => rfl)
      (case mesi2 => first | k_is | rfl | exact fun _ => rfl | exact fun _ _ => rfl)
      (case meng2 => first | k_is | rfl | exact fun _ => rfl | exact fun _ _ => rfl)
      (case menh2 => first | k_is | rfl | exact fun _ => rfl | exact fun _ _ => rfl)
      (case menj2 => first | k_is | rfl | exact fun _ => rfl | exact fun _ _ => rfl)
      (case menu2 => first | k_is | rfl | exact fun _ => rfl | exact fun _ _ => rfl)
      (case menw2 => first | k_is | rfl | exact fun _ => rfl | exact fun _ _ => rfl)
      (case meno2 => first | k_is | rfl | exact fun _ => rfl | exact fun _ _ => rfl)
      (case menr2 => first | k_is | rfl | exact fun _ => rfl | exact fun _ _ => rfl)
      (case meny2 => first | k_is | rfl | exact fun _ => rfl | exact fun _ _ => rfl)
      (case menl2 => first | k_is | rfl | exact fun _ => rfl | exact fun _ _ => rfl)
      (case menz2 => first | k_is | rfl | exact fun _ => rfl | exact fun _ _ => rfl)
