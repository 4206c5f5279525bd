import PyProof.Rows.All
import Wide.All
import OpenK.AllK
import Wide.FinOn
import HandS.ForMost
import HandS.IsInst
import HandS.TupAny
import HandS.TupMul
import HandS.Conv
import HandS.Walk
import HandS.Evl
import PyProof.ListMulRoad
import PyProof.FactsAll.tuple_2
import PySem.Challenge.RW_likematch_k01_terms_and_patterns
set_option Elab.async false
set_option linter.all false
set_option maxRecDepth 100000
set_option maxHeartbeats 2100000
/-! Kt0: calls of own defs by name; what lets the heap grow. -/
namespace Kt
open PySem PySem.Spec PyProof.Rows L2

/-! ### a def of the text -/
/-- the def x stands at some address, and its parameters bind by place -/
structure Dx (K : PySem.W.Frag) (mg : Str → Option Value) (x : Str) (st : Stmt) (ps : List Str) : Prop where
  ex : ∃ (f : Addr) (fd : FuncData), Fun K x x st f fd ∧ mg x = some (.ref f) ∧ Binds K fd ps []
/-- a def that may be called -/
structure Cl (P : Program) (w : World) (K : PySem.W.Frag) (mg : Str → Option Value) (base : Heap) (CX : CXT) (k : Nat) (x : Str) (ps : List Str) (sp : Sp) : Prop where
  ex : ∃ (f : Addr) (fd : FuncData), FnOk P w K mg base CX k f fd ps sp ∧ mg x = some (.ref f) ∧ PySem.W.keepIn K (.ref f) = true ∧ Binds K fd ps [] ∧ ∃ (oc : Value) (od : Option Addr) (osl : Array (Option Value)), K.lookup f = some ⟨oc, od, .func fd, osl⟩
section
variable {P : Program} {w : World} {K : PySem.W.Frag} {mg : Str → Option Value} {base : Heap} {x : Str} {st : Stmt} {N ps : List Str} {k : Nat} {sp : Sp}
theorem Fun.at {f : Addr} {fd : FuncData} (F : Fun K x x st f fd) : ∃ (oc : Value) (od : Option Addr) (osl : Array (Option Value)), K.lookup f = some ⟨oc, od, .func fd, osl⟩ := by
  obtain ⟨oc, od, kV, doc, pm, an, cdv, ct, osl, _, lk, _⟩ := F.ex
  exact ⟨oc, od, osl, lk⟩
theorem Cl.mono {CX : CXT} {j : Nat} (c : Cl P w K mg base CX j x ps sp) (h : j ≤ k) : Cl P w K mg base CX k x ps sp := by
  obtain ⟨f, fd, F, r⟩ := c.ex
  exact ⟨f, fd, F.mono h, r⟩
/-- THE RULE: a def by its body -/
theorem Cl.mk0 (D : Dx K mg x st ps) (S : FnScope N ps (defScope st)) (len : ∀ vs H Q E, sp vs H Q E → vs.length = ps.length)
    (hbody : ∀ (f : Addr) (cdv : Value) (A : Around) (outer : List Env) (s : Shared) (H : Hp) (vs : List V) (Q : VK) (E : XK), Room k (A.deeper (envOfC x (defScope st) s.heap.objs.size f cdv)) → sp vs H Q E →
      ∃ t, PSs (cxOf CX0 P w K mg base N x (defScope st) f cdv A outer s H E).nox (defBody st) t ∧ t { nx := fun _ H' => Q .non H', rt := Q } (start N vs) H) : Cl P w K mg base CX0 (k + 1) x ps sp := by
  obtain ⟨f, fd, F, m, b⟩ := D.ex
  exact ⟨f, fd, F.ok S len (hbody f), m, F.kp, b, Fun.at F⟩
/-- nothing can be asked of it -/
theorem Cl.no (D : Dx K mg x st ps) (h : ∀ vs H Q E, ¬ sp vs H Q E) {CX : CXT} : Cl P w K mg base CX k x ps sp := by
  obtain ⟨f, fd, F, m, b⟩ := D.ex
  exact ⟨f, fd, ⟨fun vs H Q E q => absurd q (h vs H Q E), fun A outer s H args us vs Q E _ _ _ _ q => absurd q (h vs H Q E)⟩, m, F.kp, b, Fun.at F⟩
end
/-- f(..) of an own def -/
def tC0 (sp : Sp) (E : XK) (t : TA) : TE := fun σ H Q => t σ H fun vs H1 => sp vs H1 Q E
section
variable {X : Cx} {k j : Nat} {x : Str} {ps : List Str} {sp : Sp} {p pos : Pos} {e : Expr} {es : List Expr} {t : TA}
theorem pe_cl (c : Cl X.prog X.w X.K X.mg X.base CX0 k x ps sp) (hr : Room j X.A) (hk : k ≤ j) (hg : Gl X x) (ha : PA X (e :: es) t)
    (hdb : (x == ("__debug__" : Str)) = false := by decide) (he : starEach (e :: es) X.env = (false, eval e X.env) :: starEach es X.env := by rfl) (hpl : (backTo pos (starEach es X.env)).any (·.1) = false := by rfl) :
    PE X (.Call (.Name x p) (e :: es) [] pos) (tC0 sp E0 t) := by
  obtain ⟨f, fd, F, hm, kp, b, _⟩ := c.ex
  refine ⟨fun pins s σ H Q I h => ?_⟩
  refine (pe_call F (hr.mono hk) hg hm kp b .nil pass0 ha hdb he hpl).run pins s σ H Q I ?_
  refine cast ?_ h
  show tC0 sp E0 t σ H Q = t σ H (fun vs H1 => sp (vs ++ []) H1 Q E0)
  simp only [List.append_nil]
  rfl
end
/-- f(x = ..) by its only parameter's name -/
structure ClK (P : Program) (w : World) (K : PySem.W.Frag) (mg : Str → Option Value) (base : Heap) (CX : CXT) (k : Nat) (x : Str) (ps : List Str) (sp : Sp) : Prop where
  ex : ∃ (f : Addr) (fd : FuncData), FnOk P w K mg base CX k f fd ps sp ∧ mg x = some (.ref f) ∧ PySem.W.keepIn K (.ref f) = true ∧ ∀ (s : Shared) (us : List Value), us.length = ps.length → BindsTo s fd ⟨[], ps.zip us⟩ (ps.zip us)
/-- a def that may be called by place may be by its parameters' names -/
theorem Cl.kw {P : Program} {w : World} {K : PySem.W.Frag} {mg : Str → Option Value} {base : Heap} {CX : CXT} {x : Str} {st : Stmt} {ps : List Str} {k : Nat} {sp : Sp} (c : Cl P w K mg base CX k x ps sp) (D : Dx K mg x st ps)
    (h : ∀ (kV doc pm : Value) (an : Option Addr) (cdv ct : Value) (us : List Value), us.length = ps.length → bindArgs (PySem.W.fnOf x x (defArgs st) (defBody st) (defScope st) .none kV doc pm an cdv ct) ⟨[], ps.zip us⟩ = pure (ps.zip us)) : ClK P w K mg base CX k x ps sp := by
  obtain ⟨f, fd, F, m, kp, b, oc, od, osl, lk⟩ := c.ex
  obtain ⟨f', fd', F', m', b'⟩ := D.ex
  rw [m] at m'
  cases m'
  obtain ⟨oc', od', kV, doc, pm, an, cdv, ct, osl', rfl, lk', _⟩ := F'.ex
  rw [lk] at lk'
  cases lk'
  exact ⟨f, _, F, m, kp, fun s us hl => .of_eq (h kV doc pm an cdv ct us hl)⟩
section
variable {X : Cx} {k j : Nat} {x : Str} {ps : List Str} {sp : Sp} {p pos : Pos} {kws : List Keyword} {tk : TA}
def tCK (sp : Sp) (E : XK) (tk : TA) : TE := fun σ H Q => tk σ H fun zs H2 => sp zs H2 Q E
theorem pe_clK (c : ClK X.prog X.w X.K X.mg X.base CX0 k x ps sp) (hr : Room j X.A) (hk : k ≤ j) (hg : Gl X x) (hkw : PK X kws tk)
    (hall : (backToKw pos (keywordEach kws X.env)).all (·.1.isSome) = true := by rfl) (hks : (backToKw pos (keywordEach kws X.env)).filterMap (·.1) = ps := by rfl) (hdb : (x == ("__debug__" : Str)) = false := by decide)
    (hpl : ((backTo pos (starEach [] X.env)).any (·.1) || (backToKw pos (keywordEach kws X.env)).any (·.1.isNone)) = false := by rfl) :
    PE X (.Call (.Name x p) [] kws pos) (tCK sp E0 tk) := by
  obtain ⟨f, fd, F, hm, kp, b⟩ := c.ex
  refine ⟨fun pins s σ H Q I h => ?_⟩
  refine wpAny_Call_Name_kw (ld_glob I hg hm ?_ hdb)
  refine PySem.W.callWith_KW0 (h₀ := X.base) I.ok.mod.kin kp hall ?_ hpl
  refine thn (hkw.run pos pins s σ H _ I h) fun ws s2 ⟨zs, H2, I2, rz, q2⟩ => ⟨I2.kIn, ?_⟩
  rw [hks]
  have hl : ws.length = ps.length := by rw [← rz.length]; exact F.len _ _ _ _ q2
  refine wpAny_call (codeAny_mono (F.run X.A X.stack s2 H2 ⟨[], ps.zip ws⟩ ws zs Q E0 (hr.mono hk) I2.env0 (b s2 ws hl) rz q2) fun r s' hq => ?_)
  cases r with
  | error e => exact pass0 pins σ H2 s2 e s' I2 hq
  | ok fl =>
    cases fl with
    | ret u => exact I2.after hq
    | next => exact False.elim hq
    | brk => exact False.elim hq
    | cont => exact False.elim hq
end
end Kt
namespace Kt
open PySem PySem.Spec PyProof.Rows L2

/-- a slice's part that is left out -/
abbrev tNo : TO := fun _ H Q => Q none H
theorem po_no {X : Cx} : PO X none tNo := po_none
/-! ### heaps that grow -/
theorem same_new {H : Hp} {p : Addr} (h : H p = none) (o : HO) : Same H (upd H p o) := fun b u q => by rw [upd_ne (ne_of_none q h)]; exact q
/-- an object that the first does not know may change -/
theorem Same.mut {H H' : Hp} {p : Addr} {o : HO} (e : Same H H') (h : H p = none) : Same H (upd H' p o) := fun a u ha => by
  rw [upd_ne (ne_of_none ha h)]
  exact e a u ha
/-- tuples stand; lists and dicts are lists and dicts still -/
structure Wk (H H' : Hp) : Prop where
  tup : ∀ a xs, H a = some (.tup xs) → H' a = some (.tup xs)
  lst : ∀ a xs, H a = some (.lst xs) → ∃ ys, H' a = some (.lst ys)
  dK : ∀ a xs, H a = some (.dK xs) → ∃ ys, H' a = some (.dK ys)
theorem Wk.refl (H : Hp) : Wk H H := ⟨fun _ _ h => h, fun _ xs h => ⟨xs, h⟩, fun _ xs h => ⟨xs, h⟩⟩
theorem Wk.trans {H H1 H2 : Hp} (a : Wk H H1) (b : Wk H1 H2) : Wk H H2 :=
  ⟨fun x xs h => b.tup _ _ (a.tup _ _ h), fun x xs h => let ⟨_, e⟩ := a.lst _ _ h; b.lst _ _ e, fun x xs h => let ⟨_, e⟩ := a.dK _ _ h; b.dK _ _ e⟩
theorem Wk.same {H H' : Hp} (h : Same H H') : Wk H H' := ⟨fun _ _ q => h _ _ q, fun _ xs q => ⟨xs, h _ _ q⟩, fun _ xs q => ⟨xs, h _ _ q⟩⟩

/-! ### things -/
inductive Th where
  | non | bl (b : Bool) | int (i : Int) | str (z : Str) | tup (l : List Th) | ls | dc
/-- its signs are signs -/
def okS (z : Str) : Prop := ∀ c ∈ z.cps.toList, c < 1114112
mutual
/-- v stands for the thing t -/
inductive Rep (H : Hp) : V → Th → Prop
  | non : Rep H .non .non
  | bl (b : Bool) : Rep H (.bl b) (.bl b)
  | int (i : Int) : Rep H (.int i) (.int i)
  | str (z : Str) (h : z.length ≤ 100) (ok : okS z) : Rep H (.str z) (.str z)
  | tup {a : Addr} {xs : List V} {l : List Th} (h : H a = some (.tup xs)) (n : xs.length ≤ 100) (hl : RepL H xs l) : Rep H (.ref a) (.tup l)
  | ls {a : Addr} {xs : List V} (h : H a = some (.lst xs)) : Rep H (.ref a) .ls
  | dc {a : Addr} {kvs : List (Key × V)} (h : H a = some (.dK kvs)) : Rep H (.ref a) .dc
inductive RepL (H : Hp) : List V → List Th → Prop
  | nil : RepL H [] []
  | cons {v : V} {vs : List V} {t : Th} {ts : List Th} (h : Rep H v t) (r : RepL H vs ts) : RepL H (v :: vs) (t :: ts)
end
mutual
theorem Rep.wk {H H' : Hp} (w : Wk H H') : ∀ {v : V} {t : Th}, Rep H v t → Rep H' v t
  | _, _, .non => .non
  | _, _, .bl b => .bl b
  | _, _, .int i => .int i
  | _, _, .str z h ok => .str z h ok
  | _, _, .tup h n hl => .tup (w.tup _ _ h) n (RepL.wk w hl)
  | _, _, .ls h => let ⟨_, e⟩ := w.lst _ _ h; .ls e
  | _, _, .dc h => let ⟨_, e⟩ := w.dK _ _ h; .dc e
theorem RepL.wk {H H' : Hp} (w : Wk H H') : ∀ {vs : List V} {ts : List Th}, RepL H vs ts → RepL H' vs ts
  | _, _, .nil => .nil
  | _, _, .cons h r => .cons (Rep.wk w h) (RepL.wk w r)
end
theorem RepL.length {H : Hp} : ∀ {vs : List V} {ts : List Th}, RepL H vs ts → vs.length = ts.length
  | _, _, .nil => rfl
  | _, _, .cons _ r => congrArg Nat.succ (RepL.length r)
theorem RepL.get {H : Hp} : ∀ {vs : List V} {ts : List Th} {i : Nat} {t : Th}, RepL H vs ts → ts[i]? = some t → ∃ v, vs[i]? = some v ∧ Rep H v t
  | _, _, _, _, .nil, e => by simp at e
  | _, _, 0, t, .cons h _, e => by simp at e; subst e; exact ⟨_, rfl, h⟩
  | _, _, i + 1, t, .cons _ r, e => by
    obtain ⟨v, h1, h2⟩ := RepL.get (i := i) (t := t) r (by simpa using e)
    exact ⟨v, by simpa using h1, h2⟩
theorem RepL.get' {H : Hp} : ∀ {vs : List V} {ts : List Th} {i : Nat} {v : V}, RepL H vs ts → vs[i]? = some v → ∃ t, ts[i]? = some t ∧ Rep H v t
  | _, _, _, _, .nil, e => by simp at e
  | _, _, 0, t, .cons h _, e => by simp at e; subst e; exact ⟨_, rfl, h⟩
  | _, _, i + 1, t, .cons _ r, e => by
    obtain ⟨v, h1, h2⟩ := RepL.get' (i := i) (v := t) r (by simpa using e)
    exact ⟨v, by simpa using h1, h2⟩
theorem RepL.append {H : Hp} : ∀ {vs : List V} {ts : List Th} {vs' : List V} {ts' : List Th}, RepL H vs ts → RepL H vs' ts' → RepL H (vs ++ vs') (ts ++ ts')
  | _, _, _, _, .nil, s => s
  | _, _, _, _, .cons h r, s => .cons h (RepL.append r s)
theorem RepL.take {H : Hp} : ∀ {vs : List V} {ts : List Th} (n : Nat), RepL H vs ts → RepL H (vs.take n) (ts.take n)
  | _, _, 0, _ => .nil
  | _, _, _ + 1, .nil => .nil
  | _, _, n + 1, .cons h r => .cons h (RepL.take n r)
theorem RepL.drop {H : Hp} : ∀ {vs : List V} {ts : List Th} (n : Nat), RepL H vs ts → RepL H (vs.drop n) (ts.drop n)
  | _, _, 0, r => r
  | _, _, _ + 1, .nil => .nil
  | _, _, n + 1, .cons _ r => RepL.drop n r
theorem RepL.rep {H : Hp} {vs : List V} {ts : List Th} (r : RepL H vs ts) : ∀ n : Nat, RepL H (List.replicate n vs).flatten (List.replicate n ts).flatten
  | 0 => .nil
  | n + 1 => by
    rw [List.replicate_succ, List.replicate_succ, List.flatten_cons, List.flatten_cons]
    exact r.append (RepL.rep r n)

/-! ### isinstance -/
def Th.ty : Th → String
  | .non => "NoneType" | .bl _ => "bool" | .int _ => "int" | .str _ => "str" | .tup _ => "tuple" | .ls => "list" | .dc => "dict"
def Th.isStr : Th → Bool | .str _ => true | _ => false
def Th.isTup : Th → Bool | .tup _ => true | _ => false
def Th.isBl : Th → Bool | .bl _ => true | _ => false
theorem Rep.tyx {K : PySem.W.Frag} {H : Hp} {v : V} {t : Th} (r : Rep H v t) : TyX K H v (.type t.ty) := by
  cases r with
  | non => exact .base .non
  | bl b => exact .base (.bl b)
  | int i => exact .base (.int i)
  | str z h ok => exact .base (.str z)
  | tup h n hl => exact .base (.tup h)
  | ls h => exact .base (.lst h)
  | dc h => exact .base (.dK h)
theorem kstr {K : PySem.W.Frag} : ∀ t : Th, PySem.W.kitOne K (.type t.ty) (.type "str") = some t.isStr
  | .non => kit_ty (show kitB "NoneType" "str" = some false by decide +kernel)
  | .bl _ => kit_ty (show kitB "bool" "str" = some false by decide +kernel)
  | .int _ => kit_ty (show kitB "int" "str" = some false by decide +kernel)
  | .str _ => kit_ty (show kitB "str" "str" = some true by decide +kernel)
  | .tup _ => kit_ty (show kitB "tuple" "str" = some false by decide +kernel)
  | .ls => kit_ty (show kitB "list" "str" = some false by decide +kernel)
  | .dc => kit_ty (show kitB "dict" "str" = some false by decide +kernel)
theorem ktup {K : PySem.W.Frag} : ∀ t : Th, PySem.W.kitOne K (.type t.ty) (.type "tuple") = some t.isTup
  | .non => kit_ty (show kitB "NoneType" "tuple" = some false by decide +kernel)
  | .bl _ => kit_ty (show kitB "bool" "tuple" = some false by decide +kernel)
  | .int _ => kit_ty (show kitB "int" "tuple" = some false by decide +kernel)
  | .str _ => kit_ty (show kitB "str" "tuple" = some false by decide +kernel)
  | .tup _ => kit_ty (show kitB "tuple" "tuple" = some true by decide +kernel)
  | .ls => kit_ty (show kitB "list" "tuple" = some false by decide +kernel)
  | .dc => kit_ty (show kitB "dict" "tuple" = some false by decide +kernel)
theorem kbl {K : PySem.W.Frag} : ∀ t : Th, PySem.W.kitOne K (.type t.ty) (.type "bool") = some t.isBl
  | .non => kit_ty (show kitB "NoneType" "bool" = some false by decide +kernel)
  | .bl _ => kit_ty (show kitB "bool" "bool" = some true by decide +kernel)
  | .int _ => kit_ty (show kitB "int" "bool" = some false by decide +kernel)
  | .str _ => kit_ty (show kitB "str" "bool" = some false by decide +kernel)
  | .tup _ => kit_ty (show kitB "tuple" "bool" = some false by decide +kernel)
  | .ls => kit_ty (show kitB "list" "bool" = some false by decide +kernel)
  | .dc => kit_ty (show kitB "dict" "bool" = some false by decide +kernel)


/-! ### lists of ints, bools, texts as data -/
theorem dpInts {K : PySem.W.Frag} {H : Hp} : ∀ ns : List Int, DpAll K H (ns.map V.int) (ns.map PyData.int)
  | [] => .nil
  | n :: r => .cons (.int n) (dpInts r)
theorem dpBls {K : PySem.W.Frag} {H : Hp} : ∀ ns : List Bool, DpAll K H (ns.map V.bl) (ns.map PyData.bool)
  | [] => .nil
  | n :: r => .cons (.bl n) (dpBls r)
theorem dpStrs {K : PySem.W.Frag} {H : Hp} : ∀ ns : List Str, DpAll K H (ns.map V.str) (ns.map PyData.str)
  | [] => .nil
  | n :: r => .cons (.str n) (dpStrs r)
theorem depth_all0 {α : Type} {f : α → PyData} (h : ∀ a, (f a).depth = 0) : ∀ l : List α, PyData.depthAll (l.map f) = 0
  | [] => rfl
  | a :: r => by
    show max (f a).depth (PyData.depthAll (r.map f)) = 0
    rw [h a, depth_all0 h r]
    rfl
theorem can_all {α : Type} {f : α → PyData} : ∀ l : List α, (∀ a ∈ l, (f a).canLay0 = true) → PyData.canLayAll0 (l.map f) = true
  | [], _ => rfl
  | a :: r, h => by
    show ((f a).canLay0 && PyData.canLayAll0 (r.map f)) = true
    rw [h a (List.mem_cons_self ..), can_all r fun b hb => h b (List.mem_cons_of_mem _ hb)]
    rfl
theorem shaped_of {α : Type} {f : α → PyData} (h : ∀ a, (f a).depth = 0) (l : List α) (c : ∀ a ∈ l, (f a).canLay0 = true) : SeqAt.shaped (.list (l.map f)) = true := by
  unfold SeqAt.shaped
  have e1 : (PyData.list (l.map f)).canLay0 = true := can_all l c
  have e2 : (PyData.list (l.map f)).depth = 1 := by
    show PyData.depthAll (l.map f) + 1 = 1
    rw [depth_all0 h]
  rw [e1, e2]
  rfl
theorem shapedInts (l : List Int) : SeqAt.shaped (.list (l.map PyData.int)) = true := shaped_of (fun _ => rfl) l fun _ _ => rfl
theorem shapedBls (l : List Bool) : SeqAt.shaped (.list (l.map PyData.bool)) = true := shaped_of (fun _ => rfl) l fun _ _ => rfl
theorem shapedStrs (l : List Str) (h : ∀ z ∈ l, okS z) : SeqAt.shaped (.list (l.map PyData.str)) = true := shaped_of (fun _ => rfl) l fun z hz => by
  have := h z hz
  simp only [PyData.canLay0, PyData.strOk, Array.all_eq_true_iff_forall_mem, decide_eq_true_eq]
  intro x hx
  exact this x (Array.mem_toList_iff.mpr hx)
theorem eqvNil (l : List PyData) : PyData.eqv (.list l) (.list []) = l.isEmpty := by
  cases l <;> rfl
theorem eqvBls : ∀ l r : List Bool, PyData.eqvAll (l.map PyData.bool) (r.map PyData.bool) = decide (l = r)
  | [], [] => rfl
  | [], b :: s => by simp [PyData.eqvAll]
  | a :: l, [] => by simp [PyData.eqvAll]
  | a :: l, b :: r => by
    show (PyData.eqv (.bool a) (.bool b) && PyData.eqvAll (l.map PyData.bool) (r.map PyData.bool)) = _
    rw [eqvBls l r]
    show ((a == b) && decide (l = r)) = _
    by_cases h : a = b
    · subst h
      simp
    · simp [h]

theorem yesI {σ : L2.St} {H : Hp} {X Y : Hp → Prop} (h : X H) : tYes σ H fun b H3 => if b = true then X H3 else Y H3 := by
  unfold tYes
  dsimp only
  rw [if_pos rfl]
  exact h
/-! ### comprehensions whose element only tells -/
section
variable {J : It} {n : Nat} {G : Hp → Prop} {Y : Nat → Hp → V → Hp → Prop} {te : TE} {vs : List Nat} {σ : L2.St} {H1 : Hp} {D : Addr} {Qd : Hp → Prop} {j : Nat}
theorem lc_pure (w : Walk J n G Y) (f : Nat → V) (hD : H1 D = none) (hn : n ≤ 1000) (hG : ∀ H', Same H1 H' → G H') (hset : ∀ x, wipe ((wipe σ vs).set j (some x)) vs = wipe σ vs)
    (he : ∀ i x H H', i < n → Same H1 H → Y i H x H' → Same H H' ∧ ∀ Q : VK, (∀ H2, Same H' H2 → Q (f i) H2) → te ((wipe σ vs).set j (some x)) H' Q)
    (hd : ∀ H', Same H1 H' → H' D = some (.lst ((List.range n).map f)) → Qd H') :
    ∃ W : Nat → Nat → Hp → Prop, (∃ m, W 0 m (upd H1 D (.lst []))) ∧ ∀ i m H, W i m H →
      (J.stop i H ∧ Qd H) ∨ (J.go i H ∧ ∃ Nx : Hp → Prop, (∀ H', Nx H' → ∃ m', m' < m ∧ W (i + 1) m' H') ∧ ∀ x H', J.yld i H x H' → gName j x (wipe σ vs) H' fun σ2 H2 => wipe σ2 vs = wipe σ vs ∧ tYes σ2 H2 fun b H3 =>
        if b = true then te σ2 H3 fun y H4 => ∃ acc, H4 D = some (.lst acc) ∧ acc.length < sizeLine ∧ Nx (upd H4 D (.lst (acc ++ [y]))) else Nx H3) := by
  refine lc_it w (g := gName j) (tt := tYes) (fun i H => Same H1 H ∧ H D = some (.lst ((List.range i).map f))) ⟨same_new hD _, upd_same⟩ (fun i H _ p => hG H p.1) (fun i x H H' hi p y => ?_) (fun H p => hd H p.1 p.2)
  obtain ⟨s, k⟩ := he i x H H' hi p.1 y
  refine ⟨hset x, ?_⟩
  unfold tYes
  dsimp only
  rw [if_pos rfl]
  refine k _ fun H2 s2 => ⟨_, s2 _ _ (s _ _ p.2), ?_, ?_, ?_⟩
  · rw [List.length_map, List.length_range]
    exact small1000 (by omega)
  · exact Same.mut ((p.1.trans s).trans s2) hD
  · rw [upd_same, List.range_succ, List.map_append]
    rfl
end
end Kt
namespace Kt
open PySem PySem.Spec PyProof.Rows L2
/-! a tuple once is the tuple itself -/
theorem tuple_mul1 (l : Addr) (items : Array Value) (n : Nat) (dd : Option Addr) (sl : Array (Option Value)) (u : Tok) (c1 : (items.isEmpty || (1 : Int) == 1) = true) :
    Meets (Builtin.«tuple.__mul__» ⟨[.ref l, .int 1 u], []⟩) (fun _ R s => s.heap.get? l = some { cls := .type "tuple", dict := dd, data := .seq items n, slots := sl } ∧
      R (.ok (.ret (Value.ref l))) s) :=
  .of_wp fun prog w A R s h => by
    obtain ⟨hp, g, d, tk, os⟩ := s
    obtain ⟨hl, h⟩ := h
    have f1 := AutoSeq1.idx_int
    wp_walk using wpAny_loadPart' hl
    repeat (first
      | (refine wpAny_ite_false (decide_eq_false (by decide)) ?_; wp_walk using wpAny_loadPart' hl)
      | (refine wpAny_ite_true (decide_eq_true (by rw [c1])) ?_; wp_walk using wpAny_loadPart' hl))
    exact ⟨_, rfl, h⟩
section
variable {X : Cx}
def rRep1 (K : PySem.W.Frag) : R2 := fun x y H Q => ∃ l xs, x = .ref l ∧ y = .int 1 ∧ SqT K H l xs ∧ Q (.ref l) H
theorem op_rep1 : OpR X (binaryOp .Mult) (rRep1 X.K) := by
  intro pins s σ H x y v u Q I rx ry h
  obtain ⟨l, xs, rfl, rfl, hT, q⟩ := h
  cases rx
  obtain ⟨t, rfl⟩ := ry
  obtain ⟨its, r, ⟨⟨cls, dd, data, sl⟩, ho, hc, n, hd⟩, hs⟩ := I.tuple hT
  simp only at hc hd
  subst hc hd
  refine wpAny_binaryOp_repeat_ref (T := "tuple") (U := "int") (by decide) ⟨_, ho, rfl⟩ (fun s' => typeIs_int s' 1 t) noFill_tuple_mul F.fills_int_mul F.slot_int_rmul repeat_tuple F.slot_int_index.lookup
    (call_meets F.slot_int_rmul (typeIs_int s 1 t) F.entry_int_rmul (F.args_int_rmul_2 _ _) (int_rmul_tuple 1 t l its.toArray n dd sl)
      ⟨ho, rfl, ⟨_, ho, rfl⟩, call_meets F.slot_tuple_mul ⟨_, ho, rfl⟩ F.entry_tuple_mul (F.args_tuple_mul_2 _ _) (tuple_mul1 l its.toArray n dd sl t (by rw [Bool.or_eq_true]; exact .inr rfl)) ⟨ho, ?_⟩⟩)
  exact ⟨.ref l, H, I, rfl, q⟩
/-- a tuple, one to a thousand times -/
def rRepA (K : PySem.W.Frag) : R2 := fun x y H Q => rRepT K x y H Q ∨ rRep1 K x y H Q
theorem op_repTA : OpR X (binaryOp .Mult) (rRepA X.K) := OpR.or op_repT op_rep1
end
end Kt
namespace Kt
open PySem PySem.Spec PyProof.Rows L2
def topS (i : Nat) : Stmt := PySem.Challenge.pw_likematch_k01_terms_and_patterns.main.body.getD i (.Pass ⟨0, 0, 0, 0⟩)
abbrev s_is_word : Stmt := topS 7
theorem sc_is_word : FnScope ["thing", "most", "sign"] ["thing", "most"] (defScope s_is_word) := ⟨rfl, rfl, rfl, by decide +kernel, rfl, by decide +kernel, by decide +kernel⟩
abbrev s_is_name : Stmt := topS 8
theorem sc_is_name : FnScope ["thing"] ["thing"] (defScope s_is_name) := ⟨rfl, rfl, rfl, by decide +kernel, rfl, by decide +kernel, by decide +kernel⟩
abbrev s_is_hole : Stmt := topS 9
theorem sc_is_hole : FnScope ["thing"] ["thing"] (defScope s_is_hole) := ⟨rfl, rfl, rfl, by decide +kernel, rfl, by decide +kernel, by decide +kernel⟩
abbrev s_size_within : Stmt := topS 10
theorem sc_size_within : FnScope ["thing", "holes", "deep", "size", "part", "more"] ["thing", "holes", "deep"] (defScope s_size_within) := ⟨rfl, rfl, rfl, by decide +kernel, rfl, by decide +kernel, by decide +kernel⟩
abbrev s_is_term : Stmt := topS 11
theorem sc_is_term : FnScope ["thing"] ["thing"] (defScope s_is_term) := ⟨rfl, rfl, rfl, by decide +kernel, rfl, by decide +kernel, by decide +kernel⟩
abbrev s_is_pattern : Stmt := topS 12
theorem sc_is_pattern : FnScope ["thing"] ["thing"] (defScope s_is_pattern) := ⟨rfl, rfl, rfl, by decide +kernel, rfl, by decide +kernel, by decide +kernel⟩
abbrev s__law_begin : Stmt := topS 14
theorem sc__law_begin : FnScope ["_law_script", "_law_cells", "_law_cell"] ["_law_script"] (defScope s__law_begin) := ⟨rfl, rfl, rfl, by decide +kernel, rfl, by decide +kernel, by decide +kernel⟩
abbrev s__law_take : Stmt := topS 15
theorem sc__law_take : FnScope ["_law_draw", "_law_size_here", "_law_cells", "_law_at", "_law_cell"] ["_law_draw", "_law_size_here"] (defScope s__law_take) := ⟨rfl, rfl, rfl, by decide +kernel, rfl, by decide +kernel, by decide +kernel⟩
abbrev s__law_pick : Stmt := topS 16
theorem sc__law_pick : FnScope ["_law_draw", "_law_some"] ["_law_draw", "_law_some"] (defScope s__law_pick) := ⟨rfl, rfl, rfl, by decide +kernel, rfl, by decide +kernel, by decide +kernel⟩
abbrev s__law_word : Stmt := topS 17
theorem sc__law_word : FnScope ["_law_draw", "_law_way", "_law_word_here", "_law_k"] ["_law_draw"] (defScope s__law_word) := ⟨rfl, rfl, rfl, by decide +kernel, rfl, by decide +kernel, by decide +kernel⟩
abbrev s__law_hole : Stmt := topS 18
theorem sc__law_hole : FnScope ["_law_draw", "_law_word_here", "_law_k"] ["_law_draw"] (defScope s__law_hole) := ⟨rfl, rfl, rfl, by decide +kernel, rfl, by decide +kernel, by decide +kernel⟩
abbrev s__law_pattern : Stmt := topS 19
theorem sc__law_pattern : FnScope ["_law_draw", "_law_left", "_law_holed", "_law_many", "_law_k"] ["_law_draw", "_law_left", "_law_holed"] (defScope s__law_pattern) := ⟨rfl, rfl, rfl, by decide +kernel, rfl, by decide +kernel, by decide +kernel⟩
abbrev s__law_letters : Stmt := topS 20
theorem sc__law_letters : FnScope ["_law_text", "_law_most", "_law_sign"] ["_law_text", "_law_most"] (defScope s__law_letters) := ⟨rfl, rfl, rfl, by decide +kernel, rfl, by decide +kernel, by decide +kernel⟩
abbrev s__law_shape : Stmt := topS 21
theorem sc__law_shape : FnScope ["_law_one", "_law_holed", "_law_part"] ["_law_one", "_law_holed"] (defScope s__law_shape) := ⟨rfl, rfl, rfl, by decide +kernel, rfl, by decide +kernel, by decide +kernel⟩
abbrev s__law_size : Stmt := topS 22
theorem sc__law_size : FnScope ["_law_one", "_law_part"] ["_law_one"] (defScope s__law_size) := ⟨rfl, rfl, rfl, by decide +kernel, rfl, by decide +kernel, by decide +kernel⟩
abbrev s__law_depth : Stmt := topS 23
theorem sc__law_depth : FnScope ["_law_one", "_law_part"] ["_law_one"] (defScope s__law_depth) := ⟨rfl, rfl, rfl, by decide +kernel, rfl, by decide +kernel, by decide +kernel⟩
abbrev s__law_due : Stmt := topS 24
theorem sc__law_due : FnScope ["_law_one", "_law_holed"] ["_law_one", "_law_holed"] (defScope s__law_due) := ⟨rfl, rfl, rfl, by decide +kernel, rfl, by decide +kernel, by decide +kernel⟩
abbrev s__law_odd : Stmt := topS 25
theorem sc__law_odd : FnScope ["_law_draw", "_law_one", "_law_odd_here", "_law_way"] ["_law_draw", "_law_one"] (defScope s__law_odd) := ⟨rfl, rfl, rfl, by decide +kernel, rfl, by decide +kernel, by decide +kernel⟩
abbrev s__law_spoilt : Stmt := topS 26
theorem sc__law_spoilt : FnScope ["_law_draw", "_law_one", "_law_at"] ["_law_draw", "_law_one"] (defScope s__law_spoilt) := ⟨rfl, rfl, rfl, by decide +kernel, rfl, by decide +kernel, by decide +kernel⟩
abbrev s_law : Stmt := topS 27
theorem sc_law : FnScope ["_law_script", "_law_draw", "_law_turn", "_law_spoil", "_law_holed", "_law_one", "_law_due_here", "_law_found", "_law_deepest", "_law_widest", "_law_k", "_law_some", "_law_told"] ["_law_script"] (defScope s_law) := ⟨rfl, rfl, rfl, by decide +kernel, rfl, by decide +kernel, by decide +kernel⟩
/-- what the top has left -/
structure Tx (K : PySem.W.Frag) (mg : Str → Option Value) : Prop where
  d_is_word : Dx K mg "is_word" s_is_word ["thing", "most"]
  d_is_name : Dx K mg "is_name" s_is_name ["thing"]
  d_is_hole : Dx K mg "is_hole" s_is_hole ["thing"]
  d_size_within : Dx K mg "size_within" s_size_within ["thing", "holes", "deep"]
  d_is_term : Dx K mg "is_term" s_is_term ["thing"]
  d_is_pattern : Dx K mg "is_pattern" s_is_pattern ["thing"]
  d__law_begin : Dx K mg "_law_begin" s__law_begin ["_law_script"]
  d__law_take : Dx K mg "_law_take" s__law_take ["_law_draw", "_law_size_here"]
  d__law_pick : Dx K mg "_law_pick" s__law_pick ["_law_draw", "_law_some"]
  d__law_word : Dx K mg "_law_word" s__law_word ["_law_draw"]
  d__law_hole : Dx K mg "_law_hole" s__law_hole ["_law_draw"]
  d__law_pattern : Dx K mg "_law_pattern" s__law_pattern ["_law_draw", "_law_left", "_law_holed"]
  d__law_letters : Dx K mg "_law_letters" s__law_letters ["_law_text", "_law_most"]
  d__law_shape : Dx K mg "_law_shape" s__law_shape ["_law_one", "_law_holed"]
  d__law_size : Dx K mg "_law_size" s__law_size ["_law_one"]
  d__law_depth : Dx K mg "_law_depth" s__law_depth ["_law_one"]
  d__law_due : Dx K mg "_law_due" s__law_due ["_law_one", "_law_holed"]
  d__law_odd : Dx K mg "_law_odd" s__law_odd ["_law_draw", "_law_one"]
  d__law_spoilt : Dx K mg "_law_spoilt" s__law_spoilt ["_law_draw", "_law_one"]
  d_law : Dx K mg "law" s_law ["_law_script"]
  m_LETTERS : ∃ t, mg "LETTERS" = some (.str "abcdefghijklmnopqrstuvwxyz" t)
  m_MOST_NAME : ∃ t, mg "MOST_NAME" = some (.int 8 t)
  m_MOST_HOLE : ∃ t, mg "MOST_HOLE" = some (.int 4 t)
  m_MOST_PARTS : ∃ t, mg "MOST_PARTS" = some (.int 3 t)
  m_MOST_SIZE : ∃ t, mg "MOST_SIZE" = some (.int 30 t)
  m_MOST_DEEP : ∃ t, mg "MOST_DEEP" = some (.int 5 t)
  z_abs : mg "abs" = none
  z_all : mg "all" = none
  z_bool : mg "bool" = none
  z_isinstance : mg "isinstance" = none
  z_len : mg "len" = none
  z_list : mg "list" = none
  z_max : mg "max" = none
  z_range : mg "range" = none
  z_str : mg "str" = none
  z_sum : mg "sum" = none
  z_tuple : mg "tuple" = none

def LS : Str := "abcdefghijklmnopqrstuvwxyz"
def lowc (c : Nat) : Bool := decide (c ∈ LS.cps.toList)
/-- a text of 1 to m small letters -/
def isW (z : Str) (m : Int) : Bool := decide (1 ≤ (z.length : Int)) && (decide ((z.length : Int) ≤ m) && z.cps.toList.all lowc)
def Th.word (m : Int) : Th → Bool | .str z => isW z m | _ => false
def sp_is_word : Sp := fun vs H Q _ => ∃ v t m, vs = [v, .int m] ∧ Rep H v t ∧ ∀ H', Same H H' → Q (.bl (t.word m)) H'
theorem range_map_get {β : Type} {l : List Nat} (p : Nat → β) : ((List.range l.length).map fun i => p (l.getD i 0)) = l.map p := by
  apply List.ext_getElem
  · rw [List.length_map, List.length_map, List.length_range]
  · intro i h1 h2
    rw [List.length_map, List.length_range] at h1
    rw [List.getElem_map, List.getElem_map, List.getElem_range, List.getD_eq_getElem?_getD, List.getElem?_eq_getElem h1]
    rfl
section
variable {P : Program} {w : World} {K : PySem.W.Frag} {mg : Str → Option Value} {base : Heap}
theorem c_is_word (T : Tx K mg) : Cl P w K mg base CX0 1 "is_word" ["thing", "most"] sp_is_word := by
  refine Cl.mk0 T.d_is_word sc_is_word (fun vs H Q E h => ?_) (fun f cdv A outer s H vs Q E hr h => ?_)
  · obtain ⟨v, t, m, rfl, _⟩ := h
    rfl
  obtain ⟨v, t, m, rfl, r, q⟩ := h
  refine ⟨_, (pss_cons (ps_if (PW.pt (pw_or (pt_not (pt_val (pe_callB (id := "isinstance") (r := rIsi K) call_isi (by rfl) T.z_isinstance (by decide +kernel) (pa_cons (pv 0) (pa_cons (pe_bltn (v := .ty "str") (u := .type "str") (by rfl) T.z_str (by decide +kernel) rfl) pa_nil))))) (pw_or1 (pt_not (pt_chain op_le op_le pe_int (pe_callB call_len (by rfl) T.z_len (by decide +kernel) (pa_cons (pv 0) pa_nil)) (pv 1))))))
      (pss_one (ps_ret pe_bl))
      pss_nil)
    (pss_one (ps_ret (pe_callB (cr_all rfl) (by rfl) T.z_all (by decide +kernel) (pa_cons (pe_lc (own := [("sign", 2)]) (g := gName 2) (tt := tYes) rfl sc_is_word.nd (pi_str (pv 0)) (blkOk_by (own := [("sign", 2)]) (N := ["thing", "most", "sign"]) (sc := defScope s_is_word) (by decide +kernel)) (fun _ _ _ _ _ => (pg_name (i := 2) sc_is_word.nd rfl (Or.inl rfl))) (fun _ _ _ _ _ => pts_nil) (fun _ _ _ _ _ => (pe_cmpR op_in_sign (pv 2) (pe_glob (v := .str "abcdefghijklmnopqrstuvwxyz") (by rfl) T.m_LETTERS.choose_spec ⟨_, rfl⟩) rfl))) pa_nil))))), ?_⟩
  refine ⟨_, rfl, _, _, _, _, _, rfl, .ty _, r.tyx, kstr t, _, rfl, ?_⟩
  cases r with
  | str z hz ok =>
    refine iteF ?_
    refine ⟨_, rfl, _, _, rfl, ⟨Nat.le_of_lt (small1000 (by omega)), rfl⟩, _, _, rfl, rfl, _, rfl, ?_⟩
    have fin : ∀ (b : Bool), isW z m = b → ∀ H', Same H H' → Q (.bl b) H' := fun b e H' s => e ▸ q H' s
    refine ite2 (fun c1 => ?_) (fun c1 => ?_)
    · refine ⟨_, rfl, _, _, rfl, rfl, _, rfl, ?_⟩
      refine ite2 (fun c2 => ?_) (fun c2 => ?_)
      · refine fin false ?_ H (Same.refl H)
        have c2' : decide ((z.length : Int) ≤ m) = false := by simpa using c2
        unfold isW
        rw [c2', Bool.false_and, Bool.and_false]
      · have c2' : decide ((z.length : Int) ≤ m) = true := by simpa using c2
        refine ⟨_, rfl, _, rfl, fun D hD => ?_⟩
        refine lc_pure (walk_str) (fun i => .bl (lowc (z.cps.toList.getD i 0))) hD ?_ (fun _ _ => trivial) (fun x => rfl) (fun i x H1 H2 hi s1 y => ?_) (fun H1 s1 e1 => ?_)
        · have : z.cps.size ≤ 100 := hz
          omega
        · obtain ⟨rfl, c, hc, rfl⟩ := y
          refine ⟨Same.refl _, fun Q' q' => ⟨_, rfl, _, _, rfl, rfl, ?_⟩⟩
          have e : z.cps.toList.getD i 0 = c := by
            rw [List.getD_eq_getElem?_getD, Array.getElem?_toList, hc]
            rfl
          have e2 : lowc (z.cps.toList.getD i 0) = decide (c ∈ LS.cps.toList) := by rw [e]; rfl
          rw [e2] at q'
          exact q' _ (Same.refl _)
        · refine ⟨D, z.cps.toList.map lowc, rfl, SqL.of ?_, ?_⟩
          · rw [e1, List.map_map]
            exact congrArg (fun l => some (HO.lst l)) (range_map_get (l := z.cps.toList) fun c => V.bl (lowc c))
          · refine fin _ ?_ H1 s1
            unfold isW
            rw [c1, c2', Bool.true_and, Bool.true_and, List.all_map]
            rfl
    · refine ⟨_, rfl, iteT (fin false ?_ H (Same.refl H))⟩
      have c1' : decide (1 ≤ (z.length : Int)) = false := by simpa using c1
      unfold isW
      rw [c1', Bool.false_and]
  | _ => exact iteT (iteT (q H (Same.refl H)))
end
end Kt
namespace Kt
open PySem PySem.Spec PyProof.Rows L2
/-! ### slices -/
theorem cutV_lo (xs : List V) (k : Nat) : cutV xs (some (k : Int)) none = xs.drop k := by
  unfold cutV
  rw [HT.sIx_nat, HT.sIx_none]
  by_cases h : k ≤ xs.length
  · rw [Nat.min_eq_left h, ← List.length_drop, List.take_length]
  · rw [Nat.min_eq_right (by omega), List.drop_eq_nil_of_le (Nat.le_refl _), List.drop_eq_nil_of_le (by omega)]
    simp
theorem cutV_hi (xs : List V) (k : Nat) : cutV xs none (some (k : Int)) = xs.take k := by
  unfold cutV
  rw [HT.sIx_nat, HT.sIx_none, Nat.sub_zero, List.drop_zero, List.take_eq_take_iff]
  omega
theorem sl_lo {K : PySem.W.Frag} {H : Hp} {a : Addr} {xs : List V} {Q : VK} (k : Nat) (h : H a = some (.tup xs)) (hk : 0 < k) (hn : 0 < xs.length) (q : ∀ p, H p = none → Q (.ref p) (upd H p (.tup (xs.drop k)))) : rSlA K (.ref a) (some (k : Int)) none H Q := by
  refine ⟨a, xs, rfl, SqT.of h, fun e => absurd e.1 ?_, fun _ p hp => ?_⟩
  · rw [HT.sIx_nat]
    omega
  · rw [cutV_lo]
    exact q p hp
theorem sl_hi {K : PySem.W.Frag} {H : Hp} {a : Addr} {xs : List V} {Q : VK} (k : Nat) (h : H a = some (.tup xs)) (hk : k < xs.length) (q : ∀ p, H p = none → Q (.ref p) (upd H p (.tup (xs.take k)))) : rSlA K (.ref a) none (some (k : Int)) H Q := by
  refine ⟨a, xs, rfl, SqT.of h, fun e => absurd e.2 ?_, fun _ p hp => ?_⟩
  · rw [HT.sIx_nat]
    omega
  · rw [cutV_hi]
    exact q p hp
theorem cutS_len (z : Str) (lo hi : Option Int) : (cutS z lo hi).length ≤ z.length := by
  show ((z.cps.toList.drop _).take _).length ≤ z.cps.size
  rw [List.length_take, List.length_drop, Array.length_toList]
  omega
theorem cutS_ok {z : Str} (h : okS z) (lo hi : Option Int) : okS (cutS z lo hi) := fun c hc => h c (List.mem_of_mem_drop (List.mem_of_mem_take hc))
/-! ### what the program tells -/
def isHl (z : Str) : Bool := decide (V.str (cutS z none (some 1)) = V.str "?") && isW (cutS z (some 1) none) 4
def Th.hole : Th → Bool | .str z => isHl z | _ => false
def swl (f : Th → Int) (acc : Int) : List Th → Int
  | [] => acc
  | p :: ps => if f p = 0 then 0 else swl f (acc + f p) ps
def sw (h : Bool) : Nat → Th → Int
  | 0, _ => 0
  | d + 1, t => if t.hole then (if h then 1 else 0) else match t with
    | .tup (x :: ps) => if ps.length ≤ 3 ∧ x.word 8 = true then swl (sw h d) 1 ps else 0
    | _ => 0
def sp_is_name : Sp := fun vs H Q _ => ∃ v t, vs = [v] ∧ Rep H v t ∧ ∀ H', Same H H' → Q (.bl (t.word 8)) H'
def sp_is_hole : Sp := fun vs H Q _ => ∃ v t, vs = [v] ∧ Rep H v t ∧ ∀ H', Same H H' → Q (.bl t.hole) H'
def sp_size_within (n : Nat) : Sp := fun vs H Q _ => ∃ v t b, ∃ d : Nat, vs = [v, .bl b, .int (d : Int)] ∧ d < n ∧ Rep H v t ∧ ∀ H', Same H H' → Q (.int (sw b d t)) H'
def within (b : Bool) (t : Th) : Bool := decide (1 ≤ sw b 5 t) && decide (sw b 5 t ≤ 30)
def sp_is_term : Sp := fun vs H Q _ => ∃ v t, vs = [v] ∧ Rep H v t ∧ ∀ H', Same H H' → Q (.bl (within false t)) H'
def sp_is_pattern : Sp := fun vs H Q _ => ∃ v t, vs = [v] ∧ Rep H v t ∧ ∀ H', Same H H' → Q (.bl (within true t)) H'
section
variable {P : Program} {w : World} {K : PySem.W.Frag} {mg : Str → Option Value} {base : Heap}
theorem c_is_name (T : Tx K mg) : Cl P w K mg base CX0 2 "is_name" ["thing"] sp_is_name := by
  refine Cl.mk0 T.d_is_name sc_is_name (fun vs H Q E h => ?_) (fun f cdv A outer s H vs Q E hr h => ?_)
  · obtain ⟨v, t, rfl, _⟩ := h
    rfl
  obtain ⟨v, t, rfl, r, q⟩ := h
  refine ⟨_, (pss_one (ps_ret (pe_cl (c_is_word T) hr (by omega) rfl (pa_cons (pv 0) (pa_cons (pe_glob (v := .int 8) (by rfl) T.m_MOST_NAME.choose_spec ⟨_, rfl⟩) pa_nil))))), ?_⟩
  exact ⟨_, rfl, v, t, 8, rfl, r, q⟩
theorem c_is_hole (T : Tx K mg) : Cl P w K mg base CX0 2 "is_hole" ["thing"] sp_is_hole := by
  refine Cl.mk0 T.d_is_hole sc_is_hole (fun vs H Q E h => ?_) (fun f cdv A outer s H vs Q E hr h => ?_)
  · obtain ⟨v, t, rfl, _⟩ := h
    rfl
  obtain ⟨v, t, rfl, r, q⟩ := h
  refine ⟨_, (pss_one (ps_ret (pe_and (pe_callB (id := "isinstance") (r := rIsi K) call_isi (by rfl) T.z_isinstance (by decide +kernel) (pa_cons (pv 0) (pa_cons (pe_bltn (v := .ty "str") (u := .type "str") (by rfl) T.z_str (by decide +kernel) rfl) pa_nil))) (pe_and (pe_cmpR op_eq (pe_slice sl_str (pv 0) po_no (po_some pe_int)) pe_str (nomark _)) (pe_one (pe_cl (c_is_word T) hr (by omega) rfl (pa_cons (pe_slice sl_str (pv 0) (po_some pe_int) po_no) (pa_cons (pe_glob (v := .int 4) (by rfl) T.m_MOST_HOLE.choose_spec ⟨_, rfl⟩) pa_nil)))))))), ?_⟩
  refine ⟨_, rfl, _, _, _, _, _, rfl, .ty _, r.tyx, kstr t, _, rfl, ?_⟩
  cases r with
  | str z hz ok =>
    have hz' : z.length ≤ sizeLine := Nat.le_of_lt (small1000 (by omega))
    have fin : ∀ (b : Bool), isHl z = b → ∀ H', Same H H' → Q (.bl b) H' := fun b e H' s => e ▸ q H' s
    refine iteT ⟨_, rfl, 1, rfl, _, rfl, hz', rfl, _, rfl, ite2 (fun c => ?_) (fun c => ?_)⟩
    · refine ⟨_, rfl, 1, rfl, _, rfl, hz', _, .str _, 4, rfl, .str _ (Nat.le_trans (cutS_len _ _ _) hz) (cutS_ok ok _ _), fun H' s => ?_⟩
      refine fin _ ?_ H' s
      unfold isHl
      rw [c, Bool.true_and]
      rfl
    · refine fin _ ?_ H (Same.refl H)
      unfold isHl
      rw [Bool.eq_false_iff.mpr c, Bool.false_and]
  | _ => exact iteF (q H (Same.refl H))
theorem c_size_within_n (T : Tx K mg) : ∀ n : Nat, Cl P w K mg base CX0 (n + 2) "size_within" ["thing", "holes", "deep"] (sp_size_within n)
  | 0 => Cl.no T.d_size_within fun vs H Q E h => by
    obtain ⟨v, t, b, d, _, hd, _⟩ := h
    exact absurd hd (Nat.not_lt_zero d)
  | n + 1 => by
    have ih := c_size_within_n T n
    refine Cl.mk0 T.d_size_within sc_size_within (fun vs H Q E h => ?_) (fun f cdv A outer s H vs Q E hr h => ?_)
    · obtain ⟨v, t, b, d, rfl, _⟩ := h
      rfl
    obtain ⟨v, t, b, d, rfl, hd, r, q⟩ := h
    refine ⟨_, (pss_cons (ps_if (pt_cmpR op_eq (pv 2) pe_int (nomark _))
      (pss_one (ps_ret pe_int))
      pss_nil)
    (pss_cons (ps_if (pt_val (pe_cl (c_is_hole T) hr (by omega) rfl (pa_cons (pv 0) pa_nil)))
      (pss_one (ps_ret (pe_ifExp (pt_val (pv 1)) pe_int pe_int)))
      pss_nil)
    (pss_cons (ps_if (PW.pt (pw_or (pt_not (pt_val (pe_callB (id := "isinstance") (r := rIsi K) call_isi (by rfl) T.z_isinstance (by decide +kernel) (pa_cons (pv 0) (pa_cons (pe_bltn (v := .ty "tuple") (u := .type "tuple") (by rfl) T.z_tuple (by decide +kernel) rfl) pa_nil))))) (pw_or (pt_not (pt_chain op_le op_le pe_int (pe_callB call_len (by rfl) T.z_len (by decide +kernel) (pa_cons (pv 0) pa_nil)) (pe_op op_add pe_int (pe_glob (v := .int 3) (by rfl) T.m_MOST_PARTS.choose_spec ⟨_, rfl⟩)))) (pw_or1 (pt_not (pt_val (pe_cl (c_is_name T) hr (by omega) rfl (pa_cons (pe_ix ix_tup (pv 0) pe_int (fun _ _ => rfl)) pa_nil))))))))
      (pss_one (ps_ret pe_int))
      pss_nil)
    (pss_cons (ps_set (i := 3) sc_size_within.nd rfl (Or.inl rfl) pe_int)
    (pss_cons (ps_for PassesOwn.never rfl (pi_tup (pe_slice sl_tupA (pv 0) (po_some pe_int) po_no)) (pg_name (i := 4) sc_size_within.nd rfl (Or.inl rfl))
      (pss_cons (ps_set (i := 5) sc_size_within.nd rfl (Or.inl rfl) (pe_cl ih hr (by omega) rfl (pa_cons (pv 4) (pa_cons (pv 1) (pa_cons (pe_op op_sub (pv 2) pe_int) pa_nil)))))
      (pss_cons (ps_if (pt_cmpR op_eq (pv 5) pe_int (nomark _))
        (pss_one (ps_ret pe_int))
        pss_nil)
      (pss_one (ps_aug (i := 3) sc_size_within.nd rfl (Or.inl rfl) (pv 5) ip_add)))))
    (pss_one (ps_ret (pv 3)))))))), ?_⟩
    refine ⟨_, rfl, rfl, _, rfl, ite2 (fun c => ?_) (fun c => ?_)⟩
    · have e : (d : Int) = 0 := V.int.inj (of_decide_eq_true c)
      have e0 : d = 0 := by omega
      subst e0
      exact q H (Same.refl H)
    have d0 : d ≠ 0 := fun e => by
      subst e
      exact c (decide_eq_true rfl)
    obtain ⟨d', rfl⟩ : ∃ d', d = d' + 1 := ⟨d - 1, by omega⟩
    have fin : ∀ (i : Int), sw b (d' + 1) t = i → ∀ H', Same H H' → Q (.int i) H' := fun i e H' s => e ▸ q H' s
    refine ⟨_, rfl, v, t, rfl, r, fun H1 s1 => ⟨_, rfl, ite2 (fun c1 => ?_) (fun c1 => ?_)⟩⟩
    · have e : sw b (d' + 1) t = if b then 1 else 0 := by
        unfold sw
        rw [if_pos c1]
      cases b with
      | true => exact ⟨_, rfl, _, rfl, iteT (fin 1 e H1 s1)⟩
      | false => exact ⟨_, rfl, _, rfl, iteF (fin 0 e H1 s1)⟩
    have r1 := r.wk (Wk.same s1)
    refine ⟨_, rfl, _, _, _, _, _, rfl, .ty _, r1.tyx, ktup t, _, rfl, ?_⟩
    cases r1 with
    | @tup a xs l ha hn hl =>
      have no : ∀ H', Same H H' → (∀ x ps, l = x :: ps → ¬ (ps.length ≤ 3 ∧ x.word 8 = true)) → Q (.int 0) H' := fun H' s' k => fin 0 (by
        unfold sw
        rw [if_neg c1]
        cases l with
        | nil => rfl
        | cons x ps =>
          show (if ps.length ≤ 3 ∧ x.word 8 = true then swl (sw b d') 1 ps else 0) = 0
          rw [if_neg (k x ps rfl)]) H' s'
      have hlen := hl.length
      refine iteF ⟨_, rfl, _, _, rfl, .inr ⟨xs, SqT.of ha, rfl⟩, _, _, rfl, rfl, _, rfl, ite2 (fun c2 => ?_) (fun c2 => ?_)⟩
      · have c2' : 1 ≤ (xs.length : Int) := of_decide_eq_true c2
        refine ⟨_, _, rfl, rfl, _, _, rfl, rfl, _, rfl, ite2 (fun c3 => ?_) (fun c3 => ?_)⟩
        · have c3' : ¬ (xs.length : Int) ≤ 1 + 3 := of_decide_eq_false (by simpa using c3)
          refine iteT (no H1 s1 fun x ps e k => ?_)
          rw [e, List.length_cons] at hlen
          omega
        · have c3' : (xs.length : Int) ≤ 1 + 3 := of_decide_eq_true (by simpa using c3)
          cases hl with
          | nil =>
            have : (1 : Int) ≤ 0 := c2'
            omega
          | @cons y ys x ps hx hps =>
            rw [List.length_cons] at c3'
            have hp3 : ps.length ≤ 3 := by
              have := hps.length
              omega
            refine ⟨_, rfl, _, _, _, _, rfl, rfl, SqT.of ha, atI_nat (j := 0) rfl, y, x, rfl, hx, fun H2 s2 => ⟨_, rfl, ite2 (fun c4 => ?_) (fun c4 => ?_)⟩⟩
            · refine no H2 (s1.trans s2) fun x' ps' e k => ?_
              cases e
              rw [k.2] at c4
              cases c4
            · have c4' : x.word 8 = true := by simpa using c4
              have s12 := s1.trans s2
              have ha2 := s2 _ _ ha
              refine ⟨_, rfl, 1, rfl, ?_⟩
              refine sl_lo (K := K) 1 ha2 (by omega) (by rw [List.length_cons]; omega) fun p hp => ?_
              have s3 : Same H (upd H2 p (.tup ((y :: ys).drop 1))) := s12.trans (same_new hp _)
              have hps2 : RepL H2 ys ps := hps.wk (Wk.same s2)
              have val : ∀ acc, swl (sw b d') 1 ps = acc → ∀ H', Same H H' → Q (.int acc) H' := fun acc e H' s' => fin acc (by
                unfold sw
                rw [if_neg c1]
                show (if ps.length ≤ 3 ∧ x.word 8 = true then swl (sw b d') 1 ps else 0) = acc
                rw [if_pos ⟨hp3, c4'⟩, e]) H' s'
              refine ⟨p, rfl, ⟨ys, SqT.of upd_same⟩, for_tup (xs := ys) (fun i σ H' => ∃ acc y4 y5, σ = [some (.ref a), some (.bl b), some (.int ((d' + 1 : Nat) : Int)), some (.int acc), y4, y5] ∧ Same H2 H' ∧ H' p = some (.tup ys) ∧
                swl (sw b d') 1 ps = swl (sw b d') acc (ps.drop i)) ⟨1, none, none, rfl, same_new hp _, upd_same, rfl⟩ (fun i σ H' _ h' => ?_) (fun i z σ H' hz h' => ?_) (fun σ H' h' => ?_)⟩
              · obtain ⟨acc, y4, y5, _, _, hpH, _⟩ := h'
                exact SqT.of hpH
              · obtain ⟨acc, y4, y5, rfl, sH, hpH, eq⟩ := h'
                obtain ⟨t, ht, hr'⟩ := (hps2.wk (Wk.same sH)).get' hz
                obtain ⟨hi, hti⟩ := List.getElem?_eq_some_iff.mp ht
                rw [List.drop_eq_getElem_cons hi, hti] at eq
                refine ⟨_, rfl, _, rfl, _, rfl, _, _, rfl, rfl, z, t, b, d', ?_, by omega, hr', fun H3 s3' => ?_⟩
                · have : ((d' + 1 : Nat) : Int) - 1 = (d' : Int) := by omega
                  show [z, V.bl b, V.int (((d' + 1 : Nat) : Int) - 1)] = _
                  rw [this]
                refine ⟨_, rfl, rfl, _, rfl, ite2 (fun c5 => ?_) (fun c5 => ?_)⟩
                · refine val 0 ?_ H3 (s12.trans (sH.trans s3'))
                  rw [eq]
                  show (if sw b d' t = 0 then 0 else _) = 0
                  rw [if_pos (V.int.inj (of_decide_eq_true c5))]
                · refine ⟨_, rfl, _, rfl, _, _, rfl, rfl, acc + sw b d' t, _, _, rfl, sH.trans s3', s3' _ _ hpH, ?_⟩
                  rw [eq]
                  show (if sw b d' t = 0 then 0 else _) = _
                  rw [if_neg fun e => c5 (by rw [e]; rfl)]
              · obtain ⟨acc, y4, y5, rfl, sH, hpH, eq⟩ := h'
                rw [List.drop_eq_nil_of_le (by rw [hps2.length]; exact Nat.le_refl _)] at eq
                exact ⟨_, rfl, val acc eq H' (s12.trans sH)⟩
      · refine ⟨_, rfl, iteT (no H1 s1 fun x ps e k => ?_)⟩
        have c2' : ¬ 1 ≤ (xs.length : Int) := of_decide_eq_false (by simpa using c2)
        rw [e, List.length_cons] at hlen
        omega
    | _ => exact iteT (iteT (fin 0 (by unfold sw; rw [if_neg c1]) H1 s1))
theorem c_size_within (T : Tx K mg) : Cl P w K mg base CX0 8 "size_within" ["thing", "holes", "deep"] (sp_size_within 6) := c_size_within_n T 6
theorem c_is_term (T : Tx K mg) : Cl P w K mg base CX0 9 "is_term" ["thing"] sp_is_term := by
  refine Cl.mk0 T.d_is_term sc_is_term (fun vs H Q E h => ?_) (fun f cdv A outer s H vs Q E hr h => ?_)
  · obtain ⟨v, t, rfl, _⟩ := h
    rfl
  obtain ⟨v, t, rfl, r, q⟩ := h
  refine ⟨_, (pss_one (ps_ret (pe_chain op_le op_le pe_int (pe_cl (c_size_within T) hr (by omega) rfl (pa_cons (pv 0) (pa_cons pe_bl (pa_cons (pe_glob (v := .int 5) (by rfl) T.m_MOST_DEEP.choose_spec ⟨_, rfl⟩) pa_nil)))) (pe_glob (v := .int 30) (by rfl) T.m_MOST_SIZE.choose_spec ⟨_, rfl⟩)))), ?_⟩
  refine ⟨_, rfl, v, t, false, 5, rfl, by omega, r, fun H' s' => ⟨_, _, rfl, rfl, _, rfl, ite2 (fun c => ?_) (fun c => ?_)⟩⟩
  · refine ⟨_, _, rfl, rfl, ?_⟩
    have e : within false t = decide (sw false 5 t ≤ 30) := by
      unfold within
      rw [c, Bool.true_and]
    have q' := q H' s'
    rw [e] at q'
    exact q'
  · have e : within false t = false := by
      unfold within
      rw [Bool.eq_false_iff.mpr c, Bool.false_and]
    have q' := q H' s'
    rw [e] at q'
    exact q'
theorem c_is_pattern (T : Tx K mg) : Cl P w K mg base CX0 9 "is_pattern" ["thing"] sp_is_pattern := by
  refine Cl.mk0 T.d_is_pattern sc_is_pattern (fun vs H Q E h => ?_) (fun f cdv A outer s H vs Q E hr h => ?_)
  · obtain ⟨v, t, rfl, _⟩ := h
    rfl
  obtain ⟨v, t, rfl, r, q⟩ := h
  refine ⟨_, (pss_one (ps_ret (pe_chain op_le op_le pe_int (pe_cl (c_size_within T) hr (by omega) rfl (pa_cons (pv 0) (pa_cons pe_bl (pa_cons (pe_glob (v := .int 5) (by rfl) T.m_MOST_DEEP.choose_spec ⟨_, rfl⟩) pa_nil)))) (pe_glob (v := .int 30) (by rfl) T.m_MOST_SIZE.choose_spec ⟨_, rfl⟩)))), ?_⟩
  refine ⟨_, rfl, v, t, true, 5, rfl, by omega, r, fun H' s' => ⟨_, _, rfl, rfl, _, rfl, ite2 (fun c => ?_) (fun c => ?_)⟩⟩
  · refine ⟨_, _, rfl, rfl, ?_⟩
    have e : within true t = decide (sw true 5 t ≤ 30) := by
      unfold within
      rw [c, Bool.true_and]
    have q' := q H' s'
    rw [e] at q'
    exact q'
  · have e : within true t = false := by
      unfold within
      rw [Bool.eq_false_iff.mpr c, Bool.false_and]
    have q' := q H' s'
    rw [e] at q'
    exact q'
end
end Kt
namespace Kt
open PySem PySem.Spec PyProof.Rows L2
/-! ### the draws: a list at d of the cells' list at c, a place and a mixed number -/
def Dr (d c : Addr) (H : Hp) : Prop := ∃ (cells : List Int) (at' mix : Int), H d = some (.lst [.ref c, .int at', .int mix]) ∧ H c = some (.lst (cells.map V.int)) ∧ 0 < cells.length ∧ cells.length ≤ 63 ∧ 0 ≤ mix ∧ mix < 2147483647
/-- all but the draws stands as it stood -/
structure DU (d c : Addr) (H H' : Hp) : Prop where
  old : ∀ a o, a ≠ d → a ≠ c → H a = some o → H' a = some o
  dr : Dr d c H'
theorem Dr.ne {d c : Addr} {H : Hp} (h : Dr d c H) : c ≠ d := by
  obtain ⟨cells, at', mix, h1, h2, hl, _⟩ := h
  intro e
  subst e
  rw [h1] at h2
  cases cells with
  | nil => cases h2
  | cons a r => cases h2
theorem Dr.same {d c : Addr} {H H' : Hp} (h : Dr d c H) (s : Same H H') : Dr d c H' := by
  obtain ⟨cells, at', mix, h1, h2, r⟩ := h
  exact ⟨cells, at', mix, s _ _ h1, s _ _ h2, r⟩
theorem DU.same {d c : Addr} {H H' : Hp} (h : Dr d c H) (s : Same H H') : DU d c H H' := ⟨fun a o _ _ q => s a o q, h.same s⟩
theorem DU.refl {d c : Addr} {H : Hp} (h : Dr d c H) : DU d c H H := DU.same h (Same.refl H)
theorem DU.trans {d c : Addr} {H H1 H2 : Hp} (a : DU d c H H1) (b : DU d c H1 H2) : DU d c H H2 := ⟨fun x o n m q => b.old x o n m (a.old x o n m q), b.dr⟩
theorem DU.then {d c : Addr} {H H1 H2 : Hp} (a : DU d c H H1) (b : Same H1 H2) : DU d c H H2 := a.trans (DU.same a.dr b)
theorem DU.wk {d c : Addr} {H H' : Hp} (h : Dr d c H) (u : DU d c H H') : Wk H H' := by
  obtain ⟨cells, at', mix, h1, h2, _⟩ := h
  obtain ⟨cells', at2, mix', h1', h2', _⟩ := u.dr
  refine ⟨fun a xs q => u.old a _ (ne_of q h1 fun e => nomatch e) (ne_of q h2 fun e => nomatch e) q, fun a xs q => ?_, fun a xs q => ⟨xs, u.old a _ (ne_of q h1 fun e => nomatch e) (ne_of q h2 fun e => nomatch e) q⟩⟩
  by_cases e1 : a = d
  · subst e1
    exact ⟨_, h1'⟩
  · by_cases e2 : a = c
    · subst e2
      exact ⟨_, h2'⟩
    · exact ⟨xs, u.old a _ e1 e2 q⟩
/-- an address that the draws' heap does not know is none of theirs -/
theorem Dr.new {d c p : Addr} {H : Hp} (h : Dr d c H) (hp : H p = none) : p ≠ d ∧ p ≠ c := by
  obtain ⟨cells, at', mix, h1, h2, _⟩ := h
  exact ⟨(ne_of_none h1 hp).symm, (ne_of_none h2 hp).symm⟩
theorem ixN_nat {n j : Nat} (hj : j < n) : ixN n (j : Int) = some j := by
  unfold ixN
  rw [if_pos (by omega), if_pos (by omega)]
  simp
theorem fmod_in {a b : Int} (h : 0 < b) : 0 ≤ a.fmod b ∧ a.fmod b < b := ⟨Int.fmod_nonneg_of_pos a h, Int.fmod_lt_of_pos a h⟩
def sp_take : Sp := fun vs H Q _ => ∃ (d c : Addr) (n : Int), vs = [.ref d, .int n] ∧ 0 < n ∧ n < 1000000 ∧ Dr d c H ∧ ∀ r H', 0 ≤ r → r < n → DU d c H H' → Q (.int r) H'
section
variable {P : Program} {w : World} {K : PySem.W.Frag} {mg : Str → Option Value} {base : Heap}
theorem c__law_take (T : Tx K mg) : Cl P w K mg base CX0 1 "_law_take" ["_law_draw", "_law_size_here"] sp_take := by
  refine Cl.mk0 T.d__law_take sc__law_take (fun vs H Q E h => ?_) (fun f cdv A outer s H vs Q E hr h => ?_)
  · obtain ⟨d, c, n, rfl, _⟩ := h
    rfl
  obtain ⟨d, c, n, rfl, hn0, hn, hD, q⟩ := h
  have cd := hD.ne
  obtain ⟨cells, at', mix, hd, hc, hl, hl63, hm0, hm⟩ := hD
  refine ⟨_, (pss_cons (ps_set (i := 2) sc__law_take.nd rfl (Or.inl rfl) (pe_ix ix_list (pv 0) pe_int (fun _ _ => rfl)))
    (pss_cons (ps_set (i := 3) sc__law_take.nd rfl (Or.inl rfl) (pe_op op_modN (pe_ix ix_list (pv 0) pe_int (fun _ _ => rfl)) (pe_callB call_len (by rfl) T.z_len (by decide +kernel) (pa_cons (pv 2) pa_nil))))
    (pss_cons (ps_set (i := 4) sc__law_take.nd rfl (Or.inl rfl) (pe_ix ix_list (pv 2) (pv 3) (fun _ _ => rfl)))
    (pss_cons (ps_if (pt_cmpR op_ge (pv 4) (pe_op op_pow pe_int pe_int) (nomark _))
      (pss_cons (ps_asg (pe_op op_fdivN (pv 4) (pv 1)) (pg_sub (pv 2) (pv 3) set_list))
      (pss_one (ps_ret (pe_op op_modN (pv 4) (pv 1)))))
      pss_nil)
    (pss_cons (ps_asg (pe_op op_add (pe_ix ix_list (pv 0) pe_int (fun _ _ => rfl)) pe_int) (pg_sub (pv 0) pe_int set_list))
    (pss_cons (ps_asg (pe_op op_modN (pe_op op_add (pe_op op_add (pe_op op_mul (pe_ix ix_list (pv 0) pe_int (fun _ _ => rfl)) pe_int) (pv 4)) pe_int) pe_int) (pg_sub (pv 0) pe_int set_list))
    (pss_one (ps_ret (pe_op op_modN (pe_op op_fdivN (pe_op op_modN (pe_op op_mul (pe_ix ix_list (pv 0) pe_int (fun _ _ => rfl)) (pe_ix ix_list (pv 0) pe_int (fun _ _ => rfl))) pe_int) pe_int) (pv 1)))))))))), ?_⟩
  refine ⟨_, rfl, _, _, _, _, rfl, rfl, SqL.of hd, atI_nat (j := 0) rfl, ?_⟩
  have hlen : 0 < ((cells.map V.int).length : Int) := by
    rw [List.length_map]
    omega
  refine ⟨_, rfl, _, _, _, _, rfl, rfl, SqL.of hd, atI_nat (j := 1) rfl, _, rfl, _, _, rfl, .inl ⟨_, SqL.of hc, rfl⟩, _, _, rfl, rfl, by omega, ?_⟩
  obtain ⟨a0, a1⟩ := fmod_in (a := at') hlen
  obtain ⟨k, hk⟩ : ∃ k : Nat, at'.fmod ((cells.map V.int).length : Int) = (k : Int) := ⟨(at'.fmod ((cells.map V.int).length : Int)).toNat, by omega⟩
  have hk2 : k < cells.length := by
    rw [hk, List.length_map] at a1
    omega
  have hget : (cells.map V.int)[k]? = some (.int cells[k]) := by
    rw [List.getElem?_map, List.getElem?_eq_getElem hk2]
    rfl
  refine ⟨_, rfl, _, rfl, _, _, _, _, rfl, rfl, SqL.of hc, by rw [hk]; exact atI_nat hget, ?_⟩
  refine ⟨_, rfl, _, _, rfl, rfl, ⟨by decide, by decide, by decide⟩, _, _, rfl, rfl, _, rfl, ite2 (fun c1 => ?_) (fun c1 => ?_)⟩
  · refine ⟨_, rfl, _, rfl, _, _, rfl, rfl, ⟨by omega, by omega⟩, ?_⟩
    refine ⟨_, rfl, _, rfl, c, _, _, k, rfl, rfl, hc, by rw [hk]; exact ixN_nat (by rw [List.length_map]; exact hk2), ?_⟩
    refine ⟨_, rfl, _, rfl, _, _, rfl, rfl, by omega, ?_⟩
    obtain ⟨r0, r1⟩ := fmod_in (a := cells[k]) hn0
    refine q _ _ r0 r1 ⟨fun a o n1 n2 h => by rw [upd_ne n2]; exact h, cells.set k (cells[k].fdiv n), at', mix, by rw [upd_ne cd.symm]; exact hd, ?_, by rw [List.length_set]; exact hl, by rw [List.length_set]; exact hl63, hm0, hm⟩
    rw [upd_same, List.map_set]
  · refine ⟨_, rfl, _, _, _, _, rfl, rfl, SqL.of hd, atI_nat (j := 1) rfl, _, _, rfl, rfl, _, rfl, d, _, _, 1, rfl, rfl, hd, rfl, ?_⟩
    have hd1 : (upd H d (.lst ([.ref c, .int at', .int mix].set 1 (.int (at' + 1))))) d = some (.lst [.ref c, .int (at' + 1), .int mix]) := upd_same
    refine ⟨_, rfl, _, _, _, _, rfl, rfl, SqL.of hd1, atI_nat (j := 2) rfl, _, _, rfl, rfl, .inl ⟨by omega, by omega⟩, _, rfl, _, _, rfl, rfl, _, _, rfl, rfl, _, _, rfl, rfl, (show (2147483647 : Int) ≠ 0 by decide), _, rfl, d, _, _, 2, rfl, rfl, hd1, rfl, ?_⟩
    obtain ⟨x0, x1⟩ := fmod_in (a := mix * 48271 + cells[k] + 12345) (b := 2147483647) (by decide)
    have hd2 : (upd (upd H d (.lst ([.ref c, .int at', .int mix].set 1 (.int (at' + 1))))) d (.lst ([.ref c, .int (at' + 1), .int mix].set 2 (.int ((mix * 48271 + cells[k] + 12345).fmod 2147483647))))) d = some (.lst [.ref c, .int (at' + 1), .int ((mix * 48271 + cells[k] + 12345).fmod 2147483647)]) := upd_same
    refine ⟨_, rfl, _, _, _, _, rfl, rfl, SqL.of hd2, atI_nat (j := 2) rfl, _, rfl, _, _, _, _, rfl, rfl, SqL.of hd2, atI_nat (j := 2) rfl, _, _, rfl, rfl, .inl ⟨by omega, by omega⟩, _, _, rfl, rfl, (show (2147483629 : Int) ≠ 0 by decide), _, _, rfl, rfl, (show (16 : Int) ≠ 0 ∧ (16 : Int).natAbs < 1073741824 by decide), _, rfl, _, _, rfl, rfl, by omega, ?_⟩
    obtain ⟨r0, r1⟩ := fmod_in (a := ((((mix * 48271 + cells[k] + 12345).fmod 2147483647) * ((mix * 48271 + cells[k] + 12345).fmod 2147483647)).fmod 2147483629).fdiv 16) hn0
    refine q _ _ r0 r1 ⟨fun a o n1 n2 h => by rw [upd_ne n1, upd_ne n1]; exact h, cells, at' + 1, _, hd2, by rw [upd_ne cd, upd_ne cd]; exact hc, hl, hl63, x0, x1⟩
end
end Kt
namespace Kt
open PySem PySem.Spec PyProof.Rows L2
/-! ### texts that grow -/
theorem app_list (x y : Str) : (x ++ y).cps.toList = x.cps.toList ++ y.cps.toList := Array.toList_append
theorem app_len (x y : Str) : (x ++ y).length = x.length + y.length := Array.size_append
theorem len_list (x : Str) : x.length = x.cps.toList.length := rfl
theorem LS_list : LS.cps.toList = [97, 98, 99, 100, 101, 102, 103, 104, 105, 106, 107, 108, 109, 110, 111, 112, 113, 114, 115, 116, 117, 118, 119, 120, 121, 122] := by decide +kernel
theorem lowc_lt {c : Nat} (h : lowc c = true) : c < 1114112 := by
  have h1 : c ∈ LS.cps.toList := of_decide_eq_true h
  rw [LS_list] at h1
  simp only [List.mem_cons, List.not_mem_nil, or_false] at h1
  omega
theorem isW_of {z : Str} {m : Int} (h1 : 1 ≤ z.length) (h2 : (z.length : Int) ≤ m) (h : z.cps.toList.all lowc = true) : isW z m = true := by
  unfold isW
  rw [h, decide_eq_true (by omega : 1 ≤ (z.length : Int)), decide_eq_true h2]
  rfl
theorem isW_out {z : Str} {m : Int} (h : isW z m = true) : 1 ≤ z.length ∧ (z.length : Int) ≤ m ∧ z.cps.toList.all lowc = true := by
  unfold isW at h
  simp only [Bool.and_eq_true, decide_eq_true_eq] at h
  exact ⟨by omega, h.2.1, h.2.2⟩
theorem okS_low {z : Str} (h : z.cps.toList.all lowc = true) : okS z := fun c hc => lowc_lt (List.all_eq_true.mp h c hc)
theorem isW_rep {z : Str} {m : Int} {H : Hp} (h : isW z m = true) (hm : m ≤ 100) : Rep H (.str z) (.str z) := by
  obtain ⟨_, h2, h3⟩ := isW_out h
  exact .str z (by omega) (okS_low h3)
theorem str_ext {x y : Str} (h : x.cps.toList = y.cps.toList) : x = y := by
  cases x with | mk a => cases y with | mk b => exact congrArg Str.mk (Array.toList_inj.mp h)
/-- a hole's text: a question mark, then one to four letters -/
theorem isHl_of {z : Str} {l : List Nat} (e : z.cps.toList = 63 :: l) (h1 : 1 ≤ l.length) (h2 : l.length ≤ 4) (h : l.all lowc = true) : isHl z = true := by
  have hl : z.length = l.length + 1 := by rw [len_list, e, List.length_cons]
  have e1 : cutS z none (some 1) = ("?" : Str) := by
    apply str_ext
    show (z.cps.toList.drop (HT.sIx z.length 0 none)).take (HT.sIx z.length z.length (some ((1 : Nat) : Int)) - HT.sIx z.length 0 none) = _
    rw [HT.sIx_none, HT.sIx_nat, e, hl, Nat.min_eq_left (by omega)]
    rfl
  have e2 : (cutS z (some 1) none).cps.toList = l := by
    show (z.cps.toList.drop (HT.sIx z.length 0 (some ((1 : Nat) : Int)))).take (HT.sIx z.length z.length none - HT.sIx z.length 0 (some ((1 : Nat) : Int))) = l
    rw [HT.sIx_none, HT.sIx_nat, e, hl, Nat.min_eq_left (by omega)]
    show l.take (l.length + 1 - 1) = l
    rw [Nat.add_sub_cancel, List.take_length]
  unfold isHl
  rw [e1, decide_eq_true rfl, Bool.true_and]
  exact isW_of (by rw [len_list, e2]; exact h1) (by rw [len_list, e2]; omega) (by rw [e2]; exact h)
def sp_begin (K : PySem.W.Frag) : Sp := fun vs H Q _ => ∃ (a : Addr) (ns : List Int), vs = [.ref a] ∧ SqL K H a (ns.map V.int) ∧ ns.length ≤ 63 ∧ ∀ d c H', Same H H' → Dr d c H' → Q (.ref d) H'
def sp_pick : Sp := fun vs H Q _ => ∃ (d c p : Addr) (xs : List V), vs = [.ref d, .ref p] ∧ Dr d c H ∧ H p = some (.lst xs) ∧ p ≠ d ∧ p ≠ c ∧ 0 < xs.length ∧ xs.length ≤ 1000 ∧ ∀ v H', v ∈ xs → DU d c H H' → Q v H'
def sp_word : Sp := fun vs H Q _ => ∃ (d c : Addr), vs = [.ref d] ∧ Dr d c H ∧ ∀ z H', isW z 8 = true → DU d c H H' → Q (.str z) H'
def sp_hole : Sp := fun vs H Q _ => ∃ (d c : Addr), vs = [.ref d] ∧ Dr d c H ∧ ∀ z H', isHl z = true → z.length ≤ 5 → okS z → DU d c H H' → Q (.str z) H'
section
variable {P : Program} {w : World} {K : PySem.W.Frag} {mg : Str → Option Value} {base : Heap}
theorem c__law_begin (T : Tx K mg) : Cl P w K mg base CX0 1 "_law_begin" ["_law_script"] (sp_begin K) := by
  refine Cl.mk0 T.d__law_begin sc__law_begin (fun vs H Q E h => ?_) (fun f cdv A outer s H vs Q E hr h => ?_)
  · obtain ⟨a, ns, rfl, _⟩ := h
    rfl
  obtain ⟨a, ns, rfl, hS, hl, q⟩ := h
  refine ⟨_, (pss_cons (ps_setLc (i := 1) (own := [("_law_cell", 2)]) (g := gName 2) (tt := tYes) rfl sc__law_begin.nd rfl rfl (sw_true rfl rfl rfl (by decide +kernel)) (pi_list (pe_slice sl_list (pv 0) po_no (po_some pe_int))) (blkOk_by (own := [("_law_cell", 2)]) (N := ["_law_script", "_law_cells", "_law_cell"]) (sc := defScope s__law_begin) (by decide +kernel)) (fun _ _ _ _ _ => (pg_name (i := 2) sc__law_begin.nd rfl (Or.inl rfl))) (fun _ _ _ _ _ => pts_nil) (fun _ _ _ _ _ => (pe_callB call_abs (by rfl) T.z_abs (by decide +kernel) (pa_cons (pv 2) pa_nil))))
    (pss_cons (ps_if (pt_cmpR (op_eqD hr.units) (pv 1) (pe_lst pa_nil) (nomark _))
      (pss_one (ps_set (i := 1) sc__law_begin.nd rfl (Or.inl rfl) (pe_lst (pa_cons pe_int pa_nil))))
      pss_nil)
    (pss_one (ps_ret (pe_lst (pa_cons (pv 1) (pa_cons pe_int (pa_cons pe_int pa_nil)))))))), ?_⟩
  refine ⟨_, rfl, 63, rfl, a, _, rfl, hS, fun p hp => ⟨p, rfl, ⟨_, SqL.of upd_same⟩, fun D hD => ?_⟩⟩
  have hlen : (cutV (ns.map V.int) none (some 63)).length = ns.length := by
    rw [show cutV (ns.map V.int) none (some 63) = (ns.map V.int).take 63 from cutV_hi _ 63, List.length_take, List.length_map]
    omega
  have hget : ∀ i, i < ns.length → (cutV (ns.map V.int) none (some 63))[i]? = some (.int (ns.getD i 0)) := fun i hi => by
    rw [show cutV (ns.map V.int) none (some 63) = (ns.map V.int).take 63 from cutV_hi _ 63, List.getElem?_take, if_pos (by omega), List.getElem?_map, List.getD_eq_getElem?_getD, List.getElem?_eq_getElem hi]
    rfl
  refine lc_pure walk_list (fun i => .int (if ns.getD i 0 < 0 then - ns.getD i 0 else ns.getD i 0)) hD (by omega) (fun H' s' => SqL.of (s' _ _ upd_same)) (fun x => rfl) (fun i x H1 H2 hi s1 y => ?_) (fun H1 s1 e1 => ?_)
  · obtain ⟨rfl, hx⟩ := y
    rw [hlen] at hi
    rw [hget i hi] at hx
    cases hx
    exact ⟨Same.refl _, fun Q' q' => ⟨_, rfl, _, rfl, q' _ (Same.refl _)⟩⟩
  · have s2 : Same H H1 := (same_new hp _).trans s1
    rw [hlen] at e1
    have e2 : H1 D = some (.lst (((List.range ns.length).map fun i => if ns.getD i 0 < 0 then - ns.getD i 0 else ns.getD i 0).map V.int)) := by
      rw [e1, List.map_map]
      rfl
    generalize hg : ((List.range ns.length).map fun i => if ns.getD i 0 < 0 then - ns.getD i 0 else ns.getD i 0) = ms at e2
    have hms : ms.length = ns.length := by rw [← hg, List.length_map, List.length_range]
    refine ⟨_, rfl, Nat.zero_le _, fun p2 hp2 => ⟨_, _, .lst (SqL.of (same_new hp2 _ _ _ e2)) (dpInts ms), .lst (SqL.of upd_same) .nil, shapedInts ms, shapedInts [], _, rfl, ?_⟩⟩
    have s3 : Same H1 (upd H1 p2 (.lst [])) := same_new hp2 _
    rw [eqvNil]
    refine ite2 (fun c1 => ?_) (fun c1 => ?_)
    · refine ⟨by show 1 ≤ sizeLine; decide, fun p3 hp3 => ⟨_, rfl, by show 3 ≤ sizeLine; decide, fun p4 hp4 => ?_⟩⟩
      have s4 := (s2.trans s3).trans ((same_new hp3 (.lst [V.int 7])).trans (same_new hp4 (.lst [V.ref p3, V.int 0, V.int 1])))
      exact q p4 p3 _ s4 ⟨[7], 0, 1, upd_same, by rw [upd_ne (ne_of_none upd_same hp4)]; exact upd_same, by decide, by decide, by decide, by decide⟩
    · refine ⟨_, rfl, by show 3 ≤ sizeLine; decide, fun p4 hp4 => ?_⟩
      have s4 := (s2.trans s3).trans (same_new hp4 (.lst [V.ref D, V.int 0, V.int 1]))
      have : 0 < ms.length := by
        cases ms with
        | nil => exact absurd rfl c1
        | cons a b => exact Nat.succ_pos _
      exact q p4 D _ s4 ⟨ms, 0, 1, upd_same, same_new hp4 _ _ _ (s3 _ _ e2), this, by omega, by decide, by decide⟩
theorem c__law_pick (T : Tx K mg) : Cl P w K mg base CX0 2 "_law_pick" ["_law_draw", "_law_some"] sp_pick := by
  refine Cl.mk0 T.d__law_pick sc__law_pick (fun vs H Q E h => ?_) (fun f cdv A outer s H vs Q E hr h => ?_)
  · obtain ⟨d, c, p, xs, rfl, _⟩ := h
    rfl
  obtain ⟨d, c, p, xs, rfl, hD, hp, n1, n2, h0, h1, q⟩ := h
  refine ⟨_, (pss_one (ps_ret (pe_ix ix_list (pv 1) (pe_cl (c__law_take T) hr (by omega) rfl (pa_cons (pv 0) (pa_cons (pe_callB call_len (by rfl) T.z_len (by decide +kernel) (pa_cons (pv 1) pa_nil)) pa_nil))) (fun _ _ => rfl)))), ?_⟩
  refine ⟨_, rfl, _, rfl, _, rfl, _, _, rfl, .inl ⟨_, SqL.of hp, rfl⟩, d, c, _, rfl, by omega, by omega, hD, fun r H' r0 r1 u => ?_⟩
  obtain ⟨k, rfl⟩ : ∃ k : Nat, r = (k : Int) := ⟨r.toNat, by omega⟩
  have hk : k < xs.length := by omega
  exact ⟨p, xs, _, xs[k], rfl, rfl, SqL.of (u.old _ _ n1 n2 hp), atI_nat (List.getElem?_eq_getElem hk), q _ _ (List.getElem_mem hk) u⟩
theorem c__law_word (T : Tx K mg) : Cl P w K mg base CX0 3 "_law_word" ["_law_draw"] sp_word := by
  refine Cl.mk0 T.d__law_word sc__law_word (fun vs H Q E h => ?_) (fun f cdv A outer s H vs Q E hr h => ?_)
  · obtain ⟨d, c, rfl, _⟩ := h
    rfl
  obtain ⟨d, c, rfl, hD, q⟩ := h
  have pick : ∀ (zs : List Str) (H1 : Hp), DU d c H H1 → zs.all (fun z => isW z 8) = true → ∀ v H', v ∈ zs.map V.str → DU d c H1 H' → Q v H' := fun zs H1 u hz v H' hv u' => by
    obtain ⟨z, hm, rfl⟩ := List.mem_map.mp hv
    exact q z H' (List.all_eq_true.mp hz z hm) (u.trans u')
  refine ⟨_, (pss_cons (ps_set (i := 1) sc__law_word.nd rfl (Or.inl rfl) (pe_cl (c__law_take T) hr (by omega) rfl (pa_cons (pv 0) (pa_cons pe_int pa_nil))))
    (pss_cons (ps_if (pt_cmpR op_lt (pv 1) pe_int (nomark _))
      (pss_one (ps_ret (pe_cl (c__law_pick T) hr (by omega) rfl (pa_cons (pv 0) (pa_cons (pe_lst (pa_cons pe_str (pa_cons pe_str (pa_cons pe_str (pa_cons pe_str pa_nil))))) pa_nil)))))
      pss_nil)
    (pss_cons (ps_if (pt_cmpR op_eq (pv 1) pe_int (nomark _))
      (pss_one (ps_ret (pe_cl (c__law_pick T) hr (by omega) rfl (pa_cons (pv 0) (pa_cons (pe_lst (pa_cons pe_str (pa_cons pe_str (pa_cons pe_str (pa_cons pe_str (pa_cons pe_str (pa_cons pe_str (pa_cons pe_str (pa_cons pe_str (pa_cons pe_str (pa_cons pe_str pa_nil))))))))))) pa_nil)))))
      pss_nil)
    (pss_cons (ps_set (i := 2) sc__law_word.nd rfl (Or.inl rfl) pe_str)
    (pss_cons (ps_for PassesOwn.never rfl (pi_range1 (by rfl) T.z_range (pa_cons (pe_op op_add pe_int (pe_cl (c__law_take T) hr (by omega) rfl (pa_cons (pv 0) (pa_cons pe_int pa_nil)))) pa_nil)) (pg_name (i := 3) sc__law_word.nd rfl (Or.inl rfl))
      (pss_one (ps_set (i := 2) sc__law_word.nd rfl (Or.inl rfl) (pe_op op_add_str (pv 2) (pe_ix ix_str pe_str (pe_cl (c__law_take T) hr (by omega) rfl (pa_cons (pv 0) (pa_cons pe_int pa_nil))) (fun _ _ => rfl))))))
    (pss_one (ps_ret (pv 2)))))))), ?_⟩
  refine ⟨_, rfl, d, c, 6, rfl, by decide, by decide, hD, fun r H1 r0 r1 u1 => ?_⟩
  refine ⟨_, rfl, _, _, rfl, rfl, _, rfl, ite2 (fun c1 => ?_) (fun c1 => ?_)⟩
  · refine ⟨_, rfl, by show 4 ≤ sizeLine; decide, fun p hp => ?_⟩
    obtain ⟨n1, n2⟩ := u1.dr.new hp
    exact ⟨d, c, p, _, rfl, u1.dr.same (same_new hp _), upd_same, n1, n2, by decide, by decide, pick ["a", "b", "f", "g"] _ (u1.then (same_new hp _)) (by decide +kernel)⟩
  refine ⟨_, rfl, rfl, _, rfl, ite2 (fun c2 => ?_) (fun c2 => ?_)⟩
  · refine ⟨_, rfl, by show 10 ≤ sizeLine; decide, fun p hp => ?_⟩
    obtain ⟨n1, n2⟩ := u1.dr.new hp
    exact ⟨d, c, p, _, rfl, u1.dr.same (same_new hp _), upd_same, n1, n2, by decide, by decide, pick ["told", "back", "then", "parts", "same", "like", "put", "rule", "hole", "z"] _ (u1.then (same_new hp _)) (by decide +kernel)⟩
  refine ⟨_, rfl, d, c, 8, rfl, by decide, by decide, u1.dr, fun m H2 m0 m1 u2 => ⟨_, _, rfl, rfl, _, rfl, by omega, by omega, ?_⟩⟩
  refine for_range (lo := 0) (n := (1 + m).toNat) (fun i σ H' => ∃ z y, σ = [some (.ref d), some (.int r), some (.str z), y] ∧ z.length = i ∧ z.cps.toList.all lowc = true ∧ DU d c H H') ⟨"", none, rfl, rfl, rfl, u1.trans u2⟩ (fun i σ H' hi h' => ?_) (fun σ H' h' => ?_)
  · obtain ⟨z, y, rfl, hz, hlo, u⟩ := h'
    refine ⟨_, rfl, _, rfl, d, c, 26, rfl, by decide, by decide, u.dr, fun k H3 k0 k1 u3 => ?_⟩
    obtain ⟨j, rfl⟩ : ∃ j : Nat, k = (j : Int) := ⟨k.toNat, by omega⟩
    have hj : j < LS.cps.toList.length := by
      rw [LS_list]
      show j < 26
      omega
    refine ⟨LS, _, LS.cps.toList[j], rfl, rfl, by decide +kernel, atI_nat (List.getElem?_eq_getElem hj), _, _, rfl, rfl, ?_, _, some (.int (0 + (i : Int))), rfl, ?_, ?_, u.trans u3⟩
    · show z.length + 1 ≤ sizeLine
      exact small1000 (n := z.length) (by omega)
    · rw [app_len, hz]
      rfl
    · rw [app_list, List.all_append, hlo, Bool.true_and]
      show (lowc LS.cps.toList[j] && true) = true
      rw [Bool.and_true]
      exact decide_eq_true (List.getElem_mem hj)
  · obtain ⟨z, y, rfl, hz, hlo, u⟩ := h'
    exact ⟨_, rfl, q z H' (isW_of (by omega) (by omega) hlo) u⟩
theorem c__law_hole (T : Tx K mg) : Cl P w K mg base CX0 3 "_law_hole" ["_law_draw"] sp_hole := by
  refine Cl.mk0 T.d__law_hole sc__law_hole (fun vs H Q E h => ?_) (fun f cdv A outer s H vs Q E hr h => ?_)
  · obtain ⟨d, c, rfl, _⟩ := h
    rfl
  obtain ⟨d, c, rfl, hD, q⟩ := h
  have fin : ∀ z H' l, z.cps.toList = 63 :: l → 1 ≤ l.length → l.length ≤ 4 → l.all lowc = true → DU d c H H' → Q (.str z) H' := fun z H' l e h1 h2 h3 u =>
    q z H' (isHl_of e h1 h2 h3) (by rw [len_list, e, List.length_cons]; omega) (fun x hx => by
      rw [e] at hx
      rcases List.mem_cons.mp hx with rfl | hx
      · decide
      · exact lowc_lt (List.all_eq_true.mp h3 x hx)) u
  refine ⟨_, (pss_cons (ps_if (pt_cmpR op_gt (pe_cl (c__law_take T) hr (by omega) rfl (pa_cons (pv 0) (pa_cons pe_int pa_nil))) pe_int (nomark _))
      (pss_one (ps_ret (pe_cl (c__law_pick T) hr (by omega) rfl (pa_cons (pv 0) (pa_cons (pe_lst (pa_cons pe_str (pa_cons pe_str (pa_cons pe_str pa_nil)))) pa_nil)))))
      pss_nil)
    (pss_cons (ps_set (i := 1) sc__law_hole.nd rfl (Or.inl rfl) pe_str)
    (pss_cons (ps_for PassesOwn.never rfl (pi_range1 (by rfl) T.z_range (pa_cons (pe_op op_add pe_int (pe_cl (c__law_take T) hr (by omega) rfl (pa_cons (pv 0) (pa_cons pe_int pa_nil)))) pa_nil)) (pg_name (i := 2) sc__law_hole.nd rfl (Or.inl rfl))
      (pss_one (ps_set (i := 1) sc__law_hole.nd rfl (Or.inl rfl) (pe_op op_add_str (pv 1) (pe_ix ix_str pe_str (pe_cl (c__law_take T) hr (by omega) rfl (pa_cons (pv 0) (pa_cons pe_int pa_nil))) (fun _ _ => rfl))))))
    (pss_one (ps_ret (pv 1)))))), ?_⟩
  refine ⟨_, rfl, d, c, 4, rfl, by decide, by decide, hD, fun r H1 r0 r1 u1 => ?_⟩
  refine ⟨_, _, rfl, rfl, _, rfl, ite2 (fun c1 => ?_) (fun c1 => ?_)⟩
  · refine ⟨_, rfl, by show 3 ≤ sizeLine; decide, fun p hp => ?_⟩
    obtain ⟨n1, n2⟩ := u1.dr.new hp
    refine ⟨d, c, p, _, rfl, u1.dr.same (same_new hp _), upd_same, n1, n2, by decide, by decide, fun v H' hv u' => ?_⟩
    have u := (u1.then (same_new hp _)).trans u'
    have hv' : v = .str "?x" ∨ v = .str "?y" ∨ v = .str "?z" := by simpa using hv
    rcases hv' with rfl | rfl | rfl
    · exact fin _ _ [120] (by decide +kernel) (by decide) (by decide) (by decide +kernel) u
    · exact fin _ _ [121] (by decide +kernel) (by decide) (by decide) (by decide +kernel) u
    · exact fin _ _ [122] (by decide +kernel) (by decide) (by decide) (by decide +kernel) u
  refine ⟨_, rfl, d, c, 4, rfl, by decide, by decide, u1.dr, fun m H2 m0 m1 u2 => ⟨_, _, rfl, rfl, _, rfl, by omega, by omega, ?_⟩⟩
  refine for_range (lo := 0) (n := (1 + m).toNat) (fun i σ H' => ∃ z y l, σ = [some (.ref d), some (.str z), y] ∧ z.cps.toList = 63 :: l ∧ l.length = i ∧ l.all lowc = true ∧ DU d c H H') ⟨"?", none, [], rfl, by decide +kernel, rfl, rfl, u1.trans u2⟩ (fun i σ H' hi h' => ?_) (fun σ H' h' => ?_)
  · obtain ⟨z, y, l, rfl, hz, hl, hlo, u⟩ := h'
    refine ⟨_, rfl, _, rfl, d, c, 26, rfl, by decide, by decide, u.dr, fun k H3 k0 k1 u3 => ?_⟩
    obtain ⟨j, rfl⟩ : ∃ j : Nat, k = (j : Int) := ⟨k.toNat, by omega⟩
    have hj : j < LS.cps.toList.length := by
      rw [LS_list]
      show j < 26
      omega
    have hzl : z.length = l.length + 1 := by rw [len_list, hz, List.length_cons]
    refine ⟨LS, _, LS.cps.toList[j], rfl, rfl, by decide +kernel, atI_nat (List.getElem?_eq_getElem hj), _, _, rfl, rfl, ?_, _, some (.int (0 + (i : Int))), l ++ [LS.cps.toList[j]], rfl, ?_, ?_, ?_, u.trans u3⟩
    · show z.length + 1 ≤ sizeLine
      exact small1000 (n := z.length) (by omega)
    · rw [app_list, hz]
      rfl
    · rw [List.length_append, hl]
      rfl
    · rw [List.all_append, hlo, Bool.true_and]
      show (lowc LS.cps.toList[j] && true) = true
      rw [Bool.and_true]
      exact decide_eq_true (List.getElem_mem hj)
  · obtain ⟨z, y, l, rfl, hz, hl, hlo, u⟩ := h'
    exact ⟨_, rfl, fin z H' l hz (by omega) (by omega) hlo u⟩
end
end Kt
namespace Kt
open PySem PySem.Spec PyProof.Rows L2
/-! ### patterns, as told -/
mutual
def Th.shape (h : Bool) : Th → Bool
  | .str z => h && isHl z
  | .tup l => shapeT h l
  | _ => false
/-- a tuple's items: a name, then parts -/
def shapeT (h : Bool) : List Th → Bool
  | [] => false
  | x :: ps => decide (ps.length < 4) && (x.word 8 && shapeL h ps)
def shapeL (h : Bool) : List Th → Bool
  | [] => true
  | p :: ps => p.shape h && shapeL h ps
end
mutual
def Th.size : Th → Int
  | .tup l => sizeT l
  | _ => 1
def sizeT : List Th → Int
  | [] => 1
  | _ :: ps => 1 + sizeL ps
def sizeL : List Th → Int
  | [] => 0
  | p :: ps => p.size + sizeL ps
end
mutual
def Th.dep : Th → Nat
  | .tup l => depT l
  | _ => 1
def depT : List Th → Nat
  | [] => 1
  | _ :: ps => 1 + depL ps
def depL : List Th → Nat
  | [] => 0
  | p :: ps => max p.dep (depL ps)
end
mutual
/-- how deep a thing's tuples lie -/
def Th.hgt : Th → Nat
  | .tup l => 1 + hgtL l
  | _ => 0
def hgtL : List Th → Nat
  | [] => 0
  | p :: ps => max p.hgt (hgtL ps)
end
theorem hgtL_le {m : Nat} : ∀ {l : List Th}, hgtL l ≤ m ↔ ∀ p ∈ l, p.hgt ≤ m
  | [] => ⟨fun _ _ h => (List.not_mem_nil h).elim, fun _ => Nat.zero_le _⟩
  | p :: ps => by
    show max p.hgt (hgtL ps) ≤ m ↔ _
    have ih := hgtL_le (m := m) (l := ps)
    constructor
    · intro h q hq
      rcases List.mem_cons.mp hq with rfl | hq
      · omega
      · exact ih.mp (by omega) q hq
    · intro h
      have h1 := h p (List.mem_cons_self ..)
      have h2 := ih.mpr fun q hq => h q (List.mem_cons_of_mem _ hq)
      omega
theorem shapeL_iff {h : Bool} : ∀ {l : List Th}, shapeL h l = true ↔ ∀ p ∈ l, p.shape h = true
  | [] => ⟨fun _ _ h => (List.not_mem_nil h).elim, fun _ => rfl⟩
  | p :: ps => by
    show (p.shape h && shapeL h ps) = true ↔ _
    rw [Bool.and_eq_true, shapeL_iff (l := ps)]
    constructor
    · rintro ⟨h1, h2⟩ q hq
      rcases List.mem_cons.mp hq with rfl | hq
      · exact h1
      · exact h2 q hq
    · exact fun h => ⟨h p (List.mem_cons_self ..), fun q hq => h q (List.mem_cons_of_mem _ hq)⟩
/-- a tuple of the shape has its items so -/
theorem shape_tup {h : Bool} {l : List Th} (e : (Th.tup l).shape h = true) : ∃ z ps, l = .str z :: ps ∧ ps.length < 4 ∧ isW z 8 = true ∧ ∀ p ∈ ps, p.shape h = true := by
  have e : shapeT h l = true := e
  cases l with
  | nil => cases e
  | cons x ps =>
    have e : (decide (ps.length < 4) && (x.word 8 && shapeL h ps)) = true := e
    simp only [Bool.and_eq_true, decide_eq_true_eq] at e
    obtain ⟨h1, h2, h3⟩ := e
    cases x with
    | str z => exact ⟨z, ps, rfl, h1, h2, shapeL_iff.mp h3⟩
    | _ => cases h2
theorem shape_of {h : Bool} {z : Str} {ps : List Th} (h1 : ps.length < 4) (h2 : isW z 8 = true) (h3 : ∀ p ∈ ps, p.shape h = true) : (Th.tup (.str z :: ps)).shape h = true := by
  show (decide (ps.length < 4) && ((Th.str z).word 8 && shapeL h ps)) = true
  rw [decide_eq_true h1, shapeL_iff.mpr h3]
  show (true && (isW z 8 && true)) = true
  rw [h2]
  rfl
/-! ### the law's word and the program's -/
def due (h : Bool) (t : Th) : Bool := t.shape h && (decide (t.size < 31) && decide ((t.dep : Int) < 6))
mutual
theorem size_pos : ∀ t : Th, 1 ≤ t.size
  | .tup [] => Int.le_refl 1
  | .tup (_ :: ps) => by
    have := sizeL_pos ps
    show 1 ≤ 1 + sizeL ps
    omega
  | .non | .bl _ | .int _ | .str _ | .ls | .dc => Int.le_refl 1
theorem sizeL_pos : ∀ l : List Th, 0 ≤ sizeL l
  | [] => Int.le_refl 0
  | p :: ps => by
    have h1 := size_pos p
    have h2 := sizeL_pos ps
    show 0 ≤ p.size + sizeL ps
    omega
end
theorem dep_pos (t : Th) : 1 ≤ t.dep := by
  cases t with
  | tup l =>
    cases l with
    | nil => exact Nat.le_refl 1
    | cons x ps => exact Nat.le_add_right 1 (depL ps)
  | _ => exact Nat.le_refl 1
theorem hole_shape {t : Th} (h : t.hole = true) (b : Bool) : t.shape b = b ∧ t.size = 1 ∧ t.dep = 1 := by
  cases t with
  | str z =>
    refine ⟨?_, rfl, rfl⟩
    show (b && isHl z) = b
    rw [show isHl z = true from h, Bool.and_true]
  | _ => cases h
/-- what the program's walk tells -/
theorem sw_eq (b : Bool) : ∀ (d : Nat) (t : Th), sw b d t = if t.shape b = true ∧ t.dep ≤ d then t.size else 0
  | 0, t => by
    have := dep_pos t
    rw [if_neg (fun h => by omega)]
    rfl
  | d + 1, t => by
    unfold sw
    by_cases hh : t.hole = true
    · obtain ⟨e1, e2, e3⟩ := hole_shape hh b
      rw [if_pos hh, e1, e2, e3]
      cases b with
      | true => rw [if_pos rfl, if_pos ⟨rfl, by omega⟩]
      | false => rw [if_neg Bool.false_ne_true, if_neg fun h => by cases h.1]
    · rw [if_neg hh]
      have loop : ∀ (ps : List Th) (acc : Int), 1 ≤ acc → swl (sw b d) acc ps = if shapeL b ps = true ∧ depL ps ≤ d then acc + sizeL ps else 0 := by
        intro ps
        induction ps with
        | nil =>
          intro acc _
          rw [if_pos ⟨rfl, Nat.zero_le _⟩]
          show acc = acc + 0
          omega
        | cons p ps ih =>
          intro acc ha
          show (if sw b d p = 0 then 0 else swl (sw b d) (acc + sw b d p) ps) = _
          have hp := sw_eq b d p
          have sp := size_pos p
          by_cases c : p.shape b = true ∧ p.dep ≤ d
          · rw [if_pos c] at hp
            rw [hp, if_neg (by omega), ih (acc + p.size) (by omega)]
            by_cases c2 : shapeL b ps = true ∧ depL ps ≤ d
            · rw [if_pos c2, if_pos ⟨by show (p.shape b && shapeL b ps) = true; rw [c.1, c2.1]; rfl, by show max p.dep (depL ps) ≤ d; omega⟩]
              show acc + p.size + sizeL ps = acc + (p.size + sizeL ps)
              omega
            · rw [if_neg c2, if_neg]
              rintro ⟨h1, h2⟩
              have h1 : (p.shape b && shapeL b ps) = true := h1
              have h2 : max p.dep (depL ps) ≤ d := h2
              rw [Bool.and_eq_true] at h1
              exact c2 ⟨h1.2, by omega⟩
          · rw [if_neg c] at hp
            rw [hp, if_pos rfl, if_neg]
            rintro ⟨h1, h2⟩
            have h1 : (p.shape b && shapeL b ps) = true := h1
            have h2 : max p.dep (depL ps) ≤ d := h2
            rw [Bool.and_eq_true] at h1
            exact c ⟨h1.1, by omega⟩
      cases t with
      | tup l =>
        cases l with
        | nil => rw [if_neg fun h => by cases h.1]
        | cons x ps =>
          show (if ps.length ≤ 3 ∧ x.word 8 = true then swl (sw b d) 1 ps else 0) = if (decide (ps.length < 4) && (x.word 8 && shapeL b ps)) = true ∧ 1 + depL ps ≤ d + 1 then 1 + sizeL ps else 0
          rw [loop ps 1 (Int.le_refl 1)]
          by_cases c1 : ps.length ≤ 3 ∧ x.word 8 = true
          · rw [if_pos c1, c1.2, decide_eq_true (by omega : ps.length < 4), Bool.true_and, Bool.true_and]
            by_cases c2 : shapeL b ps = true ∧ depL ps ≤ d
            · rw [if_pos c2, if_pos ⟨c2.1, by omega⟩]
            · rw [if_neg c2, if_neg fun h => c2 ⟨h.1, by omega⟩]
          · rw [if_neg c1, if_neg]
            rintro ⟨h1, _⟩
            simp only [Bool.and_eq_true, decide_eq_true_eq] at h1
            exact c1 ⟨by omega, h1.2.1⟩
      | str z =>
        rw [if_neg]
        rintro ⟨h1, _⟩
        have h1 : (b && isHl z) = true := h1
        rw [Bool.and_eq_true] at h1
        exact hh h1.2
      | _ => rw [if_neg fun h => by cases h.1]
theorem within_due (b : Bool) (t : Th) : within b t = due b t := by
  unfold within due
  rw [sw_eq]
  have hs := size_pos t
  by_cases c : t.shape b = true ∧ t.dep ≤ 5
  · rw [if_pos c, c.1, decide_eq_true hs, decide_eq_true (by omega : (t.dep : Int) < 6), Bool.true_and, Bool.true_and, Bool.and_true]
    exact decide_eq_decide.mpr (by omega)
  · rw [if_neg c, decide_eq_false (by decide : ¬ (1 : Int) ≤ 0), Bool.false_and]
    by_cases c1 : t.shape b = true
    · rw [c1, decide_eq_false (fun h => c ⟨c1, by omega⟩ : ¬ (t.dep : Int) < 6), Bool.and_false, Bool.and_false]
    · rw [Bool.eq_false_iff.mpr c1, Bool.false_and]
theorem range_map_getD {α β : Type} (d : α) (l : List α) (g : α → β) : ((List.range l.length).map fun i => g (l.getD i d)) = l.map g := by
  apply List.ext_getElem
  · rw [List.length_map, List.length_map, List.length_range]
  · intro i h1 h2
    rw [List.length_map, List.length_range] at h1
    rw [List.getElem_map, List.getElem_map, List.getElem_range, List.getD_eq_getElem?_getD, List.getElem?_eq_getElem h1]
    rfl
/-- a comprehension over the parts of a tuple, each told by f -/
theorem lc_parts {K : PySem.W.Frag} {H0 : Hp} {p D : Addr} {ys : List V} {ps : List Th} {σ : L2.St} {vs : List Nat} {j : Nat} {Qd : Hp → Prop} {te : TE} (f : Th → V) (hp : H0 p = some (.tup ys)) (hr : RepL H0 ys ps) (hn : ys.length ≤ 100) (hD : H0 D = none)
    (hset : ∀ x, wipe ((wipe σ vs).set j (some x)) vs = wipe σ vs) (he : ∀ x t H', Same H0 H' → t ∈ ps → Rep H' x t → ∀ Q : VK, (∀ H2, Same H' H2 → Q (f t) H2) → te ((wipe σ vs).set j (some x)) H' Q)
    (hd : ∀ H', Same H0 H' → H' D = some (.lst (ps.map f)) → Qd H') :
    ∃ W : Nat → Nat → Hp → Prop, (∃ m, W 0 m (upd H0 D (.lst []))) ∧ ∀ i m H, W i m H →
      ((Itt K p).stop i H ∧ Qd H) ∨ ((Itt K p).go i H ∧ ∃ Nx : Hp → Prop, (∀ H', Nx H' → ∃ m', m' < m ∧ W (i + 1) m' H') ∧ ∀ x H', (Itt K p).yld i H x H' → gName j x (wipe σ vs) H' fun σ2 H2 => wipe σ2 vs = wipe σ vs ∧ tYes σ2 H2 fun b H3 =>
        if b = true then te σ2 H3 fun y H4 => ∃ acc, H4 D = some (.lst acc) ∧ acc.length < sizeLine ∧ Nx (upd H4 D (.lst (acc ++ [y]))) else Nx H3) := by
  have hl := hr.length
  refine lc_pure (walk_tup (K := K)) (fun i => f (ps.getD i .non)) hD (by omega) (fun H' s' => SqT.of (s' _ _ hp)) hset (fun i x H H' hi s1 y => ?_) (fun H' s' e => hd H' s' ?_)
  · obtain ⟨rfl, hx⟩ := y
    obtain ⟨t, ht, rt⟩ := (hr.wk (Wk.same s1)).get' hx
    refine ⟨Same.refl _, fun Q q => ?_⟩
    have e : ps.getD i .non = t := by rw [List.getD_eq_getElem?_getD, ht]; rfl
    rw [e] at q
    exact he x t _ s1 (List.mem_of_getElem? ht) rt Q q
  · rw [e, hl, range_map_getD]
def sp_letters : Sp := fun vs H Q _ => ∃ (z : Str) (m : Int), vs = [.str z, .int m] ∧ z.length ≤ 100 ∧ okS z ∧ ∀ H', Same H H' → Q (.bl (isW z m)) H'
def sp_shape (n : Nat) : Sp := fun vs H Q _ => ∃ v t b, vs = [v, .bl b] ∧ t.hgt < n ∧ Rep H v t ∧ ∀ H', Same H H' → Q (.bl (t.shape b)) H'
def sp_size (n : Nat) : Sp := fun vs H Q _ => ∃ v t b, vs = [v] ∧ t.hgt < n ∧ t.shape b = true ∧ Rep H v t ∧ ∀ H', Same H H' → Q (.int t.size) H'
def sp_depth (n : Nat) : Sp := fun vs H Q _ => ∃ v t b, vs = [v] ∧ t.hgt < n ∧ t.shape b = true ∧ Rep H v t ∧ ∀ H', Same H H' → Q (.int t.dep) H'
def sp_due : Sp := fun vs H Q _ => ∃ v t b, vs = [v, .bl b] ∧ t.hgt < 12 ∧ Rep H v t ∧ ∀ H', Same H H' → Q (.bl (due b t)) H'
section
variable {P : Program} {w : World} {K : PySem.W.Frag} {mg : Str → Option Value} {base : Heap}
theorem c__law_letters (T : Tx K mg) : Cl P w K mg base CX0 1 "_law_letters" ["_law_text", "_law_most"] sp_letters := by
  refine Cl.mk0 T.d__law_letters sc__law_letters (fun vs H Q E h => ?_) (fun f cdv A outer s H vs Q E hr h => ?_)
  · obtain ⟨z, m, rfl, _⟩ := h
    rfl
  obtain ⟨z, m, rfl, hz, ok, q⟩ := h
  have fin : ∀ (b : Bool), isW z m = b → ∀ H', Same H H' → Q (.bl b) H' := fun b e H' s => e ▸ q H' s
  have e1 : decide (0 < (z.length : Int)) = decide (1 ≤ (z.length : Int)) := decide_eq_decide.mpr (by omega)
  refine ⟨_, (pss_one (ps_ret (pe_and (pe_chain op_lt op_le pe_int (pe_callB call_len (by rfl) T.z_len (by decide +kernel) (pa_cons (pv 0) pa_nil)) (pv 1)) (pe_one (pe_cmpR (op_eqD hr.units) (pe_lc (own := [("_law_sign", 2)]) (g := gName 2) rfl sc__law_letters.nd (pi_str (pv 0)) (blkOk_by (own := [("_law_sign", 2)]) (N := ["_law_text", "_law_most", "_law_sign"]) (sc := defScope s__law_letters) (by decide +kernel)) (fun _ _ _ _ _ => (pg_name (i := 2) sc__law_letters.nd rfl (Or.inl rfl))) (fun _ _ _ _ _ => (pts_one (pt_cmpR op_notIn_sign (pv 2) pe_str rfl))) (fun _ _ _ _ _ => (pv 2))) (pe_lst pa_nil) (nomark _)))))), ?_⟩
  refine ⟨_, rfl, _, _, rfl, ⟨Nat.le_of_lt (small1000 (by omega)), rfl⟩, _, _, rfl, rfl, _, rfl, ite2 (fun c1 => ?_) (fun c1 => ?_)⟩
  · rw [e1] at c1
    refine ⟨_, rfl, _, _, rfl, rfl, _, rfl, ite2 (fun c2 => ?_) (fun c2 => ?_)⟩
    · refine ⟨_, rfl, _, rfl, fun D hD => ?_⟩
      refine lc_it walk_str (fun i H' => Same H H' ∧ H' D = some (.lst ((((z.cps.toList.take i).filter fun c => !lowc c).map fun c => (⟨#[c]⟩ : Str)).map V.str))) ⟨same_new hD _, upd_same⟩ (fun _ _ _ _ => trivial) (fun i x H1 H2 hi p y => ?_) (fun H1 p => ?_)
      · obtain ⟨rfl, c, hc, rfl⟩ := y
        have hc' : z.cps.toList[i]? = some c := by rw [Array.getElem?_toList]; exact hc
        have htk : z.cps.toList.take (i + 1) = z.cps.toList.take i ++ [c] := by rw [List.take_add_one, hc']; rfl
        refine ⟨rfl, _, rfl, c, LS, rfl, rfl, _, rfl, ite2 (fun c3 => ?_) (fun c3 => ?_)⟩
        · refine ⟨_, rfl, _, p.2, ?_, Same.mut p.1 hD, ?_⟩
          · rw [List.length_map, List.length_map]
            have := List.length_filter_le (fun c => !lowc c) (z.cps.toList.take i)
            rw [List.length_take] at this
            have h2 : z.cps.toList.length ≤ 100 := hz
            exact small1000 (by omega)
          · have c3' : (!lowc c) = true := c3
            rw [upd_same, htk, List.filter_append, List.filter_cons, if_pos c3', List.map_append, List.map_append]
            rfl
        · have c3' : ¬ (!lowc c) = true := c3
          refine ⟨p.1, ?_⟩
          rw [p.2, htk, List.filter_append, List.filter_cons, if_neg c3']
          show _ = some (HO.lst (List.map V.str (List.map _ (_ ++ []))))
          rw [List.append_nil]
      · obtain ⟨s1, e2⟩ := p
        have e3 : z.cps.toList.take z.cps.size = z.cps.toList := List.take_of_length_le (Nat.le_refl _)
        rw [e3] at e2
        refine ⟨Nat.zero_le _, fun p2 hp2 => ⟨_, _, .lst (SqL.of (same_new hp2 _ _ _ e2)) (dpStrs _), .lst (SqL.of upd_same) .nil, shapedStrs _ (fun x hx => ?_), shapedInts [], ?_⟩⟩
        · obtain ⟨c, hc, rfl⟩ := List.mem_map.mp hx
          intro y hy
          have : y = c := by simpa using hy
          exact this ▸ ok c (List.mem_filter.mp hc).1
        · refine fin _ ?_ _ (s1.trans (same_new hp2 _))
          rw [eqvNil]
          unfold isW
          rw [c1, show decide ((z.length : Int) ≤ m) = true from c2, Bool.true_and, Bool.true_and]
          rw [List.isEmpty_map, List.isEmpty_map]
          induction z.cps.toList with
          | nil => rfl
          | cons a r ih =>
            rw [List.all_cons, List.filter_cons, ih]
            cases lowc a <;> rfl
    · refine fin false ?_ H (Same.refl H)
      unfold isW
      rw [show decide ((z.length : Int) ≤ m) = false from Bool.eq_false_iff.mpr c2, Bool.false_and, Bool.and_false]
  · rw [e1] at c1
    refine ⟨false, rfl, fin false ?_ H (Same.refl H)⟩
    unfold isW
    rw [Bool.eq_false_iff.mpr c1, Bool.false_and]
end
end Kt
namespace Kt
open PySem PySem.Spec PyProof.Rows L2
theorem hgt_part {m : Nat} {l : List Th} (h : (Th.tup l).hgt < m + 1) : ∀ p ∈ l, p.hgt < m := fun p hp => by
  have h : 1 + hgtL l < m + 1 := h
  have := hgtL_le.mp (Nat.le_refl (hgtL l)) p hp
  omega
theorem all_map {ps : List Th} {b : Bool} : (ps.map fun t => t.shape b).all id = shapeL b ps := by
  induction ps with
  | nil => rfl
  | cons p ps ih =>
    rw [List.map_cons, List.all_cons, ih]
    rfl
theorem sum_map {ps : List Th} : (ps.map fun t => t.size).sum = sizeL ps := by
  induction ps with
  | nil => rfl
  | cons p ps ih =>
    rw [List.map_cons, List.sum_cons, ih]
    rfl
theorem max_map {ps : List Th} {m : Int} (h1 : m ∈ ps.map fun t => (t.dep : Int)) (h2 : ∀ y ∈ ps.map (fun t => (t.dep : Int)), y ≤ m) : m = (depL ps : Int) := by
  have g : ∀ l : List Th, (∀ t ∈ l, (t.dep : Int) ≤ m) → (depL l : Int) ≤ m ∨ l = [] := by
    intro l
    induction l with
    | nil => exact fun _ => .inr rfl
    | cons p ps ih =>
      intro h
      have a := h p (List.mem_cons_self ..)
      rcases ih fun t ht => h t (List.mem_cons_of_mem _ ht) with b | b
      · left
        show ((max p.dep (depL ps) : Nat) : Int) ≤ m
        omega
      · left
        subst b
        show ((max p.dep 0 : Nat) : Int) ≤ m
        omega
  have g2 : ∀ l : List Th, ∀ t ∈ l, t.dep ≤ depL l := by
    intro l
    induction l with
    | nil => exact fun t h => (List.not_mem_nil h).elim
    | cons p ps ih =>
      intro t h
      show t.dep ≤ max p.dep (depL ps)
      rcases List.mem_cons.mp h with rfl | h
      · omega
      · have := ih t h
        omega
  obtain ⟨t, ht, rfl⟩ := List.mem_map.mp h1
  have a := g2 ps t ht
  rcases g ps fun u hu => h2 _ (List.mem_map.mpr ⟨u, hu, rfl⟩) with b | b
  · omega
  · subst b
    exact (List.not_mem_nil ht).elim
theorem eq_str {x : Str} : decide (V.str x = V.str "?") = decide (V.str x = V.str "?") := rfl
section
variable {P : Program} {w : World} {K : PySem.W.Frag} {mg : Str → Option Value} {base : Heap}
theorem c__law_shape_n (T : Tx K mg) : ∀ n : Nat, Cl P w K mg base CX0 (n + 1) "_law_shape" ["_law_one", "_law_holed"] (sp_shape n)
  | 0 => Cl.no T.d__law_shape fun vs H Q E h => by
    obtain ⟨v, t, b, _, hd, _⟩ := h
    exact absurd hd (Nat.not_lt_zero _)
  | n + 1 => by
    have ih := c__law_shape_n T n
    refine Cl.mk0 T.d__law_shape sc__law_shape (fun vs H Q E h => ?_) (fun f cdv A outer s H vs Q E hr h => ?_)
    · obtain ⟨v, t, b, rfl, _⟩ := h
      rfl
    obtain ⟨v, t, b, rfl, hd, r, q⟩ := h
    have fin : ∀ (i : Bool), t.shape b = i → ∀ H', Same H H' → Q (.bl i) H' := fun i e H' s => e ▸ q H' s
    refine ⟨_, (pss_cons (ps_if (pt_val (pe_callB (id := "isinstance") (r := rIsi K) call_isi (by rfl) T.z_isinstance (by decide +kernel) (pa_cons (pv 0) (pa_cons (pe_bltn (v := .ty "str") (u := .type "str") (by rfl) T.z_str (by decide +kernel) rfl) pa_nil))))
      (pss_one (ps_ret (pe_and (pv 1) (pe_and (pe_cmpR op_eq (pe_slice (SlR.or sl_str sl_tupA) (pv 0) po_no (po_some pe_int)) pe_str (nomark _)) (pe_one (pe_cl (c__law_letters T) hr (by omega) rfl (pa_cons (pe_slice (SlR.or sl_str sl_tupA) (pv 0) (po_some pe_int) po_no) (pa_cons pe_int pa_nil))))))))
      pss_nil)
    (pss_cons (ps_if (PW.pt (pw_or (pt_not (pt_val (pe_callB (id := "isinstance") (r := rIsi K) call_isi (by rfl) T.z_isinstance (by decide +kernel) (pa_cons (pv 0) (pa_cons (pe_bltn (v := .ty "tuple") (u := .type "tuple") (by rfl) T.z_tuple (by decide +kernel) rfl) pa_nil))))) (pw_or (pt_not (pt_chain op_lt op_lt pe_int (pe_callB call_len (by rfl) T.z_len (by decide +kernel) (pa_cons (pv 0) pa_nil)) pe_int)) (pw_or1 (pt_not (pt_val (pe_callB (id := "isinstance") (r := rIsi K) call_isi (by rfl) T.z_isinstance (by decide +kernel) (pa_cons (pe_ix ix_tup (pv 0) pe_int (fun _ _ => rfl)) (pa_cons (pe_bltn (v := .ty "str") (u := .type "str") (by rfl) T.z_str (by decide +kernel) rfl) pa_nil)))))))))
      (pss_one (ps_ret pe_bl))
      pss_nil)
    (pss_one (ps_ret (pe_and (pe_cl (c__law_letters T) hr (by omega) rfl (pa_cons (pe_ix ix_tup (pv 0) pe_int (fun _ _ => rfl)) (pa_cons pe_int pa_nil))) (pe_one (pe_callB (cr_all rfl) (by rfl) T.z_all (by decide +kernel) (pa_cons (pe_lc (own := [("_law_part", 2)]) (g := gName 2) (tt := tYes) rfl sc__law_shape.nd (pi_tup (pe_slice (SlR.or sl_str sl_tupA) (pv 0) (po_some pe_int) po_no)) (blkOk_by (own := [("_law_part", 2)]) (N := ["_law_one", "_law_holed", "_law_part"]) (sc := defScope s__law_shape) (by decide +kernel)) (fun _ _ _ _ _ => (pg_name (i := 2) sc__law_shape.nd rfl (Or.inl rfl))) (fun _ _ _ _ _ => pts_nil) (fun _ _ _ _ _ => (pe_cl ih hr (by omega) rfl (pa_cons (pv 2) (pa_cons (pv 1) pa_nil))))) pa_nil)))))))), ?_⟩
    refine ⟨_, rfl, _, _, _, _, _, rfl, .ty _, r.tyx, kstr t, _, rfl, ?_⟩
    have r0 := r
    cases r with
    | str z hz ok =>
      have hz' : z.length ≤ sizeLine := Nat.le_of_lt (small1000 (by omega))
      refine iteT ⟨_, rfl, _, rfl, ?_⟩
      cases b with
      | false => exact iteF (fin _ rfl H (Same.refl H))
      | true =>
        refine iteT ⟨_, rfl, 1, rfl, .inl ⟨_, rfl, hz', rfl, _, rfl, ite2 (fun c => ?_) (fun c => ?_)⟩⟩
        · refine ⟨_, rfl, 1, rfl, .inl ⟨_, rfl, hz', _, 4, rfl, Nat.le_trans (cutS_len _ _ _) hz, cutS_ok ok _ _, fun H' s => ?_⟩⟩
          refine fin _ ?_ H' s
          show (true && isHl z) = _
          unfold isHl
          rw [c, Bool.true_and, Bool.true_and]
        · refine fin _ ?_ H (Same.refl H)
          show (true && isHl z) = _
          unfold isHl
          rw [Bool.eq_false_iff.mpr c, Bool.false_and]
          rfl
    | @tup a xs l ha hn hl =>
      refine iteF ⟨_, rfl, _, _, _, _, _, rfl, .ty _, r0.tyx, ktup _, _, rfl, iteF ?_⟩
      have hlen := hl.length
      refine ⟨_, rfl, _, _, rfl, .inr ⟨xs, SqT.of ha, rfl⟩, _, _, rfl, rfl, _, rfl, ite2 (fun c1 => ?_) (fun c1 => ?_)⟩
      · have c1' : 0 < (xs.length : Int) := of_decide_eq_true c1
        refine ⟨_, _, rfl, rfl, _, rfl, ite2 (fun c2 => ?_) (fun c2 => ?_)⟩
        · have c2' : ¬ (xs.length : Int) < 5 := of_decide_eq_false (by simpa using c2)
          refine iteT (fin false (Bool.eq_false_iff.mpr fun e => ?_) H (Same.refl H))
          obtain ⟨z, ps, rfl, h4, _⟩ := shape_tup e
          rw [List.length_cons] at hlen
          omega
        · have c2' : (xs.length : Int) < 5 := of_decide_eq_true (by simpa using c2)
          cases hl with
          | nil =>
            have : (0 : Int) < 0 := c1'
            omega
          | @cons y ys x ps hx hps =>
            rw [List.length_cons] at c2'
            refine ⟨_, rfl, _, _, _, _, rfl, rfl, SqT.of ha, atI_nat (j := 0) rfl, _, _, _, _, _, rfl, .ty _, hx.tyx, kstr x, _, rfl, ?_⟩
            cases hx with
            | str z hz ok =>
              refine iteF ?_
              refine ⟨_, rfl, _, _, _, _, rfl, rfl, SqT.of ha, atI_nat (j := 0) rfl, z, 8, rfl, hz, ok, fun H1 s1 => ⟨_, rfl, ite2 (fun c3 => ?_) (fun c3 => ?_)⟩⟩
              · have ha1 := s1 _ _ ha
                refine ⟨_, rfl, 1, rfl, .inr (sl_lo (K := K) 1 ha1 (by omega) (by rw [List.length_cons]; omega) fun p hp => ?_)⟩
                refine ⟨p, rfl, ⟨ys, SqT.of upd_same⟩, fun D hD => ?_⟩
                have s2 := s1.trans (same_new (o := .tup ys) hp)
                refine lc_parts (ys := ys) (ps := ps) (fun t => .bl (t.shape b)) upd_same (hps.wk (Wk.same s2)) (by rw [List.length_cons] at hn; omega) hD (fun _ => rfl) (fun x' t' H' sH ht rt Q' q' => ?_) (fun H' sH e => ?_)
                · exact ⟨_, rfl, _, rfl, x', t', b, rfl, hgt_part hd t' (List.mem_cons_of_mem _ ht), rt, fun H2 s3 => q' H2 s3⟩
                · refine ⟨D, ps.map fun t => t.shape b, rfl, SqL.of ?_, ?_⟩
                  · rw [e, List.map_map]
                    rfl
                  · rw [all_map]
                    refine fin _ ?_ H' (s2.trans sH)
                    have hps3 : ps.length < 4 := by
                      have := hps.length
                      omega
                    show (decide (ps.length < 4) && (isW z 8 && shapeL b ps)) = _
                    rw [decide_eq_true hps3, c3, Bool.true_and, Bool.true_and]
              · refine fin false ?_ H1 s1
                show (decide (ps.length < 4) && (isW z 8 && shapeL b ps)) = _
                rw [Bool.eq_false_iff.mpr c3, Bool.false_and, Bool.and_false]
            | _ =>
              refine iteT (fin false ?_ H (Same.refl H))
              exact Bool.and_false _
      · refine ⟨_, rfl, iteT (fin false (Bool.eq_false_iff.mpr fun e => ?_) H (Same.refl H))⟩
        have c1' : ¬ 0 < (xs.length : Int) := of_decide_eq_false (by simpa using c1)
        obtain ⟨z, ps, rfl, h4, _⟩ := shape_tup e
        rw [List.length_cons] at hlen
        omega
    | _ => exact iteF ⟨_, rfl, _, _, _, _, _, rfl, .ty _, r0.tyx, ktup _, _, rfl, iteT (iteT (fin _ rfl H (Same.refl H)))⟩
theorem c__law_shape (T : Tx K mg) : Cl P w K mg base CX0 13 "_law_shape" ["_law_one", "_law_holed"] (sp_shape 12) := c__law_shape_n T 12
theorem c__law_size_n (T : Tx K mg) : ∀ n : Nat, Cl P w K mg base CX0 (n + 1) "_law_size" ["_law_one"] (sp_size n)
  | 0 => Cl.no T.d__law_size fun vs H Q E h => by
    obtain ⟨v, t, b, _, hd, _⟩ := h
    exact absurd hd (Nat.not_lt_zero _)
  | n + 1 => by
    have ih := c__law_size_n T n
    refine Cl.mk0 T.d__law_size sc__law_size (fun vs H Q E h => ?_) (fun f cdv A outer s H vs Q E hr h => ?_)
    · obtain ⟨v, t, b, rfl, _⟩ := h
      rfl
    obtain ⟨v, t, b, rfl, hd, hs, r, q⟩ := h
    refine ⟨_, (pss_cons (ps_if (pt_val (pe_callB (id := "isinstance") (r := rIsi K) call_isi (by rfl) T.z_isinstance (by decide +kernel) (pa_cons (pv 0) (pa_cons (pe_bltn (v := .ty "str") (u := .type "str") (by rfl) T.z_str (by decide +kernel) rfl) pa_nil))))
      (pss_one (ps_ret pe_int))
      pss_nil)
    (pss_one (ps_ret (pe_op op_add pe_int (pe_callB (cr_sum rfl) (by rfl) T.z_sum (by decide +kernel) (pa_cons (pe_lc (own := [("_law_part", 1)]) (g := gName 1) (tt := tYes) rfl sc__law_size.nd (pi_tup (pe_slice sl_tupA (pv 0) (po_some pe_int) po_no)) (blkOk_by (own := [("_law_part", 1)]) (N := ["_law_one", "_law_part"]) (sc := defScope s__law_size) (by decide +kernel)) (fun _ _ _ _ _ => (pg_name (i := 1) sc__law_size.nd rfl (Or.inl rfl))) (fun _ _ _ _ _ => pts_nil) (fun _ _ _ _ _ => (pe_cl ih hr (by omega) rfl (pa_cons (pv 1) pa_nil)))) pa_nil)))))), ?_⟩
    refine ⟨_, rfl, _, _, _, _, _, rfl, .ty _, r.tyx, kstr t, _, rfl, ?_⟩
    cases r with
    | str z hz ok => exact iteT (q H (Same.refl H))
    | @tup a xs l ha hn hl =>
      obtain ⟨z, ps, rfl, h4, h8, hall⟩ := shape_tup hs
      cases hl with
      | @cons y ys _ _ hx hps =>
        refine iteF ⟨_, rfl, 1, rfl, sl_lo (K := K) 1 ha (by omega) (by rw [List.length_cons]; omega) fun p hp => ?_⟩
        refine ⟨p, rfl, ⟨ys, SqT.of upd_same⟩, fun D hD => ?_⟩
        have s2 := same_new (o := .tup ys) hp
        refine lc_parts (ys := ys) (ps := ps) (fun t => .int t.size) upd_same (hps.wk (Wk.same s2)) (by rw [List.length_cons] at hn; omega) hD (fun _ => rfl) (fun x' t' H' sH ht rt Q' q' => ?_) (fun H' sH e => ?_)
        · exact ⟨_, rfl, x', t', b, rfl, hgt_part hd t' (List.mem_cons_of_mem _ ht), hall t' ht, rt, fun H2 s3 => q' H2 s3⟩
        · refine ⟨D, ps.map fun t => t.size, rfl, SqL.of ?_, _, _, rfl, rfl, ?_⟩
          · rw [e, List.map_map]
            rfl
          · rw [sum_map]
            exact q H' (s2.trans sH)
    | _ => cases hs
theorem c__law_size (T : Tx K mg) : Cl P w K mg base CX0 13 "_law_size" ["_law_one"] (sp_size 12) := c__law_size_n T 12
theorem c__law_depth_n (T : Tx K mg) : ∀ n : Nat, Cl P w K mg base CX0 (n + 1) "_law_depth" ["_law_one"] (sp_depth n)
  | 0 => Cl.no T.d__law_depth fun vs H Q E h => by
    obtain ⟨v, t, b, _, hd, _⟩ := h
    exact absurd hd (Nat.not_lt_zero _)
  | n + 1 => by
    have ih := c__law_depth_n T n
    refine Cl.mk0 T.d__law_depth sc__law_depth (fun vs H Q E h => ?_) (fun f cdv A outer s H vs Q E hr h => ?_)
    · obtain ⟨v, t, b, rfl, _⟩ := h
      rfl
    obtain ⟨v, t, b, rfl, hd, hs, r, q⟩ := h
    refine ⟨_, (pss_cons (ps_if (PW.pt (pw_or (pt_val (pe_callB (id := "isinstance") (r := rIsi K) call_isi (by rfl) T.z_isinstance (by decide +kernel) (pa_cons (pv 0) (pa_cons (pe_bltn (v := .ty "str") (u := .type "str") (by rfl) T.z_str (by decide +kernel) rfl) pa_nil)))) (pw_or1 (pt_cmpR op_eq (pe_callB call_len (by rfl) T.z_len (by decide +kernel) (pa_cons (pv 0) pa_nil)) pe_int (nomark _)))))
      (pss_one (ps_ret pe_int))
      pss_nil)
    (pss_one (ps_ret (pe_op op_add pe_int (pe_callB (cr_max rfl) (by rfl) T.z_max (by decide +kernel) (pa_cons (pe_lc (own := [("_law_part", 1)]) (g := gName 1) (tt := tYes) rfl sc__law_depth.nd (pi_tup (pe_slice sl_tupA (pv 0) (po_some pe_int) po_no)) (blkOk_by (own := [("_law_part", 1)]) (N := ["_law_one", "_law_part"]) (sc := defScope s__law_depth) (by decide +kernel)) (fun _ _ _ _ _ => (pg_name (i := 1) sc__law_depth.nd rfl (Or.inl rfl))) (fun _ _ _ _ _ => pts_nil) (fun _ _ _ _ _ => (pe_cl ih hr (by omega) rfl (pa_cons (pv 1) pa_nil)))) pa_nil)))))), ?_⟩
    refine ⟨_, rfl, _, _, _, _, _, rfl, .ty _, r.tyx, kstr t, _, rfl, ?_⟩
    cases r with
    | str z hz ok => exact iteT (iteT (q H (Same.refl H)))
    | @tup a xs l ha hn hl =>
      obtain ⟨z, ps, rfl, h4, h8, hall⟩ := shape_tup hs
      cases hl with
      | @cons y ys _ _ hx hps =>
        have hlen := hps.length
        refine iteF ⟨_, rfl, _, _, rfl, .inr ⟨_, SqT.of ha, rfl⟩, rfl, _, rfl, ite2 (fun c => ?_) (fun c => ?_)⟩
        · have c' : (((y :: ys).length : Nat) : Int) = 1 := V.int.inj (of_decide_eq_true c)
          rw [List.length_cons] at c'
          have e : ps = [] := List.eq_nil_of_length_eq_zero (by omega)
          subst e
          exact q H (Same.refl H)
        have hne : 0 < ps.length := by
          cases ps with
          | nil =>
            cases hps
            exact absurd (decide_eq_true rfl) c
          | cons a b => exact Nat.succ_pos _
        refine ⟨_, rfl, 1, rfl, sl_lo (K := K) 1 ha (by omega) (by rw [List.length_cons]; omega) fun p hp => ?_⟩
        refine ⟨p, rfl, ⟨ys, SqT.of upd_same⟩, fun D hD => ?_⟩
        have s2 := same_new (o := .tup ys) hp
        refine lc_parts (ys := ys) (ps := ps) (fun t => .int t.dep) upd_same (hps.wk (Wk.same s2)) (by rw [List.length_cons] at hn; omega) hD (fun _ => rfl) (fun x' t' H' sH ht rt Q' q' => ?_) (fun H' sH e => ?_)
        · exact ⟨_, rfl, x', t', b, rfl, hgt_part hd t' (List.mem_cons_of_mem _ ht), hall t' ht, rt, fun H2 s3 => q' H2 s3⟩
        · refine ⟨D, ps.map fun t => (t.dep : Int), rfl, SqL.of ?_, by rw [List.length_map]; exact hne, fun m h1 h2 => ⟨_, _, rfl, rfl, ?_⟩⟩
          · rw [e, List.map_map]
            rfl
          · rw [max_map h1 h2]
            have := q H' (s2.trans sH)
            rw [show ((Th.tup (.str z :: ps)).dep : Int) = 1 + (depL ps : Int) from by show ((1 + depL ps : Nat) : Int) = _; omega] at this
            exact this
    | _ => cases hs
theorem c__law_depth (T : Tx K mg) : Cl P w K mg base CX0 13 "_law_depth" ["_law_one"] (sp_depth 12) := c__law_depth_n T 12
theorem c__law_due (T : Tx K mg) : Cl P w K mg base CX0 14 "_law_due" ["_law_one", "_law_holed"] sp_due := by
  refine Cl.mk0 T.d__law_due sc__law_due (fun vs H Q E h => ?_) (fun f cdv A outer s H vs Q E hr h => ?_)
  · obtain ⟨v, t, b, rfl, _⟩ := h
    rfl
  obtain ⟨v, t, b, rfl, hd, r, q⟩ := h
  have fin : ∀ (i : Bool), due b t = i → ∀ H', Same H H' → Q (.bl i) H' := fun i e H' s => e ▸ q H' s
  refine ⟨_, (pss_one (ps_ret (pe_and (pe_cl (c__law_shape T) hr (by omega) rfl (pa_cons (pv 0) (pa_cons (pv 1) pa_nil))) (pe_and (pe_cmpR op_lt (pe_cl (c__law_size T) hr (by omega) rfl (pa_cons (pv 0) pa_nil)) pe_int (nomark _)) (pe_one (pe_cmpR op_lt (pe_cl (c__law_depth T) hr (by omega) rfl (pa_cons (pv 0) pa_nil)) pe_int (nomark _))))))), ?_⟩
  refine ⟨_, rfl, _, rfl, v, t, b, rfl, hd, r, fun H1 s1 => ⟨_, rfl, ite2 (fun c1 => ?_) (fun c1 => ?_)⟩⟩
  · refine ⟨_, rfl, v, t, b, rfl, hd, c1, r.wk (Wk.same s1), fun H2 s2 => ⟨_, _, rfl, rfl, _, rfl, ite2 (fun c2 => ?_) (fun c2 => ?_)⟩⟩
    · refine ⟨_, rfl, v, t, b, rfl, hd, c1, r.wk (Wk.same (s1.trans s2)), fun H3 s3 => ⟨_, _, rfl, rfl, fin _ ?_ H3 ((s1.trans s2).trans s3)⟩⟩
      unfold due
      rw [c1, c2, Bool.true_and, Bool.true_and]
    · refine fin _ ?_ H2 (s1.trans s2)
      unfold due
      rw [c1, Bool.eq_false_iff.mpr c2, Bool.false_and, Bool.and_false]
  · refine fin _ ?_ H1 s1
    unfold due
    rw [Bool.eq_false_iff.mpr c1, Bool.false_and]
end
end Kt
namespace Kt
open PySem PySem.Spec PyProof.Rows L2
/-- a pattern of at most n levels -/
def sp_pattern (n : Nat) : Sp := fun vs H Q _ => ∃ (d c : Addr) (left : Nat) (b : Bool), vs = [.ref d, .int (left : Int), .bl b] ∧ 1 ≤ left ∧ left ≤ n ∧ Dr d c H ∧
  ∀ v t H', Rep H' v t → t.shape b = true → t.hgt ≤ left → DU d c H H' → Q v H'
/-- a thing made of one otherwise -/
def sp_odd : Sp := fun vs H Q _ => ∃ (d c : Addr) (v : V) (t : Th) (b : Bool), vs = [.ref d, v] ∧ Dr d c H ∧ Rep H v t ∧ t.shape b = true ∧ ∀ v' t' H', Rep H' v' t' → t'.hgt ≤ t.hgt + 2 → DU d c H H' → Q v' H'
def sp_spoilt (n : Nat) : Sp := fun vs H Q _ => ∃ (d c : Addr) (v : V) (t : Th) (b : Bool), vs = [.ref d, v] ∧ t.hgt < n ∧ Dr d c H ∧ Rep H v t ∧ t.shape b = true ∧ ∀ v' t' H', Rep H' v' t' → t'.hgt ≤ t.hgt + 2 → DU d c H H' → Q v' H'
theorem RepL.mem {H : Hp} : ∀ {vs : List V} {ts : List Th} {v : V}, RepL H vs ts → v ∈ vs → ∃ t, t ∈ ts ∧ Rep H v t
  | _, _, _, .nil, h => (List.not_mem_nil h).elim
  | _, _, _, .cons h r, hm => by
    rcases List.mem_cons.mp hm with rfl | hm
    · exact ⟨_, List.mem_cons_self .., h⟩
    · obtain ⟨t, h1, h2⟩ := RepL.mem r hm
      exact ⟨t, List.mem_cons_of_mem _ h1, h2⟩
theorem RepL.one {H : Hp} {v : V} {t : Th} (h : Rep H v t) : RepL H [v] [t] := .cons h .nil
/-- a list changed is a list still -/
theorem Wk.lst_upd {H : Hp} {D : Addr} {xs : List V} (h : H D = some (.lst xs)) (ys : List V) : Wk H (upd H D (.lst ys)) :=
  ⟨fun a zs q => by rw [upd_ne (ne_of q h fun e => nomatch e)]; exact q, fun a zs q => by
    by_cases e : a = D
    · subst e
      exact ⟨_, upd_same⟩
    · exact ⟨zs, by rw [upd_ne e]; exact q⟩, fun a zs q => ⟨zs, by rw [upd_ne (ne_of q h fun e => nomatch e)]; exact q⟩⟩
/-- two tuples put together -/
theorem catA {K : PySem.W.Frag} {H : Hp} {a b : Addr} {xs ys : List V} {Q : VK} (ha : H a = some (.tup xs)) (hb : H b = some (.tup ys)) (hx : xs ≠ []) (hl : xs.length + ys.length ≤ 200) (q : ∀ p H', Same H H' → H' p = some (.tup (xs ++ ys)) → Q (.ref p) H') : rCatA K (.ref a) (.ref b) H Q := by
  refine ⟨a, b, xs, ys, rfl, rfl, SqT.of ha, SqT.of hb, Nat.le_of_lt (small1000 (by omega)), fun e => absurd e hx, fun _ e => ?_, fun _ _ p hp => q p _ (same_new hp _) upd_same⟩
  subst e
  exact q a H (Same.refl H) (by rw [List.append_nil]; exact ha)
section
variable {P : Program} {w : World} {K : PySem.W.Frag} {mg : Str → Option Value} {base : Heap}
theorem c__law_pattern_n (T : Tx K mg) : ∀ n : Nat, Cl P w K mg base CX0 (n + 3) "_law_pattern" ["_law_draw", "_law_left", "_law_holed"] (sp_pattern n)
  | 0 => Cl.no T.d__law_pattern fun vs H Q E h => by
    obtain ⟨d, c, left, b, _, h1, h2, _⟩ := h
    omega
  | n + 1 => by
    have ih := c__law_pattern_n T n
    refine Cl.mk0 T.d__law_pattern sc__law_pattern (fun vs H Q E h => ?_) (fun f cdv A outer s H vs Q E hr h => ?_)
    · obtain ⟨d, c, left, b, rfl, _⟩ := h
      rfl
    obtain ⟨d, c, left, b, rfl, h1, h2, hD, q⟩ := h
    refine ⟨_, (Evl.pss_cut (ps_if (PW.pt (pw_and (pt_val (pv 2)) (pw_and1 (pt_cmpR op_eq (pe_cl (c__law_take T) hr (by omega) rfl (pa_cons (pv 0) (pa_cons pe_int pa_nil))) pe_int (nomark _)))))
      (pss_one (ps_ret (pe_cl (c__law_hole T) hr (by omega) rfl (pa_cons (pv 0) pa_nil))))
      pss_nil)
    (Evl.pss_cut (ps_set (i := 3) sc__law_pattern.nd rfl (Or.inl rfl) (pe_ifExp (pt_cmpR op_gt (pv 1) pe_int (nomark _)) (pe_cl (c__law_take T) hr (by omega) rfl (pa_cons (pv 0) (pa_cons pe_int pa_nil))) pe_int))
    (pss_one (ps_ret (pe_callTy call_tuple_of (by rfl) T.z_tuple (by decide +kernel) (pa_cons (pe_op op_cat (pe_lst (pa_cons (pe_cl (c__law_word T) hr (by omega) rfl (pa_cons (pv 0) pa_nil)) pa_nil)) (pe_lc (own := [("_law_k", 4)]) (g := gName 4) (tt := tYes) rfl sc__law_pattern.nd (pi_range1 (by rfl) T.z_range (pa_cons (pv 3) pa_nil)) (blkOk_by (own := [("_law_k", 4)]) (N := ["_law_draw", "_law_left", "_law_holed", "_law_many", "_law_k"]) (sc := defScope s__law_pattern) (by decide +kernel)) (fun _ _ _ _ _ => (pg_name (i := 4) sc__law_pattern.nd rfl (Or.inl rfl))) (fun _ _ _ _ _ => pts_nil) (fun _ _ _ _ _ => (pe_cl ih hr (by omega) rfl (pa_cons (pv 0) (pa_cons (pe_op op_sub (pv 1) pe_int) (pa_cons (pv 2) pa_nil))))))) pa_nil)))))), ?_⟩
    refine ⟨fun σ' H' => σ' = [some (.ref d), some (.int (left : Int)), some (.bl b), none, none] ∧ DU d c H H', ?_, fun σ1 H1 h1' => ?_⟩
    · cases b with
      | false => exact ⟨_, rfl, _, rfl, iteF (iteF ⟨rfl, DU.refl hD⟩)⟩
      | true =>
        refine ⟨_, rfl, _, rfl, iteT ⟨_, rfl, d, c, 4, rfl, by decide, by decide, hD, fun r H1 r0 r1 u1 => ⟨rfl, _, rfl, ite2 (fun c1 => ?_) (fun c1 => ?_)⟩⟩⟩
        · exact ⟨_, rfl, d, c, rfl, u1.dr, fun z H2 hz hl ok u2 => q _ (.str z) H2 (.str z (by omega) ok) hz (Nat.zero_le _) (u1.trans u2)⟩
        · exact ⟨rfl, u1⟩
    obtain ⟨rfl, u1⟩ := h1'
    refine ⟨fun σ' H' => ∃ m : Int, σ' = [some (.ref d), some (.int (left : Int)), some (.bl b), some (.int m), none] ∧ 0 ≤ m ∧ m < 4 ∧ (m = 0 ∨ 1 < left) ∧ DU d c H H', ?_, fun σ2 H2 h2' => ?_⟩
    · refine ⟨_, rfl, _, _, rfl, rfl, _, rfl, ite2 (fun c1 => ?_) (fun c1 => ?_)⟩
      · have c1' : (1 : Int) < (left : Int) := of_decide_eq_true c1
        exact ⟨_, rfl, d, c, 4, rfl, by decide, by decide, u1.dr, fun r H2 r0 r1 u2 => ⟨r, rfl, r0, r1, .inr (by omega), u1.trans u2⟩⟩
      · exact ⟨0, rfl, by decide, by decide, .inl rfl, u1⟩
    obtain ⟨m, rfl, m0, m4, hm, u2⟩ := h2'
    refine ⟨_, rfl, d, c, rfl, u2.dr, fun z H3 hz u3 => ⟨by show 1 ≤ sizeLine; decide, fun p hp => ?_⟩⟩
    have u4 := (u2.trans u3).then (same_new (o := .lst [.str z]) hp)
    obtain ⟨n1, n2⟩ := u3.dr.new hp
    refine ⟨_, rfl, m, rfl, by omega, by omega, fun D hD' => ?_⟩
    obtain ⟨n3, n4⟩ := u4.dr.new hD'
    have npD : p ≠ D := ne_of_none upd_same hD'
    refine lc_range (lo := 0) (n := m.toNat) (fun i H' => ∃ vs ts, DU d c H H' ∧ H' p = some (.lst [.str z]) ∧ H' D = some (.lst vs) ∧ vs.length = i ∧ RepL H' vs ts ∧ ∀ t ∈ ts, t.shape b = true ∧ t.hgt < left) ⟨[], [], u4.then (same_new hD' _), by rw [upd_ne npD]; exact upd_same, upd_same, rfl, .nil, fun t h => (List.not_mem_nil h).elim⟩ (fun i H' hi h' => ?_) (fun H' h' => ?_)
    · obtain ⟨vs, ts, u, hpH, hDH, hl, hr', hts⟩ := h'
      refine ⟨rfl, yesI ?_⟩
      refine ⟨_, rfl, _, rfl, _, _, rfl, rfl, _, rfl, d, c, left - 1, b, ?_, by omega, by omega, u.dr, fun v t H4 rv sh hg u5 => ?_⟩
      · show [V.ref d, V.int ((left : Int) - 1), V.bl b] = _
        rw [show (left : Int) - 1 = ((left - 1 : Nat) : Int) by omega]
      · have w5 := DU.wk u.dr u5
        have hD4 := u5.old _ _ n3 n4 hDH
        refine ⟨vs, hD4, small1000 (by omega), vs ++ [v], ts ++ [t], ?_, ?_, upd_same, ?_, ?_, ?_⟩
        · refine ⟨fun a o a1 a2 h => ?_, ?_⟩
          · have e : a ≠ D := fun e => by
              subst e
              rw [u4.old _ _ a1 a2 h] at hD'
              cases hD'
            rw [upd_ne e]
            exact u5.old _ _ a1 a2 (u.old _ _ a1 a2 h)
          · obtain ⟨cells, at', mix, e1, e2, r⟩ := u5.dr
            exact ⟨cells, at', mix, by rw [upd_ne n3.symm]; exact e1, by rw [upd_ne n4.symm]; exact e2, r⟩
        · rw [upd_ne npD]
          exact u5.old _ _ n1 n2 hpH
        · rw [List.length_append, hl]
          rfl
        · exact ((hr'.wk w5).append (RepL.one rv)).wk (Wk.lst_upd hD4 _)
        · intro t' ht'
          rcases List.mem_append.mp ht' with h | h
          · exact hts t' h
          · rw [List.mem_singleton.mp h]
            exact ⟨sh, by omega⟩
    · obtain ⟨vs, ts, u, hpH, hDH, hl, hr', hts⟩ := h'
      refine ⟨p, D, _, _, rfl, rfl, hpH, hDH, ?_, fun L hL => ?_⟩
      · show 1 + vs.length ≤ sizeLine
        exact Nat.le_of_lt (small1000 (by omega))
      · have s5 := same_new (o := .lst ([.str z] ++ vs)) hL
        refine ⟨L, _, rfl, .inl ⟨SqL.of upd_same, fun M hM => ?_⟩⟩
        have s6 := s5.trans (same_new (o := .tup ([.str z] ++ vs)) hM)
        have hlen := hr'.length
        refine q _ (.tup (.str z :: ts)) _ (.tup upd_same ?_ (.cons (isW_rep hz (by decide)) (hr'.wk (Wk.same s6)))) (shape_of (by omega) hz fun t ht => (hts t ht).1) ?_ (u.then s6)
        · rw [List.length_append, List.length_singleton]
          omega
        · have hh : hgtL ts ≤ left - 1 := hgtL_le.mpr fun t ht => by
            have := (hts t ht).2
            omega
          show 1 + max 0 (hgtL ts) ≤ left
          omega
theorem c__law_pattern (T : Tx K mg) : Cl P w K mg base CX0 8 "_law_pattern" ["_law_draw", "_law_left", "_law_holed"] (sp_pattern 5) := c__law_pattern_n T 5
end
end Kt
namespace Kt
open PySem PySem.Spec PyProof.Rows L2
theorem rstr {H : Hp} (z : Str) (h : z.length ≤ 100 := by decide) (ok : z.cps.toList.all (fun c => decide (c < 1114112)) = true := by decide +kernel) : Rep H (.str z) (.str z) :=
  .str z h fun c hc => of_decide_eq_true (List.all_eq_true.mp ok c hc)
theorem hgt_tup {m : Nat} {l : List Th} (h : ∀ p ∈ l, p.hgt ≤ m) : (Th.tup l).hgt ≤ m + 1 := by
  have := hgtL_le.mpr h
  show 1 + hgtL l ≤ m + 1
  omega
theorem hgt_le_part {l : List Th} {p : Th} (hp : p ∈ l) : p.hgt + 1 ≤ (Th.tup l).hgt := by
  have := hgtL_le.mp (Nat.le_refl (hgtL l)) p hp
  show p.hgt + 1 ≤ 1 + hgtL l
  omega
theorem mem_repl {α : Type} {x a : α} : ∀ {n : Nat}, x ∈ (List.replicate n [a]).flatten → x = a
  | 0, h => (List.not_mem_nil h).elim
  | n + 1, h => by
    rw [List.replicate_succ, List.flatten_cons] at h
    rcases List.mem_append.mp h with h | h
    · exact List.mem_singleton.mp h
    · exact mem_repl h
theorem len_repl {α : Type} {a : α} : ∀ n : Nat, ((List.replicate n [a]).flatten).length = n
  | 0 => rfl
  | n + 1 => by rw [List.replicate_succ, List.flatten_cons, List.length_append, len_repl n, List.length_singleton]; omega
section
variable {P : Program} {w : World} {K : PySem.W.Frag} {mg : Str → Option Value} {base : Heap}
theorem c__law_odd (T : Tx K mg) : Cl P w K mg base CX0 3 "_law_odd" ["_law_draw", "_law_one"] sp_odd := by
  refine Cl.mk0 T.d__law_odd sc__law_odd (fun vs H Q E h => ?_) (fun f cdv A outer s H vs Q E hr h => ?_)
  · obtain ⟨d, c, v, t, b, rfl, _⟩ := h
    rfl
  obtain ⟨d, c, v, t, b, rfl, hD, r, hs, q⟩ := h
  refine ⟨_, (pss_cons (ps_set (i := 2) sc__law_odd.nd rfl (Or.inl rfl) (pe_lst (pa_cons pe_non (pa_cons pe_int (pa_cons pe_bl (pa_cons pe_str (pa_cons pe_str (pa_cons pe_str (pa_cons pe_str (pa_cons pe_str (pa_cons pe_str (pa_cons (pe_tup pa_nil) (pa_cons (pe_lst pa_nil) (pa_cons (pe_lst (pa_cons pe_str pa_nil)) (pa_cons (pe_tup (pa_cons pe_str pa_nil)) (pa_cons (pe_tup (pa_cons pe_str pa_nil)) (pa_cons (pe_tup (pa_cons pe_str pa_nil)) (pa_cons (pe_tup (pa_cons pe_int pa_nil)) (pa_cons pe_dnewK pa_nil)))))))))))))))))))
    (pss_cons (ps_set (i := 3) sc__law_odd.nd rfl (Or.inl rfl) (pe_cl (c__law_take T) hr (by omega) rfl (pa_cons (pv 0) (pa_cons pe_int pa_nil))))
    (Evl.pss_cut (ps_if (PW.pt (pw_and (pt_cmpR op_eq (pv 3) pe_int (nomark _)) (pw_and1 (pt_val (pe_callB (id := "isinstance") (r := rIsi K) call_isi (by rfl) T.z_isinstance (by decide +kernel) (pa_cons (pv 1) (pa_cons (pe_bltn (v := .ty "tuple") (u := .type "tuple") (by rfl) T.z_tuple (by decide +kernel) rfl) pa_nil)))))))
      (pss_one (ps_ret (pe_callTy call_list_of (by rfl) T.z_list (by decide +kernel) (pa_cons (pv 1) pa_nil))))
      pss_nil)
    (Evl.pss_cut (ps_if (PW.pt (pw_and (pt_cmpR op_eq (pv 3) pe_int (nomark _)) (pw_and1 (pt_val (pe_callB (id := "isinstance") (r := rIsi K) call_isi (by rfl) T.z_isinstance (by decide +kernel) (pa_cons (pv 1) (pa_cons (pe_bltn (v := .ty "tuple") (u := .type "tuple") (by rfl) T.z_tuple (by decide +kernel) rfl) pa_nil)))))))
      (pss_one (ps_ret (pe_op op_catA (pv 1) (pe_op op_repTA (pe_tup (pa_cons (pe_tup (pa_cons pe_str pa_nil)) pa_nil)) (pe_op op_sub pe_int (pe_callB call_len (by rfl) T.z_len (by decide +kernel) (pa_cons (pv 1) pa_nil)))))))
      pss_nil)
    (Evl.pss_cut (ps_if (pt_cmpR op_eq (pv 3) pe_int (nomark _))
      (pss_one (ps_ret (pe_tup (pa_cons pe_str (pa_cons (pv 1) pa_nil)))))
      pss_nil)
    (Evl.pss_cut (ps_if (pt_cmpR op_eq (pv 3) pe_int (nomark _))
      (pss_one (ps_ret (pe_tup (pa_cons pe_str (pa_cons (pv 1) (pa_cons (pv 1) (pa_cons (pv 1) pa_nil)))))))
      pss_nil)
    (pss_one (ps_ret (pe_cl (c__law_pick T) hr (by omega) rfl (pa_cons (pv 0) (pa_cons (pv 2) pa_nil))))))))))), ?_⟩
  have l1 : 1 ≤ sizeLine := by decide
  refine ⟨Nat.zero_le _, fun p1 h1 => ⟨Nat.zero_le _, fun p2 h2 => ⟨l1, fun p3 h3 => ⟨l1, fun p4 h4 => ⟨l1, fun p5 h5 => ⟨l1, fun p6 h6 => ⟨l1, fun p7 h7 => fun p8 h8 => ⟨by show 17 ≤ sizeLine; decide, fun p9 h9 => ?_⟩⟩⟩⟩⟩⟩⟩⟩
  have a1 := same_new h1 (.tup [])
  have a2 := same_new h2 (.lst [])
  have a3 := same_new h3 (.lst [.str "a"])
  have a4 := same_new h4 (.tup [.str ""])
  have a5 := same_new h5 (.tup [.str "abcdefghi"])
  have a6 := same_new h6 (.tup [.str "?x"])
  have a7 := same_new h7 (.tup [.int 1])
  have a8 := same_new h8 (.dK [])
  have a9 := same_new h9 (.lst [.non, .int 0, .bl true, .str "", .str "?", .str "?A", .str "?abcde", .str "a", .str "A", .ref p1, .ref p2, .ref p3, .ref p4, .ref p5, .ref p6, .ref p7, .ref p8])
  have t8 := a8.trans a9
  have t7 := a7.trans t8
  have t6 := a6.trans t7
  have t5 := a5.trans t6
  have t4 := a4.trans t5
  have t3 := a3.trans t4
  have t2 := a2.trans t3
  have all := a1.trans t2
  have rl := RepL.cons .non (.cons (.int 0) (.cons (.bl true) (.cons (rstr "") (.cons (rstr "?") (.cons (rstr "?A") (.cons (rstr "?abcde") (.cons (rstr "a") (.cons (rstr "A") (.cons (.tup (t2 p1 _ upd_same) (by decide) .nil) (.cons (.ls (t3 p2 _ upd_same)) (.cons (.ls (t4 p3 _ upd_same)) (.cons (.tup (t5 p4 _ upd_same) (by decide) (.cons (rstr "") .nil)) (.cons (.tup (t6 p5 _ upd_same) (by decide) (.cons (rstr "abcdefghi") .nil))
    (.cons (.tup (t7 p6 _ upd_same) (by decide) (.cons (rstr "?x") .nil)) (.cons (.tup (t8 p7 _ upd_same) (by decide) (.cons (.int 1) .nil)) (.cons (.dc (a9 p8 _ upd_same)) .nil))))))))))))))))
  have u0 := DU.same hD all
  obtain ⟨n1, n2⟩ := ((DU.same hD (a1.trans (a2.trans (a3.trans (a4.trans (a5.trans (a6.trans (a7.trans a8)))))))).dr).new h9
  have hp9 : (upd (upd (upd (upd (upd (upd (upd (upd (upd H p1 (.tup [])) p2 (.lst [])) p3 (.lst [.str "a"])) p4 (.tup [.str ""])) p5 (.tup [.str "abcdefghi"])) p6 (.tup [.str "?x"])) p7 (.tup [.int 1])) p8 (.dK [])) p9 (.lst [.non, .int 0, .bl true, .str "", .str "?", .str "?A", .str "?abcde", .str "a", .str "A", .ref p1, .ref p2, .ref p3, .ref p4, .ref p5, .ref p6, .ref p7, .ref p8])) p9 = _ := upd_same
  refine ⟨_, rfl, d, c, 6, rfl, by decide, by decide, u0.dr, fun way H1 w0 w1 u1 => ?_⟩
  have u := u0.trans u1
  have wk := DU.wk hD u
  have rl1 := rl.wk (DU.wk u0.dr u1)
  have hp1 := u1.old _ _ n1 n2 hp9
  have r1 := r.wk wk
  clear rl hp9 a1 a2 a3 a4 a5 a6 a7 a8 a9 t8 t7 t6 t5 t4 t3 t2 all u0 u1 h1 h2 h3 h4 h5 h6 h7 h8 h9
  refine ⟨fun σ' H' => σ' = [some (.ref d), some v, some (.ref p9), some (.int way)] ∧ H' = H1, ?_, fun σ2 H2 e2 => ?_⟩
  · refine ⟨_, rfl, rfl, _, rfl, ite2 (fun c1 => ?_) (fun c1 => iteF ⟨rfl, rfl⟩)⟩
    refine ⟨_, rfl, _, _, _, _, _, rfl, .ty _, r1.tyx, ktup t, _, rfl, ?_⟩
    cases r1 with
    | @tup a xs l ha hn hl => exact iteT ⟨_, rfl, a, xs, rfl, .inr (SqT.of ha), fun p hp => q _ .ls _ (.ls upd_same) (Nat.zero_le _) (u.then (same_new hp _))⟩
    | _ => exact iteF ⟨rfl, rfl⟩
  obtain ⟨rfl, rfl⟩ := e2
  refine ⟨fun σ' H' => σ' = [some (.ref d), some v, some (.ref p9), some (.int way)] ∧ H' = H2, ?_, fun σ3 H3 e3 => ?_⟩
  · refine ⟨_, rfl, rfl, _, rfl, ite2 (fun c1 => ?_) (fun c1 => iteF ⟨rfl, rfl⟩)⟩
    refine ⟨_, rfl, _, _, _, _, _, rfl, .ty _, r1.tyx, ktup t, _, rfl, ?_⟩
    cases r1 with
    | @tup a xs l ha hn hl =>
      obtain ⟨z, ps, el, h4, h8, hall⟩ := shape_tup hs
      have hlen := hl.length
      rw [el, List.length_cons] at hlen
      refine iteT ⟨_, rfl, by show 1 ≤ sizeLine; decide, fun q1 g1 => ⟨by show 1 ≤ sizeLine; decide, fun q2 g2 => ?_⟩⟩
      have s1 := same_new g1 (.tup [.str "b"])
      have s2 := same_new g2 (.tup [.ref q1])
      have ha2 := (s1.trans s2) _ _ ha
      have hq1 := s2 q1 _ upd_same
      refine ⟨_, rfl, _, _, rfl, .inr ⟨xs, SqT.of ha2, rfl⟩, _, _, rfl, rfl, ?_⟩
      -- what is put behind
      have fin : ∀ (k : Nat) (p3 : Addr) (H4 : Hp), k ≤ 5 → Same (upd (upd H2 q1 (.tup [.str "b"])) q2 (.tup [.ref q1])) H4 → H4 p3 = some (.tup (List.replicate k [V.ref q1]).flatten) → rCatA K (.ref a) (.ref p3) H4 Q := fun k p3 H4 hk s4 e4 => by
        refine catA (s4 _ _ ha2) e4 (fun e => by rw [e] at hlen; cases hlen) (by rw [len_repl]; omega) fun p5 H5 s5 e5 => ?_
        have sA := s4.trans s5
        refine q _ (.tup (l ++ (List.replicate k [Th.tup [.str "b"]]).flatten)) H5 (.tup e5 ?_ ((hl.wk (Wk.same ((s1.trans s2).trans sA))).append (RepL.rep (.cons (.tup (sA _ _ hq1) (by decide) (.cons (rstr "b") .nil)) .nil) k))) ?_ (u.then ((s1.trans s2).trans sA))
        · rw [List.length_append, len_repl]
          omega
        · refine Nat.le_trans (hgt_tup (m := (Th.tup l).hgt + 1) fun p hp => ?_) (Nat.le_refl _)
          rcases List.mem_append.mp hp with h | h
          · have := hgt_le_part h
            omega
          · rw [mem_repl h]
            exact Nat.le_add_left 1 _
      by_cases hk : ps.length = 3
      · refine .inr ⟨q2, _, rfl, ?_, SqT.of upd_same, fin 1 q2 _ (by decide) (Same.refl _) upd_same⟩
        rw [hlen, hk]
        rfl
      · refine .inl ⟨q2, _, _, rfl, rfl, SqT.of upd_same, (fun e => by cases e), ?_, ?_, (Nat.le_of_ble_eq_true rfl), fun p3 g3 => ?_⟩
        · rw [hlen]
          omega
        · rw [hlen]
          omega
        · exact fin _ p3 _ (by rw [hlen]; omega) (same_new g3 _) upd_same
    | _ => exact iteF ⟨rfl, rfl⟩
  obtain ⟨rfl, rfl⟩ := e3
  refine ⟨fun σ' H' => σ' = [some (.ref d), some v, some (.ref p9), some (.int way)] ∧ H' = H3, ?_, fun σ4 H4 e4 => ?_⟩
  · refine ⟨_, rfl, rfl, _, rfl, ite2 (fun c1 => ?_) (fun c1 => ⟨rfl, rfl⟩)⟩
    refine ⟨_, rfl, by show 2 ≤ sizeLine; decide, fun p hp => q _ (.tup [.str "g", t]) _ (.tup upd_same (Nat.le_of_ble_eq_true rfl) (.cons (rstr "g") (.cons (r1.wk (Wk.same (same_new hp _))) .nil))) ?_ (u.then (same_new hp _))⟩
    exact Nat.le_trans (hgt_tup (m := t.hgt) fun p hp => by
      rcases List.mem_cons.mp hp with rfl | hp
      · exact Nat.zero_le _
      · rw [List.mem_singleton.mp hp]
        exact Nat.le_refl _) (by omega)
  obtain ⟨rfl, rfl⟩ := e4
  refine ⟨fun σ' H' => σ' = [some (.ref d), some v, some (.ref p9), some (.int way)] ∧ H' = H4, ?_, fun σ5 H5 e5 => ?_⟩
  · refine ⟨_, rfl, rfl, _, rfl, ite2 (fun c1 => ?_) (fun c1 => ⟨rfl, rfl⟩)⟩
    refine ⟨_, rfl, _, rfl, _, rfl, by show 4 ≤ sizeLine; decide, fun p hp => ?_⟩
    have r2 := r1.wk (Wk.same (same_new hp (.tup [.str "f", v, v, v])))
    refine q _ (.tup [.str "f", t, t, t]) _ (.tup upd_same (Nat.le_of_ble_eq_true rfl) (.cons (rstr "f") (.cons r2 (.cons r2 (.cons r2 .nil))))) ?_ (u.then (same_new hp _))
    exact Nat.le_trans (hgt_tup (m := t.hgt) fun p hp => by
      simp only [List.mem_cons, List.not_mem_nil, or_false] at hp
      rcases hp with rfl | rfl | rfl | rfl
      · exact Nat.zero_le _
      · exact Nat.le_refl _
      · exact Nat.le_refl _
      · exact Nat.le_refl _) (by omega)
  obtain ⟨rfl, rfl⟩ := e5
  refine ⟨_, rfl, _, rfl, d, c, p9, _, rfl, u.dr, hp1, n1, n2, (Nat.le_of_ble_eq_true rfl), (Nat.le_of_ble_eq_true rfl), fun v' H6 hv' u6 => ?_⟩
  obtain ⟨t', ht', rt'⟩ := (rl1.wk (DU.wk u.dr u6)).mem hv'
  refine q v' t' H6 rt' ?_ (u.trans u6)
  have : ∀ x ∈ [Th.non, .int 0, .bl true, .str "", .str "?", .str "?A", .str "?abcde", .str "a", .str "A", .tup [], .ls, .ls, .tup [.str ""], .tup [.str "abcdefghi"], .tup [.str "?x"], .tup [.int 1], .dc], x.hgt ≤ 1 := by
    simp only [List.mem_cons, List.not_mem_nil, or_false, forall_eq_or_imp, forall_eq]
    refine ⟨?_, ?_, ?_, ?_, ?_, ?_, ?_, ?_, ?_, ?_, ?_, ?_, ?_, ?_, ?_, ?_, ?_⟩ <;> decide
  have := this t' ht'
  omega
theorem c__law_spoilt_n (T : Tx K mg) : ∀ n : Nat, Cl P w K mg base CX0 (n + 3) "_law_spoilt" ["_law_draw", "_law_one"] (sp_spoilt n)
  | 0 => Cl.no T.d__law_spoilt fun vs H Q E h => by
    obtain ⟨d, c, v, t, b, _, h1, _⟩ := h
    exact absurd h1 (Nat.not_lt_zero _)
  | n + 1 => by
    have ih := c__law_spoilt_n T n
    refine Cl.mk0 T.d__law_spoilt sc__law_spoilt (fun vs H Q E h => ?_) (fun f cdv A outer s H vs Q E hr h => ?_)
    · obtain ⟨d, c, v, t, b, rfl, _⟩ := h
      rfl
    obtain ⟨d, c, v, t, b, rfl, hg, hD, r, hs, q⟩ := h
    refine ⟨_, (Evl.pss_cut (ps_if (PW.pt (pw_and (pt_val (pe_callB (id := "isinstance") (r := rIsi K) call_isi (by rfl) T.z_isinstance (by decide +kernel) (pa_cons (pv 1) (pa_cons (pe_bltn (v := .ty "tuple") (u := .type "tuple") (by rfl) T.z_tuple (by decide +kernel) rfl) pa_nil)))) (pw_and1 (pt_cmpR op_gt (pe_cl (c__law_take T) hr (by omega) rfl (pa_cons (pv 0) (pa_cons pe_int pa_nil))) pe_int (nomark _)))))
      (pss_cons (ps_set (i := 2) sc__law_spoilt.nd rfl (Or.inl rfl) (pe_cl (c__law_take T) hr (by omega) rfl (pa_cons (pv 0) (pa_cons (pe_callB call_len (by rfl) T.z_len (by decide +kernel) (pa_cons (pv 1) pa_nil)) pa_nil))))
      (pss_cons (ps_if (pt_cmpR op_eq (pv 2) pe_int (nomark _))
        (pss_one (ps_ret (pe_op op_catA (pe_tup (pa_cons (pe_cl (c__law_pick T) hr (by omega) rfl (pa_cons (pv 0) (pa_cons (pe_lst (pa_cons pe_str (pa_cons pe_str (pa_cons pe_str (pa_cons pe_str (pa_cons pe_str (pa_cons pe_int (pa_cons pe_non (pa_cons (pe_tup (pa_cons pe_str pa_nil)) (pa_cons pe_str pa_nil)))))))))) pa_nil))) pa_nil)) (pe_slice sl_tupA (pv 1) (po_some pe_int) po_no))))
        pss_nil)
      (pss_one (ps_ret (pe_op op_catA (pe_op op_catA (pe_slice sl_tupA (pv 1) po_no (po_some (pv 2))) (pe_tup (pa_cons (pe_cl ih hr (by omega) rfl (pa_cons (pv 0) (pa_cons (pe_ix ix_tup (pv 1) (pv 2) (fun _ _ => rfl)) pa_nil))) pa_nil))) (pe_slice sl_tupA (pv 1) (po_some (pe_op op_add (pv 2) pe_int)) po_no))))))
      pss_nil)
    (pss_one (ps_ret (pe_cl (c__law_odd T) hr (by omega) rfl (pa_cons (pv 0) (pa_cons (pv 1) pa_nil)))))), ?_⟩
    refine ⟨fun σ' H' => σ' = [some (.ref d), some v, none] ∧ DU d c H H', ?_, fun σ1 H1 e1 => ?_⟩
    · refine ⟨_, rfl, _, _, _, _, _, rfl, .ty _, r.tyx, ktup t, _, rfl, ?_⟩
      cases r with
      | @tup a xs l ha hn hl =>
        obtain ⟨z, ps, el, h4, h8, hall⟩ := shape_tup hs
        have hlen := hl.length
        have hlen2 : xs.length = ps.length + 1 := by rw [hlen, el, List.length_cons]
        refine iteT ⟨_, rfl, d, c, 4, rfl, by decide, by decide, hD, fun k H1 k0 k1 u1 => ⟨_, _, rfl, rfl, _, rfl, ite2 (fun c1 => ?_) (fun c1 => ⟨rfl, u1⟩)⟩⟩
        have ha1 := (DU.wk hD u1).tup _ _ ha
        refine ⟨_, rfl, _, rfl, _, _, rfl, .inr ⟨xs, SqT.of ha1, rfl⟩, d, c, _, rfl, by omega, by omega, u1.dr, fun at' H2 at0 at1 u2 => ?_⟩
        have u12 := u1.trans u2
        have ha2 := (DU.wk hD u12).tup _ _ ha
        refine ⟨_, rfl, rfl, _, rfl, ite2 (fun c2 => ?_) (fun c2 => ?_)⟩
        · refine ⟨_, rfl, by show 1 ≤ sizeLine; decide, fun p1 h1 => ⟨Nat.le_of_ble_eq_true rfl, fun p2 h2 => ?_⟩⟩
          have a1 := same_new h1 (.tup [.str "a"])
          have a2 := same_new h2 (.lst [.str "", .str "A", .str "?x", .str "abcdefghi", .str "a b", .int 3, .non, .ref p1, .str "ab"])
          have u3 := DU.same u2.dr (a1.trans a2)
          obtain ⟨n1, n2⟩ := (u2.dr.same a1).new h2
          have rl := RepL.cons (rstr "") (.cons (rstr "A") (.cons (rstr "?x") (.cons (rstr "abcdefghi") (.cons (rstr "a b") (.cons (.int 3) (.cons .non (.cons (.tup (a2 p1 _ upd_same) (by decide) (.cons (rstr "a") .nil)) (.cons (rstr "ab") .nil))))))))
          refine ⟨d, c, p2, _, rfl, u3.dr, upd_same, n1, n2, Nat.le_of_ble_eq_true rfl, Nat.le_of_ble_eq_true rfl, fun v' H3 hv' u4 => ⟨by show 1 ≤ sizeLine; decide, fun p3 h3 => ?_⟩⟩
          obtain ⟨t', ht', rt'⟩ := (rl.wk (DU.wk u3.dr u4)).mem hv'
          have hg' : t'.hgt ≤ 1 := by
            have : ∀ x ∈ [Th.str "", .str "A", .str "?x", .str "abcdefghi", .str "a b", .int 3, .non, .tup [.str "a"], .str "ab"], x.hgt ≤ 1 := by
              simp only [List.mem_cons, List.not_mem_nil, or_false, forall_eq_or_imp, forall_eq]
              refine ⟨?_, ?_, ?_, ?_, ?_, ?_, ?_, ?_, ?_⟩ <;> decide
            exact this t' ht'
          have u5 := (u12.trans u3).trans u4
          have a3 := same_new h3 (.tup [v'])
          have ha3 := a3 _ _ ((DU.wk hD u5).tup _ _ ha)
          refine ⟨_, rfl, 1, rfl, sl_lo (K := K) 1 ha3 (by omega) (by omega) fun p4 h4 => ?_⟩
          have a4 := same_new h4 (.tup (xs.drop 1))
          refine catA (a4 p3 _ upd_same) upd_same (fun e => by cases e) (by rw [List.length_drop, List.length_singleton]; omega) fun p5 H5 s5 e5 => ?_
          have u6 := u5.then ((a3.trans a4).trans s5)
          refine q _ (.tup ([t'] ++ l.drop 1)) H5 (.tup e5 ?_ ((RepL.one (rt'.wk (Wk.same ((a3.trans a4).trans s5)))).append ((hl.wk (DU.wk hD u6)).drop 1))) ?_ u6
          · rw [List.length_append, List.length_drop, List.length_singleton]
            omega
          · refine Nat.le_trans (hgt_tup (m := (Th.tup l).hgt) fun p hp => ?_) (by omega)
            rcases List.mem_append.mp hp with h | h
            · rw [List.mem_singleton.mp h]
              have : (Th.tup l).hgt = 1 + hgtL l := rfl
              omega
            · have := hgt_le_part (List.mem_of_mem_drop h)
              omega
        · obtain ⟨k', rfl⟩ : ∃ k' : Nat, at' = (k' : Int) := ⟨at'.toNat, by omega⟩
          have hk0 : k' ≠ 0 := fun e => by
            subst e
            exact c2 (decide_eq_true rfl)
          have hk1 : k' < xs.length := by omega
          refine ⟨_, rfl, _, rfl, _, rfl, ?_⟩
          refine sl_hi (K := K) k' ha2 hk1 fun p1 h1 => ?_
          have a1 := same_new h1 (.tup (xs.take k'))
          have u3 := u12.then a1
          have ha3 := a1 _ _ ha2
          have hget : xs[k']? = some xs[k'] := List.getElem?_eq_getElem hk1
          obtain ⟨t1, ht1, rt1⟩ := (hl.wk (DU.wk hD u3)).get' hget
          have mt1 := List.mem_of_getElem? ht1
          have mt2 : t1 ∈ ps := by
            rw [el, show k' = (k' - 1) + 1 by omega, List.getElem?_cons_succ] at ht1
            exact List.mem_of_getElem? ht1
          refine ⟨_, rfl, _, rfl, _, rfl, _, _, _, _, rfl, rfl, SqT.of ha3, atI_nat hget, d, c, _, t1, b, rfl, hgt_part hg t1 mt1, u3.dr, rt1, hall t1 mt2, fun v' t' H4 rt' hg' u4 => ⟨by show 1 ≤ sizeLine; decide, fun p2 h2 => ?_⟩⟩
          have a2 := same_new h2 (.tup [v'])
          have u5 := (u3.trans u4).then a2
          have hp1 := a2 _ _ ((DU.wk u3.dr u4).tup _ _ (show (upd H2 p1 (.tup (xs.take k'))) p1 = _ from upd_same))
          refine catA hp1 upd_same (fun e => ?_) (by rw [List.length_take, List.length_singleton]; omega) fun p3 H5 s5 e5 => ?_
          · have := congrArg List.length e
            rw [List.length_take, List.length_nil] at this
            omega
          have u6 := u5.then s5
          have ha6 := (DU.wk hD u6).tup _ _ ha
          refine ⟨_, rfl, _, rfl, _, _, rfl, rfl, ((k' + 1 : Nat) : Int), rfl, ?_⟩
          refine sl_lo (K := K) (k' + 1) ha6 (by omega) (by omega) fun p4 h4 => ?_
          have a4 := same_new h4 (.tup (xs.drop (k' + 1)))
          refine catA (a4 _ _ e5) upd_same (fun e => ?_) (by rw [List.length_append, List.length_take, List.length_drop, List.length_singleton]; omega) fun p7 H7 s7 e7 => ?_
          · have := congrArg List.length e
            rw [List.length_append, List.length_singleton, List.length_nil] at this
            omega
          have u7 := u6.then (a4.trans s7)
          have hl7 := hl.wk (DU.wk hD u7)
          have rt7 := rt'.wk (Wk.same ((a2.trans s5).trans (a4.trans s7)))
          refine q _ (.tup ((l.take k' ++ [t']) ++ l.drop (k' + 1))) H7 (.tup e7 ?_ (((hl7.take k').append (RepL.one rt7)).append (hl7.drop (k' + 1)))) ?_ u7
          · rw [List.length_append, List.length_append, List.length_take, List.length_drop, List.length_singleton]
            omega
          · have gt1 := hgt_le_part mt1
            refine Nat.le_trans (hgt_tup (m := (Th.tup l).hgt + 1) fun p hp => ?_) (Nat.le_refl _)
            rcases List.mem_append.mp hp with h | h
            · rcases List.mem_append.mp h with h | h
              · have := hgt_le_part (List.mem_of_mem_take h)
                omega
              · rw [List.mem_singleton.mp h]
                omega
            · have := hgt_le_part (List.mem_of_mem_drop h)
              omega
      | _ => exact iteF ⟨rfl, DU.refl hD⟩
    obtain ⟨rfl, u1⟩ := e1
    exact ⟨_, rfl, _, rfl, d, c, v, t, b, rfl, u1.dr, r.wk (DU.wk hD u1), hs, fun v' t' H' rt' hg' u' => q v' t' H' rt' hg' (u1.trans u')⟩
theorem c__law_spoilt (T : Tx K mg) : Cl P w K mg base CX0 15 "_law_spoilt" ["_law_draw", "_law_one"] (sp_spoilt 12) := c__law_spoilt_n T 12
end
end Kt
namespace Kt
open PySem PySem.Spec PyProof.Rows L2
theorem eqvL (l r : List Bool) : PyData.eqv (.list (l.map PyData.bool)) (.list (r.map PyData.bool)) = decide (l = r) := by
  rw [PyData.eqv]
  exact eqvBls l r
def tA : Th := .tup [.str "a"]
def deepN : Nat → Th
  | 0 => tA
  | k + 1 => .tup [.str "g", deepN k]
def tW0 : Th := .tup [.str "f", tA, tA, tA]
def tW1 : Th := .tup [.str "f", tW0, tW0, .tup [.str "f", tW0, tW0, .tup [.str "f", tA, tA]]]
def tS3 : Th := .tup ([.str "f", tW0, tW0] ++ [.tup [.str "f", tW0, tW0, tW0]])
theorem deep_ok : within false (deepN 4) = true := by decide +kernel
theorem deep_no : within false (.tup [.str "g", deepN 4]) = false := by decide +kernel
def sp_law (K : PySem.W.Frag) : Sp := fun vs H Q _ => ∃ (a : Addr) (ns : List Int), vs = [.ref a] ∧ SqL K H a (ns.map V.int) ∧ ns.length ≤ 63 ∧ ∀ H', Q (.bl true) H'
section
variable {P : Program} {w : World} {K : PySem.W.Frag} {mg : Str → Option Value} {base : Heap}
theorem ck_is_term (T : Tx K mg) : ClK P w K mg base CX0 9 "is_term" ["thing"] sp_is_term := (c_is_term T).kw T.d_is_term fun _ _ _ _ _ _ us hl => match us, hl with | [_], _ => rfl
theorem ck_is_pattern (T : Tx K mg) : ClK P w K mg base CX0 9 "is_pattern" ["thing"] sp_is_pattern := (c_is_pattern T).kw T.d_is_pattern fun _ _ _ _ _ _ us hl => match us, hl with | [_], _ => rfl
theorem c_law (T : Tx K mg) : Cl P w K mg base CX0 16 "law" ["_law_script"] (sp_law K) := by
  refine Cl.mk0 T.d_law sc_law (fun vs H Q E h => ?_) (fun f cdv A outer s H vs Q E hr h => ?_)
  · obtain ⟨a, ns, rfl, _⟩ := h
    rfl
  obtain ⟨a, ns, rfl, hS, hl, q⟩ := h
  refine ⟨_, (pss_cons (ps_set (i := 1) sc_law.nd rfl (Or.inl rfl) (pe_cl (c__law_begin T) hr (by omega) rfl (pa_cons (pv 0) pa_nil)))
    (Evl.pss_cut (ps_for PassesOwn.never rfl (pi_range1 (by rfl) T.z_range (pa_cons pe_int pa_nil)) (pg_name (i := 2) sc_law.nd rfl (Or.inl rfl))
      (pss_cons (ps_par (i := 3) (j := 4) (by rfl) sc_law.nd rfl rfl (by decide) rfl rfl (pa_cons (pe_cl (c__law_take T) hr (by omega) rfl (pa_cons (pv 1) (pa_cons pe_int pa_nil))) (pa_cons (pe_cmpR op_eq (pe_cl (c__law_take T) hr (by omega) rfl (pa_cons (pv 1) (pa_cons pe_int pa_nil))) pe_int (nomark _)) pa_nil)) (by rfl))
      (pss_cons (ps_set (i := 5) sc_law.nd rfl (Or.inl rfl) (pe_cl (c__law_pattern T) hr (by omega) rfl (pa_cons (pv 1) (pa_cons (pe_op op_add pe_int (pe_cl (c__law_take T) hr (by omega) rfl (pa_cons (pv 1) (pa_cons pe_int pa_nil)))) (pa_cons (pv 4) pa_nil)))))
      (Evl.pss_cut (ps_if (pt_cmpR op_gt (pv 3) pe_int (nomark _))
        (pss_one (ps_set (i := 5) sc_law.nd rfl (Or.inl rfl) (pe_cl (c__law_spoilt T) hr (by omega) rfl (pa_cons (pv 1) (pa_cons (pv 5) pa_nil)))))
        pss_nil)
      (pss_cons (ps_set (i := 6) sc_law.nd rfl (Or.inl rfl) (pe_op op_rep (pe_lst (pa_cons (pe_cl (c__law_due T) hr (by omega) rfl (pa_cons (pv 5) (pa_cons pe_bl pa_nil))) (pa_cons (pe_cl (c__law_due T) hr (by omega) rfl (pa_cons (pv 5) (pa_cons pe_bl pa_nil))) pa_nil))) pe_int))
      (pss_cons (ps_set (i := 7) sc_law.nd rfl (Or.inl rfl) (pe_lst (pa_cons (pe_cl (c_is_term T) hr (by omega) rfl (pa_cons (pv 5) pa_nil)) (pa_cons (pe_cl (c_is_pattern T) hr (by omega) rfl (pa_cons (pv 5) pa_nil)) (pa_cons (pe_clK (ck_is_term T) hr (by omega) rfl (pk_cons (pv 5) pk_nil)) (pa_cons (pe_clK (ck_is_pattern T) hr (by omega) rfl (pk_cons (pv 5) pk_nil)) pa_nil))))))
      (pss_one (ps_if (PW.pt (pw_or (pt_cmpR (op_neD hr.units) (pe_lc (own := [("_law_told", 12)]) (g := gName 12) (tt := tYes) rfl sc_law.nd (pi_list (pv 7)) (blkOk_by (own := [("_law_told", 12)]) (N := ["_law_script", "_law_draw", "_law_turn", "_law_spoil", "_law_holed", "_law_one", "_law_due_here", "_law_found", "_law_deepest", "_law_widest", "_law_k", "_law_some", "_law_told"]) (sc := defScope s_law) (by decide +kernel)) (fun _ _ _ _ _ => (pg_name (i := 12) sc_law.nd rfl (Or.inl rfl))) (fun _ _ _ _ _ => pts_nil) (fun _ _ _ _ _ => (pe_callB (id := "isinstance") (r := rIsi K) call_isi (by rfl) T.z_isinstance (by decide +kernel) (pa_cons (pv 12) (pa_cons (pe_bltn (v := .ty "bool") (u := .type "bool") (by rfl) T.z_bool (by decide +kernel) rfl) pa_nil))))) (pe_op op_rep (pe_lst (pa_cons pe_bl pa_nil)) pe_int) (nomark _)) (pw_or1 (pt_cmpR (op_neD hr.units) (pv 7) (pv 6) (nomark _)))))
        (pss_one (ps_ret pe_bl))
        pss_nil))))))))
    (pss_cons (ps_asg (pe_tup (pa_cons (pe_tup (pa_cons pe_str pa_nil)) (pa_cons (pe_tup (pa_cons pe_str (pa_cons (pe_tup (pa_cons pe_str pa_nil)) (pa_cons (pe_tup (pa_cons pe_str pa_nil)) (pa_cons (pe_tup (pa_cons pe_str pa_nil)) pa_nil))))) pa_nil))) (pg_tup rfl (pgs_cons (pg_name (i := 8) sc_law.nd rfl (Or.inl rfl)) (pgs_cons (pg_name (i := 9) sc_law.nd rfl (Or.inl rfl)) pgs_nil))))
    (Evl.pss_cut (ps_for PassesOwn.never rfl (pi_range1 (by rfl) T.z_range (pa_cons pe_int pa_nil)) (pg_name (i := 10) sc_law.nd rfl (Or.inl rfl))
      (pss_one (ps_set (i := 8) sc_law.nd rfl (Or.inl rfl) (pe_tup (pa_cons pe_str (pa_cons (pv 8) pa_nil))))))
    (pss_cons (ps_set (i := 9) sc_law.nd rfl (Or.inl rfl) (pe_tup (pa_cons pe_str (pa_cons (pv 9) (pa_cons (pv 9) (pa_cons (pe_tup (pa_cons pe_str (pa_cons (pv 9) (pa_cons (pv 9) (pa_cons (pe_tup (pa_cons pe_str (pa_cons (pe_tup (pa_cons pe_str pa_nil)) (pa_cons (pe_tup (pa_cons pe_str pa_nil)) pa_nil)))) pa_nil))))) pa_nil))))))
    (Evl.pss_cut (ps_set (i := 11) sc_law.nd rfl (Or.inl rfl) (pe_lst (pa_cons (pv 8) (pa_cons (pe_tup (pa_cons pe_str (pa_cons (pv 8) pa_nil))) (pa_cons (pv 9) (pa_cons (pe_op op_catA (pe_slice sl_tupA (pv 9) po_no (po_some pe_int)) (pe_tup (pa_cons (pe_tup (pa_cons pe_str (pa_cons (pe_ix ix_tup (pv 9) pe_int (fun _ _ => rfl)) (pa_cons (pe_ix ix_tup (pv 9) pe_int (fun _ _ => rfl)) (pa_cons (pe_ix ix_tup (pv 9) pe_int (fun _ _ => rfl)) pa_nil))))) pa_nil))) pa_nil))))))
    (pss_one (ps_ret (pe_cmpR (op_eqD hr.units) (pe_lc (own := [("_law_one", 5)]) (g := gName 5) (tt := tYes) rfl sc_law.nd (pi_list (pv 11)) (blkOk_by (own := [("_law_one", 5)]) (N := ["_law_script", "_law_draw", "_law_turn", "_law_spoil", "_law_holed", "_law_one", "_law_due_here", "_law_found", "_law_deepest", "_law_widest", "_law_k", "_law_some", "_law_told"]) (sc := defScope s_law) (by decide +kernel)) (fun _ _ _ _ _ => (pg_name (i := 5) sc_law.nd rfl (Or.inl rfl))) (fun _ _ _ _ _ => pts_nil) (fun _ _ _ _ _ => (pe_cl (c_is_term T) hr (by omega) rfl (pa_cons (pv 5) pa_nil)))) (pe_lst (pa_cons pe_bl (pa_cons pe_bl (pa_cons (pe_cl (c__law_due T) hr (by omega) rfl (pa_cons (pv 9) (pa_cons pe_bl pa_nil))) (pa_cons (pe_cl (c__law_due T) hr (by omega) rfl (pa_cons (pe_ix ix_list (pv 11) pe_int (fun _ _ => rfl)) (pa_cons pe_bl pa_nil))) pa_nil))))) (nomark _)))))))))), ?_⟩
  have l1 : 1 ≤ sizeLine := by decide
  have l2 : 2 ≤ sizeLine := by decide
  have l3 : 3 ≤ sizeLine := by decide
  have l4 : 4 ≤ sizeLine := by decide
  refine ⟨_, rfl, a, ns, rfl, hS, hl, fun d c H1 s1 hD1 => ?_⟩
  refine ⟨fun σ' H' => ∃ y2 y3 y4 y5 y6 y7, σ' = [some (.ref a), some (.ref d), y2, y3, y4, y5, y6, y7, none, none, none, none, none], ?_, fun σ1 H2 e1 => ?_⟩
  · refine ⟨6, rfl, by decide, by decide, ?_⟩
    refine for_range (lo := 0) (n := 6) (fun i σ' H' => ∃ y2 y3 y4 y5 y6 y7, σ' = [some (.ref a), some (.ref d), y2, y3, y4, y5, y6, y7, none, none, none, none, none] ∧ DU d c H1 H') ⟨_, _, _, _, _, _, rfl, DU.refl hD1⟩ (fun i σ H2 hi h' => ?_) (fun σ H2 h' => ?_)
    · obtain ⟨y2, y3, y4, y5, y6, y7, rfl, u1⟩ := h'
      refine ⟨_, rfl, d, c, 3, rfl, by decide, by decide, u1.dr, fun sp H3 p0 p1 u2 => ⟨_, rfl, d, c, 2, rfl, by decide, by decide, u2.dr, fun ho H4 o0 o1 u3 => ⟨rfl, _, _, rfl, ?_⟩⟩⟩
      refine ⟨_, rfl, _, rfl, d, c, 5, rfl, by decide, by decide, u3.dr, fun lf H5 lf0 lf1 u4 => ⟨_, _, rfl, rfl, _, rfl, ?_⟩⟩
      obtain ⟨k, rfl⟩ : ∃ k : Nat, lf = (k : Int) := ⟨lf.toNat, by omega⟩
      have u14 := ((u1.trans u2).trans u3).trans u4
      refine ⟨d, c, 1 + k, decide (V.int ho = V.int 0), rfl, by omega, by omega, u14.dr, fun v t H6 rv sh hg u5 => ?_⟩
      have u15 := u14.trans u5
      refine ⟨fun σ' H' => ∃ v t y2 y3 y4, σ' = [some (.ref a), some (.ref d), y2, y3, y4, some v, y6, y7, none, none, none, none, none] ∧ Rep H' v t ∧ t.hgt ≤ 7 ∧ DU d c H1 H', ?_, fun σ2 H7 e2 => ?_⟩
      · refine ⟨_, rfl, _, _, rfl, rfl, _, rfl, ite2 (fun c1 => ?_) (fun c1 => ?_)⟩
        · exact ⟨_, rfl, _, rfl, d, c, v, t, _, rfl, by omega, u15.dr, rv, sh, fun v' t' H7 r' hg' u6 => ⟨v', t', _, _, _, rfl, r', by omega, u15.trans u6⟩⟩
        · exact ⟨v, t, _, _, _, rfl, rv, by omega, u15⟩
      obtain ⟨v, t, y2, y3, y4, rfl, rv, hg, u⟩ := e2
      refine ⟨_, rfl, v, t, false, rfl, by omega, rv, fun H8 s8 => ⟨_, rfl, v, t, true, rfl, by omega, rv.wk (Wk.same s8), fun H9 s9 => ⟨l2, fun p hp => ⟨p, 2, _, rfl, rfl, upd_same, by decide, by decide, by show 2 * 2 ≤ sizeLine; decide, fun p2 hp2 => ?_⟩⟩⟩⟩
      have s10 := (s8.trans s9).trans ((same_new hp (.lst [.bl (due false t), .bl (due true t)])).trans (same_new hp2 (.lst [.bl (due false t), .bl (due true t), .bl (due false t), .bl (due true t)])))
      have r10 := rv.wk (Wk.same s10)
      refine ⟨_, rfl, v, t, rfl, r10, fun H11 s11 => ⟨_, rfl, v, t, rfl, r10.wk (Wk.same s11), fun H12 s12 => ⟨_, rfl, v, t, rfl, r10.wk (Wk.same (s11.trans s12)), fun H13 s13 => ⟨_, rfl, v, t, rfl, r10.wk (Wk.same ((s11.trans s12).trans s13)), fun H14 s14 => ⟨l4, fun p3 hp3 => ?_⟩⟩⟩⟩⟩
      have s15 := ((s11.trans s12).trans (s13.trans s14)).trans (same_new hp3 (.lst [.bl (within false t), .bl (within true t), .bl (within false t), .bl (within true t)]))
      have e2 := s15 p2 _ upd_same
      refine ⟨_, rfl, p3, rfl, ⟨_, SqL.of upd_same⟩, fun D hD => ?_⟩
      refine lc_pure walk_list (fun _ => .bl true) hD (Nat.le_of_ble_eq_true rfl) (fun H' s' => SqL.of (s' _ _ upd_same)) (fun _ => rfl) (fun j x Hx Hy hj sx y => ?_) (fun H16 s16 e16 => ?_)
      · obtain ⟨rfl, hx⟩ := y
        have hb : ∃ b : Bool, x = .bl b := by
          have := List.mem_of_getElem? hx
          simp only [List.mem_cons, List.not_mem_nil, or_false] at this
          rcases this with rfl | rfl | rfl | rfl <;> exact ⟨_, rfl⟩
        obtain ⟨b, rfl⟩ := hb
        exact ⟨Same.refl _, fun Q' q' => ⟨_, rfl, _, _, _, _, _, rfl, .ty _, (Rep.bl (H := Hy) b).tyx, kbl _, q' _ (Same.refl _)⟩⟩
      · refine ⟨l1, fun p4 hp4 => ⟨p4, 4, _, rfl, rfl, upd_same, by decide, by decide, by show 1 * 4 ≤ sizeLine; decide, fun p5 hp5 => ?_⟩⟩
        have s17 := (same_new hp4 (.lst [.bl true])).trans (same_new hp5 (.lst [.bl true, .bl true, .bl true, .bl true]))
        refine ⟨_, _, .lst (SqL.of (s17 _ _ e16)) (dpBls [true, true, true, true]), .lst (SqL.of upd_same) (dpBls [true, true, true, true]), shapedBls _, shapedBls _, _, rfl, ite2 (fun c1 => ?_) (fun c1 => ?_)⟩
        · rw [eqvL] at c1
          exact absurd c1 (by decide)
        · have s18 := s16.trans s17
          refine ⟨_, rfl, _, rfl, _, _, .lst (SqL.of (s18 p3 _ upd_same)) (dpBls [within false t, within true t, within false t, within true t]), .lst (SqL.of (s18 _ _ e2)) (dpBls [due false t, due true t, due false t, due true t]), shapedBls _, shapedBls _, _, rfl, ite2 (fun c2 => ?_) (fun c2 => ?_)⟩
          · rw [eqvL, within_due, within_due, decide_eq_true rfl] at c2
            cases c2
          · exact ⟨_, _, _, _, _, _, rfl, u.then (s10.trans (s15.trans s18))⟩
    · obtain ⟨y2, y3, y4, y5, y6, y7, rfl, _⟩ := h'
      exact ⟨_, _, _, _, _, _, rfl⟩
  obtain ⟨y2, y3, y4, y5, y6, y7, rfl⟩ := e1
  refine ⟨l1, fun p1 h1 => ⟨l1, fun p2 h2 => ⟨l1, fun p3 h3 => ⟨l1, fun p4 h4 => ⟨l4, fun p5 h5 => ⟨l2, fun p6 h6 => ⟨p6, _, rfl, SqT.of upd_same, rfl, _, _, rfl, _, _, rfl, rfl, ?_⟩⟩⟩⟩⟩⟩⟩
  have a2 := same_new h2 (.tup [.str "a"])
  have a3 := same_new h3 (.tup [.str "a"])
  have a4 := same_new h4 (.tup [.str "a"])
  have a5 := same_new h5 (.tup [.str "f", .ref p2, .ref p3, .ref p4])
  have a6 := same_new h6 (.tup [.ref p1, .ref p5])
  have rA : ∀ {H : Hp} {p : Addr}, H p = some (.tup [.str "a"]) → Rep H (.ref p) tA := fun h => .tup h (Nat.le_of_ble_eq_true rfl) (.cons (rstr "a") .nil)
  have rd0 := rA ((a2.trans (a3.trans (a4.trans (a5.trans a6)))) p1 _ upd_same)
  have rw0 : Rep _ (.ref p5) tW0 := .tup (a6 p5 _ upd_same) (Nat.le_of_ble_eq_true rfl) (.cons (rstr "f") (.cons (rA ((a3.trans (a4.trans (a5.trans a6))) p2 _ upd_same)) (.cons (rA ((a4.trans (a5.trans a6)) p3 _ upd_same)) (.cons (rA ((a5.trans a6) p4 _ upd_same)) .nil))))
  clear a2 a3 a4 a5 a6
  refine ⟨fun σ' H' => ∃ v1 y10, σ' = [some (.ref a), some (.ref d), y2, y3, y4, y5, y6, y7, some v1, some (.ref p5), y10, none, none] ∧ Rep H' v1 (deepN 4) ∧ Rep H' (.ref p5) tW0, ?_, fun σ1 H3 e1 => ?_⟩
  · refine ⟨4, rfl, by decide, by decide, ?_⟩
    refine for_range (lo := 0) (n := 4) (fun i σ' H' => ∃ v1 y10, σ' = [some (.ref a), some (.ref d), y2, y3, y4, y5, y6, y7, some v1, some (.ref p5), y10, none, none] ∧ Rep H' v1 (deepN i) ∧ Rep H' (.ref p5) tW0) ⟨_, _, rfl, rd0, rw0⟩ (fun i σ H3 hi h' => ?_) (fun σ H3 h' => h')
    obtain ⟨v1, y10, rfl, r1, r2⟩ := h'
    refine ⟨_, rfl, l2, fun p hp => ?_⟩
    have w1 := Wk.same (same_new hp (.tup [.str "g", v1]))
    exact ⟨_, _, rfl, .tup upd_same (Nat.le_of_ble_eq_true rfl) (.cons (rstr "g") (.cons (r1.wk w1) .nil)), r2.wk w1⟩
  obtain ⟨v1, y10, rfl, r1, r2⟩ := e1
  refine ⟨_, rfl, _, rfl, _, rfl, _, rfl, l1, fun q1 g1 => ⟨l1, fun q2 g2 => ⟨l3, fun q3 g3 => ⟨l4, fun q4 g4 => ⟨l4, fun q5 g5 => ?_⟩⟩⟩⟩⟩
  have b1 := same_new g1 (.tup [.str "a"])
  have b2 := same_new g2 (.tup [.str "a"])
  have b3 := same_new g3 (.tup [.str "f", .ref q1, .ref q2])
  have b4 := same_new g4 (.tup [.str "f", .ref p5, .ref p5, .ref q3])
  have b5 := same_new g5 (.tup [.str "f", .ref p5, .ref p5, .ref q4])
  have b15 := b1.trans (b2.trans (b3.trans (b4.trans b5)))
  have r1' := r1.wk (Wk.same b15)
  have r2' := r2.wk (Wk.same b15)
  have r3 : Rep _ (.ref q3) (.tup [.str "f", tA, tA]) := .tup ((b4.trans b5) q3 _ upd_same) (Nat.le_of_ble_eq_true rfl) (.cons (rstr "f") (.cons (rA ((b2.trans (b3.trans (b4.trans b5))) q1 _ upd_same)) (.cons (rA ((b3.trans (b4.trans b5)) q2 _ upd_same)) .nil)))
  have r4 : Rep _ (.ref q4) (.tup [.str "f", tW0, tW0, .tup [.str "f", tA, tA]]) := .tup (b5 q4 _ upd_same) (Nat.le_of_ble_eq_true rfl) (.cons (rstr "f") (.cons r2' (.cons r2' (.cons r3 .nil))))
  have r5 : Rep _ (.ref q5) tW1 := .tup upd_same (Nat.le_of_ble_eq_true rfl) (.cons (rstr "f") (.cons r2' (.cons r2' (.cons r4 .nil))))
  have e5 : (upd (upd (upd (upd (upd H3 q1 (.tup [.str "a"])) q2 (.tup [.str "a"])) q3 (.tup [.str "f", .ref q1, .ref q2])) q4 (.tup [.str "f", .ref p5, .ref p5, .ref q3])) q5 (.tup [.str "f", .ref p5, .ref p5, .ref q4])) q5 = some (.tup [.str "f", .ref p5, .ref p5, .ref q4]) := upd_same
  generalize (upd (upd (upd (upd (upd H3 q1 (.tup [.str "a"])) q2 (.tup [.str "a"])) q3 (.tup [.str "f", .ref q1, .ref q2])) q4 (.tup [.str "f", .ref p5, .ref p5, .ref q3])) q5 (.tup [.str "f", .ref p5, .ref p5, .ref q4])) = H4 at *
  clear b1 b2 b3 b4 b5 b15
  refine ⟨fun σ' H' => ∃ p xs, σ' = [some (.ref a), some (.ref d), y2, y3, y4, y5, y6, y7, some v1, some (.ref q5), y10, some (.ref p), none] ∧ H' p = some (.lst xs) ∧ RepL H' xs [deepN 4, .tup [.str "g", deepN 4], tW1, tS3] ∧ Rep H' (.ref q5) tW1, ?_, fun σ1 H5 e1 => ?_⟩
  · refine ⟨_, rfl, _, rfl, l2, fun p1 h1 => ⟨_, rfl, _, rfl, 3, rfl, ?_⟩⟩
    have c1 := same_new h1 (.tup [.str "g", v1])
    refine sl_hi (K := K) 3 (c1 _ _ e5) (by show 3 < 4; decide) fun p2 h2 => ?_
    have c2 := same_new h2 (.tup [.str "f", .ref p5, .ref p5])
    have e6 := (c1.trans c2) _ _ e5
    refine ⟨_, rfl, _, _, _, _, rfl, rfl, SqT.of e6, atI_nat (j := 1) rfl, _, rfl, _, _, _, _, rfl, rfl, SqT.of e6, atI_nat (j := 1) rfl, _, rfl, _, _, _, _, rfl, rfl, SqT.of e6, atI_nat (j := 1) rfl, l4, fun p3 h3 => ⟨l1, fun p4 h4 => ?_⟩⟩
    have c3 := same_new h3 (.tup [.str "f", .ref p5, .ref p5, .ref p5])
    have c4 := same_new h4 (.tup [.ref p3])
    refine catA ((c3.trans c4) p2 _ upd_same) upd_same (fun e => by cases e) (Nat.le_of_ble_eq_true rfl) fun p6 H6 s6 e6 => ⟨l4, fun p7 h7 => ?_⟩
    have c7 := same_new h7 (.lst [v1, .ref p1, .ref q5, .ref p6])
    have c37 := (c3.trans c4).trans (s6.trans c7)
    have w27 := Wk.same (c2.trans c37)
    have w17 := (Wk.same c1).trans w27
    have r2w := r2'.wk w17
    refine ⟨_, _, rfl, upd_same, .cons (r1'.wk w17) (.cons (.tup (w27.tup p1 _ upd_same) (Nat.le_of_ble_eq_true rfl) (.cons (rstr "g") (.cons (r1'.wk w17) .nil))) (.cons (r5.wk w17) (.cons ?_ .nil))), r5.wk w17⟩
    have e3 := (c4.trans (s6.trans c7)) p3 _ upd_same
    exact .tup (c7 _ _ e6) (Nat.le_of_ble_eq_true rfl) (.cons (rstr "f") (.cons r2w (.cons r2w (.cons (.tup e3 (Nat.le_of_ble_eq_true rfl) (.cons (rstr "f") (.cons r2w (.cons r2w (.cons r2w .nil))))) .nil))))
  obtain ⟨p, xs, rfl, hp, rl, r6⟩ := e1
  refine ⟨_, rfl, p, rfl, ⟨_, SqL.of hp⟩, fun D hD => ?_⟩
  have hlen := rl.length
  have hlen4 : xs.length = 4 := hlen
  refine lc_pure walk_list (fun i => .bl (within false ([deepN 4, .tup [.str "g", deepN 4], tW1, tS3].getD i .non))) hD (by omega) (fun H' s' => SqL.of (s' _ _ hp)) (fun _ => rfl) (fun i x Hx Hy hi sx y => ?_) (fun H6 s6 e6 => ?_)
  · obtain ⟨rfl, hx⟩ := y
    obtain ⟨t, ht, rt⟩ := (rl.wk (Wk.same sx)).get' hx
    refine ⟨Same.refl _, fun Q' q' => ?_⟩
    have e : [deepN 4, .tup [.str "g", deepN 4], tW1, tS3].getD i .non = t := by rw [List.getD_eq_getElem?_getD, ht]; rfl
    rw [e] at q'
    exact ⟨_, rfl, x, t, rfl, rt, q'⟩
  · rw [hlen4] at e6
    have hp6 := s6 _ _ hp
    refine ⟨_, rfl, _, _, false, rfl, (by decide +kernel), r6.wk (Wk.same s6), fun H7 s7 => ?_⟩
    obtain ⟨v3, hv3, rv3⟩ := (rl.wk (Wk.same (s6.trans s7))).get (i := 3) (t := tS3) rfl
    refine ⟨_, rfl, _, _, _, _, rfl, rfl, SqL.of (s7 _ _ hp6), atI_nat hv3, v3, tS3, false, rfl, (by decide +kernel), rv3, fun H8 s8 => ⟨l4, fun p8 h8 => ?_⟩⟩
    have s9 := (s7.trans s8).trans (same_new h8 (.lst [.bl true, .bl false, .bl (due false tW1), .bl (due false tS3)]))
    refine ⟨_, _, .lst (SqL.of (s9 _ _ e6)) (dpBls [within false (deepN 4), within false (.tup [.str "g", deepN 4]), within false tW1, within false tS3]), .lst (SqL.of upd_same) (dpBls [true, false, due false tW1, due false tS3]), shapedBls _, shapedBls _, ?_⟩
    rw [eqvL, deep_ok, deep_no, within_due, within_due, decide_eq_true rfl]
    exact q _
end
theorem law_end {P : Program} {w : World} {K : PySem.W.Frag} {mg : Str → Option Value} {fa : Addr} (T : Tx K mg) (hfa : mg "law" = some (.ref fa)) :
    ∃ fd : FuncData, (∀ (s : Shared) (v : Value), BindsTo s fd ⟨[v], []⟩ [("_law_script", v)]) ∧ ∀ base : Heap, K.In base → base.Ns mainGlobals mg → FnOk P w K mg base CX0 16 fa fd ["_law_script"] (sp_law K) := by
  obtain ⟨f', fd', F', m', b'⟩ := T.d_law.ex
  rw [hfa] at m'
  cases m'
  obtain ⟨oc', od', kV, doc, pm, an, cdv, ct, osl', rfl, lk', _⟩ := F'.ex
  refine ⟨PySem.W.fnOf "law" "law" (defArgs s_law) (defBody s_law) (defScope s_law) .none kV doc pm an cdv ct, fun s v => .of_eq rfl, fun base _ _ => ?_⟩
  obtain ⟨f, fd, F, m, kp, b, oc, od, osl, lk⟩ := (c_law (P := P) (w := w) (base := base) T).ex
  rw [hfa] at m
  cases m
  rw [lk'] at lk
  cases lk
  exact F
theorem all_tx {K : PySem.W.Frag} {h : Heap} {mg : Str → Option Value} (X : K.In h) (G : h.Ns mainGlobals mg)
    {f0 : Addr} {od0 an0 : Option Addr} {sl0 : Array (Option Value)} {oc0 kV0 dc0 pm0 cd0 ct0 : Value}
    (a0 : PySem.W.nsIn K mainGlobals "is_word" = some (some (.ref f0))) (l0 : K.lookup f0 = some ⟨oc0, od0, .func (PySem.W.fnOf "is_word" "is_word" (defArgs s_is_word) (defBody s_is_word) (defScope s_is_word) .none kV0 dc0 pm0 an0 cd0 ct0), sl0⟩) (c0 : PySem.W.codeIn K cd0 "is_word" = true) (k0 : PySem.W.keepIn K (.ref f0) = true)
    {f1 : Addr} {od1 an1 : Option Addr} {sl1 : Array (Option Value)} {oc1 kV1 dc1 pm1 cd1 ct1 : Value}
    (a1 : PySem.W.nsIn K mainGlobals "is_name" = some (some (.ref f1))) (l1 : K.lookup f1 = some ⟨oc1, od1, .func (PySem.W.fnOf "is_name" "is_name" (defArgs s_is_name) (defBody s_is_name) (defScope s_is_name) .none kV1 dc1 pm1 an1 cd1 ct1), sl1⟩) (c1 : PySem.W.codeIn K cd1 "is_name" = true) (k1 : PySem.W.keepIn K (.ref f1) = true)
    {f2 : Addr} {od2 an2 : Option Addr} {sl2 : Array (Option Value)} {oc2 kV2 dc2 pm2 cd2 ct2 : Value}
    (a2 : PySem.W.nsIn K mainGlobals "is_hole" = some (some (.ref f2))) (l2 : K.lookup f2 = some ⟨oc2, od2, .func (PySem.W.fnOf "is_hole" "is_hole" (defArgs s_is_hole) (defBody s_is_hole) (defScope s_is_hole) .none kV2 dc2 pm2 an2 cd2 ct2), sl2⟩) (c2 : PySem.W.codeIn K cd2 "is_hole" = true) (k2 : PySem.W.keepIn K (.ref f2) = true)
    {f3 : Addr} {od3 an3 : Option Addr} {sl3 : Array (Option Value)} {oc3 kV3 dc3 pm3 cd3 ct3 : Value}
    (a3 : PySem.W.nsIn K mainGlobals "size_within" = some (some (.ref f3))) (l3 : K.lookup f3 = some ⟨oc3, od3, .func (PySem.W.fnOf "size_within" "size_within" (defArgs s_size_within) (defBody s_size_within) (defScope s_size_within) .none kV3 dc3 pm3 an3 cd3 ct3), sl3⟩) (c3 : PySem.W.codeIn K cd3 "size_within" = true) (k3 : PySem.W.keepIn K (.ref f3) = true)
    {f4 : Addr} {od4 an4 : Option Addr} {sl4 : Array (Option Value)} {oc4 kV4 dc4 pm4 cd4 ct4 : Value}
    (a4 : PySem.W.nsIn K mainGlobals "is_term" = some (some (.ref f4))) (l4 : K.lookup f4 = some ⟨oc4, od4, .func (PySem.W.fnOf "is_term" "is_term" (defArgs s_is_term) (defBody s_is_term) (defScope s_is_term) .none kV4 dc4 pm4 an4 cd4 ct4), sl4⟩) (c4 : PySem.W.codeIn K cd4 "is_term" = true) (k4 : PySem.W.keepIn K (.ref f4) = true)
    {f5 : Addr} {od5 an5 : Option Addr} {sl5 : Array (Option Value)} {oc5 kV5 dc5 pm5 cd5 ct5 : Value}
    (a5 : PySem.W.nsIn K mainGlobals "is_pattern" = some (some (.ref f5))) (l5 : K.lookup f5 = some ⟨oc5, od5, .func (PySem.W.fnOf "is_pattern" "is_pattern" (defArgs s_is_pattern) (defBody s_is_pattern) (defScope s_is_pattern) .none kV5 dc5 pm5 an5 cd5 ct5), sl5⟩) (c5 : PySem.W.codeIn K cd5 "is_pattern" = true) (k5 : PySem.W.keepIn K (.ref f5) = true)
    {f6 : Addr} {od6 an6 : Option Addr} {sl6 : Array (Option Value)} {oc6 kV6 dc6 pm6 cd6 ct6 : Value}
    (a6 : PySem.W.nsIn K mainGlobals "_law_begin" = some (some (.ref f6))) (l6 : K.lookup f6 = some ⟨oc6, od6, .func (PySem.W.fnOf "_law_begin" "_law_begin" (defArgs s__law_begin) (defBody s__law_begin) (defScope s__law_begin) .none kV6 dc6 pm6 an6 cd6 ct6), sl6⟩) (c6 : PySem.W.codeIn K cd6 "_law_begin" = true) (k6 : PySem.W.keepIn K (.ref f6) = true)
    {f7 : Addr} {od7 an7 : Option Addr} {sl7 : Array (Option Value)} {oc7 kV7 dc7 pm7 cd7 ct7 : Value}
    (a7 : PySem.W.nsIn K mainGlobals "_law_take" = some (some (.ref f7))) (l7 : K.lookup f7 = some ⟨oc7, od7, .func (PySem.W.fnOf "_law_take" "_law_take" (defArgs s__law_take) (defBody s__law_take) (defScope s__law_take) .none kV7 dc7 pm7 an7 cd7 ct7), sl7⟩) (c7 : PySem.W.codeIn K cd7 "_law_take" = true) (k7 : PySem.W.keepIn K (.ref f7) = true)
    {f8 : Addr} {od8 an8 : Option Addr} {sl8 : Array (Option Value)} {oc8 kV8 dc8 pm8 cd8 ct8 : Value}
    (a8 : PySem.W.nsIn K mainGlobals "_law_pick" = some (some (.ref f8))) (l8 : K.lookup f8 = some ⟨oc8, od8, .func (PySem.W.fnOf "_law_pick" "_law_pick" (defArgs s__law_pick) (defBody s__law_pick) (defScope s__law_pick) .none kV8 dc8 pm8 an8 cd8 ct8), sl8⟩) (c8 : PySem.W.codeIn K cd8 "_law_pick" = true) (k8 : PySem.W.keepIn K (.ref f8) = true)
    {f9 : Addr} {od9 an9 : Option Addr} {sl9 : Array (Option Value)} {oc9 kV9 dc9 pm9 cd9 ct9 : Value}
    (a9 : PySem.W.nsIn K mainGlobals "_law_word" = some (some (.ref f9))) (l9 : K.lookup f9 = some ⟨oc9, od9, .func (PySem.W.fnOf "_law_word" "_law_word" (defArgs s__law_word) (defBody s__law_word) (defScope s__law_word) .none kV9 dc9 pm9 an9 cd9 ct9), sl9⟩) (c9 : PySem.W.codeIn K cd9 "_law_word" = true) (k9 : PySem.W.keepIn K (.ref f9) = true)
    {f10 : Addr} {od10 an10 : Option Addr} {sl10 : Array (Option Value)} {oc10 kV10 dc10 pm10 cd10 ct10 : Value}
    (a10 : PySem.W.nsIn K mainGlobals "_law_hole" = some (some (.ref f10))) (l10 : K.lookup f10 = some ⟨oc10, od10, .func (PySem.W.fnOf "_law_hole" "_law_hole" (defArgs s__law_hole) (defBody s__law_hole) (defScope s__law_hole) .none kV10 dc10 pm10 an10 cd10 ct10), sl10⟩) (c10 : PySem.W.codeIn K cd10 "_law_hole" = true) (k10 : PySem.W.keepIn K (.ref f10) = true)
    {f11 : Addr} {od11 an11 : Option Addr} {sl11 : Array (Option Value)} {oc11 kV11 dc11 pm11 cd11 ct11 : Value}
    (a11 : PySem.W.nsIn K mainGlobals "_law_pattern" = some (some (.ref f11))) (l11 : K.lookup f11 = some ⟨oc11, od11, .func (PySem.W.fnOf "_law_pattern" "_law_pattern" (defArgs s__law_pattern) (defBody s__law_pattern) (defScope s__law_pattern) .none kV11 dc11 pm11 an11 cd11 ct11), sl11⟩) (c11 : PySem.W.codeIn K cd11 "_law_pattern" = true) (k11 : PySem.W.keepIn K (.ref f11) = true)
    {f12 : Addr} {od12 an12 : Option Addr} {sl12 : Array (Option Value)} {oc12 kV12 dc12 pm12 cd12 ct12 : Value}
    (a12 : PySem.W.nsIn K mainGlobals "_law_letters" = some (some (.ref f12))) (l12 : K.lookup f12 = some ⟨oc12, od12, .func (PySem.W.fnOf "_law_letters" "_law_letters" (defArgs s__law_letters) (defBody s__law_letters) (defScope s__law_letters) .none kV12 dc12 pm12 an12 cd12 ct12), sl12⟩) (c12 : PySem.W.codeIn K cd12 "_law_letters" = true) (k12 : PySem.W.keepIn K (.ref f12) = true)
    {f13 : Addr} {od13 an13 : Option Addr} {sl13 : Array (Option Value)} {oc13 kV13 dc13 pm13 cd13 ct13 : Value}
    (a13 : PySem.W.nsIn K mainGlobals "_law_shape" = some (some (.ref f13))) (l13 : K.lookup f13 = some ⟨oc13, od13, .func (PySem.W.fnOf "_law_shape" "_law_shape" (defArgs s__law_shape) (defBody s__law_shape) (defScope s__law_shape) .none kV13 dc13 pm13 an13 cd13 ct13), sl13⟩) (c13 : PySem.W.codeIn K cd13 "_law_shape" = true) (k13 : PySem.W.keepIn K (.ref f13) = true)
    {f14 : Addr} {od14 an14 : Option Addr} {sl14 : Array (Option Value)} {oc14 kV14 dc14 pm14 cd14 ct14 : Value}
    (a14 : PySem.W.nsIn K mainGlobals "_law_size" = some (some (.ref f14))) (l14 : K.lookup f14 = some ⟨oc14, od14, .func (PySem.W.fnOf "_law_size" "_law_size" (defArgs s__law_size) (defBody s__law_size) (defScope s__law_size) .none kV14 dc14 pm14 an14 cd14 ct14), sl14⟩) (c14 : PySem.W.codeIn K cd14 "_law_size" = true) (k14 : PySem.W.keepIn K (.ref f14) = true)
    {f15 : Addr} {od15 an15 : Option Addr} {sl15 : Array (Option Value)} {oc15 kV15 dc15 pm15 cd15 ct15 : Value}
    (a15 : PySem.W.nsIn K mainGlobals "_law_depth" = some (some (.ref f15))) (l15 : K.lookup f15 = some ⟨oc15, od15, .func (PySem.W.fnOf "_law_depth" "_law_depth" (defArgs s__law_depth) (defBody s__law_depth) (defScope s__law_depth) .none kV15 dc15 pm15 an15 cd15 ct15), sl15⟩) (c15 : PySem.W.codeIn K cd15 "_law_depth" = true) (k15 : PySem.W.keepIn K (.ref f15) = true)
    {f16 : Addr} {od16 an16 : Option Addr} {sl16 : Array (Option Value)} {oc16 kV16 dc16 pm16 cd16 ct16 : Value}
    (a16 : PySem.W.nsIn K mainGlobals "_law_due" = some (some (.ref f16))) (l16 : K.lookup f16 = some ⟨oc16, od16, .func (PySem.W.fnOf "_law_due" "_law_due" (defArgs s__law_due) (defBody s__law_due) (defScope s__law_due) .none kV16 dc16 pm16 an16 cd16 ct16), sl16⟩) (c16 : PySem.W.codeIn K cd16 "_law_due" = true) (k16 : PySem.W.keepIn K (.ref f16) = true)
    {f17 : Addr} {od17 an17 : Option Addr} {sl17 : Array (Option Value)} {oc17 kV17 dc17 pm17 cd17 ct17 : Value}
    (a17 : PySem.W.nsIn K mainGlobals "_law_odd" = some (some (.ref f17))) (l17 : K.lookup f17 = some ⟨oc17, od17, .func (PySem.W.fnOf "_law_odd" "_law_odd" (defArgs s__law_odd) (defBody s__law_odd) (defScope s__law_odd) .none kV17 dc17 pm17 an17 cd17 ct17), sl17⟩) (c17 : PySem.W.codeIn K cd17 "_law_odd" = true) (k17 : PySem.W.keepIn K (.ref f17) = true)
    {f18 : Addr} {od18 an18 : Option Addr} {sl18 : Array (Option Value)} {oc18 kV18 dc18 pm18 cd18 ct18 : Value}
    (a18 : PySem.W.nsIn K mainGlobals "_law_spoilt" = some (some (.ref f18))) (l18 : K.lookup f18 = some ⟨oc18, od18, .func (PySem.W.fnOf "_law_spoilt" "_law_spoilt" (defArgs s__law_spoilt) (defBody s__law_spoilt) (defScope s__law_spoilt) .none kV18 dc18 pm18 an18 cd18 ct18), sl18⟩) (c18 : PySem.W.codeIn K cd18 "_law_spoilt" = true) (k18 : PySem.W.keepIn K (.ref f18) = true)
    {f19 : Addr} {od19 an19 : Option Addr} {sl19 : Array (Option Value)} {oc19 kV19 dc19 pm19 cd19 ct19 : Value}
    (a19 : PySem.W.nsIn K mainGlobals "law" = some (some (.ref f19))) (l19 : K.lookup f19 = some ⟨oc19, od19, .func (PySem.W.fnOf "law" "law" (defArgs s_law) (defBody s_law) (defScope s_law) .none kV19 dc19 pm19 an19 cd19 ct19), sl19⟩) (c19 : PySem.W.codeIn K cd19 "law" = true) (k19 : PySem.W.keepIn K (.ref f19) = true)
    {tk0 : Tok} (m0 : PySem.W.nsIn K mainGlobals "LETTERS" = some (some (.str "abcdefghijklmnopqrstuvwxyz" tk0)))
    {tk1 : Tok} (m1 : PySem.W.nsIn K mainGlobals "MOST_NAME" = some (some (.int 8 tk1)))
    {tk2 : Tok} (m2 : PySem.W.nsIn K mainGlobals "MOST_HOLE" = some (some (.int 4 tk2)))
    {tk3 : Tok} (m3 : PySem.W.nsIn K mainGlobals "MOST_PARTS" = some (some (.int 3 tk3)))
    {tk4 : Tok} (m4 : PySem.W.nsIn K mainGlobals "MOST_SIZE" = some (some (.int 30 tk4)))
    {tk5 : Tok} (m5 : PySem.W.nsIn K mainGlobals "MOST_DEEP" = some (some (.int 5 tk5)))
    (z0 : PySem.W.nsIn K mainGlobals "abs" = some none)
    (z1 : PySem.W.nsIn K mainGlobals "all" = some none)
    (z2 : PySem.W.nsIn K mainGlobals "bool" = some none)
    (z3 : PySem.W.nsIn K mainGlobals "isinstance" = some none)
    (z4 : PySem.W.nsIn K mainGlobals "len" = some none)
    (z5 : PySem.W.nsIn K mainGlobals "list" = some none)
    (z6 : PySem.W.nsIn K mainGlobals "max" = some none)
    (z7 : PySem.W.nsIn K mainGlobals "range" = some none)
    (z8 : PySem.W.nsIn K mainGlobals "str" = some none)
    (z9 : PySem.W.nsIn K mainGlobals "sum" = some none)
    (z10 : PySem.W.nsIn K mainGlobals "tuple" = some none)
    : Tx K mg where
  d_is_word := ⟨f0, _, fun_mk (st := s_is_word) l0 c0 k0, PySem.W.mg_of X G a0, (fun_mk (st := s_is_word) l0 c0 k0).binds (ps := ["thing", "most"]) fun _ _ _ _ _ _ us hl => match us, hl with | [_, _], _ => rfl⟩
  d_is_name := ⟨f1, _, fun_mk (st := s_is_name) l1 c1 k1, PySem.W.mg_of X G a1, (fun_mk (st := s_is_name) l1 c1 k1).binds (ps := ["thing"]) fun _ _ _ _ _ _ us hl => match us, hl with | [_], _ => rfl⟩
  d_is_hole := ⟨f2, _, fun_mk (st := s_is_hole) l2 c2 k2, PySem.W.mg_of X G a2, (fun_mk (st := s_is_hole) l2 c2 k2).binds (ps := ["thing"]) fun _ _ _ _ _ _ us hl => match us, hl with | [_], _ => rfl⟩
  d_size_within := ⟨f3, _, fun_mk (st := s_size_within) l3 c3 k3, PySem.W.mg_of X G a3, (fun_mk (st := s_size_within) l3 c3 k3).binds (ps := ["thing", "holes", "deep"]) fun _ _ _ _ _ _ us hl => match us, hl with | [_, _, _], _ => rfl⟩
  d_is_term := ⟨f4, _, fun_mk (st := s_is_term) l4 c4 k4, PySem.W.mg_of X G a4, (fun_mk (st := s_is_term) l4 c4 k4).binds (ps := ["thing"]) fun _ _ _ _ _ _ us hl => match us, hl with | [_], _ => rfl⟩
  d_is_pattern := ⟨f5, _, fun_mk (st := s_is_pattern) l5 c5 k5, PySem.W.mg_of X G a5, (fun_mk (st := s_is_pattern) l5 c5 k5).binds (ps := ["thing"]) fun _ _ _ _ _ _ us hl => match us, hl with | [_], _ => rfl⟩
  d__law_begin := ⟨f6, _, fun_mk (st := s__law_begin) l6 c6 k6, PySem.W.mg_of X G a6, (fun_mk (st := s__law_begin) l6 c6 k6).binds (ps := ["_law_script"]) fun _ _ _ _ _ _ us hl => match us, hl with | [_], _ => rfl⟩
  d__law_take := ⟨f7, _, fun_mk (st := s__law_take) l7 c7 k7, PySem.W.mg_of X G a7, (fun_mk (st := s__law_take) l7 c7 k7).binds (ps := ["_law_draw", "_law_size_here"]) fun _ _ _ _ _ _ us hl => match us, hl with | [_, _], _ => rfl⟩
  d__law_pick := ⟨f8, _, fun_mk (st := s__law_pick) l8 c8 k8, PySem.W.mg_of X G a8, (fun_mk (st := s__law_pick) l8 c8 k8).binds (ps := ["_law_draw", "_law_some"]) fun _ _ _ _ _ _ us hl => match us, hl with | [_, _], _ => rfl⟩
  d__law_word := ⟨f9, _, fun_mk (st := s__law_word) l9 c9 k9, PySem.W.mg_of X G a9, (fun_mk (st := s__law_word) l9 c9 k9).binds (ps := ["_law_draw"]) fun _ _ _ _ _ _ us hl => match us, hl with | [_], _ => rfl⟩
  d__law_hole := ⟨f10, _, fun_mk (st := s__law_hole) l10 c10 k10, PySem.W.mg_of X G a10, (fun_mk (st := s__law_hole) l10 c10 k10).binds (ps := ["_law_draw"]) fun _ _ _ _ _ _ us hl => match us, hl with | [_], _ => rfl⟩
  d__law_pattern := ⟨f11, _, fun_mk (st := s__law_pattern) l11 c11 k11, PySem.W.mg_of X G a11, (fun_mk (st := s__law_pattern) l11 c11 k11).binds (ps := ["_law_draw", "_law_left", "_law_holed"]) fun _ _ _ _ _ _ us hl => match us, hl with | [_, _, _], _ => rfl⟩
  d__law_letters := ⟨f12, _, fun_mk (st := s__law_letters) l12 c12 k12, PySem.W.mg_of X G a12, (fun_mk (st := s__law_letters) l12 c12 k12).binds (ps := ["_law_text", "_law_most"]) fun _ _ _ _ _ _ us hl => match us, hl with | [_, _], _ => rfl⟩
  d__law_shape := ⟨f13, _, fun_mk (st := s__law_shape) l13 c13 k13, PySem.W.mg_of X G a13, (fun_mk (st := s__law_shape) l13 c13 k13).binds (ps := ["_law_one", "_law_holed"]) fun _ _ _ _ _ _ us hl => match us, hl with | [_, _], _ => rfl⟩
  d__law_size := ⟨f14, _, fun_mk (st := s__law_size) l14 c14 k14, PySem.W.mg_of X G a14, (fun_mk (st := s__law_size) l14 c14 k14).binds (ps := ["_law_one"]) fun _ _ _ _ _ _ us hl => match us, hl with | [_], _ => rfl⟩
  d__law_depth := ⟨f15, _, fun_mk (st := s__law_depth) l15 c15 k15, PySem.W.mg_of X G a15, (fun_mk (st := s__law_depth) l15 c15 k15).binds (ps := ["_law_one"]) fun _ _ _ _ _ _ us hl => match us, hl with | [_], _ => rfl⟩
  d__law_due := ⟨f16, _, fun_mk (st := s__law_due) l16 c16 k16, PySem.W.mg_of X G a16, (fun_mk (st := s__law_due) l16 c16 k16).binds (ps := ["_law_one", "_law_holed"]) fun _ _ _ _ _ _ us hl => match us, hl with | [_, _], _ => rfl⟩
  d__law_odd := ⟨f17, _, fun_mk (st := s__law_odd) l17 c17 k17, PySem.W.mg_of X G a17, (fun_mk (st := s__law_odd) l17 c17 k17).binds (ps := ["_law_draw", "_law_one"]) fun _ _ _ _ _ _ us hl => match us, hl with | [_, _], _ => rfl⟩
  d__law_spoilt := ⟨f18, _, fun_mk (st := s__law_spoilt) l18 c18 k18, PySem.W.mg_of X G a18, (fun_mk (st := s__law_spoilt) l18 c18 k18).binds (ps := ["_law_draw", "_law_one"]) fun _ _ _ _ _ _ us hl => match us, hl with | [_, _], _ => rfl⟩
  d_law := ⟨f19, _, fun_mk (st := s_law) l19 c19 k19, PySem.W.mg_of X G a19, (fun_mk (st := s_law) l19 c19 k19).binds (ps := ["_law_script"]) fun _ _ _ _ _ _ us hl => match us, hl with | [_], _ => rfl⟩
  m_LETTERS := ⟨_, PySem.W.mg_of X G m0⟩
  m_MOST_NAME := ⟨_, PySem.W.mg_of X G m1⟩
  m_MOST_HOLE := ⟨_, PySem.W.mg_of X G m2⟩
  m_MOST_PARTS := ⟨_, PySem.W.mg_of X G m3⟩
  m_MOST_SIZE := ⟨_, PySem.W.mg_of X G m4⟩
  m_MOST_DEEP := ⟨_, PySem.W.mg_of X G m5⟩
  z_abs := PySem.W.mg_none_of X G z0
  z_all := PySem.W.mg_none_of X G z1
  z_bool := PySem.W.mg_none_of X G z2
  z_isinstance := PySem.W.mg_none_of X G z3
  z_len := PySem.W.mg_none_of X G z4
  z_list := PySem.W.mg_none_of X G z5
  z_max := PySem.W.mg_none_of X G z6
  z_range := PySem.W.mg_none_of X G z7
  z_str := PySem.W.mg_none_of X G z8
  z_sum := PySem.W.mg_none_of X G z9
  z_tuple := PySem.W.mg_none_of X G z10
end Kt
open PySem PySem.W PyProof.Rows
set_option maxRecDepth 100000 in
set_option maxHeartbeats 0 in
theorem PySem.Challenge.cw_likematch_k01_terms_and_patterns_holds : PySem.Challenge.rw_likematch_k01_terms_and_patterns.Holds := by
  w_on; o_law; k_head; (case hw => w_witness2)
  k_fill
  refine L2.walk_of (l := PySem.Challenge.rw_likematch_k01_terms_and_patterns) (n := 63) (k := 16) (x := "_law_script") (CX := fun _ => L2.CX0) (sp := fun w => Kt.sp_law _) rfl (by decide) rfl ⟨rfl, by decide, by decide⟩ (fun w h Y => PySem.W.kIn_of Y) ?F (fun _ _ a ns hl _ hS => ⟨a, ns, rfl, hS, hl, fun _ => rfl⟩) (fun _ _ _ _ _ h => h)
  case F =>
    intro w mg fa h KX G hmg
    refine Kt.law_end ?T hmg
    case T =>
      refine' Kt.all_tx KX G ?a0 ?l0 ?c0 ?k0 ?a1 ?l1 ?c1 ?k1 ?a2 ?l2 ?c2 ?k2 ?a3 ?l3 ?c3 ?k3 ?a4 ?l4 ?c4 ?k4 ?a5 ?l5 ?c5 ?k5 ?a6 ?l6 ?c6 ?k6 ?a7 ?l7 ?c7 ?k7 ?a8 ?l8 ?c8 ?k8 ?a9 ?l9 ?c9 ?k9 ?a10 ?l10 ?c10 ?k10 ?a11 ?l11 ?c11 ?k11 ?a12 ?l12 ?c12 ?k12 ?a13 ?l13 ?c13 ?k13 ?a14 ?l14 ?c14 ?k14 ?a15 ?l15 ?c15 ?k15 ?a16 ?l16 ?c16 ?k16 ?a17 ?l17 ?c17 ?k17 ?a18 ?l18 ?c18 ?k18 ?a19 ?l19 ?c19 ?k19 ?m0 ?m1 ?m2 ?m3 ?m4 ?m5 ?z0 ?z1 ?z2 ?z3 ?z4 ?z5 ?z6 ?z7 ?z8 ?z9 ?z10
      (case a0 => k_is)
      (case l0 => k_is)
      (case c0 => k_is)
      (case k0 => k_is)
      (case a1 => k_is)
      (case l1 => k_is)
      (case c1 => k_is)
      (case k1 => k_is)
      (case a2 => k_is)
      (case l2 => k_is)
      (case c2 => k_is)
      (case k2 => k_is)
      (case a3 => k_is)
      (case l3 => k_is)
      (case c3 => k_is)
      (case k3 => k_is)
      (case a4 => k_is)
      (case l4 => k_is)
      (case c4 => k_is)
      (case k4 => k_is)
      (case a5 => k_is)
      (case l5 => k_is)
      (case c5 => k_is)
      (case k5 => k_is)
      (case a6 => k_is)
      (case l6 => k_is)
      (case c6 => k_is)
      (case k6 => k_is)
      (case a7 => k_is)
      (case l7 => k_is)
      (case c7 => k_is)
      (case k7 => k_is)
      (case a8 => k_is)
      (case l8 => k_is)
      (case c8 => k_is)
      (case k8 => k_is)
      (case a9 => k_is)
      (case l9 => k_is)
      (case c9 => k_is)
      (case k9 => k_is)
      (case a10 => k_is)
      (case l10 => k_is)
      (case c10 => k_is)
      (case k10 => k_is)
      (case a11 => k_is)
      (case l11 => k_is)
      (case c11 => k_is)
      (case k11 => k_is)
      (case a12 => k_is)
      (case l12 => k_is)
      (case c12 => k_is)
      (case k12 => k_is)
      (case a13 => k_is)
      (case l13 => k_is)
      (case c13 => k_is)
      (case k13 => k_is)
      (case a14 => k_is)
      (case l14 => k_is)
      (case c14 => k_is)
      (case k14 => k_is)
      (case a15 => k_is)
      (case l15 => k_is)
      (case c15 => k_is)
      (case k15 => k_is)
      (case a16 => k_is)
      (case l16 => k_is)
      (case c16 => k_is)
      (case k16 => k_is)
      (case a17 => k_is)
      (case l17 => k_is)
      (case c17 => k_is)
      (case k17 => k_is)
      (case a18 => k_is)
      (case l18 => k_is)
      (case c18 => k_is)
      (case k18 => k_is)
      (case a19 => k_is)
      (case l19 => k_is)
      (case c19 => k_is)
      (case k19 => k_is)
      (case m0 => k_is)
      (case m1 => k_is)
      (case m2 => k_is)
      (case m3 => k_is)
      (case m4 => k_is)
      (case m5 => k_is)
      (case z0 => k_is)
      (case z1 => k_is)
      (case z2 => k_is)
      (case z3 => k_is)
      (case z4 => k_is)
      (case z5 => k_is)
      (case z6 => k_is)
      (case z7 => k_is)
      (case z8 => k_is)
      (case z9 => k_is)
      (case z10 => k_is)
