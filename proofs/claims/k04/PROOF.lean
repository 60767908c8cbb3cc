import PyProof.Rows.All
import Wide.All
import OpenK.AllK
import Wide.FinOn
import HandS.ForMost
import HandS.Exc
import HandS.ExcInit
import HandS.IsInst
import HandS.Defaults
import PyProof.ReprRoads
import HandS.ExcField
import HandS.ExcIs
import KE.KExcIs
import PyProof.CallFns
import KE.KStateDown
import HandS.Head0
import HandS.Head1
import HandS.Head2
import HandS.HeadEnd
import HandS.HeadHook1
import HandS.HeadHook2
import KE.KDictList
import HandS.Conv
import HandS.Dict
import HandS.DictComp
import HandS.Walk
import HandS.ClsMeth
import KE.KOpsOwn
import HandS.OwnEq
import HandS.SlotsOwn
import PyProof.InstNe
import PyProof.Rows.FactsN_abs
import PyProof.Rows.Range3
import PyProof.CallStr
import HandS.WordsExc
import PyProof.Rows.RuleB_bool
import HandS.Wide
import HandS.Gcd
import HandS.FStr
import HandS.RaiseMore
import HandS.Style
import HandS.Head3
import HandS.HeadHook4
import HandS.HeadNt
import HandS.HeadWalk
import HandS.MakeKwOnly
import PyProof.Rows.SortStr
import PyProof.Rows.StrMeet
import HandS.Comp
import KE.KFmtOwn
import HandS.Iter
import KE.KMathGC
import HandS.Text
import KE.OsScanText
import KE.IntTextLaws
import HandS.StrMore
import HandS.CallLocal
import HandS.Codes
import HandS.ExcCtx
import HandS.SetFor
import KE.DataEq
import KE.KDictDisplayH
import HandS.ExcValue
import HandS.Lambda
import HandS.BoundDict
import HandS.MakeKw
import PySem.Challenge.RW_scaleborn_k04_balances_made_and_refused
set_option Elab.async false
set_option linter.all false
set_option maxRecDepth 100000
set_option maxHeartbeats 0
/-! An own exception made as a value, by place and by keywords. -/
namespace PySem
namespace MkE
open PySem.W PySem.Calls PyProof.Rows PySem.HandSPX
open Builtin Builtin.ObjectAttr
section
variable {M : Model} {A : Around} {E : Value → Shared → Prop} {h : Heap} {g : Array GenState} {d : Drawn} {t : Nat} {os : OsState}
variable {nm q : Str} {C N : Addr} {bs bm bmB : List Value} {hdct : Bool} {sn : List Str} {sub : List Value} {ab : Bool} {col : Option Bool} {dd : Option Addr} {k0 k1 k2 k3 k5 : Option Value} {B newId initId : String}
theorem look_new (F : ExcBaseFacts B newId initId bmB) (hT : ∀ X : String, bm.contains (.type X) = bmB.contains (.type X)) {us : List Value} {kw : List (Str × Value)} {Q : Unit → Shared → Prop}
    (hC : h.get? C = some (excClassObj nm q C N bs bm hdct sn sub ab col dd k0 k1 k2 k3 k5 newId)) (hq : Q () ⟨h, g, d, t, os⟩) :
    wpAny M A (checkBuiltinCall newId ⟨.ref C :: us, kw⟩) Q E ⟨h, g, d, t, os⟩ := by
  have isB : (Value.ref C :: bm).contains (.type B) = true := by rw [List.contains_cons, hT, F.hasB, Bool.or_true]
  have nostar := F.noStar
  simp only [checkBuiltinCall, F.newKind, F.newSplit, F.newRow]
  repeat (first
    | refine wpAny_loadPart_at hC ?_
    | (refine wpAny_isSubtype_exc hC ?_; rw [isB])
    | refine wpAny_staticBase_exc hC ?_
    | refine wpAny_madeBy_exc hC ?_
    | simp only [bne_self_eq_false, Bool.false_eq_true, if_false]
    | wp_step)
  exact hq
end
section
variable {prog : Program} {w : World} {A : Around} {E : Value → Shared → Prop} {R : Result → Shared → Prop} {h : Heap} {g : Array GenState} {d : Drawn} {t : Nat} {os : OsState}
variable {nm q : Str} {C N : Addr} {bs bm bmB : List Value} {hdct : Bool} {sn : List Str} {sub : List Value} {ab : Bool} {col : Option Bool} {dd : Option Addr} {k0 k1 k2 k3 k5 : Option Value} {B newId initId : String}
theorem new_made (F : ExcBaseFacts B newId initId bmB) (hT : ∀ X : String, bm.contains (.type X) = bmB.contains (.type X)) {us : List Value} {kw : List (Str × Value)}
    (hC : h.get? C = some (excClassObj nm q C N bs bm hdct sn sub ab col dd k0 k1 k2 k3 k5 newId))
    (hq : R (.ok (.ret (.ref (h.objs.size + 1)))) ⟨(h.push (W.kdv_tup us)).push (excO C h.objs.size), g, d, t, os⟩) (hl : us.length ≤ sizeLine) :
    codeAny (model prog w) A (.builtin newId ⟨.ref C :: us, kw⟩) R ⟨h, g, d, t, os⟩ := by
  have ends := F.ends
  have isB : (Value.ref C :: bm).contains (.type B) = true := by rw [List.contains_cons, hT, F.hasB, Bool.or_true]
  have notA : (Value.ref C :: bm).contains (.type "AttributeError") = false := by rw [List.contains_cons, hT, F.noAttr]; rfl
  have notN : (Value.ref C :: bm).contains (.type "NameError") = false := by rw [List.contains_cons, hT, F.noName]; rfl
  refine codeAny_builtinAt F.entry ?_
  unfold Builtin.«BaseException.__new__»
  refine wpAt_bind ?_
  show wpAt _ _ _ (stack >>= _) _ _ _
  refine wpAt_bind (wpAt_stack fun p below => wpAt_of_wpAny ?_)
  wp_walk
  refine wpAt_of_wpAny ?_
  rw [F.owner]
  repeat (first
    | with_reducible refine wpAny_madeHere_exc F.canon hC ?_
    | with_reducible refine wpAny_loadPart_at hC ?_
    | (with_reducible refine wpAny_isSubtype_exc hC ?_; first | rw [isB] | rw [notA] | rw [notN])
    | wp_step)
  show R _ _
  rw [Heap.size_push]
  exact hq
theorem type_made (F : ExcBaseFacts B newId initId bmB) (hT : ∀ X : String, bm.contains (.type X) = bmB.contains (.type X)) {us : List Value} {kw : List (Str × Value)} {fI : Addr} {Q : Fin → Shared → Prop}
    (hC : h.get? C = some (excClassObj nm q C N bs bm hdct sn sub ab col dd k0 k1 k2 k3 k5 newId))
    (hi : W.Looks (model prog w) h (typeLookup (.ref C) "__init__") (some (.ref fI))) (hb : ∀ self, W.Looks (model prog w) h (bindSpecial (.ref fI) self) (.ref fI, [self])) (hl : us.length ≤ sizeLine)
    (hq : codeAny (model prog w) A (.call (.ref fI) ⟨.ref (h.objs.size + 1) :: us, kw⟩)
      (fun r s' => match r with | .ok (.ret v) => v = .none ∧ Q (.done (.ret (.ref (h.objs.size + 1)))) s' | .ok _ => False | .error e => E e s')
      ⟨(h.push (W.kdv_tup us)).push (excO C h.objs.size), g, d, t, os⟩) :
    wpAny (model prog w) A (Builtin.«type.__call__» ⟨.ref C :: us, kw⟩) Q E ⟨h, g, d, t, os⟩ := by
  repeat (first | with_reducible refine wpAny_loadPart_at hC ?_ | with_reducible refine wpAny_madeBy_exc hC ?_ | wp_step)
  refine codeAny_call_builtin_code (Code.quiet_builtin _ F.quiet) (look_new F hT hC ?_)
  refine new_made F hT hC ?_ hl
  show wpAny _ _ _ _ _ _
  have k : ∀ b o, h.get? b = some o → ((h.push (W.kdv_tup us)).push (excO C h.objs.size)).get? b = some o := fun b o e => Heap.get?_push_of_some _ (Heap.get?_push_of_some _ e)
  have hC1 := k _ _ hC
  have at1 : ((h.push (W.kdv_tup us)).push (excO C h.objs.size)).get? (h.objs.size + 1) = some (excO C h.objs.size) := by heap_get
  have own : (Value.ref C :: bm).contains (.ref C) = true := by simp
  have i1 := hi.keeps k
  have b1 := (hb (.ref (h.objs.size + 1))).keeps k
  unfold isInstance
  repeat (first | with_reducible refine wpAny_loadPart_at at1 ?_ | (with_reducible refine wpAny_isSubtype_exc hC1 ?_; rw [own]) | wp_step)
  show wpAny _ _ (typeLookup (.ref C) _) _ _ _
  refine i1.at ?_
  refine wpAny_holding (wpAny_bind (b1.at ?_))
  refine wpAny_bind (wpAny_call (codeAny_mono hq fun r s' z => ?_))
  rcases r with e | (v | _ | _ | _) <;> first | exact z | exact z.elim | skip
  obtain ⟨rfl, z⟩ := z
  first
    | exact wpAny_pure (wpAny_pure z)
    | (wp_walk; exact z)
theorem call_made (F : ExcBaseFacts B newId initId bmB) (hT : ∀ X : String, bm.contains (.type X) = bmB.contains (.type X)) {us : List Value} {kw : List (Str × Value)} {fI : Addr}
    (hC : h.get? C = some (excClassObj nm q C N bs bm hdct sn sub ab col dd k0 k1 k2 k3 k5 newId))
    (hi : W.Looks (model prog w) h (typeLookup (.ref C) "__init__") (some (.ref fI))) (hb : ∀ self, W.Looks (model prog w) h (bindSpecial (.ref fI) self) (.ref fI, [self])) (hl : us.length ≤ sizeLine)
    (hq : codeAny (model prog w) (A.under (.builtin "type.__call__" ⟨.ref C :: us, kw⟩)) (.call (.ref fI) ⟨.ref (h.objs.size + 1) :: us, kw⟩) (W.InitBack (h.objs.size + 1) R)
      ⟨(h.push (W.kdv_tup us)).push (excO C h.objs.size), g, d, t, os⟩) :
    codeAny (model prog w) A (.call (.ref C) ⟨us, kw⟩) R ⟨h, g, d, t, os⟩ := by
  have f1 := tc_lookup
  have f2 := tc_bind (.ref C)
  have hTy : (⟨h, g, d, t, os⟩ : Shared).TypeIs (.ref C) "type" := ⟨_, hC, rfl⟩
  refine codeAny_of_tree ?_
  show wpAny _ _ (callAny (.ref C) _) _ _ _
  repeat (any_goals (first | assumption | with_reducible refine wpAny_loadPart_at hC ?_ | wp_step))
  refine ⟨rfl, ?_⟩
  refine codeAny_call_builtin_at (Code.quiet_builtin _ (by decide +kernel)) entry_typeCall (wpAny_check_type_call_sub hC (type_made F hT hC hi hb hl ?_))
  refine codeAny_mono hq fun r s' z => ?_
  rcases r with e | (v | _ | _ | _) <;> exact z
end
end MkE
end PySem
namespace L2
open PySem PySem.Spec PyProof.Rows
/-! ### an exception of an own class as a value -/
def ErrAt (H : Hp) (e C : Addr) (fs : List (Str × V)) : Prop :=
  (fs = [] ∧ H e = some (exo e C none)) ∨ ∃ d, H e = some (exo e C (some d)) ∧ H d = some (exd d fs)
theorem ErrAt.same {H H' : Hp} {e C : Addr} {fs : List (Str × V)} (h : ErrAt H e C fs) (s : Same H H') : ErrAt H' e C fs := by
  rcases h with ⟨h1, h2⟩ | ⟨d, h1, h2⟩
  · exact .inl ⟨h1, s _ _ h2⟩
  · exact .inr ⟨d, s _ _ h1, s _ _ h2⟩
section
variable {X : Cx} {pins : List (Addr × Obj)} {σ : St} {H : Hp} {s : Shared} {e C : Addr} {fs : List (Str × V)}
theorem ErrAt.inst (I : Inv X pins σ H s) (h : ErrAt H e C fs) :
    ∃ (oe : Obj) (od : Option Obj), PySem.W.InstAt s.heap e oe C od ∧ ∀ f v, fs.lookup f = some v → ∃ (o : Obj) (u : Value), od = some o ∧ RelV v u ∧ PySem.W.lookIn f o = some (some u) := by
  rcases h with ⟨h1, h2⟩ | ⟨d, h1, h2⟩
  · obtain ⟨t1, ho⟩ := exo_at I.hok h2
    exact ⟨_, none, ⟨ho, rfl, rfl, trivial⟩, fun f v l => by rw [h1] at l; cases l⟩
  · obtain ⟨t1, ho⟩ := exo_at I.hok h1
    obtain ⟨mA, hns, rel⟩ := exd_at I.hok h2
    obtain ⟨od, hod, hl⟩ := lookIn_ns hns
    refine ⟨_, some od, ⟨ho, rfl, rfl, hod⟩, fun f v l => ?_⟩
    obtain ⟨u, hu, ru⟩ := RelO.some_of (v := v) (o := mA f) (by rw [← l]; exact rel f)
    exact ⟨od, u, rfl, ru, by rw [hl, hu]⟩
end
/-- isinstance(e, c) -/
def rIsErr (K : PySem.W.Frag) : List V → Hp → VK → Prop := fun xs H Q => ∃ (e C : Addr) (fs : List (Str × V)) (c : V) (cv : Value) (b : Bool),
  xs = [.ref e, c] ∧ ErrAt H e C fs ∧ ExcC K C ∧ ClsV c cv ∧ PySem.W.kitOne K (.ref C) cv = some b ∧ Q (.bl b) H
theorem call_isErr {X : Cx} : CallR X (.builtin "isinstance") (rIsErr X.K) := by
  intro pins s σ H xs us Q I r h
  obtain ⟨e, C, fs, c, cv, b, rfl, he, T, k, ek, q⟩ := h
  obtain ⟨u1, u2, rfl, r1, r2⟩ := vals2 r
  have e2 := k.eq r2
  subst e2
  obtain rfl : u1 = Value.ref e := r1
  obtain ⟨oe, od, J, _⟩ := he.inst I
  have hcl : (PySem.W.clsIn X.K C).isSome = true := by
    obtain ⟨cd, hc, _⟩ := PySem.W.any_some T.hd
    rw [hc]
    rfl
  exact PySem.W.kia_one (PySem.W.kitx_exc (ox := oe) (od := od) hcl T.hg T.hk T.hs T.ha T.hn T.ht T.hm) I.kIn J ek (fun z => nomatch z) fun tk => ⟨.bl b, H, I.tok tk, rfl, q⟩
/-- e.f -/
def tErrF (K : PySem.W.Frag) (f : Str) (te : TE) : TE := fun σ H Q => te σ H fun x H1 => ∃ (e C : Addr) (fs : List (Str × V)) (v : V),
  x = .ref e ∧ ErrAt H1 e C fs ∧ XfC K C ∧ PySem.W.findIn K (.ref C) f = some none ∧ fs.lookup f = some v ∧ Q v H1
theorem pe_errF {X : Cx} {e : Expr} {te : TE} {pos : Pos} {n : Str} (he : PE X e te) (hb : attributeBase e n X.env (eval e X.env) = eval e X.env := by rfl) :
    PE X (.Attribute e n pos) (tErrF X.K n te) := by
  refine ⟨fun pins s σ H Q I h => ?_⟩
  refine attr_of hb (thn (he.run pins s σ H _ I h) fun u s1 hh => ?_)
  obtain ⟨x, H1, I1, rx, e0, C, fs, v, ex, ea, T, hno, l, q⟩ := hh
  subst ex
  obtain rfl : u = Value.ref e0 := rx
  obtain ⟨oe, od, J, hl⟩ := ea.inst I1
  obtain ⟨o, u, rfl, ru, hlu⟩ := hl n v l
  exact HandSPX.exc_get I1.kIn J T.ga T.gg T.exC (PySem.W.findObj_own T.hdC hno rfl hlu) (handed_of ru) ⟨v, H1, I1.tok _, ru, q⟩
/-! ### making one -/
/-- the promise of an __init__ that keeps its parameters ks -/
def spErrI (K : PySem.W.Frag) (ks : List Str) : Sp := fun vs H Q _ => ∃ (e C : Addr) (ws : List V), vs = .ref e :: ws ∧ ws.length = ks.length ∧ OexC K C ∧ (∀ f ∈ ks, PySem.W.findIn K (.ref C) f = some none) ∧
  H e = some (exo e C none) ∧ ∀ H', (∀ b o, b ≠ e → H b = some o → H' b = some o) → ErrAt H' e C (ks.zip ws).reverse → Q .non H'
/-- what the written part tells of such a class -/
structure ErrC (K : PySem.W.Frag) (C fI : Addr) (ks : List Str) : Prop where
  ox : OexC K C
  ini : PySem.W.findIn K (.ref C) "__init__" = some (some (.ref fI))
  fn : PySem.W.typeIn K (.ref fI) = some (.type "function")
  no : ∀ f ∈ ks, PySem.W.findIn K (.ref C) f = some none
  xf : XfC K C
  is : ExcC K C
section
variable {X : Cx} {C fI : Addr} {ks kn ps : List Str} {k : Nat} {fd : FuncData} {x : Str} {p pos : Pos} {e : Expr} {es : List Expr} {kws : List Keyword} {ta tk : TA} {g : List Value → List Value → List Value} {gV : List V → List V → List V}
theorem run_err {pins : List (Addr × Obj)} {σ : St} {H1 : Hp} {s1 : Shared} {Q : VK} {us : List Value} {kw : List (Str × Value)} {ws : List V} {as : List Value} (T : ErrC X.K C fI ks)
    (F : FnOk X.prog X.w X.K X.mg X.base CX0 k fI fd ps (spErrI X.K ks)) (hr : Room (k + 1) X.A) (I1 : Inv X pins σ H1 s1) (hl : us.length ≤ sizeLine)
    (hb : ∀ (s : Shared) (a : Addr), X.K.In s.heap → BindsTo s fd ⟨.ref a :: us, kw⟩ (ps.zip (.ref a :: as))) (r : Vals ws as) (hn : ws.length = ks.length)
    (h : ∀ e H2, H1 e = none → Same H1 H2 → ErrAt H2 e C (ks.zip ws).reverse → Q (.ref e) H2) :
    wpAny (model X.prog X.w) X.A (call (.ref C) us kw) (EP X pins σ Q) X.xe s1 := by
  obtain ⟨nm, q, N, bs, bm, sn, sub, ab, col, dd, k0, k1, k2, k3, k5, hC, hbm⟩ := T.ox.cls
  obtain ⟨hp, gs, dr, tk, os⟩ := s1
  have hsz : hp.objs.size ≤ hp.objs.size + 1 := Nat.le_succ _
  have fr : H1 (hp.objs.size + 1) = none := I1.hok.fresh hsz
  have kk : ∀ b o, hp.get? b = some o → ((hp.push (PySem.W.kdv_tup us)).push (PySem.HandSPX.excO C hp.objs.size)).get? b = some o := fun b o z => Heap.get?_push_of_some _ (Heap.get?_push_of_some _ z)
  have at1 : ((hp.push (PySem.W.kdv_tup us)).push (PySem.HandSPX.excO C hp.objs.size)).get? (hp.objs.size + 1) = some (PySem.HandSPX.excO C hp.objs.size) := by heap_get
  have I2 : Inv X pins σ (upd H1 (hp.objs.size + 1) (exo (hp.objs.size + 1) C none)) ⟨(hp.push (PySem.W.kdv_tup us)).push (PySem.HandSPX.excO C hp.objs.size), gs, dr, tk, os⟩ :=
    I1.laid (t' := tk) (a := hp.objs.size + 1) (o := exo (hp.objs.size + 1) C none) (h' := (hp.push (PySem.W.kdv_tup us)).push (PySem.HandSPX.excO C hp.objs.size)) kk hsz (exo_ok at1)
  have hsp : spErrI X.K ks (.ref (hp.objs.size + 1) :: ws) (upd H1 (hp.objs.size + 1) (exo (hp.objs.size + 1) C none)) (fun v H2 => v = .non ∧ Q (.ref (hp.objs.size + 1)) H2) (fun _ _ _ => False) :=
    ⟨_, C, ws, rfl, hn, T.ox, T.no, upd_same, fun H' km ea => ⟨rfl, h _ H' fr (fun b o z => km b o (ne_of_none z fr) (by rw [upd_ne (ne_of_none z fr)]; exact z)) ea⟩⟩
  refine wpAny_call (PySem.MkE.call_made PySem.F.excBase_ValueError (fun Y => PySem.HandSPX.refsVE_contains Y bm hbm) (I1.kIn _ _ hC) (PySem.W.looks_findIn I1.kIn T.ini) (fun self => PySem.W.bind_fn I1.kIn self T.fn) hl
    (codeAny_mono (F.run _ X.stack _ _ ⟨.ref (hp.objs.size + 1) :: us, kw⟩ (.ref (hp.objs.size + 1) :: as) (.ref (hp.objs.size + 1) :: ws) _ _ (hr.make C us kw) (I2.env0.make C us kw) (hb _ _ I2.kIn) (.cons rfl r) hsp) fun rr s' hq' => ?_))
  cases rr with
  | error er => exact False.elim hq'
  | ok fl =>
    cases fl with
    | ret u =>
      obtain ⟨v, H', I3, rv, ev, q3⟩ := I2.after hq'
      subst ev
      exact ⟨rv, ⟨V.ref (hp.objs.size + 1), H', I3, rfl, q3⟩⟩
    | next => exact False.elim hq'
    | brk => exact False.elim hq'
    | cont => exact False.elim hq'
/-- C(..): the values in the parameters' order -/
def tErr (C : Addr) (ks : List Str) (ord : List V → List V) (t : TA) : TE := fun σ H Q => t σ H fun vs H1 => vs.length = ks.length ∧ ∀ e H2, H1 e = none → Same H1 H2 → ErrAt H2 e C (ks.zip (ord vs)).reverse → Q (.ref e) H2
/-- C(e, ..) -/
theorem pe_err (T : ErrC X.K C fI ks) (F : FnOk X.prog X.w X.K X.mg X.base CX0 k fI fd ps (spErrI X.K ks)) (hr : Room (k + 1) X.A) (hg : Gl X x) (hm : X.mg x = some (.ref C)) (hb : Binds X.K fd ps []) (hp : ps.length = ks.length + 1) (hk : ks.length ≤ 100) (ha : PA X (e :: es) ta)
    (hdb : (x == ("__debug__" : Str)) = false := by decide) (he : starEach (e :: es) X.env = (false, eval e X.env) :: starEach es X.env := by rfl) (hpl : (backTo pos (starEach es X.env)).any (·.1) = false := by rfl) :
    PE X (.Call (.Name x p) (e :: es) [] pos) (tErr C ks id ta) := by
  refine ⟨fun pins s σ H Q I h => ?_⟩
  refine wpAny_Call_Name_kw (ld_glob I hg hm ?_ hdb)
  refine PySem.W.callWith_K (h₀ := X.base) I.ok.mod.kin T.ox.kC (thn (ha.run pos pins s σ H _ I h) fun us s1 ⟨vs, H1, I1, r, hl, q⟩ => ⟨I1.kIn, ?_⟩) he hpl
  have l2 : us.length = ks.length := r.length.symm.trans hl
  show wpAny _ _ (call (.ref C) us) _ _ _
  refine run_err (as := us) T F hr I1 (by rw [l2, sizeLine_eq]; omega) (fun s a KX => ?_) r hl q
  have z := hb s (.ref a :: us) KX (by rw [List.append_nil, List.length_cons, l2, hp])
  rw [List.append_nil] at z
  exact z
/-- C() -/
theorem pe_err0 (T : ErrC X.K C fI []) (F : FnOk X.prog X.w X.K X.mg X.base CX0 k fI fd ps (spErrI X.K [])) (hr : Room (k + 1) X.A) (hg : Gl X x) (hm : X.mg x = some (.ref C)) (hb : Binds X.K fd ps []) (hp : ps.length = 1)
    (hdb : (x == ("__debug__" : Str)) = false := by decide) : PE X (.Call (.Name x p) [] [] pos) (tErr C [] id tNil) := by
  refine ⟨fun pins s σ H Q I h => ?_⟩
  refine wpAny_Call_Name_kw (ld_glob I hg hm ?_ hdb)
  refine PySem.W.callWith_K0 I.kIn T.ox.kC ?_
  refine run_err (us := []) (as := []) (ws := []) T F hr I (Nat.zero_le _) (fun s a KX => ?_) .nil rfl h.2
  have z := hb s [.ref a] KX (by rw [List.append_nil, hp]; rfl)
  rw [List.append_nil] at z
  exact z
/-- C(k = e, ..) -/
theorem pe_errK (T : ErrC X.K C fI ks) (F : FnOk X.prog X.w X.K X.mg X.base CX0 k fI fd ps (spErrI X.K ks)) (hr : Room (k + 1) X.A) (hg : Gl X x) (hm : X.mg x = some (.ref C)) {ordV : List V → List V} {ordU : List Value → List Value}
    (hb : ∀ (s : Shared) (a : Addr) (zs : List Value), zs.length = ks.length → BindsTo s fd ⟨[.ref a], kn.zip zs⟩ (ps.zip (.ref a :: ordU zs))) (hv : ∀ (vs : List V) (us : List Value), vs.length = ks.length → Vals vs us → Vals (ordV vs) (ordU us) ∧ (ordV vs).length = ks.length) (hkw : PK X kws tk)
    (hall : (backToKw pos (keywordEach kws X.env)).all (·.1.isSome) = true := by rfl) (hks : (backToKw pos (keywordEach kws X.env)).filterMap (·.1) = kn := by rfl)
    (hdb : (x == ("__debug__" : Str)) = false := by decide)
    (hpl : ((backTo pos (starEach [] X.env)).any (·.1) || (backToKw pos (keywordEach kws X.env)).any (·.1.isNone)) = false := by rfl) :
    PE X (.Call (.Name x p) [] kws pos) (tErr C ks ordV tk) := by
  refine ⟨fun pins s σ H Q I h => ?_⟩
  refine wpAny_Call_Name_kw (ld_glob I hg hm ?_ hdb)
  refine PySem.W.callWith_KW0 (h₀ := X.base) I.ok.mod.kin T.ox.kC hall ?_ hpl
  refine thn (hkw.run pos pins s σ H _ I h) fun us s1 ⟨vs, H1, I1, r, hl, q⟩ => ⟨I1.kIn, ?_⟩
  rw [hks]
  obtain ⟨r2, l2⟩ := hv vs us hl r
  exact run_err (us := []) T F hr I1 (Nat.zero_le _) (fun s a _ => hb s a us (r.length.symm.trans hl)) r2 l2 q
end
end L2
namespace L2
open PySem PySem.Spec PyProof.Rows
/-! ### data that repr tells: t is one address that may change -/
def KeepBut (t : Addr) (H H' : Hp) : Prop := ∀ b o, b ≠ t → H b = some o → H' b = some o
theorem KeepBut.trans {t : Addr} {H H1 H2 : Hp} (a : KeepBut t H H1) (b : KeepBut t H1 H2) : KeepBut t H H2 := fun c o n e => b c o n (a c o n e)
theorem KeepBut.refl {t : Addr} (H : Hp) : KeepBut t H H := fun _ _ _ e => e
theorem Same.but {t : Addr} {H H' : Hp} (s : Same H H') : KeepBut t H H' := fun b o _ e => s b o e
def Rp (P : Program) (w : World) (t : Addr) (H : Hp) (v : V) (d : PyData) : Prop := ∀ (H' : Hp) (h : Heap), KeepBut t H H' → HOk P w H' h → ∀ u, RelV v u → ∃ as, Reads h u d as ∧ ∀ b ∈ as, b ≠ sysModules
abbrev RpL (P : Program) (w : World) (t : Addr) (H : Hp) : List V → List PyData → Prop := Paired (Rp P w t H)
section
variable {P : Program} {w : World} {t : Addr} {H H' : Hp} {v : V} {d : PyData} {vs : List V} {ds ks : List PyData} {a : Addr} {kvs : List (Key × V)}
theorem Rp.keep (h : Rp P w t H v d) (s : KeepBut t H H') : Rp P w t H' v d := fun H2 hh s2 ok u r => h H2 hh (s.trans s2) ok u r
theorem RpL.keep : ∀ {vs : List V} {ds : List PyData}, RpL P w t H vs ds → KeepBut t H H' → RpL P w t H' vs ds
  | _, _, .nil, _ => .nil
  | _, _, .cons h q, s => .cons (Rp.keep h s) (RpL.keep q s)
theorem RpL.reads {h : Heap} (s : KeepBut t H H') (ok : HOk P w H' h) : ∀ {vs : List V} {ds : List PyData} {us : List Value}, RpL P w t H vs ds → Vals vs us → ∃ as, ReadsAll h us ds as ∧ ∀ b ∈ as, b ≠ sysModules
  | _, _, _, .nil, .nil => ⟨[], .nil, fun _ z => nomatch z⟩
  | _, _, _, .cons x q, .cons r rt => by
    obtain ⟨a1, h1, n1⟩ := x H' h s ok _ r
    obtain ⟨a2, h2, n2⟩ := RpL.reads s ok q rt
    exact ⟨a1 ++ a2, .cons h1 h2, fun b hb => (List.mem_append.mp hb).elim (n1 b) (n2 b)⟩
theorem rp_non : Rp P w t H .non .none := fun _ _ _ _ u r => by cases (show u = Value.none from r); exact ⟨[], .none, fun _ z => nomatch z⟩
theorem rp_bl (b : Bool) : Rp P w t H (.bl b) (.bool b) := fun _ _ _ _ u r => by cases (show u = Value.bool b from r); exact ⟨[], .bool b, fun _ z => nomatch z⟩
theorem rp_int (i : Int) : Rp P w t H (.int i) (.int i) := fun _ _ _ _ u r => by obtain ⟨t, rfl⟩ := (show ∃ t, u = Value.int i t from r); exact ⟨[], .int i t, fun _ z => nomatch z⟩
theorem rp_str (x : Str) : Rp P w t H (.str x) (.str x) := fun _ _ _ _ u r => by obtain ⟨t, rfl⟩ := (show ∃ t, u = Value.str x t from r); exact ⟨[], .str x t, fun _ z => nomatch z⟩
theorem rp_lst (e : H a = some (.lst vs)) (nt : a ≠ t) (na : a ≠ sysModules) (r : RpL P w t H vs ds) : Rp P w t H (.ref a) (.list ds) := fun H' h s ok u ru => by
  cases (show u = Value.ref a from ru)
  obtain ⟨z, its, n, rv, ho⟩ : vs.length ≤ sizeLine ∧ ∃ (its : List Value) (n : Nat), Vals vs its ∧ h.get? a = some { cls := .type "list", data := .seq its.toArray n } := ok a _ (s _ _ nt e)
  obtain ⟨as, ra, nn⟩ := r.reads s ok rv
  exact ⟨a :: as, .list ho rfl rfl (by simpa using ra), fun b hb => (List.mem_cons.mp hb).elim (fun q => by rw [q]; exact na) (nn b)⟩
theorem rp_tup (e : H a = some (.tup vs)) (nt : a ≠ t) (r : RpL P w t H vs ds) : Rp P w t H (.ref a) (.tuple ds) := fun H' h s ok u ru => by
  cases (show u = Value.ref a from ru)
  obtain ⟨z, its, rv, o, ho, hc, n, hd⟩ : vs.length ≤ sizeLine ∧ ∃ its : List Value, Vals vs its ∧ IsTup h a its.toArray := ok a _ (s _ _ nt e)
  obtain ⟨as, ra, nn⟩ := r.reads s ok rv
  exact ⟨as, .tuple ho hc hd (by simpa using ra), nn⟩
theorem keys_vals {ws : List (Key × Value)} {es : List DictEntry} (rel : KV kvs ws) (pr : Pairs (mixKind P w) es ws) : Vals (kvs.map fun p => kV p.1) (es.map (·.key)) ∧ Vals (kvs.map (·.2)) (es.map (·.val)) := by
  unfold KV at rel
  induction rel generalizing es with
  | nil => cases pr; exact ⟨.nil, .nil⟩
  | @cons x y l1 l2 r tl ih =>
    cases pr with
    | @cons e kv es' _ hk hv ht =>
      obtain ⟨a1, a2⟩ := ih ht
      have k2 : keyIs y.1 e.key = true := hk
      refine ⟨.cons ?_ a1, .cons ?_ a2⟩
      · show RelV (kV x.1) e.key
        rw [r.1]
        rcases keyIs_shape k2 with ⟨i, t', e1, e2⟩ | ⟨x, t', e1, e2⟩
        · rw [e1, e2]; exact ⟨t', rfl⟩
        · rw [e1, e2]; exact ⟨t', rfl⟩
      · show RelV x.2 e.val
        rw [hv]
        exact r.2
theorem rp_dK (e : H a = some (.dK kvs)) (nt : a ≠ t) (rk : RpL P w t H (kvs.map fun p => kV p.1) ks) (rv : RpL P w t H (kvs.map (·.2)) ds) (hl : ks.length = ds.length) : Rp P w t H (.ref a) (.dict (ks.zip ds)) := fun H' h s ok u ru => by
  cases (show u = Value.ref a from ru)
  obtain ⟨z, na, ws, rel, o, es, ep, ho, hx, hd, _, hp, _⟩ : kvs.length ≤ sizeLine ∧ (a == sysModules) = false ∧ ∃ vs, KV kvs vs ∧ h.DictOf (mixKind P w) a vs := ok a _ (s _ _ nt e)
  obtain ⟨r1, r2⟩ := keys_vals rel hp
  obtain ⟨as, ra, na1⟩ := rk.reads s ok r1
  obtain ⟨bs, rb, nb1⟩ := rv.reads s ok r2
  refine ⟨a :: as ++ bs, .dict ho hx.1 hd ?_ ?_, fun b hb => ?_⟩
  · rw [List.map_fst_zip (Nat.le_of_eq hl)]; exact ra
  · rw [List.map_snd_zip (Nat.le_of_eq hl.symm)]; exact rb
  · rcases List.mem_append.mp hb with hb | hb
    · rcases List.mem_cons.mp hb with q | hb
      · rw [q]; exact beq_eq_false_iff_ne.mp na
      · exact na1 b hb
    · exact nb1 b hb
end
/-- repr(v) -/
def rRepr (P : Program) (w : World) : List V → Hp → VK → Prop := fun xs H Q => ∃ (t : Addr) (v : V) (d : PyData), xs = [v] ∧ Rp P w t H v d ∧ d.showable = true ∧ d.depth ≤ 50 ∧ d.shown.length ≤ sizeLine ∧ Q (.str d.shown) H
theorem call_repr {X : Cx} (hG : X.A.guards = some []) (hu : X.A.units + 64 < cLine) : CallR X (.builtin "repr") (rRepr X.prog X.w) := by
  intro pins s σ H xs us Q I r h
  obtain ⟨ta, v, d, rfl, rp, hs, hd, hz, q⟩ := h
  cases r with
  | cons rv rn =>
    rename_i u us'
    cases rn
    obtain ⟨as, rd, na⟩ := rp H s.heap (KeepBut.refl H) I.hok u rv
    cases u with
    | ref a =>
      refine repr_of_reads' rd hs (fun _ z => na _ z rfl) hG (by omega) (fun b o z => z) (fun h' t tk k => ?_) hz
      exact ⟨.str d.shown, H, I.kept k, ⟨_, rfl⟩, q⟩
    | none =>
      cases rd
      simp only [PyData.shown] at q
      exact PySem.P.repr_of_none ⟨.str "None", H, I.tok _, ⟨_, rfl⟩, q⟩
    | bool b =>
      cases rd
      simp only [PyData.shown] at q
      exact PySem.P.repr_of_bool ⟨.str (if b then "True" else "False"), H, I.tok _, ⟨_, rfl⟩, q⟩
    | int i t =>
      cases rd
      simp only [PyData.shown] at q
      have hs' : i.natAbs.log2 < 1920 := by simpa [PyData.showable] using hs
      exact PySem.P.repr_of_int hs' ⟨.str (toString i), H, I.tok _, ⟨_, rfl⟩, q⟩
    | str x t =>
      cases rd
      simp only [PyData.shown] at q hz
      exact PySem.P.repr_of_str ⟨.str (reprText x), H, I.tok _, ⟨_, rfl⟩, q⟩ hz
    | _ => cases rd
/-- [a, b, ..], not the table of modules -/
def tLstS (t : TA) : TE := fun σ H Q => t σ H fun xs H1 => xs.length ≤ sizeLine ∧ ∀ p, H1 p = none → p ≠ sysModules → Q (.ref p) (upd H1 p (.lst xs))
theorem pe_lstS {X : Cx} {es : List Expr} {t : TA} {pos : Pos} (h : PA X es t) : PE X (.List es pos) (tLstS t) := by
  refine ⟨fun pins s σ H Q I hq => ?_⟩
  refine wpAny_List_spliced (thn (h.run pos pins s σ H _ I hq) fun us s1 ⟨xs, H1, I1, r, z, q⟩ => ⟨by rw [← r.length]; exact z, ?_⟩)
  have hf : H1 s1.heap.objs.size = none := I1.hok.fresh (Nat.le_refl _)
  refine ⟨.ref s1.heap.objs.size, upd H1 s1.heap.objs.size (.lst xs), I1.laid (t' := s1.toks) (fun b u e => Heap.get?_push_of_some _ e) (Nat.le_refl _) ?_, rfl, q _ hf (Nat.ne_of_gt I1.big)⟩
  exact ⟨z, us, 0, r, Heap.get?_push_size _ rfl⟩
/-! ### a def that is called where nothing is being shown by repr -/
structure FnOkG (P : Program) (w : World) (K : PySem.W.Frag) (mg : Str → Option Value) (base : Heap) (CX : CXT) (k : Nat) (f : Addr) (fd : FuncData) (ps : List Str) (sp : Sp) : Prop where
  len : ∀ vs H Q E, sp vs H Q E → vs.length = ps.length
  run : ∀ (A : Around) (outer : List Env) (s : Shared) (H : Hp) (args : Args) (us : List Value) (vs : List V) (Q : VK) (E : XK), A.guards = some [] → Room k A → Env0 P w K mg base A outer s H → BindsTo s fd args (ps.zip us) → Vals vs us → sp vs H Q E →
    codeAny (model P w) A (.call (.ref f) args) (CR CX outer P w H s Q E) s
theorem FunD.okG {P : Program} {w : World} {K : PySem.W.Frag} {mg : Str → Option Value} {base : Heap} {x qual : Str} {params : Arguments} {body : List Stmt} {scope : Scope} {dvs : List V} {kws : List (Str × V)} {f : Addr} {fd : FuncData} {CX : CXT} {N ps : List Str} {k : Nat} {sp : Sp}
    (F : FunD K x qual params body scope dvs kws f fd) (S : FnScope N ps scope) (len : ∀ vs H Q E, sp vs H Q E → vs.length = ps.length)
    (hbody : ∀ (cdv : Value) (A : Around) (outer : List Env) (s : Shared) (H : Hp) (vs : List V) (Q : VK) (E : XK), A.guards = some [] → Room k (A.deeper (envOfC qual scope s.heap.objs.size f cdv)) → sp vs H Q E →
      ∃ t, PSs (cxOf CX P w K mg base N qual scope f cdv A outer s H E) body t ∧ t { nx := fun _ H' => Q .non H', rt := Q } (start N vs) H) : FnOkG P w K mg base CX (k + 1) f fd ps sp := by
  obtain ⟨oc, od, dV, kV, doc, pm, an, cdv, ct, osl, rfl, lk, hcd, _, _⟩ := F.ex
  refine ⟨len, fun A outer s H args us vs Q E hG hr e0 hb r hsp => ?_⟩
  have KX : K.In s.heap := e0.mod.kin.keeps fun b o e => (e0.bs b o e).1
  have lim : s.heap.NoLimit := e0.mod.nolimit.keeps fun b o e => (e0.bs b o e).1
  have kinds : ∀ y ∈ ps.zip us, scope.names.lookup y.1 = some .local ∨ (scope.names.lookup y.1 = some .cell ∧ ((cellsFrom (s.heap.objs.size + 1) scope.names []).lookup y.1).isSome = true) := fun ⟨n, v⟩ hy =>
    (S.par n (List.of_mem_zip hy).1).elim .inl fun q => .inr ⟨q, PySem.W.cellsFrom_some _ _ _ (.inl q)⟩
  refine codeAny_call_function hr.depth (KX _ _ lk) rfl S.co S.gen rfl (PySem.W.codeRec_of KX hcd) (hb _ _ _ _ ?_)
  refine wpAny_newFunctionEnv_cells S.kind kinds fun env he s1 x => ?_
  subst he
  refine ⟨lim.keeps x.toInCall.keep, codeAny_func ?_⟩
  obtain ⟨t, ht, hq⟩ := hbody cdv A outer s H vs Q E hG (hr.deeper _) hsp
  have I : Inv (cxOf CX P w K mg base N qual scope f cdv A outer s H E) [] (start N vs) H s1 := inv_start S hr.hd e0 (len _ _ _ _ hsp) r x
  refine wpAny_mono (ht.run [] s1 (start N vs) H _ I hq) (fun fl s' hs => ?_) fun e s' hs => hs
  cases fl with
  | ret u =>
    obtain ⟨v, σ', H', J, rv, q⟩ := hs
    exact ⟨v, H', J.os, J.bare, J.base, J.hok, rv, q⟩
  | next =>
    obtain ⟨σ', H', J, q⟩ := hs
    exact ⟨V.non, H', J.os, J.bare, J.base, J.hok, rfl, q⟩
  | brk =>
    obtain ⟨_, _, _, q⟩ := hs
    exact False.elim q
  | cont =>
    obtain ⟨_, _, _, q⟩ := hs
    exact False.elim q
section
variable {X : Cx} {CX : CXT} {k : Nat} {f : Addr} {fd : FuncData} {ps : List Str} {sp : Sp} {dvs : List V} {ds : List Value} {E : XK} {x : Str} {p pos : Pos} {e : Expr} {es : List Expr} {t : TA}
theorem pe_callG (F : FnOkG X.prog X.w X.K X.mg X.base CX k f fd ps sp) (hG : X.A.guards = some []) (hr : Room k X.A) (hg : Gl X x) (hm : X.mg x = some (.ref f)) (hk : PySem.W.keepIn X.K (.ref f) = true) (hb : Binds X.K fd ps ds) (hd : Vals dvs ds) (hx : Passes CX X E)
    (ha : PA X (e :: es) t) (hdb : (x == ("__debug__" : Str)) = false := by decide) (he : starEach (e :: es) X.env = (false, eval e X.env) :: starEach es X.env := by rfl) (hpl : (backTo pos (starEach es X.env)).any (·.1) = false := by rfl) :
    PE X (.Call (.Name x p) (e :: es) [] pos) (tCall sp dvs E t) := by
  refine ⟨fun pins s σ H Q I h => ?_⟩
  refine wpAny_Call_Name_kw (ld_glob I hg hm ?_ hdb)
  refine PySem.W.callWith_K (h₀ := X.base) I.ok.mod.kin hk (thn (ha.run pos pins s σ H _ I h) fun us s1 ⟨vs, H1, I1, r, q⟩ => ⟨I1.kIn, ?_⟩) he hpl
  show wpAny _ _ (call (.ref f) us) _ _ _
  have r2 : Vals (vs ++ dvs) (us ++ ds) := r.append hd
  have hl : (us ++ ds).length = ps.length := by rw [← r2.length]; exact F.len _ _ _ _ q
  refine wpAny_call (codeAny_mono (F.run X.A X.stack s1 H1 ⟨us, []⟩ (us ++ ds) (vs ++ dvs) Q E hG hr I1.env0 (hb s1 us I1.kIn hl) r2 q) fun rr s' hq => ?_)
  cases rr with
  | error e => exact hx pins σ H1 s1 e s' I1 hq
  | ok fl =>
    cases fl with
    | ret u => exact I1.after hq
    | next => exact False.elim hq
    | brk => exact False.elim hq
    | cont => exact False.elim hq
end
/-- a law's end -/
theorem law_callG {P : Program} {w : World} {K : PySem.W.Frag} {mg mb : Str → Option Value} {k : Nat} {fa a : Addr} {fd : FuncData} {x : Str} {sp : Sp} {s₁ : Shared} {vs : List Value} {ns : List Int}
    (KX : K.In s₁.heap) (hns : s₁.heap.Ns mainGlobals mg) (hb : s₁.heap.Ns builtinsNs mb) (hbb : ∀ x : Str, x ≠ "__name__" → mb x = bootBuiltins x) (hlim : s₁.heap.NoLimit) (hg : s₁.gens = #[])
    (ha : s₁.heap.get? a = some { cls := .type "list", data := .seq vs.toArray }) (hi : IntsAre vs ns) (hl : ns.length ≤ sizeLine) (hr : Room k callerA)
    (F : ∀ base : Heap, K.In base → base.Ns mainGlobals mg → FnOkG P w K mg base CX0 k fa fd [x] sp) (hbind : ∀ (s : Shared) (u : Value), BindsTo s fd ⟨[u], []⟩ [(x, u)])
    (hsp : ∀ H : Hp, Only H → SqL K H a (ns.map V.int) → sp [.ref a] H (fun v _ => v = .bl true) fun _ _ _ => False) :
    codeAny (model P w) callerA (.call (.ref fa) ⟨[.ref a], []⟩) (fun r s' => r = .ok (.ret (.bool true)) ∧ OldK s₁.heap s'.heap ∧ s'.os = s₁.os ∧ AllBare s'.gens) s₁ := by
  have rv := vals_ints hi
  have lenV := hi.length
  -- the heap at the entry: the script alone is tracked, where the written part does not hold it
  have main : ∀ H : Hp, Only H → SqL K H a (ns.map V.int) → HOk P w H s₁.heap → (∀ b, H b ≠ none → b = a) → (H a ≠ none → K.lookup a = none) →
      codeAny (model P w) callerA (.call (.ref fa) ⟨[.ref a], []⟩) (fun r s' => r = .ok (.ret (.bool true)) ∧ OldK s₁.heap s'.heap ∧ s'.os = s₁.os ∧ AllBare s'.gens) s₁ := by
    intro H hO hS hok hA hK
    have isA : ∀ {b : Addr} {u : HO}, H b = some u → b = a := fun {b u} q => hA b (by rw [q]; exact fun z => nomatch z)
    have noA : ∀ {b : Addr} {o : Obj} {es : Array DictEntry} {ep : Nat}, s₁.heap.get? b = some o → o.data = .dict es ep → H b = none := fun {b o es ep} e d => by
      cases q : H b with
      | none => rfl
      | some u =>
        have z := isA q
        subst z
        rw [ha] at e; cases e
        exact nomatch (show Data.seq vs.toArray _ = Data.dict es ep from d)
    have nsK : ∀ {b : Addr} {m : Str → Option Value}, s₁.heap.Ns b m → (hidT s₁.heap H).Ns b m := fun {b m} ⟨o, es, ep, e, d, r⟩ => ⟨o, es, ep, hidT_get e (noA e d), d, r⟩
    have hKb : K.In (hidT s₁.heap H) := fun b o e => hidT_get (KX b o e) (by
      cases q : H b with
      | none => rfl
      | some u =>
        have z := isA q
        subst z
        rw [hK (by rw [q]; exact fun z => nomatch z)] at e; cases e)
    have hM : Mod K mg (hidT s₁.heap H) := ⟨hKb, nsK hns, ⟨mb, nsK hb, hbb⟩, let ⟨mc, h1, h2⟩ := hlim; ⟨mc, nsK h1, h2⟩⟩
    have e0 : Env0 P w K mg (hidT s₁.heap H) callerA [] s₁ H := ⟨rfl, hM, fun b o e => of_hidT e, Nat.le_of_eq (hidT_size _ _), trivial, fun b hb => absurd (show b ∈ ([] : List Addr) from hb) (by simp), hok, .of_eq hg⟩
    refine codeAny_mono ((F _ hKb (nsK hns)).run callerA [] s₁ H ⟨[.ref a], []⟩ [.ref a] [.ref a] _ _ rfl hr e0 (hbind s₁ (.ref a)) (.cons rfl .nil) (hsp H hO hS)) fun r s' h => ?_
    cases r with
    | error e => exact False.elim h
    | ok fl =>
      cases fl with
      | next => exact False.elim h
      | brk => exact False.elim h
      | cont => exact False.elim h
      | ret u =>
        obtain ⟨v, H', os, bare, un, hok', r', q⟩ := h
        have q' : v = .bl true := q
        subst q'
        obtain rfl : u = Value.bool true := r'
        refine ⟨rfl, OldK.of_keep fun b o e => ?_, os, bare⟩
        cases q : H b with
        | none => exact un.keep b o e q (fun z => absurd (show b ∈ ([] : List Addr) from z) (by simp)) (by simp)
        | some u =>
          rcases hO b with z | ⟨ob, xs, z⟩
          · rw [q] at z; cases z
          · obtain ⟨e1, _⟩ := hok b _ z
            obtain ⟨e2, _⟩ := hok' b _ (un.frzs b ob _ z)
            rw [e] at e1; cases e1
            exact e2
  cases hk : K.lookup a with
  | some o =>
    have e := KX a o hk
    rw [ha] at e
    cases e
    exact main (fun _ => none) (fun _ => .inl rfl) (.inr ⟨_, vs.toArray, _, hk, rfl, rfl, rfl, by rw [List.size_toArray, lenV]; exact hl, by simpa using rv⟩) (fun b u z => nomatch (show (none : Option HO) = some u from z)) (fun b z => absurd rfl z) fun z => absurd rfl z
  | none =>
    have ⟨H, at_, off⟩ : ∃ H : Hp, (∀ b, b = a → H b = some (HO.frz { cls := .type "list", data := .seq vs.toArray } (.lst (ns.map V.int)))) ∧ ∀ b, b ≠ a → H b = none :=
      ⟨fun c => if c = a then some (HO.frz { cls := .type "list", data := .seq vs.toArray } (.lst (ns.map V.int))) else none, fun b z => if_pos z, fun b z => if_neg z⟩
    refine main H (fun b => ?_) (.inl (.inr ⟨_, at_ a rfl⟩)) (fun b u z => ?_) (fun b z => ?_) fun _ => hk
    · by_cases hb : b = a
      · exact .inr ⟨_, _, at_ b hb⟩
      · exact .inl (off b hb)
    · by_cases hb : b = a
      · have z2 := (at_ b hb).symm.trans z
        cases z2
        subst hb
        exact ⟨ha, by rw [List.length_map]; exact hl, vs, _, rv, ha⟩
      · have z2 := (off b hb).symm.trans z
        cases z2
    · by_cases hb : b = a
      · exact hb
      · exact absurd (off b hb) z
end L2
namespace L2
open PySem PySem.Spec PyProof.Rows
/-! ### what the written part tells of an own error's class, as a Bool -/
def oexB (K : PySem.W.Frag) (C : Addr) : Bool := match K.lookup C with
  | some ⟨.type "type", _, .cls cd, sl⟩ => (match cd.mro, sl.toList with
    | .ref C' :: bm, [_, _, _, _, some (.builtin n), _] => C' == C && n == "ValueError.__new__" && !cd.hasDel && cd.hasDict && PySem.HandSPX.refsVE bm
    | _, _ => false)
  | _ => false
theorem oexB_ok {K : PySem.W.Frag} {C : Addr} (h : oexB K C = true) : ∃ nm q N bs bm sn sub ab col dd k0 k1 k2 k3 k5,
    K.lookup C = some (excClassObj nm q C N bs bm true sn sub ab col dd k0 k1 k2 k3 k5 "ValueError.__new__") ∧ PySem.HandSPX.refsVE bm = true := by
  unfold oexB at h
  split at h
  · rename_i dd cd sl ho
    split at h
    · rename_i C' bm k0 k1 k2 k3 n k5 hm hs
      simp only [Bool.and_eq_true, beq_iff_eq, Bool.not_eq_true'] at h
      obtain ⟨⟨⟨⟨rfl, rfl⟩, hdel⟩, hd⟩, ht⟩ := h
      obtain ⟨nm, bs, mro, ns, qn, hdct, sn, sub, ab, col, del⟩ := cd
      dsimp only at hm hdel hd
      subst hm hdel hd
      have hsl : sl = #[k0, k1, k2, k3, some (.builtin "ValueError.__new__"), k5] := by
        obtain ⟨l⟩ := sl
        simp only at hs
        rw [hs]
      subst hsl
      exact ⟨nm, qn, ns, bs, bm, sn, sub, ab, col, dd, k0, k1, k2, k3, k5, ho, ht⟩
    · cases h
  · cases h
def errB (x : Str) (ks : List Str) (K : PySem.W.Frag) : Bool :=
  oexB K (He.ga K x) && (He.eqO (PySem.W.nsIn K mainGlobals x) (some (some (.ref (He.ga K x)))) && (He.eqO (PySem.W.findIn K (.ref (He.ga K x)) "__setattr__") (some (some (.builtin "object.__setattr__"))) &&
  (decide (PySem.W.subIn K (.ref (He.ga K x)) (.type "BaseException") = some true) && (decide (PySem.W.typeIn K (.ref (He.ga K x)) = some (.type "type")) && (PySem.W.keepIn K (.ref (He.ga K x)) &&
  (He.eqO (PySem.W.findIn K (.ref (He.ga K x)) "__init__") (some (some (.ref (He.ma K (He.ga K x) "__init__")))) && (decide (PySem.W.typeIn K (.ref (He.ma K (He.ga K x) "__init__")) = some (.type "function")) &&
  ((ks.all fun f => He.eqO (PySem.W.findIn K (.ref (He.ga K x)) f) (some none)) && (xfB K (He.ga K x) &&
  (He.eqO (PySem.W.findIn K (.ref (He.ga K x)) "__class__") (some (some (.builtin "object.__class__"))) && (He.eqO (PySem.W.specialIn K (.builtin "object.__class__") "__get__") (some (some (.builtin "getset_descriptor.__get__"))) &&
  (decide (PySem.W.takesIn K (.builtin "object.__class__") = some true) && decide (PySem.W.mroIn K (He.ga K x) (.type "object") = some true)))))))))))))
theorem errB_ok {K : PySem.W.Frag} {x : Str} {ks : List Str} (h : errB x ks K = true) : ErrC K (He.ga K x) (He.ma K (He.ga K x) "__init__") ks ∧ (He.Fa.glo x).ok K = true := by
  unfold errB at h
  simp only [Bool.and_eq_true] at h
  obtain ⟨h1, h2, h3, h4, h5, h6, h7, h8, h9, h10, h11, h12, h13, h14⟩ := h
  have X := xfB_ok h10
  refine ⟨⟨⟨oexB_ok h1, He.eqO_ok h3, of_decide_eq_true h4, of_decide_eq_true h5, h6⟩, He.eqO_ok h7, of_decide_eq_true h8, fun f hf => He.eqO_ok (List.all_eq_true.mp h9 f hf), X, ⟨X.ga, X.gg, X.exC, X.hdC, He.eqO_ok h11, He.eqO_ok h12, of_decide_eq_true h13, of_decide_eq_true h14⟩⟩, h2⟩
/-! ### a Hook with Bools of one's own -/
def hookX (n : Nat) (fa : List He.Fa) (fn : List He.DefD) (fx : List (PySem.W.Frag → Bool)) : PySem.W.Hook where
  α := He.AlD × Bool
  obs := fun s => (He.obsDG n fa fn s.heap.get?, fx.all fun f => f (He.frG s.heap.get? (He.asD s.heap.get? n)))
  val := fun _ => (He.valD fn, true)
  says := fun _ h => ∃ K : PySem.W.Frag, K.In h ∧ He.SaysD fa fn K ∧ (fx.all fun f => f K) = true
  of := fun _ _ e => ⟨_, He.frG_in, (Prod.mk.inj e).1, (Prod.mk.inj e).2⟩
  keeps := fun _ _ _ ⟨K, hK, c⟩ k => ⟨K, PySem.W.Frag.In.keeps hK k, c⟩
def obX (n : Nat) (fa : List He.Fa) (fn : List He.DefD) (fx : List (PySem.W.Frag → Bool)) (s : PySem.W.SharedT) : He.AlD × Bool :=
  (He.obsDG n fa fn (HandSHeadRun.getT s), fx.all fun f => f (He.frG (HandSHeadRun.getT s) (He.asD (HandSHeadRun.getT s) n)))
theorem obX_eq (n : Nat) (fa : List He.Fa) (fn : List He.DefD) (fx : List (PySem.W.Frag → Bool)) (s : PySem.W.SharedT) : obX n fa fn fx s = (hookX n fa fn fx).obs s.abs := by
  have e : HandSHeadRun.getT s = s.abs.heap.get? := funext fun a => HandSHeadRun.getT_eq s a
  unfold obX
  rw [e] <;> rfl
end L2
namespace L2
open PySem PySem.Spec PyProof.Rows PySem.W
/-! ### tuple(d) of a dict: what list(d) goes over, collected for a tuple -/
section
variable {prog : Program} {w : World} {A : Around} {E : Value → Shared → Prop} {s : Shared} {T : String} {r d : Addr} {n : Nat} {P : Nat → Value → Prop} {OK : Heap → Prop}
theorem collect_src {Q : List Value → Shared → Prop} (K : KdlSrc prog w T r d n P OK) (hh : A.handled = none) (hok : OK s.heap) (hn : n ≤ sizeLine)
    (hQ : ∀ (h1 : Heap) (tk : Nat) (us : Array Value), (∀ b o, s.heap.get? b = some o → h1.get? b = some o) → ItemsOf P us n → Q us.toList { s with heap := h1, toks := tk }) : wpAny (model prog w) A (collect (.ref r)) Q E s := by
  have lt := K.there _ hok
  have new : (s.heap.push { cls := .type "list", data := .seq ([] : List Value).toArray }).get? s.heap.objs.size = some { cls := .type "list", data := .seq #[] 0 } := Heap.get?_push_size _ rfl
  have ok2 : OK (s.heap.push { cls := .type "list", data := .seq ([] : List Value).toArray }) := K.keep _ _ hok fun b _ o e => Heap.get?_push_of_some _ e
  unfold collect
  apply wpAny_bind
  apply wpAny_runValue
  apply codeAny_builtin F.entry_proto_collect
  rw [Around.under_plainId F.plain_proto_collect _]
  show wpAny _ A.in1 (do let l ← newList []; again (.builtin "list.__iadd__" ⟨[l, .ref r], []⟩)) _ _ s
  apply wpAny_bind
  refine wpAny_newObj_type ?_
  apply wpAny_pure
  refine ⟨plainId_quiet F.plain_list_iadd _, ?_⟩
  apply codeAny_builtin F.entry_list_iadd
  rw [Around.under_plainId F.plain_list_iadd _]
  have main := kdl_extend (A := A) (s := { s with heap := s.heap.push { cls := .type "list", data := .seq ([] : List Value).toArray } }) (R := fun rr s2 => rr = .ok (.ret (.ref s.heap.objs.size)) ∧ ∃ (h1 : Heap) (tk : Nat) (us : Array Value) (c1 : Nat), s2 = { s with heap := h1, toks := tk } ∧
      (∀ b o, s.heap.get? b = some o → h1.get? b = some o) ∧ h1.get? s.heap.objs.size = some { cls := .type "list", dict := none, data := .seq us c1, slots := #[] } ∧ ItemsOf P us n) K hh ok2 s.heap.objs.size (Nat.ne_of_gt lt.1) (Nat.ne_of_gt lt.2) (.ref s.heap.objs.size) 0 new
    (fun h1 tk us c1 kp e hi => ⟨rfl, h1, tk, us, c1, rfl, fun b o q => kp b o (Nat.ne_of_lt (Heap.lt_size q)) (Heap.get?_push_of_some _ q), e, hi⟩) hn
  refine wpAny_mono main (fun fin s2 h => ?_) (fun e s2 h => ?_)
  · have fin_ : ∀ {rr : Result} {s3 : Shared}, (rr = .ok (.ret (.ref s.heap.objs.size)) ∧ ∃ (h1 : Heap) (tk : Nat) (us : Array Value) (c1 : Nat), s3 = { s with heap := h1, toks := tk } ∧
        (∀ b o, s.heap.get? b = some o → h1.get? b = some o) ∧ h1.get? s.heap.objs.size = some { cls := .type "list", dict := none, data := .seq us c1, slots := #[] } ∧ ItemsOf P us n) →
        ∃ us : Array Value, rr = .ok (.ret (.ref s.heap.objs.size)) ∧ ∃ c1, s3.heap.get? s.heap.objs.size = some { cls := .type "list", dict := none, data := .seq us c1, slots := #[] } ∧ Q us.toList s3 := fun {rr s3} z => by
      obtain ⟨e, h1, tk, us, c1, e2, kp, hS, hi⟩ := z
      subst e2
      exact ⟨us, e, c1, hS, hQ h1 tk us kp hi⟩
    cases fin with
    | done f =>
      obtain ⟨us, e, c1, hS, q⟩ := fin_ h
      cases e
      show wpAny _ A (load s.heap.objs.size >>= _) _ _ _
      exact wpAny_bind (wpAny_load hS (wpAny_pure q))
    | again c' =>
      refine ⟨h.1, codeAny_mono h.2 fun rr s3 h3 => ?_⟩
      obtain ⟨us, e, c1, hS, q⟩ := fin_ h3
      subst e
      show wpAny _ A (load s.heap.objs.size >>= _) _ _ _
      exact wpAny_bind (wpAny_load hS (wpAny_pure q))
  · exact absurd h.1 (by simp)
theorem tupnew_src {Q₁ : Value → Shared → Prop} (K : KdlSrc prog w T r d n P OK) (hh : A.handled = none) (hok : OK s.heap) (hn : n ≤ sizeLine)
    (h : ∀ (h1 : Heap) (tk : Nat) (us : Array Value), (∀ b o, s.heap.get? b = some o → h1.get? b = some o) → ItemsOf P us n → Q₁ (.ref h1.objs.size) { s with heap := h1.push { cls := .type "tuple", data := .seq us }, toks := tk }) :
    codeAny (model prog w) A (.call (.builtin "tuple.__new__") ⟨[.type "tuple", .ref r], []⟩) (wants Q₁ E) s := by
  apply codeAny_of_tree
  show wpAny _ A.in1 (do checkBuiltinCall "tuple.__new__" ⟨[.type "tuple", .ref r], []⟩; again (.builtin "tuple.__new__" ⟨[.type "tuple", .ref r], []⟩)) _ _ s
  refine wpAny_bind (wpAny_of_eq (F.newCall_tuple_1 _) (wpAny_pure ⟨plainId_quiet F.plain_tuple_new _, codeAny_builtin F.entry_tuple_new ?_⟩))
  rw [Around.under_plainId F.plain_tuple_new _]
  have a1 := sub_tuple_self
  have a2 := init_tuple_lookup
  have a3 := madeHere_tuple
  have a4 := K.type s hok
  have a5 := K.notTuple
  have hh1 : A.in1.handled = none := hh
  wp_walk using wpAny_typeOf a4, collect_src (A := A.in1) K hh1 hok hn
  intro h1 tk us kp hi
  show wpAny _ _ (do let v ← Builtin.Tuple.tupleExact us.toList.toArray; ret v) _ _ _
  unfold Builtin.Tuple.tupleExact
  rw [show us.toList.toArray = us by simp]
  apply wpAny_bind
  refine wpAny_newObj_type ?_ (by show us.size ≤ sizeLine; rw [hi.1]; exact hn)
  apply wpAny_pure
  exact h h1 tk us kp hi
theorem tuple_src {Q : Value → Shared → Prop} (K : KdlSrc prog w T r d n P OK) (hh : A.handled = none) (hok : OK s.heap) (hn : n ≤ sizeLine)
    (h : ∀ (h1 : Heap) (tk : Nat) (us : Array Value), (∀ b o, s.heap.get? b = some o → h1.get? b = some o) → ItemsOf P us n → Q (.ref h1.objs.size) { s with heap := h1.push { cls := .type "tuple", data := .seq us }, toks := tk }) :
    wpAny (model prog w) A (call (.type "tuple") [.ref r]) Q E s := by
  refine callType_codes (Q₁ := fun obj s1 => s1.TypeIs obj "tuple" ∧ Q obj s1) F.called_tuple (F.typeCall_tuple_1 _) F.entry_object_init
    (tupnew_src (A := A.in1) K hh hok hn fun h1 tk us kp hi => ⟨⟨_, Heap.get?_push_size _ rfl, rfl⟩, h h1 tk us kp hi⟩) fun obj s1 z => ?_
  exact ⟨z.1, F.args_object_init_2 obj _, object_init_meets F.called_tuple.init.lookup F.called_tuple.made (by decide) prog w A.in1 _ s1 ⟨z.1, rfl, z.2⟩⟩
end
def rTupD : List V → Hp → VK → Prop := fun xs H Q => ∃ p kvs, xs = [.ref p] ∧ H p = some (.dK kvs) ∧ ∀ q, H q = none → Q (.ref q) (upd H q (.tup (kvs.map fun kv => kV kv.1)))
/-- tuple(d), d's keys ints and texts -/
theorem call_tuple_dK {X : Cx} (hc : X.calm = true) : CallR X (.type "tuple") rTupD := by
  intro pins s σ H xs us Q I r h
  obtain ⟨p, kvs, rfl, hk, q⟩ := h
  obtain ⟨u, rfl, rx⟩ := vals1 r
  obtain rfl : u = Value.ref p := rx
  obtain ⟨z, lo, vs, rk, hd⟩ := (show ObjOk X.prog X.w H s.heap p (.dK kvs) from I.hok p _ hk)
  obtain ⟨ep, at_⟩ := hd.dictAt
  have hl : kvs.length = vs.length := Paired.length rk
  have hz : vs.length ≤ sizeLine := by rw [← hl]; exact z
  refine tuple_src (kdl_dict (knd := mixKind X.prog X.w) (kvs := vs) (ep := ep) lo) (I.ok.hd hc) at_ hz fun h1 tk acc kp hi => ?_
  have I1 : Inv X pins σ H { s with heap := h1, toks := tk } := I.kept kp
  have key : Vals (kvs.map fun kv => kV kv.1) acc.toList := by
    have el : acc.toList.length = acc.size := by simp
    refine vals_of_at (by rw [List.length_map, el, hi.1, hl]) fun j x w' e1 e2 => ?_
    obtain ⟨k, y, hky, isk⟩ := hi.2 j w' (by rw [← Array.getElem?_toList]; exact e2)
    have ek : (kvs.map (·.1))[j]? = some k := by
      rw [KV.keys rk, List.getElem?_map, hky]
      rfl
    rw [List.getElem?_map] at ek e1
    obtain ⟨kv, ekv, rfl⟩ := Option.map_eq_some_iff.mp ek
    rw [ekv] at e1
    cases e1
    exact keyIs_rel isk
  refine ⟨.ref h1.objs.size, upd H h1.objs.size (.tup (kvs.map fun kv => kV kv.1)), I1.laid (t' := tk) (fun b o e => Heap.get?_push_of_some _ e) (Nat.le_refl _) (show ObjOk X.prog X.w _ _ _ (.tup (kvs.map fun kv => kV kv.1)) from ⟨by rw [List.length_map]; exact z, acc.toList, key, ?_⟩), rfl, q _ (I1.hok.fresh (Nat.le_refl _))⟩
  have e : acc.toList.toArray = acc := by simp
  rw [e]
  exact IsTup.new _ _
end L2
namespace L2
open PySem PySem.Spec PyProof.Rows
/-! ### a dict comprehension over any walk -/
/-- what the walk of a dict comprehension asks of one turn -/
def DcTurn (g : TG) (tt : TT) (tk tv : TE) (vs : List Nat) (σ : St) (D : Addr) (x : V) (H : Hp) (Pnx : Hp → Prop) : Prop :=
  g x (wipe σ vs) H fun σ2 H2 => wipe σ2 vs = wipe σ vs ∧ tt σ2 H2 fun b H3 =>
    if b = true then tk σ2 H3 fun y H4 => tv σ2 H4 fun z H5 => ∃ kvs k, y = kV k ∧ H5 D = some (.dK kvs) ∧ kvs.length < sizeLine ∧ Pnx (upd H5 D (.dK (putK kvs k z))) else Pnx H3
theorem dc_it {J : It} {n : Nat} {G : Hp → Prop} {Y : Nat → Hp → V → Hp → Prop} (w : Walk J n G Y) {g : TG} {tt : TT} {tk tv : TE} {vs : List Nat} {σ : St} {H1 : Hp} {D : Addr} {Qd : Hp → Prop} (Pv : Nat → Hp → Prop)
    (h0 : Pv 0 (upd H1 D (.dK []))) (hG : ∀ i H, i ≤ n → Pv i H → G H) (hs : ∀ i x H H', i < n → Pv i H → Y i H x H' → DcTurn g tt tk tv vs σ D x H' (Pv (i + 1))) (hd : ∀ H, Pv n H → Qd H) :
    ∃ W : Nat → Nat → Hp → Prop, (∃ m, W 0 m (upd H1 D (.dK []))) ∧ ∀ i m H, W i m H →
      (J.stop i H ∧ Qd H) ∨ (J.go i H ∧ ∃ Nx : Hp → Prop, (∀ H', Nx H' → ∃ m', m' < m ∧ W (i + 1) m' H') ∧ ∀ x H', J.yld i H x H' → g x (wipe σ vs) H' fun σ2 H2 => wipe σ2 vs = wipe σ vs ∧ tt σ2 H2 fun b H3 =>
        if b = true then tk σ2 H3 fun y H4 => tv σ2 H4 fun z H5 => ∃ kvs k, y = kV k ∧ H5 D = some (.dK kvs) ∧ kvs.length < sizeLine ∧ Nx (upd H5 D (.dK (putK kvs k z))) else Nx H3) := by
  refine ⟨fun i m H => m + i = n ∧ Pv i H, ⟨n, Nat.add_zero n, h0⟩, ?_⟩
  rintro i m H ⟨e, p⟩
  have q := hG i H (by omega) p
  by_cases lt : i < n
  · exact .inr ⟨w.goes i H lt q, Pv (i + 1), fun H' p' => ⟨n - (i + 1), by omega, by omega, p'⟩, fun x H' y => hs i x H H' lt p (w.yields i H x H' lt q y)⟩
  · obtain rfl : i = n := by omega
    exact .inl ⟨w.stops H q, hd H p⟩
end L2
namespace L2
open PySem PySem.Spec PyProof.Rows ClX
/-- C.m is a staticmethod: its record at p, its def at g -/
structure SMet (K : PySem.W.Frag) (C : Addr) (mc : Value) (m : Str) (p g : Addr) : Prop where
  at_ : PySem.W.findCls K (.ref C) mc m = some (.get (.builtin "staticmethod.__get__") (.ref p) .none (.ref C))
  rc : ∃ rest, PySem.W.recIn K p "staticmethod" = some (.ref g :: rest)
  kp : PySem.W.keepIn K (.ref g) = true
section
variable {X : Cx} {pins : List (Addr × Obj)} {σ : L2.St} {H : Hp} {s : Shared} {C p g : Addr} {mc : Value} {m : Str} {A : Around} {E : Value → Shared → Prop}
theorem getsm_ok {pl : Sem Bool} {Q : Value × List Value → Shared → Prop} (I : Inv X pins σ H s) (r : CRead X.K C mc) (k : SMet X.K C mc m p g) (h : ∀ s', Inv X pins σ H s' → Q (.ref g, []) s') : wpAny (model X.prog X.w) A (getMethod (.ref C) m pl) Q E s := by
  obtain ⟨rest, hp⟩ := k.rc
  refine PySem.W.method_cls I.kIn r.ga (PySem.W.cls_bind I.kIn r.rd k.at_ ?_)
  refine wpAny_call (PySem.W.sm_get (s := { s with toks := s.toks + 1 }) I.kIn hp (PySem.W.handed_on rfl ?_))
  exact h _ (I.tok _)
end
/-- C.m(e, ..), m a staticmethod -/
def tSMeth (C : Addr) (sp : Sp) (E : XK) (ta : TE) (t : TA) : TE := fun σ H Q => ta σ H fun x H1 => x = .ref C ∧ t σ H1 fun vs H2 => sp vs H2 Q E
theorem pe_smeth {X : Cx} {CX : CXT} {k : Nat} {C p f : Addr} {mc : Value} {fd : FuncData} {ps : List Str} {sp : Sp} {E : XK} {o e : Expr} {es : List Expr} {m : Str} {pos apos : Pos} {ta : TE} {t : TA} {pl : Sem Bool}
    (he : PE X o ta) (r : CRead X.K C mc) (c : SMet X.K C mc m p f) (F : FnOk X.prog X.w X.K X.mg X.base CX k f fd ps sp) (hr : Room k X.A) (hb : Binds X.K fd ps []) (hx : Passes CX X E) (ha : PA X (e :: es) t)
    (hst : starEach (e :: es) X.env = (false, eval e X.env) :: starEach es X.env := by rfl) (hpl : (backTo pos (starEach es X.env)).any (·.1) = false := by rfl)
    (ht : eval (.Call (.Attribute o m apos) (e :: es) [] pos) X.env = (do
      let ov ← eval o X.env
      standAt apos.atName
      let (f, first) ← holding [ov] (getMethod ov m pl)
      callWith pos f first (backTo pos (starEach (e :: es) X.env)) (backToKw pos (keywordEach [] X.env))) := by rfl) :
    PE X (.Call (.Attribute o m apos) (e :: es) [] pos) (tSMeth C sp E ta t) := by
  refine ⟨fun pins s σ H Q I h => ?_⟩
  refine PySem.W.methodCall_KW (pl := pl) (thn (he.run pins s σ H _ I h) fun u s1 ⟨x, H1, I1, rx, ex, q⟩ => ?_) ht
  subst ex
  obtain rfl : u = Value.ref C := rx
  refine getsm_ok I1 r c fun s2 I2 => ?_
  refine PySem.W.callWith_K (first := []) (h₀ := X.base) I.ok.mod.kin c.kp (thn (ha.run pos pins s2 σ H1 _ I2 q) fun us s3 ⟨vs, H2, I3, rv, q2⟩ => ⟨I3.kIn, ?_⟩) hst hpl
  exact run_fn (dvs := []) F hr hb .nil hx I3 rv (by rw [List.append_nil]; exact q2)
end L2
namespace L2
open PySem PySem.Spec PyProof.Rows
/-! ### operators that an own class answers -/
/-- a class's own method by its special name -/
structure OwnM (K : PySem.W.Frag) (C : Addr) (name : Str) (f : Addr) : Prop where
  at_ : PySem.W.findIn K (.ref C) name = some (some (.ref f))
  fn : PySem.W.isFn K (.ref f) = true
/-- a is an instance of the class at C -/
def InsAt (H : Hp) (a C : Addr) : Prop := ∃ dx fs, H a = some (.ins C dx fs)
theorem InsAt.inst {X : Cx} {pins : List (Addr × Obj)} {σ : St} {H : Hp} {s : Shared} {a C : Addr} (h : InsAt H a C) (I : Inv X pins σ H s) : ∃ ox od, PySem.W.InstAt s.heap a ox C od := by
  obtain ⟨dx, fs, e⟩ := h
  obtain ⟨mA, J, _⟩ := ins_get I.hok e
  obtain ⟨od, J, _⟩ := J.look
  exact ⟨_, _, J⟩
section
variable {X : Cx} {CX : CXT} {n : Nat} {C f : Addr} {fd : FuncData} {ps : List Str} {sp : Sp} {E : XK}
/-- the def runs below the body, at any place with room -/
theorem own_run {A : Around} {pins : List (Addr × Obj)} {σ : St} {H : Hp} {s : Shared} {Q : VK} {us : List Value} {vs : List V} (F : FnOk X.prog X.w X.K X.mg X.base CX n f fd ps sp) (sb : Sub X n A) (hb : Binds X.K fd ps []) (hx : Passes CX X E)
    (I : Inv X pins σ H s) (r : Vals vs us) (h : sp vs H Q E) : wpAny (model X.prog X.w) A (call (.ref f) us) (EP X pins σ Q) X.xe s := by
  have e := I.env0
  have e0 : Env0 X.prog X.w X.K X.mg X.base A X.stack s H := ⟨by rw [sb.fr]; exact e.frames, e.mod, e.bs, e.bsz, e.funs, e.frf, e.hok, e.bare⟩
  have hl : us.length = ps.length := r.length.symm.trans (F.len _ _ _ _ h)
  have bi : BindsTo s fd ⟨us, []⟩ (ps.zip us) := by
    have z := hb s us I.kIn (by simpa using hl)
    simpa using z
  refine wpAny_call (codeAny_mono (F.run A X.stack s H ⟨us, []⟩ us vs Q E sb.room e0 bi r h) fun q s' z => ?_)
  match q, z with
  | .error x, z => exact hx pins σ H s x s' I z
  | .ok (.ret u), z => exact I.after z
  | .ok .next, z => exact z.elim
  | .ok .brk, z => exact z.elim
  | .ok .cont, z => exact z.elim
def rOwnC (C : Addr) (sp : Sp) (E : XK) : R2 := fun x y H Q => ∃ a b, x = .ref a ∧ y = .ref b ∧ InsAt H a C ∧ InsAt H b C ∧ sp [x, y] H Q E
/-- x op y, both of the class -/
theorem op_ownC {op : Operator} (M : OwnM X.K C (PySem.dunder op.info.2) f) (hc : PySem.W.selfFirst X.K C = true) (F : FnOk X.prog X.w X.K X.mg X.base CX n f fd ps sp) (hr : Room n X.A) (hb : Binds X.K fd ps []) (hx : Passes CX X E) : OpR X (binaryOp op) (rOwnC C sp E) := by
  intro pins s σ H x y v u Q I rx ry h
  obtain ⟨a, b, rfl, rfl, ha, hb', q⟩ := h
  obtain rfl : v = .ref a := rx
  obtain rfl : u = .ref b := ry
  obtain ⟨ox, od, J⟩ := ha.inst I
  obtain ⟨oy, ey, J'⟩ := hb'.inst I
  obtain ⟨m, hF⟩ := I.fr
  refine PySem.W.binop_K hF I.ok.mod.kin J J'.type hc M.at_ M.fn ?_
  refine wpAny_mono (own_run (vs := [.ref a, .ref b]) F ⟨hr, rfl⟩ hb hx I (.cons rfl (.cons rfl .nil)) q) (fun r s' z => ?_) fun _ _ z => z
  obtain ⟨z, H', I', rz, qz⟩ := id z
  exact SlX.cmpback rz ⟨z, H', I', rz, qz⟩
/-- the right side is a value of the built-in type at T, known without the heap -/
def PlainT (y : V) (T : String) : Prop := ∀ u, RelV y u → typeOf u = pure (.type T)
theorem plainT_int (i : Int) : PlainT (.int i) "int" := fun u r => by obtain ⟨t, rfl⟩ := (show ∃ t, u = Value.int i t from r); rfl
theorem plainT_str (x : Str) : PlainT (.str x) "str" := fun u r => by obtain ⟨t, rfl⟩ := (show ∃ t, u = Value.str x t from r); rfl
theorem plainT_bl (b : Bool) : PlainT (.bl b) "bool" := fun u r => by obtain rfl := (show u = Value.bool b from r); rfl
theorem plainT_non : PlainT .non "NoneType" := fun u r => by obtain rfl := (show u = Value.none from r); rfl
/-- what the written part must tell of a built-in type that stands at the right -/
structure RightT (K : PySem.W.Frag) (C : Addr) (nm : String) (T : String) : Prop where
  fo : ∃ o, PySem.W.findIn K (.type T) (PySem.dunder nm) = some o
  ro : ∃ o, PySem.W.findIn K (.type T) (dunderR nm) = some o
  no : PySem.W.subIn K (.type T) (.ref C) = some false
def rOwnT (K : PySem.W.Frag) (C : Addr) (nm : String) (sp : Sp) (E : XK) : R2 := fun x y H Q => ∃ a T, x = .ref a ∧ PlainT y T ∧ RightT K C nm T ∧ InsAt H a C ∧ sp [x, y] H Q E
theorem op_ownT {op : Operator} (M : OwnM X.K C (PySem.dunder op.info.2) f) (hc : PySem.W.selfFirst X.K C = true) (hR : PySem.W.findIn X.K (.ref C) (dunderR op.info.2) = some none) (F : FnOk X.prog X.w X.K X.mg X.base CX n f fd ps sp) (hr : Room n X.A) (hb : Binds X.K fd ps [])
    (hx : Passes CX X E) : OpR X (binaryOp op) (rOwnT X.K C op.info.2 sp E) := by
  intro pins s σ H x y v u Q I rx ry h
  obtain ⟨a, T, rfl, pt, R, ha, q⟩ := h
  obtain rfl : v = .ref a := rx
  obtain ⟨ox, od, J⟩ := ha.inst I
  obtain ⟨m, hF⟩ := I.fr
  obtain ⟨fo, h1⟩ := R.fo
  obtain ⟨ro, h2⟩ := R.ro
  refine PySem.W.ksp_binT hF I.ok.mod.kin J (pt u ry) hc M.at_ M.fn hR (.inl rfl) h1 h2 R.no ?_
  refine wpAny_mono (own_run (vs := [.ref a, y]) F ⟨hr, rfl⟩ hb hx I (.cons rfl (.cons ry .nil)) q) (fun r s' z => ?_) fun _ _ z => z
  obtain ⟨z, H', I', rz, qz⟩ := id z
  exact SlX.cmpback rz ⟨z, H', I', rz, qz⟩
def rOwn1 (C : Addr) (sp : Sp) (E : XK) : V → Hp → VK → Prop := fun x H Q => ∃ a, x = .ref a ∧ InsAt H a C ∧ sp [x] H Q E
/-- -x by an own __neg__ -/
theorem un_ownNeg (M : OwnM X.K C "__neg__" f) (F : FnOk X.prog X.w X.K X.mg X.base CX n f fd ps sp) (hr : Room n X.A) (hb : Binds X.K fd ps []) (hx : Passes CX X E) : UnR X (unaryOp .USub) (rOwn1 C sp E) := by
  intro pins s σ H x v Q I rx h
  obtain ⟨a, rfl, ha, q⟩ := h
  obtain rfl : v = .ref a := rx
  obtain ⟨ox, od, J⟩ := ha.inst I
  obtain ⟨m, hF⟩ := I.fr
  exact PySem.W.ksp_neg hF I.ok.mod.kin J M.at_ M.fn (own_run (vs := [.ref a]) F ⟨hr, rfl⟩ hb hx I (.cons rfl .nil) q)
/-- repr(x) by an own __repr__ -/
theorem call_ownRepr (M : OwnM X.K C "__repr__" f) (F : FnOk X.prog X.w X.K X.mg X.base CX n f fd ps sp) (hr : Room (n + 1) X.A) (hb : Binds X.K fd ps []) (hx : Passes CX X E) :
    CallR X (.builtin "repr") fun xs H Q => ∃ a, xs = [.ref a] ∧ InsAt H a C ∧ sp [.ref a] H (fun v H' => ∃ t, v = .str t ∧ Q v H') E := by
  intro pins s σ H xs us Q I r h
  obtain ⟨a, rfl, ha, q⟩ := h
  cases r with
  | cons rv rn =>
    cases rn
    cases rv
    obtain ⟨ox, od, J⟩ := ha.inst I
    obtain ⟨m, hF⟩ := I.fr
    have sb : Sub X n X.A.in1 := ⟨hr.in1, rfl⟩
    refine PySem.W.repr_K sb.room.units0 hF I.ok.mod.kin J M.at_ M.fn ?_
    refine wpAny_mono (own_run (vs := [.ref a]) F sb hb hx I (.cons rfl .nil) q) (fun u s' z => ?_) fun _ _ z => z
    obtain ⟨z, H', I', rz, t, rfl, qz⟩ := z
    obtain ⟨tk, rfl⟩ := (show ∃ tk, u = Value.str t tk from rz)
    exact ⟨.str t, H', I', ⟨tk, rfl⟩, qz⟩
/-- x's truth by an own __bool__ -/
theorem tru_own (M : OwnM X.K C "__bool__" f) (F : FnOk X.prog X.w X.K X.mg X.base CX n f fd ps sp) (hr : Room n X.A) (hb : Binds X.K fd ps []) (hx : Passes CX X E) :
    TruR X fun x H Q => ∃ a, x = .ref a ∧ InsAt H a C ∧ sp [.ref a] H (fun v H' => ∃ b, v = .bl b ∧ Q b H') E := by
  intro pins s σ H x v Q I rx h
  obtain ⟨a, rfl, ha, q⟩ := h
  obtain rfl : v = .ref a := rx
  obtain ⟨ox, od, J⟩ := ha.inst I
  obtain ⟨m, hF⟩ := I.fr
  refine PySem.W.truthy_K hF I.ok.mod.kin J M.at_ M.fn ?_
  refine wpAny_mono (own_run (vs := [.ref a]) F ⟨hr, rfl⟩ hb hx I (.cons rfl .nil) q) (fun u s' z => ?_) fun _ _ z => z
  obtain ⟨z, H', I', rz, b, rfl, qz⟩ := z
  obtain rfl : u = Value.bool b := rz
  exact ⟨H', I', qz⟩
end
end L2
namespace PySem.OwnS
open PySem PySem.W PySem.Calls PyProof.Rows
open Builtin Builtin.Str
section
variable {prog : Program} {w : World} {A : Around} {E : Value → Shared → Prop} {s : Shared} {K : Frag} {x C f : Addr} {ox : Obj} {od : Option Obj} {b tb : Value}
/-- an instance of a class that takes != from object -/
theorem ne_body (hu : A.units < cLine) (X : K.In s.heap) (I : InstAt s.heap x ox C od) (hs : findIn K (.ref C) "__eq__" = some (some (.ref f))) (hf : isFn K (.ref f) = true) {Q : Fin → Shared → Prop}
    (h : wpAny (model prog w) A (call (.ref f) [.ref x, b]) (fun v s' => ∃ k, v = .bool k ∧ Q (.done (.ret (.bool (!k)))) s') E s) : wpAny (model prog w) A (Builtin.«object.__ne__» ⟨[.ref x, b], []⟩) Q E s := by
  unfold Builtin.«object.__ne__»
  refine wpAny_bind (wpAny_pure ?_)
  dsimp only
  refine wpAny_bind (wpAny_cRoomFor hu ?_)
  refine wpAny_bind (m := callSpecialIfBound? (.ref x) (Str.ofString "__eq__") [b]) (ifBound_K X I hs hf (wpAny_mono h (fun v s' z => ?_) fun _ _ z => z))
  obtain ⟨k, rfl, q⟩ := z
  exact wpAny_bind (wpAny_truthy_bool (wpAny_pure q))
theorem LO (X : K.In s.heap) (I : InstAt s.heap x ox C od) (ho : subIn K (.ref C) (.type "object") = some true) : Looks (model prog w) s.heap (isInstance (.ref x) (.type "object")) true := I.type.andThen (looks_subIn X ho)
theorem ne_slot (hu : A.units + 1 < cLine) (X : K.In s.heap) (I : InstAt s.heap x ox C od) (ho : subIn K (.ref C) (.type "object") = some true) (hs : findIn K (.ref C) "__eq__" = some (some (.ref f))) (hf : isFn K (.ref f) = true) {Q : Value → Shared → Prop}
    (h : wpAny (model prog w) A.in1 (call (.ref f) [.ref x, b]) (fun v s' => ∃ k, v = .bool k ∧ Q (.bool (!k)) s') E s) : wpAny (model prog w) A (call (.builtin "object.__ne__") [.ref x, b]) Q E s := by
  refine wpAny_call (codeAny_call_builtin (by decide +kernel) F.cmpEntry_ne (@PySem.W.check_slot (model prog w) _ _ s "object.__ne__" "object" "__ne__" (.ref x) [b] [] _ (by decide +kernel) (by decide +kernel) (LO X I ho) (F.cmpArgs_ne _ _) ?_))
  refine ne_body (A := A.in1) hu X I hs hf (wpAny_mono h (fun v s' z => ?_) fun _ _ z => z)
  obtain ⟨k, rfl, q⟩ := z
  exact ⟨k, rfl, q⟩
theorem ne_own (hu : A.units + 1 < cLine) (X : K.In s.heap) (I : InstAt s.heap x ox C od) (hb : Looks (model prog w) s.heap (typeOf b) tb) (hn : notFirst K C tb = true) (ho : subIn K (.ref C) (.type "object") = some true)
    (hne : findIn K (.ref C) "__ne__" = some (some (.builtin "object.__ne__"))) (hs : findIn K (.ref C) "__eq__" = some (some (.ref f))) (hf : isFn K (.ref f) = true) {Q : Value → Shared → Prop}
    (h : wpAny (model prog w) A.in1 (call (.ref f) [.ref x, b]) (fun v s' => ∃ k, v = .bool k ∧ Q (.bool (!k)) s') E s) : wpAny (model prog w) A (richCompare .NotEq (.ref x) b) Q E s := by
  have one : wpAny (model prog w) A (tryCompare (.ref x) "__ne__" b) (fun r s' => ∃ v, r = some v ∧ Q v s') E s := by
    unfold tryCompare callSpecialIfBound? bindSpecialIfBound?
    have fin : wpAny (model prog w) A (call (.builtin "object.__ne__") ([.ref x] ++ [b]) >>= fun v => pure (some v)) (fun r s' => wpAny (model prog w) A (match r with | some .notImplemented | none => pure none | some v => pure (some v)) (fun r s' => ∃ v, r = some v ∧ Q v s') E s') E s := by
      refine wpAny_bind (wpAny_mono (ne_slot hu X I ho hs hf (wpAny_mono h (fun v s' z => ?_) fun _ _ z => z)) (fun v s' z => wpAny_pure z) fun _ _ z => z)
      obtain ⟨k, rfl, q⟩ := z
      exact ⟨k, rfl, wpAny_pure ⟨_, rfl, q⟩⟩
    refine wpAny_bind (wpAny_holding (wpAny_bind (wpAny_bind (wpAny_bind (I.type.here ((looks_findIn X hne).here ?_))))))
    refine wpAny_bind (wpAny_askSetting (wpAny_ite ?_))
    split
    · exact wpAny_bind (wpAny_pure (wpAny_pure fin))
    · exact wpAny_tryCatch (wpAny_bind (wpAny_pure (wpAny_pure fin)))
  unfold richCompare
  simp only [oneThing_ref]
  refine wpAny_holding (wpAny_bind (wpAny_cRoomFor (Nat.lt_of_succ_lt hu) ?_))
  refine wpAny_bind (I.type.here (wpAny_bind (hb.here ?_)))
  split
  · rename_i q
    have e : subIn K tb (.ref C) = some false := by
      rcases Bool.or_eq_true_iff.mp hn with e | e
      · rw [beq_iff_eq.mp e] at q; simp at q
      · exact beq_iff_eq.mp e
    refine wpAny_bind ((looks_subIn X e).here ?_)
    simp only [Bool.false_eq_true, if_false]
    refine wpAny_bind (wpAny_mono one (fun r s' z => ?_) fun _ _ e => e)
    obtain ⟨v, rfl, hq⟩ := z
    exact wpAny_pure hq
  · refine wpAny_bind (wpAny_pure ?_)
    simp only [Bool.false_eq_true, if_false]
    refine wpAny_bind (wpAny_mono one (fun r s' z => ?_) fun _ _ e => e)
    obtain ⟨v, rfl, hq⟩ := z
    exact wpAny_pure hq
/-- str(x) by an own __str__ -/
theorem str_own (hu : A.in1.in1.units < cLine) (X : K.In s.heap) (I : InstAt s.heap x ox C od) (hs : findIn K (.ref C) "__str__" = some (some (.ref f))) (hf : isFn K (.ref f) = true) {Q : Value → Shared → Prop}
    (h : wpAny (model prog w) A.in1.in1 (call (.ref f) [.ref x]) (fun v s' => ∃ y t, v = .str y t ∧ Q v s') E s) : wpAny (model prog w) A (call (.type "str") [.ref x]) Q E s := by
  refine callType_newIn F.called_str (by decide) (F.typeCall_str_1 _) (F.newCall_str_1 _) (fun obj => F.args_object_init_2 obj _) F.entry_str_new
    (S := fun A R s => wpAny (model prog w) A.in1 (Builtin.Str.strOf (.ref x)) (fun r s' => R (.ok (.ret r)) s') (fun e s' => R (.error e) s') s) (.of_wp fun A R s h => ?_) ?_
  · rw [str_new_tree (.ref x)]
    refine wpAny_bind (wpAny_pure ?_)
    refine wpAny_bind (wpAny_of_eq isSubtype_str_str ?_)
    exact wpAny_bind (wpAny_mono h (fun r s' h' => wpAny_pure ⟨_, rfl, h'⟩) fun _ _ e => e)
  · unfold Builtin.Str.strOf
    rw [show isExactStr (.ref x) = false from rfl]
    simp only [Bool.false_eq_true, if_false]
    refine wpAny_bind (wpAny_cRoomFor hu ?_)
    refine wpAny_bind (m := callSpecial? (.ref x) (Str.ofString "__str__")) (special_fn X I hs (beq_iff_eq.mp hf) (wpAny_mono h (fun v s' z => ?_) fun _ _ z => z))
    obtain ⟨y, t, rfl, q⟩ := z
    exact wpAny_pure ⟨typeIs_str _ _ _, q⟩
theorem abs_own (X : K.In s.heap) (I : InstAt s.heap x ox C od) (hs : findIn K (.ref C) "__abs__" = some (some (.ref f))) (hf : isFn K (.ref f) = true) {Q : Value → Shared → Prop}
    (h : wpAny (model prog w) A.in1 (call (.ref f) [.ref x]) Q E s) : wpAny (model prog w) A (call (.builtin "abs") [.ref x]) Q E s := by
  refine Calls.call_function_entry PyProof.Rows.kind_abs PyProof.Rows.plain_abs PyProof.Rows.entry_abs (PyProof.Rows.args_abs _) ?_
  unfold Builtin.«abs»
  refine wpAny_bind (m := oneArg "abs" _) (wpAny_pure ?_)
  refine wpAny_bind (m := callSpecial? (.ref x) (Str.ofString "__abs__")) (special_fn X I hs (beq_iff_eq.mp hf) (wpAny_mono h (fun v s' z => ?_) fun _ _ z => z))
  exact wpAny_pure ⟨_, rfl, z⟩
end
end PySem.OwnS
namespace L2
open PySem PySem.Spec PyProof.Rows
/-- the class of a value, as the heap tells it -/
def TyAt (X : Cx) (H : Hp) (y : V) (tb : Value) : Prop := ∀ (pins : List (Addr × Obj)) (s : Shared) (σ : St) (u : Value), Inv X pins σ H s → RelV y u → PySem.W.Looks (model X.prog X.w) s.heap (typeOf u) tb
section
variable {X : Cx} {CX : CXT} {n : Nat} {C f : Addr} {fd : FuncData} {ps : List Str} {sp : Sp} {E : XK} {H : Hp}
theorem ty_plain {y : V} {T : String} (p : PlainT y T) : TyAt X H y (.type T) := fun _ _ _ u _ r => PySem.W.Looks.of_pure (p u r)
theorem ty_ins {b : Addr} (h : InsAt H b C) : TyAt X H (.ref b) (.ref C) := fun _ _ _ u I r => by
  obtain rfl : u = .ref b := r
  obtain ⟨ox, od, J⟩ := h.inst I
  exact J.type
theorem looks_cls {s : Shared} {a : Addr} {o : Obj} (e : s.heap.get? a = some o) : PySem.W.Looks (model X.prog X.w) s.heap (typeOf (.ref a)) o.cls := fun A Q E s' k q => wpAny_typeOf_ref (k _ _ e) q
theorem ty_lst {a : Addr} {xs : List V} (h : H a = some (.lst xs)) : TyAt X H (.ref a) (.type "list") := fun _ _ _ u I r => by
  obtain rfl : u = .ref a := r
  obtain ⟨_, its, n, _, e⟩ := I.hok a _ h
  exact looks_cls (X := X) e
theorem ty_tup {a : Addr} {xs : List V} (h : H a = some (.tup xs)) : TyAt X H (.ref a) (.type "tuple") := fun _ _ _ u I r => by
  obtain rfl : u = .ref a := r
  obtain ⟨_, its, _, o, e, hc, _⟩ := I.hok a _ h
  have z := looks_cls (X := X) e
  rw [hc] at z
  exact z
theorem ty_dK {a : Addr} {kvs : List (Key × V)} (h : H a = some (.dK kvs)) : TyAt X H (.ref a) (.type "dict") := fun _ _ _ u I r => by
  obtain rfl : u = .ref a := r
  obtain ⟨_, _, ws, _, o, es, ep, e, hx, _⟩ := I.hok a _ h
  have z := looks_cls (X := X) e
  rw [hx.1] at z
  exact z
/-- x == y, x != y: the own __eq__ answers with a truth -/
def rEqOwn (X : Cx) (neg : Bool) (C : Addr) (sp : Sp) (E : XK) : R2 := fun x y H Q => ∃ a tb, x = .ref a ∧ InsAt H a C ∧ TyAt X H y tb ∧ PySem.W.notFirst X.K C tb = true ∧ sp [x, y] H (fun v H' => ∃ k, v = .bl k ∧ Q (.bl (if neg then !k else k)) H') E
theorem op_eqOwn (M : OwnM X.K C "__eq__" f) (F : FnOk X.prog X.w X.K X.mg X.base CX n f fd ps sp) (hr : Room n X.A) (hb : Binds X.K fd ps []) (hx : Passes CX X E) : OpR X (compareOp .Eq) (rEqOwn X false C sp E) := by
  intro pins s σ H x y v u Q I rx ry h
  obtain ⟨a, tb, rfl, ha, ht, hn, q⟩ := h
  obtain rfl : v = .ref a := rx
  obtain ⟨ox, od, J⟩ := ha.inst I
  obtain ⟨m, hF⟩ := I.fr
  show wpAny (model X.prog X.w) X.A (richCompare .Eq (.ref a) u) _ X.xe s
  refine PySem.W.cmp_K (op := .Eq) hr.units0 hF I.ok.mod.kin J (ht pins s σ u I ry) hn M.at_ M.fn ?_
  refine wpAny_mono (own_run (vs := [.ref a, y]) F ⟨hr, rfl⟩ hb hx I (.cons rfl (.cons ry .nil)) q) (fun r s' z => ?_) fun _ _ z => z
  obtain ⟨z, H', I', rz, k, rfl, qz⟩ := z
  obtain rfl : r = .bool k := rz
  exact ⟨.bl k, H', I', rfl, qz⟩
theorem op_neOwn (M : OwnM X.K C "__eq__" f) (hne : PySem.W.findIn X.K (.ref C) "__ne__" = some (some (.builtin "object.__ne__"))) (ho : PySem.W.subIn X.K (.ref C) (.type "object") = some true) (F : FnOk X.prog X.w X.K X.mg X.base CX n f fd ps sp) (hr : Room (n + 1) X.A)
    (hb : Binds X.K fd ps []) (hx : Passes CX X E) : OpR X (compareOp .NotEq) (rEqOwn X true C sp E) := by
  intro pins s σ H x y v u Q I rx ry h
  obtain ⟨a, tb, rfl, ha, ht, hn, q⟩ := h
  obtain rfl : v = .ref a := rx
  obtain ⟨ox, od, J⟩ := ha.inst I
  show wpAny (model X.prog X.w) X.A (richCompare .NotEq (.ref a) u) _ X.xe s
  refine PySem.OwnS.ne_own (by have := hr.units; omega) I.kIn J (ht pins s σ u I ry) hn ho hne M.at_ M.fn ?_
  refine wpAny_mono (own_run (vs := [.ref a, y]) F ⟨hr.in1, rfl⟩ hb hx I (.cons rfl (.cons ry .nil)) q) (fun r s' z => ?_) fun _ _ z => z
  obtain ⟨z, H', I', rz, k, rfl, qz⟩ := z
  obtain rfl : r = .bool k := rz
  exact ⟨k, rfl, .bl (!k), H', I', rfl, qz⟩
/-- str(x), abs(x) -/
theorem call_ownStr (M : OwnM X.K C "__str__" f) (F : FnOk X.prog X.w X.K X.mg X.base CX n f fd ps sp) (hr : Room (n + 2) X.A) (hb : Binds X.K fd ps []) (hx : Passes CX X E) :
    CallR X (.type "str") fun xs H Q => ∃ a, xs = [.ref a] ∧ InsAt H a C ∧ sp [.ref a] H (fun v H' => ∃ t, v = .str t ∧ Q v H') E := by
  intro pins s σ H xs us Q I r h
  obtain ⟨a, rfl, ha, q⟩ := h
  cases r with
  | cons rv rn =>
    cases rn
    cases rv
    obtain ⟨ox, od, J⟩ := ha.inst I
    have hr2 : Room n X.A.in1.in1 := (show Room (n + 1) X.A.in1 from hr.in1).in1
    refine PySem.OwnS.str_own hr2.units0 I.kIn J M.at_ M.fn ?_
    refine wpAny_mono (own_run (vs := [.ref a]) F ⟨hr2, rfl⟩ hb hx I (.cons rfl .nil) q) (fun u s' z => ?_) fun _ _ z => z
    obtain ⟨z, H', I', rz, t, rfl, qz⟩ := z
    obtain ⟨tk, rfl⟩ := (show ∃ tk, u = Value.str t tk from rz)
    exact ⟨t, tk, rfl, .str t, H', I', ⟨tk, rfl⟩, qz⟩
theorem call_ownAbs (M : OwnM X.K C "__abs__" f) (F : FnOk X.prog X.w X.K X.mg X.base CX n f fd ps sp) (hr : Room (n + 1) X.A) (hb : Binds X.K fd ps []) (hx : Passes CX X E) :
    CallR X (.builtin "abs") fun xs H Q => ∃ a, xs = [.ref a] ∧ InsAt H a C ∧ sp [.ref a] H Q E := by
  intro pins s σ H xs us Q I r h
  obtain ⟨a, rfl, ha, q⟩ := h
  cases r with
  | cons rv rn =>
    cases rn
    cases rv
    obtain ⟨ox, od, J⟩ := ha.inst I
    exact PySem.OwnS.abs_own I.kIn J M.at_ M.fn (own_run (vs := [.ref a]) F ⟨hr.in1, rfl⟩ hb hx I (.cons rfl .nil) q)
end
end L2
namespace PySem.OwnS
open PySem PySem.W PySem.Calls PyProof.Rows
section
variable {prog : Program} {w : World} {A : Around} {E : Value → Shared → Prop} {s : Shared} {K : Frag} {x C f : Addr} {ox : Obj} {od : Option Obj} {b : Value} {T : String}
/-- an own operator with a value of a built-in type at the right, its type read off the heap -/
theorem binT {op : Operator} {fo ro : Option Value} {Q : Value → Shared → Prop} (X : K.In s.heap) (I : InstAt s.heap x ox C od) (hb : Looks (model prog w) s.heap (typeOf b) (.type T)) (hc : selfFirst K C = true)
    (hs : findIn K (.ref C) (PySem.dunder op.info.2) = some (some (.ref f))) (hf : isFn K (.ref f) = true) (hr : findIn K (.ref C) (dunderR op.info.2) = some none)
    (h1 : findIn K (.type T) (PySem.dunder op.info.2) = some fo) (h2 : findIn K (.type T) (dunderR op.info.2) = some ro) (hsub : subIn K (.type T) (.ref C) = some false)
    (h : wpAny (model prog w) A (call (.ref f) [.ref x, b]) (PySem.W.CmpBack Q) E s) : wpAny (model prog w) A (binaryOp op (.ref x) b) Q E s := by
  obtain ⟨cd, rest, hcd, hm⟩ := ksp_first hc
  have one := ksp_try X I hs hf h
  rcases hi : op.info with ⟨sym, nm⟩
  rw [hi] at hs hr h1 h2 one
  dsimp only at hs hr h1 h2 one
  obtain ⟨hh, g, d, tt, os⟩ := s
  have A1 : Looks (model prog w) hh (typeOf (.ref x)) (.ref C) := I.type
  have A2 : Looks (model prog w) hh (typeOf b) (.type T) := hb
  have A3 : Looks (model prog w) hh (fillsNumberSlot (.ref C) nm) true := fills_K X hcd hm hs
  have A4 := ksp_fillsT (M := model prog w) X h1 h2
  have A5 : Looks (model prog w) hh (isSubtype (.type T) (.ref C)) false := looks_subIn X hsub
  have A6 : Looks (model prog w) hh (numberSlotInPython (.ref C) nm) true := ksp_inPy X hs hr (.inl rfl)
  have A7 : Looks (model prog w) hh (numberSlotInPython (.type T) nm) false := Looks.of_pure rfl
  have A8 : Looks (model prog w) hh (typeLookup (.type T) (dunderR nm)) ro := looks_findIn X h2
  generalize ((fo.isSome && !isSeqSlot fo) || (ro.isSome && !isSeqSlot ro)) = right at A4
  have hne : (Value.ref C == Value.type T) = false := Bool.eq_false_iff.mpr fun q => by cases beq_iff_eq.mp q
  simp only [binaryOp, hi]
  refine wpAny_holding (wpAny_bind ?_)
  unfold binaryOp1
  refine wpAny_bind (A1.at (wpAny_bind (A2.at (wpAny_bind (A3.at ?_)))))
  simp only [hne, Bool.false_eq_true, if_false]
  cases right <;>
    (ksp_lk
     refine wpAny_mono one (fun r s' z => ?_) fun _ _ e => e
     obtain ⟨v, rfl, hq⟩ := z
     ksp_lk
     exact hq)
end
end PySem.OwnS
namespace L2
open PySem PySem.Spec PyProof.Rows
def rOwnAny (X : Cx) (C : Addr) (nm : String) (sp : Sp) (E : XK) : R2 := fun x y H Q => ∃ a tb, x = .ref a ∧ InsAt H a C ∧ TyAt X H y tb ∧ (tb = .ref C ∨ ∃ T, tb = .type T ∧ RightT X.K C nm T) ∧ sp [x, y] H Q E
theorem op_ownAny {X : Cx} {CX : CXT} {n : Nat} {C f : Addr} {fd : FuncData} {ps : List Str} {sp : Sp} {E : XK} {op : Operator} (M : OwnM X.K C (PySem.dunder op.info.2) f) (hc : PySem.W.selfFirst X.K C = true) (hR : PySem.W.findIn X.K (.ref C) (dunderR op.info.2) = some none)
    (F : FnOk X.prog X.w X.K X.mg X.base CX n f fd ps sp) (hr : Room n X.A) (hb : Binds X.K fd ps []) (hx : Passes CX X E) : OpR X (binaryOp op) (rOwnAny X C op.info.2 sp E) := by
  intro pins s σ H x y v u Q I rx ry h
  obtain ⟨a, tb, rfl, ha, ht, ht2, q⟩ := h
  obtain rfl : v = .ref a := rx
  obtain ⟨ox, od, J⟩ := ha.inst I
  have L := ht pins s σ u I ry
  have go : wpAny (model X.prog X.w) X.A (call (.ref f) [.ref a, u]) (PySem.W.CmpBack (EP X pins σ Q)) X.xe s := by
    refine wpAny_mono (own_run (vs := [.ref a, y]) F ⟨hr, rfl⟩ hb hx I (.cons rfl (.cons ry .nil)) q) (fun r s' z => ?_) fun _ _ z => z
    obtain ⟨z, H', I', rz, qz⟩ := id z
    exact SlX.cmpback rz ⟨z, H', I', rz, qz⟩
  rcases ht2 with rfl | ⟨T, rfl, R⟩
  · obtain ⟨m, hF⟩ := I.fr
    exact PySem.W.binop_K hF I.ok.mod.kin J L hc M.at_ M.fn go
  · obtain ⟨fo, h1⟩ := R.fo
    obtain ⟨ro, h2⟩ := R.ro
    exact PySem.OwnS.binT I.kIn J L hc M.at_ M.fn hR h1 h2 R.no go
end L2
namespace RatM
/-! ### ratios in lowest terms -/
def lowD (t b : Int) : Int := if 0 < b then (Int.gcd t b : Int) else -(Int.gcd t b : Int)
def lowT (t b : Int) : Int := t.fdiv (lowD t b)
def lowB (t b : Int) : Int := b.fdiv (lowD t b)
theorem gcd_pos {t b : Int} (hb : b ≠ 0) : 0 < (Int.gcd t b : Int) := by
  have h : 0 < Int.gcd t b := Nat.pos_of_ne_zero fun z => hb (Int.eq_zero_of_gcd_eq_zero_right z)
  omega
theorem lowD_ne {t b : Int} (hb : b ≠ 0) : lowD t b ≠ 0 := by
  have h := gcd_pos (t := t) hb
  unfold lowD
  split <;> omega
theorem lowD_dvd_t (t b : Int) : lowD t b ∣ t := by
  unfold lowD
  split
  · exact Int.gcd_dvd_left ..
  · exact Int.neg_dvd.mpr (Int.gcd_dvd_left ..)
theorem lowD_dvd_b (t b : Int) : lowD t b ∣ b := by
  unfold lowD
  split
  · exact Int.gcd_dvd_right ..
  · exact Int.neg_dvd.mpr (Int.gcd_dvd_right ..)
theorem lowT_mul {t b : Int} (hb : b ≠ 0) : lowD t b * lowT t b = t := by
  obtain ⟨k, hk⟩ := lowD_dvd_t t b
  have e : lowT t b = k := by
    unfold lowT
    conv => lhs; arg 1; rw [hk]
    exact Int.mul_fdiv_cancel_left k (lowD_ne hb)
  rw [e]
  exact hk.symm
theorem lowB_mul {t b : Int} (hb : b ≠ 0) : lowD t b * lowB t b = b := by
  obtain ⟨k, hk⟩ := lowD_dvd_b t b
  have e : lowB t b = k := by
    unfold lowB
    conv => lhs; arg 1; rw [hk]
    exact Int.mul_fdiv_cancel_left k (lowD_ne hb)
  rw [e]
  exact hk.symm
theorem lowB_pos {t b : Int} (hb : b ≠ 0) : 0 < lowB t b := by
  have m := lowB_mul (t := t) hb
  have g := gcd_pos (t := t) hb
  by_cases c : 0 < b
  · have d : 0 < lowD t b := by unfold lowD; rw [if_pos c]; exact g
    exact Int.pos_of_mul_pos_right (by rw [m]; exact c) d
  · have d : lowD t b < 0 := by unfold lowD; rw [if_neg c]; omega
    have e : (-lowD t b) * lowB t b = -b := by rw [Int.neg_mul, m]
    exact Int.pos_of_mul_pos_right (by rw [e]; omega) (by omega : 0 < -lowD t b)
theorem lowD_abs {t b : Int} : (lowD t b).natAbs = Int.gcd t b := by
  unfold lowD
  split <;> simp
theorem low_gcd {t b : Int} (hb : b ≠ 0) : Int.gcd (lowT t b) (lowB t b) = 1 := by
  have h : Int.gcd (lowD t b * lowT t b) (lowD t b * lowB t b) = (lowD t b).natAbs * Int.gcd (lowT t b) (lowB t b) := Int.gcd_mul_left ..
  rw [lowT_mul hb, lowB_mul hb, lowD_abs] at h
  have g := gcd_pos (t := t) hb
  have g2 : 0 < Int.gcd t b := by omega
  exact Nat.eq_of_mul_eq_mul_left g2 (by rw [Nat.mul_one]; exact h.symm)
theorem lowT_le {t b : Int} (hb : b ≠ 0) : (lowT t b).natAbs ≤ t.natAbs := by
  have m := congrArg Int.natAbs (lowT_mul (t := t) hb)
  rw [Int.natAbs_mul] at m
  have d : 0 < (lowD t b).natAbs := Int.natAbs_pos.mpr (lowD_ne hb)
  rw [← m]
  exact Nat.le_mul_of_pos_left _ d
theorem lowB_le {t b : Int} (hb : b ≠ 0) : (lowB t b).natAbs ≤ b.natAbs := by
  have m := congrArg Int.natAbs (lowB_mul (t := t) hb)
  rw [Int.natAbs_mul] at m
  have d : 0 < (lowD t b).natAbs := Int.natAbs_pos.mpr (lowD_ne hb)
  rw [← m]
  exact Nat.le_mul_of_pos_left _ d
theorem cop_dvd {p q r : Int} (g : Int.gcd p q = 1) (h : q ∣ p * r) : q ∣ r := by
  have h2 : q.natAbs ∣ p.natAbs * r.natAbs := by
    rw [← Int.natAbs_mul]
    exact Int.natAbs_dvd_natAbs.mpr h
  have c : Nat.Coprime q.natAbs p.natAbs := by
    unfold Nat.Coprime
    rw [Nat.gcd_comm]
    exact g
  exact Int.natAbs_dvd_natAbs.mp (Nat.Coprime.dvd_of_dvd_mul_left c h2)
/-- one ratio has one pair -/
theorem low_one {p q p' q' : Int} (hq : 0 < q) (hq' : 0 < q') (g : Int.gcd p q = 1) (g' : Int.gcd p' q' = 1) (e : p * q' = p' * q) : p = p' ∧ q = q' := by
  have d1 : q ∣ q' := by
    have z : q ∣ p * q' := ⟨p', by rw [e, Int.mul_comm]⟩
    exact cop_dvd g z
  have d2 : q' ∣ q := by
    have z : q' ∣ p' * q := ⟨p, by rw [← e, Int.mul_comm]⟩
    exact cop_dvd g' z
  have eq : q = q' := Int.dvd_antisymm (by omega) (by omega) d1 d2
  subst eq
  exact ⟨Int.eq_of_mul_eq_mul_right (by omega) e, rfl⟩
theorem low_self {p q : Int} (hq : 0 < q) (g : Int.gcd p q = 1) : lowT p q = p ∧ lowB p q = q := by
  have e : lowD p q = 1 := by unfold lowD; rw [if_pos hq, g]; rfl
  unfold lowT lowB
  rw [e]
  exact ⟨Int.fdiv_one p, Int.fdiv_one q⟩
/-- what stands in the same proportion has the same pair -/
theorem low_eq {t b t' b' : Int} (hb : b ≠ 0) (hb' : b' ≠ 0) (e : t * b' = t' * b) : lowT t b = lowT t' b' ∧ lowB t b = lowB t' b' := by
  refine low_one (lowB_pos hb) (lowB_pos hb') (low_gcd hb) (low_gcd hb') ?_
  have h1 := lowT_mul (t := t) hb
  have h2 := lowB_mul (t := t) hb
  have h3 := lowT_mul (t := t') hb'
  have h4 := lowB_mul (t := t') hb'
  have d1 := lowD_ne (t := t) hb
  have d2 := lowD_ne (t := t') hb'
  refine Int.eq_of_mul_eq_mul_left (Int.mul_ne_zero d1 d2) ?_
  have e1 : lowD t b * lowD t' b' * (lowT t b * lowB t' b') = (lowD t b * lowT t b) * (lowD t' b' * lowB t' b') := by ac_rfl
  have e2 : lowD t b * lowD t' b' * (lowT t' b' * lowB t b) = (lowD t' b' * lowT t' b') * (lowD t b * lowB t b) := by ac_rfl
  rw [e1, e2, h1, h2, h3, h4]
  exact e
end RatM
namespace L2
open PySem PySem.Spec PyProof.Rows
/-! ### an own error that is raised: its __init__ keeps its parameters ks -/
def spErrN (K : PySem.W.Frag) (ks : List Str) : Sp := fun vs H Q _ => ∃ (e C : Addr) (ws : List V), vs = .ref e :: ws ∧ ws.length = ks.length ∧ OexC K C ∧ (∀ f ∈ ks, PySem.W.findIn K (.ref C) f = some none) ∧
  H e = some (exo e C none) ∧ ∀ H' d, (∀ b o, b ≠ e → H b = some o → H' b = some o) → H d = none → d ≠ e → H' e = some (exo e C (some d)) → H' d = some (exd d (ks.zip ws).reverse) → Q .non H'
/-- what the written part tells of it, and of its __init__ -/
structure ErrN (P : Program) (w : World) (K : PySem.W.Frag) (mg : Str → Option Value) (base : Heap) (x : Str) (C : Addr) (ks : List Str) : Prop where
  ex : ∃ (fI : Addr) (fd : FuncData), PySem.W.findIn K (.ref C) "__init__" = some (some (.ref fI)) ∧ PySem.W.typeIn K (.ref fI) = some (.type "function") ∧ FnOk P w K mg base CX0 1 fI fd ("self" :: ks) (spErrN K ks) ∧ Binds K fd ("self" :: ks) []
  ox : OexC K C
  no : ∀ f ∈ ks, PySem.W.findIn K (.ref C) f = some none
  g : mg x = some (.ref C)
/-- that it is raised is what is wanted: E, with its dict d that is new -/
def Rz (H : Hp) (E : XK) (C : Addr) (fs : List (Str × V)) : Prop := ∀ d H', Same H H' → H d = none → H' d = some (.xd fs) → E (.ref C) (some d) H'
/-- what is asked behind the arguments -/
def RaiseN (K : PySem.W.Frag) (C : Addr) (ks : List Str) (vs : List V) (H1 : Hp) (Q : XK) : Prop := vs.length ≤ 1000 ∧ ∀ a, H1 a = none → spErrN K ks (.ref a :: (vs ++ [])) (upd H1 a (exo a C none))
  (fun v H2 => v = .non ∧ ∃ (d : Addr) (fs : List (Str × V)), H2 a = some (exo a C (some d)) ∧ H2 d = some (exd d fs) ∧ H1 d = none ∧ Q (.ref C) (some d) (upd (del H2 a) d (.xd fs))) (fun _ _ _ => False)
def tRaiseN (K : PySem.W.Frag) (C : Addr) (ks : List Str) (W : WX) (ta : TA) : TS := fun _ σ H => ta σ H fun vs H1 => RaiseN K C ks vs H1 fun c d H' => W c d σ H'
theorem raiseN {P : Program} {w : World} {K : PySem.W.Frag} {mg : Str → Option Value} {base : Heap} {x : Str} {C : Addr} {ks : List Str} (M : ErrN P w K mg base x C ks) {vs : List V} {H1 : Hp} {Q : XK} (hl : vs.length = ks.length) (hk : ks.length ≤ 100)
    (h : Rz H1 Q C (ks.zip vs).reverse) : RaiseN K C ks vs H1 Q := by
  refine ⟨by omega, fun a na => ⟨a, C, vs, by rw [List.append_nil], hl, M.ox, M.no, upd_same, fun H2 d kp nd ne h1 h2 => ⟨rfl, d, _, h1, h2, ?_, h d _ ?_ ?_ upd_same⟩⟩⟩
  · rw [upd_ne ne] at nd
    exact nd
  · intro b o z
    rw [upd_ne ne] at nd
    have hb : b ≠ a := ne_of_none z na
    rw [upd_ne (ne_of_none z nd), del_ne hb]
    exact kp b o hb (by rw [upd_ne hb]; exact z)
  · rw [upd_ne ne] at nd
    exact nd
section
variable {X : Cx} {C : Addr} {ks : List Str} {x : Str} {p pos pos2 : Pos} {e : Expr} {es : List Expr} {ta : TA} {W : WX}
theorem ps_raiseN (hc : X.calm = true) (M : ErrN X.prog X.w X.K X.mg X.base x C ks) (hr : Room 2 X.A) (tk : Takes X W) (hg : Gl X x) (ha : PA X (e :: es) ta)
    (hdb : (x == ("__debug__" : Str)) = false := by decide) (he : starEach (e :: es) X.env = (false, eval e X.env) :: starEach es X.env := by rfl) (hpl : (backTo pos (starEach es X.env)).any (·.1) = false := by rfl) :
    PS X (.Raise (some (.Call (.Name x p) (e :: es) [] pos)) none pos2) (tRaiseN X.K C ks W ta) := by
  obtain ⟨fI, fd, iC, tI, F, b⟩ := M.ex
  exact ps_raise (pos := pos2) hc tk (pmk_oex (p := p) (e := e) (dvs := []) M.ox iC tI F hr b .nil pass0 hg M.g ha hdb he hpl)
end
end L2
namespace L2
open PySem PySem.Spec PyProof.Rows
/-- a truth less a truth -/
theorem op_subBl {X : Cx} : OpR X (binaryOp .Sub) fun x y H Q => ∃ p q, x = .bl p ∧ y = .bl q ∧ Q (.int (b2i p - b2i q)) H := by
  intro pins s σ H x y v u Q I rx ry h
  obtain ⟨p, q, rfl, rfl, z⟩ := h
  obtain rfl : v = .bool p := rx
  obtain rfl : u = .bool q := ry
  exact sub_bool ⟨.int (b2i p - b2i q), H, I.tok _, ⟨_, rfl⟩, z⟩
/-- // by any divisor other than 0 that is not monstrous -/
def CDivZ (_ j : Int) : Prop := j ≠ 0 ∧ j.natAbs.log2 < 9000
theorem op_fdivZ {X : Cx} : OpR X (binaryOp .FloorDiv) (rI CDivZ fun i j => .int (i.fdiv j)) := opI fun _ _ _ _ _ _ _ hc q => floordiv_int hc.1 q (.inl (PyProof.noPylong_of_log2 hc.2))
/-! ### what isinstance tells of a value -/
/-- whether a value is an integer that is no truth -/
def IntIs (K : PySem.W.Frag) (H : Hp) (x : V) (b : Bool) : Prop := ∃ t b1 b2, TyX K H x t ∧ PySem.W.kitOne K t (.type "int") = some b1 ∧ PySem.W.kitOne K t (.type "bool") = some b2 ∧ b = (b1 && !b2)
theorem intIs_int {K : PySem.W.Frag} {H : Hp} (i : Int) : IntIs K H (.int i) true := ⟨.type "int", true, false, .base (.int _), kit_ty (by decide +kernel), kit_ty (by decide +kernel), rfl⟩
theorem intIs_bl {K : PySem.W.Frag} {H : Hp} (b : Bool) : IntIs K H (.bl b) false := ⟨.type "bool", true, true, .base (.bl _), kit_ty (by decide +kernel), kit_ty (by decide +kernel), rfl⟩
theorem intIs_non {K : PySem.W.Frag} {H : Hp} : IntIs K H .non false := ⟨.type "NoneType", false, false, .base .non, kit_ty (by decide +kernel), kit_ty (by decide +kernel), rfl⟩
theorem intIs_str {K : PySem.W.Frag} {H : Hp} (x : Str) : IntIs K H (.str x) false := ⟨.type "str", false, false, .base (.str _), kit_ty (by decide +kernel), kit_ty (by decide +kernel), rfl⟩
end L2
namespace K04
open PySem PySem.Spec PyProof.Rows L2
def top (i : Nat) : Stmt := PySem.Challenge.pw_scaleborn_k04_balances_made_and_refused.main.body.getD i (.Pass ⟨0, 0, 0, 0⟩)
abbrev FnP (K : PySem.W.Frag) (x : Str) (st : Stmt) (f : Addr) (fd : FuncData) : Prop := FunD K x x (defArgs st) (defBody st) (defScope st) [] [] f fd
abbrev MtP (K : PySem.W.Frag) (m q : Str) (st : Stmt) (f : Addr) (fd : FuncData) : Prop := FunD K m q (defArgs st) (defBody st) (defScope st) [] [] f fd
abbrev iBadRatio : Stmt := inClass (top 4) 0
abbrev iBadText : Stmt := inClass (top 11) 0
section
variable {P : Program} {w : World} {K : PySem.W.Frag} {mg : Str → Option Value} {base : Heap}
theorem mk_BadRatio {C fI : Addr} {fd : FuncData} (F : MtP K "__init__" "BadRatio.__init__" iBadRatio fI fd) (ox : OexC K C) (iC : PySem.W.findIn K (.ref C) "__init__" = some (some (.ref fI))) (tI : PySem.W.typeIn K (.ref fI) = some (.type "function"))
    (no : ∀ f ∈ ([("part" : Str)] : List Str), PySem.W.findIn K (.ref C) f = some none) (g : mg "BadRatio" = some (.ref C)) : ErrN P w K mg base "BadRatio" C ["part"] := by
  have S : FnScope ["self", "part"] ["self", "part"] (defScope iBadRatio) := ⟨rfl, rfl, rfl, by decide +kernel, rfl, by decide +kernel, by decide +kernel⟩
  refine ⟨⟨fI, fd, iC, tI, ?_, F.bindsN (fun _ _ _ _ _ _ us hl => match us, hl with | [_, _], _ => rfl)⟩, ox, no, g⟩
  refine F.ok S (fun vs H Q E h => ?_) (fun cdv A outer s H vs Q E hr h => ?_)
  · obtain ⟨e, C, ws, rfl, hn, _⟩ := h
    rw [List.length_cons, hn]
    rfl
  · obtain ⟨e, C, ws, rfl, hn, T, no, he, k⟩ := h
    match ws, hn with
    | [v0], _ =>
      refine ⟨_, PSs.nox (pss_one (ps_ost (pv 0) (pv 1))), ?_⟩
      refine ⟨_, rfl, _, rfl, e, C, rfl, T, no _ (by simp), .inl ⟨he, fun dx nd ne => ?_⟩⟩
      exact k _ dx (fun b o hb z => by rw [upd_ne hb, upd_ne (ne_of_none z nd)]; exact z) nd ne upd_same (by rw [upd_ne ne]; exact upd_same)
theorem mk_BadText {C fI : Addr} {fd : FuncData} (F : MtP K "__init__" "BadText.__init__" iBadText fI fd) (ox : OexC K C) (iC : PySem.W.findIn K (.ref C) "__init__" = some (some (.ref fI))) (tI : PySem.W.typeIn K (.ref fI) = some (.type "function"))
    (no : ∀ f ∈ ([("line" : Str), ("word" : Str)] : List Str), PySem.W.findIn K (.ref C) f = some none) (g : mg "BadText" = some (.ref C)) : ErrN P w K mg base "BadText" C ["line", "word"] := by
  have S : FnScope ["self", "line", "word"] ["self", "line", "word"] (defScope iBadText) := ⟨rfl, rfl, rfl, by decide +kernel, rfl, by decide +kernel, by decide +kernel⟩
  refine ⟨⟨fI, fd, iC, tI, ?_, F.bindsN (fun _ _ _ _ _ _ us hl => match us, hl with | [_, _, _], _ => rfl)⟩, ox, no, g⟩
  refine F.ok S (fun vs H Q E h => ?_) (fun cdv A outer s H vs Q E hr h => ?_)
  · obtain ⟨e, C, ws, rfl, hn, _⟩ := h
    rw [List.length_cons, hn]
    rfl
  · obtain ⟨e, C, ws, rfl, hn, T, no, he, k⟩ := h
    match ws, hn with
    | [v0, v1], _ =>
      refine ⟨_, PSs.nox (pss_cons (ps_ost (pv 0) (pv 1)) (pss_one (ps_ost (pv 0) (pv 2)))), ?_⟩
      refine ⟨_, rfl, _, rfl, e, C, rfl, T, no _ (by simp), .inl ⟨he, fun dx nd ne => ?_⟩⟩
      refine ⟨_, rfl, _, rfl, e, C, rfl, T, no _ (by simp), .inr ⟨dx, _, upd_same, by rw [upd_ne ne]; exact upd_same, by show 1 ≤ 900; decide, ?_⟩⟩
      refine k _ dx (fun b o hb z => ?_) nd ne (by rw [upd_ne ne.symm]; exact upd_same) upd_same
      rw [upd_ne (ne_of_none z nd), upd_ne hb, upd_ne (ne_of_none z nd)]
      exact z
/-! ### checks -/
def spIsI (K : PySem.W.Frag) : Sp := fun vs H Q _ => ∃ x b, vs = [x] ∧ IntIs K H x b ∧ Q (.bl b) H
theorem scI : FnScope ["value"] ["value"] (defScope (top 16)) := ⟨rfl, rfl, rfl, by decide +kernel, rfl, by decide +kernel, by decide +kernel⟩
theorem ok_isInt {f : Addr} {fd : FuncData} (F : FnP K "is_integer" (top 16) f fd) (bi : mg "isinstance" = none) (bI : mg "int" = none) (bB : mg "bool" = none) : FnOk P w K mg base CX0 1 f fd ["value"] (spIsI K) := by
  refine F.ok scI (fun vs H Q E h => ?_) (fun cdv A outer s H vs Q E hr h => ?_)
  · obtain ⟨x, b, rfl, _⟩ := h
    rfl
  · obtain ⟨x, b, rfl, ⟨t, b1, b2, ty, k1, k2, rfl⟩, q⟩ := h
    refine ⟨_, PSs.nox (pss_one (ps_ret (pe_and (pe_callB call_isi (by rfl) bi (by decide +kernel) (pa_cons (pv 0) (pa_cons (pe_bltn (v := .ty "int") (by rfl) bI (by decide +kernel) rfl) pa_nil)))
      (pe_one (pe_not (pe_callB call_isi (by rfl) bi (by decide +kernel) (pa_cons (pv 0) (pa_cons (pe_bltn (v := .ty "bool") (by rfl) bB (by decide +kernel) rfl) pa_nil)))))))), ?_⟩
    refine ⟨_, rfl, _, _, _, _, _, rfl, .ty "int", ty, k1, _, rfl, ?_⟩
    cases b1 with
    | false => exact iteF q
    | true => exact iteT ⟨_, rfl, _, _, _, _, _, rfl, .ty "bool", ty, k2, _, rfl, q⟩
end
end K04
namespace K04
open PySem PySem.Spec PyProof.Rows L2 RatM
abbrev ratM (i : Nat) : Stmt := inClass (top 30) i
/-- what the written part tells of the class of ratios -/
structure RatC (K : PySem.W.Frag) (C : Addr) : Prop where
  cls : Cls K C
  no : ∀ f ∈ ([("top" : Str), ("bottom" : Str), ("sign" : Str), ("is_whole" : Str), ("below" : Str)] : List Str), NoAttr K C f
/-- the fields of a ratio -/
def ratF (p q : Int) : List (Str × V) := putF "below" (.int (p.fdiv q)) (putF "is_whole" (.bl (decide (V.int q = V.int 1))) (putF "sign" (.int (b2i (decide (0 < p)) - b2i (decide (p < 0)))) (putF "bottom" (.int q) (putF "top" (.int p) []))))
def spRI (K : PySem.W.Frag) (C BR : Addr) : Sp := fun vs H Q E => ∃ (a : Addr) (x y : V), vs = [.ref a, x, y] ∧
  ((∃ (t b : Int) (dx : Addr), x = .int t ∧ y = .int b ∧ b ≠ 0 ∧ t.natAbs < 2 ^ 4000 ∧ b.natAbs < 2 ^ 4000 ∧ H a = some (.ins C dx []) ∧ ∀ H' : Hp, (∀ b, b ≠ a → H' b = H b) → H' a = some (.ins C dx (ratF (lowT t b) (lowB t b))) → Q .non H') ∨
   (IntIs K H x false ∧ Rz H E BR [("part", .str "top")]) ∨ (∃ t, x = .int t ∧ (IntIs K H y false ∨ y = .int 0) ∧ Rz H E BR [("part", .str "bottom")]))
theorem log2_of {i : Int} (h : i.natAbs < 2 ^ 4000) : i.natAbs.log2 < 9000 := Nat.lt_of_lt_of_le (PySem.Flt.log2_lt_of (by decide) h) (by decide)
section
variable {P : Program} {w : World} {K : PySem.W.Frag} {mg : Str → Option Value} {base : Heap} {C BR : Addr}
theorem scRI : FnScope ["self", "top", "bottom", "divisor"] ["self", "top", "bottom"] (defScope (ratM 0)) := ⟨rfl, rfl, rfl, by decide +kernel, rfl, by decide +kernel, by decide +kernel⟩
theorem ok_ratInit {f fI : Addr} {fd fdI : FuncData} {dvs : List V} {kws : List (Str × V)} (F : FunD K "__init__" "Ratio.__init__" (defArgs (ratM 0)) (defBody (ratM 0)) (defScope (ratM 0)) dvs kws f fd) (T : RatC K C) (M : ErrN P w K mg base "BadRatio" BR ["part"])
    (GI : FnOk P w K mg base CX0 1 fI fdI ["value"] (spIsI K)) (bI : Binds K fdI ["value"] []) (kI : PySem.W.keepIn K (.ref fI) = true) (gI : mg "is_integer" = some (.ref fI)) (gG : mg "gcd" = some (.builtin "math.gcd")) :
    FnOk P w K mg base (L2.CX P w) 3 f fd ["self", "top", "bottom"] (spRI K C BR) := by
  refine F.ok scRI (fun vs H Q E h => ?_) (fun cdv A outer s H vs Q E hr h => ?_)
  · obtain ⟨a, x, y, rfl, _⟩ := h
    rfl
  · obtain ⟨a, x, y, rfl, h⟩ := h
    have hr2 : Room 2 _ := hr
    have hr1 : Room 1 _ := hr2.mono (by decide)
    refine ⟨_, pss_cons (ps_if (pt_not (pt_val (pe_call GI hr1 rfl gI kI bI .nil pass0 (pa_cons (pv 1) pa_nil)))) (pss_one (ps_raiseN rfl M hr2 (takes_of rfl rfl rfl rfl) (by rfl) (pa_cons pe_str pa_nil))) pss_nil)
      (pss_cons (ps_if (PW.pt (pw_or (pt_not (pt_val (pe_call GI hr1 rfl gI kI bI .nil pass0 (pa_cons (pv 2) pa_nil)))) (pw_or1 (pt_cmpR op_eq (pv 2) pe_int (nomark _))))) (pss_one (ps_raiseN rfl M hr2 (takes_of rfl rfl rfl rfl) (by rfl) (pa_cons pe_str pa_nil))) pss_nil)
      (pss_cons (ps_set (i := 3) scRI.nd rfl (.inl rfl) (pe_ifExp (pt_cmpR op_gt (pv 2) pe_int (nomark _)) (pe_callBfun cr_gcd (by rfl) gG (pa_cons (pv 1) (pa_cons (pv 2) pa_nil))) (pe_un un_neg (pe_callBfun cr_gcd (by rfl) gG (pa_cons (pv 1) (pa_cons (pv 2) pa_nil))))))
      (pss_cons (ps_fld (pv 0) (pe_op op_fdivZ (pv 1) (pv 3)) (by rfl))
      (pss_cons (ps_fld (pv 0) (pe_op op_fdivZ (pv 2) (pv 3)) (by rfl))
      (pss_cons (ps_fld (pv 0) (pe_op op_subBl (pe_cmpR op_gt (pe_fld (pv 0) rfl) pe_int (nomark _)) (pe_cmpR op_lt (pe_fld (pv 0) rfl) pe_int (nomark _))) (by rfl))
      (pss_cons (ps_fld (pv 0) (pe_cmpR op_eq (pe_fld (pv 0) rfl) pe_int (nomark _)) (by rfl))
      (pss_one (ps_fld (pv 0) (pe_op op_fdivZ (pe_fld (pv 0) rfl) (pe_fld (pv 0) rfl)) (by rfl))))))))), ?_⟩
    rcases h with ⟨t, b, dx, rfl, rfl, hb, ht, hbb, ha, k⟩ | ⟨hx, rz⟩ | ⟨t, rfl, hy, rz⟩
    · refine ⟨_, rfl, _, _, rfl, intIs_int t, true, rfl, iteF ?_⟩
      refine ⟨_, rfl, _, _, rfl, intIs_int b, true, rfl, iteF ⟨_, rfl, rfl, false, congrArg V.bl (decide_eq_false fun z => hb (V.int.inj z)), iteF ?_⟩⟩
      have dn := lowD_ne (t := t) hb
      have dz : (lowD t b).natAbs.log2 < 9000 := by
        refine log2_of ?_
        rw [lowD_abs]
        exact Nat.lt_of_le_of_lt (Nat.gcd_le_right _ (Int.natAbs_pos.mpr hb)) hbb
      refine ⟨_, rfl, _, _, rfl, rfl, _, rfl, ite2 (fun c => ?_) (fun c => ?_)⟩
      case' refine_1 =>
        have eX : ((Nat.gcd t.natAbs b.natAbs : Nat) : Int) = lowD t b := (if_pos (of_decide_eq_true c)).symm
        refine ⟨_, rfl, _, rfl, _, _, rfl, ?_⟩
        rw [eX]
      case' refine_2 =>
        have eX : -((Nat.gcd t.natAbs b.natAbs : Nat) : Int) = lowD t b := (if_neg fun z => c (decide_eq_true z)).symm
        refine ⟨_, rfl, _, rfl, _, _, rfl, _, rfl, ?_⟩
        dsimp only
        rw [eX]
      all_goals
        have nt := T.no "top" (by simp)
        have nb := T.no "bottom" (by simp)
        have ns := T.no "sign" (by simp)
        have ni := T.no "is_whole" (by simp)
        have nl := T.no "below" (by simp)
        have qp := lowB_pos (t := t) hb
        have qz : (lowB t b).natAbs < 2 ^ 4000 := Nat.lt_of_le_of_lt (lowB_le hb) hbb
        refine ⟨_, rfl, _, rfl, _, _, rfl, rfl, ⟨dn, dz⟩, _, rfl, a, C, dx, _, rfl, ha, T.cls, nt, by show 0 < 1000; decide, ?_⟩
        refine ⟨_, rfl, _, rfl, _, _, rfl, rfl, ⟨dn, dz⟩, _, rfl, a, C, dx, _, rfl, upd_same, T.cls, nb, by show 1 < 1000; decide, ?_⟩
        refine ⟨_, rfl, a, C, dx, _, _, rfl, upd_same, T.cls, nt, rfl, _, _, rfl, rfl, ?_⟩
        refine ⟨_, rfl, a, C, dx, _, _, rfl, upd_same, T.cls, nt, rfl, _, _, rfl, rfl, _, _, rfl, rfl, ?_⟩
        refine ⟨_, rfl, a, C, dx, _, rfl, upd_same, T.cls, ns, by show 2 < 1000; decide, ?_⟩
        refine ⟨_, rfl, a, C, dx, _, _, rfl, upd_same, T.cls, nb, rfl, rfl, ?_⟩
        refine ⟨_, rfl, a, C, dx, _, rfl, upd_same, T.cls, ni, by show 3 < 1000; decide, ?_⟩
        refine ⟨_, rfl, a, C, dx, _, _, rfl, upd_same, T.cls, nt, rfl, _, rfl, a, C, dx, _, _, rfl, upd_same, T.cls, nb, rfl, _, _, rfl, rfl, ⟨Int.ne_of_gt qp, log2_of qz⟩, ?_⟩
        refine ⟨_, rfl, a, C, dx, _, rfl, upd_same, T.cls, nl, by show 4 < 1000; decide, ?_⟩
        refine k _ (fun b hb => ?_) upd_same
        rw [upd_ne hb, upd_ne hb, upd_ne hb, upd_ne hb, upd_ne hb]
    · refine ⟨_, rfl, _, _, rfl, hx, false, rfl, iteT ?_⟩
      exact raiseN M rfl (by decide) rz
    · refine ⟨_, rfl, _, _, rfl, intIs_int t, true, rfl, iteF ?_⟩
      rcases hy with hy | rfl
      · refine ⟨_, rfl, _, _, rfl, hy, false, rfl, iteT ?_⟩
        exact raiseN M rfl (by decide) rz
      · refine ⟨_, rfl, _, _, rfl, intIs_int 0, true, rfl, iteF ⟨_, rfl, rfl, true, congrArg V.bl (decide_eq_true rfl), iteT ?_⟩⟩
        exact raiseN M rfl (by decide) rz
end
end K04
namespace K04
open PySem PySem.Spec PyProof.Rows L2 RatM
/-- a ratio p / q stands at a -/
def RatAt (H : Hp) (a C : Addr) (p q : Int) : Prop := ∃ dx, H a = some (.ins C dx (ratF p q))
theorem RatAt.same {H H' : Hp} {a C : Addr} {p q : Int} (h : RatAt H a C p q) (s : Same H H') : RatAt H' a C p q := let ⟨dx, e⟩ := h; ⟨dx, s _ _ e⟩
theorem RatAt.ins {H : Hp} {a C : Addr} {p q : Int} (h : RatAt H a C p q) : InsAt H a C := let ⟨dx, e⟩ := h; ⟨dx, _, e⟩
theorem Rz.same {H H' : Hp} {E : XK} {C : Addr} {fs : List (Str × V)} (h : Rz H E C fs) (s : Same H H') : Rz H' E C fs := fun d H2 s2 nd hd => h d H2 (s.trans s2) (s.free nd) hd
/-- what isinstance asks of the class -/
structure RatI (K : PySem.W.Frag) (C : Addr) : Prop where
  ca : PySem.W.findIn K (.ref C) "__class__" = some (some (.builtin "object.__class__"))
  cn : PySem.W.specialIn K (.builtin "object.__class__") "__get__" = some (some (.builtin "getset_descriptor.__get__"))
  ct : PySem.W.takesIn K (.builtin "object.__class__") = some true
  cm : PySem.W.mroIn K C (.type "object") = some true
  cc : PySem.W.kitOne K (.ref C) (.ref C) = some true
  ci : PySem.W.kitOne K (.ref C) (.type "int") = some false
  cb : PySem.W.kitOne K (.ref C) (.type "bool") = some false
  ic : PySem.W.kitOne K (.type "int") (.ref C) = some false
/-- neither a ratio nor an integer -/
def NotNum (K : PySem.W.Frag) (H : Hp) (C : Addr) (x : V) : Prop := (∃ t, TyX K H x t ∧ PySem.W.kitOne K t (.ref C) = some false) ∧ IntIs K H x false
/-- all that the functions of ratios rest on -/
structure RatK (P : Program) (w : World) (K : PySem.W.Frag) (mg : Str → Option Value) (base : Heap) (C BR : Addr) : Prop where
  T : RatC K C
  I : RatI K C
  M : ErrN P w K mg base "BadRatio" BR ["part"]
  g : mg "Ratio" = some (.ref C)
  bi : mg "isinstance" = none
  int : ∃ (f : Addr) (fd : FuncData), FnOk P w K mg base CX0 1 f fd ["value"] (spIsI K) ∧ Binds K fd ["value"] [] ∧ PySem.W.keepIn K (.ref f) = true ∧ mg "is_integer" = some (.ref f)
  make : ∃ (f : Addr) (fd : FuncData) (ds : List Value), Mk K C f ∧ FnOk P w K mg base (L2.CX P w) 3 f fd ["self", "top", "bottom"] (spRI K C BR) ∧ Binds K fd ["self", "top", "bottom"] [] ∧ Binds K fd ["self", "top", "bottom"] ds ∧ Vals [.int 1] ds
section
variable {K : PySem.W.Frag} {C BR : Addr} {H : Hp}
theorem RatAt.ty {a : Addr} {p q : Int} (h : RatAt H a C p q) (T : RatC K C) (I : RatI K C) : TyX K H (.ref a) (.ref C) := let ⟨_, e⟩ := h; .base (.ins e T.cls I.ca I.cn I.ct I.cm)
theorem RatAt.notInt {a : Addr} {p q : Int} (h : RatAt H a C p q) (T : RatC K C) (I : RatI K C) : IntIs K H (.ref a) false := ⟨.ref C, false, false, h.ty T I, I.ci, I.cb, rfl⟩
/-- Ratio(x, y) -/
def MkR (K : PySem.W.Frag) (C BR : Addr) (x y : V) (H : Hp) (Q : VK) (E : XK) : Prop :=
  (∃ t b : Int, x = .int t ∧ y = .int b ∧ b ≠ 0 ∧ t.natAbs < 2 ^ 4000 ∧ b.natAbs < 2 ^ 4000 ∧ ∀ a H', Same H H' → RatAt H' a C (lowT t b) (lowB t b) → Q (.ref a) H') ∨
  (IntIs K H x false ∧ Rz H E BR [("part", .str "top")]) ∨ (∃ t, x = .int t ∧ (IntIs K H y false ∨ y = .int 0) ∧ Rz H E BR [("part", .str "bottom")])
theorem IntIs.same {H' : Hp} {x : V} {b : Bool} (h : IntIs K H x b) (s : Same H H') : IntIs K H' x b := by
  obtain ⟨t, b1, b2, ty, r⟩ := h
  refine ⟨t, b1, b2, ?_, r⟩
  cases ty with
  | base z =>
    refine .base ?_
    cases z with
    | non => exact .non
    | bl x => exact .bl x
    | int i => exact .int i
    | str x => exact .str x
    | flt x => exact .flt x
    | lst e => exact .lst (s _ _ e)
    | frz e => exact .frz (s _ _ e)
    | tup e => exact .tup (s _ _ e)
    | dK e => exact .dK (s _ _ e)
    | dT e => exact .dT (s _ _ e)
    | ins e a1 a2 a3 a4 a5 => exact .ins (s _ _ e) a1 a2 a3 a4 a5
  | byt b => exact .byt b
  | set e => exact .set (s _ _ e)
  | kList e c => exact .kList e c
  | kTuple e c => exact .kTuple e c
  | kDict e c => exact .kDict e c
  | fTuple e => exact .fTuple (s _ _ e)
  | fDict e => exact .fDict (s _ _ e)
theorem mkR_sp {x y : V} {Q : VK} {E : XK} (h : MkR K C BR x y H Q E) (a dx : Addr) (na : H a = none) (nd : H dx = none) (ne : dx ≠ a) :
    spRI K C BR [.ref a, x, y] (upd (upd H dx (.own a)) a (.ins C dx [])) (fun v H2 => v = .non ∧ Q (.ref a) H2) E := by
  have s1 : Same H (upd (upd H dx (.own a)) a (.ins C dx [])) := fun b o e => by rw [upd_ne (ne_of_none e na), upd_ne (ne_of_none e nd)]; exact e
  refine ⟨a, x, y, rfl, ?_⟩
  rcases h with ⟨t, b, rfl, rfl, hb, h1, h2, k⟩ | ⟨hx, rz⟩ | ⟨t, rfl, hy, rz⟩
  · refine .inl ⟨t, b, dx, rfl, rfl, hb, h1, h2, upd_same, fun H' off at_ => ⟨rfl, k a H' (fun b o e => ?_) ⟨dx, at_⟩⟩⟩
    rw [off b (ne_of_none e na)]
    exact s1 b o e
  · exact .inr (.inl ⟨IntIs.same hx s1, Rz.same rz s1⟩)
  · exact .inr (.inr ⟨t, rfl, hy.imp (fun z => IntIs.same z s1) id, Rz.same rz s1⟩)
end
section
variable {X : Cx} {C BR : Addr} {E : XK} {x : Str} {p pos : Pos} {e1 e2 : Expr} {ta : TA}
def tRat2 (K : PySem.W.Frag) (C BR : Addr) (E : XK) (ta : TA) : TE := fun σ H Q => ta σ H fun vs H1 => ∃ x y, vs = [x, y] ∧ MkR K C BR x y H1 Q E
def tRat1 (K : PySem.W.Frag) (C BR : Addr) (E : XK) (ta : TA) : TE := fun σ H Q => ta σ H fun vs H1 => ∃ x, vs = [x] ∧ MkR K C BR x (.int 1) H1 Q E
theorem pe_rat2 (R : RatK X.prog X.w X.K X.mg X.base C BR) (hr : Room 4 X.A) (hx : Passes (L2.CX X.prog X.w) X E) (hg : Gl X "Ratio") (ha : PA X [e1, e2] ta)
    (he : starEach [e1, e2] X.env = (false, eval e1 X.env) :: starEach [e2] X.env := by rfl) (hpl : (backTo pos (starEach [e2] X.env)).any (·.1) = false := by rfl) :
    PE X (.Call (.Name "Ratio" p) [e1, e2] [] pos) (tRat2 X.K C BR E ta) := by
  obtain ⟨f, fd, ds, M, F, b0, b1, r1⟩ := R.make
  refine ⟨fun pins s σ H Q I h => ?_⟩
  refine wpAny_Call_Name_kw (ld_glob I hg R.g ?_ (by decide))
  refine PySem.W.callWith_K (h₀ := X.base) I.ok.mod.kin M.kp (thn (ha.run pos pins s σ H _ I h) fun us s1 ⟨vs, H1, I1, r, q⟩ => ⟨I1.kIn, ?_⟩) he hpl
  obtain ⟨x, y, rfl, q⟩ := q
  exact run_make (dvs := []) M F hr b0 .nil hx I1 r fun a dx na nd ne => mkR_sp q a dx na nd ne
theorem pe_rat1 (R : RatK X.prog X.w X.K X.mg X.base C BR) (hr : Room 4 X.A) (hx : Passes (L2.CX X.prog X.w) X E) (hg : Gl X "Ratio") (ha : PA X [e1] ta)
    (he : starEach [e1] X.env = (false, eval e1 X.env) :: starEach [] X.env := by rfl) (hpl : (backTo pos (starEach [] X.env)).any (·.1) = false := by rfl) :
    PE X (.Call (.Name "Ratio" p) [e1] [] pos) (tRat1 X.K C BR E ta) := by
  obtain ⟨f, fd, ds, M, F, b0, b1, r1⟩ := R.make
  refine ⟨fun pins s σ H Q I h => ?_⟩
  refine wpAny_Call_Name_kw (ld_glob I hg R.g ?_ (by decide))
  refine PySem.W.callWith_K (h₀ := X.base) I.ok.mod.kin M.kp (thn (ha.run pos pins s σ H _ I h) fun us s1 ⟨vs, H1, I1, r, q⟩ => ⟨I1.kIn, ?_⟩) he hpl
  obtain ⟨x, rfl, q⟩ := q
  exact run_make (dvs := [.int 1]) M F hr b1 r1 hx I1 r fun a dx na nd ne => mkR_sp q a dx na nd ne
end
end K04
namespace K04
open PySem PySem.Spec PyProof.Rows L2 RatM
/-- a ratio or an integer: p / q -/
def NumAt (H : Hp) (C : Addr) (x : V) (p q : Int) : Prop := (∃ a, x = .ref a ∧ RatAt H a C p q) ∨ (x = .int p ∧ q = 1 ∧ p.natAbs < 2 ^ 4000)
theorem NumAt.same {H H' : Hp} {C : Addr} {x : V} {p q : Int} (h : NumAt H C x p q) (s : Same H H') : NumAt H' C x p q := h.imp (fun ⟨a, e, r⟩ => ⟨a, e, r.same s⟩) id
/-- x as a ratio; otherwise BadRatio(part) -/
def AsR (K : PySem.W.Frag) (C BR : Addr) (x : V) (part : Str) (H : Hp) (Q : VK) (E : XK) : Prop :=
  (∃ p q : Int, NumAt H C x p q ∧ ∀ a H', Same H H' → RatAt H' a C p q → Q (.ref a) H') ∨ (NotNum K H C x ∧ Rz H E BR [("part", .str part)])
def spRO (K : PySem.W.Frag) (C BR : Addr) : Sp := fun vs H Q E => ∃ x part, vs = [x, .str part] ∧ AsR K C BR x part H Q E
section
variable {P : Program} {w : World} {K : PySem.W.Frag} {mg : Str → Option Value} {base : Heap} {C BR : Addr}
theorem scRO : FnScope ["value", "part"] ["value", "part"] (defScope (top 32)) := ⟨rfl, rfl, rfl, by decide +kernel, rfl, by decide +kernel, by decide +kernel⟩
theorem ok_ratioOf {f : Addr} {fd : FuncData} (F : FnP K "_ratio_of" (top 32) f fd) (R : RatK P w K mg base C BR) : FnOk P w K mg base (L2.CX P w) 5 f fd ["value", "part"] (spRO K C BR) := by
  obtain ⟨fI, fdI, GI, bI, kI, gI⟩ := R.int
  refine F.ok scRO (fun vs H Q E h => ?_) (fun cdv A outer s H vs Q E hr h => ?_)
  · obtain ⟨x, part, rfl, _⟩ := h
    rfl
  · obtain ⟨x, part, rfl, h⟩ := h
    have hr4 : Room 4 _ := hr
    have hr2 : Room 2 _ := hr4.mono (by decide)
    have hr1 : Room 1 _ := hr4.mono (by decide)
    refine ⟨_, pss_cons (ps_if (pt_val (pe_callB call_isi (by rfl) R.bi (by decide +kernel) (pa_cons (pv 0) (pa_cons (pe_glob (v := .ref _) rfl R.g rfl) pa_nil)))) (pss_one (ps_ret (pv 0))) pss_nil)
      (pss_cons (ps_if (pt_val (pe_call GI hr1 rfl gI kI bI .nil pass0 (pa_cons (pv 0) pa_nil))) (pss_one (ps_ret (pe_rat1 R hr4 (E := E0) passL (by rfl) (pa_cons (pv 0) pa_nil)))) pss_nil)
      (pss_one (ps_raiseN rfl R.M hr2 (takes_of rfl rfl rfl rfl) (by rfl) (pa_cons (pv 1) pa_nil)))), ?_⟩
    rcases h with ⟨p, q, ⟨a, rfl, ha⟩ | ⟨rfl, rfl, hp⟩, k⟩ | ⟨⟨⟨t, ty, kt⟩, hi⟩, rz⟩
    · refine ⟨_, rfl, _, _, _, _, _, rfl, .own C, ha.ty R.T R.I, R.I.cc, _, rfl, iteT ⟨_, rfl, k a H (Same.refl H) ha⟩⟩
    · refine ⟨_, rfl, _, _, _, _, _, rfl, .own C, .base (.int p), R.I.ic, _, rfl, iteF ?_⟩
      refine ⟨_, rfl, _, _, rfl, intIs_int p, _, rfl, iteT ?_⟩
      refine ⟨_, rfl, _, rfl, .inl ⟨p, 1, rfl, rfl, by decide, hp, by decide +kernel, fun a H' s ra => k a H' s ?_⟩⟩
      obtain ⟨e1, e2⟩ := low_self (p := p) (q := 1) (by decide) (Int.gcd_one ..)
      rw [e1, e2] at ra
      exact ra
    · refine ⟨_, rfl, _, _, _, _, _, rfl, .own C, ty, kt, _, rfl, iteF ?_⟩
      refine ⟨_, rfl, _, _, rfl, hi, _, rfl, iteF ?_⟩
      exact ⟨_, rfl, raiseN R.M rfl (by decide) rz⟩
end
end K04
namespace K04
open PySem PySem.Spec PyProof.Rows L2 RatM
/-- what a callee raises goes on through the frame -/
theorem passE {X : Cx} {E : XK} (tk : Takes X fun c d _ H => E c d H) : Passes (L2.CX X.prog X.w) X E := fun _ _ _ _ e s' I c => tk e s' (XE.of_call I (fun _ _ _ h => h) c)
abbrev Sz (p : Int) : Prop := p.natAbs < 2 ^ 1900
theorem sz_mul {p q : Int} (hp : Sz p) (hq : Sz q) : CMulW p q := wide_mul hp hq (by decide) (by decide) (by decide)
theorem sz_prod {p q : Int} (hp : Sz p) (hq : Sz q) : (p * q).natAbs < 2 ^ 3800 := wide_lt hp hq
theorem sz_big {p : Int} (h : p.natAbs < 2 ^ 3800) : p.natAbs < 2 ^ 4000 := Nat.lt_of_lt_of_le h (Nat.pow_le_pow_right (by decide) (by decide))
theorem sz_two {m : Nat} (h : m < 2 ^ 3800 + 2 ^ 3800) : m < 2 ^ 4000 := by
  have e : (2 : Nat) ^ 3800 + 2 ^ 3800 ≤ 2 ^ 4000 := by
    have z : (2 : Nat) ^ 3801 ≤ 2 ^ 4000 := Nat.pow_le_pow_right (by decide) (by decide)
    have y : (2 : Nat) ^ 3801 = 2 ^ 3800 * 2 := Nat.pow_succ ..
    omega
  omega
theorem sz_add {p q : Int} (hp : p.natAbs < 2 ^ 3800) (hq : q.natAbs < 2 ^ 3800) : (p + q).natAbs < 2 ^ 4000 := by
  have h := Int.natAbs_add_le p q
  exact sz_two (by omega)
theorem sz_sub {p q : Int} (hp : p.natAbs < 2 ^ 3800) (hq : q.natAbs < 2 ^ 3800) : (p - q).natAbs < 2 ^ 4000 := by
  have h := Int.natAbs_sub_le p q
  exact sz_two (by omega)
/-- an operator's own method: g tells the top from both pairs -/
def spArith (K : PySem.W.Frag) (C BR : Addr) (g : Int → Int → Int → Int → Int) : Sp := fun vs H Q E => ∃ (a : Addr) (y : V) (p q : Int), vs = [.ref a, y] ∧ RatAt H a C p q ∧ Sz p ∧ Sz q ∧ q ≠ 0 ∧
  ((∃ p' q' : Int, NumAt H C y p' q' ∧ Sz p' ∧ Sz q' ∧ q' ≠ 0 ∧ ∀ a' H', Same H H' → RatAt H' a' C (lowT (g p q p' q') (q * q')) (lowB (g p q p' q') (q * q')) → Q (.ref a') H') ∨ (NotNum K H C y ∧ Rz H E BR [("part", .str "other")]))
section
variable {P : Program} {w : World} {K : PySem.W.Frag} {mg : Str → Option Value} {base : Heap} {C BR : Addr}
/-- the functions that the methods call -/
structure RatF (P : Program) (w : World) (K : PySem.W.Frag) (mg : Str → Option Value) (base : Heap) (C BR : Addr) : Prop extends RatK P w K mg base C BR where
  ro : ∃ (f : Addr) (fd : FuncData), FnOk P w K mg base (L2.CX P w) 5 f fd ["value", "part"] (spRO K C BR) ∧ Binds K fd ["value", "part"] [] ∧ PySem.W.keepIn K (.ref f) = true ∧ mg "_ratio_of" = some (.ref f)
theorem scAdd : FnScope ["self", "other", "right"] ["self", "other"] (defScope (ratM 6)) := ⟨rfl, rfl, rfl, by decide +kernel, rfl, by decide +kernel, by decide +kernel⟩
theorem ok_add {f : Addr} {fd : FuncData} (F : MtP K "__add__" "Ratio.__add__" (ratM 6) f fd) (R : RatF P w K mg base C BR) : FnOk P w K mg base (L2.CX P w) 6 f fd ["self", "other"] (spArith K C BR fun p q p' q' => p * q' + p' * q) := by
  obtain ⟨fO, fdO, GO, bO, kO, gO⟩ := R.ro
  refine F.ok scAdd (fun vs H Q E h => ?_) (fun cdv A outer s H vs Q E hr h => ?_)
  · obtain ⟨a, y, p, q, rfl, _⟩ := h
    rfl
  · obtain ⟨a, y, p, q, rfl, ha, sp, sq, hq, h⟩ := h
    have hr5 : Room 5 _ := hr
    have hr4 : Room 4 _ := hr5.mono (by decide)
    have T := R.T
    have nt := T.no "top" (by simp)
    have nb := T.no "bottom" (by simp)
    refine ⟨_, pss_cons (ps_set (i := 2) scAdd.nd rfl (.inl rfl) (pe_call GO hr5 rfl gO kO bO .nil (passE (takes_of rfl rfl rfl rfl)) (pa_cons (pv 1) (pa_cons pe_str pa_nil))))
      (pss_one (ps_ret (pe_rat2 R.toRatK hr4 (E := E0) passL (by rfl) (pa_cons (pe_op op_add (pe_op op_mulW (pe_fld (pv 0) rfl) (pe_fld (pv 2) rfl)) (pe_op op_mulW (pe_fld (pv 2) rfl) (pe_fld (pv 0) rfl))) (pa_cons (pe_op op_mulW (pe_fld (pv 0) rfl) (pe_fld (pv 2) rfl)) pa_nil))))), ?_⟩
    rcases h with ⟨p', q', hn, sp', sq', hq', k⟩ | ⟨hn, rz⟩
    · refine ⟨_, rfl, _, _, rfl, .inl ⟨p', q', hn, fun b H1 s1 hb => ?_⟩⟩
      obtain ⟨dx, ea⟩ := ha.same s1
      obtain ⟨dx', eb⟩ := hb
      refine ⟨_, rfl, a, C, dx, _, _, rfl, ea, T.cls, nt, rfl, _, rfl, b, C, dx', _, _, rfl, eb, T.cls, nb, rfl, _, _, rfl, rfl, sz_mul sp sq', ?_⟩
      refine ⟨_, rfl, b, C, dx', _, _, rfl, eb, T.cls, nt, rfl, _, rfl, a, C, dx, _, _, rfl, ea, T.cls, nb, rfl, _, _, rfl, rfl, sz_mul sp' sq, _, _, rfl, rfl, ?_⟩
      refine ⟨_, rfl, a, C, dx, _, _, rfl, ea, T.cls, nb, rfl, _, rfl, b, C, dx', _, _, rfl, eb, T.cls, nb, rfl, _, _, rfl, rfl, sz_mul sq sq', ?_⟩
      exact ⟨_, _, rfl, .inl ⟨_, _, rfl, rfl, Int.mul_ne_zero hq hq', sz_add (sz_prod sp sq') (sz_prod sp' sq), sz_big (sz_prod sq sq'), fun a' H' s ra => k a' H' (s1.trans s) ra⟩⟩
    · exact ⟨_, rfl, _, _, rfl, .inr ⟨hn, rz⟩⟩
end
end K04
namespace K04
open PySem PySem.Spec PyProof.Rows L2 RatM
section
variable {P : Program} {w : World} {K : PySem.W.Frag} {mg : Str → Option Value} {base : Heap} {C BR : Addr}
theorem scSub : FnScope ["self", "other", "right"] ["self", "other"] (defScope (ratM 7)) := ⟨rfl, rfl, rfl, by decide +kernel, rfl, by decide +kernel, by decide +kernel⟩
theorem ok_sub {f : Addr} {fd : FuncData} (F : MtP K "__sub__" "Ratio.__sub__" (ratM 7) f fd) (R : RatF P w K mg base C BR) : FnOk P w K mg base (L2.CX P w) 6 f fd ["self", "other"] (spArith K C BR fun p q p' q' => p * q' - p' * q) := by
  obtain ⟨fO, fdO, GO, bO, kO, gO⟩ := R.ro
  refine F.ok scSub (fun vs H Q E h => ?_) (fun cdv A outer s H vs Q E hr h => ?_)
  · obtain ⟨a, y, p, q, rfl, _⟩ := h
    rfl
  · obtain ⟨a, y, p, q, rfl, ha, sp, sq, hq, h⟩ := h
    have hr5 : Room 5 _ := hr
    have hr4 : Room 4 _ := hr5.mono (by decide)
    have T := R.T
    have nt := T.no "top" (by simp)
    have nb := T.no "bottom" (by simp)
    refine ⟨_, pss_cons (ps_set (i := 2) scSub.nd rfl (.inl rfl) (pe_call GO hr5 rfl gO kO bO .nil (passE (takes_of rfl rfl rfl rfl)) (pa_cons (pv 1) (pa_cons pe_str pa_nil))))
      (pss_one (ps_ret (pe_rat2 R.toRatK hr4 (E := E0) passL (by rfl) (pa_cons (pe_op op_sub (pe_op op_mulW (pe_fld (pv 0) rfl) (pe_fld (pv 2) rfl)) (pe_op op_mulW (pe_fld (pv 2) rfl) (pe_fld (pv 0) rfl))) (pa_cons (pe_op op_mulW (pe_fld (pv 0) rfl) (pe_fld (pv 2) rfl)) pa_nil))))), ?_⟩
    rcases h with ⟨p', q', hn, sp', sq', hq', k⟩ | ⟨hn, rz⟩
    · refine ⟨_, rfl, _, _, rfl, .inl ⟨p', q', hn, fun b H1 s1 hb => ?_⟩⟩
      obtain ⟨dx, ea⟩ := ha.same s1
      obtain ⟨dx', eb⟩ := hb
      refine ⟨_, rfl, a, C, dx, _, _, rfl, ea, T.cls, nt, rfl, _, rfl, b, C, dx', _, _, rfl, eb, T.cls, nb, rfl, _, _, rfl, rfl, sz_mul sp sq', ?_⟩
      refine ⟨_, rfl, b, C, dx', _, _, rfl, eb, T.cls, nt, rfl, _, rfl, a, C, dx, _, _, rfl, ea, T.cls, nb, rfl, _, _, rfl, rfl, sz_mul sp' sq, _, _, rfl, rfl, ?_⟩
      refine ⟨_, rfl, a, C, dx, _, _, rfl, ea, T.cls, nb, rfl, _, rfl, b, C, dx', _, _, rfl, eb, T.cls, nb, rfl, _, _, rfl, rfl, sz_mul sq sq', ?_⟩
      exact ⟨_, _, rfl, .inl ⟨_, _, rfl, rfl, Int.mul_ne_zero hq hq', sz_sub (sz_prod sp sq') (sz_prod sp' sq), sz_big (sz_prod sq sq'), fun a' H' s ra => k a' H' (s1.trans s) ra⟩⟩
    · exact ⟨_, rfl, _, _, rfl, .inr ⟨hn, rz⟩⟩
theorem scMul : FnScope ["self", "other", "right"] ["self", "other"] (defScope (ratM 8)) := ⟨rfl, rfl, rfl, by decide +kernel, rfl, by decide +kernel, by decide +kernel⟩
theorem ok_mul {f : Addr} {fd : FuncData} (F : MtP K "__mul__" "Ratio.__mul__" (ratM 8) f fd) (R : RatF P w K mg base C BR) : FnOk P w K mg base (L2.CX P w) 6 f fd ["self", "other"] (spArith K C BR fun p q p' q' => p * p') := by
  obtain ⟨fO, fdO, GO, bO, kO, gO⟩ := R.ro
  refine F.ok scMul (fun vs H Q E h => ?_) (fun cdv A outer s H vs Q E hr h => ?_)
  · obtain ⟨a, y, p, q, rfl, _⟩ := h
    rfl
  · obtain ⟨a, y, p, q, rfl, ha, sp, sq, hq, h⟩ := h
    have hr5 : Room 5 _ := hr
    have hr4 : Room 4 _ := hr5.mono (by decide)
    have T := R.T
    have nt := T.no "top" (by simp)
    have nb := T.no "bottom" (by simp)
    refine ⟨_, pss_cons (ps_set (i := 2) scMul.nd rfl (.inl rfl) (pe_call GO hr5 rfl gO kO bO .nil (passE (takes_of rfl rfl rfl rfl)) (pa_cons (pv 1) (pa_cons pe_str pa_nil))))
      (pss_one (ps_ret (pe_rat2 R.toRatK hr4 (E := E0) passL (by rfl) (pa_cons (pe_op op_mulW (pe_fld (pv 0) rfl) (pe_fld (pv 2) rfl)) (pa_cons (pe_op op_mulW (pe_fld (pv 0) rfl) (pe_fld (pv 2) rfl)) pa_nil))))), ?_⟩
    rcases h with ⟨p', q', hn, sp', sq', hq', k⟩ | ⟨hn, rz⟩
    · refine ⟨_, rfl, _, _, rfl, .inl ⟨p', q', hn, fun b H1 s1 hb => ?_⟩⟩
      obtain ⟨dx, ea⟩ := ha.same s1
      obtain ⟨dx', eb⟩ := hb
      refine ⟨_, rfl, a, C, dx, _, _, rfl, ea, T.cls, nt, rfl, _, rfl, b, C, dx', _, _, rfl, eb, T.cls, nt, rfl, _, _, rfl, rfl, sz_mul sp sp', ?_⟩
      refine ⟨_, rfl, a, C, dx, _, _, rfl, ea, T.cls, nb, rfl, _, rfl, b, C, dx', _, _, rfl, eb, T.cls, nb, rfl, _, _, rfl, rfl, sz_mul sq sq', ?_⟩
      exact ⟨_, _, rfl, .inl ⟨_, _, rfl, rfl, Int.mul_ne_zero hq hq', sz_big (sz_prod sp sp'), sz_big (sz_prod sq sq'), fun a' H' s ra => k a' H' (s1.trans s) ra⟩⟩
    · exact ⟨_, rfl, _, _, rfl, .inr ⟨hn, rz⟩⟩
/-- -r, abs(r) -/
def spSelf (K : PySem.W.Frag) (C : Addr) (g : Int → Int) : Sp := fun vs H Q _ => ∃ (a : Addr) (p q : Int), vs = [.ref a] ∧ RatAt H a C p q ∧ Sz p ∧ Sz q ∧ q ≠ 0 ∧ ∀ a' H', Same H H' → RatAt H' a' C (lowT (g p) q) (lowB (g p) q) → Q (.ref a') H'
theorem sz_up {p : Int} (h : Sz p) : p.natAbs < 2 ^ 4000 := Nat.lt_of_lt_of_le h (Nat.pow_le_pow_right (by decide) (by decide))
theorem scNeg : FnScope ["self"] ["self"] (defScope (ratM 9)) := ⟨rfl, rfl, rfl, by decide +kernel, rfl, by decide +kernel, by decide +kernel⟩
theorem ok_neg {f : Addr} {fd : FuncData} (F : MtP K "__neg__" "Ratio.__neg__" (ratM 9) f fd) (R : RatF P w K mg base C BR) : FnOk P w K mg base (L2.CX P w) 5 f fd ["self"] (spSelf K C fun p => -p) := by
  refine F.ok scNeg (fun vs H Q E h => ?_) (fun cdv A outer s H vs Q E hr h => ?_)
  · obtain ⟨a, p, q, rfl, _⟩ := h
    rfl
  · obtain ⟨a, p, q, rfl, ⟨dx, ea⟩, sp, sq, hq, k⟩ := h
    have hr4 : Room 4 _ := hr
    have T := R.T
    refine ⟨_, pss_one (ps_ret (pe_rat2 R.toRatK hr4 (E := E0) passL (by rfl) (pa_cons (pe_un un_neg (pe_fld (pv 0) rfl)) (pa_cons (pe_fld (pv 0) rfl) pa_nil)))), ?_⟩
    refine ⟨_, rfl, a, C, dx, _, _, rfl, ea, T.cls, T.no "top" (by simp), rfl, _, rfl, _, rfl, a, C, dx, _, _, rfl, ea, T.cls, T.no "bottom" (by simp), rfl, ?_⟩
    exact ⟨_, _, rfl, .inl ⟨_, _, rfl, rfl, hq, by rw [Int.natAbs_neg]; exact sz_up sp, sz_up sq, k⟩⟩
theorem scAbs : FnScope ["self"] ["self"] (defScope (ratM 10)) := ⟨rfl, rfl, rfl, by decide +kernel, rfl, by decide +kernel, by decide +kernel⟩
theorem ok_abs {f : Addr} {fd : FuncData} (F : MtP K "__abs__" "Ratio.__abs__" (ratM 10) f fd) (R : RatF P w K mg base C BR) (ba : mg "abs" = none) : FnOk P w K mg base (L2.CX P w) 5 f fd ["self"] (spSelf K C fun p => if p < 0 then -p else p) := by
  refine F.ok scAbs (fun vs H Q E h => ?_) (fun cdv A outer s H vs Q E hr h => ?_)
  · obtain ⟨a, p, q, rfl, _⟩ := h
    rfl
  · obtain ⟨a, p, q, rfl, ⟨dx, ea⟩, sp, sq, hq, k⟩ := h
    have hr4 : Room 4 _ := hr
    have T := R.T
    refine ⟨_, pss_one (ps_ret (pe_rat2 R.toRatK hr4 (E := E0) passL (by rfl) (pa_cons (pe_callB call_abs (by rfl) ba (by decide +kernel) (pa_cons (pe_fld (pv 0) rfl) pa_nil)) (pa_cons (pe_fld (pv 0) rfl) pa_nil)))), ?_⟩
    refine ⟨_, rfl, a, C, dx, _, _, rfl, ea, T.cls, T.no "top" (by simp), rfl, _, rfl, _, rfl, a, C, dx, _, _, rfl, ea, T.cls, T.no "bottom" (by simp), rfl, ?_⟩
    exact ⟨_, _, rfl, .inl ⟨_, _, rfl, rfl, hq, by split; (· rw [Int.natAbs_neg]; exact sz_up sp); exact sz_up sp, sz_up sq, k⟩⟩
end
end K04
namespace K04
open PySem PySem.Spec PyProof.Rows L2 RatM
theorem decI (i j : Int) : decide (V.int i = V.int j) = decide (i = j) := by
  by_cases h : i = j
  · rw [decide_eq_true h, decide_eq_true (congrArg V.int h)]
  · rw [decide_eq_false h, decide_eq_false fun z => h (V.int.inj z)]
theorem empty_app (x : Str) : Str.empty ++ x = x := by
  obtain ⟨c⟩ := x
  show (⟨#[] ++ c⟩ : Str) = ⟨c⟩
  simp
/-- r == y -/
def spSame (K : PySem.W.Frag) (C : Addr) : Sp := fun vs H Q _ => ∃ (a : Addr) (y : V) (p q : Int), vs = [.ref a, y] ∧ RatAt H a C p q ∧
  ((∃ b p' q', y = .ref b ∧ RatAt H b C p' q' ∧ Q (.bl (decide (p = p') && decide (q = q'))) H) ∨ (∃ i, y = .int i ∧ Q (.bl (decide (q = 1) && decide (p = i))) H) ∨ (NotNum K H C y ∧ Q (.bl false) H))
/-- a ratio's text -/
def textR (p q : Int) : Str := if q = 1 then (toString p : String) else (Str.ofString (toString p) ++ "/") ++ Str.ofString (toString q)
def spText (K : PySem.W.Frag) (C : Addr) : Sp := fun vs H Q _ => ∃ (a : Addr) (p q : Int), vs = [.ref a] ∧ RatAt H a C p q ∧ Sz p ∧ Sz q ∧ Q (.str (textR p q)) H
def spTruth (K : PySem.W.Frag) (C : Addr) : Sp := fun vs H Q _ => ∃ (a : Addr) (p q : Int), vs = [.ref a] ∧ RatAt H a C p q ∧ Q (.bl (decide (p ≠ 0))) H
section
variable {P : Program} {w : World} {K : PySem.W.Frag} {mg : Str → Option Value} {base : Heap} {C BR : Addr}
theorem scSa : FnScope ["ratio", "other"] ["ratio", "other"] (defScope (top 33)) := ⟨rfl, rfl, rfl, by decide +kernel, rfl, by decide +kernel, by decide +kernel⟩
theorem ok_isSame {f : Addr} {fd : FuncData} (F : FnP K "_is_same" (top 33) f fd) (R : RatK P w K mg base C BR) : FnOk P w K mg base CX0 2 f fd ["ratio", "other"] (spSame K C) := by
  obtain ⟨fI, fdI, GI, bI, kI, gI⟩ := R.int
  refine F.ok scSa (fun vs H Q E h => ?_) (fun cdv A outer s H vs Q E hr h => ?_)
  · obtain ⟨a, y, p, q, rfl, _⟩ := h
    rfl
  · obtain ⟨a, y, p, q, rfl, ⟨dx, ea⟩, h⟩ := h
    have hr1 : Room 1 _ := hr
    have T := R.T
    have nt := T.no "top" (by simp)
    have nb := T.no "bottom" (by simp)
    have ni := T.no "is_whole" (by simp)
    refine ⟨_, PSs.nox (pss_cons (ps_if (pt_val (pe_callB call_isi (by rfl) R.bi (by decide +kernel) (pa_cons (pv 1) (pa_cons (pe_glob (v := .ref _) rfl R.g rfl) pa_nil))))
        (pss_one (ps_ret (pe_and (pe_cmpR op_eq (pe_fld (pv 0) rfl) (pe_fld (pv 1) rfl) (nomark _)) (pe_one (pe_cmpR op_eq (pe_fld (pv 0) rfl) (pe_fld (pv 1) rfl) (nomark _)))))) pss_nil)
      (pss_one (ps_ret (pe_and (pe_call GI hr1 rfl gI kI bI .nil pass0 (pa_cons (pv 1) pa_nil)) (pe_and (pe_fld (pv 0) rfl) (pe_one (pe_cmpR op_eq (pe_fld (pv 0) rfl) (pv 1) (nomark _)))))))), ?_⟩
    rcases h with ⟨b, p', q', rfl, hb, k⟩ | ⟨i, rfl, k⟩ | ⟨⟨⟨t, ty, kt⟩, hi⟩, k⟩
    · have tb := hb.ty R.T R.I
      obtain ⟨dx', eb⟩ := hb
      refine ⟨_, rfl, _, _, _, _, _, rfl, .own C, tb, R.I.cc, _, rfl, iteT ?_⟩
      refine ⟨_, rfl, a, C, dx, _, _, rfl, ea, T.cls, nt, rfl, _, rfl, b, C, dx', _, _, rfl, eb, T.cls, nt, rfl, rfl, decide (p = p'), congrArg V.bl (decI ..), ?_⟩
      by_cases e : p = p'
      · rw [decide_eq_true e] at k ⊢
        refine iteT ⟨_, rfl, a, C, dx, _, _, rfl, ea, T.cls, nb, rfl, _, rfl, b, C, dx', _, _, rfl, eb, T.cls, nb, rfl, rfl, ?_⟩
        show Q (.bl (decide (V.int q = V.int q'))) H
        rw [decI]
        exact k
      · rw [decide_eq_false e] at k ⊢
        exact iteF k
    · refine ⟨_, rfl, _, _, _, _, _, rfl, .own C, .base (.int i), R.I.ic, _, rfl, iteF ?_⟩
      refine ⟨_, rfl, _, _, rfl, intIs_int i, _, rfl, iteT ⟨_, rfl, a, C, dx, _, _, rfl, ea, T.cls, ni, rfl, decide (q = 1), congrArg V.bl (decI ..), ?_⟩⟩
      by_cases e : q = 1
      · rw [decide_eq_true e] at k ⊢
        refine iteT ⟨_, rfl, a, C, dx, _, _, rfl, ea, T.cls, nt, rfl, _, rfl, rfl, ?_⟩
        show Q (.bl (decide (V.int p = V.int i))) H
        rw [decI]
        exact k
      · rw [decide_eq_false e] at k ⊢
        exact iteF k
    · refine ⟨_, rfl, _, _, _, _, _, rfl, .own C, ty, kt, _, rfl, iteF ?_⟩
      exact ⟨_, rfl, _, _, rfl, hi, _, rfl, iteF k⟩
theorem scEq : FnScope ["self", "other"] ["self", "other"] (defScope (ratM 12)) := ⟨rfl, rfl, rfl, by decide +kernel, rfl, by decide +kernel, by decide +kernel⟩
theorem ok_eq {f fS : Addr} {fd fdS : FuncData} (F : MtP K "__eq__" "Ratio.__eq__" (ratM 12) f fd) (R : RatK P w K mg base C BR) (FS : FnP K "_is_same" (top 33) fS fdS) (gS : mg "_is_same" = some (.ref fS)) : FnOk P w K mg base CX0 3 f fd ["self", "other"] (spSame K C) := by
  have GS : FnOk P w K mg base CX0 2 fS fdS ["ratio", "other"] (spSame K C) := ok_isSame FS R
  have bS : Binds K fdS ["ratio", "other"] [] := FS.bindsN fun _ _ _ _ _ _ us hl => match us, hl with | [_, _], _ => rfl
  refine F.ok scEq (fun vs H Q E h => ?_) (fun cdv A outer s H vs Q E hr h => ?_)
  · obtain ⟨a, y, p, q, rfl, _⟩ := h
    rfl
  · obtain ⟨a, y, p, q, rfl, h⟩ := h
    have hr2 : Room 2 _ := hr
    exact ⟨_, PSs.nox (pss_one (ps_ret (pe_call GS hr2 rfl gS FS.kp bS .nil pass0 (pa_cons (pv 0) (pa_cons (pv 1) pa_nil))))), _, rfl, _, rfl, a, y, p, q, rfl, h⟩
theorem sign_ne (p : Int) : (b2i (decide (0 < p)) - b2i (decide (p < 0)) != 0) = decide (p ≠ 0) := by
  unfold b2i
  by_cases h1 : 0 < p
  · have h2 : ¬ p < 0 := by omega
    have h3 : p ≠ 0 := by omega
    simp [h1, h2, h3]
  · by_cases h2 : p < 0
    · have h3 : p ≠ 0 := by omega
      simp [h1, h2, h3]
    · have h3 : p = 0 := by omega
      simp [h3]
theorem scBo : FnScope ["self"] ["self"] (defScope (ratM 11)) := ⟨rfl, rfl, rfl, by decide +kernel, rfl, by decide +kernel, by decide +kernel⟩
theorem ok_bool {f : Addr} {fd : FuncData} (F : MtP K "__bool__" "Ratio.__bool__" (ratM 11) f fd) (T : RatC K C) (bb : mg "bool" = none) : FnOk P w K mg base CX0 1 f fd ["self"] (spTruth K C) := by
  refine F.ok scBo (fun vs H Q E h => ?_) (fun cdv A outer s H vs Q E hr h => ?_)
  · obtain ⟨a, p, q, rfl, _⟩ := h
    rfl
  · obtain ⟨a, p, q, rfl, ⟨dx, ea⟩, k⟩ := h
    refine ⟨_, PSs.nox (pss_one (ps_ret (pe_callTy call_bool1 (by rfl) bb PyProof.Rows.boot_bool (pa_cons (pe_fld (pv 0) rfl) pa_nil)))), ?_⟩
    refine ⟨_, rfl, a, C, dx, _, _, rfl, ea, T.cls, T.no "sign" (by simp), rfl, .inl ⟨_, rfl, ?_⟩⟩
    rw [sign_ne]
    exact k
theorem sz_log {p : Int} (h : Sz p) : p.natAbs.log2 < 1920 := Nat.lt_of_lt_of_le (PySem.Flt.log2_lt_of (by decide) h) (by decide)
theorem sz_len {p : Int} (h : Sz p) : (Str.ofString (toString p)).length ≤ 601 := by
  rw [PySem.ofString_length]
  exact int_text_length_le10 (k := 600) (by decide) (Nat.lt_trans h (by decide +kernel))
theorem scWr : FnScope ["ratio"] ["ratio"] (defScope (top 34)) := ⟨rfl, rfl, rfl, by decide +kernel, rfl, by decide +kernel, by decide +kernel⟩
theorem ok_written {f : Addr} {fd : FuncData} (F : FnP K "_written" (top 34) f fd) (T : RatC K C) : FnOk P w K mg base CX0 1 f fd ["ratio"] (spText K C) := by
  refine F.ok scWr (fun vs H Q E h => ?_) (fun cdv A outer s H vs Q E hr h => ?_)
  · obtain ⟨a, p, q, rfl, _⟩ := h
    rfl
  · obtain ⟨a, p, q, rfl, ⟨dx, ea⟩, sp, sq, k⟩ := h
    have nt := T.no "top" (by simp)
    have nb := T.no "bottom" (by simp)
    have ni := T.no "is_whole" (by simp)
    refine ⟨_, PSs.nox (pss_one (ps_ret (pe_ifExp (pt_val (pe_fld (pv 0) rfl)) (pe_joined1 (pe_fmt (pe_fld (pv 0) rfl))) (pe_joined (.cons (pe_fmt (pe_fld (pv 0) rfl)) (.cons pe_str (.cons (pe_fmt (pe_fld (pv 0) rfl)) .nil))))))), ?_⟩
    refine ⟨_, rfl, a, C, dx, _, _, rfl, ea, T.cls, ni, rfl, decide (q = 1), congrArg V.bl (decI ..), ?_⟩
    by_cases e : q = 1
    · rw [decide_eq_true e]
      refine iteT ⟨_, rfl, a, C, dx, _, _, rfl, ea, T.cls, nt, rfl, .inr ⟨p, rfl, sz_log sp, ?_⟩⟩
      have z : textR p q = (toString p : String) := if_pos e
      rw [← z]
      exact k
    · rw [decide_eq_false e]
      refine iteF ?_
      have z : textR p q = (Str.ofString (toString p) ++ "/") ++ Str.ofString (toString q) := if_neg e
      rw [z] at k
      have l1 := sz_len sp
      have l2 := sz_len sq
      have l0 : (Str.empty : Str).length = 0 := rfl
      have ls : (Str.ofString "/").length = 1 := rfl
      refine ⟨_, rfl, a, C, dx, _, _, rfl, ea, T.cls, nt, rfl, .inr ⟨p, rfl, sz_log sp, _, rfl, ?_, _, rfl, ?_, ?_⟩⟩
      · rw [strLen_append, sizeLine_eq]; omega
      · rw [strLen_append, strLen_append, sizeLine_eq]; omega
      · refine ⟨_, rfl, a, C, dx, _, _, rfl, ea, T.cls, nb, rfl, .inr ⟨q, rfl, sz_log sq, _, rfl, ?_, ?_⟩⟩
        · rw [strLen_append, strLen_append, strLen_append, sizeLine_eq]; omega
        · show Q (.str (((Str.empty ++ Str.ofString (toString p)) ++ Str.ofString "/") ++ Str.ofString (toString q))) H
          rw [empty_app]
          exact k
theorem scSt : FnScope ["self"] ["self"] (defScope (ratM 13)) := ⟨rfl, rfl, rfl, by decide +kernel, rfl, by decide +kernel, by decide +kernel⟩
theorem ok_str {f fW : Addr} {fd fdW : FuncData} (F : MtP K "__str__" "Ratio.__str__" (ratM 13) f fd) (T : RatC K C) (FW : FnP K "_written" (top 34) fW fdW) (gW : mg "written_ratios" = some (.ref fW)) (bs : mg "str" = none) : FnOk P w K mg base CX0 2 f fd ["self"] (spText K C) := by
  have GW : FnOk P w K mg base CX0 1 fW fdW ["ratio"] (spText K C) := ok_written FW T
  have bW : Binds K fdW ["ratio"] [] := FW.bindsN fun _ _ _ _ _ _ us hl => match us, hl with | [_], _ => rfl
  refine F.ok scSt (fun vs H Q E h => ?_) (fun cdv A outer s H vs Q E hr h => ?_)
  · obtain ⟨a, p, q, rfl, _⟩ := h
    rfl
  · obtain ⟨a, p, q, rfl, ha, sp, sq, k⟩ := h
    have hr1 : Room 1 _ := hr
    exact ⟨_, PSs.nox (pss_one (ps_ret (pe_callTy SkE.call_str_str (by rfl) bs PyProof.Rows.boot_str (pa_cons (pe_call GW hr1 rfl gW FW.kp bW .nil pass0 (pa_cons (pv 0) pa_nil)) pa_nil)))), _, rfl, a, p, q, rfl, ha, sp, sq, _, rfl, k⟩
theorem scRe : FnScope ["self"] ["self"] (defScope (ratM 14)) := ⟨rfl, rfl, rfl, by decide +kernel, rfl, by decide +kernel, by decide +kernel⟩
theorem ok_repr {f fW : Addr} {fd fdW : FuncData} (F : MtP K "__repr__" "Ratio.__repr__" (ratM 14) f fd) (T : RatC K C) (FW : FnP K "_written" (top 34) fW fdW) (gW : mg "written_ratios" = some (.ref fW)) (bs : mg "str" = none) : FnOk P w K mg base CX0 2 f fd ["self"] (spText K C) := by
  have GW : FnOk P w K mg base CX0 1 fW fdW ["ratio"] (spText K C) := ok_written FW T
  have bW : Binds K fdW ["ratio"] [] := FW.bindsN fun _ _ _ _ _ _ us hl => match us, hl with | [_], _ => rfl
  refine F.ok scRe (fun vs H Q E h => ?_) (fun cdv A outer s H vs Q E hr h => ?_)
  · obtain ⟨a, p, q, rfl, _⟩ := h
    rfl
  · obtain ⟨a, p, q, rfl, ha, sp, sq, k⟩ := h
    have hr1 : Room 1 _ := hr
    exact ⟨_, PSs.nox (pss_one (ps_ret (pe_callTy SkE.call_str_str (by rfl) bs PyProof.Rows.boot_str (pa_cons (pe_call GW hr1 rfl gW FW.kp bW .nil pass0 (pa_cons (pv 0) pa_nil)) pa_nil)))), _, rfl, a, p, q, rfl, ha, sp, sq, _, rfl, k⟩
end
end K04
namespace RatM
theorem lowT_pos {t b : Int} (hb : 0 < b) : decide (0 < lowT t b) = decide (0 < t) ∧ decide (lowT t b < 0) = decide (t < 0) := by
  have m := lowT_mul (t := t) (show b ≠ 0 by omega)
  have d : 0 < lowD t b := by
    unfold lowD
    rw [if_pos hb]
    exact gcd_pos (by omega)
  refine ⟨decide_eq_decide.mpr ⟨fun h => ?_, fun h => ?_⟩, decide_eq_decide.mpr ⟨fun h => ?_, fun h => ?_⟩⟩
  · rw [← m]; exact Int.mul_pos d h
  · rw [← m] at h; exact Int.pos_of_mul_pos_right h d
  · have z : 0 < lowD t b * (-lowT t b) := Int.mul_pos d (by omega)
    rw [Int.mul_neg, m] at z
    omega
  · have z : 0 < lowD t b * (-lowT t b) := by rw [Int.mul_neg, m]; omega
    have y := Int.pos_of_mul_pos_right z d
    omega
end RatM
namespace K04
open PySem PySem.Spec PyProof.Rows L2 RatM
/-- what is neither a ratio nor an integer -/
inductive OddAt (H : Hp) : V → String → Prop where
  | non : OddAt H .non "NoneType"
  | bl (b : Bool) : OddAt H (.bl b) "bool"
  | str (x : Str) : OddAt H (.str x) "str"
  | lst {a : Addr} {xs : List V} (e : H a = some (.lst xs)) : OddAt H (.ref a) "list"
  | tup {a : Addr} {xs : List V} (e : H a = some (.tup xs)) : OddAt H (.ref a) "tuple"
  | dK {a : Addr} {kvs : List (Key × V)} (e : H a = some (.dK kvs)) : OddAt H (.ref a) "dict"
theorem OddAt.same {H H' : Hp} {y : V} {T : String} (h : OddAt H y T) (s : Same H H') : OddAt H' y T := by
  cases h with
  | non => exact .non
  | bl b => exact .bl b
  | str x => exact .str x
  | lst e => exact .lst (s _ _ e)
  | tup e => exact .tup (s _ _ e)
  | dK e => exact .dK (s _ _ e)
def oddTypes : List String := ["NoneType", "bool", "str", "list", "tuple", "dict"]
theorem OddAt.mem {H : Hp} {y : V} {T : String} (h : OddAt H y T) : T ∈ oddTypes := by cases h <;> decide
theorem OddAt.ty {K : PySem.W.Frag} {H : Hp} {y : V} {T : String} (h : OddAt H y T) : TyX K H y (.type T) := by
  cases h with
  | non => exact .base .non
  | bl b => exact .base (.bl b)
  | str x => exact .base (.str x)
  | lst e => exact .base (.lst e)
  | tup e => exact .base (.tup e)
  | dK e => exact .base (.dK e)
theorem OddAt.at_ {X : Cx} {H : Hp} {y : V} {T : String} (h : OddAt H y T) : TyAt X H y (.type T) := by
  cases h with
  | non => exact ty_plain plainT_non
  | bl b => exact ty_plain (plainT_bl b)
  | str x => exact ty_plain (plainT_str x)
  | lst e => exact ty_lst e
  | tup e => exact ty_tup e
  | dK e => exact ty_dK e
theorem OddAt.notNum {K : PySem.W.Frag} {H : Hp} {C : Addr} {y : V} {T : String} (h : OddAt H y T) (k : ∀ T ∈ oddTypes, PySem.W.kitOne K (.type T) (.ref C) = some false) : NotNum K H C y := by
  refine ⟨⟨_, h.ty, k T h.mem⟩, ?_⟩
  have ty := h.ty (K := K)
  cases h with
  | non => exact intIs_non
  | bl b => exact intIs_bl b
  | str x => exact intIs_str x
  | lst e => exact ⟨_, false, false, ty, kit_ty (by decide +kernel), kit_ty (by decide +kernel), rfl⟩
  | tup e => exact ⟨_, false, false, ty, kit_ty (by decide +kernel), kit_ty (by decide +kernel), rfl⟩
  | dK e => exact ⟨_, false, false, ty, kit_ty (by decide +kernel), kit_ty (by decide +kernel), rfl⟩
def sg (x : Int) : Int := b2i (decide (0 < x)) - b2i (decide (x < 0))
/-- what an own operator asks of the class and of the types at its right -/
structure OpF (K : PySem.W.Frag) (C : Addr) (nm : String) (f : Addr) : Prop where
  m : OwnM K C (PySem.dunder nm) f
  r : PySem.W.findIn K (.ref C) (dunderR nm) = some none
  t : ∀ T ∈ "int" :: oddTypes, RightT K C nm T
structure RatG (P : Program) (w : World) (K : PySem.W.Frag) (mg : Str → Option Value) (base : Heap) (C BR : Addr) : Prop extends RatF P w K mg base C BR where
  sf : PySem.W.selfFirst K C = true
  odd : ∀ T ∈ oddTypes, PySem.W.kitOne K (.type T) (.ref C) = some false
  add : ∃ (f : Addr) (fd : FuncData), OpF K C "add" f ∧ FnOk P w K mg base (L2.CX P w) 6 f fd ["self", "other"] (spArith K C BR fun p q p' q' => p * q' + p' * q) ∧ Binds K fd ["self", "other"] []
  sub : ∃ (f : Addr) (fd : FuncData), OpF K C "sub" f ∧ FnOk P w K mg base (L2.CX P w) 6 f fd ["self", "other"] (spArith K C BR fun p q p' q' => p * q' - p' * q) ∧ Binds K fd ["self", "other"] []
  mul : ∃ (f : Addr) (fd : FuncData), OpF K C "mul" f ∧ FnOk P w K mg base (L2.CX P w) 6 f fd ["self", "other"] (spArith K C BR fun p q p' q' => p * p') ∧ Binds K fd ["self", "other"] []
/-- a value at an operator's right -/
def RightV (H : Hp) (C : Addr) (y : V) : Prop := (∃ p q, NumAt H C y p q) ∨ ∃ T, OddAt H y T
/-- r op y, with g told of both pairs: a ratio, or BadRatio('other') -/
def rRat (K : PySem.W.Frag) (C BR : Addr) (g : Int → Int → Int → Int → Int) (E : XK) : R2 := fun x y H Q => ∃ (a : Addr) (p q : Int), x = .ref a ∧ RatAt H a C p q ∧ Sz p ∧ Sz q ∧ q ≠ 0 ∧
  ((∃ p' q' : Int, NumAt H C y p' q' ∧ Sz p' ∧ Sz q' ∧ q' ≠ 0 ∧ ∀ a' H', Same H H' → RatAt H' a' C (lowT (g p q p' q') (q * q')) (lowB (g p q p' q') (q * q')) → Q (.ref a') H') ∨ (∃ T, OddAt H y T ∧ Rz H E BR [("part", .str "other")]))
theorem op_rat {X : Cx} {C BR f : Addr} {fd : FuncData} {E : XK} {op : Operator} {g : Int → Int → Int → Int → Int} (sf : PySem.W.selfFirst X.K C = true) (odd : ∀ T ∈ oddTypes, PySem.W.kitOne X.K (.type T) (.ref C) = some false) (O : OpF X.K C op.info.2 f)
    (F : FnOk X.prog X.w X.K X.mg X.base (L2.CX X.prog X.w) 6 f fd ["self", "other"] (spArith X.K C BR g)) (b : Binds X.K fd ["self", "other"] []) (hr : Room 6 X.A) (hx : Passes (L2.CX X.prog X.w) X E) : OpR X (binaryOp op) (rRat X.K C BR g E) := by
  intro pins s σ H x y v u Q I rx ry h
  obtain ⟨a, p, q, rfl, ha, sp, sq, hq, h⟩ := h
  refine op_ownAny O.m sf O.r F hr b hx pins s σ H _ y v u Q I rx ry ?_
  rcases h with ⟨p', q', hn, sp', sq', hq', k⟩ | ⟨T, ho, rz⟩
  · rcases id hn with ⟨c, rfl, hc⟩ | ⟨rfl, _, _⟩
    · exact ⟨a, _, rfl, ha.ins, ty_ins hc.ins, .inl rfl, a, _, p, q, rfl, ha, sp, sq, hq, .inl ⟨p', q', hn, sp', sq', hq', k⟩⟩
    · exact ⟨a, _, rfl, ha.ins, ty_plain (plainT_int _), .inr ⟨_, rfl, O.t _ List.mem_cons_self⟩, a, _, p, q, rfl, ha, sp, sq, hq, .inl ⟨p', q', hn, sp', sq', hq', k⟩⟩
  · exact ⟨a, _, rfl, ha.ins, ho.at_, .inr ⟨_, rfl, O.t _ (List.mem_cons_of_mem _ ho.mem)⟩, a, _, p, q, rfl, ha, sp, sq, hq, .inr ⟨ho.notNum odd, rz⟩⟩
def spCmp (K : PySem.W.Frag) (C BR : Addr) (r : Int → V) : Sp := fun vs H Q E => ∃ (a : Addr) (y : V) (p q : Int), vs = [.ref a, y] ∧ RatAt H a C p q ∧ Sz p ∧ Sz q ∧ 0 < q ∧
  ((∃ p' q' : Int, NumAt H C y p' q' ∧ Sz p' ∧ Sz q' ∧ 0 < q' ∧ ∀ H', Same H H' → Q (r (sg (p * q' - p' * q))) H') ∨ (∃ T, OddAt H y T ∧ Rz H E BR [("part", .str "other")]))
section
variable {P : Program} {w : World} {K : PySem.W.Frag} {mg : Str → Option Value} {base : Heap} {C BR : Addr}
end
end K04
namespace K04
open PySem PySem.Spec PyProof.Rows L2 RatM
theorem sg_zero (p : Int) : decide (V.int (b2i (decide (0 < p)) - b2i (decide (p < 0))) = V.int 0) = decide (p = 0) := by
  rw [decI]
  refine decide_eq_decide.mpr ?_
  unfold b2i
  by_cases h1 : 0 < p
  · have h2 : ¬ p < 0 := by omega
    simp [h1, h2]; omega
  · by_cases h2 : p < 0
    · simp [h1, h2]; omega
    · have h3 : p = 0 := by omega
      simp [h3]
structure RatHx (P : Program) (w : World) (K : PySem.W.Frag) (mg : Str → Option Value) (base : Heap) (C BR : Addr) : Prop extends RatG P w K mg base C BR where
  cmp : ∃ (f : Addr) (fd : FuncData), Meth K C "compared" f ∧ FnOk P w K mg base (L2.CX P w) 7 f fd ["self", "other"] (spCmp K C BR V.int) ∧ Binds K fd ["self", "other"] []
/-- r.over(y) -/
def spOver (K : PySem.W.Frag) (C BR : Addr) : Sp := fun vs H Q E => ∃ (a : Addr) (y : V) (p q : Int), vs = [.ref a, y] ∧ RatAt H a C p q ∧ Sz p ∧ Sz q ∧ q ≠ 0 ∧
  ((∃ p' q' : Int, NumAt H C y p' q' ∧ Sz p' ∧ Sz q' ∧ q' ≠ 0 ∧ p' ≠ 0 ∧ ∀ a' H', Same H H' → RatAt H' a' C (lowT (p * q') (q * p')) (lowB (p * q') (q * p')) → Q (.ref a') H') ∨
   (∃ q' : Int, NumAt H C y 0 q' ∧ Rz H E BR [("part", .str "other")]) ∨ (∃ T, OddAt H y T ∧ Rz H E BR [("part", .str "other")]))
/-- is_ratio(x) -/
def spIsR (K : PySem.W.Frag) (C : Addr) : Sp := fun vs H Q _ => ∃ (x : V), vs = [x] ∧ ((∃ p q, NumAt H C x p q ∧ Q (.bl true) H) ∨ (∃ T, OddAt H x T ∧ Q (.bl false) H))
section
variable {P : Program} {w : World} {K : PySem.W.Frag} {mg : Str → Option Value} {base : Heap} {C BR : Addr}
theorem lookF (p q : Int) (m : Str) (h : m ∉ ([("top" : Str), "bottom", "sign", "is_whole", "below"] : List Str)) : (ratF p q).lookup m = none := by
  simp only [List.mem_cons, List.not_mem_nil, or_false, not_or] at h
  obtain ⟨h1, h2, h3, h4, h5⟩ := h
  unfold ratF
  rw [lookup_putF, if_neg h5, lookup_putF, if_neg h4, lookup_putF, if_neg h3, lookup_putF, if_neg h2, lookup_putF, if_neg h1]
  rfl
theorem scIR : FnScope ["value"] ["value"] (defScope (top 31)) := ⟨rfl, rfl, rfl, by decide +kernel, rfl, by decide +kernel, by decide +kernel⟩
theorem ok_isRatio {f : Addr} {fd : FuncData} (F : FnP K "is_ratio" (top 31) f fd) (R : RatG P w K mg base C BR) : FnOk P w K mg base CX0 2 f fd ["value"] (spIsR K C) := by
  obtain ⟨fI, fdI, GI, bI, kI, gI⟩ := R.int
  refine F.ok scIR (fun vs H Q E h => ?_) (fun cdv A outer s H vs Q E hr h => ?_)
  · obtain ⟨x, rfl, _⟩ := h
    rfl
  · obtain ⟨x, rfl, h⟩ := h
    have hr1 : Room 1 _ := hr
    refine ⟨_, PSs.nox (pss_one (ps_ret (pe_or (pe_callB call_isi (by rfl) R.bi (by decide +kernel) (pa_cons (pv 0) (pa_cons (pe_glob (v := .ref _) rfl R.g rfl) pa_nil))) (pe_one (pe_call GI hr1 rfl gI kI bI .nil pass0 (pa_cons (pv 0) pa_nil)))))), ?_⟩
    rcases h with ⟨p, q, hn, k⟩ | ⟨T, ho, k⟩
    · rcases hn with ⟨b, rfl, hb⟩ | ⟨rfl, _, _⟩
      · exact ⟨_, rfl, _, _, _, _, _, rfl, .own C, hb.ty R.T R.I, R.I.cc, _, rfl, iteT k⟩
      · exact ⟨_, rfl, _, _, _, _, _, rfl, .own C, .base (.int p), R.I.ic, _, rfl, iteF ⟨_, rfl, _, _, rfl, intIs_int p, k⟩⟩
    · exact ⟨_, rfl, _, _, _, _, _, rfl, .own C, ho.ty, R.odd T ho.mem, _, rfl, iteF ⟨_, rfl, _, _, rfl, (ho.notNum R.odd).2, k⟩⟩
end
end K04
namespace K04
open PySem PySem.Spec PyProof.Rows L2 RatM
def spOf1 (K : PySem.W.Frag) (C BR : Addr) : Sp := fun vs H Q E => ∃ x, vs = [x] ∧ AsR K C BR x "value" H Q E
theorem same_upd {H : Hp} {p : Addr} {o : HO} (h : H p = none) : Same H (upd H p o) := fun b x e => by
  rw [upd_ne (ne_of_none e h)]
  exact e
section
variable {P : Program} {w : World} {K : PySem.W.Frag} {mg : Str → Option Value} {base : Heap} {C BR : Addr}
theorem scOf1 : FnScope ["value"] ["value"] (defScope (ratM 2)) := ⟨rfl, rfl, rfl, by decide +kernel, rfl, by decide +kernel, by decide +kernel⟩
/-- Ratio.of(x) -/
theorem ok_of1 {f : Addr} {fd : FuncData} (F : MtP K "of" "Ratio.of" (ratM 2) f fd) (R : RatF P w K mg base C BR) : FnOk P w K mg base (L2.CX P w) 6 f fd ["value"] (spOf1 K C BR) := by
  obtain ⟨fO, fdO, GO, bO, kO, gO⟩ := R.ro
  refine F.ok scOf1 (fun vs H Q E h => ?_) (fun cdv A outer s H vs Q E hr h => ?_)
  · obtain ⟨x, rfl, _⟩ := h
    rfl
  · obtain ⟨x, rfl, h⟩ := h
    have hr5 : Room 5 _ := hr
    refine ⟨_, pss_one (ps_ret (pe_call GO hr5 rfl gO kO bO .nil (passE (takes_of rfl rfl rfl rfl)) (pa_cons (pv 0) (pa_cons pe_str pa_nil)))), ?_⟩
    exact ⟨_, rfl, _, _, rfl, h⟩
/-! ### is_list -/
def spLs (K : PySem.W.Frag) : Sp := fun vs H Q _ => ∃ x t b, vs = [x] ∧ TyX K H x t ∧ PySem.W.kitAny K t [.type "list", .type "tuple"] = some b ∧ ∀ H', Same H H' → Q (.bl b) H'
theorem scLs : FnScope ["value"] ["value"] (defScope (top 18)) := ⟨rfl, rfl, rfl, by decide +kernel, rfl, by decide +kernel, by decide +kernel⟩
theorem tyX_upd {H : Hp} {x : V} {t : Value} {p : Addr} {o : HO} (h : TyX K H x t) (n : H p = none) : TyX K (upd H p o) x t := by
  have s := same_upd (o := o) n
  cases h with
  | base z =>
    refine .base ?_
    cases z with
    | non => exact .non
    | bl x => exact .bl x
    | int i => exact .int i
    | str x => exact .str x
    | flt x => exact .flt x
    | lst e => exact .lst (s _ _ e)
    | frz e => exact .frz (s _ _ e)
    | tup e => exact .tup (s _ _ e)
    | dK e => exact .dK (s _ _ e)
    | dT e => exact .dT (s _ _ e)
    | ins e a1 a2 a3 a4 a5 => exact .ins (s _ _ e) a1 a2 a3 a4 a5
  | byt y => exact .byt y
  | set e => exact .set (s _ _ e)
  | kList e c => exact .kList e c
  | kTuple e c => exact .kTuple e c
  | kDict e c => exact .kDict e c
  | fTuple e => exact .fTuple (s _ _ e)
  | fDict e => exact .fDict (s _ _ e)
theorem ok_isList {f : Addr} {fd : FuncData} (F : FnP K "is_list" (top 18) f fd) (bi : mg "isinstance" = none) (bL : mg "list" = none) (bT : mg "tuple" = none) : FnOk P w K mg base CX0 1 f fd ["value"] (spLs K) := by
  refine F.ok scLs (fun vs H Q E h => ?_) (fun cdv A outer s H vs Q E hr h => ?_)
  · obtain ⟨x, t, b, rfl, _⟩ := h
    rfl
  · obtain ⟨x, t, b, rfl, ty, k, q⟩ := h
    refine ⟨_, PSs.nox (pss_one (ps_ret (pe_callB call_isiT (by rfl) bi (by decide +kernel) (pa_cons (pv 0) (pa_cons (pe_tup (pa_cons (pe_bltn (v := .ty "list") (by rfl) bL (by decide +kernel) rfl) (pa_cons (pe_bltn (v := .ty "tuple") (by rfl) bT (by decide +kernel) rfl) pa_nil))) pa_nil))))), ?_⟩
    exact ⟨_, rfl, by rw [sizeLine_eq]; show 2 ≤ 16777216; decide, fun p n => ⟨x, p, _, t, _, b, rfl, upd_same, .cons (.ty "list") (.cons (.ty "tuple") .nil), tyX_upd ty n, k, q _ (same_upd n)⟩⟩
end
end K04
namespace K04
open PySem PySem.Spec PyProof.Rows L2 RatM TL
def letS : Str := "abcdefghijklmnopqrstuvwxyz"
def sigS : Str := "0123456789abcdefghijklmnopqrstuvwxyz"
def nameT (l : List Nat) : Bool := decide (1 ≤ l.length) && (decide (l.length ≤ 12) && ((match l with | [] => false | c :: _ => decide (c ∈ letS.cps.toList)) && l.all fun c => decide (c ∈ sigS.cps.toList)))
def spNm (K : PySem.W.Frag) : Sp := fun vs H Q _ => ∃ x, vs = [x] ∧
  ((∃ w, x = .str w ∧ w.length ≤ 100000 ∧ ∀ H', Same H H' → Q (.bl (nameT w.cps.toList)) H') ∨ (∃ t, TyX K H x t ∧ PySem.W.kitOne K t (.type "str") = some false ∧ Q (.bl false) H))
structure NmG (mg : Str → Option Value) : Prop where
  isi : mg "isinstance" = none
  str : mg "str" = none
  len : mg "len" = none
  all : mg "all" = none
  lo : ∃ t, mg "_LONGEST" = some (.int 12 t)
  le : ∃ t, mg "_LETTERS" = some (.str letS t)
  si : ∃ t, mg "_SIGNS" = some (.str sigS t)
section
variable {P : Program} {w : World} {K : PySem.W.Frag} {mg : Str → Option Value} {base : Heap}
theorem scNm : FnScope ["value", "sign"] ["value"] (defScope (top 17)) := ⟨rfl, rfl, rfl, by decide +kernel, rfl, by decide +kernel, by decide +kernel⟩
theorem ok_isName {f : Addr} {fd : FuncData} (F : FnP K "is_name" (top 17) f fd) (G : NmG mg) : FnOk P w K mg base CX0 1 f fd ["value"] (spNm K) := by
  obtain ⟨t1, hLo⟩ := G.lo
  obtain ⟨t2, hLe⟩ := G.le
  obtain ⟨t3, hSi⟩ := G.si
  refine F.ok scNm (fun vs H Q E h => ?_) (fun cdv A outer s H vs Q E hr h => ?_)
  · obtain ⟨x, rfl, _⟩ := h
    rfl
  · obtain ⟨x, rfl, h⟩ := h
    refine ⟨_, PSs.nox (pss_cons (ps_if (PW.pt (pw_or (pt_not (pt_val (pe_callB call_isi (by rfl) G.isi (by decide +kernel) (pa_cons (pv 0) (pa_cons (pe_bltn (v := .ty "str") (by rfl) G.str (by decide +kernel) rfl) pa_nil))))) (pw_or1 (pt_not (pt_chain op_le op_le pe_int (pe_callB call_len (by rfl) G.len PySem.boot_len (pa_cons (pv 0) pa_nil)) (pe_glob (v := .int 12) rfl hLo ⟨_, rfl⟩)))))) (pss_one (ps_ret pe_bl)) pss_nil)
      (pss_one (ps_ret (pe_and (pe_cmpR op_in_sign (pe_ix ix_str (pv 0) pe_int (fun _ _ => rfl)) (pe_glob (v := .str letS) rfl hLe ⟨_, rfl⟩) rfl)
        (pe_one (pe_callB (cr_all rfl) (by rfl) G.all (by decide +kernel) (pa_cons (pe_lc (own := [("sign", 1)]) (g := gName 1) (tt := tYes) rfl scNm.nd (pi_str (pv 0)) (blkOk_by (N := ["value", "sign"]) (sc := defScope (top 17)) (by decide +kernel)) (fun _ _ _ _ _ => pg_name (i := 1) scNm.nd rfl (Or.inl rfl)) (fun _ _ _ _ _ => pts_nil) (fun _ _ _ _ _ => pe_cmpR op_in_sign (pv 1) (pe_glob (v := .str sigS) rfl hSi ⟨_, rfl⟩) rfl)) pa_nil))))))), ?_⟩
    rcases h with ⟨w, rfl, hz, k⟩ | ⟨t, ty, kk, q⟩
    · have lw : w.length = w.cps.toList.length := by simp [Str.length]
      refine ⟨_, rfl, _, _, _, _, _, rfl, .ty "str", .base (.str w), kit_ty (by decide +kernel), true, rfl, iteF ?_⟩
      refine ⟨_, rfl, .str w, w.length, rfl, ⟨by rw [sizeLine_eq]; omega, rfl⟩, _, _, rfl, rfl, decide ((1 : Int) ≤ (w.length : Nat)), rfl, ?_⟩
      generalize hl : w.cps.toList = l at k lw
      by_cases c1 : 1 ≤ l.length
      · rw [decide_eq_true (show (1 : Int) ≤ (w.length : Nat) by omega)]
        refine iteT ⟨_, _, rfl, rfl, decide ((w.length : Nat) ≤ (12 : Int)), rfl, ?_⟩
        by_cases c2 : l.length ≤ 12
        · rw [decide_eq_true (show ((w.length : Nat) : Int) ≤ 12 by omega)]
          refine iteF ?_
          dsimp only [tNext]
          obtain ⟨c0, r, e0⟩ : ∃ c0 r, l = c0 :: r := by
            cases l with
            | nil => cases c1
            | cons c r => exact ⟨c, r, rfl⟩
          have at0 : atI w.cps.toList 0 = some c0 := by rw [hl, e0]; exact atI_nat (show (c0 :: r)[0]? = some c0 from rfl)
          have kn : nameT l = (decide (c0 ∈ letS.cps.toList) && l.all fun c => decide (c ∈ sigS.cps.toList)) := by
            unfold nameT
            rw [decide_eq_true c1, decide_eq_true c2, e0, Bool.true_and, Bool.true_and]
          rw [kn] at k
          refine ⟨_, rfl, w, 0, c0, rfl, rfl, by rw [sizeLine_eq]; omega, at0, c0, letS, rfl, rfl, decide (c0 ∈ letS.cps.toList), rfl, ?_⟩
          by_cases c3 : c0 ∈ letS.cps.toList
          · rw [decide_eq_true c3] at k ⊢
            rw [Bool.true_and] at k
            refine iteT ⟨_, rfl, w, rfl, fun D nD => ?_⟩
            refine ⟨fun i m Hh => i ≤ l.length ∧ m = l.length - i ∧ Same H Hh ∧ Hh D = some (.lst (((l.take i).map fun c => decide (c ∈ sigS.cps.toList)).map V.bl)), ⟨_, Nat.zero_le _, rfl, same_upd nD, upd_same⟩, fun i m Hh hW => ?_⟩
            obtain ⟨hi, hm, sH, hD⟩ := hW
            have sz : w.cps.size = l.length := by rw [← hl]; simp
            by_cases ci : i < l.length
            · refine .inr ⟨(by show i < w.cps.size; omega), fun H' => ∃ m', m' < m ∧ i + 1 ≤ l.length ∧ m' = l.length - (i + 1) ∧ Same H H' ∧ H' D = some (.lst (((l.take (i + 1)).map fun c => decide (c ∈ sigS.cps.toList)).map V.bl)), fun H' z => z, fun x H' hy => ?_⟩
              obtain ⟨rfl, c, hc, rfl⟩ := hy
              have hc2 : l[i]? = some c := by rw [← hl]; simpa using hc
              refine ⟨rfl, ?_⟩
              unfold tYes
              dsimp only
              rw [if_pos rfl]
              refine ⟨_, rfl, c, sigS, rfl, rfl, _, hD, ?_, l.length - (i + 1), by omega, ci, rfl, fun b o e => ?_, ?_⟩
              · simp only [List.length_map, List.length_take]
                rw [sizeLine_eq]; omega
              · rw [upd_ne (ne_of_none e nD)]; exact sH b o e
              · rw [upd_same, List.take_add_one, hc2]
                simp
            · refine .inl ⟨(by show w.cps.size ≤ i; omega), ?_⟩
              rw [List.take_of_length_le (show l.length ≤ i by omega)] at hD
              refine ⟨D, _, rfl, SqL.of hD, ?_⟩
              have z := k Hh sH
              rw [show (List.map (fun c => decide (c ∈ sigS.cps.toList)) l).all id = l.all fun c => decide (c ∈ sigS.cps.toList) by rw [List.all_map]; rfl]
              exact z
          · rw [decide_eq_false c3] at k ⊢
            rw [Bool.false_and] at k
            exact iteF (k _ (Same.refl _))
        · rw [decide_eq_false (show ¬ ((w.length : Nat) : Int) ≤ 12 by omega)]
          have kn : nameT l = false := by
            unfold nameT
            rw [decide_eq_false c2, Bool.false_and, Bool.and_false]
          rw [kn] at k
          exact iteT (k _ (Same.refl _))
      · rw [decide_eq_false (show ¬ (1 : Int) ≤ (w.length : Nat) by omega)]
        have kn : nameT l = false := by
          unfold nameT
          rw [decide_eq_false c1, Bool.false_and]
        rw [kn] at k
        exact iteF ⟨false, rfl, iteT (k _ (Same.refl _))⟩
    · exact ⟨_, rfl, _, _, _, _, _, rfl, .ty "str", ty, kk, false, rfl, iteT q⟩
end
end K04
namespace K04
open PySem PySem.Spec PyProof.Rows L2 RatM TL
/-- is_name(x) is b -/
def NmIs (K : PySem.W.Frag) (H : Hp) (x : V) (b : Bool) : Prop := (∃ w, x = .str w ∧ w.length ≤ 100000 ∧ b = nameT w.cps.toList) ∨ (∃ t, TyX K H x t ∧ PySem.W.kitOne K t (.type "str") = some false ∧ b = false)
theorem tyX_same {K : PySem.W.Frag} {H H' : Hp} {x : V} {t : Value} (h : TyX K H x t) (s : Same H H') : TyX K H' x t := by
  cases h with
  | base z =>
    refine .base ?_
    cases z with
    | non => exact .non
    | bl x => exact .bl x
    | int i => exact .int i
    | str x => exact .str x
    | flt x => exact .flt x
    | lst e => exact .lst (s _ _ e)
    | frz e => exact .frz (s _ _ e)
    | tup e => exact .tup (s _ _ e)
    | dK e => exact .dK (s _ _ e)
    | dT e => exact .dT (s _ _ e)
    | ins e a1 a2 a3 a4 a5 => exact .ins (s _ _ e) a1 a2 a3 a4 a5
  | byt y => exact .byt y
  | set e => exact .set (s _ _ e)
  | kList e c => exact .kList e c
  | kTuple e c => exact .kTuple e c
  | kDict e c => exact .kDict e c
  | fTuple e => exact .fTuple (s _ _ e)
  | fDict e => exact .fDict (s _ _ e)
theorem NmIs.same {K : PySem.W.Frag} {H H' : Hp} {x : V} {b : Bool} (h : NmIs K H x b) (s : Same H H') : NmIs K H' x b := h.imp id fun ⟨t, ty, k, e⟩ => ⟨t, tyX_same ty s, k, e⟩
theorem NmIs.sp {K : PySem.W.Frag} {H : Hp} {x : V} {b : Bool} {Q : VK} {E : XK} (h : NmIs K H x b) (q : ∀ H', Same H H' → Q (.bl b) H') : spNm K [x] H Q E := by
  rcases h with ⟨w, rfl, l, rfl⟩ | ⟨t, ty, k, rfl⟩
  · exact ⟨_, rfl, .inl ⟨w, rfl, l, q⟩⟩
  · exact ⟨_, rfl, .inr ⟨t, ty, k, q _ (Same.refl _)⟩⟩
def spNms (K : PySem.W.Frag) : Sp := fun vs H Q _ => ∃ x, vs = [x] ∧
  ((∃ (a : Addr) (xs : List V) (bs : List Bool), x = .ref a ∧ (H a = some (.lst xs) ∨ H a = some (.tup xs)) ∧ xs.length ≤ 1000 ∧ bs.length = xs.length ∧ (∀ (i : Nat) x b, xs[i]? = some x → bs[i]? = some b → NmIs K H x b) ∧ ∀ H', Same H H' → Q (.bl (bs.all id)) H') ∨
   (∃ t, TyX K H x t ∧ PySem.W.kitAny K t [.type "list", .type "tuple"] = some false ∧ ∀ H', Same H H' → Q (.bl false) H'))
section
variable {P : Program} {w : World} {K : PySem.W.Frag} {mg : Str → Option Value} {base : Heap}
theorem any_ty {a b c : String} {x y : Bool} (h1 : PySem.W.kitOne K (.type a) (.type b) = some x) (h2 : PySem.W.kitOne K (.type a) (.type c) = some y) : PySem.W.kitAny K (.type a) [.type b, .type c] = some (x || y) := by
  simp only [PySem.W.kitAny, h1, h2]
  cases x <;> cases y <;> rfl
/-- the turns over the items, list or tuple -/
theorem nm_turn {H H1 Hh : Hp} {D : Addr} {σ : L2.St} {xs : List V} {bs : List Bool} {i : Nat} {x : V} (hσ : σ.length = 2) (lb : bs.length = xs.length) (lx : xs.length ≤ 1000) (hn : ∀ (i : Nat) x b, xs[i]? = some x → bs[i]? = some b → NmIs K H x b) (s1 : Same H H1) (nD : H1 D = none)
    (hx : xs[i]? = some x) (hP : Same H1 Hh ∧ Hh D = some (.lst ((bs.take i).map V.bl))) :
    gName 1 x (wipe σ [1]) Hh fun σ2 H2 => wipe σ2 [1] = wipe σ [1] ∧ tYes σ2 H2 fun b H3 => if b = true then tCall (spNm K) [] E0 (tCons (tVar 1) tNil) σ2 H3 fun y H4 => ∃ acc, H4 D = some (.lst acc) ∧ acc.length < sizeLine ∧ (Same H1 (upd H4 D (.lst (acc ++ [y]))) ∧ upd H4 D (.lst (acc ++ [y])) D = some (.lst ((bs.take (i + 1)).map V.bl))) else (Same H1 H3 ∧ H3 D = some (.lst ((bs.take (i + 1)).map V.bl))) := by
  obtain ⟨s2, hD⟩ := hP
  have li : i < xs.length := (List.getElem?_eq_some_iff.mp hx).1
  obtain ⟨b, hb⟩ : ∃ b, bs[i]? = some b := ⟨bs[i]'(by omega), List.getElem?_eq_getElem (by omega)⟩
  obtain ⟨a0, a1, rfl⟩ : ∃ a0 a1, σ = [a0, a1] := by
    match σ, hσ with
    | [a0, a1], _ => exact ⟨a0, a1, rfl⟩
  refine ⟨rfl, ?_⟩
  unfold tYes
  dsimp only
  rw [if_pos rfl]
  refine ⟨_, rfl, ?_⟩
  simp only [tNil, List.append_nil]
  refine NmIs.sp (((hn i x b hx hb).same s1).same s2) fun H4 s4 => ⟨_, s4 _ _ hD, ?_, fun c o e => ?_, ?_⟩
  · simp only [List.length_map, List.length_take]
    rw [sizeLine_eq]; omega
  · rw [upd_ne (ne_of_none e nD)]; exact s4 _ _ (s2 c o e)
  · rw [upd_same, List.take_add_one, hb]
    simp
theorem scNs : FnScope ["value", "item"] ["value"] (defScope (top 19)) := ⟨rfl, rfl, rfl, by decide +kernel, rfl, by decide +kernel, by decide +kernel⟩
theorem ok_areNames {f fN fL : Addr} {fd fdN fdL : FuncData} (F : FnP K "are_names" (top 19) f fd) (al : mg "all" = none) (GN : FnOk P w K mg base CX0 1 fN fdN ["value"] (spNm K)) (bN : Binds K fdN ["value"] []) (kN : PySem.W.keepIn K (.ref fN) = true) (gN : mg "is_name" = some (.ref fN))
    (GL : FnOk P w K mg base CX0 1 fL fdL ["value"] (spLs K)) (bL : Binds K fdL ["value"] []) (kL : PySem.W.keepIn K (.ref fL) = true) (gL : mg "is_list" = some (.ref fL)) : FnOk P w K mg base CX0 3 f fd ["value"] (spNms K) := by
  refine F.ok scNs (fun vs H Q E h => ?_) (fun cdv A outer s H vs Q E hr h => ?_)
  · obtain ⟨x, rfl, _⟩ := h
    rfl
  · obtain ⟨x, rfl, h⟩ := h
    have hr2 : Room 2 _ := hr
    have hr1 : Room 1 _ := hr2.mono (by decide)
    rcases h with ⟨a, xs, bs, rfl, hl | hl, lx, lb, hn, k⟩ | ⟨t, ty, kk, k⟩
    · refine ⟨_, PSs.nox (pss_one (ps_ret (pe_and (pe_call GL hr1 rfl gL kL bL .nil pass0 (pa_cons (pv 0) pa_nil))
        (pe_one (pe_callB (cr_all rfl) (by rfl) al (by decide +kernel) (pa_cons (pe_lc (own := [("item", 1)]) (g := gName 1) (tt := tYes) rfl scNs.nd (pi_list (pv 0)) (blkOk_by (N := ["value", "item"]) (sc := defScope (top 19)) (by decide +kernel)) (fun _ _ _ _ _ => pg_name (i := 1) scNs.nd rfl (Or.inl rfl)) (fun _ _ _ _ _ => pts_nil) (fun _ _ _ _ _ => pe_call GN (by exact hr1) rfl gN kN bN .nil pass0 (pa_cons (pv 1) pa_nil))) pa_nil)))))), ?_⟩
      refine ⟨_, rfl, _, _, _, rfl, .base (.lst hl), any_ty (x := true) (y := false) (kit_ty (by decide +kernel)) (kit_ty (by decide +kernel)), fun H1 s1 => ⟨true, rfl, iteT ?_⟩⟩
      refine ⟨_, rfl, a, rfl, ⟨xs, SqL.of (s1 _ _ hl)⟩, fun D nD => ?_⟩
      refine lc_list (a := a) (xs := xs) (fun i Hh => Same H1 Hh ∧ Hh D = some (.lst ((bs.take i).map V.bl))) ⟨same_upd nD, upd_same⟩ (fun i Hh _ hP => SqL.of (hP.1 _ _ (s1 _ _ hl))) (fun i x Hh hx hP => nm_turn rfl lb lx hn s1 nD hx hP) fun Hh hP => ?_
      obtain ⟨s2, hD⟩ := hP
      rw [← lb, List.take_length] at hD
      exact ⟨D, bs, rfl, SqL.of hD, k _ (s1.trans s2)⟩
    · refine ⟨_, PSs.nox (pss_one (ps_ret (pe_and (pe_call GL hr1 rfl gL kL bL .nil pass0 (pa_cons (pv 0) pa_nil))
        (pe_one (pe_callB (cr_all rfl) (by rfl) al (by decide +kernel) (pa_cons (pe_lc (own := [("item", 1)]) (g := gName 1) (tt := tYes) rfl scNs.nd (pi_tup (pv 0)) (blkOk_by (N := ["value", "item"]) (sc := defScope (top 19)) (by decide +kernel)) (fun _ _ _ _ _ => pg_name (i := 1) scNs.nd rfl (Or.inl rfl)) (fun _ _ _ _ _ => pts_nil) (fun _ _ _ _ _ => pe_call GN (by exact hr1) rfl gN kN bN .nil pass0 (pa_cons (pv 1) pa_nil))) pa_nil)))))), ?_⟩
      refine ⟨_, rfl, _, _, _, rfl, .base (.tup hl), any_ty (x := false) (y := true) (kit_ty (by decide +kernel)) (kit_ty (by decide +kernel)), fun H1 s1 => ⟨true, rfl, iteT ?_⟩⟩
      refine ⟨_, rfl, a, rfl, ⟨xs, SqT.of (s1 _ _ hl)⟩, fun D nD => ?_⟩
      refine lc_tup (a := a) (xs := xs) (fun i Hh => Same H1 Hh ∧ Hh D = some (.lst ((bs.take i).map V.bl))) ⟨same_upd nD, upd_same⟩ (fun i Hh _ hP => SqT.of (hP.1 _ _ (s1 _ _ hl))) (fun i x Hh hx hP => nm_turn rfl lb lx hn s1 nD hx hP) fun Hh hP => ?_
      obtain ⟨s2, hD⟩ := hP
      rw [← lb, List.take_length] at hD
      exact ⟨D, bs, rfl, SqL.of hD, k _ (s1.trans s2)⟩
    · refine ⟨_, PSs.nox (pss_one (ps_ret (pe_and (pe_call GL hr1 rfl gL kL bL .nil pass0 (pa_cons (pv 0) pa_nil))
        (pe_one (pe_callB (cr_all rfl) (by rfl) al (by decide +kernel) (pa_cons (pe_lc (own := [("item", 1)]) (g := gName 1) (tt := tYes) rfl scNs.nd (pi_list (pv 0)) (blkOk_by (N := ["value", "item"]) (sc := defScope (top 19)) (by decide +kernel)) (fun _ _ _ _ _ => pg_name (i := 1) scNs.nd rfl (Or.inl rfl)) (fun _ _ _ _ _ => pts_nil) (fun _ _ _ _ _ => pe_call GN (by exact hr1) rfl gN kN bN .nil pass0 (pa_cons (pv 1) pa_nil))) pa_nil)))))), ?_⟩
      exact ⟨_, rfl, _, t, false, rfl, ty, kk, fun H1 s1 => ⟨false, rfl, iteF (k _ s1)⟩⟩
end
end K04
namespace K04
open PySem PySem.Spec PyProof.Rows L2 RatM ClX
/-! ### dicts from names to numbers -/
/-- names, and numbers told by g -/
abbrev NumD (H : Hp) (C : Addr) (g : Str → Int × Int) : List (Key × V) → List Str → Prop := Paired fun kv n => kv.1 = .inr n ∧ NumAt H C kv.2 (g n).1 (g n).2
/-- the same, each number a Ratio -/
abbrev RatD (H : Hp) (C : Addr) (g : Str → Int × Int) : List (Key × V) → List Str → Prop := Paired fun kv n => kv.1 = .inr n ∧ ∃ a, kv.2 = .ref a ∧ RatAt H a C (g n).1 (g n).2
theorem Paired.mono' {α β : Type} {F G : α → β → Prop} (h : ∀ a b, F a b → G a b) : ∀ {l : List α} {m : List β}, Paired F l m → Paired G l m
  | _, _, .nil => .nil
  | _, _, .cons x t => .cons (h _ _ x) (Paired.mono' h t)
theorem Paired.at' {α β : Type} {F : α → β → Prop} : ∀ {l : List α} {m : List β}, Paired F l m → ∀ (i : Nat) (a : α), l[i]? = some a → ∃ b, m[i]? = some b ∧ F a b
  | _, _, .nil, i, a, e => by simp at e
  | _, _, .cons x t, 0, a, e => by
    simp at e
    subst e
    exact ⟨_, rfl, x⟩
  | _, _, .cons x t, i + 1, a, e => by
    simp only [List.getElem?_cons_succ] at e ⊢
    exact Paired.at' t i a e
section
variable {H H' : Hp} {C d : Addr} {g : Str → Int × Int} {kvs : List (Key × V)} {ks : List Str}
theorem NumD.same (h : NumD H C g kvs ks) (s : Same H H') : NumD H' C g kvs ks := Paired.mono' (fun _ _ ⟨e, n⟩ => ⟨e, n.same s⟩) h
theorem RatD.same (h : RatD H C g kvs ks) (s : Same H H') : RatD H' C g kvs ks := Paired.mono' (fun _ _ ⟨e, a, e2, n⟩ => ⟨e, a, e2, n.same s⟩) h
theorem RatD.num (h : RatD H C g kvs ks) : NumD H C g kvs ks := Paired.mono' (fun _ _ ⟨e, a, e2, n⟩ => ⟨e, .inl ⟨a, e2, n⟩⟩) h
theorem NumD.keys (h : NumD H C g kvs ks) : (kvs.map fun kv => kV kv.1) = ks.map V.str := by
  induction h with
  | nil => rfl
  | cons x t ih =>
    simp only [List.map_cons, ih, x.1]
    rfl
theorem NumD.val (h : NumD H C g kvs ks) {n : Str} (m : n ∈ ks) : ∃ v, valV kvs (.inr n) = some v ∧ NumAt H C v (g n).1 (g n).2 := by
  induction h with
  | nil => cases m
  | @cons a b l1 l2 x t ih =>
    by_cases e : b = n
    · subst e
      exact ⟨a.2, valV_pos x.1, x.2⟩
    · have ne : ¬ a.1 = Sum.inr n := fun z => e (by rw [x.1] at z; injection z)
      rw [valV_neg ne]
      exact ih (by cases m with
        | head => exact absurd rfl e
        | tail _ m => exact m)
theorem NumD.noVal (h : NumD H C g kvs ks) {n : Str} (m : n ∉ ks) : valV kvs (.inr n) = none := by
  induction h with
  | nil => rfl
  | @cons a b l1 l2 x t ih =>
    simp only [List.mem_cons, not_or] at m
    have ne : ¬ a.1 = Sum.inr n := fun z => m.1 (by rw [x.1] at z; injection z with z; exact z.symm)
    rw [valV_neg ne]
    exact ih m.2
/-- while the dict itself is locked -/
theorem NumAt.locked {x : V} {p q : Int} {o : HO} (h : NumAt H C x p q) (hd : H d = some (.dK kvs)) : NumAt (upd H d o) C x p q := by
  rcases h with ⟨a, rfl, dx, e⟩ | z
  · refine .inl ⟨a, rfl, dx, ?_⟩
    rw [upd_ne (fun z => by subst z; rw [hd] at e; cases e)]
    exact e
  · exact .inr z
end
section
variable {H H' : Hp} {C d : Addr} {g : Str → Int × Int} {kvs : List (Key × V)} {ks : List Str}
theorem RatAt.upd_d {a : Addr} {p q : Int} {o : HO} {D : Addr} {kvs : List (Key × V)} (h : RatAt H a C p q) (hd : H D = some (.dK kvs)) : RatAt (upd H D o) a C p q := by
  obtain ⟨dx, e⟩ := h
  refine ⟨dx, ?_⟩
  rw [upd_ne (fun z => by subst z; rw [hd] at e; cases e)]
  exact e
theorem RatD.upd_d {o : HO} {D : Addr} {kvs' : List (Key × V)} (h : RatD H C g kvs ks) (hd : H D = some (.dK kvs')) : RatD (upd H D o) C g kvs ks := Paired.mono' (fun _ _ ⟨e, a, e2, n⟩ => ⟨e, a, e2, RatAt.upd_d n hd⟩) h
end
def spNin (K : PySem.W.Frag) (C : Addr) : Sp := fun vs H Q _ => ∃ (d : Addr) (kvs : List (Key × V)) (ks : List Str) (g : Str → Int × Int), vs = [.ref d] ∧ H d = some (.dK kvs) ∧ NumD H C g kvs ks ∧ ks.Nodup ∧ ks.length ≤ 60 ∧ (∀ n ∈ ks, n.length ≤ 100000 ∧ nameT n.cps.toList = true) ∧
  ∀ r ys kvs' H', Same H H' → H r = none → ys.Perm ks → sortedS ys = true → H' r = some (.dK kvs') → RatD H' C g kvs' ys → Q (.ref r) H'
section
variable {P : Program} {w : World} {K : PySem.W.Frag} {mg : Str → Option Value} {base : Heap} {C BR : Addr}
theorem scNin : FnScope ["value", "number", "thing"] ["value"] (defScope (top 37)) := ⟨rfl, rfl, rfl, by decide +kernel, rfl, by decide +kernel, by decide +kernel⟩
theorem names_all {H : Hp} {K : PySem.W.Frag} : ∀ (ks : List Str), (∀ n ∈ ks, n.length ≤ 100000 ∧ nameT n.cps.toList = true) → ∀ (i : Nat) (x : V) (b : Bool), (ks.map V.str)[i]? = some x → (ks.map fun _ => true)[i]? = some b → NmIs K H x b := fun ks h i x b e1 e2 => by
  rw [List.getElem?_map] at e1 e2
  obtain ⟨n, en, rfl⟩ := Option.map_eq_some_iff.mp e1
  rw [en] at e2
  cases e2
  obtain ⟨l, t⟩ := h n (List.mem_of_getElem? en)
  exact .inl ⟨n, rfl, l, t.symm⟩
theorem all_trues {α : Type} : ∀ (l : List α), (l.map fun _ => true).all id = true
  | [] => rfl
  | _ :: t => by simp [all_trues t]
theorem ok_numbersIn {f fN fI : Addr} {fd fdN fdI : FuncData} {mc : Value} {p gO : Addr} {fdO : FuncData} (F : FnP K "numbers_in" (top 37) f fd) (bi : mg "isinstance" = none) (bD : mg "dict" = none) (bL : mg "list" = none) (al : mg "all" = none) (so : mg "sorted" = none)
    (GN : FnOk P w K mg base CX0 3 fN fdN ["value"] (spNms K)) (bN : Binds K fdN ["value"] []) (kN : PySem.W.keepIn K (.ref fN) = true) (gN : mg "are_names" = some (.ref fN))
    (GI : FnOk P w K mg base CX0 2 fI fdI ["value"] (spIsR K C)) (bI : Binds K fdI ["value"] []) (kI : PySem.W.keepIn K (.ref fI) = true) (gI : mg "is_ratio" = some (.ref fI))
    (gC : mg "Ratio" = some (.ref C)) (cr : CRead K C mc) (sm : SMet K C mc "of" p gO) (GO : FnOk P w K mg base (L2.CX P w) 6 gO fdO ["value"] (spOf1 K C BR)) (bO : Binds K fdO ["value"] []) :
    FnOk P w K mg base CX0 7 f fd ["value"] (spNin K C) := by
  refine F.ok scNin (fun vs H Q E h => ?_) (fun cdv A outer s H vs Q E hr h => ?_)
  · obtain ⟨d, kvs, ks, g, rfl, _⟩ := h
    rfl
  · obtain ⟨d, kvs, ks, g, rfl, hd, hk, nd, lk, nm, k⟩ := h
    have hr6 : Room 6 _ := hr
    have hu1 : (A.deeper (envOfC (Str.ofString "numbers_in") (defScope (top 37)) s.heap.objs.size f cdv)).units + 1 < cLine := by have := hr6.units; omega
    refine ⟨_, PSs.nox (pss_cons (ps_if (PW.pt (pw_or (pt_not (pt_val (pe_callB call_isi (by rfl) bi (by decide +kernel) (pa_cons (pv 0) (pa_cons (pe_bltn (v := .ty "dict") (by rfl) bD (by decide +kernel) rfl) pa_nil)))))
        (pw_or1 (pt_not (pt_val (pe_call GN (hr6.mono (by decide)) rfl gN kN bN .nil pass0 (pa_cons (pe_callTy (call_list_dK rfl) (by rfl) bL PyProof.Rows.boot_list (pa_cons (pv 0) pa_nil)) pa_nil))))))) (pss_one (ps_ret pe_non)) pss_nil)
      (pss_cons (ps_if (pt_not (pt_val (pe_callB (cr_all rfl) (by rfl) al (by decide +kernel) (pa_cons (pe_lock (pe_lc (own := [("number", 1)]) (g := gName 1) (tt := tYes) rfl scNin.nd (pi_values (pv 0)) (blkOk_by (N := ["value", "number", "thing"]) (sc := defScope (top 37)) (by decide +kernel)) (fun _ _ _ _ _ => pg_name (i := 1) scNin.nd rfl (Or.inl rfl)) (fun _ _ _ _ _ => pts_nil) (fun _ _ _ _ _ => pe_call GI (by exact hr6.mono (by decide)) rfl gI kI bI .nil pass0 (pa_cons (pv 1) pa_nil)))) pa_nil)))) (pss_one (ps_ret pe_non)) pss_nil)
      (pss_one (ps_ret (pe_dc (own := [("thing", 2)]) (g := gName 2) (tt := tYes) rfl scNin.nd (pi_list (pe_callB cr_sortedS (by rfl) so (by decide +kernel) (pa_cons (pe_callTy (call_list_dK rfl) (by rfl) bL PyProof.Rows.boot_list (pa_cons (pv 0) pa_nil)) pa_nil))) (blkOk_by (N := ["value", "number", "thing"]) (sc := defScope (top 37)) (by decide +kernel)) (fun _ _ _ _ _ => pg_name (i := 2) scNin.nd rfl (Or.inl rfl)) (fun _ _ _ _ _ => pts_nil) (fun _ _ _ _ _ => pv 2)
        (fun _ _ _ _ _ => pe_smeth (pe_glob (v := .ref _) rfl gC rfl) cr sm GO (by exact hr6) bO (E := E0) passL (pa_cons (pe_dget (by exact hu1) (pv 0) (pv 2) (fun _ _ => rfl)) pa_nil))))))), ?_⟩
    have lm : (kvs.map fun kv => kV kv.1) = ks.map V.str := hk.keys
    refine ⟨_, rfl, _, _, _, _, _, rfl, .ty "dict", .base (.dK hd), kit_ty (r := true) (by decide +kernel), _, rfl, iteF ?_⟩
    refine ⟨_, rfl, d, kvs, rfl, hd, fun q nq => ?_⟩
    refine ⟨_, rfl, .inl ⟨q, ks.map V.str, ks.map (fun _ => true), rfl, .inl (by rw [upd_same, lm]), by rw [List.length_map]; omega, by rw [List.length_map, List.length_map], names_all ks nm, fun H1 s1 => ⟨true, congrArg V.bl (all_trues ks), iteF ?_⟩⟩⟩
    replace s1 : Same H H1 := (same_upd nq).trans s1
    dsimp only [tNext, tSeq]
    refine ⟨d, .dK kvs, s1 _ _ hd, True.intro, fun od => ?_⟩
    refine ⟨_, rfl, d, od, kvs, rfl, upd_same, fun D nD => ?_⟩
    have nDd : D ≠ d := fun e => by rw [e, upd_same] at nD; cases nD
    have nD1 : H1 D = none := by rw [upd_ne nDd] at nD; exact nD
    generalize hHL : upd H1 d (.frz od (.dK kvs)) = HL at nD ⊢
    have hdL : HL d = some (.frz od (.dK kvs)) := by rw [← hHL]; exact upd_same
    have hkL : NumD HL C g kvs ks := by
      rw [← hHL]
      exact Paired.mono' (fun _ _ ⟨e, n⟩ => ⟨e, NumAt.locked n (s1 _ _ hd)⟩) (hk.same s1)
    refine lc_it walk_values (fun i Hh => Same HL Hh ∧ Hh D = some (.lst ((List.replicate i true).map V.bl))) ⟨same_upd nD, upd_same⟩ (fun i Hh _ hP => hP.1 _ _ hdL) (fun i x Hh Hh' hi hP hy => ?_) (fun Hh hP => ?_)
    · obtain ⟨rfl, key, ek⟩ := hy
      obtain ⟨s2, hD⟩ := hP
      obtain ⟨n, en, e1, hn⟩ := Paired.at' hkL i _ ek
      refine ⟨rfl, ?_⟩
      unfold tYes
      dsimp only
      rw [if_pos rfl]
      refine ⟨_, rfl, ?_⟩
      simp only [tNil, List.append_nil]
      refine ⟨x, rfl, .inl ⟨_, _, hn.same s2, _, hD, ?_, fun c o e => ?_, ?_⟩⟩
      · rw [List.length_map, List.length_replicate, sizeLine_eq]
        have := Paired.length hk
        omega
      · rw [upd_ne (ne_of_none e nD)]; exact s2 _ _ e
      · rw [upd_same, List.replicate_succ', List.map_append]
        rfl
    · obtain ⟨s2, hD⟩ := hP
      refine ⟨s2 _ _ hdL, D, List.replicate kvs.length true, rfl, SqL.of (by rw [upd_ne nDd]; exact hD), true, congrArg V.bl (by simp), iteF ?_⟩
      dsimp only [tNext]
      generalize hH2 : upd Hh d (.dK kvs) = H2
      have s3 : Same H H2 := fun b o e => by
        rw [← hH2]
        by_cases eb : b = d
        · subst eb
          rw [upd_same, ← hd, e]
        · rw [upd_ne eb]
          refine s2 _ _ ?_
          rw [← hHL, upd_ne eb]
          exact s1 _ _ e
      clear hH2 hHL
      refine ⟨_, rfl, d, kvs, rfl, s3 _ _ hd, fun q2 nq2 => ?_⟩
      refine ⟨q2, ks, rfl, SqL.of (by rw [upd_same, lm]), by omega, fun ys p2 py sy np => ?_⟩
      refine ⟨p2, rfl, ⟨_, SqL.of upd_same⟩, fun D2 nD2 => ?_⟩
      have s4 : Same H (upd (upd H2 q2 (.lst (kvs.map fun kv => kV kv.1))) p2 (.lst (ys.map V.str))) := (s3.trans (same_upd nq2)).trans (same_upd np)
      generalize hH4 : upd (upd H2 q2 (.lst (kvs.map fun kv => kV kv.1))) p2 (.lst (ys.map V.str)) = H4 at s4 nD2 ⊢
      have hp4 : H4 p2 = some (.lst (ys.map V.str)) := by rw [← hH4]; exact upd_same
      have nyd : ys.Nodup := py.nodup_iff.mpr nd
      refine dc_it walk_list (fun i Hx => Same H4 Hx ∧ ∃ kvs', Hx D2 = some (.dK kvs') ∧ RatD Hx C g kvs' (ys.take i)) ⟨same_upd nD2, [], upd_same, .nil⟩ (fun i Hx _ hP => SqL.of (hP.1 _ _ hp4)) (fun i x Hx Hx' hi hP hy => ?_) (fun Hx hP => ?_)
      · obtain ⟨rfl, ex⟩ := hy
        obtain ⟨s5, kvs', hD5, hR⟩ := hP
        rw [List.getElem?_map] at ex
        obtain ⟨n, en, rfl⟩ := Option.map_eq_some_iff.mp ex
        obtain ⟨v, hv, hn⟩ := NumD.val hk (py.mem_iff.mp (List.mem_of_getElem? en))
        refine ⟨rfl, ?_⟩
        unfold tYes
        dsimp only
        rw [if_pos rfl]
        refine ⟨_, rfl, rfl, ?_⟩
        refine ⟨_, rfl, _, rfl, d, v, rfl, ?_, ?_⟩
        · have z := DGet.k (k := .inr n) (s5 _ _ (s4 _ _ hd))
          rw [hv] at z
          exact z
        · refine ⟨v, rfl, .inl ⟨_, _, hn.same (s4.trans s5), fun a H6 s6 ha => ⟨kvs', .inr n, rfl, s6 _ _ hD5, ?_, fun c o e => ?_, ?_⟩⟩⟩
          · have := Paired.length hR
            have := List.length_take_le i ys
            have := py.length_eq
            have := List.length_take (i := i) (l := ys)
            rw [sizeLine_eq]; omega
          · rw [upd_ne (ne_of_none e nD2)]; exact s6 _ _ (s5 _ _ e)
          · refine ⟨_, upd_same, ?_⟩
            have nt : n ∉ ys.take i := fun m => by
              obtain ⟨j, hj, ej⟩ := List.mem_take_iff_getElem.mp m
              have h1 : ys[j]? = some n := by rw [List.getElem?_eq_getElem (by omega), ej]
              have lj : j < ys.length := by omega
              have h2 := (List.getElem?_inj lj nyd).mp (h1.trans en.symm)
              omega
            rw [putK_new _ (NumD.noVal hR.num nt), List.take_add_one, en]
            exact Paired.snoc ((hR.same s6).upd_d (s6 _ _ hD5)) ⟨rfl, a, rfl, RatAt.upd_d ha (s6 _ _ hD5)⟩
      · obtain ⟨s5, kvs', hD5, hR⟩ := hP
        rw [List.length_map, List.take_length] at hR
        refine k D2 ys kvs' Hx (s4.trans s5) ?_ py sy hD5 hR
        exact s4.free nD2
end
end K04
namespace L2
open PySem PySem.Spec PyProof.Rows
/-! ### a Hook with defs at any address, Bools of one's own, tables of code objects -/
structure SaysK (fa : List He.Fa) (fn : List He5.DefA) (fx : List (PySem.W.Frag → Bool)) (tf : List He.Defn) (h : Heap) (K : PySem.W.Frag) : Prop where
  a : He5.SaysA fa fn K
  x : (fx.all fun f => f K) = true
  hd : ∀ p ∈ tf, PySem.W.codeHdIn K (He.cT K p).1 (He.cT K p).2 = true
  out : ∀ p ∈ tf, K.lookup (He.cT K p).2 = none
  empty : ∀ p ∈ tf, h.get? (He.cT K p).2 = some { cls := .none, data := .fields #[] }
def obsK (as : List Addr) (fa : List He.Fa) (fn : List He5.DefA) (fx : List (PySem.W.Frag → Bool)) (tf : List He.Defn) (g : Addr → Option Obj) : He.AlD × Bool :=
  (He5.obsA fa fn (He.frT g as), (fx.all fun f => f (He.frT g as)) && He.tabsB g tf (He.frT g as))
theorem saysK_of {as : List Addr} {fa : List He.Fa} {fn : List He5.DefA} {fx : List (PySem.W.Frag → Bool)} {tf : List He.Defn} {h : Heap} (e : obsK as fa fn fx tf h.get? = (He5.valA fn, true)) : SaysK fa fn fx tf h (He.frT h.get? as) := by
  have e1 := congrArg Prod.fst e
  have e2 := congrArg Prod.snd e
  unfold obsK at e1 e2
  dsimp only at e1 e2
  obtain ⟨h1, h2⟩ := Bool.and_eq_true_iff.mp e2
  generalize hK : He.frT h.get? as = K at e1 h1 h2
  have key : ∀ p ∈ tf, PySem.W.codeHdIn K (He.cT K p).1 (He.cT K p).2 = true ∧ ∃ o, h.get? (He.cT K p).2 = some o ∧ He.emptyTab o = true := fun p hp => by
    obtain ⟨h3, h4⟩ := Bool.and_eq_true_iff.mp (List.all_eq_true.mp h2 p hp)
    refine ⟨h3, ?_⟩
    cases q : h.get? (He.cT K p).2 with
    | none =>
      rw [q] at h4
      cases h4
    | some o =>
      rw [q] at h4
      exact ⟨o, rfl, h4⟩
  refine ⟨e1, h1, fun p hp => (key p hp).1, fun p hp => ?_, fun p hp => ?_⟩
  · obtain ⟨_, o, q, z⟩ := key p hp
    rw [← hK]
    rw [← hK] at q
    exact He.frT_none q z
  · obtain ⟨_, o, q, z⟩ := key p hp
    rw [q, He.emptyTab_eq z]
def hookK (as : List Addr) (fa : List He.Fa) (fn : List He5.DefA) (fx : List (PySem.W.Frag → Bool)) (tf : List He.Defn) : PySem.W.Hook where
  α := He.AlD × Bool
  obs := fun s => obsK as fa fn fx tf s.heap.get?
  val := fun _ => (He5.valA fn, true)
  says := fun _ h => ∃ K : PySem.W.Frag, K.In h ∧ SaysK fa fn fx tf h K
  of := fun _ _ e => ⟨_, He.frT_in, saysK_of e⟩
  keeps := fun _ _ _ ⟨K, hK, c⟩ k => ⟨K, PySem.W.Frag.In.keeps hK k, ⟨c.a, c.x, c.hd, c.out, fun p hp => k _ _ (c.empty p hp)⟩⟩
theorem obK_eq (as : List Addr) (fa : List He.Fa) (fn : List He5.DefA) (fx : List (PySem.W.Frag → Bool)) (tf : List He.Defn) (s : PySem.W.SharedT) : obsK as fa fn fx tf (HandSHeadRun.getT s) = (hookK as fa fn fx tf).obs s.abs := by
  have e : HandSHeadRun.getT s = s.abs.heap.get? := funext fun a => HandSHeadRun.getT_eq s a
  rw [e] <;> rfl
end L2
namespace K04
open PySem PySem.Spec PyProof.Rows L2 RatM ClX
abbrev iBadBalance : Stmt := inClass (top 5) 0
abbrev iBadScale : Stmt := inClass (top 6) 0
abbrev iBadNumber : Stmt := inClass (top 7) 0
section
variable {P : Program} {w : World} {K : PySem.W.Frag} {mg : Str → Option Value} {base : Heap}
theorem mk_BadBalance {C fI : Addr} {fd : FuncData} (F : MtP K "__init__" "BadBalance.__init__" iBadBalance fI fd) (ox : OexC K C) (iC : PySem.W.findIn K (.ref C) "__init__" = some (some (.ref fI))) (tI : PySem.W.typeIn K (.ref fI) = some (.type "function"))
    (no : ∀ f ∈ ([("part" : Str)] : List Str), PySem.W.findIn K (.ref C) f = some none) (g : mg "BadBalance" = some (.ref C)) : ErrN P w K mg base "BadBalance" C ["part"] := by
  have S : FnScope ["self", "part"] ["self", "part"] (defScope iBadBalance) := ⟨rfl, rfl, rfl, by decide +kernel, rfl, by decide +kernel, by decide +kernel⟩
  refine ⟨⟨fI, fd, iC, tI, ?_, F.bindsN (fun _ _ _ _ _ _ us hl => match us, hl with | [_, _], _ => rfl)⟩, ox, no, g⟩
  refine F.ok S (fun vs H Q E h => ?_) (fun cdv A outer s H vs Q E hr h => ?_)
  · obtain ⟨e, C, ws, rfl, hn, _⟩ := h
    rw [List.length_cons, hn]
    rfl
  · obtain ⟨e, C, ws, rfl, hn, T, no, he, k⟩ := h
    match ws, hn with
    | [v0], _ =>
      refine ⟨_, PSs.nox (pss_one (ps_ost (pv 0) (pv 1))), ?_⟩
      refine ⟨_, rfl, _, rfl, e, C, rfl, T, no _ (by simp), .inl ⟨he, fun dx nd ne => ?_⟩⟩
      exact k _ dx (fun b o hb z => by rw [upd_ne hb, upd_ne (ne_of_none z nd)]; exact z) nd ne upd_same (by rw [upd_ne ne]; exact upd_same)
theorem mk_BadScale {C fI : Addr} {fd : FuncData} (F : MtP K "__init__" "BadScale.__init__" iBadScale fI fd) (ox : OexC K C) (iC : PySem.W.findIn K (.ref C) "__init__" = some (some (.ref fI))) (tI : PySem.W.typeIn K (.ref fI) = some (.type "function"))
    (no : ∀ f ∈ ([("part" : Str)] : List Str), PySem.W.findIn K (.ref C) f = some none) (g : mg "BadScale" = some (.ref C)) : ErrN P w K mg base "BadScale" C ["part"] := by
  have S : FnScope ["self", "part"] ["self", "part"] (defScope iBadScale) := ⟨rfl, rfl, rfl, by decide +kernel, rfl, by decide +kernel, by decide +kernel⟩
  refine ⟨⟨fI, fd, iC, tI, ?_, F.bindsN (fun _ _ _ _ _ _ us hl => match us, hl with | [_, _], _ => rfl)⟩, ox, no, g⟩
  refine F.ok S (fun vs H Q E h => ?_) (fun cdv A outer s H vs Q E hr h => ?_)
  · obtain ⟨e, C, ws, rfl, hn, _⟩ := h
    rw [List.length_cons, hn]
    rfl
  · obtain ⟨e, C, ws, rfl, hn, T, no, he, k⟩ := h
    match ws, hn with
    | [v0], _ =>
      refine ⟨_, PSs.nox (pss_one (ps_ost (pv 0) (pv 1))), ?_⟩
      refine ⟨_, rfl, _, rfl, e, C, rfl, T, no _ (by simp), .inl ⟨he, fun dx nd ne => ?_⟩⟩
      exact k _ dx (fun b o hb z => by rw [upd_ne hb, upd_ne (ne_of_none z nd)]; exact z) nd ne upd_same (by rw [upd_ne ne]; exact upd_same)
theorem mk_BadNumber {C fI : Addr} {fd : FuncData} (F : MtP K "__init__" "BadNumber.__init__" iBadNumber fI fd) (ox : OexC K C) (iC : PySem.W.findIn K (.ref C) "__init__" = some (some (.ref fI))) (tI : PySem.W.typeIn K (.ref fI) = some (.type "function"))
    (no : ∀ f ∈ ([("part" : Str)] : List Str), PySem.W.findIn K (.ref C) f = some none) (g : mg "BadNumber" = some (.ref C)) : ErrN P w K mg base "BadNumber" C ["part"] := by
  have S : FnScope ["self", "part"] ["self", "part"] (defScope iBadNumber) := ⟨rfl, rfl, rfl, by decide +kernel, rfl, by decide +kernel, by decide +kernel⟩
  refine ⟨⟨fI, fd, iC, tI, ?_, F.bindsN (fun _ _ _ _ _ _ us hl => match us, hl with | [_, _], _ => rfl)⟩, ox, no, g⟩
  refine F.ok S (fun vs H Q E h => ?_) (fun cdv A outer s H vs Q E hr h => ?_)
  · obtain ⟨e, C, ws, rfl, hn, _⟩ := h
    rw [List.length_cons, hn]
    rfl
  · obtain ⟨e, C, ws, rfl, hn, T, no, he, k⟩ := h
    match ws, hn with
    | [v0], _ =>
      refine ⟨_, PSs.nox (pss_one (ps_ost (pv 0) (pv 1))), ?_⟩
      refine ⟨_, rfl, _, rfl, e, C, rfl, T, no _ (by simp), .inl ⟨he, fun dx nd ne => ?_⟩⟩
      exact k _ dx (fun b o hb z => by rw [upd_ne hb, upd_ne (ne_of_none z nd)]; exact z) nd ne upd_same (by rw [upd_ne ne]; exact upd_same)
end
def mroEqB (K : PySem.W.Frag) (C2 : Addr) : Bool := match PySem.W.clsIn K C2 with
  | some cd => decide (cd.mro = [.ref C2, .type "object"])
  | none => false
theorem mroEqB_ok {K : PySem.W.Frag} {C2 : Addr} (h : mroEqB K C2 = true) : ∃ cd, PySem.W.clsIn K C2 = some cd ∧ cd.mro = [.ref C2, .type "object"] := by
  unfold mroEqB at h
  split at h
  · rename_i cd e
    exact ⟨cd, e, of_decide_eq_true h⟩
  · cases h
def d_g_law : He5.DefA := ⟨fun K => He.fAd K ("law", none), "law", "law", defArgs (top 72), defBody (top 72), defScope (top 72), [], []⟩
def d_m_Balance_init : He5.DefA := ⟨fun K => He.fAd K ("Balance", some "__init__"), "__init__", "Balance.__init__", defArgs (inClass (top 39) 0), defBody (inClass (top 39) 0), defScope (inClass (top 39) 0), [], []⟩
def d_m_BadBalance_init : He5.DefA := ⟨fun K => He.fAd K ("BadBalance", some "__init__"), "__init__", "BadBalance.__init__", defArgs (inClass (top 5) 0), defBody (inClass (top 5) 0), defScope (inClass (top 5) 0), [], []⟩
def d_g_numbers_in : He5.DefA := ⟨fun K => He.fAd K ("numbers_in", none), "numbers_in", "numbers_in", defArgs (top 37), defBody (top 37), defScope (top 37), [], []⟩
def d_g_are_names : He5.DefA := ⟨fun K => He.fAd K ("are_names", none), "are_names", "are_names", defArgs (top 19), defBody (top 19), defScope (top 19), [], []⟩
def d_g_is_name : He5.DefA := ⟨fun K => He.fAd K ("is_name", none), "is_name", "is_name", defArgs (top 17), defBody (top 17), defScope (top 17), [], []⟩
def d_g_is_list : He5.DefA := ⟨fun K => He.fAd K ("is_list", none), "is_list", "is_list", defArgs (top 18), defBody (top 18), defScope (top 18), [], []⟩
def d_g_is_ratio : He5.DefA := ⟨fun K => He.fAd K ("is_ratio", none), "is_ratio", "is_ratio", defArgs (top 31), defBody (top 31), defScope (top 31), [], []⟩
def d_m_Ratio_init : He5.DefA := ⟨fun K => He.fAd K ("Ratio", some "__init__"), "__init__", "Ratio.__init__", defArgs (inClass (top 30) 0), defBody (inClass (top 30) 0), defScope (inClass (top 30) 0), [.int 1], []⟩
def d_m_BadRatio_init : He5.DefA := ⟨fun K => He.fAd K ("BadRatio", some "__init__"), "__init__", "BadRatio.__init__", defArgs (inClass (top 4) 0), defBody (inClass (top 4) 0), defScope (inClass (top 4) 0), [], []⟩
def d_g_is_integer : He5.DefA := ⟨fun K => He.fAd K ("is_integer", none), "is_integer", "is_integer", defArgs (top 16), defBody (top 16), defScope (top 16), [], []⟩
def d_g_ratio_of : He5.DefA := ⟨fun K => He.fAd K ("_ratio_of", none), "_ratio_of", "_ratio_of", defArgs (top 32), defBody (top 32), defScope (top 32), [], []⟩
def d_m_Ratio_add : He5.DefA := ⟨fun K => He.fAd K ("Ratio", some "__add__"), "__add__", "Ratio.__add__", defArgs (inClass (top 30) 6), defBody (inClass (top 30) 6), defScope (inClass (top 30) 6), [], []⟩
def d_m_Ratio_sub : He5.DefA := ⟨fun K => He.fAd K ("Ratio", some "__sub__"), "__sub__", "Ratio.__sub__", defArgs (inClass (top 30) 7), defBody (inClass (top 30) 7), defScope (inClass (top 30) 7), [], []⟩
def d_m_Ratio_mul : He5.DefA := ⟨fun K => He.fAd K ("Ratio", some "__mul__"), "__mul__", "Ratio.__mul__", defArgs (inClass (top 30) 8), defBody (inClass (top 30) 8), defScope (inClass (top 30) 8), [], []⟩
def d_m_Ratio_of : He5.DefA := ⟨fun K => He5.wf K (He.ga K "Ratio") "staticmethod" "of", "of", "Ratio.of", defArgs (inClass (top 30) 2), defBody (inClass (top 30) 2), defScope (inClass (top 30) 2), [], []⟩
def d_m_Balance_number_of : He5.DefA := ⟨fun K => He.fAd K ("Balance", some "number_of"), "number_of", "Balance.number_of", defArgs (inClass (top 39) 3), defBody (inClass (top 39) 3), defScope (inClass (top 39) 3), [], []⟩
def d_m_Balance_str : He5.DefA := ⟨fun K => He.fAd K ("Balance", some "__str__"), "__str__", "Balance.__str__", defArgs (inClass (top 39) 13), defBody (inClass (top 39) 13), defScope (inClass (top 39) 13), [], []⟩
def d_g_written_balances : He5.DefA := ⟨fun K => He.ga K "written_balances", "_written", "_written", defArgs (top 44), defBody (top 44), defScope (top 44), [], []⟩
def d_g_term : He5.DefA := ⟨fun K => He.fAd K ("_term", none), "_term", "_term", defArgs (top 46), defBody (top 46), defScope (top 46), [], []⟩
def d_m_Ratio_eq : He5.DefA := ⟨fun K => He.fAd K ("Ratio", some "__eq__"), "__eq__", "Ratio.__eq__", defArgs (inClass (top 30) 12), defBody (inClass (top 30) 12), defScope (inClass (top 30) 12), [], []⟩
def d_g_is_same : He5.DefA := ⟨fun K => He.fAd K ("_is_same", none), "_is_same", "_is_same", defArgs (top 33), defBody (top 33), defScope (top 33), [], []⟩
def d_m_Ratio_str : He5.DefA := ⟨fun K => He.fAd K ("Ratio", some "__str__"), "__str__", "Ratio.__str__", defArgs (inClass (top 30) 13), defBody (inClass (top 30) 13), defScope (inClass (top 30) 13), [], []⟩
def d_g_written_ratios : He5.DefA := ⟨fun K => He.ga K "written_ratios", "_written", "_written", defArgs (top 34), defBody (top 34), defScope (top 34), [], []⟩
def d_m_Balance_read : He5.DefA := ⟨fun K => He5.wf K (He.ga K "Balance") "classmethod" "read", "read", "Balance.read", defArgs (inClass (top 39) 1), defBody (inClass (top 39) 1), defScope (inClass (top 39) 1), [], []⟩
def d_g_reader_of : He5.DefA := ⟨fun K => He.fAd K ("reader_of", none), "reader_of", "reader_of", defArgs (top 27), defBody (top 27), defScope (top 27), [], []⟩
def d_m_BadText_init : He5.DefA := ⟨fun K => He.fAd K ("BadText", some "__init__"), "__init__", "BadText.__init__", defArgs (inClass (top 11) 0), defBody (inClass (top 11) 0), defScope (inClass (top 11) 0), [], []⟩
def d_m_Reader_init : He5.DefA := ⟨fun K => He.fAd K ("Reader", some "__init__"), "__init__", "Reader.__init__", defArgs (inClass (top 26) 0), defBody (inClass (top 26) 0), defScope (inClass (top 26) 0), [], []⟩
def d_m_Reader_peek : He5.DefA := ⟨fun K => He.fAd K ("Reader", some "peek"), "peek", "Reader.peek", defArgs (inClass (top 26) 1), defBody (inClass (top 26) 1), defScope (inClass (top 26) 1), [], []⟩
def d_m_Reader_step : He5.DefA := ⟨fun K => He.fAd K ("Reader", some "step"), "step", "Reader.step", defArgs (inClass (top 26) 2), defBody (inClass (top 26) 2), defScope (inClass (top 26) 2), [], []⟩
def d_m_Reader_refuse : He5.DefA := ⟨fun K => He.fAd K ("Reader", some "refuse"), "refuse", "Reader.refuse", defArgs (inClass (top 26) 3), defBody (inClass (top 26) 3), defScope (inClass (top 26) 3), [], []⟩
def d_m_Reader_finish : He5.DefA := ⟨fun K => He.fAd K ("Reader", some "finish"), "finish", "Reader.finish", defArgs (inClass (top 26) 6), defBody (inClass (top 26) 6), defScope (inClass (top 26) 6), [], []⟩
def d_m_Reader_is_alone : He5.DefA := ⟨fun K => He.fAd K ("Reader", some "is_alone"), "is_alone", "Reader.is_alone", defArgs (inClass (top 26) 7), defBody (inClass (top 26) 7), defScope (inClass (top 26) 7), [], []⟩
def d_g_read_term : He5.DefA := ⟨fun K => He.fAd K ("_read_term", none), "_read_term", "_read_term", defArgs (top 47), defBody (top 47), defScope (top 47), [], []⟩
def d_g_ratio_in : He5.DefA := ⟨fun K => He.fAd K ("ratio_in", none), "ratio_in", "ratio_in", defArgs (top 36), defBody (top 36), defScope (top 36), [], []⟩
def d_g_whole_in : He5.DefA := ⟨fun K => He.fAd K ("whole_in", none), "whole_in", "whole_in", defArgs (top 28), defBody (top 28), defScope (top 28), [], []⟩
def d_g_free_name : He5.DefA := ⟨fun K => He.fAd K ("free_name", none), "free_name", "free_name", defArgs (top 23), defBody (top 23), defScope (top 23), [], []⟩
def d_g_name_above : He5.DefA := ⟨fun K => He.fAd K ("name_above", none), "name_above", "name_above", defArgs (top 22), defBody (top 22), defScope (top 22), [], []⟩
def d_m_Balance_gains : He5.DefA := ⟨fun K => He.fAd K ("Balance", some "gains"), "gains", "Balance.gains", defArgs (inClass (top 39) 4), defBody (inClass (top 39) 4), defScope (inClass (top 39) 4), [], []⟩
def d_m_Balance_losses : He5.DefA := ⟨fun K => He.fAd K ("Balance", some "losses"), "losses", "Balance.losses", defArgs (inClass (top 39) 5), defBody (inClass (top 39) 5), defScope (inClass (top 39) 5), [], []⟩
def d_m_Ratio_neg : He5.DefA := ⟨fun K => He.fAd K ("Ratio", some "__neg__"), "__neg__", "Ratio.__neg__", defArgs (inClass (top 30) 9), defBody (inClass (top 30) 9), defScope (inClass (top 30) 9), [], []⟩
def d_g_law_reel : He5.DefA := ⟨fun K => He.fAd K ("_law_reel", none), "_law_reel", "_law_reel", defArgs (top 54), defBody (top 54), defScope (top 54), [], []⟩
def d_g_law_turn : He5.DefA := ⟨fun K => He.fAd K ("_law_turn", none), "_law_turn", "_law_turn", defArgs (top 55), defBody (top 55), defScope (top 55), [], []⟩
def d_g_law_things : He5.DefA := ⟨fun K => He.fAd K ("_law_things", none), "_law_things", "_law_things", defArgs (top 62), defBody (top 62), defScope (top 62), [], []⟩
def d_g_law_pick : He5.DefA := ⟨fun K => He.fAd K ("_law_pick", none), "_law_pick", "_law_pick", defArgs (top 56), defBody (top 56), defScope (top 56), [], []⟩
def d_g_law_number : He5.DefA := ⟨fun K => He.fAd K ("_law_number", none), "_law_number", "_law_number", defArgs (top 61), defBody (top 61), defScope (top 61), [], []⟩
def d_g_law_low : He5.DefA := ⟨fun K => He.fAd K ("_law_low", none), "_law_low", "_law_low", defArgs (top 58), defBody (top 58), defScope (top 58), [], []⟩
def d_g_law_shared : He5.DefA := ⟨fun K => He.fAd K ("_law_shared", none), "_law_shared", "_law_shared", defArgs (top 57), defBody (top 57), defScope (top 57), [], []⟩
def d_g_law_ratio : He5.DefA := ⟨fun K => He.fAd K ("_law_ratio", none), "_law_ratio", "_law_ratio", defArgs (top 66), defBody (top 66), defScope (top 66), [], []⟩
def d_g_law_is_as : He5.DefA := ⟨fun K => He.fAd K ("_law_is_as", none), "_law_is_as", "_law_is_as", defArgs (top 67), defBody (top 67), defScope (top 67), [], []⟩
def d_g_law_named : He5.DefA := ⟨fun K => He.fAd K ("_law_named", none), "_law_named", "_law_named", defArgs (top 64), defBody (top 64), defScope (top 64), [], []⟩
def d_g_law_told : He5.DefA := ⟨fun K => He.fAd K ("_law_told", none), "_law_told", "_law_told", defArgs (top 65), defBody (top 65), defScope (top 65), [], []⟩
def d_g_law_text : He5.DefA := ⟨fun K => He.fAd K ("_law_text", none), "_law_text", "_law_text", defArgs (top 63), defBody (top 63), defScope (top 63), [], []⟩
def d_g_law_of_right : He5.DefA := ⟨fun K => He.fAd K ("_law_of_right", none), "_law_of_right", "_law_of_right", defArgs (top 70), defBody (top 70), defScope (top 70), [], []⟩
def d_m_Balance_of : He5.DefA := ⟨fun K => He5.wf K (He.ga K "Balance") "staticmethod" "of", "of", "Balance.of", defArgs (inClass (top 39) 2), defBody (inClass (top 39) 2), defScope (inClass (top 39) 2), [], []⟩
def d_g_counts : He5.DefA := ⟨fun K => He.fAd K ("_counts", none), "_counts", "_counts", defArgs (top 41), defBody (top 41), defScope (top 41), [], []⟩
def d_g_law_equal_right : He5.DefA := ⟨fun K => He.fAd K ("_law_equal_right", none), "_law_equal_right", "_law_equal_right", defArgs (top 71), defBody (top 71), defScope (top 71), [], []⟩
def d_m_Scale_init : He5.DefA := ⟨fun K => He.fAd K ("Scale", some "__init__"), "__init__", "Scale.__init__", defArgs (inClass (top 49) 0), defBody (inClass (top 49) 0), defScope (inClass (top 49) 0), [], []⟩
def d_m_BadScale_init : He5.DefA := ⟨fun K => He.fAd K ("BadScale", some "__init__"), "__init__", "BadScale.__init__", defArgs (inClass (top 6) 0), defBody (inClass (top 6) 0), defScope (inClass (top 6) 0), [], []⟩
def d_m_Balance_eq : He5.DefA := ⟨fun K => He.fAd K ("Balance", some "__eq__"), "__eq__", "Balance.__eq__", defArgs (inClass (top 39) 12), defBody (inClass (top 39) 12), defScope (inClass (top 39) 12), [], []⟩
def d_g_law_refused : He5.DefA := ⟨fun K => He.fAd K ("_law_refused", none), "_law_refused", "_law_refused", defArgs (top 69), defBody (top 69), defScope (top 69), [], []⟩
def d_g_law_heard : He5.DefA := ⟨fun K => He.fAd K ("_law_heard", none), "_law_heard", "_law_heard", defArgs (top 68), defBody (top 68), defScope (top 68), [], []⟩
def d_g_mean_of : He5.DefA := ⟨fun K => He.fAd K ("mean_of", none), "mean_of", "mean_of", defArgs (top 40), defBody (top 40), defScope (top 40), [], []⟩
def d_m_Balance_mul : He5.DefA := ⟨fun K => He.fAd K ("Balance", some "__mul__"), "__mul__", "Balance.__mul__", defArgs (inClass (top 39) 11), defBody (inClass (top 39) 11), defScope (inClass (top 39) 11), [], []⟩
def d_g_times : He5.DefA := ⟨fun K => He.fAd K ("_times", none), "_times", "_times", defArgs (top 43), defBody (top 43), defScope (top 43), [], []⟩
def d_m_BadNumber_init : He5.DefA := ⟨fun K => He.fAd K ("BadNumber", some "__init__"), "__init__", "BadNumber.__init__", defArgs (inClass (top 7) 0), defBody (inClass (top 7) 0), defScope (inClass (top 7) 0), [], []⟩
def d_m_Balance_renamed : He5.DefA := ⟨fun K => He.fAd K ("Balance", some "renamed"), "renamed", "Balance.renamed", defArgs (inClass (top 39) 7), defBody (inClass (top 39) 7), defScope (inClass (top 39) 7), [], []⟩
def d_g_is_naming : He5.DefA := ⟨fun K => He.fAd K ("is_naming", none), "is_naming", "is_naming", defArgs (top 20), defBody (top 20), defScope (top 20), [], []⟩
def d_m_Balance_add : He5.DefA := ⟨fun K => He.fAd K ("Balance", some "__add__"), "__add__", "Balance.__add__", defArgs (inClass (top 39) 8), defBody (inClass (top 39) 8), defScope (inClass (top 39) 8), [], []⟩
def d_g_summed : He5.DefA := ⟨fun K => He.fAd K ("_summed", none), "_summed", "_summed", defArgs (top 42), defBody (top 42), defScope (top 42), [], []⟩
def d_m_Balance_sub : He5.DefA := ⟨fun K => He.fAd K ("Balance", some "__sub__"), "__sub__", "Balance.__sub__", defArgs (inClass (top 39) 9), defBody (inClass (top 39) 9), defScope (inClass (top 39) 9), [], []⟩
def fn : List He5.DefA := [d_g_law, d_m_Balance_init, d_m_BadBalance_init, d_g_numbers_in, d_g_are_names, d_g_is_name, d_g_is_list, d_g_is_ratio, d_m_Ratio_init, d_m_BadRatio_init, d_g_is_integer, d_g_ratio_of, d_m_Ratio_add, d_m_Ratio_sub, d_m_Ratio_mul, d_m_Ratio_of, d_m_Balance_number_of, d_m_Balance_str, d_g_written_balances, d_g_term, d_m_Ratio_eq, d_g_is_same, d_m_Ratio_str, d_g_written_ratios, d_m_Balance_read, d_g_reader_of, d_m_BadText_init, d_m_Reader_init, d_m_Reader_peek, d_m_Reader_step, d_m_Reader_refuse, d_m_Reader_finish, d_m_Reader_is_alone, d_g_read_term, d_g_ratio_in, d_g_whole_in, d_g_free_name, d_g_name_above, d_m_Balance_gains, d_m_Balance_losses, d_m_Ratio_neg, d_g_law_reel, d_g_law_turn, d_g_law_things, d_g_law_pick, d_g_law_number, d_g_law_low, d_g_law_shared, d_g_law_ratio, d_g_law_is_as, d_g_law_named, d_g_law_told, d_g_law_text, d_g_law_of_right, d_m_Balance_of, d_g_counts, d_g_law_equal_right, d_m_Scale_init, d_m_BadScale_init, d_m_Balance_eq, d_g_law_refused, d_g_law_heard, d_g_mean_of, d_m_Balance_mul, d_g_times, d_m_BadNumber_init, d_m_Balance_renamed, d_g_is_naming, d_m_Balance_add, d_g_summed, d_m_Balance_sub]
def fa : List He.Fa := [.cls "Balance", .noat "Balance" "_numbers", .noat "Balance" "things", .noat "Balance" "is_nothing", .noat "Balance" "key", .glo "Balance", .mkr "Balance", .cls "Ratio", .noat "Ratio" "top", .noat "Ratio" "bottom", .noat "Ratio" "sign", .noat "Ratio" "is_whole", .noat "Ratio" "below", .free "tuple", .free "len", .free "isinstance", .free "dict", .free "list", .free "all", .free "sorted", .free "str", .int "_LONGEST" 12, .str "_LETTERS" letS, .str "_SIGNS" sigS, .glo "is_name", .glo "is_list", .glo "are_names", .free "int", .free "bool", .glo "is_integer", .glo "Ratio", .mkr "Ratio", .glo "_ratio_of", .glo "is_ratio", .glo "numbers_in", .meth "Balance" "number_of", .free "abs", .glo "_is_same", .glo "written_ratios", .glo "_term", .glo "written_balances", .cls "Reader", .noat "Reader" "words", .noat "Reader" "at", .noat "Reader" "end", .mkr "Reader", .glo "Reader", .glo "reader_of", .meth "Reader" "peek", .meth "Reader" "step", .meth "Reader" "refuse", .meth "Reader" "finish", .meth "Reader" "is_alone", .free "any", .glo "whole_in", .int "_MOST_DIGITS" 60, .glo "ratio_in", .glo "_read_term", .glo "name_above", .glo "free_name", .meth "Balance" "gains", .meth "Balance" "losses", .glo "_law_reel", .glo "_law_turn", .glo "_law_pick", .glo "_law_things", .glo "_law_shared", .glo "_law_low", .glo "_law_number", .glo "_law_ratio", .glo "_law_named", .glo "_law_text", .glo "_law_told", .glo "_law_is_as", .glo "_counts", .glo "_law_of_right", .cls "Scale", .noat "Scale" "_worths", .noat "Scale" "things", .glo "Scale", .mkr "Scale", .glo "_law_equal_right", .glo "_law_heard", .glo "ScaleError", .glo "BadBalance", .glo "BadNumber", .glo "_times", .glo "mean_of", .meth "Balance" "renamed", .glo "is_naming", .glo "_summed", .glo "_law_refused", .glo "law"]
def fx : List (PySem.W.Frag → Bool) := [fun K => (decide ((He.ga K "Ratio") ≠ (He.ga K "Balance"))), errB "BadBalance" ["part"], fun K => ((He.eqO (PySem.W.findIn K (.ref (He.ga K "Ratio")) "__class__") (some (some (.builtin "object.__class__")))) && ((He.eqO (PySem.W.specialIn K (.builtin "object.__class__") "__get__") (some (some (.builtin "getset_descriptor.__get__")))) && ((decide (PySem.W.takesIn K (.builtin "object.__class__") = some true)) && ((decide (PySem.W.mroIn K (He.ga K "Ratio") (.type "object") = some true)) && ((decide (PySem.W.kitOne K (.ref (He.ga K "Ratio")) (.ref (He.ga K "Ratio")) = some true)) && ((decide (PySem.W.kitOne K (.ref (He.ga K "Ratio")) (.type "int") = some false)) && ((decide (PySem.W.kitOne K (.ref (He.ga K "Ratio")) (.type "bool") = some false)) && (decide (PySem.W.kitOne K (.type "int") (.ref (He.ga K "Ratio")) = some false))))))))), errB "BadRatio" ["part"], fun K => He.eqO (PySem.W.nsIn K mainGlobals "gcd") (some (some (.builtin "math.gcd"))), fun K => (PySem.W.selfFirst K (He.ga K "Ratio")), fun K => (oddTypes : List _).all fun T => (decide (PySem.W.kitOne K (.type T) (.ref (He.ga K "Ratio")) = some false)), fun K => (He.eqO (PySem.W.findIn K (.ref (He.ga K "Ratio")) "__add__") (some (some (.ref (He.ma K (He.ga K "Ratio") "__add__")))) && PySem.W.isFn K (.ref (He.ma K (He.ga K "Ratio") "__add__"))), fun K => (He.eqO (PySem.W.findIn K (.ref (He.ga K "Ratio")) (dunderR "add")) (some none)), fun K => ("int" :: oddTypes : List _).all fun T => ((PySem.W.findIn K (.type T) (PySem.dunder "add")).isSome && ((PySem.W.findIn K (.type T) (dunderR "add")).isSome && (decide (PySem.W.subIn K (.type T) (.ref (He.ga K "Ratio")) = some false)))), fun K => (He.eqO (PySem.W.findIn K (.ref (He.ga K "Ratio")) "__sub__") (some (some (.ref (He.ma K (He.ga K "Ratio") "__sub__")))) && PySem.W.isFn K (.ref (He.ma K (He.ga K "Ratio") "__sub__"))), fun K => (He.eqO (PySem.W.findIn K (.ref (He.ga K "Ratio")) (dunderR "sub")) (some none)), fun K => ("int" :: oddTypes : List _).all fun T => ((PySem.W.findIn K (.type T) (PySem.dunder "sub")).isSome && ((PySem.W.findIn K (.type T) (dunderR "sub")).isSome && (decide (PySem.W.subIn K (.type T) (.ref (He.ga K "Ratio")) = some false)))), fun K => (He.eqO (PySem.W.findIn K (.ref (He.ga K "Ratio")) "__mul__") (some (some (.ref (He.ma K (He.ga K "Ratio") "__mul__")))) && PySem.W.isFn K (.ref (He.ma K (He.ga K "Ratio") "__mul__"))), fun K => (He.eqO (PySem.W.findIn K (.ref (He.ga K "Ratio")) (dunderR "mul")) (some none)), fun K => ("int" :: oddTypes : List _).all fun T => ((PySem.W.findIn K (.type T) (PySem.dunder "mul")).isSome && ((PySem.W.findIn K (.type T) (dunderR "mul")).isSome && (decide (PySem.W.subIn K (.type T) (.ref (He.ga K "Ratio")) = some false)))), fun K => ((PySem.W.readsIn K (He.ga K "Ratio") (.type "type")) && (He.eqO (PySem.W.specialIn K (.ref (He.ga K "Ratio")) "__getattribute__") (some (some (.builtin "type.__getattribute__"))))), fun K => He5.wrapB K (He.ga K "Ratio") "staticmethod" "staticmethod.__get__" "of", fun K => PySem.W.keepIn K (.ref (He5.wf K (He.ga K "Ratio") "staticmethod" "of")), fun K => (He.eqO (PySem.W.findIn K (.ref (He.ga K "Ratio")) (dunderR Operator.Add.info.2)) (some none)), fun K => ("int" :: oddTypes : List _).all fun T => ((PySem.W.findIn K (.type T) (PySem.dunder Operator.Add.info.2)).isSome && ((PySem.W.findIn K (.type T) (dunderR Operator.Add.info.2)).isSome && (decide (PySem.W.subIn K (.type T) (.ref (He.ga K "Ratio")) = some false)))), fun K => (He.eqO (PySem.W.findIn K (.ref (He.ga K "Ratio")) (dunderR Operator.Mult.info.2)) (some none)), fun K => ("int" :: oddTypes : List _).all fun T => ((PySem.W.findIn K (.type T) (PySem.dunder Operator.Mult.info.2)).isSome && ((PySem.W.findIn K (.type T) (dunderR Operator.Mult.info.2)).isSome && (decide (PySem.W.subIn K (.type T) (.ref (He.ga K "Ratio")) = some false)))), fun K => (He.eqO (PySem.W.findIn K (.ref (He.ga K "Balance")) "__class__") (some (some (.builtin "object.__class__")))), fun K => (decide (PySem.W.mroIn K (He.ga K "Balance") (.type "object") = some true)), fun K => (decide (PySem.W.kitOne K (.ref (He.ga K "Balance")) (.ref (He.ga K "Balance")) = some true)), fun K => (He.eqO (PySem.W.findIn K (.ref (He.ga K "Balance")) "__str__") (some (some (.ref (He.ma K (He.ga K "Balance") "__str__")))) && PySem.W.isFn K (.ref (He.ma K (He.ga K "Balance") "__str__"))), fun K => (He.eqO (PySem.W.findIn K (.ref (He.ga K "Ratio")) "__eq__") (some (some (.ref (He.ma K (He.ga K "Ratio") "__eq__")))) && PySem.W.isFn K (.ref (He.ma K (He.ga K "Ratio") "__eq__"))), fun K => (PySem.W.notFirst K (He.ga K "Ratio") (.type "int")), fun K => (He.eqO (PySem.W.findIn K (.ref (He.ga K "Ratio")) "__str__") (some (some (.ref (He.ma K (He.ga K "Ratio") "__str__")))) && PySem.W.isFn K (.ref (He.ma K (He.ga K "Ratio") "__str__"))), fun K => (He.eqO (PySem.W.findIn K (.ref (He.ga K "Ratio")) "__format__") (some (some (.builtin "object.__format__")))), fun K => (decide (PySem.W.mroIn K (He.ga K "Ratio") (.type "object") = some true)), fun K => ((PySem.W.readsIn K (He.ga K "Balance") (.type "type")) && (He.eqO (PySem.W.specialIn K (.ref (He.ga K "Balance")) "__getattribute__") (some (some (.builtin "type.__getattribute__"))))), fun K => He5.wrapB K (He.ga K "Balance") "classmethod" "classmethod.__get__" "read", fun K => PySem.W.fnIn K (He5.wf K (He.ga K "Balance") "classmethod" "read"), errB "BadText" ["line", "word"], fun K => (He.eqO (PySem.W.findIn K (.ref (He.ga K "Ratio")) "__ne__") (some (some (.builtin "object.__ne__")))), fun K => (decide (PySem.W.subIn K (.ref (He.ga K "Ratio")) (.type "object") = some true)), fun K => (He.eqO (PySem.W.findIn K (.ref (He.ga K "Ratio")) "__neg__") (some (some (.ref (He.ma K (He.ga K "Ratio") "__neg__")))) && PySem.W.isFn K (.ref (He.ma K (He.ga K "Ratio") "__neg__"))), fun K => He5.wrapB K (He.ga K "Balance") "staticmethod" "staticmethod.__get__" "of", fun K => PySem.W.keepIn K (.ref (He5.wf K (He.ga K "Balance") "staticmethod" "of")), fun K => (decide ((He.ga K "Scale") ≠ (He.ga K "Ratio"))), errB "BadScale" ["part"], fun K => ("int" :: oddTypes : List _).all fun T => (PySem.W.notFirst K (He.ga K "Balance") (.type T)), fun K => (PySem.W.notFirst K (He.ga K "Balance") (.ref (He.ga K "Balance"))), fun K => (PySem.W.notFirst K (He.ga K "Balance") (.ref (He.ga K "Ratio"))), fun K => (PySem.W.notFirst K (He.ga K "Balance") (.ref (He.ga K "Scale"))), fun K => ("int" :: oddTypes : List _).all fun T => (decide (PySem.W.kitOne K (.type T) (.ref (He.ga K "Balance")) = some false)), fun K => (decide (PySem.W.kitOne K (.ref (He.ga K "Scale")) (.ref (He.ga K "Balance")) = some false)), fun K => (He.eqO (PySem.W.findIn K (.ref (He.ga K "Scale")) "__class__") (some (some (.builtin "object.__class__")))), fun K => (decide (PySem.W.mroIn K (He.ga K "Scale") (.type "object") = some true)), fun K => (He.eqO (PySem.W.findIn K (.ref (He.ga K "Balance")) "__eq__") (some (some (.ref (He.ma K (He.ga K "Balance") "__eq__")))) && PySem.W.isFn K (.ref (He.ma K (He.ga K "Balance") "__eq__"))), fun K => (decide (PySem.W.exmOne K (.ref (He.ga K "BadBalance")) (.ref (He.ga K "ScaleError")) = some true)), fun K => (He.eqO (PySem.W.findIn K (.ref (He.ga K "BadBalance")) "part") (some none)), fun K => (decide (PySem.W.kitOne K (.ref (He.ga K "BadBalance")) (.ref (He.ga K "BadBalance")) = some (decide (0 = 0)))), fun K => (decide (PySem.W.kitOne K (.ref (He.ga K "BadBalance")) (.ref (He.ga K "BadNumber")) = some (decide (0 = 1)))), fun K => (decide (PySem.W.exmOne K (.ref (He.ga K "BadNumber")) (.ref (He.ga K "ScaleError")) = some true)), errB "BadNumber" ["part"], fun K => (He.eqO (PySem.W.findIn K (.ref (He.ga K "BadNumber")) "part") (some none)), fun K => (decide (PySem.W.kitOne K (.ref (He.ga K "BadNumber")) (.ref (He.ga K "BadBalance")) = some (decide (1 = 0)))), fun K => (decide (PySem.W.kitOne K (.ref (He.ga K "BadNumber")) (.ref (He.ga K "BadNumber")) = some (decide (1 = 1)))), fun K => (He.eqO (PySem.W.findIn K (.ref (He.ga K "Balance")) "__mul__") (some (some (.ref (He.ma K (He.ga K "Balance") "__mul__")))) && PySem.W.isFn K (.ref (He.ma K (He.ga K "Balance") "__mul__"))), fun K => (PySem.W.selfFirst K (He.ga K "Balance")), fun K => (He.eqO (PySem.W.findIn K (.ref (He.ga K "Balance")) (dunderR Operator.Mult.info.2)) (some none)), fun K => (decide (PySem.W.subIn K (.ref (He.ga K "Ratio")) (.ref (He.ga K "Balance")) = some false)), fun K => (He.eqO (PySem.W.findIn K (.ref (He.ga K "Balance")) "__add__") (some (some (.ref (He.ma K (He.ga K "Balance") "__add__")))) && PySem.W.isFn K (.ref (He.ma K (He.ga K "Balance") "__add__"))), fun K => (He.eqO (PySem.W.findIn K (.ref (He.ga K "Balance")) (dunderR Operator.Add.info.2)) (some none)), fun K => ("int" :: oddTypes : List _).all fun T => ((PySem.W.findIn K (.type T) (PySem.dunder Operator.Add.info.2)).isSome && ((PySem.W.findIn K (.type T) (dunderR Operator.Add.info.2)).isSome && (decide (PySem.W.subIn K (.type T) (.ref (He.ga K "Balance")) = some false)))), fun K => (decide ((He.ga K "Balance") ≠ (He.ga K "Ratio"))), fun K => (decide ((He.ga K "Balance") ≠ (He.ga K "Scale"))), fun K => (decide (PySem.W.subIn K (.ref (He.ga K "Scale")) (.ref (He.ga K "Balance")) = some false)), fun K => (He.eqO (PySem.W.findIn K (.ref (He.ga K "Scale")) "__add__") (some (some (.ref (He.ma K (He.ga K "Scale") "__add__")))) && PySem.W.isFn K (.ref (He.ma K (He.ga K "Scale") "__add__"))), fun K => (PySem.W.selfFirst K (He.ga K "Scale")), fun K => (He.eqO (PySem.W.findIn K (.ref (He.ga K "Scale")) (dunderR Operator.Add.info.2)) (some none)), fun K => (He.eqO (PySem.W.findIn K (.ref (He.ga K "Balance")) "__sub__") (some (some (.ref (He.ma K (He.ga K "Balance") "__sub__")))) && PySem.W.isFn K (.ref (He.ma K (He.ga K "Balance") "__sub__"))), fun K => (He.eqO (PySem.W.findIn K (.ref (He.ga K "Balance")) (dunderR Operator.Sub.info.2)) (some none)), fun K => ("int" :: oddTypes : List _).all fun T => ((PySem.W.findIn K (.type T) (PySem.dunder Operator.Sub.info.2)).isSome && ((PySem.W.findIn K (.type T) (dunderR Operator.Sub.info.2)).isSome && (decide (PySem.W.subIn K (.type T) (.ref (He.ga K "Balance")) = some false)))), fun K => (He.eqO (PySem.W.findIn K (.ref (He.ga K "Ratio")) (dunderR Operator.Sub.info.2)) (some none)), fun K => mroEqB K (He.ga K "Scale"), fun K => (He.eqO (PySem.W.findIn K (.ref (He.ga K "Scale")) (PySem.dunder Operator.Sub.info.2)) (some none)), fun K => (He.eqO (PySem.W.findIn K (.ref (He.ga K "Scale")) (dunderR Operator.Sub.info.2)) (some none)), fun K => (He.eqO (PySem.W.findIn K (.type "object") (PySem.dunder Operator.Sub.info.2)) (some none)), fun K => (He.eqO (PySem.W.findIn K (.type "object") (dunderR Operator.Sub.info.2)) (some none)), fun K => ("int" :: oddTypes : List _).all fun T => ((PySem.W.findIn K (.type T) (PySem.dunder Operator.Mult.info.2)).isSome && ((PySem.W.findIn K (.type T) (dunderR Operator.Mult.info.2)).isSome && (decide (PySem.W.subIn K (.type T) (.ref (He.ga K "Balance")) = some false)))), fun K => (He.eqO (PySem.W.findIn K (.ref (He.ga K "Scale")) "__mul__") (some (some (.ref (He.ma K (He.ga K "Scale") "__mul__")))) && PySem.W.isFn K (.ref (He.ma K (He.ga K "Scale") "__mul__"))), fun K => (He.eqO (PySem.W.findIn K (.ref (He.ga K "Scale")) (dunderR Operator.Mult.info.2)) (some none)), fun K => (decide (PySem.W.kitOne K (.ref (He.ga K "Ratio")) (.ref (He.ga K "Balance")) = some false)), fun K => (decide (PySem.W.kitOne K (.ref (He.ga K "Balance")) (.ref (He.ga K "Ratio")) = some false)), fun K => (decide (PySem.W.kitOne K (.ref (He.ga K "Balance")) (.type "int") = some false)), fun K => (decide (PySem.W.kitOne K (.ref (He.ga K "Balance")) (.type "bool") = some false)), fun K => (He.eqO (PySem.W.findIn K (.ref (He.ga K "Ratio")) "__class__") (some (some (.builtin "object.__class__"))))]
def tf : List He.Defn := [("_law_refused", none)]
def asx : List Addr := [3, 6, 4, 49, 59, 79, 98, 117, 136, 155, 174, 193, 212, 221, 226, 233, 238, 245, 252, 259, 266, 332, 343, 350, 472, 483, 490, 497, 762, 504, 509, 514, 620, 631, 638, 643, 648, 653, 660, 667, 753, 769, 774, 781, 788, 795, 802, 809, 816, 823, 830, 837, 842, 847, 854, 859, 866, 873, 878, 883, 888, 0, 48, 58, 78, 97, 116, 135, 154, 173, 192, 211, 220, 225, 232, 237, 244, 251, 258, 265, 331, 342, 349, 471, 482, 489, 496, 761, 503, 508, 513, 619, 630, 637, 642, 647, 652, 659, 666, 752, 768, 773, 780, 787, 794, 801, 808, 815, 822, 829, 836, 841, 846, 853, 858, 865, 872, 877, 882, 887, 43, 44, 45, 46, 47, 57, 60, 76, 77, 95, 96, 114, 115, 133, 134, 152, 153, 171, 172, 190, 191, 209, 210, 215, 216, 217, 218, 219, 222, 223, 224, 227, 228, 229, 230, 231, 234, 235, 236, 239, 240, 241, 242, 243, 246, 247, 248, 249, 250, 253, 254, 255, 256, 257, 260, 261, 262, 263, 264, 280, 287, 294, 301, 308, 315, 322, 329, 330, 333, 334, 337, 338, 339, 340, 341, 344, 345, 346, 347, 348, 365, 374, 384, 392, 399, 406, 413, 420, 427, 434, 441, 448, 455, 462, 469, 470, 473, 474, 477, 478, 479, 480, 481, 484, 485, 486, 487, 488, 491, 492, 493, 494, 495, 758, 759, 760, 498, 499, 500, 501, 502, 505, 506, 507, 510, 511, 512, 526, 535, 545, 553, 558, 563, 568, 575, 582, 589, 596, 603, 610, 617, 618, 621, 622, 625, 626, 627, 628, 629, 632, 633, 634, 635, 636, 639, 640, 641, 644, 645, 646, 649, 650, 651, 654, 655, 656, 657, 658, 661, 662, 663, 664, 665, 681, 690, 698, 705, 712, 719, 726, 731, 736, 743, 750, 751, 754, 755, 763, 764, 765, 766, 767, 770, 771, 772, 775, 776, 777, 778, 779, 782, 783, 784, 785, 786, 789, 790, 791, 792, 793, 796, 797, 798, 799, 800, 803, 804, 805, 806, 807, 810, 811, 812, 813, 814, 817, 818, 819, 820, 821, 824, 825, 826, 827, 828, 831, 832, 833, 834, 835, 838, 839, 840, 843, 844, 845, 848, 849, 850, 851, 852, 855, 856, 857, 860, 861, 862, 863, 864, 867, 868, 869, 870, 871, 874, 875, 876, 879, 880, 881, 884, 885, 886, 75, 94, 113, 132, 151, 170, 189, 208, 279, 286, 293, 300, 307, 314, 321, 328, 364, 358, 372, 373, 382, 383, 391, 398, 405, 412, 419, 426, 433, 440, 447, 454, 461, 468, 525, 533, 534, 543, 544, 552, 557, 562, 567, 574, 581, 588, 595, 602, 609, 616, 680, 688, 689, 697, 704, 711, 718, 725, 730, 735, 742, 749, 70, 71, 72, 73, 74, 89, 90, 91, 92, 93, 108, 109, 110, 111, 112, 127, 128, 129, 130, 131, 146, 147, 148, 149, 150, 165, 166, 167, 168, 169, 184, 185, 186, 187, 188, 203, 204, 205, 206, 207, 274, 275, 276, 277, 278, 281, 282, 283, 284, 285, 288, 289, 290, 291, 292, 295, 296, 297, 298, 299, 302, 303, 304, 305, 306, 309, 310, 311, 312, 313, 316, 317, 318, 319, 320, 323, 324, 325, 326, 327, 359, 360, 361, 362, 363, 371, 375, 381, 385, 386, 387, 388, 389, 390, 393, 394, 395, 396, 397, 400, 401, 402, 403, 404, 407, 408, 409, 410, 411, 414, 415, 416, 417, 418, 421, 422, 423, 424, 425, 428, 429, 430, 431, 432, 435, 436, 437, 438, 439, 442, 443, 444, 445, 446, 449, 450, 451, 452, 453, 456, 457, 458, 459, 460, 463, 464, 465, 466, 467, 522, 523, 524, 532, 536, 542, 546, 547, 548, 549, 550, 551, 554, 555, 556, 559, 560, 561, 564, 565, 566, 569, 570, 571, 572, 573, 576, 577, 578, 579, 580, 583, 584, 585, 586, 587, 590, 591, 592, 593, 594, 597, 598, 599, 600, 601, 604, 605, 606, 607, 608, 611, 612, 613, 614, 615, 675, 676, 677, 678, 679, 687, 691, 692, 693, 694, 695, 696, 699, 700, 701, 702, 703, 706, 707, 708, 709, 710, 713, 714, 715, 716, 717, 720, 721, 722, 723, 724, 727, 728, 729, 732, 733, 734, 737, 738, 739, 740, 741, 744, 745, 746, 747, 748, 2]
abbrev RR : PySem.W.OpenRow := PySem.W.OpenLaw.row PySem.Challenge.rw_scaleborn_k04_balances_made_and_refused
abbrev hk : PySem.W.Hook := hookK asx fa fn fx tf
def ob (s : PySem.W.SharedT) : He.AlD × Bool := obsK asx fa fn fx tf (HandSHeadRun.getT s)
theorem ob_eq (s : PySem.W.SharedT) : ob s = hk.obs s.abs := obK_eq asx fa fn fx tf s
def loose1 : List Str := ["_wall", "ScaleError", "BadRatio", "BadBalance", "BadScale", "BadNumber", "Missing", "NoThing", "Unlike", "BadText", "_LETTERS", "_SIGNS", "_LONGEST", "is_integer", "is_name", "is_list", "are_names", "is_naming", "need_things", "name_above"]
def loose2 : List Str := ["free_name", "_MOST_DIGITS", "Reader", "reader_of", "whole_in", "Ratio", "is_ratio", "_ratio_of", "_is_same", "_written", "written_ratios", "ratio_in", "numbers_in", "Balance", "mean_of", "_counts", "_summed", "_times", "written_balances", "_term"]
def loose3 : List Str := ["_read_term", "Scale", "written_scales", "_read_worth", "_law_reel", "_law_turn", "_law_pick", "_law_shared", "_law_low", "_law_plus", "_law_by", "_law_number", "_law_things", "_law_text", "_law_named", "_law_told", "_law_ratio", "_law_is_as", "_law_heard", "_law_refused"]
def loose4 : List Str := ["_law_of_right", "_law_equal_right"]
abbrev loose : List Str := loose1 ++ (loose2 ++ (loose3 ++ (loose4)))
abbrev frK (s : PySem.W.SharedT) : PySem.W.Frag := He.frT (HandSHeadRun.getT s) asx
abbrev qq : Program := PySem.W.view RR.prog [0, 72]
theorem map2 {X A B D : Type} {W : Option X} {f : X → A} {g : X → B} {a : A} {b : B} (h1 : W.map f = some a) (h2 : W.map g = some b) (k : A → B → D) : W.map (fun x => k (f x) (g x)) = some (k a b) := by
  cases W with
  | none => cases h1
  | some x =>
    injection h1 with h1
    injection h2 with h2
    show some (k (f x) (g x)) = _
    rw [h1, h2]
theorem run0 (w : World) : (HandSHeadRun.wholeF (fun p => HandSHeadRun.stepQ (HandSHeadRun.denQ HandSHeadRun.tabQ) p w) HandSHeadRun.fenceQ 40000 RR.prog).map (fun x => (HandSHeadRun.looksF RR.prog x.1.heap x.2.abs, HandSHeadRun.seenQ qq loose (PySem.importedModules RR.prog.main.body) (fun s => PySem.W.xlAt qq [] s && PySem.W.recOk RR.toRowW.records s) x.2.abs)) = some (true, PySem.W.openGood qq loose) := by
  kernel_rfl
theorem run6 (w : World) : (HandSHeadRun.wholeF (fun p => HandSHeadRun.stepQ (HandSHeadRun.denQ HandSHeadRun.tabQ) p w) HandSHeadRun.fenceQ 40000 RR.prog).map (fun x => fa.all fun f => f.ok (frK x.2)) = some true := by
  kernel_rfl
theorem run7 (w : World) : (HandSHeadRun.wholeF (fun p => HandSHeadRun.stepQ (HandSHeadRun.denQ HandSHeadRun.tabQ) p w) HandSHeadRun.fenceQ 40000 RR.prog).map (fun x => He5.obsA [] fn (frK x.2)) = some (He5.valA fn) := by
  kernel_rfl
theorem run2 (w : World) : (HandSHeadRun.wholeF (fun p => HandSHeadRun.stepQ (HandSHeadRun.denQ HandSHeadRun.tabQ) p w) HandSHeadRun.fenceQ 40000 RR.prog).map (fun x => (fx.all fun f => f (frK x.2)) && He.tabsB (HandSHeadRun.getT x.2) tf (frK x.2)) = some true := by
  kernel_rfl
theorem run (w : World) : HandSHeadRun.RunEqI RR qq hk ob 40000 loose w := by
  have h := map2 (map2 (run0 w) (map2 (run6 w) (run7 w) fun (b : Bool) (c : He.AlD) => (b && c.1, c.2)) Prod.mk) (run2 w) (fun (x : (Bool × _) × He.AlD) (y : Bool) => (x.1.1, x.1.2, (x.2, y)))
  refine Eq.trans ?_ h
  refine congrArg (fun F => Option.map F _) (funext fun x => ?_)
  show (_, _, (((fa.all fun f => f.ok (frK x.2)) && fn.all fun d => d.ok (frK x.2), _), _)) = _
  simp only [He5.obsA, List.all_nil, Bool.true_and]
end K04
namespace L2
open PySem PySem.Spec PyProof.Rows
/-- o.m(k = e, ..): all by keywords, in the parameters' order -/
def tMethK0 (C : Addr) (m : Str) (sp : Sp) (E : XK) (ta : TE) (t : TA) : TE := fun σ H Q => ta σ H fun x H1 => ∃ a dx fs, x = .ref a ∧ H1 a = some (.ins C dx fs) ∧ fs.lookup m = none ∧ t σ H1 fun vs H2 => sp (x :: vs) H2 Q E
theorem pe_methK0 {X : Cx} {CX : CXT} {k : Nat} {C f : Addr} {fd : FuncData} {ps ks : List Str} {sp : Sp} {E : XK} {m : Str} {pos apos : Pos} {o : Expr} {kws : List Keyword} {ta : TE} {tk : TA} {pl : Sem Bool}
    (he : PE X o ta) (c : Cls X.K C) (hm : Meth X.K C m f) (F : FnOk X.prog X.w X.K X.mg X.base CX k f fd ps sp) (hr : Room k X.A) (hb : ∀ (s : Shared) (a : Addr) (zs : List Value), (Value.ref a :: zs).length = ps.length → BindsTo s fd ⟨[.ref a], ks.zip zs⟩ (ps.zip (.ref a :: zs))) (hx : Passes CX X E) (hkw : PK X kws tk)
    (hall : (backToKw pos (keywordEach kws X.env)).all (·.1.isSome) = true := by rfl) (hks : (backToKw pos (keywordEach kws X.env)).filterMap (·.1) = ks := by rfl)
    (hpl : ((backTo pos (starEach [] X.env)).any (·.1) || (backToKw pos (keywordEach kws X.env)).any (·.1.isNone)) = false := by rfl)
    (ht : eval (.Call (.Attribute o m apos) [] kws pos) X.env = (do
      let ov ← eval o X.env
      standAt apos.atName
      let (f, first) ← holding [ov] (getMethod ov m pl)
      callWith pos f first (backTo pos (starEach [] X.env)) (backToKw pos (keywordEach kws X.env))) := by rfl) :
    PE X (.Call (.Attribute o m apos) [] kws pos) (tMethK0 C m sp E ta tk) := by
  refine ⟨fun pins s σ H Q I h => ?_⟩
  refine PySem.W.methodCall_KW (pl := pl) (thn (he.run pins s σ H _ I h) fun u s1 ⟨x, H1, I1, rx, a, dx, fs, ex, ea, l, q⟩ => ?_) ht
  subst ex
  obtain rfl : u = Value.ref a := rx
  refine getmeth_ok I1 ea c hm l ?_
  refine PySem.W.callWith_KW0 (first := [.ref a]) (h₀ := X.base) I1.ok.mod.kin hm.kp hall ?_ hpl
  refine thn (hkw.run pos pins s1 σ H1 _ I1 q) fun us s2 ⟨vs, H2, I2, r, q2⟩ => ⟨I2.kIn, ?_⟩
  rw [hks]
  have r2 : Vals (.ref a :: vs) (.ref a :: us) := .cons rfl r
  have hl : (Value.ref a :: us).length = ps.length := r2.length.symm.trans (F.len _ _ _ _ q2)
  refine wpAny_call (codeAny_mono (F.run X.A X.stack s2 H2 ⟨[.ref a], ks.zip us⟩ (.ref a :: us) (.ref a :: vs) Q E hr I2.env0 (hb s2 a us hl) r2 q2) fun r s' hq => ?_)
  match r, hq with
  | .error e, hq => exact hx pins σ H2 s2 e s' I2 hq
  | .ok (.ret u), hq => exact I2.after hq
  | .ok .next, hq => exact hq.elim
  | .ok .brk, hq => exact hq.elim
  | .ok .cont, hq => exact hq.elim
end L2
namespace L2
open PySem PySem.Spec PyProof.Rows ClX
/-- all values by keywords, in the parameters' order -/
def BindsK (fd : FuncData) (ps : List Str) : Prop := ∀ (s : Shared) (zs : List Value), zs.length = ps.length → BindsTo s fd ⟨[], ps.zip zs⟩ (ps.zip zs)
theorem FunD.bindsK {K : PySem.W.Frag} {x qual : Str} {params : Arguments} {body : List Stmt} {scope : Scope} {kws : List (Str × V)} {f : Addr} {fd : FuncData} {ps : List Str} (F : FunD K x qual params body scope [] kws f fd)
    (h : ∀ (kV doc pm : Value) (an : Option Addr) (cdv ct : Value) (zs : List Value), zs.length = ps.length → bindArgs (PySem.W.fnOf x qual params body scope .none kV doc pm an cdv ct) ⟨[], ps.zip zs⟩ = pure (ps.zip zs)) : BindsK fd ps := by
  obtain ⟨oc, od, dV, kV, doc, pm, an, cdv, ct, osl, rfl, lk, hcd, hD, hK⟩ := F.ex
  rcases hD with ⟨_, rfl⟩ | ⟨e, _⟩
  · exact fun s zs hl => .of_eq (h kV doc pm an cdv ct zs hl)
  · exact absurd rfl e
/-- o.m(k = e, ..) -/
def BindsKM (fd : FuncData) (p : Str) (ps : List Str) : Prop := ∀ (s : Shared) (a : Addr) (zs : List Value), (Value.ref a :: zs).length = (p :: ps).length → BindsTo s fd ⟨[.ref a], ps.zip zs⟩ ((p :: ps).zip (.ref a :: zs))
theorem FunD.bindsKM {K : PySem.W.Frag} {x qual : Str} {params : Arguments} {body : List Stmt} {scope : Scope} {kws : List (Str × V)} {f : Addr} {fd : FuncData} {p : Str} {ps : List Str} (F : FunD K x qual params body scope [] kws f fd)
    (h : ∀ (kV doc pm : Value) (an : Option Addr) (cdv ct : Value) (a : Addr) (zs : List Value), zs.length = ps.length → bindArgs (PySem.W.fnOf x qual params body scope .none kV doc pm an cdv ct) ⟨[.ref a], ps.zip zs⟩ = pure ((p :: ps).zip (.ref a :: zs))) : BindsKM fd p ps := by
  obtain ⟨oc, od, dV, kV, doc, pm, an, cdv, ct, osl, rfl, lk, hcd, hD, hK⟩ := F.ex
  rcases hD with ⟨_, rfl⟩ | ⟨e, _⟩
  · exact fun s a zs hl => .of_eq (h kV doc pm an cdv ct a zs (Nat.succ.inj hl))
  · exact absurd rfl e
/-- f(k = e, ..), all by keywords -/
def tCallK0 (sp : Sp) (E : XK) (t : TA) : TE := fun σ H Q => t σ H fun vs H1 => sp vs H1 Q E
section
variable {X : Cx} {CX : CXT} {k : Nat} {f : Addr} {fd : FuncData} {ps : List Str} {sp : Sp} {E : XK} {x : Str} {p pos : Pos} {kws : List Keyword} {tk : TA}
theorem pe_callK0 (F : FnOk X.prog X.w X.K X.mg X.base CX k f fd ps sp) (hr : Room k X.A) (hg : Gl X x) (hm : X.mg x = some (.ref f)) (hk : PySem.W.keepIn X.K (.ref f) = true) (hb : BindsK fd ps) (hx : Passes CX X E) (hkw : PK X kws tk)
    (hall : (backToKw pos (keywordEach kws X.env)).all (·.1.isSome) = true := by rfl) (hks : (backToKw pos (keywordEach kws X.env)).filterMap (·.1) = ps := by rfl) (hdb : (x == ("__debug__" : Str)) = false := by decide)
    (hpl : ((backTo pos (starEach [] X.env)).any (·.1) || (backToKw pos (keywordEach kws X.env)).any (·.1.isNone)) = false := by rfl) :
    PE X (.Call (.Name x p) [] kws pos) (tCallK0 sp E tk) := by
  refine ⟨fun pins s σ H Q I h => ?_⟩
  refine wpAny_Call_Name_kw (ld_glob I hg hm ?_ hdb)
  refine PySem.W.callWith_KW0 (first := []) (h₀ := X.base) I.ok.mod.kin hk hall ?_ hpl
  refine thn (hkw.run pos pins s σ H _ I h) fun us s2 ⟨vs, H2, I2, r, q2⟩ => ⟨I2.kIn, ?_⟩
  rw [hks]
  have hl : us.length = ps.length := r.length.symm.trans (F.len _ _ _ _ q2)
  refine wpAny_call (codeAny_mono (F.run X.A X.stack s2 H2 ⟨[], ps.zip us⟩ us vs Q E hr I2.env0 (hb s2 us hl) r q2) fun r s' hq => ?_)
  match r, hq with
  | .error e, hq => exact hx pins σ H2 s2 e s' I2 hq
  | .ok (.ret u), hq => exact I2.after hq
  | .ok .next, hq => exact hq.elim
  | .ok .brk, hq => exact hq.elim
  | .ok .cont, hq => exact hq.elim
/-- f(), f told of by FnR -/
theorem pe_callR0 (F : FnR X.prog X.w X.K X.mg X.base CX k f sp) (hr : Room k X.A) (hg : Gl X x) (hm : X.mg x = some (.ref f)) (hk : PySem.W.keepIn X.K (.ref f) = true) (hx : Passes CX X E) (hd : (x == ("__debug__" : Str)) = false := by decide) :
    PE X (.Call (.Name x p) [] [] pos) (fun _ H Q => sp [] H Q E) := by
  refine ⟨fun pins s σ H Q I h => ?_⟩
  refine wpAny_Call_Name_kw (ld_glob I hg hm ?_ hd)
  exact PySem.W.callWith_K0 I.kIn hk (wpAny_call (run_fnR F hr hx I .nil h))
/-- C.m(k = e, ..), m a staticmethod -/
theorem pe_smethK0 {C q : Addr} {mc : Value} {o : Expr} {m : Str} {apos : Pos} {ta : TE} {pl : Sem Bool}
    (he : PE X o ta) (r : CRead X.K C mc) (c : SMet X.K C mc m q f) (F : FnOk X.prog X.w X.K X.mg X.base CX k f fd ps sp) (hr : Room k X.A) (hb : BindsK fd ps) (hx : Passes CX X E) (hkw : PK X kws tk)
    (hall : (backToKw pos (keywordEach kws X.env)).all (·.1.isSome) = true := by rfl) (hks : (backToKw pos (keywordEach kws X.env)).filterMap (·.1) = ps := by rfl)
    (hpl : ((backTo pos (starEach [] X.env)).any (·.1) || (backToKw pos (keywordEach kws X.env)).any (·.1.isNone)) = false := by rfl)
    (ht : eval (.Call (.Attribute o m apos) [] kws pos) X.env = (do
      let ov ← eval o X.env
      standAt apos.atName
      let (f, first) ← holding [ov] (getMethod ov m pl)
      callWith pos f first (backTo pos (starEach [] X.env)) (backToKw pos (keywordEach kws X.env))) := by rfl) :
    PE X (.Call (.Attribute o m apos) [] kws pos) (tSMeth C sp E ta tk) := by
  refine ⟨fun pins s σ H Q I h => ?_⟩
  refine PySem.W.methodCall_KW (pl := pl) (thn (he.run pins s σ H _ I h) fun u s1 ⟨x, H1, I1, rx, ex, q⟩ => ?_) ht
  subst ex
  obtain rfl : u = Value.ref C := rx
  refine getsm_ok I1 r c fun s2 I2 => ?_
  refine PySem.W.callWith_KW0 (first := []) (h₀ := X.base) I2.ok.mod.kin c.kp hall ?_ hpl
  refine thn (hkw.run pos pins s2 σ H1 _ I2 q) fun us s3 ⟨vs, H2, I3, rv, q2⟩ => ⟨I3.kIn, ?_⟩
  rw [hks]
  have hl : us.length = ps.length := rv.length.symm.trans (F.len _ _ _ _ q2)
  refine wpAny_call (codeAny_mono (F.run X.A X.stack s3 H2 ⟨[], ps.zip us⟩ us vs _ E hr I3.env0 (hb s3 us hl) rv q2) fun r s' hq => ?_)
  match r, hq with
  | .error e, hq => exact hx pins σ H2 s3 e s' I3 hq
  | .ok (.ret u), hq => exact I3.after hq
  | .ok .next, hq => exact hq.elim
  | .ok .brk, hq => exact hq.elim
  | .ok .cont, hq => exact hq.elim
end
end L2
namespace L2
open PySem PySem.Spec PyProof.Rows
/-! ### sorted texts: one list for each set -/
/-- text by text, in Python's order -/
def leS (x y : Str) : Prop := x.cps.toList ≤ y.cps.toList
theorem leS_trans {a b c : Str} (h : leS a b) (k : leS b c) : leS a c := List.le_trans h k
theorem leS_antisymm {a b : Str} (h : leS a b) (k : leS b a) : a = b := by
  have e : a.cps.toList = b.cps.toList := List.le_antisymm h k
  cases a with
  | mk x =>
    cases b with
    | mk y =>
      congr 1
      cases x; cases y
      exact congrArg _ e
theorem leS_of {a b : Str} (h : ltCps b.cps.toList a.cps.toList = false) : leS a b := by
  rw [ltCps_eq] at h
  exact List.not_lt.mp (of_decide_eq_false h)
theorem to_leS {a b : Str} (h : leS a b) : ltCps b.cps.toList a.cps.toList = false := by
  rw [ltCps_eq]
  exact decide_eq_false (List.not_lt.mpr h)
theorem risingS_pw : ∀ (l : List Str) (p : Str), risingS p l = true → (p :: l).Pairwise leS
  | [], p, _ => List.pairwise_singleton _ _
  | x :: r, p, h => by
    have h : (!ltCps x.cps.toList p.cps.toList && risingS x r) = true := h
    rw [Bool.and_eq_true, Bool.not_eq_true'] at h
    have t := risingS_pw r x h.2
    refine List.pairwise_cons.mpr ⟨fun y m => ?_, t⟩
    cases m with
    | head => exact leS_of h.1
    | tail _ m => exact leS_trans (leS_of h.1) ((List.pairwise_cons.mp t).1 y m)
theorem sortedS_iff {l : List Str} : sortedS l = true ↔ l.Pairwise leS := by
  constructor
  · intro h
    cases l with
    | nil => exact .nil
    | cons x r => exact risingS_pw r x h
  · intro h
    exact sortedS_of_pairwise l (h.imp fun k => to_leS k)
theorem sorted_unique {a b : List Str} (ha : sortedS a = true) (hb : sortedS b = true) (p : a.Perm b) : a = b :=
  p.eq_of_pairwise (fun _ _ _ _ h k => leS_antisymm h k) (sortedS_iff.mp ha) (sortedS_iff.mp hb)
theorem sorted_filter {a : List Str} (f : Str → Bool) (h : sortedS a = true) : sortedS (a.filter f) = true := sortedS_iff.mpr ((sortedS_iff.mp h).filter _)
end L2
namespace L2
open PySem PySem.Spec PyProof.Rows
/-! ### a list comprehension of two fors, over any two walks -/
/-- the inner for -/
theorem lc_inner {J1 : It} {n : Nat} {G : Hp → Prop} {Y : Nat → Hp → V → Hp → Prop} (w : Walk J1 n G Y) {g1 : TG} {tt1 : TT} {te : TE} {vs1 : List Nat} {σ2 : St} {H4 : Hp} {D : Addr} {Nx : Hp → Prop} (Pv : Nat → Hp → Prop) (h0 : Pv 0 H4) (hG : ∀ i H, i ≤ n → Pv i H → G H)
    (hs : ∀ i x H H', i < n → Pv i H → Y i H x H' → g1 x (wipe σ2 vs1) H' fun σ3 H5 => wipe σ3 vs1 = wipe σ2 vs1 ∧ tt1 σ3 H5 fun b H6 =>
      if b = true then te σ3 H6 fun y H7 => ∃ acc, H7 D = some (.lst acc) ∧ acc.length < sizeLine ∧ Pv (i + 1) (upd H7 D (.lst (acc ++ [y]))) else Pv (i + 1) H6) (hd : ∀ H, Pv n H → Nx H) :
    ∃ W1 : Nat → Nat → Hp → Prop, (∃ m, W1 0 m H4) ∧ ∀ j k H, W1 j k H →
      (J1.stop j H ∧ Nx H) ∨ (J1.go j H ∧ ∃ Nx1 : Hp → Prop, (∀ H', Nx1 H' → ∃ k', k' < k ∧ W1 (j + 1) k' H') ∧ ∀ x H', J1.yld j H x H' → g1 x (wipe σ2 vs1) H' fun σ3 H5 => wipe σ3 vs1 = wipe σ2 vs1 ∧ tt1 σ3 H5 fun b H6 =>
        if b = true then te σ3 H6 fun y H7 => ∃ acc, H7 D = some (.lst acc) ∧ acc.length < sizeLine ∧ Nx1 (upd H7 D (.lst (acc ++ [y]))) else Nx1 H6) := by
  refine ⟨fun i m H => m + i = n ∧ Pv i H, ⟨n, Nat.add_zero n, h0⟩, ?_⟩
  rintro i m H ⟨e, p⟩
  have q := hG i H (by omega) p
  by_cases lt : i < n
  · exact .inr ⟨w.goes i H lt q, Pv (i + 1), fun H' p' => ⟨n - (i + 1), by omega, by omega, p'⟩, fun x H' y => hs i x H H' lt p (w.yields i H x H' lt q y)⟩
  · obtain rfl : i = n := by omega
    exact .inl ⟨w.stops H q, hd H p⟩
/-- the outer for -/
theorem lc_outer {J : It} {n : Nat} {G : Hp → Prop} {Y : Nat → Hp → V → Hp → Prop} (w : Walk J n G Y) {B : V → Hp → (Hp → Prop) → Prop} {H0 : Hp} {Qd : Hp → Prop} (Pv : Nat → Hp → Prop) (h0 : Pv 0 H0) (hG : ∀ i H, i ≤ n → Pv i H → G H)
    (hs : ∀ i x H H', i < n → Pv i H → Y i H x H' → B x H' (Pv (i + 1))) (hd : ∀ H, Pv n H → Qd H) :
    ∃ W : Nat → Nat → Hp → Prop, (∃ m, W 0 m H0) ∧ ∀ i m H, W i m H → (J.stop i H ∧ Qd H) ∨ (J.go i H ∧ ∃ Nx : Hp → Prop, (∀ H', Nx H' → ∃ m', m' < m ∧ W (i + 1) m' H') ∧ ∀ x H', J.yld i H x H' → B x H' Nx) := by
  refine ⟨fun i m H => m + i = n ∧ Pv i H, ⟨n, Nat.add_zero n, h0⟩, ?_⟩
  rintro i m H ⟨e, p⟩
  have q := hG i H (by omega) p
  by_cases lt : i < n
  · exact .inr ⟨w.goes i H lt q, Pv (i + 1), fun H' p' => ⟨n - (i + 1), by omega, by omega, p'⟩, fun x H' y => hs i x H H' lt p (w.yields i H x H' lt q y)⟩
  · obtain rfl : i = n := by omega
    exact .inl ⟨w.stops H q, hd H p⟩
end L2
namespace K04
open PySem PySem.Spec PyProof.Rows L2 RatM ClX
abbrev balM (i : Nat) : Stmt := inClass (top 39) i
/-- the class of balances -/
structure BalC (K : PySem.W.Frag) (CB : Addr) : Prop where
  cls : Cls K CB
  no : ∀ f ∈ ([("_numbers" : Str), ("things" : Str), ("is_nothing" : Str), ("key" : Str)] : List Str), NoAttr K CB f
/-- the fields of a balance -/
def balF (nd tp kt : Addr) (b : Bool) : List (Str × V) := putF "key" (.ref kt) (putF "is_nothing" (.bl b) (putF "things" (.ref tp) (putF "_numbers" (.ref nd) [])))
/-- the items of a balance's key -/
def keyV (g : Str → Int × Int) (zs : List Str) : List V := zs.flatMap fun n => [.str n, .int (g n).1, .int (g n).2]
/-- what stands behind the fields -/
def BalIn (H : Hp) (C : Addr) (g : Str → Int × Int) (zs : List Str) (nd tp kt : Addr) : Prop := (∃ kvs, H nd = some (.dK kvs) ∧ RatD H C g kvs zs) ∧ H tp = some (.tup (zs.map V.str)) ∧ H kt = some (.tup (keyV g zs))
theorem RatD.upd_any {H : Hp} {C D : Addr} {g : Str → Int × Int} {kvs : List (Key × V)} {ks : List Str} {o : HO} (h : RatD H C g kvs ks) (hd : ∀ dx fs, H D ≠ some (.ins C dx fs)) : RatD (upd H D o) C g kvs ks :=
  Paired.mono' (fun _ _ ⟨e1, b, e2, dxb, hb⟩ => ⟨e1, b, e2, dxb, (upd_ne fun z => hd dxb _ (z ▸ hb)).trans hb⟩) h
/-- all but a stands -/
def But (a : Addr) (H H' : Hp) : Prop := ∀ b o, b ≠ a → H b = some o → H' b = some o
theorem But.same {a : Addr} {H H1 H2 : Hp} (h : But a H H1) (s : Same H1 H2) : But a H H2 := fun b o n e => s _ _ (h b o n e)
theorem But.upd {a : Addr} {H H1 : Hp} {o : HO} (h : But a H H1) : But a H (upd H1 a o) := fun b o n e => by rw [upd_ne n]; exact h b o n e
theorem But.free {a q : Addr} {H H1 : Hp} (h : But a H H1) (ha : ∃ o, H1 a = some o) (n : H1 q = none) : H q = none := by
  cases e : H q with
  | none => rfl
  | some o =>
    by_cases eq : q = a
    · subst eq
      obtain ⟨o', e'⟩ := ha
      rw [n] at e'
      cases e'
    · rw [h q o eq e] at n
      cases n
theorem keyV_take {g : Str → Int × Int} {zs : List Str} {i : Nat} {n : Str} (e : zs[i]? = some n) : keyV g (zs.take (i + 1)) = keyV g (zs.take i) ++ [.str n, .int (g n).1, .int (g n).2] := by
  unfold keyV
  rw [List.take_add_one, e, List.flatMap_append]
  rfl
theorem keyV_len (g : Str → Int × Int) : ∀ zs : List Str, (keyV g zs).length = 3 * zs.length
  | [] => rfl
  | n :: t => by
    have := keyV_len g t
    unfold keyV at this ⊢
    rw [List.flatMap_cons, List.length_append, this]
    simp only [List.length_cons, List.length_nil]
    omega
theorem yesI {σ : L2.St} {H : Hp} {A B : Hp → Prop} (h : A H) : tYes σ H (fun b H3 => if b = true then A H3 else B H3) := by
  unfold tYes
  dsimp only
  rw [if_pos rfl]
  exact h
def spBI (C CB : Addr) : Sp := fun vs H Q _ => ∃ (a dx d : Addr) (kvs : List (Key × V)) (ks : List Str) (g : Str → Int × Int), vs = [.ref a, .ref d] ∧ H a = some (.ins CB dx []) ∧ H d = some (.dK kvs) ∧ NumD H C g kvs ks ∧ ks.Nodup ∧ ks.length ≤ 60 ∧ (∀ n ∈ ks, n.length ≤ 100000 ∧ nameT n.cps.toList = true) ∧
  ∀ (ys : List Str) (nd tp kt : Addr) (H' : Hp), (∀ b o, b ≠ a → H b = some o → H' b = some o) → ys.Perm ks → sortedS ys = true → H' a = some (.ins CB dx (balF nd tp kt (decide (V.int ((ys.filter fun n => !decide ((g n).1 = 0)).length : Nat) = V.int 0)))) →
    BalIn H' C g (ys.filter fun n => !decide ((g n).1 = 0)) nd tp kt → H nd = none → H tp = none → H kt = none → Q .non H'
section
variable {P : Program} {w : World} {K : PySem.W.Frag} {mg : Str → Option Value} {base : Heap} {C BR CB BB : Addr}
theorem scBI : FnScope ["self", "numbers", "told", "thing", "number", "word"] ["self", "numbers"] (defScope (balM 0)) := ⟨rfl, rfl, rfl, by decide +kernel, rfl, by decide +kernel, by decide +kernel⟩
theorem ok_balInit {f fN : Addr} {fd fdN : FuncData} (F : MtP K "__init__" "Balance.__init__" (balM 0) f fd) (T : BalC K CB) (nCB : C ≠ CB) (TR : RatC K C) (M : ErrN P w K mg base "BadBalance" BB ["part"]) (bT : mg "tuple" = none) (bl : mg "len" = none)
    (GN : FnOk P w K mg base CX0 7 fN fdN ["value"] (spNin K C)) (bN : Binds K fdN ["value"] []) (kN : PySem.W.keepIn K (.ref fN) = true) (gN : mg "numbers_in" = some (.ref fN)) :
    FnOk P w K mg base (L2.CX P w) 8 f fd ["self", "numbers"] (spBI C CB) := by
  refine F.ok scBI (fun vs H Q E h => ?_) (fun cdv A outer s H vs Q E hr h => ?_)
  · obtain ⟨a, dx, d, kvs, ks, g, rfl, _⟩ := h
    rfl
  · obtain ⟨a, dx, d, kvs, ks, g, rfl, ha, hd, hk, nd, lk, nm, k⟩ := h
    have hr7 : Room 7 _ := hr
    refine ⟨_, (pss_cons (ps_set (i := 2) scBI.nd rfl (.inl rfl) (pe_call GN hr7 rfl gN kN bN .nil pass0 (pa_cons (pv 1) pa_nil)))
      (pss_cons (ps_if (pt_cmpR op_isN (pv 2) pe_non (nomark _)) (pss_one (ps_raiseN rfl M (hr7.mono (by decide)) (takes_of rfl rfl rfl rfl) (by rfl) (pa_cons pe_str pa_nil))) pss_nil)
      (pss_cons (ps_fld (pv 0) (pe_lock (pe_dc (own := [("thing", 3), ("number", 4)]) (g := gTup K 2 (gCons (gName 3) (gCons (gName 4) gNil))) (tt := tTest (tOp rNe (tFld K (tVar 4) "sign") (tC (.int 0)))) (tk := tVar 3) (tv := tVar 4) rfl scBI.nd (pi_items (pv 2)) (blkOk_by (N := ["self", "numbers", "told", "thing", "number", "word"]) (sc := defScope (balM 0)) (by decide +kernel)) (fun _ _ _ _ _ => pg_tup rfl (pgs_cons (pg_name (i := 3) scBI.nd rfl (Or.inl rfl)) (pgs_cons (pg_name (i := 4) scBI.nd rfl (Or.inl rfl)) pgs_nil))) (fun _ _ _ _ _ => pts_one (pt_cmpR op_ne (pe_fld (pv 4) rfl) pe_int (nomark _))) (fun _ _ _ _ _ => pv 3) (fun _ _ _ _ _ => pv 4))) (by rfl))
      (pss_cons (ps_fld (pv 0) (pe_callTy (call_tuple_dK rfl) (by rfl) bT PyProof.Rows.boot_tuple (pa_cons (pe_fld (pv 0) rfl) pa_nil)) (by rfl))
      (pss_cons (ps_fld (pv 0) (pe_cmpR op_eq (pe_callB call_len_seq (by rfl) bl PySem.boot_len (pa_cons (pe_fld (pv 0) rfl) pa_nil)) pe_int (nomark _)) (by rfl))
      (pss_one (ps_fld (pv 0) (pe_tupleOf (by rfl) bT (pe_lock (pe_lc2 (own := [("thing", 3), ("number", 4), ("word", 5)]) (vs1 := [5]) (g := gTup K 2 (gCons (gName 3) (gCons (gName 4) gNil))) (tt := tYes) (g1 := gName 5) (tt1 := tYes) (te := tVar 5) (wi1 := iTup K (tTup (tCons (tVar 3) (tCons (tFld K (tVar 4) "top") (tCons (tFld K (tVar 4) "bottom") tNil))))) rfl scBI.nd (pi_items (pe_fld (pv 0) rfl)) (blkOk_by (N := ["self", "numbers", "told", "thing", "number", "word"]) (sc := defScope (balM 0)) (by decide +kernel)) (by decide) (fun _ _ _ _ _ => pg_tup rfl (pgs_cons (pg_name (i := 3) scBI.nd rfl (Or.inl rfl)) (pgs_cons (pg_name (i := 4) scBI.nd rfl (Or.inl rfl)) pgs_nil))) (fun _ _ _ _ _ => pts_nil) (fun _ _ _ _ _ => pi_tup (pe_tup (pa_cons (pv 3) (pa_cons (pe_fld (pv 4) rfl) (pa_cons (pe_fld (pv 4) rfl) pa_nil)))))
        (fun _ _ _ _ _ => pg_name (i := 5) scBI.nd rfl (Or.inl rfl)) (fun _ _ _ _ _ => pts_nil) (fun _ _ _ _ _ => pv 5)))) (by rfl)))))))), ?_⟩
    have nN := T.no "_numbers" (by simp)
    have nT := T.no "things" (by simp)
    have nI := T.no "is_nothing" (by simp)
    have nK := T.no "key" (by simp)
    have rs := TR.no "sign" (by simp)
    have rt := TR.no "top" (by simp)
    have rb := TR.no "bottom" (by simp)
    refine ⟨_, rfl, d, kvs, ks, g, rfl, hd, hk, nd, lk, nm, fun r ys kvs1 H1 s1 nr py sy hr1 hR1 => ?_⟩
    refine ⟨_, rfl, rfl, false, rfl, iteF ?_⟩
    dsimp only [tNext, tSeq]
    have ha1 := s1 _ _ ha
    refine ⟨r, .dK kvs1, hr1, True.intro, fun od => ?_⟩
    refine ⟨_, rfl, r, od, kvs1, rfl, upd_same, fun D nD => ?_⟩
    have nDr : D ≠ r := fun e => by rw [e, upd_same] at nD; cases nD
    have nD1 : H1 D = none := by rw [upd_ne nDr] at nD; exact nD
    generalize hHL : upd H1 r (.frz od (.dK kvs1)) = HL at nD ⊢
    have hrL : HL r = some (.frz od (.dK kvs1)) := by rw [← hHL]; exact upd_same
    have hRL : RatD HL C g kvs1 ys := by
      rw [← hHL]
      exact RatD.upd_d hR1 hr1
    have ly : kvs1.length = ys.length := Paired.length hR1
    have lk2 : ys.length ≤ 60 := by rw [py.length_eq]; exact lk
    have nyd : ys.Nodup := py.nodup_iff.mpr nd
    refine dc_it walk_items (fun i Hx => Same HL Hx ∧ ∃ kvs', Hx D = some (.dK kvs') ∧ RatD Hx C g kvs' ((ys.take i).filter fun n => !decide ((g n).1 = 0))) ⟨same_upd nD, [], upd_same, .nil⟩ (fun i Hx _ hP => hP.1 _ _ hrL) (fun i x Hx Hx' hi hP hy => ?_) (fun Hx hP => ?_)
    · obtain ⟨TT, xk, xv, rfl, nTT, rfl, e1, e2⟩ := hy
      obtain ⟨s2, kvs', hD, hR⟩ := hP
      dsimp only at e1 e2
      obtain ⟨kv, ekv, e1⟩ := Option.map_eq_some_iff.mp e1
      rw [ekv] at e2
      obtain rfl : kv.2 = xv := by simpa using e2
      obtain ⟨n, en, ek, b, eb, dxb, hb⟩ := Paired.at' hRL i _ ekv
      rw [ek] at e1
      subst e1
      rw [eb]
      have s3 : Same Hx (upd Hx TT (.tup [kV (.inr n), .ref b])) := same_upd nTT
      generalize hH3 : upd Hx TT (.tup [kV (.inr n), .ref b]) = H3 at s3
      have hT3 : H3 TT = some (.tup [kV (.inr n), .ref b]) := by rw [← hH3]; exact upd_same
      have tk := take_succ_filter (fun n => !decide ((g n).1 = 0)) ys i n en
      refine ⟨TT, _, rfl, SqT.of hT3, rfl, _, _, rfl, _, _, rfl, rfl, rfl, ?_⟩
      refine ⟨_, rfl, b, C, dxb, _, _, rfl, s3 _ _ (s2 _ _ hb), TR.cls, rs, rfl, rfl, !decide ((g n).1 = 0), congrArg V.bl (by rw [sg_zero]), ite2 (fun c => ?_) (fun c => ?_)⟩
      · refine ⟨_, rfl, _, rfl, kvs', .inr n, rfl, s3 _ _ hD, ?_, fun c o e => ?_, _, upd_same, ?_⟩
        · have h1 := Paired.length hR
          have h2 := List.length_filter_le (fun n => !decide ((g n).1 = 0)) (ys.take i)
          have h3 := List.length_take (i := i) (l := ys)
          rw [sizeLine_eq]; omega
        · rw [upd_ne (ne_of_none e nD)]; exact s3 _ _ (s2 _ _ e)
        · rw [tk, if_pos c]
          have nt : n ∉ (ys.take i).filter fun n => !decide ((g n).1 = 0) := fun m => by
            obtain ⟨j, hj, ej⟩ := List.mem_take_iff_getElem.mp (List.mem_filter.mp m).1
            have h1 : ys[j]? = some n := by rw [List.getElem?_eq_getElem (by omega), ej]
            have lj : j < ys.length := by omega
            have h2 := (List.getElem?_inj lj nyd).mp (h1.trans en.symm)
            omega
          rw [putK_new _ (NumD.noVal hR.num nt)]
          exact Paired.snoc ((hR.same s3).upd_d (s3 _ _ hD)) ⟨rfl, b, rfl, RatAt.upd_d ⟨dxb, s3 _ _ (s2 _ _ hb)⟩ (s3 _ _ hD)⟩
      · refine ⟨s2.trans s3, kvs', s3 _ _ hD, ?_⟩
        rw [tk, if_neg c, List.append_nil]
        exact hR.same s3
    · obtain ⟨s2, kvs', hD, hR⟩ := hP
      rw [ly, List.take_length] at hR
      have lzs := Nat.le_trans (List.length_filter_le (fun n => !decide ((g n).1 = 0)) ys) lk2
      have k2 := k ys
      generalize (ys.filter fun n => !decide ((g n).1 = 0)) = zs at hR k2 lzs
      generalize hH2 : upd Hx r (.dK kvs1) = H2
      have s3 : Same H H2 := fun b o e => by
        rw [← hH2]
        by_cases eb : b = r
        · subst eb
          rw [nr] at e
          cases e
        · rw [upd_ne eb]
          refine s2 _ _ ?_
          rw [← hHL, upd_ne eb]
          exact s1 _ _ e
      have hD2 : H2 D = some (.dK kvs') := by rw [← hH2, upd_ne nDr]; exact hD
      have hR2 : RatD H2 C g kvs' zs := by rw [← hH2]; exact hR.upd_any fun dx fs z => by rw [s2 _ _ hrL] at z; cases z
      have nD0 : H D = none := s1.free nD1
      refine ⟨s2 _ _ hrL, _, rfl, a, CB, dx, [], rfl, s3 _ _ ha, T.cls, nN, by decide, ?_⟩
      have nDa : D ≠ a := fun e => by rw [e, ha] at nD0; cases nD0
      have hRu : ∀ {H' : Hp} {o : HO} {kv : List (Key × V)}, RatD H' C g kv zs → ∀ (fs : List (Str × V)), H' a = some (.ins CB dx fs) → RatD (upd H' a o) C g kv zs := fun {H' o kv} h fs e => h.upd_any fun dx2 fs2 z => by
        rw [e] at z
        injection z with z
        injection z with z
        exact nCB z.symm
      have lz : zs.length ≤ 60 := lzs
      have ha2 := s3 _ _ ha
      have bA : But a H (upd H2 a (.ins CB dx (putF "_numbers" (.ref D) []))) := But.upd fun b o _ e => s3 _ _ e
      have hRA := hRu (o := .ins CB dx (putF "_numbers" (.ref D) [])) hR2 _ ha2
      have hDA : (upd H2 a (.ins CB dx (putF "_numbers" (.ref D) []))) D = some (.dK kvs') := by rw [upd_ne nDa]; exact hD2
      have haA : (upd H2 a (.ins CB dx (putF "_numbers" (.ref D) []))) a = some (.ins CB dx (putF "_numbers" (.ref D) [])) := upd_same
      generalize upd H2 a (.ins CB dx (putF "_numbers" (.ref D) [])) = HA at bA hRA hDA haA ⊢
      clear hR2 hD2
      dsimp only [tSeq]
      refine ⟨_, rfl, a, CB, dx, _, _, rfl, haA, T.cls, nN, rfl, D, kvs', rfl, hDA, fun q nq => ?_⟩
      rw [NumD.keys hRA.num]
      have nqa : q ≠ a := fun e => by rw [e, haA] at nq; cases nq
      have nqD : q ≠ D := fun e => by rw [e, hDA] at nq; cases nq
      refine ⟨_, rfl, a, CB, dx, _, rfl, by rw [upd_ne (Ne.symm nqa)]; exact haA, T.cls, nT, by show 1 < 1000; decide, ?_⟩
      have nq0 : H q = none := bA.free ⟨_, haA⟩ nq
      have sB := same_upd (o := .tup (zs.map V.str)) nq
      have bB : But a H (upd (upd HA q (.tup (zs.map V.str))) a (.ins CB dx (putF "things" (.ref q) (putF "_numbers" (.ref D) [])))) := But.upd (bA.same sB)
      have hRB := hRu (o := .ins CB dx (putF "things" (.ref q) (putF "_numbers" (.ref D) []))) (hRA.same sB) _ (sB _ _ haA)
      have hDB : (upd (upd HA q (.tup (zs.map V.str))) a (.ins CB dx (putF "things" (.ref q) (putF "_numbers" (.ref D) [])))) D = some (.dK kvs') := by rw [upd_ne nDa]; exact sB _ _ hDA
      have haB : (upd (upd HA q (.tup (zs.map V.str))) a (.ins CB dx (putF "things" (.ref q) (putF "_numbers" (.ref D) [])))) a = some (.ins CB dx (putF "things" (.ref q) (putF "_numbers" (.ref D) []))) := upd_same
      have hqB : (upd (upd HA q (.tup (zs.map V.str))) a (.ins CB dx (putF "things" (.ref q) (putF "_numbers" (.ref D) [])))) q = some (.tup (zs.map V.str)) := by rw [upd_ne nqa, upd_same]
      generalize upd (upd HA q (.tup (zs.map V.str))) a (.ins CB dx (putF "things" (.ref q) (putF "_numbers" (.ref D) []))) = HB at bB hRB hDB haB hqB ⊢
      clear hRA hDA haA bA nq sB
      dsimp only [tSeq]
      refine ⟨_, rfl, a, CB, dx, _, _, rfl, haB, T.cls, nT, rfl, q, zs.map V.str, rfl, .inr (SqT.of hqB), rfl, ?_⟩
      rw [List.length_map]
      refine ⟨_, rfl, a, CB, dx, _, rfl, haB, T.cls, nI, by show 2 < 1000; decide, ?_⟩
      generalize hF3 : putF "is_nothing" (.bl (decide (V.int (zs.length : Nat) = V.int 0))) (putF "things" (.ref q) (putF "_numbers" (.ref D) [])) = F3
      have lF3 : F3.length < 1000 := by rw [← hF3]; show 3 < 1000; decide
      have lkF : F3.lookup ("_numbers" : Str) = some (V.ref D) := by rw [← hF3]; rfl
      have bC : But a H (upd HB a (.ins CB dx F3)) := bB.upd
      have hRC := hRu (o := .ins CB dx F3) hRB _ haB
      have hDC : (upd HB a (.ins CB dx F3)) D = some (.dK kvs') := by rw [upd_ne nDa]; exact hDB
      have hqC : (upd HB a (.ins CB dx F3)) q = some (.tup (zs.map V.str)) := by rw [upd_ne nqa]; exact hqB
      have haC : (upd HB a (.ins CB dx F3)) a = some (.ins CB dx F3) := upd_same
      generalize upd HB a (.ins CB dx F3) = HC at bC hRC hDC hqC haC ⊢
      clear hRB hDB haB bB hqB
      dsimp only [tSeq]
      refine ⟨D, .dK kvs', hDC, True.intro, fun od2 => ?_⟩
      refine ⟨_, rfl, a, CB, dx, _, _, rfl, by rw [upd_ne (Ne.symm nDa)]; exact haC, T.cls, nN, lkF, D, od2, kvs', rfl, upd_same, fun L nL => ?_⟩
      have nLD : L ≠ D := fun e => by rw [e, upd_same] at nL; cases nL
      have nLC : HC L = none := by rw [upd_ne nLD] at nL; exact nL
      have hRL2 : RatD (upd HC D (.frz od2 (.dK kvs'))) C g kvs' zs := hRC.upd_any fun dx fs z => by rw [hDC] at z; cases z
      generalize hHM : upd HC D (.frz od2 (.dK kvs')) = HM at nL hRL2 ⊢
      have hDM : HM D = some (.frz od2 (.dK kvs')) := by rw [← hHM]; exact upd_same
      refine lc_outer walk_items (fun i Hx => Same HM Hx ∧ Hx L = some (.lst (keyV g (zs.take i)))) ⟨same_upd nL, upd_same⟩ (fun i Hx _ hP => hP.1 _ _ hDM) (fun i x Hx Hx' hi hP hy => ?_) (fun Hx hP => ?_)
      · obtain ⟨TT, xk, xv, rfl, nTT, rfl, e1, e2⟩ := hy
        obtain ⟨s5, hL⟩ := hP
        dsimp only at e1 e2
        obtain ⟨kv, ekv, e1⟩ := Option.map_eq_some_iff.mp e1
        rw [ekv] at e2
        obtain rfl : kv.2 = xv := by simpa using e2
        obtain ⟨n, en, ek, b, eb, dxb, hb⟩ := Paired.at' hRL2 i _ ekv
        rw [ek] at e1
        subst e1
        rw [eb]
        have s6 : Same Hx (upd Hx TT (.tup [kV (.inr n), .ref b])) := same_upd nTT
        generalize hH3 : upd Hx TT (.tup [kV (.inr n), .ref b]) = H3 at s6
        have hT3 : H3 TT = some (.tup [kV (.inr n), .ref b]) := by rw [← hH3]; exact upd_same
        have hb3 := s6 _ _ (s5 _ _ hb)
        refine ⟨TT, _, rfl, SqT.of hT3, rfl, _, _, rfl, _, _, rfl, rfl, rfl, ?_⟩
        refine yesI ?_
        refine ⟨_, rfl, _, rfl, b, C, dxb, _, _, rfl, hb3, TR.cls, rt, rfl, _, rfl, b, C, dxb, _, _, rfl, hb3, TR.cls, rb, rfl, ?_, fun p np => ⟨p, rfl, ⟨_, SqT.of upd_same⟩, ?_⟩⟩
        · rw [sizeLine_eq]; show 3 ≤ 16777216; decide
        · have s7 := same_upd (o := .tup [V.str n, V.int (g n).1, V.int (g n).2]) np
          have hp : (upd H3 p (.tup [V.str n, V.int (g n).1, V.int (g n).2])) p = some (.tup [V.str n, V.int (g n).1, V.int (g n).2]) := upd_same
          have hL7 := s7 _ _ (s6 _ _ hL)
          have s8 : Same HM (upd H3 p (.tup [V.str n, V.int (g n).1, V.int (g n).2])) := (s5.trans s6).trans s7
          show ∃ W1 : Nat → Nat → Hp → Prop, (∃ m, W1 0 m (upd H3 p (.tup [V.str n, V.int (g n).1, V.int (g n).2]))) ∧ _
          generalize upd H3 p (.tup [V.str n, V.int (g n).1, V.int (g n).2]) = H7 at hp hL7 s8 ⊢
          refine lc_inner (walk_tup (xs := [V.str n, V.int (g n).1, V.int (g n).2])) (fun j Hy => Same HM Hy ∧ Hy p = some (.tup [V.str n, V.int (g n).1, V.int (g n).2]) ∧ Hy L = some (.lst (keyV g (zs.take i) ++ [V.str n, V.int (g n).1, V.int (g n).2].take j))) ⟨s8, hp, by rw [hL7, List.take_zero, List.append_nil]⟩ (fun j Hy _ hP => SqT.of hP.2.1) (fun j x Hy Hy' hj hP hy => ?_) (fun Hy hP => ?_)
          · obtain ⟨rfl, ex⟩ := hy
            obtain ⟨s9, hp9, hL9⟩ := hP
            refine ⟨rfl, ?_⟩
            refine yesI ?_
            have nLH : HM L = none := nL
            refine ⟨_, rfl, _, hL9, ?_, fun c o e => ?_, ?_, ?_⟩
            · have l1 := keyV_len g (zs.take i)
              have l2 := List.length_take (i := i) (l := zs)
              have l3 := List.length_take (i := j) (l := [V.str n, V.int (g n).1, V.int (g n).2])
              have l4 : [V.str n, V.int (g n).1, V.int (g n).2].length = 3 := rfl
              rw [List.length_append, sizeLine_eq]
              omega
            · rw [upd_ne (ne_of_none e nL)]; exact s9 _ _ e
            · rw [upd_ne (fun z => by rw [z, hL9] at hp9; cases hp9)]; exact hp9
            · rw [upd_same, List.append_assoc, List.take_add_one, ex]
              rfl
          · obtain ⟨s9, _, hL9⟩ := hP
            refine ⟨s9, ?_⟩
            rw [keyV_take en, hL9]
            rfl
      · obtain ⟨s5, hL⟩ := hP
        rw [Paired.length hRC, List.take_length] at hL
        generalize hHE : upd Hx D (.dK kvs') = HE
        have s6 : Same HC HE := fun b o e => by
          rw [← hHE]
          by_cases eb : b = D
          · subst eb
            rw [upd_same, ← hDC, e]
          · rw [upd_ne eb]
            refine s5 _ _ ?_
            rw [← hHM, upd_ne eb]
            exact e
        have hLE : HE L = some (.lst (keyV g zs)) := by rw [← hHE, upd_ne nLD]; exact hL
        refine ⟨s5 _ _ hDM, .inl ⟨L, keyV g zs, rfl, SqL.of hLE, fun q2 nq2 => ?_⟩⟩
        have haE := s6 _ _ haC
        have n2a : q2 ≠ a := fun e => by rw [e, haE] at nq2; cases nq2
        have n2D : q2 ≠ D := fun e => by rw [e, s6 _ _ hDC] at nq2; cases nq2
        have n2q : q2 ≠ q := fun e => by rw [e, s6 _ _ hqC] at nq2; cases nq2
        have sE := same_upd (o := .tup (keyV g zs)) nq2
        refine ⟨_, rfl, a, CB, dx, F3, rfl, sE _ _ haE, T.cls, nK, lF3, ?_⟩
        refine k2 D q q2 _ ((bC.same s6).same sE).upd py sy ?_ ⟨⟨kvs', ?_, ?_⟩, ?_, ?_⟩ nD0 nq0 ((bC.same s6).free ⟨_, haE⟩ nq2)
        · rw [upd_same, ← hF3]
          rfl
        · rw [upd_ne nDa]; exact sE _ _ (s6 _ _ hDC)
        · exact hRu ((hRC.same s6).same sE) _ (sE _ _ haE)
        · rw [upd_ne nqa]; exact sE _ _ (s6 _ _ hqC)
        · rw [upd_ne n2a, upd_same]
end
end K04
namespace K04
open PySem PySem.Spec PyProof.Rows L2 RatM ClX
/-! ### balances as values -/
/-- a balance of the things zs with the numbers g -/
def BalAt (H : Hp) (a CB C : Addr) (g : Str → Int × Int) (zs : List Str) : Prop := ∃ dx nd tp kt, H a = some (.ins CB dx (balF nd tp kt (decide (V.int (zs.length : Nat) = V.int 0)))) ∧ BalIn H C g zs nd tp kt
theorem BalIn.same {H H' : Hp} {C nd tp kt : Addr} {g : Str → Int × Int} {zs : List Str} (h : BalIn H C g zs nd tp kt) (s : Same H H') : BalIn H' C g zs nd tp kt := by
  obtain ⟨⟨kvs, e, r⟩, e1, e2⟩ := h
  exact ⟨⟨kvs, s _ _ e, r.same s⟩, s _ _ e1, s _ _ e2⟩
theorem BalAt.same {H H' : Hp} {a CB C : Addr} {g : Str → Int × Int} {zs : List Str} (h : BalAt H a CB C g zs) (s : Same H H') : BalAt H' a CB C g zs := by
  obtain ⟨dx, nd, tp, kt, e, i⟩ := h
  exact ⟨dx, nd, tp, kt, s _ _ e, i.same s⟩
/-- numbers other than 0 -/
abbrev nz (g : Str → Int × Int) (ys : List Str) : List Str := ys.filter fun n => !decide ((g n).1 = 0)
/-- the names that a dict may have as keys -/
structure NsOk (ks : List Str) : Prop where
  nd : ks.Nodup
  le : ks.length ≤ 60
  nm : ∀ n ∈ ks, n.length ≤ 100000 ∧ nameT n.cps.toList = true
/-- Balance(x) -/
def MkB (CB C : Addr) (x : V) (H : Hp) (Q : VK) : Prop := ∃ (d : Addr) (kvs : List (Key × V)) (ks : List Str) (g : Str → Int × Int), x = .ref d ∧ H d = some (.dK kvs) ∧ NumD H C g kvs ks ∧ NsOk ks ∧
  ∀ a ys H', Same H H' → H a = none → ys.Perm ks → sortedS ys = true → BalAt H' a CB C g (nz g ys) → Q (.ref a) H'
theorem mkB_sp {CB C : Addr} {x : V} {H : Hp} {Q : VK} {E : XK} (h : MkB CB C x H Q) (a dx : Addr) (na : H a = none) (nd : H dx = none) (ne : dx ≠ a) :
    spBI C CB [.ref a, x] (upd (upd H dx (.own a)) a (.ins CB dx [])) (fun v H2 => v = .non ∧ Q (.ref a) H2) E := by
  obtain ⟨d, kvs, ks, g, rfl, hd, hk, ok, k⟩ := h
  have s1 : Same H (upd (upd H dx (.own a)) a (.ins CB dx [])) := fun b o e => by rw [upd_ne (ne_of_none e na), upd_ne (ne_of_none e nd)]; exact e
  refine ⟨a, dx, d, kvs, ks, g, rfl, upd_same, s1 _ _ hd, hk.same s1, ok.nd, ok.le, ok.nm, fun ys nd' tp kt H' off py sy at_ bi n1 n2 n3 => ⟨rfl, k a ys H' (fun b o e => off b o (ne_of_none e na) (s1 b o e)) na py sy ⟨dx, nd', tp, kt, at_, bi⟩⟩⟩
/-- what the functions of balances rest on -/
structure BalK (P : Program) (w : World) (K : PySem.W.Frag) (mg : Str → Option Value) (base : Heap) (CB C : Addr) : Prop where
  T : BalC K CB
  n : C ≠ CB
  g : mg "Balance" = some (.ref CB)
  make : ∃ (f : Addr) (fd : FuncData), Mk K CB f ∧ FnOk P w K mg base (L2.CX P w) 8 f fd ["self", "numbers"] (spBI C CB) ∧ Binds K fd ["self", "numbers"] []
section
variable {X : Cx} {CB C : Addr} {E : XK} {p pos : Pos} {e1 : Expr} {ta : TA}
def tBal (CB C : Addr) (ta : TA) : TE := fun σ H Q => ta σ H fun vs H1 => ∃ x, vs = [x] ∧ MkB CB C x H1 Q
theorem pe_bal {P : Program} {w : World} {K : PySem.W.Frag} {mg : Str → Option Value} {base : Heap} (R : BalK P w K mg base CB C) (hr : Room 9 X.A) (hx : Passes (L2.CX X.prog X.w) X E) (hg : Gl X "Balance") (ha : PA X [e1] ta)
    (h1 : X.prog = P := by rfl) (h2 : X.w = w := by rfl) (h3 : X.K = K := by rfl) (h4 : X.mg = mg := by rfl) (h5 : X.base = base := by rfl)
    (he : starEach [e1] X.env = (false, eval e1 X.env) :: starEach [] X.env := by rfl) (hpl : (backTo pos (starEach [] X.env)).any (·.1) = false := by rfl) :
    PE X (.Call (.Name "Balance" p) [e1] [] pos) (tBal CB C ta) := by
  subst h1 h2 h3 h4 h5
  obtain ⟨f, fd, M, F, b0⟩ := R.make
  refine ⟨fun pins s σ H Q I h => ?_⟩
  refine wpAny_Call_Name_kw (ld_glob I hg R.g ?_ (by decide))
  refine PySem.W.callWith_K (h₀ := X.base) I.ok.mod.kin M.kp (thn (ha.run pos pins s σ H _ I h) fun us s1 ⟨vs, H1, I1, r, q⟩ => ⟨I1.kIn, ?_⟩) he hpl
  obtain ⟨x, rfl, q⟩ := q
  exact run_make (dvs := []) (E := E) M F hr b0 .nil hx I1 r fun a dx na nd ne => mkB_sp q a dx na nd ne
end
end K04
namespace K04
open PySem PySem.Spec PyProof.Rows L2 RatM ClX
/-- the number of a thing -/
def num (g : Str → Int × Int) (zs : List Str) (n : Str) : Int × Int := if n ∈ zs then g n else (0, 1)
theorem RatD.val {H : Hp} {C : Addr} {g : Str → Int × Int} {kvs : List (Key × V)} {ks : List Str} (h : RatD H C g kvs ks) {n : Str} (m : n ∈ ks) : ∃ v, valV kvs (.inr n) = some v ∧ ∃ b, v = .ref b ∧ RatAt H b C (g n).1 (g n).2 := by
  induction h with
  | nil => cases m
  | @cons x y l1 l2 h t ih =>
    by_cases e : y = n
    · subst e
      exact ⟨x.2, valV_pos h.1, h.2⟩
    · have ne : ¬ x.1 = Sum.inr n := fun z => e (by rw [h.1] at z; injection z)
      rw [valV_neg ne]
      exact ih (by cases m with
        | head => exact absurd rfl e
        | tail _ m => exact m)
def spNum (CB C : Addr) : Sp := fun vs H Q _ => ∃ (a : Addr) (n : Str) (g : Str → Int × Int) (zs : List Str), vs = [.ref a, .str n] ∧ BalAt H a CB C g zs ∧ n.length ≤ 100000 ∧ nameT n.cps.toList = true ∧ ∀ r H', Same H H' → RatAt H' r C (num g zs n).1 (num g zs n).2 → Q (.ref r) H'
section
variable {P : Program} {w : World} {K : PySem.W.Frag} {mg : Str → Option Value} {base : Heap} {C BR CB BB : Addr}
theorem scNo : FnScope ["self", "thing"] ["self", "thing"] (defScope (balM 3)) := ⟨rfl, rfl, rfl, by decide +kernel, rfl, by decide +kernel, by decide +kernel⟩
theorem ok_numberOf {f fM : Addr} {fd fdM : FuncData} (F : MtP K "number_of" "Balance.number_of" (balM 3) f fd) (T : BalC K CB) (R : RatK P w K mg base C BR)
    (GM : FnOk P w K mg base CX0 1 fM fdM ["value"] (spNm K)) (bM : Binds K fdM ["value"] []) (kM : PySem.W.keepIn K (.ref fM) = true) (gM : mg "is_name" = some (.ref fM)) :
    FnOk P w K mg base CX0 5 f fd ["self", "thing"] (spNum CB C) := by
  refine F.ok scNo (fun vs H Q E h => ?_) (fun cdv A outer s H vs Q E hr h => ?_)
  · obtain ⟨a, n, g, zs, rfl, _⟩ := h
    rfl
  · obtain ⟨a, n, g, zs, rfl, hb, ln, tn, k⟩ := h
    have hr4 : Room 4 _ := hr
    have hu1 : (A.deeper (envOfC (Str.ofString "Balance.number_of") (defScope (balM 3)) s.heap.objs.size f cdv)).units + 1 < cLine := by have := hr4.units; omega
    refine ⟨_, PSs.nox (pss_one (ps_ret (pe_ifExp (pt_val (pe_call GM (hr4.mono (by decide)) rfl gM kM bM .nil pass0 (pa_cons (pv 1) pa_nil))) (pe_dget2 hu1 (pe_fld (pv 0) rfl) (pv 1) (pe_rat1 R (by exact hr4) (E := E0) passL rfl (pa_cons pe_int pa_nil)) ⟨rfl, rfl, rfl, rfl⟩)
      (pe_rat1 R (by exact hr4) (E := E0) passL rfl (pa_cons pe_int pa_nil))))), ?_⟩
    obtain ⟨dx, nd, tp, kt, ha, ⟨kvs, hd, hR⟩, ht, hk⟩ := hb
    refine ⟨_, rfl, _, rfl, .inl ⟨n, rfl, ln, fun H1 s1 => ⟨true, congrArg V.bl tn, iteT ?_⟩⟩⟩
    refine ⟨_, rfl, a, CB, dx, _, _, rfl, s1 _ _ ha, T.cls, T.no "_numbers" (by simp), rfl, nd, rfl, .inl ⟨kvs, .inl (s1 _ _ hd)⟩, _, rfl, _, rfl, .inl ⟨0, 1, rfl, rfl, by decide, by decide, by decide, fun r H2 s2 h2 => ⟨_, DGet.k (k := .inr n) (s2 _ _ (s1 _ _ hd)), ?_⟩⟩⟩
    by_cases m : n ∈ zs
    · obtain ⟨v', ev', b, eb, hb⟩ := RatD.val hR m
      rw [ev', eb]
      refine k b H2 (s1.trans s2) ?_
      unfold num
      rw [if_pos m]
      exact hb.same (s1.trans s2)
    · rw [NumD.noVal hR.num m]
      refine k r H2 (s1.trans s2) ?_
      unfold num
      rw [if_neg m]
      exact h2
end
end K04
namespace K04
open PySem PySem.Spec PyProof.Rows L2 RatM ClX
/-! ### dict comprehensions that make balances -/
/-- so far: the things ahead that f lets through, with the numbers g -/
def DcP (HL : Hp) (D C : Addr) (g : Str → Int × Int) (f : Str → Bool) (zs : List Str) (i : Nat) (Hx : Hp) : Prop := Same HL Hx ∧ ∃ kvs', Hx D = some (.dK kvs') ∧ RatD Hx C g kvs' ((zs.take i).filter f)
section
variable {HL Hx H5 H1 H' : Hp} {D C nd b : Addr} {g : Str → Int × Int} {f : Str → Bool} {zs : List Str} {kvs : List (Key × V)} {i : Nat} {n : Str} {x : V} {od : Obj}
theorem DcP.zero (nD : HL D = none) : DcP HL D C g f zs 0 (upd HL D (.dK [])) := ⟨same_upd nD, [], upd_same, .nil⟩
theorem DcP.skip (h : DcP HL D C g f zs i Hx) (s : Same Hx H5) (en : zs[i]? = some n) (hf : f n = false) : DcP HL D C g f zs (i + 1) H5 := by
  obtain ⟨s2, kvs', hD, hR⟩ := h
  refine ⟨s2.trans s, kvs', s _ _ hD, ?_⟩
  have tk := take_succ_filter f zs i n en
  rw [tk, hf]
  simp only [Bool.false_eq_true, if_false, List.append_nil]
  exact hR.same s
theorem DcP.put (h : DcP HL D C g f zs i Hx) (nD : HL D = none) (ok : NsOk zs) (s : Same Hx H5) (en : zs[i]? = some n) (hf : f n = true) (hb : RatAt H5 b C (g n).1 (g n).2) :
    ∃ kvs k, (V.str n) = kV k ∧ H5 D = some (.dK kvs) ∧ kvs.length < sizeLine ∧ DcP HL D C g f zs (i + 1) (upd H5 D (.dK (putK kvs k (.ref b)))) := by
  obtain ⟨s2, kvs', hD, hR⟩ := h
  refine ⟨kvs', .inr n, rfl, s _ _ hD, ?_, fun c o e => ?_, _, upd_same, ?_⟩
  · have h1 := Paired.length hR
    have h2 := List.length_filter_le f (zs.take i)
    have h3 := List.length_take (i := i) (l := zs)
    have h4 := ok.le
    rw [sizeLine_eq]; omega
  · rw [upd_ne (ne_of_none e nD)]; exact s _ _ (s2 _ _ e)
  · have tk := take_succ_filter f zs i n en
    rw [tk, hf]
    have nt : n ∉ (zs.take i).filter f := fun m => by
      obtain ⟨j, hj, ej⟩ := List.mem_take_iff_getElem.mp (List.mem_filter.mp m).1
      have h1 : zs[j]? = some n := by rw [List.getElem?_eq_getElem (by omega), ej]
      have lj : j < zs.length := by omega
      have h2 := (List.getElem?_inj lj ok.nd).mp (h1.trans en.symm)
      omega
    rw [putK_new _ (NumD.noVal hR.num nt)]
    exact Paired.snoc ((hR.same s).upd_d (s _ _ hD)) ⟨rfl, b, rfl, RatAt.upd_d hb (s _ _ hD)⟩
theorem DcP.done (h : DcP HL D C g f zs zs.length Hx) : Same HL Hx ∧ ∃ kvs', Hx D = some (.dK kvs') ∧ RatD Hx C g kvs' (zs.filter f) := by
  unfold DcP at h
  rw [List.take_length] at h
  exact h
theorem items_turn (hRL : RatD HL C g kvs zs) (s2 : Same HL Hx) (hy : YPair (fun i => kvs[i]?.map fun kv => kV kv.1) (fun i => kvs[i]?.map Prod.snd) i Hx x H') :
    ∃ TT n b, zs[i]? = some n ∧ x = .ref TT ∧ Same Hx H' ∧ H' TT = some (.tup [.str n, .ref b]) ∧ RatAt H' b C (g n).1 (g n).2 := by
  obtain ⟨TT, xk, xv, rfl, nTT, rfl, e1, e2⟩ := hy
  dsimp only at e1 e2
  obtain ⟨kv, ekv, e1⟩ := Option.map_eq_some_iff.mp e1
  rw [ekv] at e2
  obtain rfl : kv.2 = xv := by simpa using e2
  obtain ⟨n, en, ek, b, eb, hb⟩ := Paired.at' hRL i _ ekv
  rw [ek] at e1
  subst e1
  rw [eb]
  have s3 : Same Hx (upd Hx TT (.tup [kV (.inr n), .ref b])) := same_upd nTT
  exact ⟨TT, n, b, en, rfl, s3, upd_same, hb.same (s2.trans s3)⟩
theorem unlock_same (hd : H1 nd = some (.dK kvs)) (s : Same (upd H1 nd (.frz od (.dK kvs))) Hx) : Same H1 (upd Hx nd (.dK kvs)) := fun b o e => by
  by_cases eb : b = nd
  · subst eb
    rw [upd_same, ← hd, e]
  · rw [upd_ne eb]
    refine s _ _ ?_
    rw [upd_ne eb]
    exact e
theorem sg_pos (p : Int) : decide (0 < b2i (decide (0 < p)) - b2i (decide (p < 0))) = decide (0 < p) := by
  refine decide_eq_decide.mpr ?_
  unfold b2i
  by_cases h1 : 0 < p
  · have h2 : ¬ p < 0 := by omega
    simp [h1, h2]
  · by_cases h2 : p < 0 <;> simp [h1, h2]
theorem sg_neg (p : Int) : decide (b2i (decide (0 < p)) - b2i (decide (p < 0)) < 0) = decide (p < 0) := by
  refine decide_eq_decide.mpr ?_
  unfold b2i
  by_cases h1 : 0 < p
  · have h2 : ¬ p < 0 := by omega
    simp [h1, h2]
  · by_cases h2 : p < 0 <;> simp [h1, h2]
end
/-- a balance's things and numbers, as it keeps them -/
structure BalOk (g : Str → Int × Int) (zs : List Str) : Prop where
  ns : NsOk zs
  so : sortedS zs = true
  ne : ∀ n ∈ zs, (g n).1 ≠ 0
theorem BalOk.nz {g : Str → Int × Int} {zs : List Str} (h : BalOk g zs) : nz g zs = zs := List.filter_eq_self.mpr fun n m => by simp [h.ne n m]
theorem NsOk.filter {zs : List Str} (h : NsOk zs) (f : Str → Bool) : NsOk (zs.filter f) := ⟨h.nd.filter _, Nat.le_trans (List.length_filter_le _ _) h.le, fun n m => h.nm n (List.mem_filter.mp m).1⟩
theorem NsOk.perm {zs ys : List Str} (h : NsOk zs) (p : ys.Perm zs) : NsOk ys := ⟨p.nodup_iff.mpr h.nd, by rw [p.length_eq]; exact h.le, fun n m => h.nm n (p.mem_iff.mp m)⟩
theorem BalOk.filter {g : Str → Int × Int} {zs : List Str} (h : BalOk g zs) (f : Str → Bool) : BalOk g (zs.filter f) := ⟨h.ns.filter f, sorted_filter f h.so, fun n m => h.ne n (List.mem_filter.mp m).1⟩
/-- a balance made of names in order -/
theorem MkB.of {CB C d : Addr} {kvs : List (Key × V)} {ks : List Str} {g : Str → Int × Int} {H : Hp} {Q : VK} (hd : H d = some (.dK kvs)) (hk : NumD H C g kvs ks) (ok : NsOk ks) (so : sortedS ks = true)
    (k : ∀ a H', Same H H' → H a = none → BalAt H' a CB C g (K04.nz g ks) → Q (.ref a) H') : MkB CB C (.ref d) H Q :=
  ⟨d, kvs, ks, g, rfl, hd, hk, ok, fun a ys H' s n py sy hb => by
    obtain rfl := sorted_unique sy so py
    exact k a H' s n hb⟩
end K04
namespace L2
open PySem PySem.Spec PyProof.Rows
/-! ### {x} in an f-string, x of an own class with __str__ -/
def tFmtO (C : Addr) (sp : Sp) (E : XK) (te : TE) : TE := fun σ H Q => te σ H fun x H1 => ∃ a, x = .ref a ∧ InsAt H1 a C ∧ sp [.ref a] H1 (fun v H2 => ∃ t, v = .str t ∧ Q (.str t) H2) E
theorem pe_fmtO {X : Cx} {CX : CXT} {n : Nat} {C f : Addr} {fd : FuncData} {ps : List Str} {sp : Sp} {E : XK} {e : Expr} {te : TE} {pos : Pos} (M : OwnM X.K C "__str__" f) (hfm : PySem.W.findIn X.K (.ref C) "__format__" = some (some (.builtin "object.__format__"))) (hm : PySem.W.mroIn X.K C (.type "object") = some true)
    (F : FnOk X.prog X.w X.K X.mg X.base CX n f fd ps sp) (hr : Room (n + 1) X.A) (hb : Binds X.K fd ps []) (hx : Passes CX X E) (he : PE X e te) : PE X (.FormattedValue e (-1) none pos) (tFmtO C sp E te) := by
  refine ⟨fun pins s σ H Q I h => ?_⟩
  refine wpAny_FormattedValue_plain (thn (he.run pins s σ H _ I h) fun v s1 hv => ?_)
  obtain ⟨x, H1, I1, r1, a, rfl, ha, q⟩ := hv
  obtain rfl : v = .ref a := r1
  obtain ⟨ox, od, J⟩ := ha.inst I1
  have hr1 : Room n X.A.in1 := hr.in1
  refine PySem.W.kfo_fieldS hr1.units0 I1.kIn J hfm hm M.at_ M.fn ?_
  have I2 : Inv X pins σ H1 { s1 with toks := s1.toks + 1 } := I1.tok _
  refine wpAny_mono (own_run (vs := [.ref a]) F ⟨hr1, rfl⟩ hb hx I2 (.cons rfl .nil) q) (fun u s' z => ?_) fun _ _ z => z
  obtain ⟨z, H', I', rz, t, rfl, qz⟩ := z
  obtain ⟨tk, rfl⟩ := (show ∃ tk, u = Value.str t tk from rz)
  exact ⟨.str t, H', I', ⟨tk, rfl⟩, qz⟩
end L2
namespace PySem.OwnS
open PySem PySem.W PySem.Calls PyProof.Rows
section
variable {prog : Program} {w : World} {A : Around} {E : Value → Shared → Prop} {s : Shared} {K : Frag} {x C C2 f f2 : Addr} {ox : Obj} {od : Option Obj} {b : Value}
/-- an own operator with a value of another own class at the right that has the same operator -/
theorem binX {op : Operator} {Q : Value → Shared → Prop} (X : K.In s.heap) (I : InstAt s.heap x ox C od) (hb : Looks (model prog w) s.heap (typeOf b) (.ref C2)) (hc : selfFirst K C = true) (hc2 : selfFirst K C2 = true) (hne : C ≠ C2)
    (hs : findIn K (.ref C) (PySem.dunder op.info.2) = some (some (.ref f))) (hf : isFn K (.ref f) = true) (hr : findIn K (.ref C) (dunderR op.info.2) = some none)
    (hs2 : findIn K (.ref C2) (PySem.dunder op.info.2) = some (some (.ref f2))) (hr2 : findIn K (.ref C2) (dunderR op.info.2) = some none) (hsub : subIn K (.ref C2) (.ref C) = some false)
    (h : wpAny (model prog w) A (call (.ref f) [.ref x, b]) (PySem.W.CmpBack Q) E s) : wpAny (model prog w) A (binaryOp op (.ref x) b) Q E s := by
  obtain ⟨cd, rest, hcd, hm⟩ := ksp_first hc
  obtain ⟨cd2, rest2, hcd2, hm2⟩ := ksp_first hc2
  have one := ksp_try X I hs hf h
  rcases hi : op.info with ⟨sym, nm⟩
  rw [hi] at hs hr hs2 hr2 one
  dsimp only at hs hr hs2 hr2 one
  obtain ⟨hh, g, d, tt, os⟩ := s
  have A1 : Looks (model prog w) hh (typeOf (.ref x)) (.ref C) := I.type
  have A2 : Looks (model prog w) hh (typeOf b) (.ref C2) := hb
  have A3 : Looks (model prog w) hh (fillsNumberSlot (.ref C) nm) true := fills_K X hcd hm hs
  have A4 : Looks (model prog w) hh (fillsNumberSlot (.ref C2) nm) true := fills_K X hcd2 hm2 hs2
  have A5 : Looks (model prog w) hh (isSubtype (.ref C2) (.ref C)) false := looks_subIn X hsub
  have A6 : Looks (model prog w) hh (numberSlotInPython (.ref C) nm) true := ksp_inPy X hs hr (.inl rfl)
  have A7 : Looks (model prog w) hh (numberSlotInPython (.ref C2) nm) true := ksp_inPy X hs2 hr2 (.inl rfl)
  have A8 : Looks (model prog w) hh (typeLookup (.ref C2) (dunderR nm)) none := looks_findIn X hr2
  have ne : (Value.ref C == Value.ref C2) = false := Bool.eq_false_iff.mpr fun q => by
    have := beq_iff_eq.mp q
    injection this with this
    exact hne this
  simp only [binaryOp, hi]
  refine wpAny_holding (wpAny_bind ?_)
  unfold binaryOp1
  refine wpAny_bind (A1.at (wpAny_bind (A2.at (wpAny_bind (A3.at ?_)))))
  simp only [ne, Bool.false_eq_true, if_false]
  ksp_lk
  refine wpAny_mono one (fun r s' z => ?_) fun _ _ e => e
  obtain ⟨v, rfl, hq⟩ := z
  ksp_lk
  exact hq
end
end PySem.OwnS
namespace L2
open PySem PySem.Spec PyProof.Rows
/-- x op y, y of another own class that has the operator, too -/
def rOwnX (C C2 : Addr) (sp : Sp) (E : XK) : R2 := fun x y H Q => ∃ a b, x = .ref a ∧ y = .ref b ∧ InsAt H a C ∧ InsAt H b C2 ∧ sp [x, y] H Q E
theorem op_ownX {X : Cx} {CX : CXT} {n : Nat} {C C2 f f2 : Addr} {fd : FuncData} {ps : List Str} {sp : Sp} {E : XK} {op : Operator} (M : OwnM X.K C (PySem.dunder op.info.2) f) (hc : PySem.W.selfFirst X.K C = true) (hR : PySem.W.findIn X.K (.ref C) (dunderR op.info.2) = some none)
    (M2 : OwnM X.K C2 (PySem.dunder op.info.2) f2) (hc2 : PySem.W.selfFirst X.K C2 = true) (hR2 : PySem.W.findIn X.K (.ref C2) (dunderR op.info.2) = some none) (hne : C ≠ C2) (hsub : PySem.W.subIn X.K (.ref C2) (.ref C) = some false)
    (F : FnOk X.prog X.w X.K X.mg X.base CX n f fd ps sp) (hr : Room n X.A) (hb : Binds X.K fd ps []) (hx : Passes CX X E) : OpR X (binaryOp op) (rOwnX C C2 sp E) := by
  intro pins s σ H x y v u Q I rx ry h
  obtain ⟨a, b, rfl, rfl, ha, hb', q⟩ := h
  obtain rfl : v = .ref a := rx
  obtain rfl : u = .ref b := ry
  obtain ⟨ox, od, J⟩ := ha.inst I
  obtain ⟨oy, ey, J'⟩ := hb'.inst I
  refine PySem.OwnS.binX I.kIn J J'.type hc hc2 hne M.at_ M.fn hR M2.at_ hR2 hsub ?_
  refine wpAny_mono (own_run (vs := [.ref a, .ref b]) F ⟨hr, rfl⟩ hb hx I (.cons rfl (.cons rfl .nil)) q) (fun r s' z => ?_) fun _ _ z => z
  obtain ⟨z, H', I', rz, qz⟩ := id z
  exact SlX.cmpback rz ⟨z, H', I', rz, qz⟩
end L2
namespace L2
open PySem PySem.Spec PyProof.Rows
/-! ### list(d.values()) -/
def tListVals (td : TE) : TE := fun σ H Q => td σ H fun x H1 => ∃ d kvs, x = .ref d ∧ H1 d = some (.dK kvs) ∧ ∀ q, H1 q = none → Q (.ref q) (upd H1 q (.lst (kvs.map Prod.snd)))
theorem pe_listVals {X : Cx} {e : Expr} {td : TE} {p pos apos cpos : Pos} (hc : X.calm = true) (hg : Gl X "list") (hm : X.mg "list" = none) (he : PE X e td) (hbase : attributeBase e "values" X.env (eval e X.env) = eval e X.env := by rfl) (hline : (apos.endLine == cpos.line) = true := by rfl)
    (na : starEach [.Call (.Attribute e "values" apos) [] [] cpos] X.env = (false, eval (.Call (.Attribute e "values" apos) [] [] cpos) X.env) :: starEach [] X.env := by rfl) :
    PE X (.Call (.Name "list" p) [.Call (.Attribute e "values" apos) [] [] cpos] [] pos) (tListVals td) := by
  refine ⟨fun pins s σ H Q I h => ?_⟩
  refine Call_ (ld_blt I hg hm boot_list (PyProof.Rows.callWith_type1 (args_cons ?_ na) na))
  refine wpAny_Call_method (T := "dict") (id := "dict.values") hbase rfl hline F.plainAttrs_dict F.slot_dict_values F.type_dict_values (thn (he.run pins s σ H _ I h) fun u s1 ⟨x, H1, I1, rx, d, kvs, ex, hd, q⟩ => ?_)
  subst ex
  obtain rfl : u = Value.ref d := rx
  obtain ⟨z, lo, vs, rk, hm⟩ := (show ObjOk X.prog X.w H1 s1.heap d (.dK kvs) from I1.hok d _ hd)
  obtain ⟨ep, at_⟩ := hm.dictAt
  have hl : kvs.length = vs.length := Paired.length rk
  refine ⟨hm.typeIs, hm.mapOf.noDict, ?_⟩
  have I2 : Inv X pins σ H1 { s1 with heap := s1.heap.push { cls := .type "dict_values", data := .fields #[.ref d] } } := I1.kept (t' := s1.toks) fun b ob q => Heap.get?_push_of_some _ q
  show wpAny _ _ (callWith cpos (.builtin "dict.values") [.ref d] [] []) _ X.xe s1
  refine method_meetsIn F.slot_dict_values F.entry_dict_values rfl (PySem.evalArgs_none ⟨rfl, hm.typeIs, F.args_dict_values_1 _, _, meets_dict_values (mixKind X.prog X.w) d lo, ⟨vs, hm⟩, ?_⟩)
  have vw : (s1.heap.push { cls := .type "dict_values", data := .fields #[.ref d] }).get? s1.heap.objs.size = some { cls := .type "dict_values", data := .fields #[.ref d] } := Heap.get?_push_size _ rfl
  show wpAny (model X.prog X.w) X.A (spliced (backTo pos (starEach [] X.env))) (fun us s2 => wpAny (model X.prog X.w) X.A (call (.type "list") (.ref s1.heap.objs.size :: us)) (EP X pins σ Q) X.xe s2) X.xe _
  refine args_nil ?_
  refine PySem.W.kdl_call (PySem.W.kdl_values (knd := mixKind X.prog X.w) (kvs := vs) (ep := ep) (d := d) (r := s1.heap.objs.size)) (I.ok.hd hc) ⟨⟨_, vw, rfl, rfl⟩, at_.push _⟩ (by rw [← hl]; exact z) fun h' tk acc c' kp hS hi => ?_
  have I3 : Inv X pins σ H1 { s1 with heap := h', toks := tk } := I2.kept (t' := tk) kp
  refine ⟨.ref _, upd H1 _ (.lst (kvs.map Prod.snd)), I2.laid kp (Nat.le_refl _) (show ObjOk X.prog X.w _ _ _ (.lst (kvs.map Prod.snd)) from ⟨?_, acc.toList, c', ?_, ?_⟩), rfl, q _ (I2.hok.fresh (Nat.le_refl _))⟩
  · rw [List.length_map]; exact z
  · have el : acc.toList.length = acc.size := by simp
    refine vals_of_at (by rw [List.length_map, el, hi.1, hl]) fun j x w' e1 e2 => ?_
    obtain ⟨k, hk⟩ := hi.2 j w' (by rw [← Array.getElem?_toList]; exact e2)
    rw [List.getElem?_map] at e1
    obtain ⟨kv, ekv, rfl⟩ := Option.map_eq_some_iff.mp e1
    have at2 : ∀ {a : List (Key × V)} {b : List (Key × Value)}, KV a b → ∀ (j : Nat) (x : Key × V) (y : Key × Value), a[j]? = some x → b[j]? = some y → RelV x.2 y.2 := by
      intro a b r
      induction r with
      | nil => intro j x y h1 _; simp at h1
      | cons h t ih =>
        intro j x y h1 h2
        cases j with
        | zero =>
          simp at h1 h2
          subst h1 h2
          exact h.2
        | succ j =>
          simp only [List.getElem?_cons_succ] at h1 h2
          exact ih j x y h1 h2
    exact at2 rk j kv (k, w') ekv hk
  · rw [Array.toArray_toList]; exact hS
end L2
namespace L2
open PySem PySem.Spec PyProof.Rows
/-! ### math.lcm of two integers below 2 ^ 64 -/
def rLcm : List V → Hp → VK → Prop := fun vs H Q => ∃ a b : Int, vs = [.int a, .int b] ∧ a.natAbs < 2 ^ 64 ∧ b.natAbs < 2 ^ 64 ∧ Q (.int ((Nat.lcm a.natAbs b.natAbs : Nat) : Int)) H
theorem cr_lcm {X : Cx} : CallR X (.builtin "math.lcm") rLcm := by
  intro pins s σ H vs us Q I r h
  obtain ⟨a, b, rfl, ha, hb, q⟩ := h
  obtain ⟨t, u, rfl⟩ := Vals.int2 r
  exact PySem.W.mc_lcm ha hb fun _ => ⟨.int _, H, I.tok _, ⟨_, rfl⟩, q⟩
end L2
namespace L2
open PySem PySem.Spec PyProof.Rows
/-! ### name = {k: v for ..}, the name a local: what the comprehension gives is stored at once -/
theorem sw_trueD {kx vx : Expr} {gs : List Comprehension} {scope : Scope} {pos py : Pos} {y : Str} {l : Nat} {env : Env} (hk : env.scope.kind = .function) (hy : env.scope.names.lookup y = some .local) (hl : (py.line == pos.line) = true)
    (ha : (scope.names.any fun (n, k) => n == y && (k == .local || k == .cell)) = false) : swapsWith (.DictComp kx vx gs scope pos) (some (.Name y py)) l env = pure true := by
  have h1 : env.kindOf y = some .local := hy
  have h2 : env.blockKind = .function := by unfold Env.blockKind; rw [hk]; rfl
  unfold swapsWith
  simp only [h2, h1, ha, Expr.pos, hl]
  rfl
section
variable {X : Cx}
theorem ps_setDc {i : Nat} {y : Str} {py : Pos} {kx vx tg iter : Expr} {ifs : List Expr} {scope : Scope} {own : List (Str × Nat)} {pos spos : Pos} {wi : TI} {g : TG} {tt : TT} {tk tv : TE} (hc : X.calm = true) (hN : X.N.Nodup) (hy : X.N[i]? = some y) (hyl : X.env.scope.names.lookup y = some .local)
    (hsw : swapsWith (.DictComp kx vx [⟨tg, iter, ifs, 0⟩] scope pos) (some (.Name y py)) spos.line X.env = pure true) (hi : PI X tg iter wi) (ok : BlkOk X.N X.env.scope scope own)
    (hg : ∀ (s : Shared) (H : Hp) (C : Addr) (cl : List (Str × Addr)) (fp : List Addr), PG (X.blk s H scope (compEnvC scope cl C X.env) fp) tg g) (ht : ∀ (s : Shared) (H : Hp) (C : Addr) (cl : List (Str × Addr)) (fp : List Addr), PTs (X.blk s H scope (compEnvC scope cl C X.env) fp) ifs tt)
    (hk : ∀ (s : Shared) (H : Hp) (C : Addr) (cl : List (Str × Addr)) (fp : List Addr), PE (X.blk s H scope (compEnvC scope cl C X.env) fp) kx tk)
    (he : ∀ (s : Shared) (H : Hp) (C : Addr) (cl : List (Str × Addr)) (fp : List Addr), PE (X.blk s H scope (compEnvC scope cl C X.env) fp) vx tv) (hs : ∀ x, foldedSetIterable iter X.env x = pure x := by intro _; rfl) :
    PS X (.Assign [.Name y py] (.DictComp kx vx [⟨tg, iter, ifs, 0⟩] scope pos) spos) (tAsg (tDc wi g tt tk tv (own.map (·.2))) (gName i)) := by
  refine ⟨fun pins s σ H D I h => ?_⟩
  rw [exec_Assign_Name_used _ _ _ _ hsw, arm_evalThenUse_DictComp]
  refine wpAny_bind (wpAny_standAt (wpAny_bind (wpAny_bind ?_)))
  -- what stands when the store is done
  have stored : ∀ L C s' m H', Inv X pins σ H' s' → gName i (.ref L) σ H' D.nx → s'.heap.Ns C m → FpOk X pins H' C → compPost (model X.prog X.w) X.A X.xe (some (assign (.Name y py) X.env)) (fun _ s2 => SP X pins D .next s2) (.ref L) C (.ok .next) s' := by
    intro L C s' m H' J q ns fp
    obtain ⟨p0, p1, p2, p3, p4, p5⟩ := fp
    show wpAny _ _ (assign (.Name y py) X.env (.ref L)) _ _ _
    refine wpAny_assign_Name (store_ok2 (v := V.ref L) J hN hy (.inl hyl) rfl ?_ (.inr hyl))
    intro s2 J2 hit
    obtain ⟨at_, but, at1⟩ := hit
    have ne : C ≠ at_ := at1.elim (fun e => e ▸ p1) fun e => fun z => p4 y at_ e z.symm
    exact ⟨m, ns.sameBut but ne, fun h3 but3 => ⟨_, H', J2.turned (t' := s2.toks) (fun b o hb e => (but3.2 b hb).trans e) p0 p1 p3 p4 p5, q⟩⟩
  exact thn (dc_core hc hN I hi ok hg ht hk he hs h stored) fun _ s' fin => wpAny_pure (wpAny_pure fin)
end
end L2
namespace K04
open PySem PySem.Spec PyProof.Rows L2 RatM ClX
def spGains (CB C : Addr) : Sp := fun vs H Q _ => ∃ (a : Addr) (g : Str → Int × Int) (zs : List Str), vs = [.ref a] ∧ BalAt H a CB C g zs ∧ BalOk g zs ∧ ∀ a' H', Same H H' → BalAt H' a' CB C g (zs.filter fun n => decide (0 < (g n).1)) → Q (.ref a') H'
section
variable {P : Program} {w : World} {K : PySem.W.Frag} {mg : Str → Option Value} {base : Heap} {C BR CB BB : Addr}
theorem scGn : FnScope ["self", "thing", "number"] ["self"] (defScope (balM 4)) := ⟨rfl, rfl, rfl, by decide +kernel, rfl, by decide +kernel, by decide +kernel⟩
theorem ok_gains {f : Addr} {fd : FuncData} (F : MtP K "gains" "Balance.gains" (balM 4) f fd) (B : BalK P w K mg base CB C) (TR : RatC K C) :
    FnOk P w K mg base CX0 10 f fd ["self"] (spGains CB C) := by
  refine F.ok scGn (fun vs H Q E h => ?_) (fun cdv A outer s H vs Q E hr h => ?_)
  · obtain ⟨a, g, zs, rfl, _⟩ := h
    rfl
  · obtain ⟨a, g, zs, rfl, hb, ok, k⟩ := h
    have hr9 : Room 9 _ := hr
    refine ⟨_, PSs.nox (pss_one (ps_ret (pe_bal B (by exact hr9) (E := E0) passL rfl (pa_cons (pe_lock (pe_dc (own := [("thing", 1), ("number", 2)]) (g := gTup K 2 (gCons (gName 1) (gCons (gName 2) gNil))) (tt := tTest (tOp (rI0 fun i j => .bl (decide (j < i))) (tFld K (tVar 2) "sign") (tC (.int 0)))) (tk := tVar 1) (tv := tVar 2) rfl scGn.nd (pi_items (pe_fld (pv 0) rfl)) (blkOk_by (N := ["self", "thing", "number"]) (sc := defScope (balM 4)) (by decide +kernel))
      (fun _ _ _ _ _ => pg_tup rfl (pgs_cons (pg_name (i := 1) scGn.nd rfl (Or.inl rfl)) (pgs_cons (pg_name (i := 2) scGn.nd rfl (Or.inl rfl)) pgs_nil))) (fun _ _ _ _ _ => pts_one (pt_cmpR op_gt (pe_fld (pv 2) rfl) pe_int (nomark _))) (fun _ _ _ _ _ => pv 1) (fun _ _ _ _ _ => pv 2))) pa_nil)))), ?_⟩
    obtain ⟨dx, nd, tp, kt, ha, ⟨kvs, hd, hR⟩, ht, hk⟩ := hb
    have nN := B.T.no "_numbers" (by simp)
    have rs := TR.no "sign" (by simp)
    refine ⟨nd, .dK kvs, hd, True.intro, fun od => ?_⟩
    have nda : a ≠ nd := fun e => by rw [e, hd] at ha; cases ha
    refine ⟨_, rfl, a, CB, dx, _, _, rfl, (upd_ne nda).trans ha, B.T.cls, nN, rfl, nd, od, kvs, rfl, upd_same, fun D nD => ?_⟩
    have nDn : D ≠ nd := fun e => by rw [e, upd_same] at nD; cases nD
    have hRL : RatD (upd H nd (.frz od (.dK kvs))) C g kvs zs := hR.upd_d hd
    have hdL : (upd H nd (.frz od (.dK kvs))) nd = some (.frz od (.dK kvs)) := upd_same
    have ul : ∀ Hx, Same (upd H nd (.frz od (.dK kvs))) Hx → Same H (upd Hx nd (.dK kvs)) := fun Hx s => unlock_same hd s
    generalize upd H nd (.frz od (.dK kvs)) = HL at nD hRL hdL ul ⊢
    refine dc_it walk_items (DcP HL D C g (fun n => decide (0 < (g n).1)) zs) (DcP.zero nD) (fun i Hx _ hP => hP.1 _ _ hdL) (fun i x Hx Hx' hi hP hy => ?_) (fun Hx hP => ?_)
    · obtain ⟨TT, n, b, en, rfl, s3, hT, hb⟩ := items_turn hRL hP.1 hy
      obtain ⟨dxb, hb'⟩ := hb
      refine ⟨TT, _, rfl, SqT.of hT, rfl, _, _, rfl, _, _, rfl, rfl, rfl, ?_⟩
      refine ⟨_, rfl, b, C, dxb, _, _, rfl, hb', TR.cls, rs, rfl, _, _, rfl, rfl, decide (0 < (g n).1), congrArg V.bl (sg_pos _), ite2 (fun c => ?_) (fun c => ?_)⟩
      · exact ⟨_, rfl, _, rfl, hP.put nD ok.ns s3 en c ⟨dxb, hb'⟩⟩
      · exact hP.skip s3 en (by simpa using c)
    · rw [Paired.length hR] at hP
      obtain ⟨s2, kvs', hD, hR2⟩ := hP.done
      refine ⟨s2 _ _ hdL, _, rfl, ?_⟩
      refine MkB.of ((upd_ne nDn).trans hD) (RatD.num (hR2.upd_any fun dx fs z => by rw [s2 _ _ hdL] at z; cases z)) (ok.ns.filter _) (sorted_filter _ ok.so) fun a' H' s n hb => ?_
      rw [(ok.filter _).nz] at hb
      exact k a' H' ((ul _ s2).trans s) hb
end
end K04
namespace K04
open PySem PySem.Spec PyProof.Rows L2 RatM ClX
/-- numbers in lowest terms, below 2 ^ B -/
structure BalLo (B : Nat) (g : Str → Int × Int) (zs : List Str) : Prop where
  lo : ∀ n ∈ zs, 0 < (g n).2 ∧ Int.gcd (g n).1 (g n).2 = 1
  sz : ∀ n ∈ zs, (g n).1.natAbs < 2 ^ B ∧ (g n).2.natAbs < 2 ^ B
theorem sz_of {B : Nat} {p : Int} (h : p.natAbs < 2 ^ B) (hB : B ≤ 1900) : Sz p := Nat.lt_of_lt_of_le h (Nat.pow_le_pow_right (by decide) hB)
theorem BalOk.neg {g : Str → Int × Int} {zs : List Str} (h : BalOk g zs) : BalOk (fun n => (-(g n).1, (g n).2)) zs := ⟨h.ns, h.so, fun n m => by have := h.ne n m; show -(g n).1 ≠ 0; omega⟩
theorem BalLo.neg {B : Nat} {g : Str → Int × Int} {zs : List Str} (h : BalLo B g zs) : BalLo B (fun n => (-(g n).1, (g n).2)) zs := ⟨fun n m => ⟨(h.lo n m).1, by show Int.gcd (-(g n).1) (g n).2 = 1; rw [Int.neg_gcd]; exact (h.lo n m).2⟩, fun n m => ⟨by show (-(g n).1).natAbs < _; rw [Int.natAbs_neg]; exact (h.sz n m).1, (h.sz n m).2⟩⟩
def spLosses (CB C : Addr) : Sp := fun vs H Q _ => ∃ (a : Addr) (g : Str → Int × Int) (zs : List Str), vs = [.ref a] ∧ BalAt H a CB C g zs ∧ BalOk g zs ∧ BalLo 1900 g zs ∧ ∀ a' H', Same H H' → BalAt H' a' CB C (fun n => (-(g n).1, (g n).2)) (zs.filter fun n => decide ((g n).1 < 0)) → Q (.ref a') H'
section
variable {P : Program} {w : World} {K : PySem.W.Frag} {mg : Str → Option Value} {base : Heap} {C BR CB BB : Addr}
theorem scLs2 : FnScope ["self", "thing", "number"] ["self"] (defScope (balM 5)) := ⟨rfl, rfl, rfl, by decide +kernel, rfl, by decide +kernel, by decide +kernel⟩
theorem ok_losses {f : Addr} {fd : FuncData} (F : MtP K "losses" "Balance.losses" (balM 5) f fd) (B : BalK P w K mg base CB C) (TR : RatC K C) {fN : Addr} {fdN : FuncData} (MN : OwnM K C "__neg__" fN) (GN : FnOk P w K mg base (L2.CX P w) 5 fN fdN ["self"] (spSelf K C fun p => -p)) (bN : Binds K fdN ["self"] []) :
    FnOk P w K mg base CX0 10 f fd ["self"] (spLosses CB C) := by
  refine F.ok scLs2 (fun vs H Q E h => ?_) (fun cdv A outer s H vs Q E hr h => ?_)
  · obtain ⟨a, g, zs, rfl, _⟩ := h
    rfl
  · obtain ⟨a, g, zs, rfl, hb, ok, lo, k⟩ := h
    have hr9 : Room 9 _ := hr
    refine ⟨_, PSs.nox (pss_one (ps_ret (pe_bal B (by exact hr9) (E := E0) passL rfl (pa_cons (pe_lock (pe_dc (own := [("thing", 1), ("number", 2)]) (g := gTup K 2 (gCons (gName 1) (gCons (gName 2) gNil))) (tt := tTest (tOp (rI0 fun i j => .bl (decide (i < j))) (tFld K (tVar 2) "sign") (tC (.int 0)))) (tk := tVar 1) (tv := tUn (rOwn1 C (spSelf K C fun p => -p) E0) (tVar 2)) rfl scLs2.nd (pi_items (pe_fld (pv 0) rfl)) (blkOk_by (N := ["self", "thing", "number"]) (sc := defScope (balM 5)) (by decide +kernel))
      (fun _ _ _ _ _ => pg_tup rfl (pgs_cons (pg_name (i := 1) scLs2.nd rfl (Or.inl rfl)) (pgs_cons (pg_name (i := 2) scLs2.nd rfl (Or.inl rfl)) pgs_nil))) (fun _ _ _ _ _ => pts_one (pt_cmpR op_lt (pe_fld (pv 2) rfl) pe_int (nomark _))) (fun _ _ _ _ _ => pv 1) (fun _ _ _ _ _ => pe_un (un_ownNeg MN GN (by exact hr9.mono (by decide)) bN (E := E0) passL) (pv 2)))) pa_nil)))), ?_⟩
    obtain ⟨dx, nd, tp, kt, ha, ⟨kvs, hd, hR⟩, ht, hk⟩ := hb
    have nN := B.T.no "_numbers" (by simp)
    have rs := TR.no "sign" (by simp)
    refine ⟨nd, .dK kvs, hd, True.intro, fun od => ?_⟩
    have nda : a ≠ nd := fun e => by rw [e, hd] at ha; cases ha
    refine ⟨_, rfl, a, CB, dx, _, _, rfl, (upd_ne nda).trans ha, B.T.cls, nN, rfl, nd, od, kvs, rfl, upd_same, fun D nD => ?_⟩
    have nDn : D ≠ nd := fun e => by rw [e, upd_same] at nD; cases nD
    have hRL : RatD (upd H nd (.frz od (.dK kvs))) C g kvs zs := hR.upd_d hd
    have hdL : (upd H nd (.frz od (.dK kvs))) nd = some (.frz od (.dK kvs)) := upd_same
    have ul : ∀ Hx, Same (upd H nd (.frz od (.dK kvs))) Hx → Same H (upd Hx nd (.dK kvs)) := fun Hx s => unlock_same hd s
    generalize upd H nd (.frz od (.dK kvs)) = HL at nD hRL hdL ul ⊢
    refine dc_it walk_items (DcP HL D C (fun n => (-(g n).1, (g n).2)) (fun n => decide ((g n).1 < 0)) zs) (DcP.zero nD) (fun i Hx _ hP => hP.1 _ _ hdL) (fun i x Hx Hx' hi hP hy => ?_) (fun Hx hP => ?_)
    · obtain ⟨TT, n, b, en, rfl, s3, hT, hb⟩ := items_turn hRL hP.1 hy
      obtain ⟨dxb, hb'⟩ := hb
      refine ⟨TT, _, rfl, SqT.of hT, rfl, _, _, rfl, _, _, rfl, rfl, rfl, ?_⟩
      refine ⟨_, rfl, b, C, dxb, _, _, rfl, hb', TR.cls, rs, rfl, _, _, rfl, rfl, decide ((g n).1 < 0), congrArg V.bl (sg_neg _), ite2 (fun c => ?_) (fun c => ?_)⟩
      · have mn := List.mem_of_getElem? en
        obtain ⟨l1, l2⟩ := lo.neg.lo n mn
        have e := low_self l1 l2
        refine ⟨_, rfl, _, rfl, b, rfl, ⟨dxb, _, hb'⟩, b, _, _, rfl, ⟨dxb, hb'⟩, (lo.sz n mn).1, (lo.sz n mn).2, by have := (lo.lo n mn).1; omega, fun b' H5 s5 h5 => ?_⟩
        rw [show lowT (-(g n).1) (g n).2 = -(g n).1 from e.1, show lowB (-(g n).1) (g n).2 = (g n).2 from e.2] at h5
        exact hP.put nD ok.ns (s3.trans s5) en c h5
      · exact hP.skip s3 en (by simpa using c)
    · rw [Paired.length hR] at hP
      obtain ⟨s2, kvs', hD, hR2⟩ := hP.done
      refine ⟨s2 _ _ hdL, _, rfl, ?_⟩
      refine MkB.of ((upd_ne nDn).trans hD) (RatD.num (hR2.upd_any fun dx fs z => by rw [s2 _ _ hdL] at z; cases z)) (ok.ns.filter _) (sorted_filter _ ok.so) fun a' H' s n hb => ?_
      rw [(ok.neg.filter _).nz] at hb
      exact k a' H' ((ul _ s2).trans s) hb
end
end K04
namespace K04
open PySem PySem.Spec PyProof.Rows L2 RatM ClX
/-- times r -/
def mulF (g : Str → Int × Int) (r : Int × Int) : Str → Int × Int := fun n => (lowT ((g n).1 * r.1) ((g n).2 * r.2), lowB ((g n).1 * r.1) ((g n).2 * r.2))
/-- the operators of ratios, and a balance's numbers, as the defs of balances call them -/
structure OpsK (P : Program) (w : World) (K : PySem.W.Frag) (mg : Str → Option Value) (base : Heap) (CB C BR : Addr) : Prop where
  R : RatK P w K mg base C BR
  B : BalK P w K mg base CB C
  sf : PySem.W.selfFirst K C = true
  odd : ∀ T ∈ oddTypes, PySem.W.kitOne K (.type T) (.ref C) = some false
  add : ∃ (f : Addr) (fd : FuncData), OpF K C Operator.Add.info.2 f ∧ FnOk P w K mg base (L2.CX P w) 6 f fd ["self", "other"] (spArith K C BR fun p q p' q' => p * q' + p' * q) ∧ Binds K fd ["self", "other"] []
  mul : ∃ (f : Addr) (fd : FuncData), OpF K C Operator.Mult.info.2 f ∧ FnOk P w K mg base (L2.CX P w) 6 f fd ["self", "other"] (spArith K C BR fun p q p' q' => p * p') ∧ Binds K fd ["self", "other"] []
  num : ∃ (f : Addr) (fd : FuncData), Meth K CB "number_of" f ∧ FnOk P w K mg base CX0 5 f fd ["self", "thing"] (spNum CB C) ∧ Binds K fd ["self", "thing"] []
  isr : ∃ (f : Addr) (fd : FuncData), FnOk P w K mg base CX0 2 f fd ["value"] (spIsR K C) ∧ Binds K fd ["value"] [] ∧ PySem.W.keepIn K (.ref f) = true ∧ mg "is_ratio" = some (.ref f)
def spTimes (CB C : Addr) : Sp := fun vs H Q _ => ∃ (a : Addr) (y : V) (g : Str → Int × Int) (zs : List Str) (r : Int × Int), vs = [.ref a, y] ∧ BalAt H a CB C g zs ∧ BalOk g zs ∧ BalLo 1900 g zs ∧ NumAt H C y r.1 r.2 ∧ Sz r.1 ∧ Sz r.2 ∧ r.2 ≠ 0 ∧
  ∀ a' H', Same H H' → BalAt H' a' CB C (mulF g r) (nz (mulF g r) zs) → Q (.ref a') H'
section
variable {P : Program} {w : World} {K : PySem.W.Frag} {mg : Str → Option Value} {base : Heap} {C BR CB BB : Addr}
theorem scTm : FnScope ["balance", "ratio", "thing"] ["balance", "ratio"] (defScope (top 43)) := ⟨rfl, rfl, rfl, by decide +kernel, rfl, by decide +kernel, by decide +kernel⟩
theorem ok_times {f : Addr} {fd : FuncData} {BX : Addr} (F : FnP K "_times" (top 43) f fd) (O : OpsK P w K mg base CB C BR) (M : ErrN P w K mg base "BadNumber" BX ["part"]) :
    FnOk P w K mg base (L2.CX P w) 10 f fd ["balance", "ratio"] (spTimes CB C) := by
  obtain ⟨fI, fdI, GI, bI, kI, gI⟩ := O.isr
  obtain ⟨fM, fdM, OM, GM, bM⟩ := O.mul
  obtain ⟨fN, fdN, MN, GN, bN⟩ := O.num
  have B := O.B
  refine F.ok scTm (fun vs H Q E h => ?_) (fun cdv A outer s H vs Q E hr h => ?_)
  · obtain ⟨a, y, g, zs, r, rfl, _⟩ := h
    rfl
  · obtain ⟨a, y, g, zs, r, rfl, hb, ok, lo, hy, r1, r2, r0, k⟩ := h
    have hr9 : Room 9 _ := hr
    refine ⟨_, (pss_cons (ps_if (pt_not (pt_val (pe_call GI (hr9.mono (by decide)) rfl gI kI bI .nil pass0 (pa_cons (pv 1) pa_nil)))) (pss_one (ps_raiseN rfl M (hr9.mono (by decide)) (takes_of rfl rfl rfl rfl) (by rfl) (pa_cons pe_str pa_nil))) pss_nil)
      (pss_one (ps_ret (pe_bal B (by exact hr9) (E := E0) passL rfl (pa_cons (pe_dc (own := [("thing", 2)]) (g := gName 2) (tt := tYes) (tk := tVar 2) rfl scTm.nd (pi_tup (pe_fld (pv 0) rfl)) (blkOk_by (N := ["balance", "ratio", "thing"]) (sc := defScope (top 43)) (by decide +kernel))
      (fun _ _ _ _ _ => pg_name (i := 2) scTm.nd rfl (Or.inl rfl)) (fun _ _ _ _ _ => pts_nil) (fun _ _ _ _ _ => pv 2) (fun _ _ _ _ _ => pe_op (op_rat (op := .Mult) O.sf O.odd OM GM bM (by exact hr9.mono (by decide)) (E := E0) passL) (pe_meth (pv 0) B.T.cls MN GN (by exact hr9.mono (by decide)) bN .nil (E := E0) pass0 (pa_cons (pv 2) pa_nil)) (pv 1))) pa_nil))))), ?_⟩
    obtain ⟨dx, nd, tp, kt, ha, ⟨kvs, hd, hR⟩, ht, hk⟩ := hb
    have hb' : BalAt H a CB C g zs := ⟨dx, nd, tp, kt, ha, ⟨kvs, hd, hR⟩, ht, hk⟩
    have nT := B.T.no "things" (by simp)
    refine ⟨_, rfl, _, rfl, .inl ⟨_, _, hy, true, rfl, iteF ?_⟩⟩
    dsimp only [tNext]
    refine ⟨_, rfl, a, CB, dx, _, _, rfl, ha, B.T.cls, nT, rfl, tp, rfl, ⟨_, SqT.of ht⟩, fun D nD => ?_⟩
    refine dc_it (walk_tup (xs := zs.map V.str)) (DcP H D C (mulF g r) (fun _ => true) zs) (DcP.zero nD) (fun i Hx _ hP => SqT.of (hP.1 _ _ ht)) (fun i x Hx Hx' hi hP hy' => ?_) (fun Hx hP => ?_)
    · obtain ⟨rfl, ex⟩ := hy'
      rw [List.getElem?_map] at ex
      obtain ⟨n, en, rfl⟩ := Option.map_eq_some_iff.mp ex
      have mn := List.mem_of_getElem? en
      refine ⟨rfl, yesI ?_⟩
      refine ⟨_, rfl, _, rfl, a, dx, _, rfl, hP.1 _ _ ha, rfl, _, rfl, a, n, g, zs, rfl, hb'.same hP.1, (ok.ns.nm n mn).1, (ok.ns.nm n mn).2, fun b H4 s4 h4 => ?_⟩
      rw [show num g zs n = g n from if_pos mn] at h4
      refine ⟨_, rfl, b, _, _, rfl, h4, (lo.sz n mn).1, (lo.sz n mn).2, by have := (lo.lo n mn).1; omega, .inl ⟨_, _, hy.same (hP.1.trans s4), r1, r2, r0, fun b' H5 s5 h5 => ?_⟩⟩
      exact hP.put nD ok.ns (s4.trans s5) en rfl h5
    · rw [List.length_map] at hP
      obtain ⟨s2, kvs', hD, hR2⟩ := hP.done
      rw [List.filter_eq_self.mpr fun _ _ => rfl] at hR2
      refine ⟨_, rfl, ?_⟩
      refine MkB.of hD hR2.num ok.ns ok.so fun a' H' s n hb => k a' H' (s2.trans s) hb
end
end K04
namespace K04
open PySem PySem.Spec PyProof.Rows L2 RatM ClX
/-- the one and the other one k times, thing by thing -/
def sumF (g : Str → Int × Int) (zs : List Str) (g2 : Str → Int × Int) (zs2 : List Str) (k : Int) : Str → Int × Int := fun n =>
  if n ∈ zs2 then (lowT ((mulF g2 (k, 1) n).1 * (num g zs n).2 + (num g zs n).1 * (mulF g2 (k, 1) n).2) ((mulF g2 (k, 1) n).2 * (num g zs n).2), lowB ((mulF g2 (k, 1) n).1 * (num g zs n).2 + (num g zs n).1 * (mulF g2 (k, 1) n).2) ((mulF g2 (k, 1) n).2 * (num g zs n).2)) else g n
/-- the things of both -/
abbrev joinN (zs zs2 : List Str) : List Str := zs ++ zs2.filter fun n => !decide (n ∈ zs)
theorem putK_old {H : Hp} {C b : Addr} {g g' : Str → Int × Int} {kvs : List (Key × V)} {ks : List Str} {n : Str} (h : RatD H C g kvs ks) (e : ∀ m, m ≠ n → g' m = g m) (hb : RatAt H b C (g' n).1 (g' n).2) :
    RatD H C g' (kvs.map fun kv => if kv.1 = .inr n then (kv.1, V.ref b) else kv) ks := by
  induction h with
  | nil => exact .nil
  | @cons x y l1 l2 h t ih =>
    refine .cons ?_ ih
    dsimp only
    by_cases c : y = n
    · subst c
      rw [if_pos h.1]
      exact ⟨h.1, b, rfl, hb⟩
    · have ne : ¬ x.1 = Sum.inr n := fun z => c (by rw [h.1] at z; injection z)
      rw [if_neg ne]
      obtain ⟨h1, b', h2, h3⟩ := h
      refine ⟨h1, b', h2, ?_⟩
      rw [e y c]
      exact h3
theorem RatD.put {H : Hp} {C b : Addr} {g g' : Str → Int × Int} {kvs : List (Key × V)} {ks : List Str} {n : Str} (h : RatD H C g kvs ks) (e : ∀ m, m ≠ n → g' m = g m) (hb : RatAt H b C (g' n).1 (g' n).2) :
    RatD H C g' (putK kvs (.inr n) (.ref b)) (if n ∈ ks then ks else ks ++ [n]) := by
  have old := putK_old h e hb
  unfold putK
  rw [valV_any]
  by_cases m : n ∈ ks
  · obtain ⟨v, ev, _⟩ := RatD.val h m
    rw [ev, if_pos m]
    exact old
  · rw [NumD.noVal h.num m, if_neg m]
    refine Paired.snoc ?_ ⟨rfl, b, rfl, hb⟩
    have : ∀ {l : List (Key × V)} {k2 : List Str}, RatD H C g l k2 → n ∉ k2 → RatD H C g' l k2 := fun {l k2} q => by
      induction q with
      | nil => exact fun _ => .nil
      | @cons x y l1 l2 q t ih =>
        intro nm
        simp only [List.mem_cons, not_or] at nm
        obtain ⟨q1, b', q2, q3⟩ := q
        refine .cons ⟨q1, b', q2, ?_⟩ (ih nm.2)
        rw [e y (Ne.symm nm.1)]
        exact q3
    exact this h m
def spSum (CB C : Addr) : Sp := fun vs H Q _ => ∃ (a b : Addr) (g g2 : Str → Int × Int) (zs zs2 : List Str) (k : Int), vs = [.ref a, .ref b, .int k] ∧ BalAt H a CB C g zs ∧ BalAt H b CB C g2 zs2 ∧ BalOk g zs ∧ BalOk g2 zs2 ∧ BalLo 900 g zs ∧ BalLo 900 g2 zs2 ∧ zs.length + zs2.length ≤ 60 ∧ (k = 1 ∨ k = -1) ∧
  ∀ a' ys H', Same H H' → ys.Perm (joinN zs zs2) → sortedS ys = true → BalAt H' a' CB C (sumF g zs g2 zs2 k) (nz (sumF g zs g2 zs2 k) ys) → Q (.ref a') H'
theorem joinN_ok {zs zs2 : List Str} (h : NsOk zs) (h2 : NsOk zs2) (l : zs.length + zs2.length ≤ 60) : NsOk (joinN zs zs2) := by
  refine ⟨List.nodup_append.mpr ⟨h.nd, h2.nd.filter _, fun a ha b hb e => ?_⟩, ?_, fun n m => ?_⟩
  · subst e
    have := (List.mem_filter.mp hb).2
    simp [ha] at this
  · rw [List.length_append]
    have := List.length_filter_le (fun n => !decide (n ∈ zs)) zs2
    omega
  · rcases List.mem_append.mp m with m | m
    · exact h.nm n m
    · exact h2.nm n (List.mem_filter.mp m).1
section
variable {P : Program} {w : World} {K : PySem.W.Frag} {mg : Str → Option Value} {base : Heap} {C BR CB BB : Addr}
theorem scSm : FnScope ["one", "other", "factor", "numbers", "thing"] ["one", "other", "factor"] (defScope (top 42)) := ⟨rfl, rfl, rfl, by decide +kernel, rfl, by decide +kernel, by decide +kernel⟩
theorem ok_summed {f : Addr} {fd : FuncData} (F : FnP K "_summed" (top 42) f fd) (O : OpsK P w K mg base CB C BR) (M : ErrN P w K mg base "BadBalance" BB ["part"]) (bi : mg "isinstance" = none) (tyB : ∀ (H : Hp) (a : Addr) g zs, BalAt H a CB C g zs → TyX K H (.ref a) (.ref CB)) (cc : PySem.W.kitOne K (.ref CB) (.ref CB) = some true) :
    FnOk P w K mg base (L2.CX P w) 10 f fd ["one", "other", "factor"] (spSum CB C) := by
  obtain ⟨fA, fdA, OA, GA, bA⟩ := O.add
  obtain ⟨fM, fdM, OM, GM, bM⟩ := O.mul
  obtain ⟨fN, fdN, MN, GN, bN⟩ := O.num
  have B := O.B
  refine F.ok scSm (fun vs H Q E h => ?_) (fun cdv A outer s H vs Q E hr h => ?_)
  · obtain ⟨a, b, g, g2, zs, zs2, kk, rfl, _⟩ := h
    rfl
  · obtain ⟨a, b, g, g2, zs, zs2, kk, rfl, hb, hb2, ok, ok2, lo, lo2, ll, hkk, k⟩ := h
    have hr9 : Room 9 _ := hr
    have hu1 : (A.deeper (envOfC (Str.ofString "_summed") (defScope (top 42)) s.heap.objs.size f cdv)).units + 1 < cLine := by have := hr9.units; omega
    refine ⟨_, (pss_cons (ps_if (pt_not (pt_val (pe_callB call_isi (by rfl) bi (by decide +kernel) (pa_cons (pv 1) (pa_cons (pe_glob (v := .ref _) rfl B.g rfl) pa_nil))))) (pss_one (ps_raiseN rfl M (hr9.mono (by decide)) (takes_of rfl rfl rfl rfl) (by rfl) (pa_cons pe_str pa_nil))) pss_nil)
      (pss_cons (ps_setDc (i := 3) (own := [("thing", 4)]) (g := gName 4) (tt := tYes) (tk := tVar 4) rfl scSm.nd rfl rfl (sw_trueD rfl rfl rfl (by decide +kernel)) (pi_tup (pe_fld (pv 0) rfl)) (blkOk_by (N := ["one", "other", "factor", "numbers", "thing"]) (sc := defScope (top 42)) (by decide +kernel))
      (fun _ _ _ _ _ => pg_name (i := 4) scSm.nd rfl (Or.inl rfl)) (fun _ _ _ _ _ => pts_nil) (fun _ _ _ _ _ => pv 4) (fun _ _ _ _ _ => pe_meth (pv 0) B.T.cls MN GN (by exact hr9.mono (by decide)) bN .nil (E := E0) pass0 (pa_cons (pv 4) pa_nil)))
      (pss_cons (ps_for (passes_of rfl) rfl (pi_tup (pe_fld (pv 1) rfl)) (pg_name (i := 4) scSm.nd rfl (.inl rfl)) (pss_one (ps_dput hu1 (pv 3) (pv 4) (pe_op (op_rat (op := .Add) O.sf O.odd OA GA bA (by exact hr9.mono (by decide)) (E := E0) passL) (pe_op (op_rat (op := .Mult) O.sf O.odd OM GM bM (by exact hr9.mono (by decide)) (E := E0) passL) (pe_meth (pv 1) B.T.cls MN GN (by exact hr9.mono (by decide)) bN .nil (E := E0) pass0 (pa_cons (pv 4) pa_nil)) (pv 2)) (pe_dget2 hu1 (pv 3) (pv 4) pe_int ⟨rfl, rfl, rfl, rfl⟩)) (by rfl))))
      (pss_one (ps_ret (pe_bal B (by exact hr9) (E := E0) passL rfl (pa_cons (pv 3) pa_nil))))))), ?_⟩
    have nT := B.T.no "things" (by simp)
    refine ⟨_, rfl, _, _, _, _, _, rfl, .own CB, tyB _ _ _ _ hb2, cc, true, rfl, iteF ?_⟩
    dsimp only [tNext, tSeq, tAsg]
    obtain ⟨dx, nd, tp, kt, ha, ⟨kvs, hd, hR⟩, ht, hk⟩ := id hb
    obtain ⟨dx2, nd2, tp2, kt2, ha2, ⟨kvs2, hd2, hR2⟩, ht2, hk2⟩ := id hb2
    refine ⟨_, rfl, a, CB, dx, _, _, rfl, ha, B.T.cls, nT, rfl, tp, rfl, ⟨_, SqT.of ht⟩, fun D nD => ?_⟩
    refine dc_it (walk_tup (xs := zs.map V.str)) (DcP H D C g (fun _ => true) zs) (DcP.zero nD) (fun i Hx _ hP => SqT.of (hP.1 _ _ ht)) (fun i x Hx Hx' hi hP hy' => ?_) (fun Hx hP => ?_)
    · obtain ⟨rfl, ex⟩ := hy'
      rw [List.getElem?_map] at ex
      obtain ⟨n, en, rfl⟩ := Option.map_eq_some_iff.mp ex
      have mn := List.mem_of_getElem? en
      refine ⟨rfl, yesI ?_⟩
      refine ⟨_, rfl, _, rfl, a, dx, _, rfl, hP.1 _ _ ha, rfl, _, rfl, a, n, g, zs, rfl, hb.same hP.1, (ok.ns.nm n mn).1, (ok.ns.nm n mn).2, fun b' H4 s4 h4 => ?_⟩
      rw [show num g zs n = g n from if_pos mn] at h4
      exact hP.put nD ok.ns s4 en rfl h4
    · rw [List.length_map] at hP
      obtain ⟨s2, kvs', hD, hR3⟩ := hP.done
      rw [List.filter_eq_self.mpr fun _ _ => rfl] at hR3
      dsimp only [gName]
      refine ⟨_, rfl, b, CB, dx2, _, _, rfl, s2 _ _ ha2, B.T.cls, nT, rfl, tp2, rfl, ⟨_, SqT.of (s2 _ _ ht2)⟩, ?_⟩
      refine for_it (walk_tup (xs := zs2.map V.str)) (fun i σ Hx => (∃ o, σ = [some (.ref a), some (.ref b), some (.int kk), some (.ref D), o]) ∧ Same H Hx ∧ ∃ kv, Hx D = some (.dK kv) ∧ RatD Hx C (fun n => if n ∈ zs2.take i then sumF g zs g2 zs2 kk n else g n) kv (joinN zs (zs2.take i)))
        ⟨⟨none, rfl⟩, s2, kvs', hD, by simpa [joinN] using hR3⟩ (fun i σ Hx _ hP => SqT.of (hP.2.1 _ _ ht2)) ?_ ?_
      · rintro i x σ Hx Hx' hi ⟨⟨o, rfl⟩, s3, kv, hDx, hRx⟩ ⟨rfl, ex⟩
        rw [List.getElem?_map] at ex
        obtain ⟨n, en, rfl⟩ := Option.map_eq_some_iff.mp ex
        have mn := List.mem_of_getElem? en
        have nt : n ∉ zs2.take i := fun m => by
          obtain ⟨j, hj, ej⟩ := List.mem_take_iff_getElem.mp m
          have h1 : zs2[j]? = some n := by rw [List.getElem?_eq_getElem (by omega), ej]
          have lj : j < zs2.length := by omega
          have h2 := (List.getElem?_inj lj ok2.ns.nd).mp (h1.trans en.symm)
          omega
        have tk : zs2.take (i + 1) = zs2.take i ++ [n] := by rw [List.take_add_one, en]; rfl
        refine ⟨_, rfl, b, dx2, _, rfl, s3 _ _ ha2, rfl, _, rfl, b, n, g2, zs2, rfl, hb2.same s3, (ok2.ns.nm n mn).1, (ok2.ns.nm n mn).2, fun r1 H4 s4 h4 => ?_⟩
        rw [show num g2 zs2 n = g2 n from if_pos mn] at h4
        have l0 := lo2.lo n mn
        have z0 := lo2.sz n mn
        have kz : Sz kk := by rcases hkk with rfl | rfl <;> decide
        have q0 : (g2 n).2 * 1 ≠ 0 := by omega
        refine ⟨_, rfl, r1, _, _, rfl, h4, sz_of z0.1 (by decide), sz_of z0.2 (by decide), by omega, .inl ⟨kk, 1, .inr ⟨rfl, rfl, by rcases hkk with rfl | rfl <;> decide⟩, kz, by decide, by decide, fun r2 H5 s5 h5 => ?_⟩⟩
        have h5 : RatAt H5 r2 C (mulF g2 (kk, 1) n).1 (mulF g2 (kk, 1) n).2 := h5
        have z1 : (mulF g2 (kk, 1) n).1.natAbs < 2 ^ 900 := by
          refine Nat.lt_of_le_of_lt (lowT_le q0) ?_
          show ((g2 n).1 * kk).natAbs < _
          rw [Int.natAbs_mul]
          rcases hkk with rfl | rfl
          · simpa using z0.1
          · simpa using z0.1
        have z2 : (mulF g2 (kk, 1) n).2.natAbs < 2 ^ 900 := by
          refine Nat.lt_of_le_of_lt (lowB_le q0) ?_
          show ((g2 n).2 * 1).natAbs < _
          rw [Int.mul_one]
          exact z0.2
        have z3 : 0 < (mulF g2 (kk, 1) n).2 := lowB_pos q0
        have s35 := s3.trans (s4.trans s5)
        have hD5 := s5 _ _ (s4 _ _ hDx)
        have hR5 := (hRx.same s4).same s5
        have nz3 : Sz (num g zs n).1 ∧ Sz (num g zs n).2 ∧ (num g zs n).2 ≠ 0 := by
          unfold num
          by_cases m : n ∈ zs
          · rw [if_pos m]
            exact ⟨sz_of (lo.sz n m).1 (by decide), sz_of (lo.sz n m).2 (by decide), by have := (lo.lo n m).1; omega⟩
          · rw [if_neg m]
            exact ⟨by decide, by decide, by decide⟩
        have ki : n ∈ joinN zs (zs2.take i) ↔ n ∈ zs := by
          constructor
          · intro m
            rcases List.mem_append.mp m with m | m
            · exact m
            · exact absurd (List.mem_filter.mp m).1 nt
          · exact fun m => List.mem_append_left _ m
        have on : NumAt H5 C ((valV kv (.inr n)).getD (.int 0)) (num g zs n).1 (num g zs n).2 := by
          unfold num
          by_cases m : n ∈ zs
          · obtain ⟨v, ev, hv⟩ := NumD.val hR5.num (ki.mpr m)
            rw [ev, if_pos m]
            rw [if_neg nt] at hv
            exact hv
          · rw [NumD.noVal hR5.num fun z => m (ki.mp z), if_neg m]
            exact .inr ⟨rfl, rfl, by decide⟩
        refine ⟨_, rfl, D, rfl, .inl ⟨kv, .inl hD5⟩, _, rfl, _, DGet.k (k := .inr n) hD5, r2, _, _, rfl, h5, sz_of z1 (by decide), sz_of z2 (by decide), by omega, .inl ⟨_, _, on, nz3.1, nz3.2.1, nz3.2.2, fun r3 H6 s6 h6 => ?_⟩⟩
        have hD6 := s6 _ _ hD5
        have hR6 := hR5.same s6
        have lk := Paired.length hRx
        have l1 : (joinN zs (zs2.take i)).length ≤ 60 := by
          have f1 := List.length_filter_le (fun n => !decide (n ∈ zs)) (zs2.take i)
          have f2 := List.length_take (i := i) (l := zs2)
          rw [List.length_append]
          omega
        refine ⟨_, rfl, _, rfl, D, _, rfl, DPut.k (k := .inr n) hD6 (by rw [sizeLine_eq]; omega), ⟨_, rfl⟩, fun c ob e => ?_, _, upd_same, ?_⟩
        · by_cases ec : c = D
          · subst ec
            rw [nD] at e
            cases e
          · rw [upd_ne ec]
            exact s6 _ _ (s35 _ _ e)
        · have put := RatD.put (n := n) (g' := fun m => if m ∈ zs2.take (i + 1) then sumF g zs g2 zs2 kk m else g m) (b := r3) (hR6.upd_d (o := .dK (putK kv (.inr n) (.ref r3))) hD6) (fun m ne => by
            have : (m ∈ zs2.take (i + 1)) ↔ m ∈ zs2.take i := by rw [tk, List.mem_append, List.mem_singleton]; exact ⟨fun z => z.elim id fun z => absurd z ne, .inl⟩
            simp only [this]) (by
            have mt : n ∈ zs2.take (i + 1) := by rw [tk]; exact List.mem_append_right _ (List.mem_singleton.mpr rfl)
            rw [if_pos mt]
            unfold sumF
            rw [if_pos mn]
            exact h6.upd_d hD6)
          have ek : (if n ∈ joinN zs (zs2.take i) then joinN zs (zs2.take i) else joinN zs (zs2.take i) ++ [n]) = joinN zs (zs2.take (i + 1)) := by
            show _ = zs ++ (zs2.take (i + 1)).filter _
            rw [tk, List.filter_append]
            by_cases m : n ∈ zs
            · rw [if_pos (ki.mpr m)]
              simp [m, joinN]
            · rw [if_neg fun z => m (ki.mp z)]
              simp [m, joinN]
          rw [ek] at put
          exact put
      · rintro σ Hx ⟨⟨o, rfl⟩, s3, kv, hDx, hRx⟩
        rw [List.length_map, List.take_length] at hRx
        refine ⟨_, rfl, ?_⟩
        have e : (fun n => if n ∈ zs2 then sumF g zs g2 zs2 kk n else g n) = sumF g zs g2 zs2 kk := funext fun n => by
          by_cases m : n ∈ zs2
          · exact if_pos m
          · rw [if_neg m]
            exact (if_neg m).symm
        rw [e] at hRx
        exact ⟨.ref D, rfl, D, kv, joinN zs zs2, sumF g zs g2 zs2 kk, rfl, hDx, hRx.num, joinN_ok ok.ns ok2.ns ll, fun a' ys H' s n py sy hb => k a' ys H' (s3.trans s) py sy hb⟩
end
end K04
namespace K04
open PySem PySem.Spec PyProof.Rows L2 RatM ClX
/-- self + other, self - other -/
def spAddB (CB C : Addr) (k : Int) : Sp := fun vs H Q E => ∃ x y, vs = [x, y] ∧ spSum CB C [x, y, .int k] H Q E
/-- self * other -/
def spMulB (CB C : Addr) : Sp := fun vs H Q E => ∃ x y, vs = [x, y] ∧ spTimes CB C [x, y] H Q E
/-- -self -/
def spNegB (CB C : Addr) : Sp := fun vs H Q E => ∃ x, vs = [x] ∧ spTimes CB C [x, .int (-1)] H Q E
section
variable {P : Program} {w : World} {K : PySem.W.Frag} {mg : Str → Option Value} {base : Heap} {C BR CB BB : Addr}
theorem scAddB : FnScope ["self", "other"] ["self", "other"] (defScope (balM 8)) := ⟨rfl, rfl, rfl, by decide +kernel, rfl, by decide +kernel, by decide +kernel⟩
theorem ok_addB {f fS : Addr} {fd fdS : FuncData} (F : MtP K "__add__" "Balance.__add__" (balM 8) f fd) (GS : FnOk P w K mg base (L2.CX P w) 10 fS fdS ["one", "other", "factor"] (spSum CB C)) (bS : Binds K fdS ["one", "other", "factor"] []) (kS : PySem.W.keepIn K (.ref fS) = true) (gS : mg "_summed" = some (.ref fS)) :
    FnOk P w K mg base (L2.CX P w) 11 f fd ["self", "other"] (spAddB CB C 1) := by
  refine F.ok scAddB (fun vs H Q E h => ?_) (fun cdv A outer s H vs Q E hr h => ?_)
  · obtain ⟨x, y, rfl, _⟩ := h
    rfl
  · obtain ⟨x, y, rfl, h⟩ := h
    have hr10 : Room 10 _ := hr
    refine ⟨_, pss_one (ps_ret (pe_call GS hr10 rfl gS kS bS .nil (passE (takes_of rfl rfl rfl rfl)) (pa_cons (pv 0) (pa_cons (pv 1) (pa_cons pe_int pa_nil))))), ?_⟩
    exact ⟨_, rfl, _, rfl, h⟩
theorem scSubB : FnScope ["self", "other"] ["self", "other"] (defScope (balM 9)) := ⟨rfl, rfl, rfl, by decide +kernel, rfl, by decide +kernel, by decide +kernel⟩
theorem ok_subB {f fS : Addr} {fd fdS : FuncData} (F : MtP K "__sub__" "Balance.__sub__" (balM 9) f fd) (GS : FnOk P w K mg base (L2.CX P w) 10 fS fdS ["one", "other", "factor"] (spSum CB C)) (bS : Binds K fdS ["one", "other", "factor"] []) (kS : PySem.W.keepIn K (.ref fS) = true) (gS : mg "_summed" = some (.ref fS)) :
    FnOk P w K mg base (L2.CX P w) 11 f fd ["self", "other"] (spAddB CB C (-1)) := by
  refine F.ok scSubB (fun vs H Q E h => ?_) (fun cdv A outer s H vs Q E hr h => ?_)
  · obtain ⟨x, y, rfl, _⟩ := h
    rfl
  · obtain ⟨x, y, rfl, h⟩ := h
    have hr10 : Room 10 _ := hr
    refine ⟨_, pss_one (ps_ret (pe_call GS hr10 rfl gS kS bS .nil (passE (takes_of rfl rfl rfl rfl)) (pa_cons (pv 0) (pa_cons (pv 1) (pa_cons (pe_un un_neg pe_int) pa_nil))))), ?_⟩
    exact ⟨_, rfl, _, rfl, _, rfl, h⟩
theorem scNegB : FnScope ["self"] ["self"] (defScope (balM 10)) := ⟨rfl, rfl, rfl, by decide +kernel, rfl, by decide +kernel, by decide +kernel⟩
theorem ok_negB {f fS : Addr} {fd fdS : FuncData} (F : MtP K "__neg__" "Balance.__neg__" (balM 10) f fd) (GS : FnOk P w K mg base (L2.CX P w) 10 fS fdS ["balance", "ratio"] (spTimes CB C)) (bS : Binds K fdS ["balance", "ratio"] []) (kS : PySem.W.keepIn K (.ref fS) = true) (gS : mg "_times" = some (.ref fS)) :
    FnOk P w K mg base (L2.CX P w) 11 f fd ["self"] (spNegB CB C) := by
  refine F.ok scNegB (fun vs H Q E h => ?_) (fun cdv A outer s H vs Q E hr h => ?_)
  · obtain ⟨x, rfl, _⟩ := h
    rfl
  · obtain ⟨x, rfl, h⟩ := h
    have hr10 : Room 10 _ := hr
    refine ⟨_, pss_one (ps_ret (pe_call GS hr10 rfl gS kS bS .nil (passE (takes_of rfl rfl rfl rfl)) (pa_cons (pv 0) (pa_cons (pe_un un_neg pe_int) pa_nil)))), ?_⟩
    exact ⟨_, rfl, _, rfl, h⟩
theorem scMulB : FnScope ["self", "other"] ["self", "other"] (defScope (balM 11)) := ⟨rfl, rfl, rfl, by decide +kernel, rfl, by decide +kernel, by decide +kernel⟩
theorem ok_mulB {f fS : Addr} {fd fdS : FuncData} (F : MtP K "__mul__" "Balance.__mul__" (balM 11) f fd) (GS : FnOk P w K mg base (L2.CX P w) 10 fS fdS ["balance", "ratio"] (spTimes CB C)) (bS : Binds K fdS ["balance", "ratio"] []) (kS : PySem.W.keepIn K (.ref fS) = true) (gS : mg "_times" = some (.ref fS)) :
    FnOk P w K mg base (L2.CX P w) 11 f fd ["self", "other"] (spMulB CB C) := by
  refine F.ok scMulB (fun vs H Q E h => ?_) (fun cdv A outer s H vs Q E hr h => ?_)
  · obtain ⟨x, y, rfl, _⟩ := h
    rfl
  · obtain ⟨x, y, rfl, h⟩ := h
    have hr10 : Room 10 _ := hr
    refine ⟨_, pss_one (ps_ret (pe_call GS hr10 rfl gS kS bS .nil (passE (takes_of rfl rfl rfl rfl)) (pa_cons (pv 0) (pa_cons (pv 1) pa_nil)))), ?_⟩
    exact ⟨_, rfl, _, rfl, h⟩
end
end K04
namespace K04
open PySem PySem.Spec PyProof.Rows L2 RatM ClX
theorem pe_rat2K {X : Cx} {P : Program} {w : World} {K : PySem.W.Frag} {mg : Str → Option Value} {base : Heap} {C BR : Addr} {E : XK} {p pos : Pos} {e1 e2 : Expr} {ta : TA} (R : RatK P w K mg base C BR) (hr : Room 4 X.A) (hx : Passes (L2.CX X.prog X.w) X E) (hg : Gl X "Ratio") (ha : PA X [e1, e2] ta)
    (hX : X.prog = P ∧ X.w = w ∧ X.K = K ∧ X.mg = mg ∧ X.base = base := by exact ⟨rfl, rfl, rfl, rfl, rfl⟩)
    (he : starEach [e1, e2] X.env = (false, eval e1 X.env) :: starEach [e2] X.env := by rfl) (hpl : (backTo pos (starEach [e2] X.env)).any (·.1) = false := by rfl) :
    PE X (.Call (.Name "Ratio" p) [e1, e2] [] pos) (tRat2 K C BR E ta) := by
  obtain ⟨rfl, rfl, rfl, rfl, rfl⟩ := hX
  exact pe_rat2 R hr hx hg ha he hpl
theorem pe_rat1K {X : Cx} {P : Program} {w : World} {K : PySem.W.Frag} {mg : Str → Option Value} {base : Heap} {C BR : Addr} {E : XK} {p pos : Pos} {e1 : Expr} {ta : TA} (R : RatK P w K mg base C BR) (hr : Room 4 X.A) (hx : Passes (L2.CX X.prog X.w) X E) (hg : Gl X "Ratio") (ha : PA X [e1] ta)
    (hX : X.prog = P ∧ X.w = w ∧ X.K = K ∧ X.mg = mg ∧ X.base = base := by exact ⟨rfl, rfl, rfl, rfl, rfl⟩)
    (he : starEach [e1] X.env = (false, eval e1 X.env) :: starEach [] X.env := by rfl) (hpl : (backTo pos (starEach [] X.env)).any (·.1) = false := by rfl) :
    PE X (.Call (.Name "Ratio" p) [e1] [] pos) (tRat1 K C BR E ta) := by
  obtain ⟨rfl, rfl, rfl, rfl, rfl⟩ := hX
  exact pe_rat1 R hr hx hg ha he hpl
def lcmN (g : Str → Int × Int) (zs : List Str) : Nat := zs.foldl (fun l n => Nat.lcm l (g n).2.natAbs) 1
def gcdN (g : Str → Int × Int) (zs : List Str) : Nat := zs.foldl (fun d n => Nat.gcd d (g n).1.natAbs) 0
theorem lcmN_take {g : Str → Int × Int} {zs : List Str} {i : Nat} {n : Str} (e : zs[i]? = some n) : lcmN g (zs.take (i + 1)) = Nat.lcm (lcmN g (zs.take i)) (g n).2.natAbs := by
  unfold lcmN
  rw [List.take_add_one, e, List.foldl_append]
  rfl
theorem gcdN_take {g : Str → Int × Int} {zs : List Str} {i : Nat} {n : Str} (e : zs[i]? = some n) : gcdN g (zs.take (i + 1)) = Nat.gcd (gcdN g (zs.take i)) (g n).1.natAbs := by
  unfold gcdN
  rw [List.take_add_one, e, List.foldl_append]
  rfl
theorem lcm_fold_le (g : Str → Int × Int) : ∀ (zs : List Str) (l : Nat), (∀ n ∈ zs, (g n).2.natAbs < 2 ^ 12) → zs.foldl (fun l n => Nat.lcm l (g n).2.natAbs) l ≤ l * 2 ^ (12 * zs.length)
  | [], l, _ => by simp
  | n :: t, l, h => by
    have h1 := lcm_fold_le g t (Nat.lcm l (g n).2.natAbs) fun m hm => h m (List.mem_cons_of_mem _ hm)
    have h2 := PySem.W.mc_lcm_le l (g n).2.natAbs
    have h3 := h n List.mem_cons_self
    simp only [List.foldl_cons, List.length_cons]
    refine Nat.le_trans h1 ?_
    rw [show 12 * (t.length + 1) = 12 + 12 * t.length by omega, Nat.pow_add, ← Nat.mul_assoc]
    exact Nat.mul_le_mul_right _ (Nat.le_trans h2 (Nat.mul_le_mul_left _ (Nat.le_of_lt h3)))
theorem lcmN_lt {g : Str → Int × Int} {zs : List Str} (h : ∀ n ∈ zs, (g n).2.natAbs < 2 ^ 12) (l : zs.length ≤ 4) (i : Nat) : lcmN g (zs.take i) < 2 ^ 64 := by
  have h1 := lcm_fold_le g (zs.take i) 1 fun n m => h n (List.mem_of_mem_take m)
  have h2 : (zs.take i).length ≤ 4 := by rw [List.length_take]; omega
  unfold lcmN
  rw [Nat.one_mul] at h1
  refine Nat.lt_of_le_of_lt h1 (Nat.lt_of_le_of_lt (Nat.pow_le_pow_right (by decide) (show 12 * (zs.take i).length ≤ 48 by omega)) (by decide))
theorem gcd_fold_dvd (g : Str → Int × Int) : ∀ (zs : List Str) (d : Nat), zs.foldl (fun d n => Nat.gcd d (g n).1.natAbs) d ∣ d ∧ ∀ n ∈ zs, zs.foldl (fun d n => Nat.gcd d (g n).1.natAbs) d ∣ (g n).1.natAbs
  | [], d => ⟨Nat.dvd_refl _, fun n m => by cases m⟩
  | x :: t, d => by
    obtain ⟨h1, h2⟩ := gcd_fold_dvd g t (Nat.gcd d (g x).1.natAbs)
    refine ⟨Nat.dvd_trans h1 (Nat.gcd_dvd_left _ _), fun n m => ?_⟩
    cases m with
    | head => exact Nat.dvd_trans h1 (Nat.gcd_dvd_right _ _)
    | tail _ m => exact h2 n m
theorem gcdN_dvd {g : Str → Int × Int} {zs : List Str} {n : Str} (m : n ∈ zs) : gcdN g zs ∣ (g n).1.natAbs := (gcd_fold_dvd g zs 0).2 n m
/-- in least terms -/
def leastF (g : Str → Int × Int) (zs : List Str) : Str → Int × Int := fun n => (lowT ((g n).1 * (lcmN g zs : Nat)) ((g n).2 * (gcdN g zs : Nat)), lowB ((g n).1 * (lcmN g zs : Nat)) ((g n).2 * (gcdN g zs : Nat)))
def spLeast (CB C : Addr) : Sp := fun vs H Q _ => ∃ (a : Addr) (g : Str → Int × Int) (zs : List Str), vs = [.ref a] ∧ BalAt H a CB C g zs ∧ BalOk g zs ∧ BalLo 900 g zs ∧ zs.length ≤ 4 ∧ (∀ n ∈ zs, (g n).2.natAbs < 2 ^ 12) ∧ ∀ a' H', Same H H' → BalAt H' a' CB C (leastF g zs) (nz (leastF g zs) zs) → Q (.ref a') H'
section
variable {P : Program} {w : World} {K : PySem.W.Frag} {mg : Str → Option Value} {base : Heap} {C BR CB BB : Addr}
theorem scLe : FnScope ["self", "bottom", "divisor", "number", "thing"] ["self"] (defScope (balM 6)) := ⟨rfl, rfl, rfl, by decide +kernel, rfl, by decide +kernel, by decide +kernel⟩
theorem ok_least {f : Addr} {fd : FuncData} (F : MtP K "least" "Balance.least" (balM 6) f fd) (B : BalK P w K mg base CB C) (R : RatK P w K mg base C BR) (gl : mg "lcm" = some (.builtin "math.lcm")) (gg : mg "gcd" = some (.builtin "math.gcd")) :
    FnOk P w K mg base CX0 10 f fd ["self"] (spLeast CB C) := by
  have TR := R.T
  refine F.ok scLe (fun vs H Q E h => ?_) (fun cdv A outer s H vs Q E hr h => ?_)
  · obtain ⟨a, g, zs, rfl, _⟩ := h
    rfl
  · obtain ⟨a, g, zs, rfl, hb, ok, lo, l4, sm, k⟩ := h
    have hr9 : Room 9 _ := hr
    refine ⟨_, PSs.nox (pss_cons (ps_set (i := 1) scLe.nd rfl (.inr rfl) pe_int) (pss_cons (ps_set (i := 2) scLe.nd rfl (.inr rfl) pe_int)
      (pss_cons (ps_lock (ps_for PassesOwn.never rfl (pi_values (pe_fld (pv 0) rfl)) (pg_name (i := 3) scLe.nd rfl (.inl rfl))
        (pss_cons (ps_set (i := 1) scLe.nd rfl (.inr rfl) (pe_callBfun cr_lcm (by rfl) gl (pa_cons (pv 1) (pa_cons (pe_fld (pv 3) rfl) pa_nil))))
        (pss_one (ps_set (i := 2) scLe.nd rfl (.inr rfl) (pe_callBfun cr_gcd (by rfl) gg (pa_cons (pv 2) (pa_cons (pe_fld (pv 3) rfl) pa_nil))))))))
      (pss_one (ps_ret (pe_bal B (by exact hr9) (E := E0) passL rfl (pa_cons (pe_lock (pe_dc (own := [("thing", 4), ("number", 3)]) (g := gTup K 2 (gCons (gName 4) (gCons (gName 3) gNil))) (tt := tYes) (tk := tVar 4) (tv := tRat2 K C BR E0 (tCons (tOp (rI CMulW fun i j => .int (i * j)) (tFld K (tVar 3) "top") (tVar 1)) (tCons (tOp (rI CMulW fun i j => .int (i * j)) (tFld K (tVar 3) "bottom") (tVar 2)) tNil))) rfl scLe.nd (pi_items (pe_fld (pv 0) rfl)) (blkOk_by (N := ["self", "bottom", "divisor", "number", "thing"]) (sc := defScope (balM 6)) (by decide +kernel))
      (fun _ _ _ _ _ => pg_tup rfl (pgs_cons (pg_name (i := 4) scLe.nd rfl (Or.inl rfl)) (pgs_cons (pg_name (i := 3) scLe.nd rfl (Or.inl rfl)) pgs_nil))) (fun _ _ _ _ _ => pts_nil) (fun _ _ _ _ _ => pv 4) (fun _ _ _ _ _ => pe_rat2K R (by exact hr9.mono (by decide)) (E := E0) passL rfl (pa_cons (pe_op op_mulW (pe_fld (pv 3) rfl) (pv 1)) (pa_cons (pe_op op_mulW (pe_fld (pv 3) rfl) (pv 2)) pa_nil))))) pa_nil))))))), ?_⟩
    obtain ⟨dx, nd, tp, kt, ha, ⟨kvs, hd, hR⟩, ht, hk⟩ := hb
    have nN := B.T.no "_numbers" (by simp)
    have rt := TR.no "top" (by simp)
    have rb := TR.no "bottom" (by simp)
    have nda : a ≠ nd := fun e => by rw [e, hd] at ha; cases ha
    have lk := Paired.length hR
    -- the bottoms' common multiple, the tops' common divisor
    refine ⟨nd, .dK kvs, hd, True.intro, fun od => ?_⟩
    have hRL : RatD (upd H nd (.frz od (.dK kvs))) C g kvs zs := hR.upd_d hd
    have haL : (upd H nd (.frz od (.dK kvs))) a = some (.ins CB dx (balF nd tp kt (decide (V.int (zs.length : Nat) = V.int 0)))) := (upd_ne nda).trans ha
    refine ⟨_, rfl, a, CB, dx, _, _, rfl, haL, B.T.cls, nN, rfl, nd, od, kvs, rfl, upd_same, ?_⟩
    refine for_it walk_values (fun i σ Hx => (∃ o o4, σ = [some (.ref a), some (.int (lcmN g (zs.take i) : Nat)), some (.int (gcdN g (zs.take i) : Nat)), o, o4]) ∧ Hx = upd H nd (.frz od (.dK kvs))) ⟨⟨none, none, rfl⟩, rfl⟩ (fun i σ Hx _ hP => by rw [hP.2]; exact upd_same) ?_ ?_
    · rintro i x σ Hx Hx' hi ⟨⟨o, o4, rfl⟩, rfl⟩ ⟨rfl, key, ek⟩
      obtain ⟨n, en, e1, b, e2, dxb, hb⟩ := Paired.at' hRL i _ ek
      have e2 : x = .ref b := e2
      subst e2
      have mn := List.mem_of_getElem? en
      have lo0 := (lo.lo n mn).1
      refine ⟨_, rfl, _, rfl, b, C, dxb, _, _, rfl, hb, TR.cls, rb, rfl, _, _, rfl, by rw [Int.natAbs_natCast]; exact lcmN_lt sm l4 i, Nat.lt_of_lt_of_le (sm n mn) (by decide), ?_⟩
      refine ⟨_, rfl, _, rfl, b, C, dxb, _, _, rfl, hb, TR.cls, rt, rfl, _, _, rfl, ?_⟩
      refine ⟨⟨some (.ref b), o4, ?_⟩, rfl⟩
      rw [lcmN_take en, gcdN_take en]
      rfl
    · rintro σ Hx ⟨⟨o, o4, rfl⟩, rfl⟩
      rw [lk, List.take_length]
      refine ⟨upd_same, ?_⟩
      have back : upd (upd H nd (.frz od (.dK kvs))) nd (.dK kvs) = H := by
        funext c
        by_cases e : c = nd
        · subst e
          rw [upd_same, hd]
        · rw [upd_ne e, upd_ne e]
      rw [back]
      clear hRL haL
      have lz := lcmN_lt sm l4 zs.length
      rw [List.take_length] at lz
      refine ⟨nd, .dK kvs, hd, True.intro, fun od => ?_⟩
      refine ⟨_, rfl, a, CB, dx, _, _, rfl, (upd_ne nda).trans ha, B.T.cls, nN, rfl, nd, od, kvs, rfl, upd_same, fun D nD => ?_⟩
      have nDn : D ≠ nd := fun e => by rw [e, upd_same] at nD; cases nD
      have hRL : RatD (upd H nd (.frz od (.dK kvs))) C g kvs zs := hR.upd_d hd
      have hdL : (upd H nd (.frz od (.dK kvs))) nd = some (.frz od (.dK kvs)) := upd_same
      have ul : ∀ Hx, Same (upd H nd (.frz od (.dK kvs))) Hx → Same H (upd Hx nd (.dK kvs)) := fun Hx s => unlock_same hd s
      generalize upd H nd (.frz od (.dK kvs)) = HL at nD hRL hdL ul ⊢
      refine dc_it walk_items (DcP HL D C (leastF g zs) (fun _ => true) zs) (DcP.zero nD) (fun i Hx _ hP => hP.1 _ _ hdL) (fun i x Hx Hx' hi hP hy => ?_) (fun Hx hP => ?_)
      · obtain ⟨TT, n, b, en, rfl, s3, hT, hb⟩ := items_turn hRL hP.1 hy
        obtain ⟨dxb, hb'⟩ := hb
        have mn := List.mem_of_getElem? en
        have lo0 := (lo.lo n mn).1
        have sz := lo.sz n mn
        have gd := gcdN_dvd (g := g) mn
        have tp0 : 0 < (g n).1.natAbs := Int.natAbs_pos.mpr (ok.ne n mn)
        have gle := Nat.le_of_dvd tp0 gd
        have gpos := Nat.pos_of_dvd_of_pos gd tp0
        have lz2 : ((lcmN g zs : Nat) : Int).natAbs < 2 ^ 64 := by rw [Int.natAbs_natCast]; exact lz
        have gz2 : ((gcdN g zs : Nat) : Int).natAbs < 2 ^ 900 := by rw [Int.natAbs_natCast]; exact Nat.lt_of_le_of_lt gle sz.1
        have b0 : (g n).2 * ((gcdN g zs : Nat) : Int) ≠ 0 := Int.mul_ne_zero (by omega) (by omega)
        refine ⟨TT, _, rfl, SqT.of hT, rfl, _, _, rfl, _, _, rfl, rfl, rfl, yesI ?_⟩
        refine ⟨_, rfl, _, rfl, b, C, dxb, _, _, rfl, hb', TR.cls, rt, rfl, _, rfl, _, _, rfl, rfl, wide_mul sz.1 lz2 (by decide) (by decide) (by decide), _, rfl, b, C, dxb, _, _, rfl, hb', TR.cls, rb, rfl, _, rfl, _, _, rfl, rfl, wide_mul sz.2 gz2 (by decide) (by decide) (by decide), ?_⟩
        refine ⟨_, _, rfl, .inl ⟨_, _, rfl, rfl, b0, ?_, ?_, fun b' H5 s5 h5 => hP.put nD ok.ns (s3.trans s5) en rfl h5⟩⟩
        · exact Nat.lt_of_lt_of_le (wide_lt sz.1 lz2) (Nat.pow_le_pow_right (by decide) (by decide))
        · exact Nat.lt_of_lt_of_le (wide_lt sz.2 gz2) (Nat.pow_le_pow_right (by decide) (by decide))
      · rw [lk] at hP
        obtain ⟨s2, kvs', hD, hR2⟩ := hP.done
        rw [List.filter_eq_self.mpr fun _ _ => rfl] at hR2
        refine ⟨s2 _ _ hdL, _, rfl, ?_⟩
        exact MkB.of ((upd_ne nDn).trans hD) (RatD.num (hR2.upd_any fun dx fs z => by rw [s2 _ _ hdL] at z; cases z)) ok.ns ok.so fun a' H' s n hb => k a' H' ((ul _ s2).trans s) hb
end
end K04
namespace K04
open PySem PySem.Spec PyProof.Rows L2 RatM ClX
/-- a dict from names to names -/
abbrev NmD : List (Key × V) → List (Str × Str) → Prop := Paired fun kv p => kv = (.inr p.1, .str p.2)
/-- names -/
def NsT (l : List Str) : Prop := l.length ≤ 1000 ∧ ∀ n ∈ l, n.length ≤ 100000 ∧ nameT n.cps.toList = true
theorem NmD.keys {kvs : List (Key × V)} {ps : List (Str × Str)} (h : NmD kvs ps) : (kvs.map fun kv => kV kv.1) = (ps.map (·.1)).map V.str := by
  induction h with
  | nil => rfl
  | cons x t ih =>
    subst x
    simp only [List.map_cons, ih]
    rfl
theorem NmD.vals {kvs : List (Key × V)} {ps : List (Str × Str)} (h : NmD kvs ps) : kvs.map Prod.snd = (ps.map (·.2)).map V.str := by
  induction h with
  | nil => rfl
  | cons x t ih =>
    subst x
    simp only [List.map_cons, ih]
def spIsNm : Sp := fun vs H Q _ => ∃ (d : Addr) (kvs : List (Key × V)) (ps : List (Str × Str)), vs = [.ref d] ∧ H d = some (.dK kvs) ∧ NmD kvs ps ∧ NsT (ps.map (·.1)) ∧ NsT (ps.map (·.2)) ∧ ∀ H', Same H H' → Q (.bl true) H'
/-- how often each thing stands in a list: the keys in the order of their first places -/
def cntS (s : List Str × (Str → Int × Int)) (n : Str) : List Str × (Str → Int × Int) := (if n ∈ s.1 then s.1 else s.1 ++ [n], fun m => if m = n then ((if n ∈ s.1 then (s.2 n).1 else 0) + 1, 1) else s.2 m)
def cntN (l : List Str) : List Str × (Str → Int × Int) := l.foldl cntS ([], fun _ => (0, 1))
theorem cntN_take {l : List Str} {i : Nat} {n : Str} (e : l[i]? = some n) : cntN (l.take (i + 1)) = cntS (cntN (l.take i)) n := by
  unfold cntN
  rw [List.take_add_one, e, List.foldl_append]
  rfl
/-- integers for names -/
abbrev IntD (g : Str → Int × Int) : List (Key × V) → List Str → Prop := Paired fun kv n => kv = (.inr n, .int (g n).1) ∧ (g n).2 = 1 ∧ (g n).1.natAbs < 2 ^ 60
theorem IntD.num {H : Hp} {C : Addr} {g : Str → Int × Int} {kvs : List (Key × V)} {ks : List Str} (h : IntD g kvs ks) : NumD H C g kvs ks := Paired.mono' (fun kv n ⟨e, e2, e3⟩ => by
  subst e
  exact ⟨rfl, .inr ⟨rfl, e2, Nat.lt_of_lt_of_le e3 (Nat.pow_le_pow_right (by decide) (by decide))⟩⟩) h
theorem IntD.val {g : Str → Int × Int} {kvs : List (Key × V)} {ks : List Str} (h : IntD g kvs ks) {n : Str} (m : n ∈ ks) : valV kvs (.inr n) = some (.int (g n).1) ∧ (g n).2 = 1 ∧ (g n).1.natAbs < 2 ^ 60 := by
  induction h with
  | nil => cases m
  | @cons x y l1 l2 h t ih =>
    obtain ⟨h1, h2, h3⟩ := h
    subst h1
    by_cases e : y = n
    · subst e
      exact ⟨valV_pos rfl, h2, h3⟩
    · rw [valV_neg (fun z => e (by injection z))]
      exact ih (by cases m with
        | head => exact absurd rfl e
        | tail _ m => exact m)
theorem IntD.noVal {g : Str → Int × Int} {kvs : List (Key × V)} {ks : List Str} (h : IntD g kvs ks) {n : Str} (m : n ∉ ks) : valV kvs (.inr n) = none := by
  induction h with
  | nil => rfl
  | @cons x y l1 l2 h t ih =>
    obtain ⟨h1, h2, h3⟩ := h
    subst h1
    simp only [List.mem_cons, not_or] at m
    rw [valV_neg (fun z => m.1 (by injection z with z; exact z.symm))]
    exact ih m.2
theorem IntD.other {g g' : Str → Int × Int} {kvs : List (Key × V)} {ks : List Str} {n : Str} (h : IntD g kvs ks) (e : ∀ m, m ≠ n → g' m = g m) (nm : n ∉ ks) : IntD g' kvs ks := by
  induction h with
  | nil => exact .nil
  | @cons x y l1 l2 h t ih =>
    simp only [List.mem_cons, not_or] at nm
    refine .cons ?_ (ih nm.2)
    rw [e y (Ne.symm nm.1)]
    exact h
theorem IntD.put {g g' : Str → Int × Int} {kvs : List (Key × V)} {ks : List Str} {n : Str} (h : IntD g kvs ks) (e : ∀ m, m ≠ n → g' m = g m) (h1 : (g' n).2 = 1) (h2 : (g' n).1.natAbs < 2 ^ 60) :
    IntD g' (putK kvs (.inr n) (.int (g' n).1)) (if n ∈ ks then ks else ks ++ [n]) := by
  unfold putK
  rw [valV_any]
  by_cases m : n ∈ ks
  · rw [(IntD.val h m).1, if_pos m]
    clear m
    show IntD g' (kvs.map fun kv => if kv.1 = .inr n then (kv.1, V.int (g' n).1) else kv) ks
    induction h with
    | nil => exact .nil
    | @cons x y l1 l2 q t ih =>
      refine .cons ?_ ih
      obtain ⟨q1, q2, q3⟩ := q
      subst q1
      dsimp only
      by_cases c : y = n
      · subst c
        rw [if_pos rfl]
        exact ⟨rfl, h1, h2⟩
      · rw [if_neg (fun z => c (by injection z)), e y c]
        exact ⟨rfl, q2, q3⟩
  · rw [IntD.noVal h m, if_neg m]
    exact Paired.snoc (IntD.other h e m) ⟨rfl, h1, h2⟩
section
variable {P : Program} {w : World} {K : PySem.W.Frag} {mg : Str → Option Value} {base : Heap} {C BR CB BB : Addr}
theorem scIn : FnScope ["value"] ["value"] (defScope (top 20)) := ⟨rfl, rfl, rfl, by decide +kernel, rfl, by decide +kernel, by decide +kernel⟩
theorem ok_isNaming {f fN : Addr} {fd fdN : FuncData} (F : FnP K "is_naming" (top 20) f fd) (bi : mg "isinstance" = none) (bD : mg "dict" = none) (bL : mg "list" = none)
    (GN : FnOk P w K mg base CX0 3 fN fdN ["value"] (spNms K)) (bN : Binds K fdN ["value"] []) (kN : PySem.W.keepIn K (.ref fN) = true) (gN : mg "are_names" = some (.ref fN)) : FnOk P w K mg base CX0 4 f fd ["value"] spIsNm := by
  refine F.ok scIn (fun vs H Q E h => ?_) (fun cdv A outer s H vs Q E hr h => ?_)
  · obtain ⟨d, kvs, ps, rfl, _⟩ := h
    rfl
  · obtain ⟨d, kvs, ps, rfl, hd, hn, n1, n2, k⟩ := h
    have hr3 : Room 3 _ := hr
    refine ⟨_, PSs.nox (pss_one (ps_ret (pe_and (pe_callB call_isi (by rfl) bi (by decide +kernel) (pa_cons (pv 0) (pa_cons (pe_bltn (v := .ty "dict") (by rfl) bD (by decide +kernel) rfl) pa_nil)))
      (pe_and (pe_call GN hr3 rfl gN kN bN .nil pass0 (pa_cons (pe_callTy (call_list_dK rfl) (by rfl) bL PyProof.Rows.boot_list (pa_cons (pv 0) pa_nil)) pa_nil))
        (pe_one (pe_call GN hr3 rfl gN kN bN .nil pass0 (pa_cons (pe_listVals rfl (by rfl) bL (pv 0)) pa_nil))))))), ?_⟩
    refine ⟨_, rfl, _, _, _, _, _, rfl, .ty "dict", .base (.dK hd), kit_ty (r := true) (by decide +kernel), _, rfl, iteT ?_⟩
    refine ⟨_, rfl, d, kvs, rfl, hd, fun q nq => ?_⟩
    refine ⟨_, rfl, .inl ⟨q, (ps.map (·.1)).map V.str, (ps.map (·.1)).map (fun _ => true), rfl, .inl (by rw [upd_same, hn.keys]), by rw [List.length_map]; exact n1.1, by simp only [List.length_map], names_all _ n1.2, fun H1 s1 => ⟨true, congrArg V.bl (all_trues _), iteT ?_⟩⟩⟩
    have s2 := (same_upd nq).trans s1
    refine ⟨_, rfl, d, kvs, rfl, s2 _ _ hd, fun q2 nq2 => ?_⟩
    refine ⟨_, rfl, .inl ⟨q2, (ps.map (·.2)).map V.str, (ps.map (·.2)).map (fun _ => true), rfl, .inl (by rw [upd_same, hn.vals]), by rw [List.length_map]; exact n2.1, by simp only [List.length_map], names_all _ n2.2, fun H2 s3 => ?_⟩⟩
    rw [all_trues]
    exact k H2 ((s2.trans (same_upd nq2)).trans s3)
end
end K04
namespace K04
open PySem PySem.Spec PyProof.Rows L2 RatM ClX
def spCounts (K : PySem.W.Frag) : Sp := fun vs H Q _ => ∃ (a : Addr) (l : List Str), vs = [.ref a] ∧ (H a = some (.lst (l.map V.str)) ∨ H a = some (.tup (l.map V.str))) ∧ l.length ≤ 60 ∧
  ∀ d kvs H', Same H H' → H' d = some (.dK kvs) → IntD (cntN l).2 kvs (cntN l).1 → Q (.ref d) H'
theorem cntN_keys (l : List Str) : (cntN l).1.length ≤ l.length := by
  have : ∀ (l : List Str) (s : List Str × (Str → Int × Int)), (l.foldl cntS s).1.length ≤ s.1.length + l.length := by
    intro l
    induction l with
    | nil => intro s; exact Nat.le_refl _
    | cons n t ih =>
      intro s
      refine Nat.le_trans (ih _) ?_
      simp only [List.length_cons]
      unfold cntS
      dsimp only
      by_cases m : n ∈ s.1
      · rw [if_pos m]; omega
      · rw [if_neg m, List.length_append]; simp only [List.length_cons, List.length_nil]; omega
  have h := this l ([], fun _ => (0, 1))
  simpa [cntN] using h
section
variable {P : Program} {w : World} {K : PySem.W.Frag} {mg : Str → Option Value} {base : Heap} {C BR CB BB : Addr}
theorem scCt : FnScope ["things", "counts", "thing"] ["things"] (defScope (top 41)) := ⟨rfl, rfl, rfl, by decide +kernel, rfl, by decide +kernel, by decide +kernel⟩
/-- the loop's turn -/
theorem cnt_turn {A : Around} {H1 Hx : Hp} {D : Addr} {l : List Str} {i : Nat} {n : Str} (nD : H1 D = none) (le : l.length ≤ 60) (en : l[i]? = some n) (s3 : Same H1 Hx) {kv : List (Key × V)} (hDx : Hx D = some (.dK kv)) (hI : IntD (cntN (l.take i)).2 kv (cntN (l.take i)).1)
    (bd : ∀ m ∈ (cntN (l.take i)).1, ((cntN (l.take i)).2 m).1.natAbs ≤ i) {Pn : Hp → Prop} (hp : ∀ Hy kv', Same H1 Hy → Hy D = some (.dK kv') → IntD (cntN (l.take (i + 1))).2 kv' (cntN (l.take (i + 1))).1 → (∀ m ∈ (cntN (l.take (i + 1))).1, ((cntN (l.take (i + 1))).2 m).1.natAbs ≤ i + 1) → Pn Hy) :
    ∃ o, DGet Hx D (.str n) o ∧ ∃ z : Int, o.getD (.int 0) = .int z ∧ z.natAbs ≤ i ∧ ∃ H4, DPut Hx D (.str n) (.int (z + 1)) H4 ∧ Pn H4 := by
  have li : i < l.length := (List.getElem?_eq_some_iff.mp en).1
  have tk := cntN_take en
  have kl := cntN_keys (l.take i)
  have tl := List.length_take (i := i) (l := l)
  have pl := Paired.length hI
  have go : ∀ z : Int, z = (if n ∈ (cntN (l.take i)).1 then ((cntN (l.take i)).2 n).1 else 0) → z.natAbs ≤ i → ∃ H4, DPut Hx D (.str n) (.int (z + 1)) H4 ∧ Pn H4 := fun z ez zl => by
    refine ⟨_, DPut.k (k := .inr n) hDx (by rw [sizeLine_eq]; omega), ?_⟩
    refine hp _ _ (fun c o e => ?_) upd_same ?_ ?_
    · rw [upd_ne (ne_of_none e nD)]; exact s3 _ _ e
    · have put := IntD.put (n := n) (g' := (cntS (cntN (l.take i)) n).2) hI (fun m ne => if_neg ne) (by show (if n = n then _ else _ : Int × Int).2 = 1; rw [if_pos rfl]) (by
        show (if n = n then _ else _ : Int × Int).1.natAbs < _
        rw [if_pos rfl, ← ez]
        have : (z + 1).natAbs ≤ i + 1 := by omega
        exact Nat.lt_of_le_of_lt (Nat.le_trans this (show i + 1 ≤ 61 by omega)) (by decide))
      have e1 : ((cntS (cntN (l.take i)) n).2 n).1 = z + 1 := by
        show (if n = n then _ else _ : Int × Int).1 = _
        rw [if_pos rfl, ← ez]
      rw [e1] at put
      rw [tk]
      exact put
    · rw [tk]
      intro m hm
      show (if m = n then _ else _ : Int × Int).1.natAbs ≤ _
      by_cases e : m = n
      · rw [if_pos e, ← ez]
        show (z + 1).natAbs ≤ i + 1
        omega
      · rw [if_neg e]
        have hm2 : m ∈ (cntN (l.take i)).1 := by
          have hm : m ∈ (if n ∈ (cntN (l.take i)).1 then (cntN (l.take i)).1 else (cntN (l.take i)).1 ++ [n]) := hm
          by_cases c : n ∈ (cntN (l.take i)).1
          · rw [if_pos c] at hm; exact hm
          · rw [if_neg c] at hm
            rcases List.mem_append.mp hm with h | h
            · exact h
            · exact absurd (List.mem_singleton.mp h) e
        have := bd m hm2
        omega
  refine ⟨_, DGet.k (k := .inr n) hDx, ?_⟩
  by_cases m : n ∈ (cntN (l.take i)).1
  · obtain ⟨e1, e2, e3⟩ := IntD.val hI m
    rw [e1]
    exact ⟨_, rfl, bd n m, go _ (if_pos m).symm (bd n m)⟩
  · rw [IntD.noVal hI m]
    exact ⟨0, rfl, Nat.zero_le _, go 0 (if_neg m).symm (Nat.zero_le _)⟩
theorem ok_counts {f : Addr} {fd : FuncData} (F : FnP K "_counts" (top 41) f fd) : FnOk P w K mg base CX0 1 f fd ["things"] (spCounts K) := by
  refine F.ok scCt (fun vs H Q E h => ?_) (fun cdv A outer s H vs Q E hr h => ?_)
  · obtain ⟨a, l, rfl, _⟩ := h
    rfl
  · obtain ⟨a, l, rfl, hl, le, k⟩ := h
    have hr0 : Room 0 _ := hr
    have hu1 : (A.deeper (envOfC (Str.ofString "_counts") (defScope (top 41)) s.heap.objs.size f cdv)).units + 1 < cLine := by have := hr0.units; omega
    rcases hl with hl | hl
    · refine ⟨_, PSs.nox (pss_cons (ps_set (i := 1) scCt.nd rfl (.inl rfl) pe_dnewK) (pss_cons (ps_for PassesOwn.never rfl (pi_list (pv 0)) (pg_name (i := 2) scCt.nd rfl (.inl rfl)) (pss_one (ps_dput hu1 (pv 1) (pv 2) (pe_op op_add (pe_dget2 hu1 (pv 1) (pv 2) pe_int ⟨rfl, rfl, rfl, rfl⟩) pe_int) (by rfl)))) (pss_one (ps_ret (pv 1))))), ?_⟩
      intro D nD
      refine ⟨_, rfl, a, rfl, ⟨_, SqL.of ((same_upd nD) _ _ hl)⟩, ?_⟩
      refine for_it (walk_list (xs := l.map V.str)) (fun i σ Hx => (∃ o, σ = [some (.ref a), some (.ref D), o]) ∧ Same H Hx ∧ (∀ m ∈ (cntN (l.take i)).1, ((cntN (l.take i)).2 m).1.natAbs ≤ i) ∧ ∃ kv, Hx D = some (.dK kv) ∧ IntD (cntN (l.take i)).2 kv (cntN (l.take i)).1) ⟨⟨none, rfl⟩, same_upd nD, (by intro m hm; cases hm), [], upd_same, .nil⟩ (fun i σ Hx _ hP => SqL.of (hP.2.1 _ _ hl)) ?_ ?_
      · rintro i x σ Hx Hx' hi ⟨⟨o, rfl⟩, s3, bd, kv, hDx, hI⟩ ⟨rfl, ex⟩
        rw [List.getElem?_map] at ex
        obtain ⟨n, en, rfl⟩ := Option.map_eq_some_iff.mp ex
        obtain ⟨oo, dg, z, ez, zl, H4, dp, hq⟩ := cnt_turn (A := A) (Pn := fun Hy => (∃ o, [some (V.ref a), some (.ref D), some (.str n)] = [some (V.ref a), some (.ref D), o]) ∧ Same H Hy ∧ (∀ m ∈ (cntN (l.take (i + 1))).1, ((cntN (l.take (i + 1))).2 m).1.natAbs ≤ i + 1) ∧ ∃ kv, Hy D = some (.dK kv) ∧ IntD (cntN (l.take (i + 1))).2 kv (cntN (l.take (i + 1))).1) nD le en s3 hDx hI bd fun Hy kv' s hk hi b => ⟨⟨_, rfl⟩, s, b, kv', hk, hi⟩
        refine ⟨_, rfl, D, rfl, .inl ⟨kv, .inl hDx⟩, _, rfl, oo, dg, ?_⟩
        rw [ez]
        exact ⟨_, _, rfl, rfl, _, rfl, _, rfl, D, H4, rfl, dp, hq⟩
      · rintro σ Hx ⟨⟨o, rfl⟩, s3, bd, kv, hDx, hI⟩
        rw [List.length_map, List.take_length] at hI
        exact ⟨_, rfl, k D kv Hx s3 hDx hI⟩
    · refine ⟨_, PSs.nox (pss_cons (ps_set (i := 1) scCt.nd rfl (.inl rfl) pe_dnewK) (pss_cons (ps_for PassesOwn.never rfl (pi_tup (pv 0)) (pg_name (i := 2) scCt.nd rfl (.inl rfl)) (pss_one (ps_dput hu1 (pv 1) (pv 2) (pe_op op_add (pe_dget2 hu1 (pv 1) (pv 2) pe_int ⟨rfl, rfl, rfl, rfl⟩) pe_int) (by rfl)))) (pss_one (ps_ret (pv 1))))), ?_⟩
      intro D nD
      refine ⟨_, rfl, a, rfl, ⟨_, SqT.of ((same_upd nD) _ _ hl)⟩, ?_⟩
      refine for_it (walk_tup (xs := l.map V.str)) (fun i σ Hx => (∃ o, σ = [some (.ref a), some (.ref D), o]) ∧ Same H Hx ∧ (∀ m ∈ (cntN (l.take i)).1, ((cntN (l.take i)).2 m).1.natAbs ≤ i) ∧ ∃ kv, Hx D = some (.dK kv) ∧ IntD (cntN (l.take i)).2 kv (cntN (l.take i)).1) ⟨⟨none, rfl⟩, same_upd nD, (by intro m hm; cases hm), [], upd_same, .nil⟩ (fun i σ Hx _ hP => SqT.of (hP.2.1 _ _ hl)) ?_ ?_
      · rintro i x σ Hx Hx' hi ⟨⟨o, rfl⟩, s3, bd, kv, hDx, hI⟩ ⟨rfl, ex⟩
        rw [List.getElem?_map] at ex
        obtain ⟨n, en, rfl⟩ := Option.map_eq_some_iff.mp ex
        obtain ⟨oo, dg, z, ez, zl, H4, dp, hq⟩ := cnt_turn (A := A) (Pn := fun Hy => (∃ o, [some (V.ref a), some (.ref D), some (.str n)] = [some (V.ref a), some (.ref D), o]) ∧ Same H Hy ∧ (∀ m ∈ (cntN (l.take (i + 1))).1, ((cntN (l.take (i + 1))).2 m).1.natAbs ≤ i + 1) ∧ ∃ kv, Hy D = some (.dK kv) ∧ IntD (cntN (l.take (i + 1))).2 kv (cntN (l.take (i + 1))).1) nD le en s3 hDx hI bd fun Hy kv' s hk hi b => ⟨⟨_, rfl⟩, s, b, kv', hk, hi⟩
        refine ⟨_, rfl, D, rfl, .inl ⟨kv, .inl hDx⟩, _, rfl, oo, dg, ?_⟩
        rw [ez]
        exact ⟨_, _, rfl, rfl, _, rfl, _, rfl, D, H4, rfl, dp, hq⟩
      · rintro σ Hx ⟨⟨o, rfl⟩, s3, bd, kv, hDx, hI⟩
        rw [List.length_map, List.take_length] at hI
        exact ⟨_, rfl, k D kv Hx s3 hDx hI⟩
end
end K04
namespace K04
open PySem PySem.Spec PyProof.Rows L2 RatM ClX
theorem cnt_keys : ∀ (l : List Str) (s : List Str × (Str → Int × Int)), s.1.Nodup → (∀ m ∈ s.1, 1 ≤ (s.2 m).1 ∧ (s.2 m).2 = 1) → (l.foldl cntS s).1.Nodup ∧ (∀ m ∈ (l.foldl cntS s).1, m ∈ s.1 ∨ m ∈ l) ∧ ∀ m ∈ (l.foldl cntS s).1, 1 ≤ ((l.foldl cntS s).2 m).1 ∧ ((l.foldl cntS s).2 m).2 = 1
  | [], s, h, p => ⟨h, fun m hm => .inl hm, p⟩
  | n :: t, s, h, p => by
    have nd : (cntS s n).1.Nodup := by
      unfold cntS
      dsimp only
      by_cases c : n ∈ s.1
      · rw [if_pos c]; exact h
      · rw [if_neg c]
        exact List.nodup_append.mpr ⟨h, by simp, fun a ha b hb e => c (by rw [List.mem_singleton.mp hb] at e; exact e ▸ ha)⟩
    have mem : ∀ m ∈ (cntS s n).1, m ∈ s.1 ∨ m = n := fun m hm => by
      unfold cntS at hm
      dsimp only at hm
      by_cases c : n ∈ s.1
      · rw [if_pos c] at hm; exact .inl hm
      · rw [if_neg c] at hm
        exact (List.mem_append.mp hm).imp id List.mem_singleton.mp
    have pos : ∀ m ∈ (cntS s n).1, 1 ≤ ((cntS s n).2 m).1 ∧ ((cntS s n).2 m).2 = 1 := fun m hm => by
      show 1 ≤ (if m = n then _ else _ : Int × Int).1 ∧ (if m = n then _ else _ : Int × Int).2 = 1
      by_cases e : m = n
      · rw [if_pos e]
        refine ⟨?_, rfl⟩
        by_cases c : n ∈ s.1
        · rw [if_pos c]
          have := (p n c).1
          show 1 ≤ (s.2 n).1 + 1
          omega
        · rw [if_neg c]
          decide
      · rw [if_neg e]
        exact p m ((mem m hm).resolve_right e)
    obtain ⟨h1, h2, h3⟩ := cnt_keys t (cntS s n) nd pos
    refine ⟨h1, fun m hm => ?_, h3⟩
    rcases h2 m hm with z | z
    · exact (mem m z).imp id fun e => by rw [e]; exact List.mem_cons_self
    · exact .inr (List.mem_cons_of_mem _ z)
theorem cntN_ok {l : List Str} (h : NsT l) (l60 : l.length ≤ 60) : NsOk (cntN l).1 ∧ ∀ m ∈ (cntN l).1, 1 ≤ ((cntN l).2 m).1 ∧ ((cntN l).2 m).2 = 1 := by
  obtain ⟨h1, h2, h3⟩ := cnt_keys l ([], fun _ => (0, 1)) List.nodup_nil fun m hm => by cases hm
  refine ⟨⟨h1, Nat.le_trans (cntN_keys l) l60, fun n m => ?_⟩, h3⟩
  rcases h2 n m with z | z
  · cases z
  · exact h.2 n z
def spMean (CB C : Addr) : Sp := fun vs H Q _ => ∃ (a : Addr) (l : List Str), vs = [.ref a] ∧ (H a = some (.lst (l.map V.str)) ∨ H a = some (.tup (l.map V.str))) ∧ NsT l ∧ l.length ≤ 60 ∧ l ≠ [] ∧
  ∀ a' ys H', Same H H' → ys.Perm (cntN l).1 → sortedS ys = true → BalAt H' a' CB C (mulF (cntN l).2 (lowT 1 (l.length : Nat), lowB 1 (l.length : Nat))) (nz (mulF (cntN l).2 (lowT 1 (l.length : Nat), lowB 1 (l.length : Nat))) ys) → Q (.ref a') H'
section
variable {P : Program} {w : World} {K : PySem.W.Frag} {mg : Str → Option Value} {base : Heap} {C BR CB BB : Addr}
theorem scMe : FnScope ["things"] ["things"] (defScope (top 40)) := ⟨rfl, rfl, rfl, by decide +kernel, rfl, by decide +kernel, by decide +kernel⟩
theorem ok_meanOf {f fN fC fM fR : Addr} {fd fdN fdC fdM : FuncData} (F : FnP K "mean_of" (top 40) f fd) (O : OpsK P w K mg base CB C BR) (M : ErrN P w K mg base "BadBalance" BB ["part"]) (bl : mg "len" = none)
    (GN : FnOk P w K mg base CX0 3 fN fdN ["value"] (spNms K)) (bN : Binds K fdN ["value"] []) (kN : PySem.W.keepIn K (.ref fN) = true) (gN : mg "are_names" = some (.ref fN))
    (GC : FnOk P w K mg base CX0 1 fC fdC ["things"] (spCounts K)) (bC : Binds K fdC ["things"] []) (kC : PySem.W.keepIn K (.ref fC) = true) (gC : mg "_counts" = some (.ref fC))
    (MM : OwnM K CB (PySem.dunder Operator.Mult.info.2) fM) (GM : FnOk P w K mg base (L2.CX P w) 11 fM fdM ["self", "other"] (spMulB CB C)) (bM : Binds K fdM ["self", "other"] []) (hc : PySem.W.selfFirst K CB = true) (hR : PySem.W.findIn K (.ref CB) (dunderR Operator.Mult.info.2) = some none)
    (M2 : OwnM K C (PySem.dunder Operator.Mult.info.2) fR) (hR2 : PySem.W.findIn K (.ref C) (dunderR Operator.Mult.info.2) = some none) (hsub : PySem.W.subIn K (.ref C) (.ref CB) = some false) :
    FnOk P w K mg base (L2.CX P w) 12 f fd ["things"] (spMean CB C) := by
  have B := O.B
  have R := O.R
  refine F.ok scMe (fun vs H Q E h => ?_) (fun cdv A outer s H vs Q E hr h => ?_)
  · obtain ⟨a, l, rfl, _⟩ := h
    rfl
  · obtain ⟨a, l, rfl, hl, ns, l60, ne, k⟩ := h
    have hr11 : Room 11 _ := hr
    refine ⟨_, (pss_cons (ps_if (PW.pt (pw_or (pt_not (pt_val (pe_call GN (hr11.mono (by decide)) rfl gN kN bN .nil pass0 (pa_cons (pv 0) pa_nil)))) (pw_or1 (pt_cmpR op_eq (pe_callB call_len_seq (by rfl) bl PySem.boot_len (pa_cons (pv 0) pa_nil)) pe_int (nomark _))))) (pss_one (ps_raiseN rfl M (hr11.mono (by decide)) (takes_of rfl rfl rfl rfl) (by rfl) (pa_cons pe_str pa_nil))) pss_nil)
      (pss_one (ps_ret (pe_op (op_ownX (op := .Mult) MM hc hR M2 O.sf hR2 (Ne.symm B.n) hsub GM (by exact hr11) bM (E := E0) passL) (pe_bal B (by exact hr11.mono (by decide)) (E := E0) passL rfl (pa_cons (pe_call GC (hr11.mono (by decide)) rfl gC kC bC .nil pass0 (pa_cons (pv 0) pa_nil)) pa_nil)) (pe_rat2 R (by exact hr11.mono (by decide)) (E := E0) passL rfl (pa_cons pe_int (pa_cons (pe_callB call_len_seq (by rfl) bl PySem.boot_len (pa_cons (pv 0) pa_nil)) pa_nil))))))), ?_⟩
    have lp : 0 < l.length := List.length_pos_iff.mpr ne
    refine ⟨_, rfl, _, rfl, .inl ⟨a, l.map V.str, l.map (fun _ => true), rfl, hl, by rw [List.length_map]; exact ns.1, by simp only [List.length_map], names_all _ ns.2, fun H1 s1 => ⟨true, congrArg V.bl (all_trues _), iteF ?_⟩⟩⟩
    have hl1 : H1 a = some (.lst (l.map V.str)) ∨ H1 a = some (.tup (l.map V.str)) := hl.imp (s1 _ _) (s1 _ _)
    have sq : ∀ {Hx : Hp}, Same H1 Hx → SqL K Hx a (l.map V.str) ∨ SqT K Hx a (l.map V.str) := fun s => hl1.imp (fun e => SqL.of (s _ _ e)) (fun e => SqT.of (s _ _ e))
    refine ⟨_, rfl, a, l.map V.str, rfl, sq (Same.refl _), rfl, false, ?_, iteF ?_⟩
    · rw [List.length_map]
      exact congrArg V.bl (decide_eq_false fun z => by injection z with z; omega)
    dsimp only [tNext]
    refine ⟨_, rfl, a, l, rfl, hl1, l60, fun d kvs H2 s2 hd hI => ?_⟩
    obtain ⟨nok, pos⟩ := cntN_ok ns l60
    refine ⟨_, rfl, d, kvs, (cntN l).1, (cntN l).2, rfl, hd, hI.num, nok, fun a1 ys H3 s3 n1 py sy hb => ?_⟩
    have nzy : nz (cntN l).2 ys = ys := List.filter_eq_self.mpr fun n m => by
      have := (pos n (py.mem_iff.mp m)).1
      simp only [Bool.not_eq_true', decide_eq_false_iff_not]
      omega
    rw [nzy] at hb
    have s23 := s2.trans s3
    have l0 : ((l.length : Nat) : Int) ≠ 0 := by omega
    have lz : ((l.length : Nat) : Int).natAbs < 2 ^ 10 := by rw [Int.natAbs_natCast]; exact Nat.lt_of_le_of_lt l60 (by decide)
    refine ⟨_, rfl, a, l.map V.str, rfl, sq s23, _, _, rfl, .inl ⟨1, ((l.length : Nat) : Int), rfl, by rw [List.length_map], l0, by decide, Nat.lt_of_lt_of_le lz (Nat.pow_le_pow_right (by decide) (by decide)), fun r H4 s4 h4 => ?_⟩⟩
    have hb4 := hb.same s4
    have okB : BalOk (cntN l).2 ys := ⟨nok.perm py, sy, fun n m => by have := (pos n (py.mem_iff.mp m)).1; omega⟩
    have loB : BalLo 1900 (cntN l).2 ys := ⟨fun n m => by
      obtain ⟨p1, p2⟩ := pos n (py.mem_iff.mp m)
      rw [p2]
      exact ⟨by decide, Int.gcd_one⟩, fun n m => by
      obtain ⟨_, p2, p3⟩ := IntD.val hI (py.mem_iff.mp m)
      rw [p2]
      exact ⟨Nat.lt_of_lt_of_le p3 (Nat.pow_le_pow_right (by decide) (by decide)), by decide⟩⟩
    obtain ⟨dxB, _, _, _, eB, _⟩ := id hb4
    refine ⟨a1, r, rfl, rfl, ⟨dxB, _, eB⟩, h4.ins, _, _, rfl, a1, .ref r, (cntN l).2, ys, (lowT 1 (l.length : Nat), lowB 1 (l.length : Nat)), rfl, hb4, okB, loB, .inl ⟨r, rfl, h4⟩, ?_, ?_, ?_, fun a' H5 s5 h5 => k a' ys H5 (((s1.trans s23).trans s4).trans s5) py sy h5⟩
    · exact Nat.lt_of_le_of_lt (lowT_le l0) (by decide)
    · exact Nat.lt_of_le_of_lt (lowB_le l0) (Nat.lt_of_lt_of_le lz (Nat.pow_le_pow_right (by decide) (by decide)))
    · have := lowB_pos (t := 1) l0
      show lowB 1 (l.length : Nat) ≠ 0
      omega
end
end K04
namespace K04
open PySem PySem.Spec PyProof.Rows L2 RatM ClX
/-- the key as data -/
def keyD (g : Str → Int × Int) (zs : List Str) : List PyData := zs.flatMap fun n => [.str n, .int (g n).1, .int (g n).2]
theorem keyV_cons (g : Str → Int × Int) (n : Str) (t : List Str) : keyV g (n :: t) = V.str n :: V.int (g n).1 :: V.int (g n).2 :: keyV g t := rfl
theorem keyD_cons (g : Str → Int × Int) (n : Str) (t : List Str) : keyD g (n :: t) = PyData.str n :: PyData.int (g n).1 :: PyData.int (g n).2 :: keyD g t := rfl
theorem dp_key {K : PySem.W.Frag} {H : Hp} (g : Str → Int × Int) : ∀ zs : List Str, DpAll K H (keyV g zs) (keyD g zs)
  | [] => .nil
  | n :: t => by
    rw [keyV_cons, keyD_cons]
    exact .cons (.str n) (.cons (.int _) (.cons (.int _) (dp_key g t)))
theorem strOk_name {n : Str} (h : nameT n.cps.toList = true) : PyData.strOk n = true := by
  unfold nameT at h
  rw [Bool.and_eq_true, Bool.and_eq_true, Bool.and_eq_true] at h
  have h := h.2.2.2
  rw [List.all_eq_true] at h
  have lt : ∀ c ∈ sigS.cps.toList, c < 0x110000 := by decide +kernel
  unfold PyData.strOk
  rw [Array.all_eq_true']
  intro c hc
  have := h c (Array.mem_toList_iff.mpr hc)
  exact decide_eq_true (lt c (of_decide_eq_true this))
theorem can_key (g : Str → Int × Int) : ∀ zs : List Str, (∀ n ∈ zs, nameT n.cps.toList = true) → PyData.canLayAll0 (keyD g zs) = true
  | [], _ => rfl
  | n :: t, h => by
    rw [keyD_cons]
    have := can_key g t fun m hm => h m (List.mem_cons_of_mem _ hm)
    simp only [PyData.canLayAll0, PyData.canLay0, this, Bool.and_true, Bool.true_and]
    exact strOk_name (h n List.mem_cons_self)
theorem dep_key (g : Str → Int × Int) : ∀ zs : List Str, PyData.depthAll (keyD g zs) ≤ 1
  | [] => Nat.zero_le _
  | n :: t => by
    rw [keyD_cons]
    have := dep_key g t
    simp only [PyData.depthAll, PyData.depth]
    omega
theorem shaped_key {g : Str → Int × Int} {zs : List Str} (h : ∀ n ∈ zs, nameT n.cps.toList = true) : SeqAt.shaped (.tuple (keyD g zs)) = true := by
  have h1 := can_key g zs h
  have h2 := dep_key g zs
  unfold SeqAt.shaped
  rw [Bool.and_eq_true]
  refine ⟨by simp only [PyData.canLay0]; exact h1, decide_eq_true ?_⟩
  simp only [PyData.depth]
  omega
theorem eqv_key {g g2 : Str → Int × Int} {zs : List Str} (h : ∀ n ∈ zs, nameT n.cps.toList = true) (e : ∀ n ∈ zs, g n = g2 n) : PyData.eqv (.tuple (keyD g zs)) (.tuple (keyD g2 zs)) = true := by
  have : keyD g zs = keyD g2 zs := by
    clear h
    induction zs with
    | nil => rfl
    | cons n t ih => rw [keyD_cons, keyD_cons, e n List.mem_cons_self, ih fun m hm => e m (List.mem_cons_of_mem _ hm)]
  rw [← this]
  exact PySem.SeqAt.eqv_refl _ (by simp only [PyData.canLay0]; exact can_key g zs h)
/-- self == other -/
def spEqB (CB C : Addr) : Sp := fun vs H Q _ => ∃ (a b : Addr) (g g2 : Str → Int × Int) (zs zs2 : List Str), vs = [.ref a, .ref b] ∧ BalAt H a CB C g zs ∧ BalAt H b CB C g2 zs2 ∧ NsOk zs ∧ NsOk zs2 ∧ Q (.bl (PyData.eqv (.tuple (keyD g zs)) (.tuple (keyD g2 zs2)))) H
section
variable {P : Program} {w : World} {K : PySem.W.Frag} {mg : Str → Option Value} {base : Heap} {C BR CB BB : Addr}
theorem scEqB : FnScope ["self", "other"] ["self", "other"] (defScope (balM 12)) := ⟨rfl, rfl, rfl, by decide +kernel, rfl, by decide +kernel, by decide +kernel⟩
theorem ok_eqB {f : Addr} {fd : FuncData} (F : MtP K "__eq__" "Balance.__eq__" (balM 12) f fd) (T : BalC K CB) (gB : mg "Balance" = some (.ref CB)) (bi : mg "isinstance" = none) (tyB : ∀ (H : Hp) (a : Addr) g zs, BalAt H a CB C g zs → TyX K H (.ref a) (.ref CB)) (cc : PySem.W.kitOne K (.ref CB) (.ref CB) = some true) :
    FnOk P w K mg base CX0 1 f fd ["self", "other"] (spEqB CB C) := by
  refine F.ok scEqB (fun vs H Q E h => ?_) (fun cdv A outer s H vs Q E hr h => ?_)
  · obtain ⟨a, b, g, g2, zs, zs2, rfl, _⟩ := h
    rfl
  · obtain ⟨a, b, g, g2, zs, zs2, rfl, hb, hb2, n1, n2, k⟩ := h
    have hr0 : Room 0 _ := hr
    have kk := T.no "key" (by simp)
    refine ⟨_, PSs.nox (pss_one (ps_ret (pe_and (pe_callB call_isi (by rfl) bi (by decide +kernel) (pa_cons (pv 1) (pa_cons (pe_glob (v := .ref _) rfl gB rfl) pa_nil))) (pe_one (pe_cmpR (op_eqD hr0.units) (pe_fld (pv 0) rfl) (pe_fld (pv 1) rfl) (nomark _)))))), ?_⟩
    refine ⟨_, rfl, _, _, _, _, _, rfl, .own CB, tyB _ _ _ _ hb2, cc, true, rfl, iteT ?_⟩
    obtain ⟨dx, nd, tp, kt, ha, _, _, hk⟩ := hb
    obtain ⟨dx2, nd2, tp2, kt2, ha2, _, _, hk2⟩ := hb2
    exact ⟨_, rfl, a, CB, dx, _, _, rfl, ha, T.cls, kk, rfl, _, rfl, b, CB, dx2, _, _, rfl, ha2, T.cls, kk, rfl, _, _, .tup (SqT.of hk) (dp_key g zs), .tup (SqT.of hk2) (dp_key g2 zs2), shaped_key fun n m => (n1.nm n m).2, shaped_key fun n m => (n2.nm n m).2, k⟩
end
end K04
namespace K04
open PySem PySem.Spec PyProof.Rows L2 RatM ClX
/-- the sum of two fractions -/
def plusF (x y : Int × Int) : Int × Int := (lowT (x.1 * y.2 + y.1 * x.2) (x.2 * y.2), lowB (x.1 * y.2 + y.1 * x.2) (x.2 * y.2))
/-- the new name of a thing -/
def nmOf (ps : List (Str × Str)) (n : Str) : Str := ((ps.find? fun p => decide (p.1 = n)).map (·.2)).getD n
def renS (ps : List (Str × Str)) (g : Str → Int × Int) (s : List Str × (Str → Int × Int)) (n : Str) : List Str × (Str → Int × Int) :=
  (if nmOf ps n ∈ s.1 then s.1 else s.1 ++ [nmOf ps n], fun x => if x = nmOf ps n then plusF (g n) (if nmOf ps n ∈ s.1 then s.2 (nmOf ps n) else (0, 1)) else s.2 x)
def renN (ps : List (Str × Str)) (g : Str → Int × Int) (zs : List Str) : List Str × (Str → Int × Int) := zs.foldl (renS ps g) ([], fun _ => (0, 1))
theorem renN_take {ps : List (Str × Str)} {g : Str → Int × Int} {zs : List Str} {i : Nat} {n : Str} (e : zs[i]? = some n) : renN ps g (zs.take (i + 1)) = renS ps g (renN ps g (zs.take i)) n := by
  unfold renN
  rw [List.take_add_one, e, List.foldl_append]
  rfl
theorem nmOf_get {kvs : List (Key × V)} {ps : List (Str × Str)} (h : NmD kvs ps) (n : Str) : (valV kvs (.inr n)).getD (.str n) = .str (nmOf ps n) := by
  induction h with
  | nil => rfl
  | @cons x p l1 l2 h t ih =>
    subst h
    by_cases e : p.1 = n
    · rw [valV_pos (by rw [e])]
      unfold nmOf
      rw [List.find?_cons_of_pos (by simp [e])]
      rfl
    · rw [valV_neg (fun z => e (by injection z)), ih]
      unfold nmOf
      rw [List.find?_cons_of_neg (by simp [e])]
theorem nmOf_ok {ps : List (Str × Str)} {n : Str} (h : NsT (ps.map (·.2))) (hn : n.length ≤ 100000 ∧ nameT n.cps.toList = true) : (nmOf ps n).length ≤ 100000 ∧ nameT (nmOf ps n).cps.toList = true := by
  unfold nmOf
  cases e : ps.find? fun p => decide (p.1 = n) with
  | none => exact hn
  | some p => exact h.2 p.2 (List.mem_map.mpr ⟨p, List.mem_of_find?_eq_some e, rfl⟩)
/-- what holds of the names so far -/
structure RenI (s : List Str × (Str → Int × Int)) (i : Nat) : Prop where
  nd : s.1.Nodup
  le : s.1.length ≤ i
  nm : ∀ n ∈ s.1, n.length ≤ 100000 ∧ nameT n.cps.toList = true
  lo : ∀ m ∈ s.1, 0 < (s.2 m).2 ∧ (s.2 m).1.natAbs < 2 ^ (400 * (i + 1)) ∧ (s.2 m).2.natAbs < 2 ^ (400 * (i + 1))
theorem plusF_sz {x y : Int × Int} {i : Nat} (hx : x.1.natAbs < 2 ^ 300 ∧ x.2.natAbs < 2 ^ 300) (x0 : 0 < x.2) (hy : y.1.natAbs < 2 ^ (400 * (i + 1)) ∧ y.2.natAbs < 2 ^ (400 * (i + 1))) (y0 : 0 < y.2) :
    0 < (plusF x y).2 ∧ (plusF x y).1.natAbs < 2 ^ (400 * (i + 1 + 1)) ∧ (plusF x y).2.natAbs < 2 ^ (400 * (i + 1 + 1)) := by
  have b0 : x.2 * y.2 ≠ 0 := Int.mul_ne_zero (by omega) (by omega)
  have pw : 2 ^ (301 + 400 * (i + 1)) ≤ 2 ^ (400 * (i + 1 + 1)) := Nat.pow_le_pow_right (by decide) (by omega)
  have two : 2 ^ (301 + 400 * (i + 1)) = 2 ^ (300 + 400 * (i + 1)) + 2 ^ (300 + 400 * (i + 1)) := by rw [show 301 + 400 * (i + 1) = (300 + 400 * (i + 1)) + 1 by omega, Nat.pow_succ]; omega
  have m1 : (x.1 * y.2).natAbs < 2 ^ (300 + 400 * (i + 1)) := wide_lt hx.1 hy.2
  have m2 : (x.2 * y.1).natAbs < 2 ^ (300 + 400 * (i + 1)) := wide_lt hx.2 hy.1
  have m3 : (x.2 * y.2).natAbs < 2 ^ (300 + 400 * (i + 1)) := wide_lt hx.2 hy.2
  rw [Int.mul_comm x.2 y.1] at m2
  have ad := Int.natAbs_add_le (x.1 * y.2) (y.1 * x.2)
  refine ⟨lowB_pos b0, ?_, ?_⟩
  · exact Nat.lt_of_le_of_lt (lowT_le b0) (by omega)
  · exact Nat.lt_of_le_of_lt (lowB_le b0) (by omega)
theorem RenI.step {ps : List (Str × Str)} {g : Str → Int × Int} {s : List Str × (Str → Int × Int)} {i : Nat} {n : Str} (h : RenI s i) (hg : (g n).1.natAbs < 2 ^ 300 ∧ (g n).2.natAbs < 2 ^ 300) (g0 : 0 < (g n).2) (hn : (nmOf ps n).length ≤ 100000 ∧ nameT (nmOf ps n).cps.toList = true) : RenI (renS ps g s n) (i + 1) := by
  have mem : ∀ m ∈ (renS ps g s n).1, m ∈ s.1 ∨ m = nmOf ps n := fun m hm => by
    unfold renS at hm
    dsimp only at hm
    by_cases c : nmOf ps n ∈ s.1
    · rw [if_pos c] at hm; exact .inl hm
    · rw [if_neg c] at hm
      exact (List.mem_append.mp hm).imp id List.mem_singleton.mp
  have on : (if nmOf ps n ∈ s.1 then s.2 (nmOf ps n) else (0, 1) : Int × Int).1.natAbs < 2 ^ (400 * (i + 1)) ∧ (if nmOf ps n ∈ s.1 then s.2 (nmOf ps n) else (0, 1) : Int × Int).2.natAbs < 2 ^ (400 * (i + 1)) ∧ 0 < (if nmOf ps n ∈ s.1 then s.2 (nmOf ps n) else (0, 1) : Int × Int).2 := by
    by_cases c : nmOf ps n ∈ s.1
    · rw [if_pos c]
      obtain ⟨z1, z2, z3⟩ := h.lo _ c
      exact ⟨z2, z3, z1⟩
    · rw [if_neg c]
      have : (1 : Nat) < 2 ^ (400 * (i + 1)) := Nat.lt_of_lt_of_le (by decide) (Nat.pow_le_pow_right (by decide) (show 1 ≤ 400 * (i + 1) by omega))
      exact ⟨by show 0 < _; omega, this, by decide⟩
  refine ⟨?_, ?_, fun m hm => ?_, fun m hm => ?_⟩
  · unfold renS
    dsimp only
    by_cases c : nmOf ps n ∈ s.1
    · rw [if_pos c]; exact h.nd
    · rw [if_neg c]
      exact List.nodup_append.mpr ⟨h.nd, by simp, fun a ha b hb e => c (by rw [List.mem_singleton.mp hb] at e; exact e ▸ ha)⟩
  · unfold renS
    dsimp only
    have := h.le
    by_cases c : nmOf ps n ∈ s.1
    · rw [if_pos c]; omega
    · rw [if_neg c, List.length_append]; simp only [List.length_cons, List.length_nil]; omega
  · rcases mem m hm with z | z
    · exact h.nm m z
    · rw [z]; exact hn
  · show 0 < (if m = nmOf ps n then _ else _ : Int × Int).2 ∧ (if m = nmOf ps n then _ else _ : Int × Int).1.natAbs < _ ∧ (if m = nmOf ps n then _ else _ : Int × Int).2.natAbs < _
    by_cases e : m = nmOf ps n
    · rw [if_pos e]
      exact plusF_sz hg g0 ⟨on.1, on.2.1⟩ on.2.2
    · rw [if_neg e]
      obtain ⟨z1, z2, z3⟩ := h.lo m ((mem m hm).resolve_right e)
      have pw : 2 ^ (400 * (i + 1)) ≤ 2 ^ (400 * (i + 1 + 1)) := Nat.pow_le_pow_right (by decide) (by omega)
      exact ⟨z1, Nat.lt_of_lt_of_le z2 pw, Nat.lt_of_lt_of_le z3 pw⟩
end K04
namespace K04
open PySem PySem.Spec PyProof.Rows L2 RatM ClX
def spRen (CB C : Addr) : Sp := fun vs H Q _ => ∃ (a d : Addr) (g : Str → Int × Int) (zs : List Str) (kn : List (Key × V)) (ps : List (Str × Str)), vs = [.ref a, .ref d] ∧ BalAt H a CB C g zs ∧ BalOk g zs ∧ BalLo 300 g zs ∧ zs.length ≤ 4 ∧ H d = some (.dK kn) ∧ NmD kn ps ∧ NsT (ps.map (·.1)) ∧ NsT (ps.map (·.2)) ∧
  ∀ a' ys H', Same H H' → ys.Perm (renN ps g zs).1 → sortedS ys = true → BalAt H' a' CB C (renN ps g zs).2 (nz (renN ps g zs).2 ys) → Q (.ref a') H'
section
variable {P : Program} {w : World} {K : PySem.W.Frag} {mg : Str → Option Value} {base : Heap} {C BR CB BB : Addr}
theorem scRn : FnScope ["self", "names", "numbers", "thing", "number", "name"] ["self", "names"] (defScope (balM 7)) := ⟨rfl, rfl, rfl, by decide +kernel, rfl, by decide +kernel, by decide +kernel⟩
theorem ok_renamed {f fN : Addr} {fd fdN : FuncData} (F : MtP K "renamed" "Balance.renamed" (balM 7) f fd) (O : OpsK P w K mg base CB C BR) (M : ErrN P w K mg base "BadBalance" BB ["part"])
    (GN : FnOk P w K mg base CX0 4 fN fdN ["value"] spIsNm) (bN : Binds K fdN ["value"] []) (kN : PySem.W.keepIn K (.ref fN) = true) (gN : mg "is_naming" = some (.ref fN)) :
    FnOk P w K mg base (L2.CX P w) 10 f fd ["self", "names"] (spRen CB C) := by
  obtain ⟨fA, fdA, OA, GA, bA⟩ := O.add
  have B := O.B
  refine F.ok scRn (fun vs H Q E h => ?_) (fun cdv A outer s H vs Q E hr h => ?_)
  · obtain ⟨a, d, g, zs, kn, ps, rfl, _⟩ := h
    rfl
  · obtain ⟨a, d, g, zs, kn, ps, rfl, hb, ok, lo, l4, hdn, hps, n1, n2, k⟩ := h
    have hr9 : Room 9 _ := hr
    have hu1 : (A.deeper (envOfC (Str.ofString "Balance.renamed") (defScope (balM 7)) s.heap.objs.size f cdv)).units + 1 < cLine := by have := hr9.units; omega
    refine ⟨_, (pss_cons (ps_if (pt_not (pt_val (pe_call GN (hr9.mono (by decide)) rfl gN kN bN .nil pass0 (pa_cons (pv 1) pa_nil)))) (pss_one (ps_raiseN rfl M (hr9.mono (by decide)) (takes_of rfl rfl rfl rfl) (by rfl) (pa_cons pe_str pa_nil))) pss_nil)
      (pss_cons (ps_set (i := 2) scRn.nd rfl (.inl rfl) pe_dnewK)
      (pss_cons (ps_lock (ps_for (passes_of rfl) rfl (pi_items (pe_fld (pv 0) rfl)) (pg_tup rfl (pgs_cons (pg_name (i := 3) scRn.nd rfl (Or.inl rfl)) (pgs_cons (pg_name (i := 4) scRn.nd rfl (Or.inl rfl)) pgs_nil)))
        (pss_cons (ps_set (i := 5) scRn.nd rfl (.inl rfl) (pe_dget2 hu1 (pv 1) (pv 3) (pv 3) ⟨rfl, rfl, rfl, rfl⟩))
        (pss_one (ps_dput hu1 (pv 2) (pv 5) (pe_op (op_rat (op := .Add) O.sf O.odd OA GA bA (by exact hr9.mono (by decide)) (E := E0) passL) (pv 4) (pe_dget2 hu1 (pv 2) (pv 5) pe_int ⟨rfl, rfl, rfl, rfl⟩)) (by rfl))))))
      (pss_one (ps_ret (pe_bal B (by exact hr9) (E := E0) passL rfl (pa_cons (pv 2) pa_nil))))))), ?_⟩
    obtain ⟨dx, nd, tp, kt, ha, ⟨kvs, hd, hR⟩, ht, hk⟩ := hb
    have nN := B.T.no "_numbers" (by simp)
    have lk := Paired.length hR
    refine ⟨_, rfl, d, kn, ps, rfl, hdn, hps, n1, n2, fun H1 s1 => ⟨true, rfl, iteF ?_⟩⟩
    dsimp only [tNext, tSeq, tAsg]
    intro D nD
    dsimp only [gName]
    have hd1 := s1 _ _ hd
    have ha1 := s1 _ _ ha
    have s2 := same_upd (o := .dK []) nD
    have nda : a ≠ nd := fun e => by rw [e, hd] at ha; cases ha
    have nDn : D ≠ nd := fun e => by rw [e, hd1] at nD; cases nD
    refine ⟨nd, .dK kvs, s2 _ _ hd1, True.intro, fun od => ?_⟩
    refine ⟨_, rfl, a, CB, dx, _, _, rfl, (upd_ne nda).trans (s2 _ _ ha1), B.T.cls, nN, rfl, nd, od, kvs, rfl, upd_same, ?_⟩
    -- the heap without the new dict
    have hRB : RatD (upd H1 nd (.frz od (.dK kvs))) C g kvs zs := (hR.same s1).upd_d hd1
    have hdB : (upd H1 nd (.frz od (.dK kvs))) nd = some (.frz od (.dK kvs)) := upd_same
    have nDB : (upd H1 nd (.frz od (.dK kvs))) D = none := (upd_ne nDn).trans nD
    have rdB : Rd (upd H1 nd (.frz od (.dK kvs))) d (.dK kn) := by
      by_cases e : d = nd
      · subst e
        rw [hd] at hdn
        cases hdn
        exact .inr ⟨od, upd_same⟩
      · exact .inl ((upd_ne e).trans (s1 _ _ hdn))
    have s0 : Same (upd H1 nd (.frz od (.dK kvs))) (upd (upd H1 D (.dK [])) nd (.frz od (.dK kvs))) := fun c o e => by
      by_cases ec : c = nd
      · subst ec
        rw [upd_same] at e ⊢
        exact e
      · rw [upd_ne ec] at e ⊢
        exact s2 _ _ e
    have hD0 : (upd (upd H1 D (.dK [])) nd (.frz od (.dK kvs))) D = some (.dK []) := (upd_ne nDn).trans upd_same
    have ul : ∀ Hx, Same (upd H1 nd (.frz od (.dK kvs))) Hx → Same H (upd Hx nd (.dK kvs)) := fun Hx s => s1.trans (unlock_same hd1 s)
    generalize upd (upd H1 D (.dK [])) nd (.frz od (.dK kvs)) = H3 at s0 hD0 ⊢
    generalize upd H1 nd (.frz od (.dK kvs)) = HB at hRB hdB nDB rdB s0 ul ⊢
    have ri : ∀ i, i ≤ zs.length → RenI (renN ps g (zs.take i)) i := by
      intro i
      induction i with
      | zero => exact fun _ => ⟨List.nodup_nil, Nat.le_refl _, fun n m => (by cases m), fun n m => (by cases m)⟩
      | succ i ih =>
        intro hi
        have en : zs[i]? = some zs[i] := List.getElem?_eq_getElem (by omega)
        have mn := List.mem_of_getElem? en
        rw [renN_take en]
        exact (ih (by omega)).step (lo.sz _ mn) (lo.lo _ mn).1 (nmOf_ok n2 (ok.ns.nm _ mn))
    refine for_it walk_items (fun i σ Hx => (∃ o3 o4 o5, σ = [some (.ref a), some (.ref d), some (.ref D), o3, o4, o5]) ∧ Same HB Hx ∧ ∃ kv, Hx D = some (.dK kv) ∧ RatD Hx C (renN ps g (zs.take i)).2 kv (renN ps g (zs.take i)).1) ⟨⟨none, none, none, rfl⟩, s0, [], hD0, .nil⟩ (fun i σ Hx _ hP => hP.2.1 _ _ hdB) ?_ ?_
    · rintro i x σ Hx Hx' hi ⟨⟨o3, o4, o5, rfl⟩, s3, kv, hDx, hRx⟩ hy
      obtain ⟨TT, n, b, en, rfl, s4, hT, hb⟩ := items_turn hRB s3 hy
      have li : i < zs.length := (List.getElem?_eq_some_iff.mp en).1
      have mn := List.mem_of_getElem? en
      have I := ri i (by omega)
      have s34 := s3.trans s4
      have hD4 := s4 _ _ hDx
      have hR4 := hRx.same s4
      have rd4 : Rd Hx' d (.dK kn) := rdB.imp (fun e => s34 _ _ e) fun ⟨o, e⟩ => ⟨o, s34 _ _ e⟩
      have g2 := lo.lo n mn
      have gz := lo.sz n mn
      refine ⟨TT, _, rfl, SqT.of hT, rfl, _, _, rfl, _, _, rfl, rfl, ?_⟩
      refine ⟨_, rfl, d, rfl, .inl ⟨kn, rd4⟩, _, rfl, _, rfl, _, .inl ⟨kn, .inr n, rd4, rfl, rfl⟩, ?_⟩
      rw [nmOf_get hps]
      generalize hS : renN ps g (zs.take i) = S at I hR4 hRx
      have on : NumAt Hx' C ((valV kv (.inr (nmOf ps n))).getD (.int 0)) (if nmOf ps n ∈ S.1 then S.2 (nmOf ps n) else (0, 1) : Int × Int).1 (if nmOf ps n ∈ S.1 then S.2 (nmOf ps n) else (0, 1) : Int × Int).2 := by
        by_cases m : nmOf ps n ∈ S.1
        · obtain ⟨v, ev, hv⟩ := NumD.val hR4.num m
          rw [ev, if_pos m]
          exact hv
        · rw [NumD.noVal hR4.num m, if_neg m]
          exact .inr ⟨rfl, rfl, by decide⟩
      have oz : Sz (if nmOf ps n ∈ S.1 then S.2 (nmOf ps n) else (0, 1) : Int × Int).1 ∧ Sz (if nmOf ps n ∈ S.1 then S.2 (nmOf ps n) else (0, 1) : Int × Int).2 ∧ (if nmOf ps n ∈ S.1 then S.2 (nmOf ps n) else (0, 1) : Int × Int).2 ≠ 0 := by
        by_cases m : nmOf ps n ∈ S.1
        · rw [if_pos m]
          obtain ⟨z1, z2, z3⟩ := I.lo _ m
          exact ⟨sz_of z2 (by omega), sz_of z3 (by omega), by omega⟩
        · rw [if_neg m]
          exact ⟨by decide, by decide, by decide⟩
      refine ⟨_, rfl, _, rfl, D, rfl, .inl ⟨kv, .inl hD4⟩, _, rfl, _, DGet.k (k := .inr (nmOf ps n)) hD4, b, _, _, rfl, hb, sz_of gz.1 (by decide), sz_of gz.2 (by decide), by omega, .inl ⟨_, _, on, oz.1, oz.2.1, oz.2.2, fun r3 H6 s6 h6 => ?_⟩⟩
      have hD6 := s6 _ _ hD4
      have hR6 := hR4.same s6
      have pl := Paired.length hR6
      have Ile := I.le
      refine ⟨_, rfl, _, rfl, D, _, rfl, DPut.k (k := .inr (nmOf ps n)) hD6 (by rw [sizeLine_eq]; omega), ⟨_, _, _, rfl⟩, fun c ob e => ?_, _, upd_same, ?_⟩
      · rw [upd_ne (ne_of_none e nDB)]
        exact s6 _ _ (s34 _ _ e)
      · rw [renN_take en, hS]
        exact RatD.put (n := nmOf ps n) (g' := (renS ps g S n).2) (b := r3) (hR6.upd_d (o := .dK (putK kv (.inr (nmOf ps n)) (.ref r3))) hD6) (fun m ne => if_neg ne) (by
          show RatAt _ _ _ (if nmOf ps n = nmOf ps n then _ else _ : Int × Int).1 (if nmOf ps n = nmOf ps n then _ else _ : Int × Int).2
          rw [if_pos rfl]
          exact h6.upd_d hD6)
    · rintro σ Hx ⟨⟨o3, o4, o5, rfl⟩, s3, kv, hDx, hRx⟩
      rw [lk, List.take_length] at hRx
      have I := ri zs.length (Nat.le_refl _)
      rw [List.take_length] at I
      refine ⟨s3 _ _ hdB, _, rfl, .ref D, rfl, D, kv, (renN ps g zs).1, (renN ps g zs).2, rfl, (upd_ne nDn).trans hDx, (hRx.upd_any fun dx fs z => by rw [s3 _ _ hdB] at z; cases z).num, ⟨I.nd, by have := I.le; omega, I.nm⟩, fun a' ys H' s n py sy hb => k a' ys H' ((ul _ s3).trans s) py sy hb⟩
end
end K04
namespace K04
open PySem PySem.Spec PyProof.Rows L2 RatM ClX
/-- the words of a thing and its number -/
def termT (n : Str) (x : Int × Int) : Str := if (decide (x.2 = 1) && decide (x.1 = 1)) = true then n else ((Str.empty ++ textR x.1 x.2) ++ " ") ++ n
def spTerm (C : Addr) : Sp := fun vs H Q _ => ∃ (n : Str) (r : Addr) (x : Int × Int), vs = [.str n, .ref r] ∧ RatAt H r C x.1 x.2 ∧ Sz x.1 ∧ Sz x.2 ∧ n.length ≤ 1000 ∧ (textR x.1 x.2).length ≤ 1000 ∧ Q (.str (termT n x)) H
section
variable {P : Program} {w : World} {K : PySem.W.Frag} {mg : Str → Option Value} {base : Heap} {C BR CB BB : Addr}
theorem scTe : FnScope ["thing", "number"] ["thing", "number"] (defScope (top 46)) := ⟨rfl, rfl, rfl, by decide +kernel, rfl, by decide +kernel, by decide +kernel⟩
theorem ok_term {f fE fS : Addr} {fd fdE fdS : FuncData} (F : FnP K "_term" (top 46) f fd) (ME : OwnM K C "__eq__" fE) (GE : FnOk P w K mg base CX0 3 fE fdE ["self", "other"] (spSame K C)) (bE : Binds K fdE ["self", "other"] []) (nf : PySem.W.notFirst K C (.type "int") = true)
    (MS : OwnM K C "__str__" fS) (GS : FnOk P w K mg base CX0 2 fS fdS ["self"] (spText K C)) (bS : Binds K fdS ["self"] []) (hfm : PySem.W.findIn K (.ref C) "__format__" = some (some (.builtin "object.__format__"))) (hm : PySem.W.mroIn K C (.type "object") = some true) :
    FnOk P w K mg base CX0 4 f fd ["thing", "number"] (spTerm C) := by
  refine F.ok scTe (fun vs H Q E h => ?_) (fun cdv A outer s H vs Q E hr h => ?_)
  · obtain ⟨n, r, x, rfl, _⟩ := h
    rfl
  · obtain ⟨n, r, x, rfl, hb, z1, z2, ln, lt, k⟩ := h
    have hr3 : Room 3 _ := hr
    refine ⟨_, PSs.nox (pss_one (ps_ret (pe_ifExp (pt_cmpR (op_eqOwn ME GE hr3 bE (E := E0) pass0) (pv 1) pe_int (nomark _)) (pv 0) (pe_joined (PJ.cons (pe_fmtO MS hfm hm GS hr3 bS (E := E0) pass0 (pv 1)) (PJ.cons pe_str (PJ.cons (pe_fmt (pv 0)) PJ.nil))))))), ?_⟩
    refine ⟨_, rfl, r, .type "int", rfl, hb.ins, ty_plain (plainT_int _), nf, r, _, _, _, rfl, hb, .inr (.inl ⟨1, rfl, _, rfl, (decide (x.2 = 1) && decide (x.1 = 1)), rfl, ite2 (fun c => ?_) (fun c => ?_)⟩)⟩
    · refine ⟨_, rfl, ?_⟩
      unfold termT at k
      rw [if_pos c] at k
      exact k
    · unfold termT at k
      rw [if_neg c] at k
      have l1 : (Str.empty ++ textR x.1 x.2).length ≤ 1000 := by rw [strLen_append]; exact (by show 0 + _ ≤ 1000; omega)
      have l2 : ((Str.empty ++ textR x.1 x.2) ++ " ").length ≤ 1001 := by rw [strLen_append]; exact Nat.add_le_add l1 (Nat.le_refl 1)
      have l3 : (((Str.empty ++ textR x.1 x.2) ++ " ") ++ n).length ≤ 2001 := by rw [strLen_append]; omega
      refine ⟨_, rfl, r, rfl, hb.ins, r, _, _, rfl, hb, z1, z2, textR x.1 x.2, rfl, _, rfl, by rw [sizeLine_eq]; omega, _, rfl, by rw [sizeLine_eq]; omega, ?_⟩
      exact ⟨_, rfl, .inl ⟨n, rfl, by rw [sizeLine_eq]; omega, n, rfl, by rw [sizeLine_eq]; omega, k⟩⟩
end
end K04
namespace K04
open PySem PySem.Spec PyProof.Rows L2 RatM ClX
/-- a balance's text -/
def balT (g : Str → Int × Int) (zs : List Str) : Str := if zs.length = 0 then "0" else Txt.join " + " (zs.map fun n => termT n (g n))
def spBalT (CB C : Addr) : Sp := fun vs H Q _ => ∃ (a : Addr) (g : Str → Int × Int) (zs : List Str), vs = [.ref a] ∧ BalAt H a CB C g zs ∧ NsOk zs ∧ BalLo 1900 g zs ∧ (∀ n ∈ zs, n.length ≤ 1000 ∧ (textR (g n).1 (g n).2).length ≤ 1000) ∧ ∀ H', Same H H' → Q (.str (balT g zs)) H'
theorem termT_len {n : Str} {x : Int × Int} (h1 : n.length ≤ 1000) (h2 : (textR x.1 x.2).length ≤ 1000) : (termT n x).length ≤ 2001 := by
  unfold termT
  by_cases c : (decide (x.2 = 1) && decide (x.1 = 1)) = true
  · rw [if_pos c]; omega
  · rw [if_neg c]
    have l1 : (Str.empty ++ textR x.1 x.2).length ≤ 1000 := by rw [strLen_append]; exact (by show 0 + _ ≤ 1000; omega)
    have l2 : ((Str.empty ++ textR x.1 x.2) ++ " ").length ≤ 1001 := by rw [strLen_append]; exact Nat.add_le_add l1 (Nat.le_refl 1)
    rw [strLen_append]; omega
theorem sum_le {f : Str → Nat} {B : Nat} : ∀ l : List Str, (∀ x ∈ l, f x ≤ B) → (l.map f).sum ≤ l.length * B
  | [], _ => by simp
  | x :: t, h => by
    have h1 := sum_le t fun y m => h y (List.mem_cons_of_mem _ m)
    have h2 := h x List.mem_cons_self
    rw [List.map_cons, List.sum_cons, List.length_cons, Nat.add_mul, Nat.one_mul]
    omega
section
variable {P : Program} {w : World} {K : PySem.W.Frag} {mg : Str → Option Value} {base : Heap} {C BR CB BB : Addr}
theorem scWb : FnScope ["balance", "thing"] ["balance"] (defScope (top 44)) := ⟨rfl, rfl, rfl, by decide +kernel, rfl, by decide +kernel, by decide +kernel⟩
theorem ok_writtenB {f fT : Addr} {fd fdT : FuncData} (F : FnP K "_written" (top 44) f fd) (O : OpsK P w K mg base CB C BR)
    (GT : FnOk P w K mg base CX0 4 fT fdT ["thing", "number"] (spTerm C)) (bT : Binds K fdT ["thing", "number"] []) (kT : PySem.W.keepIn K (.ref fT) = true) (gT : mg "_term" = some (.ref fT)) :
    FnOk P w K mg base CX0 6 f fd ["balance"] (spBalT CB C) := by
  obtain ⟨fN, fdN, MN, GN, bN⟩ := O.num
  have B := O.B
  refine F.ok scWb (fun vs H Q E h => ?_) (fun cdv A outer s H vs Q E hr h => ?_)
  · obtain ⟨a, g, zs, rfl, _⟩ := h
    rfl
  · obtain ⟨a, g, zs, rfl, hb, ok, lo, tx, k⟩ := h
    have hr5 : Room 5 _ := hr
    refine ⟨_, PSs.nox (pss_cons (ps_if (pt_val (pe_fld (pv 0) rfl)) (pss_one (ps_ret pe_str)) pss_nil)
      (pss_one (ps_ret (pe_join pe_str (pe_lc (own := [("thing", 1)]) (g := gName 1) (tt := tYes) (te := tCall (spTerm C) [] E0 (tCons (tVar 1) (tCons (tMeth CB "number_of" (spNum CB C) [] E0 (tVar 0) (tCons (tVar 1) tNil)) tNil))) rfl scWb.nd (pi_tup (pe_fld (pv 0) rfl)) (blkOk_by (N := ["balance", "thing"]) (sc := defScope (top 44)) (by decide +kernel)) (fun _ _ _ _ _ => pg_name (i := 1) scWb.nd rfl (Or.inl rfl)) (fun _ _ _ _ _ => pts_nil)
        (fun _ _ _ _ _ => pe_call GT (by exact hr5.mono (by decide)) rfl gT kT bT .nil pass0 (pa_cons (pv 1) (pa_cons (pe_meth (pv 0) B.T.cls MN GN (by exact hr5) bN .nil (E := E0) pass0 (pa_cons (pv 1) pa_nil)) pa_nil)))))))), ?_⟩
    have nI := B.T.no "is_nothing" (by simp)
    have nT := B.T.no "things" (by simp)
    obtain ⟨dx, nd, tp, kt, ha, ⟨kvs, hd, hR⟩, ht, hk⟩ := id hb
    refine ⟨_, rfl, a, CB, dx, _, _, rfl, ha, B.T.cls, nI, rfl, decide (zs.length = 0), congrArg V.bl (decide_eq_decide.mpr ⟨fun z => by injection z with z; omega, fun z => by rw [z]; rfl⟩), ite2 (fun c => ?_) (fun c => ?_)⟩
    · unfold balT at k
      rw [if_pos (of_decide_eq_true c)] at k
      exact k H (Same.refl _)
    · have z0 : ¬ zs.length = 0 := fun z => c (decide_eq_true z)
      unfold balT at k
      rw [if_neg z0] at k
      dsimp only [tNext]
      refine ⟨⟨_, rfl⟩, _, rfl, a, CB, dx, _, _, rfl, ha, B.T.cls, nT, rfl, tp, rfl, ⟨_, SqT.of ht⟩, fun D nD => ?_⟩
      refine lc_it (walk_tup (xs := zs.map V.str)) (fun i Hx => Same H Hx ∧ Hx D = some (.lst (((zs.take i).map fun n => termT n (g n)).map V.str))) ⟨same_upd nD, upd_same⟩ (fun i Hx _ hP => SqT.of (hP.1 _ _ ht)) (fun i x Hx Hx' hi hP hy => ?_) (fun Hx hP => ?_)
      · obtain ⟨rfl, ex⟩ := hy
        obtain ⟨s2, hD⟩ := hP
        rw [List.getElem?_map] at ex
        obtain ⟨n, en, rfl⟩ := Option.map_eq_some_iff.mp ex
        have mn := List.mem_of_getElem? en
        refine ⟨rfl, yesI ?_⟩
        refine ⟨_, rfl, _, rfl, a, dx, _, rfl, s2 _ _ ha, rfl, _, rfl, a, n, g, zs, rfl, hb.same s2, (ok.nm n mn).1, (ok.nm n mn).2, fun b' H4 s4 h4 => ?_⟩
        rw [show num g zs n = g n from if_pos mn] at h4
        refine ⟨n, b', g n, rfl, h4, (lo.sz n mn).1, (lo.sz n mn).2, (tx n mn).1, (tx n mn).2, _, s4 _ _ hD, ?_, fun c o e => ?_, ?_⟩
        · have f2 := List.length_take (i := i) (l := zs)
          have f3 := ok.le
          simp only [List.length_map]
          rw [sizeLine_eq]; omega
        · rw [upd_ne (ne_of_none e nD)]; exact s4 _ _ (s2 _ _ e)
        · rw [upd_same, List.take_add_one, en]
          simp
      · obtain ⟨s2, hD⟩ := hP
        rw [List.length_map, List.take_length] at hD
        refine ⟨" + ", D, zs.map fun n => termT n (g n), rfl, rfl, .inl (SqL.of hD), ?_, k Hx s2⟩
        have sl := sum_le (f := fun n => (termT n (g n)).length) (B := 2001) zs fun n m => termT_len (tx n m).1 (tx n m).2
        have zl := ok.le
        rw [List.map_map, List.length_map]
        have e3 : (" + " : Str).length = 3 := rfl
        rw [e3]
        have : (zs.map ((fun x : Str => x.length) ∘ fun n => termT n (g n))).sum ≤ zs.length * 2001 := sl
        have m1 : zs.length * 2001 ≤ 60 * 2001 := Nat.mul_le_mul_right _ zl
        omega
end
end K04
namespace K04
open PySem PySem.Spec PyProof.Rows L2 RatM ClX
section
variable {P : Program} {w : World} {K : PySem.W.Frag} {mg : Str → Option Value} {base : Heap} {C BR CB BB : Addr}
theorem scStB : FnScope ["self"] ["self"] (defScope (balM 13)) := ⟨rfl, rfl, rfl, by decide +kernel, rfl, by decide +kernel, by decide +kernel⟩
theorem ok_strB {f fW : Addr} {fd fdW : FuncData} (F : MtP K "__str__" "Balance.__str__" (balM 13) f fd) (GW : FnOk P w K mg base CX0 6 fW fdW ["balance"] (spBalT CB C)) (bW : Binds K fdW ["balance"] []) (kW : PySem.W.keepIn K (.ref fW) = true) (gW : mg "written_balances" = some (.ref fW)) (bs : mg "str" = none) : FnOk P w K mg base CX0 7 f fd ["self"] (spBalT CB C) := by
  refine F.ok scStB (fun vs H Q E h => ?_) (fun cdv A outer s H vs Q E hr h => ?_)
  · obtain ⟨a, g, zs, rfl, _⟩ := h
    rfl
  · obtain ⟨a, g, zs, rfl, hb, ok, lo, tx, k⟩ := h
    have hr6 : Room 6 _ := hr
    exact ⟨_, PSs.nox (pss_one (ps_ret (pe_callTy SkE.call_str_str (by rfl) bs PyProof.Rows.boot_str (pa_cons (pe_call GW hr6 rfl gW kW bW .nil pass0 (pa_cons (pv 0) pa_nil)) pa_nil)))), _, rfl, a, g, zs, rfl, hb, ok, lo, tx, fun H' s => ⟨_, rfl, k H' s⟩⟩
end
end K04
namespace K04
open PySem PySem.Spec PyProof.Rows L2 RatM
/-- the built-ins' names that are free -/
structure Blt1 (mg : Str → Option Value) : Prop where
  int : mg "int" = none
  len : mg "len" = none
/-! ### whole numbers read off a word -/
def isDig (l : List Nat) : Bool := l.all fun c => decide (48 ≤ c) && decide (c ≤ 57)
def wholeT (l : List Nat) : Option Nat := if decide (60 < l.length) || !(isDig l && decide (0 < l.length)) then none else if decide (l.head? = some 48) && decide (1 < l.length) then none else some (NumText.digitsVal l)
def optI : Option Nat → V
  | none => .non
  | some n => .int n
theorem dig1 {c : Nat} (h : c < 128) : Unicode.isDigit c = (decide (48 ≤ c) && decide (c ≤ 57)) := by
  have z := PySem.W.os_isdigit h
  unfold Txt.isdigit at z
  rw [← z]
  simp [Str.length]
theorem ascii_all (x : Str) : Txt.isascii x = x.cps.toList.all fun c => decide (c < 128) := by
  unfold Txt.isascii
  simp [Array.all_toList]
theorem digit_all {x : Str} (h : Txt.isascii x = true) : Txt.isdigit x = (isDig x.cps.toList && decide (0 < x.cps.toList.length)) := by
  rw [ascii_all, List.all_eq_true] at h
  unfold Txt.isdigit isDig
  rw [← Array.all_toList]
  have e : (x.cps.toList.all Unicode.isDigit) = x.cps.toList.all fun c => decide (48 ≤ c) && decide (c ≤ 57) := by
    rw [Bool.eq_iff_iff, List.all_eq_true, List.all_eq_true]
    exact ⟨fun q c hc => by rw [← dig1 (of_decide_eq_true (h c hc))]; exact q c hc, fun q c hc => by rw [dig1 (of_decide_eq_true (h c hc))]; exact q c hc⟩
  rw [e, Bool.and_comm]
  rfl
theorem dig_ascii {x : Str} (h : isDig x.cps.toList = true) : Txt.isascii x = true := by
  rw [ascii_all, List.all_eq_true]
  unfold isDig at h
  rw [List.all_eq_true] at h
  intro c hc
  have z := h c hc
  simp only [Bool.and_eq_true, decide_eq_true_eq] at z
  exact decide_eq_true (by omega)
def spWhole (K : PySem.W.Frag) : Sp := fun vs H Q _ => ∃ w : Str, vs = [.str w] ∧ w.length ≤ sizeLine ∧ Q (optI (wholeT w.cps.toList)) H
section
variable {P : Program} {w : World} {K : PySem.W.Frag} {mg : Str → Option Value} {base : Heap} {C BR : Addr}
theorem scWh : FnScope ["word"] ["word"] (defScope (top 28)) := ⟨rfl, rfl, rfl, by decide +kernel, rfl, by decide +kernel, by decide +kernel⟩
theorem ok_whole {f : Addr} {fd : FuncData} (F : FnP K "whole_in" (top 28) f fd) (T : Blt1 mg) (hM : ∃ t, mg "_MOST_DIGITS" = some (.int 60 t)) : FnOk P w K mg base CX0 1 f fd ["word"] (spWhole K) := by
  obtain ⟨tM, hM⟩ := hM
  refine F.ok scWh (fun vs H Q E h => ?_) (fun cdv A outer s H vs Q E hr h => ?_)
  · obtain ⟨x, rfl, _⟩ := h
    rfl
  · obtain ⟨x, rfl, hz, k⟩ := h
    refine ⟨_, PSs.nox (pss_cons (ps_if (PW.pt (pw_or (pt_cmpR op_gt (pe_callB call_len (by rfl) T.len PySem.boot_len (pa_cons (pv 0) pa_nil)) (pe_glob (v := .int 60) rfl hM ⟨_, rfl⟩) (nomark _)) (pw_or (pt_not (pt_val (pe_bm0 PySem.F.plainAttrs_str PySem.F.slot_str_isascii PySem.F.type_str_isascii mt_isascii (pv 0)))) (pw_or1 (pt_not (pt_val (pe_bm0 PySem.F.plainAttrs_str PySem.F.slot_str_isdigit PySem.F.type_str_isdigit mt_isdigit (pv 0)))))))) (pss_one (ps_ret pe_non)) pss_nil)
      (pss_cons (ps_if (PW.pt (pw_and (pt_cmpR op_eq (pe_ix ix_str (pv 0) pe_int (fun _ _ => rfl)) pe_str (nomark _)) (pw_and1 (pt_cmpR op_gt (pe_callB call_len (by rfl) T.len PySem.boot_len (pa_cons (pv 0) pa_nil)) pe_int (nomark _))))) (pss_one (ps_ret pe_non)) pss_nil)
      (pss_one (ps_ret (pe_callTy call_int_str (by rfl) T.int PyProof.Rows.boot_int (pa_cons (pv 0) pa_nil)))))), ?_⟩
    have lx : x.length = x.cps.toList.length := by simp [Str.length]
    refine ⟨_, rfl, .str x, x.length, rfl, ⟨hz, rfl⟩, _, _, rfl, rfl, decide ((60 : Int) < (x.length : Nat)), rfl, ?_⟩
    by_cases c1 : 60 < x.cps.toList.length
    · have e : wholeT x.cps.toList = none := by
        unfold wholeT
        rw [decide_eq_true c1]
        rfl
      rw [e] at k
      rw [decide_eq_true (show (60 : Int) < (x.length : Nat) by omega)]
      exact iteT k
    · rw [decide_eq_false (show ¬ (60 : Int) < (x.length : Nat) by omega)]
      have c1 : ¬ 60 < x.cps.toList.length := c1
      by_cases hA : Txt.isascii x = true
      · have hD := digit_all hA
        refine iteF ⟨_, rfl, rfl, x, rfl, rfl, trivial, true, congrArg V.bl hA, iteF ?_⟩
        by_cases hd : (isDig x.cps.toList && decide (0 < x.cps.toList.length)) = true
        · rw [hd] at hD
          refine ⟨_, rfl, rfl, x, rfl, rfl, trivial, true, congrArg V.bl hD, iteF ?_⟩
          have hw : wholeT x.cps.toList = if decide (x.cps.toList.head? = some 48) && decide (1 < x.cps.toList.length) then none else some (NumText.digitsVal x.cps.toList) := by
            unfold wholeT
            rw [decide_eq_false c1, hd]
            rfl
          rw [hw] at k
          simp only [Bool.and_eq_true, decide_eq_true_eq] at hd
          obtain ⟨hd1, hd2⟩ := hd
          obtain ⟨c0, r, hl⟩ : ∃ c0 r, x.cps.toList = c0 :: r := by
            cases h : x.cps.toList with
            | nil => rw [h] at hd2; cases hd2
            | cons c r => exact ⟨c, r, rfl⟩
          have at0 : atI x.cps.toList 0 = some c0 := by rw [hl]; exact atI_nat (show (c0 :: r)[0]? = some c0 from rfl)
          have ez : decide (V.str ⟨#[c0]⟩ = V.str "0") = decide (c0 = 48) := by
            refine decide_eq_decide.mpr ⟨fun z => ?_, fun z => by rw [z]; rfl⟩
            have z2 := congrArg (fun v => match v with | V.str y => y.cps.toList | _ => []) z
            have z3 : [c0] = [48] := z2
            exact (List.cons.inj z3).1
          have eh : decide (x.cps.toList.head? = some 48) = decide (c0 = 48) := by
            rw [hl]
            exact decide_eq_decide.mpr ⟨fun z => Option.some.inj z, fun z => by rw [z]; rfl⟩
          rw [eh] at k
          have fin : optI (some (NumText.digitsVal x.cps.toList)) = .int (NumText.digitsVal x.cps.toList : Nat) := rfl
          have it : intText? x = some ((NumText.digitsVal x.cps.toList : Nat) : Int) := intText_digits (fun c hc => by
            have z := List.all_eq_true.mp hd1 c hc
            simpa using z) (by rw [hl]; exact List.cons_ne_nil _ _) (by omega)
          refine ⟨_, rfl, x, 0, c0, rfl, rfl, hz, at0, rfl, decide (c0 = 48), congrArg V.bl ez, ?_⟩
          by_cases h48 : c0 = 48
          · rw [decide_eq_true h48] at k ⊢
            refine iteT ⟨_, rfl, .str x, x.length, rfl, ⟨hz, rfl⟩, _, _, rfl, rfl, decide ((1 : Int) < (x.length : Nat)), rfl, ?_⟩
            by_cases h1 : 1 < x.cps.toList.length
            · rw [decide_eq_true h1] at k
              rw [decide_eq_true (show (1 : Int) < (x.length : Nat) by omega)]
              exact iteT k
            · rw [decide_eq_false h1] at k
              rw [decide_eq_false (show ¬ (1 : Int) < (x.length : Nat) by omega)]
              exact iteF ⟨_, rfl, x, _, rfl, it, by omega, k⟩
          · rw [decide_eq_false h48] at k ⊢
            exact iteF ⟨_, rfl, x, _, rfl, it, by omega, k⟩
        · rw [Bool.not_eq_true] at hd
          rw [hd] at hD
          have hw : wholeT x.cps.toList = none := by
            unfold wholeT
            rw [decide_eq_false c1, hd]
            rfl
          rw [hw] at k
          exact ⟨_, rfl, rfl, x, rfl, rfl, trivial, false, congrArg V.bl hD, iteT k⟩
      · rw [Bool.not_eq_true] at hA
        have hd : isDig x.cps.toList = false := by
          rw [← Bool.not_eq_true]
          intro z
          rw [dig_ascii z] at hA
          cases hA
        have hw : wholeT x.cps.toList = none := by
          unfold wholeT
          rw [decide_eq_false c1, hd]
          rfl
        rw [hw] at k
        exact iteF ⟨_, rfl, rfl, x, rfl, rfl, trivial, false, congrArg V.bl hA, iteT k⟩
end
end K04
namespace K04
open PySem PySem.Spec PyProof.Rows L2 RatM
/-! ### a ratio read off a word -/
theorem same_updR {H : Hp} {p : Addr} {o : HO} (h : H p = none) : Same H (upd H p o) := fun b x e => by
  rw [upd_ne (ne_of_none e h)]
  exact e
def piecesT (w : Str) : List (Option Nat) := (Txt.split (Txt.removeprefix w "-") "/").map fun x => wholeT x.cps.toList
def topT (w : Str) (n : Nat) : Int := if Txt.startswith w "-" = true then -(n : Int) else n
def chkT (w : Str) (t b : Int) : Option (Int × Int) := if textR (lowT t b) (lowB t b) = w then some (lowT t b, lowB t b) else none
def ratioT (w : Str) : Option (Int × Int) := match piecesT w with
  | [some n] => chkT w (topT w n) 1
  | [some n, some m] => if m = 0 then none else chkT w (topT w n) m
  | _ => none
theorem digitsVal_lt : ∀ (l : List Nat) (a k : Nat), a < 10 ^ k → isDig l = true → l.foldl (fun acc c => acc * 10 + (c - 48)) a < 10 ^ (k + l.length)
  | [], a, k, h, _ => h
  | c :: r, a, k, h, hd => by
    unfold isDig at hd
    rw [List.all_cons, Bool.and_eq_true] at hd
    have hc := hd.1
    simp only [Bool.and_eq_true, decide_eq_true_eq] at hc
    have z := digitsVal_lt r (a * 10 + (c - 48)) (k + 1) (by rw [Nat.pow_succ]; omega) (by unfold isDig; exact hd.2)
    rw [List.length_cons, show k + (r.length + 1) = k + 1 + r.length by omega]
    exact z
theorem wholeT_lt {l : List Nat} {n : Nat} (h : wholeT l = some n) : n < 10 ^ 60 := by
  unfold wholeT at h
  split at h
  · cases h
  · rename_i c
    split at h
    · cases h
    · cases h
      simp only [Bool.or_eq_true, Bool.not_eq_true', decide_eq_true_eq, not_or, Bool.not_eq_false, Bool.and_eq_true] at c
      have z := digitsVal_lt l 0 0 (by decide) c.2.1
      rw [Nat.zero_add] at z
      exact Nat.lt_of_lt_of_le z (Nat.pow_le_pow_right (by decide) (by omega))
theorem decS (x y : Str) : decide (V.str x = V.str y) = decide (x = y) := by
  by_cases h : x = y
  · rw [decide_eq_true h, decide_eq_true (congrArg V.str h)]
  · rw [decide_eq_false h, decide_eq_false fun z => h (V.str.inj z)]
theorem split_ne (x y : Str) : Txt.split x y ≠ [] := by
  unfold Txt.split
  split
  · exact List.cons_ne_nil _ _
  · split
    · exact List.cons_ne_nil _ _
    · unfold Builtin.Str.partsBetween
      cases Builtin.Str.occurrences x y 0 x.length (x.length + 1) <;> exact List.cons_ne_nil _ _
def spRIn (K : PySem.W.Frag) (C : Addr) : Sp := fun vs H Q _ => ∃ w : Str, vs = [.str w] ∧ w.length ≤ 100000 ∧ (Txt.removeprefix w "-").length ≤ 100000 ∧ (Txt.split (Txt.removeprefix w "-") "/").length ≤ 100000 ∧ (∀ x ∈ Txt.split (Txt.removeprefix w "-") "/", x.length ≤ 100000) ∧
  (∀ p q, ratioT w = some (p, q) → ∀ a H', Same H H' → RatAt H' a C p q → Q (.ref a) H') ∧ (ratioT w = none → ∀ H', Same H H' → Q .non H')
section
variable {P : Program} {w : World} {K : PySem.W.Frag} {mg : Str → Option Value} {base : Heap} {C BR : Addr}
theorem scRin : FnScope ["word", "pieces", "piece", "bottom", "top", "ratio"] ["word"] (defScope (top 36)) := ⟨rfl, rfl, rfl, by decide +kernel, rfl, by decide +kernel, by decide +kernel⟩
theorem ok_ratioIn {f fW fS : Addr} {fd fdW fdS : FuncData} (F : FnP K "ratio_in" (top 36) f fd) (R : RatK P w K mg base C BR) (T : Blt1 mg) (bA : mg "any" = none) (bs : mg "str" = none) (FW : FnP K "whole_in" (top 28) fW fdW) (gW : mg "whole_in" = some (.ref fW)) (hM : ∃ t, mg "_MOST_DIGITS" = some (.int 60 t))
    (MS : OwnM K C "__str__" fS) (GS : FnOk P w K mg base CX0 2 fS fdS ["self"] (spText K C)) (bS : Binds K fdS ["self"] []) : FnOk P w K mg base CX0 5 f fd ["word"] (spRIn K C) := by
  have GW : FnOk P w K mg base CX0 1 fW fdW ["word"] (spWhole K) := ok_whole FW T hM
  have bW : Binds K fdW ["word"] [] := FW.bindsN fun _ _ _ _ _ _ us hl => match us, hl with | [_], _ => rfl
  refine F.ok scRin (fun vs H Q E h => ?_) (fun cdv A outer s H vs Q E hr h => ?_)
  · obtain ⟨x, rfl, _⟩ := h
    rfl
  · obtain ⟨x, rfl, hz, hz1, hz2, hz3, ks, kn⟩ := h
    have hr4 : Room 4 _ := hr
    have hr1 : Room 1 _ := hr4.mono (by decide)
    refine ⟨_, PSs.nox (pss_cons (ps_setLc (i := 1) (own := [("piece", 2)]) (g := gName 2) (tt := tYes) rfl scRin.nd rfl rfl (sw_true rfl rfl rfl rfl) (pi_list (pe_bm PySem.F.plainAttrs_str PySem.F.slot_str_split PySem.F.type_str_split mt_split (pe_bm PySem.F.plainAttrs_str PySem.F.slot_str_removeprefix PySem.F.type_str_removeprefix mt_removeprefix (pv 0) (pa_cons pe_str pa_nil)) (pa_cons pe_str pa_nil)))
          (blkOk_by (N := ["word", "pieces", "piece", "bottom", "top", "ratio"]) (sc := defScope (top 36)) (by decide +kernel)) (fun _ _ _ _ _ => pg_name (i := 2) scRin.nd rfl (Or.inl rfl)) (fun _ _ _ _ _ => pts_nil) (fun _ _ _ _ _ => pe_call GW hr1 rfl gW FW.kp bW .nil pass0 (pa_cons (pv 2) pa_nil)))
      (pss_cons (ps_if (PW.pt (pw_or (pt_cmpR op_gt (pe_callB call_len_seq (by rfl) T.len PySem.boot_len (pa_cons (pv 1) pa_nil)) pe_int (nomark _)) (pw_or1 (pt_val (pe_callB (cr_any rfl) (by rfl) bA PyProof.Rows.boot_any (pa_cons (pe_lc (own := [("piece", 2)]) (g := gName 2) (tt := tYes) rfl scRin.nd (pi_list (pv 1))
          (blkOk_by (N := ["word", "pieces", "piece", "bottom", "top", "ratio"]) (sc := defScope (top 36)) (by decide +kernel)) (fun _ _ _ _ _ => pg_name (i := 2) scRin.nd rfl (Or.inl rfl)) (fun _ _ _ _ _ => pts_nil) (fun _ _ _ _ _ => pe_cmpR op_isN (pv 2) pe_non (nomark _))) pa_nil)))))) (pss_one (ps_ret pe_non)) pss_nil)
      (pss_cons (ps_set (i := 3) scRin.nd rfl (.inl rfl) (pe_ifExp (pt_cmpR op_eq (pe_callB call_len_seq (by rfl) T.len PySem.boot_len (pa_cons (pv 1) pa_nil)) pe_int (nomark _)) (pe_ix ix_list (pv 1) pe_int (fun _ _ => rfl)) pe_int))
      (pss_cons (ps_if (pt_cmpR op_eq (pv 3) pe_int (nomark _)) (pss_one (ps_ret pe_non)) pss_nil)
      (pss_cons (ps_set (i := 4) scRin.nd rfl (.inl rfl) (pe_ifExp (pt_val (pe_bm PySem.F.plainAttrs_str PySem.F.slot_str_startswith PySem.F.type_str_startswith mt_startswith (pv 0) (pa_cons pe_str pa_nil))) (pe_un un_neg (pe_ix ix_list (pv 1) pe_int (fun _ _ => rfl))) (pe_ix ix_list (pv 1) pe_int (fun _ _ => rfl))))
      (pss_cons (ps_set (i := 5) scRin.nd rfl (.inl rfl) (pe_rat2 R hr4 (E := E0) passL (by rfl) (pa_cons (pv 4) (pa_cons (pv 3) pa_nil))))
      (pss_one (ps_ret (pe_ifExp (pt_cmpR op_eq (pe_callTy (call_ownStr MS GS hr4 bS (E := E0) pass0) (by rfl) bs PyProof.Rows.boot_str (pa_cons (pv 5) pa_nil)) (pv 0) (nomark _)) (pv 5) pe_non))))))))), ?_⟩
    have hs : ∀ {n : Nat}, n ≤ 100000 → n ≤ sizeLine := fun h => by rw [sizeLine_eq]; omega
    refine ⟨_, rfl, rfl, x, _, rfl, rfl, hs hz, rfl, _, _, rfl, rfl, rfl, by rw [sizeLine_eq]; omega, fun p np => ⟨_, rfl, ⟨_, SqL.of upd_same⟩, fun D nD => ?_⟩⟩
    have s1 := same_updR (o := .lst ((Txt.split (Txt.removeprefix x "-") "/").map V.str)) np
    have hpD : p ≠ D := fun z => by rw [← z, upd_same] at nD; cases nD
    have lenP : (piecesT x).length = (Txt.split (Txt.removeprefix x "-") "/").length := List.length_map ..
    refine lc_list (K := K) (a := p) (xs := (Txt.split (Txt.removeprefix x "-") "/").map V.str) (fun j H2 => Same H H2 ∧ H2 p = some (.lst ((Txt.split (Txt.removeprefix x "-") "/").map V.str)) ∧ H2 D = some (.lst (((piecesT x).map optI).take j)))
      ⟨s1.trans (same_updR nD), by rw [upd_ne hpD]; exact upd_same, upd_same⟩ (fun j H2 _ q => SqL.of q.2.1) ?_ ?_
    · rintro j y H2 hy ⟨s2, hp2, hD2⟩
      rw [List.getElem?_map] at hy
      obtain ⟨z, hz0, rfl⟩ : ∃ z, (Txt.split (Txt.removeprefix x "-") "/")[j]? = some z ∧ y = V.str z := by
        cases e : (Txt.split (Txt.removeprefix x "-") "/")[j]? with
        | none => rw [e] at hy; cases hy
        | some z => rw [e] at hy; exact ⟨z, rfl, (Option.some.inj hy).symm⟩
      refine ⟨rfl, ?_⟩
      unfold tYes
      dsimp only
      rw [if_pos rfl]
      refine ⟨_, rfl, z, rfl, hs (hz3 z (List.mem_of_getElem? hz0)), _, hD2, ?_, fun b o q => ?_, ?_, ?_⟩
      · rw [List.length_take, List.length_map, lenP, sizeLine_eq]; omega
      · have nD0 : H D = none := s1.free nD
        rw [upd_ne (ne_of_none q nD0)]; exact s2 b o q
      · rw [upd_ne hpD]; exact hp2
      · rw [upd_same, List.take_add_one, List.getElem?_map]
        have e : (piecesT x)[j]? = some (wholeT z.cps.toList) := by unfold piecesT; rw [List.getElem?_map, hz0]; rfl
        rw [e]
        rfl
    · rintro H2 ⟨s2, _, hD2⟩
      have lenQ : ((Txt.split (Txt.removeprefix x "-") "/").map V.str).length = ((piecesT x).map optI).length := by rw [List.length_map, List.length_map, lenP]
      rw [lenQ, List.take_length] at hD2
      have ne := split_ne (Txt.removeprefix x "-") "/"
      have nep : piecesT x ≠ [] := fun z => ne (List.map_eq_nil_iff.mp z)
      have lenO : ((piecesT x).map optI).length = (piecesT x).length := List.length_map ..
      have lb : (piecesT x).length ≤ 100000 := by omega
      have nb : ∀ n : Nat, some n ∈ piecesT x → (n : Int).natAbs < 2 ^ 1900 := fun n hn => by
        unfold piecesT at hn
        obtain ⟨z, _, hz⟩ := List.mem_map.mp hn
        have y := wholeT_lt hz
        exact Nat.lt_trans (show (n : Int).natAbs < 10 ^ 60 by omega) (by decide +kernel)
      unfold ratioT at ks kn
      generalize piecesT x = ps at hD2 nep lenO lb ks kn nb ⊢
      clear lenQ lenP
      refine ⟨_, rfl, _, _, rfl, .inl (SqL.of hD2), _, _, rfl, rfl, decide ((2 : Int) < ((ps.map optI).length : Nat)), rfl, ?_⟩
      by_cases c2 : 2 < ps.length
      · rw [decide_eq_true (show (2 : Int) < ((ps.map optI).length : Nat) by omega)]
        refine iteT (kn ?_ _ s2)
        match ps, c2 with
        | none :: _ :: _ :: _, _ => rfl
        | some _ :: none :: _ :: _, _ => rfl
        | some _ :: some _ :: _ :: _, _ => rfl
      · rw [decide_eq_false (show ¬ (2 : Int) < ((ps.map optI).length : Nat) by omega)]
        refine iteF ⟨_, rfl, D, rfl, ⟨_, SqL.of hD2⟩, fun D2 nD2 => ?_⟩
        have hDD : D ≠ D2 := fun z => by rw [← z, hD2] at nD2; cases nD2
        refine lc_list (K := K) (a := D) (xs := ps.map optI) (fun j H3 => Same H2 H3 ∧ H3 D2 = some (.lst (((ps.map Option.isNone).map V.bl).take j))) ⟨same_updR nD2, upd_same⟩ (fun j H3 _ q => SqL.of (q.1 _ _ hD2)) ?_ ?_
        · rintro j y H3 hy ⟨s3, hD3⟩
          rw [List.getElem?_map] at hy
          obtain ⟨z, hz0, rfl⟩ : ∃ z, ps[j]? = some z ∧ y = optI z := by
            cases e : ps[j]? with
            | none => rw [e] at hy; cases hy
            | some z => rw [e] at hy; exact ⟨z, rfl, (Option.some.inj hy).symm⟩
          refine ⟨rfl, ?_⟩
          unfold tYes
          dsimp only
          rw [if_pos rfl]
          refine ⟨_, rfl, rfl, _, hD3, ?_, fun b o q => ?_, ?_⟩
          · rw [List.length_take, List.length_map, List.length_map, sizeLine_eq]; omega
          · rw [upd_ne (ne_of_none q nD2)]; exact s3 b o q
          · rw [upd_same, List.take_add_one, List.getElem?_map, List.getElem?_map, hz0]
            have e : decide (optI z = V.non) = z.isNone := by cases z <;> rfl
            rw [e]
            rfl
        · rintro H3 ⟨s3, hD3⟩
          have lenB : (ps.map optI).length = ((ps.map Option.isNone).map V.bl).length := by simp
          rw [lenB, List.take_length] at hD3
          refine ⟨D2, ps.map Option.isNone, rfl, SqL.of hD3, _, rfl, ?_⟩
          have hD4 := s3 _ _ hD2
          have s23 := s2.trans s3
          clear hD3 hD2 nD2 s2 s3
          have one0 : (1 : Int) ≠ 0 := by decide
          have one1 : Sz 1 := by decide +kernel
          match ps, nep, c2, ks, kn, hD4, nb with
          | [], nep, _, _, _, _, _ => exact absurd rfl nep
          | u :: v :: y :: r, _, c2, _, _, _, _ => exact absurd (show 2 < (u :: v :: y :: r).length by simp) c2
          | [none], _, _, ks, kn, hD4, _ => exact iteT (kn rfl _ s23)
          | [none, _], _, _, ks, kn, hD4, _ => exact iteT (kn rfl _ s23)
          | [some _, none], _, _, ks, kn, hD4, _ => exact iteT (kn rfl _ s23)
          | [some n], _, _, ks, kn, hD4, nb =>
            have at0 : atI [V.int (n : Nat)] 0 = some (.int (n : Nat)) := rfl
            refine iteF ⟨_, rfl, _, _, rfl, .inl (SqL.of hD4), rfl, false, congrArg V.bl ((decI ..).trans (by simp)), iteF ?_⟩
            refine ⟨_, rfl, rfl, false, congrArg V.bl ((decI ..).trans (by simp)), iteF ?_⟩
            refine ⟨_, rfl, rfl, x, _, rfl, rfl, Txt.startswith x "-", rfl, ?_⟩
            have tz : (topT x n).natAbs < 2 ^ 1900 := by
              have z := nb n List.mem_cons_self
              have e : (topT x n).natAbs = n := by unfold topT; split <;> simp
              rw [e]
              simpa using z
            have go : ∀ b, Txt.startswith x "-" = b → (if b = true then -(n : Int) else (n : Int)) = topT x n := fun b e => by unfold topT; rw [e]
            cases hb : Txt.startswith x "-" with
            | true =>
              have et := go true hb
              rw [if_pos rfl] at et
              refine iteT ⟨_, rfl, D, _, 0, _, rfl, rfl, SqL.of hD4, at0, _, rfl, ?_⟩
              dsimp only
              rw [et]
              refine ⟨_, rfl, _, rfl, _, _, rfl, .inl ⟨topT x n, 1, rfl, rfl, one0, sz_up tz, sz_up one1, fun a H5 s5 ra => ?_⟩⟩
              have sa : Sz (lowT (topT x n) 1) := Nat.lt_of_le_of_lt (lowT_le one0) tz
              have sb : Sz (lowB (topT x n) 1) := Nat.lt_of_le_of_lt (lowB_le one0) one1
              refine ⟨_, rfl, a, rfl, ra.ins, a, _, _, rfl, ra, sa, sb, _, rfl, _, rfl, rfl, decide (textR (lowT (topT x n) 1) (lowB (topT x n) 1) = x), congrArg V.bl (decS ..), ?_⟩
              by_cases e : textR (lowT (topT x n) 1) (lowB (topT x n) 1) = x
              · rw [decide_eq_true e]
                exact iteT ⟨_, rfl, ks _ _ ((show chkT x (topT x n) 1 = _ from if_pos e)) a H5 (s23.trans s5) ra⟩
              · rw [decide_eq_false e]
                exact iteF (kn ((show chkT x (topT x n) 1 = _ from if_neg e)) H5 (s23.trans s5))
            | false =>
              have et := go false hb
              rw [if_neg Bool.false_ne_true] at et
              refine iteF ⟨_, rfl, D, _, 0, _, rfl, rfl, SqL.of hD4, at0, ?_⟩
              dsimp only
              rw [et]
              refine ⟨_, rfl, _, rfl, _, _, rfl, .inl ⟨topT x n, 1, rfl, rfl, one0, sz_up tz, sz_up one1, fun a H5 s5 ra => ?_⟩⟩
              have sa : Sz (lowT (topT x n) 1) := Nat.lt_of_le_of_lt (lowT_le one0) tz
              have sb : Sz (lowB (topT x n) 1) := Nat.lt_of_le_of_lt (lowB_le one0) one1
              refine ⟨_, rfl, a, rfl, ra.ins, a, _, _, rfl, ra, sa, sb, _, rfl, _, rfl, rfl, decide (textR (lowT (topT x n) 1) (lowB (topT x n) 1) = x), congrArg V.bl (decS ..), ?_⟩
              by_cases e : textR (lowT (topT x n) 1) (lowB (topT x n) 1) = x
              · rw [decide_eq_true e]
                exact iteT ⟨_, rfl, ks _ _ ((show chkT x (topT x n) 1 = _ from if_pos e)) a H5 (s23.trans s5) ra⟩
              · rw [decide_eq_false e]
                exact iteF (kn ((show chkT x (topT x n) 1 = _ from if_neg e)) H5 (s23.trans s5))
          | [some n, some m], _, _, ks, kn, hD4, nb =>
            have at0 : atI [V.int (n : Nat), V.int (m : Nat)] 0 = some (.int (n : Nat)) := rfl
            have at1 : atI [V.int (n : Nat), V.int (m : Nat)] 1 = some (.int (m : Nat)) := rfl
            refine iteF ⟨_, rfl, _, _, rfl, .inl (SqL.of hD4), rfl, true, congrArg V.bl ((decI ..).trans (by simp)), iteT ?_⟩
            refine ⟨_, rfl, D, _, 1, _, rfl, rfl, SqL.of hD4, at1, ?_⟩
            refine ⟨_, rfl, rfl, decide ((m : Int) = 0), congrArg V.bl (decI ..), ?_⟩
            by_cases em : m = 0
            · rw [decide_eq_true (show (m : Int) = 0 by omega)]
              exact iteT (kn (if_pos em) _ s23)
            · rw [decide_eq_false (show ¬ (m : Int) = 0 by omega)]
              have mz : (m : Int) ≠ 0 := by omega
              have ms : Sz (m : Int) := nb m (List.mem_cons_of_mem _ List.mem_cons_self)
              refine iteF ?_
              refine ⟨_, rfl, rfl, x, _, rfl, rfl, Txt.startswith x "-", rfl, ?_⟩
              have tz : (topT x n).natAbs < 2 ^ 1900 := by
                have z := nb n List.mem_cons_self
                have e : (topT x n).natAbs = n := by unfold topT; split <;> simp
                rw [e]
                simpa using z
              have go : ∀ b, Txt.startswith x "-" = b → (if b = true then -(n : Int) else (n : Int)) = topT x n := fun b e => by unfold topT; rw [e]
              cases hb : Txt.startswith x "-" with
              | true =>
                have et := go true hb
                rw [if_pos rfl] at et
                refine iteT ⟨_, rfl, D, _, 0, _, rfl, rfl, SqL.of hD4, at0, _, rfl, ?_⟩
                dsimp only
                rw [et]
                refine ⟨_, rfl, _, rfl, _, _, rfl, .inl ⟨topT x n, (m : Int), rfl, rfl, mz, sz_up tz, sz_up ms, fun a H5 s5 ra => ?_⟩⟩
                have sa : Sz (lowT (topT x n) (m : Int)) := Nat.lt_of_le_of_lt (lowT_le mz) tz
                have sb : Sz (lowB (topT x n) (m : Int)) := Nat.lt_of_le_of_lt (lowB_le mz) ms
                refine ⟨_, rfl, a, rfl, ra.ins, a, _, _, rfl, ra, sa, sb, _, rfl, _, rfl, rfl, decide (textR (lowT (topT x n) (m : Int)) (lowB (topT x n) (m : Int)) = x), congrArg V.bl (decS ..), ?_⟩
                by_cases e : textR (lowT (topT x n) (m : Int)) (lowB (topT x n) (m : Int)) = x
                · rw [decide_eq_true e]
                  exact iteT ⟨_, rfl, ks _ _ ((show (if m = 0 then none else chkT x (topT x n) m) = _ from (if_neg em).trans (if_pos e))) a H5 (s23.trans s5) ra⟩
                · rw [decide_eq_false e]
                  exact iteF (kn ((show (if m = 0 then none else chkT x (topT x n) m) = _ from (if_neg em).trans (if_neg e))) H5 (s23.trans s5))
              | false =>
                have et := go false hb
                rw [if_neg Bool.false_ne_true] at et
                refine iteF ⟨_, rfl, D, _, 0, _, rfl, rfl, SqL.of hD4, at0, ?_⟩
                dsimp only
                rw [et]
                refine ⟨_, rfl, _, rfl, _, _, rfl, .inl ⟨topT x n, (m : Int), rfl, rfl, mz, sz_up tz, sz_up ms, fun a H5 s5 ra => ?_⟩⟩
                have sa : Sz (lowT (topT x n) (m : Int)) := Nat.lt_of_le_of_lt (lowT_le mz) tz
                have sb : Sz (lowB (topT x n) (m : Int)) := Nat.lt_of_le_of_lt (lowB_le mz) ms
                refine ⟨_, rfl, a, rfl, ra.ins, a, _, _, rfl, ra, sa, sb, _, rfl, _, rfl, rfl, decide (textR (lowT (topT x n) (m : Int)) (lowB (topT x n) (m : Int)) = x), congrArg V.bl (decS ..), ?_⟩
                by_cases e : textR (lowT (topT x n) (m : Int)) (lowB (topT x n) (m : Int)) = x
                · rw [decide_eq_true e]
                  exact iteT ⟨_, rfl, ks _ _ ((show (if m = 0 then none else chkT x (topT x n) m) = _ from (if_neg em).trans (if_pos e))) a H5 (s23.trans s5) ra⟩
                · rw [decide_eq_false e]
                  exact iteF (kn ((show (if m = 0 then none else chkT x (topT x n) m) = _ from (if_neg em).trans (if_neg e))) H5 (s23.trans s5))
end
end K04
namespace K04
open PySem PySem.Spec PyProof.Rows L2 RatM
abbrev rdM (i : Nat) : Stmt := inClass (top 26) i
/-- what the written part tells of the class of readers -/
structure RdC (K : PySem.W.Frag) (C : Addr) : Prop where
  cls : Cls K C
  no : ∀ f ∈ ([("words" : Str), ("at" : Str), ("end" : Str)] : List Str), NoAttr K C f
def rdF (l : Addr) (k n : Int) : List (Str × V) := [("words", .ref l), ("at", .int k), ("end", .int n)]
/-- a reader of the words at l stands at a -/
def RdAt (H : Hp) (a C l : Addr) (k n : Int) : Prop := ∃ dx, H a = some (.ins C dx (rdF l k n))
def spRdI (K : PySem.W.Frag) (C : Addr) : Sp := fun vs H Q _ => ∃ (a l dx : Addr) (xs : List V), vs = [.ref a, .ref l] ∧ l ≠ a ∧ SqL K H l xs ∧ H a = some (.ins C dx []) ∧ ∀ H' : Hp, (∀ b, b ≠ a → H' b = H b) → RdAt H' a C l 0 xs.length → Q .non H'
def spPeek (K : PySem.W.Frag) (C : Addr) : Sp := fun vs H Q _ => ∃ (a l : Addr) (k : Nat) (ws : List Str), vs = [.ref a] ∧ RdAt H a C l k ws.length ∧ H l = some (.lst (ws.map V.str)) ∧ Q (.str (ws.getD k "")) H
def spStep (C : Addr) : Sp := fun vs H Q _ => ∃ (a l : Addr) (k n : Int), vs = [.ref a] ∧ RdAt H a C l k n ∧ ∀ H' : Hp, (∀ b, b ≠ a → H' b = H b) → RdAt H' a C l (k + 1) n → Q .non H'
def spRefuse (C BT : Addr) : Sp := fun vs H Q E => ∃ (a l : Addr) (k n : Int), vs = [.ref a] ∧ RdAt H a C l k n ∧ Rz H E BT [("word", .int k), ("line", .int 0)]
def spFinish (C BT : Addr) : Sp := fun vs H Q E => ∃ (a l : Addr) (k n : Int), vs = [.ref a] ∧ RdAt H a C l k n ∧ (k < n → Rz H E BT [("word", .int k), ("line", .int 0)]) ∧ (¬ k < n → Q .non H)
section
variable {P : Program} {w : World} {K : PySem.W.Frag} {mg : Str → Option Value} {base : Heap} {C BT : Addr}
theorem scRdI : FnScope ["self", "words"] ["self", "words"] (defScope (rdM 0)) := ⟨rfl, rfl, rfl, by decide +kernel, rfl, by decide +kernel, by decide +kernel⟩
theorem ok_rdInit {f : Addr} {fd : FuncData} (F : MtP K "__init__" "Reader.__init__" (rdM 0) f fd) (T : RdC K C) (bl : mg "len" = none) : FnOk P w K mg base CX0 1 f fd ["self", "words"] (spRdI K C) := by
  refine F.ok scRdI (fun vs H Q E h => ?_) (fun cdv A outer s H vs Q E hr h => ?_)
  · obtain ⟨a, l, dx, xs, rfl, _⟩ := h
    rfl
  · obtain ⟨a, l, dx, xs, rfl, nl, hl, ha, k⟩ := h
    refine ⟨_, PSs.nox (pss_cons (ps_fld (pv 0) (pv 1) (by rfl)) (pss_cons (ps_fld (pv 0) pe_int (by rfl)) (pss_one (ps_fld (pv 0) (pe_callB call_len_seq (by rfl) bl PySem.boot_len (pa_cons (pv 1) pa_nil)) (by rfl))))), ?_⟩
    have seq : ∀ {o : HO}, SqL K (upd H a o) l xs := fun {o} => by
      rcases hl with h | h
      · rcases h with h | ⟨u, h⟩
        · exact .inl (.inl (by rw [upd_ne nl]; exact h))
        · exact .inl (.inr ⟨u, by rw [upd_ne nl]; exact h⟩)
      · exact .inr h
    have seq2 : ∀ {o o2 : HO}, SqL K (upd (upd H a o) a o2) l xs := fun {o o2} => by
      rcases hl with h | h
      · rcases h with h | ⟨u, h⟩
        · exact .inl (.inl (by rw [upd_ne nl, upd_ne nl]; exact h))
        · exact .inl (.inr ⟨u, by rw [upd_ne nl, upd_ne nl]; exact h⟩)
      · exact .inr h
    refine ⟨_, rfl, _, rfl, a, C, dx, _, rfl, ha, T.cls, T.no "words" (by simp), by show 0 < 1000; decide, ?_⟩
    refine ⟨_, rfl, a, C, dx, _, rfl, upd_same, T.cls, T.no "at" (by simp), by show 1 < 1000; decide, ?_⟩
    refine ⟨_, rfl, _, _, rfl, .inl seq2, _, rfl, a, C, dx, _, rfl, upd_same, T.cls, T.no "end" (by simp), by show 2 < 1000; decide, ?_⟩
    refine k _ (fun b hb => ?_) ⟨dx, upd_same⟩
    rw [upd_ne hb, upd_ne hb, upd_ne hb]
theorem scPk : FnScope ["self"] ["self"] (defScope (rdM 1)) := ⟨rfl, rfl, rfl, by decide +kernel, rfl, by decide +kernel, by decide +kernel⟩
theorem ok_peek {f : Addr} {fd : FuncData} (F : MtP K "peek" "Reader.peek" (rdM 1) f fd) (T : RdC K C) : FnOk P w K mg base CX0 1 f fd ["self"] (spPeek K C) := by
  refine F.ok scPk (fun vs H Q E h => ?_) (fun cdv A outer s H vs Q E hr h => ?_)
  · obtain ⟨a, l, k, ws, rfl, _⟩ := h
    rfl
  · obtain ⟨a, l, n, ws, rfl, ⟨dx, ea⟩, hl, k⟩ := h
    have nw := T.no "words" (by simp)
    have na := T.no "at" (by simp)
    have ne := T.no "end" (by simp)
    refine ⟨_, PSs.nox (pss_one (ps_ret (pe_ifExp (pt_cmpR op_lt (pe_fld (pv 0) rfl) (pe_fld (pv 0) rfl) (nomark _)) (pe_ix ix_list (pe_fld (pv 0) rfl) (pe_fld (pv 0) rfl) (fun _ _ => rfl)) pe_str))), ?_⟩
    refine ⟨_, rfl, a, C, dx, _, _, rfl, ea, T.cls, na, rfl, _, rfl, a, C, dx, _, _, rfl, ea, T.cls, ne, rfl, _, _, rfl, rfl, decide ((n : Int) < (ws.length : Int)), rfl, ?_⟩
    by_cases c : n < ws.length
    · rw [decide_eq_true (show (n : Int) < (ws.length : Int) by omega)]
      refine iteT ⟨_, rfl, a, C, dx, _, _, rfl, ea, T.cls, nw, rfl, _, rfl, a, C, dx, _, _, rfl, ea, T.cls, na, rfl, l, _, _, V.str ws[n], rfl, rfl, SqL.of hl, atI_nat (by rw [List.getElem?_map, List.getElem?_eq_getElem c]; rfl), ?_⟩
      rw [List.getD_eq_getElem?_getD, List.getElem?_eq_getElem c] at k
      exact k
    · rw [decide_eq_false (show ¬ (n : Int) < (ws.length : Int) by omega)]
      rw [List.getD_eq_getElem?_getD, List.getElem?_eq_none (by omega)] at k
      exact iteF k
theorem scRf : FnScope ["self"] ["self"] (defScope (rdM 3)) := ⟨rfl, rfl, rfl, by decide +kernel, rfl, by decide +kernel, by decide +kernel⟩
theorem ok_refuse {f : Addr} {fd : FuncData} (F : MtP K "refuse" "Reader.refuse" (rdM 3) f fd) (T : RdC K C) (M : ErrN P w K mg base "BadText" BT ["line", "word"]) : FnOk P w K mg base (L2.CX P w) 3 f fd ["self"] (spRefuse C BT) := by
  refine F.ok scRf (fun vs H Q E h => ?_) (fun cdv A outer s H vs Q E hr h => ?_)
  · obtain ⟨a, l, k, n, rfl, _⟩ := h
    rfl
  · obtain ⟨a, l, k, n, rfl, ⟨dx, ea⟩, rz⟩ := h
    have hr2 : Room 2 _ := hr
    refine ⟨_, pss_one (ps_raiseN rfl M hr2 (takes_of rfl rfl rfl rfl) (by rfl) (pa_cons pe_int (pa_cons (pe_fld (pv 0) rfl) pa_nil))), ?_⟩
    exact ⟨_, rfl, a, C, dx, _, _, rfl, ea, T.cls, T.no "at" (by simp), rfl, raiseN M rfl (by decide) rz⟩
theorem scFi : FnScope ["self"] ["self"] (defScope (rdM 6)) := ⟨rfl, rfl, rfl, by decide +kernel, rfl, by decide +kernel, by decide +kernel⟩
theorem ok_finish {f fR : Addr} {fd fdR : FuncData} (F : MtP K "finish" "Reader.finish" (rdM 6) f fd) (T : RdC K C) (MR : Meth K C "refuse" fR) (GR : FnOk P w K mg base (L2.CX P w) 3 fR fdR ["self"] (spRefuse C BT)) (bR : Binds K fdR ["self"] []) : FnOk P w K mg base (L2.CX P w) 4 f fd ["self"] (spFinish C BT) := by
  refine F.ok scFi (fun vs H Q E h => ?_) (fun cdv A outer s H vs Q E hr h => ?_)
  · obtain ⟨a, l, k, n, rfl, _⟩ := h
    rfl
  · obtain ⟨a, l, k, n, rfl, ⟨dx, ea⟩, rz, kq⟩ := h
    have hr3 : Room 3 _ := hr
    have na := T.no "at" (by simp)
    have ne := T.no "end" (by simp)
    refine ⟨_, pss_one (ps_if (pt_cmpR op_lt (pe_fld (pv 0) rfl) (pe_fld (pv 0) rfl) (nomark _)) (pss_one (ps_expr (pe_meth0 (pv 0) T.cls MR GR hr3 bR .nil (passE (takes_of rfl rfl rfl rfl))))) pss_nil), ?_⟩
    refine ⟨_, rfl, a, C, dx, _, _, rfl, ea, T.cls, na, rfl, _, rfl, a, C, dx, _, _, rfl, ea, T.cls, ne, rfl, _, _, rfl, rfl, decide (k < n), rfl, ?_⟩
    by_cases c : k < n
    · rw [decide_eq_true c]
      exact iteT ⟨_, rfl, a, dx, _, rfl, ea, rfl, a, l, k, n, rfl, ⟨dx, ea⟩, rz c⟩
    · rw [decide_eq_false c]
      exact iteF (kq c)
end
end K04
namespace K04
open PySem PySem.Spec PyProof.Rows L2 RatM
def wordsT (w : Str) : List Str := Txt.split w " "
def spRdOf (K : PySem.W.Frag) (C BT : Addr) : Sp := fun vs H Q E => ∃ x : V, vs = [x] ∧
  ((∃ w, x = .str w ∧ w.length ≤ 100000 ∧ ∀ a l H', Same H H' → RdAt H' a C l 0 (wordsT w).length → H' l = some (.lst ((wordsT w).map V.str)) → H a = none → l ≠ a → Q (.ref a) H') ∨
   (∃ t, TyX K H x t ∧ PySem.W.kitOne K t (.type "str") = some false ∧ Rz H E BT [("word", .int 0), ("line", .int 0)]))
section
variable {P : Program} {w : World} {K : PySem.W.Frag} {mg : Str → Option Value} {base : Heap} {C BR BT RC : Addr}
theorem scSp : FnScope ["self"] ["self"] (defScope (rdM 2)) := ⟨rfl, rfl, rfl, by decide +kernel, rfl, by decide +kernel, by decide +kernel⟩
theorem ok_step {f : Addr} {fd : FuncData} (F : MtP K "step" "Reader.step" (rdM 2) f fd) (T : RdC K C) : FnOk P w K mg base CX0 1 f fd ["self"] (spStep C) := by
  refine F.ok scSp (fun vs H Q E h => ?_) (fun cdv A outer s H vs Q E hr h => ?_)
  · obtain ⟨a, l, k, n, rfl, _⟩ := h
    rfl
  · obtain ⟨a, l, k, n, rfl, ⟨dx, ea⟩, kq⟩ := h
    refine ⟨_, PSs.nox (pss_one (ps_fldaug (pv 0) pe_int in_add)), ?_⟩
    refine ⟨_, rfl, a, C, dx, _, _, rfl, ea, T.cls, T.no "at" (by simp), rfl, _, _, rfl, rfl, dx, _, ea, by show 3 < 1000; decide, ?_⟩
    exact kq _ (fun b hb => by rw [upd_ne hb]) ⟨dx, upd_same⟩
theorem scRo : FnScope ["text"] ["text"] (defScope (top 27)) := ⟨rfl, rfl, rfl, by decide +kernel, rfl, by decide +kernel, by decide +kernel⟩
theorem ok_readerOf {f fI : Addr} {fd fdI : FuncData} (F : FnP K "reader_of" (top 27) f fd) (M : ErrN P w K mg base "BadText" BT ["line", "word"]) (bi : mg "isinstance" = none) (bs : mg "str" = none) (MR : Mk K C fI) (gR : mg "Reader" = some (.ref C))
    (GI : FnOk P w K mg base CX0 1 fI fdI ["self", "words"] (spRdI K C)) (bI : Binds K fdI ["self", "words"] []) : FnOk P w K mg base (L2.CX P w) 3 f fd ["text"] (spRdOf K C BT) := by
  refine F.ok scRo (fun vs H Q E h => ?_) (fun cdv A outer s H vs Q E hr h => ?_)
  · obtain ⟨x, rfl, _⟩ := h
    rfl
  · obtain ⟨x, rfl, h⟩ := h
    have hr2 : Room 2 _ := hr
    refine ⟨_, pss_cons (ps_if (pt_not (pt_val (pe_callB call_isi (by rfl) bi (by decide +kernel) (pa_cons (pv 0) (pa_cons (pe_bltn (v := .ty "str") (by rfl) bs (by decide +kernel) rfl) pa_nil))))) (pss_one (ps_raiseN rfl M hr2 (takes_of rfl rfl rfl rfl) (by rfl) (pa_cons pe_int (pa_cons pe_int pa_nil)))) pss_nil)
      (pss_one (ps_ret (pe_make MR GI hr2 rfl gR bI .nil (E := E0) pass0 (pa_cons (pe_bm PySem.F.plainAttrs_str PySem.F.slot_str_split PySem.F.type_str_split mt_split (pv 0) (pa_cons pe_str pa_nil)) pa_nil)))), ?_⟩
    rcases h with ⟨x, rfl, hz, k⟩ | ⟨t, ty, kt, rz⟩
    · refine ⟨_, rfl, _, _, _, _, true, rfl, .ty "str", .base (.str x), kit_ty (by decide +kernel), _, rfl, iteF ?_⟩
      refine ⟨_, rfl, rfl, x, _, rfl, rfl, rfl, by rw [sizeLine_eq]; omega, fun l nl a dx na nd ne => ?_⟩
      have hla : l ≠ a := fun z => by rw [z, upd_same] at na; cases na
      have hld : l ≠ dx := fun z => by rw [z, upd_same] at nd; cases nd
      have hl : upd (upd (upd H l (.lst ((Txt.split x " ").map V.str))) dx (.own a)) a (.ins C dx []) l = some (.lst ((Txt.split x " ").map V.str)) := by rw [upd_ne hla, upd_ne hld, upd_same]
      refine ⟨a, l, dx, (Txt.split x " ").map V.str, rfl, hla, SqL.of hl, upd_same, fun H' off ra => ⟨rfl, ?_⟩⟩
      have na0 : H a = none := (same_updR nl).free na
      have nd0 : H dx = none := (same_updR nl).free nd
      refine k a l H' (fun b o e => ?_) ?_ ?_ na0 hla
      · have h1 : b ≠ a := ne_of_none e na0
        rw [off b h1, upd_ne h1, upd_ne (ne_of_none e nd0), upd_ne (ne_of_none e nl)]
        exact e
      · rw [List.length_map] at ra
        exact ra
      · rw [off l hla]
        exact hl
    · refine ⟨_, rfl, _, _, _, _, false, rfl, .ty "str", ty, kt, _, rfl, iteT ?_⟩
      exact raiseN M rfl (by decide) rz
end
end K04
namespace K04
open PySem PySem.Spec PyProof.Rows L2 RatM
theorem topT_abs (w : Str) (n : Nat) : (topT w n).natAbs = n := by
  unfold topT
  split <;> simp
theorem chkT_ok {w : Str} {t b p q : Int} (hb : b ≠ 0) (st : Sz t) (sb : Sz b) (h : chkT w t b = some (p, q)) : 0 < q ∧ Int.gcd p q = 1 ∧ Sz p ∧ Sz q ∧ textR p q = w := by
  unfold chkT at h
  split at h
  · rename_i e
    cases h
    exact ⟨lowB_pos hb, low_gcd hb, Nat.lt_of_le_of_lt (lowT_le hb) st, Nat.lt_of_le_of_lt (lowB_le hb) sb, e⟩
  · cases h
theorem ratioT_ok {w : Str} {p q : Int} (h : ratioT w = some (p, q)) : 0 < q ∧ Int.gcd p q = 1 ∧ Sz p ∧ Sz q ∧ textR p q = w := by
  have nb : ∀ n : Nat, some n ∈ piecesT w → n < 2 ^ 1900 := fun n hn => by
    unfold piecesT at hn
    obtain ⟨z, _, hz⟩ := List.mem_map.mp hn
    exact Nat.lt_trans (wholeT_lt hz) (by decide +kernel)
  unfold ratioT at h
  generalize piecesT w = ps at h nb
  have st : ∀ n : Nat, n < 2 ^ 1900 → Sz (topT w n) := fun n hn => by
    show (topT w n).natAbs < 2 ^ 1900
    rw [topT_abs]
    exact hn
  match ps, h, nb with
  | [], h, _ => cases h
  | none :: _, h, _ => cases h
  | [some _, none], h, _ => cases h
  | some _ :: none :: _ :: _, h, _ => cases h
  | some _ :: some _ :: _ :: _, h, _ => cases h
  | [some n], h, nb => exact chkT_ok (by decide) (st n (nb n List.mem_cons_self)) (by decide +kernel) h
  | [some n, some m], h, nb =>
    have h : (if m = 0 then none else chkT w (topT w n) m) = some (p, q) := h
    by_cases e : m = 0
    · rw [if_pos e] at h
      cases h
    · rw [if_neg e] at h
      refine chkT_ok (by omega) (st n (nb n List.mem_cons_self)) ?_ h
      have z := nb m (List.mem_cons_of_mem _ List.mem_cons_self)
      show (m : Int).natAbs < 2 ^ 1900
      rw [Int.natAbs_natCast]
      exact z
/-- Ratio.read(x) -/
def spRead (K : PySem.W.Frag) (C BT : Addr) : Sp := fun vs H Q E => ∃ x : V, vs = [.ref C, x] ∧
  ((∃ w, x = .str w ∧ w.length ≤ 100000 ∧ (let u := (wordsT w).getD 0 ""
      u.length ≤ 100000 ∧ (Txt.removeprefix u "-").length ≤ 100000 ∧ (Txt.split (Txt.removeprefix u "-") "/").length ≤ 100000 ∧ (∀ x ∈ Txt.split (Txt.removeprefix u "-") "/", x.length ≤ 100000) ∧
      (ratioT u = none → Rz H E BT [("word", .int 0), ("line", .int 0)]) ∧
      (∀ p q, ratioT u = some (p, q) → 1 < (wordsT w).length → Rz H E BT [("word", .int 1), ("line", .int 0)]) ∧
      (∀ p q, ratioT u = some (p, q) → ¬ 1 < (wordsT w).length → ∀ a H', Same H H' → RatAt H' a C p q → Q (.ref a) H'))) ∨
   (∃ t, TyX K H x t ∧ PySem.W.kitOne K t (.type "str") = some false ∧ Rz H E BT [("word", .int 0), ("line", .int 0)]))
/-- cls(x, y), the class of ratios held by the i-th slot -/
theorem pe_rat2L {X : Cx} {C BR : Addr} {E : XK} {i : Nat} {x : Str} {p pos : Pos} {e1 e2 : Expr} {ta : TA} (R : RatK X.prog X.w X.K X.mg X.base C BR) (hr : Room 4 X.A) (hx : Passes (L2.CX X.prog X.w) X E) (hN : X.N[i]? = some x) (hv : Vis X.env.scope x) (ha : PA X [e1, e2] ta)
    (hdb : (x == ("__debug__" : Str)) = false := by decide) (hcd : (x == ("__classdict__" : Str)) = false := by decide)
    (he : starEach [e1, e2] X.env = (false, eval e1 X.env) :: starEach [e2] X.env := by rfl) (hpl : (backTo pos (starEach [e2] X.env)).any (·.1) = false := by rfl) :
    PE X (.Call (.Name x p) [e1, e2] [] pos) (fun σ H Q => σ[i]? = some (some (.ref C)) ∧ tRat2 X.K C BR E ta σ H Q) := by
  obtain ⟨f, fd, ds, M, F, b0, b1, r1⟩ := R.make
  refine ⟨fun pins s σ H Q I h => ?_⟩
  obtain ⟨hs, ht⟩ := h
  refine wpAny_Call_Name_kw (thn ((pe_var (pos := p) hN hv hdb hcd).run pins s σ H (fun v H1 => v = .ref C ∧ H1 = H) I ⟨.ref C, hs, rfl, rfl⟩) fun u s1 ⟨v, H1, I1, rr, q1⟩ => ?_)
  obtain ⟨rfl, rfl⟩ := q1
  cases rr
  refine PySem.W.callWith_K (h₀ := X.base) I1.ok.mod.kin M.kp (thn (ha.run pos pins s1 σ _ _ I1 ht) fun us s2 ⟨vs, H2, I2, r, q⟩ => ⟨I2.kIn, ?_⟩) he hpl
  obtain ⟨x, y, rfl, q⟩ := q
  exact run_make (dvs := []) M F hr b0 .nil hx I2 r fun a dx na nd ne => mkR_sp q a dx na nd ne
section
variable {P : Program} {w : World} {K : PySem.W.Frag} {mg : Str → Option Value} {base : Heap} {C BR BT RC : Addr}
/-- the readers' methods, as a body calls them -/
structure RdK (P : Program) (w : World) (K : PySem.W.Frag) (mg : Str → Option Value) (base : Heap) (RC BT : Addr) : Prop where
  T : RdC K RC
  of_ : ∃ (f : Addr) (fd : FuncData), FnOk P w K mg base (L2.CX P w) 3 f fd ["text"] (spRdOf K RC BT) ∧ Binds K fd ["text"] [] ∧ PySem.W.keepIn K (.ref f) = true ∧ mg "reader_of" = some (.ref f)
  peek : ∃ (f : Addr) (fd : FuncData), Meth K RC "peek" f ∧ FnOk P w K mg base CX0 1 f fd ["self"] (spPeek K RC) ∧ Binds K fd ["self"] []
  step : ∃ (f : Addr) (fd : FuncData), Meth K RC "step" f ∧ FnOk P w K mg base CX0 1 f fd ["self"] (spStep RC) ∧ Binds K fd ["self"] []
  refuse : ∃ (f : Addr) (fd : FuncData), Meth K RC "refuse" f ∧ FnOk P w K mg base (L2.CX P w) 3 f fd ["self"] (spRefuse RC BT) ∧ Binds K fd ["self"] []
  finish : ∃ (f : Addr) (fd : FuncData), Meth K RC "finish" f ∧ FnOk P w K mg base (L2.CX P w) 4 f fd ["self"] (spFinish RC BT) ∧ Binds K fd ["self"] []
theorem lookR (l : Addr) (k n : Int) (m : Str) (h : m ∉ ([("words" : Str), "at", "end"] : List Str)) : (rdF l k n).lookup m = none := by
  simp only [List.mem_cons, List.not_mem_nil, or_false, not_or] at h
  obtain ⟨h1, h2, h3⟩ := h
  unfold rdF
  simp only [List.lookup_cons, List.lookup_nil]
  rw [beq_eq_false_iff_ne.mpr h1, beq_eq_false_iff_ne.mpr h2, beq_eq_false_iff_ne.mpr h3]
theorem scRead : FnScope ["cls", "text", "reader", "ratio"] ["cls", "text"] (defScope (ratM 1)) := ⟨rfl, rfl, rfl, by decide +kernel, rfl, by decide +kernel, by decide +kernel⟩
theorem ok_read {f fN : Addr} {fd fdN : FuncData} (F : MtP K "read" "Ratio.read" (ratM 1) f fd) (R : RatK P w K mg base C BR) (D : RdK P w K mg base RC BT) (GN : FnOk P w K mg base CX0 5 fN fdN ["word"] (spRIn K C)) (bN : Binds K fdN ["word"] []) (kN : PySem.W.keepIn K (.ref fN) = true) (gN : mg "ratio_in" = some (.ref fN)) :
    FnOk P w K mg base (L2.CX P w) 6 f fd ["cls", "text"] (spRead K C BT) := by
  obtain ⟨fO, fdO, GO, bO, kO, gO⟩ := D.of_
  obtain ⟨fP, fdP, MP, GP, bP⟩ := D.peek
  obtain ⟨fS, fdS, MS, GS, bS⟩ := D.step
  obtain ⟨fR, fdR, MR, GR, bR⟩ := D.refuse
  obtain ⟨fF, fdF, MF, GF, bF⟩ := D.finish
  refine F.ok scRead (fun vs H Q E h => ?_) (fun cdv A outer s H vs Q E hr h => ?_)
  · obtain ⟨x, rfl, _⟩ := h
    rfl
  · obtain ⟨x, rfl, h⟩ := h
    have hr5 : Room 5 _ := hr
    have hr4 : Room 4 _ := hr5.mono (by decide)
    have hr3 : Room 3 _ := hr5.mono (by decide)
    have hr1 : Room 1 _ := hr5.mono (by decide)
    have cl := D.T.cls
    refine ⟨_, pss_cons (ps_set (i := 2) scRead.nd rfl (.inl rfl) (pe_call GO hr3 rfl gO kO bO .nil (passE (takes_of rfl rfl rfl rfl)) (pa_cons (pv 1) pa_nil)))
      (pss_cons (ps_set (i := 3) scRead.nd rfl (.inl rfl) (pe_call GN hr5 rfl gN kN bN .nil pass0 (pa_cons (pe_meth0 (pv 2) cl MP GP hr1 bP .nil (E := E0) pass0) pa_nil)))
      (pss_cons (ps_if (pt_cmpR op_isN (pv 3) pe_non (nomark _)) (pss_one (ps_expr (pe_meth0 (pv 2) cl MR GR hr3 bR .nil (passE (takes_of rfl rfl rfl rfl))))) pss_nil)
      (pss_cons (ps_expr (pe_meth0 (pv 2) cl MS GS hr1 bS .nil (E := E0) pass0))
      (pss_cons (ps_expr (pe_meth0 (pv 2) cl MF GF hr4 bF .nil (passE (takes_of rfl rfl rfl rfl))))
      (pss_one (ps_ret (pe_rat2L (i := 0) R hr4 (E := E0) passL rfl (.inl rfl) (pa_cons (pe_fld (pv 3) rfl) (pa_cons (pe_fld (pv 3) rfl) pa_nil)))))))))  , ?_⟩
    rcases h with ⟨x, rfl, hz, u1, u2, u3, u4, kn, kr, kq⟩ | ⟨t, ty, kt, rz⟩
    · refine ⟨_, rfl, _, rfl, .inl ⟨x, rfl, hz, fun a l H1 s1 ra hl na nla => ?_⟩⟩
      obtain ⟨dx, ea⟩ := id ra
      refine ⟨_, rfl, a, dx, _, rfl, ea, lookR _ _ _ _ (by decide), a, l, 0, wordsT x, rfl, ra, hl, _, rfl, u1, u2, u3, u4, ?_, ?_⟩
      · intro p q hpq r H2 s2 rr
        obtain ⟨q0, gpq, zp, zq, _⟩ := ratioT_ok hpq
        have ra2 : RdAt H2 a RC l 0 (wordsT x).length := ⟨dx, s2 _ _ ea⟩
        have hra : r ≠ a := fun z => by
          obtain ⟨dr, er⟩ := rr
          rw [z, s2 _ _ ea] at er
          have e := congrArg (fun o => match o with | some (HO.ins _ _ fs) => fs.length | _ => 0) er
          exact absurd (show (3 : Nat) = 5 from e) (by decide)
        refine ⟨_, rfl, rfl, false, congrArg V.bl (decide_eq_false fun z => by cases z), iteF ?_⟩
        refine ⟨_, rfl, a, dx, _, rfl, s2 _ _ ea, lookR _ _ _ _ (by decide), a, l, 0, _, rfl, ra2, fun H3 off ra3 => ?_⟩
        have ra3 : RdAt H3 a RC l 1 (wordsT x).length := ra3
        have s3 : Same H H3 := fun b o e => by rw [off b (ne_of_none e na)]; exact s2 b o (s1 b o e)
        obtain ⟨dx3, ea3⟩ := id ra3
        refine ⟨_, rfl, a, dx3, _, rfl, ea3, lookR _ _ _ _ (by decide), a, l, 1, _, rfl, ra3, fun c => Rz.same (kr p q hpq (by omega)) s3, fun c => ?_⟩
        obtain ⟨dr, er⟩ := rr
        have er3 : H3 r = some (.ins C dr (ratF p q)) := by rw [off r hra]; exact er
        refine ⟨rfl, _, rfl, r, C, dr, _, _, rfl, er3, R.T.cls, R.T.no "top" (by simp), rfl, _, rfl, r, C, dr, _, _, rfl, er3, R.T.cls, R.T.no "bottom" (by simp), rfl, _, _, rfl, .inl ⟨p, q, rfl, rfl, by omega, sz_up zp, sz_up zq, fun a' H4 s4 ra4 => ?_⟩⟩
        obtain ⟨e1, e2⟩ := low_self q0 gpq
        rw [e1, e2] at ra4
        exact kq p q hpq (by omega) a' H4 (s3.trans s4) ra4
      · intro hn H2 s2
        refine ⟨_, rfl, rfl, true, congrArg V.bl (decide_eq_true rfl), iteT ?_⟩
        exact ⟨_, rfl, a, dx, _, rfl, s2 _ _ ea, lookR _ _ _ _ (by decide), a, l, 0, _, rfl, ⟨dx, s2 _ _ ea⟩, Rz.same (kn hn) (s1.trans s2)⟩
    · exact ⟨_, rfl, _, rfl, .inr ⟨t, ty, kt, rz⟩⟩
end
end K04
namespace K04
open PySem PySem.Spec PyProof.Rows L2 RatM TL
/-! ### the text of a ratio is read back -/
theorem starts_minus (x : Str) : Txt.startswith x "-" = decide ((tl x).head? = some 45) := by
  have h := at_iff (x := x) (y := "-") (by decide) 0
  unfold PySem.StrLaws.At at h
  unfold Txt.startswith
  rw [List.drop_zero] at h
  have e : pre (tl ("-" : Str)) (tl x) = decide ((tl x).head? = some 45) := by
    show ((tl x).take 1 == [45]) = _
    cases tl x with
    | nil => rfl
    | cons c r =>
      show ([c] == [45]) = decide (some c = some 45)
      by_cases z : c = 45
      · subst z; rfl
      · rw [decide_eq_false fun y => z (Option.some.inj y)]
        exact beq_eq_false_iff_ne.mpr fun y => z (List.cons.inj y).1
  rw [← e]
  rw [Bool.eq_iff_iff, Bool.and_eq_true, decide_eq_true_eq]
  exact h
theorem remove_minus (x : Str) : tl (Txt.removeprefix x "-") = if (tl x).head? = some 45 then (tl x).drop 1 else tl x := by
  have s := starts_minus x
  unfold Txt.startswith at s
  unfold Txt.removeprefix
  by_cases h : (tl x).head? = some 45
  · rw [decide_eq_true h, Bool.and_eq_true] at s
    rw [s.2, if_pos rfl, if_pos h]
    show tl (if x.length - 1 == x.length then x else PySem.Builtin.Str.strSub x 1 x.length) = _
    have hl := len_tl x
    have hp : 0 < (tl x).length := by
      cases e : tl x with
      | nil => rw [e] at h; cases h
      | cons c r => exact Nat.succ_pos _
    rw [if_neg (by simp; omega), tl_strSub_end]
  · rw [if_neg h]
    rw [decide_eq_false h] at s
    by_cases b : PySem.Builtin.Str.subAt x "-" 0 = true
    · rw [b, Bool.and_true] at s
      have l0 : x.length = 0 := by
        have := of_decide_eq_false s
        have e : (("-" : Str)).length = 1 := rfl
        omega
      rw [b, if_pos rfl]
      show tl (if x.length - 1 == x.length then x else PySem.Builtin.Str.strSub x 1 x.length) = _
      rw [if_pos (by rw [l0]; rfl)]
    · rw [if_neg b]
      rfl
theorem numL_head : ∀ n : Nat, 1 ≤ n → ∃ c r, numL n = c :: r ∧ 49 ≤ c := by
  intro n
  induction n using Nat.strongRecOn with
  | _ n ih =>
    intro h
    by_cases h10 : n < 10
    · exact ⟨48 + n, [], numL_lt h10, by omega⟩
    · obtain ⟨c, r, e, hc⟩ := ih (n / 10) (by omega) (by omega)
      exact ⟨c, r ++ [48 + n % 10], by rw [numL_step (by omega), e]; rfl, hc⟩
theorem wholeT_num {n : Nat} (h : n < 10 ^ 60) : wholeT (numL n) = some n := by
  have l := numL_len (k := 60) (by decide) h
  have d : isDig (numL n) = true := by
    unfold isDig
    rw [List.all_eq_true]
    intro c hc
    have z := numL_digits n c hc
    simp only [Bool.and_eq_true, decide_eq_true_eq]
    exact z
  have p : 0 < (numL n).length := List.length_pos_iff.mpr (numL_ne n)
  unfold wholeT
  rw [d, decide_eq_true p, decide_eq_false (by omega)]
  rw [if_neg (by decide)]
  have f : (decide ((numL n).head? = some 48) && decide (1 < (numL n).length)) = false := by
    by_cases z : n = 0
    · subst z
      rw [numL_lt (by decide)]
      rfl
    · obtain ⟨c, r, e, hc⟩ := numL_head n (by omega)
      rw [e]
      have y : decide ((c :: r).head? = some 48) = false := decide_eq_false fun q => by
        have := Option.some.inj (show some c = some 48 from q)
        omega
      rw [y, Bool.false_and]
  rw [f, if_neg Bool.false_ne_true, numL_val]
theorem tl_int (p : Int) : tl (Str.ofString (toString p)) = if p < 0 then 45 :: numL p.natAbs else numL p.natAbs := by
  by_cases h : p < 0
  · rw [if_pos h]
    obtain ⟨m, rfl⟩ : ∃ m : Nat, p = Int.negSucc m := by
      cases p with
      | ofNat n => exact absurd h (by simp)
      | negSucc m => exact ⟨m, rfl⟩
    show (Str.ofString (toString (Int.negSucc m))).cps.toList = 45 :: (Nat.toDigits 10 (m + 1)).map Char.toNat
    rw [signs_ofString]
    show (("-" ++ Nat.repr (m + 1) : String)).toList.map Char.toNat = _
    rw [String.toList_append, List.map_append, Nat.toList_repr]
    rfl
  · rw [if_neg h]
    obtain ⟨m, rfl⟩ : ∃ m : Nat, p = (m : Int) := ⟨p.toNat, by omega⟩
    exact tl_num m
theorem textR_1 (p : Int) : textR p 1 = Str.ofString (toString p) := if_pos rfl
theorem tl_text {p q : Int} (hq : 0 < q) : tl (textR p q) = (if p < 0 then [45] else []) ++ (numL p.natAbs ++ if q = 1 then [] else 47 :: numL q.natAbs) := by
  have e : tl (Str.ofString (toString p)) = (if p < 0 then [45] else []) ++ numL p.natAbs := by
    rw [tl_int]
    split <;> rfl
  unfold textR
  by_cases h : q = 1
  · rw [if_pos h, if_pos h, List.append_nil]
    exact e
  · rw [if_neg h, if_neg h]
    have e2 : tl (Str.ofString (toString q)) = numL q.natAbs := by rw [tl_int, if_neg (by omega)]
    rw [tl_append, tl_append, e, e2, List.append_assoc, List.append_assoc]
    rfl
theorem head_num (n : Nat) (r : List Nat) : (numL n ++ r).head? ≠ some 45 := by
  have z := numL_ne n
  have f := numL_free (n := n) (s := 45) (.inl (by decide))
  cases e : numL n with
  | nil => exact absurd e z
  | cons c s =>
    rw [e] at f
    intro y
    have y2 : c = 45 := Option.some.inj (show some c = some 45 from y)
    exact f (by rw [y2]; exact List.mem_cons_self)
theorem rest_text {p q : Int} (hq : 0 < q) : tl (Txt.removeprefix (textR p q) "-") = numL p.natAbs ++ (if q = 1 then [] else 47 :: numL q.natAbs) := by
  rw [remove_minus, tl_text hq]
  by_cases h : p < 0
  · rw [if_pos h]
    rfl
  · rw [if_neg h, List.nil_append, if_neg (head_num _ _)]
theorem pieces_text {p q : Int} (hq : 0 < q) (sp : p.natAbs < 10 ^ 60) (sq : q.natAbs < 10 ^ 60) : piecesT (textR p q) = if q = 1 then [some p.natAbs] else [some p.natAbs, some q.natAbs] := by
  have e : piecesT (textR p q) = ((Txt.split (Txt.removeprefix (textR p q) "-") "/").map tl).map wholeT := by
    unfold piecesT
    rw [List.map_map]
    rfl
  rw [e, split_spl _ _ (by decide) (kind_ok (by decide +kernel)), rest_text hq]
  have e2 : tl ("/" : Str) = [47] := rfl
  rw [e2]
  have f := numL_free (n := p.natAbs) (s := 47) (.inl (by decide))
  have f2 := numL_free (n := q.natAbs) (s := 47) (.inl (by decide))
  by_cases h : q = 1
  · rw [if_pos h, if_pos h, List.append_nil, spl_last1 f, List.nil_append]
    show [wholeT (numL p.natAbs)] = _
    rw [wholeT_num sp]
  · rw [if_neg h, if_neg h]
    have z := spl_part1 (s := 47) (S := []) (p := numL p.natAbs) (rest := numL q.natAbs) (acc := []) f
    rw [List.nil_append, spl_last1 f2, List.nil_append] at z
    show (spl [47] 0 [] (numL p.natAbs ++ 47 :: numL q.natAbs)).map wholeT = _
    have z2 : spl [47] 0 [] (numL p.natAbs ++ 47 :: numL q.natAbs) = [numL p.natAbs, numL q.natAbs] := z
    rw [z2]
    show [wholeT (numL p.natAbs), wholeT (numL q.natAbs)] = _
    rw [wholeT_num sp, wholeT_num sq]
theorem top_text {p q : Int} (hq : 0 < q) : topT (textR p q) p.natAbs = p := by
  unfold topT
  rw [starts_minus, tl_text hq]
  by_cases h : p < 0
  · rw [if_pos h]
    exact (if_pos (decide_eq_true rfl)).trans (by omega)
  · rw [if_neg h, List.nil_append, decide_eq_false (head_num _ _), if_neg Bool.false_ne_true]
    omega
/-- THE READ-BACK -/
theorem ratioT_text {p q : Int} (hq : 0 < q) (g : Int.gcd p q = 1) (sp : p.natAbs < 10 ^ 60) (sq : q.natAbs < 10 ^ 60) : ratioT (textR p q) = some (p, q) := by
  obtain ⟨e1, e2⟩ := low_self hq g
  unfold ratioT
  rw [pieces_text hq sp sq]
  by_cases h : q = 1
  · rw [if_pos h]
    subst h
    show chkT _ (topT (textR p 1) p.natAbs) 1 = _
    rw [top_text hq]
    unfold chkT
    rw [e1, e2, if_pos rfl]
  · rw [if_neg h]
    show (if q.natAbs = 0 then none else chkT _ (topT (textR p q) p.natAbs) q.natAbs) = _
    rw [if_neg (by omega), top_text hq, show ((q.natAbs : Nat) : Int) = q by omega]
    unfold chkT
    rw [e1, e2, if_pos rfl]
end K04
namespace L2
open PySem PySem.Spec PyProof.Rows ClX
/-! ### a def of *things alone -/
theorem bind_var {x qual : Str} {a : Arg} {body : List Stmt} {scope : Scope} {kV doc pm cdv ct : Value} {an : Option Addr} (us : List Value) :
    bindArgs (PySem.W.fnOf x qual ⟨[], [], some a, [], [], none, []⟩ body scope .none kV doc pm an cdv ct) ⟨us, []⟩ = (newTuple us >>= fun t => pure [(a.arg, t)]) := by
  cases us with
  | nil => rfl
  | cons y ys => rfl
/-- the promise, in terms of the tuple -/
def SpV (sp : Sp) : Sp := fun vs H Q E => vs.length ≤ 1000 ∧ ∀ t, H t = none → sp [.ref t] (upd H t (.tup vs)) Q E
theorem frs_has : ∀ {outer : List Env} {h base : Heap}, h.FunFrames base outer → ∀ b ∈ frs outer, ∃ o, h.get? b = some o
  | [], _, _, _, b, hb => by simp [frs] at hb
  | e :: r, h, base, F, b, hb => by
    obtain ⟨_, ⟨L, o, e1, _, e2, _⟩, F'⟩ := F
    unfold frs at hb
    rw [List.filterMap_cons, e1] at hb
    rcases List.mem_cons.mp hb with rfl | hb
    · exact ⟨o, e2⟩
    · exact frs_has F' b hb
section
variable {P : Program} {w : World} {K : PySem.W.Frag} {mg : Str → Option Value} {base : Heap} {A : Around} {outer : List Env} {s : Shared} {H H' : Hp} {vs : List V} {us : List Value}
theorem Env0.tuple (e0 : Env0 P w K mg base A outer s H) (r : Vals vs us) (hz : vs.length ≤ sizeLine) :
    Env0 P w K mg base A outer { s with heap := s.heap.push { cls := .type "tuple", data := .seq us.toArray } } (upd H s.heap.objs.size (.tup vs)) := by
  have k : ∀ b u, s.heap.get? b = some u → (s.heap.push { cls := .type "tuple", data := .seq us.toArray }).get? b = some u := fun b u e => Heap.get?_push_of_some _ e
  have ne : ∀ b u, s.heap.get? b = some u → b ≠ s.heap.objs.size := fun b u e => Nat.ne_of_lt (Heap.lt_size e)
  refine ⟨e0.frames, e0.mod, fun b o e => ?_, ?_, Heap.FunFrames.of_keeps (fun b o e _ => ⟨o, k b o e, rfl⟩) e0.funs, fun b hb => ?_, ?_, e0.bare⟩
  · obtain ⟨h1, h2⟩ := e0.bs b o e
    exact ⟨k _ _ h1, by rw [upd_ne (ne _ _ h1)]; exact h2⟩
  · refine Nat.le_trans e0.bsz ?_
    show _ ≤ (s.heap.objs.push _).size
    rw [Array.size_push]
    omega
  · obtain ⟨o, e⟩ := frs_has e0.funs b hb
    rw [upd_ne (ne _ _ e)]
    exact e0.frf b hb
  · exact e0.hok.laid k (Nat.le_refl _) ⟨hz, us, r, ⟨_, Heap.get?_push_size _ rfl, rfl, _, rfl⟩⟩
theorem cr_tuple {E : XK} {Q : VK} {res : Result} {s' : Shared} (e0 : Env0 P w K mg base A outer s H) (h : CR (L2.CX P w) outer P w (upd H s.heap.objs.size (.tup vs)) { s with heap := s.heap.push { cls := .type "tuple", data := .seq us.toArray } } Q E res s') :
    CR (L2.CX P w) outer P w H s Q E res s' := by
  have k : ∀ b u, s.heap.get? b = some u → (s.heap.push { cls := .type "tuple", data := .seq us.toArray }).get? b = some u := fun b u e => Heap.get?_push_of_some _ e
  have ne : ∀ b u, s.heap.get? b = some u → b ≠ s.heap.objs.size := fun b u e => Nat.ne_of_lt (Heap.lt_size e)
  have nf : H s.heap.objs.size = none := e0.hok.fresh (Nat.le_refl _)
  match res, h with
  | .ok (.ret u), ⟨v, H', os, ag, un, ok, rv, q⟩ => exact ⟨v, H', os, ag, (Un.laid k (Nat.le_refl _) nf).trans un, ok, rv, q⟩
  | .ok .next, h => exact h.elim
  | .ok .brk, h => exact h.elim
  | .ok .cont, h => exact h.elim
  | .error er, ⟨a, B, H', cls, d, ea, fl, ok, ub, na, os, ag, hE⟩ =>
    refine ⟨a, B, H', cls, d, ea, fl, ok, ⟨fun b o e n hb => ub.keep b o (k b o e) (by rw [upd_ne (ne _ _ e)]; exact n) hb, fun b o e hb => ub.slot b o (k b o e) hb, fun b o e n => ub.free b o (k b o e) (by rw [upd_ne (ne _ _ e)]; exact n), fun b o e hb => ub.there b o (k b o e) hb,
      fun b xs e => ub.tups b xs (by rw [upd_ne (ne_of_none e nf)]; exact e), fun b o xs e => ub.frzs b o xs (by rw [upd_ne (ne_of_none e nf)]; exact e), fun b ps e => ub.tbls b ps (by rw [upd_ne (ne_of_none e nf)]; exact e)⟩, na, os, ag, hE⟩
end
section
variable {P : Program} {w : World} {K : PySem.W.Frag} {mg : Str → Option Value} {base : Heap}
theorem FunD.okV {x qual : Str} {a : Arg} {body : List Stmt} {scope : Scope} {kws : List (Str × V)} {f : Addr} {fd : FuncData} {N : List Str} {k : Nat} {sp : Sp}
    (F : FunD K x qual ⟨[], [], some a, [], [], none, []⟩ body scope [] kws f fd) (S : FnScope N [a.arg] scope) (len : ∀ vs H Q E, sp vs H Q E → vs.length = 1)
    (hbody : ∀ (cdv : Value) (A : Around) (outer : List Env) (s : Shared) (H : Hp) (vs : List V) (Q : VK) (E : XK), Room k (A.deeper (envOfC qual scope s.heap.objs.size f cdv)) → sp vs H Q E →
      ∃ t, PSs (cxOf (L2.CX P w) P w K mg base N qual scope f cdv A outer s H E) body t ∧ t { nx := fun _ H' => Q .non H', rt := Q } (start N vs) H) : FnR P w K mg base (L2.CX P w) (k + 1) f (SpV sp) := by
  intro A outer s H us vs Q E hr e0 r hsp
  obtain ⟨hz, hsp⟩ := hsp
  obtain ⟨oc, od, dV, kV, doc, pm, an, cdv, ct, osl, rfl, lk, hcd, hD, hK⟩ := F.ex
  obtain rfl : dV = .none := by
    rcases hD with ⟨_, rfl⟩ | ⟨e, _⟩
    · rfl
    · exact absurd rfl e
  have hz2 : vs.length ≤ sizeLine := by rw [sizeLine_eq]; omega
  have lus : us.length ≤ sizeLine := by rw [← r.length]; exact hz2
  have nf : H s.heap.objs.size = none := e0.hok.fresh (Nat.le_refl _)
  have e1 := e0.tuple r hz2
  have hsp1 := hsp _ nf
  refine codeAny_mono (R := CR (L2.CX P w) outer P w (upd H s.heap.objs.size (.tup vs)) { s with heap := s.heap.push { cls := .type "tuple", data := .seq us.toArray } } Q E) ?_ fun res s' h => cr_tuple e0 h
  have KX : K.In s.heap := e0.mod.kin.keeps fun b o e => (e0.bs b o e).1
  have KX1 : K.In (s.heap.push { cls := .type "tuple", data := .seq us.toArray }) := KX.keeps fun b u e => Heap.get?_push_of_some _ e
  refine codeAny_call_function hr.depth (KX _ _ lk) rfl S.co S.gen rfl (PySem.W.codeRec_of KX hcd) ?_
  rw [bind_var]
  refine wpAny_bind (wpAny_newTuple (wpAny_pure ?_) lus)
  have hkind : ∀ y ∈ [a.arg].zip [Value.ref s.heap.objs.size], scope.names.lookup y.1 = some .local ∨ (scope.names.lookup y.1 = some .cell ∧ ((cellsFrom ((s.heap.push { cls := .type "tuple", data := .seq us.toArray }).objs.size + 1) scope.names []).lookup y.1).isSome = true) := fun ⟨n, v⟩ hy => by
    rcases S.par n (List.of_mem_zip hy).1 with q | q
    · exact .inl q
    · exact .inr ⟨q, PySem.W.cellsFrom_some _ _ _ (.inl q)⟩
  have lim : ({ s with heap := s.heap.push { cls := .type "tuple", data := .seq us.toArray } } : Shared).heap.NoLimit := e1.mod.nolimit.keeps fun b o e => (e1.bs b o e).1
  refine wpAny_newFunctionEnv_cells (binds := [a.arg].zip [Value.ref s.heap.objs.size]) S.kind hkind fun env he s1 x => ?_
  subst he
  refine ⟨lim.keeps x.toInCall.keep, codeAny_func ?_⟩
  obtain ⟨t, ht, hq⟩ := hbody cdv A outer _ _ [.ref s.heap.objs.size] Q E (hr.deeper _) hsp1
  have I : Inv (cxOf (L2.CX P w) P w K mg base N qual scope f cdv A outer _ _ E) [] (start N [.ref s.heap.objs.size]) _ s1 := inv_start S hr.hd e1 rfl (.cons rfl .nil) x
  refine wpAny_mono (ht.run [] s1 (start N [.ref s.heap.objs.size]) _ _ I hq) (fun fl s' hs => ?_) fun e s' hs => hs
  have fin : ∀ {σ' : St} {H' : Hp} {v : V} {u : Value}, Inv (cxOf (L2.CX P w) P w K mg base N qual scope f cdv A outer _ _ E) [] σ' H' s' → RelV v u → Q v H' → CE outer P w (upd H s.heap.objs.size (.tup vs)) { s with heap := s.heap.push { cls := .type "tuple", data := .seq us.toArray } } Q u s' :=
    fun {σ' H' v u} J rv q => ⟨v, H', J.os, J.bare, J.base, J.hok, rv, q⟩
  cases fl with
  | ret u =>
    obtain ⟨v, σ', H', J, rv, q⟩ := hs
    exact fin J rv q
  | next =>
    obtain ⟨σ', H', J, q⟩ := hs
    exact fin (v := V.non) (u := Value.none) J rfl q
  | brk =>
    obtain ⟨_, _, _, q⟩ := hs
    exact False.elim q
  | cont =>
    obtain ⟨_, _, _, q⟩ := hs
    exact False.elim q
end
theorem pe_smethV {X : Cx} {CX : CXT} {k : Nat} {C p f : Addr} {mc : Value} {sp : Sp} {E : XK} {o e : Expr} {es : List Expr} {m : Str} {pos apos : Pos} {ta : TE} {t : TA} {pl : Sem Bool}
    (he : PE X o ta) (r : CRead X.K C mc) (c : SMet X.K C mc m p f) (F : FnR X.prog X.w X.K X.mg X.base CX k f sp) (hr : Room k X.A) (hx : Passes CX X E) (ha : PA X (e :: es) t)
    (hst : starEach (e :: es) X.env = (false, eval e X.env) :: starEach es X.env := by rfl) (hpl : (backTo pos (starEach es X.env)).any (·.1) = false := by rfl)
    (ht : eval (.Call (.Attribute o m apos) (e :: es) [] pos) X.env = (do
      let ov ← eval o X.env
      standAt apos.atName
      let (f, first) ← holding [ov] (getMethod ov m pl)
      callWith pos f first (backTo pos (starEach (e :: es) X.env)) (backToKw pos (keywordEach [] X.env))) := by rfl) :
    PE X (.Call (.Attribute o m apos) (e :: es) [] pos) (tSMeth C sp E ta t) := by
  refine ⟨fun pins s σ H Q I h => ?_⟩
  refine PySem.W.methodCall_KW (pl := pl) (thn (he.run pins s σ H _ I h) fun u s1 ⟨x, H1, I1, rx, ex, q⟩ => ?_) ht
  subst ex
  obtain rfl : u = Value.ref C := rx
  refine getsm_ok I1 r c fun s2 I2 => ?_
  refine PySem.W.callWith_K (first := []) (h₀ := X.base) I.ok.mod.kin c.kp (thn (ha.run pos pins s2 σ H1 _ I2 q) fun us s3 ⟨vs, H2, I3, rv, q2⟩ => ⟨I3.kIn, ?_⟩) hst hpl
  exact wpAny_call (run_fnR F hr hx I3 rv q2)
theorem pe_smethV0 {X : Cx} {CX : CXT} {k : Nat} {C p f : Addr} {mc : Value} {sp : Sp} {E : XK} {o : Expr} {m : Str} {pos apos : Pos} {ta : TE} {pl : Sem Bool}
    (he : PE X o ta) (r : CRead X.K C mc) (c : SMet X.K C mc m p f) (F : FnR X.prog X.w X.K X.mg X.base CX k f sp) (hr : Room k X.A) (hx : Passes CX X E)
    (ht : eval (.Call (.Attribute o m apos) [] [] pos) X.env = (do
      let ov ← eval o X.env
      standAt apos.atName
      let (f, first) ← holding [ov] (getMethod ov m pl)
      callWith pos f first (backTo pos (starEach [] X.env)) (backToKw pos (keywordEach [] X.env))) := by rfl) :
    PE X (.Call (.Attribute o m apos) [] [] pos) (tSMeth C sp E ta tNil) := by
  refine ⟨fun pins s σ H Q I h => ?_⟩
  refine PySem.W.methodCall_KW (pl := pl) (thn (he.run pins s σ H _ I h) fun u s1 ⟨x, H1, I1, rx, ex, q⟩ => ?_) ht
  subst ex
  obtain rfl : u = Value.ref C := rx
  refine getsm_ok I1 r c fun s2 I2 => ?_
  exact PySem.W.callWith_K0 (first := []) I2.kIn c.kp (wpAny_call (run_fnR (us := []) (vs := []) F hr hx I2 .nil q))
end L2
namespace K04
open PySem PySem.Spec PyProof.Rows L2 RatM ClX
/-! ### what is refused as the numbers of a balance -/
/-- a thing that is no ref and no ratio -/
inductive OddV : V → String → Prop
  | non : OddV .non "NoneType"
  | bl (b : Bool) : OddV (.bl b) "bool"
  | str (x : Str) : OddV (.str x) "str"
theorem OddV.at_ {H : Hp} {x : V} {T : String} (h : OddV x T) : OddAt H x T := by
  cases h with
  | non => exact .non
  | bl b => exact .bl b
  | str x => exact .str x
/-- is_ratio(x) is b -/
def RatIs (H : Hp) (C : Addr) (x : V) (b : Bool) : Prop := (∃ p q, NumAt H C x p q ∧ b = true) ∨ ∃ T, OddV x T ∧ b = false
theorem RatIs.same {H H' : Hp} {C : Addr} {x : V} {b : Bool} (h : RatIs H C x b) (s : Same H H') : RatIs H' C x b := h.imp (fun ⟨p, q, n, e⟩ => ⟨p, q, n.same s, e⟩) id
theorem RatIs.locked {H : Hp} {C d : Addr} {x : V} {b : Bool} {kvs : List (Key × V)} {o : HO} (h : RatIs H C x b) (hd : H d = some (.dK kvs)) : RatIs (upd H d o) C x b := h.imp (fun ⟨p, q, n, e⟩ => ⟨p, q, n.locked hd, e⟩) id
theorem RatIs.sp {K : PySem.W.Frag} {H : Hp} {C : Addr} {x : V} {b : Bool} {Q : VK} {E : XK} (h : RatIs H C x b) (q : Q (.bl b) H) : spIsR K C [x] H Q E := by
  rcases h with ⟨p, r, n, rfl⟩ | ⟨T, o, rfl⟩
  · exact ⟨_, rfl, .inl ⟨p, r, n, q⟩⟩
  · exact ⟨_, rfl, .inr ⟨T, o.at_, q⟩⟩
/-- numbers_in(x) is None -/
inductive OddN (K : PySem.W.Frag) (C : Addr) (H : Hp) : V → Prop
  | ty {x : V} {t : Value} (h : TyX K H x t) (k : PySem.W.kitOne K t (.type "dict") = some false) : OddN K C H x
  | keys {d : Addr} {kvs : List (Key × V)} {bs : List Bool} (hd : H d = some (.dK kvs)) (l : kvs.length ≤ 60) (lb : bs.length = kvs.length) (n : ∀ (i : Nat) x b, (kvs.map fun kv => kV kv.1)[i]? = some x → bs[i]? = some b → NmIs K H x b) (f : bs.all id = false) : OddN K C H (.ref d)
  | tkeys {d : Addr} {kvs : List (List Key × V)} (hd : H d = some (.dT kvs)) (l : kvs.length ≤ 60) (ne : kvs ≠ []) : OddN K C H (.ref d)
  | vals {d : Addr} {kvs : List (Key × V)} {rs : List Bool} (hd : H d = some (.dK kvs)) (l : kvs.length ≤ 60) (n : ∀ kv ∈ kvs, ∃ x : Str, kv.1 = .inr x ∧ x.length ≤ 100000 ∧ nameT x.cps.toList = true) (lr : rs.length = kvs.length) (r : ∀ (i : Nat) kv b, kvs[i]? = some kv → rs[i]? = some b → RatIs H C kv.2 b) (f : rs.all id = false) : OddN K C H (.ref d)
def spNinO (K : PySem.W.Frag) (C : Addr) : Sp := fun vs H Q _ => ∃ x, vs = [x] ∧ OddN K C H x ∧ ∀ H', Same H H' → Q .non H'
theorem Paired.right {α β : Type} {F : α → β → Prop} : ∀ {l : List α} {m : List β}, Paired F l m → ∀ (i : Nat) (b : β), m[i]? = some b → ∃ a, l[i]? = some a ∧ F a b
  | _, _, .nil, i, a, e => by simp at e
  | _, _, .cons x t, 0, a, e => by
    simp at e
    subst e
    exact ⟨_, rfl, x⟩
  | _, _, .cons x t, i + 1, a, e => by
    simp at e
    obtain ⟨b, h1, h2⟩ := Paired.right t i a e
    exact ⟨b, by simpa using h1, h2⟩
theorem all_falses {α : Type} : ∀ (l : List α), l ≠ [] → (l.map fun _ => false).all id = false
  | [], h => absurd rfl h
  | _ :: t, _ => rfl
section
variable {P : Program} {w : World} {K : PySem.W.Frag} {mg : Str → Option Value} {base : Heap} {C BR : Addr}
theorem ok_numbersInO {f fN fI : Addr} {fd fdN fdI : FuncData} {mc : Value} {p gO : Addr} {fdO : FuncData} (F : FnP K "numbers_in" (top 37) f fd) (bi : mg "isinstance" = none) (bD : mg "dict" = none) (bL : mg "list" = none) (al : mg "all" = none) (so : mg "sorted" = none)
    (GN : FnOk P w K mg base CX0 3 fN fdN ["value"] (spNms K)) (bN : Binds K fdN ["value"] []) (kN : PySem.W.keepIn K (.ref fN) = true) (gN : mg "are_names" = some (.ref fN))
    (GI : FnOk P w K mg base CX0 2 fI fdI ["value"] (spIsR K C)) (bI : Binds K fdI ["value"] []) (kI : PySem.W.keepIn K (.ref fI) = true) (gI : mg "is_ratio" = some (.ref fI))
    (gC : mg "Ratio" = some (.ref C)) (cr : CRead K C mc) (sm : SMet K C mc "of" p gO) (GO : FnOk P w K mg base (L2.CX P w) 6 gO fdO ["value"] (spOf1 K C BR)) (bO : Binds K fdO ["value"] []) :
    FnOk P w K mg base CX0 7 f fd ["value"] (spNinO K C) := by
  refine F.ok scNin (fun vs H Q E h => ?_) (fun cdv A outer s H vs Q E hr h => ?_)
  · obtain ⟨x, rfl, _⟩ := h
    rfl
  · obtain ⟨x, rfl, h, k⟩ := h
    have hr6 : Room 6 _ := hr
    have hu1 : (A.deeper (envOfC (Str.ofString "numbers_in") (defScope (top 37)) s.heap.objs.size f cdv)).units + 1 < cLine := by have := hr6.units; omega
    by_cases ht : ∃ d kvs, x = .ref d ∧ H d = some (.dT kvs) ∧ kvs.length ≤ 60 ∧ kvs ≠ []
    · obtain ⟨d, kvs, rfl, hd, l, ne⟩ := ht
      refine ⟨_, PSs.nox (pss_cons (ps_if (PW.pt (pw_or (pt_not (pt_val (pe_callB call_isi (by rfl) bi (by decide +kernel) (pa_cons (pv 0) (pa_cons (pe_bltn (v := .ty "dict") (by rfl) bD (by decide +kernel) rfl) pa_nil)))))
        (pw_or1 (pt_not (pt_val (pe_call GN (hr6.mono (by decide)) rfl gN kN bN .nil pass0 (pa_cons (pe_callTy (call_list_dT rfl) (by rfl) bL PyProof.Rows.boot_list (pa_cons (pv 0) pa_nil)) pa_nil))))))) (pss_one (ps_ret pe_non)) pss_nil)
      (pss_cons (ps_if (pt_not (pt_val (pe_callB (cr_all rfl) (by rfl) al (by decide +kernel) (pa_cons (pe_lock (pe_lc (own := [("number", 1)]) (g := gName 1) (tt := tYes) rfl scNin.nd (pi_values (pv 0)) (blkOk_by (N := ["value", "number", "thing"]) (sc := defScope (top 37)) (by decide +kernel)) (fun _ _ _ _ _ => pg_name (i := 1) scNin.nd rfl (Or.inl rfl)) (fun _ _ _ _ _ => pts_nil) (fun _ _ _ _ _ => pe_call GI (by exact hr6.mono (by decide)) rfl gI kI bI .nil pass0 (pa_cons (pv 1) pa_nil)))) pa_nil)))) (pss_one (ps_ret pe_non)) pss_nil)
      (pss_one (ps_ret (pe_dc (own := [("thing", 2)]) (g := gName 2) (tt := tYes) rfl scNin.nd (pi_list (pe_callB cr_sortedS (by rfl) so (by decide +kernel) (pa_cons (pe_callTy (call_list_dK rfl) (by rfl) bL PyProof.Rows.boot_list (pa_cons (pv 0) pa_nil)) pa_nil))) (blkOk_by (N := ["value", "number", "thing"]) (sc := defScope (top 37)) (by decide +kernel)) (fun _ _ _ _ _ => pg_name (i := 2) scNin.nd rfl (Or.inl rfl)) (fun _ _ _ _ _ => pts_nil) (fun _ _ _ _ _ => pv 2)
        (fun _ _ _ _ _ => pe_smeth (pe_glob (v := .ref _) rfl gC rfl) cr sm GO (by exact hr6) bO (E := E0) passL (pa_cons (pe_dget (by exact hu1) (pv 0) (pv 2) (fun _ _ => rfl)) pa_nil))))))), ?_⟩
      refine ⟨_, rfl, _, _, _, _, _, rfl, .ty "dict", .base (.dT hd), kit_ty (r := true) (by decide +kernel), _, rfl, iteF ?_⟩
      refine ⟨_, rfl, d, kvs, rfl, .inl hd, fun q bs nq ik => ?_⟩
      have lb := Paired.length ik
      refine ⟨_, rfl, .inl ⟨q, bs.map V.ref, bs.map (fun _ => false), rfl, .inl upd_same, by rw [List.length_map]; omega, by rw [List.length_map, List.length_map], fun i x b e1 e2 => ?_, fun H1 s1 => ⟨false, ?_, iteT ?_⟩⟩⟩
      · rw [List.getElem?_map] at e1 e2
        obtain ⟨a, ea, rfl⟩ := Option.map_eq_some_iff.mp e1
        rw [ea] at e2
        cases e2
        obtain ⟨kk, _, hk⟩ := Paired.right ik i _ ea
        exact .inr ⟨_, .base (.tup ((same_upd nq) _ _ hk)), kit_ty (r := false) (by decide +kernel), rfl⟩
      · refine congrArg V.bl (all_falses _ fun z => ne ?_)
        exact List.length_eq_zero_iff.mp (by rw [lb, z]; rfl)
      · exact k _ ((same_upd nq).trans s1)
    · refine ⟨_, PSs.nox (pss_cons (ps_if (PW.pt (pw_or (pt_not (pt_val (pe_callB call_isi (by rfl) bi (by decide +kernel) (pa_cons (pv 0) (pa_cons (pe_bltn (v := .ty "dict") (by rfl) bD (by decide +kernel) rfl) pa_nil)))))
      (pw_or1 (pt_not (pt_val (pe_call GN (hr6.mono (by decide)) rfl gN kN bN .nil pass0 (pa_cons (pe_callTy (call_list_dK rfl) (by rfl) bL PyProof.Rows.boot_list (pa_cons (pv 0) pa_nil)) pa_nil))))))) (pss_one (ps_ret pe_non)) pss_nil)
    (pss_cons (ps_if (pt_not (pt_val (pe_callB (cr_all rfl) (by rfl) al (by decide +kernel) (pa_cons (pe_lock (pe_lc (own := [("number", 1)]) (g := gName 1) (tt := tYes) rfl scNin.nd (pi_values (pv 0)) (blkOk_by (N := ["value", "number", "thing"]) (sc := defScope (top 37)) (by decide +kernel)) (fun _ _ _ _ _ => pg_name (i := 1) scNin.nd rfl (Or.inl rfl)) (fun _ _ _ _ _ => pts_nil) (fun _ _ _ _ _ => pe_call GI (by exact hr6.mono (by decide)) rfl gI kI bI .nil pass0 (pa_cons (pv 1) pa_nil)))) pa_nil)))) (pss_one (ps_ret pe_non)) pss_nil)
    (pss_one (ps_ret (pe_dc (own := [("thing", 2)]) (g := gName 2) (tt := tYes) rfl scNin.nd (pi_list (pe_callB cr_sortedS (by rfl) so (by decide +kernel) (pa_cons (pe_callTy (call_list_dK rfl) (by rfl) bL PyProof.Rows.boot_list (pa_cons (pv 0) pa_nil)) pa_nil))) (blkOk_by (N := ["value", "number", "thing"]) (sc := defScope (top 37)) (by decide +kernel)) (fun _ _ _ _ _ => pg_name (i := 2) scNin.nd rfl (Or.inl rfl)) (fun _ _ _ _ _ => pts_nil) (fun _ _ _ _ _ => pv 2)
      (fun _ _ _ _ _ => pe_smeth (pe_glob (v := .ref _) rfl gC rfl) cr sm GO (by exact hr6) bO (E := E0) passL (pa_cons (pe_dget (by exact hu1) (pv 0) (pv 2) (fun _ _ => rfl)) pa_nil))))))), ?_⟩
      cases h with
      | tkeys hd l ne => exact absurd ⟨_, _, rfl, hd, l, ne⟩ ht
      | ty h kk => exact ⟨_, rfl, _, _, _, _, _, rfl, .ty "dict", h, kk, _, rfl, iteT (k _ (Same.refl _))⟩
      | @keys d kvs bs hd l lb n f =>
        refine ⟨_, rfl, _, _, _, _, _, rfl, .ty "dict", .base (.dK hd), kit_ty (r := true) (by decide +kernel), _, rfl, iteF ?_⟩
        refine ⟨_, rfl, d, kvs, rfl, hd, fun q nq => ?_⟩
        refine ⟨_, rfl, .inl ⟨q, kvs.map fun kv => kV kv.1, bs, rfl, .inl upd_same, by rw [List.length_map]; omega, by rw [List.length_map]; exact lb, fun i x b e1 e2 => (n i x b e1 e2).same (same_upd nq), fun H1 s1 => ⟨false, congrArg V.bl f, iteT (k _ ((same_upd nq).trans s1))⟩⟩⟩
      | @vals d kvs rs hd l n lr r f =>
        refine ⟨_, rfl, _, _, _, _, _, rfl, .ty "dict", .base (.dK hd), kit_ty (r := true) (by decide +kernel), _, rfl, iteF ?_⟩
        refine ⟨_, rfl, d, kvs, rfl, hd, fun q nq => ?_⟩
        refine ⟨_, rfl, .inl ⟨q, kvs.map fun kv => kV kv.1, kvs.map (fun _ => true), rfl, .inl upd_same, by rw [List.length_map]; omega, by rw [List.length_map, List.length_map], fun i x b e1 e2 => ?_, fun H1 s1 => ⟨true, congrArg V.bl (all_trues kvs), iteF ?_⟩⟩⟩
        · rw [List.getElem?_map] at e1 e2
          obtain ⟨kv, ek, rfl⟩ := Option.map_eq_some_iff.mp e1
          rw [ek] at e2
          cases e2
          obtain ⟨y, ey, l1, l2⟩ := n kv (List.mem_of_getElem? ek)
          exact .inl ⟨y, by rw [ey]; rfl, l1, l2.symm⟩
        replace s1 : Same H H1 := (same_upd nq).trans s1
        dsimp only [tNext, tSeq]
        refine ⟨d, .dK kvs, s1 _ _ hd, True.intro, fun od => ?_⟩
        refine ⟨_, rfl, d, od, kvs, rfl, upd_same, fun D nD => ?_⟩
        have nDd : D ≠ d := fun e => by rw [e, upd_same] at nD; cases nD
        have nD1 : H1 D = none := by rw [upd_ne nDd] at nD; exact nD
        generalize hHL : upd H1 d (.frz od (.dK kvs)) = HL at nD ⊢
        have hdL : HL d = some (.frz od (.dK kvs)) := by rw [← hHL]; exact upd_same
        have hr' : ∀ (i : Nat) kv b, kvs[i]? = some kv → rs[i]? = some b → RatIs HL C kv.2 b := fun i kv b e1 e2 => by
          rw [← hHL]
          exact ((r i kv b e1 e2).same s1).locked (s1 _ _ hd)
        refine lc_it walk_values (fun i Hh => Same HL Hh ∧ Hh D = some (.lst ((rs.take i).map V.bl))) ⟨same_upd nD, upd_same⟩ (fun i Hh _ hP => hP.1 _ _ hdL) (fun i x Hh Hh' hi hP hy => ?_) (fun Hh hP => ?_)
        · obtain ⟨rfl, key, ek⟩ := hy
          obtain ⟨s2, hD⟩ := hP
          have li : i < kvs.length := (List.getElem?_eq_some_iff.mp ek).1
          obtain ⟨b, eb⟩ : ∃ b, rs[i]? = some b := ⟨rs[i]'(by omega), List.getElem?_eq_getElem (by omega)⟩
          refine ⟨rfl, ?_⟩
          unfold tYes
          dsimp only
          rw [if_pos rfl]
          refine ⟨_, rfl, ?_⟩
          simp only [tNil, List.append_nil]
          refine RatIs.sp ((hr' i _ b ek eb).same s2) ⟨_, hD, ?_, fun c o e => ?_, ?_⟩
          · simp only [List.length_map, List.length_take]
            rw [sizeLine_eq]
            omega
          · rw [upd_ne (ne_of_none e nD)]; exact s2 _ _ e
          · rw [upd_same, List.take_add_one, eb]
            simp
        · obtain ⟨s2, hD⟩ := hP
          rw [← lr, List.take_length] at hD
          refine ⟨s2 _ _ hdL, D, rs, rfl, SqL.of (by rw [upd_ne nDd]; exact hD), false, congrArg V.bl f, iteT (k _ fun b o e => ?_)⟩
          by_cases eb : b = d
          · subst eb
            rw [upd_same, ← hd, e]
          · rw [upd_ne eb]
            refine s2 _ _ ?_
            rw [← hHL, upd_ne eb]
            exact s1 _ _ e
end
end K04
namespace K04
open PySem PySem.Spec PyProof.Rows L2 RatM ClX
/-! ### a balance refused -/
theorem OddN.same {K : PySem.W.Frag} {C : Addr} {H H' : Hp} {x : V} (h : OddN K C H x) (s : Same H H') : OddN K C H' x := by
  cases h with
  | ty h k => exact .ty (tyX_same h s) k
  | keys hd l lb n f => exact .keys (s _ _ hd) l lb (fun i x b e1 e2 => (n i x b e1 e2).same s) f
  | tkeys hd l ne => exact .tkeys (s _ _ hd) l ne
  | vals hd l n lr r f => exact .vals (s _ _ hd) l n lr (fun i kv b e1 e2 => (r i kv b e1 e2).same s) f
/-- Balance(x) is refused -/
def NoMk (K : PySem.W.Frag) (C BB : Addr) (x : V) (H : Hp) (E : XK) : Prop := OddN K C H x ∧ Rz H E BB [("part", .str "numbers")]
def spBIO (K : PySem.W.Frag) (C CB BB : Addr) : Sp := fun vs H Q E => ∃ (a dx : Addr) (x : V), vs = [.ref a, x] ∧ H a = some (.ins CB dx []) ∧ NoMk K C BB x H E
section
variable {P : Program} {w : World} {K : PySem.W.Frag} {mg : Str → Option Value} {base : Heap} {C BR CB BB : Addr}
theorem ok_balInitO {f fN : Addr} {fd fdN : FuncData} (F : MtP K "__init__" "Balance.__init__" (balM 0) f fd) (T : BalC K CB) (nCB : C ≠ CB) (TR : RatC K C) (M : ErrN P w K mg base "BadBalance" BB ["part"]) (bT : mg "tuple" = none) (bl : mg "len" = none)
    (GN : FnOk P w K mg base CX0 7 fN fdN ["value"] (spNinO K C)) (bN : Binds K fdN ["value"] []) (kN : PySem.W.keepIn K (.ref fN) = true) (gN : mg "numbers_in" = some (.ref fN)) :
    FnOk P w K mg base (L2.CX P w) 8 f fd ["self", "numbers"] (spBIO K C CB BB) := by
  refine F.ok scBI (fun vs H Q E h => ?_) (fun cdv A outer s H vs Q E hr h => ?_)
  · obtain ⟨a, dx, x, rfl, _⟩ := h
    rfl
  · obtain ⟨a, dx, x, rfl, ha, odd, rz⟩ := h
    have hr7 : Room 7 _ := hr
    refine ⟨_, (pss_cons (ps_set (i := 2) scBI.nd rfl (.inl rfl) (pe_call GN hr7 rfl gN kN bN .nil pass0 (pa_cons (pv 1) pa_nil)))
      (pss_cons (ps_if (pt_cmpR op_isN (pv 2) pe_non (nomark _)) (pss_one (ps_raiseN rfl M (hr7.mono (by decide)) (takes_of rfl rfl rfl rfl) (by rfl) (pa_cons pe_str pa_nil))) pss_nil)
      (pss_cons (ps_fld (pv 0) (pe_lock (pe_dc (own := [("thing", 3), ("number", 4)]) (g := gTup K 2 (gCons (gName 3) (gCons (gName 4) gNil))) (tt := tTest (tOp rNe (tFld K (tVar 4) "sign") (tC (.int 0)))) (tk := tVar 3) (tv := tVar 4) rfl scBI.nd (pi_items (pv 2)) (blkOk_by (N := ["self", "numbers", "told", "thing", "number", "word"]) (sc := defScope (balM 0)) (by decide +kernel)) (fun _ _ _ _ _ => pg_tup rfl (pgs_cons (pg_name (i := 3) scBI.nd rfl (Or.inl rfl)) (pgs_cons (pg_name (i := 4) scBI.nd rfl (Or.inl rfl)) pgs_nil))) (fun _ _ _ _ _ => pts_one (pt_cmpR op_ne (pe_fld (pv 4) rfl) pe_int (nomark _))) (fun _ _ _ _ _ => pv 3) (fun _ _ _ _ _ => pv 4))) (by rfl))
      (pss_cons (ps_fld (pv 0) (pe_callTy (call_tuple_dK rfl) (by rfl) bT PyProof.Rows.boot_tuple (pa_cons (pe_fld (pv 0) rfl) pa_nil)) (by rfl))
      (pss_cons (ps_fld (pv 0) (pe_cmpR op_eq (pe_callB call_len_seq (by rfl) bl PySem.boot_len (pa_cons (pe_fld (pv 0) rfl) pa_nil)) pe_int (nomark _)) (by rfl))
      (pss_one (ps_fld (pv 0) (pe_tupleOf (by rfl) bT (pe_lock (pe_lc2 (own := [("thing", 3), ("number", 4), ("word", 5)]) (vs1 := [5]) (g := gTup K 2 (gCons (gName 3) (gCons (gName 4) gNil))) (tt := tYes) (g1 := gName 5) (tt1 := tYes) (te := tVar 5) (wi1 := iTup K (tTup (tCons (tVar 3) (tCons (tFld K (tVar 4) "top") (tCons (tFld K (tVar 4) "bottom") tNil))))) rfl scBI.nd (pi_items (pe_fld (pv 0) rfl)) (blkOk_by (N := ["self", "numbers", "told", "thing", "number", "word"]) (sc := defScope (balM 0)) (by decide +kernel)) (by decide) (fun _ _ _ _ _ => pg_tup rfl (pgs_cons (pg_name (i := 3) scBI.nd rfl (Or.inl rfl)) (pgs_cons (pg_name (i := 4) scBI.nd rfl (Or.inl rfl)) pgs_nil))) (fun _ _ _ _ _ => pts_nil) (fun _ _ _ _ _ => pi_tup (pe_tup (pa_cons (pv 3) (pa_cons (pe_fld (pv 4) rfl) (pa_cons (pe_fld (pv 4) rfl) pa_nil)))))
        (fun _ _ _ _ _ => pg_name (i := 5) scBI.nd rfl (Or.inl rfl)) (fun _ _ _ _ _ => pts_nil) (fun _ _ _ _ _ => pv 5)))) (by rfl)))))))), ?_⟩
    refine ⟨_, rfl, x, rfl, odd, fun H1 s1 => ?_⟩
    refine ⟨_, rfl, rfl, true, rfl, iteT ?_⟩
    exact raiseN M rfl (by decide) (Rz.same rz s1)
end
/-- where a balance is refused -/
structure BalO (P : Program) (w : World) (K : PySem.W.Frag) (mg : Str → Option Value) (base : Heap) (CB C BB : Addr) : Prop where
  g : mg "Balance" = some (.ref CB)
  make : ∃ (f : Addr) (fd : FuncData), Mk K CB f ∧ FnOk P w K mg base (L2.CX P w) 8 f fd ["self", "numbers"] (spBIO K C CB BB) ∧ Binds K fd ["self", "numbers"] []
section
variable {X : Cx} {CB C BB : Addr} {E : XK} {p pos : Pos} {e1 : Expr} {ta : TA}
def tBalO (K : PySem.W.Frag) (C BB : Addr) (E : XK) (ta : TA) : TE := fun σ H _ => ta σ H fun vs H1 => ∃ x, vs = [x] ∧ NoMk K C BB x H1 E
theorem pe_balO {P : Program} {w : World} {K : PySem.W.Frag} {mg : Str → Option Value} {base : Heap} (R : BalO P w K mg base CB C BB) (hr : Room 9 X.A) (hx : Passes (L2.CX X.prog X.w) X E) (hg : Gl X "Balance") (ha : PA X [e1] ta)
    (h1 : X.prog = P := by rfl) (h2 : X.w = w := by rfl) (h3 : X.K = K := by rfl) (h4 : X.mg = mg := by rfl) (h5 : X.base = base := by rfl)
    (he : starEach [e1] X.env = (false, eval e1 X.env) :: starEach [] X.env := by rfl) (hpl : (backTo pos (starEach [] X.env)).any (·.1) = false := by rfl) :
    PE X (.Call (.Name "Balance" p) [e1] [] pos) (tBalO K C BB E ta) := by
  subst h1 h2 h3 h4 h5
  obtain ⟨f, fd, M, F, b0⟩ := R.make
  refine ⟨fun pins s σ H Q I h => ?_⟩
  refine wpAny_Call_Name_kw (ld_glob I hg R.g ?_ (by decide))
  refine PySem.W.callWith_K (h₀ := X.base) I.ok.mod.kin M.kp (thn (ha.run pos pins s σ H _ I h) fun us s1 ⟨vs, H1, I1, r, q⟩ => ⟨I1.kIn, ?_⟩) he hpl
  obtain ⟨x, rfl, odd, rz⟩ := q
  exact run_make (dvs := []) (E := E) M F hr b0 .nil hx I1 r fun a dx na nd ne => by
    have s1 : Same H1 (upd (upd H1 dx (.own a)) a (.ins CB dx [])) := fun b o e => by rw [upd_ne (ne_of_none e na), upd_ne (ne_of_none e nd)]; exact e
    exact ⟨a, dx, x, rfl, upd_same, odd.same s1, Rz.same rz s1⟩
end
end K04
namespace K04
open PySem PySem.Spec PyProof.Rows L2 RatM ClX
/-! ### number_of of what is no name, Balance.of -/
def spNumO (K : PySem.W.Frag) (CB C : Addr) : Sp := fun vs H Q _ => ∃ (a : Addr) (x : V) (g : Str → Int × Int) (zs : List Str), vs = [.ref a, x] ∧ BalAt H a CB C g zs ∧ NmIs K H x false ∧ ∀ r H', Same H H' → RatAt H' r C 0 1 → Q (.ref r) H'
/-- the counts of the names -/
def spOfB (K : PySem.W.Frag) (CB C BB : Addr) : Sp := fun vs H Q E => ∃ (a : Addr) (xs : List V), vs = [.ref a] ∧ H a = some (.tup xs) ∧
  ((∃ l : List Str, xs = l.map V.str ∧ NsT l ∧ l.length ≤ 60 ∧ ∀ a' ys H', Same H H' → ys.Perm (cntN l).1 → sortedS ys = true → BalAt H' a' CB C (cntN l).2 ys → Q (.ref a') H') ∨
   (∃ bs : List Bool, xs.length ≤ 1000 ∧ bs.length = xs.length ∧ (∀ (i : Nat) x b, xs[i]? = some x → bs[i]? = some b → NmIs K H x b) ∧ bs.all id = false ∧ Rz H E BB [("part", .str "things")]))
section
variable {P : Program} {w : World} {K : PySem.W.Frag} {mg : Str → Option Value} {base : Heap} {C BR CB BB : Addr}
theorem ok_numberOfO {f fM : Addr} {fd fdM : FuncData} (F : MtP K "number_of" "Balance.number_of" (balM 3) f fd) (T : BalC K CB) (R : RatK P w K mg base C BR)
    (GM : FnOk P w K mg base CX0 1 fM fdM ["value"] (spNm K)) (bM : Binds K fdM ["value"] []) (kM : PySem.W.keepIn K (.ref fM) = true) (gM : mg "is_name" = some (.ref fM)) :
    FnOk P w K mg base CX0 5 f fd ["self", "thing"] (spNumO K CB C) := by
  refine F.ok scNo (fun vs H Q E h => ?_) (fun cdv A outer s H vs Q E hr h => ?_)
  · obtain ⟨a, x, g, zs, rfl, _⟩ := h
    rfl
  · obtain ⟨a, x, g, zs, rfl, hb, nx, k⟩ := h
    have hr4 : Room 4 _ := hr
    have hu1 : (A.deeper (envOfC (Str.ofString "Balance.number_of") (defScope (balM 3)) s.heap.objs.size f cdv)).units + 1 < cLine := by have := hr4.units; omega
    refine ⟨_, PSs.nox (pss_one (ps_ret (pe_ifExp (pt_val (pe_call GM (hr4.mono (by decide)) rfl gM kM bM .nil pass0 (pa_cons (pv 1) pa_nil))) (pe_dget2 hu1 (pe_fld (pv 0) rfl) (pv 1) (pe_rat1 R (by exact hr4) (E := E0) passL rfl (pa_cons pe_int pa_nil)) ⟨rfl, rfl, rfl, rfl⟩)
      (pe_rat1 R (by exact hr4) (E := E0) passL rfl (pa_cons pe_int pa_nil))))), ?_⟩
    refine ⟨_, rfl, ?_⟩
    simp only [tNil, List.append_nil]
    refine NmIs.sp nx fun H1 s1 => ⟨false, rfl, iteF ?_⟩
    exact ⟨_, rfl, .inl ⟨0, 1, rfl, rfl, by decide, by decide, by decide, fun r H2 s2 h2 => k r H2 (s1.trans s2) h2⟩⟩
theorem scOfB : FnScope ["things"] ["things"] (defScope (balM 2)) := ⟨rfl, rfl, rfl, by decide +kernel, rfl, by decide +kernel, by decide +kernel⟩
theorem ok_ofB {f fN fC : Addr} {fd fdN fdC : FuncData} (F : MtP K "of" "Balance.of" (balM 2) f fd) (B : BalK P w K mg base CB C) (M : ErrN P w K mg base "BadBalance" BB ["part"])
    (GN : FnOk P w K mg base CX0 3 fN fdN ["value"] (spNms K)) (bN : Binds K fdN ["value"] []) (kN : PySem.W.keepIn K (.ref fN) = true) (gN : mg "are_names" = some (.ref fN))
    (GC : FnOk P w K mg base CX0 1 fC fdC ["things"] (spCounts K)) (bC : Binds K fdC ["things"] []) (kC : PySem.W.keepIn K (.ref fC) = true) (gC : mg "_counts" = some (.ref fC)) :
    FnR P w K mg base (L2.CX P w) 12 f (SpV (spOfB K CB C BB)) := by
  refine FunD.okV (k := 11) F scOfB (fun vs H Q E h => ?_) (fun cdv A outer s H vs Q E hr h => ?_)
  · obtain ⟨a, xs, rfl, _⟩ := h
    rfl
  · obtain ⟨a, xs, rfl, ha, h⟩ := h
    have hr11 : Room 11 _ := hr
    refine ⟨_, (pss_cons (ps_if (pt_not (pt_val (pe_call GN (hr11.mono (by decide)) rfl gN kN bN .nil pass0 (pa_cons (pv 0) pa_nil)))) (pss_one (ps_raiseN rfl M (hr11.mono (by decide)) (takes_of rfl rfl rfl rfl) (by rfl) (pa_cons pe_str pa_nil))) pss_nil)
      (pss_one (ps_ret (pe_bal B (by exact hr11.mono (by decide)) (E := E0) passL rfl (pa_cons (pe_call GC (hr11.mono (by decide)) rfl gC kC bC .nil pass0 (pa_cons (pv 0) pa_nil)) pa_nil))))), ?_⟩
    rcases h with ⟨l, rfl, ns, l60, k⟩ | ⟨bs, lx, lb, nm, f, rz⟩
    · refine ⟨_, rfl, _, rfl, .inl ⟨a, l.map V.str, l.map (fun _ => true), rfl, .inr ha, by rw [List.length_map]; exact ns.1, by simp only [List.length_map], names_all _ ns.2, fun H1 s1 => ⟨true, congrArg V.bl (all_trues _), iteF ?_⟩⟩⟩
      dsimp only [tNext]
      refine ⟨_, rfl, a, l, rfl, .inr (s1 _ _ ha), l60, fun d kvs H2 s2 hd hI => ?_⟩
      obtain ⟨nok, pos⟩ := cntN_ok ns l60
      refine ⟨_, rfl, d, kvs, (cntN l).1, (cntN l).2, rfl, hd, hI.num, nok, fun a1 ys H3 s3 n1 py sy hb => ?_⟩
      have nzy : nz (cntN l).2 ys = ys := List.filter_eq_self.mpr fun n m => by
        have := (pos n (py.mem_iff.mp m)).1
        simp only [Bool.not_eq_true', decide_eq_false_iff_not]
        omega
      rw [nzy] at hb
      exact k a1 ys H3 ((s1.trans s2).trans s3) py sy hb
    · refine ⟨_, rfl, _, rfl, .inl ⟨a, xs, bs, rfl, .inr ha, lx, lb, nm, fun H1 s1 => ⟨false, congrArg V.bl f, iteT ?_⟩⟩⟩
      exact raiseN M rfl (by decide) (Rz.same rz s1)
end
end K04
namespace K04
open PySem PySem.Spec PyProof.Rows L2 RatM ClX
/-! ### what the balances' defs refuse -/
/-- x is no balance -/
def NoB (K : PySem.W.Frag) (CB : Addr) (H : Hp) (x : V) : Prop := ∃ t, TyX K H x t ∧ PySem.W.kitOne K t (.ref CB) = some false
theorem NoB.same {K : PySem.W.Frag} {CB : Addr} {H H' : Hp} {x : V} (h : NoB K CB H x) (s : Same H H') : NoB K CB H' x := let ⟨t, h1, h2⟩ := h; ⟨t, tyX_same h1 s, h2⟩
theorem NotNum.sameQ {K : PySem.W.Frag} {C : Addr} {H H' : Hp} {x : V} (h : NotNum K H C x) (s : Same H H') : NotNum K H' C x := let ⟨⟨t, h1, h2⟩, b⟩ := h; ⟨⟨t, tyX_same h1 s, h2⟩, IntIs.same b s⟩
/-- is_naming(x) is false -/
inductive OddM (K : PySem.W.Frag) (H : Hp) : V → Prop
  | ty {x : V} {t : Value} (h : TyX K H x t) (k : PySem.W.kitOne K t (.type "dict") = some false) : OddM K H x
  | keys {d : Addr} {kvs : List (Key × V)} {bs : List Bool} (hd : H d = some (.dK kvs)) (l : kvs.length ≤ 60) (lb : bs.length = kvs.length) (n : ∀ (i : Nat) x b, (kvs.map fun kv => kV kv.1)[i]? = some x → bs[i]? = some b → NmIs K H x b) (f : bs.all id = false) : OddM K H (.ref d)
  | vals {d : Addr} {kvs : List (Key × V)} {rs : List Bool} (hd : H d = some (.dK kvs)) (l : kvs.length ≤ 60) (n : ∀ kv ∈ kvs, ∃ x : Str, kv.1 = .inr x ∧ x.length ≤ 100000 ∧ nameT x.cps.toList = true) (lr : rs.length = kvs.length) (r : ∀ (i : Nat) x b, (kvs.map fun kv => kv.2)[i]? = some x → rs[i]? = some b → NmIs K H x b) (f : rs.all id = false) : OddM K H (.ref d)
theorem OddM.same {K : PySem.W.Frag} {H H' : Hp} {x : V} (h : OddM K H x) (s : Same H H') : OddM K H' x := by
  cases h with
  | ty h k => exact .ty (tyX_same h s) k
  | keys hd l lb n f => exact .keys (s _ _ hd) l lb (fun i x b e1 e2 => (n i x b e1 e2).same s) f
  | vals hd l n lr r f => exact .vals (s _ _ hd) l n lr (fun i kv b e1 e2 => (r i kv b e1 e2).same s) f
def spIsNmO (K : PySem.W.Frag) : Sp := fun vs H Q _ => ∃ x, vs = [x] ∧ OddM K H x ∧ ∀ H', Same H H' → Q (.bl false) H'
def spRenO (K : PySem.W.Frag) (BB : Addr) : Sp := fun vs H Q E => ∃ x y, vs = [x, y] ∧ OddM K H y ∧ Rz H E BB [("part", .str "names")]
def spSumO (K : PySem.W.Frag) (CB BB : Addr) : Sp := fun vs H Q E => ∃ x y k, vs = [x, y, .int k] ∧ NoB K CB H y ∧ Rz H E BB [("part", .str "other")]
def spAddO (K : PySem.W.Frag) (CB BB : Addr) : Sp := fun vs H Q E => ∃ x y, vs = [x, y] ∧ NoB K CB H y ∧ Rz H E BB [("part", .str "other")]
def spIsRO (K : PySem.W.Frag) (C : Addr) : Sp := fun vs H Q _ => ∃ x, vs = [x] ∧ NotNum K H C x ∧ Q (.bl false) H
def spTimesO (K : PySem.W.Frag) (C BX : Addr) : Sp := fun vs H Q E => ∃ x y, vs = [x, y] ∧ NotNum K H C y ∧ Rz H E BX [("part", .str "ratio")]
def spEqO (K : PySem.W.Frag) (CB : Addr) : Sp := fun vs H Q _ => ∃ x y, vs = [x, y] ∧ NoB K CB H y ∧ Q (.bl false) H
/-- the names of mean_of refused -/
inductive OddT (K : PySem.W.Frag) (H : Hp) : V → Prop
  | ty {x : V} {t : Value} (h : TyX K H x t) (k : PySem.W.kitAny K t [.type "list", .type "tuple"] = some false) : OddT K H x
  | its {a : Addr} {xs : List V} {bs : List Bool} (h : H a = some (.lst xs) ∨ H a = some (.tup xs)) (l : xs.length ≤ 60) (lb : bs.length = xs.length) (n : ∀ (i : Nat) x b, xs[i]? = some x → bs[i]? = some b → NmIs K H x b) (f : bs.all id = false ∨ xs = []) : OddT K H (.ref a)
theorem OddT.same {K : PySem.W.Frag} {H H' : Hp} {x : V} (h : OddT K H x) (s : Same H H') : OddT K H' x := by
  cases h with
  | ty h k => exact .ty (tyX_same h s) k
  | its h l lb n f => exact .its (h.imp (s _ _) (s _ _)) l lb (fun i x b e1 e2 => (n i x b e1 e2).same s) f
def spMeanO (K : PySem.W.Frag) (BB : Addr) : Sp := fun vs H Q E => ∃ x, vs = [x] ∧ OddT K H x ∧ Rz H E BB [("part", .str "things")]
section
variable {P : Program} {w : World} {K : PySem.W.Frag} {mg : Str → Option Value} {base : Heap} {C BR CB BB : Addr}
theorem ok_isNamingO {f fN : Addr} {fd fdN : FuncData} (F : FnP K "is_naming" (top 20) f fd) (bi : mg "isinstance" = none) (bD : mg "dict" = none) (bL : mg "list" = none)
    (GN : FnOk P w K mg base CX0 3 fN fdN ["value"] (spNms K)) (bN : Binds K fdN ["value"] []) (kN : PySem.W.keepIn K (.ref fN) = true) (gN : mg "are_names" = some (.ref fN)) : FnOk P w K mg base CX0 4 f fd ["value"] (spIsNmO K) := by
  refine F.ok scIn (fun vs H Q E h => ?_) (fun cdv A outer s H vs Q E hr h => ?_)
  · obtain ⟨x, rfl, _⟩ := h
    rfl
  · obtain ⟨x, rfl, h, k⟩ := h
    have hr3 : Room 3 _ := hr
    refine ⟨_, PSs.nox (pss_one (ps_ret (pe_and (pe_callB call_isi (by rfl) bi (by decide +kernel) (pa_cons (pv 0) (pa_cons (pe_bltn (v := .ty "dict") (by rfl) bD (by decide +kernel) rfl) pa_nil)))
      (pe_and (pe_call GN hr3 rfl gN kN bN .nil pass0 (pa_cons (pe_callTy (call_list_dK rfl) (by rfl) bL PyProof.Rows.boot_list (pa_cons (pv 0) pa_nil)) pa_nil))
        (pe_one (pe_call GN hr3 rfl gN kN bN .nil pass0 (pa_cons (pe_listVals rfl (by rfl) bL (pv 0)) pa_nil))))))), ?_⟩
    cases h with
    | ty h kk => exact ⟨_, rfl, _, _, _, _, _, rfl, .ty "dict", h, kk, _, rfl, iteF (k _ (Same.refl _))⟩
    | @keys d kvs bs hd l lb n f =>
      refine ⟨_, rfl, _, _, _, _, _, rfl, .ty "dict", .base (.dK hd), kit_ty (r := true) (by decide +kernel), _, rfl, iteT ?_⟩
      refine ⟨_, rfl, d, kvs, rfl, hd, fun q nq => ?_⟩
      exact ⟨_, rfl, .inl ⟨q, kvs.map fun kv => kV kv.1, bs, rfl, .inl upd_same, by rw [List.length_map]; omega, by rw [List.length_map]; exact lb, fun i x b e1 e2 => (n i x b e1 e2).same (same_upd nq), fun H1 s1 => ⟨false, congrArg V.bl f, iteF (k _ ((same_upd nq).trans s1))⟩⟩⟩
    | @vals d kvs rs hd l n lr r f =>
      refine ⟨_, rfl, _, _, _, _, _, rfl, .ty "dict", .base (.dK hd), kit_ty (r := true) (by decide +kernel), _, rfl, iteT ?_⟩
      refine ⟨_, rfl, d, kvs, rfl, hd, fun q nq => ?_⟩
      refine ⟨_, rfl, .inl ⟨q, kvs.map fun kv => kV kv.1, kvs.map (fun _ => true), rfl, .inl upd_same, by rw [List.length_map]; omega, by rw [List.length_map, List.length_map], fun i x b e1 e2 => ?_, fun H1 s1 => ⟨true, congrArg V.bl (all_trues kvs), iteT ?_⟩⟩⟩
      · rw [List.getElem?_map] at e1 e2
        obtain ⟨kv, ek, rfl⟩ := Option.map_eq_some_iff.mp e1
        rw [ek] at e2
        cases e2
        obtain ⟨y, ey, l1, l2⟩ := n kv (List.mem_of_getElem? ek)
        exact .inl ⟨y, by rw [ey]; rfl, l1, l2.symm⟩
      have s2 := (same_upd nq).trans s1
      refine ⟨_, rfl, d, kvs, rfl, s2 _ _ hd, fun q2 nq2 => ?_⟩
      refine ⟨_, rfl, .inl ⟨q2, kvs.map fun kv => kv.2, rs, rfl, .inl upd_same, by rw [List.length_map]; omega, by rw [List.length_map]; exact lr, fun i x b e1 e2 => ((r i x b e1 e2).same s2).same (same_upd nq2), fun H2 s3 => ?_⟩⟩
      rw [f]
      exact k H2 ((s2.trans (same_upd nq2)).trans s3)
theorem ok_renamedO {f fN : Addr} {fd fdN : FuncData} (F : MtP K "renamed" "Balance.renamed" (balM 7) f fd) (O : OpsK P w K mg base CB C BR) (M : ErrN P w K mg base "BadBalance" BB ["part"])
    (GN : FnOk P w K mg base CX0 4 fN fdN ["value"] (spIsNmO K)) (bN : Binds K fdN ["value"] []) (kN : PySem.W.keepIn K (.ref fN) = true) (gN : mg "is_naming" = some (.ref fN)) :
    FnOk P w K mg base (L2.CX P w) 10 f fd ["self", "names"] (spRenO K BB) := by
  obtain ⟨fA, fdA, OA, GA, bA⟩ := O.add
  have B := O.B
  refine F.ok scRn (fun vs H Q E h => ?_) (fun cdv A outer s H vs Q E hr h => ?_)
  · obtain ⟨x, y, rfl, _⟩ := h
    rfl
  · obtain ⟨x, y, rfl, h, rz⟩ := h
    have hr9 : Room 9 _ := hr
    have hu1 : (A.deeper (envOfC (Str.ofString "Balance.renamed") (defScope (balM 7)) s.heap.objs.size f cdv)).units + 1 < cLine := by have := hr9.units; omega
    refine ⟨_, (pss_cons (ps_if (pt_not (pt_val (pe_call GN (hr9.mono (by decide)) rfl gN kN bN .nil pass0 (pa_cons (pv 1) pa_nil)))) (pss_one (ps_raiseN rfl M (hr9.mono (by decide)) (takes_of rfl rfl rfl rfl) (by rfl) (pa_cons pe_str pa_nil))) pss_nil)
      (pss_cons (ps_set (i := 2) scRn.nd rfl (.inl rfl) pe_dnewK)
      (pss_cons (ps_lock (ps_for (passes_of rfl) rfl (pi_items (pe_fld (pv 0) rfl)) (pg_tup rfl (pgs_cons (pg_name (i := 3) scRn.nd rfl (Or.inl rfl)) (pgs_cons (pg_name (i := 4) scRn.nd rfl (Or.inl rfl)) pgs_nil)))
        (pss_cons (ps_set (i := 5) scRn.nd rfl (.inl rfl) (pe_dget2 hu1 (pv 1) (pv 3) (pv 3) ⟨rfl, rfl, rfl, rfl⟩))
        (pss_one (ps_dput hu1 (pv 2) (pv 5) (pe_op (op_rat (op := .Add) O.sf O.odd OA GA bA (by exact hr9.mono (by decide)) (E := E0) passL) (pv 4) (pe_dget2 hu1 (pv 2) (pv 5) pe_int ⟨rfl, rfl, rfl, rfl⟩)) (by rfl))))))
      (pss_one (ps_ret (pe_bal B (by exact hr9) (E := E0) passL rfl (pa_cons (pv 2) pa_nil))))))), ?_⟩
    refine ⟨_, rfl, y, rfl, h, fun H1 s1 => ⟨false, rfl, iteT ?_⟩⟩
    exact raiseN M rfl (by decide) (Rz.same rz s1)
theorem ok_summedO {f : Addr} {fd : FuncData} (F : FnP K "_summed" (top 42) f fd) (O : OpsK P w K mg base CB C BR) (M : ErrN P w K mg base "BadBalance" BB ["part"]) (bi : mg "isinstance" = none) :
    FnOk P w K mg base (L2.CX P w) 10 f fd ["one", "other", "factor"] (spSumO K CB BB) := by
  obtain ⟨fA, fdA, OA, GA, bA⟩ := O.add
  obtain ⟨fM, fdM, OM, GM, bM⟩ := O.mul
  obtain ⟨fN, fdN, MN, GN, bN⟩ := O.num
  have B := O.B
  refine F.ok scSm (fun vs H Q E h => ?_) (fun cdv A outer s H vs Q E hr h => ?_)
  · obtain ⟨x, y, kk, rfl, _⟩ := h
    rfl
  · obtain ⟨x, y, kk, rfl, ⟨t, ty, kt⟩, rz⟩ := h
    have hr9 : Room 9 _ := hr
    have hu1 : (A.deeper (envOfC (Str.ofString "_summed") (defScope (top 42)) s.heap.objs.size f cdv)).units + 1 < cLine := by have := hr9.units; omega
    refine ⟨_, (pss_cons (ps_if (pt_not (pt_val (pe_callB call_isi (by rfl) bi (by decide +kernel) (pa_cons (pv 1) (pa_cons (pe_glob (v := .ref _) rfl B.g rfl) pa_nil))))) (pss_one (ps_raiseN rfl M (hr9.mono (by decide)) (takes_of rfl rfl rfl rfl) (by rfl) (pa_cons pe_str pa_nil))) pss_nil)
      (pss_cons (ps_setDc (i := 3) (own := [("thing", 4)]) (g := gName 4) (tt := tYes) (tk := tVar 4) rfl scSm.nd rfl rfl (sw_trueD rfl rfl rfl (by decide +kernel)) (pi_tup (pe_fld (pv 0) rfl)) (blkOk_by (N := ["one", "other", "factor", "numbers", "thing"]) (sc := defScope (top 42)) (by decide +kernel))
      (fun _ _ _ _ _ => pg_name (i := 4) scSm.nd rfl (Or.inl rfl)) (fun _ _ _ _ _ => pts_nil) (fun _ _ _ _ _ => pv 4) (fun _ _ _ _ _ => pe_meth (pv 0) B.T.cls MN GN (by exact hr9.mono (by decide)) bN .nil (E := E0) pass0 (pa_cons (pv 4) pa_nil)))
      (pss_cons (ps_for (passes_of rfl) rfl (pi_tup (pe_fld (pv 1) rfl)) (pg_name (i := 4) scSm.nd rfl (.inl rfl)) (pss_one (ps_dput hu1 (pv 3) (pv 4) (pe_op (op_rat (op := .Add) O.sf O.odd OA GA bA (by exact hr9.mono (by decide)) (E := E0) passL) (pe_op (op_rat (op := .Mult) O.sf O.odd OM GM bM (by exact hr9.mono (by decide)) (E := E0) passL) (pe_meth (pv 1) B.T.cls MN GN (by exact hr9.mono (by decide)) bN .nil (E := E0) pass0 (pa_cons (pv 4) pa_nil)) (pv 2)) (pe_dget2 hu1 (pv 3) (pv 4) pe_int ⟨rfl, rfl, rfl, rfl⟩)) (by rfl))))
      (pss_one (ps_ret (pe_bal B (by exact hr9) (E := E0) passL rfl (pa_cons (pv 3) pa_nil))))))), ?_⟩
    refine ⟨_, rfl, _, _, _, _, _, rfl, .own CB, ty, kt, false, rfl, iteT ?_⟩
    exact raiseN M rfl (by decide) rz
theorem ok_addO {f fS : Addr} {fd fdS : FuncData} (F : MtP K "__add__" "Balance.__add__" (balM 8) f fd) (GS : FnOk P w K mg base (L2.CX P w) 10 fS fdS ["one", "other", "factor"] (spSumO K CB BB)) (bS : Binds K fdS ["one", "other", "factor"] []) (kS : PySem.W.keepIn K (.ref fS) = true) (gS : mg "_summed" = some (.ref fS)) :
    FnOk P w K mg base (L2.CX P w) 11 f fd ["self", "other"] (spAddO K CB BB) := by
  refine F.ok scAddB (fun vs H Q E h => ?_) (fun cdv A outer s H vs Q E hr h => ?_)
  · obtain ⟨x, y, rfl, _⟩ := h
    rfl
  · obtain ⟨x, y, rfl, h, rz⟩ := h
    have hr10 : Room 10 _ := hr
    refine ⟨_, pss_one (ps_ret (pe_call GS hr10 rfl gS kS bS .nil (passE (takes_of rfl rfl rfl rfl)) (pa_cons (pv 0) (pa_cons (pv 1) (pa_cons pe_int pa_nil))))), ?_⟩
    exact ⟨_, rfl, _, rfl, x, y, 1, rfl, h, rz⟩
theorem ok_subO {f fS : Addr} {fd fdS : FuncData} (F : MtP K "__sub__" "Balance.__sub__" (balM 9) f fd) (GS : FnOk P w K mg base (L2.CX P w) 10 fS fdS ["one", "other", "factor"] (spSumO K CB BB)) (bS : Binds K fdS ["one", "other", "factor"] []) (kS : PySem.W.keepIn K (.ref fS) = true) (gS : mg "_summed" = some (.ref fS)) :
    FnOk P w K mg base (L2.CX P w) 11 f fd ["self", "other"] (spAddO K CB BB) := by
  refine F.ok scSubB (fun vs H Q E h => ?_) (fun cdv A outer s H vs Q E hr h => ?_)
  · obtain ⟨x, y, rfl, _⟩ := h
    rfl
  · obtain ⟨x, y, rfl, h, rz⟩ := h
    have hr10 : Room 10 _ := hr
    refine ⟨_, pss_one (ps_ret (pe_call GS hr10 rfl gS kS bS .nil (passE (takes_of rfl rfl rfl rfl)) (pa_cons (pv 0) (pa_cons (pv 1) (pa_cons (pe_un un_neg pe_int) pa_nil))))), ?_⟩
    exact ⟨_, rfl, _, rfl, _, rfl, x, y, (-1), rfl, h, rz⟩
theorem ok_isRatioO {f : Addr} {fd : FuncData} (F : FnP K "is_ratio" (top 31) f fd) (R : RatG P w K mg base C BR) : FnOk P w K mg base CX0 2 f fd ["value"] (spIsRO K C) := by
  obtain ⟨fI, fdI, GI, bI, kI, gI⟩ := R.int
  refine F.ok scIR (fun vs H Q E h => ?_) (fun cdv A outer s H vs Q E hr h => ?_)
  · obtain ⟨x, rfl, _⟩ := h
    rfl
  · obtain ⟨x, rfl, ⟨⟨t, ty, kt⟩, h⟩, k⟩ := h
    have hr1 : Room 1 _ := hr
    refine ⟨_, PSs.nox (pss_one (ps_ret (pe_or (pe_callB call_isi (by rfl) R.bi (by decide +kernel) (pa_cons (pv 0) (pa_cons (pe_glob (v := .ref _) rfl R.g rfl) pa_nil))) (pe_one (pe_call GI hr1 rfl gI kI bI .nil pass0 (pa_cons (pv 0) pa_nil)))))), ?_⟩
    exact ⟨_, rfl, _, _, _, _, _, rfl, .own C, ty, kt, _, rfl, iteF ⟨_, rfl, _, _, rfl, h, k⟩⟩
theorem ok_timesO {f fI : Addr} {fd fdI : FuncData} {BX : Addr} (F : FnP K "_times" (top 43) f fd) (O : OpsK P w K mg base CB C BR) (M : ErrN P w K mg base "BadNumber" BX ["part"])
    (GI : FnOk P w K mg base CX0 2 fI fdI ["value"] (spIsRO K C)) (bI : Binds K fdI ["value"] []) (kI : PySem.W.keepIn K (.ref fI) = true) (gI : mg "is_ratio" = some (.ref fI)) :
    FnOk P w K mg base (L2.CX P w) 10 f fd ["balance", "ratio"] (spTimesO K C BX) := by
  obtain ⟨fM, fdM, OM, GM, bM⟩ := O.mul
  obtain ⟨fN, fdN, MN, GN, bN⟩ := O.num
  have B := O.B
  refine F.ok scTm (fun vs H Q E h => ?_) (fun cdv A outer s H vs Q E hr h => ?_)
  · obtain ⟨x, y, rfl, _⟩ := h
    rfl
  · obtain ⟨x, y, rfl, h, rz⟩ := h
    have hr9 : Room 9 _ := hr
    refine ⟨_, (pss_cons (ps_if (pt_not (pt_val (pe_call GI (hr9.mono (by decide)) rfl gI kI bI .nil pass0 (pa_cons (pv 1) pa_nil)))) (pss_one (ps_raiseN rfl M (hr9.mono (by decide)) (takes_of rfl rfl rfl rfl) (by rfl) (pa_cons pe_str pa_nil))) pss_nil)
      (pss_one (ps_ret (pe_bal B (by exact hr9) (E := E0) passL rfl (pa_cons (pe_dc (own := [("thing", 2)]) (g := gName 2) (tt := tYes) (tk := tVar 2) rfl scTm.nd (pi_tup (pe_fld (pv 0) rfl)) (blkOk_by (N := ["balance", "ratio", "thing"]) (sc := defScope (top 43)) (by decide +kernel))
      (fun _ _ _ _ _ => pg_name (i := 2) scTm.nd rfl (Or.inl rfl)) (fun _ _ _ _ _ => pts_nil) (fun _ _ _ _ _ => pv 2) (fun _ _ _ _ _ => pe_op (op_rat (op := .Mult) O.sf O.odd OM GM bM (by exact hr9.mono (by decide)) (E := E0) passL) (pe_meth (pv 0) B.T.cls MN GN (by exact hr9.mono (by decide)) bN .nil (E := E0) pass0 (pa_cons (pv 2) pa_nil)) (pv 1))) pa_nil))))), ?_⟩
    refine ⟨_, rfl, y, rfl, h, _, rfl, iteT ?_⟩
    exact raiseN M rfl (by decide) rz
theorem ok_mulO {f fS : Addr} {fd fdS : FuncData} {BX : Addr} (F : MtP K "__mul__" "Balance.__mul__" (balM 11) f fd) (GS : FnOk P w K mg base (L2.CX P w) 10 fS fdS ["balance", "ratio"] (spTimesO K C BX)) (bS : Binds K fdS ["balance", "ratio"] []) (kS : PySem.W.keepIn K (.ref fS) = true) (gS : mg "_times" = some (.ref fS)) :
    FnOk P w K mg base (L2.CX P w) 11 f fd ["self", "other"] (spTimesO K C BX) := by
  refine F.ok scMulB (fun vs H Q E h => ?_) (fun cdv A outer s H vs Q E hr h => ?_)
  · obtain ⟨x, y, rfl, _⟩ := h
    rfl
  · obtain ⟨x, y, rfl, h⟩ := h
    have hr10 : Room 10 _ := hr
    refine ⟨_, pss_one (ps_ret (pe_call GS hr10 rfl gS kS bS .nil (passE (takes_of rfl rfl rfl rfl)) (pa_cons (pv 0) (pa_cons (pv 1) pa_nil)))), ?_⟩
    exact ⟨_, rfl, _, rfl, x, y, rfl, h⟩
theorem ok_eqO {f : Addr} {fd : FuncData} (F : MtP K "__eq__" "Balance.__eq__" (balM 12) f fd) (T : BalC K CB) (gB : mg "Balance" = some (.ref CB)) (bi : mg "isinstance" = none) :
    FnOk P w K mg base CX0 1 f fd ["self", "other"] (spEqO K CB) := by
  refine F.ok scEqB (fun vs H Q E h => ?_) (fun cdv A outer s H vs Q E hr h => ?_)
  · obtain ⟨x, y, rfl, _⟩ := h
    rfl
  · obtain ⟨x, y, rfl, ⟨t, ty, kt⟩, k⟩ := h
    have hr0 : Room 0 _ := hr
    have kk := T.no "key" (by simp)
    refine ⟨_, PSs.nox (pss_one (ps_ret (pe_and (pe_callB call_isi (by rfl) bi (by decide +kernel) (pa_cons (pv 1) (pa_cons (pe_glob (v := .ref _) rfl gB rfl) pa_nil))) (pe_one (pe_cmpR (op_eqD hr0.units) (pe_fld (pv 0) rfl) (pe_fld (pv 1) rfl) (nomark _)))))), ?_⟩
    exact ⟨_, rfl, _, _, _, _, _, rfl, .own CB, ty, kt, false, rfl, iteF k⟩
theorem ok_meanO {f fN fC fM fR : Addr} {fd fdN fdC fdM : FuncData} (F : FnP K "mean_of" (top 40) f fd) (O : OpsK P w K mg base CB C BR) (M : ErrN P w K mg base "BadBalance" BB ["part"]) (bl : mg "len" = none)
    (GN : FnOk P w K mg base CX0 3 fN fdN ["value"] (spNms K)) (bN : Binds K fdN ["value"] []) (kN : PySem.W.keepIn K (.ref fN) = true) (gN : mg "are_names" = some (.ref fN))
    (GC : FnOk P w K mg base CX0 1 fC fdC ["things"] (spCounts K)) (bC : Binds K fdC ["things"] []) (kC : PySem.W.keepIn K (.ref fC) = true) (gC : mg "_counts" = some (.ref fC))
    (MM : OwnM K CB (PySem.dunder Operator.Mult.info.2) fM) (GM : FnOk P w K mg base (L2.CX P w) 11 fM fdM ["self", "other"] (spMulB CB C)) (bM : Binds K fdM ["self", "other"] []) (hc : PySem.W.selfFirst K CB = true) (hR : PySem.W.findIn K (.ref CB) (dunderR Operator.Mult.info.2) = some none)
    (M2 : OwnM K C (PySem.dunder Operator.Mult.info.2) fR) (hR2 : PySem.W.findIn K (.ref C) (dunderR Operator.Mult.info.2) = some none) (hsub : PySem.W.subIn K (.ref C) (.ref CB) = some false) :
    FnOk P w K mg base (L2.CX P w) 12 f fd ["things"] (spMeanO K BB) := by
  have B := O.B
  have R := O.R
  refine F.ok scMe (fun vs H Q E h => ?_) (fun cdv A outer s H vs Q E hr h => ?_)
  · obtain ⟨x, rfl, _⟩ := h
    rfl
  · obtain ⟨x, rfl, h, rz⟩ := h
    have hr11 : Room 11 _ := hr
    refine ⟨_, (pss_cons (ps_if (PW.pt (pw_or (pt_not (pt_val (pe_call GN (hr11.mono (by decide)) rfl gN kN bN .nil pass0 (pa_cons (pv 0) pa_nil)))) (pw_or1 (pt_cmpR op_eq (pe_callB call_len_seq (by rfl) bl PySem.boot_len (pa_cons (pv 0) pa_nil)) pe_int (nomark _))))) (pss_one (ps_raiseN rfl M (hr11.mono (by decide)) (takes_of rfl rfl rfl rfl) (by rfl) (pa_cons pe_str pa_nil))) pss_nil)
      (pss_one (ps_ret (pe_op (op_ownX (op := .Mult) MM hc hR M2 O.sf hR2 (Ne.symm B.n) hsub GM (by exact hr11) bM (E := E0) passL) (pe_bal B (by exact hr11.mono (by decide)) (E := E0) passL rfl (pa_cons (pe_call GC (hr11.mono (by decide)) rfl gC kC bC .nil pass0 (pa_cons (pv 0) pa_nil)) pa_nil)) (pe_rat2 R (by exact hr11.mono (by decide)) (E := E0) passL rfl (pa_cons pe_int (pa_cons (pe_callB call_len_seq (by rfl) bl PySem.boot_len (pa_cons (pv 0) pa_nil)) pa_nil))))))), ?_⟩
    cases h with
    | ty h kk =>
      refine ⟨_, rfl, _, rfl, .inr ⟨_, h, kk, fun H1 s1 => ⟨false, rfl, iteT ?_⟩⟩⟩
      exact raiseN M rfl (by decide) (Rz.same rz s1)
    | @its a xs bs hl l lb n f =>
      rcases hb : bs.all id with _ | _
      · refine ⟨_, rfl, _, rfl, .inl ⟨a, xs, bs, rfl, hl, by omega, lb, n, fun H1 s1 => ⟨false, congrArg V.bl hb, iteT ?_⟩⟩⟩
        exact raiseN M rfl (by decide) (Rz.same rz s1)
      · refine ⟨_, rfl, _, rfl, .inl ⟨a, xs, bs, rfl, hl, by omega, lb, n, fun H1 s1 => ⟨true, congrArg V.bl hb, iteF ?_⟩⟩⟩
        obtain rfl : xs = [] := f.resolve_left (by rw [hb]; decide)
        have sq : SqL K H1 a [] ∨ SqT K H1 a [] := hl.imp (fun e => SqL.of (s1 _ _ e)) (fun e => SqT.of (s1 _ _ e))
        refine ⟨_, rfl, a, [], rfl, sq, rfl, true, rfl, iteT ?_⟩
        exact raiseN M rfl (by decide) (Rz.same rz s1)
end
end K04
namespace K04
open PySem PySem.Spec PyProof.Rows L2 RatM ClX
abbrev scaM (i : Nat) : Stmt := inClass (top 49) i
/-- the class of scales -/
structure ScaC (K : PySem.W.Frag) (CS : Addr) : Prop where
  cls : Cls K CS
  no : ∀ f ∈ ([("_worths" : Str), ("things" : Str)] : List Str), NoAttr K CS f
def scaF (d t : Addr) : List (Str × V) := putF "things" (.ref t) (putF "_worths" (.ref d) [])
/-- a scale that gives the things ys the worths g -/
def ScaAt (H : Hp) (a CS C : Addr) (g : Str → Int × Int) (ys : List Str) : Prop := ∃ dx d t kvs, H a = some (.ins CS dx (scaF d t)) ∧ H d = some (.dK kvs) ∧ RatD H C g kvs ys
theorem ScaAt.same {H H' : Hp} {a CS C : Addr} {g : Str → Int × Int} {ys : List Str} (h : ScaAt H a CS C g ys) (s : Same H H') : ScaAt H' a CS C g ys := by
  obtain ⟨dx, d, t, kvs, h1, h2, h3⟩ := h
  exact ⟨dx, d, t, kvs, s _ _ h1, s _ _ h2, h3.same s⟩
theorem ScaAt.ins {H : Hp} {a CS C : Addr} {g : Str → Int × Int} {ys : List Str} (h : ScaAt H a CS C g ys) : InsAt H a CS := by
  obtain ⟨dx, d, t, kvs, h1, _⟩ := h
  exact ⟨dx, _, h1⟩
theorem RatD.but {H H' : Hp} {p dx CP C : Addr} {fs : List (Str × V)} {g : Str → Int × Int} {kvs : List (Key × V)} {ys : List Str} (h : RatD H C g kvs ys) (hp : H p = some (.ins CP dx fs)) (n2 : CP ≠ C) (k : But p H H') : RatD H' C g kvs ys :=
  Paired.mono' (fun _ _ ⟨x1, b', x2, dxb, x3⟩ => ⟨x1, b', x2, dxb, k _ _ (fun z => by
    rw [z, hp] at x3
    injection x3 with x3
    injection x3 with x3
    exact n2 x3) x3⟩) h
/-- what a scale may be made of -/
def ScaOf (C : Addr) (x : V) (H : Hp) (Q : (Str → Int × Int) → List Str → Prop) : Prop := ∃ (d : Addr) (kvs : List (Key × V)) (ks : List Str) (g : Str → Int × Int), x = .ref d ∧ H d = some (.dK kvs) ∧ NumD H C g kvs ks ∧ NsOk ks ∧ ∀ ys, ys.Perm ks → sortedS ys = true → Q g ys
def spScaI (CS C : Addr) : Sp := fun vs H Q _ => ∃ (p dx : Addr) (x : V), vs = [.ref p, x] ∧ H p = some (.ins CS dx []) ∧ ScaOf C x H fun g ys => ∀ H', But p H H' → ScaAt H' p CS C g ys → Q .non H'
section
variable {P : Program} {w : World} {K : PySem.W.Frag} {mg : Str → Option Value} {base : Heap} {C BR CB BB BP BC BN CP CM CS BS : Addr}
theorem scSI : FnScope ["self", "numbers", "told"] ["self", "numbers"] (defScope (scaM 0)) := ⟨rfl, rfl, rfl, by decide +kernel, rfl, by decide +kernel, by decide +kernel⟩
theorem ok_scaInit {f fN : Addr} {fd fdN : FuncData} (F : MtP K "__init__" "Scale.__init__" (scaM 0) f fd) (T : ScaC K CS) (n2 : CS ≠ C) (M : ErrN P w K mg base "BadScale" BS ["part"]) (bT : mg "tuple" = none)
    (GN : FnOk P w K mg base CX0 7 fN fdN ["value"] (spNin K C)) (bN : Binds K fdN ["value"] []) (kN : PySem.W.keepIn K (.ref fN) = true) (gN : mg "numbers_in" = some (.ref fN)) :
    FnOk P w K mg base (L2.CX P w) 8 f fd ["self", "numbers"] (spScaI CS C) := by
  refine F.ok scSI (fun vs H Q E h => ?_) (fun cdv A outer s H vs Q E hr h => ?_)
  · obtain ⟨p, dx, x, rfl, _⟩ := h
    rfl
  · obtain ⟨p, dx, x, rfl, hp, d, kvs, ks, g, rfl, hd, hk, ok, k⟩ := h
    have hr7 : Room 7 _ := hr
    refine ⟨_, (pss_cons (ps_set (i := 2) scSI.nd rfl (.inl rfl) (pe_call GN hr7 rfl gN kN bN .nil pass0 (pa_cons (pv 1) pa_nil)))
      (pss_cons (ps_if (pt_cmpR op_isN (pv 2) pe_non (nomark _)) (pss_one (ps_raiseN rfl M (hr7.mono (by decide)) (takes_of rfl rfl rfl rfl) (by rfl) (pa_cons pe_str pa_nil))) pss_nil)
      (pss_cons (ps_fld (pv 0) (pv 2) (by rfl))
      (pss_one (ps_fld (pv 0) (pe_callTy (call_tuple_dK rfl) (by rfl) bT PyProof.Rows.boot_tuple (pa_cons (pv 2) pa_nil)) (by rfl)))))), ?_⟩
    have nW := T.no "_worths" (by simp)
    have nT := T.no "things" (by simp)
    refine ⟨_, rfl, d, kvs, ks, g, rfl, hd, hk, ok.nd, ok.le, ok.nm, fun r ys kvs1 H1 s1 nr py sy hr1 hR1 => ?_⟩
    refine ⟨_, rfl, rfl, false, rfl, iteF ?_⟩
    dsimp only [tNext, tSeq, tAsg]
    have hp1 := s1 _ _ hp
    refine ⟨_, rfl, _, rfl, p, CS, dx, _, rfl, hp1, T.cls, nW, by decide, ?_⟩
    have bA : But p H (upd H1 p (.ins CS dx (putF "_worths" (.ref r) []))) := But.upd fun b o _ e => s1 _ _ e
    have nrp : r ≠ p := fun e => by rw [e, hp] at nr; cases nr
    have hrA : (upd H1 p (.ins CS dx (putF "_worths" (.ref r) []))) r = some (.dK kvs1) := (upd_ne nrp).trans hr1
    have hRA := hR1.but hp1 n2 (H' := upd H1 p (.ins CS dx (putF "_worths" (.ref r) []))) (But.upd fun b o _ e => e)
    have hpA : (upd H1 p (.ins CS dx (putF "_worths" (.ref r) []))) p = some (.ins CS dx (putF "_worths" (.ref r) [])) := upd_same
    generalize upd H1 p (.ins CS dx (putF "_worths" (.ref r) [])) = HA at bA hrA hRA hpA ⊢
    dsimp only [tNext, tSeq]
    refine ⟨_, rfl, r, kvs1, rfl, hrA, fun q nq => ?_⟩
    have sq := same_upd (o := .tup (kvs1.map fun e => kV e.1)) nq
    have nqp : q ≠ p := fun e => by rw [e, hpA] at nq; cases nq
    refine ⟨_, rfl, p, CS, dx, _, rfl, sq _ _ hpA, T.cls, nT, by show 1 < 1000; decide, ?_⟩
    refine k ys py sy _ (But.upd (bA.same sq)) ⟨dx, r, q, kvs1, ?_, ?_, ?_⟩
    · rw [upd_same]
      rfl
    · rw [upd_ne nrp]
      exact sq _ _ hrA
    · exact (hRA.same sq).but (sq _ _ hpA) n2 (But.upd fun b o _ e => e)
end
/-- Scale(x) -/
def MkS (CS C : Addr) (x : V) (H : Hp) (Q : VK) : Prop := ScaOf C x H fun g ys => ∀ p H', Same H H' → H p = none → ScaAt H' p CS C g ys → Q (.ref p) H'
theorem mkS_sp {CS C : Addr} {x : V} {H : Hp} {Q : VK} {E : XK} (h : MkS CS C x H Q) (a dx : Addr) (na : H a = none) (nd : H dx = none) (ne : dx ≠ a) :
    spScaI CS C [.ref a, x] (upd (upd H dx (.own a)) a (.ins CS dx [])) (fun v H2 => v = .non ∧ Q (.ref a) H2) E := by
  have s1 : Same H (upd (upd H dx (.own a)) a (.ins CS dx [])) := fun b o e => by rw [upd_ne (ne_of_none e na), upd_ne (ne_of_none e nd)]; exact e
  obtain ⟨d, kvs, ks, g, rfl, hd, hk, ok, k⟩ := h
  exact ⟨a, dx, _, rfl, upd_same, d, kvs, ks, g, rfl, s1 _ _ hd, hk.same s1, ok, fun ys py sy H' bt hs => ⟨rfl, k ys py sy a H' (fun b o e => bt b o (ne_of_none e na) (s1 b o e)) na hs⟩⟩
/-- what the functions of scales rest on -/
structure ScaK (P : Program) (w : World) (K : PySem.W.Frag) (mg : Str → Option Value) (base : Heap) (CS C : Addr) : Prop where
  T : ScaC K CS
  n2 : CS ≠ C
  g : mg "Scale" = some (.ref CS)
  make : ∃ (f : Addr) (fd : FuncData), Mk K CS f ∧ FnOk P w K mg base (L2.CX P w) 8 f fd ["self", "numbers"] (spScaI CS C) ∧ Binds K fd ["self", "numbers"] []
section
variable {X : Cx} {CS C : Addr} {E : XK} {p pos : Pos} {e1 : Expr} {ta : TA}
def tSca (CS C : Addr) (ta : TA) : TE := fun σ H Q => ta σ H fun vs H1 => ∃ x, vs = [x] ∧ MkS CS C x H1 Q
theorem pe_sca {P : Program} {w : World} {K : PySem.W.Frag} {mg : Str → Option Value} {base : Heap} (R : ScaK P w K mg base CS C) (hr : Room 9 X.A) (hx : Passes (L2.CX X.prog X.w) X E) (hg : Gl X "Scale") (ha : PA X [e1] ta)
    (h1 : X.prog = P := by rfl) (h2 : X.w = w := by rfl) (h3 : X.K = K := by rfl) (h4 : X.mg = mg := by rfl) (h5 : X.base = base := by rfl)
    (he : starEach [e1] X.env = (false, eval e1 X.env) :: starEach [] X.env := by rfl) (hpl : (backTo pos (starEach [] X.env)).any (·.1) = false := by rfl) :
    PE X (.Call (.Name "Scale" p) [e1] [] pos) (tSca CS C ta) := by
  subst h1 h2 h3 h4 h5
  obtain ⟨f, fd, M, F, b0⟩ := R.make
  refine ⟨fun pins s σ H Q I h => ?_⟩
  refine wpAny_Call_Name_kw (ld_glob I hg R.g ?_ (by decide))
  refine PySem.W.callWith_K (h₀ := X.base) I.ok.mod.kin M.kp (thn (ha.run pos pins s σ H _ I h) fun us s1 ⟨vs, H1, I1, r, q⟩ => ⟨I1.kIn, ?_⟩) he hpl
  obtain ⟨x, rfl, q⟩ := q
  exact run_make (dvs := []) (E := E) M F hr b0 .nil hx I1 r fun a dx na nd ne => mkS_sp q a dx na nd ne
end
end K04
namespace K04
open PySem PySem.Spec PyProof.Rows L2 RatM TL
/-! ### the text of a balance, its words -/
/-- what is read is what is written: a word that no ratio has as its text is none -/
theorem chkT_some {w : Str} {t b p q : Int} (h : chkT w t b = some (p, q)) : p = lowT t b ∧ q = lowB t b ∧ textR p q = w := by
  unfold chkT at h
  split at h
  · obtain ⟨rfl, rfl⟩ := Prod.mk.inj (Option.some.inj h)
    exact ⟨rfl, rfl, by assumption⟩
  · cases h
theorem ratioT_some {w : Str} {p q : Int} (h : ratioT w = some (p, q)) : textR p q = w ∧ 0 < q ∧ Int.gcd p q = 1 := by
  unfold ratioT at h
  split at h
  · obtain ⟨rfl, rfl, e⟩ := chkT_some h
    exact ⟨e, lowB_pos (by decide), low_gcd (by decide)⟩
  · rename_i n m _
    split at h
    · cases h
    · rename_i hm
      have hb : (m : Int) ≠ 0 := by omega
      obtain ⟨rfl, rfl, e⟩ := chkT_some h
      exact ⟨e, lowB_pos hb, low_gcd hb⟩
  · cases h
theorem ratioT_none {w : Str} (h : ∀ p q : Int, 0 < q → Int.gcd p q = 1 → textR p q ≠ w) : ratioT w = none := by
  cases e : ratioT w with
  | none => rfl
  | some z =>
    obtain ⟨p, q⟩ := z
    obtain ⟨e1, e2, e3⟩ := ratioT_some e
    exact absurd e1 (h p q e2 e3)
/-- the first sign of a text: a figure or a minus; the empty word is none -/
theorem text_head {p q : Int} (hq : 0 < q) : ∃ c r, tl (textR p q) = c :: r ∧ (c = 45 ∨ (48 ≤ c ∧ c ≤ 57)) := by
  rw [tl_text hq]
  by_cases h : p < 0
  · rw [if_pos h]
    exact ⟨45, _, rfl, .inl rfl⟩
  · rw [if_neg h, List.nil_append]
    cases e : numL p.natAbs with
    | nil => exact absurd e (numL_ne _)
    | cons c r =>
      have z := numL_digits p.natAbs c (by rw [e]; exact List.mem_cons_self)
      exact ⟨c, _, rfl, .inr (by omega)⟩
theorem ratioT_head {w : Str} {c : Nat} {r : List Nat} (e : tl w = c :: r) (h : c ≠ 45 ∧ (c < 48 ∨ 57 < c)) : ratioT w = none := by
  refine ratioT_none fun p q hq _ z => ?_
  obtain ⟨d, s, e2, h2⟩ := text_head (p := p) hq
  rw [← z, e2] at e
  obtain ⟨rfl, _⟩ := List.cons.inj e
  omega
theorem text_free {p q : Int} (hq : 0 < q) : 32 ∉ tl (textR p q) := by
  rw [tl_text hq]
  have f := numL_free (n := p.natAbs) (s := 32) (.inl (by decide))
  have f2 := numL_free (n := q.natAbs) (s := 32) (.inl (by decide))
  intro h
  rcases List.mem_append.mp h with h | h
  · split at h
    · simp at h
    · cases h
  · rcases List.mem_append.mp h with h | h
    · exact f h
    · split at h
      · cases h
      · rcases List.mem_cons.mp h with h | h
        · cases h
        · exact f2 h
theorem joinL_app {S : List Nat} : ∀ {a b : List (List Nat)}, a ≠ [] → b ≠ [] → joinL S (a ++ b) = joinL S a ++ (S ++ joinL S b)
  | [], _, h, _ => absurd rfl h
  | [p], [], _, h => absurd rfl h
  | [p], q :: r, _, _ => rfl
  | p :: q :: r, b, _, hb => by
    show p ++ (S ++ joinL S ((q :: r) ++ b)) = (p ++ (S ++ joinL S (q :: r))) ++ (S ++ joinL S b)
    rw [joinL_app (a := q :: r) (by simp) hb]
    simp only [List.append_assoc]
/-- the words of a term, of a sum of terms -/
def wordsN (n : Str) (x : Int × Int) : List Str := if (decide (x.2 = 1) && decide (x.1 = 1)) = true then [n] else [textR x.1 x.2, n]
def wordsB (g : Str → Int × Int) : List Str → List Str
  | [] => []
  | [n] => wordsN n (g n)
  | n :: m :: r => wordsN n (g n) ++ (("+" : Str) :: wordsB g (m :: r))
theorem wordsN_ne (n : Str) (x : Int × Int) : wordsN n x ≠ [] := by
  unfold wordsN
  split <;> simp
theorem wordsB_ne (g : Str → Int × Int) : ∀ {zs : List Str}, zs ≠ [] → wordsB g zs ≠ []
  | [], h => absurd rfl h
  | [n], _ => wordsN_ne _ _
  | n :: m :: r, _ => by
    show wordsN n (g n) ++ _ ≠ []
    simp
theorem tl_term (n : Str) (x : Int × Int) : tl (termT n x) = joinL [32] ((wordsN n x).map tl) := by
  unfold termT wordsN
  by_cases c : (decide (x.2 = 1) && decide (x.1 = 1)) = true
  · rw [if_pos c, if_pos c]
    rfl
  · rw [if_neg c, if_neg c, tl_append, tl_append, tl_append]
    show ([] ++ tl (textR x.1 x.2)) ++ [32] ++ tl n = tl (textR x.1 x.2) ++ ([32] ++ tl n)
    simp
theorem tl_balT (g : Str → Int × Int) : ∀ zs : List Str, zs ≠ [] → joinL (tl (" + " : Str)) ((zs.map fun n => termT n (g n)).map tl) = joinL [32] ((wordsB g zs).map tl)
  | [], h => absurd rfl h
  | [n], _ => tl_term n (g n)
  | n :: m :: r, _ => by
    have ih := tl_balT g (m :: r) (by simp)
    show tl (termT n (g n)) ++ (tl (" + " : Str) ++ joinL (tl (" + " : Str)) (((m :: r).map fun n => termT n (g n)).map tl)) = joinL [32] ((wordsN n (g n) ++ (("+" : Str) :: wordsB g (m :: r))).map tl)
    rw [ih, List.map_append, joinL_app (by simp [wordsN_ne]) (by simp), tl_term, List.map_cons]
    have e : joinL [32] (tl ("+" : Str) :: (wordsB g (m :: r)).map tl) = tl ("+" : Str) ++ ([32] ++ joinL [32] ((wordsB g (m :: r)).map tl)) := joinL_app (a := [tl ("+" : Str)]) (by simp) (by simp [wordsB_ne])
    rw [e]
    show _ ++ ([32, 43, 32] ++ _) = _ ++ ([32] ++ ([43] ++ ([32] ++ _)))
    simp
theorem name_free {n : Str} (h : nameT n.cps.toList = true) : 32 ∉ tl n := by
  unfold nameT at h
  simp only [Bool.and_eq_true] at h
  intro m
  have := List.all_eq_true.mp h.2.2.2 32 m
  exact absurd this (by decide +kernel)
theorem wordsN_free {n : Str} {x : Int × Int} (h : nameT n.cps.toList = true) (hq : 0 < x.2) : ∀ w ∈ wordsN n x, 32 ∉ tl w := by
  unfold wordsN
  split
  · intro w m
    rw [List.mem_singleton.mp m]
    exact name_free h
  · intro w m
    rcases List.mem_cons.mp m with rfl | m
    · exact text_free hq
    · rw [List.mem_singleton.mp m]
      exact name_free h
theorem wordsB_free {g : Str → Int × Int} : ∀ {zs : List Str}, (∀ n ∈ zs, nameT n.cps.toList = true ∧ 0 < (g n).2) → ∀ w ∈ wordsB g zs, 32 ∉ tl w
  | [], _, w, m => by cases m
  | [n], h, w, m => wordsN_free (h n List.mem_cons_self).1 (h n List.mem_cons_self).2 w m
  | n :: k :: r, h, w, m => by
    rcases List.mem_append.mp m with m | m
    · exact wordsN_free (h n List.mem_cons_self).1 (h n List.mem_cons_self).2 w m
    · rcases List.mem_cons.mp m with rfl | m
      · decide +kernel
      · exact wordsB_free (fun z hz => h z (List.mem_cons_of_mem _ hz)) w m
theorem wordsT_bal {g : Str → Int × Int} {zs : List Str} (ne : zs ≠ []) (h : ∀ n ∈ zs, nameT n.cps.toList = true ∧ 0 < (g n).2) : wordsT (balT g zs) = wordsB g zs := by
  unfold wordsT balT
  rw [if_neg (fun z => ne (List.length_eq_zero_iff.mp z))]
  have e : Txt.join " + " (zs.map fun n => termT n (g n)) = Txt.join " " (wordsB g zs) := by
    have i : ∀ x y : Str, tl x = tl y → x = y := fun x y h => List.cons.inj (TL.map_tl_inj (l := [x]) (m := [y]) (by rw [List.map_cons, List.map_cons, h])) |>.1
    refine i _ _ ?_
    rw [join_eq, join_eq, tl_join, tl_join]
    exact tl_balT g zs ne
  rw [e]
  exact split_join (y := " ") (s := 32) (S := []) rfl (by decide +kernel) (wordsB_ne g ne) (wordsB_free h)
theorem name_none {n : Str} (h : nameT n.cps.toList = true) : ratioT n = none := by
  unfold nameT at h
  simp only [Bool.and_eq_true] at h
  obtain ⟨_, _, h, _⟩ := h
  cases e : n.cps.toList with
  | nil => rw [e] at h; cases h
  | cons c r =>
    rw [e] at h
    have hc : c ∈ letS.cps.toList := of_decide_eq_true h
    have : ∀ d ∈ letS.cps.toList, 97 ≤ d := by decide +kernel
    have := this c hc
    exact ratioT_head (c := c) (r := r) e ⟨by omega, .inr (by omega)⟩
end K04
namespace K04
open PySem PySem.Spec PyProof.Rows L2 RatM ClX
/-! ### Reader.is_alone, name_above, free_name -/
/-- is the word w alone behind the reader -/
def spAlone (RC : Addr) : Sp := fun vs H Q _ => ∃ (a l : Addr) (k : Nat) (ws : List Str) (x : Str), vs = [.ref a, .str x] ∧ RdAt H a RC l k ws.length ∧ H l = some (.lst (ws.map V.str)) ∧
  ((ws.getD k "" ≠ x ∧ Q (.bl false) H) ∨ (ws.getD k "" = x ∧ k + 1 = ws.length ∧ ∀ H' : Hp, (∀ b, b ≠ a → H' b = H b) → RdAt H' a RC l (k + 1) ws.length → Q (.bl true) H'))
/-- the name above -/
def aboveT (n m : Str) : Prop := (n ≠ "" ∧ n.length < 12 ∧ m = n ++ "0") ∨ (n = "abcdefghij12" ∧ m = "abcdefghij13")
def spAbove : Sp := fun vs H Q _ => ∃ n m : Str, vs = [.str n] ∧ aboveT n m ∧ Q (.str m) H
def spFree : Sp := fun vs H Q _ => ∃ (n m : Str) (d : Addr), vs = [.str n, .ref d] ∧ H d = some (.dK []) ∧ aboveT n m ∧ Q (.str m) H
section
variable {P : Program} {w : World} {K : PySem.W.Frag} {mg : Str → Option Value} {base : Heap} {C BR CB BB RC BT : Addr}
theorem scAl : FnScope ["self", "word"] ["self", "word"] (defScope (rdM 7)) := ⟨rfl, rfl, rfl, by decide +kernel, rfl, by decide +kernel, by decide +kernel⟩
theorem ok_alone {f : Addr} {fd : FuncData} (F : MtP K "is_alone" "Reader.is_alone" (rdM 7) f fd) (D : RdK P w K mg base RC BT) : FnOk P w K mg base (L2.CX P w) 5 f fd ["self", "word"] (spAlone RC) := by
  obtain ⟨fP, fdP, MP, GP, bP⟩ := D.peek
  obtain ⟨fS, fdS, MS, GS, bS⟩ := D.step
  obtain ⟨fF, fdF, MF, GF, bF⟩ := D.finish
  refine F.ok scAl (fun vs H Q E h => ?_) (fun cdv A outer s H vs Q E hr h => ?_)
  · obtain ⟨a, l, k, ws, x, rfl, _⟩ := h
    rfl
  · obtain ⟨a, l, k, ws, x, rfl, ra, hl, h⟩ := h
    have hr4 : Room 4 _ := hr
    have hr1 : Room 1 _ := hr4.mono (by decide)
    have cl := D.T.cls
    refine ⟨_, pss_cons (ps_if (pt_cmpR op_ne (pe_meth0 (pv 0) cl MP GP hr1 bP .nil (E := E0) pass0) (pv 1) (nomark _)) (pss_one (ps_ret pe_bl)) pss_nil)
      (pss_cons (ps_expr (pe_meth0 (pv 0) cl MS GS hr1 bS .nil (E := E0) pass0))
      (pss_cons (ps_expr (pe_meth0 (pv 0) cl MF GF hr4 bF .nil (passE (takes_of rfl rfl rfl rfl)))) (pss_one (ps_ret pe_bl)))), ?_⟩
    obtain ⟨dx, ea⟩ := id ra
    refine ⟨_, rfl, a, dx, _, rfl, ea, lookR _ _ _ _ (by decide), a, l, k, ws, rfl, ra, hl, _, rfl, rfl, ?_⟩
    rcases h with ⟨ne, q⟩ | ⟨e, ke, q⟩
    · exact ⟨true, congrArg V.bl (by rw [decS, decide_eq_false ne]; rfl), iteT q⟩
    · refine ⟨false, congrArg V.bl (by rw [decS, decide_eq_true e]; rfl), iteF ?_⟩
      dsimp only [tNext, tSeq]
      refine ⟨_, rfl, a, dx, _, rfl, ea, lookR _ _ _ _ (by decide), a, l, k, _, rfl, ra, fun H1 off ra1 => ?_⟩
      obtain ⟨dx1, ea1⟩ := id ra1
      refine ⟨_, rfl, a, dx1, _, rfl, ea1, lookR _ _ _ _ (by decide), a, l, (k : Int) + 1, _, rfl, ra1, fun c => absurd c (by omega), fun _ => ?_⟩
      exact q H1 off ra1
theorem scAb : FnScope ["name", "stem"] ["name"] (defScope (top 22)) := ⟨rfl, rfl, rfl, by decide +kernel, rfl, by decide +kernel, by decide +kernel⟩
theorem ok_above {f : Addr} {fd : FuncData} (F : FnP K "name_above" (top 22) f fd) (bl : mg "len" = none) (hLo : ∃ t, mg "_LONGEST" = some (.int 12 t)) (hSi : ∃ t, mg "_SIGNS" = some (.str sigS t)) : FnOk P w K mg base CX0 1 f fd ["name"] spAbove := by
  obtain ⟨t1, hLo⟩ := hLo
  obtain ⟨t3, hSi⟩ := hSi
  refine F.ok scAb (fun vs H Q E h => ?_) (fun cdv A outer s H vs Q E hr h => ?_)
  · obtain ⟨n, m, rfl, _⟩ := h
    rfl
  · obtain ⟨n, m, rfl, h, q⟩ := h
    refine ⟨_, PSs.nox (pss_cons (ps_if (pt_cmpR op_eq (pv 0) pe_str (nomark _)) (pss_one (ps_ret pe_str)) pss_nil)
      (pss_cons (ps_if (pt_cmpR op_lt (pe_callB call_len (by rfl) bl PySem.boot_len (pa_cons (pv 0) pa_nil)) (pe_glob (v := .int 12) rfl hLo ⟨_, rfl⟩) (nomark _)) (pss_one (ps_ret (pe_op op_add_str (pv 0) pe_str))) pss_nil)
      (pss_cons (ps_set (i := 1) scAb.nd rfl (.inl rfl) (pe_bm PySem.F.plainAttrs_str PySem.F.slot_str_rstrip PySem.F.type_str_rstrip mt_rstripChars (pv 0) (pa_cons pe_str pa_nil)))
      (pss_cons (ps_if (pt_cmpR op_eq (pv 1) pe_str (nomark _)) (pss_one (ps_ret pe_non)) pss_nil)
      (pss_one (ps_ret (pe_op op_add_str (pe_slice sl_str (pv 1) po_none (po_some (pe_un un_neg pe_int))) (pe_ix ix_str (pe_glob (v := .str sigS) rfl hSi ⟨_, rfl⟩) (pe_op op_add (pe_bm PySem.F.plainAttrs_str PySem.F.slot_str_find PySem.F.type_str_find mt_find (pe_glob (v := .str sigS) rfl hSi ⟨_, rfl⟩) (pa_cons (pe_ix ix_str (pv 1) (pe_un un_neg pe_int) (fun _ _ => rfl)) pa_nil)) pe_int) (fun _ _ => rfl))))))))), ?_⟩
    rcases h with ⟨n0, ln, rfl⟩ | ⟨rfl, rfl⟩
    · refine ⟨_, rfl, rfl, false, congrArg V.bl (by rw [decS]; exact decide_eq_false n0), iteF ?_⟩
      dsimp only [tNext, tSeq]
      refine ⟨_, rfl, .str n, n.length, rfl, ⟨by rw [sizeLine_eq]; omega, rfl⟩, _, _, rfl, rfl, decide ((n.length : Int) < 12), rfl, ?_⟩
      rw [decide_eq_true (by omega)]
      refine iteT ?_
      exact ⟨_, rfl, _, _, rfl, rfl, by rw [sizeLine_eq]; show n.length + 1 ≤ _; omega, q⟩
    · have e1 : Txt.rstripChars "abcdefghij12" "z" = "abcdefghij12" := by decide +kernel
      have e2 : cutS "abcdefghij12" none (some (-1)) = "abcdefghij1" := by decide +kernel
      have e3 : atI ("abcdefghij12" : Str).cps.toList (-1) = some 50 := by decide +kernel
      have e4 : Txt.find sigS ⟨#[50]⟩ = 2 := by decide +kernel
      have e5 : atI sigS.cps.toList 3 = some 51 := by decide +kernel
      refine ⟨_, rfl, rfl, false, congrArg V.bl (by rw [decS]; exact decide_eq_false (by decide +kernel)), iteF ?_⟩
      dsimp only [tNext, tSeq]
      refine ⟨_, rfl, .str "abcdefghij12", 12, rfl, ⟨by rw [sizeLine_eq]; decide +kernel, rfl⟩, _, _, rfl, rfl, false, rfl, iteF ?_⟩
      dsimp only [tNext, tSeq, tAsg]
      refine ⟨_, rfl, rfl, "abcdefghij12", "z", rfl, rfl, by rw [sizeLine_eq]; decide +kernel, ?_⟩
      rw [e1]
      refine ⟨_, rfl, rfl, false, congrArg V.bl (by rw [decS]; exact decide_eq_false (by decide +kernel)), iteF ?_⟩
      dsimp only [tNext, tSeq, tAsg]
      refine ⟨_, rfl, 1, rfl, -1, rfl, "abcdefghij12", rfl, by rw [sizeLine_eq]; decide +kernel, ?_⟩
      rw [e2]
      refine ⟨rfl, _, rfl, 1, rfl, "abcdefghij12", -1, 50, rfl, rfl, by rw [sizeLine_eq]; decide +kernel, e3, sigS, ⟨#[50]⟩, rfl, rfl, ?_⟩
      rw [e4]
      exact ⟨2, 1, rfl, rfl, sigS, 3, 51, rfl, rfl, by rw [sizeLine_eq]; decide +kernel, e5, _, _, rfl, rfl, by rw [sizeLine_eq]; decide +kernel, q⟩
theorem scFr : FnScope ["name", "taken", "above"] ["name", "taken"] (defScope (top 23)) := ⟨rfl, rfl, rfl, by decide +kernel, rfl, by decide +kernel, by decide +kernel⟩
theorem ok_free {f fA : Addr} {fd fdA : FuncData} (F : FnP K "free_name" (top 23) f fd) (GA : FnOk P w K mg base CX0 1 fA fdA ["name"] spAbove) (bA : Binds K fdA ["name"] []) (kA : PySem.W.keepIn K (.ref fA) = true) (gA : mg "name_above" = some (.ref fA)) : FnOk P w K mg base CX0 2 f fd ["name", "taken"] spFree := by
  refine F.ok scFr (fun vs H Q E h => ?_) (fun cdv A outer s H vs Q E hr h => ?_)
  · obtain ⟨n, m, d, rfl, _⟩ := h
    rfl
  · obtain ⟨n, m, d, rfl, hd, h, q⟩ := h
    have hr1 : Room 1 _ := hr
    have hu1 : (A.deeper (envOfC (Str.ofString "free_name") (defScope (top 23)) s.heap.objs.size f cdv)).units + 1 < cLine := by have := hr1.units; omega
    refine ⟨_, PSs.nox (pss_cons (ps_set (i := 2) scFr.nd rfl (.inl rfl) (pe_call GA hr1 rfl gA kA bA .nil pass0 (pa_cons (pv 0) pa_nil)))
      (pss_cons (ps_while PassesOwn.never (PW.pt (pw_and (pt_cmp (pc_notN (pv 2))) (pw_and1 (pt_cmp (pc_din hu1 (pv 2) (pv 1)))))) (pss_one (ps_set (i := 2) scFr.nd rfl (.inl rfl) (pe_call GA hr1 rfl gA kA bA .nil pass0 (pa_cons (pv 2) pa_nil)))))
      (pss_one (ps_ret (pv 2))))), ?_⟩
    refine ⟨_, rfl, n, m, rfl, h, ?_⟩
    dsimp only [tNext, tSeq, tAsg]
    refine ⟨fun _ σ H1 => σ = [some (.str n), some (.ref d), some (.str m)] ∧ H1 = H, ⟨0, rfl, rfl⟩, ?_⟩
    rintro k σ H1 ⟨rfl, rfl⟩
    refine ⟨_, rfl, true, congrArg V.bl (by rw [decide_eq_false (fun z => by cases z)]; rfl), iteT ?_⟩
    exact ⟨_, rfl, _, rfl, d, none, rfl, DGet.k (k := .inr m) hd, false, rfl, iteF ⟨_, rfl, q⟩⟩
end
end K04
namespace K04
open PySem PySem.Spec PyProof.Rows L2 RatM ClX
/-! ### a term read -/
section
open TL
theorem spl_len {s : Nat} : ∀ (l acc : List Nat), (spl [s] 0 acc l).length ≤ l.length + 1 ∧ ∀ x ∈ spl [s] 0 acc l, x.length ≤ acc.length + l.length
  | [], acc => by
    rw [spl_nil]
    exact ⟨Nat.le_refl _, fun x h => by rw [List.mem_singleton.mp h]; exact Nat.le_refl _⟩
  | c :: r, acc => by
    by_cases h : pre [s] (c :: r) = true
    · rw [spl_hit h]
      obtain ⟨h1, h2⟩ := spl_len (s := s) r []
      refine ⟨by show (spl [s] 0 [] r).length + 1 ≤ r.length + 1 + 1; omega, fun x hx => ?_⟩
      rcases List.mem_cons.mp hx with rfl | hx
      · omega
      · have := h2 x hx
        simp only [List.length_nil, List.length_cons] at this ⊢
        omega
    · rw [spl_miss (Bool.eq_false_iff.mpr h)]
      obtain ⟨h1, h2⟩ := spl_len (s := s) r (acc ++ [c])
      refine ⟨by rw [List.length_cons]; omega, fun x hx => ?_⟩
      have := h2 x hx
      simp only [List.length_append, List.length_cons, List.length_nil] at this ⊢
      omega
theorem split_len {w y : Str} {s : Nat} (e : tl y = [s]) (k : ¬ Builtin.Str.strKind w < Builtin.Str.strKind y) : (Txt.split w y).length ≤ w.length + 1 ∧ ∀ x ∈ Txt.split w y, x.length ≤ w.length := by
  have h := split_spl w y (by rw [e]; simp) k
  rw [e] at h
  obtain ⟨h1, h2⟩ := spl_len (s := s) (tl w) []
  rw [← len_tl] at h1
  refine ⟨?_, fun x hx => ?_⟩
  · have z := congrArg List.length h
    rw [List.length_map] at z
    omega
  · have z : tl x ∈ (Txt.split w y).map tl := List.mem_map_of_mem hx
    rw [h] at z
    have y2 := h2 _ z
    rw [len_tl, len_tl]
    simpa using y2
theorem rp_len (x : Str) : (Txt.removeprefix x "-").length ≤ x.length := by
  rw [len_tl, remove_minus, len_tl]
  split
  · rw [List.length_drop]; omega
  · exact Nat.le_refl _
theorem rd_small1 {u : Str} (h : u.length ≤ 1000) : u.length ≤ 100000 ∧ (Txt.removeprefix u "-").length ≤ 100000 ∧ (Txt.split (Txt.removeprefix u "-") "/").length ≤ 100000 ∧ (∀ x ∈ Txt.split (Txt.removeprefix u "-") "/", x.length ≤ 100000) := by
  have r1 := rp_len u
  obtain ⟨s1, s2⟩ := split_len (w := Txt.removeprefix u "-") (y := "/") (s := 47) rfl (kind_ok (by decide +kernel))
  exact ⟨by omega, by omega, by omega, fun x hx => by have := s2 x hx; omega⟩
end
/-- all but a and d stay -/
def Off2 (a d : Addr) (H H' : Hp) : Prop := ∀ b o, b ≠ a → b ≠ d → H b = some o → H' b = some o
/-- a number that can be read back -/
structure RdN (n : Str) (x : Int × Int) : Prop where
  nm : nameT n.cps.toList = true
  ln : n.length ≤ 1000
  lt : (textR x.1 x.2).length ≤ 1000
  q0 : 0 < x.2
  g : Int.gcd x.1 x.2 = 1
  z1 : x.1.natAbs < 10 ^ 60
  z2 : x.2.natAbs < 10 ^ 60
  p0 : x.1 ≠ 0
def spRTerm (C RC : Addr) : Sp := fun vs H Q _ => ∃ (a d l : Addr) (last : Str) (k : Nat) (ws : List Str) (kvs : List (Key × V)) (g : Str → Int × Int) (ks : List Str) (n : Str), vs = [.ref a, .ref d, .str last] ∧
  RdAt H a RC l k ws.length ∧ H l = some (.lst (ws.map V.str)) ∧ H d = some (.dK kvs) ∧ NumD H C g kvs ks ∧ n ∉ ks ∧ ks.length ≤ 60 ∧ RdN n (g n) ∧ last.cps.toList < n.cps.toList ∧ (∀ i y, (wordsN n (g n))[i]? = some y → ws.getD (k + i) "" = y) ∧
  ∀ H' kvs', Off2 a d H H' → RdAt H' a RC l ((k + (wordsN n (g n)).length : Nat) : Int) ws.length → H' d = some (.dK kvs') → NumD H' C g kvs' (ks ++ [n]) → Q (.str n) H'
theorem RdAt.notRat {H : Hp} {a b C RC l : Addr} {k n p q : Int} (h : RdAt H a RC l k n) (r : RatAt H b C p q) : b ≠ a := fun z => by
  obtain ⟨dx, ea⟩ := h
  obtain ⟨dr, er⟩ := r
  rw [z, ea] at er
  have e := congrArg (fun o => match o with | some (HO.ins _ _ fs) => fs.length | _ => 0) er
  exact absurd (show (3 : Nat) = 5 from e) (by decide)
theorem RatAt.off2 {H H' : Hp} {a d b C RC l : Addr} {k n p q : Int} {kvs : List (Key × V)} (r : RatAt H b C p q) (h : RdAt H a RC l k n) (hd : H d = some (.dK kvs)) (off : Off2 a d H H') : RatAt H' b C p q := by
  have ne := h.notRat r
  obtain ⟨dr, er⟩ := r
  exact ⟨dr, off _ _ ne (ne_of er hd (by simp)) er⟩
theorem NumD.off2 {H H' : Hp} {a d C RC l : Addr} {k n : Int} {kvs kvs' : List (Key × V)} {g : Str → Int × Int} {ks : List Str} (hn : NumD H C g kvs' ks) (h : RdAt H a RC l k n) (hd : H d = some (.dK kvs)) (off : Off2 a d H H') : NumD H' C g kvs' ks :=
  Paired.mono' (fun _ _ ⟨e, z⟩ => ⟨e, z.imp (fun ⟨b, e2, r⟩ => ⟨b, e2, r.off2 h hd off⟩) id⟩) hn
section
variable {P : Program} {w : World} {K : PySem.W.Frag} {mg : Str → Option Value} {base : Heap} {C BR CB BB RC BT : Addr}
theorem scRT : FnScope ["reader", "numbers", "last", "number", "thing"] ["reader", "numbers", "last"] (defScope (top 47)) := ⟨rfl, rfl, rfl, by decide +kernel, rfl, by decide +kernel, by decide +kernel⟩
theorem ok_readTerm {f fN fM fE : Addr} {fd fdN fdM fdE : FuncData} (F : FnP K "_read_term" (top 47) f fd) (D : RdK P w K mg base RC BT)
    (GN : FnOk P w K mg base CX0 5 fN fdN ["word"] (spRIn K C)) (bN : Binds K fdN ["word"] []) (kN : PySem.W.keepIn K (.ref fN) = true) (gN : mg "ratio_in" = some (.ref fN))
    (GM : FnOk P w K mg base CX0 1 fM fdM ["value"] (spNm K)) (bM : Binds K fdM ["value"] []) (kM : PySem.W.keepIn K (.ref fM) = true) (gM : mg "is_name" = some (.ref fM))
    (ME : OwnM K C "__eq__" fE) (GE : FnOk P w K mg base CX0 3 fE fdE ["self", "other"] (spSame K C)) (bE : Binds K fdE ["self", "other"] []) (nf : PySem.W.notFirst K C (.type "int") = true) :
    FnOk P w K mg base (L2.CX P w) 6 f fd ["reader", "numbers", "last"] (spRTerm C RC) := by
  obtain ⟨fP, fdP, MP, GP, bP⟩ := D.peek
  obtain ⟨fS, fdS, MS, GS, bS⟩ := D.step
  obtain ⟨fR, fdR, MR, GR, bR⟩ := D.refuse
  refine F.ok scRT (fun vs H Q E h => ?_) (fun cdv A outer s H vs Q E hr h => ?_)
  · obtain ⟨a, d, l, last, k, ws, kvs, g, ks, n, rfl, _⟩ := h
    rfl
  · obtain ⟨a, d, l, last, k, ws, kvs, g, ks, n, rfl, ra, hl, hd, hn, nk, k60, rn, lt, hw, q⟩ := h
    have hr5 : Room 5 _ := hr
    have hr3 : Room 3 _ := hr5.mono (by decide)
    have hr1 : Room 1 _ := hr5.mono (by decide)
    have hu1 : (A.deeper (envOfC (Str.ofString "_read_term") (defScope (top 47)) s.heap.objs.size f cdv)).units + 1 < cLine := by have := hr5.units; omega
    have cl := D.T.cls
    refine ⟨_, (pss_cons (ps_set (i := 3) scRT.nd rfl (.inl rfl) (pe_call GN hr5 rfl gN kN bN .nil pass0 (pa_cons (pe_meth0 (pv 0) cl MP GP hr1 bP .nil (E := E0) pass0) pa_nil)))
      (pss_cons (ps_if (pt_cmp (pc_notN (pv 3))) (pss_cons (ps_if (PW.pt (pw_or (pt_cmpR (op_eqOwn ME GE hr3 bE (E := E0) pass0) (pv 3) pe_int (nomark _)) (pw_or1 (pt_cmpR (op_eqOwn ME GE hr3 bE (E := E0) pass0) (pv 3) pe_int (nomark _))))) (pss_one (ps_expr (pe_meth0 (pv 0) cl MR GR hr3 bR .nil (passE (takes_of rfl rfl rfl rfl))))) pss_nil) (pss_one (ps_expr (pe_meth0 (pv 0) cl MS GS hr1 bS .nil (E := E0) pass0)))) pss_nil)
      (pss_cons (ps_set (i := 4) scRT.nd rfl (.inl rfl) (pe_meth0 (pv 0) cl MP GP hr1 bP .nil (E := E0) pass0))
      (pss_cons (ps_if (PW.pt (pw_or (pt_not (pt_val (pe_call GM hr1 rfl gM kM bM .nil pass0 (pa_cons (pv 4) pa_nil)))) (pw_or1 (pt_cmpR op_le_str (pv 4) (pv 2) (nomark _))))) (pss_one (ps_expr (pe_meth0 (pv 0) cl MR GR hr3 bR .nil (passE (takes_of rfl rfl rfl rfl))))) pss_nil)
      (pss_cons (ps_dput hu1 (pv 1) (pv 4) (pe_ifExp (pt_cmpR op_isN (pv 3) pe_non (nomark _)) pe_int (pv 3)) (by rfl))
      (pss_cons (ps_expr (pe_meth0 (pv 0) cl MS GS hr1 bS .nil (E := E0) pass0)) (pss_one (ps_ret (pv 4))))))))), ?_⟩
    obtain ⟨dx, ea⟩ := id ra
    have nad : a ≠ d := ne_of ea hd (by simp)
    have nla : l ≠ a := ne_of hl ea (by simp)
    have nld : l ≠ d := ne_of hl hd (by simp)
    have l60 : kvs.length ≤ 60 := by rw [Paired.length hn]; exact k60
    have lkn : valV kvs (.inr n) = none := hn.noVal nk
    have nmI : ∀ Hx, NmIs K Hx (.str n) true := fun Hx => .inl ⟨n, rfl, by have := rn.ln; omega, rn.nm.symm⟩
    by_cases c : (decide ((g n).2 = 1) && decide ((g n).1 = 1)) = true
    · have ew : wordsN n (g n) = [n] := if_pos c
      rw [ew] at hw q
      have w0 : ws.getD k "" = n := hw 0 n rfl
      obtain ⟨b1, b2, b3, b4⟩ := rd_small1 rn.ln
      refine ⟨_, rfl, a, dx, _, rfl, ea, lookR _ _ _ _ (by decide), a, l, k, ws, rfl, ra, hl, ?_⟩
      rw [w0]
      refine ⟨_, rfl, b1, b2, b3, b4, fun p q' hpq => ?_, fun _ H1 s1 => ?_⟩
      · rw [name_none rn.nm] at hpq
        cases hpq
      dsimp only [tNext, tSeq, tAsg, gName]
      refine ⟨_, rfl, false, congrArg V.bl (by rw [decide_eq_true rfl]; rfl), iteF ?_⟩
      dsimp only [tNext, tSeq, tAsg, gName]
      have gp : g n = (1, 1) := by
        rw [Bool.and_eq_true, decide_eq_true_eq, decide_eq_true_eq] at c
        exact Prod.ext c.2 c.1
      have o1 : Off2 a d H H1 := fun b o _ _ e => s1 _ _ e
      have ra1 : RdAt H1 a RC l (k : Nat) ws.length := ⟨dx, s1 _ _ ea⟩
      have hl1 := s1 _ _ hl
      have hd1 := s1 _ _ hd
      have hn1 := hn.same s1
      have w1 := w0
      generalize hk1 : k = k1 at ra1 w1

      obtain ⟨dx1, ea1⟩ := id ra1
      refine ⟨_, rfl, a, dx1, _, rfl, ea1, lookR _ _ _ _ (by decide), a, l, k1, ws, rfl, ra1, hl1, ?_⟩
      rw [w1]
      dsimp only [tNext, tSeq, tAsg, gName]
      refine ⟨_, rfl, ?_⟩
      simp only [tNil, List.append_nil]
      refine NmIs.sp (nmI H1) fun H2 s2 => ⟨true, rfl, iteF ?_⟩
      refine ⟨_, rfl, _, rfl, n, last, rfl, rfl, false, congrArg V.bl (by rw [decide_eq_true lt]; rfl), iteF ?_⟩
      dsimp only [tNext, tSeq]
      have hd2 := s2 _ _ hd1
      have ra2 : RdAt H2 a RC l k1 ws.length := ⟨dx1, s2 _ _ ea1⟩
      have hn2 := hn1.same s2
      refine ⟨_, rfl, rfl, true, congrArg V.bl (decide_eq_true rfl), iteT ?_⟩
      refine ⟨_, rfl, _, rfl, d, _, rfl, DPut.k (k := .inr n) (v := (V.int 1)) hd2 (by rw [sizeLine_eq]; omega), ?_⟩
      rw [putK_new (V.int 1) lkn]
      have ea4 : (upd H2 d (.dK (kvs ++ [(.inr n, (V.int 1))]))) a = some (.ins RC dx1 (rdF l k1 ws.length)) := by
        rw [upd_ne nad]
        exact s2 _ _ ea1
      have hd4 : (upd H2 d (.dK (kvs ++ [(.inr n, (V.int 1))]))) d = some (.dK (kvs ++ [(.inr n, (V.int 1))])) := upd_same
      have o4 : Off2 a d H2 (upd H2 d (.dK (kvs ++ [(.inr n, (V.int 1))]))) := fun b o _ h2 e => by rw [upd_ne h2]; exact e
      have hn4 := hn2.off2 ra2 hd2 o4
      have h4r : ∀ b p q, RatAt H2 b C p q → RatAt (upd H2 d (.dK (kvs ++ [(.inr n, (V.int 1))]))) b C p q := fun b p q z => z.off2 ra2 hd2 o4
      have ra4 : RdAt (upd H2 d (.dK (kvs ++ [(.inr n, (V.int 1))]))) a RC l k1 ws.length := ⟨dx1, ea4⟩
      generalize upd H2 d (.dK (kvs ++ [(.inr n, (V.int 1))])) = H4 at ea4 hd4 o4 hn4 h4r ra4 ⊢
      dsimp only [tNext, tSeq]
      refine ⟨_, rfl, a, dx1, _, rfl, ea4, lookR _ _ _ _ (by decide), a, l, k1, _, rfl, ra4, fun H5 off ra5 => ?_⟩
      have o5 : Off2 a d H4 H5 := fun b o h1 _ e => by rw [off b h1]; exact e
      have h5 : ∀ b p q, RatAt H4 b C p q → RatAt H5 b C p q := fun b p q z => z.off2 ra4 hd4 o5
      have hn5 := hn4.off2 ra4 hd4 o5
      refine ⟨_, rfl, q H5 _ (fun b o h1 h2 e => o5 b o h1 h2 (o4 b o h1 h2 (s2 _ _ (o1 b o h1 h2 e)))) ?_ (by rw [off d nad.symm]; exact hd4) (Paired.snoc hn5 ⟨rfl, .inr ⟨by rw [gp], by rw [gp], by rw [gp]; decide⟩⟩)⟩
      rw [← hk1] at ra5
      exact ra5
    · have ew : wordsN n (g n) = [textR (g n).1 (g n).2, n] := if_neg c
      rw [ew] at hw q
      have w0 : ws.getD k "" = textR (g n).1 (g n).2 := hw 0 _ rfl
      have w1 : ws.getD (k + 1) "" = n := hw 1 n rfl
      obtain ⟨b1, b2, b3, b4⟩ := rd_small1 rn.lt
      have rt := ratioT_text rn.q0 rn.g rn.z1 rn.z2
      refine ⟨_, rfl, a, dx, _, rfl, ea, lookR _ _ _ _ (by decide), a, l, k, ws, rfl, ra, hl, ?_⟩
      rw [w0]
      refine ⟨_, rfl, b1, b2, b3, b4, fun p q' hpq r H0 s0 rr => ?_, fun hz => ?_⟩
      rotate_left
      · rw [rt] at hz
        cases hz
      rw [rt] at hpq
      obtain ⟨rfl, rfl⟩ := Prod.mk.inj (Option.some.inj hpq)
      dsimp only [tNext, tSeq, tAsg, gName]
      refine ⟨_, rfl, true, congrArg V.bl (by rw [decide_eq_false (fun z => by cases z)]; rfl), iteT ?_⟩
      dsimp only [tNext, tSeq, tAsg, gName]
      refine ⟨_, rfl, r, .type "int", rfl, rr.ins, ty_plain (plainT_int _), nf, r, _, _, _, rfl, rr, .inr (.inl ⟨0, rfl, _, rfl, false, congrArg V.bl ?_, iteF ?_⟩)⟩
      · rw [decide_eq_false rn.p0, Bool.and_false]
        rfl
      refine ⟨_, rfl, r, .type "int", rfl, rr.ins, ty_plain (plainT_int _), nf, r, _, _, _, rfl, rr, .inr (.inl ⟨1, rfl, _, rfl, false, congrArg V.bl (Bool.eq_false_iff.mpr c), iteF ?_⟩)⟩
      dsimp only [tNext, tSeq, tAsg, gName]
      have ea0 := s0 _ _ ea
      refine ⟨_, rfl, a, dx, _, rfl, ea0, lookR _ _ _ _ (by decide), a, l, k, _, rfl, ⟨dx, ea0⟩, fun H1 off ra1 => ?_⟩
      have o0 : Off2 a d H0 H1 := fun b o h1 _ e => by rw [off b h1]; exact e
      have o1 : Off2 a d H H1 := fun b o h1 h2 e => o0 b o h1 h2 (s0 _ _ e)
      have hl1 : H1 l = some (.lst (ws.map V.str)) := o1 _ _ nla nld hl
      have hd1 : H1 d = some (.dK kvs) := by rw [off d nad.symm]; exact s0 _ _ hd
      have rr1 := rr.off2 ⟨dx, ea0⟩ (s0 _ _ hd) o0
      have hn1 := (hn.same s0).off2 ⟨dx, ea0⟩ (s0 _ _ hd) o0
      dsimp only [tNext, tSeq, tAsg, gName]
      have ra1 : RdAt H1 a RC l ((k + 1 : Nat) : Int) ws.length := ra1
      generalize hk1 : k + 1 = k1 at ra1 w1

      obtain ⟨dx1, ea1⟩ := id ra1
      refine ⟨_, rfl, a, dx1, _, rfl, ea1, lookR _ _ _ _ (by decide), a, l, k1, ws, rfl, ra1, hl1, ?_⟩
      rw [w1]
      dsimp only [tNext, tSeq, tAsg, gName]
      refine ⟨_, rfl, ?_⟩
      simp only [tNil, List.append_nil]
      refine NmIs.sp (nmI H1) fun H2 s2 => ⟨true, rfl, iteF ?_⟩
      refine ⟨_, rfl, _, rfl, n, last, rfl, rfl, false, congrArg V.bl (by rw [decide_eq_true lt]; rfl), iteF ?_⟩
      dsimp only [tNext, tSeq]
      have hd2 := s2 _ _ hd1
      have ra2 : RdAt H2 a RC l k1 ws.length := ⟨dx1, s2 _ _ ea1⟩
      have hn2 := hn1.same s2
      refine ⟨_, rfl, rfl, false, congrArg V.bl (decide_eq_false fun z => by cases z), iteF ⟨_, rfl, ?_⟩⟩
      refine ⟨_, rfl, _, rfl, d, _, rfl, DPut.k (k := .inr n) (v := (V.ref r)) hd2 (by rw [sizeLine_eq]; omega), ?_⟩
      rw [putK_new (V.ref r) lkn]
      have ea4 : (upd H2 d (.dK (kvs ++ [(.inr n, (V.ref r))]))) a = some (.ins RC dx1 (rdF l k1 ws.length)) := by
        rw [upd_ne nad]
        exact s2 _ _ ea1
      have hd4 : (upd H2 d (.dK (kvs ++ [(.inr n, (V.ref r))]))) d = some (.dK (kvs ++ [(.inr n, (V.ref r))])) := upd_same
      have o4 : Off2 a d H2 (upd H2 d (.dK (kvs ++ [(.inr n, (V.ref r))]))) := fun b o _ h2 e => by rw [upd_ne h2]; exact e
      have hn4 := hn2.off2 ra2 hd2 o4
      have h4r : ∀ b p q, RatAt H2 b C p q → RatAt (upd H2 d (.dK (kvs ++ [(.inr n, (V.ref r))]))) b C p q := fun b p q z => z.off2 ra2 hd2 o4
      have ra4 : RdAt (upd H2 d (.dK (kvs ++ [(.inr n, (V.ref r))]))) a RC l k1 ws.length := ⟨dx1, ea4⟩
      generalize upd H2 d (.dK (kvs ++ [(.inr n, (V.ref r))])) = H4 at ea4 hd4 o4 hn4 h4r ra4 ⊢
      dsimp only [tNext, tSeq]
      refine ⟨_, rfl, a, dx1, _, rfl, ea4, lookR _ _ _ _ (by decide), a, l, k1, _, rfl, ra4, fun H5 off ra5 => ?_⟩
      have o5 : Off2 a d H4 H5 := fun b o h1 _ e => by rw [off b h1]; exact e
      have h5 : ∀ b p q, RatAt H4 b C p q → RatAt H5 b C p q := fun b p q z => z.off2 ra4 hd4 o5
      have hn5 := hn4.off2 ra4 hd4 o5
      refine ⟨_, rfl, q H5 _ (fun b o h1 h2 e => o5 b o h1 h2 (o4 b o h1 h2 (s2 _ _ (o1 b o h1 h2 e)))) ?_ (by rw [off d nad.symm]; exact hd4) (Paired.snoc hn5 ⟨rfl, .inl ⟨r, rfl, h5 r (g n).1 (g n).2 (h4r _ _ _ ((rr1.same s2)))⟩⟩)⟩
      rw [← hk1] at ra5
      exact ra5
end
end K04
namespace K04
open PySem PySem.Spec PyProof.Rows L2 RatM ClX
/-! ### Balance.read of a balance's text -/
/-- cls(x), the class of balances held by the i-th slot -/
theorem pe_balL {X : Cx} {CB C : Addr} {E : XK} {i : Nat} {x : Str} {p pos : Pos} {e1 : Expr} {ta : TA} (R : BalK X.prog X.w X.K X.mg X.base CB C) (hr : Room 9 X.A) (hx : Passes (L2.CX X.prog X.w) X E) (hN : X.N[i]? = some x) (hv : Vis X.env.scope x) (ha : PA X [e1] ta)
    (hdb : (x == ("__debug__" : Str)) = false := by decide) (hcd : (x == ("__classdict__" : Str)) = false := by decide)
    (he : starEach [e1] X.env = (false, eval e1 X.env) :: starEach [] X.env := by rfl) (hpl : (backTo pos (starEach [] X.env)).any (·.1) = false := by rfl) :
    PE X (.Call (.Name x p) [e1] [] pos) (fun σ H Q => σ[i]? = some (some (.ref CB)) ∧ tBal CB C ta σ H Q) := by
  obtain ⟨f, fd, M, F, b0⟩ := R.make
  refine ⟨fun pins s σ H Q I h => ?_⟩
  obtain ⟨hs, ht⟩ := h
  refine wpAny_Call_Name_kw (thn ((pe_var (pos := p) hN hv hdb hcd).run pins s σ H (fun v H1 => v = .ref CB ∧ H1 = H) I ⟨.ref CB, hs, rfl, rfl⟩) fun u s1 ⟨v, H1, I1, rr, q1⟩ => ?_)
  obtain ⟨rfl, rfl⟩ := q1
  cases rr
  refine PySem.W.callWith_K (h₀ := X.base) I1.ok.mod.kin M.kp (thn (ha.run pos pins s1 σ _ _ I1 ht) fun us s2 ⟨vs, H2, I2, r, q⟩ => ⟨I2.kIn, ?_⟩) he hpl
  obtain ⟨x, rfl, q⟩ := q
  exact run_make (dvs := []) (E := E) M F hr b0 .nil hx I2 r fun a dx na nd ne => mkB_sp q a dx na nd ne
theorem below_of {a b : Str} (h : leS a b) (ne : a ≠ b) : a.cps.toList < b.cps.toList := Classical.byContradiction fun z => ne (leS_antisymm h (show leS b a from List.not_lt.mp z))
theorem chain {done r : List Str} {n m : Str} (so : sortedS (done ++ n :: m :: r) = true) (nd : (done ++ n :: m :: r).Nodup) : n.cps.toList < m.cps.toList := by
  have p := (List.pairwise_append.mp (sortedS_iff.mp so)).2.1
  have q := (List.nodup_append.mp nd).2.1
  exact below_of ((List.pairwise_cons.mp p).1 m List.mem_cons_self) fun e => (List.nodup_cons.mp q).1 (by rw [e]; exact List.mem_cons_self)
/-- the words behind a term -/
def restW (g : Str → Int × Int) : List Str → List Str
  | [] => []
  | m :: r => "+" :: wordsB g (m :: r)
theorem wordsB_cons (g : Str → Int × Int) (n : Str) (r : List Str) : wordsB g (n :: r) = wordsN n (g n) ++ restW g r := by
  cases r with
  | nil => show wordsN n (g n) = wordsN n (g n) ++ []; rw [List.append_nil]
  | cons m r => rfl
theorem getD_drop {ws a b : List Str} {k : Nat} (e : ws.drop k = a ++ b) : ∀ i y, a[i]? = some y → ws.getD (k + i) "" = y := fun i y h => by
  have z : (ws.drop k)[i]? = some y := by rw [e, List.getElem?_append_left (List.getElem?_eq_some_iff.mp h).1]; exact h
  rw [List.getElem?_drop] at z
  rw [List.getD_eq_getElem?_getD, z]
  rfl
theorem drop_on {ws a b : List Str} {k : Nat} (e : ws.drop k = a ++ b) : ws.drop (k + a.length) = b := by
  rw [← List.drop_drop, e, List.drop_left]
def spReadB (CB C : Addr) : Sp := fun vs H Q _ => ∃ (g : Str → Int × Int) (zs : List Str), vs = [.ref CB, .str (balT g zs)] ∧ NsOk zs ∧ sortedS zs = true ∧ (∀ n ∈ zs, RdN n (g n) ∧ ∃ m, aboveT n m) ∧ (balT g zs).length ≤ 100000 ∧
  (∀ n ∈ zs, (g n).1.natAbs < 2 ^ 1900 ∧ (g n).2.natAbs < 2 ^ 1900) ∧ ∀ a' H', Same H H' → BalAt H' a' CB C g zs → Q (.ref a') H'
/-- where the loop stands -/
def RBW (H : Hp) (CB C RC a d l : Addr) (T : Str) (ws : List Str) (g : Str → Int × Int) (zs : List Str) (m : Nat) (σ : L2.St) (Hx : Hp) : Prop := ∃ (done : List Str) (n : Str) (r : List Str) (k : Nat) (kvs : List (Key × V)), zs = done ++ n :: r ∧ m = r.length ∧
  σ = [some (.ref CB), some (.str T), some (.ref a), some (.ref d), some (.str n)] ∧ Same H Hx ∧ RdAt Hx a RC l k ws.length ∧ Hx l = some (.lst (ws.map V.str)) ∧ Hx d = some (.dK kvs) ∧ NumD Hx C g kvs (done ++ [n]) ∧ ws.drop k = restW g r
theorem first_word {g : Str → Int × Int} {n : Str} {r : List Str} (h : RdN n (g n)) : (wordsB g (n :: r)).getD 0 "" ≠ "0" := by
  have e : (wordsB g (n :: r)).getD 0 "" = (wordsN n (g n)).getD 0 "" := by
    rw [wordsB_cons]
    cases z : wordsN n (g n) with
    | nil => exact absurd z (wordsN_ne _ _)
    | cons x y => rfl
  rw [e]
  unfold wordsN
  split
  · show n ≠ "0"
    intro z
    have := h.nm
    rw [z] at this
    exact absurd this (by decide +kernel)
  · show textR (g n).1 (g n).2 ≠ "0"
    intro z
    have t := ratioT_text h.q0 h.g h.z1 h.z2
    rw [z] at t
    have e2 : ratioT "0" = some (0, 1) := by decide +kernel
    rw [e2] at t
    exact h.p0 (congrArg Prod.fst (Option.some.inj t)).symm
section
variable {P : Program} {w : World} {K : PySem.W.Frag} {mg : Str → Option Value} {base : Heap} {C BR CB BB RC BT : Addr}
theorem scRB : FnScope ["cls", "text", "reader", "numbers", "last"] ["cls", "text"] (defScope (balM 1)) := ⟨rfl, rfl, rfl, by decide +kernel, rfl, by decide +kernel, by decide +kernel⟩
theorem ok_readB {f fA fT fF : Addr} {fd fdA fdT fdF : FuncData} (F : MtP K "read" "Balance.read" (balM 1) f fd) (B : BalK P w K mg base CB C) (D : RdK P w K mg base RC BT)
    (MA : Meth K RC "is_alone" fA) (GA : FnOk P w K mg base (L2.CX P w) 5 fA fdA ["self", "word"] (spAlone RC)) (bA : Binds K fdA ["self", "word"] [])
    (GT : FnOk P w K mg base (L2.CX P w) 6 fT fdT ["reader", "numbers", "last"] (spRTerm C RC)) (bT : Binds K fdT ["reader", "numbers", "last"] []) (kT : PySem.W.keepIn K (.ref fT) = true) (gT : mg "_read_term" = some (.ref fT))
    (GF : FnOk P w K mg base CX0 2 fF fdF ["name", "taken"] spFree) (bF : Binds K fdF ["name", "taken"] []) (kF : PySem.W.keepIn K (.ref fF) = true) (gF : mg "free_name" = some (.ref fF)) :
    FnOk P w K mg base (L2.CX P w) 10 f fd ["cls", "text"] (spReadB CB C) := by
  obtain ⟨fO, fdO, GO, bO, kO, gO⟩ := D.of_
  obtain ⟨fP, fdP, MP, GP, bP⟩ := D.peek
  obtain ⟨fS, fdS, MS, GS, bS⟩ := D.step
  obtain ⟨fN, fdN, MN, GN, bN⟩ := D.finish
  refine F.ok scRB (fun vs H Q E h => ?_) (fun cdv A outer s H vs Q E hr h => ?_)
  · obtain ⟨g, zs, rfl, _⟩ := h
    rfl
  · obtain ⟨g, zs, rfl, ok, so, rn, lT, sz, q⟩ := h
    have hr9 : Room 9 _ := hr
    have hr6 : Room 6 _ := hr9.mono (by decide)
    have hr5 : Room 5 _ := hr9.mono (by decide)
    have hr4 : Room 4 _ := hr9.mono (by decide)
    have hr3 : Room 3 _ := hr9.mono (by decide)
    have hr2 : Room 2 _ := hr9.mono (by decide)
    have hr1 : Room 1 _ := hr9.mono (by decide)
    have cl := D.T.cls
    refine ⟨_, (pss_cons (ps_set (i := 2) scRB.nd rfl (.inl rfl) (pe_call GO hr3 rfl gO kO bO .nil (passE (takes_of rfl rfl rfl rfl)) (pa_cons (pv 1) pa_nil)))
      (pss_cons (ps_if (pt_val (pe_meth (pv 2) cl MA GA hr5 bA .nil (passE (takes_of rfl rfl rfl rfl)) (pa_cons pe_str pa_nil))) (pss_one (ps_ret (pe_balL (i := 0) B hr9 (E := E0) passL rfl (.inl rfl) (pa_cons pe_dnewK pa_nil)))) pss_nil)
      (pss_cons (ps_set (i := 3) scRB.nd rfl (.inl rfl) pe_dnewK)
      (pss_cons (ps_set (i := 4) scRB.nd rfl (.inl rfl) (pe_call GT hr6 rfl gT kT bT .nil (passE (takes_of rfl rfl rfl rfl)) (pa_cons (pv 2) (pa_cons (pv 3) (pa_cons pe_str pa_nil)))))
      (pss_cons (ps_while (passes_of rfl) (PW.pt (pw_and (pt_cmpR op_eq (pe_meth0 (pv 2) cl MP GP hr1 bP .nil (E := E0) pass0) pe_str (nomark _)) (pw_and1 (pt_cmp (pc_notN (pe_call GF hr2 rfl gF kF bF .nil pass0 (pa_cons (pv 4) (pa_cons pe_dnewK pa_nil))))))))
        (pss_cons (ps_expr (pe_meth0 (pv 2) cl MS GS hr1 bS .nil (E := E0) pass0)) (pss_one (ps_set (i := 4) scRB.nd rfl (.inl rfl) (pe_call GT hr6 rfl gT kT bT .nil (passE (takes_of rfl rfl rfl rfl)) (pa_cons (pv 2) (pa_cons (pv 3) (pa_cons (pv 4) pa_nil))))))))
      (pss_cons (ps_expr (pe_meth0 (pv 2) cl MN GN hr4 bN .nil (passE (takes_of rfl rfl rfl rfl))))
      (pss_one (ps_ret (pe_balL (i := 0) B hr9 (E := E0) passL rfl (.inl rfl) (pa_cons (pv 3) pa_nil)))))))))), ?_⟩
    by_cases z0 : zs = []
    · subst z0
      have ew : wordsT (balT g []) = [("0" : Str)] := by
        show wordsT "0" = [("0" : Str)]
        decide +kernel
      refine ⟨_, rfl, _, rfl, .inl ⟨balT g [], rfl, lT, fun a l H1 s1 ra hl na nla => ?_⟩⟩
      rw [ew] at ra hl
      obtain ⟨dx, ea⟩ := id ra
      dsimp only [tNext, tSeq, tAsg, gName]
      refine ⟨_, rfl, a, dx, _, rfl, ea, lookR _ _ _ _ (by decide), a, l, 0, [("0" : Str)], "0", rfl, ra, hl, .inr ⟨rfl, rfl, fun H2 off ra2 => ⟨true, rfl, iteT ?_⟩⟩⟩
      refine ⟨rfl, fun d nd => ⟨_, rfl, MkB.of upd_same .nil ⟨.nil, Nat.zero_le _, fun n m => by cases m⟩ rfl fun a' H3 s3 n3 hb => q a' H3 (fun b o e => s3 _ _ ((same_upd nd) _ _ (by rw [off b (ne_of_none e na)]; exact s1 _ _ e))) hb⟩⟩
    · obtain ⟨n, r, rfl⟩ : ∃ n r, zs = n :: r := by
        cases zs with
        | nil => exact absurd rfl z0
        | cons n r => exact ⟨n, r, rfl⟩
      have ew : wordsT (balT g (n :: r)) = wordsB g (n :: r) := wordsT_bal z0 fun x hx => ⟨(rn x hx).1.nm, (rn x hx).1.q0⟩
      have rn0 := (rn n List.mem_cons_self).1
      refine ⟨_, rfl, _, rfl, .inl ⟨balT g (n :: r), rfl, lT, fun a l H1 s1 ra hl na nla => ?_⟩⟩
      rw [ew] at ra hl
      have w1 := first_word (r := r) rn0
      have ed : (wordsB g (n :: r)).drop 0 = wordsN n (g n) ++ restW g r := wordsB_cons g n r
      generalize wordsB g (n :: r) = ws at ra hl w1 ed
      generalize balT g (n :: r) = T
      obtain ⟨dx, ea⟩ := id ra
      dsimp only [tNext, tSeq, tAsg, gName]
      refine ⟨_, rfl, a, dx, _, rfl, ea, lookR _ _ _ _ (by decide), a, l, 0, ws, "0", rfl, ra, hl, .inl ⟨w1, ⟨false, rfl, iteF ?_⟩⟩⟩
      dsimp only [tNext, tSeq, tAsg, gName]
      intro d nd
      have sd := same_upd (o := .dK []) nd
      have hdn : H d = none := s1.free nd
      have nad : a ≠ d := ne_of_none ea nd
      refine ⟨_, rfl, _, rfl, a, d, l, "", 0, ws, [], g, [], n, rfl, ⟨dx, sd _ _ ea⟩, sd _ _ hl, upd_same, .nil, by simp, Nat.zero_le _, rn0, ?_, getD_drop ed, fun H2 kvs2 o2 ra2 hd2 hn2 => ?_⟩
      · have := rn0.nm
        unfold nameT at this
        cases e : n.cps.toList with
        | nil => rw [e] at this; exact absurd this (by decide)
        | cons c y => exact List.nil_lt_cons c y
      dsimp only [tNext, tSeq, tAsg, gName]
      have sH2 : Same H H2 := fun b o e => o2 b o (ne_of_none e na) (ne_of_none e hdn) (sd _ _ (s1 _ _ e))
      have hl2 : H2 l = some (.lst (ws.map V.str)) := o2 _ _ nla (ne_of_none hl nd) (sd _ _ hl)
      refine ⟨RBW H CB C RC a d l T ws g (n :: r), ⟨_, [], n, r, _, kvs2, rfl, rfl, rfl, sH2, ra2, hl2, hd2, hn2, by rw [Nat.zero_add]; exact (by have := drop_on ed; rwa [Nat.zero_add] at this)⟩, ?_⟩
      rintro m σ Hx ⟨done, n', r', k, kvs, ez, rfl, rfl, sH, rx, hlx, hdx, hnx, ek⟩
      obtain ⟨dxx, eax⟩ := id rx
      cases r' with
      | nil =>
        have w2 : ws.getD k "" = "" := by
          have : ws.length ≤ k := List.drop_eq_nil_iff.mp ek
          rw [List.getD_eq_getElem?_getD, List.getElem?_eq_none this]
          rfl
        refine ⟨_, rfl, a, dxx, _, rfl, eax, lookR _ _ _ _ (by decide), a, l, k, ws, rfl, rx, hlx, rfl, false, ?_, iteF ?_⟩
        · rw [w2]
          exact congrArg V.bl (by rw [decS]; decide +kernel)
        dsimp only [tNext, tSeq, tAsg, gName]
        have lk : ws.length ≤ k := List.drop_eq_nil_iff.mp ek
        refine ⟨_, rfl, a, dxx, _, rfl, eax, lookR _ _ _ _ (by decide), a, l, (k : Int), _, rfl, rx, fun c => absurd c (by omega), fun _ => ?_⟩
        refine ⟨rfl, _, rfl, _, rfl, MkB.of hdx hnx (by rw [← ez]; exact ok) (by rw [← ez]; exact so) fun a' H3 s3 n3 hb => q a' H3 (sH.trans s3) ?_⟩
        rw [← ez] at hb
        have nzz : K04.nz g (n :: r) = n :: r := List.filter_eq_self.mpr fun x hx => by simp [(rn x hx).1.p0]
        rw [nzz] at hb
        exact hb
      | cons m' r'' =>
        have ek : ws.drop k = [("+" : Str)] ++ wordsB g (m' :: r'') := ek
        have w2 : ws.getD k "" = "+" := getD_drop ek 0 _ rfl
        have ek2 : ws.drop (k + 1) = wordsN m' (g m') ++ restW g r'' := by
          have := drop_on ek
          rw [wordsB_cons] at this
          exact this
        refine ⟨_, rfl, a, dxx, _, rfl, eax, lookR _ _ _ _ (by decide), a, l, k, ws, rfl, rx, hlx, rfl, true, ?_, iteT ?_⟩
        · rw [w2]
          exact congrArg V.bl (by rw [decS]; decide +kernel)
        have mem : n' ∈ n :: r := by rw [ez]; simp
        have mem2 : m' ∈ n :: r := by rw [ez]; simp
        obtain ⟨mm, hmm⟩ := (rn n' mem).2
        refine ⟨_, rfl, fun e ne => ?_⟩
        have se := same_upd (o := .dK []) ne
        refine ⟨n', mm, e, rfl, upd_same, hmm, true, congrArg V.bl (by rw [decide_eq_false (fun z => by cases z)]; rfl), iteT ?_⟩
        refine ⟨RBW H CB C RC a d l T ws g (n :: r) r''.length, fun σ' H' h => ⟨_, Nat.lt_succ_self _, h⟩, ?_⟩
        have rx1 : RdAt (upd Hx e (.dK [])) a RC l k ws.length := ⟨dxx, se _ _ eax⟩
        have eax1 := se _ _ eax
        have hl1 := se _ _ hlx
        have hd1 := se _ _ hdx
        have hn1 := hnx.same se
        have sH1 := sH.trans se
        generalize upd Hx e (.dK []) = Hy at rx1 eax1 hl1 hd1 hn1 sH1 ⊢
        refine ⟨_, rfl, a, dxx, _, rfl, eax1, lookR _ _ _ _ (by decide), a, l, (k : Int), _, rfl, rx1, fun H3 off rx3 => ?_⟩
        have o3 : Off2 a d Hy H3 := fun b o h1 _ e => by rw [off b h1]; exact e
        have hn3 := hn1.off2 rx1 hd1 o3
        have hd3 : H3 d = some (.dK kvs) := by rw [off d nad.symm]; exact hd1
        have hl3 : H3 l = some (.lst (ws.map V.str)) := by rw [off l nla]; exact hl1
        have rx3 : RdAt H3 a RC l ((k + 1 : Nat) : Int) ws.length := rx3
        have nd' : (done ++ n' :: m' :: r'').Nodup := by rw [← ez]; exact ok.nd
        dsimp only [tNext, tSeq, tAsg, gName]
        refine ⟨_, rfl, _, rfl, _, rfl, a, d, l, n', k + 1, ws, kvs, g, done ++ [n'], m', rfl, rx3, hl3, hd3, hn3, ?_, ?_, (rn m' mem2).1, chain (by rw [← ez]; exact so) nd', getD_drop ek2, fun H4 kvs4 o4 rx4 hd4 hn4 => ?_⟩
        · rw [show done ++ n' :: m' :: r'' = (done ++ [n']) ++ m' :: r'' by simp] at nd'
          exact fun h => (List.nodup_append.mp nd').2.2 _ h _ List.mem_cons_self rfl
        · have := ok.le
          rw [ez] at this
          simp only [List.length_append, List.length_cons, List.length_nil] at this ⊢
          omega
        refine ⟨done ++ [n'], m', r'', _, kvs4, by rw [ez]; simp, rfl, rfl, fun b o e => o4 b o (ne_of_none e na) (ne_of_none e hdn) (o3 b o (ne_of_none e na) (ne_of_none e hdn) (sH1 _ _ e)), rx4, ?_, hd4, hn4, drop_on ek2⟩
        exact o4 _ _ nla (ne_of hl3 hd3 (by simp)) hl3
end
end K04
namespace L2
open PySem PySem.Spec PyProof.Rows
/-! ### how often a text stands in a list of texts -/
def eqst (k : Str) (v : Value) : Bool := match v with
  | .str n _ => n.cps.toList == k.cps.toList
  | _ => false
theorem eqst_gives {k : Str} {t : Tok} : ∀ {us : List Value} {ns : List Str}, Vals (ns.map V.str) us → ∀ y ∈ us, MeetsSeq.EqGives y (.str k t) (eqst k y)
  | us, [], h => fun y hy => by
    cases h
    cases hy
  | us, n :: r, h => fun y hy => by
    cases h with
    | cons h1 h2 =>
      obtain ⟨t', rfl⟩ := h1
      rcases List.mem_cons.mp hy with e | e
      · rw [e]
        exact PySem.SeqRoads2.EqGives.str n k t' t
      · exact eqst_gives h2 y e
theorem eqst_count {k : Str} : ∀ {us : List Value} {ns : List Str}, Vals (ns.map V.str) us → us.countP (eqst k) = ns.countP fun x => decide (x = k)
  | us, [], h => by cases h; rfl
  | us, n :: r, h => by
    cases h with
    | cons h1 h2 =>
      obtain ⟨t', rfl⟩ := h1
      have ih := eqst_count (k := k) h2
      have e : eqst k (.str n t') = decide (n = k) := by
        show (n.cps.toList == k.cps.toList) = decide (n = k)
        by_cases c : n = k
        · rw [c]; simp
        · have : ¬ n.cps.toList = k.cps.toList := fun z => c (Str.ext' (Array.toList_inj.mp z))
          rw [decide_eq_false c]; exact beq_eq_false_iff_ne.mpr this
      rw [List.countP_cons, List.countP_cons, ih, e]
def rCntS (K : PySem.W.Frag) : V → List V → Hp → VK → Prop := fun x xs H Q => ∃ (p : Addr) (ns : List Str) (k : Str), x = .ref p ∧ xs = [.str k] ∧ SqL K H p (ns.map V.str) ∧ Q (.int (ns.countP (fun x => decide (x = k)) : Nat)) H
theorem mt_lcountS {X : Cx} : MtR X "list.count" (rCntS X.K) := by
  intro pins s σ H x xs v us Q I rx rxs h
  obtain ⟨p, ns, k, rfl, rfl, hs, q⟩ := h
  cases rx
  obtain ⟨u, rfl, ru⟩ := rxs.one
  obtain ⟨t, rfl⟩ := ru
  obtain ⟨its, rv, ⟨⟨cls, dd, data, sl⟩, n, ho, hc, hdn, hd⟩, hlen⟩ := I.list hs
  simp only at hc hd
  subst hc hd
  refine call_meets PySem.F.slot_list_count ⟨_, ho, rfl⟩ PySem.F.entry_list_count (PySem.F.args_list_count_2 _ _)
    (SeqAt.list_countAt p its.toArray n dd sl (.str k t) (eqst k)) ⟨ho, fun y hy => (eqst_gives rv y (by simpa using hy)).at _ _, ?_⟩
  have ec : its.toArray.toList.countP (eqst k) = ns.countP fun x => decide (x = k) := eqst_count rv
  refine ⟨.int (ns.countP (fun x => decide (x = k)) : Nat), H, I.tok _, ⟨s.toks, ?_⟩, q⟩
  show Value.int ((its.toArray.toList.countP (eqst k) : Nat) : Int) s.toks = Value.int ((ns.countP (fun x => decide (x = k)) : Nat) : Int) s.toks
  rw [ec]
end L2
namespace L2
open PySem PySem.Spec PyProof.Rows
/-! ### == and != of data without dicts, whatever signs its texts have -/
def rEqP (K : PySem.W.Frag) (f : Bool → Bool) : R2 := fun x y H Q => ∃ d e, Dp K H x d ∧ Dp K H y e ∧ d.plain = true ∧ e.plain = true ∧ min d.depth e.depth ≤ 60 ∧ Q (.bl (f (PyData.eqv d e))) H
section
variable {X : Cx}
theorem op_eqP (hu : X.A.units + 64 < cLine) : OpR X (compareOp .Eq) (rEqP X.K id) := by
  intro pins s σ H x y v u Q I rx ry h
  obtain ⟨d, e, hd, he, sd, se, ld, q⟩ := h
  obtain ⟨as, r1⟩ := Dp.reads I d x v hd rx
  obtain ⟨bs, r2⟩ := Dp.reads I e y u he ry
  exact SeqAt.eq_plain r1 r2 sd se (by omega) ⟨.bl _, H, I, rfl, q⟩
theorem op_neP (hu : X.A.units + 64 < cLine) : OpR X (compareOp .NotEq) (rEqP X.K not) := by
  intro pins s σ H x y v u Q I rx ry h
  obtain ⟨d, e, hd, he, sd, se, ld, q⟩ := h
  obtain ⟨as, r1⟩ := Dp.reads I d x v hd rx
  obtain ⟨bs, r2⟩ := Dp.reads I e y u he ry
  exact SeqAt.ne_plain r1 r2 sd se (by omega) ⟨.bl _, H, I, rfl, q⟩
end
/-! texts as data -/
theorem dp_strs {K : PySem.W.Frag} {H : Hp} : ∀ l : List Str, DpAll K H (l.map V.str) (l.map PyData.str)
  | [] => .nil
  | x :: t => .cons (.str x) (dp_strs t)
theorem plain_strs : ∀ l : List Str, PyData.plainAll (l.map PyData.str) = true
  | [] => rfl
  | x :: t => by
    have := plain_strs t
    simp only [List.map_cons, PyData.plainAll, PyData.plain, this, Bool.and_self]
theorem deep_strs : ∀ l : List Str, PyData.depthAll (l.map PyData.str) = 0
  | [] => rfl
  | x :: t => by
    have := deep_strs t
    simp [PyData.depthAll, PyData.depth, this]
theorem eqv_strs_nil (l : List Str) : PyData.eqv (.list (l.map PyData.str)) (.list []) = decide (l = []) := by
  cases l <;> rfl
end L2
namespace K04
open PySem PySem.Spec PyProof.Rows L2
abbrev sTill : Stmt := top 54
abbrev sCoin : Stmt := top 55
abbrev sOf : Stmt := top 56
/-- all but t stands -/
def Keep (t : Addr) (H H' : Hp) : Prop := ∀ b o, b ≠ t → H b = some o → H' b = some o
/-- what draws: at t the list of the cells' list c, how many were begun, what is left of a great one -/
structure Till (H : Hp) (t c : Addr) (cells : List Int) (i g : Int) : Prop where
  ht : H t = some (.lst [.ref c, .int i, .int g])
  hc : H c = some (.lst (cells.map V.int))
  ne : c ≠ t
structure Blt (mg : Str → Option Value) : Prop where
  int : mg "int" = none
  len : mg "len" = none
  abs : mg "abs" = none
theorem dp_ints {K : PySem.W.Frag} {H : Hp} : ∀ l : List Int, DpAll K H (l.map V.int) (l.map PyData.int)
  | [] => .nil
  | x :: l => .cons (.int x) (dp_ints l)
theorem can_ints : ∀ l : List Int, PyData.canLayAll0 (l.map PyData.int) = true
  | [] => rfl
  | x :: l => by
    have ih := can_ints l
    simp [PyData.canLayAll0, PyData.canLay0, ih]
theorem deep_ints : ∀ l : List Int, PyData.depthAll (l.map PyData.int) = 0
  | [] => rfl
  | x :: l => by
    have ih := deep_ints l
    simp [PyData.depthAll, PyData.depth, ih]
theorem shaped_ints (l : List Int) : SeqAt.shaped (.list (l.map PyData.int)) = true := by
  have h1 := can_ints l
  have h2 := deep_ints l
  simp [SeqAt.shaped, PyData.canLay0, PyData.depth, h1, h2]
theorem eqv_nil (l : List Int) : PyData.eqv (.list (l.map PyData.int)) (.list []) = l.isEmpty := by
  cases l <;> simp [PyData.eqv, PyData.eqvAll]
theorem mix1 {c i : Int} (h0 : 0 ≤ i) (h1 : i ≤ 1000000) : (c % 2147483489 + 52021 * i + 2017).natAbs < 2 ^ 64 := by
  have a := Int.emod_nonneg c (show (2147483489 : Int) ≠ 0 by decide)
  have b := Int.emod_lt_of_pos c (show (0 : Int) < 2147483489 by decide)
  omega
theorem mix2 {m i : Int} (h0 : 0 ≤ i) (h1 : i ≤ 1000000) (m0 : 0 ≤ m) (m1 : m < 2147483647) : (m * (2 * i + 1301) + 41011 * i * i + 52027).natAbs < 2 ^ 64 := by
  have a0 : 0 ≤ m * (2 * i + 1301) := Int.mul_nonneg m0 (by omega)
  have a1 : m * (2 * i + 1301) ≤ 2147483647 * 2100000 := Int.mul_le_mul (by omega) (by omega) (by omega) (by omega)
  have b0 : 0 ≤ 41011 * i * i := Int.mul_nonneg (by omega) h0
  have b1 : 41011 * i * i ≤ 61657000000 * 1000000 := Int.mul_le_mul (by omega) h1 h0 (by omega)
  omega
theorem modOk {x many : Int} (h : 0 < many) : 0 ≤ x.fmod many ∧ x.fmod many < many := by
  have e : x.fmod many = x % many := Int.fmod_eq_emod_of_nonneg x (by omega)
  rw [e]
  exact ⟨Int.emod_nonneg _ (by omega), Int.emod_lt_of_pos _ h⟩
theorem greatOk {a b : Int} (h : decide ((10 : Int) ^ (18 : Int).toNat ≤ a) = true) (hb : 0 ≤ b) : 0 ≤ 2 * (a - (10 : Int) ^ (18 : Int).toNat) + b := by
  have h2 := of_decide_eq_true h
  omega
theorem bitOk (c : Bool) : (0 : Int) ≤ if c = true then 1 else 0 := by cases c <;> decide
theorem emodB (x : Int) : -(2 ^ 64) < x % 2147483647 ∧ x % 2147483647 < 2 ^ 64 := by
  have a := Int.emod_nonneg x (show (2147483647 : Int) ≠ 0 by decide)
  have b := Int.emod_lt_of_pos x (show (0 : Int) < 2147483647 by decide)
  omega
theorem mix2E {x i : Int} (h0 : 0 ≤ i) (h1 : i ≤ 1000000) : ((x % 2147483647) * (2 * i + 1301) + 41011 * i * i + 52027).natAbs < 2 ^ 64 :=
  mix2 h0 h1 (Int.emod_nonneg x (by decide)) (Int.emod_lt_of_pos x (by decide))
theorem atB {i : Int} (h0 : 0 ≤ i) (h1 : i ≤ 1000000) : -(2 ^ 64) < 41011 * i ∧ 41011 * i < 2 ^ 64 := by omega
def spCoin : Sp := fun vs H Q _ => ∃ (t c : Addr) (cells : List Int) (i g many : Int), vs = [.ref t, .int many] ∧ Till H t c cells i g ∧ 0 ≤ i ∧ i ≤ 1000000 ∧ 0 ≤ g ∧ 0 < many ∧ many.natAbs < 2 ^ 8000 ∧
  ∀ (r i' g' : Int) (H' : Hp), 0 ≤ r → r < many → 0 ≤ i' → i' ≤ i + 1 → 0 ≤ g' → Keep t H H' → Till H' t c cells i' g' → Q (.int r) H'
section
variable {P : Program} {w : World} {K : PySem.W.Frag} {mg : Str → Option Value} {base : Heap}
theorem scC : FnScope ["_law_reel_here", "_law_many", "_law_rest", "_law_at", "_law_cell", "_law_mixed"] ["_law_reel_here", "_law_many"] (defScope sCoin) := ⟨rfl, rfl, rfl, by decide +kernel, rfl, by decide +kernel, by decide +kernel⟩
theorem ok_coin {f : Addr} {fd : FuncData} (F : FnP K "_law_turn" sCoin f fd) (T : Blt mg) : FnOk P w K mg base CX0 1 f fd ["_law_reel_here", "_law_many"] spCoin := by
  refine F.ok scC (fun vs H Q E h => ?_) (fun cdv A outer s H vs Q E hr h => ?_)
  · obtain ⟨t, c, cells, i, g, many, rfl, _⟩ := h
    rfl
  · obtain ⟨t, c, cells, i, g, many, rfl, hT, hi0, hi1, hg, hm0, hm1, k⟩ := h
    have hu := hu_of hr
    refine ⟨_, PSs.nox (pss_cons (ps_if (pt_cmpR op_gt (pe_ix ix_list (pv 0) pe_int (fun _ _ => rfl)) pe_int (nomark _)) (pss_cons (ps_set (i := 2) scC.nd rfl (.inl rfl) (pe_ix ix_list (pv 0) pe_int (fun _ _ => rfl)))
        (pss_cons (ps_asg (pe_op op_fdivW (pe_callTy call_int1 (by rfl) T.int PyProof.Rows.boot_int (pa_cons (pv 2) pa_nil)) (pv 1)) (pg_sub (pv 0) pe_int set_list))
        (pss_one (ps_ret (pe_op op_modN (pe_callTy call_int1 (by rfl) T.int PyProof.Rows.boot_int (pa_cons (pv 2) pa_nil)) (pv 1)))))) pss_nil)
        (pss_cons (ps_set (i := 3) scC.nd rfl (.inl rfl) (pe_ix ix_list (pv 0) pe_int (fun _ _ => rfl)))
        (pss_cons (ps_asg (pe_op op_add (pv 3) pe_int) (pg_sub (pv 0) pe_int set_list))
        (pss_cons (ps_set (i := 4) scC.nd rfl (.inl rfl) (pe_op op_add (pe_op op_mul pe_int (pv 3)) pe_int))
        (pss_cons (ps_if (pt_cmpR (op_neD hr.units) (pe_ix ix_list (pv 0) pe_int (fun _ _ => rfl)) (pe_lst pa_nil) (nomark _)) (pss_one (ps_set (i := 4) scC.nd rfl (.inl rfl) (pe_ix ix_list (pe_ix ix_list (pv 0) pe_int (fun _ _ => rfl)) (pe_op op_modN (pe_callTy call_int1 (by rfl) T.int PyProof.Rows.boot_int (pa_cons (pv 3) pa_nil)) (pe_callB call_len_seq (by rfl) T.len PySem.boot_len (pa_cons (pe_ix ix_list (pv 0) pe_int (fun _ _ => rfl)) pa_nil))) (fun _ _ => rfl)))) pss_nil)
        (pss_cons (ps_if (PW.pt (pw_and (pt_cmpR op_lt (pv 3) (pe_callB call_len_seq (by rfl) T.len PySem.boot_len (pa_cons (pe_ix ix_list (pv 0) pe_int (fun _ _ => rfl)) pa_nil)) (nomark _)) (pw_and1 (pt_cmpR op_ge (pe_callB call_abs (by rfl) T.abs (by decide +kernel) (pa_cons (pv 4) pa_nil)) (pe_op op_pow pe_int pe_int) (nomark _))))) (pss_cons (ps_set (i := 2) scC.nd rfl (.inl rfl) (pe_op op_add (pe_op op_mul pe_int (pe_op op_sub (pe_callB call_abs (by rfl) T.abs (by decide +kernel) (pa_cons (pv 4) pa_nil)) (pe_op op_pow pe_int pe_int))) (pe_callTy call_int1 (by rfl) T.int PyProof.Rows.boot_int (pa_cons (pe_cmpR op_lt (pv 4) pe_int (nomark _)) pa_nil))))
        (pss_cons (ps_asg (pe_op op_fdivW (pe_callTy call_int1 (by rfl) T.int PyProof.Rows.boot_int (pa_cons (pv 2) pa_nil)) (pv 1)) (pg_sub (pv 0) pe_int set_list))
        (pss_one (ps_ret (pe_op op_modN (pe_callTy call_int1 (by rfl) T.int PyProof.Rows.boot_int (pa_cons (pv 2) pa_nil)) (pv 1)))))) pss_nil)
        (pss_cons (ps_set (i := 5) scC.nd rfl (.inl rfl) (pe_op op_mod (pe_callTy call_int1 (by rfl) T.int PyProof.Rows.boot_int (pa_cons (pe_op op_pow (pe_op op_add (pe_op op_add (pe_op op_mod (pe_callTy call_int1 (by rfl) T.int PyProof.Rows.boot_int (pa_cons (pv 4) pa_nil)) pe_int) (pe_op op_mul pe_int (pv 3))) pe_int) pe_int) pa_nil)) pe_int))
        (pss_cons (ps_set (i := 5) scC.nd rfl (.inl rfl) (pe_op op_mod (pe_callTy call_int1 (by rfl) T.int PyProof.Rows.boot_int (pa_cons (pe_op op_pow (pe_op op_add (pe_op op_add (pe_op op_mul (pv 5) (pe_op op_add (pe_op op_mul pe_int (pv 3)) pe_int)) (pe_op op_mul (pe_op op_mul pe_int (pv 3)) (pv 3))) pe_int) pe_int) pa_nil)) pe_int))
        (pss_one (ps_ret (pe_op op_modN (pe_callTy call_int1 (by rfl) T.int PyProof.Rows.boot_int (pa_cons (pe_op op_fdiv (pv 5) pe_int) pa_nil)) (pv 1)))))))))))), ?_⟩
    have two : atI [V.ref c, V.int i, V.int g] 2 = some (.int g) := by rfl
    have mm : CDivW g many := wide_div hm0 hm1 (by decide) (by decide)
    refine ⟨_, rfl, _, _, _, _, rfl, rfl, SqL.of hT.ht, rfl, _, _, rfl, rfl, _, rfl, ?_⟩
    refine ite2 (fun hc => ?_) (fun hc => ?_)
    · refine ⟨_, rfl, _, _, _, _, rfl, rfl, SqL.of hT.ht, rfl, ?_⟩
      refine ⟨_, rfl, .inl ⟨_, rfl, _, rfl, _, _, rfl, rfl, mm, _, rfl, _, _, _, _, rfl, rfl, hT.ht, rfl, ?_⟩⟩
      refine ⟨_, rfl, .inl ⟨_, rfl, _, rfl, _, _, rfl, rfl, by omega, ?_⟩⟩
      have e1 : g.fmod many = g % many := Int.fmod_eq_emod_of_nonneg g (by omega)
      refine k _ _ _ _ ?_ ?_ hi0 (by omega) ?_ (fun b o hb e => by rw [upd_ne hb]; exact e) ⟨upd_same, by rw [upd_ne hT.ne]; exact hT.hc, hT.ne⟩
      · rw [e1]; exact Int.emod_nonneg _ (by omega)
      · rw [e1]; exact Int.emod_lt_of_pos _ hm0
      · exact Int.ediv_nonneg hg (by omega)
    · refine ⟨_, rfl, _, _, _, _, rfl, rfl, SqL.of hT.ht, rfl, ?_⟩
      refine ⟨_, rfl, _, _, rfl, rfl, _, rfl, _, _, _, _, rfl, rfl, hT.ht, rfl, ?_⟩
      refine ⟨_, rfl, _, _, rfl, rfl, .inl ⟨by decide, by decide⟩, _, _, rfl, rfl, ?_⟩
      refine ⟨_, rfl, _, _, _, _, rfl, rfl, SqL.of upd_same, rfl, Nat.zero_le _, fun p hp => ?_⟩
      have npt : p ≠ t := fun z => by rw [z, upd_same] at hp; cases hp
      have hp0 : H p = none := by rw [upd_ne npt] at hp; exact hp
      have npc : c ≠ p := ne_of_none hT.hc hp0
      refine ⟨_, _, Dp.lst (SqL.of (by rw [upd_ne npc, upd_ne hT.ne]; exact hT.hc)) (dp_ints cells), Dp.lst (SqL.of upd_same) .nil, shaped_ints cells, by decide, _, rfl, ?_⟩
      have h2t : upd (upd H t (.lst ([V.ref c, V.int i, V.int g].set (Int.toNat 1) (.int (i + 1))))) p (.lst []) t = some (.lst [.ref c, .int (i + 1), .int g]) := by rw [upd_ne npt.symm, upd_same]; rfl
      have h2c : upd (upd H t (.lst ([V.ref c, V.int i, V.int g].set (Int.toNat 1) (.int (i + 1))))) p (.lst []) c = some (.lst (cells.map V.int)) := by rw [upd_ne npc, upd_ne hT.ne]; exact hT.hc
      have h2k : Keep t H (upd (upd H t (.lst ([V.ref c, V.int i, V.int g].set (Int.toNat 1) (.int (i + 1))))) p (.lst [])) := fun b o hb e => by rw [upd_ne (ne_of_none e hp0), upd_ne hb]; exact e
      generalize upd (upd H t (.lst ([V.ref c, V.int i, V.int g].set (Int.toNat 1) (.int (i + 1))))) p (.lst []) = H2 at h2t h2c h2k ⊢
      rw [eqv_nil]
      refine ite2 (fun hn => ?one) (fun hn => ?two)
      case' one =>
        have hl : 0 < cells.length := by
          cases cells with
          | nil => exact absurd hn (by decide)
          | cons x l => exact Nat.zero_lt_succ _
        have e1 : i.fmod (cells.length : Int) = i % (cells.length : Int) := Int.fmod_eq_emod_of_nonneg i (by omega)
        have b0 := Int.emod_nonneg i (show (cells.length : Int) ≠ 0 by omega)
        have b1 := Int.emod_lt_of_pos i (show (0 : Int) < cells.length by omega)
        obtain ⟨n, hn1⟩ : ∃ n : Nat, i.fmod (cells.length : Int) = n := ⟨(i % (cells.length : Int)).toNat, by rw [e1]; omega⟩
        have hn2 : n < cells.length := by omega
        refine ⟨_, rfl, _, _, _, _, rfl, rfl, SqL.of h2t, rfl, _, rfl, .inl ⟨_, rfl, _, rfl, _, _, _, _, rfl, rfl, SqL.of h2t, rfl, _, _, rfl, .inl (SqL.of h2c), _, _, rfl, rfl, (by rw [List.length_map]; omega), ?_⟩⟩
        refine ⟨_, _, _, V.int cells[n], rfl, rfl, SqL.of h2c, (by rw [List.length_map, hn1]; exact atI_nat (by rw [List.getElem?_map, List.getElem?_eq_getElem hn2]; rfl)), ?_⟩
      all_goals
        refine ⟨_, rfl, _, rfl, _, _, _, _, rfl, rfl, SqL.of h2t, rfl, _, _, rfl, .inl (SqL.of h2c), _, _, rfl, rfl, _, rfl, ?_⟩
        refine ite2 (fun hA => ?_) (fun hA => ?_)
        · refine ⟨_, rfl, _, rfl, _, _, rfl, rfl, ⟨by decide, by decide, by decide⟩, _, _, rfl, rfl, _, rfl, ?_⟩
          refine ite2 (fun hB => ?_) (fun hB => ?_)
          · refine ⟨_, rfl, _, rfl, _, _, rfl, rfl, ⟨by decide, by decide, by decide⟩, _, _, rfl, rfl, _, _, rfl, rfl, .inl ⟨by decide, by decide⟩, _, rfl, _, _, rfl, rfl, .inr ⟨_, rfl, _, _, rfl, rfl, ?_⟩⟩
            refine ⟨_, rfl, .inl ⟨_, rfl, _, rfl, _, _, rfl, rfl, wide_div hm0 hm1 (by decide) (by decide), _, rfl, _, _, _, _, rfl, rfl, h2t, rfl, ?_⟩⟩
            refine ⟨_, rfl, .inl ⟨_, rfl, _, rfl, _, _, rfl, rfl, by omega, ?_⟩⟩
            refine k _ (i + 1) _ _ (modOk hm0).1 (modOk hm0).2 (by omega) (Int.le_refl _) (Int.ediv_nonneg (greatOk hB (bitOk _)) (by omega)) (fun b o hb e => by rw [upd_ne hb]; exact h2k b o hb e) ⟨upd_same, by rw [upd_ne hT.ne]; exact h2c, hT.ne⟩
          · refine ⟨_, rfl, .inl ⟨_, rfl, _, _, rfl, rfl, (by show (0 : Int) < 2147483489; decide), _, rfl, _, _, rfl, rfl, .inl ⟨by decide, by decide⟩, _, _, rfl, rfl, _, _, rfl, rfl, _, _, rfl, rfl, ⟨by decide, by decide, mix1 hi0 hi1⟩, .inl ⟨_, rfl, _, _, rfl, rfl, (by show (0 : Int) < 2147483647; decide), ?_⟩⟩⟩
            refine ⟨_, rfl, _, rfl, _, _, rfl, rfl, .inl ⟨by decide, by decide⟩, _, _, rfl, rfl, _, _, rfl, rfl, .inl (emodB _), _, rfl, _, _, rfl, rfl, .inl ⟨by decide, by decide⟩, _, rfl, _, _, rfl, rfl, .inl (atB hi0 hi1), _, _, rfl, rfl, _, _, rfl, rfl, _, _, rfl, rfl, ⟨by decide, by decide, mix2E hi0 hi1⟩, .inl ⟨_, rfl, _, _, rfl, rfl, (by show (0 : Int) < 2147483563; decide), ?_⟩⟩
            exact ⟨_, rfl, _, _, rfl, rfl, ⟨by decide, by decide⟩, .inl ⟨_, rfl, _, rfl, _, _, rfl, rfl, (by omega), k _ (i + 1) g H2 (modOk hm0).1 (modOk hm0).2 (by omega) (Int.le_refl _) hg h2k ⟨h2t, h2c, hT.ne⟩⟩⟩
        · refine ⟨_, rfl, .inl ⟨_, rfl, _, _, rfl, rfl, (by show (0 : Int) < 2147483489; decide), _, rfl, _, _, rfl, rfl, .inl ⟨by decide, by decide⟩, _, _, rfl, rfl, _, _, rfl, rfl, _, _, rfl, rfl, ⟨by decide, by decide, mix1 hi0 hi1⟩, .inl ⟨_, rfl, _, _, rfl, rfl, (by show (0 : Int) < 2147483647; decide), ?_⟩⟩⟩
          refine ⟨_, rfl, _, rfl, _, _, rfl, rfl, .inl ⟨by decide, by decide⟩, _, _, rfl, rfl, _, _, rfl, rfl, .inl (emodB _), _, rfl, _, _, rfl, rfl, .inl ⟨by decide, by decide⟩, _, rfl, _, _, rfl, rfl, .inl (atB hi0 hi1), _, _, rfl, rfl, _, _, rfl, rfl, _, _, rfl, rfl, ⟨by decide, by decide, mix2E hi0 hi1⟩, .inl ⟨_, rfl, _, _, rfl, rfl, (by show (0 : Int) < 2147483563; decide), ?_⟩⟩
          exact ⟨_, rfl, _, _, rfl, rfl, ⟨by decide, by decide⟩, .inl ⟨_, rfl, _, rfl, _, _, rfl, rfl, (by omega), k _ (i + 1) g H2 (modOk hm0).1 (modOk hm0).2 (by omega) (Int.le_refl _) hg h2k ⟨h2t, h2c, hT.ne⟩⟩⟩
end
def spTill (K : PySem.W.Frag) : Sp := fun vs H Q _ => ∃ (a : Addr) (ns : List Int), vs = [.ref a] ∧ SqL K H a (ns.map V.int) ∧ ns.length ≤ 63 ∧
  ∀ (t c : Addr) (H' : Hp), Same H H' → H t = none → Till H' t c (ns.take 60) 0 0 → Q (.ref t) H'
/-- one of some things that stand in a list -/
def spOf : Sp := fun vs H Q _ => ∃ (t c a : Addr) (cells : List Int) (i g : Int) (xs : List V), vs = [.ref t, .ref a] ∧ Till H t c cells i g ∧ 0 ≤ i ∧ i ≤ 1000000 ∧ 0 ≤ g ∧ a ≠ t ∧ H a = some (.lst xs) ∧ 0 < xs.length ∧ xs.length ≤ 10000 ∧
  ∀ (v : V) (i' g' : Int) (H' : Hp), v ∈ xs → 0 ≤ i' → i' ≤ i + 1 → 0 ≤ g' → Keep t H H' → Till H' t c cells i' g' → Q v H'
theorem cut60 (ns : List Int) : cutV (ns.map V.int) none (some 60) = (ns.take 60).map V.int := by
  unfold cutV
  rw [HT.sIx_none, show HT.sIx (ns.map V.int).length (ns.map V.int).length (some 60) = min 60 (ns.map V.int).length from HT.sIx_nat _ _ 60, List.drop_zero, List.map_take, Nat.sub_zero]
  rw [← List.take_take, List.take_length]
section
variable {P : Program} {w : World} {K : PySem.W.Frag} {mg : Str → Option Value} {base : Heap}
theorem scT : FnScope ["_law_script", "_law_cell"] ["_law_script"] (defScope sTill) := ⟨rfl, rfl, rfl, by decide +kernel, rfl, by decide +kernel, by decide +kernel⟩
theorem ok_till {f : Addr} {fd : FuncData} (F : FnP K "_law_reel" sTill f fd) (T : Blt mg) : FnOk P w K mg base CX0 1 f fd ["_law_script"] (spTill K) := by
  refine F.ok scT (fun vs H Q E h => ?_) (fun cdv A outer s H vs Q E hr h => ?_)
  · obtain ⟨a, ns, rfl, _⟩ := h
    rfl
  · obtain ⟨a, ns, rfl, hS, hl, k⟩ := h
    refine ⟨_, PSs.nox (pss_one (ps_ret (pe_lst (pa_cons
      (pe_lc (own := [("_law_cell", 1)]) (g := gName 1) (tt := tYes) rfl scT.nd (pi_list (pe_slice sl_list (pv 0) po_none (po_some pe_int))) (blkOk_by (N := ["_law_script", "_law_cell"]) (sc := defScope sTill) (by decide +kernel))
        (fun _ _ _ _ _ => pg_name (i := 1) scT.nd rfl (Or.inl rfl)) (fun _ _ _ _ _ => pts_nil) (fun _ _ _ _ _ => pe_callTy call_int1 (by rfl) T.int PyProof.Rows.boot_int (pa_cons (pv 1) pa_nil)))
      (pa_cons pe_int (pa_cons pe_int pa_nil)))))), ?_⟩
    refine ⟨_, rfl, 60, rfl, a, _, rfl, hS, fun p np => ⟨_, rfl, ⟨_, SqL.of upd_same⟩, fun D nD => ?_⟩⟩
    have npD : p ≠ D := fun z => by rw [← z, upd_same] at nD; cases nD
    have nD0 : H D = none := by rw [upd_ne npD.symm] at nD; exact nD
    refine lc_list (K := K) (a := p) (xs := cutV (ns.map V.int) none (some 60))
      (fun j H2 => Same H H2 ∧ H2 p = some (.lst ((ns.take 60).map V.int)) ∧ H2 D = some (.lst (((ns.take 60).map V.int).take j))) ⟨?_, ?_, upd_same⟩ (fun j H2 _ hP => by rw [cut60]; exact SqL.of hP.2.1) ?_ ?_
    · exact (same_upd np).trans (same_upd nD)
    · rw [upd_ne npD, upd_same, cut60]
    · rintro j x H2 hx ⟨s2, hp2, hD2⟩
      rw [cut60] at hx
      obtain ⟨z, rfl⟩ : ∃ z, x = V.int z := by
        rw [List.getElem?_map] at hx
        cases e : (ns.take 60)[j]? with
        | none => rw [e] at hx; cases hx
        | some z => rw [e] at hx; exact ⟨z, (Option.some.inj hx).symm⟩
      have hj : j < ((ns.take 60).map V.int).length := (List.getElem?_eq_some_iff.mp hx).1
      have hj2 : j < 60 := by rw [List.length_map, List.length_take] at hj; omega
      refine ⟨rfl, ?_⟩
      unfold tYes
      dsimp only
      rw [if_pos rfl]
      refine ⟨_, rfl, .inl ⟨_, rfl, _, hD2, ?_, fun b o e => ?_, ?_, ?_⟩⟩
      · rw [List.length_take, sizeLine_eq]; omega
      · rw [upd_ne (ne_of_none e nD0)]; exact s2 b o e
      · rw [upd_ne npD]; exact hp2
      · have e : ((ns.take 60).map V.int).take (j + 1) = ((ns.take 60).map V.int).take j ++ [V.int z] := by
          have q := List.take_add_one (l := (ns.take 60).map V.int) (i := j)
          rw [hx] at q
          exact q
        rw [upd_same, e]
    · rintro H2 ⟨s2, hp2, hD2⟩
      refine ⟨by show 3 ≤ sizeLine; decide, fun t nt => ?_⟩
      have e1 : H2 D = some (.lst ((ns.take 60).map V.int)) := by
        rw [hD2, cut60, List.take_length]
      have ntD : D ≠ t := ne_of_none e1 nt
      exact k t D _ (s2.trans (same_upd nt)) (s2.free nt) ⟨upd_same, by rw [upd_ne ntD]; exact e1, ntD⟩
theorem scO : FnScope ["_law_reel_here", "_law_some"] ["_law_reel_here", "_law_some"] (defScope sOf) := ⟨rfl, rfl, rfl, by decide +kernel, rfl, by decide +kernel, by decide +kernel⟩
theorem ok_of {f fC : Addr} {fd fdC : FuncData} (F : FnP K "_law_pick" sOf f fd) (T : Blt mg) (gC : mg "_law_turn" = some (.ref fC)) (FC : FnP K "_law_turn" sCoin fC fdC) : FnOk P w K mg base CX0 2 f fd ["_law_reel_here", "_law_some"] spOf := by
  have GC : FnOk P w K mg base CX0 1 fC fdC ["_law_reel_here", "_law_many"] spCoin := ok_coin FC T
  have bC : Binds K fdC ["_law_reel_here", "_law_many"] [] := FC.bindsN fun _ _ _ _ _ _ us hl => match us, hl with | [_, _], _ => rfl
  have kC := FC.kp
  refine F.ok scO (fun vs H Q E h => ?_) (fun cdv A outer s H vs Q E hr h => ?_)
  · obtain ⟨t, c, a, cells, i, g, xs, rfl, _⟩ := h
    rfl
  · obtain ⟨t, c, a, cells, i, g, xs, rfl, hT, hi0, hi1, hg, nat, ha, hx0, hx1, k⟩ := h
    have hr1 : Room 1 _ := hr
    refine ⟨_, PSs.nox (pss_one (ps_ret (pe_ix ix_list (pv 1) (pe_call GC hr1 rfl gC kC bC .nil pass0 (pa_cons (pv 0) (pa_cons (pe_callB call_len_seq (by rfl) T.len PySem.boot_len (pa_cons (pv 1) pa_nil)) pa_nil))) (fun _ _ => rfl)))), ?_⟩
    have hz : (2 : Nat) ^ 8000 > 10000 := by decide +kernel
    refine ⟨_, rfl, _, rfl, _, rfl, _, _, rfl, .inl (SqL.of ha), t, c, cells, i, g, _, rfl, hT, hi0, hi1, hg, by omega, by omega, fun r i' g' H' r0 r1 i0 i1 g0 kp T' => ?_⟩
    obtain ⟨n, rfl⟩ : ∃ n : Nat, r = n := ⟨r.toNat, by omega⟩
    have hn : n < xs.length := by omega
    exact ⟨_, _, _, xs[n], rfl, rfl, SqL.of (kp a _ nat ha), atI_nat (List.getElem?_eq_getElem hn), k _ i' g' H' (List.getElem_mem hn) i0 i1 g0 kp T'⟩
end
end K04
namespace K04
open PySem PySem.Spec PyProof.Rows L2 RatM ClX
/-- the greatest common divisor, by Euclid's way -/
def spSh : Sp := fun vs H Q _ => ∃ a b : Int, vs = [.int a, .int b] ∧ Q (.int ((Nat.gcd a.natAbs b.natAbs : Nat) : Int)) H
theorem absN (i : Int) : (if i < 0 then -i else i) = (i.natAbs : Int) := by
  by_cases h : i < 0
  · rw [if_pos h]; omega
  · rw [if_neg h]; omega
section
variable {P : Program} {w : World} {K : PySem.W.Frag} {mg : Str → Option Value} {base : Heap}
theorem scSh : FnScope ["_law_one", "_law_other", "_law_mine", "_law_its"] ["_law_one", "_law_other"] (defScope (top 57)) := ⟨rfl, rfl, rfl, by decide +kernel, rfl, by decide +kernel, by decide +kernel⟩
theorem ok_shared {f : Addr} {fd : FuncData} (F : FnP K "_law_shared" (top 57) f fd) (T : Blt mg) : FnOk P w K mg base CX0 1 f fd ["_law_one", "_law_other"] spSh := by
  refine F.ok scSh (fun vs H Q E h => ?_) (fun cdv A outer s H vs Q E hr h => ?_)
  · obtain ⟨a, b, rfl, _⟩ := h
    rfl
  · obtain ⟨a, b, rfl, k⟩ := h
    refine ⟨_, PSs.nox (pss_cons (ps_par (i := 2) (j := 3) rfl scSh.nd rfl rfl (by decide) rfl rfl (pa_cons (pe_callB call_abs (by rfl) T.abs (by decide +kernel) (pa_cons (pv 0) pa_nil)) (pa_cons (pe_callB call_abs (by rfl) T.abs (by decide +kernel) (pa_cons (pv 1) pa_nil)) pa_nil)) rfl)
      (pss_cons (ps_while PassesOwn.never (pt_cmpR op_gt (pv 3) pe_int (nomark _)) (pss_one (ps_par (i := 2) (j := 3) rfl scSh.nd rfl rfl (by decide) rfl rfl (pa_cons (pv 3) (pa_cons (pe_op op_modN (pe_callTy call_int1 (by rfl) T.int PyProof.Rows.boot_int (pa_cons (pv 2) pa_nil)) (pv 3)) pa_nil)) rfl)))
      (pss_one (ps_ret (pv 2))))), ?_⟩
    refine ⟨_, rfl, a, rfl, _, rfl, b, rfl, _, _, rfl, ?_⟩
    rw [absN, absN]
    refine ⟨fun m σ Hx => ∃ x : Nat, σ = [some (.int a), some (.int b), some (.int (x : Int)), some (.int (m : Int))] ∧ Nat.gcd x m = Nat.gcd a.natAbs b.natAbs ∧ Hx = H, ⟨b.natAbs, a.natAbs, rfl, rfl, rfl⟩, ?_⟩
    rintro m σ Hx ⟨x, rfl, eg, rfl⟩
    refine ⟨_, rfl, _, _, rfl, rfl, decide ((0 : Int) < (m : Int)), rfl, ite2 (fun c => ?_) (fun c => ?_)⟩
    · have m0 : 0 < m := by have := of_decide_eq_true c; omega
      refine ⟨fun σ' H' => ∃ x' : Nat, σ' = [some (.int a), some (.int b), some (.int (x' : Int)), some (.int ((x % m : Nat) : Int))] ∧ Nat.gcd x' (x % m) = Nat.gcd a.natAbs b.natAbs ∧ H' = Hx, fun σ' H' ⟨x', e1, e2, e3⟩ => ⟨x % m, Nat.mod_lt _ m0, x', e1, e2, e3⟩, ?_⟩
      refine ⟨_, rfl, _, rfl, .inl ⟨_, rfl, _, rfl, _, _, rfl, rfl, by omega, _, _, rfl, m, ?_, ?_, rfl⟩⟩
      · have e : (x : Int).fmod (m : Int) = ((x % m : Nat) : Int) := by
          rw [Int.fmod_eq_emod_of_nonneg _ (by omega)]
          exact (Int.natCast_emod ..).symm
        dsimp only
        rw [e]
        rfl
      · rw [← eg, Nat.gcd_comm x m, Nat.gcd_rec m x, Nat.gcd_comm]
    · have m0 : m = 0 := by
        have : ¬ (0 : Int) < (m : Int) := fun z => c (decide_eq_true z)
        omega
      subst m0
      rw [Nat.gcd_zero_right] at eg
      refine ⟨_, rfl, ?_⟩
      rw [eg]
      exact k
end
end K04
namespace K04
open PySem PySem.Spec PyProof.Rows L2 RatM ClX
theorem fdiv_neg_low {t b : Int} (h : b < 0) : (-t).fdiv ((Nat.gcd t.natAbs b.natAbs : Nat) : Int) = lowT t b ∧ (-b).fdiv ((Nat.gcd t.natAbs b.natAbs : Nat) : Int) = lowB t b := by
  have hb : b ≠ 0 := by omega
  have g0 : ((Nat.gcd t.natAbs b.natAbs : Nat) : Int) ≠ 0 := by
    have := Nat.gcd_pos_of_pos_right t.natAbs (Int.natAbs_pos.mpr hb)
    omega
  have eD : lowD t b = -((Nat.gcd t.natAbs b.natAbs : Nat) : Int) := if_neg (by omega)
  have m1 := lowT_mul (t := t) hb
  have m2 := lowB_mul (t := t) hb
  rw [eD] at m1 m2
  constructor
  · have e : -t = ((Nat.gcd t.natAbs b.natAbs : Nat) : Int) * lowT t b := by
      rw [Int.neg_mul] at m1
      omega
    rw [show (-t) = ((Nat.gcd t.natAbs b.natAbs : Nat) : Int) * lowT t b from e]
    exact Int.mul_fdiv_cancel_left _ g0
  · have e : -b = ((Nat.gcd t.natAbs b.natAbs : Nat) : Int) * lowB t b := by
      rw [Int.neg_mul] at m2
      omega
    rw [show (-b) = ((Nat.gcd t.natAbs b.natAbs : Nat) : Int) * lowB t b from e]
    exact Int.mul_fdiv_cancel_left _ g0
def spLw : Sp := fun vs H Q _ => ∃ t b : Int, vs = [.int t, .int b] ∧ b ≠ 0 ∧ b.natAbs < 2 ^ 4000 ∧ ∀ p, H p = none → Q (.ref p) (upd H p (.tup [.int (lowT t b), .int (lowB t b)]))
section
variable {P : Program} {w : World} {K : PySem.W.Frag} {mg : Str → Option Value} {base : Heap}
theorem scLo : FnScope ["_law_top", "_law_bottom", "_law_shared_here"] ["_law_top", "_law_bottom"] (defScope (top 58)) := ⟨rfl, rfl, rfl, by decide +kernel, rfl, by decide +kernel, by decide +kernel⟩
theorem ok_low {f fS : Addr} {fd fdS : FuncData} (F : FnP K "_law_low" (top 58) f fd) (GS : FnOk P w K mg base CX0 1 fS fdS ["_law_one", "_law_other"] spSh) (bS : Binds K fdS ["_law_one", "_law_other"] []) (kS : PySem.W.keepIn K (.ref fS) = true) (gS : mg "_law_shared" = some (.ref fS)) :
    FnOk P w K mg base CX0 2 f fd ["_law_top", "_law_bottom"] spLw := by
  refine F.ok scLo (fun vs H Q E h => ?_) (fun cdv A outer s H vs Q E hr h => ?_)
  · obtain ⟨t, b, rfl, _⟩ := h
    rfl
  · obtain ⟨t, b, rfl, hb, hz, k⟩ := h
    have hr1 : Room 1 _ := hr
    refine ⟨_, PSs.nox (pss_cons (ps_set (i := 2) scLo.nd rfl (.inl rfl) (pe_call GS hr1 rfl gS kS bS .nil pass0 (pa_cons (pv 0) (pa_cons (pv 1) pa_nil))))
      (pss_one (ps_ret (pe_ifExp (pt_cmpR op_gt (pv 1) pe_int (nomark _)) (pe_tup (pa_cons (pe_op op_fdivZ (pv 0) (pv 2)) (pa_cons (pe_op op_fdivZ (pv 1) (pv 2)) pa_nil))) (pe_tup (pa_cons (pe_op op_fdivZ (pe_un un_neg (pv 0)) (pv 2)) (pa_cons (pe_op op_fdivZ (pe_un un_neg (pv 1)) (pv 2)) pa_nil))))))), ?_⟩
    have g0 : ((Nat.gcd t.natAbs b.natAbs : Nat) : Int) ≠ 0 := by
      have := Nat.gcd_pos_of_pos_right t.natAbs (Int.natAbs_pos.mpr hb)
      omega
    have gz : ((Nat.gcd t.natAbs b.natAbs : Nat) : Int).natAbs.log2 < 9000 := by
      refine log2_of ?_
      rw [Int.natAbs_natCast]
      exact Nat.lt_of_le_of_lt (Nat.gcd_le_right _ (Int.natAbs_pos.mpr hb)) hz
    refine ⟨_, rfl, _, rfl, t, b, rfl, ?_⟩
    refine ⟨_, rfl, _, _, rfl, rfl, _, rfl, ite2 (fun c => ?_) (fun c => ?_)⟩
    · have b0 : 0 < b := of_decide_eq_true c
      have eD : ((Nat.gcd t.natAbs b.natAbs : Nat) : Int) = lowD t b := (if_pos b0).symm
      rw [eD] at g0 gz
      rw [eD]
      exact ⟨_, rfl, _, rfl, _, _, rfl, rfl, ⟨g0, gz⟩, _, rfl, _, rfl, _, _, rfl, rfl, ⟨g0, gz⟩, by rw [sizeLine_eq]; show 2 ≤ 16777216; decide, k⟩
    · have b0 : b < 0 := by
        have : ¬ 0 < b := fun z => c (decide_eq_true z)
        omega
      obtain ⟨e1, e2⟩ := fdiv_neg_low (t := t) b0
      refine ⟨_, rfl, _, rfl, _, rfl, _, _, rfl, rfl, ⟨g0, gz⟩, _, rfl, _, rfl, _, rfl, _, _, rfl, rfl, ⟨g0, gz⟩, by rw [sizeLine_eq]; show 2 ≤ 16777216; decide, ?_⟩
      dsimp only
      rw [e1, e2]
      exact k
end
end K04
namespace K04
open PySem PySem.Spec PyProof.Rows L2 RatM ClX
/-- the product of two fractions -/
def byF (x y : Int × Int) : Int × Int := (lowT (x.1 * y.1) (x.2 * y.2), lowB (x.1 * y.1) (x.2 * y.2))
/-- a fraction as the law has it -/
abbrev tupF (x : Int × Int) : List V := [.int x.1, .int x.2]
/-- numbers below 2 ^ 900, the bottom not 0 -/
def FrOk (x : Int × Int) : Prop := x.1.natAbs < 2 ^ 900 ∧ x.2.natAbs < 2 ^ 900 ∧ x.2 ≠ 0
def spFr (f : Int × Int → Int × Int → Int × Int) : Sp := fun vs H Q _ => ∃ (a b : Addr) (x y : Int × Int), vs = [.ref a, .ref b] ∧ H a = some (.tup (tupF x)) ∧ H b = some (.tup (tupF y)) ∧ FrOk x ∧ FrOk y ∧ ∀ p, H p = none → Q (.ref p) (upd H p (.tup (tupF (f x y))))
theorem fr_b0 {x y : Int × Int} (hx : FrOk x) (hy : FrOk y) : x.2 * y.2 ≠ 0 ∧ (x.2 * y.2).natAbs < 2 ^ 4000 := ⟨Int.mul_ne_zero hx.2.2 hy.2.2, Nat.lt_of_lt_of_le (wide_lt hx.2.1 hy.2.1) (Nat.pow_le_pow_right (by decide) (by decide))⟩
theorem fr_mul {p q : Int} (hp : p.natAbs < 2 ^ 900) (hq : q.natAbs < 2 ^ 900) : CMulW p q := wide_mul hp hq (by decide) (by decide) (by decide)
section
variable {P : Program} {w : World} {K : PySem.W.Frag} {mg : Str → Option Value} {base : Heap}
theorem scPl : FnScope ["_law_one", "_law_other"] ["_law_one", "_law_other"] (defScope (top 59)) := ⟨rfl, rfl, rfl, by decide +kernel, rfl, by decide +kernel, by decide +kernel⟩
theorem ok_plus {f fL : Addr} {fd fdL : FuncData} (F : FnP K "_law_plus" (top 59) f fd) (GL : FnOk P w K mg base CX0 2 fL fdL ["_law_top", "_law_bottom"] spLw) (bL : Binds K fdL ["_law_top", "_law_bottom"] []) (kL : PySem.W.keepIn K (.ref fL) = true) (gL : mg "_law_low" = some (.ref fL)) :
    FnOk P w K mg base CX0 3 f fd ["_law_one", "_law_other"] (spFr plusF) := by
  refine F.ok scPl (fun vs H Q E h => ?_) (fun cdv A outer s H vs Q E hr h => ?_)
  · obtain ⟨a, b, x, y, rfl, _⟩ := h
    rfl
  · obtain ⟨a, b, x, y, rfl, ha, hb, hx, hy, k⟩ := h
    have hr2 : Room 2 _ := hr
    obtain ⟨b0, bz⟩ := fr_b0 hx hy
    refine ⟨_, PSs.nox (pss_one (ps_ret (pe_call GL hr2 rfl gL kL bL .nil pass0 (pa_cons (pe_op op_add (pe_op op_mulW (pe_ix ix_tup (pv 0) pe_int (fun _ _ => rfl)) (pe_ix ix_tup (pv 1) pe_int (fun _ _ => rfl))) (pe_op op_mulW (pe_ix ix_tup (pv 1) pe_int (fun _ _ => rfl)) (pe_ix ix_tup (pv 0) pe_int (fun _ _ => rfl))))
      (pa_cons (pe_op op_mulW (pe_ix ix_tup (pv 0) pe_int (fun _ _ => rfl)) (pe_ix ix_tup (pv 1) pe_int (fun _ _ => rfl))) pa_nil))))), ?_⟩
    refine ⟨_, rfl, _, _, _, _, rfl, rfl, SqT.of ha, rfl, _, rfl, _, _, _, _, rfl, rfl, SqT.of hb, rfl, _, _, rfl, rfl, fr_mul hx.1 hy.2.1, ?_⟩
    refine ⟨_, rfl, _, _, _, _, rfl, rfl, SqT.of hb, rfl, _, rfl, _, _, _, _, rfl, rfl, SqT.of ha, rfl, _, _, rfl, rfl, fr_mul hy.1 hx.2.1, _, _, rfl, rfl, ?_⟩
    refine ⟨_, rfl, _, _, _, _, rfl, rfl, SqT.of ha, rfl, _, rfl, _, _, _, _, rfl, rfl, SqT.of hb, rfl, _, _, rfl, rfl, fr_mul hx.2.1 hy.2.1, ?_⟩
    exact ⟨_, _, rfl, b0, bz, k⟩
theorem scBy : FnScope ["_law_one", "_law_other"] ["_law_one", "_law_other"] (defScope (top 60)) := ⟨rfl, rfl, rfl, by decide +kernel, rfl, by decide +kernel, by decide +kernel⟩
theorem ok_by {f fL : Addr} {fd fdL : FuncData} (F : FnP K "_law_by" (top 60) f fd) (GL : FnOk P w K mg base CX0 2 fL fdL ["_law_top", "_law_bottom"] spLw) (bL : Binds K fdL ["_law_top", "_law_bottom"] []) (kL : PySem.W.keepIn K (.ref fL) = true) (gL : mg "_law_low" = some (.ref fL)) :
    FnOk P w K mg base CX0 3 f fd ["_law_one", "_law_other"] (spFr byF) := by
  refine F.ok scBy (fun vs H Q E h => ?_) (fun cdv A outer s H vs Q E hr h => ?_)
  · obtain ⟨a, b, x, y, rfl, _⟩ := h
    rfl
  · obtain ⟨a, b, x, y, rfl, ha, hb, hx, hy, k⟩ := h
    have hr2 : Room 2 _ := hr
    obtain ⟨b0, bz⟩ := fr_b0 hx hy
    refine ⟨_, PSs.nox (pss_one (ps_ret (pe_call GL hr2 rfl gL kL bL .nil pass0 (pa_cons (pe_op op_mulW (pe_ix ix_tup (pv 0) pe_int (fun _ _ => rfl)) (pe_ix ix_tup (pv 1) pe_int (fun _ _ => rfl)))
      (pa_cons (pe_op op_mulW (pe_ix ix_tup (pv 0) pe_int (fun _ _ => rfl)) (pe_ix ix_tup (pv 1) pe_int (fun _ _ => rfl))) pa_nil))))), ?_⟩
    refine ⟨_, rfl, _, _, _, _, rfl, rfl, SqT.of ha, rfl, _, rfl, _, _, _, _, rfl, rfl, SqT.of hb, rfl, _, _, rfl, rfl, fr_mul hx.1 hy.1, ?_⟩
    refine ⟨_, rfl, _, _, _, _, rfl, rfl, SqT.of ha, rfl, _, rfl, _, _, _, _, rfl, rfl, SqT.of hb, rfl, _, _, rfl, rfl, fr_mul hx.2.1 hy.2.1, ?_⟩
    exact ⟨_, _, rfl, b0, bz, k⟩
end
end K04
namespace K04
open PySem PySem.Spec PyProof.Rows L2 RatM ClX
/-- a drawn fraction: lowest terms, the top below 2 ^ 100, the bottom from 1 to 15 -/
structure FrD (x : Int × Int) : Prop where
  top : x.1.natAbs < 2 ^ 100
  b0 : 0 < x.2
  b1 : x.2 ≤ 15
  gcd : Int.gcd x.1 x.2 = 1
theorem frD_low {t b : Int} (ht : t.natAbs < 2 ^ 100) (h0 : 0 < b) (h1 : b ≤ 15) : FrD (lowT t b, lowB t b) := by
  have hb : b ≠ 0 := by omega
  have l := lowB_le (t := t) hb
  have p := lowB_pos (t := t) hb
  exact ⟨Nat.lt_of_le_of_lt (lowT_le hb) ht, p, by show lowB t b ≤ 15; omega, low_gcd hb⟩
def spNumb : Sp := fun vs H Q _ => ∃ (t c : Addr) (cells : List Int) (i g : Int), vs = [.ref t] ∧ Till H t c cells i g ∧ 0 ≤ i ∧ i ≤ 900000 ∧ 0 ≤ g ∧
  ∀ (p : Addr) (x : Int × Int) (i' g' : Int) (H' : Hp), FrD x → 0 ≤ i' → i' ≤ i + 4 → 0 ≤ g' → Keep t H H' → H p = none → H' p = some (.tup (tupF x)) → Till H' t c cells i' g' → Q (.ref p) H'
theorem Keep.free {t p : Addr} {H H' : Hp} (h : Keep t H H') (ht : ∃ o, H' t = some o) (n : H' p = none) : H p = none := by
  cases e : H p with
  | none => rfl
  | some o =>
    by_cases eq : p = t
    · subst eq
      obtain ⟨o', e'⟩ := ht
      rw [n] at e'
      cases e'
    · rw [h p o eq e] at n
      cases n
section
variable {P : Program} {w : World} {K : PySem.W.Frag} {mg : Str → Option Value} {base : Heap}
theorem scNb : FnScope ["_law_reel_here", "_law_way"] ["_law_reel_here"] (defScope (top 61)) := ⟨rfl, rfl, rfl, by decide +kernel, rfl, by decide +kernel, by decide +kernel⟩
theorem ok_number {f fT fL : Addr} {fd fdT fdL : FuncData} (F : FnP K "_law_number" (top 61) f fd) (T : Blt mg) (GT : FnOk P w K mg base CX0 1 fT fdT ["_law_reel_here", "_law_many"] spCoin) (bT : Binds K fdT ["_law_reel_here", "_law_many"] []) (kT : PySem.W.keepIn K (.ref fT) = true) (gT : mg "_law_turn" = some (.ref fT))
    (GL : FnOk P w K mg base CX0 2 fL fdL ["_law_top", "_law_bottom"] spLw) (bL : Binds K fdL ["_law_top", "_law_bottom"] []) (kL : PySem.W.keepIn K (.ref fL) = true) (gL : mg "_law_low" = some (.ref fL)) :
    FnOk P w K mg base CX0 3 f fd ["_law_reel_here"] spNumb := by
  refine F.ok scNb (fun vs H Q E h => ?_) (fun cdv A outer s H vs Q E hr h => ?_)
  · obtain ⟨t, c, cells, i, g, rfl, _⟩ := h
    rfl
  · obtain ⟨t, c, cells, i, g, rfl, hT, hi0, hi1, hg, k⟩ := h
    have hr2 : Room 2 _ := hr
    have hr1 : Room 1 _ := hr2.mono (by decide)
    refine ⟨_, PSs.nox (pss_cons (ps_set (i := 1) scNb.nd rfl (.inl rfl) (pe_call GT hr1 rfl gT kT bT .nil pass0 (pa_cons (pv 0) (pa_cons pe_int pa_nil))))
      (pss_cons (ps_if (pt_cmpR op_lt (pv 1) pe_int (nomark _)) (pss_one (ps_ret (pe_tup (pa_cons (pe_op op_sub (pe_call GT hr1 rfl gT kT bT .nil pass0 (pa_cons (pv 0) (pa_cons pe_int pa_nil))) pe_int) (pa_cons pe_int pa_nil))))) pss_nil)
      (pss_cons (ps_if (pt_cmpR op_lt (pv 1) pe_int (nomark _)) (pss_one (ps_ret (pe_call GL hr2 rfl gL kL bL .nil pass0 (pa_cons (pe_op op_sub (pe_call GT hr1 rfl gT kT bT .nil pass0 (pa_cons (pv 0) (pa_cons pe_int pa_nil))) pe_int) (pa_cons (pe_op op_add pe_int (pe_call GT hr1 rfl gT kT bT .nil pass0 (pa_cons (pv 0) (pa_cons pe_int pa_nil)))) pa_nil))))) pss_nil)
      (pss_cons (ps_if (pt_cmpR op_lt (pv 1) pe_int (nomark _)) (pss_one (ps_ret (pe_call GL hr2 rfl gL kL bL .nil pass0 (pa_cons (pe_op op_sub (pe_call GT hr1 rfl gT kT bT .nil pass0 (pa_cons (pv 0) (pa_cons pe_int pa_nil))) pe_int) (pa_cons (pe_op op_add pe_int (pe_op op_mulW (pe_call GT hr1 rfl gT kT bT .nil pass0 (pa_cons (pv 0) (pa_cons pe_int pa_nil))) (pe_callTy call_int1 (by rfl) T.int PyProof.Rows.boot_int (pa_cons (pe_cmpR op_eq (pv 1) pe_int (nomark _)) pa_nil)))) pa_nil))))) pss_nil)
      (pss_one (ps_ret (pe_call GL hr2 rfl gL kL bL .nil pass0 (pa_cons (pe_op op_add (pe_op op_mulW (pe_op op_sub (pe_call GT hr1 rfl gT kT bT .nil pass0 (pa_cons (pv 0) (pa_cons (pe_op op_pow pe_int pe_int) pa_nil))) pe_int) (pe_op op_pow pe_int pe_int)) (pe_call GT hr1 rfl gT kT bT .nil pass0 (pa_cons (pv 0) (pa_cons (pe_op op_pow pe_int pe_int) pa_nil)))) (pa_cons (pe_op op_add pe_int (pe_call GT hr1 rfl gT kT bT .nil pass0 (pa_cons (pv 0) (pa_cons pe_int pa_nil)))) pa_nil))))))))), ?_⟩
    refine ⟨_, rfl, t, c, cells, i, g, 9, rfl, hT, hi0, by omega, hg, by decide, by decide, fun wy i1 g1 H1 w0 w1 j0 j1 k0 kp hT1 => ?_⟩
    have fin : ∀ (x : Int × Int) (i2 g2 : Int) (H2 : Hp) (p : Addr), FrD x → 0 ≤ i2 → i2 ≤ i + 4 → 0 ≤ g2 → Keep t H H2 → Till H2 t c cells i2 g2 → H2 p = none → Q (.ref p) (upd H2 p (.tup (tupF x))) := fun x i2 g2 H2 p fx a0 a1 a2 kk hT2 np => by
      have npt : p ≠ t := fun e => by rw [e, hT2.ht] at np; cases np
      have npc : c ≠ p := ne_of_none hT2.hc np
      refine k p x i2 g2 _ fx a0 a1 a2 (fun b o hb e => ?_) (kk.free ⟨_, hT2.ht⟩ np) upd_same ⟨by rw [upd_ne (Ne.symm npt)]; exact hT2.ht, by rw [upd_ne npc]; exact hT2.hc, hT2.ne⟩
      rw [upd_ne (ne_of_none (kk b o hb e) np)]
      exact kk b o hb e
    have kt : ∀ {A B C' : Hp}, Keep t A B → Keep t B C' → Keep t A C' := fun h1 h2 b o hb e => h2 b o hb (h1 b o hb e)
    have z15 : ∀ {b : Int}, 0 < b → b ≤ 15 → b.natAbs < 2 ^ 4000 := fun h0 h1 => Nat.lt_of_lt_of_le (show _ < 2 ^ 4 by show _ < 16; omega) (Nat.pow_le_pow_right (by decide) (by decide))
    have z100 : ∀ {a : Int}, a.natAbs ≤ 10 ^ 25 → a.natAbs < 2 ^ 100 := fun h => Nat.lt_of_le_of_lt h (by decide)
    refine ⟨_, rfl, _, _, rfl, rfl, _, rfl, ite2 (fun c4 => ?_) (fun c4 => ?_)⟩
    · refine ⟨_, rfl, t, c, cells, i1, g1, 7, rfl, hT1, j0, by omega, k0, by decide, by decide, fun r i2 g2 H2 r0 r1 j2 j3 k2 kp2 hT2 => ?_⟩
      exact ⟨_, _, rfl, rfl, by rw [sizeLine_eq]; show 2 ≤ 16777216; decide, fun p np => fin (r - 3, 1) i2 g2 H2 p ⟨z100 (show (r - 3).natAbs ≤ _ from Nat.le_trans (show (r - 3).natAbs ≤ 100 by omega) (by decide)), (by show (0 : Int) < 1; decide), (by show (1 : Int) ≤ 15; decide), Int.gcd_one⟩ j2 (by omega) k2 (kt kp kp2) hT2 np⟩
    · dsimp only [tNext, tSeq]
      refine ⟨_, rfl, _, _, rfl, rfl, _, rfl, ite2 (fun c6 => ?_) (fun c6 => ?_)⟩
      · refine ⟨_, rfl, t, c, cells, i1, g1, 13, rfl, hT1, j0, by omega, k0, by decide, by decide, fun r i2 g2 H2 r0 r1 j2 j3 k2 kp2 hT2 => ?_⟩
        refine ⟨_, _, rfl, rfl, _, rfl, t, c, cells, i2, g2, 6, rfl, hT2, j2, by omega, k2, by decide, by decide, fun q i3 g3 H3 q0 q1 j4 j5 k3 kp3 hT3 => ?_⟩
        exact ⟨_, _, rfl, rfl, r - 6, 1 + q, rfl, by omega, z15 (by omega) (by omega), fun p np => fin _ i3 g3 H3 p (frD_low (z100 (Nat.le_trans (show (r - 6).natAbs ≤ 100 by omega) (by decide))) (by omega) (by omega)) j4 (by omega) k3 (kt kp (kt kp2 kp3)) hT3 np⟩
      · dsimp only [tNext, tSeq]
        refine ⟨_, rfl, _, _, rfl, rfl, _, rfl, ite2 (fun c8 => ?_) (fun c8 => ?_)⟩
        · refine ⟨_, rfl, t, c, cells, i1, g1, 199, rfl, hT1, j0, by omega, k0, by decide, by decide, fun r i2 g2 H2 r0 r1 j2 j3 k2 kp2 hT2 => ?_⟩
          refine ⟨_, _, rfl, rfl, _, rfl, t, c, cells, i2, g2, 15, rfl, hT2, j2, by omega, k2, by decide, by decide, fun q i3 g3 H3 q0 q1 j4 j5 k3 kp3 hT3 => ?_⟩
          have qb : ∀ e : Bool, 0 ≤ q * (if e = true then 1 else 0) ∧ q * (if e = true then 1 else 0) ≤ 14 := fun e => by cases e <;> simp <;> omega
          have qe := qb (decide (V.int wy = V.int 7))
          refine ⟨_, rfl, rfl, .inr ⟨_, rfl, _, _, rfl, rfl, ?_, _, _, rfl, rfl, r - 99, _, rfl, ?_, ?_, fun p np => fin _ i3 g3 H3 p (frD_low (z100 (Nat.le_trans (show (r - 99).natAbs ≤ 100 by omega) (by decide))) ?_ ?_) j4 (by omega) k3 (kt kp (kt kp2 kp3)) hT3 np⟩⟩
          · exact wide_mul (a := 64) (b := 64) (by omega) (by split <;> decide) (by decide) (by decide) (by decide)
          · have := qe.1; omega
          · exact z15 (by have := qe.1; omega) (by have := qe.2; omega)
          · have := qe.1; omega
          · have := qe.2; omega
        · dsimp only [tNext, tSeq]
          have p7 : (10 : Int) ^ (7 : Int).toNat = 10000000 := by decide
          have p17 : (10 : Int) ^ (17 : Int).toNat = 100000000000000000 := by decide
          refine ⟨_, rfl, _, _, rfl, rfl, ⟨by decide, by decide, by decide⟩, t, c, cells, i1, g1, _, rfl, hT1, j0, by omega, k0, by decide, by decide, fun r i2 g2 H2 r0 r1 j2 j3 k2 kp2 hT2 => ?_⟩
          rw [p7] at r1
          refine ⟨_, _, rfl, rfl, _, _, rfl, rfl, ⟨by decide, by decide, by decide⟩, _, _, rfl, rfl, ?_, _, rfl, _, _, rfl, rfl, ⟨by decide, by decide, by decide⟩, t, c, cells, i2, g2, _, rfl, hT2, j2, by omega, k2, by decide, by decide, fun q i3 g3 H3 q0 q1 j4 j5 k3 kp3 hT3 => ?_⟩
          · exact wide_mul (a := 64) (b := 64) (by omega) (by decide) (by decide) (by decide) (by decide)
          rw [p7] at q1
          refine ⟨_, _, rfl, rfl, _, rfl, t, c, cells, i3, g3, 3, rfl, hT3, j4, by omega, k3, by decide, by decide, fun u i4 g4 H4 u0 u1 j6 j7 k4 kp4 hT4 => ?_⟩
          refine ⟨_, _, rfl, rfl, _, 1 + u, rfl, by omega, z15 (by omega) (by omega), fun p np => fin _ i4 g4 H4 p (frD_low (z100 ?_) (by omega) (by omega)) j6 (by omega) k4 (kt kp (kt kp2 (kt kp3 kp4))) hT4 np⟩
          rw [p17]
          have e25 : (10 : Nat) ^ 25 = 10000000000000000000000000 := by decide
          rw [e25]
          omega
end
end K04
namespace K04
open PySem PySem.Spec PyProof.Rows L2 RatM ClX
theorem eqv_pair (p q u v : Int) : PyData.eqv (.tuple [.int p, .int q]) (.tuple [.int u, .int v]) = (decide (p = u) && decide (q = v)) := by
  simp [PyData.eqv, PyData.eqvAll, Bool.beq_eq_decide_eq]
theorem shaped_pair (p q : Int) : SeqAt.shaped (.tuple [.int p, .int q]) = true := by
  simp [SeqAt.shaped, PyData.canLay0, PyData.canLayAll0, PyData.depth, PyData.depthAll]
/-- a pair of integers stands at a -/
abbrev PairAt (K : PySem.W.Frag) (H : Hp) (a : Addr) (u v : Int) : Prop := SqT K H a [.int u, .int v]
theorem dp_pair {K : PySem.W.Frag} {H : Hp} {a : Addr} {u v : Int} (h : PairAt K H a u v) : Dp K H (.ref a) (.tuple [.int u, .int v]) := .tup h (.cons (.int u) (.cons (.int v) .nil))
def spTx (K : PySem.W.Frag) : Sp := fun vs H Q _ => ∃ (b : Addr) (u v : Int), vs = [.ref b] ∧ PairAt K H b u v ∧ Sz u ∧ Sz v ∧ Q (.str (textR u v)) H
section
variable {P : Program} {w : World} {K : PySem.W.Frag} {mg : Str → Option Value} {base : Heap} {C BR CB BB : Addr}
theorem scTx : FnScope ["_law_pair"] ["_law_pair"] (defScope (top 63)) := ⟨rfl, rfl, rfl, by decide +kernel, rfl, by decide +kernel, by decide +kernel⟩
theorem ok_text {f : Addr} {fd : FuncData} (F : FnP K "_law_text" (top 63) f fd) (bs : mg "str" = none) : FnOk P w K mg base CX0 1 f fd ["_law_pair"] (spTx K) := by
  refine F.ok scTx (fun vs H Q E h => ?_) (fun cdv A outer s H vs Q E hr h => ?_)
  · obtain ⟨b, u, v, rfl, _⟩ := h
    rfl
  · obtain ⟨b, u, v, rfl, hb, su, sv, k⟩ := h
    have ix0 : atI [V.int u, V.int v] 0 = some (.int u) := rfl
    have ix1 : atI [V.int u, V.int v] 1 = some (.int v) := rfl
    have l1 := sz_len su
    have l2 := sz_len sv
    refine ⟨_, PSs.nox (pss_one (ps_ret (pe_ifExp (pt_cmpR op_eq (pe_ix ix_tup (pv 0) pe_int (fun _ _ => rfl)) pe_int (nomark _)) (pe_callTy call_str_int (by rfl) bs PyProof.Rows.boot_str (pa_cons (pe_ix ix_tup (pv 0) pe_int (fun _ _ => rfl)) pa_nil))
      (pe_op op_add_str (pe_op op_add_str (pe_callTy call_str_int (by rfl) bs PyProof.Rows.boot_str (pa_cons (pe_ix ix_tup (pv 0) pe_int (fun _ _ => rfl)) pa_nil)) pe_str) (pe_callTy call_str_int (by rfl) bs PyProof.Rows.boot_str (pa_cons (pe_ix ix_tup (pv 0) pe_int (fun _ _ => rfl)) pa_nil)))))), ?_⟩
    refine ⟨_, rfl, b, _, _, _, rfl, rfl, hb, ix1, rfl, decide (v = 1), congrArg V.bl (decI ..), ?_⟩
    by_cases e : v = 1
    · rw [decide_eq_true e]
      have z : textR u v = (toString u : String) := if_pos e
      rw [z] at k
      exact iteT ⟨_, rfl, b, _, _, _, rfl, rfl, hb, ix0, u, rfl, sz_log su, k⟩
    · rw [decide_eq_false e]
      have z : textR u v = (Str.ofString (toString u) ++ "/") ++ Str.ofString (toString v) := if_neg e
      rw [z] at k
      have ls : (Str.ofString "/").length = 1 := rfl
      refine iteF ⟨_, rfl, b, _, _, _, rfl, rfl, hb, ix0, u, rfl, sz_log su, _, _, rfl, rfl, ?_, _, rfl, b, _, _, _, rfl, rfl, hb, ix1, v, rfl, sz_log sv, _, _, rfl, rfl, ?_, k⟩
      · rw [sizeLine_eq]; omega
      · rw [strLen_append, sizeLine_eq]; omega
end
/-- a fraction as a Ratio, or as an integer where it is one -/
def spRt (C : Addr) : Sp := fun vs H Q _ => ∃ (t o c : Addr) (cells : List Int) (i g : Int) (x : Int × Int), vs = [.ref t, .ref o] ∧ o ≠ t ∧ H o = some (.tup (tupF x)) ∧ FrD x ∧ Till H t c cells i g ∧ 0 ≤ i ∧ i ≤ 900000 ∧ 0 ≤ g ∧
  ∀ (v : V) (i' g' : Int) (H' : Hp), NumAt H' C v x.1 x.2 → 0 ≤ i' → i' ≤ i + 2 → 0 ≤ g' → Keep t H H' → Till H' t c cells i' g' → Q v H'
section
variable {P : Program} {w : World} {K : PySem.W.Frag} {mg : Str → Option Value} {base : Heap} {C BR CB BB : Addr}
theorem scRt : FnScope ["_law_reel_here", "_law_pair", "_law_times"] ["_law_reel_here", "_law_pair"] (defScope (top 66)) := ⟨rfl, rfl, rfl, by decide +kernel, rfl, by decide +kernel, by decide +kernel⟩
theorem ok_ratio {f fT fO : Addr} {fd fdT fdO : FuncData} (F : FnP K "_law_ratio" (top 66) f fd) (R : RatK P w K mg base C BR) (GT : FnOk P w K mg base CX0 1 fT fdT ["_law_reel_here", "_law_many"] spCoin) (bT : Binds K fdT ["_law_reel_here", "_law_many"] []) (kT : PySem.W.keepIn K (.ref fT) = true) (gT : mg "_law_turn" = some (.ref fT))
    (GO : FnOk P w K mg base CX0 2 fO fdO ["_law_reel_here", "_law_some"] spOf) (bO : Binds K fdO ["_law_reel_here", "_law_some"] []) (kO : PySem.W.keepIn K (.ref fO) = true) (gO : mg "_law_pick" = some (.ref fO)) :
    FnOk P w K mg base CX0 5 f fd ["_law_reel_here", "_law_pair"] (spRt C) := by
  refine F.ok scRt (fun vs H Q E h => ?_) (fun cdv A outer s H vs Q E hr h => ?_)
  · obtain ⟨t, o, c, cells, i, g, x, rfl, _⟩ := h
    rfl
  · obtain ⟨t, o, c, cells, i, g, x, rfl, nt, ho, fx, hT, hi0, hi1, hg, k⟩ := h
    have hr4 : Room 4 _ := hr
    refine ⟨_, PSs.nox (pss_cons (ps_if (PW.pt (pw_and (pt_cmpR op_eq (pe_ix ix_tup (pv 1) pe_int (fun _ _ => rfl)) pe_int (nomark _)) (pw_and1 (pt_cmpR op_eq (pe_call GT (hr4.mono (by decide)) rfl gT kT bT .nil pass0 (pa_cons (pv 0) (pa_cons pe_int pa_nil))) pe_int (nomark _))))) (pss_one (ps_ret (pe_ix ix_tup (pv 1) pe_int (fun _ _ => rfl)))) pss_nil)
      (pss_cons (ps_set (i := 2) scRt.nd rfl (.inl rfl) (pe_call GO (hr4.mono (by decide)) rfl gO kO bO .nil pass0 (pa_cons (pv 0) (pa_cons (pe_lst (pa_cons pe_int (pa_cons pe_int (pa_cons (pe_un un_neg pe_int) pa_nil)))) pa_nil))))
      (pss_one (ps_ret (pe_rat2 R (by exact hr4) (E := E0) passL rfl (pa_cons (pe_op op_mulW (pe_ix ix_tup (pv 1) pe_int (fun _ _ => rfl)) (pv 2)) (pa_cons (pe_op op_mulW (pe_ix ix_tup (pv 1) pe_int (fun _ _ => rfl)) (pv 2)) pa_nil))))))), ?_⟩
    have ix0 : atI [V.int x.1, V.int x.2] 0 = some (.int x.1) := rfl
    have ix1 : atI [V.int x.1, V.int x.2] 1 = some (.int x.2) := rfl
    have b0 := fx.b0
    have b1 := fx.b1
    have tp := fx.top
    have kH : Keep t H H := fun _ _ _ e => e
    refine ⟨_, rfl, _, _, _, _, rfl, rfl, SqT.of ho, ix1, rfl, decide (x.2 = 1), congrArg V.bl (decI ..), ?_⟩
    by_cases e : x.2 = 1
    · rw [decide_eq_true e]
      refine iteT ⟨_, rfl, t, c, cells, i, g, 2, rfl, hT, hi0, by omega, hg, by decide, by decide, fun r i1 g1 H1 r0 r1 j0 j1 k0 kp hT1 => ?_⟩
      refine ⟨rfl, _, rfl, ite2 (fun c2 => ?_) (fun c2 => ?_)⟩
      · exact ⟨_, rfl, _, _, _, _, rfl, rfl, SqT.of (kp _ _ nt ho), ix0, k _ i1 g1 H1 (.inr ⟨rfl, e, Nat.lt_of_lt_of_le tp (Nat.pow_le_pow_right (by decide) (by decide))⟩) j0 (by omega) k0 kp hT1⟩
      · dsimp only [tNext, tSeq, tAsg]
        refine ⟨_, rfl, _, rfl, by rw [sizeLine_eq]; show 3 ≤ 16777216; decide, fun p np => ?_⟩
        have npt : p ≠ t := fun e => by rw [e, hT1.ht] at np; cases np
        have npc : c ≠ p := ne_of_none hT1.hc np
        have npo : p ≠ o := fun e => by rw [e, kp _ _ nt ho] at np; cases np
        have hT2 : Till (upd H1 p (.lst [V.int 1, V.int 3, V.int (-2)])) t c cells i1 g1 := ⟨by rw [upd_ne (Ne.symm npt)]; exact hT1.ht, by rw [upd_ne npc]; exact hT1.hc, hT1.ne⟩
        refine ⟨t, c, p, cells, i1, g1, [V.int 1, V.int 3, V.int (-2)], rfl, hT2, j0, by omega, k0, npt, upd_same, by decide, by decide, fun v i2 g2 H2 hv j2 j3 k2 kp2 hT3 => ?_⟩
        obtain ⟨m, rfl, m0, mz⟩ : ∃ m : Int, v = .int m ∧ m ≠ 0 ∧ m.natAbs < 2 ^ 4 := by
          simp only [List.mem_cons, List.not_mem_nil, or_false] at hv
          rcases hv with rfl | rfl | rfl
          · exact ⟨1, rfl, by decide, by decide⟩
          · exact ⟨3, rfl, by decide, by decide⟩
          · exact ⟨-2, rfl, by decide, by decide⟩
        have ho2 : H2 o = some (.tup (tupF x)) := kp2 o _ nt (by rw [upd_ne (Ne.symm npo)]; exact kp _ _ nt ho)
        dsimp only [gName]
        have z2 : x.2.natAbs < 2 ^ 4 := by show _ < 16; omega
        have bz : x.2 * m ≠ 0 := Int.mul_ne_zero (by omega) m0
        refine ⟨_, rfl, _, _, _, _, rfl, rfl, SqT.of ho2, ix0, _, rfl, _, _, rfl, rfl, wide_mul tp mz (by decide) (by decide) (by decide), _, rfl, _, _, _, _, rfl, rfl, SqT.of ho2, ix1, _, rfl, _, _, rfl, rfl, wide_mul z2 mz (by decide) (by decide) (by decide), ?_⟩
        refine ⟨_, _, rfl, .inl ⟨x.1 * m, x.2 * m, rfl, rfl, bz, Nat.lt_of_lt_of_le (wide_lt tp mz) (Nat.pow_le_pow_right (by decide) (by decide)), Nat.lt_of_lt_of_le (wide_lt z2 mz) (Nat.pow_le_pow_right (by decide) (by decide)), fun r' H3 s3 h3 => ?_⟩⟩
        have sf := low_self b0 fx.gcd
        have le := low_eq (t := x.1 * m) (b := x.2 * m) (t' := x.1) (b' := x.2) bz (by omega) (by rw [Int.mul_assoc, Int.mul_comm m x.2])
        rw [le.1, le.2, sf.1, sf.2] at h3
        have kk : Keep t H H2 := fun b ob hb e => kp2 b ob hb (by
          have e1 := kp b ob hb e
          rw [upd_ne (ne_of_none e1 np)]
          exact e1)
        exact k (.ref r') i2 g2 H3 (.inl ⟨r', rfl, h3⟩) j2 (by omega) k2 (fun b ob hb e => s3 _ _ (kk b ob hb e)) ⟨s3 _ _ hT3.ht, s3 _ _ hT3.hc, hT3.ne⟩
    · rw [decide_eq_false e]
      refine iteF ?_
      dsimp only [tNext, tSeq, tAsg]
      refine ⟨_, rfl, _, rfl, by rw [sizeLine_eq]; show 3 ≤ 16777216; decide, fun p np => ?_⟩
      have npt : p ≠ t := fun e => by rw [e, hT.ht] at np; cases np
      have npc : c ≠ p := ne_of_none hT.hc np
      have npo : p ≠ o := fun e => by rw [e, kH _ _ nt ho] at np; cases np
      have hT2 : Till (upd H p (.lst [V.int 1, V.int 3, V.int (-2)])) t c cells i g := ⟨by rw [upd_ne (Ne.symm npt)]; exact hT.ht, by rw [upd_ne npc]; exact hT.hc, hT.ne⟩
      refine ⟨t, c, p, cells, i, g, [V.int 1, V.int 3, V.int (-2)], rfl, hT2, hi0, by omega, hg, npt, upd_same, by decide, by decide, fun v i2 g2 H2 hv j2 j3 k2 kp2 hT3 => ?_⟩
      obtain ⟨m, rfl, m0, mz⟩ : ∃ m : Int, v = .int m ∧ m ≠ 0 ∧ m.natAbs < 2 ^ 4 := by
        simp only [List.mem_cons, List.not_mem_nil, or_false] at hv
        rcases hv with rfl | rfl | rfl
        · exact ⟨1, rfl, by decide, by decide⟩
        · exact ⟨3, rfl, by decide, by decide⟩
        · exact ⟨-2, rfl, by decide, by decide⟩
      have ho2 : H2 o = some (.tup (tupF x)) := kp2 o _ nt (by rw [upd_ne (Ne.symm npo)]; exact kH _ _ nt ho)
      dsimp only [gName]
      have z2 : x.2.natAbs < 2 ^ 4 := by show _ < 16; omega
      have bz : x.2 * m ≠ 0 := Int.mul_ne_zero (by omega) m0
      refine ⟨_, rfl, _, _, _, _, rfl, rfl, SqT.of ho2, ix0, _, rfl, _, _, rfl, rfl, wide_mul tp mz (by decide) (by decide) (by decide), _, rfl, _, _, _, _, rfl, rfl, SqT.of ho2, ix1, _, rfl, _, _, rfl, rfl, wide_mul z2 mz (by decide) (by decide) (by decide), ?_⟩
      refine ⟨_, _, rfl, .inl ⟨x.1 * m, x.2 * m, rfl, rfl, bz, Nat.lt_of_lt_of_le (wide_lt tp mz) (Nat.pow_le_pow_right (by decide) (by decide)), Nat.lt_of_lt_of_le (wide_lt z2 mz) (Nat.pow_le_pow_right (by decide) (by decide)), fun r' H3 s3 h3 => ?_⟩⟩
      have sf := low_self b0 fx.gcd
      have le := low_eq (t := x.1 * m) (b := x.2 * m) (t' := x.1) (b' := x.2) bz (by omega) (by rw [Int.mul_assoc, Int.mul_comm m x.2])
      rw [le.1, le.2, sf.1, sf.2] at h3
      have kk : Keep t H H2 := fun b ob hb e => kp2 b ob hb (by
        have e1 := kH b ob hb e
        rw [upd_ne (ne_of_none e1 np)]
        exact e1)
      exact k (.ref r') i2 g2 H3 (.inl ⟨r', rfl, h3⟩) j2 (by omega) k2 (fun b ob hb e => s3 _ _ (kk b ob hb e)) ⟨s3 _ _ hT3.ht, s3 _ _ hT3.hc, hT3.ne⟩
end
end K04
namespace K04
open PySem PySem.Spec PyProof.Rows L2 RatM ClX
/-- a plain balance: a dict from names to fractions -/
abbrev PlD (H : Hp) (g : Str → Int × Int) : List (Key × V) → List Str → Prop := Paired fun kv n => kv.1 = .inr n ∧ ∃ o, kv.2 = .ref o ∧ H o = some (.tup (tupF (g n)))
theorem PlD.same {H H' : Hp} {g : Str → Int × Int} {kvs : List (Key × V)} {ks : List Str} (h : PlD H g kvs ks) (s : Same H H') : PlD H' g kvs ks := Paired.mono' (fun _ _ ⟨e, o, e2, n⟩ => ⟨e, o, e2, s _ _ n⟩) h
theorem PlD.val {H : Hp} {g : Str → Int × Int} {kvs : List (Key × V)} {ks : List Str} (h : PlD H g kvs ks) {n : Str} (m : n ∈ ks) : ∃ o, valV kvs (.inr n) = some (.ref o) ∧ H o = some (.tup (tupF (g n))) := by
  induction h with
  | nil => cases m
  | @cons a b l1 l2 x t ih =>
    by_cases e : b = n
    · subst e
      obtain ⟨x1, o, x2, x3⟩ := x
      exact ⟨o, by rw [valV_pos x1, x2], x3⟩
    · have ne : ¬ a.1 = Sum.inr n := fun z => e (by rw [x.1] at z; injection z)
      rw [valV_neg ne]
      exact ih (by cases m with
        | head => exact absurd rfl e
        | tail _ m => exact m)
theorem PlD.locked {H : Hp} {g : Str → Int × Int} {kvs : List (Key × V)} {ks : List Str} {d : Addr} {kvs' : List (Key × V)} {o : HO} (h : PlD H g kvs ks) (hd : H d = some (.dK kvs')) : PlD (upd H d o) g kvs ks :=
  Paired.mono' (fun _ _ ⟨e, b, e2, n⟩ => ⟨e, b, e2, (upd_ne fun z => by rw [z, hd] at n; cases n).trans n⟩) h
def spNamed : Sp := fun vs H Q _ => ∃ (d : Addr) (kvs : List (Key × V)) (ks : List Str) (g : Str → Int × Int), vs = [.ref d] ∧ H d = some (.dK kvs) ∧ PlD H g kvs ks ∧ ks.length ≤ 60 ∧
  ∀ p ys H', Same H H' → ys.Perm (nz g ks) → sortedS ys = true → H p = none → H' p = some (.lst (ys.map V.str)) → Q (.ref p) H'
section
variable {P : Program} {w : World} {K : PySem.W.Frag} {mg : Str → Option Value} {base : Heap}
theorem scNd : FnScope ["_law_plain", "_law_thing"] ["_law_plain"] (defScope (top 64)) := ⟨rfl, rfl, rfl, by decide +kernel, rfl, by decide +kernel, by decide +kernel⟩
theorem ok_named {f : Addr} {fd : FuncData} (F : FnP K "_law_named" (top 64) f fd) (so : mg "sorted" = none) (bs : mg "str" = none) : FnOk P w K mg base CX0 1 f fd ["_law_plain"] spNamed := by
  refine F.ok scNd (fun vs H Q E h => ?_) (fun cdv A outer s H vs Q E hr h => ?_)
  · obtain ⟨d, kvs, ks, g, rfl, _⟩ := h
    rfl
  · obtain ⟨d, kvs, ks, g, rfl, hd, hp, lk, k⟩ := h
    have hr0 : Room 0 _ := hr
    have hu1 : (A.deeper (envOfC (Str.ofString "_law_named") (defScope (top 64)) s.heap.objs.size f cdv)).units + 1 < cLine := by have := hr0.units; omega
    refine ⟨_, PSs.nox (pss_one (ps_ret (pe_callB cr_sortedS (by rfl) so (by decide +kernel) (pa_cons (pe_lock (pe_lc (own := [("_law_thing", 1)]) (g := gName 1) (tt := tTest (tOp rNe (tOp (rIxT K) (tDGet (tVar 0) (tVar 1)) (tC (.int 0))) (tC (.int 0)))) rfl scNd.nd (pi_keys (pv 0)) (blkOk_by (N := ["_law_plain", "_law_thing"]) (sc := defScope (top 64)) (by decide +kernel)) (fun _ _ _ _ _ => pg_name (i := 1) scNd.nd rfl (Or.inl rfl))
      (fun _ _ _ _ _ => pts_one (pt_cmpR op_ne (pe_ix ix_tup (pe_dget (by exact hu1) (pv 0) (pv 1) (fun _ _ => rfl)) pe_int (fun _ _ => rfl)) pe_int (nomark _))) (fun _ _ _ _ _ => pe_callTy SkE.call_str_str (by rfl) bs PyProof.Rows.boot_str (pa_cons (pv 1) pa_nil)))) pa_nil)))), ?_⟩
    refine ⟨d, .dK kvs, hd, True.intro, fun od => ?_⟩
    refine ⟨_, rfl, d, od, rfl, .inl ⟨kvs, upd_same, fun D nD => ?_⟩⟩
    have nDd : D ≠ d := fun e => by rw [e, upd_same] at nD; cases nD
    have nD0 : H D = none := (upd_ne nDd).symm.trans nD
    have hpL := hp.locked (o := .frz od (.dK kvs)) hd
    have hdL : (upd H d (.frz od (.dK kvs))) d = some (.frz od (.dK kvs)) := upd_same
    have ul : ∀ Hx, Same (upd H d (.frz od (.dK kvs))) Hx → Same H (upd Hx d (.dK kvs)) := fun Hx s => unlock_same hd s
    generalize upd H d (.frz od (.dK kvs)) = HL at nD hpL hdL ul ⊢
    refine lc_it walk_keys (fun i Hx => Same HL Hx ∧ Hx D = some (.lst ((nz g (ks.take i)).map V.str))) ⟨same_upd nD, upd_same⟩ (fun i Hx _ hP => hP.1 _ _ hdL) (fun i x Hx Hx' hi hP hy => ?_) (fun Hx hP => ?_)
    · obtain ⟨rfl, key, v, ek, rfl⟩ := hy
      obtain ⟨s2, hD⟩ := hP
      obtain ⟨n, en, e1, _⟩ := Paired.at' hpL i _ ek
      have e1 : key = .inr n := e1
      subst e1
      have mn := List.mem_of_getElem? en
      obtain ⟨o, ev, ho⟩ := hpL.val mn
      have tk : nz g (ks.take (i + 1)) = nz g (ks.take i) ++ (if (!decide ((g n).1 = 0)) = true then [n] else []) := take_succ_filter (fun n => !decide ((g n).1 = 0)) ks i n en
      refine ⟨rfl, ?_⟩
      refine ⟨_, rfl, _, rfl, d, .ref o, rfl, ?_, ?_⟩
      · have z : DGet Hx' d (kV (.inr n)) (valV kvs (.inr n)) := .inl ⟨kvs, .inr n, .inr ⟨od, s2 _ _ hdL⟩, rfl, rfl⟩
        rw [ev] at z
        exact z
      · refine ⟨_, _, _, _, rfl, rfl, SqT.of (s2 _ _ ho), rfl, rfl, !decide ((g n).1 = 0), congrArg V.bl (congrArg (fun b => !b) (decI ..)), ite2 (fun c => ?_) (fun c => ?_)⟩
        · refine ⟨_, rfl, n, rfl, _, hD, ?_, fun a ob e => ?_, ?_⟩
          · have f1 : (nz g (ks.take i)).length ≤ (ks.take i).length := List.length_filter_le _ _
            have f2 := List.length_take (i := i) (l := ks)
            rw [List.length_map, sizeLine_eq]; omega
          · rw [upd_ne (ne_of_none e nD)]; exact s2 _ _ e
          · rw [upd_same, tk, if_pos c, List.map_append]
            rfl
        · refine ⟨s2, ?_⟩
          rw [tk, if_neg c, List.append_nil]
          exact hD
    · obtain ⟨s2, hD⟩ := hP
      rw [Paired.length hp, List.take_length] at hD
      refine ⟨s2 _ _ hdL, D, nz g ks, rfl, SqL.of ((upd_ne nDd).trans hD), ?_, fun ys p py sy np => ?_⟩
      · have f1 : (nz g ks).length ≤ ks.length := List.length_filter_le _ _
        omega
      · exact k p ys _ ((ul _ s2).trans (same_upd np)) py sy ((ul _ s2).free np) upd_same
end
end K04
namespace K04
open PySem PySem.Spec PyProof.Rows L2 RatM ClX
theorem Keep.refl {t : Addr} {H : Hp} : Keep t H H := fun _ _ _ e => e
theorem Keep.trans {t : Addr} {A B C' : Hp} (h1 : Keep t A B) (h2 : Keep t B C') : Keep t A C' := fun b o hb e => h2 b o hb (h1 b o hb e)
theorem Keep.same {t : Addr} {A B C' : Hp} (h1 : Keep t A B) (h2 : Same B C') : Keep t A C' := fun b o hb e => h2 b o (h1 b o hb e)
theorem Till.off {H : Hp} {t c p : Addr} {cells : List Int} {i g : Int} (h : Till H t c cells i g) (n : H p = none) : p ≠ t := fun e => by rw [e, h.ht] at n; cases n
theorem Till.same {H H' : Hp} {t c : Addr} {cells : List Int} {i g : Int} (h : Till H t c cells i g) (s : Same H H') : Till H' t c cells i g := ⟨s _ _ h.ht, s _ _ h.hc, h.3⟩
/-- the lists of names that the law draws from -/
def pools : List (List Str) := [["a", "b", "c", "d"], ["b9", "a", "aa", "z"], ["x", "less", "ab", "abcdefghij12"]]
/-- names of things, all different, four at most -/
structure ThOk (xs : List Str) : Prop where
  nd : xs.Nodup
  le : xs.length ≤ 4
  nm : ∀ n ∈ xs, n.length ≤ 12 ∧ nameT n.cps.toList = true
theorem pools_ok : ∀ xs ∈ pools, xs.Nodup ∧ xs.length = 4 ∧ ∀ n ∈ xs, n.length ≤ 12 ∧ nameT n.cps.toList = true := by decide +kernel
theorem rot_cut {α : Type} (xs : List α) (b m : Nat) : (xs.drop b ++ xs.take b).take m = (xs.drop b ++ xs.take b).take m := rfl
theorem cut_from {xs : List V} (b : Nat) (h : b ≤ xs.length) : cutV xs (some (b : Int)) none = xs.drop b := by
  unfold cutV
  rw [HT.sIx_none, HT.sIx_nat, Nat.min_eq_left h]
  exact List.take_of_length_le (by rw [List.length_drop]; omega)
theorem cut_to {xs : List V} (b : Nat) : cutV xs none (some (b : Int)) = xs.take b := by
  unfold cutV
  rw [HT.sIx_none, HT.sIx_nat, List.drop_zero, Nat.sub_zero, ← List.take_take, List.take_length]
theorem rot_ok {xs : List Str} (h : xs ∈ pools) (b m : Nat) (hm : m ≤ 4) : ThOk ((xs.drop b ++ xs.take b).take m) := by
  obtain ⟨h1, h2, h3⟩ := pools_ok xs h
  have p : (xs.drop b ++ xs.take b).Perm xs := List.perm_append_comm.trans (by rw [List.take_append_drop])
  refine ⟨(p.nodup_iff.mpr h1).sublist (List.take_sublist _ _), ?_, fun n mn => h3 n (p.mem_iff.mp (List.mem_of_mem_take mn))⟩
  rw [List.length_take]; omega
theorem ThOk.reverse {xs : List Str} (h : ThOk xs) : ThOk xs.reverse := ⟨(List.reverse_perm xs).nodup_iff.mpr h.nd, by rw [List.length_reverse]; exact h.le, fun n m => h.nm n (List.mem_reverse.mp m)⟩
def spThs : Sp := fun vs H Q _ => ∃ (t c : Addr) (cells : List Int) (i g m : Int), vs = [.ref t, .int m] ∧ 0 ≤ m ∧ m ≤ 4 ∧ Till H t c cells i g ∧ 0 ≤ i ∧ i ≤ 900000 ∧ 0 ≤ g ∧
  ∀ (p : Addr) (xs : List Str) (i' g' : Int) (H' : Hp), ThOk xs → (∀ n ∈ xs, n ∈ pools.flatten) → 0 ≤ i' → i' ≤ i + 3 → 0 ≤ g' → Keep t H H' → p ≠ t → H' p = some (.lst (xs.map V.str)) → Till H' t c cells i' g' → Q (.ref p) H'
section
variable {P : Program} {w : World} {K : PySem.W.Frag} {mg : Str → Option Value} {base : Heap}
theorem scTg : FnScope ["_law_reel_here", "_law_many", "_law_pool", "_law_begin", "_law_found"] ["_law_reel_here", "_law_many"] (defScope (top 62)) := ⟨rfl, rfl, rfl, by decide +kernel, rfl, by decide +kernel, by decide +kernel⟩
theorem ok_things {f fT fO : Addr} {fd fdT fdO : FuncData} (F : FnP K "_law_things" (top 62) f fd) (GT : FnOk P w K mg base CX0 1 fT fdT ["_law_reel_here", "_law_many"] spCoin) (bT : Binds K fdT ["_law_reel_here", "_law_many"] []) (kT : PySem.W.keepIn K (.ref fT) = true) (gT : mg "_law_turn" = some (.ref fT))
    (GO : FnOk P w K mg base CX0 2 fO fdO ["_law_reel_here", "_law_some"] spOf) (bO : Binds K fdO ["_law_reel_here", "_law_some"] []) (kO : PySem.W.keepIn K (.ref fO) = true) (gO : mg "_law_pick" = some (.ref fO)) :
    FnOk P w K mg base CX0 3 f fd ["_law_reel_here", "_law_many"] spThs := by
  refine F.ok scTg (fun vs H Q E h => ?_) (fun cdv A outer s H vs Q E hr h => ?_)
  · obtain ⟨t, c, cells, i, g, m, rfl, _⟩ := h
    rfl
  · obtain ⟨t, c, cells, i, g, m, rfl, m0, m4, hT, hi0, hi1, hg, k⟩ := h
    have hr2 : Room 2 _ := hr
    refine ⟨_, PSs.nox (pss_cons (ps_set (i := 2) scTg.nd rfl (.inl rfl) (pe_call GO hr2 rfl gO kO bO .nil pass0 (pa_cons (pv 0) (pa_cons (pe_lst (pa_cons (pe_lst (pa_cons pe_str (pa_cons pe_str (pa_cons pe_str (pa_cons pe_str pa_nil))))) (pa_cons (pe_lst (pa_cons pe_str (pa_cons pe_str (pa_cons pe_str (pa_cons pe_str pa_nil))))) (pa_cons (pe_lst (pa_cons pe_str (pa_cons pe_str (pa_cons pe_str (pa_cons pe_str pa_nil))))) pa_nil)))) pa_nil))))
      (pss_cons (ps_set (i := 3) scTg.nd rfl (.inl rfl) (pe_call GT (hr2.mono (by decide)) rfl gT kT bT .nil pass0 (pa_cons (pv 0) (pa_cons pe_int pa_nil))))
      (pss_cons (ps_set (i := 4) scTg.nd rfl (.inl rfl) (pe_slice sl_list (pe_op op_cat (pe_slice sl_list (pv 2) (po_some (pv 3)) po_none) (pe_slice sl_list (pv 2) po_none (po_some (pv 3)))) po_none (po_some (pv 1))))
      (pss_one (ps_ret (pe_ifExp (pt_cmpR op_eq (pe_call GT (hr2.mono (by decide)) rfl gT kT bT .nil pass0 (pa_cons (pv 0) (pa_cons pe_int pa_nil))) pe_int (nomark _)) (pe_revL (pv 4)) (pv 4))))))), ?_⟩
    have z4 : (4 : Nat) ≤ sizeLine := by rw [sizeLine_eq]; decide
    have z3 : (3 : Nat) ≤ sizeLine := by rw [sizeLine_eq]; decide
    refine ⟨_, rfl, z4, fun p1 n1 => ?_⟩
    have s1 : Same H (upd H p1 (.lst [.str "a", .str "b", .str "c", .str "d"])) := same_upd n1
    have e1 : (upd H p1 (.lst [.str "a", .str "b", .str "c", .str "d"])) p1 = some (.lst (([ "a", "b", "c", "d"] : List Str).map V.str)) := upd_same
    generalize (upd H p1 (.lst [.str "a", .str "b", .str "c", .str "d"])) = H1 at s1 e1 ⊢
    refine ⟨z4, fun p2 n2 => ?_⟩
    have s2 : Same H1 (upd H1 p2 (.lst [.str "b9", .str "a", .str "aa", .str "z"])) := same_upd n2
    have e2 : (upd H1 p2 (.lst [.str "b9", .str "a", .str "aa", .str "z"])) p2 = some (.lst (([ "b9", "a", "aa", "z"] : List Str).map V.str)) := upd_same
    generalize (upd H1 p2 (.lst [.str "b9", .str "a", .str "aa", .str "z"])) = H2 at s2 e2 ⊢
    refine ⟨z4, fun p3 n3 => ?_⟩
    have s3 : Same H2 (upd H2 p3 (.lst [.str "x", .str "less", .str "ab", .str "abcdefghij12"])) := same_upd n3
    have e3 : (upd H2 p3 (.lst [.str "x", .str "less", .str "ab", .str "abcdefghij12"])) p3 = some (.lst (([ "x", "less", "ab", "abcdefghij12"] : List Str).map V.str)) := upd_same
    generalize (upd H2 p3 (.lst [.str "x", .str "less", .str "ab", .str "abcdefghij12"])) = H3 at s3 e3 ⊢
    refine ⟨z3, fun p4 n4 => ?_⟩
    have s4 : Same H3 (upd H3 p4 (.lst [.ref p1, .ref p2, .ref p3])) := same_upd n4
    have e4 : (upd H3 p4 (.lst [.ref p1, .ref p2, .ref p3])) p4 = some (.lst [.ref p1, .ref p2, .ref p3]) := upd_same
    have hT3 := ((hT.same s1).same s2).same s3
    have n4t : p4 ≠ t := hT3.off n4
    generalize (upd H3 p4 (.lst [.ref p1, .ref p2, .ref p3])) = H4 at s4 e4 ⊢
    have hT4 := hT3.same s4
    refine ⟨t, c, p4, cells, i, g, _, rfl, hT4, hi0, by omega, hg, n4t, e4, (by show (0 : Nat) < 3; decide), (by show (3 : Nat) ≤ 10000; decide), fun v i1 g1 H5 hv j0 j1 k0 kp hT5 => ?_⟩
    have kp0 : Keep t H H5 := ((((Keep.refl.same s1).same s2).same s3).same s4).trans kp
    obtain ⟨q, xs, rfl, mx, hq⟩ : ∃ q xs, v = .ref q ∧ xs ∈ pools ∧ H5 q = some (.lst (xs.map V.str)) := by
      simp only [List.mem_cons, List.not_mem_nil, or_false] at hv
      have a1 := s4 _ _ (s3 _ _ (s2 _ _ e1))
      have a2 := s4 _ _ (s3 _ _ e2)
      have a3 := s4 _ _ e3
      have nt : ∀ {p : Addr} {xs : List V}, H4 p = some (.lst (xs)) → (∀ x : Addr, V.ref x ≠ xs.getD 0 .non) → p ≠ t := fun {p xs} e ne z => by
        rw [z, hT4.ht] at e
        injection e with e
        injection e with e
        subst e
        exact ne c rfl
      rcases hv with rfl | rfl | rfl
      · exact ⟨p1, _, rfl, by unfold pools; simp, kp _ _ (nt a1 (fun x z => by cases z)) a1⟩
      · exact ⟨p2, _, rfl, by unfold pools; simp, kp _ _ (nt a2 (fun x z => by cases z)) a2⟩
      · exact ⟨p3, _, rfl, by unfold pools; simp, kp _ _ (nt a3 (fun x z => by cases z)) a3⟩
    dsimp only [tNext, tSeq, tAsg, gName]
    refine ⟨_, rfl, t, c, cells, i1, g1, 4, rfl, hT5, j0, by omega, k0, by decide, by decide, fun r i2 g2 H6 r0 r1 j2 j3 k2 kp2 hT6 => ?_⟩
    have qt : q ≠ t := fun z => by
      rw [z, hT5.ht] at hq
      injection hq with hq
      injection hq with hq
      cases xs with
      | nil => cases hq
      | cons a l => injection hq with hq _; cases hq
    have hq6 := kp2 _ _ qt hq
    obtain ⟨b, rfl⟩ : ∃ b : Nat, r = b := ⟨r.toNat, by omega⟩
    obtain ⟨mm, rfl⟩ : ∃ mm : Nat, m = mm := ⟨m.toNat, by omega⟩
    have lx := (pools_ok xs mx).2.1
    have ok := rot_ok mx b mm (by omega)
    dsimp only [tNext, tSeq, tAsg, gName]
    refine ⟨_, rfl, _, rfl, _, rfl, q, _, rfl, SqL.of hq6, fun d1 m1 => ?_⟩
    rw [cut_from b (by rw [List.length_map]; omega), ← List.map_drop]
    have u1 : Same H6 (upd H6 d1 (.lst ((xs.drop b).map V.str))) := same_upd m1
    have f1 : (upd H6 d1 (.lst ((xs.drop b).map V.str))) d1 = some (.lst ((xs.drop b).map V.str)) := upd_same
    generalize (upd H6 d1 (.lst ((xs.drop b).map V.str))) = H7 at u1 f1 ⊢
    refine ⟨_, rfl, _, rfl, _, rfl, q, _, rfl, SqL.of (u1 _ _ hq6), fun d2 m2 => ?_⟩
    rw [cut_to, ← List.map_take]
    have u2 : Same H7 (upd H7 d2 (.lst ((xs.take b).map V.str))) := same_upd m2
    have f2 : (upd H7 d2 (.lst ((xs.take b).map V.str))) d2 = some (.lst ((xs.take b).map V.str)) := upd_same
    generalize (upd H7 d2 (.lst ((xs.take b).map V.str))) = H8 at u2 f2 ⊢
    refine ⟨d1, d2, _, _, rfl, rfl, u2 _ _ f1, f2, ?_, fun d3 m3 => ?_⟩
    · rw [List.length_map, List.length_map, List.length_drop, List.length_take, sizeLine_eq]; omega
    rw [← List.map_append]
    have u3 : Same H8 (upd H8 d3 (.lst ((xs.drop b ++ xs.take b).map V.str))) := same_upd m3
    have f3 : (upd H8 d3 (.lst ((xs.drop b ++ xs.take b).map V.str))) d3 = some (.lst ((xs.drop b ++ xs.take b).map V.str)) := upd_same
    generalize (upd H8 d3 (.lst ((xs.drop b ++ xs.take b).map V.str))) = H9 at u3 f3 ⊢
    refine ⟨_, rfl, _, rfl, d3, _, rfl, SqL.of f3, fun d4 m4' => ?_⟩
    rw [cut_to, ← List.map_take]
    have nn : ∀ n ∈ (xs.drop b ++ xs.take b).take mm, n ∈ pools.flatten := fun n m => List.mem_flatten.mpr ⟨xs, mx, (List.mem_append.mp (List.mem_of_mem_take m)).elim List.mem_of_mem_drop List.mem_of_mem_take⟩
    generalize (xs.drop b ++ xs.take b).take mm = ys at ok nn ⊢
    have u4 : Same H9 (upd H9 d4 (.lst (ys.map V.str))) := same_upd m4'
    have f4 : (upd H9 d4 (.lst (ys.map V.str))) d4 = some (.lst (ys.map V.str)) := upd_same
    have ta : Till H9 t c cells i2 g2 := ((hT6.same u1).same u2).same u3
    have d4t : d4 ≠ t := ta.off m4'
    generalize (upd H9 d4 (.lst (ys.map V.str))) = HA at u4 f4 ⊢
    have tA := ta.same u4
    have kA : Keep t H HA := ((((kp0.trans kp2).same u1).same u2).same u3).same u4
    refine ⟨_, rfl, t, c, cells, i2, g2, 2, rfl, tA, j2, by omega, k2, by decide, by decide, fun r' i3 g3 HB r0' r1' j4 j5 k3 kp3 hTB => ?_⟩
    have fB := kp3 _ _ d4t f4
    refine ⟨rfl, _, rfl, ite2 (fun c2 => ?_) (fun c2 => ?_)⟩
    · refine ⟨_, rfl, d4, _, rfl, SqL.of fB, fun d5 m5 => ?_⟩
      have d5t := hTB.off m5
      rw [← List.map_reverse]
      exact k d5 ys.reverse i3 g3 _ ok.reverse (fun n m => nn n (List.mem_reverse.mp m)) j4 (by omega) k3 ((kA.trans kp3).same (same_upd m5)) d5t upd_same (hTB.same (same_upd m5))
    · exact ⟨_, rfl, k d4 ys i3 g3 HB ok nn j4 (by omega) k3 (kA.trans kp3) d4t fB hTB⟩
end
end K04
namespace K04
open PySem PySem.Spec PyProof.Rows L2 RatM ClX
/-- what a text of a plain balance asks of its numbers -/
def TxOk (g : Str → Int × Int) (ks : List Str) : Prop := ∀ n ∈ ks, Sz (g n).1 ∧ Sz (g n).2 ∧ n.length ≤ 1000 ∧ (textR (g n).1 (g n).2).length ≤ 1000
def spTold : Sp := fun vs H Q _ => ∃ (d : Addr) (kvs : List (Key × V)) (ks : List Str) (g : Str → Int × Int), vs = [.ref d] ∧ H d = some (.dK kvs) ∧ PlD H g kvs ks ∧ ks.length ≤ 60 ∧ TxOk g ks ∧
  ∀ ys H', Same H H' → ys.Perm (nz g ks) → sortedS ys = true → Q (.str (balT g ys)) H'
theorem eqv_one (x : Int × Int) : PyData.eqv (.tuple [.int x.1, .int x.2]) (.tuple [.int 1, .int 1]) = (decide (x.2 = 1) && decide (x.1 = 1)) := by
  rw [eqv_pair, Bool.and_comm]
theorem pair_plain (p q : Int) : PyData.plain (.tuple [.int p, .int q]) = true := rfl
section
variable {P : Program} {w : World} {K : PySem.W.Frag} {mg : Str → Option Value} {base : Heap}
theorem scTo : FnScope ["_law_plain", "_law_words", "_law_thing"] ["_law_plain"] (defScope (top 65)) := ⟨rfl, rfl, rfl, by decide +kernel, rfl, by decide +kernel, by decide +kernel⟩
theorem ok_told {f fN fX : Addr} {fd fdN fdX : FuncData} (F : FnP K "_law_told" (top 65) f fd)
    (GN : FnOk P w K mg base CX0 1 fN fdN ["_law_plain"] spNamed) (bN : Binds K fdN ["_law_plain"] []) (kN : PySem.W.keepIn K (.ref fN) = true) (gN : mg "_law_named" = some (.ref fN))
    (GX : FnOk P w K mg base CX0 1 fX fdX ["_law_pair"] (spTx K)) (bX : Binds K fdX ["_law_pair"] []) (kX : PySem.W.keepIn K (.ref fX) = true) (gX : mg "_law_text" = some (.ref fX)) :
    FnOk P w K mg base CX0 2 f fd ["_law_plain"] spTold := by
  refine F.ok scTo (fun vs H Q E h => ?_) (fun cdv A outer s H vs Q E hr h => ?_)
  · obtain ⟨d, kvs, ks, g, rfl, _⟩ := h
    rfl
  · obtain ⟨d, kvs, ks, g, rfl, hd, hp, lk, tx, k⟩ := h
    have hr1 : Room 1 _ := hr
    have hu1 : (A.deeper (envOfC (Str.ofString "_law_told") (defScope (top 65)) s.heap.objs.size f cdv)).units + 64 < cLine := by have := hr1.units; omega
    refine ⟨_, PSs.nox (pss_cons (ps_setLc (i := 1) (own := [("_law_thing", 2)]) (g := gName 2) (tt := tYes)
        (te := tIf (tOp (rEqP K id) (tDGet (tVar 0) (tVar 2)) (tTup (tCons (tC (.int 1)) (tCons (tC (.int 1)) tNil))) |> fun t σ H Q => t σ H fun x H1 => ∃ k, x = .bl k ∧ Q k H1) (tVar 2)
          (tOp (fun x y H Q => ∃ i j, x = .str i ∧ y = .str j ∧ i.length + j.length ≤ sizeLine ∧ Q (.str (i ++ j)) H) (tOp (fun x y H Q => ∃ i j, x = .str i ∧ y = .str j ∧ i.length + j.length ≤ sizeLine ∧ Q (.str (i ++ j)) H) (tCall (spTx K) [] E0 (tCons (tDGet (tVar 0) (tVar 2)) tNil)) (tC (.str " "))) (tVar 2)))
        rfl scTo.nd rfl rfl (sw_true rfl rfl rfl (by decide +kernel)) (pi_list (pe_call GN (by exact hr1) rfl gN kN bN .nil pass0 (pa_cons (pv 0) pa_nil))) (blkOk_by (N := ["_law_plain", "_law_words", "_law_thing"]) (sc := defScope (top 65)) (by decide +kernel))
        (fun _ _ _ _ _ => pg_name (i := 2) scTo.nd rfl (Or.inl rfl)) (fun _ _ _ _ _ => pts_nil)
        (fun _ _ _ _ _ => pe_ifExp (pt_cmpR (op_eqP (by exact hu1)) (pe_dget (by exact Nat.lt_of_le_of_lt (Nat.add_le_add_left (by decide) _) hu1) (pv 0) (pv 2) (fun _ _ => rfl)) (pe_tup (pa_cons pe_int (pa_cons pe_int pa_nil))) (nomark _)) (pv 2)
          (pe_op op_add_str (pe_op op_add_str (pe_call GX (by exact hr1) rfl gX kX bX .nil pass0 (pa_cons (pe_dget (by exact Nat.lt_of_le_of_lt (Nat.add_le_add_left (by decide) _) hu1) (pv 0) (pv 2) (fun _ _ => rfl)) pa_nil)) pe_str) (pv 2))))
      (pss_one (ps_ret (pe_ifExp (pt_cmpR (op_neP hu1) (pv 1) (pe_lst pa_nil) (nomark _)) (pe_join pe_str (pv 1)) pe_str)))), ?_⟩
    refine ⟨_, rfl, d, kvs, ks, g, rfl, hd, hp, lk, fun p ys H1 s1 py sy n1 e1 => ?_⟩
    refine ⟨p, rfl, ⟨_, SqL.of e1⟩, fun D nD => ?_⟩
    have lys : ys.length ≤ 60 := by
      rw [py.length_eq]
      exact Nat.le_trans (List.length_filter_le _ _) lk
    refine lc_it (walk_list (xs := ys.map V.str)) (fun i Hx => Same H1 Hx ∧ Hx D = some (.lst (((ys.take i).map fun n => termT n (g n)).map V.str))) ⟨same_upd nD, upd_same⟩ (fun i Hx _ hP => SqL.of (hP.1 _ _ e1)) (fun i x Hx Hx' hi hP hy => ?_) (fun Hx hP => ?_)
    · obtain ⟨rfl, ex⟩ := hy
      obtain ⟨s2, hD⟩ := hP
      rw [List.getElem?_map] at ex
      obtain ⟨n, en, rfl⟩ := Option.map_eq_some_iff.mp ex
      have mn : n ∈ ks := (List.mem_filter.mp (py.mem_iff.mp (List.mem_of_getElem? en))).1
      obtain ⟨z1, z2, z3, z4⟩ := tx n mn
      have s3 := s1.trans s2
      obtain ⟨o, ev, ho⟩ := (hp.same s3).val mn
      have dg : ∀ {Hy : Hp}, Same Hx' Hy → DGet Hy d (kV (.inr n)) (some (.ref o)) := fun {Hy} sy => by
        have z : DGet Hy d (kV (.inr n)) (valV kvs (.inr n)) := DGet.k (sy _ _ (s3 _ _ hd))
        rw [ev] at z
        exact z
      have fin : ∀ Hy : Hp, Same Hx' Hy → ∃ acc, Hy D = some (.lst acc) ∧ acc.length < sizeLine ∧ Same H1 (upd Hy D (.lst (acc ++ [.str (termT n (g n))]))) ∧ (upd Hy D (.lst (acc ++ [.str (termT n (g n))]))) D = some (.lst (((ys.take (i + 1)).map fun n => termT n (g n)).map V.str)) := fun Hy sy => by
        refine ⟨_, sy _ _ hD, ?_, fun c o e => ?_, ?_⟩
        · have f2 := List.length_take (i := i) (l := ys)
          simp only [List.length_map]
          rw [sizeLine_eq]; omega
        · rw [upd_ne (ne_of_none e nD)]; exact sy _ _ (s2 _ _ e)
        · rw [upd_same, List.take_add_one, en]
          simp
      refine ⟨rfl, yesI ?_⟩
      refine ⟨_, rfl, _, rfl, d, .ref o, rfl, dg (Same.refl _), ⟨by rw [sizeLine_eq]; decide, fun q nq => ?_⟩⟩
      have sq : Same Hx' (upd Hx' q (.tup [.int 1, .int 1])) := same_upd nq
      refine ⟨.tuple [.int (g n).1, .int (g n).2], .tuple [.int 1, .int 1], dp_pair (SqT.of (sq _ _ ho)), dp_pair (SqT.of upd_same), rfl, rfl, Nat.le_trans (Nat.min_le_right _ _) (by decide), _, congrArg V.bl (eqv_one (g n)), ite2 (fun c => ?_) (fun c => ?_)⟩
      · have := fin _ sq
        rw [show termT n (g n) = n from if_pos c] at this
        exact ⟨_, rfl, this⟩
      · have := fin _ sq
        rw [show termT n (g n) = (textR (g n).1 (g n).2 ++ " ") ++ n by rw [← empty_app (textR (g n).1 (g n).2)]; exact if_neg c] at this
        have e3 : (Str.ofString " " : Str).length = 1 := rfl
        exact ⟨_, rfl, _, rfl, d, .ref o, rfl, dg sq, o, _, _, rfl, SqT.of (sq _ _ ho), z1, z2, _, _, rfl, rfl, by rw [sizeLine_eq]; omega, _, rfl, _, _, rfl, rfl, by rw [strLen_append, sizeLine_eq]; omega, this⟩
    · obtain ⟨s2, hD⟩ := hP
      rw [List.length_map, List.take_length] at hD
      dsimp only [gName]
      refine ⟨_, rfl, ⟨by rw [sizeLine_eq]; exact Nat.zero_le _, fun q nq => ?_⟩⟩
      have sq : Same Hx (upd Hx q (.lst [])) := same_upd nq
      have k' := fun H' sx => k ys H' ((s1.trans s2).trans sx) py sy
      unfold balT at k'
      refine ⟨.list ((ys.map fun n => termT n (g n)).map .str), .list [], .lst (SqL.of (sq _ _ hD)) (dp_strs _), .lst (SqL.of upd_same) .nil, ?_, rfl, ?_, !decide (ys = []), congrArg V.bl ?_, ite2 (fun c => ?_) (fun c => ?_)⟩
      · simp only [PyData.plain]
        exact plain_strs _
      · exact Nat.le_trans (Nat.min_le_right _ _) (by decide)
      · rw [eqv_strs_nil]
        cases ys <;> rfl
      · have z0 : ¬ ys.length = 0 := fun z => by rw [List.length_eq_zero_iff.mp z] at c; exact absurd c (by decide)
        have k2 := k' _ sq
        rw [if_neg z0] at k2
        refine ⟨⟨_, rfl⟩, _, rfl, " + ", D, ys.map fun n => termT n (g n), rfl, rfl, .inl (SqL.of (sq _ _ hD)), ?_, k2⟩
        have sl := sum_le (f := fun n => (termT n (g n)).length) (B := 2001) ys fun n m => by
          obtain ⟨_, _, z3, z4⟩ := tx n (List.mem_filter.mp (py.mem_iff.mp m)).1
          exact termT_len z3 z4
        rw [List.map_map, List.length_map]
        have e3 : (" + " : Str).length = 3 := rfl
        rw [e3]
        have : (ys.map ((fun x : Str => x.length) ∘ fun n => termT n (g n))).sum ≤ ys.length * 2001 := sl
        have m1 : ys.length * 2001 ≤ 60 * 2001 := Nat.mul_le_mul_right _ lys
        omega
      · have z0 : ys = [] := by
          cases e : decide (ys = []) with
          | true => exact of_decide_eq_true e
          | false => rw [e] at c; exact absurd rfl c
        have k2 := k' _ sq
        rw [z0] at k2
        exact k2
end
end K04
namespace K04
open PySem PySem.Spec PyProof.Rows L2 RatM ClX
/-- what the law's defs rest on -/
structure LwK (P : Program) (w : World) (K : PySem.W.Frag) (mg : Str → Option Value) (base : Heap) (CB C BR : Addr) : Prop where
  O : OpsK P w K mg base CB C BR
  tyB : ∀ (H : Hp) (a : Addr) g zs, BalAt H a CB C g zs → TyX K H (.ref a) (.ref CB)
  cc : PySem.W.kitOne K (.ref CB) (.ref CB) = some true
  T : Blt mg
  tup : mg "tuple" = none
  str : mg "str" = none
  dict : mg "dict" = none
  list : mg "list" = none
  strB : ∃ (f : Addr) (fd : FuncData), OwnM K CB "__str__" f ∧ FnOk P w K mg base CX0 7 f fd ["self"] (spBalT CB C) ∧ Binds K fd ["self"] []
theorem RatAt.upd_l {H : Hp} {C a : Addr} {p q : Int} {o : HO} {D : Addr} {xs : List V} (h : RatAt H a C p q) (hd : H D = some (.lst xs)) : RatAt (upd H D o) a C p q := by
  obtain ⟨dx, e⟩ := h
  exact ⟨dx, (upd_ne fun z => by rw [z, hd] at e; cases e).trans e⟩
/-- fractions in a list, in order -/
abbrev TsP (H : Hp) (g : Str → Int × Int) : List Addr → List Str → Prop := Paired fun t n => H t = some (.tup (tupF (g n)))
theorem TsP.same {H H' : Hp} {g : Str → Int × Int} {ts : List Addr} {ks : List Str} (h : TsP H g ts ks) (s : Same H H') : TsP H' g ts ks := Paired.mono' (fun _ _ e => s _ _ e) h
theorem dp_ts {K : PySem.W.Frag} {H : Hp} {g : Str → Int × Int} {ts : List Addr} {ks : List Str} (h : TsP H g ts ks) : DpAll K H (ts.map V.ref) (ks.map fun n => PyData.tuple [.int (g n).1, .int (g n).2]) := by
  induction h with
  | nil => exact .nil
  | cons x _ ih => exact .cons (dp_pair (SqT.of x)) ih
theorem plain_ts (g : Str → Int × Int) : ∀ ks : List Str, PyData.plainAll (ks.map fun n => PyData.tuple [.int (g n).1, .int (g n).2]) = true
  | [] => rfl
  | n :: t => by
    have := plain_ts g t
    simp only [List.map_cons, PyData.plainAll, PyData.plain, this, Bool.and_self]
theorem deep_ts (g : Str → Int × Int) : ∀ ks : List Str, PyData.depthAll (ks.map fun n => PyData.tuple [.int (g n).1, .int (g n).2]) ≤ 1
  | [] => Nat.zero_le _
  | n :: t => by
    have := deep_ts g t
    simp only [List.map_cons, PyData.depthAll, PyData.depth]
    omega
abbrev RsP (H : Hp) (C : Addr) (g : Str → Int × Int) : List Addr → List Str → Prop := Paired fun t n => RatAt H t C (g n).1 (g n).2
theorem RsP.same {H H' : Hp} {C : Addr} {g : Str → Int × Int} {ts : List Addr} {ks : List Str} (h : RsP H C g ts ks) (s : Same H H') : RsP H' C g ts ks := Paired.mono' (fun _ _ e => e.same s) h
def spIsAs (CB C : Addr) : Sp := fun vs H Q _ => ∃ (a d : Addr) (kvs : List (Key × V)) (ks zs : List Str) (g g2 : Str → Int × Int), vs = [.ref a, .ref d] ∧ H d = some (.dK kvs) ∧ PlD H g kvs ks ∧ ks.length ≤ 60 ∧ TxOk g ks ∧
  BalAt H a CB C g2 zs ∧ BalOk g2 zs ∧ zs.Perm (nz g ks) ∧ (∀ n ∈ zs, g2 n = g n) ∧ (∀ n ∈ zs, 0 < (g n).2 ∧ Int.gcd (g n).1 (g n).2 = 1) ∧ ∀ H', Same H H' → Q (.bl true) H'
theorem balT_congr {g g2 : Str → Int × Int} {zs : List Str} (e : ∀ n ∈ zs, g2 n = g n) : balT g2 zs = balT g zs := by
  unfold balT
  have : (zs.map fun n => termT n (g2 n)) = zs.map fun n => termT n (g n) := List.map_congr_left fun n m => by rw [e n m]
  rw [this]
section
variable {P : Program} {w : World} {K : PySem.W.Frag} {mg : Str → Option Value} {base : Heap} {C BR CB BB : Addr}
abbrev nsIa : List Str := ["_law_balance", "_law_plain", "_law_names", "_law_numbers", "_law_thing", "_law_one"]
theorem scIa : FnScope nsIa ["_law_balance", "_law_plain"] (defScope (top 67)) := ⟨rfl, rfl, rfl, by decide +kernel, rfl, by decide +kernel, by decide +kernel⟩
theorem ok_isAs {f fN fT : Addr} {fd fdN fdT : FuncData} (F : FnP K "_law_is_as" (top 67) f fd) (L : LwK P w K mg base CB C BR)
    (GN : FnOk P w K mg base CX0 1 fN fdN ["_law_plain"] spNamed) (bN : Binds K fdN ["_law_plain"] []) (kN : PySem.W.keepIn K (.ref fN) = true) (gN : mg "_law_named" = some (.ref fN))
    (GT : FnOk P w K mg base CX0 2 fT fdT ["_law_plain"] spTold) (bT : Binds K fdT ["_law_plain"] []) (kT : PySem.W.keepIn K (.ref fT) = true) (gT : mg "_law_told" = some (.ref fT)) :
    FnOk P w K mg base CX0 10 f fd ["_law_balance", "_law_plain"] (spIsAs CB C) := by
  obtain ⟨fM, fdM, MN, GM, bM⟩ := L.O.num
  obtain ⟨fS, fdS, MS, GS, bS⟩ := L.strB
  have B := L.O.B
  have R := L.O.R
  refine F.ok scIa (fun vs H Q E h => ?_) (fun cdv A outer s H vs Q E hr h => ?_)
  · obtain ⟨a, d, kvs, ks, zs, g, g2, rfl, _⟩ := h
    rfl
  · obtain ⟨a, d, kvs, ks, zs, g, g2, rfl, hd, hp, lk, tx, hb, ok, pz, e2, lo, k⟩ := h
    have hr9 : Room 9 _ := hr
    have hu1 : (A.deeper (envOfC (Str.ofString "_law_is_as") (defScope (top 67)) s.heap.objs.size f cdv)).units + 64 < cLine := by have := hr9.units; omega
    refine ⟨_, PSs.nox (pss_cons (ps_set (i := 2) scIa.nd rfl (.inl rfl) (pe_call GN (hr9.mono (by decide)) rfl gN kN bN .nil pass0 (pa_cons (pv 1) pa_nil)))
      (pss_cons (ps_if (PW.pt (pw_or (pt_not (pt_val (pe_callB call_isi (by rfl) R.bi (by decide +kernel) (pa_cons (pv 0) (pa_cons (pe_glob (v := .ref _) rfl B.g rfl) pa_nil)))))
          (pw_or (pt_cmpR (op_neP hu1) (pe_fld (pv 0) rfl) (pe_callTy call_tuple_of (by rfl) L.tup PyProof.Rows.boot_tuple (pa_cons (pv 2) pa_nil)) (nomark _))
          (pw_or1 (pt_cmpR op_ne (pe_fld (pv 0) rfl) (pe_cmpR (op_eqP hu1) (pv 2) (pe_lst pa_nil) (nomark _)) (nomark _)))))) (pss_one (ps_ret pe_bl)) pss_nil)
      (pss_cons (ps_setLc (i := 3) (own := [("_law_thing", 4)]) (g := gName 4) (tt := tYes) (te := tMeth CB "number_of" (spNum CB C) [] E0 (tVar 0) (tCons (tVar 4) tNil)) rfl scIa.nd rfl rfl (sw_true rfl rfl rfl (by decide +kernel)) (pi_list (pv 2)) (blkOk_by (N := nsIa) (sc := defScope (top 67)) (by decide +kernel))
        (fun _ _ _ _ _ => pg_name (i := 4) scIa.nd rfl (Or.inl rfl)) (fun _ _ _ _ _ => pts_nil) (fun _ _ _ _ _ => pe_meth (pv 0) B.T.cls MN GM (by exact hr9.mono (by decide)) bM .nil (E := E0) pass0 (pa_cons (pv 4) pa_nil)))
      (pss_cons (ps_if (pt_cmpR (op_neP hu1) (pe_lc (own := [("_law_one", 5)]) (g := gName 5) (tt := tNot (tB (tCB (rIsi K) (tCons (tVar 5) (tCons (tC (.ref C)) tNil))))) (te := tVar 5) rfl scIa.nd (pi_list (pv 3)) (blkOk_by (N := nsIa) (sc := defScope (top 67)) (by decide +kernel))
        (fun _ _ _ _ _ => pg_name (i := 5) scIa.nd rfl (Or.inl rfl)) (fun _ _ _ _ _ => pts_one (pt_not (pt_val (pe_callB call_isi (by rfl) R.bi (by decide +kernel) (pa_cons (pv 5) (pa_cons (pe_glob (v := .ref _) rfl R.g rfl) pa_nil)))))) (fun _ _ _ _ _ => pv 5)) (pe_lst pa_nil) (nomark _)) (pss_one (ps_ret pe_bl)) pss_nil)
      (pss_one (ps_ret (pe_and (pe_cmpR (op_eqP hu1)
        (pe_lc (own := [("_law_one", 5)]) (g := gName 5) (tt := tYes) (te := tTup (tCons (tFld K (tVar 5) "top") (tCons (tFld K (tVar 5) "bottom") tNil))) rfl scIa.nd (pi_list (pv 3)) (blkOk_by (N := nsIa) (sc := defScope (top 67)) (by decide +kernel))
          (fun _ _ _ _ _ => pg_name (i := 5) scIa.nd rfl (Or.inl rfl)) (fun _ _ _ _ _ => pts_nil) (fun _ _ _ _ _ => pe_tup (pa_cons (pe_fld (pv 5) rfl) (pa_cons (pe_fld (pv 5) rfl) pa_nil))))
        (pe_lc (own := [("_law_thing", 4)]) (g := gName 4) (tt := tYes) (te := tDGet (tVar 1) (tVar 4)) rfl scIa.nd (pi_list (pv 2)) (blkOk_by (N := nsIa) (sc := defScope (top 67)) (by decide +kernel))
          (fun _ _ _ _ _ => pg_name (i := 4) scIa.nd rfl (Or.inl rfl)) (fun _ _ _ _ _ => pts_nil) (fun _ _ _ _ _ => pe_dget (by exact Nat.lt_of_le_of_lt (Nat.add_le_add_left (by decide) _) hu1) (pv 1) (pv 4) (fun _ _ => rfl))) (nomark _))
        (pe_one (pe_cmpR op_eq (pe_callTy (call_ownStr MS GS (by exact hr9) bS (E := E0) pass0) (by rfl) L.str PyProof.Rows.boot_str (pa_cons (pv 0) pa_nil)) (pe_call GT (hr9.mono (by decide)) rfl gT kT bT .nil pass0 (pa_cons (pv 1) pa_nil)) (nomark _)))))))))), ?_⟩
    refine ⟨_, rfl, d, kvs, ks, g, rfl, hd, hp, lk, fun p ys H1 s1 py sy n1 e1 => ?_⟩
    obtain rfl : ys = zs := sorted_unique sy ok.so (py.trans pz.symm)
    have nT := B.T.no "things" (by simp)
    have nI := B.T.no "is_nothing" (by simp)
    have hb1 := hb.same s1
    obtain ⟨dx, nd, tp, kt, ha, bi⟩ := id hb1
    obtain ⟨hnd, htp, hkt⟩ := id bi
    have lz : ys.length ≤ 60 := ok.ns.le
    have mk : ∀ n ∈ ys, n ∈ ks := fun n m => (List.mem_filter.mp (pz.mem_iff.mp m)).1
    dsimp only [tNext, tSeq, tAsg, gName]
    refine ⟨_, rfl, _, _, _, _, _, rfl, .own CB, L.tyB _ _ _ _ hb1, L.cc, true, rfl, iteF ?_⟩
    refine ⟨_, rfl, a, CB, dx, _, _, rfl, ha, B.T.cls, nT, rfl, _, rfl, p, _, rfl, .inl ⟨SqL.of e1, fun q nq => ?_⟩⟩
    have sq : Same H1 (upd H1 q (.tup (ys.map V.str))) := same_upd nq
    have eq1 : (upd H1 q (.tup (ys.map V.str))) q = some (.tup (ys.map V.str)) := upd_same
    generalize (upd H1 q (.tup (ys.map V.str))) = H2 at sq eq1 ⊢
    have pl : PyData.plain (.tuple (ys.map PyData.str)) = true := by simp only [PyData.plain]; exact plain_strs _
    have dl : PyData.depth (.tuple (ys.map PyData.str)) ≤ 60 := by simp only [PyData.depth, deep_strs]; decide
    refine ⟨.tuple (ys.map .str), .tuple (ys.map .str), .tup (SqT.of (sq _ _ htp)) (dp_strs _), .tup (SqT.of eq1) (dp_strs _), pl, pl, Nat.le_trans (Nat.min_le_left _ _) dl, false, congrArg V.bl (by rw [SeqAt.eqv_refl_plain _ pl]; rfl), iteF ?_⟩
    refine ⟨_, rfl, a, CB, dx, _, _, rfl, sq _ _ ha, B.T.cls, nI, rfl, _, rfl, by rw [sizeLine_eq]; exact Nat.zero_le _, fun q2 nq2 => ?_⟩
    have sq2 : Same H2 (upd H2 q2 (.lst [])) := same_upd nq2
    have eq2 : (upd H2 q2 (.lst [])) q2 = some (.lst []) := upd_same
    generalize (upd H2 q2 (.lst [])) = H3 at sq2 eq2 ⊢
    refine ⟨.list (ys.map .str), .list [], .lst (SqL.of (sq2 _ _ (sq _ _ e1))) (dp_strs _), .lst (SqL.of eq2) .nil, by simp only [PyData.plain]; exact plain_strs _, rfl, Nat.le_trans (Nat.min_le_right _ _) (by decide), rfl, false, congrArg V.bl ?_, ?_⟩
    · rw [eqv_strs_nil]
      cases ys with
      | nil => rfl
      | cons y t =>
        have : ((t.length + 1 : Nat) : Int) ≠ 0 := by omega
        simp [this]
        omega
    dsimp only [tNext, tSeq]
    have s3 : Same H1 H3 := sq.trans sq2
    have hb3 := hb1.same s3
    have e3 := s3 _ _ e1
    refine iteF ?_
    refine ⟨_, rfl, p, rfl, ⟨_, SqL.of e3⟩, fun D nD => ?_⟩
    refine lc_it (walk_list (xs := ys.map V.str)) (fun i Hx => Same H3 Hx ∧ ∃ bs : List Addr, Hx D = some (.lst (bs.map V.ref)) ∧ RsP Hx C g bs (ys.take i)) ⟨same_upd nD, [], upd_same, .nil⟩ (fun i Hx _ hP => SqL.of (hP.1 _ _ e3)) (fun i x Hx Hx' hi hP hy => ?_) (fun H4 hP => ?_)
    · obtain ⟨rfl, ex⟩ := hy
      obtain ⟨s4, bs, hD, hB⟩ := hP
      rw [List.getElem?_map] at ex
      obtain ⟨n, en, rfl⟩ := Option.map_eq_some_iff.mp ex
      have mn := List.mem_of_getElem? en
      have hb4 := hb3.same s4
      obtain ⟨dx4, nd4, tp4, kt4, ha4, _⟩ := id hb4
      refine ⟨rfl, yesI ?_⟩
      refine ⟨_, rfl, a, dx4, _, rfl, ha4, rfl, _, rfl, a, n, g2, ys, rfl, hb4, (ok.ns.nm n mn).1, (ok.ns.nm n mn).2, fun b' H5 s5 h5 => ?_⟩
      rw [show num g2 ys n = g n from (if_pos mn).trans (e2 n mn)] at h5
      refine ⟨_, s5 _ _ hD, ?_, fun c o e => ?_, bs ++ [b'], ?_, ?_⟩
      · have f2 := List.length_take (i := i) (l := ys)
        have f3 := Paired.length hB
        simp only [List.length_map]
        rw [sizeLine_eq]; omega
      · rw [upd_ne (ne_of_none e nD)]; exact s5 _ _ (s4 _ _ e)
      · rw [upd_same, List.map_append]; rfl
      · rw [List.take_add_one, en]
        refine Paired.snoc ?_ ?_
        · exact Paired.mono' (fun _ _ e => RatAt.upd_l (e.same s5) (s5 _ _ hD)) hB
        · exact RatAt.upd_l h5 (s5 _ _ hD)
    · obtain ⟨s4, bs, hD, hB⟩ := hP
      rw [List.length_map, List.take_length] at hB
      have lb := Paired.length hB
      dsimp only [gName]
      refine ⟨_, rfl, D, rfl, ⟨_, SqL.of hD⟩, fun D2 nD2 => ?_⟩
      refine lc_it (walk_list (xs := bs.map V.ref)) (fun i Hx => Same H4 Hx ∧ Hx D2 = some (.lst [])) ⟨same_upd nD2, upd_same⟩ (fun i Hx _ hP => SqL.of (hP.1 _ _ hD)) (fun i x Hx Hx' hi hP hy => ?_) (fun H5 hP => ?_)
      · obtain ⟨rfl, ex⟩ := hy
        rw [List.getElem?_map] at ex
        obtain ⟨b, eb, rfl⟩ := Option.map_eq_some_iff.mp ex
        obtain ⟨n, en, hr⟩ := Paired.at' hB i b eb
        have hr5 := hr.same hP.1
        exact ⟨rfl, _, rfl, _, _, _, _, _, rfl, .own C, hr5.ty R.T R.I, R.I.cc, true, rfl, iteF hP⟩
      · obtain ⟨s5, hD2⟩ := hP
        refine ⟨by rw [sizeLine_eq]; exact Nat.zero_le _, fun q3 nq3 => ?_⟩
        have sq3 : Same H5 (upd H5 q3 (.lst [])) := same_upd nq3
        have eq3 : (upd H5 q3 (.lst [])) q3 = some (.lst []) := upd_same
        generalize (upd H5 q3 (.lst [])) = H6 at sq3 eq3 ⊢
        refine ⟨.list [], .list [], .lst (SqL.of (sq3 _ _ hD2)) .nil, .lst (SqL.of eq3) .nil, rfl, rfl, by decide, false, rfl, iteF ?_⟩
        dsimp only [tNext, tSeq]
        have s6 : Same H4 H6 := s5.trans sq3
        have hD6 := s6 _ _ hD
        have hB6 : RsP H6 C g bs ys := hB.same s6
        refine ⟨_, rfl, D, rfl, ⟨_, SqL.of hD6⟩, fun D3 nD3 => ?_⟩
        refine lc_it (walk_list (xs := bs.map V.ref)) (fun i Hx => Same H6 Hx ∧ ∃ ts : List Addr, Hx D3 = some (.lst (ts.map V.ref)) ∧ TsP Hx g ts (ys.take i)) ⟨same_upd nD3, [], upd_same, .nil⟩ (fun i Hx _ hP => SqL.of (hP.1 _ _ hD6)) (fun i x Hx Hx' hi hP hy => ?_) (fun H7 hP => ?_)
        · obtain ⟨rfl, ex⟩ := hy
          obtain ⟨s7, ts, hD3, hT⟩ := hP
          rw [List.getElem?_map] at ex
          obtain ⟨b, eb, rfl⟩ := Option.map_eq_some_iff.mp ex
          obtain ⟨n, en, hr⟩ := Paired.at' hB6 i b eb
          obtain ⟨dxb, hr7⟩ := hr.same s7
          refine ⟨rfl, yesI ?_⟩
          refine ⟨_, rfl, b, C, dxb, _, _, rfl, hr7, R.T.cls, R.T.no "top" (by simp), rfl, _, rfl, b, C, dxb, _, _, rfl, hr7, R.T.cls, R.T.no "bottom" (by simp), rfl, by rw [sizeLine_eq]; show 2 ≤ 16777216; decide, fun t nt => ?_⟩
          have st : Same Hx' (upd Hx' t (.tup [.int (g n).1, .int (g n).2])) := same_upd nt
          have et : (upd Hx' t (.tup [.int (g n).1, .int (g n).2])) t = some (.tup (tupF (g n))) := upd_same
          refine ⟨_, st _ _ hD3, ?_, fun c o e => ?_, ts ++ [t], ?_, ?_⟩
          · have f2 := List.length_take (i := i) (l := ys)
            have f3 := Paired.length hT
            simp only [List.length_map]
            rw [sizeLine_eq]; omega
          · rw [upd_ne (ne_of_none e nD3)]; exact st _ _ (s7 _ _ e)
          · rw [upd_same, List.map_append]; rfl
          · rw [List.take_add_one, en]
            refine Paired.snoc ?_ ?_
            · exact Paired.mono' (fun _ _ e => (upd_ne fun z => by rw [z, hD3] at e; cases e).trans (st _ _ e)) hT
            · exact (upd_ne fun z => by have nt2 := nt; rw [z, hD3] at nt2; cases nt2).trans et
        · obtain ⟨s7, ts, hD3, hT⟩ := hP
          rw [List.length_map, lb, List.take_length] at hT
          have s17 : Same H1 H7 := (s3.trans s4).trans (s6.trans s7)
          have e7 := s17 _ _ e1
          refine ⟨_, rfl, p, rfl, ⟨_, SqL.of e7⟩, fun D4 nD4 => ?_⟩
          have hp7 := (hp.same s1).same s17
          have hd7 := s17 _ _ (s1 _ _ hd)
          refine lc_it (walk_list (xs := ys.map V.str)) (fun i Hx => Same H7 Hx ∧ ∃ us : List Addr, Hx D4 = some (.lst (us.map V.ref)) ∧ TsP Hx g us (ys.take i)) ⟨same_upd nD4, [], upd_same, .nil⟩ (fun i Hx _ hP => SqL.of (hP.1 _ _ e7)) (fun i x Hx Hx' hi hP hy => ?_) (fun H8 hP => ?_)
          · obtain ⟨rfl, ex⟩ := hy
            obtain ⟨s8, us, hD4, hU⟩ := hP
            rw [List.getElem?_map] at ex
            obtain ⟨n, en, rfl⟩ := Option.map_eq_some_iff.mp ex
            obtain ⟨o, ev, ho⟩ := (hp7.same s8).val (mk n (List.mem_of_getElem? en))
            refine ⟨rfl, yesI ?_⟩
            refine ⟨_, rfl, _, rfl, d, .ref o, rfl, ?_, ?_⟩
            · have z : DGet Hx' d (kV (.inr n)) (valV kvs (.inr n)) := DGet.k (s8 _ _ hd7)
              rw [ev] at z
              exact z
            refine ⟨_, hD4, ?_, fun c o e => ?_, us ++ [o], ?_, ?_⟩
            · have f2 := List.length_take (i := i) (l := ys)
              have f3 := Paired.length hU
              simp only [List.length_map]
              rw [sizeLine_eq]; omega
            · rw [upd_ne (ne_of_none e nD4)]; exact s8 _ _ e
            · rw [upd_same, List.map_append]; rfl
            · rw [List.take_add_one, en]
              refine Paired.snoc ?_ ?_
              · exact Paired.mono' (fun _ _ e => (upd_ne fun z => by rw [z, hD4] at e; cases e).trans e) hU
              · exact (upd_ne fun z => by rw [z, hD4] at ho; cases ho).trans ho
          · obtain ⟨s8, us, hD4, hU⟩ := hP
            rw [List.length_map, List.take_length] at hU
            have pt : PyData.plain (.list (ys.map fun n => PyData.tuple [.int (g n).1, .int (g n).2])) = true := by simp only [PyData.plain]; exact plain_ts g ys
            have dt : PyData.depth (.list (ys.map fun n => PyData.tuple [.int (g n).1, .int (g n).2])) ≤ 60 := by
              have := deep_ts g ys
              simp only [PyData.depth]
              omega
            refine ⟨_, _, .lst (SqL.of (s8 _ _ hD3)) (dp_ts (hT.same s8)), .lst (SqL.of hD4) (dp_ts hU), pt, pt, Nat.le_trans (Nat.min_le_left _ _) dt, true, congrArg V.bl (SeqAt.eqv_refl_plain _ pt), iteT ?_⟩
            have s18 := s17.trans s8
            have hb8 := hb1.same s18
            obtain ⟨dx8, nd8, tp8, kt8, ha8, _⟩ := id hb8
            refine ⟨_, rfl, a, rfl, ⟨dx8, _, ha8⟩, a, g2, ys, rfl, hb8, ok.ns, ⟨fun n m => by rw [e2 n m]; exact lo n m, fun n m => by rw [e2 n m]; exact ⟨(tx n (mk n m)).1, (tx n (mk n m)).2.1⟩⟩, fun n m => by rw [e2 n m]; exact (tx n (mk n m)).2.2, fun H9 s9 => ⟨_, rfl, ?_⟩⟩
            refine ⟨_, rfl, d, kvs, ks, g, rfl, s9 _ _ (s8 _ _ hd7), (hp7.same s8).same s9, lk, tx, fun ys' HA sA p' so' => ?_⟩
            obtain rfl : ys' = ys := sorted_unique so' ok.so (p'.trans pz.symm)
            refine ⟨rfl, ?_⟩
            rw [balT_congr e2, decide_eq_true rfl]
            exact k HA (s1.trans (s18.trans (s9.trans sA)))
end
end K04
namespace L2
open PySem PySem.Spec PyProof.Rows
/-! ### {(k, ..): v}, one pair whose key is a tuple -/
def tDispT (tk tv : TE) : TE := fun σ H Q => ∀ p, H p = none → tk σ (upd H p (.dT [])) fun x H1 => tv σ H1 fun y H2 => H2 p = some (.dT []) ∧ ∃ b ks, x = .ref b ∧ H2 b = some (.tup (ks.map kV)) ∧ Q (.ref p) (upd H2 p (.dT [(ks, y)]))
theorem pe_dispT {X : Cx} {pos : Pos} {k v : Expr} {tk tv : TE} (hu : X.A.units < cLine) (hk : PE X k tk) (hv : PE X v tv) : PE X (.Dict [some k] [v] pos) (tDispT tk tv) := by
  refine ⟨fun pins s σ H Q I q => ?_⟩
  have hn := I.hok.fresh (Nat.le_refl s.heap.objs.size)
  have I1 := I.laid (a := s.heap.objs.size) (o := .dT []) (h' := s.heap.push { cls := .type "dict", data := .dict #[] }) (t' := s.toks) (fun _ _ q => Heap.get?_push_of_some _ q) (Nat.le_refl _) (dt_empty s.heap I.big)
  have hsh := zip_pairTrees [some k] [v] X.env pos rfl rfl
  rw [arm_eval_Dict, hsh, dictDisplay_pairs _ (by simp [pairTrees]) (by simp [pairTrees])]
  refine wpAny_bind (wpAny_standAt (wpAny_bind (wpAny_subDictH (knd := tupleKind (mixKind X.prog X.w)) (Q := fun d s' => wpAny (model X.prog X.w) X.A (pure (Value.ref d)) (EP X pins σ Q) X.xe s') hu (by simp [pairTrees]) ?_)))
  refine pairTrees_cons_walk (thn (hk.run pins _ σ _ _ I1 (q _ hn)) fun u s1 ⟨x, H1, J1, rx, q1⟩ => thn (hv.run pins s1 σ H1 _ J1 q1) fun w2 s2 ⟨y, H2, J2, ry, q2⟩ => pairTrees_nil_walk ?_)
  obtain ⟨e, b, ks, ex, eb, q3⟩ := q2
  subst ex
  obtain rfl : u = Value.ref b := rx
  obtain ⟨z, hd, xs, rel, dd⟩ := dt_of J2.hok e
  cases rel
  refine ⟨[(ks, b, w2)], ⟨rfl, rfl, key_of J2.hok eb, True.intro⟩, dd, fun h' tk' dd' hs => wpAny_pure ?_⟩
  obtain ⟨o, es, ep, h1, h2, h3, h4, h5, h6⟩ := dd'
  refine ⟨.ref s.heap.objs.size, _, ?_, rfl, q3⟩
  refine d_write (t' := tk') J2 (by rw [e]; exact True.intro) hs ⟨o, h1⟩ ⟨by rw [sizeLine_eq]; show 1 ≤ 16777216; decide, hd, [(ks, b, w2)], .cons ⟨rfl, ?_, ry⟩ .nil, o, es, ep, h1, h2, h3, h4, h6⟩
  rw [upd_ne (ne_of eb e (fun z => nomatch z))]
  exact eb
end L2
namespace PySem.OwnS
open PySem PySem.W PySem.Calls PyProof.Rows
section
variable {prog : Program} {w : World} {A : Around} {E : Value → Shared → Prop} {s : Shared} {K : Frag} {x C C2 f : Addr} {ox : Obj} {od : Option Obj} {b : Value}
/-- a class that knows neither the operator nor its reflection -/
structure NoOp (K : Frag) (C2 : Addr) (nm : String) : Prop where
  mro : ∃ cd, clsIn K C2 = some cd ∧ cd.mro = [.ref C2, .type "object"]
  a : findIn K (.ref C2) (PySem.dunder nm) = some none
  r : findIn K (.ref C2) (dunderR nm) = some none
  oa : findIn K (.type "object") (PySem.dunder nm) = some none
  or_ : findIn K (.type "object") (dunderR nm) = some none
theorem fills_no {M : Model} {h : Heap} {nm : String} (X : K.In h) (N : NoOp K C2 nm) : Looks M h (fillsNumberSlot (.ref C2) nm) false := by
  obtain ⟨⟨cd, hc, hm⟩, h1, h2, h3, h4⟩ := N
  intro A Q E s k q
  unfold fillsNumberSlot
  refine wpAny_bind ((looks_clsIn X hc).andThen (f := fun cd => pure cd.mro) .now A _ E s k ?_)
  rw [hm, List.anyM_cons]
  refine wpAny_bind ?_
  show wpAny M A (List.anyM _ [PySem.dunder nm, dunderR nm]) _ _ _
  rw [List.anyM_cons]
  refine wpAny_bind (wpAny_bind (looks_findIn X h1 A _ E s k ?_))
  dsimp only
  refine wpAny_pure ?_
  simp only [Bool.false_eq_true, if_false]
  rw [List.anyM_cons]
  refine wpAny_bind (wpAny_bind (looks_findIn X h2 A _ E s k ?_))
  dsimp only
  refine wpAny_pure ?_
  simp only [Bool.false_eq_true, if_false, List.anyM_nil]
  refine wpAny_pure ?_
  simp only [Bool.false_eq_true, if_false]
  rw [List.anyM_cons]
  refine wpAny_bind (wpAny_bind (looks_findIn X h3 A _ E s k ?_))
  refine wpAny_bind (looks_findIn X h4 A _ E s k ?_)
  refine wpAny_pure ?_
  simp only [Option.isSome_none, Bool.false_and, Bool.or_self, Bool.false_eq_true, if_false, List.anyM_nil]
  exact wpAny_pure q
/-- an own operator with a value of another own class at the right that has neither it nor its reflection -/
theorem binP {op : Operator} {Q : Value → Shared → Prop} (X : K.In s.heap) (I : InstAt s.heap x ox C od) (hb : Looks (model prog w) s.heap (typeOf b) (.ref C2)) (hc : selfFirst K C = true) (hne0 : C ≠ C2)
    (hs : findIn K (.ref C) (PySem.dunder op.info.2) = some (some (.ref f))) (hf : isFn K (.ref f) = true) (hr : findIn K (.ref C) (dunderR op.info.2) = some none)
    (h1 : NoOp K C2 op.info.2) (hsub : subIn K (.ref C2) (.ref C) = some false)
    (h : wpAny (model prog w) A (call (.ref f) [.ref x, b]) (PySem.W.CmpBack Q) E s) : wpAny (model prog w) A (binaryOp op (.ref x) b) Q E s := by
  obtain ⟨cd, rest, hcd, hm⟩ := ksp_first hc
  have one := ksp_try X I hs hf h
  rcases hi : op.info with ⟨sym, nm⟩
  rw [hi] at hs hr h1 one
  dsimp only at hs hr h1 one
  obtain ⟨hh, g, d, tt, os⟩ := s
  have A1 : Looks (model prog w) hh (typeOf (.ref x)) (.ref C) := I.type
  have A2 : Looks (model prog w) hh (typeOf b) (.ref C2) := hb
  have A3 : Looks (model prog w) hh (fillsNumberSlot (.ref C) nm) true := fills_K X hcd hm hs
  have A4 : Looks (model prog w) hh (fillsNumberSlot (.ref C2) nm) false := fills_no X h1
  have A5 : Looks (model prog w) hh (isSubtype (.ref C2) (.ref C)) false := looks_subIn X hsub
  have A6 : Looks (model prog w) hh (numberSlotInPython (.ref C) nm) true := ksp_inPy X hs hr (.inl rfl)
  have A8 : Looks (model prog w) hh (typeLookup (.ref C2) (dunderR nm)) none := looks_findIn X h1.r
  have hne : (Value.ref C == Value.ref C2) = false := Bool.eq_false_iff.mpr fun q => by
    have := beq_iff_eq.mp q
    injection this with this
    exact hne0 this
  simp only [binaryOp, hi]
  refine wpAny_holding (wpAny_bind ?_)
  unfold binaryOp1
  refine wpAny_bind (A1.at (wpAny_bind (A2.at (wpAny_bind (A3.at ?_)))))
  simp only [hne, Bool.false_eq_true, if_false]
  ksp_lk
  refine wpAny_mono one (fun r s' z => ?_) fun _ _ e => e
  obtain ⟨v, rfl, hq⟩ := z
  ksp_lk
  exact hq
end
end PySem.OwnS
namespace L2
open PySem PySem.Spec PyProof.Rows
/-- x op y, y of another own class that hasn't the operator -/
theorem op_ownP {X : Cx} {CX : CXT} {n : Nat} {C C2 f : Addr} {fd : FuncData} {ps : List Str} {sp : Sp} {E : XK} {op : Operator} (M : OwnM X.K C (PySem.dunder op.info.2) f) (hc : PySem.W.selfFirst X.K C = true) (hR : PySem.W.findIn X.K (.ref C) (dunderR op.info.2) = some none)
    (h1 : PySem.OwnS.NoOp X.K C2 op.info.2) (hne : C ≠ C2) (hsub : PySem.W.subIn X.K (.ref C2) (.ref C) = some false)
    (F : FnOk X.prog X.w X.K X.mg X.base CX n f fd ps sp) (hr : Room n X.A) (hb : Binds X.K fd ps []) (hx : Passes CX X E) : OpR X (binaryOp op) (rOwnX C C2 sp E) := by
  intro pins s σ H x y v u Q I rx ry h
  obtain ⟨a, b, rfl, rfl, ha, hb', q⟩ := h
  obtain rfl : v = .ref a := rx
  obtain rfl : u = .ref b := ry
  obtain ⟨ox, od, J⟩ := ha.inst I
  obtain ⟨oy, ey, J'⟩ := hb'.inst I
  refine PySem.OwnS.binP I.kIn J J'.type hc hne M.at_ M.fn hR h1 hsub ?_
  refine wpAny_mono (own_run (vs := [.ref a, .ref b]) F ⟨hr, rfl⟩ hb hx I (.cons rfl (.cons rfl .nil)) q) (fun r s' z => ?_) fun _ _ z => z
  obtain ⟨z, H', I', rz, qz⟩ := id z
  exact SlX.cmpback rz ⟨z, H', I', rz, qz⟩
end L2
namespace L2
open PySem PySem.Spec PyProof.Rows
/-! a caught error of an own class, kept as a value behind its clause -/
def exr (e C d : Addr) : HO := .ext fun h => ∃ oe : Obj, h.get? e = some oe ∧ Zc (.ref C) (some d) oe ∧ ∃ vs, oe.data = .fields vs
theorem exr_ok {P : Program} {w : World} {H : Hp} {h : Heap} {e C d : Addr} {oe : Obj} (ho : h.get? e = some oe) (z : Zc (.ref C) (some d) oe) (hd : ∃ vs, oe.data = .fields vs) : ObjOk P w H h e (exr e C d) :=
  ⟨⟨oe, ho, z, hd⟩, ⟨oe, ho⟩, fun _ _ ⟨o, q, r⟩ k => ⟨o, k o q, r⟩⟩
section
variable {X : Cx} {pins : List (Addr × Obj)} {σ : St} {H : Hp} {s : Shared}
theorem Inv.track {a C dd : Addr} {oe : Obj} (I : Inv X pins σ H s) (n0 : X.s_0.heap.get? a = none) (na : H a = none) (np : ∀ p ∈ X.pn ++ pins, p.1 ≠ a) (ho : s.heap.get? a = some oe) (z : Zc (.ref C) (some dd) oe) (hd : ∃ vs, oe.data = .fields vs) (nL : a ≠ X.env.locals) :
    Inv X pins σ (upd H a (exr a C dd)) s := by
  have nc : ∀ x c, X.env.cells.lookup x = some c → c ≠ a := fun x c e q => by
    obtain ⟨v, o, h1, h2⟩ := I.cell x c e
    rw [q, ho] at h1
    cases h1
    obtain ⟨vs, hd⟩ := hd
    rw [hd] at h2
    cases h2
  refine ⟨I.ok, I.os, I.bare, ⟨I.base.keep, I.base.slot, fun b o e n hq => ?_, I.base.there, fun b xs e => ?_, fun b o u e => ?_, fun b ps e => ?_⟩, I.loc, I.cell, ?_, fun x c e => ?_, fun p hp => ?_, I.hok.laidN (fun _ _ q => q) na (exr_ok ho z hd), I.len⟩
  · rw [upd_ne (fun q => by rw [q, n0] at e; cases e)]
    exact I.base.free b o e n hq
  · have q := I.base.tups b xs e
    rw [upd_ne (ne_of_none q na)]
    exact q
  · have q := I.base.frzs b o u e
    rw [upd_ne (ne_of_none q na)]
    exact q
  · obtain ⟨m, q⟩ := I.base.tbls b ps e
    exact ⟨m, by rw [upd_ne (ne_of_none q na)]; exact q⟩
  · rw [upd_ne (Ne.symm nL)]
    exact I.free
  · rw [upd_ne (nc x c e)]
    exact I.freeC x c e
  · obtain ⟨h1, h2, h3⟩ := I.pin p hp
    exact ⟨h1, by rw [upd_ne (np p hp)]; exact h2, h3⟩
end
def wKeep (K : PySem.W.Frag) (c : Value) (i : Nat) (ts : Addr → Value → Option Addr → TS) (D : Ends) : WX := fun cls d σ H =>
  PySem.W.exmOne K cls c = some true ∧ ∃ C dd : Addr, cls = .ref C ∧ d = some dd ∧ ∀ a, H a = none → ts a cls d { nx := fun σ' H' => D.nx (σ'.set i none) (upd H' a (exr a C dd)), rt := fun _ _ => False } (σ.set i (some (.ref a))) H
section
variable {X : Cx} {x n : Str} {c : Value} {i : Nat} {body suite : List Stmt} {b₀ : Stmt} {np pos pos' : Pos} {tb : WX → TS} {ts : Addr → Value → Option Addr → TS}
/-- try: body / except x as n: suite, where what was caught stays known behind the clause -/
theorem ps_try_keep (hs : X.stack = X.env :: X.outer) (hf : X.env.frame = some X.env.locals) (hx : X.ex = []) (hN : X.N.Nodup) (hi : X.N[i]? = some n) (hln : X.env.kindOf n = some .local) (hc : Names X x c)
    (hb : ∀ (W : WX) (pn : List (Addr × Obj)) (xe : Value → Shared → Prop), Takes (X.tr pn xe) W → PassesOwn (model X.prog X.w) X.A X.env xe → PSs (X.tr pn xe) body (tb W))
    (hsu : ∀ (a : Addr) (oe : Obj) (cls : Value) (d : Option Addr) (pn : List (Addr × Obj)), Zc cls d oe → (∃ vs, oe.data = .fields vs) → PSs (X.suite a ((a, oe) :: pn)) (b₀ :: suite) (ts a cls d)) :
    PS X (.Try body [.ExceptHandler (some (.Name x np)) (some n) (b₀ :: suite) pos'] [] [] pos) (fun D σ H => tb (wKeep X.K c i ts D) D σ H) := by
  refine ⟨fun pins s σ H D I h => ?_⟩
  have ok := I.ok
  have hfr : X.A.frames = some (X.env :: X.outer) := by rw [ok.frames, hs]
  have hloc : Loc X.env.scope n := .inl hln
  refine wpAny_Try_except ?_
  refine wpAny_mono ((hb (wKeep X.K c i ts D) (X.pn ++ pins) (fun e s₁ => wpAny (model X.prog X.w) X.A (noteFrame e X.env) (fun _ s₂ => wpAny (model X.prog X.w) X.A (setFlight e none) (fun _ s₃ =>
    wpAny (model X.prog X.w) X.A (handleBy e X.env [.ExceptHandler (some (.Name x np)) (some n) (b₀ :: suite) pos']) (SP X pins D) X.xe s₃) X.xe s₂) X.xe s₁) (fun u s' xx => ?_) PassesOwn.looking).run [] s σ H D (I.toTry _) h) (fun f s1 hsp => ?_) (fun e s1 he => he)
  · obtain ⟨a, B, sI, pins', σ', H', cls, d, rfl, J', nb, up, sky, na, os, ag, hb1, C, dd, rfl, rfl, hyes⟩ := xx
    have J : Inv X pins σ' H' sI := J'.ofTry ok
    have sky' : Sky B (X.env :: X.outer) a (Zc (.ref C) (some dd)) X.env.locals s'.heap := by rw [← hs]; exact sky
    show wpAny (model X.prog X.w) X.A (noteFrame (.ref a) X.env) _ _ _
    refine Sky.land Zc.steady hfr hf sky' fun h3 fl3 up3 => ?_
    have J3 : Inv X pins σ' H' { s' with heap := h3 } := J.landed nb fl3.1 (up.trans up3) os ag
    obtain ⟨oe3, vs3, he3, hz3, hd3⟩ := fl3.there
    have notFr : ∀ {h : Heap} {o : Obj} {vs : Array Value}, h.FunFrames B (X.env :: X.outer) → h.get? a = some o → o.data = .fields vs → a ∉ frs (X.env :: X.outer) := fun {h o vs} ff e dd hm => by
      obtain ⟨_, o', e', hnf⟩ := ff.mem hm
      rw [e] at e'; cases e'
      exact hnf _ dd
    have nfr := notFr fl3.2.2.1 he3 hd3
    have nB : ∀ o, sI.heap.get? a = some o → False := fun o e => by
      have q := nb a o e (by rw [hs]; exact nfr)
      rw [fl3.2.1] at q
      cases q
    have n0 : X.s_0.heap.get? a = none := by
      cases e : X.s_0.heap.get? a with
      | none => rfl
      | some o =>
        obtain ⟨o', e'⟩ := J.base.there a o e (by rw [hx]; exact fun z => nomatch z)
        exact (nB _ e').elim
    have npn : ∀ p ∈ X.pn ++ pins, p.1 ≠ a := fun p hp q => nB p.2 (by rw [← q]; exact (J.pin p hp).1)
    have nL : a ≠ X.env.locals := fun z => nfr (List.mem_filterMap.mpr ⟨X.env, List.mem_cons_self, by rw [hf, z]⟩)
    have nF : a ∉ X.fs := fun hm => by
      obtain ⟨e, he, q⟩ := List.mem_filterMap.mp hm
      exact nfr (List.mem_filterMap.mpr ⟨e, List.mem_cons_of_mem _ he, q⟩)
    have S3 := J3.suite he3 hd3 na nL nF
    refine wpAny_handleBy_cons (codeAny_handlers_test ?_) (by intro q; cases q)
    have LT : PySem.W.Looks (model X.prog X.w) h3 (typeOf (.ref a)) (.ref C) := fun A Q E s k q => wpAny_typeOf_ref (k _ _ he3) (by rw [hz3.1]; exact q)
    have LM := PySem.W.exm_one (M := model X.prog X.w) (J3.kIn) LT hb1
    have test : ∀ {Q : Value → Shared → Prop} {E : Value → Shared → Prop}, Q c { s' with heap := h3 } → wpAny (model X.prog X.w) (X.A.mark (some (.ref a))) (eval (.Name x np) X.env) Q E { s' with heap := h3 } := fun {Q E} q => by
      obtain ⟨hg, hdbg, hm | ⟨hm, hv, hnn⟩⟩ := hc
      · exact ld_glob (X := X.suite a ((a, oe3) :: (X.pn ++ pins))) S3 hg hm q hdbg
      · exact ld_blt (X := X.suite a ((a, oe3) :: (X.pn ++ pins))) S3 hg hm hv q hnn hdbg
    refine test (LM.here ?_)
    refine codeAny_handlers_suite_as ?_
    refine HandSPX.lands_againZ fl3 fun h4 fl4 up4 => ?_
    have J4 : Inv X pins σ' H' { s' with heap := h4 } := J.landed nb fl4.1 ((up.trans up3).trans up4) os ag
    obtain ⟨oe4, vs4, he4, hz4, hd4⟩ := fl4.there
    have S4 := J4.suite he4 hd4 na nL nF
    refine store_ok (X := X.suite a ((a, oe4) :: (X.pn ++ pins))) (v := .ref a) S4 hN hi hloc rfl (fun s5 S5 => ?_) (.inr hln)
    refine wpAny_mono ((hsu a oe4 (.ref C) (some dd) (X.pn ++ pins) hz4 ⟨_, hd4⟩).run [] s5 _ H' _ S5 (hyes a na)) (fun f s6 hsp => ?_) (fun _ _ z => False.elim z)
    cases f with
    | next =>
      obtain ⟨σ6, H6, S6, q6⟩ := hsp
      obtain ⟨g1, g2, _⟩ := S6.pin (a, oe4) (List.mem_append_left _ List.mem_cons_self)
      have J6 := (S6.unsuite ok).track n0 g2 npn g1 hz4 ⟨_, hd4⟩ nL
      exact gone_ok J6 hN hi hln fun s7 J7 => ⟨_, _, J7, q6⟩
    | brk =>
      obtain ⟨σ6, H6, S6, q6⟩ := hsp
      exact q6.elim
    | cont =>
      obtain ⟨σ6, H6, S6, q6⟩ := hsp
      exact q6.elim
    | ret u =>
      obtain ⟨v6, σ6, H6, S6, r6, q6⟩ := hsp
      exact q6.elim
  · have z : SP X pins D f s1 := by
      cases f with
      | next => exact let ⟨σ', H', J, q⟩ := hsp; ⟨σ', H', J.ofTry ok, q⟩
      | brk => exact let ⟨σ', H', J, q⟩ := hsp; ⟨σ', H', J.ofTry ok, q⟩
      | cont => exact let ⟨σ', H', J, q⟩ := hsp; ⟨σ', H', J.ofTry ok, q⟩
      | ret u => exact let ⟨v, σ', H', J, r, q⟩ := hsp; ⟨v, σ', H', J.ofTry ok, r, q⟩
    cases f with
    | next => exact wpAny_execs_nil z
    | brk => exact z
    | cont => exact z
    | ret u => exact z
end
/-! what is asked of it -/
def ErrR (H : Hp) (e C : Addr) (fs : List (Str × V)) : Prop := ∃ d, H e = some (exr e C d) ∧ H d = some (.xd fs)
theorem ErrR.same {H H' : Hp} {e C : Addr} {fs : List (Str × V)} (h : ErrR H e C fs) (s : Same H H') : ErrR H' e C fs := let ⟨d, h1, h2⟩ := h; ⟨d, s _ _ h1, s _ _ h2⟩
section
variable {X : Cx} {pins : List (Addr × Obj)} {σ : St} {H : Hp} {s : Shared} {e C : Addr} {fs : List (Str × V)}
theorem ErrR.inst (I : Inv X pins σ H s) (h : ErrR H e C fs) :
    ∃ (oe od : Obj), PySem.W.InstAt s.heap e oe C (some od) ∧ ∀ f v, fs.lookup f = some v → ∃ u, RelV v u ∧ PySem.W.lookIn f od = some (some u) := by
  obtain ⟨d, h1, h2⟩ := h
  have x1 : ObjOk X.prog X.w H s.heap e (exr e C d) := I.hok e _ h1
  obtain ⟨⟨oe, ho, hz, vs, hd⟩, _⟩ := x1
  have x2 : ObjOk X.prog X.w H s.heap d (.xd fs) := I.hok d _ h2
  obtain ⟨mA, hns, hr⟩ := x2
  obtain ⟨od, ho2, hl⟩ := lookIn_ns hns
  refine ⟨oe, od, ⟨ho, hz.1, by unfold PySem.W.notCls; rw [hd] <;> rfl, by rw [hz.2]; exact ho2⟩, fun f v l => ?_⟩
  obtain ⟨u, hu, ru⟩ := RelO.some_of (v := v) (o := mA f) (by rw [← l]; exact hr f)
  exact ⟨u, ru, by rw [hl, hu]⟩
end
/-- isinstance(e, c) -/
def rIsR (K : PySem.W.Frag) : List V → Hp → VK → Prop := fun xs H Q => ∃ (e C : Addr) (fs : List (Str × V)) (c : V) (cv : Value) (b : Bool),
  xs = [.ref e, c] ∧ ErrR H e C fs ∧ ExcC K C ∧ ClsV c cv ∧ PySem.W.kitOne K (.ref C) cv = some b ∧ Q (.bl b) H
theorem call_isR {X : Cx} : CallR X (.builtin "isinstance") (rIsR X.K) := by
  intro pins s σ H xs us Q I r h
  obtain ⟨e, C, fs, c, cv, b, rfl, he, T, k, ek, q⟩ := h
  obtain ⟨u1, u2, rfl, r1, r2⟩ := vals2 r
  have e2 := k.eq r2
  subst e2
  obtain rfl : u1 = Value.ref e := r1
  obtain ⟨oe, od, J, _⟩ := he.inst I
  have hcl : (PySem.W.clsIn X.K C).isSome = true := by
    obtain ⟨cd, hc, _⟩ := PySem.W.any_some T.hd
    rw [hc]
    rfl
  exact PySem.W.kia_one (PySem.W.kitx_exc (ox := oe) (od := some od) hcl T.hg T.hk T.hs T.ha T.hn T.ht T.hm) I.kIn J ek (fun z => nomatch z) fun tk => ⟨.bl b, H, I.tok tk, rfl, q⟩
/-- e.f -/
def tErrR (K : PySem.W.Frag) (f : Str) (te : TE) : TE := fun σ H Q => te σ H fun x H1 => ∃ (e C : Addr) (fs : List (Str × V)) (v : V),
  x = .ref e ∧ ErrR H1 e C fs ∧ XfC K C ∧ PySem.W.findIn K (.ref C) f = some none ∧ fs.lookup f = some v ∧ Q v H1
theorem pe_errR {X : Cx} {e : Expr} {te : TE} {pos : Pos} {n : Str} (he : PE X e te) (hb : attributeBase e n X.env (eval e X.env) = eval e X.env := by rfl) :
    PE X (.Attribute e n pos) (tErrR X.K n te) := by
  refine ⟨fun pins s σ H Q I h => ?_⟩
  refine attr_of hb (thn (he.run pins s σ H _ I h) fun u s1 hh => ?_)
  obtain ⟨x, H1, I1, rx, e0, C, fs, v, ex, ea, T, hno, l, q⟩ := hh
  subst ex
  obtain rfl : u = Value.ref e0 := rx
  obtain ⟨oe, od, J, hl⟩ := ea.inst I1
  obtain ⟨u, ru, hlu⟩ := hl n v l
  exact HandSPX.exc_get I1.kIn J T.ga T.gg T.exC (PySem.W.findObj_own T.hdC hno rfl hlu) (handed_of ru) ⟨v, H1, I1.tok _, ru, q⟩
end L2
namespace K04
open PySem PySem.Spec PyProof.Rows L2 RatM LamX ClX
/-! ### what was heard -/
def wordsE : List Str := ["balance", "number"]
/-- an error's class, the i-th of the two that are asked for -/
structure ErCls (K : PySem.W.Frag) (SE E1 E2 C : Addr) (i : Nat) (w : Str) : Prop where
  ex : PySem.W.exmOne K (.ref C) (.ref SE) = some true
  xf : XfC K C
  is : ExcC K C
  no : PySem.W.findIn K (.ref C) "part" = some none
  k1 : PySem.W.kitOne K (.ref C) (.ref E1) = some (decide (i = 0))
  k2 : PySem.W.kitOne K (.ref C) (.ref E2) = some (decide (i = 1))
  w : wordsE[i]? = some w
/-- what the def that hears asks of an error -/
def HearW (K : PySem.W.Frag) (SE E1 E2 : Addr) (Q : VK) : XK := fun cls d H' => ∃ (C dd : Addr) (fs : List (Str × V)) (i : Nat) (w : Str) (v : V), cls = .ref C ∧ d = some dd ∧ H' dd = some (.xd fs) ∧ ErCls K SE E1 E2 C i w ∧ fs.lookup ("part" : Str) = some v ∧
  ∀ p H2, Same H' H2 → H2 p = some (.tup [.str w, v]) → Q (.ref p) H2
def THear (K : PySem.W.Frag) (SE E1 E2 : Addr) : (XK → Hp → VK → Prop) → Hp → VK → Prop := fun tl H Q => ∀ Z : VK, tl (HearW K SE E1 E2 Q) H Z
abbrev nsH : List Str := ["_law_ask", "_law_caught", "error"]
theorem scHe : FnScope nsH ["_law_ask"] (defScope (top 68)) := ⟨rfl, rfl, rfl, by decide +kernel, rfl, by decide +kernel, by decide +kernel⟩
theorem heard_gives {X : Cx} {SE E1 E2 g : Addr} {cdg : Value} {q : Str} (gS : X.mg "ScaleError" = some (.ref SE)) (g1 : X.mg "BadBalance" = some (.ref E1)) (g2 : X.mg "BadNumber" = some (.ref E2)) (bi : X.mg "isinstance" = none) :
    GivesTo X nsH "_law_heard" (defScope (top 68)) g cdg (defBody (top 68)) "_law_ask" q (THear X.K SE E1 E2) := by
  intro f c' s H Q tl act hc h
  refine ⟨_, pss_cons (ps_set (i := 1) scHe.nd rfl (.inl rfl) pe_non) (pss_cons (ps_try_keep (X := (cxOf C8.CX0 X.prog X.w X.K X.mg X.base nsH "_law_heard" (defScope (top 68)) g cdg X.A X.stack s H C8.E0).nox) (n := "error") (i := 2) (c := .ref SE)
      (tb := fun W D σ H => ∃ Ech : XK, (∀ cls d σ' H', Ech cls d H' → σ'.length = 3 → W cls d σ' H') ∧ σ[0]? = some (some (.ref f)) ∧ H c' = some (CodeO c' q) ∧ tl Ech H fun _ H' => D.nx σ H')
      rfl rfl rfl scHe.nd rfl rfl ⟨rfl, rfl, .inl gS⟩ (fun W pn xe tk _ => ?_)
      (fun a oe cls d pn hz hf => pss_one (ps_set (i := 1) scHe.nd rfl (.inl rfl) (pv 2))))
    (pss_cons (ps_if (pt_val (pe_callB call_isR (by rfl) bi (by decide +kernel) (pa_cons (pv 1) (pa_cons (pe_glob (v := .ref _) rfl g1 rfl) pa_nil)))) (pss_one (ps_ret (pe_tup (pa_cons pe_str (pa_cons (pe_errR (pv 1)) pa_nil))))) pss_nil)
    (pss_cons (ps_if (pt_val (pe_callB call_isR (by rfl) bi (by decide +kernel) (pa_cons (pv 1) (pa_cons (pe_glob (v := .ref _) rfl g2 rfl) pa_nil)))) (pss_one (ps_ret (pe_tup (pa_cons pe_str (pa_cons (pe_errR (pv 1)) pa_nil))))) pss_nil)
    (pss_one (ps_ret (pe_ifExp (pt_cmpR op_isN (pv 1) pe_non (nomark _)) pe_non (pe_tup (pa_cons pe_str (pa_cons pe_str pa_nil))))))))), ?_⟩
  · refine ⟨fun pins s' σ H' D I h' => ?_⟩
    obtain ⟨Ech, hW, h1, h2, h3⟩ := h'
    exact (pss_one (ps_expr (act (fun cls d σ' H' => σ'.length = 3 → W cls d σ' H') pn xe Ech _ _ (fun u s' ⟨a, B, sI, pins', σ', H', cls, d, e, J, nb, up, sky, na, os, ag, w⟩ => tk u s' ⟨a, B, sI, pins', σ', H', cls, d, e, J, nb, up, sky, na, os, ag, w J.len⟩) hW))).run pins s' σ H' D I ⟨h1, h2, h3⟩
  · refine ⟨HearW X.K SE E1 E2 Q, fun cls d σ' H' hw hl => ?_, rfl, hc, h _⟩
    obtain ⟨x0, x1, x2, rfl⟩ : ∃ x0 x1 x2, σ' = [x0, x1, x2] := by
      match σ', hl with
      | [x0, x1, x2], _ => exact ⟨x0, x1, x2, rfl⟩
    obtain ⟨C, dd, fs, i, w, v, rfl, rfl, hd, er, hv, k⟩ := hw
    refine ⟨er.ex, C, dd, rfl, rfl, fun a na => ?_⟩
    refine ⟨_, rfl, ?_⟩
    have hER : ErrR (upd H' a (exr a C dd)) a C fs := ⟨dd, upd_same, (upd_ne (ne_of_none hd na)).trans hd⟩
    have s1 := same_upd (o := exr a C dd) na
    dsimp only [gName, tSeq, tAsg]
    generalize upd H' a (exr a C dd) = H1 at hER s1 ⊢
    have wi := er.w
    have li : i < 2 := (List.getElem?_eq_some_iff.mp wi).1
    refine ⟨_, rfl, a, C, fs, _, _, _, rfl, hER, er.is, .own E1, er.k1, _, rfl, ite2 (fun c => ?_) (fun c => ?_)⟩
    · obtain rfl : i = 0 := of_decide_eq_true c
      obtain rfl : "balance" = w := Option.some.inj wi
      refine ⟨_, rfl, a, C, fs, v, rfl, hER, er.xf, er.no, hv, by rw [sizeLine_eq]; show 2 ≤ 16777216; decide, fun t nt => k t _ (s1.trans (same_upd nt)) upd_same⟩
    · dsimp only [gName, tSeq, tAsg, tNext]
      have ni : i ≠ 0 := fun z => c (decide_eq_true z)
      obtain rfl : i = 1 := by omega
      obtain rfl : "number" = w := Option.some.inj wi
      refine ⟨_, rfl, a, C, fs, _, _, _, rfl, hER, er.is, .own E2, er.k2, true, rfl, iteT ?_⟩
      refine ⟨_, rfl, a, C, fs, v, rfl, hER, er.xf, er.no, hv, by rw [sizeLine_eq]; show 2 ≤ 16777216; decide, fun t nt => k t _ (s1.trans (same_upd nt)) upd_same⟩
end K04
namespace K04
open PySem PySem.Spec PyProof.Rows L2 RatM LamX ClX
theorem nilI {σ : L2.St} {H : Hp} {f : List V → Hp → Prop} (h : f [] H) : tNil σ H f := h
/-- a def's promise, its code object known -/
theorem okC {P : Program} {w : World} {K : PySem.W.Frag} {mg : Str → Option Value} {base : Heap} {x qual : Str} {params : Arguments} {body : List Stmt} {scope : Scope} {dvs : List V} {kws : List (Str × V)} {f : Addr} {fd : FuncData} {CX : CXT} {N ps : List Str} {k : Nat} {sp : Sp}
    (F : FunD K x qual params body scope dvs kws f fd) (S : FnScope N ps scope) (len : ∀ vs H Q E, sp vs H Q E → vs.length = ps.length)
    (hbody : ∀ (c : Addr), (∀ p : Str × Option Str, He.fAd K p = f → He.codeOf K p = c) → ∀ (A : Around) (outer : List Env) (s : Shared) (H : Hp) (vs : List V) (Q : VK) (E : XK), Room k (A.deeper (envOfC qual scope s.heap.objs.size f (.ref c))) → sp vs H Q E →
      ∃ t, PSs (cxOf CX P w K mg base N qual scope f (.ref c) A outer s H E) body t ∧ t { nx := fun _ H' => Q .non H', rt := Q } (start N vs) H) : FnOk P w K mg base CX (k + 1) f fd ps sp := by
  obtain ⟨oc, od, dV, kV, doc, pm, an, cdv, ct, osl, rfl, lk, hcd, _, _⟩ := F.ex
  obtain ⟨c, rfl⟩ := He.codeIn_ref hcd
  exact fn_of lk hcd S len fun A outer s H vs Q E hr hsp => hbody c (fun p e => He.codeOf_eq (c := c) (by rw [e]; exact lk) rfl) A outer s H vs Q E hr hsp
/-- what the def that hears rests on -/
structure HearK (K : PySem.W.Frag) (mg : Str → Option Value) (SE BB BN g : Addr) (fd : FuncData) : Prop where
  F : FnP K "_law_heard" (top 68) g fd
  gh : mg "_law_heard" = some (.ref g)
  gS : mg "ScaleError" = some (.ref SE)
  g1 : mg "BadBalance" = some (.ref BB)
  g2 : mg "BadNumber" = some (.ref BN)
  bi : mg "isinstance" = none
  e1 : ErCls K SE BB BN BB 0 "balance"
  e2 : ErCls K SE BB BN BN 1 "number"
/-- _law_heard(lambda: body) -/
theorem pe_heard {X : Cx} {SE BB BN g c P : Addr} {fd : FuncData} {T : List (Addr × Str)} {k : Nat} {params : Arguments} {body : Expr} {scope : Scope} {t : XK → TE} {p lpos pos : Pos} (M : HearK X.K X.mg SE BB BN g fd) (TB : TabB X.base X.mg c P) (hcode : X.env.code = .ref c)
    (hmT : (P, X.env.qual ++ "<lambda>") ∈ T) (hu : ∀ p ∈ T, p.1 = P → p.2 = X.env.qual ++ "<lambda>") (hr : Room (k + 2) X.A) (hg : Gl X "_law_heard") (L : LamS X.env.scope scope) (hdef : defaultsOf params X.env = ([], []))
    (hbind : ∀ (q : Str) (cl : List (Str × Addr)) (pm cv ctv : Value), bindArgs (PySem.W.kla_fn "<lambda>" q params body scope cl pm cv ctv) ⟨[], []⟩ = pure [])
    (hbody : ∀ (A : Around) (outer : List Env) (s : Shared) (H : Hp) (E : XK) (f c' : Addr), Room k (A.deeper (lamEnv X scope s.heap.objs.size f c')) → PE (lamCx X A outer s H E scope f c') body (t E)) :
    PE X (.Call (.Name "_law_heard" p) [.Lambda params body scope lpos] [] pos) (tLam T (THear X.K SE BB BN) t) := by
  have b : L2.Binds X.K fd ["_law_ask"] [] := M.F.bindsN fun _ _ _ _ _ _ us hl => match us, hl with | [_], _ => rfl
  have kp := M.F.kp
  obtain ⟨oc, od, dV, kV, doc, pm, an, cdv, ct, osl, rfl, lk, hcd, _, _⟩ := M.F.ex
  exact pe_lamcall (Ng := nsH) hg M.gh kp lk hcd b scHe rfl (.inl rfl) (heard_gives M.gS M.g1 M.g2 M.bi) TB hcode hmT hu hr L hdef hbind hbody
theorem extN_same {H H' : Hp} (s : Same H H') : ExtN H H' := fun b o e _ => s b o e
theorem tabs_same {T : List (Addr × Str)} {H H' : Hp} (t : Tabs T H) (s : Same H H') : Tabs T H' := fun p hp => (t p hp).ext s
theorem hear_rz {K : PySem.W.Frag} {SE E1 E2 C : Addr} {i : Nat} {w d : Str} {H : Hp} {Q : VK} (er : ErCls K SE E1 E2 C i w) (k : ∀ p H2, Same H H2 → H2 p = some (.tup [.str w, .str d]) → Q (.ref p) H2) : Rz H (HearW K SE E1 E2 Q) C [("part", .str d)] :=
  fun dd H' s nd hd => ⟨C, dd, _, i, w, _, rfl, rfl, hd, er, rfl, fun p H2 s2 hp => k p H2 (s.trans s2) hp⟩
/-- a tuple (w, d) -/
def TupE (H : Hp) (v : V) (x : Str × Str) : Prop := ∃ p, v = .ref p ∧ H p = some (.tup [.str x.1, .str x.2])
theorem TupE.extN {H H' : Hp} {v : V} {d : Str × Str} (h : TupE H v d) (s : ExtN H H') : TupE H' v d := let ⟨p, e, h⟩ := h; ⟨p, e, s _ _ h fun _ z => by cases z⟩
theorem tups_ext {H H' : Hp} (s : ∀ v d, TupE H v d → TupE H' v d) : ∀ {vs : List V} {ds : List (Str × Str)}, Paired (TupE H) vs ds → Paired (TupE H') vs ds
  | _, _, .nil => .nil
  | _, _, .cons h t => .cons (s _ _ h) (tups_ext s t)
theorem dp_tups {K : PySem.W.Frag} {H : Hp} : ∀ {vs : List V} {ds : List (Str × Str)}, Paired (TupE H) vs ds → DpAll K H vs (ds.map fun d => .tuple [.str d.1, .str d.2])
  | _, _, .nil => .nil
  | _, _, .cons ⟨p, e, h⟩ t => .cons (by rw [e]; exact .tup (SqT.of h) (.cons (.str _) (.cons (.str _) .nil))) (dp_tups t)
theorem tabs_upd {T : List (Addr × Str)} {H : Hp} {L : Addr} {o : HO} (h : Tabs T H) (n : H L = none ∨ ∃ xs, H L = some (.lst xs)) : Tabs T (upd H L o) := fun p hp => by
  obtain ⟨ps, h1, h2, h3⟩ := h p hp
  have ne : ∀ {b : Addr} {u : HO}, H b = some u → (∀ xs, u ≠ .lst xs) → b ≠ L := fun {b u} e q z => by
    rw [z] at e
    rcases n with n | ⟨xs, n⟩ <;> rw [n] at e <;> cases e
    exact q _ rfl
  refine ⟨ps, by rw [upd_ne (ne h1 fun _ z => by cases z)]; exact h1, h2, fun pos cv hc => ?_⟩
  obtain ⟨c, e1, e2⟩ := h3 pos cv hc
  exact ⟨c, e1, by rw [upd_ne (ne e2 fun _ z => by unfold CodeO at z; cases z)]; exact e2⟩
/-- L is none of H's objects, tables left aside -/
def NoTb (H : Hp) (L : Addr) : Prop := ∀ o, H L = some o → ∃ ps, o = .tbl ps
theorem NoTb.of {H0 H : Hp} {L : Addr} (e : ExtN H0 H) (n : H L = none) : NoTb H0 L := fun o h => by
  by_cases q : ∀ ps, o ≠ .tbl ps
  · rw [e _ _ h q] at n
    cases n
  · exact Classical.byContradiction fun z => q fun ps y => z ⟨ps, y⟩
theorem NoTb.ne {H0 : Hp} {L b : Addr} {u : HO} (n : NoTb H0 L) (h : H0 b = some u) (q : ∀ ps, u ≠ .tbl ps) : b ≠ L := fun z => by
  obtain ⟨ps, y⟩ := n u (by rw [← z]; exact h)
  exact q ps y
theorem extN_upd {H0 H : Hp} {L : Addr} {o : HO} (e : ExtN H0 H) (n : NoTb H0 L) : ExtN H0 (upd H L o) := fun b u h q => by rw [upd_ne (n.ne h q)]; exact e b u h q
/-- the list at L holds what was heard; H0: the heap ahead of it -/
def HeardL (T : List (Addr × Str)) (H0 : Hp) (L : Addr) (ds : List (Str × Str)) (H : Hp) : Prop := ExtN H0 H ∧ Tabs T H ∧ NoTb H0 L ∧ ∃ vs, H L = some (.lst vs) ∧ Paired (TupE H) vs ds
section
variable {K : PySem.W.Frag} {SE E1 E2 C : Addr} {T : List (Addr × Str)} {σ : L2.St} {t : XK → TE} {i : Nat} {w d : Str} {H0 : Hp}
theorem heard_first {Q : VK} (er : ErCls K SE E1 E2 C i w) (hT : Tabs T H0) (raise : ∀ (H1 : Hp) (E : XK) (Q' : VK), ExtN H0 H1 → Rz H1 E C [("part", .str d)] → t E σ H1 Q')
    (k : ∀ L H, HeardL T H0 L [(w, d)] H → Q (.ref L) H) : tLst (tCons (tLam T (THear K SE E1 E2) t) tNil) σ H0 Q :=
  ⟨hT, fun H1 e1 T1 Z => raise H1 _ Z e1 (hear_rz er fun p H2 s h => nilI ⟨by rw [sizeLine_eq]; show 1 ≤ 16777216; decide, fun L nL => k L _ (by
    have e2 := e1.trans (extN_same s)
    refine ⟨extN_upd e2 (NoTb.of e2 nL), tabs_upd (tabs_same T1 s) (.inl nL), NoTb.of e2 nL, _, upd_same, .cons ⟨p, rfl, by rw [upd_ne (ne_of_none h nL)]; exact h⟩ .nil⟩)⟩)⟩
theorem heard_app {Q : VK} {L : Addr} {ds : List (Str × Str)} {H : Hp} (er : ErCls K SE E1 E2 C i w) (h : HeardL T H0 L ds H) (hz : ds.length ≤ 1000) (raise : ∀ (H1 : Hp) (E : XK) (Q' : VK), ExtN H0 H1 → Rz H1 E C [("part", .str d)] → t E σ H1 Q')
    (k : ∀ H', HeardL T H0 L (ds ++ [(w, d)]) H' → Q .non H') : tCons (tLam T (THear K SE E1 E2) t) tNil σ H fun vs H2 => rAppend (.ref L) vs H2 Q := by
  obtain ⟨e0, T0, n0, vs, hL, pv⟩ := h
  refine ⟨T0, fun H1 e1 T1 Z => raise H1 _ Z (e0.trans e1) (hear_rz er fun p H2 s hp => nilI ?_)⟩
  have e2 := e1.trans (extN_same s)
  have hL2 : H2 L = some (.lst vs) := e2 _ _ hL fun _ z => by cases z
  have l1 := Paired.length pv
  refine ⟨L, vs, _, rfl, rfl, hL2, by rw [sizeLine_eq]; omega, k _ ?_⟩
  have keep : ∀ v x, TupE H2 v x → TupE (upd H2 L (.lst (vs ++ [.ref p]))) v x := fun v x => fun ⟨q, e, hq⟩ => ⟨q, e, by
    rw [upd_ne (fun z => by rw [z, hL2] at hq; cases hq)]; exact hq⟩
  exact ⟨extN_upd (e0.trans e2) n0, tabs_upd (tabs_same T1 s) (.inr ⟨vs, hL2⟩), n0, _, upd_same, Paired.snoc (tups_ext (fun v x h => keep v x (h.extN e2)) pv) (keep _ _ ⟨p, rfl, hp⟩)⟩
end
/-! what stays but for the tables -/
theorem tyX_extN {K : PySem.W.Frag} {H H' : Hp} {x : V} {t : Value} (h : TyX K H x t) (k : ExtN H H') : TyX K H' x t := by
  cases h with
  | base z =>
    refine .base ?_
    cases z with
    | non => exact .non
    | bl x => exact .bl x
    | int i => exact .int i
    | str x => exact .str x
    | flt x => exact .flt x
    | lst e => exact .lst (k _ _ e fun _ z => by cases z)
    | frz e => exact .frz (k _ _ e fun _ z => by cases z)
    | tup e => exact .tup (k _ _ e fun _ z => by cases z)
    | dK e => exact .dK (k _ _ e fun _ z => by cases z)
    | dT e => exact .dT (k _ _ e fun _ z => by cases z)
    | ins e a1 a2 a3 a4 a5 => exact .ins (k _ _ e fun _ z => by cases z) a1 a2 a3 a4 a5
  | byt y => exact .byt y
  | set e => exact .set (k _ _ e fun _ z => by cases z)
  | kList e c => exact .kList e c
  | kTuple e c => exact .kTuple e c
  | kDict e c => exact .kDict e c
  | fTuple e => exact .fTuple (k _ _ e fun _ z => by cases z)
  | fDict e => exact .fDict (k _ _ e fun _ z => by cases z)
theorem NmIs.extN {K : PySem.W.Frag} {H H' : Hp} {x : V} {b : Bool} (h : NmIs K H x b) (s : ExtN H H') : NmIs K H' x b := h.imp id fun ⟨t, ty, k, e⟩ => ⟨t, tyX_extN ty s, k, e⟩
theorem RatAt.extN {H H' : Hp} {b C : Addr} {p q : Int} (h : RatAt H b C p q) (k : ExtN H H') : RatAt H' b C p q := let ⟨dr, er⟩ := h; ⟨dr, k _ _ er fun _ z => by cases z⟩
theorem RatIs.extN {H H' : Hp} {C : Addr} {x : V} {b : Bool} (h : RatIs H C x b) (s : ExtN H H') : RatIs H' C x b := h.imp (fun ⟨p, q, n, e⟩ => ⟨p, q, n.imp (fun ⟨b, e2, r⟩ => ⟨b, e2, RatAt.extN r s⟩) id, e⟩) id
theorem OddN.extN {K : PySem.W.Frag} {C : Addr} {H H' : Hp} {x : V} (h : OddN K C H x) (s : ExtN H H') : OddN K C H' x := by
  cases h with
  | ty h k => exact .ty (tyX_extN h s) k
  | keys hd l lb n f => exact .keys (s _ _ hd fun _ z => by cases z) l lb (fun i x b e1 e2 => (n i x b e1 e2).extN s) f
  | tkeys hd l ne => exact .tkeys (s _ _ hd fun _ z => by cases z) l ne
  | vals hd l n lr r f => exact .vals (s _ _ hd fun _ z => by cases z) l n lr (fun i kv b e1 e2 => (r i kv b e1 e2).extN s) f
theorem OddM.extN {K : PySem.W.Frag} {H H' : Hp} {x : V} (h : OddM K H x) (s : ExtN H H') : OddM K H' x := by
  cases h with
  | ty h k => exact .ty (tyX_extN h s) k
  | keys hd l lb n f => exact .keys (s _ _ hd fun _ z => by cases z) l lb (fun i x b e1 e2 => (n i x b e1 e2).extN s) f
  | vals hd l n lr r f => exact .vals (s _ _ hd fun _ z => by cases z) l n lr (fun i kv b e1 e2 => (r i kv b e1 e2).extN s) f
theorem OddT.extN {K : PySem.W.Frag} {H H' : Hp} {x : V} (h : OddT K H x) (s : ExtN H H') : OddT K H' x := by
  cases h with
  | ty h k => exact .ty (tyX_extN h s) k
  | its h l lb n f => exact .its (h.imp (fun e => s _ _ e fun _ z => by cases z) (fun e => s _ _ e fun _ z => by cases z)) l lb (fun i x b e1 e2 => (n i x b e1 e2).extN s) f
theorem NoB.extN {K : PySem.W.Frag} {CB : Addr} {H H' : Hp} {x : V} (h : NoB K CB H x) (s : ExtN H H') : NoB K CB H' x := let ⟨t, h1, h2⟩ := h; ⟨t, tyX_extN h1 s, h2⟩
theorem NotNum.extN {K : PySem.W.Frag} {C : Addr} {H H' : Hp} {x : V} (h : NotNum K H C x) (s : ExtN H H') : NotNum K H' C x := let ⟨⟨t, h1, h2⟩, ⟨t2, b1, b2, g1, g2, g3, g4⟩⟩ := h; ⟨⟨t, tyX_extN h1 s, h2⟩, ⟨t2, b1, b2, tyX_extN g1 s, g2, g3, g4⟩⟩
theorem BalAt.extN {H H' : Hp} {a CB C : Addr} {g : Str → Int × Int} {zs : List Str} (h : BalAt H a CB C g zs) (k : ExtN H H') : BalAt H' a CB C g zs := by
  obtain ⟨dx', nd, tp, kt, e, ⟨kvs, e1, r⟩, e2, e3⟩ := h
  exact ⟨dx', nd, tp, kt, k _ _ e (fun _ z => by cases z), ⟨kvs, k _ _ e1 (fun _ z => by cases z), Paired.mono' (fun _ _ ⟨x1, b', x2, dxb, x3⟩ => ⟨x1, b', x2, dxb, k _ _ x3 fun _ z => by cases z⟩) r⟩, k _ _ e2 (fun _ z => by cases z), k _ _ e3 (fun _ z => by cases z)⟩
end K04
namespace K04
open PySem PySem.Spec PyProof.Rows L2 RatM LamX ClX
/-! ### a balance's operators with whatever the law draws at the right -/
inductive RtK (CB CR CS : Addr) (H : Hp) : V → Prop
  | odd {y : V} (T : String) (h : OddAt H y T) : RtK CB CR CS H y
  | int (i : Int) : RtK CB CR CS H (.int i)
  | same {b : Addr} (h : InsAt H b CB) : RtK CB CR CS H (.ref b)
  | rat {b : Addr} (h : InsAt H b CR) : RtK CB CR CS H (.ref b)
  | sca {b : Addr} (h : InsAt H b CS) : RtK CB CR CS H (.ref b)
structure OpO (K : PySem.W.Frag) (CB CR CS : Addr) (nm : String) (f : Addr) : Prop where
  o : OpF K CB nm f
  sf : PySem.W.selfFirst K CB = true
  neR : CB ≠ CR
  neS : CB ≠ CS
  subR : PySem.W.subIn K (.ref CR) (.ref CB) = some false
  subS : PySem.W.subIn K (.ref CS) (.ref CB) = some false
  rat : ∃ f2, OwnM K CR (PySem.dunder nm) f2
  sfR : PySem.W.selfFirst K CR = true
  rR : PySem.W.findIn K (.ref CR) (dunderR nm) = some none
  sca : PySem.OwnS.NoOp K CS nm ∨ ((∃ f2, OwnM K CS (PySem.dunder nm) f2) ∧ PySem.W.selfFirst K CS = true ∧ PySem.W.findIn K (.ref CS) (dunderR nm) = some none)
def rOdd (CB CR CS : Addr) (sp : Sp) (E : XK) : R2 := fun x y H Q => ∃ a, x = .ref a ∧ InsAt H a CB ∧ RtK CB CR CS H y ∧ sp [x, y] H Q E
theorem op_odd {X : Cx} {CX : CXT} {n : Nat} {CB CR CS f : Addr} {fd : FuncData} {ps : List Str} {sp : Sp} {E : XK} {op : Operator} (O : OpO X.K CB CR CS op.info.2 f)
    (F : FnOk X.prog X.w X.K X.mg X.base CX n f fd ps sp) (hr : Room n X.A) (hb : Binds X.K fd ps []) (hx : Passes CX X E) : OpR X (binaryOp op) (rOdd CB CR CS sp E) := by
  intro pins s σ H x y v u Q I rx ry h
  obtain ⟨a, rfl, ha, hy, q⟩ := h
  cases hy with
  | odd T h => exact op_ownAny O.o.m O.sf O.o.r F hr hb hx pins s σ H _ _ v u Q I rx ry ⟨a, _, rfl, ha, h.at_, .inr ⟨T, rfl, O.o.t T (List.mem_cons_of_mem _ h.mem)⟩, q⟩
  | int i => exact op_ownAny O.o.m O.sf O.o.r F hr hb hx pins s σ H _ _ v u Q I rx ry ⟨a, _, rfl, ha, ty_plain (plainT_int i), .inr ⟨"int", rfl, O.o.t _ List.mem_cons_self⟩, q⟩
  | same h => exact op_ownAny O.o.m O.sf O.o.r F hr hb hx pins s σ H _ _ v u Q I rx ry ⟨a, _, rfl, ha, ty_ins h, .inl rfl, q⟩
  | rat h =>
    obtain ⟨f2, M2⟩ := O.rat
    exact op_ownX O.o.m O.sf O.o.r M2 O.sfR O.rR O.neR O.subR F hr hb hx pins s σ H _ _ v u Q I rx ry ⟨a, _, rfl, rfl, ha, h, q⟩
  | sca h =>
    rcases O.sca with N | ⟨⟨f2, M2⟩, sf2, r2⟩
    · exact op_ownP O.o.m O.sf O.o.r N O.neS O.subS F hr hb hx pins s σ H _ _ v u Q I rx ry ⟨a, _, rfl, rfl, ha, h, q⟩
    · exact op_ownX O.o.m O.sf O.o.r M2 sf2 r2 O.neS O.subS F hr hb hx pins s σ H _ _ v u Q I rx ry ⟨a, _, rfl, rfl, ha, h, q⟩
end K04
namespace K04
open PySem PySem.Spec PyProof.Rows L2 RatM LamX ClX
abbrev lamQ (x : Str) : Str := (x ++ ".<locals>.") ++ "<lambda>"
theorem OddAt.extN {H H' : Hp} {y : V} {T : String} (h : OddAt H y T) (s : ExtN H H') : OddAt H' y T := by
  cases h with
  | non => exact .non
  | bl b => exact .bl b
  | str x => exact .str x
  | lst e => exact .lst (s _ _ e fun _ z => by cases z)
  | tup e => exact .tup (s _ _ e fun _ z => by cases z)
  | dK e => exact .dK (s _ _ e fun _ z => by cases z)
theorem names_of {K : PySem.W.Frag} {H : Hp} : ∀ {xs : List V} {bs : List Bool}, Paired (NmIs K H) xs bs → ∀ (i : Nat) x b, xs[i]? = some x → bs[i]? = some b → NmIs K H x b
  | _, _, .nil, i, x, b, e, _ => by simp at e
  | _, _, .cons h t, 0, x, b, e1, e2 => by
    simp at e1 e2
    subst e1 e2
    exact h
  | _, _, .cons h t, i + 1, x, b, e1, e2 => names_of t i x b (by simpa using e1) (by simpa using e2)
theorem rats_of {H : Hp} {C : Addr} : ∀ {xs : List (Key × V)} {bs : List Bool}, Paired (fun kv b => RatIs H C kv.2 b) xs bs → ∀ (i : Nat) x b, xs[i]? = some x → bs[i]? = some b → RatIs H C x.2 b
  | _, _, .nil, i, x, b, e, _ => by simp at e
  | _, _, .cons h t, 0, x, b, e1, e2 => by
    simp at e1 e2
    subst e1 e2
    exact h
  | _, _, .cons h t, i + 1, x, b, e1, e2 => rats_of t i x b (by simpa using e1) (by simpa using e2)
theorem BalAt.keepT {H H' : Hp} {a CB C t : Addr} {ys : List V} {g : Str → Int × Int} {zs : List Str} (h : BalAt H a CB C g zs) (ht : H t = some (.lst ys)) (k : Keep t H H') : BalAt H' a CB C g zs := by
  have k : ∀ b o, H b = some o → (∀ xs, o ≠ .lst xs) → H' b = some o := fun b o e n => k _ _ (fun z => by rw [z, ht] at e; injection e with e; exact n _ e.symm) e
  obtain ⟨dx', nd, tp, kt, e, ⟨kvs, e1, r⟩, e2, e3⟩ := h
  exact ⟨dx', nd, tp, kt, k _ _ e (fun _ z => by cases z), ⟨kvs, k _ _ e1 (fun _ z => by cases z), Paired.mono' (fun _ _ ⟨x1, b', x2, dxb, x3⟩ => ⟨x1, b', x2, dxb, k _ _ x3 fun _ z => by cases z⟩) r⟩, k _ _ e2 (fun _ z => by cases z), k _ _ e3 (fun _ z => by cases z)⟩
theorem tabs_keep {T : List (Addr × Str)} {H H' : Hp} {t : Addr} {xs : List V} (hT : Tabs T H) (ht : H t = some (.lst xs)) (k : Keep t H H') : Tabs T H' := fun x hx => by
  have ne : ∀ {b : Addr} {u : HO}, H b = some u → (∀ xs, u ≠ .lst xs) → b ≠ t := fun {b u} e q z => by
    rw [z, ht] at e
    cases e
    exact q _ rfl
  obtain ⟨ps, h1, h2, h3⟩ := hT x hx
  refine ⟨ps, k _ _ (ne h1 fun _ z => by cases z) h1, h2, fun pos cv hc => ?_⟩
  obtain ⟨c, e1, e2⟩ := h3 pos cv hc
  exact ⟨c, e1, k _ _ (ne e2 fun _ z => by unfold CodeO at z; cases z) e2⟩
theorem nmS {K : PySem.W.Frag} {H : Hp} (x : Str) {b : Bool} (h : x.length ≤ 100000 ∧ b = nameT x.cps.toList) : NmIs K H (.str x) b := .inl ⟨x, rfl, h.1, h.2⟩
theorem tups_app {H : Hp} : ∀ {vs ws : List V} {ds es : List (Str × Str)}, Paired (TupE H) vs ds → Paired (TupE H) ws es → Paired (TupE H) (vs ++ ws) (ds ++ es)
  | _, _, _, _, .nil, h2 => h2
  | _, _, _, _, .cons h t, h2 => .cons h (tups_app t h2)
/-- the items of a display of pairs of texts -/
def tDue : List (Str × Str) → TA
  | [] => tNil
  | d :: r => tCons (tTup (tCons (tC (.str d.1)) (tCons (tC (.str d.2)) tNil))) (tDue r)
theorem due_tells {σ : L2.St} : ∀ (ds : List (Str × Str)) {H : Hp} {Q : List V → Hp → Prop}, (∀ vs H', Same H H' → Paired (TupE H') vs ds → Q vs H') → tDue ds σ H Q
  | [], H, Q, k => k [] H (Same.refl H) .nil
  | d :: r, H, Q, k => ⟨by rw [sizeLine_eq]; show 2 ≤ 16777216; decide, fun p np => due_tells r fun vs H' s pv => k _ H' ((same_upd np).trans s) (.cons ⟨p, rfl, s _ _ upd_same⟩ pv)⟩
/-- what the law's refusals rest on -/
structure RfK (P : Program) (w : World) (K : PySem.W.Frag) (mg : Str → Option Value) (base : Heap) (CS CB C BR BB BN SE gH : Addr) (fdH : FuncData) (mcB : Value) (pO gO : Addr) : Prop where
  R : RatK P w K mg base C BR
  B : BalK P w K mg base CB C
  H : HearK K mg SE BB BN gH fdH
  SK : ScaK P w K mg base CS C
  BO : BalO P w K mg base CB C BB
  cr : CRead K CB mcB
  sm : SMet K CB mcB "of" pO gO
  of_ : FnR P w K mg base (L2.CX P w) 12 gO (SpV (spOfB K CB C BB))
  mean : ∃ (f : Addr) (fd : FuncData), FnOk P w K mg base (L2.CX P w) 12 f fd ["things"] (spMeanO K BB) ∧ Binds K fd ["things"] [] ∧ PySem.W.keepIn K (.ref f) = true ∧ mg "mean_of" = some (.ref f)
  ren : ∃ (f : Addr) (fd : FuncData), Meth K CB "renamed" f ∧ FnOk P w K mg base (L2.CX P w) 10 f fd ["self", "names"] (spRenO K BB) ∧ Binds K fd ["self", "names"] []
  add : ∃ (f : Addr) (fd : FuncData), OpO K CB C CS Operator.Add.info.2 f ∧ FnOk P w K mg base (L2.CX P w) 11 f fd ["self", "other"] (spAddO K CB BB) ∧ Binds K fd ["self", "other"] []
  sub : ∃ (f : Addr) (fd : FuncData), OpO K CB C CS Operator.Sub.info.2 f ∧ FnOk P w K mg base (L2.CX P w) 11 f fd ["self", "other"] (spAddO K CB BB) ∧ Binds K fd ["self", "other"] []
  mul : ∃ (f : Addr) (fd : FuncData), OpO K CB C CS Operator.Mult.info.2 f ∧ FnOk P w K mg base (L2.CX P w) 11 f fd ["self", "other"] (spTimesO K C BN) ∧ Binds K fd ["self", "other"] []
  kR : PySem.W.kitOne K (.ref C) (.ref CB) = some false
  kS : PySem.W.kitOne K (.ref CS) (.ref CB) = some false
  kT : ∀ T ∈ "int" :: oddTypes, PySem.W.kitOne K (.type T) (.ref CB) = some false
  kB : PySem.W.kitOne K (.ref CB) (.ref C) = some false
  kBi : PySem.W.kitOne K (.ref CB) (.type "int") = some false
  kBb : PySem.W.kitOne K (.ref CB) (.type "bool") = some false
  odd : ∀ T ∈ oddTypes, PySem.W.kitOne K (.type T) (.ref C) = some false
  yR : ∀ (H : Hp) (a : Addr), InsAt H a C → TyX K H (.ref a) (.ref C)
  yS : ∀ (H : Hp) (a : Addr), InsAt H a CS → TyX K H (.ref a) (.ref CS)
  yB : ∀ (H : Hp) (a : Addr), InsAt H a CB → TyX K H (.ref a) (.ref CB)
  pick : ∃ (f : Addr) (fd : FuncData), FnOk P w K mg base CX0 2 f fd ["_law_reel_here", "_law_some"] spOf ∧ Binds K fd ["_law_reel_here", "_law_some"] [] ∧ PySem.W.keepIn K (.ref f) = true ∧ mg "_law_pick" = some (.ref f)
def spRf (CB C : Addr) (T : List (Addr × Str)) : Sp := fun vs H Q _ => ∃ (t b c : Addr) (cells : List Int) (i g : Int) (gb : Str → Int × Int) (zs : List Str), vs = [.ref t, .ref b] ∧ Till H t c cells i g ∧ 0 ≤ i ∧ i ≤ 900000 ∧ 0 ≤ g ∧
  BalAt H b CB C gb zs ∧ Tabs T H ∧ ∀ H', Q (.bl true) H'
section
variable {P : Program} {w : World} {K : PySem.W.Frag} {mg : Str → Option Value} {base : Heap} {C BR CB BB BN CS SE gH PT pO gO : Addr} {fdH : FuncData} {mcB : Value}
abbrev nsRf : List Str := ["_law_reel_here", "_law_balance", "_law_odd", "_law_name", "_law_some", "_law_names", "_law_other", "_law_number_here", "_law_heard_here", "_law_due"]
theorem scRefu : FnScope nsRf ["_law_reel_here", "_law_balance"] (defScope (top 69)) := ⟨rfl, rfl, rfl, by decide +kernel, rfl, by decide +kernel, by decide +kernel⟩
theorem ok_refused {f : Addr} {fd : FuncData} {T : List (Addr × Str)} (F : FnP K "_law_refused" (top 69) f fd) (Z : RfK P w K mg base CS CB C BR BB BN SE gH fdH mcB pO gO) (TB : TabB base mg (He.codeOf K ("_law_refused", none)) PT) (fx : He.fAd K ("_law_refused", none) = f)
    (hmT : (PT, lamQ "_law_refused") ∈ T) (hu : ∀ p ∈ T, p.1 = PT → p.2 = lamQ "_law_refused") : FnOk P w K mg base CX0 16 f fd ["_law_reel_here", "_law_balance"] (spRf CB C T) := by
  have B' := Z.B
  have R := Z.R
  obtain ⟨fP, fdP, GP, bP, kP, gP⟩ := Z.pick
  obtain ⟨fE, fdE, GE, bE, kE, gE⟩ := Z.mean
  obtain ⟨fR, fdR, MR, GR, bR⟩ := Z.ren
  obtain ⟨fA, fdA, OA, GA, bA⟩ := Z.add
  obtain ⟨fS, fdS, OS, GS, bS⟩ := Z.sub
  obtain ⟨fM, fdM, OM, GM, bM⟩ := Z.mul
  refine okC F scRefu (fun vs H Q E h => ?_) (fun c hcd A outer s H vs Q E hr h => ?_)
  · obtain ⟨t, b, c, cells, i, g, gb, zs, rfl, _⟩ := h
    rfl
  · obtain ⟨t, b, cs, cells, i, g, gb, zs, rfl, hT, hi0, hi1, hg, hb, hTb, k⟩ := h
    obtain rfl := hcd _ fx
    have hr15 : Room 15 _ := hr
    have hr9 : Room 9 _ := hr15.mono (by decide)
    have hr4 : Room 4 _ := hr15.mono (by decide)
    have hr2 : Room 2 _ := hr15.mono (by decide)
    have hu64 : (A.deeper (envOfC (Str.ofString "_law_refused") (defScope (top 69)) s.heap.objs.size f (.ref (He.codeOf K ("_law_refused", none))))).units + 64 < cLine := by have := hr15.units; omega
    have hu0 : (A.deeper (envOfC (Str.ofString "_law_refused") (defScope (top 69)) s.heap.objs.size f (.ref (He.codeOf K ("_law_refused", none))))).units < cLine := by omega
    refine ⟨_, PSs.nox (pss_cons (ps_set (i := 2) scRefu.nd rfl (.inr rfl) (pe_call GP hr2 rfl gP kP bP .nil pass0 (pa_cons (pv 0) (pa_cons (pe_lst (pa_cons pe_non (pa_cons pe_int (pa_cons pe_str (pa_cons (pe_lst (pa_cons (pe_tup (pa_cons pe_str (pa_cons pe_int pa_nil))) pa_nil)) (pa_cons (pe_disp (pps_cons pe_str pe_int pps_nil) rfl rfl (by decide) (by decide)) (pa_cons (pe_disp (pps_cons pe_int pe_int pps_nil) rfl rfl (by decide) (by decide)) (pa_cons (pe_disp (pps_cons pe_str pe_str pps_nil) rfl rfl (by decide) (by decide)) (pa_cons (pe_disp (pps_cons pe_str pe_non pps_nil) rfl rfl (by decide) (by decide)) (pa_cons (pe_disp (pps_cons pe_str pe_bl pps_nil) rfl rfl (by decide) (by decide)) (pa_cons (pe_disp (pps_cons pe_str pe_int pps_nil) rfl rfl (by decide) (by decide)) (pa_cons (pe_disp (pps_cons pe_str pe_int (pps_cons pe_str pe_int pps_nil)) rfl rfl (by decide) (by decide)) (pa_cons (pe_disp (pps_cons pe_str pe_int pps_nil) rfl rfl (by decide) (by decide)) (pa_cons (pe_dispT hu0 (pe_tup (pa_cons pe_str pa_nil)) pe_int) pa_nil)))))))))))))) pa_nil))))
      (pss_cons (ps_set (i := 3) scRefu.nd rfl (.inr rfl) (pe_call GP hr2 rfl gP kP bP .nil pass0 (pa_cons (pv 0) (pa_cons (pe_lst (pa_cons pe_non (pa_cons pe_int (pa_cons pe_str (pa_cons pe_str (pa_cons (pe_lst (pa_cons pe_str pa_nil)) (pa_cons pe_str (pa_cons pe_str pa_nil)))))))) pa_nil))))
      (pss_cons (ps_set (i := 4) scRefu.nd rfl (.inr rfl) (pe_call GP hr2 rfl gP kP bP .nil pass0 (pa_cons (pv 0) (pa_cons (pe_lst (pa_cons pe_non (pa_cons (pe_lst pa_nil) (pa_cons (pe_tup pa_nil) (pa_cons pe_str (pa_cons (pe_lst (pa_cons pe_str (pa_cons pe_non pa_nil))) (pa_cons (pe_lst (pa_cons pe_str (pa_cons pe_str pa_nil))) (pa_cons (pe_disp (pps_cons pe_str pe_int pps_nil) rfl rfl (by decide) (by decide)) (pa_cons pe_int pa_nil))))))))) pa_nil))))
      (pss_cons (ps_set (i := 5) scRefu.nd rfl (.inr rfl) (pe_call GP hr2 rfl gP kP bP .nil pass0 (pa_cons (pv 0) (pa_cons (pe_lst (pa_cons pe_non (pa_cons (pe_lst pa_nil) (pa_cons (pe_disp (pps_cons pe_str pe_str pps_nil) rfl rfl (by decide) (by decide)) (pa_cons (pe_disp (pps_cons pe_str pe_int pps_nil) rfl rfl (by decide) (by decide)) (pa_cons (pe_disp (pps_cons pe_int pe_str pps_nil) rfl rfl (by decide) (by decide)) (pa_cons pe_str (pa_cons (pe_disp (pps_cons pe_str pe_str (pps_cons pe_str pe_non pps_nil)) rfl rfl (by decide) (by decide)) (pa_cons (pe_tup (pa_cons pe_str (pa_cons pe_str pa_nil))) pa_nil))))))))) pa_nil))))
      (pss_cons (ps_set (i := 6) scRefu.nd rfl (.inr rfl) (pe_call GP hr2 rfl gP kP bP .nil pass0 (pa_cons (pv 0) (pa_cons (pe_lst (pa_cons pe_non (pa_cons pe_int (pa_cons pe_str (pa_cons (pe_disp (pps_cons pe_str pe_int pps_nil) rfl rfl (by decide) (by decide)) (pa_cons (pe_rat1 R hr4 (E := E0) passL rfl (pa_cons pe_int pa_nil)) (pa_cons (pe_sca Z.SK hr9 (E := E0) passL rfl (pa_cons (pe_disp (pps_cons pe_str pe_int pps_nil) rfl rfl (by decide) (by decide)) pa_nil)) pa_nil))))))) pa_nil))))
      (pss_cons (ps_set (i := 7) scRefu.nd rfl (.inr rfl) (pe_call GP hr2 rfl gP kP bP .nil pass0 (pa_cons (pv 0) (pa_cons (pe_lst (pa_cons pe_non (pa_cons pe_str (pa_cons pe_bl (pa_cons (pv 1) (pa_cons (pe_lst (pa_cons pe_int pa_nil)) (pa_cons (pe_tup (pa_cons pe_int (pa_cons pe_int pa_nil))) pa_nil))))))) pa_nil))))
      (pss_cons (ps_set (i := 8) scRefu.nd rfl (.inl rfl) (pe_lst (pa_cons (pe_heard (k := 13) Z.H TB rfl hmT hu hr15 rfl (lamS_by (sc := defScope (top 69)) (by decide +kernel)) rfl (fun _ _ _ _ _ => rfl) (fun A outer s H E f c' hr13 => pe_balO Z.BO (hr13.mono (by decide)) (E := E) (passE (takes_of rfl rfl rfl rfl)) rfl (pa_cons (pv 2) pa_nil) rfl rfl rfl rfl rfl)) pa_nil)))
      (pss_cons (ps_expr (pe_bm PySem.F.plainAttrs_list PySem.F.slot_list_append PySem.F.type_list_append mt_append (pv 8) (pa_cons (pe_heard (k := 13) Z.H TB rfl hmT hu hr15 rfl (lamS_by (sc := defScope (top 69)) (by decide +kernel)) rfl (fun _ _ _ _ _ => rfl) (fun A outer s H E f c' hr13 => pe_smethV (pe_glob (v := .ref _) rfl Z.BO.g rfl) Z.cr Z.sm Z.of_ (hr13.mono (by decide)) (E := E) (passE (takes_of rfl rfl rfl rfl)) (pa_cons pe_str (pa_cons (pv 3) pa_nil)))) pa_nil)))
      (pss_cons (ps_expr (pe_bm PySem.F.plainAttrs_list PySem.F.slot_list_append PySem.F.type_list_append mt_append (pv 8) (pa_cons (pe_heard (k := 13) Z.H TB rfl hmT hu hr15 rfl (lamS_by (sc := defScope (top 69)) (by decide +kernel)) rfl (fun _ _ _ _ _ => rfl) (fun A outer s H E f c' hr13 => pe_call GE (hr13.mono (by decide)) rfl gE kE bE .nil (E := E) (passE (takes_of rfl rfl rfl rfl)) (pa_cons (pv 4) pa_nil))) pa_nil)))
      (pss_cons (ps_expr (pe_bm PySem.F.plainAttrs_list PySem.F.slot_list_append PySem.F.type_list_append mt_append (pv 8) (pa_cons (pe_heard (k := 13) Z.H TB rfl hmT hu hr15 rfl (lamS_by (sc := defScope (top 69)) (by decide +kernel)) rfl (fun _ _ _ _ _ => rfl) (fun A outer s H E f c' hr13 => pe_meth (pv 1) B'.T.cls MR GR (hr13.mono (by decide)) bR .nil (E := E) (passE (takes_of rfl rfl rfl rfl)) (pa_cons (pv 5) pa_nil))) pa_nil)))
      (pss_cons (ps_expr (pe_bm PySem.F.plainAttrs_list PySem.F.slot_list_append PySem.F.type_list_append mt_append (pv 8) (pa_cons (pe_heard (k := 13) Z.H TB rfl hmT hu hr15 rfl (lamS_by (sc := defScope (top 69)) (by decide +kernel)) rfl (fun _ _ _ _ _ => rfl) (fun A outer s H E f c' hr13 => pe_op (op_odd (op := .Add) OA GA (hr13.mono (by decide)) bA (E := E) (passE (takes_of rfl rfl rfl rfl))) (pv 1) (pv 6))) pa_nil)))
      (pss_cons (ps_expr (pe_bm PySem.F.plainAttrs_list PySem.F.slot_list_append PySem.F.type_list_append mt_append (pv 8) (pa_cons (pe_heard (k := 13) Z.H TB rfl hmT hu hr15 rfl (lamS_by (sc := defScope (top 69)) (by decide +kernel)) rfl (fun _ _ _ _ _ => rfl) (fun A outer s H E f c' hr13 => pe_op (op_odd (op := .Sub) OS GS (hr13.mono (by decide)) bS (E := E) (passE (takes_of rfl rfl rfl rfl))) (pv 1) (pv 6))) pa_nil)))
      (pss_cons (ps_expr (pe_bm PySem.F.plainAttrs_list PySem.F.slot_list_append PySem.F.type_list_append mt_append (pv 8) (pa_cons (pe_heard (k := 13) Z.H TB rfl hmT hu hr15 rfl (lamS_by (sc := defScope (top 69)) (by decide +kernel)) rfl (fun _ _ _ _ _ => rfl) (fun A outer s H E f c' hr13 => pe_op (op_odd (op := .Mult) OM GM (hr13.mono (by decide)) bM (E := E) (passE (takes_of rfl rfl rfl rfl))) (pv 1) (pv 7))) pa_nil)))
      (pss_cons (ps_set (i := 9) scRefu.nd rfl (.inl rfl) (pe_lst (pa_cons (pe_tup (pa_cons pe_str (pa_cons pe_str pa_nil))) (pa_cons (pe_tup (pa_cons pe_str (pa_cons pe_str pa_nil))) (pa_cons (pe_tup (pa_cons pe_str (pa_cons pe_str pa_nil))) (pa_cons (pe_tup (pa_cons pe_str (pa_cons pe_str pa_nil))) (pa_cons (pe_tup (pa_cons pe_str (pa_cons pe_str pa_nil))) (pa_cons (pe_tup (pa_cons pe_str (pa_cons pe_str pa_nil))) pa_nil))))))))
      (pss_one (ps_ret (pe_cmpR (op_eqD hu64) (pv 8) (pe_op op_cat (pv 9) (pe_lst (pa_cons (pe_tup (pa_cons pe_str (pa_cons pe_str pa_nil))) pa_nil))) (nomark _)))))))))))))))))), ?_⟩
    have sdisp : ∀ {Hx : Hp} {d : Addr} {o o' : HO}, Hx d = none → Same Hx (upd (upd Hx d o) d o') := fun n b u e => by rw [upd_ne (ne_of_none e n), upd_ne (ne_of_none e n)]; exact e
    have sA : Same H H := Same.refl _
    refine ⟨_, rfl, ⟨by rw [sizeLine_eq]; show 2 ≤ 16777216; decide, fun d1 nd_d1 => ?_⟩⟩
    have q : Same H (upd H d1 (.tup [(V.str (Str.ofString "a")), .int 1])) := same_upd nd_d1
    have f_d1 : (upd H d1 (.tup [(V.str (Str.ofString "a")), .int 1])) d1 = some (.tup [(V.str (Str.ofString "a")), .int 1]) := upd_same
    have n_d1 : d1 ≠ t := fun z => by rw [z, (hT.same sA).ht] at nd_d1; cases nd_d1
    generalize upd H d1 (.tup [(V.str (Str.ofString "a")), .int 1]) = G1 at q f_d1 ⊢
    replace sA := sA.trans q
    clear q nd_d1
    refine ⟨by rw [sizeLine_eq]; show 1 ≤ 16777216; decide, fun d2 nd_d2 => ?_⟩
    have q : Same G1 (upd G1 d2 (.lst [.ref d1])) := same_upd nd_d2
    have f_d2 : (upd G1 d2 (.lst [.ref d1])) d2 = some (.lst [.ref d1]) := upd_same
    have n_d2 : d2 ≠ t := fun z => by rw [z, (hT.same sA).ht] at nd_d2; cases nd_d2
    generalize upd G1 d2 (.lst [.ref d1]) = G2 at q f_d2 ⊢
    replace sA := sA.trans q
    replace f_d1 := q _ _ f_d1
    clear q nd_d2
    refine fun d3 nd_d3 => ⟨upd_same, [(.inr (Str.ofString "A"), .int 1)], rfl, by decide, ?_⟩
    have q : Same G2 (upd (upd G2 d3 (.dK [])) d3 (.dK (mergeK [] [(.inr (Str.ofString "A"), .int 1)]))) := sdisp nd_d3
    have f_d3 : (upd (upd G2 d3 (.dK [])) d3 (.dK (mergeK [] [(.inr (Str.ofString "A"), .int 1)]))) d3 = some (.dK [(.inr (Str.ofString "A"), .int 1)]) := upd_same
    have n_d3 : d3 ≠ t := fun z => by rw [z, (hT.same sA).ht] at nd_d3; cases nd_d3
    generalize upd (upd G2 d3 (.dK [])) d3 (.dK (mergeK [] [(.inr (Str.ofString "A"), .int 1)])) = G3 at q f_d3 ⊢
    replace sA := sA.trans q
    replace f_d1 := q _ _ f_d1
    replace f_d2 := q _ _ f_d2
    clear q nd_d3
    refine fun d4 nd_d4 => ⟨upd_same, [(.inl 5, .int 1)], rfl, by decide, ?_⟩
    have q : Same G3 (upd (upd G3 d4 (.dK [])) d4 (.dK (mergeK [] [(.inl 5, .int 1)]))) := sdisp nd_d4
    have f_d4 : (upd (upd G3 d4 (.dK [])) d4 (.dK (mergeK [] [(.inl 5, .int 1)]))) d4 = some (.dK [(.inl 5, .int 1)]) := upd_same
    have n_d4 : d4 ≠ t := fun z => by rw [z, (hT.same sA).ht] at nd_d4; cases nd_d4
    generalize upd (upd G3 d4 (.dK [])) d4 (.dK (mergeK [] [(.inl 5, .int 1)])) = G4 at q f_d4 ⊢
    replace sA := sA.trans q
    replace f_d1 := q _ _ f_d1
    replace f_d2 := q _ _ f_d2
    replace f_d3 := q _ _ f_d3
    clear q nd_d4
    refine fun d5 nd_d5 => ⟨upd_same, [(.inr (Str.ofString "a"), (V.str (Str.ofString "1")))], rfl, by decide, ?_⟩
    have q : Same G4 (upd (upd G4 d5 (.dK [])) d5 (.dK (mergeK [] [(.inr (Str.ofString "a"), (V.str (Str.ofString "1")))]))) := sdisp nd_d5
    have f_d5 : (upd (upd G4 d5 (.dK [])) d5 (.dK (mergeK [] [(.inr (Str.ofString "a"), (V.str (Str.ofString "1")))]))) d5 = some (.dK [(.inr (Str.ofString "a"), (V.str (Str.ofString "1")))]) := upd_same
    have n_d5 : d5 ≠ t := fun z => by rw [z, (hT.same sA).ht] at nd_d5; cases nd_d5
    generalize upd (upd G4 d5 (.dK [])) d5 (.dK (mergeK [] [(.inr (Str.ofString "a"), (V.str (Str.ofString "1")))])) = G5 at q f_d5 ⊢
    replace sA := sA.trans q
    replace f_d1 := q _ _ f_d1
    replace f_d2 := q _ _ f_d2
    replace f_d3 := q _ _ f_d3
    replace f_d4 := q _ _ f_d4
    clear q nd_d5
    refine fun d6 nd_d6 => ⟨upd_same, [(.inr (Str.ofString "a"), .non)], rfl, by decide, ?_⟩
    have q : Same G5 (upd (upd G5 d6 (.dK [])) d6 (.dK (mergeK [] [(.inr (Str.ofString "a"), .non)]))) := sdisp nd_d6
    have f_d6 : (upd (upd G5 d6 (.dK [])) d6 (.dK (mergeK [] [(.inr (Str.ofString "a"), .non)]))) d6 = some (.dK [(.inr (Str.ofString "a"), .non)]) := upd_same
    have n_d6 : d6 ≠ t := fun z => by rw [z, (hT.same sA).ht] at nd_d6; cases nd_d6
    generalize upd (upd G5 d6 (.dK [])) d6 (.dK (mergeK [] [(.inr (Str.ofString "a"), .non)])) = G6 at q f_d6 ⊢
    replace sA := sA.trans q
    replace f_d1 := q _ _ f_d1
    replace f_d2 := q _ _ f_d2
    replace f_d3 := q _ _ f_d3
    replace f_d4 := q _ _ f_d4
    replace f_d5 := q _ _ f_d5
    clear q nd_d6
    refine fun d7 nd_d7 => ⟨upd_same, [(.inr (Str.ofString "a"), .bl true)], rfl, by decide, ?_⟩
    have q : Same G6 (upd (upd G6 d7 (.dK [])) d7 (.dK (mergeK [] [(.inr (Str.ofString "a"), .bl true)]))) := sdisp nd_d7
    have f_d7 : (upd (upd G6 d7 (.dK [])) d7 (.dK (mergeK [] [(.inr (Str.ofString "a"), .bl true)]))) d7 = some (.dK [(.inr (Str.ofString "a"), .bl true)]) := upd_same
    have n_d7 : d7 ≠ t := fun z => by rw [z, (hT.same sA).ht] at nd_d7; cases nd_d7
    generalize upd (upd G6 d7 (.dK [])) d7 (.dK (mergeK [] [(.inr (Str.ofString "a"), .bl true)])) = G7 at q f_d7 ⊢
    replace sA := sA.trans q
    replace f_d1 := q _ _ f_d1
    replace f_d2 := q _ _ f_d2
    replace f_d3 := q _ _ f_d3
    replace f_d4 := q _ _ f_d4
    replace f_d5 := q _ _ f_d5
    replace f_d6 := q _ _ f_d6
    clear q nd_d7
    refine fun d8 nd_d8 => ⟨upd_same, [(.inr (Str.ofString ""), .int 1)], rfl, by decide, ?_⟩
    have q : Same G7 (upd (upd G7 d8 (.dK [])) d8 (.dK (mergeK [] [(.inr (Str.ofString ""), .int 1)]))) := sdisp nd_d8
    have f_d8 : (upd (upd G7 d8 (.dK [])) d8 (.dK (mergeK [] [(.inr (Str.ofString ""), .int 1)]))) d8 = some (.dK [(.inr (Str.ofString ""), .int 1)]) := upd_same
    have n_d8 : d8 ≠ t := fun z => by rw [z, (hT.same sA).ht] at nd_d8; cases nd_d8
    generalize upd (upd G7 d8 (.dK [])) d8 (.dK (mergeK [] [(.inr (Str.ofString ""), .int 1)])) = G8 at q f_d8 ⊢
    replace sA := sA.trans q
    replace f_d1 := q _ _ f_d1
    replace f_d2 := q _ _ f_d2
    replace f_d3 := q _ _ f_d3
    replace f_d4 := q _ _ f_d4
    replace f_d5 := q _ _ f_d5
    replace f_d6 := q _ _ f_d6
    replace f_d7 := q _ _ f_d7
    clear q nd_d8
    refine fun d9 nd_d9 => ⟨upd_same, [(.inr (Str.ofString "a"), .int 1), (.inr (Str.ofString "abcdefghijklm"), .int 1)], rfl, by decide, ?_⟩
    have q : Same G8 (upd (upd G8 d9 (.dK [])) d9 (.dK (mergeK [] [(.inr (Str.ofString "a"), .int 1), (.inr (Str.ofString "abcdefghijklm"), .int 1)]))) := sdisp nd_d9
    have f_d9 : (upd (upd G8 d9 (.dK [])) d9 (.dK (mergeK [] [(.inr (Str.ofString "a"), .int 1), (.inr (Str.ofString "abcdefghijklm"), .int 1)]))) d9 = some (.dK [(.inr (Str.ofString "a"), .int 1), (.inr (Str.ofString "abcdefghijklm"), .int 1)]) := upd_same
    have n_d9 : d9 ≠ t := fun z => by rw [z, (hT.same sA).ht] at nd_d9; cases nd_d9
    generalize upd (upd G8 d9 (.dK [])) d9 (.dK (mergeK [] [(.inr (Str.ofString "a"), .int 1), (.inr (Str.ofString "abcdefghijklm"), .int 1)])) = G9 at q f_d9 ⊢
    replace sA := sA.trans q
    replace f_d1 := q _ _ f_d1
    replace f_d2 := q _ _ f_d2
    replace f_d3 := q _ _ f_d3
    replace f_d4 := q _ _ f_d4
    replace f_d5 := q _ _ f_d5
    replace f_d6 := q _ _ f_d6
    replace f_d7 := q _ _ f_d7
    replace f_d8 := q _ _ f_d8
    clear q nd_d9
    refine fun d10 nd_d10 => ⟨upd_same, [(.inr (Str.ofString "7a"), .int 0)], rfl, by decide, ?_⟩
    have q : Same G9 (upd (upd G9 d10 (.dK [])) d10 (.dK (mergeK [] [(.inr (Str.ofString "7a"), .int 0)]))) := sdisp nd_d10
    have f_d10 : (upd (upd G9 d10 (.dK [])) d10 (.dK (mergeK [] [(.inr (Str.ofString "7a"), .int 0)]))) d10 = some (.dK [(.inr (Str.ofString "7a"), .int 0)]) := upd_same
    have n_d10 : d10 ≠ t := fun z => by rw [z, (hT.same sA).ht] at nd_d10; cases nd_d10
    generalize upd (upd G9 d10 (.dK [])) d10 (.dK (mergeK [] [(.inr (Str.ofString "7a"), .int 0)])) = G10 at q f_d10 ⊢
    replace sA := sA.trans q
    replace f_d1 := q _ _ f_d1
    replace f_d2 := q _ _ f_d2
    replace f_d3 := q _ _ f_d3
    replace f_d4 := q _ _ f_d4
    replace f_d5 := q _ _ f_d5
    replace f_d6 := q _ _ f_d6
    replace f_d7 := q _ _ f_d7
    replace f_d8 := q _ _ f_d8
    replace f_d9 := q _ _ f_d9
    clear q nd_d10
    refine fun d11 nd_d11 => ⟨by rw [sizeLine_eq]; show 1 ≤ 16777216; decide, fun pd11 np => ⟨(upd_ne (fun z => by rw [← z, upd_same] at np; cases np)).trans upd_same, pd11, [Sum.inr (Str.ofString "a")], rfl, upd_same, ?_⟩⟩
    have q : Same G10 (upd (upd (upd G10 d11 (.dT [])) pd11 (.tup [(V.str (Str.ofString "a"))])) d11 (.dT [(([Sum.inr (Str.ofString "a")] : List Key), V.int 1)])) := fun b u e => by rw [upd_ne (ne_of_none e nd_d11), upd_ne (ne_of_none ((same_upd nd_d11) _ _ e) np), upd_ne (ne_of_none e nd_d11)]; exact e
    have f_d11 : (upd (upd (upd G10 d11 (.dT [])) pd11 (.tup [(V.str (Str.ofString "a"))])) d11 (.dT [(([Sum.inr (Str.ofString "a")] : List Key), V.int 1)])) d11 = some (.dT [(([Sum.inr (Str.ofString "a")] : List Key), V.int 1)]) := upd_same
    have n_d11 : d11 ≠ t := fun z => by rw [z, (hT.same sA).ht] at nd_d11; cases nd_d11
    generalize upd (upd (upd G10 d11 (.dT [])) pd11 (.tup [(V.str (Str.ofString "a"))])) d11 (.dT [(([Sum.inr (Str.ofString "a")] : List Key), V.int 1)]) = G11 at q f_d11 ⊢
    replace sA := sA.trans q
    replace f_d1 := q _ _ f_d1
    replace f_d2 := q _ _ f_d2
    replace f_d3 := q _ _ f_d3
    replace f_d4 := q _ _ f_d4
    replace f_d5 := q _ _ f_d5
    replace f_d6 := q _ _ f_d6
    replace f_d7 := q _ _ f_d7
    replace f_d8 := q _ _ f_d8
    replace f_d9 := q _ _ f_d9
    replace f_d10 := q _ _ f_d10
    clear q nd_d11
    clear np
    refine nilI (⟨by rw [sizeLine_eq]; show 13 ≤ 16777216; decide, fun d12 nd_d12 => ?_⟩)
    have q : Same G11 (upd G11 d12 (.lst [.non, .int 5, (V.str (Str.ofString "a")), .ref d2, .ref d3, .ref d4, .ref d5, .ref d6, .ref d7, .ref d8, .ref d9, .ref d10, .ref d11])) := same_upd nd_d12
    have f_d12 : (upd G11 d12 (.lst [.non, .int 5, (V.str (Str.ofString "a")), .ref d2, .ref d3, .ref d4, .ref d5, .ref d6, .ref d7, .ref d8, .ref d9, .ref d10, .ref d11])) d12 = some (.lst [.non, .int 5, (V.str (Str.ofString "a")), .ref d2, .ref d3, .ref d4, .ref d5, .ref d6, .ref d7, .ref d8, .ref d9, .ref d10, .ref d11]) := upd_same
    have n_d12 : d12 ≠ t := fun z => by rw [z, (hT.same sA).ht] at nd_d12; cases nd_d12
    generalize upd G11 d12 (.lst [.non, .int 5, (V.str (Str.ofString "a")), .ref d2, .ref d3, .ref d4, .ref d5, .ref d6, .ref d7, .ref d8, .ref d9, .ref d10, .ref d11]) = G12 at q f_d12 ⊢
    replace sA := sA.trans q
    replace f_d1 := q _ _ f_d1
    replace f_d2 := q _ _ f_d2
    replace f_d3 := q _ _ f_d3
    replace f_d4 := q _ _ f_d4
    replace f_d5 := q _ _ f_d5
    replace f_d6 := q _ _ f_d6
    replace f_d7 := q _ _ f_d7
    replace f_d8 := q _ _ f_d8
    replace f_d9 := q _ _ f_d9
    replace f_d10 := q _ _ f_d10
    replace f_d11 := q _ _ f_d11
    clear q nd_d12
    refine nilI ⟨t, cs, d12, cells, i, g, _, rfl, hT.same sA, hi0, by omega, hg, n_d12, f_d12, by show 0 < 13; decide, by show 13 ≤ 10000; decide, fun x1 i1 g1 P1 hx1 i10 i11 g10 k T1 => ?_⟩
    clear f_d12 n_d12
    replace f_d1 := k _ _ n_d1 f_d1
    replace f_d2 := k _ _ n_d2 f_d2
    replace f_d3 := k _ _ n_d3 f_d3
    replace f_d4 := k _ _ n_d4 f_d4
    replace f_d5 := k _ _ n_d5 f_d5
    replace f_d6 := k _ _ n_d6 f_d6
    replace f_d7 := k _ _ n_d7 f_d7
    replace f_d8 := k _ _ n_d8 f_d8
    replace f_d9 := k _ _ n_d9 f_d9
    replace f_d10 := k _ _ n_d10 f_d10
    replace f_d11 := k _ _ n_d11 f_d11
    replace hb := BalAt.keepT (hb.same sA) (hT.same sA).ht k
    replace hTb := tabs_keep (tabs_same hTb sA) (hT.same sA).ht k
    replace hT := T1
    clear sA k T1
    have sA : Same P1 P1 := Same.refl _
    dsimp only [tNext, tSeq, tAsg, gName]
    refine ⟨_, rfl, ⟨by rw [sizeLine_eq]; show 1 ≤ 16777216; decide, fun d13 nd_d13 => ?_⟩⟩
    have q : Same P1 (upd P1 d13 (.lst [(V.str (Str.ofString "a"))])) := same_upd nd_d13
    have f_d13 : (upd P1 d13 (.lst [(V.str (Str.ofString "a"))])) d13 = some (.lst [(V.str (Str.ofString "a"))]) := upd_same
    have n_d13 : d13 ≠ t := fun z => by rw [z, (hT.same sA).ht] at nd_d13; cases nd_d13
    generalize upd P1 d13 (.lst [(V.str (Str.ofString "a"))]) = G13 at q f_d13 ⊢
    replace sA := sA.trans q
    replace f_d1 := q _ _ f_d1
    replace f_d2 := q _ _ f_d2
    replace f_d3 := q _ _ f_d3
    replace f_d4 := q _ _ f_d4
    replace f_d5 := q _ _ f_d5
    replace f_d6 := q _ _ f_d6
    replace f_d7 := q _ _ f_d7
    replace f_d8 := q _ _ f_d8
    replace f_d9 := q _ _ f_d9
    replace f_d10 := q _ _ f_d10
    replace f_d11 := q _ _ f_d11
    clear q nd_d13
    refine ⟨by rw [sizeLine_eq]; show 7 ≤ 16777216; decide, fun d14 nd_d14 => ?_⟩
    have q : Same G13 (upd G13 d14 (.lst [.non, .int 5, (V.str (Str.ofString "A")), (V.str (Str.ofString "")), .ref d13, (V.str (Str.ofString "a b")), (V.str (Str.ofString "a-b"))])) := same_upd nd_d14
    have f_d14 : (upd G13 d14 (.lst [.non, .int 5, (V.str (Str.ofString "A")), (V.str (Str.ofString "")), .ref d13, (V.str (Str.ofString "a b")), (V.str (Str.ofString "a-b"))])) d14 = some (.lst [.non, .int 5, (V.str (Str.ofString "A")), (V.str (Str.ofString "")), .ref d13, (V.str (Str.ofString "a b")), (V.str (Str.ofString "a-b"))]) := upd_same
    have n_d14 : d14 ≠ t := fun z => by rw [z, (hT.same sA).ht] at nd_d14; cases nd_d14
    generalize upd G13 d14 (.lst [.non, .int 5, (V.str (Str.ofString "A")), (V.str (Str.ofString "")), .ref d13, (V.str (Str.ofString "a b")), (V.str (Str.ofString "a-b"))]) = G14 at q f_d14 ⊢
    replace sA := sA.trans q
    replace f_d1 := q _ _ f_d1
    replace f_d2 := q _ _ f_d2
    replace f_d3 := q _ _ f_d3
    replace f_d4 := q _ _ f_d4
    replace f_d5 := q _ _ f_d5
    replace f_d6 := q _ _ f_d6
    replace f_d7 := q _ _ f_d7
    replace f_d8 := q _ _ f_d8
    replace f_d9 := q _ _ f_d9
    replace f_d10 := q _ _ f_d10
    replace f_d11 := q _ _ f_d11
    replace f_d13 := q _ _ f_d13
    clear q nd_d14
    refine nilI ⟨t, cs, d14, cells, i1, g1, _, rfl, hT.same sA, i10, by omega, g10, n_d14, f_d14, by show 0 < 7; decide, by show 7 ≤ 10000; decide, fun x2 i2 g2 P2 hx2 i20 i21 g20 k T1 => ?_⟩
    clear f_d14 n_d14
    replace f_d1 := k _ _ n_d1 f_d1
    replace f_d2 := k _ _ n_d2 f_d2
    replace f_d3 := k _ _ n_d3 f_d3
    replace f_d4 := k _ _ n_d4 f_d4
    replace f_d5 := k _ _ n_d5 f_d5
    replace f_d6 := k _ _ n_d6 f_d6
    replace f_d7 := k _ _ n_d7 f_d7
    replace f_d8 := k _ _ n_d8 f_d8
    replace f_d9 := k _ _ n_d9 f_d9
    replace f_d10 := k _ _ n_d10 f_d10
    replace f_d11 := k _ _ n_d11 f_d11
    replace f_d13 := k _ _ n_d13 f_d13
    replace hb := BalAt.keepT (hb.same sA) (hT.same sA).ht k
    replace hTb := tabs_keep (tabs_same hTb sA) (hT.same sA).ht k
    replace hT := T1
    clear sA k T1
    have sA : Same P2 P2 := Same.refl _
    dsimp only [tNext, tSeq, tAsg, gName]
    refine ⟨_, rfl, ⟨by rw [sizeLine_eq]; show 0 ≤ 16777216; decide, fun d15 nd_d15 => ?_⟩⟩
    have q : Same P2 (upd P2 d15 (.lst [])) := same_upd nd_d15
    have f_d15 : (upd P2 d15 (.lst [])) d15 = some (.lst []) := upd_same
    have n_d15 : d15 ≠ t := fun z => by rw [z, (hT.same sA).ht] at nd_d15; cases nd_d15
    generalize upd P2 d15 (.lst []) = G15 at q f_d15 ⊢
    replace sA := sA.trans q
    replace f_d1 := q _ _ f_d1
    replace f_d2 := q _ _ f_d2
    replace f_d3 := q _ _ f_d3
    replace f_d4 := q _ _ f_d4
    replace f_d5 := q _ _ f_d5
    replace f_d6 := q _ _ f_d6
    replace f_d7 := q _ _ f_d7
    replace f_d8 := q _ _ f_d8
    replace f_d9 := q _ _ f_d9
    replace f_d10 := q _ _ f_d10
    replace f_d11 := q _ _ f_d11
    replace f_d13 := q _ _ f_d13
    clear q nd_d15
    refine ⟨by rw [sizeLine_eq]; show 0 ≤ 16777216; decide, fun d16 nd_d16 => ?_⟩
    have q : Same G15 (upd G15 d16 (.tup [])) := same_upd nd_d16
    have f_d16 : (upd G15 d16 (.tup [])) d16 = some (.tup []) := upd_same
    have n_d16 : d16 ≠ t := fun z => by rw [z, (hT.same sA).ht] at nd_d16; cases nd_d16
    generalize upd G15 d16 (.tup []) = G16 at q f_d16 ⊢
    replace sA := sA.trans q
    replace f_d1 := q _ _ f_d1
    replace f_d2 := q _ _ f_d2
    replace f_d3 := q _ _ f_d3
    replace f_d4 := q _ _ f_d4
    replace f_d5 := q _ _ f_d5
    replace f_d6 := q _ _ f_d6
    replace f_d7 := q _ _ f_d7
    replace f_d8 := q _ _ f_d8
    replace f_d9 := q _ _ f_d9
    replace f_d10 := q _ _ f_d10
    replace f_d11 := q _ _ f_d11
    replace f_d13 := q _ _ f_d13
    replace f_d15 := q _ _ f_d15
    clear q nd_d16
    refine ⟨by rw [sizeLine_eq]; show 2 ≤ 16777216; decide, fun d17 nd_d17 => ?_⟩
    have q : Same G16 (upd G16 d17 (.lst [(V.str (Str.ofString "a")), .non])) := same_upd nd_d17
    have f_d17 : (upd G16 d17 (.lst [(V.str (Str.ofString "a")), .non])) d17 = some (.lst [(V.str (Str.ofString "a")), .non]) := upd_same
    have n_d17 : d17 ≠ t := fun z => by rw [z, (hT.same sA).ht] at nd_d17; cases nd_d17
    generalize upd G16 d17 (.lst [(V.str (Str.ofString "a")), .non]) = G17 at q f_d17 ⊢
    replace sA := sA.trans q
    replace f_d1 := q _ _ f_d1
    replace f_d2 := q _ _ f_d2
    replace f_d3 := q _ _ f_d3
    replace f_d4 := q _ _ f_d4
    replace f_d5 := q _ _ f_d5
    replace f_d6 := q _ _ f_d6
    replace f_d7 := q _ _ f_d7
    replace f_d8 := q _ _ f_d8
    replace f_d9 := q _ _ f_d9
    replace f_d10 := q _ _ f_d10
    replace f_d11 := q _ _ f_d11
    replace f_d13 := q _ _ f_d13
    replace f_d15 := q _ _ f_d15
    replace f_d16 := q _ _ f_d16
    clear q nd_d17
    refine ⟨by rw [sizeLine_eq]; show 2 ≤ 16777216; decide, fun d18 nd_d18 => ?_⟩
    have q : Same G17 (upd G17 d18 (.lst [(V.str (Str.ofString "a")), (V.str (Str.ofString "B"))])) := same_upd nd_d18
    have f_d18 : (upd G17 d18 (.lst [(V.str (Str.ofString "a")), (V.str (Str.ofString "B"))])) d18 = some (.lst [(V.str (Str.ofString "a")), (V.str (Str.ofString "B"))]) := upd_same
    have n_d18 : d18 ≠ t := fun z => by rw [z, (hT.same sA).ht] at nd_d18; cases nd_d18
    generalize upd G17 d18 (.lst [(V.str (Str.ofString "a")), (V.str (Str.ofString "B"))]) = G18 at q f_d18 ⊢
    replace sA := sA.trans q
    replace f_d1 := q _ _ f_d1
    replace f_d2 := q _ _ f_d2
    replace f_d3 := q _ _ f_d3
    replace f_d4 := q _ _ f_d4
    replace f_d5 := q _ _ f_d5
    replace f_d6 := q _ _ f_d6
    replace f_d7 := q _ _ f_d7
    replace f_d8 := q _ _ f_d8
    replace f_d9 := q _ _ f_d9
    replace f_d10 := q _ _ f_d10
    replace f_d11 := q _ _ f_d11
    replace f_d13 := q _ _ f_d13
    replace f_d15 := q _ _ f_d15
    replace f_d16 := q _ _ f_d16
    replace f_d17 := q _ _ f_d17
    clear q nd_d18
    refine fun d19 nd_d19 => ⟨upd_same, [(.inr (Str.ofString "a"), .int 1)], rfl, by decide, ?_⟩
    have q : Same G18 (upd (upd G18 d19 (.dK [])) d19 (.dK (mergeK [] [(.inr (Str.ofString "a"), .int 1)]))) := sdisp nd_d19
    have f_d19 : (upd (upd G18 d19 (.dK [])) d19 (.dK (mergeK [] [(.inr (Str.ofString "a"), .int 1)]))) d19 = some (.dK [(.inr (Str.ofString "a"), .int 1)]) := upd_same
    have n_d19 : d19 ≠ t := fun z => by rw [z, (hT.same sA).ht] at nd_d19; cases nd_d19
    generalize upd (upd G18 d19 (.dK [])) d19 (.dK (mergeK [] [(.inr (Str.ofString "a"), .int 1)])) = G19 at q f_d19 ⊢
    replace sA := sA.trans q
    replace f_d1 := q _ _ f_d1
    replace f_d2 := q _ _ f_d2
    replace f_d3 := q _ _ f_d3
    replace f_d4 := q _ _ f_d4
    replace f_d5 := q _ _ f_d5
    replace f_d6 := q _ _ f_d6
    replace f_d7 := q _ _ f_d7
    replace f_d8 := q _ _ f_d8
    replace f_d9 := q _ _ f_d9
    replace f_d10 := q _ _ f_d10
    replace f_d11 := q _ _ f_d11
    replace f_d13 := q _ _ f_d13
    replace f_d15 := q _ _ f_d15
    replace f_d16 := q _ _ f_d16
    replace f_d17 := q _ _ f_d17
    replace f_d18 := q _ _ f_d18
    clear q nd_d19
    refine ⟨by rw [sizeLine_eq]; show 8 ≤ 16777216; decide, fun d20 nd_d20 => ?_⟩
    have q : Same G19 (upd G19 d20 (.lst [.non, .ref d15, .ref d16, (V.str (Str.ofString "ab")), .ref d17, .ref d18, .ref d19, .int 5])) := same_upd nd_d20
    have f_d20 : (upd G19 d20 (.lst [.non, .ref d15, .ref d16, (V.str (Str.ofString "ab")), .ref d17, .ref d18, .ref d19, .int 5])) d20 = some (.lst [.non, .ref d15, .ref d16, (V.str (Str.ofString "ab")), .ref d17, .ref d18, .ref d19, .int 5]) := upd_same
    have n_d20 : d20 ≠ t := fun z => by rw [z, (hT.same sA).ht] at nd_d20; cases nd_d20
    generalize upd G19 d20 (.lst [.non, .ref d15, .ref d16, (V.str (Str.ofString "ab")), .ref d17, .ref d18, .ref d19, .int 5]) = G20 at q f_d20 ⊢
    replace sA := sA.trans q
    replace f_d1 := q _ _ f_d1
    replace f_d2 := q _ _ f_d2
    replace f_d3 := q _ _ f_d3
    replace f_d4 := q _ _ f_d4
    replace f_d5 := q _ _ f_d5
    replace f_d6 := q _ _ f_d6
    replace f_d7 := q _ _ f_d7
    replace f_d8 := q _ _ f_d8
    replace f_d9 := q _ _ f_d9
    replace f_d10 := q _ _ f_d10
    replace f_d11 := q _ _ f_d11
    replace f_d13 := q _ _ f_d13
    replace f_d15 := q _ _ f_d15
    replace f_d16 := q _ _ f_d16
    replace f_d17 := q _ _ f_d17
    replace f_d18 := q _ _ f_d18
    replace f_d19 := q _ _ f_d19
    clear q nd_d20
    refine nilI ⟨t, cs, d20, cells, i2, g2, _, rfl, hT.same sA, i20, by omega, g20, n_d20, f_d20, by show 0 < 8; decide, by show 8 ≤ 10000; decide, fun x3 i3 g3 P3 hx3 i30 i31 g30 k T1 => ?_⟩
    clear f_d20 n_d20
    replace f_d1 := k _ _ n_d1 f_d1
    replace f_d2 := k _ _ n_d2 f_d2
    replace f_d3 := k _ _ n_d3 f_d3
    replace f_d4 := k _ _ n_d4 f_d4
    replace f_d5 := k _ _ n_d5 f_d5
    replace f_d6 := k _ _ n_d6 f_d6
    replace f_d7 := k _ _ n_d7 f_d7
    replace f_d8 := k _ _ n_d8 f_d8
    replace f_d9 := k _ _ n_d9 f_d9
    replace f_d10 := k _ _ n_d10 f_d10
    replace f_d11 := k _ _ n_d11 f_d11
    replace f_d13 := k _ _ n_d13 f_d13
    replace f_d15 := k _ _ n_d15 f_d15
    replace f_d16 := k _ _ n_d16 f_d16
    replace f_d17 := k _ _ n_d17 f_d17
    replace f_d18 := k _ _ n_d18 f_d18
    replace f_d19 := k _ _ n_d19 f_d19
    replace hb := BalAt.keepT (hb.same sA) (hT.same sA).ht k
    replace hTb := tabs_keep (tabs_same hTb sA) (hT.same sA).ht k
    replace hT := T1
    clear sA k T1
    have sA : Same P3 P3 := Same.refl _
    dsimp only [tNext, tSeq, tAsg, gName]
    refine ⟨_, rfl, ⟨by rw [sizeLine_eq]; show 0 ≤ 16777216; decide, fun d21 nd_d21 => ?_⟩⟩
    have q : Same P3 (upd P3 d21 (.lst [])) := same_upd nd_d21
    have f_d21 : (upd P3 d21 (.lst [])) d21 = some (.lst []) := upd_same
    have n_d21 : d21 ≠ t := fun z => by rw [z, (hT.same sA).ht] at nd_d21; cases nd_d21
    generalize upd P3 d21 (.lst []) = G21 at q f_d21 ⊢
    replace sA := sA.trans q
    replace f_d1 := q _ _ f_d1
    replace f_d2 := q _ _ f_d2
    replace f_d3 := q _ _ f_d3
    replace f_d4 := q _ _ f_d4
    replace f_d5 := q _ _ f_d5
    replace f_d6 := q _ _ f_d6
    replace f_d7 := q _ _ f_d7
    replace f_d8 := q _ _ f_d8
    replace f_d9 := q _ _ f_d9
    replace f_d10 := q _ _ f_d10
    replace f_d11 := q _ _ f_d11
    replace f_d13 := q _ _ f_d13
    replace f_d15 := q _ _ f_d15
    replace f_d16 := q _ _ f_d16
    replace f_d17 := q _ _ f_d17
    replace f_d18 := q _ _ f_d18
    replace f_d19 := q _ _ f_d19
    clear q nd_d21
    refine fun d22 nd_d22 => ⟨upd_same, [(.inr (Str.ofString "a"), (V.str (Str.ofString "B")))], rfl, by decide, ?_⟩
    have q : Same G21 (upd (upd G21 d22 (.dK [])) d22 (.dK (mergeK [] [(.inr (Str.ofString "a"), (V.str (Str.ofString "B")))]))) := sdisp nd_d22
    have f_d22 : (upd (upd G21 d22 (.dK [])) d22 (.dK (mergeK [] [(.inr (Str.ofString "a"), (V.str (Str.ofString "B")))]))) d22 = some (.dK [(.inr (Str.ofString "a"), (V.str (Str.ofString "B")))]) := upd_same
    have n_d22 : d22 ≠ t := fun z => by rw [z, (hT.same sA).ht] at nd_d22; cases nd_d22
    generalize upd (upd G21 d22 (.dK [])) d22 (.dK (mergeK [] [(.inr (Str.ofString "a"), (V.str (Str.ofString "B")))])) = G22 at q f_d22 ⊢
    replace sA := sA.trans q
    replace f_d1 := q _ _ f_d1
    replace f_d2 := q _ _ f_d2
    replace f_d3 := q _ _ f_d3
    replace f_d4 := q _ _ f_d4
    replace f_d5 := q _ _ f_d5
    replace f_d6 := q _ _ f_d6
    replace f_d7 := q _ _ f_d7
    replace f_d8 := q _ _ f_d8
    replace f_d9 := q _ _ f_d9
    replace f_d10 := q _ _ f_d10
    replace f_d11 := q _ _ f_d11
    replace f_d13 := q _ _ f_d13
    replace f_d15 := q _ _ f_d15
    replace f_d16 := q _ _ f_d16
    replace f_d17 := q _ _ f_d17
    replace f_d18 := q _ _ f_d18
    replace f_d19 := q _ _ f_d19
    replace f_d21 := q _ _ f_d21
    clear q nd_d22
    refine fun d23 nd_d23 => ⟨upd_same, [(.inr (Str.ofString "a"), .int 5)], rfl, by decide, ?_⟩
    have q : Same G22 (upd (upd G22 d23 (.dK [])) d23 (.dK (mergeK [] [(.inr (Str.ofString "a"), .int 5)]))) := sdisp nd_d23
    have f_d23 : (upd (upd G22 d23 (.dK [])) d23 (.dK (mergeK [] [(.inr (Str.ofString "a"), .int 5)]))) d23 = some (.dK [(.inr (Str.ofString "a"), .int 5)]) := upd_same
    have n_d23 : d23 ≠ t := fun z => by rw [z, (hT.same sA).ht] at nd_d23; cases nd_d23
    generalize upd (upd G22 d23 (.dK [])) d23 (.dK (mergeK [] [(.inr (Str.ofString "a"), .int 5)])) = G23 at q f_d23 ⊢
    replace sA := sA.trans q
    replace f_d1 := q _ _ f_d1
    replace f_d2 := q _ _ f_d2
    replace f_d3 := q _ _ f_d3
    replace f_d4 := q _ _ f_d4
    replace f_d5 := q _ _ f_d5
    replace f_d6 := q _ _ f_d6
    replace f_d7 := q _ _ f_d7
    replace f_d8 := q _ _ f_d8
    replace f_d9 := q _ _ f_d9
    replace f_d10 := q _ _ f_d10
    replace f_d11 := q _ _ f_d11
    replace f_d13 := q _ _ f_d13
    replace f_d15 := q _ _ f_d15
    replace f_d16 := q _ _ f_d16
    replace f_d17 := q _ _ f_d17
    replace f_d18 := q _ _ f_d18
    replace f_d19 := q _ _ f_d19
    replace f_d21 := q _ _ f_d21
    replace f_d22 := q _ _ f_d22
    clear q nd_d23
    refine fun d24 nd_d24 => ⟨upd_same, [(.inl 5, (V.str (Str.ofString "a")))], rfl, by decide, ?_⟩
    have q : Same G23 (upd (upd G23 d24 (.dK [])) d24 (.dK (mergeK [] [(.inl 5, (V.str (Str.ofString "a")))]))) := sdisp nd_d24
    have f_d24 : (upd (upd G23 d24 (.dK [])) d24 (.dK (mergeK [] [(.inl 5, (V.str (Str.ofString "a")))]))) d24 = some (.dK [(.inl 5, (V.str (Str.ofString "a")))]) := upd_same
    have n_d24 : d24 ≠ t := fun z => by rw [z, (hT.same sA).ht] at nd_d24; cases nd_d24
    generalize upd (upd G23 d24 (.dK [])) d24 (.dK (mergeK [] [(.inl 5, (V.str (Str.ofString "a")))])) = G24 at q f_d24 ⊢
    replace sA := sA.trans q
    replace f_d1 := q _ _ f_d1
    replace f_d2 := q _ _ f_d2
    replace f_d3 := q _ _ f_d3
    replace f_d4 := q _ _ f_d4
    replace f_d5 := q _ _ f_d5
    replace f_d6 := q _ _ f_d6
    replace f_d7 := q _ _ f_d7
    replace f_d8 := q _ _ f_d8
    replace f_d9 := q _ _ f_d9
    replace f_d10 := q _ _ f_d10
    replace f_d11 := q _ _ f_d11
    replace f_d13 := q _ _ f_d13
    replace f_d15 := q _ _ f_d15
    replace f_d16 := q _ _ f_d16
    replace f_d17 := q _ _ f_d17
    replace f_d18 := q _ _ f_d18
    replace f_d19 := q _ _ f_d19
    replace f_d21 := q _ _ f_d21
    replace f_d22 := q _ _ f_d22
    replace f_d23 := q _ _ f_d23
    clear q nd_d24
    refine fun d25 nd_d25 => ⟨upd_same, [(.inr (Str.ofString "a"), (V.str (Str.ofString "b"))), (.inr (Str.ofString "c"), .non)], rfl, by decide, ?_⟩
    have q : Same G24 (upd (upd G24 d25 (.dK [])) d25 (.dK (mergeK [] [(.inr (Str.ofString "a"), (V.str (Str.ofString "b"))), (.inr (Str.ofString "c"), .non)]))) := sdisp nd_d25
    have f_d25 : (upd (upd G24 d25 (.dK [])) d25 (.dK (mergeK [] [(.inr (Str.ofString "a"), (V.str (Str.ofString "b"))), (.inr (Str.ofString "c"), .non)]))) d25 = some (.dK [(.inr (Str.ofString "a"), (V.str (Str.ofString "b"))), (.inr (Str.ofString "c"), .non)]) := upd_same
    have n_d25 : d25 ≠ t := fun z => by rw [z, (hT.same sA).ht] at nd_d25; cases nd_d25
    generalize upd (upd G24 d25 (.dK [])) d25 (.dK (mergeK [] [(.inr (Str.ofString "a"), (V.str (Str.ofString "b"))), (.inr (Str.ofString "c"), .non)])) = G25 at q f_d25 ⊢
    replace sA := sA.trans q
    replace f_d1 := q _ _ f_d1
    replace f_d2 := q _ _ f_d2
    replace f_d3 := q _ _ f_d3
    replace f_d4 := q _ _ f_d4
    replace f_d5 := q _ _ f_d5
    replace f_d6 := q _ _ f_d6
    replace f_d7 := q _ _ f_d7
    replace f_d8 := q _ _ f_d8
    replace f_d9 := q _ _ f_d9
    replace f_d10 := q _ _ f_d10
    replace f_d11 := q _ _ f_d11
    replace f_d13 := q _ _ f_d13
    replace f_d15 := q _ _ f_d15
    replace f_d16 := q _ _ f_d16
    replace f_d17 := q _ _ f_d17
    replace f_d18 := q _ _ f_d18
    replace f_d19 := q _ _ f_d19
    replace f_d21 := q _ _ f_d21
    replace f_d22 := q _ _ f_d22
    replace f_d23 := q _ _ f_d23
    replace f_d24 := q _ _ f_d24
    clear q nd_d25
    refine ⟨by rw [sizeLine_eq]; show 2 ≤ 16777216; decide, fun d26 nd_d26 => ?_⟩
    have q : Same G25 (upd G25 d26 (.tup [(V.str (Str.ofString "a")), (V.str (Str.ofString "b"))])) := same_upd nd_d26
    have f_d26 : (upd G25 d26 (.tup [(V.str (Str.ofString "a")), (V.str (Str.ofString "b"))])) d26 = some (.tup [(V.str (Str.ofString "a")), (V.str (Str.ofString "b"))]) := upd_same
    have n_d26 : d26 ≠ t := fun z => by rw [z, (hT.same sA).ht] at nd_d26; cases nd_d26
    generalize upd G25 d26 (.tup [(V.str (Str.ofString "a")), (V.str (Str.ofString "b"))]) = G26 at q f_d26 ⊢
    replace sA := sA.trans q
    replace f_d1 := q _ _ f_d1
    replace f_d2 := q _ _ f_d2
    replace f_d3 := q _ _ f_d3
    replace f_d4 := q _ _ f_d4
    replace f_d5 := q _ _ f_d5
    replace f_d6 := q _ _ f_d6
    replace f_d7 := q _ _ f_d7
    replace f_d8 := q _ _ f_d8
    replace f_d9 := q _ _ f_d9
    replace f_d10 := q _ _ f_d10
    replace f_d11 := q _ _ f_d11
    replace f_d13 := q _ _ f_d13
    replace f_d15 := q _ _ f_d15
    replace f_d16 := q _ _ f_d16
    replace f_d17 := q _ _ f_d17
    replace f_d18 := q _ _ f_d18
    replace f_d19 := q _ _ f_d19
    replace f_d21 := q _ _ f_d21
    replace f_d22 := q _ _ f_d22
    replace f_d23 := q _ _ f_d23
    replace f_d24 := q _ _ f_d24
    replace f_d25 := q _ _ f_d25
    clear q nd_d26
    refine nilI (⟨by rw [sizeLine_eq]; show 8 ≤ 16777216; decide, fun d27 nd_d27 => ?_⟩)
    have q : Same G26 (upd G26 d27 (.lst [.non, .ref d21, .ref d22, .ref d23, .ref d24, (V.str (Str.ofString "ab")), .ref d25, .ref d26])) := same_upd nd_d27
    have f_d27 : (upd G26 d27 (.lst [.non, .ref d21, .ref d22, .ref d23, .ref d24, (V.str (Str.ofString "ab")), .ref d25, .ref d26])) d27 = some (.lst [.non, .ref d21, .ref d22, .ref d23, .ref d24, (V.str (Str.ofString "ab")), .ref d25, .ref d26]) := upd_same
    have n_d27 : d27 ≠ t := fun z => by rw [z, (hT.same sA).ht] at nd_d27; cases nd_d27
    generalize upd G26 d27 (.lst [.non, .ref d21, .ref d22, .ref d23, .ref d24, (V.str (Str.ofString "ab")), .ref d25, .ref d26]) = G27 at q f_d27 ⊢
    replace sA := sA.trans q
    replace f_d1 := q _ _ f_d1
    replace f_d2 := q _ _ f_d2
    replace f_d3 := q _ _ f_d3
    replace f_d4 := q _ _ f_d4
    replace f_d5 := q _ _ f_d5
    replace f_d6 := q _ _ f_d6
    replace f_d7 := q _ _ f_d7
    replace f_d8 := q _ _ f_d8
    replace f_d9 := q _ _ f_d9
    replace f_d10 := q _ _ f_d10
    replace f_d11 := q _ _ f_d11
    replace f_d13 := q _ _ f_d13
    replace f_d15 := q _ _ f_d15
    replace f_d16 := q _ _ f_d16
    replace f_d17 := q _ _ f_d17
    replace f_d18 := q _ _ f_d18
    replace f_d19 := q _ _ f_d19
    replace f_d21 := q _ _ f_d21
    replace f_d22 := q _ _ f_d22
    replace f_d23 := q _ _ f_d23
    replace f_d24 := q _ _ f_d24
    replace f_d25 := q _ _ f_d25
    replace f_d26 := q _ _ f_d26
    clear q nd_d27
    refine nilI ⟨t, cs, d27, cells, i3, g3, _, rfl, hT.same sA, i30, by omega, g30, n_d27, f_d27, by show 0 < 8; decide, by show 8 ≤ 10000; decide, fun x4 i4 g4 P4 hx4 i40 i41 g40 k T1 => ?_⟩
    clear f_d27 n_d27
    replace f_d1 := k _ _ n_d1 f_d1
    replace f_d2 := k _ _ n_d2 f_d2
    replace f_d3 := k _ _ n_d3 f_d3
    replace f_d4 := k _ _ n_d4 f_d4
    replace f_d5 := k _ _ n_d5 f_d5
    replace f_d6 := k _ _ n_d6 f_d6
    replace f_d7 := k _ _ n_d7 f_d7
    replace f_d8 := k _ _ n_d8 f_d8
    replace f_d9 := k _ _ n_d9 f_d9
    replace f_d10 := k _ _ n_d10 f_d10
    replace f_d11 := k _ _ n_d11 f_d11
    replace f_d13 := k _ _ n_d13 f_d13
    replace f_d15 := k _ _ n_d15 f_d15
    replace f_d16 := k _ _ n_d16 f_d16
    replace f_d17 := k _ _ n_d17 f_d17
    replace f_d18 := k _ _ n_d18 f_d18
    replace f_d19 := k _ _ n_d19 f_d19
    replace f_d21 := k _ _ n_d21 f_d21
    replace f_d22 := k _ _ n_d22 f_d22
    replace f_d23 := k _ _ n_d23 f_d23
    replace f_d24 := k _ _ n_d24 f_d24
    replace f_d25 := k _ _ n_d25 f_d25
    replace f_d26 := k _ _ n_d26 f_d26
    replace hb := BalAt.keepT (hb.same sA) (hT.same sA).ht k
    replace hTb := tabs_keep (tabs_same hTb sA) (hT.same sA).ht k
    replace hT := T1
    clear sA k T1
    have sA : Same P4 P4 := Same.refl _
    dsimp only [tNext, tSeq, tAsg, gName]
    have nsA : NsOk [Str.ofString "a"] := ⟨by decide, by decide, fun n mn => by
      rw [List.mem_singleton] at mn
      subst mn
      exact ⟨by decide, by decide +kernel⟩⟩
    refine ⟨_, rfl, fun d28 nd_d28 => ⟨upd_same, [(.inr (Str.ofString "a"), .int 1)], rfl, by decide, ?_⟩⟩
    have q : Same P4 (upd (upd P4 d28 (.dK [])) d28 (.dK (mergeK [] [(.inr (Str.ofString "a"), .int 1)]))) := sdisp nd_d28
    have f_d28 : (upd (upd P4 d28 (.dK [])) d28 (.dK (mergeK [] [(.inr (Str.ofString "a"), .int 1)]))) d28 = some (.dK [(.inr (Str.ofString "a"), .int 1)]) := upd_same
    have n_d28 : d28 ≠ t := fun z => by rw [z, (hT.same sA).ht] at nd_d28; cases nd_d28
    generalize upd (upd P4 d28 (.dK [])) d28 (.dK (mergeK [] [(.inr (Str.ofString "a"), .int 1)])) = G28 at q f_d28 ⊢
    replace sA := sA.trans q
    replace f_d1 := q _ _ f_d1
    replace f_d2 := q _ _ f_d2
    replace f_d3 := q _ _ f_d3
    replace f_d4 := q _ _ f_d4
    replace f_d5 := q _ _ f_d5
    replace f_d6 := q _ _ f_d6
    replace f_d7 := q _ _ f_d7
    replace f_d8 := q _ _ f_d8
    replace f_d9 := q _ _ f_d9
    replace f_d10 := q _ _ f_d10
    replace f_d11 := q _ _ f_d11
    replace f_d13 := q _ _ f_d13
    replace f_d15 := q _ _ f_d15
    replace f_d16 := q _ _ f_d16
    replace f_d17 := q _ _ f_d17
    replace f_d18 := q _ _ f_d18
    replace f_d19 := q _ _ f_d19
    replace f_d21 := q _ _ f_d21
    replace f_d22 := q _ _ f_d22
    replace f_d23 := q _ _ f_d23
    replace f_d24 := q _ _ f_d24
    replace f_d25 := q _ _ f_d25
    replace f_d26 := q _ _ f_d26
    clear q nd_d28
    refine ⟨_, rfl, .inl ⟨1, 1, rfl, rfl, by decide, by decide, by decide, fun rr PR sR hR => ?_⟩⟩
    replace sA := sA.trans sR
    replace f_d1 := sR _ _ f_d1
    replace f_d2 := sR _ _ f_d2
    replace f_d3 := sR _ _ f_d3
    replace f_d4 := sR _ _ f_d4
    replace f_d5 := sR _ _ f_d5
    replace f_d6 := sR _ _ f_d6
    replace f_d7 := sR _ _ f_d7
    replace f_d8 := sR _ _ f_d8
    replace f_d9 := sR _ _ f_d9
    replace f_d10 := sR _ _ f_d10
    replace f_d11 := sR _ _ f_d11
    replace f_d13 := sR _ _ f_d13
    replace f_d15 := sR _ _ f_d15
    replace f_d16 := sR _ _ f_d16
    replace f_d17 := sR _ _ f_d17
    replace f_d18 := sR _ _ f_d18
    replace f_d19 := sR _ _ f_d19
    replace f_d21 := sR _ _ f_d21
    replace f_d22 := sR _ _ f_d22
    replace f_d23 := sR _ _ f_d23
    replace f_d24 := sR _ _ f_d24
    replace f_d25 := sR _ _ f_d25
    replace f_d26 := sR _ _ f_d26
    replace f_d28 := sR _ _ f_d28
    obtain ⟨x_rr, y_rr, f_rr⟩ := hR.ins
    have n_rr : rr ≠ t := fun z => by rw [z, (hT.same sA).ht] at f_rr; cases f_rr
    clear sR
    refine fun d29 nd_d29 => ⟨upd_same, [(.inr (Str.ofString "a"), .int 1)], rfl, by decide, ?_⟩
    have q : Same PR (upd (upd PR d29 (.dK [])) d29 (.dK (mergeK [] [(.inr (Str.ofString "a"), .int 1)]))) := sdisp nd_d29
    have f_d29 : (upd (upd PR d29 (.dK [])) d29 (.dK (mergeK [] [(.inr (Str.ofString "a"), .int 1)]))) d29 = some (.dK [(.inr (Str.ofString "a"), .int 1)]) := upd_same
    have n_d29 : d29 ≠ t := fun z => by rw [z, (hT.same sA).ht] at nd_d29; cases nd_d29
    generalize upd (upd PR d29 (.dK [])) d29 (.dK (mergeK [] [(.inr (Str.ofString "a"), .int 1)])) = G29 at q f_d29 ⊢
    replace sA := sA.trans q
    replace f_d1 := q _ _ f_d1
    replace f_d2 := q _ _ f_d2
    replace f_d3 := q _ _ f_d3
    replace f_d4 := q _ _ f_d4
    replace f_d5 := q _ _ f_d5
    replace f_d6 := q _ _ f_d6
    replace f_d7 := q _ _ f_d7
    replace f_d8 := q _ _ f_d8
    replace f_d9 := q _ _ f_d9
    replace f_d10 := q _ _ f_d10
    replace f_d11 := q _ _ f_d11
    replace f_d13 := q _ _ f_d13
    replace f_d15 := q _ _ f_d15
    replace f_d16 := q _ _ f_d16
    replace f_d17 := q _ _ f_d17
    replace f_d18 := q _ _ f_d18
    replace f_d19 := q _ _ f_d19
    replace f_d21 := q _ _ f_d21
    replace f_d22 := q _ _ f_d22
    replace f_d23 := q _ _ f_d23
    replace f_d24 := q _ _ f_d24
    replace f_d25 := q _ _ f_d25
    replace f_d26 := q _ _ f_d26
    replace f_d28 := q _ _ f_d28
    replace f_rr := q _ _ f_rr
    clear q nd_d29
    refine nilI ⟨_, rfl, d29, _, [Str.ofString "a"], fun _ => (1, 1), rfl, f_d29, .cons ⟨rfl, .inr ⟨rfl, rfl, Nat.lt_of_lt_of_le (show (1 : Int).natAbs < 2 ^ 1 by decide) (Nat.pow_le_pow_right (by decide) (by decide))⟩⟩ .nil, nsA, fun ya pya sya sc PS sS nsc hS => ?_⟩
    replace sA := sA.trans sS
    replace f_d1 := sS _ _ f_d1
    replace f_d2 := sS _ _ f_d2
    replace f_d3 := sS _ _ f_d3
    replace f_d4 := sS _ _ f_d4
    replace f_d5 := sS _ _ f_d5
    replace f_d6 := sS _ _ f_d6
    replace f_d7 := sS _ _ f_d7
    replace f_d8 := sS _ _ f_d8
    replace f_d9 := sS _ _ f_d9
    replace f_d10 := sS _ _ f_d10
    replace f_d11 := sS _ _ f_d11
    replace f_d13 := sS _ _ f_d13
    replace f_d15 := sS _ _ f_d15
    replace f_d16 := sS _ _ f_d16
    replace f_d17 := sS _ _ f_d17
    replace f_d18 := sS _ _ f_d18
    replace f_d19 := sS _ _ f_d19
    replace f_d21 := sS _ _ f_d21
    replace f_d22 := sS _ _ f_d22
    replace f_d23 := sS _ _ f_d23
    replace f_d24 := sS _ _ f_d24
    replace f_d25 := sS _ _ f_d25
    replace f_d26 := sS _ _ f_d26
    replace f_d28 := sS _ _ f_d28
    replace f_rr := sS _ _ f_rr
    replace f_d29 := sS _ _ f_d29
    obtain ⟨x_sc, y_sc, f_sc⟩ := hS.ins
    have n_sc : sc ≠ t := fun z => by rw [z, (hT.same sA).ht] at f_sc; cases f_sc
    clear sS
    refine nilI (⟨by rw [sizeLine_eq]; show 6 ≤ 16777216; decide, fun d30 nd_d30 => ?_⟩)
    have q : Same PS (upd PS d30 (.lst [.non, .int 5, (V.str (Str.ofString "a")), .ref d28, .ref rr, .ref sc])) := same_upd nd_d30
    have f_d30 : (upd PS d30 (.lst [.non, .int 5, (V.str (Str.ofString "a")), .ref d28, .ref rr, .ref sc])) d30 = some (.lst [.non, .int 5, (V.str (Str.ofString "a")), .ref d28, .ref rr, .ref sc]) := upd_same
    have n_d30 : d30 ≠ t := fun z => by rw [z, (hT.same sA).ht] at nd_d30; cases nd_d30
    generalize upd PS d30 (.lst [.non, .int 5, (V.str (Str.ofString "a")), .ref d28, .ref rr, .ref sc]) = G30 at q f_d30 ⊢
    replace sA := sA.trans q
    replace f_d1 := q _ _ f_d1
    replace f_d2 := q _ _ f_d2
    replace f_d3 := q _ _ f_d3
    replace f_d4 := q _ _ f_d4
    replace f_d5 := q _ _ f_d5
    replace f_d6 := q _ _ f_d6
    replace f_d7 := q _ _ f_d7
    replace f_d8 := q _ _ f_d8
    replace f_d9 := q _ _ f_d9
    replace f_d10 := q _ _ f_d10
    replace f_d11 := q _ _ f_d11
    replace f_d13 := q _ _ f_d13
    replace f_d15 := q _ _ f_d15
    replace f_d16 := q _ _ f_d16
    replace f_d17 := q _ _ f_d17
    replace f_d18 := q _ _ f_d18
    replace f_d19 := q _ _ f_d19
    replace f_d21 := q _ _ f_d21
    replace f_d22 := q _ _ f_d22
    replace f_d23 := q _ _ f_d23
    replace f_d24 := q _ _ f_d24
    replace f_d25 := q _ _ f_d25
    replace f_d26 := q _ _ f_d26
    replace f_d28 := q _ _ f_d28
    replace f_rr := q _ _ f_rr
    replace f_d29 := q _ _ f_d29
    replace f_sc := q _ _ f_sc
    clear q nd_d30
    refine nilI ⟨t, cs, d30, cells, i4, g4, _, rfl, hT.same sA, i40, by omega, g40, n_d30, f_d30, by show 0 < 6; decide, by show 6 ≤ 10000; decide, fun x5 i5 g5 P5 hx5 i50 i51 g50 k T1 => ?_⟩
    clear f_d30 n_d30
    replace f_d1 := k _ _ n_d1 f_d1
    replace f_d2 := k _ _ n_d2 f_d2
    replace f_d3 := k _ _ n_d3 f_d3
    replace f_d4 := k _ _ n_d4 f_d4
    replace f_d5 := k _ _ n_d5 f_d5
    replace f_d6 := k _ _ n_d6 f_d6
    replace f_d7 := k _ _ n_d7 f_d7
    replace f_d8 := k _ _ n_d8 f_d8
    replace f_d9 := k _ _ n_d9 f_d9
    replace f_d10 := k _ _ n_d10 f_d10
    replace f_d11 := k _ _ n_d11 f_d11
    replace f_d13 := k _ _ n_d13 f_d13
    replace f_d15 := k _ _ n_d15 f_d15
    replace f_d16 := k _ _ n_d16 f_d16
    replace f_d17 := k _ _ n_d17 f_d17
    replace f_d18 := k _ _ n_d18 f_d18
    replace f_d19 := k _ _ n_d19 f_d19
    replace f_d21 := k _ _ n_d21 f_d21
    replace f_d22 := k _ _ n_d22 f_d22
    replace f_d23 := k _ _ n_d23 f_d23
    replace f_d24 := k _ _ n_d24 f_d24
    replace f_d25 := k _ _ n_d25 f_d25
    replace f_d26 := k _ _ n_d26 f_d26
    replace f_d28 := k _ _ n_d28 f_d28
    replace f_rr := k _ _ n_rr f_rr
    replace f_d29 := k _ _ n_d29 f_d29
    replace f_sc := k _ _ n_sc f_sc
    replace hb := BalAt.keepT (hb.same sA) (hT.same sA).ht k
    replace hTb := tabs_keep (tabs_same hTb sA) (hT.same sA).ht k
    replace hT := T1
    clear sA k T1
    have sA : Same P5 P5 := Same.refl _
    dsimp only [tNext, tSeq, tAsg, gName]
    refine ⟨_, rfl, _, rfl, ⟨by rw [sizeLine_eq]; show 1 ≤ 16777216; decide, fun d31 nd_d31 => ?_⟩⟩
    have q : Same P5 (upd P5 d31 (.lst [.int 1])) := same_upd nd_d31
    have f_d31 : (upd P5 d31 (.lst [.int 1])) d31 = some (.lst [.int 1]) := upd_same
    have n_d31 : d31 ≠ t := fun z => by rw [z, (hT.same sA).ht] at nd_d31; cases nd_d31
    generalize upd P5 d31 (.lst [.int 1]) = G31 at q f_d31 ⊢
    replace sA := sA.trans q
    replace f_d1 := q _ _ f_d1
    replace f_d2 := q _ _ f_d2
    replace f_d3 := q _ _ f_d3
    replace f_d4 := q _ _ f_d4
    replace f_d5 := q _ _ f_d5
    replace f_d6 := q _ _ f_d6
    replace f_d7 := q _ _ f_d7
    replace f_d8 := q _ _ f_d8
    replace f_d9 := q _ _ f_d9
    replace f_d10 := q _ _ f_d10
    replace f_d11 := q _ _ f_d11
    replace f_d13 := q _ _ f_d13
    replace f_d15 := q _ _ f_d15
    replace f_d16 := q _ _ f_d16
    replace f_d17 := q _ _ f_d17
    replace f_d18 := q _ _ f_d18
    replace f_d19 := q _ _ f_d19
    replace f_d21 := q _ _ f_d21
    replace f_d22 := q _ _ f_d22
    replace f_d23 := q _ _ f_d23
    replace f_d24 := q _ _ f_d24
    replace f_d25 := q _ _ f_d25
    replace f_d26 := q _ _ f_d26
    replace f_d28 := q _ _ f_d28
    replace f_rr := q _ _ f_rr
    replace f_d29 := q _ _ f_d29
    replace f_sc := q _ _ f_sc
    clear q nd_d31
    refine ⟨by rw [sizeLine_eq]; show 2 ≤ 16777216; decide, fun d32 nd_d32 => ?_⟩
    have q : Same G31 (upd G31 d32 (.tup [.int 1, .int 2])) := same_upd nd_d32
    have f_d32 : (upd G31 d32 (.tup [.int 1, .int 2])) d32 = some (.tup [.int 1, .int 2]) := upd_same
    have n_d32 : d32 ≠ t := fun z => by rw [z, (hT.same sA).ht] at nd_d32; cases nd_d32
    generalize upd G31 d32 (.tup [.int 1, .int 2]) = G32 at q f_d32 ⊢
    replace sA := sA.trans q
    replace f_d1 := q _ _ f_d1
    replace f_d2 := q _ _ f_d2
    replace f_d3 := q _ _ f_d3
    replace f_d4 := q _ _ f_d4
    replace f_d5 := q _ _ f_d5
    replace f_d6 := q _ _ f_d6
    replace f_d7 := q _ _ f_d7
    replace f_d8 := q _ _ f_d8
    replace f_d9 := q _ _ f_d9
    replace f_d10 := q _ _ f_d10
    replace f_d11 := q _ _ f_d11
    replace f_d13 := q _ _ f_d13
    replace f_d15 := q _ _ f_d15
    replace f_d16 := q _ _ f_d16
    replace f_d17 := q _ _ f_d17
    replace f_d18 := q _ _ f_d18
    replace f_d19 := q _ _ f_d19
    replace f_d21 := q _ _ f_d21
    replace f_d22 := q _ _ f_d22
    replace f_d23 := q _ _ f_d23
    replace f_d24 := q _ _ f_d24
    replace f_d25 := q _ _ f_d25
    replace f_d26 := q _ _ f_d26
    replace f_d28 := q _ _ f_d28
    replace f_rr := q _ _ f_rr
    replace f_d29 := q _ _ f_d29
    replace f_sc := q _ _ f_sc
    replace f_d31 := q _ _ f_d31
    clear q nd_d32
    refine nilI (⟨by rw [sizeLine_eq]; show 6 ≤ 16777216; decide, fun d33 nd_d33 => ?_⟩)
    have q : Same G32 (upd G32 d33 (.lst [.non, (V.str (Str.ofString "2")), .bl true, .ref b, .ref d31, .ref d32])) := same_upd nd_d33
    have f_d33 : (upd G32 d33 (.lst [.non, (V.str (Str.ofString "2")), .bl true, .ref b, .ref d31, .ref d32])) d33 = some (.lst [.non, (V.str (Str.ofString "2")), .bl true, .ref b, .ref d31, .ref d32]) := upd_same
    have n_d33 : d33 ≠ t := fun z => by rw [z, (hT.same sA).ht] at nd_d33; cases nd_d33
    generalize upd G32 d33 (.lst [.non, (V.str (Str.ofString "2")), .bl true, .ref b, .ref d31, .ref d32]) = G33 at q f_d33 ⊢
    replace sA := sA.trans q
    replace f_d1 := q _ _ f_d1
    replace f_d2 := q _ _ f_d2
    replace f_d3 := q _ _ f_d3
    replace f_d4 := q _ _ f_d4
    replace f_d5 := q _ _ f_d5
    replace f_d6 := q _ _ f_d6
    replace f_d7 := q _ _ f_d7
    replace f_d8 := q _ _ f_d8
    replace f_d9 := q _ _ f_d9
    replace f_d10 := q _ _ f_d10
    replace f_d11 := q _ _ f_d11
    replace f_d13 := q _ _ f_d13
    replace f_d15 := q _ _ f_d15
    replace f_d16 := q _ _ f_d16
    replace f_d17 := q _ _ f_d17
    replace f_d18 := q _ _ f_d18
    replace f_d19 := q _ _ f_d19
    replace f_d21 := q _ _ f_d21
    replace f_d22 := q _ _ f_d22
    replace f_d23 := q _ _ f_d23
    replace f_d24 := q _ _ f_d24
    replace f_d25 := q _ _ f_d25
    replace f_d26 := q _ _ f_d26
    replace f_d28 := q _ _ f_d28
    replace f_rr := q _ _ f_rr
    replace f_d29 := q _ _ f_d29
    replace f_sc := q _ _ f_sc
    replace f_d31 := q _ _ f_d31
    replace f_d32 := q _ _ f_d32
    clear q nd_d33
    refine nilI ⟨t, cs, d33, cells, i5, g5, _, rfl, hT.same sA, i50, by omega, g50, n_d33, f_d33, by show 0 < 6; decide, by show 6 ≤ 10000; decide, fun x6 i6 g6 P6 hx6 i60 i61 g60 k T1 => ?_⟩
    clear f_d33 n_d33
    replace f_d1 := k _ _ n_d1 f_d1
    replace f_d2 := k _ _ n_d2 f_d2
    replace f_d3 := k _ _ n_d3 f_d3
    replace f_d4 := k _ _ n_d4 f_d4
    replace f_d5 := k _ _ n_d5 f_d5
    replace f_d6 := k _ _ n_d6 f_d6
    replace f_d7 := k _ _ n_d7 f_d7
    replace f_d8 := k _ _ n_d8 f_d8
    replace f_d9 := k _ _ n_d9 f_d9
    replace f_d10 := k _ _ n_d10 f_d10
    replace f_d11 := k _ _ n_d11 f_d11
    replace f_d13 := k _ _ n_d13 f_d13
    replace f_d15 := k _ _ n_d15 f_d15
    replace f_d16 := k _ _ n_d16 f_d16
    replace f_d17 := k _ _ n_d17 f_d17
    replace f_d18 := k _ _ n_d18 f_d18
    replace f_d19 := k _ _ n_d19 f_d19
    replace f_d21 := k _ _ n_d21 f_d21
    replace f_d22 := k _ _ n_d22 f_d22
    replace f_d23 := k _ _ n_d23 f_d23
    replace f_d24 := k _ _ n_d24 f_d24
    replace f_d25 := k _ _ n_d25 f_d25
    replace f_d26 := k _ _ n_d26 f_d26
    replace f_d28 := k _ _ n_d28 f_d28
    replace f_rr := k _ _ n_rr f_rr
    replace f_d29 := k _ _ n_d29 f_d29
    replace f_sc := k _ _ n_sc f_sc
    replace f_d31 := k _ _ n_d31 f_d31
    replace f_d32 := k _ _ n_d32 f_d32
    replace hb := BalAt.keepT (hb.same sA) (hT.same sA).ht k
    replace hTb := tabs_keep (tabs_same hTb sA) (hT.same sA).ht k
    replace hT := T1
    clear sA k T1
    have sA : Same P6 P6 := Same.refl _
    dsimp only [tNext, tSeq, tAsg, gName]
    have o1 : OddN K C P6 x1 := by
      simp only [List.mem_cons, List.not_mem_nil, or_false] at hx1
      rcases hx1 with rfl | rfl | rfl | rfl | rfl | rfl | rfl | rfl | rfl | rfl | rfl | rfl | rfl
      · exact .ty (.base .non) (kit_ty (r := false) (by decide +kernel))
      · exact .ty (.base (.int _)) (kit_ty (r := false) (by decide +kernel))
      · exact .ty (.base (.str _)) (kit_ty (r := false) (by decide +kernel))
      · exact .ty (.base (.lst f_d2)) (kit_ty (r := false) (by decide +kernel))
      · exact .keys (bs := [false]) f_d3 (by decide) rfl (names_of (.cons (nmS (Str.ofString "A") (by decide +kernel)) .nil)) rfl
      · exact .keys (bs := [false]) f_d4 (by decide) rfl (names_of (.cons (.inr ⟨_, .base (.int _), kit_ty (r := false) (by decide +kernel), rfl⟩) .nil)) rfl
      · exact .vals (rs := [false]) f_d5 (by decide) (fun kv m => by rw [List.mem_singleton] at m; subst m; exact ⟨Str.ofString "a", rfl, by decide +kernel, by decide +kernel⟩) rfl (rats_of (.cons (.inr ⟨_, .str _, rfl⟩) .nil)) rfl
      · exact .vals (rs := [false]) f_d6 (by decide) (fun kv m => by rw [List.mem_singleton] at m; subst m; exact ⟨Str.ofString "a", rfl, by decide +kernel, by decide +kernel⟩) rfl (rats_of (.cons (.inr ⟨_, .non, rfl⟩) .nil)) rfl
      · exact .vals (rs := [false]) f_d7 (by decide) (fun kv m => by rw [List.mem_singleton] at m; subst m; exact ⟨Str.ofString "a", rfl, by decide +kernel, by decide +kernel⟩) rfl (rats_of (.cons (.inr ⟨_, .bl _, rfl⟩) .nil)) rfl
      · exact .keys (bs := [false]) f_d8 (by decide) rfl (names_of (.cons (nmS (Str.ofString "") (by decide +kernel)) .nil)) rfl
      · exact .keys (bs := [true, false]) f_d9 (by decide) rfl (names_of (.cons (nmS (Str.ofString "a") (by decide +kernel)) (.cons (nmS (Str.ofString "abcdefghijklm") (by decide +kernel)) .nil))) rfl
      · exact .keys (bs := [false]) f_d10 (by decide) rfl (names_of (.cons (nmS (Str.ofString "7a") (by decide +kernel)) .nil)) rfl
      · exact .tkeys f_d11 (by decide) (by simp)
    clear hx1
    have o2 : NmIs K P6 x2 false := by
      simp only [List.mem_cons, List.not_mem_nil, or_false] at hx2
      rcases hx2 with rfl | rfl | rfl | rfl | rfl | rfl | rfl
      · exact (.inr ⟨_, .base .non, kit_ty (r := false) (by decide +kernel), rfl⟩)
      · exact (.inr ⟨_, .base (.int _), kit_ty (r := false) (by decide +kernel), rfl⟩)
      · exact nmS (Str.ofString "A") (by decide +kernel)
      · exact nmS (Str.ofString "") (by decide +kernel)
      · exact (.inr ⟨_, .base (.lst f_d13), kit_ty (r := false) (by decide +kernel), rfl⟩)
      · exact nmS (Str.ofString "a b") (by decide +kernel)
      · exact nmS (Str.ofString "a-b") (by decide +kernel)
    clear hx2
    have o3 : OddT K P6 x3 := by
      simp only [List.mem_cons, List.not_mem_nil, or_false] at hx3
      rcases hx3 with rfl | rfl | rfl | rfl | rfl | rfl | rfl | rfl
      · exact .ty (.base .non) (any_ty (x := false) (y := false) (kit_ty (r := false) (by decide +kernel)) (kit_ty (r := false) (by decide +kernel)))
      · exact .its (bs := []) (.inl f_d15) (by decide) rfl (names_of .nil) (.inr rfl)
      · exact .its (bs := []) (.inr f_d16) (by decide) rfl (names_of .nil) (.inr rfl)
      · exact .ty (.base (.str _)) (any_ty (x := false) (y := false) (kit_ty (r := false) (by decide +kernel)) (kit_ty (r := false) (by decide +kernel)))
      · exact .its (bs := [true, false]) (.inl f_d17) (by decide) rfl (names_of (.cons (nmS (Str.ofString "a") (by decide +kernel)) (.cons (.inr ⟨_, .base .non, kit_ty (r := false) (by decide +kernel), rfl⟩) .nil))) (.inl rfl)
      · exact .its (bs := [true, false]) (.inl f_d18) (by decide) rfl (names_of (.cons (nmS (Str.ofString "a") (by decide +kernel)) (.cons (nmS (Str.ofString "B") (by decide +kernel)) .nil))) (.inl rfl)
      · exact .ty (.base (.dK f_d19)) (any_ty (x := false) (y := false) (kit_ty (r := false) (by decide +kernel)) (kit_ty (r := false) (by decide +kernel)))
      · exact .ty (.base (.int _)) (any_ty (x := false) (y := false) (kit_ty (r := false) (by decide +kernel)) (kit_ty (r := false) (by decide +kernel)))
    clear hx3
    have o4 : OddM K P6 x4 := by
      simp only [List.mem_cons, List.not_mem_nil, or_false] at hx4
      rcases hx4 with rfl | rfl | rfl | rfl | rfl | rfl | rfl | rfl
      · exact .ty (.base .non) (kit_ty (r := false) (by decide +kernel))
      · exact .ty (.base (.lst f_d21)) (kit_ty (r := false) (by decide +kernel))
      · exact .vals (rs := [false]) f_d22 (by decide) (fun kv m => by rw [List.mem_singleton] at m; subst m; exact ⟨Str.ofString "a", rfl, by decide +kernel, by decide +kernel⟩) rfl (names_of (.cons (nmS (Str.ofString "B") (by decide +kernel)) .nil)) rfl
      · exact .vals (rs := [false]) f_d23 (by decide) (fun kv m => by rw [List.mem_singleton] at m; subst m; exact ⟨Str.ofString "a", rfl, by decide +kernel, by decide +kernel⟩) rfl (names_of (.cons (.inr ⟨_, .base (.int _), kit_ty (r := false) (by decide +kernel), rfl⟩) .nil)) rfl
      · exact .keys (bs := [false]) f_d24 (by decide) rfl (names_of (.cons (.inr ⟨_, .base (.int _), kit_ty (r := false) (by decide +kernel), rfl⟩) .nil)) rfl
      · exact .ty (.base (.str _)) (kit_ty (r := false) (by decide +kernel))
      · exact .vals (rs := [true, false]) f_d25 (by decide) (fun kv m => by simp only [List.mem_cons, List.not_mem_nil, or_false] at m; rcases m with rfl | rfl <;> exact ⟨_, rfl, by decide +kernel, by decide +kernel⟩) rfl (names_of (.cons (nmS (Str.ofString "b") (by decide +kernel)) (.cons (.inr ⟨_, .base .non, kit_ty (r := false) (by decide +kernel), rfl⟩) .nil))) rfl
      · exact .ty (.base (.tup f_d26)) (kit_ty (r := false) (by decide +kernel))
    clear hx4
    have hbI : InsAt P6 b CB := by
      obtain ⟨dx, nd, tp, kt, e, _⟩ := hb
      exact ⟨dx, _, e⟩
    have o5 : RtK CB C CS P6 x5 ∧ NoB K CB P6 x5 := by
      simp only [List.mem_cons, List.not_mem_nil, or_false] at hx5
      rcases hx5 with rfl | rfl | rfl | rfl | rfl | rfl
      · exact ⟨.odd _ .non, ⟨_, .base .non, Z.kT _ (by decide)⟩⟩
      · exact ⟨.int _, ⟨_, .base (.int _), Z.kT _ (by decide)⟩⟩
      · exact ⟨.odd _ (.str _), ⟨_, .base (.str _), Z.kT _ (by decide)⟩⟩
      · exact ⟨.odd _ (.dK f_d28), ⟨_, .base (.dK f_d28), Z.kT _ (by decide)⟩⟩
      · exact ⟨.rat ⟨_, _, f_rr⟩, ⟨_, Z.yR _ _ ⟨_, _, f_rr⟩, Z.kR⟩⟩
      · exact ⟨.sca ⟨_, _, f_sc⟩, ⟨_, Z.yS _ _ ⟨_, _, f_sc⟩, Z.kS⟩⟩
    clear hx5
    have o6 : RtK CB C CS P6 x6 ∧ NotNum K P6 C x6 := by
      simp only [List.mem_cons, List.not_mem_nil, or_false] at hx6
      rcases hx6 with rfl | rfl | rfl | rfl | rfl | rfl
      · exact ⟨.odd _ (.non), OddAt.notNum (.non) Z.odd⟩
      · exact ⟨.odd _ (.str _), OddAt.notNum (.str _) Z.odd⟩
      · exact ⟨.odd _ (.bl _), OddAt.notNum (.bl _) Z.odd⟩
      · exact ⟨.same hbI, ⟨⟨_, Z.yB _ _ hbI, Z.kB⟩, ⟨_, false, false, Z.yB _ _ hbI, Z.kBi, Z.kBb, rfl⟩⟩⟩
      · exact ⟨.odd _ (.lst f_d31), OddAt.notNum (.lst f_d31) Z.odd⟩
      · exact ⟨.odd _ (.tup f_d32), OddAt.notNum (.tup f_d32) Z.odd⟩
    clear hx6
    have rtx : ∀ {H1 H2 : Hp} {x : V}, RtK CB C CS H1 x → ExtN H1 H2 → RtK CB C CS H2 x := fun h s => by
      cases h with
      | odd T h => exact .odd T (h.extN s)
      | int i => exact .int i
      | same h => obtain ⟨dx, fs, e⟩ := h; exact .same ⟨dx, fs, s _ _ e fun _ z => by cases z⟩
      | rat h => obtain ⟨dx, fs, e⟩ := h; exact .rat ⟨dx, fs, s _ _ e fun _ z => by cases z⟩
      | sca h => obtain ⟨dx, fs, e⟩ := h; exact .sca ⟨dx, fs, s _ _ e fun _ z => by cases z⟩
    have bI : ∀ {H2 : Hp}, ExtN P6 H2 → InsAt H2 b CB := fun s => let ⟨dx, fs, e⟩ := hbI; ⟨dx, fs, s _ _ e fun _ z => by cases z⟩
    obtain ⟨o5a, o5b⟩ := o5
    obtain ⟨o6a, o6b⟩ := o6
    have look : ∀ {ds : List (Str × Str)} {L : Addr} {H : Hp}, HeardL T P6 L ds H → ∃ vs, H L = some (.lst vs) := fun h => let ⟨_, _, _, vs, e, _⟩ := h; ⟨vs, e⟩
    refine heard_first (d := "numbers") Z.H.e1 hTb (fun H1 E Q' e rz => ?_) fun L H16 h16 => ?_
    · exact ⟨_, rfl, _, rfl, o1.extN e, rz⟩
    obtain ⟨v6, e6⟩ := look h16
    refine ⟨_, rfl, .inl ⟨rfl, _, SqL.of e6⟩, heard_app (d := "things") Z.H.e1 h16 (by decide) (fun H1 E Q' e rz => ?_) fun H17 h17 => ?_⟩
    · refine ⟨rfl, _, rfl, nilI ⟨by show 2 ≤ 1000; decide, fun tp nt => ⟨tp, _, rfl, upd_same, .inr ⟨[true, false], by show 2 ≤ 1000; decide, rfl, names_of (.cons (nmS (Str.ofString "a") (by decide +kernel)) (.cons (o2.extN (e.trans (extN_same (same_upd nt)))) .nil)), rfl, Rz.same rz (same_upd nt)⟩⟩⟩⟩
    obtain ⟨v7, e7⟩ := look h17
    refine ⟨_, rfl, .inl ⟨rfl, _, SqL.of e7⟩, heard_app (d := "things") Z.H.e1 h17 (by decide) (fun H1 E Q' e rz => ?_) fun H18 h18 => ?_⟩
    · exact ⟨_, rfl, _, rfl, o3.extN e, rz⟩
    obtain ⟨v8, e8⟩ := look h18
    obtain ⟨bdx, bnd, btp, bkt, bh, _⟩ := id hb
    refine ⟨_, rfl, .inl ⟨rfl, _, SqL.of e8⟩, heard_app (d := "names") Z.H.e1 h18 (by decide) (fun H1 E Q' e rz => ?_) fun H19 h19 => ?_⟩
    · exact ⟨_, rfl, b, bdx, _, rfl, e _ _ bh (fun _ z => by cases z), rfl, _, rfl, nilI ⟨_, _, rfl, o4.extN e, rz⟩⟩
    obtain ⟨v9, e9⟩ := look h19
    refine ⟨_, rfl, .inl ⟨rfl, _, SqL.of e9⟩, heard_app (d := "other") Z.H.e1 h19 (by decide) (fun H1 E Q' e rz => ?_) fun H20 h20 => ?_⟩
    · exact ⟨_, rfl, _, rfl, b, rfl, bI e, rtx o5a e, _, _, rfl, o5b.extN e, rz⟩
    obtain ⟨v10, e10⟩ := look h20
    refine ⟨_, rfl, .inl ⟨rfl, _, SqL.of e10⟩, heard_app (d := "other") Z.H.e1 h20 (by decide) (fun H1 E Q' e rz => ?_) fun H21 h21 => ?_⟩
    · exact ⟨_, rfl, _, rfl, b, rfl, bI e, rtx o5a e, _, _, rfl, o5b.extN e, rz⟩
    obtain ⟨v11, e11⟩ := look h21
    refine ⟨_, rfl, .inl ⟨rfl, _, SqL.of e11⟩, heard_app (d := "ratio") Z.H.e2 h21 (by decide) (fun H1 E Q' e rz => ?_) fun H25 h25 => ?_⟩
    · exact ⟨_, rfl, _, rfl, b, rfl, bI e, rtx o6a e, _, _, rfl, o6b.extN e, rz⟩
    obtain ⟨vs, e15⟩ : ∃ vs, H25 L = some (.lst vs) ∧ Paired (TupE H25) vs [("balance", "numbers"), ("balance", "things"), ("balance", "things"), ("balance", "names"), ("balance", "other"), ("balance", "other"), ("number", "ratio")] := by
      obtain ⟨_, _, _, vs, e, pv⟩ := h25
      exact ⟨vs, e, pv⟩
    obtain ⟨e15, p15⟩ := e15
    dsimp only [tNext, tSeq, tAsg, gName]
    refine due_tells [("balance", "numbers"), ("balance", "things"), ("balance", "things"), ("balance", "names"), ("balance", "other"), ("balance", "other")] fun v1 H26 s26 pv1 => ⟨by rw [sizeLine_eq]; have := Paired.length pv1; show v1.length ≤ 16777216; simp only [List.length_cons, List.length_nil] at this; omega, fun l5 nl5 => ?_⟩
    have q5 := same_upd (o := .lst v1) nl5
    have el5 : (upd H26 l5 (.lst v1)) l5 = some (.lst v1) := upd_same
    have pv1 := tups_ext (fun v d h => TupE.extN h (extN_same q5)) pv1
    have s27 := s26.trans q5
    generalize upd H26 l5 (.lst v1) = H27 at q5 el5 pv1 s27 ⊢
    dsimp only [tNext, tSeq, tAsg, gName]
    refine ⟨_, rfl, _, rfl, due_tells [("number", "ratio")] fun v2 H28 s28 pv2 => ⟨by rw [sizeLine_eq]; have := Paired.length pv2; show v2.length ≤ 16777216; simp only [List.length_cons, List.length_nil] at this; omega, fun l6 nl6 => ?_⟩⟩
    have q6 := same_upd (o := .lst v2) nl6
    have el6 : (upd H28 l6 (.lst v2)) l6 = some (.lst v2) := upd_same
    have pv2 := tups_ext (fun v d h => TupE.extN h (extN_same q6)) pv2
    have s29 := s28.trans q6
    generalize upd H28 l6 (.lst v2) = H29 at q6 el6 pv2 s29 ⊢
    have ln1 := Paired.length pv1
    have ln2 := Paired.length pv2
    simp only [List.length_cons, List.length_nil] at ln1 ln2
    refine ⟨l5, l6, v1, v2, rfl, rfl, s29 _ _ el5, el6, by rw [sizeLine_eq]; omega, fun l7 nl7 => ?_⟩
    have q7 := same_upd (o := .lst (v1 ++ v2)) nl7
    have el7 : (upd H29 l7 (.lst (v1 ++ v2))) l7 = some (.lst (v1 ++ v2)) := upd_same
    have s30 := s29.trans q7
    have pv3 := tups_ext (fun v d h => TupE.extN h (extN_same q7)) (tups_app (tups_ext (fun v d h => TupE.extN h (extN_same s29)) pv1) pv2)
    have p15' := tups_ext (fun v d h => TupE.extN h (extN_same (s27.trans s30))) p15
    have e15' := (s27.trans s30) _ _ e15
    generalize upd H29 l7 (.lst (v1 ++ v2)) = H30 at el7 pv3 p15' e15' ⊢
    refine ⟨_, _, .lst (SqL.of e15') (dp_tups p15'), .lst (SqL.of el7) (dp_tups pv3), by decide +kernel, by decide +kernel, ?_⟩
    exact k H30
end
end K04
namespace K04
open PySem PySem.Spec PyProof.Rows L2 RatM ClX
/-- keys that are these names, in order -/
abbrev KyN : List (Key × V) → List Str → Prop := Paired fun kv n => kv.1 = .inr n
theorem KyN.noVal {kvs : List (Key × V)} {ks : List Str} (h : KyN kvs ks) {n : Str} (m : n ∉ ks) : valV kvs (.inr n) = none := by
  induction h with
  | nil => rfl
  | @cons a b l1 l2 x t ih =>
    simp only [List.mem_cons, not_or] at m
    rw [valV_neg fun z => m.1 (by rw [x] at z; injection z with z; exact z.symm)]
    exact ih m.2
theorem KyN.append {l1 l2 : List (Key × V)} {k1 k2 : List Str} (h : KyN l1 k1) (h2 : KyN l2 k2) : KyN (l1 ++ l2) (k1 ++ k2) := by
  induction h with
  | nil => exact h2
  | cons x _ ih => exact .cons x ih
theorem mergeK_app {more : List (Key × V)} {ks : List Str} (h : KyN more ks) : ∀ {acc : List (Key × V)} {k0 : List Str}, KyN acc k0 → (k0 ++ ks).Nodup → mergeK acc more = acc ++ more := by
  induction h with
  | nil => intro acc k0 _ _; exact (List.append_nil _).symm
  | @cons a b l1 l2 x t ih =>
    intro acc k0 ha nd
    have nb : b ∉ k0 := fun z => (List.nodup_append.mp nd).2.2 b z b List.mem_cons_self rfl
    have e : putK acc a.1 a.2 = acc ++ [a] := by
      rw [x, putK_new _ (ha.noVal nb), ← x]
    show mergeK (putK acc a.1 a.2) l1 = _
    rw [e, ih (ha.append (.cons x .nil)) (by rw [List.append_assoc]; exact nd), List.append_assoc]
    rfl
theorem mergeK_names {more : List (Key × V)} {ks : List Str} (h : KyN more ks) (nd : ks.Nodup) : mergeK [] more = more := mergeK_app h .nil nd
theorem RatAt.keep {H H' : Hp} {C a t c : Addr} {cells : List Int} {i g p q : Int} (h : RatAt H a C p q) (hT : Till H t c cells i g) (k : Keep t H H') : RatAt H' a C p q := by
  obtain ⟨dx, e⟩ := h
  exact ⟨dx, k a _ (fun z => by rw [z, hT.ht] at e; cases e) e⟩
theorem NumAt.keep {H H' : Hp} {C t c : Addr} {cells : List Int} {i g p q : Int} {x : V} (h : NumAt H C x p q) (hT : Till H t c cells i g) (k : Keep t H H') : NumAt H' C x p q := h.imp (fun ⟨a, e, r⟩ => ⟨a, e, r.keep hT k⟩) id
theorem NumAt.upd_any {H : Hp} {C D : Addr} {o : HO} {p q : Int} {x : V} (h : NumAt H C x p q) (hd : ∀ dx fs, H D ≠ some (.ins C dx fs)) : NumAt (upd H D o) C x p q := h.imp (fun ⟨a, e, dx, r⟩ => ⟨a, e, dx, (upd_ne fun z => by rw [z] at r; exact hd _ _ r).trans r⟩) id
/-- pairs of a name and a number, each in a tuple -/
abbrev NtP (H : Hp) (C : Addr) (g : Str → Int × Int) : List Addr → List Str → Prop := Paired fun p n => ∃ v, H p = some (.tup [.str n, v]) ∧ NumAt H C v (g n).1 (g n).2
theorem NtP.keep {H H' : Hp} {C t c : Addr} {cells : List Int} {i k : Int} {g : Str → Int × Int} {ps : List Addr} {ks : List Str} (h : NtP H C g ps ks) (hT : Till H t c cells i k) (kp : Keep t H H') : NtP H' C g ps ks :=
  Paired.mono' (fun a _ ⟨v, e, n⟩ => ⟨v, kp a _ (fun z => by rw [z, hT.ht] at e; cases e) e, n.keep hT kp⟩) h
theorem NtP.upd {H : Hp} {C D : Addr} {o o' : HO} {g : Str → Int × Int} {ps : List Addr} {ks : List Str} (h : NtP H C g ps ks) (hd : H D = some o') (n1 : ∀ xs, o' ≠ .tup xs) (n2 : ∀ dx fs, o' ≠ .ins C dx fs) : NtP (upd H D o) C g ps ks :=
  Paired.mono' (fun a _ ⟨v, e, n⟩ => ⟨v, (upd_ne fun z => by rw [z, hd] at e; injection e with e; exact n1 _ e).trans e, n.upd_any fun dx fs z => by rw [hd] at z; injection z with z; exact n2 _ _ z⟩) h
theorem NtP.kvs {K : PySem.W.Frag} {H : Hp} {C : Addr} {g : Str → Int × Int} {ps : List Addr} {ks : List Str} (h : NtP H C g ps ks) : ∃ kvs : List (Key × V), Paired (fun p (kv : Key × V) => SqT K H p [kV kv.1, kv.2]) ps kvs ∧ NumD H C g kvs ks := by
  induction h with
  | nil => exact ⟨[], .nil, .nil⟩
  | @cons a n l1 l2 x t ih =>
    obtain ⟨v, e, hn⟩ := x
    obtain ⟨kvs, h1, h2⟩ := ih
    exact ⟨(.inr n, v) :: kvs, .cons (SqT.of e) h1, .cons ⟨rfl, hn⟩ h2⟩
theorem NumD.kyn {H : Hp} {C : Addr} {g : Str → Int × Int} {kvs : List (Key × V)} {ks : List Str} (h : NumD H C g kvs ks) : KyN kvs ks := Paired.mono' (fun _ _ x => x.1) h
theorem keep_unlock {H Hx : Hp} {t d : Addr} {kvs : List (Key × V)} {od : Obj} (hd : H d = some (.dK kvs)) (s : Keep t (upd H d (.frz od (.dK kvs))) Hx) : Keep t H (upd Hx d (.dK kvs)) := fun b o nb e => by
  by_cases eb : b = d
  · subst eb
    rw [upd_same, ← hd, e]
  · rw [upd_ne eb]
    refine s _ _ nb ?_
    rw [upd_ne eb]
    exact e
theorem Till.upd {H : Hp} {t c d : Addr} {o : HO} {cells : List Int} {i g : Int} (h : Till H t c cells i g) (h1 : d ≠ t) (h2 : d ≠ c) : Till (upd H d o) t c cells i g := ⟨(upd_ne (Ne.symm h1)).trans h.ht, (upd_ne (Ne.symm h2)).trans h.hc, h.3⟩
theorem ThOk.ns {xs : List Str} (h : ThOk xs) : NsOk xs := ⟨h.nd, Nat.le_trans h.le (by decide), fun n m => ⟨Nat.le_trans (h.nm n m).1 (by decide), (h.nm n m).2⟩⟩
theorem num_in {g : Str → Int × Int} {zs : List Str} {n : Str} (m : n ∈ zs) : num g zs n = g n := if_pos m
theorem num_out {g : Str → Int × Int} {zs : List Str} {n : Str} (m : n ∉ zs) : num g zs n = (0, 1) := if_neg m
theorem PlD.kyn {H : Hp} {g : Str → Int × Int} {kvs : List (Key × V)} {ks : List Str} (h : PlD H g kvs ks) : KyN kvs ks := Paired.mono' (fun _ _ x => x.1) h
theorem PlD.congr {H : Hp} {g g' : Str → Int × Int} {kvs : List (Key × V)} {ks : List Str} (h : PlD H g kvs ks) (e : ∀ n ∈ ks, g' n = g n) : PlD H g' kvs ks := by
  induction h with
  | nil => exact .nil
  | @cons a n l1 l2 x t ih =>
    obtain ⟨x1, o, x2, x3⟩ := x
    exact .cons ⟨x1, o, x2, by rw [e n List.mem_cons_self]; exact x3⟩ (ih fun m hm => e m (List.mem_cons_of_mem _ hm))
theorem PlD.upd_any {H : Hp} {D : Addr} {o : HO} {g : Str → Int × Int} {kvs : List (Key × V)} {ks : List Str} (h : PlD H g kvs ks) (hd : ∀ xs, H D ≠ some (.tup xs)) : PlD (upd H D o) g kvs ks :=
  Paired.mono' (fun _ _ ⟨e, b, e2, n⟩ => ⟨e, b, e2, (upd_ne fun z => by rw [z] at n; exact hd _ n).trans n⟩) h
theorem plPut_old {H : Hp} {b : Addr} {g g' : Str → Int × Int} {kvs : List (Key × V)} {ks : List Str} {n : Str} (h : PlD H g kvs ks) (e : ∀ m, m ≠ n → g' m = g m) (hb : H b = some (.tup (tupF (g' n)))) :
    PlD H g' (kvs.map fun kv => if kv.1 = .inr n then (kv.1, V.ref b) else kv) ks := by
  induction h with
  | nil => exact .nil
  | @cons x y l1 l2 h t ih =>
    refine .cons ?_ ih
    dsimp only
    by_cases c : y = n
    · subst c
      rw [if_pos h.1]
      exact ⟨h.1, b, rfl, hb⟩
    · have ne : ¬ x.1 = Sum.inr n := fun z => c (by rw [h.1] at z; injection z)
      rw [if_neg ne]
      obtain ⟨h1, b', h2, h3⟩ := h
      refine ⟨h1, b', h2, ?_⟩
      rw [e y c]
      exact h3
theorem PlD.put {H : Hp} {b : Addr} {g g' : Str → Int × Int} {kvs : List (Key × V)} {ks : List Str} {n : Str} (h : PlD H g kvs ks) (e : ∀ m, m ≠ n → g' m = g m) (hb : H b = some (.tup (tupF (g' n)))) :
    PlD H g' (putK kvs (.inr n) (.ref b)) (if n ∈ ks then ks else ks ++ [n]) := by
  have old := plPut_old h e hb
  by_cases m : n ∈ ks
  · unfold putK
    rw [valV_any]
    obtain ⟨v, ev, _⟩ := PlD.val h m
    rw [ev, if_pos m]
    exact old
  · rw [putK_new _ (h.kyn.noVal m), if_neg m]
    refine Paired.snoc ?_ ⟨rfl, b, rfl, hb⟩
    exact h.congr fun y hy => e y fun z => m (by rw [← z]; exact hy)
/-- how often n stands in l -/
def cnt (l : List Str) (n : Str) : Nat := l.countP fun x => decide (x = n)
theorem cntS_num (s : List Str × (Str → Int × Int)) (n m : Str) : num (cntS s n).2 (cntS s n).1 m = if m = n then ((num s.2 s.1 n).1 + 1, 1) else num s.2 s.1 m := by
  have mem : m ∈ (cntS s n).1 ↔ m ∈ s.1 ∨ m = n := by
    unfold cntS
    dsimp only
    by_cases c : n ∈ s.1
    · rw [if_pos c]
      exact ⟨.inl, fun z => z.elim id fun z => z ▸ c⟩
    · rw [if_neg c, List.mem_append, List.mem_singleton]
  by_cases e : m = n
  · rw [if_pos e, num_in (mem.mpr (.inr e))]
    show (if m = n then _ else _ : Int × Int) = _
    rw [if_pos e]
    unfold num
    by_cases c : n ∈ s.1
    · rw [if_pos c, if_pos c]
    · rw [if_neg c, if_neg c]
  · rw [if_neg e]
    by_cases c : m ∈ s.1
    · rw [num_in (mem.mpr (.inl c)), num_in c]
      exact if_neg e
    · rw [num_out fun z => (mem.mp z).elim c e, num_out c]
theorem cnt_gen : ∀ (l : List Str) (s : List Str × (Str → Int × Int)), (∀ m, (num s.2 s.1 m).2 = 1) → ∀ m, num (l.foldl cntS s).2 (l.foldl cntS s).1 m = ((num s.2 s.1 m).1 + cnt l m, 1)
  | [], s, hs, m => Prod.ext (by show (num s.2 s.1 m).1 = (num s.2 s.1 m).1 + ((0 : Nat) : Int); omega) (hs m)
  | n :: t, s, hs, m => by
    have st : ∀ m, (num (cntS s n).2 (cntS s n).1 m).2 = 1 := fun m => by
      rw [cntS_num]
      by_cases e : m = n
      · rw [if_pos e]
      · rw [if_neg e]; exact hs m
    rw [List.foldl_cons, cnt_gen t (cntS s n) st m, cntS_num]
    unfold cnt
    rw [List.countP_cons]
    by_cases e : m = n
    · subst e
      rw [if_pos rfl, if_pos (decide_eq_true rfl)]
      refine Prod.ext ?_ rfl
      show (num s.2 s.1 m).1 + 1 + _ = (num s.2 s.1 m).1 + ((_ + 1 : Nat) : Int)
      omega
    · rw [if_neg e, if_neg (by simpa using Ne.symm e)]
      rfl
theorem cntN_num (l : List Str) (m : Str) : num (cntN l).2 (cntN l).1 m = ((cnt l m : Int), 1) := by
  have := cnt_gen l ([], fun _ => (0, 1)) (fun m => rfl) m
  refine this.trans (Prod.ext ?_ rfl)
  show (0 : Int) + _ = _
  omega
/-- pairs of a name and a fraction, each in a tuple -/
abbrev NuP (H : Hp) (g : Str → Int × Int) : List Addr → List Str → Prop := Paired fun p n => ∃ o, H p = some (.tup [.str n, .ref o]) ∧ H o = some (.tup (tupF (g n)))
theorem NuP.same {H H' : Hp} {g : Str → Int × Int} {ps : List Addr} {ks : List Str} (h : NuP H g ps ks) (s : Same H H') : NuP H' g ps ks := Paired.mono' (fun a _ ⟨o, e, n⟩ => ⟨o, s _ _ e, s _ _ n⟩) h
theorem NuP.keep {H H' : Hp} {t c : Addr} {cells : List Int} {i k : Int} {g : Str → Int × Int} {ps : List Addr} {ks : List Str} (h : NuP H g ps ks) (hT : Till H t c cells i k) (kp : Keep t H H') : NuP H' g ps ks :=
  Paired.mono' (fun a _ ⟨o, e, n⟩ => ⟨o, kp a _ (fun z => by rw [z, hT.ht] at e; cases e) e, kp o _ (fun z => by rw [z, hT.ht] at n; cases n) n⟩) h
theorem NuP.upd {H : Hp} {D : Addr} {o : HO} {g : Str → Int × Int} {ps : List Addr} {ks : List Str} (h : NuP H g ps ks) (hd : ∀ xs, H D ≠ some (.tup xs)) : NuP (upd H D o) g ps ks :=
  Paired.mono' (fun a _ ⟨q, e, n⟩ => ⟨q, (upd_ne fun z => by rw [z] at e; exact hd _ e).trans e, (upd_ne fun z => by rw [z] at n; exact hd _ n).trans n⟩) h
theorem NuP.kvs {K : PySem.W.Frag} {H : Hp} {g : Str → Int × Int} {ps : List Addr} {ks : List Str} (h : NuP H g ps ks) : ∃ kvs : List (Key × V), Paired (fun p (kv : Key × V) => SqT K H p [kV kv.1, kv.2]) ps kvs ∧ PlD H g kvs ks := by
  induction h with
  | nil => exact ⟨[], .nil, .nil⟩
  | @cons a n l1 l2 x t ih =>
    obtain ⟨o, e, hn⟩ := x
    obtain ⟨kvs, h1, h2⟩ := ih
    exact ⟨(.inr n, .ref o) :: kvs, .cons (SqT.of e) h1, .cons ⟨rfl, o, rfl, hn⟩ h2⟩
/-- one more pair -/
theorem NuP.snoc {H5 : Hp} {D p o : Addr} {xs : List V} {ob : HO} {g : Str → Int × Int} {ps : List Addr} {ks : List Str} {i : Nat} {n : Str} (h : NuP H5 g ps (ks.take i)) (en : ks[i]? = some n) (hD : H5 D = some (.lst xs)) (hp : H5 p = some (.tup [.str n, .ref o])) (ho : H5 o = some (.tup (tupF (g n)))) :
    NuP (L2.upd H5 D ob) g (ps ++ [p]) (ks.take (i + 1)) := by
  rw [List.take_add_one, en]
  have nt : ∀ xs, H5 D ≠ some (.tup xs) := fun xs z => by rw [hD] at z; cases z
  exact Paired.snoc (h.upd nt) ⟨o, (upd_ne fun z => by rw [z] at hp; exact nt _ hp).trans hp, (upd_ne fun z => by rw [z] at ho; exact nt _ ho).trans ho⟩
theorem Till.notLst {H : Hp} {t c b : Addr} {cells : List Int} {i g : Int} {o : HO} (h : Till H t c cells i g) (e : H b = some o) (n : ∀ xs, o ≠ .lst xs) : b ≠ t := fun z => by
  rw [z, h.ht] at e
  injection e with e
  exact n _ e.symm
theorem PlD.keep {H H' : Hp} {t c : Addr} {cells : List Int} {i k : Int} {g : Str → Int × Int} {kvs : List (Key × V)} {ks : List Str} (h : PlD H g kvs ks) (hT : Till H t c cells i k) (kp : Keep t H H') : PlD H' g kvs ks :=
  Paired.mono' (fun _ _ ⟨e, o, e2, n⟩ => ⟨e, o, e2, kp o _ (hT.notLst n fun _ z => by cases z) n⟩) h
theorem Same.keep {t : Addr} {H H' : Hp} (s : Same H H') : Keep t H H' := fun b o _ e => s b o e
section
variable {H : Hp}
theorem merge_dup {g : Str → Int × Int} {more : List (Key × V)} {ks : List Str} (h : PlD H g more ks) : ∀ {acc : List (Key × V)} {k0 : List Str}, PlD H g acc k0 → k0.Nodup → ∃ k2, PlD H g (mergeK acc more) k2 ∧ k2.Nodup ∧ (∀ n, n ∈ k2 ↔ n ∈ k0 ∨ n ∈ ks) ∧ k2.length ≤ k0.length + ks.length := by
  induction h with
  | nil => exact fun {acc k0} ha nd => ⟨k0, ha, nd, fun n => by simp, by simp⟩
  | @cons x n l1 l2 hx t ih =>
    intro acc k0 ha nd
    obtain ⟨x1, o, x2, x3⟩ := hx
    have put := PlD.put (n := n) (b := o) ha (fun m _ => rfl) x3
    have e : putK acc x.1 x.2 = putK acc (.inr n) (.ref o) := by rw [x1, x2]
    rw [← e] at put
    have nd2 : (if n ∈ k0 then k0 else k0 ++ [n]).Nodup := by
      by_cases c : n ∈ k0
      · rw [if_pos c]; exact nd
      · rw [if_neg c]
        exact List.nodup_append.mpr ⟨nd, by simp, fun a ha b hb e => c (by rw [e] at ha; rw [List.mem_singleton.mp hb] at ha; exact ha)⟩
    obtain ⟨k2, q1, q2, q3, q4⟩ := ih put nd2
    refine ⟨k2, q1, q2, fun m => ?_, ?_⟩
    · rw [q3]
      by_cases c : n ∈ k0
      · rw [if_pos c, List.mem_cons]
        exact ⟨fun z => z.imp id .inr, fun z => z.elim .inl fun z => z.elim (fun z => .inl (z ▸ c)) .inr⟩
      · rw [if_neg c, List.mem_append, List.mem_singleton, List.mem_cons]
        exact or_assoc
    · rw [List.length_cons]
      by_cases c : n ∈ k0
      · rw [if_pos c] at q4; omega
      · rw [if_neg c, List.length_append, List.length_singleton] at q4; omega
end
theorem tx_len {x : Int × Int} (h1 : x.1.natAbs < 2 ^ 1000) (h2 : x.2.natAbs < 2 ^ 1000) : (textR x.1 x.2).length ≤ 1000 := by
  have len : ∀ {p : Int}, p.natAbs < 2 ^ 1000 → (Str.ofString (toString p)).length ≤ 401 := fun {p} h => by
    rw [PySem.ofString_length]
    exact int_text_length_le10 (k := 400) (by decide) (Nat.lt_trans h (by decide +kernel))
  unfold textR
  by_cases e : x.2 = 1
  · rw [if_pos e]
    exact Nat.le_trans (len h1) (by decide)
  · rw [if_neg e, strLen_append, strLen_append]
    have a1 := len h1
    have a2 := len h2
    have a3 : (Str.ofString "/").length = 1 := rfl
    omega
theorem tyV_lst {K : PySem.W.Frag} {H : Hp} {a : Addr} {xs : List V} (h : H a = some (.lst xs)) : tyV K "list" (.ref a) H := .inl ⟨rfl, xs, SqL.of h⟩
end K04
namespace K04
open PySem PySem.Spec PyProof.Rows L2 RatM LamX ClX
/-- a balance of things told, and the list of them -/
def OfE (CB C : Addr) (H : Hp) (v : V) (l : List Str) : Prop := ∃ (p a L : Addr) (ys : List Str), v = .ref p ∧ H p = some (.tup [.ref a, .ref L]) ∧ H L = some (.lst (l.map V.str)) ∧ BalAt H a CB C (cntN l).2 ys ∧ ys.Perm (cntN l).1 ∧ sortedS ys = true
theorem OfE.same {CB C : Addr} {H H' : Hp} {v : V} {l : List Str} (h : OfE CB C H v l) (s : Same H H') : OfE CB C H' v l := let ⟨p, a, L, ys, e, h1, h2, h3, h4⟩ := h; ⟨p, a, L, ys, e, s _ _ h1, s _ _ h2, h3.same s, h4⟩
theorem ofs_same {CB C : Addr} {H H' : Hp} (s : Same H H') {vs : List V} {ls : List (List Str)} (h : Paired (OfE CB C H) vs ls) : Paired (OfE CB C H') vs ls := Paired.mono' (fun _ _ x => x.same s) h
/-- the texts of a few short names -/
def ShN (l : List Str) : Prop := l.length ≤ 4 ∧ ∀ n ∈ l, n.length ≤ 12 ∧ nameT n.cps.toList = true
theorem ShN.ns {l : List Str} (h : ShN l) : NsT l := ⟨Nat.le_trans h.1 (by decide), fun n m => ⟨Nat.le_trans (h.2 n m).1 (by decide), (h.2 n m).2⟩⟩
theorem of_tells {K : PySem.W.Frag} {CB C BB : Addr} {σ : L2.St} {ta tb : TA} {l : List Str} {H : Hp} {Q : VK} (sh : ShN l) (ha : ∀ H (Q : List V → Hp → Prop), Q (l.map V.str) H → ta σ H Q) (hb : ∀ H (Q : List V → Hp → Prop), Q (l.map V.str) H → tb σ H Q)
    (k : ∀ v H', Same H H' → OfE CB C H' v l → Q v H') : tTup (tCons (tSMeth CB (SpV (spOfB K CB C BB)) E0 (tC (.ref CB)) ta) (tCons (tLst tb) tNil)) σ H Q := by
  refine ⟨rfl, ha _ _ ⟨by rw [List.length_map]; exact Nat.le_trans sh.1 (by decide), fun tp nt => ⟨tp, l.map V.str, rfl, upd_same, .inl ⟨l, rfl, sh.ns, Nat.le_trans sh.1 (by decide), fun a ys H1 s1 py sy hB => ?_⟩⟩⟩⟩
  replace s1 := (same_upd nt).trans s1
  clear nt
  refine hb _ _ ⟨by rw [List.length_map, sizeLine_eq]; exact Nat.le_trans sh.1 (by decide), fun L nL => ?_⟩
  have s2 := same_upd (o := .lst (l.map V.str)) nL
  have e2 : (upd H1 L (.lst (l.map V.str))) L = some (.lst (l.map V.str)) := upd_same
  generalize upd H1 L (.lst (l.map V.str)) = H2 at s2 e2 ⊢
  refine ⟨by rw [sizeLine_eq]; show 2 ≤ 16777216; decide, fun p np => ?_⟩
  have s3 := same_upd (o := .tup [V.ref a, V.ref L]) np
  exact k _ _ (s1.trans (s2.trans s3)) ⟨p, a, L, ys, rfl, upd_same, s3 _ _ e2, hB.same (s2.trans s3), py, sy⟩
theorem lstI {σ : L2.St} {H : Hp} {t : TA} {Q : VK} (h : t σ H fun xs H1 => xs.length ≤ sizeLine ∧ ∀ p, H1 p = none → Q (.ref p) (upd H1 p (.lst xs))) : tLst t σ H Q := h
theorem of_tellsC {K : PySem.W.Frag} {CB C BB : Addr} {σ : L2.St} {ta tb r : TA} {H : Hp} {Q : List V → Hp → Prop} (l : List Str) (sh : ShN l) (ha : ∀ H (Q : List V → Hp → Prop), Q (l.map V.str) H → ta σ H Q) (hb : ∀ H (Q : List V → Hp → Prop), Q (l.map V.str) H → tb σ H Q)
    (k : ∀ v H', Same H H' → OfE CB C H' v l → r σ H' fun vs H2 => Q (v :: vs) H2) : tCons (tTup (tCons (tSMeth CB (SpV (spOfB K CB C BB)) E0 (tC (.ref CB)) ta) (tCons (tLst tb) tNil))) r σ H Q := of_tells (Q := fun v H' => r σ H' fun vs H2 => Q (v :: vs) H2) sh ha hb k
/-- how often each of them stands there -/
def ofG (l : List Str) : Str → Int × Int := fun n => ((cnt l n : Nat), 1)
theorem cnt_le (l : List Str) (n : Str) : cnt l n ≤ l.length := List.countP_le_length
theorem cnt_pos {l : List Str} {n : Str} (m : n ∈ l) : 0 < cnt l n := List.countP_pos_iff.mpr ⟨n, m, decide_eq_true rfl⟩
theorem cnt_out {l : List Str} {n : Str} (m : n ∉ l) : cnt l n = 0 := List.countP_eq_zero.mpr fun x hx z => m (by rw [← of_decide_eq_true z]; exact hx)
/-- the law's own count is the balance -/
theorem of_isAs {CB C : Addr} {H : Hp} {a d : Addr} {l ys : List Str} {kvs : List (Key × V)} {Q : VK} {E : XK} (sh : ShN l) (hB : BalAt H a CB C (cntN l).2 ys) (py : ys.Perm (cntN l).1) (sy : sortedS ys = true) (hp : PlD H (ofG l) kvs l) (hd : H d = some (.dK (mergeK [] kvs)))
    (k : ∀ H', Same H H' → Q (.bl true) H') : spIsAs CB C [.ref a, .ref d] H Q E := by
  obtain ⟨k2, q1, q2, q3, q4⟩ := merge_dup hp (acc := []) (k0 := []) .nil List.nodup_nil
  have l4 := sh.1
  have l60 : l.length ≤ 60 := Nat.le_trans l4 (by decide)
  obtain ⟨nok, pos⟩ := cntN_ok sh.ns l60
  have e : ∀ n, n ∈ (cntN l).1 → (cntN l).2 n = ofG l n := fun n m => by
    have := cntN_num l n
    rw [num_in m] at this
    exact this
  have mem : ∀ n, n ∈ (cntN l).1 ↔ n ∈ l := fun n => by
    constructor
    · intro m
      have h1 := (pos n m).1
      rw [e n m] at h1
      refine Classical.byContradiction fun z => ?_
      have h2 : (ofG l n).1 = ((cnt l n : Nat) : Int) := rfl
      rw [cnt_out z] at h2
      omega
    · intro m
      refine Classical.byContradiction fun z => ?_
      have := cntN_num l n
      rw [num_out z] at this
      have h2 := congrArg Prod.fst this
      have h3 := cnt_pos m
      have h4 : (0 : Int) = ((cnt l n : Nat) : Int) := h2
      omega
  have mk : ∀ n, n ∈ k2 ↔ n ∈ l := fun n => by rw [q3]; simp
  have nzk : nz (ofG l) k2 = k2 := List.filter_eq_self.mpr fun n m => by
    have := cnt_pos ((mk n).mp m)
    simp only [Bool.not_eq_true', decide_eq_false_iff_not]
    show ¬ ((cnt l n : Nat) : Int) = 0
    omega
  have cz : ∀ n, (ofG l n).1.natAbs ≤ 4 := fun n => by
    have := cnt_le l n
    show ((cnt l n : Nat) : Int).natAbs ≤ 4
    omega
  refine ⟨a, d, _, k2, ys, ofG l, (cntN l).2, rfl, hd, q1, by simp only [List.length_nil] at q4; omega, fun n m => ⟨?_, ?_, Nat.le_trans (sh.2 n ((mk n).mp m)).1 (by decide), tx_len ?_ ?_⟩, hB, ⟨nok.perm py, sy, fun n m => ?_⟩, ?_, fun n m => e n (py.mem_iff.mp m), fun n _ => ⟨by show (0 : Int) < 1; decide, Int.gcd_one⟩, k⟩
  · exact Nat.lt_of_le_of_lt (cz n) (Nat.lt_of_lt_of_le (show 4 < 2 ^ 3 by decide) (Nat.pow_le_pow_right (by decide) (by decide)))
  · exact Nat.lt_of_lt_of_le (show (1 : Int).natAbs < 2 ^ 1 by decide) (Nat.pow_le_pow_right (by decide) (by decide))
  · exact Nat.lt_of_le_of_lt (cz n) (Nat.lt_of_lt_of_le (show 4 < 2 ^ 3 by decide) (Nat.pow_le_pow_right (by decide) (by decide)))
  · exact Nat.lt_of_lt_of_le (show (1 : Int).natAbs < 2 ^ 1 by decide) (Nat.pow_le_pow_right (by decide) (by decide))
  · have := (pos n (py.mem_iff.mp m)).1
    omega
  · rw [nzk]
    exact py.trans ((List.perm_ext_iff_of_nodup nok.nd q2).mpr fun n => by rw [mem, mk])
end K04
namespace K04
open PySem PySem.Spec PyProof.Rows L2 RatM LamX ClX
/-- what the law's counts rest on -/
structure OrK (P : Program) (w : World) (K : PySem.W.Frag) (mg : Str → Option Value) (base : Heap) (CB C BR BB : Addr) (mcB : Value) (pO gO : Addr) : Prop where
  B : BalK P w K mg base CB C
  L : LwK P w K mg base CB C BR
  cr : CRead K CB mcB
  sm : SMet K CB mcB "of" pO gO
  of_ : FnR P w K mg base (L2.CX P w) 12 gO (SpV (spOfB K CB C BB))
  pick : ∃ (f : Addr) (fd : FuncData), FnOk P w K mg base CX0 2 f fd ["_law_reel_here", "_law_some"] spOf ∧ Binds K fd ["_law_reel_here", "_law_some"] [] ∧ PySem.W.keepIn K (.ref f) = true ∧ mg "_law_pick" = some (.ref f)
  isAs : ∃ (f : Addr) (fd : FuncData), FnOk P w K mg base CX0 10 f fd ["_law_balance", "_law_plain"] (spIsAs CB C) ∧ Binds K fd ["_law_balance", "_law_plain"] [] ∧ PySem.W.keepIn K (.ref f) = true ∧ mg "_law_is_as" = some (.ref f)
def spOr : Sp := fun vs H Q _ => ∃ (t c : Addr) (cells : List Int) (i g : Int), vs = [.ref t] ∧ Till H t c cells i g ∧ 0 ≤ i ∧ i ≤ 900000 ∧ 0 ≤ g ∧
  ∀ (i' g' : Int) (H' : Hp), 0 ≤ i' → i' ≤ i + 3 → 0 ≤ g' → Keep t H H' → Till H' t c cells i' g' → Q (.bl true) H'
/-- the pairs of names and counts, being made -/
def CntP (HL : Hp) (D : Addr) (l : List Str) (j : Nat) (Hy : Hp) : Prop := Same HL Hy ∧ ∃ ps : List Addr, Hy D = some (.lst (ps.map V.ref)) ∧ NuP Hy (ofG l) ps (l.take j)
theorem cnt_step {K : PySem.W.Frag} {HL : Hp} {D L : Addr} {l : List Str} {s0 s1 s2 s3 s4 s5 : Option V} (hL : HL L = some (.lst (l.map V.str))) (l4 : l.length ≤ 4) (nD : HL D = none) (j : Nat) (x : V) (Hx H' : Hp) (hP : CntP HL D l j Hx) (hy : YAt (l.map V.str) j Hx x H') :
    gName 7 x (wipe [s0, s1, s2, s3, s4, s5, some (.ref L), none] [7]) H' fun σ2 H2 => wipe σ2 [7] = wipe [s0, s1, s2, s3, s4, s5, some (.ref L), none] [7] ∧ tYes σ2 H2 fun b H3 =>
      if b = true then tTup (tCons (tVar 7) (tCons (tTup (tCons (tBM K "list" (rCntS K) (tVar 6) (tCons (tVar 7) tNil)) (tCons (tC (.int 1)) tNil))) tNil)) σ2 H3 fun y H4 => ∃ acc, H4 D = some (.lst acc) ∧ acc.length < sizeLine ∧ CntP HL D l (j + 1) (upd H4 D (.lst (acc ++ [y]))) else CntP HL D l (j + 1) H3 := by
  obtain ⟨rfl, ex⟩ := hy
  obtain ⟨sy, ps, hD2, hN⟩ := hP
  rw [List.getElem?_map] at ex
  obtain ⟨n, en, rfl⟩ := Option.map_eq_some_iff.mp ex
  have hLx := sy _ _ hL
  refine ⟨rfl, yesI ?_⟩
  refine ⟨_, rfl, ?_⟩
  refine ⟨_, rfl, tyV_lst hLx, ?_⟩
  refine ⟨_, rfl, ?_⟩
  dsimp only [tNil, tCons, tC]
  refine ⟨L, l, n, rfl, rfl, SqL.of hLx, ?_⟩
  refine ⟨by rw [sizeLine_eq]; show 2 ≤ 16777216; decide, fun p np => ?_⟩
  have sp := same_upd (o := .tup [V.int ((l.countP fun x => decide (x = n) : Nat) : Int), V.int 1]) np
  have ep : (upd H' p (.tup [V.int ((l.countP fun x => decide (x = n) : Nat) : Int), V.int 1])) p = some (.tup (tupF (ofG l n))) := upd_same
  generalize (upd H' p (.tup [V.int ((l.countP fun x => decide (x = n) : Nat) : Int), V.int 1])) = Ha at sp ep ⊢
  refine ⟨by rw [sizeLine_eq]; show 2 ≤ 16777216; decide, fun q nq => ?_⟩
  have sq : Same Ha (upd Ha q (.tup [.str n, .ref p])) := same_upd nq
  have eq : (upd Ha q (.tup [.str n, .ref p])) q = some (.tup [.str n, .ref p]) := upd_same
  generalize (upd Ha q (.tup [.str n, .ref p])) = Hb at sq eq ⊢
  have sab := sp.trans sq
  refine ⟨_, sab _ _ hD2, ?_, fun b ob e => ?_, ps ++ [q], ?_, ?_⟩
  · have f2 := List.length_take (i := j) (l := l)
    have f3 := Paired.length hN
    simp only [List.length_map]
    rw [sizeLine_eq]; omega
  · rw [upd_ne (ne_of_none e nD)]; exact sab _ _ (sy _ _ e)
  · rw [upd_same, List.map_append]; rfl
  · exact NuP.snoc (hN.same sab) en (sab _ _ hD2) eq (sq _ _ ep)
section
variable {P : Program} {w : World} {K : PySem.W.Frag} {mg : Str → Option Value} {base : Heap} {C BR CB BB pO gO : Addr} {mcB : Value}
abbrev nsOr : List Str := ["_law_reel_here", "_law_one", "_law_other", "_law_third", "_law_made", "_law_balance", "_law_told_here", "_law_thing"]
theorem scOr : FnScope nsOr ["_law_reel_here"] (defScope (top 70)) := ⟨rfl, rfl, rfl, by decide +kernel, rfl, by decide +kernel, by decide +kernel⟩
theorem ok_ofRight {f : Addr} {fd : FuncData} (F : FnP K "_law_of_right" (top 70) f fd) (Z : OrK P w K mg base CB C BR BB mcB pO gO) : FnOk P w K mg base CX0 13 f fd ["_law_reel_here"] spOr := by
  obtain ⟨fP, fdP, GP, bP, kP, gP⟩ := Z.pick
  obtain ⟨fI, fdI, GI, bI, kI, gI⟩ := Z.isAs
  refine F.ok scOr (fun vs H Q E h => ?_) (fun cdv A outer s H vs Q E hr h => ?_)
  · obtain ⟨t, c, cells, i, g, rfl, _⟩ := h
    rfl
  · obtain ⟨t, c, cells, i, g, rfl, hT, hi0, hi1, hg, k⟩ := h
    have h12 : Room 12 _ := hr
    have h10 : Room 10 _ := h12.mono (by decide)
    have h2 : Room 2 _ := h12.mono (by decide)
    refine ⟨_, PSs.nox (pss_cons (ps_par3 (i := 1) (j := 2) (l := 3) (by rfl) scOr.nd rfl rfl rfl (by decide) (by decide) (by decide) rfl rfl rfl (pa_cons (pe_call GP h2 rfl gP kP bP .nil pass0 (pa_cons (pv 0) (pa_cons (pe_lst (pa_cons pe_str (pa_cons pe_str (pa_cons pe_str pa_nil)))) pa_nil))) (pa_cons (pe_call GP h2 rfl gP kP bP .nil pass0 (pa_cons (pv 0) (pa_cons (pe_lst (pa_cons pe_str (pa_cons pe_str (pa_cons pe_str pa_nil)))) pa_nil))) (pa_cons (pe_call GP h2 rfl gP kP bP .nil pass0 (pa_cons (pv 0) (pa_cons (pe_lst (pa_cons pe_str (pa_cons pe_str (pa_cons pe_str pa_nil)))) pa_nil))) pa_nil))) (by rfl))
      (pss_cons (ps_set (i := 4) scOr.nd rfl (.inl rfl) (pe_lst (pa_cons (pe_tup (pa_cons (pe_smethV0 (pe_glob (v := .ref _) rfl Z.B.g rfl) Z.cr Z.sm Z.of_ h12 (E := E0) passL) (pa_cons (pe_lst pa_nil) pa_nil))) (pa_cons (pe_tup (pa_cons (pe_smethV (pe_glob (v := .ref _) rfl Z.B.g rfl) Z.cr Z.sm Z.of_ h12 (E := E0) passL (pa_cons (pv 1) pa_nil)) (pa_cons (pe_lst (pa_cons (pv 1) pa_nil)) pa_nil))) (pa_cons (pe_tup (pa_cons (pe_smethV (pe_glob (v := .ref _) rfl Z.B.g rfl) Z.cr Z.sm Z.of_ h12 (E := E0) passL (pa_cons (pv 1) (pa_cons (pv 2) pa_nil))) (pa_cons (pe_lst (pa_cons (pv 1) (pa_cons (pv 2) pa_nil))) pa_nil))) pa_nil)))))
      (pss_cons (ps_set (i := 4) scOr.nd rfl (.inl rfl) (pe_op op_cat (pv 4) (pe_lst (pa_cons (pe_tup (pa_cons (pe_smethV (pe_glob (v := .ref _) rfl Z.B.g rfl) Z.cr Z.sm Z.of_ h12 (E := E0) passL (pa_cons (pv 1) (pa_cons (pv 2) (pa_cons (pv 3) pa_nil)))) (pa_cons (pe_lst (pa_cons (pv 1) (pa_cons (pv 2) (pa_cons (pv 3) pa_nil)))) pa_nil))) (pa_cons (pe_tup (pa_cons (pe_smethV (pe_glob (v := .ref _) rfl Z.B.g rfl) Z.cr Z.sm Z.of_ h12 (E := E0) passL (pa_cons (pv 1) (pa_cons (pv 3) (pa_cons (pv 2) (pa_cons (pv 1) pa_nil))))) (pa_cons (pe_lst (pa_cons (pv 1) (pa_cons (pv 3) (pa_cons (pv 2) (pa_cons (pv 1) pa_nil))))) pa_nil))) pa_nil)))))
      (pss_cons (ps_for PassesOwn.never rfl (pi_list (pv 4)) (pg_tup rfl (pgs_cons (pg_name (i := 5) scOr.nd rfl (.inl rfl)) (pgs_cons (pg_name (i := 6) scOr.nd rfl (.inr rfl)) pgs_nil))) (pss_one (ps_if (pt_not (pt_val (pe_call GI h10 rfl gI kI bI .nil pass0 (pa_cons (pv 5) (pa_cons (pe_callTy (call_dictP rfl) (by rfl) Z.L.dict PyProof.Rows.boot_dict (pa_cons (pe_lc (own := [("_law_thing", 7)]) (g := gName 7) (tt := tYes) (te := tTup (tCons (tVar 7) (tCons (tTup (tCons (tBM K "list" (rCntS K) (tVar 6) (tCons (tVar 7) tNil)) (tCons (tC (.int 1)) tNil))) tNil))) rfl scOr.nd (pi_list (pv 6)) (blkOk_by (N := nsOr) (sc := defScope (top 70)) (by decide +kernel)) (fun _ _ _ _ _ => pg_name (i := 7) scOr.nd rfl (Or.inl rfl)) (fun _ _ _ _ _ => pts_nil) (fun _ _ _ _ _ => pe_tup (pa_cons (pv 7) (pa_cons (pe_tup (pa_cons (pe_bm PySem.F.plainAttrs_list PySem.F.slot_list_count PySem.F.type_list_count mt_lcountS (pv 6) (pa_cons (pv 7) pa_nil)) (pa_cons pe_int pa_nil))) pa_nil)))) pa_nil)) pa_nil))))) (pss_one (ps_ret pe_bl)) pss_nil)))
      (pss_one (ps_ret pe_bl)))))), ?_⟩
    have pk : ∀ {xs : List Str} {i g : Int} {H1 : Hp} {Q : VK}, xs.length = 3 → Keep t H H1 → Till H1 t c cells i g → 0 ≤ i → i ≤ 1000000 → 0 ≤ g → (∀ x i' g' H', x ∈ xs → 0 ≤ i' → i' ≤ i + 1 → 0 ≤ g' → Keep t H H' → Till H' t c cells i' g' → Q (.str x) H') →
        ∀ p, H1 p = none → spOf [.ref t, .ref p] (upd H1 p (.lst (xs.map V.str))) Q E0 := fun {xs i g H1 Q} l3 k1 T1 a0 a1 a2 q p np => by
      refine ⟨t, c, p, cells, i, g, _, rfl, T1.same (same_upd np), a0, a1, a2, T1.off np, upd_same, by rw [List.length_map]; omega, by rw [List.length_map]; omega, fun v i' g' H' hv b0 b1 b2 k2 T2 => ?_⟩
      obtain ⟨x, mx, rfl⟩ := List.mem_map.mp hv
      exact q x i' g' H' mx b0 b1 b2 ((k1.same (same_upd np)).trans k2) T2
    have z3 : (3 : Nat) ≤ sizeLine := by rw [sizeLine_eq]; decide
    refine ⟨_, rfl, z3, fun p1 n1 => pk (xs := ["a", "b", "c9"]) rfl Keep.refl hT hi0 (by omega) hg (fun x1 i1 g1 H1 m1 a10 a11 a12 k1 T1 => ?_) p1 n1⟩
    refine ⟨_, rfl, z3, fun p2 n2 => pk (xs := ["a", "b", "zz"]) rfl k1 T1 a10 (by omega) a12 (fun x2 i2 g2 H2 m2 a20 a21 a22 k2 T2 => ?_) p2 n2⟩
    refine ⟨_, rfl, z3, fun p3 n3 => pk (xs := ["a", "b", "c9"]) rfl k2 T2 a20 (by omega) a22 (fun x3 i3 g3 H3 m3 a30 a31 a32 k3 T3 => ?_) p3 n3⟩
    have ok1 : ∀ n ∈ (["a", "b", "c9"] : List Str), n.length ≤ 12 ∧ nameT n.cps.toList = true := by decide +kernel
    have ok2 : ∀ n ∈ (["a", "b", "zz"] : List Str), n.length ≤ 12 ∧ nameT n.cps.toList = true := by decide +kernel
    have b1 := ok1 x1 m1
    have b2 := ok2 x2 m2
    have b3 := ok1 x3 m3
    clear pk k1 k2 T1 T2 n1 n2 n3 m1 m2 m3 ok1 ok2 hT
    refine nilI ⟨_, _, _, rfl, ?_⟩
    generalize H3 = H4 at T3 k3 ⊢
    have T4 := T3
    have k4 := k3
    dsimp only [tNext, tSeq, tAsg, gName]
    have sh0 : ShN [] := ⟨by decide, fun n m => by cases m⟩
    have sh1 : ShN [x1] := ⟨by show 1 ≤ 4; decide, fun n m => by rw [List.mem_singleton.mp m]; exact b1⟩
    have sh2 : ShN [x1, x2] := ⟨by show 2 ≤ 4; decide, fun n m => by
      simp only [List.mem_cons, List.not_mem_nil, or_false] at m
      rcases m with rfl | rfl <;> assumption⟩
    have sh3 : ShN [x1, x2, x3] := ⟨by show 3 ≤ 4; decide, fun n m => by
      simp only [List.mem_cons, List.not_mem_nil, or_false] at m
      rcases m with rfl | rfl | rfl <;> assumption⟩
    have sh4 : ShN [x1, x3, x2, x1] := ⟨by show 4 ≤ 4; decide, fun n m => by
      simp only [List.mem_cons, List.not_mem_nil, or_false] at m
      rcases m with rfl | rfl | rfl | rfl <;> assumption⟩
    refine lstI (of_tellsC _ sh0 (fun H Q h => h) (fun H Q h => h) fun v0 H5 s5 o0 => ?_)
    refine of_tellsC _ sh1 (fun H Q h => ⟨_, rfl, h⟩) (fun H Q h => ⟨_, rfl, h⟩) fun v1 H6 s6 o1 => ?_
    refine of_tellsC _ sh2 (fun H Q h => ⟨_, rfl, _, rfl, h⟩) (fun H Q h => ⟨_, rfl, _, rfl, h⟩) fun v2 H7 s7 o2 => nilI ⟨z3, fun l1 nl1 => ?_⟩
    have s8 := same_upd (o := .lst [v0, v1, v2]) nl1
    have e8 : (upd H7 l1 (.lst [v0, v1, v2])) l1 = some (.lst [v0, v1, v2]) := upd_same
    generalize upd H7 l1 (.lst [v0, v1, v2]) = H8 at s8 e8 ⊢
    refine ⟨_, rfl, ?_⟩
    refine lstI (of_tellsC _ sh3 (fun H Q h => ⟨_, rfl, _, rfl, _, rfl, h⟩) (fun H Q h => ⟨_, rfl, _, rfl, _, rfl, h⟩) fun v3 H9 s9 o3 => ?_)
    refine of_tellsC _ sh4 (fun H Q h => ⟨_, rfl, _, rfl, _, rfl, _, rfl, h⟩) (fun H Q h => ⟨_, rfl, _, rfl, _, rfl, _, rfl, h⟩) fun v4 H10 s10 o4 => nilI ⟨by rw [sizeLine_eq]; show 2 ≤ 16777216; decide, fun l2 nl2 => ?_⟩
    have s11 := same_upd (o := .lst [v3, v4]) nl2
    have e11 : (upd H10 l2 (.lst [v3, v4])) l2 = some (.lst [v3, v4]) := upd_same
    generalize upd H10 l2 (.lst [v3, v4]) = H11 at s11 e11 ⊢
    refine ⟨l1, l2, _, _, rfl, rfl, (s9.trans (s10.trans s11)) _ _ e8, e11, by rw [sizeLine_eq]; show 5 ≤ 16777216; decide, fun l3 nl3 => ?_⟩
    have s12 := same_upd (o := .lst ([v0, v1, v2] ++ [v3, v4])) nl3
    have e12 : (upd H11 l3 (.lst ([v0, v1, v2] ++ [v3, v4]))) l3 = some (.lst [v0, v1, v2, v3, v4]) := upd_same
    generalize upd H11 l3 (.lst ([v0, v1, v2] ++ [v3, v4])) = H12 at s12 e12 ⊢
    have q4 := s11.trans s12
    have q3 := s10.trans q4
    have q2 := s8.trans (s9.trans q3)
    have q1 := s7.trans q2
    have q0 := s6.trans q1
    have T12 := T4.same (s5.trans q0)
    have k12 := k4.same (s5.trans q0)
    have hP : Paired (OfE CB C H12) [v0, v1, v2, v3, v4] [[], [x1], [x1, x2], [x1, x2, x3], [x1, x3, x2, x1]] := .cons (o0.same q0) (.cons (o1.same q1) (.cons (o2.same q2) (.cons (o3.same q3) (.cons (o4.same q4) .nil))))
    have sh : ∀ l ∈ [[], [x1], [x1, x2], [x1, x2, x3], [x1, x3, x2, x1]], ShN l := fun l m => by
      simp only [List.mem_cons, List.not_mem_nil, or_false] at m
      rcases m with rfl | rfl | rfl | rfl | rfl <;> assumption
    clear o0 o1 o2 o3 o4 q0 q1 q2 q3 q4 s5 s6 s7 s8 s9 s10 s11 s12 e8 e11 nl1 nl2 nl3 T4 k4 sh0 sh1 sh2 sh3 sh4
    generalize ([[], [x1], [x1, x2], [x1, x2, x3], [x1, x3, x2, x1]] : List (List Str)) = ls at hP sh
    generalize ([v0, v1, v2, v3, v4] : List V) = ws at hP e12
    dsimp only [tNext, tSeq, tAsg, gName]
    refine ⟨_, rfl, l3, rfl, ⟨_, SqL.of e12⟩, ?_⟩
    refine for_it (walk_list (xs := ws)) (fun i σ Hx => (∃ o5 o6, σ = [some (.ref t), some (.str x1), some (.str x2), some (.str x3), some (.ref l3), o5, o6, none]) ∧ Same H12 Hx) ⟨⟨none, none, rfl⟩, Same.refl _⟩ (fun i σ Hx _ hP => SqL.of (hP.2 _ _ e12)) ?_ ?_
    · rintro j x σ Hx Hx' hj ⟨⟨o5, o6, rfl⟩, sx⟩ ⟨rfl, ex⟩
      obtain ⟨l, el, ho⟩ := Paired.at' hP j x ex
      obtain ⟨p, a, L, ys, rfl, h1, h2', h3, py, sy⟩ := ho.same sx
      have shl := sh l (List.mem_of_getElem? el)
      refine ⟨p, _, rfl, SqT.of h1, rfl, _, _, rfl, _, _, rfl, rfl, ?_⟩
      dsimp only [tNext, tSeq, tAsg, gName]
      refine ⟨_, rfl, _, rfl, L, rfl, ⟨_, SqL.of h2'⟩, fun D nD => ?_⟩
      refine lc_it (walk_list (xs := l.map V.str)) (CntP Hx' D l) ⟨same_upd nD, [], upd_same, .nil⟩ (fun j Hy _ hP => SqL.of (hP.1 _ _ h2')) (fun j x Hy H' hj hP hy => cnt_step h2' shl.1 nD j x Hy H' hP hy) (fun Hy hP => ?_)
      obtain ⟨sy2, ps, hD, hN⟩ := hP
      rw [List.length_map, List.take_length] at hN
      obtain ⟨kvs2, u1, u2⟩ := hN.kvs (K := K)
      refine ⟨D, ps, kvs2, rfl, SqL.of hD, u1, fun d nd => ?_⟩
      have sd : Same Hy (upd Hy d (.dK (mergeK [] kvs2))) := same_upd nd
      refine nilI (of_isAs shl (h3.same (sy2.trans sd)) py sy (u2.same sd) upd_same fun Hz sz => ⟨true, rfl, iteF ?_⟩)
      exact ⟨⟨_, _, rfl⟩, sx.trans (sy2.trans (sd.trans sz))⟩
    · rintro σ Hx ⟨⟨o5, o6, rfl⟩, sx⟩
      exact k i3 g3 Hx a30 (by omega) a32 (k12.same sx) (T12.same sx)
end
end K04
namespace K04
open PySem PySem.Spec PyProof.Rows L2 RatM LamX ClX
/-! ### == with whatever stands at the right -/
def rEqOdd (CB CR CS : Addr) (sp : Sp) (E : XK) : R2 := fun x y H Q => ∃ a, x = .ref a ∧ InsAt H a CB ∧ RtK CB CR CS H y ∧ sp [x, y] H (fun v H' => ∃ k, v = .bl k ∧ Q (.bl k) H') E
structure NfK (K : PySem.W.Frag) (CB CR CS : Addr) : Prop where
  t : ∀ T ∈ "int" :: oddTypes, PySem.W.notFirst K CB (.type T) = true
  b : PySem.W.notFirst K CB (.ref CB) = true
  r : PySem.W.notFirst K CB (.ref CR) = true
  s : PySem.W.notFirst K CB (.ref CS) = true
theorem op_eqOdd {X : Cx} {CX : CXT} {n : Nat} {CB CR CS f : Addr} {fd : FuncData} {ps : List Str} {sp : Sp} {E : XK} (N : NfK X.K CB CR CS) (M : OwnM X.K CB "__eq__" f)
    (F : FnOk X.prog X.w X.K X.mg X.base CX n f fd ps sp) (hr : Room n X.A) (hb : Binds X.K fd ps []) (hx : Passes CX X E) : OpR X (compareOp .Eq) (rEqOdd CB CR CS sp E) := by
  intro pins s σ H x y v u Q I rx ry h
  obtain ⟨a, rfl, ha, hy, q⟩ := h
  have go : ∀ tb, TyAt X H y tb → PySem.W.notFirst X.K CB tb = true → _ := fun tb h1 h2 => op_eqOwn M F hr hb hx pins s σ H _ _ v u Q I rx ry ⟨a, tb, rfl, ha, h1, h2, q⟩
  cases hy with
  | odd T h => exact go _ h.at_ (N.t T (List.mem_cons_of_mem _ h.mem))
  | int i => exact go _ (ty_plain (plainT_int i)) (N.t _ List.mem_cons_self)
  | same h => exact go _ (ty_ins h) N.b
  | rat h => exact go _ (ty_ins h) N.r
  | sca h => exact go _ (ty_ins h) N.s
/-! ### keys of unlike lengths -/
theorem eqvAll_len : ∀ (a b : List PyData), a.length ≠ b.length → PyData.eqvAll a b = false
  | [], [], h => absurd rfl h
  | [], _ :: _, _ => rfl
  | _ :: _, [], _ => rfl
  | x :: a, y :: b, h => by
    have := eqvAll_len a b (by simpa using h)
    simp only [PyData.eqvAll, this, Bool.and_false]
theorem keyD_len (g : Str → Int × Int) : ∀ zs : List Str, (keyD g zs).length = 3 * zs.length
  | [] => rfl
  | n :: t => by
    rw [keyD_cons]
    have := keyD_len g t
    simp only [List.length_cons]
    omega
theorem eqv_key_ne {g g2 : Str → Int × Int} {zs zs2 : List Str} (h : zs.length ≠ zs2.length) : PyData.eqv (.tuple (keyD g zs)) (.tuple (keyD g2 zs2)) = false := by
  have := eqvAll_len (keyD g zs) (keyD g2 zs2) (by rw [keyD_len, keyD_len]; omega)
  simpa only [PyData.eqv] using this
/-! ### what the pools' names are not -/
theorem pool_facts : ∀ n ∈ pools.flatten, n ≠ "q" ∧ n ≠ "late" ∧ ((n ≠ "" ∧ n.length < 12) ∨ n = "abcdefghij12") := by decide +kernel
theorem pool_above {n : Str} (h : n ∈ pools.flatten) : ∃ m, aboveT n m := by
  obtain ⟨_, _, h | h⟩ := pool_facts n h
  · exact ⟨_, .inl ⟨h.1, h.2, rfl⟩⟩
  · exact ⟨_, .inr ⟨h, rfl⟩⟩
/-! ### pairs of a name and a number, being made -/
theorem NtP.snoc {H5 : Hp} {C D p : Addr} {v : V} {xs : List V} {ob : HO} {g : Str → Int × Int} {ps : List Addr} {ks : List Str} {i : Nat} {n : Str} (h : NtP H5 C g ps (ks.take i)) (en : ks[i]? = some n) (hD : H5 D = some (.lst xs)) (hp : H5 p = some (.tup [.str n, v])) (hv : NumAt H5 C v (g n).1 (g n).2) :
    NtP (L2.upd H5 D ob) C g (ps ++ [p]) (ks.take (i + 1)) := by
  rw [List.take_add_one, en]
  exact Paired.snoc (h.upd hD (fun _ z => by cases z) (fun _ _ z => by cases z)) ⟨v, (upd_ne fun z => by rw [z, hD] at hp; cases hp).trans hp, hv.upd_any fun dx fs z => by rw [hD] at z; cases z⟩
def ToldP (HL : Hp) (C D t c : Addr) (cells : List Int) (i : Int) (g : Str → Int × Int) (xs : List Str) (j : Nat) (Hx : Hp) : Prop := Keep t HL Hx ∧ (∃ i' g', 0 ≤ i' ∧ i' ≤ i + 2 * (j : Nat) ∧ 0 ≤ g' ∧ Till Hx t c cells i' g') ∧ ∃ ps : List Addr, Hx D = some (.lst (ps.map V.ref)) ∧ NtP Hx C g ps (xs.take j)
theorem told_turn {HL : Hp} {C D t c d : Addr} {cells : List Int} {i : Int} {kvs : List (Key × V)} {ks xs : List Str} {g : Str → Int × Int} {s1 s3 s4 s5 s6 s7 s8 s9 : Option V} (hd : HL d = some (.dK kvs)) (hp : PlD HL g kvs ks) (sub : ∀ n ∈ xs, n ∈ ks) (fr : ∀ n ∈ ks, FrD (g n)) (l4 : xs.length ≤ 4) (hT : ∃ g, Till HL t c cells i g) (hi : 0 ≤ i ∧ i ≤ 800000) (nD : HL D = none) (j : Nat) (x : V) (Hx H' : Hp) (hP : ToldP HL C D t c cells i g xs j Hx) (hy : YAt (xs.map V.str) j Hx x H') :
    gName 7 x (wipe [some (.ref t), s1, some (.ref d), s3, s4, s5, s6, s7, s8, s9] [7]) H' fun σ2 H2 => wipe σ2 [7] = wipe [some (.ref t), s1, some (.ref d), s3, s4, s5, s6, s7, s8, s9] [7] ∧ tYes σ2 H2 fun b H3 =>
      if b = true then tTup (tCons (tVar 7) (tCons (tCall (spRt C) [] E0 (tCons (tVar 0) (tCons (tDGet (tVar 2) (tVar 7)) tNil))) tNil)) σ2 H3 fun y H4 => ∃ acc, H4 D = some (.lst acc) ∧ acc.length < sizeLine ∧ ToldP HL C D t c cells i g xs (j + 1) (upd H4 D (.lst (acc ++ [y]))) else ToldP HL C D t c cells i g xs (j + 1) H3 := by
  obtain ⟨rfl, ex⟩ := hy
  obtain ⟨kp, ⟨i', g', a0, a1, a2, hTx⟩, ps, hD, hN⟩ := hP
  obtain ⟨gg, hT⟩ := hT
  have nDt : D ≠ t := hT.off nD
  have nDc : D ≠ c := fun e => by rw [e, hT.hc] at nD; cases nD
  have ndt : d ≠ t := hT.notLst hd fun _ z => by cases z
  rw [List.getElem?_map] at ex
  obtain ⟨n, en, rfl⟩ := Option.map_eq_some_iff.mp ex
  have jl : j < xs.length := (List.getElem?_eq_some_iff.mp en).1
  have mn := sub n (List.mem_of_getElem? en)
  obtain ⟨o, ev, ho⟩ := (hp.keep hT kp).val mn
  have not_ : o ≠ t := fun e => by rw [e, hTx.ht] at ho; cases ho
  refine ⟨rfl, yesI ?_⟩
  refine ⟨_, rfl, _, rfl, _, rfl, _, rfl, d, .ref o, rfl, ?_, ?_⟩
  · have z : DGet H' d (kV (.inr n)) (valV kvs (.inr n)) := DGet.k (kp _ _ ndt hd)
    rw [ev] at z
    exact z
  refine ⟨t, o, c, cells, i', g', g n, rfl, not_, ho, fr n mn, hTx, a0, by omega, a2, fun v i2 g2 H2 hv b0 b1 b2 kp2 hT2 => ?_⟩
  refine ⟨by rw [sizeLine_eq]; show 2 ≤ 16777216; decide, fun p np => ?_⟩
  have sp : Same H2 (upd H2 p (.tup [.str n, v])) := same_upd np
  have ep : (upd H2 p (.tup [.str n, v])) p = some (.tup [.str n, v]) := upd_same
  have hD2 := kp2 _ _ nDt hD
  refine ⟨_, sp _ _ hD2, ?_, fun b ob nb e => ?_, ⟨i2, g2, b0, by omega, b2, (hT2.same sp).upd nDt nDc⟩, ps ++ [p], ?_, ?_⟩
  · have f2 := List.length_take (i := j) (l := xs)
    have f3 := Paired.length hN
    simp only [List.length_map]
    rw [sizeLine_eq]; omega
  · rw [upd_ne (ne_of_none e nD)]
    exact sp _ _ (kp2 _ _ nb (kp _ _ nb e))
  · rw [upd_same, List.map_append]; rfl
  · exact NtP.snoc (Paired.mono' (fun a _ ⟨v, e, n⟩ => ⟨v, sp _ _ e, n.same sp⟩) (hN.keep hTx kp2)) en (sp _ _ hD2) ep (hv.same sp)
theorem told_turnL {HL : Hp} {C D t c d : Addr} {cells : List Int} {i : Int} {kvs : List (Key × V)} {ks xs : List Str} {g : Str → Int × Int} {s0 s2 s4 s5 s6 s7 : Option V} (hd : HL d = some (.dK kvs)) (hp : PlD HL g kvs ks) (sub : ∀ n ∈ xs, n ∈ ks) (fr : ∀ n ∈ ks, FrD (g n)) (l4 : xs.length ≤ 4) (hT : ∃ g, Till HL t c cells i g) (hi : 0 ≤ i ∧ i ≤ 800000) (nD : HL D = none) (j : Nat) (x : V) (Hx H' : Hp) (hP : ToldP HL C D t c cells i g xs j Hx) (hy : YAt (xs.map V.str) j Hx x H') :
    gName 6 x (wipe [s0, some (.ref t), s2, some (.ref d), s4, s5, s6, s7] [6]) H' fun σ2 H2 => wipe σ2 [6] = wipe [s0, some (.ref t), s2, some (.ref d), s4, s5, s6, s7] [6] ∧ tYes σ2 H2 fun b H3 =>
      if b = true then tTup (tCons (tVar 6) (tCons (tCall (spRt C) [] E0 (tCons (tVar 1) (tCons (tDGet (tVar 3) (tVar 6)) tNil))) tNil)) σ2 H3 fun y H4 => ∃ acc, H4 D = some (.lst acc) ∧ acc.length < sizeLine ∧ ToldP HL C D t c cells i g xs (j + 1) (upd H4 D (.lst (acc ++ [y]))) else ToldP HL C D t c cells i g xs (j + 1) H3 := by
  obtain ⟨rfl, ex⟩ := hy
  obtain ⟨kp, ⟨i', g', a0, a1, a2, hTx⟩, ps, hD, hN⟩ := hP
  obtain ⟨gg, hT⟩ := hT
  have nDt : D ≠ t := hT.off nD
  have nDc : D ≠ c := fun e => by rw [e, hT.hc] at nD; cases nD
  have ndt : d ≠ t := hT.notLst hd fun _ z => by cases z
  rw [List.getElem?_map] at ex
  obtain ⟨n, en, rfl⟩ := Option.map_eq_some_iff.mp ex
  have jl : j < xs.length := (List.getElem?_eq_some_iff.mp en).1
  have mn := sub n (List.mem_of_getElem? en)
  obtain ⟨o, ev, ho⟩ := (hp.keep hT kp).val mn
  have not_ : o ≠ t := fun e => by rw [e, hTx.ht] at ho; cases ho
  refine ⟨rfl, yesI ?_⟩
  refine ⟨_, rfl, _, rfl, _, rfl, _, rfl, d, .ref o, rfl, ?_, ?_⟩
  · have z : DGet H' d (kV (.inr n)) (valV kvs (.inr n)) := DGet.k (kp _ _ ndt hd)
    rw [ev] at z
    exact z
  refine ⟨t, o, c, cells, i', g', g n, rfl, not_, ho, fr n mn, hTx, a0, by omega, a2, fun v i2 g2 H2 hv b0 b1 b2 kp2 hT2 => ?_⟩
  refine ⟨by rw [sizeLine_eq]; show 2 ≤ 16777216; decide, fun p np => ?_⟩
  have sp : Same H2 (upd H2 p (.tup [.str n, v])) := same_upd np
  have ep : (upd H2 p (.tup [.str n, v])) p = some (.tup [.str n, v]) := upd_same
  have hD2 := kp2 _ _ nDt hD
  refine ⟨_, sp _ _ hD2, ?_, fun b ob nb e => ?_, ⟨i2, g2, b0, by omega, b2, (hT2.same sp).upd nDt nDc⟩, ps ++ [p], ?_, ?_⟩
  · have f2 := List.length_take (i := j) (l := xs)
    have f3 := Paired.length hN
    simp only [List.length_map]
    rw [sizeLine_eq]; omega
  · rw [upd_ne (ne_of_none e nD)]
    exact sp _ _ (kp2 _ _ nb (kp _ _ nb e))
  · rw [upd_same, List.map_append]; rfl
  · exact NtP.snoc (Paired.mono' (fun a _ ⟨v, e, n⟩ => ⟨v, sp _ _ e, n.same sp⟩) (hN.keep hTx kp2)) en (sp _ _ hD2) ep (hv.same sp)

/-- a turn of what walks over a plain balance's items -/
theorem plain_turn {HL Hx H' : Hp} {g : Str → Int × Int} {kvs : List (Key × V)} {zs : List Str} {i : Nat} {x : V} (hRL : PlD HL g kvs zs) (s2 : Same HL Hx) (hy : YPair (fun i => kvs[i]?.map fun kv => kV kv.1) (fun i => kvs[i]?.map Prod.snd) i Hx x H') :
    ∃ TT n b, zs[i]? = some n ∧ x = .ref TT ∧ Same Hx H' ∧ H' TT = some (.tup [.str n, .ref b]) ∧ H' b = some (.tup (tupF (g n))) := by
  obtain ⟨TT, xk, xv, rfl, nTT, rfl, e1, e2⟩ := hy
  dsimp only at e1 e2
  obtain ⟨kv, ekv, e1⟩ := Option.map_eq_some_iff.mp e1
  rw [ekv] at e2
  obtain rfl : kv.2 = xv := by simpa using e2
  obtain ⟨n, en, ek, b, eb, hb⟩ := Paired.at' hRL i _ ekv
  rw [ek] at e1
  subst e1
  rw [eb]
  have s3 : Same Hx (upd Hx TT (.tup [kV (.inr n), .ref b])) := same_upd nTT
  exact ⟨TT, n, b, en, rfl, s3, upd_same, (s2.trans s3) _ _ hb⟩
end K04
namespace K04
open PySem PySem.Spec PyProof.Rows L2 RatM LamX ClX
/-- what the law's equal ones rest on -/
structure ErK (P : Program) (w : World) (K : PySem.W.Frag) (mg : Str → Option Value) (base : Heap) (CS CB C BR : Addr) : Prop where
  B : BalK P w K mg base CB C
  L : LwK P w K mg base CB C BR
  R : RatK P w K mg base C BR
  SK : ScaK P w K mg base CS C
  nf : NfK K CB C CS
  kT : ∀ T ∈ "int" :: oddTypes, PySem.W.kitOne K (.type T) (.ref CB) = some false
  kS : PySem.W.kitOne K (.ref CS) (.ref CB) = some false
  yS : ∀ (H : Hp) (a : Addr), InsAt H a CS → TyX K H (.ref a) (.ref CS)
  eq : ∃ (f : Addr) (fd : FuncData), OwnM K CB "__eq__" f ∧ FnOk P w K mg base CX0 1 f fd ["self", "other"] (spEqB CB C) ∧ FnOk P w K mg base CX0 1 f fd ["self", "other"] (spEqO K CB) ∧ Binds K fd ["self", "other"] []
  named : ∃ (f : Addr) (fd : FuncData), FnOk P w K mg base CX0 1 f fd ["_law_plain"] spNamed ∧ Binds K fd ["_law_plain"] [] ∧ PySem.W.keepIn K (.ref f) = true ∧ mg "_law_named" = some (.ref f)
  ratio : ∃ (f : Addr) (fd : FuncData), FnOk P w K mg base CX0 5 f fd ["_law_reel_here", "_law_pair"] (spRt C) ∧ Binds K fd ["_law_reel_here", "_law_pair"] [] ∧ PySem.W.keepIn K (.ref f) = true ∧ mg "_law_ratio" = some (.ref f)
def spEr (CB C : Addr) : Sp := fun vs H Q _ => ∃ (t b d l c : Addr) (cells : List Int) (i gg : Int) (kvs : List (Key × V)) (ks ys ws : List Str) (g : Str → Int × Int), vs = [.ref t, .ref b, .ref d, .ref l] ∧ Till H t c cells i gg ∧ 0 ≤ i ∧ i ≤ 700000 ∧ 0 ≤ gg ∧
  H d = some (.dK kvs) ∧ PlD H g kvs ks ∧ ThOk ks ∧ (∀ n ∈ ks, n ∈ pools.flatten) ∧ (∀ n ∈ ks, FrD (g n)) ∧ BalAt H b CB C g (nz g ys) ∧ ys.Perm ks ∧ sortedS ys = true ∧ l ≠ t ∧ H l = some (.lst (ws.map V.str)) ∧ ws.Perm ks ∧
  ∀ (i' g' : Int) (H' : Hp), 0 ≤ i' → i' ≤ i + 8 → 0 ≤ g' → Keep t H H' → Till H' t c cells i' g' → Q (.bl true) H'
theorem NumD.congr {H : Hp} {C : Addr} {g g2 : Str → Int × Int} {kvs : List (Key × V)} {ks : List Str} (h : NumD H C g kvs ks) (e : ∀ n ∈ ks, g2 n = g n) : NumD H C g2 kvs ks := by
  induction h with
  | nil => exact .nil
  | @cons a n l1 l2 x t ih => exact .cons ⟨x.1, by rw [e n List.mem_cons_self]; exact x.2⟩ (ih fun m hm => e m (List.mem_cons_of_mem _ hm))
theorem cut_one {xs : List V} : cutV xs (some (1 : Int)) none = xs.drop 1 := by
  show cutV xs (some ((1 : Nat) : Int)) none = xs.drop 1
  cases xs with
  | nil => rfl
  | cons a t => exact cut_from 1 (by simp)
section
variable {P : Program} {w : World} {K : PySem.W.Frag} {mg : Str → Option Value} {base : Heap} {C BR CB BB CS : Addr}
abbrev nsEr : List Str := ["_law_reel_here", "_law_balance", "_law_plain", "_law_turned", "_law_same", "_law_more", "_law_less", "_law_thing", "_law_pair", "_law_odd"]
theorem scEr : FnScope nsEr ["_law_reel_here", "_law_balance", "_law_plain", "_law_turned"] (defScope (top 71)) := ⟨rfl, rfl, rfl, by decide +kernel, rfl, by decide +kernel, by decide +kernel⟩
theorem ok_equalRight {f : Addr} {fd : FuncData} (F : FnP K "_law_equal_right" (top 71) f fd) (Z : ErK P w K mg base CS CB C BR) : FnOk P w K mg base CX0 10 f fd ["_law_reel_here", "_law_balance", "_law_plain", "_law_turned"] (spEr CB C) := by
  obtain ⟨fQ, fdQ, MQ, GQ, GQO, bQ⟩ := Z.eq
  obtain ⟨fN, fdN, GN, bN, kN, gN⟩ := Z.named
  obtain ⟨fR, fdR, GR, bR, kR, gR⟩ := Z.ratio
  obtain ⟨fS, fdS, MS, GS, bS⟩ := Z.L.strB
  refine F.ok scEr (fun vs H Q E h => ?_) (fun cdv A outer s H vs Q E hr h => ?_)
  · obtain ⟨t, b, d, l, c, cells, i, gg, kvs, ks, ys, ws, g, rfl, _⟩ := h
    rfl
  · obtain ⟨t, b, d, l, c, cells, i, gg, kvs, ks, ys, ws, g, rfl, hT, hi0, hi1, hg, hd, hp, ok, po, fr, hb, py, sy, nlt, hl, pw, k⟩ := h
    have h9 : Room 9 _ := hr
    have h5 : Room 5 _ := h9.mono (by decide)
    have h4 : Room 4 _ := h9.mono (by decide)
    have h1 : Room 1 _ := h9.mono (by decide)
    have hu64 : (A.deeper (envOfC (Str.ofString "_law_equal_right") (defScope (top 71)) s.heap.objs.size f cdv)).units + 64 < cLine := by have := h9.units; omega
    have hu1 : (A.deeper (envOfC (Str.ofString "_law_equal_right") (defScope (top 71)) s.heap.objs.size f cdv)).units + 1 < cLine := by omega
    refine ⟨_, PSs.nox (pss_cons (ps_set (i := 4) scEr.nd rfl (.inl rfl) (pe_bal Z.B h9 (E := E0) passL rfl (pa_cons (pe_callTy (call_dictP rfl) (by rfl) Z.L.dict PyProof.Rows.boot_dict (pa_cons (pe_lc (own := [("_law_thing", 7)]) (g := gName 7) (tt := tYes) (te := tTup (tCons (tVar 7) (tCons (tCall (spRt C) [] E0 (tCons (tVar 0) (tCons (tDGet (tVar 2) (tVar 7)) tNil))) tNil))) rfl scEr.nd (pi_list (pv 3)) (blkOk_by (N := nsEr) (sc := defScope (top 71)) (by decide +kernel)) (fun _ _ _ _ _ => pg_name (i := 7) scEr.nd rfl (Or.inl rfl)) (fun _ _ _ _ _ => pts_nil) (fun _ _ _ _ _ => pe_tup (pa_cons (pv 7) (pa_cons (pe_call GR (by exact h5) rfl gR kR bR .nil pass0 (pa_cons (pv 0) (pa_cons (pe_dget (by exact hu1) (pv 2) (pv 7) (fun _ _ => rfl)) pa_nil))) pa_nil)))) pa_nil)) pa_nil)))
      (pss_cons (ps_set (i := 5) scEr.nd rfl (.inr rfl) (pe_callTy (call_dictP rfl) (by rfl) Z.L.dict PyProof.Rows.boot_dict (pa_cons (pe_lock (pe_lc (own := [("_law_thing", 7), ("_law_pair", 8)]) (g := gTup K 2 (gCons (gName 7) (gCons (gName 8) gNil))) (tt := tYes) (te := tTup (tCons (tVar 7) (tCons (tRat2 K C BR E0 (tCons (tOp (rIxT K) (tVar 8) (tC (.int 0))) (tCons (tOp (rIxT K) (tVar 8) (tC (.int 1))) tNil))) tNil))) rfl scEr.nd (pi_items (pv 2)) (blkOk_by (N := nsEr) (sc := defScope (top 71)) (by decide +kernel)) (fun _ _ _ _ _ => pg_tup rfl (pgs_cons (pg_name (i := 7) scEr.nd rfl (Or.inl rfl)) (pgs_cons (pg_name (i := 8) scEr.nd rfl (Or.inl rfl)) pgs_nil))) (fun _ _ _ _ _ => pts_nil) (fun _ _ _ _ _ => pe_tup (pa_cons (pv 7) (pa_cons (pe_rat2 Z.R (by exact h4) (E := E0) passL rfl (pa_cons (pe_ix ix_tup (pv 8) pe_int (fun _ _ => rfl)) (pa_cons (pe_ix ix_tup (pv 8) pe_int (fun _ _ => rfl)) pa_nil))) pa_nil))))) pa_nil)))
      (pss_cons (ps_dput hu1 (pv 5) pe_str pe_int (by rfl))
      (pss_cons (ps_set (i := 6) scEr.nd rfl (.inl rfl) (pe_callTy (call_dictP rfl) (by rfl) Z.L.dict PyProof.Rows.boot_dict (pa_cons (pe_lc (own := [("_law_thing", 7)]) (g := gName 7) (tt := tYes) (te := tTup (tCons (tVar 7) (tCons (tDGet (tVar 5) (tVar 7)) tNil))) rfl scEr.nd (pi_list (pe_slice sl_list (pe_call GN h1 rfl gN kN bN .nil pass0 (pa_cons (pv 2) pa_nil)) (po_some pe_int) po_none)) (blkOk_by (N := nsEr) (sc := defScope (top 71)) (by decide +kernel)) (fun _ _ _ _ _ => pg_name (i := 7) scEr.nd rfl (Or.inl rfl)) (fun _ _ _ _ _ => pts_nil) (fun _ _ _ _ _ => pe_tup (pa_cons (pv 7) (pa_cons (pe_dget (by exact hu1) (pv 5) (pv 7) (fun _ _ => rfl)) pa_nil)))) pa_nil)))
      (pss_cons (ps_if (PW.pt (pw_or (pt_not (pt_cmpR (op_eqOdd Z.nf MQ GQ h1 bQ (E := E0) pass0) (pv 4) (pv 1) (nomark _))) (pw_or (pt_cmpR (op_eqOdd Z.nf MQ GQ h1 bQ (E := E0) pass0) (pe_bal Z.B h9 (E := E0) passL rfl (pa_cons (pv 5) pa_nil)) (pv 1) (nomark _)) (pw_or1 (pt_cmpR op_ne (pe_cmpR (op_eqOdd Z.nf MQ GQ h1 bQ (E := E0) pass0) (pe_bal Z.B h9 (E := E0) passL rfl (pa_cons (pv 6) pa_nil)) (pv 1) (nomark _)) (pe_cmpR (op_eqP hu64) (pe_call GN h1 rfl gN kN bN .nil pass0 (pa_cons (pv 2) pa_nil)) (pe_lst pa_nil) (nomark _)) (nomark _)))))) (pss_one (ps_ret pe_bl)) pss_nil)
      (pss_one (ps_ret (pe_cmpR (op_eqP hu64) (pe_lc (own := [("_law_odd", 9)]) (g := gName 9) (tt := tTest (tOp (rEqOdd CB C CS (spEqO K CB) E0) (tVar 1) (tVar 9))) (te := tVar 9) rfl scEr.nd (pi_tup (pe_tup (pa_cons pe_non (pa_cons pe_int (pa_cons (pe_callTy (call_ownStr MS GS (by exact h9) bS (E := E0) pass0) (by rfl) Z.L.str PyProof.Rows.boot_str (pa_cons (pv 1) pa_nil)) (pa_cons (pv 2) (pa_cons (pe_fld (pv 1) rfl) (pa_cons (pe_sca Z.SK h9 (E := E0) passL rfl (pa_cons (pv 5) pa_nil)) pa_nil)))))))) (blkOk_by (N := nsEr) (sc := defScope (top 71)) (by decide +kernel)) (fun _ _ _ _ _ => pg_name (i := 9) scEr.nd rfl (Or.inl rfl)) (fun _ _ _ _ _ => pts_one (pt_cmpR (op_eqOdd Z.nf MQ GQO (by exact h1) bQ (E := E0) pass0) (pv 1) (pv 9) (nomark _))) (fun _ _ _ _ _ => pv 9)) (pe_lst pa_nil) (nomark _))))))))), ?_⟩
    have l4 : ws.length ≤ 4 := by rw [pw.length_eq]; exact ok.le
    have nws : ws.Nodup := pw.nodup_iff.mpr ok.nd
    have okw : NsOk ws := ok.ns.perm pw
    have mem0 : ∀ n, n ∈ ys ↔ n ∈ ks := fun n => py.mem_iff
    -- the same, told anew
    refine ⟨_, rfl, l, rfl, ⟨_, SqL.of hl⟩, fun D1 nD1 => ?_⟩
    refine lc_it (walk_list (xs := ws.map V.str)) (ToldP H C D1 t c cells i g ws) ⟨Keep.refl.same (same_upd nD1), ⟨i, gg, hi0, by omega, hg, hT.same (same_upd nD1)⟩, [], upd_same, .nil⟩ (fun j Hx _ hP => SqL.of (hP.1 _ _ nlt hl)) (fun j x Hx H' hj hP hy => told_turn hd hp (fun n m => pw.mem_iff.mp m) fr l4 ⟨_, hT⟩ ⟨hi0, by omega⟩ nD1 j x Hx H' hP hy) (fun H1 hP => ?_)
    obtain ⟨kp1, ⟨i1, g1, a0, a1, a2, hT1⟩, ps1, hD1, hN1⟩ := hP
    rw [List.length_map, List.take_length] at hN1
    rw [List.length_map] at a1
    obtain ⟨kv1, u1, u2⟩ := hN1.kvs (K := K)
    refine ⟨D1, ps1, kv1, rfl, SqL.of hD1, u1, fun d1 nd1 => ?_⟩
    rw [mergeK_names u2.kyn nws]
    have s1 : Same H1 (upd H1 d1 (.dK kv1)) := same_upd nd1
    refine ⟨_, rfl, d1, kv1, ws, g, rfl, upd_same, u2.same s1, okw, fun a1' ys1 H2 s2 na py1 sy1 hb1 => ?_⟩
    obtain rfl : ys1 = ys := sorted_unique sy1 sy (py1.trans (pw.trans py.symm))
    have s12 := s1.trans s2
    have k2 : Keep t H H2 := kp1.same s12
    have T2 := hT1.same s12
    have hd2 := k2 _ _ (hT.notLst hd fun _ z => by cases z) hd
    have hp2 := hp.keep hT k2
    have hb2 : BalAt H2 b CB C g (nz g ys1) := by
      obtain ⟨dx', nd, tp, kt, e, ⟨kvs, e1, r⟩, e2, e3⟩ := hb
      have kp : ∀ {b : Addr} {o : HO}, H b = some o → (∀ xs, o ≠ .lst xs) → H2 b = some o := fun e n => k2 _ _ (hT.notLst e n) e
      exact ⟨dx', nd, tp, kt, kp e (fun _ z => by cases z), ⟨kvs, kp e1 (fun _ z => by cases z), Paired.mono' (fun _ _ ⟨x1, b', x2, dxb, x3⟩ => ⟨x1, b', x2, dxb, kp x3 fun _ z => by cases z⟩) r⟩, kp e2 (fun _ z => by cases z), kp e3 (fun _ z => by cases z)⟩
    clear hb kp1 hT1 hD1 hN1 u1 u2 s1 s2 s12 nd1 na hl hd hp hT
    dsimp only [tNext, tSeq, tAsg, gName]
    -- one thing more
    refine ⟨d, .dK kvs, hd2, True.intro, fun od => ?_⟩
    refine ⟨_, rfl, d, od, kvs, rfl, upd_same, fun D2 nD2 => ?_⟩
    have nDd : D2 ≠ d := fun e => by rw [e, upd_same] at nD2; cases nD2
    have hpL : PlD (upd H2 d (.frz od (.dK kvs))) g kvs ks := hp2.locked hd2
    have hdL : (upd H2 d (.frz od (.dK kvs))) d = some (.frz od (.dK kvs)) := upd_same
    have ul : ∀ Hx, Same (upd H2 d (.frz od (.dK kvs))) Hx → Same H2 (upd Hx d (.dK kvs)) := fun Hx s => unlock_same hd2 s
    generalize upd H2 d (.frz od (.dK kvs)) = HL at nD2 hpL hdL ul ⊢
    have ix0 : ∀ p q : Int, atI [V.int p, V.int q] 0 = some (.int p) := fun p q => rfl
    have ix1 : ∀ p q : Int, atI [V.int p, V.int q] 1 = some (.int q) := fun p q => rfl
    refine lc_it walk_items (fun j Hx => Same HL Hx ∧ ∃ ps : List Addr, Hx D2 = some (.lst (ps.map V.ref)) ∧ NtP Hx C g ps (ks.take j)) ⟨same_upd nD2, [], upd_same, .nil⟩ (fun j Hx _ hP => hP.1 _ _ hdL) (fun j x Hx Hx' hj hP hy => ?_) (fun H3 hP => ?_)
    · obtain ⟨TT, n, o, en, rfl, s3, hTT, ho⟩ := plain_turn hpL hP.1 hy
      obtain ⟨sx, ps, hD, hN⟩ := hP
      have mn := List.mem_of_getElem? en
      have fn := fr n mn
      refine ⟨TT, _, rfl, SqT.of hTT, rfl, _, _, rfl, _, _, rfl, rfl, rfl, yesI ?_⟩
      refine ⟨_, rfl, _, rfl, _, _, _, _, rfl, rfl, SqT.of ho, ix0 _ _, _, rfl, _, _, _, _, rfl, rfl, SqT.of ho, ix1 _ _, ?_⟩
      have sf := low_self fn.b0 fn.gcd
      have bz : (g n).2 ≠ 0 := by have := fn.b0; omega
      have z2 : (g n).2.natAbs < 2 ^ 4 := by have := fn.b0; have := fn.b1; show _ < 16; omega
      refine ⟨_, _, rfl, .inl ⟨(g n).1, (g n).2, rfl, rfl, bz, Nat.lt_of_lt_of_le fn.top (Nat.pow_le_pow_right (by decide) (by decide)), Nat.lt_of_lt_of_le z2 (Nat.pow_le_pow_right (by decide) (by decide)), fun r' H4 s4 h4 => ?_⟩⟩
      rw [sf.1, sf.2] at h4
      refine ⟨by rw [sizeLine_eq]; show 2 ≤ 16777216; decide, fun p np => ?_⟩
      have sp := same_upd (o := .tup [V.str n, V.ref r']) np
      have ep : (upd H4 p (.tup [V.str n, V.ref r'])) p = some (.tup [V.str n, V.ref r']) := upd_same
      generalize upd H4 p (.tup [V.str n, V.ref r']) = H5 at sp ep ⊢
      have s35 := s3.trans (s4.trans sp)
      refine ⟨_, s35 _ _ hD, ?_, fun b ob e => ?_, ps ++ [p], ?_, ?_⟩
      · have f2 := List.length_take (i := j) (l := ks)
        have f3 := Paired.length hN
        have f4 := ok.le
        simp only [List.length_map]
        rw [sizeLine_eq]; omega
      · rw [upd_ne (ne_of_none e nD2)]; exact s35 _ _ (sx _ _ e)
      · rw [upd_same, List.map_append]; rfl
      · exact NtP.snoc (Paired.mono' (fun a _ ⟨v, e, n⟩ => ⟨v, s35 _ _ e, n.same s35⟩) hN) en (s35 _ _ hD) ep (.inl ⟨r', rfl, h4.same sp⟩)
    obtain ⟨sx, ps2, hD2, hN2⟩ := hP
    rw [Paired.length hpL, List.take_length] at hN2
    have hdx := sx _ _ hdL
    refine ⟨hdx, ?_⟩
    have s3 := ul _ sx
    have hNU : NtP (upd H3 d (.dK kvs)) C g ps2 ks := NtP.upd hN2 hdx (fun _ z => by cases z) (fun _ _ z => by cases z)
    have hDU : (upd H3 d (.dK kvs)) D2 = some (.lst (ps2.map V.ref)) := (upd_ne nDd).trans hD2
    generalize upd H3 d (.dK kvs) = H4 at s3 hNU hDU ⊢
    obtain ⟨kv2, u1, u2⟩ := hNU.kvs (K := K)
    refine ⟨D2, ps2, kv2, rfl, SqL.of hDU, u1, fun d2 nd2 => ?_⟩
    rw [mergeK_names u2.kyn ok.nd]
    dsimp only [tNext, tSeq, tAsg, gName]
    have nq : Str.ofString "q" ∉ ks := fun m => (pool_facts _ (po _ m)).1 rfl
    have l2 := Paired.length u2
    have okl := ok.le
    refine ⟨_, rfl, d2, _, rfl, DPut.k (k := .inr (Str.ofString "q")) upd_same (by rw [sizeLine_eq]; omega), ?_⟩
    rw [putK_new _ (NumD.noVal u2 nq)]
    have s4 : Same H4 (upd (upd H4 d2 (.dK kv2)) d2 (.dK (kv2 ++ [(.inr (Str.ofString "q"), V.int 1)]))) := fun n o e => by rw [upd_ne (ne_of_none e nd2), upd_ne (ne_of_none e nd2)]; exact e
    have e4 : (upd (upd H4 d2 (.dK kv2)) d2 (.dK (kv2 ++ [(.inr (Str.ofString "q"), V.int 1)]))) d2 = some (.dK (kv2 ++ [(.inr (Str.ofString "q"), V.int 1)])) := upd_same
    generalize upd (upd H4 d2 (.dK kv2)) d2 (.dK (kv2 ++ [(.inr (Str.ofString "q"), V.int 1)])) = H5 at s4 e4 ⊢
    obtain ⟨g2, eg2, g2q⟩ : ∃ g2 : Str → Int × Int, (∀ n ∈ ks, g2 n = g n) ∧ g2 (Str.ofString "q") = (1, 1) := ⟨fun n => if n = Str.ofString "q" then (1, 1) else g n, fun n m => if_neg (fun z : n = Str.ofString "q" => nq (by rw [← z]; exact m)), if_pos rfl⟩
    have num2 : NumD H5 C g2 (kv2 ++ [(.inr (Str.ofString "q"), V.int 1)]) (ks ++ [Str.ofString "q"]) := by
      have h0 : NumD H5 C g kv2 ks := u2.same s4
      have h1 : NumD H5 C g2 kv2 ks := NumD.congr h0 eg2
      refine Paired.snoc h1 ⟨rfl, .inr ⟨?_, ?_⟩⟩
      · rw [g2q]
      · rw [g2q]
        exact ⟨rfl, Nat.lt_of_lt_of_le (show (1 : Int).natAbs < 2 ^ 1 by decide) (Nat.pow_le_pow_right (by decide) (by decide))⟩
    have s25 := s3.trans s4
    have T5 := T2.same s25
    have k5 := k2.same s25
    have hd5 := s25 _ _ hd2
    have hp5 := hp2.same s25
    have hb5 := hb2.same s25
    have hb15 := hb1.same s25
    clear s3 s4 s25 sx hdx hNU hDU nd2 u1 u2 hN2 hD2 nDd hpL hdL ul nD2 hd2 hp2 hb2 hb1 T2 k2
    -- one thing less
    refine ⟨_, rfl, d, kvs, ks, g, rfl, hd5, hp5, by omega, fun p zs H6 s6 pz sz n6 e6 => ?_⟩
    have nzp : (nz g ys1).Perm (nz g ks) := py.filter _
    have nzs : sortedS (nz g ys1) = true := sorted_filter _ sy
    obtain rfl : zs = nz g ys1 := sorted_unique sz nzs (pz.trans nzp.symm)
    refine ⟨_, rfl, p, _, rfl, SqL.of e6, fun q nq6 => ?_⟩
    rw [cut_one, ← List.map_drop]
    have s7 := same_upd (o := .lst ((List.drop 1 (nz g ys1)).map V.str)) nq6
    have e7 : (upd H6 q (.lst ((List.drop 1 (nz g ys1)).map V.str))) q = some (.lst ((List.drop 1 (nz g ys1)).map V.str)) := upd_same
    generalize upd H6 q (.lst ((List.drop 1 (nz g ys1)).map V.str)) = H7 at s7 e7 ⊢
    have s57 := s6.trans s7
    have hd27 := s57 _ _ e4
    have num7 := num2.same s57
    have mz : ∀ n ∈ nz g ys1, n ∈ ks := fun n m => (mem0 n).mp (List.mem_filter.mp m).1
    have mz1 : ∀ n ∈ (nz g ys1).drop 1, n ∈ ks := fun n m => mz n (List.mem_of_mem_drop m)
    have lz : (nz g ys1).length ≤ 4 := Nat.le_trans (List.length_filter_le _ _) (by rw [py.length_eq]; exact ok.le)
    refine ⟨q, rfl, ⟨_, SqL.of e7⟩, fun D3 nD3 => ?_⟩
    refine lc_it (walk_list (xs := ((nz g ys1).drop 1).map V.str)) (fun j Hx => Same H7 Hx ∧ ∃ ps : List Addr, Hx D3 = some (.lst (ps.map V.ref)) ∧ NtP Hx C g2 ps (((nz g ys1).drop 1).take j)) ⟨same_upd nD3, [], upd_same, .nil⟩ (fun j Hx _ hP => SqL.of (hP.1 _ _ e7)) (fun j x Hx Hx' hj hP hy => ?_) (fun H8 hP => ?_)
    · obtain ⟨rfl, ex⟩ := hy
      obtain ⟨sx, ps, hD, hN⟩ := hP
      rw [List.getElem?_map] at ex
      obtain ⟨n, en, rfl⟩ := Option.map_eq_some_iff.mp ex
      obtain ⟨v, ev, hv⟩ := (num7.same sx).val (List.mem_append_left _ (mz1 n (List.mem_of_getElem? en)))
      refine ⟨rfl, yesI ?_⟩
      refine ⟨_, rfl, _, rfl, _, rfl, d2, v, rfl, ?_, ?_⟩
      · have z : DGet Hx' d2 (kV (.inr n)) (valV (kv2 ++ [(.inr (Str.ofString "q"), V.int 1)]) (.inr n)) := DGet.k (sx _ _ hd27)
        rw [ev] at z
        exact z
      refine nilI ⟨by rw [sizeLine_eq]; show 2 ≤ 16777216; decide, fun p np => ?_⟩
      have sp := same_upd (o := .tup [V.str n, v]) np
      have ep : (upd Hx' p (.tup [V.str n, v])) p = some (.tup [V.str n, v]) := upd_same
      generalize upd Hx' p (.tup [V.str n, v]) = Hz at sp ep ⊢
      refine ⟨_, sp _ _ hD, ?_, fun b ob e => ?_, ps ++ [p], ?_, ?_⟩
      · have f2 := List.length_take (i := j) (l := (nz g ys1).drop 1)
        have f3 := Paired.length hN
        have f4 := List.length_drop (i := 1) (l := nz g ys1)
        simp only [List.length_map]
        rw [sizeLine_eq]; omega
      · rw [upd_ne (ne_of_none e nD3)]; exact sp _ _ (sx _ _ e)
      · rw [upd_same, List.map_append]; rfl
      · exact NtP.snoc (Paired.mono' (fun a _ ⟨v, e, n⟩ => ⟨v, sp _ _ e, n.same sp⟩) hN) en (sp _ _ hD) ep (hv.same sp)
    obtain ⟨s8, ps3, hD3, hN3⟩ := hP
    rw [List.length_map, List.take_length] at hN3
    obtain ⟨kv3, u1, u2⟩ := hN3.kvs (K := K)
    have nzn : (nz g ys1).Nodup := (py.nodup_iff.mpr ok.nd).filter _
    have nd1 : ((nz g ys1).drop 1).Nodup := nzn.sublist (List.drop_sublist _ _)
    refine ⟨D3, ps3, kv3, rfl, SqL.of hD3, u1, fun d3 nd3 => ?_⟩
    rw [mergeK_names u2.kyn nd1]
    have s9 := same_upd (o := .dK kv3) nd3
    have e9 : (upd H8 d3 (.dK kv3)) d3 = some (.dK kv3) := upd_same
    have num9 := u2.same s9
    generalize upd H8 d3 (.dK kv3) = H9 at s9 e9 num9 ⊢
    have s59 := s57.trans (s8.trans s9)
    have T9 := T5.same s59
    have k9 := k5.same s59
    have hd9 := s59 _ _ hd5
    have hp9 := hp5.same s59
    have hb9 := hb5.same s59
    have hb19 := hb15.same s59
    have hd29 := s59 _ _ e4
    have num29 := num2.same s59
    clear s6 s7 s8 s9 s57 s59 hD3 hN3 u1 u2 nd3 hd27 num7 e4 e6 e7 T5 k5 hd5 hp5 hb5 hb15 num2 nD3 nq6 n6
    dsimp only [tNext, tSeq, tAsg, gName]
    have insB : ∀ {H : Hp} {a : Addr} {g : Str → Int × Int} {zs : List Str}, BalAt H a CB C g zs → InsAt H a CB := fun ⟨dx, nd, tp, kt, e, _⟩ => ⟨dx, _, e⟩
    have nsz : NsOk (nz g ys1) := ⟨nzn, by omega, fun n m => ok.ns.nm n (mz n m)⟩
    have nsd : NsOk ((nz g ys1).drop 1) := ⟨nd1, by have := List.length_drop (i := 1) (l := nz g ys1); omega, fun n m => ok.ns.nm n (mz1 n m)⟩
    have nsq : NsOk (ks ++ [Str.ofString "q"]) := by
      refine ⟨List.nodup_append.mpr ⟨ok.nd, by simp, fun a ha b hb e => nq (by rw [e] at ha; rw [List.mem_singleton.mp hb] at ha; exact ha)⟩, by rw [List.length_append, List.length_singleton]; omega, fun n m => ?_⟩
      rcases List.mem_append.mp m with m | m
      · exact ok.ns.nm n m
      · rw [List.mem_singleton.mp m]
        exact ⟨by decide, by decide +kernel⟩
    refine ⟨_, rfl, _, rfl, a1', rfl, insB hb19, .same (insB hb9), a1', b, g, g, _, _, rfl, hb19, hb9, nsz, nsz, _, rfl, true, congrArg V.bl (eqv_key (fun n m => (nsz.nm n m).2) fun _ _ => rfl), iteF ?_⟩
    refine ⟨_, rfl, _, rfl, d2, _, _, g2, rfl, hd29, num29, nsq, fun c2 ys2 H10 s10 na2 py2 sy2 hb2 => ?_⟩
    have len2 : (nz g2 ys2).length = (nz g ys1).length + 1 := by
      have e1 : (nz g2 ys2).Perm (nz g2 (ks ++ [Str.ofString "q"])) := py2.filter _
      have e2 : nz g2 (ks ++ [Str.ofString "q"]) = nz g ks ++ [Str.ofString "q"] := by
        have : nz g2 ks = nz g ks := List.filter_congr fun n m => by rw [eg2 n m]
        rw [← this]
        unfold nz
        rw [List.filter_append, List.filter_cons, g2q]
        rfl
      rw [e1.length_eq, e2, List.length_append, nzp.length_eq]
      rfl
    have hb9a := hb9.same s10
    refine ⟨_, rfl, c2, rfl, insB hb2, .same (insB hb9a), c2, b, g2, g, _, _, rfl, hb2, hb9a, (nsq.perm py2).filter _, nsz, _, rfl, false, congrArg V.bl (eqv_key_ne (by omega)), iteF ?_⟩
    refine ⟨_, rfl, _, rfl, d3, _, _, g2, rfl, s10 _ _ e9, num9.same s10, nsd, fun a3 ys3 H11 s11 na3 py3 sy3 hb3 => ?_⟩
    have hb9b := hb9a.same s11
    have nz3 : nz g2 ys3 = ys3 := List.filter_eq_self.mpr fun n m => by
      have m1 := py3.mem_iff.mp m
      rw [eg2 n (mz1 n m1)]
      exact (List.mem_filter.mp (List.mem_of_mem_drop m1)).2
    have hk : PyData.eqv (.tuple (keyD g2 (nz g2 ys3))) (.tuple (keyD g (nz g ys1))) = decide (nz g ys1 = []) := by
      by_cases e : nz g ys1 = []
      · rw [decide_eq_true e, e, nz3]
        have : ys3 = [] := by
          rw [e] at py3
          exact List.perm_nil.mp py3
        rw [this]
        exact eqv_key (fun n m => by cases m) fun n m => by cases m
      · rw [decide_eq_false e]
        refine eqv_key_ne ?_
        rw [nz3, py3.length_eq, List.length_drop]
        have := List.length_pos_iff.mpr e
        omega
    refine ⟨_, rfl, a3, rfl, insB hb3, .same (insB hb9b), a3, b, g2, g, _, _, rfl, hb3, hb9b, (nsd.perm py3).filter _, nsz, decide (nz g ys1 = []), congrArg V.bl hk, ?_⟩
    have s11' := s10.trans s11
    refine ⟨_, rfl, d, kvs, ks, g, rfl, s11' _ _ hd9, hp9.same s11', by omega, fun p2 zs H12 s12 pz2 sz2 n12 e12 => ?_⟩
    obtain rfl : zs = nz g ys1 := sorted_unique sz2 nzs (pz2.trans nzp.symm)
    refine ⟨by rw [sizeLine_eq]; exact Nat.zero_le _, fun q2 nq2 => ?_⟩
    have sq2 := same_upd (o := .lst []) nq2
    have eq2 : (upd H12 q2 (.lst [])) q2 = some (.lst []) := upd_same
    generalize upd H12 q2 (.lst []) = H13 at sq2 eq2 ⊢
    have s13 := s11'.trans (s12.trans sq2)
    refine ⟨.list ((nz g ys1).map .str), .list [], .lst (SqL.of (sq2 _ _ e12)) (dp_strs _), .lst (SqL.of eq2) .nil, by simp only [PyData.plain]; exact plain_strs _, rfl, Nat.le_trans (Nat.min_le_right _ _) (by decide), rfl, false, congrArg V.bl ?_, iteF ?_⟩
    · rw [eqv_strs_nil]
      by_cases e : nz g ys1 = []
      · simp [e]
      · simp [e]
    have hb13 := hb9.same s13
    have T13 := T9.same s13
    have k13 := k9.same s13
    have hd13 := s13 _ _ hd9
    have hd213 := s13 _ _ hd29
    have num13 := num29.same s13
    clear hb9a hb9b hb2 hb3 s10 s11 s11' s12 sq2 eq2 e12 s13 nq2 hd9 hd29 num29 hb9 hb19 T9 k9 e9 num9 hp9
    dsimp only [tNext, tSeq, tAsg, gName]
    -- what is none
    have lo : ∀ n ∈ nz g ys1, 0 < (g n).2 ∧ Int.gcd (g n).1 (g n).2 = 1 := fun n m => ⟨(fr n (mz n m)).b0, (fr n (mz n m)).gcd⟩
    have z2 : ∀ n ∈ nz g ys1, (g n).2.natAbs < 2 ^ 4 := fun n m => by have := (fr n (mz n m)).b0; have := (fr n (mz n m)).b1; show _ < 16; omega
    obtain ⟨bdx, bnd, btp, bkt, bh, bi, bt, bk⟩ := id hb13
    have nT := Z.B.T.no "things" (by simp)
    refine ⟨_, rfl, b, rfl, ⟨bdx, _, bh⟩, b, g, nz g ys1, rfl, hb13, nsz, ⟨lo, fun n m => ⟨Nat.lt_of_lt_of_le (fr n (mz n m)).top (Nat.pow_le_pow_right (by decide) (by decide)), Nat.lt_of_lt_of_le (z2 n m) (Nat.pow_le_pow_right (by decide) (by decide))⟩⟩, fun n m => ⟨Nat.le_trans (ok.nm n (mz n m)).1 (by decide), tx_len (Nat.lt_of_lt_of_le (fr n (mz n m)).top (Nat.pow_le_pow_right (by decide) (by decide))) (Nat.lt_of_lt_of_le (z2 n m) (Nat.pow_le_pow_right (by decide) (by decide)))⟩, fun H14 s14 => ⟨_, rfl, ?_⟩⟩
    refine ⟨_, rfl, _, rfl, b, CB, bdx, _, _, rfl, s14 _ _ bh, Z.B.T.cls, nT, rfl, _, rfl, _, rfl, d2, _, _, g2, rfl, s14 _ _ hd213, num13.same s14, nsq, fun ys4 py4 sy4 sc H15 s15 nsc hS => ?_⟩
    refine nilI ⟨by rw [sizeLine_eq]; show 6 ≤ 16777216; decide, fun T nTT => ?_⟩
    have s16 := same_upd (o := .tup [V.non, V.int 0, V.str (balT g (nz g ys1)), V.ref d, V.ref btp, V.ref sc]) nTT
    have eT : (upd H15 T (.tup [V.non, V.int 0, V.str (balT g (nz g ys1)), V.ref d, V.ref btp, V.ref sc])) T = some (.tup [V.non, V.int 0, V.str (balT g (nz g ys1)), V.ref d, V.ref btp, V.ref sc]) := upd_same
    generalize upd H15 T (.tup [V.non, V.int 0, V.str (balT g (nz g ys1)), V.ref d, V.ref btp, V.ref sc]) = H16 at s16 eT ⊢
    have hS16 := (hS.same s16).ins
    have s13 := s14.trans (s15.trans s16)
    have hb16 := hb13.same s13
    have hd16 := s13 _ _ hd13
    have bt16 := s13 _ _ bt
    refine ⟨T, rfl, ⟨_, SqT.of eT⟩, fun D nD => ?_⟩
    refine lc_it (walk_tup (xs := [V.non, V.int 0, V.str (balT g (nz g ys1)), V.ref d, V.ref btp, V.ref sc])) (fun j Hx => Same H16 Hx ∧ Hx D = some (.lst [])) ⟨same_upd nD, upd_same⟩ (fun j Hx _ hP => SqT.of (hP.1 _ _ eT)) (fun j x Hx Hx' hj hP hy => ?_) (fun H17 hP => ?_)
    · obtain ⟨rfl, ex⟩ := hy
      have sx := hP.1
      have mx := List.mem_of_getElem? ex
      have both : RtK CB C CS Hx' x ∧ NoB K CB Hx' x := by
        have od : ∀ {T : String} {y : V}, OddAt Hx' y T → RtK CB C CS Hx' y ∧ NoB K CB Hx' y := fun {T y} h => ⟨.odd _ h, _, h.ty, Z.kT _ (List.mem_cons_of_mem _ h.mem)⟩
        simp only [List.mem_cons, List.not_mem_nil, or_false] at mx
        rcases mx with rfl | rfl | rfl | rfl | rfl | rfl
        · exact od .non
        · exact ⟨.int _, ⟨_, .base (.int _), Z.kT _ List.mem_cons_self⟩⟩
        · exact od (.str _)
        · exact od (.dK (sx _ _ hd16))
        · exact od (.tup (sx _ _ bt16))
        · have : InsAt Hx' sc CS := let ⟨dx, fs, e⟩ := hS16; ⟨dx, fs, sx _ _ e⟩
          exact ⟨.sca this, _, Z.yS _ _ this, Z.kS⟩
      exact ⟨rfl, _, rfl, _, rfl, b, rfl, insB (hb16.same sx), both.1, _, _, rfl, both.2, _, rfl, false, rfl, iteF hP⟩
    obtain ⟨s17, hD⟩ := hP
    refine ⟨by rw [sizeLine_eq]; exact Nat.zero_le _, fun q3 nq3 => ?_⟩
    refine ⟨.list [], .list [], .lst (SqL.of ((same_upd nq3) _ _ hD)) .nil, .lst (SqL.of upd_same) .nil, rfl, rfl, by decide, ?_⟩
    exact k i1 g1 _ a0 (by omega) a2 (k13.same (s13.trans (s17.trans (same_upd nq3)))) (T13.same (s13.trans (s17.trans (same_upd nq3))))
end
end K04
namespace K04
open PySem PySem.Spec PyProof.Rows L2 RatM LamX ClX TL
/-- a dict of drawn numbers, being drawn -/
def DrawP (HL : Hp) (D t c : Addr) (cells : List Int) (i : Int) (xs : List Str) (j : Nat) (Hx : Hp) : Prop := Keep t HL Hx ∧ (∃ i' g', 0 ≤ i' ∧ i' ≤ i + 4 * (j : Nat) ∧ 0 ≤ g' ∧ Till Hx t c cells i' g') ∧
  ∃ (ps : List Addr) (g : Str → Int × Int), Hx D = some (.lst (ps.map V.ref)) ∧ NuP Hx g ps (xs.take j) ∧ ∀ n ∈ xs.take j, FrD (g n)
theorem NuP.congr {H : Hp} {g g' : Str → Int × Int} {ps : List Addr} {ks : List Str} (h : NuP H g ps ks) (e : ∀ n ∈ ks, g' n = g n) : NuP H g' ps ks := by
  induction h with
  | nil => exact .nil
  | @cons a n l1 l2 x t ih =>
    obtain ⟨o, x1, x2⟩ := x
    exact .cons ⟨o, x1, by rw [e n List.mem_cons_self]; exact x2⟩ (ih fun m hm => e m (List.mem_cons_of_mem _ hm))
theorem draw_turn {HL : Hp} {D t c : Addr} {cells : List Int} {i : Int} {xs : List Str} {s0 s2 s3 s4 s5 s6 s7 : Option V} (ok : ThOk xs) (hT : ∃ g, Till HL t c cells i g) (hi : 0 ≤ i ∧ i ≤ 800000) (nD : HL D = none) (j : Nat) (x : V) (Hx H' : Hp) (hj : j < (xs.map V.str).length) (hP : DrawP HL D t c cells i xs j Hx) (hy : YAt (xs.map V.str) j Hx x H') :
    gName 6 x (wipe [s0, some (.ref t), s2, s3, s4, s5, s6, s7] [6]) H' fun σ2 H2 => wipe σ2 [6] = wipe [s0, some (.ref t), s2, s3, s4, s5, s6, s7] [6] ∧ tYes σ2 H2 fun b H3 =>
      if b = true then tTup (tCons (tVar 6) (tCons (tCall spNumb [] E0 (tCons (tVar 1) tNil)) tNil)) σ2 H3 fun y H4 => ∃ acc, H4 D = some (.lst acc) ∧ acc.length < sizeLine ∧ DrawP HL D t c cells i xs (j + 1) (upd H4 D (.lst (acc ++ [y]))) else DrawP HL D t c cells i xs (j + 1) H3 := by
  obtain ⟨rfl, ex⟩ := hy
  obtain ⟨kp, ⟨i', g', a0, a1, a2, hTx⟩, ps, g, hD, hN, fr⟩ := hP
  obtain ⟨gg, hT⟩ := hT
  have nDt : D ≠ t := hT.off nD
  have nDc : D ≠ c := fun e => by rw [e, hT.hc] at nD; cases nD
  rw [List.getElem?_map] at ex
  obtain ⟨n, en, rfl⟩ := Option.map_eq_some_iff.mp ex
  have jl : j < xs.length := (List.getElem?_eq_some_iff.mp en).1
  have l4 := ok.le
  have nt : n ∉ xs.take j := fun m => by
    obtain ⟨k, hk, ek⟩ := List.mem_take_iff_getElem.mp m
    have h1 : xs[k]? = some n := by rw [List.getElem?_eq_getElem (by omega), ek]
    have lj : k < xs.length := by omega
    have h2 := (List.getElem?_inj lj ok.nd).mp (h1.trans en.symm)
    omega
  refine ⟨rfl, yesI ?_⟩
  refine ⟨_, rfl, _, rfl, t, c, cells, i', g', rfl, hTx, a0, by omega, a2, fun p z i2 g2 H2 fz b0 b1 b2 kp2 np ep hT2 => ?_⟩
  refine ⟨by rw [sizeLine_eq]; show 2 ≤ 16777216; decide, fun q nq => ?_⟩
  have sq : Same H2 (upd H2 q (.tup [.str n, .ref p])) := same_upd nq
  have eq : (upd H2 q (.tup [.str n, .ref p])) q = some (.tup [.str n, .ref p]) := upd_same
  have hD2 := kp2 _ _ nDt hD
  refine ⟨_, sq _ _ hD2, ?_, fun b ob nb e => ?_, ⟨i2, g2, b0, by omega, b2, (hT2.same sq).upd nDt nDc⟩, ps ++ [q], (fun m => if m = n then z else g m), ?_, ?_, ?_⟩
  · have f2 := List.length_take (i := j) (l := xs)
    have f3 := Paired.length hN
    simp only [List.length_map]
    rw [sizeLine_eq]; omega
  · rw [upd_ne (ne_of_none e nD)]
    exact sq _ _ (kp2 _ _ nb (kp _ _ nb e))
  · rw [upd_same, List.map_append]; rfl
  · refine NuP.snoc (g := fun m => if m = n then z else g m) (NuP.congr ((hN.keep hTx kp2).same sq) fun m hm => if_neg (show ¬ m = n from fun e => nt (by rw [← e]; exact hm))) en (sq _ _ hD2) eq ?_
    rw [if_pos rfl]
    exact sq _ _ ep
  · intro m hm
    rw [List.take_add_one, en] at hm
    dsimp only
    by_cases e : m = n
    · rw [if_pos e]; exact fz
    · rw [if_neg e]
      rcases List.mem_append.mp hm with z | z
      · exact fr m z
      · exact absurd (by simpa using z) e

theorem joinL_len (S : List Nat) {B : Nat} : ∀ l : List (List Nat), (∀ p ∈ l, p.length ≤ B) → (joinL S l).length ≤ l.length * (B + S.length)
  | [], _ => Nat.zero_le _
  | [p], h => by
    have := h p List.mem_cons_self
    show p.length ≤ 1 * (B + S.length)
    omega
  | p :: q :: r, h => by
    have h1 := h p List.mem_cons_self
    have h2 := joinL_len S (q :: r) fun x m => h x (List.mem_cons_of_mem _ m)
    show (p ++ (S ++ joinL S (q :: r))).length ≤ _
    rw [List.length_append, List.length_append, List.length_cons (a := p), Nat.add_mul (q :: r).length]
    omega
theorem balT_len {g : Str → Int × Int} {zs : List Str} (l4 : zs.length ≤ 4) (h : ∀ n ∈ zs, n.length ≤ 1000 ∧ (textR (g n).1 (g n).2).length ≤ 1000) : (balT g zs).length ≤ 100000 := by
  unfold balT
  split
  · decide
  · rw [join_eq]
    have e : ∀ x : Str, x.length = (tl x).length := fun x => rfl
    rw [e, tl_join]
    refine Nat.le_trans (joinL_len (B := 2001) _ _ fun p m => ?_) ?_
    · obtain ⟨w, mw, rfl⟩ := List.mem_map.mp m
      obtain ⟨n, mn, rfl⟩ := List.mem_map.mp mw
      exact termT_len (h n mn).1 (h n mn).2
    · rw [List.length_map, List.length_map]
      have : (tl (Str.ofString " + ")).length = 3 := rfl
      rw [this]
      omega
/-- two promises of one def -/
theorem fnOk_or {P : Program} {w : World} {K : PySem.W.Frag} {mg : Str → Option Value} {base : Heap} {CX : CXT} {k : Nat} {f : Addr} {fd : FuncData} {ps : List Str} {s1 s2 : Sp} (F1 : FnOk P w K mg base CX k f fd ps s1) (F2 : FnOk P w K mg base CX k f fd ps s2) : FnOk P w K mg base CX k f fd ps (fun vs H Q E => s1 vs H Q E ∨ s2 vs H Q E) :=
  ⟨fun vs H Q E h => h.elim (F1.len vs H Q E) (F2.len vs H Q E), fun A outer s H args us vs Q E hr e0 hb r h => h.elim (F1.run A outer s H args us vs Q E hr e0 hb r) (F2.run A outer s H args us vs Q E hr e0 hb r)⟩
/-- a balance that has nothing of the dict at td -/
def BalOff (H : Hp) (td a CB C : Addr) (g : Str → Int × Int) (zs : List Str) : Prop := ∃ dx nd tp kt, H a = some (.ins CB dx (balF nd tp kt (decide (V.int (zs.length : Nat) = V.int 0)))) ∧ BalIn H C g zs nd tp kt ∧ a ≠ td ∧ nd ≠ td ∧ tp ≠ td ∧ kt ≠ td
theorem BalOff.bal {H : Hp} {td a CB C : Addr} {g : Str → Int × Int} {zs : List Str} (h : BalOff H td a CB C g zs) : BalAt H a CB C g zs := let ⟨dx, nd, tp, kt, e, b, _⟩ := h; ⟨dx, nd, tp, kt, e, b⟩
theorem BalOff.keep {H H' : Hp} {td a CB C : Addr} {g : Str → Int × Int} {zs : List Str} {kv : List (Key × V)} (h : BalOff H td a CB C g zs) (hd : H td = some (.dK kv)) (k : Keep td H H') : BalAt H' a CB C g zs := by
  obtain ⟨dx, nd, tp, kt, e, ⟨⟨kvs, e1, r⟩, e2, e3⟩, n1, n2, n3, n4⟩ := h
  exact ⟨dx, nd, tp, kt, k _ _ n1 e, ⟨kvs, k _ _ n2 e1, Paired.mono' (fun _ _ ⟨x1, b', x2, dxb, x3⟩ => ⟨x1, b', x2, dxb, k _ _ (fun z => by rw [z, hd] at x3; cases x3) x3⟩) r⟩, k _ _ n3 e2, k _ _ n4 e3⟩
theorem tabs_off {T : List (Addr × Str)} {H H' : Hp} {td : Addr} {kv : List (Key × V)} (hT : Tabs T H) (hd : H td = some (.dK kv)) (k : Keep td H H') : Tabs T H' := fun x hx => by
  obtain ⟨ps, h1, h2, h3⟩ := hT x hx
  refine ⟨ps, k _ _ (fun z => by rw [z, hd] at h1; cases h1) h1, h2, fun pos cv hc => ?_⟩
  obtain ⟨c, e1, e2⟩ := h3 pos cv hc
  exact ⟨c, e1, k _ _ (fun z => by rw [z, hd] at e2; unfold CodeO at e2; cases e2) e2⟩
theorem putK_len (l : List (Key × V)) (k : Key) (v : V) : (putK l k v).length ≤ l.length + 1 := by
  unfold putK
  split
  · rw [List.length_map]; omega
  · rw [List.length_append]; exact Nat.le_refl _
/-- the pairs of the things for which f says yes -/
def FilP (HL : Hp) (D : Addr) (f : Str → Bool) (g : Str → Int × Int) (xs : List Str) (j : Nat) (Hx : Hp) : Prop := Same HL Hx ∧ ∃ ps : List Addr, Hx D = some (.lst (ps.map V.ref)) ∧ NuP Hx g ps ((xs.take j).filter f)
theorem FilP.skip {HL Hx : Hp} {D : Addr} {f : Str → Bool} {g : Str → Int × Int} {xs : List Str} {j : Nat} {n : Str} (h : FilP HL D f g xs j Hx) (en : xs[j]? = some n) (hf : f n = false) : FilP HL D f g xs (j + 1) Hx := by
  obtain ⟨s, ps, hD, hN⟩ := h
  refine ⟨s, ps, hD, ?_⟩
  rw [List.take_add_one, en, List.filter_append]
  show NuP Hx g ps (_ ++ [n].filter f)
  rw [List.filter_cons, hf]
  simpa using hN
theorem FilP.put {HL Hx H5 : Hp} {D p o : Addr} {f : Str → Bool} {g : Str → Int × Int} {xs : List Str} {j : Nat} {n : Str} (h : FilP HL D f g xs j Hx) (l4 : xs.length ≤ 4) (nD : HL D = none) (en : xs[j]? = some n) (hf : f n = true) (s : Same Hx H5) (hp : H5 p = some (.tup [.str n, .ref o])) (ho : H5 o = some (.tup (tupF (g n)))) :
    ∃ acc, H5 D = some (.lst acc) ∧ acc.length < sizeLine ∧ FilP HL D f g xs (j + 1) (upd H5 D (.lst (acc ++ [.ref p]))) := by
  obtain ⟨sx, ps, hD, hN⟩ := h
  refine ⟨_, s _ _ hD, ?_, fun b ob e => ?_, ps ++ [p], ?_, ?_⟩
  · have f1 := Paired.length hN
    have f2 := List.length_filter_le f (xs.take j)
    have f3 := List.length_take (i := j) (l := xs)
    simp only [List.length_map]
    rw [sizeLine_eq]; omega
  · rw [upd_ne (ne_of_none e nD)]; exact s _ _ (sx _ _ e)
  · rw [upd_same, List.map_append]; rfl
  · rw [List.take_add_one, en, List.filter_append]
    show NuP _ g (ps ++ [p]) (_ ++ [n].filter f)
    rw [List.filter_cons, hf]
    have nt : ∀ xs, H5 D ≠ some (.tup xs) := fun xs z => by rw [s _ _ hD] at z; cases z
    exact Paired.snoc ((hN.same s).upd nt) ⟨o, (upd_ne fun z => by rw [z] at hp; exact nt _ hp).trans hp, (upd_ne fun z => by rw [z] at ho; exact nt _ ho).trans ho⟩
/-- what the law itself rests on -/
structure LawK (P : Program) (w : World) (K : PySem.W.Frag) (mg : Str → Option Value) (base : Heap) (CB C BR : Addr) (T : List (Addr × Str)) : Prop where
  B : BalK P w K mg base CB C
  L : LwK P w K mg base CB C BR
  R : RatK P w K mg base C BR
  mkK : ∃ (f : Addr) (fd : FuncData), Mk K CB f ∧ FnOk P w K mg base (L2.CX P w) 8 f fd ["self", "numbers"] (spBI C CB) ∧ KBn K fd ["self", "numbers"] 1 ["numbers"] (fun us ws => us ++ ws) (fun vs zs => vs ++ zs)
  read : ∃ (mc : Value) (p g : Addr), CRead K CB mc ∧ CMet K CB mc "read" p g ∧ FnR P w K mg base (L2.CX P w) 10 g (spReadB CB C)
  num : ∃ (f : Addr) (fd : FuncData), Meth K CB "number_of" f ∧ FnOk P w K mg base CX0 5 f fd ["self", "thing"] (fun vs H Q E => spNum CB C vs H Q E ∨ spNumO K CB C vs H Q E) ∧ Binds K fd ["self", "thing"] [] ∧ BindsKM fd "self" ["thing"]
  eqR : ∃ (f : Addr) (fd : FuncData), OwnM K C "__eq__" f ∧ FnOk P w K mg base CX0 3 f fd ["self", "other"] (spSame K C) ∧ Binds K fd ["self", "other"] []
  neR : PySem.W.findIn K (.ref C) "__ne__" = some (some (.builtin "object.__ne__"))
  obR : PySem.W.subIn K (.ref C) (.type "object") = some true
  nfR : PySem.W.notFirst K C (.type "int") = true
  gains : ∃ (f : Addr) (fd : FuncData), Meth K CB "gains" f ∧ FnOk P w K mg base CX0 10 f fd ["self"] (spGains CB C) ∧ Binds K fd ["self"] []
  losses : ∃ (f : Addr) (fd : FuncData), Meth K CB "losses" f ∧ FnOk P w K mg base CX0 10 f fd ["self"] (spLosses CB C) ∧ Binds K fd ["self"] []
  reel : ∃ (f : Addr) (fd : FuncData), FnOk P w K mg base CX0 1 f fd ["_law_script"] (spTill K) ∧ Binds K fd ["_law_script"] [] ∧ PySem.W.keepIn K (.ref f) = true ∧ mg "_law_reel" = some (.ref f)
  turn : ∃ (f : Addr) (fd : FuncData), FnOk P w K mg base CX0 1 f fd ["_law_reel_here", "_law_many"] spCoin ∧ Binds K fd ["_law_reel_here", "_law_many"] [] ∧ PySem.W.keepIn K (.ref f) = true ∧ mg "_law_turn" = some (.ref f)
  things : ∃ (f : Addr) (fd : FuncData), FnOk P w K mg base CX0 3 f fd ["_law_reel_here", "_law_many"] spThs ∧ Binds K fd ["_law_reel_here", "_law_many"] [] ∧ PySem.W.keepIn K (.ref f) = true ∧ mg "_law_things" = some (.ref f)
  numb : ∃ (f : Addr) (fd : FuncData), FnOk P w K mg base CX0 3 f fd ["_law_reel_here"] spNumb ∧ Binds K fd ["_law_reel_here"] [] ∧ PySem.W.keepIn K (.ref f) = true ∧ mg "_law_number" = some (.ref f)
  ratio : ∃ (f : Addr) (fd : FuncData), FnOk P w K mg base CX0 5 f fd ["_law_reel_here", "_law_pair"] (spRt C) ∧ Binds K fd ["_law_reel_here", "_law_pair"] [] ∧ PySem.W.keepIn K (.ref f) = true ∧ mg "_law_ratio" = some (.ref f)
  isAs : ∃ (f : Addr) (fd : FuncData), FnOk P w K mg base CX0 10 f fd ["_law_balance", "_law_plain"] (spIsAs CB C) ∧ Binds K fd ["_law_balance", "_law_plain"] [] ∧ PySem.W.keepIn K (.ref f) = true ∧ mg "_law_is_as" = some (.ref f)
  ofR : ∃ (f : Addr) (fd : FuncData), FnOk P w K mg base CX0 13 f fd ["_law_reel_here"] spOr ∧ Binds K fd ["_law_reel_here"] [] ∧ PySem.W.keepIn K (.ref f) = true ∧ mg "_law_of_right" = some (.ref f)
  eqR2 : ∃ (f : Addr) (fd : FuncData), FnOk P w K mg base CX0 10 f fd ["_law_reel_here", "_law_balance", "_law_plain", "_law_turned"] (spEr CB C) ∧ Binds K fd ["_law_reel_here", "_law_balance", "_law_plain", "_law_turned"] [] ∧ PySem.W.keepIn K (.ref f) = true ∧ mg "_law_equal_right" = some (.ref f)
  refd : ∃ (f : Addr) (fd : FuncData), FnOk P w K mg base CX0 16 f fd ["_law_reel_here", "_law_balance"] (spRf CB C T) ∧ Binds K fd ["_law_reel_here", "_law_balance"] [] ∧ PySem.W.keepIn K (.ref f) = true ∧ mg "_law_refused" = some (.ref f)
def spLaw (K : PySem.W.Frag) (T : List (Addr × Str)) : Sp := fun vs H Q _ => ∃ (a : Addr) (ns : List Int), vs = [.ref a] ∧ SqL K H a (ns.map V.int) ∧ ns.length ≤ 63 ∧ Tabs T H ∧ ∀ H', Q (.bl true) H'
section
variable {P : Program} {w : World} {K : PySem.W.Frag} {mg : Str → Option Value} {base : Heap} {C BR CB : Addr} {T : List (Addr × Str)}
abbrev nsLw : List Str := ["_law_script", "_law_reel_here", "_law_things_here", "_law_plain", "_law_told_here", "_law_balance", "_law_thing", "_law_odd"]
theorem scLw : FnScope nsLw ["_law_script"] (defScope (top 72)) := ⟨rfl, rfl, rfl, by decide +kernel, rfl, by decide +kernel, by decide +kernel⟩
theorem ok_law {f : Addr} {fd : FuncData} (F : FnP K "law" (top 72) f fd) (Z : LawK P w K mg base CB C BR T) : FnOk P w K mg base CX0 17 f fd ["_law_script"] (spLaw K T) := by
  obtain ⟨fRe, fdRe, GRe, bRe, kRe, gRe⟩ := Z.reel
  obtain ⟨fT, fdT, GT, bT, kT, gT⟩ := Z.turn
  obtain ⟨fTh, fdTh, GTh, bTh, kTh, gTh⟩ := Z.things
  obtain ⟨fNb, fdNb, GNb, bNb, kNb, gNb⟩ := Z.numb
  obtain ⟨fRa, fdRa, GRa, bRa, kRa, gRa⟩ := Z.ratio
  obtain ⟨fI, fdI, GI, bI, kI, gI⟩ := Z.isAs
  obtain ⟨fOr, fdOr, GOr, bOr, kOr, gOr⟩ := Z.ofR
  obtain ⟨fEr, fdEr, GEr, bEr, kEr, gEr⟩ := Z.eqR2
  obtain ⟨fRf, fdRf, GRf, bRf, kRf, gRf⟩ := Z.refd
  obtain ⟨fB, fdB, MB, GB, bBK⟩ := Z.mkK
  obtain ⟨mcB, pRd, gRd, crB, cmB, GRd⟩ := Z.read
  obtain ⟨fNu, fdNu, MNu, GNu, bNu, bNuK⟩ := Z.num
  obtain ⟨fRE, fdRE, MRE, GRE, bRE⟩ := Z.eqR
  obtain ⟨fGa, fdGa, MGa, GGa, bGa⟩ := Z.gains
  obtain ⟨fLo, fdLo, MLo, GLo, bLo⟩ := Z.losses
  obtain ⟨fS, fdS, MS, GS, bS⟩ := Z.L.strB
  refine F.ok scLw (fun vs H Q E h => ?_) (fun cdv A outer s H vs Q E hr h => ?_)
  · obtain ⟨a, ns, rfl, _⟩ := h
    rfl
  · obtain ⟨a, ns, rfl, ha, hns, hTb, k⟩ := h
    have h16 : Room 16 _ := hr
    have h13 : Room 13 _ := h16.mono (by decide)
    have h10 : Room 10 _ := h16.mono (by decide)
    have h9 : Room 9 _ := h16.mono (by decide)
    have h5 : Room 5 _ := h16.mono (by decide)
    have h4 : Room 4 _ := h16.mono (by decide)
    have h3 : Room 3 _ := h16.mono (by decide)
    have h1 : Room 1 _ := h16.mono (by decide)
    have hu1 : (A.deeper (envOfC (Str.ofString "law") (defScope (top 72)) s.heap.objs.size f cdv)).units + 1 < cLine := by have := h16.units; omega
    refine ⟨_, PSs.nox (pss_cons (ps_set (i := 1) scLw.nd rfl (.inr rfl) (pe_call GRe h1 rfl gRe kRe bRe .nil pass0 (pa_cons (pv 0) pa_nil)))
      (pss_cons (ps_set (i := 2) scLw.nd rfl (.inl rfl) (pe_call GTh h3 rfl gTh kTh bTh .nil pass0 (pa_cons (pv 1) (pa_cons (pe_call GT h1 rfl gT kT bT .nil pass0 (pa_cons (pv 1) (pa_cons pe_int pa_nil))) pa_nil))))
      (pss_cons (ps_set (i := 3) scLw.nd rfl (.inr rfl) (pe_callTy (call_dictP rfl) (by rfl) Z.L.dict PyProof.Rows.boot_dict (pa_cons (pe_lc (own := [("_law_thing", 6)]) (g := gName 6) (tt := tYes) (te := tTup (tCons (tVar 6) (tCons (tCall spNumb [] E0 (tCons (tVar 1) tNil)) tNil))) rfl scLw.nd (pi_list (pv 2)) (blkOk_by (N := nsLw) (sc := defScope (top 72)) (by decide +kernel)) (fun _ _ _ _ _ => pg_name (i := 6) scLw.nd rfl (Or.inl rfl)) (fun _ _ _ _ _ => pts_nil) (fun _ _ _ _ _ => pe_tup (pa_cons (pv 6) (pa_cons (pe_call GNb (by exact h3) rfl gNb kNb bNb .nil pass0 (pa_cons (pv 1) pa_nil)) pa_nil)))) pa_nil)))
      (pss_cons (ps_set (i := 4) scLw.nd rfl (.inl rfl) (pe_callTy (call_dictP rfl) (by rfl) Z.L.dict PyProof.Rows.boot_dict (pa_cons (pe_lc (own := [("_law_thing", 6)]) (g := gName 6) (tt := tYes) (te := tTup (tCons (tVar 6) (tCons (tCall (spRt C) [] E0 (tCons (tVar 1) (tCons (tDGet (tVar 3) (tVar 6)) tNil))) tNil))) rfl scLw.nd (pi_list (pv 2)) (blkOk_by (N := nsLw) (sc := defScope (top 72)) (by decide +kernel)) (fun _ _ _ _ _ => pg_name (i := 6) scLw.nd rfl (Or.inl rfl)) (fun _ _ _ _ _ => pts_nil) (fun _ _ _ _ _ => pe_tup (pa_cons (pv 6) (pa_cons (pe_call GRa (by exact h5) rfl gRa kRa bRa .nil pass0 (pa_cons (pv 1) (pa_cons (pe_dget (by exact hu1) (pv 3) (pv 6) (fun _ _ => rfl)) pa_nil))) pa_nil)))) pa_nil)))
      (pss_cons (ps_set (i := 5) scLw.nd rfl (.inl rfl) (pe_makeK0 MB GB h9 rfl Z.B.g bBK (E := E0) passL (pk_cons (pv 4) pk_nil)))
      (pss_cons (ps_dput hu1 (pv 4) pe_str pe_int (by rfl))
      (pss_cons (ps_for PassesOwn.never rfl (pi_list (pv 2)) (pg_name (i := 6) scLw.nd rfl (.inl rfl)) (pss_one (ps_dput hu1 (pv 4) (pv 6) pe_int (by rfl))))
      (pss_cons (ps_if (PW.pt (pw_or (pt_not (pt_val (pe_call GI h10 rfl gI kI bI .nil pass0 (pa_cons (pv 5) (pa_cons (pv 3) pa_nil))))) (pw_or1 (pt_not (pt_val (pe_call GI h10 rfl gI kI bI .nil pass0 (pa_cons (pe_cmeth (pe_glob (v := .ref _) rfl Z.B.g rfl) crB cmB GRd h10 (E := E0) passL (pa_cons (pe_callTy (call_ownStr MS GS (by exact h9) bS (E := E0) pass0) (by rfl) Z.L.str PyProof.Rows.boot_str (pa_cons (pv 5) pa_nil)) pa_nil)) (pa_cons (pv 3) pa_nil)))))))) (pss_one (ps_ret pe_bl)) pss_nil)
      (pss_cons (ps_for PassesOwn.never rfl (pi_tup (pe_tup (pa_cons pe_str (pa_cons pe_str (pa_cons pe_str (pa_cons pe_non (pa_cons pe_int (pa_cons pe_bl (pa_cons (pe_lst pa_nil) (pa_cons pe_dnewK (pa_cons (pe_tup (pa_cons pe_str pa_nil)) pa_nil))))))))))) (pg_name (i := 7) scLw.nd rfl (.inl rfl)) (pss_one (ps_if (PW.pt (pw_or (pt_not (pt_val (pe_callB call_isi (by rfl) Z.R.bi (by decide +kernel) (pa_cons (pe_methK0 (pv 5) Z.B.T.cls MNu GNu h5 bNuK (E := E0) pass0 (pk_cons (pv 7) pk_nil)) (pa_cons (pe_glob (v := .ref _) rfl Z.R.g rfl) pa_nil))))) (pw_or1 (pt_cmpR (op_neOwn MRE Z.neR Z.obR GRE h4 bRE (E := E0) pass0) (pe_meth (pv 5) Z.B.T.cls MNu GNu h5 bNu .nil (E := E0) pass0 (pa_cons (pv 7) pa_nil)) pe_int (nomark _))))) (pss_one (ps_ret pe_bl)) pss_nil)))
      (pss_cons (ps_if (pt_not (pt_val (pe_call GI h10 rfl gI kI bI .nil pass0 (pa_cons (pe_meth0 (pv 5) Z.B.T.cls MGa GGa h10 bGa .nil (E := E0) pass0) (pa_cons (pe_callTy (call_dictP rfl) (by rfl) Z.L.dict PyProof.Rows.boot_dict (pa_cons (pe_lc (own := [("_law_thing", 6)]) (g := gName 6) (tt := tTest (tOp (rI0 fun i j => .bl (decide (j < i))) (tOp (rIxT K) (tDGet (tVar 3) (tVar 6)) (tC (.int 0))) (tC (.int 0)))) (te := tTup (tCons (tVar 6) (tCons (tDGet (tVar 3) (tVar 6)) tNil))) rfl scLw.nd (pi_list (pv 2)) (blkOk_by (N := nsLw) (sc := defScope (top 72)) (by decide +kernel)) (fun _ _ _ _ _ => pg_name (i := 6) scLw.nd rfl (Or.inl rfl)) (fun _ _ _ _ _ => pts_one (pt_cmpR op_gt (pe_ix ix_tup (pe_dget (by exact hu1) (pv 3) (pv 6) (fun _ _ => rfl)) pe_int (fun _ _ => rfl)) pe_int (nomark _))) (fun _ _ _ _ _ => pe_tup (pa_cons (pv 6) (pa_cons (pe_dget (by exact hu1) (pv 3) (pv 6) (fun _ _ => rfl)) pa_nil)))) pa_nil)) pa_nil))))) (pss_one (ps_ret pe_bl)) pss_nil)
      (pss_cons (ps_if (pt_not (pt_val (pe_call GI h10 rfl gI kI bI .nil pass0 (pa_cons (pe_meth0 (pv 5) Z.B.T.cls MLo GLo h10 bLo .nil (E := E0) pass0) (pa_cons (pe_callTy (call_dictP rfl) (by rfl) Z.L.dict PyProof.Rows.boot_dict (pa_cons (pe_lc (own := [("_law_thing", 6)]) (g := gName 6) (tt := tTest (tOp (rI0 fun i j => .bl (decide (i < j))) (tOp (rIxT K) (tDGet (tVar 3) (tVar 6)) (tC (.int 0))) (tC (.int 0)))) (te := tTup (tCons (tVar 6) (tCons (tTup (tCons (tUn (rU fun i => .int (-i)) (tOp (rIxT K) (tDGet (tVar 3) (tVar 6)) (tC (.int 0)))) (tCons (tOp (rIxT K) (tDGet (tVar 3) (tVar 6)) (tC (.int 1))) tNil))) tNil))) rfl scLw.nd (pi_list (pv 2)) (blkOk_by (N := nsLw) (sc := defScope (top 72)) (by decide +kernel)) (fun _ _ _ _ _ => pg_name (i := 6) scLw.nd rfl (Or.inl rfl)) (fun _ _ _ _ _ => pts_one (pt_cmpR op_lt (pe_ix ix_tup (pe_dget (by exact hu1) (pv 3) (pv 6) (fun _ _ => rfl)) pe_int (fun _ _ => rfl)) pe_int (nomark _))) (fun _ _ _ _ _ => pe_tup (pa_cons (pv 6) (pa_cons (pe_tup (pa_cons (pe_un un_neg (pe_ix ix_tup (pe_dget (by exact hu1) (pv 3) (pv 6) (fun _ _ => rfl)) pe_int (fun _ _ => rfl))) (pa_cons (pe_ix ix_tup (pe_dget (by exact hu1) (pv 3) (pv 6) (fun _ _ => rfl)) pe_int (fun _ _ => rfl)) pa_nil))) pa_nil)))) pa_nil)) pa_nil))))) (pss_one (ps_ret pe_bl)) pss_nil)
      (pss_one (ps_ret (pe_and (pe_call GOr h13 rfl gOr kOr bOr .nil pass0 (pa_cons (pv 1) pa_nil)) (pe_and (pe_call GEr h10 rfl gEr kEr bEr .nil pass0 (pa_cons (pv 1) (pa_cons (pv 5) (pa_cons (pv 3) (pa_cons (pe_revL (pv 2)) pa_nil))))) (pe_one (pe_call GRf h16 rfl gRf kRf bRf .nil pass0 (pa_cons (pv 1) (pa_cons (pv 5) pa_nil))))))))))))))))))), ?_⟩
    refine ⟨_, rfl, a, ns, rfl, ha, hns, fun t c H1 s1 nt hT1 => ?_⟩
    dsimp only [tNext, tSeq, tAsg, gName]
    generalize hcells : ns.take 60 = cells at hT1
    have tb1 := tabs_same hTb s1
    clear ha hns s1 nt hTb hcells
    -- the things
    refine ⟨_, rfl, _, rfl, t, c, cells, 0, 0, 5, rfl, hT1, by decide, by decide, by decide, by decide, by decide, fun m1 i1 g1 H2 m10 m11 j0 j1 k0 kp1 hT2 => ?_⟩
    refine ⟨t, c, cells, i1, g1, m1, rfl, m10, by omega, hT2, j0, by omega, k0, fun p1 xs i2 g2 H3 ok po j2 j3 k2 kp2 np1 e1 hT3 => ?_⟩
    dsimp only [tNext, tSeq, tAsg, gName]
    have tb3 := tabs_keep tb1 hT1.ht (kp1.trans kp2)
    have l4 := ok.le
    clear kp1 kp2 hT1 hT2 tb1
    -- the numbers
    refine ⟨_, rfl, p1, rfl, ⟨_, SqL.of e1⟩, fun D1 nD1 => ?_⟩
    refine lc_it (walk_list (xs := xs.map V.str)) (DrawP H3 D1 t c cells i2 xs) ⟨Keep.refl.same (same_upd nD1), ⟨i2, g2, j2, by omega, k2, hT3.same (same_upd nD1)⟩, [], (fun _ => (0, 1)), upd_same, .nil, fun n m => by (cases m)⟩ (fun j Hx _ hP => SqL.of (hP.1 _ _ np1 e1)) (fun j x Hx H' hj hP hy => draw_turn ok ⟨_, hT3⟩ ⟨j2, by omega⟩ nD1 j x Hx H' hj hP hy) (fun H6 hP => ?_)
    obtain ⟨kp5, ⟨i5, g5, j8, j9, k5, hT6⟩, ps1, g, hD1, hN1, fr⟩ := hP
    rw [List.length_map, List.take_length] at hN1 fr
    rw [List.length_map] at j9
    obtain ⟨kv1, u1, u2⟩ := hN1.kvs (K := K)
    refine ⟨D1, ps1, kv1, rfl, SqL.of hD1, u1, fun d nd1 => ?_⟩
    rw [mergeK_names u2.kyn ok.nd]
    have s6 : Same H6 (upd H6 d (.dK kv1)) := same_upd nd1
    have hd : (upd H6 d (.dK kv1)) d = some (.dK kv1) := upd_same
    have hp := u2.same s6
    have hT7 := hT6.same s6
    have k57 := kp5.same s6
    generalize (upd H6 d (.dK kv1)) = H7 at hd hp hT7 k57 ⊢
    have e7 := k57 _ _ np1 e1
    have tb7 := tabs_keep tb3 hT3.ht k57
    clear s6 u1 u2 hN1 hD1 hT6 kp5 k57 hT3 nd1 tb3 e1 nD1
    dsimp only [tNext, tSeq, tAsg, gName]
    -- told
    refine ⟨_, rfl, p1, rfl, ⟨_, SqL.of e7⟩, fun D2 nD2 => ?_⟩
    refine lc_it (walk_list (xs := xs.map V.str)) (ToldP H7 C D2 t c cells i5 g xs) ⟨Keep.refl.same (same_upd nD2), ⟨i5, g5, j8, by omega, k5, hT7.same (same_upd nD2)⟩, [], upd_same, .nil⟩ (fun j Hx _ hP => SqL.of (hP.1 _ _ np1 e7)) (fun j x Hx H' hj hP hy => told_turnL hd hp (fun n m => m) fr l4 ⟨_, hT7⟩ ⟨j8, by omega⟩ nD2 j x Hx H' hP hy) (fun H8 hP => ?_)
    obtain ⟨kp7, ⟨i6, g6, ja, jb, k6, hT8⟩, ps2, hD2, hN2⟩ := hP
    rw [List.length_map, List.take_length] at hN2
    rw [List.length_map] at jb
    obtain ⟨kv2, u1, u2⟩ := hN2.kvs (K := K)
    have hd8 := kp7 _ _ (hT7.notLst hd fun _ z => by cases z) hd
    refine ⟨D2, ps2, kv2, rfl, SqL.of hD2, u1, fun td ntd => ?_⟩
    rw [mergeK_names u2.kyn ok.nd]
    have s8 := same_upd (o := .dK kv2) ntd
    have etd : (upd H8 td (.dK kv2)) td = some (.dK kv2) := upd_same
    have dtd : d ≠ td := ne_of_none hd8 ntd
    have k79 := kp7.same s8
    have hT9 := hT8.same s8
    have num9 := u2.same s8
    generalize upd H8 td (.dK kv2) = H9 at s8 etd k79 hT9 num9 ⊢
    have hd9 := s8 _ _ hd8
    have hp9 := hp.keep hT7 k79
    have e9 := k79 _ _ np1 e7
    have tb9 := tabs_keep tb7 hT7.ht k79
    have l2 := Paired.length num9
    clear s8 u1 u2 hN2 hD2 hT8 kp7 k79 hT7 ntd tb7 e7 hd8 hd hp nD2
    dsimp only [tNext, tSeq, tAsg, gName]
    -- the balance
    refine ⟨_, rfl, ?_⟩
    refine ⟨rfl, rfl, fun b dx nb ndx ne => ?_⟩
    have s9 : Same H9 (upd (upd H9 dx (.own b)) b (.ins CB dx [])) := fun n o e => by rw [upd_ne (ne_of_none e nb), upd_ne (ne_of_none e ndx)]; exact e
    refine ⟨b, dx, td, kv2, xs, g, rfl, upd_same, s9 _ _ etd, num9.same s9, ok.nd, by omega, fun n m => ok.ns.nm n m, fun ys nd tp kt H10 off py sy at_ bi n1 n2 n3 => ⟨rfl, ?_⟩⟩
    have s10 : Same H9 H10 := fun n o e => off n o (ne_of_none e nb) (s9 _ _ e)
    have etd' := s9 _ _ etd
    have hB : BalOff H10 td b CB C g (nz g ys) := ⟨dx, nd, tp, kt, at_, bi, (fun z => by rw [z, etd] at nb; cases nb), (fun z => by rw [z, etd'] at n1; cases n1), (fun z => by rw [z, etd'] at n2; cases n2), (fun z => by rw [z, etd'] at n3; cases n3)⟩
    have etd := s10 _ _ etd
    have hT10 := hT9.same s10
    have hd10 := s10 _ _ hd9
    have hp10 := hp9.same s10
    have e10 := s10 _ _ e9
    have tb10 := tabs_same tb9 s10
    clear s9 s10 off at_ bi n1 n2 n3 etd' hT9 hd9 hp9 e9 tb9 num9 nb ndx ne
    dsimp only [tNext, tSeq, tAsg, gName]
    -- what was told is changed
    refine ⟨_, rfl, td, _, rfl, DPut.k (k := .inr (Str.ofString "late")) etd (by rw [sizeLine_eq]; omega), ?_⟩
    have k11 : Keep td H10 (upd H10 td (.dK (putK kv2 (.inr (Str.ofString "late")) (V.int 1)))) := fun n o nn e => (upd_ne nn).trans e
    have l11 := putK_len kv2 (.inr (Str.ofString "late")) (V.int 1)
    have e11 : (upd H10 td (.dK (putK kv2 (.inr (Str.ofString "late")) (V.int 1)))) td = some (.dK (putK kv2 (.inr (Str.ofString "late")) (V.int 1))) := upd_same
    generalize putK kv2 (.inr (Str.ofString "late")) (V.int 1) = kv3 at k11 l11 e11 ⊢
    generalize upd H10 td (.dK kv3) = H11 at k11 e11 ⊢
    have ptd : p1 ≠ td := fun z => by rw [z, etd] at e10; cases e10
    dsimp only [tNext, tSeq, tAsg, gName]
    refine ⟨_, rfl, p1, rfl, ⟨_, SqL.of (k11 _ _ ptd e10)⟩, ?_⟩
    refine for_it (walk_list (xs := xs.map V.str)) (fun j σ Hx => (∃ o6, σ = [some (.ref a), some (.ref t), some (.ref p1), some (.ref d), some (.ref td), some (.ref b), o6, none]) ∧ Keep td H10 Hx ∧ ∃ kv, Hx td = some (.dK kv) ∧ kv.length ≤ 5 + j) ⟨⟨none, rfl⟩, k11, kv3, e11, by omega⟩ (fun j σ Hx _ hP => SqL.of (hP.2.1 _ _ ptd e10)) ?_ ?_
    · rintro j x σ Hx Hx' hj ⟨⟨o6, rfl⟩, kx, kv, ekv, lk⟩ ⟨rfl, ex⟩
      rw [List.getElem?_map] at ex
      obtain ⟨n, en, rfl⟩ := Option.map_eq_some_iff.mp ex
      rw [List.length_map] at hj
      refine ⟨_, rfl, _, rfl, td, _, rfl, DPut.k (k := .inr n) ekv (by rw [sizeLine_eq]; omega), ?_⟩
      exact ⟨⟨_, rfl⟩, fun m o nn e => (upd_ne nn).trans (kx _ _ nn e), _, upd_same, by have := putK_len kv (.inr n) (V.int 7); omega⟩
    rintro σ H12 ⟨⟨o6, rfl⟩, k12, kv, ekv, lk⟩
    have hb := hB.keep etd k12
    have hT : Till H12 t c cells i6 g6 := ⟨k12 _ _ (fun z => by rw [← z, hT10.ht] at etd; cases etd) hT10.ht, k12 _ _ (fun z => by rw [← z, hT10.hc] at etd; cases etd) hT10.hc, hT10.3⟩
    have hd := k12 _ _ dtd hd10
    have hp : PlD H12 g kv1 xs := Paired.mono' (fun _ _ ⟨x1, o, x2, x3⟩ => ⟨x1, o, x2, k12 _ _ (fun z => by rw [z, etd] at x3; cases x3) x3⟩) hp10
    have hl := k12 _ _ ptd e10
    have tb := tabs_off tb10 etd k12
    clear k12 kv3 e11 k11 l11 etd hB ekv lk hT10 hd10 hp10 e10 tb10 kv H11
    dsimp only [tNext, tSeq, tAsg, gName]
    -- what is told of the numbers
    have mz : ∀ n ∈ nz g ys, n ∈ xs := fun n m => py.mem_iff.mp (List.mem_filter.mp m).1
    have nsy : NsOk ys := ok.ns.perm py
    have nsz : NsOk (nz g ys) := nsy.filter _
    have soz : sortedS (nz g ys) = true := sorted_filter _ sy
    have okB : BalOk g (nz g ys) := ⟨nsz, soz, fun n m => by simpa using (List.mem_filter.mp m).2⟩
    have lz : (nz g ys).length ≤ 4 := Nat.le_trans (List.length_filter_le _ _) (by rw [py.length_eq]; exact l4)
    have lo : ∀ n ∈ nz g ys, 0 < (g n).2 ∧ Int.gcd (g n).1 (g n).2 = 1 := fun n m => ⟨(fr n (mz n m)).b0, (fr n (mz n m)).gcd⟩
    have z2 : ∀ n ∈ xs, (g n).2.natAbs < 2 ^ 4 := fun n m => by have := (fr n m).b0; have := (fr n m).b1; show _ < 16; omega
    have tx : TxOk g xs := fun n m => ⟨Nat.lt_of_lt_of_le (fr n m).top (Nat.pow_le_pow_right (by decide) (by decide)), Nat.lt_of_lt_of_le (z2 n m) (Nat.pow_le_pow_right (by decide) (by decide)), Nat.le_trans (ok.nm n m).1 (by decide), tx_len (Nat.lt_of_lt_of_le (fr n m).top (Nat.pow_le_pow_right (by decide) (by decide))) (Nat.lt_of_lt_of_le (z2 n m) (Nat.pow_le_pow_right (by decide) (by decide)))⟩
    have txz : ∀ n ∈ nz g ys, n.length ≤ 1000 ∧ (textR (g n).1 (g n).2).length ≤ 1000 := fun n m => ⟨(tx n (mz n m)).2.2.1, (tx n (mz n m)).2.2.2⟩
    have lo19 : BalLo 1900 g (nz g ys) := ⟨lo, fun n m => ⟨(tx n (mz n m)).1, (tx n (mz n m)).2.1⟩⟩
    have isas : ∀ {Hx : Hp} {b2 : Addr} {Q : VK} {E : XK}, Same H12 Hx → BalAt Hx b2 CB C g (nz g ys) → (∀ H', Same Hx H' → Q (.bl true) H') → spIsAs CB C [.ref b2, .ref d] Hx Q E := fun {Hx b2 Q E} s h q => ⟨b2, d, kv1, xs, nz g ys, g, g, rfl, s _ _ hd, hp.same s, by omega, tx, h, okB, py.filter _, fun _ _ => rfl, lo, q⟩
    obtain ⟨bdx, bnd, btp, bkt, bh, _⟩ := id hb
    -- as it was told
    refine ⟨_, rfl, _, rfl, nilI (isas (Same.refl _) hb fun H13 s13 => ⟨true, rfl, iteF ?_⟩)⟩
    refine ⟨rfl, _, rfl, b, rfl, ⟨bdx, _, s13 _ _ bh⟩, b, g, nz g ys, rfl, hb.same s13, nsz, lo19, txz, fun H14 s14 => ⟨_, rfl, ?_⟩⟩
    refine nilI ⟨g, nz g ys, rfl, nsz, soz, fun n m => ⟨⟨(nsz.nm n m).2, (txz n m).1, (txz n m).2, (lo n m).1, (lo n m).2, Nat.lt_of_lt_of_le (fr n (mz n m)).top (by decide +kernel), Nat.lt_of_lt_of_le (z2 n (mz n m)) (by decide +kernel), okB.ne n m⟩, pool_above (po n (mz n m))⟩, balT_len lz txz, fun n m => ⟨(tx n (mz n m)).1, (tx n (mz n m)).2.1⟩, fun b2 H15 s15 hb2 => ?_⟩
    refine ⟨_, rfl, nilI (isas (s13.trans (s14.trans s15)) hb2 fun H16 s16 => ⟨true, rfl, iteF ?_⟩)⟩
    have s12 := s13.trans (s14.trans (s15.trans s16))
    clear s13 s14 s15 s16 hb2
    dsimp only [tNext, tSeq, tAsg, gName]
    -- no number
    refine ⟨by rw [sizeLine_eq]; exact Nat.zero_le _, fun q1 nq1 q2 nq2 => ?_⟩
    have t1 := same_upd (o := .lst []) nq1
    have f1 : (upd H16 q1 (.lst [])) q1 = some (.lst []) := upd_same
    generalize upd H16 q1 (.lst []) = H17 at t1 f1 nq2 ⊢
    have t2 := same_upd (o := .dK []) nq2
    have f2 : (upd H17 q2 (.dK [])) q2 = some (.dK []) := upd_same
    generalize upd H17 q2 (.dK []) = H18 at t2 f2 ⊢
    refine ⟨by rw [sizeLine_eq]; show 1 ≤ 16777216; decide, fun q3 nq3 => ?_⟩
    have t3 := same_upd (o := .tup [V.str (Str.ofString "a")]) nq3
    have f3 : (upd H18 q3 (.tup [V.str (Str.ofString "a")])) q3 = some (.tup [V.str (Str.ofString "a")]) := upd_same
    generalize upd H18 q3 (.tup [V.str (Str.ofString "a")]) = H19 at t3 f3 ⊢
    refine nilI ⟨by rw [sizeLine_eq]; show 9 ≤ 16777216; decide, fun T' nT' => ?_⟩
    have t4 := same_upd (o := .tup [V.str (Str.ofString "late"), V.str (Str.ofString ""), V.str (Str.ofString "A"), V.non, V.int 0, V.bl true, V.ref q1, V.ref q2, V.ref q3]) nT'
    have f4 : (upd H19 T' (.tup [V.str (Str.ofString "late"), V.str (Str.ofString ""), V.str (Str.ofString "A"), V.non, V.int 0, V.bl true, V.ref q1, V.ref q2, V.ref q3])) T' = some (.tup [V.str (Str.ofString "late"), V.str (Str.ofString ""), V.str (Str.ofString "A"), V.non, V.int 0, V.bl true, V.ref q1, V.ref q2, V.ref q3]) := upd_same
    generalize upd H19 T' (.tup [V.str (Str.ofString "late"), V.str (Str.ofString ""), V.str (Str.ofString "A"), V.non, V.int 0, V.bl true, V.ref q1, V.ref q2, V.ref q3]) = H20 at t4 f4 ⊢
    have g1' := (t2.trans (t3.trans t4)) _ _ f1
    have g2' := (t3.trans t4) _ _ f2
    have g3' := t4 _ _ f3
    have s20 := s12.trans (t1.trans (t2.trans (t3.trans t4)))
    have hb20 := hb.same s20
    have bh20 := s20 _ _ bh
    clear t1 t2 t3 t4 f1 f2 f3 nq1 nq2 nq3 nT' s12
    have nlate : Str.ofString "late" ∉ nz g ys := fun m => (pool_facts _ (po _ (mz _ m))).2.1 rfl
    have ans : ∀ {Hx : Hp} {x : V}, Same H20 Hx → x ∈ [V.str (Str.ofString "late"), V.str (Str.ofString ""), V.str (Str.ofString "A"), V.non, V.int 0, V.bl true, V.ref q1, V.ref q2, V.ref q3] → ∀ {Q : VK} {E : XK}, (∀ r H', Same Hx H' → RatAt H' r C 0 1 → Q (.ref r) H') → (spNum CB C [.ref b, x] Hx Q E ∨ spNumO K CB C [.ref b, x] Hx Q E) := fun {Hx x} s mx {Q E} q => by
      have od : NmIs K Hx x false → (spNum CB C [.ref b, x] Hx Q E ∨ spNumO K CB C [.ref b, x] Hx Q E) := fun h => .inr ⟨b, x, g, nz g ys, rfl, hb20.same s, h, q⟩
      simp only [List.mem_cons, List.not_mem_nil, or_false] at mx
      rcases mx with rfl | rfl | rfl | rfl | rfl | rfl | rfl | rfl | rfl
      · refine .inl ⟨b, Str.ofString "late", g, nz g ys, rfl, hb20.same s, by decide, by decide +kernel, fun r H' sr hr => ?_⟩
        rw [num_out nlate] at hr
        exact q r H' sr hr
      · exact od (nmS (Str.ofString "") (by decide +kernel))
      · exact od (nmS (Str.ofString "A") (by decide +kernel))
      · exact od (.inr ⟨_, .base .non, kit_ty (r := false) (by decide +kernel), rfl⟩)
      · exact od (.inr ⟨_, .base (.int _), kit_ty (r := false) (by decide +kernel), rfl⟩)
      · exact od (.inr ⟨_, .base (.bl _), kit_ty (r := false) (by decide +kernel), rfl⟩)
      · exact od (.inr ⟨_, .base (.lst (s _ _ g1')), kit_ty (r := false) (by decide +kernel), rfl⟩)
      · exact od (.inr ⟨_, .base (.dK (s _ _ g2')), kit_ty (r := false) (by decide +kernel), rfl⟩)
      · exact od (.inr ⟨_, .base (.tup (s _ _ g3')), kit_ty (r := false) (by decide +kernel), rfl⟩)
    refine ⟨T', rfl, ⟨_, SqT.of f4⟩, ?_⟩
    refine for_it (walk_tup (xs := [V.str (Str.ofString "late"), V.str (Str.ofString ""), V.str (Str.ofString "A"), V.non, V.int 0, V.bl true, V.ref q1, V.ref q2, V.ref q3])) (fun j σ Hx => (∃ o6 o7, σ = [some (.ref a), some (.ref t), some (.ref p1), some (.ref d), some (.ref td), some (.ref b), o6, o7]) ∧ Same H20 Hx) ⟨⟨_, none, rfl⟩, Same.refl _⟩ (fun j σ Hx _ hP => SqT.of (hP.2 _ _ f4)) ?_ ?_
    · rintro j x σ Hx Hx' hj ⟨⟨o6, o7, rfl⟩, sx⟩ ⟨rfl, ex⟩
      have mx := List.mem_of_getElem? ex
      refine ⟨_, rfl, b, bdx, _, rfl, sx _ _ bh20, rfl, _, rfl, ?_⟩
      refine nilI (ans sx mx fun r H21 s21 hr => ?_)
      refine ⟨_, _, _, _, _, rfl, .own C, hr.ty Z.R.T Z.R.I, Z.R.I.cc, true, rfl, iteF ?_⟩
      refine ⟨_, rfl, b, bdx, _, rfl, s21 _ _ (sx _ _ bh20), rfl, _, rfl, ?_⟩
      refine nilI (ans (sx.trans s21) mx fun r2 H22 s22 hr2 => ?_)
      refine ⟨r2, .type "int", rfl, hr2.ins, ty_plain (plainT_int _), Z.nfR, r2, .int 0, 0, 1, rfl, hr2, .inr (.inl ⟨0, rfl, _, rfl, false, rfl, iteF ?_⟩)⟩
      exact ⟨⟨_, _, rfl⟩, sx.trans (s21.trans s22)⟩
    rintro σ H23 ⟨⟨o6, o7, rfl⟩, sx⟩
    have s23 := s20.trans sx
    clear ans sx hb20 bh20 g1' g2' g3' f4 s20 H20
    have hb23 := hb.same s23
    have bh23 := s23 _ _ bh
    have hd23 := s23 _ _ hd
    have hp23 := hp.same s23
    have hl23 := s23 _ _ hl
    have dget : ∀ {Hx : Hp} {n : Str} {o : Addr}, Same H23 Hx → valV kv1 (.inr n) = some (.ref o) → DGet Hx d (.str n) (some (.ref o)) := fun {Hx n o} s ev => by
      have z : DGet Hx d (kV (.inr n)) (valV kv1 (.inr n)) := DGet.k (s _ _ hd23)
      rw [ev] at z
      exact z
    dsimp only [tNext, tSeq, tAsg, gName]
    -- gains
    refine ⟨_, rfl, b, bdx, _, rfl, bh23, rfl, nilI ⟨b, g, nz g ys, rfl, hb23, okB, fun a1 H24 s24 hG => ?_⟩⟩
    refine ⟨_, rfl, p1, rfl, ⟨_, SqL.of (s24 _ _ hl23)⟩, fun D3 nD3 => ?_⟩
    refine lc_it (walk_list (xs := xs.map V.str)) (FilP H24 D3 (fun n => decide (0 < (g n).1)) g xs) ⟨same_upd nD3, [], upd_same, .nil⟩ (fun j Hx _ hP => SqL.of (hP.1 _ _ (s24 _ _ hl23))) (fun j x Hx Hx' hj hP hy => ?_) (fun H25 hP => ?_)
    · obtain ⟨rfl, ex⟩ := hy
      rw [List.getElem?_map] at ex
      obtain ⟨n, en, rfl⟩ := Option.map_eq_some_iff.mp ex
      have sx := s24.trans hP.1
      obtain ⟨o, ev, ho⟩ := (hp23.same sx).val (List.mem_of_getElem? en)
      refine ⟨rfl, ?_⟩
      refine ⟨_, rfl, _, rfl, d, .ref o, rfl, dget sx ev, ?_⟩
      refine ⟨_, _, _, _, rfl, rfl, SqT.of ho, rfl, _, _, rfl, rfl, decide (0 < (g n).1), rfl, ite2 (fun c => ?_) (fun c => ?_)⟩
      · refine ⟨_, rfl, _, rfl, _, rfl, d, .ref o, rfl, dget sx ev, ?_⟩
        refine nilI ⟨by rw [sizeLine_eq]; show 2 ≤ 16777216; decide, fun p np => ?_⟩
        exact hP.put l4 nD3 en c (same_upd np) upd_same ((same_upd np) _ _ ho)
      · exact hP.skip en (by simpa using c)
    obtain ⟨s25, ps3, hD3, hN3⟩ := hP
    rw [List.length_map, List.take_length] at hN3
    obtain ⟨kv3, u1, u2⟩ := hN3.kvs (K := K)
    refine ⟨D3, ps3, kv3, rfl, SqL.of hD3, u1, fun d3 nd3 => ?_⟩
    rw [mergeK_names u2.kyn (ok.nd.filter _)]
    have t3 := same_upd (o := .dK kv3) nd3
    have f3 : (upd H25 d3 (.dK kv3)) d3 = some (.dK kv3) := upd_same
    generalize upd H25 d3 (.dK kv3) = H26 at t3 f3 ⊢
    have sf : ∀ f : Str → Bool, ((nz g ys).filter f).Perm (nz g (xs.filter f)) := fun f => by
      have h1 : ((nz g ys).filter f).Perm ((nz g xs).filter f) := (py.filter _).filter _
      have h2 : (nz g xs).filter f = nz g (xs.filter f) := by
        unfold nz
        rw [List.filter_filter, List.filter_filter]
        exact List.filter_congr fun n _ => Bool.and_comm _ _
      rw [← h2]
      exact h1
    have lf : ∀ f : Str → Bool, (xs.filter f).length ≤ 60 := fun f => by have := List.length_filter_le f xs; omega
    refine nilI ⟨a1, d3, kv3, xs.filter fun n => decide (0 < (g n).1), _, g, g, rfl, f3, u2.same t3, lf _, fun n m => tx n (List.mem_filter.mp m).1, hG.same (s25.trans t3), okB.filter _, sf _, fun _ _ => rfl, fun n m => lo n (List.mem_filter.mp m).1, fun H27 s27 => ⟨true, rfl, iteF ?_⟩⟩
    have s28 := s24.trans (s25.trans (t3.trans s27))
    clear s24 s25 t3 f3 s27 hG hD3 hN3 u1 u2 nd3 nD3
    dsimp only [tNext, tSeq, tAsg, gName]
    -- losses
    refine ⟨_, rfl, b, bdx, _, rfl, s28 _ _ bh23, rfl, nilI ⟨b, g, nz g ys, rfl, hb23.same s28, okB, lo19, fun a2 H29 s29 hG => ?_⟩⟩
    replace s29 := s28.trans s29
    refine ⟨_, rfl, p1, rfl, ⟨_, SqL.of (s29 _ _ hl23)⟩, fun D4 nD4 => ?_⟩
    refine lc_it (walk_list (xs := xs.map V.str)) (FilP H29 D4 (fun n => decide ((g n).1 < 0)) (fun n => (-(g n).1, (g n).2)) xs) ⟨same_upd nD4, [], upd_same, .nil⟩ (fun j Hx _ hP => SqL.of (hP.1 _ _ (s29 _ _ hl23))) (fun j x Hx Hx' hj hP hy => ?_) (fun H30 hP => ?_)
    · obtain ⟨rfl, ex⟩ := hy
      rw [List.getElem?_map] at ex
      obtain ⟨n, en, rfl⟩ := Option.map_eq_some_iff.mp ex
      have sx := s29.trans hP.1
      obtain ⟨o, ev, ho⟩ := (hp23.same sx).val (List.mem_of_getElem? en)
      refine ⟨rfl, ?_⟩
      refine ⟨_, rfl, _, rfl, d, .ref o, rfl, dget sx ev, ?_⟩
      refine ⟨_, _, _, _, rfl, rfl, SqT.of ho, rfl, _, _, rfl, rfl, decide ((g n).1 < 0), rfl, ite2 (fun c => ?_) (fun c => ?_)⟩
      · refine ⟨_, rfl, _, rfl, _, rfl, d, .ref o, rfl, dget sx ev, ?_⟩
        refine ⟨_, _, _, _, rfl, rfl, SqT.of ho, rfl, _, rfl, ?_⟩
        refine ⟨_, rfl, _, rfl, d, .ref o, rfl, dget sx ev, ?_⟩
        refine ⟨_, _, _, _, rfl, rfl, SqT.of ho, rfl, ?_⟩
        refine nilI ⟨by rw [sizeLine_eq]; show 2 ≤ 16777216; decide, fun o2 no2 => ?_⟩
        have so := same_upd (o := .tup [V.int (-(g n).1), V.int (g n).2]) no2
        have eo : (upd Hx' o2 (.tup [V.int (-(g n).1), V.int (g n).2])) o2 = some (.tup (tupF (-(g n).1, (g n).2))) := upd_same
        generalize upd Hx' o2 (.tup [V.int (-(g n).1), V.int (g n).2]) = Hy at so eo ⊢
        refine nilI ⟨by rw [sizeLine_eq]; show 2 ≤ 16777216; decide, fun p np => ?_⟩
        exact hP.put l4 nD4 en c (so.trans (same_upd np)) upd_same ((same_upd np) _ _ eo)
      · exact hP.skip en (by simpa using c)
    obtain ⟨s30, ps4, hD4, hN4⟩ := hP
    rw [List.length_map, List.take_length] at hN4
    obtain ⟨kv4, u1, u2⟩ := hN4.kvs (K := K)
    refine ⟨D4, ps4, kv4, rfl, SqL.of hD4, u1, fun d4 nd4 => ?_⟩
    rw [mergeK_names u2.kyn (ok.nd.filter _)]
    have t4 := same_upd (o := .dK kv4) nd4
    have f4 : (upd H30 d4 (.dK kv4)) d4 = some (.dK kv4) := upd_same
    generalize upd H30 d4 (.dK kv4) = H31 at t4 f4 ⊢
    have nzn : ∀ l : List Str, nz (fun n => (-(g n).1, (g n).2)) l = nz g l := fun l => List.filter_congr fun n _ => by
      by_cases e : (g n).1 = 0
      · simp [e]
      · have : -(g n).1 ≠ 0 := by omega
        simp [e, this]
    have neg : ∀ n ∈ xs, (-(g n).1).natAbs < 2 ^ 100 := fun n m => by rw [Int.natAbs_neg]; exact (fr n m).top
    refine nilI ⟨a2, d4, kv4, xs.filter fun n => decide ((g n).1 < 0), _, fun n => (-(g n).1, (g n).2), fun n => (-(g n).1, (g n).2), rfl, f4, u2.same t4, lf _, fun n m => ?_, hG.same (s30.trans t4), ⟨nsz.filter _, sorted_filter _ soz, fun n m => ?_⟩, ?_, fun _ _ => rfl, fun n m => ?_, fun H32 s32 => ⟨true, rfl, iteF ?_⟩⟩
    · have mx := (List.mem_filter.mp m).1
      have t := tx n mx
      exact ⟨Nat.lt_of_lt_of_le (neg n mx) (Nat.pow_le_pow_right (by decide) (by decide)), t.2.1, t.2.2.1, tx_len (Nat.lt_of_lt_of_le (neg n mx) (Nat.pow_le_pow_right (by decide) (by decide))) (Nat.lt_of_lt_of_le (z2 n mx) (Nat.pow_le_pow_right (by decide) (by decide)))⟩
    · have := okB.ne n (List.mem_filter.mp m).1
      show -(g n).1 ≠ 0
      omega
    · rw [nzn]
      exact sf _
    · have := lo n (List.mem_filter.mp m).1
      exact ⟨this.1, by show Int.gcd (-(g n).1) (g n).2 = 1; rw [Int.neg_gcd]; exact this.2⟩
    have s33 := s29.trans (s30.trans (t4.trans s32))
    have s34 := s23.trans s33
    clear s29 s30 t4 f4 s32 hG hD4 hN4 u1 u2 nd4 nD4 s28 s33 hb23 bh23 hd23 hp23 hl23 dget s23
    dsimp only [tNext, tSeq, tAsg, gName]
    -- the rest
    have T34 := hT.same s34
    have hb34 := hb.same s34
    have hd34 := s34 _ _ hd
    have hp34 := hp.same s34
    have hl34 := s34 _ _ hl
    have tb34 := tabs_same tb s34
    clear hb hd hp hl tb hT bh isas s34
    refine ⟨_, rfl, t, c, cells, i6, g6, rfl, T34, ja, by omega, k6, fun i7 g7 H35 b70 b71 k7 kp35 T35 => ⟨true, rfl, iteT ?_⟩⟩
    have hb35 := hb34.keepT T34.ht kp35
    have hd35 := kp35 _ _ (T34.notLst hd34 fun _ z => by cases z) hd34
    have hp35 := hp34.keep T34 kp35
    have hl35 := kp35 _ _ np1 hl34
    have tb35 := tabs_keep tb34 T34.ht kp35
    refine ⟨_, rfl, _, rfl, _, rfl, _, rfl, p1, _, rfl, SqL.of hl35, fun q nq => ?_⟩
    rw [← List.map_reverse]
    have sq := same_upd (o := .lst (xs.reverse.map V.str)) nq
    have fq : (upd H35 q (.lst (xs.reverse.map V.str))) q = some (.lst (xs.reverse.map V.str)) := upd_same
    have nqt : q ≠ t := T35.off nq
    generalize upd H35 q (.lst (xs.reverse.map V.str)) = H36 at sq fq ⊢
    have hb36 := hb35.same sq
    have T36 := T35.same sq
    refine nilI ⟨t, b, d, q, c, cells, i7, g7, kv1, xs, ys, xs.reverse, g, rfl, T36, b70, by omega, k7, sq _ _ hd35, hp35.same sq, ok, po, fr, hb36, py, sy, nqt, fq, List.reverse_perm xs, fun i8 g8 H37 b80 b81 k8 kp37 T37 => ⟨true, rfl, iteT ?_⟩⟩
    exact ⟨_, rfl, _, rfl, t, b, c, cells, i8, g8, g, nz g ys, rfl, T37, b80, by omega, k8, hb36.keepT T36.ht kp37, tabs_keep (tabs_same tb35 sq) T36.ht kp37, fun H' => k H'⟩
end
end K04
namespace K04
open PySem PySem.Spec PyProof.Rows L2 RatM LamX ClX
theorem raw0 {P : Program} {w : World} {K : PySem.W.Frag} {mg : Str → Option Value} {base : Heap} {CX : CXT} {k : Nat} {f : Addr} {fd : FuncData} {ps : List Str} {sp : Sp} (F : FnOk P w K mg base CX k f fd ps sp) (hb : Binds K fd ps []) : FnR P w K mg base CX k f sp :=
  (FnOk.raw F hb (dvs := []) .nil).imp fun vs H Q E h => by rw [List.append_nil]; exact h
theorem kbnP {K : PySem.W.Frag} {x qual : Str} {params : Arguments} {body : List Stmt} {scope : Scope} {kws : List (Str × V)} {f : Addr} {fd : FuncData} {ps : List Str} (F : FunD K x qual params body scope [] kws f fd) (n : Nat) (ks : List Str)
    (h : ∀ (kV doc pm : Value) (an : Option Addr) (cdv ct : Value) (us ws : List Value), us.length = n → ws.length = ks.length → bindArgs (PySem.W.fnOf x qual params body scope .none kV doc pm an cdv ct) ⟨us, ks.zip ws⟩ = pure (ps.zip (us ++ ws))) : KBn K fd ps n ks (fun us ws => us ++ ws) (fun vs zs => vs ++ zs) := by
  obtain ⟨oc, od, dV, kV, doc, pm, an, cdv, ct, osl, rfl, lk, hcd, hD, hK⟩ := F.ex
  rcases hD with ⟨_, rfl⟩ | ⟨e, _⟩
  · exact ⟨fun s us ws _ l1 l2 => .of_eq (h kV doc pm an cdv ct us ws l1 l2), fun r1 r2 => r1.append r2⟩
  · exact absurd rfl e
section
variable {P : Program} {w : World} {K : PySem.W.Frag} {h : Heap} {mg : Str → Option Value} {base : Heap}
theorem fxs (c : SaysK fa fn fx tf h K) (i : Nat) {f : PySem.W.Frag → Bool} (e : fx[i]? = some f) : f K = true := List.all_eq_true.mp c.x f (List.mem_of_getElem? e)
abbrev TT (K : PySem.W.Frag) : List (Addr × Str) := [((He.cT K ("_law_refused", none)).2, lamQ "_law_refused")]
theorem fact_law0 (X : K.In h) (G : h.Ns mainGlobals mg) (c : SaysK fa fn fx tf h K) {fd_g_law : FuncData} (F_g_law : FnP K "law" (top 72) (He.ga K "law") fd_g_law) (hTB0 : TabB base mg (He.codeOf K ("_law_refused", none)) (He.cT K ("_law_refused", none)).2) : FnOk P w K mg base CX0 17 (He.ga K "law") fd_g_law ["_law_script"] (spLaw K (TT K)) := by
  obtain ⟨fd_m_Balance_init, F0_m_Balance_init⟩ := c.a.def_ 1 (d := d_m_Balance_init) rfl
  have F_m_Balance_init : MtP K "__init__" "Balance.__init__" (inClass (top 39) 0) (He.ma K (He.ga K "Balance") "__init__") fd_m_Balance_init := F0_m_Balance_init
  obtain ⟨fd_m_BadBalance_init, F0_m_BadBalance_init⟩ := c.a.def_ 2 (d := d_m_BadBalance_init) rfl
  have F_m_BadBalance_init : MtP K "__init__" "BadBalance.__init__" (inClass (top 5) 0) (He.ma K (He.ga K "BadBalance") "__init__") fd_m_BadBalance_init := F0_m_BadBalance_init
  obtain ⟨fd_g_numbers_in, F0_g_numbers_in⟩ := c.a.def_ 3 (d := d_g_numbers_in) rfl
  have F_g_numbers_in : FnP K "numbers_in" (top 37) (He.ga K "numbers_in") fd_g_numbers_in := F0_g_numbers_in
  obtain ⟨fd_g_are_names, F0_g_are_names⟩ := c.a.def_ 4 (d := d_g_are_names) rfl
  have F_g_are_names : FnP K "are_names" (top 19) (He.ga K "are_names") fd_g_are_names := F0_g_are_names
  obtain ⟨fd_g_is_name, F0_g_is_name⟩ := c.a.def_ 5 (d := d_g_is_name) rfl
  have F_g_is_name : FnP K "is_name" (top 17) (He.ga K "is_name") fd_g_is_name := F0_g_is_name
  obtain ⟨fd_g_is_list, F0_g_is_list⟩ := c.a.def_ 6 (d := d_g_is_list) rfl
  have F_g_is_list : FnP K "is_list" (top 18) (He.ga K "is_list") fd_g_is_list := F0_g_is_list
  obtain ⟨fd_g_is_ratio, F0_g_is_ratio⟩ := c.a.def_ 7 (d := d_g_is_ratio) rfl
  have F_g_is_ratio : FnP K "is_ratio" (top 31) (He.ga K "is_ratio") fd_g_is_ratio := F0_g_is_ratio
  obtain ⟨fd_m_Ratio_init, F0_m_Ratio_init⟩ := c.a.def_ 8 (d := d_m_Ratio_init) rfl
  have F_m_Ratio_init : FunD K "__init__" "Ratio.__init__" (defArgs (inClass (top 30) 0)) (defBody (inClass (top 30) 0)) (defScope (inClass (top 30) 0)) [.int 1] [] (He.ma K (He.ga K "Ratio") "__init__") fd_m_Ratio_init := F0_m_Ratio_init
  obtain ⟨fd_m_BadRatio_init, F0_m_BadRatio_init⟩ := c.a.def_ 9 (d := d_m_BadRatio_init) rfl
  have F_m_BadRatio_init : MtP K "__init__" "BadRatio.__init__" (inClass (top 4) 0) (He.ma K (He.ga K "BadRatio") "__init__") fd_m_BadRatio_init := F0_m_BadRatio_init
  obtain ⟨fd_g_is_integer, F0_g_is_integer⟩ := c.a.def_ 10 (d := d_g_is_integer) rfl
  have F_g_is_integer : FnP K "is_integer" (top 16) (He.ga K "is_integer") fd_g_is_integer := F0_g_is_integer
  obtain ⟨fd_g_ratio_of, F0_g_ratio_of⟩ := c.a.def_ 11 (d := d_g_ratio_of) rfl
  have F_g_ratio_of : FnP K "_ratio_of" (top 32) (He.ga K "_ratio_of") fd_g_ratio_of := F0_g_ratio_of
  obtain ⟨fd_m_Ratio_add, F0_m_Ratio_add⟩ := c.a.def_ 12 (d := d_m_Ratio_add) rfl
  have F_m_Ratio_add : MtP K "__add__" "Ratio.__add__" (inClass (top 30) 6) (He.ma K (He.ga K "Ratio") "__add__") fd_m_Ratio_add := F0_m_Ratio_add
  obtain ⟨fd_m_Ratio_sub, F0_m_Ratio_sub⟩ := c.a.def_ 13 (d := d_m_Ratio_sub) rfl
  have F_m_Ratio_sub : MtP K "__sub__" "Ratio.__sub__" (inClass (top 30) 7) (He.ma K (He.ga K "Ratio") "__sub__") fd_m_Ratio_sub := F0_m_Ratio_sub
  obtain ⟨fd_m_Ratio_mul, F0_m_Ratio_mul⟩ := c.a.def_ 14 (d := d_m_Ratio_mul) rfl
  have F_m_Ratio_mul : MtP K "__mul__" "Ratio.__mul__" (inClass (top 30) 8) (He.ma K (He.ga K "Ratio") "__mul__") fd_m_Ratio_mul := F0_m_Ratio_mul
  obtain ⟨fd_m_Ratio_of, F0_m_Ratio_of⟩ := c.a.def_ 15 (d := d_m_Ratio_of) rfl
  have F_m_Ratio_of : MtP K "of" "Ratio.of" (inClass (top 30) 2) (He5.wf K (He.ga K "Ratio") "staticmethod" "of") fd_m_Ratio_of := F0_m_Ratio_of
  obtain ⟨fd_m_Balance_number_of, F0_m_Balance_number_of⟩ := c.a.def_ 16 (d := d_m_Balance_number_of) rfl
  have F_m_Balance_number_of : MtP K "number_of" "Balance.number_of" (inClass (top 39) 3) (He.ma K (He.ga K "Balance") "number_of") fd_m_Balance_number_of := F0_m_Balance_number_of
  obtain ⟨fd_m_Balance_str, F0_m_Balance_str⟩ := c.a.def_ 17 (d := d_m_Balance_str) rfl
  have F_m_Balance_str : MtP K "__str__" "Balance.__str__" (inClass (top 39) 13) (He.ma K (He.ga K "Balance") "__str__") fd_m_Balance_str := F0_m_Balance_str
  obtain ⟨fd_g_written_balances, F0_g_written_balances⟩ := c.a.def_ 18 (d := d_g_written_balances) rfl
  have F_g_written_balances : FnP K "_written" (top 44) (He.ga K "written_balances") fd_g_written_balances := F0_g_written_balances
  obtain ⟨fd_g_term, F0_g_term⟩ := c.a.def_ 19 (d := d_g_term) rfl
  have F_g_term : FnP K "_term" (top 46) (He.ga K "_term") fd_g_term := F0_g_term
  obtain ⟨fd_m_Ratio_eq, F0_m_Ratio_eq⟩ := c.a.def_ 20 (d := d_m_Ratio_eq) rfl
  have F_m_Ratio_eq : MtP K "__eq__" "Ratio.__eq__" (inClass (top 30) 12) (He.ma K (He.ga K "Ratio") "__eq__") fd_m_Ratio_eq := F0_m_Ratio_eq
  obtain ⟨fd_g_is_same, F0_g_is_same⟩ := c.a.def_ 21 (d := d_g_is_same) rfl
  have F_g_is_same : FnP K "_is_same" (top 33) (He.ga K "_is_same") fd_g_is_same := F0_g_is_same
  obtain ⟨fd_m_Ratio_str, F0_m_Ratio_str⟩ := c.a.def_ 22 (d := d_m_Ratio_str) rfl
  have F_m_Ratio_str : MtP K "__str__" "Ratio.__str__" (inClass (top 30) 13) (He.ma K (He.ga K "Ratio") "__str__") fd_m_Ratio_str := F0_m_Ratio_str
  obtain ⟨fd_g_written_ratios, F0_g_written_ratios⟩ := c.a.def_ 23 (d := d_g_written_ratios) rfl
  have F_g_written_ratios : FnP K "_written" (top 34) (He.ga K "written_ratios") fd_g_written_ratios := F0_g_written_ratios
  obtain ⟨fd_m_Balance_read, F0_m_Balance_read⟩ := c.a.def_ 24 (d := d_m_Balance_read) rfl
  have F_m_Balance_read : MtP K "read" "Balance.read" (inClass (top 39) 1) (He5.wf K (He.ga K "Balance") "classmethod" "read") fd_m_Balance_read := F0_m_Balance_read
  obtain ⟨fd_g_reader_of, F0_g_reader_of⟩ := c.a.def_ 25 (d := d_g_reader_of) rfl
  have F_g_reader_of : FnP K "reader_of" (top 27) (He.ga K "reader_of") fd_g_reader_of := F0_g_reader_of
  obtain ⟨fd_m_BadText_init, F0_m_BadText_init⟩ := c.a.def_ 26 (d := d_m_BadText_init) rfl
  have F_m_BadText_init : MtP K "__init__" "BadText.__init__" (inClass (top 11) 0) (He.ma K (He.ga K "BadText") "__init__") fd_m_BadText_init := F0_m_BadText_init
  obtain ⟨fd_m_Reader_init, F0_m_Reader_init⟩ := c.a.def_ 27 (d := d_m_Reader_init) rfl
  have F_m_Reader_init : MtP K "__init__" "Reader.__init__" (inClass (top 26) 0) (He.ma K (He.ga K "Reader") "__init__") fd_m_Reader_init := F0_m_Reader_init
  obtain ⟨fd_m_Reader_peek, F0_m_Reader_peek⟩ := c.a.def_ 28 (d := d_m_Reader_peek) rfl
  have F_m_Reader_peek : MtP K "peek" "Reader.peek" (inClass (top 26) 1) (He.ma K (He.ga K "Reader") "peek") fd_m_Reader_peek := F0_m_Reader_peek
  obtain ⟨fd_m_Reader_step, F0_m_Reader_step⟩ := c.a.def_ 29 (d := d_m_Reader_step) rfl
  have F_m_Reader_step : MtP K "step" "Reader.step" (inClass (top 26) 2) (He.ma K (He.ga K "Reader") "step") fd_m_Reader_step := F0_m_Reader_step
  obtain ⟨fd_m_Reader_refuse, F0_m_Reader_refuse⟩ := c.a.def_ 30 (d := d_m_Reader_refuse) rfl
  have F_m_Reader_refuse : MtP K "refuse" "Reader.refuse" (inClass (top 26) 3) (He.ma K (He.ga K "Reader") "refuse") fd_m_Reader_refuse := F0_m_Reader_refuse
  obtain ⟨fd_m_Reader_finish, F0_m_Reader_finish⟩ := c.a.def_ 31 (d := d_m_Reader_finish) rfl
  have F_m_Reader_finish : MtP K "finish" "Reader.finish" (inClass (top 26) 6) (He.ma K (He.ga K "Reader") "finish") fd_m_Reader_finish := F0_m_Reader_finish
  obtain ⟨fd_m_Reader_is_alone, F0_m_Reader_is_alone⟩ := c.a.def_ 32 (d := d_m_Reader_is_alone) rfl
  have F_m_Reader_is_alone : MtP K "is_alone" "Reader.is_alone" (inClass (top 26) 7) (He.ma K (He.ga K "Reader") "is_alone") fd_m_Reader_is_alone := F0_m_Reader_is_alone
  obtain ⟨fd_g_read_term, F0_g_read_term⟩ := c.a.def_ 33 (d := d_g_read_term) rfl
  have F_g_read_term : FnP K "_read_term" (top 47) (He.ga K "_read_term") fd_g_read_term := F0_g_read_term
  obtain ⟨fd_g_ratio_in, F0_g_ratio_in⟩ := c.a.def_ 34 (d := d_g_ratio_in) rfl
  have F_g_ratio_in : FnP K "ratio_in" (top 36) (He.ga K "ratio_in") fd_g_ratio_in := F0_g_ratio_in
  obtain ⟨fd_g_whole_in, F0_g_whole_in⟩ := c.a.def_ 35 (d := d_g_whole_in) rfl
  have F_g_whole_in : FnP K "whole_in" (top 28) (He.ga K "whole_in") fd_g_whole_in := F0_g_whole_in
  obtain ⟨fd_g_free_name, F0_g_free_name⟩ := c.a.def_ 36 (d := d_g_free_name) rfl
  have F_g_free_name : FnP K "free_name" (top 23) (He.ga K "free_name") fd_g_free_name := F0_g_free_name
  obtain ⟨fd_g_name_above, F0_g_name_above⟩ := c.a.def_ 37 (d := d_g_name_above) rfl
  have F_g_name_above : FnP K "name_above" (top 22) (He.ga K "name_above") fd_g_name_above := F0_g_name_above
  obtain ⟨fd_m_Balance_gains, F0_m_Balance_gains⟩ := c.a.def_ 38 (d := d_m_Balance_gains) rfl
  have F_m_Balance_gains : MtP K "gains" "Balance.gains" (inClass (top 39) 4) (He.ma K (He.ga K "Balance") "gains") fd_m_Balance_gains := F0_m_Balance_gains
  obtain ⟨fd_m_Balance_losses, F0_m_Balance_losses⟩ := c.a.def_ 39 (d := d_m_Balance_losses) rfl
  have F_m_Balance_losses : MtP K "losses" "Balance.losses" (inClass (top 39) 5) (He.ma K (He.ga K "Balance") "losses") fd_m_Balance_losses := F0_m_Balance_losses
  obtain ⟨fd_m_Ratio_neg, F0_m_Ratio_neg⟩ := c.a.def_ 40 (d := d_m_Ratio_neg) rfl
  have F_m_Ratio_neg : MtP K "__neg__" "Ratio.__neg__" (inClass (top 30) 9) (He.ma K (He.ga K "Ratio") "__neg__") fd_m_Ratio_neg := F0_m_Ratio_neg
  obtain ⟨fd_g_law_reel, F0_g_law_reel⟩ := c.a.def_ 41 (d := d_g_law_reel) rfl
  have F_g_law_reel : FnP K "_law_reel" (top 54) (He.ga K "_law_reel") fd_g_law_reel := F0_g_law_reel
  obtain ⟨fd_g_law_turn, F0_g_law_turn⟩ := c.a.def_ 42 (d := d_g_law_turn) rfl
  have F_g_law_turn : FnP K "_law_turn" (top 55) (He.ga K "_law_turn") fd_g_law_turn := F0_g_law_turn
  obtain ⟨fd_g_law_things, F0_g_law_things⟩ := c.a.def_ 43 (d := d_g_law_things) rfl
  have F_g_law_things : FnP K "_law_things" (top 62) (He.ga K "_law_things") fd_g_law_things := F0_g_law_things
  obtain ⟨fd_g_law_pick, F0_g_law_pick⟩ := c.a.def_ 44 (d := d_g_law_pick) rfl
  have F_g_law_pick : FnP K "_law_pick" (top 56) (He.ga K "_law_pick") fd_g_law_pick := F0_g_law_pick
  obtain ⟨fd_g_law_number, F0_g_law_number⟩ := c.a.def_ 45 (d := d_g_law_number) rfl
  have F_g_law_number : FnP K "_law_number" (top 61) (He.ga K "_law_number") fd_g_law_number := F0_g_law_number
  obtain ⟨fd_g_law_low, F0_g_law_low⟩ := c.a.def_ 46 (d := d_g_law_low) rfl
  have F_g_law_low : FnP K "_law_low" (top 58) (He.ga K "_law_low") fd_g_law_low := F0_g_law_low
  obtain ⟨fd_g_law_shared, F0_g_law_shared⟩ := c.a.def_ 47 (d := d_g_law_shared) rfl
  have F_g_law_shared : FnP K "_law_shared" (top 57) (He.ga K "_law_shared") fd_g_law_shared := F0_g_law_shared
  obtain ⟨fd_g_law_ratio, F0_g_law_ratio⟩ := c.a.def_ 48 (d := d_g_law_ratio) rfl
  have F_g_law_ratio : FnP K "_law_ratio" (top 66) (He.ga K "_law_ratio") fd_g_law_ratio := F0_g_law_ratio
  obtain ⟨fd_g_law_is_as, F0_g_law_is_as⟩ := c.a.def_ 49 (d := d_g_law_is_as) rfl
  have F_g_law_is_as : FnP K "_law_is_as" (top 67) (He.ga K "_law_is_as") fd_g_law_is_as := F0_g_law_is_as
  obtain ⟨fd_g_law_named, F0_g_law_named⟩ := c.a.def_ 50 (d := d_g_law_named) rfl
  have F_g_law_named : FnP K "_law_named" (top 64) (He.ga K "_law_named") fd_g_law_named := F0_g_law_named
  obtain ⟨fd_g_law_told, F0_g_law_told⟩ := c.a.def_ 51 (d := d_g_law_told) rfl
  have F_g_law_told : FnP K "_law_told" (top 65) (He.ga K "_law_told") fd_g_law_told := F0_g_law_told
  obtain ⟨fd_g_law_text, F0_g_law_text⟩ := c.a.def_ 52 (d := d_g_law_text) rfl
  have F_g_law_text : FnP K "_law_text" (top 63) (He.ga K "_law_text") fd_g_law_text := F0_g_law_text
  obtain ⟨fd_g_law_of_right, F0_g_law_of_right⟩ := c.a.def_ 53 (d := d_g_law_of_right) rfl
  have F_g_law_of_right : FnP K "_law_of_right" (top 70) (He.ga K "_law_of_right") fd_g_law_of_right := F0_g_law_of_right
  obtain ⟨fd_m_Balance_of, F0_m_Balance_of⟩ := c.a.def_ 54 (d := d_m_Balance_of) rfl
  have F_m_Balance_of : MtP K "of" "Balance.of" (inClass (top 39) 2) (He5.wf K (He.ga K "Balance") "staticmethod" "of") fd_m_Balance_of := F0_m_Balance_of
  obtain ⟨fd_g_counts, F0_g_counts⟩ := c.a.def_ 55 (d := d_g_counts) rfl
  have F_g_counts : FnP K "_counts" (top 41) (He.ga K "_counts") fd_g_counts := F0_g_counts
  obtain ⟨fd_g_law_equal_right, F0_g_law_equal_right⟩ := c.a.def_ 56 (d := d_g_law_equal_right) rfl
  have F_g_law_equal_right : FnP K "_law_equal_right" (top 71) (He.ga K "_law_equal_right") fd_g_law_equal_right := F0_g_law_equal_right
  obtain ⟨fd_m_Scale_init, F0_m_Scale_init⟩ := c.a.def_ 57 (d := d_m_Scale_init) rfl
  have F_m_Scale_init : MtP K "__init__" "Scale.__init__" (inClass (top 49) 0) (He.ma K (He.ga K "Scale") "__init__") fd_m_Scale_init := F0_m_Scale_init
  obtain ⟨fd_m_BadScale_init, F0_m_BadScale_init⟩ := c.a.def_ 58 (d := d_m_BadScale_init) rfl
  have F_m_BadScale_init : MtP K "__init__" "BadScale.__init__" (inClass (top 6) 0) (He.ma K (He.ga K "BadScale") "__init__") fd_m_BadScale_init := F0_m_BadScale_init
  obtain ⟨fd_m_Balance_eq, F0_m_Balance_eq⟩ := c.a.def_ 59 (d := d_m_Balance_eq) rfl
  have F_m_Balance_eq : MtP K "__eq__" "Balance.__eq__" (inClass (top 39) 12) (He.ma K (He.ga K "Balance") "__eq__") fd_m_Balance_eq := F0_m_Balance_eq
  obtain ⟨fd_g_law_refused, F0_g_law_refused⟩ := c.a.def_ 60 (d := d_g_law_refused) rfl
  have F_g_law_refused : FnP K "_law_refused" (top 69) (He.ga K "_law_refused") fd_g_law_refused := F0_g_law_refused
  obtain ⟨fd_g_law_heard, F0_g_law_heard⟩ := c.a.def_ 61 (d := d_g_law_heard) rfl
  have F_g_law_heard : FnP K "_law_heard" (top 68) (He.ga K "_law_heard") fd_g_law_heard := F0_g_law_heard
  obtain ⟨fd_g_mean_of, F0_g_mean_of⟩ := c.a.def_ 62 (d := d_g_mean_of) rfl
  have F_g_mean_of : FnP K "mean_of" (top 40) (He.ga K "mean_of") fd_g_mean_of := F0_g_mean_of
  obtain ⟨fd_m_Balance_mul, F0_m_Balance_mul⟩ := c.a.def_ 63 (d := d_m_Balance_mul) rfl
  have F_m_Balance_mul : MtP K "__mul__" "Balance.__mul__" (inClass (top 39) 11) (He.ma K (He.ga K "Balance") "__mul__") fd_m_Balance_mul := F0_m_Balance_mul
  obtain ⟨fd_g_times, F0_g_times⟩ := c.a.def_ 64 (d := d_g_times) rfl
  have F_g_times : FnP K "_times" (top 43) (He.ga K "_times") fd_g_times := F0_g_times
  obtain ⟨fd_m_BadNumber_init, F0_m_BadNumber_init⟩ := c.a.def_ 65 (d := d_m_BadNumber_init) rfl
  have F_m_BadNumber_init : MtP K "__init__" "BadNumber.__init__" (inClass (top 7) 0) (He.ma K (He.ga K "BadNumber") "__init__") fd_m_BadNumber_init := F0_m_BadNumber_init
  obtain ⟨fd_m_Balance_renamed, F0_m_Balance_renamed⟩ := c.a.def_ 66 (d := d_m_Balance_renamed) rfl
  have F_m_Balance_renamed : MtP K "renamed" "Balance.renamed" (inClass (top 39) 7) (He.ma K (He.ga K "Balance") "renamed") fd_m_Balance_renamed := F0_m_Balance_renamed
  obtain ⟨fd_g_is_naming, F0_g_is_naming⟩ := c.a.def_ 67 (d := d_g_is_naming) rfl
  have F_g_is_naming : FnP K "is_naming" (top 20) (He.ga K "is_naming") fd_g_is_naming := F0_g_is_naming
  obtain ⟨fd_m_Balance_add, F0_m_Balance_add⟩ := c.a.def_ 68 (d := d_m_Balance_add) rfl
  have F_m_Balance_add : MtP K "__add__" "Balance.__add__" (inClass (top 39) 8) (He.ma K (He.ga K "Balance") "__add__") fd_m_Balance_add := F0_m_Balance_add
  obtain ⟨fd_g_summed, F0_g_summed⟩ := c.a.def_ 69 (d := d_g_summed) rfl
  have F_g_summed : FnP K "_summed" (top 42) (He.ga K "_summed") fd_g_summed := F0_g_summed
  obtain ⟨fd_m_Balance_sub, F0_m_Balance_sub⟩ := c.a.def_ 70 (d := d_m_Balance_sub) rfl
  have F_m_Balance_sub : MtP K "__sub__" "Balance.__sub__" (inClass (top 39) 9) (He.ma K (He.ga K "Balance") "__sub__") fd_m_Balance_sub := F0_m_Balance_sub
  have Z_BalC : BalC K (He.ga K "Balance") := ⟨(He.cls_ok (c.a.fact 0 (f := .cls "Balance") rfl)), (fun f hf => by
    simp only [List.mem_cons, List.not_mem_nil, or_false] at hf
    rcases hf with rfl | rfl | rfl | rfl
    · exact He.noat_ok (c.a.fact 1 (f := .noat "Balance" "_numbers") rfl)
    · exact He.noat_ok (c.a.fact 2 (f := .noat "Balance" "things") rfl)
    · exact He.noat_ok (c.a.fact 3 (f := .noat "Balance" "is_nothing") rfl)
    · exact He.noat_ok (c.a.fact 4 (f := .noat "Balance" "key") rfl))⟩
  have l : (He.ga K "Ratio") ≠ (He.ga K "Balance") := (of_decide_eq_true (fxs c 0 (f := fun K => (decide ((He.ga K "Ratio") ≠ (He.ga K "Balance")))) rfl))
  have gl_Balance : mg "Balance" = some (.ref (He.ga K "Balance")) := He.glo_ok X G (c.a.fact 5 (f := .glo "Balance") rfl)
  have Z_RatC : RatC K (He.ga K "Ratio") := ⟨(He.cls_ok (c.a.fact 7 (f := .cls "Ratio") rfl)), (fun f hf => by
    simp only [List.mem_cons, List.not_mem_nil, or_false] at hf
    rcases hf with rfl | rfl | rfl | rfl | rfl
    · exact He.noat_ok (c.a.fact 8 (f := .noat "Ratio" "top") rfl)
    · exact He.noat_ok (c.a.fact 9 (f := .noat "Ratio" "bottom") rfl)
    · exact He.noat_ok (c.a.fact 10 (f := .noat "Ratio" "sign") rfl)
    · exact He.noat_ok (c.a.fact 11 (f := .noat "Ratio" "is_whole") rfl)
    · exact He.noat_ok (c.a.fact 12 (f := .noat "Ratio" "below") rfl))⟩
  have M_BadBalance : ErrN P w K mg base "BadBalance" (He.ga K "BadBalance") ["part"] := mk_BadBalance F_m_BadBalance_init (errB_ok (fxs c 1 (f := errB "BadBalance" ["part"]) rfl)).1.ox (errB_ok (fxs c 1 (f := errB "BadBalance" ["part"]) rfl)).1.ini (errB_ok (fxs c 1 (f := errB "BadBalance" ["part"]) rfl)).1.fn (errB_ok (fxs c 1 (f := errB "BadBalance" ["part"]) rfl)).1.no (He.glo_ok X G (errB_ok (fxs c 1 (f := errB "BadBalance" ["part"]) rfl)).2)
  have fr_tuple : mg "tuple" = none := He.free_ok X G (c.a.fact 13 (f := .free "tuple") rfl)
  have fr_len : mg "len" = none := He.free_ok X G (c.a.fact 14 (f := .free "len") rfl)
  have fr_isinstance : mg "isinstance" = none := He.free_ok X G (c.a.fact 15 (f := .free "isinstance") rfl)
  have fr_dict : mg "dict" = none := He.free_ok X G (c.a.fact 16 (f := .free "dict") rfl)
  have fr_list : mg "list" = none := He.free_ok X G (c.a.fact 17 (f := .free "list") rfl)
  have fr_all : mg "all" = none := He.free_ok X G (c.a.fact 18 (f := .free "all") rfl)
  have fr_sorted : mg "sorted" = none := He.free_ok X G (c.a.fact 19 (f := .free "sorted") rfl)
  have fr_str : mg "str" = none := He.free_ok X G (c.a.fact 20 (f := .free "str") rfl)
  have Z_NmG : NmG mg := ⟨fr_isinstance, fr_str, fr_len, fr_all, (He.int_ok X G (c.a.fact 21 (f := .int "_LONGEST" 12) rfl)), (He.str_ok X G (c.a.fact 22 (f := .str "_LETTERS" letS) rfl)), (He.str_ok X G (c.a.fact 23 (f := .str "_SIGNS" sigS) rfl))⟩
  have G_isName := ok_isName (P := P) (w := w) (K := K) (mg := mg) (base := base) F_g_is_name Z_NmG
  have b_g_is_name := FunD.bindsN (ps := ["value"]) F_g_is_name fun _ _ _ _ _ _ us hl => match us, hl with | [_], _ => rfl
  have gl_is_name : mg "is_name" = some (.ref (He.ga K "is_name")) := He.glo_ok X G (c.a.fact 24 (f := .glo "is_name") rfl)
  have G_isList := ok_isList (P := P) (w := w) (K := K) (mg := mg) (base := base) F_g_is_list fr_isinstance fr_list fr_tuple
  have b_g_is_list := FunD.bindsN (ps := ["value"]) F_g_is_list fun _ _ _ _ _ _ us hl => match us, hl with | [_], _ => rfl
  have gl_is_list : mg "is_list" = some (.ref (He.ga K "is_list")) := He.glo_ok X G (c.a.fact 25 (f := .glo "is_list") rfl)
  have G_areNames := ok_areNames (P := P) (w := w) (K := K) (mg := mg) (base := base) F_g_are_names fr_all G_isName b_g_is_name F_g_is_name.kp gl_is_name G_isList b_g_is_list F_g_is_list.kp gl_is_list
  have b_g_are_names := FunD.bindsN (ps := ["value"]) F_g_are_names fun _ _ _ _ _ _ us hl => match us, hl with | [_], _ => rfl
  have gl_are_names : mg "are_names" = some (.ref (He.ga K "are_names")) := He.glo_ok X G (c.a.fact 26 (f := .glo "are_names") rfl)
  have l' : RatI K (He.ga K "Ratio") := ⟨(He.eqO_ok (Bool.and_eq_true_iff.mp (fxs c 2 (f := fun K => ((He.eqO (PySem.W.findIn K (.ref (He.ga K "Ratio")) "__class__") (some (some (.builtin "object.__class__")))) && ((He.eqO (PySem.W.specialIn K (.builtin "object.__class__") "__get__") (some (some (.builtin "getset_descriptor.__get__")))) && ((decide (PySem.W.takesIn K (.builtin "object.__class__") = some true)) && ((decide (PySem.W.mroIn K (He.ga K "Ratio") (.type "object") = some true)) && ((decide (PySem.W.kitOne K (.ref (He.ga K "Ratio")) (.ref (He.ga K "Ratio")) = some true)) && ((decide (PySem.W.kitOne K (.ref (He.ga K "Ratio")) (.type "int") = some false)) && ((decide (PySem.W.kitOne K (.ref (He.ga K "Ratio")) (.type "bool") = some false)) && (decide (PySem.W.kitOne K (.type "int") (.ref (He.ga K "Ratio")) = some false)))))))))) rfl)).1), (He.eqO_ok (Bool.and_eq_true_iff.mp (Bool.and_eq_true_iff.mp (fxs c 2 (f := fun K => ((He.eqO (PySem.W.findIn K (.ref (He.ga K "Ratio")) "__class__") (some (some (.builtin "object.__class__")))) && ((He.eqO (PySem.W.specialIn K (.builtin "object.__class__") "__get__") (some (some (.builtin "getset_descriptor.__get__")))) && ((decide (PySem.W.takesIn K (.builtin "object.__class__") = some true)) && ((decide (PySem.W.mroIn K (He.ga K "Ratio") (.type "object") = some true)) && ((decide (PySem.W.kitOne K (.ref (He.ga K "Ratio")) (.ref (He.ga K "Ratio")) = some true)) && ((decide (PySem.W.kitOne K (.ref (He.ga K "Ratio")) (.type "int") = some false)) && ((decide (PySem.W.kitOne K (.ref (He.ga K "Ratio")) (.type "bool") = some false)) && (decide (PySem.W.kitOne K (.type "int") (.ref (He.ga K "Ratio")) = some false)))))))))) rfl)).2).1), (of_decide_eq_true (Bool.and_eq_true_iff.mp (Bool.and_eq_true_iff.mp (Bool.and_eq_true_iff.mp (fxs c 2 (f := fun K => ((He.eqO (PySem.W.findIn K (.ref (He.ga K "Ratio")) "__class__") (some (some (.builtin "object.__class__")))) && ((He.eqO (PySem.W.specialIn K (.builtin "object.__class__") "__get__") (some (some (.builtin "getset_descriptor.__get__")))) && ((decide (PySem.W.takesIn K (.builtin "object.__class__") = some true)) && ((decide (PySem.W.mroIn K (He.ga K "Ratio") (.type "object") = some true)) && ((decide (PySem.W.kitOne K (.ref (He.ga K "Ratio")) (.ref (He.ga K "Ratio")) = some true)) && ((decide (PySem.W.kitOne K (.ref (He.ga K "Ratio")) (.type "int") = some false)) && ((decide (PySem.W.kitOne K (.ref (He.ga K "Ratio")) (.type "bool") = some false)) && (decide (PySem.W.kitOne K (.type "int") (.ref (He.ga K "Ratio")) = some false)))))))))) rfl)).2).2).1), (of_decide_eq_true (Bool.and_eq_true_iff.mp (Bool.and_eq_true_iff.mp (Bool.and_eq_true_iff.mp (Bool.and_eq_true_iff.mp (fxs c 2 (f := fun K => ((He.eqO (PySem.W.findIn K (.ref (He.ga K "Ratio")) "__class__") (some (some (.builtin "object.__class__")))) && ((He.eqO (PySem.W.specialIn K (.builtin "object.__class__") "__get__") (some (some (.builtin "getset_descriptor.__get__")))) && ((decide (PySem.W.takesIn K (.builtin "object.__class__") = some true)) && ((decide (PySem.W.mroIn K (He.ga K "Ratio") (.type "object") = some true)) && ((decide (PySem.W.kitOne K (.ref (He.ga K "Ratio")) (.ref (He.ga K "Ratio")) = some true)) && ((decide (PySem.W.kitOne K (.ref (He.ga K "Ratio")) (.type "int") = some false)) && ((decide (PySem.W.kitOne K (.ref (He.ga K "Ratio")) (.type "bool") = some false)) && (decide (PySem.W.kitOne K (.type "int") (.ref (He.ga K "Ratio")) = some false)))))))))) rfl)).2).2).2).1), (of_decide_eq_true (Bool.and_eq_true_iff.mp (Bool.and_eq_true_iff.mp (Bool.and_eq_true_iff.mp (Bool.and_eq_true_iff.mp (Bool.and_eq_true_iff.mp (fxs c 2 (f := fun K => ((He.eqO (PySem.W.findIn K (.ref (He.ga K "Ratio")) "__class__") (some (some (.builtin "object.__class__")))) && ((He.eqO (PySem.W.specialIn K (.builtin "object.__class__") "__get__") (some (some (.builtin "getset_descriptor.__get__")))) && ((decide (PySem.W.takesIn K (.builtin "object.__class__") = some true)) && ((decide (PySem.W.mroIn K (He.ga K "Ratio") (.type "object") = some true)) && ((decide (PySem.W.kitOne K (.ref (He.ga K "Ratio")) (.ref (He.ga K "Ratio")) = some true)) && ((decide (PySem.W.kitOne K (.ref (He.ga K "Ratio")) (.type "int") = some false)) && ((decide (PySem.W.kitOne K (.ref (He.ga K "Ratio")) (.type "bool") = some false)) && (decide (PySem.W.kitOne K (.type "int") (.ref (He.ga K "Ratio")) = some false)))))))))) rfl)).2).2).2).2).1), (of_decide_eq_true (Bool.and_eq_true_iff.mp (Bool.and_eq_true_iff.mp (Bool.and_eq_true_iff.mp (Bool.and_eq_true_iff.mp (Bool.and_eq_true_iff.mp (Bool.and_eq_true_iff.mp (fxs c 2 (f := fun K => ((He.eqO (PySem.W.findIn K (.ref (He.ga K "Ratio")) "__class__") (some (some (.builtin "object.__class__")))) && ((He.eqO (PySem.W.specialIn K (.builtin "object.__class__") "__get__") (some (some (.builtin "getset_descriptor.__get__")))) && ((decide (PySem.W.takesIn K (.builtin "object.__class__") = some true)) && ((decide (PySem.W.mroIn K (He.ga K "Ratio") (.type "object") = some true)) && ((decide (PySem.W.kitOne K (.ref (He.ga K "Ratio")) (.ref (He.ga K "Ratio")) = some true)) && ((decide (PySem.W.kitOne K (.ref (He.ga K "Ratio")) (.type "int") = some false)) && ((decide (PySem.W.kitOne K (.ref (He.ga K "Ratio")) (.type "bool") = some false)) && (decide (PySem.W.kitOne K (.type "int") (.ref (He.ga K "Ratio")) = some false)))))))))) rfl)).2).2).2).2).2).1), (of_decide_eq_true (Bool.and_eq_true_iff.mp (Bool.and_eq_true_iff.mp (Bool.and_eq_true_iff.mp (Bool.and_eq_true_iff.mp (Bool.and_eq_true_iff.mp (Bool.and_eq_true_iff.mp (Bool.and_eq_true_iff.mp (fxs c 2 (f := fun K => ((He.eqO (PySem.W.findIn K (.ref (He.ga K "Ratio")) "__class__") (some (some (.builtin "object.__class__")))) && ((He.eqO (PySem.W.specialIn K (.builtin "object.__class__") "__get__") (some (some (.builtin "getset_descriptor.__get__")))) && ((decide (PySem.W.takesIn K (.builtin "object.__class__") = some true)) && ((decide (PySem.W.mroIn K (He.ga K "Ratio") (.type "object") = some true)) && ((decide (PySem.W.kitOne K (.ref (He.ga K "Ratio")) (.ref (He.ga K "Ratio")) = some true)) && ((decide (PySem.W.kitOne K (.ref (He.ga K "Ratio")) (.type "int") = some false)) && ((decide (PySem.W.kitOne K (.ref (He.ga K "Ratio")) (.type "bool") = some false)) && (decide (PySem.W.kitOne K (.type "int") (.ref (He.ga K "Ratio")) = some false)))))))))) rfl)).2).2).2).2).2).2).1), (of_decide_eq_true (Bool.and_eq_true_iff.mp (Bool.and_eq_true_iff.mp (Bool.and_eq_true_iff.mp (Bool.and_eq_true_iff.mp (Bool.and_eq_true_iff.mp (Bool.and_eq_true_iff.mp (Bool.and_eq_true_iff.mp (fxs c 2 (f := fun K => ((He.eqO (PySem.W.findIn K (.ref (He.ga K "Ratio")) "__class__") (some (some (.builtin "object.__class__")))) && ((He.eqO (PySem.W.specialIn K (.builtin "object.__class__") "__get__") (some (some (.builtin "getset_descriptor.__get__")))) && ((decide (PySem.W.takesIn K (.builtin "object.__class__") = some true)) && ((decide (PySem.W.mroIn K (He.ga K "Ratio") (.type "object") = some true)) && ((decide (PySem.W.kitOne K (.ref (He.ga K "Ratio")) (.ref (He.ga K "Ratio")) = some true)) && ((decide (PySem.W.kitOne K (.ref (He.ga K "Ratio")) (.type "int") = some false)) && ((decide (PySem.W.kitOne K (.ref (He.ga K "Ratio")) (.type "bool") = some false)) && (decide (PySem.W.kitOne K (.type "int") (.ref (He.ga K "Ratio")) = some false)))))))))) rfl)).2).2).2).2).2).2).2)⟩
  have M_BadRatio : ErrN P w K mg base "BadRatio" (He.ga K "BadRatio") ["part"] := mk_BadRatio F_m_BadRatio_init (errB_ok (fxs c 3 (f := errB "BadRatio" ["part"]) rfl)).1.ox (errB_ok (fxs c 3 (f := errB "BadRatio" ["part"]) rfl)).1.ini (errB_ok (fxs c 3 (f := errB "BadRatio" ["part"]) rfl)).1.fn (errB_ok (fxs c 3 (f := errB "BadRatio" ["part"]) rfl)).1.no (He.glo_ok X G (errB_ok (fxs c 3 (f := errB "BadRatio" ["part"]) rfl)).2)
  have fr_int : mg "int" = none := He.free_ok X G (c.a.fact 27 (f := .free "int") rfl)
  have fr_bool : mg "bool" = none := He.free_ok X G (c.a.fact 28 (f := .free "bool") rfl)
  have G_isInt := ok_isInt (P := P) (w := w) (K := K) (mg := mg) (base := base) F_g_is_integer fr_isinstance fr_int fr_bool
  have b_g_is_integer := FunD.bindsN (ps := ["value"]) F_g_is_integer fun _ _ _ _ _ _ us hl => match us, hl with | [_], _ => rfl
  have gl_is_integer : mg "is_integer" = some (.ref (He.ga K "is_integer")) := He.glo_ok X G (c.a.fact 29 (f := .glo "is_integer") rfl)
  have G_ratInit := ok_ratInit (P := P) (w := w) (K := K) (mg := mg) (base := base) F_m_Ratio_init Z_RatC M_BadRatio G_isInt b_g_is_integer F_g_is_integer.kp gl_is_integer (PySem.W.mg_of X G (He.eqO_ok (fxs c 4 (f := fun K => He.eqO (PySem.W.nsIn K mainGlobals "gcd") (some (some (.builtin "math.gcd")))) rfl)))
  have gl_Ratio : mg "Ratio" = some (.ref (He.ga K "Ratio")) := He.glo_ok X G (c.a.fact 30 (f := .glo "Ratio") rfl)
  have Z_RatK : RatK P w K mg base (He.ga K "Ratio") (He.ga K "BadRatio") := by
    obtain ⟨ds0, v0, b0⟩ := FunD.binds1 (ps := ["self", "top", "bottom"]) F_m_Ratio_init 3 1 (by simp) rfl fun _ _ _ _ _ _ _ us its h1 h2 => match us, its, h1, h2 with | [_, _, _], [_], _, _ => ⟨_, rfl, rfl⟩
    obtain ⟨ds1, v1, b1⟩ := FunD.binds1 (ps := ["self", "top", "bottom"]) F_m_Ratio_init 2 0 (by simp) rfl fun _ _ _ _ _ _ _ us its h1 h2 => match us, its, h1, h2 with | [_, _], [_], _, _ => ⟨_, rfl, rfl⟩
    obtain rfl : ds0 = [] := by cases v0; rfl
    exact ⟨Z_RatC, l', M_BadRatio, gl_Ratio, fr_isinstance, ⟨(He.ga K "is_integer"), _, ⟨G_isInt, b_g_is_integer, F_g_is_integer.kp, gl_is_integer⟩⟩, ⟨_, _, ds1, (He.mkr_ok (c.a.fact 31 (f := .mkr "Ratio") rfl)), G_ratInit, b0, b1, v1⟩⟩
  have G_ratioOf := ok_ratioOf (P := P) (w := w) (K := K) (mg := mg) (base := base) F_g_ratio_of Z_RatK
  have b_g_ratio_of := FunD.bindsN (ps := ["value", "part"]) F_g_ratio_of fun _ _ _ _ _ _ us hl => match us, hl with | [_, _], _ => rfl
  have gl_ratio_of : mg "_ratio_of" = some (.ref (He.ga K "_ratio_of")) := He.glo_ok X G (c.a.fact 32 (f := .glo "_ratio_of") rfl)
  have Z_RatF : RatF P w K mg base (He.ga K "Ratio") (He.ga K "BadRatio") := ⟨Z_RatK, ⟨(He.ga K "_ratio_of"), _, ⟨G_ratioOf, b_g_ratio_of, F_g_ratio_of.kp, gl_ratio_of⟩⟩⟩
  have l'' : PySem.W.selfFirst K (He.ga K "Ratio") = true := (fxs c 5 (f := fun K => (PySem.W.selfFirst K (He.ga K "Ratio"))) rfl)
  have l''' : ∀ T ∈ oddTypes, PySem.W.kitOne K (.type T) (.ref (He.ga K "Ratio")) = some false := (fun T hT => (of_decide_eq_true (List.all_eq_true.mp (fxs c 6 (f := fun K => (oddTypes : List _).all fun T => (decide (PySem.W.kitOne K (.type T) (.ref (He.ga K "Ratio")) = some false))) rfl) T hT)))
  have o_m_Ratio_add : OwnM K (He.ga K "Ratio") "__add__" (He.ma K (He.ga K "Ratio") "__add__") := ⟨He.eqO_ok (Bool.and_eq_true_iff.mp (fxs c 7 (f := fun K => (He.eqO (PySem.W.findIn K (.ref (He.ga K "Ratio")) "__add__") (some (some (.ref (He.ma K (He.ga K "Ratio") "__add__")))) && PySem.W.isFn K (.ref (He.ma K (He.ga K "Ratio") "__add__")))) rfl)).1, (Bool.and_eq_true_iff.mp (fxs c 7 (f := fun K => (He.eqO (PySem.W.findIn K (.ref (He.ga K "Ratio")) "__add__") (some (some (.ref (He.ma K (He.ga K "Ratio") "__add__")))) && PySem.W.isFn K (.ref (He.ma K (He.ga K "Ratio") "__add__")))) rfl)).2⟩
  have l'''' : PySem.W.findIn K (.ref (He.ga K "Ratio")) (dunderR "add") = some none := (He.eqO_ok (fxs c 8 (f := fun K => (He.eqO (PySem.W.findIn K (.ref (He.ga K "Ratio")) (dunderR "add")) (some none))) rfl))
  have l''''' : ∀ T ∈ "int" :: oddTypes, RightT K (He.ga K "Ratio") "add" T := (fun T hT => ⟨(Option.isSome_iff_exists.mp (Bool.and_eq_true_iff.mp (List.all_eq_true.mp (fxs c 9 (f := fun K => ("int" :: oddTypes : List _).all fun T => ((PySem.W.findIn K (.type T) (PySem.dunder "add")).isSome && ((PySem.W.findIn K (.type T) (dunderR "add")).isSome && (decide (PySem.W.subIn K (.type T) (.ref (He.ga K "Ratio")) = some false))))) rfl) T hT)).1), (Option.isSome_iff_exists.mp (Bool.and_eq_true_iff.mp (Bool.and_eq_true_iff.mp (List.all_eq_true.mp (fxs c 9 (f := fun K => ("int" :: oddTypes : List _).all fun T => ((PySem.W.findIn K (.type T) (PySem.dunder "add")).isSome && ((PySem.W.findIn K (.type T) (dunderR "add")).isSome && (decide (PySem.W.subIn K (.type T) (.ref (He.ga K "Ratio")) = some false))))) rfl) T hT)).2).1), (of_decide_eq_true (Bool.and_eq_true_iff.mp (Bool.and_eq_true_iff.mp (List.all_eq_true.mp (fxs c 9 (f := fun K => ("int" :: oddTypes : List _).all fun T => ((PySem.W.findIn K (.type T) (PySem.dunder "add")).isSome && ((PySem.W.findIn K (.type T) (dunderR "add")).isSome && (decide (PySem.W.subIn K (.type T) (.ref (He.ga K "Ratio")) = some false))))) rfl) T hT)).2).2)⟩)
  have Z_OpF : OpF K (He.ga K "Ratio") "add" (He.ma K (He.ga K "Ratio") "__add__") := ⟨o_m_Ratio_add, l'''', l'''''⟩
  have G_add := ok_add (P := P) (w := w) (K := K) (mg := mg) (base := base) F_m_Ratio_add Z_RatF
  have b_m_Ratio_add := FunD.bindsN (ps := ["self", "other"]) F_m_Ratio_add fun _ _ _ _ _ _ us hl => match us, hl with | [_, _], _ => rfl
  have o_m_Ratio_sub : OwnM K (He.ga K "Ratio") "__sub__" (He.ma K (He.ga K "Ratio") "__sub__") := ⟨He.eqO_ok (Bool.and_eq_true_iff.mp (fxs c 10 (f := fun K => (He.eqO (PySem.W.findIn K (.ref (He.ga K "Ratio")) "__sub__") (some (some (.ref (He.ma K (He.ga K "Ratio") "__sub__")))) && PySem.W.isFn K (.ref (He.ma K (He.ga K "Ratio") "__sub__")))) rfl)).1, (Bool.and_eq_true_iff.mp (fxs c 10 (f := fun K => (He.eqO (PySem.W.findIn K (.ref (He.ga K "Ratio")) "__sub__") (some (some (.ref (He.ma K (He.ga K "Ratio") "__sub__")))) && PySem.W.isFn K (.ref (He.ma K (He.ga K "Ratio") "__sub__")))) rfl)).2⟩
  have l'''''' : PySem.W.findIn K (.ref (He.ga K "Ratio")) (dunderR "sub") = some none := (He.eqO_ok (fxs c 11 (f := fun K => (He.eqO (PySem.W.findIn K (.ref (He.ga K "Ratio")) (dunderR "sub")) (some none))) rfl))
  have l''''''' : ∀ T ∈ "int" :: oddTypes, RightT K (He.ga K "Ratio") "sub" T := (fun T hT => ⟨(Option.isSome_iff_exists.mp (Bool.and_eq_true_iff.mp (List.all_eq_true.mp (fxs c 12 (f := fun K => ("int" :: oddTypes : List _).all fun T => ((PySem.W.findIn K (.type T) (PySem.dunder "sub")).isSome && ((PySem.W.findIn K (.type T) (dunderR "sub")).isSome && (decide (PySem.W.subIn K (.type T) (.ref (He.ga K "Ratio")) = some false))))) rfl) T hT)).1), (Option.isSome_iff_exists.mp (Bool.and_eq_true_iff.mp (Bool.and_eq_true_iff.mp (List.all_eq_true.mp (fxs c 12 (f := fun K => ("int" :: oddTypes : List _).all fun T => ((PySem.W.findIn K (.type T) (PySem.dunder "sub")).isSome && ((PySem.W.findIn K (.type T) (dunderR "sub")).isSome && (decide (PySem.W.subIn K (.type T) (.ref (He.ga K "Ratio")) = some false))))) rfl) T hT)).2).1), (of_decide_eq_true (Bool.and_eq_true_iff.mp (Bool.and_eq_true_iff.mp (List.all_eq_true.mp (fxs c 12 (f := fun K => ("int" :: oddTypes : List _).all fun T => ((PySem.W.findIn K (.type T) (PySem.dunder "sub")).isSome && ((PySem.W.findIn K (.type T) (dunderR "sub")).isSome && (decide (PySem.W.subIn K (.type T) (.ref (He.ga K "Ratio")) = some false))))) rfl) T hT)).2).2)⟩)
  have Z_OpF' : OpF K (He.ga K "Ratio") "sub" (He.ma K (He.ga K "Ratio") "__sub__") := ⟨o_m_Ratio_sub, l'''''', l'''''''⟩
  have G_sub := ok_sub (P := P) (w := w) (K := K) (mg := mg) (base := base) F_m_Ratio_sub Z_RatF
  have b_m_Ratio_sub := FunD.bindsN (ps := ["self", "other"]) F_m_Ratio_sub fun _ _ _ _ _ _ us hl => match us, hl with | [_, _], _ => rfl
  have o_m_Ratio_mul : OwnM K (He.ga K "Ratio") "__mul__" (He.ma K (He.ga K "Ratio") "__mul__") := ⟨He.eqO_ok (Bool.and_eq_true_iff.mp (fxs c 13 (f := fun K => (He.eqO (PySem.W.findIn K (.ref (He.ga K "Ratio")) "__mul__") (some (some (.ref (He.ma K (He.ga K "Ratio") "__mul__")))) && PySem.W.isFn K (.ref (He.ma K (He.ga K "Ratio") "__mul__")))) rfl)).1, (Bool.and_eq_true_iff.mp (fxs c 13 (f := fun K => (He.eqO (PySem.W.findIn K (.ref (He.ga K "Ratio")) "__mul__") (some (some (.ref (He.ma K (He.ga K "Ratio") "__mul__")))) && PySem.W.isFn K (.ref (He.ma K (He.ga K "Ratio") "__mul__")))) rfl)).2⟩
  have l'''''''' : PySem.W.findIn K (.ref (He.ga K "Ratio")) (dunderR "mul") = some none := (He.eqO_ok (fxs c 14 (f := fun K => (He.eqO (PySem.W.findIn K (.ref (He.ga K "Ratio")) (dunderR "mul")) (some none))) rfl))
  have l''''''''' : ∀ T ∈ "int" :: oddTypes, RightT K (He.ga K "Ratio") "mul" T := (fun T hT => ⟨(Option.isSome_iff_exists.mp (Bool.and_eq_true_iff.mp (List.all_eq_true.mp (fxs c 15 (f := fun K => ("int" :: oddTypes : List _).all fun T => ((PySem.W.findIn K (.type T) (PySem.dunder "mul")).isSome && ((PySem.W.findIn K (.type T) (dunderR "mul")).isSome && (decide (PySem.W.subIn K (.type T) (.ref (He.ga K "Ratio")) = some false))))) rfl) T hT)).1), (Option.isSome_iff_exists.mp (Bool.and_eq_true_iff.mp (Bool.and_eq_true_iff.mp (List.all_eq_true.mp (fxs c 15 (f := fun K => ("int" :: oddTypes : List _).all fun T => ((PySem.W.findIn K (.type T) (PySem.dunder "mul")).isSome && ((PySem.W.findIn K (.type T) (dunderR "mul")).isSome && (decide (PySem.W.subIn K (.type T) (.ref (He.ga K "Ratio")) = some false))))) rfl) T hT)).2).1), (of_decide_eq_true (Bool.and_eq_true_iff.mp (Bool.and_eq_true_iff.mp (List.all_eq_true.mp (fxs c 15 (f := fun K => ("int" :: oddTypes : List _).all fun T => ((PySem.W.findIn K (.type T) (PySem.dunder "mul")).isSome && ((PySem.W.findIn K (.type T) (dunderR "mul")).isSome && (decide (PySem.W.subIn K (.type T) (.ref (He.ga K "Ratio")) = some false))))) rfl) T hT)).2).2)⟩)
  have Z_OpF'' : OpF K (He.ga K "Ratio") "mul" (He.ma K (He.ga K "Ratio") "__mul__") := ⟨o_m_Ratio_mul, l'''''''', l'''''''''⟩
  have G_mul := ok_mul (P := P) (w := w) (K := K) (mg := mg) (base := base) F_m_Ratio_mul Z_RatF
  have b_m_Ratio_mul := FunD.bindsN (ps := ["self", "other"]) F_m_Ratio_mul fun _ _ _ _ _ _ us hl => match us, hl with | [_, _], _ => rfl
  have Z_RatG : RatG P w K mg base (He.ga K "Ratio") (He.ga K "BadRatio") := ⟨Z_RatF, l'', l''', ⟨(He.ma K (He.ga K "Ratio") "__add__"), _, ⟨Z_OpF, G_add, b_m_Ratio_add⟩⟩, ⟨(He.ma K (He.ga K "Ratio") "__sub__"), _, ⟨Z_OpF', G_sub, b_m_Ratio_sub⟩⟩, ⟨(He.ma K (He.ga K "Ratio") "__mul__"), _, ⟨Z_OpF'', G_mul, b_m_Ratio_mul⟩⟩⟩
  have G_isRatio := ok_isRatio (P := P) (w := w) (K := K) (mg := mg) (base := base) F_g_is_ratio Z_RatG
  have b_g_is_ratio := FunD.bindsN (ps := ["value"]) F_g_is_ratio fun _ _ _ _ _ _ us hl => match us, hl with | [_], _ => rfl
  have gl_is_ratio : mg "is_ratio" = some (.ref (He.ga K "is_ratio")) := He.glo_ok X G (c.a.fact 33 (f := .glo "is_ratio") rfl)
  have l'''''''''' : CRead K (He.ga K "Ratio") (.type "type") := ⟨(Bool.and_eq_true_iff.mp (fxs c 16 (f := fun K => ((PySem.W.readsIn K (He.ga K "Ratio") (.type "type")) && (He.eqO (PySem.W.specialIn K (.ref (He.ga K "Ratio")) "__getattribute__") (some (some (.builtin "type.__getattribute__")))))) rfl)).1, (He.eqO_ok (Bool.and_eq_true_iff.mp (fxs c 16 (f := fun K => ((PySem.W.readsIn K (He.ga K "Ratio") (.type "type")) && (He.eqO (PySem.W.specialIn K (.ref (He.ga K "Ratio")) "__getattribute__") (some (some (.builtin "type.__getattribute__")))))) rfl)).2)⟩
  have sm : SMet K (He.ga K "Ratio") (.type "type") "of" (He.ma K (He.ga K "Ratio") "of") (He5.wf K (He.ga K "Ratio") "staticmethod" "of") := ⟨(He5.wrapB_ok (fxs c 17 (f := fun K => He5.wrapB K (He.ga K "Ratio") "staticmethod" "staticmethod.__get__" "of") rfl)).1, (He5.wrapB_ok (fxs c 17 (f := fun K => He5.wrapB K (He.ga K "Ratio") "staticmethod" "staticmethod.__get__" "of") rfl)).2, (fxs c 18 (f := fun K => PySem.W.keepIn K (.ref (He5.wf K (He.ga K "Ratio") "staticmethod" "of"))) rfl)⟩
  have G_of1 := ok_of1 (P := P) (w := w) (K := K) (mg := mg) (base := base) F_m_Ratio_of Z_RatF
  have b_m_Ratio_of := FunD.bindsN (ps := ["value"]) F_m_Ratio_of fun _ _ _ _ _ _ us hl => match us, hl with | [_], _ => rfl
  have G_numbersIn := ok_numbersIn (P := P) (w := w) (K := K) (mg := mg) (base := base) F_g_numbers_in fr_isinstance fr_dict fr_list fr_all fr_sorted G_areNames b_g_are_names F_g_are_names.kp gl_are_names G_isRatio b_g_is_ratio F_g_is_ratio.kp gl_is_ratio gl_Ratio l'''''''''' sm G_of1 b_m_Ratio_of
  have b_g_numbers_in := FunD.bindsN (ps := ["value"]) F_g_numbers_in fun _ _ _ _ _ _ us hl => match us, hl with | [_], _ => rfl
  have gl_numbers_in : mg "numbers_in" = some (.ref (He.ga K "numbers_in")) := He.glo_ok X G (c.a.fact 34 (f := .glo "numbers_in") rfl)
  have G_balInit := ok_balInit (P := P) (w := w) (K := K) (mg := mg) (base := base) F_m_Balance_init Z_BalC l Z_RatC M_BadBalance fr_tuple fr_len G_numbersIn b_g_numbers_in F_g_numbers_in.kp gl_numbers_in
  have b_m_Balance_init := FunD.bindsN (ps := ["self", "numbers"]) F_m_Balance_init fun _ _ _ _ _ _ us hl => match us, hl with | [_, _], _ => rfl
  have Z_BalK : BalK P w K mg base (He.ga K "Balance") (He.ga K "Ratio") := ⟨Z_BalC, l, gl_Balance, ⟨(He.ma K (He.ga K "Balance") "__init__"), _, ⟨(He.mkr_ok (c.a.fact 6 (f := .mkr "Balance") rfl)), G_balInit, b_m_Balance_init⟩⟩⟩
  have l''''''''''' : PySem.W.findIn K (.ref (He.ga K "Ratio")) (dunderR Operator.Add.info.2) = some none := (He.eqO_ok (fxs c 19 (f := fun K => (He.eqO (PySem.W.findIn K (.ref (He.ga K "Ratio")) (dunderR Operator.Add.info.2)) (some none))) rfl))
  have l'''''''''''' : ∀ T ∈ "int" :: oddTypes, RightT K (He.ga K "Ratio") Operator.Add.info.2 T := (fun T hT => ⟨(Option.isSome_iff_exists.mp (Bool.and_eq_true_iff.mp (List.all_eq_true.mp (fxs c 20 (f := fun K => ("int" :: oddTypes : List _).all fun T => ((PySem.W.findIn K (.type T) (PySem.dunder Operator.Add.info.2)).isSome && ((PySem.W.findIn K (.type T) (dunderR Operator.Add.info.2)).isSome && (decide (PySem.W.subIn K (.type T) (.ref (He.ga K "Ratio")) = some false))))) rfl) T hT)).1), (Option.isSome_iff_exists.mp (Bool.and_eq_true_iff.mp (Bool.and_eq_true_iff.mp (List.all_eq_true.mp (fxs c 20 (f := fun K => ("int" :: oddTypes : List _).all fun T => ((PySem.W.findIn K (.type T) (PySem.dunder Operator.Add.info.2)).isSome && ((PySem.W.findIn K (.type T) (dunderR Operator.Add.info.2)).isSome && (decide (PySem.W.subIn K (.type T) (.ref (He.ga K "Ratio")) = some false))))) rfl) T hT)).2).1), (of_decide_eq_true (Bool.and_eq_true_iff.mp (Bool.and_eq_true_iff.mp (List.all_eq_true.mp (fxs c 20 (f := fun K => ("int" :: oddTypes : List _).all fun T => ((PySem.W.findIn K (.type T) (PySem.dunder Operator.Add.info.2)).isSome && ((PySem.W.findIn K (.type T) (dunderR Operator.Add.info.2)).isSome && (decide (PySem.W.subIn K (.type T) (.ref (He.ga K "Ratio")) = some false))))) rfl) T hT)).2).2)⟩)
  have Z_OpF''' : OpF K (He.ga K "Ratio") Operator.Add.info.2 (He.ma K (He.ga K "Ratio") "__add__") := ⟨o_m_Ratio_add, l''''''''''', l''''''''''''⟩
  have l''''''''''''' : PySem.W.findIn K (.ref (He.ga K "Ratio")) (dunderR Operator.Mult.info.2) = some none := (He.eqO_ok (fxs c 21 (f := fun K => (He.eqO (PySem.W.findIn K (.ref (He.ga K "Ratio")) (dunderR Operator.Mult.info.2)) (some none))) rfl))
  have l'''''''''''''' : ∀ T ∈ "int" :: oddTypes, RightT K (He.ga K "Ratio") Operator.Mult.info.2 T := (fun T hT => ⟨(Option.isSome_iff_exists.mp (Bool.and_eq_true_iff.mp (List.all_eq_true.mp (fxs c 22 (f := fun K => ("int" :: oddTypes : List _).all fun T => ((PySem.W.findIn K (.type T) (PySem.dunder Operator.Mult.info.2)).isSome && ((PySem.W.findIn K (.type T) (dunderR Operator.Mult.info.2)).isSome && (decide (PySem.W.subIn K (.type T) (.ref (He.ga K "Ratio")) = some false))))) rfl) T hT)).1), (Option.isSome_iff_exists.mp (Bool.and_eq_true_iff.mp (Bool.and_eq_true_iff.mp (List.all_eq_true.mp (fxs c 22 (f := fun K => ("int" :: oddTypes : List _).all fun T => ((PySem.W.findIn K (.type T) (PySem.dunder Operator.Mult.info.2)).isSome && ((PySem.W.findIn K (.type T) (dunderR Operator.Mult.info.2)).isSome && (decide (PySem.W.subIn K (.type T) (.ref (He.ga K "Ratio")) = some false))))) rfl) T hT)).2).1), (of_decide_eq_true (Bool.and_eq_true_iff.mp (Bool.and_eq_true_iff.mp (List.all_eq_true.mp (fxs c 22 (f := fun K => ("int" :: oddTypes : List _).all fun T => ((PySem.W.findIn K (.type T) (PySem.dunder Operator.Mult.info.2)).isSome && ((PySem.W.findIn K (.type T) (dunderR Operator.Mult.info.2)).isSome && (decide (PySem.W.subIn K (.type T) (.ref (He.ga K "Ratio")) = some false))))) rfl) T hT)).2).2)⟩)
  have Z_OpF'''' : OpF K (He.ga K "Ratio") Operator.Mult.info.2 (He.ma K (He.ga K "Ratio") "__mul__") := ⟨o_m_Ratio_mul, l''''''''''''', l''''''''''''''⟩
  have G_numberOf := ok_numberOf (P := P) (w := w) (K := K) (mg := mg) (base := base) F_m_Balance_number_of Z_BalC Z_RatK G_isName b_g_is_name F_g_is_name.kp gl_is_name
  have b_m_Balance_number_of := FunD.bindsN (ps := ["self", "thing"]) F_m_Balance_number_of fun _ _ _ _ _ _ us hl => match us, hl with | [_, _], _ => rfl
  have Z_OpsK : OpsK P w K mg base (He.ga K "Balance") (He.ga K "Ratio") (He.ga K "BadRatio") := ⟨Z_RatK, Z_BalK, l'', l''', ⟨(He.ma K (He.ga K "Ratio") "__add__"), _, ⟨Z_OpF''', G_add, b_m_Ratio_add⟩⟩, ⟨(He.ma K (He.ga K "Ratio") "__mul__"), _, ⟨Z_OpF'''', G_mul, b_m_Ratio_mul⟩⟩, ⟨(He.ma K (He.ga K "Balance") "number_of"), _, ⟨(He.meth_ok (c.a.fact 35 (f := .meth "Balance" "number_of") rfl)), G_numberOf, b_m_Balance_number_of⟩⟩, ⟨(He.ga K "is_ratio"), _, ⟨G_isRatio, b_g_is_ratio, F_g_is_ratio.kp, gl_is_ratio⟩⟩⟩
  have l''''''''''''''' : PySem.W.findIn K (.ref (He.ga K "Balance")) "__class__" = some (some (.builtin "object.__class__")) := (He.eqO_ok (fxs c 23 (f := fun K => (He.eqO (PySem.W.findIn K (.ref (He.ga K "Balance")) "__class__") (some (some (.builtin "object.__class__"))))) rfl))
  have l'''''''''''''''' : PySem.W.mroIn K (He.ga K "Balance") (.type "object") = some true := (of_decide_eq_true (fxs c 24 (f := fun K => (decide (PySem.W.mroIn K (He.ga K "Balance") (.type "object") = some true))) rfl))
  have ty : ∀ (H : Hp) (a : Addr) g zs, BalAt H a (He.ga K "Balance") (He.ga K "Ratio") g zs → TyX K H (.ref a) (.ref (He.ga K "Balance")) := (fun H a g zs hb => let ⟨_, _, _, _, e, _⟩ := hb; .base (.ins e (He.cls_ok (c.a.fact 0 (f := .cls "Balance") rfl)) l''''''''''''''' l'.cn l'.ct l''''''''''''''''))
  have l''''''''''''''''' : PySem.W.kitOne K (.ref (He.ga K "Balance")) (.ref (He.ga K "Balance")) = some true := (of_decide_eq_true (fxs c 25 (f := fun K => (decide (PySem.W.kitOne K (.ref (He.ga K "Balance")) (.ref (He.ga K "Balance")) = some true))) rfl))
  have fr_abs : mg "abs" = none := He.free_ok X G (c.a.fact 36 (f := .free "abs") rfl)
  have Z_Blt : Blt mg := ⟨fr_int, fr_len, fr_abs⟩
  have o_m_Balance_str : OwnM K (He.ga K "Balance") "__str__" (He.ma K (He.ga K "Balance") "__str__") := ⟨He.eqO_ok (Bool.and_eq_true_iff.mp (fxs c 26 (f := fun K => (He.eqO (PySem.W.findIn K (.ref (He.ga K "Balance")) "__str__") (some (some (.ref (He.ma K (He.ga K "Balance") "__str__")))) && PySem.W.isFn K (.ref (He.ma K (He.ga K "Balance") "__str__")))) rfl)).1, (Bool.and_eq_true_iff.mp (fxs c 26 (f := fun K => (He.eqO (PySem.W.findIn K (.ref (He.ga K "Balance")) "__str__") (some (some (.ref (He.ma K (He.ga K "Balance") "__str__")))) && PySem.W.isFn K (.ref (He.ma K (He.ga K "Balance") "__str__")))) rfl)).2⟩
  have o_m_Ratio_eq : OwnM K (He.ga K "Ratio") "__eq__" (He.ma K (He.ga K "Ratio") "__eq__") := ⟨He.eqO_ok (Bool.and_eq_true_iff.mp (fxs c 27 (f := fun K => (He.eqO (PySem.W.findIn K (.ref (He.ga K "Ratio")) "__eq__") (some (some (.ref (He.ma K (He.ga K "Ratio") "__eq__")))) && PySem.W.isFn K (.ref (He.ma K (He.ga K "Ratio") "__eq__")))) rfl)).1, (Bool.and_eq_true_iff.mp (fxs c 27 (f := fun K => (He.eqO (PySem.W.findIn K (.ref (He.ga K "Ratio")) "__eq__") (some (some (.ref (He.ma K (He.ga K "Ratio") "__eq__")))) && PySem.W.isFn K (.ref (He.ma K (He.ga K "Ratio") "__eq__")))) rfl)).2⟩
  have gl_is_same : mg "_is_same" = some (.ref (He.ga K "_is_same")) := He.glo_ok X G (c.a.fact 37 (f := .glo "_is_same") rfl)
  have G_eq := ok_eq (P := P) (w := w) (K := K) (mg := mg) (base := base) F_m_Ratio_eq Z_RatK F_g_is_same gl_is_same
  have b_m_Ratio_eq := FunD.bindsN (ps := ["self", "other"]) F_m_Ratio_eq fun _ _ _ _ _ _ us hl => match us, hl with | [_, _], _ => rfl
  have l'''''''''''''''''' : PySem.W.notFirst K (He.ga K "Ratio") (.type "int") = true := (fxs c 28 (f := fun K => (PySem.W.notFirst K (He.ga K "Ratio") (.type "int"))) rfl)
  have o_m_Ratio_str : OwnM K (He.ga K "Ratio") "__str__" (He.ma K (He.ga K "Ratio") "__str__") := ⟨He.eqO_ok (Bool.and_eq_true_iff.mp (fxs c 29 (f := fun K => (He.eqO (PySem.W.findIn K (.ref (He.ga K "Ratio")) "__str__") (some (some (.ref (He.ma K (He.ga K "Ratio") "__str__")))) && PySem.W.isFn K (.ref (He.ma K (He.ga K "Ratio") "__str__")))) rfl)).1, (Bool.and_eq_true_iff.mp (fxs c 29 (f := fun K => (He.eqO (PySem.W.findIn K (.ref (He.ga K "Ratio")) "__str__") (some (some (.ref (He.ma K (He.ga K "Ratio") "__str__")))) && PySem.W.isFn K (.ref (He.ma K (He.ga K "Ratio") "__str__")))) rfl)).2⟩
  have gl_written_ratios : mg "written_ratios" = some (.ref (He.ga K "written_ratios")) := He.glo_ok X G (c.a.fact 38 (f := .glo "written_ratios") rfl)
  have G_str := ok_str (P := P) (w := w) (K := K) (mg := mg) (base := base) F_m_Ratio_str Z_RatC F_g_written_ratios gl_written_ratios fr_str
  have b_m_Ratio_str := FunD.bindsN (ps := ["self"]) F_m_Ratio_str fun _ _ _ _ _ _ us hl => match us, hl with | [_], _ => rfl
  have l''''''''''''''''''' : PySem.W.findIn K (.ref (He.ga K "Ratio")) "__format__" = some (some (.builtin "object.__format__")) := (He.eqO_ok (fxs c 30 (f := fun K => (He.eqO (PySem.W.findIn K (.ref (He.ga K "Ratio")) "__format__") (some (some (.builtin "object.__format__"))))) rfl))
  have l'''''''''''''''''''' : PySem.W.mroIn K (He.ga K "Ratio") (.type "object") = some true := (of_decide_eq_true (fxs c 31 (f := fun K => (decide (PySem.W.mroIn K (He.ga K "Ratio") (.type "object") = some true))) rfl))
  have G_term := ok_term (P := P) (w := w) (K := K) (mg := mg) (base := base) F_g_term o_m_Ratio_eq G_eq b_m_Ratio_eq l'''''''''''''''''' o_m_Ratio_str G_str b_m_Ratio_str l''''''''''''''''''' l''''''''''''''''''''
  have b_g_term := FunD.bindsN (ps := ["thing", "number"]) F_g_term fun _ _ _ _ _ _ us hl => match us, hl with | [_, _], _ => rfl
  have gl_term : mg "_term" = some (.ref (He.ga K "_term")) := He.glo_ok X G (c.a.fact 39 (f := .glo "_term") rfl)
  have G_writtenB := ok_writtenB (P := P) (w := w) (K := K) (mg := mg) (base := base) F_g_written_balances Z_OpsK G_term b_g_term F_g_term.kp gl_term
  have b_g_written_balances := FunD.bindsN (ps := ["balance"]) F_g_written_balances fun _ _ _ _ _ _ us hl => match us, hl with | [_], _ => rfl
  have gl_written_balances : mg "written_balances" = some (.ref (He.ga K "written_balances")) := He.glo_ok X G (c.a.fact 40 (f := .glo "written_balances") rfl)
  have G_strB := ok_strB (P := P) (w := w) (K := K) (mg := mg) (base := base) F_m_Balance_str G_writtenB b_g_written_balances F_g_written_balances.kp gl_written_balances fr_str
  have b_m_Balance_str := FunD.bindsN (ps := ["self"]) F_m_Balance_str fun _ _ _ _ _ _ us hl => match us, hl with | [_], _ => rfl
  have Z_LwK : LwK P w K mg base (He.ga K "Balance") (He.ga K "Ratio") (He.ga K "BadRatio") := ⟨Z_OpsK, ty, l''''''''''''''''', Z_Blt, fr_tuple, fr_str, fr_dict, fr_list, ⟨(He.ma K (He.ga K "Balance") "__str__"), _, ⟨o_m_Balance_str, G_strB, b_m_Balance_str⟩⟩⟩
  have l''''''''''''''''''''' : CRead K (He.ga K "Balance") (.type "type") := ⟨(Bool.and_eq_true_iff.mp (fxs c 32 (f := fun K => ((PySem.W.readsIn K (He.ga K "Balance") (.type "type")) && (He.eqO (PySem.W.specialIn K (.ref (He.ga K "Balance")) "__getattribute__") (some (some (.builtin "type.__getattribute__")))))) rfl)).1, (He.eqO_ok (Bool.and_eq_true_iff.mp (fxs c 32 (f := fun K => ((PySem.W.readsIn K (He.ga K "Balance") (.type "type")) && (He.eqO (PySem.W.specialIn K (.ref (He.ga K "Balance")) "__getattribute__") (some (some (.builtin "type.__getattribute__")))))) rfl)).2)⟩
  have Z_RdC : RdC K (He.ga K "Reader") := ⟨(He.cls_ok (c.a.fact 41 (f := .cls "Reader") rfl)), (fun f hf => by
    simp only [List.mem_cons, List.not_mem_nil, or_false] at hf
    rcases hf with rfl | rfl | rfl
    · exact He.noat_ok (c.a.fact 42 (f := .noat "Reader" "words") rfl)
    · exact He.noat_ok (c.a.fact 43 (f := .noat "Reader" "at") rfl)
    · exact He.noat_ok (c.a.fact 44 (f := .noat "Reader" "end") rfl))⟩
  have M_BadText : ErrN P w K mg base "BadText" (He.ga K "BadText") ["line", "word"] := mk_BadText F_m_BadText_init (errB_ok (fxs c 35 (f := errB "BadText" ["line", "word"]) rfl)).1.ox (errB_ok (fxs c 35 (f := errB "BadText" ["line", "word"]) rfl)).1.ini (errB_ok (fxs c 35 (f := errB "BadText" ["line", "word"]) rfl)).1.fn (errB_ok (fxs c 35 (f := errB "BadText" ["line", "word"]) rfl)).1.no (He.glo_ok X G (errB_ok (fxs c 35 (f := errB "BadText" ["line", "word"]) rfl)).2)
  have gl_Reader : mg "Reader" = some (.ref (He.ga K "Reader")) := He.glo_ok X G (c.a.fact 46 (f := .glo "Reader") rfl)
  have G_rdInit := ok_rdInit (P := P) (w := w) (K := K) (mg := mg) (base := base) F_m_Reader_init Z_RdC fr_len
  have b_m_Reader_init := FunD.bindsN (ps := ["self", "words"]) F_m_Reader_init fun _ _ _ _ _ _ us hl => match us, hl with | [_, _], _ => rfl
  have G_readerOf := ok_readerOf (P := P) (w := w) (K := K) (mg := mg) (base := base) F_g_reader_of M_BadText fr_isinstance fr_str (He.mkr_ok (c.a.fact 45 (f := .mkr "Reader") rfl)) gl_Reader G_rdInit b_m_Reader_init
  have b_g_reader_of := FunD.bindsN (ps := ["text"]) F_g_reader_of fun _ _ _ _ _ _ us hl => match us, hl with | [_], _ => rfl
  have gl_reader_of : mg "reader_of" = some (.ref (He.ga K "reader_of")) := He.glo_ok X G (c.a.fact 47 (f := .glo "reader_of") rfl)
  have G_peek := ok_peek (P := P) (w := w) (K := K) (mg := mg) (base := base) F_m_Reader_peek Z_RdC
  have b_m_Reader_peek := FunD.bindsN (ps := ["self"]) F_m_Reader_peek fun _ _ _ _ _ _ us hl => match us, hl with | [_], _ => rfl
  have G_step := ok_step (P := P) (w := w) (K := K) (mg := mg) (base := base) F_m_Reader_step Z_RdC
  have b_m_Reader_step := FunD.bindsN (ps := ["self"]) F_m_Reader_step fun _ _ _ _ _ _ us hl => match us, hl with | [_], _ => rfl
  have G_refuse := ok_refuse (P := P) (w := w) (K := K) (mg := mg) (base := base) F_m_Reader_refuse Z_RdC M_BadText
  have b_m_Reader_refuse := FunD.bindsN (ps := ["self"]) F_m_Reader_refuse fun _ _ _ _ _ _ us hl => match us, hl with | [_], _ => rfl
  have G_finish := ok_finish (P := P) (w := w) (K := K) (mg := mg) (base := base) F_m_Reader_finish Z_RdC (He.meth_ok (c.a.fact 50 (f := .meth "Reader" "refuse") rfl)) G_refuse b_m_Reader_refuse
  have b_m_Reader_finish := FunD.bindsN (ps := ["self"]) F_m_Reader_finish fun _ _ _ _ _ _ us hl => match us, hl with | [_], _ => rfl
  have Z_RdK : RdK P w K mg base (He.ga K "Reader") (He.ga K "BadText") := ⟨Z_RdC, ⟨(He.ga K "reader_of"), _, ⟨G_readerOf, b_g_reader_of, F_g_reader_of.kp, gl_reader_of⟩⟩, ⟨(He.ma K (He.ga K "Reader") "peek"), _, ⟨(He.meth_ok (c.a.fact 48 (f := .meth "Reader" "peek") rfl)), G_peek, b_m_Reader_peek⟩⟩, ⟨(He.ma K (He.ga K "Reader") "step"), _, ⟨(He.meth_ok (c.a.fact 49 (f := .meth "Reader" "step") rfl)), G_step, b_m_Reader_step⟩⟩, ⟨(He.ma K (He.ga K "Reader") "refuse"), _, ⟨(He.meth_ok (c.a.fact 50 (f := .meth "Reader" "refuse") rfl)), G_refuse, b_m_Reader_refuse⟩⟩, ⟨(He.ma K (He.ga K "Reader") "finish"), _, ⟨(He.meth_ok (c.a.fact 51 (f := .meth "Reader" "finish") rfl)), G_finish, b_m_Reader_finish⟩⟩⟩
  have G_alone := ok_alone (P := P) (w := w) (K := K) (mg := mg) (base := base) F_m_Reader_is_alone Z_RdK
  have b_m_Reader_is_alone := FunD.bindsN (ps := ["self", "word"]) F_m_Reader_is_alone fun _ _ _ _ _ _ us hl => match us, hl with | [_, _], _ => rfl
  have Z_Blt1 : Blt1 mg := ⟨fr_int, fr_len⟩
  have fr_any : mg "any" = none := He.free_ok X G (c.a.fact 53 (f := .free "any") rfl)
  have gl_whole_in : mg "whole_in" = some (.ref (He.ga K "whole_in")) := He.glo_ok X G (c.a.fact 54 (f := .glo "whole_in") rfl)
  have G_ratioIn := ok_ratioIn (P := P) (w := w) (K := K) (mg := mg) (base := base) F_g_ratio_in Z_RatK Z_Blt1 fr_any fr_str F_g_whole_in gl_whole_in (He.int_ok X G (c.a.fact 55 (f := .int "_MOST_DIGITS" 60) rfl)) o_m_Ratio_str G_str b_m_Ratio_str
  have b_g_ratio_in := FunD.bindsN (ps := ["word"]) F_g_ratio_in fun _ _ _ _ _ _ us hl => match us, hl with | [_], _ => rfl
  have gl_ratio_in : mg "ratio_in" = some (.ref (He.ga K "ratio_in")) := He.glo_ok X G (c.a.fact 56 (f := .glo "ratio_in") rfl)
  have G_readTerm := ok_readTerm (P := P) (w := w) (K := K) (mg := mg) (base := base) F_g_read_term Z_RdK G_ratioIn b_g_ratio_in F_g_ratio_in.kp gl_ratio_in G_isName b_g_is_name F_g_is_name.kp gl_is_name o_m_Ratio_eq G_eq b_m_Ratio_eq l''''''''''''''''''
  have b_g_read_term := FunD.bindsN (ps := ["reader", "numbers", "last"]) F_g_read_term fun _ _ _ _ _ _ us hl => match us, hl with | [_, _, _], _ => rfl
  have gl_read_term : mg "_read_term" = some (.ref (He.ga K "_read_term")) := He.glo_ok X G (c.a.fact 57 (f := .glo "_read_term") rfl)
  have G_above := ok_above (P := P) (w := w) (K := K) (mg := mg) (base := base) F_g_name_above fr_len (He.int_ok X G (c.a.fact 21 (f := .int "_LONGEST" 12) rfl)) (He.str_ok X G (c.a.fact 23 (f := .str "_SIGNS" sigS) rfl))
  have b_g_name_above := FunD.bindsN (ps := ["name"]) F_g_name_above fun _ _ _ _ _ _ us hl => match us, hl with | [_], _ => rfl
  have gl_name_above : mg "name_above" = some (.ref (He.ga K "name_above")) := He.glo_ok X G (c.a.fact 58 (f := .glo "name_above") rfl)
  have G_free := ok_free (P := P) (w := w) (K := K) (mg := mg) (base := base) F_g_free_name G_above b_g_name_above F_g_name_above.kp gl_name_above
  have b_g_free_name := FunD.bindsN (ps := ["name", "taken"]) F_g_free_name fun _ _ _ _ _ _ us hl => match us, hl with | [_, _], _ => rfl
  have gl_free_name : mg "free_name" = some (.ref (He.ga K "free_name")) := He.glo_ok X G (c.a.fact 59 (f := .glo "free_name") rfl)
  have G_readB := ok_readB (P := P) (w := w) (K := K) (mg := mg) (base := base) F_m_Balance_read Z_BalK Z_RdK (He.meth_ok (c.a.fact 52 (f := .meth "Reader" "is_alone") rfl)) G_alone b_m_Reader_is_alone G_readTerm b_g_read_term F_g_read_term.kp gl_read_term G_free b_g_free_name F_g_free_name.kp gl_free_name
  have b_m_Balance_read := FunD.bindsN (ps := ["cls", "text"]) F_m_Balance_read fun _ _ _ _ _ _ us hl => match us, hl with | [_, _], _ => rfl
  have G_numberOfO := ok_numberOfO (P := P) (w := w) (K := K) (mg := mg) (base := base) F_m_Balance_number_of Z_BalC Z_RatK G_isName b_g_is_name F_g_is_name.kp gl_is_name
  have l'''''''''''''''''''''' : PySem.W.findIn K (.ref (He.ga K "Ratio")) "__ne__" = some (some (.builtin "object.__ne__")) := (He.eqO_ok (fxs c 36 (f := fun K => (He.eqO (PySem.W.findIn K (.ref (He.ga K "Ratio")) "__ne__") (some (some (.builtin "object.__ne__"))))) rfl))
  have l''''''''''''''''''''''' : PySem.W.subIn K (.ref (He.ga K "Ratio")) (.type "object") = some true := (of_decide_eq_true (fxs c 37 (f := fun K => (decide (PySem.W.subIn K (.ref (He.ga K "Ratio")) (.type "object") = some true))) rfl))
  have G_gains := ok_gains (P := P) (w := w) (K := K) (mg := mg) (base := base) F_m_Balance_gains Z_BalK Z_RatC
  have b_m_Balance_gains := FunD.bindsN (ps := ["self"]) F_m_Balance_gains fun _ _ _ _ _ _ us hl => match us, hl with | [_], _ => rfl
  have o_m_Ratio_neg : OwnM K (He.ga K "Ratio") "__neg__" (He.ma K (He.ga K "Ratio") "__neg__") := ⟨He.eqO_ok (Bool.and_eq_true_iff.mp (fxs c 38 (f := fun K => (He.eqO (PySem.W.findIn K (.ref (He.ga K "Ratio")) "__neg__") (some (some (.ref (He.ma K (He.ga K "Ratio") "__neg__")))) && PySem.W.isFn K (.ref (He.ma K (He.ga K "Ratio") "__neg__")))) rfl)).1, (Bool.and_eq_true_iff.mp (fxs c 38 (f := fun K => (He.eqO (PySem.W.findIn K (.ref (He.ga K "Ratio")) "__neg__") (some (some (.ref (He.ma K (He.ga K "Ratio") "__neg__")))) && PySem.W.isFn K (.ref (He.ma K (He.ga K "Ratio") "__neg__")))) rfl)).2⟩
  have G_neg := ok_neg (P := P) (w := w) (K := K) (mg := mg) (base := base) F_m_Ratio_neg Z_RatF
  have b_m_Ratio_neg := FunD.bindsN (ps := ["self"]) F_m_Ratio_neg fun _ _ _ _ _ _ us hl => match us, hl with | [_], _ => rfl
  have G_losses := ok_losses (P := P) (w := w) (K := K) (mg := mg) (base := base) F_m_Balance_losses Z_BalK Z_RatC o_m_Ratio_neg G_neg b_m_Ratio_neg
  have b_m_Balance_losses := FunD.bindsN (ps := ["self"]) F_m_Balance_losses fun _ _ _ _ _ _ us hl => match us, hl with | [_], _ => rfl
  have G_till := ok_till (P := P) (w := w) (K := K) (mg := mg) (base := base) F_g_law_reel Z_Blt
  have b_g_law_reel := FunD.bindsN (ps := ["_law_script"]) F_g_law_reel fun _ _ _ _ _ _ us hl => match us, hl with | [_], _ => rfl
  have gl_law_reel : mg "_law_reel" = some (.ref (He.ga K "_law_reel")) := He.glo_ok X G (c.a.fact 62 (f := .glo "_law_reel") rfl)
  have G_coin := ok_coin (P := P) (w := w) (K := K) (mg := mg) (base := base) F_g_law_turn Z_Blt
  have b_g_law_turn := FunD.bindsN (ps := ["_law_reel_here", "_law_many"]) F_g_law_turn fun _ _ _ _ _ _ us hl => match us, hl with | [_, _], _ => rfl
  have gl_law_turn : mg "_law_turn" = some (.ref (He.ga K "_law_turn")) := He.glo_ok X G (c.a.fact 63 (f := .glo "_law_turn") rfl)
  have G_of := ok_of (P := P) (w := w) (K := K) (mg := mg) (base := base) F_g_law_pick Z_Blt gl_law_turn F_g_law_turn
  have b_g_law_pick := FunD.bindsN (ps := ["_law_reel_here", "_law_some"]) F_g_law_pick fun _ _ _ _ _ _ us hl => match us, hl with | [_, _], _ => rfl
  have gl_law_pick : mg "_law_pick" = some (.ref (He.ga K "_law_pick")) := He.glo_ok X G (c.a.fact 64 (f := .glo "_law_pick") rfl)
  have G_things := ok_things (P := P) (w := w) (K := K) (mg := mg) (base := base) F_g_law_things G_coin b_g_law_turn F_g_law_turn.kp gl_law_turn G_of b_g_law_pick F_g_law_pick.kp gl_law_pick
  have b_g_law_things := FunD.bindsN (ps := ["_law_reel_here", "_law_many"]) F_g_law_things fun _ _ _ _ _ _ us hl => match us, hl with | [_, _], _ => rfl
  have gl_law_things : mg "_law_things" = some (.ref (He.ga K "_law_things")) := He.glo_ok X G (c.a.fact 65 (f := .glo "_law_things") rfl)
  have G_shared := ok_shared (P := P) (w := w) (K := K) (mg := mg) (base := base) F_g_law_shared Z_Blt
  have b_g_law_shared := FunD.bindsN (ps := ["_law_one", "_law_other"]) F_g_law_shared fun _ _ _ _ _ _ us hl => match us, hl with | [_, _], _ => rfl
  have gl_law_shared : mg "_law_shared" = some (.ref (He.ga K "_law_shared")) := He.glo_ok X G (c.a.fact 66 (f := .glo "_law_shared") rfl)
  have G_low := ok_low (P := P) (w := w) (K := K) (mg := mg) (base := base) F_g_law_low G_shared b_g_law_shared F_g_law_shared.kp gl_law_shared
  have b_g_law_low := FunD.bindsN (ps := ["_law_top", "_law_bottom"]) F_g_law_low fun _ _ _ _ _ _ us hl => match us, hl with | [_, _], _ => rfl
  have gl_law_low : mg "_law_low" = some (.ref (He.ga K "_law_low")) := He.glo_ok X G (c.a.fact 67 (f := .glo "_law_low") rfl)
  have G_number := ok_number (P := P) (w := w) (K := K) (mg := mg) (base := base) F_g_law_number Z_Blt G_coin b_g_law_turn F_g_law_turn.kp gl_law_turn G_low b_g_law_low F_g_law_low.kp gl_law_low
  have b_g_law_number := FunD.bindsN (ps := ["_law_reel_here"]) F_g_law_number fun _ _ _ _ _ _ us hl => match us, hl with | [_], _ => rfl
  have gl_law_number : mg "_law_number" = some (.ref (He.ga K "_law_number")) := He.glo_ok X G (c.a.fact 68 (f := .glo "_law_number") rfl)
  have G_ratio := ok_ratio (P := P) (w := w) (K := K) (mg := mg) (base := base) F_g_law_ratio Z_RatK G_coin b_g_law_turn F_g_law_turn.kp gl_law_turn G_of b_g_law_pick F_g_law_pick.kp gl_law_pick
  have b_g_law_ratio := FunD.bindsN (ps := ["_law_reel_here", "_law_pair"]) F_g_law_ratio fun _ _ _ _ _ _ us hl => match us, hl with | [_, _], _ => rfl
  have gl_law_ratio : mg "_law_ratio" = some (.ref (He.ga K "_law_ratio")) := He.glo_ok X G (c.a.fact 69 (f := .glo "_law_ratio") rfl)
  have G_named := ok_named (P := P) (w := w) (K := K) (mg := mg) (base := base) F_g_law_named fr_sorted fr_str
  have b_g_law_named := FunD.bindsN (ps := ["_law_plain"]) F_g_law_named fun _ _ _ _ _ _ us hl => match us, hl with | [_], _ => rfl
  have gl_law_named : mg "_law_named" = some (.ref (He.ga K "_law_named")) := He.glo_ok X G (c.a.fact 70 (f := .glo "_law_named") rfl)
  have G_text := ok_text (P := P) (w := w) (K := K) (mg := mg) (base := base) F_g_law_text fr_str
  have b_g_law_text := FunD.bindsN (ps := ["_law_pair"]) F_g_law_text fun _ _ _ _ _ _ us hl => match us, hl with | [_], _ => rfl
  have gl_law_text : mg "_law_text" = some (.ref (He.ga K "_law_text")) := He.glo_ok X G (c.a.fact 71 (f := .glo "_law_text") rfl)
  have G_told := ok_told (P := P) (w := w) (K := K) (mg := mg) (base := base) F_g_law_told G_named b_g_law_named F_g_law_named.kp gl_law_named G_text b_g_law_text F_g_law_text.kp gl_law_text
  have b_g_law_told := FunD.bindsN (ps := ["_law_plain"]) F_g_law_told fun _ _ _ _ _ _ us hl => match us, hl with | [_], _ => rfl
  have gl_law_told : mg "_law_told" = some (.ref (He.ga K "_law_told")) := He.glo_ok X G (c.a.fact 72 (f := .glo "_law_told") rfl)
  have G_isAs := ok_isAs (P := P) (w := w) (K := K) (mg := mg) (base := base) F_g_law_is_as Z_LwK G_named b_g_law_named F_g_law_named.kp gl_law_named G_told b_g_law_told F_g_law_told.kp gl_law_told
  have b_g_law_is_as := FunD.bindsN (ps := ["_law_balance", "_law_plain"]) F_g_law_is_as fun _ _ _ _ _ _ us hl => match us, hl with | [_, _], _ => rfl
  have gl_law_is_as : mg "_law_is_as" = some (.ref (He.ga K "_law_is_as")) := He.glo_ok X G (c.a.fact 73 (f := .glo "_law_is_as") rfl)
  have sm' : SMet K (He.ga K "Balance") (.type "type") "of" (He.ma K (He.ga K "Balance") "of") (He5.wf K (He.ga K "Balance") "staticmethod" "of") := ⟨(He5.wrapB_ok (fxs c 39 (f := fun K => He5.wrapB K (He.ga K "Balance") "staticmethod" "staticmethod.__get__" "of") rfl)).1, (He5.wrapB_ok (fxs c 39 (f := fun K => He5.wrapB K (He.ga K "Balance") "staticmethod" "staticmethod.__get__" "of") rfl)).2, (fxs c 40 (f := fun K => PySem.W.keepIn K (.ref (He5.wf K (He.ga K "Balance") "staticmethod" "of"))) rfl)⟩
  have G_counts := ok_counts (P := P) (w := w) (K := K) (mg := mg) (base := base) F_g_counts
  have b_g_counts := FunD.bindsN (ps := ["things"]) F_g_counts fun _ _ _ _ _ _ us hl => match us, hl with | [_], _ => rfl
  have gl_counts : mg "_counts" = some (.ref (He.ga K "_counts")) := He.glo_ok X G (c.a.fact 74 (f := .glo "_counts") rfl)
  have G_ofB := ok_ofB (P := P) (w := w) (K := K) (mg := mg) (base := base) F_m_Balance_of Z_BalK M_BadBalance G_areNames b_g_are_names F_g_are_names.kp gl_are_names G_counts b_g_counts F_g_counts.kp gl_counts
  have Z_OrK : OrK P w K mg base (He.ga K "Balance") (He.ga K "Ratio") (He.ga K "BadRatio") (He.ga K "BadBalance") (.type "type") (He.ma K (He.ga K "Balance") "of") (He5.wf K (He.ga K "Balance") "staticmethod" "of") := ⟨Z_BalK, Z_LwK, l''''''''''''''''''''', sm', G_ofB, ⟨(He.ga K "_law_pick"), _, ⟨G_of, b_g_law_pick, F_g_law_pick.kp, gl_law_pick⟩⟩, ⟨(He.ga K "_law_is_as"), _, ⟨G_isAs, b_g_law_is_as, F_g_law_is_as.kp, gl_law_is_as⟩⟩⟩
  have G_ofRight := ok_ofRight (P := P) (w := w) (K := K) (mg := mg) (base := base) F_g_law_of_right Z_OrK
  have b_g_law_of_right := FunD.bindsN (ps := ["_law_reel_here"]) F_g_law_of_right fun _ _ _ _ _ _ us hl => match us, hl with | [_], _ => rfl
  have gl_law_of_right : mg "_law_of_right" = some (.ref (He.ga K "_law_of_right")) := He.glo_ok X G (c.a.fact 75 (f := .glo "_law_of_right") rfl)
  have Z_ScaC : ScaC K (He.ga K "Scale") := ⟨(He.cls_ok (c.a.fact 76 (f := .cls "Scale") rfl)), (fun f hf => by
    simp only [List.mem_cons, List.not_mem_nil, or_false] at hf
    rcases hf with rfl | rfl
    · exact He.noat_ok (c.a.fact 77 (f := .noat "Scale" "_worths") rfl)
    · exact He.noat_ok (c.a.fact 78 (f := .noat "Scale" "things") rfl))⟩
  have l'''''''''''''''''''''''' : (He.ga K "Scale") ≠ (He.ga K "Ratio") := (of_decide_eq_true (fxs c 41 (f := fun K => (decide ((He.ga K "Scale") ≠ (He.ga K "Ratio")))) rfl))
  have gl_Scale : mg "Scale" = some (.ref (He.ga K "Scale")) := He.glo_ok X G (c.a.fact 79 (f := .glo "Scale") rfl)
  have M_BadScale : ErrN P w K mg base "BadScale" (He.ga K "BadScale") ["part"] := mk_BadScale F_m_BadScale_init (errB_ok (fxs c 42 (f := errB "BadScale" ["part"]) rfl)).1.ox (errB_ok (fxs c 42 (f := errB "BadScale" ["part"]) rfl)).1.ini (errB_ok (fxs c 42 (f := errB "BadScale" ["part"]) rfl)).1.fn (errB_ok (fxs c 42 (f := errB "BadScale" ["part"]) rfl)).1.no (He.glo_ok X G (errB_ok (fxs c 42 (f := errB "BadScale" ["part"]) rfl)).2)
  have G_scaInit := ok_scaInit (P := P) (w := w) (K := K) (mg := mg) (base := base) F_m_Scale_init Z_ScaC l'''''''''''''''''''''''' M_BadScale fr_tuple G_numbersIn b_g_numbers_in F_g_numbers_in.kp gl_numbers_in
  have b_m_Scale_init := FunD.bindsN (ps := ["self", "numbers"]) F_m_Scale_init fun _ _ _ _ _ _ us hl => match us, hl with | [_, _], _ => rfl
  have Z_ScaK : ScaK P w K mg base (He.ga K "Scale") (He.ga K "Ratio") := ⟨Z_ScaC, l'''''''''''''''''''''''', gl_Scale, ⟨(He.ma K (He.ga K "Scale") "__init__"), _, ⟨(He.mkr_ok (c.a.fact 80 (f := .mkr "Scale") rfl)), G_scaInit, b_m_Scale_init⟩⟩⟩
  have l''''''''''''''''''''''''' : ∀ T ∈ "int" :: oddTypes, PySem.W.notFirst K (He.ga K "Balance") (.type T) = true := (fun T hT => (List.all_eq_true.mp (fxs c 43 (f := fun K => ("int" :: oddTypes : List _).all fun T => (PySem.W.notFirst K (He.ga K "Balance") (.type T))) rfl) T hT))
  have l'''''''''''''''''''''''''' : PySem.W.notFirst K (He.ga K "Balance") (.ref (He.ga K "Balance")) = true := (fxs c 44 (f := fun K => (PySem.W.notFirst K (He.ga K "Balance") (.ref (He.ga K "Balance")))) rfl)
  have l''''''''''''''''''''''''''' : PySem.W.notFirst K (He.ga K "Balance") (.ref (He.ga K "Ratio")) = true := (fxs c 45 (f := fun K => (PySem.W.notFirst K (He.ga K "Balance") (.ref (He.ga K "Ratio")))) rfl)
  have l'''''''''''''''''''''''''''' : PySem.W.notFirst K (He.ga K "Balance") (.ref (He.ga K "Scale")) = true := (fxs c 46 (f := fun K => (PySem.W.notFirst K (He.ga K "Balance") (.ref (He.ga K "Scale")))) rfl)
  have Z_NfK : NfK K (He.ga K "Balance") (He.ga K "Ratio") (He.ga K "Scale") := ⟨l''''''''''''''''''''''''', l'''''''''''''''''''''''''', l''''''''''''''''''''''''''', l''''''''''''''''''''''''''''⟩
  have l''''''''''''''''''''''''''''' : ∀ T ∈ "int" :: oddTypes, PySem.W.kitOne K (.type T) (.ref (He.ga K "Balance")) = some false := (fun T hT => (of_decide_eq_true (List.all_eq_true.mp (fxs c 47 (f := fun K => ("int" :: oddTypes : List _).all fun T => (decide (PySem.W.kitOne K (.type T) (.ref (He.ga K "Balance")) = some false))) rfl) T hT)))
  have l'''''''''''''''''''''''''''''' : PySem.W.kitOne K (.ref (He.ga K "Scale")) (.ref (He.ga K "Balance")) = some false := (of_decide_eq_true (fxs c 48 (f := fun K => (decide (PySem.W.kitOne K (.ref (He.ga K "Scale")) (.ref (He.ga K "Balance")) = some false))) rfl))
  have l''''''''''''''''''''''''''''''' : PySem.W.findIn K (.ref (He.ga K "Scale")) "__class__" = some (some (.builtin "object.__class__")) := (He.eqO_ok (fxs c 49 (f := fun K => (He.eqO (PySem.W.findIn K (.ref (He.ga K "Scale")) "__class__") (some (some (.builtin "object.__class__"))))) rfl))
  have l'''''''''''''''''''''''''''''''' : PySem.W.mroIn K (He.ga K "Scale") (.type "object") = some true := (of_decide_eq_true (fxs c 50 (f := fun K => (decide (PySem.W.mroIn K (He.ga K "Scale") (.type "object") = some true))) rfl))
  have ty' : ∀ (H : Hp) (a : Addr), InsAt H a (He.ga K "Scale") → TyX K H (.ref a) (.ref (He.ga K "Scale")) := (fun H a hb => let ⟨_, _, e⟩ := hb; .base (.ins e (He.cls_ok (c.a.fact 76 (f := .cls "Scale") rfl)) l''''''''''''''''''''''''''''''' l'.cn l'.ct l''''''''''''''''''''''''''''''''))
  have o_m_Balance_eq : OwnM K (He.ga K "Balance") "__eq__" (He.ma K (He.ga K "Balance") "__eq__") := ⟨He.eqO_ok (Bool.and_eq_true_iff.mp (fxs c 51 (f := fun K => (He.eqO (PySem.W.findIn K (.ref (He.ga K "Balance")) "__eq__") (some (some (.ref (He.ma K (He.ga K "Balance") "__eq__")))) && PySem.W.isFn K (.ref (He.ma K (He.ga K "Balance") "__eq__")))) rfl)).1, (Bool.and_eq_true_iff.mp (fxs c 51 (f := fun K => (He.eqO (PySem.W.findIn K (.ref (He.ga K "Balance")) "__eq__") (some (some (.ref (He.ma K (He.ga K "Balance") "__eq__")))) && PySem.W.isFn K (.ref (He.ma K (He.ga K "Balance") "__eq__")))) rfl)).2⟩
  have G_eqB := ok_eqB (P := P) (w := w) (K := K) (mg := mg) (base := base) F_m_Balance_eq Z_BalC gl_Balance fr_isinstance ty l'''''''''''''''''
  have G_eqO := ok_eqO (P := P) (w := w) (K := K) (mg := mg) (base := base) F_m_Balance_eq Z_BalC gl_Balance fr_isinstance
  have b_m_Balance_eq := FunD.bindsN (ps := ["self", "other"]) F_m_Balance_eq fun _ _ _ _ _ _ us hl => match us, hl with | [_, _], _ => rfl
  have Z_ErK : ErK P w K mg base (He.ga K "Scale") (He.ga K "Balance") (He.ga K "Ratio") (He.ga K "BadRatio") := ⟨Z_BalK, Z_LwK, Z_RatK, Z_ScaK, Z_NfK, l''''''''''''''''''''''''''''', l'''''''''''''''''''''''''''''', ty', ⟨(He.ma K (He.ga K "Balance") "__eq__"), _, ⟨o_m_Balance_eq, G_eqB, G_eqO, b_m_Balance_eq⟩⟩, ⟨(He.ga K "_law_named"), _, ⟨G_named, b_g_law_named, F_g_law_named.kp, gl_law_named⟩⟩, ⟨(He.ga K "_law_ratio"), _, ⟨G_ratio, b_g_law_ratio, F_g_law_ratio.kp, gl_law_ratio⟩⟩⟩
  have G_equalRight := ok_equalRight (P := P) (w := w) (K := K) (mg := mg) (base := base) F_g_law_equal_right Z_ErK
  have b_g_law_equal_right := FunD.bindsN (ps := ["_law_reel_here", "_law_balance", "_law_plain", "_law_turned"]) F_g_law_equal_right fun _ _ _ _ _ _ us hl => match us, hl with | [_, _, _, _], _ => rfl
  have gl_law_equal_right : mg "_law_equal_right" = some (.ref (He.ga K "_law_equal_right")) := He.glo_ok X G (c.a.fact 81 (f := .glo "_law_equal_right") rfl)
  have gl_law_heard : mg "_law_heard" = some (.ref (He.ga K "_law_heard")) := He.glo_ok X G (c.a.fact 82 (f := .glo "_law_heard") rfl)
  have gl_ScaleError : mg "ScaleError" = some (.ref (He.ga K "ScaleError")) := He.glo_ok X G (c.a.fact 83 (f := .glo "ScaleError") rfl)
  have gl_BadBalance : mg "BadBalance" = some (.ref (He.ga K "BadBalance")) := He.glo_ok X G (c.a.fact 84 (f := .glo "BadBalance") rfl)
  have gl_BadNumber : mg "BadNumber" = some (.ref (He.ga K "BadNumber")) := He.glo_ok X G (c.a.fact 85 (f := .glo "BadNumber") rfl)
  have l''''''''''''''''''''''''''''''''' : PySem.W.exmOne K (.ref (He.ga K "BadBalance")) (.ref (He.ga K "ScaleError")) = some true := (of_decide_eq_true (fxs c 52 (f := fun K => (decide (PySem.W.exmOne K (.ref (He.ga K "BadBalance")) (.ref (He.ga K "ScaleError")) = some true))) rfl))
  have l'''''''''''''''''''''''''''''''''' : PySem.W.findIn K (.ref (He.ga K "BadBalance")) "part" = some none := (He.eqO_ok (fxs c 53 (f := fun K => (He.eqO (PySem.W.findIn K (.ref (He.ga K "BadBalance")) "part") (some none))) rfl))
  have l''''''''''''''''''''''''''''''''''' : PySem.W.kitOne K (.ref (He.ga K "BadBalance")) (.ref (He.ga K "BadBalance")) = some (decide (0 = 0)) := (of_decide_eq_true (fxs c 54 (f := fun K => (decide (PySem.W.kitOne K (.ref (He.ga K "BadBalance")) (.ref (He.ga K "BadBalance")) = some (decide (0 = 0))))) rfl))
  have l'''''''''''''''''''''''''''''''''''' : PySem.W.kitOne K (.ref (He.ga K "BadBalance")) (.ref (He.ga K "BadNumber")) = some (decide (0 = 1)) := (of_decide_eq_true (fxs c 55 (f := fun K => (decide (PySem.W.kitOne K (.ref (He.ga K "BadBalance")) (.ref (He.ga K "BadNumber")) = some (decide (0 = 1))))) rfl))
  have Z_ErCls : ErCls K (He.ga K "ScaleError") (He.ga K "BadBalance") (He.ga K "BadNumber") (He.ga K "BadBalance") 0 "balance" := ⟨l''''''''''''''''''''''''''''''''', (errB_ok (fxs c 1 (f := errB "BadBalance" ["part"]) rfl)).1.xf, (errB_ok (fxs c 1 (f := errB "BadBalance" ["part"]) rfl)).1.is, l'''''''''''''''''''''''''''''''''', l''''''''''''''''''''''''''''''''''', l'''''''''''''''''''''''''''''''''''', rfl⟩
  have l''''''''''''''''''''''''''''''''''''' : PySem.W.exmOne K (.ref (He.ga K "BadNumber")) (.ref (He.ga K "ScaleError")) = some true := (of_decide_eq_true (fxs c 56 (f := fun K => (decide (PySem.W.exmOne K (.ref (He.ga K "BadNumber")) (.ref (He.ga K "ScaleError")) = some true))) rfl))
  have l'''''''''''''''''''''''''''''''''''''' : PySem.W.findIn K (.ref (He.ga K "BadNumber")) "part" = some none := (He.eqO_ok (fxs c 58 (f := fun K => (He.eqO (PySem.W.findIn K (.ref (He.ga K "BadNumber")) "part") (some none))) rfl))
  have l''''''''''''''''''''''''''''''''''''''' : PySem.W.kitOne K (.ref (He.ga K "BadNumber")) (.ref (He.ga K "BadBalance")) = some (decide (1 = 0)) := (of_decide_eq_true (fxs c 59 (f := fun K => (decide (PySem.W.kitOne K (.ref (He.ga K "BadNumber")) (.ref (He.ga K "BadBalance")) = some (decide (1 = 0))))) rfl))
  have l'''''''''''''''''''''''''''''''''''''''' : PySem.W.kitOne K (.ref (He.ga K "BadNumber")) (.ref (He.ga K "BadNumber")) = some (decide (1 = 1)) := (of_decide_eq_true (fxs c 60 (f := fun K => (decide (PySem.W.kitOne K (.ref (He.ga K "BadNumber")) (.ref (He.ga K "BadNumber")) = some (decide (1 = 1))))) rfl))
  have Z_ErCls' : ErCls K (He.ga K "ScaleError") (He.ga K "BadBalance") (He.ga K "BadNumber") (He.ga K "BadNumber") 1 "number" := ⟨l''''''''''''''''''''''''''''''''''''', (errB_ok (fxs c 57 (f := errB "BadNumber" ["part"]) rfl)).1.xf, (errB_ok (fxs c 57 (f := errB "BadNumber" ["part"]) rfl)).1.is, l'''''''''''''''''''''''''''''''''''''', l''''''''''''''''''''''''''''''''''''''', l'''''''''''''''''''''''''''''''''''''''', rfl⟩
  have Z_HearK : HearK K mg (He.ga K "ScaleError") (He.ga K "BadBalance") (He.ga K "BadNumber") (He.ga K "_law_heard") fd_g_law_heard := ⟨F_g_law_heard, gl_law_heard, gl_ScaleError, gl_BadBalance, gl_BadNumber, fr_isinstance, Z_ErCls, Z_ErCls'⟩
  have G_numbersInO := ok_numbersInO (P := P) (w := w) (K := K) (mg := mg) (base := base) F_g_numbers_in fr_isinstance fr_dict fr_list fr_all fr_sorted G_areNames b_g_are_names F_g_are_names.kp gl_are_names G_isRatio b_g_is_ratio F_g_is_ratio.kp gl_is_ratio gl_Ratio l'''''''''' sm G_of1 b_m_Ratio_of
  have G_balInitO := ok_balInitO (P := P) (w := w) (K := K) (mg := mg) (base := base) F_m_Balance_init Z_BalC l Z_RatC M_BadBalance fr_tuple fr_len G_numbersInO b_g_numbers_in F_g_numbers_in.kp gl_numbers_in
  have Z_BalO : BalO P w K mg base (He.ga K "Balance") (He.ga K "Ratio") (He.ga K "BadBalance") := ⟨gl_Balance, ⟨(He.ma K (He.ga K "Balance") "__init__"), _, ⟨(He.mkr_ok (c.a.fact 6 (f := .mkr "Balance") rfl)), G_balInitO, b_m_Balance_init⟩⟩⟩
  have o_m_Balance_mul : OwnM K (He.ga K "Balance") "__mul__" (He.ma K (He.ga K "Balance") "__mul__") := ⟨He.eqO_ok (Bool.and_eq_true_iff.mp (fxs c 61 (f := fun K => (He.eqO (PySem.W.findIn K (.ref (He.ga K "Balance")) "__mul__") (some (some (.ref (He.ma K (He.ga K "Balance") "__mul__")))) && PySem.W.isFn K (.ref (He.ma K (He.ga K "Balance") "__mul__")))) rfl)).1, (Bool.and_eq_true_iff.mp (fxs c 61 (f := fun K => (He.eqO (PySem.W.findIn K (.ref (He.ga K "Balance")) "__mul__") (some (some (.ref (He.ma K (He.ga K "Balance") "__mul__")))) && PySem.W.isFn K (.ref (He.ma K (He.ga K "Balance") "__mul__")))) rfl)).2⟩
  have M_BadNumber : ErrN P w K mg base "BadNumber" (He.ga K "BadNumber") ["part"] := mk_BadNumber F_m_BadNumber_init (errB_ok (fxs c 57 (f := errB "BadNumber" ["part"]) rfl)).1.ox (errB_ok (fxs c 57 (f := errB "BadNumber" ["part"]) rfl)).1.ini (errB_ok (fxs c 57 (f := errB "BadNumber" ["part"]) rfl)).1.fn (errB_ok (fxs c 57 (f := errB "BadNumber" ["part"]) rfl)).1.no (He.glo_ok X G (errB_ok (fxs c 57 (f := errB "BadNumber" ["part"]) rfl)).2)
  have G_times := ok_times (P := P) (w := w) (K := K) (mg := mg) (base := base) F_g_times Z_OpsK M_BadNumber
  have b_g_times := FunD.bindsN (ps := ["balance", "ratio"]) F_g_times fun _ _ _ _ _ _ us hl => match us, hl with | [_, _], _ => rfl
  have gl_times : mg "_times" = some (.ref (He.ga K "_times")) := He.glo_ok X G (c.a.fact 86 (f := .glo "_times") rfl)
  have G_mulB := ok_mulB (P := P) (w := w) (K := K) (mg := mg) (base := base) F_m_Balance_mul G_times b_g_times F_g_times.kp gl_times
  have b_m_Balance_mul := FunD.bindsN (ps := ["self", "other"]) F_m_Balance_mul fun _ _ _ _ _ _ us hl => match us, hl with | [_, _], _ => rfl
  have l''''''''''''''''''''''''''''''''''''''''' : PySem.W.selfFirst K (He.ga K "Balance") = true := (fxs c 62 (f := fun K => (PySem.W.selfFirst K (He.ga K "Balance"))) rfl)
  have l'''''''''''''''''''''''''''''''''''''''''' : PySem.W.findIn K (.ref (He.ga K "Balance")) (dunderR Operator.Mult.info.2) = some none := (He.eqO_ok (fxs c 63 (f := fun K => (He.eqO (PySem.W.findIn K (.ref (He.ga K "Balance")) (dunderR Operator.Mult.info.2)) (some none))) rfl))
  have l''''''''''''''''''''''''''''''''''''''''''' : PySem.W.subIn K (.ref (He.ga K "Ratio")) (.ref (He.ga K "Balance")) = some false := (of_decide_eq_true (fxs c 64 (f := fun K => (decide (PySem.W.subIn K (.ref (He.ga K "Ratio")) (.ref (He.ga K "Balance")) = some false))) rfl))
  have G_meanO := ok_meanO (P := P) (w := w) (K := K) (mg := mg) (base := base) F_g_mean_of Z_OpsK M_BadBalance fr_len G_areNames b_g_are_names F_g_are_names.kp gl_are_names G_counts b_g_counts F_g_counts.kp gl_counts o_m_Balance_mul G_mulB b_m_Balance_mul l''''''''''''''''''''''''''''''''''''''''' l'''''''''''''''''''''''''''''''''''''''''' o_m_Ratio_mul l''''''''''''' l'''''''''''''''''''''''''''''''''''''''''''
  have b_g_mean_of := FunD.bindsN (ps := ["things"]) F_g_mean_of fun _ _ _ _ _ _ us hl => match us, hl with | [_], _ => rfl
  have gl_mean_of : mg "mean_of" = some (.ref (He.ga K "mean_of")) := He.glo_ok X G (c.a.fact 87 (f := .glo "mean_of") rfl)
  have G_isNamingO := ok_isNamingO (P := P) (w := w) (K := K) (mg := mg) (base := base) F_g_is_naming fr_isinstance fr_dict fr_list G_areNames b_g_are_names F_g_are_names.kp gl_are_names
  have b_g_is_naming := FunD.bindsN (ps := ["value"]) F_g_is_naming fun _ _ _ _ _ _ us hl => match us, hl with | [_], _ => rfl
  have gl_is_naming : mg "is_naming" = some (.ref (He.ga K "is_naming")) := He.glo_ok X G (c.a.fact 89 (f := .glo "is_naming") rfl)
  have G_renamedO := ok_renamedO (P := P) (w := w) (K := K) (mg := mg) (base := base) F_m_Balance_renamed Z_OpsK M_BadBalance G_isNamingO b_g_is_naming F_g_is_naming.kp gl_is_naming
  have b_m_Balance_renamed := FunD.bindsN (ps := ["self", "names"]) F_m_Balance_renamed fun _ _ _ _ _ _ us hl => match us, hl with | [_, _], _ => rfl
  have o_m_Balance_add : OwnM K (He.ga K "Balance") "__add__" (He.ma K (He.ga K "Balance") "__add__") := ⟨He.eqO_ok (Bool.and_eq_true_iff.mp (fxs c 65 (f := fun K => (He.eqO (PySem.W.findIn K (.ref (He.ga K "Balance")) "__add__") (some (some (.ref (He.ma K (He.ga K "Balance") "__add__")))) && PySem.W.isFn K (.ref (He.ma K (He.ga K "Balance") "__add__")))) rfl)).1, (Bool.and_eq_true_iff.mp (fxs c 65 (f := fun K => (He.eqO (PySem.W.findIn K (.ref (He.ga K "Balance")) "__add__") (some (some (.ref (He.ma K (He.ga K "Balance") "__add__")))) && PySem.W.isFn K (.ref (He.ma K (He.ga K "Balance") "__add__")))) rfl)).2⟩
  have l'''''''''''''''''''''''''''''''''''''''''''' : PySem.W.findIn K (.ref (He.ga K "Balance")) (dunderR Operator.Add.info.2) = some none := (He.eqO_ok (fxs c 66 (f := fun K => (He.eqO (PySem.W.findIn K (.ref (He.ga K "Balance")) (dunderR Operator.Add.info.2)) (some none))) rfl))
  have l''''''''''''''''''''''''''''''''''''''''''''' : ∀ T ∈ "int" :: oddTypes, RightT K (He.ga K "Balance") Operator.Add.info.2 T := (fun T hT => ⟨(Option.isSome_iff_exists.mp (Bool.and_eq_true_iff.mp (List.all_eq_true.mp (fxs c 67 (f := fun K => ("int" :: oddTypes : List _).all fun T => ((PySem.W.findIn K (.type T) (PySem.dunder Operator.Add.info.2)).isSome && ((PySem.W.findIn K (.type T) (dunderR Operator.Add.info.2)).isSome && (decide (PySem.W.subIn K (.type T) (.ref (He.ga K "Balance")) = some false))))) rfl) T hT)).1), (Option.isSome_iff_exists.mp (Bool.and_eq_true_iff.mp (Bool.and_eq_true_iff.mp (List.all_eq_true.mp (fxs c 67 (f := fun K => ("int" :: oddTypes : List _).all fun T => ((PySem.W.findIn K (.type T) (PySem.dunder Operator.Add.info.2)).isSome && ((PySem.W.findIn K (.type T) (dunderR Operator.Add.info.2)).isSome && (decide (PySem.W.subIn K (.type T) (.ref (He.ga K "Balance")) = some false))))) rfl) T hT)).2).1), (of_decide_eq_true (Bool.and_eq_true_iff.mp (Bool.and_eq_true_iff.mp (List.all_eq_true.mp (fxs c 67 (f := fun K => ("int" :: oddTypes : List _).all fun T => ((PySem.W.findIn K (.type T) (PySem.dunder Operator.Add.info.2)).isSome && ((PySem.W.findIn K (.type T) (dunderR Operator.Add.info.2)).isSome && (decide (PySem.W.subIn K (.type T) (.ref (He.ga K "Balance")) = some false))))) rfl) T hT)).2).2)⟩)
  have Z_OpF''''' : OpF K (He.ga K "Balance") Operator.Add.info.2 (He.ma K (He.ga K "Balance") "__add__") := ⟨o_m_Balance_add, l'''''''''''''''''''''''''''''''''''''''''''', l'''''''''''''''''''''''''''''''''''''''''''''⟩
  have l'''''''''''''''''''''''''''''''''''''''''''''' : (He.ga K "Balance") ≠ (He.ga K "Ratio") := (of_decide_eq_true (fxs c 68 (f := fun K => (decide ((He.ga K "Balance") ≠ (He.ga K "Ratio")))) rfl))
  have l''''''''''''''''''''''''''''''''''''''''''''''' : (He.ga K "Balance") ≠ (He.ga K "Scale") := (of_decide_eq_true (fxs c 69 (f := fun K => (decide ((He.ga K "Balance") ≠ (He.ga K "Scale")))) rfl))
  have l'''''''''''''''''''''''''''''''''''''''''''''''' : PySem.W.subIn K (.ref (He.ga K "Scale")) (.ref (He.ga K "Balance")) = some false := (of_decide_eq_true (fxs c 70 (f := fun K => (decide (PySem.W.subIn K (.ref (He.ga K "Scale")) (.ref (He.ga K "Balance")) = some false))) rfl))
  have o_m_Scale_add : OwnM K (He.ga K "Scale") "__add__" (He.ma K (He.ga K "Scale") "__add__") := ⟨He.eqO_ok (Bool.and_eq_true_iff.mp (fxs c 71 (f := fun K => (He.eqO (PySem.W.findIn K (.ref (He.ga K "Scale")) "__add__") (some (some (.ref (He.ma K (He.ga K "Scale") "__add__")))) && PySem.W.isFn K (.ref (He.ma K (He.ga K "Scale") "__add__")))) rfl)).1, (Bool.and_eq_true_iff.mp (fxs c 71 (f := fun K => (He.eqO (PySem.W.findIn K (.ref (He.ga K "Scale")) "__add__") (some (some (.ref (He.ma K (He.ga K "Scale") "__add__")))) && PySem.W.isFn K (.ref (He.ma K (He.ga K "Scale") "__add__")))) rfl)).2⟩
  have l''''''''''''''''''''''''''''''''''''''''''''''''' : PySem.W.selfFirst K (He.ga K "Scale") = true := (fxs c 72 (f := fun K => (PySem.W.selfFirst K (He.ga K "Scale"))) rfl)
  have l'''''''''''''''''''''''''''''''''''''''''''''''''' : PySem.W.findIn K (.ref (He.ga K "Scale")) (dunderR Operator.Add.info.2) = some none := (He.eqO_ok (fxs c 73 (f := fun K => (He.eqO (PySem.W.findIn K (.ref (He.ga K "Scale")) (dunderR Operator.Add.info.2)) (some none))) rfl))
  have Z_OpO : OpO K (He.ga K "Balance") (He.ga K "Ratio") (He.ga K "Scale") Operator.Add.info.2 (He.ma K (He.ga K "Balance") "__add__") := ⟨Z_OpF''''', l''''''''''''''''''''''''''''''''''''''''', l'''''''''''''''''''''''''''''''''''''''''''''', l''''''''''''''''''''''''''''''''''''''''''''''', l''''''''''''''''''''''''''''''''''''''''''', l'''''''''''''''''''''''''''''''''''''''''''''''', ⟨(He.ma K (He.ga K "Ratio") "__add__"), o_m_Ratio_add⟩, l'', l''''''''''', (.inr ⟨⟨(He.ma K (He.ga K "Scale") "__add__"), o_m_Scale_add⟩, l''''''''''''''''''''''''''''''''''''''''''''''''', l''''''''''''''''''''''''''''''''''''''''''''''''''⟩)⟩
  have G_summedO := ok_summedO (P := P) (w := w) (K := K) (mg := mg) (base := base) F_g_summed Z_OpsK M_BadBalance fr_isinstance
  have b_g_summed := FunD.bindsN (ps := ["one", "other", "factor"]) F_g_summed fun _ _ _ _ _ _ us hl => match us, hl with | [_, _, _], _ => rfl
  have gl_summed : mg "_summed" = some (.ref (He.ga K "_summed")) := He.glo_ok X G (c.a.fact 90 (f := .glo "_summed") rfl)
  have G_addO := ok_addO (P := P) (w := w) (K := K) (mg := mg) (base := base) F_m_Balance_add G_summedO b_g_summed F_g_summed.kp gl_summed
  have b_m_Balance_add := FunD.bindsN (ps := ["self", "other"]) F_m_Balance_add fun _ _ _ _ _ _ us hl => match us, hl with | [_, _], _ => rfl
  have o_m_Balance_sub : OwnM K (He.ga K "Balance") "__sub__" (He.ma K (He.ga K "Balance") "__sub__") := ⟨He.eqO_ok (Bool.and_eq_true_iff.mp (fxs c 74 (f := fun K => (He.eqO (PySem.W.findIn K (.ref (He.ga K "Balance")) "__sub__") (some (some (.ref (He.ma K (He.ga K "Balance") "__sub__")))) && PySem.W.isFn K (.ref (He.ma K (He.ga K "Balance") "__sub__")))) rfl)).1, (Bool.and_eq_true_iff.mp (fxs c 74 (f := fun K => (He.eqO (PySem.W.findIn K (.ref (He.ga K "Balance")) "__sub__") (some (some (.ref (He.ma K (He.ga K "Balance") "__sub__")))) && PySem.W.isFn K (.ref (He.ma K (He.ga K "Balance") "__sub__")))) rfl)).2⟩
  have l''''''''''''''''''''''''''''''''''''''''''''''''''' : PySem.W.findIn K (.ref (He.ga K "Balance")) (dunderR Operator.Sub.info.2) = some none := (He.eqO_ok (fxs c 75 (f := fun K => (He.eqO (PySem.W.findIn K (.ref (He.ga K "Balance")) (dunderR Operator.Sub.info.2)) (some none))) rfl))
  have l'''''''''''''''''''''''''''''''''''''''''''''''''''' : ∀ T ∈ "int" :: oddTypes, RightT K (He.ga K "Balance") Operator.Sub.info.2 T := (fun T hT => ⟨(Option.isSome_iff_exists.mp (Bool.and_eq_true_iff.mp (List.all_eq_true.mp (fxs c 76 (f := fun K => ("int" :: oddTypes : List _).all fun T => ((PySem.W.findIn K (.type T) (PySem.dunder Operator.Sub.info.2)).isSome && ((PySem.W.findIn K (.type T) (dunderR Operator.Sub.info.2)).isSome && (decide (PySem.W.subIn K (.type T) (.ref (He.ga K "Balance")) = some false))))) rfl) T hT)).1), (Option.isSome_iff_exists.mp (Bool.and_eq_true_iff.mp (Bool.and_eq_true_iff.mp (List.all_eq_true.mp (fxs c 76 (f := fun K => ("int" :: oddTypes : List _).all fun T => ((PySem.W.findIn K (.type T) (PySem.dunder Operator.Sub.info.2)).isSome && ((PySem.W.findIn K (.type T) (dunderR Operator.Sub.info.2)).isSome && (decide (PySem.W.subIn K (.type T) (.ref (He.ga K "Balance")) = some false))))) rfl) T hT)).2).1), (of_decide_eq_true (Bool.and_eq_true_iff.mp (Bool.and_eq_true_iff.mp (List.all_eq_true.mp (fxs c 76 (f := fun K => ("int" :: oddTypes : List _).all fun T => ((PySem.W.findIn K (.type T) (PySem.dunder Operator.Sub.info.2)).isSome && ((PySem.W.findIn K (.type T) (dunderR Operator.Sub.info.2)).isSome && (decide (PySem.W.subIn K (.type T) (.ref (He.ga K "Balance")) = some false))))) rfl) T hT)).2).2)⟩)
  have Z_OpF'''''' : OpF K (He.ga K "Balance") Operator.Sub.info.2 (He.ma K (He.ga K "Balance") "__sub__") := ⟨o_m_Balance_sub, l''''''''''''''''''''''''''''''''''''''''''''''''''', l''''''''''''''''''''''''''''''''''''''''''''''''''''⟩
  have l''''''''''''''''''''''''''''''''''''''''''''''''''''' : PySem.W.findIn K (.ref (He.ga K "Ratio")) (dunderR Operator.Sub.info.2) = some none := (He.eqO_ok (fxs c 77 (f := fun K => (He.eqO (PySem.W.findIn K (.ref (He.ga K "Ratio")) (dunderR Operator.Sub.info.2)) (some none))) rfl))
  have l'''''''''''''''''''''''''''''''''''''''''''''''''''''' : ∃ cd, PySem.W.clsIn K (He.ga K "Scale") = some cd ∧ cd.mro = [.ref (He.ga K "Scale"), .type "object"] := (mroEqB_ok (fxs c 78 (f := fun K => mroEqB K (He.ga K "Scale")) rfl))
  have l''''''''''''''''''''''''''''''''''''''''''''''''''''''' : PySem.W.findIn K (.ref (He.ga K "Scale")) (PySem.dunder Operator.Sub.info.2) = some none := (He.eqO_ok (fxs c 79 (f := fun K => (He.eqO (PySem.W.findIn K (.ref (He.ga K "Scale")) (PySem.dunder Operator.Sub.info.2)) (some none))) rfl))
  have l'''''''''''''''''''''''''''''''''''''''''''''''''''''''' : PySem.W.findIn K (.ref (He.ga K "Scale")) (dunderR Operator.Sub.info.2) = some none := (He.eqO_ok (fxs c 80 (f := fun K => (He.eqO (PySem.W.findIn K (.ref (He.ga K "Scale")) (dunderR Operator.Sub.info.2)) (some none))) rfl))
  have l''''''''''''''''''''''''''''''''''''''''''''''''''''''''' : PySem.W.findIn K (.type "object") (PySem.dunder Operator.Sub.info.2) = some none := (He.eqO_ok (fxs c 81 (f := fun K => (He.eqO (PySem.W.findIn K (.type "object") (PySem.dunder Operator.Sub.info.2)) (some none))) rfl))
  have l'''''''''''''''''''''''''''''''''''''''''''''''''''''''''' : PySem.W.findIn K (.type "object") (dunderR Operator.Sub.info.2) = some none := (He.eqO_ok (fxs c 82 (f := fun K => (He.eqO (PySem.W.findIn K (.type "object") (dunderR Operator.Sub.info.2)) (some none))) rfl))
  have Z_NoOp : PySem.OwnS.NoOp K (He.ga K "Scale") Operator.Sub.info.2 := ⟨l'''''''''''''''''''''''''''''''''''''''''''''''''''''', l''''''''''''''''''''''''''''''''''''''''''''''''''''''', l'''''''''''''''''''''''''''''''''''''''''''''''''''''''', l''''''''''''''''''''''''''''''''''''''''''''''''''''''''', l''''''''''''''''''''''''''''''''''''''''''''''''''''''''''⟩
  have Z_OpO' : OpO K (He.ga K "Balance") (He.ga K "Ratio") (He.ga K "Scale") Operator.Sub.info.2 (He.ma K (He.ga K "Balance") "__sub__") := ⟨Z_OpF'''''', l''''''''''''''''''''''''''''''''''''''''', l'''''''''''''''''''''''''''''''''''''''''''''', l''''''''''''''''''''''''''''''''''''''''''''''', l''''''''''''''''''''''''''''''''''''''''''', l'''''''''''''''''''''''''''''''''''''''''''''''', ⟨(He.ma K (He.ga K "Ratio") "__sub__"), o_m_Ratio_sub⟩, l'', l''''''''''''''''''''''''''''''''''''''''''''''''''''', (.inl Z_NoOp)⟩
  have G_subO := ok_subO (P := P) (w := w) (K := K) (mg := mg) (base := base) F_m_Balance_sub G_summedO b_g_summed F_g_summed.kp gl_summed
  have b_m_Balance_sub := FunD.bindsN (ps := ["self", "other"]) F_m_Balance_sub fun _ _ _ _ _ _ us hl => match us, hl with | [_, _], _ => rfl
  have l''''''''''''''''''''''''''''''''''''''''''''''''''''''''''' : ∀ T ∈ "int" :: oddTypes, RightT K (He.ga K "Balance") Operator.Mult.info.2 T := (fun T hT => ⟨(Option.isSome_iff_exists.mp (Bool.and_eq_true_iff.mp (List.all_eq_true.mp (fxs c 83 (f := fun K => ("int" :: oddTypes : List _).all fun T => ((PySem.W.findIn K (.type T) (PySem.dunder Operator.Mult.info.2)).isSome && ((PySem.W.findIn K (.type T) (dunderR Operator.Mult.info.2)).isSome && (decide (PySem.W.subIn K (.type T) (.ref (He.ga K "Balance")) = some false))))) rfl) T hT)).1), (Option.isSome_iff_exists.mp (Bool.and_eq_true_iff.mp (Bool.and_eq_true_iff.mp (List.all_eq_true.mp (fxs c 83 (f := fun K => ("int" :: oddTypes : List _).all fun T => ((PySem.W.findIn K (.type T) (PySem.dunder Operator.Mult.info.2)).isSome && ((PySem.W.findIn K (.type T) (dunderR Operator.Mult.info.2)).isSome && (decide (PySem.W.subIn K (.type T) (.ref (He.ga K "Balance")) = some false))))) rfl) T hT)).2).1), (of_decide_eq_true (Bool.and_eq_true_iff.mp (Bool.and_eq_true_iff.mp (List.all_eq_true.mp (fxs c 83 (f := fun K => ("int" :: oddTypes : List _).all fun T => ((PySem.W.findIn K (.type T) (PySem.dunder Operator.Mult.info.2)).isSome && ((PySem.W.findIn K (.type T) (dunderR Operator.Mult.info.2)).isSome && (decide (PySem.W.subIn K (.type T) (.ref (He.ga K "Balance")) = some false))))) rfl) T hT)).2).2)⟩)
  have Z_OpF''''''' : OpF K (He.ga K "Balance") Operator.Mult.info.2 (He.ma K (He.ga K "Balance") "__mul__") := ⟨o_m_Balance_mul, l'''''''''''''''''''''''''''''''''''''''''', l'''''''''''''''''''''''''''''''''''''''''''''''''''''''''''⟩
  have o_m_Scale_mul : OwnM K (He.ga K "Scale") "__mul__" (He.ma K (He.ga K "Scale") "__mul__") := ⟨He.eqO_ok (Bool.and_eq_true_iff.mp (fxs c 84 (f := fun K => (He.eqO (PySem.W.findIn K (.ref (He.ga K "Scale")) "__mul__") (some (some (.ref (He.ma K (He.ga K "Scale") "__mul__")))) && PySem.W.isFn K (.ref (He.ma K (He.ga K "Scale") "__mul__")))) rfl)).1, (Bool.and_eq_true_iff.mp (fxs c 84 (f := fun K => (He.eqO (PySem.W.findIn K (.ref (He.ga K "Scale")) "__mul__") (some (some (.ref (He.ma K (He.ga K "Scale") "__mul__")))) && PySem.W.isFn K (.ref (He.ma K (He.ga K "Scale") "__mul__")))) rfl)).2⟩
  have l'''''''''''''''''''''''''''''''''''''''''''''''''''''''''''' : PySem.W.findIn K (.ref (He.ga K "Scale")) (dunderR Operator.Mult.info.2) = some none := (He.eqO_ok (fxs c 85 (f := fun K => (He.eqO (PySem.W.findIn K (.ref (He.ga K "Scale")) (dunderR Operator.Mult.info.2)) (some none))) rfl))
  have Z_OpO'' : OpO K (He.ga K "Balance") (He.ga K "Ratio") (He.ga K "Scale") Operator.Mult.info.2 (He.ma K (He.ga K "Balance") "__mul__") := ⟨Z_OpF''''''', l''''''''''''''''''''''''''''''''''''''''', l'''''''''''''''''''''''''''''''''''''''''''''', l''''''''''''''''''''''''''''''''''''''''''''''', l''''''''''''''''''''''''''''''''''''''''''', l'''''''''''''''''''''''''''''''''''''''''''''''', ⟨(He.ma K (He.ga K "Ratio") "__mul__"), o_m_Ratio_mul⟩, l'', l''''''''''''', (.inr ⟨⟨(He.ma K (He.ga K "Scale") "__mul__"), o_m_Scale_mul⟩, l''''''''''''''''''''''''''''''''''''''''''''''''', l''''''''''''''''''''''''''''''''''''''''''''''''''''''''''''⟩)⟩
  have G_isRatioO := ok_isRatioO (P := P) (w := w) (K := K) (mg := mg) (base := base) F_g_is_ratio Z_RatG
  have G_timesO := ok_timesO (P := P) (w := w) (K := K) (mg := mg) (base := base) F_g_times Z_OpsK M_BadNumber G_isRatioO b_g_is_ratio F_g_is_ratio.kp gl_is_ratio
  have G_mulO := ok_mulO (P := P) (w := w) (K := K) (mg := mg) (base := base) F_m_Balance_mul G_timesO b_g_times F_g_times.kp gl_times
  have l''''''''''''''''''''''''''''''''''''''''''''''''''''''''''''' : PySem.W.kitOne K (.ref (He.ga K "Ratio")) (.ref (He.ga K "Balance")) = some false := (of_decide_eq_true (fxs c 86 (f := fun K => (decide (PySem.W.kitOne K (.ref (He.ga K "Ratio")) (.ref (He.ga K "Balance")) = some false))) rfl))
  have l'''''''''''''''''''''''''''''''''''''''''''''''''''''''''''''' : PySem.W.kitOne K (.ref (He.ga K "Balance")) (.ref (He.ga K "Ratio")) = some false := (of_decide_eq_true (fxs c 87 (f := fun K => (decide (PySem.W.kitOne K (.ref (He.ga K "Balance")) (.ref (He.ga K "Ratio")) = some false))) rfl))
  have l''''''''''''''''''''''''''''''''''''''''''''''''''''''''''''''' : PySem.W.kitOne K (.ref (He.ga K "Balance")) (.type "int") = some false := (of_decide_eq_true (fxs c 88 (f := fun K => (decide (PySem.W.kitOne K (.ref (He.ga K "Balance")) (.type "int") = some false))) rfl))
  have l'''''''''''''''''''''''''''''''''''''''''''''''''''''''''''''''' : PySem.W.kitOne K (.ref (He.ga K "Balance")) (.type "bool") = some false := (of_decide_eq_true (fxs c 89 (f := fun K => (decide (PySem.W.kitOne K (.ref (He.ga K "Balance")) (.type "bool") = some false))) rfl))
  have l''''''''''''''''''''''''''''''''''''''''''''''''''''''''''''''''' : PySem.W.findIn K (.ref (He.ga K "Ratio")) "__class__" = some (some (.builtin "object.__class__")) := (He.eqO_ok (fxs c 90 (f := fun K => (He.eqO (PySem.W.findIn K (.ref (He.ga K "Ratio")) "__class__") (some (some (.builtin "object.__class__"))))) rfl))
  have ty'' : ∀ (H : Hp) (a : Addr), InsAt H a (He.ga K "Ratio") → TyX K H (.ref a) (.ref (He.ga K "Ratio")) := (fun H a hb => let ⟨_, _, e⟩ := hb; .base (.ins e (He.cls_ok (c.a.fact 7 (f := .cls "Ratio") rfl)) l''''''''''''''''''''''''''''''''''''''''''''''''''''''''''''''''' l'.cn l'.ct l''''''''''''''''''''))
  have ty''' : ∀ (H : Hp) (a : Addr), InsAt H a (He.ga K "Balance") → TyX K H (.ref a) (.ref (He.ga K "Balance")) := (fun H a hb => let ⟨_, _, e⟩ := hb; .base (.ins e (He.cls_ok (c.a.fact 0 (f := .cls "Balance") rfl)) l''''''''''''''' l'.cn l'.ct l''''''''''''''''))
  have Z_RfK : RfK P w K mg base (He.ga K "Scale") (He.ga K "Balance") (He.ga K "Ratio") (He.ga K "BadRatio") (He.ga K "BadBalance") (He.ga K "BadNumber") (He.ga K "ScaleError") (He.ga K "_law_heard") fd_g_law_heard (.type "type") (He.ma K (He.ga K "Balance") "of") (He5.wf K (He.ga K "Balance") "staticmethod" "of") := ⟨Z_RatK, Z_BalK, Z_HearK, Z_ScaK, Z_BalO, l''''''''''''''''''''', sm', G_ofB, ⟨(He.ga K "mean_of"), _, ⟨G_meanO, b_g_mean_of, F_g_mean_of.kp, gl_mean_of⟩⟩, ⟨(He.ma K (He.ga K "Balance") "renamed"), _, ⟨(He.meth_ok (c.a.fact 88 (f := .meth "Balance" "renamed") rfl)), G_renamedO, b_m_Balance_renamed⟩⟩, ⟨(He.ma K (He.ga K "Balance") "__add__"), _, ⟨Z_OpO, G_addO, b_m_Balance_add⟩⟩, ⟨(He.ma K (He.ga K "Balance") "__sub__"), _, ⟨Z_OpO', G_subO, b_m_Balance_sub⟩⟩, ⟨(He.ma K (He.ga K "Balance") "__mul__"), _, ⟨Z_OpO'', G_mulO, b_m_Balance_mul⟩⟩, l''''''''''''''''''''''''''''''''''''''''''''''''''''''''''''', l'''''''''''''''''''''''''''''', l''''''''''''''''''''''''''''', l'''''''''''''''''''''''''''''''''''''''''''''''''''''''''''''', l''''''''''''''''''''''''''''''''''''''''''''''''''''''''''''''', l'''''''''''''''''''''''''''''''''''''''''''''''''''''''''''''''', l''', ty'', ty', ty''', ⟨(He.ga K "_law_pick"), _, ⟨G_of, b_g_law_pick, F_g_law_pick.kp, gl_law_pick⟩⟩⟩
  have G_refused := ok_refused (P := P) (w := w) (K := K) (mg := mg) (base := base) (T := TT K) F_g_law_refused Z_RfK hTB0 rfl (by simp) (fun p hp _ => by rw [List.mem_singleton.mp hp])
  have b_g_law_refused := FunD.bindsN (ps := ["_law_reel_here", "_law_balance"]) F_g_law_refused fun _ _ _ _ _ _ us hl => match us, hl with | [_, _], _ => rfl
  have gl_law_refused : mg "_law_refused" = some (.ref (He.ga K "_law_refused")) := He.glo_ok X G (c.a.fact 91 (f := .glo "_law_refused") rfl)
  have Z_LawK : LawK P w K mg base (He.ga K "Balance") (He.ga K "Ratio") (He.ga K "BadRatio") (TT K) := ⟨Z_BalK, Z_LwK, Z_RatK, ⟨(He.ma K (He.ga K "Balance") "__init__"), _, ⟨(He.mkr_ok (c.a.fact 6 (f := .mkr "Balance") rfl)), G_balInit, (kbnP F_m_Balance_init 1 ["numbers"] fun _ _ _ _ _ _ us ws h1 h2 => match us, ws, h1, h2 with | [_], [_], _, _ => rfl)⟩⟩, ⟨_, _, _, ⟨l''''''''''''''''''''', (He5.cmet_of (fxs c 33 (f := fun K => He5.wrapB K (He.ga K "Balance") "classmethod" "classmethod.__get__" "read") rfl) (fxs c 34 (f := fun K => PySem.W.fnIn K (He5.wf K (He.ga K "Balance") "classmethod" "read")) rfl)), (raw0 G_readB b_m_Balance_read)⟩⟩, ⟨(He.ma K (He.ga K "Balance") "number_of"), _, ⟨(He.meth_ok (c.a.fact 35 (f := .meth "Balance" "number_of") rfl)), (fnOk_or G_numberOf G_numberOfO), b_m_Balance_number_of, (FunD.bindsKM F_m_Balance_number_of fun _ _ _ _ _ _ _ zs hl => match zs, hl with | [_], _ => rfl)⟩⟩, ⟨(He.ma K (He.ga K "Ratio") "__eq__"), _, ⟨o_m_Ratio_eq, G_eq, b_m_Ratio_eq⟩⟩, l'''''''''''''''''''''', l''''''''''''''''''''''', l'''''''''''''''''', ⟨(He.ma K (He.ga K "Balance") "gains"), _, ⟨(He.meth_ok (c.a.fact 60 (f := .meth "Balance" "gains") rfl)), G_gains, b_m_Balance_gains⟩⟩, ⟨(He.ma K (He.ga K "Balance") "losses"), _, ⟨(He.meth_ok (c.a.fact 61 (f := .meth "Balance" "losses") rfl)), G_losses, b_m_Balance_losses⟩⟩, ⟨(He.ga K "_law_reel"), _, ⟨G_till, b_g_law_reel, F_g_law_reel.kp, gl_law_reel⟩⟩, ⟨(He.ga K "_law_turn"), _, ⟨G_coin, b_g_law_turn, F_g_law_turn.kp, gl_law_turn⟩⟩, ⟨(He.ga K "_law_things"), _, ⟨G_things, b_g_law_things, F_g_law_things.kp, gl_law_things⟩⟩, ⟨(He.ga K "_law_number"), _, ⟨G_number, b_g_law_number, F_g_law_number.kp, gl_law_number⟩⟩, ⟨(He.ga K "_law_ratio"), _, ⟨G_ratio, b_g_law_ratio, F_g_law_ratio.kp, gl_law_ratio⟩⟩, ⟨(He.ga K "_law_is_as"), _, ⟨G_isAs, b_g_law_is_as, F_g_law_is_as.kp, gl_law_is_as⟩⟩, ⟨(He.ga K "_law_of_right"), _, ⟨G_ofRight, b_g_law_of_right, F_g_law_of_right.kp, gl_law_of_right⟩⟩, ⟨(He.ga K "_law_equal_right"), _, ⟨G_equalRight, b_g_law_equal_right, F_g_law_equal_right.kp, gl_law_equal_right⟩⟩, ⟨(He.ga K "_law_refused"), _, ⟨G_refused, b_g_law_refused, F_g_law_refused.kp, gl_law_refused⟩⟩⟩
  have G_law := ok_law (P := P) (w := w) (K := K) (mg := mg) (base := base) F_g_law Z_LawK
  exact G_law
theorem fact_law {f : Addr} (X : K.In h) (G : h.Ns mainGlobals mg) (hfa : mg ("law" : Str) = some (.ref f)) (c : SaysK fa fn fx tf h K) (hP : P = (PySem.Challenge.rw_scaleborn_k04_balances_made_and_refused).prog) : LawAtS PySem.Challenge.rw_scaleborn_k04_balances_made_and_refused w K CX0 17 63 "_law_script" mg f h := by
  subst hP
  have e := hfa.symm.trans (He.glo_ok X G (c.a.fact 92 (f := .glo "law") rfl))
  cases e
  obtain ⟨fd0, F0⟩ := c.a.def_ 0 (d := d_g_law) rfl
  have F1 : FnP K "law" (top 72) (He.ga K "law") fd0 := F0
  have b := FunD.bindsA (ps := ["_law_script"]) F1 fun _ _ _ _ _ _ us hl => match us, hl with | [_], _ => rfl
  have mem : ∀ p ∈ tf, He.cT K p ∈ tf.map (He.cT K) := fun p hp => List.mem_map_of_mem hp
  refine ⟨fd0, tf.map (He.cT K), (spLaw K (TT K)), fun p hp => ?_, fun p hp => ?_, fun p hp => ?_, fun s u => b s [u] rfl, fun H a ns hl _ hT hS => ?_, fun base _ _ hTB => ?_⟩
  · obtain ⟨q, hq, rfl⟩ := List.mem_map.mp hp
    exact c.empty q hq
  · obtain ⟨q, hq, rfl⟩ := List.mem_map.mp hp
    exact c.out q hq
  · obtain ⟨q, hq, rfl⟩ := List.mem_map.mp hp
    exact PySem.W.codeHd_of_K X (c.hd q hq)
  · refine ⟨a, ns, rfl, hS, hl, fun p hp => ?_, fun _ => rfl⟩
    simp only [List.mem_cons, List.not_mem_nil, or_false] at hp
    rcases hp with rfl
    · exact TabS.nil (hT _ (mem ("_law_refused", none) (by unfold tf; simp)))
  · exact fact_law0 X G c F1 (hTB _ (mem ("_law_refused", none) (by unfold tf; simp)))
end
end K04
open PySem PySem.W PySem.Calls PyProof.Rows
theorem PySem.Challenge.cw_scaleborn_k04_balances_made_and_refused_holds : PySem.Challenge.rw_scaleborn_k04_balances_made_and_refused.Holds := by
  w_on; o_law
  refine HandSHeadRun.head_imp (r := OpenLaw.row PySem.Challenge.rw_scaleborn_k04_balances_made_and_refused) (q := view (OpenLaw.row PySem.Challenge.rw_scaleborn_k04_balances_made_and_refused).prog [0, 72]) (H := K04.hk) (ob := K04.ob) (M := 40000) (loose := K04.loose1 ++ (K04.loose2 ++ (K04.loose3 ++ (K04.loose4)))) (d := HandSHeadRun.topDef (OpenLaw.row PySem.Challenge.rw_scaleborn_k04_balances_made_and_refused).prog 72) (kwd := []) K04.ob_eq
    K04.run (by kernel_rfl) (by kernel_rfl) (by kernel_rfl) (by rfl) (by first | assumption | decide +kernel) (by decide +kernel) ⟨rfl, rfl, rfl, rfl, rfl, by decide +kernel⟩ ?hw ?hc
  case hw => w_witness2
  case hc =>
    refine LamX.walk_ofTsE (n := 63) (k := 17) (CX := fun _ => L2.CX0) (x := "_law_script") rfl (by decide) (by kernel_rfl) ⟨rfl, by decide, by decide⟩ (fun w mg fa h Y G hmg0 => ?_) fun _ _ _ _ _ z => z.elim
    obtain ⟨K, KX, c⟩ := Y
    have hmg : mg ("law" : PySem.Str) = some (.ref fa) := by
      have e : (HandSHeadRun.topDef (OpenLaw.row PySem.Challenge.rw_scaleborn_k04_balances_made_and_refused).prog 72).name = ("law" : PySem.Str) := by kernel_rfl
      rw [← e]
      exact hmg0
    exact ⟨K, KX, K04.fact_law KX G hmg c rfl⟩
