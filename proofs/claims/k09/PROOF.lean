import PyProof.Rows.All
import Wide.All
import OpenK.AllK
import Wide.FinOn
import HandS.ForMost
import HandS.Exc
import HandS.ExcInit
import HandS.IsInst
import HandS.Defaults
import PyProof.ReprRoads
import HandS.ExcField
import HandS.ExcIs
import KE.KExcIs
import PyProof.CallFns
import KE.KStateDown
import HandS.Head0
import HandS.Head1
import HandS.Head2
import HandS.HeadEnd
import HandS.HeadHook1
import HandS.HeadHook2
import KE.KDictList
import HandS.Conv
import HandS.Dict
import HandS.DictComp
import HandS.Walk
import HandS.ClsMeth
import KE.KOpsOwn
import HandS.OwnEq
import HandS.SlotsOwn
import PyProof.InstNe
import PyProof.Rows.FactsN_abs
import PyProof.Rows.Range3
import PyProof.CallStr
import HandS.WordsExc
import PyProof.Rows.RuleB_bool
import HandS.Wide
import HandS.Gcd
import HandS.FStr
import HandS.RaiseMore
import HandS.Style
import HandS.More
import HandS.MakeKwOnly
import HandS.ExcValue
import KE.KFmtOwn
import KE.KMathGC
import PyProof.Rows.SortStr
import PyProof.Rows.StrMeet
import HandS.Comp
import HandS.Text
import PyProof.EqAt
import KE.KEqNest
import KE.DataEq
import HandS.BoundDict
import HandS.TupSets
import HandS.Lambda
import HandS.HeadHook4
import HandS.Head3
import HandS.HeadNt
import HandS.HeadWalk
import HandS.MakeKw
import PySem.Challenge.RW_scaleborn_k09_multiples_are_one_pair
set_option Elab.async false
set_option linter.all false
set_option maxRecDepth 100000
set_option maxHeartbeats 0
/-! An own exception made as a value, by place and by keywords. -/
namespace PySem
namespace MkE
open PySem.W PySem.Calls PyProof.Rows PySem.HandSPX
open Builtin Builtin.ObjectAttr
section
variable {M : Model} {A : Around} {E : Value → Shared → Prop} {h : Heap} {g : Array GenState} {d : Drawn} {t : Nat} {os : OsState}
variable {nm q : Str} {C N : Addr} {bs bm bmB : List Value} {hdct : Bool} {sn : List Str} {sub : List Value} {ab : Bool} {col : Option Bool} {dd : Option Addr} {k0 k1 k2 k3 k5 : Option Value} {B newId initId : String}
theorem look_new (F : ExcBaseFacts B newId initId bmB) (hT : ∀ X : String, bm.contains (.type X) = bmB.contains (.type X)) {us : List Value} {kw : List (Str × Value)} {Q : Unit → Shared → Prop}
    (hC : h.get? C = some (excClassObj nm q C N bs bm hdct sn sub ab col dd k0 k1 k2 k3 k5 newId)) (hq : Q () ⟨h, g, d, t, os⟩) :
    wpAny M A (checkBuiltinCall newId ⟨.ref C :: us, kw⟩) Q E ⟨h, g, d, t, os⟩ := by
  have isB : (Value.ref C :: bm).contains (.type B) = true := by rw [List.contains_cons, hT, F.hasB, Bool.or_true]
  have nostar := F.noStar
  simp only [checkBuiltinCall, F.newKind, F.newSplit, F.newRow]
  repeat (first
    | refine wpAny_loadPart_at hC ?_
    | (refine wpAny_isSubtype_exc hC ?_; rw [isB])
    | refine wpAny_staticBase_exc hC ?_
    | refine wpAny_madeBy_exc hC ?_
    | simp only [bne_self_eq_false, Bool.false_eq_true, if_false]
    | wp_step)
  exact hq
end
section
variable {prog : Program} {w : World} {A : Around} {E : Value → Shared → Prop} {R : Result → Shared → Prop} {h : Heap} {g : Array GenState} {d : Drawn} {t : Nat} {os : OsState}
variable {nm q : Str} {C N : Addr} {bs bm bmB : List Value} {hdct : Bool} {sn : List Str} {sub : List Value} {ab : Bool} {col : Option Bool} {dd : Option Addr} {k0 k1 k2 k3 k5 : Option Value} {B newId initId : String}
theorem new_made (F : ExcBaseFacts B newId initId bmB) (hT : ∀ X : String, bm.contains (.type X) = bmB.contains (.type X)) {us : List Value} {kw : List (Str × Value)}
    (hC : h.get? C = some (excClassObj nm q C N bs bm hdct sn sub ab col dd k0 k1 k2 k3 k5 newId))
    (hq : R (.ok (.ret (.ref (h.objs.size + 1)))) ⟨(h.push (W.kdv_tup us)).push (excO C h.objs.size), g, d, t, os⟩) (hl : us.length ≤ sizeLine) :
    codeAny (model prog w) A (.builtin newId ⟨.ref C :: us, kw⟩) R ⟨h, g, d, t, os⟩ := by
  have ends := F.ends
  have isB : (Value.ref C :: bm).contains (.type B) = true := by rw [List.contains_cons, hT, F.hasB, Bool.or_true]
  have notA : (Value.ref C :: bm).contains (.type "AttributeError") = false := by rw [List.contains_cons, hT, F.noAttr]; rfl
  have notN : (Value.ref C :: bm).contains (.type "NameError") = false := by rw [List.contains_cons, hT, F.noName]; rfl
  refine codeAny_builtinAt F.entry ?_
  unfold Builtin.«BaseException.__new__»
  refine wpAt_bind ?_
  show wpAt _ _ _ (stack >>= _) _ _ _
  refine wpAt_bind (wpAt_stack fun p below => wpAt_of_wpAny ?_)
  wp_walk
  refine wpAt_of_wpAny ?_
  rw [F.owner]
  repeat (first
    | with_reducible refine wpAny_madeHere_exc F.canon hC ?_
    | with_reducible refine wpAny_loadPart_at hC ?_
    | (with_reducible refine wpAny_isSubtype_exc hC ?_; first | rw [isB] | rw [notA] | rw [notN])
    | wp_step)
  show R _ _
  rw [Heap.size_push]
  exact hq
theorem type_made (F : ExcBaseFacts B newId initId bmB) (hT : ∀ X : String, bm.contains (.type X) = bmB.contains (.type X)) {us : List Value} {kw : List (Str × Value)} {fI : Addr} {Q : Fin → Shared → Prop}
    (hC : h.get? C = some (excClassObj nm q C N bs bm hdct sn sub ab col dd k0 k1 k2 k3 k5 newId))
    (hi : W.Looks (model prog w) h (typeLookup (.ref C) "__init__") (some (.ref fI))) (hb : ∀ self, W.Looks (model prog w) h (bindSpecial (.ref fI) self) (.ref fI, [self])) (hl : us.length ≤ sizeLine)
    (hq : codeAny (model prog w) A (.call (.ref fI) ⟨.ref (h.objs.size + 1) :: us, kw⟩)
      (fun r s' => match r with | .ok (.ret v) => v = .none ∧ Q (.done (.ret (.ref (h.objs.size + 1)))) s' | .ok _ => False | .error e => E e s')
      ⟨(h.push (W.kdv_tup us)).push (excO C h.objs.size), g, d, t, os⟩) :
    wpAny (model prog w) A (Builtin.«type.__call__» ⟨.ref C :: us, kw⟩) Q E ⟨h, g, d, t, os⟩ := by
  repeat (first | with_reducible refine wpAny_loadPart_at hC ?_ | with_reducible refine wpAny_madeBy_exc hC ?_ | wp_step)
  refine codeAny_call_builtin_code (Code.quiet_builtin _ F.quiet) (look_new F hT hC ?_)
  refine new_made F hT hC ?_ hl
  show wpAny _ _ _ _ _ _
  have k : ∀ b o, h.get? b = some o → ((h.push (W.kdv_tup us)).push (excO C h.objs.size)).get? b = some o := fun b o e => Heap.get?_push_of_some _ (Heap.get?_push_of_some _ e)
  have hC1 := k _ _ hC
  have at1 : ((h.push (W.kdv_tup us)).push (excO C h.objs.size)).get? (h.objs.size + 1) = some (excO C h.objs.size) := by heap_get
  have own : (Value.ref C :: bm).contains (.ref C) = true := by simp
  have i1 := hi.keeps k
  have b1 := (hb (.ref (h.objs.size + 1))).keeps k
  unfold isInstance
  repeat (first | with_reducible refine wpAny_loadPart_at at1 ?_ | (with_reducible refine wpAny_isSubtype_exc hC1 ?_; rw [own]) | wp_step)
  show wpAny _ _ (typeLookup (.ref C) _) _ _ _
  refine i1.at ?_
  refine wpAny_holding (wpAny_bind (b1.at ?_))
  refine wpAny_bind (wpAny_call (codeAny_mono hq fun r s' z => ?_))
  rcases r with e | (v | _ | _ | _) <;> first | exact z | exact z.elim | skip
  obtain ⟨rfl, z⟩ := z
  first
    | exact wpAny_pure (wpAny_pure z)
    | (wp_walk; exact z)
theorem call_made (F : ExcBaseFacts B newId initId bmB) (hT : ∀ X : String, bm.contains (.type X) = bmB.contains (.type X)) {us : List Value} {kw : List (Str × Value)} {fI : Addr}
    (hC : h.get? C = some (excClassObj nm q C N bs bm hdct sn sub ab col dd k0 k1 k2 k3 k5 newId))
    (hi : W.Looks (model prog w) h (typeLookup (.ref C) "__init__") (some (.ref fI))) (hb : ∀ self, W.Looks (model prog w) h (bindSpecial (.ref fI) self) (.ref fI, [self])) (hl : us.length ≤ sizeLine)
    (hq : codeAny (model prog w) (A.under (.builtin "type.__call__" ⟨.ref C :: us, kw⟩)) (.call (.ref fI) ⟨.ref (h.objs.size + 1) :: us, kw⟩) (W.InitBack (h.objs.size + 1) R)
      ⟨(h.push (W.kdv_tup us)).push (excO C h.objs.size), g, d, t, os⟩) :
    codeAny (model prog w) A (.call (.ref C) ⟨us, kw⟩) R ⟨h, g, d, t, os⟩ := by
  have f1 := tc_lookup
  have f2 := tc_bind (.ref C)
  have hTy : (⟨h, g, d, t, os⟩ : Shared).TypeIs (.ref C) "type" := ⟨_, hC, rfl⟩
  refine codeAny_of_tree ?_
  show wpAny _ _ (callAny (.ref C) _) _ _ _
  repeat (any_goals (first | assumption | with_reducible refine wpAny_loadPart_at hC ?_ | wp_step))
  refine ⟨rfl, ?_⟩
  refine codeAny_call_builtin_at (Code.quiet_builtin _ (by decide +kernel)) entry_typeCall (wpAny_check_type_call_sub hC (type_made F hT hC hi hb hl ?_))
  refine codeAny_mono hq fun r s' z => ?_
  rcases r with e | (v | _ | _ | _) <;> exact z
end
end MkE
end PySem
namespace L2
open PySem PySem.Spec PyProof.Rows
/-! ### an exception of an own class as a value -/
def ErrAt (H : Hp) (e C : Addr) (fs : List (Str × V)) : Prop :=
  (fs = [] ∧ H e = some (exo e C none)) ∨ ∃ d, H e = some (exo e C (some d)) ∧ H d = some (exd d fs)
theorem ErrAt.same {H H' : Hp} {e C : Addr} {fs : List (Str × V)} (h : ErrAt H e C fs) (s : Same H H') : ErrAt H' e C fs := by
  rcases h with ⟨h1, h2⟩ | ⟨d, h1, h2⟩
  · exact .inl ⟨h1, s _ _ h2⟩
  · exact .inr ⟨d, s _ _ h1, s _ _ h2⟩
section
variable {X : Cx} {pins : List (Addr × Obj)} {σ : St} {H : Hp} {s : Shared} {e C : Addr} {fs : List (Str × V)}
theorem ErrAt.inst (I : Inv X pins σ H s) (h : ErrAt H e C fs) :
    ∃ (oe : Obj) (od : Option Obj), PySem.W.InstAt s.heap e oe C od ∧ ∀ f v, fs.lookup f = some v → ∃ (o : Obj) (u : Value), od = some o ∧ RelV v u ∧ PySem.W.lookIn f o = some (some u) := by
  rcases h with ⟨h1, h2⟩ | ⟨d, h1, h2⟩
  · obtain ⟨t1, ho⟩ := exo_at I.hok h2
    exact ⟨_, none, ⟨ho, rfl, rfl, trivial⟩, fun f v l => by rw [h1] at l; cases l⟩
  · obtain ⟨t1, ho⟩ := exo_at I.hok h1
    obtain ⟨mA, hns, rel⟩ := exd_at I.hok h2
    obtain ⟨od, hod, hl⟩ := lookIn_ns hns
    refine ⟨_, some od, ⟨ho, rfl, rfl, hod⟩, fun f v l => ?_⟩
    obtain ⟨u, hu, ru⟩ := RelO.some_of (v := v) (o := mA f) (by rw [← l]; exact rel f)
    exact ⟨od, u, rfl, ru, by rw [hl, hu]⟩
end
/-- isinstance(e, c) -/
def rIsErr (K : PySem.W.Frag) : List V → Hp → VK → Prop := fun xs H Q => ∃ (e C : Addr) (fs : List (Str × V)) (c : V) (cv : Value) (b : Bool),
  xs = [.ref e, c] ∧ ErrAt H e C fs ∧ ExcC K C ∧ ClsV c cv ∧ PySem.W.kitOne K (.ref C) cv = some b ∧ Q (.bl b) H
theorem call_isErr {X : Cx} : CallR X (.builtin "isinstance") (rIsErr X.K) := by
  intro pins s σ H xs us Q I r h
  obtain ⟨e, C, fs, c, cv, b, rfl, he, T, k, ek, q⟩ := h
  obtain ⟨u1, u2, rfl, r1, r2⟩ := vals2 r
  have e2 := k.eq r2
  subst e2
  obtain rfl : u1 = Value.ref e := r1
  obtain ⟨oe, od, J, _⟩ := he.inst I
  have hcl : (PySem.W.clsIn X.K C).isSome = true := by
    obtain ⟨cd, hc, _⟩ := PySem.W.any_some T.hd
    rw [hc]
    rfl
  exact PySem.W.kia_one (PySem.W.kitx_exc (ox := oe) (od := od) hcl T.hg T.hk T.hs T.ha T.hn T.ht T.hm) I.kIn J ek (fun z => nomatch z) fun tk => ⟨.bl b, H, I.tok tk, rfl, q⟩
/-- e.f -/
def tErrF (K : PySem.W.Frag) (f : Str) (te : TE) : TE := fun σ H Q => te σ H fun x H1 => ∃ (e C : Addr) (fs : List (Str × V)) (v : V),
  x = .ref e ∧ ErrAt H1 e C fs ∧ XfC K C ∧ PySem.W.findIn K (.ref C) f = some none ∧ fs.lookup f = some v ∧ Q v H1
theorem pe_errF {X : Cx} {e : Expr} {te : TE} {pos : Pos} {n : Str} (he : PE X e te) (hb : attributeBase e n X.env (eval e X.env) = eval e X.env := by rfl) :
    PE X (.Attribute e n pos) (tErrF X.K n te) := by
  refine ⟨fun pins s σ H Q I h => ?_⟩
  refine attr_of hb (thn (he.run pins s σ H _ I h) fun u s1 hh => ?_)
  obtain ⟨x, H1, I1, rx, e0, C, fs, v, ex, ea, T, hno, l, q⟩ := hh
  subst ex
  obtain rfl : u = Value.ref e0 := rx
  obtain ⟨oe, od, J, hl⟩ := ea.inst I1
  obtain ⟨o, u, rfl, ru, hlu⟩ := hl n v l
  exact HandSPX.exc_get I1.kIn J T.ga T.gg T.exC (PySem.W.findObj_own T.hdC hno rfl hlu) (handed_of ru) ⟨v, H1, I1.tok _, ru, q⟩
/-! ### making one -/
/-- the promise of an __init__ that keeps its parameters ks -/
def spErrI (K : PySem.W.Frag) (ks : List Str) : Sp := fun vs H Q _ => ∃ (e C : Addr) (ws : List V), vs = .ref e :: ws ∧ ws.length = ks.length ∧ OexC K C ∧ (∀ f ∈ ks, PySem.W.findIn K (.ref C) f = some none) ∧
  H e = some (exo e C none) ∧ ∀ H', (∀ b o, b ≠ e → H b = some o → H' b = some o) → ErrAt H' e C (ks.zip ws).reverse → Q .non H'
/-- what the written part tells of such a class -/
structure ErrC (K : PySem.W.Frag) (C fI : Addr) (ks : List Str) : Prop where
  ox : OexC K C
  ini : PySem.W.findIn K (.ref C) "__init__" = some (some (.ref fI))
  fn : PySem.W.typeIn K (.ref fI) = some (.type "function")
  no : ∀ f ∈ ks, PySem.W.findIn K (.ref C) f = some none
  xf : XfC K C
  is : ExcC K C
section
variable {X : Cx} {C fI : Addr} {ks kn ps : List Str} {k : Nat} {fd : FuncData} {x : Str} {p pos : Pos} {e : Expr} {es : List Expr} {kws : List Keyword} {ta tk : TA} {g : List Value → List Value → List Value} {gV : List V → List V → List V}
theorem run_err {pins : List (Addr × Obj)} {σ : St} {H1 : Hp} {s1 : Shared} {Q : VK} {us : List Value} {kw : List (Str × Value)} {ws : List V} {as : List Value} (T : ErrC X.K C fI ks)
    (F : FnOk X.prog X.w X.K X.mg X.base CX0 k fI fd ps (spErrI X.K ks)) (hr : Room (k + 1) X.A) (I1 : Inv X pins σ H1 s1) (hl : us.length ≤ sizeLine)
    (hb : ∀ (s : Shared) (a : Addr), X.K.In s.heap → BindsTo s fd ⟨.ref a :: us, kw⟩ (ps.zip (.ref a :: as))) (r : Vals ws as) (hn : ws.length = ks.length)
    (h : ∀ e H2, H1 e = none → Same H1 H2 → ErrAt H2 e C (ks.zip ws).reverse → Q (.ref e) H2) :
    wpAny (model X.prog X.w) X.A (call (.ref C) us kw) (EP X pins σ Q) X.xe s1 := by
  obtain ⟨nm, q, N, bs, bm, sn, sub, ab, col, dd, k0, k1, k2, k3, k5, hC, hbm⟩ := T.ox.cls
  obtain ⟨hp, gs, dr, tk, os⟩ := s1
  have hsz : hp.objs.size ≤ hp.objs.size + 1 := Nat.le_succ _
  have fr : H1 (hp.objs.size + 1) = none := I1.hok.fresh hsz
  have kk : ∀ b o, hp.get? b = some o → ((hp.push (PySem.W.kdv_tup us)).push (PySem.HandSPX.excO C hp.objs.size)).get? b = some o := fun b o z => Heap.get?_push_of_some _ (Heap.get?_push_of_some _ z)
  have at1 : ((hp.push (PySem.W.kdv_tup us)).push (PySem.HandSPX.excO C hp.objs.size)).get? (hp.objs.size + 1) = some (PySem.HandSPX.excO C hp.objs.size) := by heap_get
  have I2 : Inv X pins σ (upd H1 (hp.objs.size + 1) (exo (hp.objs.size + 1) C none)) ⟨(hp.push (PySem.W.kdv_tup us)).push (PySem.HandSPX.excO C hp.objs.size), gs, dr, tk, os⟩ :=
    I1.laid (t' := tk) (a := hp.objs.size + 1) (o := exo (hp.objs.size + 1) C none) (h' := (hp.push (PySem.W.kdv_tup us)).push (PySem.HandSPX.excO C hp.objs.size)) kk hsz (exo_ok at1)
  have hsp : spErrI X.K ks (.ref (hp.objs.size + 1) :: ws) (upd H1 (hp.objs.size + 1) (exo (hp.objs.size + 1) C none)) (fun v H2 => v = .non ∧ Q (.ref (hp.objs.size + 1)) H2) (fun _ _ _ => False) :=
    ⟨_, C, ws, rfl, hn, T.ox, T.no, upd_same, fun H' km ea => ⟨rfl, h _ H' fr (fun b o z => km b o (ne_of_none z fr) (by rw [upd_ne (ne_of_none z fr)]; exact z)) ea⟩⟩
  refine wpAny_call (PySem.MkE.call_made PySem.F.excBase_ValueError (fun Y => PySem.HandSPX.refsVE_contains Y bm hbm) (I1.kIn _ _ hC) (PySem.W.looks_findIn I1.kIn T.ini) (fun self => PySem.W.bind_fn I1.kIn self T.fn) hl
    (codeAny_mono (F.run _ X.stack _ _ ⟨.ref (hp.objs.size + 1) :: us, kw⟩ (.ref (hp.objs.size + 1) :: as) (.ref (hp.objs.size + 1) :: ws) _ _ (hr.make C us kw) (I2.env0.make C us kw) (hb _ _ I2.kIn) (.cons rfl r) hsp) fun rr s' hq' => ?_))
  cases rr with
  | error er => exact False.elim hq'
  | ok fl =>
    cases fl with
    | ret u =>
      obtain ⟨v, H', I3, rv, ev, q3⟩ := I2.after hq'
      subst ev
      exact ⟨rv, ⟨V.ref (hp.objs.size + 1), H', I3, rfl, q3⟩⟩
    | next => exact False.elim hq'
    | brk => exact False.elim hq'
    | cont => exact False.elim hq'
/-- C(..): the values in the parameters' order -/
def tErr (C : Addr) (ks : List Str) (ord : List V → List V) (t : TA) : TE := fun σ H Q => t σ H fun vs H1 => vs.length = ks.length ∧ ∀ e H2, H1 e = none → Same H1 H2 → ErrAt H2 e C (ks.zip (ord vs)).reverse → Q (.ref e) H2
/-- C(e, ..) -/
theorem pe_err (T : ErrC X.K C fI ks) (F : FnOk X.prog X.w X.K X.mg X.base CX0 k fI fd ps (spErrI X.K ks)) (hr : Room (k + 1) X.A) (hg : Gl X x) (hm : X.mg x = some (.ref C)) (hb : Binds X.K fd ps []) (hp : ps.length = ks.length + 1) (hk : ks.length ≤ 100) (ha : PA X (e :: es) ta)
    (hdb : (x == ("__debug__" : Str)) = false := by decide) (he : starEach (e :: es) X.env = (false, eval e X.env) :: starEach es X.env := by rfl) (hpl : (backTo pos (starEach es X.env)).any (·.1) = false := by rfl) :
    PE X (.Call (.Name x p) (e :: es) [] pos) (tErr C ks id ta) := by
  refine ⟨fun pins s σ H Q I h => ?_⟩
  refine wpAny_Call_Name_kw (ld_glob I hg hm ?_ hdb)
  refine PySem.W.callWith_K (h₀ := X.base) I.ok.mod.kin T.ox.kC (thn (ha.run pos pins s σ H _ I h) fun us s1 ⟨vs, H1, I1, r, hl, q⟩ => ⟨I1.kIn, ?_⟩) he hpl
  have l2 : us.length = ks.length := r.length.symm.trans hl
  show wpAny _ _ (call (.ref C) us) _ _ _
  refine run_err (as := us) T F hr I1 (by rw [l2, sizeLine_eq]; omega) (fun s a KX => ?_) r hl q
  have z := hb s (.ref a :: us) KX (by rw [List.append_nil, List.length_cons, l2, hp])
  rw [List.append_nil] at z
  exact z
/-- C() -/
theorem pe_err0 (T : ErrC X.K C fI []) (F : FnOk X.prog X.w X.K X.mg X.base CX0 k fI fd ps (spErrI X.K [])) (hr : Room (k + 1) X.A) (hg : Gl X x) (hm : X.mg x = some (.ref C)) (hb : Binds X.K fd ps []) (hp : ps.length = 1)
    (hdb : (x == ("__debug__" : Str)) = false := by decide) : PE X (.Call (.Name x p) [] [] pos) (tErr C [] id tNil) := by
  refine ⟨fun pins s σ H Q I h => ?_⟩
  refine wpAny_Call_Name_kw (ld_glob I hg hm ?_ hdb)
  refine PySem.W.callWith_K0 I.kIn T.ox.kC ?_
  refine run_err (us := []) (as := []) (ws := []) T F hr I (Nat.zero_le _) (fun s a KX => ?_) .nil rfl h.2
  have z := hb s [.ref a] KX (by rw [List.append_nil, hp]; rfl)
  rw [List.append_nil] at z
  exact z
/-- C(k = e, ..) -/
theorem pe_errK (T : ErrC X.K C fI ks) (F : FnOk X.prog X.w X.K X.mg X.base CX0 k fI fd ps (spErrI X.K ks)) (hr : Room (k + 1) X.A) (hg : Gl X x) (hm : X.mg x = some (.ref C)) {ordV : List V → List V} {ordU : List Value → List Value}
    (hb : ∀ (s : Shared) (a : Addr) (zs : List Value), zs.length = ks.length → BindsTo s fd ⟨[.ref a], kn.zip zs⟩ (ps.zip (.ref a :: ordU zs))) (hv : ∀ (vs : List V) (us : List Value), vs.length = ks.length → Vals vs us → Vals (ordV vs) (ordU us) ∧ (ordV vs).length = ks.length) (hkw : PK X kws tk)
    (hall : (backToKw pos (keywordEach kws X.env)).all (·.1.isSome) = true := by rfl) (hks : (backToKw pos (keywordEach kws X.env)).filterMap (·.1) = kn := by rfl)
    (hdb : (x == ("__debug__" : Str)) = false := by decide)
    (hpl : ((backTo pos (starEach [] X.env)).any (·.1) || (backToKw pos (keywordEach kws X.env)).any (·.1.isNone)) = false := by rfl) :
    PE X (.Call (.Name x p) [] kws pos) (tErr C ks ordV tk) := by
  refine ⟨fun pins s σ H Q I h => ?_⟩
  refine wpAny_Call_Name_kw (ld_glob I hg hm ?_ hdb)
  refine PySem.W.callWith_KW0 (h₀ := X.base) I.ok.mod.kin T.ox.kC hall ?_ hpl
  refine thn (hkw.run pos pins s σ H _ I h) fun us s1 ⟨vs, H1, I1, r, hl, q⟩ => ⟨I1.kIn, ?_⟩
  rw [hks]
  obtain ⟨r2, l2⟩ := hv vs us hl r
  exact run_err (us := []) T F hr I1 (Nat.zero_le _) (fun s a _ => hb s a us (r.length.symm.trans hl)) r2 l2 q
end
end L2
namespace L2
open PySem PySem.Spec PyProof.Rows
/-! ### data that repr tells: t is one address that may change -/
def KeepBut (t : Addr) (H H' : Hp) : Prop := ∀ b o, b ≠ t → H b = some o → H' b = some o
theorem KeepBut.trans {t : Addr} {H H1 H2 : Hp} (a : KeepBut t H H1) (b : KeepBut t H1 H2) : KeepBut t H H2 := fun c o n e => b c o n (a c o n e)
theorem KeepBut.refl {t : Addr} (H : Hp) : KeepBut t H H := fun _ _ _ e => e
theorem Same.but {t : Addr} {H H' : Hp} (s : Same H H') : KeepBut t H H' := fun b o _ e => s b o e
def Rp (P : Program) (w : World) (t : Addr) (H : Hp) (v : V) (d : PyData) : Prop := ∀ (H' : Hp) (h : Heap), KeepBut t H H' → HOk P w H' h → ∀ u, RelV v u → ∃ as, Reads h u d as ∧ ∀ b ∈ as, b ≠ sysModules
abbrev RpL (P : Program) (w : World) (t : Addr) (H : Hp) : List V → List PyData → Prop := Paired (Rp P w t H)
section
variable {P : Program} {w : World} {t : Addr} {H H' : Hp} {v : V} {d : PyData} {vs : List V} {ds ks : List PyData} {a : Addr} {kvs : List (Key × V)}
theorem Rp.keep (h : Rp P w t H v d) (s : KeepBut t H H') : Rp P w t H' v d := fun H2 hh s2 ok u r => h H2 hh (s.trans s2) ok u r
theorem RpL.keep : ∀ {vs : List V} {ds : List PyData}, RpL P w t H vs ds → KeepBut t H H' → RpL P w t H' vs ds
  | _, _, .nil, _ => .nil
  | _, _, .cons h q, s => .cons (Rp.keep h s) (RpL.keep q s)
theorem RpL.reads {h : Heap} (s : KeepBut t H H') (ok : HOk P w H' h) : ∀ {vs : List V} {ds : List PyData} {us : List Value}, RpL P w t H vs ds → Vals vs us → ∃ as, ReadsAll h us ds as ∧ ∀ b ∈ as, b ≠ sysModules
  | _, _, _, .nil, .nil => ⟨[], .nil, fun _ z => nomatch z⟩
  | _, _, _, .cons x q, .cons r rt => by
    obtain ⟨a1, h1, n1⟩ := x H' h s ok _ r
    obtain ⟨a2, h2, n2⟩ := RpL.reads s ok q rt
    exact ⟨a1 ++ a2, .cons h1 h2, fun b hb => (List.mem_append.mp hb).elim (n1 b) (n2 b)⟩
theorem rp_non : Rp P w t H .non .none := fun _ _ _ _ u r => by cases (show u = Value.none from r); exact ⟨[], .none, fun _ z => nomatch z⟩
theorem rp_bl (b : Bool) : Rp P w t H (.bl b) (.bool b) := fun _ _ _ _ u r => by cases (show u = Value.bool b from r); exact ⟨[], .bool b, fun _ z => nomatch z⟩
theorem rp_int (i : Int) : Rp P w t H (.int i) (.int i) := fun _ _ _ _ u r => by obtain ⟨t, rfl⟩ := (show ∃ t, u = Value.int i t from r); exact ⟨[], .int i t, fun _ z => nomatch z⟩
theorem rp_str (x : Str) : Rp P w t H (.str x) (.str x) := fun _ _ _ _ u r => by obtain ⟨t, rfl⟩ := (show ∃ t, u = Value.str x t from r); exact ⟨[], .str x t, fun _ z => nomatch z⟩
theorem rp_lst (e : H a = some (.lst vs)) (nt : a ≠ t) (na : a ≠ sysModules) (r : RpL P w t H vs ds) : Rp P w t H (.ref a) (.list ds) := fun H' h s ok u ru => by
  cases (show u = Value.ref a from ru)
  obtain ⟨z, its, n, rv, ho⟩ : vs.length ≤ sizeLine ∧ ∃ (its : List Value) (n : Nat), Vals vs its ∧ h.get? a = some { cls := .type "list", data := .seq its.toArray n } := ok a _ (s _ _ nt e)
  obtain ⟨as, ra, nn⟩ := r.reads s ok rv
  exact ⟨a :: as, .list ho rfl rfl (by simpa using ra), fun b hb => (List.mem_cons.mp hb).elim (fun q => by rw [q]; exact na) (nn b)⟩
theorem rp_tup (e : H a = some (.tup vs)) (nt : a ≠ t) (r : RpL P w t H vs ds) : Rp P w t H (.ref a) (.tuple ds) := fun H' h s ok u ru => by
  cases (show u = Value.ref a from ru)
  obtain ⟨z, its, rv, o, ho, hc, n, hd⟩ : vs.length ≤ sizeLine ∧ ∃ its : List Value, Vals vs its ∧ IsTup h a its.toArray := ok a _ (s _ _ nt e)
  obtain ⟨as, ra, nn⟩ := r.reads s ok rv
  exact ⟨as, .tuple ho hc hd (by simpa using ra), nn⟩
theorem keys_vals {ws : List (Key × Value)} {es : List DictEntry} (rel : KV kvs ws) (pr : Pairs (mixKind P w) es ws) : Vals (kvs.map fun p => kV p.1) (es.map (·.key)) ∧ Vals (kvs.map (·.2)) (es.map (·.val)) := by
  unfold KV at rel
  induction rel generalizing es with
  | nil => cases pr; exact ⟨.nil, .nil⟩
  | @cons x y l1 l2 r tl ih =>
    cases pr with
    | @cons e kv es' _ hk hv ht =>
      obtain ⟨a1, a2⟩ := ih ht
      have k2 : keyIs y.1 e.key = true := hk
      refine ⟨.cons ?_ a1, .cons ?_ a2⟩
      · show RelV (kV x.1) e.key
        rw [r.1]
        rcases keyIs_shape k2 with ⟨i, t', e1, e2⟩ | ⟨x, t', e1, e2⟩
        · rw [e1, e2]; exact ⟨t', rfl⟩
        · rw [e1, e2]; exact ⟨t', rfl⟩
      · show RelV x.2 e.val
        rw [hv]
        exact r.2
theorem rp_dK (e : H a = some (.dK kvs)) (nt : a ≠ t) (rk : RpL P w t H (kvs.map fun p => kV p.1) ks) (rv : RpL P w t H (kvs.map (·.2)) ds) (hl : ks.length = ds.length) : Rp P w t H (.ref a) (.dict (ks.zip ds)) := fun H' h s ok u ru => by
  cases (show u = Value.ref a from ru)
  obtain ⟨z, na, ws, rel, o, es, ep, ho, hx, hd, _, hp, _⟩ : kvs.length ≤ sizeLine ∧ (a == sysModules) = false ∧ ∃ vs, KV kvs vs ∧ h.DictOf (mixKind P w) a vs := ok a _ (s _ _ nt e)
  obtain ⟨r1, r2⟩ := keys_vals rel hp
  obtain ⟨as, ra, na1⟩ := rk.reads s ok r1
  obtain ⟨bs, rb, nb1⟩ := rv.reads s ok r2
  refine ⟨a :: as ++ bs, .dict ho hx.1 hd ?_ ?_, fun b hb => ?_⟩
  · rw [List.map_fst_zip (Nat.le_of_eq hl)]; exact ra
  · rw [List.map_snd_zip (Nat.le_of_eq hl.symm)]; exact rb
  · rcases List.mem_append.mp hb with hb | hb
    · rcases List.mem_cons.mp hb with q | hb
      · rw [q]; exact beq_eq_false_iff_ne.mp na
      · exact na1 b hb
    · exact nb1 b hb
end
/-- repr(v) -/
def rRepr (P : Program) (w : World) : List V → Hp → VK → Prop := fun xs H Q => ∃ (t : Addr) (v : V) (d : PyData), xs = [v] ∧ Rp P w t H v d ∧ d.showable = true ∧ d.depth ≤ 50 ∧ d.shown.length ≤ sizeLine ∧ Q (.str d.shown) H
theorem call_repr {X : Cx} (hG : X.A.guards = some []) (hu : X.A.units + 64 < cLine) : CallR X (.builtin "repr") (rRepr X.prog X.w) := by
  intro pins s σ H xs us Q I r h
  obtain ⟨ta, v, d, rfl, rp, hs, hd, hz, q⟩ := h
  cases r with
  | cons rv rn =>
    rename_i u us'
    cases rn
    obtain ⟨as, rd, na⟩ := rp H s.heap (KeepBut.refl H) I.hok u rv
    cases u with
    | ref a =>
      refine repr_of_reads' rd hs (fun _ z => na _ z rfl) hG (by omega) (fun b o z => z) (fun h' t tk k => ?_) hz
      exact ⟨.str d.shown, H, I.kept k, ⟨_, rfl⟩, q⟩
    | none =>
      cases rd
      simp only [PyData.shown] at q
      exact PySem.P.repr_of_none ⟨.str "None", H, I.tok _, ⟨_, rfl⟩, q⟩
    | bool b =>
      cases rd
      simp only [PyData.shown] at q
      exact PySem.P.repr_of_bool ⟨.str (if b then "True" else "False"), H, I.tok _, ⟨_, rfl⟩, q⟩
    | int i t =>
      cases rd
      simp only [PyData.shown] at q
      have hs' : i.natAbs.log2 < 1920 := by simpa [PyData.showable] using hs
      exact PySem.P.repr_of_int hs' ⟨.str (toString i), H, I.tok _, ⟨_, rfl⟩, q⟩
    | str x t =>
      cases rd
      simp only [PyData.shown] at q hz
      exact PySem.P.repr_of_str ⟨.str (reprText x), H, I.tok _, ⟨_, rfl⟩, q⟩ hz
    | _ => cases rd
/-- [a, b, ..], not the table of modules -/
def tLstS (t : TA) : TE := fun σ H Q => t σ H fun xs H1 => xs.length ≤ sizeLine ∧ ∀ p, H1 p = none → p ≠ sysModules → Q (.ref p) (upd H1 p (.lst xs))
theorem pe_lstS {X : Cx} {es : List Expr} {t : TA} {pos : Pos} (h : PA X es t) : PE X (.List es pos) (tLstS t) := by
  refine ⟨fun pins s σ H Q I hq => ?_⟩
  refine wpAny_List_spliced (thn (h.run pos pins s σ H _ I hq) fun us s1 ⟨xs, H1, I1, r, z, q⟩ => ⟨by rw [← r.length]; exact z, ?_⟩)
  have hf : H1 s1.heap.objs.size = none := I1.hok.fresh (Nat.le_refl _)
  refine ⟨.ref s1.heap.objs.size, upd H1 s1.heap.objs.size (.lst xs), I1.laid (t' := s1.toks) (fun b u e => Heap.get?_push_of_some _ e) (Nat.le_refl _) ?_, rfl, q _ hf (Nat.ne_of_gt I1.big)⟩
  exact ⟨z, us, 0, r, Heap.get?_push_size _ rfl⟩
/-! ### a def that is called where nothing is being shown by repr -/
structure FnOkG (P : Program) (w : World) (K : PySem.W.Frag) (mg : Str → Option Value) (base : Heap) (CX : CXT) (k : Nat) (f : Addr) (fd : FuncData) (ps : List Str) (sp : Sp) : Prop where
  len : ∀ vs H Q E, sp vs H Q E → vs.length = ps.length
  run : ∀ (A : Around) (outer : List Env) (s : Shared) (H : Hp) (args : Args) (us : List Value) (vs : List V) (Q : VK) (E : XK), A.guards = some [] → Room k A → Env0 P w K mg base A outer s H → BindsTo s fd args (ps.zip us) → Vals vs us → sp vs H Q E →
    codeAny (model P w) A (.call (.ref f) args) (CR CX outer P w H s Q E) s
theorem FunD.okG {P : Program} {w : World} {K : PySem.W.Frag} {mg : Str → Option Value} {base : Heap} {x qual : Str} {params : Arguments} {body : List Stmt} {scope : Scope} {dvs : List V} {kws : List (Str × V)} {f : Addr} {fd : FuncData} {CX : CXT} {N ps : List Str} {k : Nat} {sp : Sp}
    (F : FunD K x qual params body scope dvs kws f fd) (S : FnScope N ps scope) (len : ∀ vs H Q E, sp vs H Q E → vs.length = ps.length)
    (hbody : ∀ (cdv : Value) (A : Around) (outer : List Env) (s : Shared) (H : Hp) (vs : List V) (Q : VK) (E : XK), A.guards = some [] → Room k (A.deeper (envOfC qual scope s.heap.objs.size f cdv)) → sp vs H Q E →
      ∃ t, PSs (cxOf CX P w K mg base N qual scope f cdv A outer s H E) body t ∧ t { nx := fun _ H' => Q .non H', rt := Q } (start N vs) H) : FnOkG P w K mg base CX (k + 1) f fd ps sp := by
  obtain ⟨oc, od, dV, kV, doc, pm, an, cdv, ct, osl, rfl, lk, hcd, _, _⟩ := F.ex
  refine ⟨len, fun A outer s H args us vs Q E hG hr e0 hb r hsp => ?_⟩
  have KX : K.In s.heap := e0.mod.kin.keeps fun b o e => (e0.bs b o e).1
  have lim : s.heap.NoLimit := e0.mod.nolimit.keeps fun b o e => (e0.bs b o e).1
  have kinds : ∀ y ∈ ps.zip us, scope.names.lookup y.1 = some .local ∨ (scope.names.lookup y.1 = some .cell ∧ ((cellsFrom (s.heap.objs.size + 1) scope.names []).lookup y.1).isSome = true) := fun ⟨n, v⟩ hy =>
    (S.par n (List.of_mem_zip hy).1).elim .inl fun q => .inr ⟨q, PySem.W.cellsFrom_some _ _ _ (.inl q)⟩
  refine codeAny_call_function hr.depth (KX _ _ lk) rfl S.co S.gen rfl (PySem.W.codeRec_of KX hcd) (hb _ _ _ _ ?_)
  refine wpAny_newFunctionEnv_cells S.kind kinds fun env he s1 x => ?_
  subst he
  refine ⟨lim.keeps x.toInCall.keep, codeAny_func ?_⟩
  obtain ⟨t, ht, hq⟩ := hbody cdv A outer s H vs Q E hG (hr.deeper _) hsp
  have I : Inv (cxOf CX P w K mg base N qual scope f cdv A outer s H E) [] (start N vs) H s1 := inv_start S hr.hd e0 (len _ _ _ _ hsp) r x
  refine wpAny_mono (ht.run [] s1 (start N vs) H _ I hq) (fun fl s' hs => ?_) fun e s' hs => hs
  cases fl with
  | ret u =>
    obtain ⟨v, σ', H', J, rv, q⟩ := hs
    exact ⟨v, H', J.os, J.bare, J.base, J.hok, rv, q⟩
  | next =>
    obtain ⟨σ', H', J, q⟩ := hs
    exact ⟨V.non, H', J.os, J.bare, J.base, J.hok, rfl, q⟩
  | brk =>
    obtain ⟨_, _, _, q⟩ := hs
    exact False.elim q
  | cont =>
    obtain ⟨_, _, _, q⟩ := hs
    exact False.elim q
section
variable {X : Cx} {CX : CXT} {k : Nat} {f : Addr} {fd : FuncData} {ps : List Str} {sp : Sp} {dvs : List V} {ds : List Value} {E : XK} {x : Str} {p pos : Pos} {e : Expr} {es : List Expr} {t : TA}
theorem pe_callG (F : FnOkG X.prog X.w X.K X.mg X.base CX k f fd ps sp) (hG : X.A.guards = some []) (hr : Room k X.A) (hg : Gl X x) (hm : X.mg x = some (.ref f)) (hk : PySem.W.keepIn X.K (.ref f) = true) (hb : Binds X.K fd ps ds) (hd : Vals dvs ds) (hx : Passes CX X E)
    (ha : PA X (e :: es) t) (hdb : (x == ("__debug__" : Str)) = false := by decide) (he : starEach (e :: es) X.env = (false, eval e X.env) :: starEach es X.env := by rfl) (hpl : (backTo pos (starEach es X.env)).any (·.1) = false := by rfl) :
    PE X (.Call (.Name x p) (e :: es) [] pos) (tCall sp dvs E t) := by
  refine ⟨fun pins s σ H Q I h => ?_⟩
  refine wpAny_Call_Name_kw (ld_glob I hg hm ?_ hdb)
  refine PySem.W.callWith_K (h₀ := X.base) I.ok.mod.kin hk (thn (ha.run pos pins s σ H _ I h) fun us s1 ⟨vs, H1, I1, r, q⟩ => ⟨I1.kIn, ?_⟩) he hpl
  show wpAny _ _ (call (.ref f) us) _ _ _
  have r2 : Vals (vs ++ dvs) (us ++ ds) := r.append hd
  have hl : (us ++ ds).length = ps.length := by rw [← r2.length]; exact F.len _ _ _ _ q
  refine wpAny_call (codeAny_mono (F.run X.A X.stack s1 H1 ⟨us, []⟩ (us ++ ds) (vs ++ dvs) Q E hG hr I1.env0 (hb s1 us I1.kIn hl) r2 q) fun rr s' hq => ?_)
  cases rr with
  | error e => exact hx pins σ H1 s1 e s' I1 hq
  | ok fl =>
    cases fl with
    | ret u => exact I1.after hq
    | next => exact False.elim hq
    | brk => exact False.elim hq
    | cont => exact False.elim hq
end
/-- a law's end -/
theorem law_callG {P : Program} {w : World} {K : PySem.W.Frag} {mg mb : Str → Option Value} {k : Nat} {fa a : Addr} {fd : FuncData} {x : Str} {sp : Sp} {s₁ : Shared} {vs : List Value} {ns : List Int}
    (KX : K.In s₁.heap) (hns : s₁.heap.Ns mainGlobals mg) (hb : s₁.heap.Ns builtinsNs mb) (hbb : ∀ x : Str, x ≠ "__name__" → mb x = bootBuiltins x) (hlim : s₁.heap.NoLimit) (hg : s₁.gens = #[])
    (ha : s₁.heap.get? a = some { cls := .type "list", data := .seq vs.toArray }) (hi : IntsAre vs ns) (hl : ns.length ≤ sizeLine) (hr : Room k callerA)
    (F : ∀ base : Heap, K.In base → base.Ns mainGlobals mg → FnOkG P w K mg base CX0 k fa fd [x] sp) (hbind : ∀ (s : Shared) (u : Value), BindsTo s fd ⟨[u], []⟩ [(x, u)])
    (hsp : ∀ H : Hp, Only H → SqL K H a (ns.map V.int) → sp [.ref a] H (fun v _ => v = .bl true) fun _ _ _ => False) :
    codeAny (model P w) callerA (.call (.ref fa) ⟨[.ref a], []⟩) (fun r s' => r = .ok (.ret (.bool true)) ∧ OldK s₁.heap s'.heap ∧ s'.os = s₁.os ∧ AllBare s'.gens) s₁ := by
  have rv := vals_ints hi
  have lenV := hi.length
  -- the heap at the entry: the script alone is tracked, where the written part does not hold it
  have main : ∀ H : Hp, Only H → SqL K H a (ns.map V.int) → HOk P w H s₁.heap → (∀ b, H b ≠ none → b = a) → (H a ≠ none → K.lookup a = none) →
      codeAny (model P w) callerA (.call (.ref fa) ⟨[.ref a], []⟩) (fun r s' => r = .ok (.ret (.bool true)) ∧ OldK s₁.heap s'.heap ∧ s'.os = s₁.os ∧ AllBare s'.gens) s₁ := by
    intro H hO hS hok hA hK
    have isA : ∀ {b : Addr} {u : HO}, H b = some u → b = a := fun {b u} q => hA b (by rw [q]; exact fun z => nomatch z)
    have noA : ∀ {b : Addr} {o : Obj} {es : Array DictEntry} {ep : Nat}, s₁.heap.get? b = some o → o.data = .dict es ep → H b = none := fun {b o es ep} e d => by
      cases q : H b with
      | none => rfl
      | some u =>
        have z := isA q
        subst z
        rw [ha] at e; cases e
        exact nomatch (show Data.seq vs.toArray _ = Data.dict es ep from d)
    have nsK : ∀ {b : Addr} {m : Str → Option Value}, s₁.heap.Ns b m → (hidT s₁.heap H).Ns b m := fun {b m} ⟨o, es, ep, e, d, r⟩ => ⟨o, es, ep, hidT_get e (noA e d), d, r⟩
    have hKb : K.In (hidT s₁.heap H) := fun b o e => hidT_get (KX b o e) (by
      cases q : H b with
      | none => rfl
      | some u =>
        have z := isA q
        subst z
        rw [hK (by rw [q]; exact fun z => nomatch z)] at e; cases e)
    have hM : Mod K mg (hidT s₁.heap H) := ⟨hKb, nsK hns, ⟨mb, nsK hb, hbb⟩, let ⟨mc, h1, h2⟩ := hlim; ⟨mc, nsK h1, h2⟩⟩
    have e0 : Env0 P w K mg (hidT s₁.heap H) callerA [] s₁ H := ⟨rfl, hM, fun b o e => of_hidT e, Nat.le_of_eq (hidT_size _ _), trivial, fun b hb => absurd (show b ∈ ([] : List Addr) from hb) (by simp), hok, .of_eq hg⟩
    refine codeAny_mono ((F _ hKb (nsK hns)).run callerA [] s₁ H ⟨[.ref a], []⟩ [.ref a] [.ref a] _ _ rfl hr e0 (hbind s₁ (.ref a)) (.cons rfl .nil) (hsp H hO hS)) fun r s' h => ?_
    cases r with
    | error e => exact False.elim h
    | ok fl =>
      cases fl with
      | next => exact False.elim h
      | brk => exact False.elim h
      | cont => exact False.elim h
      | ret u =>
        obtain ⟨v, H', os, bare, un, hok', r', q⟩ := h
        have q' : v = .bl true := q
        subst q'
        obtain rfl : u = Value.bool true := r'
        refine ⟨rfl, OldK.of_keep fun b o e => ?_, os, bare⟩
        cases q : H b with
        | none => exact un.keep b o e q (fun z => absurd (show b ∈ ([] : List Addr) from z) (by simp)) (by simp)
        | some u =>
          rcases hO b with z | ⟨ob, xs, z⟩
          · rw [q] at z; cases z
          · obtain ⟨e1, _⟩ := hok b _ z
            obtain ⟨e2, _⟩ := hok' b _ (un.frzs b ob _ z)
            rw [e] at e1; cases e1
            exact e2
  cases hk : K.lookup a with
  | some o =>
    have e := KX a o hk
    rw [ha] at e
    cases e
    exact main (fun _ => none) (fun _ => .inl rfl) (.inr ⟨_, vs.toArray, _, hk, rfl, rfl, rfl, by rw [List.size_toArray, lenV]; exact hl, by simpa using rv⟩) (fun b u z => nomatch (show (none : Option HO) = some u from z)) (fun b z => absurd rfl z) fun z => absurd rfl z
  | none =>
    have ⟨H, at_, off⟩ : ∃ H : Hp, (∀ b, b = a → H b = some (HO.frz { cls := .type "list", data := .seq vs.toArray } (.lst (ns.map V.int)))) ∧ ∀ b, b ≠ a → H b = none :=
      ⟨fun c => if c = a then some (HO.frz { cls := .type "list", data := .seq vs.toArray } (.lst (ns.map V.int))) else none, fun b z => if_pos z, fun b z => if_neg z⟩
    refine main H (fun b => ?_) (.inl (.inr ⟨_, at_ a rfl⟩)) (fun b u z => ?_) (fun b z => ?_) fun _ => hk
    · by_cases hb : b = a
      · exact .inr ⟨_, _, at_ b hb⟩
      · exact .inl (off b hb)
    · by_cases hb : b = a
      · have z2 := (at_ b hb).symm.trans z
        cases z2
        subst hb
        exact ⟨ha, by rw [List.length_map]; exact hl, vs, _, rv, ha⟩
      · have z2 := (off b hb).symm.trans z
        cases z2
    · by_cases hb : b = a
      · exact hb
      · exact absurd (off b hb) z
end L2
namespace L2
open PySem PySem.Spec PyProof.Rows
/-! ### what the written part tells of an own error's class, as a Bool -/
def oexB (K : PySem.W.Frag) (C : Addr) : Bool := match K.lookup C with
  | some ⟨.type "type", _, .cls cd, sl⟩ => (match cd.mro, sl.toList with
    | .ref C' :: bm, [_, _, _, _, some (.builtin n), _] => C' == C && n == "ValueError.__new__" && !cd.hasDel && cd.hasDict && PySem.HandSPX.refsVE bm
    | _, _ => false)
  | _ => false
theorem oexB_ok {K : PySem.W.Frag} {C : Addr} (h : oexB K C = true) : ∃ nm q N bs bm sn sub ab col dd k0 k1 k2 k3 k5,
    K.lookup C = some (excClassObj nm q C N bs bm true sn sub ab col dd k0 k1 k2 k3 k5 "ValueError.__new__") ∧ PySem.HandSPX.refsVE bm = true := by
  unfold oexB at h
  split at h
  · rename_i dd cd sl ho
    split at h
    · rename_i C' bm k0 k1 k2 k3 n k5 hm hs
      simp only [Bool.and_eq_true, beq_iff_eq, Bool.not_eq_true'] at h
      obtain ⟨⟨⟨⟨rfl, rfl⟩, hdel⟩, hd⟩, ht⟩ := h
      obtain ⟨nm, bs, mro, ns, qn, hdct, sn, sub, ab, col, del⟩ := cd
      dsimp only at hm hdel hd
      subst hm hdel hd
      have hsl : sl = #[k0, k1, k2, k3, some (.builtin "ValueError.__new__"), k5] := by
        obtain ⟨l⟩ := sl
        simp only at hs
        rw [hs]
      subst hsl
      exact ⟨nm, qn, ns, bs, bm, sn, sub, ab, col, dd, k0, k1, k2, k3, k5, ho, ht⟩
    · cases h
  · cases h
def errB (x : Str) (ks : List Str) (K : PySem.W.Frag) : Bool :=
  oexB K (He.ga K x) && (He.eqO (PySem.W.nsIn K mainGlobals x) (some (some (.ref (He.ga K x)))) && (He.eqO (PySem.W.findIn K (.ref (He.ga K x)) "__setattr__") (some (some (.builtin "object.__setattr__"))) &&
  (decide (PySem.W.subIn K (.ref (He.ga K x)) (.type "BaseException") = some true) && (decide (PySem.W.typeIn K (.ref (He.ga K x)) = some (.type "type")) && (PySem.W.keepIn K (.ref (He.ga K x)) &&
  (He.eqO (PySem.W.findIn K (.ref (He.ga K x)) "__init__") (some (some (.ref (He.ma K (He.ga K x) "__init__")))) && (decide (PySem.W.typeIn K (.ref (He.ma K (He.ga K x) "__init__")) = some (.type "function")) &&
  ((ks.all fun f => He.eqO (PySem.W.findIn K (.ref (He.ga K x)) f) (some none)) && (xfB K (He.ga K x) &&
  (He.eqO (PySem.W.findIn K (.ref (He.ga K x)) "__class__") (some (some (.builtin "object.__class__"))) && (He.eqO (PySem.W.specialIn K (.builtin "object.__class__") "__get__") (some (some (.builtin "getset_descriptor.__get__"))) &&
  (decide (PySem.W.takesIn K (.builtin "object.__class__") = some true) && decide (PySem.W.mroIn K (He.ga K x) (.type "object") = some true)))))))))))))
theorem errB_ok {K : PySem.W.Frag} {x : Str} {ks : List Str} (h : errB x ks K = true) : ErrC K (He.ga K x) (He.ma K (He.ga K x) "__init__") ks ∧ (He.Fa.glo x).ok K = true := by
  unfold errB at h
  simp only [Bool.and_eq_true] at h
  obtain ⟨h1, h2, h3, h4, h5, h6, h7, h8, h9, h10, h11, h12, h13, h14⟩ := h
  have X := xfB_ok h10
  refine ⟨⟨⟨oexB_ok h1, He.eqO_ok h3, of_decide_eq_true h4, of_decide_eq_true h5, h6⟩, He.eqO_ok h7, of_decide_eq_true h8, fun f hf => He.eqO_ok (List.all_eq_true.mp h9 f hf), X, ⟨X.ga, X.gg, X.exC, X.hdC, He.eqO_ok h11, He.eqO_ok h12, of_decide_eq_true h13, of_decide_eq_true h14⟩⟩, h2⟩
/-! ### a Hook with Bools of one's own -/
def hookX (n : Nat) (fa : List He.Fa) (fn : List He.DefD) (fx : List (PySem.W.Frag → Bool)) : PySem.W.Hook where
  α := He.AlD × Bool
  obs := fun s => (He.obsDG n fa fn s.heap.get?, fx.all fun f => f (He.frG s.heap.get? (He.asD s.heap.get? n)))
  val := fun _ => (He.valD fn, true)
  says := fun _ h => ∃ K : PySem.W.Frag, K.In h ∧ He.SaysD fa fn K ∧ (fx.all fun f => f K) = true
  of := fun _ _ e => ⟨_, He.frG_in, (Prod.mk.inj e).1, (Prod.mk.inj e).2⟩
  keeps := fun _ _ _ ⟨K, hK, c⟩ k => ⟨K, PySem.W.Frag.In.keeps hK k, c⟩
def obX (n : Nat) (fa : List He.Fa) (fn : List He.DefD) (fx : List (PySem.W.Frag → Bool)) (s : PySem.W.SharedT) : He.AlD × Bool :=
  (He.obsDG n fa fn (HandSHeadRun.getT s), fx.all fun f => f (He.frG (HandSHeadRun.getT s) (He.asD (HandSHeadRun.getT s) n)))
theorem obX_eq (n : Nat) (fa : List He.Fa) (fn : List He.DefD) (fx : List (PySem.W.Frag → Bool)) (s : PySem.W.SharedT) : obX n fa fn fx s = (hookX n fa fn fx).obs s.abs := by
  have e : HandSHeadRun.getT s = s.abs.heap.get? := funext fun a => HandSHeadRun.getT_eq s a
  unfold obX
  rw [e] <;> rfl
end L2
namespace L2
open PySem PySem.Spec PyProof.Rows PySem.W
/-! ### tuple(d) of a dict: what list(d) goes over, collected for a tuple -/
section
variable {prog : Program} {w : World} {A : Around} {E : Value → Shared → Prop} {s : Shared} {T : String} {r d : Addr} {n : Nat} {P : Nat → Value → Prop} {OK : Heap → Prop}
theorem collect_src {Q : List Value → Shared → Prop} (K : KdlSrc prog w T r d n P OK) (hh : A.handled = none) (hok : OK s.heap) (hn : n ≤ sizeLine)
    (hQ : ∀ (h1 : Heap) (tk : Nat) (us : Array Value), (∀ b o, s.heap.get? b = some o → h1.get? b = some o) → ItemsOf P us n → Q us.toList { s with heap := h1, toks := tk }) : wpAny (model prog w) A (collect (.ref r)) Q E s := by
  have lt := K.there _ hok
  have new : (s.heap.push { cls := .type "list", data := .seq ([] : List Value).toArray }).get? s.heap.objs.size = some { cls := .type "list", data := .seq #[] 0 } := Heap.get?_push_size _ rfl
  have ok2 : OK (s.heap.push { cls := .type "list", data := .seq ([] : List Value).toArray }) := K.keep _ _ hok fun b _ o e => Heap.get?_push_of_some _ e
  unfold collect
  apply wpAny_bind
  apply wpAny_runValue
  apply codeAny_builtin F.entry_proto_collect
  rw [Around.under_plainId F.plain_proto_collect _]
  show wpAny _ A.in1 (do let l ← newList []; again (.builtin "list.__iadd__" ⟨[l, .ref r], []⟩)) _ _ s
  apply wpAny_bind
  refine wpAny_newObj_type ?_
  apply wpAny_pure
  refine ⟨plainId_quiet F.plain_list_iadd _, ?_⟩
  apply codeAny_builtin F.entry_list_iadd
  rw [Around.under_plainId F.plain_list_iadd _]
  have main := kdl_extend (A := A) (s := { s with heap := s.heap.push { cls := .type "list", data := .seq ([] : List Value).toArray } }) (R := fun rr s2 => rr = .ok (.ret (.ref s.heap.objs.size)) ∧ ∃ (h1 : Heap) (tk : Nat) (us : Array Value) (c1 : Nat), s2 = { s with heap := h1, toks := tk } ∧
      (∀ b o, s.heap.get? b = some o → h1.get? b = some o) ∧ h1.get? s.heap.objs.size = some { cls := .type "list", dict := none, data := .seq us c1, slots := #[] } ∧ ItemsOf P us n) K hh ok2 s.heap.objs.size (Nat.ne_of_gt lt.1) (Nat.ne_of_gt lt.2) (.ref s.heap.objs.size) 0 new
    (fun h1 tk us c1 kp e hi => ⟨rfl, h1, tk, us, c1, rfl, fun b o q => kp b o (Nat.ne_of_lt (Heap.lt_size q)) (Heap.get?_push_of_some _ q), e, hi⟩) hn
  refine wpAny_mono main (fun fin s2 h => ?_) (fun e s2 h => ?_)
  · have fin_ : ∀ {rr : Result} {s3 : Shared}, (rr = .ok (.ret (.ref s.heap.objs.size)) ∧ ∃ (h1 : Heap) (tk : Nat) (us : Array Value) (c1 : Nat), s3 = { s with heap := h1, toks := tk } ∧
        (∀ b o, s.heap.get? b = some o → h1.get? b = some o) ∧ h1.get? s.heap.objs.size = some { cls := .type "list", dict := none, data := .seq us c1, slots := #[] } ∧ ItemsOf P us n) →
        ∃ us : Array Value, rr = .ok (.ret (.ref s.heap.objs.size)) ∧ ∃ c1, s3.heap.get? s.heap.objs.size = some { cls := .type "list", dict := none, data := .seq us c1, slots := #[] } ∧ Q us.toList s3 := fun {rr s3} z => by
      obtain ⟨e, h1, tk, us, c1, e2, kp, hS, hi⟩ := z
      subst e2
      exact ⟨us, e, c1, hS, hQ h1 tk us kp hi⟩
    cases fin with
    | done f =>
      obtain ⟨us, e, c1, hS, q⟩ := fin_ h
      cases e
      show wpAny _ A (load s.heap.objs.size >>= _) _ _ _
      exact wpAny_bind (wpAny_load hS (wpAny_pure q))
    | again c' =>
      refine ⟨h.1, codeAny_mono h.2 fun rr s3 h3 => ?_⟩
      obtain ⟨us, e, c1, hS, q⟩ := fin_ h3
      subst e
      show wpAny _ A (load s.heap.objs.size >>= _) _ _ _
      exact wpAny_bind (wpAny_load hS (wpAny_pure q))
  · exact absurd h.1 (by simp)
theorem tupnew_src {Q₁ : Value → Shared → Prop} (K : KdlSrc prog w T r d n P OK) (hh : A.handled = none) (hok : OK s.heap) (hn : n ≤ sizeLine)
    (h : ∀ (h1 : Heap) (tk : Nat) (us : Array Value), (∀ b o, s.heap.get? b = some o → h1.get? b = some o) → ItemsOf P us n → Q₁ (.ref h1.objs.size) { s with heap := h1.push { cls := .type "tuple", data := .seq us }, toks := tk }) :
    codeAny (model prog w) A (.call (.builtin "tuple.__new__") ⟨[.type "tuple", .ref r], []⟩) (wants Q₁ E) s := by
  apply codeAny_of_tree
  show wpAny _ A.in1 (do checkBuiltinCall "tuple.__new__" ⟨[.type "tuple", .ref r], []⟩; again (.builtin "tuple.__new__" ⟨[.type "tuple", .ref r], []⟩)) _ _ s
  refine wpAny_bind (wpAny_of_eq (F.newCall_tuple_1 _) (wpAny_pure ⟨plainId_quiet F.plain_tuple_new _, codeAny_builtin F.entry_tuple_new ?_⟩))
  rw [Around.under_plainId F.plain_tuple_new _]
  have a1 := sub_tuple_self
  have a2 := init_tuple_lookup
  have a3 := madeHere_tuple
  have a4 := K.type s hok
  have a5 := K.notTuple
  have hh1 : A.in1.handled = none := hh
  wp_walk using wpAny_typeOf a4, collect_src (A := A.in1) K hh1 hok hn
  intro h1 tk us kp hi
  show wpAny _ _ (do let v ← Builtin.Tuple.tupleExact us.toList.toArray; ret v) _ _ _
  unfold Builtin.Tuple.tupleExact
  rw [show us.toList.toArray = us by simp]
  apply wpAny_bind
  refine wpAny_newObj_type ?_ (by show us.size ≤ sizeLine; rw [hi.1]; exact hn)
  apply wpAny_pure
  exact h h1 tk us kp hi
theorem tuple_src {Q : Value → Shared → Prop} (K : KdlSrc prog w T r d n P OK) (hh : A.handled = none) (hok : OK s.heap) (hn : n ≤ sizeLine)
    (h : ∀ (h1 : Heap) (tk : Nat) (us : Array Value), (∀ b o, s.heap.get? b = some o → h1.get? b = some o) → ItemsOf P us n → Q (.ref h1.objs.size) { s with heap := h1.push { cls := .type "tuple", data := .seq us }, toks := tk }) :
    wpAny (model prog w) A (call (.type "tuple") [.ref r]) Q E s := by
  refine callType_codes (Q₁ := fun obj s1 => s1.TypeIs obj "tuple" ∧ Q obj s1) F.called_tuple (F.typeCall_tuple_1 _) F.entry_object_init
    (tupnew_src (A := A.in1) K hh hok hn fun h1 tk us kp hi => ⟨⟨_, Heap.get?_push_size _ rfl, rfl⟩, h h1 tk us kp hi⟩) fun obj s1 z => ?_
  exact ⟨z.1, F.args_object_init_2 obj _, object_init_meets F.called_tuple.init.lookup F.called_tuple.made (by decide) prog w A.in1 _ s1 ⟨z.1, rfl, z.2⟩⟩
end
def rTupD : List V → Hp → VK → Prop := fun xs H Q => ∃ p kvs, xs = [.ref p] ∧ H p = some (.dK kvs) ∧ ∀ q, H q = none → Q (.ref q) (upd H q (.tup (kvs.map fun kv => kV kv.1)))
/-- tuple(d), d's keys ints and texts -/
theorem call_tuple_dK {X : Cx} (hc : X.calm = true) : CallR X (.type "tuple") rTupD := by
  intro pins s σ H xs us Q I r h
  obtain ⟨p, kvs, rfl, hk, q⟩ := h
  obtain ⟨u, rfl, rx⟩ := vals1 r
  obtain rfl : u = Value.ref p := rx
  obtain ⟨z, lo, vs, rk, hd⟩ := (show ObjOk X.prog X.w H s.heap p (.dK kvs) from I.hok p _ hk)
  obtain ⟨ep, at_⟩ := hd.dictAt
  have hl : kvs.length = vs.length := Paired.length rk
  have hz : vs.length ≤ sizeLine := by rw [← hl]; exact z
  refine tuple_src (kdl_dict (knd := mixKind X.prog X.w) (kvs := vs) (ep := ep) lo) (I.ok.hd hc) at_ hz fun h1 tk acc kp hi => ?_
  have I1 : Inv X pins σ H { s with heap := h1, toks := tk } := I.kept kp
  have key : Vals (kvs.map fun kv => kV kv.1) acc.toList := by
    have el : acc.toList.length = acc.size := by simp
    refine vals_of_at (by rw [List.length_map, el, hi.1, hl]) fun j x w' e1 e2 => ?_
    obtain ⟨k, y, hky, isk⟩ := hi.2 j w' (by rw [← Array.getElem?_toList]; exact e2)
    have ek : (kvs.map (·.1))[j]? = some k := by
      rw [KV.keys rk, List.getElem?_map, hky]
      rfl
    rw [List.getElem?_map] at ek e1
    obtain ⟨kv, ekv, rfl⟩ := Option.map_eq_some_iff.mp ek
    rw [ekv] at e1
    cases e1
    exact keyIs_rel isk
  refine ⟨.ref h1.objs.size, upd H h1.objs.size (.tup (kvs.map fun kv => kV kv.1)), I1.laid (t' := tk) (fun b o e => Heap.get?_push_of_some _ e) (Nat.le_refl _) (show ObjOk X.prog X.w _ _ _ (.tup (kvs.map fun kv => kV kv.1)) from ⟨by rw [List.length_map]; exact z, acc.toList, key, ?_⟩), rfl, q _ (I1.hok.fresh (Nat.le_refl _))⟩
  have e : acc.toList.toArray = acc := by simp
  rw [e]
  exact IsTup.new _ _
end L2
namespace L2
open PySem PySem.Spec PyProof.Rows
/-! ### a dict comprehension over any walk -/
/-- what the walk of a dict comprehension asks of one turn -/
def DcTurn (g : TG) (tt : TT) (tk tv : TE) (vs : List Nat) (σ : St) (D : Addr) (x : V) (H : Hp) (Pnx : Hp → Prop) : Prop :=
  g x (wipe σ vs) H fun σ2 H2 => wipe σ2 vs = wipe σ vs ∧ tt σ2 H2 fun b H3 =>
    if b = true then tk σ2 H3 fun y H4 => tv σ2 H4 fun z H5 => ∃ kvs k, y = kV k ∧ H5 D = some (.dK kvs) ∧ kvs.length < sizeLine ∧ Pnx (upd H5 D (.dK (putK kvs k z))) else Pnx H3
theorem dc_it {J : It} {n : Nat} {G : Hp → Prop} {Y : Nat → Hp → V → Hp → Prop} (w : Walk J n G Y) {g : TG} {tt : TT} {tk tv : TE} {vs : List Nat} {σ : St} {H1 : Hp} {D : Addr} {Qd : Hp → Prop} (Pv : Nat → Hp → Prop)
    (h0 : Pv 0 (upd H1 D (.dK []))) (hG : ∀ i H, i ≤ n → Pv i H → G H) (hs : ∀ i x H H', i < n → Pv i H → Y i H x H' → DcTurn g tt tk tv vs σ D x H' (Pv (i + 1))) (hd : ∀ H, Pv n H → Qd H) :
    ∃ W : Nat → Nat → Hp → Prop, (∃ m, W 0 m (upd H1 D (.dK []))) ∧ ∀ i m H, W i m H →
      (J.stop i H ∧ Qd H) ∨ (J.go i H ∧ ∃ Nx : Hp → Prop, (∀ H', Nx H' → ∃ m', m' < m ∧ W (i + 1) m' H') ∧ ∀ x H', J.yld i H x H' → g x (wipe σ vs) H' fun σ2 H2 => wipe σ2 vs = wipe σ vs ∧ tt σ2 H2 fun b H3 =>
        if b = true then tk σ2 H3 fun y H4 => tv σ2 H4 fun z H5 => ∃ kvs k, y = kV k ∧ H5 D = some (.dK kvs) ∧ kvs.length < sizeLine ∧ Nx (upd H5 D (.dK (putK kvs k z))) else Nx H3) := by
  refine ⟨fun i m H => m + i = n ∧ Pv i H, ⟨n, Nat.add_zero n, h0⟩, ?_⟩
  rintro i m H ⟨e, p⟩
  have q := hG i H (by omega) p
  by_cases lt : i < n
  · exact .inr ⟨w.goes i H lt q, Pv (i + 1), fun H' p' => ⟨n - (i + 1), by omega, by omega, p'⟩, fun x H' y => hs i x H H' lt p (w.yields i H x H' lt q y)⟩
  · obtain rfl : i = n := by omega
    exact .inl ⟨w.stops H q, hd H p⟩
end L2
namespace L2
open PySem PySem.Spec PyProof.Rows ClX
/-- C.m is a staticmethod: its record at p, its def at g -/
structure SMet (K : PySem.W.Frag) (C : Addr) (mc : Value) (m : Str) (p g : Addr) : Prop where
  at_ : PySem.W.findCls K (.ref C) mc m = some (.get (.builtin "staticmethod.__get__") (.ref p) .none (.ref C))
  rc : ∃ rest, PySem.W.recIn K p "staticmethod" = some (.ref g :: rest)
  kp : PySem.W.keepIn K (.ref g) = true
section
variable {X : Cx} {pins : List (Addr × Obj)} {σ : L2.St} {H : Hp} {s : Shared} {C p g : Addr} {mc : Value} {m : Str} {A : Around} {E : Value → Shared → Prop}
theorem getsm_ok {pl : Sem Bool} {Q : Value × List Value → Shared → Prop} (I : Inv X pins σ H s) (r : CRead X.K C mc) (k : SMet X.K C mc m p g) (h : ∀ s', Inv X pins σ H s' → Q (.ref g, []) s') : wpAny (model X.prog X.w) A (getMethod (.ref C) m pl) Q E s := by
  obtain ⟨rest, hp⟩ := k.rc
  refine PySem.W.method_cls I.kIn r.ga (PySem.W.cls_bind I.kIn r.rd k.at_ ?_)
  refine wpAny_call (PySem.W.sm_get (s := { s with toks := s.toks + 1 }) I.kIn hp (PySem.W.handed_on rfl ?_))
  exact h _ (I.tok _)
end
/-- C.m(e, ..), m a staticmethod -/
def tSMeth (C : Addr) (sp : Sp) (E : XK) (ta : TE) (t : TA) : TE := fun σ H Q => ta σ H fun x H1 => x = .ref C ∧ t σ H1 fun vs H2 => sp vs H2 Q E
theorem pe_smeth {X : Cx} {CX : CXT} {k : Nat} {C p f : Addr} {mc : Value} {fd : FuncData} {ps : List Str} {sp : Sp} {E : XK} {o e : Expr} {es : List Expr} {m : Str} {pos apos : Pos} {ta : TE} {t : TA} {pl : Sem Bool}
    (he : PE X o ta) (r : CRead X.K C mc) (c : SMet X.K C mc m p f) (F : FnOk X.prog X.w X.K X.mg X.base CX k f fd ps sp) (hr : Room k X.A) (hb : Binds X.K fd ps []) (hx : Passes CX X E) (ha : PA X (e :: es) t)
    (hst : starEach (e :: es) X.env = (false, eval e X.env) :: starEach es X.env := by rfl) (hpl : (backTo pos (starEach es X.env)).any (·.1) = false := by rfl)
    (ht : eval (.Call (.Attribute o m apos) (e :: es) [] pos) X.env = (do
      let ov ← eval o X.env
      standAt apos.atName
      let (f, first) ← holding [ov] (getMethod ov m pl)
      callWith pos f first (backTo pos (starEach (e :: es) X.env)) (backToKw pos (keywordEach [] X.env))) := by rfl) :
    PE X (.Call (.Attribute o m apos) (e :: es) [] pos) (tSMeth C sp E ta t) := by
  refine ⟨fun pins s σ H Q I h => ?_⟩
  refine PySem.W.methodCall_KW (pl := pl) (thn (he.run pins s σ H _ I h) fun u s1 ⟨x, H1, I1, rx, ex, q⟩ => ?_) ht
  subst ex
  obtain rfl : u = Value.ref C := rx
  refine getsm_ok I1 r c fun s2 I2 => ?_
  refine PySem.W.callWith_K (first := []) (h₀ := X.base) I.ok.mod.kin c.kp (thn (ha.run pos pins s2 σ H1 _ I2 q) fun us s3 ⟨vs, H2, I3, rv, q2⟩ => ⟨I3.kIn, ?_⟩) hst hpl
  exact run_fn (dvs := []) F hr hb .nil hx I3 rv (by rw [List.append_nil]; exact q2)
end L2
namespace L2
open PySem PySem.Spec PyProof.Rows
/-! ### operators that an own class answers -/
/-- a class's own method by its special name -/
structure OwnM (K : PySem.W.Frag) (C : Addr) (name : Str) (f : Addr) : Prop where
  at_ : PySem.W.findIn K (.ref C) name = some (some (.ref f))
  fn : PySem.W.isFn K (.ref f) = true
/-- a is an instance of the class at C -/
def InsAt (H : Hp) (a C : Addr) : Prop := ∃ dx fs, H a = some (.ins C dx fs)
theorem InsAt.inst {X : Cx} {pins : List (Addr × Obj)} {σ : St} {H : Hp} {s : Shared} {a C : Addr} (h : InsAt H a C) (I : Inv X pins σ H s) : ∃ ox od, PySem.W.InstAt s.heap a ox C od := by
  obtain ⟨dx, fs, e⟩ := h
  obtain ⟨mA, J, _⟩ := ins_get I.hok e
  obtain ⟨od, J, _⟩ := J.look
  exact ⟨_, _, J⟩
section
variable {X : Cx} {CX : CXT} {n : Nat} {C f : Addr} {fd : FuncData} {ps : List Str} {sp : Sp} {E : XK}
/-- the def runs below the body, at any place with room -/
theorem own_run {A : Around} {pins : List (Addr × Obj)} {σ : St} {H : Hp} {s : Shared} {Q : VK} {us : List Value} {vs : List V} (F : FnOk X.prog X.w X.K X.mg X.base CX n f fd ps sp) (sb : Sub X n A) (hb : Binds X.K fd ps []) (hx : Passes CX X E)
    (I : Inv X pins σ H s) (r : Vals vs us) (h : sp vs H Q E) : wpAny (model X.prog X.w) A (call (.ref f) us) (EP X pins σ Q) X.xe s := by
  have e := I.env0
  have e0 : Env0 X.prog X.w X.K X.mg X.base A X.stack s H := ⟨by rw [sb.fr]; exact e.frames, e.mod, e.bs, e.bsz, e.funs, e.frf, e.hok, e.bare⟩
  have hl : us.length = ps.length := r.length.symm.trans (F.len _ _ _ _ h)
  have bi : BindsTo s fd ⟨us, []⟩ (ps.zip us) := by
    have z := hb s us I.kIn (by simpa using hl)
    simpa using z
  refine wpAny_call (codeAny_mono (F.run A X.stack s H ⟨us, []⟩ us vs Q E sb.room e0 bi r h) fun q s' z => ?_)
  match q, z with
  | .error x, z => exact hx pins σ H s x s' I z
  | .ok (.ret u), z => exact I.after z
  | .ok .next, z => exact z.elim
  | .ok .brk, z => exact z.elim
  | .ok .cont, z => exact z.elim
def rOwnC (C : Addr) (sp : Sp) (E : XK) : R2 := fun x y H Q => ∃ a b, x = .ref a ∧ y = .ref b ∧ InsAt H a C ∧ InsAt H b C ∧ sp [x, y] H Q E
/-- x op y, both of the class -/
theorem op_ownC {op : Operator} (M : OwnM X.K C (PySem.dunder op.info.2) f) (hc : PySem.W.selfFirst X.K C = true) (F : FnOk X.prog X.w X.K X.mg X.base CX n f fd ps sp) (hr : Room n X.A) (hb : Binds X.K fd ps []) (hx : Passes CX X E) : OpR X (binaryOp op) (rOwnC C sp E) := by
  intro pins s σ H x y v u Q I rx ry h
  obtain ⟨a, b, rfl, rfl, ha, hb', q⟩ := h
  obtain rfl : v = .ref a := rx
  obtain rfl : u = .ref b := ry
  obtain ⟨ox, od, J⟩ := ha.inst I
  obtain ⟨oy, ey, J'⟩ := hb'.inst I
  obtain ⟨m, hF⟩ := I.fr
  refine PySem.W.binop_K hF I.ok.mod.kin J J'.type hc M.at_ M.fn ?_
  refine wpAny_mono (own_run (vs := [.ref a, .ref b]) F ⟨hr, rfl⟩ hb hx I (.cons rfl (.cons rfl .nil)) q) (fun r s' z => ?_) fun _ _ z => z
  obtain ⟨z, H', I', rz, qz⟩ := id z
  exact SlX.cmpback rz ⟨z, H', I', rz, qz⟩
/-- the right side is a value of the built-in type at T, known without the heap -/
def PlainT (y : V) (T : String) : Prop := ∀ u, RelV y u → typeOf u = pure (.type T)
theorem plainT_int (i : Int) : PlainT (.int i) "int" := fun u r => by obtain ⟨t, rfl⟩ := (show ∃ t, u = Value.int i t from r); rfl
theorem plainT_str (x : Str) : PlainT (.str x) "str" := fun u r => by obtain ⟨t, rfl⟩ := (show ∃ t, u = Value.str x t from r); rfl
theorem plainT_bl (b : Bool) : PlainT (.bl b) "bool" := fun u r => by obtain rfl := (show u = Value.bool b from r); rfl
theorem plainT_non : PlainT .non "NoneType" := fun u r => by obtain rfl := (show u = Value.none from r); rfl
/-- what the written part must tell of a built-in type that stands at the right -/
structure RightT (K : PySem.W.Frag) (C : Addr) (nm : String) (T : String) : Prop where
  fo : ∃ o, PySem.W.findIn K (.type T) (PySem.dunder nm) = some o
  ro : ∃ o, PySem.W.findIn K (.type T) (dunderR nm) = some o
  no : PySem.W.subIn K (.type T) (.ref C) = some false
def rOwnT (K : PySem.W.Frag) (C : Addr) (nm : String) (sp : Sp) (E : XK) : R2 := fun x y H Q => ∃ a T, x = .ref a ∧ PlainT y T ∧ RightT K C nm T ∧ InsAt H a C ∧ sp [x, y] H Q E
theorem op_ownT {op : Operator} (M : OwnM X.K C (PySem.dunder op.info.2) f) (hc : PySem.W.selfFirst X.K C = true) (hR : PySem.W.findIn X.K (.ref C) (dunderR op.info.2) = some none) (F : FnOk X.prog X.w X.K X.mg X.base CX n f fd ps sp) (hr : Room n X.A) (hb : Binds X.K fd ps [])
    (hx : Passes CX X E) : OpR X (binaryOp op) (rOwnT X.K C op.info.2 sp E) := by
  intro pins s σ H x y v u Q I rx ry h
  obtain ⟨a, T, rfl, pt, R, ha, q⟩ := h
  obtain rfl : v = .ref a := rx
  obtain ⟨ox, od, J⟩ := ha.inst I
  obtain ⟨m, hF⟩ := I.fr
  obtain ⟨fo, h1⟩ := R.fo
  obtain ⟨ro, h2⟩ := R.ro
  refine PySem.W.ksp_binT hF I.ok.mod.kin J (pt u ry) hc M.at_ M.fn hR (.inl rfl) h1 h2 R.no ?_
  refine wpAny_mono (own_run (vs := [.ref a, y]) F ⟨hr, rfl⟩ hb hx I (.cons rfl (.cons ry .nil)) q) (fun r s' z => ?_) fun _ _ z => z
  obtain ⟨z, H', I', rz, qz⟩ := id z
  exact SlX.cmpback rz ⟨z, H', I', rz, qz⟩
def rOwn1 (C : Addr) (sp : Sp) (E : XK) : V → Hp → VK → Prop := fun x H Q => ∃ a, x = .ref a ∧ InsAt H a C ∧ sp [x] H Q E
/-- -x by an own __neg__ -/
theorem un_ownNeg (M : OwnM X.K C "__neg__" f) (F : FnOk X.prog X.w X.K X.mg X.base CX n f fd ps sp) (hr : Room n X.A) (hb : Binds X.K fd ps []) (hx : Passes CX X E) : UnR X (unaryOp .USub) (rOwn1 C sp E) := by
  intro pins s σ H x v Q I rx h
  obtain ⟨a, rfl, ha, q⟩ := h
  obtain rfl : v = .ref a := rx
  obtain ⟨ox, od, J⟩ := ha.inst I
  obtain ⟨m, hF⟩ := I.fr
  exact PySem.W.ksp_neg hF I.ok.mod.kin J M.at_ M.fn (own_run (vs := [.ref a]) F ⟨hr, rfl⟩ hb hx I (.cons rfl .nil) q)
/-- repr(x) by an own __repr__ -/
theorem call_ownRepr (M : OwnM X.K C "__repr__" f) (F : FnOk X.prog X.w X.K X.mg X.base CX n f fd ps sp) (hr : Room (n + 1) X.A) (hb : Binds X.K fd ps []) (hx : Passes CX X E) :
    CallR X (.builtin "repr") fun xs H Q => ∃ a, xs = [.ref a] ∧ InsAt H a C ∧ sp [.ref a] H (fun v H' => ∃ t, v = .str t ∧ Q v H') E := by
  intro pins s σ H xs us Q I r h
  obtain ⟨a, rfl, ha, q⟩ := h
  cases r with
  | cons rv rn =>
    cases rn
    cases rv
    obtain ⟨ox, od, J⟩ := ha.inst I
    obtain ⟨m, hF⟩ := I.fr
    have sb : Sub X n X.A.in1 := ⟨hr.in1, rfl⟩
    refine PySem.W.repr_K sb.room.units0 hF I.ok.mod.kin J M.at_ M.fn ?_
    refine wpAny_mono (own_run (vs := [.ref a]) F sb hb hx I (.cons rfl .nil) q) (fun u s' z => ?_) fun _ _ z => z
    obtain ⟨z, H', I', rz, t, rfl, qz⟩ := z
    obtain ⟨tk, rfl⟩ := (show ∃ tk, u = Value.str t tk from rz)
    exact ⟨.str t, H', I', ⟨tk, rfl⟩, qz⟩
/-- x's truth by an own __bool__ -/
theorem tru_own (M : OwnM X.K C "__bool__" f) (F : FnOk X.prog X.w X.K X.mg X.base CX n f fd ps sp) (hr : Room n X.A) (hb : Binds X.K fd ps []) (hx : Passes CX X E) :
    TruR X fun x H Q => ∃ a, x = .ref a ∧ InsAt H a C ∧ sp [.ref a] H (fun v H' => ∃ b, v = .bl b ∧ Q b H') E := by
  intro pins s σ H x v Q I rx h
  obtain ⟨a, rfl, ha, q⟩ := h
  obtain rfl : v = .ref a := rx
  obtain ⟨ox, od, J⟩ := ha.inst I
  obtain ⟨m, hF⟩ := I.fr
  refine PySem.W.truthy_K hF I.ok.mod.kin J M.at_ M.fn ?_
  refine wpAny_mono (own_run (vs := [.ref a]) F ⟨hr, rfl⟩ hb hx I (.cons rfl .nil) q) (fun u s' z => ?_) fun _ _ z => z
  obtain ⟨z, H', I', rz, b, rfl, qz⟩ := z
  obtain rfl : u = Value.bool b := rz
  exact ⟨H', I', qz⟩
end
end L2
namespace PySem.OwnS
open PySem PySem.W PySem.Calls PyProof.Rows
open Builtin Builtin.Str
section
variable {prog : Program} {w : World} {A : Around} {E : Value → Shared → Prop} {s : Shared} {K : Frag} {x C f : Addr} {ox : Obj} {od : Option Obj} {b tb : Value}
/-- an instance of a class that takes != from object -/
theorem ne_body (hu : A.units < cLine) (X : K.In s.heap) (I : InstAt s.heap x ox C od) (hs : findIn K (.ref C) "__eq__" = some (some (.ref f))) (hf : isFn K (.ref f) = true) {Q : Fin → Shared → Prop}
    (h : wpAny (model prog w) A (call (.ref f) [.ref x, b]) (fun v s' => ∃ k, v = .bool k ∧ Q (.done (.ret (.bool (!k)))) s') E s) : wpAny (model prog w) A (Builtin.«object.__ne__» ⟨[.ref x, b], []⟩) Q E s := by
  unfold Builtin.«object.__ne__»
  refine wpAny_bind (wpAny_pure ?_)
  dsimp only
  refine wpAny_bind (wpAny_cRoomFor hu ?_)
  refine wpAny_bind (m := callSpecialIfBound? (.ref x) (Str.ofString "__eq__") [b]) (ifBound_K X I hs hf (wpAny_mono h (fun v s' z => ?_) fun _ _ z => z))
  obtain ⟨k, rfl, q⟩ := z
  exact wpAny_bind (wpAny_truthy_bool (wpAny_pure q))
theorem LO (X : K.In s.heap) (I : InstAt s.heap x ox C od) (ho : subIn K (.ref C) (.type "object") = some true) : Looks (model prog w) s.heap (isInstance (.ref x) (.type "object")) true := I.type.andThen (looks_subIn X ho)
theorem ne_slot (hu : A.units + 1 < cLine) (X : K.In s.heap) (I : InstAt s.heap x ox C od) (ho : subIn K (.ref C) (.type "object") = some true) (hs : findIn K (.ref C) "__eq__" = some (some (.ref f))) (hf : isFn K (.ref f) = true) {Q : Value → Shared → Prop}
    (h : wpAny (model prog w) A.in1 (call (.ref f) [.ref x, b]) (fun v s' => ∃ k, v = .bool k ∧ Q (.bool (!k)) s') E s) : wpAny (model prog w) A (call (.builtin "object.__ne__") [.ref x, b]) Q E s := by
  refine wpAny_call (codeAny_call_builtin (by decide +kernel) F.cmpEntry_ne (@PySem.W.check_slot (model prog w) _ _ s "object.__ne__" "object" "__ne__" (.ref x) [b] [] _ (by decide +kernel) (by decide +kernel) (LO X I ho) (F.cmpArgs_ne _ _) ?_))
  refine ne_body (A := A.in1) hu X I hs hf (wpAny_mono h (fun v s' z => ?_) fun _ _ z => z)
  obtain ⟨k, rfl, q⟩ := z
  exact ⟨k, rfl, q⟩
theorem ne_own (hu : A.units + 1 < cLine) (X : K.In s.heap) (I : InstAt s.heap x ox C od) (hb : Looks (model prog w) s.heap (typeOf b) tb) (hn : notFirst K C tb = true) (ho : subIn K (.ref C) (.type "object") = some true)
    (hne : findIn K (.ref C) "__ne__" = some (some (.builtin "object.__ne__"))) (hs : findIn K (.ref C) "__eq__" = some (some (.ref f))) (hf : isFn K (.ref f) = true) {Q : Value → Shared → Prop}
    (h : wpAny (model prog w) A.in1 (call (.ref f) [.ref x, b]) (fun v s' => ∃ k, v = .bool k ∧ Q (.bool (!k)) s') E s) : wpAny (model prog w) A (richCompare .NotEq (.ref x) b) Q E s := by
  have one : wpAny (model prog w) A (tryCompare (.ref x) "__ne__" b) (fun r s' => ∃ v, r = some v ∧ Q v s') E s := by
    unfold tryCompare callSpecialIfBound? bindSpecialIfBound?
    have fin : wpAny (model prog w) A (call (.builtin "object.__ne__") ([.ref x] ++ [b]) >>= fun v => pure (some v)) (fun r s' => wpAny (model prog w) A (match r with | some .notImplemented | none => pure none | some v => pure (some v)) (fun r s' => ∃ v, r = some v ∧ Q v s') E s') E s := by
      refine wpAny_bind (wpAny_mono (ne_slot hu X I ho hs hf (wpAny_mono h (fun v s' z => ?_) fun _ _ z => z)) (fun v s' z => wpAny_pure z) fun _ _ z => z)
      obtain ⟨k, rfl, q⟩ := z
      exact ⟨k, rfl, wpAny_pure ⟨_, rfl, q⟩⟩
    refine wpAny_bind (wpAny_holding (wpAny_bind (wpAny_bind (wpAny_bind (I.type.here ((looks_findIn X hne).here ?_))))))
    refine wpAny_bind (wpAny_askSetting (wpAny_ite ?_))
    split
    · exact wpAny_bind (wpAny_pure (wpAny_pure fin))
    · exact wpAny_tryCatch (wpAny_bind (wpAny_pure (wpAny_pure fin)))
  unfold richCompare
  simp only [oneThing_ref]
  refine wpAny_holding (wpAny_bind (wpAny_cRoomFor (Nat.lt_of_succ_lt hu) ?_))
  refine wpAny_bind (I.type.here (wpAny_bind (hb.here ?_)))
  split
  · rename_i q
    have e : subIn K tb (.ref C) = some false := by
      rcases Bool.or_eq_true_iff.mp hn with e | e
      · rw [beq_iff_eq.mp e] at q; simp at q
      · exact beq_iff_eq.mp e
    refine wpAny_bind ((looks_subIn X e).here ?_)
    simp only [Bool.false_eq_true, if_false]
    refine wpAny_bind (wpAny_mono one (fun r s' z => ?_) fun _ _ e => e)
    obtain ⟨v, rfl, hq⟩ := z
    exact wpAny_pure hq
  · refine wpAny_bind (wpAny_pure ?_)
    simp only [Bool.false_eq_true, if_false]
    refine wpAny_bind (wpAny_mono one (fun r s' z => ?_) fun _ _ e => e)
    obtain ⟨v, rfl, hq⟩ := z
    exact wpAny_pure hq
/-- str(x) by an own __str__ -/
theorem str_own (hu : A.in1.in1.units < cLine) (X : K.In s.heap) (I : InstAt s.heap x ox C od) (hs : findIn K (.ref C) "__str__" = some (some (.ref f))) (hf : isFn K (.ref f) = true) {Q : Value → Shared → Prop}
    (h : wpAny (model prog w) A.in1.in1 (call (.ref f) [.ref x]) (fun v s' => ∃ y t, v = .str y t ∧ Q v s') E s) : wpAny (model prog w) A (call (.type "str") [.ref x]) Q E s := by
  refine callType_newIn F.called_str (by decide) (F.typeCall_str_1 _) (F.newCall_str_1 _) (fun obj => F.args_object_init_2 obj _) F.entry_str_new
    (S := fun A R s => wpAny (model prog w) A.in1 (Builtin.Str.strOf (.ref x)) (fun r s' => R (.ok (.ret r)) s') (fun e s' => R (.error e) s') s) (.of_wp fun A R s h => ?_) ?_
  · rw [str_new_tree (.ref x)]
    refine wpAny_bind (wpAny_pure ?_)
    refine wpAny_bind (wpAny_of_eq isSubtype_str_str ?_)
    exact wpAny_bind (wpAny_mono h (fun r s' h' => wpAny_pure ⟨_, rfl, h'⟩) fun _ _ e => e)
  · unfold Builtin.Str.strOf
    rw [show isExactStr (.ref x) = false from rfl]
    simp only [Bool.false_eq_true, if_false]
    refine wpAny_bind (wpAny_cRoomFor hu ?_)
    refine wpAny_bind (m := callSpecial? (.ref x) (Str.ofString "__str__")) (special_fn X I hs (beq_iff_eq.mp hf) (wpAny_mono h (fun v s' z => ?_) fun _ _ z => z))
    obtain ⟨y, t, rfl, q⟩ := z
    exact wpAny_pure ⟨typeIs_str _ _ _, q⟩
theorem abs_own (X : K.In s.heap) (I : InstAt s.heap x ox C od) (hs : findIn K (.ref C) "__abs__" = some (some (.ref f))) (hf : isFn K (.ref f) = true) {Q : Value → Shared → Prop}
    (h : wpAny (model prog w) A.in1 (call (.ref f) [.ref x]) Q E s) : wpAny (model prog w) A (call (.builtin "abs") [.ref x]) Q E s := by
  refine Calls.call_function_entry PyProof.Rows.kind_abs PyProof.Rows.plain_abs PyProof.Rows.entry_abs (PyProof.Rows.args_abs _) ?_
  unfold Builtin.«abs»
  refine wpAny_bind (m := oneArg "abs" _) (wpAny_pure ?_)
  refine wpAny_bind (m := callSpecial? (.ref x) (Str.ofString "__abs__")) (special_fn X I hs (beq_iff_eq.mp hf) (wpAny_mono h (fun v s' z => ?_) fun _ _ z => z))
  exact wpAny_pure ⟨_, rfl, z⟩
end
end PySem.OwnS
namespace L2
open PySem PySem.Spec PyProof.Rows
/-- the class of a value, as the heap tells it -/
def TyAt (X : Cx) (H : Hp) (y : V) (tb : Value) : Prop := ∀ (pins : List (Addr × Obj)) (s : Shared) (σ : St) (u : Value), Inv X pins σ H s → RelV y u → PySem.W.Looks (model X.prog X.w) s.heap (typeOf u) tb
section
variable {X : Cx} {CX : CXT} {n : Nat} {C f : Addr} {fd : FuncData} {ps : List Str} {sp : Sp} {E : XK} {H : Hp}
theorem ty_plain {y : V} {T : String} (p : PlainT y T) : TyAt X H y (.type T) := fun _ _ _ u _ r => PySem.W.Looks.of_pure (p u r)
theorem ty_ins {b : Addr} (h : InsAt H b C) : TyAt X H (.ref b) (.ref C) := fun _ _ _ u I r => by
  obtain rfl : u = .ref b := r
  obtain ⟨ox, od, J⟩ := h.inst I
  exact J.type
theorem looks_cls {s : Shared} {a : Addr} {o : Obj} (e : s.heap.get? a = some o) : PySem.W.Looks (model X.prog X.w) s.heap (typeOf (.ref a)) o.cls := fun A Q E s' k q => wpAny_typeOf_ref (k _ _ e) q
theorem ty_lst {a : Addr} {xs : List V} (h : H a = some (.lst xs)) : TyAt X H (.ref a) (.type "list") := fun _ _ _ u I r => by
  obtain rfl : u = .ref a := r
  obtain ⟨_, its, n, _, e⟩ := I.hok a _ h
  exact looks_cls (X := X) e
theorem ty_tup {a : Addr} {xs : List V} (h : H a = some (.tup xs)) : TyAt X H (.ref a) (.type "tuple") := fun _ _ _ u I r => by
  obtain rfl : u = .ref a := r
  obtain ⟨_, its, _, o, e, hc, _⟩ := I.hok a _ h
  have z := looks_cls (X := X) e
  rw [hc] at z
  exact z
theorem ty_dK {a : Addr} {kvs : List (Key × V)} (h : H a = some (.dK kvs)) : TyAt X H (.ref a) (.type "dict") := fun _ _ _ u I r => by
  obtain rfl : u = .ref a := r
  obtain ⟨_, _, ws, _, o, es, ep, e, hx, _⟩ := I.hok a _ h
  have z := looks_cls (X := X) e
  rw [hx.1] at z
  exact z
/-- x == y, x != y: the own __eq__ answers with a truth -/
def rEqOwn (X : Cx) (neg : Bool) (C : Addr) (sp : Sp) (E : XK) : R2 := fun x y H Q => ∃ a tb, x = .ref a ∧ InsAt H a C ∧ TyAt X H y tb ∧ PySem.W.notFirst X.K C tb = true ∧ sp [x, y] H (fun v H' => ∃ k, v = .bl k ∧ Q (.bl (if neg then !k else k)) H') E
theorem op_eqOwn (M : OwnM X.K C "__eq__" f) (F : FnOk X.prog X.w X.K X.mg X.base CX n f fd ps sp) (hr : Room n X.A) (hb : Binds X.K fd ps []) (hx : Passes CX X E) : OpR X (compareOp .Eq) (rEqOwn X false C sp E) := by
  intro pins s σ H x y v u Q I rx ry h
  obtain ⟨a, tb, rfl, ha, ht, hn, q⟩ := h
  obtain rfl : v = .ref a := rx
  obtain ⟨ox, od, J⟩ := ha.inst I
  obtain ⟨m, hF⟩ := I.fr
  show wpAny (model X.prog X.w) X.A (richCompare .Eq (.ref a) u) _ X.xe s
  refine PySem.W.cmp_K (op := .Eq) hr.units0 hF I.ok.mod.kin J (ht pins s σ u I ry) hn M.at_ M.fn ?_
  refine wpAny_mono (own_run (vs := [.ref a, y]) F ⟨hr, rfl⟩ hb hx I (.cons rfl (.cons ry .nil)) q) (fun r s' z => ?_) fun _ _ z => z
  obtain ⟨z, H', I', rz, k, rfl, qz⟩ := z
  obtain rfl : r = .bool k := rz
  exact ⟨.bl k, H', I', rfl, qz⟩
theorem op_neOwn (M : OwnM X.K C "__eq__" f) (hne : PySem.W.findIn X.K (.ref C) "__ne__" = some (some (.builtin "object.__ne__"))) (ho : PySem.W.subIn X.K (.ref C) (.type "object") = some true) (F : FnOk X.prog X.w X.K X.mg X.base CX n f fd ps sp) (hr : Room (n + 1) X.A)
    (hb : Binds X.K fd ps []) (hx : Passes CX X E) : OpR X (compareOp .NotEq) (rEqOwn X true C sp E) := by
  intro pins s σ H x y v u Q I rx ry h
  obtain ⟨a, tb, rfl, ha, ht, hn, q⟩ := h
  obtain rfl : v = .ref a := rx
  obtain ⟨ox, od, J⟩ := ha.inst I
  show wpAny (model X.prog X.w) X.A (richCompare .NotEq (.ref a) u) _ X.xe s
  refine PySem.OwnS.ne_own (by have := hr.units; omega) I.kIn J (ht pins s σ u I ry) hn ho hne M.at_ M.fn ?_
  refine wpAny_mono (own_run (vs := [.ref a, y]) F ⟨hr.in1, rfl⟩ hb hx I (.cons rfl (.cons ry .nil)) q) (fun r s' z => ?_) fun _ _ z => z
  obtain ⟨z, H', I', rz, k, rfl, qz⟩ := z
  obtain rfl : r = .bool k := rz
  exact ⟨k, rfl, .bl (!k), H', I', rfl, qz⟩
/-- str(x), abs(x) -/
theorem call_ownStr (M : OwnM X.K C "__str__" f) (F : FnOk X.prog X.w X.K X.mg X.base CX n f fd ps sp) (hr : Room (n + 2) X.A) (hb : Binds X.K fd ps []) (hx : Passes CX X E) :
    CallR X (.type "str") fun xs H Q => ∃ a, xs = [.ref a] ∧ InsAt H a C ∧ sp [.ref a] H (fun v H' => ∃ t, v = .str t ∧ Q v H') E := by
  intro pins s σ H xs us Q I r h
  obtain ⟨a, rfl, ha, q⟩ := h
  cases r with
  | cons rv rn =>
    cases rn
    cases rv
    obtain ⟨ox, od, J⟩ := ha.inst I
    have hr2 : Room n X.A.in1.in1 := (show Room (n + 1) X.A.in1 from hr.in1).in1
    refine PySem.OwnS.str_own hr2.units0 I.kIn J M.at_ M.fn ?_
    refine wpAny_mono (own_run (vs := [.ref a]) F ⟨hr2, rfl⟩ hb hx I (.cons rfl .nil) q) (fun u s' z => ?_) fun _ _ z => z
    obtain ⟨z, H', I', rz, t, rfl, qz⟩ := z
    obtain ⟨tk, rfl⟩ := (show ∃ tk, u = Value.str t tk from rz)
    exact ⟨t, tk, rfl, .str t, H', I', ⟨tk, rfl⟩, qz⟩
theorem call_ownAbs (M : OwnM X.K C "__abs__" f) (F : FnOk X.prog X.w X.K X.mg X.base CX n f fd ps sp) (hr : Room (n + 1) X.A) (hb : Binds X.K fd ps []) (hx : Passes CX X E) :
    CallR X (.builtin "abs") fun xs H Q => ∃ a, xs = [.ref a] ∧ InsAt H a C ∧ sp [.ref a] H Q E := by
  intro pins s σ H xs us Q I r h
  obtain ⟨a, rfl, ha, q⟩ := h
  cases r with
  | cons rv rn =>
    cases rn
    cases rv
    obtain ⟨ox, od, J⟩ := ha.inst I
    exact PySem.OwnS.abs_own I.kIn J M.at_ M.fn (own_run (vs := [.ref a]) F ⟨hr.in1, rfl⟩ hb hx I (.cons rfl .nil) q)
end
end L2
namespace PySem.OwnS
open PySem PySem.W PySem.Calls PyProof.Rows
section
variable {prog : Program} {w : World} {A : Around} {E : Value → Shared → Prop} {s : Shared} {K : Frag} {x C f : Addr} {ox : Obj} {od : Option Obj} {b : Value} {T : String}
/-- an own operator with a value of a built-in type at the right, its type read off the heap -/
theorem binT {op : Operator} {fo ro : Option Value} {Q : Value → Shared → Prop} (X : K.In s.heap) (I : InstAt s.heap x ox C od) (hb : Looks (model prog w) s.heap (typeOf b) (.type T)) (hc : selfFirst K C = true)
    (hs : findIn K (.ref C) (PySem.dunder op.info.2) = some (some (.ref f))) (hf : isFn K (.ref f) = true) (hr : findIn K (.ref C) (dunderR op.info.2) = some none)
    (h1 : findIn K (.type T) (PySem.dunder op.info.2) = some fo) (h2 : findIn K (.type T) (dunderR op.info.2) = some ro) (hsub : subIn K (.type T) (.ref C) = some false)
    (h : wpAny (model prog w) A (call (.ref f) [.ref x, b]) (PySem.W.CmpBack Q) E s) : wpAny (model prog w) A (binaryOp op (.ref x) b) Q E s := by
  obtain ⟨cd, rest, hcd, hm⟩ := ksp_first hc
  have one := ksp_try X I hs hf h
  rcases hi : op.info with ⟨sym, nm⟩
  rw [hi] at hs hr h1 h2 one
  dsimp only at hs hr h1 h2 one
  obtain ⟨hh, g, d, tt, os⟩ := s
  have A1 : Looks (model prog w) hh (typeOf (.ref x)) (.ref C) := I.type
  have A2 : Looks (model prog w) hh (typeOf b) (.type T) := hb
  have A3 : Looks (model prog w) hh (fillsNumberSlot (.ref C) nm) true := fills_K X hcd hm hs
  have A4 := ksp_fillsT (M := model prog w) X h1 h2
  have A5 : Looks (model prog w) hh (isSubtype (.type T) (.ref C)) false := looks_subIn X hsub
  have A6 : Looks (model prog w) hh (numberSlotInPython (.ref C) nm) true := ksp_inPy X hs hr (.inl rfl)
  have A7 : Looks (model prog w) hh (numberSlotInPython (.type T) nm) false := Looks.of_pure rfl
  have A8 : Looks (model prog w) hh (typeLookup (.type T) (dunderR nm)) ro := looks_findIn X h2
  generalize ((fo.isSome && !isSeqSlot fo) || (ro.isSome && !isSeqSlot ro)) = right at A4
  have hne : (Value.ref C == Value.type T) = false := Bool.eq_false_iff.mpr fun q => by cases beq_iff_eq.mp q
  simp only [binaryOp, hi]
  refine wpAny_holding (wpAny_bind ?_)
  unfold binaryOp1
  refine wpAny_bind (A1.at (wpAny_bind (A2.at (wpAny_bind (A3.at ?_)))))
  simp only [hne, Bool.false_eq_true, if_false]
  cases right <;>
    (ksp_lk
     refine wpAny_mono one (fun r s' z => ?_) fun _ _ e => e
     obtain ⟨v, rfl, hq⟩ := z
     ksp_lk
     exact hq)
end
end PySem.OwnS
namespace L2
open PySem PySem.Spec PyProof.Rows
def rOwnAny (X : Cx) (C : Addr) (nm : String) (sp : Sp) (E : XK) : R2 := fun x y H Q => ∃ a tb, x = .ref a ∧ InsAt H a C ∧ TyAt X H y tb ∧ (tb = .ref C ∨ ∃ T, tb = .type T ∧ RightT X.K C nm T) ∧ sp [x, y] H Q E
theorem op_ownAny {X : Cx} {CX : CXT} {n : Nat} {C f : Addr} {fd : FuncData} {ps : List Str} {sp : Sp} {E : XK} {op : Operator} (M : OwnM X.K C (PySem.dunder op.info.2) f) (hc : PySem.W.selfFirst X.K C = true) (hR : PySem.W.findIn X.K (.ref C) (dunderR op.info.2) = some none)
    (F : FnOk X.prog X.w X.K X.mg X.base CX n f fd ps sp) (hr : Room n X.A) (hb : Binds X.K fd ps []) (hx : Passes CX X E) : OpR X (binaryOp op) (rOwnAny X C op.info.2 sp E) := by
  intro pins s σ H x y v u Q I rx ry h
  obtain ⟨a, tb, rfl, ha, ht, ht2, q⟩ := h
  obtain rfl : v = .ref a := rx
  obtain ⟨ox, od, J⟩ := ha.inst I
  have L := ht pins s σ u I ry
  have go : wpAny (model X.prog X.w) X.A (call (.ref f) [.ref a, u]) (PySem.W.CmpBack (EP X pins σ Q)) X.xe s := by
    refine wpAny_mono (own_run (vs := [.ref a, y]) F ⟨hr, rfl⟩ hb hx I (.cons rfl (.cons ry .nil)) q) (fun r s' z => ?_) fun _ _ z => z
    obtain ⟨z, H', I', rz, qz⟩ := id z
    exact SlX.cmpback rz ⟨z, H', I', rz, qz⟩
  rcases ht2 with rfl | ⟨T, rfl, R⟩
  · obtain ⟨m, hF⟩ := I.fr
    exact PySem.W.binop_K hF I.ok.mod.kin J L hc M.at_ M.fn go
  · obtain ⟨fo, h1⟩ := R.fo
    obtain ⟨ro, h2⟩ := R.ro
    exact PySem.OwnS.binT I.kIn J L hc M.at_ M.fn hR h1 h2 R.no go
end L2
namespace RatM
/-! ### ratios in lowest terms -/
def lowD (t b : Int) : Int := if 0 < b then (Int.gcd t b : Int) else -(Int.gcd t b : Int)
def lowT (t b : Int) : Int := t.fdiv (lowD t b)
def lowB (t b : Int) : Int := b.fdiv (lowD t b)
theorem gcd_pos {t b : Int} (hb : b ≠ 0) : 0 < (Int.gcd t b : Int) := by
  have h : 0 < Int.gcd t b := Nat.pos_of_ne_zero fun z => hb (Int.eq_zero_of_gcd_eq_zero_right z)
  omega
theorem lowD_ne {t b : Int} (hb : b ≠ 0) : lowD t b ≠ 0 := by
  have h := gcd_pos (t := t) hb
  unfold lowD
  split <;> omega
theorem lowD_dvd_t (t b : Int) : lowD t b ∣ t := by
  unfold lowD
  split
  · exact Int.gcd_dvd_left ..
  · exact Int.neg_dvd.mpr (Int.gcd_dvd_left ..)
theorem lowD_dvd_b (t b : Int) : lowD t b ∣ b := by
  unfold lowD
  split
  · exact Int.gcd_dvd_right ..
  · exact Int.neg_dvd.mpr (Int.gcd_dvd_right ..)
theorem lowT_mul {t b : Int} (hb : b ≠ 0) : lowD t b * lowT t b = t := by
  obtain ⟨k, hk⟩ := lowD_dvd_t t b
  have e : lowT t b = k := by
    unfold lowT
    conv => lhs; arg 1; rw [hk]
    exact Int.mul_fdiv_cancel_left k (lowD_ne hb)
  rw [e]
  exact hk.symm
theorem lowB_mul {t b : Int} (hb : b ≠ 0) : lowD t b * lowB t b = b := by
  obtain ⟨k, hk⟩ := lowD_dvd_b t b
  have e : lowB t b = k := by
    unfold lowB
    conv => lhs; arg 1; rw [hk]
    exact Int.mul_fdiv_cancel_left k (lowD_ne hb)
  rw [e]
  exact hk.symm
theorem lowB_pos {t b : Int} (hb : b ≠ 0) : 0 < lowB t b := by
  have m := lowB_mul (t := t) hb
  have g := gcd_pos (t := t) hb
  by_cases c : 0 < b
  · have d : 0 < lowD t b := by unfold lowD; rw [if_pos c]; exact g
    exact Int.pos_of_mul_pos_right (by rw [m]; exact c) d
  · have d : lowD t b < 0 := by unfold lowD; rw [if_neg c]; omega
    have e : (-lowD t b) * lowB t b = -b := by rw [Int.neg_mul, m]
    exact Int.pos_of_mul_pos_right (by rw [e]; omega) (by omega : 0 < -lowD t b)
theorem lowD_abs {t b : Int} : (lowD t b).natAbs = Int.gcd t b := by
  unfold lowD
  split <;> simp
theorem low_gcd {t b : Int} (hb : b ≠ 0) : Int.gcd (lowT t b) (lowB t b) = 1 := by
  have h : Int.gcd (lowD t b * lowT t b) (lowD t b * lowB t b) = (lowD t b).natAbs * Int.gcd (lowT t b) (lowB t b) := Int.gcd_mul_left ..
  rw [lowT_mul hb, lowB_mul hb, lowD_abs] at h
  have g := gcd_pos (t := t) hb
  have g2 : 0 < Int.gcd t b := by omega
  exact Nat.eq_of_mul_eq_mul_left g2 (by rw [Nat.mul_one]; exact h.symm)
theorem lowT_le {t b : Int} (hb : b ≠ 0) : (lowT t b).natAbs ≤ t.natAbs := by
  have m := congrArg Int.natAbs (lowT_mul (t := t) hb)
  rw [Int.natAbs_mul] at m
  have d : 0 < (lowD t b).natAbs := Int.natAbs_pos.mpr (lowD_ne hb)
  rw [← m]
  exact Nat.le_mul_of_pos_left _ d
theorem lowB_le {t b : Int} (hb : b ≠ 0) : (lowB t b).natAbs ≤ b.natAbs := by
  have m := congrArg Int.natAbs (lowB_mul (t := t) hb)
  rw [Int.natAbs_mul] at m
  have d : 0 < (lowD t b).natAbs := Int.natAbs_pos.mpr (lowD_ne hb)
  rw [← m]
  exact Nat.le_mul_of_pos_left _ d
theorem cop_dvd {p q r : Int} (g : Int.gcd p q = 1) (h : q ∣ p * r) : q ∣ r := by
  have h2 : q.natAbs ∣ p.natAbs * r.natAbs := by
    rw [← Int.natAbs_mul]
    exact Int.natAbs_dvd_natAbs.mpr h
  have c : Nat.Coprime q.natAbs p.natAbs := by
    unfold Nat.Coprime
    rw [Nat.gcd_comm]
    exact g
  exact Int.natAbs_dvd_natAbs.mp (Nat.Coprime.dvd_of_dvd_mul_left c h2)
/-- one ratio has one pair -/
theorem low_one {p q p' q' : Int} (hq : 0 < q) (hq' : 0 < q') (g : Int.gcd p q = 1) (g' : Int.gcd p' q' = 1) (e : p * q' = p' * q) : p = p' ∧ q = q' := by
  have d1 : q ∣ q' := by
    have z : q ∣ p * q' := ⟨p', by rw [e, Int.mul_comm]⟩
    exact cop_dvd g z
  have d2 : q' ∣ q := by
    have z : q' ∣ p' * q := ⟨p, by rw [← e, Int.mul_comm]⟩
    exact cop_dvd g' z
  have eq : q = q' := Int.dvd_antisymm (by omega) (by omega) d1 d2
  subst eq
  exact ⟨Int.eq_of_mul_eq_mul_right (by omega) e, rfl⟩
theorem low_self {p q : Int} (hq : 0 < q) (g : Int.gcd p q = 1) : lowT p q = p ∧ lowB p q = q := by
  have e : lowD p q = 1 := by unfold lowD; rw [if_pos hq, g]; rfl
  unfold lowT lowB
  rw [e]
  exact ⟨Int.fdiv_one p, Int.fdiv_one q⟩
/-- what stands in the same proportion has the same pair -/
theorem low_eq {t b t' b' : Int} (hb : b ≠ 0) (hb' : b' ≠ 0) (e : t * b' = t' * b) : lowT t b = lowT t' b' ∧ lowB t b = lowB t' b' := by
  refine low_one (lowB_pos hb) (lowB_pos hb') (low_gcd hb) (low_gcd hb') ?_
  have h1 := lowT_mul (t := t) hb
  have h2 := lowB_mul (t := t) hb
  have h3 := lowT_mul (t := t') hb'
  have h4 := lowB_mul (t := t') hb'
  have d1 := lowD_ne (t := t) hb
  have d2 := lowD_ne (t := t') hb'
  refine Int.eq_of_mul_eq_mul_left (Int.mul_ne_zero d1 d2) ?_
  have e1 : lowD t b * lowD t' b' * (lowT t b * lowB t' b') = (lowD t b * lowT t b) * (lowD t' b' * lowB t' b') := by ac_rfl
  have e2 : lowD t b * lowD t' b' * (lowT t' b' * lowB t b) = (lowD t' b' * lowT t' b') * (lowD t b * lowB t b) := by ac_rfl
  rw [e1, e2, h1, h2, h3, h4]
  exact e
end RatM
namespace L2
open PySem PySem.Spec PyProof.Rows
/-! ### an own error that is raised: its __init__ keeps its parameters ks -/
def spErrN (K : PySem.W.Frag) (ks : List Str) : Sp := fun vs H Q _ => ∃ (e C : Addr) (ws : List V), vs = .ref e :: ws ∧ ws.length = ks.length ∧ OexC K C ∧ (∀ f ∈ ks, PySem.W.findIn K (.ref C) f = some none) ∧
  H e = some (exo e C none) ∧ ∀ H' d, (∀ b o, b ≠ e → H b = some o → H' b = some o) → H d = none → d ≠ e → H' e = some (exo e C (some d)) → H' d = some (exd d (ks.zip ws).reverse) → Q .non H'
/-- what the written part tells of it, and of its __init__ -/
structure ErrN (P : Program) (w : World) (K : PySem.W.Frag) (mg : Str → Option Value) (base : Heap) (x : Str) (C : Addr) (ks : List Str) : Prop where
  ex : ∃ (fI : Addr) (fd : FuncData), PySem.W.findIn K (.ref C) "__init__" = some (some (.ref fI)) ∧ PySem.W.typeIn K (.ref fI) = some (.type "function") ∧ FnOk P w K mg base CX0 1 fI fd ("self" :: ks) (spErrN K ks) ∧ Binds K fd ("self" :: ks) []
  ox : OexC K C
  no : ∀ f ∈ ks, PySem.W.findIn K (.ref C) f = some none
  g : mg x = some (.ref C)
/-- that it is raised is what is wanted: E, with its dict d that is new -/
def Rz (H : Hp) (E : XK) (C : Addr) (fs : List (Str × V)) : Prop := ∀ d H', Same H H' → H d = none → H' d = some (.xd fs) → E (.ref C) (some d) H'
/-- what is asked behind the arguments -/
def RaiseN (K : PySem.W.Frag) (C : Addr) (ks : List Str) (vs : List V) (H1 : Hp) (Q : XK) : Prop := vs.length ≤ 1000 ∧ ∀ a, H1 a = none → spErrN K ks (.ref a :: (vs ++ [])) (upd H1 a (exo a C none))
  (fun v H2 => v = .non ∧ ∃ (d : Addr) (fs : List (Str × V)), H2 a = some (exo a C (some d)) ∧ H2 d = some (exd d fs) ∧ H1 d = none ∧ Q (.ref C) (some d) (upd (del H2 a) d (.xd fs))) (fun _ _ _ => False)
def tRaiseN (K : PySem.W.Frag) (C : Addr) (ks : List Str) (W : WX) (ta : TA) : TS := fun _ σ H => ta σ H fun vs H1 => RaiseN K C ks vs H1 fun c d H' => W c d σ H'
theorem raiseN {P : Program} {w : World} {K : PySem.W.Frag} {mg : Str → Option Value} {base : Heap} {x : Str} {C : Addr} {ks : List Str} (M : ErrN P w K mg base x C ks) {vs : List V} {H1 : Hp} {Q : XK} (hl : vs.length = ks.length) (hk : ks.length ≤ 100)
    (h : Rz H1 Q C (ks.zip vs).reverse) : RaiseN K C ks vs H1 Q := by
  refine ⟨by omega, fun a na => ⟨a, C, vs, by rw [List.append_nil], hl, M.ox, M.no, upd_same, fun H2 d kp nd ne h1 h2 => ⟨rfl, d, _, h1, h2, ?_, h d _ ?_ ?_ upd_same⟩⟩⟩
  · rw [upd_ne ne] at nd
    exact nd
  · intro b o z
    rw [upd_ne ne] at nd
    have hb : b ≠ a := ne_of_none z na
    rw [upd_ne (ne_of_none z nd), del_ne hb]
    exact kp b o hb (by rw [upd_ne hb]; exact z)
  · rw [upd_ne ne] at nd
    exact nd
section
variable {X : Cx} {C : Addr} {ks : List Str} {x : Str} {p pos pos2 : Pos} {e : Expr} {es : List Expr} {ta : TA} {W : WX}
theorem ps_raiseN (hc : X.calm = true) (M : ErrN X.prog X.w X.K X.mg X.base x C ks) (hr : Room 2 X.A) (tk : Takes X W) (hg : Gl X x) (ha : PA X (e :: es) ta)
    (hdb : (x == ("__debug__" : Str)) = false := by decide) (he : starEach (e :: es) X.env = (false, eval e X.env) :: starEach es X.env := by rfl) (hpl : (backTo pos (starEach es X.env)).any (·.1) = false := by rfl) :
    PS X (.Raise (some (.Call (.Name x p) (e :: es) [] pos)) none pos2) (tRaiseN X.K C ks W ta) := by
  obtain ⟨fI, fd, iC, tI, F, b⟩ := M.ex
  exact ps_raise (pos := pos2) hc tk (pmk_oex (p := p) (e := e) (dvs := []) M.ox iC tI F hr b .nil pass0 hg M.g ha hdb he hpl)
end
end L2
namespace L2
open PySem PySem.Spec PyProof.Rows
/-- a truth less a truth -/
theorem op_subBl {X : Cx} : OpR X (binaryOp .Sub) fun x y H Q => ∃ p q, x = .bl p ∧ y = .bl q ∧ Q (.int (b2i p - b2i q)) H := by
  intro pins s σ H x y v u Q I rx ry h
  obtain ⟨p, q, rfl, rfl, z⟩ := h
  obtain rfl : v = .bool p := rx
  obtain rfl : u = .bool q := ry
  exact sub_bool ⟨.int (b2i p - b2i q), H, I.tok _, ⟨_, rfl⟩, z⟩
/-- // by any divisor other than 0 that is not monstrous -/
def CDivZ (_ j : Int) : Prop := j ≠ 0 ∧ j.natAbs.log2 < 9000
theorem op_fdivZ {X : Cx} : OpR X (binaryOp .FloorDiv) (rI CDivZ fun i j => .int (i.fdiv j)) := opI fun _ _ _ _ _ _ _ hc q => floordiv_int hc.1 q (.inl (PyProof.noPylong_of_log2 hc.2))
/-! ### what isinstance tells of a value -/
/-- whether a value is an integer that is no truth -/
def IntIs (K : PySem.W.Frag) (H : Hp) (x : V) (b : Bool) : Prop := ∃ t b1 b2, TyX K H x t ∧ PySem.W.kitOne K t (.type "int") = some b1 ∧ PySem.W.kitOne K t (.type "bool") = some b2 ∧ b = (b1 && !b2)
theorem intIs_int {K : PySem.W.Frag} {H : Hp} (i : Int) : IntIs K H (.int i) true := ⟨.type "int", true, false, .base (.int _), kit_ty (by decide +kernel), kit_ty (by decide +kernel), rfl⟩
theorem intIs_bl {K : PySem.W.Frag} {H : Hp} (b : Bool) : IntIs K H (.bl b) false := ⟨.type "bool", true, true, .base (.bl _), kit_ty (by decide +kernel), kit_ty (by decide +kernel), rfl⟩
theorem intIs_non {K : PySem.W.Frag} {H : Hp} : IntIs K H .non false := ⟨.type "NoneType", false, false, .base .non, kit_ty (by decide +kernel), kit_ty (by decide +kernel), rfl⟩
theorem intIs_str {K : PySem.W.Frag} {H : Hp} (x : Str) : IntIs K H (.str x) false := ⟨.type "str", false, false, .base (.str _), kit_ty (by decide +kernel), kit_ty (by decide +kernel), rfl⟩
end L2
namespace K09
open PySem PySem.Spec PyProof.Rows L2
def top (i : Nat) : Stmt := PySem.Challenge.pw_scaleborn_k09_multiples_are_one_pair.main.body.getD i (.Pass ⟨0, 0, 0, 0⟩)
abbrev FnP (K : PySem.W.Frag) (x : Str) (st : Stmt) (f : Addr) (fd : FuncData) : Prop := FunD K x x (defArgs st) (defBody st) (defScope st) [] [] f fd
abbrev MtP (K : PySem.W.Frag) (m q : Str) (st : Stmt) (f : Addr) (fd : FuncData) : Prop := FunD K m q (defArgs st) (defBody st) (defScope st) [] [] f fd
abbrev iBadRatio : Stmt := inClass (top 4) 0
abbrev iBadText : Stmt := inClass (top 14) 0
section
variable {P : Program} {w : World} {K : PySem.W.Frag} {mg : Str → Option Value} {base : Heap}
theorem mk_BadRatio {C fI : Addr} {fd : FuncData} (F : MtP K "__init__" "BadRatio.__init__" iBadRatio fI fd) (ox : OexC K C) (iC : PySem.W.findIn K (.ref C) "__init__" = some (some (.ref fI))) (tI : PySem.W.typeIn K (.ref fI) = some (.type "function"))
    (no : ∀ f ∈ ([("part" : Str)] : List Str), PySem.W.findIn K (.ref C) f = some none) (g : mg "BadRatio" = some (.ref C)) : ErrN P w K mg base "BadRatio" C ["part"] := by
  have S : FnScope ["self", "part"] ["self", "part"] (defScope iBadRatio) := ⟨rfl, rfl, rfl, by decide +kernel, rfl, by decide +kernel, by decide +kernel⟩
  refine ⟨⟨fI, fd, iC, tI, ?_, F.bindsN (fun _ _ _ _ _ _ us hl => match us, hl with | [_, _], _ => rfl)⟩, ox, no, g⟩
  refine F.ok S (fun vs H Q E h => ?_) (fun cdv A outer s H vs Q E hr h => ?_)
  · obtain ⟨e, C, ws, rfl, hn, _⟩ := h
    rw [List.length_cons, hn]
    rfl
  · obtain ⟨e, C, ws, rfl, hn, T, no, he, k⟩ := h
    match ws, hn with
    | [v0], _ =>
      refine ⟨_, PSs.nox (pss_one (ps_ost (pv 0) (pv 1))), ?_⟩
      refine ⟨_, rfl, _, rfl, e, C, rfl, T, no _ (by simp), .inl ⟨he, fun dx nd ne => ?_⟩⟩
      exact k _ dx (fun b o hb z => by rw [upd_ne hb, upd_ne (ne_of_none z nd)]; exact z) nd ne upd_same (by rw [upd_ne ne]; exact upd_same)
theorem mk_BadText {C fI : Addr} {fd : FuncData} (F : MtP K "__init__" "BadText.__init__" iBadText fI fd) (ox : OexC K C) (iC : PySem.W.findIn K (.ref C) "__init__" = some (some (.ref fI))) (tI : PySem.W.typeIn K (.ref fI) = some (.type "function"))
    (no : ∀ f ∈ ([("line" : Str), ("word" : Str)] : List Str), PySem.W.findIn K (.ref C) f = some none) (g : mg "BadText" = some (.ref C)) : ErrN P w K mg base "BadText" C ["line", "word"] := by
  have S : FnScope ["self", "line", "word"] ["self", "line", "word"] (defScope iBadText) := ⟨rfl, rfl, rfl, by decide +kernel, rfl, by decide +kernel, by decide +kernel⟩
  refine ⟨⟨fI, fd, iC, tI, ?_, F.bindsN (fun _ _ _ _ _ _ us hl => match us, hl with | [_, _, _], _ => rfl)⟩, ox, no, g⟩
  refine F.ok S (fun vs H Q E h => ?_) (fun cdv A outer s H vs Q E hr h => ?_)
  · obtain ⟨e, C, ws, rfl, hn, _⟩ := h
    rw [List.length_cons, hn]
    rfl
  · obtain ⟨e, C, ws, rfl, hn, T, no, he, k⟩ := h
    match ws, hn with
    | [v0, v1], _ =>
      refine ⟨_, PSs.nox (pss_cons (ps_ost (pv 0) (pv 1)) (pss_one (ps_ost (pv 0) (pv 2)))), ?_⟩
      refine ⟨_, rfl, _, rfl, e, C, rfl, T, no _ (by simp), .inl ⟨he, fun dx nd ne => ?_⟩⟩
      refine ⟨_, rfl, _, rfl, e, C, rfl, T, no _ (by simp), .inr ⟨dx, _, upd_same, by rw [upd_ne ne]; exact upd_same, by show 1 ≤ 900; decide, ?_⟩⟩
      refine k _ dx (fun b o hb z => ?_) nd ne (by rw [upd_ne ne.symm]; exact upd_same) upd_same
      rw [upd_ne (ne_of_none z nd), upd_ne hb, upd_ne (ne_of_none z nd)]
      exact z
/-! ### checks -/
def spIsI (K : PySem.W.Frag) : Sp := fun vs H Q _ => ∃ x b, vs = [x] ∧ IntIs K H x b ∧ Q (.bl b) H
theorem scI : FnScope ["value"] ["value"] (defScope (top 19)) := ⟨rfl, rfl, rfl, by decide +kernel, rfl, by decide +kernel, by decide +kernel⟩
theorem ok_isInt {f : Addr} {fd : FuncData} (F : FnP K "is_integer" (top 19) f fd) (bi : mg "isinstance" = none) (bI : mg "int" = none) (bB : mg "bool" = none) : FnOk P w K mg base CX0 1 f fd ["value"] (spIsI K) := by
  refine F.ok scI (fun vs H Q E h => ?_) (fun cdv A outer s H vs Q E hr h => ?_)
  · obtain ⟨x, b, rfl, _⟩ := h
    rfl
  · obtain ⟨x, b, rfl, ⟨t, b1, b2, ty, k1, k2, rfl⟩, q⟩ := h
    refine ⟨_, PSs.nox (pss_one (ps_ret (pe_and (pe_callB call_isi (by rfl) bi (by decide +kernel) (pa_cons (pv 0) (pa_cons (pe_bltn (v := .ty "int") (by rfl) bI (by decide +kernel) rfl) pa_nil)))
      (pe_one (pe_not (pe_callB call_isi (by rfl) bi (by decide +kernel) (pa_cons (pv 0) (pa_cons (pe_bltn (v := .ty "bool") (by rfl) bB (by decide +kernel) rfl) pa_nil)))))))), ?_⟩
    refine ⟨_, rfl, _, _, _, _, _, rfl, .ty "int", ty, k1, _, rfl, ?_⟩
    cases b1 with
    | false => exact iteF q
    | true => exact iteT ⟨_, rfl, _, _, _, _, _, rfl, .ty "bool", ty, k2, _, rfl, q⟩
end
end K09
namespace K09
open PySem PySem.Spec PyProof.Rows L2 RatM
abbrev ratM (i : Nat) : Stmt := inClass (top 34) i
/-- what the written part tells of the class of ratios -/
structure RatC (K : PySem.W.Frag) (C : Addr) : Prop where
  cls : Cls K C
  no : ∀ f ∈ ([("top" : Str), ("bottom" : Str), ("sign" : Str), ("is_whole" : Str), ("below" : Str)] : List Str), NoAttr K C f
/-- the fields of a ratio -/
def ratF (p q : Int) : List (Str × V) := putF "below" (.int (p.fdiv q)) (putF "is_whole" (.bl (decide (V.int q = V.int 1))) (putF "sign" (.int (b2i (decide (0 < p)) - b2i (decide (p < 0)))) (putF "bottom" (.int q) (putF "top" (.int p) []))))
def spRI (K : PySem.W.Frag) (C BR : Addr) : Sp := fun vs H Q E => ∃ (a : Addr) (x y : V), vs = [.ref a, x, y] ∧
  ((∃ (t b : Int) (dx : Addr), x = .int t ∧ y = .int b ∧ b ≠ 0 ∧ t.natAbs < 2 ^ 4000 ∧ b.natAbs < 2 ^ 4000 ∧ H a = some (.ins C dx []) ∧ ∀ H' : Hp, (∀ b, b ≠ a → H' b = H b) → H' a = some (.ins C dx (ratF (lowT t b) (lowB t b))) → Q .non H') ∨
   (IntIs K H x false ∧ Rz H E BR [("part", .str "top")]) ∨ (∃ t, x = .int t ∧ (IntIs K H y false ∨ y = .int 0) ∧ Rz H E BR [("part", .str "bottom")]))
theorem log2_of {i : Int} (h : i.natAbs < 2 ^ 4000) : i.natAbs.log2 < 9000 := Nat.lt_of_lt_of_le (PySem.Flt.log2_lt_of (by decide) h) (by decide)
section
variable {P : Program} {w : World} {K : PySem.W.Frag} {mg : Str → Option Value} {base : Heap} {C BR : Addr}
theorem scRI : FnScope ["self", "top", "bottom", "divisor"] ["self", "top", "bottom"] (defScope (ratM 0)) := ⟨rfl, rfl, rfl, by decide +kernel, rfl, by decide +kernel, by decide +kernel⟩
theorem ok_ratInit {f fI : Addr} {fd fdI : FuncData} {dvs : List V} {kws : List (Str × V)} (F : FunD K "__init__" "Ratio.__init__" (defArgs (ratM 0)) (defBody (ratM 0)) (defScope (ratM 0)) dvs kws f fd) (T : RatC K C) (M : ErrN P w K mg base "BadRatio" BR ["part"])
    (GI : FnOk P w K mg base CX0 1 fI fdI ["value"] (spIsI K)) (bI : Binds K fdI ["value"] []) (kI : PySem.W.keepIn K (.ref fI) = true) (gI : mg "is_integer" = some (.ref fI)) (gG : mg "gcd" = some (.builtin "math.gcd")) :
    FnOk P w K mg base (L2.CX P w) 3 f fd ["self", "top", "bottom"] (spRI K C BR) := by
  refine F.ok scRI (fun vs H Q E h => ?_) (fun cdv A outer s H vs Q E hr h => ?_)
  · obtain ⟨a, x, y, rfl, _⟩ := h
    rfl
  · obtain ⟨a, x, y, rfl, h⟩ := h
    have hr2 : Room 2 _ := hr
    have hr1 : Room 1 _ := hr2.mono (by decide)
    refine ⟨_, pss_cons (ps_if (pt_not (pt_val (pe_call GI hr1 rfl gI kI bI .nil pass0 (pa_cons (pv 1) pa_nil)))) (pss_one (ps_raiseN rfl M hr2 (takes_of rfl rfl rfl rfl) (by rfl) (pa_cons pe_str pa_nil))) pss_nil)
      (pss_cons (ps_if (PW.pt (pw_or (pt_not (pt_val (pe_call GI hr1 rfl gI kI bI .nil pass0 (pa_cons (pv 2) pa_nil)))) (pw_or1 (pt_cmpR op_eq (pv 2) pe_int (nomark _))))) (pss_one (ps_raiseN rfl M hr2 (takes_of rfl rfl rfl rfl) (by rfl) (pa_cons pe_str pa_nil))) pss_nil)
      (pss_cons (ps_set (i := 3) scRI.nd rfl (.inl rfl) (pe_ifExp (pt_cmpR op_gt (pv 2) pe_int (nomark _)) (pe_callBfun cr_gcd (by rfl) gG (pa_cons (pv 1) (pa_cons (pv 2) pa_nil))) (pe_un un_neg (pe_callBfun cr_gcd (by rfl) gG (pa_cons (pv 1) (pa_cons (pv 2) pa_nil))))))
      (pss_cons (ps_fld (pv 0) (pe_op op_fdivZ (pv 1) (pv 3)) (by rfl))
      (pss_cons (ps_fld (pv 0) (pe_op op_fdivZ (pv 2) (pv 3)) (by rfl))
      (pss_cons (ps_fld (pv 0) (pe_op op_subBl (pe_cmpR op_gt (pe_fld (pv 0) rfl) pe_int (nomark _)) (pe_cmpR op_lt (pe_fld (pv 0) rfl) pe_int (nomark _))) (by rfl))
      (pss_cons (ps_fld (pv 0) (pe_cmpR op_eq (pe_fld (pv 0) rfl) pe_int (nomark _)) (by rfl))
      (pss_one (ps_fld (pv 0) (pe_op op_fdivZ (pe_fld (pv 0) rfl) (pe_fld (pv 0) rfl)) (by rfl))))))))), ?_⟩
    rcases h with ⟨t, b, dx, rfl, rfl, hb, ht, hbb, ha, k⟩ | ⟨hx, rz⟩ | ⟨t, rfl, hy, rz⟩
    · refine ⟨_, rfl, _, _, rfl, intIs_int t, true, rfl, iteF ?_⟩
      refine ⟨_, rfl, _, _, rfl, intIs_int b, true, rfl, iteF ⟨_, rfl, rfl, false, congrArg V.bl (decide_eq_false fun z => hb (V.int.inj z)), iteF ?_⟩⟩
      have dn := lowD_ne (t := t) hb
      have dz : (lowD t b).natAbs.log2 < 9000 := by
        refine log2_of ?_
        rw [lowD_abs]
        exact Nat.lt_of_le_of_lt (Nat.gcd_le_right _ (Int.natAbs_pos.mpr hb)) hbb
      refine ⟨_, rfl, _, _, rfl, rfl, _, rfl, ite2 (fun c => ?_) (fun c => ?_)⟩
      case' refine_1 =>
        have eX : ((Nat.gcd t.natAbs b.natAbs : Nat) : Int) = lowD t b := (if_pos (of_decide_eq_true c)).symm
        refine ⟨_, rfl, _, rfl, _, _, rfl, ?_⟩
        rw [eX]
      case' refine_2 =>
        have eX : -((Nat.gcd t.natAbs b.natAbs : Nat) : Int) = lowD t b := (if_neg fun z => c (decide_eq_true z)).symm
        refine ⟨_, rfl, _, rfl, _, _, rfl, _, rfl, ?_⟩
        dsimp only
        rw [eX]
      all_goals
        have nt := T.no "top" (by simp)
        have nb := T.no "bottom" (by simp)
        have ns := T.no "sign" (by simp)
        have ni := T.no "is_whole" (by simp)
        have nl := T.no "below" (by simp)
        have qp := lowB_pos (t := t) hb
        have qz : (lowB t b).natAbs < 2 ^ 4000 := Nat.lt_of_le_of_lt (lowB_le hb) hbb
        refine ⟨_, rfl, _, rfl, _, _, rfl, rfl, ⟨dn, dz⟩, _, rfl, a, C, dx, _, rfl, ha, T.cls, nt, by show 0 < 1000; decide, ?_⟩
        refine ⟨_, rfl, _, rfl, _, _, rfl, rfl, ⟨dn, dz⟩, _, rfl, a, C, dx, _, rfl, upd_same, T.cls, nb, by show 1 < 1000; decide, ?_⟩
        refine ⟨_, rfl, a, C, dx, _, _, rfl, upd_same, T.cls, nt, rfl, _, _, rfl, rfl, ?_⟩
        refine ⟨_, rfl, a, C, dx, _, _, rfl, upd_same, T.cls, nt, rfl, _, _, rfl, rfl, _, _, rfl, rfl, ?_⟩
        refine ⟨_, rfl, a, C, dx, _, rfl, upd_same, T.cls, ns, by show 2 < 1000; decide, ?_⟩
        refine ⟨_, rfl, a, C, dx, _, _, rfl, upd_same, T.cls, nb, rfl, rfl, ?_⟩
        refine ⟨_, rfl, a, C, dx, _, rfl, upd_same, T.cls, ni, by show 3 < 1000; decide, ?_⟩
        refine ⟨_, rfl, a, C, dx, _, _, rfl, upd_same, T.cls, nt, rfl, _, rfl, a, C, dx, _, _, rfl, upd_same, T.cls, nb, rfl, _, _, rfl, rfl, ⟨Int.ne_of_gt qp, log2_of qz⟩, ?_⟩
        refine ⟨_, rfl, a, C, dx, _, rfl, upd_same, T.cls, nl, by show 4 < 1000; decide, ?_⟩
        refine k _ (fun b hb => ?_) upd_same
        rw [upd_ne hb, upd_ne hb, upd_ne hb, upd_ne hb, upd_ne hb]
    · refine ⟨_, rfl, _, _, rfl, hx, false, rfl, iteT ?_⟩
      exact raiseN M rfl (by decide) rz
    · refine ⟨_, rfl, _, _, rfl, intIs_int t, true, rfl, iteF ?_⟩
      rcases hy with hy | rfl
      · refine ⟨_, rfl, _, _, rfl, hy, false, rfl, iteT ?_⟩
        exact raiseN M rfl (by decide) rz
      · refine ⟨_, rfl, _, _, rfl, intIs_int 0, true, rfl, iteF ⟨_, rfl, rfl, true, congrArg V.bl (decide_eq_true rfl), iteT ?_⟩⟩
        exact raiseN M rfl (by decide) rz
end
end K09
namespace K09
open PySem PySem.Spec PyProof.Rows L2 RatM
/-- a ratio p / q stands at a -/
def RatAt (H : Hp) (a C : Addr) (p q : Int) : Prop := ∃ dx, H a = some (.ins C dx (ratF p q))
theorem RatAt.same {H H' : Hp} {a C : Addr} {p q : Int} (h : RatAt H a C p q) (s : Same H H') : RatAt H' a C p q := let ⟨dx, e⟩ := h; ⟨dx, s _ _ e⟩
theorem RatAt.ins {H : Hp} {a C : Addr} {p q : Int} (h : RatAt H a C p q) : InsAt H a C := let ⟨dx, e⟩ := h; ⟨dx, _, e⟩
theorem Rz.same {H H' : Hp} {E : XK} {C : Addr} {fs : List (Str × V)} (h : Rz H E C fs) (s : Same H H') : Rz H' E C fs := fun d H2 s2 nd hd => h d H2 (s.trans s2) (s.free nd) hd
/-- what isinstance asks of the class -/
structure RatI (K : PySem.W.Frag) (C : Addr) : Prop where
  ca : PySem.W.findIn K (.ref C) "__class__" = some (some (.builtin "object.__class__"))
  cn : PySem.W.specialIn K (.builtin "object.__class__") "__get__" = some (some (.builtin "getset_descriptor.__get__"))
  ct : PySem.W.takesIn K (.builtin "object.__class__") = some true
  cm : PySem.W.mroIn K C (.type "object") = some true
  cc : PySem.W.kitOne K (.ref C) (.ref C) = some true
  ci : PySem.W.kitOne K (.ref C) (.type "int") = some false
  cb : PySem.W.kitOne K (.ref C) (.type "bool") = some false
  ic : PySem.W.kitOne K (.type "int") (.ref C) = some false
/-- neither a ratio nor an integer -/
def NotNum (K : PySem.W.Frag) (H : Hp) (C : Addr) (x : V) : Prop := (∃ t, TyX K H x t ∧ PySem.W.kitOne K t (.ref C) = some false) ∧ IntIs K H x false
/-- all that the functions of ratios rest on -/
structure RatK (P : Program) (w : World) (K : PySem.W.Frag) (mg : Str → Option Value) (base : Heap) (C BR : Addr) : Prop where
  T : RatC K C
  I : RatI K C
  M : ErrN P w K mg base "BadRatio" BR ["part"]
  g : mg "Ratio" = some (.ref C)
  bi : mg "isinstance" = none
  int : ∃ (f : Addr) (fd : FuncData), FnOk P w K mg base CX0 1 f fd ["value"] (spIsI K) ∧ Binds K fd ["value"] [] ∧ PySem.W.keepIn K (.ref f) = true ∧ mg "is_integer" = some (.ref f)
  make : ∃ (f : Addr) (fd : FuncData) (ds : List Value), Mk K C f ∧ FnOk P w K mg base (L2.CX P w) 3 f fd ["self", "top", "bottom"] (spRI K C BR) ∧ Binds K fd ["self", "top", "bottom"] [] ∧ Binds K fd ["self", "top", "bottom"] ds ∧ Vals [.int 1] ds
section
variable {K : PySem.W.Frag} {C BR : Addr} {H : Hp}
theorem RatAt.ty {a : Addr} {p q : Int} (h : RatAt H a C p q) (T : RatC K C) (I : RatI K C) : TyX K H (.ref a) (.ref C) := let ⟨_, e⟩ := h; .base (.ins e T.cls I.ca I.cn I.ct I.cm)
theorem RatAt.notInt {a : Addr} {p q : Int} (h : RatAt H a C p q) (T : RatC K C) (I : RatI K C) : IntIs K H (.ref a) false := ⟨.ref C, false, false, h.ty T I, I.ci, I.cb, rfl⟩
/-- Ratio(x, y) -/
def MkR (K : PySem.W.Frag) (C BR : Addr) (x y : V) (H : Hp) (Q : VK) (E : XK) : Prop :=
  (∃ t b : Int, x = .int t ∧ y = .int b ∧ b ≠ 0 ∧ t.natAbs < 2 ^ 4000 ∧ b.natAbs < 2 ^ 4000 ∧ ∀ a H', Same H H' → RatAt H' a C (lowT t b) (lowB t b) → Q (.ref a) H') ∨
  (IntIs K H x false ∧ Rz H E BR [("part", .str "top")]) ∨ (∃ t, x = .int t ∧ (IntIs K H y false ∨ y = .int 0) ∧ Rz H E BR [("part", .str "bottom")])
theorem IntIs.same {H' : Hp} {x : V} {b : Bool} (h : IntIs K H x b) (s : Same H H') : IntIs K H' x b := by
  obtain ⟨t, b1, b2, ty, r⟩ := h
  refine ⟨t, b1, b2, ?_, r⟩
  cases ty with
  | base z =>
    refine .base ?_
    cases z with
    | non => exact .non
    | bl x => exact .bl x
    | int i => exact .int i
    | str x => exact .str x
    | flt x => exact .flt x
    | lst e => exact .lst (s _ _ e)
    | frz e => exact .frz (s _ _ e)
    | tup e => exact .tup (s _ _ e)
    | dK e => exact .dK (s _ _ e)
    | dT e => exact .dT (s _ _ e)
    | ins e a1 a2 a3 a4 a5 => exact .ins (s _ _ e) a1 a2 a3 a4 a5
  | byt b => exact .byt b
  | set e => exact .set (s _ _ e)
  | kList e c => exact .kList e c
  | kTuple e c => exact .kTuple e c
  | kDict e c => exact .kDict e c
  | fTuple e => exact .fTuple (s _ _ e)
  | fDict e => exact .fDict (s _ _ e)
theorem mkR_sp {x y : V} {Q : VK} {E : XK} (h : MkR K C BR x y H Q E) (a dx : Addr) (na : H a = none) (nd : H dx = none) (ne : dx ≠ a) :
    spRI K C BR [.ref a, x, y] (upd (upd H dx (.own a)) a (.ins C dx [])) (fun v H2 => v = .non ∧ Q (.ref a) H2) E := by
  have s1 : Same H (upd (upd H dx (.own a)) a (.ins C dx [])) := fun b o e => by rw [upd_ne (ne_of_none e na), upd_ne (ne_of_none e nd)]; exact e
  refine ⟨a, x, y, rfl, ?_⟩
  rcases h with ⟨t, b, rfl, rfl, hb, h1, h2, k⟩ | ⟨hx, rz⟩ | ⟨t, rfl, hy, rz⟩
  · refine .inl ⟨t, b, dx, rfl, rfl, hb, h1, h2, upd_same, fun H' off at_ => ⟨rfl, k a H' (fun b o e => ?_) ⟨dx, at_⟩⟩⟩
    rw [off b (ne_of_none e na)]
    exact s1 b o e
  · exact .inr (.inl ⟨IntIs.same hx s1, Rz.same rz s1⟩)
  · exact .inr (.inr ⟨t, rfl, hy.imp (fun z => IntIs.same z s1) id, Rz.same rz s1⟩)
end
section
variable {X : Cx} {C BR : Addr} {E : XK} {x : Str} {p pos : Pos} {e1 e2 : Expr} {ta : TA}
def tRat2 (K : PySem.W.Frag) (C BR : Addr) (E : XK) (ta : TA) : TE := fun σ H Q => ta σ H fun vs H1 => ∃ x y, vs = [x, y] ∧ MkR K C BR x y H1 Q E
def tRat1 (K : PySem.W.Frag) (C BR : Addr) (E : XK) (ta : TA) : TE := fun σ H Q => ta σ H fun vs H1 => ∃ x, vs = [x] ∧ MkR K C BR x (.int 1) H1 Q E
theorem pe_rat2 (R : RatK X.prog X.w X.K X.mg X.base C BR) (hr : Room 4 X.A) (hx : Passes (L2.CX X.prog X.w) X E) (hg : Gl X "Ratio") (ha : PA X [e1, e2] ta)
    (he : starEach [e1, e2] X.env = (false, eval e1 X.env) :: starEach [e2] X.env := by rfl) (hpl : (backTo pos (starEach [e2] X.env)).any (·.1) = false := by rfl) :
    PE X (.Call (.Name "Ratio" p) [e1, e2] [] pos) (tRat2 X.K C BR E ta) := by
  obtain ⟨f, fd, ds, M, F, b0, b1, r1⟩ := R.make
  refine ⟨fun pins s σ H Q I h => ?_⟩
  refine wpAny_Call_Name_kw (ld_glob I hg R.g ?_ (by decide))
  refine PySem.W.callWith_K (h₀ := X.base) I.ok.mod.kin M.kp (thn (ha.run pos pins s σ H _ I h) fun us s1 ⟨vs, H1, I1, r, q⟩ => ⟨I1.kIn, ?_⟩) he hpl
  obtain ⟨x, y, rfl, q⟩ := q
  exact run_make (dvs := []) M F hr b0 .nil hx I1 r fun a dx na nd ne => mkR_sp q a dx na nd ne
theorem pe_rat1 (R : RatK X.prog X.w X.K X.mg X.base C BR) (hr : Room 4 X.A) (hx : Passes (L2.CX X.prog X.w) X E) (hg : Gl X "Ratio") (ha : PA X [e1] ta)
    (he : starEach [e1] X.env = (false, eval e1 X.env) :: starEach [] X.env := by rfl) (hpl : (backTo pos (starEach [] X.env)).any (·.1) = false := by rfl) :
    PE X (.Call (.Name "Ratio" p) [e1] [] pos) (tRat1 X.K C BR E ta) := by
  obtain ⟨f, fd, ds, M, F, b0, b1, r1⟩ := R.make
  refine ⟨fun pins s σ H Q I h => ?_⟩
  refine wpAny_Call_Name_kw (ld_glob I hg R.g ?_ (by decide))
  refine PySem.W.callWith_K (h₀ := X.base) I.ok.mod.kin M.kp (thn (ha.run pos pins s σ H _ I h) fun us s1 ⟨vs, H1, I1, r, q⟩ => ⟨I1.kIn, ?_⟩) he hpl
  obtain ⟨x, rfl, q⟩ := q
  exact run_make (dvs := [.int 1]) M F hr b1 r1 hx I1 r fun a dx na nd ne => mkR_sp q a dx na nd ne
end
end K09
namespace K09
open PySem PySem.Spec PyProof.Rows L2 RatM
/-- a ratio or an integer: p / q -/
def NumAt (H : Hp) (C : Addr) (x : V) (p q : Int) : Prop := (∃ a, x = .ref a ∧ RatAt H a C p q) ∨ (x = .int p ∧ q = 1 ∧ p.natAbs < 2 ^ 4000)
theorem NumAt.same {H H' : Hp} {C : Addr} {x : V} {p q : Int} (h : NumAt H C x p q) (s : Same H H') : NumAt H' C x p q := h.imp (fun ⟨a, e, r⟩ => ⟨a, e, r.same s⟩) id
/-- x as a ratio; otherwise BadRatio(part) -/
def AsR (K : PySem.W.Frag) (C BR : Addr) (x : V) (part : Str) (H : Hp) (Q : VK) (E : XK) : Prop :=
  (∃ p q : Int, NumAt H C x p q ∧ ∀ a H', Same H H' → RatAt H' a C p q → Q (.ref a) H') ∨ (NotNum K H C x ∧ Rz H E BR [("part", .str part)])
def spRO (K : PySem.W.Frag) (C BR : Addr) : Sp := fun vs H Q E => ∃ x part, vs = [x, .str part] ∧ AsR K C BR x part H Q E
section
variable {P : Program} {w : World} {K : PySem.W.Frag} {mg : Str → Option Value} {base : Heap} {C BR : Addr}
theorem scRO : FnScope ["value", "part"] ["value", "part"] (defScope (top 36)) := ⟨rfl, rfl, rfl, by decide +kernel, rfl, by decide +kernel, by decide +kernel⟩
theorem ok_ratioOf {f : Addr} {fd : FuncData} (F : FnP K "_ratio_of" (top 36) f fd) (R : RatK P w K mg base C BR) : FnOk P w K mg base (L2.CX P w) 5 f fd ["value", "part"] (spRO K C BR) := by
  obtain ⟨fI, fdI, GI, bI, kI, gI⟩ := R.int
  refine F.ok scRO (fun vs H Q E h => ?_) (fun cdv A outer s H vs Q E hr h => ?_)
  · obtain ⟨x, part, rfl, _⟩ := h
    rfl
  · obtain ⟨x, part, rfl, h⟩ := h
    have hr4 : Room 4 _ := hr
    have hr2 : Room 2 _ := hr4.mono (by decide)
    have hr1 : Room 1 _ := hr4.mono (by decide)
    refine ⟨_, pss_cons (ps_if (pt_val (pe_callB call_isi (by rfl) R.bi (by decide +kernel) (pa_cons (pv 0) (pa_cons (pe_glob (v := .ref _) rfl R.g rfl) pa_nil)))) (pss_one (ps_ret (pv 0))) pss_nil)
      (pss_cons (ps_if (pt_val (pe_call GI hr1 rfl gI kI bI .nil pass0 (pa_cons (pv 0) pa_nil))) (pss_one (ps_ret (pe_rat1 R hr4 (E := E0) passL (by rfl) (pa_cons (pv 0) pa_nil)))) pss_nil)
      (pss_one (ps_raiseN rfl R.M hr2 (takes_of rfl rfl rfl rfl) (by rfl) (pa_cons (pv 1) pa_nil)))), ?_⟩
    rcases h with ⟨p, q, ⟨a, rfl, ha⟩ | ⟨rfl, rfl, hp⟩, k⟩ | ⟨⟨⟨t, ty, kt⟩, hi⟩, rz⟩
    · refine ⟨_, rfl, _, _, _, _, _, rfl, .own C, ha.ty R.T R.I, R.I.cc, _, rfl, iteT ⟨_, rfl, k a H (Same.refl H) ha⟩⟩
    · refine ⟨_, rfl, _, _, _, _, _, rfl, .own C, .base (.int p), R.I.ic, _, rfl, iteF ?_⟩
      refine ⟨_, rfl, _, _, rfl, intIs_int p, _, rfl, iteT ?_⟩
      refine ⟨_, rfl, _, rfl, .inl ⟨p, 1, rfl, rfl, by decide, hp, by decide +kernel, fun a H' s ra => k a H' s ?_⟩⟩
      obtain ⟨e1, e2⟩ := low_self (p := p) (q := 1) (by decide) (Int.gcd_one ..)
      rw [e1, e2] at ra
      exact ra
    · refine ⟨_, rfl, _, _, _, _, _, rfl, .own C, ty, kt, _, rfl, iteF ?_⟩
      refine ⟨_, rfl, _, _, rfl, hi, _, rfl, iteF ?_⟩
      exact ⟨_, rfl, raiseN R.M rfl (by decide) rz⟩
end
end K09
namespace K09
open PySem PySem.Spec PyProof.Rows L2 RatM
/-- what a callee raises goes on through the frame -/
theorem passE {X : Cx} {E : XK} (tk : Takes X fun c d _ H => E c d H) : Passes (L2.CX X.prog X.w) X E := fun _ _ _ _ e s' I c => tk e s' (XE.of_call I (fun _ _ _ h => h) c)
abbrev Sz (p : Int) : Prop := p.natAbs < 2 ^ 1900
theorem sz_mul {p q : Int} (hp : Sz p) (hq : Sz q) : CMulW p q := wide_mul hp hq (by decide) (by decide) (by decide)
theorem sz_prod {p q : Int} (hp : Sz p) (hq : Sz q) : (p * q).natAbs < 2 ^ 3800 := wide_lt hp hq
theorem sz_big {p : Int} (h : p.natAbs < 2 ^ 3800) : p.natAbs < 2 ^ 4000 := Nat.lt_of_lt_of_le h (Nat.pow_le_pow_right (by decide) (by decide))
theorem sz_two {m : Nat} (h : m < 2 ^ 3800 + 2 ^ 3800) : m < 2 ^ 4000 := by
  have e : (2 : Nat) ^ 3800 + 2 ^ 3800 ≤ 2 ^ 4000 := by
    have z : (2 : Nat) ^ 3801 ≤ 2 ^ 4000 := Nat.pow_le_pow_right (by decide) (by decide)
    have y : (2 : Nat) ^ 3801 = 2 ^ 3800 * 2 := Nat.pow_succ ..
    omega
  omega
theorem sz_add {p q : Int} (hp : p.natAbs < 2 ^ 3800) (hq : q.natAbs < 2 ^ 3800) : (p + q).natAbs < 2 ^ 4000 := by
  have h := Int.natAbs_add_le p q
  exact sz_two (by omega)
theorem sz_sub {p q : Int} (hp : p.natAbs < 2 ^ 3800) (hq : q.natAbs < 2 ^ 3800) : (p - q).natAbs < 2 ^ 4000 := by
  have h := Int.natAbs_sub_le p q
  exact sz_two (by omega)
/-- an operator's own method: g tells the top from both pairs -/
def spArith (K : PySem.W.Frag) (C BR : Addr) (g : Int → Int → Int → Int → Int) : Sp := fun vs H Q E => ∃ (a : Addr) (y : V) (p q : Int), vs = [.ref a, y] ∧ RatAt H a C p q ∧ Sz p ∧ Sz q ∧ q ≠ 0 ∧
  ((∃ p' q' : Int, NumAt H C y p' q' ∧ Sz p' ∧ Sz q' ∧ q' ≠ 0 ∧ ∀ a' H', Same H H' → RatAt H' a' C (lowT (g p q p' q') (q * q')) (lowB (g p q p' q') (q * q')) → Q (.ref a') H') ∨ (NotNum K H C y ∧ Rz H E BR [("part", .str "other")]))
section
variable {P : Program} {w : World} {K : PySem.W.Frag} {mg : Str → Option Value} {base : Heap} {C BR : Addr}
/-- the functions that the methods call -/
structure RatF (P : Program) (w : World) (K : PySem.W.Frag) (mg : Str → Option Value) (base : Heap) (C BR : Addr) : Prop extends RatK P w K mg base C BR where
  ro : ∃ (f : Addr) (fd : FuncData), FnOk P w K mg base (L2.CX P w) 5 f fd ["value", "part"] (spRO K C BR) ∧ Binds K fd ["value", "part"] [] ∧ PySem.W.keepIn K (.ref f) = true ∧ mg "_ratio_of" = some (.ref f)
theorem scAdd : FnScope ["self", "other", "right"] ["self", "other"] (defScope (ratM 6)) := ⟨rfl, rfl, rfl, by decide +kernel, rfl, by decide +kernel, by decide +kernel⟩
theorem ok_add {f : Addr} {fd : FuncData} (F : MtP K "__add__" "Ratio.__add__" (ratM 6) f fd) (R : RatF P w K mg base C BR) : FnOk P w K mg base (L2.CX P w) 6 f fd ["self", "other"] (spArith K C BR fun p q p' q' => p * q' + p' * q) := by
  obtain ⟨fO, fdO, GO, bO, kO, gO⟩ := R.ro
  refine F.ok scAdd (fun vs H Q E h => ?_) (fun cdv A outer s H vs Q E hr h => ?_)
  · obtain ⟨a, y, p, q, rfl, _⟩ := h
    rfl
  · obtain ⟨a, y, p, q, rfl, ha, sp, sq, hq, h⟩ := h
    have hr5 : Room 5 _ := hr
    have hr4 : Room 4 _ := hr5.mono (by decide)
    have T := R.T
    have nt := T.no "top" (by simp)
    have nb := T.no "bottom" (by simp)
    refine ⟨_, pss_cons (ps_set (i := 2) scAdd.nd rfl (.inl rfl) (pe_call GO hr5 rfl gO kO bO .nil (passE (takes_of rfl rfl rfl rfl)) (pa_cons (pv 1) (pa_cons pe_str pa_nil))))
      (pss_one (ps_ret (pe_rat2 R.toRatK hr4 (E := E0) passL (by rfl) (pa_cons (pe_op op_add (pe_op op_mulW (pe_fld (pv 0) rfl) (pe_fld (pv 2) rfl)) (pe_op op_mulW (pe_fld (pv 2) rfl) (pe_fld (pv 0) rfl))) (pa_cons (pe_op op_mulW (pe_fld (pv 0) rfl) (pe_fld (pv 2) rfl)) pa_nil))))), ?_⟩
    rcases h with ⟨p', q', hn, sp', sq', hq', k⟩ | ⟨hn, rz⟩
    · refine ⟨_, rfl, _, _, rfl, .inl ⟨p', q', hn, fun b H1 s1 hb => ?_⟩⟩
      obtain ⟨dx, ea⟩ := ha.same s1
      obtain ⟨dx', eb⟩ := hb
      refine ⟨_, rfl, a, C, dx, _, _, rfl, ea, T.cls, nt, rfl, _, rfl, b, C, dx', _, _, rfl, eb, T.cls, nb, rfl, _, _, rfl, rfl, sz_mul sp sq', ?_⟩
      refine ⟨_, rfl, b, C, dx', _, _, rfl, eb, T.cls, nt, rfl, _, rfl, a, C, dx, _, _, rfl, ea, T.cls, nb, rfl, _, _, rfl, rfl, sz_mul sp' sq, _, _, rfl, rfl, ?_⟩
      refine ⟨_, rfl, a, C, dx, _, _, rfl, ea, T.cls, nb, rfl, _, rfl, b, C, dx', _, _, rfl, eb, T.cls, nb, rfl, _, _, rfl, rfl, sz_mul sq sq', ?_⟩
      exact ⟨_, _, rfl, .inl ⟨_, _, rfl, rfl, Int.mul_ne_zero hq hq', sz_add (sz_prod sp sq') (sz_prod sp' sq), sz_big (sz_prod sq sq'), fun a' H' s ra => k a' H' (s1.trans s) ra⟩⟩
    · exact ⟨_, rfl, _, _, rfl, .inr ⟨hn, rz⟩⟩
end
end K09
namespace K09
open PySem PySem.Spec PyProof.Rows L2 RatM
section
variable {P : Program} {w : World} {K : PySem.W.Frag} {mg : Str → Option Value} {base : Heap} {C BR : Addr}
theorem scSub : FnScope ["self", "other", "right"] ["self", "other"] (defScope (ratM 7)) := ⟨rfl, rfl, rfl, by decide +kernel, rfl, by decide +kernel, by decide +kernel⟩
theorem ok_sub {f : Addr} {fd : FuncData} (F : MtP K "__sub__" "Ratio.__sub__" (ratM 7) f fd) (R : RatF P w K mg base C BR) : FnOk P w K mg base (L2.CX P w) 6 f fd ["self", "other"] (spArith K C BR fun p q p' q' => p * q' - p' * q) := by
  obtain ⟨fO, fdO, GO, bO, kO, gO⟩ := R.ro
  refine F.ok scSub (fun vs H Q E h => ?_) (fun cdv A outer s H vs Q E hr h => ?_)
  · obtain ⟨a, y, p, q, rfl, _⟩ := h
    rfl
  · obtain ⟨a, y, p, q, rfl, ha, sp, sq, hq, h⟩ := h
    have hr5 : Room 5 _ := hr
    have hr4 : Room 4 _ := hr5.mono (by decide)
    have T := R.T
    have nt := T.no "top" (by simp)
    have nb := T.no "bottom" (by simp)
    refine ⟨_, pss_cons (ps_set (i := 2) scSub.nd rfl (.inl rfl) (pe_call GO hr5 rfl gO kO bO .nil (passE (takes_of rfl rfl rfl rfl)) (pa_cons (pv 1) (pa_cons pe_str pa_nil))))
      (pss_one (ps_ret (pe_rat2 R.toRatK hr4 (E := E0) passL (by rfl) (pa_cons (pe_op op_sub (pe_op op_mulW (pe_fld (pv 0) rfl) (pe_fld (pv 2) rfl)) (pe_op op_mulW (pe_fld (pv 2) rfl) (pe_fld (pv 0) rfl))) (pa_cons (pe_op op_mulW (pe_fld (pv 0) rfl) (pe_fld (pv 2) rfl)) pa_nil))))), ?_⟩
    rcases h with ⟨p', q', hn, sp', sq', hq', k⟩ | ⟨hn, rz⟩
    · refine ⟨_, rfl, _, _, rfl, .inl ⟨p', q', hn, fun b H1 s1 hb => ?_⟩⟩
      obtain ⟨dx, ea⟩ := ha.same s1
      obtain ⟨dx', eb⟩ := hb
      refine ⟨_, rfl, a, C, dx, _, _, rfl, ea, T.cls, nt, rfl, _, rfl, b, C, dx', _, _, rfl, eb, T.cls, nb, rfl, _, _, rfl, rfl, sz_mul sp sq', ?_⟩
      refine ⟨_, rfl, b, C, dx', _, _, rfl, eb, T.cls, nt, rfl, _, rfl, a, C, dx, _, _, rfl, ea, T.cls, nb, rfl, _, _, rfl, rfl, sz_mul sp' sq, _, _, rfl, rfl, ?_⟩
      refine ⟨_, rfl, a, C, dx, _, _, rfl, ea, T.cls, nb, rfl, _, rfl, b, C, dx', _, _, rfl, eb, T.cls, nb, rfl, _, _, rfl, rfl, sz_mul sq sq', ?_⟩
      exact ⟨_, _, rfl, .inl ⟨_, _, rfl, rfl, Int.mul_ne_zero hq hq', sz_sub (sz_prod sp sq') (sz_prod sp' sq), sz_big (sz_prod sq sq'), fun a' H' s ra => k a' H' (s1.trans s) ra⟩⟩
    · exact ⟨_, rfl, _, _, rfl, .inr ⟨hn, rz⟩⟩
theorem scMul : FnScope ["self", "other", "right"] ["self", "other"] (defScope (ratM 8)) := ⟨rfl, rfl, rfl, by decide +kernel, rfl, by decide +kernel, by decide +kernel⟩
theorem ok_mul {f : Addr} {fd : FuncData} (F : MtP K "__mul__" "Ratio.__mul__" (ratM 8) f fd) (R : RatF P w K mg base C BR) : FnOk P w K mg base (L2.CX P w) 6 f fd ["self", "other"] (spArith K C BR fun p q p' q' => p * p') := by
  obtain ⟨fO, fdO, GO, bO, kO, gO⟩ := R.ro
  refine F.ok scMul (fun vs H Q E h => ?_) (fun cdv A outer s H vs Q E hr h => ?_)
  · obtain ⟨a, y, p, q, rfl, _⟩ := h
    rfl
  · obtain ⟨a, y, p, q, rfl, ha, sp, sq, hq, h⟩ := h
    have hr5 : Room 5 _ := hr
    have hr4 : Room 4 _ := hr5.mono (by decide)
    have T := R.T
    have nt := T.no "top" (by simp)
    have nb := T.no "bottom" (by simp)
    refine ⟨_, pss_cons (ps_set (i := 2) scMul.nd rfl (.inl rfl) (pe_call GO hr5 rfl gO kO bO .nil (passE (takes_of rfl rfl rfl rfl)) (pa_cons (pv 1) (pa_cons pe_str pa_nil))))
      (pss_one (ps_ret (pe_rat2 R.toRatK hr4 (E := E0) passL (by rfl) (pa_cons (pe_op op_mulW (pe_fld (pv 0) rfl) (pe_fld (pv 2) rfl)) (pa_cons (pe_op op_mulW (pe_fld (pv 0) rfl) (pe_fld (pv 2) rfl)) pa_nil))))), ?_⟩
    rcases h with ⟨p', q', hn, sp', sq', hq', k⟩ | ⟨hn, rz⟩
    · refine ⟨_, rfl, _, _, rfl, .inl ⟨p', q', hn, fun b H1 s1 hb => ?_⟩⟩
      obtain ⟨dx, ea⟩ := ha.same s1
      obtain ⟨dx', eb⟩ := hb
      refine ⟨_, rfl, a, C, dx, _, _, rfl, ea, T.cls, nt, rfl, _, rfl, b, C, dx', _, _, rfl, eb, T.cls, nt, rfl, _, _, rfl, rfl, sz_mul sp sp', ?_⟩
      refine ⟨_, rfl, a, C, dx, _, _, rfl, ea, T.cls, nb, rfl, _, rfl, b, C, dx', _, _, rfl, eb, T.cls, nb, rfl, _, _, rfl, rfl, sz_mul sq sq', ?_⟩
      exact ⟨_, _, rfl, .inl ⟨_, _, rfl, rfl, Int.mul_ne_zero hq hq', sz_big (sz_prod sp sp'), sz_big (sz_prod sq sq'), fun a' H' s ra => k a' H' (s1.trans s) ra⟩⟩
    · exact ⟨_, rfl, _, _, rfl, .inr ⟨hn, rz⟩⟩
/-- -r, abs(r) -/
def spSelf (K : PySem.W.Frag) (C : Addr) (g : Int → Int) : Sp := fun vs H Q _ => ∃ (a : Addr) (p q : Int), vs = [.ref a] ∧ RatAt H a C p q ∧ Sz p ∧ Sz q ∧ q ≠ 0 ∧ ∀ a' H', Same H H' → RatAt H' a' C (lowT (g p) q) (lowB (g p) q) → Q (.ref a') H'
theorem sz_up {p : Int} (h : Sz p) : p.natAbs < 2 ^ 4000 := Nat.lt_of_lt_of_le h (Nat.pow_le_pow_right (by decide) (by decide))
theorem scNeg : FnScope ["self"] ["self"] (defScope (ratM 9)) := ⟨rfl, rfl, rfl, by decide +kernel, rfl, by decide +kernel, by decide +kernel⟩
theorem ok_neg {f : Addr} {fd : FuncData} (F : MtP K "__neg__" "Ratio.__neg__" (ratM 9) f fd) (R : RatF P w K mg base C BR) : FnOk P w K mg base (L2.CX P w) 5 f fd ["self"] (spSelf K C fun p => -p) := by
  refine F.ok scNeg (fun vs H Q E h => ?_) (fun cdv A outer s H vs Q E hr h => ?_)
  · obtain ⟨a, p, q, rfl, _⟩ := h
    rfl
  · obtain ⟨a, p, q, rfl, ⟨dx, ea⟩, sp, sq, hq, k⟩ := h
    have hr4 : Room 4 _ := hr
    have T := R.T
    refine ⟨_, pss_one (ps_ret (pe_rat2 R.toRatK hr4 (E := E0) passL (by rfl) (pa_cons (pe_un un_neg (pe_fld (pv 0) rfl)) (pa_cons (pe_fld (pv 0) rfl) pa_nil)))), ?_⟩
    refine ⟨_, rfl, a, C, dx, _, _, rfl, ea, T.cls, T.no "top" (by simp), rfl, _, rfl, _, rfl, a, C, dx, _, _, rfl, ea, T.cls, T.no "bottom" (by simp), rfl, ?_⟩
    exact ⟨_, _, rfl, .inl ⟨_, _, rfl, rfl, hq, by rw [Int.natAbs_neg]; exact sz_up sp, sz_up sq, k⟩⟩
theorem scAbs : FnScope ["self"] ["self"] (defScope (ratM 10)) := ⟨rfl, rfl, rfl, by decide +kernel, rfl, by decide +kernel, by decide +kernel⟩
theorem ok_abs {f : Addr} {fd : FuncData} (F : MtP K "__abs__" "Ratio.__abs__" (ratM 10) f fd) (R : RatF P w K mg base C BR) (ba : mg "abs" = none) : FnOk P w K mg base (L2.CX P w) 5 f fd ["self"] (spSelf K C fun p => if p < 0 then -p else p) := by
  refine F.ok scAbs (fun vs H Q E h => ?_) (fun cdv A outer s H vs Q E hr h => ?_)
  · obtain ⟨a, p, q, rfl, _⟩ := h
    rfl
  · obtain ⟨a, p, q, rfl, ⟨dx, ea⟩, sp, sq, hq, k⟩ := h
    have hr4 : Room 4 _ := hr
    have T := R.T
    refine ⟨_, pss_one (ps_ret (pe_rat2 R.toRatK hr4 (E := E0) passL (by rfl) (pa_cons (pe_callB call_abs (by rfl) ba (by decide +kernel) (pa_cons (pe_fld (pv 0) rfl) pa_nil)) (pa_cons (pe_fld (pv 0) rfl) pa_nil)))), ?_⟩
    refine ⟨_, rfl, a, C, dx, _, _, rfl, ea, T.cls, T.no "top" (by simp), rfl, _, rfl, _, rfl, a, C, dx, _, _, rfl, ea, T.cls, T.no "bottom" (by simp), rfl, ?_⟩
    exact ⟨_, _, rfl, .inl ⟨_, _, rfl, rfl, hq, by split; (· rw [Int.natAbs_neg]; exact sz_up sp); exact sz_up sp, sz_up sq, k⟩⟩
end
end K09
namespace K09
open PySem PySem.Spec PyProof.Rows L2 RatM
theorem decI (i j : Int) : decide (V.int i = V.int j) = decide (i = j) := by
  by_cases h : i = j
  · rw [decide_eq_true h, decide_eq_true (congrArg V.int h)]
  · rw [decide_eq_false h, decide_eq_false fun z => h (V.int.inj z)]
theorem empty_app (x : Str) : Str.empty ++ x = x := by
  obtain ⟨c⟩ := x
  show (⟨#[] ++ c⟩ : Str) = ⟨c⟩
  simp
/-- r == y -/
def spSame (K : PySem.W.Frag) (C : Addr) : Sp := fun vs H Q _ => ∃ (a : Addr) (y : V) (p q : Int), vs = [.ref a, y] ∧ RatAt H a C p q ∧
  ((∃ b p' q', y = .ref b ∧ RatAt H b C p' q' ∧ Q (.bl (decide (p = p') && decide (q = q'))) H) ∨ (∃ i, y = .int i ∧ Q (.bl (decide (q = 1) && decide (p = i))) H) ∨ (NotNum K H C y ∧ Q (.bl false) H))
/-- a ratio's text -/
def textR (p q : Int) : Str := if q = 1 then (toString p : String) else (Str.ofString (toString p) ++ "/") ++ Str.ofString (toString q)
def spText (K : PySem.W.Frag) (C : Addr) : Sp := fun vs H Q _ => ∃ (a : Addr) (p q : Int), vs = [.ref a] ∧ RatAt H a C p q ∧ Sz p ∧ Sz q ∧ Q (.str (textR p q)) H
def spTruth (K : PySem.W.Frag) (C : Addr) : Sp := fun vs H Q _ => ∃ (a : Addr) (p q : Int), vs = [.ref a] ∧ RatAt H a C p q ∧ Q (.bl (decide (p ≠ 0))) H
section
variable {P : Program} {w : World} {K : PySem.W.Frag} {mg : Str → Option Value} {base : Heap} {C BR : Addr}
theorem scSa : FnScope ["ratio", "other"] ["ratio", "other"] (defScope (top 37)) := ⟨rfl, rfl, rfl, by decide +kernel, rfl, by decide +kernel, by decide +kernel⟩
theorem ok_isSame {f : Addr} {fd : FuncData} (F : FnP K "_is_same" (top 37) f fd) (R : RatK P w K mg base C BR) : FnOk P w K mg base CX0 2 f fd ["ratio", "other"] (spSame K C) := by
  obtain ⟨fI, fdI, GI, bI, kI, gI⟩ := R.int
  refine F.ok scSa (fun vs H Q E h => ?_) (fun cdv A outer s H vs Q E hr h => ?_)
  · obtain ⟨a, y, p, q, rfl, _⟩ := h
    rfl
  · obtain ⟨a, y, p, q, rfl, ⟨dx, ea⟩, h⟩ := h
    have hr1 : Room 1 _ := hr
    have T := R.T
    have nt := T.no "top" (by simp)
    have nb := T.no "bottom" (by simp)
    have ni := T.no "is_whole" (by simp)
    refine ⟨_, PSs.nox (pss_cons (ps_if (pt_val (pe_callB call_isi (by rfl) R.bi (by decide +kernel) (pa_cons (pv 1) (pa_cons (pe_glob (v := .ref _) rfl R.g rfl) pa_nil))))
        (pss_one (ps_ret (pe_and (pe_cmpR op_eq (pe_fld (pv 0) rfl) (pe_fld (pv 1) rfl) (nomark _)) (pe_one (pe_cmpR op_eq (pe_fld (pv 0) rfl) (pe_fld (pv 1) rfl) (nomark _)))))) pss_nil)
      (pss_one (ps_ret (pe_and (pe_call GI hr1 rfl gI kI bI .nil pass0 (pa_cons (pv 1) pa_nil)) (pe_and (pe_fld (pv 0) rfl) (pe_one (pe_cmpR op_eq (pe_fld (pv 0) rfl) (pv 1) (nomark _)))))))), ?_⟩
    rcases h with ⟨b, p', q', rfl, hb, k⟩ | ⟨i, rfl, k⟩ | ⟨⟨⟨t, ty, kt⟩, hi⟩, k⟩
    · have tb := hb.ty R.T R.I
      obtain ⟨dx', eb⟩ := hb
      refine ⟨_, rfl, _, _, _, _, _, rfl, .own C, tb, R.I.cc, _, rfl, iteT ?_⟩
      refine ⟨_, rfl, a, C, dx, _, _, rfl, ea, T.cls, nt, rfl, _, rfl, b, C, dx', _, _, rfl, eb, T.cls, nt, rfl, rfl, decide (p = p'), congrArg V.bl (decI ..), ?_⟩
      by_cases e : p = p'
      · rw [decide_eq_true e] at k ⊢
        refine iteT ⟨_, rfl, a, C, dx, _, _, rfl, ea, T.cls, nb, rfl, _, rfl, b, C, dx', _, _, rfl, eb, T.cls, nb, rfl, rfl, ?_⟩
        show Q (.bl (decide (V.int q = V.int q'))) H
        rw [decI]
        exact k
      · rw [decide_eq_false e] at k ⊢
        exact iteF k
    · refine ⟨_, rfl, _, _, _, _, _, rfl, .own C, .base (.int i), R.I.ic, _, rfl, iteF ?_⟩
      refine ⟨_, rfl, _, _, rfl, intIs_int i, _, rfl, iteT ⟨_, rfl, a, C, dx, _, _, rfl, ea, T.cls, ni, rfl, decide (q = 1), congrArg V.bl (decI ..), ?_⟩⟩
      by_cases e : q = 1
      · rw [decide_eq_true e] at k ⊢
        refine iteT ⟨_, rfl, a, C, dx, _, _, rfl, ea, T.cls, nt, rfl, _, rfl, rfl, ?_⟩
        show Q (.bl (decide (V.int p = V.int i))) H
        rw [decI]
        exact k
      · rw [decide_eq_false e] at k ⊢
        exact iteF k
    · refine ⟨_, rfl, _, _, _, _, _, rfl, .own C, ty, kt, _, rfl, iteF ?_⟩
      exact ⟨_, rfl, _, _, rfl, hi, _, rfl, iteF k⟩
theorem scEq : FnScope ["self", "other"] ["self", "other"] (defScope (ratM 12)) := ⟨rfl, rfl, rfl, by decide +kernel, rfl, by decide +kernel, by decide +kernel⟩
theorem ok_eq {f fS : Addr} {fd fdS : FuncData} (F : MtP K "__eq__" "Ratio.__eq__" (ratM 12) f fd) (R : RatK P w K mg base C BR) (FS : FnP K "_is_same" (top 37) fS fdS) (gS : mg "_is_same" = some (.ref fS)) : FnOk P w K mg base CX0 3 f fd ["self", "other"] (spSame K C) := by
  have GS : FnOk P w K mg base CX0 2 fS fdS ["ratio", "other"] (spSame K C) := ok_isSame FS R
  have bS : Binds K fdS ["ratio", "other"] [] := FS.bindsN fun _ _ _ _ _ _ us hl => match us, hl with | [_, _], _ => rfl
  refine F.ok scEq (fun vs H Q E h => ?_) (fun cdv A outer s H vs Q E hr h => ?_)
  · obtain ⟨a, y, p, q, rfl, _⟩ := h
    rfl
  · obtain ⟨a, y, p, q, rfl, h⟩ := h
    have hr2 : Room 2 _ := hr
    exact ⟨_, PSs.nox (pss_one (ps_ret (pe_call GS hr2 rfl gS FS.kp bS .nil pass0 (pa_cons (pv 0) (pa_cons (pv 1) pa_nil))))), _, rfl, _, rfl, a, y, p, q, rfl, h⟩
theorem sign_ne (p : Int) : (b2i (decide (0 < p)) - b2i (decide (p < 0)) != 0) = decide (p ≠ 0) := by
  unfold b2i
  by_cases h1 : 0 < p
  · have h2 : ¬ p < 0 := by omega
    have h3 : p ≠ 0 := by omega
    simp [h1, h2, h3]
  · by_cases h2 : p < 0
    · have h3 : p ≠ 0 := by omega
      simp [h1, h2, h3]
    · have h3 : p = 0 := by omega
      simp [h3]
theorem scBo : FnScope ["self"] ["self"] (defScope (ratM 11)) := ⟨rfl, rfl, rfl, by decide +kernel, rfl, by decide +kernel, by decide +kernel⟩
theorem ok_bool {f : Addr} {fd : FuncData} (F : MtP K "__bool__" "Ratio.__bool__" (ratM 11) f fd) (T : RatC K C) (bb : mg "bool" = none) : FnOk P w K mg base CX0 1 f fd ["self"] (spTruth K C) := by
  refine F.ok scBo (fun vs H Q E h => ?_) (fun cdv A outer s H vs Q E hr h => ?_)
  · obtain ⟨a, p, q, rfl, _⟩ := h
    rfl
  · obtain ⟨a, p, q, rfl, ⟨dx, ea⟩, k⟩ := h
    refine ⟨_, PSs.nox (pss_one (ps_ret (pe_callTy call_bool1 (by rfl) bb PyProof.Rows.boot_bool (pa_cons (pe_fld (pv 0) rfl) pa_nil)))), ?_⟩
    refine ⟨_, rfl, a, C, dx, _, _, rfl, ea, T.cls, T.no "sign" (by simp), rfl, .inl ⟨_, rfl, ?_⟩⟩
    rw [sign_ne]
    exact k
theorem sz_log {p : Int} (h : Sz p) : p.natAbs.log2 < 1920 := Nat.lt_of_lt_of_le (PySem.Flt.log2_lt_of (by decide) h) (by decide)
theorem sz_len {p : Int} (h : Sz p) : (Str.ofString (toString p)).length ≤ 601 := by
  rw [PySem.ofString_length]
  exact int_text_length_le10 (k := 600) (by decide) (Nat.lt_trans h (by decide +kernel))
theorem scWr : FnScope ["ratio"] ["ratio"] (defScope (top 38)) := ⟨rfl, rfl, rfl, by decide +kernel, rfl, by decide +kernel, by decide +kernel⟩
theorem ok_written {f : Addr} {fd : FuncData} (F : FnP K "_written" (top 38) f fd) (T : RatC K C) : FnOk P w K mg base CX0 1 f fd ["ratio"] (spText K C) := by
  refine F.ok scWr (fun vs H Q E h => ?_) (fun cdv A outer s H vs Q E hr h => ?_)
  · obtain ⟨a, p, q, rfl, _⟩ := h
    rfl
  · obtain ⟨a, p, q, rfl, ⟨dx, ea⟩, sp, sq, k⟩ := h
    have nt := T.no "top" (by simp)
    have nb := T.no "bottom" (by simp)
    have ni := T.no "is_whole" (by simp)
    refine ⟨_, PSs.nox (pss_one (ps_ret (pe_ifExp (pt_val (pe_fld (pv 0) rfl)) (pe_joined1 (pe_fmt (pe_fld (pv 0) rfl))) (pe_joined (.cons (pe_fmt (pe_fld (pv 0) rfl)) (.cons pe_str (.cons (pe_fmt (pe_fld (pv 0) rfl)) .nil))))))), ?_⟩
    refine ⟨_, rfl, a, C, dx, _, _, rfl, ea, T.cls, ni, rfl, decide (q = 1), congrArg V.bl (decI ..), ?_⟩
    by_cases e : q = 1
    · rw [decide_eq_true e]
      refine iteT ⟨_, rfl, a, C, dx, _, _, rfl, ea, T.cls, nt, rfl, .inr ⟨p, rfl, sz_log sp, ?_⟩⟩
      have z : textR p q = (toString p : String) := if_pos e
      rw [← z]
      exact k
    · rw [decide_eq_false e]
      refine iteF ?_
      have z : textR p q = (Str.ofString (toString p) ++ "/") ++ Str.ofString (toString q) := if_neg e
      rw [z] at k
      have l1 := sz_len sp
      have l2 := sz_len sq
      have l0 : (Str.empty : Str).length = 0 := rfl
      have ls : (Str.ofString "/").length = 1 := rfl
      refine ⟨_, rfl, a, C, dx, _, _, rfl, ea, T.cls, nt, rfl, .inr ⟨p, rfl, sz_log sp, _, rfl, ?_, _, rfl, ?_, ?_⟩⟩
      · rw [strLen_append, sizeLine_eq]; omega
      · rw [strLen_append, strLen_append, sizeLine_eq]; omega
      · refine ⟨_, rfl, a, C, dx, _, _, rfl, ea, T.cls, nb, rfl, .inr ⟨q, rfl, sz_log sq, _, rfl, ?_, ?_⟩⟩
        · rw [strLen_append, strLen_append, strLen_append, sizeLine_eq]; omega
        · show Q (.str (((Str.empty ++ Str.ofString (toString p)) ++ Str.ofString "/") ++ Str.ofString (toString q))) H
          rw [empty_app]
          exact k
theorem scSt : FnScope ["self"] ["self"] (defScope (ratM 13)) := ⟨rfl, rfl, rfl, by decide +kernel, rfl, by decide +kernel, by decide +kernel⟩
theorem ok_str {f fW : Addr} {fd fdW : FuncData} (F : MtP K "__str__" "Ratio.__str__" (ratM 13) f fd) (T : RatC K C) (FW : FnP K "_written" (top 38) fW fdW) (gW : mg "written_ratios" = some (.ref fW)) (bs : mg "str" = none) : FnOk P w K mg base CX0 2 f fd ["self"] (spText K C) := by
  have GW : FnOk P w K mg base CX0 1 fW fdW ["ratio"] (spText K C) := ok_written FW T
  have bW : Binds K fdW ["ratio"] [] := FW.bindsN fun _ _ _ _ _ _ us hl => match us, hl with | [_], _ => rfl
  refine F.ok scSt (fun vs H Q E h => ?_) (fun cdv A outer s H vs Q E hr h => ?_)
  · obtain ⟨a, p, q, rfl, _⟩ := h
    rfl
  · obtain ⟨a, p, q, rfl, ha, sp, sq, k⟩ := h
    have hr1 : Room 1 _ := hr
    exact ⟨_, PSs.nox (pss_one (ps_ret (pe_callTy SkE.call_str_str (by rfl) bs PyProof.Rows.boot_str (pa_cons (pe_call GW hr1 rfl gW FW.kp bW .nil pass0 (pa_cons (pv 0) pa_nil)) pa_nil)))), _, rfl, a, p, q, rfl, ha, sp, sq, _, rfl, k⟩
theorem scRe : FnScope ["self"] ["self"] (defScope (ratM 14)) := ⟨rfl, rfl, rfl, by decide +kernel, rfl, by decide +kernel, by decide +kernel⟩
theorem ok_repr {f fW : Addr} {fd fdW : FuncData} (F : MtP K "__repr__" "Ratio.__repr__" (ratM 14) f fd) (T : RatC K C) (FW : FnP K "_written" (top 38) fW fdW) (gW : mg "written_ratios" = some (.ref fW)) (bs : mg "str" = none) : FnOk P w K mg base CX0 2 f fd ["self"] (spText K C) := by
  have GW : FnOk P w K mg base CX0 1 fW fdW ["ratio"] (spText K C) := ok_written FW T
  have bW : Binds K fdW ["ratio"] [] := FW.bindsN fun _ _ _ _ _ _ us hl => match us, hl with | [_], _ => rfl
  refine F.ok scRe (fun vs H Q E h => ?_) (fun cdv A outer s H vs Q E hr h => ?_)
  · obtain ⟨a, p, q, rfl, _⟩ := h
    rfl
  · obtain ⟨a, p, q, rfl, ha, sp, sq, k⟩ := h
    have hr1 : Room 1 _ := hr
    exact ⟨_, PSs.nox (pss_one (ps_ret (pe_callTy SkE.call_str_str (by rfl) bs PyProof.Rows.boot_str (pa_cons (pe_call GW hr1 rfl gW FW.kp bW .nil pass0 (pa_cons (pv 0) pa_nil)) pa_nil)))), _, rfl, a, p, q, rfl, ha, sp, sq, _, rfl, k⟩
end
end K09
namespace RatM
theorem lowT_pos {t b : Int} (hb : 0 < b) : decide (0 < lowT t b) = decide (0 < t) ∧ decide (lowT t b < 0) = decide (t < 0) := by
  have m := lowT_mul (t := t) (show b ≠ 0 by omega)
  have d : 0 < lowD t b := by
    unfold lowD
    rw [if_pos hb]
    exact gcd_pos (by omega)
  refine ⟨decide_eq_decide.mpr ⟨fun h => ?_, fun h => ?_⟩, decide_eq_decide.mpr ⟨fun h => ?_, fun h => ?_⟩⟩
  · rw [← m]; exact Int.mul_pos d h
  · rw [← m] at h; exact Int.pos_of_mul_pos_right h d
  · have z : 0 < lowD t b * (-lowT t b) := Int.mul_pos d (by omega)
    rw [Int.mul_neg, m] at z
    omega
  · have z : 0 < lowD t b * (-lowT t b) := by rw [Int.mul_neg, m]; omega
    have y := Int.pos_of_mul_pos_right z d
    omega
end RatM
namespace K09
open PySem PySem.Spec PyProof.Rows L2 RatM
/-- what is neither a ratio nor an integer -/
inductive OddAt (H : Hp) : V → String → Prop where
  | non : OddAt H .non "NoneType"
  | bl (b : Bool) : OddAt H (.bl b) "bool"
  | str (x : Str) : OddAt H (.str x) "str"
  | lst {a : Addr} {xs : List V} (e : H a = some (.lst xs)) : OddAt H (.ref a) "list"
  | tup {a : Addr} {xs : List V} (e : H a = some (.tup xs)) : OddAt H (.ref a) "tuple"
  | dK {a : Addr} {kvs : List (Key × V)} (e : H a = some (.dK kvs)) : OddAt H (.ref a) "dict"
theorem OddAt.same {H H' : Hp} {y : V} {T : String} (h : OddAt H y T) (s : Same H H') : OddAt H' y T := by
  cases h with
  | non => exact .non
  | bl b => exact .bl b
  | str x => exact .str x
  | lst e => exact .lst (s _ _ e)
  | tup e => exact .tup (s _ _ e)
  | dK e => exact .dK (s _ _ e)
def oddTypes : List String := ["NoneType", "bool", "str", "list", "tuple", "dict"]
theorem OddAt.mem {H : Hp} {y : V} {T : String} (h : OddAt H y T) : T ∈ oddTypes := by cases h <;> decide
theorem OddAt.ty {K : PySem.W.Frag} {H : Hp} {y : V} {T : String} (h : OddAt H y T) : TyX K H y (.type T) := by
  cases h with
  | non => exact .base .non
  | bl b => exact .base (.bl b)
  | str x => exact .base (.str x)
  | lst e => exact .base (.lst e)
  | tup e => exact .base (.tup e)
  | dK e => exact .base (.dK e)
theorem OddAt.at_ {X : Cx} {H : Hp} {y : V} {T : String} (h : OddAt H y T) : TyAt X H y (.type T) := by
  cases h with
  | non => exact ty_plain plainT_non
  | bl b => exact ty_plain (plainT_bl b)
  | str x => exact ty_plain (plainT_str x)
  | lst e => exact ty_lst e
  | tup e => exact ty_tup e
  | dK e => exact ty_dK e
theorem OddAt.notNum {K : PySem.W.Frag} {H : Hp} {C : Addr} {y : V} {T : String} (h : OddAt H y T) (k : ∀ T ∈ oddTypes, PySem.W.kitOne K (.type T) (.ref C) = some false) : NotNum K H C y := by
  refine ⟨⟨_, h.ty, k T h.mem⟩, ?_⟩
  have ty := h.ty (K := K)
  cases h with
  | non => exact intIs_non
  | bl b => exact intIs_bl b
  | str x => exact intIs_str x
  | lst e => exact ⟨_, false, false, ty, kit_ty (by decide +kernel), kit_ty (by decide +kernel), rfl⟩
  | tup e => exact ⟨_, false, false, ty, kit_ty (by decide +kernel), kit_ty (by decide +kernel), rfl⟩
  | dK e => exact ⟨_, false, false, ty, kit_ty (by decide +kernel), kit_ty (by decide +kernel), rfl⟩
def sg (x : Int) : Int := b2i (decide (0 < x)) - b2i (decide (x < 0))
/-- what an own operator asks of the class and of the types at its right -/
structure OpF (K : PySem.W.Frag) (C : Addr) (nm : String) (f : Addr) : Prop where
  m : OwnM K C (PySem.dunder nm) f
  r : PySem.W.findIn K (.ref C) (dunderR nm) = some none
  t : ∀ T ∈ "int" :: oddTypes, RightT K C nm T
structure RatG (P : Program) (w : World) (K : PySem.W.Frag) (mg : Str → Option Value) (base : Heap) (C BR : Addr) : Prop extends RatF P w K mg base C BR where
  sf : PySem.W.selfFirst K C = true
  odd : ∀ T ∈ oddTypes, PySem.W.kitOne K (.type T) (.ref C) = some false
  add : ∃ (f : Addr) (fd : FuncData), OpF K C "add" f ∧ FnOk P w K mg base (L2.CX P w) 6 f fd ["self", "other"] (spArith K C BR fun p q p' q' => p * q' + p' * q) ∧ Binds K fd ["self", "other"] []
  sub : ∃ (f : Addr) (fd : FuncData), OpF K C "sub" f ∧ FnOk P w K mg base (L2.CX P w) 6 f fd ["self", "other"] (spArith K C BR fun p q p' q' => p * q' - p' * q) ∧ Binds K fd ["self", "other"] []
  mul : ∃ (f : Addr) (fd : FuncData), OpF K C "mul" f ∧ FnOk P w K mg base (L2.CX P w) 6 f fd ["self", "other"] (spArith K C BR fun p q p' q' => p * p') ∧ Binds K fd ["self", "other"] []
/-- a value at an operator's right -/
def RightV (H : Hp) (C : Addr) (y : V) : Prop := (∃ p q, NumAt H C y p q) ∨ ∃ T, OddAt H y T
/-- r op y, with g told of both pairs: a ratio, or BadRatio('other') -/
def rRat (K : PySem.W.Frag) (C BR : Addr) (g : Int → Int → Int → Int → Int) (E : XK) : R2 := fun x y H Q => ∃ (a : Addr) (p q : Int), x = .ref a ∧ RatAt H a C p q ∧ Sz p ∧ Sz q ∧ q ≠ 0 ∧
  ((∃ p' q' : Int, NumAt H C y p' q' ∧ Sz p' ∧ Sz q' ∧ q' ≠ 0 ∧ ∀ a' H', Same H H' → RatAt H' a' C (lowT (g p q p' q') (q * q')) (lowB (g p q p' q') (q * q')) → Q (.ref a') H') ∨ (∃ T, OddAt H y T ∧ Rz H E BR [("part", .str "other")]))
theorem op_rat {X : Cx} {C BR f : Addr} {fd : FuncData} {E : XK} {op : Operator} {g : Int → Int → Int → Int → Int} (sf : PySem.W.selfFirst X.K C = true) (odd : ∀ T ∈ oddTypes, PySem.W.kitOne X.K (.type T) (.ref C) = some false) (O : OpF X.K C op.info.2 f)
    (F : FnOk X.prog X.w X.K X.mg X.base (L2.CX X.prog X.w) 6 f fd ["self", "other"] (spArith X.K C BR g)) (b : Binds X.K fd ["self", "other"] []) (hr : Room 6 X.A) (hx : Passes (L2.CX X.prog X.w) X E) : OpR X (binaryOp op) (rRat X.K C BR g E) := by
  intro pins s σ H x y v u Q I rx ry h
  obtain ⟨a, p, q, rfl, ha, sp, sq, hq, h⟩ := h
  refine op_ownAny O.m sf O.r F hr b hx pins s σ H _ y v u Q I rx ry ?_
  rcases h with ⟨p', q', hn, sp', sq', hq', k⟩ | ⟨T, ho, rz⟩
  · rcases id hn with ⟨c, rfl, hc⟩ | ⟨rfl, _, _⟩
    · exact ⟨a, _, rfl, ha.ins, ty_ins hc.ins, .inl rfl, a, _, p, q, rfl, ha, sp, sq, hq, .inl ⟨p', q', hn, sp', sq', hq', k⟩⟩
    · exact ⟨a, _, rfl, ha.ins, ty_plain (plainT_int _), .inr ⟨_, rfl, O.t _ List.mem_cons_self⟩, a, _, p, q, rfl, ha, sp, sq, hq, .inl ⟨p', q', hn, sp', sq', hq', k⟩⟩
  · exact ⟨a, _, rfl, ha.ins, ho.at_, .inr ⟨_, rfl, O.t _ (List.mem_cons_of_mem _ ho.mem)⟩, a, _, p, q, rfl, ha, sp, sq, hq, .inr ⟨ho.notNum odd, rz⟩⟩
def spCmp (K : PySem.W.Frag) (C BR : Addr) (r : Int → V) : Sp := fun vs H Q E => ∃ (a : Addr) (y : V) (p q : Int), vs = [.ref a, y] ∧ RatAt H a C p q ∧ Sz p ∧ Sz q ∧ 0 < q ∧
  ((∃ p' q' : Int, NumAt H C y p' q' ∧ Sz p' ∧ Sz q' ∧ 0 < q' ∧ ∀ H', Same H H' → Q (r (sg (p * q' - p' * q))) H') ∨ (∃ T, OddAt H y T ∧ Rz H E BR [("part", .str "other")]))
section
variable {P : Program} {w : World} {K : PySem.W.Frag} {mg : Str → Option Value} {base : Heap} {C BR : Addr}
end
end K09
namespace K09
open PySem PySem.Spec PyProof.Rows L2 RatM
theorem sg_zero (p : Int) : decide (V.int (b2i (decide (0 < p)) - b2i (decide (p < 0))) = V.int 0) = decide (p = 0) := by
  rw [decI]
  refine decide_eq_decide.mpr ?_
  unfold b2i
  by_cases h1 : 0 < p
  · have h2 : ¬ p < 0 := by omega
    simp [h1, h2]; omega
  · by_cases h2 : p < 0
    · simp [h1, h2]; omega
    · have h3 : p = 0 := by omega
      simp [h3]
structure RatHx (P : Program) (w : World) (K : PySem.W.Frag) (mg : Str → Option Value) (base : Heap) (C BR : Addr) : Prop extends RatG P w K mg base C BR where
  cmp : ∃ (f : Addr) (fd : FuncData), Meth K C "compared" f ∧ FnOk P w K mg base (L2.CX P w) 7 f fd ["self", "other"] (spCmp K C BR V.int) ∧ Binds K fd ["self", "other"] []
/-- r.over(y) -/
def spOver (K : PySem.W.Frag) (C BR : Addr) : Sp := fun vs H Q E => ∃ (a : Addr) (y : V) (p q : Int), vs = [.ref a, y] ∧ RatAt H a C p q ∧ Sz p ∧ Sz q ∧ q ≠ 0 ∧
  ((∃ p' q' : Int, NumAt H C y p' q' ∧ Sz p' ∧ Sz q' ∧ q' ≠ 0 ∧ p' ≠ 0 ∧ ∀ a' H', Same H H' → RatAt H' a' C (lowT (p * q') (q * p')) (lowB (p * q') (q * p')) → Q (.ref a') H') ∨
   (∃ q' : Int, NumAt H C y 0 q' ∧ Rz H E BR [("part", .str "other")]) ∨ (∃ T, OddAt H y T ∧ Rz H E BR [("part", .str "other")]))
/-- is_ratio(x) -/
def spIsR (K : PySem.W.Frag) (C : Addr) : Sp := fun vs H Q _ => ∃ (x : V), vs = [x] ∧ ((∃ p q, NumAt H C x p q ∧ Q (.bl true) H) ∨ (∃ T, OddAt H x T ∧ Q (.bl false) H))
section
variable {P : Program} {w : World} {K : PySem.W.Frag} {mg : Str → Option Value} {base : Heap} {C BR : Addr}
theorem lookF (p q : Int) (m : Str) (h : m ∉ ([("top" : Str), "bottom", "sign", "is_whole", "below"] : List Str)) : (ratF p q).lookup m = none := by
  simp only [List.mem_cons, List.not_mem_nil, or_false, not_or] at h
  obtain ⟨h1, h2, h3, h4, h5⟩ := h
  unfold ratF
  rw [lookup_putF, if_neg h5, lookup_putF, if_neg h4, lookup_putF, if_neg h3, lookup_putF, if_neg h2, lookup_putF, if_neg h1]
  rfl
theorem scIR : FnScope ["value"] ["value"] (defScope (top 35)) := ⟨rfl, rfl, rfl, by decide +kernel, rfl, by decide +kernel, by decide +kernel⟩
theorem ok_isRatio {f : Addr} {fd : FuncData} (F : FnP K "is_ratio" (top 35) f fd) (R : RatG P w K mg base C BR) : FnOk P w K mg base CX0 2 f fd ["value"] (spIsR K C) := by
  obtain ⟨fI, fdI, GI, bI, kI, gI⟩ := R.int
  refine F.ok scIR (fun vs H Q E h => ?_) (fun cdv A outer s H vs Q E hr h => ?_)
  · obtain ⟨x, rfl, _⟩ := h
    rfl
  · obtain ⟨x, rfl, h⟩ := h
    have hr1 : Room 1 _ := hr
    refine ⟨_, PSs.nox (pss_one (ps_ret (pe_or (pe_callB call_isi (by rfl) R.bi (by decide +kernel) (pa_cons (pv 0) (pa_cons (pe_glob (v := .ref _) rfl R.g rfl) pa_nil))) (pe_one (pe_call GI hr1 rfl gI kI bI .nil pass0 (pa_cons (pv 0) pa_nil)))))), ?_⟩
    rcases h with ⟨p, q, hn, k⟩ | ⟨T, ho, k⟩
    · rcases hn with ⟨b, rfl, hb⟩ | ⟨rfl, _, _⟩
      · exact ⟨_, rfl, _, _, _, _, _, rfl, .own C, hb.ty R.T R.I, R.I.cc, _, rfl, iteT k⟩
      · exact ⟨_, rfl, _, _, _, _, _, rfl, .own C, .base (.int p), R.I.ic, _, rfl, iteF ⟨_, rfl, _, _, rfl, intIs_int p, k⟩⟩
    · exact ⟨_, rfl, _, _, _, _, _, rfl, .own C, ho.ty, R.odd T ho.mem, _, rfl, iteF ⟨_, rfl, _, _, rfl, (ho.notNum R.odd).2, k⟩⟩
end
end K09
namespace K09
open PySem PySem.Spec PyProof.Rows L2 RatM
def spOf1 (K : PySem.W.Frag) (C BR : Addr) : Sp := fun vs H Q E => ∃ x, vs = [x] ∧ AsR K C BR x "value" H Q E
theorem same_upd {H : Hp} {p : Addr} {o : HO} (h : H p = none) : Same H (upd H p o) := fun b x e => by
  rw [upd_ne (ne_of_none e h)]
  exact e
section
variable {P : Program} {w : World} {K : PySem.W.Frag} {mg : Str → Option Value} {base : Heap} {C BR : Addr}
theorem scOf1 : FnScope ["value"] ["value"] (defScope (ratM 2)) := ⟨rfl, rfl, rfl, by decide +kernel, rfl, by decide +kernel, by decide +kernel⟩
/-- Ratio.of(x) -/
theorem ok_of1 {f : Addr} {fd : FuncData} (F : MtP K "of" "Ratio.of" (ratM 2) f fd) (R : RatF P w K mg base C BR) : FnOk P w K mg base (L2.CX P w) 6 f fd ["value"] (spOf1 K C BR) := by
  obtain ⟨fO, fdO, GO, bO, kO, gO⟩ := R.ro
  refine F.ok scOf1 (fun vs H Q E h => ?_) (fun cdv A outer s H vs Q E hr h => ?_)
  · obtain ⟨x, rfl, _⟩ := h
    rfl
  · obtain ⟨x, rfl, h⟩ := h
    have hr5 : Room 5 _ := hr
    refine ⟨_, pss_one (ps_ret (pe_call GO hr5 rfl gO kO bO .nil (passE (takes_of rfl rfl rfl rfl)) (pa_cons (pv 0) (pa_cons pe_str pa_nil)))), ?_⟩
    exact ⟨_, rfl, _, _, rfl, h⟩
/-! ### is_list -/
def spLs (K : PySem.W.Frag) : Sp := fun vs H Q _ => ∃ x t b, vs = [x] ∧ TyX K H x t ∧ PySem.W.kitAny K t [.type "list", .type "tuple"] = some b ∧ ∀ H', Same H H' → Q (.bl b) H'
theorem scLs : FnScope ["value"] ["value"] (defScope (top 22)) := ⟨rfl, rfl, rfl, by decide +kernel, rfl, by decide +kernel, by decide +kernel⟩
theorem tyX_upd {H : Hp} {x : V} {t : Value} {p : Addr} {o : HO} (h : TyX K H x t) (n : H p = none) : TyX K (upd H p o) x t := by
  have s := same_upd (o := o) n
  cases h with
  | base z =>
    refine .base ?_
    cases z with
    | non => exact .non
    | bl x => exact .bl x
    | int i => exact .int i
    | str x => exact .str x
    | flt x => exact .flt x
    | lst e => exact .lst (s _ _ e)
    | frz e => exact .frz (s _ _ e)
    | tup e => exact .tup (s _ _ e)
    | dK e => exact .dK (s _ _ e)
    | dT e => exact .dT (s _ _ e)
    | ins e a1 a2 a3 a4 a5 => exact .ins (s _ _ e) a1 a2 a3 a4 a5
  | byt y => exact .byt y
  | set e => exact .set (s _ _ e)
  | kList e c => exact .kList e c
  | kTuple e c => exact .kTuple e c
  | kDict e c => exact .kDict e c
  | fTuple e => exact .fTuple (s _ _ e)
  | fDict e => exact .fDict (s _ _ e)
theorem ok_isList {f : Addr} {fd : FuncData} (F : FnP K "is_list" (top 22) f fd) (bi : mg "isinstance" = none) (bL : mg "list" = none) (bT : mg "tuple" = none) : FnOk P w K mg base CX0 1 f fd ["value"] (spLs K) := by
  refine F.ok scLs (fun vs H Q E h => ?_) (fun cdv A outer s H vs Q E hr h => ?_)
  · obtain ⟨x, t, b, rfl, _⟩ := h
    rfl
  · obtain ⟨x, t, b, rfl, ty, k, q⟩ := h
    refine ⟨_, PSs.nox (pss_one (ps_ret (pe_callB call_isiT (by rfl) bi (by decide +kernel) (pa_cons (pv 0) (pa_cons (pe_tup (pa_cons (pe_bltn (v := .ty "list") (by rfl) bL (by decide +kernel) rfl) (pa_cons (pe_bltn (v := .ty "tuple") (by rfl) bT (by decide +kernel) rfl) pa_nil))) pa_nil))))), ?_⟩
    exact ⟨_, rfl, by rw [sizeLine_eq]; show 2 ≤ 16777216; decide, fun p n => ⟨x, p, _, t, _, b, rfl, upd_same, .cons (.ty "list") (.cons (.ty "tuple") .nil), tyX_upd ty n, k, q _ (same_upd n)⟩⟩
end
end K09
namespace K09
open PySem PySem.Spec PyProof.Rows L2 RatM TL
def letS : Str := "abcdefghijklmnopqrstuvwxyz"
def sigS : Str := "0123456789abcdefghijklmnopqrstuvwxyz"
def nameT (l : List Nat) : Bool := decide (1 ≤ l.length) && (decide (l.length ≤ 12) && ((match l with | [] => false | c :: _ => decide (c ∈ letS.cps.toList)) && l.all fun c => decide (c ∈ sigS.cps.toList)))
def spNm (K : PySem.W.Frag) : Sp := fun vs H Q _ => ∃ x, vs = [x] ∧
  ((∃ w, x = .str w ∧ w.length ≤ 100000 ∧ ∀ H', Same H H' → Q (.bl (nameT w.cps.toList)) H') ∨ (∃ t, TyX K H x t ∧ PySem.W.kitOne K t (.type "str") = some false ∧ Q (.bl false) H))
structure NmG (mg : Str → Option Value) : Prop where
  isi : mg "isinstance" = none
  str : mg "str" = none
  len : mg "len" = none
  all : mg "all" = none
  lo : ∃ t, mg "_LONGEST" = some (.int 12 t)
  le : ∃ t, mg "_LETTERS" = some (.str letS t)
  si : ∃ t, mg "_SIGNS" = some (.str sigS t)
section
variable {P : Program} {w : World} {K : PySem.W.Frag} {mg : Str → Option Value} {base : Heap}
theorem scNm : FnScope ["value", "sign"] ["value"] (defScope (top 21)) := ⟨rfl, rfl, rfl, by decide +kernel, rfl, by decide +kernel, by decide +kernel⟩
theorem ok_isName {f : Addr} {fd : FuncData} (F : FnP K "is_name" (top 21) f fd) (G : NmG mg) : FnOk P w K mg base CX0 1 f fd ["value"] (spNm K) := by
  obtain ⟨t1, hLo⟩ := G.lo
  obtain ⟨t2, hLe⟩ := G.le
  obtain ⟨t3, hSi⟩ := G.si
  refine F.ok scNm (fun vs H Q E h => ?_) (fun cdv A outer s H vs Q E hr h => ?_)
  · obtain ⟨x, rfl, _⟩ := h
    rfl
  · obtain ⟨x, rfl, h⟩ := h
    refine ⟨_, PSs.nox (pss_cons (ps_if (PW.pt (pw_or (pt_not (pt_val (pe_callB call_isi (by rfl) G.isi (by decide +kernel) (pa_cons (pv 0) (pa_cons (pe_bltn (v := .ty "str") (by rfl) G.str (by decide +kernel) rfl) pa_nil))))) (pw_or1 (pt_not (pt_chain op_le op_le pe_int (pe_callB call_len (by rfl) G.len PySem.boot_len (pa_cons (pv 0) pa_nil)) (pe_glob (v := .int 12) rfl hLo ⟨_, rfl⟩)))))) (pss_one (ps_ret pe_bl)) pss_nil)
      (pss_one (ps_ret (pe_and (pe_cmpR op_in_sign (pe_ix ix_str (pv 0) pe_int (fun _ _ => rfl)) (pe_glob (v := .str letS) rfl hLe ⟨_, rfl⟩) rfl)
        (pe_one (pe_callB (cr_all rfl) (by rfl) G.all (by decide +kernel) (pa_cons (pe_lc (own := [("sign", 1)]) (g := gName 1) (tt := tYes) rfl scNm.nd (pi_str (pv 0)) (blkOk_by (N := ["value", "sign"]) (sc := defScope (top 21)) (by decide +kernel)) (fun _ _ _ _ _ => pg_name (i := 1) scNm.nd rfl (Or.inl rfl)) (fun _ _ _ _ _ => pts_nil) (fun _ _ _ _ _ => pe_cmpR op_in_sign (pv 1) (pe_glob (v := .str sigS) rfl hSi ⟨_, rfl⟩) rfl)) pa_nil))))))), ?_⟩
    rcases h with ⟨w, rfl, hz, k⟩ | ⟨t, ty, kk, q⟩
    · have lw : w.length = w.cps.toList.length := by simp [Str.length]
      refine ⟨_, rfl, _, _, _, _, _, rfl, .ty "str", .base (.str w), kit_ty (by decide +kernel), true, rfl, iteF ?_⟩
      refine ⟨_, rfl, .str w, w.length, rfl, ⟨by rw [sizeLine_eq]; omega, rfl⟩, _, _, rfl, rfl, decide ((1 : Int) ≤ (w.length : Nat)), rfl, ?_⟩
      generalize hl : w.cps.toList = l at k lw
      by_cases c1 : 1 ≤ l.length
      · rw [decide_eq_true (show (1 : Int) ≤ (w.length : Nat) by omega)]
        refine iteT ⟨_, _, rfl, rfl, decide ((w.length : Nat) ≤ (12 : Int)), rfl, ?_⟩
        by_cases c2 : l.length ≤ 12
        · rw [decide_eq_true (show ((w.length : Nat) : Int) ≤ 12 by omega)]
          refine iteF ?_
          dsimp only [tNext]
          obtain ⟨c0, r, e0⟩ : ∃ c0 r, l = c0 :: r := by
            cases l with
            | nil => cases c1
            | cons c r => exact ⟨c, r, rfl⟩
          have at0 : atI w.cps.toList 0 = some c0 := by rw [hl, e0]; exact atI_nat (show (c0 :: r)[0]? = some c0 from rfl)
          have kn : nameT l = (decide (c0 ∈ letS.cps.toList) && l.all fun c => decide (c ∈ sigS.cps.toList)) := by
            unfold nameT
            rw [decide_eq_true c1, decide_eq_true c2, e0, Bool.true_and, Bool.true_and]
          rw [kn] at k
          refine ⟨_, rfl, w, 0, c0, rfl, rfl, by rw [sizeLine_eq]; omega, at0, c0, letS, rfl, rfl, decide (c0 ∈ letS.cps.toList), rfl, ?_⟩
          by_cases c3 : c0 ∈ letS.cps.toList
          · rw [decide_eq_true c3] at k ⊢
            rw [Bool.true_and] at k
            refine iteT ⟨_, rfl, w, rfl, fun D nD => ?_⟩
            refine ⟨fun i m Hh => i ≤ l.length ∧ m = l.length - i ∧ Same H Hh ∧ Hh D = some (.lst (((l.take i).map fun c => decide (c ∈ sigS.cps.toList)).map V.bl)), ⟨_, Nat.zero_le _, rfl, same_upd nD, upd_same⟩, fun i m Hh hW => ?_⟩
            obtain ⟨hi, hm, sH, hD⟩ := hW
            have sz : w.cps.size = l.length := by rw [← hl]; simp
            by_cases ci : i < l.length
            · refine .inr ⟨(by show i < w.cps.size; omega), fun H' => ∃ m', m' < m ∧ i + 1 ≤ l.length ∧ m' = l.length - (i + 1) ∧ Same H H' ∧ H' D = some (.lst (((l.take (i + 1)).map fun c => decide (c ∈ sigS.cps.toList)).map V.bl)), fun H' z => z, fun x H' hy => ?_⟩
              obtain ⟨rfl, c, hc, rfl⟩ := hy
              have hc2 : l[i]? = some c := by rw [← hl]; simpa using hc
              refine ⟨rfl, ?_⟩
              unfold tYes
              dsimp only
              rw [if_pos rfl]
              refine ⟨_, rfl, c, sigS, rfl, rfl, _, hD, ?_, l.length - (i + 1), by omega, ci, rfl, fun b o e => ?_, ?_⟩
              · simp only [List.length_map, List.length_take]
                rw [sizeLine_eq]; omega
              · rw [upd_ne (ne_of_none e nD)]; exact sH b o e
              · rw [upd_same, List.take_add_one, hc2]
                simp
            · refine .inl ⟨(by show w.cps.size ≤ i; omega), ?_⟩
              rw [List.take_of_length_le (show l.length ≤ i by omega)] at hD
              refine ⟨D, _, rfl, SqL.of hD, ?_⟩
              have z := k Hh sH
              rw [show (List.map (fun c => decide (c ∈ sigS.cps.toList)) l).all id = l.all fun c => decide (c ∈ sigS.cps.toList) by rw [List.all_map]; rfl]
              exact z
          · rw [decide_eq_false c3] at k ⊢
            rw [Bool.false_and] at k
            exact iteF (k _ (Same.refl _))
        · rw [decide_eq_false (show ¬ ((w.length : Nat) : Int) ≤ 12 by omega)]
          have kn : nameT l = false := by
            unfold nameT
            rw [decide_eq_false c2, Bool.false_and, Bool.and_false]
          rw [kn] at k
          exact iteT (k _ (Same.refl _))
      · rw [decide_eq_false (show ¬ (1 : Int) ≤ (w.length : Nat) by omega)]
        have kn : nameT l = false := by
          unfold nameT
          rw [decide_eq_false c1, Bool.false_and]
        rw [kn] at k
        exact iteF ⟨false, rfl, iteT (k _ (Same.refl _))⟩
    · exact ⟨_, rfl, _, _, _, _, _, rfl, .ty "str", ty, kk, false, rfl, iteT q⟩
end
end K09
namespace K09
open PySem PySem.Spec PyProof.Rows L2 RatM TL
/-- is_name(x) is b -/
def NmIs (K : PySem.W.Frag) (H : Hp) (x : V) (b : Bool) : Prop := (∃ w, x = .str w ∧ w.length ≤ 100000 ∧ b = nameT w.cps.toList) ∨ (∃ t, TyX K H x t ∧ PySem.W.kitOne K t (.type "str") = some false ∧ b = false)
theorem tyX_same {K : PySem.W.Frag} {H H' : Hp} {x : V} {t : Value} (h : TyX K H x t) (s : Same H H') : TyX K H' x t := by
  cases h with
  | base z =>
    refine .base ?_
    cases z with
    | non => exact .non
    | bl x => exact .bl x
    | int i => exact .int i
    | str x => exact .str x
    | flt x => exact .flt x
    | lst e => exact .lst (s _ _ e)
    | frz e => exact .frz (s _ _ e)
    | tup e => exact .tup (s _ _ e)
    | dK e => exact .dK (s _ _ e)
    | dT e => exact .dT (s _ _ e)
    | ins e a1 a2 a3 a4 a5 => exact .ins (s _ _ e) a1 a2 a3 a4 a5
  | byt y => exact .byt y
  | set e => exact .set (s _ _ e)
  | kList e c => exact .kList e c
  | kTuple e c => exact .kTuple e c
  | kDict e c => exact .kDict e c
  | fTuple e => exact .fTuple (s _ _ e)
  | fDict e => exact .fDict (s _ _ e)
theorem NmIs.same {K : PySem.W.Frag} {H H' : Hp} {x : V} {b : Bool} (h : NmIs K H x b) (s : Same H H') : NmIs K H' x b := h.imp id fun ⟨t, ty, k, e⟩ => ⟨t, tyX_same ty s, k, e⟩
theorem NmIs.sp {K : PySem.W.Frag} {H : Hp} {x : V} {b : Bool} {Q : VK} {E : XK} (h : NmIs K H x b) (q : ∀ H', Same H H' → Q (.bl b) H') : spNm K [x] H Q E := by
  rcases h with ⟨w, rfl, l, rfl⟩ | ⟨t, ty, k, rfl⟩
  · exact ⟨_, rfl, .inl ⟨w, rfl, l, q⟩⟩
  · exact ⟨_, rfl, .inr ⟨t, ty, k, q _ (Same.refl _)⟩⟩
def spNms (K : PySem.W.Frag) : Sp := fun vs H Q _ => ∃ x, vs = [x] ∧
  ((∃ (a : Addr) (xs : List V) (bs : List Bool), x = .ref a ∧ (H a = some (.lst xs) ∨ H a = some (.tup xs)) ∧ xs.length ≤ 1000 ∧ bs.length = xs.length ∧ (∀ (i : Nat) x b, xs[i]? = some x → bs[i]? = some b → NmIs K H x b) ∧ ∀ H', Same H H' → Q (.bl (bs.all id)) H') ∨
   (∃ t, TyX K H x t ∧ PySem.W.kitAny K t [.type "list", .type "tuple"] = some false ∧ ∀ H', Same H H' → Q (.bl false) H'))
section
variable {P : Program} {w : World} {K : PySem.W.Frag} {mg : Str → Option Value} {base : Heap}
theorem any_ty {a b c : String} {x y : Bool} (h1 : PySem.W.kitOne K (.type a) (.type b) = some x) (h2 : PySem.W.kitOne K (.type a) (.type c) = some y) : PySem.W.kitAny K (.type a) [.type b, .type c] = some (x || y) := by
  simp only [PySem.W.kitAny, h1, h2]
  cases x <;> cases y <;> rfl
/-- the turns over the items, list or tuple -/
theorem nm_turn {H H1 Hh : Hp} {D : Addr} {σ : L2.St} {xs : List V} {bs : List Bool} {i : Nat} {x : V} (hσ : σ.length = 2) (lb : bs.length = xs.length) (lx : xs.length ≤ 1000) (hn : ∀ (i : Nat) x b, xs[i]? = some x → bs[i]? = some b → NmIs K H x b) (s1 : Same H H1) (nD : H1 D = none)
    (hx : xs[i]? = some x) (hP : Same H1 Hh ∧ Hh D = some (.lst ((bs.take i).map V.bl))) :
    gName 1 x (wipe σ [1]) Hh fun σ2 H2 => wipe σ2 [1] = wipe σ [1] ∧ tYes σ2 H2 fun b H3 => if b = true then tCall (spNm K) [] E0 (tCons (tVar 1) tNil) σ2 H3 fun y H4 => ∃ acc, H4 D = some (.lst acc) ∧ acc.length < sizeLine ∧ (Same H1 (upd H4 D (.lst (acc ++ [y]))) ∧ upd H4 D (.lst (acc ++ [y])) D = some (.lst ((bs.take (i + 1)).map V.bl))) else (Same H1 H3 ∧ H3 D = some (.lst ((bs.take (i + 1)).map V.bl))) := by
  obtain ⟨s2, hD⟩ := hP
  have li : i < xs.length := (List.getElem?_eq_some_iff.mp hx).1
  obtain ⟨b, hb⟩ : ∃ b, bs[i]? = some b := ⟨bs[i]'(by omega), List.getElem?_eq_getElem (by omega)⟩
  obtain ⟨a0, a1, rfl⟩ : ∃ a0 a1, σ = [a0, a1] := by
    match σ, hσ with
    | [a0, a1], _ => exact ⟨a0, a1, rfl⟩
  refine ⟨rfl, ?_⟩
  unfold tYes
  dsimp only
  rw [if_pos rfl]
  refine ⟨_, rfl, ?_⟩
  simp only [tNil, List.append_nil]
  refine NmIs.sp (((hn i x b hx hb).same s1).same s2) fun H4 s4 => ⟨_, s4 _ _ hD, ?_, fun c o e => ?_, ?_⟩
  · simp only [List.length_map, List.length_take]
    rw [sizeLine_eq]; omega
  · rw [upd_ne (ne_of_none e nD)]; exact s4 _ _ (s2 c o e)
  · rw [upd_same, List.take_add_one, hb]
    simp
theorem scNs : FnScope ["value", "item"] ["value"] (defScope (top 23)) := ⟨rfl, rfl, rfl, by decide +kernel, rfl, by decide +kernel, by decide +kernel⟩
theorem ok_areNames {f fN fL : Addr} {fd fdN fdL : FuncData} (F : FnP K "are_names" (top 23) f fd) (al : mg "all" = none) (GN : FnOk P w K mg base CX0 1 fN fdN ["value"] (spNm K)) (bN : Binds K fdN ["value"] []) (kN : PySem.W.keepIn K (.ref fN) = true) (gN : mg "is_name" = some (.ref fN))
    (GL : FnOk P w K mg base CX0 1 fL fdL ["value"] (spLs K)) (bL : Binds K fdL ["value"] []) (kL : PySem.W.keepIn K (.ref fL) = true) (gL : mg "is_list" = some (.ref fL)) : FnOk P w K mg base CX0 3 f fd ["value"] (spNms K) := by
  refine F.ok scNs (fun vs H Q E h => ?_) (fun cdv A outer s H vs Q E hr h => ?_)
  · obtain ⟨x, rfl, _⟩ := h
    rfl
  · obtain ⟨x, rfl, h⟩ := h
    have hr2 : Room 2 _ := hr
    have hr1 : Room 1 _ := hr2.mono (by decide)
    rcases h with ⟨a, xs, bs, rfl, hl | hl, lx, lb, hn, k⟩ | ⟨t, ty, kk, k⟩
    · refine ⟨_, PSs.nox (pss_one (ps_ret (pe_and (pe_call GL hr1 rfl gL kL bL .nil pass0 (pa_cons (pv 0) pa_nil))
        (pe_one (pe_callB (cr_all rfl) (by rfl) al (by decide +kernel) (pa_cons (pe_lc (own := [("item", 1)]) (g := gName 1) (tt := tYes) rfl scNs.nd (pi_list (pv 0)) (blkOk_by (N := ["value", "item"]) (sc := defScope (top 23)) (by decide +kernel)) (fun _ _ _ _ _ => pg_name (i := 1) scNs.nd rfl (Or.inl rfl)) (fun _ _ _ _ _ => pts_nil) (fun _ _ _ _ _ => pe_call GN (by exact hr1) rfl gN kN bN .nil pass0 (pa_cons (pv 1) pa_nil))) pa_nil)))))), ?_⟩
      refine ⟨_, rfl, _, _, _, rfl, .base (.lst hl), any_ty (x := true) (y := false) (kit_ty (by decide +kernel)) (kit_ty (by decide +kernel)), fun H1 s1 => ⟨true, rfl, iteT ?_⟩⟩
      refine ⟨_, rfl, a, rfl, ⟨xs, SqL.of (s1 _ _ hl)⟩, fun D nD => ?_⟩
      refine lc_list (a := a) (xs := xs) (fun i Hh => Same H1 Hh ∧ Hh D = some (.lst ((bs.take i).map V.bl))) ⟨same_upd nD, upd_same⟩ (fun i Hh _ hP => SqL.of (hP.1 _ _ (s1 _ _ hl))) (fun i x Hh hx hP => nm_turn rfl lb lx hn s1 nD hx hP) fun Hh hP => ?_
      obtain ⟨s2, hD⟩ := hP
      rw [← lb, List.take_length] at hD
      exact ⟨D, bs, rfl, SqL.of hD, k _ (s1.trans s2)⟩
    · refine ⟨_, PSs.nox (pss_one (ps_ret (pe_and (pe_call GL hr1 rfl gL kL bL .nil pass0 (pa_cons (pv 0) pa_nil))
        (pe_one (pe_callB (cr_all rfl) (by rfl) al (by decide +kernel) (pa_cons (pe_lc (own := [("item", 1)]) (g := gName 1) (tt := tYes) rfl scNs.nd (pi_tup (pv 0)) (blkOk_by (N := ["value", "item"]) (sc := defScope (top 23)) (by decide +kernel)) (fun _ _ _ _ _ => pg_name (i := 1) scNs.nd rfl (Or.inl rfl)) (fun _ _ _ _ _ => pts_nil) (fun _ _ _ _ _ => pe_call GN (by exact hr1) rfl gN kN bN .nil pass0 (pa_cons (pv 1) pa_nil))) pa_nil)))))), ?_⟩
      refine ⟨_, rfl, _, _, _, rfl, .base (.tup hl), any_ty (x := false) (y := true) (kit_ty (by decide +kernel)) (kit_ty (by decide +kernel)), fun H1 s1 => ⟨true, rfl, iteT ?_⟩⟩
      refine ⟨_, rfl, a, rfl, ⟨xs, SqT.of (s1 _ _ hl)⟩, fun D nD => ?_⟩
      refine lc_tup (a := a) (xs := xs) (fun i Hh => Same H1 Hh ∧ Hh D = some (.lst ((bs.take i).map V.bl))) ⟨same_upd nD, upd_same⟩ (fun i Hh _ hP => SqT.of (hP.1 _ _ (s1 _ _ hl))) (fun i x Hh hx hP => nm_turn rfl lb lx hn s1 nD hx hP) fun Hh hP => ?_
      obtain ⟨s2, hD⟩ := hP
      rw [← lb, List.take_length] at hD
      exact ⟨D, bs, rfl, SqL.of hD, k _ (s1.trans s2)⟩
    · refine ⟨_, PSs.nox (pss_one (ps_ret (pe_and (pe_call GL hr1 rfl gL kL bL .nil pass0 (pa_cons (pv 0) pa_nil))
        (pe_one (pe_callB (cr_all rfl) (by rfl) al (by decide +kernel) (pa_cons (pe_lc (own := [("item", 1)]) (g := gName 1) (tt := tYes) rfl scNs.nd (pi_list (pv 0)) (blkOk_by (N := ["value", "item"]) (sc := defScope (top 23)) (by decide +kernel)) (fun _ _ _ _ _ => pg_name (i := 1) scNs.nd rfl (Or.inl rfl)) (fun _ _ _ _ _ => pts_nil) (fun _ _ _ _ _ => pe_call GN (by exact hr1) rfl gN kN bN .nil pass0 (pa_cons (pv 1) pa_nil))) pa_nil)))))), ?_⟩
      exact ⟨_, rfl, _, t, false, rfl, ty, kk, fun H1 s1 => ⟨false, rfl, iteF (k _ s1)⟩⟩
end
end K09
namespace K09
open PySem PySem.Spec PyProof.Rows L2 RatM ClX
/-! ### dicts from names to numbers -/
/-- names, and numbers told by g -/
abbrev NumD (H : Hp) (C : Addr) (g : Str → Int × Int) : List (Key × V) → List Str → Prop := Paired fun kv n => kv.1 = .inr n ∧ NumAt H C kv.2 (g n).1 (g n).2
/-- the same, each number a Ratio -/
abbrev RatD (H : Hp) (C : Addr) (g : Str → Int × Int) : List (Key × V) → List Str → Prop := Paired fun kv n => kv.1 = .inr n ∧ ∃ a, kv.2 = .ref a ∧ RatAt H a C (g n).1 (g n).2
theorem Paired.mono' {α β : Type} {F G : α → β → Prop} (h : ∀ a b, F a b → G a b) : ∀ {l : List α} {m : List β}, Paired F l m → Paired G l m
  | _, _, .nil => .nil
  | _, _, .cons x t => .cons (h _ _ x) (Paired.mono' h t)
theorem Paired.at' {α β : Type} {F : α → β → Prop} : ∀ {l : List α} {m : List β}, Paired F l m → ∀ (i : Nat) (a : α), l[i]? = some a → ∃ b, m[i]? = some b ∧ F a b
  | _, _, .nil, i, a, e => by simp at e
  | _, _, .cons x t, 0, a, e => by
    simp at e
    subst e
    exact ⟨_, rfl, x⟩
  | _, _, .cons x t, i + 1, a, e => by
    simp only [List.getElem?_cons_succ] at e ⊢
    exact Paired.at' t i a e
section
variable {H H' : Hp} {C d : Addr} {g : Str → Int × Int} {kvs : List (Key × V)} {ks : List Str}
theorem NumD.same (h : NumD H C g kvs ks) (s : Same H H') : NumD H' C g kvs ks := Paired.mono' (fun _ _ ⟨e, n⟩ => ⟨e, n.same s⟩) h
theorem RatD.same (h : RatD H C g kvs ks) (s : Same H H') : RatD H' C g kvs ks := Paired.mono' (fun _ _ ⟨e, a, e2, n⟩ => ⟨e, a, e2, n.same s⟩) h
theorem RatD.num (h : RatD H C g kvs ks) : NumD H C g kvs ks := Paired.mono' (fun _ _ ⟨e, a, e2, n⟩ => ⟨e, .inl ⟨a, e2, n⟩⟩) h
theorem NumD.keys (h : NumD H C g kvs ks) : (kvs.map fun kv => kV kv.1) = ks.map V.str := by
  induction h with
  | nil => rfl
  | cons x t ih =>
    simp only [List.map_cons, ih, x.1]
    rfl
theorem NumD.val (h : NumD H C g kvs ks) {n : Str} (m : n ∈ ks) : ∃ v, valV kvs (.inr n) = some v ∧ NumAt H C v (g n).1 (g n).2 := by
  induction h with
  | nil => cases m
  | @cons a b l1 l2 x t ih =>
    by_cases e : b = n
    · subst e
      exact ⟨a.2, valV_pos x.1, x.2⟩
    · have ne : ¬ a.1 = Sum.inr n := fun z => e (by rw [x.1] at z; injection z)
      rw [valV_neg ne]
      exact ih (by cases m with
        | head => exact absurd rfl e
        | tail _ m => exact m)
theorem NumD.noVal (h : NumD H C g kvs ks) {n : Str} (m : n ∉ ks) : valV kvs (.inr n) = none := by
  induction h with
  | nil => rfl
  | @cons a b l1 l2 x t ih =>
    simp only [List.mem_cons, not_or] at m
    have ne : ¬ a.1 = Sum.inr n := fun z => m.1 (by rw [x.1] at z; injection z with z; exact z.symm)
    rw [valV_neg ne]
    exact ih m.2
/-- while the dict itself is locked -/
theorem NumAt.locked {x : V} {p q : Int} {o : HO} (h : NumAt H C x p q) (hd : H d = some (.dK kvs)) : NumAt (upd H d o) C x p q := by
  rcases h with ⟨a, rfl, dx, e⟩ | z
  · refine .inl ⟨a, rfl, dx, ?_⟩
    rw [upd_ne (fun z => by subst z; rw [hd] at e; cases e)]
    exact e
  · exact .inr z
end
section
variable {H H' : Hp} {C d : Addr} {g : Str → Int × Int} {kvs : List (Key × V)} {ks : List Str}
theorem RatAt.upd_d {a : Addr} {p q : Int} {o : HO} {D : Addr} {kvs : List (Key × V)} (h : RatAt H a C p q) (hd : H D = some (.dK kvs)) : RatAt (upd H D o) a C p q := by
  obtain ⟨dx, e⟩ := h
  refine ⟨dx, ?_⟩
  rw [upd_ne (fun z => by subst z; rw [hd] at e; cases e)]
  exact e
theorem RatD.upd_d {o : HO} {D : Addr} {kvs' : List (Key × V)} (h : RatD H C g kvs ks) (hd : H D = some (.dK kvs')) : RatD (upd H D o) C g kvs ks := Paired.mono' (fun _ _ ⟨e, a, e2, n⟩ => ⟨e, a, e2, RatAt.upd_d n hd⟩) h
end
def spNin (K : PySem.W.Frag) (C : Addr) : Sp := fun vs H Q _ => ∃ (d : Addr) (kvs : List (Key × V)) (ks : List Str) (g : Str → Int × Int), vs = [.ref d] ∧ H d = some (.dK kvs) ∧ NumD H C g kvs ks ∧ ks.Nodup ∧ ks.length ≤ 60 ∧ (∀ n ∈ ks, n.length ≤ 100000 ∧ nameT n.cps.toList = true) ∧
  ∀ r ys kvs' H', Same H H' → H r = none → ys.Perm ks → sortedS ys = true → H' r = some (.dK kvs') → RatD H' C g kvs' ys → Q (.ref r) H'
section
variable {P : Program} {w : World} {K : PySem.W.Frag} {mg : Str → Option Value} {base : Heap} {C BR : Addr}
theorem scNin : FnScope ["value", "number", "thing"] ["value"] (defScope (top 41)) := ⟨rfl, rfl, rfl, by decide +kernel, rfl, by decide +kernel, by decide +kernel⟩
theorem names_all {H : Hp} {K : PySem.W.Frag} : ∀ (ks : List Str), (∀ n ∈ ks, n.length ≤ 100000 ∧ nameT n.cps.toList = true) → ∀ (i : Nat) (x : V) (b : Bool), (ks.map V.str)[i]? = some x → (ks.map fun _ => true)[i]? = some b → NmIs K H x b := fun ks h i x b e1 e2 => by
  rw [List.getElem?_map] at e1 e2
  obtain ⟨n, en, rfl⟩ := Option.map_eq_some_iff.mp e1
  rw [en] at e2
  cases e2
  obtain ⟨l, t⟩ := h n (List.mem_of_getElem? en)
  exact .inl ⟨n, rfl, l, t.symm⟩
theorem all_trues {α : Type} : ∀ (l : List α), (l.map fun _ => true).all id = true
  | [] => rfl
  | _ :: t => by simp [all_trues t]
theorem ok_numbersIn {f fN fI : Addr} {fd fdN fdI : FuncData} {mc : Value} {p gO : Addr} {fdO : FuncData} (F : FnP K "numbers_in" (top 41) f fd) (bi : mg "isinstance" = none) (bD : mg "dict" = none) (bL : mg "list" = none) (al : mg "all" = none) (so : mg "sorted" = none)
    (GN : FnOk P w K mg base CX0 3 fN fdN ["value"] (spNms K)) (bN : Binds K fdN ["value"] []) (kN : PySem.W.keepIn K (.ref fN) = true) (gN : mg "are_names" = some (.ref fN))
    (GI : FnOk P w K mg base CX0 2 fI fdI ["value"] (spIsR K C)) (bI : Binds K fdI ["value"] []) (kI : PySem.W.keepIn K (.ref fI) = true) (gI : mg "is_ratio" = some (.ref fI))
    (gC : mg "Ratio" = some (.ref C)) (cr : CRead K C mc) (sm : SMet K C mc "of" p gO) (GO : FnOk P w K mg base (L2.CX P w) 6 gO fdO ["value"] (spOf1 K C BR)) (bO : Binds K fdO ["value"] []) :
    FnOk P w K mg base CX0 7 f fd ["value"] (spNin K C) := by
  refine F.ok scNin (fun vs H Q E h => ?_) (fun cdv A outer s H vs Q E hr h => ?_)
  · obtain ⟨d, kvs, ks, g, rfl, _⟩ := h
    rfl
  · obtain ⟨d, kvs, ks, g, rfl, hd, hk, nd, lk, nm, k⟩ := h
    have hr6 : Room 6 _ := hr
    have hu1 : (A.deeper (envOfC (Str.ofString "numbers_in") (defScope (top 41)) s.heap.objs.size f cdv)).units + 1 < cLine := by have := hr6.units; omega
    refine ⟨_, PSs.nox (pss_cons (ps_if (PW.pt (pw_or (pt_not (pt_val (pe_callB call_isi (by rfl) bi (by decide +kernel) (pa_cons (pv 0) (pa_cons (pe_bltn (v := .ty "dict") (by rfl) bD (by decide +kernel) rfl) pa_nil)))))
        (pw_or1 (pt_not (pt_val (pe_call GN (hr6.mono (by decide)) rfl gN kN bN .nil pass0 (pa_cons (pe_callTy (call_list_dK rfl) (by rfl) bL PyProof.Rows.boot_list (pa_cons (pv 0) pa_nil)) pa_nil))))))) (pss_one (ps_ret pe_non)) pss_nil)
      (pss_cons (ps_if (pt_not (pt_val (pe_callB (cr_all rfl) (by rfl) al (by decide +kernel) (pa_cons (pe_lock (pe_lc (own := [("number", 1)]) (g := gName 1) (tt := tYes) rfl scNin.nd (pi_values (pv 0)) (blkOk_by (N := ["value", "number", "thing"]) (sc := defScope (top 41)) (by decide +kernel)) (fun _ _ _ _ _ => pg_name (i := 1) scNin.nd rfl (Or.inl rfl)) (fun _ _ _ _ _ => pts_nil) (fun _ _ _ _ _ => pe_call GI (by exact hr6.mono (by decide)) rfl gI kI bI .nil pass0 (pa_cons (pv 1) pa_nil)))) pa_nil)))) (pss_one (ps_ret pe_non)) pss_nil)
      (pss_one (ps_ret (pe_dc (own := [("thing", 2)]) (g := gName 2) (tt := tYes) rfl scNin.nd (pi_list (pe_callB cr_sortedS (by rfl) so (by decide +kernel) (pa_cons (pe_callTy (call_list_dK rfl) (by rfl) bL PyProof.Rows.boot_list (pa_cons (pv 0) pa_nil)) pa_nil))) (blkOk_by (N := ["value", "number", "thing"]) (sc := defScope (top 41)) (by decide +kernel)) (fun _ _ _ _ _ => pg_name (i := 2) scNin.nd rfl (Or.inl rfl)) (fun _ _ _ _ _ => pts_nil) (fun _ _ _ _ _ => pv 2)
        (fun _ _ _ _ _ => pe_smeth (pe_glob (v := .ref _) rfl gC rfl) cr sm GO (by exact hr6) bO (E := E0) passL (pa_cons (pe_dget (by exact hu1) (pv 0) (pv 2) (fun _ _ => rfl)) pa_nil))))))), ?_⟩
    have lm : (kvs.map fun kv => kV kv.1) = ks.map V.str := hk.keys
    refine ⟨_, rfl, _, _, _, _, _, rfl, .ty "dict", .base (.dK hd), kit_ty (r := true) (by decide +kernel), _, rfl, iteF ?_⟩
    refine ⟨_, rfl, d, kvs, rfl, hd, fun q nq => ?_⟩
    refine ⟨_, rfl, .inl ⟨q, ks.map V.str, ks.map (fun _ => true), rfl, .inl (by rw [upd_same, lm]), by rw [List.length_map]; omega, by rw [List.length_map, List.length_map], names_all ks nm, fun H1 s1 => ⟨true, congrArg V.bl (all_trues ks), iteF ?_⟩⟩⟩
    replace s1 : Same H H1 := (same_upd nq).trans s1
    dsimp only [tNext, tSeq]
    refine ⟨d, .dK kvs, s1 _ _ hd, True.intro, fun od => ?_⟩
    refine ⟨_, rfl, d, od, kvs, rfl, upd_same, fun D nD => ?_⟩
    have nDd : D ≠ d := fun e => by rw [e, upd_same] at nD; cases nD
    have nD1 : H1 D = none := by rw [upd_ne nDd] at nD; exact nD
    generalize hHL : upd H1 d (.frz od (.dK kvs)) = HL at nD ⊢
    have hdL : HL d = some (.frz od (.dK kvs)) := by rw [← hHL]; exact upd_same
    have hkL : NumD HL C g kvs ks := by
      rw [← hHL]
      exact Paired.mono' (fun _ _ ⟨e, n⟩ => ⟨e, NumAt.locked n (s1 _ _ hd)⟩) (hk.same s1)
    refine lc_it walk_values (fun i Hh => Same HL Hh ∧ Hh D = some (.lst ((List.replicate i true).map V.bl))) ⟨same_upd nD, upd_same⟩ (fun i Hh _ hP => hP.1 _ _ hdL) (fun i x Hh Hh' hi hP hy => ?_) (fun Hh hP => ?_)
    · obtain ⟨rfl, key, ek⟩ := hy
      obtain ⟨s2, hD⟩ := hP
      obtain ⟨n, en, e1, hn⟩ := Paired.at' hkL i _ ek
      refine ⟨rfl, ?_⟩
      unfold tYes
      dsimp only
      rw [if_pos rfl]
      refine ⟨_, rfl, ?_⟩
      simp only [tNil, List.append_nil]
      refine ⟨x, rfl, .inl ⟨_, _, hn.same s2, _, hD, ?_, fun c o e => ?_, ?_⟩⟩
      · rw [List.length_map, List.length_replicate, sizeLine_eq]
        have := Paired.length hk
        omega
      · rw [upd_ne (ne_of_none e nD)]; exact s2 _ _ e
      · rw [upd_same, List.replicate_succ', List.map_append]
        rfl
    · obtain ⟨s2, hD⟩ := hP
      refine ⟨s2 _ _ hdL, D, List.replicate kvs.length true, rfl, SqL.of (by rw [upd_ne nDd]; exact hD), true, congrArg V.bl (by simp), iteF ?_⟩
      dsimp only [tNext]
      generalize hH2 : upd Hh d (.dK kvs) = H2
      have s3 : Same H H2 := fun b o e => by
        rw [← hH2]
        by_cases eb : b = d
        · subst eb
          rw [upd_same, ← hd, e]
        · rw [upd_ne eb]
          refine s2 _ _ ?_
          rw [← hHL, upd_ne eb]
          exact s1 _ _ e
      clear hH2 hHL
      refine ⟨_, rfl, d, kvs, rfl, s3 _ _ hd, fun q2 nq2 => ?_⟩
      refine ⟨q2, ks, rfl, SqL.of (by rw [upd_same, lm]), by omega, fun ys p2 py sy np => ?_⟩
      refine ⟨p2, rfl, ⟨_, SqL.of upd_same⟩, fun D2 nD2 => ?_⟩
      have s4 : Same H (upd (upd H2 q2 (.lst (kvs.map fun kv => kV kv.1))) p2 (.lst (ys.map V.str))) := (s3.trans (same_upd nq2)).trans (same_upd np)
      generalize hH4 : upd (upd H2 q2 (.lst (kvs.map fun kv => kV kv.1))) p2 (.lst (ys.map V.str)) = H4 at s4 nD2 ⊢
      have hp4 : H4 p2 = some (.lst (ys.map V.str)) := by rw [← hH4]; exact upd_same
      have nyd : ys.Nodup := py.nodup_iff.mpr nd
      refine dc_it walk_list (fun i Hx => Same H4 Hx ∧ ∃ kvs', Hx D2 = some (.dK kvs') ∧ RatD Hx C g kvs' (ys.take i)) ⟨same_upd nD2, [], upd_same, .nil⟩ (fun i Hx _ hP => SqL.of (hP.1 _ _ hp4)) (fun i x Hx Hx' hi hP hy => ?_) (fun Hx hP => ?_)
      · obtain ⟨rfl, ex⟩ := hy
        obtain ⟨s5, kvs', hD5, hR⟩ := hP
        rw [List.getElem?_map] at ex
        obtain ⟨n, en, rfl⟩ := Option.map_eq_some_iff.mp ex
        obtain ⟨v, hv, hn⟩ := NumD.val hk (py.mem_iff.mp (List.mem_of_getElem? en))
        refine ⟨rfl, ?_⟩
        unfold tYes
        dsimp only
        rw [if_pos rfl]
        refine ⟨_, rfl, rfl, ?_⟩
        refine ⟨_, rfl, _, rfl, d, v, rfl, ?_, ?_⟩
        · have z := DGet.k (k := .inr n) (s5 _ _ (s4 _ _ hd))
          rw [hv] at z
          exact z
        · refine ⟨v, rfl, .inl ⟨_, _, hn.same (s4.trans s5), fun a H6 s6 ha => ⟨kvs', .inr n, rfl, s6 _ _ hD5, ?_, fun c o e => ?_, ?_⟩⟩⟩
          · have := Paired.length hR
            have := List.length_take_le i ys
            have := py.length_eq
            have := List.length_take (i := i) (l := ys)
            rw [sizeLine_eq]; omega
          · rw [upd_ne (ne_of_none e nD2)]; exact s6 _ _ (s5 _ _ e)
          · refine ⟨_, upd_same, ?_⟩
            have nt : n ∉ ys.take i := fun m => by
              obtain ⟨j, hj, ej⟩ := List.mem_take_iff_getElem.mp m
              have h1 : ys[j]? = some n := by rw [List.getElem?_eq_getElem (by omega), ej]
              have lj : j < ys.length := by omega
              have h2 := (List.getElem?_inj lj nyd).mp (h1.trans en.symm)
              omega
            rw [putK_new _ (NumD.noVal hR.num nt), List.take_add_one, en]
            exact Paired.snoc ((hR.same s6).upd_d (s6 _ _ hD5)) ⟨rfl, a, rfl, RatAt.upd_d ha (s6 _ _ hD5)⟩
      · obtain ⟨s5, kvs', hD5, hR⟩ := hP
        rw [List.length_map, List.take_length] at hR
        refine k D2 ys kvs' Hx (s4.trans s5) ?_ py sy hD5 hR
        exact s4.free nD2
end
end K09
namespace L2
open PySem PySem.Spec PyProof.Rows
/-! ### a Hook with defs at any address, Bools of one's own, tables of code objects -/
structure SaysK (fa : List He.Fa) (fn : List He5.DefA) (fx : List (PySem.W.Frag → Bool)) (tf : List He.Defn) (h : Heap) (K : PySem.W.Frag) : Prop where
  a : He5.SaysA fa fn K
  x : (fx.all fun f => f K) = true
  hd : ∀ p ∈ tf, PySem.W.codeHdIn K (He.cT K p).1 (He.cT K p).2 = true
  out : ∀ p ∈ tf, K.lookup (He.cT K p).2 = none
  empty : ∀ p ∈ tf, h.get? (He.cT K p).2 = some { cls := .none, data := .fields #[] }
def obsK (as : List Addr) (fa : List He.Fa) (fn : List He5.DefA) (fx : List (PySem.W.Frag → Bool)) (tf : List He.Defn) (g : Addr → Option Obj) : He.AlD × Bool :=
  (He5.obsA fa fn (He.frT g as), (fx.all fun f => f (He.frT g as)) && He.tabsB g tf (He.frT g as))
theorem saysK_of {as : List Addr} {fa : List He.Fa} {fn : List He5.DefA} {fx : List (PySem.W.Frag → Bool)} {tf : List He.Defn} {h : Heap} (e : obsK as fa fn fx tf h.get? = (He5.valA fn, true)) : SaysK fa fn fx tf h (He.frT h.get? as) := by
  have e1 := congrArg Prod.fst e
  have e2 := congrArg Prod.snd e
  unfold obsK at e1 e2
  dsimp only at e1 e2
  obtain ⟨h1, h2⟩ := Bool.and_eq_true_iff.mp e2
  generalize hK : He.frT h.get? as = K at e1 h1 h2
  have key : ∀ p ∈ tf, PySem.W.codeHdIn K (He.cT K p).1 (He.cT K p).2 = true ∧ ∃ o, h.get? (He.cT K p).2 = some o ∧ He.emptyTab o = true := fun p hp => by
    obtain ⟨h3, h4⟩ := Bool.and_eq_true_iff.mp (List.all_eq_true.mp h2 p hp)
    refine ⟨h3, ?_⟩
    cases q : h.get? (He.cT K p).2 with
    | none =>
      rw [q] at h4
      cases h4
    | some o =>
      rw [q] at h4
      exact ⟨o, rfl, h4⟩
  refine ⟨e1, h1, fun p hp => (key p hp).1, fun p hp => ?_, fun p hp => ?_⟩
  · obtain ⟨_, o, q, z⟩ := key p hp
    rw [← hK]
    rw [← hK] at q
    exact He.frT_none q z
  · obtain ⟨_, o, q, z⟩ := key p hp
    rw [q, He.emptyTab_eq z]
def hookK (as : List Addr) (fa : List He.Fa) (fn : List He5.DefA) (fx : List (PySem.W.Frag → Bool)) (tf : List He.Defn) : PySem.W.Hook where
  α := He.AlD × Bool
  obs := fun s => obsK as fa fn fx tf s.heap.get?
  val := fun _ => (He5.valA fn, true)
  says := fun _ h => ∃ K : PySem.W.Frag, K.In h ∧ SaysK fa fn fx tf h K
  of := fun _ _ e => ⟨_, He.frT_in, saysK_of e⟩
  keeps := fun _ _ _ ⟨K, hK, c⟩ k => ⟨K, PySem.W.Frag.In.keeps hK k, ⟨c.a, c.x, c.hd, c.out, fun p hp => k _ _ (c.empty p hp)⟩⟩
theorem obK_eq (as : List Addr) (fa : List He.Fa) (fn : List He5.DefA) (fx : List (PySem.W.Frag → Bool)) (tf : List He.Defn) (s : PySem.W.SharedT) : obsK as fa fn fx tf (HandSHeadRun.getT s) = (hookK as fa fn fx tf).obs s.abs := by
  have e : HandSHeadRun.getT s = s.abs.heap.get? := funext fun a => HandSHeadRun.getT_eq s a
  rw [e] <;> rfl
end L2
namespace K09
open PySem PySem.Spec PyProof.Rows L2 RatM ClX
abbrev iBadBalance : Stmt := (inClass (top 5) 0)
abbrev iBadComparison : Stmt := (inClass (top 6) 0)
abbrev iBadPair : Stmt := (inClass (top 7) 0)
abbrev iBadScale : Stmt := (inClass (top 8) 0)
abbrev iBadNumber : Stmt := (inClass (top 9) 0)
abbrev iNoThing : Stmt := (inClass (top 11) 0)
section
variable {P : Program} {w : World} {K : PySem.W.Frag} {mg : Str → Option Value} {base : Heap}
theorem mk_BadBalance {C fI : Addr} {fd : FuncData} (F : MtP K "__init__" "BadBalance.__init__" iBadBalance fI fd) (ox : OexC K C) (iC : PySem.W.findIn K (.ref C) "__init__" = some (some (.ref fI))) (tI : PySem.W.typeIn K (.ref fI) = some (.type "function"))
    (no : ∀ f ∈ ([("part" : Str)] : List Str), PySem.W.findIn K (.ref C) f = some none) (g : mg "BadBalance" = some (.ref C)) : ErrN P w K mg base "BadBalance" C ["part"] := by
  have S : FnScope ["self", "part"] ["self", "part"] (defScope iBadBalance) := ⟨rfl, rfl, rfl, by decide +kernel, rfl, by decide +kernel, by decide +kernel⟩
  refine ⟨⟨fI, fd, iC, tI, ?_, F.bindsN (fun _ _ _ _ _ _ us hl => match us, hl with | [_, _], _ => rfl)⟩, ox, no, g⟩
  refine F.ok S (fun vs H Q E h => ?_) (fun cdv A outer s H vs Q E hr h => ?_)
  · obtain ⟨e, C, ws, rfl, hn, _⟩ := h
    rw [List.length_cons, hn]
    rfl
  · obtain ⟨e, C, ws, rfl, hn, T, no, he, k⟩ := h
    match ws, hn with
    | [v0], _ =>
      refine ⟨_, PSs.nox (pss_one (ps_ost (pv 0) (pv 1))), ?_⟩
      refine ⟨_, rfl, _, rfl, e, C, rfl, T, no _ (by simp), .inl ⟨he, fun dx nd ne => ?_⟩⟩
      exact k _ dx (fun b o hb z => by rw [upd_ne hb, upd_ne (ne_of_none z nd)]; exact z) nd ne upd_same (by rw [upd_ne ne]; exact upd_same)
theorem mk_BadComparison {C fI : Addr} {fd : FuncData} (F : MtP K "__init__" "BadComparison.__init__" iBadComparison fI fd) (ox : OexC K C) (iC : PySem.W.findIn K (.ref C) "__init__" = some (some (.ref fI))) (tI : PySem.W.typeIn K (.ref fI) = some (.type "function"))
    (no : ∀ f ∈ ([("part" : Str)] : List Str), PySem.W.findIn K (.ref C) f = some none) (g : mg "BadComparison" = some (.ref C)) : ErrN P w K mg base "BadComparison" C ["part"] := by
  have S : FnScope ["self", "part"] ["self", "part"] (defScope iBadComparison) := ⟨rfl, rfl, rfl, by decide +kernel, rfl, by decide +kernel, by decide +kernel⟩
  refine ⟨⟨fI, fd, iC, tI, ?_, F.bindsN (fun _ _ _ _ _ _ us hl => match us, hl with | [_, _], _ => rfl)⟩, ox, no, g⟩
  refine F.ok S (fun vs H Q E h => ?_) (fun cdv A outer s H vs Q E hr h => ?_)
  · obtain ⟨e, C, ws, rfl, hn, _⟩ := h
    rw [List.length_cons, hn]
    rfl
  · obtain ⟨e, C, ws, rfl, hn, T, no, he, k⟩ := h
    match ws, hn with
    | [v0], _ =>
      refine ⟨_, PSs.nox (pss_one (ps_ost (pv 0) (pv 1))), ?_⟩
      refine ⟨_, rfl, _, rfl, e, C, rfl, T, no _ (by simp), .inl ⟨he, fun dx nd ne => ?_⟩⟩
      exact k _ dx (fun b o hb z => by rw [upd_ne hb, upd_ne (ne_of_none z nd)]; exact z) nd ne upd_same (by rw [upd_ne ne]; exact upd_same)
theorem mk_BadPair {C fI : Addr} {fd : FuncData} (F : MtP K "__init__" "BadPair.__init__" iBadPair fI fd) (ox : OexC K C) (iC : PySem.W.findIn K (.ref C) "__init__" = some (some (.ref fI))) (tI : PySem.W.typeIn K (.ref fI) = some (.type "function"))
    (no : ∀ f ∈ ([("part" : Str)] : List Str), PySem.W.findIn K (.ref C) f = some none) (g : mg "BadPair" = some (.ref C)) : ErrN P w K mg base "BadPair" C ["part"] := by
  have S : FnScope ["self", "part"] ["self", "part"] (defScope iBadPair) := ⟨rfl, rfl, rfl, by decide +kernel, rfl, by decide +kernel, by decide +kernel⟩
  refine ⟨⟨fI, fd, iC, tI, ?_, F.bindsN (fun _ _ _ _ _ _ us hl => match us, hl with | [_, _], _ => rfl)⟩, ox, no, g⟩
  refine F.ok S (fun vs H Q E h => ?_) (fun cdv A outer s H vs Q E hr h => ?_)
  · obtain ⟨e, C, ws, rfl, hn, _⟩ := h
    rw [List.length_cons, hn]
    rfl
  · obtain ⟨e, C, ws, rfl, hn, T, no, he, k⟩ := h
    match ws, hn with
    | [v0], _ =>
      refine ⟨_, PSs.nox (pss_one (ps_ost (pv 0) (pv 1))), ?_⟩
      refine ⟨_, rfl, _, rfl, e, C, rfl, T, no _ (by simp), .inl ⟨he, fun dx nd ne => ?_⟩⟩
      exact k _ dx (fun b o hb z => by rw [upd_ne hb, upd_ne (ne_of_none z nd)]; exact z) nd ne upd_same (by rw [upd_ne ne]; exact upd_same)
theorem mk_BadScale {C fI : Addr} {fd : FuncData} (F : MtP K "__init__" "BadScale.__init__" iBadScale fI fd) (ox : OexC K C) (iC : PySem.W.findIn K (.ref C) "__init__" = some (some (.ref fI))) (tI : PySem.W.typeIn K (.ref fI) = some (.type "function"))
    (no : ∀ f ∈ ([("part" : Str)] : List Str), PySem.W.findIn K (.ref C) f = some none) (g : mg "BadScale" = some (.ref C)) : ErrN P w K mg base "BadScale" C ["part"] := by
  have S : FnScope ["self", "part"] ["self", "part"] (defScope iBadScale) := ⟨rfl, rfl, rfl, by decide +kernel, rfl, by decide +kernel, by decide +kernel⟩
  refine ⟨⟨fI, fd, iC, tI, ?_, F.bindsN (fun _ _ _ _ _ _ us hl => match us, hl with | [_, _], _ => rfl)⟩, ox, no, g⟩
  refine F.ok S (fun vs H Q E h => ?_) (fun cdv A outer s H vs Q E hr h => ?_)
  · obtain ⟨e, C, ws, rfl, hn, _⟩ := h
    rw [List.length_cons, hn]
    rfl
  · obtain ⟨e, C, ws, rfl, hn, T, no, he, k⟩ := h
    match ws, hn with
    | [v0], _ =>
      refine ⟨_, PSs.nox (pss_one (ps_ost (pv 0) (pv 1))), ?_⟩
      refine ⟨_, rfl, _, rfl, e, C, rfl, T, no _ (by simp), .inl ⟨he, fun dx nd ne => ?_⟩⟩
      exact k _ dx (fun b o hb z => by rw [upd_ne hb, upd_ne (ne_of_none z nd)]; exact z) nd ne upd_same (by rw [upd_ne ne]; exact upd_same)
theorem mk_BadNumber {C fI : Addr} {fd : FuncData} (F : MtP K "__init__" "BadNumber.__init__" iBadNumber fI fd) (ox : OexC K C) (iC : PySem.W.findIn K (.ref C) "__init__" = some (some (.ref fI))) (tI : PySem.W.typeIn K (.ref fI) = some (.type "function"))
    (no : ∀ f ∈ ([("part" : Str)] : List Str), PySem.W.findIn K (.ref C) f = some none) (g : mg "BadNumber" = some (.ref C)) : ErrN P w K mg base "BadNumber" C ["part"] := by
  have S : FnScope ["self", "part"] ["self", "part"] (defScope iBadNumber) := ⟨rfl, rfl, rfl, by decide +kernel, rfl, by decide +kernel, by decide +kernel⟩
  refine ⟨⟨fI, fd, iC, tI, ?_, F.bindsN (fun _ _ _ _ _ _ us hl => match us, hl with | [_, _], _ => rfl)⟩, ox, no, g⟩
  refine F.ok S (fun vs H Q E h => ?_) (fun cdv A outer s H vs Q E hr h => ?_)
  · obtain ⟨e, C, ws, rfl, hn, _⟩ := h
    rw [List.length_cons, hn]
    rfl
  · obtain ⟨e, C, ws, rfl, hn, T, no, he, k⟩ := h
    match ws, hn with
    | [v0], _ =>
      refine ⟨_, PSs.nox (pss_one (ps_ost (pv 0) (pv 1))), ?_⟩
      refine ⟨_, rfl, _, rfl, e, C, rfl, T, no _ (by simp), .inl ⟨he, fun dx nd ne => ?_⟩⟩
      exact k _ dx (fun b o hb z => by rw [upd_ne hb, upd_ne (ne_of_none z nd)]; exact z) nd ne upd_same (by rw [upd_ne ne]; exact upd_same)
theorem mk_NoThing {C fI : Addr} {fd : FuncData} (F : MtP K "__init__" "NoThing.__init__" iNoThing fI fd) (ox : OexC K C) (iC : PySem.W.findIn K (.ref C) "__init__" = some (some (.ref fI))) (tI : PySem.W.typeIn K (.ref fI) = some (.type "function"))
    (no : ∀ f ∈ ([("name" : Str)] : List Str), PySem.W.findIn K (.ref C) f = some none) (g : mg "NoThing" = some (.ref C)) : ErrN P w K mg base "NoThing" C ["name"] := by
  have S : FnScope ["self", "name"] ["self", "name"] (defScope iNoThing) := ⟨rfl, rfl, rfl, by decide +kernel, rfl, by decide +kernel, by decide +kernel⟩
  refine ⟨⟨fI, fd, iC, tI, ?_, F.bindsN (fun _ _ _ _ _ _ us hl => match us, hl with | [_, _], _ => rfl)⟩, ox, no, g⟩
  refine F.ok S (fun vs H Q E h => ?_) (fun cdv A outer s H vs Q E hr h => ?_)
  · obtain ⟨e, C, ws, rfl, hn, _⟩ := h
    rw [List.length_cons, hn]
    rfl
  · obtain ⟨e, C, ws, rfl, hn, T, no, he, k⟩ := h
    match ws, hn with
    | [v0], _ =>
      refine ⟨_, PSs.nox (pss_one (ps_ost (pv 0) (pv 1))), ?_⟩
      refine ⟨_, rfl, _, rfl, e, C, rfl, T, no _ (by simp), .inl ⟨he, fun dx nd ne => ?_⟩⟩
      exact k _ dx (fun b o hb z => by rw [upd_ne hb, upd_ne (ne_of_none z nd)]; exact z) nd ne upd_same (by rw [upd_ne ne]; exact upd_same)
end
def e_BadRatio : He5.DefA := ⟨fun K => He.fAd K ("BadRatio", some "__init__"), "__init__", "BadRatio.__init__", defArgs iBadRatio, defBody iBadRatio, defScope iBadRatio, [], []⟩
def e_BadBalance : He5.DefA := ⟨fun K => He.fAd K ("BadBalance", some "__init__"), "__init__", "BadBalance.__init__", defArgs iBadBalance, defBody iBadBalance, defScope iBadBalance, [], []⟩
def e_BadComparison : He5.DefA := ⟨fun K => He.fAd K ("BadComparison", some "__init__"), "__init__", "BadComparison.__init__", defArgs iBadComparison, defBody iBadComparison, defScope iBadComparison, [], []⟩
def e_BadPair : He5.DefA := ⟨fun K => He.fAd K ("BadPair", some "__init__"), "__init__", "BadPair.__init__", defArgs iBadPair, defBody iBadPair, defScope iBadPair, [], []⟩
def e_BadScale : He5.DefA := ⟨fun K => He.fAd K ("BadScale", some "__init__"), "__init__", "BadScale.__init__", defArgs iBadScale, defBody iBadScale, defScope iBadScale, [], []⟩
def e_BadNumber : He5.DefA := ⟨fun K => He.fAd K ("BadNumber", some "__init__"), "__init__", "BadNumber.__init__", defArgs iBadNumber, defBody iBadNumber, defScope iBadNumber, [], []⟩
def e_NoThing : He5.DefA := ⟨fun K => He.fAd K ("NoThing", some "__init__"), "__init__", "NoThing.__init__", defArgs iNoThing, defBody iNoThing, defScope iNoThing, [], []⟩
def r_init : He5.DefA := ⟨fun K => He.fAd K ("Ratio", some "__init__"), "__init__", "Ratio.__init__", defArgs (inClass (top 34) 0), defBody (inClass (top 34) 0), defScope (inClass (top 34) 0), [.int 1], []⟩
def r_of : He5.DefA := ⟨fun K => He5.wf K (He.ga K "Ratio") "staticmethod" "of", "of", "Ratio.of", defArgs (inClass (top 34) 2), defBody (inClass (top 34) 2), defScope (inClass (top 34) 2), [], []⟩
def r_add : He5.DefA := ⟨fun K => He.fAd K ("Ratio", some "__add__"), "__add__", "Ratio.__add__", defArgs (inClass (top 34) 6), defBody (inClass (top 34) 6), defScope (inClass (top 34) 6), [], []⟩
def r_sub : He5.DefA := ⟨fun K => He.fAd K ("Ratio", some "__sub__"), "__sub__", "Ratio.__sub__", defArgs (inClass (top 34) 7), defBody (inClass (top 34) 7), defScope (inClass (top 34) 7), [], []⟩
def r_mul : He5.DefA := ⟨fun K => He.fAd K ("Ratio", some "__mul__"), "__mul__", "Ratio.__mul__", defArgs (inClass (top 34) 8), defBody (inClass (top 34) 8), defScope (inClass (top 34) 8), [], []⟩
def r_neg : He5.DefA := ⟨fun K => He.fAd K ("Ratio", some "__neg__"), "__neg__", "Ratio.__neg__", defArgs (inClass (top 34) 9), defBody (inClass (top 34) 9), defScope (inClass (top 34) 9), [], []⟩
def r_eq : He5.DefA := ⟨fun K => He.fAd K ("Ratio", some "__eq__"), "__eq__", "Ratio.__eq__", defArgs (inClass (top 34) 12), defBody (inClass (top 34) 12), defScope (inClass (top 34) 12), [], []⟩
def r_str : He5.DefA := ⟨fun K => He.fAd K ("Ratio", some "__str__"), "__str__", "Ratio.__str__", defArgs (inClass (top 34) 13), defBody (inClass (top 34) 13), defScope (inClass (top 34) 13), [], []⟩
def b_init : He5.DefA := ⟨fun K => He.fAd K ("Balance", some "__init__"), "__init__", "Balance.__init__", defArgs (inClass (top 43) 0), defBody (inClass (top 43) 0), defScope (inClass (top 43) 0), [], []⟩
def b_number_of : He5.DefA := ⟨fun K => He.fAd K ("Balance", some "number_of"), "number_of", "Balance.number_of", defArgs (inClass (top 43) 3), defBody (inClass (top 43) 3), defScope (inClass (top 43) 3), [], []⟩
def b_gains : He5.DefA := ⟨fun K => He.fAd K ("Balance", some "gains"), "gains", "Balance.gains", defArgs (inClass (top 43) 4), defBody (inClass (top 43) 4), defScope (inClass (top 43) 4), [], []⟩
def b_losses : He5.DefA := ⟨fun K => He.fAd K ("Balance", some "losses"), "losses", "Balance.losses", defArgs (inClass (top 43) 5), defBody (inClass (top 43) 5), defScope (inClass (top 43) 5), [], []⟩
def b_least : He5.DefA := ⟨fun K => He.fAd K ("Balance", some "least"), "least", "Balance.least", defArgs (inClass (top 43) 6), defBody (inClass (top 43) 6), defScope (inClass (top 43) 6), [], []⟩
def b_add : He5.DefA := ⟨fun K => He.fAd K ("Balance", some "__add__"), "__add__", "Balance.__add__", defArgs (inClass (top 43) 8), defBody (inClass (top 43) 8), defScope (inClass (top 43) 8), [], []⟩
def b_sub : He5.DefA := ⟨fun K => He.fAd K ("Balance", some "__sub__"), "__sub__", "Balance.__sub__", defArgs (inClass (top 43) 9), defBody (inClass (top 43) 9), defScope (inClass (top 43) 9), [], []⟩
def b_neg : He5.DefA := ⟨fun K => He.fAd K ("Balance", some "__neg__"), "__neg__", "Balance.__neg__", defArgs (inClass (top 43) 10), defBody (inClass (top 43) 10), defScope (inClass (top 43) 10), [], []⟩
def b_mul : He5.DefA := ⟨fun K => He.fAd K ("Balance", some "__mul__"), "__mul__", "Balance.__mul__", defArgs (inClass (top 43) 11), defBody (inClass (top 43) 11), defScope (inClass (top 43) 11), [], []⟩
def b_eq : He5.DefA := ⟨fun K => He.fAd K ("Balance", some "__eq__"), "__eq__", "Balance.__eq__", defArgs (inClass (top 43) 12), defBody (inClass (top 43) 12), defScope (inClass (top 43) 12), [], []⟩
def b_str : He5.DefA := ⟨fun K => He.fAd K ("Balance", some "__str__"), "__str__", "Balance.__str__", defArgs (inClass (top 43) 13), defBody (inClass (top 43) 13), defScope (inClass (top 43) 13), [], []⟩
def p_init : He5.DefA := ⟨fun K => He.fAd K ("Pair", some "__init__"), "__init__", "Pair.__init__", defArgs (inClass (top 66) 0), defBody (inClass (top 66) 0), defScope (inClass (top 66) 0), [], []⟩
def p_as_rows : He5.DefA := ⟨fun K => He.fAd K ("Pair", some "as_rows"), "as_rows", "Pair.as_rows", defArgs (inClass (top 66) 2), defBody (inClass (top 66) 2), defScope (inClass (top 66) 2), [], []⟩
def p_eq : He5.DefA := ⟨fun K => He.fAd K ("Pair", some "__eq__"), "__eq__", "Pair.__eq__", defArgs (inClass (top 66) 3), defBody (inClass (top 66) 3), defScope (inClass (top 66) 3), [], []⟩
def p_str : He5.DefA := ⟨fun K => He.fAd K ("Pair", some "__str__"), "__str__", "Pair.__str__", defArgs (inClass (top 66) 4), defBody (inClass (top 66) 4), defScope (inClass (top 66) 4), [], []⟩
def m_init : He5.DefA := ⟨fun K => He.fAd K ("Comparison", some "__init__"), "__init__", "Comparison.__init__", defArgs (inClass (top 65) 0), defBody (inClass (top 65) 0), defScope (inClass (top 65) 0), [], []⟩
def m_contraries : He5.DefA := ⟨fun K => He.fAd K ("Comparison", some "contraries"), "contraries", "Comparison.contraries", defArgs (inClass (top 65) 2), defBody (inClass (top 65) 2), defScope (inClass (top 65) 2), [], []⟩
def m_eq : He5.DefA := ⟨fun K => He.fAd K ("Comparison", some "__eq__"), "__eq__", "Comparison.__eq__", defArgs (inClass (top 65) 3), defBody (inClass (top 65) 3), defScope (inClass (top 65) 3), [], []⟩
def m_str : He5.DefA := ⟨fun K => He.fAd K ("Comparison", some "__str__"), "__str__", "Comparison.__str__", defArgs (inClass (top 65) 4), defBody (inClass (top 65) 4), defScope (inClass (top 65) 4), [], []⟩
def s_init : He5.DefA := ⟨fun K => He.fAd K ("Scale", some "__init__"), "__init__", "Scale.__init__", defArgs (inClass (top 74) 0), defBody (inClass (top 74) 0), defScope (inClass (top 74) 0), [], []⟩
def s_worth : He5.DefA := ⟨fun K => He.fAd K ("Scale", some "worth"), "worth", "Scale.worth", defArgs (inClass (top 74) 2), defBody (inClass (top 74) 2), defScope (inClass (top 74) 2), [], []⟩
def s_outcome : He5.DefA := ⟨fun K => He.fAd K ("Scale", some "outcome"), "outcome", "Scale.outcome", defArgs (inClass (top 74) 3), defBody (inClass (top 74) 3), defScope (inClass (top 74) 3), [], []⟩
def s_keeps : He5.DefA := ⟨fun K => He.fAd K ("Scale", some "keeps"), "keeps", "Scale.keeps", defArgs (inClass (top 74) 4), defBody (inClass (top 74) 4), defScope (inClass (top 74) 4), [], []⟩
def g_writtenR : He5.DefA := ⟨fun K => He.ga K "written_ratios", "_written", "_written", defArgs (top 38), defBody (top 38), defScope (top 38), [], []⟩
def g_writtenB : He5.DefA := ⟨fun K => He.ga K "written_balances", "_written", "_written", defArgs (top 47), defBody (top 47), defScope (top 47), [], []⟩
def g_is_integer : He5.DefA := ⟨fun K => He.fAd K ("is_integer", none), "is_integer", "is_integer", defArgs (top 19), defBody (top 19), defScope (top 19), [], []⟩
def g_is_within : He5.DefA := ⟨fun K => He.fAd K ("is_within", none), "is_within", "is_within", defArgs (top 20), defBody (top 20), defScope (top 20), [], []⟩
def g_is_name : He5.DefA := ⟨fun K => He.fAd K ("is_name", none), "is_name", "is_name", defArgs (top 21), defBody (top 21), defScope (top 21), [], []⟩
def g_is_list : He5.DefA := ⟨fun K => He.fAd K ("is_list", none), "is_list", "is_list", defArgs (top 22), defBody (top 22), defScope (top 22), [], []⟩
def g_are_names : He5.DefA := ⟨fun K => He.fAd K ("are_names", none), "are_names", "are_names", defArgs (top 23), defBody (top 23), defScope (top 23), [], []⟩
def g_need_things : He5.DefA := ⟨fun K => He.fAd K ("need_things", none), "need_things", "need_things", defArgs (top 25), defBody (top 25), defScope (top 25), [], []⟩
def g_is_ratio : He5.DefA := ⟨fun K => He.fAd K ("is_ratio", none), "is_ratio", "is_ratio", defArgs (top 35), defBody (top 35), defScope (top 35), [], []⟩
def g_ratio_of : He5.DefA := ⟨fun K => He.fAd K ("_ratio_of", none), "_ratio_of", "_ratio_of", defArgs (top 36), defBody (top 36), defScope (top 36), [], []⟩
def g_is_same : He5.DefA := ⟨fun K => He.fAd K ("_is_same", none), "_is_same", "_is_same", defArgs (top 37), defBody (top 37), defScope (top 37), [], []⟩
def g_numbers_in : He5.DefA := ⟨fun K => He.fAd K ("numbers_in", none), "numbers_in", "numbers_in", defArgs (top 41), defBody (top 41), defScope (top 41), [], []⟩
def g_summed : He5.DefA := ⟨fun K => He.fAd K ("_summed", none), "_summed", "_summed", defArgs (top 45), defBody (top 45), defScope (top 45), [], []⟩
def g_times : He5.DefA := ⟨fun K => He.fAd K ("_times", none), "_times", "_times", defArgs (top 46), defBody (top 46), defScope (top 46), [], []⟩
def g_term : He5.DefA := ⟨fun K => He.fAd K ("_term", none), "_term", "_term", defArgs (top 49), defBody (top 49), defScope (top 49), [], []⟩
def g_compared : He5.DefA := ⟨fun K => He.fAd K ("compared", none), "compared", "compared", defArgs (top 67), defBody (top 67), defScope (top 67), [], []⟩
def g_is_kind : He5.DefA := ⟨fun K => He.fAd K ("is_kind", none), "is_kind", "is_kind", defArgs (top 68), defBody (top 68), defScope (top 68), [], []⟩
def g_is_kept : He5.DefA := ⟨fun K => He.fAd K ("is_kept", none), "is_kept", "is_kept", defArgs (top 69), defBody (top 69), defScope (top 69), [], []⟩
def g_gaining : He5.DefA := ⟨fun K => He.fAd K ("_gaining", none), "_gaining", "_gaining", defArgs (top 72), defBody (top 72), defScope (top 72), [], []⟩
def g_law_reel : He5.DefA := ⟨fun K => He.fAd K ("_law_reel", none), "_law_reel", "_law_reel", defArgs (top 79), defBody (top 79), defScope (top 79), [], []⟩
def g_law_turn : He5.DefA := ⟨fun K => He.fAd K ("_law_turn", none), "_law_turn", "_law_turn", defArgs (top 80), defBody (top 80), defScope (top 80), [], []⟩
def g_law_pick : He5.DefA := ⟨fun K => He.fAd K ("_law_pick", none), "_law_pick", "_law_pick", defArgs (top 81), defBody (top 81), defScope (top 81), [], []⟩
def g_law_shared : He5.DefA := ⟨fun K => He.fAd K ("_law_shared", none), "_law_shared", "_law_shared", defArgs (top 82), defBody (top 82), defScope (top 82), [], []⟩
def g_law_sum_text : He5.DefA := ⟨fun K => He.fAd K ("_law_sum_text", none), "_law_sum_text", "_law_sum_text", defArgs (top 86), defBody (top 86), defScope (top 86), [], []⟩
def g_law_line_text : He5.DefA := ⟨fun K => He.fAd K ("_law_line_text", none), "_law_line_text", "_law_line_text", defArgs (top 87), defBody (top 87), defScope (top 87), [], []⟩
def g_law_line : He5.DefA := ⟨fun K => He.fAd K ("_law_line", none), "_law_line", "_law_line", defArgs (top 88), defBody (top 88), defScope (top 88), [], []⟩
def g_law_up : He5.DefA := ⟨fun K => He.fAd K ("_law_up", none), "_law_up", "_law_up", defArgs (top 89), defBody (top 89), defScope (top 89), [], []⟩
def g_law_things : He5.DefA := ⟨fun K => He.fAd K ("_law_things", none), "_law_things", "_law_things", defArgs (top 90), defBody (top 90), defScope (top 90), [], []⟩
def g_law_ratio : He5.DefA := ⟨fun K => He.fAd K ("_law_ratio", none), "_law_ratio", "_law_ratio", defArgs (top 91), defBody (top 91), defScope (top 91), [], []⟩
def g_law_heard : He5.DefA := ⟨fun K => He.fAd K ("_law_heard", none), "_law_heard", "_law_heard", defArgs (top 92), defBody (top 92), defScope (top 92), [], []⟩
def g_law_refused : He5.DefA := ⟨fun K => He.fAd K ("_law_refused", none), "_law_refused", "_law_refused", defArgs (top 93), defBody (top 93), defScope (top 93), [], []⟩
def g_law_form_right : He5.DefA := ⟨fun K => He.fAd K ("_law_form_right", none), "_law_form_right", "_law_form_right", defArgs (top 94), defBody (top 94), defScope (top 94), [], []⟩
def g_law_contraries_right : He5.DefA := ⟨fun K => He.fAd K ("_law_contraries_right", none), "_law_contraries_right", "_law_contraries_right", defArgs (top 95), defBody (top 95), defScope (top 95), [], []⟩
def g_law_rows_right : He5.DefA := ⟨fun K => He.fAd K ("_law_rows_right", none), "_law_rows_right", "_law_rows_right", defArgs (top 96), defBody (top 96), defScope (top 96), [], []⟩
def g_law : He5.DefA := ⟨fun K => He.fAd K ("law", none), "law", "law", defArgs (top 97), defBody (top 97), defScope (top 97), [], []⟩
def fn : List He5.DefA := [e_BadRatio, e_BadBalance, e_BadComparison, e_BadPair, e_BadScale, e_BadNumber, e_NoThing, r_init, r_of, r_add, r_sub, r_mul, r_neg, r_eq, r_str, b_init, b_number_of, b_gains, b_losses, b_least, b_add, b_sub, b_neg, b_mul, b_eq, b_str, p_init, p_as_rows, p_eq, p_str, m_init, m_contraries, m_eq, m_str, s_init, s_worth, s_outcome, s_keeps, g_writtenR, g_writtenB, g_is_integer, g_is_within, g_is_name, g_is_list, g_are_names, g_need_things, g_is_ratio, g_ratio_of, g_is_same, g_numbers_in, g_summed, g_times, g_term, g_compared, g_is_kind, g_is_kept, g_gaining, g_law_reel, g_law_turn, g_law_pick, g_law_shared, g_law_sum_text, g_law_line_text, g_law_line, g_law_up, g_law_things, g_law_ratio, g_law_heard, g_law_refused, g_law_form_right, g_law_contraries_right, g_law_rows_right, g_law]
def fa : List He.Fa := [.glo "is_integer", .glo "is_within", .glo "is_name", .glo "is_list", .glo "are_names", .glo "need_things", .glo "is_ratio", .glo "_ratio_of", .glo "_is_same", .glo "numbers_in", .glo "_summed", .glo "_times", .glo "_term", .glo "compared", .glo "is_kind", .glo "is_kept", .glo "_gaining", .glo "_law_reel", .glo "_law_turn", .glo "_law_pick", .glo "_law_shared", .glo "_law_sum_text", .glo "_law_line_text", .glo "_law_line", .glo "_law_up", .glo "_law_things", .glo "_law_ratio", .glo "_law_heard", .glo "_law_refused", .glo "_law_form_right", .glo "_law_contraries_right", .glo "_law_rows_right", .glo "law", .glo "written_ratios", .glo "written_balances", .glo "Ratio", .glo "Balance", .glo "Pair", .glo "Comparison", .glo "Scale", .glo "ScaleError", .glo "KINDS", .glo "BadRatio", .glo "BadBalance", .glo "BadComparison", .glo "BadPair", .glo "BadScale", .glo "BadNumber", .glo "NoThing", .free "isinstance", .free "int", .free "bool", .free "str", .free "len", .free "list", .free "tuple", .free "dict", .free "all", .free "abs", .free "range", .free "sorted", .int "_LONGEST" 12, .str "_LETTERS" letS, .str "_SIGNS" sigS, .cls "Ratio", .cls "Balance", .cls "Pair", .cls "Comparison", .cls "Scale", .noat "Ratio" "top", .noat "Ratio" "bottom", .noat "Ratio" "sign", .noat "Ratio" "is_whole", .noat "Ratio" "below", .noat "Balance" "_numbers", .noat "Balance" "things", .noat "Balance" "is_nothing", .noat "Balance" "key", .noat "Pair" "balance", .noat "Pair" "first", .noat "Pair" "second", .noat "Pair" "things", .noat "Comparison" "balance", .noat "Comparison" "kind", .noat "Comparison" "things", .noat "Comparison" "pair", .noat "Scale" "_worths", .noat "Scale" "things", .meth "Balance" "number_of", .meth "Balance" "gains", .meth "Balance" "losses", .meth "Balance" "least", .meth "Pair" "as_rows", .meth "Comparison" "contraries", .meth "Scale" "worth", .meth "Scale" "outcome", .meth "Scale" "keeps", .mkr "Ratio", .mkr "Balance", .mkr "Pair", .mkr "Comparison", .mkr "Scale"]
abbrev cR (K : PySem.W.Frag) : Addr := He.ga K "Ratio"
def kitB (K : PySem.W.Frag) (a b : Value) (r : Bool) : Bool := decide (PySem.W.kitOne K a b = some r)
def rightB (K : PySem.W.Frag) (nm : String) (T : String) : Bool := (PySem.W.findIn K (.type T) (PySem.dunder nm)).isSome && ((PySem.W.findIn K (.type T) (dunderR nm)).isSome && decide (PySem.W.subIn K (.type T) (.ref (cR K)) = some false))
def opB (K : PySem.W.Frag) (nm : String) : Bool := He.eqO (PySem.W.findIn K (.ref (cR K)) (PySem.dunder nm)) (some (some (.ref (He.ma K (cR K) (PySem.dunder nm))))) && (PySem.W.isFn K (.ref (He.ma K (cR K) (PySem.dunder nm))) && (He.eqO (PySem.W.findIn K (.ref (cR K)) (dunderR nm)) (some none) && ("int" :: oddTypes).all fun T => rightB K nm T))
def ownB (K : PySem.W.Frag) (m : Str) : Bool := He.eqO (PySem.W.findIn K (.ref (cR K)) m) (some (some (.ref (He.ma K (cR K) m)))) && PySem.W.isFn K (.ref (He.ma K (cR K) m))
def ratIB (K : PySem.W.Frag) : Bool := He.eqO (PySem.W.findIn K (.ref (cR K)) "__class__") (some (some (.builtin "object.__class__"))) && (He.eqO (PySem.W.specialIn K (.builtin "object.__class__") "__get__") (some (some (.builtin "getset_descriptor.__get__"))) &&
  (decide (PySem.W.takesIn K (.builtin "object.__class__") = some true) && (decide (PySem.W.mroIn K (cR K) (.type "object") = some true) && (kitB K (.ref (cR K)) (.ref (cR K)) true && (kitB K (.ref (cR K)) (.type "int") false && (kitB K (.ref (cR K)) (.type "bool") false && kitB K (.type "int") (.ref (cR K)) false))))))
def oddB (K : PySem.W.Frag) : Bool := PySem.W.selfFirst K (cR K) && (oddTypes.all fun T => kitB K (.type T) (.ref (cR K)) false)
abbrev cB (K : PySem.W.Frag) : Addr := He.ga K "Balance"
abbrev cP (K : PySem.W.Frag) : Addr := He.ga K "Pair"
abbrev cM (K : PySem.W.Frag) : Addr := He.ga K "Comparison"
abbrev cS (K : PySem.W.Frag) : Addr := He.ga K "Scale"
abbrev cE (K : PySem.W.Frag) : Addr := He.ga K "ScaleError"
def clsB (K : PySem.W.Frag) : Bool := PySem.W.readsIn K (cR K) (.type "type") && (He.eqO (PySem.W.specialIn K (.ref (cR K)) "__getattribute__") (some (some (.builtin "type.__getattribute__"))) && (He5.wrapB K (cR K) "staticmethod" "staticmethod.__get__" "of" && PySem.W.keepIn K (.ref (He5.wf K (cR K) "staticmethod" "of"))))
def gcdB (K : PySem.W.Frag) : Bool := He.eqO (PySem.W.nsIn K mainGlobals "gcd") (some (some (.builtin "math.gcd"))) && He.eqO (PySem.W.nsIn K mainGlobals "lcm") (some (some (.builtin "math.lcm")))
def nfB (K : PySem.W.Frag) : Bool := PySem.W.notFirst K (cR K) (.type "int") && He.eqO (PySem.W.findIn K (.ref (cR K)) "__format__") (some (some (.builtin "object.__format__")))
def balTB (K : PySem.W.Frag) : Bool := He.eqO (PySem.W.findIn K (.ref (cB K)) "__class__") (some (some (.builtin "object.__class__"))) && (decide (PySem.W.mroIn K (cB K) (.type "object") = some true) && (kitB K (.ref (cB K)) (.ref (cB K)) true && decide (cR K ≠ cB K)))
def balOB (K : PySem.W.Frag) : Bool := PySem.W.selfFirst K (cB K) && (He.eqO (PySem.W.findIn K (.ref (cB K)) (dunderR "mul")) (some none) && (decide (PySem.W.subIn K (.ref (cR K)) (.ref (cB K)) = some false) && (PySem.W.notFirst K (cB K) (.ref (cB K)) && (He.eqO (PySem.W.findIn K (.ref (cB K)) "__ne__") (some (some (.builtin "object.__ne__"))) && decide (PySem.W.subIn K (.ref (cB K)) (.type "object") = some true)))))
def balRB (K : PySem.W.Frag) : Bool := (PySem.W.findIn K (.type "int") (PySem.dunder "mul")).isSome && ((PySem.W.findIn K (.type "int") (dunderR "mul")).isSome && decide (PySem.W.subIn K (.type "int") (.ref (cB K)) = some false))
def ownXB (K : PySem.W.Frag) (C : Addr) (m : Str) : Bool := He.eqO (PySem.W.findIn K (.ref C) m) (some (some (.ref (He.ma K C m)))) && PySem.W.isFn K (.ref (He.ma K C m))
def ownsR : List Str := ["__neg__", "__eq__", "__str__"]
def ownsB : List Str := ["__add__", "__sub__", "__neg__", "__mul__", "__eq__", "__str__"]
def ownsP : List Str := ["__eq__", "__str__"]
/-- what the instances of C are -/
def typB (K : PySem.W.Frag) (C : Addr) : Bool := He.eqO (PySem.W.findIn K (.ref C) "__class__") (some (some (.builtin "object.__class__"))) && (decide (PySem.W.mroIn K C (.type "object") = some true) && kitB K (.ref C) (.ref C) true)
/-- how C is compared -/
def neqB (K : PySem.W.Frag) (C : Addr) : Bool := PySem.W.notFirst K C (.ref C) && (He.eqO (PySem.W.findIn K (.ref C) "__ne__") (some (some (.builtin "object.__ne__"))) && decide (PySem.W.subIn K (.ref C) (.type "object") = some true))
def neRB (K : PySem.W.Frag) : Bool := He.eqO (PySem.W.findIn K (.ref (cR K)) "__ne__") (some (some (.builtin "object.__ne__"))) && (decide (PySem.W.subIn K (.ref (cR K)) (.type "object") = some true) && He.eqO (PySem.W.findIn K (.ref (cB K)) "__format__") (some (some (.builtin "object.__format__"))))
def firB (K : PySem.W.Frag) : Bool := PySem.W.notFirst K (cP K) (.ref (cM K)) && (PySem.W.notFirst K (cP K) (.ref (cB K)) && (PySem.W.notFirst K (cM K) (.type "str") && PySem.W.notFirst K (cM K) (.ref (cB K))))
def kinB (K : PySem.W.Frag) : Bool := kitB K (.ref (cM K)) (.ref (cP K)) false && (kitB K (.ref (cB K)) (.ref (cP K)) false && (kitB K (.type "str") (.ref (cM K)) false && (kitB K (.ref (cB K)) (.ref (cM K)) false && ((["NoneType", "int", "str", "dict"] : List String).all (fun T => kitB K (.type T) (.ref (cB K)) false) && (kitB K (.ref (cP K)) (.ref (cB K)) false && kitB K (.ref (cS K)) (.ref (cB K)) false)))))
def difB (K : PySem.W.Frag) : Bool := decide (cP K ≠ cB K) && (decide (cP K ≠ cR K) && (decide (cM K ≠ cP K) && (decide (cM K ≠ cB K) && (decide (cM K ≠ cR K) && decide (cS K ≠ cR K)))))
def ercB (K : PySem.W.Frag) (x : Str) (i : Nat) : Bool := decide (PySem.W.exmOne K (.ref (He.ga K x)) (.ref (cE K)) = some true) && (kitB K (.ref (He.ga K x)) (.ref (He.ga K "BadBalance")) (decide (i = 0)) && (kitB K (.ref (He.ga K x)) (.ref (He.ga K "BadComparison")) (decide (i = 1)) && (kitB K (.ref (He.ga K x)) (.ref (He.ga K "BadPair")) (decide (i = 2)) && kitB K (.ref (He.ga K x)) (.ref (He.ga K "BadNumber")) (decide (i = 3)))))
def kdsB (K : PySem.W.Frag) : Bool := match K.lookup (He.ga K "KINDS") with
  | some o => decide (o.cls = .type "tuple") && (match o.data with
    | .seq its _ => (match its.toList with
      | [.str a _, .str b _, .str c _] => decide (a = (">" : Str)) && (decide (b = (">=" : Str)) && decide (c = ("=" : Str)))
      | _ => false)
    | _ => false)
  | none => false
def fx1 : List (PySem.W.Frag → Bool) := [errB "BadRatio" ["part"], errB "BadBalance" ["part"], errB "BadComparison" ["part"], errB "BadPair" ["part"], errB "BadScale" ["part"], errB "BadNumber" ["part"], errB "NoThing" ["name"], ratIB, oddB, fun K => opB K "add", fun K => opB K "sub", fun K => opB K "mul", fun K => ownsR.all fun m => ownXB K (cR K) m, clsB]
def fx2 : List (PySem.W.Frag → Bool) := [gcdB, nfB, balTB, balOB, balRB, fun K => ownsB.all fun m => ownXB K (cB K) m, fun K => ownsP.all fun m => ownXB K (cP K) m, fun K => ownsP.all fun m => ownXB K (cM K) m, fun K => typB K (cP K), fun K => typB K (cM K), fun K => typB K (cS K), fun K => neqB K (cP K)]
def fx3 : List (PySem.W.Frag → Bool) := [fun K => neqB K (cM K), neRB, firB, kinB, difB, fun K => ercB K "BadBalance" 0, fun K => ercB K "BadComparison" 1, fun K => ercB K "BadPair" 2, fun K => ercB K "BadNumber" 3, kdsB]
def fx : List (PySem.W.Frag → Bool) := fx1 ++ (fx2 ++ fx3)
def tf : List He.Defn := [("_law_refused", none)]
/-- where the head's objects stand -/
def asx : List Addr := [3, 6, 4, 49, 59, 79, 98, 117, 136, 155, 174, 193, 212, 231, 250, 269, 278, 285, 290, 297, 302, 309, 316, 323, 330, 396, 407, 414, 536, 547, 554, 561, 1106, 568, 573, 578, 684, 695, 700, 705, 710, 717, 866, 724, 725, 784, 805, 831, 838, 845, 852, 859, 867, 915, 967, 978, 985, 992, 999, 1006, 1013, 1097, 1113, 1118, 1125, 1132, 1139, 1146, 1153, 1160, 1165, 1170, 1175, 1180, 1187, 1194, 1201, 1208, 1213, 1220, 1225, 1230, 0, 48, 58, 78, 97, 116, 135, 154, 173, 192, 211, 230, 249, 268, 277, 284, 289, 296, 301, 308, 315, 322, 329, 395, 406, 413, 535, 546, 553, 560, 1105, 567, 572, 577, 683, 694, 699, 704, 709, 716, 865, 723, 783, 804, 830, 837, 844, 851, 858, 914, 966, 977, 984, 991, 998, 1005, 1012, 1096, 1112, 1117, 1124, 1131, 1138, 1145, 1152, 1159, 1164, 1169, 1174, 1179, 1186, 1193, 1200, 1207, 1212, 1219, 1224, 1229, 43, 44, 45, 46, 47, 57, 60, 76, 77, 95, 96, 114, 115, 133, 134, 152, 153, 171, 172, 190, 191, 209, 210, 228, 229, 247, 248, 266, 267, 272, 273, 274, 275, 276, 279, 280, 281, 282, 283, 286, 287, 288, 291, 292, 293, 294, 295, 298, 299, 300, 303, 304, 305, 306, 307, 310, 311, 312, 313, 314, 317, 318, 319, 320, 321, 324, 325, 326, 327, 328, 344, 351, 358, 365, 372, 379, 386, 393, 394, 397, 398, 401, 402, 403, 404, 405, 408, 409, 410, 411, 412, 429, 438, 448, 456, 463, 470, 477, 484, 491, 498, 505, 512, 519, 526, 533, 534, 537, 538, 541, 542, 543, 544, 545, 548, 549, 550, 551, 552, 555, 556, 557, 558, 559, 1102, 1103, 1104, 562, 563, 564, 565, 566, 569, 570, 571, 574, 575, 576, 590, 599, 609, 617, 622, 627, 632, 639, 646, 653, 660, 667, 674, 681, 682, 685, 686, 689, 690, 691, 692, 693, 696, 697, 698, 701, 702, 703, 706, 707, 708, 711, 712, 713, 714, 715, 860, 861, 862, 863, 864, 718, 719, 720, 721, 722, 739, 746, 753, 760, 767, 774, 781, 782, 785, 786, 802, 803, 821, 828, 829, 834, 835, 836, 839, 840, 841, 842, 843, 846, 847, 848, 849, 850, 853, 854, 855, 856, 857, 881, 890, 898, 905, 912, 913, 916, 917, 933, 942, 950, 957, 964, 965, 968, 969, 972, 973, 974, 975, 976, 979, 980, 981, 982, 983, 986, 987, 988, 989, 990, 993, 994, 995, 996, 997, 1000, 1001, 1002, 1003, 1004, 1007, 1008, 1009, 1010, 1011, 1027, 1036, 1044, 1051, 1058, 1065, 1070, 1075, 1080, 1087, 1094, 1095, 1098, 1099, 1107, 1108, 1109, 1110, 1111, 1114, 1115, 1116, 1119, 1120, 1121, 1122, 1123, 1126, 1127, 1128, 1129, 1130, 1133, 1134, 1135, 1136, 1137, 1140, 1141, 1142, 1143, 1144, 1147, 1148, 1149, 1150, 1151, 1154, 1155, 1156, 1157, 1158, 1161, 1162, 1163, 1166, 1167, 1168, 1171, 1172, 1173, 1176, 1177, 1178, 1181, 1182, 1183, 1184, 1185, 1188, 1189, 1190, 1191, 1192, 1195, 1196, 1197, 1198, 1199, 1202, 1203, 1204, 1205, 1206, 1209, 1210, 1211, 1214, 1215, 1216, 1217, 1218, 1221, 1222, 1223, 1226, 1227, 1228, 75, 94, 113, 132, 151, 170, 189, 208, 227, 246, 265, 343, 350, 357, 364, 371, 378, 385, 392, 428, 422, 436, 437, 446, 447, 455, 462, 469, 476, 483, 490, 497, 504, 511, 518, 525, 532, 589, 597, 598, 607, 608, 616, 621, 626, 631, 638, 645, 652, 659, 666, 673, 680, 738, 745, 752, 759, 766, 773, 780, 801, 820, 827, 880, 888, 889, 897, 904, 911, 932, 940, 941, 949, 956, 963, 1026, 1034, 1035, 1043, 1050, 1057, 1064, 1069, 1074, 1079, 1086, 1093, 70, 71, 72, 73, 74, 89, 90, 91, 92, 93, 108, 109, 110, 111, 112, 127, 128, 129, 130, 131, 146, 147, 148, 149, 150, 165, 166, 167, 168, 169, 184, 185, 186, 187, 188, 203, 204, 205, 206, 207, 222, 223, 224, 225, 226, 241, 242, 243, 244, 245, 260, 261, 262, 263, 264, 338, 339, 340, 341, 342, 345, 346, 347, 348, 349, 352, 353, 354, 355, 356, 359, 360, 361, 362, 363, 366, 367, 368, 369, 370, 373, 374, 375, 376, 377, 380, 381, 382, 383, 384, 387, 388, 389, 390, 391, 423, 424, 425, 426, 427, 435, 439, 445, 449, 450, 451, 452, 453, 454, 457, 458, 459, 460, 461, 464, 465, 466, 467, 468, 471, 472, 473, 474, 475, 478, 479, 480, 481, 482, 485, 486, 487, 488, 489, 492, 493, 494, 495, 496, 499, 500, 501, 502, 503, 506, 507, 508, 509, 510, 513, 514, 515, 516, 517, 520, 521, 522, 523, 524, 527, 528, 529, 530, 531, 586, 587, 588, 596, 600, 606, 610, 611, 612, 613, 614, 615, 618, 619, 620, 623, 624, 625, 628, 629, 630, 633, 634, 635, 636, 637, 640, 641, 642, 643, 644, 647, 648, 649, 650, 651, 654, 655, 656, 657, 658, 661, 662, 663, 664, 665, 668, 669, 670, 671, 672, 675, 676, 677, 678, 679, 733, 734, 735, 736, 737, 740, 741, 742, 743, 744, 747, 748, 749, 750, 751, 754, 755, 756, 757, 758, 761, 762, 763, 764, 765, 768, 769, 770, 771, 772, 775, 776, 777, 778, 779, 796, 797, 798, 799, 800, 815, 816, 817, 818, 819, 822, 823, 824, 825, 826, 875, 876, 877, 878, 879, 887, 891, 892, 893, 894, 895, 896, 899, 900, 901, 902, 903, 906, 907, 908, 909, 910, 927, 928, 929, 930, 931, 939, 943, 944, 945, 946, 947, 948, 951, 952, 953, 954, 955, 958, 959, 960, 961, 962, 1021, 1022, 1023, 1024, 1025, 1033, 1037, 1038, 1039, 1040, 1041, 1042, 1045, 1046, 1047, 1048, 1049, 1052, 1053, 1054, 1055, 1056, 1059, 1060, 1061, 1062, 1063, 1066, 1067, 1068, 1071, 1072, 1073, 1076, 1077, 1078, 1081, 1082, 1083, 1084, 1085, 1088, 1089, 1090, 1091, 1092, 2]
abbrev RR : PySem.W.OpenRow := PySem.W.OpenLaw.row PySem.Challenge.rw_scaleborn_k09_multiples_are_one_pair
abbrev hk : PySem.W.Hook := hookK asx fa fn fx tf
def ob (s : PySem.W.SharedT) : He.AlD × Bool := obsK asx fa fn fx tf (HandSHeadRun.getT s)
theorem ob_eq (s : PySem.W.SharedT) : ob s = hk.obs s.abs := obK_eq asx fa fn fx tf s
def loose1 : List Str := ["_wall", "ScaleError", "BadRatio", "BadBalance", "BadComparison", "BadPair", "BadScale", "BadNumber", "Missing", "NoThing", "Twice", "Unlike", "BadText", "_LETTERS", "_SIGNS", "_LONGEST", "is_integer", "is_within", "is_name", "is_list"]
def loose2 : List Str := ["are_names", "need_different", "need_things", "name_above", "free_name", "_MOST_DIGITS", "Reader", "reader_of", "whole_in", "Ratio", "is_ratio", "_ratio_of", "_is_same", "_written", "written_ratios", "ratio_in", "numbers_in", "Balance", "_counts", "_summed"]
def loose3 : List Str := ["_times", "written_balances", "_term", "_read_term", "read_term_balances", "_UNTURNED", "Part", "FirstPart", "SecondPart", "read_sums", "_read_kind", "_lets_turned", "_read_sum", "read_term_sums", "KINDS", "Comparison", "Pair", "compared", "is_kind", "is_kept"]
def loose4 : List Str := ["read_comparison", "read_pair", "_gaining", "Scale", "written_scales", "_read_worth", "_law_reel", "_law_turn", "_law_pick", "_law_shared", "_law_low", "_law_plus", "_law_by", "_law_sum_text", "_law_line_text", "_law_line", "_law_up", "_law_things", "_law_ratio", "_law_heard"]
def loose5 : List Str := ["_law_refused", "_law_form_right", "_law_contraries_right", "_law_rows_right"]
abbrev loose : List Str := loose1 ++ (loose2 ++ (loose3 ++ (loose4 ++ (loose5))))
abbrev frK (s : PySem.W.SharedT) : PySem.W.Frag := He.frT (HandSHeadRun.getT s) asx
abbrev qq : Program := PySem.W.view RR.prog [0, 97]
theorem map2 {X A B D : Type} {W : Option X} {f : X → A} {g : X → B} {a : A} {b : B} (h1 : W.map f = some a) (h2 : W.map g = some b) (k : A → B → D) : W.map (fun x => k (f x) (g x)) = some (k a b) := by
  cases W with
  | none => cases h1
  | some x =>
    injection h1 with h1
    injection h2 with h2
    show some (k (f x) (g x)) = _
    rw [h1, h2]
theorem run0 (w : World) : (HandSHeadRun.wholeF (fun p => HandSHeadRun.stepQ (HandSHeadRun.denQ HandSHeadRun.tabQ) p w) HandSHeadRun.fenceQ 40000 RR.prog).map (fun x => (HandSHeadRun.looksF RR.prog x.1.heap x.2.abs, HandSHeadRun.seenQ qq loose (PySem.importedModules RR.prog.main.body) (fun s => PySem.W.xlAt qq [] s && PySem.W.recOk RR.toRowW.records s) x.2.abs)) = some (true, PySem.W.openGood qq loose) := by
  kernel_rfl
theorem run6 (w : World) : (HandSHeadRun.wholeF (fun p => HandSHeadRun.stepQ (HandSHeadRun.denQ HandSHeadRun.tabQ) p w) HandSHeadRun.fenceQ 40000 RR.prog).map (fun x => fa.all fun f => f.ok (frK x.2)) = some true := by
  kernel_rfl
theorem run7 (w : World) : (HandSHeadRun.wholeF (fun p => HandSHeadRun.stepQ (HandSHeadRun.denQ HandSHeadRun.tabQ) p w) HandSHeadRun.fenceQ 40000 RR.prog).map (fun x => He5.obsA [] fn (frK x.2)) = some (He5.valA fn) := by
  kernel_rfl
theorem run2 (w : World) : (HandSHeadRun.wholeF (fun p => HandSHeadRun.stepQ (HandSHeadRun.denQ HandSHeadRun.tabQ) p w) HandSHeadRun.fenceQ 40000 RR.prog).map (fun x => (fx.all fun f => f (frK x.2)) && He.tabsB (HandSHeadRun.getT x.2) tf (frK x.2)) = some true := by
  kernel_rfl
theorem run (w : World) : HandSHeadRun.RunEqI RR qq hk ob 40000 loose w := by
  have h := map2 (map2 (run0 w) (map2 (run6 w) (run7 w) fun (b : Bool) (c : He.AlD) => (b && c.1, c.2)) Prod.mk) (run2 w) (fun (x : (Bool × _) × He.AlD) (y : Bool) => (x.1.1, x.1.2, (x.2, y)))
  refine Eq.trans ?_ h
  refine congrArg (fun F => Option.map F _) (funext fun x => ?_)
  show (_, _, (((fa.all fun f => f.ok (frK x.2)) && fn.all fun d => d.ok (frK x.2), _), _)) = _
  simp only [He5.obsA, List.all_nil, Bool.true_and]
end K09
namespace L2
open PySem PySem.Spec PyProof.Rows
/-! dicts of integers, ==, whichever way it goes -/
def hitB (ls ks : List (Key × V)) : Bool := ks.all fun p => decide (valV ls p.1 = some p.2)
def IntsD (ks : List (Key × V)) : Prop := ∀ p ∈ ks, ∃ i : Int, p.2 = V.int i
theorem IntsD.val {ks : List (Key × V)} (h : IntsD ks) {k : Key} {z : V} (e : valV ks k = some z) : ∃ i : Int, z = .int i := by
  unfold valV at e
  obtain ⟨p, hp, rfl⟩ := Option.map_eq_some_iff.mp e
  exact h p (List.mem_of_find?_eq_some hp)
theorem hits_int {A : Around} {s : Shared} {ls : List (Key × V)} {vb : List (Key × Value)} (rb : KV ls vb) (hl : IntsD ls) {ks : List (Key × V)} {va : List (Key × Value)} (ra : KV ks va) (hk : IntsD ks) : PySem.W.KeqHits A s vb va (hitB ls ks) := by
  unfold KV at ra
  induction ra with
  | nil => exact .nil
  | @cons p q ps qs h t ih =>
    obtain ⟨h1, h2⟩ := h
    obtain ⟨k, v⟩ := q
    have h1' : p.1 = k := h1
    subst h1'
    have ih := ih fun p' hm => hk p' (List.mem_cons_of_mem _ hm)
    obtain ⟨i, ei⟩ := hk p List.mem_cons_self
    rw [ei] at h2
    obtain ⟨t1, ev⟩ := (show ∃ t, v = Value.int i t from h2)
    subst ev
    have rr : RelO (valV ls p.1) (valueAt vb p.1) := rb.val p.1
    have hb : hitB ls (p :: ps) = (decide (valV ls p.1 = some (V.int i)) && hitB ls ps) := by
      show (decide (valV ls p.1 = some p.2) && _) = _
      rw [ei]
      rfl
    rw [hb]
    cases e : valV ls p.1 with
    | none =>
      rw [e] at rr
      have hn : valueAt vb p.1 = none := by
        cases hv : valueAt vb p.1 with
        | none => rfl
        | some y => rw [hv] at rr; exact False.elim rr
      exact .miss hn
    | some z =>
      obtain ⟨j, rfl⟩ := hl.val e
      rw [e] at rr
      obtain ⟨y, hy, ry⟩ := rr.some_of
      obtain ⟨t2, rfl⟩ := (show ∃ t, y = Value.int j t from ry)
      have ee : decide (some (V.int j) = some (V.int i)) = (i == j) := by
        rw [Bool.eq_iff_iff, decide_eq_true_iff, beq_iff_eq]
        constructor
        · intro h; injection h with h; injection h with h; exact h.symm
        · intro h; rw [h]
      rw [ee]
      exact .hit hy (PySem.SeqAt.EqAt.int_int i t1 j t2) ih
def rEqDZ : R2 := fun x y H Q => ∃ (a b : Addr) (ks ls : List (Key × V)), x = .ref a ∧ y = .ref b ∧ H a = some (.dK ks) ∧ H b = some (.dK ls) ∧ IntsD ks ∧ IntsD ls ∧ Q (.bl (ks.length == ls.length && hitB ls ks)) H
section
variable {X : Cx}
theorem op_eq_dictZ (hu : X.A.units < cLine) : OpR X (compareOp .Eq) rEqDZ := by
  intro pins s σ H x y v u Q I rx ry h
  obtain ⟨a, b, ks, ls, rfl, rfl, ea, eb, hk, hl, q⟩ := h
  obtain rfl : v = Value.ref a := rx
  obtain rfl : u = Value.ref b := ry
  obtain ⟨_, ya, va, ra, da⟩ := (show ObjOk X.prog X.w H s.heap a (.dK ks) from I.hok a _ ea)
  obtain ⟨_, yb, vb, rb, db⟩ := (show ObjOk X.prog X.w H s.heap b (.dK ls) from I.hok b _ eb)
  have e1 : va.length = ks.length := ra.length.symm
  have e2 : vb.length = ls.length := rb.length.symm
  exact PySem.W.keq_eq (knd := mixKind X.prog X.w) (r := hitB ls ks) ya yb da db hu (fun _ => hits_int rb hl ra hk) (fin_bl I q (by rw [e1, e2]))
end
end L2
namespace L2
open PySem PySem.Spec PyProof.Rows ClX
/-- all values by keywords, in the parameters' order -/
def BindsK (fd : FuncData) (ps : List Str) : Prop := ∀ (s : Shared) (zs : List Value), zs.length = ps.length → BindsTo s fd ⟨[], ps.zip zs⟩ (ps.zip zs)
theorem FunD.bindsK {K : PySem.W.Frag} {x qual : Str} {params : Arguments} {body : List Stmt} {scope : Scope} {kws : List (Str × V)} {f : Addr} {fd : FuncData} {ps : List Str} (F : FunD K x qual params body scope [] kws f fd)
    (h : ∀ (kV doc pm : Value) (an : Option Addr) (cdv ct : Value) (zs : List Value), zs.length = ps.length → bindArgs (PySem.W.fnOf x qual params body scope .none kV doc pm an cdv ct) ⟨[], ps.zip zs⟩ = pure (ps.zip zs)) : BindsK fd ps := by
  obtain ⟨oc, od, dV, kV, doc, pm, an, cdv, ct, osl, rfl, lk, hcd, hD, hK⟩ := F.ex
  rcases hD with ⟨_, rfl⟩ | ⟨e, _⟩
  · exact fun s zs hl => .of_eq (h kV doc pm an cdv ct zs hl)
  · exact absurd rfl e
/-- o.m(k = e, ..) -/
def BindsKM (fd : FuncData) (p : Str) (ps : List Str) : Prop := ∀ (s : Shared) (a : Addr) (zs : List Value), (Value.ref a :: zs).length = (p :: ps).length → BindsTo s fd ⟨[.ref a], ps.zip zs⟩ ((p :: ps).zip (.ref a :: zs))
theorem FunD.bindsKM {K : PySem.W.Frag} {x qual : Str} {params : Arguments} {body : List Stmt} {scope : Scope} {kws : List (Str × V)} {f : Addr} {fd : FuncData} {p : Str} {ps : List Str} (F : FunD K x qual params body scope [] kws f fd)
    (h : ∀ (kV doc pm : Value) (an : Option Addr) (cdv ct : Value) (a : Addr) (zs : List Value), zs.length = ps.length → bindArgs (PySem.W.fnOf x qual params body scope .none kV doc pm an cdv ct) ⟨[.ref a], ps.zip zs⟩ = pure ((p :: ps).zip (.ref a :: zs))) : BindsKM fd p ps := by
  obtain ⟨oc, od, dV, kV, doc, pm, an, cdv, ct, osl, rfl, lk, hcd, hD, hK⟩ := F.ex
  rcases hD with ⟨_, rfl⟩ | ⟨e, _⟩
  · exact fun s a zs hl => .of_eq (h kV doc pm an cdv ct a zs (Nat.succ.inj hl))
  · exact absurd rfl e
/-- f(k = e, ..), all by keywords -/
def tCallK0 (sp : Sp) (E : XK) (t : TA) : TE := fun σ H Q => t σ H fun vs H1 => sp vs H1 Q E
section
variable {X : Cx} {CX : CXT} {k : Nat} {f : Addr} {fd : FuncData} {ps : List Str} {sp : Sp} {E : XK} {x : Str} {p pos : Pos} {kws : List Keyword} {tk : TA}
theorem pe_callK0 (F : FnOk X.prog X.w X.K X.mg X.base CX k f fd ps sp) (hr : Room k X.A) (hg : Gl X x) (hm : X.mg x = some (.ref f)) (hk : PySem.W.keepIn X.K (.ref f) = true) (hb : BindsK fd ps) (hx : Passes CX X E) (hkw : PK X kws tk)
    (hall : (backToKw pos (keywordEach kws X.env)).all (·.1.isSome) = true := by rfl) (hks : (backToKw pos (keywordEach kws X.env)).filterMap (·.1) = ps := by rfl) (hdb : (x == ("__debug__" : Str)) = false := by decide)
    (hpl : ((backTo pos (starEach [] X.env)).any (·.1) || (backToKw pos (keywordEach kws X.env)).any (·.1.isNone)) = false := by rfl) :
    PE X (.Call (.Name x p) [] kws pos) (tCallK0 sp E tk) := by
  refine ⟨fun pins s σ H Q I h => ?_⟩
  refine wpAny_Call_Name_kw (ld_glob I hg hm ?_ hdb)
  refine PySem.W.callWith_KW0 (first := []) (h₀ := X.base) I.ok.mod.kin hk hall ?_ hpl
  refine thn (hkw.run pos pins s σ H _ I h) fun us s2 ⟨vs, H2, I2, r, q2⟩ => ⟨I2.kIn, ?_⟩
  rw [hks]
  have hl : us.length = ps.length := r.length.symm.trans (F.len _ _ _ _ q2)
  refine wpAny_call (codeAny_mono (F.run X.A X.stack s2 H2 ⟨[], ps.zip us⟩ us vs Q E hr I2.env0 (hb s2 us hl) r q2) fun r s' hq => ?_)
  match r, hq with
  | .error e, hq => exact hx pins σ H2 s2 e s' I2 hq
  | .ok (.ret u), hq => exact I2.after hq
  | .ok .next, hq => exact hq.elim
  | .ok .brk, hq => exact hq.elim
  | .ok .cont, hq => exact hq.elim
/-- f(), f told of by FnR -/
theorem pe_callR0 (F : FnR X.prog X.w X.K X.mg X.base CX k f sp) (hr : Room k X.A) (hg : Gl X x) (hm : X.mg x = some (.ref f)) (hk : PySem.W.keepIn X.K (.ref f) = true) (hx : Passes CX X E) (hd : (x == ("__debug__" : Str)) = false := by decide) :
    PE X (.Call (.Name x p) [] [] pos) (fun _ H Q => sp [] H Q E) := by
  refine ⟨fun pins s σ H Q I h => ?_⟩
  refine wpAny_Call_Name_kw (ld_glob I hg hm ?_ hd)
  exact PySem.W.callWith_K0 I.kIn hk (wpAny_call (run_fnR F hr hx I .nil h))
/-- C.m(k = e, ..), m a staticmethod -/
theorem pe_smethK0 {C q : Addr} {mc : Value} {o : Expr} {m : Str} {apos : Pos} {ta : TE} {pl : Sem Bool}
    (he : PE X o ta) (r : CRead X.K C mc) (c : SMet X.K C mc m q f) (F : FnOk X.prog X.w X.K X.mg X.base CX k f fd ps sp) (hr : Room k X.A) (hb : BindsK fd ps) (hx : Passes CX X E) (hkw : PK X kws tk)
    (hall : (backToKw pos (keywordEach kws X.env)).all (·.1.isSome) = true := by rfl) (hks : (backToKw pos (keywordEach kws X.env)).filterMap (·.1) = ps := by rfl)
    (hpl : ((backTo pos (starEach [] X.env)).any (·.1) || (backToKw pos (keywordEach kws X.env)).any (·.1.isNone)) = false := by rfl)
    (ht : eval (.Call (.Attribute o m apos) [] kws pos) X.env = (do
      let ov ← eval o X.env
      standAt apos.atName
      let (f, first) ← holding [ov] (getMethod ov m pl)
      callWith pos f first (backTo pos (starEach [] X.env)) (backToKw pos (keywordEach kws X.env))) := by rfl) :
    PE X (.Call (.Attribute o m apos) [] kws pos) (tSMeth C sp E ta tk) := by
  refine ⟨fun pins s σ H Q I h => ?_⟩
  refine PySem.W.methodCall_KW (pl := pl) (thn (he.run pins s σ H _ I h) fun u s1 ⟨x, H1, I1, rx, ex, q⟩ => ?_) ht
  subst ex
  obtain rfl : u = Value.ref C := rx
  refine getsm_ok I1 r c fun s2 I2 => ?_
  refine PySem.W.callWith_KW0 (first := []) (h₀ := X.base) I2.ok.mod.kin c.kp hall ?_ hpl
  refine thn (hkw.run pos pins s2 σ H1 _ I2 q) fun us s3 ⟨vs, H2, I3, rv, q2⟩ => ⟨I3.kIn, ?_⟩
  rw [hks]
  have hl : us.length = ps.length := rv.length.symm.trans (F.len _ _ _ _ q2)
  refine wpAny_call (codeAny_mono (F.run X.A X.stack s3 H2 ⟨[], ps.zip us⟩ us vs _ E hr I3.env0 (hb s3 us hl) rv q2) fun r s' hq => ?_)
  match r, hq with
  | .error e, hq => exact hx pins σ H2 s3 e s' I3 hq
  | .ok (.ret u), hq => exact I3.after hq
  | .ok .next, hq => exact hq.elim
  | .ok .brk, hq => exact hq.elim
  | .ok .cont, hq => exact hq.elim
end
end L2
namespace L2
open PySem PySem.Spec PyProof.Rows
/-! a caught error of an own class, kept as a value behind its clause -/
def exr (e C d : Addr) : HO := .ext fun h => ∃ oe : Obj, h.get? e = some oe ∧ Zc (.ref C) (some d) oe ∧ ∃ vs, oe.data = .fields vs
theorem exr_ok {P : Program} {w : World} {H : Hp} {h : Heap} {e C d : Addr} {oe : Obj} (ho : h.get? e = some oe) (z : Zc (.ref C) (some d) oe) (hd : ∃ vs, oe.data = .fields vs) : ObjOk P w H h e (exr e C d) :=
  ⟨⟨oe, ho, z, hd⟩, ⟨oe, ho⟩, fun _ _ ⟨o, q, r⟩ k => ⟨o, k o q, r⟩⟩
section
variable {X : Cx} {pins : List (Addr × Obj)} {σ : St} {H : Hp} {s : Shared}
theorem Inv.track {a C dd : Addr} {oe : Obj} (I : Inv X pins σ H s) (n0 : X.s_0.heap.get? a = none) (na : H a = none) (np : ∀ p ∈ X.pn ++ pins, p.1 ≠ a) (ho : s.heap.get? a = some oe) (z : Zc (.ref C) (some dd) oe) (hd : ∃ vs, oe.data = .fields vs) (nL : a ≠ X.env.locals) :
    Inv X pins σ (upd H a (exr a C dd)) s := by
  have nc : ∀ x c, X.env.cells.lookup x = some c → c ≠ a := fun x c e q => by
    obtain ⟨v, o, h1, h2⟩ := I.cell x c e
    rw [q, ho] at h1
    cases h1
    obtain ⟨vs, hd⟩ := hd
    rw [hd] at h2
    cases h2
  refine ⟨I.ok, I.os, I.bare, ⟨I.base.keep, I.base.slot, fun b o e n hq => ?_, I.base.there, fun b xs e => ?_, fun b o u e => ?_, fun b ps e => ?_⟩, I.loc, I.cell, ?_, fun x c e => ?_, fun p hp => ?_, I.hok.laidN (fun _ _ q => q) na (exr_ok ho z hd), I.len⟩
  · rw [upd_ne (fun q => by rw [q, n0] at e; cases e)]
    exact I.base.free b o e n hq
  · have q := I.base.tups b xs e
    rw [upd_ne (ne_of_none q na)]
    exact q
  · have q := I.base.frzs b o u e
    rw [upd_ne (ne_of_none q na)]
    exact q
  · obtain ⟨m, q⟩ := I.base.tbls b ps e
    exact ⟨m, by rw [upd_ne (ne_of_none q na)]; exact q⟩
  · rw [upd_ne (Ne.symm nL)]
    exact I.free
  · rw [upd_ne (nc x c e)]
    exact I.freeC x c e
  · obtain ⟨h1, h2, h3⟩ := I.pin p hp
    exact ⟨h1, by rw [upd_ne (np p hp)]; exact h2, h3⟩
end
def wKeep (K : PySem.W.Frag) (c : Value) (i : Nat) (ts : Addr → Value → Option Addr → TS) (D : Ends) : WX := fun cls d σ H =>
  PySem.W.exmOne K cls c = some true ∧ ∃ C dd : Addr, cls = .ref C ∧ d = some dd ∧ ∀ a, H a = none → ts a cls d { nx := fun σ' H' => D.nx (σ'.set i none) (upd H' a (exr a C dd)), rt := fun _ _ => False } (σ.set i (some (.ref a))) H
section
variable {X : Cx} {x n : Str} {c : Value} {i : Nat} {body suite : List Stmt} {b₀ : Stmt} {np pos pos' : Pos} {tb : WX → TS} {ts : Addr → Value → Option Addr → TS}
/-- try: body / except x as n: suite, where what was caught stays known behind the clause -/
theorem ps_try_keep (hs : X.stack = X.env :: X.outer) (hf : X.env.frame = some X.env.locals) (hx : X.ex = []) (hN : X.N.Nodup) (hi : X.N[i]? = some n) (hln : X.env.kindOf n = some .local) (hc : Names X x c)
    (hb : ∀ (W : WX) (pn : List (Addr × Obj)) (xe : Value → Shared → Prop), Takes (X.tr pn xe) W → PassesOwn (model X.prog X.w) X.A X.env xe → PSs (X.tr pn xe) body (tb W))
    (hsu : ∀ (a : Addr) (oe : Obj) (cls : Value) (d : Option Addr) (pn : List (Addr × Obj)), Zc cls d oe → (∃ vs, oe.data = .fields vs) → PSs (X.suite a ((a, oe) :: pn)) (b₀ :: suite) (ts a cls d)) :
    PS X (.Try body [.ExceptHandler (some (.Name x np)) (some n) (b₀ :: suite) pos'] [] [] pos) (fun D σ H => tb (wKeep X.K c i ts D) D σ H) := by
  refine ⟨fun pins s σ H D I h => ?_⟩
  have ok := I.ok
  have hfr : X.A.frames = some (X.env :: X.outer) := by rw [ok.frames, hs]
  have hloc : Loc X.env.scope n := .inl hln
  refine wpAny_Try_except ?_
  refine wpAny_mono ((hb (wKeep X.K c i ts D) (X.pn ++ pins) (fun e s₁ => wpAny (model X.prog X.w) X.A (noteFrame e X.env) (fun _ s₂ => wpAny (model X.prog X.w) X.A (setFlight e none) (fun _ s₃ =>
    wpAny (model X.prog X.w) X.A (handleBy e X.env [.ExceptHandler (some (.Name x np)) (some n) (b₀ :: suite) pos']) (SP X pins D) X.xe s₃) X.xe s₂) X.xe s₁) (fun u s' xx => ?_) PassesOwn.looking).run [] s σ H D (I.toTry _) h) (fun f s1 hsp => ?_) (fun e s1 he => he)
  · obtain ⟨a, B, sI, pins', σ', H', cls, d, rfl, J', nb, up, sky, na, os, ag, hb1, C, dd, rfl, rfl, hyes⟩ := xx
    have J : Inv X pins σ' H' sI := J'.ofTry ok
    have sky' : Sky B (X.env :: X.outer) a (Zc (.ref C) (some dd)) X.env.locals s'.heap := by rw [← hs]; exact sky
    show wpAny (model X.prog X.w) X.A (noteFrame (.ref a) X.env) _ _ _
    refine Sky.land Zc.steady hfr hf sky' fun h3 fl3 up3 => ?_
    have J3 : Inv X pins σ' H' { s' with heap := h3 } := J.landed nb fl3.1 (up.trans up3) os ag
    obtain ⟨oe3, vs3, he3, hz3, hd3⟩ := fl3.there
    have notFr : ∀ {h : Heap} {o : Obj} {vs : Array Value}, h.FunFrames B (X.env :: X.outer) → h.get? a = some o → o.data = .fields vs → a ∉ frs (X.env :: X.outer) := fun {h o vs} ff e dd hm => by
      obtain ⟨_, o', e', hnf⟩ := ff.mem hm
      rw [e] at e'; cases e'
      exact hnf _ dd
    have nfr := notFr fl3.2.2.1 he3 hd3
    have nB : ∀ o, sI.heap.get? a = some o → False := fun o e => by
      have q := nb a o e (by rw [hs]; exact nfr)
      rw [fl3.2.1] at q
      cases q
    have n0 : X.s_0.heap.get? a = none := by
      cases e : X.s_0.heap.get? a with
      | none => rfl
      | some o =>
        obtain ⟨o', e'⟩ := J.base.there a o e (by rw [hx]; exact fun z => nomatch z)
        exact (nB _ e').elim
    have npn : ∀ p ∈ X.pn ++ pins, p.1 ≠ a := fun p hp q => nB p.2 (by rw [← q]; exact (J.pin p hp).1)
    have nL : a ≠ X.env.locals := fun z => nfr (List.mem_filterMap.mpr ⟨X.env, List.mem_cons_self, by rw [hf, z]⟩)
    have nF : a ∉ X.fs := fun hm => by
      obtain ⟨e, he, q⟩ := List.mem_filterMap.mp hm
      exact nfr (List.mem_filterMap.mpr ⟨e, List.mem_cons_of_mem _ he, q⟩)
    have S3 := J3.suite he3 hd3 na nL nF
    refine wpAny_handleBy_cons (codeAny_handlers_test ?_) (by intro q; cases q)
    have LT : PySem.W.Looks (model X.prog X.w) h3 (typeOf (.ref a)) (.ref C) := fun A Q E s k q => wpAny_typeOf_ref (k _ _ he3) (by rw [hz3.1]; exact q)
    have LM := PySem.W.exm_one (M := model X.prog X.w) (J3.kIn) LT hb1
    have test : ∀ {Q : Value → Shared → Prop} {E : Value → Shared → Prop}, Q c { s' with heap := h3 } → wpAny (model X.prog X.w) (X.A.mark (some (.ref a))) (eval (.Name x np) X.env) Q E { s' with heap := h3 } := fun {Q E} q => by
      obtain ⟨hg, hdbg, hm | ⟨hm, hv, hnn⟩⟩ := hc
      · exact ld_glob (X := X.suite a ((a, oe3) :: (X.pn ++ pins))) S3 hg hm q hdbg
      · exact ld_blt (X := X.suite a ((a, oe3) :: (X.pn ++ pins))) S3 hg hm hv q hnn hdbg
    refine test (LM.here ?_)
    refine codeAny_handlers_suite_as ?_
    refine HandSPX.lands_againZ fl3 fun h4 fl4 up4 => ?_
    have J4 : Inv X pins σ' H' { s' with heap := h4 } := J.landed nb fl4.1 ((up.trans up3).trans up4) os ag
    obtain ⟨oe4, vs4, he4, hz4, hd4⟩ := fl4.there
    have S4 := J4.suite he4 hd4 na nL nF
    refine store_ok (X := X.suite a ((a, oe4) :: (X.pn ++ pins))) (v := .ref a) S4 hN hi hloc rfl (fun s5 S5 => ?_) (.inr hln)
    refine wpAny_mono ((hsu a oe4 (.ref C) (some dd) (X.pn ++ pins) hz4 ⟨_, hd4⟩).run [] s5 _ H' _ S5 (hyes a na)) (fun f s6 hsp => ?_) (fun _ _ z => False.elim z)
    cases f with
    | next =>
      obtain ⟨σ6, H6, S6, q6⟩ := hsp
      obtain ⟨g1, g2, _⟩ := S6.pin (a, oe4) (List.mem_append_left _ List.mem_cons_self)
      have J6 := (S6.unsuite ok).track n0 g2 npn g1 hz4 ⟨_, hd4⟩ nL
      exact gone_ok J6 hN hi hln fun s7 J7 => ⟨_, _, J7, q6⟩
    | brk =>
      obtain ⟨σ6, H6, S6, q6⟩ := hsp
      exact q6.elim
    | cont =>
      obtain ⟨σ6, H6, S6, q6⟩ := hsp
      exact q6.elim
    | ret u =>
      obtain ⟨v6, σ6, H6, S6, r6, q6⟩ := hsp
      exact q6.elim
  · have z : SP X pins D f s1 := by
      cases f with
      | next => exact let ⟨σ', H', J, q⟩ := hsp; ⟨σ', H', J.ofTry ok, q⟩
      | brk => exact let ⟨σ', H', J, q⟩ := hsp; ⟨σ', H', J.ofTry ok, q⟩
      | cont => exact let ⟨σ', H', J, q⟩ := hsp; ⟨σ', H', J.ofTry ok, q⟩
      | ret u => exact let ⟨v, σ', H', J, r, q⟩ := hsp; ⟨v, σ', H', J.ofTry ok, r, q⟩
    cases f with
    | next => exact wpAny_execs_nil z
    | brk => exact z
    | cont => exact z
    | ret u => exact z
end
/-! what is asked of it -/
def ErrR (H : Hp) (e C : Addr) (fs : List (Str × V)) : Prop := ∃ d, H e = some (exr e C d) ∧ H d = some (.xd fs)
theorem ErrR.same {H H' : Hp} {e C : Addr} {fs : List (Str × V)} (h : ErrR H e C fs) (s : Same H H') : ErrR H' e C fs := let ⟨d, h1, h2⟩ := h; ⟨d, s _ _ h1, s _ _ h2⟩
section
variable {X : Cx} {pins : List (Addr × Obj)} {σ : St} {H : Hp} {s : Shared} {e C : Addr} {fs : List (Str × V)}
theorem ErrR.inst (I : Inv X pins σ H s) (h : ErrR H e C fs) :
    ∃ (oe od : Obj), PySem.W.InstAt s.heap e oe C (some od) ∧ ∀ f v, fs.lookup f = some v → ∃ u, RelV v u ∧ PySem.W.lookIn f od = some (some u) := by
  obtain ⟨d, h1, h2⟩ := h
  have x1 : ObjOk X.prog X.w H s.heap e (exr e C d) := I.hok e _ h1
  obtain ⟨⟨oe, ho, hz, vs, hd⟩, _⟩ := x1
  have x2 : ObjOk X.prog X.w H s.heap d (.xd fs) := I.hok d _ h2
  obtain ⟨mA, hns, hr⟩ := x2
  obtain ⟨od, ho2, hl⟩ := lookIn_ns hns
  refine ⟨oe, od, ⟨ho, hz.1, by unfold PySem.W.notCls; rw [hd] <;> rfl, by rw [hz.2]; exact ho2⟩, fun f v l => ?_⟩
  obtain ⟨u, hu, ru⟩ := RelO.some_of (v := v) (o := mA f) (by rw [← l]; exact hr f)
  exact ⟨u, ru, by rw [hl, hu]⟩
end
/-- isinstance(e, c) -/
def rIsR (K : PySem.W.Frag) : List V → Hp → VK → Prop := fun xs H Q => ∃ (e C : Addr) (fs : List (Str × V)) (c : V) (cv : Value) (b : Bool),
  xs = [.ref e, c] ∧ ErrR H e C fs ∧ ExcC K C ∧ ClsV c cv ∧ PySem.W.kitOne K (.ref C) cv = some b ∧ Q (.bl b) H
theorem call_isR {X : Cx} : CallR X (.builtin "isinstance") (rIsR X.K) := by
  intro pins s σ H xs us Q I r h
  obtain ⟨e, C, fs, c, cv, b, rfl, he, T, k, ek, q⟩ := h
  obtain ⟨u1, u2, rfl, r1, r2⟩ := vals2 r
  have e2 := k.eq r2
  subst e2
  obtain rfl : u1 = Value.ref e := r1
  obtain ⟨oe, od, J, _⟩ := he.inst I
  have hcl : (PySem.W.clsIn X.K C).isSome = true := by
    obtain ⟨cd, hc, _⟩ := PySem.W.any_some T.hd
    rw [hc]
    rfl
  exact PySem.W.kia_one (PySem.W.kitx_exc (ox := oe) (od := some od) hcl T.hg T.hk T.hs T.ha T.hn T.ht T.hm) I.kIn J ek (fun z => nomatch z) fun tk => ⟨.bl b, H, I.tok tk, rfl, q⟩
/-- e.f -/
def tErrR (K : PySem.W.Frag) (f : Str) (te : TE) : TE := fun σ H Q => te σ H fun x H1 => ∃ (e C : Addr) (fs : List (Str × V)) (v : V),
  x = .ref e ∧ ErrR H1 e C fs ∧ XfC K C ∧ PySem.W.findIn K (.ref C) f = some none ∧ fs.lookup f = some v ∧ Q v H1
theorem pe_errR {X : Cx} {e : Expr} {te : TE} {pos : Pos} {n : Str} (he : PE X e te) (hb : attributeBase e n X.env (eval e X.env) = eval e X.env := by rfl) :
    PE X (.Attribute e n pos) (tErrR X.K n te) := by
  refine ⟨fun pins s σ H Q I h => ?_⟩
  refine attr_of hb (thn (he.run pins s σ H _ I h) fun u s1 hh => ?_)
  obtain ⟨x, H1, I1, rx, e0, C, fs, v, ex, ea, T, hno, l, q⟩ := hh
  subst ex
  obtain rfl : u = Value.ref e0 := rx
  obtain ⟨oe, od, J, hl⟩ := ea.inst I1
  obtain ⟨u, ru, hlu⟩ := hl n v l
  exact HandSPX.exc_get I1.kIn J T.ga T.gg T.exC (PySem.W.findObj_own T.hdC hno rfl hlu) (handed_of ru) ⟨v, H1, I1.tok _, ru, q⟩
end L2
namespace L2
open PySem PySem.Spec PyProof.Rows
/-- o.m(k = e, ..): all by keywords, in the parameters' order -/
def tMethK0 (C : Addr) (m : Str) (sp : Sp) (E : XK) (ta : TE) (t : TA) : TE := fun σ H Q => ta σ H fun x H1 => ∃ a dx fs, x = .ref a ∧ H1 a = some (.ins C dx fs) ∧ fs.lookup m = none ∧ t σ H1 fun vs H2 => sp (x :: vs) H2 Q E
theorem pe_methK0 {X : Cx} {CX : CXT} {k : Nat} {C f : Addr} {fd : FuncData} {ps ks : List Str} {sp : Sp} {E : XK} {m : Str} {pos apos : Pos} {o : Expr} {kws : List Keyword} {ta : TE} {tk : TA} {pl : Sem Bool}
    (he : PE X o ta) (c : Cls X.K C) (hm : Meth X.K C m f) (F : FnOk X.prog X.w X.K X.mg X.base CX k f fd ps sp) (hr : Room k X.A) (hb : ∀ (s : Shared) (a : Addr) (zs : List Value), (Value.ref a :: zs).length = ps.length → BindsTo s fd ⟨[.ref a], ks.zip zs⟩ (ps.zip (.ref a :: zs))) (hx : Passes CX X E) (hkw : PK X kws tk)
    (hall : (backToKw pos (keywordEach kws X.env)).all (·.1.isSome) = true := by rfl) (hks : (backToKw pos (keywordEach kws X.env)).filterMap (·.1) = ks := by rfl)
    (hpl : ((backTo pos (starEach [] X.env)).any (·.1) || (backToKw pos (keywordEach kws X.env)).any (·.1.isNone)) = false := by rfl)
    (ht : eval (.Call (.Attribute o m apos) [] kws pos) X.env = (do
      let ov ← eval o X.env
      standAt apos.atName
      let (f, first) ← holding [ov] (getMethod ov m pl)
      callWith pos f first (backTo pos (starEach [] X.env)) (backToKw pos (keywordEach kws X.env))) := by rfl) :
    PE X (.Call (.Attribute o m apos) [] kws pos) (tMethK0 C m sp E ta tk) := by
  refine ⟨fun pins s σ H Q I h => ?_⟩
  refine PySem.W.methodCall_KW (pl := pl) (thn (he.run pins s σ H _ I h) fun u s1 ⟨x, H1, I1, rx, a, dx, fs, ex, ea, l, q⟩ => ?_) ht
  subst ex
  obtain rfl : u = Value.ref a := rx
  refine getmeth_ok I1 ea c hm l ?_
  refine PySem.W.callWith_KW0 (first := [.ref a]) (h₀ := X.base) I1.ok.mod.kin hm.kp hall ?_ hpl
  refine thn (hkw.run pos pins s1 σ H1 _ I1 q) fun us s2 ⟨vs, H2, I2, r, q2⟩ => ⟨I2.kIn, ?_⟩
  rw [hks]
  have r2 : Vals (.ref a :: vs) (.ref a :: us) := .cons rfl r
  have hl : (Value.ref a :: us).length = ps.length := r2.length.symm.trans (F.len _ _ _ _ q2)
  refine wpAny_call (codeAny_mono (F.run X.A X.stack s2 H2 ⟨[.ref a], ks.zip us⟩ (.ref a :: us) (.ref a :: vs) Q E hr I2.env0 (hb s2 a us hl) r2 q2) fun r s' hq => ?_)
  match r, hq with
  | .error e, hq => exact hx pins σ H2 s2 e s' I2 hq
  | .ok (.ret u), hq => exact I2.after hq
  | .ok .next, hq => exact hq.elim
  | .ok .brk, hq => exact hq.elim
  | .ok .cont, hq => exact hq.elim
end L2
namespace L2
open PySem PySem.Spec PyProof.Rows
/-! own == and != in comprehensions: the reading speaks of no context -/
/-- the other one is of the class D -/
def rEqOwnI (neg : Bool) (C D : Addr) (sp : Sp) (E : XK) : R2 := fun x y H Q => ∃ a b, x = .ref a ∧ y = .ref b ∧ InsAt H a C ∧ InsAt H b D ∧ sp [x, y] H (fun v H' => ∃ k, v = .bl k ∧ Q (.bl (if neg then !k else k)) H') E
/-- the other one is an integer -/
def rEqOwnZ (neg : Bool) (C : Addr) (sp : Sp) (E : XK) : R2 := fun x y H Q => ∃ a i, x = .ref a ∧ y = .int i ∧ InsAt H a C ∧ sp [x, y] H (fun v H' => ∃ k, v = .bl k ∧ Q (.bl (if neg then !k else k)) H') E
section
variable {X : Cx} {CX : CXT} {n : Nat} {C D f : Addr} {fd : FuncData} {ps : List Str} {sp : Sp} {E : XK} {H : Hp}
theorem op_eqOwnI (hn : PySem.W.notFirst X.K C (.ref D) = true) (M : OwnM X.K C "__eq__" f) (F : FnOk X.prog X.w X.K X.mg X.base CX n f fd ps sp) (hr : Room n X.A) (hb : Binds X.K fd ps []) (hx : Passes CX X E) : OpR X (compareOp .Eq) (rEqOwnI false C D sp E) := by
  intro pins s σ H x y v u Q I rx ry h
  obtain ⟨a, b, rfl, rfl, h1, h2, q⟩ := h
  exact op_eqOwn M F hr hb hx pins s σ H _ _ v u Q I rx ry ⟨a, .ref D, rfl, h1, ty_ins h2, hn, q⟩
theorem op_neOwnI (hn : PySem.W.notFirst X.K C (.ref D) = true) (M : OwnM X.K C "__eq__" f) (hne : PySem.W.findIn X.K (.ref C) "__ne__" = some (some (.builtin "object.__ne__"))) (ho : PySem.W.subIn X.K (.ref C) (.type "object") = some true) (F : FnOk X.prog X.w X.K X.mg X.base CX n f fd ps sp) (hr : Room (n + 1) X.A)
    (hb : Binds X.K fd ps []) (hx : Passes CX X E) : OpR X (compareOp .NotEq) (rEqOwnI true C D sp E) := by
  intro pins s σ H x y v u Q I rx ry h
  obtain ⟨a, b, rfl, rfl, h1, h2, q⟩ := h
  exact op_neOwn M hne ho F hr hb hx pins s σ H _ _ v u Q I rx ry ⟨a, .ref D, rfl, h1, ty_ins h2, hn, q⟩
theorem op_neOwnZ (hn : PySem.W.notFirst X.K C (.type "int") = true) (M : OwnM X.K C "__eq__" f) (hne : PySem.W.findIn X.K (.ref C) "__ne__" = some (some (.builtin "object.__ne__"))) (ho : PySem.W.subIn X.K (.ref C) (.type "object") = some true) (F : FnOk X.prog X.w X.K X.mg X.base CX n f fd ps sp) (hr : Room (n + 1) X.A)
    (hb : Binds X.K fd ps []) (hx : Passes CX X E) : OpR X (compareOp .NotEq) (rEqOwnZ true C sp E) := by
  intro pins s σ H x y v u Q I rx ry h
  obtain ⟨a, i, rfl, rfl, h1, q⟩ := h
  exact op_neOwn M hne ho F hr hb hx pins s σ H _ _ v u Q I rx ry ⟨a, .type "int", rfl, h1, ty_plain (plainT_int i), hn, q⟩
end
end L2
namespace PySem.OwnS
open PySem PySem.W PySem.Calls PyProof.Rows
section
variable {prog : Program} {w : World} {A : Around} {E : Value → Shared → Prop} {s : Shared} {K : Frag} {x C C2 f f2 : Addr} {ox : Obj} {od : Option Obj} {b : Value}
/-- an own operator with a value of another own class at the right that has the same operator -/
theorem binX {op : Operator} {Q : Value → Shared → Prop} (X : K.In s.heap) (I : InstAt s.heap x ox C od) (hb : Looks (model prog w) s.heap (typeOf b) (.ref C2)) (hc : selfFirst K C = true) (hc2 : selfFirst K C2 = true) (hne : C ≠ C2)
    (hs : findIn K (.ref C) (PySem.dunder op.info.2) = some (some (.ref f))) (hf : isFn K (.ref f) = true) (hr : findIn K (.ref C) (dunderR op.info.2) = some none)
    (hs2 : findIn K (.ref C2) (PySem.dunder op.info.2) = some (some (.ref f2))) (hr2 : findIn K (.ref C2) (dunderR op.info.2) = some none) (hsub : subIn K (.ref C2) (.ref C) = some false)
    (h : wpAny (model prog w) A (call (.ref f) [.ref x, b]) (PySem.W.CmpBack Q) E s) : wpAny (model prog w) A (binaryOp op (.ref x) b) Q E s := by
  obtain ⟨cd, rest, hcd, hm⟩ := ksp_first hc
  obtain ⟨cd2, rest2, hcd2, hm2⟩ := ksp_first hc2
  have one := ksp_try X I hs hf h
  rcases hi : op.info with ⟨sym, nm⟩
  rw [hi] at hs hr hs2 hr2 one
  dsimp only at hs hr hs2 hr2 one
  obtain ⟨hh, g, d, tt, os⟩ := s
  have A1 : Looks (model prog w) hh (typeOf (.ref x)) (.ref C) := I.type
  have A2 : Looks (model prog w) hh (typeOf b) (.ref C2) := hb
  have A3 : Looks (model prog w) hh (fillsNumberSlot (.ref C) nm) true := fills_K X hcd hm hs
  have A4 : Looks (model prog w) hh (fillsNumberSlot (.ref C2) nm) true := fills_K X hcd2 hm2 hs2
  have A5 : Looks (model prog w) hh (isSubtype (.ref C2) (.ref C)) false := looks_subIn X hsub
  have A6 : Looks (model prog w) hh (numberSlotInPython (.ref C) nm) true := ksp_inPy X hs hr (.inl rfl)
  have A7 : Looks (model prog w) hh (numberSlotInPython (.ref C2) nm) true := ksp_inPy X hs2 hr2 (.inl rfl)
  have A8 : Looks (model prog w) hh (typeLookup (.ref C2) (dunderR nm)) none := looks_findIn X hr2
  have ne : (Value.ref C == Value.ref C2) = false := Bool.eq_false_iff.mpr fun q => by
    have := beq_iff_eq.mp q
    injection this with this
    exact hne this
  simp only [binaryOp, hi]
  refine wpAny_holding (wpAny_bind ?_)
  unfold binaryOp1
  refine wpAny_bind (A1.at (wpAny_bind (A2.at (wpAny_bind (A3.at ?_)))))
  simp only [ne, Bool.false_eq_true, if_false]
  ksp_lk
  refine wpAny_mono one (fun r s' z => ?_) fun _ _ e => e
  obtain ⟨v, rfl, hq⟩ := z
  ksp_lk
  exact hq
end
end PySem.OwnS
namespace L2
open PySem PySem.Spec PyProof.Rows
/-- x op y, y of another own class that has the operator, too -/
def rOwnX (C C2 : Addr) (sp : Sp) (E : XK) : R2 := fun x y H Q => ∃ a b, x = .ref a ∧ y = .ref b ∧ InsAt H a C ∧ InsAt H b C2 ∧ sp [x, y] H Q E
theorem op_ownX {X : Cx} {CX : CXT} {n : Nat} {C C2 f f2 : Addr} {fd : FuncData} {ps : List Str} {sp : Sp} {E : XK} {op : Operator} (M : OwnM X.K C (PySem.dunder op.info.2) f) (hc : PySem.W.selfFirst X.K C = true) (hR : PySem.W.findIn X.K (.ref C) (dunderR op.info.2) = some none)
    (M2 : OwnM X.K C2 (PySem.dunder op.info.2) f2) (hc2 : PySem.W.selfFirst X.K C2 = true) (hR2 : PySem.W.findIn X.K (.ref C2) (dunderR op.info.2) = some none) (hne : C ≠ C2) (hsub : PySem.W.subIn X.K (.ref C2) (.ref C) = some false)
    (F : FnOk X.prog X.w X.K X.mg X.base CX n f fd ps sp) (hr : Room n X.A) (hb : Binds X.K fd ps []) (hx : Passes CX X E) : OpR X (binaryOp op) (rOwnX C C2 sp E) := by
  intro pins s σ H x y v u Q I rx ry h
  obtain ⟨a, b, rfl, rfl, ha, hb', q⟩ := h
  obtain rfl : v = .ref a := rx
  obtain rfl : u = .ref b := ry
  obtain ⟨ox, od, J⟩ := ha.inst I
  obtain ⟨oy, ey, J'⟩ := hb'.inst I
  refine PySem.OwnS.binX I.kIn J J'.type hc hc2 hne M.at_ M.fn hR M2.at_ hR2 hsub ?_
  refine wpAny_mono (own_run (vs := [.ref a, .ref b]) F ⟨hr, rfl⟩ hb hx I (.cons rfl (.cons rfl .nil)) q) (fun r s' z => ?_) fun _ _ z => z
  obtain ⟨z, H', I', rz, qz⟩ := id z
  exact SlX.cmpback rz ⟨z, H', I', rz, qz⟩
end L2
namespace L2
open PySem PySem.Spec PyProof.Rows
/-- x op y, y an integer or of another own class that has the operator, too -/
def rOwnN (C C2 : Addr) (sp : Sp) (E : XK) : R2 := fun x y H Q => ∃ a, x = .ref a ∧ InsAt H a C ∧ ((∃ b, y = .ref b ∧ InsAt H b C2) ∨ ∃ i, y = .int i) ∧ sp [x, y] H Q E
theorem op_ownN {X : Cx} {CX : CXT} {n : Nat} {C C2 f f2 : Addr} {fd : FuncData} {ps : List Str} {sp : Sp} {E : XK} {op : Operator} (M : OwnM X.K C (PySem.dunder op.info.2) f) (hc : PySem.W.selfFirst X.K C = true) (hR : PySem.W.findIn X.K (.ref C) (dunderR op.info.2) = some none)
    (M2 : OwnM X.K C2 (PySem.dunder op.info.2) f2) (hc2 : PySem.W.selfFirst X.K C2 = true) (hR2 : PySem.W.findIn X.K (.ref C2) (dunderR op.info.2) = some none) (hne : C ≠ C2) (hsub : PySem.W.subIn X.K (.ref C2) (.ref C) = some false) (rt : RightT X.K C op.info.2 "int")
    (F : FnOk X.prog X.w X.K X.mg X.base CX n f fd ps sp) (hr : Room n X.A) (hb : Binds X.K fd ps []) (hx : Passes CX X E) : OpR X (binaryOp op) (rOwnN C C2 sp E) := by
  intro pins s σ H x y v u Q I rx ry h
  obtain ⟨a, rfl, ha, hy, q⟩ := h
  rcases hy with ⟨b, rfl, hb2⟩ | ⟨i, rfl⟩
  · exact op_ownX M hc hR M2 hc2 hR2 hne hsub F hr hb hx pins s σ H _ _ v u Q I rx ry ⟨a, b, rfl, rfl, ha, hb2, q⟩
  · exact op_ownT M hc hR F hr hb hx pins s σ H _ _ v u Q I rx ry ⟨a, "int", rfl, plainT_int i, rt, ha, q⟩
end L2
namespace L2
open PySem PySem.Spec PyProof.Rows
/-! ### {x} in an f-string, x of an own class with __str__ -/
def tFmtO (C : Addr) (sp : Sp) (E : XK) (te : TE) : TE := fun σ H Q => te σ H fun x H1 => ∃ a, x = .ref a ∧ InsAt H1 a C ∧ sp [.ref a] H1 (fun v H2 => ∃ t, v = .str t ∧ Q (.str t) H2) E
theorem pe_fmtO {X : Cx} {CX : CXT} {n : Nat} {C f : Addr} {fd : FuncData} {ps : List Str} {sp : Sp} {E : XK} {e : Expr} {te : TE} {pos : Pos} (M : OwnM X.K C "__str__" f) (hfm : PySem.W.findIn X.K (.ref C) "__format__" = some (some (.builtin "object.__format__"))) (hm : PySem.W.mroIn X.K C (.type "object") = some true)
    (F : FnOk X.prog X.w X.K X.mg X.base CX n f fd ps sp) (hr : Room (n + 1) X.A) (hb : Binds X.K fd ps []) (hx : Passes CX X E) (he : PE X e te) : PE X (.FormattedValue e (-1) none pos) (tFmtO C sp E te) := by
  refine ⟨fun pins s σ H Q I h => ?_⟩
  refine wpAny_FormattedValue_plain (thn (he.run pins s σ H _ I h) fun v s1 hv => ?_)
  obtain ⟨x, H1, I1, r1, a, rfl, ha, q⟩ := hv
  obtain rfl : v = .ref a := r1
  obtain ⟨ox, od, J⟩ := ha.inst I1
  have hr1 : Room n X.A.in1 := hr.in1
  refine PySem.W.kfo_fieldS hr1.units0 I1.kIn J hfm hm M.at_ M.fn ?_
  have I2 : Inv X pins σ H1 { s1 with toks := s1.toks + 1 } := I1.tok _
  refine wpAny_mono (own_run (vs := [.ref a]) F ⟨hr1, rfl⟩ hb hx I2 (.cons rfl .nil) q) (fun u s' z => ?_) fun _ _ z => z
  obtain ⟨z, H', I', rz, t, rfl, qz⟩ := z
  obtain ⟨tk, rfl⟩ := (show ∃ tk, u = Value.str t tk from rz)
  exact ⟨.str t, H', I', ⟨tk, rfl⟩, qz⟩
end L2
namespace L2
open PySem PySem.Spec PyProof.Rows
/-! ### math.lcm of two integers below 2 ^ 64 -/
def rLcm : List V → Hp → VK → Prop := fun vs H Q => ∃ a b : Int, vs = [.int a, .int b] ∧ a.natAbs < 2 ^ 64 ∧ b.natAbs < 2 ^ 64 ∧ Q (.int ((Nat.lcm a.natAbs b.natAbs : Nat) : Int)) H
theorem cr_lcm {X : Cx} : CallR X (.builtin "math.lcm") rLcm := by
  intro pins s σ H vs us Q I r h
  obtain ⟨a, b, rfl, ha, hb, q⟩ := h
  obtain ⟨t, u, rfl⟩ := Vals.int2 r
  exact PySem.W.mc_lcm ha hb fun _ => ⟨.int _, H, I.tok _, ⟨_, rfl⟩, q⟩
end L2
namespace L2
open PySem PySem.Spec PyProof.Rows
/-! ### name = {k: v for ..}, the name a local: what the comprehension gives is stored at once -/
theorem sw_trueD {kx vx : Expr} {gs : List Comprehension} {scope : Scope} {pos py : Pos} {y : Str} {l : Nat} {env : Env} (hk : env.scope.kind = .function) (hy : env.scope.names.lookup y = some .local) (hl : (py.line == pos.line) = true)
    (ha : (scope.names.any fun (n, k) => n == y && (k == .local || k == .cell)) = false) : swapsWith (.DictComp kx vx gs scope pos) (some (.Name y py)) l env = pure true := by
  have h1 : env.kindOf y = some .local := hy
  have h2 : env.blockKind = .function := by unfold Env.blockKind; rw [hk]; rfl
  unfold swapsWith
  simp only [h2, h1, ha, Expr.pos, hl]
  rfl
section
variable {X : Cx}
theorem ps_setDc {i : Nat} {y : Str} {py : Pos} {kx vx tg iter : Expr} {ifs : List Expr} {scope : Scope} {own : List (Str × Nat)} {pos spos : Pos} {wi : TI} {g : TG} {tt : TT} {tk tv : TE} (hc : X.calm = true) (hN : X.N.Nodup) (hy : X.N[i]? = some y) (hyl : X.env.scope.names.lookup y = some .local)
    (hsw : swapsWith (.DictComp kx vx [⟨tg, iter, ifs, 0⟩] scope pos) (some (.Name y py)) spos.line X.env = pure true) (hi : PI X tg iter wi) (ok : BlkOk X.N X.env.scope scope own)
    (hg : ∀ (s : Shared) (H : Hp) (C : Addr) (cl : List (Str × Addr)) (fp : List Addr), PG (X.blk s H scope (compEnvC scope cl C X.env) fp) tg g) (ht : ∀ (s : Shared) (H : Hp) (C : Addr) (cl : List (Str × Addr)) (fp : List Addr), PTs (X.blk s H scope (compEnvC scope cl C X.env) fp) ifs tt)
    (hk : ∀ (s : Shared) (H : Hp) (C : Addr) (cl : List (Str × Addr)) (fp : List Addr), PE (X.blk s H scope (compEnvC scope cl C X.env) fp) kx tk)
    (he : ∀ (s : Shared) (H : Hp) (C : Addr) (cl : List (Str × Addr)) (fp : List Addr), PE (X.blk s H scope (compEnvC scope cl C X.env) fp) vx tv) (hs : ∀ x, foldedSetIterable iter X.env x = pure x := by intro _; rfl) :
    PS X (.Assign [.Name y py] (.DictComp kx vx [⟨tg, iter, ifs, 0⟩] scope pos) spos) (tAsg (tDc wi g tt tk tv (own.map (·.2))) (gName i)) := by
  refine ⟨fun pins s σ H D I h => ?_⟩
  rw [exec_Assign_Name_used _ _ _ _ hsw, arm_evalThenUse_DictComp]
  refine wpAny_bind (wpAny_standAt (wpAny_bind (wpAny_bind ?_)))
  -- what stands when the store is done
  have stored : ∀ L C s' m H', Inv X pins σ H' s' → gName i (.ref L) σ H' D.nx → s'.heap.Ns C m → FpOk X pins H' C → compPost (model X.prog X.w) X.A X.xe (some (assign (.Name y py) X.env)) (fun _ s2 => SP X pins D .next s2) (.ref L) C (.ok .next) s' := by
    intro L C s' m H' J q ns fp
    obtain ⟨p0, p1, p2, p3, p4, p5⟩ := fp
    show wpAny _ _ (assign (.Name y py) X.env (.ref L)) _ _ _
    refine wpAny_assign_Name (store_ok2 (v := V.ref L) J hN hy (.inl hyl) rfl ?_ (.inr hyl))
    intro s2 J2 hit
    obtain ⟨at_, but, at1⟩ := hit
    have ne : C ≠ at_ := at1.elim (fun e => e ▸ p1) fun e => fun z => p4 y at_ e z.symm
    exact ⟨m, ns.sameBut but ne, fun h3 but3 => ⟨_, H', J2.turned (t' := s2.toks) (fun b o hb e => (but3.2 b hb).trans e) p0 p1 p3 p4 p5, q⟩⟩
  exact thn (dc_core hc hN I hi ok hg ht hk he hs h stored) fun _ s' fin => wpAny_pure (wpAny_pure fin)
end
end L2
namespace L2
open PySem PySem.Spec PyProof.Rows
/-! ### sorted texts: one list for each set -/
/-- text by text, in Python's order -/
def leS (x y : Str) : Prop := x.cps.toList ≤ y.cps.toList
theorem leS_trans {a b c : Str} (h : leS a b) (k : leS b c) : leS a c := List.le_trans h k
theorem leS_antisymm {a b : Str} (h : leS a b) (k : leS b a) : a = b := by
  have e : a.cps.toList = b.cps.toList := List.le_antisymm h k
  cases a with
  | mk x =>
    cases b with
    | mk y =>
      congr 1
      cases x; cases y
      exact congrArg _ e
theorem leS_of {a b : Str} (h : ltCps b.cps.toList a.cps.toList = false) : leS a b := by
  rw [ltCps_eq] at h
  exact List.not_lt.mp (of_decide_eq_false h)
theorem to_leS {a b : Str} (h : leS a b) : ltCps b.cps.toList a.cps.toList = false := by
  rw [ltCps_eq]
  exact decide_eq_false (List.not_lt.mpr h)
theorem risingS_pw : ∀ (l : List Str) (p : Str), risingS p l = true → (p :: l).Pairwise leS
  | [], p, _ => List.pairwise_singleton _ _
  | x :: r, p, h => by
    have h : (!ltCps x.cps.toList p.cps.toList && risingS x r) = true := h
    rw [Bool.and_eq_true, Bool.not_eq_true'] at h
    have t := risingS_pw r x h.2
    refine List.pairwise_cons.mpr ⟨fun y m => ?_, t⟩
    cases m with
    | head => exact leS_of h.1
    | tail _ m => exact leS_trans (leS_of h.1) ((List.pairwise_cons.mp t).1 y m)
theorem sortedS_iff {l : List Str} : sortedS l = true ↔ l.Pairwise leS := by
  constructor
  · intro h
    cases l with
    | nil => exact .nil
    | cons x r => exact risingS_pw r x h
  · intro h
    exact sortedS_of_pairwise l (h.imp fun k => to_leS k)
theorem sorted_unique {a b : List Str} (ha : sortedS a = true) (hb : sortedS b = true) (p : a.Perm b) : a = b :=
  p.eq_of_pairwise (fun _ _ _ _ h k => leS_antisymm h k) (sortedS_iff.mp ha) (sortedS_iff.mp hb)
theorem sorted_filter {a : List Str} (f : Str → Bool) (h : sortedS a = true) : sortedS (a.filter f) = true := sortedS_iff.mpr ((sortedS_iff.mp h).filter _)
end L2
namespace L2
open PySem PySem.Spec PyProof.Rows
/-! ### a list comprehension of two fors, over any two walks -/
/-- the inner for -/
theorem lc_inner {J1 : It} {n : Nat} {G : Hp → Prop} {Y : Nat → Hp → V → Hp → Prop} (w : Walk J1 n G Y) {g1 : TG} {tt1 : TT} {te : TE} {vs1 : List Nat} {σ2 : St} {H4 : Hp} {D : Addr} {Nx : Hp → Prop} (Pv : Nat → Hp → Prop) (h0 : Pv 0 H4) (hG : ∀ i H, i ≤ n → Pv i H → G H)
    (hs : ∀ i x H H', i < n → Pv i H → Y i H x H' → g1 x (wipe σ2 vs1) H' fun σ3 H5 => wipe σ3 vs1 = wipe σ2 vs1 ∧ tt1 σ3 H5 fun b H6 =>
      if b = true then te σ3 H6 fun y H7 => ∃ acc, H7 D = some (.lst acc) ∧ acc.length < sizeLine ∧ Pv (i + 1) (upd H7 D (.lst (acc ++ [y]))) else Pv (i + 1) H6) (hd : ∀ H, Pv n H → Nx H) :
    ∃ W1 : Nat → Nat → Hp → Prop, (∃ m, W1 0 m H4) ∧ ∀ j k H, W1 j k H →
      (J1.stop j H ∧ Nx H) ∨ (J1.go j H ∧ ∃ Nx1 : Hp → Prop, (∀ H', Nx1 H' → ∃ k', k' < k ∧ W1 (j + 1) k' H') ∧ ∀ x H', J1.yld j H x H' → g1 x (wipe σ2 vs1) H' fun σ3 H5 => wipe σ3 vs1 = wipe σ2 vs1 ∧ tt1 σ3 H5 fun b H6 =>
        if b = true then te σ3 H6 fun y H7 => ∃ acc, H7 D = some (.lst acc) ∧ acc.length < sizeLine ∧ Nx1 (upd H7 D (.lst (acc ++ [y]))) else Nx1 H6) := by
  refine ⟨fun i m H => m + i = n ∧ Pv i H, ⟨n, Nat.add_zero n, h0⟩, ?_⟩
  rintro i m H ⟨e, p⟩
  have q := hG i H (by omega) p
  by_cases lt : i < n
  · exact .inr ⟨w.goes i H lt q, Pv (i + 1), fun H' p' => ⟨n - (i + 1), by omega, by omega, p'⟩, fun x H' y => hs i x H H' lt p (w.yields i H x H' lt q y)⟩
  · obtain rfl : i = n := by omega
    exact .inl ⟨w.stops H q, hd H p⟩
/-- the outer for -/
theorem lc_outer {J : It} {n : Nat} {G : Hp → Prop} {Y : Nat → Hp → V → Hp → Prop} (w : Walk J n G Y) {B : V → Hp → (Hp → Prop) → Prop} {H0 : Hp} {Qd : Hp → Prop} (Pv : Nat → Hp → Prop) (h0 : Pv 0 H0) (hG : ∀ i H, i ≤ n → Pv i H → G H)
    (hs : ∀ i x H H', i < n → Pv i H → Y i H x H' → B x H' (Pv (i + 1))) (hd : ∀ H, Pv n H → Qd H) :
    ∃ W : Nat → Nat → Hp → Prop, (∃ m, W 0 m H0) ∧ ∀ i m H, W i m H → (J.stop i H ∧ Qd H) ∨ (J.go i H ∧ ∃ Nx : Hp → Prop, (∀ H', Nx H' → ∃ m', m' < m ∧ W (i + 1) m' H') ∧ ∀ x H', J.yld i H x H' → B x H' Nx) := by
  refine ⟨fun i m H => m + i = n ∧ Pv i H, ⟨n, Nat.add_zero n, h0⟩, ?_⟩
  rintro i m H ⟨e, p⟩
  have q := hG i H (by omega) p
  by_cases lt : i < n
  · exact .inr ⟨w.goes i H lt q, Pv (i + 1), fun H' p' => ⟨n - (i + 1), by omega, by omega, p'⟩, fun x H' y => hs i x H H' lt p (w.yields i H x H' lt q y)⟩
  · obtain rfl : i = n := by omega
    exact .inl ⟨w.stops H q, hd H p⟩
end L2
namespace K09
open PySem PySem.Spec PyProof.Rows L2 RatM ClX
abbrev balM (i : Nat) : Stmt := inClass (top 43) i
/-- the class of balances -/
structure BalC (K : PySem.W.Frag) (CB : Addr) : Prop where
  cls : Cls K CB
  no : ∀ f ∈ ([("_numbers" : Str), ("things" : Str), ("is_nothing" : Str), ("key" : Str)] : List Str), NoAttr K CB f
/-- the fields of a balance -/
def balF (nd tp kt : Addr) (b : Bool) : List (Str × V) := putF "key" (.ref kt) (putF "is_nothing" (.bl b) (putF "things" (.ref tp) (putF "_numbers" (.ref nd) [])))
/-- the items of a balance's key -/
def keyV (g : Str → Int × Int) (zs : List Str) : List V := zs.flatMap fun n => [.str n, .int (g n).1, .int (g n).2]
/-- what stands behind the fields -/
def BalIn (H : Hp) (C : Addr) (g : Str → Int × Int) (zs : List Str) (nd tp kt : Addr) : Prop := (∃ kvs, H nd = some (.dK kvs) ∧ RatD H C g kvs zs) ∧ H tp = some (.tup (zs.map V.str)) ∧ H kt = some (.tup (keyV g zs))
theorem RatD.upd_any {H : Hp} {C D : Addr} {g : Str → Int × Int} {kvs : List (Key × V)} {ks : List Str} {o : HO} (h : RatD H C g kvs ks) (hd : ∀ dx fs, H D ≠ some (.ins C dx fs)) : RatD (upd H D o) C g kvs ks :=
  Paired.mono' (fun _ _ ⟨e1, b, e2, dxb, hb⟩ => ⟨e1, b, e2, dxb, (upd_ne fun z => hd dxb _ (z ▸ hb)).trans hb⟩) h
/-- all but a stands -/
def But (a : Addr) (H H' : Hp) : Prop := ∀ b o, b ≠ a → H b = some o → H' b = some o
theorem But.same {a : Addr} {H H1 H2 : Hp} (h : But a H H1) (s : Same H1 H2) : But a H H2 := fun b o n e => s _ _ (h b o n e)
theorem But.upd {a : Addr} {H H1 : Hp} {o : HO} (h : But a H H1) : But a H (upd H1 a o) := fun b o n e => by rw [upd_ne n]; exact h b o n e
theorem But.free {a q : Addr} {H H1 : Hp} (h : But a H H1) (ha : ∃ o, H1 a = some o) (n : H1 q = none) : H q = none := by
  cases e : H q with
  | none => rfl
  | some o =>
    by_cases eq : q = a
    · subst eq
      obtain ⟨o', e'⟩ := ha
      rw [n] at e'
      cases e'
    · rw [h q o eq e] at n
      cases n
theorem keyV_take {g : Str → Int × Int} {zs : List Str} {i : Nat} {n : Str} (e : zs[i]? = some n) : keyV g (zs.take (i + 1)) = keyV g (zs.take i) ++ [.str n, .int (g n).1, .int (g n).2] := by
  unfold keyV
  rw [List.take_add_one, e, List.flatMap_append]
  rfl
theorem keyV_len (g : Str → Int × Int) : ∀ zs : List Str, (keyV g zs).length = 3 * zs.length
  | [] => rfl
  | n :: t => by
    have := keyV_len g t
    unfold keyV at this ⊢
    rw [List.flatMap_cons, List.length_append, this]
    simp only [List.length_cons, List.length_nil]
    omega
theorem yesI {σ : L2.St} {H : Hp} {A B : Hp → Prop} (h : A H) : tYes σ H (fun b H3 => if b = true then A H3 else B H3) := by
  unfold tYes
  dsimp only
  rw [if_pos rfl]
  exact h
def spBI (C CB : Addr) : Sp := fun vs H Q _ => ∃ (a dx d : Addr) (kvs : List (Key × V)) (ks : List Str) (g : Str → Int × Int), vs = [.ref a, .ref d] ∧ H a = some (.ins CB dx []) ∧ H d = some (.dK kvs) ∧ NumD H C g kvs ks ∧ ks.Nodup ∧ ks.length ≤ 60 ∧ (∀ n ∈ ks, n.length ≤ 100000 ∧ nameT n.cps.toList = true) ∧
  ∀ (ys : List Str) (nd tp kt : Addr) (H' : Hp), (∀ b o, b ≠ a → H b = some o → H' b = some o) → ys.Perm ks → sortedS ys = true → H' a = some (.ins CB dx (balF nd tp kt (decide (V.int ((ys.filter fun n => !decide ((g n).1 = 0)).length : Nat) = V.int 0)))) →
    BalIn H' C g (ys.filter fun n => !decide ((g n).1 = 0)) nd tp kt → H nd = none → H tp = none → H kt = none → Q .non H'
section
variable {P : Program} {w : World} {K : PySem.W.Frag} {mg : Str → Option Value} {base : Heap} {C BR CB BB : Addr}
theorem scBI : FnScope ["self", "numbers", "told", "thing", "number", "word"] ["self", "numbers"] (defScope (balM 0)) := ⟨rfl, rfl, rfl, by decide +kernel, rfl, by decide +kernel, by decide +kernel⟩
theorem ok_balInit {f fN : Addr} {fd fdN : FuncData} (F : MtP K "__init__" "Balance.__init__" (balM 0) f fd) (T : BalC K CB) (nCB : C ≠ CB) (TR : RatC K C) (M : ErrN P w K mg base "BadBalance" BB ["part"]) (bT : mg "tuple" = none) (bl : mg "len" = none)
    (GN : FnOk P w K mg base CX0 7 fN fdN ["value"] (spNin K C)) (bN : Binds K fdN ["value"] []) (kN : PySem.W.keepIn K (.ref fN) = true) (gN : mg "numbers_in" = some (.ref fN)) :
    FnOk P w K mg base (L2.CX P w) 8 f fd ["self", "numbers"] (spBI C CB) := by
  refine F.ok scBI (fun vs H Q E h => ?_) (fun cdv A outer s H vs Q E hr h => ?_)
  · obtain ⟨a, dx, d, kvs, ks, g, rfl, _⟩ := h
    rfl
  · obtain ⟨a, dx, d, kvs, ks, g, rfl, ha, hd, hk, nd, lk, nm, k⟩ := h
    have hr7 : Room 7 _ := hr
    refine ⟨_, (pss_cons (ps_set (i := 2) scBI.nd rfl (.inl rfl) (pe_call GN hr7 rfl gN kN bN .nil pass0 (pa_cons (pv 1) pa_nil)))
      (pss_cons (ps_if (pt_cmpR op_isN (pv 2) pe_non (nomark _)) (pss_one (ps_raiseN rfl M (hr7.mono (by decide)) (takes_of rfl rfl rfl rfl) (by rfl) (pa_cons pe_str pa_nil))) pss_nil)
      (pss_cons (ps_fld (pv 0) (pe_lock (pe_dc (own := [("thing", 3), ("number", 4)]) (g := gTup K 2 (gCons (gName 3) (gCons (gName 4) gNil))) (tt := tTest (tOp rNe (tFld K (tVar 4) "sign") (tC (.int 0)))) (tk := tVar 3) (tv := tVar 4) rfl scBI.nd (pi_items (pv 2)) (blkOk_by (N := ["self", "numbers", "told", "thing", "number", "word"]) (sc := defScope (balM 0)) (by decide +kernel)) (fun _ _ _ _ _ => pg_tup rfl (pgs_cons (pg_name (i := 3) scBI.nd rfl (Or.inl rfl)) (pgs_cons (pg_name (i := 4) scBI.nd rfl (Or.inl rfl)) pgs_nil))) (fun _ _ _ _ _ => pts_one (pt_cmpR op_ne (pe_fld (pv 4) rfl) pe_int (nomark _))) (fun _ _ _ _ _ => pv 3) (fun _ _ _ _ _ => pv 4))) (by rfl))
      (pss_cons (ps_fld (pv 0) (pe_callTy (call_tuple_dK rfl) (by rfl) bT PyProof.Rows.boot_tuple (pa_cons (pe_fld (pv 0) rfl) pa_nil)) (by rfl))
      (pss_cons (ps_fld (pv 0) (pe_cmpR op_eq (pe_callB call_len_seq (by rfl) bl PySem.boot_len (pa_cons (pe_fld (pv 0) rfl) pa_nil)) pe_int (nomark _)) (by rfl))
      (pss_one (ps_fld (pv 0) (pe_tupleOf (by rfl) bT (pe_lock (pe_lc2 (own := [("thing", 3), ("number", 4), ("word", 5)]) (vs1 := [5]) (g := gTup K 2 (gCons (gName 3) (gCons (gName 4) gNil))) (tt := tYes) (g1 := gName 5) (tt1 := tYes) (te := tVar 5) (wi1 := iTup K (tTup (tCons (tVar 3) (tCons (tFld K (tVar 4) "top") (tCons (tFld K (tVar 4) "bottom") tNil))))) rfl scBI.nd (pi_items (pe_fld (pv 0) rfl)) (blkOk_by (N := ["self", "numbers", "told", "thing", "number", "word"]) (sc := defScope (balM 0)) (by decide +kernel)) (by decide) (fun _ _ _ _ _ => pg_tup rfl (pgs_cons (pg_name (i := 3) scBI.nd rfl (Or.inl rfl)) (pgs_cons (pg_name (i := 4) scBI.nd rfl (Or.inl rfl)) pgs_nil))) (fun _ _ _ _ _ => pts_nil) (fun _ _ _ _ _ => pi_tup (pe_tup (pa_cons (pv 3) (pa_cons (pe_fld (pv 4) rfl) (pa_cons (pe_fld (pv 4) rfl) pa_nil)))))
        (fun _ _ _ _ _ => pg_name (i := 5) scBI.nd rfl (Or.inl rfl)) (fun _ _ _ _ _ => pts_nil) (fun _ _ _ _ _ => pv 5)))) (by rfl)))))))), ?_⟩
    have nN := T.no "_numbers" (by simp)
    have nT := T.no "things" (by simp)
    have nI := T.no "is_nothing" (by simp)
    have nK := T.no "key" (by simp)
    have rs := TR.no "sign" (by simp)
    have rt := TR.no "top" (by simp)
    have rb := TR.no "bottom" (by simp)
    refine ⟨_, rfl, d, kvs, ks, g, rfl, hd, hk, nd, lk, nm, fun r ys kvs1 H1 s1 nr py sy hr1 hR1 => ?_⟩
    refine ⟨_, rfl, rfl, false, rfl, iteF ?_⟩
    dsimp only [tNext, tSeq]
    have ha1 := s1 _ _ ha
    refine ⟨r, .dK kvs1, hr1, True.intro, fun od => ?_⟩
    refine ⟨_, rfl, r, od, kvs1, rfl, upd_same, fun D nD => ?_⟩
    have nDr : D ≠ r := fun e => by rw [e, upd_same] at nD; cases nD
    have nD1 : H1 D = none := by rw [upd_ne nDr] at nD; exact nD
    generalize hHL : upd H1 r (.frz od (.dK kvs1)) = HL at nD ⊢
    have hrL : HL r = some (.frz od (.dK kvs1)) := by rw [← hHL]; exact upd_same
    have hRL : RatD HL C g kvs1 ys := by
      rw [← hHL]
      exact RatD.upd_d hR1 hr1
    have ly : kvs1.length = ys.length := Paired.length hR1
    have lk2 : ys.length ≤ 60 := by rw [py.length_eq]; exact lk
    have nyd : ys.Nodup := py.nodup_iff.mpr nd
    refine dc_it walk_items (fun i Hx => Same HL Hx ∧ ∃ kvs', Hx D = some (.dK kvs') ∧ RatD Hx C g kvs' ((ys.take i).filter fun n => !decide ((g n).1 = 0))) ⟨same_upd nD, [], upd_same, .nil⟩ (fun i Hx _ hP => hP.1 _ _ hrL) (fun i x Hx Hx' hi hP hy => ?_) (fun Hx hP => ?_)
    · obtain ⟨TT, xk, xv, rfl, nTT, rfl, e1, e2⟩ := hy
      obtain ⟨s2, kvs', hD, hR⟩ := hP
      dsimp only at e1 e2
      obtain ⟨kv, ekv, e1⟩ := Option.map_eq_some_iff.mp e1
      rw [ekv] at e2
      obtain rfl : kv.2 = xv := by simpa using e2
      obtain ⟨n, en, ek, b, eb, dxb, hb⟩ := Paired.at' hRL i _ ekv
      rw [ek] at e1
      subst e1
      rw [eb]
      have s3 : Same Hx (upd Hx TT (.tup [kV (.inr n), .ref b])) := same_upd nTT
      generalize hH3 : upd Hx TT (.tup [kV (.inr n), .ref b]) = H3 at s3
      have hT3 : H3 TT = some (.tup [kV (.inr n), .ref b]) := by rw [← hH3]; exact upd_same
      have tk := take_succ_filter (fun n => !decide ((g n).1 = 0)) ys i n en
      refine ⟨TT, _, rfl, SqT.of hT3, rfl, _, _, rfl, _, _, rfl, rfl, rfl, ?_⟩
      refine ⟨_, rfl, b, C, dxb, _, _, rfl, s3 _ _ (s2 _ _ hb), TR.cls, rs, rfl, rfl, !decide ((g n).1 = 0), congrArg V.bl (by rw [sg_zero]), ite2 (fun c => ?_) (fun c => ?_)⟩
      · refine ⟨_, rfl, _, rfl, kvs', .inr n, rfl, s3 _ _ hD, ?_, fun c o e => ?_, _, upd_same, ?_⟩
        · have h1 := Paired.length hR
          have h2 := List.length_filter_le (fun n => !decide ((g n).1 = 0)) (ys.take i)
          have h3 := List.length_take (i := i) (l := ys)
          rw [sizeLine_eq]; omega
        · rw [upd_ne (ne_of_none e nD)]; exact s3 _ _ (s2 _ _ e)
        · rw [tk, if_pos c]
          have nt : n ∉ (ys.take i).filter fun n => !decide ((g n).1 = 0) := fun m => by
            obtain ⟨j, hj, ej⟩ := List.mem_take_iff_getElem.mp (List.mem_filter.mp m).1
            have h1 : ys[j]? = some n := by rw [List.getElem?_eq_getElem (by omega), ej]
            have lj : j < ys.length := by omega
            have h2 := (List.getElem?_inj lj nyd).mp (h1.trans en.symm)
            omega
          rw [putK_new _ (NumD.noVal hR.num nt)]
          exact Paired.snoc ((hR.same s3).upd_d (s3 _ _ hD)) ⟨rfl, b, rfl, RatAt.upd_d ⟨dxb, s3 _ _ (s2 _ _ hb)⟩ (s3 _ _ hD)⟩
      · refine ⟨s2.trans s3, kvs', s3 _ _ hD, ?_⟩
        rw [tk, if_neg c, List.append_nil]
        exact hR.same s3
    · obtain ⟨s2, kvs', hD, hR⟩ := hP
      rw [ly, List.take_length] at hR
      have lzs := Nat.le_trans (List.length_filter_le (fun n => !decide ((g n).1 = 0)) ys) lk2
      have k2 := k ys
      generalize (ys.filter fun n => !decide ((g n).1 = 0)) = zs at hR k2 lzs
      generalize hH2 : upd Hx r (.dK kvs1) = H2
      have s3 : Same H H2 := fun b o e => by
        rw [← hH2]
        by_cases eb : b = r
        · subst eb
          rw [nr] at e
          cases e
        · rw [upd_ne eb]
          refine s2 _ _ ?_
          rw [← hHL, upd_ne eb]
          exact s1 _ _ e
      have hD2 : H2 D = some (.dK kvs') := by rw [← hH2, upd_ne nDr]; exact hD
      have hR2 : RatD H2 C g kvs' zs := by rw [← hH2]; exact hR.upd_any fun dx fs z => by rw [s2 _ _ hrL] at z; cases z
      have nD0 : H D = none := s1.free nD1
      refine ⟨s2 _ _ hrL, _, rfl, a, CB, dx, [], rfl, s3 _ _ ha, T.cls, nN, by decide, ?_⟩
      have nDa : D ≠ a := fun e => by rw [e, ha] at nD0; cases nD0
      have hRu : ∀ {H' : Hp} {o : HO} {kv : List (Key × V)}, RatD H' C g kv zs → ∀ (fs : List (Str × V)), H' a = some (.ins CB dx fs) → RatD (upd H' a o) C g kv zs := fun {H' o kv} h fs e => h.upd_any fun dx2 fs2 z => by
        rw [e] at z
        injection z with z
        injection z with z
        exact nCB z.symm
      have lz : zs.length ≤ 60 := lzs
      have ha2 := s3 _ _ ha
      have bA : But a H (upd H2 a (.ins CB dx (putF "_numbers" (.ref D) []))) := But.upd fun b o _ e => s3 _ _ e
      have hRA := hRu (o := .ins CB dx (putF "_numbers" (.ref D) [])) hR2 _ ha2
      have hDA : (upd H2 a (.ins CB dx (putF "_numbers" (.ref D) []))) D = some (.dK kvs') := by rw [upd_ne nDa]; exact hD2
      have haA : (upd H2 a (.ins CB dx (putF "_numbers" (.ref D) []))) a = some (.ins CB dx (putF "_numbers" (.ref D) [])) := upd_same
      generalize upd H2 a (.ins CB dx (putF "_numbers" (.ref D) [])) = HA at bA hRA hDA haA ⊢
      clear hR2 hD2
      dsimp only [tSeq]
      refine ⟨_, rfl, a, CB, dx, _, _, rfl, haA, T.cls, nN, rfl, D, kvs', rfl, hDA, fun q nq => ?_⟩
      rw [NumD.keys hRA.num]
      have nqa : q ≠ a := fun e => by rw [e, haA] at nq; cases nq
      have nqD : q ≠ D := fun e => by rw [e, hDA] at nq; cases nq
      refine ⟨_, rfl, a, CB, dx, _, rfl, by rw [upd_ne (Ne.symm nqa)]; exact haA, T.cls, nT, by show 1 < 1000; decide, ?_⟩
      have nq0 : H q = none := bA.free ⟨_, haA⟩ nq
      have sB := same_upd (o := .tup (zs.map V.str)) nq
      have bB : But a H (upd (upd HA q (.tup (zs.map V.str))) a (.ins CB dx (putF "things" (.ref q) (putF "_numbers" (.ref D) [])))) := But.upd (bA.same sB)
      have hRB := hRu (o := .ins CB dx (putF "things" (.ref q) (putF "_numbers" (.ref D) []))) (hRA.same sB) _ (sB _ _ haA)
      have hDB : (upd (upd HA q (.tup (zs.map V.str))) a (.ins CB dx (putF "things" (.ref q) (putF "_numbers" (.ref D) [])))) D = some (.dK kvs') := by rw [upd_ne nDa]; exact sB _ _ hDA
      have haB : (upd (upd HA q (.tup (zs.map V.str))) a (.ins CB dx (putF "things" (.ref q) (putF "_numbers" (.ref D) [])))) a = some (.ins CB dx (putF "things" (.ref q) (putF "_numbers" (.ref D) []))) := upd_same
      have hqB : (upd (upd HA q (.tup (zs.map V.str))) a (.ins CB dx (putF "things" (.ref q) (putF "_numbers" (.ref D) [])))) q = some (.tup (zs.map V.str)) := by rw [upd_ne nqa, upd_same]
      generalize upd (upd HA q (.tup (zs.map V.str))) a (.ins CB dx (putF "things" (.ref q) (putF "_numbers" (.ref D) []))) = HB at bB hRB hDB haB hqB ⊢
      clear hRA hDA haA bA nq sB
      dsimp only [tSeq]
      refine ⟨_, rfl, a, CB, dx, _, _, rfl, haB, T.cls, nT, rfl, q, zs.map V.str, rfl, .inr (SqT.of hqB), rfl, ?_⟩
      rw [List.length_map]
      refine ⟨_, rfl, a, CB, dx, _, rfl, haB, T.cls, nI, by show 2 < 1000; decide, ?_⟩
      generalize hF3 : putF "is_nothing" (.bl (decide (V.int (zs.length : Nat) = V.int 0))) (putF "things" (.ref q) (putF "_numbers" (.ref D) [])) = F3
      have lF3 : F3.length < 1000 := by rw [← hF3]; show 3 < 1000; decide
      have lkF : F3.lookup ("_numbers" : Str) = some (V.ref D) := by rw [← hF3]; rfl
      have bC : But a H (upd HB a (.ins CB dx F3)) := bB.upd
      have hRC := hRu (o := .ins CB dx F3) hRB _ haB
      have hDC : (upd HB a (.ins CB dx F3)) D = some (.dK kvs') := by rw [upd_ne nDa]; exact hDB
      have hqC : (upd HB a (.ins CB dx F3)) q = some (.tup (zs.map V.str)) := by rw [upd_ne nqa]; exact hqB
      have haC : (upd HB a (.ins CB dx F3)) a = some (.ins CB dx F3) := upd_same
      generalize upd HB a (.ins CB dx F3) = HC at bC hRC hDC hqC haC ⊢
      clear hRB hDB haB bB hqB
      dsimp only [tSeq]
      refine ⟨D, .dK kvs', hDC, True.intro, fun od2 => ?_⟩
      refine ⟨_, rfl, a, CB, dx, _, _, rfl, by rw [upd_ne (Ne.symm nDa)]; exact haC, T.cls, nN, lkF, D, od2, kvs', rfl, upd_same, fun L nL => ?_⟩
      have nLD : L ≠ D := fun e => by rw [e, upd_same] at nL; cases nL
      have nLC : HC L = none := by rw [upd_ne nLD] at nL; exact nL
      have hRL2 : RatD (upd HC D (.frz od2 (.dK kvs'))) C g kvs' zs := hRC.upd_any fun dx fs z => by rw [hDC] at z; cases z
      generalize hHM : upd HC D (.frz od2 (.dK kvs')) = HM at nL hRL2 ⊢
      have hDM : HM D = some (.frz od2 (.dK kvs')) := by rw [← hHM]; exact upd_same
      refine lc_outer walk_items (fun i Hx => Same HM Hx ∧ Hx L = some (.lst (keyV g (zs.take i)))) ⟨same_upd nL, upd_same⟩ (fun i Hx _ hP => hP.1 _ _ hDM) (fun i x Hx Hx' hi hP hy => ?_) (fun Hx hP => ?_)
      · obtain ⟨TT, xk, xv, rfl, nTT, rfl, e1, e2⟩ := hy
        obtain ⟨s5, hL⟩ := hP
        dsimp only at e1 e2
        obtain ⟨kv, ekv, e1⟩ := Option.map_eq_some_iff.mp e1
        rw [ekv] at e2
        obtain rfl : kv.2 = xv := by simpa using e2
        obtain ⟨n, en, ek, b, eb, dxb, hb⟩ := Paired.at' hRL2 i _ ekv
        rw [ek] at e1
        subst e1
        rw [eb]
        have s6 : Same Hx (upd Hx TT (.tup [kV (.inr n), .ref b])) := same_upd nTT
        generalize hH3 : upd Hx TT (.tup [kV (.inr n), .ref b]) = H3 at s6
        have hT3 : H3 TT = some (.tup [kV (.inr n), .ref b]) := by rw [← hH3]; exact upd_same
        have hb3 := s6 _ _ (s5 _ _ hb)
        refine ⟨TT, _, rfl, SqT.of hT3, rfl, _, _, rfl, _, _, rfl, rfl, rfl, ?_⟩
        refine yesI ?_
        refine ⟨_, rfl, _, rfl, b, C, dxb, _, _, rfl, hb3, TR.cls, rt, rfl, _, rfl, b, C, dxb, _, _, rfl, hb3, TR.cls, rb, rfl, ?_, fun p np => ⟨p, rfl, ⟨_, SqT.of upd_same⟩, ?_⟩⟩
        · rw [sizeLine_eq]; show 3 ≤ 16777216; decide
        · have s7 := same_upd (o := .tup [V.str n, V.int (g n).1, V.int (g n).2]) np
          have hp : (upd H3 p (.tup [V.str n, V.int (g n).1, V.int (g n).2])) p = some (.tup [V.str n, V.int (g n).1, V.int (g n).2]) := upd_same
          have hL7 := s7 _ _ (s6 _ _ hL)
          have s8 : Same HM (upd H3 p (.tup [V.str n, V.int (g n).1, V.int (g n).2])) := (s5.trans s6).trans s7
          show ∃ W1 : Nat → Nat → Hp → Prop, (∃ m, W1 0 m (upd H3 p (.tup [V.str n, V.int (g n).1, V.int (g n).2]))) ∧ _
          generalize upd H3 p (.tup [V.str n, V.int (g n).1, V.int (g n).2]) = H7 at hp hL7 s8 ⊢
          refine lc_inner (walk_tup (xs := [V.str n, V.int (g n).1, V.int (g n).2])) (fun j Hy => Same HM Hy ∧ Hy p = some (.tup [V.str n, V.int (g n).1, V.int (g n).2]) ∧ Hy L = some (.lst (keyV g (zs.take i) ++ [V.str n, V.int (g n).1, V.int (g n).2].take j))) ⟨s8, hp, by rw [hL7, List.take_zero, List.append_nil]⟩ (fun j Hy _ hP => SqT.of hP.2.1) (fun j x Hy Hy' hj hP hy => ?_) (fun Hy hP => ?_)
          · obtain ⟨rfl, ex⟩ := hy
            obtain ⟨s9, hp9, hL9⟩ := hP
            refine ⟨rfl, ?_⟩
            refine yesI ?_
            have nLH : HM L = none := nL
            refine ⟨_, rfl, _, hL9, ?_, fun c o e => ?_, ?_, ?_⟩
            · have l1 := keyV_len g (zs.take i)
              have l2 := List.length_take (i := i) (l := zs)
              have l3 := List.length_take (i := j) (l := [V.str n, V.int (g n).1, V.int (g n).2])
              have l4 : [V.str n, V.int (g n).1, V.int (g n).2].length = 3 := rfl
              rw [List.length_append, sizeLine_eq]
              omega
            · rw [upd_ne (ne_of_none e nL)]; exact s9 _ _ e
            · rw [upd_ne (fun z => by rw [z, hL9] at hp9; cases hp9)]; exact hp9
            · rw [upd_same, List.append_assoc, List.take_add_one, ex]
              rfl
          · obtain ⟨s9, _, hL9⟩ := hP
            refine ⟨s9, ?_⟩
            rw [keyV_take en, hL9]
            rfl
      · obtain ⟨s5, hL⟩ := hP
        rw [Paired.length hRC, List.take_length] at hL
        generalize hHE : upd Hx D (.dK kvs') = HE
        have s6 : Same HC HE := fun b o e => by
          rw [← hHE]
          by_cases eb : b = D
          · subst eb
            rw [upd_same, ← hDC, e]
          · rw [upd_ne eb]
            refine s5 _ _ ?_
            rw [← hHM, upd_ne eb]
            exact e
        have hLE : HE L = some (.lst (keyV g zs)) := by rw [← hHE, upd_ne nLD]; exact hL
        refine ⟨s5 _ _ hDM, .inl ⟨L, keyV g zs, rfl, SqL.of hLE, fun q2 nq2 => ?_⟩⟩
        have haE := s6 _ _ haC
        have n2a : q2 ≠ a := fun e => by rw [e, haE] at nq2; cases nq2
        have n2D : q2 ≠ D := fun e => by rw [e, s6 _ _ hDC] at nq2; cases nq2
        have n2q : q2 ≠ q := fun e => by rw [e, s6 _ _ hqC] at nq2; cases nq2
        have sE := same_upd (o := .tup (keyV g zs)) nq2
        refine ⟨_, rfl, a, CB, dx, F3, rfl, sE _ _ haE, T.cls, nK, lF3, ?_⟩
        refine k2 D q q2 _ ((bC.same s6).same sE).upd py sy ?_ ⟨⟨kvs', ?_, ?_⟩, ?_, ?_⟩ nD0 nq0 ((bC.same s6).free ⟨_, haE⟩ nq2)
        · rw [upd_same, ← hF3]
          rfl
        · rw [upd_ne nDa]; exact sE _ _ (s6 _ _ hDC)
        · exact hRu ((hRC.same s6).same sE) _ (sE _ _ haE)
        · rw [upd_ne nqa]; exact sE _ _ (s6 _ _ hqC)
        · rw [upd_ne n2a, upd_same]
end
end K09
namespace K09
open PySem PySem.Spec PyProof.Rows L2 RatM ClX
/-! ### balances as values -/
/-- a balance of the things zs with the numbers g -/
def BalAt (H : Hp) (a CB C : Addr) (g : Str → Int × Int) (zs : List Str) : Prop := ∃ dx nd tp kt, H a = some (.ins CB dx (balF nd tp kt (decide (V.int (zs.length : Nat) = V.int 0)))) ∧ BalIn H C g zs nd tp kt
theorem BalIn.same {H H' : Hp} {C nd tp kt : Addr} {g : Str → Int × Int} {zs : List Str} (h : BalIn H C g zs nd tp kt) (s : Same H H') : BalIn H' C g zs nd tp kt := by
  obtain ⟨⟨kvs, e, r⟩, e1, e2⟩ := h
  exact ⟨⟨kvs, s _ _ e, r.same s⟩, s _ _ e1, s _ _ e2⟩
theorem BalAt.same {H H' : Hp} {a CB C : Addr} {g : Str → Int × Int} {zs : List Str} (h : BalAt H a CB C g zs) (s : Same H H') : BalAt H' a CB C g zs := by
  obtain ⟨dx, nd, tp, kt, e, i⟩ := h
  exact ⟨dx, nd, tp, kt, s _ _ e, i.same s⟩
/-- numbers other than 0 -/
abbrev nz (g : Str → Int × Int) (ys : List Str) : List Str := ys.filter fun n => !decide ((g n).1 = 0)
/-- the names that a dict may have as keys -/
structure NsOk (ks : List Str) : Prop where
  nd : ks.Nodup
  le : ks.length ≤ 60
  nm : ∀ n ∈ ks, n.length ≤ 100000 ∧ nameT n.cps.toList = true
/-- Balance(x) -/
def MkB (CB C : Addr) (x : V) (H : Hp) (Q : VK) : Prop := ∃ (d : Addr) (kvs : List (Key × V)) (ks : List Str) (g : Str → Int × Int), x = .ref d ∧ H d = some (.dK kvs) ∧ NumD H C g kvs ks ∧ NsOk ks ∧
  ∀ a ys H', Same H H' → H a = none → ys.Perm ks → sortedS ys = true → BalAt H' a CB C g (nz g ys) → Q (.ref a) H'
theorem mkB_sp {CB C : Addr} {x : V} {H : Hp} {Q : VK} {E : XK} (h : MkB CB C x H Q) (a dx : Addr) (na : H a = none) (nd : H dx = none) (ne : dx ≠ a) :
    spBI C CB [.ref a, x] (upd (upd H dx (.own a)) a (.ins CB dx [])) (fun v H2 => v = .non ∧ Q (.ref a) H2) E := by
  obtain ⟨d, kvs, ks, g, rfl, hd, hk, ok, k⟩ := h
  have s1 : Same H (upd (upd H dx (.own a)) a (.ins CB dx [])) := fun b o e => by rw [upd_ne (ne_of_none e na), upd_ne (ne_of_none e nd)]; exact e
  refine ⟨a, dx, d, kvs, ks, g, rfl, upd_same, s1 _ _ hd, hk.same s1, ok.nd, ok.le, ok.nm, fun ys nd' tp kt H' off py sy at_ bi n1 n2 n3 => ⟨rfl, k a ys H' (fun b o e => off b o (ne_of_none e na) (s1 b o e)) na py sy ⟨dx, nd', tp, kt, at_, bi⟩⟩⟩
/-- what the functions of balances rest on -/
structure BalK (P : Program) (w : World) (K : PySem.W.Frag) (mg : Str → Option Value) (base : Heap) (CB C : Addr) : Prop where
  T : BalC K CB
  n : C ≠ CB
  g : mg "Balance" = some (.ref CB)
  make : ∃ (f : Addr) (fd : FuncData), Mk K CB f ∧ FnOk P w K mg base (L2.CX P w) 8 f fd ["self", "numbers"] (spBI C CB) ∧ Binds K fd ["self", "numbers"] []
section
variable {X : Cx} {CB C : Addr} {E : XK} {p pos : Pos} {e1 : Expr} {ta : TA}
def tBal (CB C : Addr) (ta : TA) : TE := fun σ H Q => ta σ H fun vs H1 => ∃ x, vs = [x] ∧ MkB CB C x H1 Q
theorem pe_bal {P : Program} {w : World} {K : PySem.W.Frag} {mg : Str → Option Value} {base : Heap} (R : BalK P w K mg base CB C) (hr : Room 9 X.A) (hx : Passes (L2.CX X.prog X.w) X E) (hg : Gl X "Balance") (ha : PA X [e1] ta)
    (h1 : X.prog = P := by rfl) (h2 : X.w = w := by rfl) (h3 : X.K = K := by rfl) (h4 : X.mg = mg := by rfl) (h5 : X.base = base := by rfl)
    (he : starEach [e1] X.env = (false, eval e1 X.env) :: starEach [] X.env := by rfl) (hpl : (backTo pos (starEach [] X.env)).any (·.1) = false := by rfl) :
    PE X (.Call (.Name "Balance" p) [e1] [] pos) (tBal CB C ta) := by
  subst h1 h2 h3 h4 h5
  obtain ⟨f, fd, M, F, b0⟩ := R.make
  refine ⟨fun pins s σ H Q I h => ?_⟩
  refine wpAny_Call_Name_kw (ld_glob I hg R.g ?_ (by decide))
  refine PySem.W.callWith_K (h₀ := X.base) I.ok.mod.kin M.kp (thn (ha.run pos pins s σ H _ I h) fun us s1 ⟨vs, H1, I1, r, q⟩ => ⟨I1.kIn, ?_⟩) he hpl
  obtain ⟨x, rfl, q⟩ := q
  exact run_make (dvs := []) (E := E) M F hr b0 .nil hx I1 r fun a dx na nd ne => mkB_sp q a dx na nd ne
end
end K09
namespace K09
open PySem PySem.Spec PyProof.Rows L2 RatM ClX
/-- the number of a thing -/
def num (g : Str → Int × Int) (zs : List Str) (n : Str) : Int × Int := if n ∈ zs then g n else (0, 1)
theorem RatD.val {H : Hp} {C : Addr} {g : Str → Int × Int} {kvs : List (Key × V)} {ks : List Str} (h : RatD H C g kvs ks) {n : Str} (m : n ∈ ks) : ∃ v, valV kvs (.inr n) = some v ∧ ∃ b, v = .ref b ∧ RatAt H b C (g n).1 (g n).2 := by
  induction h with
  | nil => cases m
  | @cons x y l1 l2 h t ih =>
    by_cases e : y = n
    · subst e
      exact ⟨x.2, valV_pos h.1, h.2⟩
    · have ne : ¬ x.1 = Sum.inr n := fun z => e (by rw [h.1] at z; injection z)
      rw [valV_neg ne]
      exact ih (by cases m with
        | head => exact absurd rfl e
        | tail _ m => exact m)
def spNum (CB C : Addr) : Sp := fun vs H Q _ => ∃ (a : Addr) (n : Str) (g : Str → Int × Int) (zs : List Str), vs = [.ref a, .str n] ∧ BalAt H a CB C g zs ∧ n.length ≤ 100000 ∧ nameT n.cps.toList = true ∧ ∀ r H', Same H H' → RatAt H' r C (num g zs n).1 (num g zs n).2 → Q (.ref r) H'
section
variable {P : Program} {w : World} {K : PySem.W.Frag} {mg : Str → Option Value} {base : Heap} {C BR CB BB : Addr}
theorem scNo : FnScope ["self", "thing"] ["self", "thing"] (defScope (balM 3)) := ⟨rfl, rfl, rfl, by decide +kernel, rfl, by decide +kernel, by decide +kernel⟩
theorem ok_numberOf {f fM : Addr} {fd fdM : FuncData} (F : MtP K "number_of" "Balance.number_of" (balM 3) f fd) (T : BalC K CB) (R : RatK P w K mg base C BR)
    (GM : FnOk P w K mg base CX0 1 fM fdM ["value"] (spNm K)) (bM : Binds K fdM ["value"] []) (kM : PySem.W.keepIn K (.ref fM) = true) (gM : mg "is_name" = some (.ref fM)) :
    FnOk P w K mg base CX0 5 f fd ["self", "thing"] (spNum CB C) := by
  refine F.ok scNo (fun vs H Q E h => ?_) (fun cdv A outer s H vs Q E hr h => ?_)
  · obtain ⟨a, n, g, zs, rfl, _⟩ := h
    rfl
  · obtain ⟨a, n, g, zs, rfl, hb, ln, tn, k⟩ := h
    have hr4 : Room 4 _ := hr
    have hu1 : (A.deeper (envOfC (Str.ofString "Balance.number_of") (defScope (balM 3)) s.heap.objs.size f cdv)).units + 1 < cLine := by have := hr4.units; omega
    refine ⟨_, PSs.nox (pss_one (ps_ret (pe_ifExp (pt_val (pe_call GM (hr4.mono (by decide)) rfl gM kM bM .nil pass0 (pa_cons (pv 1) pa_nil))) (pe_dget2 hu1 (pe_fld (pv 0) rfl) (pv 1) (pe_rat1 R (by exact hr4) (E := E0) passL rfl (pa_cons pe_int pa_nil)) ⟨rfl, rfl, rfl, rfl⟩)
      (pe_rat1 R (by exact hr4) (E := E0) passL rfl (pa_cons pe_int pa_nil))))), ?_⟩
    obtain ⟨dx, nd, tp, kt, ha, ⟨kvs, hd, hR⟩, ht, hk⟩ := hb
    refine ⟨_, rfl, _, rfl, .inl ⟨n, rfl, ln, fun H1 s1 => ⟨true, congrArg V.bl tn, iteT ?_⟩⟩⟩
    refine ⟨_, rfl, a, CB, dx, _, _, rfl, s1 _ _ ha, T.cls, T.no "_numbers" (by simp), rfl, nd, rfl, .inl ⟨kvs, .inl (s1 _ _ hd)⟩, _, rfl, _, rfl, .inl ⟨0, 1, rfl, rfl, by decide, by decide, by decide, fun r H2 s2 h2 => ⟨_, DGet.k (k := .inr n) (s2 _ _ (s1 _ _ hd)), ?_⟩⟩⟩
    by_cases m : n ∈ zs
    · obtain ⟨v', ev', b, eb, hb⟩ := RatD.val hR m
      rw [ev', eb]
      refine k b H2 (s1.trans s2) ?_
      unfold num
      rw [if_pos m]
      exact hb.same (s1.trans s2)
    · rw [NumD.noVal hR.num m]
      refine k r H2 (s1.trans s2) ?_
      unfold num
      rw [if_neg m]
      exact h2
end
end K09
namespace K09
open PySem PySem.Spec PyProof.Rows L2 RatM ClX
/-! ### dict comprehensions that make balances -/
/-- so far: the things ahead that f lets through, with the numbers g -/
def DcP (HL : Hp) (D C : Addr) (g : Str → Int × Int) (f : Str → Bool) (zs : List Str) (i : Nat) (Hx : Hp) : Prop := Same HL Hx ∧ ∃ kvs', Hx D = some (.dK kvs') ∧ RatD Hx C g kvs' ((zs.take i).filter f)
section
variable {HL Hx H5 H1 H' : Hp} {D C nd b : Addr} {g : Str → Int × Int} {f : Str → Bool} {zs : List Str} {kvs : List (Key × V)} {i : Nat} {n : Str} {x : V} {od : Obj}
theorem DcP.zero (nD : HL D = none) : DcP HL D C g f zs 0 (upd HL D (.dK [])) := ⟨same_upd nD, [], upd_same, .nil⟩
theorem DcP.skip (h : DcP HL D C g f zs i Hx) (s : Same Hx H5) (en : zs[i]? = some n) (hf : f n = false) : DcP HL D C g f zs (i + 1) H5 := by
  obtain ⟨s2, kvs', hD, hR⟩ := h
  refine ⟨s2.trans s, kvs', s _ _ hD, ?_⟩
  have tk := take_succ_filter f zs i n en
  rw [tk, hf]
  simp only [Bool.false_eq_true, if_false, List.append_nil]
  exact hR.same s
theorem DcP.put (h : DcP HL D C g f zs i Hx) (nD : HL D = none) (ok : NsOk zs) (s : Same Hx H5) (en : zs[i]? = some n) (hf : f n = true) (hb : RatAt H5 b C (g n).1 (g n).2) :
    ∃ kvs k, (V.str n) = kV k ∧ H5 D = some (.dK kvs) ∧ kvs.length < sizeLine ∧ DcP HL D C g f zs (i + 1) (upd H5 D (.dK (putK kvs k (.ref b)))) := by
  obtain ⟨s2, kvs', hD, hR⟩ := h
  refine ⟨kvs', .inr n, rfl, s _ _ hD, ?_, fun c o e => ?_, _, upd_same, ?_⟩
  · have h1 := Paired.length hR
    have h2 := List.length_filter_le f (zs.take i)
    have h3 := List.length_take (i := i) (l := zs)
    have h4 := ok.le
    rw [sizeLine_eq]; omega
  · rw [upd_ne (ne_of_none e nD)]; exact s _ _ (s2 _ _ e)
  · have tk := take_succ_filter f zs i n en
    rw [tk, hf]
    have nt : n ∉ (zs.take i).filter f := fun m => by
      obtain ⟨j, hj, ej⟩ := List.mem_take_iff_getElem.mp (List.mem_filter.mp m).1
      have h1 : zs[j]? = some n := by rw [List.getElem?_eq_getElem (by omega), ej]
      have lj : j < zs.length := by omega
      have h2 := (List.getElem?_inj lj ok.nd).mp (h1.trans en.symm)
      omega
    rw [putK_new _ (NumD.noVal hR.num nt)]
    exact Paired.snoc ((hR.same s).upd_d (s _ _ hD)) ⟨rfl, b, rfl, RatAt.upd_d hb (s _ _ hD)⟩
theorem DcP.done (h : DcP HL D C g f zs zs.length Hx) : Same HL Hx ∧ ∃ kvs', Hx D = some (.dK kvs') ∧ RatD Hx C g kvs' (zs.filter f) := by
  unfold DcP at h
  rw [List.take_length] at h
  exact h
theorem items_turn (hRL : RatD HL C g kvs zs) (s2 : Same HL Hx) (hy : YPair (fun i => kvs[i]?.map fun kv => kV kv.1) (fun i => kvs[i]?.map Prod.snd) i Hx x H') :
    ∃ TT n b, zs[i]? = some n ∧ x = .ref TT ∧ Same Hx H' ∧ H' TT = some (.tup [.str n, .ref b]) ∧ RatAt H' b C (g n).1 (g n).2 := by
  obtain ⟨TT, xk, xv, rfl, nTT, rfl, e1, e2⟩ := hy
  dsimp only at e1 e2
  obtain ⟨kv, ekv, e1⟩ := Option.map_eq_some_iff.mp e1
  rw [ekv] at e2
  obtain rfl : kv.2 = xv := by simpa using e2
  obtain ⟨n, en, ek, b, eb, hb⟩ := Paired.at' hRL i _ ekv
  rw [ek] at e1
  subst e1
  rw [eb]
  have s3 : Same Hx (upd Hx TT (.tup [kV (.inr n), .ref b])) := same_upd nTT
  exact ⟨TT, n, b, en, rfl, s3, upd_same, hb.same (s2.trans s3)⟩
theorem unlock_same (hd : H1 nd = some (.dK kvs)) (s : Same (upd H1 nd (.frz od (.dK kvs))) Hx) : Same H1 (upd Hx nd (.dK kvs)) := fun b o e => by
  by_cases eb : b = nd
  · subst eb
    rw [upd_same, ← hd, e]
  · rw [upd_ne eb]
    refine s _ _ ?_
    rw [upd_ne eb]
    exact e
theorem sg_pos (p : Int) : decide (0 < b2i (decide (0 < p)) - b2i (decide (p < 0))) = decide (0 < p) := by
  refine decide_eq_decide.mpr ?_
  unfold b2i
  by_cases h1 : 0 < p
  · have h2 : ¬ p < 0 := by omega
    simp [h1, h2]
  · by_cases h2 : p < 0 <;> simp [h1, h2]
theorem sg_neg (p : Int) : decide (b2i (decide (0 < p)) - b2i (decide (p < 0)) < 0) = decide (p < 0) := by
  refine decide_eq_decide.mpr ?_
  unfold b2i
  by_cases h1 : 0 < p
  · have h2 : ¬ p < 0 := by omega
    simp [h1, h2]
  · by_cases h2 : p < 0 <;> simp [h1, h2]
end
/-- a balance's things and numbers, as it keeps them -/
structure BalOk (g : Str → Int × Int) (zs : List Str) : Prop where
  ns : NsOk zs
  so : sortedS zs = true
  ne : ∀ n ∈ zs, (g n).1 ≠ 0
theorem BalOk.nz {g : Str → Int × Int} {zs : List Str} (h : BalOk g zs) : nz g zs = zs := List.filter_eq_self.mpr fun n m => by simp [h.ne n m]
theorem NsOk.filter {zs : List Str} (h : NsOk zs) (f : Str → Bool) : NsOk (zs.filter f) := ⟨h.nd.filter _, Nat.le_trans (List.length_filter_le _ _) h.le, fun n m => h.nm n (List.mem_filter.mp m).1⟩
theorem NsOk.perm {zs ys : List Str} (h : NsOk zs) (p : ys.Perm zs) : NsOk ys := ⟨p.nodup_iff.mpr h.nd, by rw [p.length_eq]; exact h.le, fun n m => h.nm n (p.mem_iff.mp m)⟩
theorem BalOk.filter {g : Str → Int × Int} {zs : List Str} (h : BalOk g zs) (f : Str → Bool) : BalOk g (zs.filter f) := ⟨h.ns.filter f, sorted_filter f h.so, fun n m => h.ne n (List.mem_filter.mp m).1⟩
/-- a balance made of names in order -/
theorem MkB.of {CB C d : Addr} {kvs : List (Key × V)} {ks : List Str} {g : Str → Int × Int} {H : Hp} {Q : VK} (hd : H d = some (.dK kvs)) (hk : NumD H C g kvs ks) (ok : NsOk ks) (so : sortedS ks = true)
    (k : ∀ a H', Same H H' → H a = none → BalAt H' a CB C g (K09.nz g ks) → Q (.ref a) H') : MkB CB C (.ref d) H Q :=
  ⟨d, kvs, ks, g, rfl, hd, hk, ok, fun a ys H' s n py sy hb => by
    obtain rfl := sorted_unique sy so py
    exact k a H' s n hb⟩
end K09
namespace K09
open PySem PySem.Spec PyProof.Rows L2 RatM ClX
def spGains (CB C : Addr) : Sp := fun vs H Q _ => ∃ (a : Addr) (g : Str → Int × Int) (zs : List Str), vs = [.ref a] ∧ BalAt H a CB C g zs ∧ BalOk g zs ∧ ∀ a' H', Same H H' → BalAt H' a' CB C g (zs.filter fun n => decide (0 < (g n).1)) → Q (.ref a') H'
section
variable {P : Program} {w : World} {K : PySem.W.Frag} {mg : Str → Option Value} {base : Heap} {C BR CB BB : Addr}
theorem scGn : FnScope ["self", "thing", "number"] ["self"] (defScope (balM 4)) := ⟨rfl, rfl, rfl, by decide +kernel, rfl, by decide +kernel, by decide +kernel⟩
theorem ok_gains {f : Addr} {fd : FuncData} (F : MtP K "gains" "Balance.gains" (balM 4) f fd) (B : BalK P w K mg base CB C) (TR : RatC K C) :
    FnOk P w K mg base CX0 10 f fd ["self"] (spGains CB C) := by
  refine F.ok scGn (fun vs H Q E h => ?_) (fun cdv A outer s H vs Q E hr h => ?_)
  · obtain ⟨a, g, zs, rfl, _⟩ := h
    rfl
  · obtain ⟨a, g, zs, rfl, hb, ok, k⟩ := h
    have hr9 : Room 9 _ := hr
    refine ⟨_, PSs.nox (pss_one (ps_ret (pe_bal B (by exact hr9) (E := E0) passL rfl (pa_cons (pe_lock (pe_dc (own := [("thing", 1), ("number", 2)]) (g := gTup K 2 (gCons (gName 1) (gCons (gName 2) gNil))) (tt := tTest (tOp (rI0 fun i j => .bl (decide (j < i))) (tFld K (tVar 2) "sign") (tC (.int 0)))) (tk := tVar 1) (tv := tVar 2) rfl scGn.nd (pi_items (pe_fld (pv 0) rfl)) (blkOk_by (N := ["self", "thing", "number"]) (sc := defScope (balM 4)) (by decide +kernel))
      (fun _ _ _ _ _ => pg_tup rfl (pgs_cons (pg_name (i := 1) scGn.nd rfl (Or.inl rfl)) (pgs_cons (pg_name (i := 2) scGn.nd rfl (Or.inl rfl)) pgs_nil))) (fun _ _ _ _ _ => pts_one (pt_cmpR op_gt (pe_fld (pv 2) rfl) pe_int (nomark _))) (fun _ _ _ _ _ => pv 1) (fun _ _ _ _ _ => pv 2))) pa_nil)))), ?_⟩
    obtain ⟨dx, nd, tp, kt, ha, ⟨kvs, hd, hR⟩, ht, hk⟩ := hb
    have nN := B.T.no "_numbers" (by simp)
    have rs := TR.no "sign" (by simp)
    refine ⟨nd, .dK kvs, hd, True.intro, fun od => ?_⟩
    have nda : a ≠ nd := fun e => by rw [e, hd] at ha; cases ha
    refine ⟨_, rfl, a, CB, dx, _, _, rfl, (upd_ne nda).trans ha, B.T.cls, nN, rfl, nd, od, kvs, rfl, upd_same, fun D nD => ?_⟩
    have nDn : D ≠ nd := fun e => by rw [e, upd_same] at nD; cases nD
    have hRL : RatD (upd H nd (.frz od (.dK kvs))) C g kvs zs := hR.upd_d hd
    have hdL : (upd H nd (.frz od (.dK kvs))) nd = some (.frz od (.dK kvs)) := upd_same
    have ul : ∀ Hx, Same (upd H nd (.frz od (.dK kvs))) Hx → Same H (upd Hx nd (.dK kvs)) := fun Hx s => unlock_same hd s
    generalize upd H nd (.frz od (.dK kvs)) = HL at nD hRL hdL ul ⊢
    refine dc_it walk_items (DcP HL D C g (fun n => decide (0 < (g n).1)) zs) (DcP.zero nD) (fun i Hx _ hP => hP.1 _ _ hdL) (fun i x Hx Hx' hi hP hy => ?_) (fun Hx hP => ?_)
    · obtain ⟨TT, n, b, en, rfl, s3, hT, hb⟩ := items_turn hRL hP.1 hy
      obtain ⟨dxb, hb'⟩ := hb
      refine ⟨TT, _, rfl, SqT.of hT, rfl, _, _, rfl, _, _, rfl, rfl, rfl, ?_⟩
      refine ⟨_, rfl, b, C, dxb, _, _, rfl, hb', TR.cls, rs, rfl, _, _, rfl, rfl, decide (0 < (g n).1), congrArg V.bl (sg_pos _), ite2 (fun c => ?_) (fun c => ?_)⟩
      · exact ⟨_, rfl, _, rfl, hP.put nD ok.ns s3 en c ⟨dxb, hb'⟩⟩
      · exact hP.skip s3 en (by simpa using c)
    · rw [Paired.length hR] at hP
      obtain ⟨s2, kvs', hD, hR2⟩ := hP.done
      refine ⟨s2 _ _ hdL, _, rfl, ?_⟩
      refine MkB.of ((upd_ne nDn).trans hD) (RatD.num (hR2.upd_any fun dx fs z => by rw [s2 _ _ hdL] at z; cases z)) (ok.ns.filter _) (sorted_filter _ ok.so) fun a' H' s n hb => ?_
      rw [(ok.filter _).nz] at hb
      exact k a' H' ((ul _ s2).trans s) hb
end
end K09
namespace K09
open PySem PySem.Spec PyProof.Rows L2 RatM ClX
/-- numbers in lowest terms, below 2 ^ B -/
structure BalLo (B : Nat) (g : Str → Int × Int) (zs : List Str) : Prop where
  lo : ∀ n ∈ zs, 0 < (g n).2 ∧ Int.gcd (g n).1 (g n).2 = 1
  sz : ∀ n ∈ zs, (g n).1.natAbs < 2 ^ B ∧ (g n).2.natAbs < 2 ^ B
theorem sz_of {B : Nat} {p : Int} (h : p.natAbs < 2 ^ B) (hB : B ≤ 1900) : Sz p := Nat.lt_of_lt_of_le h (Nat.pow_le_pow_right (by decide) hB)
theorem BalOk.neg {g : Str → Int × Int} {zs : List Str} (h : BalOk g zs) : BalOk (fun n => (-(g n).1, (g n).2)) zs := ⟨h.ns, h.so, fun n m => by have := h.ne n m; show -(g n).1 ≠ 0; omega⟩
theorem BalLo.neg {B : Nat} {g : Str → Int × Int} {zs : List Str} (h : BalLo B g zs) : BalLo B (fun n => (-(g n).1, (g n).2)) zs := ⟨fun n m => ⟨(h.lo n m).1, by show Int.gcd (-(g n).1) (g n).2 = 1; rw [Int.neg_gcd]; exact (h.lo n m).2⟩, fun n m => ⟨by show (-(g n).1).natAbs < _; rw [Int.natAbs_neg]; exact (h.sz n m).1, (h.sz n m).2⟩⟩
def spLosses (CB C : Addr) : Sp := fun vs H Q _ => ∃ (a : Addr) (g : Str → Int × Int) (zs : List Str), vs = [.ref a] ∧ BalAt H a CB C g zs ∧ BalOk g zs ∧ BalLo 1900 g zs ∧ ∀ a' H', Same H H' → BalAt H' a' CB C (fun n => (-(g n).1, (g n).2)) (zs.filter fun n => decide ((g n).1 < 0)) → Q (.ref a') H'
section
variable {P : Program} {w : World} {K : PySem.W.Frag} {mg : Str → Option Value} {base : Heap} {C BR CB BB : Addr}
theorem scLs2 : FnScope ["self", "thing", "number"] ["self"] (defScope (balM 5)) := ⟨rfl, rfl, rfl, by decide +kernel, rfl, by decide +kernel, by decide +kernel⟩
theorem ok_losses {f : Addr} {fd : FuncData} (F : MtP K "losses" "Balance.losses" (balM 5) f fd) (B : BalK P w K mg base CB C) (TR : RatC K C) {fN : Addr} {fdN : FuncData} (MN : OwnM K C "__neg__" fN) (GN : FnOk P w K mg base (L2.CX P w) 5 fN fdN ["self"] (spSelf K C fun p => -p)) (bN : Binds K fdN ["self"] []) :
    FnOk P w K mg base CX0 10 f fd ["self"] (spLosses CB C) := by
  refine F.ok scLs2 (fun vs H Q E h => ?_) (fun cdv A outer s H vs Q E hr h => ?_)
  · obtain ⟨a, g, zs, rfl, _⟩ := h
    rfl
  · obtain ⟨a, g, zs, rfl, hb, ok, lo, k⟩ := h
    have hr9 : Room 9 _ := hr
    refine ⟨_, PSs.nox (pss_one (ps_ret (pe_bal B (by exact hr9) (E := E0) passL rfl (pa_cons (pe_lock (pe_dc (own := [("thing", 1), ("number", 2)]) (g := gTup K 2 (gCons (gName 1) (gCons (gName 2) gNil))) (tt := tTest (tOp (rI0 fun i j => .bl (decide (i < j))) (tFld K (tVar 2) "sign") (tC (.int 0)))) (tk := tVar 1) (tv := tUn (rOwn1 C (spSelf K C fun p => -p) E0) (tVar 2)) rfl scLs2.nd (pi_items (pe_fld (pv 0) rfl)) (blkOk_by (N := ["self", "thing", "number"]) (sc := defScope (balM 5)) (by decide +kernel))
      (fun _ _ _ _ _ => pg_tup rfl (pgs_cons (pg_name (i := 1) scLs2.nd rfl (Or.inl rfl)) (pgs_cons (pg_name (i := 2) scLs2.nd rfl (Or.inl rfl)) pgs_nil))) (fun _ _ _ _ _ => pts_one (pt_cmpR op_lt (pe_fld (pv 2) rfl) pe_int (nomark _))) (fun _ _ _ _ _ => pv 1) (fun _ _ _ _ _ => pe_un (un_ownNeg MN GN (by exact hr9.mono (by decide)) bN (E := E0) passL) (pv 2)))) pa_nil)))), ?_⟩
    obtain ⟨dx, nd, tp, kt, ha, ⟨kvs, hd, hR⟩, ht, hk⟩ := hb
    have nN := B.T.no "_numbers" (by simp)
    have rs := TR.no "sign" (by simp)
    refine ⟨nd, .dK kvs, hd, True.intro, fun od => ?_⟩
    have nda : a ≠ nd := fun e => by rw [e, hd] at ha; cases ha
    refine ⟨_, rfl, a, CB, dx, _, _, rfl, (upd_ne nda).trans ha, B.T.cls, nN, rfl, nd, od, kvs, rfl, upd_same, fun D nD => ?_⟩
    have nDn : D ≠ nd := fun e => by rw [e, upd_same] at nD; cases nD
    have hRL : RatD (upd H nd (.frz od (.dK kvs))) C g kvs zs := hR.upd_d hd
    have hdL : (upd H nd (.frz od (.dK kvs))) nd = some (.frz od (.dK kvs)) := upd_same
    have ul : ∀ Hx, Same (upd H nd (.frz od (.dK kvs))) Hx → Same H (upd Hx nd (.dK kvs)) := fun Hx s => unlock_same hd s
    generalize upd H nd (.frz od (.dK kvs)) = HL at nD hRL hdL ul ⊢
    refine dc_it walk_items (DcP HL D C (fun n => (-(g n).1, (g n).2)) (fun n => decide ((g n).1 < 0)) zs) (DcP.zero nD) (fun i Hx _ hP => hP.1 _ _ hdL) (fun i x Hx Hx' hi hP hy => ?_) (fun Hx hP => ?_)
    · obtain ⟨TT, n, b, en, rfl, s3, hT, hb⟩ := items_turn hRL hP.1 hy
      obtain ⟨dxb, hb'⟩ := hb
      refine ⟨TT, _, rfl, SqT.of hT, rfl, _, _, rfl, _, _, rfl, rfl, rfl, ?_⟩
      refine ⟨_, rfl, b, C, dxb, _, _, rfl, hb', TR.cls, rs, rfl, _, _, rfl, rfl, decide ((g n).1 < 0), congrArg V.bl (sg_neg _), ite2 (fun c => ?_) (fun c => ?_)⟩
      · have mn := List.mem_of_getElem? en
        obtain ⟨l1, l2⟩ := lo.neg.lo n mn
        have e := low_self l1 l2
        refine ⟨_, rfl, _, rfl, b, rfl, ⟨dxb, _, hb'⟩, b, _, _, rfl, ⟨dxb, hb'⟩, (lo.sz n mn).1, (lo.sz n mn).2, by have := (lo.lo n mn).1; omega, fun b' H5 s5 h5 => ?_⟩
        rw [show lowT (-(g n).1) (g n).2 = -(g n).1 from e.1, show lowB (-(g n).1) (g n).2 = (g n).2 from e.2] at h5
        exact hP.put nD ok.ns (s3.trans s5) en c h5
      · exact hP.skip s3 en (by simpa using c)
    · rw [Paired.length hR] at hP
      obtain ⟨s2, kvs', hD, hR2⟩ := hP.done
      refine ⟨s2 _ _ hdL, _, rfl, ?_⟩
      refine MkB.of ((upd_ne nDn).trans hD) (RatD.num (hR2.upd_any fun dx fs z => by rw [s2 _ _ hdL] at z; cases z)) (ok.ns.filter _) (sorted_filter _ ok.so) fun a' H' s n hb => ?_
      rw [(ok.neg.filter _).nz] at hb
      exact k a' H' ((ul _ s2).trans s) hb
end
end K09
namespace K09
open PySem PySem.Spec PyProof.Rows L2 RatM ClX
/-- times r -/
def mulF (g : Str → Int × Int) (r : Int × Int) : Str → Int × Int := fun n => (lowT ((g n).1 * r.1) ((g n).2 * r.2), lowB ((g n).1 * r.1) ((g n).2 * r.2))
/-- the operators of ratios, and a balance's numbers, as the defs of balances call them -/
structure OpsK (P : Program) (w : World) (K : PySem.W.Frag) (mg : Str → Option Value) (base : Heap) (CB C BR : Addr) : Prop where
  R : RatK P w K mg base C BR
  B : BalK P w K mg base CB C
  sf : PySem.W.selfFirst K C = true
  odd : ∀ T ∈ oddTypes, PySem.W.kitOne K (.type T) (.ref C) = some false
  add : ∃ (f : Addr) (fd : FuncData), OpF K C Operator.Add.info.2 f ∧ FnOk P w K mg base (L2.CX P w) 6 f fd ["self", "other"] (spArith K C BR fun p q p' q' => p * q' + p' * q) ∧ Binds K fd ["self", "other"] []
  mul : ∃ (f : Addr) (fd : FuncData), OpF K C Operator.Mult.info.2 f ∧ FnOk P w K mg base (L2.CX P w) 6 f fd ["self", "other"] (spArith K C BR fun p q p' q' => p * p') ∧ Binds K fd ["self", "other"] []
  num : ∃ (f : Addr) (fd : FuncData), Meth K CB "number_of" f ∧ FnOk P w K mg base CX0 5 f fd ["self", "thing"] (spNum CB C) ∧ Binds K fd ["self", "thing"] []
  isr : ∃ (f : Addr) (fd : FuncData), FnOk P w K mg base CX0 2 f fd ["value"] (spIsR K C) ∧ Binds K fd ["value"] [] ∧ PySem.W.keepIn K (.ref f) = true ∧ mg "is_ratio" = some (.ref f)
def spTimes (CB C : Addr) : Sp := fun vs H Q _ => ∃ (a : Addr) (y : V) (g : Str → Int × Int) (zs : List Str) (r : Int × Int), vs = [.ref a, y] ∧ BalAt H a CB C g zs ∧ BalOk g zs ∧ BalLo 1900 g zs ∧ NumAt H C y r.1 r.2 ∧ Sz r.1 ∧ Sz r.2 ∧ r.2 ≠ 0 ∧
  ∀ a' H', Same H H' → BalAt H' a' CB C (mulF g r) (nz (mulF g r) zs) → Q (.ref a') H'
section
variable {P : Program} {w : World} {K : PySem.W.Frag} {mg : Str → Option Value} {base : Heap} {C BR CB BB : Addr}
theorem scTm : FnScope ["balance", "ratio", "thing"] ["balance", "ratio"] (defScope (top 46)) := ⟨rfl, rfl, rfl, by decide +kernel, rfl, by decide +kernel, by decide +kernel⟩
theorem ok_times {f : Addr} {fd : FuncData} {BX : Addr} (F : FnP K "_times" (top 46) f fd) (O : OpsK P w K mg base CB C BR) (M : ErrN P w K mg base "BadNumber" BX ["part"]) :
    FnOk P w K mg base (L2.CX P w) 10 f fd ["balance", "ratio"] (spTimes CB C) := by
  obtain ⟨fI, fdI, GI, bI, kI, gI⟩ := O.isr
  obtain ⟨fM, fdM, OM, GM, bM⟩ := O.mul
  obtain ⟨fN, fdN, MN, GN, bN⟩ := O.num
  have B := O.B
  refine F.ok scTm (fun vs H Q E h => ?_) (fun cdv A outer s H vs Q E hr h => ?_)
  · obtain ⟨a, y, g, zs, r, rfl, _⟩ := h
    rfl
  · obtain ⟨a, y, g, zs, r, rfl, hb, ok, lo, hy, r1, r2, r0, k⟩ := h
    have hr9 : Room 9 _ := hr
    refine ⟨_, (pss_cons (ps_if (pt_not (pt_val (pe_call GI (hr9.mono (by decide)) rfl gI kI bI .nil pass0 (pa_cons (pv 1) pa_nil)))) (pss_one (ps_raiseN rfl M (hr9.mono (by decide)) (takes_of rfl rfl rfl rfl) (by rfl) (pa_cons pe_str pa_nil))) pss_nil)
      (pss_one (ps_ret (pe_bal B (by exact hr9) (E := E0) passL rfl (pa_cons (pe_dc (own := [("thing", 2)]) (g := gName 2) (tt := tYes) (tk := tVar 2) rfl scTm.nd (pi_tup (pe_fld (pv 0) rfl)) (blkOk_by (N := ["balance", "ratio", "thing"]) (sc := defScope (top 46)) (by decide +kernel))
      (fun _ _ _ _ _ => pg_name (i := 2) scTm.nd rfl (Or.inl rfl)) (fun _ _ _ _ _ => pts_nil) (fun _ _ _ _ _ => pv 2) (fun _ _ _ _ _ => pe_op (op_rat (op := .Mult) O.sf O.odd OM GM bM (by exact hr9.mono (by decide)) (E := E0) passL) (pe_meth (pv 0) B.T.cls MN GN (by exact hr9.mono (by decide)) bN .nil (E := E0) pass0 (pa_cons (pv 2) pa_nil)) (pv 1))) pa_nil))))), ?_⟩
    obtain ⟨dx, nd, tp, kt, ha, ⟨kvs, hd, hR⟩, ht, hk⟩ := hb
    have hb' : BalAt H a CB C g zs := ⟨dx, nd, tp, kt, ha, ⟨kvs, hd, hR⟩, ht, hk⟩
    have nT := B.T.no "things" (by simp)
    refine ⟨_, rfl, _, rfl, .inl ⟨_, _, hy, true, rfl, iteF ?_⟩⟩
    dsimp only [tNext]
    refine ⟨_, rfl, a, CB, dx, _, _, rfl, ha, B.T.cls, nT, rfl, tp, rfl, ⟨_, SqT.of ht⟩, fun D nD => ?_⟩
    refine dc_it (walk_tup (xs := zs.map V.str)) (DcP H D C (mulF g r) (fun _ => true) zs) (DcP.zero nD) (fun i Hx _ hP => SqT.of (hP.1 _ _ ht)) (fun i x Hx Hx' hi hP hy' => ?_) (fun Hx hP => ?_)
    · obtain ⟨rfl, ex⟩ := hy'
      rw [List.getElem?_map] at ex
      obtain ⟨n, en, rfl⟩ := Option.map_eq_some_iff.mp ex
      have mn := List.mem_of_getElem? en
      refine ⟨rfl, yesI ?_⟩
      refine ⟨_, rfl, _, rfl, a, dx, _, rfl, hP.1 _ _ ha, rfl, _, rfl, a, n, g, zs, rfl, hb'.same hP.1, (ok.ns.nm n mn).1, (ok.ns.nm n mn).2, fun b H4 s4 h4 => ?_⟩
      rw [show num g zs n = g n from if_pos mn] at h4
      refine ⟨_, rfl, b, _, _, rfl, h4, (lo.sz n mn).1, (lo.sz n mn).2, by have := (lo.lo n mn).1; omega, .inl ⟨_, _, hy.same (hP.1.trans s4), r1, r2, r0, fun b' H5 s5 h5 => ?_⟩⟩
      exact hP.put nD ok.ns (s4.trans s5) en rfl h5
    · rw [List.length_map] at hP
      obtain ⟨s2, kvs', hD, hR2⟩ := hP.done
      rw [List.filter_eq_self.mpr fun _ _ => rfl] at hR2
      refine ⟨_, rfl, ?_⟩
      refine MkB.of hD hR2.num ok.ns ok.so fun a' H' s n hb => k a' H' (s2.trans s) hb
end
end K09
namespace K09
open PySem PySem.Spec PyProof.Rows L2 RatM ClX
/-- the one and the other one k times, thing by thing -/
def sumF (g : Str → Int × Int) (zs : List Str) (g2 : Str → Int × Int) (zs2 : List Str) (k : Int) : Str → Int × Int := fun n =>
  if n ∈ zs2 then (lowT ((mulF g2 (k, 1) n).1 * (num g zs n).2 + (num g zs n).1 * (mulF g2 (k, 1) n).2) ((mulF g2 (k, 1) n).2 * (num g zs n).2), lowB ((mulF g2 (k, 1) n).1 * (num g zs n).2 + (num g zs n).1 * (mulF g2 (k, 1) n).2) ((mulF g2 (k, 1) n).2 * (num g zs n).2)) else g n
/-- the things of both -/
abbrev joinN (zs zs2 : List Str) : List Str := zs ++ zs2.filter fun n => !decide (n ∈ zs)
theorem putK_old {H : Hp} {C b : Addr} {g g' : Str → Int × Int} {kvs : List (Key × V)} {ks : List Str} {n : Str} (h : RatD H C g kvs ks) (e : ∀ m, m ≠ n → g' m = g m) (hb : RatAt H b C (g' n).1 (g' n).2) :
    RatD H C g' (kvs.map fun kv => if kv.1 = .inr n then (kv.1, V.ref b) else kv) ks := by
  induction h with
  | nil => exact .nil
  | @cons x y l1 l2 h t ih =>
    refine .cons ?_ ih
    dsimp only
    by_cases c : y = n
    · subst c
      rw [if_pos h.1]
      exact ⟨h.1, b, rfl, hb⟩
    · have ne : ¬ x.1 = Sum.inr n := fun z => c (by rw [h.1] at z; injection z)
      rw [if_neg ne]
      obtain ⟨h1, b', h2, h3⟩ := h
      refine ⟨h1, b', h2, ?_⟩
      rw [e y c]
      exact h3
theorem RatD.put {H : Hp} {C b : Addr} {g g' : Str → Int × Int} {kvs : List (Key × V)} {ks : List Str} {n : Str} (h : RatD H C g kvs ks) (e : ∀ m, m ≠ n → g' m = g m) (hb : RatAt H b C (g' n).1 (g' n).2) :
    RatD H C g' (putK kvs (.inr n) (.ref b)) (if n ∈ ks then ks else ks ++ [n]) := by
  have old := putK_old h e hb
  unfold putK
  rw [valV_any]
  by_cases m : n ∈ ks
  · obtain ⟨v, ev, _⟩ := RatD.val h m
    rw [ev, if_pos m]
    exact old
  · rw [NumD.noVal h.num m, if_neg m]
    refine Paired.snoc ?_ ⟨rfl, b, rfl, hb⟩
    have : ∀ {l : List (Key × V)} {k2 : List Str}, RatD H C g l k2 → n ∉ k2 → RatD H C g' l k2 := fun {l k2} q => by
      induction q with
      | nil => exact fun _ => .nil
      | @cons x y l1 l2 q t ih =>
        intro nm
        simp only [List.mem_cons, not_or] at nm
        obtain ⟨q1, b', q2, q3⟩ := q
        refine .cons ⟨q1, b', q2, ?_⟩ (ih nm.2)
        rw [e y (Ne.symm nm.1)]
        exact q3
    exact this h m
def spSum (CB C : Addr) : Sp := fun vs H Q _ => ∃ (a b : Addr) (g g2 : Str → Int × Int) (zs zs2 : List Str) (k : Int), vs = [.ref a, .ref b, .int k] ∧ BalAt H a CB C g zs ∧ BalAt H b CB C g2 zs2 ∧ BalOk g zs ∧ BalOk g2 zs2 ∧ BalLo 900 g zs ∧ BalLo 900 g2 zs2 ∧ zs.length + zs2.length ≤ 60 ∧ (k = 1 ∨ k = -1) ∧
  ∀ a' ys H', Same H H' → ys.Perm (joinN zs zs2) → sortedS ys = true → BalAt H' a' CB C (sumF g zs g2 zs2 k) (nz (sumF g zs g2 zs2 k) ys) → Q (.ref a') H'
theorem joinN_ok {zs zs2 : List Str} (h : NsOk zs) (h2 : NsOk zs2) (l : zs.length + zs2.length ≤ 60) : NsOk (joinN zs zs2) := by
  refine ⟨List.nodup_append.mpr ⟨h.nd, h2.nd.filter _, fun a ha b hb e => ?_⟩, ?_, fun n m => ?_⟩
  · subst e
    have := (List.mem_filter.mp hb).2
    simp [ha] at this
  · rw [List.length_append]
    have := List.length_filter_le (fun n => !decide (n ∈ zs)) zs2
    omega
  · rcases List.mem_append.mp m with m | m
    · exact h.nm n m
    · exact h2.nm n (List.mem_filter.mp m).1
section
variable {P : Program} {w : World} {K : PySem.W.Frag} {mg : Str → Option Value} {base : Heap} {C BR CB BB : Addr}
theorem scSm : FnScope ["one", "other", "factor", "numbers", "thing"] ["one", "other", "factor"] (defScope (top 45)) := ⟨rfl, rfl, rfl, by decide +kernel, rfl, by decide +kernel, by decide +kernel⟩
theorem ok_summed {f : Addr} {fd : FuncData} (F : FnP K "_summed" (top 45) f fd) (O : OpsK P w K mg base CB C BR) (M : ErrN P w K mg base "BadBalance" BB ["part"]) (bi : mg "isinstance" = none) (tyB : ∀ (H : Hp) (a : Addr) g zs, BalAt H a CB C g zs → TyX K H (.ref a) (.ref CB)) (cc : PySem.W.kitOne K (.ref CB) (.ref CB) = some true) :
    FnOk P w K mg base (L2.CX P w) 10 f fd ["one", "other", "factor"] (spSum CB C) := by
  obtain ⟨fA, fdA, OA, GA, bA⟩ := O.add
  obtain ⟨fM, fdM, OM, GM, bM⟩ := O.mul
  obtain ⟨fN, fdN, MN, GN, bN⟩ := O.num
  have B := O.B
  refine F.ok scSm (fun vs H Q E h => ?_) (fun cdv A outer s H vs Q E hr h => ?_)
  · obtain ⟨a, b, g, g2, zs, zs2, kk, rfl, _⟩ := h
    rfl
  · obtain ⟨a, b, g, g2, zs, zs2, kk, rfl, hb, hb2, ok, ok2, lo, lo2, ll, hkk, k⟩ := h
    have hr9 : Room 9 _ := hr
    have hu1 : (A.deeper (envOfC (Str.ofString "_summed") (defScope (top 45)) s.heap.objs.size f cdv)).units + 1 < cLine := by have := hr9.units; omega
    refine ⟨_, (pss_cons (ps_if (pt_not (pt_val (pe_callB call_isi (by rfl) bi (by decide +kernel) (pa_cons (pv 1) (pa_cons (pe_glob (v := .ref _) rfl B.g rfl) pa_nil))))) (pss_one (ps_raiseN rfl M (hr9.mono (by decide)) (takes_of rfl rfl rfl rfl) (by rfl) (pa_cons pe_str pa_nil))) pss_nil)
      (pss_cons (ps_setDc (i := 3) (own := [("thing", 4)]) (g := gName 4) (tt := tYes) (tk := tVar 4) rfl scSm.nd rfl rfl (sw_trueD rfl rfl rfl (by decide +kernel)) (pi_tup (pe_fld (pv 0) rfl)) (blkOk_by (N := ["one", "other", "factor", "numbers", "thing"]) (sc := defScope (top 45)) (by decide +kernel))
      (fun _ _ _ _ _ => pg_name (i := 4) scSm.nd rfl (Or.inl rfl)) (fun _ _ _ _ _ => pts_nil) (fun _ _ _ _ _ => pv 4) (fun _ _ _ _ _ => pe_meth (pv 0) B.T.cls MN GN (by exact hr9.mono (by decide)) bN .nil (E := E0) pass0 (pa_cons (pv 4) pa_nil)))
      (pss_cons (ps_for (passes_of rfl) rfl (pi_tup (pe_fld (pv 1) rfl)) (pg_name (i := 4) scSm.nd rfl (.inl rfl)) (pss_one (ps_dput hu1 (pv 3) (pv 4) (pe_op (op_rat (op := .Add) O.sf O.odd OA GA bA (by exact hr9.mono (by decide)) (E := E0) passL) (pe_op (op_rat (op := .Mult) O.sf O.odd OM GM bM (by exact hr9.mono (by decide)) (E := E0) passL) (pe_meth (pv 1) B.T.cls MN GN (by exact hr9.mono (by decide)) bN .nil (E := E0) pass0 (pa_cons (pv 4) pa_nil)) (pv 2)) (pe_dget2 hu1 (pv 3) (pv 4) pe_int ⟨rfl, rfl, rfl, rfl⟩)) (by rfl))))
      (pss_one (ps_ret (pe_bal B (by exact hr9) (E := E0) passL rfl (pa_cons (pv 3) pa_nil))))))), ?_⟩
    have nT := B.T.no "things" (by simp)
    refine ⟨_, rfl, _, _, _, _, _, rfl, .own CB, tyB _ _ _ _ hb2, cc, true, rfl, iteF ?_⟩
    dsimp only [tNext, tSeq, tAsg]
    obtain ⟨dx, nd, tp, kt, ha, ⟨kvs, hd, hR⟩, ht, hk⟩ := id hb
    obtain ⟨dx2, nd2, tp2, kt2, ha2, ⟨kvs2, hd2, hR2⟩, ht2, hk2⟩ := id hb2
    refine ⟨_, rfl, a, CB, dx, _, _, rfl, ha, B.T.cls, nT, rfl, tp, rfl, ⟨_, SqT.of ht⟩, fun D nD => ?_⟩
    refine dc_it (walk_tup (xs := zs.map V.str)) (DcP H D C g (fun _ => true) zs) (DcP.zero nD) (fun i Hx _ hP => SqT.of (hP.1 _ _ ht)) (fun i x Hx Hx' hi hP hy' => ?_) (fun Hx hP => ?_)
    · obtain ⟨rfl, ex⟩ := hy'
      rw [List.getElem?_map] at ex
      obtain ⟨n, en, rfl⟩ := Option.map_eq_some_iff.mp ex
      have mn := List.mem_of_getElem? en
      refine ⟨rfl, yesI ?_⟩
      refine ⟨_, rfl, _, rfl, a, dx, _, rfl, hP.1 _ _ ha, rfl, _, rfl, a, n, g, zs, rfl, hb.same hP.1, (ok.ns.nm n mn).1, (ok.ns.nm n mn).2, fun b' H4 s4 h4 => ?_⟩
      rw [show num g zs n = g n from if_pos mn] at h4
      exact hP.put nD ok.ns s4 en rfl h4
    · rw [List.length_map] at hP
      obtain ⟨s2, kvs', hD, hR3⟩ := hP.done
      rw [List.filter_eq_self.mpr fun _ _ => rfl] at hR3
      dsimp only [gName]
      refine ⟨_, rfl, b, CB, dx2, _, _, rfl, s2 _ _ ha2, B.T.cls, nT, rfl, tp2, rfl, ⟨_, SqT.of (s2 _ _ ht2)⟩, ?_⟩
      refine for_it (walk_tup (xs := zs2.map V.str)) (fun i σ Hx => (∃ o, σ = [some (.ref a), some (.ref b), some (.int kk), some (.ref D), o]) ∧ Same H Hx ∧ ∃ kv, Hx D = some (.dK kv) ∧ RatD Hx C (fun n => if n ∈ zs2.take i then sumF g zs g2 zs2 kk n else g n) kv (joinN zs (zs2.take i)))
        ⟨⟨none, rfl⟩, s2, kvs', hD, by simpa [joinN] using hR3⟩ (fun i σ Hx _ hP => SqT.of (hP.2.1 _ _ ht2)) ?_ ?_
      · rintro i x σ Hx Hx' hi ⟨⟨o, rfl⟩, s3, kv, hDx, hRx⟩ ⟨rfl, ex⟩
        rw [List.getElem?_map] at ex
        obtain ⟨n, en, rfl⟩ := Option.map_eq_some_iff.mp ex
        have mn := List.mem_of_getElem? en
        have nt : n ∉ zs2.take i := fun m => by
          obtain ⟨j, hj, ej⟩ := List.mem_take_iff_getElem.mp m
          have h1 : zs2[j]? = some n := by rw [List.getElem?_eq_getElem (by omega), ej]
          have lj : j < zs2.length := by omega
          have h2 := (List.getElem?_inj lj ok2.ns.nd).mp (h1.trans en.symm)
          omega
        have tk : zs2.take (i + 1) = zs2.take i ++ [n] := by rw [List.take_add_one, en]; rfl
        refine ⟨_, rfl, b, dx2, _, rfl, s3 _ _ ha2, rfl, _, rfl, b, n, g2, zs2, rfl, hb2.same s3, (ok2.ns.nm n mn).1, (ok2.ns.nm n mn).2, fun r1 H4 s4 h4 => ?_⟩
        rw [show num g2 zs2 n = g2 n from if_pos mn] at h4
        have l0 := lo2.lo n mn
        have z0 := lo2.sz n mn
        have kz : Sz kk := by rcases hkk with rfl | rfl <;> decide
        have q0 : (g2 n).2 * 1 ≠ 0 := by omega
        refine ⟨_, rfl, r1, _, _, rfl, h4, sz_of z0.1 (by decide), sz_of z0.2 (by decide), by omega, .inl ⟨kk, 1, .inr ⟨rfl, rfl, by rcases hkk with rfl | rfl <;> decide⟩, kz, by decide, by decide, fun r2 H5 s5 h5 => ?_⟩⟩
        have h5 : RatAt H5 r2 C (mulF g2 (kk, 1) n).1 (mulF g2 (kk, 1) n).2 := h5
        have z1 : (mulF g2 (kk, 1) n).1.natAbs < 2 ^ 900 := by
          refine Nat.lt_of_le_of_lt (lowT_le q0) ?_
          show ((g2 n).1 * kk).natAbs < _
          rw [Int.natAbs_mul]
          rcases hkk with rfl | rfl
          · simpa using z0.1
          · simpa using z0.1
        have z2 : (mulF g2 (kk, 1) n).2.natAbs < 2 ^ 900 := by
          refine Nat.lt_of_le_of_lt (lowB_le q0) ?_
          show ((g2 n).2 * 1).natAbs < _
          rw [Int.mul_one]
          exact z0.2
        have z3 : 0 < (mulF g2 (kk, 1) n).2 := lowB_pos q0
        have s35 := s3.trans (s4.trans s5)
        have hD5 := s5 _ _ (s4 _ _ hDx)
        have hR5 := (hRx.same s4).same s5
        have nz3 : Sz (num g zs n).1 ∧ Sz (num g zs n).2 ∧ (num g zs n).2 ≠ 0 := by
          unfold num
          by_cases m : n ∈ zs
          · rw [if_pos m]
            exact ⟨sz_of (lo.sz n m).1 (by decide), sz_of (lo.sz n m).2 (by decide), by have := (lo.lo n m).1; omega⟩
          · rw [if_neg m]
            exact ⟨by decide, by decide, by decide⟩
        have ki : n ∈ joinN zs (zs2.take i) ↔ n ∈ zs := by
          constructor
          · intro m
            rcases List.mem_append.mp m with m | m
            · exact m
            · exact absurd (List.mem_filter.mp m).1 nt
          · exact fun m => List.mem_append_left _ m
        have on : NumAt H5 C ((valV kv (.inr n)).getD (.int 0)) (num g zs n).1 (num g zs n).2 := by
          unfold num
          by_cases m : n ∈ zs
          · obtain ⟨v, ev, hv⟩ := NumD.val hR5.num (ki.mpr m)
            rw [ev, if_pos m]
            rw [if_neg nt] at hv
            exact hv
          · rw [NumD.noVal hR5.num fun z => m (ki.mp z), if_neg m]
            exact .inr ⟨rfl, rfl, by decide⟩
        refine ⟨_, rfl, D, rfl, .inl ⟨kv, .inl hD5⟩, _, rfl, _, DGet.k (k := .inr n) hD5, r2, _, _, rfl, h5, sz_of z1 (by decide), sz_of z2 (by decide), by omega, .inl ⟨_, _, on, nz3.1, nz3.2.1, nz3.2.2, fun r3 H6 s6 h6 => ?_⟩⟩
        have hD6 := s6 _ _ hD5
        have hR6 := hR5.same s6
        have lk := Paired.length hRx
        have l1 : (joinN zs (zs2.take i)).length ≤ 60 := by
          have f1 := List.length_filter_le (fun n => !decide (n ∈ zs)) (zs2.take i)
          have f2 := List.length_take (i := i) (l := zs2)
          rw [List.length_append]
          omega
        refine ⟨_, rfl, _, rfl, D, _, rfl, DPut.k (k := .inr n) hD6 (by rw [sizeLine_eq]; omega), ⟨_, rfl⟩, fun c ob e => ?_, _, upd_same, ?_⟩
        · by_cases ec : c = D
          · subst ec
            rw [nD] at e
            cases e
          · rw [upd_ne ec]
            exact s6 _ _ (s35 _ _ e)
        · have put := RatD.put (n := n) (g' := fun m => if m ∈ zs2.take (i + 1) then sumF g zs g2 zs2 kk m else g m) (b := r3) (hR6.upd_d (o := .dK (putK kv (.inr n) (.ref r3))) hD6) (fun m ne => by
            have : (m ∈ zs2.take (i + 1)) ↔ m ∈ zs2.take i := by rw [tk, List.mem_append, List.mem_singleton]; exact ⟨fun z => z.elim id fun z => absurd z ne, .inl⟩
            simp only [this]) (by
            have mt : n ∈ zs2.take (i + 1) := by rw [tk]; exact List.mem_append_right _ (List.mem_singleton.mpr rfl)
            rw [if_pos mt]
            unfold sumF
            rw [if_pos mn]
            exact h6.upd_d hD6)
          have ek : (if n ∈ joinN zs (zs2.take i) then joinN zs (zs2.take i) else joinN zs (zs2.take i) ++ [n]) = joinN zs (zs2.take (i + 1)) := by
            show _ = zs ++ (zs2.take (i + 1)).filter _
            rw [tk, List.filter_append]
            by_cases m : n ∈ zs
            · rw [if_pos (ki.mpr m)]
              simp [m, joinN]
            · rw [if_neg fun z => m (ki.mp z)]
              simp [m, joinN]
          rw [ek] at put
          exact put
      · rintro σ Hx ⟨⟨o, rfl⟩, s3, kv, hDx, hRx⟩
        rw [List.length_map, List.take_length] at hRx
        refine ⟨_, rfl, ?_⟩
        have e : (fun n => if n ∈ zs2 then sumF g zs g2 zs2 kk n else g n) = sumF g zs g2 zs2 kk := funext fun n => by
          by_cases m : n ∈ zs2
          · exact if_pos m
          · rw [if_neg m]
            exact (if_neg m).symm
        rw [e] at hRx
        exact ⟨.ref D, rfl, D, kv, joinN zs zs2, sumF g zs g2 zs2 kk, rfl, hDx, hRx.num, joinN_ok ok.ns ok2.ns ll, fun a' ys H' s n py sy hb => k a' ys H' (s3.trans s) py sy hb⟩
end
end K09
namespace K09
open PySem PySem.Spec PyProof.Rows L2 RatM ClX
/-- self + other, self - other -/
def spAddB (CB C : Addr) (k : Int) : Sp := fun vs H Q E => ∃ x y, vs = [x, y] ∧ spSum CB C [x, y, .int k] H Q E
/-- self * other -/
def spMulB (CB C : Addr) : Sp := fun vs H Q E => ∃ x y, vs = [x, y] ∧ spTimes CB C [x, y] H Q E
/-- -self -/
def spNegB (CB C : Addr) : Sp := fun vs H Q E => ∃ x, vs = [x] ∧ spTimes CB C [x, .int (-1)] H Q E
section
variable {P : Program} {w : World} {K : PySem.W.Frag} {mg : Str → Option Value} {base : Heap} {C BR CB BB : Addr}
theorem scAddB : FnScope ["self", "other"] ["self", "other"] (defScope (balM 8)) := ⟨rfl, rfl, rfl, by decide +kernel, rfl, by decide +kernel, by decide +kernel⟩
theorem ok_addB {f fS : Addr} {fd fdS : FuncData} (F : MtP K "__add__" "Balance.__add__" (balM 8) f fd) (GS : FnOk P w K mg base (L2.CX P w) 10 fS fdS ["one", "other", "factor"] (spSum CB C)) (bS : Binds K fdS ["one", "other", "factor"] []) (kS : PySem.W.keepIn K (.ref fS) = true) (gS : mg "_summed" = some (.ref fS)) :
    FnOk P w K mg base (L2.CX P w) 11 f fd ["self", "other"] (spAddB CB C 1) := by
  refine F.ok scAddB (fun vs H Q E h => ?_) (fun cdv A outer s H vs Q E hr h => ?_)
  · obtain ⟨x, y, rfl, _⟩ := h
    rfl
  · obtain ⟨x, y, rfl, h⟩ := h
    have hr10 : Room 10 _ := hr
    refine ⟨_, pss_one (ps_ret (pe_call GS hr10 rfl gS kS bS .nil (passE (takes_of rfl rfl rfl rfl)) (pa_cons (pv 0) (pa_cons (pv 1) (pa_cons pe_int pa_nil))))), ?_⟩
    exact ⟨_, rfl, _, rfl, h⟩
theorem scSubB : FnScope ["self", "other"] ["self", "other"] (defScope (balM 9)) := ⟨rfl, rfl, rfl, by decide +kernel, rfl, by decide +kernel, by decide +kernel⟩
theorem ok_subB {f fS : Addr} {fd fdS : FuncData} (F : MtP K "__sub__" "Balance.__sub__" (balM 9) f fd) (GS : FnOk P w K mg base (L2.CX P w) 10 fS fdS ["one", "other", "factor"] (spSum CB C)) (bS : Binds K fdS ["one", "other", "factor"] []) (kS : PySem.W.keepIn K (.ref fS) = true) (gS : mg "_summed" = some (.ref fS)) :
    FnOk P w K mg base (L2.CX P w) 11 f fd ["self", "other"] (spAddB CB C (-1)) := by
  refine F.ok scSubB (fun vs H Q E h => ?_) (fun cdv A outer s H vs Q E hr h => ?_)
  · obtain ⟨x, y, rfl, _⟩ := h
    rfl
  · obtain ⟨x, y, rfl, h⟩ := h
    have hr10 : Room 10 _ := hr
    refine ⟨_, pss_one (ps_ret (pe_call GS hr10 rfl gS kS bS .nil (passE (takes_of rfl rfl rfl rfl)) (pa_cons (pv 0) (pa_cons (pv 1) (pa_cons (pe_un un_neg pe_int) pa_nil))))), ?_⟩
    exact ⟨_, rfl, _, rfl, _, rfl, h⟩
theorem scNegB : FnScope ["self"] ["self"] (defScope (balM 10)) := ⟨rfl, rfl, rfl, by decide +kernel, rfl, by decide +kernel, by decide +kernel⟩
theorem ok_negB {f fS : Addr} {fd fdS : FuncData} (F : MtP K "__neg__" "Balance.__neg__" (balM 10) f fd) (GS : FnOk P w K mg base (L2.CX P w) 10 fS fdS ["balance", "ratio"] (spTimes CB C)) (bS : Binds K fdS ["balance", "ratio"] []) (kS : PySem.W.keepIn K (.ref fS) = true) (gS : mg "_times" = some (.ref fS)) :
    FnOk P w K mg base (L2.CX P w) 11 f fd ["self"] (spNegB CB C) := by
  refine F.ok scNegB (fun vs H Q E h => ?_) (fun cdv A outer s H vs Q E hr h => ?_)
  · obtain ⟨x, rfl, _⟩ := h
    rfl
  · obtain ⟨x, rfl, h⟩ := h
    have hr10 : Room 10 _ := hr
    refine ⟨_, pss_one (ps_ret (pe_call GS hr10 rfl gS kS bS .nil (passE (takes_of rfl rfl rfl rfl)) (pa_cons (pv 0) (pa_cons (pe_un un_neg pe_int) pa_nil)))), ?_⟩
    exact ⟨_, rfl, _, rfl, h⟩
theorem scMulB : FnScope ["self", "other"] ["self", "other"] (defScope (balM 11)) := ⟨rfl, rfl, rfl, by decide +kernel, rfl, by decide +kernel, by decide +kernel⟩
theorem ok_mulB {f fS : Addr} {fd fdS : FuncData} (F : MtP K "__mul__" "Balance.__mul__" (balM 11) f fd) (GS : FnOk P w K mg base (L2.CX P w) 10 fS fdS ["balance", "ratio"] (spTimes CB C)) (bS : Binds K fdS ["balance", "ratio"] []) (kS : PySem.W.keepIn K (.ref fS) = true) (gS : mg "_times" = some (.ref fS)) :
    FnOk P w K mg base (L2.CX P w) 11 f fd ["self", "other"] (spMulB CB C) := by
  refine F.ok scMulB (fun vs H Q E h => ?_) (fun cdv A outer s H vs Q E hr h => ?_)
  · obtain ⟨x, y, rfl, _⟩ := h
    rfl
  · obtain ⟨x, y, rfl, h⟩ := h
    have hr10 : Room 10 _ := hr
    refine ⟨_, pss_one (ps_ret (pe_call GS hr10 rfl gS kS bS .nil (passE (takes_of rfl rfl rfl rfl)) (pa_cons (pv 0) (pa_cons (pv 1) pa_nil)))), ?_⟩
    exact ⟨_, rfl, _, rfl, h⟩
end
end K09
namespace K09
open PySem PySem.Spec PyProof.Rows L2 RatM ClX
theorem pe_rat2K {X : Cx} {P : Program} {w : World} {K : PySem.W.Frag} {mg : Str → Option Value} {base : Heap} {C BR : Addr} {E : XK} {p pos : Pos} {e1 e2 : Expr} {ta : TA} (R : RatK P w K mg base C BR) (hr : Room 4 X.A) (hx : Passes (L2.CX X.prog X.w) X E) (hg : Gl X "Ratio") (ha : PA X [e1, e2] ta)
    (hX : X.prog = P ∧ X.w = w ∧ X.K = K ∧ X.mg = mg ∧ X.base = base := by exact ⟨rfl, rfl, rfl, rfl, rfl⟩)
    (he : starEach [e1, e2] X.env = (false, eval e1 X.env) :: starEach [e2] X.env := by rfl) (hpl : (backTo pos (starEach [e2] X.env)).any (·.1) = false := by rfl) :
    PE X (.Call (.Name "Ratio" p) [e1, e2] [] pos) (tRat2 K C BR E ta) := by
  obtain ⟨rfl, rfl, rfl, rfl, rfl⟩ := hX
  exact pe_rat2 R hr hx hg ha he hpl
theorem pe_rat1K {X : Cx} {P : Program} {w : World} {K : PySem.W.Frag} {mg : Str → Option Value} {base : Heap} {C BR : Addr} {E : XK} {p pos : Pos} {e1 : Expr} {ta : TA} (R : RatK P w K mg base C BR) (hr : Room 4 X.A) (hx : Passes (L2.CX X.prog X.w) X E) (hg : Gl X "Ratio") (ha : PA X [e1] ta)
    (hX : X.prog = P ∧ X.w = w ∧ X.K = K ∧ X.mg = mg ∧ X.base = base := by exact ⟨rfl, rfl, rfl, rfl, rfl⟩)
    (he : starEach [e1] X.env = (false, eval e1 X.env) :: starEach [] X.env := by rfl) (hpl : (backTo pos (starEach [] X.env)).any (·.1) = false := by rfl) :
    PE X (.Call (.Name "Ratio" p) [e1] [] pos) (tRat1 K C BR E ta) := by
  obtain ⟨rfl, rfl, rfl, rfl, rfl⟩ := hX
  exact pe_rat1 R hr hx hg ha he hpl
def lcmN (g : Str → Int × Int) (zs : List Str) : Nat := zs.foldl (fun l n => Nat.lcm l (g n).2.natAbs) 1
def gcdN (g : Str → Int × Int) (zs : List Str) : Nat := zs.foldl (fun d n => Nat.gcd d (g n).1.natAbs) 0
theorem lcmN_take {g : Str → Int × Int} {zs : List Str} {i : Nat} {n : Str} (e : zs[i]? = some n) : lcmN g (zs.take (i + 1)) = Nat.lcm (lcmN g (zs.take i)) (g n).2.natAbs := by
  unfold lcmN
  rw [List.take_add_one, e, List.foldl_append]
  rfl
theorem gcdN_take {g : Str → Int × Int} {zs : List Str} {i : Nat} {n : Str} (e : zs[i]? = some n) : gcdN g (zs.take (i + 1)) = Nat.gcd (gcdN g (zs.take i)) (g n).1.natAbs := by
  unfold gcdN
  rw [List.take_add_one, e, List.foldl_append]
  rfl
theorem lcm_fold_le (g : Str → Int × Int) : ∀ (zs : List Str) (l : Nat), (∀ n ∈ zs, (g n).2.natAbs < 2 ^ 12) → zs.foldl (fun l n => Nat.lcm l (g n).2.natAbs) l ≤ l * 2 ^ (12 * zs.length)
  | [], l, _ => by simp
  | n :: t, l, h => by
    have h1 := lcm_fold_le g t (Nat.lcm l (g n).2.natAbs) fun m hm => h m (List.mem_cons_of_mem _ hm)
    have h2 := PySem.W.mc_lcm_le l (g n).2.natAbs
    have h3 := h n List.mem_cons_self
    simp only [List.foldl_cons, List.length_cons]
    refine Nat.le_trans h1 ?_
    rw [show 12 * (t.length + 1) = 12 + 12 * t.length by omega, Nat.pow_add, ← Nat.mul_assoc]
    exact Nat.mul_le_mul_right _ (Nat.le_trans h2 (Nat.mul_le_mul_left _ (Nat.le_of_lt h3)))
theorem lcmN_lt {g : Str → Int × Int} {zs : List Str} (h : ∀ n ∈ zs, (g n).2.natAbs < 2 ^ 12) (l : zs.length ≤ 4) (i : Nat) : lcmN g (zs.take i) < 2 ^ 64 := by
  have h1 := lcm_fold_le g (zs.take i) 1 fun n m => h n (List.mem_of_mem_take m)
  have h2 : (zs.take i).length ≤ 4 := by rw [List.length_take]; omega
  unfold lcmN
  rw [Nat.one_mul] at h1
  refine Nat.lt_of_le_of_lt h1 (Nat.lt_of_le_of_lt (Nat.pow_le_pow_right (by decide) (show 12 * (zs.take i).length ≤ 48 by omega)) (by decide))
theorem gcd_fold_dvd (g : Str → Int × Int) : ∀ (zs : List Str) (d : Nat), zs.foldl (fun d n => Nat.gcd d (g n).1.natAbs) d ∣ d ∧ ∀ n ∈ zs, zs.foldl (fun d n => Nat.gcd d (g n).1.natAbs) d ∣ (g n).1.natAbs
  | [], d => ⟨Nat.dvd_refl _, fun n m => by cases m⟩
  | x :: t, d => by
    obtain ⟨h1, h2⟩ := gcd_fold_dvd g t (Nat.gcd d (g x).1.natAbs)
    refine ⟨Nat.dvd_trans h1 (Nat.gcd_dvd_left _ _), fun n m => ?_⟩
    cases m with
    | head => exact Nat.dvd_trans h1 (Nat.gcd_dvd_right _ _)
    | tail _ m => exact h2 n m
theorem gcdN_dvd {g : Str → Int × Int} {zs : List Str} {n : Str} (m : n ∈ zs) : gcdN g zs ∣ (g n).1.natAbs := (gcd_fold_dvd g zs 0).2 n m
/-- in least terms -/
def leastF (g : Str → Int × Int) (zs : List Str) : Str → Int × Int := fun n => (lowT ((g n).1 * (lcmN g zs : Nat)) ((g n).2 * (gcdN g zs : Nat)), lowB ((g n).1 * (lcmN g zs : Nat)) ((g n).2 * (gcdN g zs : Nat)))
def spLeast (CB C : Addr) : Sp := fun vs H Q _ => ∃ (a : Addr) (g : Str → Int × Int) (zs : List Str), vs = [.ref a] ∧ BalAt H a CB C g zs ∧ BalOk g zs ∧ BalLo 900 g zs ∧ zs.length ≤ 4 ∧ (∀ n ∈ zs, (g n).2.natAbs < 2 ^ 12) ∧ ∀ a' H', Same H H' → BalAt H' a' CB C (leastF g zs) (nz (leastF g zs) zs) → Q (.ref a') H'
section
variable {P : Program} {w : World} {K : PySem.W.Frag} {mg : Str → Option Value} {base : Heap} {C BR CB BB : Addr}
theorem scLe : FnScope ["self", "bottom", "divisor", "number", "thing"] ["self"] (defScope (balM 6)) := ⟨rfl, rfl, rfl, by decide +kernel, rfl, by decide +kernel, by decide +kernel⟩
theorem ok_least {f : Addr} {fd : FuncData} (F : MtP K "least" "Balance.least" (balM 6) f fd) (B : BalK P w K mg base CB C) (R : RatK P w K mg base C BR) (gl : mg "lcm" = some (.builtin "math.lcm")) (gg : mg "gcd" = some (.builtin "math.gcd")) :
    FnOk P w K mg base CX0 10 f fd ["self"] (spLeast CB C) := by
  have TR := R.T
  refine F.ok scLe (fun vs H Q E h => ?_) (fun cdv A outer s H vs Q E hr h => ?_)
  · obtain ⟨a, g, zs, rfl, _⟩ := h
    rfl
  · obtain ⟨a, g, zs, rfl, hb, ok, lo, l4, sm, k⟩ := h
    have hr9 : Room 9 _ := hr
    refine ⟨_, PSs.nox (pss_cons (ps_set (i := 1) scLe.nd rfl (.inr rfl) pe_int) (pss_cons (ps_set (i := 2) scLe.nd rfl (.inr rfl) pe_int)
      (pss_cons (ps_lock (ps_for PassesOwn.never rfl (pi_values (pe_fld (pv 0) rfl)) (pg_name (i := 3) scLe.nd rfl (.inl rfl))
        (pss_cons (ps_set (i := 1) scLe.nd rfl (.inr rfl) (pe_callBfun cr_lcm (by rfl) gl (pa_cons (pv 1) (pa_cons (pe_fld (pv 3) rfl) pa_nil))))
        (pss_one (ps_set (i := 2) scLe.nd rfl (.inr rfl) (pe_callBfun cr_gcd (by rfl) gg (pa_cons (pv 2) (pa_cons (pe_fld (pv 3) rfl) pa_nil))))))))
      (pss_one (ps_ret (pe_bal B (by exact hr9) (E := E0) passL rfl (pa_cons (pe_lock (pe_dc (own := [("thing", 4), ("number", 3)]) (g := gTup K 2 (gCons (gName 4) (gCons (gName 3) gNil))) (tt := tYes) (tk := tVar 4) (tv := tRat2 K C BR E0 (tCons (tOp (rI CMulW fun i j => .int (i * j)) (tFld K (tVar 3) "top") (tVar 1)) (tCons (tOp (rI CMulW fun i j => .int (i * j)) (tFld K (tVar 3) "bottom") (tVar 2)) tNil))) rfl scLe.nd (pi_items (pe_fld (pv 0) rfl)) (blkOk_by (N := ["self", "bottom", "divisor", "number", "thing"]) (sc := defScope (balM 6)) (by decide +kernel))
      (fun _ _ _ _ _ => pg_tup rfl (pgs_cons (pg_name (i := 4) scLe.nd rfl (Or.inl rfl)) (pgs_cons (pg_name (i := 3) scLe.nd rfl (Or.inl rfl)) pgs_nil))) (fun _ _ _ _ _ => pts_nil) (fun _ _ _ _ _ => pv 4) (fun _ _ _ _ _ => pe_rat2K R (by exact hr9.mono (by decide)) (E := E0) passL rfl (pa_cons (pe_op op_mulW (pe_fld (pv 3) rfl) (pv 1)) (pa_cons (pe_op op_mulW (pe_fld (pv 3) rfl) (pv 2)) pa_nil))))) pa_nil))))))), ?_⟩
    obtain ⟨dx, nd, tp, kt, ha, ⟨kvs, hd, hR⟩, ht, hk⟩ := hb
    have nN := B.T.no "_numbers" (by simp)
    have rt := TR.no "top" (by simp)
    have rb := TR.no "bottom" (by simp)
    have nda : a ≠ nd := fun e => by rw [e, hd] at ha; cases ha
    have lk := Paired.length hR
    -- the bottoms' common multiple, the tops' common divisor
    refine ⟨nd, .dK kvs, hd, True.intro, fun od => ?_⟩
    have hRL : RatD (upd H nd (.frz od (.dK kvs))) C g kvs zs := hR.upd_d hd
    have haL : (upd H nd (.frz od (.dK kvs))) a = some (.ins CB dx (balF nd tp kt (decide (V.int (zs.length : Nat) = V.int 0)))) := (upd_ne nda).trans ha
    refine ⟨_, rfl, a, CB, dx, _, _, rfl, haL, B.T.cls, nN, rfl, nd, od, kvs, rfl, upd_same, ?_⟩
    refine for_it walk_values (fun i σ Hx => (∃ o o4, σ = [some (.ref a), some (.int (lcmN g (zs.take i) : Nat)), some (.int (gcdN g (zs.take i) : Nat)), o, o4]) ∧ Hx = upd H nd (.frz od (.dK kvs))) ⟨⟨none, none, rfl⟩, rfl⟩ (fun i σ Hx _ hP => by rw [hP.2]; exact upd_same) ?_ ?_
    · rintro i x σ Hx Hx' hi ⟨⟨o, o4, rfl⟩, rfl⟩ ⟨rfl, key, ek⟩
      obtain ⟨n, en, e1, b, e2, dxb, hb⟩ := Paired.at' hRL i _ ek
      have e2 : x = .ref b := e2
      subst e2
      have mn := List.mem_of_getElem? en
      have lo0 := (lo.lo n mn).1
      refine ⟨_, rfl, _, rfl, b, C, dxb, _, _, rfl, hb, TR.cls, rb, rfl, _, _, rfl, by rw [Int.natAbs_natCast]; exact lcmN_lt sm l4 i, Nat.lt_of_lt_of_le (sm n mn) (by decide), ?_⟩
      refine ⟨_, rfl, _, rfl, b, C, dxb, _, _, rfl, hb, TR.cls, rt, rfl, _, _, rfl, ?_⟩
      refine ⟨⟨some (.ref b), o4, ?_⟩, rfl⟩
      rw [lcmN_take en, gcdN_take en]
      rfl
    · rintro σ Hx ⟨⟨o, o4, rfl⟩, rfl⟩
      rw [lk, List.take_length]
      refine ⟨upd_same, ?_⟩
      have back : upd (upd H nd (.frz od (.dK kvs))) nd (.dK kvs) = H := by
        funext c
        by_cases e : c = nd
        · subst e
          rw [upd_same, hd]
        · rw [upd_ne e, upd_ne e]
      rw [back]
      clear hRL haL
      have lz := lcmN_lt sm l4 zs.length
      rw [List.take_length] at lz
      refine ⟨nd, .dK kvs, hd, True.intro, fun od => ?_⟩
      refine ⟨_, rfl, a, CB, dx, _, _, rfl, (upd_ne nda).trans ha, B.T.cls, nN, rfl, nd, od, kvs, rfl, upd_same, fun D nD => ?_⟩
      have nDn : D ≠ nd := fun e => by rw [e, upd_same] at nD; cases nD
      have hRL : RatD (upd H nd (.frz od (.dK kvs))) C g kvs zs := hR.upd_d hd
      have hdL : (upd H nd (.frz od (.dK kvs))) nd = some (.frz od (.dK kvs)) := upd_same
      have ul : ∀ Hx, Same (upd H nd (.frz od (.dK kvs))) Hx → Same H (upd Hx nd (.dK kvs)) := fun Hx s => unlock_same hd s
      generalize upd H nd (.frz od (.dK kvs)) = HL at nD hRL hdL ul ⊢
      refine dc_it walk_items (DcP HL D C (leastF g zs) (fun _ => true) zs) (DcP.zero nD) (fun i Hx _ hP => hP.1 _ _ hdL) (fun i x Hx Hx' hi hP hy => ?_) (fun Hx hP => ?_)
      · obtain ⟨TT, n, b, en, rfl, s3, hT, hb⟩ := items_turn hRL hP.1 hy
        obtain ⟨dxb, hb'⟩ := hb
        have mn := List.mem_of_getElem? en
        have lo0 := (lo.lo n mn).1
        have sz := lo.sz n mn
        have gd := gcdN_dvd (g := g) mn
        have tp0 : 0 < (g n).1.natAbs := Int.natAbs_pos.mpr (ok.ne n mn)
        have gle := Nat.le_of_dvd tp0 gd
        have gpos := Nat.pos_of_dvd_of_pos gd tp0
        have lz2 : ((lcmN g zs : Nat) : Int).natAbs < 2 ^ 64 := by rw [Int.natAbs_natCast]; exact lz
        have gz2 : ((gcdN g zs : Nat) : Int).natAbs < 2 ^ 900 := by rw [Int.natAbs_natCast]; exact Nat.lt_of_le_of_lt gle sz.1
        have b0 : (g n).2 * ((gcdN g zs : Nat) : Int) ≠ 0 := Int.mul_ne_zero (by omega) (by omega)
        refine ⟨TT, _, rfl, SqT.of hT, rfl, _, _, rfl, _, _, rfl, rfl, rfl, yesI ?_⟩
        refine ⟨_, rfl, _, rfl, b, C, dxb, _, _, rfl, hb', TR.cls, rt, rfl, _, rfl, _, _, rfl, rfl, wide_mul sz.1 lz2 (by decide) (by decide) (by decide), _, rfl, b, C, dxb, _, _, rfl, hb', TR.cls, rb, rfl, _, rfl, _, _, rfl, rfl, wide_mul sz.2 gz2 (by decide) (by decide) (by decide), ?_⟩
        refine ⟨_, _, rfl, .inl ⟨_, _, rfl, rfl, b0, ?_, ?_, fun b' H5 s5 h5 => hP.put nD ok.ns (s3.trans s5) en rfl h5⟩⟩
        · exact Nat.lt_of_lt_of_le (wide_lt sz.1 lz2) (Nat.pow_le_pow_right (by decide) (by decide))
        · exact Nat.lt_of_lt_of_le (wide_lt sz.2 gz2) (Nat.pow_le_pow_right (by decide) (by decide))
      · rw [lk] at hP
        obtain ⟨s2, kvs', hD, hR2⟩ := hP.done
        rw [List.filter_eq_self.mpr fun _ _ => rfl] at hR2
        refine ⟨s2 _ _ hdL, _, rfl, ?_⟩
        exact MkB.of ((upd_ne nDn).trans hD) (RatD.num (hR2.upd_any fun dx fs z => by rw [s2 _ _ hdL] at z; cases z)) ok.ns ok.so fun a' H' s n hb => k a' H' ((ul _ s2).trans s) hb
end
end K09
namespace K09
open PySem PySem.Spec PyProof.Rows L2 RatM ClX
/-- the key as data -/
def keyD (g : Str → Int × Int) (zs : List Str) : List PyData := zs.flatMap fun n => [.str n, .int (g n).1, .int (g n).2]
theorem keyV_cons (g : Str → Int × Int) (n : Str) (t : List Str) : keyV g (n :: t) = V.str n :: V.int (g n).1 :: V.int (g n).2 :: keyV g t := rfl
theorem keyD_cons (g : Str → Int × Int) (n : Str) (t : List Str) : keyD g (n :: t) = PyData.str n :: PyData.int (g n).1 :: PyData.int (g n).2 :: keyD g t := rfl
theorem dp_key {K : PySem.W.Frag} {H : Hp} (g : Str → Int × Int) : ∀ zs : List Str, DpAll K H (keyV g zs) (keyD g zs)
  | [] => .nil
  | n :: t => by
    rw [keyV_cons, keyD_cons]
    exact .cons (.str n) (.cons (.int _) (.cons (.int _) (dp_key g t)))
theorem strOk_name {n : Str} (h : nameT n.cps.toList = true) : PyData.strOk n = true := by
  unfold nameT at h
  rw [Bool.and_eq_true, Bool.and_eq_true, Bool.and_eq_true] at h
  have h := h.2.2.2
  rw [List.all_eq_true] at h
  have lt : ∀ c ∈ sigS.cps.toList, c < 0x110000 := by decide +kernel
  unfold PyData.strOk
  rw [Array.all_eq_true']
  intro c hc
  have := h c (Array.mem_toList_iff.mpr hc)
  exact decide_eq_true (lt c (of_decide_eq_true this))
theorem can_key (g : Str → Int × Int) : ∀ zs : List Str, (∀ n ∈ zs, nameT n.cps.toList = true) → PyData.canLayAll0 (keyD g zs) = true
  | [], _ => rfl
  | n :: t, h => by
    rw [keyD_cons]
    have := can_key g t fun m hm => h m (List.mem_cons_of_mem _ hm)
    simp only [PyData.canLayAll0, PyData.canLay0, this, Bool.and_true, Bool.true_and]
    exact strOk_name (h n List.mem_cons_self)
theorem dep_key (g : Str → Int × Int) : ∀ zs : List Str, PyData.depthAll (keyD g zs) ≤ 1
  | [] => Nat.zero_le _
  | n :: t => by
    rw [keyD_cons]
    have := dep_key g t
    simp only [PyData.depthAll, PyData.depth]
    omega
theorem shaped_key {g : Str → Int × Int} {zs : List Str} (h : ∀ n ∈ zs, nameT n.cps.toList = true) : SeqAt.shaped (.tuple (keyD g zs)) = true := by
  have h1 := can_key g zs h
  have h2 := dep_key g zs
  unfold SeqAt.shaped
  rw [Bool.and_eq_true]
  refine ⟨by simp only [PyData.canLay0]; exact h1, decide_eq_true ?_⟩
  simp only [PyData.depth]
  omega
theorem eqv_key {g g2 : Str → Int × Int} {zs : List Str} (h : ∀ n ∈ zs, nameT n.cps.toList = true) (e : ∀ n ∈ zs, g n = g2 n) : PyData.eqv (.tuple (keyD g zs)) (.tuple (keyD g2 zs)) = true := by
  have : keyD g zs = keyD g2 zs := by
    clear h
    induction zs with
    | nil => rfl
    | cons n t ih => rw [keyD_cons, keyD_cons, e n List.mem_cons_self, ih fun m hm => e m (List.mem_cons_of_mem _ hm)]
  rw [← this]
  exact PySem.SeqAt.eqv_refl _ (by simp only [PyData.canLay0]; exact can_key g zs h)
/-- self == other -/
def spEqB (CB C : Addr) : Sp := fun vs H Q _ => ∃ (a b : Addr) (g g2 : Str → Int × Int) (zs zs2 : List Str), vs = [.ref a, .ref b] ∧ BalAt H a CB C g zs ∧ BalAt H b CB C g2 zs2 ∧ NsOk zs ∧ NsOk zs2 ∧ Q (.bl (PyData.eqv (.tuple (keyD g zs)) (.tuple (keyD g2 zs2)))) H
section
variable {P : Program} {w : World} {K : PySem.W.Frag} {mg : Str → Option Value} {base : Heap} {C BR CB BB : Addr}
theorem scEqB : FnScope ["self", "other"] ["self", "other"] (defScope (balM 12)) := ⟨rfl, rfl, rfl, by decide +kernel, rfl, by decide +kernel, by decide +kernel⟩
theorem ok_eqB {f : Addr} {fd : FuncData} (F : MtP K "__eq__" "Balance.__eq__" (balM 12) f fd) (T : BalC K CB) (gB : mg "Balance" = some (.ref CB)) (bi : mg "isinstance" = none) (tyB : ∀ (H : Hp) (a : Addr) g zs, BalAt H a CB C g zs → TyX K H (.ref a) (.ref CB)) (cc : PySem.W.kitOne K (.ref CB) (.ref CB) = some true) :
    FnOk P w K mg base CX0 1 f fd ["self", "other"] (spEqB CB C) := by
  refine F.ok scEqB (fun vs H Q E h => ?_) (fun cdv A outer s H vs Q E hr h => ?_)
  · obtain ⟨a, b, g, g2, zs, zs2, rfl, _⟩ := h
    rfl
  · obtain ⟨a, b, g, g2, zs, zs2, rfl, hb, hb2, n1, n2, k⟩ := h
    have hr0 : Room 0 _ := hr
    have kk := T.no "key" (by simp)
    refine ⟨_, PSs.nox (pss_one (ps_ret (pe_and (pe_callB call_isi (by rfl) bi (by decide +kernel) (pa_cons (pv 1) (pa_cons (pe_glob (v := .ref _) rfl gB rfl) pa_nil))) (pe_one (pe_cmpR (op_eqD hr0.units) (pe_fld (pv 0) rfl) (pe_fld (pv 1) rfl) (nomark _)))))), ?_⟩
    refine ⟨_, rfl, _, _, _, _, _, rfl, .own CB, tyB _ _ _ _ hb2, cc, true, rfl, iteT ?_⟩
    obtain ⟨dx, nd, tp, kt, ha, _, _, hk⟩ := hb
    obtain ⟨dx2, nd2, tp2, kt2, ha2, _, _, hk2⟩ := hb2
    exact ⟨_, rfl, a, CB, dx, _, _, rfl, ha, T.cls, kk, rfl, _, rfl, b, CB, dx2, _, _, rfl, ha2, T.cls, kk, rfl, _, _, .tup (SqT.of hk) (dp_key g zs), .tup (SqT.of hk2) (dp_key g2 zs2), shaped_key fun n m => (n1.nm n m).2, shaped_key fun n m => (n2.nm n m).2, k⟩
end
end K09
namespace K09
open PySem PySem.Spec PyProof.Rows L2 RatM ClX
/-- the sum of two fractions -/
def plusF (x y : Int × Int) : Int × Int := (lowT (x.1 * y.2 + y.1 * x.2) (x.2 * y.2), lowB (x.1 * y.2 + y.1 * x.2) (x.2 * y.2))
end K09
namespace K09
open PySem PySem.Spec PyProof.Rows L2 RatM ClX
/-- the words of a thing and its number -/
def termT (n : Str) (x : Int × Int) : Str := if (decide (x.2 = 1) && decide (x.1 = 1)) = true then n else ((Str.empty ++ textR x.1 x.2) ++ " ") ++ n
def spTerm (C : Addr) : Sp := fun vs H Q _ => ∃ (n : Str) (r : Addr) (x : Int × Int), vs = [.str n, .ref r] ∧ RatAt H r C x.1 x.2 ∧ Sz x.1 ∧ Sz x.2 ∧ n.length ≤ 1000 ∧ (textR x.1 x.2).length ≤ 1000 ∧ Q (.str (termT n x)) H
section
variable {P : Program} {w : World} {K : PySem.W.Frag} {mg : Str → Option Value} {base : Heap} {C BR CB BB : Addr}
theorem scTe : FnScope ["thing", "number"] ["thing", "number"] (defScope (top 49)) := ⟨rfl, rfl, rfl, by decide +kernel, rfl, by decide +kernel, by decide +kernel⟩
theorem ok_term {f fE fS : Addr} {fd fdE fdS : FuncData} (F : FnP K "_term" (top 49) f fd) (ME : OwnM K C "__eq__" fE) (GE : FnOk P w K mg base CX0 3 fE fdE ["self", "other"] (spSame K C)) (bE : Binds K fdE ["self", "other"] []) (nf : PySem.W.notFirst K C (.type "int") = true)
    (MS : OwnM K C "__str__" fS) (GS : FnOk P w K mg base CX0 2 fS fdS ["self"] (spText K C)) (bS : Binds K fdS ["self"] []) (hfm : PySem.W.findIn K (.ref C) "__format__" = some (some (.builtin "object.__format__"))) (hm : PySem.W.mroIn K C (.type "object") = some true) :
    FnOk P w K mg base CX0 4 f fd ["thing", "number"] (spTerm C) := by
  refine F.ok scTe (fun vs H Q E h => ?_) (fun cdv A outer s H vs Q E hr h => ?_)
  · obtain ⟨n, r, x, rfl, _⟩ := h
    rfl
  · obtain ⟨n, r, x, rfl, hb, z1, z2, ln, lt, k⟩ := h
    have hr3 : Room 3 _ := hr
    refine ⟨_, PSs.nox (pss_one (ps_ret (pe_ifExp (pt_cmpR (op_eqOwn ME GE hr3 bE (E := E0) pass0) (pv 1) pe_int (nomark _)) (pv 0) (pe_joined (PJ.cons (pe_fmtO MS hfm hm GS hr3 bS (E := E0) pass0 (pv 1)) (PJ.cons pe_str (PJ.cons (pe_fmt (pv 0)) PJ.nil))))))), ?_⟩
    refine ⟨_, rfl, r, .type "int", rfl, hb.ins, ty_plain (plainT_int _), nf, r, _, _, _, rfl, hb, .inr (.inl ⟨1, rfl, _, rfl, (decide (x.2 = 1) && decide (x.1 = 1)), rfl, ite2 (fun c => ?_) (fun c => ?_)⟩)⟩
    · refine ⟨_, rfl, ?_⟩
      unfold termT at k
      rw [if_pos c] at k
      exact k
    · unfold termT at k
      rw [if_neg c] at k
      have l1 : (Str.empty ++ textR x.1 x.2).length ≤ 1000 := by rw [strLen_append]; exact (by show 0 + _ ≤ 1000; omega)
      have l2 : ((Str.empty ++ textR x.1 x.2) ++ " ").length ≤ 1001 := by rw [strLen_append]; exact Nat.add_le_add l1 (Nat.le_refl 1)
      have l3 : (((Str.empty ++ textR x.1 x.2) ++ " ") ++ n).length ≤ 2001 := by rw [strLen_append]; omega
      refine ⟨_, rfl, r, rfl, hb.ins, r, _, _, rfl, hb, z1, z2, textR x.1 x.2, rfl, _, rfl, by rw [sizeLine_eq]; omega, _, rfl, by rw [sizeLine_eq]; omega, ?_⟩
      exact ⟨_, rfl, .inl ⟨n, rfl, by rw [sizeLine_eq]; omega, n, rfl, by rw [sizeLine_eq]; omega, k⟩⟩
end
end K09
namespace K09
open PySem PySem.Spec PyProof.Rows L2 RatM ClX
/-- a balance's text -/
def balT (g : Str → Int × Int) (zs : List Str) : Str := if zs.length = 0 then "0" else Txt.join " + " (zs.map fun n => termT n (g n))
def spBalT (CB C : Addr) : Sp := fun vs H Q _ => ∃ (a : Addr) (g : Str → Int × Int) (zs : List Str), vs = [.ref a] ∧ BalAt H a CB C g zs ∧ NsOk zs ∧ BalLo 1900 g zs ∧ (∀ n ∈ zs, n.length ≤ 1000 ∧ (textR (g n).1 (g n).2).length ≤ 1000) ∧ ∀ H', Same H H' → Q (.str (balT g zs)) H'
theorem termT_len {n : Str} {x : Int × Int} (h1 : n.length ≤ 1000) (h2 : (textR x.1 x.2).length ≤ 1000) : (termT n x).length ≤ 2001 := by
  unfold termT
  by_cases c : (decide (x.2 = 1) && decide (x.1 = 1)) = true
  · rw [if_pos c]; omega
  · rw [if_neg c]
    have l1 : (Str.empty ++ textR x.1 x.2).length ≤ 1000 := by rw [strLen_append]; exact (by show 0 + _ ≤ 1000; omega)
    have l2 : ((Str.empty ++ textR x.1 x.2) ++ " ").length ≤ 1001 := by rw [strLen_append]; exact Nat.add_le_add l1 (Nat.le_refl 1)
    rw [strLen_append]; omega
theorem sum_le {f : Str → Nat} {B : Nat} : ∀ l : List Str, (∀ x ∈ l, f x ≤ B) → (l.map f).sum ≤ l.length * B
  | [], _ => by simp
  | x :: t, h => by
    have h1 := sum_le t fun y m => h y (List.mem_cons_of_mem _ m)
    have h2 := h x List.mem_cons_self
    rw [List.map_cons, List.sum_cons, List.length_cons, Nat.add_mul, Nat.one_mul]
    omega
section
variable {P : Program} {w : World} {K : PySem.W.Frag} {mg : Str → Option Value} {base : Heap} {C BR CB BB : Addr}
theorem scWb : FnScope ["balance", "thing"] ["balance"] (defScope (top 47)) := ⟨rfl, rfl, rfl, by decide +kernel, rfl, by decide +kernel, by decide +kernel⟩
theorem ok_writtenB {f fT : Addr} {fd fdT : FuncData} (F : FnP K "_written" (top 47) f fd) (O : OpsK P w K mg base CB C BR)
    (GT : FnOk P w K mg base CX0 4 fT fdT ["thing", "number"] (spTerm C)) (bT : Binds K fdT ["thing", "number"] []) (kT : PySem.W.keepIn K (.ref fT) = true) (gT : mg "_term" = some (.ref fT)) :
    FnOk P w K mg base CX0 6 f fd ["balance"] (spBalT CB C) := by
  obtain ⟨fN, fdN, MN, GN, bN⟩ := O.num
  have B := O.B
  refine F.ok scWb (fun vs H Q E h => ?_) (fun cdv A outer s H vs Q E hr h => ?_)
  · obtain ⟨a, g, zs, rfl, _⟩ := h
    rfl
  · obtain ⟨a, g, zs, rfl, hb, ok, lo, tx, k⟩ := h
    have hr5 : Room 5 _ := hr
    refine ⟨_, PSs.nox (pss_cons (ps_if (pt_val (pe_fld (pv 0) rfl)) (pss_one (ps_ret pe_str)) pss_nil)
      (pss_one (ps_ret (pe_join pe_str (pe_lc (own := [("thing", 1)]) (g := gName 1) (tt := tYes) (te := tCall (spTerm C) [] E0 (tCons (tVar 1) (tCons (tMeth CB "number_of" (spNum CB C) [] E0 (tVar 0) (tCons (tVar 1) tNil)) tNil))) rfl scWb.nd (pi_tup (pe_fld (pv 0) rfl)) (blkOk_by (N := ["balance", "thing"]) (sc := defScope (top 47)) (by decide +kernel)) (fun _ _ _ _ _ => pg_name (i := 1) scWb.nd rfl (Or.inl rfl)) (fun _ _ _ _ _ => pts_nil)
        (fun _ _ _ _ _ => pe_call GT (by exact hr5.mono (by decide)) rfl gT kT bT .nil pass0 (pa_cons (pv 1) (pa_cons (pe_meth (pv 0) B.T.cls MN GN (by exact hr5) bN .nil (E := E0) pass0 (pa_cons (pv 1) pa_nil)) pa_nil)))))))), ?_⟩
    have nI := B.T.no "is_nothing" (by simp)
    have nT := B.T.no "things" (by simp)
    obtain ⟨dx, nd, tp, kt, ha, ⟨kvs, hd, hR⟩, ht, hk⟩ := id hb
    refine ⟨_, rfl, a, CB, dx, _, _, rfl, ha, B.T.cls, nI, rfl, decide (zs.length = 0), congrArg V.bl (decide_eq_decide.mpr ⟨fun z => by injection z with z; omega, fun z => by rw [z]; rfl⟩), ite2 (fun c => ?_) (fun c => ?_)⟩
    · unfold balT at k
      rw [if_pos (of_decide_eq_true c)] at k
      exact k H (Same.refl _)
    · have z0 : ¬ zs.length = 0 := fun z => c (decide_eq_true z)
      unfold balT at k
      rw [if_neg z0] at k
      dsimp only [tNext]
      refine ⟨⟨_, rfl⟩, _, rfl, a, CB, dx, _, _, rfl, ha, B.T.cls, nT, rfl, tp, rfl, ⟨_, SqT.of ht⟩, fun D nD => ?_⟩
      refine lc_it (walk_tup (xs := zs.map V.str)) (fun i Hx => Same H Hx ∧ Hx D = some (.lst (((zs.take i).map fun n => termT n (g n)).map V.str))) ⟨same_upd nD, upd_same⟩ (fun i Hx _ hP => SqT.of (hP.1 _ _ ht)) (fun i x Hx Hx' hi hP hy => ?_) (fun Hx hP => ?_)
      · obtain ⟨rfl, ex⟩ := hy
        obtain ⟨s2, hD⟩ := hP
        rw [List.getElem?_map] at ex
        obtain ⟨n, en, rfl⟩ := Option.map_eq_some_iff.mp ex
        have mn := List.mem_of_getElem? en
        refine ⟨rfl, yesI ?_⟩
        refine ⟨_, rfl, _, rfl, a, dx, _, rfl, s2 _ _ ha, rfl, _, rfl, a, n, g, zs, rfl, hb.same s2, (ok.nm n mn).1, (ok.nm n mn).2, fun b' H4 s4 h4 => ?_⟩
        rw [show num g zs n = g n from if_pos mn] at h4
        refine ⟨n, b', g n, rfl, h4, (lo.sz n mn).1, (lo.sz n mn).2, (tx n mn).1, (tx n mn).2, _, s4 _ _ hD, ?_, fun c o e => ?_, ?_⟩
        · have f2 := List.length_take (i := i) (l := zs)
          have f3 := ok.le
          simp only [List.length_map]
          rw [sizeLine_eq]; omega
        · rw [upd_ne (ne_of_none e nD)]; exact s4 _ _ (s2 _ _ e)
        · rw [upd_same, List.take_add_one, en]
          simp
      · obtain ⟨s2, hD⟩ := hP
        rw [List.length_map, List.take_length] at hD
        refine ⟨" + ", D, zs.map fun n => termT n (g n), rfl, rfl, .inl (SqL.of hD), ?_, k Hx s2⟩
        have sl := sum_le (f := fun n => (termT n (g n)).length) (B := 2001) zs fun n m => termT_len (tx n m).1 (tx n m).2
        have zl := ok.le
        rw [List.map_map, List.length_map]
        have e3 : (" + " : Str).length = 3 := rfl
        rw [e3]
        have : (zs.map ((fun x : Str => x.length) ∘ fun n => termT n (g n))).sum ≤ zs.length * 2001 := sl
        have m1 : zs.length * 2001 ≤ 60 * 2001 := Nat.mul_le_mul_right _ zl
        omega
end
end K09
namespace K09
open PySem PySem.Spec PyProof.Rows L2 RatM ClX
section
variable {P : Program} {w : World} {K : PySem.W.Frag} {mg : Str → Option Value} {base : Heap} {C BR CB BB : Addr}
theorem scStB : FnScope ["self"] ["self"] (defScope (balM 13)) := ⟨rfl, rfl, rfl, by decide +kernel, rfl, by decide +kernel, by decide +kernel⟩
theorem ok_strB {f fW : Addr} {fd fdW : FuncData} (F : MtP K "__str__" "Balance.__str__" (balM 13) f fd) (GW : FnOk P w K mg base CX0 6 fW fdW ["balance"] (spBalT CB C)) (bW : Binds K fdW ["balance"] []) (kW : PySem.W.keepIn K (.ref fW) = true) (gW : mg "written_balances" = some (.ref fW)) (bs : mg "str" = none) : FnOk P w K mg base CX0 7 f fd ["self"] (spBalT CB C) := by
  refine F.ok scStB (fun vs H Q E h => ?_) (fun cdv A outer s H vs Q E hr h => ?_)
  · obtain ⟨a, g, zs, rfl, _⟩ := h
    rfl
  · obtain ⟨a, g, zs, rfl, hb, ok, lo, tx, k⟩ := h
    have hr6 : Room 6 _ := hr
    exact ⟨_, PSs.nox (pss_one (ps_ret (pe_callTy SkE.call_str_str (by rfl) bs PyProof.Rows.boot_str (pa_cons (pe_call GW hr6 rfl gW kW bW .nil pass0 (pa_cons (pv 0) pa_nil)) pa_nil)))), _, rfl, a, g, zs, rfl, hb, ok, lo, tx, fun H' s => ⟨_, rfl, k H' s⟩⟩
end
end K09
namespace K09
open PySem PySem.Spec PyProof.Rows L2
abbrev sTill : Stmt := top 79
abbrev sCoin : Stmt := top 80
abbrev sOf : Stmt := top 81
/-- all but t stands -/
def Keep (t : Addr) (H H' : Hp) : Prop := ∀ b o, b ≠ t → H b = some o → H' b = some o
/-- what draws: at t the list of the cells' list c, how many were begun, what is left of a great one -/
structure Till (H : Hp) (t c : Addr) (cells : List Int) (i g : Int) : Prop where
  ht : H t = some (.lst [.ref c, .int i, .int g])
  hc : H c = some (.lst (cells.map V.int))
  ne : c ≠ t
structure Blt (mg : Str → Option Value) : Prop where
  int : mg "int" = none
  len : mg "len" = none
  abs : mg "abs" = none
theorem dp_ints {K : PySem.W.Frag} {H : Hp} : ∀ l : List Int, DpAll K H (l.map V.int) (l.map PyData.int)
  | [] => .nil
  | x :: l => .cons (.int x) (dp_ints l)
theorem can_ints : ∀ l : List Int, PyData.canLayAll0 (l.map PyData.int) = true
  | [] => rfl
  | x :: l => by
    have ih := can_ints l
    simp [PyData.canLayAll0, PyData.canLay0, ih]
theorem deep_ints : ∀ l : List Int, PyData.depthAll (l.map PyData.int) = 0
  | [] => rfl
  | x :: l => by
    have ih := deep_ints l
    simp [PyData.depthAll, PyData.depth, ih]
theorem shaped_ints (l : List Int) : SeqAt.shaped (.list (l.map PyData.int)) = true := by
  have h1 := can_ints l
  have h2 := deep_ints l
  simp [SeqAt.shaped, PyData.canLay0, PyData.depth, h1, h2]
theorem eqv_nil (l : List Int) : PyData.eqv (.list (l.map PyData.int)) (.list []) = l.isEmpty := by
  cases l <;> simp [PyData.eqv, PyData.eqvAll]
theorem mix1 {c i : Int} (h0 : 0 ≤ i) (h1 : i ≤ 1000000) : (c % 2147483489 + 57037 * i + 2503).natAbs < 2 ^ 64 := by
  have a := Int.emod_nonneg c (show (2147483489 : Int) ≠ 0 by decide)
  have b := Int.emod_lt_of_pos c (show (0 : Int) < 2147483489 by decide)
  omega
theorem mix2 {m i : Int} (h0 : 0 ≤ i) (h1 : i ≤ 1000000) (m0 : 0 ≤ m) (m1 : m < 2147483659) : (m * (2 * i + 1361) + 46021 * i * i + 57041).natAbs < 2 ^ 64 := by
  have a0 : 0 ≤ m * (2 * i + 1361) := Int.mul_nonneg m0 (by omega)
  have a1 : m * (2 * i + 1361) ≤ 2147483659 * 2100000 := Int.mul_le_mul (by omega) (by omega) (by omega) (by omega)
  have b0 : 0 ≤ 46021 * i * i := Int.mul_nonneg (by omega) h0
  have b1 : 46021 * i * i ≤ 61657000000 * 1000000 := Int.mul_le_mul (by omega) h1 h0 (by omega)
  omega
theorem modOk {x many : Int} (h : 0 < many) : 0 ≤ x.fmod many ∧ x.fmod many < many := by
  have e : x.fmod many = x % many := Int.fmod_eq_emod_of_nonneg x (by omega)
  rw [e]
  exact ⟨Int.emod_nonneg _ (by omega), Int.emod_lt_of_pos _ h⟩
theorem greatOk {a b : Int} (h : decide ((10 : Int) ^ (18 : Int).toNat ≤ a) = true) (hb : 0 ≤ b) : 0 ≤ 2 * (a - (10 : Int) ^ (18 : Int).toNat) + b := by
  have h2 := of_decide_eq_true h
  omega
theorem bitOk (c : Bool) : (0 : Int) ≤ if c = true then 1 else 0 := by cases c <;> decide
theorem emodB (x : Int) : -(2 ^ 64) < x % 2147483659 ∧ x % 2147483659 < 2 ^ 64 := by
  have a := Int.emod_nonneg x (show (2147483659 : Int) ≠ 0 by decide)
  have b := Int.emod_lt_of_pos x (show (0 : Int) < 2147483659 by decide)
  omega
theorem mix2E {x i : Int} (h0 : 0 ≤ i) (h1 : i ≤ 1000000) : ((x % 2147483659) * (2 * i + 1361) + 46021 * i * i + 57041).natAbs < 2 ^ 64 :=
  mix2 h0 h1 (Int.emod_nonneg x (by decide)) (Int.emod_lt_of_pos x (by decide))
theorem atB {i : Int} (h0 : 0 ≤ i) (h1 : i ≤ 1000000) : -(2 ^ 64) < 46021 * i ∧ 46021 * i < 2 ^ 64 := by omega
def spCoin : Sp := fun vs H Q _ => ∃ (t c : Addr) (cells : List Int) (i g many : Int), vs = [.ref t, .int many] ∧ Till H t c cells i g ∧ 0 ≤ i ∧ i ≤ 1000000 ∧ 0 ≤ g ∧ 0 < many ∧ many.natAbs < 2 ^ 8000 ∧
  ∀ (r i' g' : Int) (H' : Hp), 0 ≤ r → r < many → 0 ≤ i' → i' ≤ i + 1 → 0 ≤ g' → Keep t H H' → Till H' t c cells i' g' → Q (.int r) H'
section
variable {P : Program} {w : World} {K : PySem.W.Frag} {mg : Str → Option Value} {base : Heap}
theorem scC : FnScope ["_law_reel_here", "_law_many", "_law_rest", "_law_at", "_law_cell", "_law_mixed"] ["_law_reel_here", "_law_many"] (defScope sCoin) := ⟨rfl, rfl, rfl, by decide +kernel, rfl, by decide +kernel, by decide +kernel⟩
theorem ok_coin {f : Addr} {fd : FuncData} (F : FnP K "_law_turn" sCoin f fd) (T : Blt mg) : FnOk P w K mg base CX0 1 f fd ["_law_reel_here", "_law_many"] spCoin := by
  refine F.ok scC (fun vs H Q E h => ?_) (fun cdv A outer s H vs Q E hr h => ?_)
  · obtain ⟨t, c, cells, i, g, many, rfl, _⟩ := h
    rfl
  · obtain ⟨t, c, cells, i, g, many, rfl, hT, hi0, hi1, hg, hm0, hm1, k⟩ := h
    have hu := hu_of hr
    refine ⟨_, PSs.nox (pss_cons (ps_if (pt_cmpR op_gt (pe_ix ix_list (pv 0) pe_int (fun _ _ => rfl)) pe_int (nomark _)) (pss_cons (ps_set (i := 2) scC.nd rfl (.inl rfl) (pe_ix ix_list (pv 0) pe_int (fun _ _ => rfl)))
        (pss_cons (ps_asg (pe_op op_fdivW (pe_callTy call_int1 (by rfl) T.int PyProof.Rows.boot_int (pa_cons (pv 2) pa_nil)) (pv 1)) (pg_sub (pv 0) pe_int set_list))
        (pss_one (ps_ret (pe_op op_modN (pe_callTy call_int1 (by rfl) T.int PyProof.Rows.boot_int (pa_cons (pv 2) pa_nil)) (pv 1)))))) pss_nil)
        (pss_cons (ps_set (i := 3) scC.nd rfl (.inl rfl) (pe_ix ix_list (pv 0) pe_int (fun _ _ => rfl)))
        (pss_cons (ps_asg (pe_op op_add (pv 3) pe_int) (pg_sub (pv 0) pe_int set_list))
        (pss_cons (ps_set (i := 4) scC.nd rfl (.inl rfl) (pe_op op_add (pe_op op_mul pe_int (pv 3)) pe_int))
        (pss_cons (ps_if (pt_cmpR (op_neD hr.units) (pe_ix ix_list (pv 0) pe_int (fun _ _ => rfl)) (pe_lst pa_nil) (nomark _)) (pss_one (ps_set (i := 4) scC.nd rfl (.inl rfl) (pe_ix ix_list (pe_ix ix_list (pv 0) pe_int (fun _ _ => rfl)) (pe_op op_modN (pe_callTy call_int1 (by rfl) T.int PyProof.Rows.boot_int (pa_cons (pv 3) pa_nil)) (pe_callB call_len_seq (by rfl) T.len PySem.boot_len (pa_cons (pe_ix ix_list (pv 0) pe_int (fun _ _ => rfl)) pa_nil))) (fun _ _ => rfl)))) pss_nil)
        (pss_cons (ps_if (PW.pt (pw_and (pt_cmpR op_lt (pv 3) (pe_callB call_len_seq (by rfl) T.len PySem.boot_len (pa_cons (pe_ix ix_list (pv 0) pe_int (fun _ _ => rfl)) pa_nil)) (nomark _)) (pw_and1 (pt_cmpR op_ge (pe_callB call_abs (by rfl) T.abs (by decide +kernel) (pa_cons (pv 4) pa_nil)) (pe_op op_pow pe_int pe_int) (nomark _))))) (pss_cons (ps_set (i := 2) scC.nd rfl (.inl rfl) (pe_op op_add (pe_op op_mul pe_int (pe_op op_sub (pe_callB call_abs (by rfl) T.abs (by decide +kernel) (pa_cons (pv 4) pa_nil)) (pe_op op_pow pe_int pe_int))) (pe_callTy call_int1 (by rfl) T.int PyProof.Rows.boot_int (pa_cons (pe_cmpR op_lt (pv 4) pe_int (nomark _)) pa_nil))))
        (pss_cons (ps_asg (pe_op op_fdivW (pe_callTy call_int1 (by rfl) T.int PyProof.Rows.boot_int (pa_cons (pv 2) pa_nil)) (pv 1)) (pg_sub (pv 0) pe_int set_list))
        (pss_one (ps_ret (pe_op op_modN (pe_callTy call_int1 (by rfl) T.int PyProof.Rows.boot_int (pa_cons (pv 2) pa_nil)) (pv 1)))))) pss_nil)
        (pss_cons (ps_set (i := 5) scC.nd rfl (.inl rfl) (pe_op op_mod (pe_callTy call_int1 (by rfl) T.int PyProof.Rows.boot_int (pa_cons (pe_op op_pow (pe_op op_add (pe_op op_add (pe_op op_mod (pe_callTy call_int1 (by rfl) T.int PyProof.Rows.boot_int (pa_cons (pv 4) pa_nil)) pe_int) (pe_op op_mul pe_int (pv 3))) pe_int) pe_int) pa_nil)) pe_int))
        (pss_cons (ps_set (i := 5) scC.nd rfl (.inl rfl) (pe_op op_mod (pe_callTy call_int1 (by rfl) T.int PyProof.Rows.boot_int (pa_cons (pe_op op_pow (pe_op op_add (pe_op op_add (pe_op op_mul (pv 5) (pe_op op_add (pe_op op_mul pe_int (pv 3)) pe_int)) (pe_op op_mul (pe_op op_mul pe_int (pv 3)) (pv 3))) pe_int) pe_int) pa_nil)) pe_int))
        (pss_one (ps_ret (pe_op op_modN (pe_callTy call_int1 (by rfl) T.int PyProof.Rows.boot_int (pa_cons (pe_op op_fdiv (pv 5) pe_int) pa_nil)) (pv 1)))))))))))), ?_⟩
    have two : atI [V.ref c, V.int i, V.int g] 2 = some (.int g) := by rfl
    have mm : CDivW g many := wide_div hm0 hm1 (by decide) (by decide)
    refine ⟨_, rfl, _, _, _, _, rfl, rfl, SqL.of hT.ht, rfl, _, _, rfl, rfl, _, rfl, ?_⟩
    refine ite2 (fun hc => ?_) (fun hc => ?_)
    · refine ⟨_, rfl, _, _, _, _, rfl, rfl, SqL.of hT.ht, rfl, ?_⟩
      refine ⟨_, rfl, .inl ⟨_, rfl, _, rfl, _, _, rfl, rfl, mm, _, rfl, _, _, _, _, rfl, rfl, hT.ht, rfl, ?_⟩⟩
      refine ⟨_, rfl, .inl ⟨_, rfl, _, rfl, _, _, rfl, rfl, by omega, ?_⟩⟩
      have e1 : g.fmod many = g % many := Int.fmod_eq_emod_of_nonneg g (by omega)
      refine k _ _ _ _ ?_ ?_ hi0 (by omega) ?_ (fun b o hb e => by rw [upd_ne hb]; exact e) ⟨upd_same, by rw [upd_ne hT.ne]; exact hT.hc, hT.ne⟩
      · rw [e1]; exact Int.emod_nonneg _ (by omega)
      · rw [e1]; exact Int.emod_lt_of_pos _ hm0
      · exact Int.ediv_nonneg hg (by omega)
    · refine ⟨_, rfl, _, _, _, _, rfl, rfl, SqL.of hT.ht, rfl, ?_⟩
      refine ⟨_, rfl, _, _, rfl, rfl, _, rfl, _, _, _, _, rfl, rfl, hT.ht, rfl, ?_⟩
      refine ⟨_, rfl, _, _, rfl, rfl, .inl ⟨by decide, by decide⟩, _, _, rfl, rfl, ?_⟩
      refine ⟨_, rfl, _, _, _, _, rfl, rfl, SqL.of upd_same, rfl, Nat.zero_le _, fun p hp => ?_⟩
      have npt : p ≠ t := fun z => by rw [z, upd_same] at hp; cases hp
      have hp0 : H p = none := by rw [upd_ne npt] at hp; exact hp
      have npc : c ≠ p := ne_of_none hT.hc hp0
      refine ⟨_, _, Dp.lst (SqL.of (by rw [upd_ne npc, upd_ne hT.ne]; exact hT.hc)) (dp_ints cells), Dp.lst (SqL.of upd_same) .nil, shaped_ints cells, by decide, _, rfl, ?_⟩
      have h2t : upd (upd H t (.lst ([V.ref c, V.int i, V.int g].set (Int.toNat 1) (.int (i + 1))))) p (.lst []) t = some (.lst [.ref c, .int (i + 1), .int g]) := by rw [upd_ne npt.symm, upd_same]; rfl
      have h2c : upd (upd H t (.lst ([V.ref c, V.int i, V.int g].set (Int.toNat 1) (.int (i + 1))))) p (.lst []) c = some (.lst (cells.map V.int)) := by rw [upd_ne npc, upd_ne hT.ne]; exact hT.hc
      have h2k : Keep t H (upd (upd H t (.lst ([V.ref c, V.int i, V.int g].set (Int.toNat 1) (.int (i + 1))))) p (.lst [])) := fun b o hb e => by rw [upd_ne (ne_of_none e hp0), upd_ne hb]; exact e
      generalize upd (upd H t (.lst ([V.ref c, V.int i, V.int g].set (Int.toNat 1) (.int (i + 1))))) p (.lst []) = H2 at h2t h2c h2k ⊢
      rw [eqv_nil]
      refine ite2 (fun hn => ?one) (fun hn => ?two)
      case' one =>
        have hl : 0 < cells.length := by
          cases cells with
          | nil => exact absurd hn (by decide)
          | cons x l => exact Nat.zero_lt_succ _
        have e1 : i.fmod (cells.length : Int) = i % (cells.length : Int) := Int.fmod_eq_emod_of_nonneg i (by omega)
        have b0 := Int.emod_nonneg i (show (cells.length : Int) ≠ 0 by omega)
        have b1 := Int.emod_lt_of_pos i (show (0 : Int) < cells.length by omega)
        obtain ⟨n, hn1⟩ : ∃ n : Nat, i.fmod (cells.length : Int) = n := ⟨(i % (cells.length : Int)).toNat, by rw [e1]; omega⟩
        have hn2 : n < cells.length := by omega
        refine ⟨_, rfl, _, _, _, _, rfl, rfl, SqL.of h2t, rfl, _, rfl, .inl ⟨_, rfl, _, rfl, _, _, _, _, rfl, rfl, SqL.of h2t, rfl, _, _, rfl, .inl (SqL.of h2c), _, _, rfl, rfl, (by rw [List.length_map]; omega), ?_⟩⟩
        refine ⟨_, _, _, V.int cells[n], rfl, rfl, SqL.of h2c, (by rw [List.length_map, hn1]; exact atI_nat (by rw [List.getElem?_map, List.getElem?_eq_getElem hn2]; rfl)), ?_⟩
      all_goals
        refine ⟨_, rfl, _, rfl, _, _, _, _, rfl, rfl, SqL.of h2t, rfl, _, _, rfl, .inl (SqL.of h2c), _, _, rfl, rfl, _, rfl, ?_⟩
        refine ite2 (fun hA => ?_) (fun hA => ?_)
        · refine ⟨_, rfl, _, rfl, _, _, rfl, rfl, ⟨by decide, by decide, by decide⟩, _, _, rfl, rfl, _, rfl, ?_⟩
          refine ite2 (fun hB => ?_) (fun hB => ?_)
          · refine ⟨_, rfl, _, rfl, _, _, rfl, rfl, ⟨by decide, by decide, by decide⟩, _, _, rfl, rfl, _, _, rfl, rfl, .inl ⟨by decide, by decide⟩, _, rfl, _, _, rfl, rfl, .inr ⟨_, rfl, _, _, rfl, rfl, ?_⟩⟩
            refine ⟨_, rfl, .inl ⟨_, rfl, _, rfl, _, _, rfl, rfl, wide_div hm0 hm1 (by decide) (by decide), _, rfl, _, _, _, _, rfl, rfl, h2t, rfl, ?_⟩⟩
            refine ⟨_, rfl, .inl ⟨_, rfl, _, rfl, _, _, rfl, rfl, by omega, ?_⟩⟩
            refine k _ (i + 1) _ _ (modOk hm0).1 (modOk hm0).2 (by omega) (Int.le_refl _) (Int.ediv_nonneg (greatOk hB (bitOk _)) (by omega)) (fun b o hb e => by rw [upd_ne hb]; exact h2k b o hb e) ⟨upd_same, by rw [upd_ne hT.ne]; exact h2c, hT.ne⟩
          · refine ⟨_, rfl, .inl ⟨_, rfl, _, _, rfl, rfl, (by show (0 : Int) < 2147483489; decide), _, rfl, _, _, rfl, rfl, .inl ⟨by decide, by decide⟩, _, _, rfl, rfl, _, _, rfl, rfl, _, _, rfl, rfl, ⟨by decide, by decide, mix1 hi0 hi1⟩, .inl ⟨_, rfl, _, _, rfl, rfl, (by show (0 : Int) < 2147483659; decide), ?_⟩⟩⟩
            refine ⟨_, rfl, _, rfl, _, _, rfl, rfl, .inl ⟨by decide, by decide⟩, _, _, rfl, rfl, _, _, rfl, rfl, .inl (emodB _), _, rfl, _, _, rfl, rfl, .inl ⟨by decide, by decide⟩, _, rfl, _, _, rfl, rfl, .inl (atB hi0 hi1), _, _, rfl, rfl, _, _, rfl, rfl, _, _, rfl, rfl, ⟨by decide, by decide, mix2E hi0 hi1⟩, .inl ⟨_, rfl, _, _, rfl, rfl, (by show (0 : Int) < 2147483549; decide), ?_⟩⟩
            exact ⟨_, rfl, _, _, rfl, rfl, ⟨by decide, by decide⟩, .inl ⟨_, rfl, _, rfl, _, _, rfl, rfl, (by omega), k _ (i + 1) g H2 (modOk hm0).1 (modOk hm0).2 (by omega) (Int.le_refl _) hg h2k ⟨h2t, h2c, hT.ne⟩⟩⟩
        · refine ⟨_, rfl, .inl ⟨_, rfl, _, _, rfl, rfl, (by show (0 : Int) < 2147483489; decide), _, rfl, _, _, rfl, rfl, .inl ⟨by decide, by decide⟩, _, _, rfl, rfl, _, _, rfl, rfl, _, _, rfl, rfl, ⟨by decide, by decide, mix1 hi0 hi1⟩, .inl ⟨_, rfl, _, _, rfl, rfl, (by show (0 : Int) < 2147483659; decide), ?_⟩⟩⟩
          refine ⟨_, rfl, _, rfl, _, _, rfl, rfl, .inl ⟨by decide, by decide⟩, _, _, rfl, rfl, _, _, rfl, rfl, .inl (emodB _), _, rfl, _, _, rfl, rfl, .inl ⟨by decide, by decide⟩, _, rfl, _, _, rfl, rfl, .inl (atB hi0 hi1), _, _, rfl, rfl, _, _, rfl, rfl, _, _, rfl, rfl, ⟨by decide, by decide, mix2E hi0 hi1⟩, .inl ⟨_, rfl, _, _, rfl, rfl, (by show (0 : Int) < 2147483549; decide), ?_⟩⟩
          exact ⟨_, rfl, _, _, rfl, rfl, ⟨by decide, by decide⟩, .inl ⟨_, rfl, _, rfl, _, _, rfl, rfl, (by omega), k _ (i + 1) g H2 (modOk hm0).1 (modOk hm0).2 (by omega) (Int.le_refl _) hg h2k ⟨h2t, h2c, hT.ne⟩⟩⟩
end
def spTill (K : PySem.W.Frag) : Sp := fun vs H Q _ => ∃ (a : Addr) (ns : List Int), vs = [.ref a] ∧ SqL K H a (ns.map V.int) ∧ ns.length ≤ 63 ∧
  ∀ (t c : Addr) (H' : Hp), Same H H' → H t = none → Till H' t c (ns.take 60) 0 0 → Q (.ref t) H'
/-- one of some things that stand in a list -/
def spOf : Sp := fun vs H Q _ => ∃ (t c a : Addr) (cells : List Int) (i g : Int) (xs : List V), vs = [.ref t, .ref a] ∧ Till H t c cells i g ∧ 0 ≤ i ∧ i ≤ 1000000 ∧ 0 ≤ g ∧ a ≠ t ∧ H a = some (.lst xs) ∧ 0 < xs.length ∧ xs.length ≤ 10000 ∧
  ∀ (v : V) (i' g' : Int) (H' : Hp), v ∈ xs → 0 ≤ i' → i' ≤ i + 1 → 0 ≤ g' → Keep t H H' → Till H' t c cells i' g' → Q v H'
theorem cut60 (ns : List Int) : cutV (ns.map V.int) none (some 60) = (ns.take 60).map V.int := by
  unfold cutV
  rw [HT.sIx_none, show HT.sIx (ns.map V.int).length (ns.map V.int).length (some 60) = min 60 (ns.map V.int).length from HT.sIx_nat _ _ 60, List.drop_zero, List.map_take, Nat.sub_zero]
  rw [← List.take_take, List.take_length]
section
variable {P : Program} {w : World} {K : PySem.W.Frag} {mg : Str → Option Value} {base : Heap}
theorem scT : FnScope ["_law_script", "_law_cell"] ["_law_script"] (defScope sTill) := ⟨rfl, rfl, rfl, by decide +kernel, rfl, by decide +kernel, by decide +kernel⟩
theorem ok_till {f : Addr} {fd : FuncData} (F : FnP K "_law_reel" sTill f fd) (T : Blt mg) : FnOk P w K mg base CX0 1 f fd ["_law_script"] (spTill K) := by
  refine F.ok scT (fun vs H Q E h => ?_) (fun cdv A outer s H vs Q E hr h => ?_)
  · obtain ⟨a, ns, rfl, _⟩ := h
    rfl
  · obtain ⟨a, ns, rfl, hS, hl, k⟩ := h
    refine ⟨_, PSs.nox (pss_one (ps_ret (pe_lst (pa_cons
      (pe_lc (own := [("_law_cell", 1)]) (g := gName 1) (tt := tYes) rfl scT.nd (pi_list (pe_slice sl_list (pv 0) po_none (po_some pe_int))) (blkOk_by (N := ["_law_script", "_law_cell"]) (sc := defScope sTill) (by decide +kernel))
        (fun _ _ _ _ _ => pg_name (i := 1) scT.nd rfl (Or.inl rfl)) (fun _ _ _ _ _ => pts_nil) (fun _ _ _ _ _ => pe_callTy call_int1 (by rfl) T.int PyProof.Rows.boot_int (pa_cons (pv 1) pa_nil)))
      (pa_cons pe_int (pa_cons pe_int pa_nil)))))), ?_⟩
    refine ⟨_, rfl, 60, rfl, a, _, rfl, hS, fun p np => ⟨_, rfl, ⟨_, SqL.of upd_same⟩, fun D nD => ?_⟩⟩
    have npD : p ≠ D := fun z => by rw [← z, upd_same] at nD; cases nD
    have nD0 : H D = none := by rw [upd_ne npD.symm] at nD; exact nD
    refine lc_list (K := K) (a := p) (xs := cutV (ns.map V.int) none (some 60))
      (fun j H2 => Same H H2 ∧ H2 p = some (.lst ((ns.take 60).map V.int)) ∧ H2 D = some (.lst (((ns.take 60).map V.int).take j))) ⟨?_, ?_, upd_same⟩ (fun j H2 _ hP => by rw [cut60]; exact SqL.of hP.2.1) ?_ ?_
    · exact (same_upd np).trans (same_upd nD)
    · rw [upd_ne npD, upd_same, cut60]
    · rintro j x H2 hx ⟨s2, hp2, hD2⟩
      rw [cut60] at hx
      obtain ⟨z, rfl⟩ : ∃ z, x = V.int z := by
        rw [List.getElem?_map] at hx
        cases e : (ns.take 60)[j]? with
        | none => rw [e] at hx; cases hx
        | some z => rw [e] at hx; exact ⟨z, (Option.some.inj hx).symm⟩
      have hj : j < ((ns.take 60).map V.int).length := (List.getElem?_eq_some_iff.mp hx).1
      have hj2 : j < 60 := by rw [List.length_map, List.length_take] at hj; omega
      refine ⟨rfl, ?_⟩
      unfold tYes
      dsimp only
      rw [if_pos rfl]
      refine ⟨_, rfl, .inl ⟨_, rfl, _, hD2, ?_, fun b o e => ?_, ?_, ?_⟩⟩
      · rw [List.length_take, sizeLine_eq]; omega
      · rw [upd_ne (ne_of_none e nD0)]; exact s2 b o e
      · rw [upd_ne npD]; exact hp2
      · have e : ((ns.take 60).map V.int).take (j + 1) = ((ns.take 60).map V.int).take j ++ [V.int z] := by
          have q := List.take_add_one (l := (ns.take 60).map V.int) (i := j)
          rw [hx] at q
          exact q
        rw [upd_same, e]
    · rintro H2 ⟨s2, hp2, hD2⟩
      refine ⟨by show 3 ≤ sizeLine; decide, fun t nt => ?_⟩
      have e1 : H2 D = some (.lst ((ns.take 60).map V.int)) := by
        rw [hD2, cut60, List.take_length]
      have ntD : D ≠ t := ne_of_none e1 nt
      exact k t D _ (s2.trans (same_upd nt)) (s2.free nt) ⟨upd_same, by rw [upd_ne ntD]; exact e1, ntD⟩
theorem scO : FnScope ["_law_reel_here", "_law_some"] ["_law_reel_here", "_law_some"] (defScope sOf) := ⟨rfl, rfl, rfl, by decide +kernel, rfl, by decide +kernel, by decide +kernel⟩
theorem ok_of {f fC : Addr} {fd fdC : FuncData} (F : FnP K "_law_pick" sOf f fd) (T : Blt mg) (gC : mg "_law_turn" = some (.ref fC)) (FC : FnP K "_law_turn" sCoin fC fdC) : FnOk P w K mg base CX0 2 f fd ["_law_reel_here", "_law_some"] spOf := by
  have GC : FnOk P w K mg base CX0 1 fC fdC ["_law_reel_here", "_law_many"] spCoin := ok_coin FC T
  have bC : Binds K fdC ["_law_reel_here", "_law_many"] [] := FC.bindsN fun _ _ _ _ _ _ us hl => match us, hl with | [_, _], _ => rfl
  have kC := FC.kp
  refine F.ok scO (fun vs H Q E h => ?_) (fun cdv A outer s H vs Q E hr h => ?_)
  · obtain ⟨t, c, a, cells, i, g, xs, rfl, _⟩ := h
    rfl
  · obtain ⟨t, c, a, cells, i, g, xs, rfl, hT, hi0, hi1, hg, nat, ha, hx0, hx1, k⟩ := h
    have hr1 : Room 1 _ := hr
    refine ⟨_, PSs.nox (pss_one (ps_ret (pe_ix ix_list (pv 1) (pe_call GC hr1 rfl gC kC bC .nil pass0 (pa_cons (pv 0) (pa_cons (pe_callB call_len_seq (by rfl) T.len PySem.boot_len (pa_cons (pv 1) pa_nil)) pa_nil))) (fun _ _ => rfl)))), ?_⟩
    have hz : (2 : Nat) ^ 8000 > 10000 := by decide +kernel
    refine ⟨_, rfl, _, rfl, _, rfl, _, _, rfl, .inl (SqL.of ha), t, c, cells, i, g, _, rfl, hT, hi0, hi1, hg, by omega, by omega, fun r i' g' H' r0 r1 i0 i1 g0 kp T' => ?_⟩
    obtain ⟨n, rfl⟩ : ∃ n : Nat, r = n := ⟨r.toNat, by omega⟩
    have hn : n < xs.length := by omega
    exact ⟨_, _, _, xs[n], rfl, rfl, SqL.of (kp a _ nat ha), atI_nat (List.getElem?_eq_getElem hn), k _ i' g' H' (List.getElem_mem hn) i0 i1 g0 kp T'⟩
end
end K09
namespace K09
open PySem PySem.Spec PyProof.Rows L2 RatM ClX
/-- the greatest common divisor, by Euclid's way -/
def spSh : Sp := fun vs H Q _ => ∃ a b : Int, vs = [.int a, .int b] ∧ Q (.int ((Nat.gcd a.natAbs b.natAbs : Nat) : Int)) H
theorem absN (i : Int) : (if i < 0 then -i else i) = (i.natAbs : Int) := by
  by_cases h : i < 0
  · rw [if_pos h]; omega
  · rw [if_neg h]; omega
section
variable {P : Program} {w : World} {K : PySem.W.Frag} {mg : Str → Option Value} {base : Heap}
theorem scSh : FnScope ["_law_one", "_law_other", "_law_mine", "_law_its"] ["_law_one", "_law_other"] (defScope (top 82)) := ⟨rfl, rfl, rfl, by decide +kernel, rfl, by decide +kernel, by decide +kernel⟩
theorem ok_shared {f : Addr} {fd : FuncData} (F : FnP K "_law_shared" (top 82) f fd) (T : Blt mg) : FnOk P w K mg base CX0 1 f fd ["_law_one", "_law_other"] spSh := by
  refine F.ok scSh (fun vs H Q E h => ?_) (fun cdv A outer s H vs Q E hr h => ?_)
  · obtain ⟨a, b, rfl, _⟩ := h
    rfl
  · obtain ⟨a, b, rfl, k⟩ := h
    refine ⟨_, PSs.nox (pss_cons (ps_par (i := 2) (j := 3) rfl scSh.nd rfl rfl (by decide) rfl rfl (pa_cons (pe_callB call_abs (by rfl) T.abs (by decide +kernel) (pa_cons (pv 0) pa_nil)) (pa_cons (pe_callB call_abs (by rfl) T.abs (by decide +kernel) (pa_cons (pv 1) pa_nil)) pa_nil)) rfl)
      (pss_cons (ps_while PassesOwn.never (pt_cmpR op_gt (pv 3) pe_int (nomark _)) (pss_one (ps_par (i := 2) (j := 3) rfl scSh.nd rfl rfl (by decide) rfl rfl (pa_cons (pv 3) (pa_cons (pe_op op_modN (pe_callTy call_int1 (by rfl) T.int PyProof.Rows.boot_int (pa_cons (pv 2) pa_nil)) (pv 3)) pa_nil)) rfl)))
      (pss_one (ps_ret (pv 2))))), ?_⟩
    refine ⟨_, rfl, a, rfl, _, rfl, b, rfl, _, _, rfl, ?_⟩
    rw [absN, absN]
    refine ⟨fun m σ Hx => ∃ x : Nat, σ = [some (.int a), some (.int b), some (.int (x : Int)), some (.int (m : Int))] ∧ Nat.gcd x m = Nat.gcd a.natAbs b.natAbs ∧ Hx = H, ⟨b.natAbs, a.natAbs, rfl, rfl, rfl⟩, ?_⟩
    rintro m σ Hx ⟨x, rfl, eg, rfl⟩
    refine ⟨_, rfl, _, _, rfl, rfl, decide ((0 : Int) < (m : Int)), rfl, ite2 (fun c => ?_) (fun c => ?_)⟩
    · have m0 : 0 < m := by have := of_decide_eq_true c; omega
      refine ⟨fun σ' H' => ∃ x' : Nat, σ' = [some (.int a), some (.int b), some (.int (x' : Int)), some (.int ((x % m : Nat) : Int))] ∧ Nat.gcd x' (x % m) = Nat.gcd a.natAbs b.natAbs ∧ H' = Hx, fun σ' H' ⟨x', e1, e2, e3⟩ => ⟨x % m, Nat.mod_lt _ m0, x', e1, e2, e3⟩, ?_⟩
      refine ⟨_, rfl, _, rfl, .inl ⟨_, rfl, _, rfl, _, _, rfl, rfl, by omega, _, _, rfl, m, ?_, ?_, rfl⟩⟩
      · have e : (x : Int).fmod (m : Int) = ((x % m : Nat) : Int) := by
          rw [Int.fmod_eq_emod_of_nonneg _ (by omega)]
          exact (Int.natCast_emod ..).symm
        dsimp only
        rw [e]
        rfl
      · rw [← eg, Nat.gcd_comm x m, Nat.gcd_rec m x, Nat.gcd_comm]
    · have m0 : m = 0 := by
        have : ¬ (0 : Int) < (m : Int) := fun z => c (decide_eq_true z)
        omega
      subst m0
      rw [Nat.gcd_zero_right] at eg
      refine ⟨_, rfl, ?_⟩
      rw [eg]
      exact k
end
end K09
namespace K09
open PySem PySem.Spec PyProof.Rows L2 RatM ClX
theorem fdiv_neg_low {t b : Int} (h : b < 0) : (-t).fdiv ((Nat.gcd t.natAbs b.natAbs : Nat) : Int) = lowT t b ∧ (-b).fdiv ((Nat.gcd t.natAbs b.natAbs : Nat) : Int) = lowB t b := by
  have hb : b ≠ 0 := by omega
  have g0 : ((Nat.gcd t.natAbs b.natAbs : Nat) : Int) ≠ 0 := by
    have := Nat.gcd_pos_of_pos_right t.natAbs (Int.natAbs_pos.mpr hb)
    omega
  have eD : lowD t b = -((Nat.gcd t.natAbs b.natAbs : Nat) : Int) := if_neg (by omega)
  have m1 := lowT_mul (t := t) hb
  have m2 := lowB_mul (t := t) hb
  rw [eD] at m1 m2
  constructor
  · have e : -t = ((Nat.gcd t.natAbs b.natAbs : Nat) : Int) * lowT t b := by
      rw [Int.neg_mul] at m1
      omega
    rw [show (-t) = ((Nat.gcd t.natAbs b.natAbs : Nat) : Int) * lowT t b from e]
    exact Int.mul_fdiv_cancel_left _ g0
  · have e : -b = ((Nat.gcd t.natAbs b.natAbs : Nat) : Int) * lowB t b := by
      rw [Int.neg_mul] at m2
      omega
    rw [show (-b) = ((Nat.gcd t.natAbs b.natAbs : Nat) : Int) * lowB t b from e]
    exact Int.mul_fdiv_cancel_left _ g0
def spLw : Sp := fun vs H Q _ => ∃ t b : Int, vs = [.int t, .int b] ∧ b ≠ 0 ∧ b.natAbs < 2 ^ 4000 ∧ ∀ p, H p = none → Q (.ref p) (upd H p (.tup [.int (lowT t b), .int (lowB t b)]))
section
variable {P : Program} {w : World} {K : PySem.W.Frag} {mg : Str → Option Value} {base : Heap}
theorem scLo : FnScope ["_law_top", "_law_bottom", "_law_shared_here"] ["_law_top", "_law_bottom"] (defScope (top 83)) := ⟨rfl, rfl, rfl, by decide +kernel, rfl, by decide +kernel, by decide +kernel⟩
theorem ok_low {f fS : Addr} {fd fdS : FuncData} (F : FnP K "_law_low" (top 83) f fd) (GS : FnOk P w K mg base CX0 1 fS fdS ["_law_one", "_law_other"] spSh) (bS : Binds K fdS ["_law_one", "_law_other"] []) (kS : PySem.W.keepIn K (.ref fS) = true) (gS : mg "_law_shared" = some (.ref fS)) :
    FnOk P w K mg base CX0 2 f fd ["_law_top", "_law_bottom"] spLw := by
  refine F.ok scLo (fun vs H Q E h => ?_) (fun cdv A outer s H vs Q E hr h => ?_)
  · obtain ⟨t, b, rfl, _⟩ := h
    rfl
  · obtain ⟨t, b, rfl, hb, hz, k⟩ := h
    have hr1 : Room 1 _ := hr
    refine ⟨_, PSs.nox (pss_cons (ps_set (i := 2) scLo.nd rfl (.inl rfl) (pe_call GS hr1 rfl gS kS bS .nil pass0 (pa_cons (pv 0) (pa_cons (pv 1) pa_nil))))
      (pss_one (ps_ret (pe_ifExp (pt_cmpR op_gt (pv 1) pe_int (nomark _)) (pe_tup (pa_cons (pe_op op_fdivZ (pv 0) (pv 2)) (pa_cons (pe_op op_fdivZ (pv 1) (pv 2)) pa_nil))) (pe_tup (pa_cons (pe_op op_fdivZ (pe_un un_neg (pv 0)) (pv 2)) (pa_cons (pe_op op_fdivZ (pe_un un_neg (pv 1)) (pv 2)) pa_nil))))))), ?_⟩
    have g0 : ((Nat.gcd t.natAbs b.natAbs : Nat) : Int) ≠ 0 := by
      have := Nat.gcd_pos_of_pos_right t.natAbs (Int.natAbs_pos.mpr hb)
      omega
    have gz : ((Nat.gcd t.natAbs b.natAbs : Nat) : Int).natAbs.log2 < 9000 := by
      refine log2_of ?_
      rw [Int.natAbs_natCast]
      exact Nat.lt_of_le_of_lt (Nat.gcd_le_right _ (Int.natAbs_pos.mpr hb)) hz
    refine ⟨_, rfl, _, rfl, t, b, rfl, ?_⟩
    refine ⟨_, rfl, _, _, rfl, rfl, _, rfl, ite2 (fun c => ?_) (fun c => ?_)⟩
    · have b0 : 0 < b := of_decide_eq_true c
      have eD : ((Nat.gcd t.natAbs b.natAbs : Nat) : Int) = lowD t b := (if_pos b0).symm
      rw [eD] at g0 gz
      rw [eD]
      exact ⟨_, rfl, _, rfl, _, _, rfl, rfl, ⟨g0, gz⟩, _, rfl, _, rfl, _, _, rfl, rfl, ⟨g0, gz⟩, by rw [sizeLine_eq]; show 2 ≤ 16777216; decide, k⟩
    · have b0 : b < 0 := by
        have : ¬ 0 < b := fun z => c (decide_eq_true z)
        omega
      obtain ⟨e1, e2⟩ := fdiv_neg_low (t := t) b0
      refine ⟨_, rfl, _, rfl, _, rfl, _, _, rfl, rfl, ⟨g0, gz⟩, _, rfl, _, rfl, _, rfl, _, _, rfl, rfl, ⟨g0, gz⟩, by rw [sizeLine_eq]; show 2 ≤ 16777216; decide, ?_⟩
      dsimp only
      rw [e1, e2]
      exact k
end
end K09
namespace K09
open PySem PySem.Spec PyProof.Rows L2 RatM ClX
/-- the product of two fractions -/
def byF (x y : Int × Int) : Int × Int := (lowT (x.1 * y.1) (x.2 * y.2), lowB (x.1 * y.1) (x.2 * y.2))
/-- a fraction as the law has it -/
abbrev tupF (x : Int × Int) : List V := [.int x.1, .int x.2]
/-- numbers below 2 ^ 900, the bottom not 0 -/
def FrOk (x : Int × Int) : Prop := x.1.natAbs < 2 ^ 900 ∧ x.2.natAbs < 2 ^ 900 ∧ x.2 ≠ 0
def spFr (f : Int × Int → Int × Int → Int × Int) : Sp := fun vs H Q _ => ∃ (a b : Addr) (x y : Int × Int), vs = [.ref a, .ref b] ∧ H a = some (.tup (tupF x)) ∧ H b = some (.tup (tupF y)) ∧ FrOk x ∧ FrOk y ∧ ∀ p, H p = none → Q (.ref p) (upd H p (.tup (tupF (f x y))))
theorem fr_b0 {x y : Int × Int} (hx : FrOk x) (hy : FrOk y) : x.2 * y.2 ≠ 0 ∧ (x.2 * y.2).natAbs < 2 ^ 4000 := ⟨Int.mul_ne_zero hx.2.2 hy.2.2, Nat.lt_of_lt_of_le (wide_lt hx.2.1 hy.2.1) (Nat.pow_le_pow_right (by decide) (by decide))⟩
theorem fr_mul {p q : Int} (hp : p.natAbs < 2 ^ 900) (hq : q.natAbs < 2 ^ 900) : CMulW p q := wide_mul hp hq (by decide) (by decide) (by decide)
section
variable {P : Program} {w : World} {K : PySem.W.Frag} {mg : Str → Option Value} {base : Heap}
theorem scPl : FnScope ["_law_one", "_law_other"] ["_law_one", "_law_other"] (defScope (top 84)) := ⟨rfl, rfl, rfl, by decide +kernel, rfl, by decide +kernel, by decide +kernel⟩
theorem ok_plus {f fL : Addr} {fd fdL : FuncData} (F : FnP K "_law_plus" (top 84) f fd) (GL : FnOk P w K mg base CX0 2 fL fdL ["_law_top", "_law_bottom"] spLw) (bL : Binds K fdL ["_law_top", "_law_bottom"] []) (kL : PySem.W.keepIn K (.ref fL) = true) (gL : mg "_law_low" = some (.ref fL)) :
    FnOk P w K mg base CX0 3 f fd ["_law_one", "_law_other"] (spFr plusF) := by
  refine F.ok scPl (fun vs H Q E h => ?_) (fun cdv A outer s H vs Q E hr h => ?_)
  · obtain ⟨a, b, x, y, rfl, _⟩ := h
    rfl
  · obtain ⟨a, b, x, y, rfl, ha, hb, hx, hy, k⟩ := h
    have hr2 : Room 2 _ := hr
    obtain ⟨b0, bz⟩ := fr_b0 hx hy
    refine ⟨_, PSs.nox (pss_one (ps_ret (pe_call GL hr2 rfl gL kL bL .nil pass0 (pa_cons (pe_op op_add (pe_op op_mulW (pe_ix ix_tup (pv 0) pe_int (fun _ _ => rfl)) (pe_ix ix_tup (pv 1) pe_int (fun _ _ => rfl))) (pe_op op_mulW (pe_ix ix_tup (pv 1) pe_int (fun _ _ => rfl)) (pe_ix ix_tup (pv 0) pe_int (fun _ _ => rfl))))
      (pa_cons (pe_op op_mulW (pe_ix ix_tup (pv 0) pe_int (fun _ _ => rfl)) (pe_ix ix_tup (pv 1) pe_int (fun _ _ => rfl))) pa_nil))))), ?_⟩
    refine ⟨_, rfl, _, _, _, _, rfl, rfl, SqT.of ha, rfl, _, rfl, _, _, _, _, rfl, rfl, SqT.of hb, rfl, _, _, rfl, rfl, fr_mul hx.1 hy.2.1, ?_⟩
    refine ⟨_, rfl, _, _, _, _, rfl, rfl, SqT.of hb, rfl, _, rfl, _, _, _, _, rfl, rfl, SqT.of ha, rfl, _, _, rfl, rfl, fr_mul hy.1 hx.2.1, _, _, rfl, rfl, ?_⟩
    refine ⟨_, rfl, _, _, _, _, rfl, rfl, SqT.of ha, rfl, _, rfl, _, _, _, _, rfl, rfl, SqT.of hb, rfl, _, _, rfl, rfl, fr_mul hx.2.1 hy.2.1, ?_⟩
    exact ⟨_, _, rfl, b0, bz, k⟩
theorem scBy : FnScope ["_law_one", "_law_other"] ["_law_one", "_law_other"] (defScope (top 85)) := ⟨rfl, rfl, rfl, by decide +kernel, rfl, by decide +kernel, by decide +kernel⟩
theorem ok_by {f fL : Addr} {fd fdL : FuncData} (F : FnP K "_law_by" (top 85) f fd) (GL : FnOk P w K mg base CX0 2 fL fdL ["_law_top", "_law_bottom"] spLw) (bL : Binds K fdL ["_law_top", "_law_bottom"] []) (kL : PySem.W.keepIn K (.ref fL) = true) (gL : mg "_law_low" = some (.ref fL)) :
    FnOk P w K mg base CX0 3 f fd ["_law_one", "_law_other"] (spFr byF) := by
  refine F.ok scBy (fun vs H Q E h => ?_) (fun cdv A outer s H vs Q E hr h => ?_)
  · obtain ⟨a, b, x, y, rfl, _⟩ := h
    rfl
  · obtain ⟨a, b, x, y, rfl, ha, hb, hx, hy, k⟩ := h
    have hr2 : Room 2 _ := hr
    obtain ⟨b0, bz⟩ := fr_b0 hx hy
    refine ⟨_, PSs.nox (pss_one (ps_ret (pe_call GL hr2 rfl gL kL bL .nil pass0 (pa_cons (pe_op op_mulW (pe_ix ix_tup (pv 0) pe_int (fun _ _ => rfl)) (pe_ix ix_tup (pv 1) pe_int (fun _ _ => rfl)))
      (pa_cons (pe_op op_mulW (pe_ix ix_tup (pv 0) pe_int (fun _ _ => rfl)) (pe_ix ix_tup (pv 1) pe_int (fun _ _ => rfl))) pa_nil))))), ?_⟩
    refine ⟨_, rfl, _, _, _, _, rfl, rfl, SqT.of ha, rfl, _, rfl, _, _, _, _, rfl, rfl, SqT.of hb, rfl, _, _, rfl, rfl, fr_mul hx.1 hy.1, ?_⟩
    refine ⟨_, rfl, _, _, _, _, rfl, rfl, SqT.of ha, rfl, _, rfl, _, _, _, _, rfl, rfl, SqT.of hb, rfl, _, _, rfl, rfl, fr_mul hx.2.1 hy.2.1, ?_⟩
    exact ⟨_, _, rfl, b0, bz, k⟩
end
end K09
namespace K09
open PySem PySem.Spec PyProof.Rows L2 RatM ClX
/-- a drawn fraction: lowest terms, the top below 2 ^ 100, the bottom from 1 to 15 -/
structure FrD (x : Int × Int) : Prop where
  top : x.1.natAbs < 2 ^ 100
  b0 : 0 < x.2
  b1 : x.2 ≤ 15
  gcd : Int.gcd x.1 x.2 = 1
theorem frD_low {t b : Int} (ht : t.natAbs < 2 ^ 100) (h0 : 0 < b) (h1 : b ≤ 15) : FrD (lowT t b, lowB t b) := by
  have hb : b ≠ 0 := by omega
  have l := lowB_le (t := t) hb
  have p := lowB_pos (t := t) hb
  exact ⟨Nat.lt_of_le_of_lt (lowT_le hb) ht, p, by show lowB t b ≤ 15; omega, low_gcd hb⟩
theorem Keep.free {t p : Addr} {H H' : Hp} (h : Keep t H H') (ht : ∃ o, H' t = some o) (n : H' p = none) : H p = none := by
  cases e : H p with
  | none => rfl
  | some o =>
    by_cases eq : p = t
    · subst eq
      obtain ⟨o', e'⟩ := ht
      rw [n] at e'
      cases e'
    · rw [h p o eq e] at n
      cases n
end K09
namespace K09
open PySem PySem.Spec PyProof.Rows L2 RatM ClX
theorem Keep.refl {t : Addr} {H : Hp} : Keep t H H := fun _ _ _ e => e
theorem Keep.trans {t : Addr} {A B C' : Hp} (h1 : Keep t A B) (h2 : Keep t B C') : Keep t A C' := fun b o hb e => h2 b o hb (h1 b o hb e)
theorem Keep.same {t : Addr} {A B C' : Hp} (h1 : Keep t A B) (h2 : Same B C') : Keep t A C' := fun b o hb e => h2 b o (h1 b o hb e)
theorem Till.off {H : Hp} {t c p : Addr} {cells : List Int} {i g : Int} (h : Till H t c cells i g) (n : H p = none) : p ≠ t := fun e => by rw [e, h.ht] at n; cases n
theorem Till.same {H H' : Hp} {t c : Addr} {cells : List Int} {i g : Int} (h : Till H t c cells i g) (s : Same H H') : Till H' t c cells i g := ⟨s _ _ h.ht, s _ _ h.hc, h.3⟩
/-- the lists of names that the law draws from -/
def pools : List (List Str) := [["a", "b", "c", "d"], ["b9", "a", "aa", "z"], ["x", "less", "ab", "abcdefghij12"]]
/-- names of things, all different, four at most -/
structure ThOk (xs : List Str) : Prop where
  nd : xs.Nodup
  le : xs.length ≤ 4
  nm : ∀ n ∈ xs, n.length ≤ 12 ∧ nameT n.cps.toList = true
theorem pools_ok : ∀ xs ∈ pools, xs.Nodup ∧ xs.length = 4 ∧ ∀ n ∈ xs, n.length ≤ 12 ∧ nameT n.cps.toList = true := by decide +kernel
theorem rot_cut {α : Type} (xs : List α) (b m : Nat) : (xs.drop b ++ xs.take b).take m = (xs.drop b ++ xs.take b).take m := rfl
theorem cut_from {xs : List V} (b : Nat) (h : b ≤ xs.length) : cutV xs (some (b : Int)) none = xs.drop b := by
  unfold cutV
  rw [HT.sIx_none, HT.sIx_nat, Nat.min_eq_left h]
  exact List.take_of_length_le (by rw [List.length_drop]; omega)
theorem cut_to {xs : List V} (b : Nat) : cutV xs none (some (b : Int)) = xs.take b := by
  unfold cutV
  rw [HT.sIx_none, HT.sIx_nat, List.drop_zero, Nat.sub_zero, ← List.take_take, List.take_length]
theorem rot_ok {xs : List Str} (h : xs ∈ pools) (b m : Nat) (hm : m ≤ 4) : ThOk ((xs.drop b ++ xs.take b).take m) := by
  obtain ⟨h1, h2, h3⟩ := pools_ok xs h
  have p : (xs.drop b ++ xs.take b).Perm xs := List.perm_append_comm.trans (by rw [List.take_append_drop])
  refine ⟨(p.nodup_iff.mpr h1).sublist (List.take_sublist _ _), ?_, fun n mn => h3 n (p.mem_iff.mp (List.mem_of_mem_take mn))⟩
  rw [List.length_take]; omega
theorem ThOk.reverse {xs : List Str} (h : ThOk xs) : ThOk xs.reverse := ⟨(List.reverse_perm xs).nodup_iff.mpr h.nd, by rw [List.length_reverse]; exact h.le, fun n m => h.nm n (List.mem_reverse.mp m)⟩
def spThs : Sp := fun vs H Q _ => ∃ (t c : Addr) (cells : List Int) (i g m : Int), vs = [.ref t, .int m] ∧ 0 ≤ m ∧ m ≤ 4 ∧ Till H t c cells i g ∧ 0 ≤ i ∧ i ≤ 900000 ∧ 0 ≤ g ∧
  ∀ (p : Addr) (xs : List Str) (i' g' : Int) (H' : Hp), ThOk xs → (0 < m → xs ≠ []) → 0 ≤ i' → i' ≤ i + 3 → 0 ≤ g' → Keep t H H' → p ≠ t → H' p = some (.lst (xs.map V.str)) → Till H' t c cells i' g' → Q (.ref p) H'
section
variable {P : Program} {w : World} {K : PySem.W.Frag} {mg : Str → Option Value} {base : Heap}
theorem scTg : FnScope ["_law_reel_here", "_law_many", "_law_pool", "_law_begin", "_law_found"] ["_law_reel_here", "_law_many"] (defScope (top 90)) := ⟨rfl, rfl, rfl, by decide +kernel, rfl, by decide +kernel, by decide +kernel⟩
theorem ok_things {f fT fO : Addr} {fd fdT fdO : FuncData} (F : FnP K "_law_things" (top 90) f fd) (GT : FnOk P w K mg base CX0 1 fT fdT ["_law_reel_here", "_law_many"] spCoin) (bT : Binds K fdT ["_law_reel_here", "_law_many"] []) (kT : PySem.W.keepIn K (.ref fT) = true) (gT : mg "_law_turn" = some (.ref fT))
    (GO : FnOk P w K mg base CX0 2 fO fdO ["_law_reel_here", "_law_some"] spOf) (bO : Binds K fdO ["_law_reel_here", "_law_some"] []) (kO : PySem.W.keepIn K (.ref fO) = true) (gO : mg "_law_pick" = some (.ref fO)) :
    FnOk P w K mg base CX0 3 f fd ["_law_reel_here", "_law_many"] spThs := by
  refine F.ok scTg (fun vs H Q E h => ?_) (fun cdv A outer s H vs Q E hr h => ?_)
  · obtain ⟨t, c, cells, i, g, m, rfl, _⟩ := h
    rfl
  · obtain ⟨t, c, cells, i, g, m, rfl, m0, m4, hT, hi0, hi1, hg, k⟩ := h
    have hr2 : Room 2 _ := hr
    refine ⟨_, PSs.nox (pss_cons (ps_set (i := 2) scTg.nd rfl (.inl rfl) (pe_call GO hr2 rfl gO kO bO .nil pass0 (pa_cons (pv 0) (pa_cons (pe_lst (pa_cons (pe_lst (pa_cons pe_str (pa_cons pe_str (pa_cons pe_str (pa_cons pe_str pa_nil))))) (pa_cons (pe_lst (pa_cons pe_str (pa_cons pe_str (pa_cons pe_str (pa_cons pe_str pa_nil))))) (pa_cons (pe_lst (pa_cons pe_str (pa_cons pe_str (pa_cons pe_str (pa_cons pe_str pa_nil))))) pa_nil)))) pa_nil))))
      (pss_cons (ps_set (i := 3) scTg.nd rfl (.inl rfl) (pe_call GT (hr2.mono (by decide)) rfl gT kT bT .nil pass0 (pa_cons (pv 0) (pa_cons pe_int pa_nil))))
      (pss_cons (ps_set (i := 4) scTg.nd rfl (.inl rfl) (pe_slice sl_list (pe_op op_cat (pe_slice sl_list (pv 2) (po_some (pv 3)) po_none) (pe_slice sl_list (pv 2) po_none (po_some (pv 3)))) po_none (po_some (pv 1))))
      (pss_one (ps_ret (pe_ifExp (pt_cmpR op_eq (pe_call GT (hr2.mono (by decide)) rfl gT kT bT .nil pass0 (pa_cons (pv 0) (pa_cons pe_int pa_nil))) pe_int (nomark _)) (pe_revL (pv 4)) (pv 4))))))), ?_⟩
    have z4 : (4 : Nat) ≤ sizeLine := by rw [sizeLine_eq]; decide
    have z3 : (3 : Nat) ≤ sizeLine := by rw [sizeLine_eq]; decide
    refine ⟨_, rfl, z4, fun p1 n1 => ?_⟩
    have s1 : Same H (upd H p1 (.lst [.str "a", .str "b", .str "c", .str "d"])) := same_upd n1
    have e1 : (upd H p1 (.lst [.str "a", .str "b", .str "c", .str "d"])) p1 = some (.lst (([ "a", "b", "c", "d"] : List Str).map V.str)) := upd_same
    generalize (upd H p1 (.lst [.str "a", .str "b", .str "c", .str "d"])) = H1 at s1 e1 ⊢
    refine ⟨z4, fun p2 n2 => ?_⟩
    have s2 : Same H1 (upd H1 p2 (.lst [.str "b9", .str "a", .str "aa", .str "z"])) := same_upd n2
    have e2 : (upd H1 p2 (.lst [.str "b9", .str "a", .str "aa", .str "z"])) p2 = some (.lst (([ "b9", "a", "aa", "z"] : List Str).map V.str)) := upd_same
    generalize (upd H1 p2 (.lst [.str "b9", .str "a", .str "aa", .str "z"])) = H2 at s2 e2 ⊢
    refine ⟨z4, fun p3 n3 => ?_⟩
    have s3 : Same H2 (upd H2 p3 (.lst [.str "x", .str "less", .str "ab", .str "abcdefghij12"])) := same_upd n3
    have e3 : (upd H2 p3 (.lst [.str "x", .str "less", .str "ab", .str "abcdefghij12"])) p3 = some (.lst (([ "x", "less", "ab", "abcdefghij12"] : List Str).map V.str)) := upd_same
    generalize (upd H2 p3 (.lst [.str "x", .str "less", .str "ab", .str "abcdefghij12"])) = H3 at s3 e3 ⊢
    refine ⟨z3, fun p4 n4 => ?_⟩
    have s4 : Same H3 (upd H3 p4 (.lst [.ref p1, .ref p2, .ref p3])) := same_upd n4
    have e4 : (upd H3 p4 (.lst [.ref p1, .ref p2, .ref p3])) p4 = some (.lst [.ref p1, .ref p2, .ref p3]) := upd_same
    have hT3 := ((hT.same s1).same s2).same s3
    have n4t : p4 ≠ t := hT3.off n4
    generalize (upd H3 p4 (.lst [.ref p1, .ref p2, .ref p3])) = H4 at s4 e4 ⊢
    have hT4 := hT3.same s4
    refine ⟨t, c, p4, cells, i, g, _, rfl, hT4, hi0, by omega, hg, n4t, e4, (by show (0 : Nat) < 3; decide), (by show (3 : Nat) ≤ 10000; decide), fun v i1 g1 H5 hv j0 j1 k0 kp hT5 => ?_⟩
    have kp0 : Keep t H H5 := ((((Keep.refl.same s1).same s2).same s3).same s4).trans kp
    obtain ⟨q, xs, rfl, mx, hq⟩ : ∃ q xs, v = .ref q ∧ xs ∈ pools ∧ H5 q = some (.lst (xs.map V.str)) := by
      simp only [List.mem_cons, List.not_mem_nil, or_false] at hv
      have a1 := s4 _ _ (s3 _ _ (s2 _ _ e1))
      have a2 := s4 _ _ (s3 _ _ e2)
      have a3 := s4 _ _ e3
      have nt : ∀ {p : Addr} {xs : List V}, H4 p = some (.lst (xs)) → (∀ x : Addr, V.ref x ≠ xs.getD 0 .non) → p ≠ t := fun {p xs} e ne z => by
        rw [z, hT4.ht] at e
        injection e with e
        injection e with e
        subst e
        exact ne c rfl
      rcases hv with rfl | rfl | rfl
      · exact ⟨p1, _, rfl, by unfold pools; simp, kp _ _ (nt a1 (fun x z => by cases z)) a1⟩
      · exact ⟨p2, _, rfl, by unfold pools; simp, kp _ _ (nt a2 (fun x z => by cases z)) a2⟩
      · exact ⟨p3, _, rfl, by unfold pools; simp, kp _ _ (nt a3 (fun x z => by cases z)) a3⟩
    dsimp only [tNext, tSeq, tAsg, gName]
    refine ⟨_, rfl, t, c, cells, i1, g1, 4, rfl, hT5, j0, by omega, k0, by decide, by decide, fun r i2 g2 H6 r0 r1 j2 j3 k2 kp2 hT6 => ?_⟩
    have qt : q ≠ t := fun z => by
      rw [z, hT5.ht] at hq
      injection hq with hq
      injection hq with hq
      cases xs with
      | nil => cases hq
      | cons a l => injection hq with hq _; cases hq
    have hq6 := kp2 _ _ qt hq
    obtain ⟨b, rfl⟩ : ∃ b : Nat, r = b := ⟨r.toNat, by omega⟩
    obtain ⟨mm, rfl⟩ : ∃ mm : Nat, m = mm := ⟨m.toNat, by omega⟩
    have lx := (pools_ok xs mx).2.1
    have ok := rot_ok mx b mm (by omega)
    dsimp only [tNext, tSeq, tAsg, gName]
    refine ⟨_, rfl, _, rfl, _, rfl, q, _, rfl, SqL.of hq6, fun d1 m1 => ?_⟩
    rw [cut_from b (by rw [List.length_map]; omega), ← List.map_drop]
    have u1 : Same H6 (upd H6 d1 (.lst ((xs.drop b).map V.str))) := same_upd m1
    have f1 : (upd H6 d1 (.lst ((xs.drop b).map V.str))) d1 = some (.lst ((xs.drop b).map V.str)) := upd_same
    generalize (upd H6 d1 (.lst ((xs.drop b).map V.str))) = H7 at u1 f1 ⊢
    refine ⟨_, rfl, _, rfl, _, rfl, q, _, rfl, SqL.of (u1 _ _ hq6), fun d2 m2 => ?_⟩
    rw [cut_to, ← List.map_take]
    have u2 : Same H7 (upd H7 d2 (.lst ((xs.take b).map V.str))) := same_upd m2
    have f2 : (upd H7 d2 (.lst ((xs.take b).map V.str))) d2 = some (.lst ((xs.take b).map V.str)) := upd_same
    generalize (upd H7 d2 (.lst ((xs.take b).map V.str))) = H8 at u2 f2 ⊢
    refine ⟨d1, d2, _, _, rfl, rfl, u2 _ _ f1, f2, ?_, fun d3 m3 => ?_⟩
    · rw [List.length_map, List.length_map, List.length_drop, List.length_take, sizeLine_eq]; omega
    rw [← List.map_append]
    have u3 : Same H8 (upd H8 d3 (.lst ((xs.drop b ++ xs.take b).map V.str))) := same_upd m3
    have f3 : (upd H8 d3 (.lst ((xs.drop b ++ xs.take b).map V.str))) d3 = some (.lst ((xs.drop b ++ xs.take b).map V.str)) := upd_same
    generalize (upd H8 d3 (.lst ((xs.drop b ++ xs.take b).map V.str))) = H9 at u3 f3 ⊢
    refine ⟨_, rfl, _, rfl, d3, _, rfl, SqL.of f3, fun d4 m4' => ?_⟩
    rw [cut_to, ← List.map_take]
    have nn : 0 < (mm : Int) → (xs.drop b ++ xs.take b).take mm ≠ [] := fun z e => by
      have := congrArg List.length e
      rw [List.length_take, List.length_append, List.length_drop, List.length_take, List.length_nil] at this
      omega
    generalize (xs.drop b ++ xs.take b).take mm = ys at ok nn ⊢
    have u4 : Same H9 (upd H9 d4 (.lst (ys.map V.str))) := same_upd m4'
    have f4 : (upd H9 d4 (.lst (ys.map V.str))) d4 = some (.lst (ys.map V.str)) := upd_same
    have ta : Till H9 t c cells i2 g2 := ((hT6.same u1).same u2).same u3
    have d4t : d4 ≠ t := ta.off m4'
    generalize (upd H9 d4 (.lst (ys.map V.str))) = HA at u4 f4 ⊢
    have tA := ta.same u4
    have kA : Keep t H HA := ((((kp0.trans kp2).same u1).same u2).same u3).same u4
    refine ⟨_, rfl, t, c, cells, i2, g2, 2, rfl, tA, j2, by omega, k2, by decide, by decide, fun r' i3 g3 HB r0' r1' j4 j5 k3 kp3 hTB => ?_⟩
    have fB := kp3 _ _ d4t f4
    refine ⟨rfl, _, rfl, ite2 (fun c2 => ?_) (fun c2 => ?_)⟩
    · refine ⟨_, rfl, d4, _, rfl, SqL.of fB, fun d5 m5 => ?_⟩
      have d5t := hTB.off m5
      rw [← List.map_reverse]
      exact k d5 ys.reverse i3 g3 _ ok.reverse (fun z e => nn z (List.reverse_eq_nil_iff.mp e)) j4 (by omega) k3 ((kA.trans kp3).same (same_upd m5)) d5t upd_same (hTB.same (same_upd m5))
    · exact ⟨_, rfl, k d4 ys i3 g3 HB ok nn j4 (by omega) k3 (kA.trans kp3) d4t fB hTB⟩
end
end K09
namespace K09
open PySem PySem.Spec PyProof.Rows L2 RatM ClX
/-- the law's common divisor of the tops, all over one bottom -/
def gcdL (L : Nat) (g : Str → Int × Int) (zs : List Str) : Nat := zs.foldl (fun s n => Nat.gcd s ((g n).1 * (L : Int).fdiv (g n).2).natAbs) 0
def leastL (g : Str → Int × Int) (zs : List Str) : Str → Int × Int := fun n => (((g n).1 * ((lcmN g zs : Nat) : Int).fdiv (g n).2).fdiv (gcdL (lcmN g zs) g zs : Nat), 1)
theorem gcdL_take {L : Nat} {g : Str → Int × Int} {zs : List Str} {i : Nat} {n : Str} (e : zs[i]? = some n) : gcdL L g (zs.take (i + 1)) = Nat.gcd (gcdL L g (zs.take i)) ((g n).1 * (L : Int).fdiv (g n).2).natAbs := by
  unfold gcdL
  rw [List.take_add_one, e, List.foldl_append]
  rfl
theorem gcdL_fold_dvd (L : Nat) (g : Str → Int × Int) : ∀ (zs : List Str) (d : Nat), zs.foldl (fun s n => Nat.gcd s ((g n).1 * (L : Int).fdiv (g n).2).natAbs) d ∣ d ∧ ∀ n ∈ zs, zs.foldl (fun s n => Nat.gcd s ((g n).1 * (L : Int).fdiv (g n).2).natAbs) d ∣ ((g n).1 * (L : Int).fdiv (g n).2).natAbs
  | [], d => ⟨Nat.dvd_refl _, fun n m => by cases m⟩
  | x :: t, d => by
    obtain ⟨h1, h2⟩ := gcdL_fold_dvd L g t (Nat.gcd d ((g x).1 * (L : Int).fdiv (g x).2).natAbs)
    refine ⟨Nat.dvd_trans h1 (Nat.gcd_dvd_left _ _), fun n m => ?_⟩
    cases m with
    | head => exact Nat.dvd_trans h1 (Nat.gcd_dvd_right _ _)
    | tail _ m => exact h2 n m
theorem gcdL_dvd {L : Nat} {g : Str → Int × Int} {zs : List Str} {n : Str} (m : n ∈ zs) : gcdL L g zs ∣ ((g n).1 * (L : Int).fdiv (g n).2).natAbs := (gcdL_fold_dvd L g zs 0).2 n m
theorem fdiv_nat (a b : Nat) : ((a : Nat) : Int).fdiv (b : Nat) = ((a / b : Nat) : Int) := by
  rw [Int.fdiv_eq_ediv_of_nonneg _ (by omega)]
  exact (Int.natCast_ediv ..).symm
theorem lcm_step (b q : Nat) : (b : Int) * ((q : Nat) : Int).fdiv ((Nat.gcd b q : Nat) : Int) = ((Nat.lcm b q : Nat) : Int) := by
  rw [fdiv_nat, ← Int.natCast_mul, ← Nat.mul_div_assoc b (Nat.gcd_dvd_right b q)]
  rfl
theorem lcm_fold_dvd (g : Str → Int × Int) : ∀ (zs : List Str) (l : Nat), l ∣ zs.foldl (fun l n => Nat.lcm l (g n).2.natAbs) l ∧ ∀ n ∈ zs, (g n).2.natAbs ∣ zs.foldl (fun l n => Nat.lcm l (g n).2.natAbs) l
  | [], l => ⟨Nat.dvd_refl _, fun n m => by cases m⟩
  | x :: t, l => by
    obtain ⟨h1, h2⟩ := lcm_fold_dvd g t (Nat.lcm l (g x).2.natAbs)
    refine ⟨Nat.dvd_trans (Nat.dvd_lcm_left _ _) h1, fun n m => ?_⟩
    cases m with
    | head => exact Nat.dvd_trans (Nat.dvd_lcm_right _ _) h1
    | tail _ m => exact h2 n m
theorem lcm_fold_pos (g : Str → Int × Int) : ∀ (zs : List Str) (l : Nat), 0 < l → (∀ n ∈ zs, 0 < (g n).2) → 0 < zs.foldl (fun l n => Nat.lcm l (g n).2.natAbs) l
  | [], l, h, _ => h
  | x :: t, l, h, p => lcm_fold_pos g t _ (Nat.lcm_pos h (by have := p x List.mem_cons_self; omega)) fun n m => p n (List.mem_cons_of_mem _ m)
end K09
namespace K09
open PySem PySem.Spec PyProof.Rows L2 RatM ClX
/-! ### fractions as rationals -/
/-- a fraction in lowest terms -/
def Lo (x : Int × Int) : Prop := 0 < x.2 ∧ Int.gcd x.1 x.2 = 1
def val (x : Int × Int) : Rat := Rat.divInt x.1 x.2
theorem lo_low {t b : Int} (h : b ≠ 0) : Lo (lowT t b, lowB t b) := ⟨lowB_pos h, low_gcd h⟩
theorem val_low {t b : Int} (h : b ≠ 0) : val (lowT t b, lowB t b) = Rat.divInt t b := by
  have p := lowB_pos (t := t) h
  refine (Rat.divInt_eq_divInt_iff (show lowB t b ≠ 0 by omega) h).mpr ?_
  show lowT t b * b = t * lowB t b
  have m1 := lowT_mul (t := t) h
  have m2 := lowB_mul (t := t) h
  generalize lowD t b = d at m1 m2
  generalize lowT t b = u at m1 ⊢
  generalize lowB t b = v at m2 ⊢
  subst m1
  rw [← m2]
  grind
theorem lo_ext {x y : Int × Int} (hx : Lo x) (hy : Lo y) (h : val x = val y) : x = y := by
  have e := (Rat.divInt_eq_divInt_iff (show x.2 ≠ 0 by have := hx.1; omega) (show y.2 ≠ 0 by have := hy.1; omega)).mp h
  obtain ⟨a, b⟩ := low_one hx.1 hy.1 hx.2 hy.2 e
  exact Prod.ext a b
theorem lo01 : Lo (0, 1) := ⟨by decide, by decide⟩
theorem val01 : val (0, 1) = 0 := by unfold val; exact Rat.zero_divInt 1
theorem val_int (k : Int) : val (k, 1) = (k : Rat) := by
  show Rat.divInt k 1 = k
  rw [Rat.divInt_eq_div]
  have : ((1 : Int) : Rat) = 1 := rfl
  grind
theorem lo_int (k : Int) : Lo (k, 1) := ⟨by show (0 : Int) < 1; decide, Int.gcd_one⟩
theorem val_zero {x : Int × Int} (hx : Lo x) : val x = 0 ↔ x.1 = 0 := by
  constructor
  · intro h
    have := lo_ext hx lo01 (h.trans val01.symm)
    rw [this]
  · intro h
    have b0 := hx.1
    unfold val
    rw [h, Rat.zero_divInt]
theorem lo_plus {x y : Int × Int} (hx : x.2 ≠ 0) (hy : y.2 ≠ 0) : Lo (plusF x y) := lo_low (Int.mul_ne_zero hx hy)
theorem lo_by {x y : Int × Int} (hx : x.2 ≠ 0) (hy : y.2 ≠ 0) : Lo (byF x y) := lo_low (Int.mul_ne_zero hx hy)
theorem val_plus {x y : Int × Int} (hx : x.2 ≠ 0) (hy : y.2 ≠ 0) : val (plusF x y) = val x + val y := by
  unfold plusF
  rw [val_low (Int.mul_ne_zero hx hy)]
  unfold val
  rw [Rat.divInt_add_divInt _ _ hx hy]
theorem val_by {x y : Int × Int} (hx : x.2 ≠ 0) (hy : y.2 ≠ 0) : val (byF x y) = val x * val y := by
  unfold byF
  rw [val_low (Int.mul_ne_zero hx hy)]
  unfold val
  rw [Rat.divInt_mul_divInt]
theorem val_neg (x : Int × Int) : val (-x.1, x.2) = -val x := by
  unfold val
  rw [Rat.neg_divInt]
theorem lo_neg {x : Int × Int} (h : Lo x) : Lo (-x.1, x.2) := ⟨h.1, by show Int.gcd (-x.1) x.2 = 1; rw [Int.neg_gcd]; exact h.2⟩
theorem Lo.ne {x : Int × Int} (h : Lo x) : x.2 ≠ 0 := by have := h.1; omega
/-- the sign of a fraction -/
theorem val_nonneg {x : Int × Int} (h : 0 < x.2) : 0 ≤ val x ↔ 0 ≤ x.1 := Rat.divInt_nonneg_iff_of_pos_right h
theorem val_pos {x : Int × Int} (h : Lo x) : 0 < val x ↔ 0 < x.1 := by
  have h1 := val_nonneg h.1
  have h2 := val_zero h
  constructor
  · intro z
    have a := h1.mp (by grind)
    have b : x.1 ≠ 0 := fun e => by have := h2.mpr e; grind
    omega
  · intro z
    have a := h1.mpr (by omega)
    have b : val x ≠ 0 := fun e => by have := h2.mp e; omega
    grind
theorem val_lt {x : Int × Int} (h : Lo x) : val x < 0 ↔ x.1 < 0 := by
  have := val_pos (lo_neg h)
  rw [val_neg] at this
  constructor
  · intro z
    have := this.mp (by grind)
    have : 0 < -x.1 := this
    omega
  · intro z
    have := this.mpr (show 0 < -x.1 by omega)
    grind
/-! ### balances by the numbers of all things -/
/-- a balance that has these numbers -/
structure BalV (v : Str → Rat) (g : Str → Int × Int) (zs : List Str) : Prop where
  ok : BalOk g zs
  lo : ∀ n ∈ zs, Lo (g n)
  val : ∀ n, val (num g zs n) = v n
/-- a plain balance that has these numbers -/
structure PlV (v : Str → Rat) (g : Str → Int × Int) (ks : List Str) : Prop where
  nd : ks.Nodup
  lo : ∀ n ∈ ks, Lo (g n)
  val : ∀ n, val (num g ks n) = v n
theorem num_lo {g : Str → Int × Int} {zs : List Str} (h : ∀ n ∈ zs, Lo (g n)) (n : Str) : Lo (num g zs n) := by
  unfold num
  by_cases m : n ∈ zs
  · rw [if_pos m]; exact h n m
  · rw [if_neg m]; exact lo01
theorem num_in {g : Str → Int × Int} {zs : List Str} {n : Str} (m : n ∈ zs) : num g zs n = g n := if_pos m
theorem num_out {g : Str → Int × Int} {zs : List Str} {n : Str} (m : n ∉ zs) : num g zs n = (0, 1) := if_neg m
theorem BalV.mem {v : Str → Rat} {g : Str → Int × Int} {zs : List Str} (h : BalV v g zs) (n : Str) : n ∈ zs ↔ v n ≠ 0 := by
  rw [← h.val n]
  constructor
  · intro m
    rw [num_in m]
    exact fun e => h.ok.ne n m ((val_zero (h.lo n m)).mp e)
  · intro e
    by_cases m : n ∈ zs
    · exact m
    · rw [num_out m, val01] at e
      exact absurd rfl e
theorem PlV.mem {v : Str → Rat} {g : Str → Int × Int} {ks : List Str} (h : PlV v g ks) (n : Str) : n ∈ nz g ks ↔ v n ≠ 0 := by
  rw [← h.val n]
  constructor
  · intro m
    obtain ⟨m1, m2⟩ := List.mem_filter.mp m
    rw [num_in m1]
    exact fun e => by
      have := (val_zero (h.lo n m1)).mp e
      simp [this] at m2
  · intro e
    by_cases m : n ∈ ks
    · rw [num_in m] at e
      refine List.mem_filter.mpr ⟨m, ?_⟩
      have : (g n).1 ≠ 0 := fun z => e ((val_zero (h.lo n m)).mpr z)
      simp [this]
    · rw [num_out m, val01] at e
      exact absurd rfl e
theorem BalV.at_ {v : Str → Rat} {g : Str → Int × Int} {zs : List Str} (h : BalV v g zs) {n : Str} (m : n ∈ zs) : K09.val (g n) = v n := by
  rw [← h.val n, num_in m]
/-- two balances with the same numbers are the same -/
theorem BalV.same {v v2 : Str → Rat} {g g2 : Str → Int × Int} {zs zs2 : List Str} (h : BalV v g zs) (h2 : BalV v2 g2 zs2) (e : ∀ n, v n = v2 n) : zs = zs2 ∧ ∀ n ∈ zs, g n = g2 n := by
  have p : zs.Perm zs2 := (List.perm_ext_iff_of_nodup h.ok.ns.nd h2.ok.ns.nd).mpr fun n => by rw [h.mem, h2.mem, e]
  have q := sorted_unique h.ok.so h2.ok.so p
  refine ⟨q, fun n m => lo_ext (h.lo n m) (h2.lo n (q ▸ m)) ?_⟩
  rw [h.at_ m, h2.at_ (q ▸ m), e]
theorem BalV.plain {v v2 : Str → Rat} {g g2 : Str → Int × Int} {zs ks : List Str} (h : BalV v g zs) (h2 : PlV v2 g2 ks) (e : ∀ n, v n = v2 n) : zs.Perm (nz g2 ks) ∧ (∀ n ∈ zs, g n = g2 n) ∧ ∀ n ∈ zs, 0 < (g2 n).2 ∧ Int.gcd (g2 n).1 (g2 n).2 = 1 := by
  have p : zs.Perm (nz g2 ks) := (List.perm_ext_iff_of_nodup h.ok.ns.nd (h2.nd.filter _)).mpr fun n => by rw [h.mem, h2.mem, e]
  have mk : ∀ n ∈ zs, n ∈ ks := fun n m => (List.mem_filter.mp (p.mem_iff.mp m)).1
  refine ⟨p, fun n m => lo_ext (h.lo n m) (h2.lo n (mk n m)) ?_, fun n m => h2.lo n (mk n m)⟩
  rw [h.at_ m, ← num_in (g := g2) (mk n m), h2.val, e]
/-- a balance out of a dict -/
theorem BalV.of {v : Str → Rat} {g : Str → Int × Int} {ys : List Str} (ns : NsOk ys) (so : sortedS ys = true) (lo : ∀ n ∈ ys, Lo (g n)) (hv : ∀ n, K09.val (num g ys n) = v n) : BalV v g (nz g ys) := by
  refine ⟨⟨ns.filter _, sorted_filter _ so, fun n m => by have := (List.mem_filter.mp m).2; simpa using this⟩, fun n m => lo n (List.mem_filter.mp m).1, fun n => ?_⟩
  rw [← hv n]
  by_cases m : n ∈ ys
  · by_cases z : (g n).1 = 0
    · rw [num_out (fun y => by have := (List.mem_filter.mp y).2; simp [z] at this), num_in m, val01, (val_zero (lo n m)).mpr z]
    · rw [num_in (List.mem_filter.mpr ⟨m, by simp [z]⟩), num_in m]
  · rw [num_out m, num_out fun y => m (List.mem_filter.mp y).1]
theorem num_perm {g : Str → Int × Int} {zs ys : List Str} (p : ys.Perm zs) (n : Str) : num g ys n = num g zs n := by
  unfold num
  by_cases m : n ∈ zs
  · rw [if_pos m, if_pos (p.mem_iff.mpr m)]
  · rw [if_neg m, if_neg fun z => m (p.mem_iff.mp z)]
theorem NsOk.pm {zs ys : List Str} (h : NsOk zs) (p : ys.Perm zs) : NsOk ys := h.perm p
end K09
namespace K09
open PySem PySem.Spec PyProof.Rows L2 RatM ClX
theorem BalV.out {v : Str → Rat} {g : Str → Int × Int} {zs : List Str} (h : BalV v g zs) {n : Str} (m : n ∉ zs) : v n = 0 := by rw [← h.val n, num_out m, val01]
theorem mul_by (g : Str → Int × Int) (r : Int × Int) (n : Str) : mulF g r n = byF (g n) r := rfl
/-- n times r -/
theorem BalV.mul {v : Str → Rat} {g : Str → Int × Int} {zs : List Str} {r : Int × Int} (h : BalV v g zs) (hr : r.2 ≠ 0) : BalV (fun n => v n * K09.val r) (mulF g r) (nz (mulF g r) zs) := by
  refine BalV.of h.ok.ns h.ok.so (fun n m => lo_by (h.lo n m).ne hr) fun n => ?_
  by_cases m : n ∈ zs
  · rw [num_in m, mul_by, val_by (h.lo n m).ne hr, h.at_ m]
  · rw [num_out m, val01]
    rw [h.out m, Rat.zero_mul]
theorem joinN_mem {zs zs2 : List Str} {n : Str} : n ∈ joinN zs zs2 ↔ n ∈ zs ∨ n ∈ zs2 := by
  unfold joinN
  rw [List.mem_append, List.mem_filter]
  constructor
  · exact fun z => z.imp id fun z => z.1
  · intro z
    by_cases m : n ∈ zs
    · exact .inl m
    · exact .inr ⟨z.resolve_left m, by simp [m]⟩
/-- one and k times the other -/
theorem BalV.sum {v v2 : Str → Rat} {g g2 : Str → Int × Int} {zs zs2 ys : List Str} {k : Int} (h : BalV v g zs) (h2 : BalV v2 g2 zs2) (ll : zs.length + zs2.length ≤ 60) (p : ys.Perm (joinN zs zs2)) (so : sortedS ys = true) :
    BalV (fun n => v n + v2 n * k) (sumF g zs g2 zs2 k) (nz (sumF g zs g2 zs2 k) ys) := by
  have ne1 : ((k, 1) : Int × Int).2 ≠ 0 := by show (1 : Int) ≠ 0; decide
  have lm : ∀ n ∈ zs2, Lo (mulF g2 (k, 1) n) := fun n m => lo_by (h2.lo n m).ne ne1
  have nl := num_lo h.lo
  have e2 : ∀ n ∈ zs2, sumF g zs g2 zs2 k n = plusF (mulF g2 (k, 1) n) (num g zs n) := fun n m => if_pos m
  have e1 : ∀ n, n ∉ zs2 → sumF g zs g2 zs2 k n = g n := fun n m => if_neg m
  refine BalV.of ((joinN_ok h.ok.ns h2.ok.ns ll).perm p) so (fun n m => ?_) fun n => ?_
  · by_cases m2 : n ∈ zs2
    · rw [e2 n m2]
      exact lo_plus (lm n m2).ne (nl n).ne
    · rw [e1 n m2]
      exact h.lo n ((joinN_mem.mp (p.mem_iff.mp m)).resolve_right m2)
  · rw [num_perm p]
    have z2 : n ∉ zs2 → v2 n = 0 := fun m => h2.out m
    have z1 : n ∉ zs → v n = 0 := fun m => h.out m
    by_cases m2 : n ∈ zs2
    · rw [num_in (joinN_mem.mpr (.inr m2)), e2 n m2, val_plus (lm n m2).ne (nl n).ne, mul_by, val_by (h2.lo n m2).ne ne1, h.val, h2.at_ m2, val_int, Rat.add_comm]
    · rw [z2 m2, Rat.zero_mul, Rat.add_zero]
      by_cases m : n ∈ zs
      · rw [num_in (joinN_mem.mpr (.inl m)), e1 n m2, h.at_ m]
      · rw [num_out fun z => (joinN_mem.mp z).elim m m2, val01, z1 m]
/-- gains and losses -/
theorem BalV.gains {v : Str → Rat} {g : Str → Int × Int} {zs : List Str} (h : BalV v g zs) : BalV (fun n => if 0 < v n then v n else 0) g (zs.filter fun n => decide (0 < (g n).1)) := by
  refine ⟨h.ok.filter _, fun n m => h.lo n (List.mem_filter.mp m).1, fun n => ?_⟩
  by_cases m : n ∈ zs
  · have e := h.at_ m
    by_cases p : 0 < (g n).1
    · rw [num_in (List.mem_filter.mpr ⟨m, decide_eq_true p⟩), e, if_pos (by rw [← e]; exact (val_pos (h.lo n m)).mpr p)]
    · rw [num_out (fun y => p (of_decide_eq_true (List.mem_filter.mp y).2)), val01, if_neg (by rw [← e]; exact fun z => p ((val_pos (h.lo n m)).mp z))]
  · have z : v n = 0 := h.out m
    rw [num_out fun y => m (List.mem_filter.mp y).1, val01, z, if_neg (by decide)]
theorem BalV.losses {v : Str → Rat} {g : Str → Int × Int} {zs : List Str} (h : BalV v g zs) : BalV (fun n => if v n < 0 then -v n else 0) (fun n => (-(g n).1, (g n).2)) (zs.filter fun n => decide ((g n).1 < 0)) := by
  refine ⟨h.ok.neg.filter _, fun n m => lo_neg (h.lo n (List.mem_filter.mp m).1), fun n => ?_⟩
  by_cases m : n ∈ zs
  · have e := h.at_ m
    by_cases p : (g n).1 < 0
    · rw [num_in (List.mem_filter.mpr ⟨m, decide_eq_true p⟩), val_neg, e, if_pos (by rw [← e]; exact (val_lt (h.lo n m)).mpr p)]
    · rw [num_out (fun y => p (of_decide_eq_true (List.mem_filter.mp y).2)), val01, if_neg (by rw [← e]; exact fun z => p ((val_lt (h.lo n m)).mp z))]
  · have z : v n = 0 := h.out m
    rw [num_out fun y => m (List.mem_filter.mp y).1, val01, z, if_neg (by decide)]
end K09
namespace K09
open PySem PySem.Spec PyProof.Rows L2 RatM ClX
/-! ### least terms -/
theorem gcd_step {D L t q : Nat} (hL : 0 < L) (hq : 0 < q) (h1 : Nat.Coprime D L) (h2 : Nat.Coprime t q) : Nat.gcd (D * (Nat.lcm L q / L)) (t * (Nat.lcm L q / q)) = Nat.gcd D t := by
  have gp : 0 < Nat.gcd L q := Nat.gcd_pos_of_pos_left _ hL
  obtain ⟨a, ha⟩ := Nat.gcd_dvd_left L q
  obtain ⟨b, hb⟩ := Nat.gcd_dvd_right L q
  have cop : Nat.Coprime a b := by
    have := Nat.coprime_div_gcd_div_gcd gp
    rwa [Nat.div_eq_of_eq_mul_right gp ha, Nat.div_eq_of_eq_mul_right gp hb] at this
  have e1 : Nat.lcm L q = L * b := by
    unfold Nat.lcm
    refine Nat.div_eq_of_eq_mul_right gp ?_
    generalize Nat.gcd L q = G at ha hb
    rw [hb]
    exact Nat.mul_left_comm _ _ _
  have e2 : Nat.lcm L q = q * a := by
    unfold Nat.lcm
    refine Nat.div_eq_of_eq_mul_right gp ?_
    generalize Nat.gcd L q = G at ha hb
    rw [ha]
    grind
  have d1 : Nat.lcm L q / L = b := by rw [e1]; exact Nat.mul_div_cancel_left _ hL
  have d2 : Nat.lcm L q / q = a := by rw [e2]; exact Nat.mul_div_cancel_left _ hq
  rw [d1, d2]
  have ca : a ∣ L := ⟨Nat.gcd L q, by rw [Nat.mul_comm]; exact ha⟩
  have cb : b ∣ q := ⟨Nat.gcd L q, by rw [Nat.mul_comm]; exact hb⟩
  have k1 : Nat.Coprime D a := Nat.Coprime.coprime_dvd_right ca h1
  have k2 : Nat.Coprime t b := Nat.Coprime.coprime_dvd_right cb h2
  rw [Nat.Coprime.gcd_mul_right_cancel D (Nat.Coprime.mul_right k2.symm cop.symm), Nat.Coprime.gcd_mul_right_cancel_right t k1.symm]
theorem frac_pos {a : Rat} (h : 0 < a) : ∃ x y : Nat, 0 < x ∧ 0 < y ∧ a * (y : Rat) = (x : Rat) := by
  have n0 : 0 ≤ a.num := Rat.num_nonneg.mpr (by grind)
  have n1 : a.num ≠ 0 := fun z => by have := Rat.num_eq_zero.mp z; grind
  refine ⟨a.num.toNat, a.den, by omega, Rat.den_pos _, ?_⟩
  have e := Rat.num_divInt_den a
  rw [Rat.divInt_eq_div] at e
  have h3 : (((a.den : Nat) : Int) : Rat) ≠ 0 := fun z => by
    have := Rat.intCast_eq_zero_iff.mp z
    have := Rat.den_pos a
    omega
  have h4 : ((a.num.toNat : Nat) : Rat) = (a.num : Rat) := by
    show (((a.num.toNat : Nat) : Int) : Rat) = _
    rw [Int.toNat_of_nonneg n0]
  have h5 : ((a.den : Nat) : Rat) = (((a.den : Nat) : Int) : Rat) := rfl
  rw [h4, h5]
  generalize (((a.den : Nat) : Int) : Rat) = d at e h3
  generalize (a.num : Rat) = m at e
  grind
theorem fdiv_abs {t q : Int} {M : Nat} (hq : 0 < q) : (t * (M : Int).fdiv q).natAbs = t.natAbs * (M / q.natAbs) := by
  obtain ⟨k, rfl⟩ : ∃ k : Nat, q = k := ⟨q.toNat, by omega⟩
  rw [fdiv_nat, Int.natAbs_mul, Int.natAbs_natCast, Int.natAbs_natCast]
theorem gcdL_gen {M : Nat} (hM : 0 < M) (g : Str → Int × Int) : ∀ (zs : List Str) (D L : Nat), 0 < L → Nat.Coprime D L → (∀ n ∈ zs, Lo (g n)) → zs.foldl (fun l n => Nat.lcm l (g n).2.natAbs) L ∣ M →
    zs.foldl (fun s n => Nat.gcd s ((g n).1 * (M : Int).fdiv (g n).2).natAbs) (D * (M / L)) = zs.foldl (fun d n => Nat.gcd d (g n).1.natAbs) D * (M / zs.foldl (fun l n => Nat.lcm l (g n).2.natAbs) L)
  | [], D, L, _, _, _, _ => rfl
  | x :: t, D, L, hL, hc, lo, hd => by
    have lx := lo x List.mem_cons_self
    have q0 : 0 < (g x).2.natAbs := by have := lx.1; omega
    have l0 : 0 < Nat.lcm L (g x).2.natAbs := Nat.lcm_pos hL q0
    simp only [List.foldl_cons] at hd ⊢
    have dm : Nat.lcm L (g x).2.natAbs ∣ M := Nat.dvd_trans (lcm_fold_dvd g t _).1 hd
    have cop : Nat.Coprime (g x).1.natAbs (g x).2.natAbs := lx.2
    have c2 : Nat.Coprime (Nat.gcd D (g x).1.natAbs) (Nat.lcm L (g x).2.natAbs) := by
      have a1 : Nat.Coprime (Nat.gcd D (g x).1.natAbs) L := Nat.Coprime.coprime_dvd_left (Nat.gcd_dvd_left _ _) hc
      have a2 : Nat.Coprime (Nat.gcd D (g x).1.natAbs) (g x).2.natAbs := Nat.Coprime.coprime_dvd_left (Nat.gcd_dvd_right _ _) cop
      exact Nat.Coprime.coprime_dvd_right (Nat.lcm_dvd_mul _ _) (Nat.Coprime.mul_right a1 a2)
    have e : Nat.gcd (D * (M / L)) ((g x).1 * (M : Int).fdiv (g x).2).natAbs = Nat.gcd D (g x).1.natAbs * (M / Nat.lcm L (g x).2.natAbs) := by
      rw [fdiv_abs lx.1]
      obtain ⟨k, hk⟩ := dm
      have kl : M / L = (Nat.lcm L (g x).2.natAbs / L) * k := by
        rw [hk, Nat.mul_comm, Nat.mul_div_assoc _ (Nat.dvd_lcm_left _ _), Nat.mul_comm]
      have kq : M / (g x).2.natAbs = (Nat.lcm L (g x).2.natAbs / (g x).2.natAbs) * k := by
        rw [hk, Nat.mul_comm, Nat.mul_div_assoc _ (Nat.dvd_lcm_right _ _), Nat.mul_comm]
      have km : M / Nat.lcm L (g x).2.natAbs = k := by rw [hk]; exact Nat.mul_div_cancel_left _ l0
      rw [kl, kq, km, ← Nat.mul_assoc, ← Nat.mul_assoc, Nat.gcd_mul_right, gcd_step hL q0 hc cop]
    rw [e]
    exact gcdL_gen hM g t _ _ l0 c2 (fun n m => lo n (List.mem_cons_of_mem _ m)) hd
theorem lcmN_pos {g : Str → Int × Int} {zs : List Str} (lo : ∀ n ∈ zs, Lo (g n)) : 0 < lcmN g zs := lcm_fold_pos g zs 1 (by decide) fun n m => (lo n m).1
theorem gcdL_eq {g : Str → Int × Int} {zs : List Str} (lo : ∀ n ∈ zs, Lo (g n)) : gcdL (lcmN g zs) g zs = gcdN g zs := by
  have p := lcmN_pos lo
  have := gcdL_gen p g zs 0 1 (by decide) (by decide) lo (Nat.dvd_refl _)
  rw [Nat.zero_mul] at this
  refine this.trans ?_
  show gcdN g zs * (lcmN g zs / lcmN g zs) = gcdN g zs
  rw [Nat.div_self p, Nat.mul_one]
theorem gcdN_pos {g : Str → Int × Int} {zs : List Str} {n : Str} (m : n ∈ zs) (h : (g n).1 ≠ 0) : 0 < gcdN g zs := Nat.pos_of_dvd_of_pos (gcdN_dvd m) (by omega)
/-- one of the whole numbers -/
theorem leastL_mul {g : Str → Int × Int} {zs : List Str} {n : Str} (lo : ∀ n ∈ zs, Lo (g n)) (m : n ∈ zs) (h : (g n).1 ≠ 0) : (leastL g zs n).1 * ((g n).2 * (gcdN g zs : Nat)) = (g n).1 * (lcmN g zs : Nat) := by
  have gp := gcdN_pos m h
  have q0 := (lo n m).1
  obtain ⟨qn, eqn⟩ : ∃ qn : Nat, (g n).2 = qn := ⟨(g n).2.toNat, by omega⟩
  have dv : qn ∣ lcmN g zs := by
    have := (lcm_fold_dvd g zs 1).2 n m
    rwa [eqn, Int.natAbs_natCast] at this
  have gd : gcdN g zs ∣ ((g n).1 * ((lcmN g zs : Nat) : Int).fdiv (g n).2).natAbs := by rw [← gcdL_eq lo]; exact gcdL_dvd m
  have e1 : (leastL g zs n).1 = ((g n).1 * ((lcmN g zs : Nat) : Int).fdiv (g n).2).fdiv ((gcdN g zs : Nat) : Int) := by
    show ((g n).1 * ((lcmN g zs : Nat) : Int).fdiv (g n).2).fdiv ((gcdL (lcmN g zs) g zs : Nat) : Int) = _
    rw [gcdL_eq lo]
  rw [e1]
  have gd2 : ((gcdN g zs : Nat) : Int) ∣ (g n).1 * ((lcmN g zs : Nat) : Int).fdiv (g n).2 := Int.ofNat_dvd_left.mpr gd
  obtain ⟨u, hu⟩ := gd2
  rw [hu, Int.mul_fdiv_cancel_left _ (by omega)]
  rw [eqn, fdiv_nat] at hu
  obtain ⟨w, hw⟩ := dv
  have : lcmN g zs / qn = w := by rw [hw]; exact Nat.mul_div_cancel_left _ (by omega)
  rw [this] at hu
  rw [eqn, hw, Int.natCast_mul]
  grind
theorem least_eq {g : Str → Int × Int} {zs : List Str} {n : Str} (lo : ∀ n ∈ zs, Lo (g n)) (m : n ∈ zs) (h : (g n).1 ≠ 0) : leastF g zs n = leastL g zs n := by
  have e := leastL_mul lo m h
  have b0 : (g n).2 * (gcdN g zs : Nat) ≠ 0 := Int.mul_ne_zero (lo n m).ne (by have := gcdN_pos m h; omega)
  have le := low_eq (t := (g n).1 * (lcmN g zs : Nat)) (b := (g n).2 * (gcdN g zs : Nat)) (t' := (leastL g zs n).1) (b' := 1) b0 (by decide) (by rw [Int.mul_one]; exact e.symm)
  have sf := low_self (p := (leastL g zs n).1) (q := 1) (by decide) Int.gcd_one
  refine Prod.ext ?_ ?_
  · exact le.1.trans sf.1
  · exact le.2.trans sf.2
/-- the whole numbers w have no common divisor -/
def gcdW (w : Str → Int) (zs : List Str) (d : Nat) : Nat := zs.foldl (fun d n => Nat.gcd d (w n).natAbs) d
theorem gcdW_mul (k : Nat) (w : Str → Int) : ∀ (zs : List Str) (d : Nat), gcdW (fun n => (k : Int) * w n) zs (k * d) = k * gcdW w zs d
  | [], d => rfl
  | x :: t, d => by
    show gcdW _ t (Nat.gcd (k * d) ((k : Int) * w x).natAbs) = k * gcdW w t (Nat.gcd d (w x).natAbs)
    rw [Int.natAbs_mul, Int.natAbs_natCast, Nat.gcd_mul_left]
    exact gcdW_mul k w t _
theorem gcdW_congr {w w' : Str → Int} : ∀ (zs : List Str) (d : Nat), (∀ n ∈ zs, (w n).natAbs = (w' n).natAbs) → gcdW w zs d = gcdW w' zs d
  | [], d, _ => rfl
  | x :: t, d, h => by
    show gcdW w t (Nat.gcd d (w x).natAbs) = gcdW w' t (Nat.gcd d (w' x).natAbs)
    rw [h x List.mem_cons_self]
    exact gcdW_congr t _ fun n m => h n (List.mem_cons_of_mem _ m)
/-- u is v in least terms over the things zs -/
structure LeastV (v u : Str → Rat) (zs : List Str) : Prop where
  ex : ∃ (w : Str → Int) (c : Rat), 0 < c ∧ (∀ n ∈ zs, u n = w n ∧ u n = c * v n) ∧ (zs = [] ∨ gcdW w zs 0 = 1)
  out : ∀ n, n ∉ zs → u n = 0
theorem LeastV.neg {v u : Str → Rat} {zs : List Str} (h : LeastV v u zs) : LeastV (fun n => -v n) (fun n => -u n) zs := by
  obtain ⟨⟨w, c, c0, e, p⟩, out⟩ := h
  refine ⟨⟨fun n => -w n, c, c0, fun n m => ?_, p.imp id fun z => ?_⟩, fun n m => by rw [out n m]; rfl⟩
  · obtain ⟨e1, e2⟩ := e n m
    exact ⟨by rw [e1, Rat.intCast_neg], by rw [e2]; grind⟩
  · rw [← z]
    exact gcdW_congr zs 0 fun n _ => Int.natAbs_neg _
theorem LeastV.self {v u : Str → Rat} {zs : List Str} (h : LeastV v u zs) : LeastV u u zs := by
  obtain ⟨⟨w, c, c0, e, p⟩, out⟩ := h
  exact ⟨⟨w, 1, by decide, fun n m => ⟨(e n m).1, by grind⟩, p⟩, out⟩
theorem LeastV.uniq {v u v' u' : Str → Rat} {zs : List Str} {k : Rat} (h : LeastV v u zs) (h' : LeastV v' u' zs) (k0 : 0 < k) (e : ∀ n ∈ zs, v' n = k * v n) : ∀ n, u n = u' n := by
  obtain ⟨⟨w, c, c0, ew, p⟩, out⟩ := h
  obtain ⟨⟨w', c', c0', ew', p'⟩, out'⟩ := h'
  intro n
  by_cases m : n ∈ zs
  · have zn : zs ≠ [] := fun z => by rw [z] at m; cases m
    have p := p.resolve_left zn
    have p' := p'.resolve_left zn
    -- the factor
    have rk : ∀ n ∈ zs, (w' n : Rat) * c = (c' * k) * w n := fun n m => by
      obtain ⟨a1, a2⟩ := ew n m
      obtain ⟨b1, b2⟩ := ew' n m
      have := e n m
      rw [← a1, ← b1, a2, b2, this]
      grind
    have fk : ∃ x y : Nat, 0 < x ∧ 0 < y ∧ (c' * k) * (y : Rat) = c * (x : Rat) := by
      obtain ⟨x1, y1, a1, a2, a3⟩ := frac_pos (Rat.mul_pos c0' k0)
      obtain ⟨x2, y2, b1, b2, b3⟩ := frac_pos c0
      refine ⟨x1 * y2, x2 * y1, Nat.mul_pos a1 b2, Nat.mul_pos b1 a2, ?_⟩
      rw [Rat.natCast_mul, Rat.natCast_mul]
      grind
    obtain ⟨x, y, x0, y0, exy⟩ := fk
    have wi : ∀ n ∈ zs, (y : Int) * w' n = (x : Int) * w n := fun n m => by
      have r := rk n m
      have : ((y : Int) : Rat) * (w' n : Rat) = ((x : Int) : Rat) * (w n : Rat) := by
        have y1 : (((y : Int)) : Rat) = (y : Rat) := rfl
        have x1 : (((x : Int)) : Rat) = (x : Rat) := rfl
        rw [y1, x1]
        have cn : c ≠ 0 := by grind
        have : c * ((y : Rat) * (w' n : Rat)) = c * ((x : Rat) * (w n : Rat)) := by grind
        grind
      rw [← Rat.intCast_mul, ← Rat.intCast_mul] at this
      exact Rat.intCast_inj.mp this
    have g1 := gcdW_mul y w' zs 0
    have g2 := gcdW_mul x w zs 0
    rw [Nat.mul_zero, p', Nat.mul_one] at g1
    rw [Nat.mul_zero, p, Nat.mul_one] at g2
    have gg := gcdW_congr (w := fun n => (y : Int) * w' n) (w' := fun n => (x : Int) * w n) zs 0 fun n m => by rw [wi n m]
    have xy : y = x := by rw [← g1, ← g2]; exact gg
    subst xy
    have := wi n m
    have ww : w' n = w n := Int.eq_of_mul_eq_mul_left (by omega) this
    rw [(ew n m).1, (ew' n m).1, ww]
  · rw [out n m, out' n m]
end K09
namespace K09
open PySem PySem.Spec PyProof.Rows L2 RatM ClX
theorem leastL_x {g : Str → Int × Int} {zs : List Str} {n : Str} (lo : ∀ n ∈ zs, Lo (g n)) (m : n ∈ zs) (h : (g n).1 ≠ 0) : (g n).1 * ((lcmN g zs : Nat) : Int).fdiv (g n).2 = (gcdN g zs : Nat) * (leastL g zs n).1 := by
  have gp := gcdN_pos m h
  have gd : gcdN g zs ∣ ((g n).1 * ((lcmN g zs : Nat) : Int).fdiv (g n).2).natAbs := by rw [← gcdL_eq lo]; exact gcdL_dvd m
  have e1 : (leastL g zs n).1 = ((g n).1 * ((lcmN g zs : Nat) : Int).fdiv (g n).2).fdiv ((gcdN g zs : Nat) : Int) := by
    show ((g n).1 * ((lcmN g zs : Nat) : Int).fdiv (g n).2).fdiv ((gcdL (lcmN g zs) g zs : Nat) : Int) = _
    rw [gcdL_eq lo]
  rw [e1]
  have gd2 : ((gcdN g zs : Nat) : Int) ∣ (g n).1 * ((lcmN g zs : Nat) : Int).fdiv (g n).2 := Int.ofNat_dvd_left.mpr gd
  obtain ⟨u, hu⟩ := gd2
  rw [hu, Int.mul_fdiv_cancel_left _ (by omega)]
theorem foldG {w : Str → Int} {G : Nat} {x : Str → Int} : ∀ (zs : List Str) (d : Nat), (∀ n ∈ zs, x n = (G : Int) * w n) → zs.foldl (fun s n => Nat.gcd s (x n).natAbs) (G * d) = G * gcdW w zs d
  | [], d, _ => rfl
  | y :: t, d, h => by
    show t.foldl _ (Nat.gcd (G * d) (x y).natAbs) = G * gcdW w t (Nat.gcd d (w y).natAbs)
    rw [h y List.mem_cons_self, Int.natAbs_mul, Int.natAbs_natCast, Nat.gcd_mul_left]
    exact foldG t _ fun n m => h n (List.mem_cons_of_mem _ m)
/-- in least terms -/
theorem BalV.least {v : Str → Rat} {g : Str → Int × Int} {zs : List Str} (h : BalV v g zs) :
    ∃ u, BalV u (leastF g zs) zs ∧ LeastV v u zs ∧ PlV u (leastL g zs) zs ∧ nz (leastF g zs) zs = zs ∧ ∀ n ∈ zs, leastF g zs n = leastL g zs n := by
  have eq : ∀ n ∈ zs, leastF g zs n = leastL g zs n := fun n m => least_eq h.lo m (h.ok.ne n m)
  have lo1 : ∀ n ∈ zs, Lo (leastL g zs n) := fun n m => lo_int _
  have v1 : ∀ n, K09.val (leastL g zs n) = ((leastL g zs n).1 : Rat) := fun n => val_int _
  have ne : ∀ n ∈ zs, (leastL g zs n).1 ≠ 0 := fun n m z => by
    have := leastL_mul h.lo m (h.ok.ne n m)
    rw [z, Int.zero_mul] at this
    have l0 := lcmN_pos h.lo
    exact Int.mul_ne_zero (h.ok.ne n m) (by omega) this.symm
  have nzs : nz (leastF g zs) zs = zs := List.filter_eq_self.mpr fun n m => by simp [eq n m, ne n m]
  refine ⟨fun n => K09.val (num (leastL g zs) zs n), ?_, ⟨?_, fun n m => by rw [num_out m, val01]⟩, ⟨h.ok.ns.nd, lo1, fun n => rfl⟩, nzs, eq⟩
  · refine ⟨⟨h.ok.ns, h.ok.so, fun n m => by rw [eq n m]; exact ne n m⟩, fun n m => by rw [eq n m]; exact lo1 n m, fun n => ?_⟩
    by_cases m : n ∈ zs
    · rw [num_in m, num_in m, eq n m]
    · rw [num_out m, num_out m]
  · by_cases z : zs = []
    · exact ⟨fun _ => 0, 1, by decide, (fun n m => by rw [z] at m; cases m), .inl z⟩
    · obtain ⟨n0, m0⟩ := List.exists_mem_of_ne_nil zs z
      have gp := gcdN_pos m0 (h.ok.ne n0 m0)
      have lp := lcmN_pos h.lo
      have gq : (0 : Rat) < ((gcdN g zs : Nat) : Int) := Rat.intCast_pos.mpr (by omega)
      have lq : (0 : Rat) < ((lcmN g zs : Nat) : Int) := Rat.intCast_pos.mpr (by omega)
      refine ⟨fun n => (leastL g zs n).1, ((lcmN g zs : Nat) : Int) * (((gcdN g zs : Nat) : Int) : Rat)⁻¹, Rat.mul_pos lq (Rat.inv_pos.mpr gq), fun n m => ⟨by rw [num_in m, v1], ?_⟩, .inr ?_⟩
      · rw [num_in m, v1, ← h.at_ m]
        have e := leastL_mul h.lo m (h.ok.ne n m)
        have q0 := (h.lo n m).ne
        unfold K09.val
        rw [Rat.divInt_eq_div]
        have e2 : ((leastL g zs n).1 : Rat) * (((g n).2 : Rat) * (((gcdN g zs : Nat) : Int) : Rat)) = ((g n).1 : Rat) * (((lcmN g zs : Nat) : Int) : Rat) := by
          rw [← Rat.intCast_mul, ← Rat.intCast_mul, ← Rat.intCast_mul, e]
        have q1 : ((g n).2 : Rat) ≠ 0 := fun z => q0 (Rat.intCast_eq_zero_iff.mp z)
        have g1 : (((gcdN g zs : Nat) : Int) : Rat) ≠ 0 := by grind
        generalize (((gcdN g zs : Nat) : Int) : Rat) = G at e2 g1 ⊢
        generalize (((lcmN g zs : Nat) : Int) : Rat) = L at e2 ⊢
        generalize ((g n).1 : Rat) = t at e2 ⊢
        generalize ((g n).2 : Rat) = q at e2 q1 ⊢
        generalize ((leastL g zs n).1 : Rat) = w at e2 ⊢
        grind
      · have f := foldG (w := fun n => (leastL g zs n).1) (G := gcdN g zs) (x := fun n => (g n).1 * ((lcmN g zs : Nat) : Int).fdiv (g n).2) zs 0 fun n m => leastL_x h.lo m (h.ok.ne n m)
        rw [Nat.mul_zero] at f
        have f2 : gcdL (lcmN g zs) g zs = gcdN g zs * gcdW (fun n => (leastL g zs n).1) zs 0 := f
        rw [gcdL_eq h.lo] at f2
        have : gcdN g zs * 1 = gcdN g zs * gcdW (fun n => (leastL g zs n).1) zs 0 := by rw [Nat.mul_one]; exact f2
        exact (Nat.eq_of_mul_eq_mul_left gp this).symm
end K09
namespace K09
open PySem PySem.Spec PyProof.Rows L2 RatM ClX
/-- a balance with the numbers v, of the things zs, its numbers below 2 ^ B over 2 ^ b -/
def BX (H : Hp) (a CB C : Addr) (v : Str → Rat) (zs : List Str) (B b : Nat) : Prop := ∃ g, BalAt H a CB C g zs ∧ BalV v g zs ∧ ∀ n ∈ zs, (g n).1.natAbs < 2 ^ B ∧ (g n).2.natAbs < 2 ^ b
section
variable {H H' : Hp} {a b d CB C : Addr} {v v2 : Str → Rat} {zs zs2 : List Str} {B c B2 c2 : Nat}
theorem BX.same (h : BX H a CB C v zs B c) (s : Same H H') : BX H' a CB C v zs B c := by
  obtain ⟨g, h1, h2, h3⟩ := h
  exact ⟨g, h1.same s, h2, h3⟩
theorem BX.ins (h : BX H a CB C v zs B c) : InsAt H a CB := by
  obtain ⟨g, ⟨dx, nd, tp, kt, e, _⟩, _⟩ := h
  exact ⟨dx, _, e⟩
theorem BX.up (h : BX H a CB C v zs B c) (h1 : B ≤ B2) (h2 : c ≤ c2) : BX H a CB C v zs B2 c2 := by
  obtain ⟨g, a1, a2, a3⟩ := h
  exact ⟨g, a1, a2, fun n m => ⟨Nat.lt_of_lt_of_le (a3 n m).1 (Nat.pow_le_pow_right (by decide) h1), Nat.lt_of_lt_of_le (a3 n m).2 (Nat.pow_le_pow_right (by decide) h2)⟩⟩
theorem bxLo {g : Str → Int × Int} (h : BalV v g zs) (z : ∀ n ∈ zs, (g n).1.natAbs < 2 ^ B ∧ (g n).2.natAbs < 2 ^ c) (hB : B ≤ B2) (hc : c ≤ B2) : BalLo B2 g zs :=
  ⟨fun n m => h.lo n m, fun n m => ⟨Nat.lt_of_lt_of_le (z n m).1 (Nat.pow_le_pow_right (by decide) hB), Nat.lt_of_lt_of_le (z n m).2 (Nat.pow_le_pow_right (by decide) hc)⟩⟩
theorem low_szT {t q : Int} {k : Nat} (hq : q ≠ 0) (h : t.natAbs < 2 ^ k) : (lowT t q).natAbs < 2 ^ k := Nat.lt_of_le_of_lt (lowT_le hq) h
theorem low_szB {t q : Int} {k : Nat} (hq : q ≠ 0) (h : q.natAbs < 2 ^ k) : (lowB t q).natAbs < 2 ^ k := Nat.lt_of_le_of_lt (lowB_le hq) h
/-- how great what is multiplied is -/
theorem by_sz {x y : Int × Int} {i j k l : Nat} (hx : x.1.natAbs < 2 ^ i ∧ x.2.natAbs < 2 ^ j) (hy : y.1.natAbs < 2 ^ k ∧ y.2.natAbs < 2 ^ l) (x0 : x.2 ≠ 0) (y0 : y.2 ≠ 0) : (byF x y).1.natAbs < 2 ^ (i + k) ∧ (byF x y).2.natAbs < 2 ^ (j + l) :=
  ⟨low_szT (Int.mul_ne_zero x0 y0) (wide_lt hx.1 hy.1), low_szB (Int.mul_ne_zero x0 y0) (wide_lt hx.2 hy.2)⟩
theorem plus_sz {x y : Int × Int} {i j k l : Nat} (hx : x.1.natAbs < 2 ^ i ∧ x.2.natAbs < 2 ^ j) (hy : y.1.natAbs < 2 ^ k ∧ y.2.natAbs < 2 ^ l) (x0 : x.2 ≠ 0) (y0 : y.2 ≠ 0) : (plusF x y).1.natAbs < 2 ^ (i + k + j + l + 1) ∧ (plusF x y).2.natAbs < 2 ^ (j + l) := by
  refine ⟨low_szT (Int.mul_ne_zero x0 y0) ?_, low_szB (Int.mul_ne_zero x0 y0) (wide_lt hx.2 hy.2)⟩
  have m1 : (x.1 * y.2).natAbs < 2 ^ (i + l) := wide_lt hx.1 hy.2
  have m2 : (y.1 * x.2).natAbs < 2 ^ (k + j) := wide_lt hy.1 hx.2
  have p1 : 2 ^ (i + l) ≤ 2 ^ (i + k + j + l) := Nat.pow_le_pow_right (by decide) (by omega)
  have p2 : 2 ^ (k + j) ≤ 2 ^ (i + k + j + l) := Nat.pow_le_pow_right (by decide) (by omega)
  have ad := Int.natAbs_add_le (x.1 * y.2) (y.1 * x.2)
  rw [Nat.pow_succ]
  omega
theorem BX.sum {k : Int} {Q : VK} {E : XK} (h : BX H a CB C v zs B c) (h2 : BX H b CB C v2 zs2 B2 c2) (hB : B ≤ 900 ∧ c ≤ 900 ∧ B2 ≤ 900 ∧ c2 ≤ 900) (ll : zs.length + zs2.length ≤ 60) (hk : k = 1 ∨ k = -1)
    (kk : ∀ a' zs' H', Same H H' → zs'.length ≤ zs.length + zs2.length → BX H' a' CB C (fun n => v n + v2 n * k) zs' (B2 + B + c2 + c + 1) (c2 + c) → Q (.ref a') H') : spAddB CB C k [.ref a, .ref b] H Q E := by
  obtain ⟨g, h1, hv, hz⟩ := h
  obtain ⟨g2, h3, hv2, hz2⟩ := h2
  refine ⟨.ref a, .ref b, rfl, a, b, g, g2, zs, zs2, k, rfl, h1, h3, hv.ok, hv2.ok, bxLo hv hz hB.1 hB.2.1, bxLo hv2 hz2 hB.2.2.1 hB.2.2.2, ll, hk, fun a' ys H' s py sy hb => ?_⟩
  have V := hv.sum (k := k) hv2 ll py sy
  refine kk a' _ H' s ?_ ⟨_, hb, V, fun n m => ?_⟩
  · refine Nat.le_trans (List.length_filter_le _ _) ?_
    rw [py.length_eq]
    unfold joinN
    rw [List.length_append]
    have := List.length_filter_le (fun n => !decide (n ∈ zs)) zs2
    omega
  · have mj := joinN_mem.mp (py.mem_iff.mp (List.mem_filter.mp m).1)
    have nsz : (num g zs n).1.natAbs < 2 ^ B ∧ (num g zs n).2.natAbs < 2 ^ c ∨ (num g zs n) = (0, 1) := by
      by_cases mz : n ∈ zs
      · rw [num_in mz]; exact .inl (hz n mz)
      · exact .inr (num_out mz)
    by_cases m2 : n ∈ zs2
    · have e : sumF g zs g2 zs2 k n = plusF (byF (g2 n) (k, 1)) (num g zs n) := if_pos m2
      have l2 := hv2.lo n m2
      have msz : (byF (g2 n) (k, 1)).1.natAbs < 2 ^ B2 ∧ (byF (g2 n) (k, 1)).2.natAbs < 2 ^ c2 := by
        refine ⟨low_szT (Int.mul_ne_zero l2.ne (show (1 : Int) ≠ 0 by decide)) ?_, low_szB (Int.mul_ne_zero l2.ne (show (1 : Int) ≠ 0 by decide)) ?_⟩
        · rw [Int.natAbs_mul]
          have := (hz2 n m2).1
          rcases hk with rfl | rfl <;> simpa using this
        · rw [Int.natAbs_mul]
          simpa using (hz2 n m2).2
      have lb := lo_by (x := g2 n) (y := (k, 1)) l2.ne (show (1 : Int) ≠ 0 by decide)
      rw [e]
      rcases nsz with z | z
      · exact plus_sz msz z lb.ne (num_lo hv.lo n).ne
      · rw [z]
        have pz : plusF (byF (g2 n) (k, 1)) (0, 1) = byF (g2 n) (k, 1) := lo_ext (lo_plus lb.ne (by decide)) lb (by rw [val_plus lb.ne (by decide), val01]; grind)
        rw [pz]
        exact ⟨Nat.lt_of_lt_of_le msz.1 (Nat.pow_le_pow_right (by decide) (by omega)), Nat.lt_of_lt_of_le msz.2 (Nat.pow_le_pow_right (by decide) (by omega))⟩
    · have e : sumF g zs g2 zs2 k n = g n := if_neg m2
      have mz := mj.resolve_right m2
      rw [e]
      exact ⟨Nat.lt_of_lt_of_le (hz n mz).1 (Nat.pow_le_pow_right (by decide) (by omega)), Nat.lt_of_lt_of_le (hz n mz).2 (Nat.pow_le_pow_right (by decide) (by omega))⟩
theorem BX.times {y : V} {r : Int × Int} {i j : Nat} {Q : VK} {E : XK} (h : BX H a CB C v zs B c) (hB : B ≤ 1900 ∧ c ≤ 1900) (hy : NumAt H C y r.1 r.2) (rz : r.1.natAbs < 2 ^ i ∧ r.2.natAbs < 2 ^ j) (hi : i ≤ 1900 ∧ j ≤ 1900) (r0 : r.2 ≠ 0)
    (kk : ∀ a' zs' H', Same H H' → zs'.length ≤ zs.length → (val r ≠ 0 → zs' = zs) → BX H' a' CB C (fun n => v n * val r) zs' (B + i) (c + j) → Q (.ref a') H') : spTimes CB C [.ref a, y] H Q E := by
  obtain ⟨g, h1, hv, hz⟩ := h
  refine ⟨a, y, g, zs, r, rfl, h1, hv.ok, bxLo hv hz hB.1 hB.2, hy, sz_of rz.1 hi.1, sz_of rz.2 hi.2, r0, fun a' H' s hb => ?_⟩
  have V := hv.mul r0
  refine kk a' _ H' s (List.length_filter_le _ _) (fun rn => ?_) ⟨_, hb, V, fun n m => by_sz (hz n (List.mem_filter.mp m).1) rz (hv.lo n (List.mem_filter.mp m).1).ne r0⟩
  refine sorted_unique V.ok.so hv.ok.so ((List.perm_ext_iff_of_nodup V.ok.ns.nd hv.ok.ns.nd).mpr fun n => ?_)
  rw [V.mem, hv.mem]
  constructor
  · intro z e
    exact z (by rw [e, Rat.zero_mul])
  · intro z e
    rcases Rat.mul_eq_zero.mp e with w | w
    · exact z w
    · exact rn w
theorem val_m1 : val (-1, 1) = -1 := by rw [val_int]; rfl
theorem BX.neg {Q : VK} {E : XK} (h : BX H a CB C v zs B c) (hB : B ≤ 1900 ∧ c ≤ 1900)
    (kk : ∀ a' H', Same H H' → BX H' a' CB C (fun n => -v n) zs (B + 1) (c + 1) → Q (.ref a') H') : spNegB CB C [.ref a] H Q E := by
  refine ⟨.ref a, rfl, h.times (y := .int (-1)) (r := (-1, 1)) (i := 1) (j := 1) hB (.inr ⟨rfl, rfl, by decide⟩) ⟨by decide, by decide⟩ ⟨by decide, by decide⟩ (by decide) fun a' zs' H' s l z hb => ?_⟩
  have e := z (by rw [val_m1]; decide)
  subst e
  refine kk a' H' s ?_
  obtain ⟨g, a1, a2, a3⟩ := hb
  refine ⟨g, a1, ⟨a2.ok, a2.lo, fun n => ?_⟩, a3⟩
  rw [a2.val, val_m1]
  grind
theorem BX.eq {Q : VK} {E : XK} (h : BX H a CB C v zs B c) (h2 : BX H b CB C v2 zs2 B2 c2) (e : ∀ n, v n = v2 n) (q : Q (.bl true) H) : spEqB CB C [.ref a, .ref b] H Q E := by
  obtain ⟨g, h1, hv, hz⟩ := h
  obtain ⟨g2, h3, hv2, hz2⟩ := h2
  obtain ⟨rfl, eg⟩ := hv.same hv2 e
  refine ⟨a, b, g, g2, zs, zs, rfl, h1, h3, hv.ok.ns, hv2.ok.ns, ?_⟩
  rw [eqv_key (fun n m => (hv.ok.ns.nm n m).2) eg]
  exact q
theorem BX.least {Q : VK} {E : XK} (h : BX H a CB C v zs B c) (hB : B ≤ 900) (hc : c ≤ 12) (l4 : zs.length ≤ 4)
    (kk : ∀ a' u H', Same H H' → BX H' a' CB C u zs (B + 64) 1 → LeastV v u zs → Q (.ref a') H') : spLeast CB C [.ref a] H Q E := by
  obtain ⟨g, h1, hv, hz⟩ := h
  have q12 : ∀ n ∈ zs, (g n).2.natAbs < 2 ^ 12 := fun n m => Nat.lt_of_lt_of_le (hz n m).2 (Nat.pow_le_pow_right (by decide) hc)
  refine ⟨a, g, zs, rfl, h1, hv.ok, bxLo hv hz hB (by omega), l4, q12, fun a' H' s hb => ?_⟩
  obtain ⟨u, V, L, _, nzs, eq⟩ := hv.least
  rw [nzs] at hb
  refine kk a' u H' s ⟨_, hb, V, fun n m => ?_⟩ L
  have b0 : (g n).2 * (gcdN g zs : Nat) ≠ 0 := Int.mul_ne_zero (hv.lo n m).ne (by have := gcdN_pos m (hv.ok.ne n m); omega)
  refine ⟨low_szT b0 (wide_lt (hz n m).1 ?_), ?_⟩
  · rw [Int.natAbs_natCast]
    have := lcmN_lt q12 l4 zs.length
    rwa [List.take_length] at this
  · rw [eq n m]
    show (1 : Int).natAbs < 2 ^ 1
    decide
theorem tx_len {x : Int × Int} (h1 : x.1.natAbs < 2 ^ 1000) (h2 : x.2.natAbs < 2 ^ 1000) : (textR x.1 x.2).length ≤ 1000 := by
  have len : ∀ {p : Int}, p.natAbs < 2 ^ 1000 → (Str.ofString (toString p)).length ≤ 401 := fun {p} h => by
    rw [PySem.ofString_length]
    exact int_text_length_le10 (k := 400) (by decide) (Nat.lt_trans h (by decide +kernel))
  unfold textR
  by_cases e : x.2 = 1
  · rw [if_pos e]
    exact Nat.le_trans (len h1) (by decide)
  · rw [if_neg e, strLen_append, strLen_append]
    have a1 := len h1
    have a2 := len h2
    have a3 : (Str.ofString "/").length = 1 := rfl
    omega
end
theorem RatAt.keep {H H' : Hp} {C a t c : Addr} {cells : List Int} {i g p q : Int} (h : RatAt H a C p q) (hT : Till H t c cells i g) (k : Keep t H H') : RatAt H' a C p q := by
  obtain ⟨dx, e⟩ := h
  exact ⟨dx, k a _ (fun z => by rw [z, hT.ht] at e; cases e) e⟩
theorem NumAt.keep {H H' : Hp} {C t c : Addr} {cells : List Int} {i g p q : Int} {x : V} (h : NumAt H C x p q) (hT : Till H t c cells i g) (k : Keep t H H') : NumAt H' C x p q := h.imp (fun ⟨a, e, r⟩ => ⟨a, e, r.keep hT k⟩) id
theorem BalV.congr {v : Str → Rat} {g g2 : Str → Int × Int} {zs : List Str} (h : BalV v g zs) (e : ∀ n ∈ zs, g n = g2 n) : BalV v g2 zs := by
  refine ⟨⟨h.ok.ns, h.ok.so, fun n m => by rw [← e n m]; exact h.ok.ne n m⟩, fun n m => by rw [← e n m]; exact h.lo n m, fun n => ?_⟩
  rw [← h.val n]
  by_cases m : n ∈ zs
  · rw [num_in m, num_in m, e n m]
  · rw [num_out m, num_out m]
theorem BX.gains {H : Hp} {a CB C : Addr} {v : Str → Rat} {zs : List Str} {B c : Nat} {Q : VK} {E : XK} (h : BX H a CB C v zs B c)
    (kk : ∀ a' zs' H', Same H H' → zs'.length ≤ zs.length → BX H' a' CB C (fun n => if 0 < v n then v n else 0) zs' B c → Q (.ref a') H') : spGains CB C [.ref a] H Q E := by
  obtain ⟨g, h1, hv, hz⟩ := h
  exact ⟨a, g, zs, rfl, h1, hv.ok, fun a' H' s hb => kk a' _ H' s (List.length_filter_le _ _) ⟨g, hb, hv.gains, fun n m => hz n (List.mem_filter.mp m).1⟩⟩
theorem BX.losses {H : Hp} {a CB C : Addr} {v : Str → Rat} {zs : List Str} {B c : Nat} {Q : VK} {E : XK} (h : BX H a CB C v zs B c) (hB : B ≤ 1900 ∧ c ≤ 1900)
    (kk : ∀ a' zs' H', Same H H' → zs'.length ≤ zs.length → BX H' a' CB C (fun n => if v n < 0 then -v n else 0) zs' B c → Q (.ref a') H') : spLosses CB C [.ref a] H Q E := by
  obtain ⟨g, h1, hv, hz⟩ := h
  exact ⟨a, g, zs, rfl, h1, hv.ok, bxLo hv hz hB.1 hB.2, fun a' H' s hb => kk a' _ H' s (List.length_filter_le _ _) ⟨_, hb, hv.losses, fun n m => by
    have := hz n (List.mem_filter.mp m).1
    exact ⟨by show (-(g n).1).natAbs < _; rw [Int.natAbs_neg]; exact this.1, this.2⟩⟩⟩
theorem Till.notLst {H : Hp} {t c b : Addr} {cells : List Int} {i g : Int} {o : HO} (h : Till H t c cells i g) (e : H b = some o) (n : ∀ xs, o ≠ .lst xs) : b ≠ t := fun z => by
  rw [z, h.ht] at e
  injection e with e
  exact n _ e.symm
theorem BX.keep {H H' : Hp} {a CB C t c : Addr} {cells : List Int} {i g : Int} {v : Str → Rat} {zs : List Str} {B b : Nat} (h : BX H a CB C v zs B b) (hT : Till H t c cells i g) (k : Keep t H H') : BX H' a CB C v zs B b := by
  obtain ⟨g, ⟨dx, nd, tp, kt, e, ⟨kvs, e1, r⟩, e2, e3⟩, h2, h3⟩ := h
  have kp : ∀ {b : Addr} {o : HO}, H b = some o → (∀ xs, o ≠ .lst xs) → H' b = some o := fun e n => k _ _ (hT.notLst e n) e
  exact ⟨g, ⟨dx, nd, tp, kt, kp e (fun _ z => by cases z), ⟨kvs, kp e1 (fun _ z => by cases z), Paired.mono' (fun _ _ ⟨x1, b', x2, x3⟩ => ⟨x1, b', x2, x3.keep hT k⟩) r⟩, kp e2 (fun _ z => by cases z), kp e3 (fun _ z => by cases z)⟩, h2, h3⟩
theorem BX.at_ {H : Hp} {a CB C : Addr} {v : Str → Rat} {zs : List Str} {B b : Nat} (h : BX H a CB C v zs B b) : ∃ dx nd tp kt x, H a = some (.ins CB dx (balF nd tp kt x)) := by
  obtain ⟨g, ⟨dx, nd, tp, kt, e, _⟩, _⟩ := h
  exact ⟨dx, nd, tp, kt, _, e⟩
theorem nilI {σ : L2.St} {H : Hp} {f : List V → Hp → Prop} (h : f [] H) : tNil σ H f := h
theorem Same.keep {t : Addr} {H H' : Hp} (s : Same H H') : Keep t H H' := fun b o _ e => s b o e
end K09
namespace K09
open PySem PySem.Spec PyProof.Rows L2 RatM ClX
/-- the operators and methods of balances, as the others call them -/
structure BopK (P : Program) (w : World) (K : PySem.W.Frag) (mg : Str → Option Value) (base : Heap) (CB C BR : Addr) : Prop where
  O : OpsK P w K mg base CB C BR
  tyB : ∀ (H : Hp) (a : Addr) g zs, BalAt H a CB C g zs → TyX K H (.ref a) (.ref CB)
  cc : PySem.W.kitOne K (.ref CB) (.ref CB) = some true
  T : Blt mg
  tup : mg "tuple" = none
  str : mg "str" = none
  dict : mg "dict" = none
  list : mg "list" = none
  strB : ∃ (f : Addr) (fd : FuncData), OwnM K CB "__str__" f ∧ FnOk P w K mg base CX0 7 f fd ["self"] (spBalT CB C) ∧ Binds K fd ["self"] []
  fmB : PySem.W.findIn K (.ref CB) "__format__" = some (some (.builtin "object.__format__"))
  moB : PySem.W.mroIn K CB (.type "object") = some true
  sfB : PySem.W.selfFirst K CB = true
  rmB : PySem.W.findIn K (.ref CB) (dunderR Operator.Mult.info.2) = some none
  rmC : PySem.W.findIn K (.ref C) (dunderR Operator.Mult.info.2) = some none
  sub : PySem.W.subIn K (.ref C) (.ref CB) = some false
  rt : RightT K CB Operator.Mult.info.2 "int"
  nf : PySem.W.notFirst K CB (.ref CB) = true
  ne : PySem.W.findIn K (.ref CB) "__ne__" = some (some (.builtin "object.__ne__"))
  ob : PySem.W.subIn K (.ref CB) (.type "object") = some true
  add : ∃ (f : Addr) (fd : FuncData), OwnM K CB (PySem.dunder Operator.Add.info.2) f ∧ FnOk P w K mg base (L2.CX P w) 11 f fd ["self", "other"] (spAddB CB C 1) ∧ Binds K fd ["self", "other"] []
  sub2 : ∃ (f : Addr) (fd : FuncData), OwnM K CB (PySem.dunder Operator.Sub.info.2) f ∧ FnOk P w K mg base (L2.CX P w) 11 f fd ["self", "other"] (spAddB CB C (-1)) ∧ Binds K fd ["self", "other"] []
  mul : ∃ (f : Addr) (fd : FuncData), OwnM K CB (PySem.dunder Operator.Mult.info.2) f ∧ FnOk P w K mg base (L2.CX P w) 11 f fd ["self", "other"] (spMulB CB C) ∧ Binds K fd ["self", "other"] []
  mulC : ∃ f : Addr, OwnM K C (PySem.dunder Operator.Mult.info.2) f
  neg : ∃ (f : Addr) (fd : FuncData), OwnM K CB "__neg__" f ∧ FnOk P w K mg base (L2.CX P w) 11 f fd ["self"] (spNegB CB C) ∧ Binds K fd ["self"] []
  eq : ∃ (f : Addr) (fd : FuncData), OwnM K CB "__eq__" f ∧ FnOk P w K mg base CX0 1 f fd ["self", "other"] (spEqB CB C) ∧ Binds K fd ["self", "other"] []
  least : ∃ (f : Addr) (fd : FuncData), Meth K CB "least" f ∧ FnOk P w K mg base CX0 10 f fd ["self"] (spLeast CB C) ∧ Binds K fd ["self"] []
  gains : ∃ (f : Addr) (fd : FuncData), Meth K CB "gains" f ∧ FnOk P w K mg base CX0 10 f fd ["self"] (spGains CB C) ∧ Binds K fd ["self"] []
  losses : ∃ (f : Addr) (fd : FuncData), Meth K CB "losses" f ∧ FnOk P w K mg base CX0 10 f fd ["self"] (spLosses CB C) ∧ Binds K fd ["self"] []
  ratNeg : ∃ (f : Addr) (fd : FuncData), OwnM K C "__neg__" f ∧ FnOk P w K mg base (L2.CX P w) 5 f fd ["self"] (spSelf K C fun p => -p) ∧ Binds K fd ["self"] []
/-- the first thing, in order, is gained -/
def upV (v : Str → Rat) : List Str → Str → Rat
  | [], n => v n
  | z :: _, n => if v z < 0 then -v n else v n
theorem valIn {v : Str → Rat} {zs : List Str} {g : Str → Int × Int} (hv : BalV v g zs) {n : Str} (m : n ∈ zs) : val (g n) = v n := by
  have := hv.val n
  rwa [num_in m] at this
def spGaining (CB C : Addr) : Sp := fun vs H Q _ => ∃ (a : Addr) (v : Str → Rat) (zs : List Str) (B c : Nat), vs = [.ref a] ∧ BX H a CB C v zs B c ∧ B ≤ 1900 ∧ c ≤ 1900 ∧ zs ≠ [] ∧ ∀ a' H', Same H H' → BX H' a' CB C (upV v zs) zs (B + 1) (c + 1) → Q (.ref a') H'
section
variable {P : Program} {w : World} {K : PySem.W.Frag} {mg : Str → Option Value} {base : Heap} {C BR CB BB : Addr}
theorem scGa : FnScope ["balance"] ["balance"] (defScope (top 72)) := ⟨rfl, rfl, rfl, by decide +kernel, rfl, by decide +kernel, by decide +kernel⟩
theorem ok_gaining {f : Addr} {fd : FuncData} (F : FnP K "_gaining" (top 72) f fd) (W : BopK P w K mg base CB C BR) :
    FnOk P w K mg base CX0 12 f fd ["balance"] (spGaining CB C) := by
  obtain ⟨fM, fdM, MN, GM, bM⟩ := W.O.num
  obtain ⟨fN, fdN, MNe, GN, bN⟩ := W.neg
  have B := W.O.B
  have R := W.O.R
  refine F.ok scGa (fun vs H Q E h => ?_) (fun cdv A outer s H vs Q E hr h => ?_)
  · obtain ⟨a, v, zs, b, c, rfl, _⟩ := h
    rfl
  · obtain ⟨a, v, zs, b, c, rfl, hb, hB, hc, zn, k⟩ := h
    have hr11 : Room 11 _ := hr
    refine ⟨_, PSs.nox (pss_one (ps_ret (pe_ifExp (pt_cmpR op_lt (pe_fld (pe_meth (pv 0) B.T.cls MN GM (by exact hr11.mono (by decide)) bM .nil (E := E0) pass0 (pa_cons (pe_ix ix_tup (pe_fld (pv 0) rfl) pe_int (fun _ _ => rfl)) pa_nil)) rfl) pe_int (nomark _)) (pe_un (un_ownNeg MNe GN hr11 bN (E := E0) passL) (pv 0)) (pv 0)))), ?_⟩
    obtain ⟨g, hb1, hv, hz⟩ := id hb
    obtain ⟨dx, nd, tp, kt, ha, bi⟩ := id hb1
    obtain ⟨hnd, htp, hkt⟩ := id bi
    obtain ⟨z, t, rfl⟩ : ∃ z t, zs = z :: t := by
      cases zs with
      | nil => exact absurd rfl zn
      | cons z t => exact ⟨z, t, rfl⟩
    have nz' := hv.ok.ns.nm z List.mem_cons_self
    refine ⟨_, rfl, a, dx, _, rfl, ha, rfl, ?_⟩
    refine ⟨_, rfl, a, CB, dx, _, _, rfl, ha, B.T.cls, B.T.no "things" (by simp), rfl, tp, _, 0, _, rfl, rfl, SqT.of htp, atI_nat (show (List.map V.str (z :: t))[0]? = some (V.str z) from rfl), ?_⟩
    refine nilI ⟨a, z, g, z :: t, rfl, hb1, nz'.1, nz'.2, fun r H1 s1 h1 => ?_⟩
    rw [num_in List.mem_cons_self] at h1
    have vz : val (g z) = v z := valIn hv List.mem_cons_self
    have ng : decide ((g z).1 < 0) = decide (v z < 0) := by
      rw [← vz]
      exact decide_eq_decide.mpr (val_lt (hv.lo z List.mem_cons_self)).symm
    obtain ⟨dxr, h1'⟩ := h1
    refine ⟨_, _, dxr, _, _, rfl, h1', R.T.cls, R.T.no "sign" (by simp), rfl, _, _, rfl, rfl, decide (v z < 0), congrArg V.bl ((sg_neg _).trans ng), ite2 (fun c => ?_) (fun c => ?_)⟩
    · refine ⟨_, rfl, a, rfl, (hb.same s1).ins, (hb.same s1).neg ⟨hB, hc⟩ fun a' H' s hb' => k a' H' (s1.trans s) ?_⟩
      have e : upV v (z :: t) = fun n => -v n := by
        funext n
        exact if_pos (of_decide_eq_true c)
      rw [e]
      exact hb'
    · have e : upV v (z :: t) = v := by
        funext n
        exact if_neg (fun z => c (decide_eq_true z))
      have k' := k a H1 s1
      rw [e] at k'
      exact ⟨_, rfl, k' ((hb.same s1).up (by omega) (by omega))⟩
/-! kinds -/
inductive Kd | gt | ge | eq
deriving DecidableEq
def Kd.s : Kd → Str
  | .gt => ">"
  | .ge => ">="
  | .eq => "="
def knds : List V := [.str ">", .str ">=", .str "="]
/-- is_kind(x) is b -/
def KnIs (K : PySem.W.Frag) (H : Hp) (x : V) (b : Bool) : Prop := (∃ t, x = .str t ∧ b = inV (.str t) knds) ∨ (∃ t, TyX K H x t ∧ PySem.W.kitOne K t (.type "str") = some false ∧ b = false)
theorem KnIs.same {K : PySem.W.Frag} {H H' : Hp} {x : V} {b : Bool} (h : KnIs K H x b) (s : Same H H') : KnIs K H' x b := h.imp id fun ⟨t, ty, k, e⟩ => ⟨t, tyX_same ty s, k, e⟩
theorem KnIs.kd {K : PySem.W.Frag} {H : Hp} (k : Kd) : KnIs K H (.str k.s) true := .inl ⟨_, rfl, by cases k <;> rfl⟩
def spKind (K : PySem.W.Frag) : Sp := fun vs H Q _ => ∃ x b, vs = [x] ∧ KnIs K H x b ∧ Q (.bl b) H
/-- what is_kind rests on -/
structure KnG (K : PySem.W.Frag) (mg : Str → Option Value) : Prop where
  isi : mg "isinstance" = none
  str : mg "str" = none
  kinds : ∃ p, mg "KINDS" = some (.ref p) ∧ ∀ H : Hp, SqT K H p knds
theorem scKd : FnScope ["value"] ["value"] (defScope (top 68)) := ⟨rfl, rfl, rfl, by decide +kernel, rfl, by decide +kernel, by decide +kernel⟩
theorem ok_isKind {f : Addr} {fd : FuncData} (F : FnP K "is_kind" (top 68) f fd) (G : KnG K mg) : FnOk P w K mg base CX0 1 f fd ["value"] (spKind K) := by
  obtain ⟨p, gK, hK⟩ := G.kinds
  refine F.ok scKd (fun vs H Q E h => ?_) (fun cdv A outer s H vs Q E hr h => ?_)
  · obtain ⟨x, b, rfl, _⟩ := h
    rfl
  · obtain ⟨x, b, rfl, h, k⟩ := h
    refine ⟨_, PSs.nox (pss_one (ps_ret (pe_and (pe_callB call_isi (by rfl) G.isi (by decide +kernel) (pa_cons (pv 0) (pa_cons (pe_bltn (v := .ty "str") (by rfl) G.str (by decide +kernel) rfl) pa_nil))) (pe_one (pe_cmpR op_in_seq (pv 0) (pe_glob (v := .ref _) rfl gK rfl) (by rfl)))))), ?_⟩
    rcases h with ⟨t, rfl, rfl⟩ | ⟨t, ty, kk, rfl⟩
    · refine ⟨_, rfl, _, _, _, _, _, rfl, .ty "str", .base (.str t), kit_ty (by decide +kernel), true, rfl, iteT ?_⟩
      exact ⟨_, rfl, p, knds, rfl, .inr (hK _), rfl, rfl, k⟩
    · refine ⟨_, rfl, _, _, _, _, _, rfl, .ty "str", ty, kk, false, rfl, iteF ?_⟩
      exact k
def Kd.keeps : Kd → Int → Bool
  | .gt, i => decide (0 < i)
  | .ge, i => decide (0 ≤ i)
  | .eq, i => decide (i = 0)
def spKept : Sp := fun vs H Q _ => ∃ (k : Kd) (i : Int), vs = [.str k.s, .int i] ∧ Q (.bl (k.keeps i)) H
theorem scKp : FnScope ["kind", "sign"] ["kind", "sign"] (defScope (top 69)) := ⟨rfl, rfl, rfl, by decide +kernel, rfl, by decide +kernel, by decide +kernel⟩
theorem ok_isKept {f : Addr} {fd : FuncData} (F : FnP K "is_kept" (top 69) f fd) : FnOk P w K mg base CX0 1 f fd ["kind", "sign"] spKept := by
  refine F.ok scKp (fun vs H Q E h => ?_) (fun cdv A outer s H vs Q E hr h => ?_)
  · obtain ⟨k, i, rfl, _⟩ := h
    rfl
  · obtain ⟨kd, i, rfl, k⟩ := h
    refine ⟨_, PSs.nox (pss_one (ps_ret (pe_ifExp (pt_cmpR op_eq (pv 0) pe_str (nomark _)) (pe_cmpR op_eq (pv 1) pe_int (nomark _)) (pe_or (pe_cmpR op_gt (pv 1) pe_int (nomark _)) (pe_one (pe_and (pe_cmpR op_eq (pv 1) pe_int (nomark _)) (pe_one (pe_cmpR op_eq (pv 0) pe_str (nomark _))))))))), ?_⟩
    have e0 : decide (V.int i = V.int 0) = decide (i = 0) := by
      by_cases c : i = 0
      · subst c; rfl
      · rw [decide_eq_false c, decide_eq_false fun z => c (by injection z)]
    cases kd
    · refine ⟨_, rfl, rfl, false, rfl, iteF ?_⟩
      refine ⟨_, rfl, _, _, rfl, rfl, decide (0 < i), rfl, ite2 (fun c => ?_) (fun c => ?_)⟩
      · have this : Q (.bl (decide (0 < i))) H := k
        rw [show decide (0 < i) = true from c] at this
        exact this
      · refine ⟨_, rfl, rfl, decide (i = 0), congrArg V.bl e0, ?_⟩
        have k' : Q (.bl (decide (0 < i))) H := k
        rw [show decide (0 < i) = false from Bool.not_eq_true _ |>.mp c] at k'
        refine ite2 (fun c2 => ?_) (fun c2 => ?_)
        · exact ⟨_, rfl, rfl, k'⟩
        · exact k'
    · refine ⟨_, rfl, rfl, false, rfl, iteF ?_⟩
      refine ⟨_, rfl, _, _, rfl, rfl, decide (0 < i), rfl, ite2 (fun c => ?_) (fun c => ?_)⟩
      · have k' : Q (.bl (decide (0 ≤ i))) H := k
        rw [decide_eq_true (Int.le_of_lt (of_decide_eq_true c))] at k'
        exact k'
      · refine ⟨_, rfl, rfl, decide (i = 0), congrArg V.bl e0, ?_⟩
        have c' : ¬ 0 < i := fun z => c (decide_eq_true z)
        refine ite2 (fun c2 => ?_) (fun c2 => ?_)
        · have k' : Q (.bl (decide (0 ≤ i))) H := k
          rw [decide_eq_true (show 0 ≤ i by have := of_decide_eq_true c2; omega)] at k'
          exact ⟨_, rfl, rfl, k'⟩
        · have k' : Q (.bl (decide (0 ≤ i))) H := k
          have c2' : ¬ i = 0 := fun z => c2 (decide_eq_true z)
          rw [decide_eq_false (show ¬ 0 ≤ i by omega)] at k'
          exact k'
    · refine ⟨_, rfl, rfl, true, rfl, iteT ?_⟩
      refine ⟨_, rfl, rfl, ?_⟩
      rw [e0]
      exact k
end
end K09
namespace K09
open PySem PySem.Spec PyProof.Rows L2 RatM ClX
abbrev pairM (i : Nat) : Stmt := inClass (top 66) i
/-- the class of pairs -/
structure PairC (K : PySem.W.Frag) (CP : Addr) : Prop where
  cls : Cls K CP
  no : ∀ f ∈ ([("balance" : Str), ("first" : Str), ("second" : Str), ("things" : Str)] : List Str), NoAttr K CP f
/-- x is no balance -/
def NoB (K : PySem.W.Frag) (CB : Addr) (H : Hp) (x : V) : Prop := ∃ t, TyX K H x t ∧ PySem.W.kitOne K t (.ref CB) = some false
theorem NoB.same {K : PySem.W.Frag} {CB : Addr} {H H' : Hp} {x : V} (h : NoB K CB H x) (s : Same H H') : NoB K CB H' x := let ⟨t, ty, k⟩ := h; ⟨t, tyX_same ty s, k⟩
theorem BX.but {H H' : Hp} {a p dx CP CB C : Addr} {fs : List (Str × V)} {v : Str → Rat} {zs : List Str} {B b : Nat} (h : BX H a CB C v zs B b) (hp : H p = some (.ins CP dx fs)) (n1 : CP ≠ CB) (n2 : CP ≠ C) (k : But p H H') : BX H' a CB C v zs B b := by
  obtain ⟨g, ⟨dx', nd, tp, kt, e, ⟨kvs, e1, r⟩, e2, e3⟩, h2, h3⟩ := h
  have kp : ∀ {b : Addr} {o : HO}, H b = some o → (∀ D fs, o = .ins CP D fs → False) → H' b = some o := fun {b o} e n => k _ _ (fun z => by
    rw [z, hp] at e
    injection e with e
    exact n _ _ e.symm) e
  refine ⟨g, ⟨dx', nd, tp, kt, kp e (fun _ _ z => ?_), ⟨kvs, kp e1 (fun _ _ z => by cases z), Paired.mono' (fun _ _ ⟨x1, b', x2, dxb, x3⟩ => ⟨x1, b', x2, dxb, kp x3 fun _ _ z => ?_⟩) r⟩, kp e2 (fun _ _ z => by cases z), kp e3 (fun _ _ z => by cases z)⟩, h2, h3⟩
  · injection z with z
    exact n1 z.symm
  · injection z with z
    exact n2 z.symm
def gainV (u : Str → Rat) : Str → Rat := fun n => if 0 < u n then u n else 0
def lossV (u : Str → Rat) : Str → Rat := fun n => if u n < 0 then -u n else 0
def pairF (b f s : Addr) (t : V) : List (Str × V) := putF "things" t (putF "second" (.ref s) (putF "first" (.ref f) (putF "balance" (.ref b) [])))
/-- a pair with the numbers u -/
def PairAt (H : Hp) (p CP CB C : Addr) (u : Str → Rat) (zs : List Str) (B c : Nat) : Prop := ∃ dx b f s tp zf zl, H p = some (.ins CP dx (pairF b f s tp)) ∧ BX H b CB C u zs B c ∧ BX H f CB C (gainV u) zf B c ∧ BX H s CB C (lossV u) zl B c
theorem PairAt.same {H H' : Hp} {p CP CB C : Addr} {u : Str → Rat} {zs : List Str} {B c : Nat} (h : PairAt H p CP CB C u zs B c) (s : Same H H') : PairAt H' p CP CB C u zs B c := by
  obtain ⟨dx, b, f, s', tp, zf, zl, h1, h2, h3, h4⟩ := h
  exact ⟨dx, b, f, s', tp, zf, zl, s _ _ h1, h2.same s, h3.same s, h4.same s⟩
theorem PairAt.ins {H : Hp} {p CP CB C : Addr} {u : Str → Rat} {zs : List Str} {B c : Nat} (h : PairAt H p CP CB C u zs B c) : InsAt H p CP := by
  obtain ⟨dx, b, f, s', tp, zf, zl, h1, _⟩ := h
  exact ⟨dx, _, h1⟩
/-- what a pair may be made of -/
def PairOf (K : PySem.W.Frag) (CB C BB BP : Addr) (x : V) (H : Hp) (E : XK) (Q : (Str → Rat) → List Str → Nat → Prop) : Prop :=
  (∃ a v zs B c, x = .ref a ∧ BX H a CB C v zs B c ∧ B ≤ 800 ∧ c ≤ 12 ∧ zs.length ≤ 4 ∧ zs ≠ [] ∧ ∀ u, LeastV v u zs → Q (upV u zs) zs (B + 65)) ∨
  (NoB K CB H x ∧ Rz H E BB [("part", .str "balance")]) ∨ (∃ a v B c, x = .ref a ∧ BX H a CB C v [] B c ∧ Rz H E BP [("part", .str "balance")])
def spPairI (K : PySem.W.Frag) (CP CB C BB BP : Addr) : Sp := fun vs H Q E => ∃ (p dx : Addr) (x : V), vs = [.ref p, x] ∧ H p = some (.ins CP dx []) ∧
  PairOf K CB C BB BP x H E fun u zs B => ∀ H', But p H H' → PairAt H' p CP CB C u zs B 2 → Q .non H'
section
variable {P : Program} {w : World} {K : PySem.W.Frag} {mg : Str → Option Value} {base : Heap} {C BR CB BB BP CP : Addr}
theorem scPI : FnScope ["self", "balance"] ["self", "balance"] (defScope (pairM 0)) := ⟨rfl, rfl, rfl, by decide +kernel, rfl, by decide +kernel, by decide +kernel⟩
theorem ok_pairInit {f fG : Addr} {fd fdG : FuncData} (F : MtP K "__init__" "Pair.__init__" (pairM 0) f fd) (T : PairC K CP) (n1 : CP ≠ CB) (n2 : CP ≠ C) (W : BopK P w K mg base CB C BR) (MB : ErrN P w K mg base "BadBalance" BB ["part"]) (MP : ErrN P w K mg base "BadPair" BP ["part"])
    (GG : FnOk P w K mg base CX0 12 fG fdG ["balance"] (spGaining CB C)) (bG : Binds K fdG ["balance"] []) (kG : PySem.W.keepIn K (.ref fG) = true) (gG : mg "_gaining" = some (.ref fG)) :
    FnOk P w K mg base (L2.CX P w) 13 f fd ["self", "balance"] (spPairI K CP CB C BB BP) := by
  obtain ⟨fLe, fdLe, MLe, GLe, bLe⟩ := W.least
  obtain ⟨fGa, fdGa, MGa, GGa, bGa⟩ := W.gains
  obtain ⟨fLo, fdLo, MLo, GLo, bLo⟩ := W.losses
  have B := W.O.B
  have R := W.O.R
  refine F.ok scPI (fun vs H Q E h => ?_) (fun cdv A outer s H vs Q E hr h => ?_)
  · obtain ⟨p, dx, x, rfl, _⟩ := h
    rfl
  · obtain ⟨p, dx, x, rfl, hp, h⟩ := h
    have hr12 : Room 12 _ := hr
    have hr10 : Room 10 _ := hr12.mono (by decide)
    refine ⟨_, (pss_cons (ps_if (pt_not (pt_val (pe_callB call_isi (by rfl) R.bi (by decide +kernel) (pa_cons (pv 1) (pa_cons (pe_glob (v := .ref _) rfl B.g rfl) pa_nil))))) (pss_one (ps_raiseN rfl MB (hr12.mono (by decide)) (takes_of rfl rfl rfl rfl) (by rfl) (pa_cons pe_str pa_nil))) pss_nil)
      (pss_cons (ps_if (pt_val (pe_fld (pv 1) rfl)) (pss_one (ps_raiseN rfl MP (hr12.mono (by decide)) (takes_of rfl rfl rfl rfl) (by rfl) (pa_cons pe_str pa_nil))) pss_nil)
      (pss_cons (ps_fld (pv 0) (pe_call GG hr12 rfl gG kG bG .nil pass0 (pa_cons (pe_meth0 (pv 1) B.T.cls MLe GLe hr10 bLe .nil (E := E0) pass0) pa_nil)) (by rfl))
      (pss_cons (ps_fld (pv 0) (pe_meth0 (pe_fld (pv 0) rfl) B.T.cls MGa GGa hr10 bGa .nil (E := E0) pass0) (by rfl))
      (pss_cons (ps_fld (pv 0) (pe_meth0 (pe_fld (pv 0) rfl) B.T.cls MLo GLo hr10 bLo .nil (E := E0) pass0) (by rfl))
      (pss_one (ps_fld (pv 0) (pe_fld (pe_fld (pv 0) rfl) rfl) (by rfl)))))))), ?_⟩
    have tB := T.no "balance" (by simp)
    have tF := T.no "first" (by simp)
    have tS := T.no "second" (by simp)
    have tT := T.no "things" (by simp)
    have nT := B.T.no "things" (by simp)
    have nI := B.T.no "is_nothing" (by simp)
    rcases h with ⟨a, v, zs, b, c, rfl, hb, hB, hc, l4, zn, k⟩ | ⟨⟨t, ty, kk⟩, rz⟩ | ⟨a, v, b, c, rfl, hb, rz⟩
    · obtain ⟨g, hb1, hv, hz⟩ := id hb
      obtain ⟨adx, nd, tp, kt, ha, bi⟩ := id hb1
      refine ⟨_, rfl, _, _, _, _, _, rfl, .own CB, W.tyB _ _ _ _ hb1, W.cc, true, rfl, iteF ?_⟩
      dsimp only [tNext, tSeq]
      refine ⟨_, rfl, a, CB, adx, _, _, rfl, ha, B.T.cls, nI, rfl, false, ?_, iteF ?_⟩
      · cases zs with
        | nil => exact absurd rfl zn
        | cons z t =>
          refine congrArg V.bl (decide_eq_false fun z => ?_)
          injection z with z
          simp only [List.length_cons] at z
          omega
      dsimp only [tNext, tSeq]
      refine ⟨_, rfl, a, adx, _, rfl, ha, rfl, nilI (hb.least (by omega) hc l4 fun a1 u H1 s1 hb1' L => nilI ?_)⟩
      refine ⟨a1, u, zs, b + 64, 1, rfl, hb1', by omega, by decide, zn, fun a2 H2 s2 hb2 => ?_⟩
      have hp2 := (s1.trans s2) _ _ hp
      refine ⟨_, rfl, p, CP, dx, _, rfl, hp2, T.cls, tB, by decide, ?_⟩
      have bA : But p H (upd H2 p (.ins CP dx (putF "balance" (.ref a2) []))) := But.upd fun b o _ e => (s1.trans s2) _ _ e
      have hbA := hb2.but hp2 n1 n2 (H' := upd H2 p (.ins CP dx (putF "balance" (.ref a2) []))) (But.upd fun b o _ e => e)
      have hpA : (upd H2 p (.ins CP dx (putF "balance" (.ref a2) []))) p = some (.ins CP dx (putF "balance" (.ref a2) [])) := upd_same
      generalize upd H2 p (.ins CP dx (putF "balance" (.ref a2) [])) = HA at bA hbA hpA ⊢
      dsimp only [tNext, tSeq]
      obtain ⟨x2, x3, x4, x5, x6, ha2⟩ := hbA.at_
      refine ⟨_, rfl, p, CP, dx, _, _, rfl, hpA, T.cls, tB, rfl, a2, x2, _, rfl, ha2, rfl, nilI (hbA.gains fun f1 zf H3 s3 lf hf => ?_)⟩
      have hp3 := s3 _ _ hpA
      refine ⟨_, rfl, p, CP, dx, _, rfl, hp3, T.cls, tF, by show 1 < 1000; decide, ?_⟩
      have bB : But p H (upd H3 p (.ins CP dx (putF "first" (.ref f1) (putF "balance" (.ref a2) [])))) := But.upd (bA.same s3)
      have hbB := (hbA.same s3).but hp3 n1 n2 (H' := upd H3 p (.ins CP dx (putF "first" (.ref f1) (putF "balance" (.ref a2) [])))) (But.upd fun b o _ e => e)
      have hfB := hf.but hp3 n1 n2 (H' := upd H3 p (.ins CP dx (putF "first" (.ref f1) (putF "balance" (.ref a2) [])))) (But.upd fun b o _ e => e)
      have hpB : (upd H3 p (.ins CP dx (putF "first" (.ref f1) (putF "balance" (.ref a2) [])))) p = some (.ins CP dx (putF "first" (.ref f1) (putF "balance" (.ref a2) []))) := upd_same
      generalize upd H3 p (.ins CP dx (putF "first" (.ref f1) (putF "balance" (.ref a2) []))) = HB at bB hbB hfB hpB ⊢
      dsimp only [tNext, tSeq]
      obtain ⟨y2, y3, y4, y5, y6, ha3⟩ := hbB.at_
      refine ⟨_, rfl, p, CP, dx, _, _, rfl, hpB, T.cls, tB, rfl, a2, y2, _, rfl, ha3, rfl, nilI (hbB.losses ⟨by omega, by omega⟩ fun f2 zl H4 s4 ll hl => ?_)⟩
      have hp4 := s4 _ _ hpB
      refine ⟨_, rfl, p, CP, dx, _, rfl, hp4, T.cls, tS, by show 2 < 1000; decide, ?_⟩
      generalize hF3 : putF "second" (.ref f2) (putF "first" (.ref f1) (putF "balance" (.ref a2) [])) = F3
      have bC : But p H (upd H4 p (.ins CP dx F3)) := But.upd (bB.same s4)
      have hbC := (hbB.same s4).but hp4 n1 n2 (H' := upd H4 p (.ins CP dx F3)) (But.upd fun b o _ e => e)
      have hfC := (hfB.same s4).but hp4 n1 n2 (H' := upd H4 p (.ins CP dx F3)) (But.upd fun b o _ e => e)
      have hlC := hl.but hp4 n1 n2 (H' := upd H4 p (.ins CP dx F3)) (But.upd fun b o _ e => e)
      have hpC : (upd H4 p (.ins CP dx F3)) p = some (.ins CP dx F3) := upd_same
      generalize upd H4 p (.ins CP dx F3) = HC at bC hbC hfC hlC hpC ⊢
      obtain ⟨g4, ⟨z2, z3, z4, z5, ha4, _⟩, _⟩ := id hbC
      refine ⟨_, rfl, p, CP, dx, _, _, rfl, hpC, T.cls, tB, by rw [← hF3]; rfl, a2, CB, z2, _, _, rfl, ha4, B.T.cls, nT, rfl, ?_⟩
      refine ⟨_, rfl, p, CP, dx, _, rfl, hpC, T.cls, tT, by rw [← hF3]; show 3 < 1000; decide, ?_⟩
      refine k u L _ (But.upd bC) ⟨dx, a2, f1, f2, .ref z4, zf, zl, ?_, ?_, ?_, ?_⟩
      · rw [upd_same, ← hF3]
        rfl
      · exact hbC.but hpC n1 n2 (But.upd fun b o _ e => e)
      · exact hfC.but hpC n1 n2 (But.upd fun b o _ e => e)
      · exact hlC.but hpC n1 n2 (But.upd fun b o _ e => e)
    · refine ⟨_, rfl, _, _, _, _, _, rfl, .own CB, ty, kk, false, rfl, iteT ?_⟩
      exact raiseN MB rfl (by decide) rz
    · obtain ⟨g, hb1, hv, hz⟩ := id hb
      obtain ⟨adx, nd, tp, kt, ha, bi⟩ := id hb1
      refine ⟨_, rfl, _, _, _, _, _, rfl, .own CB, W.tyB _ _ _ _ hb1, W.cc, true, rfl, iteF ?_⟩
      dsimp only [tNext, tSeq]
      refine ⟨_, rfl, a, CB, adx, _, _, rfl, ha, B.T.cls, nI, rfl, true, rfl, iteT ?_⟩
      exact raiseN MP rfl (by decide) rz
end
theorem NoB.sub {K : PySem.W.Frag} {CB : Addr} {H H' : Hp} {x : V} (h : NoB K CB H x) (s : Same H H') : NoB K CB H' x := h.same s
/-- Pair(x) -/
def MkP (K : PySem.W.Frag) (CP CB C BB BP : Addr) (x : V) (H : Hp) (Q : VK) (E : XK) : Prop :=
  PairOf K CB C BB BP x H E fun u zs B => ∀ p H', Same H H' → H p = none → PairAt H' p CP CB C u zs B 2 → Q (.ref p) H'
theorem PairOf.same {K : PySem.W.Frag} {CB C BB BP : Addr} {x : V} {H H' : Hp} {E : XK} {Q Q' : (Str → Rat) → List Str → Nat → Prop} (h : PairOf K CB C BB BP x H E Q) (s : Same H H') (q : ∀ u zs B, Q u zs B → Q' u zs B) : PairOf K CB C BB BP x H' E Q' := by
  rcases h with ⟨a, v, zs, b, c, rfl, hb, hB, hc, l4, zn, k⟩ | ⟨nb, rz⟩ | ⟨a, v, b, c, rfl, hb, rz⟩
  · exact .inl ⟨a, v, zs, b, c, rfl, hb.same s, hB, hc, l4, zn, fun u L => q _ _ _ (k u L)⟩
  · exact .inr (.inl ⟨nb.same s, Rz.same rz s⟩)
  · exact .inr (.inr ⟨a, v, b, c, rfl, hb.same s, Rz.same rz s⟩)
theorem mkP_sp {K : PySem.W.Frag} {CP CB C BB BP : Addr} {x : V} {H : Hp} {Q : VK} {E : XK} (h : MkP K CP CB C BB BP x H Q E) (a dx : Addr) (na : H a = none) (nd : H dx = none) (ne : dx ≠ a) :
    spPairI K CP CB C BB BP [.ref a, x] (upd (upd H dx (.own a)) a (.ins CP dx [])) (fun v H2 => v = .non ∧ Q (.ref a) H2) E := by
  have s1 : Same H (upd (upd H dx (.own a)) a (.ins CP dx [])) := fun b o e => by rw [upd_ne (ne_of_none e na), upd_ne (ne_of_none e nd)]; exact e
  refine ⟨a, dx, x, rfl, upd_same, PairOf.same h s1 fun u zs B k H' bt hp => ⟨rfl, k a H' (fun b o e => bt b o (ne_of_none e na) (s1 b o e)) na hp⟩⟩
/-- what the functions of pairs rest on -/
structure PairK (P : Program) (w : World) (K : PySem.W.Frag) (mg : Str → Option Value) (base : Heap) (CP CB C BB BP : Addr) : Prop where
  T : PairC K CP
  n1 : CP ≠ CB
  n2 : CP ≠ C
  g : mg "Pair" = some (.ref CP)
  make : ∃ (f : Addr) (fd : FuncData), Mk K CP f ∧ FnOk P w K mg base (L2.CX P w) 13 f fd ["self", "balance"] (spPairI K CP CB C BB BP) ∧ Binds K fd ["self", "balance"] []
section
variable {X : Cx} {CP CB C BB BP : Addr} {E : XK} {p pos : Pos} {e1 : Expr} {ta : TA}
def tPair (K : PySem.W.Frag) (CP CB C BB BP : Addr) (E : XK) (ta : TA) : TE := fun σ H Q => ta σ H fun vs H1 => ∃ x, vs = [x] ∧ MkP K CP CB C BB BP x H1 Q E
theorem pe_pair {P : Program} {w : World} {K : PySem.W.Frag} {mg : Str → Option Value} {base : Heap} (R : PairK P w K mg base CP CB C BB BP) (hr : Room 14 X.A) (hx : Passes (L2.CX X.prog X.w) X E) (hg : Gl X "Pair") (ha : PA X [e1] ta)
    (h1 : X.prog = P := by rfl) (h2 : X.w = w := by rfl) (h3 : X.K = K := by rfl) (h4 : X.mg = mg := by rfl) (h5 : X.base = base := by rfl)
    (he : starEach [e1] X.env = (false, eval e1 X.env) :: starEach [] X.env := by rfl) (hpl : (backTo pos (starEach [] X.env)).any (·.1) = false := by rfl) :
    PE X (.Call (.Name "Pair" p) [e1] [] pos) (tPair K CP CB C BB BP E ta) := by
  subst h1 h2 h3 h4 h5
  obtain ⟨f, fd, M, F, b0⟩ := R.make
  refine ⟨fun pins s σ H Q I h => ?_⟩
  refine wpAny_Call_Name_kw (ld_glob I hg R.g ?_ (by decide))
  refine PySem.W.callWith_K (h₀ := X.base) I.ok.mod.kin M.kp (thn (ha.run pos pins s σ H _ I h) fun us s1 ⟨vs, H1, I1, r, q⟩ => ⟨I1.kIn, ?_⟩) he hpl
  obtain ⟨x, rfl, q⟩ := q
  exact run_make (dvs := []) (E := E) M F hr b0 .nil hx I1 r fun a dx na nd ne => mkP_sp q a dx na nd ne
end
end K09
namespace K09
open PySem PySem.Spec PyProof.Rows L2 RatM ClX
abbrev compM (i : Nat) : Stmt := inClass (top 65) i
/-- the class of comparisons -/
structure CompC (K : PySem.W.Frag) (CM : Addr) : Prop where
  cls : Cls K CM
  no : ∀ f ∈ ([("balance" : Str), ("kind" : Str), ("things" : Str), ("pair" : Str)] : List Str), NoAttr K CM f
/-- the form of a row -/
def kupV (k : Kd) (u : Str → Rat) (zs : List Str) : Str → Rat := if k = .eq then upV u zs else u
theorem upV_neg {u : Str → Rat} {z : Str} {t : List Str} (h : u z < 0) : upV u (z :: t) = fun n => -u n := by
  funext n
  exact if_pos h
theorem upV_pos {u : Str → Rat} {z : Str} {t : List Str} (h : ¬ u z < 0) : upV u (z :: t) = u := by
  funext n
  exact if_neg h
theorem LeastV.up {u : Str → Rat} {zs : List Str} (h : LeastV u u zs) : LeastV (upV u zs) (upV u zs) zs := by
  cases zs with
  | nil => exact h
  | cons z t =>
    by_cases c : u z < 0
    · rw [upV_neg c]
      exact h.neg
    · rw [upV_pos c]
      exact h
theorem LeastV.kup {u : Str → Rat} {zs : List Str} {k : Kd} (h : LeastV u u zs) : LeastV (kupV k u zs) (kupV k u zs) zs := by
  unfold kupV
  by_cases c : k = .eq
  · rw [if_pos c]; exact h.up
  · rw [if_neg c]; exact h
theorem LeastV.one {u u' : Str → Rat} {zs : List Str} (h : LeastV u u zs) (h' : LeastV u u' zs) : u' = u := by
  funext n
  exact (h'.uniq h (k := 1) (by decide) (fun n _ => by grind) n)
def compF (b : Addr) (k : Kd) (t : V) (p : Addr) : List (Str × V) := putF "pair" (.ref p) (putF "things" t (putF "kind" (.str k.s) (putF "balance" (.ref b) [])))
/-- a comparison of the kind k with the numbers u -/
def CompAt (H : Hp) (m CM CP CB C : Addr) (k : Kd) (u : Str → Rat) (zs : List Str) (B c : Nat) : Prop := ∃ dx b tp pr, H m = some (.ins CM dx (compF b k tp pr)) ∧ BX H b CB C u zs B c ∧ PairAt H pr CP CB C (upV u zs) zs (B + 65) 2
theorem CompAt.same {H H' : Hp} {m CM CP CB C : Addr} {k : Kd} {u : Str → Rat} {zs : List Str} {B c : Nat} (h : CompAt H m CM CP CB C k u zs B c) (s : Same H H') : CompAt H' m CM CP CB C k u zs B c := by
  obtain ⟨dx, b, tp, pr, h1, h2, h3⟩ := h
  exact ⟨dx, b, tp, pr, s _ _ h1, h2.same s, h3.same s⟩
theorem CompAt.ins {H : Hp} {m CM CP CB C : Addr} {k : Kd} {u : Str → Rat} {zs : List Str} {B c : Nat} (h : CompAt H m CM CP CB C k u zs B c) : InsAt H m CM := by
  obtain ⟨dx, b, tp, pr, h1, _⟩ := h
  exact ⟨dx, _, h1⟩
theorem PairAt.but {H H' : Hp} {a p dx CM CP CB C : Addr} {fs : List (Str × V)} {u : Str → Rat} {zs : List Str} {B c : Nat} (h : PairAt H a CP CB C u zs B c) (hp : H p = some (.ins CM dx fs)) (n0 : CM ≠ CP) (n1 : CM ≠ CB) (n2 : CM ≠ C) (k : But p H H') : PairAt H' a CP CB C u zs B c := by
  obtain ⟨dx', b, f, s', tp, zf, zl, h1, h2, h3, h4⟩ := h
  refine ⟨dx', b, f, s', tp, zf, zl, k _ _ (fun z => ?_) h1, h2.but hp n1 n2 k, h3.but hp n1 n2 k, h4.but hp n1 n2 k⟩
  rw [z, hp] at h1
  injection h1 with h1
  injection h1 with h1
  exact n0 h1
/-- what a comparison may be made of -/
def CompOf (K : PySem.W.Frag) (CB C BB BC : Addr) (x y : V) (H : Hp) (E : XK) (Q : Kd → (Str → Rat) → List Str → Nat → Prop) : Prop :=
  (∃ a v zs B c k, x = .ref a ∧ y = .str (Kd.s k) ∧ BX H a CB C v zs B c ∧ B ≤ 700 ∧ c ≤ 12 ∧ zs.length ≤ 4 ∧ zs ≠ [] ∧ ∀ u, LeastV v u zs → Q k (kupV k u zs) zs (B + 65)) ∨
  (NoB K CB H x ∧ Rz H E BB [("part", .str "balance")]) ∨ (∃ a v B c, x = .ref a ∧ BX H a CB C v [] B c ∧ Rz H E BC [("part", .str "balance")]) ∨
  (∃ a v zs B c, x = .ref a ∧ BX H a CB C v zs B c ∧ zs ≠ [] ∧ KnIs K H y false ∧ Rz H E BC [("part", .str "kind")])
def spCompI (K : PySem.W.Frag) (CM CP CB C BB BC : Addr) : Sp := fun vs H Q E => ∃ (p dx : Addr) (x y : V), vs = [.ref p, x, y] ∧ H p = some (.ins CM dx []) ∧
  CompOf K CB C BB BC x y H E fun k u zs B => ∀ H', But p H H' → CompAt H' p CM CP CB C k u zs B 2 → Q .non H'
section
variable {P : Program} {w : World} {K : PySem.W.Frag} {mg : Str → Option Value} {base : Heap} {C BR CB BB BP BC CP CM : Addr}
theorem scCI : FnScope ["self", "balance", "kind"] ["self", "balance", "kind"] (defScope (compM 0)) := ⟨rfl, rfl, rfl, by decide +kernel, rfl, by decide +kernel, by decide +kernel⟩
theorem bxNz {zs : List Str} (zn : zs ≠ []) : decide (V.int (zs.length : Nat) = V.int 0) = false := by
  cases zs with
  | nil => exact absurd rfl zn
  | cons z t =>
    refine decide_eq_false fun z => ?_
    injection z with z
    simp only [List.length_cons] at z
    omega
theorem ok_compInit {f fG fK : Addr} {fd fdG fdK : FuncData} (F : MtP K "__init__" "Comparison.__init__" (compM 0) f fd) (T : CompC K CM) (n0 : CM ≠ CP) (n1 : CM ≠ CB) (n2 : CM ≠ C) (W : BopK P w K mg base CB C BR) (PK : PairK P w K mg base CP CB C BB BP) (MB : ErrN P w K mg base "BadBalance" BB ["part"]) (MC : ErrN P w K mg base "BadComparison" BC ["part"])
    (GG : FnOk P w K mg base CX0 12 fG fdG ["balance"] (spGaining CB C)) (bG : Binds K fdG ["balance"] []) (kG : PySem.W.keepIn K (.ref fG) = true) (gG : mg "_gaining" = some (.ref fG))
    (GK : FnOk P w K mg base CX0 1 fK fdK ["value"] (spKind K)) (bK : Binds K fdK ["value"] []) (kK : PySem.W.keepIn K (.ref fK) = true) (gK : mg "is_kind" = some (.ref fK)) :
    FnOk P w K mg base (L2.CX P w) 15 f fd ["self", "balance", "kind"] (spCompI K CM CP CB C BB BC) := by
  obtain ⟨fLe, fdLe, MLe, GLe, bLe⟩ := W.least
  have B := W.O.B
  have R := W.O.R
  refine F.ok scCI (fun vs H Q E h => ?_) (fun cdv A outer s H vs Q E hr h => ?_)
  · obtain ⟨p, dx, x, y, rfl, _⟩ := h
    rfl
  · obtain ⟨p, dx, x, y, rfl, hp, h⟩ := h
    have hr14 : Room 14 _ := hr
    have hr12 : Room 12 _ := hr14.mono (by decide)
    have hr10 : Room 10 _ := hr12.mono (by decide)
    refine ⟨_, (pss_cons (ps_if (pt_not (pt_val (pe_callB call_isi (by rfl) R.bi (by decide +kernel) (pa_cons (pv 1) (pa_cons (pe_glob (v := .ref _) rfl B.g rfl) pa_nil))))) (pss_one (ps_raiseN rfl MB (hr12.mono (by decide)) (takes_of rfl rfl rfl rfl) (by rfl) (pa_cons pe_str pa_nil))) pss_nil)
      (pss_cons (ps_if (pt_val (pe_fld (pv 1) rfl)) (pss_one (ps_raiseN rfl MC (hr12.mono (by decide)) (takes_of rfl rfl rfl rfl) (by rfl) (pa_cons pe_str pa_nil))) pss_nil)
      (pss_cons (ps_if (pt_not (pt_val (pe_call GK (hr12.mono (by decide)) rfl gK kK bK .nil pass0 (pa_cons (pv 2) pa_nil)))) (pss_one (ps_raiseN rfl MC (hr12.mono (by decide)) (takes_of rfl rfl rfl rfl) (by rfl) (pa_cons pe_str pa_nil))) pss_nil)
      (pss_cons (ps_fld (pv 0) (pe_ifExp (pt_cmpR op_eq (pv 2) pe_str (nomark _)) (pe_call GG hr12 rfl gG kG bG .nil pass0 (pa_cons (pe_meth0 (pv 1) B.T.cls MLe GLe hr10 bLe .nil (E := E0) pass0) pa_nil)) (pe_meth0 (pv 1) B.T.cls MLe GLe hr10 bLe .nil (E := E0) pass0)) (by rfl))
      (pss_cons (ps_fld (pv 0) (pv 2) (by rfl))
      (pss_cons (ps_fld (pv 0) (pe_fld (pe_fld (pv 0) rfl) rfl) (by rfl))
      (pss_one (ps_fld (pv 0) (pe_pair PK hr14 (E := E0) passL rfl (pa_cons (pe_fld (pv 0) rfl) pa_nil)) (by rfl))))))))), ?_⟩
    have tB := T.no "balance" (by simp)
    have tK := T.no "kind" (by simp)
    have tT := T.no "things" (by simp)
    have tP := T.no "pair" (by simp)
    have nT := B.T.no "things" (by simp)
    have nI := B.T.no "is_nothing" (by simp)
    rcases h with ⟨a, v, zs, b, c, kd, rfl, rfl, hb, hB, hc, l4, zn, k⟩ | ⟨⟨t, ty, kk⟩, rz⟩ | ⟨a, v, b, c, rfl, hb, rz⟩ | ⟨a, v, zs, b, c, rfl, hb, zn, hk, rz⟩
    · obtain ⟨g, hb1, hv, hz⟩ := id hb
      obtain ⟨adx, nd, tp, kt, ha, bi⟩ := id hb1
      refine ⟨_, rfl, _, _, _, _, _, rfl, .own CB, W.tyB _ _ _ _ hb1, W.cc, true, rfl, iteF ?_⟩
      dsimp only [tNext, tSeq]
      refine ⟨_, rfl, a, CB, adx, _, _, rfl, ha, B.T.cls, nI, rfl, false, congrArg V.bl (bxNz zn), iteF ?_⟩
      dsimp only [tNext, tSeq]
      refine ⟨_, rfl, nilI ⟨_, true, rfl, KnIs.kd kd, true, rfl, iteF ?_⟩⟩
      dsimp only [tNext, tSeq]
      -- the balance
      have br : ∀ (Q2 : VK), (∀ a2 u H2, LeastV v u zs → Same H H2 → BX H2 a2 CB C (kupV kd u zs) zs (b + 65) 2 → Q2 (.ref a2) H2) → tIf (tTest (tOp rEq (tVar 2) (tC (V.str (Str.ofString "=")))))
          (tCall (spGaining CB C) [] E0 (tCons (tMeth CB (Str.ofString "least") (spLeast CB C) [] E0 (tVar 1) tNil) tNil))
          (tMeth CB (Str.ofString "least") (spLeast CB C) [] E0 (tVar 1) tNil) (L2.start [Str.ofString "self", Str.ofString "balance", Str.ofString "kind"] [V.ref p, V.ref a, V.str kd.s]) H Q2 := by
        intro Q2 q
        by_cases ck : kd = .eq
        · subst ck
          refine ⟨_, rfl, rfl, true, rfl, iteT ?_⟩
          refine ⟨_, rfl, a, adx, _, rfl, ha, rfl, nilI (hb.least (by omega) hc l4 fun a1 u H1 s1 hb1' L => nilI ?_)⟩
          refine ⟨a1, u, zs, b + 64, 1, rfl, hb1', by omega, by decide, zn, fun a2 H2 s2 hb2 => ?_⟩
          exact q a2 u H2 L (s1.trans s2) hb2
        · have e : decide (V.str kd.s = V.str "=") = false := by cases kd <;> first | rfl | exact absurd rfl ck
          refine ⟨_, rfl, rfl, false, congrArg V.bl e, iteF ?_⟩
          refine ⟨_, rfl, a, adx, _, rfl, ha, rfl, nilI (hb.least (by omega) hc l4 fun a1 u H1 s1 hb1' L => ?_)⟩
          refine q a1 u H1 L s1 ?_
          unfold kupV
          rw [if_neg ck]
          exact hb1'.up (by omega) (by decide)
      dsimp only [sFld]
      refine br _ fun a2 u H2 L s2 hb2 => ?_
      clear br
      have hp2 := s2 _ _ hp
      refine ⟨_, rfl, p, CM, dx, _, rfl, hp2, T.cls, tB, by decide, ?_⟩
      have bA : But p H (upd H2 p (.ins CM dx (putF "balance" (.ref a2) []))) := But.upd fun b o _ e => s2 _ _ e
      have hbA := hb2.but hp2 n1 n2 (H' := upd H2 p (.ins CM dx (putF "balance" (.ref a2) []))) (But.upd fun b o _ e => e)
      have hpA : (upd H2 p (.ins CM dx (putF "balance" (.ref a2) []))) p = some (.ins CM dx (putF "balance" (.ref a2) [])) := upd_same
      generalize upd H2 p (.ins CM dx (putF "balance" (.ref a2) [])) = HA at bA hbA hpA ⊢
      dsimp only [tNext, tSeq]
      refine ⟨_, rfl, _, rfl, p, CM, dx, _, rfl, hpA, T.cls, tK, by show 1 < 1000; decide, ?_⟩
      have bB : But p H (upd HA p (.ins CM dx (putF "kind" (.str kd.s) (putF "balance" (.ref a2) [])))) := But.upd bA
      have hbB := hbA.but hpA n1 n2 (H' := upd HA p (.ins CM dx (putF "kind" (.str kd.s) (putF "balance" (.ref a2) [])))) (But.upd fun b o _ e => e)
      have hpB : (upd HA p (.ins CM dx (putF "kind" (.str kd.s) (putF "balance" (.ref a2) [])))) p = some (.ins CM dx (putF "kind" (.str kd.s) (putF "balance" (.ref a2) []))) := upd_same
      generalize upd HA p (.ins CM dx (putF "kind" (.str kd.s) (putF "balance" (.ref a2) []))) = HB at bB hbB hpB ⊢
      dsimp only [tNext, tSeq]
      obtain ⟨g4, ⟨z2, z3, z4, z5, ha4, _⟩, _⟩ := id hbB
      refine ⟨_, rfl, p, CM, dx, _, _, rfl, hpB, T.cls, tB, rfl, a2, CB, z2, _, _, rfl, ha4, B.T.cls, nT, rfl, ?_⟩
      refine ⟨_, rfl, p, CM, dx, _, rfl, hpB, T.cls, tT, by show 2 < 1000; decide, ?_⟩
      generalize hF3 : putF "things" (.ref z4) (putF "kind" (.str kd.s) (putF "balance" (.ref a2) [])) = F3
      have bC : But p H (upd HB p (.ins CM dx F3)) := But.upd bB
      have hbC := hbB.but hpB n1 n2 (H' := upd HB p (.ins CM dx F3)) (But.upd fun b o _ e => e)
      have hpC : (upd HB p (.ins CM dx F3)) p = some (.ins CM dx F3) := upd_same
      generalize upd HB p (.ins CM dx F3) = HC at bC hbC hpC ⊢
      dsimp only [tNext, tSeq]
      refine ⟨_, rfl, p, CM, dx, _, _, rfl, hpC, T.cls, tB, by rw [← hF3]; rfl, nilI ⟨_, rfl, .inl ⟨a2, kupV kd u zs, zs, b + 65, 2, rfl, hbC, by omega, by decide, l4, zn, fun u2 L2 p2 H3 s3 np2 hP => ?_⟩⟩⟩
      have Ls : LeastV (kupV kd u zs) (kupV kd u zs) zs := L.self.kup
      obtain rfl := Ls.one L2
      have hp3 := s3 _ _ hpC
      refine ⟨_, rfl, p, CM, dx, _, rfl, hp3, T.cls, tP, by rw [← hF3]; show 3 < 1000; decide, ?_⟩
      refine k u L _ (But.upd (bC.same s3)) ⟨dx, a2, .ref z4, p2, ?_, ?_, ?_⟩
      · rw [upd_same, ← hF3]
        rfl
      · exact (hbC.same s3).but hp3 n1 n2 (But.upd fun b o _ e => e)
      · exact hP.but hp3 n0 n1 n2 (But.upd fun b o _ e => e)
    · refine ⟨_, rfl, _, _, _, _, _, rfl, .own CB, ty, kk, false, rfl, iteT ?_⟩
      exact raiseN MB rfl (by decide) rz
    · obtain ⟨g, hb1, hv, hz⟩ := id hb
      obtain ⟨adx, nd, tp, kt, ha, bi⟩ := id hb1
      refine ⟨_, rfl, _, _, _, _, _, rfl, .own CB, W.tyB _ _ _ _ hb1, W.cc, true, rfl, iteF ?_⟩
      dsimp only [tNext, tSeq]
      refine ⟨_, rfl, a, CB, adx, _, _, rfl, ha, B.T.cls, nI, rfl, true, rfl, iteT ?_⟩
      exact raiseN MC rfl (by decide) rz
    · obtain ⟨g, hb1, hv, hz⟩ := id hb
      obtain ⟨adx, nd, tp, kt, ha, bi⟩ := id hb1
      refine ⟨_, rfl, _, _, _, _, _, rfl, .own CB, W.tyB _ _ _ _ hb1, W.cc, true, rfl, iteF ?_⟩
      dsimp only [tNext, tSeq]
      refine ⟨_, rfl, a, CB, adx, _, _, rfl, ha, B.T.cls, nI, rfl, false, congrArg V.bl (bxNz zn), iteF ?_⟩
      dsimp only [tNext, tSeq]
      refine ⟨_, rfl, nilI ⟨_, false, rfl, hk, false, rfl, iteT ?_⟩⟩
      exact raiseN MC rfl (by decide) rz
end
theorem CompOf.same {K : PySem.W.Frag} {CB C BB BC : Addr} {x y : V} {H H' : Hp} {E : XK} {Q Q' : Kd → (Str → Rat) → List Str → Nat → Prop} (h : CompOf K CB C BB BC x y H E Q) (s : Same H H') (q : ∀ k u zs B, Q k u zs B → Q' k u zs B) : CompOf K CB C BB BC x y H' E Q' := by
  rcases h with ⟨a, v, zs, b, c, kd, rfl, rfl, hb, hB, hc, l4, zn, k⟩ | ⟨nb, rz⟩ | ⟨a, v, b, c, rfl, hb, rz⟩ | ⟨a, v, zs, b, c, rfl, hb, zn, hk, rz⟩
  · exact .inl ⟨a, v, zs, b, c, kd, rfl, rfl, hb.same s, hB, hc, l4, zn, fun u L => q _ _ _ _ (k u L)⟩
  · exact .inr (.inl ⟨nb.same s, Rz.same rz s⟩)
  · exact .inr (.inr (.inl ⟨a, v, b, c, rfl, hb.same s, Rz.same rz s⟩))
  · exact .inr (.inr (.inr ⟨a, v, zs, b, c, rfl, hb.same s, zn, hk.same s, Rz.same rz s⟩))
/-- Comparison(x, y) -/
def MkC (K : PySem.W.Frag) (CM CP CB C BB BC : Addr) (x y : V) (H : Hp) (Q : VK) (E : XK) : Prop :=
  CompOf K CB C BB BC x y H E fun k u zs B => ∀ m H', Same H H' → H m = none → CompAt H' m CM CP CB C k u zs B 2 → Q (.ref m) H'
theorem mkC_sp {K : PySem.W.Frag} {CM CP CB C BB BC : Addr} {x y : V} {H : Hp} {Q : VK} {E : XK} (h : MkC K CM CP CB C BB BC x y H Q E) (a dx : Addr) (na : H a = none) (nd : H dx = none) (ne : dx ≠ a) :
    spCompI K CM CP CB C BB BC [.ref a, x, y] (upd (upd H dx (.own a)) a (.ins CM dx [])) (fun v H2 => v = .non ∧ Q (.ref a) H2) E := by
  have s1 : Same H (upd (upd H dx (.own a)) a (.ins CM dx [])) := fun b o e => by rw [upd_ne (ne_of_none e na), upd_ne (ne_of_none e nd)]; exact e
  refine ⟨a, dx, x, y, rfl, upd_same, CompOf.same h s1 fun k u zs B q H' bt hp => ⟨rfl, q a H' (fun b o e => bt b o (ne_of_none e na) (s1 b o e)) na hp⟩⟩
/-- what the functions of comparisons rest on -/
structure CompK (P : Program) (w : World) (K : PySem.W.Frag) (mg : Str → Option Value) (base : Heap) (CM CP CB C BB BC : Addr) : Prop where
  T : CompC K CM
  n0 : CM ≠ CP
  n1 : CM ≠ CB
  n2 : CM ≠ C
  g : mg "Comparison" = some (.ref CM)
  make : ∃ (f : Addr) (fd : FuncData), Mk K CM f ∧ FnOk P w K mg base (L2.CX P w) 15 f fd ["self", "balance", "kind"] (spCompI K CM CP CB C BB BC) ∧ Binds K fd ["self", "balance", "kind"] []
section
variable {X : Cx} {CM CP CB C BB BC : Addr} {E : XK} {p pos : Pos} {e1 e2 : Expr} {ta : TA}
def tComp (K : PySem.W.Frag) (CM CP CB C BB BC : Addr) (E : XK) (ta : TA) : TE := fun σ H Q => ta σ H fun vs H1 => ∃ x y, vs = [x, y] ∧ MkC K CM CP CB C BB BC x y H1 Q E
theorem pe_comp {P : Program} {w : World} {K : PySem.W.Frag} {mg : Str → Option Value} {base : Heap} (R : CompK P w K mg base CM CP CB C BB BC) (hr : Room 16 X.A) (hx : Passes (L2.CX X.prog X.w) X E) (hg : Gl X "Comparison") (ha : PA X [e1, e2] ta)
    (h1 : X.prog = P := by rfl) (h2 : X.w = w := by rfl) (h3 : X.K = K := by rfl) (h4 : X.mg = mg := by rfl) (h5 : X.base = base := by rfl)
    (he : starEach [e1, e2] X.env = (false, eval e1 X.env) :: starEach [e2] X.env := by rfl) (hpl : (backTo pos (starEach [e2] X.env)).any (·.1) = false := by rfl) :
    PE X (.Call (.Name "Comparison" p) [e1, e2] [] pos) (tComp K CM CP CB C BB BC E ta) := by
  subst h1 h2 h3 h4 h5
  obtain ⟨f, fd, M, F, b0⟩ := R.make
  refine ⟨fun pins s σ H Q I h => ?_⟩
  refine wpAny_Call_Name_kw (ld_glob I hg R.g ?_ (by decide))
  refine PySem.W.callWith_K (h₀ := X.base) I.ok.mod.kin M.kp (thn (ha.run pos pins s σ H _ I h) fun us s1 ⟨vs, H1, I1, r, q⟩ => ⟨I1.kIn, ?_⟩) he hpl
  obtain ⟨x, y, rfl, q⟩ := q
  exact run_make (dvs := []) (E := E) M F hr b0 .nil hx I1 r fun a dx na nd ne => mkC_sp q a dx na nd ne
end
end K09
namespace K09
open PySem PySem.Spec PyProof.Rows L2 RatM ClX
theorem eqv_key_inv {g g2 : Str → Int × Int} : ∀ {zs zs2 : List Str}, PyData.eqvAll (keyD g zs) (keyD g2 zs2) = true → zs = zs2 ∧ ∀ n ∈ zs, g n = g2 n
  | [], [], _ => ⟨rfl, fun _ m => by cases m⟩
  | [], n :: t, h => by rw [keyD_cons] at h; cases h
  | n :: t, [], h => by rw [keyD_cons] at h; cases h
  | n :: t, m :: t2, h => by
    rw [keyD_cons, keyD_cons] at h
    simp only [PyData.eqvAll, PyData.eqv, Bool.and_eq_true] at h
    obtain ⟨h1, h2, h3, h4⟩ := h
    obtain ⟨rfl, h5⟩ := eqv_key_inv h4
    have h1 : n = m := by simpa using h1
    have h2 : (g n).1 = (g2 m).1 := by simpa using h2
    have h3 : (g n).2 = (g2 m).2 := by simpa using h3
    subst h1
    refine ⟨rfl, fun k mk => ?_⟩
    cases mk with
    | head => exact Prod.ext h2 h3
    | tail _ mk => exact h5 k mk
section
variable {H : Hp} {a b CB C : Addr} {v v2 : Str → Rat} {zs zs2 : List Str} {B c B2 c2 : Nat}
/-- the things are those with a number, in order -/
theorem BX.zs_eq {H2 : Hp} (h : BX H a CB C v zs B c) (h2 : BX H2 b CB C v2 zs2 B2 c2) (e : ∀ n, v n = v2 n) : zs = zs2 := by
  obtain ⟨g, h1, hv, hz⟩ := h
  obtain ⟨g2, h3, hv2, hz2⟩ := h2
  exact (hv.same hv2 e).1
theorem BX.eqB {Q : VK} {E : XK} (h : BX H a CB C v zs B c) (h2 : BX H b CB C v2 zs2 B2 c2) (q : ∀ bl : Bool, (bl = true ↔ ∀ n, v n = v2 n) → Q (.bl bl) H) : spEqB CB C [.ref a, .ref b] H Q E := by
  obtain ⟨g, h1, hv, hz⟩ := h
  obtain ⟨g2, h3, hv2, hz2⟩ := h2
  refine ⟨a, b, g, g2, zs, zs2, rfl, h1, h3, hv.ok.ns, hv2.ok.ns, q _ ⟨fun e n => ?_, fun e => ?_⟩⟩
  · simp only [PyData.eqv] at e
    obtain ⟨rfl, eg⟩ := eqv_key_inv e
    rw [← hv.val, ← hv2.val]
    by_cases m : n ∈ zs
    · rw [num_in m, num_in m, eg n m]
    · rw [num_out m, num_out m]
  · obtain ⟨rfl, eg⟩ := hv.same hv2 e
    exact eqv_key (fun n m => (hv.ok.ns.nm n m).2) eg
end
/-- x is of none of the class at CP -/
def NoT (K : PySem.W.Frag) (CP : Addr) (H : Hp) (x : V) : Prop := ∃ t, TyX K H x t ∧ PySem.W.kitOne K t (.ref CP) = some false
theorem NoT.same {K : PySem.W.Frag} {CP : Addr} {H H' : Hp} {x : V} (h : NoT K CP H x) (s : Same H H') : NoT K CP H' x := let ⟨t, ty, k⟩ := h; ⟨t, tyX_same ty s, k⟩
/-- instances of the class have it as their type -/
structure TyK (K : PySem.W.Frag) (CP : Addr) : Prop where
  ty : ∀ (H : Hp) (a : Addr), InsAt H a CP → TyX K H (.ref a) (.ref CP)
  cc : PySem.W.kitOne K (.ref CP) (.ref CP) = some true
def spEqP (K : PySem.W.Frag) (CP CB C : Addr) : Sp := fun vs H Q _ => ∃ (a : Addr) (y : V) (u : Str → Rat) (zs : List Str) (B c : Nat), vs = [.ref a, y] ∧ PairAt H a CP CB C u zs B c ∧
  ((∃ b u2 zs2 B2 c2, y = .ref b ∧ PairAt H b CP CB C u2 zs2 B2 c2 ∧ ∀ bl : Bool, (bl = true ↔ ∀ n, u n = u2 n) → Q (.bl bl) H) ∨ (NoT K CP H y ∧ Q (.bl false) H))
def spEqC (K : PySem.W.Frag) (CM CP CB C : Addr) : Sp := fun vs H Q _ => ∃ (a : Addr) (y : V) (k : Kd) (u : Str → Rat) (zs : List Str) (B c : Nat), vs = [.ref a, y] ∧ CompAt H a CM CP CB C k u zs B c ∧
  ((∃ b k2 u2 zs2 B2 c2, y = .ref b ∧ CompAt H b CM CP CB C k2 u2 zs2 B2 c2 ∧ ∀ bl : Bool, (bl = true ↔ k = k2 ∧ ∀ n, u n = u2 n) → Q (.bl bl) H) ∨ (NoT K CM H y ∧ Q (.bl false) H))
section
variable {P : Program} {w : World} {K : PySem.W.Frag} {mg : Str → Option Value} {base : Heap} {C BR CB BB BP BC CP CM : Addr}
theorem scEP : FnScope ["self", "other"] ["self", "other"] (defScope (pairM 3)) := ⟨rfl, rfl, rfl, by decide +kernel, rfl, by decide +kernel, by decide +kernel⟩
theorem ok_eqP {f : Addr} {fd : FuncData} (F : MtP K "__eq__" "Pair.__eq__" (pairM 3) f fd) (W : BopK P w K mg base CB C BR) (T : PairC K CP) (Y : TyK K CP) (gP : mg "Pair" = some (.ref CP)) :
    FnOk P w K mg base CX0 3 f fd ["self", "other"] (spEqP K CP CB C) := by
  obtain ⟨fE, fdE, ME, GE, bE⟩ := W.eq
  have R := W.O.R
  have tB := T.no "balance" (by simp)
  refine F.ok scEP (fun vs H Q E h => ?_) (fun cdv A outer s H vs Q E hr h => ?_)
  · obtain ⟨a, y, u, zs, B, c, rfl, _⟩ := h
    rfl
  · obtain ⟨a, y, u, zs, B, c, rfl, hp, h⟩ := h
    have hr2 : Room 2 _ := hr
    refine ⟨_, PSs.nox (pss_one (ps_ret (pe_and (pe_callB call_isi (by rfl) R.bi (by decide +kernel) (pa_cons (pv 1) (pa_cons (pe_glob (v := .ref _) rfl gP rfl) pa_nil))) (pe_one (pe_cmpR (op_eqOwn ME GE (hr2.mono (by decide)) bE (E := E0) pass0) (pe_fld (pv 0) rfl) (pe_fld (pv 1) rfl) (nomark _)))))), ?_⟩
    rcases h with ⟨b, u2, zs2, B2, c2, rfl, hq, k⟩ | ⟨⟨t, ty, kk⟩, k⟩
    · refine ⟨_, rfl, _, _, _, _, _, rfl, .own CP, Y.ty _ _ hq.ins, Y.cc, true, rfl, iteT ?_⟩
      obtain ⟨dx, b1, f1, s1, tp, zf, zl, hp1, hb1, _⟩ := hp
      obtain ⟨dx2, b2, f2, s2, tp2, zf2, zl2, hp2, hb2, _⟩ := hq
      refine ⟨_, rfl, a, CP, dx, _, _, rfl, hp1, T.cls, tB, rfl, _, rfl, b, CP, dx2, _, _, rfl, hp2, T.cls, tB, rfl, ?_⟩
      exact ⟨b1, .ref CB, rfl, hb1.ins, ty_ins hb2.ins, W.nf, hb1.eqB hb2 fun bl e => ⟨bl, rfl, k bl e⟩⟩
    · refine ⟨_, rfl, _, _, _, _, _, rfl, .own CP, ty, kk, false, rfl, iteF ?_⟩
      exact k
theorem scEC : FnScope ["self", "other"] ["self", "other"] (defScope (compM 3)) := ⟨rfl, rfl, rfl, by decide +kernel, rfl, by decide +kernel, by decide +kernel⟩
theorem ok_eqC {f : Addr} {fd : FuncData} (F : MtP K "__eq__" "Comparison.__eq__" (compM 3) f fd) (W : BopK P w K mg base CB C BR) (T : CompC K CM) (Y : TyK K CM) (gP : mg "Comparison" = some (.ref CM)) :
    FnOk P w K mg base CX0 3 f fd ["self", "other"] (spEqC K CM CP CB C) := by
  obtain ⟨fE, fdE, ME, GE, bE⟩ := W.eq
  have R := W.O.R
  have tB := T.no "balance" (by simp)
  have tK := T.no "kind" (by simp)
  refine F.ok scEC (fun vs H Q E h => ?_) (fun cdv A outer s H vs Q E hr h => ?_)
  · obtain ⟨a, y, kd, u, zs, B, c, rfl, _⟩ := h
    rfl
  · obtain ⟨a, y, kd, u, zs, B, c, rfl, hp, h⟩ := h
    have hr2 : Room 2 _ := hr
    refine ⟨_, PSs.nox (pss_one (ps_ret (pe_and (pe_callB call_isi (by rfl) R.bi (by decide +kernel) (pa_cons (pv 1) (pa_cons (pe_glob (v := .ref _) rfl gP rfl) pa_nil))) (pe_and (pe_cmpR op_eq (pe_fld (pv 0) rfl) (pe_fld (pv 1) rfl) (nomark _)) (pe_one (pe_cmpR (op_eqOwn ME GE (hr2.mono (by decide)) bE (E := E0) pass0) (pe_fld (pv 0) rfl) (pe_fld (pv 1) rfl) (nomark _))))))), ?_⟩
    rcases h with ⟨b, k2, u2, zs2, B2, c2, rfl, hq, k⟩ | ⟨⟨t, ty, kk⟩, k⟩
    · refine ⟨_, rfl, _, _, _, _, _, rfl, .own CM, Y.ty _ _ hq.ins, Y.cc, true, rfl, iteT ?_⟩
      obtain ⟨dx, b1, tp, pr, hp1, hb1, _⟩ := hp
      obtain ⟨dx2, b2, tp2, pr2, hp2, hb2, _⟩ := hq
      refine ⟨_, rfl, a, CM, dx, _, _, rfl, hp1, T.cls, tK, rfl, _, rfl, b, CM, dx2, _, _, rfl, hp2, T.cls, tK, rfl, rfl, ?_⟩
      by_cases e : kd = k2
      · subst e
        refine ⟨true, congrArg V.bl (decide_eq_true rfl), iteT ?_⟩
        refine ⟨_, rfl, a, CM, dx, _, _, rfl, hp1, T.cls, tB, rfl, _, rfl, b, CM, dx2, _, _, rfl, hp2, T.cls, tB, rfl, ?_⟩
        exact ⟨b1, .ref CB, rfl, hb1.ins, ty_ins hb2.ins, W.nf, hb1.eqB hb2 fun bl e => ⟨bl, rfl, k bl ⟨fun z => ⟨rfl, e.mp z⟩, fun z => e.mpr z.2⟩⟩⟩
      · have e2 : decide (V.str kd.s = V.str k2.s) = false := by
          cases kd <;> cases k2 <;> first | rfl | exact absurd rfl e
        refine ⟨false, congrArg V.bl e2, iteF ?_⟩
        exact k false ⟨fun z => (by cases z), fun z => absurd z.1 e⟩
    · refine ⟨_, rfl, _, _, _, _, _, rfl, .own CM, ty, kk, false, rfl, iteF ?_⟩
      exact k
end
/-! texts -/
/-- a number in lowest terms -/
def frO (q : Rat) : Int × Int := (q.num, (q.den : Int))
theorem lo_frO (q : Rat) : Lo (frO q) := by
  refine ⟨by have := q.den_pos; show (0 : Int) < (q.den : Int); omega, ?_⟩
  have := q.reduced
  unfold Nat.Coprime at this
  show Int.gcd q.num (q.den : Int) = 1
  rw [Int.gcd, Int.natAbs_natCast]
  exact this
theorem val_frO (q : Rat) : val (frO q) = q := by
  show Rat.divInt q.num (q.den : Int) = q
  exact Rat.num_divInt_den q
theorem frO_val {x : Int × Int} (h : Lo x) : frO (val x) = x := lo_ext (lo_frO _) h (val_frO _)
def textV (v : Str → Rat) (zs : List Str) : Str := balT (fun n => frO (v n)) zs
theorem name_len {n : Str} (h : nameT n.cps.toList = true) : n.length ≤ 12 := by
  unfold nameT at h
  rw [Bool.and_eq_true, Bool.and_eq_true] at h
  have := of_decide_eq_true h.2.1
  have e : n.cps.toList.length = n.length := by simp [Str.length]
  omega
theorem BX.text {H : Hp} {a CB C : Addr} {v : Str → Rat} {zs : List Str} {B c : Nat} {Q : VK} {E : XK} (h : BX H a CB C v zs B c) (hB : B ≤ 900) (hc : c ≤ 900) (l4 : zs.length ≤ 4) (q : ∀ H', Same H H' → Q (.str (textV v zs)) H') : spBalT CB C [.ref a] H Q E := by
  obtain ⟨g, h1, hv, hz⟩ := h
  have e : balT g zs = textV v zs := by
    unfold textV balT
    have : (zs.map fun n => termT n (g n)) = zs.map fun n => termT n (frO (v n)) := List.map_congr_left fun n m => by rw [← valIn hv m, frO_val (hv.lo n m)]
    rw [this]
  rw [← e] at q
  refine ⟨a, g, zs, rfl, h1, hv.ok.ns, bxLo hv hz (by omega) (by omega), fun n m => ⟨Nat.le_trans (name_len (hv.ok.ns.nm n m).2) (by decide), tx_len ?_ ?_⟩, q⟩
  · exact Nat.lt_of_lt_of_le (hz n m).1 (Nat.pow_le_pow_right (by decide) (by omega))
  · exact Nat.lt_of_lt_of_le (hz n m).2 (Nat.pow_le_pow_right (by decide) (by omega))
theorem text_len {v : Str → Rat} {zs : List Str} {B : Nat} (l4 : zs.length ≤ 4) (h : ∀ n ∈ zs, n.length ≤ 1000 ∧ (textR (frO (v n)).1 (frO (v n)).2).length ≤ 1000) : (textV v zs).length ≤ 9000 := by
  unfold textV balT
  by_cases z : zs.length = 0
  · rw [if_pos z]
    show 1 ≤ 9000
    decide
  · rw [if_neg z]
    show (Builtin.Str.glued _ _).length ≤ 9000
    rw [PySem.size_glued]
    have sl := sum_le (f := fun n => (termT n (frO (v n))).length) (B := 2001) zs fun n m => termT_len (h n m).1 (h n m).2
    rw [List.map_map, List.length_map]
    have e : (Str.ofString " + ").length = 3 := rfl
    rw [e]
    have e2 : (List.map ((fun x => x.length) ∘ fun n => termT n (frO (v n))) zs).sum = (zs.map fun n => (termT n (frO (v n))).length).sum := rfl
    rw [e2]
    omega
theorem BX.text_ok {H : Hp} {a CB C : Addr} {v : Str → Rat} {zs : List Str} {B c : Nat} (h : BX H a CB C v zs B c) (hB : B ≤ 900) (hc : c ≤ 900) (l4 : zs.length ≤ 4) : (textV v zs).length ≤ 9000 := by
  obtain ⟨g, h1, hv, hz⟩ := h
  refine text_len (B := B) l4 fun n m => ?_
  rw [← valIn hv m, frO_val (hv.lo n m)]
  exact ⟨Nat.le_trans (name_len (hv.ok.ns.nm n m).2) (by decide), tx_len (Nat.lt_of_lt_of_le (hz n m).1 (Nat.pow_le_pow_right (by decide) (by omega))) (Nat.lt_of_lt_of_le (hz n m).2 (Nat.pow_le_pow_right (by decide) (by omega)))⟩
/-- the things that are gained, lost -/
abbrev gainZ (u : Str → Rat) (zs : List Str) : List Str := zs.filter fun n => decide (0 < u n)
abbrev lossZ (u : Str → Rat) (zs : List Str) : List Str := zs.filter fun n => decide (u n < 0)
theorem BX.gainZs {H H2 : Hp} {a b CB C : Addr} {u : Str → Rat} {zs zf : List Str} {B c B2 c2 : Nat} (h : BX H a CB C u zs B c) (h2 : BX H2 b CB C (gainV u) zf B2 c2) : zf = gainZ u zs := by
  obtain ⟨g, h1, hv, hz⟩ := h
  obtain ⟨g2, h3, hv2, hz2⟩ := h2
  refine sorted_unique hv2.ok.so (sorted_filter _ hv.ok.so) ((List.perm_ext_iff_of_nodup hv2.ok.ns.nd (hv.ok.ns.nd.filter _)).mpr fun n => ?_)
  rw [hv2.mem, List.mem_filter, hv.mem]
  unfold gainV
  by_cases c : 0 < u n
  · rw [if_pos c]
    simp [c]
  · rw [if_neg c]
    simp [c]
theorem BX.lossZs {H H2 : Hp} {a b CB C : Addr} {u : Str → Rat} {zs zf : List Str} {B c B2 c2 : Nat} (h : BX H a CB C u zs B c) (h2 : BX H2 b CB C (lossV u) zf B2 c2) : zf = lossZ u zs := by
  obtain ⟨g, h1, hv, hz⟩ := h
  obtain ⟨g2, h3, hv2, hz2⟩ := h2
  refine sorted_unique hv2.ok.so (sorted_filter _ hv.ok.so) ((List.perm_ext_iff_of_nodup hv2.ok.ns.nd (hv.ok.ns.nd.filter _)).mpr fun n => ?_)
  rw [hv2.mem, List.mem_filter, hv.mem]
  unfold lossV
  by_cases c : u n < 0
  · rw [if_pos c]
    have : u n ≠ 0 := by grind
    have : -u n ≠ 0 := by grind
    simp [c, *]
  · rw [if_neg c]
    simp [c]
def lineT (w : Str) (u : Str → Rat) (zs : List Str) : Str := ((Str.empty ++ textV (gainV u) (gainZ u zs)) ++ w) ++ textV (lossV u) (lossZ u zs)
def compT (k : Kd) (u : Str → Rat) (zs : List Str) : Str := ((((Str.empty ++ textV (gainV u) (gainZ u zs)) ++ " ") ++ k.s) ++ " ") ++ textV (lossV u) (lossZ u zs)
def spStrP (CP CB C : Addr) : Sp := fun vs H Q _ => ∃ (a : Addr) (u : Str → Rat) (zs : List Str) (B c : Nat), vs = [.ref a] ∧ PairAt H a CP CB C u zs B c ∧ B ≤ 900 ∧ c ≤ 900 ∧ zs.length ≤ 4 ∧ ∀ H', Same H H' → Q (.str (lineT " : " u zs)) H'
def spStrC (CM CP CB C : Addr) : Sp := fun vs H Q _ => ∃ (a : Addr) (k : Kd) (u : Str → Rat) (zs : List Str) (B c : Nat), vs = [.ref a] ∧ CompAt H a CM CP CB C k u zs B c ∧ B ≤ 900 ∧ c ≤ 900 ∧ zs.length ≤ 4 ∧ ∀ H', Same H H' → Q (.str (compT k u zs)) H'
section
variable {P : Program} {w : World} {K : PySem.W.Frag} {mg : Str → Option Value} {base : Heap} {C BR CB BB BP BC CP CM : Addr}
theorem scSP : FnScope ["self"] ["self"] (defScope (pairM 4)) := ⟨rfl, rfl, rfl, by decide +kernel, rfl, by decide +kernel, by decide +kernel⟩
theorem ok_strP {f : Addr} {fd : FuncData} (F : MtP K "__str__" "Pair.__str__" (pairM 4) f fd) (W : BopK P w K mg base CB C BR) (T : PairC K CP) :
    FnOk P w K mg base CX0 9 f fd ["self"] (spStrP CP CB C) := by
  obtain ⟨fS, fdS, MS, GS, bS⟩ := W.strB
  refine F.ok scSP (fun vs H Q E h => ?_) (fun cdv A outer s H vs Q E hr h => ?_)
  · obtain ⟨a, u, zs, B, c, rfl, _⟩ := h
    rfl
  · obtain ⟨a, u, zs, B, c, rfl, hp, hB, hc, l4, k⟩ := h
    have hr8 : Room 8 _ := hr
    refine ⟨_, PSs.nox (pss_one (ps_ret (pe_joined (PJ.cons (pe_fmtO MS W.fmB W.moB GS (by exact hr8.mono (by decide)) bS (E := E0) pass0 (pe_fld (pv 0) rfl)) (PJ.cons pe_str (PJ.cons (pe_fmtO MS W.fmB W.moB GS (by exact hr8.mono (by decide)) bS (E := E0) pass0 (pe_fld (pv 0) rfl)) PJ.nil)))))), ?_⟩
    have tF := T.no "first" (by simp)
    have tS := T.no "second" (by simp)
    obtain ⟨dx, b, f1, f2, tp, zf, zl, ha, hb, hf, hl⟩ := hp
    obtain rfl := hb.gainZs hf
    obtain rfl := hb.lossZs hl
    have lf : (gainZ u zs).length ≤ 4 := Nat.le_trans (List.length_filter_le _ _) l4
    have ll : (lossZ u zs).length ≤ 4 := Nat.le_trans (List.length_filter_le _ _) l4
    have t1 := hf.text_ok hB hc lf
    have t2 := hl.text_ok hB hc ll
    have w3 : (Str.ofString " : ").length = 3 := rfl
    have e0 : Str.empty.length = 0 := rfl
    refine ⟨_, rfl, a, CP, dx, _, _, rfl, ha, T.cls, tF, rfl, f1, rfl, hf.ins, hf.text hB hc lf fun H1 s1 => ⟨_, rfl, ?_⟩⟩
    refine ⟨_, rfl, by rw [sizeLine_eq]; simp only [strLen_append]; omega, _, rfl, by rw [sizeLine_eq]; simp only [strLen_append]; omega, ?_⟩
    refine ⟨_, rfl, a, CP, dx, _, _, rfl, s1 _ _ ha, T.cls, tS, rfl, f2, rfl, (hl.same s1).ins, (hl.same s1).text hB hc ll fun H2 s2 => ⟨_, rfl, ?_⟩⟩
    refine ⟨_, rfl, by rw [sizeLine_eq]; simp only [strLen_append]; omega, ?_⟩
    exact k H2 (s1.trans s2)
theorem scSC : FnScope ["self"] ["self"] (defScope (compM 4)) := ⟨rfl, rfl, rfl, by decide +kernel, rfl, by decide +kernel, by decide +kernel⟩
theorem ok_strC {f : Addr} {fd : FuncData} (F : MtP K "__str__" "Comparison.__str__" (compM 4) f fd) (W : BopK P w K mg base CB C BR) (T : CompC K CM) :
    FnOk P w K mg base CX0 11 f fd ["self"] (spStrC CM CP CB C) := by
  obtain ⟨fS, fdS, MS, GS, bS⟩ := W.strB
  obtain ⟨fGa, fdGa, MGa, GGa, bGa⟩ := W.gains
  obtain ⟨fLo, fdLo, MLo, GLo, bLo⟩ := W.losses
  have B' := W.O.B
  refine F.ok scSC (fun vs H Q E h => ?_) (fun cdv A outer s H vs Q E hr h => ?_)
  · obtain ⟨a, k, u, zs, B, c, rfl, _⟩ := h
    rfl
  · obtain ⟨a, kd, u, zs, B, c, rfl, hp, hB, hc, l4, k⟩ := h
    have hr10 : Room 10 _ := hr
    refine ⟨_, PSs.nox (pss_one (ps_ret (pe_joined (PJ.cons (pe_fmtO MS W.fmB W.moB GS (by exact hr10.mono (by decide)) bS (E := E0) pass0 (pe_meth0 (pe_fld (pv 0) rfl) B'.T.cls MGa GGa hr10 bGa .nil (E := E0) pass0)) (PJ.cons pe_str (PJ.cons (pe_fmt (pe_fld (pv 0) rfl)) (PJ.cons pe_str (PJ.cons (pe_fmtO MS W.fmB W.moB GS (by exact hr10.mono (by decide)) bS (E := E0) pass0 (pe_meth0 (pe_fld (pv 0) rfl) B'.T.cls MLo GLo hr10 bLo .nil (E := E0) pass0)) PJ.nil)))))))), ?_⟩
    have tB := T.no "balance" (by simp)
    have tK := T.no "kind" (by simp)
    obtain ⟨dx, b, tp, pr, ha, hb, _⟩ := hp
    have w1 : (Str.ofString " ").length = 1 := rfl
    have e0 : Str.empty.length = 0 := rfl
    have lk : kd.s.length ≤ 2 := by cases kd <;> decide
    obtain ⟨x2, x3, x4, x5, x6, hab⟩ := hb.at_
    refine ⟨_, rfl, a, CM, dx, _, _, rfl, ha, T.cls, tB, rfl, b, x2, _, rfl, hab, rfl, nilI (hb.gains fun f1 zf H1 s1 lf hf => ?_)⟩
    obtain rfl := hb.gainZs hf
    have lf : (gainZ u zs).length ≤ 4 := Nat.le_trans (List.length_filter_le _ _) l4
    have ll : (lossZ u zs).length ≤ 4 := Nat.le_trans (List.length_filter_le _ _) l4
    have t1 := hf.text_ok hB hc lf
    refine ⟨f1, rfl, hf.ins, hf.text hB hc lf fun H2 s2 => ⟨_, rfl, ?_⟩⟩
    have s12 := s1.trans s2
    have hb2 := hb.same s12
    refine ⟨_, rfl, by rw [sizeLine_eq]; simp only [strLen_append]; omega, _, rfl, by rw [sizeLine_eq]; simp only [strLen_append]; omega, ?_⟩
    refine ⟨_, rfl, a, CM, dx, _, _, rfl, s12 _ _ ha, T.cls, tK, rfl, .inl ⟨kd.s, rfl, by rw [sizeLine_eq]; omega, _, rfl, by rw [sizeLine_eq]; simp only [strLen_append]; omega, ?_⟩⟩
    refine ⟨_, rfl, by rw [sizeLine_eq]; simp only [strLen_append]; omega, ?_⟩
    refine ⟨_, rfl, a, CM, dx, _, _, rfl, s12 _ _ ha, T.cls, tB, rfl, b, x2, _, rfl, s12 _ _ hab, rfl, nilI (hb2.losses ⟨by omega, by omega⟩ fun f2 zl H3 s3 lf3 hl => ?_)⟩
    obtain rfl := hb2.lossZs hl
    have t2 := hl.text_ok hB hc ll
    refine ⟨f2, rfl, hl.ins, hl.text hB hc ll fun H4 s4 => ⟨_, rfl, ?_⟩⟩
    refine ⟨_, rfl, by rw [sizeLine_eq]; simp only [strLen_append]; omega, ?_⟩
    exact k H4 (s12.trans (s3.trans s4))
end
end K09
namespace K09
open PySem PySem.Spec PyProof.Rows L2 RatM ClX
theorem consC {v : V} {σ : L2.St} {H : Hp} {f : List V → Hp → Prop} (h : f [v] H) : tCons (tC v) tNil σ H f := h
def spWithin (K : PySem.W.Frag) : Sp := fun vs H Q _ => ∃ (x : V) (lo hi : Int), vs = [x, .int lo, .int hi] ∧ ((∃ i, x = .int i ∧ Q (.bl (decide (lo ≤ i) && decide (i ≤ hi))) H) ∨ (IntIs K H x false ∧ Q (.bl false) H))
/-- few things have a number -/
def Few (v : Str → Rat) : Prop := ∃ ths : List Str, ths.length ≤ 4 ∧ ∀ n, v n ≠ 0 → n ∈ ths
theorem nodup_le : ∀ {l m : List Str}, l.Nodup → (∀ n ∈ l, n ∈ m) → l.length ≤ m.length
  | [], _, _, _ => Nat.zero_le _
  | x :: t, m, h, s => by
    obtain ⟨h1, h2⟩ := List.nodup_cons.mp h
    have mx := s x List.mem_cons_self
    have := nodup_le (l := t) (m := m.erase x) h2 fun n mn => (List.mem_erase_of_ne fun z => h1 (by rw [← z]; exact mn)).mpr (s n (List.mem_cons_of_mem _ mn))
    rw [List.length_erase_of_mem mx] at this
    have := List.length_pos_of_mem mx
    rw [List.length_cons]
    omega
theorem BX.few {H : Hp} {a CB C : Addr} {v : Str → Rat} {zs : List Str} {B c : Nat} (h : BX H a CB C v zs B c) (f : Few v) : zs.length ≤ 4 := by
  obtain ⟨g, h1, hv, hz⟩ := h
  obtain ⟨ths, l, s⟩ := f
  exact Nat.le_trans (nodup_le hv.ok.ns.nd fun n m => s n ((hv.mem n).mp m)) l
theorem BX.some {H : Hp} {a CB C : Addr} {v : Str → Rat} {zs : List Str} {B c : Nat} (h : BX H a CB C v zs B c) : zs ≠ [] ↔ ∃ n, v n ≠ 0 := by
  obtain ⟨g, h1, hv, hz⟩ := h
  constructor
  · intro z
    cases zs with
    | nil => exact absurd rfl z
    | cons n t => exact ⟨n, (hv.mem n).mp List.mem_cons_self⟩
  · rintro ⟨n, e⟩ z
    have := (hv.mem n).mpr e
    rw [z] at this
    cases this
section
variable {P : Program} {w : World} {K : PySem.W.Frag} {mg : Str → Option Value} {base : Heap} {C BR CB BB BP BC BN CP CM : Addr}
theorem scWi : FnScope ["value", "least", "most"] ["value", "least", "most"] (defScope (top 20)) := ⟨rfl, rfl, rfl, by decide +kernel, rfl, by decide +kernel, by decide +kernel⟩
theorem ok_isWithin {f fI : Addr} {fd fdI : FuncData} (F : FnP K "is_within" (top 20) f fd)
    (GI : FnOk P w K mg base CX0 1 fI fdI ["value"] (spIsI K)) (bI : Binds K fdI ["value"] []) (kI : PySem.W.keepIn K (.ref fI) = true) (gI : mg "is_integer" = some (.ref fI)) : FnOk P w K mg base CX0 2 f fd ["value", "least", "most"] (spWithin K) := by
  refine F.ok scWi (fun vs H Q E h => ?_) (fun cdv A outer s H vs Q E hr h => ?_)
  · obtain ⟨x, lo, hi, rfl, _⟩ := h
    rfl
  · obtain ⟨x, lo, hi, rfl, h⟩ := h
    have hr1 : Room 1 _ := hr
    refine ⟨_, PSs.nox (pss_cons (ps_if (pt_not (pt_val (pe_call GI hr1 rfl gI kI bI .nil pass0 (pa_cons (pv 0) pa_nil)))) (pss_one (ps_ret pe_bl)) pss_nil)
      (pss_one (ps_ret (pe_and (pe_or (pe_cmpR op_isN (pv 1) pe_non (nomark _)) (pe_one (pe_cmpR op_ge (pv 0) (pv 1) (nomark _)))) (pe_one (pe_or (pe_cmpR op_isN (pv 2) pe_non (nomark _)) (pe_one (pe_cmpR op_le (pv 0) (pv 2) (nomark _))))))))), ?_⟩
    rcases h with ⟨i, rfl, k⟩ | ⟨hx, k⟩
    · refine ⟨_, rfl, nilI ⟨_, true, rfl, intIs_int i, true, rfl, iteF ?_⟩⟩
      dsimp only [tNext, tSeq]
      refine ⟨_, rfl, rfl, false, rfl, iteF ?_⟩
      refine ⟨_, rfl, _, rfl, _, _, rfl, rfl, decide (lo ≤ i), rfl, ite2 (fun c => ?_) (fun c => ?_)⟩
      · rw [show decide (lo ≤ i) = true from c, Bool.true_and] at k
        refine ⟨_, rfl, rfl, false, rfl, iteF ?_⟩
        exact ⟨_, rfl, _, rfl, _, _, rfl, rfl, k⟩
      · rw [show decide (lo ≤ i) = false from Bool.not_eq_true _ |>.mp c, Bool.false_and] at k
        exact k
    · refine ⟨_, rfl, nilI ⟨_, false, rfl, hx, false, rfl, iteT ?_⟩⟩
      exact k
theorem PairAt.up {H : Hp} {p CP CB C : Addr} {u : Str → Rat} {zs : List Str} {B c B2 : Nat} (h : PairAt H p CP CB C u zs B c) (h1 : B ≤ B2) : PairAt H p CP CB C u zs B2 c := by
  obtain ⟨dx, b, f, s', tp, zf, zl, h0, h2, h3, h4⟩ := h
  exact ⟨dx, b, f, s', tp, zf, zl, h0, h2.up h1 (Nat.le_refl _), h3.up h1 (Nat.le_refl _), h4.up h1 (Nat.le_refl _)⟩
theorem CompAt.up {H : Hp} {m CM CP CB C : Addr} {k : Kd} {u : Str → Rat} {zs : List Str} {B c B2 : Nat} (h : CompAt H m CM CP CB C k u zs B c) (h1 : B ≤ B2) : CompAt H m CM CP CB C k u zs B2 c := by
  obtain ⟨dx, b, tp, pr, h0, h2, h3⟩ := h
  exact ⟨dx, b, tp, pr, h0, h2.up h1 (Nat.le_refl _), h3.up (by omega)⟩
/-- the contraries of a row -/
def contr : Kd → (Str → Rat) → List (Kd × (Str → Rat))
  | .gt, u => [(.ge, fun n => -u n)]
  | .ge, u => [(.gt, fun n => -u n)]
  | .eq, u => [(.gt, u), (.gt, fun n => -u n)]
def spContr (CM CP CB C : Addr) : Sp := fun vs H Q _ => ∃ (a : Addr) (k : Kd) (u : Str → Rat) (zs : List Str) (B c : Nat), vs = [.ref a] ∧ CompAt H a CM CP CB C k u zs B c ∧ B ≤ 600 ∧ c ≤ 11 ∧ zs.length ≤ 4 ∧ zs ≠ [] ∧ LeastV u u zs ∧
  ∀ p ms H', Same H H' → H' p = some (.tup (ms.map V.ref)) → Paired (fun m x => CompAt H' m CM CP CB C x.1 x.2 zs (B + 66) 2) ms (contr k u) → Q (.ref p) H'
theorem scCt : FnScope ["self"] ["self"] (defScope (compM 2)) := ⟨rfl, rfl, rfl, by decide +kernel, rfl, by decide +kernel, by decide +kernel⟩
theorem ok_contr {f : Addr} {fd : FuncData} (F : MtP K "contraries" "Comparison.contraries" (compM 2) f fd) (W : BopK P w K mg base CB C BR) (CK : CompK P w K mg base CM CP CB C BB BC) :
    FnOk P w K mg base CX0 17 f fd ["self"] (spContr CM CP CB C) := by
  obtain ⟨fN, fdN, MN, GN, bN⟩ := W.neg
  have T := CK.T
  refine F.ok scCt (fun vs H Q E h => ?_) (fun cdv A outer s H vs Q E hr h => ?_)
  · obtain ⟨a, k, u, zs, B, c, rfl, _⟩ := h
    rfl
  · obtain ⟨a, kd, u, zs, B, c, rfl, hp, hB, hc, l4, zn, L, k⟩ := h
    have hr16 : Room 16 _ := hr
    have hr11 : Room 11 _ := hr16.mono (by decide)
    have tB := T.no "balance" (by simp)
    have tK := T.no "kind" (by simp)
    refine ⟨_, PSs.nox (pss_cons (ps_if (pt_cmpR op_eq (pe_fld (pv 0) rfl) pe_str (nomark _)) (pss_one (ps_ret (pe_tup (pa_cons (pe_comp CK hr16 (E := E0) passL rfl (pa_cons (pe_un (un_ownNeg MN GN hr11 bN (E := E0) passL) (pe_fld (pv 0) rfl)) (pa_cons pe_str pa_nil))) pa_nil)))) pss_nil)
      (pss_cons (ps_if (pt_cmpR op_eq (pe_fld (pv 0) rfl) pe_str (nomark _)) (pss_one (ps_ret (pe_tup (pa_cons (pe_comp CK hr16 (E := E0) passL rfl (pa_cons (pe_un (un_ownNeg MN GN hr11 bN (E := E0) passL) (pe_fld (pv 0) rfl)) (pa_cons pe_str pa_nil))) pa_nil)))) pss_nil)
      (pss_one (ps_ret (pe_tup (pa_cons (pe_comp CK hr16 (E := E0) passL rfl (pa_cons (pe_fld (pv 0) rfl) (pa_cons pe_str pa_nil))) (pa_cons (pe_comp CK hr16 (E := E0) passL rfl (pa_cons (pe_un (un_ownNeg MN GN hr11 bN (E := E0) passL) (pe_fld (pv 0) rfl)) (pa_cons pe_str pa_nil))) pa_nil))))))), ?_⟩
    obtain ⟨dx, b, tp, pr, ha, hb, _⟩ := hp
    have mkN : ∀ (k2 : Kd) (H1 : Hp) (Q2 : VK), k2 ≠ .eq → Same H H1 → (∀ m H2, Same H1 H2 → CompAt H2 m CM CP CB C k2 (fun n => -u n) zs (B + 66) 2 → Q2 (.ref m) H2) →
        tComp K CM CP CB C BB BC E0 (tCons (tUn (rOwn1 CB (spNegB CB C) E0) (tFld K (tVar 0) (Str.ofString "balance"))) (tCons (tC (V.str k2.s)) tNil)) (L2.start [Str.ofString "self"] [V.ref a]) H1 Q2 := by
      intro k2 H1 Q2 ne s1 q
      refine ⟨_, rfl, a, CM, dx, _, _, rfl, s1 _ _ ha, T.cls, tB, rfl, b, rfl, (hb.same s1).ins, (hb.same s1).neg ⟨by omega, by omega⟩ fun b2 H2 s2 hb2 => consC ⟨_, _, rfl, .inl ⟨b2, _, zs, B + 1, c + 1, k2, rfl, rfl, hb2, by omega, by omega, l4, zn, fun u2 L2 m H3 s3 _ hm => ?_⟩⟩⟩
      obtain rfl := L.neg.one L2
      rw [show kupV k2 (fun n => -u n) zs = (fun n => -u n) from if_neg ne] at hm
      exact q m H3 (s2.trans s3) hm
    cases kd
    · refine ⟨_, rfl, a, CM, dx, _, _, rfl, ha, T.cls, tK, rfl, rfl, true, rfl, iteT ?_⟩
      refine mkN .ge H _ (by decide) (Same.refl _) fun m H1 s1 hm => nilI ⟨by rw [sizeLine_eq]; show 1 ≤ 16777216; decide, fun p np => ?_⟩
      have s2 := same_upd (o := .tup [V.ref m]) np
      exact k p [m] _ (s1.trans s2) upd_same (.cons (hm.same s2) .nil)
    · refine ⟨_, rfl, a, CM, dx, _, _, rfl, ha, T.cls, tK, rfl, rfl, false, rfl, iteF ?_⟩
      dsimp only [tNext, tSeq]
      refine ⟨_, rfl, a, CM, dx, _, _, rfl, ha, T.cls, tK, rfl, rfl, true, rfl, iteT ?_⟩
      refine mkN .gt H _ (by decide) (Same.refl _) fun m H1 s1 hm => nilI ⟨by rw [sizeLine_eq]; show 1 ≤ 16777216; decide, fun p np => ?_⟩
      have s2 := same_upd (o := .tup [V.ref m]) np
      exact k p [m] _ (s1.trans s2) upd_same (.cons (hm.same s2) .nil)
    · refine ⟨_, rfl, a, CM, dx, _, _, rfl, ha, T.cls, tK, rfl, rfl, false, rfl, iteF ?_⟩
      dsimp only [tNext, tSeq]
      refine ⟨_, rfl, a, CM, dx, _, _, rfl, ha, T.cls, tK, rfl, rfl, false, rfl, iteF ?_⟩
      dsimp only [tNext, tSeq]
      refine ⟨_, rfl, a, CM, dx, _, _, rfl, ha, T.cls, tB, rfl, consC ⟨_, _, rfl, .inl ⟨b, u, zs, B, c, .gt, rfl, rfl, hb, by omega, by omega, l4, zn, fun u2 L2 m1 H1 s1 _ hm1 => ?_⟩⟩⟩
      obtain rfl := L.one L2
      rw [show kupV .gt u2 zs = u2 from if_neg (by decide)] at hm1
      refine mkN .gt H1 _ (by decide) s1 fun m2 H2 s2 hm2 => nilI ⟨by rw [sizeLine_eq]; show 2 ≤ 16777216; decide, fun p np => ?_⟩
      have s3 := same_upd (o := .tup [V.ref m1, V.ref m2]) np
      exact k p [m1, m2] _ (s1.trans (s2.trans s3)) upd_same (.cons ((hm1.same (s2.trans s3)).up (by omega)) (.cons (hm2.same s3) .nil))
end
end K09
namespace K09
open PySem PySem.Spec PyProof.Rows L2 RatM ClX
/-- the row of an outcome -/
def rowK (i : Int) : Kd := if i = 0 then .eq else .gt
def rowU (i : Int) (u : Str → Rat) : Str → Rat := if i = 0 then u else fun n => u n * (i : Rat)
theorem LeastV.sign {u : Str → Rat} {zs : List Str} {i : Int} (h : LeastV u u zs) (hi : i = 1 ∨ i = -1) : LeastV (fun n => u n * (i : Rat)) (fun n => u n * (i : Rat)) zs := by
  rcases hi with rfl | rfl
  · have e : (fun n => u n * ((1 : Int) : Rat)) = u := by
      funext n
      have : ((1 : Int) : Rat) = 1 := rfl
      rw [this]; grind
    rw [e]; exact h
  · have e : (fun n => u n * ((-1 : Int) : Rat)) = fun n => -u n := by
      funext n
      have : ((-1 : Int) : Rat) = -1 := rfl
      rw [this]; grind
    rw [e]; exact h.neg
def spAsRows (K : PySem.W.Frag) (CM CP CB C BN : Addr) : Sp := fun vs H Q E => ∃ (a : Addr) (y : V) (u : Str → Rat) (zs : List Str) (B c : Nat), vs = [.ref a, y] ∧ PairAt H a CP CB C u zs B c ∧ B ≤ 600 ∧ c ≤ 11 ∧ zs.length ≤ 4 ∧ zs ≠ [] ∧ LeastV u u zs ∧ upV u zs = u ∧
  ((∃ i : Int, y = .int i ∧ -1 ≤ i ∧ i ≤ 1 ∧ ∀ m H', Same H H' → CompAt H' m CM CP CB C (rowK i) (rowU i u) zs (B + 67) 2 → Q (.ref m) H') ∨ ((IntIs K H y false ∨ ∃ i : Int, y = .int i ∧ ¬ (-1 ≤ i ∧ i ≤ 1)) ∧ Rz H E BN [("part", .str "outcome")]))
section
variable {P : Program} {w : World} {K : PySem.W.Frag} {mg : Str → Option Value} {base : Heap} {C BR CB BB BP BC BN CP CM : Addr}
theorem scAr : FnScope ["self", "outcome"] ["self", "outcome"] (defScope (pairM 2)) := ⟨rfl, rfl, rfl, by decide +kernel, rfl, by decide +kernel, by decide +kernel⟩
theorem ok_asRows {f fW : Addr} {fd fdW : FuncData} (F : MtP K "as_rows" "Pair.as_rows" (pairM 2) f fd) (W : BopK P w K mg base CB C BR) (T : PairC K CP) (CK : CompK P w K mg base CM CP CB C BB BC) (MN : ErrN P w K mg base "BadNumber" BN ["part"])
    (GW : FnOk P w K mg base CX0 2 fW fdW ["value", "least", "most"] (spWithin K)) (bW : Binds K fdW ["value", "least", "most"] []) (kW : PySem.W.keepIn K (.ref fW) = true) (gW : mg "is_within" = some (.ref fW)) :
    FnOk P w K mg base (L2.CX P w) 17 f fd ["self", "outcome"] (spAsRows K CM CP CB C BN) := by
  obtain ⟨fM, fdM, MM, GM, bM⟩ := W.mul
  obtain ⟨fMC, MMC⟩ := W.mulC
  have B' := W.O.B
  have O := W.O
  refine F.ok scAr (fun vs H Q E h => ?_) (fun cdv A outer s H vs Q E hr h => ?_)
  · obtain ⟨a, y, u, zs, B, c, rfl, _⟩ := h
    rfl
  · obtain ⟨a, y, u, zs, B, c, rfl, hp, hB, hc, l4, zn, L, up, h⟩ := h
    have hr16 : Room 16 _ := hr
    have hr11 : Room 11 _ := hr16.mono (by decide)
    have tB := T.no "balance" (by simp)
    refine ⟨_, (pss_cons (ps_if (pt_not (pt_val (pe_call GW (hr16.mono (by decide)) rfl gW kW bW .nil pass0 (pa_cons (pv 1) (pa_cons (pe_un un_neg pe_int) (pa_cons pe_int pa_nil)))))) (pss_one (ps_raiseN rfl MN (hr16.mono (by decide)) (takes_of rfl rfl rfl rfl) (by rfl) (pa_cons pe_str pa_nil))) pss_nil)
      (pss_cons (ps_if (pt_cmpR op_eq (pv 1) pe_int (nomark _)) (pss_one (ps_ret (pe_comp CK hr16 (E := E0) passL rfl (pa_cons (pe_fld (pv 0) rfl) (pa_cons pe_str pa_nil))))) pss_nil)
      (pss_one (ps_ret (pe_comp CK hr16 (E := E0) passL rfl (pa_cons (pe_op (op_ownN (op := .Mult) MM W.sfB W.rmB MMC O.sf W.rmC (Ne.symm B'.n) W.sub W.rt GM hr11 bM (E := E0) passL) (pe_fld (pv 0) rfl) (pv 1)) (pa_cons pe_str pa_nil))))))), ?_⟩
    obtain ⟨dx, b, f1, f2, tp, zf, zl, ha, hb, _⟩ := hp
    rcases h with ⟨i, rfl, i0, i1, k⟩ | ⟨hy, rz⟩
    · refine ⟨_, rfl, _, rfl, consC ⟨_, -1, 1, rfl, .inl ⟨i, rfl, true, ?_, iteF ?_⟩⟩⟩
      · rw [decide_eq_true i0, decide_eq_true i1]; rfl
      dsimp only [tNext, tSeq]
      by_cases ci : i = 0
      · subst ci
        refine ⟨_, rfl, rfl, true, rfl, iteT ?_⟩
        refine ⟨_, rfl, a, CP, dx, _, _, rfl, ha, T.cls, tB, rfl, consC ⟨_, _, rfl, .inl ⟨b, u, zs, B, c, .eq, rfl, rfl, hb, by omega, by omega, l4, zn, fun u2 L2 m H1 s1 _ hm => ?_⟩⟩⟩
        obtain rfl := L.one L2
        rw [show kupV .eq u2 zs = u2 from up] at hm
        exact k m H1 s1 (hm.up (by omega))
      · have e0 : decide (V.int i = V.int 0) = false := decide_eq_false fun z => ci (by injection z)
        refine ⟨_, rfl, rfl, false, congrArg V.bl e0, iteF ?_⟩
        dsimp only [tNext, tSeq]
        have hi : i = 1 ∨ i = -1 := by omega
        have zi : i.natAbs < 2 ^ 1 ∧ (1 : Int).natAbs < 2 ^ 1 := by rcases hi with rfl | rfl <;> decide
        refine ⟨_, rfl, a, CP, dx, _, _, rfl, ha, T.cls, tB, rfl, _, rfl, b, rfl, hb.ins, .inr ⟨i, rfl⟩, _, _, rfl, hb.times (r := (i, 1)) (i := 1) (j := 1) ⟨by omega, by omega⟩ (.inr ⟨rfl, rfl, ?_⟩) zi ⟨by decide, by decide⟩ (show (1 : Int) ≠ 0 by decide) fun b2 zs2 H1 s1 _ ez hb2 => ?_⟩
        · exact Nat.lt_of_lt_of_le zi.1 (Nat.pow_le_pow_right (by decide) (by decide))
        have vi : val (i, 1) = (i : Rat) := val_int i
        obtain rfl := ez (by rw [vi]; rcases hi with rfl | rfl <;> decide)
        refine consC ⟨_, _, rfl, .inl ⟨b2, _, zs2, B + 1, c + 1, .gt, rfl, rfl, hb2, by omega, by omega, l4, zn, fun u2 L2 m H2 s2 _ hm => ?_⟩⟩
        rw [vi] at L2
        obtain rfl := (L.sign hi).one L2
        have e : rowU i u = fun n => u n * (i : Rat) := if_neg ci
        have ek : rowK i = .gt := if_neg ci
        rw [show kupV .gt (fun n => u n * (i : Rat)) zs2 = (fun n => u n * (i : Rat)) from if_neg (by decide)] at hm
        rw [e, ek] at k
        exact k m H2 (s1.trans s2) (hm.up (by omega))
    · rcases hy with hy | ⟨i, rfl, ni⟩
      · refine ⟨_, rfl, _, rfl, consC ⟨_, -1, 1, rfl, .inr ⟨hy, false, rfl, iteT ?_⟩⟩⟩
        exact raiseN MN rfl (by decide) rz
      · refine ⟨_, rfl, _, rfl, consC ⟨_, -1, 1, rfl, .inl ⟨i, rfl, false, ?_, iteT ?_⟩⟩⟩
        · refine congrArg V.bl ?_
          rw [← Bool.not_eq_true, Bool.and_eq_true, decide_eq_true_eq, decide_eq_true_eq]
          exact ni
        · exact raiseN MN rfl (by decide) rz
end
end K09
namespace K09
open PySem PySem.Spec PyProof.Rows L2 RatM ClX
def spCompd (K : PySem.W.Frag) (CM CP CB C BB BC : Addr) : Sp := fun vs H Q E => ∃ (x k y : V), vs = [x, k, y] ∧
  ((∃ (a b : Addr) (kd : Kd) (v v2 : Str → Rat) (zs zs2 : List Str) (B c B2 c2 : Nat), x = .ref a ∧ k = .str kd.s ∧ y = .ref b ∧ BX H a CB C v zs B c ∧ BX H b CB C v2 zs2 B2 c2 ∧ B2 + B + c2 + c + 1 ≤ 700 ∧ c2 + c ≤ 12 ∧ zs.length + zs2.length ≤ 60 ∧ Few (fun n => v n + v2 n * ((-1 : Int) : Rat)) ∧ (∃ n, v n + v2 n * ((-1 : Int) : Rat) ≠ 0) ∧
      ∀ m zs' u H', Same H H' → LeastV (fun n => v n + v2 n * ((-1 : Int) : Rat)) u zs' → (∀ n, v n + v2 n * ((-1 : Int) : Rat) ≠ 0 → n ∈ zs') → CompAt H' m CM CP CB C kd (kupV kd u zs') zs' (B2 + B + c2 + c + 1 + 65) 2 → Q (.ref m) H') ∨
   (NoB K CB H x ∧ Rz H E BB [("part", .str "one")]) ∨
   (∃ a v zs B c, x = .ref a ∧ BX H a CB C v zs B c ∧ KnIs K H k false ∧ Rz H E BC [("part", .str "kind")]) ∨
   (∃ a v zs B c, x = .ref a ∧ BX H a CB C v zs B c ∧ KnIs K H k true ∧ NoB K CB H y ∧ Rz H E BB [("part", .str "other")]) ∨
   (∃ (a b : Addr) (kd : Kd) (v v2 : Str → Rat) (zs zs2 : List Str) (B c B2 c2 : Nat), x = .ref a ∧ k = .str kd.s ∧ y = .ref b ∧ BX H a CB C v zs B c ∧ BX H b CB C v2 zs2 B2 c2 ∧ B ≤ 900 ∧ c ≤ 900 ∧ B2 ≤ 900 ∧ c2 ≤ 900 ∧ zs.length + zs2.length ≤ 60 ∧ (∀ n, v n + v2 n * ((-1 : Int) : Rat) = 0) ∧ Rz H E BC [("part", .str "balance")]))
section
variable {P : Program} {w : World} {K : PySem.W.Frag} {mg : Str → Option Value} {base : Heap} {C BR CB BB BP BC BN CP CM : Addr}
theorem scCd : FnScope ["one", "kind", "other"] ["one", "kind", "other"] (defScope (top 67)) := ⟨rfl, rfl, rfl, by decide +kernel, rfl, by decide +kernel, by decide +kernel⟩
theorem ok_compared {f fK : Addr} {fd fdK : FuncData} (F : FnP K "compared" (top 67) f fd) (W : BopK P w K mg base CB C BR) (CK : CompK P w K mg base CM CP CB C BB BC) (MB : ErrN P w K mg base "BadBalance" BB ["part"]) (MC : ErrN P w K mg base "BadComparison" BC ["part"])
    (GK : FnOk P w K mg base CX0 1 fK fdK ["value"] (spKind K)) (bK : Binds K fdK ["value"] []) (kK : PySem.W.keepIn K (.ref fK) = true) (gK : mg "is_kind" = some (.ref fK)) :
    FnOk P w K mg base (L2.CX P w) 17 f fd ["one", "kind", "other"] (spCompd K CM CP CB C BB BC) := by
  obtain ⟨fS, fdS, MS, GS, bS⟩ := W.sub2
  have B' := W.O.B
  have R := W.O.R
  refine F.ok scCd (fun vs H Q E h => ?_) (fun cdv A outer s H vs Q E hr h => ?_)
  · obtain ⟨x, k, y, rfl, _⟩ := h
    rfl
  · obtain ⟨x, kv, y, rfl, h⟩ := h
    have hr16 : Room 16 _ := hr
    have hr11 : Room 11 _ := hr16.mono (by decide)
    refine ⟨_, (pss_cons (ps_if (pt_not (pt_val (pe_callB call_isi (by rfl) R.bi (by decide +kernel) (pa_cons (pv 0) (pa_cons (pe_glob (v := .ref _) rfl B'.g rfl) pa_nil))))) (pss_one (ps_raiseN rfl MB (hr16.mono (by decide)) (takes_of rfl rfl rfl rfl) (by rfl) (pa_cons pe_str pa_nil))) pss_nil)
      (pss_cons (ps_if (pt_not (pt_val (pe_call GK (hr16.mono (by decide)) rfl gK kK bK .nil pass0 (pa_cons (pv 1) pa_nil)))) (pss_one (ps_raiseN rfl MC (hr16.mono (by decide)) (takes_of rfl rfl rfl rfl) (by rfl) (pa_cons pe_str pa_nil))) pss_nil)
      (pss_cons (ps_if (pt_not (pt_val (pe_callB call_isi (by rfl) R.bi (by decide +kernel) (pa_cons (pv 2) (pa_cons (pe_glob (v := .ref _) rfl B'.g rfl) pa_nil))))) (pss_one (ps_raiseN rfl MB (hr16.mono (by decide)) (takes_of rfl rfl rfl rfl) (by rfl) (pa_cons pe_str pa_nil))) pss_nil)
      (pss_one (ps_ret (pe_comp CK hr16 (passE (takes_of rfl rfl rfl rfl)) rfl (pa_cons (pe_op (op_ownC (op := .Sub) MS W.sfB GS hr11 bS (E := E0) passL) (pv 0) (pv 2)) (pa_cons (pv 1) pa_nil)))))))), ?_⟩
    have isB : ∀ {a : Addr} {v : Str → Rat} {zs : List Str} {B c : Nat}, BX H a CB C v zs B c → TyX K H (.ref a) (.ref CB) := fun hb => let ⟨_, h1, _⟩ := hb; W.tyB _ _ _ _ h1
    rcases h with ⟨a, b, kd, v, v2, zs, zs2, B, c, B2, c2, rfl, rfl, rfl, ha, hb, hB, hc, ll, few, som, k⟩ | ⟨⟨t, ty, kk⟩, rz⟩ | ⟨a, v, zs, B, c, rfl, ha, hk, rz⟩ | ⟨a, v, zs, B, c, rfl, ha, hk, ⟨t, ty, kk⟩, rz⟩ | ⟨a, b, kd, v, v2, zs, zs2, B, c, B2, c2, rfl, rfl, rfl, ha, hb, h1, h2, h3, h4, ll, e0, rz⟩
    · refine ⟨_, rfl, _, _, _, _, _, rfl, .own CB, isB ha, W.cc, true, rfl, iteF ?_⟩
      dsimp only [tNext, tSeq]
      refine ⟨_, rfl, nilI ⟨_, true, rfl, KnIs.kd kd, true, rfl, iteF ?_⟩⟩
      dsimp only [tNext, tSeq]
      refine ⟨_, rfl, _, _, _, _, _, rfl, .own CB, isB hb, W.cc, true, rfl, iteF ?_⟩
      dsimp only [tNext, tSeq]
      refine ⟨_, rfl, _, rfl, a, b, rfl, rfl, ha.ins, hb.ins, ha.sum hb ⟨by omega, by omega, by omega, by omega⟩ ll (.inr rfl) fun d zs' H1 s1 _ hd => ?_⟩
      refine ⟨_, rfl, nilI ⟨_, _, rfl, .inl ⟨d, _, zs', _, _, kd, rfl, rfl, hd, hB, hc, hd.few few, hd.some.mpr som, fun u L m H2 s2 _ hm => ?_⟩⟩⟩
      exact k m zs' u H2 (s1.trans s2) L (fun n c => let ⟨_, _, hv, _⟩ := hd; (hv.mem n).mpr c) hm
    · refine ⟨_, rfl, _, _, _, _, _, rfl, .own CB, ty, kk, false, rfl, iteT ?_⟩
      exact raiseN MB rfl (by decide) rz
    · refine ⟨_, rfl, _, _, _, _, _, rfl, .own CB, isB ha, W.cc, true, rfl, iteF ?_⟩
      dsimp only [tNext, tSeq]
      refine ⟨_, rfl, nilI ⟨_, false, rfl, hk, false, rfl, iteT ?_⟩⟩
      exact raiseN MC rfl (by decide) rz
    · refine ⟨_, rfl, _, _, _, _, _, rfl, .own CB, isB ha, W.cc, true, rfl, iteF ?_⟩
      dsimp only [tNext, tSeq]
      refine ⟨_, rfl, nilI ⟨_, true, rfl, hk, true, rfl, iteF ?_⟩⟩
      dsimp only [tNext, tSeq]
      refine ⟨_, rfl, _, _, _, _, _, rfl, .own CB, ty, kk, false, rfl, iteT ?_⟩
      exact raiseN MB rfl (by decide) rz
    · refine ⟨_, rfl, _, _, _, _, _, rfl, .own CB, isB ha, W.cc, true, rfl, iteF ?_⟩
      dsimp only [tNext, tSeq]
      refine ⟨_, rfl, nilI ⟨_, true, rfl, KnIs.kd kd, true, rfl, iteF ?_⟩⟩
      dsimp only [tNext, tSeq]
      refine ⟨_, rfl, _, _, _, _, _, rfl, .own CB, isB hb, W.cc, true, rfl, iteF ?_⟩
      dsimp only [tNext, tSeq]
      refine ⟨_, rfl, _, rfl, a, b, rfl, rfl, ha.ins, hb.ins, ha.sum hb ⟨by omega, by omega, by omega, by omega⟩ ll (.inr rfl) fun d zs' H1 s1 _ hd => ?_⟩
      have z0 : zs' = [] := Classical.byContradiction fun z => by
        obtain ⟨n, e⟩ := hd.some.mp z
        exact e (e0 n)
      subst z0
      exact ⟨_, rfl, nilI ⟨_, _, rfl, .inr (.inr (.inl ⟨d, _, _, _, rfl, hd, Rz.same rz s1⟩))⟩⟩
end
end K09
namespace K09
open PySem PySem.Spec PyProof.Rows L2 RatM ClX
abbrev scaM (i : Nat) : Stmt := inClass (top 74) i
/-- the class of scales -/
structure ScaC (K : PySem.W.Frag) (CS : Addr) : Prop where
  cls : Cls K CS
  no : ∀ f ∈ ([("_worths" : Str), ("things" : Str)] : List Str), NoAttr K CS f
def scaF (d t : Addr) : List (Str × V) := putF "things" (.ref t) (putF "_worths" (.ref d) [])
/-- a scale that gives the things ys the worths g -/
def ScaAt (H : Hp) (a CS C : Addr) (g : Str → Int × Int) (ys : List Str) : Prop := ∃ dx d t kvs, H a = some (.ins CS dx (scaF d t)) ∧ H d = some (.dK kvs) ∧ RatD H C g kvs ys
theorem ScaAt.same {H H' : Hp} {a CS C : Addr} {g : Str → Int × Int} {ys : List Str} (h : ScaAt H a CS C g ys) (s : Same H H') : ScaAt H' a CS C g ys := by
  obtain ⟨dx, d, t, kvs, h1, h2, h3⟩ := h
  exact ⟨dx, d, t, kvs, s _ _ h1, s _ _ h2, h3.same s⟩
theorem ScaAt.ins {H : Hp} {a CS C : Addr} {g : Str → Int × Int} {ys : List Str} (h : ScaAt H a CS C g ys) : InsAt H a CS := by
  obtain ⟨dx, d, t, kvs, h1, _⟩ := h
  exact ⟨dx, _, h1⟩
theorem RatD.but {H H' : Hp} {p dx CP C : Addr} {fs : List (Str × V)} {g : Str → Int × Int} {kvs : List (Key × V)} {ys : List Str} (h : RatD H C g kvs ys) (hp : H p = some (.ins CP dx fs)) (n2 : CP ≠ C) (k : But p H H') : RatD H' C g kvs ys :=
  Paired.mono' (fun _ _ ⟨x1, b', x2, dxb, x3⟩ => ⟨x1, b', x2, dxb, k _ _ (fun z => by
    rw [z, hp] at x3
    injection x3 with x3
    injection x3 with x3
    exact n2 x3) x3⟩) h
/-- what a scale may be made of -/
def ScaOf (C : Addr) (x : V) (H : Hp) (Q : (Str → Int × Int) → List Str → Prop) : Prop := ∃ (d : Addr) (kvs : List (Key × V)) (ks : List Str) (g : Str → Int × Int), x = .ref d ∧ H d = some (.dK kvs) ∧ NumD H C g kvs ks ∧ NsOk ks ∧ ∀ ys, ys.Perm ks → sortedS ys = true → Q g ys
def spScaI (CS C : Addr) : Sp := fun vs H Q _ => ∃ (p dx : Addr) (x : V), vs = [.ref p, x] ∧ H p = some (.ins CS dx []) ∧ ScaOf C x H fun g ys => ∀ H', But p H H' → ScaAt H' p CS C g ys → Q .non H'
section
variable {P : Program} {w : World} {K : PySem.W.Frag} {mg : Str → Option Value} {base : Heap} {C BR CB BB BP BC BN CP CM CS BS : Addr}
theorem scSI : FnScope ["self", "numbers", "told"] ["self", "numbers"] (defScope (scaM 0)) := ⟨rfl, rfl, rfl, by decide +kernel, rfl, by decide +kernel, by decide +kernel⟩
theorem ok_scaInit {f fN : Addr} {fd fdN : FuncData} (F : MtP K "__init__" "Scale.__init__" (scaM 0) f fd) (T : ScaC K CS) (n2 : CS ≠ C) (M : ErrN P w K mg base "BadScale" BS ["part"]) (bT : mg "tuple" = none)
    (GN : FnOk P w K mg base CX0 7 fN fdN ["value"] (spNin K C)) (bN : Binds K fdN ["value"] []) (kN : PySem.W.keepIn K (.ref fN) = true) (gN : mg "numbers_in" = some (.ref fN)) :
    FnOk P w K mg base (L2.CX P w) 8 f fd ["self", "numbers"] (spScaI CS C) := by
  refine F.ok scSI (fun vs H Q E h => ?_) (fun cdv A outer s H vs Q E hr h => ?_)
  · obtain ⟨p, dx, x, rfl, _⟩ := h
    rfl
  · obtain ⟨p, dx, x, rfl, hp, d, kvs, ks, g, rfl, hd, hk, ok, k⟩ := h
    have hr7 : Room 7 _ := hr
    refine ⟨_, (pss_cons (ps_set (i := 2) scSI.nd rfl (.inl rfl) (pe_call GN hr7 rfl gN kN bN .nil pass0 (pa_cons (pv 1) pa_nil)))
      (pss_cons (ps_if (pt_cmpR op_isN (pv 2) pe_non (nomark _)) (pss_one (ps_raiseN rfl M (hr7.mono (by decide)) (takes_of rfl rfl rfl rfl) (by rfl) (pa_cons pe_str pa_nil))) pss_nil)
      (pss_cons (ps_fld (pv 0) (pv 2) (by rfl))
      (pss_one (ps_fld (pv 0) (pe_callTy (call_tuple_dK rfl) (by rfl) bT PyProof.Rows.boot_tuple (pa_cons (pv 2) pa_nil)) (by rfl)))))), ?_⟩
    have nW := T.no "_worths" (by simp)
    have nT := T.no "things" (by simp)
    refine ⟨_, rfl, d, kvs, ks, g, rfl, hd, hk, ok.nd, ok.le, ok.nm, fun r ys kvs1 H1 s1 nr py sy hr1 hR1 => ?_⟩
    refine ⟨_, rfl, rfl, false, rfl, iteF ?_⟩
    dsimp only [tNext, tSeq, tAsg]
    have hp1 := s1 _ _ hp
    refine ⟨_, rfl, _, rfl, p, CS, dx, _, rfl, hp1, T.cls, nW, by decide, ?_⟩
    have bA : But p H (upd H1 p (.ins CS dx (putF "_worths" (.ref r) []))) := But.upd fun b o _ e => s1 _ _ e
    have nrp : r ≠ p := fun e => by rw [e, hp] at nr; cases nr
    have hrA : (upd H1 p (.ins CS dx (putF "_worths" (.ref r) []))) r = some (.dK kvs1) := (upd_ne nrp).trans hr1
    have hRA := hR1.but hp1 n2 (H' := upd H1 p (.ins CS dx (putF "_worths" (.ref r) []))) (But.upd fun b o _ e => e)
    have hpA : (upd H1 p (.ins CS dx (putF "_worths" (.ref r) []))) p = some (.ins CS dx (putF "_worths" (.ref r) [])) := upd_same
    generalize upd H1 p (.ins CS dx (putF "_worths" (.ref r) [])) = HA at bA hrA hRA hpA ⊢
    dsimp only [tNext, tSeq]
    refine ⟨_, rfl, r, kvs1, rfl, hrA, fun q nq => ?_⟩
    have sq := same_upd (o := .tup (kvs1.map fun e => kV e.1)) nq
    have nqp : q ≠ p := fun e => by rw [e, hpA] at nq; cases nq
    refine ⟨_, rfl, p, CS, dx, _, rfl, sq _ _ hpA, T.cls, nT, by show 1 < 1000; decide, ?_⟩
    refine k ys py sy _ (But.upd (bA.same sq)) ⟨dx, r, q, kvs1, ?_, ?_, ?_⟩
    · rw [upd_same]
      rfl
    · rw [upd_ne nrp]
      exact sq _ _ hrA
    · exact (hRA.same sq).but (sq _ _ hpA) n2 (But.upd fun b o _ e => e)
end
/-- Scale(x) -/
def MkS (CS C : Addr) (x : V) (H : Hp) (Q : VK) : Prop := ScaOf C x H fun g ys => ∀ p H', Same H H' → H p = none → ScaAt H' p CS C g ys → Q (.ref p) H'
theorem mkS_sp {CS C : Addr} {x : V} {H : Hp} {Q : VK} {E : XK} (h : MkS CS C x H Q) (a dx : Addr) (na : H a = none) (nd : H dx = none) (ne : dx ≠ a) :
    spScaI CS C [.ref a, x] (upd (upd H dx (.own a)) a (.ins CS dx [])) (fun v H2 => v = .non ∧ Q (.ref a) H2) E := by
  have s1 : Same H (upd (upd H dx (.own a)) a (.ins CS dx [])) := fun b o e => by rw [upd_ne (ne_of_none e na), upd_ne (ne_of_none e nd)]; exact e
  obtain ⟨d, kvs, ks, g, rfl, hd, hk, ok, k⟩ := h
  exact ⟨a, dx, _, rfl, upd_same, d, kvs, ks, g, rfl, s1 _ _ hd, hk.same s1, ok, fun ys py sy H' bt hs => ⟨rfl, k ys py sy a H' (fun b o e => bt b o (ne_of_none e na) (s1 b o e)) na hs⟩⟩
/-- what the functions of scales rest on -/
structure ScaK (P : Program) (w : World) (K : PySem.W.Frag) (mg : Str → Option Value) (base : Heap) (CS C : Addr) : Prop where
  T : ScaC K CS
  n2 : CS ≠ C
  g : mg "Scale" = some (.ref CS)
  make : ∃ (f : Addr) (fd : FuncData), Mk K CS f ∧ FnOk P w K mg base (L2.CX P w) 8 f fd ["self", "numbers"] (spScaI CS C) ∧ Binds K fd ["self", "numbers"] []
section
variable {X : Cx} {CS C : Addr} {E : XK} {p pos : Pos} {e1 : Expr} {ta : TA}
def tSca (CS C : Addr) (ta : TA) : TE := fun σ H Q => ta σ H fun vs H1 => ∃ x, vs = [x] ∧ MkS CS C x H1 Q
theorem pe_sca {P : Program} {w : World} {K : PySem.W.Frag} {mg : Str → Option Value} {base : Heap} (R : ScaK P w K mg base CS C) (hr : Room 9 X.A) (hx : Passes (L2.CX X.prog X.w) X E) (hg : Gl X "Scale") (ha : PA X [e1] ta)
    (h1 : X.prog = P := by rfl) (h2 : X.w = w := by rfl) (h3 : X.K = K := by rfl) (h4 : X.mg = mg := by rfl) (h5 : X.base = base := by rfl)
    (he : starEach [e1] X.env = (false, eval e1 X.env) :: starEach [] X.env := by rfl) (hpl : (backTo pos (starEach [] X.env)).any (·.1) = false := by rfl) :
    PE X (.Call (.Name "Scale" p) [e1] [] pos) (tSca CS C ta) := by
  subst h1 h2 h3 h4 h5
  obtain ⟨f, fd, M, F, b0⟩ := R.make
  refine ⟨fun pins s σ H Q I h => ?_⟩
  refine wpAny_Call_Name_kw (ld_glob I hg R.g ?_ (by decide))
  refine PySem.W.callWith_K (h₀ := X.base) I.ok.mod.kin M.kp (thn (ha.run pos pins s σ H _ I h) fun us s1 ⟨vs, H1, I1, r, q⟩ => ⟨I1.kIn, ?_⟩) he hpl
  obtain ⟨x, rfl, q⟩ := q
  exact run_make (dvs := []) (E := E) M F hr b0 .nil hx I1 r fun a dx na nd ne => mkS_sp q a dx na nd ne
end
end K09
namespace K09
open PySem PySem.Spec PyProof.Rows L2 RatM ClX
/-- the sum of the numbers times the worths -/
def wsum (v s : Str → Rat) (zs : List Str) : Rat := zs.foldl (fun t n => t + v n * s n) 0
theorem wsum_take {v s : Str → Rat} {zs : List Str} {i : Nat} {n : Str} (e : zs[i]? = some n) : wsum v s (zs.take (i + 1)) = wsum v s (zs.take i) + v n * s n := by
  unfold wsum
  rw [List.take_add_one, e, List.foldl_append]
  rfl
def spNeed : Sp := fun vs H Q _ => ∃ (d t : Addr) (kvs : List (Key × V)) (zs : List Str), vs = [.ref d, .ref t] ∧ H d = some (.dK kvs) ∧ H t = some (.tup (zs.map V.str)) ∧ (∀ n ∈ zs, ∃ v, valV kvs (.inr n) = some v) ∧ Q .non H
def spWorth (CS CB C : Addr) : Sp := fun vs H Q _ => ∃ (a b : Addr) (g : Str → Int × Int) (ys : List Str) (v : Str → Rat) (zs : List Str) (B c : Nat), vs = [.ref a, .ref b] ∧ ScaAt H a CS C g ys ∧ (∀ n ∈ ys, Lo (g n) ∧ (g n).1.natAbs < 2 ^ 10 ∧ (g n).2.natAbs < 2 ^ 1) ∧ BX H b CB C v zs B c ∧ B ≤ 200 ∧ c ≤ 12 ∧ zs.length ≤ 4 ∧ (∀ n ∈ zs, n ∈ ys) ∧
  ∀ r x H', Same H H' → RatAt H' r C x.1 x.2 → Lo x → val x = wsum v (fun n => val (g n)) zs → Q (.ref r) H'
section
variable {P : Program} {w : World} {K : PySem.W.Frag} {mg : Str → Option Value} {base : Heap} {C BR CB BB BP BC BN CP CM CS BS BT : Addr}
theorem scNt : FnScope ["known", "names", "name"] ["known", "names"] (defScope (top 25)) := ⟨rfl, rfl, rfl, by decide +kernel, rfl, by decide +kernel, by decide +kernel⟩
theorem ok_need {f : Addr} {fd : FuncData} (F : FnP K "need_things" (top 25) f fd) (M : ErrN P w K mg base "NoThing" BT ["name"]) : FnOk P w K mg base (L2.CX P w) 4 f fd ["known", "names"] spNeed := by
  refine F.ok scNt (fun vs H Q E h => ?_) (fun cdv A outer s H vs Q E hr h => ?_)
  · obtain ⟨d, t, kvs, zs, rfl, _⟩ := h
    rfl
  · obtain ⟨d, t, kvs, zs, rfl, hd, ht, hm, k⟩ := h
    have hr3 : Room 3 _ := hr
    have hu1 : (A.deeper (envOfC (Str.ofString "need_things") (defScope (top 25)) s.heap.objs.size f cdv)).units + 1 < cLine := by have := hr3.units; omega
    refine ⟨_, (pss_one (ps_for (passes_of rfl) rfl (pi_tup (pv 1)) (pg_name (i := 2) scNt.nd rfl (.inl rfl)) (pss_one (ps_if (pt_cmp (pc_dnotin hu1 (pv 2) (pv 0)) (by rfl)) (pss_one (ps_raiseN rfl M (hr3.mono (by decide)) (takes_of rfl rfl rfl rfl) (by rfl) (pa_cons (pv 2) pa_nil))) pss_nil)))), ?_⟩
    refine ⟨_, rfl, t, rfl, ⟨_, SqT.of ht⟩, ?_⟩
    refine for_it (walk_tup (xs := zs.map V.str)) (fun i σ Hx => (∃ o, σ = [some (.ref d), some (.ref t), o]) ∧ Hx = H) ⟨⟨none, rfl⟩, rfl⟩ (fun i σ Hx _ hP => by rw [hP.2]; exact SqT.of ht) ?_ ?_
    · rintro i x σ Hx Hx' hi ⟨⟨o, rfl⟩, rfl⟩ ⟨rfl, ex⟩
      rw [List.getElem?_map] at ex
      obtain ⟨n, en, rfl⟩ := Option.map_eq_some_iff.mp ex
      obtain ⟨v, ev⟩ := hm n (List.mem_of_getElem? en)
      refine ⟨_, rfl, _, rfl, d, _, rfl, DGet.k (k := .inr n) hd, ?_⟩
      rw [ev]
      exact ⟨false, rfl, iteF ⟨⟨_, rfl⟩, rfl⟩⟩
    · rintro σ Hx ⟨⟨o, rfl⟩, rfl⟩
      exact k
theorem scWo : FnScope ["self", "balance", "total", "thing"] ["self", "balance"] (defScope (scaM 2)) := ⟨rfl, rfl, rfl, by decide +kernel, rfl, by decide +kernel, by decide +kernel⟩
theorem ok_worth {f fT : Addr} {fd fdT : FuncData} (F : MtP K "worth" "Scale.worth" (scaM 2) f fd) (W : BopK P w K mg base CB C BR) (T : ScaC K CS) (MB : ErrN P w K mg base "BadBalance" BB ["part"])
    (GT : FnOk P w K mg base (L2.CX P w) 4 fT fdT ["known", "names"] spNeed) (bT : Binds K fdT ["known", "names"] []) (kT : PySem.W.keepIn K (.ref fT) = true) (gT : mg "need_things" = some (.ref fT)) :
    FnOk P w K mg base (L2.CX P w) 9 f fd ["self", "balance"] (spWorth CS CB C) := by
  obtain ⟨fA, fdA, OA, GA, bA⟩ := W.O.add
  obtain ⟨fM, fdM, OM, GM, bM⟩ := W.O.mul
  obtain ⟨fN, fdN, MN, GN, bN⟩ := W.O.num
  have O := W.O
  have B' := W.O.B
  have R := W.O.R
  refine F.ok scWo (fun vs H Q E h => ?_) (fun cdv A outer s H vs Q E hr h => ?_)
  · obtain ⟨a, b, g, ys, v, zs, B, c, rfl, _⟩ := h
    rfl
  · obtain ⟨a, b, g, ys, v, zs, B, c, rfl, hs, hg, hb, hB, hc, l4, sub, k⟩ := h
    have hr8 : Room 8 _ := hr
    have hu1 : (A.deeper (envOfC (Str.ofString "Scale.worth") (defScope (scaM 2)) s.heap.objs.size f cdv)).units + 1 < cLine := by have := hr8.units; omega
    refine ⟨_, (pss_cons (ps_if (pt_not (pt_val (pe_callB call_isi (by rfl) R.bi (by decide +kernel) (pa_cons (pv 1) (pa_cons (pe_glob (v := .ref _) rfl B'.g rfl) pa_nil))))) (pss_one (ps_raiseN rfl MB (hr8.mono (by decide)) (takes_of rfl rfl rfl rfl) (by rfl) (pa_cons pe_str pa_nil))) pss_nil)
      (pss_cons (ps_expr (pe_call GT (hr8.mono (by decide)) rfl gT kT bT .nil (E := E0) passL (pa_cons (pe_fld (pv 0) rfl) (pa_cons (pe_fld (pv 1) rfl) pa_nil))))
      (pss_cons (ps_set (i := 2) scWo.nd rfl (.inl rfl) (pe_rat1 R (hr8.mono (by decide)) (E := E0) passL rfl (pa_cons pe_int pa_nil)))
      (pss_cons (ps_for (passes_of rfl) rfl (pi_tup (pe_fld (pv 1) rfl)) (pg_name (i := 3) scWo.nd rfl (.inl rfl)) (pss_one (ps_set (i := 2) scWo.nd rfl (.inl rfl) (pe_op (op_rat (op := .Add) O.sf O.odd OA GA bA (by exact hr8.mono (by decide)) (E := E0) passL) (pv 2) (pe_op (op_rat (op := .Mult) O.sf O.odd OM GM bM (by exact hr8.mono (by decide)) (E := E0) passL) (pe_meth (pv 1) B'.T.cls MN GN (by exact hr8.mono (by decide)) bN .nil (E := E0) pass0 (pa_cons (pv 3) pa_nil)) (pe_dget hu1 (pe_fld (pv 0) rfl) (pv 3) (fun _ _ => rfl)))))))
      (pss_one (ps_ret (pv 2))))))), ?_⟩
    obtain ⟨sdx, d, st, skvs, hsa, hsd, hsR⟩ := hs
    obtain ⟨g2, hb1, hv, hz⟩ := id hb
    obtain ⟨adx, nd, tp, kt, ha, bi⟩ := id hb1
    obtain ⟨hnd, htp, hkt⟩ := id bi
    have nT := B'.T.no "things" (by simp)
    have nW := T.no "_worths" (by simp)
    refine ⟨_, rfl, _, _, _, _, _, rfl, .own CB, W.tyB _ _ _ _ hb1, W.cc, true, rfl, iteF ?_⟩
    dsimp only [tNext, tSeq]
    refine ⟨_, rfl, a, CS, sdx, _, _, rfl, hsa, T.cls, nW, rfl, _, rfl, b, CB, adx, _, _, rfl, ha, B'.T.cls, nT, rfl, nilI ⟨d, tp, skvs, zs, rfl, hsd, htp, fun n m => ?_, ?_⟩⟩
    · obtain ⟨x, ex, _⟩ := RatD.val hsR (sub n m)
      exact ⟨x, ex⟩
    dsimp only [tNext, tSeq, tAsg]
    refine consC ⟨_, rfl, .inl ⟨0, 1, rfl, rfl, by decide, Nat.pow_pos (by decide), Nat.lt_of_lt_of_le (show (1 : Int).natAbs < 2 ^ 1 by decide) (Nat.pow_le_pow_right (by decide) (by decide)), fun r0 H1 s1 h1 => ?_⟩⟩
    have l0 : (lowT 0 1, lowB 0 1) = (0, 1) := by decide
    dsimp only [gName]
    refine ⟨_, rfl, b, CB, adx, _, _, rfl, s1 _ _ ha, B'.T.cls, nT, rfl, tp, rfl, ⟨_, SqT.of (s1 _ _ htp)⟩, ?_⟩
    refine for_it (walk_tup (xs := zs.map V.str)) (fun i σ Hx => (∃ r x o, σ = [some (.ref a), some (.ref b), some (.ref r), o] ∧ RatAt Hx r C x.1 x.2 ∧ Lo x ∧ val x = wsum v (fun n => val (g n)) (zs.take i) ∧ x.1.natAbs < 2 ^ (300 * i + 1) ∧ x.2.natAbs < 2 ^ (14 * i + 1)) ∧ Same H Hx)
      ⟨⟨r0, (0, 1), none, rfl, h1, lo01, val01, by decide, by decide⟩, s1⟩ (fun i σ Hx _ hP => SqT.of (hP.2 _ _ htp)) ?_ ?_
    · rintro i y σ Hx Hx' hi ⟨⟨r, x, o, rfl, hr1, lx, vx, x1, x2⟩, s2⟩ ⟨rfl, ex⟩
      rw [List.getElem?_map] at ex
      obtain ⟨n, en, rfl⟩ := Option.map_eq_some_iff.mp ex
      have mn := List.mem_of_getElem? en
      have li : i < 4 := by
        have := (List.getElem?_eq_some_iff.mp en).1
        omega
      refine ⟨_, rfl, _, rfl, b, adx, _, rfl, s2 _ _ ha, rfl, _, rfl, nilI ⟨b, n, g2, zs, rfl, hb1.same s2, (hv.ok.ns.nm n mn).1, (hv.ok.ns.nm n mn).2, fun r1 H4 s4 h4 => ?_⟩⟩
      rw [num_in mn] at h4
      have s24 := s2.trans s4
      obtain ⟨bv, ev, rb, rfl, hrb⟩ := RatD.val hsR (sub n mn)
      have dg := DGet.k (k := .inr n) (s24 _ _ hsd)
      rw [ev] at dg
      refine ⟨_, rfl, a, CS, sdx, _, _, rfl, s24 _ _ hsa, T.cls, nW, rfl, _, rfl, d, .ref rb, rfl, dg, ?_⟩
      obtain ⟨gl, g1, g3⟩ := hg n (sub n mn)
      have zn := hz n mn
      have ln := hv.lo n mn
      refine ⟨r1, _, _, rfl, h4, sz_of zn.1 (by omega), sz_of zn.2 (by omega), ln.ne, .inl ⟨(g n).1, (g n).2, .inl ⟨rb, rfl, hrb.same s24⟩, sz_of g1 (by omega), sz_of g3 (by omega), gl.ne, fun r2 H5 s5 h5 => ?_⟩⟩
      have h5 : RatAt H5 r2 C (byF (g2 n) (g n)).1 (byF (g2 n) (g n)).2 := h5
      have lb := lo_by (x := g2 n) (y := g n) ln.ne gl.ne
      have zb := by_sz zn ⟨g1, g3⟩ ln.ne gl.ne
      have vb := val_by (x := g2 n) (y := g n) ln.ne gl.ne
      refine ⟨r, x.1, x.2, rfl, hr1.same (s4.trans s5), sz_of x1 (by omega), sz_of x2 (by omega), lx.ne, .inl ⟨_, _, .inl ⟨r2, rfl, h5⟩, sz_of zb.1 (by omega), sz_of zb.2 (by omega), lb.ne, fun r3 H6 s6 h6 => ?_⟩⟩
      have h6 : RatAt H6 r3 C (plusF x (byF (g2 n) (g n))).1 (plusF x (byF (g2 n) (g n))).2 := h6
      have zp := plus_sz ⟨x1, x2⟩ zb lx.ne lb.ne
      refine ⟨⟨r3, _, _, rfl, h6, lo_plus lx.ne lb.ne, ?_, Nat.lt_of_lt_of_le zp.1 (Nat.pow_le_pow_right (by decide) (by omega)), Nat.lt_of_lt_of_le zp.2 (Nat.pow_le_pow_right (by decide) (by omega))⟩, s24.trans (s5.trans s6)⟩
      rw [val_plus lx.ne lb.ne, vb, vx, wsum_take en, valIn hv mn]
    · rintro σ Hx ⟨⟨r, x, o, rfl, hr1, lx, vx, x1, x2⟩, s2⟩
      rw [List.length_map, List.take_length] at vx
      exact ⟨_, rfl, k r x Hx s2 hr1 lx vx⟩
end
end K09
namespace K09
open PySem PySem.Spec PyProof.Rows L2 RatM ClX
/-- the sign of a number -/
def sgR (q : Rat) : Int := if 0 < q then 1 else if q < 0 then -1 else 0
theorem sg_val {x : Int × Int} (h : Lo x) : b2i (decide (0 < x.1)) - b2i (decide (x.1 < 0)) = sgR (val x) := by
  unfold sgR
  by_cases c : 0 < val x
  · rw [if_pos c]
    have c1 := (val_pos h).mp c
    rw [decide_eq_true c1, decide_eq_false (show ¬ x.1 < 0 by omega)]
    rfl
  · rw [if_neg c]
    have c1 : ¬ 0 < x.1 := fun z => c ((val_pos h).mpr z)
    by_cases d : val x < 0
    · rw [if_pos d]
      have d1 := (val_lt h).mp d
      rw [decide_eq_false c1, decide_eq_true d1]
      rfl
    · rw [if_neg d]
      have d1 : ¬ x.1 < 0 := fun z => d ((val_lt h).mpr z)
      rw [decide_eq_false c1, decide_eq_false d1]
      rfl
/-- worths that a scale of the law may have -/
def WoOk (g : Str → Int × Int) (ys : List Str) : Prop := ∀ n ∈ ys, Lo (g n) ∧ (g n).1.natAbs < 2 ^ 10 ∧ (g n).2.natAbs < 2 ^ 1
def spOut (CS CP CB C : Addr) : Sp := fun vs H Q _ => ∃ (a p : Addr) (g : Str → Int × Int) (ys : List Str) (u : Str → Rat) (zs : List Str) (B c : Nat), vs = [.ref a, .ref p] ∧ ScaAt H a CS C g ys ∧ WoOk g ys ∧ PairAt H p CP CB C u zs B c ∧ B ≤ 200 ∧ c ≤ 12 ∧ zs.length ≤ 4 ∧ (∀ n ∈ zs, n ∈ ys) ∧
  ∀ H', Same H H' → Q (.int (sgR (wsum u (fun n => val (g n)) zs))) H'
def spKeeps (CS CM CP CB C : Addr) : Sp := fun vs H Q _ => ∃ (a p : Addr) (g : Str → Int × Int) (ys : List Str) (k : Kd) (u : Str → Rat) (zs : List Str) (B c : Nat), vs = [.ref a, .ref p] ∧ ScaAt H a CS C g ys ∧ WoOk g ys ∧ CompAt H p CM CP CB C k u zs B c ∧ B ≤ 200 ∧ c ≤ 12 ∧ zs.length ≤ 4 ∧ (∀ n ∈ zs, n ∈ ys) ∧
  ∀ H', Same H H' → Q (.bl (k.keeps (sgR (wsum u (fun n => val (g n)) zs)))) H'
section
variable {P : Program} {w : World} {K : PySem.W.Frag} {mg : Str → Option Value} {base : Heap} {C BR CB BB BP BC BN CP CM CS BS BT : Addr}
theorem scOu : FnScope ["self", "pair"] ["self", "pair"] (defScope (scaM 3)) := ⟨rfl, rfl, rfl, by decide +kernel, rfl, by decide +kernel, by decide +kernel⟩
theorem ok_outcome {f fW : Addr} {fd fdW : FuncData} (F : MtP K "outcome" "Scale.outcome" (scaM 3) f fd) (W : BopK P w K mg base CB C BR) (T : ScaC K CS) (TP : PairC K CP) (Y : TyK K CP) (gP : mg "Pair" = some (.ref CP)) (MP : ErrN P w K mg base "BadPair" BP ["part"])
    (MW : Meth K CS "worth" fW) (GW : FnOk P w K mg base (L2.CX P w) 9 fW fdW ["self", "balance"] (spWorth CS CB C)) (bW : Binds K fdW ["self", "balance"] []) :
    FnOk P w K mg base (L2.CX P w) 10 f fd ["self", "pair"] (spOut CS CP CB C) := by
  have R := W.O.R
  refine F.ok scOu (fun vs H Q E h => ?_) (fun cdv A outer s H vs Q E hr h => ?_)
  · obtain ⟨a, p, g, ys, u, zs, B, c, rfl, _⟩ := h
    rfl
  · obtain ⟨a, p, g, ys, u, zs, B, c, rfl, hs, hg, hp, hB, hc, l4, sub, k⟩ := h
    have hr9 : Room 9 _ := hr
    refine ⟨_, (pss_cons (ps_if (pt_not (pt_val (pe_callB call_isi (by rfl) R.bi (by decide +kernel) (pa_cons (pv 1) (pa_cons (pe_glob (v := .ref _) rfl gP rfl) pa_nil))))) (pss_one (ps_raiseN rfl MP (hr9.mono (by decide)) (takes_of rfl rfl rfl rfl) (by rfl) (pa_cons pe_str pa_nil))) pss_nil)
      (pss_one (ps_ret (pe_fld (pe_meth (pv 0) T.cls MW GW hr9 bW .nil (E := E0) passL (pa_cons (pe_fld (pv 1) rfl) pa_nil)) rfl)))), ?_⟩
    have tB := TP.no "balance" (by simp)
    have ns := R.T.no "sign" (by simp)
    refine ⟨_, rfl, _, _, _, _, _, rfl, .own CP, Y.ty _ _ hp.ins, Y.cc, true, rfl, iteF ?_⟩
    dsimp only [tNext, tSeq]
    obtain ⟨dx, b, f1, s1, tp, zf, zl, hpa, hb, _⟩ := hp
    obtain ⟨sdx, d, st, skvs, hsa, hsd, hsR⟩ := id hs
    refine ⟨_, rfl, a, sdx, _, rfl, hsa, rfl, ?_⟩
    refine ⟨_, rfl, p, CP, dx, _, _, rfl, hpa, TP.cls, tB, rfl, nilI ⟨a, b, g, ys, u, zs, B, c, rfl, hs, hg, hb, hB, hc, l4, sub, fun r x H1 s1 hr1 lx vx => ?_⟩⟩
    obtain ⟨dxr, hr1⟩ := hr1
    refine ⟨r, C, dxr, _, _, rfl, hr1, R.T.cls, ns, rfl, ?_⟩
    have k' := k H1 s1
    rw [← vx, ← sg_val lx] at k'
    exact k'
theorem scKe : FnScope ["self", "comparison"] ["self", "comparison"] (defScope (scaM 4)) := ⟨rfl, rfl, rfl, by decide +kernel, rfl, by decide +kernel, by decide +kernel⟩
theorem ok_keeps {f fW fK : Addr} {fd fdW fdK : FuncData} (F : MtP K "keeps" "Scale.keeps" (scaM 4) f fd) (W : BopK P w K mg base CB C BR) (T : ScaC K CS) (TM : CompC K CM) (Y : TyK K CM) (gP : mg "Comparison" = some (.ref CM)) (MP : ErrN P w K mg base "BadComparison" BC ["part"])
    (MW : Meth K CS "worth" fW) (GW : FnOk P w K mg base (L2.CX P w) 9 fW fdW ["self", "balance"] (spWorth CS CB C)) (bW : Binds K fdW ["self", "balance"] [])
    (GK : FnOk P w K mg base CX0 1 fK fdK ["kind", "sign"] spKept) (bK : Binds K fdK ["kind", "sign"] []) (kK : PySem.W.keepIn K (.ref fK) = true) (gK : mg "is_kept" = some (.ref fK)) :
    FnOk P w K mg base (L2.CX P w) 10 f fd ["self", "comparison"] (spKeeps CS CM CP CB C) := by
  have R := W.O.R
  refine F.ok scKe (fun vs H Q E h => ?_) (fun cdv A outer s H vs Q E hr h => ?_)
  · obtain ⟨a, p, g, ys, k, u, zs, B, c, rfl, _⟩ := h
    rfl
  · obtain ⟨a, p, g, ys, kd, u, zs, B, c, rfl, hs, hg, hp, hB, hc, l4, sub, k⟩ := h
    have hr9 : Room 9 _ := hr
    refine ⟨_, (pss_cons (ps_if (pt_not (pt_val (pe_callB call_isi (by rfl) R.bi (by decide +kernel) (pa_cons (pv 1) (pa_cons (pe_glob (v := .ref _) rfl gP rfl) pa_nil))))) (pss_one (ps_raiseN rfl MP (hr9.mono (by decide)) (takes_of rfl rfl rfl rfl) (by rfl) (pa_cons pe_str pa_nil))) pss_nil)
      (pss_one (ps_ret (pe_call GK (hr9.mono (by decide)) rfl gK kK bK .nil pass0 (pa_cons (pe_fld (pv 1) rfl) (pa_cons (pe_fld (pe_meth (pv 0) T.cls MW GW hr9 bW .nil (E := E0) passL (pa_cons (pe_fld (pv 1) rfl) pa_nil)) rfl) pa_nil)))))), ?_⟩
    have tB := TM.no "balance" (by simp)
    have tK := TM.no "kind" (by simp)
    have ns := R.T.no "sign" (by simp)
    refine ⟨_, rfl, _, _, _, _, _, rfl, .own CM, Y.ty _ _ hp.ins, Y.cc, true, rfl, iteF ?_⟩
    dsimp only [tNext, tSeq]
    obtain ⟨dx, b, tp, pr, hpa, hb, _⟩ := hp
    obtain ⟨sdx, d, st, skvs, hsa, hsd, hsR⟩ := id hs
    refine ⟨_, rfl, p, CM, dx, _, _, rfl, hpa, TM.cls, tK, rfl, ?_⟩
    refine ⟨_, rfl, a, sdx, _, rfl, hsa, rfl, ?_⟩
    refine ⟨_, rfl, p, CM, dx, _, _, rfl, hpa, TM.cls, tB, rfl, nilI ⟨a, b, g, ys, u, zs, B, c, rfl, hs, hg, hb, hB, hc, l4, sub, fun r x H1 s1 hr1 lx vx => ?_⟩⟩
    obtain ⟨dxr, hr1⟩ := hr1
    refine ⟨r, C, dxr, _, _, rfl, hr1, R.T.cls, ns, rfl, nilI ⟨kd, _, rfl, ?_⟩⟩
    have k' := k H1 s1
    rw [← vx, ← sg_val lx] at k'
    exact k'
end
end K09
namespace PySem.OwnT
open PySem PySem.W PySem.Calls PyProof.Rows
open Builtin
section
variable {prog : Program} {w : World}
/-- the items of two tuples are alike, each by an == that keeps I -/
def Alike (prog : Program) (w : World) (A : Around) (E : Value → Shared → Prop) (I : Shared → Prop) (items items2 : Array Value) : Prop :=
  ∀ (x y : Value), (x, y) ∈ items.toList.zip items2.toList → ∀ s, I s → wpAny (model prog w) A (eqBool x y) (fun k s' => k = true ∧ I s') E s
theorem tuple_eqI (l b : Addr) (items items2 : Array Value) (n n2 : Nat) (dd dd2 : Option Addr) (sl sl2 : Array (Option Value)) (I : Shared → Prop) :
    MeetsIn prog w (Builtin.«tuple.__eq__» { pos := [.ref l, .ref b] }) fun A R s =>
      s.heap.get? l = some { cls := .type "tuple", dict := dd, data := .seq items n, slots := sl } ∧ s.heap.get? b = some { cls := .type "tuple", dict := dd2, data := .seq items2 n2, slots := sl2 } ∧ items.size = items2.size ∧ I s ∧
      Alike prog w A.in1 (fun v s' => R (.error v) s') I items items2 ∧ ∀ s', I s' → R (.ok (.ret (.bool true))) s' := by
  refine MeetsIn.of_wp fun A R s h => ?_
  obtain ⟨hl, hb, hs, hi, he, q⟩ := h
  have f2 := AutoSeq1.sub_tuple_tuple
  refine wpAny_bind ?_
  delta slotArgs
  dsimp only
  refine wpAny_ite_false rfl (wpAny_ite_false rfl (wpAny_pure ?_))
  refine wpAny_bind (wpAny_bind (wpAny_bind (wpAny_loadPart' hb (wpAny_pure (wpAny_of_eq f2 ?_)))))
  refine wpAny_ite_false rfl ?_
  refine wpAny_bind (wpAny_bind (wpAny_bind (wpAny_load' hl (wpAny_pure (wpAny_pure ?_)))))
  refine wpAny_bind (wpAny_bind (wpAny_bind (wpAny_load' hb (wpAny_pure (wpAny_pure ?_)))))
  refine wpAny_bind (wpAny_forIn_list _ (fun rest b s' => b.1 = none ∧ I s' ∧ ∀ p ∈ rest, p ∈ items.toList.zip items2.toList) _ ?_ ?_ _ _ ⟨rfl, hi, fun _ m => m⟩)
  · rintro ⟨x, y⟩ rest bb s' ⟨e1, i1, m⟩
    refine wpAny_bind (wpAny_mono (he x y (m _ List.mem_cons_self) s' i1) (fun k s2 z => ?_) fun _ _ z => z)
    obtain ⟨rfl, i2⟩ := z
    exact wpAny_ite_false rfl (wpAny_pure ⟨rfl, i2, fun p mp => m p (List.mem_cons_of_mem _ mp)⟩)
  · rintro ⟨b1, b2⟩ s' ⟨e1, i1, _⟩
    obtain rfl : b1 = none := e1
    refine wpAny_pure ⟨_, rfl, ?_⟩
    have : Tuple.tupleCompareSizes .Eq items.size items2.size = .bool true := by
      rw [hs]
      unfold Tuple.tupleCompareSizes
      simp
    rw [this]
    exact q s' i1
theorem tuple_neI (l b : Addr) (items items2 : Array Value) (n n2 : Nat) (dd dd2 : Option Addr) (sl sl2 : Array (Option Value)) (I : Shared → Prop) :
    MeetsIn prog w (Builtin.«tuple.__ne__» { pos := [.ref l, .ref b] }) fun A R s =>
      s.heap.get? l = some { cls := .type "tuple", dict := dd, data := .seq items n, slots := sl } ∧ s.heap.get? b = some { cls := .type "tuple", dict := dd2, data := .seq items2 n2, slots := sl2 } ∧ items.size = items2.size ∧ I s ∧
      Alike prog w A.in1 (fun v s' => R (.error v) s') I items items2 ∧ ∀ s', I s' → R (.ok (.ret (.bool false))) s' := by
  refine MeetsIn.of_wp fun A R s h => ?_
  obtain ⟨hl, hb, hs, hi, he, q⟩ := h
  have f2 := AutoSeq1.sub_tuple_tuple
  refine wpAny_bind ?_
  delta slotArgs
  dsimp only
  refine wpAny_ite_false rfl (wpAny_ite_false rfl (wpAny_pure ?_))
  refine wpAny_bind (wpAny_bind (wpAny_bind (wpAny_loadPart' hb (wpAny_pure (wpAny_of_eq f2 ?_)))))
  refine wpAny_ite_false rfl ?_
  refine wpAny_bind (wpAny_bind (wpAny_bind (wpAny_load' hl (wpAny_pure (wpAny_pure ?_)))))
  refine wpAny_bind (wpAny_bind (wpAny_bind (wpAny_load' hb (wpAny_pure (wpAny_pure ?_)))))
  refine wpAny_bind (wpAny_forIn_list _ (fun rest b s' => b.1 = none ∧ I s' ∧ ∀ p ∈ rest, p ∈ items.toList.zip items2.toList) _ ?_ ?_ _ _ ⟨rfl, hi, fun _ m => m⟩)
  · rintro ⟨x, y⟩ rest bb s' ⟨e1, i1, m⟩
    refine wpAny_bind (wpAny_mono (he x y (m _ List.mem_cons_self) s' i1) (fun k s2 z => ?_) fun _ _ z => z)
    obtain ⟨rfl, i2⟩ := z
    exact wpAny_ite_false rfl (wpAny_pure ⟨rfl, i2, fun p mp => m p (List.mem_cons_of_mem _ mp)⟩)
  · rintro ⟨b1, b2⟩ s' ⟨e1, i1, _⟩
    obtain rfl : b1 = none := e1
    refine wpAny_pure ⟨_, rfl, ?_⟩
    have : Tuple.tupleCompareSizes .NotEq items.size items2.size = .bool false := by
      rw [hs]
      unfold Tuple.tupleCompareSizes
      simp
    rw [this]
    exact q s' i1

theorem rc_tuples {A : Around} {s : Shared} {E : Value → Shared → Prop} {l b : Addr} {items items2 : Array Value} {I : Shared → Prop} {Q : Value → Shared → Prop} (hl : s.heap.IsTuple l items) (hb : s.heap.IsTuple b items2) (hs : items.size = items2.size) (hu : A.units < cLine) (hi : I s) (he : Alike prog w A.in1 E I items items2)
    (h : ∀ s', I s' → Q (.bool true) s') : wpAny (model prog w) A (richCompare .Eq (.ref l) (.ref b)) Q E s := by
  obtain ⟨⟨c1, d1, t1, sl1⟩, e1, (rfl : c1 = _), n1, (rfl : t1 = _)⟩ := hl
  obtain ⟨⟨c2, d2, t2, sl2⟩, e2, (rfl : c2 = _), n2, (rfl : t2 = _)⟩ := hb
  refine wpAny_richCompare_same_room ⟨_, e1, rfl⟩ ⟨_, e2, rfl⟩ F.slot_tuple_eq (call_meetsIn F.slot_tuple_eq ⟨_, e1, rfl⟩ F.entry_tuple_eq (F.args_tuple_eq_2 (.ref l) (.ref b)) (tuple_eqI l b items items2 n1 n2 d1 d2 sl1 sl2 I) ⟨e1, e2, hs, hi, ?_, ?_⟩) hu
  · exact he
  · exact fun s' i => ⟨(fun z => nomatch z), h s' i⟩
theorem rn_tuples {A : Around} {s : Shared} {E : Value → Shared → Prop} {l b : Addr} {items items2 : Array Value} {I : Shared → Prop} {Q : Value → Shared → Prop} (hl : s.heap.IsTuple l items) (hb : s.heap.IsTuple b items2) (hs : items.size = items2.size) (hu : A.units < cLine) (hi : I s) (he : Alike prog w A.in1 E I items items2)
    (h : ∀ s', I s' → Q (.bool false) s') : wpAny (model prog w) A (richCompare .NotEq (.ref l) (.ref b)) Q E s := by
  obtain ⟨⟨c1, d1, t1, sl1⟩, e1, (rfl : c1 = _), n1, (rfl : t1 = _)⟩ := hl
  obtain ⟨⟨c2, d2, t2, sl2⟩, e2, (rfl : c2 = _), n2, (rfl : t2 = _)⟩ := hb
  refine wpAny_richCompare_same_room ⟨_, e1, rfl⟩ ⟨_, e2, rfl⟩ F.slot_tuple_ne (call_meetsIn F.slot_tuple_ne ⟨_, e1, rfl⟩ F.entry_tuple_ne (F.args_tuple_ne_2 (.ref l) (.ref b)) (tuple_neI l b items items2 n1 n2 d1 d2 sl1 sl2 I) ⟨e1, e2, hs, hi, ?_, ?_⟩) hu
  · exact he
  · exact fun s' i => ⟨(fun z => nomatch z), h s' i⟩
end
end PySem.OwnT
namespace L2
open PySem PySem.Spec PyProof.Rows
/-- (x, ..) == (y, ..), (x, ..) != (y, ..): the items are of the class C, each pair is alike by its own __eq__, which keeps the heap -/
def rEqTup (neg : Bool) (C : Addr) (sp : Sp) (E : XK) : R2 := fun x y H Q => ∃ (l b : Addr) (xs ys : List Addr), x = .ref l ∧ y = .ref b ∧ H l = some (.tup (xs.map V.ref)) ∧ H b = some (.tup (ys.map V.ref)) ∧ xs.length = ys.length ∧
  (∀ c d, (c, d) ∈ xs.zip ys → InsAt H c C ∧ InsAt H d C ∧ sp [.ref c, .ref d] H (fun v H' => v = .bl true ∧ H' = H) E) ∧ Q (.bl (!neg)) H
section
variable {X : Cx} {CX : CXT} {n : Nat} {C f : Addr} {fd : FuncData} {ps : List Str} {sp : Sp} {E : XK}
theorem valsRefs24 : ∀ {xs : List Addr} {its : List Value}, Vals (xs.map V.ref) its → its = xs.map Value.ref
  | [], _, h => by cases h; rfl
  | x :: t, _, h => by
    cases h with
    | cons a r =>
      obtain rfl := (show _ = Value.ref x from a)
      rw [valsRefs24 r]
      rfl
theorem alike_own (M : OwnM X.K C "__eq__" f) (F : FnOk X.prog X.w X.K X.mg X.base CX n f fd ps sp) (hr : Room (n + 1) X.A) (hb : Binds X.K fd ps []) (hx : Passes CX X E) (hn : PySem.W.notFirst X.K C (.ref C) = true) {pins : List (Addr × Obj)} {σ : St} {H : Hp} {xs ys : List Addr}
    (h : ∀ c d, (c, d) ∈ xs.zip ys → InsAt H c C ∧ InsAt H d C ∧ sp [.ref c, .ref d] H (fun v H' => v = .bl true ∧ H' = H) E) :
    PySem.OwnT.Alike X.prog X.w X.A.in1 X.xe (Inv X pins σ H) (xs.map Value.ref).toArray (ys.map Value.ref).toArray := by
  intro x y m s I
  have m : (x, y) ∈ (xs.map Value.ref).zip (ys.map Value.ref) := m
  rw [List.zip_map, List.mem_map] at m
  obtain ⟨⟨c, d⟩, mc, e⟩ := m
  obtain ⟨rfl, rfl⟩ : Value.ref c = x ∧ Value.ref d = y := by injection e with e1 e2; exact ⟨e1, e2⟩
  obtain ⟨hc, hd, q⟩ := h c d mc
  obtain ⟨ox, od, J⟩ := hc.inst I
  obtain ⟨ox2, od2, J2⟩ := hd.inst I
  obtain ⟨mm, hF⟩ := I.fr
  unfold eqBool
  refine wpAny_holding ?_
  refine wpAny_ite_split (fun _ => ?_) (fun _ => ?_)
  · exact wpAny_bind (wpAny_rule (wpAny_pure ⟨rfl, I⟩))
  · refine wpAny_bind ?_
    refine PySem.W.cmp_K (op := .Eq) (hr.in1).units0 hF I.ok.mod.kin J J2.type hn M.at_ M.fn ?_
    refine wpAny_mono (own_run (vs := [.ref c, .ref d]) F ⟨hr.in1, rfl⟩ hb hx I (.cons rfl (.cons rfl .nil)) q) (fun r s' z => ?_) fun _ _ z => z
    obtain ⟨z, H', I', rz, rfl, rfl⟩ := z
    obtain rfl : r = .bool true := rz
    exact wpAny_truthy_bool ⟨rfl, I'⟩
theorem op_eqTup (M : OwnM X.K C "__eq__" f) (F : FnOk X.prog X.w X.K X.mg X.base CX n f fd ps sp) (hr : Room (n + 1) X.A) (hb : Binds X.K fd ps []) (hx : Passes CX X E) (hn : PySem.W.notFirst X.K C (.ref C) = true) : OpR X (compareOp .Eq) (rEqTup false C sp E) := by
  intro pins s σ H x y v u Q I rx ry h
  obtain ⟨l, b, xs, ys, rfl, rfl, hl, hb2, hs, hp, q⟩ := h
  obtain rfl : v = .ref l := rx
  obtain rfl : u = .ref b := ry
  obtain ⟨_, its, r1, o1, e1, c1, n1, d1⟩ := I.hok l _ hl
  obtain ⟨_, its2, r2, o2, e2, c2, n2, d2⟩ := I.hok b _ hb2
  obtain rfl := valsRefs24 r1
  obtain rfl := valsRefs24 r2
  show wpAny (model X.prog X.w) X.A (richCompare .Eq (.ref l) (.ref b)) _ X.xe s
  exact PySem.OwnT.rc_tuples ⟨o1, e1, c1, n1, d1⟩ ⟨o2, e2, c2, n2, d2⟩ (by simpa using hs) hr.units0 I (alike_own M F hr hb hx hn hp) fun s' I' => ⟨.bl true, H, I', rfl, q⟩
theorem op_neTup (M : OwnM X.K C "__eq__" f) (F : FnOk X.prog X.w X.K X.mg X.base CX n f fd ps sp) (hr : Room (n + 1) X.A) (hb : Binds X.K fd ps []) (hx : Passes CX X E) (hn : PySem.W.notFirst X.K C (.ref C) = true) : OpR X (compareOp .NotEq) (rEqTup true C sp E) := by
  intro pins s σ H x y v u Q I rx ry h
  obtain ⟨l, b, xs, ys, rfl, rfl, hl, hb2, hs, hp, q⟩ := h
  obtain rfl : v = .ref l := rx
  obtain rfl : u = .ref b := ry
  obtain ⟨_, its, r1, o1, e1, c1, n1, d1⟩ := I.hok l _ hl
  obtain ⟨_, its2, r2, o2, e2, c2, n2, d2⟩ := I.hok b _ hb2
  obtain rfl := valsRefs24 r1
  obtain rfl := valsRefs24 r2
  show wpAny (model X.prog X.w) X.A (richCompare .NotEq (.ref l) (.ref b)) _ X.xe s
  exact PySem.OwnT.rn_tuples ⟨o1, e1, c1, n1, d1⟩ ⟨o2, e2, c2, n2, d2⟩ (by simpa using hs) hr.units0 I (alike_own M F hr hb hx hn hp) fun s' I' => ⟨.bl false, H, I', rfl, q⟩
end
end L2
namespace L2
open PySem PySem.Spec PyProof.Rows
/-! ### == and != of data without dicts, whatever signs its texts have -/
def rEqP (K : PySem.W.Frag) (f : Bool → Bool) : R2 := fun x y H Q => ∃ d e, Dp K H x d ∧ Dp K H y e ∧ d.plain = true ∧ e.plain = true ∧ min d.depth e.depth ≤ 60 ∧ Q (.bl (f (PyData.eqv d e))) H
section
variable {X : Cx}
theorem op_eqP (hu : X.A.units + 64 < cLine) : OpR X (compareOp .Eq) (rEqP X.K id) := by
  intro pins s σ H x y v u Q I rx ry h
  obtain ⟨d, e, hd, he, sd, se, ld, q⟩ := h
  obtain ⟨as, r1⟩ := Dp.reads I d x v hd rx
  obtain ⟨bs, r2⟩ := Dp.reads I e y u he ry
  exact SeqAt.eq_plain r1 r2 sd se (by omega) ⟨.bl _, H, I, rfl, q⟩
theorem op_neP (hu : X.A.units + 64 < cLine) : OpR X (compareOp .NotEq) (rEqP X.K not) := by
  intro pins s σ H x y v u Q I rx ry h
  obtain ⟨d, e, hd, he, sd, se, ld, q⟩ := h
  obtain ⟨as, r1⟩ := Dp.reads I d x v hd rx
  obtain ⟨bs, r2⟩ := Dp.reads I e y u he ry
  exact SeqAt.ne_plain r1 r2 sd se (by omega) ⟨.bl _, H, I, rfl, q⟩
end
/-! texts as data -/
theorem dp_strs {K : PySem.W.Frag} {H : Hp} : ∀ l : List Str, DpAll K H (l.map V.str) (l.map PyData.str)
  | [] => .nil
  | x :: t => .cons (.str x) (dp_strs t)
theorem plain_strs : ∀ l : List Str, PyData.plainAll (l.map PyData.str) = true
  | [] => rfl
  | x :: t => by
    have := plain_strs t
    simp only [List.map_cons, PyData.plainAll, PyData.plain, this, Bool.and_self]
theorem deep_strs : ∀ l : List Str, PyData.depthAll (l.map PyData.str) = 0
  | [] => rfl
  | x :: t => by
    have := deep_strs t
    simp [PyData.depthAll, PyData.depth, this]
theorem eqv_strs_nil (l : List Str) : PyData.eqv (.list (l.map PyData.str)) (.list []) = decide (l = []) := by
  cases l <;> rfl
end L2
namespace K09
open PySem PySem.Spec PyProof.Rows L2 RatM ClX
/-- pairs of a thing and a number, in order -/
abbrev TmP (H : Hp) (w : Str → Int) : List Addr → List Str → Prop := Paired fun t n => H t = some (.tup [.str n, .int (w n)])
theorem TmP.same {H H' : Hp} {w : Str → Int} {ts : List Addr} {ks : List Str} (h : TmP H w ts ks) (s : Same H H') : TmP H' w ts ks := Paired.mono' (fun _ _ e => s _ _ e) h
/-- whole numbers whose text may be written -/
def IxOk (w : Str → Int) (ks : List Str) : Prop := ∀ n ∈ ks, (w n).natAbs < 2 ^ 60 ∧ n.length ≤ 1000
def spSumT : Sp := fun vs H Q _ => ∃ (t : Addr) (ts : List Addr) (ns : List Str) (w : Str → Int), vs = [.ref t] ∧ H t = some (.lst (ts.map V.ref)) ∧ TmP H w ts ns ∧ ns.length ≤ 60 ∧ IxOk w ns ∧ ∀ H', Same H H' → Q (.str (balT (fun n => (w n, 1)) ns)) H'
section
variable {P : Program} {w : World} {K : PySem.W.Frag} {mg : Str → Option Value} {base : Heap}
abbrev nsSt : List Str := ["_law_terms", "_law_words", "_law_thing", "_law_number"]
theorem scST : FnScope nsSt ["_law_terms"] (defScope (top 86)) := ⟨rfl, rfl, rfl, by decide +kernel, rfl, by decide +kernel, by decide +kernel⟩
theorem ok_sumText {f : Addr} {fd : FuncData} (F : FnP K "_law_sum_text" (top 86) f fd) (bs : mg "str" = none) : FnOk P w K mg base CX0 1 f fd ["_law_terms"] spSumT := by
  refine F.ok scST (fun vs H Q E h => ?_) (fun cdv A outer s H vs Q E hr h => ?_)
  · obtain ⟨t, ts, ns, w, rfl, _⟩ := h
    rfl
  · obtain ⟨t, ts, ns, w, rfl, ht, hp, l60, ok, k⟩ := h
    have hr0 : Room 0 _ := hr
    have hu1 : (A.deeper (envOfC (Str.ofString "_law_sum_text") (defScope (top 86)) s.heap.objs.size f cdv)).units + 64 < cLine := by have := hr0.units; omega
    refine ⟨_, PSs.nox (pss_cons (ps_setLc (i := 1) (own := [("_law_thing", 2), ("_law_number", 3)]) (g := gTup K 2 (gCons (gName 2) (gCons (gName 3) gNil))) (tt := tYes)
        rfl scST.nd rfl rfl (sw_true rfl rfl rfl (by decide +kernel)) (pi_list (pv 0)) (blkOk_by (N := nsSt) (sc := defScope (top 86)) (by decide +kernel))
        (fun _ _ _ _ _ => pg_tup rfl (pgs_cons (pg_name (i := 2) scST.nd rfl (Or.inl rfl)) (pgs_cons (pg_name (i := 3) scST.nd rfl (Or.inl rfl)) pgs_nil))) (fun _ _ _ _ _ => pts_nil)
        (fun _ _ _ _ _ => pe_ifExp (pt_cmpR op_eq (pv 3) pe_int (nomark _)) (pv 2)
          (pe_op op_add_str (pe_op op_add_str (pe_callTy call_str_int (by rfl) bs PyProof.Rows.boot_str (pa_cons (pv 3) pa_nil)) pe_str) (pv 2))))
      (pss_one (ps_ret (pe_ifExp (pt_cmpR (op_neP hu1) (pv 1) (pe_lst pa_nil) (nomark _)) (pe_join pe_str (pv 1)) pe_str)))), ?_⟩
    have lt : ts.length = ns.length := Paired.length hp
    refine ⟨_, rfl, t, rfl, ⟨_, SqL.of ht⟩, fun D nD => ?_⟩
    have tx : ∀ n ∈ ns, Sz (w n) ∧ n.length ≤ 1000 ∧ (textR (w n) 1).length ≤ 601 := fun n m => by
      have z : Sz (w n) := sz_of (ok n m).1 (by decide)
      refine ⟨z, (ok n m).2, ?_⟩
      rw [show textR (w n) 1 = Str.ofString (toString (w n)) from if_pos rfl]
      exact sz_len z
    refine lc_it (walk_list (xs := ts.map V.ref)) (fun i Hx => Same H Hx ∧ Hx D = some (.lst (((ns.take i).map fun n => termT n (w n, 1)).map V.str))) ⟨same_upd nD, upd_same⟩ (fun i Hx _ hP => SqL.of (hP.1 _ _ ht)) (fun i x Hx Hx' hi hP hy => ?_) (fun Hx hP => ?_)
    · obtain ⟨rfl, ex⟩ := hy
      obtain ⟨s2, hD⟩ := hP
      rw [List.getElem?_map] at ex
      obtain ⟨a, ea, rfl⟩ := Option.map_eq_some_iff.mp ex
      obtain ⟨n, en, ha⟩ := Paired.at' hp i _ ea
      obtain ⟨z1, z3, z4⟩ := tx n (List.mem_of_getElem? en)
      have fin : ∃ acc, Hx' D = some (.lst acc) ∧ acc.length < sizeLine ∧ Same H (upd Hx' D (.lst (acc ++ [.str (termT n (w n, 1))]))) ∧ (upd Hx' D (.lst (acc ++ [.str (termT n (w n, 1))]))) D = some (.lst (((ns.take (i + 1)).map fun n => termT n (w n, 1)).map V.str)) := by
        refine ⟨_, hD, ?_, fun c o e => ?_, ?_⟩
        · have f2 := List.length_take (i := i) (l := ns)
          simp only [List.length_map]
          rw [sizeLine_eq]; omega
        · rw [upd_ne (ne_of_none e nD)]; exact s2 _ _ e
        · rw [upd_same, List.take_add_one, en]
          simp
      refine ⟨a, _, rfl, SqT.of (s2 _ _ ha), rfl, _, _, rfl, _, _, rfl, rfl, rfl, yesI ?_⟩
      refine ⟨_, rfl, rfl, decide (w n = 1), congrArg V.bl (decI ..), ite2 (fun c => ?_) (fun c => ?_)⟩
      · have := fin
        rw [show termT n (w n, 1) = n from if_pos (by show (decide ((1 : Int) = 1) && decide (w n = 1)) = true; rw [show decide (w n = 1) = true from c]; rfl)] at this
        exact ⟨_, rfl, this⟩
      · have := fin
        have ne : (decide ((1 : Int) = 1) && decide (w n = 1)) ≠ true := by
          rw [decide_eq_true rfl, Bool.true_and]
          exact c
        rw [show termT n (w n, 1) = (Str.ofString (toString (w n)) ++ " ") ++ n by
          rw [show termT n (w n, 1) = ((Str.empty ++ textR (w n) 1) ++ " ") ++ n from if_neg ne, empty_app, show textR (w n) 1 = Str.ofString (toString (w n)) from if_pos rfl]] at this
        rw [show textR (w n) 1 = Str.ofString (toString (w n)) from if_pos rfl] at z4
        have e3 : (Str.ofString " " : Str).length = 1 := rfl
        exact ⟨_, rfl, _, rfl, sz_log z1, _, _, rfl, rfl, by rw [sizeLine_eq]; omega, _, rfl, _, _, rfl, rfl, by rw [strLen_append, sizeLine_eq]; omega, this⟩
    · obtain ⟨s2, hD⟩ := hP
      rw [List.length_map, lt, List.take_length] at hD
      dsimp only [gName]
      refine ⟨_, rfl, ⟨by rw [sizeLine_eq]; exact Nat.zero_le _, fun q nq => ?_⟩⟩
      have sq : Same Hx (upd Hx q (.lst [])) := same_upd nq
      have k' := fun H' sx => k H' (s2.trans sx)
      unfold balT at k'
      refine ⟨.list ((ns.map fun n => termT n (w n, 1)).map .str), .list [], .lst (SqL.of (sq _ _ hD)) (dp_strs _), .lst (SqL.of upd_same) .nil, ?_, rfl, ?_, !decide (ns = []), congrArg V.bl ?_, ite2 (fun c => ?_) (fun c => ?_)⟩
      · simp only [PyData.plain]
        exact plain_strs _
      · exact Nat.le_trans (Nat.min_le_right _ _) (by decide)
      · rw [eqv_strs_nil]
        cases ns <;> rfl
      · have z0 : ¬ ns.length = 0 := fun z => by rw [List.length_eq_zero_iff.mp z] at c; exact absurd c (by decide)
        have k2 := k' _ sq
        rw [if_neg z0] at k2
        refine ⟨⟨_, rfl⟩, _, rfl, " + ", D, ns.map fun n => termT n (w n, 1), rfl, rfl, .inl (SqL.of (sq _ _ hD)), ?_, k2⟩
        have sl := sum_le (f := fun n => (termT n (w n, 1)).length) (B := 2001) ns fun n m => by
          obtain ⟨_, z3, z4⟩ := tx n m
          exact termT_len z3 (Nat.le_trans z4 (by decide))
        rw [List.map_map, List.length_map]
        have e3 : (" + " : Str).length = 3 := rfl
        rw [e3]
        have : (ns.map ((fun x : Str => x.length) ∘ fun n => termT n (w n, 1))).sum ≤ ns.length * 2001 := sl
        have m1 : ns.length * 2001 ≤ 60 * 2001 := Nat.mul_le_mul_right _ l60
        omega
      · have z0 : ns = [] := by
          cases e : decide (ns = []) with
          | true => exact of_decide_eq_true e
          | false => rw [e] at c; exact absurd rfl c
        have k2 := k' _ sq
        rw [z0] at k2
        exact k2
end
end K09
namespace K09
open PySem PySem.Spec PyProof.Rows L2 RatM ClX
/-- a line: a dict from names to integers -/
abbrev LnD (w : Str → Int) : List (Key × V) → List Str → Prop := Paired fun kv n => kv.1 = .inr n ∧ kv.2 = V.int (w n)
theorem LnD.val {w : Str → Int} {kvs : List (Key × V)} {ks : List Str} (h : LnD w kvs ks) {n : Str} (m : n ∈ ks) : valV kvs (.inr n) = some (.int (w n)) := by
  induction h with
  | nil => cases m
  | @cons a b l1 l2 x t ih =>
    by_cases e : b = n
    · subst e
      rw [valV_pos x.1, x.2]
    · have ne : ¬ a.1 = Sum.inr n := fun z => e (by rw [x.1] at z; injection z)
      rw [valV_neg ne]
      exact ih (by cases m with
        | head => exact absurd rfl e
        | tail _ m => exact m)
theorem LnD.get {H : Hp} {d : Addr} {w : Str → Int} {kvs : List (Key × V)} {ks : List Str} (h : LnD w kvs ks) (hd : H d = some (.dK kvs)) {n : Str} (m : n ∈ ks) : DGet H d (kV (.inr n)) (some (.int (w n))) := by
  have z : DGet H d (kV (.inr n)) (valV kvs (.inr n)) := DGet.k hd
  rw [h.val m] at z
  exact z
def lnT (word : Str) (w : Str → Int) (ys : List Str) : Str := (((balT (fun n => (w n, 1)) (ys.filter fun n => decide (0 < w n)) ++ " ") ++ word) ++ " ") ++ balT (fun n => (-w n, 1)) (ys.filter fun n => decide (w n < 0))
def spLnT : Sp := fun vs H Q _ => ∃ (d : Addr) (word : Str) (kvs : List (Key × V)) (ks : List Str) (w : Str → Int), vs = [.ref d, .str word] ∧ H d = some (.dK kvs) ∧ LnD w kvs ks ∧ ks.length ≤ 4 ∧ IxOk w ks ∧ word.length ≤ 100 ∧
  ∀ ys H', Same H H' → ys.Perm ks → sortedS ys = true → Q (.str (lnT word w ys)) H'
theorem balT_len {g : Str → Int × Int} {zs : List Str} (l4 : zs.length ≤ 4) (h : ∀ n ∈ zs, n.length ≤ 1000 ∧ (textR (g n).1 (g n).2).length ≤ 1000) : (balT g zs).length ≤ 9000 := by
  unfold balT
  by_cases z : zs.length = 0
  · rw [if_pos z]
    show 1 ≤ 9000
    decide
  · rw [if_neg z]
    show (Builtin.Str.glued _ _).length ≤ 9000
    rw [PySem.size_glued]
    have sl := sum_le (f := fun n => (termT n (g n)).length) (B := 2001) zs fun n m => termT_len (h n m).1 (h n m).2
    rw [List.map_map, List.length_map]
    have e : (Str.ofString " + ").length = 3 := rfl
    rw [e]
    have e2 : (List.map ((fun x => x.length) ∘ fun n => termT n (g n)) zs).sum = (zs.map fun n => (termT n (g n)).length).sum := rfl
    rw [e2]
    omega
theorem ix_text {w : Str → Int} {ks : List Str} (ix : IxOk w ks) {n : Str} (m : n ∈ ks) : n.length ≤ 1000 ∧ (textR (w n) 1).length ≤ 1000 := by
  have z : Sz (w n) := sz_of (ix n m).1 (by decide)
  refine ⟨(ix n m).2, ?_⟩
  rw [show textR (w n) 1 = Str.ofString (toString (w n)) from if_pos rfl]
  exact Nat.le_trans (sz_len z) (by decide)
section
variable {P : Program} {w : World} {K : PySem.W.Frag} {mg : Str → Option Value} {base : Heap}
abbrev nsLt : List Str := ["_law_line_here", "_law_word", "_law_names", "_law_gains", "_law_losses", "_law_thing"]
theorem scLt : FnScope nsLt ["_law_line_here", "_law_word"] (defScope (top 87)) := ⟨rfl, rfl, rfl, by decide +kernel, rfl, by decide +kernel, by decide +kernel⟩
theorem ok_lineText {f fS : Addr} {fd fdS : FuncData} (F : FnP K "_law_line_text" (top 87) f fd) (so : mg "sorted" = none) (bs : mg "str" = none)
    (GS : FnOk P w K mg base CX0 1 fS fdS ["_law_terms"] spSumT) (bS : Binds K fdS ["_law_terms"] []) (kS : PySem.W.keepIn K (.ref fS) = true) (gS : mg "_law_sum_text" = some (.ref fS)) :
    FnOk P w K mg base CX0 2 f fd ["_law_line_here", "_law_word"] spLnT := by
  refine F.ok scLt (fun vs H Q E h => ?_) (fun cdv A outer s H vs Q E hr h => ?_)
  · obtain ⟨d, word, kvs, ks, w, rfl, _⟩ := h
    rfl
  · obtain ⟨d, word, kvs, ks, w, rfl, hd, hp, lk, ix, lw, k⟩ := h
    have hr1 : Room 1 _ := hr
    have hu1 : (A.deeper (envOfC (Str.ofString "_law_line_text") (defScope (top 87)) s.heap.objs.size f cdv)).units + 1 < cLine := by have := hr1.units; omega
    refine ⟨_, PSs.nox (pss_cons (ps_set (i := 2) scLt.nd rfl (.inl rfl) (pe_callB cr_sortedS (by rfl) so (by decide +kernel) (pa_cons (pe_lock (pe_lc (own := [("_law_thing", 5)]) (g := gName 5) (tt := tYes) rfl scLt.nd (pi_keys (pv 0)) (blkOk_by (N := nsLt) (sc := defScope (top 87)) (by decide +kernel)) (fun _ _ _ _ _ => pg_name (i := 5) scLt.nd rfl (Or.inl rfl)) (fun _ _ _ _ _ => pts_nil) (fun _ _ _ _ _ => pe_callTy SkE.call_str_str (by rfl) bs PyProof.Rows.boot_str (pa_cons (pv 5) pa_nil)))) pa_nil)))
      (pss_cons (ps_setLc (i := 3) (own := [("_law_thing", 5)]) (g := gName 5) (tt := tTest (tOp (rI0 fun i j => V.bl (decide (j < i))) (tDGet (tVar 0) (tVar 5)) (tC (.int 0)))) rfl scLt.nd rfl rfl (sw_true rfl rfl rfl (by decide +kernel)) (pi_list (pv 2)) (blkOk_by (N := nsLt) (sc := defScope (top 87)) (by decide +kernel)) (fun _ _ _ _ _ => pg_name (i := 5) scLt.nd rfl (Or.inl rfl))
        (fun _ _ _ _ _ => pts_one (pt_cmpR op_gt (pe_dget (by exact hu1) (pv 0) (pv 5) (fun _ _ => rfl)) pe_int (nomark _))) (fun _ _ _ _ _ => pe_tup (pa_cons (pv 5) (pa_cons (pe_dget (by exact hu1) (pv 0) (pv 5) (fun _ _ => rfl)) pa_nil))))
      (pss_cons (ps_setLc (i := 4) (own := [("_law_thing", 5)]) (g := gName 5) (tt := tTest (tOp (rI0 fun i j => V.bl (decide (i < j))) (tDGet (tVar 0) (tVar 5)) (tC (.int 0)))) rfl scLt.nd rfl rfl (sw_true rfl rfl rfl (by decide +kernel)) (pi_list (pv 2)) (blkOk_by (N := nsLt) (sc := defScope (top 87)) (by decide +kernel)) (fun _ _ _ _ _ => pg_name (i := 5) scLt.nd rfl (Or.inl rfl))
        (fun _ _ _ _ _ => pts_one (pt_cmpR op_lt (pe_dget (by exact hu1) (pv 0) (pv 5) (fun _ _ => rfl)) pe_int (nomark _))) (fun _ _ _ _ _ => pe_tup (pa_cons (pv 5) (pa_cons (pe_un un_neg (pe_dget (by exact hu1) (pv 0) (pv 5) (fun _ _ => rfl))) pa_nil))))
      (pss_one (ps_ret (pe_op op_add_str (pe_op op_add_str (pe_op op_add_str (pe_op op_add_str (pe_call GS hr1 rfl gS kS bS .nil pass0 (pa_cons (pv 3) pa_nil)) pe_str) (pv 1)) pe_str) (pe_call GS hr1 rfl gS kS bS .nil pass0 (pa_cons (pv 4) pa_nil)))))))), ?_⟩
    refine ⟨d, .dK kvs, hd, True.intro, fun od => ?_⟩
    refine ⟨_, rfl, d, od, rfl, .inl ⟨kvs, upd_same, fun D nD => ?_⟩⟩
    have nDd : D ≠ d := fun e => by rw [e, upd_same] at nD; cases nD
    have hdL : (upd H d (.frz od (.dK kvs))) d = some (.frz od (.dK kvs)) := upd_same
    have ul : ∀ Hx, Same (upd H d (.frz od (.dK kvs))) Hx → Same H (upd Hx d (.dK kvs)) := fun Hx s => unlock_same hd s
    generalize upd H d (.frz od (.dK kvs)) = HL at nD hdL ul ⊢
    have lkk := Paired.length hp
    refine lc_it walk_keys (fun i Hx => Same HL Hx ∧ Hx D = some (.lst ((ks.take i).map V.str))) ⟨same_upd nD, upd_same⟩ (fun i Hx _ hP => hP.1 _ _ hdL) (fun i x Hx Hx' hi hP hy => ?_) (fun Hx hP => ?_)
    · obtain ⟨rfl, key, v, ek, rfl⟩ := hy
      obtain ⟨s2, hD⟩ := hP
      obtain ⟨n, en, e1, _⟩ := Paired.at' hp i _ ek
      have e1 : key = .inr n := e1
      subst e1
      refine ⟨rfl, yesI ⟨_, rfl, n, rfl, _, hD, ?_, fun a ob e => ?_, ?_⟩⟩
      · have f2 := List.length_take (i := i) (l := ks)
        rw [List.length_map, sizeLine_eq]; omega
      · rw [upd_ne (ne_of_none e nD)]; exact s2 _ _ e
      · rw [upd_same, List.take_add_one, en, List.map_append]
        rfl
    obtain ⟨s2, hD⟩ := hP
    rw [lkk, List.take_length] at hD
    refine ⟨s2 _ _ hdL, nilI ⟨D, ks, rfl, SqL.of ((upd_ne nDd).trans hD), ?_, fun ys p py sy np => ?_⟩⟩
    · omega
    have s3 := (ul _ s2).trans (same_upd (o := .lst (ys.map V.str)) np)
    have hp3 : (upd (upd Hx d (.dK kvs)) p (.lst (ys.map V.str))) p = some (.lst (ys.map V.str)) := upd_same
    generalize upd (upd Hx d (.dK kvs)) p (.lst (ys.map V.str)) = H3 at s3 hp3 ⊢
    clear hdL ul s2 hD nD nDd
    dsimp only [gName, tSeq, tAsg]
    have ly : ys.length ≤ 4 := by rw [py.length_eq]; exact lk
    have mk : ∀ n ∈ ys, n ∈ ks := fun n m => py.mem_iff.mp m
    -- gains
    refine ⟨_, rfl, p, rfl, ⟨_, SqL.of hp3⟩, fun D1 nD1 => ?_⟩
    refine lc_it (walk_list (xs := ys.map V.str)) (fun i Hx => Same H3 Hx ∧ ∃ ts, Hx D1 = some (.lst (ts.map V.ref)) ∧ TmP Hx w ts ((ys.take i).filter fun n => decide (0 < w n))) ⟨same_upd nD1, [], upd_same, .nil⟩ (fun i Hx _ hP => SqL.of (hP.1 _ _ hp3)) (fun i x Hx Hx' hi hP hy => ?_) (fun Hx4 hP => ?_)
    · obtain ⟨rfl, ex⟩ := hy
      obtain ⟨sG, ts, hD, hT⟩ := hP
      rw [List.getElem?_map] at ex
      obtain ⟨n, en, rfl⟩ := Option.map_eq_some_iff.mp ex
      have mn := mk n (List.mem_of_getElem? en)
      have tk := take_succ_filter (fun n => decide (0 < w n)) ys i n en
      have dg : ∀ {Hy : Hp}, Same Hx' Hy → DGet Hy d (kV (.inr n)) (some (.int (w n))) := fun sy => hp.get (sy _ _ (sG _ _ (s3 _ _ hd))) mn
      refine ⟨rfl, ?_⟩
      refine ⟨_, rfl, _, rfl, d, .int (w n), rfl, dg (Same.refl _), _, _, rfl, rfl, decide (0 < w n), rfl, ite2 (fun c => ?_) (fun c => ?_)⟩
      · refine ⟨_, rfl, _, rfl, _, rfl, d, .int (w n), rfl, dg (Same.refl _), by rw [sizeLine_eq]; show 2 ≤ 16777216; decide, fun q nq => ?_⟩
        have sq := same_upd (o := .tup [V.str n, V.int (w n)]) nq
        refine ⟨_, sq _ _ hD, ?_, fun a o e => ?_, ts ++ [q], ?_, ?_⟩
        · have f0 := Paired.length hT
          have f1 := List.length_filter_le (fun n => decide (0 < w n)) (ys.take i)
          have f2 := List.length_take (i := i) (l := ys)
          rw [List.length_map, sizeLine_eq]; omega
        · rw [upd_ne (ne_of_none e nD1)]; exact sq _ _ (sG _ _ e)
        · rw [upd_same, List.map_append]
          rfl
        · rw [tk, if_pos c]
          have hTq : TmP (upd Hx' q (.tup [V.str n, V.int (w n)])) (fun n => w n) (ts ++ [q]) (((ys.take i).filter fun n => decide (0 < w n)) ++ [n]) := Paired.snoc (hT.same sq) upd_same
          exact Paired.mono' (fun t n e => (upd_ne fun z => by rw [z, sq _ _ hD] at e; cases e).trans e) hTq
      · refine ⟨sG, ts, hD, ?_⟩
        rw [tk, if_neg c, List.append_nil]
        exact hT
    obtain ⟨sG, tg, hDg, hTg⟩ := hP
    rw [List.length_map, List.take_length] at hTg
    have s4 := s3.trans sG
    have hp4 := sG _ _ hp3
    clear nD1
    refine ⟨_, rfl, p, rfl, ⟨_, SqL.of hp4⟩, fun D2 nD2 => ?_⟩
    refine lc_it (walk_list (xs := ys.map V.str)) (fun i Hx => Same Hx4 Hx ∧ ∃ ts, Hx D2 = some (.lst (ts.map V.ref)) ∧ TmP Hx (fun n => -w n) ts ((ys.take i).filter fun n => decide (w n < 0))) ⟨same_upd nD2, [], upd_same, .nil⟩ (fun i Hx _ hP => SqL.of (hP.1 _ _ hp4)) (fun i x Hx Hx' hi hP hy => ?_) (fun Hx5 hP => ?_)
    · obtain ⟨rfl, ex⟩ := hy
      obtain ⟨sG, ts, hD, hT⟩ := hP
      rw [List.getElem?_map] at ex
      obtain ⟨n, en, rfl⟩ := Option.map_eq_some_iff.mp ex
      have mn := mk n (List.mem_of_getElem? en)
      have tk := take_succ_filter (fun n => decide (w n < 0)) ys i n en
      have dg : ∀ {Hy : Hp}, Same Hx' Hy → DGet Hy d (kV (.inr n)) (some (.int (w n))) := fun sy => hp.get (sy _ _ (sG _ _ (s4 _ _ hd))) mn
      refine ⟨rfl, ?_⟩
      refine ⟨_, rfl, _, rfl, d, .int (w n), rfl, dg (Same.refl _), _, _, rfl, rfl, decide (w n < 0), rfl, ite2 (fun c => ?_) (fun c => ?_)⟩
      · refine ⟨_, rfl, _, rfl, _, rfl, d, .int (w n), rfl, dg (Same.refl _), _, rfl, by rw [sizeLine_eq]; show 2 ≤ 16777216; decide, fun q nq => ?_⟩
        have sq := same_upd (o := .tup [V.str n, V.int (-w n)]) nq
        refine ⟨_, sq _ _ hD, ?_, fun a o e => ?_, ts ++ [q], ?_, ?_⟩
        · have f0 := Paired.length hT
          have f1 := List.length_filter_le (fun n => decide (w n < 0)) (ys.take i)
          have f2 := List.length_take (i := i) (l := ys)
          rw [List.length_map, sizeLine_eq]; omega
        · rw [upd_ne (ne_of_none e nD2)]; exact sq _ _ (sG _ _ e)
        · rw [upd_same, List.map_append]
          rfl
        · rw [tk, if_pos c]
          have hTq : TmP (upd Hx' q (.tup [V.str n, V.int (-w n)])) (fun n => -w n) (ts ++ [q]) (((ys.take i).filter fun n => decide (w n < 0)) ++ [n]) := Paired.snoc (hT.same sq) upd_same
          exact Paired.mono' (fun t n e => (upd_ne fun z => by rw [z, sq _ _ hD] at e; cases e).trans e) hTq
      · refine ⟨sG, ts, hD, ?_⟩
        rw [tk, if_neg c, List.append_nil]
        exact hT
    obtain ⟨sL, tl, hDl, hTl⟩ := hP
    rw [List.length_map, List.take_length] at hTl
    have lg : (ys.filter fun n => decide (0 < w n)).length ≤ 4 := Nat.le_trans (List.length_filter_le _ _) ly
    have ll : (ys.filter fun n => decide (w n < 0)).length ≤ 4 := Nat.le_trans (List.length_filter_le _ _) ly
    have ig : IxOk w (ys.filter fun n => decide (0 < w n)) := fun n m => ix n (mk n (List.mem_filter.mp m).1)
    have il : IxOk (fun n => -w n) (ys.filter fun n => decide (w n < 0)) := fun n m => by
      obtain ⟨a, b⟩ := ix n (mk n (List.mem_filter.mp m).1)
      exact ⟨by rw [Int.natAbs_neg]; exact a, b⟩
    have z1 := balT_len (g := fun n => (w n, 1)) lg fun n m => ix_text ig m
    have z2 := balT_len (g := fun n => (-w n, 1)) ll fun n m => ix_text il m
    have w1 : (Str.ofString " ").length = 1 := rfl
    refine ⟨_, rfl, nilI ⟨D1, tg, _, w, rfl, sL _ _ hDg, hTg.same sL, by omega, ig, fun H6 s6 => ?_⟩⟩
    refine ⟨_, _, rfl, rfl, by rw [sizeLine_eq]; omega, _, rfl, _, _, rfl, rfl, by rw [sizeLine_eq]; simp only [strLen_append]; omega, _, _, rfl, rfl, by rw [sizeLine_eq]; simp only [strLen_append]; omega, ?_⟩
    refine ⟨_, rfl, nilI ⟨D2, tl, _, fun n => -w n, rfl, s6 _ _ hDl, hTl.same s6, by omega, il, fun H7 s7 => ?_⟩⟩
    refine ⟨_, _, rfl, rfl, by rw [sizeLine_eq]; simp only [strLen_append]; omega, ?_⟩
    exact k ys H7 (s4.trans (sL.trans (s6.trans s7))) py sy
end
end K09
namespace K09
open PySem PySem.Spec PyProof.Rows L2 RatM ClX
/-- keys that are these names, in order -/
abbrev KyN : List (Key × V) → List Str → Prop := Paired fun kv n => kv.1 = .inr n
theorem KyN.noVal {kvs : List (Key × V)} {ks : List Str} (h : KyN kvs ks) {n : Str} (m : n ∉ ks) : valV kvs (.inr n) = none := by
  induction h with
  | nil => rfl
  | @cons a b l1 l2 x t ih =>
    simp only [List.mem_cons, not_or] at m
    rw [valV_neg fun z => m.1 (by rw [x] at z; injection z with z; exact z.symm)]
    exact ih m.2
theorem KyN.append {l1 l2 : List (Key × V)} {k1 k2 : List Str} (h : KyN l1 k1) (h2 : KyN l2 k2) : KyN (l1 ++ l2) (k1 ++ k2) := by
  induction h with
  | nil => exact h2
  | cons x _ ih => exact .cons x ih
theorem mergeK_app {more : List (Key × V)} {ks : List Str} (h : KyN more ks) : ∀ {acc : List (Key × V)} {k0 : List Str}, KyN acc k0 → (k0 ++ ks).Nodup → mergeK acc more = acc ++ more := by
  induction h with
  | nil => intro acc k0 _ _; exact (List.append_nil _).symm
  | @cons a b l1 l2 x t ih =>
    intro acc k0 ha nd
    have nb : b ∉ k0 := fun z => (List.nodup_append.mp nd).2.2 b z b List.mem_cons_self rfl
    have e : putK acc a.1 a.2 = acc ++ [a] := by
      rw [x, putK_new _ (ha.noVal nb), ← x]
    show mergeK (putK acc a.1 a.2) l1 = _
    rw [e, ih (ha.append (.cons x .nil)) (by rw [List.append_assoc]; exact nd), List.append_assoc]
    rfl
theorem mergeK_names {more : List (Key × V)} {ks : List Str} (h : KyN more ks) (nd : ks.Nodup) : mergeK [] more = more := mergeK_app h .nil nd
theorem keep_unlock {H Hx : Hp} {t d : Addr} {kvs : List (Key × V)} {od : Obj} (hd : H d = some (.dK kvs)) (s : Keep t (upd H d (.frz od (.dK kvs))) Hx) : Keep t H (upd Hx d (.dK kvs)) := fun b o nb e => by
  by_cases eb : b = d
  · subst eb
    rw [upd_same, ← hd, e]
  · rw [upd_ne eb]
    refine s _ _ nb ?_
    rw [upd_ne eb]
    exact e
theorem Till.upd {H : Hp} {t c d : Addr} {o : HO} {cells : List Int} {i g : Int} (h : Till H t c cells i g) (h1 : d ≠ t) (h2 : d ≠ c) : Till (upd H d o) t c cells i g := ⟨(upd_ne (Ne.symm h1)).trans h.ht, (upd_ne (Ne.symm h2)).trans h.hc, h.3⟩
theorem ThOk.ns {xs : List Str} (h : ThOk xs) : NsOk xs := ⟨h.nd, Nat.le_trans h.le (by decide), fun n m => ⟨Nat.le_trans (h.nm n m).1 (by decide), (h.nm n m).2⟩⟩
theorem LnD.kyn {w : Str → Int} {kvs : List (Key × V)} {ks : List Str} (h : LnD w kvs ks) : KyN kvs ks := Paired.mono' (fun _ _ x => x.1) h
theorem TmP.kvs {K : PySem.W.Frag} {H : Hp} {w : Str → Int} {ps : List Addr} {ks : List Str} (h : TmP H w ps ks) : ∃ kvs : List (Key × V), Paired (fun p (kv : Key × V) => SqT K H p [kV kv.1, kv.2]) ps kvs ∧ LnD w kvs ks := by
  induction h with
  | nil => exact ⟨[], .nil, .nil⟩
  | @cons a n l1 l2 x t ih =>
    obtain ⟨kvs, h1, h2⟩ := ih
    exact ⟨(.inr n, .int (w n)) :: kvs, .cons (SqT.of x) h1, .cons ⟨rfl, rfl⟩ h2⟩
/-- the first thing, in order, is gained -/
def upW (w : Str → Int) : List Str → Str → Int
  | [], n => w n
  | z :: _, n => if 0 < w z then w n else -w n
def spUp : Sp := fun vs H Q _ => ∃ (d : Addr) (kvs : List (Key × V)) (ks : List Str) (w : Str → Int), vs = [.ref d] ∧ H d = some (.dK kvs) ∧ LnD w kvs ks ∧ ks.Nodup ∧ ks ≠ [] ∧ ks.length ≤ 4 ∧
  ∀ r kvs' ys H', Same H H' → ys.Perm ks → sortedS ys = true → H' r = some (.dK kvs') → LnD (upW w ys) kvs' ks → Q (.ref r) H'
section
variable {P : Program} {w : World} {K : PySem.W.Frag} {mg : Str → Option Value} {base : Heap}
abbrev nsUp : List Str := ["_law_line_here", "_law_first", "_law_thing"]
theorem scUp : FnScope nsUp ["_law_line_here"] (defScope (top 89)) := ⟨rfl, rfl, rfl, by decide +kernel, rfl, by decide +kernel, by decide +kernel⟩
theorem ok_up {f : Addr} {fd : FuncData} (F : FnP K "_law_up" (top 89) f fd) (so : mg "sorted" = none) (bs : mg "str" = none) (bd : mg "dict" = none) : FnOk P w K mg base CX0 1 f fd ["_law_line_here"] spUp := by
  refine F.ok scUp (fun vs H Q E h => ?_) (fun cdv A outer s H vs Q E hr h => ?_)
  · obtain ⟨d, kvs, ks, w, rfl, _⟩ := h
    rfl
  · obtain ⟨d, kvs, ks, w, rfl, hd, hp, nd, kn, lk, k⟩ := h
    have hr0 : Room 0 _ := hr
    have hu1 : (A.deeper (envOfC (Str.ofString "_law_up") (defScope (top 89)) s.heap.objs.size f cdv)).units + 1 < cLine := by have := hr0.units; omega
    refine ⟨_, PSs.nox (pss_cons (ps_set (i := 1) scUp.nd rfl (.inl rfl) (pe_ix ix_list (pe_callB cr_sortedS (by rfl) so (by decide +kernel) (pa_cons (pe_lock (pe_lc (own := [("_law_thing", 2)]) (g := gName 2) (tt := tYes) rfl scUp.nd (pi_keys (pv 0)) (blkOk_by (N := nsUp) (sc := defScope (top 89)) (by decide +kernel)) (fun _ _ _ _ _ => pg_name (i := 2) scUp.nd rfl (Or.inl rfl)) (fun _ _ _ _ _ => pts_nil) (fun _ _ _ _ _ => pe_callTy SkE.call_str_str (by rfl) bs PyProof.Rows.boot_str (pa_cons (pv 2) pa_nil)))) pa_nil)) pe_int (fun _ _ => rfl)))
      (pss_one (ps_ret (pe_ifExp (pt_cmpR op_gt (pe_dget hu1 (pv 0) (pv 1) (fun _ _ => rfl)) pe_int (nomark _)) (pv 0)
        (pe_callTy (call_dictP rfl) (by rfl) bd PyProof.Rows.boot_dict (pa_cons (pe_lock (pe_lc (own := [("_law_thing", 2)]) (g := gName 2) (tt := tYes) rfl scUp.nd (pi_keys (pv 0)) (blkOk_by (N := nsUp) (sc := defScope (top 89)) (by decide +kernel)) (fun _ _ _ _ _ => pg_name (i := 2) scUp.nd rfl (Or.inl rfl)) (fun _ _ _ _ _ => pts_nil) (fun _ _ _ _ _ => pe_tup (pa_cons (pv 2) (pa_cons (pe_un un_neg (pe_dget (by exact hu1) (pv 0) (pv 2) (fun _ _ => rfl))) pa_nil))))) pa_nil)))))), ?_⟩
    refine ⟨d, .dK kvs, hd, True.intro, fun od => ?_⟩
    refine ⟨_, rfl, d, od, rfl, .inl ⟨kvs, upd_same, fun D nD => ?_⟩⟩
    have nDd : D ≠ d := fun e => by rw [e, upd_same] at nD; cases nD
    have hdL : (upd H d (.frz od (.dK kvs))) d = some (.frz od (.dK kvs)) := upd_same
    have ul : ∀ Hx, Same (upd H d (.frz od (.dK kvs))) Hx → Same H (upd Hx d (.dK kvs)) := fun Hx s => unlock_same hd s
    generalize upd H d (.frz od (.dK kvs)) = HL at nD hdL ul ⊢
    have lkk := Paired.length hp
    refine lc_it walk_keys (fun i Hx => Same HL Hx ∧ Hx D = some (.lst ((ks.take i).map V.str))) ⟨same_upd nD, upd_same⟩ (fun i Hx _ hP => hP.1 _ _ hdL) (fun i x Hx Hx' hi hP hy => ?_) (fun Hx hP => ?_)
    · obtain ⟨rfl, key, v, ek, rfl⟩ := hy
      obtain ⟨s2, hD⟩ := hP
      obtain ⟨n, en, e1, _⟩ := Paired.at' hp i _ ek
      have e1 : key = .inr n := e1
      subst e1
      refine ⟨rfl, yesI ⟨_, rfl, n, rfl, _, hD, ?_, fun a ob e => ?_, ?_⟩⟩
      · have f2 := List.length_take (i := i) (l := ks)
        rw [List.length_map, sizeLine_eq]; omega
      · rw [upd_ne (ne_of_none e nD)]; exact s2 _ _ e
      · rw [upd_same, List.take_add_one, en, List.map_append]
        rfl
    obtain ⟨s2, hD⟩ := hP
    rw [lkk, List.take_length] at hD
    refine ⟨s2 _ _ hdL, nilI ⟨D, ks, rfl, SqL.of ((upd_ne nDd).trans hD), ?_, fun ys p py sy np => ?_⟩⟩
    · omega
    have s3 := (ul _ s2).trans (same_upd (o := .lst (ys.map V.str)) np)
    have hp3 : (upd (upd Hx d (.dK kvs)) p (.lst (ys.map V.str))) p = some (.lst (ys.map V.str)) := upd_same
    generalize upd (upd Hx d (.dK kvs)) p (.lst (ys.map V.str)) = H3 at s3 hp3 ⊢
    clear hdL ul s2 hD nD nDd
    obtain ⟨z, t, rfl⟩ : ∃ z t, ys = z :: t := by
      cases ys with
      | nil => exact absurd (List.Perm.eq_nil py.symm) kn
      | cons z t => exact ⟨z, t, rfl⟩
    have mz : z ∈ ks := py.mem_iff.mp List.mem_cons_self
    refine ⟨p, _, 0, _, rfl, rfl, SqL.of hp3, atI_nat (show (List.map V.str (z :: t))[0]? = some (V.str z) from rfl), ?_⟩
    dsimp only [gName, tSeq, tNext]
    have hd3 := s3 _ _ hd
    refine ⟨_, rfl, _, rfl, d, .int (w z), rfl, hp.get hd3 mz, _, _, rfl, rfl, decide (0 < w z), rfl, ite2 (fun c => ?_) (fun c => ?_)⟩
    · have e : upW w (z :: t) = w := by
        funext n
        exact if_pos (of_decide_eq_true c)
      refine ⟨_, rfl, k d kvs _ H3 s3 py sy hd3 ?_⟩
      rw [e]
      exact hp
    have e : upW w (z :: t) = fun n => -w n := by
      funext n
      exact if_neg (fun z => c (decide_eq_true z))
    refine ⟨d, .dK kvs, hd3, True.intro, fun od => ?_⟩
    refine ⟨_, rfl, d, od, rfl, .inl ⟨kvs, upd_same, fun D nD => ?_⟩⟩
    have nDd : D ≠ d := fun e => by rw [e, upd_same] at nD; cases nD
    have hdL : (upd H3 d (.frz od (.dK kvs))) d = some (.frz od (.dK kvs)) := upd_same
    have ul : ∀ Hx, Same (upd H3 d (.frz od (.dK kvs))) Hx → Same H3 (upd Hx d (.dK kvs)) := fun Hx s => unlock_same hd3 s
    generalize upd H3 d (.frz od (.dK kvs)) = HM at nD hdL ul ⊢
    refine lc_it walk_keys (fun i Hx => Same HM Hx ∧ ∃ ts, Hx D = some (.lst (ts.map V.ref)) ∧ TmP Hx (fun n => -w n) ts (ks.take i)) ⟨same_upd nD, [], upd_same, .nil⟩ (fun i Hx _ hP => hP.1 _ _ hdL) (fun i x Hx Hx' hi hP hy => ?_) (fun Hx hP => ?_)
    · obtain ⟨rfl, key, v, ek, rfl⟩ := hy
      obtain ⟨sG, ts, hD, hT⟩ := hP
      obtain ⟨n, en, e1, _⟩ := Paired.at' hp i _ ek
      have e1 : key = .inr n := e1
      subst e1
      have mn := List.mem_of_getElem? en
      have dg : DGet Hx' d (kV (.inr n)) (some (.int (w n))) := by
        have z : DGet Hx' d (kV (.inr n)) (valV kvs (.inr n)) := .inl ⟨kvs, .inr n, .inr ⟨od, sG _ _ hdL⟩, rfl, rfl⟩
        rw [hp.val mn] at z
        exact z
      refine ⟨rfl, yesI ?_⟩
      refine ⟨_, rfl, _, rfl, _, rfl, d, .int (w n), rfl, dg, _, rfl, by rw [sizeLine_eq]; show 2 ≤ 16777216; decide, fun q nq => ?_⟩
      have sq := same_upd (o := .tup [V.str n, V.int (-w n)]) nq
      refine ⟨_, sq _ _ hD, ?_, fun a o e => ?_, ts ++ [q], ?_, ?_⟩
      · have f0 := Paired.length hT
        have f2 := List.length_take (i := i) (l := ks)
        rw [List.length_map, sizeLine_eq]; omega
      · rw [upd_ne (ne_of_none e nD)]; exact sq _ _ (sG _ _ e)
      · rw [upd_same, List.map_append]
        rfl
      · rw [List.take_add_one, en]
        have hTq : TmP (upd Hx' q (.tup [V.str n, V.int (-w n)])) (fun n => -w n) (ts ++ [q]) (ks.take i ++ [n]) := Paired.snoc (hT.same sq) upd_same
        exact Paired.mono' (fun t n e => (upd_ne fun z => by rw [z] at e; have e2 := (sq _ _ hD).symm.trans e; cases e2).trans e) hTq
    obtain ⟨sG, ts, hD, hT⟩ := hP
    rw [lkk, List.take_length] at hT
    have hTU : TmP (upd Hx d (.dK kvs)) (fun n => -w n) ts ks := Paired.mono' (fun t n e => (upd_ne fun z => by rw [z, sG _ _ hdL] at e; cases e).trans e) hT
    have hDU : (upd Hx d (.dK kvs)) D = some (.lst (ts.map V.ref)) := (upd_ne nDd).trans hD
    have sU := ul Hx sG
    refine ⟨sG _ _ hdL, ?_⟩
    generalize upd Hx d (.dK kvs) = HU at hTU hDU sU ⊢
    obtain ⟨kvs2, q1, q2⟩ := hTU.kvs (K := K)
    refine nilI ⟨D, ts, kvs2, rfl, SqL.of hDU, q1, fun p np => ?_⟩
    rw [mergeK_names q2.kyn nd]
    have sp := same_upd (o := .dK kvs2) np
    refine k p kvs2 _ _ (s3.trans (sU.trans sp)) py sy upd_same ?_
    rw [e]
    exact q2
end
end K09
namespace K09
open PySem PySem.Spec PyProof.Rows L2 RatM ClX
def spRa (C : Addr) : Sp := fun vs H Q _ => ∃ (t c : Addr) (cells : List Int) (i g : Int), vs = [.ref t] ∧ Till H t c cells i g ∧ 0 ≤ i ∧ i ≤ 900000 ∧ 0 ≤ g ∧
  ∀ (r : Addr) (x : Int × Int) (i' g' : Int) (H' : Hp), RatAt H' r C x.1 x.2 → Lo x → 0 < val x → x.1.natAbs < 2 ^ 67 → x.2.natAbs < 2 ^ 4 → 0 ≤ i' → i' ≤ i + 3 → 0 ≤ g' → Keep t H H' → Till H' t c cells i' g' → Q (.ref r) H'
section
variable {P : Program} {w : World} {K : PySem.W.Frag} {mg : Str → Option Value} {base : Heap} {C BR : Addr}
theorem scRa : FnScope ["_law_reel_here"] ["_law_reel_here"] (defScope (top 91)) := ⟨rfl, rfl, rfl, by decide +kernel, rfl, by decide +kernel, by decide +kernel⟩
theorem ok_ra {f fT : Addr} {fd fdT : FuncData} (F : FnP K "_law_ratio" (top 91) f fd) (R : RatK P w K mg base C BR)
    (GT : FnOk P w K mg base CX0 1 fT fdT ["_law_reel_here", "_law_many"] spCoin) (bT : Binds K fdT ["_law_reel_here", "_law_many"] []) (kT : PySem.W.keepIn K (.ref fT) = true) (gT : mg "_law_turn" = some (.ref fT)) :
    FnOk P w K mg base CX0 5 f fd ["_law_reel_here"] (spRa C) := by
  refine F.ok scRa (fun vs H Q E h => ?_) (fun cdv A outer s H vs Q E hr h => ?_)
  · obtain ⟨t, c, cells, i, g, rfl, _⟩ := h
    rfl
  · obtain ⟨t, c, cells, i, g, rfl, hT, hi0, hi1, hg, k⟩ := h
    have hr4 : Room 4 _ := hr
    refine ⟨_, PSs.nox (pss_cons (ps_if (pt_cmpR op_eq (pe_call GT (hr4.mono (by decide)) rfl gT kT bT .nil pass0 (pa_cons (pv 0) (pa_cons pe_int pa_nil))) pe_int (nomark _)) (pss_one (ps_ret (pe_rat2 R (by exact hr4) (E := E0) passL rfl (pa_cons (pe_op op_add (pe_op op_pow pe_int pe_int) (pe_call GT (hr4.mono (by decide)) rfl gT kT bT .nil pass0 (pa_cons (pv 0) (pa_cons pe_int pa_nil)))) (pa_cons (pe_op op_add pe_int (pe_call GT (hr4.mono (by decide)) rfl gT kT bT .nil pass0 (pa_cons (pv 0) (pa_cons pe_int pa_nil)))) pa_nil))))) pss_nil)
      (pss_one (ps_ret (pe_rat2 R (by exact hr4) (E := E0) passL rfl (pa_cons (pe_op op_add pe_int (pe_call GT (hr4.mono (by decide)) rfl gT kT bT .nil pass0 (pa_cons (pv 0) (pa_cons pe_int pa_nil)))) (pa_cons (pe_op op_add pe_int (pe_call GT (hr4.mono (by decide)) rfl gT kT bT .nil pass0 (pa_cons (pv 0) (pa_cons pe_int pa_nil)))) pa_nil)))))), ?_⟩
    have cp : CPow 10 20 := ⟨by decide, by decide, by decide⟩
    have fin : ∀ (p q : Int) (H2 : Hp) (i2 g2 : Int), 0 < p → p.natAbs < 2 ^ 67 → 0 < q → q.natAbs < 2 ^ 4 → 0 ≤ i2 → i2 ≤ i + 3 → 0 ≤ g2 → Keep t H H2 → Till H2 t c cells i2 g2 → MkR K C BR (.int p) (.int q) H2 Q E0 := by
      intro p q H2 i2 g2 p0 pz q0 qz a0 a1 a2 kp hT2
      have qn : q ≠ 0 := by omega
      refine .inl ⟨p, q, rfl, rfl, qn, Nat.lt_of_lt_of_le pz (Nat.pow_le_pow_right (by decide) (by decide)), Nat.lt_of_lt_of_le qz (Nat.pow_le_pow_right (by decide) (by decide)), fun r H3 s3 h3 => ?_⟩
      have lx := lo_low (t := p) qn
      refine k r (lowT p q, lowB p q) i2 g2 H3 h3 lx ?_ (low_szT qn pz) (low_szB qn qz) a0 a1 a2 (kp.same s3) (hT2.same s3)
      refine (val_pos lx).mpr ?_
      have := lowT_pos (t := p) (b := q) q0
      exact of_decide_eq_true (this.1.trans (decide_eq_true p0))
    refine ⟨_, rfl, consC ⟨t, c, cells, i, g, 8, rfl, hT, hi0, by omega, hg, by decide, by decide, fun r0 i0 g0 H1 r00 r01 b0 b1 b2 kp1 hT1 => ?_⟩⟩
    refine ⟨rfl, decide (r0 = 0), congrArg V.bl (decI ..), ite2 (fun c0 => ?_) (fun c0 => ?_)⟩
    · refine ⟨_, _, rfl, rfl, cp, ?_⟩
      refine ⟨_, rfl, consC ⟨t, c, cells, i0, g0, 99, rfl, hT1, b0, by omega, b2, by decide, by decide, fun r1 i1 g1 H2 r10 r11 d0 d1 d2 kp2 hT2 => ?_⟩⟩
      refine ⟨_, _, rfl, rfl, ?_⟩
      refine ⟨_, rfl, consC ⟨t, c, cells, i1, g1, 9, rfl, hT2, d0, by omega, d2, by decide, by decide, fun r2 i2 g2 H3 r20 r21 e0 e1 e2 kp3 hT3 => ?_⟩⟩
      refine ⟨_, _, rfl, rfl, nilI ⟨_, _, rfl, fin _ _ H3 i2 g2 ?_ ?_ ?_ ?_ e0 (by omega) e2 ((kp1.trans kp2).trans kp3) hT3⟩⟩
      · show (0 : Int) < 10 ^ (20 : Nat) + r1
        have : (10 : Int) ^ (20 : Nat) = 100000000000000000000 := by decide
        omega
      · show ((10 : Int) ^ (20 : Nat) + r1).natAbs < 2 ^ 67
        have : (10 : Int) ^ (20 : Nat) = 100000000000000000000 := by decide
        have : (2 : Nat) ^ 67 = 147573952589676412928 := by decide
        omega
      · omega
      · show _ < 16
        omega
    · dsimp only [tNext, tSeq]
      refine ⟨_, rfl, consC ⟨t, c, cells, i0, g0, 12, rfl, hT1, b0, by omega, b2, by decide, by decide, fun r1 i1 g1 H2 r10 r11 d0 d1 d2 kp2 hT2 => ?_⟩⟩
      refine ⟨_, _, rfl, rfl, ?_⟩
      refine ⟨_, rfl, consC ⟨t, c, cells, i1, g1, 12, rfl, hT2, d0, by omega, d2, by decide, by decide, fun r2 i2 g2 H3 r20 r21 e0 e1 e2 kp3 hT3 => ?_⟩⟩
      refine ⟨_, _, rfl, rfl, nilI ⟨_, _, rfl, fin _ _ H3 i2 g2 (by omega) ?_ (by omega) ?_ e0 (by omega) e2 ((kp1.trans kp2).trans kp3) hT3⟩⟩
      · have : (2 : Nat) ^ 67 = 147573952589676412928 := by decide
        omega
      · show _ < 16
        omega
end
end K09
namespace K09
open PySem PySem.Spec PyProof.Rows L2 RatM ClX
theorem TmP.congr {H : Hp} {w w' : Str → Int} {ts : List Addr} {ks : List Str} (h : TmP H w ts ks) (e : ∀ n ∈ ks, w n = w' n) : TmP H w' ts ks := by
  induction h with
  | nil => exact .nil
  | @cons a b l1 l2 x t ih => exact .cons (by rw [← e b List.mem_cons_self]; exact x) (ih fun n m => e n (List.mem_cons_of_mem _ m))
theorem LnD.put {w : Str → Int} {kvs : List (Key × V)} {ks : List Str} (h : LnD w kvs ks) (nd : ks.Nodup) {n : Str} (m : n ∈ ks) (x : Int) : LnD (fun k => if k = n then x else w k) (putK kvs (.inr n) (.int x)) ks := by
  have an : (kvs.any fun kv => decide (kv.1 = Sum.inr n)) = true := by
    induction h with
    | nil => cases m
    | @cons a b l1 l2 y t ih =>
      rw [List.any_cons, Bool.or_eq_true]
      cases m with
      | head => exact .inl (decide_eq_true y.1)
      | tail _ m => exact .inr (ih (List.nodup_cons.mp nd).2 m)
  unfold putK
  rw [if_pos an]
  clear an m
  induction h with
  | nil => exact .nil
  | @cons a b l1 l2 y t ih =>
    refine .cons ?_ (ih (List.nodup_cons.mp nd).2)
    dsimp only
    by_cases e : b = n
    · subst e
      rw [if_pos y.1, if_pos rfl]
      exact ⟨y.1, rfl⟩
    · rw [if_neg (fun z => e (by rw [y.1] at z; injection z)), if_neg e]
      exact y
theorem gcdW_dvd (w : Str → Int) : ∀ (zs : List Str) (d : Nat), gcdW w zs d ∣ d ∧ ∀ n ∈ zs, gcdW w zs d ∣ (w n).natAbs
  | [], d => ⟨Nat.dvd_refl _, fun n m => by cases m⟩
  | x :: t, d => by
    obtain ⟨h1, h2⟩ := gcdW_dvd w t (Nat.gcd d (w x).natAbs)
    refine ⟨Nat.dvd_trans h1 (Nat.gcd_dvd_left _ _), fun n m => ?_⟩
    cases m with
    | head => exact Nat.dvd_trans h1 (Nat.gcd_dvd_right _ _)
    | tail _ m => exact h2 n m
/-- what is divided by the common divisor -/
theorem gcdW_div {w : Str → Int} {zs : List Str} {z : Str} (mz : z ∈ zs) (z0 : w z ≠ 0) :
    0 < gcdW w zs 0 ∧ (∀ n ∈ zs, w n = (gcdW w zs 0 : Nat) * (w n).fdiv (gcdW w zs 0 : Nat)) ∧ gcdW (fun n => (w n).fdiv (gcdW w zs 0 : Nat)) zs 0 = 1 := by
  have dv := (gcdW_dvd w zs 0).2
  have pos : 0 < gcdW w zs 0 := Nat.pos_of_dvd_of_pos (dv z mz) (Int.natAbs_pos.mpr z0)
  have ex : ∀ n ∈ zs, w n = (gcdW w zs 0 : Nat) * (w n).fdiv (gcdW w zs 0 : Nat) := fun n m => by
    obtain ⟨k, ek⟩ := Int.ofNat_dvd_left.mpr (dv n m)
    have g0 : ((gcdW w zs 0 : Nat) : Int) ≠ 0 := by omega
    rw [show (w n).fdiv (gcdW w zs 0 : Nat) = k by rw [ek]; exact Int.mul_fdiv_cancel_left k g0]
    exact ek
  refine ⟨pos, ex, ?_⟩
  have h1 := gcdW_mul (gcdW w zs 0) (fun n => (w n).fdiv (gcdW w zs 0 : Nat)) zs 0
  rw [Nat.mul_zero] at h1
  rw [← gcdW_congr (w := w) zs 0 fun n m => by rw [← ex n m]] at h1
  exact Nat.eq_of_mul_eq_mul_left pos (by rw [Nat.mul_one]; exact h1.symm)
def spLine : Sp := fun vs H Q _ => ∃ (t l c : Addr) (cells : List Int) (i g : Int) (th : List Str), vs = [.ref t, .ref l] ∧ l ≠ t ∧ H l = some (.lst (th.map V.str)) ∧ ThOk th ∧ th ≠ [] ∧ Till H t c cells i g ∧ 0 ≤ i ∧ i ≤ 900000 ∧ 0 ≤ g ∧
  ∀ (d : Addr) (kvs : List (Key × V)) (w : Str → Int) (i' g' : Int) (H' : Hp), H' d = some (.dK kvs) → LnD w kvs (th.filter fun n => !decide (w n = 0)) → (∃ n ∈ th, w n ≠ 0) → (∀ n ∈ th, (w n).natAbs ≤ 47) → gcdW w th 0 = 1 → 0 ≤ i' → i' ≤ i + 5 → 0 ≤ g' → Keep t H H' → Till H' t c cells i' g' → Q (.ref d) H'
section
variable {P : Program} {w : World} {K : PySem.W.Frag} {mg : Str → Option Value} {base : Heap} {C BR : Addr}
abbrev nsLi : List Str := ["_law_reel_here", "_law_things_here", "_law_thing", "_law_line_here", "_law_shared_here"]
theorem scLi : FnScope nsLi ["_law_reel_here", "_law_things_here"] (defScope (top 88)) := ⟨rfl, rfl, rfl, by decide +kernel, rfl, by decide +kernel, by decide +kernel⟩
theorem ok_line {f fO fS : Addr} {fd fdO fdS : FuncData} (F : FnP K "_law_line" (top 88) f fd) (bd : mg "dict" = none)
    (GO : FnOk P w K mg base CX0 2 fO fdO ["_law_reel_here", "_law_some"] spOf) (bO : Binds K fdO ["_law_reel_here", "_law_some"] []) (kO : PySem.W.keepIn K (.ref fO) = true) (gO : mg "_law_pick" = some (.ref fO))
    (GS : FnOk P w K mg base CX0 1 fS fdS ["_law_one", "_law_other"] spSh) (bS : Binds K fdS ["_law_one", "_law_other"] []) (kS : PySem.W.keepIn K (.ref fS) = true) (gS : mg "_law_shared" = some (.ref fS)) :
    FnOk P w K mg base CX0 3 f fd ["_law_reel_here", "_law_things_here"] spLine := by
  refine F.ok scLi (fun vs H Q E h => ?_) (fun cdv A outer s H vs Q E hr h => ?_)
  · obtain ⟨t, l, c, cells, i, g, th, rfl, _⟩ := h
    rfl
  · obtain ⟨t, l, c, cells, i, g, th, rfl, nlt, hl, ok, tn, hT, hi0, hi1, hg, k⟩ := h
    have hr2 : Room 2 _ := hr
    have hu1 : (A.deeper (envOfC (Str.ofString "_law_line") (defScope (top 88)) s.heap.objs.size f cdv)).units + 1 < cLine := by have := hr2.units; omega
    refine ⟨_, PSs.nox (pss_cons (ps_set (i := 3) scLi.nd rfl (.inr rfl) (pe_callTy (call_dictP rfl) (by rfl) bd PyProof.Rows.boot_dict (pa_cons (pe_lc (own := [("_law_thing", 2)]) (g := gName 2) (tt := tYes) rfl scLi.nd (pi_list (pv 1)) (blkOk_by (N := nsLi) (sc := defScope (top 88)) (by decide +kernel)) (fun _ _ _ _ _ => pg_name (i := 2) scLi.nd rfl (Or.inl rfl)) (fun _ _ _ _ _ => pts_nil)
          (fun _ _ _ _ _ => pe_tup (pa_cons (pv 2) (pa_cons (pe_call GO (by exact hr2) rfl gO kO bO .nil pass0 (pa_cons (pv 0) (pa_cons (pe_lst (pa_cons pe_int (pa_cons pe_int (pa_cons (pe_un un_neg pe_int) (pa_cons pe_int (pa_cons (pe_un un_neg pe_int) (pa_cons pe_int (pa_cons (pe_un un_neg pe_int) (pa_cons pe_int (pa_cons (pe_un un_neg pe_int) (pa_cons pe_int pa_nil))))))))))) pa_nil))) pa_nil)))) pa_nil)))
      (pss_cons (ps_dput hu1 (pv 3) (pe_ix ix_list (pv 1) pe_int (fun _ _ => rfl)) (pe_call GO (by exact hr2) rfl gO kO bO .nil pass0 (pa_cons (pv 0) (pa_cons (pe_lst (pa_cons pe_int (pa_cons (pe_un un_neg pe_int) (pa_cons pe_int (pa_cons (pe_un un_neg pe_int) (pa_cons pe_int pa_nil)))))) pa_nil))) (by rfl))
      (pss_cons (ps_set (i := 4) scLi.nd rfl (.inr rfl) pe_int)
      (pss_cons ((ps_for PassesOwn.never rfl (pi_list (pv 1)) (pg_name (i := 2) scLi.nd rfl (.inl rfl)) (pss_one (ps_set (i := 4) scLi.nd rfl (.inr rfl) (pe_call GS (by exact hr2.mono (by decide)) rfl gS kS bS .nil pass0 (pa_cons (pv 4) (pa_cons (pe_dget hu1 (pv 3) (pv 2) (fun _ _ => rfl)) pa_nil)))))))
      (pss_one (ps_ret (pe_callTy (call_dictP rfl) (by rfl) bd PyProof.Rows.boot_dict (pa_cons (pe_lc (own := [("_law_thing", 2)]) (g := gName 2) (tt := tTest (tOp rNe (tDGet (tVar 3) (tVar 2)) (tC (.int 0)))) rfl scLi.nd (pi_list (pv 1)) (blkOk_by (N := nsLi) (sc := defScope (top 88)) (by decide +kernel)) (fun _ _ _ _ _ => pg_name (i := 2) scLi.nd rfl (Or.inl rfl)) (fun _ _ _ _ _ => pts_one (pt_cmpR op_ne (pe_dget (by exact hu1) (pv 3) (pv 2) (fun _ _ => rfl)) pe_int (nomark _)))
          (fun _ _ _ _ _ => pe_tup (pa_cons (pv 2) (pa_cons (pe_op op_fdivZ (pe_dget (by exact hu1) (pv 3) (pv 2) (fun _ _ => rfl)) (pv 4)) pa_nil)))) pa_nil)))))))), ?_⟩
    have l4 : th.length ≤ 4 := ok.le
    have lkN : ∀ {Hx : Hp}, Keep t H Hx → Hx l = some (.lst (th.map V.str)) := fun kp => kp _ _ nlt hl
    refine ⟨_, rfl, l, rfl, ⟨_, SqL.of hl⟩, fun D nD => ?_⟩
    have nDt : D ≠ t := fun e => by rw [e, hT.ht] at nD; cases nD
    have nDc : D ≠ c := fun e => by rw [e, hT.hc] at nD; cases nD
    have kD : Keep t H (upd H D (.lst [])) := Same.keep (same_upd nD)
    refine lc_it (walk_list (xs := th.map V.str)) (fun j Hx => Keep t H Hx ∧ (∃ i' g', 0 ≤ i' ∧ i' ≤ i + (j : Nat) ∧ 0 ≤ g' ∧ Till Hx t c cells i' g') ∧ ∃ (ps : List Addr) (w : Str → Int), Hx D = some (.lst (ps.map V.ref)) ∧ TmP Hx w ps (th.take j) ∧ ∀ n, (w n).natAbs ≤ 47)
      ⟨kD, ⟨i, g, hi0, by omega, hg, hT.same (same_upd nD)⟩, [], fun _ => 0, upd_same, .nil, fun _ => Nat.zero_le _⟩ (fun j Hx _ hP => SqL.of (lkN hP.1)) (fun j x Hx Hx' hj hP hy => ?_) (fun Hx hP => ?_)
    · obtain ⟨rfl, ex⟩ := hy
      obtain ⟨kp, ⟨i', g', a0, a1, a2, hTx⟩, ps, w, hD, hN, wz⟩ := hP
      rw [List.getElem?_map] at ex
      obtain ⟨n, en, rfl⟩ := Option.map_eq_some_iff.mp ex
      have jl : j < th.length := (List.getElem?_eq_some_iff.mp en).1
      refine ⟨rfl, yesI ?_⟩
      refine ⟨_, rfl, _, rfl, _, rfl, _, rfl, _, rfl, _, rfl, by rw [sizeLine_eq]; show 10 ≤ 16777216; decide, fun p np => ?_⟩
      have npt : p ≠ t := fun e => by rw [e, hTx.ht] at np; cases np
      have sp := same_upd (o := .lst [V.int 0, V.int 1, V.int (-1), V.int 2, V.int (-2), V.int 1, V.int (-1), V.int 3, V.int (-3), V.int 47]) np
      refine nilI ⟨t, c, p, cells, i', g', [V.int 0, V.int 1, V.int (-1), V.int 2, V.int (-2), V.int 1, V.int (-1), V.int 3, V.int (-3), V.int 47], rfl, hTx.same sp, a0, by omega, a2, npt, upd_same, by decide, by decide, fun v i2 g2 H2 hv b0 b1 b2 kp2 hT2 => nilI ⟨by rw [sizeLine_eq]; show 2 ≤ 16777216; decide, fun q nq => ?_⟩⟩
      obtain ⟨m, rfl, mz⟩ : ∃ m : Int, v = .int m ∧ m.natAbs ≤ 47 := by
        simp only [List.mem_cons, List.not_mem_nil, or_false] at hv
        rcases hv with rfl | rfl | rfl | rfl | rfl | rfl | rfl | rfl | rfl | rfl <;> exact ⟨_, rfl, by decide⟩
      have sq := same_upd (o := .tup [V.str n, V.int m]) nq
      have kA : Keep t Hx' H2 := (Same.keep sp).trans kp2
      have hD2 := kA _ _ nDt hD
      have nt : n ∉ th.take j := fun mm => by
        obtain ⟨j2, hj2, ej⟩ := List.mem_take_iff_getElem.mp mm
        have h1 : th[j2]? = some n := by rw [List.getElem?_eq_getElem (by omega), ej]
        have lj : j2 < th.length := by omega
        have h2 := (List.getElem?_inj lj ok.nd).mp (h1.trans en.symm)
        omega
      refine ⟨_, sq _ _ hD2, ?_, fun b ob nb e => ?_, ⟨i2, g2, b0, by omega, b2, (hT2.same sq).upd nDt nDc⟩, ps ++ [q], fun k => if k = n then m else w k, ?_, ?_, fun k => ?_⟩
      · have f0 := Paired.length hN
        have f2 := List.length_take (i := j) (l := th)
        rw [List.length_map, sizeLine_eq]; omega
      · rw [upd_ne (ne_of_none e nD)]
        exact sq _ _ (kA _ _ nb (kp _ _ nb e))
      · rw [upd_same, List.map_append]
        rfl
      · rw [List.take_add_one, en]
        have hN2 : TmP H2 w ps (th.take j) := Paired.mono' (fun a k e => kA _ _ (fun z => by rw [z, hTx.ht] at e; cases e) e) hN
        have hN3 : TmP H2 (fun k => if k = n then m else w k) ps (th.take j) := hN2.congr fun k mk => (if_neg (fun (z : k = n) => nt (by rw [← z]; exact mk))).symm
        have hTq : TmP (upd H2 q (.tup [V.str n, V.int m])) (fun k => if k = n then m else w k) (ps ++ [q]) (th.take j ++ [n]) := Paired.snoc (hN3.same sq) (by show _ = some (HO.tup [V.str n, V.int (if n = n then m else w n)]); rw [if_pos rfl]; exact upd_same)
        exact Paired.mono' (fun t n e => (upd_ne fun z => by rw [z] at e; have e2 := (sq _ _ hD2).symm.trans e; cases e2).trans e) hTq
      · by_cases e : k = n
        · show (if k = n then m else w k : Int).natAbs ≤ 47
          rw [if_pos e]; exact mz
        · show (if k = n then m else w k : Int).natAbs ≤ 47
          rw [if_neg e]; exact wz k
    obtain ⟨kp, ⟨i1, g1, a0, a1, a2, hT1⟩, ps, w0, hD, hN, wz⟩ := hP
    rw [List.length_map, List.take_length] at hN
    rw [List.length_map] at a1
    obtain ⟨kvs0, q1, q2⟩ := hN.kvs (K := K)
    refine nilI ⟨D, ps, kvs0, rfl, SqL.of hD, q1, fun p np => ?_⟩
    rw [mergeK_names q2.kyn ok.nd]
    have sp := same_upd (o := .dK kvs0) np
    have hpd : (upd Hx p (.dK kvs0)) p = some (.dK kvs0) := upd_same
    have npt : p ≠ t := fun e => by rw [e, hT1.ht] at np; cases np
    have kp1 : Keep t H (upd Hx p (.dK kvs0)) := kp.same sp
    have hT1 := hT1.same sp
    have nH : H p = none := by
      cases e : H p with
      | none => rfl
      | some o => rw [kp _ _ npt e] at np; cases np
    clear q1 hN hD sp kp np kD
    generalize upd Hx p (.dK kvs0) = H1 at hpd kp1 hT1 ⊢
    dsimp only [gName, tSeq, tAsg]
    -- the first thing
    obtain ⟨z, tl, rfl⟩ : ∃ z tl, th = z :: tl := by
      cases th with
      | nil => exact absurd rfl tn
      | cons z tl => exact ⟨z, tl, rfl⟩
    refine ⟨_, rfl, _, rfl, _, rfl, by rw [sizeLine_eq]; show 5 ≤ 16777216; decide, fun p2 np2 => ?_⟩
    have np2t : p2 ≠ t := fun e => by rw [e, hT1.ht] at np2; cases np2
    have sp2 := same_upd (o := .lst [V.int 1, V.int (-1), V.int 2, V.int (-3), V.int 5]) np2
    refine nilI ⟨t, c, p2, cells, i1, g1, [V.int 1, V.int (-1), V.int 2, V.int (-3), V.int 5], rfl, hT1.same sp2, a0, by simp only [List.length_cons] at a1 l4; omega, a2, np2t, upd_same, by decide, by decide, fun v i2 g2 H2 hv b0 b1 b2 kp2 hT2 => ?_⟩
    obtain ⟨m, rfl, m0, mz⟩ : ∃ m : Int, v = .int m ∧ m ≠ 0 ∧ m.natAbs ≤ 47 := by
      simp only [List.mem_cons, List.not_mem_nil, or_false] at hv
      rcases hv with rfl | rfl | rfl | rfl | rfl <;> exact ⟨_, rfl, by decide, by decide⟩
    have k12 : Keep t H1 H2 := (Same.keep sp2).trans kp2
    have hp2 := k12 _ _ npt hpd
    have hl2 : H2 l = some (.lst ((z :: tl).map V.str)) := k12 _ _ nlt (kp1 _ _ nlt hl)
    have lk0 := Paired.length q2
    refine ⟨_, rfl, _, rfl, l, _, 0, _, rfl, rfl, SqL.of hl2, atI_nat (show (List.map V.str (z :: tl))[0]? = some (V.str z) from rfl), p, _, rfl, DPut.k (k := .inr z) hp2 (by rw [sizeLine_eq]; simp only [List.length_cons] at lk0 l4; omega), ?_⟩
    have q3 := q2.put ok.nd List.mem_cons_self m
    have npc : p ≠ c := fun e => by rw [e, hT1.hc] at hpd; cases hpd
    have k02 : Keep t H H2 := kp1.trans k12
    have k3 : Keep t H (upd H2 p (.dK (putK kvs0 (.inr z) (.int m)))) := fun b o nb e => by
      rw [upd_ne (fun y => by rw [y, nH] at e; cases e)]
      exact k02 _ _ nb e
    have hT3 : Till (upd H2 p (.dK (putK kvs0 (.inr z) (.int m)))) t c cells i2 g2 := hT2.upd npt npc
    have hp3 : (upd H2 p (.dK (putK kvs0 (.inr z) (.int m)))) p = some (.dK (putK kvs0 (.inr z) (.int m))) := upd_same
    obtain ⟨wd, ewd⟩ : ∃ wd : Str → Int, wd = fun k => if k = z then m else w0 k := ⟨_, rfl⟩
    rw [← ewd] at q3
    have wb : ∀ n, (wd n).natAbs ≤ 47 := fun n => by
      rw [ewd]
      show (if n = z then m else w0 n : Int).natAbs ≤ 47
      by_cases e : n = z
      · rw [if_pos e]; exact mz
      · rw [if_neg e]; exact wz n
    have wz1 : wd z ≠ 0 := by
      rw [ewd]
      show (if z = z then m else w0 z : Int) ≠ 0
      rw [if_pos rfl]; exact m0
    clear ewd
    generalize putK kvs0 (.inr z) (.int m) = kvs3 at *
    generalize upd H2 p (.dK kvs3) = H3 at *
    have hl3 : H3 l = some (.lst ((z :: tl).map V.str)) := k3 _ _ nlt hl
    have lth : i2 ≤ i + 5 := by simp only [List.length_cons] at a1 l4; omega
    have mzt : z ∈ z :: tl := List.mem_cons_self
    generalize z :: tl = th at *
    dsimp only [tNext, tSeq, tAsg, gName]
    refine ⟨_, rfl, l, rfl, ⟨_, SqL.of hl3⟩, ?_⟩
    refine for_it (walk_list (xs := th.map V.str)) (fun j σ Hx => (∃ o, σ = [some (.ref t), some (.ref l), o, some (.ref p), some (.int (gcdW wd (th.take j) 0 : Nat))]) ∧ Hx = H3) ⟨⟨none, rfl⟩, rfl⟩ (fun j σ Hx _ hP => by rw [hP.2]; exact SqL.of hl3) ?_ ?_
    · rintro j x σ Hx Hx' hj ⟨⟨o, rfl⟩, rfl⟩ ⟨rfl, ex⟩
      rw [List.getElem?_map] at ex
      obtain ⟨n, en, rfl⟩ := Option.map_eq_some_iff.mp ex
      have mn := List.mem_of_getElem? en
      refine ⟨_, rfl, _, rfl, _, rfl, p, .int (wd n), rfl, q3.get hp3 mn, nilI ⟨_, _, rfl, ⟨⟨some (.str n), ?_⟩, rfl⟩⟩⟩
      rw [show gcdW wd (th.take (j + 1)) 0 = Nat.gcd (gcdW wd (th.take j) 0) (wd n).natAbs by unfold gcdW; rw [List.take_add_one, en, List.foldl_append]; rfl]
      rfl
    · rintro σ Hx ⟨⟨o, rfl⟩, rfl⟩
      rw [List.length_map, List.take_length]
      obtain ⟨gp, gx, g1'⟩ := gcdW_div mzt wz1
      have gd : gcdW wd th 0 ≤ 47 := Nat.le_trans (Nat.le_of_dvd (Int.natAbs_pos.mpr wz1) ((gcdW_dvd wd th 0).2 z mzt)) (wb z)
      generalize gcdW wd th 0 = G at *
      have z0 : ∀ n ∈ th, ((wd n).fdiv (G : Nat) = 0 ↔ wd n = 0) := fun n mn => by
        have := gx n mn
        constructor
        · intro e; rw [e, Int.mul_zero] at this; exact this
        · intro e; rw [e]; exact Int.zero_fdiv _
      refine ⟨_, rfl, l, rfl, ⟨_, SqL.of hl3⟩, fun D2 nD2 => ?_⟩
      refine lc_it (walk_list (xs := th.map V.str)) (fun j Hy => Same Hx Hy ∧ ∃ ts, Hy D2 = some (.lst (ts.map V.ref)) ∧ TmP Hy (fun n => (wd n).fdiv (G : Nat)) ts ((th.take j).filter fun n => !decide (wd n = 0))) ⟨same_upd nD2, [], upd_same, .nil⟩ (fun j Hy _ hP => SqL.of (hP.1 _ _ hl3)) (fun j x Hy Hy' hj hP hy => ?_) (fun Hy hP => ?_)
      · obtain ⟨rfl, ex⟩ := hy
        obtain ⟨sG, ts, hD, hT⟩ := hP
        rw [List.getElem?_map] at ex
        obtain ⟨n, en, rfl⟩ := Option.map_eq_some_iff.mp ex
        have mn := List.mem_of_getElem? en
        have tk := take_succ_filter (fun n => !decide (wd n = 0)) th j n en
        have dg : DGet Hy' p (kV (.inr n)) (some (.int (wd n))) := q3.get (sG _ _ hp3) mn
        refine ⟨rfl, ?_⟩
        refine ⟨_, rfl, _, rfl, p, .int (wd n), rfl, dg, rfl, !decide (wd n = 0), congrArg V.bl (congrArg (fun b => !b) (decI ..)), ite2 (fun cc => ?_) (fun cc => ?_)⟩
        · refine ⟨_, rfl, _, rfl, _, rfl, p, .int (wd n), rfl, dg, _, rfl, _, _, rfl, rfl, ⟨by omega, ?_⟩, by rw [sizeLine_eq]; show 2 ≤ 16777216; decide, fun q nq => ?_⟩
          · rw [Int.natAbs_natCast]
            exact Nat.lt_of_le_of_lt (Nat.log2_le_self G) (by omega)
          have sq := same_upd (o := .tup [V.str n, V.int ((wd n).fdiv (G : Nat))]) nq
          refine ⟨_, sq _ _ hD, ?_, fun a o e => ?_, ts ++ [q], ?_, ?_⟩
          · have f0 := Paired.length hT
            have f1 := List.length_filter_le (fun n => !decide (wd n = 0)) (th.take j)
            have f2 := List.length_take (i := j) (l := th)
            rw [List.length_map, sizeLine_eq]; omega
          · rw [upd_ne (ne_of_none e nD2)]; exact sq _ _ (sG _ _ e)
          · rw [upd_same, List.map_append]
            rfl
          · rw [tk, if_pos cc]
            have hTq : TmP (upd Hy' q (.tup [V.str n, V.int ((wd n).fdiv (G : Nat))])) (fun n => (wd n).fdiv (G : Nat)) (ts ++ [q]) (((th.take j).filter fun n => !decide (wd n = 0)) ++ [n]) := Paired.snoc (hT.same sq) upd_same
            exact Paired.mono' (fun t n e => (upd_ne fun z => by rw [z] at e; have e2 := (sq _ _ hD).symm.trans e; cases e2).trans e) hTq
        · refine ⟨sG, ts, hD, ?_⟩
          rw [tk, if_neg cc, List.append_nil]
          exact hT
      · obtain ⟨sG, ts, hD, hT⟩ := hP
        rw [List.length_map, List.take_length] at hT
        obtain ⟨kvs4, r1, r2⟩ := hT.kvs (K := K)
        refine nilI ⟨D2, ts, kvs4, rfl, SqL.of hD, r1, fun p4 np4 => ?_⟩
        rw [mergeK_names r2.kyn (ok.nd.filter _)]
        have s4 := same_upd (o := .dK kvs4) np4
        have ef : (th.filter fun n => !decide (wd n = 0)) = th.filter fun n => !decide ((wd n).fdiv (G : Nat) = 0) := List.filter_congr fun n mn => by rw [decide_eq_decide.mpr (z0 n mn)]
        rw [ef] at r2
        refine k p4 kvs4 _ i2 g2 _ upd_same r2 ⟨z, mzt, fun e => wz1 ((z0 z mzt).mp e)⟩ (fun n mn => ?_) g1' b0 lth b2 (k3.same (sG.trans s4)) (hT3.same (sG.trans s4))
        have e1 := wb n
        rw [gx n mn, Int.natAbs_mul, Int.natAbs_natCast] at e1
        exact Nat.le_trans (Nat.le_mul_of_pos_left _ gp) e1
end
end K09
namespace K09
open PySem PySem.Spec PyProof.Rows L2 RatM ClX
theorem cI {v : V} {σ : L2.St} {H : Hp} {Q : VK} (h : Q v H) : tC v σ H Q := h
/-- comparisons, as the law calls them -/
structure CmK (P : Program) (w : World) (K : PySem.W.Frag) (mg : Str → Option Value) (base : Heap) (CM CP CB C BR BB BC : Addr) : Prop where
  W : BopK P w K mg base CB C BR
  CK : CompK P w K mg base CM CP CB C BB BC
  nf : PySem.W.notFirst K CM (.ref CM) = true
  ne : PySem.W.findIn K (.ref CM) "__ne__" = some (some (.builtin "object.__ne__"))
  ob : PySem.W.subIn K (.ref CM) (.type "object") = some true
  eq : ∃ (f : Addr) (fd : FuncData), OwnM K CM "__eq__" f ∧ FnOk P w K mg base CX0 3 f fd ["self", "other"] (spEqC K CM CP CB C) ∧ Binds K fd ["self", "other"] []
  contr : ∃ (f : Addr) (fd : FuncData), Meth K CM "contraries" f ∧ FnOk P w K mg base CX0 17 f fd ["self"] (spContr CM CP CB C) ∧ Binds K fd ["self"] []
def spCr (CM CP CB C : Addr) : Sp := fun vs H Q _ => ∃ (a : Addr) (k : Kd) (u : Str → Rat) (zs : List Str) (B c : Nat), vs = [.ref a, .str k.s] ∧ CompAt H a CM CP CB C k u zs B c ∧ B ≤ 300 ∧ c ≤ 8 ∧ zs.length ≤ 4 ∧ zs ≠ [] ∧ LeastV u u zs ∧ ∀ H', Same H H' → Q (.bl true) H'
section
variable {P : Program} {w : World} {K : PySem.W.Frag} {mg : Str → Option Value} {base : Heap} {C BR CB BB BP BC BN CP CM : Addr}
abbrev nsCr : List Str := ["_law_comparison", "_law_kind", "_law_balance", "_law_found"]
theorem scCr : FnScope nsCr ["_law_comparison", "_law_kind"] (defScope (top 95)) := ⟨rfl, rfl, rfl, by decide +kernel, rfl, by decide +kernel, by decide +kernel⟩
theorem ok_cr {f : Addr} {fd : FuncData} (F : FnP K "_law_contraries_right" (top 95) f fd) (M : CmK P w K mg base CM CP CB C BR BB BC) : FnOk P w K mg base CX0 19 f fd ["_law_comparison", "_law_kind"] (spCr CM CP CB C) := by
  obtain ⟨fE, fdE, ME, GE, bE⟩ := M.eq
  obtain ⟨fC, fdC, MC, GC, bC⟩ := M.contr
  obtain ⟨fN, fdN, MN, GN, bN⟩ := M.W.neg
  have T := M.CK.T
  have CK := M.CK
  have R := M.W.O.R
  refine F.ok scCr (fun vs H Q E h => ?_) (fun cdv A outer s H vs Q E hr h => ?_)
  · obtain ⟨a, k, u, zs, B, c, rfl, _⟩ := h
    rfl
  · obtain ⟨a, kd, u, zs, B, c, rfl, hp, hB, hc, l4, zn, L, k⟩ := h
    have hr18 : Room 18 _ := hr
    have hr17 : Room 17 _ := hr18.mono (by decide)
    have hr16 : Room 16 _ := hr18.mono (by decide)
    have hr11 : Room 11 _ := hr18.mono (by decide)
    have hr4 : Room 4 _ := hr18.mono (by decide)
    refine ⟨_, PSs.nox (pss_cons (ps_par (i := 2) (j := 3) rfl scCr.nd rfl rfl (by decide) rfl rfl (pa_cons (pe_fld (pv 0) rfl) (pa_cons (pe_meth0 (pv 0) T.cls MC GC hr17 bC .nil (E := E0) pass0) pa_nil)) rfl)
      (pss_cons (ps_if (pt_cmpR op_eq (pv 1) pe_str (nomark _)) (pss_one (ps_ret (pe_and (pe_cmpR (op_eqTup ME GE hr4 bE (E := E0) pass0 M.nf) (pv 3) (pe_tup (pa_cons (pe_comp CK hr16 (E := E0) passL rfl (pa_cons (pv 2) (pa_cons pe_str pa_nil))) (pa_cons (pe_comp CK hr16 (E := E0) passL rfl (pa_cons (pe_un (un_ownNeg MN GN hr11 bN (E := E0) passL) (pv 2)) (pa_cons pe_str pa_nil))) pa_nil))) (nomark _)) (pe_one (pe_callB call_isi (by rfl) R.bi (by decide +kernel) (pa_cons (pv 3) (pa_cons (pe_bltn (v := .ty "tuple") (by rfl) M.W.tup (by decide +kernel) rfl) pa_nil))))))) pss_nil)
      (pss_cons (ps_if (PW.pt (pw_or (pt_cmpR (op_neTup ME GE hr4 bE (E := E0) pass0 M.nf) (pv 3) (pe_tup (pa_cons (pe_comp CK hr16 (E := E0) passL rfl (pa_cons (pe_un (un_ownNeg MN GN hr11 bN (E := E0) passL) (pv 2)) (pa_cons (pe_ifExp (pt_cmpR op_eq (pv 1) pe_str (nomark _)) pe_str pe_str) pa_nil))) pa_nil)) (nomark _)) (pw_or1 (pt_cmpR (op_eqOwn ME GE (hr4.mono (by decide)) bE (E := E0) pass0) (pe_ix ix_tup (pv 3) pe_int (fun _ _ => rfl)) (pv 0) (nomark _))))) (pss_one (ps_ret pe_bl)) pss_nil)
      (pss_one (ps_ret (pe_cmpR (op_eqTup ME GE hr4 bE (E := E0) pass0 M.nf) (pe_meth0 (pe_ix ix_tup (pv 3) pe_int (fun _ _ => rfl)) T.cls MC GC hr17 bC .nil (E := E0) pass0) (pe_tup (pa_cons (pv 0) pa_nil)) (nomark _))))))), ?_⟩
    have tB := T.no "balance" (by simp)
    obtain ⟨dx, b, tp, pr, ha, hb, hpr⟩ := id hp
    refine ⟨_, rfl, a, CM, dx, _, _, rfl, ha, T.cls, tB, rfl, _, rfl, a, dx, _, rfl, ha, rfl, nilI ⟨a, kd, u, zs, B, c, rfl, hp, by omega, by omega, l4, zn, L, fun p ms H1 s1 e1 pm => nilI ⟨_, _, rfl, ?_⟩⟩⟩
    dsimp only [tNext, tSeq]
    have mkC : ∀ (k2 : Kd) (σv : V) (H2 : Hp) (Q2 : VK) (bb : Addr) (v : Str → Rat) (B2 c2 : Nat), k2 ≠ .eq → BX H2 bb CB C v zs B2 c2 → B2 ≤ 700 → c2 ≤ 12 → LeastV v v zs → (∀ m H3, Same H2 H3 → CompAt H3 m CM CP CB C k2 v zs (B2 + 65) 2 → Q2 (.ref m) H3) → MkC K CM CP CB C BB BC (.ref bb) (.str k2.s) H2 Q2 E0 := by
      intro k2 _ H2 Q2 bb v B2 c2 ne hbb h1 h2 Lv q
      refine .inl ⟨bb, v, zs, B2, c2, k2, rfl, rfl, hbb, h1, h2, l4, zn, fun u2 L2 m H3 s3 _ hm => ?_⟩
      obtain rfl := Lv.one L2
      rw [show kupV k2 u2 zs = u2 from if_neg ne] at hm
      exact q m H3 s3 hm
    have hb1 := hb.same s1
    cases kd
    · refine ⟨_, rfl, rfl, false, rfl, iteF ?_⟩
      dsimp only [tNext, tSeq]
      refine ⟨_, rfl, _, rfl, b, rfl, hb1.ins, hb1.neg ⟨by omega, by omega⟩ fun b2 H3 s3 hb2 => ⟨_, rfl, rfl, true, rfl, iteT (cI (nilI ⟨_, _, rfl, mkC .ge .non H3 _ b2 _ (B + 1) (c + 1) (by decide) hb2 (by omega) (by omega) L.neg fun n2 H4 s4 hn2 => nilI ⟨by rw [sizeLine_eq]; show 1 ≤ 16777216; decide, fun q nq => ?_⟩⟩))⟩⟩
      obtain ⟨m1, rfl, hm1⟩ : ∃ m1, ms = [m1] ∧ CompAt H1 m1 CM CP CB C .ge (fun n => -u n) zs (B + 66) 2 := by
        cases pm with
        | cons x r => cases r; exact ⟨_, rfl, x⟩
      have sq := same_upd (o := .tup [V.ref n2]) nq
      have s4q := s4.trans sq
      have s1q := s3.trans s4q
      refine ⟨p, q, [m1], [n2], rfl, rfl, s1q _ _ e1, upd_same, rfl, fun x y mem => ?_, ⟨false, rfl, iteF ?_⟩⟩
      · have h1 := hm1.same s1q
        have h4 := hn2.same sq
        simp only [List.zip_cons_cons, List.zip_nil_right, List.mem_cons, List.not_mem_nil, or_false, Prod.mk.injEq] at mem
        obtain ⟨rfl, rfl⟩ := mem
        refine ⟨h1.ins, h4.ins, x, .ref y, .ge, _, zs, _, _, rfl, h1, .inl ⟨y, .ge, _, zs, _, _, rfl, h4, fun bl e => ⟨?_, rfl⟩⟩⟩
        rw [e.mpr ⟨rfl, fun _ => rfl⟩]
      have hm1q := hm1.same s1q
      have hpq := hp.same (s1.trans s1q)
      have e1q := s1q _ _ e1
      have s0q := s1.trans s1q
      generalize upd H4 q (HO.tup [V.ref n2]) = H5 at hm1q hpq e1q s0q ⊢
      have ix0 : atI (List.map V.ref [m1]) 0 = some (V.ref m1) := rfl
      refine ⟨_, rfl, p, _, 0, _, rfl, rfl, SqT.of e1q, atI_nat (show (List.map V.ref [m1])[0]? = some (V.ref m1) from rfl), _, rfl, ?_⟩
      refine ⟨m1, .ref CM, rfl, hm1q.ins, ty_ins hpq.ins, M.nf, m1, .ref a, .ge, _, zs, _, _, rfl, hm1q, .inl ⟨a, _, u, zs, _, _, rfl, hpq, fun bl e => ?_⟩⟩
      have bl0 : bl = false := by
        cases bl with
        | false => rfl
        | true => exact absurd (e.mp rfl).1 (by decide)
      subst bl0
      refine ⟨false, rfl, false, rfl, iteF ?_⟩
      dsimp only [tNext, tSeq]
      obtain ⟨mdx, mb, mtp, mpr, ma, mrest⟩ := id hm1q
      refine ⟨_, rfl, p, _, 0, _, rfl, rfl, SqT.of e1q, atI_nat (show (List.map V.ref [m1])[0]? = some (V.ref m1) from rfl), m1, mdx, _, rfl, ma, rfl, nilI ⟨m1, .ge, _, zs, _, _, rfl, hm1q, by omega, by omega, l4, zn, L.neg, fun p2 ms2 H6 s6 e6 pm2 => ?_⟩⟩
      obtain ⟨m3, rfl, hm3⟩ : ∃ m3, ms2 = [m3] ∧ CompAt H6 m3 CM CP CB C .gt (fun n => - -u n) zs (B + 66 + 66) 2 := by
        cases pm2 with
        | cons x r => cases r; exact ⟨_, rfl, x⟩
      refine ⟨_, rfl, nilI ⟨by rw [sizeLine_eq]; show 1 ≤ 16777216; decide, fun q2 nq2 => ?_⟩⟩
      have sq2 := same_upd (o := .tup [V.ref a]) nq2
      refine ⟨p2, q2, [m3], [a], rfl, rfl, sq2 _ _ e6, upd_same, rfl, fun x y mem => ?_, k _ (s0q.trans (s6.trans sq2))⟩
      have h1 := hm3.same sq2
      have h4 := hpq.same (s6.trans sq2)
      simp only [List.zip_cons_cons, List.zip_nil_right, List.mem_cons, List.not_mem_nil, or_false, Prod.mk.injEq] at mem
      obtain ⟨rfl, rfl⟩ := mem
      refine ⟨h1.ins, h4.ins, x, .ref y, .gt, _, zs, _, _, rfl, h1, .inl ⟨y, .gt, _, zs, _, _, rfl, h4, fun bl e => ⟨?_, rfl⟩⟩⟩
      rw [e.mpr ⟨rfl, fun _ => by grind⟩]
    · refine ⟨_, rfl, rfl, false, rfl, iteF ?_⟩
      dsimp only [tNext, tSeq]
      refine ⟨_, rfl, _, rfl, b, rfl, hb1.ins, hb1.neg ⟨by omega, by omega⟩ fun b2 H3 s3 hb2 => ⟨_, rfl, rfl, false, rfl, iteF (cI (nilI ⟨_, _, rfl, mkC .gt .non H3 _ b2 _ (B + 1) (c + 1) (by decide) hb2 (by omega) (by omega) L.neg fun n2 H4 s4 hn2 => nilI ⟨by rw [sizeLine_eq]; show 1 ≤ 16777216; decide, fun q nq => ?_⟩⟩))⟩⟩
      obtain ⟨m1, rfl, hm1⟩ : ∃ m1, ms = [m1] ∧ CompAt H1 m1 CM CP CB C .gt (fun n => -u n) zs (B + 66) 2 := by
        cases pm with
        | cons x r => cases r; exact ⟨_, rfl, x⟩
      have sq := same_upd (o := .tup [V.ref n2]) nq
      have s4q := s4.trans sq
      have s1q := s3.trans s4q
      refine ⟨p, q, [m1], [n2], rfl, rfl, s1q _ _ e1, upd_same, rfl, fun x y mem => ?_, ⟨false, rfl, iteF ?_⟩⟩
      · have h1 := hm1.same s1q
        have h4 := hn2.same sq
        simp only [List.zip_cons_cons, List.zip_nil_right, List.mem_cons, List.not_mem_nil, or_false, Prod.mk.injEq] at mem
        obtain ⟨rfl, rfl⟩ := mem
        refine ⟨h1.ins, h4.ins, x, .ref y, .gt, _, zs, _, _, rfl, h1, .inl ⟨y, .gt, _, zs, _, _, rfl, h4, fun bl e => ⟨?_, rfl⟩⟩⟩
        rw [e.mpr ⟨rfl, fun _ => rfl⟩]
      have hm1q := hm1.same s1q
      have hpq := hp.same (s1.trans s1q)
      have e1q := s1q _ _ e1
      have s0q := s1.trans s1q
      generalize upd H4 q (HO.tup [V.ref n2]) = H5 at hm1q hpq e1q s0q ⊢
      have ix0 : atI (List.map V.ref [m1]) 0 = some (V.ref m1) := rfl
      refine ⟨_, rfl, p, _, 0, _, rfl, rfl, SqT.of e1q, atI_nat (show (List.map V.ref [m1])[0]? = some (V.ref m1) from rfl), _, rfl, ?_⟩
      refine ⟨m1, .ref CM, rfl, hm1q.ins, ty_ins hpq.ins, M.nf, m1, .ref a, .gt, _, zs, _, _, rfl, hm1q, .inl ⟨a, _, u, zs, _, _, rfl, hpq, fun bl e => ?_⟩⟩
      have bl0 : bl = false := by
        cases bl with
        | false => rfl
        | true => exact absurd (e.mp rfl).1 (by decide)
      subst bl0
      refine ⟨false, rfl, false, rfl, iteF ?_⟩
      dsimp only [tNext, tSeq]
      obtain ⟨mdx, mb, mtp, mpr, ma, mrest⟩ := id hm1q
      refine ⟨_, rfl, p, _, 0, _, rfl, rfl, SqT.of e1q, atI_nat (show (List.map V.ref [m1])[0]? = some (V.ref m1) from rfl), m1, mdx, _, rfl, ma, rfl, nilI ⟨m1, .gt, _, zs, _, _, rfl, hm1q, by omega, by omega, l4, zn, L.neg, fun p2 ms2 H6 s6 e6 pm2 => ?_⟩⟩
      obtain ⟨m3, rfl, hm3⟩ : ∃ m3, ms2 = [m3] ∧ CompAt H6 m3 CM CP CB C .ge (fun n => - -u n) zs (B + 66 + 66) 2 := by
        cases pm2 with
        | cons x r => cases r; exact ⟨_, rfl, x⟩
      refine ⟨_, rfl, nilI ⟨by rw [sizeLine_eq]; show 1 ≤ 16777216; decide, fun q2 nq2 => ?_⟩⟩
      have sq2 := same_upd (o := .tup [V.ref a]) nq2
      refine ⟨p2, q2, [m3], [a], rfl, rfl, sq2 _ _ e6, upd_same, rfl, fun x y mem => ?_, k _ (s0q.trans (s6.trans sq2))⟩
      have h1 := hm3.same sq2
      have h4 := hpq.same (s6.trans sq2)
      simp only [List.zip_cons_cons, List.zip_nil_right, List.mem_cons, List.not_mem_nil, or_false, Prod.mk.injEq] at mem
      obtain ⟨rfl, rfl⟩ := mem
      refine ⟨h1.ins, h4.ins, x, .ref y, .ge, _, zs, _, _, rfl, h1, .inl ⟨y, .ge, _, zs, _, _, rfl, h4, fun bl e => ⟨?_, rfl⟩⟩⟩
      rw [e.mpr ⟨rfl, fun _ => by grind⟩]
    · refine ⟨_, rfl, rfl, true, rfl, iteT ?_⟩
      refine ⟨_, rfl, _, rfl, consC ⟨_, _, rfl, mkC .gt .non H1 _ b u B c (by decide) hb1 (by omega) (by omega) L fun n1 H2 s2 hn1 => ?_⟩⟩
      refine ⟨_, rfl, b, rfl, (hb1.same s2).ins, (hb1.same s2).neg ⟨by omega, by omega⟩ fun b2 H3 s3 hb2 => consC ⟨_, _, rfl, mkC .gt .non H3 _ b2 _ (B + 1) (c + 1) (by decide) hb2 (by omega) (by omega) L.neg fun n2 H4 s4 hn2 => nilI ⟨by rw [sizeLine_eq]; show 2 ≤ 16777216; decide, fun q nq => ?_⟩⟩⟩
      obtain ⟨m1, m2, rfl, hm1, hm2⟩ : ∃ m1 m2, ms = [m1, m2] ∧ CompAt H1 m1 CM CP CB C .gt u zs (B + 66) 2 ∧ CompAt H1 m2 CM CP CB C .gt (fun n => -u n) zs (B + 66) 2 := by
        cases pm with
        | cons x r => cases r with
          | cons y r2 => cases r2; exact ⟨_, _, rfl, x, y⟩
      have sq := same_upd (o := .tup [V.ref n1, V.ref n2]) nq
      have s14 := s2.trans (s3.trans s4)
      have s1q := s14.trans sq
      refine ⟨p, q, [m1, m2], [n1, n2], rfl, rfl, s1q _ _ e1, upd_same, rfl, fun x y mem => ?_, ⟨true, rfl, iteT ?_⟩⟩
      · have h1 := hm1.same s1q
        have h2 := hm2.same s1q
        have h3 := hn1.same ((s3.trans s4).trans sq)
        have h4 := hn2.same sq
        simp only [List.zip_cons_cons, List.zip_nil_right, List.mem_cons, List.not_mem_nil, or_false, Prod.mk.injEq] at mem
        rcases mem with ⟨rfl, rfl⟩ | ⟨rfl, rfl⟩
        · refine ⟨h1.ins, h3.ins, x, .ref y, .gt, u, zs, _, _, rfl, h1, .inl ⟨y, .gt, u, zs, _, _, rfl, h3, fun bl e => ⟨?_, rfl⟩⟩⟩
          rw [e.mpr ⟨rfl, fun _ => rfl⟩]
        · refine ⟨h2.ins, h4.ins, x, .ref y, .gt, _, zs, _, _, rfl, h2, .inl ⟨y, .gt, _, zs, _, _, rfl, h4, fun bl e => ⟨?_, rfl⟩⟩⟩
          rw [e.mpr ⟨rfl, fun _ => rfl⟩]
      · exact ⟨_, rfl, _, _, _, _, _, rfl, .ty "tuple", .base (.tup (s1q _ _ e1)), kit_ty (r := true) (by decide +kernel), k _ (s1.trans s1q)⟩
end
end K09
namespace K09
open PySem PySem.Spec PyProof.Rows L2 RatM ClX
/-- pairs and scales, as the law calls them -/
structure RwK (P : Program) (w : World) (K : PySem.W.Frag) (mg : Str → Option Value) (base : Heap) (CS CM CP CB C BR BB BC BN : Addr) : Prop where
  M : CmK P w K mg base CM CP CB C BR BB BC
  TP : PairC K CP
  TS : ScaC K CS
  eqP : ∃ (f : Addr) (fd : FuncData), OwnM K CP "__eq__" f ∧ FnOk P w K mg base CX0 3 f fd ["self", "other"] (spEqP K CP CB C) ∧ Binds K fd ["self", "other"] []
  nfP : PySem.W.notFirst K CP (.ref CP) = true
  neP : PySem.W.findIn K (.ref CP) "__ne__" = some (some (.builtin "object.__ne__"))
  obP : PySem.W.subIn K (.ref CP) (.type "object") = some true
  asR : ∃ (f : Addr) (fd : FuncData), Meth K CP "as_rows" f ∧ FnOk P w K mg base (L2.CX P w) 17 f fd ["self", "outcome"] (spAsRows K CM CP CB C BN) ∧ Binds K fd ["self", "outcome"] [] ∧ BindsKM fd "self" ["outcome"]
  out : ∃ (f : Addr) (fd : FuncData), Meth K CS "outcome" f ∧ FnOk P w K mg base (L2.CX P w) 10 f fd ["self", "pair"] (spOut CS CP CB C) ∧ Binds K fd ["self", "pair"] []
  keeps : ∃ (f : Addr) (fd : FuncData), Meth K CS "keeps" f ∧ FnOk P w K mg base (L2.CX P w) 10 f fd ["self", "comparison"] (spKeeps CS CM CP CB C) ∧ Binds K fd ["self", "comparison"] []
theorem BX.nz {H : Hp} {a CB C : Addr} {v : Str → Rat} {zs : List Str} {B c : Nat} (h : BX H a CB C v zs B c) {n : Str} (m : n ∈ zs) : v n ≠ 0 := by
  obtain ⟨g, h1, hv, hz⟩ := h
  exact (hv.mem n).mp m
theorem upV_row {u : Str → Rat} {zs : List Str} {i : Int} (zn : zs ≠ []) (up : upV u zs = u) (nz : ∀ n ∈ zs, u n ≠ 0) (i0 : -1 ≤ i) (i1 : i ≤ 1) : upV (rowU i u) zs = u := by
  obtain ⟨z, t, rfl⟩ : ∃ z t, zs = z :: t := by
    cases zs with
    | nil => exact absurd rfl zn
    | cons z t => exact ⟨z, t, rfl⟩
  have n0 : ¬ u z < 0 := fun c => by
    have e : upV u (z :: t) z = u z := by rw [up]
    have e2 : upV u (z :: t) z = -u z := if_pos c
    grind
  have nz0 := nz z List.mem_cons_self
  have hi : i = 0 ∨ i = 1 ∨ i = -1 := by omega
  rcases hi with rfl | rfl | rfl
  · exact up
  · have e : rowU 1 u = u := by
      funext n
      show u n * ((1 : Int) : Rat) = u n
      have : ((1 : Int) : Rat) = 1 := rfl
      rw [this]; grind
    rw [e]; exact up
  · have e : rowU (-1) u = fun n => -u n := by
      funext n
      show u n * ((-1 : Int) : Rat) = -u n
      have : ((-1 : Int) : Rat) = -1 := rfl
      rw [this]; grind
    rw [e, upV_neg (by grind)]
    funext n
    grind
theorem wsum_neg (v s : Str → Rat) (zs : List Str) : wsum (fun n => -v n) s zs = -wsum v s zs := by
  have h : ∀ (l : List Str) (t : Rat), l.foldl (fun t n => t + -v n * s n) (-t) = -(l.foldl (fun t n => t + v n * s n) t) := by
    intro l
    induction l with
    | nil => intro t; rfl
    | cons x r ih =>
      intro t
      rw [List.foldl_cons, List.foldl_cons, ← ih (t + v x * s x)]
      congr 1
      grind
  have := h zs 0
  have z : (-(0 : Rat)) = 0 := rfl
  rw [z] at this
  exact this
/-- a row is kept where its outcome is -/
theorem row_kept {u s : Str → Rat} {zs : List Str} {i : Int} (i0 : -1 ≤ i) (i1 : i ≤ 1) : (rowK i).keeps (sgR (wsum (rowU i u) s zs)) = decide (i = sgR (wsum u s zs)) := by
  have hi : i = 0 ∨ i = 1 ∨ i = -1 := by omega
  rcases hi with rfl | rfl | rfl
  · show decide (sgR (wsum u s zs) = 0) = _
    exact decide_eq_decide.mpr ⟨fun h => h.symm, fun h => h.symm⟩
  · have e : rowU 1 u = u := by
      funext n
      show u n * ((1 : Int) : Rat) = u n
      have : ((1 : Int) : Rat) = 1 := rfl
      rw [this]; grind
    rw [e]
    show decide (0 < sgR (wsum u s zs)) = _
    refine decide_eq_decide.mpr ?_
    generalize wsum u s zs = q
    unfold sgR
    split <;> (try split) <;> omega
  · have e : rowU (-1) u = fun n => -u n := by
      funext n
      show u n * ((-1 : Int) : Rat) = -u n
      have : ((-1 : Int) : Rat) = -1 := rfl
      rw [this]; grind
    rw [e, wsum_neg]
    show decide (0 < sgR (-wsum u s zs)) = _
    refine decide_eq_decide.mpr ?_
    generalize wsum u s zs = q
    unfold sgR
    have h1 : (0 < -q) ↔ q < 0 := by grind
    have h2 : (-q < 0) ↔ 0 < q := by grind
    have h3 : ¬ (0 < q ∧ q < 0) := by grind
    by_cases c1 : 0 < q <;> by_cases c2 : q < 0 <;> simp [h1, h2, c1, c2] <;> (try omega) <;> exact h3 ⟨c1, c2⟩
def spRr (CS CM CP CB C : Addr) : Sp := fun vs H Q _ => ∃ (p l : Addr) (scs : List Addr) (u : Str → Rat) (zs : List Str) (B c : Nat), vs = [.ref p, .ref l] ∧ PairAt H p CP CB C u zs B c ∧ B ≤ 130 ∧ c ≤ 10 ∧ zs.length ≤ 4 ∧ zs ≠ [] ∧ LeastV u u zs ∧ upV u zs = u ∧
  H l = some (.lst (scs.map V.ref)) ∧ (∀ s ∈ scs, ∃ g ys, ScaAt H s CS C g ys ∧ WoOk g ys ∧ ∀ n ∈ zs, n ∈ ys) ∧ ∀ H', Same H H' → Q (.bl true) H'
section
variable {P : Program} {w : World} {K : PySem.W.Frag} {mg : Str → Option Value} {base : Heap} {C BR CB BB BP BC BN CP CM CS : Addr}
abbrev nsRr : List Str := ["_law_pair", "_law_scales", "_law_outcome", "_law_scale"]
theorem scRr : FnScope nsRr ["_law_pair", "_law_scales"] (defScope (top 96)) := ⟨rfl, rfl, rfl, by decide +kernel, rfl, by decide +kernel, by decide +kernel⟩
theorem ok_rr {f : Addr} {fd : FuncData} (F : FnP K "_law_rows_right" (top 96) f fd) (Z : RwK P w K mg base CS CM CP CB C BR BB BC BN) : FnOk P w K mg base CX0 19 f fd ["_law_pair", "_law_scales"] (spRr CS CM CP CB C) := by
  obtain ⟨fE, fdE, ME, GE, bE⟩ := Z.M.eq
  obtain ⟨fP, fdP, MP, GP, bP⟩ := Z.eqP
  obtain ⟨fA, fdA, MA, GA, bA, bAK⟩ := Z.asR
  obtain ⟨fO, fdO, MO, GO, bO⟩ := Z.out
  obtain ⟨fKe, fdKe, MKe, GKe, bKe⟩ := Z.keeps
  obtain ⟨fN, fdN, MN, GN, bN⟩ := Z.M.W.neg
  have T := Z.M.CK.T
  have CK := Z.M.CK
  have M := Z.M
  have TP := Z.TP
  have TS := Z.TS
  refine F.ok scRr (fun vs H Q E h => ?_) (fun cdv A outer s H vs Q E hr h => ?_)
  · obtain ⟨p, l, scs, u, zs, B, c, rfl, _⟩ := h
    rfl
  · obtain ⟨p, l, scs, u, zs, B, c, rfl, hp, hB, hc, l4, zn, L, up, hl, hs, k⟩ := h
    have hr18 : Room 18 _ := hr
    have hr17 : Room 17 _ := hr18.mono (by decide)
    have hr16 : Room 16 _ := hr18.mono (by decide)
    have hr11 : Room 11 _ := hr18.mono (by decide)
    have hr10 : Room 10 _ := hr18.mono (by decide)
    have hr4 : Room 4 _ := hr18.mono (by decide)
    have hr3 : Room 3 _ := hr18.mono (by decide)
    have hu : (A.deeper (envOfC (Str.ofString "_law_rows_right") (defScope (top 96)) s.heap.objs.size f cdv)).units + 64 < cLine := by have := hr18.units; omega
    refine ⟨_, PSs.nox (pss_cons (ps_if (PW.pt (pw_or (pt_cmpR (op_neD hu) (pe_lc (own := [("_law_outcome", 2)]) (g := gName 2) (tt := tYes) (te := tOp (rEqOwnI false CP CP (spEqP K CP CB C) E0) (tFld K (tMeth CP "as_rows" (spAsRows K CM CP CB C BN) [] E0 (tVar 0) (tCons (tVar 2) tNil)) "pair") (tVar 0)) rfl scRr.nd (pi_tup (pe_tup (pa_cons pe_int (pa_cons pe_int (pa_cons (pe_un un_neg pe_int) pa_nil))))) (blkOk_by (N := nsRr) (sc := defScope (top 96)) (by decide +kernel)) (fun _ _ _ _ _ => pg_name (i := 2) scRr.nd rfl (Or.inl rfl)) (fun _ _ _ _ _ => pts_nil)
          (fun _ _ _ _ _ => pe_cmpR (op_eqOwnI (D := CP) Z.nfP MP GP (by exact hr3) bP (E := E0) pass0) (pe_fld (pe_meth (pv 0) TP.cls MA GA (by exact hr17) bA .nil (E := E0) passL (pa_cons (pv 2) pa_nil)) rfl) (pv 0) (nomark _)))
          (pe_op op_rep (pe_lst (pa_cons pe_bl pa_nil)) pe_int) (nomark _))
        (pw_or1 (pt_cmpR op_ne (pe_fld (pe_meth (pv 0) TP.cls MA GA hr17 bA .nil (E := E0) passL (pa_cons pe_int pa_nil)) rfl) pe_str (nomark _))))) (pss_one (ps_ret pe_bl)) pss_nil)
      (pss_cons (ps_if (PW.pt (pw_or (pt_cmpR (op_neOwn ME M.ne M.ob GE hr4 bE (E := E0) pass0) (pe_meth (pv 0) TP.cls MA GA hr17 bA .nil (E := E0) passL (pa_cons pe_int pa_nil)) (pe_comp CK hr16 (E := E0) passL rfl (pa_cons (pe_fld (pv 0) rfl) (pa_cons pe_str pa_nil))) (nomark _))
        (pw_or1 (pt_cmpR (op_neOwn ME M.ne M.ob GE hr4 bE (E := E0) pass0) (pe_methK0 (pv 0) TP.cls MA GA hr17 bAK (E := E0) passL (pk_cons (pe_un un_neg pe_int) pk_nil)) (pe_comp CK hr16 (E := E0) passL rfl (pa_cons (pe_un (un_ownNeg MN GN hr11 bN (E := E0) passL) (pe_fld (pv 0) rfl)) (pa_cons pe_str pa_nil))) (nomark _))))) (pss_one (ps_ret pe_bl)) pss_nil)
      (pss_cons (ps_for PassesOwn.never rfl (pi_list (pv 1)) (pg_name (i := 3) scRr.nd rfl (.inr rfl)) (pss_one (ps_if (pt_cmpR (op_neD hu)
          (pe_lc (own := [("_law_outcome", 2)]) (g := gName 2) (tt := tTest (tMeth CS "keeps" (spKeeps CS CM CP CB C) [] E0 (tVar 3) (tCons (tMeth CP "as_rows" (spAsRows K CM CP CB C BN) [] E0 (tVar 0) (tCons (tVar 2) tNil)) tNil))) (te := tVar 2) rfl scRr.nd (pi_tup (pe_tup (pa_cons pe_int (pa_cons pe_int (pa_cons (pe_un un_neg pe_int) pa_nil))))) (blkOk_by (N := nsRr) (sc := defScope (top 96)) (by decide +kernel)) (fun _ _ _ _ _ => pg_name (i := 2) scRr.nd rfl (Or.inl rfl))
            (fun _ _ _ _ _ => pts_one (pt_val (pe_meth (pv 3) TS.cls MKe GKe (by exact hr10) bKe .nil (E := E0) passL (pa_cons (pe_meth (pv 0) TP.cls MA GA (by exact hr17) bA .nil (E := E0) passL (pa_cons (pv 2) pa_nil)) pa_nil)))) (fun _ _ _ _ _ => pv 2))
          (pe_lst (pa_cons (pe_meth (pv 3) TS.cls MO GO hr10 bO .nil (E := E0) passL (pa_cons (pv 0) pa_nil)) pa_nil)) (nomark _)) (pss_one (ps_ret pe_bl)) pss_nil)))
      (pss_one (ps_ret pe_bl))))), ?_⟩
    have tB := TP.no "balance" (by simp)
    have tP := T.no "pair" (by simp)
    have tK := T.no "kind" (by simp)
    have nz : ∀ n ∈ zs, u n ≠ 0 := by
      obtain ⟨_, b, _, _, _, _, _, _, hb, _⟩ := id hp
      exact fun n m => hb.nz m
    obtain ⟨pdx, pb, pf, ps, ptp, pzf, pzl, ph, hpb, _⟩ := id hp
    have asr : ∀ (Hx : Hp) (i : Int) (Q2 : VK), Same H Hx → -1 ≤ i → i ≤ 1 → (∀ m H', Same Hx H' → CompAt H' m CM CP CB C (rowK i) (rowU i u) zs (B + 67) 2 → Q2 (.ref m) H') → spAsRows K CM CP CB C BN [.ref p, .int i] Hx Q2 E0 :=
      fun Hx i Q2 s i0 i1 q => ⟨p, .int i, u, zs, B, c, rfl, hp.same s, by omega, by omega, l4, zn, L, up, .inl ⟨i, rfl, i0, i1, q⟩⟩
    refine ⟨_, rfl, by rw [sizeLine_eq]; show 3 ≤ 16777216; decide, fun t nt => ⟨t, rfl, ⟨_, SqT.of upd_same⟩, fun D nD => ?_⟩⟩
    have st := same_upd (o := .tup [V.int 1, V.int 0, V.int (-1)]) nt
    have ht : (upd H t (.tup [V.int 1, V.int 0, V.int (-1)])) t = some (.tup [V.int 1, V.int 0, V.int (-1)]) := upd_same
    have s1 := st
    generalize upd H t (.tup [V.int 1, V.int 0, V.int (-1)]) = H1 at ht s1 nD ⊢
    clear st
    have one : ∀ {j : Nat} {x : V}, ([V.int 1, V.int 0, V.int (-1)] : List V)[j]? = some x → ∃ i : Int, x = .int i ∧ -1 ≤ i ∧ i ≤ 1 := fun {j x} ex => by
      have := List.mem_of_getElem? ex
      simp only [List.mem_cons, List.not_mem_nil, or_false] at this
      rcases this with rfl | rfl | rfl <;> exact ⟨_, rfl, by decide, by decide⟩
    refine lc_it (walk_tup (xs := [V.int 1, V.int 0, V.int (-1)])) (fun j Hx => Same H1 Hx ∧ Hx D = some (.lst (List.replicate j (V.bl true)))) ⟨same_upd nD, upd_same⟩ (fun j Hx _ hP => SqT.of (hP.1 _ _ ht)) (fun j x Hx Hx' hj hP hy => ?_) (fun Hx hP => ?_)
    · obtain ⟨rfl, ex⟩ := hy
      obtain ⟨s2, hD⟩ := hP
      obtain ⟨i, rfl, i0, i1⟩ := one ex
      have s02 := s1.trans s2
      refine ⟨rfl, yesI ?_⟩
      refine ⟨_, rfl, p, pdx, _, rfl, s02 _ _ ph, rfl, _, rfl, nilI (asr _ i _ s02 i0 i1 fun m H2 s3 hm => ?_)⟩
      obtain ⟨mdx, mb, mtp, mpr, ma, hmb, hmp⟩ := hm
      rw [upV_row zn up nz i0 i1] at hmp
      have hp2 := hp.same (s02.trans s3)
      refine ⟨m, CM, mdx, _, _, rfl, ma, T.cls, tP, rfl, _, rfl, mpr, p, rfl, rfl, hmp.ins, hp2.ins, mpr, .ref p, _, zs, _, _, rfl, hmp, .inl ⟨p, u, zs, B, c, rfl, hp2, fun bl e => ⟨bl, rfl, ?_⟩⟩⟩
      obtain rfl : bl = true := e.mpr fun _ => rfl
      refine ⟨_, s3 _ _ hD, ?_, fun a o e => ?_, ?_⟩
      · rw [List.length_replicate, sizeLine_eq]
        have : j < 3 := hj
        omega
      · rw [upd_ne (ne_of_none e nD)]; exact s3 _ _ (s2 _ _ e)
      · rw [upd_same, List.replicate_succ']
        rfl
    obtain ⟨s2, hD⟩ := hP
    have hD : Hx D = some (.lst [V.bl true, V.bl true, V.bl true]) := hD
    have s02 := s1.trans s2
    refine ⟨by rw [sizeLine_eq]; show 1 ≤ 16777216; decide, fun q nq => ⟨q, 3, [.bl true], rfl, rfl, upd_same, by decide, by decide, by rw [sizeLine_eq]; show 1 * 3 ≤ 16777216; decide, fun r nr => ?_⟩⟩
    have sq := (same_upd (o := .lst [V.bl true]) nq).trans (same_upd (o := .lst [V.bl true, V.bl true, V.bl true]) nr)
    have hr_ : (upd (upd Hx q (.lst [V.bl true])) r (.lst [V.bl true, V.bl true, V.bl true])) r = some (.lst [V.bl true, V.bl true, V.bl true]) := upd_same
    have s03 := s02.trans sq
    have hD3 := sq _ _ hD
    show rNeD K (V.ref D) (V.ref r) (upd (upd Hx q (.lst [V.bl true])) r (.lst [V.bl true, V.bl true, V.bl true])) _
    generalize upd (upd Hx q (.lst [V.bl true])) r (.lst [V.bl true, V.bl true, V.bl true]) = H3 at hr_ s03 hD3 ⊢
    clear sq hD nD nq nr
    refine ⟨_, _, .lst (SqL.of hD3) (.cons (.bl true) (.cons (.bl true) (.cons (.bl true) .nil))), .lst (SqL.of hr_) (.cons (.bl true) (.cons (.bl true) (.cons (.bl true) .nil))), rfl, rfl, ?_⟩
    refine ⟨false, rfl, iteF ?_⟩
    clear hD3 hr_
    -- as_rows(0).kind
    refine ⟨_, rfl, p, pdx, _, rfl, s03 _ _ ph, rfl, consC (asr _ 0 _ s03 (by decide) (by decide) fun m H4 s4 hm => ?_)⟩
    obtain ⟨mdx, mb, mtp, mpr, ma, hmb, hmp⟩ := hm
    refine ⟨m, CM, mdx, _, _, rfl, ma, T.cls, tK, rfl, ?_⟩
    refine ⟨rfl, false, rfl, iteF ?_⟩
    dsimp only [tNext, tSeq]
    clear hmb hmp ma
    have s04 := s03.trans s4
    -- the rows of 1 and -1
    have mkC : ∀ (H2 : Hp) (Q2 : VK) (bb : Addr) (v : Str → Rat) (B2 c2 : Nat), BX H2 bb CB C v zs B2 c2 → B2 ≤ 700 → c2 ≤ 12 → LeastV v v zs → (∀ m H3, Same H2 H3 → CompAt H3 m CM CP CB C .gt v zs (B2 + 65) 2 → Q2 (.ref m) H3) →
        MkC K CM CP CB C BB BC (.ref bb) (.str ">") H2 Q2 E0 := by
      intro H2 Q2 bb v B2 c2 hbb h1 h2 Lv q
      refine .inl ⟨bb, v, zs, B2, c2, .gt, rfl, rfl, hbb, h1, h2, l4, zn, fun u2 L2 m H3 s3 _ hm => ?_⟩
      obtain rfl := Lv.one L2
      rw [show kupV .gt u2 zs = u2 from if_neg (by decide)] at hm
      exact q m H3 s3 hm
    refine ⟨_, rfl, p, pdx, _, rfl, s04 _ _ ph, rfl, consC (asr _ 1 _ s04 (by decide) (by decide) fun m1 H5 s5 hm1 => ?_)⟩
    have s05 := s04.trans s5
    refine ⟨_, rfl, p, CP, pdx, _, _, rfl, s05 _ _ ph, TP.cls, tB, rfl, consC ⟨_, _, rfl, mkC _ _ pb u B c (hpb.same s05) (by omega) (by omega) L fun m2 H6 s6 hm2 => ?_⟩⟩
    have hm1 := hm1.same s6
    refine ⟨m1, .ref CM, rfl, hm1.ins, ty_ins hm2.ins, M.nf, m1, .ref m2, .gt, _, zs, _, _, rfl, hm1, .inl ⟨m2, .gt, u, zs, _, _, rfl, hm2, fun bl e => ⟨bl, rfl, ?_⟩⟩⟩
    obtain rfl : bl = true := e.mpr ⟨rfl, fun n => by
      show u n * ((1 : Int) : Rat) = u n
      have : ((1 : Int) : Rat) = 1 := rfl
      rw [this]; grind⟩
    refine ⟨false, rfl, iteF ?_⟩
    have s06 := s05.trans s6
    refine ⟨_, rfl, p, pdx, _, rfl, s06 _ _ ph, rfl, _, rfl, nilI (asr _ (-1) _ s06 (by decide) (by decide) fun m3 H7 s7 hm3 => ?_)⟩
    have s07 := s06.trans s7
    refine ⟨_, rfl, p, CP, pdx, _, _, rfl, s07 _ _ ph, TP.cls, tB, rfl, pb, rfl, (hpb.same s07).ins, (hpb.same s07).neg ⟨by omega, by omega⟩ fun b2 H8 s8 hb2 => consC ⟨_, _, rfl, mkC _ _ b2 _ (B + 1) (c + 1) hb2 (by omega) (by omega) L.neg fun m4 H9 s9 hm4 => ?_⟩⟩
    have hm3 := hm3.same (s8.trans s9)
    refine ⟨m3, .ref CM, rfl, hm3.ins, ty_ins hm4.ins, M.nf, m3, .ref m4, .gt, _, zs, _, _, rfl, hm3, .inl ⟨m4, .gt, _, zs, _, _, rfl, hm4, fun bl e => ⟨bl, rfl, ?_⟩⟩⟩
    obtain rfl : bl = true := e.mpr ⟨rfl, fun n => by
      show u n * ((-1 : Int) : Rat) = -u n
      have : ((-1 : Int) : Rat) = -1 := rfl
      rw [this]; grind⟩
    refine ⟨false, rfl, iteF ?_⟩
    dsimp only [tNext, tSeq]
    have s09 := s07.trans (s8.trans s9)
    clear hm1 hm2 hm3 hm4 hb2 mkC
    -- the scales
    refine ⟨_, rfl, l, rfl, ⟨_, SqL.of (s09 _ _ hl)⟩, ?_⟩
    refine for_it (walk_list (xs := scs.map V.ref)) (fun i σ Hx => (∃ o, σ = [some (.ref p), some (.ref l), none, o]) ∧ Same H Hx) ⟨⟨none, rfl⟩, s09⟩ (fun i σ Hx _ hP => SqL.of (hP.2 _ _ hl)) ?_ ?_
    · rintro i y σ Hx Hx' hi ⟨⟨o, rfl⟩, s2⟩ ⟨rfl, ex⟩
      rw [List.getElem?_map] at ex
      obtain ⟨sc, en, rfl⟩ := Option.map_eq_some_iff.mp ex
      obtain ⟨g, ys, hS, hW, sub⟩ := hs sc (List.mem_of_getElem? en)
      clear ex en hi ht one
      obtain ⟨out, hout⟩ : ∃ out, sgR (wsum u (fun n => val (g n)) zs) = out := ⟨_, rfl⟩
      have ho : out = 1 ∨ out = 0 ∨ out = -1 := by
        rw [← hout]
        unfold sgR
        split
        · exact .inl rfl
        · split
          · exact .inr (.inr rfl)
          · exact .inr (.inl rfl)
      obtain ⟨sdx, sd, stt, skvs, hsc, _⟩ := id hS
      refine ⟨_, rfl, by rw [sizeLine_eq]; show 3 ≤ 16777216; decide, fun t nt => ⟨t, rfl, ⟨_, SqT.of upd_same⟩, fun D nD => ?_⟩⟩
      have st := same_upd (o := .tup [V.int 1, V.int 0, V.int (-1)]) nt
      have ht : (upd Hx' t (.tup [V.int 1, V.int 0, V.int (-1)])) t = some (.tup (([1, 0, -1] : List Int).map V.int)) := upd_same
      have s3 := s2.trans st
      generalize upd Hx' t (.tup [V.int 1, V.int 0, V.int (-1)]) = H1' at ht s3 nD ⊢
      clear st
      refine lc_it (walk_tup (xs := ([1, 0, -1] : List Int).map V.int)) (fun j Hy => Same H1' Hy ∧ Hy D = some (.lst (((([1, 0, -1] : List Int).take j).filter fun i => decide (i = out)).map V.int))) ⟨same_upd nD, upd_same⟩ (fun j Hy _ hP => SqT.of (hP.1 _ _ ht)) (fun j x Hy Hy' hj hP hy => ?_) (fun Hy hP => ?_)
      · obtain ⟨rfl, ex⟩ := hy
        obtain ⟨s4, hD⟩ := hP
        rw [List.getElem?_map] at ex
        obtain ⟨i, en, rfl⟩ := Option.map_eq_some_iff.mp ex
        obtain ⟨i0, i1⟩ : -1 ≤ i ∧ i ≤ 1 := by
          have := List.mem_of_getElem? en
          simp only [List.mem_cons, List.not_mem_nil, or_false] at this
          rcases this with rfl | rfl | rfl <;> decide
        have s5 := s3.trans s4
        refine ⟨rfl, ?_⟩
        refine ⟨_, rfl, sc, sdx, _, rfl, s5 _ _ hsc, rfl, _, rfl, p, pdx, _, rfl, s5 _ _ ph, rfl, _, rfl, nilI (asr _ i _ s5 i0 i1 fun m H2 s6 hm => nilI ?_)⟩
        refine ⟨sc, m, g, ys, rowK i, rowU i u, zs, B + 67, 2, rfl, hS.same (s5.trans s6), hW, hm, by omega, by decide, l4, sub, fun H3 s7 => ?_⟩
        refine ⟨_, congrArg V.bl (row_kept i0 i1), ?_⟩
        rw [hout]
        have hD3 := (s6.trans s7) _ _ hD
        have tk : (([1, 0, -1] : List Int).take (j + 1)).filter (fun i => decide (i = out)) = (([1, 0, -1] : List Int).take j).filter (fun i => decide (i = out)) ++ (if decide (i = out) = true then [i] else []) := by
          rw [List.take_add_one, en, List.filter_append]
          congr 1
          show List.filter (fun i => decide (i = out)) [i] = _
          rw [List.filter_cons, List.filter_nil]
        refine ite2 (fun c => ?_) (fun c => ?_)
        · rw [if_pos c] at tk
          refine ⟨_, rfl, _, hD3, ?_, fun a o e => ?_, ?_⟩
          · rw [List.length_map, sizeLine_eq]
            have h1 := List.length_filter_le (fun i => decide (i = out)) (([1, 0, -1] : List Int).take j)
            have h2 := List.length_take (i := j) (l := ([1, 0, -1] : List Int))
            have h3 : ([1, 0, -1] : List Int).length = 3 := rfl
            omega
          · rw [upd_ne (ne_of_none e nD)]; exact (s4.trans (s6.trans s7)) _ _ e
          · rw [upd_same, tk, List.map_append]
            rfl
        · rw [if_neg c, List.append_nil] at tk
          exact ⟨s4.trans (s6.trans s7), by rw [tk]; exact hD3⟩
      obtain ⟨s4, hD⟩ := hP
      have hD : Hy D = some (.lst [V.int out]) := by
        rw [hD]
        rcases ho with rfl | rfl | rfl <;> rfl
      have s5 := s3.trans s4
      refine ⟨_, rfl, sc, sdx, _, rfl, s5 _ _ hsc, rfl, _, rfl, nilI ⟨sc, p, g, ys, u, zs, B, c, rfl, hS.same s5, hW, hp.same s5, by omega, by omega, l4, sub, fun H3 s6 => nilI ⟨by rw [sizeLine_eq]; show 1 ≤ 16777216; decide, fun q nq => ?_⟩⟩⟩
      rw [hout] at *
      have sq := same_upd (o := .lst [V.int out]) nq
      have s7 := (s5.trans s6).trans sq
      have hD3 := (s6.trans sq) _ _ hD
      refine ⟨_, _, .lst (SqL.of hD3) (.cons (.int out) .nil), .lst (SqL.of upd_same) (.cons (.int out) .nil), rfl, rfl, ?_⟩
      refine ⟨false, congrArg V.bl ?_, iteF ⟨⟨_, rfl⟩, s7⟩⟩
      simp [PyData.eqv, PyData.eqvAll]
    · rintro σ Hx ⟨⟨o, rfl⟩, s2⟩
      exact k Hx s2
end
end K09
namespace K09
open PySem PySem.Spec PyProof.Rows L2 RatM ClX
theorem app_assoc (a b c : Str) : (a ++ b) ++ c = a ++ (b ++ c) := by
  show (⟨(a.cps ++ b.cps) ++ c.cps⟩ : Str) = ⟨a.cps ++ (b.cps ++ c.cps)⟩
  rw [Array.append_assoc]
theorem balT_congr {g g2 : Str → Int × Int} {zs : List Str} (h : ∀ n ∈ zs, g n = g2 n) : balT g zs = balT g2 zs := by
  unfold balT
  have : (zs.map fun n => termT n (g n)) = zs.map fun n => termT n (g2 n) := List.map_congr_left fun n m => by rw [h n m]
  rw [this]
theorem frO_int (i : Int) : frO (i : Rat) = (i, 1) := by
  rw [← val_int, frO_val (lo_int i)]
theorem ratPos (i : Int) : (0 < (i : Rat)) ↔ 0 < i := by
  rw [← val_int, val_pos (lo_int i)]
theorem ratNeg (i : Int) : ((i : Rat) < 0) ↔ i < 0 := by
  rw [← val_int, val_lt (lo_int i)]
theorem ratZero (i : Int) : ((i : Rat) = 0) ↔ i = 0 := by
  constructor
  · intro h
    have h1 := ratPos i
    have h2 := ratNeg i
    have n1 : ¬ 0 < i := fun z => by have := h1.mpr z; grind
    have n2 : ¬ i < 0 := fun z => by have := h2.mpr z; grind
    omega
  · intro h; subst h; rfl
section
variable {w : Str → Int} {u : Str → Rat} {zs : List Str}
theorem gain_text (h : ∀ n ∈ zs, u n = (w n : Rat)) : textV (gainV u) (gainZ u zs) = balT (fun n => (w n, 1)) (zs.filter fun n => decide (0 < w n)) := by
  have e : gainZ u zs = zs.filter fun n => decide (0 < w n) := List.filter_congr fun n m => decide_eq_decide.mpr (by rw [h n m]; exact ratPos _)
  rw [e]
  refine balT_congr fun n m => ?_
  obtain ⟨m1, m2⟩ := List.mem_filter.mp m
  have : gainV u n = (w n : Rat) := by
    unfold gainV
    rw [h n m1, if_pos ((ratPos _).mpr (of_decide_eq_true m2))]
  rw [this]
  exact frO_int _
theorem loss_text (h : ∀ n ∈ zs, u n = (w n : Rat)) : textV (lossV u) (lossZ u zs) = balT (fun n => (-w n, 1)) (zs.filter fun n => decide (w n < 0)) := by
  have e : lossZ u zs = zs.filter fun n => decide (w n < 0) := List.filter_congr fun n m => decide_eq_decide.mpr (by rw [h n m]; exact ratNeg _)
  rw [e]
  refine balT_congr fun n m => ?_
  obtain ⟨m1, m2⟩ := List.mem_filter.mp m
  have : lossV u n = ((-w n : Int) : Rat) := by
    unfold lossV
    rw [h n m1, if_pos ((ratNeg _).mpr (of_decide_eq_true m2)), Rat.intCast_neg]
  rw [this]
  exact frO_int _
theorem line_text (h : ∀ n ∈ zs, u n = (w n : Rat)) : lineT " : " u zs = lnT ":" w zs := by
  unfold lineT lnT
  rw [gain_text h, loss_text h, empty_app]
  have e : (Str.ofString " : " : Str) = ((Str.ofString " " ++ Str.ofString ":") ++ Str.ofString " ") := by decide +kernel
  rw [e, app_assoc, app_assoc, app_assoc, app_assoc, app_assoc, app_assoc]
theorem comp_text (k : Kd) (h : ∀ n ∈ zs, u n = (w n : Rat)) : compT k u zs = lnT k.s w zs := by
  unfold compT lnT
  rw [gain_text h, loss_text h, empty_app]
/-- the form that goes up, of whole numbers -/
theorem up_int (h : ∀ n, u n = (w n : Rat)) (zn : zs ≠ []) (nz : ∀ n ∈ zs, w n ≠ 0) (n : Str) : upV u zs n = ((upW w zs n : Int) : Rat) := by
  obtain ⟨z, t, rfl⟩ : ∃ z t, zs = z :: t := by
    cases zs with
    | nil => exact absurd rfl zn
    | cons z t => exact ⟨z, t, rfl⟩
  have n0 := nz z List.mem_cons_self
  show (if u z < 0 then -u n else u n) = ((if 0 < w z then w n else -w n : Int) : Rat)
  by_cases c : 0 < w z
  · rw [if_pos c, if_neg (by rw [h z, ratNeg]; omega), h n]
  · rw [if_neg c, if_pos (by rw [h z, ratNeg]; omega), h n, Rat.intCast_neg]
theorem upW_abs (w : Str → Int) (zs : List Str) (n : Str) : (upW w zs n).natAbs = (w n).natAbs := by
  cases zs with
  | nil => rfl
  | cons z t =>
    show (if 0 < w z then w n else -w n : Int).natAbs = _
    split
    · rfl
    · exact Int.natAbs_neg _
end
end K09
namespace K09
open PySem PySem.Spec PyProof.Rows L2 RatM ClX
/-- what the law's form of lines rests on -/
structure FoK (P : Program) (w : World) (K : PySem.W.Frag) (mg : Str → Option Value) (base : Heap) (CS CM CP CB C BR BB BC BN : Addr) : Prop where
  Z : RwK P w K mg base CS CM CP CB C BR BB BC BN
  so : mg "sorted" = none
  eqR : ∃ (f : Addr) (fd : FuncData), OwnM K C "__eq__" f ∧ FnOk P w K mg base CX0 3 f fd ["self", "other"] (spSame K C) ∧ Binds K fd ["self", "other"] []
  nfR : PySem.W.notFirst K C (.type "int") = true
  neR : PySem.W.findIn K (.ref C) "__ne__" = some (some (.builtin "object.__ne__"))
  obR : PySem.W.subIn K (.ref C) (.type "object") = some true
  strP : ∃ (f : Addr) (fd : FuncData), OwnM K CP "__str__" f ∧ FnOk P w K mg base CX0 9 f fd ["self"] (spStrP CP CB C) ∧ Binds K fd ["self"] []
  strC : ∃ (f : Addr) (fd : FuncData), OwnM K CM "__str__" f ∧ FnOk P w K mg base CX0 11 f fd ["self"] (spStrC CM CP CB C) ∧ Binds K fd ["self"] []
  lt : ∃ (f : Addr) (fd : FuncData), FnOk P w K mg base CX0 2 f fd ["_law_line_here", "_law_word"] spLnT ∧ Binds K fd ["_law_line_here", "_law_word"] [] ∧ PySem.W.keepIn K (.ref f) = true ∧ mg "_law_line_text" = some (.ref f)
  up : ∃ (f : Addr) (fd : FuncData), FnOk P w K mg base CX0 1 f fd ["_law_line_here"] spUp ∧ Binds K fd ["_law_line_here"] [] ∧ PySem.W.keepIn K (.ref f) = true ∧ mg "_law_up" = some (.ref f)
abbrev ratOf (w : Str → Int) : Str → Rat := fun n => (w n : Rat)
def spFm (CM CP CB C : Addr) : Sp := fun vs H Q _ => ∃ (d m p : Addr) (kvs : List (Key × V)) (ks : List Str) (w : Str → Int) (kd : Kd) (zs : List Str) (Bm cm Bp cp : Nat), vs = [.ref d, .str kd.s, .ref m, .ref p] ∧ H d = some (.dK kvs) ∧ LnD w kvs ks ∧ ks.Nodup ∧ ks ≠ [] ∧ ks.length ≤ 4 ∧ IxOk w ks ∧ (∀ n, w n ≠ 0 ↔ n ∈ ks) ∧
  CompAt H m CM CP CB C kd (kupV kd (ratOf w) zs) zs Bm cm ∧ PairAt H p CP CB C (upV (ratOf w) zs) zs Bp cp ∧ Bm ≤ 600 ∧ cm ≤ 11 ∧ Bp ≤ 600 ∧ cp ≤ 11 ∧ LeastV (ratOf w) (ratOf w) zs ∧ ∀ H', Same H H' → Q (.bl true) H'
/-- a turn of the form: a balance, and the line that it is to be -/
def TurnP (H : Hp) (CB C : Addr) (ks zs : List Str) (x : V) : Prop := ∃ (t b o : Addr) (kvo : List (Key × V)) (wo : Str → Int) (v : Str → Rat) (B c : Nat), x = .ref t ∧ H t = some (.tup [.ref b, .ref o]) ∧ H o = some (.dK kvo) ∧ LnD wo kvo ks ∧ BX H b CB C v zs B c ∧ ∀ n, v n = (wo n : Rat)
theorem TurnP.same {H H' : Hp} {CB C : Addr} {ks zs : List Str} {x : V} (h : TurnP H CB C ks zs x) (s : Same H H') : TurnP H' CB C ks zs x :=
  let ⟨t, b, o, kvo, wo, v, B, c, e, h1, h2, h3, h4, h5⟩ := h; ⟨t, b, o, kvo, wo, v, B, c, e, s _ _ h1, s _ _ h2, h3, h4.same s, h5⟩
theorem upV_up {v : Str → Rat} {zs : List Str} (zn : zs ≠ []) : upV (upV v zs) zs = upV v zs := by
  obtain ⟨z, t, rfl⟩ : ∃ z t, zs = z :: t := by
    cases zs with
    | nil => exact absurd rfl zn
    | cons z t => exact ⟨z, t, rfl⟩
  by_cases c : v z < 0
  · rw [upV_neg c, upV_pos (by grind)]
  · rw [upV_pos c, upV_pos c]
theorem kup_kup {k : Kd} {v : Str → Rat} {zs : List Str} (zn : zs ≠ []) : kupV k (kupV k v zs) zs = kupV k v zs := by
  by_cases c : k = .eq
  · subst c
    exact upV_up zn
  · rw [show kupV k v zs = v from if_neg c]
    exact if_neg c
theorem lockBX {H : Hp} {a d CB C : Addr} {v : Str → Rat} {zs : List Str} {B c : Nat} {od : Obj} {kv : List (Key × V)} {w : Str → Int} {ks : List Str} (h : BX H a CB C v zs B c) (e : H d = some (HO.dK kv)) (l : LnD w kv ks) (kn : ks ≠ []) : BX (upd H d (HO.frz od (.dK kv))) a CB C v zs B c := by
  obtain ⟨g, ⟨dx, nd, tp, kt, h1, ⟨kvs, e1, r⟩, e2, e3⟩, h2, h3⟩ := h
  have n1 : nd ≠ d := fun z => by
    rw [z, e] at e1
    injection e1 with e1
    injection e1 with e1
    subst e1
    cases l with
    | nil => exact kn rfl
    | cons x t => cases r with
      | cons y t2 =>
        obtain ⟨_, y2⟩ := x
        obtain ⟨_, b, y4, _⟩ := y
        rw [y2] at y4
        cases y4
  have ne : ∀ {b : Addr} {o : HO}, H b = some o → (∀ k, o ≠ .dK k) → (upd H d (HO.frz od (.dK kv))) b = some o := fun {b o} q n => by
    rw [upd_ne (fun z => by rw [z, e] at q; injection q with q; exact n _ q.symm)]
    exact q
  exact ⟨g, ⟨dx, nd, tp, kt, ne h1 (fun _ z => by cases z), ⟨kvs, (upd_ne n1).trans e1, Paired.mono' (fun _ _ ⟨x1, b', x2, dxb, x3⟩ => ⟨x1, b', x2, dxb, ne x3 (fun _ z => by cases z)⟩) r⟩, ne e2 (fun _ z => by cases z), ne e3 (fun _ z => by cases z)⟩, h2, h3⟩
section
variable {P : Program} {w : World} {K : PySem.W.Frag} {mg : Str → Option Value} {base : Heap} {C BR CB BB BP BC BN CP CM CS : Addr}
abbrev nsFr : List Str := ["_law_line_here", "_law_kind", "_law_comparison", "_law_pair", "_law_up_here", "_law_own", "_law_found", "_law_due", "_law_thing"]
theorem scFr : FnScope nsFr ["_law_line_here", "_law_kind", "_law_comparison", "_law_pair"] (defScope (top 94)) := ⟨rfl, rfl, rfl, by decide +kernel, rfl, by decide +kernel, by decide +kernel⟩
theorem ok_fr {f : Addr} {fd : FuncData} (F : FnP K "_law_form_right" (top 94) f fd) (FK : FoK P w K mg base CS CM CP CB C BR BB BC BN) : FnOk P w K mg base CX0 17 f fd ["_law_line_here", "_law_kind", "_law_comparison", "_law_pair"] (spFm CM CP CB C) := by
  have Z := FK.Z
  have M := Z.M
  have W := M.W
  have T := M.CK.T
  have CK := M.CK
  have TP := Z.TP
  have B' := W.O.B
  have bt := W.tup
  have bs := W.str
  have so := FK.so
  obtain ⟨fE, fdE, ME, GE, bE⟩ := M.eq
  obtain ⟨fEB, fdEB, MEB, GEB, bEB⟩ := W.eq
  obtain ⟨fR, fdR, MR, GR, bR⟩ := FK.eqR
  obtain ⟨fSP, fdSP, MSP, GSP, bSP⟩ := FK.strP
  obtain ⟨fSC, fdSC, MSC, GSC, bSC⟩ := FK.strC
  obtain ⟨fL, fdL, GL, bL, kL, gL⟩ := FK.lt
  obtain ⟨fU, fdU, GU, bU, kU, gU⟩ := FK.up
  obtain ⟨fN, fdN, MN, GN, bN⟩ := W.O.num
  obtain ⟨fGa, fdGa, MGa, GGa, bGa⟩ := W.gains
  obtain ⟨fLo, fdLo, MLo, GLo, bLo⟩ := W.losses
  refine F.ok scFr (fun vs H Q E h => ?_) (fun cdv A outer s H vs Q E hr h => ?_)
  · obtain ⟨d, m, p, kvs, ks, w, kd, zs, Bm, cm, Bp, cp, rfl, _⟩ := h
    rfl
  · obtain ⟨d, m, p, kvs, ks, w, kd, zs, Bm, cm, Bp, cp, rfl, hd, hl, nd, kn, lk, ix, wz, hm, hp, hBm, hcm, hBp, hcp, L, k⟩ := h
    have hr16 : Room 16 _ := hr
    have hr13 : Room 13 _ := hr16.mono (by decide)
    have hr11 : Room 11 _ := hr16.mono (by decide)
    have hr10 : Room 10 _ := hr16.mono (by decide)
    have hr5 : Room 5 _ := hr16.mono (by decide)
    have hr4 : Room 4 _ := hr16.mono (by decide)
    have hr3 : Room 3 _ := hr16.mono (by decide)
    have hr2 : Room 2 _ := hr16.mono (by decide)
    have hr1 : Room 1 _ := hr16.mono (by decide)
    have hu : (A.deeper (envOfC (Str.ofString "_law_form_right") (defScope (top 94)) s.heap.objs.size f cdv)).units + 64 < cLine := by have := hr16.units; omega
    have hu1 : (A.deeper (envOfC (Str.ofString "_law_form_right") (defScope (top 94)) s.heap.objs.size f cdv)).units + 1 < cLine := by omega
    refine ⟨_, PSs.nox (pss_cons (ps_set (i := 4) scFr.nd rfl (.inl rfl) (pe_call GU hr1 rfl gU kU bU .nil pass0 (pa_cons (pv 0) pa_nil)))
      (pss_cons (ps_set (i := 5) scFr.nd rfl (.inl rfl) (pe_ifExp (pt_cmpR op_eq (pv 1) pe_str (nomark _)) (pv 4) (pv 0)))
      (pss_cons (ps_for PassesOwn.never rfl (pi_tup (pe_tup (pa_cons (pe_tup (pa_cons (pe_fld (pv 2) rfl) (pa_cons (pv 5) pa_nil))) (pa_cons (pe_tup (pa_cons (pe_fld (pv 3) rfl) (pa_cons (pv 4) pa_nil))) (pa_cons (pe_tup (pa_cons (pe_fld (pe_fld (pv 2) rfl) rfl) (pa_cons (pv 4) pa_nil))) pa_nil)))))
          (pg_tup rfl (pgs_cons (pg_name (i := 6) scFr.nd rfl (.inr rfl)) (pgs_cons (pg_name (i := 7) scFr.nd rfl (.inr rfl)) pgs_nil)))
          (pss_one (ps_if (PW.pt (pw_or (pt_cmpR (op_neP hu) (pe_fld (pv 6) rfl) (pe_callTy call_tuple_of (by rfl) bt PyProof.Rows.boot_tuple (pa_cons (pe_callB cr_sortedS (by rfl) so (by decide +kernel) (pa_cons (pe_lock (pe_lc (own := [("_law_thing", 8)]) (g := gName 8) (tt := tYes) rfl scFr.nd (pi_keys (pv 7)) (blkOk_by (N := nsFr) (sc := defScope (top 94)) (by decide +kernel)) (fun _ _ _ _ _ => pg_name (i := 8) scFr.nd rfl (Or.inl rfl)) (fun _ _ _ _ _ => pts_nil) (fun _ _ _ _ _ => pe_callTy SkE.call_str_str (by rfl) bs PyProof.Rows.boot_str (pa_cons (pv 8) pa_nil)))) pa_nil)) pa_nil)) (nomark _))
            (pw_or1 (pt_cmpR (op_neP hu) (pe_lock (pe_lc (own := [("_law_thing", 8)]) (g := gName 8) (tt := tTest (tOp (rEqOwnZ true C (spSame K C) E0) (tMeth CB "number_of" (spNum CB C) [] E0 (tVar 6) (tCons (tVar 8) tNil)) (tDGet (tVar 7) (tVar 8)))) (te := tVar 8) rfl scFr.nd (pi_keys (pv 7)) (blkOk_by (N := nsFr) (sc := defScope (top 94)) (by decide +kernel)) (fun _ _ _ _ _ => pg_name (i := 8) scFr.nd rfl (Or.inl rfl))
                (fun _ _ _ _ _ => pts_one (pt_cmpR (op_neOwnZ FK.nfR MR FK.neR FK.obR GR (by exact hr4) bR (E := E0) pass0) (pe_meth (pv 6) B'.T.cls MN GN (by exact hr5) bN .nil (E := E0) pass0 (pa_cons (pv 8) pa_nil)) (pe_dget (by exact hu1) (pv 7) (pv 8) (fun _ _ => rfl)) (nomark _))) (fun _ _ _ _ _ => pv 8))) (pe_lst pa_nil) (nomark _))))) (pss_one (ps_ret pe_bl)) pss_nil)))
      (pss_cons (ps_if (PW.pt (pw_or (pt_cmpR (op_neOwn MEB W.ne W.ob GEB hr2 bEB (E := E0) pass0) (pe_fld (pv 3) rfl) (pe_meth0 (pe_fld (pv 3) rfl) B'.T.cls MGa GGa hr10 bGa .nil (E := E0) pass0) (nomark _))
          (pw_or (pt_cmpR (op_neOwn MEB W.ne W.ob GEB hr2 bEB (E := E0) pass0) (pe_fld (pv 3) rfl) (pe_meth0 (pe_fld (pv 3) rfl) B'.T.cls MLo GLo hr10 bLo .nil (E := E0) pass0) (nomark _))
          (pw_or1 (pt_cmpR op_ne (pe_callTy (call_ownStr MSP GSP (by exact hr11) bSP (E := E0) pass0) (by rfl) bs PyProof.Rows.boot_str (pa_cons (pv 3) pa_nil)) (pe_call GL hr2 rfl gL kL bL .nil pass0 (pa_cons (pv 4) (pa_cons pe_str pa_nil))) (nomark _)))))) (pss_one (ps_ret pe_bl)) pss_nil)
      (pss_one (ps_ret (pe_and (pe_cmpR op_eq (pe_callTy (call_ownStr MSC GSC (by exact hr13) bSC (E := E0) pass0) (by rfl) bs PyProof.Rows.boot_str (pa_cons (pv 2) pa_nil)) (pe_call GL hr2 rfl gL kL bL .nil pass0 (pa_cons (pv 5) (pa_cons (pv 1) pa_nil))) (nomark _))
        (pe_and (pe_cmpR op_eq (pe_fld (pv 2) rfl) (pv 1) (nomark _)) (pe_one (pe_cmpR (op_eqOwn ME GE hr3 bE (E := E0) pass0) (pv 2) (pe_comp CK hr16 (E := E0) passL rfl (pa_cons (pe_fld (pv 2) rfl) (pa_cons (pv 1) pa_nil))) (nomark _))))))))))), ?_⟩
    have tB := T.no "balance" (by simp)
    have tPr := T.no "pair" (by simp)
    have tK := T.no "kind" (by simp)
    have tBP := TP.no "balance" (by simp)
    have tF := TP.no "first" (by simp)
    have tS := TP.no "second" (by simp)
    have nT := B'.T.no "things" (by simp)
    obtain ⟨mdx, mb, mtp, mpr, hma, hmb, hmp⟩ := id hm
    obtain ⟨pdx, pb, pf, ps, ptp, pzf, pzl, hpa, hpb, hpf, hps⟩ := id hp
    obtain ⟨qdx, qb, qf, qs, qtp, qzf, qzl, hqa, hqb, hqf, hqs⟩ := id hmp
    -- the things
    have wz0 : ∀ n, ratOf w n ≠ 0 ↔ n ∈ ks := fun n => (not_congr (ratZero (w n))).trans (wz n)
    have upz : ∀ (v : Str → Rat) (l : List Str) n, upV v l n ≠ 0 ↔ v n ≠ 0 := fun v l n => by
      cases l with
      | nil => exact Iff.rfl
      | cons z t =>
        show (if v z < 0 then -v n else v n) ≠ 0 ↔ _
        split
        · constructor <;> intro h c <;> exact h (by grind)
        · exact Iff.rfl
    have pz : zs.Perm ks := by
      obtain ⟨g, _, hv, _⟩ := id hpb
      refine (List.perm_ext_iff_of_nodup hv.ok.ns.nd nd).mpr fun n => ?_
      rw [hv.mem, upz, wz0]
    have so_ : sortedS zs = true := by
      obtain ⟨g, _, hv, _⟩ := id hpb
      exact hv.ok.so
    have zn : zs ≠ [] := fun z => kn (by rw [z] at pz; exact pz.symm.eq_nil)
    have l4 : zs.length ≤ 4 := by rw [pz.length_eq]; exact lk
    have nzw : ∀ n ∈ zs, w n ≠ 0 := fun n mn => (wz n).mpr (pz.mem_iff.mp mn)
    have one : ∀ {ys : List Str}, ys.Perm ks → sortedS ys = true → ys = zs := fun py sy => sorted_unique sy so_ (py.trans pz.symm)
    have upI : ∀ n, upV (ratOf w) zs n = ((upW w zs n : Int) : Rat) := up_int (fun _ => rfl) zn nzw
    have ixU : IxOk (upW w zs) ks := fun n mn => ⟨by rw [upW_abs]; exact (ix n mn).1, (ix n mn).2⟩
    refine ⟨_, rfl, d, kvs, ks, w, rfl, hd, hl, nd, kn, lk, fun r kvr ys H1 s1 py sy hr_ hlr => ?_⟩
    obtain rfl := one py sy
    dsimp only [gName, tSeq, tAsg, tNext]
    have br : ∀ (Q2 : VK), (∀ (o : Addr) (kvo : List (Key × V)) (wo : Str → Int), H1 o = some (.dK kvo) → LnD wo kvo ks → IxOk wo ks → (∀ n, kupV kd (ratOf w) ys n = (wo n : Rat)) → Q2 (.ref o) H1) →
        tIf (tTest (tOp rEq (tVar 1) (tC (V.str (Str.ofString "="))))) (tVar 4) (tVar 0) (List.set (L2.start nsFr [V.ref d, V.str kd.s, V.ref m, V.ref p]) 4 (some (V.ref r))) H1 Q2 := by
      intro Q2 q
      by_cases ck : kd = .eq
      · subst ck
        refine ⟨_, rfl, rfl, true, rfl, iteT ?_⟩
        exact ⟨_, rfl, q r kvr (upW w ys) hr_ hlr ixU fun n => by rw [show kupV .eq (ratOf w) ys = upV (ratOf w) ys from rfl]; exact upI n⟩
      · have e : decide (V.str kd.s = V.str "=") = false := by cases kd <;> first | rfl | exact absurd rfl ck
        refine ⟨_, rfl, rfl, false, congrArg V.bl e, iteF ?_⟩
        exact ⟨_, rfl, q d kvs w (s1 _ _ hd) hl ix fun n => by rw [show kupV kd (ratOf w) ys = ratOf w from if_neg ck]⟩
    refine br _ fun o kvo wo ho hlo ixo eo => ?_
    clear br
    -- the three
    refine ⟨_, rfl, m, CM, mdx, _, _, rfl, s1 _ _ hma, T.cls, tB, rfl, _, rfl, by rw [sizeLine_eq]; show 2 ≤ 16777216; decide, fun t1 nt1 => ?_⟩
    have q1 := same_upd (o := .tup [V.ref mb, V.ref o]) nt1
    have e1 : (upd H1 t1 (.tup [V.ref mb, V.ref o])) t1 = some (.tup [V.ref mb, V.ref o]) := upd_same
    have s2 := s1.trans q1
    generalize upd H1 t1 (.tup [V.ref mb, V.ref o]) = H2 at q1 e1 s2 ⊢
    refine ⟨_, rfl, p, CP, pdx, _, _, rfl, s2 _ _ hpa, TP.cls, tBP, rfl, _, rfl, by rw [sizeLine_eq]; show 2 ≤ 16777216; decide, fun t2 nt2 => ?_⟩
    have q2 := same_upd (o := .tup [V.ref pb, V.ref r]) nt2
    have e2 : (upd H2 t2 (.tup [V.ref pb, V.ref r])) t2 = some (.tup [V.ref pb, V.ref r]) := upd_same
    have s3 := s2.trans q2
    generalize upd H2 t2 (.tup [V.ref pb, V.ref r]) = H3 at q2 e2 s3 ⊢
    refine ⟨_, rfl, m, CM, mdx, _, _, rfl, s3 _ _ hma, T.cls, tPr, rfl, mpr, CP, qdx, _, _, rfl, s3 _ _ hqa, TP.cls, tBP, rfl, _, rfl, by rw [sizeLine_eq]; show 2 ≤ 16777216; decide, fun t3 nt3 => ?_⟩
    have q3 := same_upd (o := .tup [V.ref qb, V.ref r]) nt3
    have e3 : (upd H3 t3 (.tup [V.ref qb, V.ref r])) t3 = some (.tup [V.ref qb, V.ref r]) := upd_same
    have s4 := s3.trans q3
    generalize upd H3 t3 (.tup [V.ref qb, V.ref r]) = H4 at q3 e3 s4 ⊢
    refine ⟨by rw [sizeLine_eq]; show 3 ≤ 16777216; decide, fun t nt => ⟨t, rfl, ⟨_, SqT.of upd_same⟩, ?_⟩⟩
    have q4 := same_upd (o := .tup [V.ref t1, V.ref t2, V.ref t3]) nt
    have e4 : (upd H4 t (.tup [V.ref t1, V.ref t2, V.ref t3])) t = some (.tup [V.ref t1, V.ref t2, V.ref t3]) := upd_same
    have s5 := s4.trans q4
    generalize upd H4 t (.tup [V.ref t1, V.ref t2, V.ref t3]) = H5 at q4 e4 s5 ⊢
    have ho5 := (q1.trans (q2.trans (q3.trans q4))) _ _ ho
    have hr5_ := (q1.trans (q2.trans (q3.trans q4))) _ _ hr_
    have turns : ∀ x ∈ ([V.ref t1, V.ref t2, V.ref t3] : List V), TurnP H5 CB C ks ys x := by
      intro x mx
      simp only [List.mem_cons, List.not_mem_nil, or_false] at mx
      rcases mx with rfl | rfl | rfl
      · exact ⟨t1, mb, o, kvo, wo, _, _, _, rfl, (q2.trans (q3.trans q4)) _ _ e1, ho5, hlo, hmb.same s5, eo⟩
      · exact ⟨t2, pb, r, kvr, upW w ys, _, _, _, rfl, (q3.trans q4) _ _ e2, hr5_, hlr, hpb.same s5, upI⟩
      · refine ⟨t3, qb, r, kvr, upW w ys, _, _, _, rfl, q4 _ _ e3, hr5_, hlr, hqb.same s5, fun n => ?_⟩
        by_cases ck : kd = .eq
        · subst ck
          rw [show kupV .eq (ratOf w) ys = upV (ratOf w) ys from rfl, upV_up zn]
          exact upI n
        · rw [show kupV kd (ratOf w) ys = ratOf w from if_neg ck]
          exact upI n
    clear e1 e2 e3 q1 q2 q3 q4 nt1 nt2 nt3 nt
    refine for_it (walk_tup (xs := [V.ref t1, V.ref t2, V.ref t3])) (fun i σ Hx => (∃ x6 x7, σ = [some (.ref d), some (.str kd.s), some (.ref m), some (.ref p), some (.ref r), some (.ref o), x6, x7, none]) ∧ Same H5 Hx) ⟨⟨none, none, rfl⟩, fun _ _ e => e⟩ (fun i σ Hx _ hP => SqT.of (hP.2 _ _ e4)) ?_ ?_
    · rintro i y σ Hx Hx' hi ⟨⟨x6, x7, rfl⟩, s6⟩ ⟨rfl, ex⟩
      obtain ⟨tt, b, o2, kv2, w2, v2, B2, c2, rfl, et, eo2, hl2, hb0, ev⟩ := (turns _ (List.mem_of_getElem? ex)).same s6
      refine ⟨tt, _, rfl, SqT.of et, rfl, _, _, rfl, _, _, rfl, rfl, ?_⟩
      obtain ⟨bdx, nd_, tp_, kt_, hba, bi⟩ : ∃ bdx nd tp kt, Hx' b = some (.ins CB bdx (balF nd tp kt (decide (V.int (ys.length : Nat) = V.int 0)))) ∧ Hx' tp = some (.tup (ys.map V.str)) := by
        obtain ⟨g, ⟨dx, nd, tp, kt, e, h1, h2, h3⟩, _⟩ := id hb0
        exact ⟨dx, nd, tp, kt, e, h2⟩
      have htp := bi
      have pl : PyData.plain (.tuple (ys.map PyData.str)) = true := by simp only [PyData.plain]; exact plain_strs _
      have dl : PyData.depth (.tuple (ys.map PyData.str)) ≤ 60 := by simp only [PyData.depth, deep_strs]; decide
      refine ⟨_, rfl, b, CB, bdx, _, _, rfl, hba, B'.T.cls, nT, rfl, ?_⟩
      -- sorted
      refine ⟨o2, .dK kv2, eo2, True.intro, fun od => ?_⟩
      refine ⟨_, rfl, o2, od, rfl, .inl ⟨kv2, upd_same, fun D nD => ?_⟩⟩
      have nDd : D ≠ o2 := fun e => by rw [e, upd_same] at nD; cases nD
      have hdL : (upd Hx' o2 (.frz od (.dK kv2))) o2 = some (.frz od (.dK kv2)) := upd_same
      have ul : ∀ Hy, Same (upd Hx' o2 (.frz od (.dK kv2))) Hy → Same Hx' (upd Hy o2 (.dK kv2)) := fun Hy s => unlock_same eo2 s
      generalize upd Hx' o2 (.frz od (.dK kv2)) = HL at nD hdL ul ⊢
      have lkk := Paired.length hl2
      refine lc_it walk_keys (fun i Hy => Same HL Hy ∧ Hy D = some (.lst ((ks.take i).map V.str))) ⟨same_upd nD, upd_same⟩ (fun i Hy _ hP => hP.1 _ _ hdL) (fun i x Hy Hy' hi hP hy => ?_) (fun Hy hP => ?_)
      · obtain ⟨rfl, key, v, ek, rfl⟩ := hy
        obtain ⟨s2, hD⟩ := hP
        obtain ⟨n, en, e1, _⟩ := Paired.at' hl2 i _ ek
        have e1 : key = .inr n := e1
        subst e1
        refine ⟨rfl, yesI ⟨_, rfl, n, rfl, _, hD, ?_, fun a ob e => ?_, ?_⟩⟩
        · have f2 := List.length_take (i := i) (l := ks)
          rw [List.length_map, sizeLine_eq]; omega
        · rw [upd_ne (ne_of_none e nD)]; exact s2 _ _ e
        · rw [upd_same, List.take_add_one, en, List.map_append]
          rfl
      obtain ⟨s2, hD⟩ := hP
      rw [lkk, List.take_length] at hD
      refine ⟨s2 _ _ hdL, nilI ⟨D, ks, rfl, SqL.of ((upd_ne nDd).trans hD), ?_, fun ys2 p2 py2 sy2 np => ?_⟩⟩
      · omega
      obtain rfl := one py2 sy2
      have s3' := (ul _ s2).trans (same_upd (o := .lst (ys2.map V.str)) np)
      have hp3 : (upd (upd Hy o2 (.dK kv2)) p2 (.lst (ys2.map V.str))) p2 = some (.lst (ys2.map V.str)) := upd_same
      generalize upd (upd Hy o2 (.dK kv2)) p2 (.lst (ys2.map V.str)) = H6 at s3' hp3 ⊢
      clear hdL ul s2 hD nD nDd
      refine nilI ⟨p2, _, rfl, .inl ⟨SqL.of hp3, fun q nq => ?_⟩⟩
      have sq : Same H6 (upd H6 q (.tup (ys2.map V.str))) := same_upd nq
      have eq1 : (upd H6 q (.tup (ys2.map V.str))) q = some (.tup (ys2.map V.str)) := upd_same
      generalize (upd H6 q (.tup (ys2.map V.str))) = H7 at sq eq1 ⊢
      have s7 := s3'.trans sq
      refine ⟨.tuple (ys2.map .str), .tuple (ys2.map .str), .tup (SqT.of (s7 _ _ htp)) (dp_strs _), .tup (SqT.of eq1) (dp_strs _), pl, pl, Nat.le_trans (Nat.min_le_left _ _) dl, false, congrArg V.bl (by rw [SeqAt.eqv_refl_plain _ pl]; rfl), iteF ?_⟩
      -- the numbers
      have ed := s7 _ _ eo2
      have hb7 := hb0.same s7
      have hba7 := s7 _ _ hba
      refine ⟨o2, .dK kv2, ed, True.intro, fun od => ?_⟩
      refine ⟨_, rfl, o2, od, rfl, .inl ⟨kv2, upd_same, fun D nD => ?_⟩⟩
      have nDd : D ≠ o2 := fun e => by rw [e, upd_same] at nD; cases nD
      have hdL : (upd H7 o2 (.frz od (.dK kv2))) o2 = some (.frz od (.dK kv2)) := upd_same
      have ul : ∀ Hy, Same (upd H7 o2 (.frz od (.dK kv2))) Hy → Same H7 (upd Hy o2 (.dK kv2)) := fun Hy s => unlock_same ed s
      have hbL : BX (upd H7 o2 (.frz od (.dK kv2))) b CB C v2 ys2 B2 c2 := lockBX hb7 ed hl2 kn
      have hbaL : (upd H7 o2 (.frz od (.dK kv2))) b = _ := (upd_ne (fun z => by rw [z, ed] at hba7; cases hba7)).trans hba7
      generalize upd H7 o2 (.frz od (.dK kv2)) = HM at nD hdL ul hbL hbaL ⊢
      refine lc_it walk_keys (fun i Hy => Same HM Hy ∧ Hy D = some (.lst [])) ⟨same_upd nD, upd_same⟩ (fun i Hy _ hP => hP.1 _ _ hdL) (fun i x Hy Hy' hi hP hy => ?_) (fun Hy hP => ?_)
      · obtain ⟨rfl, key, v, ek, rfl⟩ := hy
        obtain ⟨sG, hD⟩ := hP
        obtain ⟨n, en, e1, _⟩ := Paired.at' hl2 i _ ek
        have e1 : key = .inr n := e1
        subst e1
        have mn := List.mem_of_getElem? en
        have mz : n ∈ ys2 := pz.mem_iff.mpr mn
        obtain ⟨g, hbg, hv, hz⟩ := id hbL
        have gn : g n = (w2 n, 1) := by
          refine lo_ext (hv.lo n mz) (lo_int _) ?_
          rw [valIn hv mz, val_int, ev]
        refine ⟨rfl, ?_⟩
        refine ⟨_, rfl, b, bdx, _, rfl, sG _ _ hbaL, rfl, _, rfl, nilI ⟨b, n, g, ys2, rfl, hbg.same sG, (hv.ok.ns.nm n mz).1, (hv.ok.ns.nm n mz).2, fun r1 H8 s8 h8 => ?_⟩⟩
        rw [num_in mz, gn] at h8
        have dg : DGet H8 o2 (kV (.inr n)) (some (.int (w2 n))) := by
          have z : DGet H8 o2 (kV (.inr n)) (valV kv2 (.inr n)) := .inl ⟨kv2, .inr n, .inr ⟨od, (sG.trans s8) _ _ hdL⟩, rfl, rfl⟩
          rw [hl2.val mn] at z
          exact z
        refine ⟨_, rfl, _, rfl, o2, .int (w2 n), rfl, dg, r1, w2 n, rfl, rfl, ?_⟩
        obtain ⟨rdx, hr1a⟩ := id h8
        refine ⟨⟨rdx, _, hr1a⟩, r1, .int (w2 n), _, _, rfl, h8, .inr (.inl ⟨w2 n, rfl, _, rfl, false, congrArg V.bl ?_, iteF ⟨sG.trans s8, s8 _ _ hD⟩⟩)⟩
        simp
      obtain ⟨sG, hD⟩ := hP
      refine ⟨sG _ _ hdL, ?_⟩
      have hDU : (upd Hy o2 (.dK kv2)) D = some (.lst []) := (upd_ne nDd).trans hD
      have sU := ul Hy sG
      generalize upd Hy o2 (.dK kv2) = HU at hDU sU ⊢
      refine ⟨by rw [sizeLine_eq]; exact Nat.zero_le _, fun q2 nq2 => ?_⟩
      have sq2 : Same HU (upd HU q2 (.lst [])) := same_upd nq2
      refine ⟨.list [], .list [], .lst (SqL.of (sq2 _ _ hDU)) .nil, .lst (SqL.of upd_same) .nil, rfl, rfl, by decide, false, rfl, iteF ?_⟩
      exact ⟨⟨_, _, rfl⟩, s6.trans (s7.trans (sU.trans sq2))⟩
    · rintro σ Hx ⟨⟨x6, x7, rfl⟩, s6⟩
      dsimp only [tNext, tSeq]
      have s7 := s5.trans s6
      have hr7 := s6 _ _ hr5_
      have ho7 := s6 _ _ ho5
      clear turns e4 hr5_ ho5 ho hr_ s1 s2 s3 s4 s5 s6
      obtain ⟨a2, a3, a4, a5, a6, hab⟩ := (hpb.same s7).at_
      refine ⟨_, rfl, p, CP, pdx, _, _, rfl, s7 _ _ hpa, TP.cls, tF, rfl, _, rfl, p, CP, pdx, _, _, rfl, s7 _ _ hpa, TP.cls, tBP, rfl, pb, a2, _, rfl, hab, rfl, nilI ((hpb.same s7).gains fun f1 zf H3 s8 lf hf => ?_)⟩
      have s9 := s7.trans s8
      refine ⟨pf, .ref CB, rfl, (hpf.same s9).ins, ty_ins hf.ins, W.nf, (hpf.same s9).eqB hf fun bl e => ⟨bl, rfl, ?_⟩⟩
      obtain rfl : bl = true := e.mpr fun n => rfl
      refine ⟨false, rfl, iteF ?_⟩
      refine ⟨_, rfl, p, CP, pdx, _, _, rfl, s9 _ _ hpa, TP.cls, tS, rfl, _, rfl, p, CP, pdx, _, _, rfl, s9 _ _ hpa, TP.cls, tBP, rfl, pb, a2, _, rfl, s8 _ _ hab, rfl, nilI ((hpb.same s9).losses ⟨by omega, by omega⟩ fun f2 zl H4 s10 ll hl4 => ?_)⟩
      have s11 := s9.trans s10
      refine ⟨ps, .ref CB, rfl, (hps.same s11).ins, ty_ins hl4.ins, W.nf, (hps.same s11).eqB hl4 fun bl e => ⟨bl, rfl, ?_⟩⟩
      obtain rfl : bl = true := e.mpr fun n => rfl
      refine ⟨false, rfl, iteF ?_⟩
      -- the pair's text
      refine ⟨_, rfl, p, rfl, (hp.same s11).ins, p, _, ys, Bp, cp, rfl, hp.same s11, by omega, by omega, l4, fun H5' s12 => ⟨_, rfl, ?_⟩⟩
      refine ⟨_, rfl, consC ⟨r, ":", kvr, ks, upW w ys, rfl, (s8.trans (s10.trans s12)) _ _ hr7, hlr, lk, ixU, by decide, fun ys3 H6' s13 py3 sy3 => ?_⟩⟩
      obtain rfl := one py3 sy3
      refine ⟨rfl, false, congrArg V.bl ?_, iteF ?_⟩
      · rw [line_text (fun n _ => upI n)]
        simp
      dsimp only [tNext, tSeq]
      have s14 := (s11.trans s12).trans s13
      refine ⟨_, rfl, m, rfl, (hm.same s14).ins, m, kd, _, ys3, Bm, cm, rfl, hm.same s14, by omega, by omega, l4, fun H7' s15 => ⟨_, rfl, ?_⟩⟩
      have lkd : kd.s.length ≤ 100 := by cases kd <;> decide
      refine ⟨_, rfl, _, rfl, nilI ⟨o, kd.s, kvo, ks, wo, rfl, (s8.trans (s10.trans (s12.trans (s13.trans s15)))) _ _ ho7, hlo, lk, ixo, lkd, fun ys4 H8' s16 py4 sy4 => ?_⟩⟩
      obtain rfl := one py4 sy4
      refine ⟨rfl, true, congrArg V.bl ?_, iteT ?_⟩
      · rw [comp_text kd (fun n _ => eo n)]
        simp
      have s17 := s14.trans (s15.trans s16)
      refine ⟨_, rfl, m, CM, mdx, _, _, rfl, s17 _ _ hma, T.cls, tK, rfl, _, rfl, rfl, true, congrArg V.bl (by simp), iteT ?_⟩
      refine ⟨_, rfl, _, rfl, m, CM, mdx, _, _, rfl, s17 _ _ hma, T.cls, tB, rfl, _, rfl, nilI ⟨_, _, rfl, .inl ⟨mb, _, ys4, Bm, cm, kd, rfl, rfl, hmb.same s17, by omega, by omega, l4, zn, fun u2 L2 m2 H9' s18 _ hm2 => ?_⟩⟩⟩
      have Lk : LeastV (kupV kd (ratOf w) ys4) (kupV kd (ratOf w) ys4) ys4 := L.kup
      obtain rfl := Lk.one L2
      have s19 := s17.trans s18
      refine ⟨m, .ref CM, rfl, (hm.same s19).ins, ty_ins hm2.ins, M.nf, m, .ref m2, kd, _, ys4, _, _, rfl, hm.same s19, .inl ⟨m2, kd, _, ys4, _, _, rfl, hm2, fun bl e => ⟨bl, rfl, ?_⟩⟩⟩
      obtain rfl : bl = true := e.mpr ⟨rfl, fun n => by rw [kup_kup zn]⟩
      exact k _ s19
end
end K09
namespace K09
open PySem PySem.Spec PyProof.Rows L2 RatM LamX ClX
def wordsE : List Str := ["balance", "comparison", "pair", "number"]
/-- an error's class, the i-th of the four that are asked for -/
structure ErCls (K : PySem.W.Frag) (SE E1 E2 E3 E4 C : Addr) (i : Nat) (w : Str) : Prop where
  ex : PySem.W.exmOne K (.ref C) (.ref SE) = some true
  xf : XfC K C
  is : ExcC K C
  no : PySem.W.findIn K (.ref C) "part" = some none
  k1 : PySem.W.kitOne K (.ref C) (.ref E1) = some (decide (i = 0))
  k2 : PySem.W.kitOne K (.ref C) (.ref E2) = some (decide (i = 1))
  k3 : PySem.W.kitOne K (.ref C) (.ref E3) = some (decide (i = 2))
  k4 : PySem.W.kitOne K (.ref C) (.ref E4) = some (decide (i = 3))
  w : wordsE[i]? = some w
/-- what the def that hears asks of an error -/
def HearW (K : PySem.W.Frag) (SE E1 E2 E3 E4 : Addr) (Q : VK) : XK := fun cls d H' => ∃ (C dd : Addr) (fs : List (Str × V)) (i : Nat) (w : Str) (v : V), cls = .ref C ∧ d = some dd ∧ H' dd = some (.xd fs) ∧ ErCls K SE E1 E2 E3 E4 C i w ∧ fs.lookup ("part" : Str) = some v ∧
  ∀ p H2, Same H' H2 → H2 p = some (.tup [.str w, v]) → Q (.ref p) H2
def THear (K : PySem.W.Frag) (SE E1 E2 E3 E4 : Addr) : (XK → Hp → VK → Prop) → Hp → VK → Prop := fun tl H Q => ∀ Z : VK, tl (HearW K SE E1 E2 E3 E4 Q) H Z
abbrev nsH : List Str := ["_law_ask", "_law_caught", "_law_kinds", "error"]
theorem scHe : FnScope nsH ["_law_ask"] (defScope (top 92)) := ⟨rfl, rfl, rfl, by decide +kernel, rfl, by decide +kernel, by decide +kernel⟩
theorem heard_gives {X : Cx} {SE E1 E2 E3 E4 g : Addr} {cdg : Value} {q : Str} (gS : X.mg "ScaleError" = some (.ref SE)) (g1 : X.mg "BadBalance" = some (.ref E1)) (g2 : X.mg "BadComparison" = some (.ref E2)) (g3 : X.mg "BadPair" = some (.ref E3)) (g4 : X.mg "BadNumber" = some (.ref E4)) (bi : X.mg "isinstance" = none) :
    GivesTo X nsH "_law_heard" (defScope (top 92)) g cdg (defBody (top 92)) "_law_ask" q (THear X.K SE E1 E2 E3 E4) := by
  intro f c' s H Q tl act hc h
  refine ⟨_, pss_cons (ps_set (i := 1) scHe.nd rfl (.inl rfl) pe_non) (pss_cons (ps_try_keep (X := (cxOf C8.CX0 X.prog X.w X.K X.mg X.base nsH "_law_heard" (defScope (top 92)) g cdg X.A X.stack s H C8.E0).nox) (n := "error") (i := 3) (c := .ref SE)
      (tb := fun W D σ H => ∃ Ech : XK, (∀ cls d σ' H', Ech cls d H' → σ'.length = 4 → W cls d σ' H') ∧ σ[0]? = some (some (.ref f)) ∧ H c' = some (CodeO c' q) ∧ tl Ech H fun _ H' => D.nx σ H')
      rfl rfl rfl scHe.nd rfl rfl ⟨rfl, rfl, .inl gS⟩ (fun W pn xe tk _ => ?_)
      (fun a oe cls d pn hz hf => pss_one (ps_set (i := 1) scHe.nd rfl (.inl rfl) (pv 3))))
    (pss_cons (ps_set (i := 2) scHe.nd rfl (.inl rfl) (pe_lst (pa_cons (pe_callB call_isR (by rfl) bi (by decide +kernel) (pa_cons (pv 1) (pa_cons (pe_glob (v := .ref _) rfl g1 rfl) pa_nil))) (pa_cons (pe_callB call_isR (by rfl) bi (by decide +kernel) (pa_cons (pv 1) (pa_cons (pe_glob (v := .ref _) rfl g2 rfl) pa_nil))) (pa_cons (pe_callB call_isR (by rfl) bi (by decide +kernel) (pa_cons (pv 1) (pa_cons (pe_glob (v := .ref _) rfl g3 rfl) pa_nil))) (pa_cons (pe_callB call_isR (by rfl) bi (by decide +kernel) (pa_cons (pv 1) (pa_cons (pe_glob (v := .ref _) rfl g4 rfl) pa_nil))) pa_nil))))))
    (pss_one (ps_ret (pe_ifExp (pt_cmpR op_notIn_seq pe_bl (pv 2) rfl) pe_non (pe_tup (pa_cons (pe_ix ix_tup (pe_tup (pa_cons pe_str (pa_cons pe_str (pa_cons pe_str (pa_cons pe_str pa_nil))))) (pe_bm PySem.F.plainAttrs_list PySem.F.slot_list_index PySem.F.type_list_index mt_index (pv 2) (pa_cons pe_bl pa_nil)) (fun _ _ => rfl)) (pa_cons (pe_errR (pv 1)) pa_nil)))))))), ?_⟩
  · refine ⟨fun pins s' σ H' D I h' => ?_⟩
    obtain ⟨Ech, hW, h1, h2, h3⟩ := h'
    exact (pss_one (ps_expr (act (fun cls d σ' H' => σ'.length = 4 → W cls d σ' H') pn xe Ech _ _ (fun u s' ⟨a, B, sI, pins', σ', H', cls, d, e, J, nb, up, sky, na, os, ag, w⟩ => tk u s' ⟨a, B, sI, pins', σ', H', cls, d, e, J, nb, up, sky, na, os, ag, w J.len⟩) hW))).run pins s' σ H' D I ⟨h1, h2, h3⟩
  · refine ⟨HearW X.K SE E1 E2 E3 E4 Q, fun cls d σ' H' hw hl => ?_, rfl, hc, h _⟩
    obtain ⟨x0, x1, x2, x3, rfl⟩ : ∃ x0 x1 x2 x3, σ' = [x0, x1, x2, x3] := by
      match σ', hl with
      | [x0, x1, x2, x3], _ => exact ⟨x0, x1, x2, x3, rfl⟩
    obtain ⟨C, dd, fs, i, w, v, rfl, rfl, hd, er, hv, k⟩ := hw
    refine ⟨er.ex, C, dd, rfl, rfl, fun a na => ?_⟩
    refine ⟨_, rfl, ?_⟩
    have hER : ErrR (upd H' a (exr a C dd)) a C fs := ⟨dd, upd_same, (upd_ne (ne_of_none hd na)).trans hd⟩
    have s1 := same_upd (o := exr a C dd) na
    dsimp only [gName, tSeq, tAsg]
    generalize upd H' a (exr a C dd) = H1 at hER s1 ⊢
    refine ⟨_, rfl, a, C, fs, _, _, _, rfl, hER, er.is, .own E1, er.k1, ?_⟩
    refine ⟨_, rfl, a, C, fs, _, _, _, rfl, hER, er.is, .own E2, er.k2, ?_⟩
    refine ⟨_, rfl, a, C, fs, _, _, _, rfl, hER, er.is, .own E3, er.k3, ?_⟩
    refine ⟨_, rfl, a, C, fs, _, _, _, rfl, hER, er.is, .own E4, er.k4, ?_⟩
    refine ⟨by rw [sizeLine_eq]; show 4 ≤ 16777216; decide, fun p np => ?_⟩
    have q1 := same_upd (o := .lst [V.bl (decide (i = 0)), V.bl (decide (i = 1)), V.bl (decide (i = 2)), V.bl (decide (i = 3))]) np
    have hp : (upd H1 p (.lst [V.bl (decide (i = 0)), V.bl (decide (i = 1)), V.bl (decide (i = 2)), V.bl (decide (i = 3))])) p = some (.lst [V.bl (decide (i = 0)), V.bl (decide (i = 1)), V.bl (decide (i = 2)), V.bl (decide (i = 3))]) := upd_same
    have hER := hER.same q1
    have s2 := s1.trans q1
    generalize upd H1 p (.lst [V.bl (decide (i = 0)), V.bl (decide (i = 1)), V.bl (decide (i = 2)), V.bl (decide (i = 3))]) = H2 at hp hER s2 ⊢
    dsimp only [gName, tSeq, tAsg, tNext]
    have wi := er.w
    have li : i < 4 := (List.getElem?_eq_some_iff.mp wi).1
    have hi : i = 0 ∨ i = 1 ∨ i = 2 ∨ i = 3 := by omega
    have nb : inV (V.bl true) [V.bl (decide (i = 0)), V.bl (decide (i = 1)), V.bl (decide (i = 2)), V.bl (decide (i = 3))] = true := by
      rcases hi with rfl | rfl | rfl | rfl <;> rfl
    refine ⟨_, rfl, p, _, rfl, .inl (SqL.of hp), rfl, rfl, false, ?_, iteF ?_⟩
    · rw [nb]
      rfl
    refine ⟨by rw [sizeLine_eq]; show 4 ≤ 16777216; decide, fun t nt => ?_⟩
    have q2 := same_upd (o := .tup [V.str (Str.ofString "balance"), V.str (Str.ofString "comparison"), V.str (Str.ofString "pair"), V.str (Str.ofString "number")]) nt
    have ht : (upd H2 t (.tup [V.str (Str.ofString "balance"), V.str (Str.ofString "comparison"), V.str (Str.ofString "pair"), V.str (Str.ofString "number")])) t = some (.tup (wordsE.map V.str)) := upd_same
    have hER := hER.same q2
    have hp2 := q2 _ _ hp
    have s3 := s2.trans q2
    generalize upd H2 t (.tup [V.str (Str.ofString "balance"), V.str (Str.ofString "comparison"), V.str (Str.ofString "pair"), V.str (Str.ofString "number")]) = H3 at ht hER hp2 s3 ⊢
    refine ⟨_, rfl, .inl ⟨rfl, _, SqL.of hp2⟩, consC ⟨p, _, .bl true, i, .bl true, rfl, rfl, SqL.of hp2, rfl, rfl, ?_, rfl, ?_, ?_⟩⟩
    · rcases hi with rfl | rfl | rfl | rfl <;> rfl
    · intro m z' hm hz
      rcases hi with rfl | rfl | rfl | rfl
      · omega
      · obtain rfl : m = 0 := by omega
        cases hz
        rfl
      · obtain rfl | rfl : m = 0 ∨ m = 1 := by omega
        all_goals (cases hz; rfl)
      · obtain rfl | rfl | rfl : m = 0 ∨ m = 1 ∨ m = 2 := by omega
        all_goals (cases hz; rfl)
    refine ⟨t, _, _, .str w, rfl, rfl, SqT.of ht, atI_nat (by rw [List.getElem?_map, wi]; rfl), ?_⟩
    refine ⟨_, rfl, a, C, fs, v, rfl, hER, er.xf, er.no, hv, nilI ⟨by rw [sizeLine_eq]; show 2 ≤ 16777216; decide, fun q nq => ?_⟩⟩
    exact k q _ (s3.trans (same_upd nq)) upd_same
end K09
namespace K09
open PySem PySem.Spec PyProof.Rows L2 RatM LamX ClX
/-- a def's promise, its code object known -/
theorem okC {P : Program} {w : World} {K : PySem.W.Frag} {mg : Str → Option Value} {base : Heap} {x qual : Str} {params : Arguments} {body : List Stmt} {scope : Scope} {dvs : List V} {kws : List (Str × V)} {f : Addr} {fd : FuncData} {CX : CXT} {N ps : List Str} {k : Nat} {sp : Sp}
    (F : FunD K x qual params body scope dvs kws f fd) (S : FnScope N ps scope) (len : ∀ vs H Q E, sp vs H Q E → vs.length = ps.length)
    (hbody : ∀ (c : Addr), (∀ p : Str × Option Str, He.fAd K p = f → He.codeOf K p = c) → ∀ (A : Around) (outer : List Env) (s : Shared) (H : Hp) (vs : List V) (Q : VK) (E : XK), Room k (A.deeper (envOfC qual scope s.heap.objs.size f (.ref c))) → sp vs H Q E →
      ∃ t, PSs (cxOf CX P w K mg base N qual scope f (.ref c) A outer s H E) body t ∧ t { nx := fun _ H' => Q .non H', rt := Q } (start N vs) H) : FnOk P w K mg base CX (k + 1) f fd ps sp := by
  obtain ⟨oc, od, dV, kV, doc, pm, an, cdv, ct, osl, rfl, lk, hcd, _, _⟩ := F.ex
  obtain ⟨c, rfl⟩ := He.codeIn_ref hcd
  exact fn_of lk hcd S len fun A outer s H vs Q E hr hsp => hbody c (fun p e => He.codeOf_eq (c := c) (by rw [e]; exact lk) rfl) A outer s H vs Q E hr hsp
/-- what the def that hears rests on -/
structure HearK (K : PySem.W.Frag) (mg : Str → Option Value) (SE BB BC BP BN g : Addr) (fd : FuncData) : Prop where
  F : FnP K "_law_heard" (top 92) g fd
  gh : mg "_law_heard" = some (.ref g)
  gS : mg "ScaleError" = some (.ref SE)
  g1 : mg "BadBalance" = some (.ref BB)
  g2 : mg "BadComparison" = some (.ref BC)
  g3 : mg "BadPair" = some (.ref BP)
  g4 : mg "BadNumber" = some (.ref BN)
  bi : mg "isinstance" = none
  e1 : ErCls K SE BB BC BP BN BB 0 "balance"
  e2 : ErCls K SE BB BC BP BN BC 1 "comparison"
  e3 : ErCls K SE BB BC BP BN BP 2 "pair"
  e4 : ErCls K SE BB BC BP BN BN 3 "number"
/-- _law_heard(lambda: body) -/
theorem pe_heard {X : Cx} {SE BB BC BP BN g c P : Addr} {fd : FuncData} {T : List (Addr × Str)} {k : Nat} {params : Arguments} {body : Expr} {scope : Scope} {t : XK → TE} {p lpos pos : Pos} (M : HearK X.K X.mg SE BB BC BP BN g fd) (TB : TabB X.base X.mg c P) (hcode : X.env.code = .ref c)
    (hmT : (P, X.env.qual ++ "<lambda>") ∈ T) (hu : ∀ p ∈ T, p.1 = P → p.2 = X.env.qual ++ "<lambda>") (hr : Room (k + 2) X.A) (hg : Gl X "_law_heard") (L : LamS X.env.scope scope) (hdef : defaultsOf params X.env = ([], []))
    (hbind : ∀ (q : Str) (cl : List (Str × Addr)) (pm cv ctv : Value), bindArgs (PySem.W.kla_fn "<lambda>" q params body scope cl pm cv ctv) ⟨[], []⟩ = pure [])
    (hbody : ∀ (A : Around) (outer : List Env) (s : Shared) (H : Hp) (E : XK) (f c' : Addr), Room k (A.deeper (lamEnv X scope s.heap.objs.size f c')) → PE (lamCx X A outer s H E scope f c') body (t E)) :
    PE X (.Call (.Name "_law_heard" p) [.Lambda params body scope lpos] [] pos) (tLam T (THear X.K SE BB BC BP BN) t) := by
  have b : L2.Binds X.K fd ["_law_ask"] [] := M.F.bindsN fun _ _ _ _ _ _ us hl => match us, hl with | [_], _ => rfl
  have kp := M.F.kp
  obtain ⟨oc, od, dV, kV, doc, pm, an, cdv, ct, osl, rfl, lk, hcd, _, _⟩ := M.F.ex
  exact pe_lamcall (Ng := nsH) hg M.gh kp lk hcd b scHe rfl (.inl rfl) (heard_gives M.gS M.g1 M.g2 M.g3 M.g4 M.bi) TB hcode hmT hu hr L hdef hbind hbody
theorem extN_same {H H' : Hp} (s : Same H H') : ExtN H H' := fun b o e _ => s b o e
theorem tabs_same {T : List (Addr × Str)} {H H' : Hp} (t : Tabs T H) (s : Same H H') : Tabs T H' := fun p hp => (t p hp).ext s
theorem hear_rz {K : PySem.W.Frag} {SE E1 E2 E3 E4 C : Addr} {i : Nat} {w d : Str} {H : Hp} {Q : VK} (er : ErCls K SE E1 E2 E3 E4 C i w) (k : ∀ p H2, Same H H2 → H2 p = some (.tup [.str w, .str d]) → Q (.ref p) H2) : Rz H (HearW K SE E1 E2 E3 E4 Q) C [("part", .str d)] :=
  fun dd H' s nd hd => ⟨C, dd, _, i, w, _, rfl, rfl, hd, er, rfl, fun p H2 s2 hp => k p H2 (s.trans s2) hp⟩
/-- a tuple (w, d) -/
def TupE (H : Hp) (v : V) (x : Str × Str) : Prop := ∃ p, v = .ref p ∧ H p = some (.tup [.str x.1, .str x.2])
theorem TupE.extN {H H' : Hp} {v : V} {d : Str × Str} (h : TupE H v d) (s : ExtN H H') : TupE H' v d := let ⟨p, e, h⟩ := h; ⟨p, e, s _ _ h fun _ z => by cases z⟩
theorem tups_ext {H H' : Hp} (s : ∀ v d, TupE H v d → TupE H' v d) : ∀ {vs : List V} {ds : List (Str × Str)}, Paired (TupE H) vs ds → Paired (TupE H') vs ds
  | _, _, .nil => .nil
  | _, _, .cons h t => .cons (s _ _ h) (tups_ext s t)
theorem dp_tups {K : PySem.W.Frag} {H : Hp} : ∀ {vs : List V} {ds : List (Str × Str)}, Paired (TupE H) vs ds → DpAll K H vs (ds.map fun d => .tuple [.str d.1, .str d.2])
  | _, _, .nil => .nil
  | _, _, .cons ⟨p, e, h⟩ t => .cons (by rw [e]; exact .tup (SqT.of h) (.cons (.str _) (.cons (.str _) .nil))) (dp_tups t)
theorem tabs_upd {T : List (Addr × Str)} {H : Hp} {L : Addr} {o : HO} (h : Tabs T H) (n : H L = none ∨ ∃ xs, H L = some (.lst xs)) : Tabs T (upd H L o) := fun p hp => by
  obtain ⟨ps, h1, h2, h3⟩ := h p hp
  have ne : ∀ {b : Addr} {u : HO}, H b = some u → (∀ xs, u ≠ .lst xs) → b ≠ L := fun {b u} e q z => by
    rw [z] at e
    rcases n with n | ⟨xs, n⟩ <;> rw [n] at e <;> cases e
    exact q _ rfl
  refine ⟨ps, by rw [upd_ne (ne h1 fun _ z => by cases z)]; exact h1, h2, fun pos cv hc => ?_⟩
  obtain ⟨c, e1, e2⟩ := h3 pos cv hc
  exact ⟨c, e1, by rw [upd_ne (ne e2 fun _ z => by unfold CodeO at z; cases z)]; exact e2⟩
/-- L is none of H's objects, tables left aside -/
def NoTb (H : Hp) (L : Addr) : Prop := ∀ o, H L = some o → ∃ ps, o = .tbl ps
theorem NoTb.of {H0 H : Hp} {L : Addr} (e : ExtN H0 H) (n : H L = none) : NoTb H0 L := fun o h => by
  by_cases q : ∀ ps, o ≠ .tbl ps
  · rw [e _ _ h q] at n
    cases n
  · exact Classical.byContradiction fun z => q fun ps y => z ⟨ps, y⟩
theorem NoTb.ne {H0 : Hp} {L b : Addr} {u : HO} (n : NoTb H0 L) (h : H0 b = some u) (q : ∀ ps, u ≠ .tbl ps) : b ≠ L := fun z => by
  obtain ⟨ps, y⟩ := n u (by rw [← z]; exact h)
  exact q ps y
theorem extN_upd {H0 H : Hp} {L : Addr} {o : HO} (e : ExtN H0 H) (n : NoTb H0 L) : ExtN H0 (upd H L o) := fun b u h q => by rw [upd_ne (n.ne h q)]; exact e b u h q
/-- the list at L holds what was heard; H0: the heap ahead of it -/
def HeardL (T : List (Addr × Str)) (H0 : Hp) (L : Addr) (ds : List (Str × Str)) (H : Hp) : Prop := ExtN H0 H ∧ Tabs T H ∧ NoTb H0 L ∧ ∃ vs, H L = some (.lst vs) ∧ Paired (TupE H) vs ds
section
variable {K : PySem.W.Frag} {SE E1 E2 E3 E4 C : Addr} {T : List (Addr × Str)} {σ : L2.St} {t : XK → TE} {i : Nat} {w d : Str} {H0 : Hp}
theorem heard_first {Q : VK} (er : ErCls K SE E1 E2 E3 E4 C i w) (hT : Tabs T H0) (raise : ∀ (H1 : Hp) (E : XK) (Q' : VK), ExtN H0 H1 → Rz H1 E C [("part", .str d)] → t E σ H1 Q')
    (k : ∀ L H, HeardL T H0 L [(w, d)] H → Q (.ref L) H) : tLst (tCons (tLam T (THear K SE E1 E2 E3 E4) t) tNil) σ H0 Q :=
  ⟨hT, fun H1 e1 T1 Z => raise H1 _ Z e1 (hear_rz er fun p H2 s h => nilI ⟨by rw [sizeLine_eq]; show 1 ≤ 16777216; decide, fun L nL => k L _ (by
    have e2 := e1.trans (extN_same s)
    refine ⟨extN_upd e2 (NoTb.of e2 nL), tabs_upd (tabs_same T1 s) (.inl nL), NoTb.of e2 nL, _, upd_same, .cons ⟨p, rfl, by rw [upd_ne (ne_of_none h nL)]; exact h⟩ .nil⟩)⟩)⟩
theorem heard_app {Q : VK} {L : Addr} {ds : List (Str × Str)} {H : Hp} (er : ErCls K SE E1 E2 E3 E4 C i w) (h : HeardL T H0 L ds H) (hz : ds.length ≤ 1000) (raise : ∀ (H1 : Hp) (E : XK) (Q' : VK), ExtN H0 H1 → Rz H1 E C [("part", .str d)] → t E σ H1 Q')
    (k : ∀ H', HeardL T H0 L (ds ++ [(w, d)]) H' → Q .non H') : tCons (tLam T (THear K SE E1 E2 E3 E4) t) tNil σ H fun vs H2 => rAppend (.ref L) vs H2 Q := by
  obtain ⟨e0, T0, n0, vs, hL, pv⟩ := h
  refine ⟨T0, fun H1 e1 T1 Z => raise H1 _ Z (e0.trans e1) (hear_rz er fun p H2 s hp => nilI ?_)⟩
  have e2 := e1.trans (extN_same s)
  have hL2 : H2 L = some (.lst vs) := e2 _ _ hL fun _ z => by cases z
  have l1 := Paired.length pv
  refine ⟨L, vs, _, rfl, rfl, hL2, by rw [sizeLine_eq]; omega, k _ ?_⟩
  have keep : ∀ v x, TupE H2 v x → TupE (upd H2 L (.lst (vs ++ [.ref p]))) v x := fun v x => fun ⟨q, e, hq⟩ => ⟨q, e, by
    rw [upd_ne (fun z => by rw [z, hL2] at hq; cases hq)]; exact hq⟩
  exact ⟨extN_upd (e0.trans e2) n0, tabs_upd (tabs_same T1 s) (.inr ⟨vs, hL2⟩), n0, _, upd_same, Paired.snoc (tups_ext (fun v x h => keep v x (h.extN e2)) pv) (keep _ _ ⟨p, rfl, hp⟩)⟩
end
/-! what stays but for the tables -/
section
variable {H H' : Hp} {a p CB C CP CS CM : Addr} {v u : Str → Rat} {zs : List Str} {B c : Nat}
theorem BX.extN (h : BX H a CB C v zs B c) (k : ExtN H H') : BX H' a CB C v zs B c := by
  obtain ⟨g, ⟨dx', nd, tp, kt, e, ⟨kvs, e1, r⟩, e2, e3⟩, h2, h3⟩ := h
  exact ⟨g, ⟨dx', nd, tp, kt, k _ _ e (fun _ z => by cases z), ⟨kvs, k _ _ e1 (fun _ z => by cases z), Paired.mono' (fun _ _ ⟨x1, b', x2, dxb, x3⟩ => ⟨x1, b', x2, dxb, k _ _ x3 fun _ z => by cases z⟩) r⟩, k _ _ e2 (fun _ z => by cases z), k _ _ e3 (fun _ z => by cases z)⟩, h2, h3⟩
theorem PairAt.extN (h : PairAt H p CP CB C u zs B c) (k : ExtN H H') : PairAt H' p CP CB C u zs B c := by
  obtain ⟨dx', b, f, s', tp, zf, zl, h1, h2, h3, h4⟩ := h
  exact ⟨dx', b, f, s', tp, zf, zl, k _ _ h1 (fun _ z => by cases z), h2.extN k, h3.extN k, h4.extN k⟩
theorem InsAt.extN (h : InsAt H a CS) (k : ExtN H H') : InsAt H' a CS := let ⟨dx, fs, e⟩ := h; ⟨dx, fs, k _ _ e fun _ z => by cases z⟩
end
/-- what is no balance, of those that the law draws -/
inductive OddK (CP CS : Addr) (H : Hp) : V → Prop
  | non : OddK CP CS H .non
  | int (i : Int) : OddK CP CS H (.int i)
  | str (x : Str) : OddK CP CS H (.str x)
  | dK {a : Addr} {kvs : List (Key × V)} (e : H a = some (.dK kvs)) : OddK CP CS H (.ref a)
  | pr {a : Addr} (e : InsAt H a CP) : OddK CP CS H (.ref a)
  | sc {a : Addr} (e : InsAt H a CS) : OddK CP CS H (.ref a)
theorem OddK.extN {CP CS : Addr} {H H' : Hp} {x : V} (h : OddK CP CS H x) (k : ExtN H H') : OddK CP CS H' x := by
  cases h with
  | non => exact .non
  | int i => exact .int i
  | str x => exact .str x
  | dK e => exact .dK (k _ _ e fun _ z => by cases z)
  | pr e => exact .pr (InsAt.extN e k)
  | sc e => exact .sc (InsAt.extN e k)
/-- what the head tells of them -/
structure OddF (K : PySem.W.Frag) (CP CS CB : Addr) : Prop where
  b : ∀ T ∈ (["NoneType", "int", "str", "dict"] : List String), PySem.W.kitOne K (.type T) (.ref CB) = some false
  p : PySem.W.kitOne K (.ref CP) (.ref CB) = some false
  s : PySem.W.kitOne K (.ref CS) (.ref CB) = some false
theorem OddK.noB {K : PySem.W.Frag} {CP CS CB : Addr} {H : Hp} {x : V} (h : OddK CP CS H x) (F : OddF K CP CS CB) (Y : TyK K CP) (YS : TyK K CS) : NoB K CB H x := by
  cases h with
  | non => exact ⟨_, .base .non, F.b _ (by decide)⟩
  | int i => exact ⟨_, .base (.int i), F.b _ (by decide)⟩
  | str x => exact ⟨_, .base (.str x), F.b _ (by decide)⟩
  | dK e => exact ⟨_, .base (.dK e), F.b _ (by decide)⟩
  | pr e => exact ⟨_, Y.ty _ _ e, F.p⟩
  | sc e => exact ⟨_, YS.ty _ _ e, F.s⟩
/-- what is no kind -/
inductive OddN (H : Hp) : V → Prop
  | non : OddN H .non
  | bl (b : Bool) : OddN H (.bl b)
  | int (i : Int) : OddN H (.int i)
  | str (x : Str) (e : inV (.str x) knds = false) : OddN H (.str x)
  | lst {a : Addr} {xs : List V} (e : H a = some (.lst xs)) : OddN H (.ref a)
theorem OddN.extN {H H' : Hp} {x : V} (h : OddN H x) (k : ExtN H H') : OddN H' x := by
  cases h with
  | non => exact .non
  | bl b => exact .bl b
  | int i => exact .int i
  | str x e => exact .str x e
  | lst e => exact .lst (k _ _ e fun _ z => by cases z)
theorem OddN.kn {K : PySem.W.Frag} {H : Hp} {x : V} (h : OddN H x) : KnIs K H x false := by
  cases h with
  | non => exact .inr ⟨_, .base .non, kit_ty (by decide +kernel), rfl⟩
  | bl b => exact .inr ⟨_, .base (.bl b), kit_ty (by decide +kernel), rfl⟩
  | int i => exact .inr ⟨_, .base (.int i), kit_ty (by decide +kernel), rfl⟩
  | str x e => exact .inl ⟨x, rfl, e.symm⟩
  | lst e => exact .inr ⟨_, .base (.lst e), kit_ty (by decide +kernel), rfl⟩
/-- what is no outcome -/
def OddO (H : Hp) (y : V) : Prop := (∃ T, OddAt H y T) ∨ ∃ i : Int, y = .int i ∧ ¬ (-1 ≤ i ∧ i ≤ 1)
theorem OddO.extN {H H' : Hp} {y : V} (h : OddO H y) (s : ExtN H H') : OddO H' y := by
  rcases h with ⟨T, h⟩ | ⟨i, e, h⟩
  · refine .inl ⟨T, ?_⟩
    cases h with
    | non => exact .non
    | bl b => exact .bl b
    | str x => exact .str x
    | lst e => exact .lst (s _ _ e fun _ z => by cases z)
    | tup e => exact .tup (s _ _ e fun _ z => by cases z)
    | dK e => exact .dK (s _ _ e fun _ z => by cases z)
  · exact .inr ⟨i, e, h⟩
end K09
namespace K09
open PySem PySem.Spec PyProof.Rows L2 RatM LamX ClX
abbrev lamQ (x : Str) : Str := (x ++ ".<locals>.") ++ "<lambda>"
theorem pe_compK {X : Cx} {P : Program} {w : World} {K : PySem.W.Frag} {mg : Str → Option Value} {base : Heap} {CM CP CB C BB BC : Addr} {E : XK} {p pos : Pos} {e1 e2 : Expr} {ta : TA} (R : CompK P w K mg base CM CP CB C BB BC) (hr : Room 16 X.A) (hx : Passes (L2.CX X.prog X.w) X E) (hg : Gl X "Comparison") (ha : PA X [e1, e2] ta)
    (hX : X.prog = P ∧ X.w = w ∧ X.K = K ∧ X.mg = mg ∧ X.base = base := by exact ⟨rfl, rfl, rfl, rfl, rfl⟩)
    (he : starEach [e1, e2] X.env = (false, eval e1 X.env) :: starEach [e2] X.env := by rfl) (hpl : (backTo pos (starEach [e2] X.env)).any (·.1) = false := by rfl) :
    PE X (.Call (.Name "Comparison" p) [e1, e2] [] pos) (tComp K CM CP CB C BB BC E ta) := by
  obtain ⟨rfl, rfl, rfl, rfl, rfl⟩ := hX
  exact pe_comp R hr hx hg ha rfl rfl rfl rfl rfl he hpl
theorem pe_pairK {X : Cx} {P : Program} {w : World} {K : PySem.W.Frag} {mg : Str → Option Value} {base : Heap} {CP CB C BB BP : Addr} {E : XK} {p pos : Pos} {e1 : Expr} {ta : TA} (R : PairK P w K mg base CP CB C BB BP) (hr : Room 14 X.A) (hx : Passes (L2.CX X.prog X.w) X E) (hg : Gl X "Pair") (ha : PA X [e1] ta)
    (hX : X.prog = P ∧ X.w = w ∧ X.K = K ∧ X.mg = mg ∧ X.base = base := by exact ⟨rfl, rfl, rfl, rfl, rfl⟩)
    (he : starEach [e1] X.env = (false, eval e1 X.env) :: starEach [] X.env := by rfl) (hpl : (backTo pos (starEach [] X.env)).any (·.1) = false := by rfl) :
    PE X (.Call (.Name "Pair" p) [e1] [] pos) (tPair K CP CB C BB BP E ta) := by
  obtain ⟨rfl, rfl, rfl, rfl, rfl⟩ := hX
  exact pe_pair R hr hx hg ha rfl rfl rfl rfl rfl he hpl
theorem tups_app {H : Hp} : ∀ {vs ws : List V} {ds es : List (Str × Str)}, Paired (TupE H) vs ds → Paired (TupE H) ws es → Paired (TupE H) (vs ++ ws) (ds ++ es)
  | _, _, _, _, .nil, h2 => h2
  | _, _, _, _, .cons h t, h2 => .cons h (tups_app t h2)
/-- the items of a display of pairs of texts -/
def tDue : List (Str × Str) → TA
  | [] => tNil
  | d :: r => tCons (tTup (tCons (tC (.str d.1)) (tCons (tC (.str d.2)) tNil))) (tDue r)
theorem due_tells {σ : L2.St} : ∀ (ds : List (Str × Str)) {H : Hp} {Q : List V → Hp → Prop}, (∀ vs H', Same H H' → Paired (TupE H') vs ds → Q vs H') → tDue ds σ H Q
  | [], H, Q, k => k [] H (Same.refl H) .nil
  | d :: r, H, Q, k => ⟨by rw [sizeLine_eq]; show 2 ≤ 16777216; decide, fun p np => due_tells r fun vs H' s pv => k _ H' ((same_upd np).trans s) (.cons ⟨p, rfl, s _ _ upd_same⟩ pv)⟩
/-- what the law's refusals rest on -/
structure RfK (P : Program) (w : World) (K : PySem.W.Frag) (mg : Str → Option Value) (base : Heap) (CS CM CP CB C BR BB BC BP BN SE gH : Addr) (fdH : FuncData) : Prop where
  FK : FoK P w K mg base CS CM CP CB C BR BB BC BN
  H : HearK K mg SE BB BC BP BN gH fdH
  PK : PairK P w K mg base CP CB C BB BP
  SK : ScaK P w K mg base CS C
  Od : OddF K CP CS CB
  Y : TyK K CP
  YS : TyK K CS
  comp : ∃ (f : Addr) (fd : FuncData), FnOk P w K mg base (L2.CX P w) 17 f fd ["one", "kind", "other"] (spCompd K CM CP CB C BB BC) ∧ Binds K fd ["one", "kind", "other"] [] ∧ BindsK fd ["one", "kind", "other"] ∧ PySem.W.keepIn K (.ref f) = true ∧ mg "compared" = some (.ref f)
  pick : ∃ (f : Addr) (fd : FuncData), FnOk P w K mg base CX0 2 f fd ["_law_reel_here", "_law_some"] spOf ∧ Binds K fd ["_law_reel_here", "_law_some"] [] ∧ PySem.W.keepIn K (.ref f) = true ∧ mg "_law_pick" = some (.ref f)
def spRf (CP CB C : Addr) (T : List (Addr × Str)) : Sp := fun vs H Q _ => ∃ (t b p c : Addr) (cells : List Int) (i g : Int) (v u : Str → Rat) (zs ys : List Str) (B cb Bp cp : Nat), vs = [.ref t, .ref b, .ref p] ∧ Till H t c cells i g ∧ 0 ≤ i ∧ i ≤ 900000 ∧ 0 ≤ g ∧
  BX H b CB C v zs B cb ∧ B ≤ 100 ∧ cb ≤ 10 ∧ zs.length ≤ 4 ∧ zs ≠ [] ∧ PairAt H p CP CB C u ys Bp cp ∧ Bp ≤ 200 ∧ cp ≤ 10 ∧ ys.length ≤ 4 ∧ ys ≠ [] ∧ LeastV u u ys ∧ upV u ys = u ∧ Tabs T H ∧ ∀ H', Q (.bl true) H'
section
variable {P : Program} {w : World} {K : PySem.W.Frag} {mg : Str → Option Value} {base : Heap} {C BR CB BB BP BC BN CP CM CS SE gH PT : Addr} {fdH : FuncData}
abbrev nsRf : List Str := ["_law_reel_here", "_law_balance", "_law_pair", "_law_odd", "_law_kind", "_law_outcome", "_law_none", "_law_heard_here", "_law_due"]
theorem scRf : FnScope nsRf ["_law_reel_here", "_law_balance", "_law_pair"] (defScope (top 93)) := ⟨rfl, rfl, rfl, by decide +kernel, rfl, by decide +kernel, by decide +kernel⟩
theorem ok_refused {f : Addr} {fd : FuncData} {T : List (Addr × Str)} (F : FnP K "_law_refused" (top 93) f fd) (Z : RfK P w K mg base CS CM CP CB C BR BB BC BP BN SE gH fdH) (TB : TabB base mg (He.codeOf K ("_law_refused", none)) PT) (fx : He.fAd K ("_law_refused", none) = f)
    (hmT : (PT, lamQ "_law_refused") ∈ T) (hu : ∀ p ∈ T, p.1 = PT → p.2 = lamQ "_law_refused") : FnOk P w K mg base CX0 20 f fd ["_law_reel_here", "_law_balance", "_law_pair"] (spRf CP CB C T) := by
  have M := Z.FK.Z.M
  have W := M.W
  have O := W.O
  have B' := W.O.B
  have CK := M.CK
  have TP := Z.FK.Z.TP
  obtain ⟨fC, fdC, GC, bC, _, kC, gC⟩ := Z.comp
  obtain ⟨fP, fdP, GP, bP, kP, gP⟩ := Z.pick
  obtain ⟨fA, fdA, MA, GA, bA, bAK⟩ := Z.FK.Z.asR
  obtain ⟨fM, fdM, MM, GM, bM⟩ := W.mul
  obtain ⟨fMC, MMC⟩ := W.mulC
  obtain ⟨fS, fdS, MS, GS, bS⟩ := W.sub2
  refine okC F scRf (fun vs H Q E h => ?_) (fun c hcd A outer s H vs Q E hr h => ?_)
  · obtain ⟨t, b, p, c, cells, i, g, v, u, zs, ys, B, cb, Bp, cp, rfl, _⟩ := h
    rfl
  · obtain ⟨t, b, p, cs, cells, i, g, v, u, zs, ys, B, cb, Bp, cp, rfl, hT, hi0, hi1, hg, hb, hB, hcb, l4, zn, hp, hBp, hcp, ly, yn, LV, up, hTb, k⟩ := h
    obtain rfl := hcd _ fx
    have hr19 : Room 19 _ := hr
    have hr11 : Room 11 _ := hr19.mono (by decide)
    have hr9 : Room 9 _ := hr19.mono (by decide)
    have hr2 : Room 2 _ := hr19.mono (by decide)
    have hu64 : (A.deeper (envOfC (Str.ofString "_law_refused") (defScope (top 93)) s.heap.objs.size f (.ref (He.codeOf K ("_law_refused", none))))).units + 64 < cLine := by have := hr19.units; omega
    refine ⟨_, PSs.nox (pss_cons (ps_asg (pe_tup (pa_cons (pe_call GP hr2 rfl gP kP bP .nil pass0 (pa_cons (pv 0) (pa_cons (pe_lst (pa_cons pe_non (pa_cons pe_int (pa_cons pe_str (pa_cons (pe_disp (pps_cons pe_str pe_int pps_nil) rfl rfl (by decide) (by decide)) (pa_cons (pv 2) (pa_cons (pe_sca Z.SK hr9 (E := E0) passL rfl (pa_cons (pe_disp (pps_cons pe_str pe_int pps_nil) rfl rfl (by decide) (by decide)) pa_nil)) pa_nil))))))) pa_nil))) (pa_cons (pe_call GP hr2 rfl gP kP bP .nil pass0 (pa_cons (pv 0) (pa_cons (pe_lst (pa_cons pe_non (pa_cons pe_str (pa_cons pe_str (pa_cons pe_str (pa_cons pe_int (pa_cons pe_str (pa_cons (pe_lst (pa_cons pe_str pa_nil)) (pa_cons pe_bl (pa_cons pe_str pa_nil)))))))))) pa_nil))) pa_nil))) (pg_tup rfl (pgs_cons (pg_name (i := 3) scRf.nd rfl (.inr rfl)) (pgs_cons (pg_name (i := 4) scRf.nd rfl (.inr rfl)) pgs_nil))))
      (pss_cons (ps_asg (pe_tup (pa_cons (pe_call GP hr2 rfl gP kP bP .nil pass0 (pa_cons (pv 0) (pa_cons (pe_lst (pa_cons pe_int (pa_cons (pe_un un_neg pe_int) (pa_cons pe_non (pa_cons pe_str (pa_cons pe_bl (pa_cons pe_bl (pa_cons (pe_tup (pa_cons pe_int pa_nil)) (pa_cons (pe_lst (pa_cons pe_int pa_nil)) pa_nil))))))))) pa_nil))) (pa_cons (pe_op (op_ownC (op := .Sub) MS W.sfB GS hr11 bS (E := E0) passL) (pv 1) (pv 1)) pa_nil))) (pg_tup rfl (pgs_cons (pg_name (i := 5) scRf.nd rfl (.inr rfl)) (pgs_cons (pg_name (i := 6) scRf.nd rfl (.inr rfl)) pgs_nil))))
      (pss_cons (ps_set (i := 7) scRf.nd rfl (.inl rfl) (pe_lst (pa_cons (pe_heard (k := 17) Z.H TB rfl hmT hu hr19 rfl (lamS_by (sc := defScope (top 93)) (by decide +kernel)) rfl (fun _ _ _ _ _ => rfl) (fun A outer s H E f c' hr17 => pe_compK CK (hr17.mono (by decide)) (E := E) (passE (takes_of rfl rfl rfl rfl)) rfl (pa_cons (pv 3) (pa_cons (pv 4) pa_nil)))) pa_nil)))
      (pss_cons (ps_expr (pe_bm PySem.F.plainAttrs_list PySem.F.slot_list_append PySem.F.type_list_append mt_append (pv 7) (pa_cons (pe_heard (k := 17) Z.H TB rfl hmT hu hr19 rfl (lamS_by (sc := defScope (top 93)) (by decide +kernel)) rfl (fun _ _ _ _ _ => rfl) (fun A outer s H E f c' hr17 => pe_compK CK (hr17.mono (by decide)) (E := E) (passE (takes_of rfl rfl rfl rfl)) rfl (pa_cons (pv 6) (pa_cons (pv 4) pa_nil)))) pa_nil)))
      (pss_cons (ps_expr (pe_bm PySem.F.plainAttrs_list PySem.F.slot_list_append PySem.F.type_list_append mt_append (pv 7) (pa_cons (pe_heard (k := 17) Z.H TB rfl hmT hu hr19 rfl (lamS_by (sc := defScope (top 93)) (by decide +kernel)) rfl (fun _ _ _ _ _ => rfl) (fun A outer s H E f c' hr17 => pe_compK CK (hr17.mono (by decide)) (E := E) (passE (takes_of rfl rfl rfl rfl)) rfl (pa_cons (pv 1) (pa_cons (pv 4) pa_nil)))) pa_nil)))
      (pss_cons (ps_expr (pe_bm PySem.F.plainAttrs_list PySem.F.slot_list_append PySem.F.type_list_append mt_append (pv 7) (pa_cons (pe_heard (k := 17) Z.H TB rfl hmT hu hr19 rfl (lamS_by (sc := defScope (top 93)) (by decide +kernel)) rfl (fun _ _ _ _ _ => rfl) (fun A outer s H E f c' hr17 => pe_pairK Z.PK (hr17.mono (by decide)) (E := E) (passE (takes_of rfl rfl rfl rfl)) rfl (pa_cons (pv 3) pa_nil))) pa_nil)))
      (pss_cons (ps_expr (pe_bm PySem.F.plainAttrs_list PySem.F.slot_list_append PySem.F.type_list_append mt_append (pv 7) (pa_cons (pe_heard (k := 17) Z.H TB rfl hmT hu hr19 rfl (lamS_by (sc := defScope (top 93)) (by decide +kernel)) rfl (fun _ _ _ _ _ => rfl) (fun A outer s H E f c' hr17 => pe_pairK Z.PK (hr17.mono (by decide)) (E := E) (passE (takes_of rfl rfl rfl rfl)) rfl (pa_cons (pv 6) pa_nil))) pa_nil)))
      (pss_cons (ps_expr (pe_bm PySem.F.plainAttrs_list PySem.F.slot_list_append PySem.F.type_list_append mt_append (pv 7) (pa_cons (pe_heard (k := 17) Z.H TB rfl hmT hu hr19 rfl (lamS_by (sc := defScope (top 93)) (by decide +kernel)) rfl (fun _ _ _ _ _ => rfl) (fun A outer s H E f c' hr17 => pe_call GC hr17 rfl gC kC bC .nil (E := E) (passE (takes_of rfl rfl rfl rfl)) (pa_cons (pv 3) (pa_cons (pv 4) (pa_cons (pv 3) pa_nil))))) pa_nil)))
      (pss_cons (ps_expr (pe_bm PySem.F.plainAttrs_list PySem.F.slot_list_append PySem.F.type_list_append mt_append (pv 7) (pa_cons (pe_heard (k := 17) Z.H TB rfl hmT hu hr19 rfl (lamS_by (sc := defScope (top 93)) (by decide +kernel)) rfl (fun _ _ _ _ _ => rfl) (fun A outer s H E f c' hr17 => pe_call GC hr17 rfl gC kC bC .nil (E := E) (passE (takes_of rfl rfl rfl rfl)) (pa_cons (pv 1) (pa_cons (pv 4) (pa_cons (pv 3) pa_nil))))) pa_nil)))
      (pss_cons (ps_expr (pe_bm PySem.F.plainAttrs_list PySem.F.slot_list_append PySem.F.type_list_append mt_append (pv 7) (pa_cons (pe_heard (k := 17) Z.H TB rfl hmT hu hr19 rfl (lamS_by (sc := defScope (top 93)) (by decide +kernel)) rfl (fun _ _ _ _ _ => rfl) (fun A outer s H E f c' hr17 => pe_call GC hr17 rfl gC kC bC .nil (E := E) (passE (takes_of rfl rfl rfl rfl)) (pa_cons (pv 1) (pa_cons pe_str (pa_cons (pv 3) pa_nil))))) pa_nil)))
      (pss_cons (ps_expr (pe_bm PySem.F.plainAttrs_list PySem.F.slot_list_append PySem.F.type_list_append mt_append (pv 7) (pa_cons (pe_heard (k := 17) Z.H TB rfl hmT hu hr19 rfl (lamS_by (sc := defScope (top 93)) (by decide +kernel)) rfl (fun _ _ _ _ _ => rfl) (fun A outer s H E f c' hr17 => pe_call GC hr17 rfl gC kC bC .nil (E := E) (passE (takes_of rfl rfl rfl rfl)) (pa_cons (pv 1) (pa_cons pe_str (pa_cons (pe_op (op_ownN (op := .Mult) MM W.sfB W.rmB MMC O.sf W.rmC (Ne.symm B'.n) W.sub W.rt GM (hr17.mono (by decide)) bM (E := E0) passL) (pv 1) pe_int) pa_nil))))) pa_nil)))
      (pss_cons (ps_expr (pe_bm PySem.F.plainAttrs_list PySem.F.slot_list_append PySem.F.type_list_append mt_append (pv 7) (pa_cons (pe_heard (k := 17) Z.H TB rfl hmT hu hr19 rfl (lamS_by (sc := defScope (top 93)) (by decide +kernel)) rfl (fun _ _ _ _ _ => rfl) (fun A outer s H E f c' hr17 => pe_meth (pv 2) TP.cls MA GA hr17 bA .nil (E := E) (passE (takes_of rfl rfl rfl rfl)) (pa_cons (pv 5) pa_nil))) pa_nil)))
      (pss_cons (ps_set (i := 8) scRf.nd rfl (.inl rfl) (pe_lst (pa_cons (pe_tup (pa_cons pe_str (pa_cons pe_str pa_nil))) (pa_cons (pe_tup (pa_cons pe_str (pa_cons pe_str pa_nil))) (pa_cons (pe_tup (pa_cons pe_str (pa_cons pe_str pa_nil))) (pa_cons (pe_tup (pa_cons pe_str (pa_cons pe_str pa_nil))) (pa_cons (pe_tup (pa_cons pe_str (pa_cons pe_str pa_nil))) pa_nil)))))))
      (pss_cons (ps_set (i := 8) scRf.nd rfl (.inl rfl) (pe_op op_cat (pv 8) (pe_lst (pa_cons (pe_tup (pa_cons pe_str (pa_cons pe_str pa_nil))) (pa_cons (pe_tup (pa_cons pe_str (pa_cons pe_str pa_nil))) (pa_cons (pe_tup (pa_cons pe_str (pa_cons pe_str pa_nil))) (pa_cons (pe_tup (pa_cons pe_str (pa_cons pe_str pa_nil))) (pa_cons (pe_tup (pa_cons pe_str (pa_cons pe_str pa_nil))) pa_nil))))))))
      (pss_one (ps_ret (pe_cmpR (op_eqD hu64) (pv 7) (pv 8) (nomark _)))))))))))))))))), ?_⟩
    have sdisp : ∀ {Hx : Hp} {d : Addr} {o o' : HO}, Hx d = none → Same Hx (upd (upd Hx d o) d o') := fun n b u e => by rw [upd_ne (ne_of_none e n), upd_ne (ne_of_none e n)]; exact e
    have nsA : NsOk [Str.ofString "a"] := ⟨by decide, by decide, fun n mn => by
      rw [List.mem_singleton] at mn
      subst mn
      exact ⟨by decide, by decide +kernel⟩⟩
    -- what is drawn
    refine ⟨_, rfl, fun d1 nd1 => ⟨upd_same, [(.inr (Str.ofString "a"), .int 1)], rfl, by decide, ?_⟩⟩
    have q1 := sdisp (o := .dK []) (o' := .dK (mergeK [] [(.inr (Str.ofString "a"), V.int 1)])) nd1
    have e1 : (upd (upd H d1 (.dK [])) d1 (.dK (mergeK [] [(.inr (Str.ofString "a"), V.int 1)]))) d1 = some (.dK [(.inr (Str.ofString "a"), V.int 1)]) := upd_same
    generalize upd (upd H d1 (.dK [])) d1 (.dK (mergeK [] [(.inr (Str.ofString "a"), V.int 1)])) = H1 at q1 e1 ⊢
    refine ⟨_, rfl, fun d2 nd2 => ⟨upd_same, [(.inr (Str.ofString "a"), .int 1)], rfl, by decide, ?_⟩⟩
    have q2 := sdisp (o := .dK []) (o' := .dK (mergeK [] [(.inr (Str.ofString "a"), V.int 1)])) nd2
    have e2 : (upd (upd H1 d2 (.dK [])) d2 (.dK (mergeK [] [(.inr (Str.ofString "a"), V.int 1)]))) d2 = some (.dK [(.inr (Str.ofString "a"), V.int 1)]) := upd_same
    generalize upd (upd H1 d2 (.dK [])) d2 (.dK (mergeK [] [(.inr (Str.ofString "a"), V.int 1)])) = H2 at q2 e2 ⊢
    refine nilI ⟨_, rfl, d2, _, [Str.ofString "a"], fun _ => (1, 1), rfl, e2, .cons ⟨rfl, .inr ⟨rfl, rfl, Nat.lt_of_lt_of_le (show (1 : Int).natAbs < 2 ^ 1 by decide) (Nat.pow_le_pow_right (by decide) (by decide))⟩⟩ .nil, nsA, fun ya pya sya sc H3 s3 nsc hS => nilI ⟨by rw [sizeLine_eq]; show 6 ≤ 16777216; decide, fun l1 nl1 => ?_⟩⟩
    have q3 := same_upd (o := .lst [.non, .int 5, .str (Str.ofString "a"), .ref d1, .ref p, .ref sc]) nl1
    have e3 : (upd H3 l1 (.lst [.non, .int 5, .str (Str.ofString "a"), .ref d1, .ref p, .ref sc])) l1 = some (.lst [.non, .int 5, .str (Str.ofString "a"), .ref d1, .ref p, .ref sc]) := upd_same
    have hSi := hS.ins
    have nlt : l1 ≠ t := fun z => by rw [z, (s3 _ _ (q2 _ _ (q1 _ _ hT.ht)))] at nl1; cases nl1
    have sA := q1.trans (q2.trans (s3.trans q3))
    have ed1 := q3 _ _ (s3 _ _ (q2 _ _ e1))
    have hSi3 : InsAt (upd H3 l1 (.lst [.non, .int 5, .str (Str.ofString "a"), .ref d1, .ref p, .ref sc])) sc CS := let ⟨dx, fs, e⟩ := hSi; ⟨dx, fs, q3 _ _ e⟩
    generalize upd H3 l1 (.lst [.non, .int 5, .str (Str.ofString "a"), .ref d1, .ref p, .ref sc]) = H4 at q3 e3 sA ed1 hSi3 ⊢
    clear q1 q2 s3 q3 e1 e2 hS hSi nl1 nsc nd1 nd2
    refine nilI ⟨t, cs, l1, cells, i, g, _, rfl, hT.same sA, hi0, by omega, hg, nlt, e3, by show 0 < 6; decide, by show 6 ≤ 10000; decide, fun x i1 g1 H5 hx i10 i11 g10 k1 T1 => ?_⟩
    have ox : OddK CP CS H5 x := by
      simp only [List.mem_cons, List.not_mem_nil, or_false] at hx
      have ne : ∀ {b : Addr} {o : HO}, H4 b = some o → (∀ xs, o ≠ .lst xs) → H5 b = some o := fun {b o} e n => k1 _ _ (fun z => by rw [z, (hT.same sA).ht] at e; injection e with e; exact n _ e.symm) e
      rcases hx with rfl | rfl | rfl | rfl | rfl | rfl
      · exact .non
      · exact .int _
      · exact .str _
      · exact .dK (ne ed1 fun _ z => by cases z)
      · obtain ⟨dx, fs, e⟩ := (hp.same sA).ins
        exact .pr ⟨dx, fs, ne e fun _ z => by cases z⟩
      · obtain ⟨dx, fs, e⟩ := hSi3
        exact .sc ⟨dx, fs, ne e fun _ z => by cases z⟩
    have kA : Keep t H H5 := (Same.keep sA).trans k1
    clear hx ed1 hSi3 e3 nlt k1 sA
    refine ⟨_, rfl, by rw [sizeLine_eq]; show 1 ≤ 16777216; decide, fun z1 nz1 => ?_⟩
    have q1 := same_upd (o := .lst [V.str (Str.ofString ">")]) nz1
    have e1 : (upd H5 z1 (.lst [V.str (Str.ofString ">")])) z1 = some (.lst [V.str (Str.ofString ">")]) := upd_same
    generalize upd H5 z1 (.lst [V.str (Str.ofString ">")]) = H6 at q1 e1 ⊢
    refine ⟨by rw [sizeLine_eq]; show 9 ≤ 16777216; decide, fun l2 nl2 => ?_⟩
    have q2 := same_upd (o := .lst [.non, .str (Str.ofString "<"), .str (Str.ofString "=="), .str (Str.ofString ""), .int 5, .str (Str.ofString ">=>"), .ref z1, .bl true, .str (Str.ofString "> ")]) nl2
    have e2 : (upd H6 l2 (.lst [.non, .str (Str.ofString "<"), .str (Str.ofString "=="), .str (Str.ofString ""), .int 5, .str (Str.ofString ">=>"), .ref z1, .bl true, .str (Str.ofString "> ")])) l2 = some (.lst [.non, .str (Str.ofString "<"), .str (Str.ofString "=="), .str (Str.ofString ""), .int 5, .str (Str.ofString ">=>"), .ref z1, .bl true, .str (Str.ofString "> ")]) := upd_same
    have nlt : l2 ≠ t := fun z => by rw [z, (q1 _ _ T1.ht)] at nl2; cases nl2
    have nz1t : z1 ≠ t := fun z => by rw [z, T1.ht] at nz1; cases nz1
    have sA := q1.trans q2
    have ez1 := q2 _ _ e1
    generalize upd H6 l2 (.lst [.non, .str (Str.ofString "<"), .str (Str.ofString "=="), .str (Str.ofString ""), .int 5, .str (Str.ofString ">=>"), .ref z1, .bl true, .str (Str.ofString "> ")]) = H7 at q2 e2 sA ez1 ⊢
    have ox := ox.extN (extN_same sA)
    have kA := kA.same sA
    clear q1 q2 e1 nl2 nz1
    refine nilI ⟨t, cs, l2, cells, i1, g1, _, rfl, T1.same sA, i10, by omega, g10, nlt, e2, by show 0 < 9; decide, by show 9 ≤ 10000; decide, fun y i2 g2 H8 hy i20 i21 g20 k2 T2 => ?_⟩
    have oy : OddN H8 y := by
      simp only [List.mem_cons, List.not_mem_nil, or_false] at hy
      rcases hy with rfl | rfl | rfl | rfl | rfl | rfl | rfl | rfl | rfl
      · exact .non
      · exact .str _ (by decide)
      · exact .str _ (by decide)
      · exact .str _ (by decide)
      · exact .int _
      · exact .str _ (by decide)
      · exact .lst (k2 _ _ nz1t ez1)
      · exact .bl _
      · exact .str _ (by decide)
    have ny : ∀ a, y = V.ref a → a ≠ t := by
      simp only [List.mem_cons, List.not_mem_nil, or_false] at hy
      intro a e
      rcases hy with rfl | rfl | rfl | rfl | rfl | rfl | rfl | rfl | rfl <;> first | cases e | skip
      exact nz1t
    have ox : OddK CP CS H8 x := by
      have ne : ∀ {b : Addr} {o : HO}, H7 b = some o → (∀ xs, o ≠ .lst xs) → H8 b = some o := fun {b o} e n => k2 _ _ (fun z => by rw [z, (T1.same sA).ht] at e; injection e with e; exact n _ e.symm) e
      cases ox with
      | non => exact .non
      | int i => exact .int i
      | str x => exact .str x
      | dK e => exact .dK (ne e fun _ z => by cases z)
      | pr e =>
        obtain ⟨dx, fs, e⟩ := e
        exact .pr ⟨dx, fs, ne e fun _ z => by cases z⟩
      | sc e =>
        obtain ⟨dx, fs, e⟩ := e
        exact .sc ⟨dx, fs, ne e fun _ z => by cases z⟩
    have kA : Keep t H H8 := kA.trans k2
    clear hy ez1 nz1t e2 nlt k2 sA
    refine nilI ⟨by rw [sizeLine_eq]; show 2 ≤ 16777216; decide, fun p0 n0 => ⟨p0, _, rfl, SqT.of upd_same, rfl, _, _, rfl, _, _, rfl, rfl, ?_⟩⟩
    have q0 := same_upd (o := .tup [x, y]) n0
    generalize upd H8 p0 (.tup [x, y]) = H9 at q0 ⊢
    have ox := ox.extN (extN_same q0)
    have oy := oy.extN (extN_same q0)
    have kA := kA.same q0
    have T2 := T2.same q0
    dsimp only [gName, tNext, tSeq, tAsg]
    refine ⟨_, rfl, _, rfl, by rw [sizeLine_eq]; show 1 ≤ 16777216; decide, fun z1 nz1 => ?_⟩
    have q1 := same_upd (o := .tup [V.int 1]) nz1
    have e1 : (upd H9 z1 (.tup [V.int 1])) z1 = some (.tup [V.int 1]) := upd_same
    generalize upd H9 z1 (.tup [V.int 1]) = H10 at q1 e1 ⊢
    refine ⟨by rw [sizeLine_eq]; show 1 ≤ 16777216; decide, fun z2 nz2 => ?_⟩
    have q2 := same_upd (o := .lst [V.int 0]) nz2
    have e2 : (upd H10 z2 (.lst [V.int 0])) z2 = some (.lst [V.int 0]) := upd_same
    generalize upd H10 z2 (.lst [V.int 0]) = H11 at q2 e2 ⊢
    refine ⟨by rw [sizeLine_eq]; show 8 ≤ 16777216; decide, fun l3 nl3 => ?_⟩
    have q3 := same_upd (o := .lst [.int 2, .int (-2), .non, .str (Str.ofString "1"), .bl true, .bl false, .ref z1, .ref z2]) nl3
    have e3 : (upd H11 l3 (.lst [.int 2, .int (-2), .non, .str (Str.ofString "1"), .bl true, .bl false, .ref z1, .ref z2])) l3 = some (.lst [.int 2, .int (-2), .non, .str (Str.ofString "1"), .bl true, .bl false, .ref z1, .ref z2]) := upd_same
    have nlt : l3 ≠ t := fun z => by rw [z, (q2 _ _ (q1 _ _ T2.ht))] at nl3; cases nl3
    have nz1t : z1 ≠ t := fun z => by rw [z, T2.ht] at nz1; cases nz1
    have nz2t : z2 ≠ t := fun z => by rw [z, (q1 _ _ T2.ht)] at nz2; cases nz2
    have sA := q1.trans (q2.trans q3)
    have ez1 := q3 _ _ (q2 _ _ e1)
    have ez2 := q3 _ _ e2
    generalize upd H11 l3 (.lst [.int 2, .int (-2), .non, .str (Str.ofString "1"), .bl true, .bl false, .ref z1, .ref z2]) = H12 at q3 e3 sA ez1 ez2 ⊢
    have ox := ox.extN (extN_same sA)
    have oy := oy.extN (extN_same sA)
    have kA := kA.same sA
    have T3 := T2.same sA
    clear q1 q2 q3 e1 e2 nl3 nz1 nz2 q0 n0 sA
    refine nilI ⟨t, cs, l3, cells, i2, g2, _, rfl, T3, i20, by omega, g20, nlt, e3, by show 0 < 8; decide, by show 8 ≤ 10000; decide, fun y2 i3 g3 H13 hy2 i30 i31 g30 k3 T4 => ?_⟩
    have oy2 : OddO H13 y2 := by
      simp only [List.mem_cons, List.not_mem_nil, or_false] at hy2
      rcases hy2 with rfl | rfl | rfl | rfl | rfl | rfl | rfl | rfl
      · exact .inr ⟨2, rfl, by decide⟩
      · exact .inr ⟨-2, rfl, by decide⟩
      · exact .inl ⟨_, .non⟩
      · exact .inl ⟨_, .str _⟩
      · exact .inl ⟨_, .bl _⟩
      · exact .inl ⟨_, .bl _⟩
      · exact .inl ⟨_, .tup (k3 _ _ nz1t ez1)⟩
      · exact .inl ⟨_, .lst (k3 _ _ nz2t ez2)⟩
    have ne3 : ∀ {b : Addr} {o : HO}, H12 b = some o → (∀ xs, o ≠ .lst xs) → H13 b = some o := fun {b o} e n => k3 _ _ (fun z => by rw [z, T3.ht] at e; injection e with e; exact n _ e.symm) e
    have ox : OddK CP CS H13 x := by
      cases ox with
      | non => exact .non
      | int i => exact .int i
      | str x => exact .str x
      | dK e => exact .dK (ne3 e fun _ z => by cases z)
      | pr e =>
        obtain ⟨dx, fs, e⟩ := e
        exact .pr ⟨dx, fs, ne3 e fun _ z => by cases z⟩
      | sc e =>
        obtain ⟨dx, fs, e⟩ := e
        exact .sc ⟨dx, fs, ne3 e fun _ z => by cases z⟩
    have oy : OddN H13 y := by
      cases oy with
      | non => exact .non
      | bl b => exact .bl b
      | int i => exact .int i
      | str x e => exact .str x e
      | lst e => exact .lst (k3 _ _ (ny _ rfl) e)
    have kA : Keep t H H13 := kA.trans k3
    clear hy2 ez1 ez2 nz1t nz2t e3 nlt k3 T3 ne3 T1 T2
    have hb3 : BX H13 b CB C v zs B cb := hb.keep hT kA
    have hp3 : PairAt H13 p CP CB C u ys Bp cp := by
      obtain ⟨dx, pb, pf, ps, tp, zf, zl, h1, h2, h3, h4⟩ := hp
      exact ⟨dx, pb, pf, ps, tp, zf, zl, kA _ _ (fun z => by rw [z, hT.ht] at h1; cases h1) h1, h2.keep hT kA, h3.keep hT kA, h4.keep hT kA⟩
    have hTb3 : Tabs T H13 := fun q hq => by
      have ne : ∀ {b : Addr} {u : HO}, H b = some u → (∀ xs, u ≠ .lst xs) → b ≠ t := fun {b u} e n z => by
        rw [z, hT.ht] at e
        injection e with e
        exact n _ e.symm
      obtain ⟨ps, h1, h2, h3⟩ := hTb q hq
      refine ⟨ps, kA _ _ (ne h1 fun _ z => by cases z) h1, h2, fun pos cv hc => ?_⟩
      obtain ⟨c, e1, e2⟩ := h3 pos cv hc
      exact ⟨c, e1, kA _ _ (ne e2 fun _ z => by unfold CodeO at z; cases z) e2⟩
    clear hTb hb hp kA T4 hT
    refine ⟨_, rfl, _, rfl, b, b, rfl, rfl, hb3.ins, hb3.ins, hb3.sum hb3 ⟨by omega, by omega, by omega, by omega⟩ (by omega) (.inr rfl) fun d zd H14 s14 _ hd => ?_⟩
    have z0 : zd = [] := Classical.byContradiction fun z => by
      obtain ⟨n, e⟩ := hd.some.mp z
      have : ((-1 : Int) : Rat) = -1 := rfl
      exact e (by rw [this]; grind)
    subst z0
    refine nilI ⟨by rw [sizeLine_eq]; show 2 ≤ 16777216; decide, fun p0 n0 => ⟨p0, _, rfl, SqT.of upd_same, rfl, _, _, rfl, _, _, rfl, rfl, ?_⟩⟩
    have q0 := same_upd (o := .tup [y2, V.ref d]) n0
    generalize upd H14 p0 (.tup [y2, V.ref d]) = H15 at q0 ⊢
    have s5 := s14.trans q0
    have ox := ox.extN (extN_same s5)
    have oy := oy.extN (extN_same s5)
    have oy2 := oy2.extN (extN_same s5)
    have hb := hb3.same s5
    have hp := hp3.same s5
    have hd := hd.same q0
    have hTb := tabs_same hTb3 s5
    clear s14 q0 s5 n0 hb3 hp3 hTb3
    dsimp only [gName, tNext, tSeq, tAsg]
    -- what is heard
    refine heard_first (d := "balance") Z.H.e1 hTb (fun H1 E Q' e rz => ?_) fun L H16 h16 => ?_
    · exact ⟨_, rfl, _, rfl, _, _, rfl, .inr (.inl ⟨(ox.extN e).noB Z.Od Z.Y Z.YS, rz⟩)⟩
    have look : ∀ {ds : List (Str × Str)} {H : Hp}, HeardL T H15 L ds H → ∃ vs, H L = some (.lst vs) := fun h => let ⟨_, _, _, vs, e, _⟩ := h; ⟨vs, e⟩
    obtain ⟨v6, e6⟩ := look h16
    refine ⟨_, rfl, .inl ⟨rfl, _, SqL.of e6⟩, heard_app (d := "balance") Z.H.e2 h16 (by decide) (fun H1 E Q' e rz => ?_) fun H17 h17 => ?_⟩
    · exact ⟨_, rfl, _, rfl, _, _, rfl, .inr (.inr (.inl ⟨d, _, _, _, rfl, hd.extN e, rz⟩))⟩
    obtain ⟨v7, e7⟩ := look h17
    refine ⟨_, rfl, .inl ⟨rfl, _, SqL.of e7⟩, heard_app (d := "kind") Z.H.e2 h17 (by decide) (fun H1 E Q' e rz => ?_) fun H18 h18 => ?_⟩
    · exact ⟨_, rfl, _, rfl, _, _, rfl, .inr (.inr (.inr ⟨b, v, zs, _, _, rfl, hb.extN e, zn, (oy.extN e).kn, rz⟩))⟩
    obtain ⟨v8, e8⟩ := look h18
    refine ⟨_, rfl, .inl ⟨rfl, _, SqL.of e8⟩, heard_app (d := "balance") Z.H.e1 h18 (by decide) (fun H1 E Q' e rz => ?_) fun H19 h19 => ?_⟩
    · exact ⟨_, rfl, _, rfl, .inr (.inl ⟨(ox.extN e).noB Z.Od Z.Y Z.YS, rz⟩)⟩
    obtain ⟨v9, e9⟩ := look h19
    refine ⟨_, rfl, .inl ⟨rfl, _, SqL.of e9⟩, heard_app (d := "balance") Z.H.e3 h19 (by decide) (fun H1 E Q' e rz => ?_) fun H20 h20 => ?_⟩
    · exact ⟨_, rfl, _, rfl, .inr (.inr ⟨d, _, _, _, rfl, hd.extN e, rz⟩)⟩
    obtain ⟨v10, e10⟩ := look h20
    refine ⟨_, rfl, .inl ⟨rfl, _, SqL.of e10⟩, heard_app (d := "one") Z.H.e1 h20 (by decide) (fun H1 E Q' e rz => ?_) fun H21 h21 => ?_⟩
    · exact ⟨_, rfl, _, rfl, _, rfl, _, _, _, rfl, .inr (.inl ⟨(ox.extN e).noB Z.Od Z.Y Z.YS, rz⟩)⟩
    obtain ⟨v11, e11⟩ := look h21
    refine ⟨_, rfl, .inl ⟨rfl, _, SqL.of e11⟩, heard_app (d := "kind") Z.H.e2 h21 (by decide) (fun H1 E Q' e rz => ?_) fun H22 h22 => ?_⟩
    · exact ⟨_, rfl, _, rfl, _, rfl, _, _, _, rfl, .inr (.inr (.inl ⟨b, v, zs, _, _, rfl, hb.extN e, (oy.extN e).kn, rz⟩))⟩
    obtain ⟨v12, e12⟩ := look h22
    refine ⟨_, rfl, .inl ⟨rfl, _, SqL.of e12⟩, heard_app (d := "other") Z.H.e1 h22 (by decide) (fun H1 E Q' e rz => ?_) fun H23 h23 => ?_⟩
    · exact ⟨_, rfl, _, rfl, _, _, _, rfl, .inr (.inr (.inr (.inl ⟨b, v, zs, _, _, rfl, hb.extN e, KnIs.kd .gt, (ox.extN e).noB Z.Od Z.Y Z.YS, rz⟩)))⟩
    obtain ⟨v13, e13⟩ := look h23
    refine ⟨_, rfl, .inl ⟨rfl, _, SqL.of e13⟩, heard_app (d := "balance") Z.H.e2 h23 (by decide) (fun H1 E Q' e rz => ?_) fun H24 h24 => ?_⟩
    · have hb1 := hb.extN e
      refine ⟨_, rfl, _, rfl, b, rfl, hb1.ins, .inr ⟨1, rfl⟩, _, _, rfl, hb1.times (r := (1, 1)) (i := 1) (j := 1) ⟨by omega, by omega⟩ (.inr ⟨rfl, rfl, ?_⟩) ⟨by decide, by decide⟩ ⟨by decide, by decide⟩ (show (1 : Int) ≠ 0 by decide) fun b2 zs2 H2 s2 ll2 _ hb2 => nilI ⟨_, _, _, rfl, .inr (.inr (.inr (.inr ⟨b, b2, .ge, v, _, zs, zs2, B, cb, _, _, rfl, rfl, rfl, hb1.same s2, hb2, by omega, by omega, by omega, by omega, by omega, fun n => ?_, Rz.same rz s2⟩)))⟩⟩
      · exact Nat.lt_of_lt_of_le (show (1 : Int).natAbs < 2 ^ 1 by decide) (Nat.pow_le_pow_right (by decide) (by decide))
      · have h1 : val (1, 1) = 1 := val_int 1
        have h2 : ((-1 : Int) : Rat) = -1 := rfl
        rw [h1, h2]
        grind
    obtain ⟨v14, e14⟩ := look h24
    obtain ⟨pdx, pb, pf, ps, ptp, pzf, pzl, ph, hpb, _⟩ := id hp
    refine ⟨_, rfl, .inl ⟨rfl, _, SqL.of e14⟩, heard_app (d := "outcome") Z.H.e4 h24 (by decide) (fun H1 E Q' e rz => ?_) fun H25 h25 => ?_⟩
    · refine ⟨_, rfl, p, pdx, _, rfl, e _ _ ph (fun _ z => by cases z), rfl, _, rfl, nilI ⟨p, y2, u, ys, Bp, cp, rfl, hp.extN e, by omega, by omega, ly, yn, LV, up, .inr ⟨?_, rz⟩⟩⟩
      rcases oy2.extN e with ⟨TT, h⟩ | h
      · exact .inl (h.notNum O.odd).2
      · exact .inr h
    obtain ⟨vs, e15⟩ : ∃ vs, H25 L = some (.lst vs) ∧ Paired (TupE H25) vs [("balance", "balance"), ("comparison", "balance"), ("comparison", "kind"), ("balance", "balance"), ("pair", "balance"), ("balance", "one"), ("comparison", "kind"), ("balance", "other"), ("comparison", "balance"), ("number", "outcome")] := by
      obtain ⟨_, _, _, vs, e, pv⟩ := h25
      exact ⟨vs, e, pv⟩
    obtain ⟨e15, p15⟩ := e15
    dsimp only [tNext, tSeq, tAsg, gName]
    refine due_tells [("balance", "balance"), ("comparison", "balance"), ("comparison", "kind"), ("balance", "balance"), ("pair", "balance")] fun v1 H26 s26 pv1 => ⟨by rw [sizeLine_eq]; have := Paired.length pv1; show v1.length ≤ 16777216; simp only [List.length_cons, List.length_nil] at this; omega, fun l5 nl5 => ?_⟩
    have q5 := same_upd (o := .lst v1) nl5
    have el5 : (upd H26 l5 (.lst v1)) l5 = some (.lst v1) := upd_same
    have pv1 := tups_ext (fun v d h => TupE.extN h (extN_same q5)) pv1
    have s27 := s26.trans q5
    generalize upd H26 l5 (.lst v1) = H27 at q5 el5 pv1 s27 ⊢
    refine ⟨_, rfl, due_tells [("balance", "one"), ("comparison", "kind"), ("balance", "other"), ("comparison", "balance"), ("number", "outcome")] fun v2 H28 s28 pv2 => ⟨by rw [sizeLine_eq]; have := Paired.length pv2; show v2.length ≤ 16777216; simp only [List.length_cons, List.length_nil] at this; omega, fun l6 nl6 => ?_⟩⟩
    have q6 := same_upd (o := .lst v2) nl6
    have el6 : (upd H28 l6 (.lst v2)) l6 = some (.lst v2) := upd_same
    have pv2 := tups_ext (fun v d h => TupE.extN h (extN_same q6)) pv2
    have s29 := s28.trans q6
    generalize upd H28 l6 (.lst v2) = H29 at q6 el6 pv2 s29 ⊢
    have ln1 := Paired.length pv1
    have ln2 := Paired.length pv2
    simp only [List.length_cons, List.length_nil] at ln1 ln2
    refine ⟨l5, l6, v1, v2, rfl, rfl, s29 _ _ el5, el6, by rw [sizeLine_eq]; omega, fun l7 nl7 => ?_⟩
    have q7 := same_upd (o := .lst (v1 ++ v2)) nl7
    have el7 : (upd H29 l7 (.lst (v1 ++ v2))) l7 = some (.lst (v1 ++ v2)) := upd_same
    have s30 := s29.trans q7
    have pv3 := tups_ext (fun v d h => TupE.extN h (extN_same q7)) (tups_app (tups_ext (fun v d h => TupE.extN h (extN_same s29)) pv1) pv2)
    have p15' := tups_ext (fun v d h => TupE.extN h (extN_same (s27.trans s30))) p15
    have e15' := (s27.trans s30) _ _ e15
    generalize upd H29 l7 (.lst (v1 ++ v2)) = H30 at el7 pv3 p15' e15' ⊢
    refine ⟨_, rfl, _, rfl, _, _, .lst (SqL.of e15') (dp_tups p15'), .lst (SqL.of el7) (dp_tups pv3), by decide +kernel, by decide +kernel, ?_⟩
    exact k H30
end
end K09
namespace K09
open PySem PySem.Spec PyProof.Rows L2 RatM LamX ClX
theorem LnD.congr {w w' : Str → Int} {kvs : List (Key × V)} {ks : List Str} (h : LnD w kvs ks) (e : ∀ n ∈ ks, w n = w' n) : LnD w' kvs ks := by
  induction h with
  | nil => exact .nil
  | @cons a b l1 l2 x t ih => exact .cons ⟨x.1, by rw [← e b List.mem_cons_self]; exact x.2⟩ (ih fun n m => e n (List.mem_cons_of_mem _ m))
theorem LnD.ints {w : Str → Int} {kvs : List (Key × V)} {ks : List Str} (h : LnD w kvs ks) : IntsD kvs := by
  induction h with
  | nil => intro p m; cases m
  | @cons a b l1 l2 x t ih =>
    intro p m
    rcases List.mem_cons.mp m with e | m
    · rw [e]; exact ⟨_, x.2⟩
    · exact ih p m
theorem LnD.of {w : Str → Int} {kvs : List (Key × V)} {ks : List Str} (h : LnD w kvs ks) {p : Key × V} (m : p ∈ kvs) : ∃ n ∈ ks, p = (.inr n, .int (w n)) := by
  induction h with
  | nil => cases m
  | @cons a b l1 l2 x t ih =>
    rcases List.mem_cons.mp m with e | m
    · exact ⟨b, List.mem_cons_self, by rw [e]; exact Prod.ext x.1 x.2⟩
    · obtain ⟨n, mn, e⟩ := ih m
      exact ⟨n, List.mem_cons_of_mem _ mn, e⟩
theorem LnD.mk {w : Str → Int} {kvs : List (Key × V)} {ks : List Str} (h : LnD w kvs ks) {n : Str} (m : n ∈ ks) : ((.inr n, .int (w n)) : Key × V) ∈ kvs := by
  induction h with
  | nil => cases m
  | @cons a b l1 l2 x t ih =>
    cases m with
    | head => exact List.mem_cons.mpr (.inl (Prod.ext x.1 x.2).symm)
    | tail _ m => exact List.mem_cons_of_mem _ (ih m)
/-- two lines are one dict just if they have the same numbers -/
theorem line_eq {w w2 : Str → Int} {kv kv2 : List (Key × V)} {ks ks2 : List Str} (h : LnD w kv ks) (h2 : LnD w2 kv2 ks2) (nd : ks.Nodup) (nd2 : ks2.Nodup) (z : ∀ n, w n ≠ 0 ↔ n ∈ ks) (z2 : ∀ n, w2 n ≠ 0 ↔ n ∈ ks2) :
    (kv.length == kv2.length && hitB kv2 kv) = true ↔ ∀ n, w n = w2 n := by
  have l1 : kv.length = ks.length := Paired.length h
  have l2 : kv2.length = ks2.length := Paired.length h2
  rw [Bool.and_eq_true, beq_iff_eq]
  unfold hitB
  rw [List.all_eq_true]
  constructor
  · rintro ⟨le, hb⟩
    have key : ∀ n ∈ ks, n ∈ ks2 ∧ w2 n = w n := fun n m => by
      have q := of_decide_eq_true (hb _ (h.mk m))
      have m2 : n ∈ ks2 := Classical.byContradiction fun c => by
        rw [KyN.noVal h2.kyn c] at q
        cases q
      rw [h2.val m2] at q
      injection q with q
      injection q with q
      exact ⟨m2, q⟩
    intro n
    by_cases m : n ∈ ks
    · exact (key n m).2.symm
    · have w0 : w n = 0 := Classical.byContradiction fun c => m ((z n).mp c)
      have m2 : n ∉ ks2 := fun m2 => by
        have q := nodup_le (l := n :: ks) (m := ks2) (List.nodup_cons.mpr ⟨m, nd⟩) fun x mx => by
          rcases List.mem_cons.mp mx with e | mx
          · rw [e]; exact m2
          · exact (key x mx).1
        rw [List.length_cons] at q
        omega
      have w20 : w2 n = 0 := Classical.byContradiction fun c => m2 ((z2 n).mp c)
      rw [w0, w20]
  · intro e
    have p : ks.Perm ks2 := (List.perm_ext_iff_of_nodup nd nd2).mpr fun n => by rw [← z, ← z2, e n]
    refine ⟨by rw [l1, l2]; exact p.length_eq, fun q hq => ?_⟩
    obtain ⟨n, mn, rfl⟩ := h.of hq
    refine decide_eq_true ?_
    show valV kv2 (.inr n) = some (.int (w n))
    rw [h2.val (p.mem_iff.mp mn), e n]
/-- a balance of a line -/
theorem mkB_line {H : Hp} {d CB C : Addr} {w : Str → Int} {kvs : List (Key × V)} {ks : List Str} {B : Nat} {Q : VK} (hd : H d = some (.dK kvs)) (hl : LnD w kvs ks) (ns : NsOk ks) (z : ∀ n, w n ≠ 0 ↔ n ∈ ks) (b : ∀ n, (w n).natAbs < 2 ^ B) (hB : B ≤ 100)
    (q : ∀ a zs H', Same H H' → zs.Perm ks → BX H' a CB C (ratOf w) zs B 1 → Q (.ref a) H') : MkB CB C (.ref d) H Q := by
  refine ⟨d, kvs, ks, fun n => (w n, 1), rfl, hd, Paired.mono' (fun kv n x => ⟨x.1, .inr ⟨x.2, rfl, Nat.lt_of_lt_of_le (b n) (Nat.pow_le_pow_right (by decide) (by omega))⟩⟩) hl, ns, fun a ys H' s na py sy hb => ?_⟩
  have nsy : NsOk ys := ⟨py.nodup_iff.mpr ns.nd, by rw [py.length_eq]; exact ns.le, fun n m => ns.nm n (py.mem_iff.mp m)⟩
  have e : nz (fun n => (w n, (1 : Int))) ys = ys := List.filter_eq_self.mpr fun n m => by
    have := (z n).mpr (py.mem_iff.mp m)
    simp [this]
  have hv : BalV (ratOf w) (fun n => (w n, (1 : Int))) (nz (fun n => (w n, (1 : Int))) ys) := BalV.of nsy sy (fun n _ => lo_int _) fun n => by
    by_cases m : n ∈ ys
    · rw [num_in m, val_int]
    · rw [num_out m, val01]
      have : w n = 0 := Classical.byContradiction fun c => m (py.mem_iff.mpr ((z n).mp c))
      show (0 : Rat) = ((w n : Int) : Rat)
      rw [this]; rfl
  rw [e] at hb hv
  exact q a ys H' s py ⟨_, hb, hv, fun n m => ⟨b n, by show (1 : Int).natAbs < 2 ^ 1; decide⟩⟩
theorem gcdW_great {w : Str → Int} {k : Nat} : ∀ (zs : List Str) (d : Nat), k ∣ d → (∀ n ∈ zs, k ∣ (w n).natAbs) → k ∣ gcdW w zs d
  | [], d, h, _ => h
  | x :: t, d, h, g => gcdW_great t _ (Nat.dvd_gcd h (g x List.mem_cons_self)) fun n m => g n (List.mem_cons_of_mem _ m)
/-- a line without a common divisor is in least terms -/
theorem least_line {w : Str → Int} {th zs : List Str} (g1 : gcdW w th 0 = 1) (z : ∀ n, w n ≠ 0 ↔ n ∈ zs) : LeastV (ratOf w) (ratOf w) zs := by
  refine ⟨⟨w, 1, by decide, fun n m => ⟨rfl, by grind⟩, .inr ?_⟩, fun n m => ?_⟩
  · have h1 : gcdW w zs 0 ∣ gcdW w th 0 := gcdW_great th 0 (Nat.dvd_zero _) fun n m => by
      by_cases c : n ∈ zs
      · exact (gcdW_dvd w zs 0).2 n c
      · have : w n = 0 := Classical.byContradiction fun q => c ((z n).mp q)
        rw [this]
        exact Nat.dvd_zero _
    rw [g1] at h1
    exact Nat.dvd_one.mp h1
  · have : w n = 0 := Classical.byContradiction fun q => m ((z n).mp q)
    show ((w n : Int) : Rat) = 0
    rw [this]; rfl
section
variable {v u : Str → Rat} {zs : List Str} {k : Rat}
theorem least_pos (L : LeastV v v zs) (k0 : 0 < k) (h : LeastV (fun n => v n * k) u zs) : u = v := by
  funext n
  exact (L.uniq h (k := k) k0 (fun n _ => by grind) n).symm
theorem least_neg (L : LeastV v v zs) (k0 : k < 0) (h : LeastV (fun n => v n * k) u zs) : u = fun n => -v n := by
  funext n
  exact (L.neg.uniq h (k := -k) (by grind) (fun n _ => by grind) n).symm
theorem upV_negv (nz : ∀ n ∈ zs, v n ≠ 0) (zn : zs ≠ []) : upV (fun n => -v n) zs = upV v zs := by
  obtain ⟨z, t, rfl⟩ : ∃ z t, zs = z :: t := by
    cases zs with
    | nil => exact absurd rfl zn
    | cons z t => exact ⟨z, t, rfl⟩
  have n0 := nz z List.mem_cons_self
  by_cases c : v z < 0
  · rw [upV_neg c, upV_pos (show ¬ -v z < 0 by grind)]
  · rw [upV_pos c, upV_neg (show -v z < 0 by grind)]
    funext n
    grind
end
/-- all but lists stay -/
def ExtL (H H' : Hp) : Prop := ∀ b o, H b = some o → (∀ xs, o ≠ .lst xs) → H' b = some o
theorem keepL {H H' : Hp} {t c : Addr} {cells : List Int} {i g : Int} (hT : Till H t c cells i g) (k : Keep t H H') : ExtL H H' := fun b o e n => k b o (fun z => by
  rw [z, hT.ht] at e
  injection e with e
  exact n _ e.symm) e
section
variable {H H' : Hp} {a p CB C CP CS CM : Addr} {v u : Str → Rat} {zs ys : List Str} {B c : Nat} {g : Str → Int × Int} {T : List (Addr × Str)}
theorem BX.extL (h : BX H a CB C v zs B c) (k : ExtL H H') : BX H' a CB C v zs B c := by
  obtain ⟨g, ⟨dx', nd, tp, kt, e, ⟨kvs, e1, r⟩, e2, e3⟩, h2, h3⟩ := h
  exact ⟨g, ⟨dx', nd, tp, kt, k _ _ e (fun _ z => by cases z), ⟨kvs, k _ _ e1 (fun _ z => by cases z), Paired.mono' (fun _ _ ⟨x1, b', x2, dxb, x3⟩ => ⟨x1, b', x2, dxb, k _ _ x3 fun _ z => by cases z⟩) r⟩, k _ _ e2 (fun _ z => by cases z), k _ _ e3 (fun _ z => by cases z)⟩, h2, h3⟩
theorem PairAt.extL (h : PairAt H p CP CB C u zs B c) (k : ExtL H H') : PairAt H' p CP CB C u zs B c := by
  obtain ⟨dx', b, f, s', tp, zf, zl, h1, h2, h3, h4⟩ := h
  exact ⟨dx', b, f, s', tp, zf, zl, k _ _ h1 (fun _ z => by cases z), h2.extL k, h3.extL k, h4.extL k⟩
theorem ScaAt.extL (h : ScaAt H a CS C g ys) (k : ExtL H H') : ScaAt H' a CS C g ys := by
  obtain ⟨dx, d, t, kvs, h1, h2, h3⟩ := h
  exact ⟨dx, d, t, kvs, k _ _ h1 (fun _ z => by cases z), k _ _ h2 (fun _ z => by cases z), Paired.mono' (fun _ _ ⟨x1, b', x2, dxb, x3⟩ => ⟨x1, b', x2, dxb, k _ _ x3 fun _ z => by cases z⟩) h3⟩
theorem tabs_extL (h : Tabs T H) (k : ExtL H H') : Tabs T H' := fun q hq => by
  obtain ⟨ps, h1, h2, h3⟩ := h q hq
  refine ⟨ps, k _ _ h1 (fun _ z => by cases z), h2, fun pos cv hc => ?_⟩
  obtain ⟨c, e1, e2⟩ := h3 pos cv hc
  exact ⟨c, e1, k _ _ e2 (fun _ z => by unfold CodeO at z; cases z)⟩
end
end K09
namespace K09
open PySem PySem.Spec PyProof.Rows L2 RatM LamX ClX
/-- what a drawn line is, its numbers 0 for all other names -/
theorem line_norm {w : Str → Int} {kv : List (Key × V)} {th : List Str} (hl : LnD w kv (th.filter fun n => !decide (w n = 0))) (ok : ThOk th) (so : ∃ n ∈ th, w n ≠ 0) (ab : ∀ n ∈ th, (w n).natAbs ≤ 47) (g1 : gcdW w th 0 = 1) :
    ∃ (w' : Str → Int) (ks : List Str), LnD w' kv ks ∧ (∀ n, w' n ≠ 0 ↔ n ∈ ks) ∧ NsOk ks ∧ ks ≠ [] ∧ ks.length ≤ 4 ∧ (∀ n ∈ ks, n ∈ th ∧ n.length ≤ 12) ∧ (∀ n, (w' n).natAbs ≤ 47) ∧ gcdW w' th 0 = 1 := by
  have e1 : ∀ n ∈ th, w n = (if n ∈ th then w n else 0) := fun n m => (if_pos m).symm
  have sub : ∀ n ∈ th.filter (fun n => !decide (w n = 0)), n ∈ th := fun n m => (List.mem_filter.mp m).1
  refine ⟨fun n => if n ∈ th then w n else 0, _, hl.congr fun n m => e1 n (sub n m), fun n => ?_, ⟨ok.nd.filter _, Nat.le_trans (List.length_filter_le _ _) (Nat.le_trans ok.le (by decide)), fun n m => ?_⟩, fun z => ?_, Nat.le_trans (List.length_filter_le _ _) ok.le, fun n m => ⟨sub n m, (ok.nm n (sub n m)).1⟩, fun n => ?_, ?_⟩
  · rw [List.mem_filter]
    by_cases m : n ∈ th
    · simp [m]
    · simp [m]
  · have := ok.nm n (sub n m)
    exact ⟨Nat.le_trans this.1 (by decide), this.2⟩
  · obtain ⟨n, m, c⟩ := so
    have : n ∈ th.filter (fun n => !decide (w n = 0)) := List.mem_filter.mpr ⟨m, by simp [c]⟩
    rw [z] at this
    cases this
  · by_cases m : n ∈ th
    · show (if n ∈ th then w n else 0 : Int).natAbs ≤ 47
      rw [if_pos m]; exact ab n m
    · show (if n ∈ th then w n else 0 : Int).natAbs ≤ 47
      rw [if_neg m]; decide
  · rw [← g1]
    exact (gcdW_congr th 0 fun n m => by rw [← e1 n m]).symm
theorem upV_ne (v : Str → Rat) (l : List Str) (n : Str) : upV v l n ≠ 0 ↔ v n ≠ 0 := by
  cases l with
  | nil => exact Iff.rfl
  | cons z t =>
    show (if v z < 0 then -v n else v n) ≠ 0 ↔ _
    split
    · constructor <;> intro h c <;> exact h (by grind)
    · exact Iff.rfl
theorem BX.so {H : Hp} {a CB C : Addr} {v : Str → Rat} {zs : List Str} {B c : Nat} (h : BX H a CB C v zs B c) : sortedS zs = true := let ⟨_, _, hv, _⟩ := h; hv.ok.so
theorem BX.nd {H : Hp} {a CB C : Addr} {v : Str → Rat} {zs : List Str} {B c : Nat} (h : BX H a CB C v zs B c) : zs.Nodup := let ⟨_, _, hv, _⟩ := h; hv.ok.ns.nd
/-- what a comparison speaks of are the things with a number -/
theorem zs_same {H H0 : Hp} {m b CM CP CB C : Addr} {k : Kd} {v' v u : Str → Rat} {zs zs' : List Str} {B c B0 c0 : Nat} (h : ∀ n, v' n ≠ 0 ↔ n ∈ zs) (LL : LeastV v' u zs') (all : ∀ n, v' n ≠ 0 → n ∈ zs') (hm : CompAt H m CM CP CB C k (kupV k u zs') zs' B c) (hb : BX H0 b CB C v zs B0 c0) : zs' = zs := by
  obtain ⟨dx, b2, tp, pr, _, hb2, _⟩ := hm
  refine sorted_unique hb2.so hb.so ((List.perm_ext_iff_of_nodup hb2.nd hb.nd).mpr fun n => ⟨fun mn => ?_, fun mn => all n ((h n).mpr mn)⟩)
  have n1 : kupV k u zs' n ≠ 0 := hb2.nz mn
  have n2 : u n ≠ 0 := by
    by_cases ck : k = .eq
    · subst ck
      exact (upV_ne u zs' n).mp n1
    · rw [show kupV k u zs' = u from if_neg ck] at n1
      exact n1
  obtain ⟨⟨w, c, c0, e, _⟩, _⟩ := LL
  refine (h n).mp fun z => n2 ?_
  rw [(e n mn).2, z]
  grind
theorem ratInj {i j : Int} : ((i : Rat) = (j : Rat)) ↔ i = j := by
  constructor
  · intro h
    have e : frO (i : Rat) = frO (j : Rat) := by rw [h]
    rw [frO_int, frO_int] at e
    exact congrArg Prod.fst e
  · intro h; rw [h]
theorem upW_ne (w : Str → Int) (l : List Str) (n : Str) : upW w l n ≠ 0 ↔ w n ≠ 0 := by
  have := upW_abs w l n
  omega
/-- a scale of at least the things zs, its worths small -/
def ScOk (H : Hp) (CS C : Addr) (zs : List Str) (s : Addr) : Prop := ∃ (g : Str → Int × Int) (ys : List Str), ScaAt H s CS C g ys ∧ WoOk g ys ∧ ∀ n ∈ zs, n ∈ ys
theorem ScOk.extL {H H' : Hp} {CS C s : Addr} {zs : List Str} (h : ScOk H CS C zs s) (k : ExtL H H') : ScOk H' CS C zs s := let ⟨g, ys, h1, h2, h3⟩ := h; ⟨g, ys, h1.extL k, h2, h3⟩
theorem extL_same {H H' : Hp} (s : Same H H') : ExtL H H' := fun b o e _ => s b o e
theorem extL_upd {H : Hp} {D : Addr} {xs : List V} {o : HO} (e : H D = some (.lst xs)) : ExtL H (upd H D o) := fun b u q n => by
  rw [upd_ne (fun z => by rw [z, e] at q; injection q with q; exact n _ q.symm)]
  exact q
/-- a scale of drawn worths -/
theorem mkS_line {H : Hp} {d CS C : Addr} {w : Str → Int} {kvs : List (Key × V)} {th zs : List Str} {Q : VK} (hd : H d = some (.dK kvs)) (hl : LnD w kvs th) (ok : ThOk th) (b : ∀ n, (w n).natAbs ≤ 3) (sub : ∀ n ∈ zs, n ∈ th)
    (q : ∀ s H', Same H H' → ScOk H' CS C zs s → Q (.ref s) H') : MkS CS C (.ref d) H Q := by
  refine ⟨d, kvs, th, fun n => (w n, 1), rfl, hd, Paired.mono' (fun kv n x => ⟨x.1, .inr ⟨x.2, rfl, Nat.lt_of_le_of_lt (b n) (Nat.lt_of_lt_of_le (show 3 < 2 ^ 2 by decide) (Nat.pow_le_pow_right (by decide) (by decide)))⟩⟩) hl, ok.ns, fun ys py sy s H' s1 _ hS => ?_⟩
  exact q s H' s1 ⟨_, ys, hS, fun n m => ⟨lo_int _, Nat.lt_of_le_of_lt (b n) (by decide), by show (1 : Int).natAbs < 2 ^ 1; decide⟩, fun n m => py.mem_iff.mpr (sub n m)⟩
/-- dict(xs) of a list of pairs -/
def rDictP (K : PySem.W.Frag) : List V → Hp → VK → Prop := fun xs H Q => ∃ (a : Addr) (ps : List Addr) (kvs : List (Key × V)), xs = [.ref a] ∧ SqL K H a (ps.map V.ref) ∧ Paired (fun p kv => SqT K H p [kV kv.1, kv.2]) ps kvs ∧
  ∀ p, H p = none → Q (.ref p) (upd H p (.dK (mergeK [] kvs)))
/-- the block of the outer list -/
def scOut : Scope := { kind := ScopeKind.function, names := [(Str.ofString ".0", NameKind.local), (Str.ofString "_law_turn_here", NameKind.local), (Str.ofString "Scale", NameKind.globalImplicit), (Str.ofString "dict", NameKind.globalImplicit), (Str.ofString "_law_reel_here", NameKind.cell), (Str.ofString "_law_things_here", NameKind.cell)], isGenerator := false, isCoroutine := false }
/-- what the law itself rests on -/
structure LawK (P : Program) (w : World) (K : PySem.W.Frag) (mg : Str → Option Value) (base : Heap) (CS CM CP CB C BR BB BC BP BN SE gH : Addr) (fdH : FuncData) (T : List (Addr × Str)) : Prop where
  RF : RfK P w K mg base CS CM CP CB C BR BB BC BP BN SE gH fdH
  rng : mg "range" = none
  YM : TyK K CM
  nPM : PySem.W.notFirst K CP (.ref CM) = true
  nPB : PySem.W.notFirst K CP (.ref CB) = true
  nMS : PySem.W.notFirst K CM (.type "str") = true
  nMB : PySem.W.notFirst K CM (.ref CB) = true
  kMP : PySem.W.kitOne K (.ref CM) (.ref CP) = some false
  kBP : PySem.W.kitOne K (.ref CB) (.ref CP) = some false
  kSM : PySem.W.kitOne K (.type "str") (.ref CM) = some false
  kBM : PySem.W.kitOne K (.ref CB) (.ref CM) = some false
  reel : ∃ (f : Addr) (fd : FuncData), FnOk P w K mg base CX0 1 f fd ["_law_script"] (spTill K) ∧ Binds K fd ["_law_script"] [] ∧ PySem.W.keepIn K (.ref f) = true ∧ mg "_law_reel" = some (.ref f)
  turn : ∃ (f : Addr) (fd : FuncData), FnOk P w K mg base CX0 1 f fd ["_law_reel_here", "_law_many"] spCoin ∧ Binds K fd ["_law_reel_here", "_law_many"] [] ∧ PySem.W.keepIn K (.ref f) = true ∧ mg "_law_turn" = some (.ref f)
  things : ∃ (f : Addr) (fd : FuncData), FnOk P w K mg base CX0 3 f fd ["_law_reel_here", "_law_many"] spThs ∧ Binds K fd ["_law_reel_here", "_law_many"] [] ∧ PySem.W.keepIn K (.ref f) = true ∧ mg "_law_things" = some (.ref f)
  line : ∃ (f : Addr) (fd : FuncData), FnOk P w K mg base CX0 3 f fd ["_law_reel_here", "_law_things_here"] spLine ∧ Binds K fd ["_law_reel_here", "_law_things_here"] [] ∧ PySem.W.keepIn K (.ref f) = true ∧ mg "_law_line" = some (.ref f)
  ratio : ∃ (f : Addr) (fd : FuncData), FnOk P w K mg base CX0 5 f fd ["_law_reel_here"] (spRa C) ∧ Binds K fd ["_law_reel_here"] [] ∧ PySem.W.keepIn K (.ref f) = true ∧ mg "_law_ratio" = some (.ref f)
  form : ∃ (f : Addr) (fd : FuncData), FnOk P w K mg base CX0 17 f fd ["_law_line_here", "_law_kind", "_law_comparison", "_law_pair"] (spFm CM CP CB C) ∧ Binds K fd ["_law_line_here", "_law_kind", "_law_comparison", "_law_pair"] [] ∧ PySem.W.keepIn K (.ref f) = true ∧ mg "_law_form_right" = some (.ref f)
  contr : ∃ (f : Addr) (fd : FuncData), FnOk P w K mg base CX0 19 f fd ["_law_comparison", "_law_kind"] (spCr CM CP CB C) ∧ Binds K fd ["_law_comparison", "_law_kind"] [] ∧ PySem.W.keepIn K (.ref f) = true ∧ mg "_law_contraries_right" = some (.ref f)
  rows : ∃ (f : Addr) (fd : FuncData), FnOk P w K mg base CX0 19 f fd ["_law_pair", "_law_scales"] (spRr CS CM CP CB C) ∧ Binds K fd ["_law_pair", "_law_scales"] [] ∧ PySem.W.keepIn K (.ref f) = true ∧ mg "_law_rows_right" = some (.ref f)
  refd : ∃ (f : Addr) (fd : FuncData), FnOk P w K mg base CX0 20 f fd ["_law_reel_here", "_law_balance", "_law_pair"] (spRf CP CB C T) ∧ Binds K fd ["_law_reel_here", "_law_balance", "_law_pair"] [] ∧ PySem.W.keepIn K (.ref f) = true ∧ mg "_law_refused" = some (.ref f)
def spLaw (K : PySem.W.Frag) (T : List (Addr × Str)) : Sp := fun vs H Q _ => ∃ (a : Addr) (ns : List Int), vs = [.ref a] ∧ SqL K H a (ns.map V.int) ∧ ns.length ≤ 63 ∧ Tabs T H ∧ ∀ H', Q (.bl true) H'
section
variable {P : Program} {w : World} {K : PySem.W.Frag} {mg : Str → Option Value} {base : Heap} {C BR CB BB BP BC BN CP CM CS SE gH : Addr} {fdH : FuncData} {T : List (Addr × Str)}
abbrev nsLw : List Str := ["_law_script", "_law_reel_here", "_law_things_here", "_law_kind", "_law_line_here", "_law_beside", "_law_balance", "_law_other", "_law_times", "_law_less", "_law_pair", "_law_comparison", "_law_alike", "_law_scales", "_law_thing", "_law_odd", "_law_turn_here"]
theorem scLw : FnScope nsLw ["_law_script"] (defScope (top 97)) := ⟨rfl, rfl, rfl, by decide +kernel, rfl, by decide +kernel, by decide +kernel⟩
theorem ok_law {f : Addr} {fd : FuncData} (F : FnP K "law" (top 97) f fd) (Z : LawK P w K mg base CS CM CP CB C BR BB BC BP BN SE gH fdH T) : FnOk P w K mg base CX0 21 f fd ["_law_script"] (spLaw K T) := by
  have RF := Z.RF
  have M := Z.RF.FK.Z.M
  have W := M.W
  have O := W.O
  have B' := W.O.B
  have CK := M.CK
  have TP := Z.RF.FK.Z.TP
  obtain ⟨fAd, fdAd, MAd, GAd, bAd⟩ := W.add
  obtain ⟨fS, fdS, MS, GS, bS⟩ := W.sub2
  obtain ⟨fM, fdM, MM, GM, bM⟩ := W.mul
  obtain ⟨fMC, MMC⟩ := W.mulC
  obtain ⟨fN, fdN, MN, GN, bN⟩ := W.neg
  obtain ⟨fRN, fdRN, MRN, GRN, bRN⟩ := W.ratNeg
  obtain ⟨fE, fdE, ME, GE, bE⟩ := M.eq
  obtain ⟨fPe, fdPe, MP, GPe, bPe⟩ := Z.RF.FK.Z.eqP
  obtain ⟨fSC, fdSC, MSC, GSC, bSC⟩ := RF.FK.strC
  obtain ⟨fU, fdU, GU, bU, kU, gU⟩ := RF.FK.up
  obtain ⟨fC, fdC, GC, bC, bCK, kC, gC⟩ := RF.comp
  obtain ⟨fP, fdP, GP, bP, kP, gP⟩ := RF.pick
  obtain ⟨fRe, fdRe, GRe, bRe, kRe, gRe⟩ := Z.reel
  obtain ⟨fT, fdT, GT, bT, kT, gT⟩ := Z.turn
  obtain ⟨fTh, fdTh, GTh, bTh, kTh, gTh⟩ := Z.things
  obtain ⟨fLi, fdLi, GLi, bLi, kLi, gLi⟩ := Z.line
  obtain ⟨fRa, fdRa, GRa, bRa, kRa, gRa⟩ := Z.ratio
  obtain ⟨fFr, fdFr, GFr, bFr, kFr, gFr⟩ := Z.form
  obtain ⟨fCr, fdCr, GCr, bCr, kCr, gCr⟩ := Z.contr
  obtain ⟨fRr, fdRr, GRr, bRr, kRr, gRr⟩ := Z.rows
  obtain ⟨fRf, fdRf, GRf, bRf, kRf, gRf⟩ := Z.refd
  refine F.ok scLw (fun vs H Q E h => ?_) (fun cdv A outer s H vs Q E hr h => ?_)
  · obtain ⟨a, ns, rfl, _⟩ := h
    rfl
  · obtain ⟨a, ns, rfl, ha, hns, hTb, k⟩ := h
    have h20 : Room 20 _ := hr
    have h19 : Room 19 _ := h20.mono (by decide)
    have h17 : Room 17 _ := h20.mono (by decide)
    have h16 : Room 16 _ := h20.mono (by decide)
    have h14 : Room 14 _ := h20.mono (by decide)
    have h13 : Room 13 _ := h20.mono (by decide)
    have h11 : Room 11 _ := h20.mono (by decide)
    have h9 : Room 9 _ := h20.mono (by decide)
    have h5 : Room 5 _ := h20.mono (by decide)
    have h4 : Room 4 _ := h20.mono (by decide)
    have h3 : Room 3 _ := h20.mono (by decide)
    have h2 : Room 2 _ := h20.mono (by decide)
    have h1 : Room 1 _ := h20.mono (by decide)
    have hu64 : (A.deeper (envOfC (Str.ofString "law") (defScope (top 97)) s.heap.objs.size f cdv)).units + 64 < cLine := by have := h20.units; omega
    have hu1 : (A.deeper (envOfC (Str.ofString "law") (defScope (top 97)) s.heap.objs.size f cdv)).units + 1 < cLine := by omega
    have hu : (A.deeper (envOfC (Str.ofString "law") (defScope (top 97)) s.heap.objs.size f cdv)).units < cLine := by omega
    refine ⟨_, PSs.nox (pss_cons (ps_set (i := 1) scLw.nd rfl (.inr rfl) (pe_call GRe h1 rfl gRe kRe bRe .nil pass0 (pa_cons (pv 0) pa_nil)))
      (pss_cons (ps_asg (pe_tup (pa_cons (pe_call GTh h3 rfl gTh kTh bTh .nil pass0 (pa_cons (pv 1) (pa_cons (pe_op op_add pe_int (pe_call GT h1 rfl gT kT bT .nil pass0 (pa_cons (pv 1) (pa_cons pe_int pa_nil)))) pa_nil))) (pa_cons (pe_call GP h2 rfl gP kP bP .nil pass0 (pa_cons (pv 1) (pa_cons (pe_lst (pa_cons pe_str (pa_cons pe_str (pa_cons pe_str pa_nil)))) pa_nil))) pa_nil))) (pg_tup rfl (pgs_cons (pg_name (i := 2) scLw.nd rfl (.inr rfl)) (pgs_cons (pg_name (i := 3) scLw.nd rfl (.inr rfl)) pgs_nil))))
      (pss_cons (ps_asg (pe_tup (pa_cons (pe_call GLi h3 rfl gLi kLi bLi .nil pass0 (pa_cons (pv 1) (pa_cons (pv 2) pa_nil))) (pa_cons (pe_call GLi h3 rfl gLi kLi bLi .nil pass0 (pa_cons (pv 1) (pa_cons (pv 2) pa_nil))) pa_nil))) (pg_tup rfl (pgs_cons (pg_name (i := 4) scLw.nd rfl (.inl rfl)) (pgs_cons (pg_name (i := 5) scLw.nd rfl (.inr rfl)) pgs_nil))))
      (pss_cons (ps_asg (pe_tup (pa_cons (pe_bal B' h9 (E := E0) passL rfl (pa_cons (pv 4) pa_nil)) (pa_cons (pe_bal B' h9 (E := E0) passL rfl (pa_cons (pe_callTy (call_dictP rfl) (by rfl) W.dict PyProof.Rows.boot_dict (pa_cons (pe_lock (pe_lc (own := [("_law_thing", 14)]) (g := gName 14) (tt := tYes) rfl scLw.nd (pi_keys (pv 5)) (blkOk_by (N := nsLw) (sc := defScope (top 97)) (by decide +kernel)) (fun _ _ _ _ _ => pg_name (i := 14) scLw.nd rfl (Or.inl rfl)) (fun _ _ _ _ _ => pts_nil) (fun _ _ _ _ _ => pe_tup (pa_cons (pv 14) (pa_cons (pe_op op_mulW (pe_dget (by exact hu1) (pv 5) (pv 14) (fun _ _ => rfl)) pe_int) pa_nil))))) pa_nil)) pa_nil)) pa_nil))) (pg_tup rfl (pgs_cons (pg_name (i := 6) scLw.nd rfl (.inr rfl)) (pgs_cons (pg_name (i := 7) scLw.nd rfl (.inl rfl)) pgs_nil))))
      (pss_cons (ps_asg (pe_tup (pa_cons (pe_call GRa h5 rfl gRa kRa bRa .nil pass0 (pa_cons (pv 1) pa_nil)) (pa_cons (pe_un (un_ownNeg MRN GRN h5 bRN (E := E0) passL) (pe_call GRa h5 rfl gRa kRa bRa .nil pass0 (pa_cons (pv 1) pa_nil))) (pa_cons (pe_pair RF.PK h14 (E := E0) passL rfl (pa_cons (pv 6) pa_nil)) (pa_cons (pe_comp CK h16 (E := E0) passL rfl (pa_cons (pv 6) (pa_cons (pv 3) pa_nil))) pa_nil))))) (pg_tup rfl (pgs_cons (pg_name (i := 8) scLw.nd rfl (.inl rfl)) (pgs_cons (pg_name (i := 9) scLw.nd rfl (.inl rfl)) (pgs_cons (pg_name (i := 10) scLw.nd rfl (.inl rfl)) (pgs_cons (pg_name (i := 11) scLw.nd rfl (.inr rfl)) pgs_nil))))))
      (pss_cons (ps_if (PW.pt (pw_or (pt_cmpR (op_neOwn MP Z.RF.FK.Z.neP Z.RF.FK.Z.obP GPe h4 bPe (E := E0) pass0) (pe_pair RF.PK h14 (E := E0) passL rfl (pa_cons (pe_op (op_ownN (op := .Mult) MM W.sfB W.rmB MMC O.sf W.rmC (Ne.symm B'.n) W.sub W.rt GM h11 bM (E := E0) passL) (pv 6) (pv 8)) pa_nil)) (pv 10) (nomark _)) (pw_or (pt_cmpR (op_neOwn MP Z.RF.FK.Z.neP Z.RF.FK.Z.obP GPe h4 bPe (E := E0) pass0) (pe_pair RF.PK h14 (E := E0) passL rfl (pa_cons (pe_op (op_ownN (op := .Mult) MM W.sfB W.rmB MMC O.sf W.rmC (Ne.symm B'.n) W.sub W.rt GM h11 bM (E := E0) passL) (pv 6) (pv 9)) pa_nil)) (pv 10) (nomark _)) (pw_or1 (pt_cmpR (op_neOwn ME M.ne M.ob GE h4 bE (E := E0) pass0) (pe_comp CK h16 (E := E0) passL rfl (pa_cons (pe_op (op_ownN (op := .Mult) MM W.sfB W.rmB MMC O.sf W.rmC (Ne.symm B'.n) W.sub W.rt GM h11 bM (E := E0) passL) (pv 6) (pv 8)) (pa_cons (pv 3) pa_nil))) (pv 11) (nomark _)))))) (pss_one (ps_ret pe_bl)) pss_nil)
      (pss_cons (ps_if (PW.pt (pw_or (pt_cmpR op_ne (pe_cmpR (op_eqOwn ME GE h3 bE (E := E0) pass0) (pe_comp CK h16 (E := E0) passL rfl (pa_cons (pe_op (op_ownN (op := .Mult) MM W.sfB W.rmB MMC O.sf W.rmC (Ne.symm B'.n) W.sub W.rt GM h11 bM (E := E0) passL) (pv 6) (pv 9)) (pa_cons (pv 3) pa_nil))) (pv 11) (nomark _)) (pe_cmpR op_eq (pv 3) pe_str (nomark _)) (nomark _)) (pw_or1 (pt_not (pt_val (pe_call GFr h17 rfl gFr kFr bFr .nil pass0 (pa_cons (pv 4) (pa_cons (pv 3) (pa_cons (pe_comp CK h16 (E := E0) passL rfl (pa_cons (pe_op (op_ownN (op := .Mult) MM W.sfB W.rmB MMC O.sf W.rmC (Ne.symm B'.n) W.sub W.rt GM h11 bM (E := E0) passL) (pv 6) (pv 8)) (pa_cons (pv 3) pa_nil))) (pa_cons (pe_pair RF.PK h14 (E := E0) passL rfl (pa_cons (pe_op (op_ownN (op := .Mult) MM W.sfB W.rmB MMC O.sf W.rmC (Ne.symm B'.n) W.sub W.rt GM h11 bM (E := E0) passL) (pv 6) (pv 9)) pa_nil)) pa_nil)))))))))) (pss_one (ps_ret pe_bl)) pss_nil)
      (pss_cons (ps_if (PW.pt (pw_or (pt_cmpR (op_neOwn ME M.ne M.ob GE h4 bE (E := E0) pass0) (pe_call GC h17 rfl gC kC bC .nil (E := E0) passL (pa_cons (pe_op (op_ownC (op := .Add) MAd W.sfB GAd h11 bAd (E := E0) passL) (pv 6) (pv 7)) (pa_cons (pv 3) (pa_cons (pv 7) pa_nil)))) (pv 11) (nomark _)) (pw_or1 (pt_cmpR (op_neOwn ME M.ne M.ob GE h4 bE (E := E0) pass0) (pe_call GC h17 rfl gC kC bC .nil (E := E0) passL (pa_cons (pe_op (op_ownN (op := .Mult) MM W.sfB W.rmB MMC O.sf W.rmC (Ne.symm B'.n) W.sub W.rt GM h11 bM (E := E0) passL) (pv 7) (pv 8)) (pa_cons (pv 3) (pa_cons (pe_op (op_ownN (op := .Mult) MM W.sfB W.rmB MMC O.sf W.rmC (Ne.symm B'.n) W.sub W.rt GM h11 bM (E := E0) passL) (pe_op (op_ownC (op := .Sub) MS W.sfB GS h11 bS (E := E0) passL) (pv 7) (pv 6)) (pv 8)) pa_nil)))) (pv 11) (nomark _))))) (pss_one (ps_ret pe_bl)) pss_nil)
      (pss_cons (ps_if (PW.pt (pw_or (pt_cmpR (op_neOwn ME M.ne M.ob GE h4 bE (E := E0) pass0) (pe_callK0 GC h17 rfl gC kC bCK (E := E0) passL (pk_cons (pe_un (un_ownNeg MN GN h11 bN (E := E0) passL) (pv 7)) (pk_cons (pv 3) (pk_cons (pe_op (op_ownC (op := .Sub) MS W.sfB GS h11 bS (E := E0) passL) (pe_un (un_ownNeg MN GN h11 bN (E := E0) passL) (pv 7)) (pv 6)) pk_nil)))) (pv 11) (nomark _)) (pw_or1 (pt_not (pt_val (pe_call GCr h19 rfl gCr kCr bCr .nil pass0 (pa_cons (pv 11) (pa_cons (pv 3) pa_nil)))))))) (pss_one (ps_ret pe_bl)) pss_nil)
      (pss_cons (ps_set (i := 12) scLw.nd rfl (.inl rfl) (pe_cmpR (op_eq_dictZ hu) (pe_call GU h1 rfl gU kU bU .nil pass0 (pa_cons (pv 5) pa_nil)) (pe_call GU h1 rfl gU kU bU .nil pass0 (pa_cons (pv 4) pa_nil)) (nomark _)))
      (pss_cons (ps_if (PW.pt (pw_or (pt_cmpR op_ne (pe_cmpR (op_eqOwn MP GPe h3 bPe (E := E0) pass0) (pe_pair RF.PK h14 (E := E0) passL rfl (pa_cons (pv 7) pa_nil)) (pv 10) (nomark _)) (pv 12) (nomark _)) (pw_or1 (pt_cmpR op_ne (pe_cmpR (op_eqOwn ME GE h3 bE (E := E0) pass0) (pe_comp CK h16 (E := E0) passL rfl (pa_cons (pv 7) (pa_cons (pv 3) pa_nil))) (pv 11) (nomark _)) (pe_ifExp (pt_cmpR op_eq (pv 3) pe_str (nomark _)) (pv 12) (pe_cmpR (op_eq_dictZ hu) (pv 5) (pv 4) (nomark _))) (nomark _))))) (pss_one (ps_ret pe_bl)) pss_nil)
      (pss_cons (ps_if (pt_cmpR (op_neP hu64) (pe_lc (own := [("_law_odd", 15)]) (g := gName 15) (tt := tTest (tOp rNe (tOp (rEqOwnI false CM CM (spEqC K CM CP CB C) E0) (tComp K CM CP CB C BB BC E0 (tCons (tVar 6) (tCons (tVar 15) tNil))) (tVar 11)) (tOp rEq (tVar 15) (tVar 3)))) (te := tVar 15) rfl scLw.nd (pi_tup (pe_tup (pa_cons pe_str (pa_cons pe_str (pa_cons pe_str pa_nil))))) (blkOk_by (N := nsLw) (sc := defScope (top 97)) (by decide +kernel)) (fun _ _ _ _ _ => pg_name (i := 15) scLw.nd rfl (Or.inl rfl)) (fun _ _ _ _ _ => pts_one (pt_cmpR op_ne (pe_cmpR (op_eqOwnI (D := CM) M.nf ME GE (by exact h3) bE (E := E0) pass0) (pe_comp CK (by exact h16) (E := E0) passL rfl (pa_cons (pv 6) (pa_cons (pv 15) pa_nil))) (pv 11) (nomark _)) (pe_cmpR op_eq (pv 15) (pv 3) (nomark _)) (nomark _))) (fun _ _ _ _ _ => pv 15)) (pe_lst pa_nil) (nomark _)) (pss_one (ps_ret pe_bl)) pss_nil)
      (pss_cons (ps_if (PW.pt (pw_or (pt_cmpR (op_eqOwn MP GPe h3 bPe (E := E0) pass0) (pv 10) (pv 11) (nomark _)) (pw_or (pt_cmpR (op_eqOwn MP GPe h3 bPe (E := E0) pass0) (pv 10) (pv 6) (nomark _)) (pw_or (pt_cmpR (op_eqOwn ME GE h3 bE (E := E0) pass0) (pv 11) (pe_callTy (call_ownStr MSC GSC (by exact h13) bSC (E := E0) pass0) (by rfl) W.str PyProof.Rows.boot_str (pa_cons (pv 11) pa_nil)) (nomark _)) (pw_or1 (pt_cmpR (op_eqOwn ME GE h3 bE (E := E0) pass0) (pv 11) (pv 6) (nomark _))))))) (pss_one (ps_ret pe_bl)) pss_nil)
      (pss_cons (ps_set (i := 13) scLw.nd rfl (.inl rfl) (pe_op op_cat (pe_lc (own := [("_law_turn_here", 16)]) (g := gName 16) (tt := tYes) (te := tSca CS C (tCons (tCB (rDictP K) (tCons (tLc (iList K (tVar 2)) (gName 14) tYes (tTup (tCons (tVar 14) (tCons (tOp (rI0 fun i j => V.int (i - j)) (tCall spCoin [] E0 (tCons (tVar 1) (tCons (tC (.int 7)) tNil))) (tC (.int 3))) tNil))) [14]) tNil)) tNil)) rfl scLw.nd (pi_range1 (by rfl) Z.rng (pa_cons pe_int pa_nil)) (blkOk_by (N := nsLw) (sc := defScope (top 97)) (by decide +kernel)) (fun _ _ _ _ _ => pg_name (i := 16) scLw.nd rfl (Or.inl rfl)) (fun _ _ _ _ _ => pts_nil) (fun _ _ _ _ _ => (pe_sca RF.SK (by exact h9) (E := E0) passL rfl (pa_cons (pe_callTy (call_dictP rfl) (by rfl) W.dict PyProof.Rows.boot_dict (pa_cons (pe_lc (own := [("_law_thing", 14)]) (g := gName 14) (tt := tYes) (te := tTup (tCons (tVar 14) (tCons (tOp (rI0 fun i j => V.int (i - j)) (tCall spCoin [] E0 (tCons (tVar 1) (tCons (tC (.int 7)) tNil))) (tC (.int 3))) tNil))) rfl scLw.nd (pi_list (pv 2)) (blkOk_by (N := nsLw) (sc := scOut) (by decide +kernel)) (fun _ _ _ _ _ => pg_name (i := 14) scLw.nd rfl (Or.inl rfl)) (fun _ _ _ _ _ => pts_nil) (fun _ _ _ _ _ => pe_tup (pa_cons (pv 14) (pa_cons (pe_op op_sub (pe_call GT (by exact h1) rfl gT kT bT .nil pass0 (pa_cons (pv 1) (pa_cons pe_int pa_nil))) pe_int) pa_nil)))) pa_nil)) pa_nil)))) (pe_lst (pa_cons (pe_sca RF.SK h9 (E := E0) passL rfl (pa_cons (pe_callTy (call_dictP rfl) (by rfl) W.dict PyProof.Rows.boot_dict (pa_cons (pe_lc (own := [("_law_thing", 14)]) (g := gName 14) (tt := tYes) rfl scLw.nd (pi_list (pv 2)) (blkOk_by (N := nsLw) (sc := defScope (top 97)) (by decide +kernel)) (fun _ _ _ _ _ => pg_name (i := 14) scLw.nd rfl (Or.inl rfl)) (fun _ _ _ _ _ => pts_nil) (fun _ _ _ _ _ => pe_tup (pa_cons (pv 14) (pa_cons pe_int pa_nil)))) pa_nil)) pa_nil)) pa_nil))))
      (pss_one (ps_ret (pe_and (pe_call GRr h19 rfl gRr kRr bRr .nil pass0 (pa_cons (pv 10) (pa_cons (pv 13) pa_nil))) (pe_one (pe_call GRf h20 rfl gRf kRf bRf .nil pass0 (pa_cons (pv 1) (pa_cons (pv 6) (pa_cons (pv 10) pa_nil)))))))))))))))))))))), ?_⟩
    refine ⟨_, rfl, a, ns, rfl, ha, hns, fun t c H1 s1 nt hT1 => ?_⟩
    dsimp only [tNext, tSeq, tAsg, gName]
    generalize ns.take 60 = cells at hT1
    have tb1 := tabs_same hTb s1
    clear ha hns s1 nt hTb
    -- the things, the kind
    refine ⟨_, rfl, _, rfl, consC ⟨t, c, cells, 0, 0, 4, rfl, hT1, by decide, by decide, by decide, by decide, by decide, fun m i1 g1 H2 m0 m1 a0 a1 a2 k2 hT2 => ?_⟩⟩
    refine ⟨_, _, rfl, rfl, nilI ⟨t, c, cells, i1, g1, 1 + m, rfl, by omega, by omega, hT2, a0, by omega, a2, fun p th i2 g2 H3 ok nn b0 b1 b2 k3 npt ep hT3 => ?_⟩⟩
    have thn := nn (by omega)
    refine ⟨_, rfl, by rw [sizeLine_eq]; show 3 ≤ 16777216; decide, fun l nl => ?_⟩
    have q1 := same_upd (o := .lst [.str (Str.ofString ">"), .str (Str.ofString ">="), .str (Str.ofString "=")]) nl
    have el : (upd H3 l (.lst [.str (Str.ofString ">"), .str (Str.ofString ">="), .str (Str.ofString "=")])) l = some (.lst [.str (Str.ofString ">"), .str (Str.ofString ">="), .str (Str.ofString "=")]) := upd_same
    have nlt : l ≠ t := fun z => by rw [z, hT3.ht] at nl; cases nl
    have ep := q1 _ _ ep
    have hT3 := hT3.same q1
    have tb3 := tabs_same (tabs_extL tb1 (keepL hT1 (k2.trans k3))) q1
    generalize upd H3 l (.lst [.str (Str.ofString ">"), .str (Str.ofString ">="), .str (Str.ofString "=")]) = H4 at q1 el ep hT3 tb3 ⊢
    clear q1 nl nn k2 k3 hT2 tb1 hT1
    refine nilI ⟨t, c, l, cells, i2, g2, _, rfl, hT3, b0, by omega, b2, nlt, el, by show 0 < 3; decide, by show 3 ≤ 10000; decide, fun x i3 g3 H5 hx c0 c1 c2 k4 hT5 => ?_⟩
    obtain ⟨kd, rfl⟩ : ∃ kd : Kd, x = .str kd.s := by
      simp only [List.mem_cons, List.not_mem_nil, or_false] at hx
      rcases hx with rfl | rfl | rfl
      · exact ⟨.gt, rfl⟩
      · exact ⟨.ge, rfl⟩
      · exact ⟨.eq, rfl⟩
    have ep := k4 _ _ npt ep
    have tb5 := tabs_extL tb3 (keepL hT3 k4)
    clear hx el nlt k4 tb3 hT3
    refine nilI ⟨by rw [sizeLine_eq]; show 2 ≤ 16777216; decide, fun p0 n0 => ⟨p0, _, rfl, SqT.of upd_same, rfl, _, _, rfl, _, _, rfl, rfl, ?_⟩⟩
    have q0 := same_upd (o := .tup [.ref p, .str kd.s]) n0
    have ep := q0 _ _ ep
    have hT5 := hT5.same q0
    have tb5 := tabs_same tb5 q0
    generalize upd H5 p0 (.tup [.ref p, .str kd.s]) = H6 at ep hT5 tb5 ⊢
    clear q0 n0
    dsimp only [tNext, tSeq, tAsg, gName]
    -- the lines
    refine ⟨_, rfl, _, rfl, nilI ⟨t, p, c, cells, i3, g3, th, rfl, npt, ep, ok, thn, hT5, c0, by omega, c2, fun d1 kv1 w1 i4 g4 H7 ed1 hl1 so1 ab1 gc1 e0 e1 e2 k5 hT7 => ?_⟩⟩
    have ep := k5 _ _ npt ep
    have tb7 := tabs_extL tb5 (keepL hT5 k5)
    refine ⟨_, rfl, _, rfl, nilI ⟨t, p, c, cells, i4, g4, th, rfl, npt, ep, ok, thn, hT7, e0, by omega, e2, fun d2 kv2 w2 i5 g5 H8 ed2 hl2 so2 ab2 gc2 f0 f1 f2 k6 hT8 => nilI ⟨by rw [sizeLine_eq]; show 2 ≤ 16777216; decide, fun p1 n1 => ⟨p1, _, rfl, SqT.of upd_same, rfl, _, _, rfl, _, _, rfl, rfl, ?_⟩⟩⟩⟩
    have q0 := same_upd (o := .tup [.ref d1, .ref d2]) n1
    have ep := q0 _ _ (k6 _ _ npt ep)
    have ed1 := q0 _ _ (keepL hT7 k6 _ _ ed1 fun _ z => by cases z)
    have ed2 := q0 _ _ ed2
    have tb8 := tabs_same (tabs_extL tb7 (keepL hT7 k6)) q0
    have hT8 := hT8.same q0
    generalize upd H8 p1 (.tup [.ref d1, .ref d2]) = H9 at ep ed1 ed2 tb8 hT8 ⊢
    clear q0 n1 k5 k6 tb5 tb7 hT5 hT7
    obtain ⟨wl, ks, hl1, z1, ns1, kn1, l41, sub1, ab1, gc1⟩ := line_norm hl1 ok so1 ab1 gc1
    obtain ⟨wb, ks2, hl2, z2, ns2, kn2, l42, sub2, ab2, gc2⟩ := line_norm hl2 ok so2 ab2 gc2
    clear so1 so2
    dsimp only [tNext, tSeq, tAsg, gName]
    -- the balances
    refine ⟨_, rfl, nilI ⟨_, rfl, mkB_line (B := 6) ed1 hl1 ns1 z1 (fun n => by show _ < 64; have := ab1 n; omega) (by decide) fun ba zs H10 s10 pz hb => ?_⟩⟩
    have ed2' := s10 _ _ ed2
    refine ⟨d2, .dK kv2, ed2', True.intro, fun od => ?_⟩
    refine ⟨_, rfl, d2, od, rfl, .inl ⟨kv2, upd_same, fun D nD => ?_⟩⟩
    have nDd : D ≠ d2 := fun e => by rw [e, upd_same] at nD; cases nD
    have hdL : (upd H10 d2 (.frz od (.dK kv2))) d2 = some (.frz od (.dK kv2)) := upd_same
    have ul : ∀ Hx, Same (upd H10 d2 (.frz od (.dK kv2))) Hx → Same H10 (upd Hx d2 (.dK kv2)) := fun Hx s => unlock_same ed2' s
    generalize upd H10 d2 (.frz od (.dK kv2)) = HM at nD hdL ul ⊢
    have lkk := Paired.length hl2
    refine lc_it walk_keys (fun i Hx => Same HM Hx ∧ ∃ ts, Hx D = some (.lst (ts.map V.ref)) ∧ TmP Hx (fun n => wb n * 5) ts (ks2.take i)) ⟨same_upd nD, [], upd_same, .nil⟩ (fun i Hx _ hP => hP.1 _ _ hdL) (fun i x Hx Hx' hi hP hy => ?_) (fun Hx hP => ?_)
    · obtain ⟨rfl, key, v, ek, rfl⟩ := hy
      obtain ⟨sG, ts, hD, hTm⟩ := hP
      obtain ⟨n, en, e1, _⟩ := Paired.at' hl2 i _ ek
      have e1 : key = .inr n := e1
      subst e1
      have mn := List.mem_of_getElem? en
      have dg : DGet Hx' d2 (kV (.inr n)) (some (.int (wb n))) := by
        have z : DGet Hx' d2 (kV (.inr n)) (valV kv2 (.inr n)) := .inl ⟨kv2, .inr n, .inr ⟨od, sG _ _ hdL⟩, rfl, rfl⟩
        rw [hl2.val mn] at z
        exact z
      refine ⟨rfl, yesI ?_⟩
      refine ⟨_, rfl, _, rfl, _, rfl, d2, .int (wb n), rfl, dg, _, _, rfl, rfl, wide_mul (a := 6) (b := 3) (by show _ < 64; have := ab2 n; omega) (by decide) (by decide) (by decide) (by decide), by rw [sizeLine_eq]; show 2 ≤ 16777216; decide, fun q nq => ?_⟩
      have sq := same_upd (o := .tup [V.str n, V.int (wb n * 5)]) nq
      refine ⟨_, sq _ _ hD, ?_, fun a o e => ?_, ts ++ [q], ?_, ?_⟩
      · have f0 := Paired.length hTm
        have f2 := List.length_take (i := i) (l := ks2)
        rw [List.length_map, sizeLine_eq]; omega
      · rw [upd_ne (ne_of_none e nD)]; exact sq _ _ (sG _ _ e)
      · rw [upd_same, List.map_append]
        rfl
      · rw [List.take_add_one, en]
        have hTq : TmP (upd Hx' q (.tup [V.str n, V.int (wb n * 5)])) (fun n => wb n * 5) (ts ++ [q]) (ks2.take i ++ [n]) := Paired.snoc (hTm.same sq) upd_same
        exact Paired.mono' (fun t n e => (upd_ne fun z => by rw [z] at e; have e2 := (sq _ _ hD).symm.trans e; cases e2).trans e) hTq
    obtain ⟨sG, ts, hD, hTm⟩ := hP
    rw [lkk, List.take_length] at hTm
    have hTU : TmP (upd Hx d2 (.dK kv2)) (fun n => wb n * 5) ts ks2 := Paired.mono' (fun t n e => (upd_ne fun z => by rw [z, sG _ _ hdL] at e; cases e).trans e) hTm
    have hDU : (upd Hx d2 (.dK kv2)) D = some (.lst (ts.map V.ref)) := (upd_ne nDd).trans hD
    have sU := ul Hx sG
    refine ⟨sG _ _ hdL, ?_⟩
    generalize upd Hx d2 (.dK kv2) = HU at hTU hDU sU ⊢
    obtain ⟨kv5, r1, r2⟩ := hTU.kvs (K := K)
    refine nilI ⟨D, ts, kv5, rfl, SqL.of hDU, r1, fun p5 np5 => ?_⟩
    rw [mergeK_names r2.kyn ns2.nd]
    have sp := same_upd (o := .dK kv5) np5
    have z5 : ∀ n, wb n * 5 ≠ 0 ↔ n ∈ ks2 := fun n => by rw [← z2]; omega
    refine nilI ⟨_, rfl, mkB_line (B := 8) (upd_same (o := .dK kv5)) r2 ns2 z5 (fun n => by show _ < 256; have := ab2 n; omega) (by decide) fun bo zs2 H11 s11 pz2 ho => nilI ⟨by rw [sizeLine_eq]; show 2 ≤ 16777216; decide, fun p1 n1 => ⟨p1, _, rfl, SqT.of upd_same, rfl, _, _, rfl, _, _, rfl, rfl, ?_⟩⟩⟩
    have q0 := same_upd (o := .tup [.ref ba, .ref bo]) n1
    have sA := s10.trans (sU.trans (sp.trans (s11.trans q0)))
    have hb := hb.same (sU.trans (sp.trans (s11.trans q0)))
    have ho := ho.same q0
    generalize upd H11 p1 (.tup [.ref ba, .ref bo]) = H12 at q0 sA hb ho ⊢
    have ep := sA _ _ ep
    have ed1 := sA _ _ ed1
    have ed2 := sA _ _ ed2
    have tb := tabs_same tb8 sA
    have hT := hT8.same sA
    clear hTm hTU hDU sU sp r1 r2 np5 n1 q0 sA s10 s11 hD sG ul hdL nD nDd tb8 hT8 ed2' lkk tb5
    dsimp only [tNext, tSeq, tAsg, gName]
    -- what is known of them
    have zb0 : ∀ n, ratOf wl n ≠ 0 ↔ n ∈ ks := fun n => (not_congr (ratZero (wl n))).trans (z1 n)
    have znl : zs ≠ [] := fun z => kn1 (by rw [z] at pz; exact pz.symm.eq_nil)
    have l4z : zs.length ≤ 4 := by rw [pz.length_eq]; exact l41
    have zn2 : zs2 ≠ [] := fun z => kn2 (by rw [z] at pz2; exact pz2.symm.eq_nil)
    have l4z2 : zs2.length ≤ 4 := by rw [pz2.length_eq]; exact l42
    have zz1 : ∀ n, wl n ≠ 0 ↔ n ∈ zs := fun n => (z1 n).trans pz.mem_iff.symm
    have zz2 : ∀ n, wb n ≠ 0 ↔ n ∈ zs2 := fun n => (z2 n).trans pz2.mem_iff.symm
    have L : LeastV (ratOf wl) (ratOf wl) zs := least_line gc1 zz1
    have L2' : LeastV (ratOf wb) (ratOf wb) zs2 := least_line gc2 zz2
    have nzl : ∀ n ∈ zs, ratOf wl n ≠ 0 := fun n mn => hb.nz mn
    -- the ratios
    refine ⟨_, rfl, t, c, cells, i5, g5, rfl, hT, f0, by omega, f2, fun r1 x1 i6 g6 H13 hr1 lx1 vx1 sx1 sy1 e0' e1' e2' k7 hT13 => ?_⟩
    refine ⟨_, rfl, t, c, cells, i6, g6, rfl, hT13, e0', by omega, e2', fun r2 x2 i7 g7 H14 hr2 lx2 vx2 sx2 sy2 u0 u1 u2 k8 hT14 => ?_⟩
    have szs : ∀ {x : Int} {b : Nat}, x.natAbs < 2 ^ b → b ≤ 100 → Sz x := fun h hb => sz_of h (by omega)
    refine ⟨r2, rfl, let ⟨dx, e⟩ := hr2; ⟨dx, _, e⟩, r2, x2.1, x2.2, rfl, hr2, szs sx2 (by decide), szs sy2 (by decide), lx2.ne, fun r3 H15 s15 hr3 => ?_⟩
    have kA := k7.trans k8
    have hb := (hb.keep hT kA).same s15
    have ho := (ho.keep hT kA).same s15
    have ep := s15 _ _ (kA _ _ npt ep)
    have ed1 := s15 _ _ (keepL hT kA _ _ ed1 fun _ z => by cases z)
    have ed2 := s15 _ _ (keepL hT kA _ _ ed2 fun _ z => by cases z)
    have tb := tabs_same (tabs_extL tb (keepL hT kA)) s15
    have hr1 := (hr1.keep hT13 k8).same s15
    have hT := hT14.same s15
    clear kA k7 k8 hT13 hT14 s15 hr2
    -- the multiples
    have lx3 : Lo (lowT (-x2.1) x2.2, lowB (-x2.1) x2.2) := lo_low lx2.ne
    have vx3 : val (lowT (-x2.1) x2.2, lowB (-x2.1) x2.2) < 0 := by
      have e : val (lowT (-x2.1) x2.2, lowB (-x2.1) x2.2) = val (-x2.1, x2.2) := val_low lx2.ne
      rw [e, val_neg]
      grind
    have sx3 : (lowT (-x2.1) x2.2).natAbs < 2 ^ 67 ∧ (lowB (-x2.1) x2.2).natAbs < 2 ^ 4 := ⟨low_szT lx2.ne (by rw [Int.natAbs_neg]; exact sx2), low_szB lx2.ne sy2⟩
    generalize lowT (-x2.1) x2.2 = y3 at hr3 lx3 vx3 sx3
    generalize lowB (-x2.1) x2.2 = y4 at hr3 lx3 vx3 sx3
    clear lx2 vx2 sx2 sy2
    -- the pair, the comparison
    refine ⟨_, rfl, _, rfl, .inl ⟨ba, ratOf wl, zs, 6, 1, rfl, hb, by decide, by decide, l4z, znl, fun u LLa pp H16 s16 _ hp => ?_⟩⟩
    obtain rfl := L.one LLa
    clear LLa
    have hb1 := hb.same s16
    refine ⟨_, rfl, _, rfl, _, _, rfl, .inl ⟨ba, ratOf wl, zs, 6, 1, kd, rfl, rfl, hb1, by decide, by decide, l4z, znl, fun u LL mm H17 s17 _ hm => ?_⟩⟩
    obtain rfl := L.one LL
    refine nilI ⟨by rw [sizeLine_eq]; show 4 ≤ 16777216; decide, fun p1 n1 => ⟨p1, _, rfl, SqT.of upd_same, rfl, _, _, rfl, _, _, rfl, _, _, rfl, _, _, rfl, rfl, ?_⟩⟩
    have q0 := same_upd (o := .tup [.ref r1, .ref r3, .ref pp, .ref mm]) n1
    have sA := s16.trans (s17.trans q0)
    have hp := hp.same (s17.trans q0)
    have hm := hm.same q0
    generalize upd H17 p1 (.tup [.ref r1, .ref r3, .ref pp, .ref mm]) = H0 at q0 sA hp hm ⊢
    have hb := hb.same sA
    have ho := ho.same sA
    have ep := sA _ _ ep
    have ed1 := sA _ _ ed1
    have ed2 := sA _ _ ed2
    have tb := tabs_same tb sA
    have hr1 := hr1.same sA
    have hr3 := hr3.same sA
    have hT := hT.same sA
    clear q0 n1 sA s16 s17 hb1 LL
    dsimp only [tNext, tSeq, tAsg, gName]
    have st0 : L2.start nsLw [V.ref a] = [some (.ref a), none, none, none, none, none, none, none, none, none, none, none, none, none, none, none, none] := rfl
    rw [st0]
    simp only [List.set_cons_zero, List.set_cons_succ]
    have hr1n : val x1 ≠ 0 := by grind
    have hr3n : val (y3, y4) ≠ 0 := by grind
    have nfP := Z.RF.FK.Z.nfP
    have mulP : ∀ {Hx : Hp} {Q2 : VK}, Same H0 Hx → (∀ b2 H2, Same Hx H2 → BX H2 b2 CB C (fun n => ratOf wl n * val x1) zs 73 5 → Q2 (.ref b2) H2) → rOwnN CB C (spMulB CB C) E0 (.ref ba) (.ref r1) Hx Q2 := fun {Hx Q2} s q =>
      ⟨ba, rfl, (hb.same s).ins, .inl ⟨r1, rfl, let ⟨dx, e⟩ := hr1.same s; ⟨dx, _, e⟩⟩, _, _, rfl, (hb.same s).times (r := x1) (i := 67) (j := 4) ⟨by decide, by decide⟩ (.inl ⟨r1, rfl, hr1.same s⟩) ⟨sx1, sy1⟩ ⟨by decide, by decide⟩ lx1.ne fun b2 zs' H2 s2 _ ez h2 => by
        obtain rfl := ez hr1n
        exact q b2 H2 s2 h2⟩
    have mulN : ∀ {Hx : Hp} {Q2 : VK}, Same H0 Hx → (∀ b2 H2, Same Hx H2 → BX H2 b2 CB C (fun n => ratOf wl n * val (y3, y4)) zs 73 5 → Q2 (.ref b2) H2) → rOwnN CB C (spMulB CB C) E0 (.ref ba) (.ref r3) Hx Q2 := fun {Hx Q2} s q =>
      ⟨ba, rfl, (hb.same s).ins, .inl ⟨r3, rfl, let ⟨dx, e⟩ := hr3.same s; ⟨dx, _, e⟩⟩, _, _, rfl, (hb.same s).times (r := (y3, y4)) (i := 67) (j := 4) ⟨by decide, by decide⟩ (.inl ⟨r3, rfl, hr3.same s⟩) sx3 ⟨by decide, by decide⟩ lx3.ne fun b2 zs' H2 s2 _ ez h2 => by
        obtain rfl := ez hr3n
        exact q b2 H2 s2 h2⟩
    have eqPP : ∀ {Hx : Hp} {p2 : Addr} {u2 : Str → Rat} {zs' : List Str} {B2 c2 : Nat} {Q2 : VK}, Same H0 Hx → PairAt Hx p2 CP CB C u2 zs' B2 c2 → (∀ bl : Bool, (bl = true ↔ ∀ n, u2 n = upV (ratOf wl) zs n) → Q2 (.bl bl) Hx) → spEqP K CP CB C [.ref p2, .ref pp] Hx Q2 E0 := fun {Hx p2 u2 zs' B2 c2 Q2} s h q =>
      ⟨p2, .ref pp, u2, zs', B2, c2, rfl, h, .inl ⟨pp, _, zs, _, _, rfl, hp.same s, q⟩⟩
    have eqCC : ∀ {Hx : Hp} {p2 : Addr} {k2 : Kd} {u2 : Str → Rat} {zs' : List Str} {B2 c2 : Nat} {Q2 : VK}, Same H0 Hx → CompAt Hx p2 CM CP CB C k2 u2 zs' B2 c2 → (∀ bl : Bool, (bl = true ↔ k2 = kd ∧ ∀ n, u2 n = kupV kd (ratOf wl) zs n) → Q2 (.bl bl) Hx) → spEqC K CM CP CB C [.ref p2, .ref mm] Hx Q2 E0 := fun {Hx p2 k2 u2 zs' B2 c2 Q2} s h q =>
      ⟨p2, .ref mm, k2, u2, zs', B2, c2, rfl, h, .inl ⟨mm, kd, _, zs, _, _, rfl, hm.same s, q⟩⟩
    have sr : Same H0 H0 := Same.refl _
    -- the multiples' pair, their comparison
    refine ⟨_, rfl, _, rfl, mulP sr fun b2 H2 s2 h2 => nilI ⟨_, rfl, .inl ⟨b2, _, zs, 73, 5, rfl, h2, by decide, by decide, l4z, znl, fun u LL p2 H3 s3 _ hp2 => ?_⟩⟩⟩
    obtain rfl := least_pos L vx1 LL
    have t3 := s2.trans s3
    refine ⟨_, rfl, p2, .ref CP, rfl, hp2.ins, ty_ins (hp.same t3).ins, nfP, eqPP t3 hp2 fun bl e => ⟨bl, rfl, ?_⟩⟩
    obtain rfl : bl = true := e.mpr fun n => rfl
    refine ⟨false, rfl, iteF ?_⟩
    clear hp2 h2 LL e s2 s3
    refine ⟨_, rfl, _, rfl, mulN t3 fun b2 H4 s4 h2 => nilI ⟨_, rfl, .inl ⟨b2, _, zs, 73, 5, rfl, h2, by decide, by decide, l4z, znl, fun u LL p2 H5 s5 _ hp2 => ?_⟩⟩⟩
    obtain rfl := least_neg L vx3 LL
    have t5 := t3.trans (s4.trans s5)
    refine ⟨_, rfl, p2, .ref CP, rfl, hp2.ins, ty_ins (hp.same t5).ins, nfP, eqPP t5 hp2 fun bl e => ⟨bl, rfl, ?_⟩⟩
    obtain rfl : bl = true := e.mpr fun n => by rw [upV_negv nzl znl]
    refine ⟨false, rfl, iteF ?_⟩
    clear hp2 h2 LL e s4 s5 t3
    refine ⟨_, rfl, _, rfl, mulP t5 fun b2 H6 s6 h2 => ⟨_, rfl, nilI ⟨_, _, rfl, .inl ⟨b2, _, zs, 73, 5, kd, rfl, rfl, h2, by decide, by decide, l4z, znl, fun u LL m2 H7 s7 _ hm2 => ?_⟩⟩⟩⟩
    obtain rfl := least_pos L vx1 LL
    have t7 := t5.trans (s6.trans s7)
    refine ⟨_, rfl, m2, .ref CM, rfl, hm2.ins, ty_ins (hm.same t7).ins, M.nf, eqCC t7 hm2 fun bl e => ⟨bl, rfl, ?_⟩⟩
    obtain rfl : bl = true := e.mpr ⟨rfl, fun n => rfl⟩
    refine ⟨false, rfl, iteF ?_⟩
    clear hm2 h2 LL e s6 s7 t5
    dsimp only [tNext, tSeq]
    -- below 0
    refine ⟨_, rfl, _, rfl, mulN t7 fun b2 H8 s8 h2 => ⟨_, rfl, nilI ⟨_, _, rfl, .inl ⟨b2, _, zs, 73, 5, kd, rfl, rfl, h2, by decide, by decide, l4z, znl, fun u LL m2 H9' s9 _ hm2 => ?_⟩⟩⟩⟩
    obtain rfl := least_neg L vx3 LL
    have t9 := t7.trans (s8.trans s9)
    refine ⟨_, rfl, m2, .ref CM, rfl, hm2.ins, ty_ins (hm.same t9).ins, M.nf, eqCC t9 hm2 fun bl e => ⟨bl, rfl, ?_⟩⟩
    have eb : bl = decide (V.str kd.s = V.str (Str.ofString "=")) := by
      obtain ⟨z, tz, rfl⟩ : ∃ z tz, zs = z :: tz := by
        cases zs with
        | nil => exact absurd rfl znl
        | cons z tz => exact ⟨z, tz, rfl⟩
      have n0 := nzl z List.mem_cons_self
      cases kd
      · cases bl with
        | false => rfl
        | true =>
          have q := (e.mp rfl).2 z
          exfalso
          have q : -ratOf wl z = ratOf wl z := q
          grind
      · cases bl with
        | false => rfl
        | true =>
          have q := (e.mp rfl).2 z
          exfalso
          have q : -ratOf wl z = ratOf wl z := q
          grind
      · exact e.mpr ⟨rfl, fun n => by
          show upV (fun n => -ratOf wl n) (z :: tz) n = upV (ratOf wl) (z :: tz) n
          rw [upV_negv nzl znl]⟩
    subst eb
    refine ⟨_, rfl, rfl, rfl, false, congrArg V.bl (by simp), iteF ?_⟩
    clear hm2 h2 LL e s8 s9 t7
    have ixl : IxOk wl ks := fun n mn => ⟨Nat.lt_of_le_of_lt (ab1 n) (by decide), Nat.le_trans (sub1 n mn).2 (by decide)⟩
    refine ⟨_, rfl, _, rfl, _, rfl, _, rfl, mulP t9 fun b3 H10' s10 h3' => ⟨_, rfl, nilI ⟨_, _, rfl, .inl ⟨b3, _, zs, 73, 5, kd, rfl, rfl, h3', by decide, by decide, l4z, znl, fun u LL m3 H11' s11 _ hm3 => ?_⟩⟩⟩⟩
    obtain rfl := least_pos L vx1 LL
    have t11 := t9.trans (s10.trans s11)
    refine ⟨_, rfl, _, rfl, mulN t11 fun b4 H12' s12 h4' => nilI ⟨_, rfl, .inl ⟨b4, _, zs, 73, 5, rfl, h4', by decide, by decide, l4z, znl, fun u LL2 p3 H13' s13 _ hp3 => nilI ?_⟩⟩⟩
    obtain rfl := least_neg L vx3 LL2
    rw [upV_negv nzl znl] at hp3
    have t13 := t11.trans (s12.trans s13)
    refine ⟨d1, m3, p3, kv1, ks, wl, kd, zs, _, _, _, _, rfl, t13 _ _ ed1, hl1, ns1.nd, kn1, l41, ixl, z1, hm3.same (s12.trans s13), hp3, by decide, by decide, by decide, by decide, L, fun H14' s14 => ⟨true, rfl, iteF ?_⟩⟩
    have t14 := t13.trans s14
    clear hm3 hp3 h3' h4' LL LL2 s10 s11 s12 s13 s14 t9 t11 t13
    dsimp only [tNext, tSeq]
    -- compared
    have one1 : ((1 : Int) : Rat) = 1 := rfl
    have onem : ((-1 : Int) : Rat) = -1 := rfl
    have zzl : ∀ n, ratOf wl n ≠ 0 ↔ n ∈ zs := fun n => (zb0 n).trans pz.mem_iff.symm
    have somel : ∃ n, ratOf wl n ≠ 0 := by
      obtain ⟨z, tz, e⟩ : ∃ z tz, zs = z :: tz := by
        cases zs with
        | nil => exact absurd rfl znl
        | cons z tz => exact ⟨z, tz, rfl⟩
      exact ⟨z, (zzl z).mpr (by rw [e]; exact List.mem_cons_self)⟩
    have f1 : (fun n => (ratOf wl n + ratOf (fun n => wb n * 5) n * ((1 : Int) : Rat)) + ratOf (fun n => wb n * 5) n * ((-1 : Int) : Rat)) = ratOf wl := by
      funext n
      rw [one1, onem]
      grind
    have hbx := hb.same t14
    have hox := ho.same t14
    refine ⟨_, rfl, _, rfl, ba, bo, rfl, rfl, hbx.ins, hox.ins, hbx.sum hox ⟨by decide, by decide, by decide, by decide⟩ (by omega) (.inl rfl) fun b2 zsA H15' s15 lA h2 => ⟨_, rfl, _, rfl, nilI ⟨_, _, _, rfl, .inl ⟨b2, bo, kd, _, _, zsA, zs2, _, _, _, _, rfl, rfl, rfl, h2, hox.same s15, by decide, by decide, by omega, ?_, ?_, fun m2 zs' u H16' s16 LL all hm2 => ?_⟩⟩⟩⟩
    · rw [f1]; exact ⟨zs, l4z, fun n h => (zzl n).mp h⟩
    · obtain ⟨n, e⟩ := somel
      exact ⟨n, by rw [congrFun f1 n]; exact e⟩
    rw [f1] at LL
    obtain rfl := zs_same zzl LL (fun n h => all n (by rw [congrFun f1 n]; exact h)) hm2 hb
    obtain rfl := L.one LL
    have t16 := t14.trans (s15.trans s16)
    refine ⟨_, rfl, m2, .ref CM, rfl, hm2.ins, ty_ins (hm.same t16).ins, M.nf, eqCC t16 hm2 fun bl e => ⟨bl, rfl, ?_⟩⟩
    obtain rfl : bl = true := e.mpr ⟨rfl, fun n => rfl⟩
    refine ⟨false, rfl, iteF ?_⟩
    clear hm2 h2 LL all e s15 s16 t14 hbx hox f1
    have hbx := hb.same t16
    have hox := ho.same t16
    have hrx := hr1.same t16
    have insR : ∀ {Hx : Hp}, Same H0 Hx → InsAt Hx r1 C := fun s => let ⟨dx, e⟩ := hr1.same s; ⟨dx, _, e⟩
    have f2 : (fun n => (ratOf (fun n => wb n * 5) n * val x1) + ((ratOf (fun n => wb n * 5) n + ratOf wl n * ((-1 : Int) : Rat)) * val x1) * ((-1 : Int) : Rat)) = fun n => ratOf wl n * val x1 := by
      funext n
      rw [onem]
      grind
    have zzt : ∀ n, ratOf wl n * val x1 ≠ 0 ↔ n ∈ zs' := fun n => by
      rw [← zzl]
      constructor
      · intro h c
        exact h (by rw [c]; grind)
      · intro h c
        rcases Rat.mul_eq_zero.mp c with c | c
        · exact h c
        · exact hr1n c
    refine ⟨_, rfl, _, rfl, bo, rfl, hox.ins, .inl ⟨r1, rfl, insR t16⟩, _, _, rfl, hox.times (r := x1) (i := 67) (j := 4) ⟨by decide, by decide⟩ (.inl ⟨r1, rfl, hrx⟩) ⟨sx1, sy1⟩ ⟨by decide, by decide⟩ lx1.ne fun b2 zA H17' s17 _ ez h2 => ?_⟩
    obtain rfl := ez hr1n
    have t17 := t16.trans s17
    refine ⟨_, rfl, _, rfl, _, rfl, bo, ba, rfl, rfl, (ho.same t17).ins, (hb.same t17).ins, (ho.same t17).sum (hb.same t17) ⟨by decide, by decide, by decide, by decide⟩ (by omega) (.inr rfl) fun b3 zB H18' s18 lB h3' => ?_⟩
    have t18 := t17.trans s18
    refine ⟨_, rfl, b3, rfl, h3'.ins, .inl ⟨r1, rfl, insR t18⟩, _, _, rfl, h3'.times (r := x1) (i := 67) (j := 4) ⟨by decide, by decide⟩ (.inl ⟨r1, rfl, hr1.same t18⟩) ⟨sx1, sy1⟩ ⟨by decide, by decide⟩ lx1.ne fun b4 zC H19' s19 _ ezC h4' => ?_⟩
    obtain rfl := ezC hr1n
    refine nilI ⟨_, _, _, rfl, .inl ⟨b2, b4, kd, _, _, _, _, _, _, _, _, rfl, rfl, rfl, h2.same (s18.trans s19), h4', by decide, by decide, by omega, ?_, ?_, fun m2 zq u H20' s20 LL all hm2 => ?_⟩⟩
    · rw [f2]; exact ⟨zs', l4z, fun n h => (zzt n).mp h⟩
    · obtain ⟨n, e⟩ := somel
      exact ⟨n, by rw [congrFun f2 n]; exact (zzt n).mpr ((zzl n).mp e)⟩
    rw [f2] at LL
    obtain rfl := zs_same zzt LL (fun n h => all n (by rw [congrFun f2 n]; exact h)) hm2 hb
    obtain rfl := least_pos L vx1 LL
    have t20 := t18.trans (s19.trans s20)
    refine ⟨_, rfl, m2, .ref CM, rfl, hm2.ins, ty_ins (hm.same t20).ins, M.nf, eqCC t20 hm2 fun bl e => ⟨bl, rfl, ?_⟩⟩
    obtain rfl : bl = true := e.mpr ⟨rfl, fun n => rfl⟩
    refine ⟨false, rfl, iteF ?_⟩
    clear hm2 h2 h3' h4' LL all e ez ezC s17 s18 s19 s20 t16 t17 t18 f2 hbx hox hrx
    dsimp only [tNext, tSeq]
    have f3 : (fun n => (-ratOf (fun n => wb n * 5) n) + ((-ratOf (fun n => wb n * 5) n) + ratOf wl n * ((-1 : Int) : Rat)) * ((-1 : Int) : Rat)) = ratOf wl := by
      funext n
      rw [onem]
      grind
    refine ⟨_, rfl, bo, rfl, (ho.same t20).ins, (ho.same t20).neg ⟨by decide, by decide⟩ fun b2 H21' s21 h2 => ?_⟩
    have t21 := t20.trans s21
    refine ⟨_, rfl, _, rfl, bo, rfl, (ho.same t21).ins, (ho.same t21).neg ⟨by decide, by decide⟩ fun b3 H22' s22 h3' => ?_⟩
    have t22 := t21.trans s22
    refine ⟨_, rfl, b3, ba, rfl, rfl, h3'.ins, (hb.same t22).ins, h3'.sum (hb.same t22) ⟨by decide, by decide, by decide, by decide⟩ (by omega) (.inr rfl) fun b4 zD H23' s23 lD h4' => ?_⟩
    refine nilI ⟨_, _, _, rfl, .inl ⟨b2, b4, kd, _, _, _, _, _, _, _, _, rfl, rfl, rfl, h2.same (s22.trans s23), h4', by decide, by decide, by omega, ?_, ?_, fun m2 zr u H24' s24 LL all hm2 => ?_⟩⟩
    · rw [f3]; exact ⟨_, l4z, fun n h => (zzl n).mp h⟩
    · obtain ⟨n, e⟩ := somel
      exact ⟨n, by rw [congrFun f3 n]; exact e⟩
    rw [f3] at LL
    have ezr := zs_same zzl LL (fun n h => all n (by rw [congrFun f3 n]; exact h)) hm2 hb
    subst ezr
    obtain rfl := L.one LL
    have t24 := t22.trans (s23.trans s24)
    refine ⟨_, rfl, m2, .ref CM, rfl, hm2.ins, ty_ins (hm.same t24).ins, M.nf, eqCC t24 hm2 fun bl e => ⟨bl, rfl, ?_⟩⟩
    obtain rfl : bl = true := e.mpr ⟨rfl, fun n => rfl⟩
    refine ⟨false, rfl, iteF ?_⟩
    clear hm2 h2 h3' h4' LL all e s21 s22 s23 s24 t20 t21 t22 f3
    -- the contraries
    refine ⟨_, rfl, _, rfl, nilI ⟨mm, kd, _, _, _, _, rfl, hm.same t24, by decide, by decide, l4z, znl, L.kup, fun H25' s25 => ⟨true, rfl, iteF ?_⟩⟩⟩
    have t25 := t24.trans s25
    clear t24 s25
    dsimp only [tNext, tSeq, tAsg, gName]
    -- alike
    have sz1 : sortedS zr = true := hb.so
    have sz2 : sortedS zA = true := ho.so
    refine ⟨_, rfl, nilI ⟨d2, kv2, ks2, wb, rfl, t25 _ _ ed2, hl2, ns2.nd, kn2, l42, fun q2 kq2 ys2 H26 s26 py2 sy2 hq2 hlq2 => ?_⟩⟩
    obtain rfl : ys2 = zA := sorted_unique sy2 sz2 (py2.trans pz2.symm)
    refine ⟨_, rfl, nilI ⟨d1, kv1, ks, wl, rfl, s26 _ _ (t25 _ _ ed1), hl1, ns1.nd, kn1, l41, fun q1 kq1 ys1 H27 s27 py1 sy1 hq1 hlq1 => ?_⟩⟩
    obtain rfl : ys1 = zr := sorted_unique sy1 sz1 (py1.trans pz.symm)
    refine ⟨q2, q1, kq2, kq1, rfl, rfl, s27 _ _ hq2, hq1, hlq2.ints, hlq1.ints, ?_⟩
    have hal := line_eq hlq2 hlq1 ns2.nd ns1.nd (fun n => (upW_ne _ _ n).trans (z2 n)) (fun n => (upW_ne _ _ n).trans (z1 n))
    generalize (kq2.length == kq1.length && hitB kq1 kq2) = al at hal ⊢
    have t27 := t25.trans (s26.trans s27)
    clear hq1 hq2 hlq1 hlq2 s26 s27 t25 py1 py2 sy1 sy2
    dsimp only [tNext, tSeq, tAsg, gName]
    -- the other's pair, its comparison
    have f5 : ratOf (fun n => wb n * 5) = fun n => ratOf wb n * ((5 : Int) : Rat) := by
      funext n
      exact Rat.intCast_mul _ _
    have five : (0 : Rat) < ((5 : Int) : Rat) := (ratPos 5).mpr (by decide)
    have nzw1 : ∀ n ∈ ys1, wl n ≠ 0 := fun n mn => (z1 n).mpr (pz.mem_iff.mp mn)
    have nzw2 : ∀ n ∈ ys2, wb n ≠ 0 := fun n mn => (z2 n).mpr (pz2.mem_iff.mp mn)
    have up1 : ∀ n, upV (ratOf wl) ys1 n = ((upW wl ys1 n : Int) : Rat) := up_int (fun _ => rfl) znl nzw1
    have up2 : ∀ n, upV (ratOf wb) ys2 n = ((upW wb ys2 n : Int) : Rat) := up_int (fun _ => rfl) zn2 nzw2
    have hal2 : al = true ↔ ∀ n, upV (ratOf wb) ys2 n = upV (ratOf wl) ys1 n := by
      rw [hal]
      exact forall_congr' fun n => by rw [up1 n, up2 n, ratInj]
    refine ⟨_, rfl, _, rfl, .inl ⟨bo, _, ys2, 8, 1, rfl, ho.same t27, by decide, by decide, l4z2, zn2, fun u LL p2 H28 s28 _ hp2 => ?_⟩⟩
    rw [f5] at LL
    obtain rfl := least_pos L2' five LL
    have t28 := t27.trans s28
    refine ⟨_, rfl, p2, .ref CP, rfl, hp2.ins, ty_ins (hp.same t28).ins, nfP, eqPP t28 hp2 fun bl e => ⟨bl, rfl, ?_⟩⟩
    obtain rfl : bl = al := Bool.eq_iff_iff.mpr (e.trans hal2.symm)
    refine ⟨_, rfl, rfl, false, congrArg V.bl (by simp), iteF ?_⟩
    clear hp2 LL e s28 t27
    refine ⟨_, rfl, _, rfl, _, _, rfl, .inl ⟨bo, _, ys2, 8, 1, kd, rfl, rfl, ho.same t28, by decide, by decide, l4z2, zn2, fun u LL m2 H29 s29 _ hm2 => ?_⟩⟩
    rw [f5] at LL
    obtain rfl := least_pos L2' five LL
    have t29 := t28.trans s29
    refine ⟨_, rfl, m2, .ref CM, rfl, hm2.ins, ty_ins (hm.same t29).ins, M.nf, eqCC t29 hm2 fun b2 e => ⟨b2, rfl, ?_⟩⟩
    have hde := line_eq hl2 hl1 ns2.nd ns1.nd z2 z1
    have br : ∀ (Q2 : VK), Q2 (.bl b2) H29 → tIf (tTest (tOp rEq (tVar 3) (tC (V.str (Str.ofString "="))))) (tVar 12) (tOp rEqDZ (tVar 5) (tVar 4)) [some (.ref a), some (.ref t), some (.ref p), some (.str kd.s), some (.ref d1), some (.ref d2), some (.ref ba), some (.ref bo), some (.ref r1), some (.ref r3), some (.ref pp), some (.ref mm), some (.bl bl), none, none, none, none] H29 Q2 := by
      intro Q2 q
      by_cases ck : kd = .eq
      · have eb : b2 = bl := Bool.eq_iff_iff.mpr (e.trans ⟨fun h => hal2.mpr (by subst ck; exact h.2), fun h => ⟨rfl, by subst ck; exact hal2.mp h⟩⟩)
        rw [eb] at q
        subst ck
        exact ⟨_, rfl, rfl, true, rfl, iteT ⟨_, rfl, q⟩⟩
      · have e2 : decide (V.str kd.s = V.str "=") = false := by cases kd <;> first | rfl | exact absurd rfl ck
        refine ⟨_, rfl, rfl, false, congrArg V.bl e2, iteF ?_⟩
        have eb : b2 = (kv2.length == kv1.length && hitB kv1 kv2) := by
          refine Bool.eq_iff_iff.mpr (e.trans ?_)
          rw [hde, show kupV kd (ratOf wb) ys2 = ratOf wb from if_neg ck, show kupV kd (ratOf wl) ys1 = ratOf wl from if_neg ck]
          exact ⟨fun h n => ratInj.mp (h.2 n), fun h => ⟨rfl, fun n => by show ((wb n : Int) : Rat) = ((wl n : Int) : Rat); rw [h n]⟩⟩
        refine ⟨_, rfl, _, rfl, d2, d1, kv2, kv1, rfl, rfl, t29 _ _ ed2, t29 _ _ ed1, hl2.ints, hl1.ints, ?_⟩
        rw [← eb]
        exact q
    refine br _ ?_
    refine ⟨rfl, false, congrArg V.bl (by simp), iteF ?_⟩
    clear br hm2 LL e hde hal hal2 s29 t28
    dsimp only [tNext, tSeq]
    simp only [List.set_cons_zero, List.set_cons_succ]
    -- which kind
    refine ⟨by rw [sizeLine_eq]; show 3 ≤ 16777216; decide, fun u1' nu1 => ⟨u1', rfl, ⟨_, SqT.of upd_same⟩, fun D nD => ?_⟩⟩
    have st := same_upd (o := .tup [V.str (Str.ofString ">"), V.str (Str.ofString ">="), V.str (Str.ofString "=")]) nu1
    have ht : (upd H29 u1' (.tup [V.str (Str.ofString ">"), V.str (Str.ofString ">="), V.str (Str.ofString "=")])) u1' = some (.tup (([Kd.gt, Kd.ge, Kd.eq] : List Kd).map fun k => V.str k.s)) := upd_same
    have t30 := t29.trans st
    generalize upd H29 u1' (.tup [V.str (Str.ofString ">"), V.str (Str.ofString ">="), V.str (Str.ofString "=")]) = H30 at ht t30 nD ⊢
    clear st t29 nu1
    refine lc_it (walk_tup (xs := ([Kd.gt, Kd.ge, Kd.eq] : List Kd).map fun k => V.str k.s)) (fun j Hx => Same H30 Hx ∧ Hx D = some (.lst [])) ⟨same_upd nD, upd_same⟩ (fun j Hx _ hP => SqT.of (hP.1 _ _ ht)) (fun j x Hx Hx' hj hP hy => ?_) (fun Hx hP => ?_)
    · obtain ⟨rfl, ex⟩ := hy
      obtain ⟨s2, hD⟩ := hP
      rw [List.getElem?_map] at ex
      obtain ⟨k', _, rfl⟩ := Option.map_eq_some_iff.mp ex
      have t31 := t30.trans s2
      refine ⟨rfl, ?_⟩
      refine ⟨_, rfl, _, rfl, _, _, rfl, .inl ⟨ba, ratOf wl, ys1, 6, 1, k', rfl, rfl, hb.same t31, by decide, by decide, l4z, znl, fun u LL m2 H32 s3 _ hm2 => ?_⟩⟩
      obtain rfl := L.one LL
      have t32 := t31.trans s3
      refine ⟨_, rfl, m2, mm, rfl, rfl, hm2.ins, (hm.same t32).ins, eqCC t32 hm2 fun bl2 e => ⟨bl2, rfl, ?_⟩⟩
      have eb : bl2 = decide (V.str k'.s = V.str kd.s) := by
        have dk : decide (V.str k'.s = V.str kd.s) = decide (k' = kd) := by cases k' <;> cases kd <;> rfl
        rw [dk]
        refine Bool.eq_iff_iff.mpr (e.trans ?_)
        rw [decide_eq_true_iff]
        exact ⟨fun h => h.1, fun h => ⟨h, fun n => by rw [h]⟩⟩
      subst eb
      refine ⟨_, rfl, _, rfl, rfl, rfl, false, congrArg V.bl (by simp), iteF ⟨s2.trans s3, s3 _ _ hD⟩⟩
    obtain ⟨s2, hD⟩ := hP
    have t31 := t30.trans s2
    refine ⟨by rw [sizeLine_eq]; exact Nat.zero_le _, fun q2 nq2 => ?_⟩
    have sq2 : Same Hx (upd Hx q2 (.lst [])) := same_upd nq2
    refine ⟨.list [], .list [], .lst (SqL.of (sq2 _ _ hD)) .nil, .lst (SqL.of upd_same) .nil, rfl, rfl, by decide, false, rfl, iteF ?_⟩
    have t32 := t31.trans sq2
    generalize upd Hx q2 (.lst []) = H33 at t32 ⊢
    clear t31 t30 s2 hD nD ht sq2 nq2
    dsimp only [tNext, tSeq]
    -- what is no pair, no comparison
    have tyB : ∀ {Hx : Hp}, Same H0 Hx → TyX K Hx (.ref ba) (.ref CB) := fun s => by
      obtain ⟨g, h1, _⟩ := hb.same s
      exact W.tyB _ _ _ _ h1
    refine ⟨_, rfl, _, rfl, pp, .ref CM, rfl, (hp.same t32).ins, ty_ins (hm.same t32).ins, Z.nPM, ⟨pp, .ref mm, _, _, _, _, rfl, hp.same t32, .inr ⟨⟨_, Z.YM.ty _ _ (hm.same t32).ins, Z.kMP⟩, false, rfl, false, rfl, iteF ?_⟩⟩⟩
    refine ⟨_, rfl, _, rfl, pp, .ref CB, rfl, (hp.same t32).ins, ty_ins (hb.same t32).ins, Z.nPB, ⟨pp, .ref ba, _, _, _, _, rfl, hp.same t32, .inr ⟨⟨_, tyB t32, Z.kBP⟩, false, rfl, false, rfl, iteF ?_⟩⟩⟩
    refine ⟨_, rfl, _, rfl, mm, rfl, (hm.same t32).ins, mm, kd, _, _, _, _, rfl, hm.same t32, by decide, by decide, l4z, fun H34 s34 => ⟨_, rfl, ?_⟩⟩
    have t34 := t32.trans s34
    refine ⟨mm, .type "str", rfl, (hm.same t34).ins, ty_plain (plainT_str _), Z.nMS, ⟨mm, _, kd, _, _, _, _, rfl, hm.same t34, .inr ⟨⟨_, .base (.str _), Z.kSM⟩, false, rfl, false, rfl, iteF ?_⟩⟩⟩
    refine ⟨_, rfl, _, rfl, mm, .ref CB, rfl, (hm.same t34).ins, ty_ins (hb.same t34).ins, Z.nMB, ⟨mm, .ref ba, kd, _, _, _, _, rfl, hm.same t34, .inr ⟨⟨_, tyB t34, Z.kBM⟩, false, rfl, false, rfl, iteF ?_⟩⟩⟩
    clear t32 s34
    dsimp only [tNext, tSeq]
    have subT : ∀ n ∈ ys1, n ∈ th := fun n mn => (sub1 n (pz.mem_iff.mp mn)).1
    have hbX := hb.same t34
    have hpX := hp.same t34
    have epX := t34 _ _ ep
    have tbX := tabs_same tb t34
    have hTX := hT.same t34
    clear hb ho hp hm ep ed1 ed2 tb hr1 hr3 hT mulP mulN eqPP eqCC tyB insR sr t34
    have lt4 : th.length ≤ 4 := ok.le
    refine ⟨2, rfl, by decide, by decide, fun D nD => ?_⟩
    have nDt : D ≠ t := fun e => by rw [e, hTX.ht] at nD; cases nD
    have nDc : D ≠ c := fun e => by rw [e, hTX.hc] at nD; cases nD
    refine lc_it (walk_range (lo := 0) (n := 2)) (fun j Hx => Keep t H34 Hx ∧ ∃ (i g : Int) (scs : List Addr), 0 ≤ i ∧ i ≤ i7 + 4 * (j : Nat) ∧ 0 ≤ g ∧ Till Hx t c cells i g ∧ Hx D = some (.lst (scs.map V.ref)) ∧ scs.length ≤ j ∧ ∀ s ∈ scs, ScOk Hx CS C ys1 s)
      ⟨Same.keep (same_upd nD), i7, g7, [], u0, by omega, u2, hTX.same (same_upd nD), upd_same, Nat.le_refl _, fun s m => by cases m⟩ (fun j Hx _ hP => True.intro) (fun j x Hx Hx' hj hP hy => ?_) (fun Hx hP => ?_)
    · obtain ⟨rfl, rfl⟩ := hy
      obtain ⟨kp, i, g, scs, a0', a1', a2', hTx, hD, hl, hsc⟩ := hP
      refine ⟨rfl, yesI ?_⟩
      refine ⟨_, rfl, p, rfl, ⟨_, SqL.of (kp _ _ npt epX)⟩, fun D2 nD2 => ?_⟩
      have nD2t : D2 ≠ t := fun e => by rw [e, hTx.ht] at nD2; cases nD2
      have nD2c : D2 ≠ c := fun e => by rw [e, hTx.hc] at nD2; cases nD2
      refine lc_it (walk_list (xs := th.map V.str)) (fun j2 Hy => Keep t Hx' Hy ∧ (∃ i' g', 0 ≤ i' ∧ i' ≤ i + (j2 : Nat) ∧ 0 ≤ g' ∧ Till Hy t c cells i' g') ∧ ∃ (ps : List Addr) (w : Str → Int), Hy D2 = some (.lst (ps.map V.ref)) ∧ TmP Hy w ps (th.take j2) ∧ ∀ n, (w n).natAbs ≤ 3)
        ⟨Same.keep (same_upd nD2), ⟨i, g, a0', by omega, a2', hTx.same (same_upd nD2)⟩, [], fun _ => 0, upd_same, .nil, fun _ => Nat.zero_le _⟩ (fun j2 Hy _ hP => SqL.of (hP.1 _ _ npt (kp _ _ npt epX))) (fun j2 x Hy Hy' hj2 hP hy => ?_) (fun Hy hP => ?_)
      · obtain ⟨rfl, ex⟩ := hy
        obtain ⟨kp2, ⟨i', g', b0', b1', b2', hTy⟩, ps, w, hD2, hN, wz⟩ := hP
        rw [List.getElem?_map] at ex
        obtain ⟨n, en, rfl⟩ := Option.map_eq_some_iff.mp ex
        have jl : j2 < th.length := (List.getElem?_eq_some_iff.mp en).1
        have hj : j < 2 := hj
        refine ⟨rfl, yesI ?_⟩
        refine ⟨_, rfl, _, rfl, consC ⟨t, c, cells, i', g', 7, rfl, hTy, b0', by omega, b2', by decide, by decide, fun m i2 g2 H2 m0 m1 d0 d1 d2 kp3 hT2 => ?_⟩⟩
        refine ⟨_, _, rfl, rfl, nilI ⟨by rw [sizeLine_eq]; show 2 ≤ 16777216; decide, fun q nq => ?_⟩⟩
        have mz : (m - 3).natAbs ≤ 3 := by omega
        have sq := same_upd (o := .tup [V.str n, V.int (m - 3)]) nq
        have hD3 := kp3 _ _ nD2t hD2
        have nt : n ∉ th.take j2 := fun mm' => by
          obtain ⟨j3, hj3, ej⟩ := List.mem_take_iff_getElem.mp mm'
          have h1 : th[j3]? = some n := by rw [List.getElem?_eq_getElem (by omega), ej]
          have lj : j3 < th.length := by omega
          have h2 := (List.getElem?_inj lj ok.nd).mp (h1.trans en.symm)
          omega
        refine ⟨_, sq _ _ hD3, ?_, fun b ob nb e => ?_, ⟨i2, g2, d0, by omega, d2, (hT2.same sq).upd nD2t nD2c⟩, ps ++ [q], fun k => if k = n then m - 3 else w k, ?_, ?_, fun k => ?_⟩
        · have f0 := Paired.length hN
          have f2 := List.length_take (i := j2) (l := th)
          rw [List.length_map, sizeLine_eq]; omega
        · rw [upd_ne (ne_of_none e nD2)]
          exact sq _ _ (kp3 _ _ nb (kp2 _ _ nb e))
        · rw [upd_same, List.map_append]
          rfl
        · rw [List.take_add_one, en]
          have hN2 : TmP H2 w ps (th.take j2) := Paired.mono' (fun a k e => kp3 _ _ (fun z => by rw [z, hTy.ht] at e; cases e) e) hN
          have hN3 : TmP H2 (fun k => if k = n then m - 3 else w k) ps (th.take j2) := hN2.congr fun k mk => (if_neg (fun (z : k = n) => nt (by rw [← z]; exact mk))).symm
          have hTq : TmP (upd H2 q (.tup [V.str n, V.int (m - 3)])) (fun k => if k = n then m - 3 else w k) (ps ++ [q]) (th.take j2 ++ [n]) := Paired.snoc (hN3.same sq) (by show _ = some (HO.tup [V.str n, V.int (if n = n then m - 3 else w n)]); rw [if_pos rfl]; exact upd_same)
          exact Paired.mono' (fun t n e => (upd_ne fun z => by rw [z] at e; have e2 := (sq _ _ hD3).symm.trans e; cases e2).trans e) hTq
        · by_cases e : k = n
          · show (if k = n then m - 3 else w k : Int).natAbs ≤ 3
            rw [if_pos e]; exact mz
          · show (if k = n then m - 3 else w k : Int).natAbs ≤ 3
            rw [if_neg e]; exact wz k
      obtain ⟨kp2, ⟨i', g', b0', b1', b2', hTy⟩, ps, w, hD2, hN, wz⟩ := hP
      rw [List.length_map, List.take_length] at hN
      rw [List.length_map] at b1'
      obtain ⟨kvs0, r1', r2'⟩ := hN.kvs (K := K)
      refine nilI ⟨D2, ps, kvs0, rfl, SqL.of hD2, r1', fun p6 np6 => ?_⟩
      rw [mergeK_names r2'.kyn ok.nd]
      have sp := same_upd (o := .dK kvs0) np6
      refine nilI ⟨_, rfl, mkS_line (upd_same (o := .dK kvs0)) r2' ok wz subT fun sc H3 s3 hsk => ?_⟩
      have kA : Keep t Hx' H3 := (kp2.same sp).same s3
      have hD3 := kA _ _ nDt hD
      have hT3 := (hTy.same sp).same s3
      refine ⟨_, hD3, ?_, fun b ob nb e => ?_, i', g', scs ++ [sc], b0', by omega, b2', hT3.upd nDt nDc, ?_, ?_, fun s m => ?_⟩
      · rw [List.length_map, sizeLine_eq]
        have hj : j < 2 := hj
        omega
      · rw [upd_ne (ne_of_none e nD)]
        exact kA _ _ nb (kp _ _ nb e)
      · rw [upd_same, List.map_append]
        rfl
      · rw [List.length_append, List.length_singleton]
        omega
      · rcases List.mem_append.mp m with m | m
        · exact ((hsc s m).extL (keepL hTx kA)).extL (extL_upd hD3)
        · rw [List.mem_singleton] at m
          rw [m]
          exact hsk.extL (extL_upd hD3)
    obtain ⟨kp, i, g, scs, a0', a1', a2', hTx, hD, hl, hsc⟩ := hP
    have hbY := hbX.keep hTX kp
    have hpY := hpX.extL (keepL hTX kp)
    have epY := kp _ _ npt epX
    have tbY := tabs_extL tbX (keepL hTX kp)
    clear hbX hpX epX tbX kp
    -- the scale of nothing
    refine ⟨_, rfl, p, rfl, ⟨_, SqL.of epY⟩, fun D2 nD2 => ?_⟩
    refine lc_it (walk_list (xs := th.map V.str)) (fun j2 Hy => Same Hx Hy ∧ ∃ (ps : List Addr), Hy D2 = some (.lst (ps.map V.ref)) ∧ TmP Hy (fun _ => 0) ps (th.take j2)) ⟨same_upd nD2, [], upd_same, .nil⟩ (fun j2 Hy _ hP => SqL.of (hP.1 _ _ epY)) (fun j2 x Hy Hy' hj2 hP hy => ?_) (fun Hy hP => ?_)
    · obtain ⟨rfl, ex⟩ := hy
      obtain ⟨sG, ps, hD2, hN⟩ := hP
      rw [List.getElem?_map] at ex
      obtain ⟨n, en, rfl⟩ := Option.map_eq_some_iff.mp ex
      refine ⟨rfl, yesI ?_⟩
      refine ⟨_, rfl, by rw [sizeLine_eq]; show 2 ≤ 16777216; decide, fun q nq => ?_⟩
      have sq := same_upd (o := .tup [V.str n, V.int 0]) nq
      refine ⟨_, sq _ _ hD2, ?_, fun b ob e => ?_, ps ++ [q], ?_, ?_⟩
      · have f0 := Paired.length hN
        have f2 := List.length_take (i := j2) (l := th)
        rw [List.length_map, sizeLine_eq]; omega
      · rw [upd_ne (ne_of_none e nD2)]; exact sq _ _ (sG _ _ e)
      · rw [upd_same, List.map_append]
        rfl
      · rw [List.take_add_one, en]
        have hTq : TmP (upd Hy' q (.tup [V.str n, V.int 0])) (fun _ => 0) (ps ++ [q]) (th.take j2 ++ [n]) := Paired.snoc (hN.same sq) upd_same
        exact Paired.mono' (fun t n e => (upd_ne fun z => by rw [z] at e; have e2 := (sq _ _ hD2).symm.trans e; cases e2).trans e) hTq
    obtain ⟨sG, ps, hD2, hN⟩ := hP
    rw [List.length_map, List.take_length] at hN
    obtain ⟨kvs0, r1', r2'⟩ := hN.kvs (K := K)
    refine nilI ⟨D2, ps, kvs0, rfl, SqL.of hD2, r1', fun p6 np6 => ?_⟩
    rw [mergeK_names r2'.kyn ok.nd]
    have sp := same_upd (o := .dK kvs0) np6
    refine nilI ⟨_, rfl, mkS_line (upd_same (o := .dK kvs0)) r2' ok (fun _ => Nat.zero_le _) subT fun sc H3 s3 hsk => nilI ⟨by rw [sizeLine_eq]; show 1 ≤ 16777216; decide, fun l2 nl2 => ?_⟩⟩
    have q2 := same_upd (o := .lst [V.ref sc]) nl2
    have t3 := sG.trans (sp.trans (s3.trans q2))
    refine ⟨D, l2, scs.map V.ref, [sc].map V.ref, rfl, rfl, t3 _ _ hD, upd_same, by rw [List.length_map, sizeLine_eq]; show scs.length + 1 ≤ 16777216; omega, fun l3 nl3 => ?_⟩
    have q3 := same_upd (o := .lst (scs.map V.ref ++ [sc].map V.ref)) nl3
    have t4 := t3.trans q3
    have el3 : (upd (upd H3 l2 (.lst [V.ref sc])) l3 (.lst (scs.map V.ref ++ [sc].map V.ref))) l3 = some (.lst ((scs ++ [sc]).map V.ref)) := by rw [upd_same, List.map_append]
    have hsk2 := hsk.extL (extL_same (q2.trans q3))
    show gName 13 (V.ref l3) _ (upd (upd H3 l2 (.lst [V.ref sc])) l3 (.lst (scs.map V.ref ++ [sc].map V.ref))) _
    generalize upd (upd H3 l2 (.lst [V.ref sc])) l3 (.lst (scs.map V.ref ++ [sc].map V.ref)) = H4 at t4 el3 hsk2 ⊢
    have hscZ : ∀ s ∈ scs ++ [sc], ScOk H4 CS C ys1 s := fun s m => by
      rcases List.mem_append.mp m with m | m
      · exact (hsc s m).extL (extL_same t4)
      · rw [List.mem_singleton] at m
        rw [m]
        exact hsk2
    dsimp only [gName]
    have hpZ := hpY.same t4
    refine ⟨_, rfl, _, rfl, nilI ⟨pp, l3, scs ++ [sc], _, ys1, _, _, rfl, hpZ, by decide, by decide, l4z, znl, L.up, upV_up znl, el3, hscZ, fun H5 s5 => ⟨true, rfl, iteT ?_⟩⟩⟩
    have t5 := t4.trans s5
    refine ⟨_, rfl, _, rfl, _, rfl, nilI ⟨t, ba, pp, c, cells, i, g, _, _, ys1, ys1, _, _, _, _, rfl, hTx.same t5, a0', by omega, a2', hbY.same t5, by decide, by decide, l4z, znl, hpY.same t5, by decide, by decide, l4z, znl, L.up, upV_up znl, tabs_same tbY t5, fun H6 => k H6⟩⟩
end
end K09
namespace K09
open PySem PySem.Spec PyProof.Rows L2 RatM LamX ClX
section
variable {P : Program} {w : World} {K : PySem.W.Frag} {h : Heap} {mg : Str → Option Value} {base : Heap}
theorem fxs (c : SaysK fa fn fx tf h K) (i : Nat) {f : PySem.W.Frag → Bool} (e : fx[i]? = some f) : f K = true := List.all_eq_true.mp c.x f (List.mem_of_getElem? e)
theorem fact_I (c : SaysK fa fn fx tf h K) : RatI K (cR K) := by
  have q := fxs c 7 (f := ratIB) rfl
  unfold ratIB kitB at q
  simp only [Bool.and_eq_true] at q
  obtain ⟨h1, h2, h3, h4, h5, h6, h7, h8⟩ := q
  exact ⟨He.eqO_ok h1, He.eqO_ok h2, of_decide_eq_true h3, of_decide_eq_true h4, of_decide_eq_true h5, of_decide_eq_true h6, of_decide_eq_true h7, of_decide_eq_true h8⟩
theorem fact_T (c : SaysK fa fn fx tf h K) : RatC K (cR K) := by
  refine ⟨He.cls_ok (c.a.fact 64 (f := .cls "Ratio") rfl), fun f hf => ?_⟩
  simp only [List.mem_cons, List.not_mem_nil, or_false] at hf
  rcases hf with rfl | rfl | rfl | rfl | rfl
  · exact He.noat_ok (c.a.fact 69 (f := .noat "Ratio" "top") rfl)
  · exact He.noat_ok (c.a.fact 70 (f := .noat "Ratio" "bottom") rfl)
  · exact He.noat_ok (c.a.fact 71 (f := .noat "Ratio" "sign") rfl)
  · exact He.noat_ok (c.a.fact 72 (f := .noat "Ratio" "is_whole") rfl)
  · exact He.noat_ok (c.a.fact 73 (f := .noat "Ratio" "below") rfl)
theorem fact_TB (c : SaysK fa fn fx tf h K) : BalC K (cB K) := by
  refine ⟨He.cls_ok (c.a.fact 65 (f := .cls "Balance") rfl), fun f hf => ?_⟩
  simp only [List.mem_cons, List.not_mem_nil, or_false] at hf
  rcases hf with rfl | rfl | rfl | rfl
  · exact He.noat_ok (c.a.fact 74 (f := .noat "Balance" "_numbers") rfl)
  · exact He.noat_ok (c.a.fact 75 (f := .noat "Balance" "things") rfl)
  · exact He.noat_ok (c.a.fact 76 (f := .noat "Balance" "is_nothing") rfl)
  · exact He.noat_ok (c.a.fact 77 (f := .noat "Balance" "key") rfl)
theorem fact_TP (c : SaysK fa fn fx tf h K) : PairC K (cP K) := by
  refine ⟨He.cls_ok (c.a.fact 66 (f := .cls "Pair") rfl), fun f hf => ?_⟩
  simp only [List.mem_cons, List.not_mem_nil, or_false] at hf
  rcases hf with rfl | rfl | rfl | rfl
  · exact He.noat_ok (c.a.fact 78 (f := .noat "Pair" "balance") rfl)
  · exact He.noat_ok (c.a.fact 79 (f := .noat "Pair" "first") rfl)
  · exact He.noat_ok (c.a.fact 80 (f := .noat "Pair" "second") rfl)
  · exact He.noat_ok (c.a.fact 81 (f := .noat "Pair" "things") rfl)
theorem fact_TM (c : SaysK fa fn fx tf h K) : CompC K (cM K) := by
  refine ⟨He.cls_ok (c.a.fact 67 (f := .cls "Comparison") rfl), fun f hf => ?_⟩
  simp only [List.mem_cons, List.not_mem_nil, or_false] at hf
  rcases hf with rfl | rfl | rfl | rfl
  · exact He.noat_ok (c.a.fact 82 (f := .noat "Comparison" "balance") rfl)
  · exact He.noat_ok (c.a.fact 83 (f := .noat "Comparison" "kind") rfl)
  · exact He.noat_ok (c.a.fact 84 (f := .noat "Comparison" "things") rfl)
  · exact He.noat_ok (c.a.fact 85 (f := .noat "Comparison" "pair") rfl)
theorem fact_TS (c : SaysK fa fn fx tf h K) : ScaC K (cS K) := by
  refine ⟨He.cls_ok (c.a.fact 68 (f := .cls "Scale") rfl), fun f hf => ?_⟩
  simp only [List.mem_cons, List.not_mem_nil, or_false] at hf
  rcases hf with rfl | rfl
  · exact He.noat_ok (c.a.fact 86 (f := .noat "Scale" "_worths") rfl)
  · exact He.noat_ok (c.a.fact 87 (f := .noat "Scale" "things") rfl)
theorem fact_op (c : SaysK fa fn fx tf h K) (i : Nat) {nm : String} {m : Str} (e : fx[i]? = some fun K => opB K nm) (em : PySem.dunder nm = m) : OpF K (cR K) nm (He.ma K (cR K) m) := by
  have q := fxs c i e
  unfold opB at q
  simp only [Bool.and_eq_true] at q
  obtain ⟨h1, h2, h3, h4⟩ := q
  rw [em] at h1 h2
  refine ⟨⟨by rw [em]; exact He.eqO_ok h1, h2⟩, He.eqO_ok h3, fun T hT => ?_⟩
  have r := List.all_eq_true.mp h4 T hT
  unfold rightB at r
  simp only [Bool.and_eq_true] at r
  obtain ⟨r1, r2, r3⟩ := r
  exact ⟨Option.isSome_iff_exists.mp r1, Option.isSome_iff_exists.mp r2, of_decide_eq_true r3⟩
theorem fact_own (c : SaysK fa fn fx tf h K) {m : Str} (hm : m ∈ ownsR) : OwnM K (cR K) m (He.ma K (cR K) m) := by
  have q := fxs c 12 (f := fun K => ownsR.all fun m => ownXB K (cR K) m) rfl
  have r := List.all_eq_true.mp q m hm
  unfold ownXB at r
  simp only [Bool.and_eq_true] at r
  exact ⟨He.eqO_ok r.1, r.2⟩
theorem fact_ownB (c : SaysK fa fn fx tf h K) {m : Str} (hm : m ∈ ownsB) : OwnM K (cB K) m (He.ma K (cB K) m) := by
  have q := fxs c 19 (f := fun K => ownsB.all fun m => ownXB K (cB K) m) rfl
  have r := List.all_eq_true.mp q m hm
  unfold ownXB at r
  simp only [Bool.and_eq_true] at r
  exact ⟨He.eqO_ok r.1, r.2⟩
theorem fact_ownP (c : SaysK fa fn fx tf h K) {m : Str} (hm : m ∈ ownsP) : OwnM K (cP K) m (He.ma K (cP K) m) := by
  have q := fxs c 20 (f := fun K => ownsP.all fun m => ownXB K (cP K) m) rfl
  have r := List.all_eq_true.mp q m hm
  unfold ownXB at r
  simp only [Bool.and_eq_true] at r
  exact ⟨He.eqO_ok r.1, r.2⟩
theorem fact_ownM (c : SaysK fa fn fx tf h K) {m : Str} (hm : m ∈ ownsP) : OwnM K (cM K) m (He.ma K (cM K) m) := by
  have q := fxs c 21 (f := fun K => ownsP.all fun m => ownXB K (cM K) m) rfl
  have r := List.all_eq_true.mp q m hm
  unfold ownXB at r
  simp only [Bool.and_eq_true] at r
  exact ⟨He.eqO_ok r.1, r.2⟩
theorem fact_YP (c : SaysK fa fn fx tf h K) : TyK K (cP K) := by
  have I := fact_I c
  have T := fact_TP c
  have q := fxs c 22 (f := fun K => typB K (cP K)) rfl
  unfold typB kitB at q
  simp only [Bool.and_eq_true] at q
  obtain ⟨h1, h2, h3⟩ := q
  exact ⟨fun H a hb => by
    obtain ⟨dx, fs, e⟩ := hb
    exact .base (.ins e T.cls (He.eqO_ok h1) I.cn I.ct (of_decide_eq_true h2)), of_decide_eq_true h3⟩
theorem fact_YM (c : SaysK fa fn fx tf h K) : TyK K (cM K) := by
  have I := fact_I c
  have T := fact_TM c
  have q := fxs c 23 (f := fun K => typB K (cM K)) rfl
  unfold typB kitB at q
  simp only [Bool.and_eq_true] at q
  obtain ⟨h1, h2, h3⟩ := q
  exact ⟨fun H a hb => by
    obtain ⟨dx, fs, e⟩ := hb
    exact .base (.ins e T.cls (He.eqO_ok h1) I.cn I.ct (of_decide_eq_true h2)), of_decide_eq_true h3⟩
theorem fact_YS (c : SaysK fa fn fx tf h K) : TyK K (cS K) := by
  have I := fact_I c
  have T := fact_TS c
  have q := fxs c 24 (f := fun K => typB K (cS K)) rfl
  unfold typB kitB at q
  simp only [Bool.and_eq_true] at q
  obtain ⟨h1, h2, h3⟩ := q
  exact ⟨fun H a hb => by
    obtain ⟨dx, fs, e⟩ := hb
    exact .base (.ins e T.cls (He.eqO_ok h1) I.cn I.ct (of_decide_eq_true h2)), of_decide_eq_true h3⟩
theorem fact_nP (c : SaysK fa fn fx tf h K) : PySem.W.notFirst K (cP K) (.ref (cP K)) = true ∧ PySem.W.findIn K (.ref (cP K)) "__ne__" = some (some (.builtin "object.__ne__")) ∧ PySem.W.subIn K (.ref (cP K)) (.type "object") = some true := by
  have q := fxs c 25 (f := fun K => neqB K (cP K)) rfl
  unfold neqB at q
  simp only [Bool.and_eq_true] at q
  exact ⟨q.1, He.eqO_ok q.2.1, of_decide_eq_true q.2.2⟩
theorem fact_nM (c : SaysK fa fn fx tf h K) : PySem.W.notFirst K (cM K) (.ref (cM K)) = true ∧ PySem.W.findIn K (.ref (cM K)) "__ne__" = some (some (.builtin "object.__ne__")) ∧ PySem.W.subIn K (.ref (cM K)) (.type "object") = some true := by
  have q := fxs c 26 (f := fun K => neqB K (cM K)) rfl
  unfold neqB at q
  simp only [Bool.and_eq_true] at q
  exact ⟨q.1, He.eqO_ok q.2.1, of_decide_eq_true q.2.2⟩
theorem fact_nR (c : SaysK fa fn fx tf h K) : PySem.W.findIn K (.ref (cR K)) "__ne__" = some (some (.builtin "object.__ne__")) ∧ PySem.W.subIn K (.ref (cR K)) (.type "object") = some true ∧ PySem.W.findIn K (.ref (cB K)) "__format__" = some (some (.builtin "object.__format__")) := by
  have q := fxs c 27 (f := neRB) rfl
  unfold neRB at q
  simp only [Bool.and_eq_true] at q
  exact ⟨He.eqO_ok q.1, of_decide_eq_true q.2.1, He.eqO_ok q.2.2⟩
theorem fact_fir (c : SaysK fa fn fx tf h K) : PySem.W.notFirst K (cP K) (.ref (cM K)) = true ∧ PySem.W.notFirst K (cP K) (.ref (cB K)) = true ∧ PySem.W.notFirst K (cM K) (.type "str") = true ∧ PySem.W.notFirst K (cM K) (.ref (cB K)) = true := by
  have q := fxs c 28 (f := firB) rfl
  unfold firB at q
  simp only [Bool.and_eq_true] at q
  exact q
theorem fact_kin (c : SaysK fa fn fx tf h K) : PySem.W.kitOne K (.ref (cM K)) (.ref (cP K)) = some false ∧ PySem.W.kitOne K (.ref (cB K)) (.ref (cP K)) = some false ∧ PySem.W.kitOne K (.type "str") (.ref (cM K)) = some false ∧ PySem.W.kitOne K (.ref (cB K)) (.ref (cM K)) = some false ∧ OddF K (cP K) (cS K) (cB K) := by
  have q := fxs c 29 (f := kinB) rfl
  unfold kinB kitB at q
  simp only [Bool.and_eq_true] at q
  obtain ⟨h1, h2, h3, h4, h5, h6, h7⟩ := q
  exact ⟨of_decide_eq_true h1, of_decide_eq_true h2, of_decide_eq_true h3, of_decide_eq_true h4, ⟨fun T hT => of_decide_eq_true (List.all_eq_true.mp h5 T hT), of_decide_eq_true h6, of_decide_eq_true h7⟩⟩
theorem fact_dif (c : SaysK fa fn fx tf h K) : cP K ≠ cB K ∧ cP K ≠ cR K ∧ cM K ≠ cP K ∧ cM K ≠ cB K ∧ cM K ≠ cR K ∧ cS K ≠ cR K := by
  have q := fxs c 30 (f := difB) rfl
  unfold difB at q
  simp only [Bool.and_eq_true] at q
  obtain ⟨h1, h2, h3, h4, h5, h6⟩ := q
  exact ⟨of_decide_eq_true h1, of_decide_eq_true h2, of_decide_eq_true h3, of_decide_eq_true h4, of_decide_eq_true h5, of_decide_eq_true h6⟩
theorem fact_kds (c : SaysK fa fn fx tf h K) : ∀ H : Hp, SqT K H (He.ga K "KINDS") knds := by
  have q := fxs c 35 (f := kdsB) rfl
  unfold kdsB at q
  intro H
  split at q
  · rename_i o ho
    rw [Bool.and_eq_true] at q
    obtain ⟨q1, q2⟩ := q
    split at q2
    · rename_i its n hd
      split at q2
      · rename_i a t1 b t2 c' t3 hl
        simp only [Bool.and_eq_true, decide_eq_true_eq] at q2
        obtain ⟨rfl, rfl, rfl⟩ := q2
        refine .inr ⟨o, its, n, ho, of_decide_eq_true q1, hd, ?_, ?_⟩
        · have : its.size = its.toList.length := by simp
          rw [this, hl, sizeLine_eq]
          show 3 ≤ 16777216
          decide
        · rw [hl]
          exact .cons ⟨t1, rfl⟩ (.cons ⟨t2, rfl⟩ (.cons ⟨t3, rfl⟩ .nil))
      · cases q2
    · cases q2
  · cases q
/-- what the head tells of balances -/
structure BalF (K : PySem.W.Frag) : Prop where
  ty : ∀ (H : Hp) (a : Addr) g zs, BalAt H a (cB K) (cR K) g zs → TyX K H (.ref a) (.ref (cB K))
  cc : PySem.W.kitOne K (.ref (cB K)) (.ref (cB K)) = some true
  n : cR K ≠ cB K
  sf : PySem.W.selfFirst K (cB K) = true
  rm : PySem.W.findIn K (.ref (cB K)) (dunderR "mul") = some none
  sub : PySem.W.subIn K (.ref (cR K)) (.ref (cB K)) = some false
  nf : PySem.W.notFirst K (cB K) (.ref (cB K)) = true
  ne : PySem.W.findIn K (.ref (cB K)) "__ne__" = some (some (.builtin "object.__ne__"))
  ob : PySem.W.subIn K (.ref (cB K)) (.type "object") = some true
  rt : RightT K (cB K) "mul" "int"
  nfR : PySem.W.notFirst K (cR K) (.type "int") = true
  fm : PySem.W.findIn K (.ref (cR K)) "__format__" = some (some (.builtin "object.__format__"))
  mo : PySem.W.mroIn K (cB K) (.type "object") = some true
theorem fact_B (c : SaysK fa fn fx tf h K) : BalF K := by
  have I := fact_I c
  have T := fact_TB c
  have q := fxs c 16 (f := balTB) rfl
  unfold balTB kitB at q
  simp only [Bool.and_eq_true] at q
  obtain ⟨h1, h2, h3, h4⟩ := q
  have q2 := fxs c 17 (f := balOB) rfl
  unfold balOB at q2
  simp only [Bool.and_eq_true] at q2
  obtain ⟨k1, k2, k3, k4, k5, k6⟩ := q2
  have q3 := fxs c 18 (f := balRB) rfl
  unfold balRB at q3
  simp only [Bool.and_eq_true] at q3
  obtain ⟨r1, r2, r3⟩ := q3
  have q4 := fxs c 15 (f := nfB) rfl
  unfold nfB at q4
  simp only [Bool.and_eq_true] at q4
  exact ⟨fun H a g zs hb => by
    obtain ⟨dx, nd, tp, kt, e, _⟩ := hb
    exact .base (.ins e T.cls (He.eqO_ok h1) I.cn I.ct (of_decide_eq_true h2)), of_decide_eq_true h3, of_decide_eq_true h4, k1, He.eqO_ok k2, of_decide_eq_true k3, k4, He.eqO_ok k5, of_decide_eq_true k6,
    ⟨Option.isSome_iff_exists.mp r1, Option.isSome_iff_exists.mp r2, of_decide_eq_true r3⟩, q4.1, He.eqO_ok q4.2, of_decide_eq_true h2⟩
theorem fact_BadRatio (X : K.In h) (G : h.Ns mainGlobals mg) (c : SaysK fa fn fx tf h K) : ErrN P w K mg base "BadRatio" (He.ga K "BadRatio") ["part"] := by
  obtain ⟨fd_e_BadRatio, F_e_BadRatio⟩ := c.a.def_ 0 (d := e_BadRatio) rfl
  obtain ⟨E, g⟩ := errB_ok (fxs c 0 (f := errB "BadRatio" ["part"]) rfl)
  exact mk_BadRatio F_e_BadRatio E.ox E.ini E.fn E.no (He.glo_ok X G g)
theorem fact_BadBalance (X : K.In h) (G : h.Ns mainGlobals mg) (c : SaysK fa fn fx tf h K) : ErrN P w K mg base "BadBalance" (He.ga K "BadBalance") ["part"] := by
  obtain ⟨fd_e_BadBalance, F_e_BadBalance⟩ := c.a.def_ 1 (d := e_BadBalance) rfl
  obtain ⟨E, g⟩ := errB_ok (fxs c 1 (f := errB "BadBalance" ["part"]) rfl)
  exact mk_BadBalance F_e_BadBalance E.ox E.ini E.fn E.no (He.glo_ok X G g)
theorem fact_BadComparison (X : K.In h) (G : h.Ns mainGlobals mg) (c : SaysK fa fn fx tf h K) : ErrN P w K mg base "BadComparison" (He.ga K "BadComparison") ["part"] := by
  obtain ⟨fd_e_BadComparison, F_e_BadComparison⟩ := c.a.def_ 2 (d := e_BadComparison) rfl
  obtain ⟨E, g⟩ := errB_ok (fxs c 2 (f := errB "BadComparison" ["part"]) rfl)
  exact mk_BadComparison F_e_BadComparison E.ox E.ini E.fn E.no (He.glo_ok X G g)
theorem fact_BadPair (X : K.In h) (G : h.Ns mainGlobals mg) (c : SaysK fa fn fx tf h K) : ErrN P w K mg base "BadPair" (He.ga K "BadPair") ["part"] := by
  obtain ⟨fd_e_BadPair, F_e_BadPair⟩ := c.a.def_ 3 (d := e_BadPair) rfl
  obtain ⟨E, g⟩ := errB_ok (fxs c 3 (f := errB "BadPair" ["part"]) rfl)
  exact mk_BadPair F_e_BadPair E.ox E.ini E.fn E.no (He.glo_ok X G g)
theorem fact_BadScale (X : K.In h) (G : h.Ns mainGlobals mg) (c : SaysK fa fn fx tf h K) : ErrN P w K mg base "BadScale" (He.ga K "BadScale") ["part"] := by
  obtain ⟨fd_e_BadScale, F_e_BadScale⟩ := c.a.def_ 4 (d := e_BadScale) rfl
  obtain ⟨E, g⟩ := errB_ok (fxs c 4 (f := errB "BadScale" ["part"]) rfl)
  exact mk_BadScale F_e_BadScale E.ox E.ini E.fn E.no (He.glo_ok X G g)
theorem fact_BadNumber (X : K.In h) (G : h.Ns mainGlobals mg) (c : SaysK fa fn fx tf h K) : ErrN P w K mg base "BadNumber" (He.ga K "BadNumber") ["part"] := by
  obtain ⟨fd_e_BadNumber, F_e_BadNumber⟩ := c.a.def_ 5 (d := e_BadNumber) rfl
  obtain ⟨E, g⟩ := errB_ok (fxs c 5 (f := errB "BadNumber" ["part"]) rfl)
  exact mk_BadNumber F_e_BadNumber E.ox E.ini E.fn E.no (He.glo_ok X G g)
theorem fact_NoThing (X : K.In h) (G : h.Ns mainGlobals mg) (c : SaysK fa fn fx tf h K) : ErrN P w K mg base "NoThing" (He.ga K "NoThing") ["name"] := by
  obtain ⟨fd_e_NoThing, F_e_NoThing⟩ := c.a.def_ 6 (d := e_NoThing) rfl
  obtain ⟨E, g⟩ := errB_ok (fxs c 6 (f := errB "NoThing" ["name"]) rfl)
  exact mk_NoThing F_e_NoThing E.ox E.ini E.fn E.no (He.glo_ok X G g)
theorem fact_er0 (c : SaysK fa fn fx tf h K) : ErCls K (cE K) (He.ga K "BadBalance") (He.ga K "BadComparison") (He.ga K "BadPair") (He.ga K "BadNumber") (He.ga K "BadBalance") 0 "balance" := by
  obtain ⟨E, g⟩ := errB_ok (fxs c 1 (f := errB "BadBalance" ["part"]) rfl)
  have q := fxs c 31 (f := fun K => ercB K "BadBalance" 0) rfl
  unfold ercB kitB at q
  simp only [Bool.and_eq_true] at q
  obtain ⟨h1, h2, h3, h4, h5⟩ := q
  exact ⟨of_decide_eq_true h1, E.xf, E.is, E.no _ (by simp), of_decide_eq_true h2, of_decide_eq_true h3, of_decide_eq_true h4, of_decide_eq_true h5, rfl⟩
theorem fact_er1 (c : SaysK fa fn fx tf h K) : ErCls K (cE K) (He.ga K "BadBalance") (He.ga K "BadComparison") (He.ga K "BadPair") (He.ga K "BadNumber") (He.ga K "BadComparison") 1 "comparison" := by
  obtain ⟨E, g⟩ := errB_ok (fxs c 2 (f := errB "BadComparison" ["part"]) rfl)
  have q := fxs c 32 (f := fun K => ercB K "BadComparison" 1) rfl
  unfold ercB kitB at q
  simp only [Bool.and_eq_true] at q
  obtain ⟨h1, h2, h3, h4, h5⟩ := q
  exact ⟨of_decide_eq_true h1, E.xf, E.is, E.no _ (by simp), of_decide_eq_true h2, of_decide_eq_true h3, of_decide_eq_true h4, of_decide_eq_true h5, rfl⟩
theorem fact_er2 (c : SaysK fa fn fx tf h K) : ErCls K (cE K) (He.ga K "BadBalance") (He.ga K "BadComparison") (He.ga K "BadPair") (He.ga K "BadNumber") (He.ga K "BadPair") 2 "pair" := by
  obtain ⟨E, g⟩ := errB_ok (fxs c 3 (f := errB "BadPair" ["part"]) rfl)
  have q := fxs c 33 (f := fun K => ercB K "BadPair" 2) rfl
  unfold ercB kitB at q
  simp only [Bool.and_eq_true] at q
  obtain ⟨h1, h2, h3, h4, h5⟩ := q
  exact ⟨of_decide_eq_true h1, E.xf, E.is, E.no _ (by simp), of_decide_eq_true h2, of_decide_eq_true h3, of_decide_eq_true h4, of_decide_eq_true h5, rfl⟩
theorem fact_er3 (c : SaysK fa fn fx tf h K) : ErCls K (cE K) (He.ga K "BadBalance") (He.ga K "BadComparison") (He.ga K "BadPair") (He.ga K "BadNumber") (He.ga K "BadNumber") 3 "number" := by
  obtain ⟨E, g⟩ := errB_ok (fxs c 5 (f := errB "BadNumber" ["part"]) rfl)
  have q := fxs c 34 (f := fun K => ercB K "BadNumber" 3) rfl
  unfold ercB kitB at q
  simp only [Bool.and_eq_true] at q
  obtain ⟨h1, h2, h3, h4, h5⟩ := q
  exact ⟨of_decide_eq_true h1, E.xf, E.is, E.no _ (by simp), of_decide_eq_true h2, of_decide_eq_true h3, of_decide_eq_true h4, of_decide_eq_true h5, rfl⟩
theorem fact_int (X : K.In h) (G : h.Ns mainGlobals mg) (c : SaysK fa fn fx tf h K) : ∃ (f : Addr) (fd : FuncData), FnOk P w K mg base CX0 1 f fd ["value"] (spIsI K) ∧ Binds K fd ["value"] [] ∧ PySem.W.keepIn K (.ref f) = true ∧ mg "is_integer" = some (.ref f) := by
  obtain ⟨fd_g_is_integer, F_g_is_integer⟩ := c.a.def_ 40 (d := g_is_integer) rfl
  have F_g_is_integer' : FnP K "is_integer" (top 19) (He.ga K "is_integer") fd_g_is_integer := F_g_is_integer
  exact ⟨_, _, ok_isInt F_g_is_integer' (He.free_ok X G (c.a.fact 49 (f := .free "isinstance") rfl)) (He.free_ok X G (c.a.fact 50 (f := .free "int") rfl)) (He.free_ok X G (c.a.fact 51 (f := .free "bool") rfl)), (FunD.bindsN F_g_is_integer' fun _ _ _ _ _ _ us hl => match us, hl with | [_], _ => rfl), F_g_is_integer.kp, (He.glo_ok X G (c.a.fact 0 (f := .glo "is_integer") rfl))⟩
theorem fact_within (X : K.In h) (G : h.Ns mainGlobals mg) (c : SaysK fa fn fx tf h K) : ∃ (f : Addr) (fd : FuncData), FnOk P w K mg base CX0 2 f fd ["value", "least", "most"] (spWithin K) ∧ Binds K fd ["value", "least", "most"] [] ∧ PySem.W.keepIn K (.ref f) = true ∧ mg "is_within" = some (.ref f) := by
  obtain ⟨fd_g_is_within, F_g_is_within⟩ := c.a.def_ 41 (d := g_is_within) rfl
  have F_g_is_within' : FnP K "is_within" (top 20) (He.ga K "is_within") fd_g_is_within := F_g_is_within
  obtain ⟨fI, fdI, GI, bI, kI, gI⟩ := fact_int (P := P) (w := w) (base := base) X G c
  exact ⟨_, _, ok_isWithin F_g_is_within' GI bI kI gI, (FunD.bindsN F_g_is_within' fun _ _ _ _ _ _ us hl => match us, hl with | [_, _, _], _ => rfl), F_g_is_within.kp, (He.glo_ok X G (c.a.fact 1 (f := .glo "is_within") rfl))⟩
theorem fact_K (X : K.In h) (G : h.Ns mainGlobals mg) (c : SaysK fa fn fx tf h K) : RatK P w K mg base (cR K) (He.ga K "BadRatio") := by
  obtain ⟨fd_r_init, F_r_init⟩ := c.a.def_ 7 (d := r_init) rfl
  obtain ⟨fI, fdI, GI, bI, kI, gI⟩ := fact_int (P := P) (w := w) (base := base) X G c
  have M := fact_BadRatio (P := P) (w := w) (base := base) X G c
  have T := fact_T c
  have q := fxs c 14 (f := gcdB) rfl
  unfold gcdB at q
  simp only [Bool.and_eq_true] at q
  have gG : mg "gcd" = some (.builtin "math.gcd") := PySem.W.mg_of X G (He.eqO_ok q.1)
  have mk := He.mkr_ok (c.a.fact 97 (f := .mkr "Ratio") rfl)
  have F : FunD K "__init__" "Ratio.__init__" (defArgs (ratM 0)) (defBody (ratM 0)) (defScope (ratM 0)) [.int 1] [] (He.ma K (cR K) "__init__") fd_r_init := F_r_init
  have G0 : FnOk P w K mg base (L2.CX P w) 3 _ fd_r_init ["self", "top", "bottom"] (spRI K (cR K) (He.ga K "BadRatio")) := ok_ratInit F T M GI bI kI gI gG
  obtain ⟨ds0, v0, b0⟩ := FunD.binds1 (ps := ["self", "top", "bottom"]) F 3 1 (by simp) rfl fun _ _ _ _ _ _ _ us its h1 h2 => match us, its, h1, h2 with | [_, _, _], [_], _, _ => ⟨_, rfl, rfl⟩
  obtain ⟨ds1, v1, b1⟩ := FunD.binds1 (ps := ["self", "top", "bottom"]) F 2 0 (by simp) rfl fun _ _ _ _ _ _ _ us its h1 h2 => match us, its, h1, h2 with | [_, _], [_], _, _ => ⟨_, rfl, rfl⟩
  obtain rfl : ds0 = [] := by cases v0; rfl
  exact ⟨T, fact_I c, M, (He.glo_ok X G (c.a.fact 35 (f := .glo "Ratio") rfl)), (He.free_ok X G (c.a.fact 49 (f := .free "isinstance") rfl)), ⟨fI, fdI, GI, bI, kI, gI⟩, ⟨_, _, ds1, mk, G0, b0, b1, v1⟩⟩
theorem fact_G (X : K.In h) (G : h.Ns mainGlobals mg) (c : SaysK fa fn fx tf h K) : RatG P w K mg base (cR K) (He.ga K "BadRatio") := by
  have R0 := fact_K (P := P) (w := w) (base := base) X G c
  obtain ⟨fd_g_ratio_of, F_g_ratio_of⟩ := c.a.def_ 47 (d := g_ratio_of) rfl
  have F_g_ratio_of' : FnP K "_ratio_of" (top 36) (He.ga K "_ratio_of") fd_g_ratio_of := F_g_ratio_of
  have RF : RatF P w K mg base (cR K) (He.ga K "BadRatio") := ⟨R0, ⟨_, _, ok_ratioOf F_g_ratio_of' R0, (FunD.bindsN F_g_ratio_of' fun _ _ _ _ _ _ us hl => match us, hl with | [_, _], _ => rfl), F_g_ratio_of.kp, (He.glo_ok X G (c.a.fact 7 (f := .glo "_ratio_of") rfl))⟩⟩
  have q := fxs c 8 (f := oddB) rfl
  unfold oddB kitB at q
  simp only [Bool.and_eq_true] at q
  obtain ⟨fd_r_add, F_r_add⟩ := c.a.def_ 9 (d := r_add) rfl
  have F_r_add' : MtP K "__add__" "Ratio.__add__" (ratM 6) (He.ma K (cR K) "__add__") fd_r_add := F_r_add
  obtain ⟨fd_r_sub, F_r_sub⟩ := c.a.def_ 10 (d := r_sub) rfl
  have F_r_sub' : MtP K "__sub__" "Ratio.__sub__" (ratM 7) (He.ma K (cR K) "__sub__") fd_r_sub := F_r_sub
  obtain ⟨fd_r_mul, F_r_mul⟩ := c.a.def_ 11 (d := r_mul) rfl
  have F_r_mul' : MtP K "__mul__" "Ratio.__mul__" (ratM 8) (He.ma K (cR K) "__mul__") fd_r_mul := F_r_mul
  exact ⟨RF, q.1, fun T hT => of_decide_eq_true (List.all_eq_true.mp q.2 T hT), ⟨_, _, fact_op c 9 (m := "__add__") rfl (by decide +kernel), ok_add F_r_add' RF, (FunD.bindsN F_r_add' fun _ _ _ _ _ _ us hl => match us, hl with | [_, _], _ => rfl)⟩, ⟨_, _, fact_op c 10 (m := "__sub__") rfl (by decide +kernel), ok_sub F_r_sub' RF, (FunD.bindsN F_r_sub' fun _ _ _ _ _ _ us hl => match us, hl with | [_, _], _ => rfl)⟩, ⟨_, _, fact_op c 11 (m := "__mul__") rfl (by decide +kernel), ok_mul F_r_mul' RF, (FunD.bindsN F_r_mul' fun _ _ _ _ _ _ us hl => match us, hl with | [_, _], _ => rfl)⟩⟩
theorem fact_neg (X : K.In h) (G : h.Ns mainGlobals mg) (c : SaysK fa fn fx tf h K) : ∃ (f : Addr) (fd : FuncData), OwnM K (cR K) "__neg__" f ∧ FnOk P w K mg base (L2.CX P w) 5 f fd ["self"] (spSelf K (cR K) fun p => -p) ∧ Binds K fd ["self"] [] := by
  obtain ⟨fd_r_neg, F_r_neg⟩ := c.a.def_ 12 (d := r_neg) rfl
  have F_r_neg' : MtP K "__neg__" "Ratio.__neg__" (ratM 9) (He.ma K (cR K) "__neg__") fd_r_neg := F_r_neg
  exact ⟨_, _, fact_own c (by unfold ownsR; simp), ok_neg F_r_neg' (fact_G (P := P) (w := w) (base := base) X G c).toRatF, (FunD.bindsN F_r_neg' fun _ _ _ _ _ _ us hl => match us, hl with | [_], _ => rfl)⟩
theorem fact_eqR (X : K.In h) (G : h.Ns mainGlobals mg) (c : SaysK fa fn fx tf h K) : ∃ (f : Addr) (fd : FuncData), OwnM K (cR K) "__eq__" f ∧ FnOk P w K mg base CX0 3 f fd ["self", "other"] (spSame K (cR K)) ∧ Binds K fd ["self", "other"] [] := by
  obtain ⟨fd_r_eq, F_r_eq⟩ := c.a.def_ 13 (d := r_eq) rfl
  have F_r_eq' : MtP K "__eq__" "Ratio.__eq__" (ratM 12) (He.ma K (cR K) "__eq__") fd_r_eq := F_r_eq
  obtain ⟨fd_g_is_same, F_g_is_same⟩ := c.a.def_ 48 (d := g_is_same) rfl
  have F_g_is_same' : FnP K "_is_same" (top 37) (He.ga K "_is_same") fd_g_is_same := F_g_is_same
  exact ⟨_, _, fact_own c (m := "__eq__") (by unfold ownsR; simp), ok_eq F_r_eq' (fact_K (P := P) (w := w) (base := base) X G c) F_g_is_same' (He.glo_ok X G (c.a.fact 8 (f := .glo "_is_same") rfl)), (FunD.bindsN F_r_eq' fun _ _ _ _ _ _ us hl => match us, hl with | [_, _], _ => rfl)⟩
theorem fact_isr (X : K.In h) (G : h.Ns mainGlobals mg) (c : SaysK fa fn fx tf h K) : ∃ (f : Addr) (fd : FuncData), FnOk P w K mg base CX0 2 f fd ["value"] (spIsR K (cR K)) ∧ Binds K fd ["value"] [] ∧ PySem.W.keepIn K (.ref f) = true ∧ mg "is_ratio" = some (.ref f) := by
  obtain ⟨fd_g_is_ratio, F_g_is_ratio⟩ := c.a.def_ 46 (d := g_is_ratio) rfl
  have F_g_is_ratio' : FnP K "is_ratio" (top 35) (He.ga K "is_ratio") fd_g_is_ratio := F_g_is_ratio
  exact ⟨_, _, ok_isRatio F_g_is_ratio' (fact_G (P := P) (w := w) (base := base) X G c), (FunD.bindsN F_g_is_ratio' fun _ _ _ _ _ _ us hl => match us, hl with | [_], _ => rfl), F_g_is_ratio.kp, (He.glo_ok X G (c.a.fact 6 (f := .glo "is_ratio") rfl))⟩
theorem fact_isn (X : K.In h) (G : h.Ns mainGlobals mg) (c : SaysK fa fn fx tf h K) : ∃ (f : Addr) (fd : FuncData), FnOk P w K mg base CX0 1 f fd ["value"] (spNm K) ∧ Binds K fd ["value"] [] ∧ PySem.W.keepIn K (.ref f) = true ∧ mg "is_name" = some (.ref f) := by
  obtain ⟨fd_g_is_name, F_g_is_name⟩ := c.a.def_ 42 (d := g_is_name) rfl
  have F_g_is_name' : FnP K "is_name" (top 21) (He.ga K "is_name") fd_g_is_name := F_g_is_name
  exact ⟨_, _, ok_isName F_g_is_name' ⟨(He.free_ok X G (c.a.fact 49 (f := .free "isinstance") rfl)), (He.free_ok X G (c.a.fact 52 (f := .free "str") rfl)), (He.free_ok X G (c.a.fact 53 (f := .free "len") rfl)), (He.free_ok X G (c.a.fact 57 (f := .free "all") rfl)), He.int_ok X G (c.a.fact 61 (f := .int "_LONGEST" 12) rfl), He.str_ok X G (c.a.fact 62 (f := .str "_LETTERS" letS) rfl), He.str_ok X G (c.a.fact 63 (f := .str "_SIGNS" sigS) rfl)⟩, (FunD.bindsN F_g_is_name' fun _ _ _ _ _ _ us hl => match us, hl with | [_], _ => rfl), F_g_is_name.kp, (He.glo_ok X G (c.a.fact 2 (f := .glo "is_name") rfl))⟩
theorem fact_isl (X : K.In h) (G : h.Ns mainGlobals mg) (c : SaysK fa fn fx tf h K) : ∃ (f : Addr) (fd : FuncData), FnOk P w K mg base CX0 1 f fd ["value"] (spLs K) ∧ Binds K fd ["value"] [] ∧ PySem.W.keepIn K (.ref f) = true ∧ mg "is_list" = some (.ref f) := by
  obtain ⟨fd_g_is_list, F_g_is_list⟩ := c.a.def_ 43 (d := g_is_list) rfl
  have F_g_is_list' : FnP K "is_list" (top 22) (He.ga K "is_list") fd_g_is_list := F_g_is_list
  exact ⟨_, _, ok_isList F_g_is_list' (He.free_ok X G (c.a.fact 49 (f := .free "isinstance") rfl)) (He.free_ok X G (c.a.fact 54 (f := .free "list") rfl)) (He.free_ok X G (c.a.fact 55 (f := .free "tuple") rfl)), (FunD.bindsN F_g_is_list' fun _ _ _ _ _ _ us hl => match us, hl with | [_], _ => rfl), F_g_is_list.kp, (He.glo_ok X G (c.a.fact 3 (f := .glo "is_list") rfl))⟩
theorem fact_nms (X : K.In h) (G : h.Ns mainGlobals mg) (c : SaysK fa fn fx tf h K) : ∃ (f : Addr) (fd : FuncData), FnOk P w K mg base CX0 3 f fd ["value"] (spNms K) ∧ Binds K fd ["value"] [] ∧ PySem.W.keepIn K (.ref f) = true ∧ mg "are_names" = some (.ref f) := by
  obtain ⟨fd_g_are_names, F_g_are_names⟩ := c.a.def_ 44 (d := g_are_names) rfl
  have F_g_are_names' : FnP K "are_names" (top 23) (He.ga K "are_names") fd_g_are_names := F_g_are_names
  obtain ⟨fN, fdN, GN, bN, kN, gN⟩ := fact_isn (P := P) (w := w) (base := base) X G c
  obtain ⟨fL, fdL, GL, bL, kL, gL⟩ := fact_isl (P := P) (w := w) (base := base) X G c
  exact ⟨_, _, ok_areNames F_g_are_names' (He.free_ok X G (c.a.fact 57 (f := .free "all") rfl)) GN bN kN gN GL bL kL gL, (FunD.bindsN F_g_are_names' fun _ _ _ _ _ _ us hl => match us, hl with | [_], _ => rfl), F_g_are_names.kp, (He.glo_ok X G (c.a.fact 4 (f := .glo "are_names") rfl))⟩
theorem fact_nin (X : K.In h) (G : h.Ns mainGlobals mg) (c : SaysK fa fn fx tf h K) : ∃ (f : Addr) (fd : FuncData), FnOk P w K mg base CX0 7 f fd ["value"] (spNin K (cR K)) ∧ Binds K fd ["value"] [] ∧ PySem.W.keepIn K (.ref f) = true ∧ mg "numbers_in" = some (.ref f) := by
  obtain ⟨fd_g_numbers_in, F_g_numbers_in⟩ := c.a.def_ 49 (d := g_numbers_in) rfl
  have F_g_numbers_in' : FnP K "numbers_in" (top 41) (He.ga K "numbers_in") fd_g_numbers_in := F_g_numbers_in
  obtain ⟨fN, fdN, GN, bN, kN, gN⟩ := fact_nms (P := P) (w := w) (base := base) X G c
  obtain ⟨fI, fdI, GI, bI, kI, gI⟩ := fact_isr (P := P) (w := w) (base := base) X G c
  obtain ⟨fd_r_of, F_r_of⟩ := c.a.def_ 8 (d := r_of) rfl
  have F_r_of' : MtP K "of" "Ratio.of" (ratM 2) (He5.wf K (cR K) "staticmethod" "of") fd_r_of := F_r_of
  have q9 := fxs c 13 (f := clsB) rfl
  unfold clsB at q9
  simp only [Bool.and_eq_true] at q9
  obtain ⟨k1, k2, k5, k6⟩ := q9
  have cr : CRead K (cR K) (.type "type") := ⟨k1, He.eqO_ok k2⟩
  have sm : SMet K (cR K) (.type "type") "of" (He.ma K (cR K) "of") (He5.wf K (cR K) "staticmethod" "of") := ⟨(He5.wrapB_ok k5).1, (He5.wrapB_ok k5).2, k6⟩
  exact ⟨_, _, ok_numbersIn F_g_numbers_in' (He.free_ok X G (c.a.fact 49 (f := .free "isinstance") rfl)) (He.free_ok X G (c.a.fact 56 (f := .free "dict") rfl)) (He.free_ok X G (c.a.fact 54 (f := .free "list") rfl)) (He.free_ok X G (c.a.fact 57 (f := .free "all") rfl)) (He.free_ok X G (c.a.fact 60 (f := .free "sorted") rfl)) GN bN kN gN GI bI kI gI (He.glo_ok X G (c.a.fact 35 (f := .glo "Ratio") rfl)) cr sm (ok_of1 F_r_of' (fact_G (P := P) (w := w) (base := base) X G c).toRatF) (FunD.bindsN F_r_of' fun _ _ _ _ _ _ us hl => match us, hl with | [_], _ => rfl), (FunD.bindsN F_g_numbers_in' fun _ _ _ _ _ _ us hl => match us, hl with | [_], _ => rfl), F_g_numbers_in.kp, (He.glo_ok X G (c.a.fact 9 (f := .glo "numbers_in") rfl))⟩
theorem fact_BK (X : K.In h) (G : h.Ns mainGlobals mg) (c : SaysK fa fn fx tf h K) : BalK P w K mg base (cB K) (cR K) := by
  have T := fact_TB c
  obtain ⟨fd_b_init, F_b_init⟩ := c.a.def_ 15 (d := b_init) rfl
  have F_b_init' : MtP K "__init__" "Balance.__init__" (balM 0) (He.ma K (cB K) "__init__") fd_b_init := F_b_init
  obtain ⟨fN, fdN, GN, bN, kN, gN⟩ := fact_nin (P := P) (w := w) (base := base) X G c
  have mk := He.mkr_ok (c.a.fact 98 (f := .mkr "Balance") rfl)
  exact ⟨T, (fact_B c).n, (He.glo_ok X G (c.a.fact 36 (f := .glo "Balance") rfl)), ⟨_, _, mk, ok_balInit F_b_init' T (fact_B c).n (fact_T c) (fact_BadBalance (P := P) (w := w) (base := base) X G c) (He.free_ok X G (c.a.fact 55 (f := .free "tuple") rfl)) (He.free_ok X G (c.a.fact 53 (f := .free "len") rfl)) GN bN kN gN, (FunD.bindsN F_b_init' fun _ _ _ _ _ _ us hl => match us, hl with | [_, _], _ => rfl)⟩⟩
theorem fact_O (X : K.In h) (G : h.Ns mainGlobals mg) (c : SaysK fa fn fx tf h K) : OpsK P w K mg base (cB K) (cR K) (He.ga K "BadRatio") := by
  have RG := fact_G (P := P) (w := w) (base := base) X G c
  obtain ⟨fd_b_number_of, F_b_number_of⟩ := c.a.def_ 16 (d := b_number_of) rfl
  have F_b_number_of' : MtP K "number_of" "Balance.number_of" (balM 3) (He.ma K (cB K) "number_of") fd_b_number_of := F_b_number_of
  obtain ⟨fM, fdM, GM, bM, kM, gM⟩ := fact_isn (P := P) (w := w) (base := base) X G c
  obtain ⟨fI, fdI, GI, bI, kI, gI⟩ := fact_isr (P := P) (w := w) (base := base) X G c
  exact ⟨RG.toRatK, fact_BK (P := P) (w := w) (base := base) X G c, RG.sf, RG.odd, RG.add, RG.mul, ⟨_, _, (He.meth_ok (c.a.fact 88 (f := .meth "Balance" "number_of") rfl)), ok_numberOf F_b_number_of' (fact_TB c) RG.toRatK GM bM kM gM, (FunD.bindsN F_b_number_of' fun _ _ _ _ _ _ us hl => match us, hl with | [_, _], _ => rfl)⟩, ⟨fI, fdI, GI, bI, kI, gI⟩⟩
theorem fact_summed (X : K.In h) (G : h.Ns mainGlobals mg) (c : SaysK fa fn fx tf h K) : ∃ (f : Addr) (fd : FuncData), FnOk P w K mg base (L2.CX P w) 10 f fd ["one", "other", "factor"] (spSum (cB K) (cR K)) ∧ Binds K fd ["one", "other", "factor"] [] ∧ PySem.W.keepIn K (.ref f) = true ∧ mg "_summed" = some (.ref f) := by
  obtain ⟨fd_g_summed, F_g_summed⟩ := c.a.def_ 50 (d := g_summed) rfl
  have F_g_summed' : FnP K "_summed" (top 45) (He.ga K "_summed") fd_g_summed := F_g_summed
  exact ⟨_, _, ok_summed F_g_summed' (fact_O (P := P) (w := w) (base := base) X G c) (fact_BadBalance (P := P) (w := w) (base := base) X G c) (He.free_ok X G (c.a.fact 49 (f := .free "isinstance") rfl)) (fact_B c).ty (fact_B c).cc, (FunD.bindsN F_g_summed' fun _ _ _ _ _ _ us hl => match us, hl with | [_, _, _], _ => rfl), F_g_summed.kp, (He.glo_ok X G (c.a.fact 10 (f := .glo "_summed") rfl))⟩
theorem fact_times (X : K.In h) (G : h.Ns mainGlobals mg) (c : SaysK fa fn fx tf h K) : ∃ (f : Addr) (fd : FuncData), FnOk P w K mg base (L2.CX P w) 10 f fd ["balance", "ratio"] (spTimes (cB K) (cR K)) ∧ Binds K fd ["balance", "ratio"] [] ∧ PySem.W.keepIn K (.ref f) = true ∧ mg "_times" = some (.ref f) := by
  obtain ⟨fd_g_times, F_g_times⟩ := c.a.def_ 51 (d := g_times) rfl
  have F_g_times' : FnP K "_times" (top 46) (He.ga K "_times") fd_g_times := F_g_times
  exact ⟨_, _, ok_times F_g_times' (fact_O (P := P) (w := w) (base := base) X G c) (fact_BadNumber (P := P) (w := w) (base := base) X G c), (FunD.bindsN F_g_times' fun _ _ _ _ _ _ us hl => match us, hl with | [_, _], _ => rfl), F_g_times.kp, (He.glo_ok X G (c.a.fact 11 (f := .glo "_times") rfl))⟩
theorem fact_mulB (X : K.In h) (G : h.Ns mainGlobals mg) (c : SaysK fa fn fx tf h K) : ∃ (f : Addr) (fd : FuncData), OwnM K (cB K) (PySem.dunder Operator.Mult.info.2) f ∧ FnOk P w K mg base (L2.CX P w) 11 f fd ["self", "other"] (spMulB (cB K) (cR K)) ∧ Binds K fd ["self", "other"] [] := by
  obtain ⟨fd_b_mul, F_b_mul⟩ := c.a.def_ 23 (d := b_mul) rfl
  have F_b_mul' : MtP K "__mul__" "Balance.__mul__" (balM 11) (He.ma K (cB K) "__mul__") fd_b_mul := F_b_mul
  obtain ⟨fS, fdS, GS, bS, kS, gS⟩ := fact_times (P := P) (w := w) (base := base) X G c
  exact ⟨_, _, fact_ownB c (m := "__mul__") (by unfold ownsB; simp), ok_mulB F_b_mul' GS bS kS gS, (FunD.bindsN F_b_mul' fun _ _ _ _ _ _ us hl => match us, hl with | [_, _], _ => rfl)⟩
theorem fact_term (X : K.In h) (G : h.Ns mainGlobals mg) (c : SaysK fa fn fx tf h K) : ∃ (f : Addr) (fd : FuncData), FnOk P w K mg base CX0 4 f fd ["thing", "number"] (spTerm (cR K)) ∧ Binds K fd ["thing", "number"] [] ∧ PySem.W.keepIn K (.ref f) = true ∧ mg "_term" = some (.ref f) := by
  obtain ⟨fd_g_term, F_g_term⟩ := c.a.def_ 52 (d := g_term) rfl
  have F_g_term' : FnP K "_term" (top 49) (He.ga K "_term") fd_g_term := F_g_term
  obtain ⟨fd_r_eq, F_r_eq⟩ := c.a.def_ 13 (d := r_eq) rfl
  have F_r_eq' : MtP K "__eq__" "Ratio.__eq__" (ratM 12) (He.ma K (cR K) "__eq__") fd_r_eq := F_r_eq
  obtain ⟨fd_r_str, F_r_str⟩ := c.a.def_ 14 (d := r_str) rfl
  have F_r_str' : MtP K "__str__" "Ratio.__str__" (ratM 13) (He.ma K (cR K) "__str__") fd_r_str := F_r_str
  obtain ⟨fd_g_is_same, F_g_is_same⟩ := c.a.def_ 48 (d := g_is_same) rfl
  have F_g_is_same' : FnP K "_is_same" (top 37) (He.ga K "_is_same") fd_g_is_same := F_g_is_same
  obtain ⟨fd_g_writtenR, F_g_writtenR⟩ := c.a.def_ 38 (d := g_writtenR) rfl
  have F_w' : FnP K "_written" (top 38) (He.ga K "written_ratios") fd_g_writtenR := F_g_writtenR
  have GE : FnOk P w K mg base CX0 3 _ fd_r_eq ["self", "other"] (spSame K (cR K)) := ok_eq F_r_eq' (fact_K (P := P) (w := w) (base := base) X G c) F_g_is_same' (He.glo_ok X G (c.a.fact 8 (f := .glo "_is_same") rfl))
  have GS : FnOk P w K mg base CX0 2 _ fd_r_str ["self"] (spText K (cR K)) := ok_str F_r_str' (fact_T c) F_w' (He.glo_ok X G (c.a.fact 33 (f := .glo "written_ratios") rfl)) (He.free_ok X G (c.a.fact 52 (f := .free "str") rfl))
  exact ⟨_, _, ok_term F_g_term' (fact_own c (m := "__eq__") (by unfold ownsR; simp)) GE (FunD.bindsN F_r_eq' fun _ _ _ _ _ _ us hl => match us, hl with | [_, _], _ => rfl) (fact_B c).nfR (fact_own c (m := "__str__") (by unfold ownsR; simp)) GS (FunD.bindsN F_r_str' fun _ _ _ _ _ _ us hl => match us, hl with | [_], _ => rfl) (fact_B c).fm (fact_I c).cm, (FunD.bindsN F_g_term' fun _ _ _ _ _ _ us hl => match us, hl with | [_, _], _ => rfl), F_g_term.kp, (He.glo_ok X G (c.a.fact 12 (f := .glo "_term") rfl))⟩
theorem fact_strB (X : K.In h) (G : h.Ns mainGlobals mg) (c : SaysK fa fn fx tf h K) : ∃ (f : Addr) (fd : FuncData), OwnM K (cB K) "__str__" f ∧ FnOk P w K mg base CX0 7 f fd ["self"] (spBalT (cB K) (cR K)) ∧ Binds K fd ["self"] [] := by
  obtain ⟨fd_b_str, F_b_str⟩ := c.a.def_ 25 (d := b_str) rfl
  have F_b_str' : MtP K "__str__" "Balance.__str__" (balM 13) (He.ma K (cB K) "__str__") fd_b_str := F_b_str
  obtain ⟨fd_g_writtenB, F_g_writtenB⟩ := c.a.def_ 39 (d := g_writtenB) rfl
  obtain ⟨fT, fdT, GT, bT, kT, gT⟩ := fact_term (P := P) (w := w) (base := base) X G c
  have F_w' : FnP K "_written" (top 47) (He.ga K "written_balances") fd_g_writtenB := F_g_writtenB
  have GW : FnOk P w K mg base CX0 6 _ fd_g_writtenB ["balance"] (spBalT (cB K) (cR K)) := ok_writtenB F_w' (fact_O (P := P) (w := w) (base := base) X G c) GT bT kT gT
  exact ⟨_, _, fact_ownB c (by unfold ownsB; simp), ok_strB F_b_str' GW (FunD.bindsN F_w' fun _ _ _ _ _ _ us hl => match us, hl with | [_], _ => rfl) F_g_writtenB.kp (He.glo_ok X G (c.a.fact 34 (f := .glo "written_balances") rfl)) (He.free_ok X G (c.a.fact 52 (f := .free "str") rfl)), (FunD.bindsN F_b_str' fun _ _ _ _ _ _ us hl => match us, hl with | [_], _ => rfl)⟩
theorem fact_W (X : K.In h) (G : h.Ns mainGlobals mg) (c : SaysK fa fn fx tf h K) : BopK P w K mg base (cB K) (cR K) (He.ga K "BadRatio") := by
  have B := fact_B c
  have BK := fact_BK (P := P) (w := w) (base := base) X G c
  obtain ⟨f2, fd2, M2, G2, b2⟩ := (fact_G (P := P) (w := w) (base := base) X G c).mul
  obtain ⟨fRN, fdRN, MRN, GRN, bRN⟩ := fact_neg (P := P) (w := w) (base := base) X G c
  obtain ⟨fS, fdS, GS, bS, kS, gS⟩ := fact_summed (P := P) (w := w) (base := base) X G c
  obtain ⟨fT, fdT, GT, bT, kT, gT⟩ := fact_times (P := P) (w := w) (base := base) X G c
  obtain ⟨fd_b_add, F_b_add⟩ := c.a.def_ 20 (d := b_add) rfl
  have F_b_add' : MtP K "__add__" "Balance.__add__" (balM 8) (He.ma K (cB K) "__add__") fd_b_add := F_b_add
  obtain ⟨fd_b_sub, F_b_sub⟩ := c.a.def_ 21 (d := b_sub) rfl
  have F_b_sub' : MtP K "__sub__" "Balance.__sub__" (balM 9) (He.ma K (cB K) "__sub__") fd_b_sub := F_b_sub
  obtain ⟨fd_b_neg, F_b_neg⟩ := c.a.def_ 22 (d := b_neg) rfl
  have F_b_neg' : MtP K "__neg__" "Balance.__neg__" (balM 10) (He.ma K (cB K) "__neg__") fd_b_neg := F_b_neg
  obtain ⟨fd_b_eq, F_b_eq⟩ := c.a.def_ 24 (d := b_eq) rfl
  have F_b_eq' : MtP K "__eq__" "Balance.__eq__" (balM 12) (He.ma K (cB K) "__eq__") fd_b_eq := F_b_eq
  obtain ⟨fd_b_least, F_b_least⟩ := c.a.def_ 19 (d := b_least) rfl
  have F_b_least' : MtP K "least" "Balance.least" (balM 6) (He.ma K (cB K) "least") fd_b_least := F_b_least
  obtain ⟨fd_b_gains, F_b_gains⟩ := c.a.def_ 17 (d := b_gains) rfl
  have F_b_gains' : MtP K "gains" "Balance.gains" (balM 4) (He.ma K (cB K) "gains") fd_b_gains := F_b_gains
  obtain ⟨fd_b_losses, F_b_losses⟩ := c.a.def_ 18 (d := b_losses) rfl
  have F_b_losses' : MtP K "losses" "Balance.losses" (balM 5) (He.ma K (cB K) "losses") fd_b_losses := F_b_losses
  have q := fxs c 14 (f := gcdB) rfl
  unfold gcdB at q
  simp only [Bool.and_eq_true] at q
  have gG : mg "gcd" = some (.builtin "math.gcd") := PySem.W.mg_of X G (He.eqO_ok q.1)
  have gL : mg "lcm" = some (.builtin "math.lcm") := PySem.W.mg_of X G (He.eqO_ok q.2)
  exact ⟨fact_O (P := P) (w := w) (base := base) X G c, B.ty, B.cc, ⟨(He.free_ok X G (c.a.fact 50 (f := .free "int") rfl)), (He.free_ok X G (c.a.fact 53 (f := .free "len") rfl)), (He.free_ok X G (c.a.fact 58 (f := .free "abs") rfl))⟩, (He.free_ok X G (c.a.fact 55 (f := .free "tuple") rfl)), (He.free_ok X G (c.a.fact 52 (f := .free "str") rfl)), (He.free_ok X G (c.a.fact 56 (f := .free "dict") rfl)), (He.free_ok X G (c.a.fact 54 (f := .free "list") rfl)), fact_strB (P := P) (w := w) (base := base) X G c, (fact_nR c).2.2, B.mo, B.sf, B.rm, M2.2, B.sub, B.rt, B.nf, B.ne, B.ob,
    ⟨_, _, fact_ownB c (m := "__add__") (by unfold ownsB; simp), ok_addB F_b_add' GS bS kS gS, (FunD.bindsN F_b_add' fun _ _ _ _ _ _ us hl => match us, hl with | [_, _], _ => rfl)⟩,
    ⟨_, _, fact_ownB c (m := "__sub__") (by unfold ownsB; simp), ok_subB F_b_sub' GS bS kS gS, (FunD.bindsN F_b_sub' fun _ _ _ _ _ _ us hl => match us, hl with | [_, _], _ => rfl)⟩,
    fact_mulB (P := P) (w := w) (base := base) X G c, ⟨_, M2.1⟩,
    ⟨_, _, fact_ownB c (by unfold ownsB; simp), ok_negB F_b_neg' GT bT kT gT, (FunD.bindsN F_b_neg' fun _ _ _ _ _ _ us hl => match us, hl with | [_], _ => rfl)⟩,
    ⟨_, _, fact_ownB c (by unfold ownsB; simp), ok_eqB F_b_eq' (fact_TB c) (He.glo_ok X G (c.a.fact 36 (f := .glo "Balance") rfl)) (He.free_ok X G (c.a.fact 49 (f := .free "isinstance") rfl)) B.ty B.cc, (FunD.bindsN F_b_eq' fun _ _ _ _ _ _ us hl => match us, hl with | [_, _], _ => rfl)⟩,
    ⟨_, _, (He.meth_ok (c.a.fact 91 (f := .meth "Balance" "least") rfl)), ok_least F_b_least' BK (fact_K (P := P) (w := w) (base := base) X G c) gL gG, (FunD.bindsN F_b_least' fun _ _ _ _ _ _ us hl => match us, hl with | [_], _ => rfl)⟩,
    ⟨_, _, (He.meth_ok (c.a.fact 89 (f := .meth "Balance" "gains") rfl)), ok_gains F_b_gains' BK (fact_T c), (FunD.bindsN F_b_gains' fun _ _ _ _ _ _ us hl => match us, hl with | [_], _ => rfl)⟩,
    ⟨_, _, (He.meth_ok (c.a.fact 90 (f := .meth "Balance" "losses") rfl)), ok_losses F_b_losses' BK (fact_T c) MRN GRN bRN, (FunD.bindsN F_b_losses' fun _ _ _ _ _ _ us hl => match us, hl with | [_], _ => rfl)⟩,
    ⟨fRN, fdRN, MRN, GRN, bRN⟩⟩
theorem fact_gaining (X : K.In h) (G : h.Ns mainGlobals mg) (c : SaysK fa fn fx tf h K) : ∃ (f : Addr) (fd : FuncData), FnOk P w K mg base CX0 12 f fd ["balance"] (spGaining (cB K) (cR K)) ∧ Binds K fd ["balance"] [] ∧ PySem.W.keepIn K (.ref f) = true ∧ mg "_gaining" = some (.ref f) := by
  obtain ⟨fd_g_gaining, F_g_gaining⟩ := c.a.def_ 56 (d := g_gaining) rfl
  have F_g_gaining' : FnP K "_gaining" (top 72) (He.ga K "_gaining") fd_g_gaining := F_g_gaining
  exact ⟨_, _, ok_gaining F_g_gaining' (fact_W (P := P) (w := w) (base := base) X G c), (FunD.bindsN F_g_gaining' fun _ _ _ _ _ _ us hl => match us, hl with | [_], _ => rfl), F_g_gaining.kp, (He.glo_ok X G (c.a.fact 16 (f := .glo "_gaining") rfl))⟩
theorem fact_kind (X : K.In h) (G : h.Ns mainGlobals mg) (c : SaysK fa fn fx tf h K) : ∃ (f : Addr) (fd : FuncData), FnOk P w K mg base CX0 1 f fd ["value"] (spKind K) ∧ Binds K fd ["value"] [] ∧ PySem.W.keepIn K (.ref f) = true ∧ mg "is_kind" = some (.ref f) := by
  obtain ⟨fd_g_is_kind, F_g_is_kind⟩ := c.a.def_ 54 (d := g_is_kind) rfl
  have F_g_is_kind' : FnP K "is_kind" (top 68) (He.ga K "is_kind") fd_g_is_kind := F_g_is_kind
  exact ⟨_, _, ok_isKind F_g_is_kind' ⟨(He.free_ok X G (c.a.fact 49 (f := .free "isinstance") rfl)), (He.free_ok X G (c.a.fact 52 (f := .free "str") rfl)), ⟨_, (He.glo_ok X G (c.a.fact 41 (f := .glo "KINDS") rfl)), fact_kds c⟩⟩, (FunD.bindsN F_g_is_kind' fun _ _ _ _ _ _ us hl => match us, hl with | [_], _ => rfl), F_g_is_kind.kp, (He.glo_ok X G (c.a.fact 14 (f := .glo "is_kind") rfl))⟩
theorem fact_kept (X : K.In h) (G : h.Ns mainGlobals mg) (c : SaysK fa fn fx tf h K) : ∃ (f : Addr) (fd : FuncData), FnOk P w K mg base CX0 1 f fd ["kind", "sign"] spKept ∧ Binds K fd ["kind", "sign"] [] ∧ PySem.W.keepIn K (.ref f) = true ∧ mg "is_kept" = some (.ref f) := by
  obtain ⟨fd_g_is_kept, F_g_is_kept⟩ := c.a.def_ 55 (d := g_is_kept) rfl
  have F_g_is_kept' : FnP K "is_kept" (top 69) (He.ga K "is_kept") fd_g_is_kept := F_g_is_kept
  exact ⟨_, _, ok_isKept F_g_is_kept', (FunD.bindsN F_g_is_kept' fun _ _ _ _ _ _ us hl => match us, hl with | [_, _], _ => rfl), F_g_is_kept.kp, (He.glo_ok X G (c.a.fact 15 (f := .glo "is_kept") rfl))⟩
theorem fact_PK (X : K.In h) (G : h.Ns mainGlobals mg) (c : SaysK fa fn fx tf h K) : PairK P w K mg base (cP K) (cB K) (cR K) (He.ga K "BadBalance") (He.ga K "BadPair") := by
  obtain ⟨fd_p_init, F_p_init⟩ := c.a.def_ 26 (d := p_init) rfl
  have F_p_init' : MtP K "__init__" "Pair.__init__" (pairM 0) (He.ma K (cP K) "__init__") fd_p_init := F_p_init
  obtain ⟨fG, fdG, GG, bG, kG, gG⟩ := fact_gaining (P := P) (w := w) (base := base) X G c
  have mk := He.mkr_ok (c.a.fact 99 (f := .mkr "Pair") rfl)
  exact ⟨fact_TP c, (fact_dif c).1, (fact_dif c).2.1, (He.glo_ok X G (c.a.fact 37 (f := .glo "Pair") rfl)), ⟨_, _, mk, ok_pairInit F_p_init' (fact_TP c) (fact_dif c).1 (fact_dif c).2.1 (fact_W (P := P) (w := w) (base := base) X G c) (fact_BadBalance (P := P) (w := w) (base := base) X G c) (fact_BadPair (P := P) (w := w) (base := base) X G c) GG bG kG gG, (FunD.bindsN F_p_init' fun _ _ _ _ _ _ us hl => match us, hl with | [_, _], _ => rfl)⟩⟩
theorem fact_CK (X : K.In h) (G : h.Ns mainGlobals mg) (c : SaysK fa fn fx tf h K) : CompK P w K mg base (cM K) (cP K) (cB K) (cR K) (He.ga K "BadBalance") (He.ga K "BadComparison") := by
  obtain ⟨fd_m_init, F_m_init⟩ := c.a.def_ 30 (d := m_init) rfl
  have F_m_init' : MtP K "__init__" "Comparison.__init__" (compM 0) (He.ma K (cM K) "__init__") fd_m_init := F_m_init
  obtain ⟨fG, fdG, GG, bG, kG, gG⟩ := fact_gaining (P := P) (w := w) (base := base) X G c
  obtain ⟨fK, fdK, GK, bK, kK, gK⟩ := fact_kind (P := P) (w := w) (base := base) X G c
  have mk := He.mkr_ok (c.a.fact 100 (f := .mkr "Comparison") rfl)
  obtain ⟨d1, d2, d3, d4, d5, d6⟩ := fact_dif c
  exact ⟨fact_TM c, d3, d4, d5, (He.glo_ok X G (c.a.fact 38 (f := .glo "Comparison") rfl)), ⟨_, _, mk, ok_compInit F_m_init' (fact_TM c) d3 d4 d5 (fact_W (P := P) (w := w) (base := base) X G c) (fact_PK (P := P) (w := w) (base := base) X G c) (fact_BadBalance (P := P) (w := w) (base := base) X G c) (fact_BadComparison (P := P) (w := w) (base := base) X G c) GG bG kG gG GK bK kK gK, (FunD.bindsN F_m_init' fun _ _ _ _ _ _ us hl => match us, hl with | [_, _, _], _ => rfl)⟩⟩
theorem fact_M (X : K.In h) (G : h.Ns mainGlobals mg) (c : SaysK fa fn fx tf h K) : CmK P w K mg base (cM K) (cP K) (cB K) (cR K) (He.ga K "BadRatio") (He.ga K "BadBalance") (He.ga K "BadComparison") := by
  obtain ⟨fd_m_eq, F_m_eq⟩ := c.a.def_ 32 (d := m_eq) rfl
  have F_m_eq' : MtP K "__eq__" "Comparison.__eq__" (compM 3) (He.ma K (cM K) "__eq__") fd_m_eq := F_m_eq
  obtain ⟨fd_m_contraries, F_m_contraries⟩ := c.a.def_ 31 (d := m_contraries) rfl
  have F_m_contraries' : MtP K "contraries" "Comparison.contraries" (compM 2) (He.ma K (cM K) "contraries") fd_m_contraries := F_m_contraries
  obtain ⟨n1, n2, n3⟩ := fact_nM c
  exact ⟨(fact_W (P := P) (w := w) (base := base) X G c), (fact_CK (P := P) (w := w) (base := base) X G c), n1, n2, n3, ⟨_, _, fact_ownM c (m := "__eq__") (by unfold ownsP; simp), ok_eqC F_m_eq' (fact_W (P := P) (w := w) (base := base) X G c) (fact_TM c) (fact_YM c) (He.glo_ok X G (c.a.fact 38 (f := .glo "Comparison") rfl)), (FunD.bindsN F_m_eq' fun _ _ _ _ _ _ us hl => match us, hl with | [_, _], _ => rfl)⟩, ⟨_, _, (He.meth_ok (c.a.fact 93 (f := .meth "Comparison" "contraries") rfl)), ok_contr F_m_contraries' (fact_W (P := P) (w := w) (base := base) X G c) (fact_CK (P := P) (w := w) (base := base) X G c), (FunD.bindsN F_m_contraries' fun _ _ _ _ _ _ us hl => match us, hl with | [_], _ => rfl)⟩⟩
theorem fact_need (X : K.In h) (G : h.Ns mainGlobals mg) (c : SaysK fa fn fx tf h K) : ∃ (f : Addr) (fd : FuncData), FnOk P w K mg base (L2.CX P w) 4 f fd ["known", "names"] spNeed ∧ Binds K fd ["known", "names"] [] ∧ PySem.W.keepIn K (.ref f) = true ∧ mg "need_things" = some (.ref f) := by
  obtain ⟨fd_g_need_things, F_g_need_things⟩ := c.a.def_ 45 (d := g_need_things) rfl
  have F_g_need_things' : FnP K "need_things" (top 25) (He.ga K "need_things") fd_g_need_things := F_g_need_things
  exact ⟨_, _, ok_need F_g_need_things' (fact_NoThing (P := P) (w := w) (base := base) X G c), (FunD.bindsN F_g_need_things' fun _ _ _ _ _ _ us hl => match us, hl with | [_, _], _ => rfl), F_g_need_things.kp, (He.glo_ok X G (c.a.fact 5 (f := .glo "need_things") rfl))⟩
theorem fact_worth (X : K.In h) (G : h.Ns mainGlobals mg) (c : SaysK fa fn fx tf h K) : ∃ (f : Addr) (fd : FuncData), Meth K (cS K) "worth" f ∧ FnOk P w K mg base (L2.CX P w) 9 f fd ["self", "balance"] (spWorth (cS K) (cB K) (cR K)) ∧ Binds K fd ["self", "balance"] [] := by
  obtain ⟨fd_s_worth, F_s_worth⟩ := c.a.def_ 35 (d := s_worth) rfl
  have F_s_worth' : MtP K "worth" "Scale.worth" (scaM 2) (He.ma K (cS K) "worth") fd_s_worth := F_s_worth
  obtain ⟨fT, fdT, GT, bT, kT, gT⟩ := fact_need (P := P) (w := w) (base := base) X G c
  exact ⟨_, _, (He.meth_ok (c.a.fact 94 (f := .meth "Scale" "worth") rfl)), ok_worth F_s_worth' (fact_W (P := P) (w := w) (base := base) X G c) (fact_TS c) (fact_BadBalance (P := P) (w := w) (base := base) X G c) GT bT kT gT, (FunD.bindsN F_s_worth' fun _ _ _ _ _ _ us hl => match us, hl with | [_, _], _ => rfl)⟩
theorem fact_RW (X : K.In h) (G : h.Ns mainGlobals mg) (c : SaysK fa fn fx tf h K) : RwK P w K mg base (cS K) (cM K) (cP K) (cB K) (cR K) (He.ga K "BadRatio") (He.ga K "BadBalance") (He.ga K "BadComparison") (He.ga K "BadNumber") := by
  obtain ⟨fd_p_eq, F_p_eq⟩ := c.a.def_ 28 (d := p_eq) rfl
  have F_p_eq' : MtP K "__eq__" "Pair.__eq__" (pairM 3) (He.ma K (cP K) "__eq__") fd_p_eq := F_p_eq
  obtain ⟨fd_p_as_rows, F_p_as_rows⟩ := c.a.def_ 27 (d := p_as_rows) rfl
  have F_p_as_rows' : MtP K "as_rows" "Pair.as_rows" (pairM 2) (He.ma K (cP K) "as_rows") fd_p_as_rows := F_p_as_rows
  obtain ⟨fd_s_outcome, F_s_outcome⟩ := c.a.def_ 36 (d := s_outcome) rfl
  have F_s_outcome' : MtP K "outcome" "Scale.outcome" (scaM 3) (He.ma K (cS K) "outcome") fd_s_outcome := F_s_outcome
  obtain ⟨fd_s_keeps, F_s_keeps⟩ := c.a.def_ 37 (d := s_keeps) rfl
  have F_s_keeps' : MtP K "keeps" "Scale.keeps" (scaM 4) (He.ma K (cS K) "keeps") fd_s_keeps := F_s_keeps
  obtain ⟨fI, fdI, GI, bI, kI, gI⟩ := fact_within (P := P) (w := w) (base := base) X G c
  obtain ⟨fK, fdK, GK, bK, kK, gK⟩ := fact_kept (P := P) (w := w) (base := base) X G c
  obtain ⟨fW, fdW, MW, GW, bW⟩ := fact_worth (P := P) (w := w) (base := base) X G c
  obtain ⟨n1, n2, n3⟩ := fact_nP c
  exact ⟨fact_M (P := P) (w := w) (base := base) X G c, fact_TP c, fact_TS c, ⟨_, _, fact_ownP c (m := "__eq__") (by unfold ownsP; simp), ok_eqP F_p_eq' (fact_W (P := P) (w := w) (base := base) X G c) (fact_TP c) (fact_YP c) (He.glo_ok X G (c.a.fact 37 (f := .glo "Pair") rfl)), (FunD.bindsN F_p_eq' fun _ _ _ _ _ _ us hl => match us, hl with | [_, _], _ => rfl)⟩, n1, n2, n3,
    ⟨_, _, (He.meth_ok (c.a.fact 92 (f := .meth "Pair" "as_rows") rfl)), ok_asRows F_p_as_rows' (fact_W (P := P) (w := w) (base := base) X G c) (fact_TP c) (fact_CK (P := P) (w := w) (base := base) X G c) (fact_BadNumber (P := P) (w := w) (base := base) X G c) GI bI kI gI, (FunD.bindsN F_p_as_rows' fun _ _ _ _ _ _ us hl => match us, hl with | [_, _], _ => rfl), (FunD.bindsKM F_p_as_rows' fun _ _ _ _ _ _ _ zs hl => match zs, hl with | [_], _ => rfl)⟩,
    ⟨_, _, (He.meth_ok (c.a.fact 95 (f := .meth "Scale" "outcome") rfl)), ok_outcome F_s_outcome' (fact_W (P := P) (w := w) (base := base) X G c) (fact_TS c) (fact_TP c) (fact_YP c) (He.glo_ok X G (c.a.fact 37 (f := .glo "Pair") rfl)) (fact_BadPair (P := P) (w := w) (base := base) X G c) MW GW bW, (FunD.bindsN F_s_outcome' fun _ _ _ _ _ _ us hl => match us, hl with | [_, _], _ => rfl)⟩,
    ⟨_, _, (He.meth_ok (c.a.fact 96 (f := .meth "Scale" "keeps") rfl)), ok_keeps F_s_keeps' (fact_W (P := P) (w := w) (base := base) X G c) (fact_TS c) (fact_TM c) (fact_YM c) (He.glo_ok X G (c.a.fact 38 (f := .glo "Comparison") rfl)) (fact_BadComparison (P := P) (w := w) (base := base) X G c) MW GW bW GK bK kK gK, (FunD.bindsN F_s_keeps' fun _ _ _ _ _ _ us hl => match us, hl with | [_, _], _ => rfl)⟩⟩
theorem fact_reel (X : K.In h) (G : h.Ns mainGlobals mg) (c : SaysK fa fn fx tf h K) : ∃ (f : Addr) (fd : FuncData), FnOk P w K mg base CX0 1 f fd ["_law_script"] (spTill K) ∧ Binds K fd ["_law_script"] [] ∧ PySem.W.keepIn K (.ref f) = true ∧ mg "_law_reel" = some (.ref f) := by
  obtain ⟨fd_g_law_reel, F_g_law_reel⟩ := c.a.def_ 57 (d := g_law_reel) rfl
  have F_g_law_reel' : FnP K "_law_reel" (top 79) (He.ga K "_law_reel") fd_g_law_reel := F_g_law_reel
  exact ⟨_, _, ok_till F_g_law_reel' ⟨(He.free_ok X G (c.a.fact 50 (f := .free "int") rfl)), (He.free_ok X G (c.a.fact 53 (f := .free "len") rfl)), (He.free_ok X G (c.a.fact 58 (f := .free "abs") rfl))⟩, (FunD.bindsN F_g_law_reel' fun _ _ _ _ _ _ us hl => match us, hl with | [_], _ => rfl), F_g_law_reel.kp, (He.glo_ok X G (c.a.fact 17 (f := .glo "_law_reel") rfl))⟩
theorem fact_turn (X : K.In h) (G : h.Ns mainGlobals mg) (c : SaysK fa fn fx tf h K) : ∃ (f : Addr) (fd : FuncData), FnOk P w K mg base CX0 1 f fd ["_law_reel_here", "_law_many"] spCoin ∧ Binds K fd ["_law_reel_here", "_law_many"] [] ∧ PySem.W.keepIn K (.ref f) = true ∧ mg "_law_turn" = some (.ref f) := by
  obtain ⟨fd_g_law_turn, F_g_law_turn⟩ := c.a.def_ 58 (d := g_law_turn) rfl
  have F_g_law_turn' : FnP K "_law_turn" (top 80) (He.ga K "_law_turn") fd_g_law_turn := F_g_law_turn
  exact ⟨_, _, ok_coin F_g_law_turn' ⟨(He.free_ok X G (c.a.fact 50 (f := .free "int") rfl)), (He.free_ok X G (c.a.fact 53 (f := .free "len") rfl)), (He.free_ok X G (c.a.fact 58 (f := .free "abs") rfl))⟩, (FunD.bindsN F_g_law_turn' fun _ _ _ _ _ _ us hl => match us, hl with | [_, _], _ => rfl), F_g_law_turn.kp, (He.glo_ok X G (c.a.fact 18 (f := .glo "_law_turn") rfl))⟩
theorem fact_pick (X : K.In h) (G : h.Ns mainGlobals mg) (c : SaysK fa fn fx tf h K) : ∃ (f : Addr) (fd : FuncData), FnOk P w K mg base CX0 2 f fd ["_law_reel_here", "_law_some"] spOf ∧ Binds K fd ["_law_reel_here", "_law_some"] [] ∧ PySem.W.keepIn K (.ref f) = true ∧ mg "_law_pick" = some (.ref f) := by
  obtain ⟨fd_g_law_pick, F_g_law_pick⟩ := c.a.def_ 59 (d := g_law_pick) rfl
  have F_g_law_pick' : FnP K "_law_pick" (top 81) (He.ga K "_law_pick") fd_g_law_pick := F_g_law_pick
  obtain ⟨fd_g_law_turn, F_g_law_turn⟩ := c.a.def_ 58 (d := g_law_turn) rfl
  have F_g_law_turn' : FnP K "_law_turn" (top 80) (He.ga K "_law_turn") fd_g_law_turn := F_g_law_turn
  exact ⟨_, _, ok_of F_g_law_pick' ⟨(He.free_ok X G (c.a.fact 50 (f := .free "int") rfl)), (He.free_ok X G (c.a.fact 53 (f := .free "len") rfl)), (He.free_ok X G (c.a.fact 58 (f := .free "abs") rfl))⟩ (He.glo_ok X G (c.a.fact 18 (f := .glo "_law_turn") rfl)) F_g_law_turn', (FunD.bindsN F_g_law_pick' fun _ _ _ _ _ _ us hl => match us, hl with | [_, _], _ => rfl), F_g_law_pick.kp, (He.glo_ok X G (c.a.fact 19 (f := .glo "_law_pick") rfl))⟩
theorem fact_shared (X : K.In h) (G : h.Ns mainGlobals mg) (c : SaysK fa fn fx tf h K) : ∃ (f : Addr) (fd : FuncData), FnOk P w K mg base CX0 1 f fd ["_law_one", "_law_other"] spSh ∧ Binds K fd ["_law_one", "_law_other"] [] ∧ PySem.W.keepIn K (.ref f) = true ∧ mg "_law_shared" = some (.ref f) := by
  obtain ⟨fd_g_law_shared, F_g_law_shared⟩ := c.a.def_ 60 (d := g_law_shared) rfl
  have F_g_law_shared' : FnP K "_law_shared" (top 82) (He.ga K "_law_shared") fd_g_law_shared := F_g_law_shared
  exact ⟨_, _, ok_shared F_g_law_shared' ⟨(He.free_ok X G (c.a.fact 50 (f := .free "int") rfl)), (He.free_ok X G (c.a.fact 53 (f := .free "len") rfl)), (He.free_ok X G (c.a.fact 58 (f := .free "abs") rfl))⟩, (FunD.bindsN F_g_law_shared' fun _ _ _ _ _ _ us hl => match us, hl with | [_, _], _ => rfl), F_g_law_shared.kp, (He.glo_ok X G (c.a.fact 20 (f := .glo "_law_shared") rfl))⟩
theorem fact_things (X : K.In h) (G : h.Ns mainGlobals mg) (c : SaysK fa fn fx tf h K) : ∃ (f : Addr) (fd : FuncData), FnOk P w K mg base CX0 3 f fd ["_law_reel_here", "_law_many"] spThs ∧ Binds K fd ["_law_reel_here", "_law_many"] [] ∧ PySem.W.keepIn K (.ref f) = true ∧ mg "_law_things" = some (.ref f) := by
  obtain ⟨fd_g_law_things, F_g_law_things⟩ := c.a.def_ 65 (d := g_law_things) rfl
  have F_g_law_things' : FnP K "_law_things" (top 90) (He.ga K "_law_things") fd_g_law_things := F_g_law_things
  obtain ⟨fT, fdT, GT, bT, kT, gT⟩ := fact_turn (P := P) (w := w) (base := base) X G c
  obtain ⟨fO, fdO, GO, bO, kO, gO⟩ := fact_pick (P := P) (w := w) (base := base) X G c
  exact ⟨_, _, ok_things F_g_law_things' GT bT kT gT GO bO kO gO, (FunD.bindsN F_g_law_things' fun _ _ _ _ _ _ us hl => match us, hl with | [_, _], _ => rfl), F_g_law_things.kp, (He.glo_ok X G (c.a.fact 25 (f := .glo "_law_things") rfl))⟩
theorem fact_sumT (X : K.In h) (G : h.Ns mainGlobals mg) (c : SaysK fa fn fx tf h K) : ∃ (f : Addr) (fd : FuncData), FnOk P w K mg base CX0 1 f fd ["_law_terms"] spSumT ∧ Binds K fd ["_law_terms"] [] ∧ PySem.W.keepIn K (.ref f) = true ∧ mg "_law_sum_text" = some (.ref f) := by
  obtain ⟨fd_g_law_sum_text, F_g_law_sum_text⟩ := c.a.def_ 61 (d := g_law_sum_text) rfl
  have F_g_law_sum_text' : FnP K "_law_sum_text" (top 86) (He.ga K "_law_sum_text") fd_g_law_sum_text := F_g_law_sum_text
  exact ⟨_, _, ok_sumText F_g_law_sum_text' (He.free_ok X G (c.a.fact 52 (f := .free "str") rfl)), (FunD.bindsN F_g_law_sum_text' fun _ _ _ _ _ _ us hl => match us, hl with | [_], _ => rfl), F_g_law_sum_text.kp, (He.glo_ok X G (c.a.fact 21 (f := .glo "_law_sum_text") rfl))⟩
theorem fact_lineT (X : K.In h) (G : h.Ns mainGlobals mg) (c : SaysK fa fn fx tf h K) : ∃ (f : Addr) (fd : FuncData), FnOk P w K mg base CX0 2 f fd ["_law_line_here", "_law_word"] spLnT ∧ Binds K fd ["_law_line_here", "_law_word"] [] ∧ PySem.W.keepIn K (.ref f) = true ∧ mg "_law_line_text" = some (.ref f) := by
  obtain ⟨fd_g_law_line_text, F_g_law_line_text⟩ := c.a.def_ 62 (d := g_law_line_text) rfl
  have F_g_law_line_text' : FnP K "_law_line_text" (top 87) (He.ga K "_law_line_text") fd_g_law_line_text := F_g_law_line_text
  obtain ⟨fS, fdS, GS, bS, kS, gS⟩ := fact_sumT (P := P) (w := w) (base := base) X G c
  exact ⟨_, _, ok_lineText F_g_law_line_text' (He.free_ok X G (c.a.fact 60 (f := .free "sorted") rfl)) (He.free_ok X G (c.a.fact 52 (f := .free "str") rfl)) GS bS kS gS, (FunD.bindsN F_g_law_line_text' fun _ _ _ _ _ _ us hl => match us, hl with | [_, _], _ => rfl), F_g_law_line_text.kp, (He.glo_ok X G (c.a.fact 22 (f := .glo "_law_line_text") rfl))⟩
theorem fact_line (X : K.In h) (G : h.Ns mainGlobals mg) (c : SaysK fa fn fx tf h K) : ∃ (f : Addr) (fd : FuncData), FnOk P w K mg base CX0 3 f fd ["_law_reel_here", "_law_things_here"] spLine ∧ Binds K fd ["_law_reel_here", "_law_things_here"] [] ∧ PySem.W.keepIn K (.ref f) = true ∧ mg "_law_line" = some (.ref f) := by
  obtain ⟨fd_g_law_line, F_g_law_line⟩ := c.a.def_ 63 (d := g_law_line) rfl
  have F_g_law_line' : FnP K "_law_line" (top 88) (He.ga K "_law_line") fd_g_law_line := F_g_law_line
  obtain ⟨fO, fdO, GO, bO, kO, gO⟩ := fact_pick (P := P) (w := w) (base := base) X G c
  obtain ⟨fS, fdS, GS, bS, kS, gS⟩ := fact_shared (P := P) (w := w) (base := base) X G c
  exact ⟨_, _, ok_line F_g_law_line' (He.free_ok X G (c.a.fact 56 (f := .free "dict") rfl)) GO bO kO gO GS bS kS gS, (FunD.bindsN F_g_law_line' fun _ _ _ _ _ _ us hl => match us, hl with | [_, _], _ => rfl), F_g_law_line.kp, (He.glo_ok X G (c.a.fact 23 (f := .glo "_law_line") rfl))⟩
theorem fact_up (X : K.In h) (G : h.Ns mainGlobals mg) (c : SaysK fa fn fx tf h K) : ∃ (f : Addr) (fd : FuncData), FnOk P w K mg base CX0 1 f fd ["_law_line_here"] spUp ∧ Binds K fd ["_law_line_here"] [] ∧ PySem.W.keepIn K (.ref f) = true ∧ mg "_law_up" = some (.ref f) := by
  obtain ⟨fd_g_law_up, F_g_law_up⟩ := c.a.def_ 64 (d := g_law_up) rfl
  have F_g_law_up' : FnP K "_law_up" (top 89) (He.ga K "_law_up") fd_g_law_up := F_g_law_up
  exact ⟨_, _, ok_up F_g_law_up' (He.free_ok X G (c.a.fact 60 (f := .free "sorted") rfl)) (He.free_ok X G (c.a.fact 52 (f := .free "str") rfl)) (He.free_ok X G (c.a.fact 56 (f := .free "dict") rfl)), (FunD.bindsN F_g_law_up' fun _ _ _ _ _ _ us hl => match us, hl with | [_], _ => rfl), F_g_law_up.kp, (He.glo_ok X G (c.a.fact 24 (f := .glo "_law_up") rfl))⟩
theorem fact_ratio (X : K.In h) (G : h.Ns mainGlobals mg) (c : SaysK fa fn fx tf h K) : ∃ (f : Addr) (fd : FuncData), FnOk P w K mg base CX0 5 f fd ["_law_reel_here"] (spRa (cR K)) ∧ Binds K fd ["_law_reel_here"] [] ∧ PySem.W.keepIn K (.ref f) = true ∧ mg "_law_ratio" = some (.ref f) := by
  obtain ⟨fd_g_law_ratio, F_g_law_ratio⟩ := c.a.def_ 66 (d := g_law_ratio) rfl
  have F_g_law_ratio' : FnP K "_law_ratio" (top 91) (He.ga K "_law_ratio") fd_g_law_ratio := F_g_law_ratio
  obtain ⟨fT, fdT, GT, bT, kT, gT⟩ := fact_turn (P := P) (w := w) (base := base) X G c
  exact ⟨_, _, ok_ra F_g_law_ratio' (fact_K (P := P) (w := w) (base := base) X G c) GT bT kT gT, (FunD.bindsN F_g_law_ratio' fun _ _ _ _ _ _ us hl => match us, hl with | [_], _ => rfl), F_g_law_ratio.kp, (He.glo_ok X G (c.a.fact 26 (f := .glo "_law_ratio") rfl))⟩
theorem fact_FO (X : K.In h) (G : h.Ns mainGlobals mg) (c : SaysK fa fn fx tf h K) : FoK P w K mg base (cS K) (cM K) (cP K) (cB K) (cR K) (He.ga K "BadRatio") (He.ga K "BadBalance") (He.ga K "BadComparison") (He.ga K "BadNumber") := by
  obtain ⟨fd_p_str, F_p_str⟩ := c.a.def_ 29 (d := p_str) rfl
  have F_p_str' : MtP K "__str__" "Pair.__str__" (pairM 4) (He.ma K (cP K) "__str__") fd_p_str := F_p_str
  obtain ⟨fd_m_str, F_m_str⟩ := c.a.def_ 33 (d := m_str) rfl
  have F_m_str' : MtP K "__str__" "Comparison.__str__" (compM 4) (He.ma K (cM K) "__str__") fd_m_str := F_m_str
  exact ⟨fact_RW (P := P) (w := w) (base := base) X G c, (He.free_ok X G (c.a.fact 60 (f := .free "sorted") rfl)), fact_eqR (P := P) (w := w) (base := base) X G c, (fact_B c).nfR, (fact_nR c).1, (fact_nR c).2.1, ⟨_, _, fact_ownP c (m := "__str__") (by unfold ownsP; simp), ok_strP F_p_str' (fact_W (P := P) (w := w) (base := base) X G c) (fact_TP c), (FunD.bindsN F_p_str' fun _ _ _ _ _ _ us hl => match us, hl with | [_], _ => rfl)⟩, ⟨_, _, fact_ownM c (m := "__str__") (by unfold ownsP; simp), ok_strC F_m_str' (fact_W (P := P) (w := w) (base := base) X G c) (fact_TM c), (FunD.bindsN F_m_str' fun _ _ _ _ _ _ us hl => match us, hl with | [_], _ => rfl)⟩, fact_lineT (P := P) (w := w) (base := base) X G c, fact_up (P := P) (w := w) (base := base) X G c⟩
theorem fact_H (X : K.In h) (G : h.Ns mainGlobals mg) (c : SaysK fa fn fx tf h K) : ∃ fd, HearK K mg (cE K) (He.ga K "BadBalance") (He.ga K "BadComparison") (He.ga K "BadPair") (He.ga K "BadNumber") (He.ga K "_law_heard") fd := by
  obtain ⟨fd_g_law_heard, F_g_law_heard⟩ := c.a.def_ 67 (d := g_law_heard) rfl
  have F_g_law_heard' : FnP K "_law_heard" (top 92) (He.ga K "_law_heard") fd_g_law_heard := F_g_law_heard
  exact ⟨_, F_g_law_heard', (He.glo_ok X G (c.a.fact 27 (f := .glo "_law_heard") rfl)), (He.glo_ok X G (c.a.fact 40 (f := .glo "ScaleError") rfl)), (He.glo_ok X G (c.a.fact 43 (f := .glo "BadBalance") rfl)), (He.glo_ok X G (c.a.fact 44 (f := .glo "BadComparison") rfl)), (He.glo_ok X G (c.a.fact 45 (f := .glo "BadPair") rfl)), (He.glo_ok X G (c.a.fact 47 (f := .glo "BadNumber") rfl)), (He.free_ok X G (c.a.fact 49 (f := .free "isinstance") rfl)), fact_er0 c, fact_er1 c, fact_er2 c, fact_er3 c⟩
abbrev TT (K : PySem.W.Frag) : List (Addr × Str) := [((He.cT K ("_law_refused", none)).2, lamQ "_law_refused")]
theorem fact_RF (X : K.In h) (G : h.Ns mainGlobals mg) (c : SaysK fa fn fx tf h K) : ∃ fdH, RfK P w K mg base (cS K) (cM K) (cP K) (cB K) (cR K) (He.ga K "BadRatio") (He.ga K "BadBalance") (He.ga K "BadComparison") (He.ga K "BadPair") (He.ga K "BadNumber") (cE K) (He.ga K "_law_heard") fdH := by
  obtain ⟨fd_g_compared, F_g_compared⟩ := c.a.def_ 53 (d := g_compared) rfl
  have F_g_compared' : FnP K "compared" (top 67) (He.ga K "compared") fd_g_compared := F_g_compared
  obtain ⟨fd_s_init, F_s_init⟩ := c.a.def_ 34 (d := s_init) rfl
  have F_s_init' : MtP K "__init__" "Scale.__init__" (scaM 0) (He.ma K (cS K) "__init__") fd_s_init := F_s_init
  obtain ⟨fN, fdN, GN, bN, kN, gN⟩ := fact_nin (P := P) (w := w) (base := base) X G c
  obtain ⟨fK, fdK, GK, bK, kK, gK⟩ := fact_kind (P := P) (w := w) (base := base) X G c
  obtain ⟨fP, fdP, GP, bP, kP, gP⟩ := fact_pick (P := P) (w := w) (base := base) X G c
  obtain ⟨fdH, hH⟩ := fact_H X G c
  have mk := He.mkr_ok (c.a.fact 101 (f := .mkr "Scale") rfl)
  have SK : ScaK P w K mg base (cS K) (cR K) := ⟨fact_TS c, (fact_dif c).2.2.2.2.2, (He.glo_ok X G (c.a.fact 39 (f := .glo "Scale") rfl)), ⟨_, _, mk, ok_scaInit F_s_init' (fact_TS c) (fact_dif c).2.2.2.2.2 (fact_BadScale (P := P) (w := w) (base := base) X G c) (He.free_ok X G (c.a.fact 55 (f := .free "tuple") rfl)) GN bN kN gN, (FunD.bindsN F_s_init' fun _ _ _ _ _ _ us hl => match us, hl with | [_, _], _ => rfl)⟩⟩
  exact ⟨fdH, fact_FO (P := P) (w := w) (base := base) X G c, hH, fact_PK (P := P) (w := w) (base := base) X G c, SK, (fact_kin c).2.2.2.2, fact_YP c, fact_YS c, ⟨_, _, ok_compared F_g_compared' (fact_W (P := P) (w := w) (base := base) X G c) (fact_CK (P := P) (w := w) (base := base) X G c) (fact_BadBalance (P := P) (w := w) (base := base) X G c) (fact_BadComparison (P := P) (w := w) (base := base) X G c) GK bK kK gK, (FunD.bindsN F_g_compared' fun _ _ _ _ _ _ us hl => match us, hl with | [_, _, _], _ => rfl), (FunD.bindsK F_g_compared' fun _ _ _ _ _ _ zs hl => match zs, hl with | [_, _, _], _ => rfl), F_g_compared.kp, (He.glo_ok X G (c.a.fact 13 (f := .glo "compared") rfl))⟩, ⟨fP, fdP, GP, bP, kP, gP⟩⟩
theorem fact_Z (X : K.In h) (G : h.Ns mainGlobals mg) (c : SaysK fa fn fx tf h K) (hTB : TabB base mg (He.codeOf K ("_law_refused", none)) (He.cT K ("_law_refused", none)).2) : ∃ fdH, LawK P w K mg base (cS K) (cM K) (cP K) (cB K) (cR K) (He.ga K "BadRatio") (He.ga K "BadBalance") (He.ga K "BadComparison") (He.ga K "BadPair") (He.ga K "BadNumber") (cE K) (He.ga K "_law_heard") fdH (TT K) := by
  obtain ⟨fd_g_law_refused, F_g_law_refused⟩ := c.a.def_ 68 (d := g_law_refused) rfl
  have F_g_law_refused' : FnP K "_law_refused" (top 93) (He.ga K "_law_refused") fd_g_law_refused := F_g_law_refused
  obtain ⟨fd_g_law_form_right, F_g_law_form_right⟩ := c.a.def_ 69 (d := g_law_form_right) rfl
  have F_g_law_form_right' : FnP K "_law_form_right" (top 94) (He.ga K "_law_form_right") fd_g_law_form_right := F_g_law_form_right
  obtain ⟨fd_g_law_contraries_right, F_g_law_contraries_right⟩ := c.a.def_ 70 (d := g_law_contraries_right) rfl
  have F_g_law_contraries_right' : FnP K "_law_contraries_right" (top 95) (He.ga K "_law_contraries_right") fd_g_law_contraries_right := F_g_law_contraries_right
  obtain ⟨fd_g_law_rows_right, F_g_law_rows_right⟩ := c.a.def_ 71 (d := g_law_rows_right) rfl
  have F_g_law_rows_right' : FnP K "_law_rows_right" (top 96) (He.ga K "_law_rows_right") fd_g_law_rows_right := F_g_law_rows_right
  obtain ⟨fdH, RF⟩ := fact_RF (P := P) (w := w) (base := base) X G c
  obtain ⟨i1, i2, i3, i4⟩ := fact_fir c
  obtain ⟨j1, j2, j3, j4, _⟩ := fact_kin c
  exact ⟨fdH, RF, (He.free_ok X G (c.a.fact 59 (f := .free "range") rfl)), fact_YM c, i1, i2, i3, i4, j1, j2, j3, j4, fact_reel (P := P) (w := w) (base := base) X G c, fact_turn (P := P) (w := w) (base := base) X G c, fact_things (P := P) (w := w) (base := base) X G c, fact_line (P := P) (w := w) (base := base) X G c, fact_ratio (P := P) (w := w) (base := base) X G c,
    ⟨_, _, ok_fr F_g_law_form_right' RF.FK, (FunD.bindsN F_g_law_form_right' fun _ _ _ _ _ _ us hl => match us, hl with | [_, _, _, _], _ => rfl), F_g_law_form_right.kp, (He.glo_ok X G (c.a.fact 29 (f := .glo "_law_form_right") rfl))⟩, ⟨_, _, ok_cr F_g_law_contraries_right' RF.FK.Z.M, (FunD.bindsN F_g_law_contraries_right' fun _ _ _ _ _ _ us hl => match us, hl with | [_, _], _ => rfl), F_g_law_contraries_right.kp, (He.glo_ok X G (c.a.fact 30 (f := .glo "_law_contraries_right") rfl))⟩, ⟨_, _, ok_rr F_g_law_rows_right' RF.FK.Z, (FunD.bindsN F_g_law_rows_right' fun _ _ _ _ _ _ us hl => match us, hl with | [_, _], _ => rfl), F_g_law_rows_right.kp, (He.glo_ok X G (c.a.fact 31 (f := .glo "_law_rows_right") rfl))⟩,
    ⟨_, _, ok_refused F_g_law_refused' RF hTB rfl (by simp) (fun p hp _ => by rw [List.mem_singleton.mp hp]), (FunD.bindsN F_g_law_refused' fun _ _ _ _ _ _ us hl => match us, hl with | [_, _, _], _ => rfl), F_g_law_refused.kp, (He.glo_ok X G (c.a.fact 28 (f := .glo "_law_refused") rfl))⟩⟩
theorem fact_law {f : Addr} (X : K.In h) (G : h.Ns mainGlobals mg) (hfa : mg ("law" : Str) = some (.ref f)) (c : SaysK fa fn fx tf h K) (hP : P = (PySem.Challenge.rw_scaleborn_k09_multiples_are_one_pair).prog) : LawAtS PySem.Challenge.rw_scaleborn_k09_multiples_are_one_pair w K CX0 21 63 "_law_script" mg f h := by
  subst hP
  obtain ⟨fd_g_law, F_g_law⟩ := c.a.def_ 72 (d := g_law) rfl
  have F_g_law' : FnP K "law" (top 97) (He.ga K "law") fd_g_law := F_g_law
  have e := hfa.symm.trans (He.glo_ok X G (c.a.fact 32 (f := .glo "law") rfl))
  cases e
  have b := FunD.bindsA (ps := ["_law_script"]) F_g_law' fun _ _ _ _ _ _ us hl => match us, hl with | [_], _ => rfl
  have mem : (("_law_refused", none) : Str × Option Str) ∈ tf := List.mem_cons_self
  refine ⟨fd_g_law, tf.map (He.cT K), spLaw K (TT K), fun p hp => ?_, fun p hp => ?_, fun p hp => ?_, fun s u => b s [u] rfl, fun H a ns hl _ hT hS => ?_, fun base _ _ hTB => ?_⟩
  · obtain ⟨q, hq, rfl⟩ := List.mem_map.mp hp
    exact c.empty q hq
  · obtain ⟨q, hq, rfl⟩ := List.mem_map.mp hp
    exact c.out q hq
  · obtain ⟨q, hq, rfl⟩ := List.mem_map.mp hp
    exact PySem.W.codeHd_of_K X (c.hd q hq)
  · refine ⟨a, ns, rfl, hS, hl, fun p hp => ?_, fun _ => rfl⟩
    rw [List.mem_singleton.mp hp]
    exact TabS.nil (hT _ (List.mem_map_of_mem (f := He.cT K) mem))
  · obtain ⟨fdH, Z⟩ := fact_Z X G c (hTB _ (List.mem_map_of_mem (f := He.cT K) mem))
    exact ok_law F_g_law' Z
end
end K09
open PySem PySem.W PySem.Calls PyProof.Rows
theorem PySem.Challenge.cw_scaleborn_k09_multiples_are_one_pair_holds : PySem.Challenge.rw_scaleborn_k09_multiples_are_one_pair.Holds := by
  w_on; o_law
  refine HandSHeadRun.head_imp (r := OpenLaw.row PySem.Challenge.rw_scaleborn_k09_multiples_are_one_pair) (q := view (OpenLaw.row PySem.Challenge.rw_scaleborn_k09_multiples_are_one_pair).prog [0, 97]) (H := K09.hk) (ob := K09.ob) (M := 40000) (loose := K09.loose1 ++ (K09.loose2 ++ (K09.loose3 ++ (K09.loose4 ++ (K09.loose5))))) (d := HandSHeadRun.topDef (OpenLaw.row PySem.Challenge.rw_scaleborn_k09_multiples_are_one_pair).prog 97) (kwd := []) K09.ob_eq
    K09.run (by kernel_rfl) (by kernel_rfl) (by kernel_rfl) (by rfl) (by first | assumption | decide +kernel) (by decide +kernel) ⟨rfl, rfl, rfl, rfl, rfl, by decide +kernel⟩ ?hw ?hc
  case hw => w_witness2
  case hc =>
    refine LamX.walk_ofTsE (n := 63) (k := 21) (CX := fun _ => L2.CX0) (x := "_law_script") rfl (by decide) (by kernel_rfl) ⟨rfl, by decide, by decide⟩ (fun w mg fa h Y G hmg0 => ?_) fun _ _ _ _ _ z => z.elim
    obtain ⟨K, KX, c⟩ := Y
    have hmg : mg ("law" : PySem.Str) = some (.ref fa) := by
      have e : (HandSHeadRun.topDef (OpenLaw.row PySem.Challenge.rw_scaleborn_k09_multiples_are_one_pair).prog 97).name = ("law" : PySem.Str) := by kernel_rfl
      rw [← e]
      exact hmg0
    exact ⟨K, KX, K09.fact_law KX G hmg c rfl⟩
