import PyProof.Rows.All
import Wide.All
import OpenK.AllK
import Wide.FinOn
import HandS.ForMost
import HandS.Exc
import HandS.ExcInit
import HandS.IsInst
import HandS.Defaults
import PyProof.ReprRoads
import HandS.ExcField
import HandS.ExcIs
import KE.KExcIs
import PyProof.CallFns
import KE.KStateDown
import HandS.Head0
import HandS.Head1
import HandS.Head2
import HandS.HeadEnd
import HandS.HeadHook1
import HandS.HeadHook2
import PyProof.StrOps2
import HandS.Base
import HandS.Call
import HandS.ClsMeth
import HandS.MakeKwOnly
import HandS.TryMany
import KE.KOpsOwn
import HandS.OwnEq
import HandS.SlotsOwn
import PyProof.InstNe
import PyProof.Rows.FactsN_abs
import PyProof.Rows.Range3
import PyProof.CallStr
import PyProof.Conv_bool
import HandS.WordsExc
import PyProof.Rows.RuleB_bool
import HandS.Wide
import HandS.Gcd
import HandS.Walk
import HandS.FStr
import HandS.RaiseMore
import HandS.Star
import KE.OsScanText
import KE.IntTextLaws
import HandS.Text
import HandS.StrMore
import HandS.CallLocal
import HandS.Codes
import HandS.Style
import HandS.Lambda
import HandS.HeadHook4
import HandS.BoundDict
import HandS.Dict
import HandS.Head3
import HandS.HeadNt
import HandS.HeadWalk
import HandS.MakeKw
import PySem.Challenge.RW_scaleborn_k01_ratios_and_names
set_option Elab.async false
set_option linter.all false
set_option maxRecDepth 100000
set_option maxHeartbeats 0
/-! An own exception made as a value, by place and by keywords. -/
namespace PySem
namespace MkE
open PySem.W PySem.Calls PyProof.Rows PySem.HandSPX
open Builtin Builtin.ObjectAttr
section
variable {M : Model} {A : Around} {E : Value → Shared → Prop} {h : Heap} {g : Array GenState} {d : Drawn} {t : Nat} {os : OsState}
variable {nm q : Str} {C N : Addr} {bs bm bmB : List Value} {hdct : Bool} {sn : List Str} {sub : List Value} {ab : Bool} {col : Option Bool} {dd : Option Addr} {k0 k1 k2 k3 k5 : Option Value} {B newId initId : String}
theorem look_new (F : ExcBaseFacts B newId initId bmB) (hT : ∀ X : String, bm.contains (.type X) = bmB.contains (.type X)) {us : List Value} {kw : List (Str × Value)} {Q : Unit → Shared → Prop}
    (hC : h.get? C = some (excClassObj nm q C N bs bm hdct sn sub ab col dd k0 k1 k2 k3 k5 newId)) (hq : Q () ⟨h, g, d, t, os⟩) :
    wpAny M A (checkBuiltinCall newId ⟨.ref C :: us, kw⟩) Q E ⟨h, g, d, t, os⟩ := by
  have isB : (Value.ref C :: bm).contains (.type B) = true := by rw [List.contains_cons, hT, F.hasB, Bool.or_true]
  have nostar := F.noStar
  simp only [checkBuiltinCall, F.newKind, F.newSplit, F.newRow]
  repeat (first
    | refine wpAny_loadPart_at hC ?_
    | (refine wpAny_isSubtype_exc hC ?_; rw [isB])
    | refine wpAny_staticBase_exc hC ?_
    | refine wpAny_madeBy_exc hC ?_
    | simp only [bne_self_eq_false, Bool.false_eq_true, if_false]
    | wp_step)
  exact hq
end
section
variable {prog : Program} {w : World} {A : Around} {E : Value → Shared → Prop} {R : Result → Shared → Prop} {h : Heap} {g : Array GenState} {d : Drawn} {t : Nat} {os : OsState}
variable {nm q : Str} {C N : Addr} {bs bm bmB : List Value} {hdct : Bool} {sn : List Str} {sub : List Value} {ab : Bool} {col : Option Bool} {dd : Option Addr} {k0 k1 k2 k3 k5 : Option Value} {B newId initId : String}
theorem new_made (F : ExcBaseFacts B newId initId bmB) (hT : ∀ X : String, bm.contains (.type X) = bmB.contains (.type X)) {us : List Value} {kw : List (Str × Value)}
    (hC : h.get? C = some (excClassObj nm q C N bs bm hdct sn sub ab col dd k0 k1 k2 k3 k5 newId))
    (hq : R (.ok (.ret (.ref (h.objs.size + 1)))) ⟨(h.push (W.kdv_tup us)).push (excO C h.objs.size), g, d, t, os⟩) (hl : us.length ≤ sizeLine) :
    codeAny (model prog w) A (.builtin newId ⟨.ref C :: us, kw⟩) R ⟨h, g, d, t, os⟩ := by
  have ends := F.ends
  have isB : (Value.ref C :: bm).contains (.type B) = true := by rw [List.contains_cons, hT, F.hasB, Bool.or_true]
  have notA : (Value.ref C :: bm).contains (.type "AttributeError") = false := by rw [List.contains_cons, hT, F.noAttr]; rfl
  have notN : (Value.ref C :: bm).contains (.type "NameError") = false := by rw [List.contains_cons, hT, F.noName]; rfl
  refine codeAny_builtinAt F.entry ?_
  unfold Builtin.«BaseException.__new__»
  refine wpAt_bind ?_
  show wpAt _ _ _ (stack >>= _) _ _ _
  refine wpAt_bind (wpAt_stack fun p below => wpAt_of_wpAny ?_)
  wp_walk
  refine wpAt_of_wpAny ?_
  rw [F.owner]
  repeat (first
    | with_reducible refine wpAny_madeHere_exc F.canon hC ?_
    | with_reducible refine wpAny_loadPart_at hC ?_
    | (with_reducible refine wpAny_isSubtype_exc hC ?_; first | rw [isB] | rw [notA] | rw [notN])
    | wp_step)
  show R _ _
  rw [Heap.size_push]
  exact hq
theorem type_made (F : ExcBaseFacts B newId initId bmB) (hT : ∀ X : String, bm.contains (.type X) = bmB.contains (.type X)) {us : List Value} {kw : List (Str × Value)} {fI : Addr} {Q : Fin → Shared → Prop}
    (hC : h.get? C = some (excClassObj nm q C N bs bm hdct sn sub ab col dd k0 k1 k2 k3 k5 newId))
    (hi : W.Looks (model prog w) h (typeLookup (.ref C) "__init__") (some (.ref fI))) (hb : ∀ self, W.Looks (model prog w) h (bindSpecial (.ref fI) self) (.ref fI, [self])) (hl : us.length ≤ sizeLine)
    (hq : codeAny (model prog w) A (.call (.ref fI) ⟨.ref (h.objs.size + 1) :: us, kw⟩)
      (fun r s' => match r with | .ok (.ret v) => v = .none ∧ Q (.done (.ret (.ref (h.objs.size + 1)))) s' | .ok _ => False | .error e => E e s')
      ⟨(h.push (W.kdv_tup us)).push (excO C h.objs.size), g, d, t, os⟩) :
    wpAny (model prog w) A (Builtin.«type.__call__» ⟨.ref C :: us, kw⟩) Q E ⟨h, g, d, t, os⟩ := by
  repeat (first | with_reducible refine wpAny_loadPart_at hC ?_ | with_reducible refine wpAny_madeBy_exc hC ?_ | wp_step)
  refine codeAny_call_builtin_code (Code.quiet_builtin _ F.quiet) (look_new F hT hC ?_)
  refine new_made F hT hC ?_ hl
  show wpAny _ _ _ _ _ _
  have k : ∀ b o, h.get? b = some o → ((h.push (W.kdv_tup us)).push (excO C h.objs.size)).get? b = some o := fun b o e => Heap.get?_push_of_some _ (Heap.get?_push_of_some _ e)
  have hC1 := k _ _ hC
  have at1 : ((h.push (W.kdv_tup us)).push (excO C h.objs.size)).get? (h.objs.size + 1) = some (excO C h.objs.size) := by heap_get
  have own : (Value.ref C :: bm).contains (.ref C) = true := by simp
  have i1 := hi.keeps k
  have b1 := (hb (.ref (h.objs.size + 1))).keeps k
  unfold isInstance
  repeat (first | with_reducible refine wpAny_loadPart_at at1 ?_ | (with_reducible refine wpAny_isSubtype_exc hC1 ?_; rw [own]) | wp_step)
  show wpAny _ _ (typeLookup (.ref C) _) _ _ _
  refine i1.at ?_
  refine wpAny_holding (wpAny_bind (b1.at ?_))
  refine wpAny_bind (wpAny_call (codeAny_mono hq fun r s' z => ?_))
  rcases r with e | (v | _ | _ | _) <;> first | exact z | exact z.elim | skip
  obtain ⟨rfl, z⟩ := z
  first
    | exact wpAny_pure (wpAny_pure z)
    | (wp_walk; exact z)
theorem call_made (F : ExcBaseFacts B newId initId bmB) (hT : ∀ X : String, bm.contains (.type X) = bmB.contains (.type X)) {us : List Value} {kw : List (Str × Value)} {fI : Addr}
    (hC : h.get? C = some (excClassObj nm q C N bs bm hdct sn sub ab col dd k0 k1 k2 k3 k5 newId))
    (hi : W.Looks (model prog w) h (typeLookup (.ref C) "__init__") (some (.ref fI))) (hb : ∀ self, W.Looks (model prog w) h (bindSpecial (.ref fI) self) (.ref fI, [self])) (hl : us.length ≤ sizeLine)
    (hq : codeAny (model prog w) (A.under (.builtin "type.__call__" ⟨.ref C :: us, kw⟩)) (.call (.ref fI) ⟨.ref (h.objs.size + 1) :: us, kw⟩) (W.InitBack (h.objs.size + 1) R)
      ⟨(h.push (W.kdv_tup us)).push (excO C h.objs.size), g, d, t, os⟩) :
    codeAny (model prog w) A (.call (.ref C) ⟨us, kw⟩) R ⟨h, g, d, t, os⟩ := by
  have f1 := tc_lookup
  have f2 := tc_bind (.ref C)
  have hTy : (⟨h, g, d, t, os⟩ : Shared).TypeIs (.ref C) "type" := ⟨_, hC, rfl⟩
  refine codeAny_of_tree ?_
  show wpAny _ _ (callAny (.ref C) _) _ _ _
  repeat (any_goals (first | assumption | with_reducible refine wpAny_loadPart_at hC ?_ | wp_step))
  refine ⟨rfl, ?_⟩
  refine codeAny_call_builtin_at (Code.quiet_builtin _ (by decide +kernel)) entry_typeCall (wpAny_check_type_call_sub hC (type_made F hT hC hi hb hl ?_))
  refine codeAny_mono hq fun r s' z => ?_
  rcases r with e | (v | _ | _ | _) <;> exact z
end
end MkE
end PySem
namespace L2
open PySem PySem.Spec PyProof.Rows
/-! ### an exception of an own class as a value -/
def ErrAt (H : Hp) (e C : Addr) (fs : List (Str × V)) : Prop :=
  (fs = [] ∧ H e = some (exo e C none)) ∨ ∃ d, H e = some (exo e C (some d)) ∧ H d = some (exd d fs)
theorem ErrAt.same {H H' : Hp} {e C : Addr} {fs : List (Str × V)} (h : ErrAt H e C fs) (s : Same H H') : ErrAt H' e C fs := by
  rcases h with ⟨h1, h2⟩ | ⟨d, h1, h2⟩
  · exact .inl ⟨h1, s _ _ h2⟩
  · exact .inr ⟨d, s _ _ h1, s _ _ h2⟩
section
variable {X : Cx} {pins : List (Addr × Obj)} {σ : St} {H : Hp} {s : Shared} {e C : Addr} {fs : List (Str × V)}
theorem ErrAt.inst (I : Inv X pins σ H s) (h : ErrAt H e C fs) :
    ∃ (oe : Obj) (od : Option Obj), PySem.W.InstAt s.heap e oe C od ∧ ∀ f v, fs.lookup f = some v → ∃ (o : Obj) (u : Value), od = some o ∧ RelV v u ∧ PySem.W.lookIn f o = some (some u) := by
  rcases h with ⟨h1, h2⟩ | ⟨d, h1, h2⟩
  · obtain ⟨t1, ho⟩ := exo_at I.hok h2
    exact ⟨_, none, ⟨ho, rfl, rfl, trivial⟩, fun f v l => by rw [h1] at l; cases l⟩
  · obtain ⟨t1, ho⟩ := exo_at I.hok h1
    obtain ⟨mA, hns, rel⟩ := exd_at I.hok h2
    obtain ⟨od, hod, hl⟩ := lookIn_ns hns
    refine ⟨_, some od, ⟨ho, rfl, rfl, hod⟩, fun f v l => ?_⟩
    obtain ⟨u, hu, ru⟩ := RelO.some_of (v := v) (o := mA f) (by rw [← l]; exact rel f)
    exact ⟨od, u, rfl, ru, by rw [hl, hu]⟩
end
/-- isinstance(e, c) -/
def rIsErr (K : PySem.W.Frag) : List V → Hp → VK → Prop := fun xs H Q => ∃ (e C : Addr) (fs : List (Str × V)) (c : V) (cv : Value) (b : Bool),
  xs = [.ref e, c] ∧ ErrAt H e C fs ∧ ExcC K C ∧ ClsV c cv ∧ PySem.W.kitOne K (.ref C) cv = some b ∧ Q (.bl b) H
theorem call_isErr {X : Cx} : CallR X (.builtin "isinstance") (rIsErr X.K) := by
  intro pins s σ H xs us Q I r h
  obtain ⟨e, C, fs, c, cv, b, rfl, he, T, k, ek, q⟩ := h
  obtain ⟨u1, u2, rfl, r1, r2⟩ := vals2 r
  have e2 := k.eq r2
  subst e2
  obtain rfl : u1 = Value.ref e := r1
  obtain ⟨oe, od, J, _⟩ := he.inst I
  have hcl : (PySem.W.clsIn X.K C).isSome = true := by
    obtain ⟨cd, hc, _⟩ := PySem.W.any_some T.hd
    rw [hc]
    rfl
  exact PySem.W.kia_one (PySem.W.kitx_exc (ox := oe) (od := od) hcl T.hg T.hk T.hs T.ha T.hn T.ht T.hm) I.kIn J ek (fun z => nomatch z) fun tk => ⟨.bl b, H, I.tok tk, rfl, q⟩
/-- e.f -/
def tErrF (K : PySem.W.Frag) (f : Str) (te : TE) : TE := fun σ H Q => te σ H fun x H1 => ∃ (e C : Addr) (fs : List (Str × V)) (v : V),
  x = .ref e ∧ ErrAt H1 e C fs ∧ XfC K C ∧ PySem.W.findIn K (.ref C) f = some none ∧ fs.lookup f = some v ∧ Q v H1
theorem pe_errF {X : Cx} {e : Expr} {te : TE} {pos : Pos} {n : Str} (he : PE X e te) (hb : attributeBase e n X.env (eval e X.env) = eval e X.env := by rfl) :
    PE X (.Attribute e n pos) (tErrF X.K n te) := by
  refine ⟨fun pins s σ H Q I h => ?_⟩
  refine attr_of hb (thn (he.run pins s σ H _ I h) fun u s1 hh => ?_)
  obtain ⟨x, H1, I1, rx, e0, C, fs, v, ex, ea, T, hno, l, q⟩ := hh
  subst ex
  obtain rfl : u = Value.ref e0 := rx
  obtain ⟨oe, od, J, hl⟩ := ea.inst I1
  obtain ⟨o, u, rfl, ru, hlu⟩ := hl n v l
  exact HandSPX.exc_get I1.kIn J T.ga T.gg T.exC (PySem.W.findObj_own T.hdC hno rfl hlu) (handed_of ru) ⟨v, H1, I1.tok _, ru, q⟩
/-! ### making one -/
/-- the promise of an __init__ that keeps its parameters ks -/
def spErrI (K : PySem.W.Frag) (ks : List Str) : Sp := fun vs H Q _ => ∃ (e C : Addr) (ws : List V), vs = .ref e :: ws ∧ ws.length = ks.length ∧ OexC K C ∧ (∀ f ∈ ks, PySem.W.findIn K (.ref C) f = some none) ∧
  H e = some (exo e C none) ∧ ∀ H', (∀ b o, b ≠ e → H b = some o → H' b = some o) → ErrAt H' e C (ks.zip ws).reverse → Q .non H'
/-- what the written part tells of such a class -/
structure ErrC (K : PySem.W.Frag) (C fI : Addr) (ks : List Str) : Prop where
  ox : OexC K C
  ini : PySem.W.findIn K (.ref C) "__init__" = some (some (.ref fI))
  fn : PySem.W.typeIn K (.ref fI) = some (.type "function")
  no : ∀ f ∈ ks, PySem.W.findIn K (.ref C) f = some none
  xf : XfC K C
  is : ExcC K C
section
variable {X : Cx} {C fI : Addr} {ks kn ps : List Str} {k : Nat} {fd : FuncData} {x : Str} {p pos : Pos} {e : Expr} {es : List Expr} {kws : List Keyword} {ta tk : TA} {g : List Value → List Value → List Value} {gV : List V → List V → List V}
theorem run_err {pins : List (Addr × Obj)} {σ : St} {H1 : Hp} {s1 : Shared} {Q : VK} {us : List Value} {kw : List (Str × Value)} {ws : List V} {as : List Value} (T : ErrC X.K C fI ks)
    (F : FnOk X.prog X.w X.K X.mg X.base CX0 k fI fd ps (spErrI X.K ks)) (hr : Room (k + 1) X.A) (I1 : Inv X pins σ H1 s1) (hl : us.length ≤ sizeLine)
    (hb : ∀ (s : Shared) (a : Addr), X.K.In s.heap → BindsTo s fd ⟨.ref a :: us, kw⟩ (ps.zip (.ref a :: as))) (r : Vals ws as) (hn : ws.length = ks.length)
    (h : ∀ e H2, H1 e = none → Same H1 H2 → ErrAt H2 e C (ks.zip ws).reverse → Q (.ref e) H2) :
    wpAny (model X.prog X.w) X.A (call (.ref C) us kw) (EP X pins σ Q) X.xe s1 := by
  obtain ⟨nm, q, N, bs, bm, sn, sub, ab, col, dd, k0, k1, k2, k3, k5, hC, hbm⟩ := T.ox.cls
  obtain ⟨hp, gs, dr, tk, os⟩ := s1
  have hsz : hp.objs.size ≤ hp.objs.size + 1 := Nat.le_succ _
  have fr : H1 (hp.objs.size + 1) = none := I1.hok.fresh hsz
  have kk : ∀ b o, hp.get? b = some o → ((hp.push (PySem.W.kdv_tup us)).push (PySem.HandSPX.excO C hp.objs.size)).get? b = some o := fun b o z => Heap.get?_push_of_some _ (Heap.get?_push_of_some _ z)
  have at1 : ((hp.push (PySem.W.kdv_tup us)).push (PySem.HandSPX.excO C hp.objs.size)).get? (hp.objs.size + 1) = some (PySem.HandSPX.excO C hp.objs.size) := by heap_get
  have I2 : Inv X pins σ (upd H1 (hp.objs.size + 1) (exo (hp.objs.size + 1) C none)) ⟨(hp.push (PySem.W.kdv_tup us)).push (PySem.HandSPX.excO C hp.objs.size), gs, dr, tk, os⟩ :=
    I1.laid (t' := tk) (a := hp.objs.size + 1) (o := exo (hp.objs.size + 1) C none) (h' := (hp.push (PySem.W.kdv_tup us)).push (PySem.HandSPX.excO C hp.objs.size)) kk hsz (exo_ok at1)
  have hsp : spErrI X.K ks (.ref (hp.objs.size + 1) :: ws) (upd H1 (hp.objs.size + 1) (exo (hp.objs.size + 1) C none)) (fun v H2 => v = .non ∧ Q (.ref (hp.objs.size + 1)) H2) (fun _ _ _ => False) :=
    ⟨_, C, ws, rfl, hn, T.ox, T.no, upd_same, fun H' km ea => ⟨rfl, h _ H' fr (fun b o z => km b o (ne_of_none z fr) (by rw [upd_ne (ne_of_none z fr)]; exact z)) ea⟩⟩
  refine wpAny_call (PySem.MkE.call_made PySem.F.excBase_ValueError (fun Y => PySem.HandSPX.refsVE_contains Y bm hbm) (I1.kIn _ _ hC) (PySem.W.looks_findIn I1.kIn T.ini) (fun self => PySem.W.bind_fn I1.kIn self T.fn) hl
    (codeAny_mono (F.run _ X.stack _ _ ⟨.ref (hp.objs.size + 1) :: us, kw⟩ (.ref (hp.objs.size + 1) :: as) (.ref (hp.objs.size + 1) :: ws) _ _ (hr.make C us kw) (I2.env0.make C us kw) (hb _ _ I2.kIn) (.cons rfl r) hsp) fun rr s' hq' => ?_))
  cases rr with
  | error er => exact False.elim hq'
  | ok fl =>
    cases fl with
    | ret u =>
      obtain ⟨v, H', I3, rv, ev, q3⟩ := I2.after hq'
      subst ev
      exact ⟨rv, ⟨V.ref (hp.objs.size + 1), H', I3, rfl, q3⟩⟩
    | next => exact False.elim hq'
    | brk => exact False.elim hq'
    | cont => exact False.elim hq'
/-- C(..): the values in the parameters' order -/
def tErr (C : Addr) (ks : List Str) (ord : List V → List V) (t : TA) : TE := fun σ H Q => t σ H fun vs H1 => vs.length = ks.length ∧ ∀ e H2, H1 e = none → Same H1 H2 → ErrAt H2 e C (ks.zip (ord vs)).reverse → Q (.ref e) H2
/-- C(e, ..) -/
theorem pe_err (T : ErrC X.K C fI ks) (F : FnOk X.prog X.w X.K X.mg X.base CX0 k fI fd ps (spErrI X.K ks)) (hr : Room (k + 1) X.A) (hg : Gl X x) (hm : X.mg x = some (.ref C)) (hb : Binds X.K fd ps []) (hp : ps.length = ks.length + 1) (hk : ks.length ≤ 100) (ha : PA X (e :: es) ta)
    (hdb : (x == ("__debug__" : Str)) = false := by decide) (he : starEach (e :: es) X.env = (false, eval e X.env) :: starEach es X.env := by rfl) (hpl : (backTo pos (starEach es X.env)).any (·.1) = false := by rfl) :
    PE X (.Call (.Name x p) (e :: es) [] pos) (tErr C ks id ta) := by
  refine ⟨fun pins s σ H Q I h => ?_⟩
  refine wpAny_Call_Name_kw (ld_glob I hg hm ?_ hdb)
  refine PySem.W.callWith_K (h₀ := X.base) I.ok.mod.kin T.ox.kC (thn (ha.run pos pins s σ H _ I h) fun us s1 ⟨vs, H1, I1, r, hl, q⟩ => ⟨I1.kIn, ?_⟩) he hpl
  have l2 : us.length = ks.length := r.length.symm.trans hl
  show wpAny _ _ (call (.ref C) us) _ _ _
  refine run_err (as := us) T F hr I1 (by rw [l2, sizeLine_eq]; omega) (fun s a KX => ?_) r hl q
  have z := hb s (.ref a :: us) KX (by rw [List.append_nil, List.length_cons, l2, hp])
  rw [List.append_nil] at z
  exact z
/-- C() -/
theorem pe_err0 (T : ErrC X.K C fI []) (F : FnOk X.prog X.w X.K X.mg X.base CX0 k fI fd ps (spErrI X.K [])) (hr : Room (k + 1) X.A) (hg : Gl X x) (hm : X.mg x = some (.ref C)) (hb : Binds X.K fd ps []) (hp : ps.length = 1)
    (hdb : (x == ("__debug__" : Str)) = false := by decide) : PE X (.Call (.Name x p) [] [] pos) (tErr C [] id tNil) := by
  refine ⟨fun pins s σ H Q I h => ?_⟩
  refine wpAny_Call_Name_kw (ld_glob I hg hm ?_ hdb)
  refine PySem.W.callWith_K0 I.kIn T.ox.kC ?_
  refine run_err (us := []) (as := []) (ws := []) T F hr I (Nat.zero_le _) (fun s a KX => ?_) .nil rfl h.2
  have z := hb s [.ref a] KX (by rw [List.append_nil, hp]; rfl)
  rw [List.append_nil] at z
  exact z
/-- C(k = e, ..) -/
theorem pe_errK (T : ErrC X.K C fI ks) (F : FnOk X.prog X.w X.K X.mg X.base CX0 k fI fd ps (spErrI X.K ks)) (hr : Room (k + 1) X.A) (hg : Gl X x) (hm : X.mg x = some (.ref C)) {ordV : List V → List V} {ordU : List Value → List Value}
    (hb : ∀ (s : Shared) (a : Addr) (zs : List Value), zs.length = ks.length → BindsTo s fd ⟨[.ref a], kn.zip zs⟩ (ps.zip (.ref a :: ordU zs))) (hv : ∀ (vs : List V) (us : List Value), vs.length = ks.length → Vals vs us → Vals (ordV vs) (ordU us) ∧ (ordV vs).length = ks.length) (hkw : PK X kws tk)
    (hall : (backToKw pos (keywordEach kws X.env)).all (·.1.isSome) = true := by rfl) (hks : (backToKw pos (keywordEach kws X.env)).filterMap (·.1) = kn := by rfl)
    (hdb : (x == ("__debug__" : Str)) = false := by decide)
    (hpl : ((backTo pos (starEach [] X.env)).any (·.1) || (backToKw pos (keywordEach kws X.env)).any (·.1.isNone)) = false := by rfl) :
    PE X (.Call (.Name x p) [] kws pos) (tErr C ks ordV tk) := by
  refine ⟨fun pins s σ H Q I h => ?_⟩
  refine wpAny_Call_Name_kw (ld_glob I hg hm ?_ hdb)
  refine PySem.W.callWith_KW0 (h₀ := X.base) I.ok.mod.kin T.ox.kC hall ?_ hpl
  refine thn (hkw.run pos pins s σ H _ I h) fun us s1 ⟨vs, H1, I1, r, hl, q⟩ => ⟨I1.kIn, ?_⟩
  rw [hks]
  obtain ⟨r2, l2⟩ := hv vs us hl r
  exact run_err (us := []) T F hr I1 (Nat.zero_le _) (fun s a _ => hb s a us (r.length.symm.trans hl)) r2 l2 q
end
end L2
namespace L2
open PySem PySem.Spec PyProof.Rows
/-! ### data that repr tells: t is one address that may change -/
def KeepBut (t : Addr) (H H' : Hp) : Prop := ∀ b o, b ≠ t → H b = some o → H' b = some o
theorem KeepBut.trans {t : Addr} {H H1 H2 : Hp} (a : KeepBut t H H1) (b : KeepBut t H1 H2) : KeepBut t H H2 := fun c o n e => b c o n (a c o n e)
theorem KeepBut.refl {t : Addr} (H : Hp) : KeepBut t H H := fun _ _ _ e => e
theorem Same.but {t : Addr} {H H' : Hp} (s : Same H H') : KeepBut t H H' := fun b o _ e => s b o e
def Rp (P : Program) (w : World) (t : Addr) (H : Hp) (v : V) (d : PyData) : Prop := ∀ (H' : Hp) (h : Heap), KeepBut t H H' → HOk P w H' h → ∀ u, RelV v u → ∃ as, Reads h u d as ∧ ∀ b ∈ as, b ≠ sysModules
abbrev RpL (P : Program) (w : World) (t : Addr) (H : Hp) : List V → List PyData → Prop := Paired (Rp P w t H)
section
variable {P : Program} {w : World} {t : Addr} {H H' : Hp} {v : V} {d : PyData} {vs : List V} {ds ks : List PyData} {a : Addr} {kvs : List (Key × V)}
theorem Rp.keep (h : Rp P w t H v d) (s : KeepBut t H H') : Rp P w t H' v d := fun H2 hh s2 ok u r => h H2 hh (s.trans s2) ok u r
theorem RpL.keep : ∀ {vs : List V} {ds : List PyData}, RpL P w t H vs ds → KeepBut t H H' → RpL P w t H' vs ds
  | _, _, .nil, _ => .nil
  | _, _, .cons h q, s => .cons (Rp.keep h s) (RpL.keep q s)
theorem RpL.reads {h : Heap} (s : KeepBut t H H') (ok : HOk P w H' h) : ∀ {vs : List V} {ds : List PyData} {us : List Value}, RpL P w t H vs ds → Vals vs us → ∃ as, ReadsAll h us ds as ∧ ∀ b ∈ as, b ≠ sysModules
  | _, _, _, .nil, .nil => ⟨[], .nil, fun _ z => nomatch z⟩
  | _, _, _, .cons x q, .cons r rt => by
    obtain ⟨a1, h1, n1⟩ := x H' h s ok _ r
    obtain ⟨a2, h2, n2⟩ := RpL.reads s ok q rt
    exact ⟨a1 ++ a2, .cons h1 h2, fun b hb => (List.mem_append.mp hb).elim (n1 b) (n2 b)⟩
theorem rp_non : Rp P w t H .non .none := fun _ _ _ _ u r => by cases (show u = Value.none from r); exact ⟨[], .none, fun _ z => nomatch z⟩
theorem rp_bl (b : Bool) : Rp P w t H (.bl b) (.bool b) := fun _ _ _ _ u r => by cases (show u = Value.bool b from r); exact ⟨[], .bool b, fun _ z => nomatch z⟩
theorem rp_int (i : Int) : Rp P w t H (.int i) (.int i) := fun _ _ _ _ u r => by obtain ⟨t, rfl⟩ := (show ∃ t, u = Value.int i t from r); exact ⟨[], .int i t, fun _ z => nomatch z⟩
theorem rp_str (x : Str) : Rp P w t H (.str x) (.str x) := fun _ _ _ _ u r => by obtain ⟨t, rfl⟩ := (show ∃ t, u = Value.str x t from r); exact ⟨[], .str x t, fun _ z => nomatch z⟩
theorem rp_lst (e : H a = some (.lst vs)) (nt : a ≠ t) (na : a ≠ sysModules) (r : RpL P w t H vs ds) : Rp P w t H (.ref a) (.list ds) := fun H' h s ok u ru => by
  cases (show u = Value.ref a from ru)
  obtain ⟨z, its, n, rv, ho⟩ : vs.length ≤ sizeLine ∧ ∃ (its : List Value) (n : Nat), Vals vs its ∧ h.get? a = some { cls := .type "list", data := .seq its.toArray n } := ok a _ (s _ _ nt e)
  obtain ⟨as, ra, nn⟩ := r.reads s ok rv
  exact ⟨a :: as, .list ho rfl rfl (by simpa using ra), fun b hb => (List.mem_cons.mp hb).elim (fun q => by rw [q]; exact na) (nn b)⟩
theorem rp_tup (e : H a = some (.tup vs)) (nt : a ≠ t) (r : RpL P w t H vs ds) : Rp P w t H (.ref a) (.tuple ds) := fun H' h s ok u ru => by
  cases (show u = Value.ref a from ru)
  obtain ⟨z, its, rv, o, ho, hc, n, hd⟩ : vs.length ≤ sizeLine ∧ ∃ its : List Value, Vals vs its ∧ IsTup h a its.toArray := ok a _ (s _ _ nt e)
  obtain ⟨as, ra, nn⟩ := r.reads s ok rv
  exact ⟨as, .tuple ho hc hd (by simpa using ra), nn⟩
theorem keys_vals {ws : List (Key × Value)} {es : List DictEntry} (rel : KV kvs ws) (pr : Pairs (mixKind P w) es ws) : Vals (kvs.map fun p => kV p.1) (es.map (·.key)) ∧ Vals (kvs.map (·.2)) (es.map (·.val)) := by
  unfold KV at rel
  induction rel generalizing es with
  | nil => cases pr; exact ⟨.nil, .nil⟩
  | @cons x y l1 l2 r tl ih =>
    cases pr with
    | @cons e kv es' _ hk hv ht =>
      obtain ⟨a1, a2⟩ := ih ht
      have k2 : keyIs y.1 e.key = true := hk
      refine ⟨.cons ?_ a1, .cons ?_ a2⟩
      · show RelV (kV x.1) e.key
        rw [r.1]
        rcases keyIs_shape k2 with ⟨i, t', e1, e2⟩ | ⟨x, t', e1, e2⟩
        · rw [e1, e2]; exact ⟨t', rfl⟩
        · rw [e1, e2]; exact ⟨t', rfl⟩
      · show RelV x.2 e.val
        rw [hv]
        exact r.2
theorem rp_dK (e : H a = some (.dK kvs)) (nt : a ≠ t) (rk : RpL P w t H (kvs.map fun p => kV p.1) ks) (rv : RpL P w t H (kvs.map (·.2)) ds) (hl : ks.length = ds.length) : Rp P w t H (.ref a) (.dict (ks.zip ds)) := fun H' h s ok u ru => by
  cases (show u = Value.ref a from ru)
  obtain ⟨z, na, ws, rel, o, es, ep, ho, hx, hd, _, hp, _⟩ : kvs.length ≤ sizeLine ∧ (a == sysModules) = false ∧ ∃ vs, KV kvs vs ∧ h.DictOf (mixKind P w) a vs := ok a _ (s _ _ nt e)
  obtain ⟨r1, r2⟩ := keys_vals rel hp
  obtain ⟨as, ra, na1⟩ := rk.reads s ok r1
  obtain ⟨bs, rb, nb1⟩ := rv.reads s ok r2
  refine ⟨a :: as ++ bs, .dict ho hx.1 hd ?_ ?_, fun b hb => ?_⟩
  · rw [List.map_fst_zip (Nat.le_of_eq hl)]; exact ra
  · rw [List.map_snd_zip (Nat.le_of_eq hl.symm)]; exact rb
  · rcases List.mem_append.mp hb with hb | hb
    · rcases List.mem_cons.mp hb with q | hb
      · rw [q]; exact beq_eq_false_iff_ne.mp na
      · exact na1 b hb
    · exact nb1 b hb
end
/-- repr(v) -/
def rRepr (P : Program) (w : World) : List V → Hp → VK → Prop := fun xs H Q => ∃ (t : Addr) (v : V) (d : PyData), xs = [v] ∧ Rp P w t H v d ∧ d.showable = true ∧ d.depth ≤ 50 ∧ d.shown.length ≤ sizeLine ∧ Q (.str d.shown) H
theorem call_repr {X : Cx} (hG : X.A.guards = some []) (hu : X.A.units + 64 < cLine) : CallR X (.builtin "repr") (rRepr X.prog X.w) := by
  intro pins s σ H xs us Q I r h
  obtain ⟨ta, v, d, rfl, rp, hs, hd, hz, q⟩ := h
  cases r with
  | cons rv rn =>
    rename_i u us'
    cases rn
    obtain ⟨as, rd, na⟩ := rp H s.heap (KeepBut.refl H) I.hok u rv
    cases u with
    | ref a =>
      refine repr_of_reads' rd hs (fun _ z => na _ z rfl) hG (by omega) (fun b o z => z) (fun h' t tk k => ?_) hz
      exact ⟨.str d.shown, H, I.kept k, ⟨_, rfl⟩, q⟩
    | none =>
      cases rd
      simp only [PyData.shown] at q
      exact PySem.P.repr_of_none ⟨.str "None", H, I.tok _, ⟨_, rfl⟩, q⟩
    | bool b =>
      cases rd
      simp only [PyData.shown] at q
      exact PySem.P.repr_of_bool ⟨.str (if b then "True" else "False"), H, I.tok _, ⟨_, rfl⟩, q⟩
    | int i t =>
      cases rd
      simp only [PyData.shown] at q
      have hs' : i.natAbs.log2 < 1920 := by simpa [PyData.showable] using hs
      exact PySem.P.repr_of_int hs' ⟨.str (toString i), H, I.tok _, ⟨_, rfl⟩, q⟩
    | str x t =>
      cases rd
      simp only [PyData.shown] at q hz
      exact PySem.P.repr_of_str ⟨.str (reprText x), H, I.tok _, ⟨_, rfl⟩, q⟩ hz
    | _ => cases rd
/-- [a, b, ..], not the table of modules -/
def tLstS (t : TA) : TE := fun σ H Q => t σ H fun xs H1 => xs.length ≤ sizeLine ∧ ∀ p, H1 p = none → p ≠ sysModules → Q (.ref p) (upd H1 p (.lst xs))
theorem pe_lstS {X : Cx} {es : List Expr} {t : TA} {pos : Pos} (h : PA X es t) : PE X (.List es pos) (tLstS t) := by
  refine ⟨fun pins s σ H Q I hq => ?_⟩
  refine wpAny_List_spliced (thn (h.run pos pins s σ H _ I hq) fun us s1 ⟨xs, H1, I1, r, z, q⟩ => ⟨by rw [← r.length]; exact z, ?_⟩)
  have hf : H1 s1.heap.objs.size = none := I1.hok.fresh (Nat.le_refl _)
  refine ⟨.ref s1.heap.objs.size, upd H1 s1.heap.objs.size (.lst xs), I1.laid (t' := s1.toks) (fun b u e => Heap.get?_push_of_some _ e) (Nat.le_refl _) ?_, rfl, q _ hf (Nat.ne_of_gt I1.big)⟩
  exact ⟨z, us, 0, r, Heap.get?_push_size _ rfl⟩
/-! ### a def that is called where nothing is being shown by repr -/
structure FnOkG (P : Program) (w : World) (K : PySem.W.Frag) (mg : Str → Option Value) (base : Heap) (CX : CXT) (k : Nat) (f : Addr) (fd : FuncData) (ps : List Str) (sp : Sp) : Prop where
  len : ∀ vs H Q E, sp vs H Q E → vs.length = ps.length
  run : ∀ (A : Around) (outer : List Env) (s : Shared) (H : Hp) (args : Args) (us : List Value) (vs : List V) (Q : VK) (E : XK), A.guards = some [] → Room k A → Env0 P w K mg base A outer s H → BindsTo s fd args (ps.zip us) → Vals vs us → sp vs H Q E →
    codeAny (model P w) A (.call (.ref f) args) (CR CX outer P w H s Q E) s
theorem FunD.okG {P : Program} {w : World} {K : PySem.W.Frag} {mg : Str → Option Value} {base : Heap} {x qual : Str} {params : Arguments} {body : List Stmt} {scope : Scope} {dvs : List V} {kws : List (Str × V)} {f : Addr} {fd : FuncData} {CX : CXT} {N ps : List Str} {k : Nat} {sp : Sp}
    (F : FunD K x qual params body scope dvs kws f fd) (S : FnScope N ps scope) (len : ∀ vs H Q E, sp vs H Q E → vs.length = ps.length)
    (hbody : ∀ (cdv : Value) (A : Around) (outer : List Env) (s : Shared) (H : Hp) (vs : List V) (Q : VK) (E : XK), A.guards = some [] → Room k (A.deeper (envOfC qual scope s.heap.objs.size f cdv)) → sp vs H Q E →
      ∃ t, PSs (cxOf CX P w K mg base N qual scope f cdv A outer s H E) body t ∧ t { nx := fun _ H' => Q .non H', rt := Q } (start N vs) H) : FnOkG P w K mg base CX (k + 1) f fd ps sp := by
  obtain ⟨oc, od, dV, kV, doc, pm, an, cdv, ct, osl, rfl, lk, hcd, _, _⟩ := F.ex
  refine ⟨len, fun A outer s H args us vs Q E hG hr e0 hb r hsp => ?_⟩
  have KX : K.In s.heap := e0.mod.kin.keeps fun b o e => (e0.bs b o e).1
  have lim : s.heap.NoLimit := e0.mod.nolimit.keeps fun b o e => (e0.bs b o e).1
  have kinds : ∀ y ∈ ps.zip us, scope.names.lookup y.1 = some .local ∨ (scope.names.lookup y.1 = some .cell ∧ ((cellsFrom (s.heap.objs.size + 1) scope.names []).lookup y.1).isSome = true) := fun ⟨n, v⟩ hy =>
    (S.par n (List.of_mem_zip hy).1).elim .inl fun q => .inr ⟨q, PySem.W.cellsFrom_some _ _ _ (.inl q)⟩
  refine codeAny_call_function hr.depth (KX _ _ lk) rfl S.co S.gen rfl (PySem.W.codeRec_of KX hcd) (hb _ _ _ _ ?_)
  refine wpAny_newFunctionEnv_cells S.kind kinds fun env he s1 x => ?_
  subst he
  refine ⟨lim.keeps x.toInCall.keep, codeAny_func ?_⟩
  obtain ⟨t, ht, hq⟩ := hbody cdv A outer s H vs Q E hG (hr.deeper _) hsp
  have I : Inv (cxOf CX P w K mg base N qual scope f cdv A outer s H E) [] (start N vs) H s1 := inv_start S hr.hd e0 (len _ _ _ _ hsp) r x
  refine wpAny_mono (ht.run [] s1 (start N vs) H _ I hq) (fun fl s' hs => ?_) fun e s' hs => hs
  cases fl with
  | ret u =>
    obtain ⟨v, σ', H', J, rv, q⟩ := hs
    exact ⟨v, H', J.os, J.bare, J.base, J.hok, rv, q⟩
  | next =>
    obtain ⟨σ', H', J, q⟩ := hs
    exact ⟨V.non, H', J.os, J.bare, J.base, J.hok, rfl, q⟩
  | brk =>
    obtain ⟨_, _, _, q⟩ := hs
    exact False.elim q
  | cont =>
    obtain ⟨_, _, _, q⟩ := hs
    exact False.elim q
section
variable {X : Cx} {CX : CXT} {k : Nat} {f : Addr} {fd : FuncData} {ps : List Str} {sp : Sp} {dvs : List V} {ds : List Value} {E : XK} {x : Str} {p pos : Pos} {e : Expr} {es : List Expr} {t : TA}
theorem pe_callG (F : FnOkG X.prog X.w X.K X.mg X.base CX k f fd ps sp) (hG : X.A.guards = some []) (hr : Room k X.A) (hg : Gl X x) (hm : X.mg x = some (.ref f)) (hk : PySem.W.keepIn X.K (.ref f) = true) (hb : Binds X.K fd ps ds) (hd : Vals dvs ds) (hx : Passes CX X E)
    (ha : PA X (e :: es) t) (hdb : (x == ("__debug__" : Str)) = false := by decide) (he : starEach (e :: es) X.env = (false, eval e X.env) :: starEach es X.env := by rfl) (hpl : (backTo pos (starEach es X.env)).any (·.1) = false := by rfl) :
    PE X (.Call (.Name x p) (e :: es) [] pos) (tCall sp dvs E t) := by
  refine ⟨fun pins s σ H Q I h => ?_⟩
  refine wpAny_Call_Name_kw (ld_glob I hg hm ?_ hdb)
  refine PySem.W.callWith_K (h₀ := X.base) I.ok.mod.kin hk (thn (ha.run pos pins s σ H _ I h) fun us s1 ⟨vs, H1, I1, r, q⟩ => ⟨I1.kIn, ?_⟩) he hpl
  show wpAny _ _ (call (.ref f) us) _ _ _
  have r2 : Vals (vs ++ dvs) (us ++ ds) := r.append hd
  have hl : (us ++ ds).length = ps.length := by rw [← r2.length]; exact F.len _ _ _ _ q
  refine wpAny_call (codeAny_mono (F.run X.A X.stack s1 H1 ⟨us, []⟩ (us ++ ds) (vs ++ dvs) Q E hG hr I1.env0 (hb s1 us I1.kIn hl) r2 q) fun rr s' hq => ?_)
  cases rr with
  | error e => exact hx pins σ H1 s1 e s' I1 hq
  | ok fl =>
    cases fl with
    | ret u => exact I1.after hq
    | next => exact False.elim hq
    | brk => exact False.elim hq
    | cont => exact False.elim hq
end
/-- a law's end -/
theorem law_callG {P : Program} {w : World} {K : PySem.W.Frag} {mg mb : Str → Option Value} {k : Nat} {fa a : Addr} {fd : FuncData} {x : Str} {sp : Sp} {s₁ : Shared} {vs : List Value} {ns : List Int}
    (KX : K.In s₁.heap) (hns : s₁.heap.Ns mainGlobals mg) (hb : s₁.heap.Ns builtinsNs mb) (hbb : ∀ x : Str, x ≠ "__name__" → mb x = bootBuiltins x) (hlim : s₁.heap.NoLimit) (hg : s₁.gens = #[])
    (ha : s₁.heap.get? a = some { cls := .type "list", data := .seq vs.toArray }) (hi : IntsAre vs ns) (hl : ns.length ≤ sizeLine) (hr : Room k callerA)
    (F : ∀ base : Heap, K.In base → base.Ns mainGlobals mg → FnOkG P w K mg base CX0 k fa fd [x] sp) (hbind : ∀ (s : Shared) (u : Value), BindsTo s fd ⟨[u], []⟩ [(x, u)])
    (hsp : ∀ H : Hp, Only H → SqL K H a (ns.map V.int) → sp [.ref a] H (fun v _ => v = .bl true) fun _ _ _ => False) :
    codeAny (model P w) callerA (.call (.ref fa) ⟨[.ref a], []⟩) (fun r s' => r = .ok (.ret (.bool true)) ∧ OldK s₁.heap s'.heap ∧ s'.os = s₁.os ∧ AllBare s'.gens) s₁ := by
  have rv := vals_ints hi
  have lenV := hi.length
  -- the heap at the entry: the script alone is tracked, where the written part does not hold it
  have main : ∀ H : Hp, Only H → SqL K H a (ns.map V.int) → HOk P w H s₁.heap → (∀ b, H b ≠ none → b = a) → (H a ≠ none → K.lookup a = none) →
      codeAny (model P w) callerA (.call (.ref fa) ⟨[.ref a], []⟩) (fun r s' => r = .ok (.ret (.bool true)) ∧ OldK s₁.heap s'.heap ∧ s'.os = s₁.os ∧ AllBare s'.gens) s₁ := by
    intro H hO hS hok hA hK
    have isA : ∀ {b : Addr} {u : HO}, H b = some u → b = a := fun {b u} q => hA b (by rw [q]; exact fun z => nomatch z)
    have noA : ∀ {b : Addr} {o : Obj} {es : Array DictEntry} {ep : Nat}, s₁.heap.get? b = some o → o.data = .dict es ep → H b = none := fun {b o es ep} e d => by
      cases q : H b with
      | none => rfl
      | some u =>
        have z := isA q
        subst z
        rw [ha] at e; cases e
        exact nomatch (show Data.seq vs.toArray _ = Data.dict es ep from d)
    have nsK : ∀ {b : Addr} {m : Str → Option Value}, s₁.heap.Ns b m → (hidT s₁.heap H).Ns b m := fun {b m} ⟨o, es, ep, e, d, r⟩ => ⟨o, es, ep, hidT_get e (noA e d), d, r⟩
    have hKb : K.In (hidT s₁.heap H) := fun b o e => hidT_get (KX b o e) (by
      cases q : H b with
      | none => rfl
      | some u =>
        have z := isA q
        subst z
        rw [hK (by rw [q]; exact fun z => nomatch z)] at e; cases e)
    have hM : Mod K mg (hidT s₁.heap H) := ⟨hKb, nsK hns, ⟨mb, nsK hb, hbb⟩, let ⟨mc, h1, h2⟩ := hlim; ⟨mc, nsK h1, h2⟩⟩
    have e0 : Env0 P w K mg (hidT s₁.heap H) callerA [] s₁ H := ⟨rfl, hM, fun b o e => of_hidT e, Nat.le_of_eq (hidT_size _ _), trivial, fun b hb => absurd (show b ∈ ([] : List Addr) from hb) (by simp), hok, .of_eq hg⟩
    refine codeAny_mono ((F _ hKb (nsK hns)).run callerA [] s₁ H ⟨[.ref a], []⟩ [.ref a] [.ref a] _ _ rfl hr e0 (hbind s₁ (.ref a)) (.cons rfl .nil) (hsp H hO hS)) fun r s' h => ?_
    cases r with
    | error e => exact False.elim h
    | ok fl =>
      cases fl with
      | next => exact False.elim h
      | brk => exact False.elim h
      | cont => exact False.elim h
      | ret u =>
        obtain ⟨v, H', os, bare, un, hok', r', q⟩ := h
        have q' : v = .bl true := q
        subst q'
        obtain rfl : u = Value.bool true := r'
        refine ⟨rfl, OldK.of_keep fun b o e => ?_, os, bare⟩
        cases q : H b with
        | none => exact un.keep b o e q (fun z => absurd (show b ∈ ([] : List Addr) from z) (by simp)) (by simp)
        | some u =>
          rcases hO b with z | ⟨ob, xs, z⟩
          · rw [q] at z; cases z
          · obtain ⟨e1, _⟩ := hok b _ z
            obtain ⟨e2, _⟩ := hok' b _ (un.frzs b ob _ z)
            rw [e] at e1; cases e1
            exact e2
  cases hk : K.lookup a with
  | some o =>
    have e := KX a o hk
    rw [ha] at e
    cases e
    exact main (fun _ => none) (fun _ => .inl rfl) (.inr ⟨_, vs.toArray, _, hk, rfl, rfl, rfl, by rw [List.size_toArray, lenV]; exact hl, by simpa using rv⟩) (fun b u z => nomatch (show (none : Option HO) = some u from z)) (fun b z => absurd rfl z) fun z => absurd rfl z
  | none =>
    have ⟨H, at_, off⟩ : ∃ H : Hp, (∀ b, b = a → H b = some (HO.frz { cls := .type "list", data := .seq vs.toArray } (.lst (ns.map V.int)))) ∧ ∀ b, b ≠ a → H b = none :=
      ⟨fun c => if c = a then some (HO.frz { cls := .type "list", data := .seq vs.toArray } (.lst (ns.map V.int))) else none, fun b z => if_pos z, fun b z => if_neg z⟩
    refine main H (fun b => ?_) (.inl (.inr ⟨_, at_ a rfl⟩)) (fun b u z => ?_) (fun b z => ?_) fun _ => hk
    · by_cases hb : b = a
      · exact .inr ⟨_, _, at_ b hb⟩
      · exact .inl (off b hb)
    · by_cases hb : b = a
      · have z2 := (at_ b hb).symm.trans z
        cases z2
        subst hb
        exact ⟨ha, by rw [List.length_map]; exact hl, vs, _, rv, ha⟩
      · have z2 := (off b hb).symm.trans z
        cases z2
    · by_cases hb : b = a
      · exact hb
      · exact absurd (off b hb) z
end L2
namespace L2
open PySem PySem.Spec PyProof.Rows
/-! ### what the written part tells of an own error's class, as a Bool -/
def oexB (K : PySem.W.Frag) (C : Addr) : Bool := match K.lookup C with
  | some ⟨.type "type", _, .cls cd, sl⟩ => (match cd.mro, sl.toList with
    | .ref C' :: bm, [_, _, _, _, some (.builtin n), _] => C' == C && n == "ValueError.__new__" && !cd.hasDel && cd.hasDict && PySem.HandSPX.refsVE bm
    | _, _ => false)
  | _ => false
theorem oexB_ok {K : PySem.W.Frag} {C : Addr} (h : oexB K C = true) : ∃ nm q N bs bm sn sub ab col dd k0 k1 k2 k3 k5,
    K.lookup C = some (excClassObj nm q C N bs bm true sn sub ab col dd k0 k1 k2 k3 k5 "ValueError.__new__") ∧ PySem.HandSPX.refsVE bm = true := by
  unfold oexB at h
  split at h
  · rename_i dd cd sl ho
    split at h
    · rename_i C' bm k0 k1 k2 k3 n k5 hm hs
      simp only [Bool.and_eq_true, beq_iff_eq, Bool.not_eq_true'] at h
      obtain ⟨⟨⟨⟨rfl, rfl⟩, hdel⟩, hd⟩, ht⟩ := h
      obtain ⟨nm, bs, mro, ns, qn, hdct, sn, sub, ab, col, del⟩ := cd
      dsimp only at hm hdel hd
      subst hm hdel hd
      have hsl : sl = #[k0, k1, k2, k3, some (.builtin "ValueError.__new__"), k5] := by
        obtain ⟨l⟩ := sl
        simp only at hs
        rw [hs]
      subst hsl
      exact ⟨nm, qn, ns, bs, bm, sn, sub, ab, col, dd, k0, k1, k2, k3, k5, ho, ht⟩
    · cases h
  · cases h
def errB (x : Str) (ks : List Str) (K : PySem.W.Frag) : Bool :=
  oexB K (He.ga K x) && (He.eqO (PySem.W.nsIn K mainGlobals x) (some (some (.ref (He.ga K x)))) && (He.eqO (PySem.W.findIn K (.ref (He.ga K x)) "__setattr__") (some (some (.builtin "object.__setattr__"))) &&
  (decide (PySem.W.subIn K (.ref (He.ga K x)) (.type "BaseException") = some true) && (decide (PySem.W.typeIn K (.ref (He.ga K x)) = some (.type "type")) && (PySem.W.keepIn K (.ref (He.ga K x)) &&
  (He.eqO (PySem.W.findIn K (.ref (He.ga K x)) "__init__") (some (some (.ref (He.ma K (He.ga K x) "__init__")))) && (decide (PySem.W.typeIn K (.ref (He.ma K (He.ga K x) "__init__")) = some (.type "function")) &&
  ((ks.all fun f => He.eqO (PySem.W.findIn K (.ref (He.ga K x)) f) (some none)) && (xfB K (He.ga K x) &&
  (He.eqO (PySem.W.findIn K (.ref (He.ga K x)) "__class__") (some (some (.builtin "object.__class__"))) && (He.eqO (PySem.W.specialIn K (.builtin "object.__class__") "__get__") (some (some (.builtin "getset_descriptor.__get__"))) &&
  (decide (PySem.W.takesIn K (.builtin "object.__class__") = some true) && decide (PySem.W.mroIn K (He.ga K x) (.type "object") = some true)))))))))))))
theorem errB_ok {K : PySem.W.Frag} {x : Str} {ks : List Str} (h : errB x ks K = true) : ErrC K (He.ga K x) (He.ma K (He.ga K x) "__init__") ks ∧ (He.Fa.glo x).ok K = true := by
  unfold errB at h
  simp only [Bool.and_eq_true] at h
  obtain ⟨h1, h2, h3, h4, h5, h6, h7, h8, h9, h10, h11, h12, h13, h14⟩ := h
  have X := xfB_ok h10
  refine ⟨⟨⟨oexB_ok h1, He.eqO_ok h3, of_decide_eq_true h4, of_decide_eq_true h5, h6⟩, He.eqO_ok h7, of_decide_eq_true h8, fun f hf => He.eqO_ok (List.all_eq_true.mp h9 f hf), X, ⟨X.ga, X.gg, X.exC, X.hdC, He.eqO_ok h11, He.eqO_ok h12, of_decide_eq_true h13, of_decide_eq_true h14⟩⟩, h2⟩
/-! ### a Hook with Bools of one's own -/
def hookX (n : Nat) (fa : List He.Fa) (fn : List He.DefD) (fx : List (PySem.W.Frag → Bool)) : PySem.W.Hook where
  α := He.AlD × Bool
  obs := fun s => (He.obsDG n fa fn s.heap.get?, fx.all fun f => f (He.frG s.heap.get? (He.asD s.heap.get? n)))
  val := fun _ => (He.valD fn, true)
  says := fun _ h => ∃ K : PySem.W.Frag, K.In h ∧ He.SaysD fa fn K ∧ (fx.all fun f => f K) = true
  of := fun _ _ e => ⟨_, He.frG_in, (Prod.mk.inj e).1, (Prod.mk.inj e).2⟩
  keeps := fun _ _ _ ⟨K, hK, c⟩ k => ⟨K, PySem.W.Frag.In.keeps hK k, c⟩
def obX (n : Nat) (fa : List He.Fa) (fn : List He.DefD) (fx : List (PySem.W.Frag → Bool)) (s : PySem.W.SharedT) : He.AlD × Bool :=
  (He.obsDG n fa fn (HandSHeadRun.getT s), fx.all fun f => f (He.frG (HandSHeadRun.getT s) (He.asD (HandSHeadRun.getT s) n)))
theorem obX_eq (n : Nat) (fa : List He.Fa) (fn : List He.DefD) (fx : List (PySem.W.Frag → Bool)) (s : PySem.W.SharedT) : obX n fa fn fx s = (hookX n fa fn fx).obs s.abs := by
  have e : HandSHeadRun.getT s = s.abs.heap.get? := funext fun a => HandSHeadRun.getT_eq s a
  unfold obX
  rw [e] <;> rfl
end L2
namespace L2
open PySem PySem.Spec PyProof.Rows
/-- text * n -/
def repS (x : Str) (n : Nat) : Str := ⟨(List.replicate n x.cps).foldl (· ++ ·) #[]⟩
theorem rep_len (x : Str) : ∀ (n : Nat) (a : Array Nat), ((List.replicate n x.cps).foldl (· ++ ·) a).size = a.size + n * x.length
  | 0, a => by simp
  | n + 1, a => by
    show ((List.replicate n x.cps).foldl (· ++ ·) (a ++ x.cps)).size = _
    rw [rep_len x n, Array.size_append, Nat.succ_mul]
    show a.size + x.cps.size + _ = a.size + (_ + x.cps.size)
    omega
theorem op_mul_str {X : Cx} : OpR X (binaryOp .Mult) (fun x y H Q => ∃ (i : Str) (n : Int), x = .str i ∧ y = .int n ∧ 2 ≤ n ∧ n ≤ 1000 ∧ 1 ≤ i.length ∧ i.length ≤ 1000 ∧ Q (.str (repS i n.toNat)) H) := by
  intro pins s σ H x y v u Q I rx ry h
  obtain ⟨i, n, rfl, rfl, n2, n1, i1, i2, q⟩ := h
  obtain ⟨t, rfl⟩ := rx
  obtain ⟨t', rfl⟩ := ry
  have b1 : i.length * n.toNat ≤ 1000000 := by
    have : i.length * n.toNat ≤ 1000 * 1000 := Nat.mul_le_mul i2 (by omega)
    omega
  refine P.mul_str (by rw [decide_eq_false (show ¬ n < -(2 ^ 63 : Int) by omega), decide_eq_false (show ¬ n ≥ 2 ^ 63 by omega)]; rfl) (fun _ _ => ?_) (fun _ _ => ?_) ?_
  · intro h
    have z : (1000 : Int) ≤ (2 ^ 63 - 1) / n := by
      rw [Int.le_ediv_iff_mul_le (by omega)]
      omega
    omega
  · show decide (_ > sizeLine) = false
    rw [sizeLine_eq]
    exact decide_eq_false (by omega)
  · have e1 : ¬ n < 1 := by omega
    have e2 : ¬ (n == 1 || i.length == 0) = true := by
      simp only [Bool.or_eq_true, beq_iff_eq]
      omega
    rw [if_neg e1, if_neg e2]
    refine ⟨?_, ?_⟩
    · have z := rep_len i n.toNat #[]
      show (List.foldl (fun x1 x2 => x1 ++ x2) #[] (List.replicate n.toNat i.cps)).size ≤ sizeLine
      rw [z, sizeLine_eq, Nat.mul_comm]
      have : (#[] : Array Nat).size = 0 := rfl
      omega
    · exact ⟨.str (repS i n.toNat), H, I.tok _, ⟨_, rfl⟩, q⟩
end L2
namespace L2
open PySem PySem.Spec PyProof.Rows ClX
/-- C.m is a staticmethod: its record at p, its def at g -/
structure SMet (K : PySem.W.Frag) (C : Addr) (mc : Value) (m : Str) (p g : Addr) : Prop where
  at_ : PySem.W.findCls K (.ref C) mc m = some (.get (.builtin "staticmethod.__get__") (.ref p) .none (.ref C))
  rc : ∃ rest, PySem.W.recIn K p "staticmethod" = some (.ref g :: rest)
  kp : PySem.W.keepIn K (.ref g) = true
section
variable {X : Cx} {pins : List (Addr × Obj)} {σ : L2.St} {H : Hp} {s : Shared} {C p g : Addr} {mc : Value} {m : Str} {A : Around} {E : Value → Shared → Prop}
theorem getsm_ok {pl : Sem Bool} {Q : Value × List Value → Shared → Prop} (I : Inv X pins σ H s) (r : CRead X.K C mc) (k : SMet X.K C mc m p g) (h : ∀ s', Inv X pins σ H s' → Q (.ref g, []) s') : wpAny (model X.prog X.w) A (getMethod (.ref C) m pl) Q E s := by
  obtain ⟨rest, hp⟩ := k.rc
  refine PySem.W.method_cls I.kIn r.ga (PySem.W.cls_bind I.kIn r.rd k.at_ ?_)
  refine wpAny_call (PySem.W.sm_get (s := { s with toks := s.toks + 1 }) I.kIn hp (PySem.W.handed_on rfl ?_))
  exact h _ (I.tok _)
end
/-- C.m(e, ..), m a staticmethod -/
def tSMeth (C : Addr) (sp : Sp) (E : XK) (ta : TE) (t : TA) : TE := fun σ H Q => ta σ H fun x H1 => x = .ref C ∧ t σ H1 fun vs H2 => sp vs H2 Q E
theorem pe_smeth {X : Cx} {CX : CXT} {k : Nat} {C p f : Addr} {mc : Value} {fd : FuncData} {ps : List Str} {sp : Sp} {E : XK} {o e : Expr} {es : List Expr} {m : Str} {pos apos : Pos} {ta : TE} {t : TA} {pl : Sem Bool}
    (he : PE X o ta) (r : CRead X.K C mc) (c : SMet X.K C mc m p f) (F : FnOk X.prog X.w X.K X.mg X.base CX k f fd ps sp) (hr : Room k X.A) (hb : Binds X.K fd ps []) (hx : Passes CX X E) (ha : PA X (e :: es) t)
    (hst : starEach (e :: es) X.env = (false, eval e X.env) :: starEach es X.env := by rfl) (hpl : (backTo pos (starEach es X.env)).any (·.1) = false := by rfl)
    (ht : eval (.Call (.Attribute o m apos) (e :: es) [] pos) X.env = (do
      let ov ← eval o X.env
      standAt apos.atName
      let (f, first) ← holding [ov] (getMethod ov m pl)
      callWith pos f first (backTo pos (starEach (e :: es) X.env)) (backToKw pos (keywordEach [] X.env))) := by rfl) :
    PE X (.Call (.Attribute o m apos) (e :: es) [] pos) (tSMeth C sp E ta t) := by
  refine ⟨fun pins s σ H Q I h => ?_⟩
  refine PySem.W.methodCall_KW (pl := pl) (thn (he.run pins s σ H _ I h) fun u s1 ⟨x, H1, I1, rx, ex, q⟩ => ?_) ht
  subst ex
  obtain rfl : u = Value.ref C := rx
  refine getsm_ok I1 r c fun s2 I2 => ?_
  refine PySem.W.callWith_K (first := []) (h₀ := X.base) I.ok.mod.kin c.kp (thn (ha.run pos pins s2 σ H1 _ I2 q) fun us s3 ⟨vs, H2, I3, rv, q2⟩ => ⟨I3.kIn, ?_⟩) hst hpl
  exact run_fn (dvs := []) F hr hb .nil hx I3 rv (by rw [List.append_nil]; exact q2)
end L2
namespace L2
open PySem PySem.Spec PyProof.Rows ClX
/-- all values by keywords, in the parameters' order -/
def BindsK (fd : FuncData) (ps : List Str) : Prop := ∀ (s : Shared) (zs : List Value), zs.length = ps.length → BindsTo s fd ⟨[], ps.zip zs⟩ (ps.zip zs)
theorem FunD.bindsK {K : PySem.W.Frag} {x qual : Str} {params : Arguments} {body : List Stmt} {scope : Scope} {kws : List (Str × V)} {f : Addr} {fd : FuncData} {ps : List Str} (F : FunD K x qual params body scope [] kws f fd)
    (h : ∀ (kV doc pm : Value) (an : Option Addr) (cdv ct : Value) (zs : List Value), zs.length = ps.length → bindArgs (PySem.W.fnOf x qual params body scope .none kV doc pm an cdv ct) ⟨[], ps.zip zs⟩ = pure (ps.zip zs)) : BindsK fd ps := by
  obtain ⟨oc, od, dV, kV, doc, pm, an, cdv, ct, osl, rfl, lk, hcd, hD, hK⟩ := F.ex
  rcases hD with ⟨_, rfl⟩ | ⟨e, _⟩
  · exact fun s zs hl => .of_eq (h kV doc pm an cdv ct zs hl)
  · exact absurd rfl e
/-- o.m(k = e, ..) -/
def BindsKM (fd : FuncData) (p : Str) (ps : List Str) : Prop := ∀ (s : Shared) (a : Addr) (zs : List Value), (Value.ref a :: zs).length = (p :: ps).length → BindsTo s fd ⟨[.ref a], ps.zip zs⟩ ((p :: ps).zip (.ref a :: zs))
theorem FunD.bindsKM {K : PySem.W.Frag} {x qual : Str} {params : Arguments} {body : List Stmt} {scope : Scope} {kws : List (Str × V)} {f : Addr} {fd : FuncData} {p : Str} {ps : List Str} (F : FunD K x qual params body scope [] kws f fd)
    (h : ∀ (kV doc pm : Value) (an : Option Addr) (cdv ct : Value) (a : Addr) (zs : List Value), zs.length = ps.length → bindArgs (PySem.W.fnOf x qual params body scope .none kV doc pm an cdv ct) ⟨[.ref a], ps.zip zs⟩ = pure ((p :: ps).zip (.ref a :: zs))) : BindsKM fd p ps := by
  obtain ⟨oc, od, dV, kV, doc, pm, an, cdv, ct, osl, rfl, lk, hcd, hD, hK⟩ := F.ex
  rcases hD with ⟨_, rfl⟩ | ⟨e, _⟩
  · exact fun s a zs hl => .of_eq (h kV doc pm an cdv ct a zs (Nat.succ.inj hl))
  · exact absurd rfl e
/-- f(k = e, ..), all by keywords -/
def tCallK0 (sp : Sp) (E : XK) (t : TA) : TE := fun σ H Q => t σ H fun vs H1 => sp vs H1 Q E
section
variable {X : Cx} {CX : CXT} {k : Nat} {f : Addr} {fd : FuncData} {ps : List Str} {sp : Sp} {E : XK} {x : Str} {p pos : Pos} {kws : List Keyword} {tk : TA}
theorem pe_callK0 (F : FnOk X.prog X.w X.K X.mg X.base CX k f fd ps sp) (hr : Room k X.A) (hg : Gl X x) (hm : X.mg x = some (.ref f)) (hk : PySem.W.keepIn X.K (.ref f) = true) (hb : BindsK fd ps) (hx : Passes CX X E) (hkw : PK X kws tk)
    (hall : (backToKw pos (keywordEach kws X.env)).all (·.1.isSome) = true := by rfl) (hks : (backToKw pos (keywordEach kws X.env)).filterMap (·.1) = ps := by rfl) (hdb : (x == ("__debug__" : Str)) = false := by decide)
    (hpl : ((backTo pos (starEach [] X.env)).any (·.1) || (backToKw pos (keywordEach kws X.env)).any (·.1.isNone)) = false := by rfl) :
    PE X (.Call (.Name x p) [] kws pos) (tCallK0 sp E tk) := by
  refine ⟨fun pins s σ H Q I h => ?_⟩
  refine wpAny_Call_Name_kw (ld_glob I hg hm ?_ hdb)
  refine PySem.W.callWith_KW0 (first := []) (h₀ := X.base) I.ok.mod.kin hk hall ?_ hpl
  refine thn (hkw.run pos pins s σ H _ I h) fun us s2 ⟨vs, H2, I2, r, q2⟩ => ⟨I2.kIn, ?_⟩
  rw [hks]
  have hl : us.length = ps.length := r.length.symm.trans (F.len _ _ _ _ q2)
  refine wpAny_call (codeAny_mono (F.run X.A X.stack s2 H2 ⟨[], ps.zip us⟩ us vs Q E hr I2.env0 (hb s2 us hl) r q2) fun r s' hq => ?_)
  match r, hq with
  | .error e, hq => exact hx pins σ H2 s2 e s' I2 hq
  | .ok (.ret u), hq => exact I2.after hq
  | .ok .next, hq => exact hq.elim
  | .ok .brk, hq => exact hq.elim
  | .ok .cont, hq => exact hq.elim
/-- f(), f told of by FnR -/
theorem pe_callR0 (F : FnR X.prog X.w X.K X.mg X.base CX k f sp) (hr : Room k X.A) (hg : Gl X x) (hm : X.mg x = some (.ref f)) (hk : PySem.W.keepIn X.K (.ref f) = true) (hx : Passes CX X E) (hd : (x == ("__debug__" : Str)) = false := by decide) :
    PE X (.Call (.Name x p) [] [] pos) (fun _ H Q => sp [] H Q E) := by
  refine ⟨fun pins s σ H Q I h => ?_⟩
  refine wpAny_Call_Name_kw (ld_glob I hg hm ?_ hd)
  exact PySem.W.callWith_K0 I.kIn hk (wpAny_call (run_fnR F hr hx I .nil h))
/-- C.m(k = e, ..), m a staticmethod -/
theorem pe_smethK0 {C q : Addr} {mc : Value} {o : Expr} {m : Str} {apos : Pos} {ta : TE} {pl : Sem Bool}
    (he : PE X o ta) (r : CRead X.K C mc) (c : SMet X.K C mc m q f) (F : FnOk X.prog X.w X.K X.mg X.base CX k f fd ps sp) (hr : Room k X.A) (hb : BindsK fd ps) (hx : Passes CX X E) (hkw : PK X kws tk)
    (hall : (backToKw pos (keywordEach kws X.env)).all (·.1.isSome) = true := by rfl) (hks : (backToKw pos (keywordEach kws X.env)).filterMap (·.1) = ps := by rfl)
    (hpl : ((backTo pos (starEach [] X.env)).any (·.1) || (backToKw pos (keywordEach kws X.env)).any (·.1.isNone)) = false := by rfl)
    (ht : eval (.Call (.Attribute o m apos) [] kws pos) X.env = (do
      let ov ← eval o X.env
      standAt apos.atName
      let (f, first) ← holding [ov] (getMethod ov m pl)
      callWith pos f first (backTo pos (starEach [] X.env)) (backToKw pos (keywordEach kws X.env))) := by rfl) :
    PE X (.Call (.Attribute o m apos) [] kws pos) (tSMeth C sp E ta tk) := by
  refine ⟨fun pins s σ H Q I h => ?_⟩
  refine PySem.W.methodCall_KW (pl := pl) (thn (he.run pins s σ H _ I h) fun u s1 ⟨x, H1, I1, rx, ex, q⟩ => ?_) ht
  subst ex
  obtain rfl : u = Value.ref C := rx
  refine getsm_ok I1 r c fun s2 I2 => ?_
  refine PySem.W.callWith_KW0 (first := []) (h₀ := X.base) I2.ok.mod.kin c.kp hall ?_ hpl
  refine thn (hkw.run pos pins s2 σ H1 _ I2 q) fun us s3 ⟨vs, H2, I3, rv, q2⟩ => ⟨I3.kIn, ?_⟩
  rw [hks]
  have hl : us.length = ps.length := rv.length.symm.trans (F.len _ _ _ _ q2)
  refine wpAny_call (codeAny_mono (F.run X.A X.stack s3 H2 ⟨[], ps.zip us⟩ us vs _ E hr I3.env0 (hb s3 us hl) rv q2) fun r s' hq => ?_)
  match r, hq with
  | .error e, hq => exact hx pins σ H2 s3 e s' I3 hq
  | .ok (.ret u), hq => exact I3.after hq
  | .ok .next, hq => exact hq.elim
  | .ok .brk, hq => exact hq.elim
  | .ok .cont, hq => exact hq.elim
end
end L2
namespace L2
open PySem PySem.Spec PyProof.Rows
/-! several clauses 'except x as n', n at slot i -/
abbrev Clause := Value × (Addr → Value → Option Addr → TS)
def wAss (K : PySem.W.Frag) (i : Nat) (Wout : WX) (D : Ends) : List Clause → WX
  | [] => Wout
  | k :: r => wAs K k.1 i k.2 (wAss K i Wout D r) D
inductive HdsAs (X : Cx) (n : Str) : List ExceptHandler → List Clause → Prop
  | nil : HdsAs X n [] []
  | cons {x : Str} {k : Clause} {st : Stmt} {sts : List Stmt} {p1 p2 : Pos} {hds : List ExceptHandler} {l : List Clause} (nm : Names X x k.1)
      (su : ∀ (a : Addr) (oe : Obj) (cls : Value) (d : Option Addr) (pn : List (Addr × Obj)), Zc cls d oe → (∃ vs, oe.data = .fields vs) → PSs (X.suite a ((a, oe) :: pn)) (st :: sts) (k.2 a cls d)) (r : HdsAs X n hds l) :
      HdsAs X n (.ExceptHandler (some (.Name x p1)) (some n) (st :: sts) p2 :: hds) (k :: l)
section
variable {X : Cx} {n : Str} {i : Nat} {Wout : WX} {D : Ends} {pins : List (Addr × Obj)} {σ : St} {H : Hp} {a : Addr} {B : Heap} {cls : Value} {d : Option Addr}
/-- the ends of a part of the body, seen from the whole try -/
theorem sp_try {xe : Value → Shared → Prop} {f : Flow} {s1 : Shared} (h : SP (X.tr (X.pn ++ pins) xe) [] D f s1) (back : ∀ {σ' : St} {H' : Hp}, Inv (X.tr (X.pn ++ pins) xe) [] σ' H' s1 → Inv X pins σ' H' s1) : SP X pins D f s1 := by
  cases f with
  | next => exact let ⟨σ', H', J, q⟩ := h; ⟨σ', H', back J, q⟩
  | brk => exact let ⟨σ', H', J, q⟩ := h; ⟨σ', H', back J, q⟩
  | cont => exact let ⟨σ', H', J, q⟩ := h; ⟨σ', H', back J, q⟩
  | ret u => exact let ⟨v, σ', H', J, r, q⟩ := h; ⟨v, σ', H', back J, r, q⟩
/-- an exception that landed in this frame meets the clauses -/
theorem hds_run (ok : X.Ok) (hs : X.stack = X.env :: X.outer) (hf : X.env.frame = some X.env.locals) (hN : X.N.Nodup) (hi : X.N[i]? = some n) (hln : X.env.kindOf n = some .local) (tk : Takes X Wout) {sI s' : Shared} {h3 : Heap} (J : Inv X pins σ H sI)
    (nb : ∀ b o, sI.heap.get? b = some o → b ∉ frs X.stack → B.get? b = some o) (up : sI.heap.UpToSlots h3) (os : s'.os = sI.os) (ag : AllBare s'.gens) (na : H a = none) (fl : HandSPX.FlyingZ B (X.env :: X.outer) a (Zc cls d) h3)
    {hds : List ExceptHandler} {l : List Clause} (hk : HdsAs X n hds l) (w : wAss X.K i Wout D l cls d σ H) :
    wpAny (model X.prog X.w) X.A (handleBy (.ref a) X.env hds) (SP X pins D) X.xe { s' with heap := h3 } := by
  -- the exception at a, as the suite of a clause sees it
  have seen : ∀ {h : Heap}, HandSPX.FlyingZ B (X.env :: X.outer) a (Zc cls d) h → sI.heap.UpToSlots h → ∃ oe vs, h.get? a = some oe ∧ Zc cls d oe ∧ oe.data = .fields vs ∧ Inv (X.suite a ((a, oe) :: (X.pn ++ pins))) [] σ H { s' with heap := h } := fun {h} f u => by
    obtain ⟨oe, vs, he, hz, hd⟩ := f.there
    have nfr : a ∉ frs (X.env :: X.outer) := fun hm => by
      obtain ⟨_, o', e', hnf⟩ := f.2.2.1.mem hm
      rw [he] at e'
      cases e'
      exact hnf _ hd
    have J3 : Inv X pins σ H { s' with heap := h } := J.landed nb f.1 u os ag
    refine ⟨oe, vs, he, hz, hd, J3.suite he hd na (fun z => nfr (List.mem_filterMap.mpr ⟨X.env, List.mem_cons_self, by rw [hf, z]⟩)) fun hm => ?_⟩
    obtain ⟨e, he', q⟩ := List.mem_filterMap.mp hm
    exact nfr (List.mem_filterMap.mpr ⟨e, List.mem_cons_of_mem _ he', q⟩)
  induction hk with
  | nil =>
    refine wpAny_handleBy_nil ?_
    obtain ⟨k1, k2, k3, oe, vs, T, oT, ts', he, hz, hd, h1, hr⟩ := id fl
    unfold PySem.passOn
    refine wpAny_bind (wpAny_field he hd h1 ?_)
    rw [if_neg (show ¬ ((Value.ref T == Value.none) = true) from by simp)]
    have on : wpAny (model X.prog X.w) X.A (setFlight (.ref a) X.env.frame) (fun _ s4 => wpAny (model X.prog X.w) X.A (throw (.ref a) : Sem Flow) (SP X pins D) X.xe s4) X.xe { s' with heap := h3 } := by
      rw [hf]
      exact HandSPX.setFlight_upZ fl fun h4 hh4 up4 => wpAny_throw (tk _ _ ⟨a, B, sI, pins, σ, H, cls, d, rfl, J, nb, up.trans up4, .inr (.inr (by rw [hs]; exact hh4)), na, os, ag, w⟩)
    first
      | exact wpAny_bind (wpAny_pure (wpAny_bind on))
      | exact wpAny_bind on
  | @cons x k st sts p1 p2 hds2 l2 nm su r ih =>
    obtain ⟨b, e1, yes, no⟩ := w
    obtain ⟨oe, vs, he, hz, hd, S⟩ := seen fl up
    refine wpAny_handleBy_cons (codeAny_handlers_test ?_) (by intro q; cases q)
    have LM := PySem.W.exm_one (M := model X.prog X.w) S.kIn (fun A Q E s k q => wpAny_typeOf_ref (k _ _ he) (by rw [hz.1]; exact q) : PySem.W.Looks (model X.prog X.w) h3 (typeOf (.ref a)) cls) e1
    have test : ∀ {Q E : Value → Shared → Prop}, Q k.1 { s' with heap := h3 } → wpAny (model X.prog X.w) (X.A.mark (some (.ref a))) (eval (.Name x p1) X.env) Q E { s' with heap := h3 } := fun {Q E} q => by
      obtain ⟨g, db, m | ⟨m, v, nn⟩⟩ := nm
      · exact ld_glob (X := X.suite a ((a, oe) :: (X.pn ++ pins))) S g m q db
      · exact ld_blt (X := X.suite a ((a, oe) :: (X.pn ++ pins))) S g m v q nn db
    refine test (LM.here ?_)
    cases b with
    | false => exact ih (no rfl)
    | true =>
      refine codeAny_handlers_suite_as ?_
      refine HandSPX.lands_againZ fl fun h4 fl4 up4 => ?_
      obtain ⟨oe4, vs4, he4, hz4, hd4, S4⟩ := seen fl4 (up.trans up4)
      refine store_ok (X := X.suite a ((a, oe4) :: (X.pn ++ pins))) (v := .ref a) S4 hN hi (.inl hln) rfl (fun s5 S5 => ?_) (.inr hln)
      refine wpAny_mono ((su a oe4 cls d (X.pn ++ pins) hz4 ⟨_, hd4⟩).run [] s5 _ H _ S5 (yes rfl a na)) (fun f s6 hsp => ?_) (fun _ _ z => False.elim z)
      have gone : ∀ {σ6 : St} {H6 : Hp} {Q : Shared → Prop}, Inv (X.suite a ((a, oe4) :: (X.pn ++ pins))) [] σ6 H6 s6 → (∀ s7, Inv X pins (σ6.set i none) H6 s7 → Q s7) →
          wpAny (model X.prog X.w) X.A (do bindName X.env n .none; unbindBehindTheSuite X.env n p2) (fun _ s7 => Q s7) X.xe s6 := fun {σ6 H6 Q} S6 hq => gone_ok (S6.unsuite ok) hN hi hln hq
      cases f with
      | next => exact let ⟨σ6, H6, S6, q6⟩ := hsp; gone S6 fun s7 J7 => ⟨_, _, J7, q6⟩
      | brk => exact let ⟨σ6, H6, S6, q6⟩ := hsp; gone S6 fun s7 J7 => ⟨_, _, J7, q6⟩
      | cont => exact let ⟨σ6, H6, S6, q6⟩ := hsp; gone S6 fun s7 J7 => ⟨_, _, J7, q6⟩
      | ret u => exact let ⟨v6, σ6, H6, S6, r6, q6⟩ := hsp; gone S6 fun s7 J7 => ⟨_, _, _, J7, r6, q6⟩
/-- try: body / except x1 as n: .. / except x2 as n: .. -/
theorem ps_try_ass {body : List Stmt} {h₀ : ExceptHandler} {hds : List ExceptHandler} {l : List Clause} {pos : Pos} {tb : WX → TS} (hs : X.stack = X.env :: X.outer) (hf : X.env.frame = some X.env.locals) (hN : X.N.Nodup) (hi : X.N[i]? = some n) (hln : X.env.kindOf n = some .local) (tk : Takes X Wout)
    (hb : ∀ (W : WX) (pn : List (Addr × Obj)) (xe : Value → Shared → Prop), Takes (X.tr pn xe) W → PassesOwn (model X.prog X.w) X.A X.env xe → PSs (X.tr pn xe) body (tb W)) (hh : HdsAs X n (h₀ :: hds) l) :
    PS X (.Try body (h₀ :: hds) [] [] pos) (fun D σ H => tb (wAss X.K i Wout D l) D σ H) := by
  refine ⟨fun pins s σ H D I h => ?_⟩
  have ok := I.ok
  have hfr : X.A.frames = some (X.env :: X.outer) := by rw [ok.frames, hs]
  refine wpAny_Try_except ?_
  let xe : Value → Shared → Prop := fun e s₁ => wpAny (model X.prog X.w) X.A (noteFrame e X.env) (fun _ s₂ => wpAny (model X.prog X.w) X.A (setFlight e none) (fun _ s₃ => wpAny (model X.prog X.w) X.A (handleBy e X.env (h₀ :: hds)) (SP X pins D) X.xe s₃) X.xe s₂) X.xe s₁
  have caught : Takes (X.tr (X.pn ++ pins) xe) (wAss X.K i Wout D l) := fun u s' xx => by
    obtain ⟨a, B, sI, pins', σ', H', cls, d, rfl, J', nb, up, sky, na, os, ag, w⟩ := xx
    exact Sky.land Zc.steady hfr hf (show Sky B (X.env :: X.outer) a (Zc cls d) X.env.locals s'.heap by rw [← hs]; exact sky) fun h3 fl3 up3 => hds_run ok hs hf hN hi hln tk (J'.ofTry ok) nb (up.trans up3) os ag na fl3 hh w
  refine wpAny_mono ((hb (wAss X.K i Wout D l) (X.pn ++ pins) xe caught PassesOwn.looking).run [] s σ H D (I.toTry _) h) (fun f s1 hsp => ?_) (fun e s1 he => he)
  have z : SP X pins D f s1 := sp_try hsp fun J => J.ofTry ok
  cases f with
  | next => exact wpAny_execs_nil z
  | brk => exact z
  | cont => exact z
  | ret u => exact z
end
end L2
namespace L2
open PySem PySem.Spec PyProof.Rows
/-! ### operators that an own class answers -/
/-- a class's own method by its special name -/
structure OwnM (K : PySem.W.Frag) (C : Addr) (name : Str) (f : Addr) : Prop where
  at_ : PySem.W.findIn K (.ref C) name = some (some (.ref f))
  fn : PySem.W.isFn K (.ref f) = true
/-- a is an instance of the class at C -/
def InsAt (H : Hp) (a C : Addr) : Prop := ∃ dx fs, H a = some (.ins C dx fs)
theorem InsAt.inst {X : Cx} {pins : List (Addr × Obj)} {σ : St} {H : Hp} {s : Shared} {a C : Addr} (h : InsAt H a C) (I : Inv X pins σ H s) : ∃ ox od, PySem.W.InstAt s.heap a ox C od := by
  obtain ⟨dx, fs, e⟩ := h
  obtain ⟨mA, J, _⟩ := ins_get I.hok e
  obtain ⟨od, J, _⟩ := J.look
  exact ⟨_, _, J⟩
section
variable {X : Cx} {CX : CXT} {n : Nat} {C f : Addr} {fd : FuncData} {ps : List Str} {sp : Sp} {E : XK}
/-- the def runs below the body, at any place with room -/
theorem own_run {A : Around} {pins : List (Addr × Obj)} {σ : St} {H : Hp} {s : Shared} {Q : VK} {us : List Value} {vs : List V} (F : FnOk X.prog X.w X.K X.mg X.base CX n f fd ps sp) (sb : Sub X n A) (hb : Binds X.K fd ps []) (hx : Passes CX X E)
    (I : Inv X pins σ H s) (r : Vals vs us) (h : sp vs H Q E) : wpAny (model X.prog X.w) A (call (.ref f) us) (EP X pins σ Q) X.xe s := by
  have e := I.env0
  have e0 : Env0 X.prog X.w X.K X.mg X.base A X.stack s H := ⟨by rw [sb.fr]; exact e.frames, e.mod, e.bs, e.bsz, e.funs, e.frf, e.hok, e.bare⟩
  have hl : us.length = ps.length := r.length.symm.trans (F.len _ _ _ _ h)
  have bi : BindsTo s fd ⟨us, []⟩ (ps.zip us) := by
    have z := hb s us I.kIn (by simpa using hl)
    simpa using z
  refine wpAny_call (codeAny_mono (F.run A X.stack s H ⟨us, []⟩ us vs Q E sb.room e0 bi r h) fun q s' z => ?_)
  match q, z with
  | .error x, z => exact hx pins σ H s x s' I z
  | .ok (.ret u), z => exact I.after z
  | .ok .next, z => exact z.elim
  | .ok .brk, z => exact z.elim
  | .ok .cont, z => exact z.elim
def rOwnC (C : Addr) (sp : Sp) (E : XK) : R2 := fun x y H Q => ∃ a b, x = .ref a ∧ y = .ref b ∧ InsAt H a C ∧ InsAt H b C ∧ sp [x, y] H Q E
/-- x op y, both of the class -/
theorem op_ownC {op : Operator} (M : OwnM X.K C (PySem.dunder op.info.2) f) (hc : PySem.W.selfFirst X.K C = true) (F : FnOk X.prog X.w X.K X.mg X.base CX n f fd ps sp) (hr : Room n X.A) (hb : Binds X.K fd ps []) (hx : Passes CX X E) : OpR X (binaryOp op) (rOwnC C sp E) := by
  intro pins s σ H x y v u Q I rx ry h
  obtain ⟨a, b, rfl, rfl, ha, hb', q⟩ := h
  obtain rfl : v = .ref a := rx
  obtain rfl : u = .ref b := ry
  obtain ⟨ox, od, J⟩ := ha.inst I
  obtain ⟨oy, ey, J'⟩ := hb'.inst I
  obtain ⟨m, hF⟩ := I.fr
  refine PySem.W.binop_K hF I.ok.mod.kin J J'.type hc M.at_ M.fn ?_
  refine wpAny_mono (own_run (vs := [.ref a, .ref b]) F ⟨hr, rfl⟩ hb hx I (.cons rfl (.cons rfl .nil)) q) (fun r s' z => ?_) fun _ _ z => z
  obtain ⟨z, H', I', rz, qz⟩ := id z
  exact SlX.cmpback rz ⟨z, H', I', rz, qz⟩
/-- the right side is a value of the built-in type at T, known without the heap -/
def PlainT (y : V) (T : String) : Prop := ∀ u, RelV y u → typeOf u = pure (.type T)
theorem plainT_int (i : Int) : PlainT (.int i) "int" := fun u r => by obtain ⟨t, rfl⟩ := (show ∃ t, u = Value.int i t from r); rfl
theorem plainT_str (x : Str) : PlainT (.str x) "str" := fun u r => by obtain ⟨t, rfl⟩ := (show ∃ t, u = Value.str x t from r); rfl
theorem plainT_bl (b : Bool) : PlainT (.bl b) "bool" := fun u r => by obtain rfl := (show u = Value.bool b from r); rfl
theorem plainT_non : PlainT .non "NoneType" := fun u r => by obtain rfl := (show u = Value.none from r); rfl
/-- what the written part must tell of a built-in type that stands at the right -/
structure RightT (K : PySem.W.Frag) (C : Addr) (nm : String) (T : String) : Prop where
  fo : ∃ o, PySem.W.findIn K (.type T) (PySem.dunder nm) = some o
  ro : ∃ o, PySem.W.findIn K (.type T) (dunderR nm) = some o
  no : PySem.W.subIn K (.type T) (.ref C) = some false
def rOwnT (K : PySem.W.Frag) (C : Addr) (nm : String) (sp : Sp) (E : XK) : R2 := fun x y H Q => ∃ a T, x = .ref a ∧ PlainT y T ∧ RightT K C nm T ∧ InsAt H a C ∧ sp [x, y] H Q E
theorem op_ownT {op : Operator} (M : OwnM X.K C (PySem.dunder op.info.2) f) (hc : PySem.W.selfFirst X.K C = true) (hR : PySem.W.findIn X.K (.ref C) (dunderR op.info.2) = some none) (F : FnOk X.prog X.w X.K X.mg X.base CX n f fd ps sp) (hr : Room n X.A) (hb : Binds X.K fd ps [])
    (hx : Passes CX X E) : OpR X (binaryOp op) (rOwnT X.K C op.info.2 sp E) := by
  intro pins s σ H x y v u Q I rx ry h
  obtain ⟨a, T, rfl, pt, R, ha, q⟩ := h
  obtain rfl : v = .ref a := rx
  obtain ⟨ox, od, J⟩ := ha.inst I
  obtain ⟨m, hF⟩ := I.fr
  obtain ⟨fo, h1⟩ := R.fo
  obtain ⟨ro, h2⟩ := R.ro
  refine PySem.W.ksp_binT hF I.ok.mod.kin J (pt u ry) hc M.at_ M.fn hR (.inl rfl) h1 h2 R.no ?_
  refine wpAny_mono (own_run (vs := [.ref a, y]) F ⟨hr, rfl⟩ hb hx I (.cons rfl (.cons ry .nil)) q) (fun r s' z => ?_) fun _ _ z => z
  obtain ⟨z, H', I', rz, qz⟩ := id z
  exact SlX.cmpback rz ⟨z, H', I', rz, qz⟩
def rOwn1 (C : Addr) (sp : Sp) (E : XK) : V → Hp → VK → Prop := fun x H Q => ∃ a, x = .ref a ∧ InsAt H a C ∧ sp [x] H Q E
/-- -x by an own __neg__ -/
theorem un_ownNeg (M : OwnM X.K C "__neg__" f) (F : FnOk X.prog X.w X.K X.mg X.base CX n f fd ps sp) (hr : Room n X.A) (hb : Binds X.K fd ps []) (hx : Passes CX X E) : UnR X (unaryOp .USub) (rOwn1 C sp E) := by
  intro pins s σ H x v Q I rx h
  obtain ⟨a, rfl, ha, q⟩ := h
  obtain rfl : v = .ref a := rx
  obtain ⟨ox, od, J⟩ := ha.inst I
  obtain ⟨m, hF⟩ := I.fr
  exact PySem.W.ksp_neg hF I.ok.mod.kin J M.at_ M.fn (own_run (vs := [.ref a]) F ⟨hr, rfl⟩ hb hx I (.cons rfl .nil) q)
/-- repr(x) by an own __repr__ -/
theorem call_ownRepr (M : OwnM X.K C "__repr__" f) (F : FnOk X.prog X.w X.K X.mg X.base CX n f fd ps sp) (hr : Room (n + 1) X.A) (hb : Binds X.K fd ps []) (hx : Passes CX X E) :
    CallR X (.builtin "repr") fun xs H Q => ∃ a, xs = [.ref a] ∧ InsAt H a C ∧ sp [.ref a] H (fun v H' => ∃ t, v = .str t ∧ Q v H') E := by
  intro pins s σ H xs us Q I r h
  obtain ⟨a, rfl, ha, q⟩ := h
  cases r with
  | cons rv rn =>
    cases rn
    cases rv
    obtain ⟨ox, od, J⟩ := ha.inst I
    obtain ⟨m, hF⟩ := I.fr
    have sb : Sub X n X.A.in1 := ⟨hr.in1, rfl⟩
    refine PySem.W.repr_K sb.room.units0 hF I.ok.mod.kin J M.at_ M.fn ?_
    refine wpAny_mono (own_run (vs := [.ref a]) F sb hb hx I (.cons rfl .nil) q) (fun u s' z => ?_) fun _ _ z => z
    obtain ⟨z, H', I', rz, t, rfl, qz⟩ := z
    obtain ⟨tk, rfl⟩ := (show ∃ tk, u = Value.str t tk from rz)
    exact ⟨.str t, H', I', ⟨tk, rfl⟩, qz⟩
/-- x's truth by an own __bool__ -/
theorem tru_own (M : OwnM X.K C "__bool__" f) (F : FnOk X.prog X.w X.K X.mg X.base CX n f fd ps sp) (hr : Room n X.A) (hb : Binds X.K fd ps []) (hx : Passes CX X E) :
    TruR X fun x H Q => ∃ a, x = .ref a ∧ InsAt H a C ∧ sp [.ref a] H (fun v H' => ∃ b, v = .bl b ∧ Q b H') E := by
  intro pins s σ H x v Q I rx h
  obtain ⟨a, rfl, ha, q⟩ := h
  obtain rfl : v = .ref a := rx
  obtain ⟨ox, od, J⟩ := ha.inst I
  obtain ⟨m, hF⟩ := I.fr
  refine PySem.W.truthy_K hF I.ok.mod.kin J M.at_ M.fn ?_
  refine wpAny_mono (own_run (vs := [.ref a]) F ⟨hr, rfl⟩ hb hx I (.cons rfl .nil) q) (fun u s' z => ?_) fun _ _ z => z
  obtain ⟨z, H', I', rz, b, rfl, qz⟩ := z
  obtain rfl : u = Value.bool b := rz
  exact ⟨H', I', qz⟩
end
end L2
namespace PySem.OwnS
open PySem PySem.W PySem.Calls PyProof.Rows
open Builtin Builtin.Str
section
variable {prog : Program} {w : World} {A : Around} {E : Value → Shared → Prop} {s : Shared} {K : Frag} {x C f : Addr} {ox : Obj} {od : Option Obj} {b tb : Value}
/-- an instance of a class that takes != from object -/
theorem ne_body (hu : A.units < cLine) (X : K.In s.heap) (I : InstAt s.heap x ox C od) (hs : findIn K (.ref C) "__eq__" = some (some (.ref f))) (hf : isFn K (.ref f) = true) {Q : Fin → Shared → Prop}
    (h : wpAny (model prog w) A (call (.ref f) [.ref x, b]) (fun v s' => ∃ k, v = .bool k ∧ Q (.done (.ret (.bool (!k)))) s') E s) : wpAny (model prog w) A (Builtin.«object.__ne__» ⟨[.ref x, b], []⟩) Q E s := by
  unfold Builtin.«object.__ne__»
  refine wpAny_bind (wpAny_pure ?_)
  dsimp only
  refine wpAny_bind (wpAny_cRoomFor hu ?_)
  refine wpAny_bind (m := callSpecialIfBound? (.ref x) (Str.ofString "__eq__") [b]) (ifBound_K X I hs hf (wpAny_mono h (fun v s' z => ?_) fun _ _ z => z))
  obtain ⟨k, rfl, q⟩ := z
  exact wpAny_bind (wpAny_truthy_bool (wpAny_pure q))
theorem LO (X : K.In s.heap) (I : InstAt s.heap x ox C od) (ho : subIn K (.ref C) (.type "object") = some true) : Looks (model prog w) s.heap (isInstance (.ref x) (.type "object")) true := I.type.andThen (looks_subIn X ho)
theorem ne_slot (hu : A.units + 1 < cLine) (X : K.In s.heap) (I : InstAt s.heap x ox C od) (ho : subIn K (.ref C) (.type "object") = some true) (hs : findIn K (.ref C) "__eq__" = some (some (.ref f))) (hf : isFn K (.ref f) = true) {Q : Value → Shared → Prop}
    (h : wpAny (model prog w) A.in1 (call (.ref f) [.ref x, b]) (fun v s' => ∃ k, v = .bool k ∧ Q (.bool (!k)) s') E s) : wpAny (model prog w) A (call (.builtin "object.__ne__") [.ref x, b]) Q E s := by
  refine wpAny_call (codeAny_call_builtin (by decide +kernel) F.cmpEntry_ne (@PySem.W.check_slot (model prog w) _ _ s "object.__ne__" "object" "__ne__" (.ref x) [b] [] _ (by decide +kernel) (by decide +kernel) (LO X I ho) (F.cmpArgs_ne _ _) ?_))
  refine ne_body (A := A.in1) hu X I hs hf (wpAny_mono h (fun v s' z => ?_) fun _ _ z => z)
  obtain ⟨k, rfl, q⟩ := z
  exact ⟨k, rfl, q⟩
theorem ne_own (hu : A.units + 1 < cLine) (X : K.In s.heap) (I : InstAt s.heap x ox C od) (hb : Looks (model prog w) s.heap (typeOf b) tb) (hn : notFirst K C tb = true) (ho : subIn K (.ref C) (.type "object") = some true)
    (hne : findIn K (.ref C) "__ne__" = some (some (.builtin "object.__ne__"))) (hs : findIn K (.ref C) "__eq__" = some (some (.ref f))) (hf : isFn K (.ref f) = true) {Q : Value → Shared → Prop}
    (h : wpAny (model prog w) A.in1 (call (.ref f) [.ref x, b]) (fun v s' => ∃ k, v = .bool k ∧ Q (.bool (!k)) s') E s) : wpAny (model prog w) A (richCompare .NotEq (.ref x) b) Q E s := by
  have one : wpAny (model prog w) A (tryCompare (.ref x) "__ne__" b) (fun r s' => ∃ v, r = some v ∧ Q v s') E s := by
    unfold tryCompare callSpecialIfBound? bindSpecialIfBound?
    have fin : wpAny (model prog w) A (call (.builtin "object.__ne__") ([.ref x] ++ [b]) >>= fun v => pure (some v)) (fun r s' => wpAny (model prog w) A (match r with | some .notImplemented | none => pure none | some v => pure (some v)) (fun r s' => ∃ v, r = some v ∧ Q v s') E s') E s := by
      refine wpAny_bind (wpAny_mono (ne_slot hu X I ho hs hf (wpAny_mono h (fun v s' z => ?_) fun _ _ z => z)) (fun v s' z => wpAny_pure z) fun _ _ z => z)
      obtain ⟨k, rfl, q⟩ := z
      exact ⟨k, rfl, wpAny_pure ⟨_, rfl, q⟩⟩
    refine wpAny_bind (wpAny_holding (wpAny_bind (wpAny_bind (wpAny_bind (I.type.here ((looks_findIn X hne).here ?_))))))
    refine wpAny_bind (wpAny_askSetting (wpAny_ite ?_))
    split
    · exact wpAny_bind (wpAny_pure (wpAny_pure fin))
    · exact wpAny_tryCatch (wpAny_bind (wpAny_pure (wpAny_pure fin)))
  unfold richCompare
  simp only [oneThing_ref]
  refine wpAny_holding (wpAny_bind (wpAny_cRoomFor (Nat.lt_of_succ_lt hu) ?_))
  refine wpAny_bind (I.type.here (wpAny_bind (hb.here ?_)))
  split
  · rename_i q
    have e : subIn K tb (.ref C) = some false := by
      rcases Bool.or_eq_true_iff.mp hn with e | e
      · rw [beq_iff_eq.mp e] at q; simp at q
      · exact beq_iff_eq.mp e
    refine wpAny_bind ((looks_subIn X e).here ?_)
    simp only [Bool.false_eq_true, if_false]
    refine wpAny_bind (wpAny_mono one (fun r s' z => ?_) fun _ _ e => e)
    obtain ⟨v, rfl, hq⟩ := z
    exact wpAny_pure hq
  · refine wpAny_bind (wpAny_pure ?_)
    simp only [Bool.false_eq_true, if_false]
    refine wpAny_bind (wpAny_mono one (fun r s' z => ?_) fun _ _ e => e)
    obtain ⟨v, rfl, hq⟩ := z
    exact wpAny_pure hq
/-- str(x) by an own __str__ -/
theorem str_own (hu : A.in1.in1.units < cLine) (X : K.In s.heap) (I : InstAt s.heap x ox C od) (hs : findIn K (.ref C) "__str__" = some (some (.ref f))) (hf : isFn K (.ref f) = true) {Q : Value → Shared → Prop}
    (h : wpAny (model prog w) A.in1.in1 (call (.ref f) [.ref x]) (fun v s' => ∃ y t, v = .str y t ∧ Q v s') E s) : wpAny (model prog w) A (call (.type "str") [.ref x]) Q E s := by
  refine callType_newIn F.called_str (by decide) (F.typeCall_str_1 _) (F.newCall_str_1 _) (fun obj => F.args_object_init_2 obj _) F.entry_str_new
    (S := fun A R s => wpAny (model prog w) A.in1 (Builtin.Str.strOf (.ref x)) (fun r s' => R (.ok (.ret r)) s') (fun e s' => R (.error e) s') s) (.of_wp fun A R s h => ?_) ?_
  · rw [str_new_tree (.ref x)]
    refine wpAny_bind (wpAny_pure ?_)
    refine wpAny_bind (wpAny_of_eq isSubtype_str_str ?_)
    exact wpAny_bind (wpAny_mono h (fun r s' h' => wpAny_pure ⟨_, rfl, h'⟩) fun _ _ e => e)
  · unfold Builtin.Str.strOf
    rw [show isExactStr (.ref x) = false from rfl]
    simp only [Bool.false_eq_true, if_false]
    refine wpAny_bind (wpAny_cRoomFor hu ?_)
    refine wpAny_bind (m := callSpecial? (.ref x) (Str.ofString "__str__")) (special_fn X I hs (beq_iff_eq.mp hf) (wpAny_mono h (fun v s' z => ?_) fun _ _ z => z))
    obtain ⟨y, t, rfl, q⟩ := z
    exact wpAny_pure ⟨typeIs_str _ _ _, q⟩
theorem abs_own (X : K.In s.heap) (I : InstAt s.heap x ox C od) (hs : findIn K (.ref C) "__abs__" = some (some (.ref f))) (hf : isFn K (.ref f) = true) {Q : Value → Shared → Prop}
    (h : wpAny (model prog w) A.in1 (call (.ref f) [.ref x]) Q E s) : wpAny (model prog w) A (call (.builtin "abs") [.ref x]) Q E s := by
  refine Calls.call_function_entry PyProof.Rows.kind_abs PyProof.Rows.plain_abs PyProof.Rows.entry_abs (PyProof.Rows.args_abs _) ?_
  unfold Builtin.«abs»
  refine wpAny_bind (m := oneArg "abs" _) (wpAny_pure ?_)
  refine wpAny_bind (m := callSpecial? (.ref x) (Str.ofString "__abs__")) (special_fn X I hs (beq_iff_eq.mp hf) (wpAny_mono h (fun v s' z => ?_) fun _ _ z => z))
  exact wpAny_pure ⟨_, rfl, z⟩
end
end PySem.OwnS
namespace L2
open PySem PySem.Spec PyProof.Rows
/-- the class of a value, as the heap tells it -/
def TyAt (X : Cx) (H : Hp) (y : V) (tb : Value) : Prop := ∀ (pins : List (Addr × Obj)) (s : Shared) (σ : St) (u : Value), Inv X pins σ H s → RelV y u → PySem.W.Looks (model X.prog X.w) s.heap (typeOf u) tb
section
variable {X : Cx} {CX : CXT} {n : Nat} {C f : Addr} {fd : FuncData} {ps : List Str} {sp : Sp} {E : XK} {H : Hp}
theorem ty_plain {y : V} {T : String} (p : PlainT y T) : TyAt X H y (.type T) := fun _ _ _ u _ r => PySem.W.Looks.of_pure (p u r)
theorem ty_ins {b : Addr} (h : InsAt H b C) : TyAt X H (.ref b) (.ref C) := fun _ _ _ u I r => by
  obtain rfl : u = .ref b := r
  obtain ⟨ox, od, J⟩ := h.inst I
  exact J.type
theorem looks_cls {s : Shared} {a : Addr} {o : Obj} (e : s.heap.get? a = some o) : PySem.W.Looks (model X.prog X.w) s.heap (typeOf (.ref a)) o.cls := fun A Q E s' k q => wpAny_typeOf_ref (k _ _ e) q
theorem ty_lst {a : Addr} {xs : List V} (h : H a = some (.lst xs)) : TyAt X H (.ref a) (.type "list") := fun _ _ _ u I r => by
  obtain rfl : u = .ref a := r
  obtain ⟨_, its, n, _, e⟩ := I.hok a _ h
  exact looks_cls (X := X) e
theorem ty_tup {a : Addr} {xs : List V} (h : H a = some (.tup xs)) : TyAt X H (.ref a) (.type "tuple") := fun _ _ _ u I r => by
  obtain rfl : u = .ref a := r
  obtain ⟨_, its, _, o, e, hc, _⟩ := I.hok a _ h
  have z := looks_cls (X := X) e
  rw [hc] at z
  exact z
theorem ty_dK {a : Addr} {kvs : List (Key × V)} (h : H a = some (.dK kvs)) : TyAt X H (.ref a) (.type "dict") := fun _ _ _ u I r => by
  obtain rfl : u = .ref a := r
  obtain ⟨_, _, ws, _, o, es, ep, e, hx, _⟩ := I.hok a _ h
  have z := looks_cls (X := X) e
  rw [hx.1] at z
  exact z
/-- x == y, x != y: the own __eq__ answers with a truth -/
def rEqOwn (X : Cx) (neg : Bool) (C : Addr) (sp : Sp) (E : XK) : R2 := fun x y H Q => ∃ a tb, x = .ref a ∧ InsAt H a C ∧ TyAt X H y tb ∧ PySem.W.notFirst X.K C tb = true ∧ sp [x, y] H (fun v H' => ∃ k, v = .bl k ∧ Q (.bl (if neg then !k else k)) H') E
theorem op_eqOwn (M : OwnM X.K C "__eq__" f) (F : FnOk X.prog X.w X.K X.mg X.base CX n f fd ps sp) (hr : Room n X.A) (hb : Binds X.K fd ps []) (hx : Passes CX X E) : OpR X (compareOp .Eq) (rEqOwn X false C sp E) := by
  intro pins s σ H x y v u Q I rx ry h
  obtain ⟨a, tb, rfl, ha, ht, hn, q⟩ := h
  obtain rfl : v = .ref a := rx
  obtain ⟨ox, od, J⟩ := ha.inst I
  obtain ⟨m, hF⟩ := I.fr
  show wpAny (model X.prog X.w) X.A (richCompare .Eq (.ref a) u) _ X.xe s
  refine PySem.W.cmp_K (op := .Eq) hr.units0 hF I.ok.mod.kin J (ht pins s σ u I ry) hn M.at_ M.fn ?_
  refine wpAny_mono (own_run (vs := [.ref a, y]) F ⟨hr, rfl⟩ hb hx I (.cons rfl (.cons ry .nil)) q) (fun r s' z => ?_) fun _ _ z => z
  obtain ⟨z, H', I', rz, k, rfl, qz⟩ := z
  obtain rfl : r = .bool k := rz
  exact ⟨.bl k, H', I', rfl, qz⟩
theorem op_neOwn (M : OwnM X.K C "__eq__" f) (hne : PySem.W.findIn X.K (.ref C) "__ne__" = some (some (.builtin "object.__ne__"))) (ho : PySem.W.subIn X.K (.ref C) (.type "object") = some true) (F : FnOk X.prog X.w X.K X.mg X.base CX n f fd ps sp) (hr : Room (n + 1) X.A)
    (hb : Binds X.K fd ps []) (hx : Passes CX X E) : OpR X (compareOp .NotEq) (rEqOwn X true C sp E) := by
  intro pins s σ H x y v u Q I rx ry h
  obtain ⟨a, tb, rfl, ha, ht, hn, q⟩ := h
  obtain rfl : v = .ref a := rx
  obtain ⟨ox, od, J⟩ := ha.inst I
  show wpAny (model X.prog X.w) X.A (richCompare .NotEq (.ref a) u) _ X.xe s
  refine PySem.OwnS.ne_own (by have := hr.units; omega) I.kIn J (ht pins s σ u I ry) hn ho hne M.at_ M.fn ?_
  refine wpAny_mono (own_run (vs := [.ref a, y]) F ⟨hr.in1, rfl⟩ hb hx I (.cons rfl (.cons ry .nil)) q) (fun r s' z => ?_) fun _ _ z => z
  obtain ⟨z, H', I', rz, k, rfl, qz⟩ := z
  obtain rfl : r = .bool k := rz
  exact ⟨k, rfl, .bl (!k), H', I', rfl, qz⟩
/-- str(x), abs(x) -/
theorem call_ownStr (M : OwnM X.K C "__str__" f) (F : FnOk X.prog X.w X.K X.mg X.base CX n f fd ps sp) (hr : Room (n + 2) X.A) (hb : Binds X.K fd ps []) (hx : Passes CX X E) :
    CallR X (.type "str") fun xs H Q => ∃ a, xs = [.ref a] ∧ InsAt H a C ∧ sp [.ref a] H (fun v H' => ∃ t, v = .str t ∧ Q v H') E := by
  intro pins s σ H xs us Q I r h
  obtain ⟨a, rfl, ha, q⟩ := h
  cases r with
  | cons rv rn =>
    cases rn
    cases rv
    obtain ⟨ox, od, J⟩ := ha.inst I
    have hr2 : Room n X.A.in1.in1 := (show Room (n + 1) X.A.in1 from hr.in1).in1
    refine PySem.OwnS.str_own hr2.units0 I.kIn J M.at_ M.fn ?_
    refine wpAny_mono (own_run (vs := [.ref a]) F ⟨hr2, rfl⟩ hb hx I (.cons rfl .nil) q) (fun u s' z => ?_) fun _ _ z => z
    obtain ⟨z, H', I', rz, t, rfl, qz⟩ := z
    obtain ⟨tk, rfl⟩ := (show ∃ tk, u = Value.str t tk from rz)
    exact ⟨t, tk, rfl, .str t, H', I', ⟨tk, rfl⟩, qz⟩
theorem call_ownAbs (M : OwnM X.K C "__abs__" f) (F : FnOk X.prog X.w X.K X.mg X.base CX n f fd ps sp) (hr : Room (n + 1) X.A) (hb : Binds X.K fd ps []) (hx : Passes CX X E) :
    CallR X (.builtin "abs") fun xs H Q => ∃ a, xs = [.ref a] ∧ InsAt H a C ∧ sp [.ref a] H Q E := by
  intro pins s σ H xs us Q I r h
  obtain ⟨a, rfl, ha, q⟩ := h
  cases r with
  | cons rv rn =>
    cases rn
    cases rv
    obtain ⟨ox, od, J⟩ := ha.inst I
    exact PySem.OwnS.abs_own I.kIn J M.at_ M.fn (own_run (vs := [.ref a]) F ⟨hr.in1, rfl⟩ hb hx I (.cons rfl .nil) q)
end
end L2
namespace PySem.OwnS
open PySem PySem.W PySem.Calls PyProof.Rows
open Builtin
section
variable {prog : Program} {w : World} {A : Around} {E : Value → Shared → Prop} {s : Shared}
theorem bool_tree (v : Value) : «bool.__new__» ⟨[.type "bool", v], []⟩ = (do
    if !(← isType (.type "bool")) then
      rule "bool.__new__.no-type"; raiseError "TypeError" s!"bool.__new__(X): X is not a type object ({← typeNameOf (.type "bool")})"
    if !(← isSubtype (.type "bool") (.type "bool")) then
      rule "bool.__new__.no-subtype"; raiseError "TypeError" s!"bool.__new__({← typeName (.type "bool")}): {← typeName (.type "bool")} is not a subtype of bool"
    ret (.bool (← truthy v))) := rfl
theorem bool_own {v : Value} {Q : Value → Shared → Prop} (h : wpAny (model prog w) A.in1.in1 (truthy v) (fun b s' => Q (.bool b) s') E s) : wpAny (model prog w) A (call (.type "bool") [v]) Q E s := by
  refine callType_newIn F.called_bool (by decide) (F.typeCall_bool_1 _) (F.newCall_bool_1 _) (fun obj => F.args_object_init_2 obj _) F.entry_bool_new
    (S := fun A R s => wpAny (model prog w) A.in1 (truthy v) (fun b s' => R (.ok (.ret (.bool b))) s') (fun e s' => R (.error e) s') s) (.of_wp fun A R s h => ?_) ?_
  · rw [bool_tree v]
    refine wpAny_bind (wpAny_pure ?_)
    refine wpAny_bind (wpAny_of_eq F.conv_sub_bool ?_)
    exact wpAny_bind (wpAny_mono h (fun r s' h' => wpAny_pure ⟨_, rfl, h'⟩) fun _ _ e => e)
  · exact wpAny_mono h (fun b s' q => ⟨rfl, q⟩) fun _ _ e => e
end
end PySem.OwnS
namespace L2
open PySem PySem.Spec PyProof.Rows
/-- bool(x) of an instance with an own __bool__ -/
theorem call_ownBool {X : Cx} {CX : CXT} {n : Nat} {C f : Addr} {fd : FuncData} {ps : List Str} {sp : Sp} {E : XK} (M : OwnM X.K C "__bool__" f) (F : FnOk X.prog X.w X.K X.mg X.base CX n f fd ps sp) (hr : Room (n + 2) X.A) (hb : Binds X.K fd ps []) (hx : Passes CX X E) :
    CallR X (.type "bool") fun xs H Q => ∃ a, xs = [.ref a] ∧ InsAt H a C ∧ sp [.ref a] H (fun v H' => ∃ b, v = .bl b ∧ Q (.bl b) H') E := by
  intro pins s σ H xs us Q I r h
  obtain ⟨a, rfl, ha, q⟩ := h
  cases r with
  | cons rv rn =>
    cases rn
    cases rv
    obtain ⟨ox, od, J⟩ := ha.inst I
    obtain ⟨m, hF⟩ := I.fr
    have hr2 : Room n X.A.in1.in1 := (show Room (n + 1) X.A.in1 from hr.in1).in1
    refine PySem.OwnS.bool_own (PySem.W.truthy_K hF I.ok.mod.kin J M.at_ M.fn ?_)
    refine wpAny_mono (own_run (vs := [.ref a]) F ⟨hr2, rfl⟩ hb hx I (.cons rfl .nil) q) (fun u s' z => ?_) fun _ _ z => z
    obtain ⟨z, H', I', rz, b, rfl, qz⟩ := z
    obtain rfl : u = Value.bool b := rz
    exact ⟨.bl b, H', I', rfl, qz⟩
end L2
namespace L2
open PySem PySem.Spec PyProof.Rows
/-- o.m(k = e, ..): all by keywords, in the parameters' order -/
def tMethK0 (C : Addr) (m : Str) (sp : Sp) (E : XK) (ta : TE) (t : TA) : TE := fun σ H Q => ta σ H fun x H1 => ∃ a dx fs, x = .ref a ∧ H1 a = some (.ins C dx fs) ∧ fs.lookup m = none ∧ t σ H1 fun vs H2 => sp (x :: vs) H2 Q E
theorem pe_methK0 {X : Cx} {CX : CXT} {k : Nat} {C f : Addr} {fd : FuncData} {ps ks : List Str} {sp : Sp} {E : XK} {m : Str} {pos apos : Pos} {o : Expr} {kws : List Keyword} {ta : TE} {tk : TA} {pl : Sem Bool}
    (he : PE X o ta) (c : Cls X.K C) (hm : Meth X.K C m f) (F : FnOk X.prog X.w X.K X.mg X.base CX k f fd ps sp) (hr : Room k X.A) (hb : ∀ (s : Shared) (a : Addr) (zs : List Value), (Value.ref a :: zs).length = ps.length → BindsTo s fd ⟨[.ref a], ks.zip zs⟩ (ps.zip (.ref a :: zs))) (hx : Passes CX X E) (hkw : PK X kws tk)
    (hall : (backToKw pos (keywordEach kws X.env)).all (·.1.isSome) = true := by rfl) (hks : (backToKw pos (keywordEach kws X.env)).filterMap (·.1) = ks := by rfl)
    (hpl : ((backTo pos (starEach [] X.env)).any (·.1) || (backToKw pos (keywordEach kws X.env)).any (·.1.isNone)) = false := by rfl)
    (ht : eval (.Call (.Attribute o m apos) [] kws pos) X.env = (do
      let ov ← eval o X.env
      standAt apos.atName
      let (f, first) ← holding [ov] (getMethod ov m pl)
      callWith pos f first (backTo pos (starEach [] X.env)) (backToKw pos (keywordEach kws X.env))) := by rfl) :
    PE X (.Call (.Attribute o m apos) [] kws pos) (tMethK0 C m sp E ta tk) := by
  refine ⟨fun pins s σ H Q I h => ?_⟩
  refine PySem.W.methodCall_KW (pl := pl) (thn (he.run pins s σ H _ I h) fun u s1 ⟨x, H1, I1, rx, a, dx, fs, ex, ea, l, q⟩ => ?_) ht
  subst ex
  obtain rfl : u = Value.ref a := rx
  refine getmeth_ok I1 ea c hm l ?_
  refine PySem.W.callWith_KW0 (first := [.ref a]) (h₀ := X.base) I1.ok.mod.kin hm.kp hall ?_ hpl
  refine thn (hkw.run pos pins s1 σ H1 _ I1 q) fun us s2 ⟨vs, H2, I2, r, q2⟩ => ⟨I2.kIn, ?_⟩
  rw [hks]
  have r2 : Vals (.ref a :: vs) (.ref a :: us) := .cons rfl r
  have hl : (Value.ref a :: us).length = ps.length := r2.length.symm.trans (F.len _ _ _ _ q2)
  refine wpAny_call (codeAny_mono (F.run X.A X.stack s2 H2 ⟨[.ref a], ks.zip us⟩ (.ref a :: us) (.ref a :: vs) Q E hr I2.env0 (hb s2 a us hl) r2 q2) fun r s' hq => ?_)
  match r, hq with
  | .error e, hq => exact hx pins σ H2 s2 e s' I2 hq
  | .ok (.ret u), hq => exact I2.after hq
  | .ok .next, hq => exact hq.elim
  | .ok .brk, hq => exact hq.elim
  | .ok .cont, hq => exact hq.elim
end L2
namespace PySem.OwnS
open PySem PySem.W PySem.Calls PyProof.Rows
section
variable {prog : Program} {w : World} {A : Around} {E : Value → Shared → Prop} {s : Shared} {K : Frag} {x C f : Addr} {ox : Obj} {od : Option Obj} {b : Value} {T : String}
/-- an own operator with a value of a built-in type at the right, its type read off the heap -/
theorem binT {op : Operator} {fo ro : Option Value} {Q : Value → Shared → Prop} (X : K.In s.heap) (I : InstAt s.heap x ox C od) (hb : Looks (model prog w) s.heap (typeOf b) (.type T)) (hc : selfFirst K C = true)
    (hs : findIn K (.ref C) (PySem.dunder op.info.2) = some (some (.ref f))) (hf : isFn K (.ref f) = true) (hr : findIn K (.ref C) (dunderR op.info.2) = some none)
    (h1 : findIn K (.type T) (PySem.dunder op.info.2) = some fo) (h2 : findIn K (.type T) (dunderR op.info.2) = some ro) (hsub : subIn K (.type T) (.ref C) = some false)
    (h : wpAny (model prog w) A (call (.ref f) [.ref x, b]) (PySem.W.CmpBack Q) E s) : wpAny (model prog w) A (binaryOp op (.ref x) b) Q E s := by
  obtain ⟨cd, rest, hcd, hm⟩ := ksp_first hc
  have one := ksp_try X I hs hf h
  rcases hi : op.info with ⟨sym, nm⟩
  rw [hi] at hs hr h1 h2 one
  dsimp only at hs hr h1 h2 one
  obtain ⟨hh, g, d, tt, os⟩ := s
  have A1 : Looks (model prog w) hh (typeOf (.ref x)) (.ref C) := I.type
  have A2 : Looks (model prog w) hh (typeOf b) (.type T) := hb
  have A3 : Looks (model prog w) hh (fillsNumberSlot (.ref C) nm) true := fills_K X hcd hm hs
  have A4 := ksp_fillsT (M := model prog w) X h1 h2
  have A5 : Looks (model prog w) hh (isSubtype (.type T) (.ref C)) false := looks_subIn X hsub
  have A6 : Looks (model prog w) hh (numberSlotInPython (.ref C) nm) true := ksp_inPy X hs hr (.inl rfl)
  have A7 : Looks (model prog w) hh (numberSlotInPython (.type T) nm) false := Looks.of_pure rfl
  have A8 : Looks (model prog w) hh (typeLookup (.type T) (dunderR nm)) ro := looks_findIn X h2
  generalize ((fo.isSome && !isSeqSlot fo) || (ro.isSome && !isSeqSlot ro)) = right at A4
  have hne : (Value.ref C == Value.type T) = false := Bool.eq_false_iff.mpr fun q => by cases beq_iff_eq.mp q
  simp only [binaryOp, hi]
  refine wpAny_holding (wpAny_bind ?_)
  unfold binaryOp1
  refine wpAny_bind (A1.at (wpAny_bind (A2.at (wpAny_bind (A3.at ?_)))))
  simp only [hne, Bool.false_eq_true, if_false]
  cases right <;>
    (ksp_lk
     refine wpAny_mono one (fun r s' z => ?_) fun _ _ e => e
     obtain ⟨v, rfl, hq⟩ := z
     ksp_lk
     exact hq)
end
end PySem.OwnS
namespace L2
open PySem PySem.Spec PyProof.Rows
def rOwnAny (X : Cx) (C : Addr) (nm : String) (sp : Sp) (E : XK) : R2 := fun x y H Q => ∃ a tb, x = .ref a ∧ InsAt H a C ∧ TyAt X H y tb ∧ (tb = .ref C ∨ ∃ T, tb = .type T ∧ RightT X.K C nm T) ∧ sp [x, y] H Q E
theorem op_ownAny {X : Cx} {CX : CXT} {n : Nat} {C f : Addr} {fd : FuncData} {ps : List Str} {sp : Sp} {E : XK} {op : Operator} (M : OwnM X.K C (PySem.dunder op.info.2) f) (hc : PySem.W.selfFirst X.K C = true) (hR : PySem.W.findIn X.K (.ref C) (dunderR op.info.2) = some none)
    (F : FnOk X.prog X.w X.K X.mg X.base CX n f fd ps sp) (hr : Room n X.A) (hb : Binds X.K fd ps []) (hx : Passes CX X E) : OpR X (binaryOp op) (rOwnAny X C op.info.2 sp E) := by
  intro pins s σ H x y v u Q I rx ry h
  obtain ⟨a, tb, rfl, ha, ht, ht2, q⟩ := h
  obtain rfl : v = .ref a := rx
  obtain ⟨ox, od, J⟩ := ha.inst I
  have L := ht pins s σ u I ry
  have go : wpAny (model X.prog X.w) X.A (call (.ref f) [.ref a, u]) (PySem.W.CmpBack (EP X pins σ Q)) X.xe s := by
    refine wpAny_mono (own_run (vs := [.ref a, y]) F ⟨hr, rfl⟩ hb hx I (.cons rfl (.cons ry .nil)) q) (fun r s' z => ?_) fun _ _ z => z
    obtain ⟨z, H', I', rz, qz⟩ := id z
    exact SlX.cmpback rz ⟨z, H', I', rz, qz⟩
  rcases ht2 with rfl | ⟨T, rfl, R⟩
  · obtain ⟨m, hF⟩ := I.fr
    exact PySem.W.binop_K hF I.ok.mod.kin J L hc M.at_ M.fn go
  · obtain ⟨fo, h1⟩ := R.fo
    obtain ⟨ro, h2⟩ := R.ro
    exact PySem.OwnS.binT I.kIn J L hc M.at_ M.fn hR h1 h2 R.no go
end L2
namespace RatM
/-! ### ratios in lowest terms -/
def lowD (t b : Int) : Int := if 0 < b then (Int.gcd t b : Int) else -(Int.gcd t b : Int)
def lowT (t b : Int) : Int := t.fdiv (lowD t b)
def lowB (t b : Int) : Int := b.fdiv (lowD t b)
theorem gcd_pos {t b : Int} (hb : b ≠ 0) : 0 < (Int.gcd t b : Int) := by
  have h : 0 < Int.gcd t b := Nat.pos_of_ne_zero fun z => hb (Int.eq_zero_of_gcd_eq_zero_right z)
  omega
theorem lowD_ne {t b : Int} (hb : b ≠ 0) : lowD t b ≠ 0 := by
  have h := gcd_pos (t := t) hb
  unfold lowD
  split <;> omega
theorem lowD_dvd_t (t b : Int) : lowD t b ∣ t := by
  unfold lowD
  split
  · exact Int.gcd_dvd_left ..
  · exact Int.neg_dvd.mpr (Int.gcd_dvd_left ..)
theorem lowD_dvd_b (t b : Int) : lowD t b ∣ b := by
  unfold lowD
  split
  · exact Int.gcd_dvd_right ..
  · exact Int.neg_dvd.mpr (Int.gcd_dvd_right ..)
theorem lowT_mul {t b : Int} (hb : b ≠ 0) : lowD t b * lowT t b = t := by
  obtain ⟨k, hk⟩ := lowD_dvd_t t b
  have e : lowT t b = k := by
    unfold lowT
    conv => lhs; arg 1; rw [hk]
    exact Int.mul_fdiv_cancel_left k (lowD_ne hb)
  rw [e]
  exact hk.symm
theorem lowB_mul {t b : Int} (hb : b ≠ 0) : lowD t b * lowB t b = b := by
  obtain ⟨k, hk⟩ := lowD_dvd_b t b
  have e : lowB t b = k := by
    unfold lowB
    conv => lhs; arg 1; rw [hk]
    exact Int.mul_fdiv_cancel_left k (lowD_ne hb)
  rw [e]
  exact hk.symm
theorem lowB_pos {t b : Int} (hb : b ≠ 0) : 0 < lowB t b := by
  have m := lowB_mul (t := t) hb
  have g := gcd_pos (t := t) hb
  by_cases c : 0 < b
  · have d : 0 < lowD t b := by unfold lowD; rw [if_pos c]; exact g
    exact Int.pos_of_mul_pos_right (by rw [m]; exact c) d
  · have d : lowD t b < 0 := by unfold lowD; rw [if_neg c]; omega
    have e : (-lowD t b) * lowB t b = -b := by rw [Int.neg_mul, m]
    exact Int.pos_of_mul_pos_right (by rw [e]; omega) (by omega : 0 < -lowD t b)
theorem lowD_abs {t b : Int} : (lowD t b).natAbs = Int.gcd t b := by
  unfold lowD
  split <;> simp
theorem low_gcd {t b : Int} (hb : b ≠ 0) : Int.gcd (lowT t b) (lowB t b) = 1 := by
  have h : Int.gcd (lowD t b * lowT t b) (lowD t b * lowB t b) = (lowD t b).natAbs * Int.gcd (lowT t b) (lowB t b) := Int.gcd_mul_left ..
  rw [lowT_mul hb, lowB_mul hb, lowD_abs] at h
  have g := gcd_pos (t := t) hb
  have g2 : 0 < Int.gcd t b := by omega
  exact Nat.eq_of_mul_eq_mul_left g2 (by rw [Nat.mul_one]; exact h.symm)
theorem lowT_le {t b : Int} (hb : b ≠ 0) : (lowT t b).natAbs ≤ t.natAbs := by
  have m := congrArg Int.natAbs (lowT_mul (t := t) hb)
  rw [Int.natAbs_mul] at m
  have d : 0 < (lowD t b).natAbs := Int.natAbs_pos.mpr (lowD_ne hb)
  rw [← m]
  exact Nat.le_mul_of_pos_left _ d
theorem lowB_le {t b : Int} (hb : b ≠ 0) : (lowB t b).natAbs ≤ b.natAbs := by
  have m := congrArg Int.natAbs (lowB_mul (t := t) hb)
  rw [Int.natAbs_mul] at m
  have d : 0 < (lowD t b).natAbs := Int.natAbs_pos.mpr (lowD_ne hb)
  rw [← m]
  exact Nat.le_mul_of_pos_left _ d
theorem cop_dvd {p q r : Int} (g : Int.gcd p q = 1) (h : q ∣ p * r) : q ∣ r := by
  have h2 : q.natAbs ∣ p.natAbs * r.natAbs := by
    rw [← Int.natAbs_mul]
    exact Int.natAbs_dvd_natAbs.mpr h
  have c : Nat.Coprime q.natAbs p.natAbs := by
    unfold Nat.Coprime
    rw [Nat.gcd_comm]
    exact g
  exact Int.natAbs_dvd_natAbs.mp (Nat.Coprime.dvd_of_dvd_mul_left c h2)
/-- one ratio has one pair -/
theorem low_one {p q p' q' : Int} (hq : 0 < q) (hq' : 0 < q') (g : Int.gcd p q = 1) (g' : Int.gcd p' q' = 1) (e : p * q' = p' * q) : p = p' ∧ q = q' := by
  have d1 : q ∣ q' := by
    have z : q ∣ p * q' := ⟨p', by rw [e, Int.mul_comm]⟩
    exact cop_dvd g z
  have d2 : q' ∣ q := by
    have z : q' ∣ p' * q := ⟨p, by rw [← e, Int.mul_comm]⟩
    exact cop_dvd g' z
  have eq : q = q' := Int.dvd_antisymm (by omega) (by omega) d1 d2
  subst eq
  exact ⟨Int.eq_of_mul_eq_mul_right (by omega) e, rfl⟩
theorem low_self {p q : Int} (hq : 0 < q) (g : Int.gcd p q = 1) : lowT p q = p ∧ lowB p q = q := by
  have e : lowD p q = 1 := by unfold lowD; rw [if_pos hq, g]; rfl
  unfold lowT lowB
  rw [e]
  exact ⟨Int.fdiv_one p, Int.fdiv_one q⟩
/-- what stands in the same proportion has the same pair -/
theorem low_eq {t b t' b' : Int} (hb : b ≠ 0) (hb' : b' ≠ 0) (e : t * b' = t' * b) : lowT t b = lowT t' b' ∧ lowB t b = lowB t' b' := by
  refine low_one (lowB_pos hb) (lowB_pos hb') (low_gcd hb) (low_gcd hb') ?_
  have h1 := lowT_mul (t := t) hb
  have h2 := lowB_mul (t := t) hb
  have h3 := lowT_mul (t := t') hb'
  have h4 := lowB_mul (t := t') hb'
  have d1 := lowD_ne (t := t) hb
  have d2 := lowD_ne (t := t') hb'
  refine Int.eq_of_mul_eq_mul_left (Int.mul_ne_zero d1 d2) ?_
  have e1 : lowD t b * lowD t' b' * (lowT t b * lowB t' b') = (lowD t b * lowT t b) * (lowD t' b' * lowB t' b') := by ac_rfl
  have e2 : lowD t b * lowD t' b' * (lowT t' b' * lowB t b) = (lowD t' b' * lowT t' b') * (lowD t b * lowB t b) := by ac_rfl
  rw [e1, e2, h1, h2, h3, h4]
  exact e
end RatM
namespace L2
open PySem PySem.Spec PyProof.Rows
/-! ### an own error that is raised: its __init__ keeps its parameters ks -/
def spErrN (K : PySem.W.Frag) (ks : List Str) : Sp := fun vs H Q _ => ∃ (e C : Addr) (ws : List V), vs = .ref e :: ws ∧ ws.length = ks.length ∧ OexC K C ∧ (∀ f ∈ ks, PySem.W.findIn K (.ref C) f = some none) ∧
  H e = some (exo e C none) ∧ ∀ H' d, (∀ b o, b ≠ e → H b = some o → H' b = some o) → H d = none → d ≠ e → H' e = some (exo e C (some d)) → H' d = some (exd d (ks.zip ws).reverse) → Q .non H'
/-- what the written part tells of it, and of its __init__ -/
structure ErrN (P : Program) (w : World) (K : PySem.W.Frag) (mg : Str → Option Value) (base : Heap) (x : Str) (C : Addr) (ks : List Str) : Prop where
  ex : ∃ (fI : Addr) (fd : FuncData), PySem.W.findIn K (.ref C) "__init__" = some (some (.ref fI)) ∧ PySem.W.typeIn K (.ref fI) = some (.type "function") ∧ FnOk P w K mg base CX0 1 fI fd ("self" :: ks) (spErrN K ks) ∧ Binds K fd ("self" :: ks) []
  ox : OexC K C
  no : ∀ f ∈ ks, PySem.W.findIn K (.ref C) f = some none
  g : mg x = some (.ref C)
/-- that it is raised is what is wanted: E, with its dict d that is new -/
def Rz (H : Hp) (E : XK) (C : Addr) (fs : List (Str × V)) : Prop := ∀ d H', Same H H' → H d = none → H' d = some (.xd fs) → E (.ref C) (some d) H'
/-- what is asked behind the arguments -/
def RaiseN (K : PySem.W.Frag) (C : Addr) (ks : List Str) (vs : List V) (H1 : Hp) (Q : XK) : Prop := vs.length ≤ 1000 ∧ ∀ a, H1 a = none → spErrN K ks (.ref a :: (vs ++ [])) (upd H1 a (exo a C none))
  (fun v H2 => v = .non ∧ ∃ (d : Addr) (fs : List (Str × V)), H2 a = some (exo a C (some d)) ∧ H2 d = some (exd d fs) ∧ H1 d = none ∧ Q (.ref C) (some d) (upd (del H2 a) d (.xd fs))) (fun _ _ _ => False)
def tRaiseN (K : PySem.W.Frag) (C : Addr) (ks : List Str) (W : WX) (ta : TA) : TS := fun _ σ H => ta σ H fun vs H1 => RaiseN K C ks vs H1 fun c d H' => W c d σ H'
theorem raiseN {P : Program} {w : World} {K : PySem.W.Frag} {mg : Str → Option Value} {base : Heap} {x : Str} {C : Addr} {ks : List Str} (M : ErrN P w K mg base x C ks) {vs : List V} {H1 : Hp} {Q : XK} (hl : vs.length = ks.length) (hk : ks.length ≤ 100)
    (h : Rz H1 Q C (ks.zip vs).reverse) : RaiseN K C ks vs H1 Q := by
  refine ⟨by omega, fun a na => ⟨a, C, vs, by rw [List.append_nil], hl, M.ox, M.no, upd_same, fun H2 d kp nd ne h1 h2 => ⟨rfl, d, _, h1, h2, ?_, h d _ ?_ ?_ upd_same⟩⟩⟩
  · rw [upd_ne ne] at nd
    exact nd
  · intro b o z
    rw [upd_ne ne] at nd
    have hb : b ≠ a := ne_of_none z na
    rw [upd_ne (ne_of_none z nd), del_ne hb]
    exact kp b o hb (by rw [upd_ne hb]; exact z)
  · rw [upd_ne ne] at nd
    exact nd
section
variable {X : Cx} {C : Addr} {ks : List Str} {x : Str} {p pos pos2 : Pos} {e : Expr} {es : List Expr} {ta : TA} {W : WX}
theorem ps_raiseN (hc : X.calm = true) (M : ErrN X.prog X.w X.K X.mg X.base x C ks) (hr : Room 2 X.A) (tk : Takes X W) (hg : Gl X x) (ha : PA X (e :: es) ta)
    (hdb : (x == ("__debug__" : Str)) = false := by decide) (he : starEach (e :: es) X.env = (false, eval e X.env) :: starEach es X.env := by rfl) (hpl : (backTo pos (starEach es X.env)).any (·.1) = false := by rfl) :
    PS X (.Raise (some (.Call (.Name x p) (e :: es) [] pos)) none pos2) (tRaiseN X.K C ks W ta) := by
  obtain ⟨fI, fd, iC, tI, F, b⟩ := M.ex
  exact ps_raise (pos := pos2) hc tk (pmk_oex (p := p) (e := e) (dvs := []) M.ox iC tI F hr b .nil pass0 hg M.g ha hdb he hpl)
end
end L2
namespace L2
open PySem PySem.Spec PyProof.Rows
/-- a truth less a truth -/
theorem op_subBl {X : Cx} : OpR X (binaryOp .Sub) fun x y H Q => ∃ p q, x = .bl p ∧ y = .bl q ∧ Q (.int (b2i p - b2i q)) H := by
  intro pins s σ H x y v u Q I rx ry h
  obtain ⟨p, q, rfl, rfl, z⟩ := h
  obtain rfl : v = .bool p := rx
  obtain rfl : u = .bool q := ry
  exact sub_bool ⟨.int (b2i p - b2i q), H, I.tok _, ⟨_, rfl⟩, z⟩
/-- // by any divisor other than 0 that is not monstrous -/
def CDivZ (_ j : Int) : Prop := j ≠ 0 ∧ j.natAbs.log2 < 9000
theorem op_fdivZ {X : Cx} : OpR X (binaryOp .FloorDiv) (rI CDivZ fun i j => .int (i.fdiv j)) := opI fun _ _ _ _ _ _ _ hc q => floordiv_int hc.1 q (.inl (PyProof.noPylong_of_log2 hc.2))
/-! ### what isinstance tells of a value -/
/-- whether a value is an integer that is no truth -/
def IntIs (K : PySem.W.Frag) (H : Hp) (x : V) (b : Bool) : Prop := ∃ t b1 b2, TyX K H x t ∧ PySem.W.kitOne K t (.type "int") = some b1 ∧ PySem.W.kitOne K t (.type "bool") = some b2 ∧ b = (b1 && !b2)
theorem intIs_int {K : PySem.W.Frag} {H : Hp} (i : Int) : IntIs K H (.int i) true := ⟨.type "int", true, false, .base (.int _), kit_ty (by decide +kernel), kit_ty (by decide +kernel), rfl⟩
theorem intIs_bl {K : PySem.W.Frag} {H : Hp} (b : Bool) : IntIs K H (.bl b) false := ⟨.type "bool", true, true, .base (.bl _), kit_ty (by decide +kernel), kit_ty (by decide +kernel), rfl⟩
theorem intIs_non {K : PySem.W.Frag} {H : Hp} : IntIs K H .non false := ⟨.type "NoneType", false, false, .base .non, kit_ty (by decide +kernel), kit_ty (by decide +kernel), rfl⟩
theorem intIs_str {K : PySem.W.Frag} {H : Hp} (x : Str) : IntIs K H (.str x) false := ⟨.type "str", false, false, .base (.str _), kit_ty (by decide +kernel), kit_ty (by decide +kernel), rfl⟩
end L2
namespace K01
open PySem PySem.Spec PyProof.Rows L2
def top (i : Nat) : Stmt := PySem.Challenge.pw_scaleborn_k01_ratios_and_names.main.body.getD i (.Pass ⟨0, 0, 0, 0⟩)
abbrev FnP (K : PySem.W.Frag) (x : Str) (st : Stmt) (f : Addr) (fd : FuncData) : Prop := FunD K x x (defArgs st) (defBody st) (defScope st) [] [] f fd
abbrev MtP (K : PySem.W.Frag) (m q : Str) (st : Stmt) (f : Addr) (fd : FuncData) : Prop := FunD K m q (defArgs st) (defBody st) (defScope st) [] [] f fd
abbrev iBadRatio : Stmt := inClass (top 4) 0
abbrev iBadText : Stmt := inClass (top 5) 0
section
variable {P : Program} {w : World} {K : PySem.W.Frag} {mg : Str → Option Value} {base : Heap}
theorem mk_BadRatio {C fI : Addr} {fd : FuncData} (F : MtP K "__init__" "BadRatio.__init__" iBadRatio fI fd) (ox : OexC K C) (iC : PySem.W.findIn K (.ref C) "__init__" = some (some (.ref fI))) (tI : PySem.W.typeIn K (.ref fI) = some (.type "function"))
    (no : ∀ f ∈ ([("part" : Str)] : List Str), PySem.W.findIn K (.ref C) f = some none) (g : mg "BadRatio" = some (.ref C)) : ErrN P w K mg base "BadRatio" C ["part"] := by
  have S : FnScope ["self", "part"] ["self", "part"] (defScope iBadRatio) := ⟨rfl, rfl, rfl, by decide +kernel, rfl, by decide +kernel, by decide +kernel⟩
  refine ⟨⟨fI, fd, iC, tI, ?_, F.bindsN (fun _ _ _ _ _ _ us hl => match us, hl with | [_, _], _ => rfl)⟩, ox, no, g⟩
  refine F.ok S (fun vs H Q E h => ?_) (fun cdv A outer s H vs Q E hr h => ?_)
  · obtain ⟨e, C, ws, rfl, hn, _⟩ := h
    rw [List.length_cons, hn]
    rfl
  · obtain ⟨e, C, ws, rfl, hn, T, no, he, k⟩ := h
    match ws, hn with
    | [v0], _ =>
      refine ⟨_, PSs.nox (pss_one (ps_ost (pv 0) (pv 1))), ?_⟩
      refine ⟨_, rfl, _, rfl, e, C, rfl, T, no _ (by simp), .inl ⟨he, fun dx nd ne => ?_⟩⟩
      exact k _ dx (fun b o hb z => by rw [upd_ne hb, upd_ne (ne_of_none z nd)]; exact z) nd ne upd_same (by rw [upd_ne ne]; exact upd_same)
theorem mk_BadText {C fI : Addr} {fd : FuncData} (F : MtP K "__init__" "BadText.__init__" iBadText fI fd) (ox : OexC K C) (iC : PySem.W.findIn K (.ref C) "__init__" = some (some (.ref fI))) (tI : PySem.W.typeIn K (.ref fI) = some (.type "function"))
    (no : ∀ f ∈ ([("line" : Str), ("word" : Str)] : List Str), PySem.W.findIn K (.ref C) f = some none) (g : mg "BadText" = some (.ref C)) : ErrN P w K mg base "BadText" C ["line", "word"] := by
  have S : FnScope ["self", "line", "word"] ["self", "line", "word"] (defScope iBadText) := ⟨rfl, rfl, rfl, by decide +kernel, rfl, by decide +kernel, by decide +kernel⟩
  refine ⟨⟨fI, fd, iC, tI, ?_, F.bindsN (fun _ _ _ _ _ _ us hl => match us, hl with | [_, _, _], _ => rfl)⟩, ox, no, g⟩
  refine F.ok S (fun vs H Q E h => ?_) (fun cdv A outer s H vs Q E hr h => ?_)
  · obtain ⟨e, C, ws, rfl, hn, _⟩ := h
    rw [List.length_cons, hn]
    rfl
  · obtain ⟨e, C, ws, rfl, hn, T, no, he, k⟩ := h
    match ws, hn with
    | [v0, v1], _ =>
      refine ⟨_, PSs.nox (pss_cons (ps_ost (pv 0) (pv 1)) (pss_one (ps_ost (pv 0) (pv 2)))), ?_⟩
      refine ⟨_, rfl, _, rfl, e, C, rfl, T, no _ (by simp), .inl ⟨he, fun dx nd ne => ?_⟩⟩
      refine ⟨_, rfl, _, rfl, e, C, rfl, T, no _ (by simp), .inr ⟨dx, _, upd_same, by rw [upd_ne ne]; exact upd_same, by show 1 ≤ 900; decide, ?_⟩⟩
      refine k _ dx (fun b o hb z => ?_) nd ne (by rw [upd_ne ne.symm]; exact upd_same) upd_same
      rw [upd_ne (ne_of_none z nd), upd_ne hb, upd_ne (ne_of_none z nd)]
      exact z
/-! ### checks -/
def spIsI (K : PySem.W.Frag) : Sp := fun vs H Q _ => ∃ x b, vs = [x] ∧ IntIs K H x b ∧ Q (.bl b) H
theorem scI : FnScope ["value"] ["value"] (defScope (top 10)) := ⟨rfl, rfl, rfl, by decide +kernel, rfl, by decide +kernel, by decide +kernel⟩
theorem ok_isInt {f : Addr} {fd : FuncData} (F : FnP K "is_integer" (top 10) f fd) (bi : mg "isinstance" = none) (bI : mg "int" = none) (bB : mg "bool" = none) : FnOk P w K mg base CX0 1 f fd ["value"] (spIsI K) := by
  refine F.ok scI (fun vs H Q E h => ?_) (fun cdv A outer s H vs Q E hr h => ?_)
  · obtain ⟨x, b, rfl, _⟩ := h
    rfl
  · obtain ⟨x, b, rfl, ⟨t, b1, b2, ty, k1, k2, rfl⟩, q⟩ := h
    refine ⟨_, PSs.nox (pss_one (ps_ret (pe_and (pe_callB call_isi (by rfl) bi (by decide +kernel) (pa_cons (pv 0) (pa_cons (pe_bltn (v := .ty "int") (by rfl) bI (by decide +kernel) rfl) pa_nil)))
      (pe_one (pe_not (pe_callB call_isi (by rfl) bi (by decide +kernel) (pa_cons (pv 0) (pa_cons (pe_bltn (v := .ty "bool") (by rfl) bB (by decide +kernel) rfl) pa_nil)))))))), ?_⟩
    refine ⟨_, rfl, _, _, _, _, _, rfl, .ty "int", ty, k1, _, rfl, ?_⟩
    cases b1 with
    | false => exact iteF q
    | true => exact iteT ⟨_, rfl, _, _, _, _, _, rfl, .ty "bool", ty, k2, _, rfl, q⟩
end
end K01
namespace K01
open PySem PySem.Spec PyProof.Rows L2 RatM
abbrev ratM (i : Nat) : Stmt := inClass (top 21) i
/-- what the written part tells of the class of ratios -/
structure RatC (K : PySem.W.Frag) (C : Addr) : Prop where
  cls : Cls K C
  no : ∀ f ∈ ([("top" : Str), ("bottom" : Str), ("sign" : Str), ("is_whole" : Str), ("below" : Str)] : List Str), NoAttr K C f
/-- the fields of a ratio -/
def ratF (p q : Int) : List (Str × V) := putF "below" (.int (p.fdiv q)) (putF "is_whole" (.bl (decide (V.int q = V.int 1))) (putF "sign" (.int (b2i (decide (0 < p)) - b2i (decide (p < 0)))) (putF "bottom" (.int q) (putF "top" (.int p) []))))
def spRI (K : PySem.W.Frag) (C BR : Addr) : Sp := fun vs H Q E => ∃ (a : Addr) (x y : V), vs = [.ref a, x, y] ∧
  ((∃ (t b : Int) (dx : Addr), x = .int t ∧ y = .int b ∧ b ≠ 0 ∧ t.natAbs < 2 ^ 4000 ∧ b.natAbs < 2 ^ 4000 ∧ H a = some (.ins C dx []) ∧ ∀ H' : Hp, (∀ b, b ≠ a → H' b = H b) → H' a = some (.ins C dx (ratF (lowT t b) (lowB t b))) → Q .non H') ∨
   (IntIs K H x false ∧ Rz H E BR [("part", .str "top")]) ∨ (∃ t, x = .int t ∧ (IntIs K H y false ∨ y = .int 0) ∧ Rz H E BR [("part", .str "bottom")]))
theorem log2_of {i : Int} (h : i.natAbs < 2 ^ 4000) : i.natAbs.log2 < 9000 := Nat.lt_of_lt_of_le (PySem.Flt.log2_lt_of (by decide) h) (by decide)
section
variable {P : Program} {w : World} {K : PySem.W.Frag} {mg : Str → Option Value} {base : Heap} {C BR : Addr}
theorem scRI : FnScope ["self", "top", "bottom", "divisor"] ["self", "top", "bottom"] (defScope (ratM 0)) := ⟨rfl, rfl, rfl, by decide +kernel, rfl, by decide +kernel, by decide +kernel⟩
theorem ok_ratInit {f fI : Addr} {fd fdI : FuncData} {dvs : List V} {kws : List (Str × V)} (F : FunD K "__init__" "Ratio.__init__" (defArgs (ratM 0)) (defBody (ratM 0)) (defScope (ratM 0)) dvs kws f fd) (T : RatC K C) (M : ErrN P w K mg base "BadRatio" BR ["part"])
    (GI : FnOk P w K mg base CX0 1 fI fdI ["value"] (spIsI K)) (bI : Binds K fdI ["value"] []) (kI : PySem.W.keepIn K (.ref fI) = true) (gI : mg "is_integer" = some (.ref fI)) (gG : mg "gcd" = some (.builtin "math.gcd")) :
    FnOk P w K mg base (L2.CX P w) 3 f fd ["self", "top", "bottom"] (spRI K C BR) := by
  refine F.ok scRI (fun vs H Q E h => ?_) (fun cdv A outer s H vs Q E hr h => ?_)
  · obtain ⟨a, x, y, rfl, _⟩ := h
    rfl
  · obtain ⟨a, x, y, rfl, h⟩ := h
    have hr2 : Room 2 _ := hr
    have hr1 : Room 1 _ := hr2.mono (by decide)
    refine ⟨_, pss_cons (ps_if (pt_not (pt_val (pe_call GI hr1 rfl gI kI bI .nil pass0 (pa_cons (pv 1) pa_nil)))) (pss_one (ps_raiseN rfl M hr2 (takes_of rfl rfl rfl rfl) (by rfl) (pa_cons pe_str pa_nil))) pss_nil)
      (pss_cons (ps_if (PW.pt (pw_or (pt_not (pt_val (pe_call GI hr1 rfl gI kI bI .nil pass0 (pa_cons (pv 2) pa_nil)))) (pw_or1 (pt_cmpR op_eq (pv 2) pe_int (nomark _))))) (pss_one (ps_raiseN rfl M hr2 (takes_of rfl rfl rfl rfl) (by rfl) (pa_cons pe_str pa_nil))) pss_nil)
      (pss_cons (ps_set (i := 3) scRI.nd rfl (.inl rfl) (pe_ifExp (pt_cmpR op_gt (pv 2) pe_int (nomark _)) (pe_callBfun cr_gcd (by rfl) gG (pa_cons (pv 1) (pa_cons (pv 2) pa_nil))) (pe_un un_neg (pe_callBfun cr_gcd (by rfl) gG (pa_cons (pv 1) (pa_cons (pv 2) pa_nil))))))
      (pss_cons (ps_fld (pv 0) (pe_op op_fdivZ (pv 1) (pv 3)) (by rfl))
      (pss_cons (ps_fld (pv 0) (pe_op op_fdivZ (pv 2) (pv 3)) (by rfl))
      (pss_cons (ps_fld (pv 0) (pe_op op_subBl (pe_cmpR op_gt (pe_fld (pv 0) rfl) pe_int (nomark _)) (pe_cmpR op_lt (pe_fld (pv 0) rfl) pe_int (nomark _))) (by rfl))
      (pss_cons (ps_fld (pv 0) (pe_cmpR op_eq (pe_fld (pv 0) rfl) pe_int (nomark _)) (by rfl))
      (pss_one (ps_fld (pv 0) (pe_op op_fdivZ (pe_fld (pv 0) rfl) (pe_fld (pv 0) rfl)) (by rfl))))))))), ?_⟩
    rcases h with ⟨t, b, dx, rfl, rfl, hb, ht, hbb, ha, k⟩ | ⟨hx, rz⟩ | ⟨t, rfl, hy, rz⟩
    · refine ⟨_, rfl, _, _, rfl, intIs_int t, true, rfl, iteF ?_⟩
      refine ⟨_, rfl, _, _, rfl, intIs_int b, true, rfl, iteF ⟨_, rfl, rfl, false, congrArg V.bl (decide_eq_false fun z => hb (V.int.inj z)), iteF ?_⟩⟩
      have dn := lowD_ne (t := t) hb
      have dz : (lowD t b).natAbs.log2 < 9000 := by
        refine log2_of ?_
        rw [lowD_abs]
        exact Nat.lt_of_le_of_lt (Nat.gcd_le_right _ (Int.natAbs_pos.mpr hb)) hbb
      refine ⟨_, rfl, _, _, rfl, rfl, _, rfl, ite2 (fun c => ?_) (fun c => ?_)⟩
      case' refine_1 =>
        have eX : ((Nat.gcd t.natAbs b.natAbs : Nat) : Int) = lowD t b := (if_pos (of_decide_eq_true c)).symm
        refine ⟨_, rfl, _, rfl, _, _, rfl, ?_⟩
        rw [eX]
      case' refine_2 =>
        have eX : -((Nat.gcd t.natAbs b.natAbs : Nat) : Int) = lowD t b := (if_neg fun z => c (decide_eq_true z)).symm
        refine ⟨_, rfl, _, rfl, _, _, rfl, _, rfl, ?_⟩
        dsimp only
        rw [eX]
      all_goals
        have nt := T.no "top" (by simp)
        have nb := T.no "bottom" (by simp)
        have ns := T.no "sign" (by simp)
        have ni := T.no "is_whole" (by simp)
        have nl := T.no "below" (by simp)
        have qp := lowB_pos (t := t) hb
        have qz : (lowB t b).natAbs < 2 ^ 4000 := Nat.lt_of_le_of_lt (lowB_le hb) hbb
        refine ⟨_, rfl, _, rfl, _, _, rfl, rfl, ⟨dn, dz⟩, _, rfl, a, C, dx, _, rfl, ha, T.cls, nt, by show 0 < 1000; decide, ?_⟩
        refine ⟨_, rfl, _, rfl, _, _, rfl, rfl, ⟨dn, dz⟩, _, rfl, a, C, dx, _, rfl, upd_same, T.cls, nb, by show 1 < 1000; decide, ?_⟩
        refine ⟨_, rfl, a, C, dx, _, _, rfl, upd_same, T.cls, nt, rfl, _, _, rfl, rfl, ?_⟩
        refine ⟨_, rfl, a, C, dx, _, _, rfl, upd_same, T.cls, nt, rfl, _, _, rfl, rfl, _, _, rfl, rfl, ?_⟩
        refine ⟨_, rfl, a, C, dx, _, rfl, upd_same, T.cls, ns, by show 2 < 1000; decide, ?_⟩
        refine ⟨_, rfl, a, C, dx, _, _, rfl, upd_same, T.cls, nb, rfl, rfl, ?_⟩
        refine ⟨_, rfl, a, C, dx, _, rfl, upd_same, T.cls, ni, by show 3 < 1000; decide, ?_⟩
        refine ⟨_, rfl, a, C, dx, _, _, rfl, upd_same, T.cls, nt, rfl, _, rfl, a, C, dx, _, _, rfl, upd_same, T.cls, nb, rfl, _, _, rfl, rfl, ⟨Int.ne_of_gt qp, log2_of qz⟩, ?_⟩
        refine ⟨_, rfl, a, C, dx, _, rfl, upd_same, T.cls, nl, by show 4 < 1000; decide, ?_⟩
        refine k _ (fun b hb => ?_) upd_same
        rw [upd_ne hb, upd_ne hb, upd_ne hb, upd_ne hb, upd_ne hb]
    · refine ⟨_, rfl, _, _, rfl, hx, false, rfl, iteT ?_⟩
      exact raiseN M rfl (by decide) rz
    · refine ⟨_, rfl, _, _, rfl, intIs_int t, true, rfl, iteF ?_⟩
      rcases hy with hy | rfl
      · refine ⟨_, rfl, _, _, rfl, hy, false, rfl, iteT ?_⟩
        exact raiseN M rfl (by decide) rz
      · refine ⟨_, rfl, _, _, rfl, intIs_int 0, true, rfl, iteF ⟨_, rfl, rfl, true, congrArg V.bl (decide_eq_true rfl), iteT ?_⟩⟩
        exact raiseN M rfl (by decide) rz
end
end K01
namespace K01
open PySem PySem.Spec PyProof.Rows L2 RatM
/-- a ratio p / q stands at a -/
def RatAt (H : Hp) (a C : Addr) (p q : Int) : Prop := ∃ dx, H a = some (.ins C dx (ratF p q))
theorem RatAt.same {H H' : Hp} {a C : Addr} {p q : Int} (h : RatAt H a C p q) (s : Same H H') : RatAt H' a C p q := let ⟨dx, e⟩ := h; ⟨dx, s _ _ e⟩
theorem RatAt.ins {H : Hp} {a C : Addr} {p q : Int} (h : RatAt H a C p q) : InsAt H a C := let ⟨dx, e⟩ := h; ⟨dx, _, e⟩
theorem Rz.same {H H' : Hp} {E : XK} {C : Addr} {fs : List (Str × V)} (h : Rz H E C fs) (s : Same H H') : Rz H' E C fs := fun d H2 s2 nd hd => h d H2 (s.trans s2) (s.free nd) hd
/-- what isinstance asks of the class -/
structure RatI (K : PySem.W.Frag) (C : Addr) : Prop where
  ca : PySem.W.findIn K (.ref C) "__class__" = some (some (.builtin "object.__class__"))
  cn : PySem.W.specialIn K (.builtin "object.__class__") "__get__" = some (some (.builtin "getset_descriptor.__get__"))
  ct : PySem.W.takesIn K (.builtin "object.__class__") = some true
  cm : PySem.W.mroIn K C (.type "object") = some true
  cc : PySem.W.kitOne K (.ref C) (.ref C) = some true
  ci : PySem.W.kitOne K (.ref C) (.type "int") = some false
  cb : PySem.W.kitOne K (.ref C) (.type "bool") = some false
  ic : PySem.W.kitOne K (.type "int") (.ref C) = some false
/-- neither a ratio nor an integer -/
def NotNum (K : PySem.W.Frag) (H : Hp) (C : Addr) (x : V) : Prop := (∃ t, TyX K H x t ∧ PySem.W.kitOne K t (.ref C) = some false) ∧ IntIs K H x false
/-- all that the functions of ratios rest on -/
structure RatK (P : Program) (w : World) (K : PySem.W.Frag) (mg : Str → Option Value) (base : Heap) (C BR : Addr) : Prop where
  T : RatC K C
  I : RatI K C
  M : ErrN P w K mg base "BadRatio" BR ["part"]
  g : mg "Ratio" = some (.ref C)
  bi : mg "isinstance" = none
  int : ∃ (f : Addr) (fd : FuncData), FnOk P w K mg base CX0 1 f fd ["value"] (spIsI K) ∧ Binds K fd ["value"] [] ∧ PySem.W.keepIn K (.ref f) = true ∧ mg "is_integer" = some (.ref f)
  make : ∃ (f : Addr) (fd : FuncData) (ds : List Value), Mk K C f ∧ FnOk P w K mg base (L2.CX P w) 3 f fd ["self", "top", "bottom"] (spRI K C BR) ∧ Binds K fd ["self", "top", "bottom"] [] ∧ Binds K fd ["self", "top", "bottom"] ds ∧ Vals [.int 1] ds
section
variable {K : PySem.W.Frag} {C BR : Addr} {H : Hp}
theorem RatAt.ty {a : Addr} {p q : Int} (h : RatAt H a C p q) (T : RatC K C) (I : RatI K C) : TyX K H (.ref a) (.ref C) := let ⟨_, e⟩ := h; .base (.ins e T.cls I.ca I.cn I.ct I.cm)
theorem RatAt.notInt {a : Addr} {p q : Int} (h : RatAt H a C p q) (T : RatC K C) (I : RatI K C) : IntIs K H (.ref a) false := ⟨.ref C, false, false, h.ty T I, I.ci, I.cb, rfl⟩
/-- Ratio(x, y) -/
def MkR (K : PySem.W.Frag) (C BR : Addr) (x y : V) (H : Hp) (Q : VK) (E : XK) : Prop :=
  (∃ t b : Int, x = .int t ∧ y = .int b ∧ b ≠ 0 ∧ t.natAbs < 2 ^ 4000 ∧ b.natAbs < 2 ^ 4000 ∧ ∀ a H', Same H H' → RatAt H' a C (lowT t b) (lowB t b) → Q (.ref a) H') ∨
  (IntIs K H x false ∧ Rz H E BR [("part", .str "top")]) ∨ (∃ t, x = .int t ∧ (IntIs K H y false ∨ y = .int 0) ∧ Rz H E BR [("part", .str "bottom")])
theorem IntIs.same {H' : Hp} {x : V} {b : Bool} (h : IntIs K H x b) (s : Same H H') : IntIs K H' x b := by
  obtain ⟨t, b1, b2, ty, r⟩ := h
  refine ⟨t, b1, b2, ?_, r⟩
  cases ty with
  | base z =>
    refine .base ?_
    cases z with
    | non => exact .non
    | bl x => exact .bl x
    | int i => exact .int i
    | str x => exact .str x
    | flt x => exact .flt x
    | lst e => exact .lst (s _ _ e)
    | frz e => exact .frz (s _ _ e)
    | tup e => exact .tup (s _ _ e)
    | dK e => exact .dK (s _ _ e)
    | dT e => exact .dT (s _ _ e)
    | ins e a1 a2 a3 a4 a5 => exact .ins (s _ _ e) a1 a2 a3 a4 a5
  | byt b => exact .byt b
  | set e => exact .set (s _ _ e)
  | kList e c => exact .kList e c
  | kTuple e c => exact .kTuple e c
  | kDict e c => exact .kDict e c
  | fTuple e => exact .fTuple (s _ _ e)
  | fDict e => exact .fDict (s _ _ e)
theorem mkR_sp {x y : V} {Q : VK} {E : XK} (h : MkR K C BR x y H Q E) (a dx : Addr) (na : H a = none) (nd : H dx = none) (ne : dx ≠ a) :
    spRI K C BR [.ref a, x, y] (upd (upd H dx (.own a)) a (.ins C dx [])) (fun v H2 => v = .non ∧ Q (.ref a) H2) E := by
  have s1 : Same H (upd (upd H dx (.own a)) a (.ins C dx [])) := fun b o e => by rw [upd_ne (ne_of_none e na), upd_ne (ne_of_none e nd)]; exact e
  refine ⟨a, x, y, rfl, ?_⟩
  rcases h with ⟨t, b, rfl, rfl, hb, h1, h2, k⟩ | ⟨hx, rz⟩ | ⟨t, rfl, hy, rz⟩
  · refine .inl ⟨t, b, dx, rfl, rfl, hb, h1, h2, upd_same, fun H' off at_ => ⟨rfl, k a H' (fun b o e => ?_) ⟨dx, at_⟩⟩⟩
    rw [off b (ne_of_none e na)]
    exact s1 b o e
  · exact .inr (.inl ⟨IntIs.same hx s1, Rz.same rz s1⟩)
  · exact .inr (.inr ⟨t, rfl, hy.imp (fun z => IntIs.same z s1) id, Rz.same rz s1⟩)
end
section
variable {X : Cx} {C BR : Addr} {E : XK} {x : Str} {p pos : Pos} {e1 e2 : Expr} {ta : TA}
def tRat2 (K : PySem.W.Frag) (C BR : Addr) (E : XK) (ta : TA) : TE := fun σ H Q => ta σ H fun vs H1 => ∃ x y, vs = [x, y] ∧ MkR K C BR x y H1 Q E
def tRat1 (K : PySem.W.Frag) (C BR : Addr) (E : XK) (ta : TA) : TE := fun σ H Q => ta σ H fun vs H1 => ∃ x, vs = [x] ∧ MkR K C BR x (.int 1) H1 Q E
theorem pe_rat2 (R : RatK X.prog X.w X.K X.mg X.base C BR) (hr : Room 4 X.A) (hx : Passes (L2.CX X.prog X.w) X E) (hg : Gl X "Ratio") (ha : PA X [e1, e2] ta)
    (he : starEach [e1, e2] X.env = (false, eval e1 X.env) :: starEach [e2] X.env := by rfl) (hpl : (backTo pos (starEach [e2] X.env)).any (·.1) = false := by rfl) :
    PE X (.Call (.Name "Ratio" p) [e1, e2] [] pos) (tRat2 X.K C BR E ta) := by
  obtain ⟨f, fd, ds, M, F, b0, b1, r1⟩ := R.make
  refine ⟨fun pins s σ H Q I h => ?_⟩
  refine wpAny_Call_Name_kw (ld_glob I hg R.g ?_ (by decide))
  refine PySem.W.callWith_K (h₀ := X.base) I.ok.mod.kin M.kp (thn (ha.run pos pins s σ H _ I h) fun us s1 ⟨vs, H1, I1, r, q⟩ => ⟨I1.kIn, ?_⟩) he hpl
  obtain ⟨x, y, rfl, q⟩ := q
  exact run_make (dvs := []) M F hr b0 .nil hx I1 r fun a dx na nd ne => mkR_sp q a dx na nd ne
theorem pe_rat1 (R : RatK X.prog X.w X.K X.mg X.base C BR) (hr : Room 4 X.A) (hx : Passes (L2.CX X.prog X.w) X E) (hg : Gl X "Ratio") (ha : PA X [e1] ta)
    (he : starEach [e1] X.env = (false, eval e1 X.env) :: starEach [] X.env := by rfl) (hpl : (backTo pos (starEach [] X.env)).any (·.1) = false := by rfl) :
    PE X (.Call (.Name "Ratio" p) [e1] [] pos) (tRat1 X.K C BR E ta) := by
  obtain ⟨f, fd, ds, M, F, b0, b1, r1⟩ := R.make
  refine ⟨fun pins s σ H Q I h => ?_⟩
  refine wpAny_Call_Name_kw (ld_glob I hg R.g ?_ (by decide))
  refine PySem.W.callWith_K (h₀ := X.base) I.ok.mod.kin M.kp (thn (ha.run pos pins s σ H _ I h) fun us s1 ⟨vs, H1, I1, r, q⟩ => ⟨I1.kIn, ?_⟩) he hpl
  obtain ⟨x, rfl, q⟩ := q
  exact run_make (dvs := [.int 1]) M F hr b1 r1 hx I1 r fun a dx na nd ne => mkR_sp q a dx na nd ne
end
end K01
namespace K01
open PySem PySem.Spec PyProof.Rows L2 RatM
/-- a ratio or an integer: p / q -/
def NumAt (H : Hp) (C : Addr) (x : V) (p q : Int) : Prop := (∃ a, x = .ref a ∧ RatAt H a C p q) ∨ (x = .int p ∧ q = 1 ∧ p.natAbs < 2 ^ 4000)
theorem NumAt.same {H H' : Hp} {C : Addr} {x : V} {p q : Int} (h : NumAt H C x p q) (s : Same H H') : NumAt H' C x p q := h.imp (fun ⟨a, e, r⟩ => ⟨a, e, r.same s⟩) id
/-- x as a ratio; otherwise BadRatio(part) -/
def AsR (K : PySem.W.Frag) (C BR : Addr) (x : V) (part : Str) (H : Hp) (Q : VK) (E : XK) : Prop :=
  (∃ p q : Int, NumAt H C x p q ∧ ∀ a H', Same H H' → RatAt H' a C p q → Q (.ref a) H') ∨ (NotNum K H C x ∧ Rz H E BR [("part", .str part)])
def spRO (K : PySem.W.Frag) (C BR : Addr) : Sp := fun vs H Q E => ∃ x part, vs = [x, .str part] ∧ AsR K C BR x part H Q E
section
variable {P : Program} {w : World} {K : PySem.W.Frag} {mg : Str → Option Value} {base : Heap} {C BR : Addr}
theorem scRO : FnScope ["value", "part"] ["value", "part"] (defScope (top 24)) := ⟨rfl, rfl, rfl, by decide +kernel, rfl, by decide +kernel, by decide +kernel⟩
theorem ok_ratioOf {f : Addr} {fd : FuncData} (F : FnP K "_ratio_of" (top 24) f fd) (R : RatK P w K mg base C BR) : FnOk P w K mg base (L2.CX P w) 5 f fd ["value", "part"] (spRO K C BR) := by
  obtain ⟨fI, fdI, GI, bI, kI, gI⟩ := R.int
  refine F.ok scRO (fun vs H Q E h => ?_) (fun cdv A outer s H vs Q E hr h => ?_)
  · obtain ⟨x, part, rfl, _⟩ := h
    rfl
  · obtain ⟨x, part, rfl, h⟩ := h
    have hr4 : Room 4 _ := hr
    have hr2 : Room 2 _ := hr4.mono (by decide)
    have hr1 : Room 1 _ := hr4.mono (by decide)
    refine ⟨_, pss_cons (ps_if (pt_val (pe_callB call_isi (by rfl) R.bi (by decide +kernel) (pa_cons (pv 0) (pa_cons (pe_glob (v := .ref _) rfl R.g rfl) pa_nil)))) (pss_one (ps_ret (pv 0))) pss_nil)
      (pss_cons (ps_if (pt_val (pe_call GI hr1 rfl gI kI bI .nil pass0 (pa_cons (pv 0) pa_nil))) (pss_one (ps_ret (pe_rat1 R hr4 (E := E0) passL (by rfl) (pa_cons (pv 0) pa_nil)))) pss_nil)
      (pss_one (ps_raiseN rfl R.M hr2 (takes_of rfl rfl rfl rfl) (by rfl) (pa_cons (pv 1) pa_nil)))), ?_⟩
    rcases h with ⟨p, q, ⟨a, rfl, ha⟩ | ⟨rfl, rfl, hp⟩, k⟩ | ⟨⟨⟨t, ty, kt⟩, hi⟩, rz⟩
    · refine ⟨_, rfl, _, _, _, _, _, rfl, .own C, ha.ty R.T R.I, R.I.cc, _, rfl, iteT ⟨_, rfl, k a H (Same.refl H) ha⟩⟩
    · refine ⟨_, rfl, _, _, _, _, _, rfl, .own C, .base (.int p), R.I.ic, _, rfl, iteF ?_⟩
      refine ⟨_, rfl, _, _, rfl, intIs_int p, _, rfl, iteT ?_⟩
      refine ⟨_, rfl, _, rfl, .inl ⟨p, 1, rfl, rfl, by decide, hp, by decide +kernel, fun a H' s ra => k a H' s ?_⟩⟩
      obtain ⟨e1, e2⟩ := low_self (p := p) (q := 1) (by decide) (Int.gcd_one ..)
      rw [e1, e2] at ra
      exact ra
    · refine ⟨_, rfl, _, _, _, _, _, rfl, .own C, ty, kt, _, rfl, iteF ?_⟩
      refine ⟨_, rfl, _, _, rfl, hi, _, rfl, iteF ?_⟩
      exact ⟨_, rfl, raiseN R.M rfl (by decide) rz⟩
end
end K01
namespace K01
open PySem PySem.Spec PyProof.Rows L2 RatM
/-- what a callee raises goes on through the frame -/
theorem passE {X : Cx} {E : XK} (tk : Takes X fun c d _ H => E c d H) : Passes (L2.CX X.prog X.w) X E := fun _ _ _ _ e s' I c => tk e s' (XE.of_call I (fun _ _ _ h => h) c)
abbrev Sz (p : Int) : Prop := p.natAbs < 2 ^ 1900
theorem sz_mul {p q : Int} (hp : Sz p) (hq : Sz q) : CMulW p q := wide_mul hp hq (by decide) (by decide) (by decide)
theorem sz_prod {p q : Int} (hp : Sz p) (hq : Sz q) : (p * q).natAbs < 2 ^ 3800 := wide_lt hp hq
theorem sz_big {p : Int} (h : p.natAbs < 2 ^ 3800) : p.natAbs < 2 ^ 4000 := Nat.lt_of_lt_of_le h (Nat.pow_le_pow_right (by decide) (by decide))
theorem sz_two {m : Nat} (h : m < 2 ^ 3800 + 2 ^ 3800) : m < 2 ^ 4000 := by
  have e : (2 : Nat) ^ 3800 + 2 ^ 3800 ≤ 2 ^ 4000 := by
    have z : (2 : Nat) ^ 3801 ≤ 2 ^ 4000 := Nat.pow_le_pow_right (by decide) (by decide)
    have y : (2 : Nat) ^ 3801 = 2 ^ 3800 * 2 := Nat.pow_succ ..
    omega
  omega
theorem sz_add {p q : Int} (hp : p.natAbs < 2 ^ 3800) (hq : q.natAbs < 2 ^ 3800) : (p + q).natAbs < 2 ^ 4000 := by
  have h := Int.natAbs_add_le p q
  exact sz_two (by omega)
theorem sz_sub {p q : Int} (hp : p.natAbs < 2 ^ 3800) (hq : q.natAbs < 2 ^ 3800) : (p - q).natAbs < 2 ^ 4000 := by
  have h := Int.natAbs_sub_le p q
  exact sz_two (by omega)
/-- an operator's own method: g tells the top from both pairs -/
def spArith (K : PySem.W.Frag) (C BR : Addr) (g : Int → Int → Int → Int → Int) : Sp := fun vs H Q E => ∃ (a : Addr) (y : V) (p q : Int), vs = [.ref a, y] ∧ RatAt H a C p q ∧ Sz p ∧ Sz q ∧ q ≠ 0 ∧
  ((∃ p' q' : Int, NumAt H C y p' q' ∧ Sz p' ∧ Sz q' ∧ q' ≠ 0 ∧ ∀ a' H', Same H H' → RatAt H' a' C (lowT (g p q p' q') (q * q')) (lowB (g p q p' q') (q * q')) → Q (.ref a') H') ∨ (NotNum K H C y ∧ Rz H E BR [("part", .str "other")]))
section
variable {P : Program} {w : World} {K : PySem.W.Frag} {mg : Str → Option Value} {base : Heap} {C BR : Addr}
/-- the functions that the methods call -/
structure RatF (P : Program) (w : World) (K : PySem.W.Frag) (mg : Str → Option Value) (base : Heap) (C BR : Addr) : Prop extends RatK P w K mg base C BR where
  ro : ∃ (f : Addr) (fd : FuncData), FnOk P w K mg base (L2.CX P w) 5 f fd ["value", "part"] (spRO K C BR) ∧ Binds K fd ["value", "part"] [] ∧ PySem.W.keepIn K (.ref f) = true ∧ mg "_ratio_of" = some (.ref f)
theorem scAdd : FnScope ["self", "other", "right"] ["self", "other"] (defScope (ratM 6)) := ⟨rfl, rfl, rfl, by decide +kernel, rfl, by decide +kernel, by decide +kernel⟩
theorem ok_add {f : Addr} {fd : FuncData} (F : MtP K "__add__" "Ratio.__add__" (ratM 6) f fd) (R : RatF P w K mg base C BR) : FnOk P w K mg base (L2.CX P w) 6 f fd ["self", "other"] (spArith K C BR fun p q p' q' => p * q' + p' * q) := by
  obtain ⟨fO, fdO, GO, bO, kO, gO⟩ := R.ro
  refine F.ok scAdd (fun vs H Q E h => ?_) (fun cdv A outer s H vs Q E hr h => ?_)
  · obtain ⟨a, y, p, q, rfl, _⟩ := h
    rfl
  · obtain ⟨a, y, p, q, rfl, ha, sp, sq, hq, h⟩ := h
    have hr5 : Room 5 _ := hr
    have hr4 : Room 4 _ := hr5.mono (by decide)
    have T := R.T
    have nt := T.no "top" (by simp)
    have nb := T.no "bottom" (by simp)
    refine ⟨_, pss_cons (ps_set (i := 2) scAdd.nd rfl (.inl rfl) (pe_call GO hr5 rfl gO kO bO .nil (passE (takes_of rfl rfl rfl rfl)) (pa_cons (pv 1) (pa_cons pe_str pa_nil))))
      (pss_one (ps_ret (pe_rat2 R.toRatK hr4 (E := E0) passL (by rfl) (pa_cons (pe_op op_add (pe_op op_mulW (pe_fld (pv 0) rfl) (pe_fld (pv 2) rfl)) (pe_op op_mulW (pe_fld (pv 2) rfl) (pe_fld (pv 0) rfl))) (pa_cons (pe_op op_mulW (pe_fld (pv 0) rfl) (pe_fld (pv 2) rfl)) pa_nil))))), ?_⟩
    rcases h with ⟨p', q', hn, sp', sq', hq', k⟩ | ⟨hn, rz⟩
    · refine ⟨_, rfl, _, _, rfl, .inl ⟨p', q', hn, fun b H1 s1 hb => ?_⟩⟩
      obtain ⟨dx, ea⟩ := ha.same s1
      obtain ⟨dx', eb⟩ := hb
      refine ⟨_, rfl, a, C, dx, _, _, rfl, ea, T.cls, nt, rfl, _, rfl, b, C, dx', _, _, rfl, eb, T.cls, nb, rfl, _, _, rfl, rfl, sz_mul sp sq', ?_⟩
      refine ⟨_, rfl, b, C, dx', _, _, rfl, eb, T.cls, nt, rfl, _, rfl, a, C, dx, _, _, rfl, ea, T.cls, nb, rfl, _, _, rfl, rfl, sz_mul sp' sq, _, _, rfl, rfl, ?_⟩
      refine ⟨_, rfl, a, C, dx, _, _, rfl, ea, T.cls, nb, rfl, _, rfl, b, C, dx', _, _, rfl, eb, T.cls, nb, rfl, _, _, rfl, rfl, sz_mul sq sq', ?_⟩
      exact ⟨_, _, rfl, .inl ⟨_, _, rfl, rfl, Int.mul_ne_zero hq hq', sz_add (sz_prod sp sq') (sz_prod sp' sq), sz_big (sz_prod sq sq'), fun a' H' s ra => k a' H' (s1.trans s) ra⟩⟩
    · exact ⟨_, rfl, _, _, rfl, .inr ⟨hn, rz⟩⟩
end
end K01
namespace K01
open PySem PySem.Spec PyProof.Rows L2 RatM
section
variable {P : Program} {w : World} {K : PySem.W.Frag} {mg : Str → Option Value} {base : Heap} {C BR : Addr}
theorem scSub : FnScope ["self", "other", "right"] ["self", "other"] (defScope (ratM 7)) := ⟨rfl, rfl, rfl, by decide +kernel, rfl, by decide +kernel, by decide +kernel⟩
theorem ok_sub {f : Addr} {fd : FuncData} (F : MtP K "__sub__" "Ratio.__sub__" (ratM 7) f fd) (R : RatF P w K mg base C BR) : FnOk P w K mg base (L2.CX P w) 6 f fd ["self", "other"] (spArith K C BR fun p q p' q' => p * q' - p' * q) := by
  obtain ⟨fO, fdO, GO, bO, kO, gO⟩ := R.ro
  refine F.ok scSub (fun vs H Q E h => ?_) (fun cdv A outer s H vs Q E hr h => ?_)
  · obtain ⟨a, y, p, q, rfl, _⟩ := h
    rfl
  · obtain ⟨a, y, p, q, rfl, ha, sp, sq, hq, h⟩ := h
    have hr5 : Room 5 _ := hr
    have hr4 : Room 4 _ := hr5.mono (by decide)
    have T := R.T
    have nt := T.no "top" (by simp)
    have nb := T.no "bottom" (by simp)
    refine ⟨_, pss_cons (ps_set (i := 2) scSub.nd rfl (.inl rfl) (pe_call GO hr5 rfl gO kO bO .nil (passE (takes_of rfl rfl rfl rfl)) (pa_cons (pv 1) (pa_cons pe_str pa_nil))))
      (pss_one (ps_ret (pe_rat2 R.toRatK hr4 (E := E0) passL (by rfl) (pa_cons (pe_op op_sub (pe_op op_mulW (pe_fld (pv 0) rfl) (pe_fld (pv 2) rfl)) (pe_op op_mulW (pe_fld (pv 2) rfl) (pe_fld (pv 0) rfl))) (pa_cons (pe_op op_mulW (pe_fld (pv 0) rfl) (pe_fld (pv 2) rfl)) pa_nil))))), ?_⟩
    rcases h with ⟨p', q', hn, sp', sq', hq', k⟩ | ⟨hn, rz⟩
    · refine ⟨_, rfl, _, _, rfl, .inl ⟨p', q', hn, fun b H1 s1 hb => ?_⟩⟩
      obtain ⟨dx, ea⟩ := ha.same s1
      obtain ⟨dx', eb⟩ := hb
      refine ⟨_, rfl, a, C, dx, _, _, rfl, ea, T.cls, nt, rfl, _, rfl, b, C, dx', _, _, rfl, eb, T.cls, nb, rfl, _, _, rfl, rfl, sz_mul sp sq', ?_⟩
      refine ⟨_, rfl, b, C, dx', _, _, rfl, eb, T.cls, nt, rfl, _, rfl, a, C, dx, _, _, rfl, ea, T.cls, nb, rfl, _, _, rfl, rfl, sz_mul sp' sq, _, _, rfl, rfl, ?_⟩
      refine ⟨_, rfl, a, C, dx, _, _, rfl, ea, T.cls, nb, rfl, _, rfl, b, C, dx', _, _, rfl, eb, T.cls, nb, rfl, _, _, rfl, rfl, sz_mul sq sq', ?_⟩
      exact ⟨_, _, rfl, .inl ⟨_, _, rfl, rfl, Int.mul_ne_zero hq hq', sz_sub (sz_prod sp sq') (sz_prod sp' sq), sz_big (sz_prod sq sq'), fun a' H' s ra => k a' H' (s1.trans s) ra⟩⟩
    · exact ⟨_, rfl, _, _, rfl, .inr ⟨hn, rz⟩⟩
theorem scMul : FnScope ["self", "other", "right"] ["self", "other"] (defScope (ratM 8)) := ⟨rfl, rfl, rfl, by decide +kernel, rfl, by decide +kernel, by decide +kernel⟩
theorem ok_mul {f : Addr} {fd : FuncData} (F : MtP K "__mul__" "Ratio.__mul__" (ratM 8) f fd) (R : RatF P w K mg base C BR) : FnOk P w K mg base (L2.CX P w) 6 f fd ["self", "other"] (spArith K C BR fun p q p' q' => p * p') := by
  obtain ⟨fO, fdO, GO, bO, kO, gO⟩ := R.ro
  refine F.ok scMul (fun vs H Q E h => ?_) (fun cdv A outer s H vs Q E hr h => ?_)
  · obtain ⟨a, y, p, q, rfl, _⟩ := h
    rfl
  · obtain ⟨a, y, p, q, rfl, ha, sp, sq, hq, h⟩ := h
    have hr5 : Room 5 _ := hr
    have hr4 : Room 4 _ := hr5.mono (by decide)
    have T := R.T
    have nt := T.no "top" (by simp)
    have nb := T.no "bottom" (by simp)
    refine ⟨_, pss_cons (ps_set (i := 2) scMul.nd rfl (.inl rfl) (pe_call GO hr5 rfl gO kO bO .nil (passE (takes_of rfl rfl rfl rfl)) (pa_cons (pv 1) (pa_cons pe_str pa_nil))))
      (pss_one (ps_ret (pe_rat2 R.toRatK hr4 (E := E0) passL (by rfl) (pa_cons (pe_op op_mulW (pe_fld (pv 0) rfl) (pe_fld (pv 2) rfl)) (pa_cons (pe_op op_mulW (pe_fld (pv 0) rfl) (pe_fld (pv 2) rfl)) pa_nil))))), ?_⟩
    rcases h with ⟨p', q', hn, sp', sq', hq', k⟩ | ⟨hn, rz⟩
    · refine ⟨_, rfl, _, _, rfl, .inl ⟨p', q', hn, fun b H1 s1 hb => ?_⟩⟩
      obtain ⟨dx, ea⟩ := ha.same s1
      obtain ⟨dx', eb⟩ := hb
      refine ⟨_, rfl, a, C, dx, _, _, rfl, ea, T.cls, nt, rfl, _, rfl, b, C, dx', _, _, rfl, eb, T.cls, nt, rfl, _, _, rfl, rfl, sz_mul sp sp', ?_⟩
      refine ⟨_, rfl, a, C, dx, _, _, rfl, ea, T.cls, nb, rfl, _, rfl, b, C, dx', _, _, rfl, eb, T.cls, nb, rfl, _, _, rfl, rfl, sz_mul sq sq', ?_⟩
      exact ⟨_, _, rfl, .inl ⟨_, _, rfl, rfl, Int.mul_ne_zero hq hq', sz_big (sz_prod sp sp'), sz_big (sz_prod sq sq'), fun a' H' s ra => k a' H' (s1.trans s) ra⟩⟩
    · exact ⟨_, rfl, _, _, rfl, .inr ⟨hn, rz⟩⟩
/-- -r, abs(r) -/
def spSelf (K : PySem.W.Frag) (C : Addr) (g : Int → Int) : Sp := fun vs H Q _ => ∃ (a : Addr) (p q : Int), vs = [.ref a] ∧ RatAt H a C p q ∧ Sz p ∧ Sz q ∧ q ≠ 0 ∧ ∀ a' H', Same H H' → RatAt H' a' C (lowT (g p) q) (lowB (g p) q) → Q (.ref a') H'
theorem sz_up {p : Int} (h : Sz p) : p.natAbs < 2 ^ 4000 := Nat.lt_of_lt_of_le h (Nat.pow_le_pow_right (by decide) (by decide))
theorem scNeg : FnScope ["self"] ["self"] (defScope (ratM 9)) := ⟨rfl, rfl, rfl, by decide +kernel, rfl, by decide +kernel, by decide +kernel⟩
theorem ok_neg {f : Addr} {fd : FuncData} (F : MtP K "__neg__" "Ratio.__neg__" (ratM 9) f fd) (R : RatF P w K mg base C BR) : FnOk P w K mg base (L2.CX P w) 5 f fd ["self"] (spSelf K C fun p => -p) := by
  refine F.ok scNeg (fun vs H Q E h => ?_) (fun cdv A outer s H vs Q E hr h => ?_)
  · obtain ⟨a, p, q, rfl, _⟩ := h
    rfl
  · obtain ⟨a, p, q, rfl, ⟨dx, ea⟩, sp, sq, hq, k⟩ := h
    have hr4 : Room 4 _ := hr
    have T := R.T
    refine ⟨_, pss_one (ps_ret (pe_rat2 R.toRatK hr4 (E := E0) passL (by rfl) (pa_cons (pe_un un_neg (pe_fld (pv 0) rfl)) (pa_cons (pe_fld (pv 0) rfl) pa_nil)))), ?_⟩
    refine ⟨_, rfl, a, C, dx, _, _, rfl, ea, T.cls, T.no "top" (by simp), rfl, _, rfl, _, rfl, a, C, dx, _, _, rfl, ea, T.cls, T.no "bottom" (by simp), rfl, ?_⟩
    exact ⟨_, _, rfl, .inl ⟨_, _, rfl, rfl, hq, by rw [Int.natAbs_neg]; exact sz_up sp, sz_up sq, k⟩⟩
theorem scAbs : FnScope ["self"] ["self"] (defScope (ratM 10)) := ⟨rfl, rfl, rfl, by decide +kernel, rfl, by decide +kernel, by decide +kernel⟩
theorem ok_abs {f : Addr} {fd : FuncData} (F : MtP K "__abs__" "Ratio.__abs__" (ratM 10) f fd) (R : RatF P w K mg base C BR) (ba : mg "abs" = none) : FnOk P w K mg base (L2.CX P w) 5 f fd ["self"] (spSelf K C fun p => if p < 0 then -p else p) := by
  refine F.ok scAbs (fun vs H Q E h => ?_) (fun cdv A outer s H vs Q E hr h => ?_)
  · obtain ⟨a, p, q, rfl, _⟩ := h
    rfl
  · obtain ⟨a, p, q, rfl, ⟨dx, ea⟩, sp, sq, hq, k⟩ := h
    have hr4 : Room 4 _ := hr
    have T := R.T
    refine ⟨_, pss_one (ps_ret (pe_rat2 R.toRatK hr4 (E := E0) passL (by rfl) (pa_cons (pe_callB call_abs (by rfl) ba (by decide +kernel) (pa_cons (pe_fld (pv 0) rfl) pa_nil)) (pa_cons (pe_fld (pv 0) rfl) pa_nil)))), ?_⟩
    refine ⟨_, rfl, a, C, dx, _, _, rfl, ea, T.cls, T.no "top" (by simp), rfl, _, rfl, _, rfl, a, C, dx, _, _, rfl, ea, T.cls, T.no "bottom" (by simp), rfl, ?_⟩
    exact ⟨_, _, rfl, .inl ⟨_, _, rfl, rfl, hq, by split; (· rw [Int.natAbs_neg]; exact sz_up sp); exact sz_up sp, sz_up sq, k⟩⟩
end
end K01
namespace K01
open PySem PySem.Spec PyProof.Rows L2 RatM
theorem decI (i j : Int) : decide (V.int i = V.int j) = decide (i = j) := by
  by_cases h : i = j
  · rw [decide_eq_true h, decide_eq_true (congrArg V.int h)]
  · rw [decide_eq_false h, decide_eq_false fun z => h (V.int.inj z)]
theorem empty_app (x : Str) : Str.empty ++ x = x := by
  obtain ⟨c⟩ := x
  show (⟨#[] ++ c⟩ : Str) = ⟨c⟩
  simp
/-- r == y -/
def spSame (K : PySem.W.Frag) (C : Addr) : Sp := fun vs H Q _ => ∃ (a : Addr) (y : V) (p q : Int), vs = [.ref a, y] ∧ RatAt H a C p q ∧
  ((∃ b p' q', y = .ref b ∧ RatAt H b C p' q' ∧ Q (.bl (decide (p = p') && decide (q = q'))) H) ∨ (∃ i, y = .int i ∧ Q (.bl (decide (q = 1) && decide (p = i))) H) ∨ (NotNum K H C y ∧ Q (.bl false) H))
/-- a ratio's text -/
def textR (p q : Int) : Str := if q = 1 then (toString p : String) else (Str.ofString (toString p) ++ "/") ++ Str.ofString (toString q)
def spText (K : PySem.W.Frag) (C : Addr) : Sp := fun vs H Q _ => ∃ (a : Addr) (p q : Int), vs = [.ref a] ∧ RatAt H a C p q ∧ Sz p ∧ Sz q ∧ Q (.str (textR p q)) H
def spTruth (K : PySem.W.Frag) (C : Addr) : Sp := fun vs H Q _ => ∃ (a : Addr) (p q : Int), vs = [.ref a] ∧ RatAt H a C p q ∧ Q (.bl (decide (p ≠ 0))) H
section
variable {P : Program} {w : World} {K : PySem.W.Frag} {mg : Str → Option Value} {base : Heap} {C BR : Addr}
theorem scSa : FnScope ["ratio", "other"] ["ratio", "other"] (defScope (top 25)) := ⟨rfl, rfl, rfl, by decide +kernel, rfl, by decide +kernel, by decide +kernel⟩
theorem ok_isSame {f : Addr} {fd : FuncData} (F : FnP K "_is_same" (top 25) f fd) (R : RatK P w K mg base C BR) : FnOk P w K mg base CX0 2 f fd ["ratio", "other"] (spSame K C) := by
  obtain ⟨fI, fdI, GI, bI, kI, gI⟩ := R.int
  refine F.ok scSa (fun vs H Q E h => ?_) (fun cdv A outer s H vs Q E hr h => ?_)
  · obtain ⟨a, y, p, q, rfl, _⟩ := h
    rfl
  · obtain ⟨a, y, p, q, rfl, ⟨dx, ea⟩, h⟩ := h
    have hr1 : Room 1 _ := hr
    have T := R.T
    have nt := T.no "top" (by simp)
    have nb := T.no "bottom" (by simp)
    have ni := T.no "is_whole" (by simp)
    refine ⟨_, PSs.nox (pss_cons (ps_if (pt_val (pe_callB call_isi (by rfl) R.bi (by decide +kernel) (pa_cons (pv 1) (pa_cons (pe_glob (v := .ref _) rfl R.g rfl) pa_nil))))
        (pss_one (ps_ret (pe_and (pe_cmpR op_eq (pe_fld (pv 0) rfl) (pe_fld (pv 1) rfl) (nomark _)) (pe_one (pe_cmpR op_eq (pe_fld (pv 0) rfl) (pe_fld (pv 1) rfl) (nomark _)))))) pss_nil)
      (pss_one (ps_ret (pe_and (pe_call GI hr1 rfl gI kI bI .nil pass0 (pa_cons (pv 1) pa_nil)) (pe_and (pe_fld (pv 0) rfl) (pe_one (pe_cmpR op_eq (pe_fld (pv 0) rfl) (pv 1) (nomark _)))))))), ?_⟩
    rcases h with ⟨b, p', q', rfl, hb, k⟩ | ⟨i, rfl, k⟩ | ⟨⟨⟨t, ty, kt⟩, hi⟩, k⟩
    · have tb := hb.ty R.T R.I
      obtain ⟨dx', eb⟩ := hb
      refine ⟨_, rfl, _, _, _, _, _, rfl, .own C, tb, R.I.cc, _, rfl, iteT ?_⟩
      refine ⟨_, rfl, a, C, dx, _, _, rfl, ea, T.cls, nt, rfl, _, rfl, b, C, dx', _, _, rfl, eb, T.cls, nt, rfl, rfl, decide (p = p'), congrArg V.bl (decI ..), ?_⟩
      by_cases e : p = p'
      · rw [decide_eq_true e] at k ⊢
        refine iteT ⟨_, rfl, a, C, dx, _, _, rfl, ea, T.cls, nb, rfl, _, rfl, b, C, dx', _, _, rfl, eb, T.cls, nb, rfl, rfl, ?_⟩
        show Q (.bl (decide (V.int q = V.int q'))) H
        rw [decI]
        exact k
      · rw [decide_eq_false e] at k ⊢
        exact iteF k
    · refine ⟨_, rfl, _, _, _, _, _, rfl, .own C, .base (.int i), R.I.ic, _, rfl, iteF ?_⟩
      refine ⟨_, rfl, _, _, rfl, intIs_int i, _, rfl, iteT ⟨_, rfl, a, C, dx, _, _, rfl, ea, T.cls, ni, rfl, decide (q = 1), congrArg V.bl (decI ..), ?_⟩⟩
      by_cases e : q = 1
      · rw [decide_eq_true e] at k ⊢
        refine iteT ⟨_, rfl, a, C, dx, _, _, rfl, ea, T.cls, nt, rfl, _, rfl, rfl, ?_⟩
        show Q (.bl (decide (V.int p = V.int i))) H
        rw [decI]
        exact k
      · rw [decide_eq_false e] at k ⊢
        exact iteF k
    · refine ⟨_, rfl, _, _, _, _, _, rfl, .own C, ty, kt, _, rfl, iteF ?_⟩
      exact ⟨_, rfl, _, _, rfl, hi, _, rfl, iteF k⟩
theorem scEq : FnScope ["self", "other"] ["self", "other"] (defScope (ratM 12)) := ⟨rfl, rfl, rfl, by decide +kernel, rfl, by decide +kernel, by decide +kernel⟩
theorem ok_eq {f fS : Addr} {fd fdS : FuncData} (F : MtP K "__eq__" "Ratio.__eq__" (ratM 12) f fd) (R : RatK P w K mg base C BR) (FS : FnP K "_is_same" (top 25) fS fdS) (gS : mg "_is_same" = some (.ref fS)) : FnOk P w K mg base CX0 3 f fd ["self", "other"] (spSame K C) := by
  have GS : FnOk P w K mg base CX0 2 fS fdS ["ratio", "other"] (spSame K C) := ok_isSame FS R
  have bS : Binds K fdS ["ratio", "other"] [] := FS.bindsN fun _ _ _ _ _ _ us hl => match us, hl with | [_, _], _ => rfl
  refine F.ok scEq (fun vs H Q E h => ?_) (fun cdv A outer s H vs Q E hr h => ?_)
  · obtain ⟨a, y, p, q, rfl, _⟩ := h
    rfl
  · obtain ⟨a, y, p, q, rfl, h⟩ := h
    have hr2 : Room 2 _ := hr
    exact ⟨_, PSs.nox (pss_one (ps_ret (pe_call GS hr2 rfl gS FS.kp bS .nil pass0 (pa_cons (pv 0) (pa_cons (pv 1) pa_nil))))), _, rfl, _, rfl, a, y, p, q, rfl, h⟩
theorem sign_ne (p : Int) : (b2i (decide (0 < p)) - b2i (decide (p < 0)) != 0) = decide (p ≠ 0) := by
  unfold b2i
  by_cases h1 : 0 < p
  · have h2 : ¬ p < 0 := by omega
    have h3 : p ≠ 0 := by omega
    simp [h1, h2, h3]
  · by_cases h2 : p < 0
    · have h3 : p ≠ 0 := by omega
      simp [h1, h2, h3]
    · have h3 : p = 0 := by omega
      simp [h3]
theorem scBo : FnScope ["self"] ["self"] (defScope (ratM 11)) := ⟨rfl, rfl, rfl, by decide +kernel, rfl, by decide +kernel, by decide +kernel⟩
theorem ok_bool {f : Addr} {fd : FuncData} (F : MtP K "__bool__" "Ratio.__bool__" (ratM 11) f fd) (T : RatC K C) (bb : mg "bool" = none) : FnOk P w K mg base CX0 1 f fd ["self"] (spTruth K C) := by
  refine F.ok scBo (fun vs H Q E h => ?_) (fun cdv A outer s H vs Q E hr h => ?_)
  · obtain ⟨a, p, q, rfl, _⟩ := h
    rfl
  · obtain ⟨a, p, q, rfl, ⟨dx, ea⟩, k⟩ := h
    refine ⟨_, PSs.nox (pss_one (ps_ret (pe_callTy call_bool1 (by rfl) bb PyProof.Rows.boot_bool (pa_cons (pe_fld (pv 0) rfl) pa_nil)))), ?_⟩
    refine ⟨_, rfl, a, C, dx, _, _, rfl, ea, T.cls, T.no "sign" (by simp), rfl, .inl ⟨_, rfl, ?_⟩⟩
    rw [sign_ne]
    exact k
theorem sz_log {p : Int} (h : Sz p) : p.natAbs.log2 < 1920 := Nat.lt_of_lt_of_le (PySem.Flt.log2_lt_of (by decide) h) (by decide)
theorem sz_len {p : Int} (h : Sz p) : (Str.ofString (toString p)).length ≤ 601 := by
  rw [PySem.ofString_length]
  exact int_text_length_le10 (k := 600) (by decide) (Nat.lt_trans h (by decide +kernel))
theorem scWr : FnScope ["ratio"] ["ratio"] (defScope (top 26)) := ⟨rfl, rfl, rfl, by decide +kernel, rfl, by decide +kernel, by decide +kernel⟩
theorem ok_written {f : Addr} {fd : FuncData} (F : FnP K "_written" (top 26) f fd) (T : RatC K C) : FnOk P w K mg base CX0 1 f fd ["ratio"] (spText K C) := by
  refine F.ok scWr (fun vs H Q E h => ?_) (fun cdv A outer s H vs Q E hr h => ?_)
  · obtain ⟨a, p, q, rfl, _⟩ := h
    rfl
  · obtain ⟨a, p, q, rfl, ⟨dx, ea⟩, sp, sq, k⟩ := h
    have nt := T.no "top" (by simp)
    have nb := T.no "bottom" (by simp)
    have ni := T.no "is_whole" (by simp)
    refine ⟨_, PSs.nox (pss_one (ps_ret (pe_ifExp (pt_val (pe_fld (pv 0) rfl)) (pe_joined1 (pe_fmt (pe_fld (pv 0) rfl))) (pe_joined (.cons (pe_fmt (pe_fld (pv 0) rfl)) (.cons pe_str (.cons (pe_fmt (pe_fld (pv 0) rfl)) .nil))))))), ?_⟩
    refine ⟨_, rfl, a, C, dx, _, _, rfl, ea, T.cls, ni, rfl, decide (q = 1), congrArg V.bl (decI ..), ?_⟩
    by_cases e : q = 1
    · rw [decide_eq_true e]
      refine iteT ⟨_, rfl, a, C, dx, _, _, rfl, ea, T.cls, nt, rfl, .inr ⟨p, rfl, sz_log sp, ?_⟩⟩
      have z : textR p q = (toString p : String) := if_pos e
      rw [← z]
      exact k
    · rw [decide_eq_false e]
      refine iteF ?_
      have z : textR p q = (Str.ofString (toString p) ++ "/") ++ Str.ofString (toString q) := if_neg e
      rw [z] at k
      have l1 := sz_len sp
      have l2 := sz_len sq
      have l0 : (Str.empty : Str).length = 0 := rfl
      have ls : (Str.ofString "/").length = 1 := rfl
      refine ⟨_, rfl, a, C, dx, _, _, rfl, ea, T.cls, nt, rfl, .inr ⟨p, rfl, sz_log sp, _, rfl, ?_, _, rfl, ?_, ?_⟩⟩
      · rw [strLen_append, sizeLine_eq]; omega
      · rw [strLen_append, strLen_append, sizeLine_eq]; omega
      · refine ⟨_, rfl, a, C, dx, _, _, rfl, ea, T.cls, nb, rfl, .inr ⟨q, rfl, sz_log sq, _, rfl, ?_, ?_⟩⟩
        · rw [strLen_append, strLen_append, strLen_append, sizeLine_eq]; omega
        · show Q (.str (((Str.empty ++ Str.ofString (toString p)) ++ Str.ofString "/") ++ Str.ofString (toString q))) H
          rw [empty_app]
          exact k
theorem scSt : FnScope ["self"] ["self"] (defScope (ratM 13)) := ⟨rfl, rfl, rfl, by decide +kernel, rfl, by decide +kernel, by decide +kernel⟩
theorem ok_str {f fW : Addr} {fd fdW : FuncData} (F : MtP K "__str__" "Ratio.__str__" (ratM 13) f fd) (T : RatC K C) (FW : FnP K "_written" (top 26) fW fdW) (gW : mg "_written" = some (.ref fW)) (bs : mg "str" = none) : FnOk P w K mg base CX0 2 f fd ["self"] (spText K C) := by
  have GW : FnOk P w K mg base CX0 1 fW fdW ["ratio"] (spText K C) := ok_written FW T
  have bW : Binds K fdW ["ratio"] [] := FW.bindsN fun _ _ _ _ _ _ us hl => match us, hl with | [_], _ => rfl
  refine F.ok scSt (fun vs H Q E h => ?_) (fun cdv A outer s H vs Q E hr h => ?_)
  · obtain ⟨a, p, q, rfl, _⟩ := h
    rfl
  · obtain ⟨a, p, q, rfl, ha, sp, sq, k⟩ := h
    have hr1 : Room 1 _ := hr
    exact ⟨_, PSs.nox (pss_one (ps_ret (pe_callTy SkE.call_str_str (by rfl) bs PyProof.Rows.boot_str (pa_cons (pe_call GW hr1 rfl gW FW.kp bW .nil pass0 (pa_cons (pv 0) pa_nil)) pa_nil)))), _, rfl, a, p, q, rfl, ha, sp, sq, _, rfl, k⟩
theorem scRe : FnScope ["self"] ["self"] (defScope (ratM 14)) := ⟨rfl, rfl, rfl, by decide +kernel, rfl, by decide +kernel, by decide +kernel⟩
theorem ok_repr {f fW : Addr} {fd fdW : FuncData} (F : MtP K "__repr__" "Ratio.__repr__" (ratM 14) f fd) (T : RatC K C) (FW : FnP K "_written" (top 26) fW fdW) (gW : mg "_written" = some (.ref fW)) (bs : mg "str" = none) : FnOk P w K mg base CX0 2 f fd ["self"] (spText K C) := by
  have GW : FnOk P w K mg base CX0 1 fW fdW ["ratio"] (spText K C) := ok_written FW T
  have bW : Binds K fdW ["ratio"] [] := FW.bindsN fun _ _ _ _ _ _ us hl => match us, hl with | [_], _ => rfl
  refine F.ok scRe (fun vs H Q E h => ?_) (fun cdv A outer s H vs Q E hr h => ?_)
  · obtain ⟨a, p, q, rfl, _⟩ := h
    rfl
  · obtain ⟨a, p, q, rfl, ha, sp, sq, k⟩ := h
    have hr1 : Room 1 _ := hr
    exact ⟨_, PSs.nox (pss_one (ps_ret (pe_callTy SkE.call_str_str (by rfl) bs PyProof.Rows.boot_str (pa_cons (pe_call GW hr1 rfl gW FW.kp bW .nil pass0 (pa_cons (pv 0) pa_nil)) pa_nil)))), _, rfl, a, p, q, rfl, ha, sp, sq, _, rfl, k⟩
end
end K01
namespace RatM
theorem lowT_pos {t b : Int} (hb : 0 < b) : decide (0 < lowT t b) = decide (0 < t) ∧ decide (lowT t b < 0) = decide (t < 0) := by
  have m := lowT_mul (t := t) (show b ≠ 0 by omega)
  have d : 0 < lowD t b := by
    unfold lowD
    rw [if_pos hb]
    exact gcd_pos (by omega)
  refine ⟨decide_eq_decide.mpr ⟨fun h => ?_, fun h => ?_⟩, decide_eq_decide.mpr ⟨fun h => ?_, fun h => ?_⟩⟩
  · rw [← m]; exact Int.mul_pos d h
  · rw [← m] at h; exact Int.pos_of_mul_pos_right h d
  · have z : 0 < lowD t b * (-lowT t b) := Int.mul_pos d (by omega)
    rw [Int.mul_neg, m] at z
    omega
  · have z : 0 < lowD t b * (-lowT t b) := by rw [Int.mul_neg, m]; omega
    have y := Int.pos_of_mul_pos_right z d
    omega
end RatM
namespace K01
open PySem PySem.Spec PyProof.Rows L2 RatM
/-- what is neither a ratio nor an integer -/
inductive OddAt (H : Hp) : V → String → Prop where
  | non : OddAt H .non "NoneType"
  | bl (b : Bool) : OddAt H (.bl b) "bool"
  | str (x : Str) : OddAt H (.str x) "str"
  | lst {a : Addr} {xs : List V} (e : H a = some (.lst xs)) : OddAt H (.ref a) "list"
  | tup {a : Addr} {xs : List V} (e : H a = some (.tup xs)) : OddAt H (.ref a) "tuple"
  | dK {a : Addr} {kvs : List (Key × V)} (e : H a = some (.dK kvs)) : OddAt H (.ref a) "dict"
theorem OddAt.same {H H' : Hp} {y : V} {T : String} (h : OddAt H y T) (s : Same H H') : OddAt H' y T := by
  cases h with
  | non => exact .non
  | bl b => exact .bl b
  | str x => exact .str x
  | lst e => exact .lst (s _ _ e)
  | tup e => exact .tup (s _ _ e)
  | dK e => exact .dK (s _ _ e)
def oddTypes : List String := ["NoneType", "bool", "str", "list", "tuple", "dict"]
theorem OddAt.mem {H : Hp} {y : V} {T : String} (h : OddAt H y T) : T ∈ oddTypes := by cases h <;> decide
theorem OddAt.ty {K : PySem.W.Frag} {H : Hp} {y : V} {T : String} (h : OddAt H y T) : TyX K H y (.type T) := by
  cases h with
  | non => exact .base .non
  | bl b => exact .base (.bl b)
  | str x => exact .base (.str x)
  | lst e => exact .base (.lst e)
  | tup e => exact .base (.tup e)
  | dK e => exact .base (.dK e)
theorem OddAt.at_ {X : Cx} {H : Hp} {y : V} {T : String} (h : OddAt H y T) : TyAt X H y (.type T) := by
  cases h with
  | non => exact ty_plain plainT_non
  | bl b => exact ty_plain (plainT_bl b)
  | str x => exact ty_plain (plainT_str x)
  | lst e => exact ty_lst e
  | tup e => exact ty_tup e
  | dK e => exact ty_dK e
theorem OddAt.notNum {K : PySem.W.Frag} {H : Hp} {C : Addr} {y : V} {T : String} (h : OddAt H y T) (k : ∀ T ∈ oddTypes, PySem.W.kitOne K (.type T) (.ref C) = some false) : NotNum K H C y := by
  refine ⟨⟨_, h.ty, k T h.mem⟩, ?_⟩
  have ty := h.ty (K := K)
  cases h with
  | non => exact intIs_non
  | bl b => exact intIs_bl b
  | str x => exact intIs_str x
  | lst e => exact ⟨_, false, false, ty, kit_ty (by decide +kernel), kit_ty (by decide +kernel), rfl⟩
  | tup e => exact ⟨_, false, false, ty, kit_ty (by decide +kernel), kit_ty (by decide +kernel), rfl⟩
  | dK e => exact ⟨_, false, false, ty, kit_ty (by decide +kernel), kit_ty (by decide +kernel), rfl⟩
def sg (x : Int) : Int := b2i (decide (0 < x)) - b2i (decide (x < 0))
/-- what an own operator asks of the class and of the types at its right -/
structure OpF (K : PySem.W.Frag) (C : Addr) (nm : String) (f : Addr) : Prop where
  m : OwnM K C (PySem.dunder nm) f
  r : PySem.W.findIn K (.ref C) (dunderR nm) = some none
  t : ∀ T ∈ "int" :: oddTypes, RightT K C nm T
structure RatG (P : Program) (w : World) (K : PySem.W.Frag) (mg : Str → Option Value) (base : Heap) (C BR : Addr) : Prop extends RatF P w K mg base C BR where
  sf : PySem.W.selfFirst K C = true
  odd : ∀ T ∈ oddTypes, PySem.W.kitOne K (.type T) (.ref C) = some false
  add : ∃ (f : Addr) (fd : FuncData), OpF K C "add" f ∧ FnOk P w K mg base (L2.CX P w) 6 f fd ["self", "other"] (spArith K C BR fun p q p' q' => p * q' + p' * q) ∧ Binds K fd ["self", "other"] []
  sub : ∃ (f : Addr) (fd : FuncData), OpF K C "sub" f ∧ FnOk P w K mg base (L2.CX P w) 6 f fd ["self", "other"] (spArith K C BR fun p q p' q' => p * q' - p' * q) ∧ Binds K fd ["self", "other"] []
  mul : ∃ (f : Addr) (fd : FuncData), OpF K C "mul" f ∧ FnOk P w K mg base (L2.CX P w) 6 f fd ["self", "other"] (spArith K C BR fun p q p' q' => p * p') ∧ Binds K fd ["self", "other"] []
/-- a value at an operator's right -/
def RightV (H : Hp) (C : Addr) (y : V) : Prop := (∃ p q, NumAt H C y p q) ∨ ∃ T, OddAt H y T
/-- r op y, with g told of both pairs: a ratio, or BadRatio('other') -/
def rRat (K : PySem.W.Frag) (C BR : Addr) (g : Int → Int → Int → Int → Int) (E : XK) : R2 := fun x y H Q => ∃ (a : Addr) (p q : Int), x = .ref a ∧ RatAt H a C p q ∧ Sz p ∧ Sz q ∧ q ≠ 0 ∧
  ((∃ p' q' : Int, NumAt H C y p' q' ∧ Sz p' ∧ Sz q' ∧ q' ≠ 0 ∧ ∀ a' H', Same H H' → RatAt H' a' C (lowT (g p q p' q') (q * q')) (lowB (g p q p' q') (q * q')) → Q (.ref a') H') ∨ (∃ T, OddAt H y T ∧ Rz H E BR [("part", .str "other")]))
theorem op_rat {X : Cx} {C BR f : Addr} {fd : FuncData} {E : XK} {op : Operator} {g : Int → Int → Int → Int → Int} (sf : PySem.W.selfFirst X.K C = true) (odd : ∀ T ∈ oddTypes, PySem.W.kitOne X.K (.type T) (.ref C) = some false) (O : OpF X.K C op.info.2 f)
    (F : FnOk X.prog X.w X.K X.mg X.base (L2.CX X.prog X.w) 6 f fd ["self", "other"] (spArith X.K C BR g)) (b : Binds X.K fd ["self", "other"] []) (hr : Room 6 X.A) (hx : Passes (L2.CX X.prog X.w) X E) : OpR X (binaryOp op) (rRat X.K C BR g E) := by
  intro pins s σ H x y v u Q I rx ry h
  obtain ⟨a, p, q, rfl, ha, sp, sq, hq, h⟩ := h
  refine op_ownAny O.m sf O.r F hr b hx pins s σ H _ y v u Q I rx ry ?_
  rcases h with ⟨p', q', hn, sp', sq', hq', k⟩ | ⟨T, ho, rz⟩
  · rcases id hn with ⟨c, rfl, hc⟩ | ⟨rfl, _, _⟩
    · exact ⟨a, _, rfl, ha.ins, ty_ins hc.ins, .inl rfl, a, _, p, q, rfl, ha, sp, sq, hq, .inl ⟨p', q', hn, sp', sq', hq', k⟩⟩
    · exact ⟨a, _, rfl, ha.ins, ty_plain (plainT_int _), .inr ⟨_, rfl, O.t _ List.mem_cons_self⟩, a, _, p, q, rfl, ha, sp, sq, hq, .inl ⟨p', q', hn, sp', sq', hq', k⟩⟩
  · exact ⟨a, _, rfl, ha.ins, ho.at_, .inr ⟨_, rfl, O.t _ (List.mem_cons_of_mem _ ho.mem)⟩, a, _, p, q, rfl, ha, sp, sq, hq, .inr ⟨ho.notNum odd, rz⟩⟩
def spCmp (K : PySem.W.Frag) (C BR : Addr) (r : Int → V) : Sp := fun vs H Q E => ∃ (a : Addr) (y : V) (p q : Int), vs = [.ref a, y] ∧ RatAt H a C p q ∧ Sz p ∧ Sz q ∧ 0 < q ∧
  ((∃ p' q' : Int, NumAt H C y p' q' ∧ Sz p' ∧ Sz q' ∧ 0 < q' ∧ ∀ H', Same H H' → Q (r (sg (p * q' - p' * q))) H') ∨ (∃ T, OddAt H y T ∧ Rz H E BR [("part", .str "other")]))
section
variable {P : Program} {w : World} {K : PySem.W.Frag} {mg : Str → Option Value} {base : Heap} {C BR : Addr}
theorem scCp : FnScope ["self", "other"] ["self", "other"] (defScope (ratM 3)) := ⟨rfl, rfl, rfl, by decide +kernel, rfl, by decide +kernel, by decide +kernel⟩
theorem ok_compared {f : Addr} {fd : FuncData} (F : MtP K "compared" "Ratio.compared" (ratM 3) f fd) (R : RatG P w K mg base C BR) : FnOk P w K mg base (L2.CX P w) 7 f fd ["self", "other"] (spCmp K C BR V.int) := by
  obtain ⟨fS, fdS, OS, GS, bS⟩ := R.sub
  refine F.ok scCp (fun vs H Q E h => ?_) (fun cdv A outer s H vs Q E hr h => ?_)
  · obtain ⟨a, y, p, q, rfl, _⟩ := h
    rfl
  · obtain ⟨a, y, p, q, rfl, ha, sp, sq, hq, h⟩ := h
    have hr6 : Room 6 _ := hr
    refine ⟨_, pss_one (ps_ret (pe_fld (pe_op (op_rat (op := .Sub) R.sf R.odd OS GS bS hr6 (passE (takes_of rfl rfl rfl rfl))) (pv 0) (pv 1)) rfl)), ?_⟩
    rcases h with ⟨p', q', hn, sp', sq', hq', k⟩ | ⟨T, ho, rz⟩
    · refine ⟨_, rfl, _, rfl, a, p, q, rfl, ha, sp, sq, by omega, .inl ⟨p', q', hn, sp', sq', by omega, fun a' H' s1 ra => ?_⟩⟩
      obtain ⟨dx, ea⟩ := ra
      refine ⟨a', C, dx, _, _, rfl, ea, R.T.cls, R.T.no "sign" (by simp), rfl, ?_⟩
      obtain ⟨e1, e2⟩ := lowT_pos (t := p * q' - p' * q) (b := q * q') (Int.mul_pos hq hq')
      rw [e1, e2]
      exact k H' s1
    · exact ⟨_, rfl, _, rfl, a, p, q, rfl, ha, sp, sq, by omega, .inr ⟨T, ho, rz⟩⟩
end
end K01
namespace K01
open PySem PySem.Spec PyProof.Rows L2 RatM
theorem sg_zero (p : Int) : decide (V.int (b2i (decide (0 < p)) - b2i (decide (p < 0))) = V.int 0) = decide (p = 0) := by
  rw [decI]
  refine decide_eq_decide.mpr ?_
  unfold b2i
  by_cases h1 : 0 < p
  · have h2 : ¬ p < 0 := by omega
    simp [h1, h2]; omega
  · by_cases h2 : p < 0
    · simp [h1, h2]; omega
    · have h3 : p = 0 := by omega
      simp [h3]
structure RatH (P : Program) (w : World) (K : PySem.W.Frag) (mg : Str → Option Value) (base : Heap) (C BR : Addr) : Prop extends RatG P w K mg base C BR where
  cmp : ∃ (f : Addr) (fd : FuncData), Meth K C "compared" f ∧ FnOk P w K mg base (L2.CX P w) 7 f fd ["self", "other"] (spCmp K C BR V.int) ∧ Binds K fd ["self", "other"] []
/-- r.over(y) -/
def spOver (K : PySem.W.Frag) (C BR : Addr) : Sp := fun vs H Q E => ∃ (a : Addr) (y : V) (p q : Int), vs = [.ref a, y] ∧ RatAt H a C p q ∧ Sz p ∧ Sz q ∧ q ≠ 0 ∧
  ((∃ p' q' : Int, NumAt H C y p' q' ∧ Sz p' ∧ Sz q' ∧ q' ≠ 0 ∧ p' ≠ 0 ∧ ∀ a' H', Same H H' → RatAt H' a' C (lowT (p * q') (q * p')) (lowB (p * q') (q * p')) → Q (.ref a') H') ∨
   (∃ q' : Int, NumAt H C y 0 q' ∧ Rz H E BR [("part", .str "other")]) ∨ (∃ T, OddAt H y T ∧ Rz H E BR [("part", .str "other")]))
/-- is_ratio(x) -/
def spIsR (K : PySem.W.Frag) (C : Addr) : Sp := fun vs H Q _ => ∃ (x : V), vs = [x] ∧ ((∃ p q, NumAt H C x p q ∧ Q (.bl true) H) ∨ (∃ T, OddAt H x T ∧ Q (.bl false) H))
section
variable {P : Program} {w : World} {K : PySem.W.Frag} {mg : Str → Option Value} {base : Heap} {C BR : Addr}
theorem lookF (p q : Int) (m : Str) (h : m ∉ ([("top" : Str), "bottom", "sign", "is_whole", "below"] : List Str)) : (ratF p q).lookup m = none := by
  simp only [List.mem_cons, List.not_mem_nil, or_false, not_or] at h
  obtain ⟨h1, h2, h3, h4, h5⟩ := h
  unfold ratF
  rw [lookup_putF, if_neg h5, lookup_putF, if_neg h4, lookup_putF, if_neg h3, lookup_putF, if_neg h2, lookup_putF, if_neg h1]
  rfl
theorem scBe : FnScope ["self", "other"] ["self", "other"] (defScope (ratM 4)) := ⟨rfl, rfl, rfl, by decide +kernel, rfl, by decide +kernel, by decide +kernel⟩
theorem ok_below {f : Addr} {fd : FuncData} (F : MtP K "is_below" "Ratio.is_below" (ratM 4) f fd) (R : RatH P w K mg base C BR) : FnOk P w K mg base (L2.CX P w) 8 f fd ["self", "other"] (spCmp K C BR fun s => .bl (decide (s < 0))) := by
  obtain ⟨fC, fdC, MC, GC, bC⟩ := R.cmp
  refine F.ok scBe (fun vs H Q E h => ?_) (fun cdv A outer s H vs Q E hr h => ?_)
  · obtain ⟨a, y, p, q, rfl, _⟩ := h
    rfl
  · obtain ⟨a, y, p, q, rfl, ⟨dx, ea⟩, sp, sq, hq, h⟩ := h
    have hr7 : Room 7 _ := hr
    refine ⟨_, pss_one (ps_ret (pe_cmpR op_lt (pe_meth (pv 0) R.T.cls MC GC hr7 bC .nil (passE (takes_of rfl rfl rfl rfl)) (pa_cons (pv 1) pa_nil)) pe_int (nomark _))), ?_⟩
    refine ⟨_, rfl, a, dx, _, rfl, ea, lookF _ _ _ (by decide), _, rfl, a, y, p, q, rfl, ⟨dx, ea⟩, sp, sq, hq, ?_⟩
    rcases h with ⟨p', q', hn, sp', sq', hq', k⟩ | h
    · exact .inl ⟨p', q', hn, sp', sq', hq', fun H' s1 => ⟨_, _, rfl, rfl, k H' s1⟩⟩
    · exact .inr h
theorem scOv : FnScope ["self", "other", "right"] ["self", "other"] (defScope (ratM 5)) := ⟨rfl, rfl, rfl, by decide +kernel, rfl, by decide +kernel, by decide +kernel⟩
theorem ok_over {f : Addr} {fd : FuncData} (F : MtP K "over" "Ratio.over" (ratM 5) f fd) (R : RatG P w K mg base C BR) : FnOk P w K mg base (L2.CX P w) 6 f fd ["self", "other"] (spOver K C BR) := by
  obtain ⟨fO, fdO, GO, bO, kO, gO⟩ := R.ro
  refine F.ok scOv (fun vs H Q E h => ?_) (fun cdv A outer s H vs Q E hr h => ?_)
  · obtain ⟨a, y, p, q, rfl, _⟩ := h
    rfl
  · obtain ⟨a, y, p, q, rfl, ha, sp, sq, hq, h⟩ := h
    have hr5 : Room 5 _ := hr
    have hr4 : Room 4 _ := hr5.mono (by decide)
    have hr2 : Room 2 _ := hr5.mono (by decide)
    have T := R.T
    have nt := T.no "top" (by simp)
    have nb := T.no "bottom" (by simp)
    have ns := T.no "sign" (by simp)
    refine ⟨_, pss_cons (ps_set (i := 2) scOv.nd rfl (.inl rfl) (pe_call GO hr5 rfl gO kO bO .nil (passE (takes_of rfl rfl rfl rfl)) (pa_cons (pv 1) (pa_cons pe_str pa_nil))))
      (pss_cons (ps_if (pt_cmpR op_eq (pe_fld (pv 2) rfl) pe_int (nomark _)) (pss_one (ps_raiseN rfl R.M hr2 (takes_of rfl rfl rfl rfl) (by rfl) (pa_cons pe_str pa_nil))) pss_nil)
      (pss_one (ps_ret (pe_rat2 R.toRatK hr4 (E := E0) passL (by rfl) (pa_cons (pe_op op_mulW (pe_fld (pv 0) rfl) (pe_fld (pv 2) rfl)) (pa_cons (pe_op op_mulW (pe_fld (pv 0) rfl) (pe_fld (pv 2) rfl)) pa_nil)))))), ?_⟩
    rcases h with ⟨p', q', hn, sp', sq', hq', hp', k⟩ | ⟨q', hn, rz⟩ | ⟨T', ho, rz⟩
    · refine ⟨_, rfl, _, _, rfl, .inl ⟨p', q', hn, fun b H1 s1 hb => ?_⟩⟩
      obtain ⟨dx, ea⟩ := ha.same s1
      obtain ⟨dx', eb⟩ := hb
      refine ⟨_, rfl, b, C, dx', _, _, rfl, eb, T.cls, ns, rfl, rfl, false, congrArg V.bl ((sg_zero p').trans (decide_eq_false hp')), iteF ?_⟩
      refine ⟨_, rfl, a, C, dx, _, _, rfl, ea, T.cls, nt, rfl, _, rfl, b, C, dx', _, _, rfl, eb, T.cls, nb, rfl, _, _, rfl, rfl, sz_mul sp sq', ?_⟩
      refine ⟨_, rfl, a, C, dx, _, _, rfl, ea, T.cls, nb, rfl, _, rfl, b, C, dx', _, _, rfl, eb, T.cls, nt, rfl, _, _, rfl, rfl, sz_mul sq sp', ?_⟩
      exact ⟨_, _, rfl, .inl ⟨_, _, rfl, rfl, Int.mul_ne_zero hq hp', sz_big (sz_prod sp sq'), sz_big (sz_prod sq sp'), fun a' H' s ra => k a' H' (s1.trans s) ra⟩⟩
    · refine ⟨_, rfl, _, _, rfl, .inl ⟨0, q', hn, fun b H1 s1 hb => ?_⟩⟩
      obtain ⟨dx', eb⟩ := hb
      refine ⟨_, rfl, b, C, dx', _, _, rfl, eb, T.cls, ns, rfl, rfl, true, congrArg V.bl ((sg_zero 0).trans (decide_eq_true rfl)), iteT ?_⟩
      exact raiseN R.M rfl (by decide) (Rz.same rz s1)
    · exact ⟨_, rfl, _, _, rfl, .inr ⟨ho.notNum R.odd, rz⟩⟩
theorem scIR : FnScope ["value"] ["value"] (defScope (top 22)) := ⟨rfl, rfl, rfl, by decide +kernel, rfl, by decide +kernel, by decide +kernel⟩
theorem ok_isRatio {f : Addr} {fd : FuncData} (F : FnP K "is_ratio" (top 22) f fd) (R : RatG P w K mg base C BR) : FnOk P w K mg base CX0 2 f fd ["value"] (spIsR K C) := by
  obtain ⟨fI, fdI, GI, bI, kI, gI⟩ := R.int
  refine F.ok scIR (fun vs H Q E h => ?_) (fun cdv A outer s H vs Q E hr h => ?_)
  · obtain ⟨x, rfl, _⟩ := h
    rfl
  · obtain ⟨x, rfl, h⟩ := h
    have hr1 : Room 1 _ := hr
    refine ⟨_, PSs.nox (pss_one (ps_ret (pe_or (pe_callB call_isi (by rfl) R.bi (by decide +kernel) (pa_cons (pv 0) (pa_cons (pe_glob (v := .ref _) rfl R.g rfl) pa_nil))) (pe_one (pe_call GI hr1 rfl gI kI bI .nil pass0 (pa_cons (pv 0) pa_nil)))))), ?_⟩
    rcases h with ⟨p, q, hn, k⟩ | ⟨T, ho, k⟩
    · rcases hn with ⟨b, rfl, hb⟩ | ⟨rfl, _, _⟩
      · exact ⟨_, rfl, _, _, _, _, _, rfl, .own C, hb.ty R.T R.I, R.I.cc, _, rfl, iteT k⟩
      · exact ⟨_, rfl, _, _, _, _, _, rfl, .own C, .base (.int p), R.I.ic, _, rfl, iteF ⟨_, rfl, _, _, rfl, intIs_int p, k⟩⟩
    · exact ⟨_, rfl, _, _, _, _, _, rfl, .own C, ho.ty, R.odd T ho.mem, _, rfl, iteF ⟨_, rfl, _, _, rfl, (ho.notNum R.odd).2, k⟩⟩
end
end K01
namespace K01
open PySem PySem.Spec PyProof.Rows L2 RatM
theorem same_updR {H : Hp} {p : Addr} {o : HO} (h : H p = none) : Same H (upd H p o) := fun b x e => by
  rw [upd_ne (ne_of_none e h)]
  exact e
/-- one more ratio added -/
def accS (s x : Int × Int) : Int × Int := (lowT (s.1 * x.2 + x.1 * s.2) (s.2 * x.2), lowB (s.1 * x.2 + x.1 * s.2) (s.2 * x.2))
def accN (L : List (Int × Int)) : Int × Int := L.foldl accS (0, 1)
theorem accN_take {L : List (Int × Int)} {i : Nat} {x : Int × Int} (h : L[i]? = some x) : accN (L.take (i + 1)) = accS (accN (L.take i)) x := by
  unfold accN
  rw [List.take_add_one, h, List.foldl_append]
  rfl
def NumL (H : Hp) (C : Addr) : List V → List (Int × Int) → Prop := Paired fun x l => NumAt H C x l.1 l.2 ∧ Sz l.1 ∧ Sz l.2 ∧ l.2 ≠ 0
theorem NumL.at_ {H : Hp} {C : Addr} : ∀ {xs : List V} {L : List (Int × Int)} (_ : NumL H C xs L) {i : Nat} {x : V}, xs[i]? = some x → ∃ l, L[i]? = some l ∧ NumAt H C x l.1 l.2 ∧ Sz l.1 ∧ Sz l.2 ∧ l.2 ≠ 0
  | _, _, .nil, i, x, h => by simp at h
  | _, _, .cons h t, 0, x, e => by
    simp only [List.getElem?_cons_zero, Option.some.injEq] at e
    subst e
    exact ⟨_, rfl, h⟩
  | _, _, .cons h t, i + 1, x, e => by
    rw [List.getElem?_cons_succ] at e
    obtain ⟨l, h1, h2⟩ := NumL.at_ t e
    exact ⟨l, by rw [List.getElem?_cons_succ]; exact h1, h2⟩
theorem NumL.same {H H' : Hp} {C : Addr} (s : Same H H') : ∀ {xs : List V} {L : List (Int × Int)}, NumL H C xs L → NumL H' C xs L
  | _, _, .nil => .nil
  | _, _, .cons h t => .cons ⟨h.1.same s, h.2⟩ (NumL.same s t)
/-- whether each is a number -/
def Kinds (H : Hp) (C : Addr) (xs : List V) (bs : List Bool) : Prop := xs.length = bs.length ∧ ∀ (i : Nat) (x : V), xs[i]? = some x → (bs[i]? = some true ∧ ∃ p q, NumAt H C x p q) ∨ (bs[i]? = some false ∧ ∃ T, OddAt H x T)
theorem Kinds.same {H H' : Hp} {C : Addr} {xs : List V} {bs : List Bool} (h : Kinds H C xs bs) (s : Same H H') : Kinds H' C xs bs :=
  ⟨h.1, fun i x e => (h.2 i x e).imp (fun ⟨b, p, q, n⟩ => ⟨b, p, q, n.same s⟩) fun ⟨b, T, o⟩ => ⟨b, T, o.same s⟩⟩
theorem NumL.kinds {H : Hp} {C : Addr} {xs : List V} {L : List (Int × Int)} (h : NumL H C xs L) : Kinds H C xs (xs.map fun _ => true) := by
  refine ⟨(List.length_map ..).symm, fun i x e => .inl ⟨by rw [List.getElem?_map, e]; rfl, ?_⟩⟩
  obtain ⟨l, _, n, _⟩ := h.at_ e
  exact ⟨_, _, n⟩
def spAdI (K : PySem.W.Frag) (C BR : Addr) : Sp := fun vs H Q E => ∃ (p : Addr) (xs : List V) (bs : List Bool), vs = [.ref p] ∧ H p = some (.tup xs) ∧ xs.length ≤ 1000 ∧ Kinds H C xs bs ∧
  ((∃ L, NumL H C xs L ∧ (∀ n, Sz (accN (L.take n)).1 ∧ Sz (accN (L.take n)).2 ∧ (accN (L.take n)).2 ≠ 0) ∧ bs.all id = true ∧ ∀ a H', Same H H' → RatAt H' a C (accN L).1 (accN L).2 → Q (.ref a) H') ∨
   (bs.all id = false ∧ Rz H E BR [("part", .str "ratios")]))
/-- added(..) -/
def spAdd (K : PySem.W.Frag) (C BR : Addr) : Sp := fun vs H Q E => ∃ (bs : List Bool), vs.length ≤ 1000 ∧ Kinds H C vs bs ∧
  ((∃ L, NumL H C vs L ∧ (∀ n, Sz (accN (L.take n)).1 ∧ Sz (accN (L.take n)).2 ∧ (accN (L.take n)).2 ≠ 0) ∧ bs.all id = true ∧ ∀ a H', Same H H' → RatAt H' a C (accN L).1 (accN L).2 → Q (.ref a) H') ∨
   (bs.all id = false ∧ Rz H E BR [("part", .str "ratios")]))
section
variable {P : Program} {w : World} {K : PySem.W.Frag} {mg : Str → Option Value} {base : Heap} {C BR : Addr}
theorem scAdd2 : FnScope ["ratios", "ratio", "total"] (([] : List Str) ++ ([("ratios" : Str)] : List Str)) (defScope (top 23)) := ⟨rfl, rfl, rfl, by decide +kernel, rfl, by decide +kernel, by decide +kernel⟩
theorem ok_added {f fR : Addr} {fd fdR : FuncData} (F : FnP K "added" (top 23) f fd) (R : RatG P w K mg base C BR) (FR : FnP K "is_ratio" (top 22) fR fdR) (gR : mg "is_ratio" = some (.ref fR)) (bA : mg "all" = none) : FnR P w K mg base (L2.CX P w) 7 f (spAdd K C BR) := by
  have GR : FnOk P w K mg base CX0 2 fR fdR ["value"] (spIsR K C) := ok_isRatio FR R
  have bR : Binds K fdR ["value"] [] := FR.bindsN fun _ _ _ _ _ _ us hl => match us, hl with | [_], _ => rfl
  obtain ⟨fA, fdA, OA, GA, bAd⟩ := R.add
  obtain ⟨oc, od, dV, kV, doc, pm, an, cdv, ct, osl, rfl, lk, hcd, hD, _⟩ := F.ex
  have hd0 : dV = .none := by
    rcases hD with ⟨_, e⟩ | ⟨e, _⟩
    · exact e
    · exact absurd rfl e
  subst hd0
  have FS := StX.fn_star (CX := L2.CX P w) (P := P) (w := w) (mg := mg) (base := base) (k := 6) (ps := []) (pv := "ratios") (sp := spAdI K C BR) lk hcd scAdd2 StX.cxUp (fun us rest hl => by
    match us, hl with
    | [], _ =>
      cases rest with
      | nil => rfl
      | cons r rs => rfl) (fun A outer s H vs Q E hr h => ?_)
  · refine FS.imp fun vs H Q E h => ?_
    obtain ⟨bs, hz, hk, h⟩ := h
    refine ⟨[], vs, rfl, rfl, by rw [sizeLine_eq]; omega, fun p np => ?_⟩
    have s1 := same_updR (o := .tup vs) np
    refine ⟨p, vs, bs, rfl, upd_same, hz, hk.same s1, ?_⟩
    rcases h with ⟨L, hl, hs, ha, k⟩ | ⟨ha, rz⟩
    · exact .inl ⟨L, hl.same s1, hs, ha, fun a H' s ra => k a H' (s1.trans s) ra⟩
    · exact .inr ⟨ha, Rz.same rz s1⟩
  · obtain ⟨p, xs, bs, rfl, hp, hz, hk, h⟩ := h
    have hr6 : Room 6 _ := hr
    have hr4 : Room 4 _ := hr6.mono (by decide)
    have hr2 : Room 2 _ := hr6.mono (by decide)
    refine ⟨_, pss_cons (ps_if (pt_not (pt_val (pe_callB (cr_all rfl) (by rfl) bA PyProof.Rows.boot_all (pa_cons (pe_lc (own := [("ratio", 1)]) (g := gName 1) (tt := tYes) rfl scAdd2.nd (pi_tup (pv 0)) (blkOk_by (N := ["ratios", "ratio", "total"]) (sc := defScope (top 23)) (by decide +kernel))
          (fun _ _ _ _ _ => pg_name (i := 1) scAdd2.nd rfl (Or.inl rfl)) (fun _ _ _ _ _ => pts_nil) (fun _ _ _ _ _ => pe_call GR hr2 rfl gR FR.kp bR .nil pass0 (pa_cons (pv 1) pa_nil))) pa_nil)))) (pss_one (ps_raiseN rfl R.M hr2 (takes_of rfl rfl rfl rfl) (by rfl) (pa_cons pe_str pa_nil))) pss_nil)
      (pss_cons (ps_set (i := 2) scAdd2.nd rfl (.inl rfl) (pe_rat1 R.toRatK hr4 (E := E0) passL (by rfl) (pa_cons pe_int pa_nil)))
      (pss_cons (ps_for (passes_of rfl) rfl (pi_tup (pv 0)) (pg_name (i := 1) scAdd2.nd rfl (Or.inl rfl)) (pss_one (ps_set (i := 2) scAdd2.nd rfl (.inl rfl) (pe_op (op_rat (op := .Add) R.sf R.odd OA GA bAd hr6 (E := E0) passL) (pv 2) (pv 1)))))
      (pss_one (ps_ret (pv 2))))), ?_⟩
    have lenB : (bs.map V.bl).length = xs.length := by rw [List.length_map, hk.1]
    refine ⟨_, rfl, p, rfl, ⟨_, SqT.of hp⟩, fun D nD => ?_⟩
    refine lc_it (walk_tup (K := K) (a := p) (xs := xs)) (fun j H2 => Same H H2 ∧ H2 D = some (.lst ((bs.map V.bl).take j))) ⟨same_updR nD, upd_same⟩ (fun i H2 _ q => SqT.of (q.1 _ _ hp)) ?_ ?_
    · rintro i x H2 H3 hi ⟨s2, hD2⟩ ⟨rfl, ex⟩
      refine ⟨rfl, ?_⟩
      unfold tYes
      dsimp only
      rw [if_pos rfl]
      have kx := (hk.same s2).2 i x ex
      have step : ∀ b, bs[i]? = some b → ∃ acc, H3 D = some (.lst acc) ∧ acc.length < sizeLine ∧ Same H (upd H3 D (.lst (acc ++ [.bl b]))) ∧ (upd H3 D (.lst (acc ++ [.bl b]))) D = some (.lst ((bs.map V.bl).take (i + 1))) := fun b eb => by
        refine ⟨_, hD2, by rw [List.length_take, lenB, sizeLine_eq]; omega, fun c o z => ?_, ?_⟩
        · rw [upd_ne (ne_of_none z nD)]; exact s2 c o z
        · rw [upd_same, List.take_add_one, List.getElem?_map, eb]
          rfl
      rcases kx with ⟨eb, a, q, n⟩ | ⟨eb, T, o⟩
      · exact ⟨_, rfl, x, rfl, .inl ⟨a, q, n, step true eb⟩⟩
      · exact ⟨_, rfl, x, rfl, .inr ⟨T, o, step false eb⟩⟩
    · rintro H2 ⟨s2, hD2⟩
      rw [← lenB, List.take_length] at hD2
      refine ⟨D, bs, rfl, SqL.of hD2, _, rfl, ?_⟩
      rcases h with ⟨L, hl, hs, ha, k⟩ | ⟨ha, rz⟩
      · rw [ha]
        refine iteF ⟨_, rfl, .inl ⟨0, 1, rfl, rfl, by decide, by decide +kernel, by decide +kernel, fun a0 H3 s3 ra => ?_⟩⟩
        have s13 := s2.trans s3
        refine ⟨_, rfl, p, rfl, ⟨_, SqT.of (s13 _ _ hp)⟩, ?_⟩
        have lenL : xs.length = L.length := Paired.length hl
        refine for_it (walk_tup (K := K) (a := p) (xs := xs)) (fun n σ H' => (∃ v1 a, σ = [some (.ref p), v1, some (.ref a)] ∧ RatAt H' a C (accN (L.take n)).1 (accN (L.take n)).2) ∧ Same H H') ⟨⟨none, a0, rfl, ra⟩, s13⟩ (fun i σ H' _ q => SqT.of (q.2 _ _ hp)) ?_ ?_
        · rintro i x σ H4 H5 hi ⟨⟨v1, a, rfl, ra1⟩, s4⟩ ⟨rfl, ex⟩
          obtain ⟨l, el, n1, n2, n3, n4⟩ := (hl.same s4).at_ ex
          obtain ⟨z1, z2, z3⟩ := hs i
          refine ⟨_, rfl, _, rfl, a, _, _, rfl, ra1, z1, z2, z3, .inl ⟨l.1, l.2, n1, n2, n3, n4, fun a' H6 s6 ra2 => ?_⟩⟩
          refine ⟨⟨some x, a', rfl, ?_⟩, s4.trans s6⟩
          rw [accN_take el]
          exact ra2
        · rintro σ H4 ⟨⟨v1, a, rfl, ra1⟩, s4⟩
          rw [lenL, List.take_length] at ra1
          exact ⟨_, rfl, k a H4 s4 ra1⟩
      · rw [ha]
        exact iteT (raiseN R.M rfl (by decide) (Rz.same rz s2))
end
end K01
namespace RatM
/-! ### Euclid, four hundred turns -/
def euS (s : Nat × Nat) : Nat × Nat := if 0 < s.2 then (s.2, s.1 % s.2) else s
def euN : Nat → Nat × Nat → Nat × Nat
  | 0, s => s
  | n + 1, s => euS (euN n s)
theorem euS_gcd (s : Nat × Nat) : Nat.gcd (euS s).1 (euS s).2 = Nat.gcd s.1 s.2 := by
  unfold euS
  split
  · show Nat.gcd s.2 (s.1 % s.2) = _
    rw [Nat.gcd_comm s.2, ← Nat.gcd_rec, Nat.gcd_comm]
  · rfl
theorem euN_gcd (s : Nat × Nat) : ∀ n, Nat.gcd (euN n s).1 (euN n s).2 = Nat.gcd s.1 s.2
  | 0 => rfl
  | n + 1 => (euS_gcd _).trans (euN_gcd s n)
def euP (n : Nat) (s : Nat × Nat) : Prop := s.2 = 0 ∨ ∃ k, (n = 2 * k ∧ s.2 < 2 ^ (200 - k)) ∨ (n = 2 * k + 1 ∧ s.1 < 2 ^ (200 - k) ∧ s.2 < s.1)
theorem half {h t : Nat} (h0 : 0 < t) (h1 : t < h) : 2 * (h % t) < h := by
  have a := Nat.mod_lt h h0
  have b := Nat.div_add_mod h t
  have c : 1 ≤ h / t := (Nat.le_div_iff_mul_le h0).mpr (by omega)
  have d : t * 1 ≤ t * (h / t) := Nat.mul_le_mul_left t c
  omega
theorem euP_step {n : Nat} {s : Nat × Nat} (hn : n < 400) (h : euP n s) : euP (n + 1) (euS s) := by
  by_cases h0 : 0 < s.2
  · have e : euS s = (s.2, s.1 % s.2) := if_pos h0
    rw [e]
    rcases h with z | ⟨k, ⟨rfl, h1⟩ | ⟨rfl, h1, h2⟩⟩
    · omega
    · exact .inr ⟨k, .inr ⟨rfl, h1, Nat.mod_lt _ h0⟩⟩
    · refine .inr ⟨k + 1, .inl ⟨by omega, ?_⟩⟩
      have z := half h0 h2
      have p : 2 ^ (200 - k) = 2 ^ (200 - (k + 1)) * 2 := by rw [← Nat.pow_succ]; congr 1; omega
      show s.1 % s.2 < 2 ^ (200 - (k + 1))
      omega
  · have e : euS s = s := if_neg h0
    rw [e]
    exact .inl (by omega)
theorem euN_P {s : Nat × Nat} (h : s.2 < 2 ^ 200) : ∀ n, n ≤ 400 → euP n (euN n s)
  | 0, _ => .inr ⟨0, .inl ⟨rfl, h⟩⟩
  | n + 1, hn => euP_step (by omega) (euN_P h n (by omega))
theorem euN_end {s : Nat × Nat} (h : s.2 < 2 ^ 200) : (euN 400 s).2 = 0 ∧ (euN 400 s).1 = Nat.gcd s.1 s.2 := by
  have z : (euN 400 s).2 = 0 := by
    rcases euN_P h 400 (Nat.le_refl _) with z | ⟨k, ⟨e, z⟩ | ⟨e, _⟩⟩
    · exact z
    · have k2 : k = 200 := by omega
      rw [k2] at z
      have z2 : (euN 400 s).2 < 1 := z
      omega
    · omega
  refine ⟨z, ?_⟩
  have g := euN_gcd s 400
  rw [z, Nat.gcd_zero_right] at g
  exact g
end RatM
namespace K01
open PySem PySem.Spec PyProof.Rows L2
abbrev sTill : Stmt := top 29
abbrev sCoin : Stmt := top 30
abbrev sOf : Stmt := top 31
/-- all but t stands -/
def Keep (t : Addr) (H H' : Hp) : Prop := ∀ b o, b ≠ t → H b = some o → H' b = some o
/-- what draws: at t the list of the cells' list c, how many were begun, what is left of a great one -/
structure Till (H : Hp) (t c : Addr) (cells : List Int) (i g : Int) : Prop where
  ht : H t = some (.lst [.ref c, .int i, .int g])
  hc : H c = some (.lst (cells.map V.int))
  ne : c ≠ t
structure Blt (mg : Str → Option Value) : Prop where
  int : mg "int" = none
  len : mg "len" = none
  abs : mg "abs" = none
theorem dp_ints {K : PySem.W.Frag} {H : Hp} : ∀ l : List Int, DpAll K H (l.map V.int) (l.map PyData.int)
  | [] => .nil
  | x :: l => .cons (.int x) (dp_ints l)
theorem can_ints : ∀ l : List Int, PyData.canLayAll0 (l.map PyData.int) = true
  | [] => rfl
  | x :: l => by
    have ih := can_ints l
    simp [PyData.canLayAll0, PyData.canLay0, ih]
theorem deep_ints : ∀ l : List Int, PyData.depthAll (l.map PyData.int) = 0
  | [] => rfl
  | x :: l => by
    have ih := deep_ints l
    simp [PyData.depthAll, PyData.depth, ih]
theorem shaped_ints (l : List Int) : SeqAt.shaped (.list (l.map PyData.int)) = true := by
  have h1 := can_ints l
  have h2 := deep_ints l
  simp [SeqAt.shaped, PyData.canLay0, PyData.depth, h1, h2]
theorem eqv_nil (l : List Int) : PyData.eqv (.list (l.map PyData.int)) (.list []) = l.isEmpty := by
  cases l <;> simp [PyData.eqv, PyData.eqvAll]
theorem mix1 {c i : Int} (h0 : 0 ≤ i) (h1 : i ≤ 1000000) : (c % 2147483629 + 61291 * i + 5309).natAbs < 2 ^ 64 := by
  have a := Int.emod_nonneg c (show (2147483629 : Int) ≠ 0 by decide)
  have b := Int.emod_lt_of_pos c (show (0 : Int) < 2147483629 by decide)
  omega
theorem mix2 {m i : Int} (h0 : 0 ≤ i) (h1 : i ≤ 1000000) (m0 : 0 ≤ m) (m1 : m < 2147483647) : (m * (2 * i + 2473) + 48647 * i * i + 5309).natAbs < 2 ^ 64 := by
  have a0 : 0 ≤ m * (2 * i + 2473) := Int.mul_nonneg m0 (by omega)
  have a1 : m * (2 * i + 2473) ≤ 2147483647 * 2002473 := Int.mul_le_mul (by omega) (by omega) (by omega) (by omega)
  have b0 : 0 ≤ 48647 * i * i := Int.mul_nonneg (by omega) h0
  have b1 : 48647 * i * i ≤ 61657000000 * 1000000 := Int.mul_le_mul (by omega) h1 h0 (by omega)
  omega
theorem modOk {x many : Int} (h : 0 < many) : 0 ≤ x.fmod many ∧ x.fmod many < many := by
  have e : x.fmod many = x % many := Int.fmod_eq_emod_of_nonneg x (by omega)
  rw [e]
  exact ⟨Int.emod_nonneg _ (by omega), Int.emod_lt_of_pos _ h⟩
theorem greatOk {a b : Int} (h : decide ((10 : Int) ^ (18 : Int).toNat ≤ a) = true) (hb : 0 ≤ b) : 0 ≤ 2 * (a - (10 : Int) ^ (18 : Int).toNat) + b := by
  have h2 := of_decide_eq_true h
  omega
theorem bitOk (c : Bool) : (0 : Int) ≤ if c = true then 1 else 0 := by cases c <;> decide
theorem emodB (x : Int) : -(2 ^ 64) < x % 2147483647 ∧ x % 2147483647 < 2 ^ 64 := by
  have a := Int.emod_nonneg x (show (2147483647 : Int) ≠ 0 by decide)
  have b := Int.emod_lt_of_pos x (show (0 : Int) < 2147483647 by decide)
  omega
theorem mix2E {x i : Int} (h0 : 0 ≤ i) (h1 : i ≤ 1000000) : ((x % 2147483647) * (2 * i + 2473) + 48647 * i * i + 5309).natAbs < 2 ^ 64 :=
  mix2 h0 h1 (Int.emod_nonneg x (by decide)) (Int.emod_lt_of_pos x (by decide))
theorem atB {i : Int} (h0 : 0 ≤ i) (h1 : i ≤ 1000000) : -(2 ^ 64) < 48647 * i ∧ 48647 * i < 2 ^ 64 := by omega
def spCoin : Sp := fun vs H Q _ => ∃ (t c : Addr) (cells : List Int) (i g many : Int), vs = [.ref t, .int many] ∧ Till H t c cells i g ∧ 0 ≤ i ∧ i ≤ 1000000 ∧ 0 ≤ g ∧ 0 < many ∧ many.natAbs < 2 ^ 8000 ∧
  ∀ (r i' g' : Int) (H' : Hp), 0 ≤ r → r < many → 0 ≤ i' → i' ≤ i + 1 → 0 ≤ g' → Keep t H H' → Till H' t c cells i' g' → Q (.int r) H'
section
variable {P : Program} {w : World} {K : PySem.W.Frag} {mg : Str → Option Value} {base : Heap}
theorem scC : FnScope ["_law_till_here", "_law_many", "_law_digit", "_law_at", "_law_cell", "_law_great", "_law_mixed"] ["_law_till_here", "_law_many"] (defScope sCoin) := ⟨rfl, rfl, rfl, by decide +kernel, rfl, by decide +kernel, by decide +kernel⟩
theorem ok_coin {f : Addr} {fd : FuncData} (F : FnP K "_law_coin" sCoin f fd) (T : Blt mg) : FnOk P w K mg base CX0 1 f fd ["_law_till_here", "_law_many"] spCoin := by
  refine F.ok scC (fun vs H Q E h => ?_) (fun cdv A outer s H vs Q E hr h => ?_)
  · obtain ⟨t, c, cells, i, g, many, rfl, _⟩ := h
    rfl
  · obtain ⟨t, c, cells, i, g, many, rfl, hT, hi0, hi1, hg, hm0, hm1, k⟩ := h
    have hu := hu_of hr
    refine ⟨_, PSs.nox (pss_cons (ps_if (pt_cmpR op_gt (pe_ix ix_list (pv 0) pe_int (fun _ _ => rfl)) pe_int (nomark _)) (pss_cons (ps_set (i := 2) scC.nd rfl (.inl rfl) (pe_op op_modN (pe_callTy call_int1 (by rfl) T.int PyProof.Rows.boot_int (pa_cons (pe_ix ix_list (pv 0) pe_int (fun _ _ => rfl)) pa_nil)) (pv 1)))
        (pss_cons (ps_asg (pe_op op_fdivW (pe_callTy call_int1 (by rfl) T.int PyProof.Rows.boot_int (pa_cons (pe_ix ix_list (pv 0) pe_int (fun _ _ => rfl)) pa_nil)) (pv 1)) (pg_sub (pv 0) pe_int set_list))
        (pss_one (ps_ret (pv 2))))) pss_nil)
        (pss_cons (ps_set (i := 3) scC.nd rfl (.inl rfl) (pe_ix ix_list (pv 0) pe_int (fun _ _ => rfl)))
        (pss_cons (ps_asg (pe_op op_add (pv 3) pe_int) (pg_sub (pv 0) pe_int set_list))
        (pss_cons (ps_set (i := 4) scC.nd rfl (.inl rfl) (pe_op op_add (pe_op op_mul pe_int (pv 3)) pe_int))
        (pss_cons (ps_if (pt_cmpR (op_neD hr.units) (pe_ix ix_list (pv 0) pe_int (fun _ _ => rfl)) (pe_lst pa_nil) (nomark _)) (pss_one (ps_set (i := 4) scC.nd rfl (.inl rfl) (pe_ix ix_list (pe_ix ix_list (pv 0) pe_int (fun _ _ => rfl)) (pe_op op_modN (pe_callTy call_int1 (by rfl) T.int PyProof.Rows.boot_int (pa_cons (pv 3) pa_nil)) (pe_callB call_len_seq (by rfl) T.len PySem.boot_len (pa_cons (pe_ix ix_list (pv 0) pe_int (fun _ _ => rfl)) pa_nil))) (fun _ _ => rfl)))) pss_nil)
        (pss_cons (ps_if (PW.pt (pw_and (pt_cmpR op_lt (pv 3) (pe_callB call_len_seq (by rfl) T.len PySem.boot_len (pa_cons (pe_ix ix_list (pv 0) pe_int (fun _ _ => rfl)) pa_nil)) (nomark _)) (pw_and1 (pt_cmpR op_ge (pe_callB call_abs (by rfl) T.abs (by decide +kernel) (pa_cons (pv 4) pa_nil)) (pe_op op_pow pe_int pe_int) (nomark _))))) (pss_cons (ps_set (i := 5) scC.nd rfl (.inl rfl) (pe_op op_add (pe_op op_mul pe_int (pe_op op_sub (pe_callB call_abs (by rfl) T.abs (by decide +kernel) (pa_cons (pv 4) pa_nil)) (pe_op op_pow pe_int pe_int))) (pe_callTy call_int1 (by rfl) T.int PyProof.Rows.boot_int (pa_cons (pe_cmpR op_lt (pv 4) pe_int (nomark _)) pa_nil))))
        (pss_cons (ps_asg (pe_op op_fdivW (pe_callTy call_int1 (by rfl) T.int PyProof.Rows.boot_int (pa_cons (pv 5) pa_nil)) (pv 1)) (pg_sub (pv 0) pe_int set_list))
        (pss_one (ps_ret (pe_op op_modN (pe_callTy call_int1 (by rfl) T.int PyProof.Rows.boot_int (pa_cons (pv 5) pa_nil)) (pv 1)))))) pss_nil)
        (pss_cons (ps_set (i := 6) scC.nd rfl (.inl rfl) (pe_op op_mod (pe_callTy call_int1 (by rfl) T.int PyProof.Rows.boot_int (pa_cons (pe_op op_pow (pe_op op_add (pe_op op_add (pe_op op_mod (pe_callTy call_int1 (by rfl) T.int PyProof.Rows.boot_int (pa_cons (pv 4) pa_nil)) pe_int) (pe_op op_mul pe_int (pv 3))) pe_int) pe_int) pa_nil)) pe_int))
        (pss_cons (ps_set (i := 6) scC.nd rfl (.inl rfl) (pe_op op_mod (pe_callTy call_int1 (by rfl) T.int PyProof.Rows.boot_int (pa_cons (pe_op op_pow (pe_op op_add (pe_op op_add (pe_op op_mul (pv 6) (pe_op op_add (pe_op op_mul pe_int (pv 3)) pe_int)) (pe_op op_mul (pe_op op_mul pe_int (pv 3)) (pv 3))) pe_int) pe_int) pa_nil)) pe_int))
        (pss_one (ps_ret (pe_op op_modN (pe_callTy call_int1 (by rfl) T.int PyProof.Rows.boot_int (pa_cons (pe_op op_fdiv (pv 6) pe_int) pa_nil)) (pv 1)))))))))))), ?_⟩
    have two : atI [V.ref c, V.int i, V.int g] 2 = some (.int g) := by rfl
    have mm : CDivW g many := wide_div hm0 hm1 (by decide) (by decide)
    refine ⟨_, rfl, _, _, _, _, rfl, rfl, SqL.of hT.ht, rfl, _, _, rfl, rfl, _, rfl, ?_⟩
    refine ite2 (fun hc => ?_) (fun hc => ?_)
    · refine ⟨_, rfl, _, _, _, _, rfl, rfl, SqL.of hT.ht, rfl, .inl ⟨_, rfl, _, rfl, _, _, rfl, rfl, by omega, ?_⟩⟩
      refine ⟨_, rfl, _, _, _, _, rfl, rfl, SqL.of hT.ht, rfl, .inl ⟨_, rfl, _, rfl, _, _, rfl, rfl, mm, ?_⟩⟩
      refine ⟨_, rfl, _, _, _, _, rfl, rfl, hT.ht, rfl, _, rfl, ?_⟩
      have e1 : g.fmod many = g % many := Int.fmod_eq_emod_of_nonneg g (by omega)
      refine k _ _ _ _ ?_ ?_ hi0 (by omega) ?_ (fun b o hb e => by rw [upd_ne hb]; exact e) ⟨upd_same, by rw [upd_ne hT.ne]; exact hT.hc, hT.ne⟩
      · rw [e1]; exact Int.emod_nonneg _ (by omega)
      · rw [e1]; exact Int.emod_lt_of_pos _ hm0
      · exact Int.ediv_nonneg hg (by omega)
    · refine ⟨_, rfl, _, _, _, _, rfl, rfl, SqL.of hT.ht, rfl, ?_⟩
      refine ⟨_, rfl, _, _, rfl, rfl, _, rfl, _, _, _, _, rfl, rfl, hT.ht, rfl, ?_⟩
      refine ⟨_, rfl, _, _, rfl, rfl, .inl ⟨by decide, by decide⟩, _, _, rfl, rfl, ?_⟩
      refine ⟨_, rfl, _, _, _, _, rfl, rfl, SqL.of upd_same, rfl, Nat.zero_le _, fun p hp => ?_⟩
      have npt : p ≠ t := fun z => by rw [z, upd_same] at hp; cases hp
      have hp0 : H p = none := by rw [upd_ne npt] at hp; exact hp
      have npc : c ≠ p := ne_of_none hT.hc hp0
      refine ⟨_, _, Dp.lst (SqL.of (by rw [upd_ne npc, upd_ne hT.ne]; exact hT.hc)) (dp_ints cells), Dp.lst (SqL.of upd_same) .nil, shaped_ints cells, by decide, _, rfl, ?_⟩
      have h2t : upd (upd H t (.lst ([V.ref c, V.int i, V.int g].set (Int.toNat 1) (.int (i + 1))))) p (.lst []) t = some (.lst [.ref c, .int (i + 1), .int g]) := by rw [upd_ne npt.symm, upd_same]; rfl
      have h2c : upd (upd H t (.lst ([V.ref c, V.int i, V.int g].set (Int.toNat 1) (.int (i + 1))))) p (.lst []) c = some (.lst (cells.map V.int)) := by rw [upd_ne npc, upd_ne hT.ne]; exact hT.hc
      have h2k : Keep t H (upd (upd H t (.lst ([V.ref c, V.int i, V.int g].set (Int.toNat 1) (.int (i + 1))))) p (.lst [])) := fun b o hb e => by rw [upd_ne (ne_of_none e hp0), upd_ne hb]; exact e
      generalize upd (upd H t (.lst ([V.ref c, V.int i, V.int g].set (Int.toNat 1) (.int (i + 1))))) p (.lst []) = H2 at h2t h2c h2k ⊢
      rw [eqv_nil]
      refine ite2 (fun hn => ?one) (fun hn => ?two)
      case' one =>
        have hl : 0 < cells.length := by
          cases cells with
          | nil => exact absurd hn (by decide)
          | cons x l => exact Nat.zero_lt_succ _
        have e1 : i.fmod (cells.length : Int) = i % (cells.length : Int) := Int.fmod_eq_emod_of_nonneg i (by omega)
        have b0 := Int.emod_nonneg i (show (cells.length : Int) ≠ 0 by omega)
        have b1 := Int.emod_lt_of_pos i (show (0 : Int) < cells.length by omega)
        obtain ⟨n, hn1⟩ : ∃ n : Nat, i.fmod (cells.length : Int) = n := ⟨(i % (cells.length : Int)).toNat, by rw [e1]; omega⟩
        have hn2 : n < cells.length := by omega
        refine ⟨_, rfl, _, _, _, _, rfl, rfl, SqL.of h2t, rfl, _, rfl, .inl ⟨_, rfl, _, rfl, _, _, _, _, rfl, rfl, SqL.of h2t, rfl, _, _, rfl, .inl (SqL.of h2c), _, _, rfl, rfl, (by rw [List.length_map]; omega), ?_⟩⟩
        refine ⟨_, _, _, V.int cells[n], rfl, rfl, SqL.of h2c, (by rw [List.length_map, hn1]; exact atI_nat (by rw [List.getElem?_map, List.getElem?_eq_getElem hn2]; rfl)), ?_⟩
      all_goals
        refine ⟨_, rfl, _, rfl, _, _, _, _, rfl, rfl, SqL.of h2t, rfl, _, _, rfl, .inl (SqL.of h2c), _, _, rfl, rfl, _, rfl, ?_⟩
        refine ite2 (fun hA => ?_) (fun hA => ?_)
        · refine ⟨_, rfl, _, rfl, _, _, rfl, rfl, ⟨by decide, by decide, by decide⟩, _, _, rfl, rfl, _, rfl, ?_⟩
          refine ite2 (fun hB => ?_) (fun hB => ?_)
          · refine ⟨_, rfl, _, rfl, _, _, rfl, rfl, ⟨by decide, by decide, by decide⟩, _, _, rfl, rfl, _, _, rfl, rfl, .inl ⟨by decide, by decide⟩, _, rfl, _, _, rfl, rfl, .inr ⟨_, rfl, _, _, rfl, rfl, ?_⟩⟩
            refine ⟨_, rfl, .inl ⟨_, rfl, _, rfl, _, _, rfl, rfl, wide_div hm0 hm1 (by decide) (by decide), _, rfl, _, _, _, _, rfl, rfl, h2t, rfl, ?_⟩⟩
            refine ⟨_, rfl, .inl ⟨_, rfl, _, rfl, _, _, rfl, rfl, by omega, ?_⟩⟩
            refine k _ (i + 1) _ _ (modOk hm0).1 (modOk hm0).2 (by omega) (Int.le_refl _) (Int.ediv_nonneg (greatOk hB (bitOk _)) (by omega)) (fun b o hb e => by rw [upd_ne hb]; exact h2k b o hb e) ⟨upd_same, by rw [upd_ne hT.ne]; exact h2c, hT.ne⟩
          · refine ⟨_, rfl, .inl ⟨_, rfl, _, _, rfl, rfl, (by show (0 : Int) < 2147483629; decide), _, rfl, _, _, rfl, rfl, .inl ⟨by decide, by decide⟩, _, _, rfl, rfl, _, _, rfl, rfl, _, _, rfl, rfl, ⟨by decide, by decide, mix1 hi0 hi1⟩, .inl ⟨_, rfl, _, _, rfl, rfl, (by show (0 : Int) < 2147483647; decide), ?_⟩⟩⟩
            refine ⟨_, rfl, _, rfl, _, _, rfl, rfl, .inl ⟨by decide, by decide⟩, _, _, rfl, rfl, _, _, rfl, rfl, .inl (emodB _), _, rfl, _, _, rfl, rfl, .inl ⟨by decide, by decide⟩, _, rfl, _, _, rfl, rfl, .inl (atB hi0 hi1), _, _, rfl, rfl, _, _, rfl, rfl, _, _, rfl, rfl, ⟨by decide, by decide, mix2E hi0 hi1⟩, .inl ⟨_, rfl, _, _, rfl, rfl, (by show (0 : Int) < 2147483587; decide), ?_⟩⟩
            exact ⟨_, rfl, _, _, rfl, rfl, ⟨by decide, by decide⟩, .inl ⟨_, rfl, _, rfl, _, _, rfl, rfl, (by omega), k _ (i + 1) g H2 (modOk hm0).1 (modOk hm0).2 (by omega) (Int.le_refl _) hg h2k ⟨h2t, h2c, hT.ne⟩⟩⟩
        · refine ⟨_, rfl, .inl ⟨_, rfl, _, _, rfl, rfl, (by show (0 : Int) < 2147483629; decide), _, rfl, _, _, rfl, rfl, .inl ⟨by decide, by decide⟩, _, _, rfl, rfl, _, _, rfl, rfl, _, _, rfl, rfl, ⟨by decide, by decide, mix1 hi0 hi1⟩, .inl ⟨_, rfl, _, _, rfl, rfl, (by show (0 : Int) < 2147483647; decide), ?_⟩⟩⟩
          refine ⟨_, rfl, _, rfl, _, _, rfl, rfl, .inl ⟨by decide, by decide⟩, _, _, rfl, rfl, _, _, rfl, rfl, .inl (emodB _), _, rfl, _, _, rfl, rfl, .inl ⟨by decide, by decide⟩, _, rfl, _, _, rfl, rfl, .inl (atB hi0 hi1), _, _, rfl, rfl, _, _, rfl, rfl, _, _, rfl, rfl, ⟨by decide, by decide, mix2E hi0 hi1⟩, .inl ⟨_, rfl, _, _, rfl, rfl, (by show (0 : Int) < 2147483587; decide), ?_⟩⟩
          exact ⟨_, rfl, _, _, rfl, rfl, ⟨by decide, by decide⟩, .inl ⟨_, rfl, _, rfl, _, _, rfl, rfl, (by omega), k _ (i + 1) g H2 (modOk hm0).1 (modOk hm0).2 (by omega) (Int.le_refl _) hg h2k ⟨h2t, h2c, hT.ne⟩⟩⟩
end
def spTill (K : PySem.W.Frag) : Sp := fun vs H Q _ => ∃ (a : Addr) (ns : List Int), vs = [.ref a] ∧ SqL K H a (ns.map V.int) ∧ ns.length ≤ 63 ∧
  ∀ (t c : Addr) (H' : Hp), Same H H' → H t = none → Till H' t c (ns.take 62) 0 0 → Q (.ref t) H'
/-- one of some things that stand in a list -/
def spOf : Sp := fun vs H Q _ => ∃ (t c a : Addr) (cells : List Int) (i g : Int) (xs : List V), vs = [.ref t, .ref a] ∧ Till H t c cells i g ∧ 0 ≤ i ∧ i ≤ 1000000 ∧ 0 ≤ g ∧ a ≠ t ∧ H a = some (.lst xs) ∧ 0 < xs.length ∧ xs.length ≤ 10000 ∧
  ∀ (v : V) (i' g' : Int) (H' : Hp), v ∈ xs → 0 ≤ i' → i' ≤ i + 1 → 0 ≤ g' → Keep t H H' → Till H' t c cells i' g' → Q v H'
theorem same_upd {H : Hp} {p : Addr} {o : HO} (h : H p = none) : Same H (upd H p o) := fun b x e => by
  rw [upd_ne (ne_of_none e h)]
  exact e
theorem cut62 (ns : List Int) : cutV (ns.map V.int) none (some 62) = (ns.take 62).map V.int := by
  unfold cutV
  rw [HT.sIx_none, show HT.sIx (ns.map V.int).length (ns.map V.int).length (some 62) = min 62 (ns.map V.int).length from HT.sIx_nat _ _ 62, List.drop_zero, List.map_take, Nat.sub_zero]
  rw [← List.take_take, List.take_length]
section
variable {P : Program} {w : World} {K : PySem.W.Frag} {mg : Str → Option Value} {base : Heap}
theorem scT : FnScope ["_law_script", "_law_cell"] ["_law_script"] (defScope sTill) := ⟨rfl, rfl, rfl, by decide +kernel, rfl, by decide +kernel, by decide +kernel⟩
theorem ok_till {f : Addr} {fd : FuncData} (F : FnP K "_law_till" sTill f fd) (T : Blt mg) : FnOk P w K mg base CX0 1 f fd ["_law_script"] (spTill K) := by
  refine F.ok scT (fun vs H Q E h => ?_) (fun cdv A outer s H vs Q E hr h => ?_)
  · obtain ⟨a, ns, rfl, _⟩ := h
    rfl
  · obtain ⟨a, ns, rfl, hS, hl, k⟩ := h
    refine ⟨_, PSs.nox (pss_one (ps_ret (pe_lst (pa_cons
      (pe_lc (own := [("_law_cell", 1)]) (g := gName 1) (tt := tYes) rfl scT.nd (pi_list (pe_slice sl_list (pv 0) po_none (po_some pe_int))) (blkOk_by (N := ["_law_script", "_law_cell"]) (sc := defScope sTill) (by decide +kernel))
        (fun _ _ _ _ _ => pg_name (i := 1) scT.nd rfl (Or.inl rfl)) (fun _ _ _ _ _ => pts_nil) (fun _ _ _ _ _ => pe_callTy call_int1 (by rfl) T.int PyProof.Rows.boot_int (pa_cons (pv 1) pa_nil)))
      (pa_cons pe_int (pa_cons pe_int pa_nil)))))), ?_⟩
    refine ⟨_, rfl, 62, rfl, a, _, rfl, hS, fun p np => ⟨_, rfl, ⟨_, SqL.of upd_same⟩, fun D nD => ?_⟩⟩
    have npD : p ≠ D := fun z => by rw [← z, upd_same] at nD; cases nD
    have nD0 : H D = none := by rw [upd_ne npD.symm] at nD; exact nD
    refine lc_list (K := K) (a := p) (xs := cutV (ns.map V.int) none (some 62))
      (fun j H2 => Same H H2 ∧ H2 p = some (.lst ((ns.take 62).map V.int)) ∧ H2 D = some (.lst (((ns.take 62).map V.int).take j))) ⟨?_, ?_, upd_same⟩ (fun j H2 _ hP => by rw [cut62]; exact SqL.of hP.2.1) ?_ ?_
    · exact (same_upd np).trans (same_upd nD)
    · rw [upd_ne npD, upd_same, cut62]
    · rintro j x H2 hx ⟨s2, hp2, hD2⟩
      rw [cut62] at hx
      obtain ⟨z, rfl⟩ : ∃ z, x = V.int z := by
        rw [List.getElem?_map] at hx
        cases e : (ns.take 62)[j]? with
        | none => rw [e] at hx; cases hx
        | some z => rw [e] at hx; exact ⟨z, (Option.some.inj hx).symm⟩
      have hj : j < ((ns.take 62).map V.int).length := (List.getElem?_eq_some_iff.mp hx).1
      have hj2 : j < 62 := by rw [List.length_map, List.length_take] at hj; omega
      refine ⟨rfl, ?_⟩
      unfold tYes
      dsimp only
      rw [if_pos rfl]
      refine ⟨_, rfl, .inl ⟨_, rfl, _, hD2, ?_, fun b o e => ?_, ?_, ?_⟩⟩
      · rw [List.length_take, sizeLine_eq]; omega
      · rw [upd_ne (ne_of_none e nD0)]; exact s2 b o e
      · rw [upd_ne npD]; exact hp2
      · have e : ((ns.take 62).map V.int).take (j + 1) = ((ns.take 62).map V.int).take j ++ [V.int z] := by
          have q := List.take_add_one (l := (ns.take 62).map V.int) (i := j)
          rw [hx] at q
          exact q
        rw [upd_same, e]
    · rintro H2 ⟨s2, hp2, hD2⟩
      refine ⟨by show 3 ≤ sizeLine; decide, fun t nt => ?_⟩
      have e1 : H2 D = some (.lst ((ns.take 62).map V.int)) := by
        rw [hD2, cut62, List.take_length]
      have ntD : D ≠ t := ne_of_none e1 nt
      exact k t D _ (s2.trans (same_upd nt)) (s2.free nt) ⟨upd_same, by rw [upd_ne ntD]; exact e1, ntD⟩
theorem scO : FnScope ["_law_till_here", "_law_some"] ["_law_till_here", "_law_some"] (defScope sOf) := ⟨rfl, rfl, rfl, by decide +kernel, rfl, by decide +kernel, by decide +kernel⟩
theorem ok_of {f fC : Addr} {fd fdC : FuncData} (F : FnP K "_law_of" sOf f fd) (T : Blt mg) (gC : mg "_law_coin" = some (.ref fC)) (FC : FnP K "_law_coin" sCoin fC fdC) : FnOk P w K mg base CX0 2 f fd ["_law_till_here", "_law_some"] spOf := by
  have GC : FnOk P w K mg base CX0 1 fC fdC ["_law_till_here", "_law_many"] spCoin := ok_coin FC T
  have bC : Binds K fdC ["_law_till_here", "_law_many"] [] := FC.bindsN fun _ _ _ _ _ _ us hl => match us, hl with | [_, _], _ => rfl
  have kC := FC.kp
  refine F.ok scO (fun vs H Q E h => ?_) (fun cdv A outer s H vs Q E hr h => ?_)
  · obtain ⟨t, c, a, cells, i, g, xs, rfl, _⟩ := h
    rfl
  · obtain ⟨t, c, a, cells, i, g, xs, rfl, hT, hi0, hi1, hg, nat, ha, hx0, hx1, k⟩ := h
    have hr1 : Room 1 _ := hr
    refine ⟨_, PSs.nox (pss_one (ps_ret (pe_ix ix_list (pv 1) (pe_call GC hr1 rfl gC kC bC .nil pass0 (pa_cons (pv 0) (pa_cons (pe_callB call_len_seq (by rfl) T.len PySem.boot_len (pa_cons (pv 1) pa_nil)) pa_nil))) (fun _ _ => rfl)))), ?_⟩
    have hz : (2 : Nat) ^ 8000 > 10000 := by decide +kernel
    refine ⟨_, rfl, _, rfl, _, rfl, _, _, rfl, .inl (SqL.of ha), t, c, cells, i, g, _, rfl, hT, hi0, hi1, hg, by omega, by omega, fun r i' g' H' r0 r1 i0 i1 g0 kp T' => ?_⟩
    obtain ⟨n, rfl⟩ : ∃ n : Nat, r = n := ⟨r.toNat, by omega⟩
    have hn : n < xs.length := by omega
    exact ⟨_, _, _, xs[n], rfl, rfl, SqL.of (kp a _ nat ha), atI_nat (List.getElem?_eq_getElem hn), k _ i' g' H' (List.getElem_mem hn) i0 i1 g0 kp T'⟩
end
end K01
namespace K01
open PySem PySem.Spec PyProof.Rows L2 RatM
theorem Keep.of {t : Addr} {H H' : Hp} (s : Same H H') : Keep t H H' := fun b o _ e => s b o e
theorem Keep.trans {t : Addr} {H H1 H2 : Hp} (a : Keep t H H1) (b : Keep t H1 H2) : Keep t H H2 := fun c o n e => b c o n (a c o n e)
theorem Till.same {H H' : Hp} {t c : Addr} {cells : List Int} {i g : Int} (T : Till H t c cells i g) (s : Same H H') : Till H' t c cells i g := ⟨s _ _ T.ht, s _ _ T.hc, T.ne⟩
/-- a drawn number below 10 ^ 30, of either sign; n draws at most; nz: never 0 -/
def spNum (nz : Bool) : Sp := fun vs H Q _ => ∃ (t c : Addr) (cells : List Int) (i g : Int), vs = [.ref t] ∧ Till H t c cells i g ∧ 0 ≤ i ∧ i ≤ 900000 ∧ 0 ≤ g ∧
  ∀ (n i' g' : Int) (H' : Hp), n.natAbs < 10 ^ 30 → (nz = true → n ≠ 0) → 0 ≤ i' → i' ≤ i + 3 → 0 ≤ g' → Keep t H H' → Till H' t c cells i' g' → Q (.int n) H'
section
variable {P : Program} {w : World} {K : PySem.W.Frag} {mg : Str → Option Value} {base : Heap}
theorem scNu : FnScope ["_law_till_here", "_law_number_here"] ["_law_till_here"] (defScope (top 32)) := ⟨rfl, rfl, rfl, by decide +kernel, rfl, by decide +kernel, by decide +kernel⟩
theorem ok_number {f fC : Addr} {fd fdC : FuncData} (F : FnP K "_law_number" (top 32) f fd) (T : Blt mg) (gC : mg "_law_coin" = some (.ref fC)) (FC : FnP K "_law_coin" sCoin fC fdC) : FnOk P w K mg base CX0 2 f fd ["_law_till_here"] (spNum false) := by
  have GC : FnOk P w K mg base CX0 1 fC fdC ["_law_till_here", "_law_many"] spCoin := ok_coin FC T
  have bC : Binds K fdC ["_law_till_here", "_law_many"] [] := FC.bindsN fun _ _ _ _ _ _ us hl => match us, hl with | [_, _], _ => rfl
  refine F.ok scNu (fun vs H Q E h => ?_) (fun cdv A outer s H vs Q E hr h => ?_)
  · obtain ⟨t, c, cells, i, g, rfl, _⟩ := h
    rfl
  · obtain ⟨t, c, cells, i, g, rfl, hT, hi0, hi1, hg, k⟩ := h
    have hr1 : Room 1 _ := hr
    refine ⟨_, PSs.nox (pss_cons (ps_set (i := 1) scNu.nd rfl (.inl rfl) (pe_call GC hr1 rfl gC FC.kp bC .nil pass0 (pa_cons (pv 0) (pa_cons (pe_ix ix_list (pe_lst (pa_cons pe_int (pa_cons pe_int (pa_cons (pe_op op_pow pe_int pe_int) pa_nil)))) (pe_call GC hr1 rfl gC FC.kp bC .nil pass0 (pa_cons (pv 0) (pa_cons pe_int pa_nil))) (fun _ _ => rfl)) pa_nil))))
      (pss_one (ps_ret (pe_ifExp (pt_cmpR op_eq (pe_call GC hr1 rfl gC FC.kp bC .nil pass0 (pa_cons (pv 0) (pa_cons pe_int pa_nil))) pe_int (nomark _)) (pe_un un_neg (pv 1)) (pv 1))))), ?_⟩
    refine ⟨_, rfl, _, _, rfl, rfl, ⟨by decide, by decide, by decide⟩, by rw [sizeLine_eq]; show 3 ≤ 16777216; decide, fun p np => ?_⟩
    have s1 := same_upd (o := .lst [.int 4, .int 13, .int ((10 : Int) ^ (30 : Int).toNat)]) np
    have hpt : p ≠ t := fun z => by rw [z, hT.ht] at np; cases np
    refine ⟨_, rfl, t, c, cells, i, g, 3, rfl, hT.same s1, hi0, by omega, hg, by decide, by decide +kernel, fun r i1 g1 H1 r0 r1 i10 i11 g10 k1 T1 => ?_⟩
    obtain ⟨n, rfl⟩ : ∃ n : Nat, r = n := ⟨r.toNat, by omega⟩
    have hn : n < 3 := by omega
    have hl : H1 p = some (.lst [.int 4, .int 13, .int ((10 : Int) ^ (30 : Int).toNat)]) := k1 _ _ hpt upd_same
    obtain ⟨m, hm, m0, m1⟩ : ∃ m : Int, atI [V.int 4, .int 13, .int ((10 : Int) ^ (30 : Int).toNat)] (n : Int) = some (.int m) ∧ 0 < m ∧ m ≤ 10 ^ 30 := by
      match n, hn with
      | 0, _ => exact ⟨4, rfl, by decide, by decide +kernel⟩
      | 1, _ => exact ⟨13, rfl, by decide, by decide +kernel⟩
      | 2, _ => exact ⟨(10 : Int) ^ (30 : Int).toNat, rfl, by decide +kernel, by decide +kernel⟩
    refine ⟨_, _, _, _, rfl, rfl, SqL.of hl, hm, t, c, cells, i1, g1, m, rfl, T1, i10, by omega, g10, m0, ?_, fun r2 i2 g2 H2 r20 r21 i20 i21 g20 k2 T2 => ?_⟩
    · have e : (10 : Nat) ^ 30 < 2 ^ 8000 := by decide +kernel
      have e2 : ((10 : Int) ^ 30) = ((10 ^ 30 : Nat) : Int) := by decide +kernel
      rw [e2] at m1
      omega
    have hz : r2.natAbs < 10 ^ 30 := by
      have e2 : ((10 : Int) ^ 30) = ((10 ^ 30 : Nat) : Int) := by decide +kernel
      rw [e2] at m1
      omega
    refine ⟨_, rfl, t, c, cells, i2, g2, 2, rfl, T2, i20, by omega, g20, by decide, by decide +kernel, fun r3 i3 g3 H3 r30 r31 i30 i31 g30 k3 T3 => ?_⟩
    have kk : Keep t H H3 := (Keep.of s1).trans (k1.trans (k2.trans k3))
    refine ⟨rfl, _, rfl, ite2 (fun _ => ?_) (fun _ => ?_)⟩
    · exact ⟨_, rfl, _, rfl, k _ i3 g3 H3 (by rw [Int.natAbs_neg]; exact hz) (fun z => by cases z) i30 (by omega) g30 kk T3⟩
    · exact ⟨_, rfl, k _ i3 g3 H3 hz (fun z => by cases z) i30 (by omega) g30 kk T3⟩
theorem scBt : FnScope ["_law_till_here", "_law_number_here"] ["_law_till_here"] (defScope (top 33)) := ⟨rfl, rfl, rfl, by decide +kernel, rfl, by decide +kernel, by decide +kernel⟩
theorem ok_bottom {f fN fC : Addr} {fd fdN fdC : FuncData} (F : FnP K "_law_bottom" (top 33) f fd) (T : Blt mg) (gN : mg "_law_number" = some (.ref fN)) (FN : FnP K "_law_number" (top 32) fN fdN) (gC : mg "_law_coin" = some (.ref fC)) (FC : FnP K "_law_coin" sCoin fC fdC) :
    FnOk P w K mg base CX0 3 f fd ["_law_till_here"] (spNum true) := by
  have GN : FnOk P w K mg base CX0 2 fN fdN ["_law_till_here"] (spNum false) := ok_number FN T gC FC
  have bN : Binds K fdN ["_law_till_here"] [] := FN.bindsN fun _ _ _ _ _ _ us hl => match us, hl with | [_], _ => rfl
  refine F.ok scBt (fun vs H Q E h => ?_) (fun cdv A outer s H vs Q E hr h => ?_)
  · obtain ⟨t, c, cells, i, g, rfl, _⟩ := h
    rfl
  · obtain ⟨t, c, cells, i, g, rfl, hT, hi0, hi1, hg, k⟩ := h
    have hr2 : Room 2 _ := hr
    refine ⟨_, PSs.nox (pss_cons (ps_set (i := 1) scBt.nd rfl (.inl rfl) (pe_call GN hr2 rfl gN FN.kp bN .nil pass0 (pa_cons (pv 0) pa_nil)))
      (pss_one (ps_ret (pe_ifExp (pt_cmpR op_ne (pv 1) pe_int (nomark _)) (pv 1) pe_int)))), ?_⟩
    refine ⟨_, rfl, t, c, cells, i, g, rfl, hT, hi0, hi1, hg, fun n i1 g1 H1 n1 _ i10 i11 g10 k1 T1 => ?_⟩
    refine ⟨_, rfl, rfl, _, rfl, ?_⟩
    by_cases e : n = 0
    · subst e
      have z : (!decide (V.int 0 = V.int 0)) = false := by rw [decide_eq_true rfl]; rfl
      rw [z]
      exact iteF (k 1 i1 g1 H1 (by decide +kernel) (fun _ => by decide) i10 i11 g10 k1 T1)
    · have z : (!decide (V.int n = V.int 0)) = true := by rw [decide_eq_false fun y => e (V.int.inj y)]; rfl
      rw [z]
      exact iteT ⟨_, rfl, k n i1 g1 H1 n1 (fun _ => e) i10 i11 g10 k1 T1⟩
end
end K01
namespace K01
open PySem PySem.Spec PyProof.Rows L2 RatM
/-- the pair in lowest terms, as a new tuple -/
def spLow : Sp := fun vs H Q _ => ∃ (t b : Int), vs = [.int t, .int b] ∧ b ≠ 0 ∧ b.natAbs < 2 ^ 200 ∧ ∀ p, H p = none → Q (.ref p) (upd H p (.tup [.int (lowT t b), .int (lowB t b)]))
theorem absI (i : Int) : (if i < 0 then -i else i) = ((i.natAbs : Nat) : Int) := by split <;> omega
theorem euS_pos {s : Nat × Nat} (h : 0 < s.2) : euS s = (s.2, s.1 % s.2) := if_pos h
theorem euS_not {s : Nat × Nat} (h : ¬ 0 < s.2) : euS s = s := if_neg h
section
variable {P : Program} {w : World} {K : PySem.W.Frag} {mg : Str → Option Value} {base : Heap}
theorem scLw : FnScope ["_law_top", "_law_bottom_here", "_law_here", "_law_there", "_law_turn"] ["_law_top", "_law_bottom_here"] (defScope (top 34)) := ⟨rfl, rfl, rfl, by decide +kernel, rfl, by decide +kernel, by decide +kernel⟩
theorem ok_lowest {f : Addr} {fd : FuncData} (F : FnP K "_law_lowest" (top 34) f fd) (T : Blt mg) (bR : mg "range" = none) : FnOk P w K mg base CX0 1 f fd ["_law_top", "_law_bottom_here"] spLow := by
  refine F.ok scLw (fun vs H Q E h => ?_) (fun cdv A outer s H vs Q E hr h => ?_)
  · obtain ⟨t, b, rfl, _⟩ := h
    rfl
  · obtain ⟨t, b, rfl, hb, hz, k⟩ := h
    refine ⟨_, PSs.nox (pss_cons (ps_par (i := 2) (j := 3) rfl scLw.nd rfl rfl (by decide) rfl rfl (pa_cons (pe_callB call_abs (by rfl) T.abs (by decide +kernel) (pa_cons (pv 0) pa_nil)) (pa_cons (pe_callB call_abs (by rfl) T.abs (by decide +kernel) (pa_cons (pv 1) pa_nil)) pa_nil)) rfl)
      (pss_cons (ps_for PassesOwn.never rfl (pi_range1 (by rfl) bR (pa_cons pe_int pa_nil)) (pg_name (i := 4) scLw.nd rfl (Or.inl rfl)) (pss_one (ps_if (pt_cmpR op_gt (pv 3) pe_int (nomark _))
          (pss_one (ps_par (i := 2) (j := 3) rfl scLw.nd rfl rfl (by decide) rfl rfl (pa_cons (pv 3) (pa_cons (pe_op op_modN (pe_callTy call_int1 (by rfl) T.int PyProof.Rows.boot_int (pa_cons (pv 2) pa_nil)) (pv 3)) pa_nil)) rfl)) pss_nil)))
      (pss_cons (ps_if (pt_cmpR op_lt (pv 1) pe_int (nomark _)) (pss_one (ps_set (i := 2) scLw.nd rfl (.inl rfl) (pe_un un_neg (pv 2)))) pss_nil)
      (pss_one (ps_ret (pe_tup (pa_cons (pe_op op_fdivZ (pv 0) (pv 2)) (pa_cons (pe_op op_fdivZ (pv 1) (pv 2)) pa_nil)))))))), ?_⟩
    refine ⟨_, rfl, _, rfl, _, rfl, _, rfl, _, _, rfl, ?_⟩
    rw [absI, absI]
    refine ⟨400, rfl, by decide, by decide, ?_⟩
    refine for_it (walk_range (lo := 0) (n := (400 : Int).toNat)) (fun n σ H' => (∃ v4, σ = [some (.int t), some (.int b), some (.int ((euN n (t.natAbs, b.natAbs)).1 : Nat)), some (.int ((euN n (t.natAbs, b.natAbs)).2 : Nat)), v4]) ∧ H' = H) ⟨⟨none, rfl⟩, rfl⟩ (fun _ _ _ _ _ => trivial) ?_ ?_
    · rintro n x σ H1 H2 hn ⟨⟨v4, rfl⟩, rfl⟩ ⟨rfl, rfl⟩
      refine ⟨_, rfl, _, _, rfl, rfl, _, rfl, ite2 (fun c => ?_) (fun c => ?_)⟩
      · have c2 : 0 < (euN n (t.natAbs, b.natAbs)).2 := by have := of_decide_eq_true c; omega
        refine ⟨_, rfl, _, rfl, .inl ⟨_, rfl, _, rfl, _, _, rfl, rfl, by omega, _, _, rfl, ?_⟩⟩
        have e := euS_pos c2
        have m : ((euN n (t.natAbs, b.natAbs)).1 : Int).fmod ((euN n (t.natAbs, b.natAbs)).2 : Int) = (((euN n (t.natAbs, b.natAbs)).1 % (euN n (t.natAbs, b.natAbs)).2 : Nat) : Int) := by
          rw [Int.fmod_eq_emod_of_nonneg _ (by omega)]
          exact (Int.natCast_emod ..).symm
        refine ⟨⟨some (.int (0 + (n : Nat))), ?_⟩, rfl⟩
        show [_, _, _, _, _] = _
        rw [show euN (n + 1) (t.natAbs, b.natAbs) = ((euN n (t.natAbs, b.natAbs)).2, (euN n (t.natAbs, b.natAbs)).1 % (euN n (t.natAbs, b.natAbs)).2) from e]
        dsimp only
        rw [m]
      · have c2 : ¬ 0 < (euN n (t.natAbs, b.natAbs)).2 := fun z => c (decide_eq_true (by omega))
        have e := euS_not c2
        refine ⟨⟨some (.int (0 + (n : Nat))), ?_⟩, rfl⟩
        rw [show euN (n + 1) (t.natAbs, b.natAbs) = euN n (t.natAbs, b.natAbs) from e]
        rfl
    · rintro σ H1 ⟨⟨v4, rfl⟩, rfl⟩
      have en := euN_end (s := (t.natAbs, b.natAbs)) hz
      have e400 : (400 : Int).toNat = 400 := rfl
      rw [e400]
      have g1 : ((euN 400 (t.natAbs, b.natAbs)).1 : Int) = (Int.gcd t b : Int) := by rw [en.2]; rfl
      rw [g1]
      have dn := lowD_ne (t := t) hb
      have dz : (lowD t b).natAbs.log2 < 9000 := by
        rw [lowD_abs]
        refine Nat.lt_of_lt_of_le (PySem.Flt.log2_lt_of (k := 200) (by decide) ?_) (by decide)
        exact Nat.lt_of_le_of_lt (Nat.gcd_le_right _ (Int.natAbs_pos.mpr hb)) hz
      refine ⟨_, rfl, _, _, rfl, rfl, _, rfl, ite2 (fun c => ?_) (fun c => ?_)⟩
      · have c2 : b < 0 := of_decide_eq_true c
        have eD : -(Int.gcd t b : Int) = lowD t b := (if_neg (by omega)).symm
        refine ⟨_, rfl, _, rfl, ?_⟩
        dsimp only
        rw [eD]
        exact ⟨_, rfl, _, rfl, _, _, rfl, rfl, ⟨dn, dz⟩, _, rfl, _, rfl, _, _, rfl, rfl, ⟨dn, dz⟩, by rw [sizeLine_eq]; show 2 ≤ 16777216; decide, k⟩
      · have c2 : ¬ b < 0 := fun z => c (decide_eq_true z)
        have eD : (Int.gcd t b : Int) = lowD t b := (if_pos (by omega)).symm
        rw [eD]
        exact ⟨_, rfl, _, rfl, _, _, rfl, rfl, ⟨dn, dz⟩, _, rfl, _, rfl, _, _, rfl, rfl, ⟨dn, dz⟩, by rw [sizeLine_eq]; show 2 ≤ 16777216; decide, k⟩
end
end K01
namespace K01
open PySem PySem.Spec PyProof.Rows L2 RatM
theorem eqv_pair (p q u v : Int) : PyData.eqv (.tuple [.int p, .int q]) (.tuple [.int u, .int v]) = (decide (p = u) && decide (q = v)) := by
  simp [PyData.eqv, PyData.eqvAll, Bool.beq_eq_decide_eq]
theorem shaped_pair (p q : Int) : SeqAt.shaped (.tuple [.int p, .int q]) = true := by
  simp [SeqAt.shaped, PyData.canLay0, PyData.canLayAll0, PyData.depth, PyData.depthAll]
/-- a pair of integers stands at a -/
abbrev PairAt (K : PySem.W.Frag) (H : Hp) (a : Addr) (u v : Int) : Prop := SqT K H a [.int u, .int v]
theorem dp_pair {K : PySem.W.Frag} {H : Hp} {a : Addr} {u v : Int} (h : PairAt K H a u v) : Dp K H (.ref a) (.tuple [.int u, .int v]) := .tup h (.cons (.int u) (.cons (.int v) .nil))
def spIs (K : PySem.W.Frag) (C : Addr) : Sp := fun vs H Q _ => ∃ (a b : Addr) (p q u v : Int), vs = [.ref a, .ref b] ∧ RatAt H a C p q ∧ PairAt K H b u v ∧ ∀ H', Same H H' → Q (.bl (decide (p = u) && decide (q = v))) H'
def spTx (K : PySem.W.Frag) : Sp := fun vs H Q _ => ∃ (b : Addr) (u v : Int), vs = [.ref b] ∧ PairAt K H b u v ∧ Sz u ∧ Sz v ∧ Q (.str (textR u v)) H
section
variable {P : Program} {w : World} {K : PySem.W.Frag} {mg : Str → Option Value} {base : Heap} {C BR : Addr}
theorem scIs : FnScope ["_law_ratio", "_law_pair"] ["_law_ratio", "_law_pair"] (defScope (top 35)) := ⟨rfl, rfl, rfl, by decide +kernel, rfl, by decide +kernel, by decide +kernel⟩
theorem ok_is {f : Addr} {fd : FuncData} (F : FnP K "_law_is" (top 35) f fd) (R : RatK P w K mg base C BR) (bB : mg "bool" = none) : FnOk P w K mg base CX0 1 f fd ["_law_ratio", "_law_pair"] (spIs K C) := by
  refine F.ok scIs (fun vs H Q E h => ?_) (fun cdv A outer s H vs Q E hr h => ?_)
  · obtain ⟨a, b, p, q, u, v, rfl, _⟩ := h
    rfl
  · obtain ⟨a, b, p, q, u, v, rfl, ha, hb, k⟩ := h
    have T := R.T
    have nt := T.no "top" (by simp)
    have nb := T.no "bottom" (by simp)
    have ty := ha.ty R.T R.I
    obtain ⟨dx, ea⟩ := ha
    refine ⟨_, PSs.nox (pss_one (ps_ret (pe_and (pe_callB call_isi (by rfl) R.bi (by decide +kernel) (pa_cons (pv 0) (pa_cons (pe_glob (v := .ref _) rfl R.g rfl) pa_nil)))
      (pe_and (pe_cmpR (op_eqD hr.units) (pe_tup (pa_cons (pe_fld (pv 0) rfl) (pa_cons (pe_fld (pv 0) rfl) pa_nil))) (pv 1) (nomark _))
      (pe_one (pe_not (pe_callB call_isi (by rfl) R.bi (by decide +kernel) (pa_cons (pe_fld (pv 0) rfl) (pa_cons (pe_bltn (v := .ty "bool") (by rfl) bB (by decide +kernel) rfl) pa_nil))))))))), ?_⟩
    refine ⟨_, rfl, _, _, _, _, _, rfl, .own C, ty, R.I.cc, _, rfl, iteT ?_⟩
    refine ⟨_, rfl, a, C, dx, _, _, rfl, ea, T.cls, nt, rfl, _, rfl, a, C, dx, _, _, rfl, ea, T.cls, nb, rfl, by rw [sizeLine_eq]; show 2 ≤ 16777216; decide, fun t nt2 => ?_⟩
    have s1 := same_upd (o := .tup [.int p, .int q]) nt2
    have hb1 : PairAt K _ b u v := SqT.ext hb s1
    refine ⟨_, rfl, _, _, dp_pair (SqT.of upd_same), dp_pair hb1, shaped_pair _ _, shaped_pair _ _, _, congrArg V.bl (eqv_pair ..), ?_⟩
    by_cases e : (decide (p = u) && decide (q = v)) = true
    · rw [e] at k ⊢
      exact iteT ⟨_, rfl, a, C, dx, _, _, rfl, s1 _ _ ea, T.cls, nt, rfl, _, _, _, _, false, rfl, .ty "bool", .base (.int p), kit_ty (by decide +kernel), _, rfl, k _ s1⟩
    · rw [Bool.not_eq_true] at e
      rw [e] at k ⊢
      exact iteF (k _ s1)
theorem scTx : FnScope ["_law_pair"] ["_law_pair"] (defScope (top 36)) := ⟨rfl, rfl, rfl, by decide +kernel, rfl, by decide +kernel, by decide +kernel⟩
theorem ok_text {f : Addr} {fd : FuncData} (F : FnP K "_law_text" (top 36) f fd) (bs : mg "str" = none) : FnOk P w K mg base CX0 1 f fd ["_law_pair"] (spTx K) := by
  refine F.ok scTx (fun vs H Q E h => ?_) (fun cdv A outer s H vs Q E hr h => ?_)
  · obtain ⟨b, u, v, rfl, _⟩ := h
    rfl
  · obtain ⟨b, u, v, rfl, hb, su, sv, k⟩ := h
    have ix0 : atI [V.int u, V.int v] 0 = some (.int u) := rfl
    have ix1 : atI [V.int u, V.int v] 1 = some (.int v) := rfl
    have l1 := sz_len su
    have l2 := sz_len sv
    refine ⟨_, PSs.nox (pss_one (ps_ret (pe_ifExp (pt_cmpR op_eq (pe_ix ix_tup (pv 0) pe_int (fun _ _ => rfl)) pe_int (nomark _)) (pe_callTy call_str_int (by rfl) bs PyProof.Rows.boot_str (pa_cons (pe_ix ix_tup (pv 0) pe_int (fun _ _ => rfl)) pa_nil))
      (pe_op op_add_str (pe_op op_add_str (pe_callTy call_str_int (by rfl) bs PyProof.Rows.boot_str (pa_cons (pe_ix ix_tup (pv 0) pe_int (fun _ _ => rfl)) pa_nil)) pe_str) (pe_callTy call_str_int (by rfl) bs PyProof.Rows.boot_str (pa_cons (pe_ix ix_tup (pv 0) pe_int (fun _ _ => rfl)) pa_nil)))))), ?_⟩
    refine ⟨_, rfl, b, _, _, _, rfl, rfl, hb, ix1, rfl, decide (v = 1), congrArg V.bl (decI ..), ?_⟩
    by_cases e : v = 1
    · rw [decide_eq_true e]
      have z : textR u v = (toString u : String) := if_pos e
      rw [z] at k
      exact iteT ⟨_, rfl, b, _, _, _, rfl, rfl, hb, ix0, u, rfl, sz_log su, k⟩
    · rw [decide_eq_false e]
      have z : textR u v = (Str.ofString (toString u) ++ "/") ++ Str.ofString (toString v) := if_neg e
      rw [z] at k
      have ls : (Str.ofString "/").length = 1 := rfl
      refine iteF ⟨_, rfl, b, _, _, _, rfl, rfl, hb, ix0, u, rfl, sz_log su, _, _, rfl, rfl, ?_, _, rfl, b, _, _, _, rfl, rfl, hb, ix1, v, rfl, sz_log sv, _, _, rfl, rfl, ?_, k⟩
      · rw [sizeLine_eq]; omega
      · rw [strLen_append, sizeLine_eq]; omega
end
end K01
namespace K01
open PySem PySem.Spec PyProof.Rows L2 RatM
/-- f(e, ..), f told of by FnR -/
theorem pe_callR {X : Cx} {CX : CXT} {k : Nat} {f : Addr} {sp : Sp} {E : XK} {x : Str} {p pos : Pos} {e : Expr} {es : List Expr} {t : TA} (F : FnR X.prog X.w X.K X.mg X.base CX k f sp) (hr : Room k X.A) (hg : Gl X x) (hm : X.mg x = some (.ref f)) (hk : PySem.W.keepIn X.K (.ref f) = true) (hx : Passes CX X E)
    (ha : PA X (e :: es) t) (hd : (x == ("__debug__" : Str)) = false := by decide) (he : starEach (e :: es) X.env = (false, eval e X.env) :: starEach es X.env := by rfl) (hpl : (backTo pos (starEach es X.env)).any (·.1) = false := by rfl) :
    PE X (.Call (.Name x p) (e :: es) [] pos) (fun σ H Q => t σ H fun vs H1 => sp vs H1 Q E) := by
  refine ⟨fun pins s σ H Q I h => ?_⟩
  refine wpAny_Call_Name_kw (ld_glob I hg hm ?_ hd)
  exact PySem.W.callWith_K (h₀ := X.base) I.ok.mod.kin hk (thn (ha.run pos pins s σ H _ I h) fun us s1 ⟨vs, H1, I1, r, q⟩ => ⟨I1.kIn, wpAny_call (run_fnR F hr hx I1 r q)⟩) he hpl
structure RatW (P : Program) (w : World) (K : PySem.W.Frag) (mg : Str → Option Value) (base : Heap) (C BR : Addr) : Prop extends RatH P w K mg base C BR where
  cmpK : ∃ (f : Addr) (fd : FuncData), Meth K C "compared" f ∧ FnOk P w K mg base (L2.CX P w) 7 f fd ["self", "other"] (spCmp K C BR V.int) ∧
    ∀ (s : Shared) (a : Addr) (zs : List Value), (Value.ref a :: zs).length = (["self", "other"] : List Str).length → BindsTo s fd ⟨[.ref a], (([("other" : Str)] : List Str)).zip zs⟩ ((["self", "other"] : List Str).zip (.ref a :: zs))
  be : ∃ (f : Addr) (fd : FuncData), Meth K C "is_below" f ∧ FnOk P w K mg base (L2.CX P w) 8 f fd ["self", "other"] (spCmp K C BR fun s => .bl (decide (s < 0))) ∧ Binds K fd ["self", "other"] []
  ov : ∃ (f : Addr) (fd : FuncData), Meth K C "over" f ∧ FnOk P w K mg base (L2.CX P w) 6 f fd ["self", "other"] (spOver K C BR) ∧ Binds K fd ["self", "other"] []
  eq : ∃ (f : Addr) (fd : FuncData), OwnM K C "__eq__" f ∧ FnOk P w K mg base CX0 3 f fd ["self", "other"] (spSame K C) ∧ Binds K fd ["self", "other"] []
  ad : ∃ (f : Addr), FnR P w K mg base (L2.CX P w) 7 f (spAdd K C BR) ∧ PySem.W.keepIn K (.ref f) = true ∧ mg "added" = some (.ref f)
abbrev S1 (p : Int) : Prop := p.natAbs < 2 ^ 100
theorem s1_sz {p : Int} (h : S1 p) : Sz p := Nat.lt_of_lt_of_le h (Nat.pow_le_pow_right (by decide) (by decide))
theorem s1_m {p q : Int} (hp : S1 p) (hq : S1 q) : CMulW p q := sz_mul (s1_sz hp) (s1_sz hq)
theorem s1_p {p q : Int} (hp : S1 p) (hq : S1 q) : (p * q).natAbs < 2 ^ 200 := wide_lt hp hq
theorem s2_m {p q : Int} (hp : p.natAbs < 2 ^ 200) (hq : S1 q) : CMulW p q := wide_mul hp hq (by decide) (by decide) (by decide)
theorem s1_ten {p : Int} (h : p.natAbs < 10 ^ 30) : S1 p := Nat.lt_trans h (by decide +kernel)
theorem tt2 (x y : Int) : V.bl (decide (x = x) && decide (y = y)) = V.bl true := by rw [decide_eq_true rfl, decide_eq_true rfl]; rfl
theorem is_true {K : PySem.W.Frag} {C r p : Addr} {H : Hp} {n d : Int} {Q : VK} {E : XK} (rr : RatAt H r C n d) (hp : PairAt K H p n d) (k : ∀ H', Same H H' → Q (.bl true) H') : spIs K C [.ref r, .ref p] H Q E :=
  ⟨r, p, n, d, n, d, rfl, rr, hp, fun H' s => by rw [decide_eq_true rfl, decide_eq_true rfl]; exact k H' s⟩
theorem accS_low {n m p q : Int} (hm : m ≠ 0) (hq : q ≠ 0) : accS (lowT n m, lowB n m) (p, q) = (lowT (n * q + p * m) (m * q), lowB (n * q + p * m) (m * q)) := by
  unfold accS
  dsimp only
  have h1 := lowT_mul (t := n) hm
  have h2 := lowB_mul (t := n) hm
  have hb := Int.ne_of_gt (lowB_pos (t := n) hm)
  obtain ⟨e1, e2⟩ := low_eq (t := lowT n m * q + p * lowB n m) (b := lowB n m * q) (t' := n * q + p * m) (b' := m * q) (Int.mul_ne_zero hb hq) (Int.mul_ne_zero hm hq) (by
    generalize lowD n m = D at h1 h2
    generalize lowT n m = x at h1 ⊢
    generalize lowB n m = y at h2 ⊢
    rw [← h1, ← h2]
    simp only [Int.add_mul]
    congr 1 <;> ac_rfl)
  rw [e1, e2]
theorem acc_zero : ((0 : Int), (1 : Int)) = (lowT 0 1, lowB 0 1) := by decide +kernel
theorem acc_1 {a b : Int} (hb : b ≠ 0) : accS (0, 1) (a, b) = (lowT a b, lowB a b) := by
  rw [acc_zero, accS_low (by decide) hb]
  simp
theorem acc_2 {a b c d : Int} (hb : b ≠ 0) (hd : d ≠ 0) : accS (accS (0, 1) (a, b)) (c, d) = (lowT (a * d + c * b) (b * d), lowB (a * d + c * b) (b * d)) := by
  rw [acc_1 hb, accS_low hb hd]
theorem acc_3 {a b c d e : Int} (hb : b ≠ 0) (hd : d ≠ 0) : accS (accS (accS (0, 1) (a, b)) (c, d)) (e, 1) = (lowT (a * d + c * b + e * b * d) (b * d), lowB (a * d + c * b + e * b * d) (b * d)) := by
  rw [acc_2 hb hd, accS_low (Int.mul_ne_zero hb hd) (by decide), Int.mul_one, Int.mul_one, Int.mul_assoc e b d]
theorem dp_bl2 {K : PySem.W.Frag} {H : Hp} {p : Addr} {x y : Bool} (h : H p = some (.lst [.bl x, .bl y])) : Dp K H (.ref p) (.list [.bool x, .bool y]) := .lst (SqL.of h) (.cons (.bl x) (.cons (.bl y) .nil))
theorem shaped_bl2 (x y : Bool) : SeqAt.shaped (.list [.bool x, .bool y]) = true := by simp [SeqAt.shaped, PyData.canLay0, PyData.canLayAll0, PyData.depth, PyData.depthAll]
theorem eqv_bl2 (x y : Bool) : PyData.eqv (.list [.bool x, .bool y]) (.list [.bool x, .bool y]) = true := by simp [PyData.eqv, PyData.eqvAll]
theorem sg_neg (x y : Int) : decide (sg (x - y) < 0) = decide (x < y) := by
  unfold sg b2i
  refine decide_eq_decide.mpr ?_
  by_cases h1 : 0 < x - y
  · have h2 : ¬ x - y < 0 := by omega
    simp [h1, h2]; omega
  · by_cases h2 : x - y < 0
    · simp [h1, h2]; omega
    · simp [h1, h2]; omega
theorem sg_int (x y : Int) : sg (x - y) = (if decide (y < x) = true then (1 : Int) else 0) - (if decide (x < y) = true then (1 : Int) else 0) := by
  unfold sg b2i
  have e1 : decide (0 < x - y) = decide (y < x) := decide_eq_decide.mpr ⟨fun h => by omega, fun h => by omega⟩
  have e2 : decide (x - y < 0) = decide (x < y) := decide_eq_decide.mpr ⟨fun h => by omega, fun h => by omega⟩
  rw [e1, e2]
theorem ne_bl (a y : Int) : (!decide (V.bl (decide (sg (a * 1 - y) < 0)) = V.bl (decide (a < y)))) = false := by
  rw [Int.mul_one, sg_neg, decide_eq_true rfl]
  rfl
def spTwo (K : PySem.W.Frag) : Sp := fun vs H Q _ => ∃ (o o' : Addr) (t1 b1 t2 b2 : Int), vs = [.ref o, .ref o'] ∧ PairAt K H o t1 b1 ∧ PairAt K H o' t2 b2 ∧ t1.natAbs < 10 ^ 30 ∧ b1.natAbs < 10 ^ 30 ∧ t2.natAbs < 10 ^ 30 ∧ b2.natAbs < 10 ^ 30 ∧ b1 ≠ 0 ∧ b2 ≠ 0 ∧ ∀ H', Same H H' → Q (.bl true) H'
section
variable {P : Program} {w : World} {K : PySem.W.Frag} {mg : Str → Option Value} {base : Heap} {C BR : Addr}
theorem scTw : FnScope ["_law_one", "_law_other", "_law_here", "_law_there", "_law_a", "_law_b", "_law_c", "_law_d"] ["_law_one", "_law_other"] (defScope (top 38)) := ⟨rfl, rfl, rfl, by decide +kernel, rfl, by decide +kernel, by decide +kernel⟩
theorem ok_two {f fL fI : Addr} {fd fdL fdI : FuncData} (F : FnP K "_law_two_right" (top 38) f fd) (R : RatW P w K mg base C BR) (T : Blt mg) (bR : mg "range" = none) (bB : mg "bool" = none) (FL : FnP K "_law_lowest" (top 34) fL fdL) (gL : mg "_law_lowest" = some (.ref fL))
    (FI : FnP K "_law_is" (top 35) fI fdI) (gI : mg "_law_is" = some (.ref fI)) : FnOk P w K mg base CX0 9 f fd ["_law_one", "_law_other"] (spTwo K) := by
  have GL : FnOk P w K mg base CX0 1 fL fdL ["_law_top", "_law_bottom_here"] spLow := ok_lowest FL T bR
  have bL : Binds K fdL ["_law_top", "_law_bottom_here"] [] := FL.bindsN fun _ _ _ _ _ _ us hl => match us, hl with | [_, _], _ => rfl
  have GI : FnOk P w K mg base CX0 1 fI fdI ["_law_ratio", "_law_pair"] (spIs K C) := ok_is FI R.toRatK bB
  have bI : Binds K fdI ["_law_ratio", "_law_pair"] [] := FI.bindsN fun _ _ _ _ _ _ us hl => match us, hl with | [_, _], _ => rfl
  obtain ⟨fA, fdA, OA, GA, bA⟩ := R.add
  obtain ⟨fS, fdS, OS, GS, bS⟩ := R.sub
  obtain ⟨fM, fdM, OM, GM, bM⟩ := R.mul
  obtain ⟨fC, fdC, MC, GC, bC⟩ := R.cmp
  obtain ⟨fK, fdK, MK, GK, bK⟩ := R.cmpK
  obtain ⟨fB, fdB, MB, GB, bBe⟩ := R.be
  obtain ⟨fO, fdO, MO, GO, bO⟩ := R.ov
  obtain ⟨fE, fdE, ME, GE, bE⟩ := R.eq
  obtain ⟨fD, GD, kD, gD⟩ := R.ad
  have cl := R.T.cls
  refine F.ok scTw (fun vs H Q E h => ?_) (fun cdv A outer s H vs Q E hr h => ?_)
  · obtain ⟨o, o', t1, b1, t2, b2, rfl, _⟩ := h
    rfl
  · obtain ⟨o, o', t1, b1, t2, b2, rfl, h1, h2, z1, z2, z3, z4, n1, n2, k⟩ := h
    have hr8 : Room 8 _ := hr
    have hr7 : Room 7 _ := hr8.mono (by decide)
    have hr6 : Room 6 _ := hr8.mono (by decide)
    have hr4 : Room 4 _ := hr8.mono (by decide)
    have hr3 : Room 3 _ := hr8.mono (by decide)
    have hr1 : Room 1 _ := hr8.mono (by decide)
    refine ⟨_, PSs.nox (pss_cons (ps_par (i := 2) (j := 3) rfl scTw.nd rfl rfl (by decide) rfl rfl (pa_cons (pe_rat2 R.toRatK hr4 (E := E0) passL (by rfl) (pa_cons (pe_ix ix_tup (pv 0) pe_int (fun _ _ => rfl)) (pa_cons (pe_ix ix_tup (pv 0) pe_int (fun _ _ => rfl)) pa_nil))) (pa_cons (pe_rat2 R.toRatK hr4 (E := E0) passL (by rfl) (pa_cons (pe_ix ix_tup (pv 1) pe_int (fun _ _ => rfl)) (pa_cons (pe_ix ix_tup (pv 1) pe_int (fun _ _ => rfl)) pa_nil))) pa_nil)) rfl)
      (pss_cons (ps_asg (pe_call GL hr1 rfl gL FL.kp bL .nil pass0 (pa_cons (pe_ix ix_tup (pv 0) pe_int (fun _ _ => rfl)) (pa_cons (pe_ix ix_tup (pv 0) pe_int (fun _ _ => rfl)) pa_nil))) (pg_tup rfl (pgs_cons (pg_name (i := 4) scTw.nd rfl (.inl rfl)) (pgs_cons (pg_name (i := 5) scTw.nd rfl (.inl rfl)) pgs_nil))))
      (pss_cons (ps_asg (pe_call GL hr1 rfl gL FL.kp bL .nil pass0 (pa_cons (pe_ix ix_tup (pv 1) pe_int (fun _ _ => rfl)) (pa_cons (pe_ix ix_tup (pv 1) pe_int (fun _ _ => rfl)) pa_nil))) (pg_tup rfl (pgs_cons (pg_name (i := 6) scTw.nd rfl (.inl rfl)) (pgs_cons (pg_name (i := 7) scTw.nd rfl (.inl rfl)) pgs_nil))))
      (pss_cons (ps_if (PW.pt (pw_or (pt_not (pt_val (pe_call GI hr1 rfl gI FI.kp bI .nil pass0 (pa_cons (pe_op (op_rat (op := .Add) R.sf R.odd OA GA bA hr6 (E := E0) passL) (pv 2) (pv 3)) (pa_cons (pe_call GL hr1 rfl gL FL.kp bL .nil pass0 (pa_cons (pe_op op_add (pe_op op_mulW (pv 4) (pv 7)) (pe_op op_mulW (pv 6) (pv 5))) (pa_cons (pe_op op_mulW (pv 5) (pv 7)) pa_nil))) pa_nil)))))
          (pw_or1 (pt_not (pt_val (pe_call GI hr1 rfl gI FI.kp bI .nil pass0 (pa_cons (pe_op (op_rat (op := .Sub) R.sf R.odd OS GS bS hr6 (E := E0) passL) (pv 2) (pv 3)) (pa_cons (pe_call GL hr1 rfl gL FL.kp bL .nil pass0 (pa_cons (pe_op op_sub (pe_op op_mulW (pv 4) (pv 7)) (pe_op op_mulW (pv 6) (pv 5))) (pa_cons (pe_op op_mulW (pv 5) (pv 7)) pa_nil))) pa_nil)))))))) (pss_one (ps_ret pe_bl)) pss_nil)
      (pss_cons (ps_if (PW.pt (pw_or (pt_not (pt_val (pe_call GI hr1 rfl gI FI.kp bI .nil pass0 (pa_cons (pe_op (op_rat (op := .Mult) R.sf R.odd OM GM bM hr6 (E := E0) passL) (pv 2) (pv 3)) (pa_cons (pe_call GL hr1 rfl gL FL.kp bL .nil pass0 (pa_cons (pe_op op_mulW (pv 4) (pv 6)) (pa_cons (pe_op op_mulW (pv 5) (pv 7)) pa_nil))) pa_nil)))))
          (pw_or1 (pt_not (pt_val (pe_call GI hr1 rfl gI FI.kp bI .nil pass0 (pa_cons (pe_op (op_rat (op := .Add) R.sf R.odd OA GA bA hr6 (E := E0) passL) (pv 2) (pv 6)) (pa_cons (pe_call GL hr1 rfl gL FL.kp bL .nil pass0 (pa_cons (pe_op op_add (pv 4) (pe_op op_mulW (pv 6) (pv 5))) (pa_cons (pv 5) pa_nil))) pa_nil)))))))) (pss_one (ps_ret pe_bl)) pss_nil)
      (pss_cons (ps_if (PW.pt (pw_or (pt_not (pt_val (pe_call GI hr1 rfl gI FI.kp bI .nil pass0 (pa_cons (pe_op (op_rat (op := .Mult) R.sf R.odd OM GM bM hr6 (E := E0) passL) (pv 2) (pv 6)) (pa_cons (pe_call GL hr1 rfl gL FL.kp bL .nil pass0 (pa_cons (pe_op op_mulW (pv 4) (pv 6)) (pa_cons (pv 5) pa_nil))) pa_nil)))))
          (pw_or1 (pt_not (pt_val (pe_call GI hr1 rfl gI FI.kp bI .nil pass0 (pa_cons (pe_op (op_rat (op := .Sub) R.sf R.odd OS GS bS hr6 (E := E0) passL) (pv 2) (pv 6)) (pa_cons (pe_call GL hr1 rfl gL FL.kp bL .nil pass0 (pa_cons (pe_op op_sub (pv 4) (pe_op op_mulW (pv 6) (pv 5))) (pa_cons (pv 5) pa_nil))) pa_nil)))))))) (pss_one (ps_ret pe_bl)) pss_nil)
      (pss_cons (ps_if (pt_cmpR (op_neD hr.units) (pe_lst (pa_cons (pe_meth (pv 2) cl MB GB hr8 bBe .nil (E := E0) passL (pa_cons (pv 3) pa_nil)) (pa_cons (pe_cmpR (op_eqOwn ME GE hr3 bE (E := E0) pass0) (pv 2) (pv 3) (nomark _)) pa_nil)))
          (pe_lst (pa_cons (pe_cmpR op_lt (pe_op op_mulW (pv 4) (pv 7)) (pe_op op_mulW (pv 6) (pv 5)) (nomark _)) (pa_cons (pe_cmpR op_eq (pe_op op_mulW (pv 4) (pv 7)) (pe_op op_mulW (pv 6) (pv 5)) (nomark _)) pa_nil))) (nomark _)) (pss_one (ps_ret pe_bl)) pss_nil)
      (pss_cons (ps_if (pt_cmpR op_ne (pe_meth (pv 2) cl MC GC hr7 bC .nil (E := E0) passL (pa_cons (pv 3) pa_nil)) (pe_op op_sub (pe_callTy call_int1 (by rfl) T.int PyProof.Rows.boot_int (pa_cons (pe_cmpR op_gt (pe_op op_mulW (pv 4) (pv 7)) (pe_op op_mulW (pv 6) (pv 5)) (nomark _)) pa_nil)) (pe_callTy call_int1 (by rfl) T.int PyProof.Rows.boot_int (pa_cons (pe_cmpR op_lt (pe_op op_mulW (pv 4) (pv 7)) (pe_op op_mulW (pv 6) (pv 5)) (nomark _)) pa_nil))) (nomark _)) (pss_one (ps_ret pe_bl)) pss_nil)
      (pss_cons (ps_if (PW.pt (pw_or (pt_cmpR op_ne (pe_meth (pv 2) cl MB GB hr8 bBe .nil (E := E0) passL (pa_cons (pv 6) pa_nil)) (pe_cmpR op_lt (pv 4) (pe_op op_mulW (pv 6) (pv 5)) (nomark _)) (nomark _))
          (pw_or1 (pt_cmpR op_ne (pe_methK0 (pv 2) cl MK GK hr7 bK (E := E0) passL (pk_cons (pv 6) pk_nil)) (pe_op op_sub (pe_callTy call_int1 (by rfl) T.int PyProof.Rows.boot_int (pa_cons (pe_cmpR op_gt (pv 4) (pe_op op_mulW (pv 6) (pv 5)) (nomark _)) pa_nil)) (pe_callTy call_int1 (by rfl) T.int PyProof.Rows.boot_int (pa_cons (pe_cmpR op_lt (pv 4) (pe_op op_mulW (pv 6) (pv 5)) (nomark _)) pa_nil))) (nomark _))))) (pss_one (ps_ret pe_bl)) pss_nil)
      (pss_cons (ps_if (pt_not (pt_val (pe_call GI hr1 rfl gI FI.kp bI .nil pass0 (pa_cons (pe_callR GD hr7 rfl gD kD (E := E0) passL (pa_cons (pv 2) (pa_cons (pv 3) (pa_cons (pv 6) pa_nil)))) (pa_cons (pe_call GL hr1 rfl gL FL.kp bL .nil pass0 (pa_cons (pe_op op_add (pe_op op_add (pe_op op_mulW (pv 4) (pv 7)) (pe_op op_mulW (pv 6) (pv 5))) (pe_op op_mulW (pe_op op_mulW (pv 6) (pv 5)) (pv 7))) (pa_cons (pe_op op_mulW (pv 5) (pv 7)) pa_nil))) pa_nil))))) (pss_one (ps_ret pe_bl)) pss_nil)
      (pss_one (ps_ret (pe_or (pe_cmpR op_eq (pv 6) pe_int (nomark _)) (pe_one (pe_and (pe_call GI hr1 rfl gI FI.kp bI .nil pass0 (pa_cons (pe_meth (pv 2) cl MO GO hr6 bO .nil (E := E0) passL (pa_cons (pv 3) pa_nil)) (pa_cons (pe_call GL hr1 rfl gL FL.kp bL .nil pass0 (pa_cons (pe_op op_mulW (pv 4) (pv 7)) (pa_cons (pe_op op_mulW (pv 5) (pv 6)) pa_nil))) pa_nil)))
          (pe_one (pe_call GI hr1 rfl gI FI.kp bI .nil pass0 (pa_cons (pe_meth (pv 2) cl MO GO hr6 bO .nil (E := E0) passL (pa_cons (pv 6) pa_nil)) (pa_cons (pe_call GL hr1 rfl gL FL.kp bL .nil pass0 (pa_cons (pv 4) (pa_cons (pe_op op_mulW (pv 5) (pv 6)) pa_nil))) pa_nil))))))))))))))))))), ?_⟩
    have ix0 : ∀ u v : Int, atI [V.int u, V.int v] 0 = some (.int u) := fun _ _ => rfl
    have ix1 : ∀ u v : Int, atI [V.int u, V.int v] 1 = some (.int v) := fun _ _ => rfl
    have big : ∀ {u : Int}, u.natAbs < 10 ^ 30 → u.natAbs < 2 ^ 4000 := fun h => sz_up (s1_sz (s1_ten h))
    have low2 : ∀ {u : Int}, u.natAbs < 10 ^ 30 → u.natAbs < 2 ^ 200 := fun h => Nat.lt_trans h (by decide +kernel)
    refine ⟨_, rfl, o, _, _, _, rfl, rfl, h1, ix0 _ _, _, rfl, o, _, _, _, rfl, rfl, h1, ix1 _ _, _, _, rfl, .inl ⟨t1, b1, rfl, rfl, n1, big z1, big z2, fun hh H1 s1 ra => ?_⟩⟩
    refine ⟨_, rfl, o', _, _, _, rfl, rfl, SqT.ext h2 s1, ix0 _ _, _, rfl, o', _, _, _, rfl, rfl, SqT.ext h2 s1, ix1 _ _, _, _, rfl, .inl ⟨t2, b2, rfl, rfl, n2, big z3, big z4, fun th H2 s2 rb => ?_⟩⟩
    refine ⟨_, _, rfl, ?_⟩
    have g1 := SqT.ext (SqT.ext h1 s1) s2
    have g2 := SqT.ext (SqT.ext h2 s1) s2
    refine ⟨_, rfl, o, _, _, _, rfl, rfl, g1, ix0 _ _, _, rfl, o, _, _, _, rfl, rfl, g1, ix1 _ _, t1, b1, rfl, n1, low2 z2, fun p1 np1 => ?_⟩
    refine ⟨p1, _, rfl, SqT.of upd_same, rfl, _, _, rfl, _, _, rfl, rfl, ?_⟩
    have s3 := same_upd (o := .tup [.int (lowT t1 b1), .int (lowB t1 b1)]) np1
    refine ⟨_, rfl, o', _, _, _, rfl, rfl, SqT.ext g2 s3, ix0 _ _, _, rfl, o', _, _, _, rfl, rfl, SqT.ext g2 s3, ix1 _ _, t2, b2, rfl, n2, low2 z4, fun p2 np2 => ?_⟩
    refine ⟨p2, _, rfl, SqT.of upd_same, rfl, _, _, rfl, _, _, rfl, rfl, ?_⟩
    have s4 := same_upd (o := .tup [.int (lowT t2 b2), .int (lowB t2 b2)]) np2
    have sAll := s1.trans (s2.trans (s3.trans s4))
    have rb := rb.same (s3.trans s4)
    have ra := ra.same (s2.trans (s3.trans s4))
    have k : ∀ H', Same _ H' → Q (.bl true) H' := fun H' s => k H' (sAll.trans s)
    have fa : S1 (lowT t1 b1) := s1_ten (Nat.lt_of_le_of_lt (lowT_le n1) z1)
    have fb : S1 (lowB t1 b1) := s1_ten (Nat.lt_of_le_of_lt (lowB_le n1) z2)
    have fc : S1 (lowT t2 b2) := s1_ten (Nat.lt_of_le_of_lt (lowT_le n2) z3)
    have fd : S1 (lowB t2 b2) := s1_ten (Nat.lt_of_le_of_lt (lowB_le n2) z4)
    have pb := lowB_pos (t := t1) n1
    have pd := lowB_pos (t := t2) n2
    have gab := low_gcd (t := t1) n1
    have gcd_ := low_gcd (t := t2) n2
    generalize upd (upd H2 p1 (.tup [.int (lowT t1 b1), .int (lowB t1 b1)])) p2 (.tup [.int (lowT t2 b2), .int (lowB t2 b2)]) = H4 at ra rb k ⊢
    generalize lowT t1 b1 = a at ra fa gab ⊢
    generalize lowB t1 b1 = b at ra fb gab pb ⊢
    generalize lowT t2 b2 = c at rb fc gcd_ ⊢
    generalize lowB t2 b2 = d at rb fd gcd_ pd ⊢
    clear h1 h2 g1 g2 s1 s2 s3 s4 sAll np1 np2 z1 z2 z3 z4 n1 n2
    have bn : b ≠ 0 := by omega
    have dn : d ≠ 0 := by omega
    have bdn : b * d ≠ 0 := Int.mul_ne_zero bn dn
    have bdz : (b * d).natAbs < 2 ^ 200 := s1_p fb fd
    have bz : b.natAbs < 2 ^ 200 := Nat.lt_of_lt_of_le fb (Nat.pow_le_pow_right (by decide) (by decide))
    have one1 : Sz 1 := by decide +kernel
    refine ⟨_, rfl, _, rfl, hh, a, b, rfl, ra, s1_sz fa, s1_sz fb, bn, .inl ⟨c, d, .inl ⟨th, rfl, rb⟩, s1_sz fc, s1_sz fd, dn, fun r H1 s1 rr => ?_⟩⟩
    refine ⟨_, rfl, _, rfl, _, _, rfl, rfl, s1_m fa fd, _, rfl, _, rfl, _, _, rfl, rfl, s1_m fc fb, _, _, rfl, rfl, _, rfl, _, rfl, _, _, rfl, rfl, s1_m fb fd, _, _, rfl, bdn, bdz, fun p np => ?_⟩
    refine ⟨r, p, _, _, _, _, rfl, rr.same (same_upd np), SqT.of upd_same, fun H2 s2 => ⟨true, tt2 _ _, iteF ?_⟩⟩
    have sx := s1.trans ((same_upd np).trans s2)
    replace ra := ra.same sx
    replace rb := rb.same sx
    replace k : ∀ H', Same H2 H' → Q (.bl true) H' := fun H' s => k H' (sx.trans s)
    clear rr np s1 s2 sx
    refine ⟨_, rfl, _, rfl, hh, a, b, rfl, ra, s1_sz fa, s1_sz fb, bn, .inl ⟨c, d, .inl ⟨th, rfl, rb⟩, s1_sz fc, s1_sz fd, dn, fun r H1 s1 rr => ?_⟩⟩
    refine ⟨_, rfl, _, rfl, _, _, rfl, rfl, s1_m fa fd, _, rfl, _, rfl, _, _, rfl, rfl, s1_m fc fb, _, _, rfl, rfl, _, rfl, _, rfl, _, _, rfl, rfl, s1_m fb fd, _, _, rfl, bdn, bdz, fun p np => ?_⟩
    refine ⟨r, p, _, _, _, _, rfl, rr.same (same_upd np), SqT.of upd_same, fun H2 s2 => ⟨true, tt2 _ _, iteF ?_⟩⟩
    have sx := s1.trans ((same_upd np).trans s2)
    replace ra := ra.same sx
    replace rb := rb.same sx
    replace k : ∀ H', Same H2 H' → Q (.bl true) H' := fun H' s => k H' (sx.trans s)
    clear rr np s1 s2 sx
    refine ⟨_, rfl, _, rfl, hh, a, b, rfl, ra, s1_sz fa, s1_sz fb, bn, .inl ⟨c, d, .inl ⟨th, rfl, rb⟩, s1_sz fc, s1_sz fd, dn, fun r H1 s1 rr => ?_⟩⟩
    refine ⟨_, rfl, _, rfl, _, _, rfl, rfl, s1_m fa fc, _, rfl, _, rfl, _, _, rfl, rfl, s1_m fb fd, _, _, rfl, bdn, bdz, fun p np => ?_⟩
    refine ⟨r, p, _, _, _, _, rfl, rr.same (same_upd np), SqT.of upd_same, fun H2 s2 => ⟨true, tt2 _ _, iteF ?_⟩⟩
    have sx := s1.trans ((same_upd np).trans s2)
    replace ra := ra.same sx
    replace rb := rb.same sx
    replace k : ∀ H', Same H2 H' → Q (.bl true) H' := fun H' s => k H' (sx.trans s)
    clear rr np s1 s2 sx
    refine ⟨_, rfl, _, rfl, hh, a, b, rfl, ra, s1_sz fa, s1_sz fb, bn, .inl ⟨c, 1, .inr ⟨rfl, rfl, sz_up (s1_sz fc)⟩, s1_sz fc, one1, by decide, fun r H1 s1 rr => ?_⟩⟩
    dsimp only at rr
    rw [Int.mul_one, Int.mul_one] at rr
    refine ⟨_, rfl, _, rfl, _, rfl, _, _, rfl, rfl, s1_m fc fb, _, _, rfl, rfl, _, rfl, _, _, rfl, bn, bz, fun p np => ?_⟩
    refine ⟨r, p, _, _, _, _, rfl, rr.same (same_upd np), SqT.of upd_same, fun H2 s2 => ⟨true, tt2 _ _, iteF ?_⟩⟩
    have sx := s1.trans ((same_upd np).trans s2)
    replace ra := ra.same sx
    replace rb := rb.same sx
    replace k : ∀ H', Same H2 H' → Q (.bl true) H' := fun H' s => k H' (sx.trans s)
    clear rr np s1 s2 sx
    refine ⟨_, rfl, _, rfl, hh, a, b, rfl, ra, s1_sz fa, s1_sz fb, bn, .inl ⟨c, 1, .inr ⟨rfl, rfl, sz_up (s1_sz fc)⟩, s1_sz fc, one1, by decide, fun r H1 s1 rr => ?_⟩⟩
    dsimp only at rr
    rw [Int.mul_one] at rr
    refine ⟨_, rfl, _, rfl, _, _, rfl, rfl, s1_m fa fc, _, rfl, _, _, rfl, bn, bz, fun p np => ?_⟩
    refine ⟨r, p, _, _, _, _, rfl, rr.same (same_upd np), SqT.of upd_same, fun H2 s2 => ⟨true, tt2 _ _, iteF ?_⟩⟩
    have sx := s1.trans ((same_upd np).trans s2)
    replace ra := ra.same sx
    replace rb := rb.same sx
    replace k : ∀ H', Same H2 H' → Q (.bl true) H' := fun H' s => k H' (sx.trans s)
    clear rr np s1 s2 sx
    refine ⟨_, rfl, _, rfl, hh, a, b, rfl, ra, s1_sz fa, s1_sz fb, bn, .inl ⟨c, 1, .inr ⟨rfl, rfl, sz_up (s1_sz fc)⟩, s1_sz fc, one1, by decide, fun r H1 s1 rr => ?_⟩⟩
    dsimp only at rr
    rw [Int.mul_one, Int.mul_one] at rr
    refine ⟨_, rfl, _, rfl, _, rfl, _, _, rfl, rfl, s1_m fc fb, _, _, rfl, rfl, _, rfl, _, _, rfl, bn, bz, fun p np => ?_⟩
    refine ⟨r, p, _, _, _, _, rfl, rr.same (same_upd np), SqT.of upd_same, fun H2 s2 => ⟨true, tt2 _ _, iteF ?_⟩⟩
    have sx := s1.trans ((same_upd np).trans s2)
    replace ra := ra.same sx
    replace rb := rb.same sx
    replace k : ∀ H', Same H2 H' → Q (.bl true) H' := fun H' s => k H' (sx.trans s)
    clear rr np s1 s2 sx
    obtain ⟨dx, ea⟩ := id ra
    dsimp only [tNext]
    refine ⟨_, rfl, hh, dx, _, rfl, ea, lookF _ _ _ (by decide), _, rfl, hh, _, a, b, rfl, ra, s1_sz fa, s1_sz fb, pb, .inl ⟨c, d, .inl ⟨th, rfl, rb⟩, s1_sz fc, s1_sz fd, pd, fun H1 s1 => ?_⟩⟩
    have ra1 := ra.same s1
    have rb1 := rb.same s1
    refine ⟨_, rfl, _, rfl, hh, .ref C, rfl, ra1.ins, ty_ins rb1.ins, by simp [PySem.W.notFirst], hh, _, a, b, rfl, ra1, .inl ⟨th, c, d, rfl, rb1, _, rfl, ?_⟩⟩
    rw [show (if false = true then !(decide (a = c) && decide (b = d)) else (decide (a = c) && decide (b = d))) = (decide (a = c) && decide (b = d)) from rfl]
    refine ⟨by rw [sizeLine_eq]; show 2 ≤ 16777216; decide, fun p np => ?_⟩
    refine ⟨_, rfl, _, rfl, _, _, rfl, rfl, s1_m fa fd, _, rfl, _, rfl, _, _, rfl, rfl, s1_m fc fb, _, _, rfl, rfl, _, rfl, _, rfl, _, _, rfl, rfl, s1_m fa fd, _, rfl, _, rfl, _, _, rfl, rfl, s1_m fc fb, rfl, by rw [sizeLine_eq]; show 2 ≤ 16777216; decide, fun p2 np2 => ?_⟩
    have sx := s1.trans ((same_updR (o := .lst [.bl (decide (sg (a * d - c * b) < 0)), .bl (decide (a = c) && decide (b = d))]) np).trans (same_updR (o := .lst [.bl (decide (a * d < c * b)), .bl (decide (V.int (a * d) = V.int (c * b)))]) np2))
    have e2 : (decide (a = c) && decide (b = d)) = decide (V.int (a * d) = V.int (c * b)) := by
      rw [decI, ← Bool.decide_and]
      refine decide_eq_decide.mpr ⟨fun ⟨x, y⟩ => by rw [x, y], fun z => low_one pb pd gab gcd_ z⟩
    refine ⟨.list [.bool (decide (sg (a * d - c * b) < 0)), .bool (decide (a = c) && decide (b = d))], .list [.bool (decide (a * d < c * b)), .bool (decide (V.int (a * d) = V.int (c * b)))], dp_bl2 (same_updR np2 _ _ upd_same), dp_bl2 upd_same, shaped_bl2 _ _, shaped_bl2 _ _, false, congrArg V.bl (by rw [sg_neg, e2, eqv_bl2]; rfl), iteF ?_⟩
    replace ra := ra.same sx
    replace rb := rb.same sx
    replace k : ∀ H', Same _ H' → Q (.bl true) H' := fun H' s => k H' (sx.trans s)
    clear ra1 rb1 s1 sx ea dx
    generalize upd (upd H1 p (.lst [.bl (decide (sg (a * d - c * b) < 0)), .bl (decide (a = c) && decide (b = d))])) p2 (.lst [.bl (decide (a * d < c * b)), .bl (decide (V.int (a * d) = V.int (c * b)))]) = H5 at ra rb k ⊢
    clear np np2
    -- T8
    obtain ⟨dx, ea⟩ := id ra
    dsimp only [tNext]
    refine ⟨_, rfl, hh, dx, _, rfl, ea, lookF _ _ _ (by decide), _, rfl, hh, _, a, b, rfl, ra, s1_sz fa, s1_sz fb, pb, .inl ⟨c, d, .inl ⟨th, rfl, rb⟩, s1_sz fc, s1_sz fd, pd, fun H1 sx => ?_⟩⟩
    refine ⟨_, rfl, _, rfl, _, _, rfl, rfl, s1_m fa fd, _, rfl, _, rfl, _, _, rfl, rfl, s1_m fc fb, _, _, rfl, rfl, .inr ⟨_, rfl, ?_⟩⟩
    refine ⟨_, rfl, _, rfl, _, _, rfl, rfl, s1_m fa fd, _, rfl, _, rfl, _, _, rfl, rfl, s1_m fc fb, _, _, rfl, rfl, .inr ⟨_, rfl, _, _, rfl, rfl, rfl, false, congrArg V.bl (by rw [sg_int, decide_eq_true rfl]; rfl), iteF ?_⟩⟩
    replace ra := ra.same sx
    replace rb := rb.same sx
    replace k : ∀ H', Same H1 H' → Q (.bl true) H' := fun H' s => k H' (sx.trans s)
    clear sx ea dx
    -- T9
    obtain ⟨dx, ea⟩ := id ra
    dsimp only [tNext]
    refine ⟨_, rfl, hh, dx, _, rfl, ea, lookF _ _ _ (by decide), _, rfl, hh, _, a, b, rfl, ra, s1_sz fa, s1_sz fb, pb, .inl ⟨c, 1, .inr ⟨rfl, rfl, sz_up (s1_sz fc)⟩, s1_sz fc, one1, by decide, fun H2 sx => ?_⟩⟩
    refine ⟨_, rfl, _, rfl, _, rfl, _, _, rfl, rfl, s1_m fc fb, _, _, rfl, rfl, rfl, false, congrArg V.bl (ne_bl _ _), iteF ?_⟩
    replace ra := ra.same sx
    replace rb := rb.same sx
    replace k : ∀ H', Same H2 H' → Q (.bl true) H' := fun H' s => k H' (sx.trans s)
    clear sx ea dx
    obtain ⟨dx, ea⟩ := id ra
    refine ⟨_, rfl, hh, dx, _, rfl, ea, lookF _ _ _ (by decide), _, rfl, hh, _, a, b, rfl, ra, s1_sz fa, s1_sz fb, pb, .inl ⟨c, 1, .inr ⟨rfl, rfl, sz_up (s1_sz fc)⟩, s1_sz fc, one1, by decide, fun H3 sx => ?_⟩⟩
    refine ⟨_, rfl, _, rfl, _, rfl, _, _, rfl, rfl, s1_m fc fb, _, _, rfl, rfl, .inr ⟨_, rfl, ?_⟩⟩
    refine ⟨_, rfl, _, rfl, _, rfl, _, _, rfl, rfl, s1_m fc fb, _, _, rfl, rfl, .inr ⟨_, rfl, _, _, rfl, rfl, rfl, false, congrArg V.bl (by rw [Int.mul_one, sg_int, decide_eq_true rfl]; rfl), iteF ?_⟩⟩
    replace ra := ra.same sx
    replace rb := rb.same sx
    replace k : ∀ H', Same H3 H' → Q (.bl true) H' := fun H' s => k H' (sx.trans s)
    clear sx ea dx
    -- T10
    have nl : NumL H3 C [.ref hh, .ref th, .int c] [(a, b), (c, d), (c, 1)] := .cons ⟨.inl ⟨hh, rfl, ra⟩, s1_sz fa, s1_sz fb, bn⟩ (.cons ⟨.inl ⟨th, rfl, rb⟩, s1_sz fc, s1_sz fd, dn⟩ (.cons ⟨.inr ⟨rfl, rfl, sz_up (s1_sz fc)⟩, s1_sz fc, one1, by show (1 : Int) ≠ 0; decide⟩ .nil))
    have lw : ∀ {n m : Int}, m ≠ 0 → Sz n → Sz m → Sz (lowT n m) ∧ Sz (lowB n m) ∧ lowB n m ≠ 0 := fun {n m} hm hn hz => ⟨Nat.lt_of_le_of_lt (lowT_le hm) hn, Nat.lt_of_le_of_lt (lowB_le hm) hz, Int.ne_of_gt (lowB_pos hm)⟩
    have z400 : ∀ {x : Int}, x.natAbs < 2 ^ 400 → Sz x := fun h => Nat.lt_of_lt_of_le h (Nat.pow_le_pow_right (by decide) (by decide))
    have q1 := s1_p fa fd
    have q2 := s1_p fc fb
    have q3 : (c * b * d).natAbs < 2 ^ 300 := wide_lt q2 fd
    have p23 : (2 : Nat) ^ 200 + 2 ^ 200 + 2 ^ 300 ≤ 2 ^ 400 := by decide +kernel
    have z2 : Sz (a * d + c * b) := z400 (by have := Int.natAbs_add_le (a * d) (c * b); omega)
    have z3 : Sz (a * d + c * b + c * b * d) := z400 (by have := Int.natAbs_add_le (a * d) (c * b); have := Int.natAbs_add_le (a * d + c * b) (c * b * d); omega)
    have zbd : Sz (b * d) := z400 (Nat.lt_of_lt_of_le bdz (Nat.pow_le_pow_right (by decide) (by decide)))
    have sizes : ∀ n, Sz (accN ((([(a, b), (c, d), (c, 1)] : List (Int × Int))).take n)).1 ∧ Sz (accN ((([(a, b), (c, d), (c, 1)] : List (Int × Int))).take n)).2 ∧ (accN ((([(a, b), (c, d), (c, 1)] : List (Int × Int))).take n)).2 ≠ 0 := fun n => by
      match n with
      | 0 => exact ⟨by show Sz 0; decide +kernel, one1, by show (1 : Int) ≠ 0; decide⟩
      | 1 =>
        have e : accN ((([(a, b), (c, d), (c, 1)] : List (Int × Int))).take 1) = (lowT a b, lowB a b) := acc_1 bn
        rw [e]
        exact lw bn (s1_sz fa) (s1_sz fb)
      | 2 =>
        have e : accN ((([(a, b), (c, d), (c, 1)] : List (Int × Int))).take 2) = _ := acc_2 bn dn
        rw [e]
        exact lw bdn z2 zbd
      | n + 3 =>
        have e : accN ((([(a, b), (c, d), (c, 1)] : List (Int × Int))).take (n + 3)) = (lowT (a * d + c * b + c * b * d) (b * d), lowB (a * d + c * b + c * b * d) (b * d)) := by
          rw [List.take_of_length_le (by simp)]
          exact acc_3 bn dn
        rw [e]
        exact lw bdn z3 zbd
    dsimp only [tNext]
    refine ⟨_, rfl, _, rfl, _, rfl, [true, true, true], by show 3 ≤ 1000; decide, nl.kinds, .inl ⟨_, nl, sizes, rfl, fun r H1 s1 rr => ?_⟩⟩
    have e3 : accN [(a, b), (c, d), (c, 1)] = (lowT (a * d + c * b + c * b * d) (b * d), lowB (a * d + c * b + c * b * d) (b * d)) := acc_3 bn dn
    rw [e3] at rr
    refine ⟨_, rfl, _, rfl, _, _, rfl, rfl, s1_m fa fd, _, rfl, _, rfl, _, _, rfl, rfl, s1_m fc fb, _, _, rfl, rfl, _, rfl, _, rfl, _, _, rfl, rfl, s1_m fc fb, _, rfl, _, _, rfl, rfl, s2_m q2 fd, _, _, rfl, rfl, _, rfl, _, rfl, _, _, rfl, rfl, s1_m fb fd, _, _, rfl, bdn, bdz, fun p np => ?_⟩
    refine ⟨r, p, _, _, _, _, rfl, rr.same (same_upd np), SqT.of upd_same, fun H2 s2 => ⟨true, tt2 _ _, iteF ?_⟩⟩
    have sx := s1.trans ((same_upd np).trans s2)
    replace ra := ra.same sx
    replace rb := rb.same sx
    replace k : ∀ H', Same H2 H' → Q (.bl true) H' := fun H' s => k H' (sx.trans s)
    clear rr np s1 s2 sx nl sizes e3
    -- T11
    dsimp only [tNext]
    refine ⟨_, rfl, rfl, decide (c = 0), congrArg V.bl (decI ..), ?_⟩
    by_cases cz : c = 0
    · rw [decide_eq_true cz]
      exact iteT (k _ (Same.refl _))
    · rw [decide_eq_false cz]
      have bc : b * c ≠ 0 := Int.mul_ne_zero bn cz
      have bcz : (b * c).natAbs < 2 ^ 200 := s1_p fb fc
      obtain ⟨dx, ea⟩ := id ra
      refine iteF ⟨_, rfl, hh, dx, _, rfl, ea, lookF _ _ _ (by decide), _, rfl, hh, _, a, b, rfl, ra, s1_sz fa, s1_sz fb, bn, .inl ⟨c, d, .inl ⟨th, rfl, rb⟩, s1_sz fc, s1_sz fd, dn, cz, fun r H1 s1 rr => ?_⟩⟩
      refine ⟨_, rfl, _, rfl, _, _, rfl, rfl, s1_m fa fd, _, rfl, _, rfl, _, _, rfl, rfl, s1_m fb fc, _, _, rfl, bc, bcz, fun p np => ?_⟩
      refine ⟨r, p, _, _, _, _, rfl, rr.same (same_upd np), SqT.of upd_same, fun H6 s2 => ⟨true, tt2 _ _, iteT ?_⟩⟩
      have sx := s1.trans ((same_upd np).trans s2)
      have ra2 := ra.same sx
      obtain ⟨dx2, ea2⟩ := id ra2
      refine ⟨_, rfl, hh, dx2, _, rfl, ea2, lookF _ _ _ (by decide), _, rfl, hh, _, a, b, rfl, ra2, s1_sz fa, s1_sz fb, bn, .inl ⟨c, 1, .inr ⟨rfl, rfl, sz_up (s1_sz fc)⟩, s1_sz fc, one1, by decide, cz, fun r2 H7 s7 rr2 => ?_⟩⟩
      rw [Int.mul_one] at rr2
      refine ⟨_, rfl, _, rfl, _, rfl, _, _, rfl, rfl, s1_m fb fc, _, _, rfl, bc, bcz, fun p2 np2 => ?_⟩
      refine ⟨r2, p2, _, _, _, _, rfl, rr2.same (same_upd np2), SqT.of upd_same, fun H8 s8 => ?_⟩
      have z := k H8 (sx.trans (s7.trans ((same_upd np2).trans s8)))
      rw [← tt2 (lowT a (b * c)) (lowB a (b * c))] at z
      exact z
end
end K01
namespace K01
open PySem PySem.Spec PyProof.Rows L2 RatM
/-- the built-ins' names that are free -/
structure Blt1 (mg : Str → Option Value) : Prop where
  int : mg "int" = none
  len : mg "len" = none
/-! ### whole numbers read off a word -/
def isDig (l : List Nat) : Bool := l.all fun c => decide (48 ≤ c) && decide (c ≤ 57)
def wholeT (l : List Nat) : Option Nat := if decide (60 < l.length) || !(isDig l && decide (0 < l.length)) then none else if decide (l.head? = some 48) && decide (1 < l.length) then none else some (NumText.digitsVal l)
def optI : Option Nat → V
  | none => .non
  | some n => .int n
theorem dig1 {c : Nat} (h : c < 128) : Unicode.isDigit c = (decide (48 ≤ c) && decide (c ≤ 57)) := by
  have z := PySem.W.os_isdigit h
  unfold Txt.isdigit at z
  rw [← z]
  simp [Str.length]
theorem ascii_all (x : Str) : Txt.isascii x = x.cps.toList.all fun c => decide (c < 128) := by
  unfold Txt.isascii
  simp [Array.all_toList]
theorem digit_all {x : Str} (h : Txt.isascii x = true) : Txt.isdigit x = (isDig x.cps.toList && decide (0 < x.cps.toList.length)) := by
  rw [ascii_all, List.all_eq_true] at h
  unfold Txt.isdigit isDig
  rw [← Array.all_toList]
  have e : (x.cps.toList.all Unicode.isDigit) = x.cps.toList.all fun c => decide (48 ≤ c) && decide (c ≤ 57) := by
    rw [Bool.eq_iff_iff, List.all_eq_true, List.all_eq_true]
    exact ⟨fun q c hc => by rw [← dig1 (of_decide_eq_true (h c hc))]; exact q c hc, fun q c hc => by rw [dig1 (of_decide_eq_true (h c hc))]; exact q c hc⟩
  rw [e, Bool.and_comm]
  rfl
theorem dig_ascii {x : Str} (h : isDig x.cps.toList = true) : Txt.isascii x = true := by
  rw [ascii_all, List.all_eq_true]
  unfold isDig at h
  rw [List.all_eq_true] at h
  intro c hc
  have z := h c hc
  simp only [Bool.and_eq_true, decide_eq_true_eq] at z
  exact decide_eq_true (by omega)
def spWhole (K : PySem.W.Frag) : Sp := fun vs H Q _ => ∃ w : Str, vs = [.str w] ∧ w.length ≤ sizeLine ∧ Q (optI (wholeT w.cps.toList)) H
section
variable {P : Program} {w : World} {K : PySem.W.Frag} {mg : Str → Option Value} {base : Heap} {C BR : Addr}
theorem scWh : FnScope ["word"] ["word"] (defScope (top 19)) := ⟨rfl, rfl, rfl, by decide +kernel, rfl, by decide +kernel, by decide +kernel⟩
theorem ok_whole {f : Addr} {fd : FuncData} (F : FnP K "whole_in" (top 19) f fd) (T : Blt1 mg) (hM : ∃ t, mg "_MOST_DIGITS" = some (.int 60 t)) : FnOk P w K mg base CX0 1 f fd ["word"] (spWhole K) := by
  obtain ⟨tM, hM⟩ := hM
  refine F.ok scWh (fun vs H Q E h => ?_) (fun cdv A outer s H vs Q E hr h => ?_)
  · obtain ⟨x, rfl, _⟩ := h
    rfl
  · obtain ⟨x, rfl, hz, k⟩ := h
    refine ⟨_, PSs.nox (pss_cons (ps_if (PW.pt (pw_or (pt_cmpR op_gt (pe_callB call_len (by rfl) T.len PySem.boot_len (pa_cons (pv 0) pa_nil)) (pe_glob (v := .int 60) rfl hM ⟨_, rfl⟩) (nomark _)) (pw_or (pt_not (pt_val (pe_bm0 PySem.F.plainAttrs_str PySem.F.slot_str_isascii PySem.F.type_str_isascii mt_isascii (pv 0)))) (pw_or1 (pt_not (pt_val (pe_bm0 PySem.F.plainAttrs_str PySem.F.slot_str_isdigit PySem.F.type_str_isdigit mt_isdigit (pv 0)))))))) (pss_one (ps_ret pe_non)) pss_nil)
      (pss_cons (ps_if (PW.pt (pw_and (pt_cmpR op_eq (pe_ix ix_str (pv 0) pe_int (fun _ _ => rfl)) pe_str (nomark _)) (pw_and1 (pt_cmpR op_gt (pe_callB call_len (by rfl) T.len PySem.boot_len (pa_cons (pv 0) pa_nil)) pe_int (nomark _))))) (pss_one (ps_ret pe_non)) pss_nil)
      (pss_one (ps_ret (pe_callTy call_int_str (by rfl) T.int PyProof.Rows.boot_int (pa_cons (pv 0) pa_nil)))))), ?_⟩
    have lx : x.length = x.cps.toList.length := by simp [Str.length]
    refine ⟨_, rfl, .str x, x.length, rfl, ⟨hz, rfl⟩, _, _, rfl, rfl, decide ((60 : Int) < (x.length : Nat)), rfl, ?_⟩
    by_cases c1 : 60 < x.cps.toList.length
    · have e : wholeT x.cps.toList = none := by
        unfold wholeT
        rw [decide_eq_true c1]
        rfl
      rw [e] at k
      rw [decide_eq_true (show (60 : Int) < (x.length : Nat) by omega)]
      exact iteT k
    · rw [decide_eq_false (show ¬ (60 : Int) < (x.length : Nat) by omega)]
      have c1 : ¬ 60 < x.cps.toList.length := c1
      by_cases hA : Txt.isascii x = true
      · have hD := digit_all hA
        refine iteF ⟨_, rfl, rfl, x, rfl, rfl, trivial, true, congrArg V.bl hA, iteF ?_⟩
        by_cases hd : (isDig x.cps.toList && decide (0 < x.cps.toList.length)) = true
        · rw [hd] at hD
          refine ⟨_, rfl, rfl, x, rfl, rfl, trivial, true, congrArg V.bl hD, iteF ?_⟩
          have hw : wholeT x.cps.toList = if decide (x.cps.toList.head? = some 48) && decide (1 < x.cps.toList.length) then none else some (NumText.digitsVal x.cps.toList) := by
            unfold wholeT
            rw [decide_eq_false c1, hd]
            rfl
          rw [hw] at k
          simp only [Bool.and_eq_true, decide_eq_true_eq] at hd
          obtain ⟨hd1, hd2⟩ := hd
          obtain ⟨c0, r, hl⟩ : ∃ c0 r, x.cps.toList = c0 :: r := by
            cases h : x.cps.toList with
            | nil => rw [h] at hd2; cases hd2
            | cons c r => exact ⟨c, r, rfl⟩
          have at0 : atI x.cps.toList 0 = some c0 := by rw [hl]; exact atI_nat (show (c0 :: r)[0]? = some c0 from rfl)
          have ez : decide (V.str ⟨#[c0]⟩ = V.str "0") = decide (c0 = 48) := by
            refine decide_eq_decide.mpr ⟨fun z => ?_, fun z => by rw [z]; rfl⟩
            have z2 := congrArg (fun v => match v with | V.str y => y.cps.toList | _ => []) z
            have z3 : [c0] = [48] := z2
            exact (List.cons.inj z3).1
          have eh : decide (x.cps.toList.head? = some 48) = decide (c0 = 48) := by
            rw [hl]
            exact decide_eq_decide.mpr ⟨fun z => Option.some.inj z, fun z => by rw [z]; rfl⟩
          rw [eh] at k
          have fin : optI (some (NumText.digitsVal x.cps.toList)) = .int (NumText.digitsVal x.cps.toList : Nat) := rfl
          have it : intText? x = some ((NumText.digitsVal x.cps.toList : Nat) : Int) := intText_digits (fun c hc => by
            have z := List.all_eq_true.mp hd1 c hc
            simpa using z) (by rw [hl]; exact List.cons_ne_nil _ _) (by omega)
          refine ⟨_, rfl, x, 0, c0, rfl, rfl, hz, at0, rfl, decide (c0 = 48), congrArg V.bl ez, ?_⟩
          by_cases h48 : c0 = 48
          · rw [decide_eq_true h48] at k ⊢
            refine iteT ⟨_, rfl, .str x, x.length, rfl, ⟨hz, rfl⟩, _, _, rfl, rfl, decide ((1 : Int) < (x.length : Nat)), rfl, ?_⟩
            by_cases h1 : 1 < x.cps.toList.length
            · rw [decide_eq_true h1] at k
              rw [decide_eq_true (show (1 : Int) < (x.length : Nat) by omega)]
              exact iteT k
            · rw [decide_eq_false h1] at k
              rw [decide_eq_false (show ¬ (1 : Int) < (x.length : Nat) by omega)]
              exact iteF ⟨_, rfl, x, _, rfl, it, by omega, k⟩
          · rw [decide_eq_false h48] at k ⊢
            exact iteF ⟨_, rfl, x, _, rfl, it, by omega, k⟩
        · rw [Bool.not_eq_true] at hd
          rw [hd] at hD
          have hw : wholeT x.cps.toList = none := by
            unfold wholeT
            rw [decide_eq_false c1, hd]
            rfl
          rw [hw] at k
          exact ⟨_, rfl, rfl, x, rfl, rfl, trivial, false, congrArg V.bl hD, iteT k⟩
      · rw [Bool.not_eq_true] at hA
        have hd : isDig x.cps.toList = false := by
          rw [← Bool.not_eq_true]
          intro z
          rw [dig_ascii z] at hA
          cases hA
        have hw : wholeT x.cps.toList = none := by
          unfold wholeT
          rw [decide_eq_false c1, hd]
          rfl
        rw [hw] at k
        exact iteF ⟨_, rfl, rfl, x, rfl, rfl, trivial, false, congrArg V.bl hA, iteT k⟩
end
end K01
namespace K01
open PySem PySem.Spec PyProof.Rows L2 RatM
/-! ### a ratio read off a word -/
def piecesT (w : Str) : List (Option Nat) := (Txt.split (Txt.removeprefix w "-") "/").map fun x => wholeT x.cps.toList
def topT (w : Str) (n : Nat) : Int := if Txt.startswith w "-" = true then -(n : Int) else n
def chkT (w : Str) (t b : Int) : Option (Int × Int) := if textR (lowT t b) (lowB t b) = w then some (lowT t b, lowB t b) else none
def ratioT (w : Str) : Option (Int × Int) := match piecesT w with
  | [some n] => chkT w (topT w n) 1
  | [some n, some m] => if m = 0 then none else chkT w (topT w n) m
  | _ => none
theorem digitsVal_lt : ∀ (l : List Nat) (a k : Nat), a < 10 ^ k → isDig l = true → l.foldl (fun acc c => acc * 10 + (c - 48)) a < 10 ^ (k + l.length)
  | [], a, k, h, _ => h
  | c :: r, a, k, h, hd => by
    unfold isDig at hd
    rw [List.all_cons, Bool.and_eq_true] at hd
    have hc := hd.1
    simp only [Bool.and_eq_true, decide_eq_true_eq] at hc
    have z := digitsVal_lt r (a * 10 + (c - 48)) (k + 1) (by rw [Nat.pow_succ]; omega) (by unfold isDig; exact hd.2)
    rw [List.length_cons, show k + (r.length + 1) = k + 1 + r.length by omega]
    exact z
theorem wholeT_lt {l : List Nat} {n : Nat} (h : wholeT l = some n) : n < 10 ^ 60 := by
  unfold wholeT at h
  split at h
  · cases h
  · rename_i c
    split at h
    · cases h
    · cases h
      simp only [Bool.or_eq_true, Bool.not_eq_true', decide_eq_true_eq, not_or, Bool.not_eq_false, Bool.and_eq_true] at c
      have z := digitsVal_lt l 0 0 (by decide) c.2.1
      rw [Nat.zero_add] at z
      exact Nat.lt_of_lt_of_le z (Nat.pow_le_pow_right (by decide) (by omega))
theorem decS (x y : Str) : decide (V.str x = V.str y) = decide (x = y) := by
  by_cases h : x = y
  · rw [decide_eq_true h, decide_eq_true (congrArg V.str h)]
  · rw [decide_eq_false h, decide_eq_false fun z => h (V.str.inj z)]
theorem split_ne (x y : Str) : Txt.split x y ≠ [] := by
  unfold Txt.split
  split
  · exact List.cons_ne_nil _ _
  · split
    · exact List.cons_ne_nil _ _
    · unfold Builtin.Str.partsBetween
      cases Builtin.Str.occurrences x y 0 x.length (x.length + 1) <;> exact List.cons_ne_nil _ _
def spRIn (K : PySem.W.Frag) (C : Addr) : Sp := fun vs H Q _ => ∃ w : Str, vs = [.str w] ∧ w.length ≤ 100000 ∧ (Txt.removeprefix w "-").length ≤ 100000 ∧ (Txt.split (Txt.removeprefix w "-") "/").length ≤ 100000 ∧ (∀ x ∈ Txt.split (Txt.removeprefix w "-") "/", x.length ≤ 100000) ∧
  (∀ p q, ratioT w = some (p, q) → ∀ a H', Same H H' → RatAt H' a C p q → Q (.ref a) H') ∧ (ratioT w = none → ∀ H', Same H H' → Q .non H')
section
variable {P : Program} {w : World} {K : PySem.W.Frag} {mg : Str → Option Value} {base : Heap} {C BR : Addr}
theorem scRn : FnScope ["word", "pieces", "piece", "bottom", "top", "ratio"] ["word"] (defScope (top 27)) := ⟨rfl, rfl, rfl, by decide +kernel, rfl, by decide +kernel, by decide +kernel⟩
theorem ok_ratioIn {f fW fS : Addr} {fd fdW fdS : FuncData} (F : FnP K "ratio_in" (top 27) f fd) (R : RatK P w K mg base C BR) (T : Blt1 mg) (bA : mg "any" = none) (bs : mg "str" = none) (FW : FnP K "whole_in" (top 19) fW fdW) (gW : mg "whole_in" = some (.ref fW)) (hM : ∃ t, mg "_MOST_DIGITS" = some (.int 60 t))
    (MS : OwnM K C "__str__" fS) (GS : FnOk P w K mg base CX0 2 fS fdS ["self"] (spText K C)) (bS : Binds K fdS ["self"] []) : FnOk P w K mg base CX0 5 f fd ["word"] (spRIn K C) := by
  have GW : FnOk P w K mg base CX0 1 fW fdW ["word"] (spWhole K) := ok_whole FW T hM
  have bW : Binds K fdW ["word"] [] := FW.bindsN fun _ _ _ _ _ _ us hl => match us, hl with | [_], _ => rfl
  refine F.ok scRn (fun vs H Q E h => ?_) (fun cdv A outer s H vs Q E hr h => ?_)
  · obtain ⟨x, rfl, _⟩ := h
    rfl
  · obtain ⟨x, rfl, hz, hz1, hz2, hz3, ks, kn⟩ := h
    have hr4 : Room 4 _ := hr
    have hr1 : Room 1 _ := hr4.mono (by decide)
    refine ⟨_, PSs.nox (pss_cons (ps_setLc (i := 1) (own := [("piece", 2)]) (g := gName 2) (tt := tYes) rfl scRn.nd rfl rfl (sw_true rfl rfl rfl rfl) (pi_list (pe_bm PySem.F.plainAttrs_str PySem.F.slot_str_split PySem.F.type_str_split mt_split (pe_bm PySem.F.plainAttrs_str PySem.F.slot_str_removeprefix PySem.F.type_str_removeprefix mt_removeprefix (pv 0) (pa_cons pe_str pa_nil)) (pa_cons pe_str pa_nil)))
          (blkOk_by (N := ["word", "pieces", "piece", "bottom", "top", "ratio"]) (sc := defScope (top 27)) (by decide +kernel)) (fun _ _ _ _ _ => pg_name (i := 2) scRn.nd rfl (Or.inl rfl)) (fun _ _ _ _ _ => pts_nil) (fun _ _ _ _ _ => pe_call GW hr1 rfl gW FW.kp bW .nil pass0 (pa_cons (pv 2) pa_nil)))
      (pss_cons (ps_if (PW.pt (pw_or (pt_cmpR op_gt (pe_callB call_len_seq (by rfl) T.len PySem.boot_len (pa_cons (pv 1) pa_nil)) pe_int (nomark _)) (pw_or1 (pt_val (pe_callB (cr_any rfl) (by rfl) bA PyProof.Rows.boot_any (pa_cons (pe_lc (own := [("piece", 2)]) (g := gName 2) (tt := tYes) rfl scRn.nd (pi_list (pv 1))
          (blkOk_by (N := ["word", "pieces", "piece", "bottom", "top", "ratio"]) (sc := defScope (top 27)) (by decide +kernel)) (fun _ _ _ _ _ => pg_name (i := 2) scRn.nd rfl (Or.inl rfl)) (fun _ _ _ _ _ => pts_nil) (fun _ _ _ _ _ => pe_cmpR op_isN (pv 2) pe_non (nomark _))) pa_nil)))))) (pss_one (ps_ret pe_non)) pss_nil)
      (pss_cons (ps_set (i := 3) scRn.nd rfl (.inl rfl) (pe_ifExp (pt_cmpR op_eq (pe_callB call_len_seq (by rfl) T.len PySem.boot_len (pa_cons (pv 1) pa_nil)) pe_int (nomark _)) (pe_ix ix_list (pv 1) pe_int (fun _ _ => rfl)) pe_int))
      (pss_cons (ps_if (pt_cmpR op_eq (pv 3) pe_int (nomark _)) (pss_one (ps_ret pe_non)) pss_nil)
      (pss_cons (ps_set (i := 4) scRn.nd rfl (.inl rfl) (pe_ifExp (pt_val (pe_bm PySem.F.plainAttrs_str PySem.F.slot_str_startswith PySem.F.type_str_startswith mt_startswith (pv 0) (pa_cons pe_str pa_nil))) (pe_un un_neg (pe_ix ix_list (pv 1) pe_int (fun _ _ => rfl))) (pe_ix ix_list (pv 1) pe_int (fun _ _ => rfl))))
      (pss_cons (ps_set (i := 5) scRn.nd rfl (.inl rfl) (pe_rat2 R hr4 (E := E0) passL (by rfl) (pa_cons (pv 4) (pa_cons (pv 3) pa_nil))))
      (pss_one (ps_ret (pe_ifExp (pt_cmpR op_eq (pe_callTy (call_ownStr MS GS hr4 bS (E := E0) pass0) (by rfl) bs PyProof.Rows.boot_str (pa_cons (pv 5) pa_nil)) (pv 0) (nomark _)) (pv 5) pe_non))))))))), ?_⟩
    have hs : ∀ {n : Nat}, n ≤ 100000 → n ≤ sizeLine := fun h => by rw [sizeLine_eq]; omega
    refine ⟨_, rfl, rfl, x, _, rfl, rfl, hs hz, rfl, _, _, rfl, rfl, rfl, by rw [sizeLine_eq]; omega, fun p np => ⟨_, rfl, ⟨_, SqL.of upd_same⟩, fun D nD => ?_⟩⟩
    have s1 := same_updR (o := .lst ((Txt.split (Txt.removeprefix x "-") "/").map V.str)) np
    have hpD : p ≠ D := fun z => by rw [← z, upd_same] at nD; cases nD
    have lenP : (piecesT x).length = (Txt.split (Txt.removeprefix x "-") "/").length := List.length_map ..
    refine lc_list (K := K) (a := p) (xs := (Txt.split (Txt.removeprefix x "-") "/").map V.str) (fun j H2 => Same H H2 ∧ H2 p = some (.lst ((Txt.split (Txt.removeprefix x "-") "/").map V.str)) ∧ H2 D = some (.lst (((piecesT x).map optI).take j)))
      ⟨s1.trans (same_updR nD), by rw [upd_ne hpD]; exact upd_same, upd_same⟩ (fun j H2 _ q => SqL.of q.2.1) ?_ ?_
    · rintro j y H2 hy ⟨s2, hp2, hD2⟩
      rw [List.getElem?_map] at hy
      obtain ⟨z, hz0, rfl⟩ : ∃ z, (Txt.split (Txt.removeprefix x "-") "/")[j]? = some z ∧ y = V.str z := by
        cases e : (Txt.split (Txt.removeprefix x "-") "/")[j]? with
        | none => rw [e] at hy; cases hy
        | some z => rw [e] at hy; exact ⟨z, rfl, (Option.some.inj hy).symm⟩
      refine ⟨rfl, ?_⟩
      unfold tYes
      dsimp only
      rw [if_pos rfl]
      refine ⟨_, rfl, z, rfl, hs (hz3 z (List.mem_of_getElem? hz0)), _, hD2, ?_, fun b o q => ?_, ?_, ?_⟩
      · rw [List.length_take, List.length_map, lenP, sizeLine_eq]; omega
      · have nD0 : H D = none := s1.free nD
        rw [upd_ne (ne_of_none q nD0)]; exact s2 b o q
      · rw [upd_ne hpD]; exact hp2
      · rw [upd_same, List.take_add_one, List.getElem?_map]
        have e : (piecesT x)[j]? = some (wholeT z.cps.toList) := by unfold piecesT; rw [List.getElem?_map, hz0]; rfl
        rw [e]
        rfl
    · rintro H2 ⟨s2, _, hD2⟩
      have lenQ : ((Txt.split (Txt.removeprefix x "-") "/").map V.str).length = ((piecesT x).map optI).length := by rw [List.length_map, List.length_map, lenP]
      rw [lenQ, List.take_length] at hD2
      have ne := split_ne (Txt.removeprefix x "-") "/"
      have nep : piecesT x ≠ [] := fun z => ne (List.map_eq_nil_iff.mp z)
      have lenO : ((piecesT x).map optI).length = (piecesT x).length := List.length_map ..
      have lb : (piecesT x).length ≤ 100000 := by omega
      have nb : ∀ n : Nat, some n ∈ piecesT x → (n : Int).natAbs < 2 ^ 1900 := fun n hn => by
        unfold piecesT at hn
        obtain ⟨z, _, hz⟩ := List.mem_map.mp hn
        have y := wholeT_lt hz
        exact Nat.lt_trans (show (n : Int).natAbs < 10 ^ 60 by omega) (by decide +kernel)
      unfold ratioT at ks kn
      generalize piecesT x = ps at hD2 nep lenO lb ks kn nb ⊢
      clear lenQ lenP
      refine ⟨_, rfl, _, _, rfl, .inl (SqL.of hD2), _, _, rfl, rfl, decide ((2 : Int) < ((ps.map optI).length : Nat)), rfl, ?_⟩
      by_cases c2 : 2 < ps.length
      · rw [decide_eq_true (show (2 : Int) < ((ps.map optI).length : Nat) by omega)]
        refine iteT (kn ?_ _ s2)
        match ps, c2 with
        | none :: _ :: _ :: _, _ => rfl
        | some _ :: none :: _ :: _, _ => rfl
        | some _ :: some _ :: _ :: _, _ => rfl
      · rw [decide_eq_false (show ¬ (2 : Int) < ((ps.map optI).length : Nat) by omega)]
        refine iteF ⟨_, rfl, D, rfl, ⟨_, SqL.of hD2⟩, fun D2 nD2 => ?_⟩
        have hDD : D ≠ D2 := fun z => by rw [← z, hD2] at nD2; cases nD2
        refine lc_list (K := K) (a := D) (xs := ps.map optI) (fun j H3 => Same H2 H3 ∧ H3 D2 = some (.lst (((ps.map Option.isNone).map V.bl).take j))) ⟨same_updR nD2, upd_same⟩ (fun j H3 _ q => SqL.of (q.1 _ _ hD2)) ?_ ?_
        · rintro j y H3 hy ⟨s3, hD3⟩
          rw [List.getElem?_map] at hy
          obtain ⟨z, hz0, rfl⟩ : ∃ z, ps[j]? = some z ∧ y = optI z := by
            cases e : ps[j]? with
            | none => rw [e] at hy; cases hy
            | some z => rw [e] at hy; exact ⟨z, rfl, (Option.some.inj hy).symm⟩
          refine ⟨rfl, ?_⟩
          unfold tYes
          dsimp only
          rw [if_pos rfl]
          refine ⟨_, rfl, rfl, _, hD3, ?_, fun b o q => ?_, ?_⟩
          · rw [List.length_take, List.length_map, List.length_map, sizeLine_eq]; omega
          · rw [upd_ne (ne_of_none q nD2)]; exact s3 b o q
          · rw [upd_same, List.take_add_one, List.getElem?_map, List.getElem?_map, hz0]
            have e : decide (optI z = V.non) = z.isNone := by cases z <;> rfl
            rw [e]
            rfl
        · rintro H3 ⟨s3, hD3⟩
          have lenB : (ps.map optI).length = ((ps.map Option.isNone).map V.bl).length := by simp
          rw [lenB, List.take_length] at hD3
          refine ⟨D2, ps.map Option.isNone, rfl, SqL.of hD3, _, rfl, ?_⟩
          have hD4 := s3 _ _ hD2
          have s23 := s2.trans s3
          clear hD3 hD2 nD2 s2 s3
          have one0 : (1 : Int) ≠ 0 := by decide
          have one1 : Sz 1 := by decide +kernel
          match ps, nep, c2, ks, kn, hD4, nb with
          | [], nep, _, _, _, _, _ => exact absurd rfl nep
          | u :: v :: y :: r, _, c2, _, _, _, _ => exact absurd (show 2 < (u :: v :: y :: r).length by simp) c2
          | [none], _, _, ks, kn, hD4, _ => exact iteT (kn rfl _ s23)
          | [none, _], _, _, ks, kn, hD4, _ => exact iteT (kn rfl _ s23)
          | [some _, none], _, _, ks, kn, hD4, _ => exact iteT (kn rfl _ s23)
          | [some n], _, _, ks, kn, hD4, nb =>
            have at0 : atI [V.int (n : Nat)] 0 = some (.int (n : Nat)) := rfl
            refine iteF ⟨_, rfl, _, _, rfl, .inl (SqL.of hD4), rfl, false, congrArg V.bl ((decI ..).trans (by simp)), iteF ?_⟩
            refine ⟨_, rfl, rfl, false, congrArg V.bl ((decI ..).trans (by simp)), iteF ?_⟩
            refine ⟨_, rfl, rfl, x, _, rfl, rfl, Txt.startswith x "-", rfl, ?_⟩
            have tz : (topT x n).natAbs < 2 ^ 1900 := by
              have z := nb n List.mem_cons_self
              have e : (topT x n).natAbs = n := by unfold topT; split <;> simp
              rw [e]
              simpa using z
            have go : ∀ b, Txt.startswith x "-" = b → (if b = true then -(n : Int) else (n : Int)) = topT x n := fun b e => by unfold topT; rw [e]
            cases hb : Txt.startswith x "-" with
            | true =>
              have et := go true hb
              rw [if_pos rfl] at et
              refine iteT ⟨_, rfl, D, _, 0, _, rfl, rfl, SqL.of hD4, at0, _, rfl, ?_⟩
              dsimp only
              rw [et]
              refine ⟨_, rfl, _, rfl, _, _, rfl, .inl ⟨topT x n, 1, rfl, rfl, one0, sz_up tz, sz_up one1, fun a H5 s5 ra => ?_⟩⟩
              have sa : Sz (lowT (topT x n) 1) := Nat.lt_of_le_of_lt (lowT_le one0) tz
              have sb : Sz (lowB (topT x n) 1) := Nat.lt_of_le_of_lt (lowB_le one0) one1
              refine ⟨_, rfl, a, rfl, ra.ins, a, _, _, rfl, ra, sa, sb, _, rfl, _, rfl, rfl, decide (textR (lowT (topT x n) 1) (lowB (topT x n) 1) = x), congrArg V.bl (decS ..), ?_⟩
              by_cases e : textR (lowT (topT x n) 1) (lowB (topT x n) 1) = x
              · rw [decide_eq_true e]
                exact iteT ⟨_, rfl, ks _ _ ((show chkT x (topT x n) 1 = _ from if_pos e)) a H5 (s23.trans s5) ra⟩
              · rw [decide_eq_false e]
                exact iteF (kn ((show chkT x (topT x n) 1 = _ from if_neg e)) H5 (s23.trans s5))
            | false =>
              have et := go false hb
              rw [if_neg Bool.false_ne_true] at et
              refine iteF ⟨_, rfl, D, _, 0, _, rfl, rfl, SqL.of hD4, at0, ?_⟩
              dsimp only
              rw [et]
              refine ⟨_, rfl, _, rfl, _, _, rfl, .inl ⟨topT x n, 1, rfl, rfl, one0, sz_up tz, sz_up one1, fun a H5 s5 ra => ?_⟩⟩
              have sa : Sz (lowT (topT x n) 1) := Nat.lt_of_le_of_lt (lowT_le one0) tz
              have sb : Sz (lowB (topT x n) 1) := Nat.lt_of_le_of_lt (lowB_le one0) one1
              refine ⟨_, rfl, a, rfl, ra.ins, a, _, _, rfl, ra, sa, sb, _, rfl, _, rfl, rfl, decide (textR (lowT (topT x n) 1) (lowB (topT x n) 1) = x), congrArg V.bl (decS ..), ?_⟩
              by_cases e : textR (lowT (topT x n) 1) (lowB (topT x n) 1) = x
              · rw [decide_eq_true e]
                exact iteT ⟨_, rfl, ks _ _ ((show chkT x (topT x n) 1 = _ from if_pos e)) a H5 (s23.trans s5) ra⟩
              · rw [decide_eq_false e]
                exact iteF (kn ((show chkT x (topT x n) 1 = _ from if_neg e)) H5 (s23.trans s5))
          | [some n, some m], _, _, ks, kn, hD4, nb =>
            have at0 : atI [V.int (n : Nat), V.int (m : Nat)] 0 = some (.int (n : Nat)) := rfl
            have at1 : atI [V.int (n : Nat), V.int (m : Nat)] 1 = some (.int (m : Nat)) := rfl
            refine iteF ⟨_, rfl, _, _, rfl, .inl (SqL.of hD4), rfl, true, congrArg V.bl ((decI ..).trans (by simp)), iteT ?_⟩
            refine ⟨_, rfl, D, _, 1, _, rfl, rfl, SqL.of hD4, at1, ?_⟩
            refine ⟨_, rfl, rfl, decide ((m : Int) = 0), congrArg V.bl (decI ..), ?_⟩
            by_cases em : m = 0
            · rw [decide_eq_true (show (m : Int) = 0 by omega)]
              exact iteT (kn (if_pos em) _ s23)
            · rw [decide_eq_false (show ¬ (m : Int) = 0 by omega)]
              have mz : (m : Int) ≠ 0 := by omega
              have ms : Sz (m : Int) := nb m (List.mem_cons_of_mem _ List.mem_cons_self)
              refine iteF ?_
              refine ⟨_, rfl, rfl, x, _, rfl, rfl, Txt.startswith x "-", rfl, ?_⟩
              have tz : (topT x n).natAbs < 2 ^ 1900 := by
                have z := nb n List.mem_cons_self
                have e : (topT x n).natAbs = n := by unfold topT; split <;> simp
                rw [e]
                simpa using z
              have go : ∀ b, Txt.startswith x "-" = b → (if b = true then -(n : Int) else (n : Int)) = topT x n := fun b e => by unfold topT; rw [e]
              cases hb : Txt.startswith x "-" with
              | true =>
                have et := go true hb
                rw [if_pos rfl] at et
                refine iteT ⟨_, rfl, D, _, 0, _, rfl, rfl, SqL.of hD4, at0, _, rfl, ?_⟩
                dsimp only
                rw [et]
                refine ⟨_, rfl, _, rfl, _, _, rfl, .inl ⟨topT x n, (m : Int), rfl, rfl, mz, sz_up tz, sz_up ms, fun a H5 s5 ra => ?_⟩⟩
                have sa : Sz (lowT (topT x n) (m : Int)) := Nat.lt_of_le_of_lt (lowT_le mz) tz
                have sb : Sz (lowB (topT x n) (m : Int)) := Nat.lt_of_le_of_lt (lowB_le mz) ms
                refine ⟨_, rfl, a, rfl, ra.ins, a, _, _, rfl, ra, sa, sb, _, rfl, _, rfl, rfl, decide (textR (lowT (topT x n) (m : Int)) (lowB (topT x n) (m : Int)) = x), congrArg V.bl (decS ..), ?_⟩
                by_cases e : textR (lowT (topT x n) (m : Int)) (lowB (topT x n) (m : Int)) = x
                · rw [decide_eq_true e]
                  exact iteT ⟨_, rfl, ks _ _ ((show (if m = 0 then none else chkT x (topT x n) m) = _ from (if_neg em).trans (if_pos e))) a H5 (s23.trans s5) ra⟩
                · rw [decide_eq_false e]
                  exact iteF (kn ((show (if m = 0 then none else chkT x (topT x n) m) = _ from (if_neg em).trans (if_neg e))) H5 (s23.trans s5))
              | false =>
                have et := go false hb
                rw [if_neg Bool.false_ne_true] at et
                refine iteF ⟨_, rfl, D, _, 0, _, rfl, rfl, SqL.of hD4, at0, ?_⟩
                dsimp only
                rw [et]
                refine ⟨_, rfl, _, rfl, _, _, rfl, .inl ⟨topT x n, (m : Int), rfl, rfl, mz, sz_up tz, sz_up ms, fun a H5 s5 ra => ?_⟩⟩
                have sa : Sz (lowT (topT x n) (m : Int)) := Nat.lt_of_le_of_lt (lowT_le mz) tz
                have sb : Sz (lowB (topT x n) (m : Int)) := Nat.lt_of_le_of_lt (lowB_le mz) ms
                refine ⟨_, rfl, a, rfl, ra.ins, a, _, _, rfl, ra, sa, sb, _, rfl, _, rfl, rfl, decide (textR (lowT (topT x n) (m : Int)) (lowB (topT x n) (m : Int)) = x), congrArg V.bl (decS ..), ?_⟩
                by_cases e : textR (lowT (topT x n) (m : Int)) (lowB (topT x n) (m : Int)) = x
                · rw [decide_eq_true e]
                  exact iteT ⟨_, rfl, ks _ _ ((show (if m = 0 then none else chkT x (topT x n) m) = _ from (if_neg em).trans (if_pos e))) a H5 (s23.trans s5) ra⟩
                · rw [decide_eq_false e]
                  exact iteF (kn ((show (if m = 0 then none else chkT x (topT x n) m) = _ from (if_neg em).trans (if_neg e))) H5 (s23.trans s5))
end
end K01
namespace K01
open PySem PySem.Spec PyProof.Rows L2 RatM
abbrev rdM (i : Nat) : Stmt := inClass (top 17) i
/-- what the written part tells of the class of readers -/
structure RdC (K : PySem.W.Frag) (C : Addr) : Prop where
  cls : Cls K C
  no : ∀ f ∈ ([("words" : Str), ("at" : Str), ("end" : Str)] : List Str), NoAttr K C f
def rdF (l : Addr) (k n : Int) : List (Str × V) := [("words", .ref l), ("at", .int k), ("end", .int n)]
/-- a reader of the words at l stands at a -/
def RdAt (H : Hp) (a C l : Addr) (k n : Int) : Prop := ∃ dx, H a = some (.ins C dx (rdF l k n))
def spRdI (K : PySem.W.Frag) (C : Addr) : Sp := fun vs H Q _ => ∃ (a l dx : Addr) (xs : List V), vs = [.ref a, .ref l] ∧ l ≠ a ∧ SqL K H l xs ∧ H a = some (.ins C dx []) ∧ ∀ H' : Hp, (∀ b, b ≠ a → H' b = H b) → RdAt H' a C l 0 xs.length → Q .non H'
def spPeek (K : PySem.W.Frag) (C : Addr) : Sp := fun vs H Q _ => ∃ (a l : Addr) (k : Nat) (ws : List Str), vs = [.ref a] ∧ RdAt H a C l k ws.length ∧ H l = some (.lst (ws.map V.str)) ∧ Q (.str (ws.getD k "")) H
def spStep (C : Addr) : Sp := fun vs H Q _ => ∃ (a l : Addr) (k n : Int), vs = [.ref a] ∧ RdAt H a C l k n ∧ ∀ H' : Hp, (∀ b, b ≠ a → H' b = H b) → RdAt H' a C l (k + 1) n → Q .non H'
def spRefuse (C BT : Addr) : Sp := fun vs H Q E => ∃ (a l : Addr) (k n : Int), vs = [.ref a] ∧ RdAt H a C l k n ∧ Rz H E BT [("word", .int k), ("line", .int 0)]
def spFinish (C BT : Addr) : Sp := fun vs H Q E => ∃ (a l : Addr) (k n : Int), vs = [.ref a] ∧ RdAt H a C l k n ∧ (k < n → Rz H E BT [("word", .int k), ("line", .int 0)]) ∧ (¬ k < n → Q .non H)
section
variable {P : Program} {w : World} {K : PySem.W.Frag} {mg : Str → Option Value} {base : Heap} {C BT : Addr}
theorem scRdI : FnScope ["self", "words"] ["self", "words"] (defScope (rdM 0)) := ⟨rfl, rfl, rfl, by decide +kernel, rfl, by decide +kernel, by decide +kernel⟩
theorem ok_rdInit {f : Addr} {fd : FuncData} (F : MtP K "__init__" "Reader.__init__" (rdM 0) f fd) (T : RdC K C) (bl : mg "len" = none) : FnOk P w K mg base CX0 1 f fd ["self", "words"] (spRdI K C) := by
  refine F.ok scRdI (fun vs H Q E h => ?_) (fun cdv A outer s H vs Q E hr h => ?_)
  · obtain ⟨a, l, dx, xs, rfl, _⟩ := h
    rfl
  · obtain ⟨a, l, dx, xs, rfl, nl, hl, ha, k⟩ := h
    refine ⟨_, PSs.nox (pss_cons (ps_fld (pv 0) (pv 1) (by rfl)) (pss_cons (ps_fld (pv 0) pe_int (by rfl)) (pss_one (ps_fld (pv 0) (pe_callB call_len_seq (by rfl) bl PySem.boot_len (pa_cons (pv 1) pa_nil)) (by rfl))))), ?_⟩
    have seq : ∀ {o : HO}, SqL K (upd H a o) l xs := fun {o} => by
      rcases hl with h | h
      · rcases h with h | ⟨u, h⟩
        · exact .inl (.inl (by rw [upd_ne nl]; exact h))
        · exact .inl (.inr ⟨u, by rw [upd_ne nl]; exact h⟩)
      · exact .inr h
    have seq2 : ∀ {o o2 : HO}, SqL K (upd (upd H a o) a o2) l xs := fun {o o2} => by
      rcases hl with h | h
      · rcases h with h | ⟨u, h⟩
        · exact .inl (.inl (by rw [upd_ne nl, upd_ne nl]; exact h))
        · exact .inl (.inr ⟨u, by rw [upd_ne nl, upd_ne nl]; exact h⟩)
      · exact .inr h
    refine ⟨_, rfl, _, rfl, a, C, dx, _, rfl, ha, T.cls, T.no "words" (by simp), by show 0 < 1000; decide, ?_⟩
    refine ⟨_, rfl, a, C, dx, _, rfl, upd_same, T.cls, T.no "at" (by simp), by show 1 < 1000; decide, ?_⟩
    refine ⟨_, rfl, _, _, rfl, .inl seq2, _, rfl, a, C, dx, _, rfl, upd_same, T.cls, T.no "end" (by simp), by show 2 < 1000; decide, ?_⟩
    refine k _ (fun b hb => ?_) ⟨dx, upd_same⟩
    rw [upd_ne hb, upd_ne hb, upd_ne hb]
theorem scPk : FnScope ["self"] ["self"] (defScope (rdM 1)) := ⟨rfl, rfl, rfl, by decide +kernel, rfl, by decide +kernel, by decide +kernel⟩
theorem ok_peek {f : Addr} {fd : FuncData} (F : MtP K "peek" "Reader.peek" (rdM 1) f fd) (T : RdC K C) : FnOk P w K mg base CX0 1 f fd ["self"] (spPeek K C) := by
  refine F.ok scPk (fun vs H Q E h => ?_) (fun cdv A outer s H vs Q E hr h => ?_)
  · obtain ⟨a, l, k, ws, rfl, _⟩ := h
    rfl
  · obtain ⟨a, l, n, ws, rfl, ⟨dx, ea⟩, hl, k⟩ := h
    have nw := T.no "words" (by simp)
    have na := T.no "at" (by simp)
    have ne := T.no "end" (by simp)
    refine ⟨_, PSs.nox (pss_one (ps_ret (pe_ifExp (pt_cmpR op_lt (pe_fld (pv 0) rfl) (pe_fld (pv 0) rfl) (nomark _)) (pe_ix ix_list (pe_fld (pv 0) rfl) (pe_fld (pv 0) rfl) (fun _ _ => rfl)) pe_str))), ?_⟩
    refine ⟨_, rfl, a, C, dx, _, _, rfl, ea, T.cls, na, rfl, _, rfl, a, C, dx, _, _, rfl, ea, T.cls, ne, rfl, _, _, rfl, rfl, decide ((n : Int) < (ws.length : Int)), rfl, ?_⟩
    by_cases c : n < ws.length
    · rw [decide_eq_true (show (n : Int) < (ws.length : Int) by omega)]
      refine iteT ⟨_, rfl, a, C, dx, _, _, rfl, ea, T.cls, nw, rfl, _, rfl, a, C, dx, _, _, rfl, ea, T.cls, na, rfl, l, _, _, V.str ws[n], rfl, rfl, SqL.of hl, atI_nat (by rw [List.getElem?_map, List.getElem?_eq_getElem c]; rfl), ?_⟩
      rw [List.getD_eq_getElem?_getD, List.getElem?_eq_getElem c] at k
      exact k
    · rw [decide_eq_false (show ¬ (n : Int) < (ws.length : Int) by omega)]
      rw [List.getD_eq_getElem?_getD, List.getElem?_eq_none (by omega)] at k
      exact iteF k
theorem scRf : FnScope ["self"] ["self"] (defScope (rdM 3)) := ⟨rfl, rfl, rfl, by decide +kernel, rfl, by decide +kernel, by decide +kernel⟩
theorem ok_refuse {f : Addr} {fd : FuncData} (F : MtP K "refuse" "Reader.refuse" (rdM 3) f fd) (T : RdC K C) (M : ErrN P w K mg base "BadText" BT ["line", "word"]) : FnOk P w K mg base (L2.CX P w) 3 f fd ["self"] (spRefuse C BT) := by
  refine F.ok scRf (fun vs H Q E h => ?_) (fun cdv A outer s H vs Q E hr h => ?_)
  · obtain ⟨a, l, k, n, rfl, _⟩ := h
    rfl
  · obtain ⟨a, l, k, n, rfl, ⟨dx, ea⟩, rz⟩ := h
    have hr2 : Room 2 _ := hr
    refine ⟨_, pss_one (ps_raiseN rfl M hr2 (takes_of rfl rfl rfl rfl) (by rfl) (pa_cons pe_int (pa_cons (pe_fld (pv 0) rfl) pa_nil))), ?_⟩
    exact ⟨_, rfl, a, C, dx, _, _, rfl, ea, T.cls, T.no "at" (by simp), rfl, raiseN M rfl (by decide) rz⟩
theorem scFi : FnScope ["self"] ["self"] (defScope (rdM 6)) := ⟨rfl, rfl, rfl, by decide +kernel, rfl, by decide +kernel, by decide +kernel⟩
theorem ok_finish {f fR : Addr} {fd fdR : FuncData} (F : MtP K "finish" "Reader.finish" (rdM 6) f fd) (T : RdC K C) (MR : Meth K C "refuse" fR) (GR : FnOk P w K mg base (L2.CX P w) 3 fR fdR ["self"] (spRefuse C BT)) (bR : Binds K fdR ["self"] []) : FnOk P w K mg base (L2.CX P w) 4 f fd ["self"] (spFinish C BT) := by
  refine F.ok scFi (fun vs H Q E h => ?_) (fun cdv A outer s H vs Q E hr h => ?_)
  · obtain ⟨a, l, k, n, rfl, _⟩ := h
    rfl
  · obtain ⟨a, l, k, n, rfl, ⟨dx, ea⟩, rz, kq⟩ := h
    have hr3 : Room 3 _ := hr
    have na := T.no "at" (by simp)
    have ne := T.no "end" (by simp)
    refine ⟨_, pss_one (ps_if (pt_cmpR op_lt (pe_fld (pv 0) rfl) (pe_fld (pv 0) rfl) (nomark _)) (pss_one (ps_expr (pe_meth0 (pv 0) T.cls MR GR hr3 bR .nil (passE (takes_of rfl rfl rfl rfl))))) pss_nil), ?_⟩
    refine ⟨_, rfl, a, C, dx, _, _, rfl, ea, T.cls, na, rfl, _, rfl, a, C, dx, _, _, rfl, ea, T.cls, ne, rfl, _, _, rfl, rfl, decide (k < n), rfl, ?_⟩
    by_cases c : k < n
    · rw [decide_eq_true c]
      exact iteT ⟨_, rfl, a, dx, _, rfl, ea, rfl, a, l, k, n, rfl, ⟨dx, ea⟩, rz c⟩
    · rw [decide_eq_false c]
      exact iteF (kq c)
end
end K01
namespace K01
open PySem PySem.Spec PyProof.Rows L2 RatM
def wordsT (w : Str) : List Str := Txt.split w " "
def spRdOf (K : PySem.W.Frag) (C BT : Addr) : Sp := fun vs H Q E => ∃ x : V, vs = [x] ∧
  ((∃ w, x = .str w ∧ w.length ≤ 100000 ∧ ∀ a l H', Same H H' → RdAt H' a C l 0 (wordsT w).length → H' l = some (.lst ((wordsT w).map V.str)) → H a = none → l ≠ a → Q (.ref a) H') ∨
   (∃ t, TyX K H x t ∧ PySem.W.kitOne K t (.type "str") = some false ∧ Rz H E BT [("word", .int 0), ("line", .int 0)]))
section
variable {P : Program} {w : World} {K : PySem.W.Frag} {mg : Str → Option Value} {base : Heap} {C BR BT RC : Addr}
theorem scSp : FnScope ["self"] ["self"] (defScope (rdM 2)) := ⟨rfl, rfl, rfl, by decide +kernel, rfl, by decide +kernel, by decide +kernel⟩
theorem ok_step {f : Addr} {fd : FuncData} (F : MtP K "step" "Reader.step" (rdM 2) f fd) (T : RdC K C) : FnOk P w K mg base CX0 1 f fd ["self"] (spStep C) := by
  refine F.ok scSp (fun vs H Q E h => ?_) (fun cdv A outer s H vs Q E hr h => ?_)
  · obtain ⟨a, l, k, n, rfl, _⟩ := h
    rfl
  · obtain ⟨a, l, k, n, rfl, ⟨dx, ea⟩, kq⟩ := h
    refine ⟨_, PSs.nox (pss_one (ps_fldaug (pv 0) pe_int in_add)), ?_⟩
    refine ⟨_, rfl, a, C, dx, _, _, rfl, ea, T.cls, T.no "at" (by simp), rfl, _, _, rfl, rfl, dx, _, ea, by show 3 < 1000; decide, ?_⟩
    exact kq _ (fun b hb => by rw [upd_ne hb]) ⟨dx, upd_same⟩
theorem scRo : FnScope ["text"] ["text"] (defScope (top 18)) := ⟨rfl, rfl, rfl, by decide +kernel, rfl, by decide +kernel, by decide +kernel⟩
theorem ok_readerOf {f fI : Addr} {fd fdI : FuncData} (F : FnP K "reader_of" (top 18) f fd) (M : ErrN P w K mg base "BadText" BT ["line", "word"]) (bi : mg "isinstance" = none) (bs : mg "str" = none) (MR : Mk K C fI) (gR : mg "Reader" = some (.ref C))
    (GI : FnOk P w K mg base CX0 1 fI fdI ["self", "words"] (spRdI K C)) (bI : Binds K fdI ["self", "words"] []) : FnOk P w K mg base (L2.CX P w) 3 f fd ["text"] (spRdOf K C BT) := by
  refine F.ok scRo (fun vs H Q E h => ?_) (fun cdv A outer s H vs Q E hr h => ?_)
  · obtain ⟨x, rfl, _⟩ := h
    rfl
  · obtain ⟨x, rfl, h⟩ := h
    have hr2 : Room 2 _ := hr
    refine ⟨_, pss_cons (ps_if (pt_not (pt_val (pe_callB call_isi (by rfl) bi (by decide +kernel) (pa_cons (pv 0) (pa_cons (pe_bltn (v := .ty "str") (by rfl) bs (by decide +kernel) rfl) pa_nil))))) (pss_one (ps_raiseN rfl M hr2 (takes_of rfl rfl rfl rfl) (by rfl) (pa_cons pe_int (pa_cons pe_int pa_nil)))) pss_nil)
      (pss_one (ps_ret (pe_make MR GI hr2 rfl gR bI .nil (E := E0) pass0 (pa_cons (pe_bm PySem.F.plainAttrs_str PySem.F.slot_str_split PySem.F.type_str_split mt_split (pv 0) (pa_cons pe_str pa_nil)) pa_nil)))), ?_⟩
    rcases h with ⟨x, rfl, hz, k⟩ | ⟨t, ty, kt, rz⟩
    · refine ⟨_, rfl, _, _, _, _, true, rfl, .ty "str", .base (.str x), kit_ty (by decide +kernel), _, rfl, iteF ?_⟩
      refine ⟨_, rfl, rfl, x, _, rfl, rfl, rfl, by rw [sizeLine_eq]; omega, fun l nl a dx na nd ne => ?_⟩
      have hla : l ≠ a := fun z => by rw [z, upd_same] at na; cases na
      have hld : l ≠ dx := fun z => by rw [z, upd_same] at nd; cases nd
      have hl : upd (upd (upd H l (.lst ((Txt.split x " ").map V.str))) dx (.own a)) a (.ins C dx []) l = some (.lst ((Txt.split x " ").map V.str)) := by rw [upd_ne hla, upd_ne hld, upd_same]
      refine ⟨a, l, dx, (Txt.split x " ").map V.str, rfl, hla, SqL.of hl, upd_same, fun H' off ra => ⟨rfl, ?_⟩⟩
      have na0 : H a = none := (same_updR nl).free na
      have nd0 : H dx = none := (same_updR nl).free nd
      refine k a l H' (fun b o e => ?_) ?_ ?_ na0 hla
      · have h1 : b ≠ a := ne_of_none e na0
        rw [off b h1, upd_ne h1, upd_ne (ne_of_none e nd0), upd_ne (ne_of_none e nl)]
        exact e
      · rw [List.length_map] at ra
        exact ra
      · rw [off l hla]
        exact hl
    · refine ⟨_, rfl, _, _, _, _, false, rfl, .ty "str", ty, kt, _, rfl, iteT ?_⟩
      exact raiseN M rfl (by decide) rz
end
end K01
namespace K01
open PySem PySem.Spec PyProof.Rows L2 RatM
theorem topT_abs (w : Str) (n : Nat) : (topT w n).natAbs = n := by
  unfold topT
  split <;> simp
theorem chkT_ok {w : Str} {t b p q : Int} (hb : b ≠ 0) (st : Sz t) (sb : Sz b) (h : chkT w t b = some (p, q)) : 0 < q ∧ Int.gcd p q = 1 ∧ Sz p ∧ Sz q ∧ textR p q = w := by
  unfold chkT at h
  split at h
  · rename_i e
    cases h
    exact ⟨lowB_pos hb, low_gcd hb, Nat.lt_of_le_of_lt (lowT_le hb) st, Nat.lt_of_le_of_lt (lowB_le hb) sb, e⟩
  · cases h
theorem ratioT_ok {w : Str} {p q : Int} (h : ratioT w = some (p, q)) : 0 < q ∧ Int.gcd p q = 1 ∧ Sz p ∧ Sz q ∧ textR p q = w := by
  have nb : ∀ n : Nat, some n ∈ piecesT w → n < 2 ^ 1900 := fun n hn => by
    unfold piecesT at hn
    obtain ⟨z, _, hz⟩ := List.mem_map.mp hn
    exact Nat.lt_trans (wholeT_lt hz) (by decide +kernel)
  unfold ratioT at h
  generalize piecesT w = ps at h nb
  have st : ∀ n : Nat, n < 2 ^ 1900 → Sz (topT w n) := fun n hn => by
    show (topT w n).natAbs < 2 ^ 1900
    rw [topT_abs]
    exact hn
  match ps, h, nb with
  | [], h, _ => cases h
  | none :: _, h, _ => cases h
  | [some _, none], h, _ => cases h
  | some _ :: none :: _ :: _, h, _ => cases h
  | some _ :: some _ :: _ :: _, h, _ => cases h
  | [some n], h, nb => exact chkT_ok (by decide) (st n (nb n List.mem_cons_self)) (by decide +kernel) h
  | [some n, some m], h, nb =>
    have h : (if m = 0 then none else chkT w (topT w n) m) = some (p, q) := h
    by_cases e : m = 0
    · rw [if_pos e] at h
      cases h
    · rw [if_neg e] at h
      refine chkT_ok (by omega) (st n (nb n List.mem_cons_self)) ?_ h
      have z := nb m (List.mem_cons_of_mem _ List.mem_cons_self)
      show (m : Int).natAbs < 2 ^ 1900
      rw [Int.natAbs_natCast]
      exact z
/-- Ratio.read(x) -/
def spRead (K : PySem.W.Frag) (C BT : Addr) : Sp := fun vs H Q E => ∃ x : V, vs = [.ref C, x] ∧
  ((∃ w, x = .str w ∧ w.length ≤ 100000 ∧ (let u := (wordsT w).getD 0 ""
      u.length ≤ 100000 ∧ (Txt.removeprefix u "-").length ≤ 100000 ∧ (Txt.split (Txt.removeprefix u "-") "/").length ≤ 100000 ∧ (∀ x ∈ Txt.split (Txt.removeprefix u "-") "/", x.length ≤ 100000) ∧
      (ratioT u = none → Rz H E BT [("word", .int 0), ("line", .int 0)]) ∧
      (∀ p q, ratioT u = some (p, q) → 1 < (wordsT w).length → Rz H E BT [("word", .int 1), ("line", .int 0)]) ∧
      (∀ p q, ratioT u = some (p, q) → ¬ 1 < (wordsT w).length → ∀ a H', Same H H' → RatAt H' a C p q → Q (.ref a) H'))) ∨
   (∃ t, TyX K H x t ∧ PySem.W.kitOne K t (.type "str") = some false ∧ Rz H E BT [("word", .int 0), ("line", .int 0)]))
/-- cls(x, y), the class of ratios held by the i-th slot -/
theorem pe_rat2L {X : Cx} {C BR : Addr} {E : XK} {i : Nat} {x : Str} {p pos : Pos} {e1 e2 : Expr} {ta : TA} (R : RatK X.prog X.w X.K X.mg X.base C BR) (hr : Room 4 X.A) (hx : Passes (L2.CX X.prog X.w) X E) (hN : X.N[i]? = some x) (hv : Vis X.env.scope x) (ha : PA X [e1, e2] ta)
    (hdb : (x == ("__debug__" : Str)) = false := by decide) (hcd : (x == ("__classdict__" : Str)) = false := by decide)
    (he : starEach [e1, e2] X.env = (false, eval e1 X.env) :: starEach [e2] X.env := by rfl) (hpl : (backTo pos (starEach [e2] X.env)).any (·.1) = false := by rfl) :
    PE X (.Call (.Name x p) [e1, e2] [] pos) (fun σ H Q => σ[i]? = some (some (.ref C)) ∧ tRat2 X.K C BR E ta σ H Q) := by
  obtain ⟨f, fd, ds, M, F, b0, b1, r1⟩ := R.make
  refine ⟨fun pins s σ H Q I h => ?_⟩
  obtain ⟨hs, ht⟩ := h
  refine wpAny_Call_Name_kw (thn ((pe_var (pos := p) hN hv hdb hcd).run pins s σ H (fun v H1 => v = .ref C ∧ H1 = H) I ⟨.ref C, hs, rfl, rfl⟩) fun u s1 ⟨v, H1, I1, rr, q1⟩ => ?_)
  obtain ⟨rfl, rfl⟩ := q1
  cases rr
  refine PySem.W.callWith_K (h₀ := X.base) I1.ok.mod.kin M.kp (thn (ha.run pos pins s1 σ _ _ I1 ht) fun us s2 ⟨vs, H2, I2, r, q⟩ => ⟨I2.kIn, ?_⟩) he hpl
  obtain ⟨x, y, rfl, q⟩ := q
  exact run_make (dvs := []) M F hr b0 .nil hx I2 r fun a dx na nd ne => mkR_sp q a dx na nd ne
section
variable {P : Program} {w : World} {K : PySem.W.Frag} {mg : Str → Option Value} {base : Heap} {C BR BT RC : Addr}
/-- the readers' methods, as a body calls them -/
structure RdK (P : Program) (w : World) (K : PySem.W.Frag) (mg : Str → Option Value) (base : Heap) (RC BT : Addr) : Prop where
  T : RdC K RC
  of_ : ∃ (f : Addr) (fd : FuncData), FnOk P w K mg base (L2.CX P w) 3 f fd ["text"] (spRdOf K RC BT) ∧ Binds K fd ["text"] [] ∧ PySem.W.keepIn K (.ref f) = true ∧ mg "reader_of" = some (.ref f)
  peek : ∃ (f : Addr) (fd : FuncData), Meth K RC "peek" f ∧ FnOk P w K mg base CX0 1 f fd ["self"] (spPeek K RC) ∧ Binds K fd ["self"] []
  step : ∃ (f : Addr) (fd : FuncData), Meth K RC "step" f ∧ FnOk P w K mg base CX0 1 f fd ["self"] (spStep RC) ∧ Binds K fd ["self"] []
  refuse : ∃ (f : Addr) (fd : FuncData), Meth K RC "refuse" f ∧ FnOk P w K mg base (L2.CX P w) 3 f fd ["self"] (spRefuse RC BT) ∧ Binds K fd ["self"] []
  finish : ∃ (f : Addr) (fd : FuncData), Meth K RC "finish" f ∧ FnOk P w K mg base (L2.CX P w) 4 f fd ["self"] (spFinish RC BT) ∧ Binds K fd ["self"] []
theorem lookR (l : Addr) (k n : Int) (m : Str) (h : m ∉ ([("words" : Str), "at", "end"] : List Str)) : (rdF l k n).lookup m = none := by
  simp only [List.mem_cons, List.not_mem_nil, or_false, not_or] at h
  obtain ⟨h1, h2, h3⟩ := h
  unfold rdF
  simp only [List.lookup_cons, List.lookup_nil]
  rw [beq_eq_false_iff_ne.mpr h1, beq_eq_false_iff_ne.mpr h2, beq_eq_false_iff_ne.mpr h3]
theorem scRead : FnScope ["cls", "text", "reader", "ratio"] ["cls", "text"] (defScope (ratM 1)) := ⟨rfl, rfl, rfl, by decide +kernel, rfl, by decide +kernel, by decide +kernel⟩
theorem ok_read {f fN : Addr} {fd fdN : FuncData} (F : MtP K "read" "Ratio.read" (ratM 1) f fd) (R : RatK P w K mg base C BR) (D : RdK P w K mg base RC BT) (GN : FnOk P w K mg base CX0 5 fN fdN ["word"] (spRIn K C)) (bN : Binds K fdN ["word"] []) (kN : PySem.W.keepIn K (.ref fN) = true) (gN : mg "ratio_in" = some (.ref fN)) :
    FnOk P w K mg base (L2.CX P w) 6 f fd ["cls", "text"] (spRead K C BT) := by
  obtain ⟨fO, fdO, GO, bO, kO, gO⟩ := D.of_
  obtain ⟨fP, fdP, MP, GP, bP⟩ := D.peek
  obtain ⟨fS, fdS, MS, GS, bS⟩ := D.step
  obtain ⟨fR, fdR, MR, GR, bR⟩ := D.refuse
  obtain ⟨fF, fdF, MF, GF, bF⟩ := D.finish
  refine F.ok scRead (fun vs H Q E h => ?_) (fun cdv A outer s H vs Q E hr h => ?_)
  · obtain ⟨x, rfl, _⟩ := h
    rfl
  · obtain ⟨x, rfl, h⟩ := h
    have hr5 : Room 5 _ := hr
    have hr4 : Room 4 _ := hr5.mono (by decide)
    have hr3 : Room 3 _ := hr5.mono (by decide)
    have hr1 : Room 1 _ := hr5.mono (by decide)
    have cl := D.T.cls
    refine ⟨_, pss_cons (ps_set (i := 2) scRead.nd rfl (.inl rfl) (pe_call GO hr3 rfl gO kO bO .nil (passE (takes_of rfl rfl rfl rfl)) (pa_cons (pv 1) pa_nil)))
      (pss_cons (ps_set (i := 3) scRead.nd rfl (.inl rfl) (pe_call GN hr5 rfl gN kN bN .nil pass0 (pa_cons (pe_meth0 (pv 2) cl MP GP hr1 bP .nil (E := E0) pass0) pa_nil)))
      (pss_cons (ps_if (pt_cmpR op_isN (pv 3) pe_non (nomark _)) (pss_one (ps_expr (pe_meth0 (pv 2) cl MR GR hr3 bR .nil (passE (takes_of rfl rfl rfl rfl))))) pss_nil)
      (pss_cons (ps_expr (pe_meth0 (pv 2) cl MS GS hr1 bS .nil (E := E0) pass0))
      (pss_cons (ps_expr (pe_meth0 (pv 2) cl MF GF hr4 bF .nil (passE (takes_of rfl rfl rfl rfl))))
      (pss_one (ps_ret (pe_rat2L (i := 0) R hr4 (E := E0) passL rfl (.inl rfl) (pa_cons (pe_fld (pv 3) rfl) (pa_cons (pe_fld (pv 3) rfl) pa_nil)))))))))  , ?_⟩
    rcases h with ⟨x, rfl, hz, u1, u2, u3, u4, kn, kr, kq⟩ | ⟨t, ty, kt, rz⟩
    · refine ⟨_, rfl, _, rfl, .inl ⟨x, rfl, hz, fun a l H1 s1 ra hl na nla => ?_⟩⟩
      obtain ⟨dx, ea⟩ := id ra
      refine ⟨_, rfl, a, dx, _, rfl, ea, lookR _ _ _ _ (by decide), a, l, 0, wordsT x, rfl, ra, hl, _, rfl, u1, u2, u3, u4, ?_, ?_⟩
      · intro p q hpq r H2 s2 rr
        obtain ⟨q0, gpq, zp, zq, _⟩ := ratioT_ok hpq
        have ra2 : RdAt H2 a RC l 0 (wordsT x).length := ⟨dx, s2 _ _ ea⟩
        have hra : r ≠ a := fun z => by
          obtain ⟨dr, er⟩ := rr
          rw [z, s2 _ _ ea] at er
          have e := congrArg (fun o => match o with | some (HO.ins _ _ fs) => fs.length | _ => 0) er
          exact absurd (show (3 : Nat) = 5 from e) (by decide)
        refine ⟨_, rfl, rfl, false, congrArg V.bl (decide_eq_false fun z => by cases z), iteF ?_⟩
        refine ⟨_, rfl, a, dx, _, rfl, s2 _ _ ea, lookR _ _ _ _ (by decide), a, l, 0, _, rfl, ra2, fun H3 off ra3 => ?_⟩
        have ra3 : RdAt H3 a RC l 1 (wordsT x).length := ra3
        have s3 : Same H H3 := fun b o e => by rw [off b (ne_of_none e na)]; exact s2 b o (s1 b o e)
        obtain ⟨dx3, ea3⟩ := id ra3
        refine ⟨_, rfl, a, dx3, _, rfl, ea3, lookR _ _ _ _ (by decide), a, l, 1, _, rfl, ra3, fun c => Rz.same (kr p q hpq (by omega)) s3, fun c => ?_⟩
        obtain ⟨dr, er⟩ := rr
        have er3 : H3 r = some (.ins C dr (ratF p q)) := by rw [off r hra]; exact er
        refine ⟨rfl, _, rfl, r, C, dr, _, _, rfl, er3, R.T.cls, R.T.no "top" (by simp), rfl, _, rfl, r, C, dr, _, _, rfl, er3, R.T.cls, R.T.no "bottom" (by simp), rfl, _, _, rfl, .inl ⟨p, q, rfl, rfl, by omega, sz_up zp, sz_up zq, fun a' H4 s4 ra4 => ?_⟩⟩
        obtain ⟨e1, e2⟩ := low_self q0 gpq
        rw [e1, e2] at ra4
        exact kq p q hpq (by omega) a' H4 (s3.trans s4) ra4
      · intro hn H2 s2
        refine ⟨_, rfl, rfl, true, congrArg V.bl (decide_eq_true rfl), iteT ?_⟩
        exact ⟨_, rfl, a, dx, _, rfl, s2 _ _ ea, lookR _ _ _ _ (by decide), a, l, 0, _, rfl, ⟨dx, s2 _ _ ea⟩, Rz.same (kn hn) (s1.trans s2)⟩
    · exact ⟨_, rfl, _, rfl, .inr ⟨t, ty, kt, rz⟩⟩
end
end K01
namespace K01
open PySem PySem.Spec PyProof.Rows L2 RatM TL
/-! ### the text of a ratio is read back -/
theorem starts_minus (x : Str) : Txt.startswith x "-" = decide ((tl x).head? = some 45) := by
  have h := at_iff (x := x) (y := "-") (by decide) 0
  unfold PySem.StrLaws.At at h
  unfold Txt.startswith
  rw [List.drop_zero] at h
  have e : pre (tl ("-" : Str)) (tl x) = decide ((tl x).head? = some 45) := by
    show ((tl x).take 1 == [45]) = _
    cases tl x with
    | nil => rfl
    | cons c r =>
      show ([c] == [45]) = decide (some c = some 45)
      by_cases z : c = 45
      · subst z; rfl
      · rw [decide_eq_false fun y => z (Option.some.inj y)]
        exact beq_eq_false_iff_ne.mpr fun y => z (List.cons.inj y).1
  rw [← e]
  rw [Bool.eq_iff_iff, Bool.and_eq_true, decide_eq_true_eq]
  exact h
theorem remove_minus (x : Str) : tl (Txt.removeprefix x "-") = if (tl x).head? = some 45 then (tl x).drop 1 else tl x := by
  have s := starts_minus x
  unfold Txt.startswith at s
  unfold Txt.removeprefix
  by_cases h : (tl x).head? = some 45
  · rw [decide_eq_true h, Bool.and_eq_true] at s
    rw [s.2, if_pos rfl, if_pos h]
    show tl (if x.length - 1 == x.length then x else PySem.Builtin.Str.strSub x 1 x.length) = _
    have hl := len_tl x
    have hp : 0 < (tl x).length := by
      cases e : tl x with
      | nil => rw [e] at h; cases h
      | cons c r => exact Nat.succ_pos _
    rw [if_neg (by simp; omega), tl_strSub_end]
  · rw [if_neg h]
    rw [decide_eq_false h] at s
    by_cases b : PySem.Builtin.Str.subAt x "-" 0 = true
    · rw [b, Bool.and_true] at s
      have l0 : x.length = 0 := by
        have := of_decide_eq_false s
        have e : (("-" : Str)).length = 1 := rfl
        omega
      rw [b, if_pos rfl]
      show tl (if x.length - 1 == x.length then x else PySem.Builtin.Str.strSub x 1 x.length) = _
      rw [if_pos (by rw [l0]; rfl)]
    · rw [if_neg b]
      rfl
theorem numL_head : ∀ n : Nat, 1 ≤ n → ∃ c r, numL n = c :: r ∧ 49 ≤ c := by
  intro n
  induction n using Nat.strongRecOn with
  | _ n ih =>
    intro h
    by_cases h10 : n < 10
    · exact ⟨48 + n, [], numL_lt h10, by omega⟩
    · obtain ⟨c, r, e, hc⟩ := ih (n / 10) (by omega) (by omega)
      exact ⟨c, r ++ [48 + n % 10], by rw [numL_step (by omega), e]; rfl, hc⟩
theorem wholeT_num {n : Nat} (h : n < 10 ^ 60) : wholeT (numL n) = some n := by
  have l := numL_len (k := 60) (by decide) h
  have d : isDig (numL n) = true := by
    unfold isDig
    rw [List.all_eq_true]
    intro c hc
    have z := numL_digits n c hc
    simp only [Bool.and_eq_true, decide_eq_true_eq]
    exact z
  have p : 0 < (numL n).length := List.length_pos_iff.mpr (numL_ne n)
  unfold wholeT
  rw [d, decide_eq_true p, decide_eq_false (by omega)]
  rw [if_neg (by decide)]
  have f : (decide ((numL n).head? = some 48) && decide (1 < (numL n).length)) = false := by
    by_cases z : n = 0
    · subst z
      rw [numL_lt (by decide)]
      rfl
    · obtain ⟨c, r, e, hc⟩ := numL_head n (by omega)
      rw [e]
      have y : decide ((c :: r).head? = some 48) = false := decide_eq_false fun q => by
        have := Option.some.inj (show some c = some 48 from q)
        omega
      rw [y, Bool.false_and]
  rw [f, if_neg Bool.false_ne_true, numL_val]
theorem tl_int (p : Int) : tl (Str.ofString (toString p)) = if p < 0 then 45 :: numL p.natAbs else numL p.natAbs := by
  by_cases h : p < 0
  · rw [if_pos h]
    obtain ⟨m, rfl⟩ : ∃ m : Nat, p = Int.negSucc m := by
      cases p with
      | ofNat n => exact absurd h (by simp)
      | negSucc m => exact ⟨m, rfl⟩
    show (Str.ofString (toString (Int.negSucc m))).cps.toList = 45 :: (Nat.toDigits 10 (m + 1)).map Char.toNat
    rw [signs_ofString]
    show (("-" ++ Nat.repr (m + 1) : String)).toList.map Char.toNat = _
    rw [String.toList_append, List.map_append, Nat.toList_repr]
    rfl
  · rw [if_neg h]
    obtain ⟨m, rfl⟩ : ∃ m : Nat, p = (m : Int) := ⟨p.toNat, by omega⟩
    exact tl_num m
theorem textR_1 (p : Int) : textR p 1 = Str.ofString (toString p) := if_pos rfl
theorem tl_text {p q : Int} (hq : 0 < q) : tl (textR p q) = (if p < 0 then [45] else []) ++ (numL p.natAbs ++ if q = 1 then [] else 47 :: numL q.natAbs) := by
  have e : tl (Str.ofString (toString p)) = (if p < 0 then [45] else []) ++ numL p.natAbs := by
    rw [tl_int]
    split <;> rfl
  unfold textR
  by_cases h : q = 1
  · rw [if_pos h, if_pos h, List.append_nil]
    exact e
  · rw [if_neg h, if_neg h]
    have e2 : tl (Str.ofString (toString q)) = numL q.natAbs := by rw [tl_int, if_neg (by omega)]
    rw [tl_append, tl_append, e, e2, List.append_assoc, List.append_assoc]
    rfl
theorem head_num (n : Nat) (r : List Nat) : (numL n ++ r).head? ≠ some 45 := by
  have z := numL_ne n
  have f := numL_free (n := n) (s := 45) (.inl (by decide))
  cases e : numL n with
  | nil => exact absurd e z
  | cons c s =>
    rw [e] at f
    intro y
    have y2 : c = 45 := Option.some.inj (show some c = some 45 from y)
    exact f (by rw [y2]; exact List.mem_cons_self)
theorem rest_text {p q : Int} (hq : 0 < q) : tl (Txt.removeprefix (textR p q) "-") = numL p.natAbs ++ (if q = 1 then [] else 47 :: numL q.natAbs) := by
  rw [remove_minus, tl_text hq]
  by_cases h : p < 0
  · rw [if_pos h]
    rfl
  · rw [if_neg h, List.nil_append, if_neg (head_num _ _)]
theorem pieces_text {p q : Int} (hq : 0 < q) (sp : p.natAbs < 10 ^ 60) (sq : q.natAbs < 10 ^ 60) : piecesT (textR p q) = if q = 1 then [some p.natAbs] else [some p.natAbs, some q.natAbs] := by
  have e : piecesT (textR p q) = ((Txt.split (Txt.removeprefix (textR p q) "-") "/").map tl).map wholeT := by
    unfold piecesT
    rw [List.map_map]
    rfl
  rw [e, split_spl _ _ (by decide) (kind_ok (by decide +kernel)), rest_text hq]
  have e2 : tl ("/" : Str) = [47] := rfl
  rw [e2]
  have f := numL_free (n := p.natAbs) (s := 47) (.inl (by decide))
  have f2 := numL_free (n := q.natAbs) (s := 47) (.inl (by decide))
  by_cases h : q = 1
  · rw [if_pos h, if_pos h, List.append_nil, spl_last1 f, List.nil_append]
    show [wholeT (numL p.natAbs)] = _
    rw [wholeT_num sp]
  · rw [if_neg h, if_neg h]
    have z := spl_part1 (s := 47) (S := []) (p := numL p.natAbs) (rest := numL q.natAbs) (acc := []) f
    rw [List.nil_append, spl_last1 f2, List.nil_append] at z
    show (spl [47] 0 [] (numL p.natAbs ++ 47 :: numL q.natAbs)).map wholeT = _
    have z2 : spl [47] 0 [] (numL p.natAbs ++ 47 :: numL q.natAbs) = [numL p.natAbs, numL q.natAbs] := z
    rw [z2]
    show [wholeT (numL p.natAbs), wholeT (numL q.natAbs)] = _
    rw [wholeT_num sp, wholeT_num sq]
theorem top_text {p q : Int} (hq : 0 < q) : topT (textR p q) p.natAbs = p := by
  unfold topT
  rw [starts_minus, tl_text hq]
  by_cases h : p < 0
  · rw [if_pos h]
    exact (if_pos (decide_eq_true rfl)).trans (by omega)
  · rw [if_neg h, List.nil_append, decide_eq_false (head_num _ _), if_neg Bool.false_ne_true]
    omega
/-- THE READ-BACK -/
theorem ratioT_text {p q : Int} (hq : 0 < q) (g : Int.gcd p q = 1) (sp : p.natAbs < 10 ^ 60) (sq : q.natAbs < 10 ^ 60) : ratioT (textR p q) = some (p, q) := by
  obtain ⟨e1, e2⟩ := low_self hq g
  unfold ratioT
  rw [pieces_text hq sp sq]
  by_cases h : q = 1
  · rw [if_pos h]
    subst h
    show chkT _ (topT (textR p 1) p.natAbs) 1 = _
    rw [top_text hq]
    unfold chkT
    rw [e1, e2, if_pos rfl]
  · rw [if_neg h]
    show (if q.natAbs = 0 then none else chkT _ (topT (textR p q) p.natAbs) q.natAbs) = _
    rw [if_neg (by omega), top_text hq, show ((q.natAbs : Nat) : Int) = q by omega]
    unfold chkT
    rw [e1, e2, if_pos rfl]
end K01
namespace K01
open PySem PySem.Spec PyProof.Rows L2 RatM TL
theorem tl_inj {x y : Str} (h : tl x = tl y) : x = y := by
  cases x with
  | mk a => cases y with
    | mk b =>
      have : a = b := Array.ext' h
      rw [this]
theorem map_tl_inj : ∀ {l m : List Str}, l.map tl = m.map tl → l = m
  | [], [], _ => rfl
  | [], _ :: _, h => by cases h
  | _ :: _, [], h => by cases h
  | a :: l, b :: m, h => by
    rw [List.map_cons, List.map_cons] at h
    injection h with h1 h2
    rw [tl_inj h1, map_tl_inj h2]
theorem words_text {p q : Int} (hq : 0 < q) : wordsT (textR p q) = [textR p q] := by
  refine map_tl_inj ?_
  unfold wordsT
  rw [split_spl _ _ (by decide) (kind_ok (by decide +kernel))]
  have e2 : tl (" " : Str) = [32] := rfl
  have fr : 32 ∉ tl (textR p q) := by
    rw [tl_text hq]
    have f := numL_free (n := p.natAbs) (s := 32) (.inl (by decide))
    have f2 := numL_free (n := q.natAbs) (s := 32) (.inl (by decide))
    intro h
    rcases List.mem_append.mp h with h | h
    · split at h
      · simp at h
      · cases h
    · rcases List.mem_append.mp h with h | h
      · exact f h
      · split at h
        · cases h
        · rcases List.mem_cons.mp h with h | h
          · cases h
          · exact f2 h
  rw [e2, spl_last1 fr, List.nil_append]
  rfl
theorem pieces_tl {p q : Int} (hq : 0 < q) : (Txt.split (Txt.removeprefix (textR p q) "-") "/").map tl = if q = 1 then [numL p.natAbs] else [numL p.natAbs, numL q.natAbs] := by
  rw [split_spl _ _ (by decide) (kind_ok (by decide +kernel)), rest_text hq]
  have e2 : tl ("/" : Str) = [47] := rfl
  rw [e2]
  have f := numL_free (n := p.natAbs) (s := 47) (.inl (by decide))
  have f2 := numL_free (n := q.natAbs) (s := 47) (.inl (by decide))
  by_cases h : q = 1
  · rw [if_pos h, if_pos h, List.append_nil, spl_last1 f, List.nil_append]
  · rw [if_neg h, if_neg h]
    have z := spl_part1 (s := 47) (S := []) (p := numL p.natAbs) (rest := numL q.natAbs) (acc := []) f
    rw [List.nil_append, spl_last1 f2, List.nil_append] at z
    exact z
theorem text_sizes {p q : Int} (hq : 0 < q) (sp : p.natAbs < 10 ^ 60) (sq : q.natAbs < 10 ^ 60) : (textR p q).length ≤ 100000 ∧ (Txt.removeprefix (textR p q) "-").length ≤ 100000 ∧ (Txt.split (Txt.removeprefix (textR p q) "-") "/").length ≤ 100000 ∧
    ∀ x ∈ Txt.split (Txt.removeprefix (textR p q) "-") "/", x.length ≤ 100000 := by
  have l1 := numL_len (k := 60) (by decide) sp
  have l2 := numL_len (k := 60) (by decide) sq
  have e := pieces_tl (p := p) hq
  refine ⟨?_, ?_, ?_, fun x hx => ?_⟩
  · rw [len_tl, tl_text hq]
    simp only [List.length_append]
    split <;> split <;> simp <;> omega
  · rw [len_tl, rest_text hq]
    simp only [List.length_append]
    split <;> simp <;> omega
  · have z := congrArg List.length e
    rw [List.length_map] at z
    rw [z]
    split <;> simp
  · have z : tl x ∈ (Txt.split (Txt.removeprefix (textR p q) "-") "/").map tl := List.mem_map_of_mem hx
    rw [e] at z
    rw [len_tl]
    split at z
    · rw [List.mem_singleton.mp z]; omega
    · rcases List.mem_cons.mp z with z | z
      · rw [z]; omega
      · rw [List.mem_singleton.mp z]; omega
end K01
namespace K01
open PySem PySem.Spec PyProof.Rows L2 RatM ClX
def spOf1 (K : PySem.W.Frag) (C BR : Addr) : Sp := fun vs H Q E => ∃ x, vs = [x] ∧ AsR K C BR x "value" H Q E
structure RatZ (P : Program) (w : World) (K : PySem.W.Frag) (mg : Str → Option Value) (base : Heap) (C BR BT : Addr) : Prop extends RatW P w K mg base C BR where
  mkK : ∃ (f : Addr) (fd : FuncData), Mk K C f ∧ FnOk P w K mg base (L2.CX P w) 3 f fd ["self", "top", "bottom"] (spRI K C BR) ∧ KBn K fd ["self", "top", "bottom"] 1 ["bottom", "top"] (fun us ws => us ++ ws.reverse) (fun vs zs => vs ++ zs.reverse)
  neg : ∃ (f : Addr) (fd : FuncData), OwnM K C "__neg__" f ∧ FnOk P w K mg base (L2.CX P w) 5 f fd ["self"] (spSelf K C fun p => -p) ∧ Binds K fd ["self"] []
  abs_ : ∃ (f : Addr) (fd : FuncData), OwnM K C "__abs__" f ∧ FnOk P w K mg base (L2.CX P w) 5 f fd ["self"] (spSelf K C fun p => if p < 0 then -p else p) ∧ Binds K fd ["self"] []
  bool_ : ∃ (f : Addr) (fd : FuncData), OwnM K C "__bool__" f ∧ FnOk P w K mg base CX0 1 f fd ["self"] (spTruth K C) ∧ Binds K fd ["self"] []
  str_ : ∃ (f : Addr) (fd : FuncData), OwnM K C "__str__" f ∧ FnOk P w K mg base CX0 2 f fd ["self"] (spText K C) ∧ Binds K fd ["self"] []
  repr_ : ∃ (f : Addr) (fd : FuncData), OwnM K C "__repr__" f ∧ FnOk P w K mg base CX0 2 f fd ["self"] (spText K C) ∧ Binds K fd ["self"] []
  read_ : ∃ (mc : Value) (p g : Addr), CRead K C mc ∧ CMet K C mc "read" p g ∧ FnR P w K mg base (L2.CX P w) 6 g (spRead K C BT)
  of_ : ∃ (mc : Value) (p f : Addr) (fd : FuncData), CRead K C mc ∧ SMet K C mc "of" p f ∧ FnOk P w K mg base (L2.CX P w) 6 f fd ["value"] (spOf1 K C BR) ∧ Binds K fd ["value"] []
  ne : PySem.W.findIn K (.ref C) "__ne__" = some (some (.builtin "object.__ne__"))
  ob : PySem.W.subIn K (.ref C) (.type "object") = some true
  nf : ∀ T ∈ "int" :: oddTypes, PySem.W.notFirst K C (.type T) = true
/-- Ratio(bottom = y, top = x) -/
theorem pe_ratK {X : Cx} {C BR BT : Addr} {E : XK} {p pos : Pos} {kws : List Keyword} {tk : TA} (R : RatZ X.prog X.w X.K X.mg X.base C BR BT) (hr : Room 4 X.A) (hx : Passes (L2.CX X.prog X.w) X E) (hg : Gl X "Ratio") (hkw : PK X kws tk)
    (hall : (backToKw pos (keywordEach kws X.env)).all (·.1.isSome) = true := by rfl) (hks : (backToKw pos (keywordEach kws X.env)).filterMap (·.1) = ([("bottom" : Str), "top"] : List Str) := by rfl)
    (hpl : ((backTo pos (starEach [] X.env)).any (·.1) || (backToKw pos (keywordEach kws X.env)).any (·.1.isNone)) = false := by rfl) :
    PE X (.Call (.Name "Ratio" p) [] kws pos) (fun σ H Q => tk σ H fun zs H1 => ∃ y x, zs = [y, x] ∧ MkR X.K C BR x y H1 Q E) := by
  obtain ⟨f, fd, M, F, hb⟩ := R.mkK
  refine ⟨fun pins s σ H Q I h => ?_⟩
  refine wpAny_Call_Name_kw (ld_glob I hg R.g ?_ (by decide))
  refine PySem.W.callWith_KW0 (h₀ := X.base) I.ok.mod.kin M.kp hall ?_ hpl
  refine thn (hkw.run pos pins s σ H _ I h) fun ws s2 ⟨zs, H2, I2, rz, q⟩ => ⟨I2.kIn, ?_⟩
  rw [hks]
  obtain ⟨y, x, rfl, q⟩ := q
  exact run_makeK (n := 0) (us := []) (vs := []) M F hr hb hx I2 .nil rz rfl rfl fun a dx na nd ne => mkR_sp q a dx na nd ne
/-- one ratio is told right -/
def spOne : Sp := fun vs H Q _ => ∃ (t b : Int), vs = [.int t, .int b] ∧ t.natAbs < 10 ^ 30 ∧ b.natAbs < 10 ^ 30 ∧ b ≠ 0 ∧ ∀ H', Same H H' → Q (.bl true) H'
theorem sgn_if {K : PySem.W.Frag} {σ : L2.St} {H : Hp} {Q : VK} {o : Addr} {p q : Int} (hp : PairAt K H o p q) (i : σ[2]? = some (some (.ref o))) (k : Q (.int (sg p)) H) :
    tIf (tTest (tOp (rI0 fun i j => V.bl (decide (j < i))) (tOp (rIxT K) (tVar 2) (tC (V.int 0))) (tC (V.int 0)))) (tC (V.int 1))
      (tIf (tTest (tOp rEq (tOp (rIxT K) (tVar 2) (tC (V.int 0))) (tC (V.int 0)))) (tC (V.int 0)) (tUn (rU fun i => V.int (-i)) (tC (V.int 1)))) σ H Q := by
  refine ⟨_, i, o, _, _, _, rfl, rfl, hp, rfl, _, _, rfl, rfl, _, rfl, ?_⟩
  by_cases h : 0 < p
  · rw [show sg p = 1 by unfold sg b2i; simp [h]; omega] at k
    rw [decide_eq_true h]
    exact iteT k
  · rw [decide_eq_false h]
    refine iteF ⟨_, i, o, _, _, _, rfl, rfl, hp, rfl, rfl, decide (p = 0), congrArg V.bl (decI ..), ?_⟩
    by_cases z : p = 0
    · rw [decide_eq_true z]
      rw [show sg p = 0 by rw [z]; rfl] at k
      exact iteT k
    · rw [decide_eq_false z]
      rw [show sg p = -1 by unfold sg b2i; have : p < 0 := by omega
                            simp [h, this]] at k
      exact iteF ⟨_, rfl, k⟩
theorem flo {p q : Int} (hq : 0 < q) : p.fdiv q * q ≤ p ∧ p < (p.fdiv q + 1) * q ∧ (p.fdiv q).natAbs ≤ p.natAbs := by
  have e := Int.mul_fdiv_add_fmod p q
  have m0 := Int.fmod_nonneg_of_pos p hq
  have m1 := Int.fmod_lt_of_pos p hq
  generalize p.fdiv q = f at e ⊢
  generalize p.fmod q = m at e m0 m1
  have c : q * f = f * q := Int.mul_comm ..
  refine ⟨by omega, by rw [Int.add_mul]; omega, ?_⟩
  by_cases h : 0 ≤ f
  · have := Int.mul_le_mul_of_nonneg_right (show 1 ≤ q by omega) h
    omega
  · have := Int.mul_le_mul_of_nonneg_right (show 1 ≤ q by omega) (show 0 ≤ -(f + 1) by omega)
    simp only [Int.mul_neg, Int.mul_add, Int.mul_one, Int.one_mul] at this
    omega
section
variable {P : Program} {w : World} {K : PySem.W.Frag} {mg : Str → Option Value} {base : Heap} {C BR BT : Addr}
theorem scOn : FnScope ["_law_top", "_law_bottom_here", "_law_pair", "_law_ratio", "_law_text_here", "_law_whole"] ["_law_top", "_law_bottom_here"] (defScope (top 37)) := ⟨rfl, rfl, rfl, by decide +kernel, rfl, by decide +kernel, by decide +kernel⟩
theorem ok_one {f fL fI fT : Addr} {fd fdL fdI fdT : FuncData} (F : FnP K "_law_one_right" (top 37) f fd) (R : RatZ P w K mg base C BR BT) (T : Blt mg) (bR : mg "range" = none) (bB : mg "bool" = none) (bS : mg "str" = none) (bP : mg "repr" = none) (FL : FnP K "_law_lowest" (top 34) fL fdL) (gL : mg "_law_lowest" = some (.ref fL))
    (FI : FnP K "_law_is" (top 35) fI fdI) (gI : mg "_law_is" = some (.ref fI)) (FT : FnP K "_law_text" (top 36) fT fdT) (gT : mg "_law_text" = some (.ref fT)) : FnOk P w K mg base CX0 8 f fd ["_law_top", "_law_bottom_here"] spOne := by
  have GL : FnOk P w K mg base CX0 1 fL fdL ["_law_top", "_law_bottom_here"] spLow := ok_lowest FL T bR
  have bL : Binds K fdL ["_law_top", "_law_bottom_here"] [] := FL.bindsN fun _ _ _ _ _ _ us hl => match us, hl with | [_, _], _ => rfl
  have GI : FnOk P w K mg base CX0 1 fI fdI ["_law_ratio", "_law_pair"] (spIs K C) := ok_is FI R.toRatK bB
  have bI : Binds K fdI ["_law_ratio", "_law_pair"] [] := FI.bindsN fun _ _ _ _ _ _ us hl => match us, hl with | [_, _], _ => rfl
  have GT : FnOk P w K mg base CX0 1 fT fdT ["_law_pair"] (spTx K) := ok_text FT bS
  have bT : Binds K fdT ["_law_pair"] [] := FT.bindsN fun _ _ _ _ _ _ us hl => match us, hl with | [_], _ => rfl
  obtain ⟨fN, fdN, MN, GN, bN⟩ := R.neg
  obtain ⟨fA, fdA, MA, GA, bA⟩ := R.abs_
  obtain ⟨fB, fdB, MB, GB, bBo⟩ := R.bool_
  obtain ⟨fS, fdS, MS, GS, bSt⟩ := R.str_
  obtain ⟨fP, fdP, MP, GP, bRp⟩ := R.repr_
  obtain ⟨mc, pR, fRd, cr, cm, FR⟩ := R.read_
  obtain ⟨mc2, pO, fO, fdO, cr2, sm, GO, bO⟩ := R.of_
  obtain ⟨fE, fdE, ME, GE, bE⟩ := R.eq
  have cl := R.T.cls
  refine F.ok scOn (fun vs H Q E h => ?_) (fun cdv A outer s H vs Q E hr h => ?_)
  · obtain ⟨t, b, rfl, _⟩ := h
    rfl
  · obtain ⟨t, b, rfl, z1, z2, nb, k⟩ := h
    have hr7 : Room 7 _ := hr
    have hr6 : Room 6 _ := hr7.mono (by decide)
    have hr5 : Room 5 _ := hr7.mono (by decide)
    have hr4 : Room 4 _ := hr7.mono (by decide)
    have hr3 : Room 3 _ := hr7.mono (by decide)
    have hr1 : Room 1 _ := hr7.mono (by decide)
    refine ⟨_, PSs.nox (pss_cons (ps_par (i := 2) (j := 3) rfl scOn.nd rfl rfl (by decide) rfl rfl (pa_cons (pe_call GL hr1 rfl gL FL.kp bL .nil pass0 (pa_cons (pv 0) (pa_cons (pv 1) pa_nil))) (pa_cons (pe_rat2 R.toRatK hr4 (E := E0) passL (by rfl) (pa_cons (pv 0) (pa_cons (pv 1) pa_nil))) pa_nil)) rfl)
      (pss_cons (ps_if (PW.pt (pw_or (pt_not (pt_val (pe_call GI hr1 rfl gI FI.kp bI .nil pass0 (pa_cons (pv 3) (pa_cons (pv 2) pa_nil))))) (pw_or (pt_not (pt_val (pe_call GI hr1 rfl gI FI.kp bI .nil pass0 (pa_cons (pe_ratK R hr4 (E := E0) passL (by rfl) (pk_cons (pv 1) (pk_cons (pv 0) pk_nil))) (pa_cons (pv 2) pa_nil)))))
          (pw_or1 (pt_not (pt_val (pe_call GI hr1 rfl gI FI.kp bI .nil pass0 (pa_cons (pe_rat1 R.toRatK hr4 (E := E0) passL (by rfl) (pa_cons (pv 0) pa_nil)) (pa_cons (pe_tup (pa_cons (pv 0) (pa_cons pe_int pa_nil))) pa_nil))))))))) (pss_one (ps_ret pe_bl)) pss_nil)
      (pss_cons (ps_if (PW.pt (pw_or (pt_cmpR op_ne (pe_fld (pv 3) rfl) (pe_ifExp (pt_cmpR op_gt (pe_ix ix_tup (pv 2) pe_int (fun _ _ => rfl)) pe_int (nomark _)) pe_int (pe_ifExp (pt_cmpR op_eq (pe_ix ix_tup (pv 2) pe_int (fun _ _ => rfl)) pe_int (nomark _)) pe_int (pe_un un_neg pe_int))) (nomark _))
          (pw_or1 (pt_cmpR op_ne (pe_fld (pv 3) rfl) (pe_cmpR op_eq (pe_ix ix_tup (pv 2) pe_int (fun _ _ => rfl)) pe_int (nomark _)) (nomark _))))) (pss_one (ps_ret pe_bl)) pss_nil)
      (pss_cons (ps_if (PW.pt (pw_or (pt_cmpR op_gt (pe_op op_mulW (pe_fld (pv 3) rfl) (pe_ix ix_tup (pv 2) pe_int (fun _ _ => rfl))) (pe_ix ix_tup (pv 2) pe_int (fun _ _ => rfl)) (nomark _)) (pw_or (pt_cmpR op_le (pe_op op_mulW (pe_op op_add (pe_fld (pv 3) rfl) pe_int) (pe_ix ix_tup (pv 2) pe_int (fun _ _ => rfl))) (pe_ix ix_tup (pv 2) pe_int (fun _ _ => rfl)) (nomark _))
          (pw_or1 (pt_cmpR op_ne (pe_callTy (call_ownBool MB GB hr3 bBo (E := E0) pass0) (by rfl) bB PyProof.Rows.boot_bool (pa_cons (pv 3) pa_nil)) (pe_cmpR op_ne (pv 0) pe_int (nomark _)) (nomark _)))))) (pss_one (ps_ret pe_bl)) pss_nil)
      (pss_cons (ps_if (PW.pt (pw_or (pt_not (pt_val (pe_call GI hr1 rfl gI FI.kp bI .nil pass0 (pa_cons (pe_un (un_ownNeg MN GN hr5 bN (E := E0) passL) (pv 3)) (pa_cons (pe_tup (pa_cons (pe_un un_neg (pe_ix ix_tup (pv 2) pe_int (fun _ _ => rfl))) (pa_cons (pe_ix ix_tup (pv 2) pe_int (fun _ _ => rfl)) pa_nil))) pa_nil)))))
          (pw_or1 (pt_not (pt_val (pe_call GI hr1 rfl gI FI.kp bI .nil pass0 (pa_cons (pe_callB (call_ownAbs MA GA hr6 bA (E := E0) passL) (by rfl) T.abs (by decide +kernel) (pa_cons (pv 3) pa_nil)) (pa_cons (pe_tup (pa_cons (pe_callB call_abs (by rfl) T.abs (by decide +kernel) (pa_cons (pe_ix ix_tup (pv 2) pe_int (fun _ _ => rfl)) pa_nil)) (pa_cons (pe_ix ix_tup (pv 2) pe_int (fun _ _ => rfl)) pa_nil))) pa_nil)))))))) (pss_one (ps_ret pe_bl)) pss_nil)
      (pss_cons (ps_set (i := 4) scOn.nd rfl (.inl rfl) (pe_call GT hr1 rfl gT FT.kp bT .nil pass0 (pa_cons (pv 2) pa_nil)))
      (pss_cons (ps_if (PW.pt (pw_or (pt_cmpR op_ne (pe_callTy (call_ownStr MS GS hr4 bSt (E := E0) pass0) (by rfl) bS PyProof.Rows.boot_str (pa_cons (pv 3) pa_nil)) (pv 4) (nomark _)) (pw_or (pt_cmpR op_ne (pe_callB (call_ownRepr MP GP hr3 bRp (E := E0) pass0) (by rfl) bP (by decide +kernel) (pa_cons (pv 3) pa_nil)) (pv 4) (nomark _))
          (pw_or (pt_not (pt_cmpR (op_eqOwn ME GE hr3 bE (E := E0) pass0) (pe_cmeth (pe_glob (v := .ref _) rfl R.g rfl) cr cm FR hr6 (E := E0) passL (pa_cons (pv 4) pa_nil)) (pv 3) (nomark _))) (pw_or1 (pt_cmpR (op_neOwn ME R.ne R.ob GE hr4 bE (E := E0) pass0) (pe_smeth (pe_glob (v := .ref _) rfl R.g rfl) cr2 sm GO hr6 bO (E := E0) passL (pa_cons (pv 3) pa_nil)) (pv 3) (nomark _))))))) (pss_one (ps_ret pe_bl)) pss_nil)
      (pss_cons (ps_set (i := 5) scOn.nd rfl (.inl rfl) (pe_cmpR op_eq (pe_ix ix_tup (pv 2) pe_int (fun _ _ => rfl)) pe_int (nomark _)))
      (pss_one (ps_ret (pe_and (pe_cmpR op_eq (pe_cmpR (op_eqOwn ME GE hr3 bE (E := E0) pass0) (pv 3) (pe_ix ix_tup (pv 2) pe_int (fun _ _ => rfl)) (nomark _)) (pv 5) (nomark _))
          (pe_and (pe_cmpR op_isBl (pe_cmpR (op_eqOwn ME GE hr3 bE (E := E0) pass0) (pe_rat1 R.toRatK hr4 (E := E0) passL (by rfl) (pa_cons pe_int pa_nil)) pe_bl (nomark _)) pe_bl (nomark _))
          (pe_and (pe_cmpR op_isBl (pe_cmpR (op_eqOwn ME GE hr3 bE (E := E0) pass0) (pe_rat1 R.toRatK hr4 (E := E0) passL (by rfl) (pa_cons pe_int pa_nil)) pe_bl (nomark _)) pe_bl (nomark _))
          (pe_one (pe_cmpR op_isBl (pe_cmpR (op_eqOwn ME GE hr3 bE (E := E0) pass0) (pv 3) (pv 4) (nomark _)) pe_bl (nomark _)))))))))))))))), ?_⟩
    have ix0 : ∀ u v : Int, atI [V.int u, V.int v] 0 = some (.int u) := fun _ _ => rfl
    have ix1 : ∀ u v : Int, atI [V.int u, V.int v] 1 = some (.int v) := fun _ _ => rfl
    have big : ∀ {u : Int}, u.natAbs < 10 ^ 30 → u.natAbs < 2 ^ 4000 := fun h => sz_up (s1_sz (s1_ten h))
    have low2 : ∀ {u : Int}, u.natAbs < 10 ^ 30 → u.natAbs < 2 ^ 200 := fun h => Nat.lt_trans h (by decide +kernel)
    have one1 : Sz 1 := by decide +kernel
    refine ⟨_, rfl, _, rfl, t, b, rfl, nb, low2 z2, fun o no => ⟨_, rfl, _, rfl, _, _, rfl, .inl ⟨t, b, rfl, rfl, nb, big z1, big z2, fun r H1 s1 ra => ?_⟩⟩⟩
    have hp : PairAt K H1 o (lowT t b) (lowB t b) := SqT.ext (SqT.of upd_same) s1
    replace k : ∀ H', Same H1 H' → Q (.bl true) H' := fun H' s => k H' (((same_upd no).trans s1).trans s)
    clear s1 no
    have g := low_gcd (t := t) nb
    have pq := lowB_pos (t := t) nb
    have zp : (lowT t b).natAbs < 10 ^ 30 := Nat.lt_of_le_of_lt (lowT_le nb) z1
    have zq : (lowB t b).natAbs < 10 ^ 30 := Nat.lt_of_le_of_lt (lowB_le nb) z2
    have tm := lowT_mul (t := t) nb
    obtain ⟨ls1, ls2⟩ := low_self pq g
    generalize hP : lowT t b = p at ra hp g zp tm ls1 ls2 pq
    generalize hQ : lowB t b = q at ra hp g zq pq ls1 ls2
    have sp := s1_sz (s1_ten zp)
    have sq := s1_sz (s1_ten zq)
    have qn : q ≠ 0 := by omega
    refine ⟨_, _, rfl, ?_⟩
    dsimp only [tNext]
    -- T1
    refine ⟨_, rfl, _, rfl, r, o, p, q, p, q, rfl, ra, hp, fun H2 s1 => ⟨true, tt2 _ _, iteF ?_⟩⟩
    refine ⟨_, rfl, _, rfl, _, _, rfl, .inl ⟨t, b, rfl, rfl, nb, big z1, big z2, fun r2 H3 s2 ra2 => ?_⟩⟩
    rw [hP, hQ] at ra2
    refine ⟨_, rfl, r2, o, p, q, p, q, rfl, ra2, SqT.ext hp (s1.trans s2), fun H4 s3 => ⟨true, tt2 _ _, iteF ?_⟩⟩
    have l1 : lowT t 1 = t ∧ lowB t 1 = 1 := low_self (by decide) (Int.gcd_one_right ..)
    refine ⟨_, rfl, _, rfl, .inl ⟨t, 1, rfl, rfl, by decide, big z1, sz_up one1, fun r3 H5 s4 ra3 => ?_⟩⟩
    rw [l1.1, l1.2] at ra3
    refine ⟨_, rfl, by rw [sizeLine_eq]; show 2 ≤ 16777216; decide, fun p5 n5 => ⟨r3, p5, t, 1, t, 1, rfl, ra3.same (same_upd n5), SqT.of upd_same, fun H6 s6 => ⟨true, tt2 _ _, iteF ?_⟩⟩⟩
    have sx := s1.trans (s2.trans (s3.trans (s4.trans ((same_upd n5).trans s6))))
    replace ra := ra.same sx
    replace hp := SqT.ext hp sx
    replace k : ∀ H', Same H6 H' → Q (.bl true) H' := fun H' s => k H' (sx.trans s)
    clear sx s1 s2 s3 s4 s6 n5 ra2 ra3
    -- T2
    obtain ⟨dx, ea⟩ := id ra
    dsimp only [tNext]
    refine ⟨_, rfl, r, C, dx, _, _, rfl, ea, R.T.cls, R.T.no "sign" (by simp), rfl, ?_⟩
    refine sgn_if hp rfl ⟨rfl, false, congrArg V.bl (by rw [show V.int (b2i (decide (0 < p)) - b2i (decide (p < 0))) = V.int (sg p) from rfl, decide_eq_true rfl]; rfl), iteF ?_⟩
    refine ⟨_, rfl, r, C, dx, _, _, rfl, ea, R.T.cls, R.T.no "is_whole" (by simp), rfl, _, rfl, o, _, _, _, rfl, rfl, hp, ix1 _ _, rfl, rfl, false, congrArg V.bl (by rw [decide_eq_true rfl]; rfl), iteF ?_⟩
    -- T3
    obtain ⟨f1, f2, f3⟩ := flo (p := p) pq
    have zf : Sz (p.fdiv q) := Nat.lt_of_le_of_lt f3 sp
    have zf1 : Sz (p.fdiv q + 1) := s1_sz (Nat.lt_of_le_of_lt (show (p.fdiv q + 1).natAbs ≤ 10 ^ 30 by omega) (by decide +kernel))
    dsimp only [tNext]
    refine ⟨_, rfl, r, C, dx, _, _, rfl, ea, R.T.cls, R.T.no "below" (by simp), rfl, _, rfl, o, _, _, _, rfl, rfl, hp, ix1 _ _, _, _, rfl, rfl, sz_mul zf sq, _, rfl, o, _, _, _, rfl, rfl, hp, ix0 _ _, _, _, rfl, rfl, false, congrArg V.bl (decide_eq_false (by omega)), iteF ?_⟩
    refine ⟨_, rfl, r, C, dx, _, _, rfl, ea, R.T.cls, R.T.no "below" (by simp), rfl, _, _, rfl, rfl, _, rfl, o, _, _, _, rfl, rfl, hp, ix1 _ _, _, _, rfl, rfl, sz_mul zf1 sq, _, rfl, o, _, _, _, rfl, rfl, hp, ix0 _ _, _, _, rfl, rfl, false, congrArg V.bl (decide_eq_false (by omega)), iteF ?_⟩
    have tz : decide (p ≠ 0) = !decide (V.int t = V.int 0) := by
      rw [decI, ← decide_not]
      refine decide_eq_decide.mpr ⟨fun h e => h ?_, fun h e => h ?_⟩
      · rw [e] at tm
        exact (Int.mul_eq_zero.mp tm).resolve_left (lowD_ne nb)
      · rw [← tm, e, Int.mul_zero]
    refine ⟨_, rfl, r, rfl, ra.ins, r, p, q, rfl, ra, _, rfl, _, rfl, rfl, rfl, false, congrArg V.bl (by rw [tz, decide_eq_true rfl]; rfl), iteF ?_⟩
    -- T4
    dsimp only [tNext]
    have lneg := low_self (p := -p) pq (by rw [Int.neg_gcd]; exact g)
    have labs := low_self (p := if p < 0 then -p else p) pq (by split <;> first | (rw [Int.neg_gcd]; exact g) | exact g)
    refine ⟨_, rfl, r, rfl, ra.ins, r, p, q, rfl, ra, sp, sq, qn, fun r4 H7 s7 ra4 => ?_⟩
    dsimp only at ra4
    rw [lneg.1, lneg.2] at ra4
    have hp7 := SqT.ext hp s7
    refine ⟨_, rfl, o, _, _, _, rfl, rfl, hp7, ix0 _ _, _, rfl, _, rfl, o, _, _, _, rfl, rfl, hp7, ix1 _ _, by rw [sizeLine_eq]; show 2 ≤ 16777216; decide, fun p8 n8 => ⟨r4, p8, -p, q, -p, q, rfl, ra4.same (same_upd n8), SqT.of upd_same, fun H8 s8 => ⟨true, tt2 _ _, iteF ?_⟩⟩⟩
    have sx := s7.trans ((same_upd n8).trans s8)
    replace ra := ra.same sx
    replace hp := SqT.ext hp sx
    replace k : ∀ H', Same H8 H' → Q (.bl true) H' := fun H' s => k H' (sx.trans s)
    clear sx s7 s8 n8 ra4 hp7
    refine ⟨_, rfl, r, rfl, ra.ins, r, p, q, rfl, ra, sp, sq, qn, fun r4 H7 s7 ra4 => ?_⟩
    dsimp only at ra4
    rw [labs.1, labs.2] at ra4
    have hp7 := SqT.ext hp s7
    refine ⟨_, rfl, o, _, _, _, rfl, rfl, hp7, ix0 _ _, _, rfl, _, rfl, o, _, _, _, rfl, rfl, hp7, ix1 _ _, by rw [sizeLine_eq]; show 2 ≤ 16777216; decide, fun p8 n8 => ⟨r4, p8, _, q, _, q, rfl, ra4.same (same_upd n8), SqT.of upd_same, fun H9 s8 => ⟨true, tt2 _ _, iteF ?_⟩⟩⟩
    have sx := s7.trans ((same_upd n8).trans s8)
    replace ra := ra.same sx
    replace hp := SqT.ext hp sx
    replace k : ∀ H', Same H9 H' → Q (.bl true) H' := fun H' s => k H' (sx.trans s)
    clear sx s7 s8 n8 ra4 hp7
    -- the text
    refine ⟨_, rfl, o, p, q, rfl, hp, sp, sq, ?_⟩
    dsimp only [gName]
    -- T5
    have rt := ratioT_text pq g (Nat.lt_trans zp (by decide +kernel)) (Nat.lt_trans zq (by decide +kernel))
    obtain ⟨z1', z2', z3', z4'⟩ := text_sizes (p := p) pq (Nat.lt_trans zp (by decide +kernel)) (Nat.lt_trans zq (by decide +kernel))
    have wt := words_text (p := p) pq
    refine ⟨_, rfl, r, rfl, ra.ins, r, p, q, rfl, ra, sp, sq, _, rfl, _, rfl, rfl, false, congrArg V.bl (by rw [decide_eq_true rfl]; rfl), iteF ?_⟩
    refine ⟨_, rfl, r, rfl, ra.ins, r, p, q, rfl, ra, sp, sq, _, rfl, _, rfl, rfl, false, congrArg V.bl (by rw [decide_eq_true rfl]; rfl), iteF ?_⟩
    refine ⟨rfl, _, rfl, _, rfl, .inl ⟨_, rfl, z1', ?_⟩⟩
    rw [wt]
    refine ⟨z1', z2', z3', z4', fun e => ?_, fun u v e z => absurd (show 1 < 1 from z) (by decide), fun u v e _ r5 H10 s5 ra5 => ?_⟩
    · rw [show (([textR p q] : List Str)).getD 0 "" = textR p q from rfl, rt] at e
      cases e
    rw [show (([textR p q] : List Str)).getD 0 "" = textR p q from rfl, rt] at e
    obtain ⟨rfl, rfl⟩ := Prod.mk.inj (Option.some.inj e)
    replace ra := ra.same s5
    replace hp := SqT.ext hp s5
    replace k : ∀ H', Same H10 H' → Q (.bl true) H' := fun H' s => k H' (s5.trans s)
    clear s5 e
    refine ⟨_, rfl, r5, .ref C, rfl, ra5.ins, ty_ins ra.ins, by simp [PySem.W.notFirst], r5, _, _, _, rfl, ra5, .inl ⟨r, _, _, rfl, ra, _, rfl, true, tt2 _ _, iteF ?_⟩⟩
    clear ra5
    refine ⟨rfl, _, rfl, _, rfl, .inl ⟨_, _, .inl ⟨r, rfl, ra⟩, fun r5 H11 s5 ra5 => ?_⟩⟩
    replace ra := ra.same s5
    replace hp := SqT.ext hp s5
    replace k : ∀ H', Same H11 H' → Q (.bl true) H' := fun H' s => k H' (s5.trans s)
    clear s5
    refine ⟨_, rfl, r5, .ref C, rfl, ra5.ins, ty_ins ra.ins, by simp [PySem.W.notFirst], r5, _, _, _, rfl, ra5, .inl ⟨r, _, _, rfl, ra, _, rfl, false, congrArg V.bl (by rw [decide_eq_true rfl, decide_eq_true rfl]; rfl), iteF ?_⟩⟩
    clear ra5
    dsimp only [tNext]
    refine ⟨_, rfl, o, _, _, _, rfl, rfl, hp, ix1 _ _, rfl, ?_⟩
    dsimp only [gName]
    have od : ∀ {H : Hp} (b : Bool), NotNum K H C (.bl b) := fun b => (OddAt.bl b).notNum R.odd
    refine ⟨_, rfl, _, rfl, o, _, _, _, rfl, rfl, hp, ix0 _ _, r, .type "int", rfl, ra.ins, ty_plain (plainT_int _), R.nf "int" (by simp), r, _, _, _, rfl, ra, .inr (.inl ⟨_, rfl, _, rfl, _, rfl, rfl, true, congrArg V.bl ?_, iteT ?_⟩)⟩
    · rw [decI, decide_eq_true (rfl : p = p), Bool.and_true]
      exact decide_eq_true rfl
    refine ⟨_, rfl, .inl ⟨0, 1, rfl, rfl, by decide, by decide +kernel, by decide +kernel, fun r6 H12 s6 ra6 => ?_⟩⟩
    refine ⟨r6, .type "bool", rfl, ra6.ins, ty_plain (plainT_bl _), R.nf "bool" (by decide), r6, _, _, _, rfl, ra6, .inr (.inr ⟨od _, _, rfl, ?_⟩)⟩
    refine ⟨false, false, rfl, rfl, true, congrArg V.bl (decide_eq_true rfl), iteT ?_⟩
    replace ra := ra.same s6
    replace k : ∀ H', Same H12 H' → Q (.bl true) H' := fun H' s => k H' (s6.trans s)
    clear s6 ra6
    refine ⟨_, rfl, .inl ⟨1, 1, rfl, rfl, by decide, by decide +kernel, by decide +kernel, fun r6 H13 s6 ra6 => ?_⟩⟩
    refine ⟨r6, .type "bool", rfl, ra6.ins, ty_plain (plainT_bl _), R.nf "bool" (by decide), r6, _, _, _, rfl, ra6, .inr (.inr ⟨od _, _, rfl, ?_⟩)⟩
    refine ⟨false, false, rfl, rfl, true, congrArg V.bl (decide_eq_true rfl), iteT ?_⟩
    replace ra := ra.same s6
    refine ⟨_, rfl, _, rfl, r, .type "str", rfl, ra.ins, ty_plain (plainT_str _), R.nf "str" (by decide), r, _, _, _, rfl, ra, .inr (.inr ⟨(OddAt.str _).notNum R.odd, _, rfl, ?_⟩)⟩
    refine ⟨false, false, rfl, rfl, ?_⟩
    have z := k H13 s6
    rw [← decide_eq_true (rfl : false = false)] at z
    exact z
end
end K01
namespace K01
open PySem PySem.Spec PyProof.Rows L2 RatM
section
variable {P : Program} {w : World} {K : PySem.W.Frag} {mg : Str → Option Value} {base : Heap} {C BR : Addr}
theorem scOf1 : FnScope ["value"] ["value"] (defScope (ratM 2)) := ⟨rfl, rfl, rfl, by decide +kernel, rfl, by decide +kernel, by decide +kernel⟩
/-- Ratio.of(x) -/
theorem ok_of1 {f : Addr} {fd : FuncData} (F : MtP K "of" "Ratio.of" (ratM 2) f fd) (R : RatF P w K mg base C BR) : FnOk P w K mg base (L2.CX P w) 6 f fd ["value"] (spOf1 K C BR) := by
  obtain ⟨fO, fdO, GO, bO, kO, gO⟩ := R.ro
  refine F.ok scOf1 (fun vs H Q E h => ?_) (fun cdv A outer s H vs Q E hr h => ?_)
  · obtain ⟨x, rfl, _⟩ := h
    rfl
  · obtain ⟨x, rfl, h⟩ := h
    have hr5 : Room 5 _ := hr
    refine ⟨_, pss_one (ps_ret (pe_call GO hr5 rfl gO kO bO .nil (passE (takes_of rfl rfl rfl rfl)) (pa_cons (pv 0) (pa_cons pe_str pa_nil)))), ?_⟩
    exact ⟨_, rfl, _, _, rfl, h⟩
/-! ### is_list -/
def spLs (K : PySem.W.Frag) : Sp := fun vs H Q _ => ∃ x t b, vs = [x] ∧ TyX K H x t ∧ PySem.W.kitAny K t [.type "list", .type "tuple"] = some b ∧ ∀ H', Same H H' → Q (.bl b) H'
theorem scLs : FnScope ["value"] ["value"] (defScope (top 13)) := ⟨rfl, rfl, rfl, by decide +kernel, rfl, by decide +kernel, by decide +kernel⟩
theorem tyX_upd {H : Hp} {x : V} {t : Value} {p : Addr} {o : HO} (h : TyX K H x t) (n : H p = none) : TyX K (upd H p o) x t := by
  have s := same_upd (o := o) n
  cases h with
  | base z =>
    refine .base ?_
    cases z with
    | non => exact .non
    | bl x => exact .bl x
    | int i => exact .int i
    | str x => exact .str x
    | flt x => exact .flt x
    | lst e => exact .lst (s _ _ e)
    | frz e => exact .frz (s _ _ e)
    | tup e => exact .tup (s _ _ e)
    | dK e => exact .dK (s _ _ e)
    | dT e => exact .dT (s _ _ e)
    | ins e a1 a2 a3 a4 a5 => exact .ins (s _ _ e) a1 a2 a3 a4 a5
  | byt y => exact .byt y
  | set e => exact .set (s _ _ e)
  | kList e c => exact .kList e c
  | kTuple e c => exact .kTuple e c
  | kDict e c => exact .kDict e c
  | fTuple e => exact .fTuple (s _ _ e)
  | fDict e => exact .fDict (s _ _ e)
theorem ok_isList {f : Addr} {fd : FuncData} (F : FnP K "is_list" (top 13) f fd) (bi : mg "isinstance" = none) (bL : mg "list" = none) (bT : mg "tuple" = none) : FnOk P w K mg base CX0 1 f fd ["value"] (spLs K) := by
  refine F.ok scLs (fun vs H Q E h => ?_) (fun cdv A outer s H vs Q E hr h => ?_)
  · obtain ⟨x, t, b, rfl, _⟩ := h
    rfl
  · obtain ⟨x, t, b, rfl, ty, k, q⟩ := h
    refine ⟨_, PSs.nox (pss_one (ps_ret (pe_callB call_isiT (by rfl) bi (by decide +kernel) (pa_cons (pv 0) (pa_cons (pe_tup (pa_cons (pe_bltn (v := .ty "list") (by rfl) bL (by decide +kernel) rfl) (pa_cons (pe_bltn (v := .ty "tuple") (by rfl) bT (by decide +kernel) rfl) pa_nil))) pa_nil))))), ?_⟩
    exact ⟨_, rfl, by rw [sizeLine_eq]; show 2 ≤ 16777216; decide, fun p n => ⟨x, p, _, t, _, b, rfl, upd_same, .cons (.ty "list") (.cons (.ty "tuple") .nil), tyX_upd ty n, k, q _ (same_upd n)⟩⟩
/-! ### is_within -/
/-- a bound: None or an integer -/
inductive Bd : V → Option Int → Prop where
  | non : Bd .non none
  | int (i : Int) : Bd (.int i) (some i)
def loB (v : Int) (o : Option Int) : Bool := match o with | none => true | some i => decide (i ≤ v)
def hiB (v : Int) (o : Option Int) : Bool := match o with | none => true | some i => decide (v ≤ i)
def spWn (K : PySem.W.Frag) : Sp := fun vs H Q _ => ∃ x l m, vs = [x, l, m] ∧
  ((∃ v lo hi, x = .int v ∧ Bd l lo ∧ Bd m hi ∧ Q (.bl (loB v lo && hiB v hi)) H) ∨ (IntIs K H x false ∧ Q (.bl false) H))
theorem scWn : FnScope ["value", "least", "most"] ["value", "least", "most"] (defScope (top 11)) := ⟨rfl, rfl, rfl, by decide +kernel, rfl, by decide +kernel, by decide +kernel⟩
theorem ok_within {f fI : Addr} {fd fdI : FuncData} (F : FnP K "is_within" (top 11) f fd) (GI : FnOk P w K mg base CX0 1 fI fdI ["value"] (spIsI K)) (bI : Binds K fdI ["value"] []) (kI : PySem.W.keepIn K (.ref fI) = true) (gI : mg "is_integer" = some (.ref fI)) :
    FnOk P w K mg base CX0 2 f fd ["value", "least", "most"] (spWn K) := by
  refine F.ok scWn (fun vs H Q E h => ?_) (fun cdv A outer s H vs Q E hr h => ?_)
  · obtain ⟨x, l, m, rfl, _⟩ := h
    rfl
  · obtain ⟨x, l, m, rfl, h⟩ := h
    have hr1 : Room 1 _ := hr
    refine ⟨_, PSs.nox (pss_cons (ps_if (pt_not (pt_val (pe_call GI hr1 rfl gI kI bI .nil pass0 (pa_cons (pv 0) pa_nil)))) (pss_one (ps_ret pe_bl)) pss_nil)
      (pss_one (ps_ret (pe_and (pe_or (pe_cmp (pc_isN (pv 1))) (pe_one (pe_cmpR op_ge (pv 0) (pv 1) (nomark _)))) (pe_one (pe_or (pe_cmp (pc_isN (pv 2))) (pe_one (pe_cmpR op_le (pv 0) (pv 2) (nomark _))))))))), ?_⟩
    rcases h with ⟨v, lo, hi, rfl, bl, bh, q⟩ | ⟨ni, q⟩
    · refine ⟨_, rfl, _, _, rfl, intIs_int v, true, rfl, iteF ?_⟩
      cases bl with
      | non =>
        refine ⟨_, rfl, true, congrArg V.bl (decide_eq_true rfl), iteT ⟨true, rfl, iteT ?_⟩⟩
        cases bh with
        | non => exact ⟨_, rfl, true, congrArg V.bl (decide_eq_true rfl), iteT q⟩
        | int j =>
          refine ⟨_, rfl, false, congrArg V.bl (decide_eq_false fun e => nomatch e), iteF ⟨_, rfl, _, rfl, _, _, rfl, rfl, ?_⟩⟩
          rw [show (loB v none && hiB v (some j)) = decide (v ≤ j) from Bool.true_and _] at q
          exact q
      | int i =>
        refine ⟨_, rfl, false, congrArg V.bl (decide_eq_false fun e => nomatch e), iteF ⟨_, rfl, _, rfl, _, _, rfl, rfl, decide (i ≤ v), rfl, ?_⟩⟩
        by_cases c : i ≤ v
        · rw [show loB v (some i) = true from decide_eq_true c, Bool.true_and] at q
          rw [decide_eq_true c]
          refine iteT ?_
          cases bh with
          | non => exact ⟨_, rfl, true, congrArg V.bl (decide_eq_true rfl), iteT q⟩
          | int j => exact ⟨_, rfl, false, congrArg V.bl (decide_eq_false fun e => nomatch e), iteF ⟨_, rfl, _, rfl, _, _, rfl, rfl, q⟩⟩
        · rw [show loB v (some i) = false from decide_eq_false c, Bool.false_and] at q
          rw [decide_eq_false c]
          exact iteF q
    · exact ⟨_, rfl, _, _, rfl, ni, false, rfl, iteT q⟩
end
end K01
namespace K01
open PySem PySem.Spec PyProof.Rows L2 RatM TL
def letS : Str := "abcdefghijklmnopqrstuvwxyz"
def sigS : Str := "0123456789abcdefghijklmnopqrstuvwxyz"
def nameT (l : List Nat) : Bool := decide (1 ≤ l.length) && (decide (l.length ≤ 12) && ((match l with | [] => false | c :: _ => decide (c ∈ letS.cps.toList)) && l.all fun c => decide (c ∈ sigS.cps.toList)))
def spNm (K : PySem.W.Frag) : Sp := fun vs H Q _ => ∃ x, vs = [x] ∧
  ((∃ w, x = .str w ∧ w.length ≤ 100000 ∧ ∀ H', Same H H' → Q (.bl (nameT w.cps.toList)) H') ∨ (∃ t, TyX K H x t ∧ PySem.W.kitOne K t (.type "str") = some false ∧ Q (.bl false) H))
structure NmG (mg : Str → Option Value) : Prop where
  isi : mg "isinstance" = none
  str : mg "str" = none
  len : mg "len" = none
  all : mg "all" = none
  lo : ∃ t, mg "_LONGEST" = some (.int 12 t)
  le : ∃ t, mg "_LETTERS" = some (.str letS t)
  si : ∃ t, mg "_SIGNS" = some (.str sigS t)
section
variable {P : Program} {w : World} {K : PySem.W.Frag} {mg : Str → Option Value} {base : Heap}
theorem scNm : FnScope ["value", "sign"] ["value"] (defScope (top 12)) := ⟨rfl, rfl, rfl, by decide +kernel, rfl, by decide +kernel, by decide +kernel⟩
theorem ok_isName {f : Addr} {fd : FuncData} (F : FnP K "is_name" (top 12) f fd) (G : NmG mg) : FnOk P w K mg base CX0 1 f fd ["value"] (spNm K) := by
  obtain ⟨t1, hLo⟩ := G.lo
  obtain ⟨t2, hLe⟩ := G.le
  obtain ⟨t3, hSi⟩ := G.si
  refine F.ok scNm (fun vs H Q E h => ?_) (fun cdv A outer s H vs Q E hr h => ?_)
  · obtain ⟨x, rfl, _⟩ := h
    rfl
  · obtain ⟨x, rfl, h⟩ := h
    refine ⟨_, PSs.nox (pss_cons (ps_if (PW.pt (pw_or (pt_not (pt_val (pe_callB call_isi (by rfl) G.isi (by decide +kernel) (pa_cons (pv 0) (pa_cons (pe_bltn (v := .ty "str") (by rfl) G.str (by decide +kernel) rfl) pa_nil))))) (pw_or1 (pt_not (pt_chain op_le op_le pe_int (pe_callB call_len (by rfl) G.len PySem.boot_len (pa_cons (pv 0) pa_nil)) (pe_glob (v := .int 12) rfl hLo ⟨_, rfl⟩)))))) (pss_one (ps_ret pe_bl)) pss_nil)
      (pss_one (ps_ret (pe_and (pe_cmpR op_in_sign (pe_ix ix_str (pv 0) pe_int (fun _ _ => rfl)) (pe_glob (v := .str letS) rfl hLe ⟨_, rfl⟩) rfl)
        (pe_one (pe_callB (cr_all rfl) (by rfl) G.all (by decide +kernel) (pa_cons (pe_lc (own := [("sign", 1)]) (g := gName 1) (tt := tYes) rfl scNm.nd (pi_str (pv 0)) (blkOk_by (N := ["value", "sign"]) (sc := defScope (top 12)) (by decide +kernel)) (fun _ _ _ _ _ => pg_name (i := 1) scNm.nd rfl (Or.inl rfl)) (fun _ _ _ _ _ => pts_nil) (fun _ _ _ _ _ => pe_cmpR op_in_sign (pv 1) (pe_glob (v := .str sigS) rfl hSi ⟨_, rfl⟩) rfl)) pa_nil))))))), ?_⟩
    rcases h with ⟨w, rfl, hz, k⟩ | ⟨t, ty, kk, q⟩
    · have lw : w.length = w.cps.toList.length := by simp [Str.length]
      refine ⟨_, rfl, _, _, _, _, _, rfl, .ty "str", .base (.str w), kit_ty (by decide +kernel), true, rfl, iteF ?_⟩
      refine ⟨_, rfl, .str w, w.length, rfl, ⟨by rw [sizeLine_eq]; omega, rfl⟩, _, _, rfl, rfl, decide ((1 : Int) ≤ (w.length : Nat)), rfl, ?_⟩
      generalize hl : w.cps.toList = l at k lw
      by_cases c1 : 1 ≤ l.length
      · rw [decide_eq_true (show (1 : Int) ≤ (w.length : Nat) by omega)]
        refine iteT ⟨_, _, rfl, rfl, decide ((w.length : Nat) ≤ (12 : Int)), rfl, ?_⟩
        by_cases c2 : l.length ≤ 12
        · rw [decide_eq_true (show ((w.length : Nat) : Int) ≤ 12 by omega)]
          refine iteF ?_
          dsimp only [tNext]
          obtain ⟨c0, r, e0⟩ : ∃ c0 r, l = c0 :: r := by
            cases l with
            | nil => cases c1
            | cons c r => exact ⟨c, r, rfl⟩
          have at0 : atI w.cps.toList 0 = some c0 := by rw [hl, e0]; exact atI_nat (show (c0 :: r)[0]? = some c0 from rfl)
          have kn : nameT l = (decide (c0 ∈ letS.cps.toList) && l.all fun c => decide (c ∈ sigS.cps.toList)) := by
            unfold nameT
            rw [decide_eq_true c1, decide_eq_true c2, e0, Bool.true_and, Bool.true_and]
          rw [kn] at k
          refine ⟨_, rfl, w, 0, c0, rfl, rfl, by rw [sizeLine_eq]; omega, at0, c0, letS, rfl, rfl, decide (c0 ∈ letS.cps.toList), rfl, ?_⟩
          by_cases c3 : c0 ∈ letS.cps.toList
          · rw [decide_eq_true c3] at k ⊢
            rw [Bool.true_and] at k
            refine iteT ⟨_, rfl, w, rfl, fun D nD => ?_⟩
            refine ⟨fun i m Hh => i ≤ l.length ∧ m = l.length - i ∧ Same H Hh ∧ Hh D = some (.lst (((l.take i).map fun c => decide (c ∈ sigS.cps.toList)).map V.bl)), ⟨_, Nat.zero_le _, rfl, same_upd nD, upd_same⟩, fun i m Hh hW => ?_⟩
            obtain ⟨hi, hm, sH, hD⟩ := hW
            have sz : w.cps.size = l.length := by rw [← hl]; simp
            by_cases ci : i < l.length
            · refine .inr ⟨(by show i < w.cps.size; omega), fun H' => ∃ m', m' < m ∧ i + 1 ≤ l.length ∧ m' = l.length - (i + 1) ∧ Same H H' ∧ H' D = some (.lst (((l.take (i + 1)).map fun c => decide (c ∈ sigS.cps.toList)).map V.bl)), fun H' z => z, fun x H' hy => ?_⟩
              obtain ⟨rfl, c, hc, rfl⟩ := hy
              have hc2 : l[i]? = some c := by rw [← hl]; simpa using hc
              refine ⟨rfl, ?_⟩
              unfold tYes
              dsimp only
              rw [if_pos rfl]
              refine ⟨_, rfl, c, sigS, rfl, rfl, _, hD, ?_, l.length - (i + 1), by omega, ci, rfl, fun b o e => ?_, ?_⟩
              · simp only [List.length_map, List.length_take]
                rw [sizeLine_eq]; omega
              · rw [upd_ne (ne_of_none e nD)]; exact sH b o e
              · rw [upd_same, List.take_add_one, hc2]
                simp
            · refine .inl ⟨(by show w.cps.size ≤ i; omega), ?_⟩
              rw [List.take_of_length_le (show l.length ≤ i by omega)] at hD
              refine ⟨D, _, rfl, SqL.of hD, ?_⟩
              have z := k Hh sH
              rw [show (List.map (fun c => decide (c ∈ sigS.cps.toList)) l).all id = l.all fun c => decide (c ∈ sigS.cps.toList) by rw [List.all_map]; rfl]
              exact z
          · rw [decide_eq_false c3] at k ⊢
            rw [Bool.false_and] at k
            exact iteF (k _ (Same.refl _))
        · rw [decide_eq_false (show ¬ ((w.length : Nat) : Int) ≤ 12 by omega)]
          have kn : nameT l = false := by
            unfold nameT
            rw [decide_eq_false c2, Bool.false_and, Bool.and_false]
          rw [kn] at k
          exact iteT (k _ (Same.refl _))
      · rw [decide_eq_false (show ¬ (1 : Int) ≤ (w.length : Nat) by omega)]
        have kn : nameT l = false := by
          unfold nameT
          rw [decide_eq_false c1, Bool.false_and]
        rw [kn] at k
        exact iteF ⟨false, rfl, iteT (k _ (Same.refl _))⟩
    · exact ⟨_, rfl, _, _, _, _, _, rfl, .ty "str", ty, kk, false, rfl, iteT q⟩
end
end K01
namespace K01
open PySem PySem.Spec PyProof.Rows L2 RatM TL
/-- is_name(x) is b -/
def NmIs (K : PySem.W.Frag) (H : Hp) (x : V) (b : Bool) : Prop := (∃ w, x = .str w ∧ w.length ≤ 100000 ∧ b = nameT w.cps.toList) ∨ (∃ t, TyX K H x t ∧ PySem.W.kitOne K t (.type "str") = some false ∧ b = false)
theorem tyX_same {K : PySem.W.Frag} {H H' : Hp} {x : V} {t : Value} (h : TyX K H x t) (s : Same H H') : TyX K H' x t := by
  cases h with
  | base z =>
    refine .base ?_
    cases z with
    | non => exact .non
    | bl x => exact .bl x
    | int i => exact .int i
    | str x => exact .str x
    | flt x => exact .flt x
    | lst e => exact .lst (s _ _ e)
    | frz e => exact .frz (s _ _ e)
    | tup e => exact .tup (s _ _ e)
    | dK e => exact .dK (s _ _ e)
    | dT e => exact .dT (s _ _ e)
    | ins e a1 a2 a3 a4 a5 => exact .ins (s _ _ e) a1 a2 a3 a4 a5
  | byt y => exact .byt y
  | set e => exact .set (s _ _ e)
  | kList e c => exact .kList e c
  | kTuple e c => exact .kTuple e c
  | kDict e c => exact .kDict e c
  | fTuple e => exact .fTuple (s _ _ e)
  | fDict e => exact .fDict (s _ _ e)
theorem NmIs.same {K : PySem.W.Frag} {H H' : Hp} {x : V} {b : Bool} (h : NmIs K H x b) (s : Same H H') : NmIs K H' x b := h.imp id fun ⟨t, ty, k, e⟩ => ⟨t, tyX_same ty s, k, e⟩
theorem NmIs.sp {K : PySem.W.Frag} {H : Hp} {x : V} {b : Bool} {Q : VK} {E : XK} (h : NmIs K H x b) (q : ∀ H', Same H H' → Q (.bl b) H') : spNm K [x] H Q E := by
  rcases h with ⟨w, rfl, l, rfl⟩ | ⟨t, ty, k, rfl⟩
  · exact ⟨_, rfl, .inl ⟨w, rfl, l, q⟩⟩
  · exact ⟨_, rfl, .inr ⟨t, ty, k, q _ (Same.refl _)⟩⟩
def spNms (K : PySem.W.Frag) : Sp := fun vs H Q _ => ∃ x, vs = [x] ∧
  ((∃ (a : Addr) (xs : List V) (bs : List Bool), x = .ref a ∧ (H a = some (.lst xs) ∨ H a = some (.tup xs)) ∧ xs.length ≤ 1000 ∧ bs.length = xs.length ∧ (∀ (i : Nat) x b, xs[i]? = some x → bs[i]? = some b → NmIs K H x b) ∧ ∀ H', Same H H' → Q (.bl (bs.all id)) H') ∨
   (∃ t, TyX K H x t ∧ PySem.W.kitAny K t [.type "list", .type "tuple"] = some false ∧ ∀ H', Same H H' → Q (.bl false) H'))
section
variable {P : Program} {w : World} {K : PySem.W.Frag} {mg : Str → Option Value} {base : Heap}
theorem any_ty {a b c : String} {x y : Bool} (h1 : PySem.W.kitOne K (.type a) (.type b) = some x) (h2 : PySem.W.kitOne K (.type a) (.type c) = some y) : PySem.W.kitAny K (.type a) [.type b, .type c] = some (x || y) := by
  simp only [PySem.W.kitAny, h1, h2]
  cases x <;> cases y <;> rfl
/-- the turns over the items, list or tuple -/
theorem nm_turn {H H1 Hh : Hp} {D : Addr} {σ : L2.St} {xs : List V} {bs : List Bool} {i : Nat} {x : V} (hσ : σ.length = 2) (lb : bs.length = xs.length) (lx : xs.length ≤ 1000) (hn : ∀ (i : Nat) x b, xs[i]? = some x → bs[i]? = some b → NmIs K H x b) (s1 : Same H H1) (nD : H1 D = none)
    (hx : xs[i]? = some x) (hP : Same H1 Hh ∧ Hh D = some (.lst ((bs.take i).map V.bl))) :
    gName 1 x (wipe σ [1]) Hh fun σ2 H2 => wipe σ2 [1] = wipe σ [1] ∧ tYes σ2 H2 fun b H3 => if b = true then tCall (spNm K) [] E0 (tCons (tVar 1) tNil) σ2 H3 fun y H4 => ∃ acc, H4 D = some (.lst acc) ∧ acc.length < sizeLine ∧ (Same H1 (upd H4 D (.lst (acc ++ [y]))) ∧ upd H4 D (.lst (acc ++ [y])) D = some (.lst ((bs.take (i + 1)).map V.bl))) else (Same H1 H3 ∧ H3 D = some (.lst ((bs.take (i + 1)).map V.bl))) := by
  obtain ⟨s2, hD⟩ := hP
  have li : i < xs.length := (List.getElem?_eq_some_iff.mp hx).1
  obtain ⟨b, hb⟩ : ∃ b, bs[i]? = some b := ⟨bs[i]'(by omega), List.getElem?_eq_getElem (by omega)⟩
  obtain ⟨a0, a1, rfl⟩ : ∃ a0 a1, σ = [a0, a1] := by
    match σ, hσ with
    | [a0, a1], _ => exact ⟨a0, a1, rfl⟩
  refine ⟨rfl, ?_⟩
  unfold tYes
  dsimp only
  rw [if_pos rfl]
  refine ⟨_, rfl, ?_⟩
  simp only [tNil, List.append_nil]
  refine NmIs.sp (((hn i x b hx hb).same s1).same s2) fun H4 s4 => ⟨_, s4 _ _ hD, ?_, fun c o e => ?_, ?_⟩
  · simp only [List.length_map, List.length_take]
    rw [sizeLine_eq]; omega
  · rw [upd_ne (ne_of_none e nD)]; exact s4 _ _ (s2 c o e)
  · rw [upd_same, List.take_add_one, hb]
    simp
theorem scNs : FnScope ["value", "item"] ["value"] (defScope (top 14)) := ⟨rfl, rfl, rfl, by decide +kernel, rfl, by decide +kernel, by decide +kernel⟩
theorem ok_areNames {f fN fL : Addr} {fd fdN fdL : FuncData} (F : FnP K "are_names" (top 14) f fd) (al : mg "all" = none) (GN : FnOk P w K mg base CX0 1 fN fdN ["value"] (spNm K)) (bN : Binds K fdN ["value"] []) (kN : PySem.W.keepIn K (.ref fN) = true) (gN : mg "is_name" = some (.ref fN))
    (GL : FnOk P w K mg base CX0 1 fL fdL ["value"] (spLs K)) (bL : Binds K fdL ["value"] []) (kL : PySem.W.keepIn K (.ref fL) = true) (gL : mg "is_list" = some (.ref fL)) : FnOk P w K mg base CX0 3 f fd ["value"] (spNms K) := by
  refine F.ok scNs (fun vs H Q E h => ?_) (fun cdv A outer s H vs Q E hr h => ?_)
  · obtain ⟨x, rfl, _⟩ := h
    rfl
  · obtain ⟨x, rfl, h⟩ := h
    have hr2 : Room 2 _ := hr
    have hr1 : Room 1 _ := hr2.mono (by decide)
    rcases h with ⟨a, xs, bs, rfl, hl | hl, lx, lb, hn, k⟩ | ⟨t, ty, kk, k⟩
    · refine ⟨_, PSs.nox (pss_one (ps_ret (pe_and (pe_call GL hr1 rfl gL kL bL .nil pass0 (pa_cons (pv 0) pa_nil))
        (pe_one (pe_callB (cr_all rfl) (by rfl) al (by decide +kernel) (pa_cons (pe_lc (own := [("item", 1)]) (g := gName 1) (tt := tYes) rfl scNs.nd (pi_list (pv 0)) (blkOk_by (N := ["value", "item"]) (sc := defScope (top 14)) (by decide +kernel)) (fun _ _ _ _ _ => pg_name (i := 1) scNs.nd rfl (Or.inl rfl)) (fun _ _ _ _ _ => pts_nil) (fun _ _ _ _ _ => pe_call GN (by exact hr1) rfl gN kN bN .nil pass0 (pa_cons (pv 1) pa_nil))) pa_nil)))))), ?_⟩
      refine ⟨_, rfl, _, _, _, rfl, .base (.lst hl), any_ty (x := true) (y := false) (kit_ty (by decide +kernel)) (kit_ty (by decide +kernel)), fun H1 s1 => ⟨true, rfl, iteT ?_⟩⟩
      refine ⟨_, rfl, a, rfl, ⟨xs, SqL.of (s1 _ _ hl)⟩, fun D nD => ?_⟩
      refine lc_list (a := a) (xs := xs) (fun i Hh => Same H1 Hh ∧ Hh D = some (.lst ((bs.take i).map V.bl))) ⟨same_upd nD, upd_same⟩ (fun i Hh _ hP => SqL.of (hP.1 _ _ (s1 _ _ hl))) (fun i x Hh hx hP => nm_turn rfl lb lx hn s1 nD hx hP) fun Hh hP => ?_
      obtain ⟨s2, hD⟩ := hP
      rw [← lb, List.take_length] at hD
      exact ⟨D, bs, rfl, SqL.of hD, k _ (s1.trans s2)⟩
    · refine ⟨_, PSs.nox (pss_one (ps_ret (pe_and (pe_call GL hr1 rfl gL kL bL .nil pass0 (pa_cons (pv 0) pa_nil))
        (pe_one (pe_callB (cr_all rfl) (by rfl) al (by decide +kernel) (pa_cons (pe_lc (own := [("item", 1)]) (g := gName 1) (tt := tYes) rfl scNs.nd (pi_tup (pv 0)) (blkOk_by (N := ["value", "item"]) (sc := defScope (top 14)) (by decide +kernel)) (fun _ _ _ _ _ => pg_name (i := 1) scNs.nd rfl (Or.inl rfl)) (fun _ _ _ _ _ => pts_nil) (fun _ _ _ _ _ => pe_call GN (by exact hr1) rfl gN kN bN .nil pass0 (pa_cons (pv 1) pa_nil))) pa_nil)))))), ?_⟩
      refine ⟨_, rfl, _, _, _, rfl, .base (.tup hl), any_ty (x := false) (y := true) (kit_ty (by decide +kernel)) (kit_ty (by decide +kernel)), fun H1 s1 => ⟨true, rfl, iteT ?_⟩⟩
      refine ⟨_, rfl, a, rfl, ⟨xs, SqT.of (s1 _ _ hl)⟩, fun D nD => ?_⟩
      refine lc_tup (a := a) (xs := xs) (fun i Hh => Same H1 Hh ∧ Hh D = some (.lst ((bs.take i).map V.bl))) ⟨same_upd nD, upd_same⟩ (fun i Hh _ hP => SqT.of (hP.1 _ _ (s1 _ _ hl))) (fun i x Hh hx hP => nm_turn rfl lb lx hn s1 nD hx hP) fun Hh hP => ?_
      obtain ⟨s2, hD⟩ := hP
      rw [← lb, List.take_length] at hD
      exact ⟨D, bs, rfl, SqL.of hD, k _ (s1.trans s2)⟩
    · refine ⟨_, PSs.nox (pss_one (ps_ret (pe_and (pe_call GL hr1 rfl gL kL bL .nil pass0 (pa_cons (pv 0) pa_nil))
        (pe_one (pe_callB (cr_all rfl) (by rfl) al (by decide +kernel) (pa_cons (pe_lc (own := [("item", 1)]) (g := gName 1) (tt := tYes) rfl scNs.nd (pi_list (pv 0)) (blkOk_by (N := ["value", "item"]) (sc := defScope (top 14)) (by decide +kernel)) (fun _ _ _ _ _ => pg_name (i := 1) scNs.nd rfl (Or.inl rfl)) (fun _ _ _ _ _ => pts_nil) (fun _ _ _ _ _ => pe_call GN (by exact hr1) rfl gN kN bN .nil pass0 (pa_cons (pv 1) pa_nil))) pa_nil)))))), ?_⟩
      exact ⟨_, rfl, _, t, false, rfl, ty, kk, fun H1 s1 => ⟨false, rfl, iteF (k _ s1)⟩⟩
end
end K01
namespace K01
open PySem PySem.Spec PyProof.Rows L2 RatM TL
def chS (l : List Nat) : List PyData := l.map fun c => PyData.str ⟨#[c]⟩
def chV (l : List Nat) : List V := l.map fun c => V.str ⟨#[c]⟩
theorem can_chs : ∀ {l : List Nat}, (∀ c ∈ l, c < 0x110000) → PyData.canLayAll0 (chS l) = true
  | [], _ => rfl
  | c :: l, h => by
    have ih := can_chs (l := l) fun d hd => h d (List.mem_cons_of_mem _ hd)
    have z := h c List.mem_cons_self
    unfold chS at ih ⊢
    simp [PyData.canLayAll0, PyData.canLay0, PyData.strOk, ih]
    exact z
theorem deep_chs : ∀ l : List Nat, PyData.depthAll (chS l) ≤ 1
  | [] => by simp [chS, PyData.depthAll]
  | c :: l => by
    have ih := deep_chs l
    unfold chS at ih ⊢
    simp [PyData.depthAll, PyData.depth]
    omega
theorem shaped_chs {l : List Nat} (h : ∀ c ∈ l, c < 0x110000) : SeqAt.shaped (.list (chS l)) = true := by
  have h1 := can_chs h
  have h2 := deep_chs l
  simp [SeqAt.shaped, PyData.canLay0, PyData.depth, h1]
  omega
theorem eqv_chs (l : List Nat) : PyData.eqv (.list (chS l)) (.list []) = l.isEmpty := by
  cases l <;> simp [chS, PyData.eqv, PyData.eqvAll]
theorem dp_chs {K : PySem.W.Frag} {H : Hp} {p : Addr} {l : List Nat} (h : H p = some (.lst (chV l))) : Dp K H (.ref p) (.list (chS l)) := by
  have ih' : ∀ l : List Nat, DpAll K H (l.map fun c => V.str ⟨#[c]⟩) (l.map fun c => PyData.str ⟨#[c]⟩) := fun l => by
    induction l with
    | nil => exact .nil
    | cons c l ih => exact .cons (.str _) ih
  exact .lst (SqL.of h) (ih' l)
def figS : Str := "0123456789"
theorem sig_mem (c : Nat) : decide (c ∈ (letS ++ figS).cps.toList) = decide (c ∈ sigS.cps.toList) := by
  have e : tl sigS = tl figS ++ tl letS := rfl
  refine decide_eq_decide.mpr ?_
  show c ∈ tl (letS ++ figS) ↔ c ∈ tl sigS
  rw [e, tl_append, List.mem_append, List.mem_append]
  exact Or.comm
def spLN : Sp := fun vs H Q _ => ∃ w, vs = [.str w] ∧ w.length ≤ 100000 ∧ (∀ c ∈ w.cps.toList, c < 0x110000) ∧ ∀ H', Same H H' → Q (.bl (nameT w.cps.toList)) H'
section
variable {P : Program} {w : World} {K : PySem.W.Frag} {mg : Str → Option Value} {base : Heap}
theorem scLN : FnScope ["_law_text_here", "_law_small", "_law_figures", "_law_sign"] ["_law_text_here"] (defScope (top 42)) := ⟨rfl, rfl, rfl, by decide +kernel, rfl, by decide +kernel, by decide +kernel⟩
theorem ok_lawName {f : Addr} {fd : FuncData} (F : FnP K "_law_is_name" (top 42) f fd) (bl : mg "len" = none) : FnOk P w K mg base CX0 1 f fd ["_law_text_here"] spLN := by
  refine F.ok scLN (fun vs H Q E h => ?_) (fun cdv A outer s H vs Q E hr h => ?_)
  · obtain ⟨x, rfl, _⟩ := h
    rfl
  · obtain ⟨w, rfl, hz, hc, k⟩ := h
    refine ⟨_, PSs.nox (pss_cons (ps_asg (pe_tup (pa_cons pe_str (pa_cons pe_str pa_nil))) (pg_tup rfl (pgs_cons (pg_name (i := 1) scLN.nd rfl (Or.inr rfl)) (pgs_cons (pg_name (i := 2) scLN.nd rfl (Or.inr rfl)) pgs_nil))))
      (pss_cons (ps_if (PW.pt (pw_or (pt_cmpR op_eq (pe_callB call_len (by rfl) bl PySem.boot_len (pa_cons (pv 0) pa_nil)) pe_int (nomark _)) (pw_or (pt_cmpR op_gt (pe_callB call_len (by rfl) bl PySem.boot_len (pa_cons (pv 0) pa_nil)) pe_int (nomark _)) (pw_or1 (pt_cmpR op_notIn_sign (pe_ix ix_str (pv 0) pe_int (fun _ _ => rfl)) (pv 1) rfl))))) (pss_one (ps_ret pe_bl)) pss_nil)
      (pss_one (ps_ret (pe_cmpR (op_eqD hr.units) (pe_lc (own := [("_law_sign", 3)]) (g := gName 3) rfl scLN.nd (pi_str (pv 0)) (blkOk_by (N := ["_law_text_here", "_law_small", "_law_figures", "_law_sign"]) (sc := defScope (top 42)) (by decide +kernel)) (fun _ _ _ _ _ => pg_name (i := 3) scLN.nd rfl (Or.inl rfl)) (fun _ _ _ _ _ => pts_one (pt_cmpR op_notIn_sign (pv 3) (pe_op op_add_str (pv 1) (pv 2)) rfl)) (fun _ _ _ _ _ => pv 3)) (pe_lst pa_nil) rfl))))), ?_⟩
    have lw : w.length = w.cps.toList.length := by simp [Str.length]
    have wl : w.length ≤ sizeLine := by rw [sizeLine_eq]; omega
    refine ⟨by rw [sizeLine_eq]; show 2 ≤ 16777216; decide, fun p0 n0 => ?_⟩
    refine ⟨p0, _, rfl, SqT.of upd_same, rfl, _, _, rfl, _, _, rfl, rfl, ?_⟩
    have s0 := same_upd (o := .tup [.str (Str.ofString "abcdefghijklmnopqrstuvwxyz"), .str (Str.ofString "0123456789")]) n0
    replace k : ∀ H', Same _ H' → Q (.bl (nameT w.cps.toList)) H' := fun H' s => k H' (s0.trans s)
    clear s0
    generalize upd H p0 (.tup [.str (Str.ofString "abcdefghijklmnopqrstuvwxyz"), .str (Str.ofString "0123456789")]) = H1 at k ⊢
    generalize hl : w.cps.toList = l at k lw hc
    dsimp only [tNext]
    refine ⟨_, rfl, .str w, w.length, rfl, ⟨wl, rfl⟩, rfl, decide (V.int (w.length : Nat) = V.int 0), rfl, ?_⟩
    rw [decI]
    by_cases c1 : 1 ≤ l.length
    · rw [decide_eq_false (show ¬ ((w.length : Nat) : Int) = 0 by omega)]
      refine iteF ⟨_, rfl, .str w, w.length, rfl, ⟨wl, rfl⟩, _, _, rfl, rfl, decide ((12 : Int) < (w.length : Nat)), rfl, ?_⟩
      by_cases c2 : l.length ≤ 12
      · rw [decide_eq_false (show ¬ (12 : Int) < (w.length : Nat) by omega)]
        obtain ⟨c0, r, e0⟩ : ∃ c0 r, l = c0 :: r := by
          cases l with
          | nil => cases c1
          | cons c r => exact ⟨c, r, rfl⟩
        have at0 : atI w.cps.toList 0 = some c0 := by rw [hl, e0]; exact atI_nat (show (c0 :: r)[0]? = some c0 from rfl)
        have kn : nameT l = (decide (c0 ∈ letS.cps.toList) && l.all fun c => decide (c ∈ sigS.cps.toList)) := by
          unfold nameT
          rw [decide_eq_true c1, decide_eq_true c2, e0, Bool.true_and, Bool.true_and]
        rw [kn] at k
        refine iteF ⟨_, rfl, w, 0, c0, rfl, rfl, wl, at0, _, rfl, c0, letS, rfl, rfl, !decide (c0 ∈ letS.cps.toList), rfl, ?_⟩
        by_cases c3 : c0 ∈ letS.cps.toList
        · rw [decide_eq_true c3] at k ⊢
          rw [Bool.true_and] at k
          refine iteF ?_
          refine ⟨_, rfl, w, rfl, fun D nD => ?_⟩
          refine ⟨fun i m Hh => i ≤ l.length ∧ m = l.length - i ∧ Same H1 Hh ∧ Hh D = some (.lst (chV ((l.take i).filter fun c => !decide (c ∈ sigS.cps.toList)))), ⟨_, Nat.zero_le _, rfl, same_upd nD, upd_same⟩, fun i m Hh hW => ?_⟩
          obtain ⟨hi, hm, sH, hD⟩ := hW
          have sz : w.cps.size = l.length := by rw [← hl]; simp
          by_cases ci : i < l.length
          · refine .inr ⟨(by show i < w.cps.size; omega), fun H' => ∃ m', m' < m ∧ i + 1 ≤ l.length ∧ m' = l.length - (i + 1) ∧ Same H1 H' ∧ H' D = some (.lst (chV ((l.take (i + 1)).filter fun c => !decide (c ∈ sigS.cps.toList)))), fun H' z => z, fun x H' hy => ?_⟩
            obtain ⟨rfl, c, hcc, rfl⟩ := hy
            have hc2 : l[i]? = some c := by rw [← hl]; simpa using hcc
            refine ⟨rfl, _, rfl, _, rfl, _, rfl, letS, figS, rfl, rfl, by rw [sizeLine_eq]; decide, c, _, rfl, rfl, !decide (c ∈ sigS.cps.toList), congrArg (fun b => V.bl (!b)) (sig_mem c), ?_⟩
            by_cases c4 : c ∈ sigS.cps.toList
            · rw [decide_eq_true c4]
              refine iteF ⟨l.length - (i + 1), by omega, ci, rfl, sH, ?_⟩
              rw [List.take_add_one, hc2, List.filter_append]
              rw [show List.filter (fun c => !decide (c ∈ sigS.cps.toList)) (some c).toList = [] from List.filter_cons_of_neg (by rw [decide_eq_true c4]; decide), List.append_nil]
              exact hD
            · rw [decide_eq_false c4]
              refine iteT ⟨_, rfl, _, hD, ?_, l.length - (i + 1), by omega, ci, rfl, fun b o e => ?_, ?_⟩
              · have z := List.length_filter_le (fun c => !decide (c ∈ sigS.cps.toList)) (l.take i)
                unfold chV
                rw [List.length_map, sizeLine_eq]
                rw [List.length_take] at z
                omega
              · rw [upd_ne (ne_of_none e nD)]; exact sH b o e
              · rw [upd_same, List.take_add_one, hc2, List.filter_append]
                rw [show List.filter (fun c => !decide (c ∈ sigS.cps.toList)) (some c).toList = [c] from List.filter_cons_of_pos (by rw [decide_eq_false c4]; rfl)]
                unfold chV
                rw [List.map_append]
                rfl
          · refine .inl ⟨(by show w.cps.size ≤ i; omega), ?_⟩
            rw [List.take_of_length_le (show l.length ≤ i by omega)] at hD
            refine ⟨by rw [sizeLine_eq]; show 0 ≤ 16777216; decide, fun q nq => ?_⟩
            have z := k _ (sH.trans (same_updR (o := .lst []) nq))
            refine ⟨_, _, dp_chs (same_updR nq _ _ hD), .lst (SqL.of upd_same) .nil, shaped_chs fun c hcm => hc c (List.mem_filter.mp hcm).1, by decide +kernel, ?_⟩
            rw [eqv_chs]
            have e : (List.filter (fun c => !decide (c ∈ sigS.cps.toList)) l).isEmpty = l.all fun c => decide (c ∈ sigS.cps.toList) := by
              rw [Bool.eq_iff_iff, List.isEmpty_iff, List.filter_eq_nil_iff, List.all_eq_true]
              simp
            rw [e]
            exact z
        · rw [decide_eq_false c3] at k ⊢
          rw [Bool.false_and] at k
          exact iteT (k _ (Same.refl _))
      · rw [decide_eq_true (show (12 : Int) < (w.length : Nat) by omega)]
        have kn : nameT l = false := by
          unfold nameT
          rw [decide_eq_false c2, Bool.false_and, Bool.and_false]
        rw [kn] at k
        exact iteT (k _ (Same.refl _))
    · rw [decide_eq_true (show ((w.length : Nat) : Int) = 0 by omega)]
      have kn : nameT l = false := by
        unfold nameT
        rw [decide_eq_false c1, Bool.false_and]
      rw [kn] at k
      exact iteT (k _ (Same.refl _))
end
end K01
namespace K01
open PySem PySem.Spec PyProof.Rows L2 RatM TL LamX
/-- what the def that hears asks of an error -/
def HearW (K : PySem.W.Frag) (BR BT : Addr) (Q : VK) : XK := fun cls d H' => ∃ b, PySem.W.exmOne K cls (.ref BR) = some b ∧
  (b = true → cls = .ref BR ∧ ∃ (dd : Addr) (fs : List (Str × V)) (v : V), d = some dd ∧ H' dd = some (.xd fs) ∧ fs.lookup ("part" : Str) = some v ∧ ∀ p, H' p = none → Q (.ref p) (upd H' p (.tup [.str "ratio", v]))) ∧
  (b = false → ∃ b2, PySem.W.exmOne K cls (.ref BT) = some b2 ∧
    (b2 = true → cls = .ref BT ∧ ∃ (dd : Addr) (fs : List (Str × V)) (l w : V), d = some dd ∧ H' dd = some (.xd fs) ∧ fs.lookup ("line" : Str) = some l ∧ fs.lookup ("word" : Str) = some w ∧ ∀ p, H' p = none → Q (.ref p) (upd H' p (.tup [.str "text", l, w]))) ∧ (b2 = false → False))
def THear (K : PySem.W.Frag) (BR BT : Addr) : (XK → Hp → VK → Prop) → Hp → VK → Prop := fun tl H Q => tl (HearW K BR BT Q) H fun _ H' => ∃ v, some (some V.non) = some (some v) ∧ Q v H'
abbrev nsH : List Str := ["_law_ask", "_law_heard_here", "error"]
theorem scHe : FnScope nsH ["_law_ask"] (defScope (top 39)) := ⟨rfl, rfl, rfl, by decide +kernel, rfl, by decide +kernel, by decide +kernel⟩
theorem heard_gives {X : Cx} {BR BT g : Addr} {cdg : Value} {q : Str} (gR : X.mg "BadRatio" = some (.ref BR)) (gT : X.mg "BadText" = some (.ref BT)) (xR : XfC X.K BR) (nR : PySem.W.findIn X.K (.ref BR) "part" = some none)
    (xT : XfC X.K BT) (nL : PySem.W.findIn X.K (.ref BT) "line" = some none) (nW : PySem.W.findIn X.K (.ref BT) "word" = some none) :
    GivesTo X nsH "_law_heard" (defScope (top 39)) g cdg (defBody (top 39)) "_law_ask" q (THear X.K BR BT) := by
  intro f c' s H Q tl act hc h
  refine ⟨_, pss_cons (ps_set (i := 1) scHe.nd rfl (.inl rfl) pe_non) (pss_cons (ps_try_ass (X := (cxOf C8.CX0 X.prog X.w X.K X.mg X.base nsH "_law_heard" (defScope (top 39)) g cdg X.A X.stack s H C8.E0).nox) (n := "error") (i := 2) (Wout := fun _ _ _ _ => False) (l := [(.ref BR, _), (.ref BT, _)])
      (tb := fun W D σ H => ∃ Ech : XK, (∀ cls d σ' H', Ech cls d H' → σ'.length = 3 → W cls d σ' H') ∧ σ[0]? = some (some (.ref f)) ∧ H c' = some (CodeO c' q) ∧ tl Ech H fun _ H' => D.nx σ H')
      rfl rfl scHe.nd rfl rfl LamX.takes0 (fun W pn xe tk _ => ?_)
      (.cons ⟨rfl, rfl, .inl gR⟩ (fun a oe cls d pn hz hf => pss_one (ps_set (i := 1) scHe.nd rfl (.inl rfl) (pe_tup (pa_cons pe_str (pa_cons (pe_xf (X := (cxOf C8.CX0 X.prog X.w X.K X.mg X.base nsH "_law_heard" (defScope (top 39)) g cdg X.A X.stack s H C8.E0).nox) (C := BR) xR nR hz hf (pv 2)) pa_nil)))))
        (.cons ⟨rfl, rfl, .inl gT⟩ (fun a oe cls d pn hz hf => pss_one (ps_set (i := 1) scHe.nd rfl (.inl rfl) (pe_tup (pa_cons pe_str (pa_cons (pe_xf (X := (cxOf C8.CX0 X.prog X.w X.K X.mg X.base nsH "_law_heard" (defScope (top 39)) g cdg X.A X.stack s H C8.E0).nox) (C := BT) xT nL hz hf (pv 2)) (pa_cons (pe_xf (X := (cxOf C8.CX0 X.prog X.w X.K X.mg X.base nsH "_law_heard" (defScope (top 39)) g cdg X.A X.stack s H C8.E0).nox) (C := BT) xT nW hz hf (pv 2)) pa_nil))))))
          .nil))) (pss_one (ps_ret (pv 1)))), ?_⟩
  · refine ⟨fun pins s' σ H' D I h' => ?_⟩
    obtain ⟨Ech, hW, h1, h2, h3⟩ := h'
    exact (pss_one (ps_expr (act (fun cls d σ' H' => σ'.length = 3 → W cls d σ' H') pn xe Ech _ _ (fun u s' ⟨a, B, sI, pins', σ', H', cls, d, e, J, nb, up, sky, na, os, ag, w⟩ => tk u s' ⟨a, B, sI, pins', σ', H', cls, d, e, J, nb, up, sky, na, os, ag, w J.len⟩) hW))).run pins s' σ H' D I ⟨h1, h2, h3⟩
  · refine ⟨HearW X.K BR BT Q, fun cls d σ' H' hw hl => ?_, rfl, hc, h⟩
    obtain ⟨x0, x1, x2, rfl⟩ : ∃ x0 x1 x2, σ' = [x0, x1, x2] := by
      match σ', hl with
      | [x0, x1, x2], _ => exact ⟨x0, x1, x2, rfl⟩
    obtain ⟨b, e1, y, n⟩ := hw
    refine ⟨b, e1, fun hb a na => ?_, fun hb => ?_⟩
    · obtain ⟨rfl, dd, fs, v, rfl, hd, hv, k⟩ := y hb
      exact ⟨_, rfl, rfl, rfl, dd, fs, v, rfl, hd, hv, by rw [sizeLine_eq]; show 2 ≤ 16777216; decide, fun p np => ⟨_, rfl, k p np⟩⟩
    · obtain ⟨b2, e2, y2, n2⟩ := n hb
      refine ⟨b2, e2, fun hb a na => ?_, fun hb => (n2 hb).elim⟩
      obtain ⟨rfl, dd, fs, l, w, rfl, hd, hv, hv2, k⟩ := y2 hb
      exact ⟨_, rfl, rfl, rfl, dd, fs, l, rfl, hd, hv, _, rfl, rfl, rfl, dd, fs, w, rfl, hd, hv2, by rw [sizeLine_eq]; show 3 ≤ 16777216; decide, fun p np => ⟨_, rfl, k p np⟩⟩
end K01
namespace K01
open PySem PySem.Spec PyProof.Rows L2 RatM TL LamX
/-- a def's promise, its code object known -/
theorem okC {P : Program} {w : World} {K : PySem.W.Frag} {mg : Str → Option Value} {base : Heap} {x qual : Str} {params : Arguments} {body : List Stmt} {scope : Scope} {dvs : List V} {kws : List (Str × V)} {f : Addr} {fd : FuncData} {CX : CXT} {N ps : List Str} {k : Nat} {sp : Sp}
    (F : FunD K x qual params body scope dvs kws f fd) (S : FnScope N ps scope) (len : ∀ vs H Q E, sp vs H Q E → vs.length = ps.length)
    (hbody : ∀ (c : Addr), (∀ p : Str × Option Str, He.fAd K p = f → He.codeOf K p = c) → ∀ (A : Around) (outer : List Env) (s : Shared) (H : Hp) (vs : List V) (Q : VK) (E : XK), Room k (A.deeper (envOfC qual scope s.heap.objs.size f (.ref c))) → sp vs H Q E →
      ∃ t, PSs (cxOf CX P w K mg base N qual scope f (.ref c) A outer s H E) body t ∧ t { nx := fun _ H' => Q .non H', rt := Q } (start N vs) H) : FnOk P w K mg base CX (k + 1) f fd ps sp := by
  obtain ⟨oc, od, dV, kV, doc, pm, an, cdv, ct, osl, rfl, lk, hcd, _, _⟩ := F.ex
  obtain ⟨c, rfl⟩ := He.codeIn_ref hcd
  exact fn_of lk hcd S len fun A outer s H vs Q E hr hsp => hbody c (fun p e => He.codeOf_eq (c := c) (by rw [e]; exact lk) rfl) A outer s H vs Q E hr hsp
/-- what the def that hears rests on -/
structure HearK (K : PySem.W.Frag) (mg : Str → Option Value) (BR BT g : Addr) (fd : FuncData) : Prop where
  F : FnP K "_law_heard" (top 39) g fd
  gh : mg "_law_heard" = some (.ref g)
  gR : mg "BadRatio" = some (.ref BR)
  gT : mg "BadText" = some (.ref BT)
  xR : XfC K BR
  nR : PySem.W.findIn K (.ref BR) "part" = some none
  xT : XfC K BT
  nL : PySem.W.findIn K (.ref BT) "line" = some none
  nW : PySem.W.findIn K (.ref BT) "word" = some none
  e1 : PySem.W.exmOne K (.ref BR) (.ref BR) = some true
  e2 : PySem.W.exmOne K (.ref BT) (.ref BR) = some false
  e3 : PySem.W.exmOne K (.ref BT) (.ref BT) = some true
/-- _law_heard(lambda: body) -/
theorem pe_heard {X : Cx} {BR BT g c P : Addr} {fd : FuncData} {T : List (Addr × Str)} {k : Nat} {params : Arguments} {body : Expr} {scope : Scope} {t : XK → TE} {p lpos pos : Pos} (M : HearK X.K X.mg BR BT g fd) (TB : TabB X.base X.mg c P) (hcode : X.env.code = .ref c)
    (hmT : (P, X.env.qual ++ "<lambda>") ∈ T) (hu : ∀ p ∈ T, p.1 = P → p.2 = X.env.qual ++ "<lambda>") (hr : Room (k + 2) X.A) (hg : Gl X "_law_heard") (L : LamS X.env.scope scope) (hdef : defaultsOf params X.env = ([], []))
    (hbind : ∀ (q : Str) (cl : List (Str × Addr)) (pm cv ctv : Value), bindArgs (PySem.W.kla_fn "<lambda>" q params body scope cl pm cv ctv) ⟨[], []⟩ = pure [])
    (hbody : ∀ (A : Around) (outer : List Env) (s : Shared) (H : Hp) (E : XK) (f c' : Addr), Room k (A.deeper (lamEnv X scope s.heap.objs.size f c')) → PE (lamCx X A outer s H E scope f c') body (t E)) :
    PE X (.Call (.Name "_law_heard" p) [.Lambda params body scope lpos] [] pos) (tLam T (THear X.K BR BT) t) := by
  have b : L2.Binds X.K fd ["_law_ask"] [] := M.F.bindsN fun _ _ _ _ _ _ us hl => match us, hl with | [_], _ => rfl
  have kp := M.F.kp
  obtain ⟨oc, od, dV, kV, doc, pm, an, cdv, ct, osl, rfl, lk, hcd, _, _⟩ := M.F.ex
  exact pe_lamcall (Ng := nsH) hg M.gh kp lk hcd b scHe rfl (.inl rfl) (heard_gives M.gR M.gT M.xR M.nR M.xT M.nL M.nW) TB hcode hmT hu hr L hdef hbind hbody
theorem ExtN.same {H H' : Hp} (s : Same H H') : ExtN H H' := fun b o e _ => s b o e
theorem Tabs.same {T : List (Addr × Str)} {H H' : Hp} (t : Tabs T H) (s : Same H H') : Tabs T H' := t.ext s
theorem hear_ratio {X : Cx} {BR BT g : Addr} {fd : FuncData} (M : HearK X.K X.mg BR BT g fd) {H : Hp} {Q : VK} {part : Str} (k : ∀ p H2, Same H H2 → H2 p = some (.tup [.str "ratio", .str part]) → Q (.ref p) H2) : Rz H (HearW X.K BR BT Q) BR [("part", .str part)] := fun d H' s nd hd =>
  ⟨true, M.e1, fun _ => ⟨rfl, d, _, _, rfl, hd, rfl, fun p np => k p _ (s.trans (same_updR np)) upd_same⟩, fun z => by cases z⟩
theorem hear_text {X : Cx} {BR BT g : Addr} {fd : FuncData} (M : HearK X.K X.mg BR BT g fd) {H : Hp} {Q : VK} {l w : V} (k : ∀ p H2, Same H H2 → H2 p = some (.tup [.str "text", l, w]) → Q (.ref p) H2) : Rz H (HearW X.K BR BT Q) BT [("word", w), ("line", l)] := fun d H' s nd hd =>
  ⟨false, M.e2, fun z => (by cases z), fun _ => ⟨true, M.e3, fun _ => ⟨rfl, d, _, _, _, rfl, hd, rfl, rfl, fun p np => k p _ (s.trans (same_updR np)) upd_same⟩, fun z => by cases z⟩⟩
/-- a ratio's error is heard -/
theorem told_ratio {X : Cx} {BR BT g : Addr} {fd : FuncData} {T : List (Addr × Str)} (M : HearK X.K X.mg BR BT g fd) {t : XK → TE} {σ : L2.St} {H : Hp} {Q : VK} (part : Str) (hT : Tabs T H) (raise : ∀ (H1 : Hp) (E : XK) (Q' : VK), ExtN H H1 → Rz H1 E BR [("part", .str part)] → t E σ H1 Q')
    (k : ∀ p H2, ExtN H H2 → Tabs T H2 → H2 p = some (.tup [.str "ratio", .str part]) → Q (.ref p) H2) : tLam T (THear X.K BR BT) t σ H Q :=
  ⟨hT, fun H1 e1 T1 => raise H1 _ _ e1 (hear_ratio M fun p H2 s h => k p H2 (e1.trans (ExtN.same s)) (Tabs.same T1 s) h)⟩
theorem told_text {X : Cx} {BR BT g : Addr} {fd : FuncData} {T : List (Addr × Str)} (M : HearK X.K X.mg BR BT g fd) {t : XK → TE} {σ : L2.St} {H : Hp} {Q : VK} {l w : V} (hT : Tabs T H) (raise : ∀ (H1 : Hp) (E : XK) (Q' : VK), ExtN H H1 → Rz H1 E BT [("word", w), ("line", l)] → t E σ H1 Q')
    (k : ∀ p H2, ExtN H H2 → Tabs T H2 → H2 p = some (.tup [.str "text", l, w]) → Q (.ref p) H2) : tLam T (THear X.K BR BT) t σ H Q :=
  ⟨hT, fun H1 e1 T1 => raise H1 _ _ e1 (hear_text M fun p H2 s h => k p H2 (e1.trans (ExtN.same s)) (Tabs.same T1 s) h)⟩
theorem OddAt.extN {H H' : Hp} {y : V} {T : String} (h : OddAt H y T) (s : ExtN H H') : OddAt H' y T := by
  cases h with
  | non => exact .non
  | bl b => exact .bl b
  | str x => exact .str x
  | lst e => exact .lst (s _ _ e fun _ z => by cases z)
  | tup e => exact .tup (s _ _ e fun _ z => by cases z)
  | dK e => exact .dK (s _ _ e fun _ z => by cases z)
theorem RatAt.extN {H H' : Hp} {a C : Addr} {p q : Int} (h : RatAt H a C p q) (s : ExtN H H') : RatAt H' a C p q := let ⟨dx, e⟩ := h; ⟨dx, s _ _ e fun _ z => by cases z⟩
end K01
namespace K01
open PySem PySem.Spec PyProof.Rows L2 RatM TL LamX ClX
abbrev lamQ (x : Str) : Str := (x ++ ".<locals>.") ++ "<lambda>"
/-- what the last defs of the law rest on -/
structure RatY (P : Program) (w : World) (K : PySem.W.Frag) (mg : Str → Option Value) (base : Heap) (C BR BT gH : Addr) (fdH : FuncData) : Prop extends RatZ P w K mg base C BR BT where
  H : HearK K mg BR BT gH fdH
  ovK : ∃ (f : Addr) (fd : FuncData), Meth K C "over" f ∧ FnOk P w K mg base (L2.CX P w) 6 f fd ["self", "other"] (spOver K C BR) ∧ BindsKM fd "self" ["other"]
  beK : ∃ (f : Addr) (fd : FuncData), Meth K C "is_below" f ∧ FnOk P w K mg base (L2.CX P w) 8 f fd ["self", "other"] (spCmp K C BR fun s => .bl (decide (s < 0))) ∧ BindsKM fd "self" ["other"]
  ofK : ∃ (mc : Value) (p f : Addr) (fd : FuncData), CRead K C mc ∧ SMet K C mc "of" p f ∧ FnOk P w K mg base (L2.CX P w) 6 f fd ["value"] (spOf1 K C BR) ∧ BindsK fd ["value"]
  isR : ∃ (f : Addr) (fd : FuncData), FnOk P w K mg base CX0 2 f fd ["value"] (spIsR K C) ∧ Binds K fd ["value"] [] ∧ PySem.W.keepIn K (.ref f) = true ∧ mg "is_ratio" = some (.ref f)
  intK : ∃ (f : Addr) (fd : FuncData), FnOk P w K mg base CX0 1 f fd ["value"] (spIsI K) ∧ BindsK fd ["value"] ∧ PySem.W.keepIn K (.ref f) = true ∧ mg "is_integer" = some (.ref f)
  wnK : ∃ (f : Addr) (fd : FuncData), FnOk P w K mg base CX0 2 f fd ["value", "least", "most"] (spWn K) ∧ BindsK fd ["value", "least", "most"] ∧ PySem.W.keepIn K (.ref f) = true ∧ mg "is_within" = some (.ref f)
section
variable {P : Program} {w : World} {K : PySem.W.Frag} {mg : Str → Option Value} {base : Heap} {C BR BT gH PT : Addr} {fdH : FuncData}
abbrev nsRf : List Str := ["_law_till_here", "_law_ratio", "_law_odd", "_law_heard_here", "_law_due", "_law_part"]
theorem scRfd : FnScope nsRf ["_law_till_here", "_law_ratio"] (defScope (top 40)) := ⟨rfl, rfl, rfl, by decide +kernel, rfl, by decide +kernel, by decide +kernel⟩
def ExtB (t : Addr) (H H' : Hp) : Prop := ∀ b o, b ≠ t → H b = some o → (∀ ps, o ≠ .tbl ps) → H' b = some o
def spRef (C : Addr) (T : List (Addr × Str)) : Sp := fun vs H Q _ => ∃ (t r c : Addr) (cells : List Int) (i g p q : Int), vs = [.ref t, .ref r] ∧ Till H t c cells i g ∧ 0 ≤ i ∧ i ≤ 900000 ∧ 0 ≤ g ∧ RatAt H r C p q ∧ p.natAbs < 10 ^ 30 ∧ q.natAbs < 10 ^ 30 ∧ 0 < q ∧ Int.gcd p q = 1 ∧ Tabs T H ∧
  ∀ (i' g' : Int) (H' : Hp), 0 ≤ i' → i' ≤ i + 1 → 0 ≤ g' → ExtB t H H' → Tabs T H' → Till H' t c cells i' g' → Q (.bl true) H'
theorem pe_rat2K {X : Cx} {P : Program} {w : World} {K : PySem.W.Frag} {mg : Str → Option Value} {base : Heap} {C BR : Addr} {E : XK} {p pos : Pos} {e1 e2 : Expr} {ta : TA} (R : RatK P w K mg base C BR) (hr : Room 4 X.A) (hx : Passes (L2.CX X.prog X.w) X E) (hg : Gl X "Ratio") (ha : PA X [e1, e2] ta)
    (hX : X.prog = P ∧ X.w = w ∧ X.K = K ∧ X.mg = mg ∧ X.base = base := by exact ⟨rfl, rfl, rfl, rfl, rfl⟩)
    (he : starEach [e1, e2] X.env = (false, eval e1 X.env) :: starEach [e2] X.env := by rfl) (hpl : (backTo pos (starEach [e2] X.env)).any (·.1) = false := by rfl) :
    PE X (.Call (.Name "Ratio" p) [e1, e2] [] pos) (tRat2 K C BR E ta) := by
  obtain ⟨rfl, rfl, rfl, rfl, rfl⟩ := hX
  exact pe_rat2 R hr hx hg ha he hpl
theorem pe_rat1K {X : Cx} {P : Program} {w : World} {K : PySem.W.Frag} {mg : Str → Option Value} {base : Heap} {C BR : Addr} {E : XK} {p pos : Pos} {e1 : Expr} {ta : TA} (R : RatK P w K mg base C BR) (hr : Room 4 X.A) (hx : Passes (L2.CX X.prog X.w) X E) (hg : Gl X "Ratio") (ha : PA X [e1] ta)
    (hX : X.prog = P ∧ X.w = w ∧ X.K = K ∧ X.mg = mg ∧ X.base = base := by exact ⟨rfl, rfl, rfl, rfl, rfl⟩)
    (he : starEach [e1] X.env = (false, eval e1 X.env) :: starEach [] X.env := by rfl) (hpl : (backTo pos (starEach [] X.env)).any (·.1) = false := by rfl) :
    PE X (.Call (.Name "Ratio" p) [e1] [] pos) (tRat1 K C BR E ta) := by
  obtain ⟨rfl, rfl, rfl, rfl, rfl⟩ := hX
  exact pe_rat1 R hr hx hg ha he hpl
/-- a tuple ('ratio', d) -/
def TupR (H : Hp) (v : V) (d : Str) : Prop := ∃ p, v = .ref p ∧ H p = some (.tup [.str "ratio", .str d])
theorem TupR.extN {H H' : Hp} {v : V} {d : Str} (h : TupR H v d) (s : ExtN H H') : TupR H' v d := let ⟨p, e, h⟩ := h; ⟨p, e, s _ _ h fun _ z => by cases z⟩
theorem tups_ext {H H' : Hp} (s : ∀ v d, TupR H v d → TupR H' v d) : ∀ {vs : List V} {ds : List Str}, Paired (TupR H) vs ds → Paired (TupR H') vs ds
  | _, _, .nil => .nil
  | _, _, .cons h t => .cons (s _ _ h) (tups_ext s t)
theorem tups_app {H : Hp} : ∀ {vs ws : List V} {ds es : List Str}, Paired (TupR H) vs ds → Paired (TupR H) ws es → Paired (TupR H) (vs ++ ws) (ds ++ es)
  | _, _, _, _, .nil, h2 => h2
  | _, _, _, _, .cons h t, h2 => .cons h (tups_app t h2)
theorem dp_tups {K : PySem.W.Frag} {H : Hp} : ∀ {vs : List V} {ds : List Str}, Paired (TupR H) vs ds → DpAll K H vs (ds.map fun d => .tuple [.str "ratio", .str d])
  | _, _, .nil => .nil
  | _, _, .cons ⟨p, e, h⟩ t => .cons (by rw [e]; exact .tup (SqT.of h) (.cons (.str _) (.cons (.str _) .nil))) (dp_tups t)
/-- the items of a display, each heard, in order -/
def Tells (T : List (Addr × Str)) (σ : L2.St) (Pre : Hp → Prop) (ta : TA) (ds : List Str) : Prop := ∀ (H : Hp) (Q : List V → Hp → Prop), Tabs T H → Pre H → (∀ vs H2, ExtN H H2 → Tabs T H2 → Paired (TupR H2) vs ds → Q vs H2) → ta σ H Q
theorem tells_nil {T : List (Addr × Str)} {σ : L2.St} {Pre : Hp → Prop} : Tells T σ Pre tNil [] := fun H Q hT _ k => k [] H (ExtN.refl H) hT .nil
theorem tells_cons {K : PySem.W.Frag} {mg : Str → Option Value} {BR BT g : Addr} {fd : FuncData} {T : List (Addr × Str)} (M : HearK K mg BR BT g fd) {σ : L2.St} {Pre : Hp → Prop} {t : XK → TE} {ta : TA} {d : Str} {ds : List Str} (st : ∀ H H', Pre H → ExtN H H' → Pre H')
    (raise : ∀ (H1 : Hp) (E : XK) (Q' : VK), Pre H1 → Rz H1 E BR [("part", .str d)] → t E σ H1 Q') (r : Tells T σ Pre ta ds) : Tells T σ Pre (tCons (tLam T (THear K BR BT) t) ta) (d :: ds) := fun H Q hT hp k =>
  ⟨hT, fun H1 e1 T1 => raise H1 _ _ (st _ _ hp e1) fun d' H' s nd hd => ⟨true, M.e1, fun _ => ⟨rfl, d', _, _, rfl, hd, rfl, fun p np => by
    have s2 := s.trans (same_updR (o := .tup [.str "ratio", .str d]) np)
    have e2 := e1.trans (ExtN.same s2)
    refine r _ _ (Tabs.same T1 s2) (st _ _ hp e2) fun vs H2 e3 T3 pv => k _ H2 (e2.trans e3) T3 (.cons ⟨p, rfl, e3 _ _ upd_same fun _ z => by cases z⟩ pv)⟩, fun z => by cases z⟩⟩
theorem tabs_upd {T : List (Addr × Str)} {H : Hp} {L : Addr} {o : HO} (h : Tabs T H) (n : H L = none ∨ ∃ xs, H L = some (.lst xs)) : Tabs T (upd H L o) := fun p hp => by
  obtain ⟨ps, h1, h2, h3⟩ := h p hp
  have ne : ∀ {b : Addr} {u : HO}, H b = some u → (∀ xs, u ≠ .lst xs) → b ≠ L := fun {b u} e q z => by
    rw [z] at e
    rcases n with n | ⟨xs, n⟩ <;> rw [n] at e <;> cases e
    exact q _ rfl
  refine ⟨ps, by rw [upd_ne (ne h1 fun _ z => by cases z)]; exact h1, h2, fun pos cv hc => ?_⟩
  obtain ⟨c, e1, e2⟩ := h3 pos cv hc
  exact ⟨c, e1, by rw [upd_ne (ne e2 fun _ z => by unfold CodeO at z; cases z)]; exact e2⟩
/-- L is none of H's objects, tables left aside -/
def NoT (H : Hp) (L : Addr) : Prop := ∀ o, H L = some o → ∃ ps, o = .tbl ps
theorem NoT.of {H0 H : Hp} {L : Addr} (e : ExtN H0 H) (n : H L = none) : NoT H0 L := fun o h => by
  by_cases q : ∀ ps, o ≠ .tbl ps
  · rw [e _ _ h q] at n
    cases n
  · exact Classical.byContradiction fun z => q fun ps y => z ⟨ps, y⟩
theorem NoT.ne {H0 : Hp} {L b : Addr} {u : HO} (n : NoT H0 L) (h : H0 b = some u) (q : ∀ ps, u ≠ .tbl ps) : b ≠ L := fun z => by
  obtain ⟨ps, y⟩ := n u (by rw [← z]; exact h)
  exact q ps y
theorem extN_upd {H0 H : Hp} {L : Addr} {o : HO} (e : ExtN H0 H) (n : NoT H0 L) : ExtN H0 (upd H L o) := fun b u h q => by rw [upd_ne (n.ne h q)]; exact e b u h q
/-- the list at L holds what was heard; H0: the heap ahead of it -/
def HeardL (T : List (Addr × Str)) (H0 : Hp) (L : Addr) (ds : List Str) (H : Hp) : Prop := ExtN H0 H ∧ Tabs T H ∧ NoT H0 L ∧ ∃ vs, H L = some (.lst vs) ∧ Paired (TupR H) vs ds
theorem heard_start {T : List (Addr × Str)} {σ : L2.St} {Pre : Hp → Prop} {ta : TA} {ds : List Str} {H0 : Hp} {Q : VK} (r : Tells T σ Pre ta ds) (hT : Tabs T H0) (hp : Pre H0) (hz : ds.length ≤ 1000) (k : ∀ L H, HeardL T H0 L ds H → Q (.ref L) H) : tLst ta σ H0 Q :=
  r H0 _ hT hp fun vs H2 e2 T2 pv => ⟨by have := Paired.length pv; rw [sizeLine_eq]; omega, fun L nL => k L _ ⟨extN_upd e2 (NoT.of e2 nL), tabs_upd T2 (.inl nL), NoT.of e2 nL, vs, upd_same, tups_ext (fun v d => fun ⟨p, e, hp⟩ => ⟨p, e, by rw [upd_ne (ne_of_none hp nL)]; exact hp⟩) pv⟩⟩
theorem heard_more {T : List (Addr × Str)} {σ : L2.St} {Pre : Hp → Prop} {ta : TA} {ds es : List Str} {H0 H : Hp} {L : Addr} {Q : VK} (h : HeardL T H0 L ds H) (r : Tells T σ Pre ta es) (hp : Pre H) (hz : ds.length ≤ 1000) (hy : es.length ≤ 1000)
    (k : ∀ H', HeardL T H0 L (ds ++ es) H' → Q .non H') : tCons (tLst ta) tNil σ H fun vs H2 => rExtend (.ref L) vs H2 Q := by
  obtain ⟨e0, T0, n0, vs, hL, pv⟩ := h
  refine r H _ T0 hp fun ws H2 e2 T2 pw => ?_
  have l1 := Paired.length pv
  have l2 := Paired.length pw
  have hL2 : H2 L = some (.lst vs) := e2 _ _ hL fun _ z => by cases z
  refine ⟨by rw [sizeLine_eq]; omega, fun D nD => ?_⟩
  have nDL : D ≠ L := fun z => by rw [z, hL2] at nD; cases nD
  refine ⟨L, D, vs, ws, rfl, rfl, by rw [upd_ne nDL.symm]; exact hL2, upd_same, by rw [sizeLine_eq]; omega, k _ ?_⟩
  have keep : ∀ v d, TupR H2 v d → TupR (upd (upd H2 D (.lst ws)) L (.lst (vs ++ ws))) v d := fun v d => fun ⟨p, e, hp⟩ => ⟨p, e, by
    rw [upd_ne (fun z => by rw [z, hL2] at hp; cases hp), upd_ne (ne_of_none hp nD)]; exact hp⟩
  refine ⟨extN_upd (extN_upd (e0.trans e2) (NoT.of (e0.trans e2) nD)) n0, tabs_upd (tabs_upd T2 (.inl nD)) (.inr ⟨vs, by rw [upd_ne nDL.symm]; exact hL2⟩), n0, _, upd_same, tups_app (tups_ext (fun v d h => keep v d (h.extN e2)) pv) (tups_ext keep pw)⟩
def duL : List Str := ["top", "bottom", "top", "bottom", "other", "other", "other", "other", "other", "other", "other", "other", "value", "ratios"]
theorem ok_refused {f fO fC fL fI : Addr} {fd fdO fdC fdL fdI : FuncData} {T : List (Addr × Str)} (F : FnP K "_law_refused_right" (top 40) f fd) (R : RatY P w K mg base C BR BT gH fdH) (B : Blt mg) (bR : mg "range" = none) (bB : mg "bool" = none) (TB : TabB base mg (He.codeOf K ("_law_refused_right", none)) PT) (fx : He.fAd K ("_law_refused_right", none) = f)
    (hmT : (PT, lamQ "_law_refused_right") ∈ T) (hu : ∀ p ∈ T, p.1 = PT → p.2 = lamQ "_law_refused_right")
    (gC : mg "_law_coin" = some (.ref fC)) (FC : FnP K "_law_coin" sCoin fC fdC) (FOf : FnP K "_law_of" sOf fO fdO) (gOf : mg "_law_of" = some (.ref fO)) (FL : FnP K "_law_lowest" (top 34) fL fdL) (gL : mg "_law_lowest" = some (.ref fL)) (FI : FnP K "_law_is" (top 35) fI fdI) (gI : mg "_law_is" = some (.ref fI)) :
    FnOk P w K mg base CX0 12 f fd ["_law_till_here", "_law_ratio"] (spRef C T) := by
  have GL : FnOk P w K mg base CX0 1 fL fdL ["_law_top", "_law_bottom_here"] spLow := ok_lowest FL B bR
  have bL : Binds K fdL ["_law_top", "_law_bottom_here"] [] := FL.bindsN fun _ _ _ _ _ _ us hl => match us, hl with | [_, _], _ => rfl
  have GI : FnOk P w K mg base CX0 1 fI fdI ["_law_ratio", "_law_pair"] (spIs K C) := ok_is FI R.toRatK bB
  have bI : Binds K fdI ["_law_ratio", "_law_pair"] [] := FI.bindsN fun _ _ _ _ _ _ us hl => match us, hl with | [_, _], _ => rfl
  have GOf : FnOk P w K mg base CX0 2 fO fdO ["_law_till_here", "_law_some"] spOf := ok_of FOf B gC FC
  have bOf : Binds K fdO ["_law_till_here", "_law_some"] [] := FOf.bindsN fun _ _ _ _ _ _ us hl => match us, hl with | [_, _], _ => rfl
  obtain ⟨fA, fdA, OA, GA, bA⟩ := R.add
  obtain ⟨fS, fdS, OS, GS, bS⟩ := R.sub
  obtain ⟨fM, fdM, OM, GM, bM⟩ := R.mul
  obtain ⟨fCm, fdCm, MC, GC, bC⟩ := R.cmp
  obtain ⟨fB, fdB, MB, GB, bBe⟩ := R.be
  obtain ⟨fOv, fdOv, MO, GO, bO⟩ := R.ov
  obtain ⟨fE, fdE, ME, GE, bE⟩ := R.eq
  obtain ⟨fD, GD, kD, gD⟩ := R.ad
  obtain ⟨mc2, pO1, fO1, fdO1, cr2, sm, GO1, bO1⟩ := R.of_
  obtain ⟨fIR, fdIR, GIR, bIR, kIR, gIR⟩ := R.isR
  obtain ⟨fOK, fdOK, MOK, GOK, bOK⟩ := R.ovK
  obtain ⟨fBK, fdBK, MBK, GBK, bBK⟩ := R.beK
  obtain ⟨mc3, pOFK, fOFK, fdOFK, cr3, smK, GOFK, bOFK⟩ := R.ofK
  obtain ⟨fIK, fdIK, GIK, bIK, kIK, gIK⟩ := R.intK
  obtain ⟨fWK, fdWK, GWK, bWK, kWK, gWK⟩ := R.wnK
  have cl := R.T.cls
  refine okC F scRfd (fun vs H Q E h => ?_) (fun c hcd A outer s H vs Q E hr h => ?_)
  · obtain ⟨t, r, cs, cells, i, g, p, q, rfl, _⟩ := h
    rfl
  · obtain ⟨t, r, cs, cells, i, g, p, q, rfl, hT, hi0, hi1, hg, hr_, zp, zq, q0, gpq, hTb, k⟩ := h
    obtain rfl := hcd _ fx
    have hr11 : Room 11 _ := hr
    have hr2 : Room 2 _ := hr11.mono (by decide)
    refine ⟨_, PSs.nox (pss_cons (ps_set (i := 2) scRfd.nd rfl (.inr rfl) (pe_call GOf hr2 rfl gOf FOf.kp bOf .nil pass0 (pa_cons (pv 0) (pa_cons (pe_lst (pa_cons pe_non (pa_cons pe_bl (pa_cons pe_bl (pa_cons pe_str (pa_cons pe_str (pa_cons (pe_lst (pa_cons pe_int pa_nil)) (pa_cons (pe_tup (pa_cons pe_int (pa_cons pe_int pa_nil))) (pa_cons pe_dnewK pa_nil))))))))) pa_nil))))
      (pss_cons (ps_set (i := 3) scRfd.nd rfl (.inl rfl) (pe_lst (pa_cons (pe_heard (k := 9) R.H TB rfl hmT hu hr11 rfl (lamS_by (sc := defScope (top 40)) (by decide +kernel)) rfl (fun _ _ _ _ _ => rfl) (fun A outer s H E f c' hr9 => pe_rat2K R.toRatK (hr9.mono (by decide)) (E := E) (passE (takes_of rfl rfl rfl rfl)) rfl (pa_cons (pv 2) (pa_cons (pv 2) pa_nil)))) (pa_cons (pe_heard (k := 9) R.H TB rfl hmT hu hr11 rfl (lamS_by (sc := defScope (top 40)) (by decide +kernel)) rfl (fun _ _ _ _ _ => rfl) (fun A outer s H E f c' hr9 => pe_rat2K R.toRatK (hr9.mono (by decide)) (E := E) (passE (takes_of rfl rfl rfl rfl)) rfl (pa_cons pe_int (pa_cons (pv 2) pa_nil)))) (pa_cons (pe_heard (k := 9) R.H TB rfl hmT hu hr11 rfl (lamS_by (sc := defScope (top 40)) (by decide +kernel)) rfl (fun _ _ _ _ _ => rfl) (fun A outer s H E f c' hr9 => pe_rat2K R.toRatK (hr9.mono (by decide)) (E := E) (passE (takes_of rfl rfl rfl rfl)) rfl (pa_cons (pv 2) (pa_cons pe_int pa_nil)))) pa_nil)))))
      (pss_cons (ps_expr (pe_bm PySem.F.plainAttrs_list PySem.F.slot_list_extend PySem.F.type_list_extend mt_extend (pv 3) (pa_cons (pe_lst (pa_cons (pe_heard (k := 9) R.H TB rfl hmT hu hr11 rfl (lamS_by (sc := defScope (top 40)) (by decide +kernel)) rfl (fun _ _ _ _ _ => rfl) (fun A outer s H E f c' hr9 => pe_rat2K R.toRatK (hr9.mono (by decide)) (E := E) (passE (takes_of rfl rfl rfl rfl)) rfl (pa_cons pe_int (pa_cons pe_int pa_nil)))) (pa_cons (pe_heard (k := 9) R.H TB rfl hmT hu hr11 rfl (lamS_by (sc := defScope (top 40)) (by decide +kernel)) rfl (fun _ _ _ _ _ => rfl) (fun A outer s H E f c' hr9 => pe_op (op_rat (op := .Add) R.sf R.odd OA GA bA (hr9.mono (by decide)) (E := E) (passE (takes_of rfl rfl rfl rfl))) (pv 1) (pv 2))) (pa_cons (pe_heard (k := 9) R.H TB rfl hmT hu hr11 rfl (lamS_by (sc := defScope (top 40)) (by decide +kernel)) rfl (fun _ _ _ _ _ => rfl) (fun A outer s H E f c' hr9 => pe_op (op_rat (op := .Sub) R.sf R.odd OS GS bS (hr9.mono (by decide)) (E := E) (passE (takes_of rfl rfl rfl rfl))) (pv 1) (pv 2))) pa_nil)))) pa_nil)))
      (pss_cons (ps_expr (pe_bm PySem.F.plainAttrs_list PySem.F.slot_list_extend PySem.F.type_list_extend mt_extend (pv 3) (pa_cons (pe_lst (pa_cons (pe_heard (k := 9) R.H TB rfl hmT hu hr11 rfl (lamS_by (sc := defScope (top 40)) (by decide +kernel)) rfl (fun _ _ _ _ _ => rfl) (fun A outer s H E f c' hr9 => pe_op (op_rat (op := .Mult) R.sf R.odd OM GM bM (hr9.mono (by decide)) (E := E) (passE (takes_of rfl rfl rfl rfl))) (pv 1) (pv 2))) (pa_cons (pe_heard (k := 9) R.H TB rfl hmT hu hr11 rfl (lamS_by (sc := defScope (top 40)) (by decide +kernel)) rfl (fun _ _ _ _ _ => rfl) (fun A outer s H E f c' hr9 => pe_meth (pv 1) cl MC GC (hr9.mono (by decide)) bC .nil (E := E) (passE (takes_of rfl rfl rfl rfl)) (pa_cons (pv 2) pa_nil))) (pa_cons (pe_heard (k := 9) R.H TB rfl hmT hu hr11 rfl (lamS_by (sc := defScope (top 40)) (by decide +kernel)) rfl (fun _ _ _ _ _ => rfl) (fun A outer s H E f c' hr9 => pe_meth (pv 1) cl MB GB (hr9.mono (by decide)) bBe .nil (E := E) (passE (takes_of rfl rfl rfl rfl)) (pa_cons (pv 2) pa_nil))) pa_nil)))) pa_nil)))
      (pss_cons (ps_expr (pe_bm PySem.F.plainAttrs_list PySem.F.slot_list_extend PySem.F.type_list_extend mt_extend (pv 3) (pa_cons (pe_lst (pa_cons (pe_heard (k := 9) R.H TB rfl hmT hu hr11 rfl (lamS_by (sc := defScope (top 40)) (by decide +kernel)) rfl (fun _ _ _ _ _ => rfl) (fun A outer s H E f c' hr9 => pe_meth (pv 1) cl MO GO (hr9.mono (by decide)) bO .nil (E := E) (passE (takes_of rfl rfl rfl rfl)) (pa_cons (pv 2) pa_nil))) (pa_cons (pe_heard (k := 9) R.H TB rfl hmT hu hr11 rfl (lamS_by (sc := defScope (top 40)) (by decide +kernel)) rfl (fun _ _ _ _ _ => rfl) (fun A outer s H E f c' hr9 => pe_meth (pv 1) cl MO GO (hr9.mono (by decide)) bO .nil (E := E) (passE (takes_of rfl rfl rfl rfl)) (pa_cons pe_int pa_nil))) (pa_cons (pe_heard (k := 9) R.H TB rfl hmT hu hr11 rfl (lamS_by (sc := defScope (top 40)) (by decide +kernel)) rfl (fun _ _ _ _ _ => rfl) (fun A outer s H E f c' hr9 => pe_meth (pv 1) cl MO GO (hr9.mono (by decide)) bO .nil (E := E) (passE (takes_of rfl rfl rfl rfl)) (pa_cons (pe_rat1K R.toRatK (hr9.mono (by decide)) (E := E0) passL rfl (pa_cons pe_int pa_nil)) pa_nil))) pa_nil)))) pa_nil)))
      (pss_cons (ps_expr (pe_bm PySem.F.plainAttrs_list PySem.F.slot_list_extend PySem.F.type_list_extend mt_extend (pv 3) (pa_cons (pe_lst (pa_cons (pe_heard (k := 9) R.H TB rfl hmT hu hr11 rfl (lamS_by (sc := defScope (top 40)) (by decide +kernel)) rfl (fun _ _ _ _ _ => rfl) (fun A outer s H E f c' hr9 => pe_smeth (pe_glob (v := .ref _) rfl R.g rfl) cr2 sm GO1 (hr9.mono (by decide)) bO1 (E := E) (passE (takes_of rfl rfl rfl rfl)) (pa_cons (pv 2) pa_nil))) (pa_cons (pe_heard (k := 9) R.H TB rfl hmT hu hr11 rfl (lamS_by (sc := defScope (top 40)) (by decide +kernel)) rfl (fun _ _ _ _ _ => rfl) (fun A outer s H E f c' hr9 => pe_callR GD (hr9.mono (by decide)) rfl gD kD (E := E) (passE (takes_of rfl rfl rfl rfl)) (pa_cons (pv 1) (pa_cons pe_int (pa_cons (pv 2) pa_nil))))) pa_nil))) pa_nil)))
      (pss_cons (ps_set (i := 4) scRfd.nd rfl (.inl rfl) (pe_lst (pa_cons pe_str (pa_cons pe_str (pa_cons pe_str (pa_cons pe_str (pa_cons pe_str (pa_cons pe_str (pa_cons pe_str (pa_cons pe_str (pa_cons pe_str (pa_cons pe_str (pa_cons pe_str (pa_cons pe_str (pa_cons pe_str (pa_cons pe_str pa_nil))))))))))))))))
      (pss_cons (ps_if (PW.pt (pw_or (pt_cmpR (op_neD hr11.units) (pv 3) (pe_lc (own := [("_law_part", 5)]) (g := gName 5) (tt := tYes) rfl scRfd.nd (pi_list (pv 4)) (blkOk_by (N := nsRf) (sc := defScope (top 40)) (by decide +kernel)) (fun _ _ _ _ _ => pg_name (i := 5) scRfd.nd rfl (Or.inl rfl)) (fun _ _ _ _ _ => pts_nil) (fun _ _ _ _ _ => pe_tup (pa_cons pe_str (pa_cons (pv 5) pa_nil)))) (nomark _)) (pw_or (pt_val (pe_call GIR (hr11.mono (by decide)) rfl gIR kIR bIR .nil pass0 (pa_cons (pv 2) pa_nil))) (pw_or (pt_not (pt_val (pe_call GIR (hr11.mono (by decide)) rfl gIR kIR bIR .nil pass0 (pa_cons (pv 1) pa_nil)))) (pw_or1 (pt_not (pt_val (pe_call GIR (hr11.mono (by decide)) rfl gIR kIR bIR .nil pass0 (pa_cons pe_int pa_nil))))))))) (pss_one (ps_ret pe_bl)) pss_nil)
      (pss_cons (ps_if (PW.pt (pw_or (pt_not (pt_val (pe_callB call_isi (by rfl) R.bi (by decide +kernel) (pa_cons (pe_callR0 GD (hr11.mono (by decide)) rfl gD kD (E := E0) passL) (pa_cons (pe_glob (v := .ref _) rfl R.g rfl) pa_nil))))) (pw_or (pt_not (pt_val (pe_callB call_isi (by rfl) R.bi (by decide +kernel) (pa_cons (pe_callR GD (hr11.mono (by decide)) rfl gD kD (E := E0) passL (pa_cons pe_int (pa_cons pe_int pa_nil))) (pa_cons (pe_glob (v := .ref _) rfl R.g rfl) pa_nil))))) (pw_or (pt_cmpR (op_neOwn ME R.ne R.ob GE (hr11.mono (by decide)) bE (E := E0) pass0) (pe_callR0 GD (hr11.mono (by decide)) rfl gD kD (E := E0) passL) pe_int (nomark _)) (pw_or1 (pt_cmpR (op_neOwn ME R.ne R.ob GE (hr11.mono (by decide)) bE (E := E0) pass0) (pe_callR GD (hr11.mono (by decide)) rfl gD kD (E := E0) passL (pa_cons pe_int (pa_cons pe_int pa_nil))) pe_int (nomark _))))))) (pss_one (ps_ret pe_bl)) pss_nil)
      (pss_cons (ps_if (PW.pt (pw_or (pt_not (pt_val (pe_call GI (hr11.mono (by decide)) rfl gI FI.kp bI .nil pass0 (pa_cons (pe_methK0 (pv 1) cl MOK GOK (hr11.mono (by decide)) bOK (E := E0) passL (pk_cons pe_int pk_nil)) (pa_cons (pe_call GL (hr11.mono (by decide)) rfl gL FL.kp bL .nil pass0 (pa_cons (pe_fld (pv 1) rfl) (pa_cons (pe_op op_mulW pe_int (pe_fld (pv 1) rfl)) pa_nil))) pa_nil))))) (pw_or (pt_cmpR (op_neOwn ME R.ne R.ob GE (hr11.mono (by decide)) bE (E := E0) pass0) (pe_smethK0 (pe_glob (v := .ref _) rfl R.g rfl) cr3 smK GOFK (hr11.mono (by decide)) bOFK (E := E0) passL (pk_cons pe_int pk_nil)) pe_int (nomark _)) (pw_or1 (pt_val (pe_methK0 (pv 1) cl MBK GBK (hr11.mono (by decide)) bBK (E := E0) passL (pk_cons (pv 1) pk_nil))))))) (pss_one (ps_ret pe_bl)) pss_nil)
      (pss_one (ps_ret (pe_and (pe_not (pe_callK0 GIK (hr11.mono (by decide)) rfl gIK kIK bIK pass0 (pk_cons (pv 2) pk_nil))) (pe_one (pe_not (pe_callK0 GWK (hr11.mono (by decide)) rfl gWK kWK bWK pass0 (pk_cons (pv 2) (pk_cons pe_non (pk_cons pe_non pk_nil))))))))))))))))))), ?_⟩
    refine ⟨_, rfl, by rw [sizeLine_eq]; show 1 ≤ 16777216; decide, fun pl nl => ⟨by rw [sizeLine_eq]; show 2 ≤ 16777216; decide, fun pt nt pd nd => ⟨by rw [sizeLine_eq]; show 8 ≤ 16777216; decide, fun po no => ?_⟩⟩⟩
    have sl := same_updR (o := .lst [.int 1]) nl
    have st := same_updR (o := .tup [.int 1, .int 2]) nt
    have sd := same_updR (o := .dK []) nd
    have so := same_updR (o := .lst [.non, .bl true, .bl false, .str "1", .str "1/2", .ref pl, .ref pt, .ref pd]) no
    have hl2 := so _ _ (sd _ _ (st _ _ (upd_same (H := H) (a := pl) (o := .lst [.int 1]))))
    have ht2 := so _ _ (sd _ _ (upd_same (H := upd H pl (.lst [.int 1])) (a := pt) (o := .tup [.int 1, .int 2])))
    have hd2 := so _ _ (upd_same (H := upd (upd H pl (.lst [.int 1])) pt (.tup [.int 1, .int 2])) (a := pd) (o := .dK []))
    have ho2 : upd (upd (upd (upd H pl (.lst [.int 1])) pt (.tup [.int 1, .int 2])) pd (.dK [])) po (.lst [.non, .bl true, .bl false, .str "1", .str "1/2", .ref pl, .ref pt, .ref pd]) po = some (.lst [.non, .bl true, .bl false, .str "1", .str "1/2", .ref pl, .ref pt, .ref pd]) := upd_same
    have sx := sl.trans (st.trans (sd.trans so))
    have n1 : pl ≠ t := (ne_of_none hT.ht nl).symm
    have n2 : pt ≠ t := (ne_of_none (sl _ _ hT.ht) nt).symm
    have n3 : pd ≠ t := (ne_of_none (st _ _ (sl _ _ hT.ht)) nd).symm
    have n4 : po ≠ t := (ne_of_none (sd _ _ (st _ _ (sl _ _ hT.ht))) no).symm
    have n5 : r ≠ t := fun z => by
      obtain ⟨dx, e⟩ := hr_
      rw [z, hT.ht] at e; cases e
    clear sl st sd so nl nt nd no
    generalize upd (upd (upd (upd H pl (.lst [.int 1])) pt (.tup [.int 1, .int 2])) pd (.dK [])) po (.lst [.non, .bl true, .bl false, .str "1", .str "1/2", .ref pl, .ref pt, .ref pd]) = H5 at hl2 ht2 hd2 ho2 sx ⊢
    refine ⟨t, cs, po, cells, i, g, _, rfl, hT.same sx, hi0, by omega, hg, n4, ho2, by show 0 < 8; decide, by show 8 ≤ 10000; decide, fun y i1 g1 H6 hy i10 i11 g10 k1 T1 => ?_⟩
    obtain ⟨Ty, ho⟩ : ∃ Ty, OddAt H6 y Ty := by
      simp only [List.mem_cons, List.not_mem_nil, or_false] at hy
      rcases hy with rfl | rfl | rfl | rfl | rfl | rfl | rfl | rfl
      · exact ⟨_, .non⟩
      · exact ⟨_, .bl _⟩
      · exact ⟨_, .bl _⟩
      · exact ⟨_, .str _⟩
      · exact ⟨_, .str _⟩
      · exact ⟨_, .lst (k1 _ _ n1 hl2)⟩
      · exact ⟨_, .tup (k1 _ _ n2 ht2)⟩
      · exact ⟨_, .dK (k1 _ _ n3 hd2)⟩
    have hr6 : RatAt H6 r C p q := by
      obtain ⟨dx, e⟩ := hr_
      exact ⟨dx, k1 _ _ n5 (sx _ _ e)⟩
    have T6 : Tabs T H6 := fun x hx => by
      have ne : ∀ {b : Addr} {u : HO}, H5 b = some u → (∀ xs, u ≠ .lst xs) → b ≠ t := fun {b u} e q z => by
        rw [z, (hT.same sx).ht] at e
        cases e
        exact q _ rfl
      obtain ⟨ps, h1, h2, h3⟩ := (Tabs.same hTb sx) x hx
      refine ⟨ps, k1 _ _ (ne h1 fun _ z => by cases z) h1, h2, fun pos cv hc => ?_⟩
      obtain ⟨c, e1, e2⟩ := h3 pos cv hc
      exact ⟨c, e1, k1 _ _ (ne e2 fun _ z => by unfold CodeO at z; cases z) e2⟩
    replace k : ∀ H', ExtN H6 H' → Tabs T H' → Q (.bl true) H' := fun H' e T' => k i1 g1 H' i10 i11 g10 (fun b o nb hb q => e _ _ (k1 _ _ nb (sx _ _ hb)) q) T' ⟨e _ _ T1.ht (fun _ z => by cases z), e _ _ T1.hc (fun _ z => by cases z), T1.ne⟩
    clear hl2 ht2 hd2 ho2 sx n1 n2 n3 n4 n5 k1 hr_ hTb hT hy T1
    have sp : Sz p := s1_sz (s1_ten zp)
    have sq : Sz q := s1_sz (s1_ten zq)
    have qn : q ≠ 0 := by omega
    have pre0 : OddAt H6 y Ty ∧ RatAt H6 r C p q := ⟨ho, hr6⟩
    have stb : ∀ H H', (OddAt H y Ty ∧ RatAt H r C p q) → ExtN H H' → (OddAt H' y Ty ∧ RatAt H' r C p q) := fun H H' h e => ⟨h.1.extN e, h.2.extN e⟩
    have i0 : IntIs K H6 y false := (ho.notNum R.odd).2
    dsimp only [gName, tNext, tSeq, tAsg]
    refine heard_start (Pre := fun H => OddAt H y Ty ∧ RatAt H r C p q) (ds := ["top", "bottom", "top"]) (tells_cons R.H stb (fun H1 E Q' hp rz => ?_) (tells_cons R.H stb (fun H1 E Q' hp rz => ?_) (tells_cons R.H stb (fun H1 E Q' hp rz => ?_) tells_nil))) T6 pre0 (by decide) fun L H7 h7 => ?_
    · exact ⟨_, rfl, _, rfl, _, _, rfl, .inr (.inl ⟨(hp.1.notNum R.odd).2, rz⟩)⟩
    · exact ⟨_, rfl, _, _, rfl, .inr (.inr ⟨1, rfl, .inl (hp.1.notNum R.odd).2, rz⟩)⟩
    · exact ⟨_, rfl, _, _, rfl, .inr (.inl ⟨(hp.1.notNum R.odd).2, rz⟩)⟩
    have look : ∀ {ds : List Str} {H : Hp}, HeardL T H6 L ds H → ∃ vs, H L = some (.lst vs) := fun h => let ⟨_, _, _, vs, e, _⟩ := h; ⟨vs, e⟩
    have preL : ∀ {ds : List Str} {H : Hp}, HeardL T H6 L ds H → (OddAt H y Ty ∧ RatAt H r C p q) := fun h => stb _ _ pre0 h.1
    obtain ⟨v7, e7⟩ := look h7
    refine ⟨_, rfl, .inl ⟨rfl, _, SqL.of e7⟩, heard_more (Pre := fun H => OddAt H y Ty ∧ RatAt H r C p q) (es := ["bottom", "other", "other"]) h7 (tells_cons R.H stb (fun H1 E Q' hp rz => ?_) (tells_cons R.H stb (fun H1 E Q' hp rz => ?_) (tells_cons R.H stb (fun H1 E Q' hp rz => ?_) tells_nil))) (preL h7) (by decide) (by decide) fun H8 h8 => ?_⟩
    · exact ⟨_, _, rfl, .inr (.inr ⟨3, rfl, .inr rfl, rz⟩)⟩
    · exact ⟨_, rfl, _, rfl, r, p, q, rfl, hp.2, sp, sq, qn, .inr ⟨Ty, hp.1, rz⟩⟩
    · exact ⟨_, rfl, _, rfl, r, p, q, rfl, hp.2, sp, sq, qn, .inr ⟨Ty, hp.1, rz⟩⟩
    obtain ⟨v8, e8⟩ := look h8
    refine ⟨_, rfl, .inl ⟨rfl, _, SqL.of e8⟩, heard_more (Pre := fun H => OddAt H y Ty ∧ RatAt H r C p q) (es := ["other", "other", "other"]) h8 (tells_cons R.H stb (fun H1 E Q' hp rz => ?_) (tells_cons R.H stb (fun H1 E Q' hp rz => ?_) (tells_cons R.H stb (fun H1 E Q' hp rz => ?_) tells_nil))) (preL h8) (by decide) (by decide) fun H9 h9 => ?_⟩
    · exact ⟨_, rfl, _, rfl, r, p, q, rfl, hp.2, sp, sq, qn, .inr ⟨Ty, hp.1, rz⟩⟩
    · obtain ⟨dx, ea⟩ := id hp.2
      exact ⟨_, rfl, r, dx, _, rfl, ea, lookF _ _ _ (by decide), _, rfl, r, y, p, q, rfl, hp.2, sp, sq, q0, .inr ⟨Ty, hp.1, rz⟩⟩
    · obtain ⟨dx, ea⟩ := id hp.2
      exact ⟨_, rfl, r, dx, _, rfl, ea, lookF _ _ _ (by decide), _, rfl, r, y, p, q, rfl, hp.2, sp, sq, q0, .inr ⟨Ty, hp.1, rz⟩⟩
    obtain ⟨v9, e9⟩ := look h9
    refine ⟨_, rfl, .inl ⟨rfl, _, SqL.of e9⟩, heard_more (Pre := fun H => OddAt H y Ty ∧ RatAt H r C p q) (es := ["other", "other", "other"]) h9 (tells_cons R.H stb (fun H1 E Q' hp rz => ?_) (tells_cons R.H stb (fun H1 E Q' hp rz => ?_) (tells_cons R.H stb (fun H1 E Q' hp rz => ?_) tells_nil))) (preL h9) (by decide) (by decide) fun H10 h10 => ?_⟩
    · obtain ⟨dx, ea⟩ := id hp.2
      exact ⟨_, rfl, r, dx, _, rfl, ea, lookF _ _ _ (by decide), _, rfl, r, y, p, q, rfl, hp.2, sp, sq, qn, .inr (.inr ⟨Ty, hp.1, rz⟩)⟩
    · obtain ⟨dx, ea⟩ := id hp.2
      exact ⟨_, rfl, r, dx, _, rfl, ea, lookF _ _ _ (by decide), r, _, p, q, rfl, hp.2, sp, sq, qn, .inr (.inl ⟨1, .inr ⟨rfl, rfl, by decide +kernel⟩, rz⟩)⟩
    · obtain ⟨dx, ea⟩ := id hp.2
      have l01 : lowT 0 1 = 0 ∧ lowB 0 1 = 1 := by decide +kernel
      refine ⟨_, rfl, r, dx, _, rfl, ea, lookF _ _ _ (by decide), _, rfl, .inl ⟨0, 1, rfl, rfl, by decide, by decide +kernel, by decide +kernel, fun r2 H2 s2 ra2 => ?_⟩⟩
      rw [l01.1, l01.2] at ra2
      exact ⟨r, _, p, q, rfl, hp.2.same s2, sp, sq, qn, .inr (.inl ⟨1, .inl ⟨r2, rfl, ra2⟩, Rz.same rz s2⟩)⟩
    obtain ⟨v10, e10⟩ := look h10
    refine ⟨_, rfl, .inl ⟨rfl, _, SqL.of e10⟩, heard_more (Pre := fun H => OddAt H y Ty ∧ RatAt H r C p q) (es := ["value", "ratios"]) h10 (tells_cons R.H stb (fun H1 E Q' hp rz => ?_) (tells_cons R.H stb (fun H1 E Q' hp rz => ?_) tells_nil)) (preL h10) (by decide) (by decide) fun H11 h11 => ?_⟩
    · exact ⟨rfl, _, rfl, _, rfl, .inr ⟨hp.1.notNum R.odd, rz⟩⟩
    · refine ⟨_, rfl, _, rfl, [true, true, false], by show 3 ≤ 1000; decide, ⟨rfl, fun i x e => ?_⟩, .inr ⟨rfl, rz⟩⟩
      match i, e with
      | 0, e =>
        cases e
        exact .inl ⟨rfl, p, q, .inl ⟨r, rfl, hp.2⟩⟩
      | 1, e =>
        cases e
        exact .inl ⟨rfl, 1, 1, .inr ⟨rfl, rfl, by decide +kernel⟩⟩
      | 2, e =>
        cases e
        exact .inr ⟨rfl, Ty, hp.1⟩
      | i + 3, e => cases e
    clear h7 h8 h9 h10 e7 e8 e9 e10
    obtain ⟨v11, e11⟩ := look h11
    obtain ⟨x6, T11, nL, vs, hL, pv⟩ := h11
    replace pv : Paired (TupR H11) vs duL := pv
    refine ⟨by rw [sizeLine_eq]; show 14 ≤ 16777216; decide, fun p5 n5 => ?_⟩
    have hp5 : upd H11 p5 (.lst [V.str "top", V.str "bottom", V.str "top", V.str "bottom", V.str "other", V.str "other", V.str "other", V.str "other", V.str "other", V.str "other", V.str "other", V.str "other", V.str "value", V.str "ratios"]) p5 = some (.lst (duL.map V.str)) := upd_same
    have s12 := same_updR (o := .lst [V.str "top", V.str "bottom", V.str "top", V.str "bottom", V.str "other", V.str "other", V.str "other", V.str "other", V.str "other", V.str "other", V.str "other", V.str "other", V.str "value", V.str "ratios"]) n5
    generalize upd H11 p5 (.lst [V.str "top", V.str "bottom", V.str "top", V.str "bottom", V.str "other", V.str "other", V.str "other", V.str "other", V.str "other", V.str "other", V.str "other", V.str "other", V.str "value", V.str "ratios"]) = H12 at hp5 s12 ⊢
    refine ⟨_, rfl, _, rfl, p5, rfl, ⟨_, SqL.of hp5⟩, fun D nD => ?_⟩
    refine lc_list (a := p5) (xs := duL.map V.str) (fun i Hh => Same H12 Hh ∧ ∃ ws, Hh D = some (.lst ws) ∧ Paired (TupR Hh) ws (duL.take i)) ⟨same_updR nD, [], upd_same, .nil⟩ (fun i Hh _ hP => SqL.of (hP.1 _ _ hp5)) (fun i x Hh hx hP => ?_) fun Hh hP => ?_
    · obtain ⟨sH, ws, hD, pw⟩ := hP
      refine ⟨rfl, ?_⟩
      unfold tYes
      dsimp only
      rw [if_pos rfl]
      have hx2 : (duL.map V.str)[i]? = some x := hx
      rw [List.getElem?_map] at hx2
      obtain ⟨d, ed, rfl⟩ := Option.map_eq_some_iff.mp hx2
      refine ⟨_, rfl, by rw [sizeLine_eq]; show 2 ≤ 16777216; decide, fun pn nn => ?_⟩
      have sn := same_updR (o := .tup [.str "ratio", .str d]) nn
      have lw := Paired.length pw
      rw [List.length_take] at lw
      have l14 : duL.length = 14 := rfl
      have ndp : pn ≠ D := fun z => by rw [z, hD] at nn; cases nn
      have kp : ∀ v d', TupR Hh v d' → TupR (upd (upd Hh pn (.tup [.str "ratio", .str d])) D (.lst (ws ++ [.ref pn]))) v d' := fun v d' => fun ⟨b, e, hb⟩ => ⟨b, e, by
        rw [upd_ne (fun z => by rw [z, hD] at hb; cases hb), upd_ne (ne_of_none hb nn)]; exact hb⟩
      refine ⟨ws, sn _ _ hD, by rw [sizeLine_eq]; omega, fun b o e => ?_, ws ++ [.ref pn], upd_same, ?_⟩
      · rw [upd_ne (ne_of_none e nD)]; exact sn _ _ (sH _ _ e)
      · rw [List.take_add_one, ed]
        exact tups_app (tups_ext kp pw) (.cons ⟨pn, rfl, by rw [upd_ne ndp]; exact upd_same⟩ .nil)
    · obtain ⟨sH, ws, hD, pw⟩ := hP
      rw [show (duL.map V.str).length = duL.length from List.length_map .., List.take_length] at pw
      have xH : ExtN H11 Hh := ExtN.same (s12.trans sH)
      have sh : SeqAt.shaped (.list (duL.map fun d => PyData.tuple [.str "ratio", .str d])) = true := by decide +kernel
      have ev : PyData.eqv (.list (duL.map fun d => PyData.tuple [.str "ratio", .str d])) (.list (duL.map fun d => PyData.tuple [.str "ratio", .str d])) = true := by decide +kernel
      refine ⟨_, _, .lst (SqL.of (xH _ _ hL fun _ z => by cases z)) (dp_tups (tups_ext (fun v d h => h.extN xH) pv)), .lst (SqL.of hD) (dp_tups pw), sh, sh, ?_⟩
      refine ⟨false, congrArg V.bl (by rw [ev]; rfl), iteF ?_⟩
      have preH := stb _ _ (stb _ _ pre0 x6) xH
      replace k : ∀ H', Same Hh H' → Q (.bl true) H' := fun H' s => k H' ((x6.trans xH).trans (ExtN.same s)) (Tabs.same T11 (s12.trans (sH.trans s)))
      obtain ⟨hoH, hrH⟩ := preH
      clear pw hD sH xH nD hp5 s12 n5 pv hL nL x6 T11 e11 look preL pre0 stb
      refine ⟨_, rfl, _, rfl, .inr ⟨Ty, hoH, false, rfl, iteF ?_⟩⟩
      refine ⟨_, rfl, _, rfl, .inl ⟨p, q, .inl ⟨r, rfl, hrH⟩, true, rfl, iteF ?_⟩⟩
      refine ⟨_, rfl, .inl ⟨7, 1, .inr ⟨rfl, rfl, by decide +kernel⟩, true, rfl, iteF ?_⟩⟩
      dsimp only [tNext]
      have nl : ∀ H, NumL H C [.int 2, .int 3] [(2, 1), (3, 1)] := fun H => .cons ⟨.inr ⟨rfl, rfl, by decide +kernel⟩, by decide +kernel, by decide +kernel, by decide⟩ (.cons ⟨.inr ⟨rfl, rfl, by decide +kernel⟩, by decide +kernel, by decide +kernel, by decide⟩ .nil)
      have e5 : accN [(2, 1), (3, 1)] = (5, 1) := by decide +kernel
      have e0 : accN [] = (0, 1) := rfl
      have szs : ∀ n, Sz (accN (List.take n [(2, 1), (3, 1)])).1 ∧ Sz (accN (List.take n [(2, 1), (3, 1)])).2 ∧ (accN (List.take n [(2, 1), (3, 1)])).2 ≠ 0 := fun n => by
        match n with
        | 0 => exact ⟨by decide +kernel, by decide +kernel, by decide⟩
        | 1 => exact ⟨by decide +kernel, by decide +kernel, by decide +kernel⟩
        | n + 2 =>
          rw [List.take_of_length_le (by simp), e5]
          exact ⟨by decide +kernel, by decide +kernel, by decide⟩
      refine ⟨[], by decide, ⟨rfl, fun i x e => by cases e⟩, .inl ⟨[], .nil, fun n => by rw [List.take_nil]; exact ⟨by decide +kernel, by decide +kernel, by decide⟩, rfl, fun a1 H13 s13 ra1 => ⟨_, _, _, _, _, rfl, .own C, ra1.ty R.T R.I, R.I.cc, true, rfl, iteF ?_⟩⟩⟩
      refine ⟨[true, true], by show 2 ≤ 1000; decide, (nl _).kinds, .inl ⟨_, nl _, szs, rfl, fun a2 H14 s14 ra2 => ⟨_, _, _, _, _, rfl, .own C, ra2.ty R.T R.I, R.I.cc, true, rfl, iteF ?_⟩⟩⟩
      refine ⟨[], by decide, ⟨rfl, fun i x e => by cases e⟩, .inl ⟨[], .nil, fun n => by rw [List.take_nil]; exact ⟨by decide +kernel, by decide +kernel, by decide⟩, rfl, fun a3 H15 s15 ra3 => ⟨a3, .type "int", rfl, ra3.ins, ty_plain (plainT_int _), R.nf "int" (by simp), a3, _, _, _, rfl, ra3, .inr (.inl ⟨0, rfl, _, rfl, false, congrArg V.bl (by decide +kernel), iteF ?_⟩)⟩⟩⟩
      refine ⟨[true, true], by show 2 ≤ 1000; decide, (nl _).kinds, .inl ⟨_, nl _, szs, rfl, fun a4 H16 s16 ra4 => ⟨a4, .type "int", rfl, ra4.ins, ty_plain (plainT_int _), R.nf "int" (by simp), a4, _, _, _, rfl, ra4, .inr (.inl ⟨5, rfl, _, rfl, false, congrArg V.bl (by decide +kernel), iteF ?_⟩)⟩⟩⟩
      dsimp only [tNext]
      have sy := s13.trans (s14.trans (s15.trans s16))
      replace hoH := hoH.same sy
      replace hrH := hrH.same sy
      replace k : ∀ H', Same H16 H' → Q (.bl true) H' := fun H' s => k H' (sy.trans s)
      clear sy s13 s14 s15 s16 ra1 ra2 ra3 ra4
      obtain ⟨dx, ea⟩ := id hrH
      have l21 : (2 * q).natAbs < 2 ^ 200 := by
        have : q.natAbs < 2 ^ 100 := s1_ten zq
        have e : (2 * q).natAbs = 2 * q.natAbs := by rw [Int.natAbs_mul]; rfl
        rw [e]
        have z : 2 * 2 ^ 100 ≤ (2 : Nat) ^ 200 := by decide +kernel
        omega
      refine ⟨_, rfl, r, dx, _, rfl, ea, lookF _ _ _ (by decide), r, .int 2, p, q, rfl, hrH, sp, sq, qn, .inl ⟨2, 1, .inr ⟨rfl, rfl, by decide +kernel⟩, by decide +kernel, by decide +kernel, by decide, by decide, fun a5 H17 s17 ra5 => ?_⟩⟩
      have hr17 := hrH.same s17
      obtain ⟨dx, ea⟩ := id hr17
      refine ⟨_, rfl, r, C, dx, _, _, rfl, ea, R.T.cls, R.T.no "top" (by simp), rfl, _, rfl, r, C, dx, _, _, rfl, ea, R.T.cls, R.T.no "bottom" (by simp), rfl, _, _, rfl, rfl, sz_mul (by decide +kernel) sq, p, 2 * q, rfl, by omega, l21, fun p8 n8 => ?_⟩
      rw [Int.mul_one, Int.mul_comm q 2] at ra5
      refine ⟨a5, p8, _, _, _, _, rfl, ra5.same (same_updR n8), SqT.of upd_same, fun H18 s18 => ⟨true, tt2 _ _, iteF ?_⟩⟩
      have sy := s17.trans ((same_updR n8).trans s18)
      replace hoH := hoH.same sy
      replace hrH := hrH.same sy
      replace k : ∀ H', Same H18 H' → Q (.bl true) H' := fun H' s => k H' (sy.trans s)
      clear sy s17 s18 ra5 hr17 n8
      refine ⟨rfl, _, rfl, .inl ⟨7, 1, .inr ⟨rfl, rfl, by decide +kernel⟩, fun r5 H19 s19 ra5 => ⟨r5, .type "int", rfl, ra5.ins, ty_plain (plainT_int _), R.nf "int" (by simp), r5, _, _, _, rfl, ra5, .inr (.inl ⟨7, rfl, _, rfl, false, congrArg V.bl (by decide +kernel), iteF ?_⟩)⟩⟩⟩
      have hr19 := hrH.same s19
      obtain ⟨dx, ea⟩ := id hr19
      refine ⟨_, rfl, r, dx, _, rfl, ea, lookF _ _ _ (by decide), _, rfl, r, _, p, q, rfl, hr19, sp, sq, q0, .inl ⟨p, q, .inl ⟨r, rfl, hr19⟩, sp, sq, q0, fun H20 s20 => ⟨false, congrArg V.bl (by rw [Int.sub_self]; rfl), iteF ?_⟩⟩⟩
      dsimp only [tNext]
      have sy := s19.trans s20
      have iy := ((hoH.same sy).notNum R.odd).2
      refine ⟨_, rfl, _, _, rfl, iy, false, rfl, true, rfl, iteT ?_⟩
      refine ⟨_, rfl, _, _, _, rfl, .inr ⟨iy, false, rfl, ?_⟩⟩
      exact k _ sy
end
end K01
namespace K01
open PySem PySem.Spec PyProof.Rows L2 RatM TL
/-- what is read is what is written: a word that no ratio has as its text is none -/
theorem chkT_some {w : Str} {t b p q : Int} (h : chkT w t b = some (p, q)) : p = lowT t b ∧ q = lowB t b ∧ textR p q = w := by
  unfold chkT at h
  split at h
  · obtain ⟨rfl, rfl⟩ := Prod.mk.inj (Option.some.inj h)
    exact ⟨rfl, rfl, by assumption⟩
  · cases h
theorem ratioT_some {w : Str} {p q : Int} (h : ratioT w = some (p, q)) : textR p q = w ∧ 0 < q ∧ Int.gcd p q = 1 := by
  unfold ratioT at h
  split at h
  · obtain ⟨rfl, rfl, e⟩ := chkT_some h
    exact ⟨e, lowB_pos (by decide), low_gcd (by decide)⟩
  · rename_i n m _
    split at h
    · cases h
    · rename_i hm
      have hb : (m : Int) ≠ 0 := by omega
      obtain ⟨rfl, rfl, e⟩ := chkT_some h
      exact ⟨e, lowB_pos hb, low_gcd hb⟩
  · cases h
theorem ratioT_none {w : Str} (h : ∀ p q : Int, 0 < q → Int.gcd p q = 1 → textR p q ≠ w) : ratioT w = none := by
  cases e : ratioT w with
  | none => rfl
  | some z =>
    obtain ⟨p, q⟩ := z
    obtain ⟨e1, e2, e3⟩ := ratioT_some e
    exact absurd e1 (h p q e2 e3)
/-- the first sign of a text: a figure or a minus; the empty word is none -/
theorem text_head {p q : Int} (hq : 0 < q) : ∃ c r, tl (textR p q) = c :: r ∧ (c = 45 ∨ (48 ≤ c ∧ c ≤ 57)) := by
  rw [tl_text hq]
  by_cases h : p < 0
  · rw [if_pos h]
    exact ⟨45, _, rfl, .inl rfl⟩
  · rw [if_neg h, List.nil_append]
    cases e : numL p.natAbs with
    | nil => exact absurd e (numL_ne _)
    | cons c r =>
      have z := numL_digits p.natAbs c (by rw [e]; exact List.mem_cons_self)
      exact ⟨c, _, rfl, .inr (by omega)⟩
theorem ratioT_head {w : Str} {c : Nat} {r : List Nat} (e : tl w = c :: r) (h : c ≠ 45 ∧ (c < 48 ∨ 57 < c)) : ratioT w = none := by
  refine ratioT_none fun p q hq _ z => ?_
  obtain ⟨d, s, e2, h2⟩ := text_head (p := p) hq
  rw [← z, e2] at e
  obtain ⟨rfl, _⟩ := List.cons.inj e
  omega
end K01
namespace K01
open PySem PySem.Spec PyProof.Rows L2 RatM TL
/-! ### texts that are no ratio's, and their sizes -/
theorem spl_len {s : Nat} : ∀ (l acc : List Nat), (spl [s] 0 acc l).length ≤ l.length + 1 ∧ ∀ x ∈ spl [s] 0 acc l, x.length ≤ acc.length + l.length
  | [], acc => by
    rw [spl_nil]
    exact ⟨Nat.le_refl _, fun x h => by rw [List.mem_singleton.mp h]; exact Nat.le_refl _⟩
  | c :: r, acc => by
    by_cases h : pre [s] (c :: r) = true
    · rw [spl_hit h]
      obtain ⟨h1, h2⟩ := spl_len (s := s) r []
      refine ⟨by show (spl [s] 0 [] r).length + 1 ≤ r.length + 1 + 1; omega, fun x hx => ?_⟩
      rcases List.mem_cons.mp hx with rfl | hx
      · omega
      · have := h2 x hx
        simp only [List.length_nil, List.length_cons] at this ⊢
        omega
    · rw [spl_miss (Bool.eq_false_iff.mpr h)]
      obtain ⟨h1, h2⟩ := spl_len (s := s) r (acc ++ [c])
      refine ⟨by rw [List.length_cons]; omega, fun x hx => ?_⟩
      have := h2 x hx
      simp only [List.length_append, List.length_cons, List.length_nil] at this ⊢
      omega
theorem split_len {w y : Str} {s : Nat} (e : tl y = [s]) (k : ¬ Builtin.Str.strKind w < Builtin.Str.strKind y) : (Txt.split w y).length ≤ w.length + 1 ∧ ∀ x ∈ Txt.split w y, x.length ≤ w.length := by
  have h := split_spl w y (by rw [e]; simp) k
  rw [e] at h
  obtain ⟨h1, h2⟩ := spl_len (s := s) (tl w) []
  rw [← len_tl] at h1
  refine ⟨?_, fun x hx => ?_⟩
  · have z := congrArg List.length h
    rw [List.length_map] at z
    omega
  · have z : tl x ∈ (Txt.split w y).map tl := List.mem_map_of_mem hx
    rw [h] at z
    have y2 := h2 _ z
    rw [len_tl, len_tl]
    simpa using y2
theorem rp_len (x : Str) : (Txt.removeprefix x "-").length ≤ x.length := by
  rw [len_tl, remove_minus, len_tl]
  split
  · rw [List.length_drop]; omega
  · exact Nat.le_refl _
theorem rd_small {w : Str} (h : w.length ≤ 1000) : w.length ≤ 100000 ∧ ((wordsT w).getD 0 "").length ≤ 100000 ∧ (Txt.removeprefix ((wordsT w).getD 0 "") "-").length ≤ 100000 ∧ (Txt.split (Txt.removeprefix ((wordsT w).getD 0 "") "-") "/").length ≤ 100000 ∧
    (∀ x ∈ Txt.split (Txt.removeprefix ((wordsT w).getD 0 "") "-") "/", x.length ≤ 100000) := by
  have u1 : ((wordsT w).getD 0 "").length ≤ 1000 := by
    obtain ⟨_, h2⟩ := split_len (w := w) (y := " ") (s := 32) rfl (kind_ok (by decide +kernel))
    show ((Txt.split w " ").getD 0 "").length ≤ 1000
    cases e : Txt.split w " " with
    | nil => exact Nat.zero_le _
    | cons a r =>
      have := h2 a (by rw [e]; exact List.mem_cons_self)
      show a.length ≤ 1000
      omega
  generalize (wordsT w).getD 0 "" = u at u1 ⊢
  have r1 := rp_len u
  obtain ⟨s1, s2⟩ := split_len (w := Txt.removeprefix u "-") (y := "/") (s := 47) rfl (kind_ok (by decide +kernel))
  exact ⟨by omega, by omega, by omega, by omega, fun x hx => by have := s2 x hx; omega⟩
theorem words_free {w : Str} (h : 32 ∉ tl w) : wordsT w = [w] := by
  refine map_tl_inj ?_
  unfold wordsT
  rw [split_spl _ _ (by decide) (kind_ok (by decide +kernel))]
  have e2 : tl (" " : Str) = [32] := rfl
  rw [e2, spl_last1 h, List.nil_append]
  rfl
theorem words_two {w a b : Str} (e : tl w = tl a ++ 32 :: tl b) (ha : 32 ∉ tl a) (hb : 32 ∉ tl b) : wordsT w = [a, b] := by
  refine map_tl_inj ?_
  unfold wordsT
  rw [split_spl _ _ (by decide) (kind_ok (by decide +kernel))]
  have e2 : tl (" " : Str) = [32] := rfl
  have z := spl_part1 (s := 32) (S := []) (p := tl a) (rest := tl b) (acc := []) ha
  rw [List.nil_append, spl_last1 hb, List.nil_append] at z
  rw [e2, e]
  exact z
/-- the signs of a text: -, /, figures -/
theorem text_signs {p q : Int} (hq : 0 < q) : ∀ c ∈ tl (textR p q), c = 45 ∨ c = 47 ∨ (48 ≤ c ∧ c ≤ 57) := fun c hc => by
  rw [tl_text hq] at hc
  rcases List.mem_append.mp hc with h | h
  · split at h
    · exact .inl (List.mem_singleton.mp h)
    · cases h
  · rcases List.mem_append.mp h with h | h
    · have := numL_digits _ c h
      exact .inr (.inr (by omega))
    · split at h
      · cases h
      · rcases List.mem_cons.mp h with h | h
        · exact .inr (.inl h)
        · have := numL_digits _ c h
          exact .inr (.inr (by omega))
theorem text_no {p q : Int} (hq : 0 < q) {c : Nat} (h : c ≠ 45 ∧ c ≠ 47 ∧ (c < 48 ∨ 57 < c)) : c ∉ tl (textR p q) := fun hc => by
  have := text_signs hq c hc
  omega
theorem cut_at {s : Nat} : ∀ {a a' b b' : List Nat}, s ∉ a → s ∉ a' → a ++ s :: b = a' ++ s :: b' → a = a' ∧ b = b'
  | [], [], _, _, _, _, e => ⟨rfl, (List.cons.inj e).2⟩
  | [], x :: r, _, _, _, h, e => absurd (by rw [(List.cons.inj e).1]; exact List.mem_cons_self) h
  | x :: r, [], _, _, h, _, e => absurd (by rw [← (List.cons.inj e).1]; exact List.mem_cons_self) h
  | x :: r, y :: t, _, _, h1, h2, e => by
    obtain ⟨e1, e2⟩ := List.cons.inj e
    obtain ⟨h3, h4⟩ := cut_at (fun z => h1 (List.mem_cons_of_mem _ z)) (fun z => h2 (List.mem_cons_of_mem _ z)) e2
    exact ⟨by rw [e1, h3], h4⟩
theorem numL_inj {n m : Nat} (h : numL n = numL m) : n = m := by
  rw [← numL_val n, ← numL_val m, h]
/-- a whole number's text -/
def iL (p : Int) : List Nat := (if p < 0 then [45] else []) ++ numL p.natAbs
theorem iL_no {p : Int} : 47 ∉ iL p := fun h => by
  unfold iL at h
  rcases List.mem_append.mp h with h | h
  · split at h
    · exact absurd (List.mem_singleton.mp h) (by decide)
    · cases h
  · exact numL_free (n := p.natAbs) (s := 47) (.inl (by decide)) h
theorem iL_inj {p q : Int} (h : iL p = iL q) : p = q := by
  unfold iL at h
  by_cases hp : p < 0 <;> by_cases hq : q < 0
  · rw [if_pos hp, if_pos hq] at h
    have := numL_inj (List.append_cancel_left h)
    omega
  · rw [if_pos hp, if_neg hq, List.nil_append] at h
    have z := head_num q.natAbs []
    rw [List.append_nil, ← h] at z
    exact absurd rfl z
  · rw [if_neg hp, if_pos hq, List.nil_append] at h
    have z := head_num p.natAbs []
    rw [List.append_nil, h] at z
    exact absurd rfl z
  · rw [if_neg hp, if_neg hq] at h
    have := numL_inj (List.append_cancel_left h)
    omega
theorem tl_text2 {p q : Int} (hq : 0 < q) : tl (textR p q) = iL p ++ if q = 1 then [] else 47 :: numL q.natAbs := by
  rw [tl_text hq]
  unfold iL
  rw [List.append_assoc]
/-- a text with a stroke in it is that of its two sides -/
theorem text_sides {p q : Int} (hq : 0 < q) {a b : List Nat} (ha : 47 ∉ a) (e : tl (textR p q) = a ++ 47 :: b) : iL p = a ∧ numL q.natAbs = b ∧ q ≠ 1 := by
  rw [tl_text2 hq] at e
  by_cases h : q = 1
  · rw [if_pos h, List.append_nil] at e
    exact absurd (by rw [e]; simp) (iL_no (p := p))
  · rw [if_neg h] at e
    obtain ⟨e1, e2⟩ := cut_at iL_no ha e
    exact ⟨e1, e2, h⟩
theorem none_no {w : Str} {c : Nat} (hc : c ∈ tl w) (h : c ≠ 45 ∧ c ≠ 47 ∧ (c < 48 ∨ 57 < c)) : ratioT w = none := ratioT_none fun p q hq _ e => by
  rw [← e] at hc
  exact text_no hq h hc
/-- w with a stroke at its end -/
theorem none_stroke {w : Str} {a : List Nat} (e : tl w = a ++ [47]) : ratioT w = none := ratioT_none fun p q hq _ z => by
  rw [← z, tl_text2 hq] at e
  have key : ∀ {l : List Nat} {n : Nat}, l ++ numL n = a ++ [47] → False := fun {l n} y => by
    obtain ⟨i, x, ei⟩ : ∃ i x, numL n = i ++ [x] := ⟨(numL n).dropLast, (numL n).getLast (numL_ne n), (List.dropLast_concat_getLast (numL_ne n)).symm⟩
    rw [ei, ← List.append_assoc] at y
    obtain ⟨_, y2⟩ := List.append_inj' y rfl
    have m : (47 : Nat) ∈ numL n := by rw [ei, (List.cons.inj y2).1]; simp
    exact numL_free (n := n) (s := 47) (.inl (by decide)) m
  by_cases h : q = 1
  · rw [if_pos h, List.append_nil] at e
    unfold iL at e
    exact key e
  · rw [if_neg h] at e
    exact key (l := iL p ++ [47]) (by rw [List.append_assoc]; exact e)
theorem none_zero {w x : Str} (e : tl w = 48 :: tl x) (hx : tl x ≠ []) : ratioT w = none := ratioT_none fun p q hq g z => by
  rw [← z, tl_text hq] at e
  by_cases h : p < 0
  · rw [if_pos h] at e
    exact absurd (List.cons.inj e).1 (by decide)
  · rw [if_neg h, List.nil_append] at e
    by_cases h0 : p.natAbs = 0
    · have hp : p = 0 := by omega
      subst hp
      have q1 : q = 1 := by
        rw [Int.zero_gcd] at g
        omega
      rw [if_pos q1, List.append_nil] at e
      exact hx (List.cons.inj e).2.symm
    · obtain ⟨c, r, e2, hc⟩ := numL_head p.natAbs (by omega)
      rw [e2] at e
      have := (List.cons.inj e).1
      omega
/-- one more '/1' -/
theorem none_one {w : Str} {p q : Int} (hq : 0 < q) (e : tl w = tl (textR p q) ++ [47, 49]) : ratioT w = none := ratioT_none fun p' q' hq' g z => by
  rw [← z] at e
  by_cases h : q = 1
  · rw [tl_text2 hq, if_pos h, List.append_nil] at e
    obtain ⟨_, e2, e3⟩ := text_sides hq' iL_no e
    have : numL q'.natAbs = numL 1 := e2
    have := numL_inj this
    omega
  · rw [tl_text2 hq, if_neg h, List.append_assoc] at e
    obtain ⟨_, e2, _⟩ := text_sides (b := numL q.natAbs ++ [47, 49]) hq' iL_no e
    have m : 47 ∈ numL q'.natAbs := by rw [e2]; simp
    exact numL_free (n := q'.natAbs) (s := 47) (.inl (by decide)) m
/-- so many times as much above and below -/
theorem none_times {w : Str} {t p q : Int} (ht : 2 ≤ t) (hq : 0 < q) (e : tl w = iL (t * p) ++ 47 :: iL (t * q)) : ratioT w = none := ratioT_none fun p' q' hq' g z => by
  rw [← z] at e
  obtain ⟨e1, e2, _⟩ := text_sides hq' iL_no e
  have h1 := iL_inj e1
  have tq : 0 < t * q := Int.mul_pos (by omega) hq
  unfold iL at e2
  rw [if_neg (by omega), List.nil_append] at e2
  have h2 := numL_inj e2
  have h3 : q' = t * q := by omega
  rw [h1, h3, Int.gcd_mul_left] at g
  have : t.natAbs ∣ 1 := ⟨_, g.symm⟩
  have := Nat.le_of_dvd (by decide) this
  omega
theorem none_lits : ∀ w ∈ ([("-0" : Str), "1/-2", "1/0", "", "2//3", "1/1"] : List Str), ratioT w = none ∧ 32 ∉ tl w ∧ w.length ≤ 1000 := by decide +kernel
end K01
namespace K01
open PySem PySem.Spec PyProof.Rows L2 RatM TL
/-- a text that Ratio.read refuses at word k -/
def BadT (w : Str) (k : Int) : Prop := w.length ≤ 1000 ∧ ((k = 0 ∧ ratioT ((wordsT w).getD 0 "") = none) ∨ (k = 1 ∧ (∃ p q, ratioT ((wordsT w).getD 0 "") = some (p, q)) ∧ 1 < (wordsT w).length))
theorem sp_bad {K : PySem.W.Frag} {C BT : Addr} {w : Str} {k : Int} {H : Hp} {Q : VK} {E : XK} (h : BadT w k) (rz : Rz H E BT [("word", .int k), ("line", .int 0)]) : spRead K C BT [.ref C, .str w] H Q E := by
  obtain ⟨hl, h⟩ := h
  obtain ⟨a1, a2, a3, a4, a5⟩ := rd_small hl
  refine ⟨_, rfl, .inl ⟨w, rfl, a1, a2, a3, a4, a5, fun e => ?_, fun p q e l => ?_, fun p q e l => ?_⟩⟩
  · rcases h with ⟨rfl, _⟩ | ⟨rfl, ⟨p, q, e2⟩, _⟩
    · exact rz
    · rw [e] at e2; cases e2
  · rcases h with ⟨rfl, e2⟩ | ⟨rfl, _, _⟩
    · rw [e] at e2; cases e2
    · exact rz
  · rcases h with ⟨rfl, e2⟩ | ⟨rfl, _, l2⟩
    · rw [e] at e2; cases e2
    · exact absurd l2 l
theorem sp_good {K : PySem.W.Frag} {C BT : Addr} {w : Str} {p q : Int} {H : Hp} {Q : VK} {E : XK} (hl : w.length ≤ 1000) (hw : wordsT w = [w]) (hr : ratioT w = some (p, q)) (k : ∀ a H', Same H H' → RatAt H' a C p q → Q (.ref a) H') : spRead K C BT [.ref C, .str w] H Q E := by
  obtain ⟨a1, a2, a3, a4, a5⟩ := rd_small hl
  refine ⟨_, rfl, .inl ⟨w, rfl, a1, a2, a3, a4, a5, fun e => ?_, fun p' q' e l => ?_, fun p' q' e l => ?_⟩⟩
  · rw [hw] at e
    have e : ratioT w = none := e
    rw [hr] at e; cases e
  · rw [hw] at l
    exact absurd (show 1 < 1 from l) (by decide)
  · rw [hw] at e
    have e : ratioT w = some (p', q') := e
    rw [hr] at e
    obtain ⟨rfl, rfl⟩ := Prod.mk.inj (Option.some.inj e)
    exact k
theorem bad_none {w : Str} (hl : w.length ≤ 1000) (hw : 32 ∉ tl w) (hn : ratioT w = none) : BadT w 0 := ⟨hl, .inl ⟨rfl, by rw [words_free hw]; exact hn⟩⟩
def bentS (s : Str) : List Str := [s ++ " ", s ++ " 1", " " ++ s, "+" ++ s, s ++ "/", "0" ++ s, s ++ "/1", s ++ ".0"]
theorem tl_lit (x y : Str) : tl (x ++ y) = tl x ++ tl y := tl_append x y
section
variable {p q : Int} (hq : 0 < q) (g : Int.gcd p q = 1) (sp : p.natAbs < 10 ^ 60) (sq : q.natAbs < 10 ^ 60)
include hq sp sq in
theorem text_short : (textR p q).length ≤ 122 := by
  have l1 := numL_len (k := 60) (by decide) sp
  have l2 := numL_len (k := 60) (by decide) sq
  rw [len_tl, tl_text hq]
  simp only [List.length_append]
  split <;> split <;> simp <;> omega
include hq in
theorem text_no32 : 32 ∉ tl (textR p q) := text_no hq (by decide)
include hq g sp sq in
theorem bents (i : Nat) (hi : i < 8) : ∃ w, (bentS (textR p q))[i]? = some w ∧ BadT w (if (i : Int) < 2 then 1 else 0) := by
  have l := text_short hq sp sq
  have n32 := text_no32 (p := p) hq
  have rt := ratioT_text hq g sp sq
  have ls : ∀ x y : Str, (x ++ y).length = x.length + y.length := fun x y => strLen_append x y
  have ne : tl (textR p q) ≠ [] := by
    obtain ⟨c, r, e, _⟩ := text_head (p := p) hq
    rw [e]; simp
  match i, hi with
  | 0, _ =>
    have w2 : wordsT (textR p q ++ " ") = [textR p q, ""] := words_two (by rw [tl_lit]; rfl) n32 (by decide)
    exact ⟨_, rfl, by rw [ls]; show _ + 1 ≤ 1000; omega, .inr ⟨rfl, ⟨p, q, by rw [w2]; exact rt⟩, by rw [w2]; show 1 < 2; decide⟩⟩
  | 1, _ =>
    have w2 : wordsT (textR p q ++ " 1") = [textR p q, "1"] := words_two (by rw [tl_lit]; rfl) n32 (by decide)
    exact ⟨_, rfl, by rw [ls]; show _ + 2 ≤ 1000; omega, .inr ⟨rfl, ⟨p, q, by rw [w2]; exact rt⟩, by rw [w2]; show 1 < 2; decide⟩⟩
  | 2, _ =>
    have w2 : wordsT (" " ++ textR p q) = [("" : Str), textR p q] := words_two (a := "") (by rw [tl_lit]; rfl) (by decide) n32
    exact ⟨_, rfl, by rw [ls]; show 1 + _ ≤ 1000; omega, .inl ⟨rfl, by rw [w2]; exact (none_lits "" (by decide)).1⟩⟩
  | 3, _ =>
    have e : tl ("+" ++ textR p q) = 43 :: tl (textR p q) := tl_lit _ _
    exact ⟨_, rfl, bad_none (by rw [ls]; show 1 + _ ≤ 1000; omega) (by rw [e]; exact fun h => (List.mem_cons.mp h).elim (by decide) n32) (none_no (c := 43) (by rw [e]; exact List.mem_cons_self) (by decide))⟩
  | 4, _ =>
    have e : tl (textR p q ++ "/") = tl (textR p q) ++ [47] := tl_lit _ _
    exact ⟨_, rfl, bad_none (by rw [ls]; show _ + 1 ≤ 1000; omega) (by rw [e]; simp [n32]) (none_stroke e)⟩
  | 5, _ =>
    have e : tl ("0" ++ textR p q) = 48 :: tl (textR p q) := tl_lit _ _
    exact ⟨_, rfl, bad_none (by rw [ls]; show 1 + _ ≤ 1000; omega) (by rw [e]; exact fun h => (List.mem_cons.mp h).elim (by decide) n32) (none_zero e ne)⟩
  | 6, _ =>
    have e : tl (textR p q ++ "/1") = tl (textR p q) ++ [47, 49] := tl_lit _ _
    exact ⟨_, rfl, bad_none (by rw [ls]; show _ + 2 ≤ 1000; omega) (by rw [e]; simp [n32]) (none_one hq e)⟩
  | 7, _ =>
    have e : tl (textR p q ++ ".0") = tl (textR p q) ++ [46, 48] := tl_lit _ _
    exact ⟨_, rfl, bad_none (by rw [ls]; show _ + 2 ≤ 1000; omega) (by rw [e]; simp [n32]) (none_no (c := 46) (by rw [e]; simp) (by decide))⟩
  | n + 8, h => exact absurd h (by omega)
end
theorem iL_int (p : Int) : tl (Str.ofString (toString p)) = iL p := by
  rw [tl_int]
  unfold iL
  split <;> rfl
theorem iL_len {p : Int} (h : p.natAbs < 10 ^ 60) : (iL p).length ≤ 61 := by
  have l1 := numL_len (k := 60) (by decide) h
  unfold iL
  rw [List.length_append]
  split <;> simp <;> omega
theorem iL_32 {p : Int} : 32 ∉ iL p := fun h => by
  unfold iL at h
  rcases List.mem_append.mp h with h | h
  · split at h
    · exact absurd (List.mem_singleton.mp h) (by decide)
    · cases h
  · exact numL_free (n := p.natAbs) (s := 32) (.inl (by decide)) h
theorem bad_times {t p q : Int} (ht : 2 ≤ t) (hq : 0 < q) (s1 : (t * p).natAbs < 10 ^ 60) (s2 : (t * q).natAbs < 10 ^ 60) : BadT ((Str.ofString (toString (t * p)) ++ "/") ++ Str.ofString (toString (t * q))) 0 := by
  have e : tl ((Str.ofString (toString (t * p)) ++ "/") ++ Str.ofString (toString (t * q))) = iL (t * p) ++ 47 :: iL (t * q) := by
    rw [tl_lit, tl_lit, iL_int, iL_int, List.append_assoc]
    rfl
  refine bad_none ?_ ?_ (none_times ht hq e)
  · rw [len_tl, e, List.length_append, List.length_cons]
    have := iL_len s1
    have := iL_len s2
    omega
  · rw [e]
    intro h
    rcases List.mem_append.mp h with h | h
    · exact iL_32 h
    · rcases List.mem_cons.mp h with h | h
      · exact absurd h (by decide)
      · exact iL_32 h
theorem bad_lits : ∀ w ∈ ([("-0" : Str), "1/-2", "1/0", "", "2//3", "1/1"] : List Str), BadT w 0 := fun w hw => bad_none (none_lits w hw).2.2 (none_lits w hw).2.1 (none_lits w hw).1
/-! ### sixty figures -/
def longT : Str := "1" ++ repS "0" 59
theorem long_facts : longT = textR (10 ^ 59) 1 ∧ ("1/" : Str) ++ longT = textR 1 (10 ^ 59) ∧ ("-" : Str) ++ longT = textR (-(10 ^ 59)) 1 := by decide +kernel
theorem long_len : longT.length = 60 ∧ (("1/" : Str) ++ longT).length = 62 ∧ (("-" : Str) ++ longT).length = 61 ∧ (longT ++ "0").length = 61 ∧ ((("1/" : Str) ++ longT) ++ "0").length = 63 := by decide +kernel
theorem long_32 : 32 ∉ tl (longT ++ "0") ∧ 32 ∉ tl ((("1/" : Str) ++ longT) ++ "0") := by decide +kernel
theorem long_bad : ratioT (longT ++ "0") = none ∧ ratioT ((("1/" : Str) ++ longT) ++ "0") = none := by decide +kernel
end K01
namespace K01
open PySem PySem.Spec PyProof.Rows L2 RatM TL LamX ClX
section
variable {P : Program} {w : World} {K : PySem.W.Frag} {mg : Str → Option Value} {base : Heap} {C BR BT gH PT : Addr} {fdH : FuncData}
abbrev nsRr : List Str := ["_law_till_here", "_law_pair", "_law_text_here", "_law_way", "_law_bent", "_law_word", "_law_times", "_law_wide", "_law_long"]
theorem scRr : FnScope nsRr ["_law_till_here", "_law_pair"] (defScope (top 41)) := ⟨rfl, rfl, rfl, by decide +kernel, rfl, by decide +kernel, by decide +kernel⟩
def spRr (K : PySem.W.Frag) (T : List (Addr × Str)) : Sp := fun vs H Q _ => ∃ (t o c : Addr) (cells : List Int) (i g p q : Int), vs = [.ref t, .ref o] ∧ Till H t c cells i g ∧ 0 ≤ i ∧ i ≤ 900000 ∧ 0 ≤ g ∧ H o = some (.tup [.int p, .int q]) ∧ p.natAbs < 10 ^ 30 ∧ q.natAbs < 10 ^ 30 ∧ 0 < q ∧ Int.gcd p q = 1 ∧ Tabs T H ∧
  ∀ (i' g' : Int) (H' : Hp), 0 ≤ i' → i' ≤ i + 2 → 0 ≤ g' → ExtB t H H' → Tabs T H' → Till H' t c cells i' g' → Q (.bl true) H'
theorem Till.extN {H H' : Hp} {t c : Addr} {cells : List Int} {i g : Int} (T : Till H t c cells i g) (s : ExtN H H') : Till H' t c cells i g := ⟨s _ _ T.ht fun _ z => (by cases z), s _ _ T.hc fun _ z => (by cases z), T.ne⟩
theorem way_if {σ : L2.St} {H : Hp} {Q : VK} {n : Int} (i : σ[3]? = some (some (.int n))) (k : Q (.int (if n < 2 then 1 else 0)) H) :
    tIf (tTest (tOp (rI0 fun i j => V.bl (decide (i < j))) (tVar 3) (tC (V.int 2)))) (tC (V.int 1)) (tC (V.int 0)) σ H Q := by
  refine ⟨_, i, _, _, rfl, rfl, decide (n < 2), rfl, ?_⟩
  by_cases c : n < 2
  · rw [decide_eq_true c]
    rw [if_pos c] at k
    exact iteT k
  · rw [decide_eq_false c]
    rw [if_neg c] at k
    exact iteF k
theorem shaped_txt (k : Int) : SeqAt.shaped (.tuple [.str "text", .int 0, .int k]) = true := by simp [SeqAt.shaped, PyData.canLay0, PyData.canLayAll0, PyData.depth, PyData.depthAll, show PyData.strOk (Str.ofString "text") = true by decide +kernel]
theorem eqv_txt (k : Int) : PyData.eqv (.tuple [.str "text", .int 0, .int k]) (.tuple [.str "text", .int 0, .int k]) = true := by simp [PyData.eqv, PyData.eqvAll]
theorem dp_txt {K : PySem.W.Frag} {H : Hp} {p : Addr} {k : Int} (h : H p = some (.tup [.str "text", .int 0, .int k])) : Dp K H (.ref p) (.tuple [.str "text", .int 0, .int k]) := .tup (SqT.of h) (.cons (.str _) (.cons (.int _) (.cons (.int _) .nil)))
/-- what Ratio.read refuses at word 0 -/
def ReadBad (H : Hp) (x : V) : Prop := (∃ w, x = .str w ∧ BadT w 0) ∨ x = .non ∨ (∃ i, x = .int i) ∨ (∃ a xs, x = .ref a ∧ H a = some (.lst xs))
theorem ReadBad.extN {H H' : Hp} {x : V} (h : ReadBad H x) (s : ExtN H H') : ReadBad H' x := h.imp id fun h => h.imp id fun h => h.imp id fun ⟨a, xs, e, h⟩ => ⟨a, xs, e, s _ _ h fun _ z => by cases z⟩
theorem ReadBad.sp {K : PySem.W.Frag} {H : Hp} {x : V} {C BT : Addr} {Q : VK} {E : XK} (h : ReadBad H x) (rz : Rz H E BT [("word", .int 0), ("line", .int 0)]) : spRead K C BT [.ref C, x] H Q E := by
  rcases h with ⟨w, rfl, b⟩ | rfl | ⟨i, rfl⟩ | ⟨a, xs, rfl, e⟩
  · exact sp_bad b rz
  · exact ⟨_, rfl, .inr ⟨_, .base .non, kit_ty (by decide +kernel), rz⟩⟩
  · exact ⟨_, rfl, .inr ⟨_, .base (.int i), kit_ty (by decide +kernel), rz⟩⟩
  · exact ⟨_, rfl, .inr ⟨_, .base (.lst e), kit_ty (by decide +kernel), rz⟩⟩
theorem long_reads : (wordsT longT = [longT] ∧ ratioT longT = some (10 ^ 59, 1)) ∧ (wordsT (("1/" : Str) ++ longT) = [("1/" : Str) ++ longT] ∧ ratioT (("1/" : Str) ++ longT) = some (1, 10 ^ 59)) ∧ (wordsT (("-" : Str) ++ longT) = [("-" : Str) ++ longT] ∧ ratioT (("-" : Str) ++ longT) = some (-(10 ^ 59), 1)) := by
  obtain ⟨e1, e2, e3⟩ := long_facts
  rw [e2, e3, e1]
  exact ⟨⟨words_text (by decide), ratioT_text (by decide) (by decide +kernel) (by decide +kernel) (by decide +kernel)⟩, ⟨words_text (by decide +kernel), ratioT_text (by decide +kernel) (by decide +kernel) (by decide +kernel) (by decide +kernel)⟩, ⟨words_text (by decide), ratioT_text (by decide) (by decide +kernel) (by decide +kernel) (by decide +kernel)⟩⟩
theorem ok_readRight {f fC fT : Addr} {fd fdC fdT : FuncData} {T : List (Addr × Str)} (F : FnP K "_law_read_right" (top 41) f fd) (R : RatY P w K mg base C BR BT gH fdH) (B : Blt mg) (bs : mg "str" = none) (TB : TabB base mg (He.codeOf K ("_law_read_right", none)) PT) (fx : He.fAd K ("_law_read_right", none) = f)
    (hmT : (PT, lamQ "_law_read_right") ∈ T) (hu : ∀ p ∈ T, p.1 = PT → p.2 = lamQ "_law_read_right")
    (gC : mg "_law_coin" = some (.ref fC)) (FC : FnP K "_law_coin" sCoin fC fdC) (FT : FnP K "_law_text" (top 36) fT fdT) (gT : mg "_law_text" = some (.ref fT)) :
    FnOk P w K mg base CX0 12 f fd ["_law_till_here", "_law_pair"] (spRr K T) := by
  have GC : FnOk P w K mg base CX0 1 fC fdC ["_law_till_here", "_law_many"] spCoin := ok_coin FC B
  have bC : Binds K fdC ["_law_till_here", "_law_many"] [] := FC.bindsN fun _ _ _ _ _ _ us hl => match us, hl with | [_, _], _ => rfl
  have GT : FnOk P w K mg base CX0 1 fT fdT ["_law_pair"] (spTx K) := ok_text FT bs
  have bT : Binds K fdT ["_law_pair"] [] := FT.bindsN fun _ _ _ _ _ _ us hl => match us, hl with | [_], _ => rfl
  obtain ⟨fE, fdE, ME, GE, bE⟩ := R.eq
  obtain ⟨mc, pR, fRd, cr, cm, FR⟩ := R.read_
  have cl := R.T.cls
  refine okC F scRr (fun vs H Q E h => ?_) (fun c hcd A outer s H vs Q E hr h => ?_)
  · obtain ⟨t, o, cs, cells, i, g, p, q, rfl, _⟩ := h
    rfl
  · obtain ⟨t, o, cs, cells, i, g, p, q, rfl, hT, hi0, hi1, hg, hp, zp, zq, q0, gpq, hTb, k⟩ := h
    obtain rfl := hcd _ fx
    have hr11 : Room 11 _ := hr
    have hr1 : Room 1 _ := hr11.mono (by decide)
    refine ⟨_, PSs.nox (pss_cons (ps_par (i := 2) (j := 3) rfl scRr.nd rfl rfl (by decide) rfl rfl (pa_cons (pe_call GT hr1 rfl gT FT.kp bT .nil pass0 (pa_cons (pv 1) pa_nil)) (pa_cons (pe_call GC hr1 rfl gC FC.kp bC .nil pass0 (pa_cons (pv 0) (pa_cons pe_int pa_nil))) pa_nil)) rfl)
      (pss_cons (ps_set (i := 4) scRr.nd rfl (.inr rfl) (pe_ix ix_list (pe_lst (pa_cons (pe_op op_add_str (pv 2) pe_str) (pa_cons (pe_op op_add_str (pv 2) pe_str) (pa_cons (pe_op op_add_str pe_str (pv 2)) (pa_cons (pe_op op_add_str pe_str (pv 2)) (pa_cons (pe_op op_add_str (pv 2) pe_str) (pa_cons (pe_op op_add_str pe_str (pv 2)) (pa_cons (pe_op op_add_str (pv 2) pe_str) (pa_cons (pe_op op_add_str (pv 2) pe_str) pa_nil))))))))) (pv 3) (fun _ _ => rfl)))
      (pss_cons (ps_set (i := 5) scRr.nd rfl (.inl rfl) (pe_ifExp (pt_cmpR op_lt (pv 3) pe_int (nomark _)) pe_int pe_int))
      (pss_cons (ps_if (pt_cmpR (op_neD hr11.units) (pe_heard (k := 9) R.H TB rfl hmT hu hr11 rfl (lamS_by (sc := defScope (top 41)) (by decide +kernel)) rfl (fun _ _ _ _ _ => rfl) (fun A outer s H E f c' hr9 => pe_cmeth (pe_glob (v := .ref _) rfl R.g rfl) cr cm FR (hr9.mono (by decide)) (E := E) (passE (takes_of rfl rfl rfl rfl)) (pa_cons (pv 4) pa_nil))) (pe_tup (pa_cons pe_str (pa_cons pe_int (pa_cons (pv 5) pa_nil)))) (nomark _)) (pss_one (ps_ret pe_bl)) pss_nil)
      (pss_cons (ps_set (i := 6) scRr.nd rfl (.inl rfl) (pe_op op_add pe_int (pe_call GC hr1 rfl gC FC.kp bC .nil pass0 (pa_cons (pv 0) (pa_cons pe_int pa_nil)))))
      (pss_cons (ps_for PassesOwn.never rfl (pi_list (pe_lst (pa_cons (pe_op op_add_str (pe_op op_add_str (pe_callTy call_str_int (by rfl) bs PyProof.Rows.boot_str (pa_cons (pe_op op_mulW (pv 6) (pe_ix ix_tup (pv 1) pe_int (fun _ _ => rfl))) pa_nil)) pe_str) (pe_callTy call_str_int (by rfl) bs PyProof.Rows.boot_str (pa_cons (pe_op op_mulW (pv 6) (pe_ix ix_tup (pv 1) pe_int (fun _ _ => rfl))) pa_nil))) (pa_cons pe_str (pa_cons pe_str (pa_cons pe_str (pa_cons pe_str (pa_cons pe_str (pa_cons pe_str (pa_cons pe_non (pa_cons pe_int (pa_cons (pe_lst (pa_cons pe_str pa_nil)) pa_nil)))))))))))) (pg_name (i := 7) scRr.nd rfl (Or.inr rfl)) (pss_one (ps_if (pt_cmpR (op_neD hr11.units) (pe_heard (k := 9) R.H TB rfl hmT hu hr11 rfl (lamS_by (sc := defScope (top 41)) (by decide +kernel)) rfl (fun _ _ _ _ _ => rfl) (fun A outer s H E f c' hr9 => pe_cmeth (pe_glob (v := .ref _) rfl R.g rfl) cr cm FR (hr9.mono (by decide)) (E := E) (passE (takes_of rfl rfl rfl rfl)) (pa_cons (pv 7) pa_nil))) (pe_tup (pa_cons pe_str (pa_cons pe_int (pa_cons pe_int pa_nil)))) (nomark _)) (pss_one (ps_ret pe_bl)) pss_nil)))
      (pss_cons (ps_set (i := 8) scRr.nd rfl (.inr rfl) (pe_op op_add_str pe_str (pe_op op_mul_str pe_str pe_int)))
      (pss_cons (ps_if (PW.pt (pw_or (pt_cmpR (op_neD hr11.units) (pe_heard (k := 9) R.H TB rfl hmT hu hr11 rfl (lamS_by (sc := defScope (top 41)) (by decide +kernel)) rfl (fun _ _ _ _ _ => rfl) (fun A outer s H E f c' hr9 => pe_cmeth (pe_glob (v := .ref _) rfl R.g rfl) cr cm FR (hr9.mono (by decide)) (E := E) (passE (takes_of rfl rfl rfl rfl)) (pa_cons (pe_op op_add_str (pe_op op_add_str pe_str (pv 8)) pe_str) pa_nil))) (pe_tup (pa_cons pe_str (pa_cons pe_int (pa_cons pe_int pa_nil)))) (nomark _)) (pw_or1 (pt_cmpR (op_neOwn ME R.ne R.ob GE (hr11.mono (by decide)) bE (E := E0) pass0) (pe_cmeth (pe_glob (v := .ref _) rfl R.g rfl) cr cm FR (hr11.mono (by decide)) (E := E0) passL (pa_cons (pe_op op_add_str pe_str (pv 8)) pa_nil)) (pe_rat2K R.toRatK (hr11.mono (by decide)) (E := E0) passL rfl (pa_cons pe_int (pa_cons (pe_op op_pow pe_int pe_int) pa_nil))) (nomark _))))) (pss_one (ps_ret pe_bl)) pss_nil)
      (pss_one (ps_ret (pe_and (pe_cmpR (op_eqOwn ME GE (hr11.mono (by decide)) bE (E := E0) pass0) (pe_cmeth (pe_glob (v := .ref _) rfl R.g rfl) cr cm FR (hr11.mono (by decide)) (E := E0) passL (pa_cons (pv 8) pa_nil)) (pe_op op_pow pe_int pe_int) (nomark _)) (pe_and (pe_cmpR (op_eqD hr11.units) (pe_heard (k := 9) R.H TB rfl hmT hu hr11 rfl (lamS_by (sc := defScope (top 41)) (by decide +kernel)) rfl (fun _ _ _ _ _ => rfl) (fun A outer s H E f c' hr9 => pe_cmeth (pe_glob (v := .ref _) rfl R.g rfl) cr cm FR (hr9.mono (by decide)) (E := E) (passE (takes_of rfl rfl rfl rfl)) (pa_cons (pe_op op_add_str (pv 8) pe_str) pa_nil))) (pe_tup (pa_cons pe_str (pa_cons pe_int (pa_cons pe_int pa_nil)))) (nomark _)) (pe_one (pe_cmpR (op_eqOwn ME GE (hr11.mono (by decide)) bE (E := E0) pass0) (pe_cmeth (pe_glob (v := .ref _) rfl R.g rfl) cr cm FR (hr11.mono (by decide)) (E := E0) passL (pa_cons (pe_op op_add_str pe_str (pv 8)) pa_nil)) (pe_un un_neg (pe_op op_pow pe_int pe_int)) (nomark _))))))))))))))), ?_⟩
    have big : ∀ {u : Int}, u.natAbs < 10 ^ 30 → u.natAbs < 10 ^ 60 := fun h => Nat.lt_trans h (by decide +kernel)
    have sp : Sz p := s1_sz (s1_ten zp)
    have sq : Sz q := s1_sz (s1_ten zq)
    have ts := text_short q0 (big zp) (big zq)
    have sz2 : ∀ x : Str, x.length ≤ 2 → (textR p q).length + x.length ≤ sizeLine ∧ x.length + (textR p q).length ≤ sizeLine := fun x h => by rw [sizeLine_eq]; omega
    refine ⟨_, rfl, o, p, q, rfl, SqT.of hp, sp, sq, _, rfl, t, cs, cells, i, g, 8, rfl, hT, hi0, by omega, hg, by decide, by decide +kernel, fun r i1 g1 H1 r0 r1 i10 i11 g10 k1 T1 => ⟨_, _, rfl, ?_⟩⟩
    obtain ⟨n, rfl⟩ : ∃ n : Nat, r = n := ⟨r.toNat, by omega⟩
    have hn : n < 8 := by omega
    obtain ⟨wb, ew, bw⟩ := bents q0 gpq (big zp) (big zq) n hn
    have not_ : ∀ {b : Addr} {u : HO}, H b = some u → (∀ xs, u ≠ .lst xs) → b ≠ t := fun {b u} e q z => by
      rw [z, hT.ht] at e
      cases e
      exact q _ rfl
    have Tb1 : Tabs T H1 := fun x hx => by
      obtain ⟨ps, h1, h2, h3⟩ := hTb x hx
      refine ⟨ps, k1 _ _ (not_ h1 fun _ z => by cases z) h1, h2, fun pos cv hc => ?_⟩
      obtain ⟨c, e1, e2⟩ := h3 pos cv hc
      exact ⟨c, e1, k1 _ _ (not_ e2 fun _ z => by unfold CodeO at z; cases z) e2⟩
    have hp1 : H1 o = some (.tup [.int p, .int q]) := k1 _ _ (not_ hp fun _ z => by cases z) hp
    replace k : ∀ (i' g' : Int) (H' : Hp), 0 ≤ i' → i' ≤ i + 2 → 0 ≤ g' → ExtB t H1 H' → Tabs T H' → Till H' t cs cells i' g' → Q (.bl true) H' := fun i' g' H' a b c e => k i' g' H' a b c fun x o hx ho q => e x o hx (k1 x o hx ho) q
    clear not_ hT hTb k1 hp
    refine ⟨_, rfl, _, _, rfl, rfl, (sz2 _ (by decide)).1, _, rfl, _, _, rfl, rfl, (sz2 _ (by decide)).1, _, rfl, _, _, rfl, rfl, (sz2 _ (by decide)).2, _, rfl, _, _, rfl, rfl, (sz2 _ (by decide)).2, _, rfl, _, _, rfl, rfl, (sz2 _ (by decide)).1, _, rfl, _, _, rfl, rfl, (sz2 _ (by decide)).2, _, rfl, _, _, rfl, rfl, (sz2 _ (by decide)).1, _, rfl, _, _, rfl, rfl, (sz2 _ (by decide)).1, by rw [sizeLine_eq]; show 8 ≤ 16777216; decide, fun pl nl => ?_⟩
    refine ⟨_, rfl, pl, _, (n : Int), .str wb, rfl, rfl, SqL.of upd_same, atI_nat (show ((bentS (textR p q)).map V.str)[n]? = some (.str wb) by rw [List.getElem?_map, ew]; rfl), ?_⟩
    have s2 := fun o => same_updR (H := H1) (p := pl) (o := o) nl
    dsimp only [gName, tNext, tSeq, tAsg]
    refine way_if rfl ?_
    generalize (if (n : Int) < 2 then (1 : Int) else 0) = wd at bw ⊢
    refine told_text R.H (w := .int wd) (l := .int 0) (Tabs.same Tb1 (s2 _)) (fun H3 E Q' e3 rz => ⟨rfl, _, rfl, sp_bad bw rz⟩) fun pe H3 e3 T3 h3 => ?_
    refine ⟨_, rfl, by rw [sizeLine_eq]; show 3 ≤ 16777216; decide, fun pu nu => ?_⟩
    have s4 := same_updR (o := .tup [.str "text", .int 0, .int wd]) nu
    have h3' := s4 _ _ h3
    have hu4 : upd H3 pu (.tup [.str "text", .int 0, .int wd]) pu = some (.tup [.str "text", .int 0, .int wd]) := upd_same
    generalize upd H3 pu (.tup [.str "text", .int 0, .int wd]) = H4 at s4 h3' hu4 ⊢
    refine ⟨_, _, dp_txt h3', dp_txt hu4, shaped_txt _, shaped_txt _, false, congrArg V.bl (by rw [eqv_txt]; rfl), iteF ?_⟩
    have e14 : ExtN H1 H4 := (ExtN.same (s2 _)).trans (e3.trans (ExtN.same s4))
    have T4 : Tabs T H4 := Tabs.same T3 s4
    clear s2 s4 h3 h3' hu4 nu T3 e3 nl
    have hp4 : H4 o = some (.tup [.int p, .int q]) := e14 _ _ hp1 fun _ z => by cases z
    have Tl4 := T1.extN e14
    replace k : ∀ (i' g' : Int) (H' : Hp), 0 ≤ i' → i' ≤ i + 2 → 0 ≤ g' → ExtB t H4 H' → Tabs T H' → Till H' t cs cells i' g' → Q (.bl true) H' := fun i' g' H' a b c e => k i' g' H' a b c fun x o hx ho q => e x o hx (e14 x o ho q) q
    clear e14 hp1 T1 Tb1
    dsimp only [tNext]
    refine ⟨_, rfl, t, cs, cells, i1, g1, 5, rfl, Tl4, i10, by omega, g10, by decide, by decide +kernel, fun r2 i2 g2 H5 r20 r21 i20 i21 g20 k5 T5 => ⟨_, _, rfl, rfl, ?_⟩⟩
    have not_ : ∀ {b : Addr} {u : HO}, H4 b = some u → (∀ xs, u ≠ .lst xs) → b ≠ t := fun {b u} e q z => by
      rw [z, Tl4.ht] at e
      cases e
      exact q _ rfl
    have Tb5 : Tabs T H5 := fun x hx => by
      obtain ⟨ps, h1, h2, h3⟩ := T4 x hx
      refine ⟨ps, k5 _ _ (not_ h1 fun _ z => by cases z) h1, h2, fun pos cv hc => ?_⟩
      obtain ⟨c, e1, e2⟩ := h3 pos cv hc
      exact ⟨c, e1, k5 _ _ (not_ e2 fun _ z => by unfold CodeO at z; cases z) e2⟩
    have hp5 : H5 o = some (.tup [.int p, .int q]) := k5 _ _ (not_ hp4 fun _ z => by cases z) hp4
    replace k : ∀ (H' : Hp), ExtN H5 H' → Tabs T H' → Q (.bl true) H' := fun H' e T' => k i2 g2 H' i20 (by omega) g20 (fun x o hx ho q => e x o (k5 x o hx ho) q) T' (T5.extN e)
    clear not_ k5 hp4 T4 Tl4 T5 hg i20 g20 i10 g10 hi0 hi1
    have t2 : 2 ≤ (2 + r2) := by omega
    have t6 : (2 + r2) ≤ 6 := by omega
    have ix0 : atI [V.int p, V.int q] 0 = some (.int p) := rfl
    have ix1 : atI [V.int p, V.int q] 1 = some (.int q) := rfl
    have st : Sz (2 + r2) := by
      show (2 + r2).natAbs < 2 ^ 1900
      have : (6 : Nat) < 2 ^ 1900 := by decide +kernel
      omega
    have tmul : ∀ {u : Int}, u.natAbs < 10 ^ 30 → ((2 + r2) * u).natAbs < 10 ^ 60 := fun {u} h => by
      rw [Int.natAbs_mul]
      have h1 : (2 + r2).natAbs ≤ 6 := by omega
      have h2 : (2 + r2).natAbs * u.natAbs ≤ 6 * u.natAbs := Nat.mul_le_mul_right _ h1
      have h3 : (6 : Nat) * 10 ^ 30 < 10 ^ 60 := by decide +kernel
      have h4 : 6 * u.natAbs ≤ 6 * 10 ^ 30 := Nat.mul_le_mul_left _ (Nat.le_of_lt h)
      omega
    have m1 := tmul zp
    have m2 := tmul zq
    have szb : ∀ {u : Int}, u.natAbs < 10 ^ 60 → Sz u := fun h => Nat.lt_trans h (by decide +kernel)
    have l1 := iL_len m1
    have l2 := iL_len m2
    rw [← iL_int, ← len_tl] at l1 l2
    have ls : (Str.ofString "/").length = 1 := rfl
    delta tFor iList
    refine ⟨_, rfl, _, rfl, o, _, _, _, rfl, rfl, SqT.of hp5, ix0, _, _, rfl, rfl, sz_mul st sp, (2 + r2) * p, rfl, sz_log (szb m1), _, _, rfl, rfl, by rw [sizeLine_eq]; omega, _, rfl, _, rfl, o, _, _, _, rfl, rfl, SqT.of hp5, ix1, _, _, rfl, rfl, sz_mul st sq, (2 + r2) * q, rfl, sz_log (szb m2), _, _, rfl, rfl, by rw [strLen_append, sizeLine_eq]; omega, by rw [sizeLine_eq]; show 1 ≤ 16777216; decide, fun pz nz => ⟨by rw [sizeLine_eq]; show 10 ≤ 16777216; decide, fun pl nl => ?_⟩⟩
    have sz5 := same_updR (o := .lst [.str "1"]) nz
    have sl5 := same_updR (o := .lst [V.str ((Str.ofString (toString ((2 + r2) * p)) ++ "/") ++ Str.ofString (toString ((2 + r2) * q))), .str "-0", .str "1/-2", .str "1/0", .str "", .str "2//3", .str "1/1", .non, .int 7, .ref pz]) nl
    have hpz := sl5 _ _ (upd_same (H := H5) (a := pz) (o := .lst [.str "1"]))
    have hpl : upd (upd H5 pz (.lst [.str "1"])) pl (.lst [V.str ((Str.ofString (toString ((2 + r2) * p)) ++ "/") ++ Str.ofString (toString ((2 + r2) * q))), .str "-0", .str "1/-2", .str "1/0", .str "", .str "2//3", .str "1/1", .non, .int 7, .ref pz]) pl = some (.lst [V.str ((Str.ofString (toString ((2 + r2) * p)) ++ "/") ++ Str.ofString (toString ((2 + r2) * q))), .str "-0", .str "1/-2", .str "1/0", .str "", .str "2//3", .str "1/1", .non, .int 7, .ref pz]) := upd_same
    have e56 := ExtN.same (sz5.trans sl5)
    have T6 : Tabs T _ := Tabs.same Tb5 (sz5.trans sl5)
    refine ⟨pl, rfl, ⟨_, SqL.of hpl⟩, ?_⟩
    have rb : ∀ x ∈ [V.str ((Str.ofString (toString ((2 + r2) * p)) ++ "/") ++ Str.ofString (toString ((2 + r2) * q))), .str "-0", .str "1/-2", .str "1/0", .str "", .str "2//3", .str "1/1", .non, .int 7, .ref pz], ReadBad (upd (upd H5 pz (.lst [.str "1"])) pl (.lst [V.str ((Str.ofString (toString ((2 + r2) * p)) ++ "/") ++ Str.ofString (toString ((2 + r2) * q))), .str "-0", .str "1/-2", .str "1/0", .str "", .str "2//3", .str "1/1", .non, .int 7, .ref pz])) x := fun x hx => by
      simp only [List.mem_cons, List.not_mem_nil, or_false] at hx
      rcases hx with rfl | rfl | rfl | rfl | rfl | rfl | rfl | rfl | rfl | rfl
      · exact .inl ⟨_, rfl, bad_times t2 q0 m1 m2⟩
      · exact .inl ⟨_, rfl, bad_lits _ (by decide)⟩
      · exact .inl ⟨_, rfl, bad_lits _ (by decide)⟩
      · exact .inl ⟨_, rfl, bad_lits _ (by decide)⟩
      · exact .inl ⟨_, rfl, bad_lits _ (by decide)⟩
      · exact .inl ⟨_, rfl, bad_lits _ (by decide)⟩
      · exact .inl ⟨_, rfl, bad_lits _ (by decide)⟩
      · exact .inr (.inl rfl)
      · exact .inr (.inr (.inl ⟨_, rfl⟩))
      · exact .inr (.inr (.inr ⟨_, _, rfl, hpz⟩))
    generalize upd (upd H5 pz (.lst [.str "1"])) pl (.lst [V.str ((Str.ofString (toString ((2 + r2) * p)) ++ "/") ++ Str.ofString (toString ((2 + r2) * q))), .str "-0", .str "1/-2", .str "1/0", .str "", .str "2//3", .str "1/1", .non, .int 7, .ref pz]) = H6 at hpl e56 T6 rb ⊢
    refine for_it (walk_list (K := K) (a := pl) (xs := [V.str ((Str.ofString (toString ((2 + r2) * p)) ++ "/") ++ Str.ofString (toString ((2 + r2) * q))), .str "-0", .str "1/-2", .str "1/0", .str "", .str "2//3", .str "1/1", .non, .int 7, .ref pz])) (fun m σ H' => (∃ v7, σ = [some (.ref t), some (.ref o), some (.str (textR p q)), some (.int (n : Int)), some (.str wb), some (.int wd), some (.int (2 + r2)), v7, none]) ∧ ExtN H6 H' ∧ Tabs T H') ⟨⟨none, rfl⟩, ExtN.refl _, T6⟩ (fun i σ H' _ q => SqL.of (q.2.1 _ _ hpl fun _ z => by cases z)) ?_ ?_
    · rintro i x σ H7 H8 hi ⟨⟨v7, rfl⟩, e67, T7⟩ ⟨rfl, ex⟩
      have xb := (rb x (List.mem_of_getElem? ex)).extN e67
      dsimp only [gName]
      refine told_text R.H (w := .int 0) (l := .int 0) T7 (fun H9 E Q' e9 rz => ⟨rfl, _, rfl, (xb.extN e9).sp rz⟩) fun pe H9 e9 T9 h9 => ?_
      refine ⟨by rw [sizeLine_eq]; show 3 ≤ 16777216; decide, fun pu nu => ?_⟩
      have s10 := same_updR (o := .tup [.str "text", .int 0, .int 0]) nu
      exact ⟨_, _, dp_txt (s10 _ _ h9), dp_txt upd_same, shaped_txt _, shaped_txt _, false, congrArg V.bl (by rw [eqv_txt]; rfl), iteF ⟨⟨some x, rfl⟩, e67.trans (e9.trans (ExtN.same s10)), Tabs.same T9 s10⟩⟩
    · rintro σ H7 ⟨⟨v7, rfl⟩, e67, T7⟩
      replace k : ∀ (H' : Hp), ExtN H7 H' → Tabs T H' → Q (.bl true) H' := fun H' e T' => k H' (e56.trans (e67.trans e)) T'
      clear e56 e67 rb hpl nl nz sz5 sl5 hpz T6 Tb5 hp5
      refine ⟨_, _, rfl, rfl, by decide, by decide, by decide, by decide, _, _, rfl, rfl, by rw [sizeLine_eq]; decide +kernel, ?_⟩
      obtain ⟨⟨w1, r1⟩, ⟨w2, r2'⟩, ⟨w3, r3⟩⟩ := long_reads
      obtain ⟨ll1, ll2, ll3, ll4, ll5⟩ := long_len
      dsimp only [gName]
      refine told_text R.H (w := .int 0) (l := .int 0) T7 (fun H9 E Q' e9 rz => ⟨rfl, _, rfl, _, _, rfl, rfl, by rw [sizeLine_eq]; decide +kernel, _, _, rfl, rfl, by rw [sizeLine_eq]; decide +kernel, sp_bad (w := (("1/" : Str) ++ longT) ++ "0") (bad_none (by rw [ll5]; decide) long_32.2 long_bad.2) rz⟩) fun pe H9 e9 T9 h9 => ?_
      refine ⟨by rw [sizeLine_eq]; show 3 ≤ 16777216; decide, fun pu nu => ?_⟩
      have s10 := same_updR (o := .tup [.str "text", .int 0, .int 0]) nu
      refine ⟨_, _, dp_txt (s10 _ _ h9), dp_txt upd_same, shaped_txt _, shaped_txt _, false, congrArg V.bl (by rw [eqv_txt]; rfl), iteF ?_⟩
      have l59 := low_self (p := 1) (q := (10 : Int) ^ (59 : Int).toNat) (by decide +kernel) (by decide +kernel)
      refine ⟨rfl, _, rfl, _, _, rfl, rfl, by rw [sizeLine_eq]; decide +kernel, ?_⟩
      dsimp only [tNil]
      refine sp_good (K := K) (C := C) (BT := BT) (w := ("1/" : Str) ++ longT) (by rw [ll2]; decide) w2 r2' fun ra Ha sa raA => ?_
      refine ⟨_, _, rfl, rfl, ⟨by decide, by decide, by decide⟩, _, _, rfl, .inl ⟨1, _, rfl, rfl, by decide +kernel, by decide +kernel, by decide +kernel, fun rb_ Hb sb rbB => ?_⟩⟩
      rw [l59.1, l59.2] at rbB
      replace raA := raA.same sb
      refine ⟨ra, .ref C, rfl, raA.ins, ty_ins rbB.ins, by simp [PySem.W.notFirst], ra, _, _, _, rfl, raA, .inl ⟨rb_, _, _, rfl, rbB, _, rfl, false, congrArg V.bl (by decide +kernel), iteF ?_⟩⟩
      dsimp only [tNext]
      refine ⟨rfl, _, rfl, ?_⟩
      dsimp only [tNil]
      refine sp_good (K := K) (C := C) (BT := BT) (w := longT) (by rw [ll1]; decide) w1 r1 fun rc Hc sc rcC => ?_
      refine ⟨_, _, rfl, rfl, ⟨by decide, by decide, by decide⟩, rc, .type "int", rfl, rcC.ins, ty_plain (plainT_int _), R.nf "int" (by simp), rc, _, _, _, rfl, rcC, .inr (.inl ⟨_, rfl, _, rfl, true, congrArg V.bl (by decide +kernel), iteT ?_⟩)⟩
      have s11 := sa.trans (sb.trans sc)
      refine told_text R.H (w := .int 0) (l := .int 0) (Tabs.same T9 (s10.trans s11)) (fun H12 E Q' e12 rz => ⟨rfl, _, rfl, _, _, rfl, rfl, by rw [sizeLine_eq]; decide +kernel, sp_bad (w := longT ++ "0") (bad_none (by rw [ll4]; decide) long_32.1 long_bad.1) rz⟩) fun pe2 H12 e12 T12 h12 => ?_
      refine ⟨by rw [sizeLine_eq]; show 3 ≤ 16777216; decide, fun pu2 nu2 => ?_⟩
      have s13 := same_updR (o := .tup [.str "text", .int 0, .int 0]) nu2
      refine ⟨_, _, dp_txt (s13 _ _ h12), dp_txt upd_same, shaped_txt _, shaped_txt _, true, congrArg V.bl (by rw [eqv_txt]), iteT ?_⟩
      refine ⟨rfl, _, rfl, _, _, rfl, rfl, by rw [sizeLine_eq]; decide +kernel, ?_⟩
      dsimp only [tNil]
      refine sp_good (K := K) (C := C) (BT := BT) (w := ("-" : Str) ++ longT) (by rw [ll3]; decide) w3 r3 fun rd Hd sd rdD => ?_
      refine ⟨_, _, rfl, rfl, ⟨by decide, by decide, by decide⟩, _, rfl, rd, .type "int", rfl, rdD.ins, ty_plain (plainT_int _), R.nf "int" (by simp), rd, _, _, _, rfl, rdD, .inr (.inl ⟨_, rfl, _, rfl, ?_⟩)⟩
      have z := k Hd (e9.trans ((ExtN.same (s10.trans s11)).trans (e12.trans (ExtN.same (s13.trans sd))))) (Tabs.same T12 (s13.trans sd))
      have ee : ∀ b : Bool, b = true → Q (.bl b) Hd := fun b e => by rw [e]; exact z
      exact ee _ (by decide +kernel)
end
end K01
namespace K01
open PySem PySem.Spec PyProof.Rows L2 RatM TL LamX ClX
/-- what the names' def rests on -/
structure NmK (P : Program) (w : World) (K : PySem.W.Frag) (mg : Str → Option Value) (base : Heap) : Prop where
  nm : ∃ (f : Addr) (fd : FuncData), FnOk P w K mg base CX0 1 f fd ["value"] (spNm K) ∧ Binds K fd ["value"] [] ∧ BindsK fd ["value"] ∧ PySem.W.keepIn K (.ref f) = true ∧ mg "is_name" = some (.ref f)
  nms : ∃ (f : Addr) (fd : FuncData), FnOk P w K mg base CX0 3 f fd ["value"] (spNms K) ∧ Binds K fd ["value"] [] ∧ BindsK fd ["value"] ∧ PySem.W.keepIn K (.ref f) = true ∧ mg "are_names" = some (.ref f)
  isI : ∃ (f : Addr) (fd : FuncData), FnOk P w K mg base CX0 1 f fd ["value"] (spIsI K) ∧ Binds K fd ["value"] [] ∧ PySem.W.keepIn K (.ref f) = true ∧ mg "is_integer" = some (.ref f)
  wn : ∃ (f : Addr) (fd : FuncData), FnOk P w K mg base CX0 2 f fd ["value", "least", "most"] (spWn K) ∧ Binds K fd ["value", "least", "most"] [] ∧ PySem.W.keepIn K (.ref f) = true ∧ mg "is_within" = some (.ref f)
section
variable {P : Program} {w : World} {K : PySem.W.Frag} {mg : Str → Option Value} {base : Heap}
abbrev nsNr : List Str := ["_law_till_here", "_law_signs", "_law_size", "_law_text_here", "_law_at", "_law_bent", "_law_name", "_law_odd", "_law_low", "_law_high", "_law_number_here", "_law_turn"]
theorem scNr : FnScope nsNr ["_law_till_here"] (defScope (top 43)) := ⟨rfl, rfl, rfl, by decide +kernel, rfl, by decide +kernel, by decide +kernel⟩
def spNr : Sp := fun vs H Q _ => ∃ (t c : Addr) (cells : List Int) (i g : Int), vs = [.ref t] ∧ Till H t c cells i g ∧ 0 ≤ i ∧ i ≤ 900000 ∧ 0 ≤ g ∧
  ∀ (i' g' : Int) (H' : Hp), 0 ≤ i' → i' ≤ i + 19 → 0 ≤ g' → Keep t H H' → Till H' t c cells i' g' → Q (.bl true) H'
/-- a text as the law draws them -/
def OkS (w : Str) : Prop := w.length ≤ 100 ∧ ∀ c ∈ tl w, c < 0x110000
theorem tl_one (c : Nat) : tl (⟨#[c]⟩ : Str) = [c] := rfl
theorem joinL_one : ∀ ys : List Nat, joinL [] (ys.map fun c => [c]) = ys
  | [] => rfl
  | [c] => rfl
  | c :: d :: r => by
    show [c] ++ ([] ++ joinL [] ((d :: r).map fun c => [c])) = c :: d :: r
    rw [joinL_one (d :: r)]
    rfl
theorem tl_join1 (ys : List Nat) : tl (Txt.join "" (ys.map fun c => (⟨#[c]⟩ : Str))) = ys := by
  have z := SX.join_S [] (ys.map fun c => [c])
  rw [List.map_map] at z
  have e : Txt.join "" (ys.map fun c => (⟨#[c]⟩ : Str)) = SX.S (joinL [] (ys.map fun c => [c])) := z
  rw [e, joinL_one]
def signS : Str := "abcdefghijklmnopqrstuvwxyz0123456789"
theorem sign_at {n : Nat} (h : n < 36) : ∃ c, (tl signS)[n]? = some c ∧ c < 0x110000 := by
  have l : (tl signS).length = 36 := by decide +kernel
  have a : ∀ c ∈ tl signS, c < 0x110000 := by decide +kernel
  exact ⟨(tl signS)[n], List.getElem?_eq_getElem (by omega), a _ (List.getElem_mem (by omega))⟩
theorem OkS.app {x y : Str} (hx : ∀ c ∈ tl x, c < 0x110000) (hy : ∀ c ∈ tl y, c < 0x110000) : ∀ c ∈ tl (x ++ y), c < 0x110000 := fun c h => by
  rw [tl_append] at h
  exact (List.mem_append.mp h).elim (hx c) (hy c)
theorem cut_mem {z : Str} {lo hi : Option Int} {c : Nat} (h : c ∈ tl (cutS z lo hi)) : c ∈ tl z := by
  have e : tl (cutS z lo hi) = ((tl z).drop (HT.sIx z.length 0 lo)).take (HT.sIx z.length z.length hi - HT.sIx z.length 0 lo) := by simp [tl, cutS]
  rw [e] at h
  exact List.mem_of_mem_drop (List.mem_of_mem_take h)
theorem and_bl {ta tb : TE} {σ : L2.St} {H : Hp} {Q : VK} (b c : Bool) (h1 : ∀ Q' : VK, (∀ H', Same H H' → Q' (.bl b) H') → ta σ H Q') (h2 : ∀ (H : Hp) (Q' : VK), (∀ H', Same H H' → Q' (.bl c) H') → tb σ H Q') (k : ∀ H', Same H H' → Q (.bl (b && c)) H') : tAndV ta tb σ H Q :=
  h1 _ fun H1 s1 => ⟨b, rfl, by
    cases b with
    | false => exact iteF (k H1 s1)
    | true => exact iteT (h2 H1 _ fun H2 s2 => k H2 (s1.trans s2))⟩
theorem all3 (a b : Bool) : ([a, b, a].all id) = (a && b) := by cases a <;> cases b <;> rfl
theorem tFor_open {K : PySem.W.Frag} {tl : TE} {g : TG} {tb : TS} {D : Ends} {σ : L2.St} {H : Hp}
    (h : tl σ H fun x H1 => ∃ a, x = .ref a ∧ (∃ xs, SqL K H1 a xs) ∧ ∃ W : Nat → Nat → L2.St → Hp → Prop, (∃ m, W 0 m σ H1) ∧ ∀ i m σ H, W i m σ H →
      ((Itl K a).stop i H ∧ D.nx σ H) ∨ ((Itl K a).go i H ∧ ∃ N : L2.St → Hp → Prop, (∀ σ' H', N σ' H' → ∃ m', m' < m ∧ W (i + 1) m' σ' H') ∧ ∀ x H', (Itl K a).yld i H x H' → g x σ H' fun σ2 H2 => tb { D with nx := N, ct := N, bk := D.nx } σ2 H2)) :
    tFor (iList K tl) g tb D σ H := h
theorem chain_le {σ : L2.St} {H : Hp} {Q : VK} {lo n hi : Int} (i8 : σ[8]? = some (some (.int lo))) (i10 : σ[10]? = some (some (.int n))) (i9 : σ[9]? = some (some (.int hi))) (k : Q (.bl (decide (lo ≤ n) && decide (n ≤ hi))) H) :
    tChain (rI0 fun i j => V.bl (decide (i ≤ j))) (rI0 fun i j => V.bl (decide (i ≤ j))) (tVar 8) (tVar 10) (tVar 9) σ H Q := by
  refine ⟨_, i8, _, i10, _, _, rfl, rfl, decide (lo ≤ n), rfl, ?_⟩
  by_cases c : lo ≤ n
  · rw [decide_eq_true c, Bool.true_and] at k
    rw [decide_eq_true c]
    exact iteT ⟨_, i9, _, _, rfl, rfl, k⟩
  · rw [decide_eq_false c, Bool.false_and] at k
    rw [decide_eq_false c]
    exact iteF k
theorem ok_names {f fO fC fLN : Addr} {fd fdO fdC fdLN : FuncData} (F : FnP K "_law_names_right" (top 43) f fd) (R : NmK P w K mg base) (B : Blt mg) (bR : mg "range" = none) (bl : mg "len" = none)
    (gC : mg "_law_coin" = some (.ref fC)) (FC : FnP K "_law_coin" sCoin fC fdC) (FOf : FnP K "_law_of" sOf fO fdO) (gOf : mg "_law_of" = some (.ref fO)) (FLN : FnP K "_law_is_name" (top 42) fLN fdLN) (gLN : mg "_law_is_name" = some (.ref fLN)) :
    FnOk P w K mg base CX0 11 f fd ["_law_till_here"] spNr := by
  have GC : FnOk P w K mg base CX0 1 fC fdC ["_law_till_here", "_law_many"] spCoin := ok_coin FC B
  have bC : Binds K fdC ["_law_till_here", "_law_many"] [] := FC.bindsN fun _ _ _ _ _ _ us hl => match us, hl with | [_, _], _ => rfl
  have GOf : FnOk P w K mg base CX0 2 fO fdO ["_law_till_here", "_law_some"] spOf := ok_of FOf B gC FC
  have bOf : Binds K fdO ["_law_till_here", "_law_some"] [] := FOf.bindsN fun _ _ _ _ _ _ us hl => match us, hl with | [_, _], _ => rfl
  have GLN : FnOk P w K mg base CX0 1 fLN fdLN ["_law_text_here"] spLN := ok_lawName FLN bl
  have bLN : Binds K fdLN ["_law_text_here"] [] := FLN.bindsN fun _ _ _ _ _ _ us hl => match us, hl with | [_], _ => rfl
  obtain ⟨fN, fdN, GN, bN, bNK, kN, gN⟩ := R.nm
  obtain ⟨fNs, fdNs, GNs, bNs, bNsK, kNs, gNs⟩ := R.nms
  obtain ⟨fI, fdI, GI, bI, kI, gI⟩ := R.isI
  obtain ⟨fW, fdW, GW, bW, kW, gW⟩ := R.wn
  refine F.ok scNr (fun vs H Q E h => ?_) (fun cdv A outer s H vs Q E hr h => ?_)
  · obtain ⟨t, cs, cells, i, g, rfl, _⟩ := h
    rfl
  · obtain ⟨t, cs, cells, i, g, rfl, hT, hi0, hi1, hg, k⟩ := h
    have hr10 : Room 10 _ := hr
    have hr1 : Room 1 _ := hr10.mono (by decide)
    refine ⟨_, PSs.nox (pss_cons (ps_set (i := 1) scNr.nd rfl (.inr rfl) pe_str)
      (pss_cons (ps_set (i := 2) scNr.nd rfl (.inl rfl) (pe_op op_add pe_int (pe_call GC (hr10.mono (by decide)) rfl gC FC.kp bC .nil pass0 (pa_cons (pv 0) (pa_cons pe_int pa_nil)))))
      (pss_cons (ps_set (i := 3) scNr.nd rfl (.inl rfl) (pe_join pe_str (pe_lc (own := [("_law_turn", 11)]) (g := gName 11) (tt := tYes) rfl scNr.nd (pi_range1 (by rfl) bR (pa_cons (pv 2) pa_nil)) (blkOk_by (N := nsNr) (sc := defScope (top 43)) (by decide +kernel)) (fun _ _ _ _ _ => pg_name (i := 11) scNr.nd rfl (Or.inl rfl)) (fun _ _ _ _ _ => pts_nil) (fun _ _ _ _ _ => pe_ix ix_str (pv 1) (pe_call GC (by exact hr1) rfl gC FC.kp bC .nil pass0 (pa_cons (pv 0) (pa_cons pe_int pa_nil))) (fun _ _ => rfl)))))
      (pss_cons (ps_set (i := 4) scNr.nd rfl (.inl rfl) (pe_call GC (hr10.mono (by decide)) rfl gC FC.kp bC .nil pass0 (pa_cons (pv 0) (pa_cons (pv 2) pa_nil))))
      (pss_cons (ps_set (i := 5) scNr.nd rfl (.inl rfl) (pe_op op_add_str (pe_op op_add_str (pe_slice sl_str (pv 3) po_none (po_some (pv 4))) (pe_call GOf (hr10.mono (by decide)) rfl gOf FOf.kp bOf .nil pass0 (pa_cons (pv 0) (pa_cons (pe_lst (pa_cons pe_str (pa_cons pe_str (pa_cons pe_str (pa_cons pe_str (pa_cons pe_str (pa_cons pe_str (pa_cons pe_str (pa_cons pe_str (pa_cons pe_str (pa_cons pe_str pa_nil))))))))))) pa_nil)))) (pe_slice sl_str (pv 3) (po_some (pe_op op_add (pv 4) pe_int)) po_none)))
      (pss_cons (ps_for PassesOwn.never rfl (pi_list (pe_lst (pa_cons (pv 3) (pa_cons (pv 5) (pa_cons (pe_slice sl_str (pv 3) po_none (po_some pe_int)) (pa_cons pe_str (pa_cons (pe_op op_add_str (pe_slice sl_str (pv 3) po_none (po_some pe_int)) pe_str) (pa_cons pe_str pa_nil)))))))) (pg_name (i := 6) scNr.nd rfl (Or.inl rfl)) (pss_one (ps_if (pt_cmpR op_ne (pe_call GN (hr10.mono (by decide)) rfl gN kN bN .nil pass0 (pa_cons (pv 6) pa_nil)) (pe_call GLN (hr10.mono (by decide)) rfl gLN FLN.kp bLN .nil pass0 (pa_cons (pv 6) pa_nil)) (nomark _)) (pss_one (ps_ret pe_bl)) pss_nil)))
      (pss_cons (ps_if (PW.pt (pw_or (pt_cmpR op_ne (pe_call GNs (hr10.mono (by decide)) rfl gNs kNs bNs .nil pass0 (pa_cons (pe_lst (pa_cons (pv 3) (pa_cons (pv 5) (pa_cons (pv 3) pa_nil)))) pa_nil)) (pe_and (pe_call GLN (hr10.mono (by decide)) rfl gLN FLN.kp bLN .nil pass0 (pa_cons (pv 3) pa_nil)) (pe_one (pe_call GLN (hr10.mono (by decide)) rfl gLN FLN.kp bLN .nil pass0 (pa_cons (pv 5) pa_nil)))) (nomark _)) (pw_or1 (pt_cmpR op_notBl (pe_call GNs (hr10.mono (by decide)) rfl gNs kNs bNs .nil pass0 (pa_cons (pe_tup (pa_cons pe_str (pa_cons pe_str pa_nil))) pa_nil)) pe_bl (nomark _))))) (pss_one (ps_ret pe_bl)) pss_nil)
      (pss_cons (ps_for PassesOwn.never rfl (pi_list (pe_lst (pa_cons pe_non (pa_cons pe_int (pa_cons (pe_lst (pa_cons pe_str pa_nil)) (pa_cons pe_bl (pa_cons (pe_disp (pps_cons pe_str pe_int pps_nil) (by rfl) (by rfl) (fun z => by cases z) (by decide)) pa_nil))))))) (pg_name (i := 7) scNr.nd rfl (Or.inl rfl)) (pss_one (ps_if (PW.pt (pw_or (pt_val (pe_callK0 GN (hr10.mono (by decide)) rfl gN kN bNK pass0 (pk_cons (pv 7) pk_nil))) (pw_or1 (pt_val (pe_call GNs (hr10.mono (by decide)) rfl gNs kNs bNs .nil pass0 (pa_cons (pe_lst (pa_cons (pv 7) pa_nil)) pa_nil)))))) (pss_one (ps_ret pe_bl)) pss_nil)))
      (pss_cons (ps_if (PW.pt (pw_or (pt_val (pe_call GNs (hr10.mono (by decide)) rfl gNs kNs bNs .nil pass0 (pa_cons (pe_disp (pps_cons pe_str pe_int pps_nil) (by rfl) (by rfl) (fun z => by cases z) (by decide)) pa_nil))) (pw_or1 (pt_val (pe_callK0 GNs (hr10.mono (by decide)) rfl gNs kNs bNsK pass0 (pk_cons pe_dnewK pk_nil)))))) (pss_one (ps_ret pe_bl)) pss_nil)
      (pss_cons (ps_par3 (i := 8) (j := 9) (l := 10) rfl scNr.nd rfl rfl rfl (by decide) (by decide) (by decide) rfl rfl rfl (pa_cons (pe_op op_sub (pe_call GC (hr10.mono (by decide)) rfl gC FC.kp bC .nil pass0 (pa_cons (pv 0) (pa_cons pe_int pa_nil))) pe_int) (pa_cons (pe_op op_sub (pe_call GC (hr10.mono (by decide)) rfl gC FC.kp bC .nil pass0 (pa_cons (pv 0) (pa_cons pe_int pa_nil))) pe_int) (pa_cons (pe_op op_sub (pe_call GC (hr10.mono (by decide)) rfl gC FC.kp bC .nil pass0 (pa_cons (pv 0) (pa_cons pe_int pa_nil))) pe_int) pa_nil))) rfl)
      (pss_cons (ps_if (PW.pt (pw_or (pt_not (pt_val (pe_call GI (hr10.mono (by decide)) rfl gI kI bI .nil pass0 (pa_cons (pv 10) pa_nil)))) (pw_or (pt_not (pt_val (pe_call GI (hr10.mono (by decide)) rfl gI kI bI .nil pass0 (pa_cons (pe_un un_neg (pe_op op_pow pe_int pe_int)) pa_nil)))) (pw_or1 (pt_not (pt_val (pe_call GW (hr10.mono (by decide)) rfl gW kW bW .nil pass0 (pa_cons (pv 10) (pa_cons pe_non (pa_cons pe_non pa_nil)))))))))) (pss_one (ps_ret pe_bl)) pss_nil)
      (pss_cons (ps_if (PW.pt (pw_or (pt_cmpR op_ne (pe_call GW (hr10.mono (by decide)) rfl gW kW bW .nil pass0 (pa_cons (pv 10) (pa_cons (pv 8) (pa_cons (pv 9) pa_nil)))) (pe_chain op_le op_le (pv 8) (pv 10) (pv 9)) (nomark _)) (pw_or1 (pt_cmpR op_ne (pe_call GW (hr10.mono (by decide)) rfl gW kW bW .nil pass0 (pa_cons (pv 10) (pa_cons (pv 8) (pa_cons pe_non pa_nil)))) (pe_cmpR op_le (pv 8) (pv 10) (nomark _)) (nomark _))))) (pss_one (ps_ret pe_bl)) pss_nil)
      (pss_one (ps_ret (pe_and (pe_cmpR op_isBl (pe_call GNs (hr10.mono (by decide)) rfl gNs kNs bNs .nil pass0 (pa_cons pe_str pa_nil)) pe_bl (nomark _)) (pe_and (pe_cmpR op_isBl (pe_call GNs (hr10.mono (by decide)) rfl gNs kNs bNs .nil pass0 (pa_cons (pe_lst pa_nil) pa_nil)) pe_bl (nomark _)) (pe_one (pe_cmpR op_eq (pe_call GW (hr10.mono (by decide)) rfl gW kW bW .nil pass0 (pa_cons (pv 10) (pa_cons pe_non (pa_cons (pv 9) pa_nil)))) (pe_cmpR op_le (pv 10) (pv 9) (nomark _)) (nomark _))))))))))))))))))), ?_⟩
    refine ⟨_, rfl, t, cs, cells, i, g, 13, rfl, hT, hi0, by omega, hg, by decide, by decide +kernel, fun r i1 g1 H1 r0 r1 i10 i11 g10 k1 T1 => ⟨_, _, rfl, rfl, ?_⟩⟩
    have hsz : (1 + r).toNat ≤ 13 := by omega
    have hsz : (1 + r).toNat ≤ 13 := by omega
    refine ⟨⟨_, rfl⟩, _, rfl, _, rfl, by omega, by omega, fun D nD => ?_⟩
    have nDt : D ≠ t := fun z => by rw [z, T1.ht] at nD; cases nD
    refine lc_range (fun j Hh => ∃ (ys : List Nat) (i' g' : Int), ys.length = j ∧ (∀ c ∈ ys, c < 0x110000) ∧ Hh D = some (.lst (chV ys)) ∧ Keep t H1 Hh ∧ Till Hh t cs cells i' g' ∧ 0 ≤ i' ∧ i' ≤ i1 + j ∧ 0 ≤ g') ⟨[], i1, g1, rfl, (fun c h => by cases h), upd_same, Keep.of (same_updR nD), T1.same (same_updR nD), i10, by omega, g10⟩ (fun j Hh hj hP => ?_) fun Hh hP => ?_
    · obtain ⟨ys, i2, g2, hl, hc, hD, k2, T2, i20, i21, g20⟩ := hP
      refine ⟨rfl, ?_⟩
      unfold tYes
      dsimp only
      rw [if_pos rfl]
      refine ⟨_, rfl, _, rfl, t, cs, cells, i2, g2, 36, rfl, T2, i20, by omega, g20, by decide, by decide +kernel, fun r3 i3 g3 H3 r30 r31 i30 i31 g30 k3 T3 => ?_⟩
      obtain ⟨n, rfl⟩ : ∃ n : Nat, r3 = n := ⟨r3.toNat, by omega⟩
      obtain ⟨c, ec, cc⟩ := sign_at (n := n) (by omega)
      have hD3 := k3 _ _ nDt hD
      refine ⟨signS, (n : Int), c, rfl, rfl, by rw [sizeLine_eq]; decide +kernel, atI_nat ec, chV ys, hD3, by unfold chV; rw [List.length_map, sizeLine_eq]; omega, ys ++ [c], i3, g3, by rw [List.length_append, hl]; rfl, ?_, ?_, ?_, ?_, i30, by omega, g30⟩
      · intro d hd
        rcases List.mem_append.mp hd with hd | hd
        · exact hc d hd
        · rw [List.mem_singleton.mp hd]; exact cc
      · rw [upd_same]; unfold chV; rw [List.map_append]; rfl
      · intro b o hb e
        rw [upd_ne (ne_of_none e nD)]
        exact k3 _ _ hb (k2 _ _ hb e)
      · exact ⟨by rw [upd_ne nDt.symm]; exact T3.ht, by rw [upd_ne (ne_of_none T1.hc nD)]; exact T3.hc, T3.ne⟩
    · obtain ⟨ys, i2, g2, hl, hc, hD, k2, T2, i20, i21, g20⟩ := hP
      have ey : chV ys = (ys.map fun c => (⟨#[c]⟩ : Str)).map V.str := by unfold chV; rw [List.map_map]; rfl
      rw [ey] at hD
      have len1 : ∀ zs : List Nat, ((zs.map fun c => (⟨#[c]⟩ : Str)).map (·.length)).sum = zs.length := fun zs => by
        induction zs with
        | nil => rfl
        | cons c r ih => 
          rw [List.map_cons, List.map_cons, List.sum_cons, ih, List.length_cons]
          show 1 + _ = _
          omega
      refine ⟨_, D, _, rfl, rfl, .inl (SqL.of hD), by rw [len1, List.length_map]; show ys.length + ys.length * 0 ≤ 16777216; omega, ?_⟩
      have tj := tl_join1 ys
      have o3 : OkS (Txt.join "" (ys.map fun c => (⟨#[c]⟩ : Str))) := ⟨by rw [len_tl, tj]; omega, by rw [tj]; exact hc⟩
      have l3 : (Txt.join "" (ys.map fun c => (⟨#[c]⟩ : Str))).length = (1 + r).toNat := by rw [len_tl, tj]; exact hl
      generalize Txt.join (Str.ofString "") (ys.map fun c => (⟨#[c]⟩ : Str)) = w3 at o3 l3 ⊢
      dsimp only [gName]
      replace k : ∀ (i' g' : Int) (H' : Hp), 0 ≤ i' → i' ≤ i2 + 5 → 0 ≤ g' → Keep t Hh H' → Till H' t cs cells i' g' → Q (.bl true) H' := fun i' g' H' a b c e => k i' g' H' a (by omega) c (k1.trans (k2.trans e))
      clear tj len1 ey hD hc hl k2 T1 k1 nD nDt hT ys
      have bigr : (1 + r).natAbs < 2 ^ 8000 := by
        have : (14 : Nat) < 2 ^ 8000 := by decide +kernel
        omega
      have l100 : w3.length ≤ sizeLine := by rw [sizeLine_eq]; have := o3.1; omega
      refine ⟨_, rfl, _, rfl, t, cs, cells, i2, g2, _, rfl, T2, i20, by omega, g20, by omega, bigr, fun r4 i3 g3 H4 r40 r41 i30 i31 g30 k4 T4 => ?_⟩
      refine ⟨_, rfl, _, rfl, r4, rfl, w3, rfl, l100, _, rfl, by rw [sizeLine_eq]; show 10 ≤ 16777216; decide, fun pl nl => ?_⟩
      have nlt : pl ≠ t := fun z => by rw [z, T4.ht] at nl; cases nl
      refine ⟨t, cs, pl, cells, i3, g3, _, rfl, T4.same (same_updR nl), i30, by omega, g30, nlt, upd_same, by show 0 < 10; decide, by show 10 ≤ 10000; decide, fun x i5 g5 H5 hx i50 i51 g50 k5 T5 => ?_⟩
      obtain ⟨sx, rfl, lx, cx⟩ : ∃ sx : Str, x = .str sx ∧ sx.length ≤ 1 ∧ ∀ c ∈ tl sx, c < 0x110000 := by
        simp only [List.mem_cons, List.not_mem_nil, or_false] at hx
        rcases hx with rfl | rfl | rfl | rfl | rfl | rfl | rfl | rfl | rfl | rfl <;> exact ⟨_, rfl, by decide, by decide⟩
      have c1 := cutS_length w3 none (some r4)
      have c2 := cutS_length w3 (some (r4 + 1)) none
      refine ⟨_, _, rfl, rfl, by rw [sizeLine_eq]; have := o3.1; omega, _, rfl, _, rfl, _, _, rfl, rfl, _, rfl, w3, rfl, l100, _, _, rfl, rfl, by rw [strLen_append, sizeLine_eq]; have := o3.1; omega, ?_⟩
      have cm : ∀ lo hi, ∀ c ∈ tl (cutS w3 lo hi), c < 0x110000 := fun lo hi c h => o3.2 c (cut_mem h)
      have ok5 : OkS ((cutS w3 none (some r4) ++ sx) ++ cutS w3 (some (r4 + 1)) none) := ⟨by rw [strLen_append, strLen_append]; omega, OkS.app (OkS.app (cm _ _) cx) (cm _ _)⟩
      have ok12 : OkS (cutS w3 none (some 12)) := ⟨by have := cutS_length w3 none (some 12); omega, cm _ _⟩
      have c11 := cutS_length w3 none (some 11)
      have ln : (Str.ofString "\n").length = 1 := rfl
      have ok11 : OkS (cutS w3 none (some 11) ++ "\n") := ⟨by rw [strLen_append]; omega, OkS.app (cm _ _) (by decide)⟩
      have ok0 : OkS "" := ⟨by decide, by decide⟩
      have okab : OkS "a_b" := ⟨by decide, by decide⟩
      generalize (cutS w3 none (some r4) ++ sx) ++ cutS w3 (some (r4 + 1)) none = w5 at ok5 ⊢
      replace k : ∀ (i' g' : Int) (H' : Hp), 0 ≤ i' → i' ≤ i5 + 3 → 0 ≤ g' → Keep t H5 H' → Till H' t cs cells i' g' → Q (.bl true) H' := fun i' g' H' a b c e => k i' g' H' a (by omega) c (k4.trans ((Keep.of (same_updR nl)).trans (k5.trans e)))
      clear hx lx cx c1 c2 cm nl nlt k4 k5 T4 T2 g30 i30 g20 i20
      dsimp only [gName, tNext, tSeq]
      refine tFor_open ?_
      refine ⟨_, rfl, _, rfl, _, rfl, _, rfl, w3, rfl, l100, _, rfl, _, rfl, w3, rfl, l100, _, _, rfl, rfl, by rw [sizeLine_eq]; omega, by rw [sizeLine_eq]; show 6 ≤ 16777216; decide, fun pl nl => ?_⟩
      have sl := same_updR (o := .lst [V.str w3, .str w5, .str (cutS w3 none (some 12)), .str "", .str (cutS w3 none (some 11) ++ "\n"), .str "a_b"]) nl
      have hpl : upd H5 pl (.lst [V.str w3, .str w5, .str (cutS w3 none (some 12)), .str "", .str (cutS w3 none (some 11) ++ "\n"), .str "a_b"]) pl = some (.lst [V.str w3, .str w5, .str (cutS w3 none (some 12)), .str "", .str (cutS w3 none (some 11) ++ "\n"), .str "a_b"]) := upd_same
      have oks : ∀ x ∈ [V.str w3, .str w5, .str (cutS w3 none (some 12)), .str "", .str (cutS w3 none (some 11) ++ "\n"), .str "a_b"], ∃ w, x = .str w ∧ OkS w := fun x hx => by
        simp only [List.mem_cons, List.not_mem_nil, or_false] at hx
        rcases hx with rfl | rfl | rfl | rfl | rfl | rfl
        · exact ⟨_, rfl, o3⟩
        · exact ⟨_, rfl, ok5⟩
        · exact ⟨_, rfl, ok12⟩
        · exact ⟨_, rfl, ok0⟩
        · exact ⟨_, rfl, ok11⟩
        · exact ⟨_, rfl, okab⟩
      refine ⟨pl, rfl, ⟨_, SqL.of hpl⟩, ?_⟩
      generalize upd H5 pl (.lst [V.str w3, .str w5, .str (cutS w3 none (some 12)), .str "", .str (cutS w3 none (some 11) ++ "\n"), .str "a_b"]) = H6 at sl hpl ⊢
      refine for_it (walk_list (K := K) (a := pl) (xs := [V.str w3, .str w5, .str (cutS w3 none (some 12)), .str "", .str (cutS w3 none (some 11) ++ "\n"), .str "a_b"])) (fun m σ H' => (∃ v6, σ = [some (V.ref t), some (.str signS), some (.int (1 + r)), some (.str w3), some (.int r4), some (.str w5), v6, none, none, none, none, none]) ∧ Same H6 H') ⟨⟨none, rfl⟩, Same.refl _⟩ (fun i σ H' _ q => SqL.of (q.2 _ _ hpl)) ?_ ?_
      · rintro i x σ H7 H8 hi ⟨⟨v6, rfl⟩, s7⟩ ⟨rfl, ex⟩
        obtain ⟨w, rfl, ow⟩ := oks x (List.mem_of_getElem? ex)
        refine ⟨_, rfl, _, rfl, .inl ⟨w, rfl, by have := ow.1; omega, fun H9 s9 => ?_⟩⟩
        refine ⟨_, rfl, w, rfl, by have := ow.1; omega, ow.2, fun H10 s10 => ⟨rfl, false, congrArg V.bl (by rw [decide_eq_true rfl]; rfl), iteF ⟨⟨some (.str w), rfl⟩, s7.trans (s9.trans s10)⟩⟩⟩
      · rintro σ H7 ⟨⟨v6, rfl⟩, s7⟩
        have s57 := sl.trans s7
        clear oks hpl sl s7 nl ok12 ok0 ok11 okab c11 ln
        replace k : ∀ (i' g' : Int) (H' : Hp), 0 ≤ i' → i' ≤ i5 + 3 → 0 ≤ g' → Keep t H7 H' → Till H' t cs cells i' g' → Q (.bl true) H' := fun i' g' H' a b c e => k i' g' H' a b c ((Keep.of s57).trans e)
        replace T5 := T5.same s57
        clear s57
        have nmI : ∀ {H w}, OkS w → NmIs K H (.str w) (nameT w.cps.toList) := fun o => .inl ⟨_, rfl, by have := o.1; omega, rfl⟩
        refine ⟨_, rfl, _, rfl, _, rfl, by rw [sizeLine_eq]; show 3 ≤ 16777216; decide, fun pm nm_ => ?_⟩
        have sm := same_updR (o := .lst [.str w3, .str w5, .str w3]) nm_
        refine ⟨_, rfl, .inl ⟨pm, [.str w3, .str w5, .str w3], [nameT w3.cps.toList, nameT w5.cps.toList, nameT w3.cps.toList], rfl, .inl upd_same, by show 3 ≤ 1000; decide, rfl, fun i x b e1 e2 => ?_, fun H8 s8 => ?_⟩⟩
        · match i, e1, e2 with
          | 0, e1, e2 => cases e1; cases e2; exact nmI o3
          | 1, e1, e2 => cases e1; cases e2; exact nmI ok5
          | 2, e1, e2 => cases e1; cases e2; exact nmI o3
          | i + 3, e1, e2 => cases e1
        refine and_bl (nameT w3.cps.toList) (nameT w5.cps.toList) (fun Q' k' => ⟨_, rfl, w3, rfl, by have := o3.1; omega, o3.2, k'⟩) (fun H Q' k' => ⟨_, rfl, w5, rfl, by have := ok5.1; omega, ok5.2, k'⟩) fun H9 s9 => ?_
        refine ⟨rfl, false, congrArg V.bl (by rw [all3, decide_eq_true rfl]; rfl), iteF ?_⟩
        have nmA : ∀ {H : Hp}, NmIs K H (.str "a") true := .inl ⟨_, rfl, by decide +kernel, by decide +kernel⟩
        refine ⟨by rw [sizeLine_eq]; show 2 ≤ 16777216; decide, fun pa_ na_ => ?_⟩
        refine ⟨_, rfl, .inl ⟨pa_, [.str "a", .str "a"], [true, true], rfl, .inr upd_same, by show 2 ≤ 1000; decide, rfl, fun i x b e1 e2 => ?_, fun H10 s10 => ?_⟩⟩
        · match i, e1, e2 with
          | 0, e1, e2 => cases e1; cases e2; exact nmA
          | 1, e1, e2 => cases e1; cases e2; exact nmA
          | i + 2, e1, e2 => cases e1
        refine ⟨true, true, rfl, rfl, false, congrArg V.bl (by decide), iteF ?_⟩
        have s710 := sm.trans (s8.trans (s9.trans ((same_updR na_).trans s10)))
        replace k : ∀ (i' g' : Int) (H' : Hp), 0 ≤ i' → i' ≤ i5 + 3 → 0 ≤ g' → Keep t H10 H' → Till H' t cs cells i' g' → Q (.bl true) H' := fun i' g' H' a b c e => k i' g' H' a b c ((Keep.of s710).trans e)
        replace T5 := T5.same s710
        clear s710 sm s8 s9 s10 na_ nm_ nmI
        dsimp only [tNext, tSeq]
        refine tFor_open ?_
        refine ⟨by rw [sizeLine_eq]; show 1 ≤ 16777216; decide, fun pa2 na2 => ?_⟩
        refine fun pd nd => ⟨upd_same, [(.inr "a", .int 1)], rfl, by show 1 ≤ 15; decide, by rw [sizeLine_eq]; show 5 ≤ 16777216; decide, fun pl nl => ?_⟩
        have sa2 := same_updR (o := .lst [.str "a"]) na2
        have sd2 : Same (upd H10 pa2 (.lst [.str "a"])) (upd (upd (upd H10 pa2 (.lst [.str "a"])) pd (.dK [])) pd (.dK (mergeK [] [(.inr "a", .int 1)]))) := fun b o e => by
          rw [upd_ne (ne_of_none e nd), upd_ne (ne_of_none e nd)]; exact e
        have sl2 := same_updR (o := .lst [V.non, .int 3, .ref pa2, .bl true, .ref pd]) nl
        have hpa := sl2 _ _ (sd2 _ _ (upd_same (H := H10) (a := pa2) (o := .lst [.str "a"])))
        have hpd := sl2 _ _ (upd_same (H := upd (upd H10 pa2 (.lst [.str "a"])) pd (.dK [])) (a := pd) (o := .dK (mergeK [] [(.inr "a", .int 1)])))
        have hpl : upd (upd (upd (upd H10 pa2 (.lst [.str "a"])) pd (.dK [])) pd (.dK (mergeK [] [(.inr "a", .int 1)]))) pl (.lst [V.non, .int 3, .ref pa2, .bl true, .ref pd]) pl = some (.lst [V.non, .int 3, .ref pa2, .bl true, .ref pd]) := upd_same
        have s1012 := sa2.trans (sd2.trans sl2)
        clear sa2 sd2 sl2 nl nd na2
        refine ⟨pl, rfl, ⟨_, SqL.of hpl⟩, ?_⟩
        generalize upd (upd (upd (upd H10 pa2 (.lst [.str "a"])) pd (.dK [])) pd (.dK (mergeK [] [(.inr "a", .int 1)]))) pl (.lst [V.non, .int 3, .ref pa2, .bl true, .ref pd]) = H12 at hpa hpd hpl s1012 ⊢
        have nmF : ∀ x ∈ [V.non, .int 3, .ref pa2, .bl true, .ref pd], NmIs K H12 x false := fun x hx => by
          simp only [List.mem_cons, List.not_mem_nil, or_false] at hx
          rcases hx with rfl | rfl | rfl | rfl | rfl
          · exact .inr ⟨_, .base .non, kit_ty (by decide +kernel), rfl⟩
          · exact .inr ⟨_, .base (.int 3), kit_ty (by decide +kernel), rfl⟩
          · exact .inr ⟨_, .base (.lst hpa), kit_ty (by decide +kernel), rfl⟩
          · exact .inr ⟨_, .base (.bl true), kit_ty (by decide +kernel), rfl⟩
          · exact .inr ⟨_, .base (.dK hpd), kit_ty (by decide +kernel), rfl⟩
        refine for_it (walk_list (K := K) (a := pl) (xs := [V.non, .int 3, .ref pa2, .bl true, .ref pd])) (fun m σ H' => (∃ v7, σ = [some (V.ref t), some (.str signS), some (.int (1 + r)), some (.str w3), some (.int r4), some (.str w5), v6, v7, none, none, none, none]) ∧ Same H12 H') ⟨⟨none, rfl⟩, Same.refl _⟩ (fun i σ H' _ q => SqL.of (q.2 _ _ hpl)) ?_ ?_
        · rintro i x σ H13 H14 hi ⟨⟨v7, rfl⟩, s13⟩ ⟨rfl, ex⟩
          have xf := (nmF x (List.mem_of_getElem? ex)).same s13
          refine ⟨_, rfl, ?_⟩
          dsimp only [tNil]
          refine NmIs.sp xf fun H15 s15 => ⟨false, rfl, iteF ?_⟩
          refine ⟨_, rfl, by rw [sizeLine_eq]; show 1 ≤ 16777216; decide, fun pq nq => ⟨_, rfl, .inl ⟨pq, [x], [false], rfl, .inl upd_same, by show 1 ≤ 1000; decide, rfl, fun i y b e1 e2 => ?_, fun H16 s16 => ⟨false, rfl, iteF ⟨⟨some x, rfl⟩, s13.trans (s15.trans ((same_updR nq).trans s16))⟩⟩⟩⟩⟩
          match i, e1, e2 with
          | 0, e1, e2 => cases e1; cases e2; exact (xf.same s15).same (same_updR nq)
          | i + 1, e1, e2 => cases e1
        · rintro σ H13 ⟨⟨v7, rfl⟩, s13⟩
          replace k : ∀ (i' g' : Int) (H' : Hp), 0 ≤ i' → i' ≤ i5 + 3 → 0 ≤ g' → Keep t H13 H' → Till H' t cs cells i' g' → Q (.bl true) H' := fun i' g' H' a b c e => k i' g' H' a b c ((Keep.of (s1012.trans s13)).trans e)
          replace T5 := T5.same (s1012.trans s13)
          clear hpa hpd hpl s1012 nmF s13
          have dF : ∀ {H : Hp} {p : Addr} {kvs : List (Key × V)}, H p = some (.dK kvs) → ∀ {Q : VK} {E : XK}, (∀ H', Same H H' → Q (.bl false) H') → spNms K [.ref p] H Q E := fun {H p kvs} e {Q E} q => ⟨_, rfl, .inr ⟨_, .base (.dK e), any_ty (x := false) (y := false) (kit_ty (by decide +kernel)) (kit_ty (by decide +kernel)), q⟩⟩
          refine fun pd nd => ⟨upd_same, [(.inr "a", .int 1)], rfl, by show 1 ≤ 15; decide, ?_⟩
          dsimp only [tNil]
          refine dF upd_same fun H14 s14 => ⟨false, rfl, iteF ?_⟩
          refine fun pd2 nd2 => ?_
          dsimp only [tNil]
          refine dF upd_same fun H15 s15 => ⟨false, rfl, iteF ?_⟩
          have s1315 : Same H13 H15 := fun b o e => s15 _ _ ((same_updR nd2) _ _ (s14 _ _ (by rw [upd_ne (ne_of_none e nd), upd_ne (ne_of_none e nd)]; exact e)))
          replace k : ∀ (i' g' : Int) (H' : Hp), 0 ≤ i' → i' ≤ i5 + 3 → 0 ≤ g' → Keep t H15 H' → Till H' t cs cells i' g' → Q (.bl true) H' := fun i' g' H' a b c e => k i' g' H' a b c ((Keep.of s1315).trans e)
          replace T5 := T5.same s1315
          clear s1315 s14 s15 nd nd2
          dsimp only [tNext]
          refine ⟨_, rfl, t, cs, cells, i5, g5, 9, rfl, T5, i50, by omega, g50, by decide, by decide +kernel, fun r6 i6 g6 H16 _ _ i60 i61 g60 k6 T6 => ⟨_, _, rfl, rfl, ?_⟩⟩
          refine ⟨_, rfl, t, cs, cells, i6, g6, 9, rfl, T6, i60, by omega, g60, by decide, by decide +kernel, fun r7 i7 g7 H17 _ _ i70 i71 g70 k7 T7 => ⟨_, _, rfl, rfl, ?_⟩⟩
          refine ⟨_, rfl, t, cs, cells, i7, g7, 9, rfl, T7, i70, by omega, g70, by decide, by decide +kernel, fun r8 i8 g8 H18 _ _ i80 i81 g80 k8 T8 => ⟨_, _, rfl, rfl, _, _, _, rfl, ?_⟩⟩
          replace k : ∀ (H' : Hp), Same H18 H' → Q (.bl true) H' := fun H' s => k i8 g8 H' i80 (by omega) g80 (k6.trans (k7.trans (k8.trans (Keep.of s)))) (T8.same s)
          dsimp only [tNext, tSeq]
          refine ⟨_, rfl, _, _, rfl, intIs_int _, true, rfl, iteF ?_⟩
          refine ⟨_, _, rfl, rfl, ⟨by decide, by decide, by decide⟩, _, rfl, _, _, rfl, intIs_int _, true, rfl, iteF ?_⟩
          refine ⟨_, rfl, _, _, _, rfl, .inl ⟨_, none, none, rfl, .non, .non, true, rfl, iteF ?_⟩⟩
          dsimp only [tNext, tSeq]
          refine ⟨_, rfl, _, rfl, _, rfl, _, _, _, rfl, .inl ⟨_, _, _, rfl, .int _, .int _, ?_⟩⟩
          refine chain_le rfl rfl rfl ⟨rfl, false, congrArg V.bl (by rw [show ∀ n lo hi : Int, (loB n (some lo) && hiB n (some hi)) = (decide (lo ≤ n) && decide (n ≤ hi)) from fun _ _ _ => rfl, decide_eq_true rfl]; rfl), iteF ?_⟩
          refine ⟨_, rfl, _, rfl, _, _, _, rfl, .inl ⟨_, _, none, rfl, .int _, .non, ?_⟩⟩
          refine ⟨_, rfl, _, rfl, _, _, rfl, rfl, rfl, false, congrArg V.bl (by rw [show ∀ n lo : Int, (loB n (some lo) && hiB n none) = decide (lo ≤ n) from fun _ _ => Bool.and_true _, decide_eq_true rfl]; rfl), iteF ?_⟩
          dsimp only [tNext]
          refine ⟨_, rfl, .inr ⟨_, .base (.str "ab"), any_ty (x := false) (y := false) (kit_ty (by decide +kernel)) (kit_ty (by decide +kernel)), fun H19 s19 => ⟨false, false, rfl, rfl, true, congrArg V.bl (by decide), iteT ?_⟩⟩⟩
          refine ⟨by rw [sizeLine_eq]; show 0 ≤ 16777216; decide, fun p0 n0 => ⟨_, rfl, .inl ⟨p0, [], [], rfl, .inl upd_same, by decide, rfl, (fun i x b e => by cases e), fun H20 s20 => ⟨true, true, rfl, rfl, true, congrArg V.bl (by decide), iteT ?_⟩⟩⟩⟩
          refine ⟨_, rfl, _, rfl, _, _, _, rfl, .inl ⟨_, none, _, rfl, .non, .int _, ?_⟩⟩
          refine ⟨_, rfl, _, rfl, _, _, rfl, rfl, rfl, ?_⟩
          have z := k H20 (s19.trans ((same_updR n0).trans s20))
          have ee : ∀ b : Bool, b = true → Q (.bl b) H20 := fun b e => by rw [e]; exact z
          exact ee _ (decide_eq_true rfl)
end
end K01
namespace K01
open PySem PySem.Spec PyProof.Rows L2 RatM TL LamX ClX
section
variable {P : Program} {w : World} {K : PySem.W.Frag} {mg : Str → Option Value} {base : Heap} {C BR BT : Addr}
abbrev nsLw : List Str := ["_law_script", "_law_till_here", "_law_pairs", "_law_at", "_law_pair", "_law_turn"]
theorem scLw1 : FnScope nsLw ["_law_script"] (defScope (top 44)) := ⟨rfl, rfl, rfl, by decide +kernel, rfl, by decide +kernel, by decide +kernel⟩
/-- the law's helpers, as it calls them -/
structure LawK (P : Program) (w : World) (K : PySem.W.Frag) (mg : Str → Option Value) (base : Heap) (C BR : Addr) (T : List (Addr × Str)) : Prop where
  R : RatK P w K mg base C BR
  rng : mg "range" = none
  enu : mg "enumerate" = none
  till : ∃ (f : Addr) (fd : FuncData), FnOk P w K mg base CX0 1 f fd ["_law_script"] (spTill K) ∧ Binds K fd ["_law_script"] [] ∧ PySem.W.keepIn K (.ref f) = true ∧ mg "_law_till" = some (.ref f)
  num : ∃ (f : Addr) (fd : FuncData), FnOk P w K mg base CX0 2 f fd ["_law_till_here"] (spNum false) ∧ Binds K fd ["_law_till_here"] [] ∧ PySem.W.keepIn K (.ref f) = true ∧ mg "_law_number" = some (.ref f)
  bot : ∃ (f : Addr) (fd : FuncData), FnOk P w K mg base CX0 3 f fd ["_law_till_here"] (spNum true) ∧ Binds K fd ["_law_till_here"] [] ∧ PySem.W.keepIn K (.ref f) = true ∧ mg "_law_bottom" = some (.ref f)
  low : ∃ (f : Addr) (fd : FuncData), FnOk P w K mg base CX0 1 f fd ["_law_top", "_law_bottom_here"] spLow ∧ Binds K fd ["_law_top", "_law_bottom_here"] [] ∧ PySem.W.keepIn K (.ref f) = true ∧ mg "_law_lowest" = some (.ref f)
  one : ∃ (f : Addr) (fd : FuncData), FnOk P w K mg base CX0 8 f fd ["_law_top", "_law_bottom_here"] spOne ∧ Binds K fd ["_law_top", "_law_bottom_here"] [] ∧ PySem.W.keepIn K (.ref f) = true ∧ mg "_law_one_right" = some (.ref f)
  two : ∃ (f : Addr) (fd : FuncData), FnOk P w K mg base CX0 9 f fd ["_law_one", "_law_other"] (spTwo K) ∧ Binds K fd ["_law_one", "_law_other"] [] ∧ PySem.W.keepIn K (.ref f) = true ∧ mg "_law_two_right" = some (.ref f)
  ref : ∃ (f : Addr) (fd : FuncData), FnOk P w K mg base CX0 12 f fd ["_law_till_here", "_law_ratio"] (spRef C T) ∧ Binds K fd ["_law_till_here", "_law_ratio"] [] ∧ PySem.W.keepIn K (.ref f) = true ∧ mg "_law_refused_right" = some (.ref f)
  rd : ∃ (f : Addr) (fd : FuncData), FnOk P w K mg base CX0 12 f fd ["_law_till_here", "_law_pair"] (spRr K T) ∧ Binds K fd ["_law_till_here", "_law_pair"] [] ∧ PySem.W.keepIn K (.ref f) = true ∧ mg "_law_read_right" = some (.ref f)
  nms : ∃ (f : Addr) (fd : FuncData), FnOk P w K mg base CX0 11 f fd ["_law_till_here"] spNr ∧ Binds K fd ["_law_till_here"] [] ∧ PySem.W.keepIn K (.ref f) = true ∧ mg "_law_names_right" = some (.ref f)
def spLaw (K : PySem.W.Frag) (T : List (Addr × Str)) : Sp := fun vs H Q _ => ∃ (a : Addr) (ns : List Int), vs = [.ref a] ∧ SqL K H a (ns.map V.int) ∧ ns.length ≤ 63 ∧ Tabs T H ∧ ∀ H', Q (.bl true) H'
theorem tabs_keep {T : List (Addr × Str)} {H H' : Hp} {t : Addr} {xs : List V} (hT : Tabs T H) (ht : H t = some (.lst xs)) (k : Keep t H H') : Tabs T H' := fun x hx => by
  have ne : ∀ {b : Addr} {u : HO}, H b = some u → (∀ xs, u ≠ .lst xs) → b ≠ t := fun {b u} e q z => by
    rw [z, ht] at e
    cases e
    exact q _ rfl
  obtain ⟨ps, h1, h2, h3⟩ := hT x hx
  refine ⟨ps, k _ _ (ne h1 fun _ z => by cases z) h1, h2, fun pos cv hc => ?_⟩
  obtain ⟨c, e1, e2⟩ := h3 pos cv hc
  exact ⟨c, e1, k _ _ (ne e2 fun _ z => by unfold CodeO at z; cases z) e2⟩
def PairOk (H : Hp) (a : Addr) : Prop := ∃ t b : Int, H a = some (.tup [.int t, .int b]) ∧ t.natAbs < 10 ^ 30 ∧ b.natAbs < 10 ^ 30 ∧ b ≠ 0
theorem PairOk.same {H H' : Hp} {a : Addr} (h : PairOk H a) (s : Same H H') : PairOk H' a := let ⟨t, b, e, r⟩ := h; ⟨t, b, s _ _ e, r⟩
theorem PairOk.keep {H H' : Hp} {a t : Addr} {xs : List V} (h : PairOk H a) (ht : H t = some (.lst xs)) (k : Keep t H H') : PairOk H' a := by
  obtain ⟨u, b, e, r⟩ := h
  exact ⟨u, b, k _ _ (fun z => by rw [z, ht] at e; cases e) e, r⟩
theorem PairOk.upd_ {H : Hp} {a D : Addr} {xs : List V} {o : HO} (h : PairOk H a) (hD : H D = some (.lst xs)) : PairOk (upd H D o) a := by
  obtain ⟨u, b, e, r⟩ := h
  exact ⟨u, b, by rw [upd_ne (fun z => by rw [z, hD] at e; cases e)]; exact e, r⟩
theorem ok_law {f : Addr} {fd : FuncData} {T : List (Addr × Str)} (F : FnP K "law" (top 44) f fd) (R : LawK P w K mg base C BR T) : FnOk P w K mg base CX0 13 f fd ["_law_script"] (spLaw K T) := by
  obtain ⟨fT, fdT, GT, bT, kT, gT⟩ := R.till
  obtain ⟨fN, fdN, GN, bN, kN, gN⟩ := R.num
  obtain ⟨fB, fdB, GB, bB, kB, gB⟩ := R.bot
  obtain ⟨fL, fdL, GL, bL, kL, gL⟩ := R.low
  obtain ⟨fO, fdO, GO, bO, kO, gO⟩ := R.one
  obtain ⟨fW, fdW, GW, bW, kW, gW⟩ := R.two
  obtain ⟨fF, fdF, GF, bF, kF, gF⟩ := R.ref
  obtain ⟨fD, fdD, GD, bD, kD, gD⟩ := R.rd
  obtain ⟨fM, fdM, GM, bM, kM, gM⟩ := R.nms
  refine F.ok scLw1 (fun vs H Q E h => ?_) (fun cdv A outer s H vs Q E hr h => ?_)
  · obtain ⟨a, ns, rfl, _⟩ := h
    rfl
  · obtain ⟨a, ns, rfl, ha, hns, hTb, k⟩ := h
    have hr12 : Room 12 _ := hr
    have hr2 : Room 2 _ := hr12.mono (by decide)
    have hr3 : Room 3 _ := hr12.mono (by decide)
    refine ⟨_, PSs.nox (pss_cons (ps_set (i := 1) scLw1.nd rfl (.inr rfl) (pe_call GT (hr12.mono (by decide)) rfl gT kT bT .nil pass0 (pa_cons (pv 0) pa_nil)))
      (pss_cons (ps_setLc (i := 2) (own := [("_law_turn", 5)]) (g := gName 5) (tt := tYes) rfl scLw1.nd rfl rfl (sw_true rfl rfl rfl (by decide +kernel)) (pi_range1 (by rfl) R.rng (pa_cons pe_int pa_nil)) (blkOk_by (N := nsLw) (sc := defScope (top 44)) (by decide +kernel)) (fun _ _ _ _ _ => pg_name (i := 5) scLw1.nd rfl (Or.inl rfl)) (fun _ _ _ _ _ => pts_nil) (fun _ _ _ _ _ => pe_tup (pa_cons (pe_call GN (by exact hr2) rfl gN kN bN .nil pass0 (pa_cons (pv 1) pa_nil)) (pa_cons (pe_call GB (by exact hr3) rfl gB kB bB .nil pass0 (pa_cons (pv 1) pa_nil)) pa_nil))))
      (pss_cons (ps_for PassesOwn.never rfl (pi_enum (by rfl) R.enu (pa_cons (pv 2) pa_nil)) (pg_tup rfl (pgs_cons (pg_name (i := 3) scLw1.nd rfl (Or.inl rfl)) (pgs_cons (pg_name (i := 4) scLw1.nd rfl (Or.inl rfl)) pgs_nil))) (pss_one (ps_if (PW.pt (pw_or (pt_not (pt_val (pe_call GO (hr12.mono (by decide)) rfl gO kO bO .nil pass0 (pa_cons (pe_ix ix_tup (pv 4) pe_int (fun _ _ => rfl)) (pa_cons (pe_ix ix_tup (pv 4) pe_int (fun _ _ => rfl)) pa_nil))))) (pw_or (pt_not (pt_val (pe_call GW (hr12.mono (by decide)) rfl gW kW bW .nil pass0 (pa_cons (pv 4) (pa_cons (pe_ix ix_list (pv 2) (pe_op op_sub (pv 3) pe_int) (fun _ _ => rfl)) pa_nil))))) (pw_or1 (pt_not (pt_val (pe_call GW (hr12.mono (by decide)) rfl gW kW bW .nil pass0 (pa_cons (pv 4) (pa_cons (pv 4) pa_nil))))))))) (pss_one (ps_ret pe_bl)) pss_nil)))
      (pss_cons (ps_set (i := 4) scLw1.nd rfl (.inl rfl) (pe_call GL (hr12.mono (by decide)) rfl gL kL bL .nil pass0 (pa_cons (pe_ix ix_tup (pe_ix ix_list (pv 2) pe_int (fun _ _ => rfl)) pe_int (fun _ _ => rfl)) (pa_cons (pe_ix ix_tup (pe_ix ix_list (pv 2) pe_int (fun _ _ => rfl)) pe_int (fun _ _ => rfl)) pa_nil))))
      (pss_cons (ps_if (PW.pt (pw_or (pt_not (pt_val (pe_call GF (hr12.mono (by decide)) rfl gF kF bF .nil pass0 (pa_cons (pv 1) (pa_cons (pe_rat2K R.R (hr12.mono (by decide)) (E := E0) passL rfl (pa_cons (pe_ix ix_tup (pv 4) pe_int (fun _ _ => rfl)) (pa_cons (pe_ix ix_tup (pv 4) pe_int (fun _ _ => rfl)) pa_nil))) pa_nil))))) (pw_or1 (pt_not (pt_val (pe_call GD (hr12.mono (by decide)) rfl gD kD bD .nil pass0 (pa_cons (pv 1) (pa_cons (pv 4) pa_nil)))))))) (pss_one (ps_ret pe_bl)) pss_nil)
      (pss_one (ps_ret (pe_and (pe_call GM (hr12.mono (by decide)) rfl gM kM bM .nil pass0 (pa_cons (pv 1) pa_nil)) (pe_one (pe_call GM (hr12.mono (by decide)) rfl gM kM bM .nil pass0 (pa_cons (pv 1) pa_nil))))))))))), ?_⟩
    refine ⟨_, rfl, a, ns, rfl, ha, hns, fun t cc H1 s1 ht T1 => ?_⟩
    have Tb1 := Tabs.same hTb s1
    refine ⟨3, rfl, by decide, by decide, fun D nD => ?_⟩
    have cD : cc ≠ D := ne_of_none T1.hc nD
    have nDt : D ≠ t := fun z => by rw [z, T1.ht] at nD; cases nD
    refine lc_range (fun j Hh => ∃ (as : List Addr) (i' g' : Int), as.length = j ∧ Hh D = some (.lst (as.map V.ref)) ∧ (∀ b ∈ as, PairOk Hh b) ∧ Tabs T Hh ∧ Till Hh t cc (ns.take 62) i' g' ∧ 0 ≤ i' ∧ i' ≤ 6 * j ∧ 0 ≤ g') ⟨[], 0, 0, rfl, upd_same, (fun b h => by cases h), Tabs.same Tb1 (same_updR nD), T1.same (same_updR nD), by decide, by decide, by decide⟩ (fun j Hh hj hP => ?_) fun Hh hP => ?_
    · obtain ⟨as, i1, g1, hl, hD, hA, TbH, T2, i10, i11, g10⟩ := hP
      refine ⟨rfl, ?_⟩
      unfold tYes
      dsimp only
      rw [if_pos rfl]
      refine ⟨_, rfl, t, cc, _, i1, g1, rfl, T2, i10, by omega, g10, fun n1 i2 g2 H2 z1 _ i20 i21 g20 k2 T3 => ?_⟩
      refine ⟨_, rfl, t, cc, _, i2, g2, rfl, T3, i20, by omega, g20, fun n2 i3 g3 H3 z2 nz i30 i31 g30 k3 T4 => ?_⟩
      refine ⟨by rw [sizeLine_eq]; show 2 ≤ 16777216; decide, fun p np => ?_⟩
      have hD2 := k2 _ _ nDt hD
      have hD3 := k3 _ _ nDt hD2
      have sp := same_updR (o := .tup [.int n1, .int n2]) np
      have hD4 := sp _ _ hD3
      have pD : p ≠ D := fun z => by rw [z, hD3] at np; cases np
      have Tb3 := Tabs.same (tabs_keep (tabs_keep TbH T2.ht k2) T3.ht k3) sp
      have T5 := T4.same sp
      refine ⟨as.map V.ref, hD4, by rw [List.length_map, sizeLine_eq]; omega, as ++ [p], i3, g3, by rw [List.length_append, hl]; rfl, by rw [upd_same, List.map_append]; rfl, fun b hb => ?_, tabs_upd Tb3 (.inr ⟨_, hD4⟩), ⟨by rw [upd_ne nDt.symm]; exact T5.ht, by rw [upd_ne cD]; exact T5.hc, T5.ne⟩, i30, by omega, g30⟩
      rcases List.mem_append.mp hb with hb | hb
      · exact ((((hA b hb).keep T2.ht k2).keep T3.ht k3).same sp).upd_ hD4
      · rw [List.mem_singleton.mp hb]
        exact ⟨n1, n2, by rw [upd_ne pD]; exact upd_same, z1, z2, nz rfl⟩
    · obtain ⟨as, i1, g1, hl, hD, hA, TbH, T2, i10, i11, g10⟩ := hP
      obtain ⟨a0, a1, a2, rfl⟩ : ∃ a0 a1 a2, as = [a0, a1, a2] := by
        match as, hl with
        | [a0, a1, a2], _ => exact ⟨_, _, _, rfl⟩
      clear hl Tb1 T1 nD cD nDt s1 ha hTb
      replace hA : ∀ i : Nat, i < 3 → ∃ b u v, ([a0, a1, a2] : List Addr)[i]? = some b ∧ Hh b = some (.tup [.int u, .int v]) ∧ u.natAbs < 10 ^ 30 ∧ v.natAbs < 10 ^ 30 ∧ v ≠ 0 := fun i hi => by
        obtain ⟨u, v, r⟩ := hA (([a0, a1, a2] : List Addr)[i]'(by exact hi)) (List.getElem_mem _)
        exact ⟨_, u, v, List.getElem?_eq_getElem (by exact hi), r⟩
      dsimp only [gName, tNext, tSeq]
      have hD' : SqL K Hh D ([a0, a1, a2].map V.ref) := SqL.of hD
      refine ⟨_, rfl, D, _, rfl, hD', ?_⟩
      refine for_it walk_enum (fun i σ H' => (∃ v3 v4, σ = [some (.ref a), some (.ref t), some (.ref D), v3, v4, none]) ∧ Same Hh H') ⟨⟨none, none, rfl⟩, Same.refl _⟩ (fun i σ H' _ p => SqL.of (p.2 _ _ hD)) ?_ ?_
      · rintro i x σ H2 H3 hi ⟨⟨v3, v4, rfl⟩, sa⟩ ⟨T1, x1, x2, rfl, n1, rfl, e1, e2⟩
        cases e1
        have hi : i < 3 := hi
        obtain ⟨b, u, v, eb, hb, zu, zv, nv⟩ := hA i hi
        have ix0 : ∀ u v : Int, atI [V.int u, V.int v] 0 = some (.int u) := fun _ _ => rfl
        have ix1 : ∀ u v : Int, atI [V.int u, V.int v] 1 = some (.int v) := fun _ _ => rfl
        obtain rfl : x2 = V.ref b := by
          have z : ([a0, a1, a2].map V.ref)[i]? = some x2 := e2
          rw [List.getElem?_map, eb] at z
          exact (Option.some.inj z).symm
        obtain ⟨b', u', v', eb', hb', zu', zv', nv', hat⟩ : ∃ b' u' v', True ∧ Hh b' = some (.tup [.int u', .int v']) ∧ u'.natAbs < 10 ^ 30 ∧ v'.natAbs < 10 ^ 30 ∧ v' ≠ 0 ∧ atI ([a0, a1, a2].map V.ref) ((i : Int) - 1) = some (.ref b') := by
          match i, hi with
          | 0, _ =>
            obtain ⟨b, u, v, eb, r⟩ := hA 2 (by decide)
            cases eb
            exact ⟨_, u, v, trivial, r.1, r.2.1, r.2.2.1, r.2.2.2, rfl⟩
          | 1, _ =>
            obtain ⟨b, u, v, eb, r⟩ := hA 0 (by decide)
            cases eb
            exact ⟨_, u, v, trivial, r.1, r.2.1, r.2.2.1, r.2.2.2, rfl⟩
          | 2, _ =>
            obtain ⟨b, u, v, eb, r⟩ := hA 1 (by decide)
            cases eb
            exact ⟨_, u, v, trivial, r.1, r.2.1, r.2.2.1, r.2.2.2, rfl⟩
        refine ⟨T1, _, rfl, SqT.of upd_same, rfl, _, _, rfl, _, _, rfl, rfl, ?_⟩
        have sb : Same Hh (upd H2 T1 (.tup [V.int (i : Nat), V.ref b])) := sa.trans (same_updR n1)
        generalize upd H2 T1 (.tup [V.int (i : Nat), V.ref b]) = H3 at sb ⊢
        refine ⟨_, rfl, b, _, _, _, rfl, rfl, SqT.of (sb _ _ hb), ix0 _ _, _, rfl, b, _, _, _, rfl, rfl, SqT.of (sb _ _ hb), ix1 _ _, u, v, rfl, zu, zv, nv, fun H4 s4 => ⟨true, rfl, iteF ?_⟩⟩
        have sc := sb.trans s4
        refine ⟨_, rfl, _, rfl, _, rfl, _, _, rfl, rfl, D, _, _, _, rfl, rfl, SqL.of (sc _ _ hD), hat, b, b', u, v, u', v', rfl, SqT.of (sc _ _ hb), SqT.of (sc _ _ hb'), zu, zv, zu', zv', nv, nv', fun H5 s5 => ⟨true, rfl, iteF ?_⟩⟩
        have sd := sc.trans s5
        refine ⟨_, rfl, _, rfl, b, b, u, v, u, v, rfl, SqT.of (sd _ _ hb), SqT.of (sd _ _ hb), zu, zv, zu, zv, nv, nv, fun H6 s6 => ⟨true, rfl, iteF ?_⟩⟩
        exact ⟨⟨_, _, rfl⟩, sd.trans s6⟩
      · rintro σ H2 ⟨⟨v3, v4, rfl⟩, sa⟩
        have ix0 : ∀ u v : Int, atI [V.int u, V.int v] 0 = some (.int u) := fun _ _ => rfl
        have ix1 : ∀ u v : Int, atI [V.int u, V.int v] 1 = some (.int v) := fun _ _ => rfl
        obtain ⟨b, u, v, eb, hb, zu, zv, nv⟩ := hA 0 (by decide)
        obtain rfl : a0 = b := Option.some.inj eb
        replace hb := sa _ _ hb
        replace hD := sa _ _ hD
        replace T2 := T2.same sa
        replace TbH := Tabs.same TbH sa
        clear hA hD' sa eb
        have at0 : atI ([a0, a1, a2].map V.ref) 0 = some (.ref a0) := rfl
        refine ⟨_, rfl, D, _, _, _, rfl, rfl, SqL.of hD, at0, a0, _, _, _, rfl, rfl, SqT.of hb, ix0 _ _, _, rfl, D, _, _, _, rfl, rfl, SqL.of hD, at0, a0, _, _, _, rfl, rfl, SqT.of hb, ix1 _ _, u, v, rfl, nv, Nat.lt_trans zv (by decide +kernel), fun p np => ?_⟩
        have s3 := same_updR (o := .tup [.int (lowT u v), .int (lowB u v)]) np
        have hp : upd H2 p (.tup [.int (lowT u v), .int (lowB u v)]) p = some (.tup [.int (lowT u v), .int (lowB u v)]) := upd_same
        replace T2 := T2.same s3
        replace TbH := Tabs.same TbH s3
        generalize upd H2 p (.tup [.int (lowT u v), .int (lowB u v)]) = H3 at hp T2 TbH ⊢
        clear s3 np hb hD
        have g := low_gcd (t := u) nv
        have pq := lowB_pos (t := u) nv
        have zp : (lowT u v).natAbs < 10 ^ 30 := Nat.lt_of_le_of_lt (lowT_le nv) zu
        have zq : (lowB u v).natAbs < 10 ^ 30 := Nat.lt_of_le_of_lt (lowB_le nv) zv
        generalize lowT u v = pp at hp g zp ⊢
        generalize lowB u v = qq at hp g pq zq ⊢
        have big : ∀ {u : Int}, u.natAbs < 10 ^ 30 → u.natAbs < 2 ^ 4000 := fun h => sz_up (s1_sz (s1_ten h))
        have pt : p ≠ t := fun z => by rw [z, T2.ht] at hp; cases hp
        refine ⟨_, rfl, _, rfl, p, _, _, _, rfl, rfl, SqT.of hp, ix0 _ _, _, rfl, p, _, _, _, rfl, rfl, SqT.of hp, ix1 _ _, _, _, rfl, .inl ⟨pp, qq, rfl, rfl, by omega, big zp, big zq, fun rr H4 s4 ra => ?_⟩⟩
        obtain ⟨ls1, ls2⟩ := low_self pq g
        rw [ls1, ls2] at ra
        refine ⟨t, rr, cc, _, i1, g1, pp, qq, rfl, T2.same s4, i10, by omega, g10, ra, zp, zq, pq, g, Tabs.same TbH s4, fun i2 g2 H5 i20 i21 g20 e5 Tb5 T5 => ⟨true, rfl, iteF ?_⟩⟩
        have hp5 := e5 _ _ pt (s4 _ _ hp) fun _ z => by cases z
        refine ⟨_, rfl, _, rfl, t, p, cc, _, i2, g2, pp, qq, rfl, T5, i20, by omega, g20, hp5, zp, zq, pq, g, Tb5, fun i3 g3 H6 i30 i31 g30 e6 Tb6 T6 => ⟨true, rfl, iteF ?_⟩⟩
        dsimp only [tNext]
        refine ⟨_, rfl, t, cc, _, i3, g3, rfl, T6, i30, by omega, g30, fun i4 g4 H7 i40 i41 g40 k7 T7 => ⟨true, rfl, iteT ?_⟩⟩
        exact ⟨_, rfl, t, cc, _, i4, g4, rfl, T7, i40, by omega, g40, fun i5 g5 H8 _ _ _ _ _ => k H8⟩
end
end K01
namespace L2
open PySem PySem.Spec PyProof.Rows
/-! ### a Hook with defs at any address, Bools of one's own, tables of code objects -/
structure SaysK (fa : List He.Fa) (fn : List He5.DefA) (fx : List (PySem.W.Frag → Bool)) (tf : List He.Defn) (h : Heap) (K : PySem.W.Frag) : Prop where
  a : He5.SaysA fa fn K
  x : (fx.all fun f => f K) = true
  hd : ∀ p ∈ tf, PySem.W.codeHdIn K (He.cT K p).1 (He.cT K p).2 = true
  out : ∀ p ∈ tf, K.lookup (He.cT K p).2 = none
  empty : ∀ p ∈ tf, h.get? (He.cT K p).2 = some { cls := .none, data := .fields #[] }
def obsK (n : Nat) (fa : List He.Fa) (fn : List He5.DefA) (fx : List (PySem.W.Frag → Bool)) (tf : List He.Defn) (g : Addr → Option Obj) : He.AlD × Bool :=
  (He5.obsA fa fn (He.frT g (He5.asA g n)), (fx.all fun f => f (He.frT g (He5.asA g n))) && He.tabsB g tf (He.frT g (He5.asA g n)))
theorem saysK_of {n : Nat} {fa : List He.Fa} {fn : List He5.DefA} {fx : List (PySem.W.Frag → Bool)} {tf : List He.Defn} {h : Heap} (e : obsK n fa fn fx tf h.get? = (He5.valA fn, true)) : SaysK fa fn fx tf h (He.frT h.get? (He5.asA h.get? n)) := by
  have e1 := congrArg Prod.fst e
  have e2 := congrArg Prod.snd e
  unfold obsK at e1 e2
  dsimp only at e1 e2
  obtain ⟨h1, h2⟩ := Bool.and_eq_true_iff.mp e2
  generalize hK : He.frT h.get? (He5.asA h.get? n) = K at e1 h1 h2
  have key : ∀ p ∈ tf, PySem.W.codeHdIn K (He.cT K p).1 (He.cT K p).2 = true ∧ ∃ o, h.get? (He.cT K p).2 = some o ∧ He.emptyTab o = true := fun p hp => by
    obtain ⟨h3, h4⟩ := Bool.and_eq_true_iff.mp (List.all_eq_true.mp h2 p hp)
    refine ⟨h3, ?_⟩
    cases q : h.get? (He.cT K p).2 with
    | none =>
      rw [q] at h4
      cases h4
    | some o =>
      rw [q] at h4
      exact ⟨o, rfl, h4⟩
  refine ⟨e1, h1, fun p hp => (key p hp).1, fun p hp => ?_, fun p hp => ?_⟩
  · obtain ⟨_, o, q, z⟩ := key p hp
    rw [← hK]
    rw [← hK] at q
    exact He.frT_none q z
  · obtain ⟨_, o, q, z⟩ := key p hp
    rw [q, He.emptyTab_eq z]
def hookK (n : Nat) (fa : List He.Fa) (fn : List He5.DefA) (fx : List (PySem.W.Frag → Bool)) (tf : List He.Defn) : PySem.W.Hook where
  α := He.AlD × Bool
  obs := fun s => obsK n fa fn fx tf s.heap.get?
  val := fun _ => (He5.valA fn, true)
  says := fun _ h => ∃ K : PySem.W.Frag, K.In h ∧ SaysK fa fn fx tf h K
  of := fun _ _ e => ⟨_, He.frT_in, saysK_of e⟩
  keeps := fun _ _ _ ⟨K, hK, c⟩ k => ⟨K, PySem.W.Frag.In.keeps hK k, ⟨c.a, c.x, c.hd, c.out, fun p hp => k _ _ (c.empty p hp)⟩⟩
theorem obK_eq (n : Nat) (fa : List He.Fa) (fn : List He5.DefA) (fx : List (PySem.W.Frag → Bool)) (tf : List He.Defn) (s : PySem.W.SharedT) : obsK n fa fn fx tf (HandSHeadRun.getT s) = (hookK n fa fn fx tf).obs s.abs := by
  have e : HandSHeadRun.getT s = s.abs.heap.get? := funext fun a => HandSHeadRun.getT_eq s a
  rw [e] <;> rfl
end L2
namespace K01
open PySem PySem.Spec PyProof.Rows L2 RatM TL LamX ClX
def e_BadRatio : He5.DefA := ⟨fun K => He.fAd K ("BadRatio", some "__init__"), "__init__", "BadRatio.__init__", defArgs iBadRatio, defBody iBadRatio, defScope iBadRatio, [], []⟩
def e_BadText : He5.DefA := ⟨fun K => He.fAd K ("BadText", some "__init__"), "__init__", "BadText.__init__", defArgs iBadText, defBody iBadText, defScope iBadText, [], []⟩
def r_init : He5.DefA := ⟨fun K => He.fAd K ("Ratio", some "__init__"), "__init__", "Ratio.__init__", defArgs (ratM 0), defBody (ratM 0), defScope (ratM 0), [.int 1], []⟩
def r_read : He5.DefA := ⟨fun K => He5.wf K (He.ga K "Ratio") "classmethod" "read", "read", "Ratio.read", defArgs (ratM 1), defBody (ratM 1), defScope (ratM 1), [], []⟩
def r_of : He5.DefA := ⟨fun K => He5.wf K (He.ga K "Ratio") "staticmethod" "of", "of", "Ratio.of", defArgs (ratM 2), defBody (ratM 2), defScope (ratM 2), [], []⟩
def r_compared : He5.DefA := ⟨fun K => He.fAd K ("Ratio", some "compared"), "compared", "Ratio.compared", defArgs (ratM 3), defBody (ratM 3), defScope (ratM 3), [], []⟩
def r_is_below : He5.DefA := ⟨fun K => He.fAd K ("Ratio", some "is_below"), "is_below", "Ratio.is_below", defArgs (ratM 4), defBody (ratM 4), defScope (ratM 4), [], []⟩
def r_over : He5.DefA := ⟨fun K => He.fAd K ("Ratio", some "over"), "over", "Ratio.over", defArgs (ratM 5), defBody (ratM 5), defScope (ratM 5), [], []⟩
def r_add : He5.DefA := ⟨fun K => He.fAd K ("Ratio", some "__add__"), "__add__", "Ratio.__add__", defArgs (ratM 6), defBody (ratM 6), defScope (ratM 6), [], []⟩
def r_sub : He5.DefA := ⟨fun K => He.fAd K ("Ratio", some "__sub__"), "__sub__", "Ratio.__sub__", defArgs (ratM 7), defBody (ratM 7), defScope (ratM 7), [], []⟩
def r_mul : He5.DefA := ⟨fun K => He.fAd K ("Ratio", some "__mul__"), "__mul__", "Ratio.__mul__", defArgs (ratM 8), defBody (ratM 8), defScope (ratM 8), [], []⟩
def r_neg : He5.DefA := ⟨fun K => He.fAd K ("Ratio", some "__neg__"), "__neg__", "Ratio.__neg__", defArgs (ratM 9), defBody (ratM 9), defScope (ratM 9), [], []⟩
def r_abs : He5.DefA := ⟨fun K => He.fAd K ("Ratio", some "__abs__"), "__abs__", "Ratio.__abs__", defArgs (ratM 10), defBody (ratM 10), defScope (ratM 10), [], []⟩
def r_bool : He5.DefA := ⟨fun K => He.fAd K ("Ratio", some "__bool__"), "__bool__", "Ratio.__bool__", defArgs (ratM 11), defBody (ratM 11), defScope (ratM 11), [], []⟩
def r_eq : He5.DefA := ⟨fun K => He.fAd K ("Ratio", some "__eq__"), "__eq__", "Ratio.__eq__", defArgs (ratM 12), defBody (ratM 12), defScope (ratM 12), [], []⟩
def r_str : He5.DefA := ⟨fun K => He.fAd K ("Ratio", some "__str__"), "__str__", "Ratio.__str__", defArgs (ratM 13), defBody (ratM 13), defScope (ratM 13), [], []⟩
def r_repr : He5.DefA := ⟨fun K => He.fAd K ("Ratio", some "__repr__"), "__repr__", "Ratio.__repr__", defArgs (ratM 14), defBody (ratM 14), defScope (ratM 14), [], []⟩
def d_init : He5.DefA := ⟨fun K => He.fAd K ("Reader", some "__init__"), "__init__", "Reader.__init__", defArgs (rdM 0), defBody (rdM 0), defScope (rdM 0), [], []⟩
def d_peek : He5.DefA := ⟨fun K => He.fAd K ("Reader", some "peek"), "peek", "Reader.peek", defArgs (rdM 1), defBody (rdM 1), defScope (rdM 1), [], []⟩
def d_step : He5.DefA := ⟨fun K => He.fAd K ("Reader", some "step"), "step", "Reader.step", defArgs (rdM 2), defBody (rdM 2), defScope (rdM 2), [], []⟩
def d_refuse : He5.DefA := ⟨fun K => He.fAd K ("Reader", some "refuse"), "refuse", "Reader.refuse", defArgs (rdM 3), defBody (rdM 3), defScope (rdM 3), [], []⟩
def d_finish : He5.DefA := ⟨fun K => He.fAd K ("Reader", some "finish"), "finish", "Reader.finish", defArgs (rdM 6), defBody (rdM 6), defScope (rdM 6), [], []⟩
def g_is_integer : He5.DefA := ⟨fun K => He.fAd K ("is_integer", none), "is_integer", "is_integer", defArgs (top 10), defBody (top 10), defScope (top 10), [], []⟩
def g_is_within : He5.DefA := ⟨fun K => He.fAd K ("is_within", none), "is_within", "is_within", defArgs (top 11), defBody (top 11), defScope (top 11), [], []⟩
def g_is_name : He5.DefA := ⟨fun K => He.fAd K ("is_name", none), "is_name", "is_name", defArgs (top 12), defBody (top 12), defScope (top 12), [], []⟩
def g_is_list : He5.DefA := ⟨fun K => He.fAd K ("is_list", none), "is_list", "is_list", defArgs (top 13), defBody (top 13), defScope (top 13), [], []⟩
def g_are_names : He5.DefA := ⟨fun K => He.fAd K ("are_names", none), "are_names", "are_names", defArgs (top 14), defBody (top 14), defScope (top 14), [], []⟩
def g_reader_of : He5.DefA := ⟨fun K => He.fAd K ("reader_of", none), "reader_of", "reader_of", defArgs (top 18), defBody (top 18), defScope (top 18), [], []⟩
def g_whole_in : He5.DefA := ⟨fun K => He.fAd K ("whole_in", none), "whole_in", "whole_in", defArgs (top 19), defBody (top 19), defScope (top 19), [], []⟩
def g_is_ratio : He5.DefA := ⟨fun K => He.fAd K ("is_ratio", none), "is_ratio", "is_ratio", defArgs (top 22), defBody (top 22), defScope (top 22), [], []⟩
def g_added : He5.DefA := ⟨fun K => He.fAd K ("added", none), "added", "added", defArgs (top 23), defBody (top 23), defScope (top 23), [], []⟩
def g_ratio_of : He5.DefA := ⟨fun K => He.fAd K ("_ratio_of", none), "_ratio_of", "_ratio_of", defArgs (top 24), defBody (top 24), defScope (top 24), [], []⟩
def g_is_same : He5.DefA := ⟨fun K => He.fAd K ("_is_same", none), "_is_same", "_is_same", defArgs (top 25), defBody (top 25), defScope (top 25), [], []⟩
def g_written : He5.DefA := ⟨fun K => He.fAd K ("_written", none), "_written", "_written", defArgs (top 26), defBody (top 26), defScope (top 26), [], []⟩
def g_ratio_in : He5.DefA := ⟨fun K => He.fAd K ("ratio_in", none), "ratio_in", "ratio_in", defArgs (top 27), defBody (top 27), defScope (top 27), [], []⟩
def g_law_till : He5.DefA := ⟨fun K => He.fAd K ("_law_till", none), "_law_till", "_law_till", defArgs (top 29), defBody (top 29), defScope (top 29), [], []⟩
def g_law_coin : He5.DefA := ⟨fun K => He.fAd K ("_law_coin", none), "_law_coin", "_law_coin", defArgs (top 30), defBody (top 30), defScope (top 30), [], []⟩
def g_law_of : He5.DefA := ⟨fun K => He.fAd K ("_law_of", none), "_law_of", "_law_of", defArgs (top 31), defBody (top 31), defScope (top 31), [], []⟩
def g_law_number : He5.DefA := ⟨fun K => He.fAd K ("_law_number", none), "_law_number", "_law_number", defArgs (top 32), defBody (top 32), defScope (top 32), [], []⟩
def g_law_bottom : He5.DefA := ⟨fun K => He.fAd K ("_law_bottom", none), "_law_bottom", "_law_bottom", defArgs (top 33), defBody (top 33), defScope (top 33), [], []⟩
def g_law_lowest : He5.DefA := ⟨fun K => He.fAd K ("_law_lowest", none), "_law_lowest", "_law_lowest", defArgs (top 34), defBody (top 34), defScope (top 34), [], []⟩
def g_law_is : He5.DefA := ⟨fun K => He.fAd K ("_law_is", none), "_law_is", "_law_is", defArgs (top 35), defBody (top 35), defScope (top 35), [], []⟩
def g_law_text : He5.DefA := ⟨fun K => He.fAd K ("_law_text", none), "_law_text", "_law_text", defArgs (top 36), defBody (top 36), defScope (top 36), [], []⟩
def g_law_one_right : He5.DefA := ⟨fun K => He.fAd K ("_law_one_right", none), "_law_one_right", "_law_one_right", defArgs (top 37), defBody (top 37), defScope (top 37), [], []⟩
def g_law_two_right : He5.DefA := ⟨fun K => He.fAd K ("_law_two_right", none), "_law_two_right", "_law_two_right", defArgs (top 38), defBody (top 38), defScope (top 38), [], []⟩
def g_law_heard : He5.DefA := ⟨fun K => He.fAd K ("_law_heard", none), "_law_heard", "_law_heard", defArgs (top 39), defBody (top 39), defScope (top 39), [], []⟩
def g_law_refused_right : He5.DefA := ⟨fun K => He.fAd K ("_law_refused_right", none), "_law_refused_right", "_law_refused_right", defArgs (top 40), defBody (top 40), defScope (top 40), [], []⟩
def g_law_read_right : He5.DefA := ⟨fun K => He.fAd K ("_law_read_right", none), "_law_read_right", "_law_read_right", defArgs (top 41), defBody (top 41), defScope (top 41), [], []⟩
def g_law_is_name : He5.DefA := ⟨fun K => He.fAd K ("_law_is_name", none), "_law_is_name", "_law_is_name", defArgs (top 42), defBody (top 42), defScope (top 42), [], []⟩
def g_law_names_right : He5.DefA := ⟨fun K => He.fAd K ("_law_names_right", none), "_law_names_right", "_law_names_right", defArgs (top 43), defBody (top 43), defScope (top 43), [], []⟩
def g_law : He5.DefA := ⟨fun K => He.fAd K ("law", none), "law", "law", defArgs (top 44), defBody (top 44), defScope (top 44), [], []⟩
def fn : List He5.DefA := [e_BadRatio, e_BadText, r_init, r_read, r_of, r_compared, r_is_below, r_over, r_add, r_sub, r_mul, r_neg, r_abs, r_bool, r_eq, r_str, r_repr, d_init, d_peek, d_step, d_refuse, d_finish, g_is_integer, g_is_within, g_is_name, g_is_list, g_are_names, g_reader_of, g_whole_in, g_is_ratio, g_added, g_ratio_of, g_is_same, g_written, g_ratio_in, g_law_till, g_law_coin, g_law_of, g_law_number, g_law_bottom, g_law_lowest, g_law_is, g_law_text, g_law_one_right, g_law_two_right, g_law_heard, g_law_refused_right, g_law_read_right, g_law_is_name, g_law_names_right, g_law]
def fa : List He.Fa := [.glo "is_integer", .glo "is_within", .glo "is_name", .glo "is_list", .glo "are_names", .glo "reader_of", .glo "whole_in", .glo "is_ratio", .glo "added", .glo "_ratio_of", .glo "_is_same", .glo "_written", .glo "ratio_in", .glo "_law_till", .glo "_law_coin", .glo "_law_of", .glo "_law_number", .glo "_law_bottom", .glo "_law_lowest", .glo "_law_is", .glo "_law_text", .glo "_law_one_right", .glo "_law_two_right", .glo "_law_heard", .glo "_law_refused_right", .glo "_law_read_right", .glo "_law_is_name", .glo "_law_names_right", .glo "law", .glo "Ratio", .glo "Reader", .glo "BadRatio", .glo "BadText", .free "isinstance", .free "int", .free "bool", .free "str", .free "len", .free "list", .free "tuple", .free "all", .free "any", .free "abs", .free "range", .free "enumerate", .free "repr", .int "_LONGEST" 12, .int "_MOST_DIGITS" 60, .str "_LETTERS" letS, .str "_SIGNS" sigS, .cls "Ratio", .cls "Reader", .noat "Ratio" "top", .noat "Ratio" "bottom", .noat "Ratio" "sign", .noat "Ratio" "is_whole", .noat "Ratio" "below", .noat "Reader" "words", .noat "Reader" "at", .noat "Reader" "end", .meth "Reader" "peek", .meth "Reader" "step", .meth "Reader" "refuse", .meth "Reader" "finish", .meth "Ratio" "compared", .meth "Ratio" "is_below", .meth "Ratio" "over", .mkr "Ratio", .mkr "Reader", .exm "BadRatio" "BadRatio" true, .exm "BadText" "BadRatio" false, .exm "BadText" "BadText" true]
abbrev cR (K : PySem.W.Frag) : Addr := He.ga K "Ratio"
def kitB (K : PySem.W.Frag) (a b : Value) (r : Bool) : Bool := decide (PySem.W.kitOne K a b = some r)
def rightB (K : PySem.W.Frag) (nm : String) (T : String) : Bool := (PySem.W.findIn K (.type T) (PySem.dunder nm)).isSome && ((PySem.W.findIn K (.type T) (dunderR nm)).isSome && decide (PySem.W.subIn K (.type T) (.ref (cR K)) = some false))
def opB (K : PySem.W.Frag) (nm : String) : Bool := He.eqO (PySem.W.findIn K (.ref (cR K)) (PySem.dunder nm)) (some (some (.ref (He.ma K (cR K) (PySem.dunder nm))))) && (PySem.W.isFn K (.ref (He.ma K (cR K) (PySem.dunder nm))) && (He.eqO (PySem.W.findIn K (.ref (cR K)) (dunderR nm)) (some none) && ("int" :: oddTypes).all fun T => rightB K nm T))
def ownB (K : PySem.W.Frag) (m : Str) : Bool := He.eqO (PySem.W.findIn K (.ref (cR K)) m) (some (some (.ref (He.ma K (cR K) m)))) && PySem.W.isFn K (.ref (He.ma K (cR K) m))
def ratIB (K : PySem.W.Frag) : Bool := He.eqO (PySem.W.findIn K (.ref (cR K)) "__class__") (some (some (.builtin "object.__class__"))) && (He.eqO (PySem.W.specialIn K (.builtin "object.__class__") "__get__") (some (some (.builtin "getset_descriptor.__get__"))) &&
  (decide (PySem.W.takesIn K (.builtin "object.__class__") = some true) && (decide (PySem.W.mroIn K (cR K) (.type "object") = some true) && (kitB K (.ref (cR K)) (.ref (cR K)) true && (kitB K (.ref (cR K)) (.type "int") false && (kitB K (.ref (cR K)) (.type "bool") false && kitB K (.type "int") (.ref (cR K)) false))))))
def oddB (K : PySem.W.Frag) : Bool := PySem.W.selfFirst K (cR K) && (oddTypes.all fun T => kitB K (.type T) (.ref (cR K)) false)
def neB (K : PySem.W.Frag) : Bool := He.eqO (PySem.W.findIn K (.ref (cR K)) "__ne__") (some (some (.builtin "object.__ne__"))) && (decide (PySem.W.subIn K (.ref (cR K)) (.type "object") = some true) && (("int" :: oddTypes).all fun T => PySem.W.notFirst K (cR K) (.type T)))
def clsB (K : PySem.W.Frag) : Bool := PySem.W.readsIn K (cR K) (.type "type") && (He.eqO (PySem.W.specialIn K (.ref (cR K)) "__getattribute__") (some (some (.builtin "type.__getattribute__"))) && (He5.wrapB K (cR K) "classmethod" "classmethod.__get__" "read" && (PySem.W.fnIn K (He5.wf K (cR K) "classmethod" "read") &&
  (He5.wrapB K (cR K) "staticmethod" "staticmethod.__get__" "of" && PySem.W.keepIn K (.ref (He5.wf K (cR K) "staticmethod" "of"))))))
def gcdB (K : PySem.W.Frag) : Bool := He.eqO (PySem.W.nsIn K mainGlobals "gcd") (some (some (.builtin "math.gcd")))
def tabB2 (K : PySem.W.Frag) : Bool := decide ((He.cT K ("_law_refused_right", none)).2 ≠ (He.cT K ("_law_read_right", none)).2)
def fx : List (PySem.W.Frag → Bool) := [errB "BadRatio" ["part"], errB "BadText" ["line", "word"], ratIB, oddB, fun K => opB K "add", fun K => opB K "sub", fun K => opB K "mul", fun K => (["__neg__", "__abs__", "__bool__", "__eq__", "__str__", "__repr__"] : List Str).all fun m => ownB K m, neB, clsB, gcdB, tabB2]
def tf : List He.Defn := [("_law_refused_right", none), ("_law_read_right", none)]
abbrev RR : PySem.W.OpenRow := PySem.W.OpenLaw.row PySem.Challenge.rw_scaleborn_k01_ratios_and_names
abbrev hk : PySem.W.Hook := hookK 6 fa fn fx tf
def ob (s : PySem.W.SharedT) : He.AlD × Bool := obsK 6 fa fn fx tf (HandSHeadRun.getT s)
theorem ob_eq (s : PySem.W.SharedT) : ob s = hk.obs s.abs := obK_eq 6 fa fn fx tf s
def loose1 : List Str := ["_wall", "ScaleError", "BadRatio", "BadText", "_LETTERS", "_SIGNS", "_LONGEST", "is_integer", "is_within", "is_name", "is_list", "are_names", "_MOST_DIGITS", "Reader", "reader_of", "whole_in", "Ratio", "is_ratio", "added", "_ratio_of"]
def loose2 : List Str := ["_is_same", "_written", "ratio_in", "_law_till", "_law_coin", "_law_of", "_law_number", "_law_bottom", "_law_lowest", "_law_is", "_law_text", "_law_one_right", "_law_two_right", "_law_heard", "_law_refused_right", "_law_read_right", "_law_is_name", "_law_names_right"]
theorem run (w : World) : HandSHeadRun.RunEqI RR (PySem.W.view RR.prog [0, 44]) hk ob 9000 (loose1 ++ loose2) w := by
  delta HandSHeadRun.RunEqI
  kernel_rfl
end K01
namespace K01
open PySem PySem.Spec PyProof.Rows L2 RatM TL LamX ClX
theorem vals_rev : ∀ {vs : List V} {us : List Value}, Vals vs us → Vals vs.reverse us.reverse
  | _, _, .nil => .nil
  | _, _, .cons h t => by
    rw [List.reverse_cons, List.reverse_cons]
    exact (vals_rev t).append (.cons h .nil)
theorem raw0 {P : Program} {w : World} {K : PySem.W.Frag} {mg : Str → Option Value} {base : Heap} {CX : CXT} {k : Nat} {f : Addr} {fd : FuncData} {ps : List Str} {sp : Sp} (F : FnOk P w K mg base CX k f fd ps sp) (hb : Binds K fd ps []) : FnR P w K mg base CX k f sp :=
  (FnOk.raw F hb (dvs := []) .nil).imp fun vs H Q E h => by rw [List.append_nil]; exact h
section
variable {P : Program} {w : World} {K : PySem.W.Frag} {h : Heap} {mg : Str → Option Value} {base : Heap}
theorem fxs (c : SaysK fa fn fx tf h K) (i : Nat) {f : PySem.W.Frag → Bool} (e : fx[i]? = some f) : f K = true := List.all_eq_true.mp c.x f (List.mem_of_getElem? e)
theorem fact_I (c : SaysK fa fn fx tf h K) : RatI K (cR K) := by
  have q := fxs c 2 (f := ratIB) rfl
  unfold ratIB kitB at q
  simp only [Bool.and_eq_true] at q
  obtain ⟨h1, h2, h3, h4, h5, h6, h7, h8⟩ := q
  exact ⟨He.eqO_ok h1, He.eqO_ok h2, of_decide_eq_true h3, of_decide_eq_true h4, of_decide_eq_true h5, of_decide_eq_true h6, of_decide_eq_true h7, of_decide_eq_true h8⟩
theorem fact_T (c : SaysK fa fn fx tf h K) : RatC K (cR K) := by
  refine ⟨He.cls_ok (c.a.fact 50 (f := .cls "Ratio") rfl), fun f hf => ?_⟩
  simp only [List.mem_cons, List.not_mem_nil, or_false] at hf
  rcases hf with rfl | rfl | rfl | rfl | rfl
  · exact He.noat_ok (c.a.fact 52 (f := .noat "Ratio" "top") rfl)
  · exact He.noat_ok (c.a.fact 53 (f := .noat "Ratio" "bottom") rfl)
  · exact He.noat_ok (c.a.fact 54 (f := .noat "Ratio" "sign") rfl)
  · exact He.noat_ok (c.a.fact 55 (f := .noat "Ratio" "is_whole") rfl)
  · exact He.noat_ok (c.a.fact 56 (f := .noat "Ratio" "below") rfl)
theorem fact_D (c : SaysK fa fn fx tf h K) : RdC K (He.ga K "Reader") := by
  refine ⟨He.cls_ok (c.a.fact 51 (f := .cls "Reader") rfl), fun f hf => ?_⟩
  simp only [List.mem_cons, List.not_mem_nil, or_false] at hf
  rcases hf with rfl | rfl | rfl
  · exact He.noat_ok (c.a.fact 57 (f := .noat "Reader" "words") rfl)
  · exact He.noat_ok (c.a.fact 58 (f := .noat "Reader" "at") rfl)
  · exact He.noat_ok (c.a.fact 59 (f := .noat "Reader" "end") rfl)
theorem fact_op (c : SaysK fa fn fx tf h K) (i : Nat) {nm : String} {m : Str} (e : fx[i]? = some fun K => opB K nm) (em : PySem.dunder nm = m) : OpF K (cR K) nm (He.ma K (cR K) m) := by
  have q := fxs c i e
  unfold opB at q
  simp only [Bool.and_eq_true] at q
  obtain ⟨h1, h2, h3, h4⟩ := q
  rw [em] at h1 h2
  refine ⟨⟨by rw [em]; exact He.eqO_ok h1, h2⟩, He.eqO_ok h3, fun T hT => ?_⟩
  have r := List.all_eq_true.mp h4 T hT
  unfold rightB at r
  simp only [Bool.and_eq_true] at r
  obtain ⟨r1, r2, r3⟩ := r
  exact ⟨Option.isSome_iff_exists.mp r1, Option.isSome_iff_exists.mp r2, of_decide_eq_true r3⟩
theorem fact_own (c : SaysK fa fn fx tf h K) {m : Str} (hm : m ∈ (["__neg__", "__abs__", "__bool__", "__eq__", "__str__", "__repr__"] : List Str)) : OwnM K (cR K) m (He.ma K (cR K) m) := by
  have q := fxs c 7 (f := fun K => (["__neg__", "__abs__", "__bool__", "__eq__", "__str__", "__repr__"] : List Str).all fun m => ownB K m) rfl
  have r := List.all_eq_true.mp q m hm
  unfold ownB at r
  simp only [Bool.and_eq_true] at r
  exact ⟨He.eqO_ok r.1, r.2⟩
abbrev PT1 (K : PySem.W.Frag) : Addr := (He.cT K ("_law_refused_right", none)).2
abbrev PT2 (K : PySem.W.Frag) : Addr := (He.cT K ("_law_read_right", none)).2
abbrev TT (K : PySem.W.Frag) : List (Addr × Str) := [(PT1 K, lamQ "_law_refused_right"), (PT2 K, lamQ "_law_read_right")]
theorem fact_err1 (X : K.In h) (G : h.Ns mainGlobals mg) (c : SaysK fa fn fx tf h K) : ErrN P w K mg base "BadRatio" (He.ga K "BadRatio") ["part"] ∧ XfC K (He.ga K "BadRatio") ∧ PySem.W.findIn K (.ref (He.ga K "BadRatio")) "part" = some none ∧ mg "BadRatio" = some (.ref (He.ga K "BadRatio")) := by
  obtain ⟨fd_e_BadRatio, F_e_BadRatio⟩ := c.a.def_ 0 (d := e_BadRatio) rfl
  obtain ⟨E, g⟩ := errB_ok (fxs c 0 (f := errB "BadRatio" ["part"]) rfl)
  exact ⟨mk_BadRatio F_e_BadRatio E.ox E.ini E.fn E.no (He.glo_ok X G g), E.xf, E.no _ (by simp), He.glo_ok X G g⟩
theorem fact_err2 (X : K.In h) (G : h.Ns mainGlobals mg) (c : SaysK fa fn fx tf h K) : ErrN P w K mg base "BadText" (He.ga K "BadText") ["line", "word"] ∧ XfC K (He.ga K "BadText") ∧ PySem.W.findIn K (.ref (He.ga K "BadText")) "line" = some none ∧ PySem.W.findIn K (.ref (He.ga K "BadText")) "word" = some none ∧ mg "BadText" = some (.ref (He.ga K "BadText")) := by
  obtain ⟨fd_e_BadText, F_e_BadText⟩ := c.a.def_ 1 (d := e_BadText) rfl
  obtain ⟨E, g⟩ := errB_ok (fxs c 1 (f := errB "BadText" ["line", "word"]) rfl)
  exact ⟨mk_BadText F_e_BadText E.ox E.ini E.fn E.no (He.glo_ok X G g), E.xf, E.no _ (by simp), E.no _ (by simp), He.glo_ok X G g⟩
theorem fact_int (X : K.In h) (G : h.Ns mainGlobals mg) (c : SaysK fa fn fx tf h K) : ∃ (f : Addr) (fd : FuncData), FnOk P w K mg base CX0 1 f fd ["value"] (spIsI K) ∧ Binds K fd ["value"] [] ∧ BindsK fd ["value"] ∧ PySem.W.keepIn K (.ref f) = true ∧ mg "is_integer" = some (.ref f) := by
  obtain ⟨fd_g_is_integer, F_g_is_integer⟩ := c.a.def_ 22 (d := g_is_integer) rfl
  have F_g_is_integer' : FnP K "is_integer" (top 10) (He.ga K "is_integer") fd_g_is_integer := F_g_is_integer
  exact ⟨_, _, ok_isInt F_g_is_integer' (He.free_ok X G (c.a.fact 33 (f := .free "isinstance") rfl)) (He.free_ok X G (c.a.fact 34 (f := .free "int") rfl)) (He.free_ok X G (c.a.fact 35 (f := .free "bool") rfl)), (FunD.bindsN F_g_is_integer' fun _ _ _ _ _ _ us hl => match us, hl with | [_], _ => rfl), (FunD.bindsK F_g_is_integer' fun _ _ _ _ _ _ zs hl => match zs, hl with | [_], _ => rfl), F_g_is_integer.kp, (He.glo_ok X G (c.a.fact 0 (f := .glo "is_integer") rfl))⟩
theorem fact_wn (X : K.In h) (G : h.Ns mainGlobals mg) (c : SaysK fa fn fx tf h K) : ∃ (f : Addr) (fd : FuncData), FnOk P w K mg base CX0 2 f fd ["value", "least", "most"] (spWn K) ∧ Binds K fd ["value", "least", "most"] [] ∧ BindsK fd ["value", "least", "most"] ∧ PySem.W.keepIn K (.ref f) = true ∧ mg "is_within" = some (.ref f) := by
  obtain ⟨fd_g_is_within, F_g_is_within⟩ := c.a.def_ 23 (d := g_is_within) rfl
  have F_g_is_within' : FnP K "is_within" (top 11) (He.ga K "is_within") fd_g_is_within := F_g_is_within
  obtain ⟨fI, fdI, GI, bI, _, kI, gI⟩ := fact_int (P := P) (w := w) (base := base) X G c
  exact ⟨_, _, ok_within F_g_is_within' GI bI kI gI, (FunD.bindsN F_g_is_within' fun _ _ _ _ _ _ us hl => match us, hl with | [_, _, _], _ => rfl), (FunD.bindsK F_g_is_within' fun _ _ _ _ _ _ zs hl => match zs, hl with | [_, _, _], _ => rfl), F_g_is_within.kp, (He.glo_ok X G (c.a.fact 1 (f := .glo "is_within") rfl))⟩
theorem fact_K (X : K.In h) (G : h.Ns mainGlobals mg) (c : SaysK fa fn fx tf h K) : RatK P w K mg base (cR K) (He.ga K "BadRatio") ∧ ∃ (f : Addr) (fd : FuncData), Mk K (cR K) f ∧ FnOk P w K mg base (L2.CX P w) 3 f fd ["self", "top", "bottom"] (spRI K (cR K) (He.ga K "BadRatio")) ∧ KBn K fd ["self", "top", "bottom"] 1 ["bottom", "top"] (fun us ws => us ++ ws.reverse) (fun vs zs => vs ++ zs.reverse) := by
  obtain ⟨fd_r_init, F_r_init⟩ := c.a.def_ 2 (d := r_init) rfl
  obtain ⟨fI, fdI, GI, bI, _, kI, gI⟩ := fact_int (P := P) (w := w) (base := base) X G c
  have M := (fact_err1 (P := P) (w := w) (base := base) X G c).1
  have T := fact_T c
  have gG : mg "gcd" = some (.builtin "math.gcd") := PySem.W.mg_of X G (He.eqO_ok (fxs c 10 (f := gcdB) rfl))
  have mk := He.mkr_ok (c.a.fact 67 (f := .mkr "Ratio") rfl)
  have F : FunD K "__init__" "Ratio.__init__" (defArgs (ratM 0)) (defBody (ratM 0)) (defScope (ratM 0)) [.int 1] [] (He.ma K (cR K) "__init__") fd_r_init := F_r_init
  have G0 : FnOk P w K mg base (L2.CX P w) 3 _ fd_r_init ["self", "top", "bottom"] (spRI K (cR K) (He.ga K "BadRatio")) := ok_ratInit F T M GI bI kI gI gG
  obtain ⟨ds0, v0, b0⟩ := FunD.binds1 (ps := ["self", "top", "bottom"]) F 3 1 (by simp) rfl fun _ _ _ _ _ _ _ us its h1 h2 => match us, its, h1, h2 with | [_, _, _], [_], _, _ => ⟨_, rfl, rfl⟩
  obtain ⟨ds1, v1, b1⟩ := FunD.binds1 (ps := ["self", "top", "bottom"]) F 2 0 (by simp) rfl fun _ _ _ _ _ _ _ us its h1 h2 => match us, its, h1, h2 with | [_, _], [_], _, _ => ⟨_, rfl, rfl⟩
  obtain rfl : ds0 = [] := by cases v0; rfl
  obtain ⟨its, kb⟩ := FunD.kbindsD (ps := ["self", "top", "bottom"]) F 1 ["bottom", "top"] (fun us _ ws => us ++ ws.reverse) (by simp) (fun r1 _ r3 => r1.append (vals_rev r3)) fun _ _ _ _ _ _ _ us its ws h1 h2 h3 => match us, its, ws, h1, h2, h3 with | [_], [_], [_, _], _, _, _ => ⟨_, rfl, rfl⟩
  exact ⟨⟨T, fact_I c, M, (He.glo_ok X G (c.a.fact 29 (f := .glo "Ratio") rfl)), (He.free_ok X G (c.a.fact 33 (f := .free "isinstance") rfl)), ⟨fI, fdI, GI, bI, kI, gI⟩, ⟨_, _, ds1, mk, G0, b0, b1, v1⟩⟩, ⟨_, _, mk, G0, kb⟩⟩
theorem fact_G (X : K.In h) (G : h.Ns mainGlobals mg) (c : SaysK fa fn fx tf h K) : RatG P w K mg base (cR K) (He.ga K "BadRatio") := by
  have R0 := (fact_K (P := P) (w := w) (base := base) X G c).1
  obtain ⟨fd_g_ratio_of, F_g_ratio_of⟩ := c.a.def_ 31 (d := g_ratio_of) rfl
  have F_g_ratio_of' : FnP K "_ratio_of" (top 24) (He.ga K "_ratio_of") fd_g_ratio_of := F_g_ratio_of
  have RF : RatF P w K mg base (cR K) (He.ga K "BadRatio") := ⟨R0, ⟨_, _, ok_ratioOf F_g_ratio_of' R0, (FunD.bindsN F_g_ratio_of' fun _ _ _ _ _ _ us hl => match us, hl with | [_, _], _ => rfl), F_g_ratio_of.kp, (He.glo_ok X G (c.a.fact 9 (f := .glo "_ratio_of") rfl))⟩⟩
  have q := fxs c 3 (f := oddB) rfl
  unfold oddB kitB at q
  simp only [Bool.and_eq_true] at q
  obtain ⟨fd_r_add, F_r_add⟩ := c.a.def_ 8 (d := r_add) rfl
  have F_r_add' : MtP K "__add__" "Ratio.__add__" (ratM 6) (He.ma K (cR K) "__add__") fd_r_add := F_r_add
  obtain ⟨fd_r_sub, F_r_sub⟩ := c.a.def_ 9 (d := r_sub) rfl
  have F_r_sub' : MtP K "__sub__" "Ratio.__sub__" (ratM 7) (He.ma K (cR K) "__sub__") fd_r_sub := F_r_sub
  obtain ⟨fd_r_mul, F_r_mul⟩ := c.a.def_ 10 (d := r_mul) rfl
  have F_r_mul' : MtP K "__mul__" "Ratio.__mul__" (ratM 8) (He.ma K (cR K) "__mul__") fd_r_mul := F_r_mul
  exact ⟨RF, q.1, fun T hT => of_decide_eq_true (List.all_eq_true.mp q.2 T hT), ⟨_, _, fact_op c 4 (m := "__add__") rfl (by decide +kernel), ok_add F_r_add' RF, (FunD.bindsN F_r_add' fun _ _ _ _ _ _ us hl => match us, hl with | [_, _], _ => rfl)⟩, ⟨_, _, fact_op c 5 (m := "__sub__") rfl (by decide +kernel), ok_sub F_r_sub' RF, (FunD.bindsN F_r_sub' fun _ _ _ _ _ _ us hl => match us, hl with | [_, _], _ => rfl)⟩, ⟨_, _, fact_op c 6 (m := "__mul__") rfl (by decide +kernel), ok_mul F_r_mul' RF, (FunD.bindsN F_r_mul' fun _ _ _ _ _ _ us hl => match us, hl with | [_, _], _ => rfl)⟩⟩
theorem fact_H (X : K.In h) (G : h.Ns mainGlobals mg) (c : SaysK fa fn fx tf h K) : RatH P w K mg base (cR K) (He.ga K "BadRatio") := by
  have RG := fact_G (P := P) (w := w) (base := base) X G c
  obtain ⟨fd_r_compared, F_r_compared⟩ := c.a.def_ 5 (d := r_compared) rfl
  have F_r_compared' : MtP K "compared" "Ratio.compared" (ratM 3) (He.ma K (cR K) "compared") fd_r_compared := F_r_compared
  exact ⟨RG, ⟨_, _, He.meth_ok (c.a.fact 64 (f := .meth "Ratio" "compared") rfl), ok_compared F_r_compared' RG, (FunD.bindsN F_r_compared' fun _ _ _ _ _ _ us hl => match us, hl with | [_, _], _ => rfl)⟩⟩
theorem fact_W (X : K.In h) (G : h.Ns mainGlobals mg) (c : SaysK fa fn fx tf h K) : RatW P w K mg base (cR K) (He.ga K "BadRatio") := by
  have RH := fact_H (P := P) (w := w) (base := base) X G c
  obtain ⟨fd_r_compared, F_r_compared⟩ := c.a.def_ 5 (d := r_compared) rfl
  have F_r_compared' : MtP K "compared" "Ratio.compared" (ratM 3) (He.ma K (cR K) "compared") fd_r_compared := F_r_compared
  obtain ⟨fd_r_is_below, F_r_is_below⟩ := c.a.def_ 6 (d := r_is_below) rfl
  have F_r_is_below' : MtP K "is_below" "Ratio.is_below" (ratM 4) (He.ma K (cR K) "is_below") fd_r_is_below := F_r_is_below
  obtain ⟨fd_r_over, F_r_over⟩ := c.a.def_ 7 (d := r_over) rfl
  have F_r_over' : MtP K "over" "Ratio.over" (ratM 5) (He.ma K (cR K) "over") fd_r_over := F_r_over
  obtain ⟨fd_r_eq, F_r_eq⟩ := c.a.def_ 14 (d := r_eq) rfl
  have F_r_eq' : MtP K "__eq__" "Ratio.__eq__" (ratM 12) (He.ma K (cR K) "__eq__") fd_r_eq := F_r_eq
  obtain ⟨fd_g_is_same, F_g_is_same⟩ := c.a.def_ 32 (d := g_is_same) rfl
  have F_g_is_same' : FnP K "_is_same" (top 25) (He.ga K "_is_same") fd_g_is_same := F_g_is_same
  obtain ⟨fd_g_added, F_g_added⟩ := c.a.def_ 30 (d := g_added) rfl
  have F_g_added' : FnP K "added" (top 23) (He.ga K "added") fd_g_added := F_g_added
  obtain ⟨fd_g_is_ratio, F_g_is_ratio⟩ := c.a.def_ 29 (d := g_is_ratio) rfl
  have F_g_is_ratio' : FnP K "is_ratio" (top 22) (He.ga K "is_ratio") fd_g_is_ratio := F_g_is_ratio
  exact ⟨RH, ⟨_, _, He.meth_ok (c.a.fact 64 (f := .meth "Ratio" "compared") rfl), ok_compared F_r_compared' RH.toRatG, (FunD.bindsKM F_r_compared' fun _ _ _ _ _ _ _ zs hl => match zs, hl with | [_], _ => rfl)⟩, ⟨_, _, He.meth_ok (c.a.fact 65 (f := .meth "Ratio" "is_below") rfl), ok_below F_r_is_below' RH, (FunD.bindsN F_r_is_below' fun _ _ _ _ _ _ us hl => match us, hl with | [_, _], _ => rfl)⟩, ⟨_, _, He.meth_ok (c.a.fact 66 (f := .meth "Ratio" "over") rfl), ok_over F_r_over' RH.toRatG, (FunD.bindsN F_r_over' fun _ _ _ _ _ _ us hl => match us, hl with | [_, _], _ => rfl)⟩,
    ⟨_, _, fact_own c (by simp), ok_eq F_r_eq' RH.toRatK F_g_is_same' (He.glo_ok X G (c.a.fact 10 (f := .glo "_is_same") rfl)), (FunD.bindsN F_r_eq' fun _ _ _ _ _ _ us hl => match us, hl with | [_, _], _ => rfl)⟩, ⟨_, ok_added F_g_added' RH.toRatG F_g_is_ratio' (He.glo_ok X G (c.a.fact 7 (f := .glo "is_ratio") rfl)) (He.free_ok X G (c.a.fact 40 (f := .free "all") rfl)), F_g_added.kp, (He.glo_ok X G (c.a.fact 8 (f := .glo "added") rfl))⟩⟩
theorem fact_R (X : K.In h) (G : h.Ns mainGlobals mg) (c : SaysK fa fn fx tf h K) : RdK P w K mg base (He.ga K "Reader") (He.ga K "BadText") := by
  have M := (fact_err2 (P := P) (w := w) (base := base) X G c).1
  have D := fact_D c
  obtain ⟨fd_d_init, F_d_init⟩ := c.a.def_ 17 (d := d_init) rfl
  have F_d_init' : MtP K "__init__" "Reader.__init__" (rdM 0) (He.ma K (He.ga K "Reader") "__init__") fd_d_init := F_d_init
  obtain ⟨fd_d_peek, F_d_peek⟩ := c.a.def_ 18 (d := d_peek) rfl
  have F_d_peek' : MtP K "peek" "Reader.peek" (rdM 1) (He.ma K (He.ga K "Reader") "peek") fd_d_peek := F_d_peek
  obtain ⟨fd_d_step, F_d_step⟩ := c.a.def_ 19 (d := d_step) rfl
  have F_d_step' : MtP K "step" "Reader.step" (rdM 2) (He.ma K (He.ga K "Reader") "step") fd_d_step := F_d_step
  obtain ⟨fd_d_refuse, F_d_refuse⟩ := c.a.def_ 20 (d := d_refuse) rfl
  have F_d_refuse' : MtP K "refuse" "Reader.refuse" (rdM 3) (He.ma K (He.ga K "Reader") "refuse") fd_d_refuse := F_d_refuse
  obtain ⟨fd_d_finish, F_d_finish⟩ := c.a.def_ 21 (d := d_finish) rfl
  have F_d_finish' : MtP K "finish" "Reader.finish" (rdM 6) (He.ma K (He.ga K "Reader") "finish") fd_d_finish := F_d_finish
  obtain ⟨fd_g_reader_of, F_g_reader_of⟩ := c.a.def_ 27 (d := g_reader_of) rfl
  have F_g_reader_of' : FnP K "reader_of" (top 18) (He.ga K "reader_of") fd_g_reader_of := F_g_reader_of
  have GR : FnOk P w K mg base (L2.CX P w) 3 _ fd_d_refuse ["self"] (spRefuse (He.ga K "Reader") (He.ga K "BadText")) := ok_refuse F_d_refuse' D M
  have bR : Binds K fd_d_refuse ["self"] [] := (FunD.bindsN F_d_refuse' fun _ _ _ _ _ _ us hl => match us, hl with | [_], _ => rfl)
  have mR := He.meth_ok (c.a.fact 62 (f := .meth "Reader" "refuse") rfl)
  exact ⟨D, ⟨_, _, ok_readerOf F_g_reader_of' M (He.free_ok X G (c.a.fact 33 (f := .free "isinstance") rfl)) (He.free_ok X G (c.a.fact 36 (f := .free "str") rfl)) (He.mkr_ok (c.a.fact 68 (f := .mkr "Reader") rfl)) (He.glo_ok X G (c.a.fact 30 (f := .glo "Reader") rfl)) (ok_rdInit F_d_init' D (He.free_ok X G (c.a.fact 37 (f := .free "len") rfl))) (FunD.bindsN F_d_init' fun _ _ _ _ _ _ us hl => match us, hl with | [_, _], _ => rfl), (FunD.bindsN F_g_reader_of' fun _ _ _ _ _ _ us hl => match us, hl with | [_], _ => rfl), F_g_reader_of.kp, (He.glo_ok X G (c.a.fact 5 (f := .glo "reader_of") rfl))⟩, ⟨_, _, He.meth_ok (c.a.fact 60 (f := .meth "Reader" "peek") rfl), ok_peek F_d_peek' D, (FunD.bindsN F_d_peek' fun _ _ _ _ _ _ us hl => match us, hl with | [_], _ => rfl)⟩, ⟨_, _, He.meth_ok (c.a.fact 61 (f := .meth "Reader" "step") rfl), ok_step F_d_step' D, (FunD.bindsN F_d_step' fun _ _ _ _ _ _ us hl => match us, hl with | [_], _ => rfl)⟩, ⟨_, _, mR, GR, bR⟩, ⟨_, _, He.meth_ok (c.a.fact 63 (f := .meth "Reader" "finish") rfl), ok_finish F_d_finish' D mR GR bR, (FunD.bindsN F_d_finish' fun _ _ _ _ _ _ us hl => match us, hl with | [_], _ => rfl)⟩⟩
theorem fact_Z (X : K.In h) (G : h.Ns mainGlobals mg) (c : SaysK fa fn fx tf h K) : RatZ P w K mg base (cR K) (He.ga K "BadRatio") (He.ga K "BadText") := by
  have RW := fact_W (P := P) (w := w) (base := base) X G c
  have RD := fact_R (P := P) (w := w) (base := base) X G c
  have T := fact_T c
  have B1 : Blt1 mg := ⟨(He.free_ok X G (c.a.fact 34 (f := .free "int") rfl)), (He.free_ok X G (c.a.fact 37 (f := .free "len") rfl))⟩
  obtain ⟨fd_r_neg, F_r_neg⟩ := c.a.def_ 11 (d := r_neg) rfl
  have F_r_neg' : MtP K "__neg__" "Ratio.__neg__" (ratM 9) (He.ma K (cR K) "__neg__") fd_r_neg := F_r_neg
  obtain ⟨fd_r_abs, F_r_abs⟩ := c.a.def_ 12 (d := r_abs) rfl
  have F_r_abs' : MtP K "__abs__" "Ratio.__abs__" (ratM 10) (He.ma K (cR K) "__abs__") fd_r_abs := F_r_abs
  obtain ⟨fd_r_bool, F_r_bool⟩ := c.a.def_ 13 (d := r_bool) rfl
  have F_r_bool' : MtP K "__bool__" "Ratio.__bool__" (ratM 11) (He.ma K (cR K) "__bool__") fd_r_bool := F_r_bool
  obtain ⟨fd_r_str, F_r_str⟩ := c.a.def_ 15 (d := r_str) rfl
  have F_r_str' : MtP K "__str__" "Ratio.__str__" (ratM 13) (He.ma K (cR K) "__str__") fd_r_str := F_r_str
  obtain ⟨fd_r_repr, F_r_repr⟩ := c.a.def_ 16 (d := r_repr) rfl
  have F_r_repr' : MtP K "__repr__" "Ratio.__repr__" (ratM 14) (He.ma K (cR K) "__repr__") fd_r_repr := F_r_repr
  obtain ⟨fd_g_written, F_g_written⟩ := c.a.def_ 33 (d := g_written) rfl
  have F_g_written' : FnP K "_written" (top 26) (He.ga K "_written") fd_g_written := F_g_written
  obtain ⟨fd_g_whole_in, F_g_whole_in⟩ := c.a.def_ 28 (d := g_whole_in) rfl
  have F_g_whole_in' : FnP K "whole_in" (top 19) (He.ga K "whole_in") fd_g_whole_in := F_g_whole_in
  obtain ⟨fd_g_ratio_in, F_g_ratio_in⟩ := c.a.def_ 34 (d := g_ratio_in) rfl
  have F_g_ratio_in' : FnP K "ratio_in" (top 27) (He.ga K "ratio_in") fd_g_ratio_in := F_g_ratio_in
  obtain ⟨fd_g_ratio_of, F_g_ratio_of⟩ := c.a.def_ 31 (d := g_ratio_of) rfl
  have F_g_ratio_of' : FnP K "_ratio_of" (top 24) (He.ga K "_ratio_of") fd_g_ratio_of := F_g_ratio_of
  obtain ⟨fd_r_read, F_r_read⟩ := c.a.def_ 3 (d := r_read) rfl
  have F_r_read' : MtP K "read" "Ratio.read" (ratM 1) (He5.wf K (cR K) "classmethod" "read") fd_r_read := F_r_read
  obtain ⟨fd_r_of, F_r_of⟩ := c.a.def_ 4 (d := r_of) rfl
  have F_r_of' : MtP K "of" "Ratio.of" (ratM 2) (He5.wf K (cR K) "staticmethod" "of") fd_r_of := F_r_of
  have hM := He.int_ok X G (c.a.fact 47 (f := .int "_MOST_DIGITS" 60) rfl)
  have GS : FnOk P w K mg base CX0 2 _ fd_r_str ["self"] (spText K (cR K)) := ok_str F_r_str' T F_g_written' (He.glo_ok X G (c.a.fact 11 (f := .glo "_written") rfl)) (He.free_ok X G (c.a.fact 36 (f := .free "str") rfl))
  have GN : FnOk P w K mg base CX0 5 _ fd_g_ratio_in ["word"] (spRIn K (cR K)) := ok_ratioIn F_g_ratio_in' RW.toRatK B1 (He.free_ok X G (c.a.fact 41 (f := .free "any") rfl)) (He.free_ok X G (c.a.fact 36 (f := .free "str") rfl)) F_g_whole_in' (He.glo_ok X G (c.a.fact 6 (f := .glo "whole_in") rfl)) hM (fact_own c (m := "__str__") (by simp)) GS (FunD.bindsN F_r_str' fun _ _ _ _ _ _ us hl => match us, hl with | [_], _ => rfl)
  have q := fxs c 8 (f := neB) rfl
  unfold neB at q
  simp only [Bool.and_eq_true] at q
  have q9 := fxs c 9 (f := clsB) rfl
  unfold clsB at q9
  simp only [Bool.and_eq_true] at q9
  obtain ⟨k1, k2, k3, k4, k5, k6⟩ := q9
  have cr : CRead K (cR K) (.type "type") := ⟨k1, He.eqO_ok k2⟩
  have cm : CMet K (cR K) (.type "type") "read" _ _ := He5.cmet_of k3 k4
  have sm : SMet K (cR K) (.type "type") "of" (He.ma K (cR K) "of") (He5.wf K (cR K) "staticmethod" "of") := ⟨(He5.wrapB_ok k5).1, (He5.wrapB_ok k5).2, k6⟩
  have RF : RatF P w K mg base (cR K) (He.ga K "BadRatio") := RW.toRatF
  exact ⟨RW, (fact_K (P := P) (w := w) (base := base) X G c).2, ⟨_, _, fact_own c (by simp), ok_neg F_r_neg' RF, (FunD.bindsN F_r_neg' fun _ _ _ _ _ _ us hl => match us, hl with | [_], _ => rfl)⟩, ⟨_, _, fact_own c (by simp), ok_abs F_r_abs' RF (He.free_ok X G (c.a.fact 42 (f := .free "abs") rfl)), (FunD.bindsN F_r_abs' fun _ _ _ _ _ _ us hl => match us, hl with | [_], _ => rfl)⟩, ⟨_, _, fact_own c (by simp), ok_bool F_r_bool' T (He.free_ok X G (c.a.fact 35 (f := .free "bool") rfl)), (FunD.bindsN F_r_bool' fun _ _ _ _ _ _ us hl => match us, hl with | [_], _ => rfl)⟩,
    ⟨_, _, fact_own c (by simp), GS, (FunD.bindsN F_r_str' fun _ _ _ _ _ _ us hl => match us, hl with | [_], _ => rfl)⟩, ⟨_, _, fact_own c (by simp), ok_repr F_r_repr' T F_g_written' (He.glo_ok X G (c.a.fact 11 (f := .glo "_written") rfl)) (He.free_ok X G (c.a.fact 36 (f := .free "str") rfl)), (FunD.bindsN F_r_repr' fun _ _ _ _ _ _ us hl => match us, hl with | [_], _ => rfl)⟩,
    ⟨_, _, _, cr, cm, raw0 (ok_read F_r_read' RW.toRatK RD GN (FunD.bindsN F_g_ratio_in' fun _ _ _ _ _ _ us hl => match us, hl with | [_], _ => rfl) F_g_ratio_in.kp (He.glo_ok X G (c.a.fact 12 (f := .glo "ratio_in") rfl))) (FunD.bindsN F_r_read' fun _ _ _ _ _ _ us hl => match us, hl with | [_, _], _ => rfl)⟩, ⟨_, _, _, _, cr, sm, ok_of1 F_r_of' RF, (FunD.bindsN F_r_of' fun _ _ _ _ _ _ us hl => match us, hl with | [_], _ => rfl)⟩, He.eqO_ok q.1, of_decide_eq_true q.2.1, fun T hT => List.all_eq_true.mp q.2.2 T hT⟩
theorem fact_Y (X : K.In h) (G : h.Ns mainGlobals mg) (c : SaysK fa fn fx tf h K) : ∃ (gH : Addr) (fdH : FuncData), RatY P w K mg base (cR K) (He.ga K "BadRatio") (He.ga K "BadText") gH fdH := by
  have RZ := fact_Z (P := P) (w := w) (base := base) X G c
  obtain ⟨M1, x1, n1, g1⟩ := fact_err1 (P := P) (w := w) (base := base) X G c
  obtain ⟨M2, x2, n2, n3, g2⟩ := fact_err2 (P := P) (w := w) (base := base) X G c
  obtain ⟨fI, fdI, GI, bI, bIK, kI, gI⟩ := fact_int (P := P) (w := w) (base := base) X G c
  obtain ⟨fW, fdW, GW, bW, bWK, kW, gW⟩ := fact_wn (P := P) (w := w) (base := base) X G c
  obtain ⟨fd_g_law_heard, F_g_law_heard⟩ := c.a.def_ 45 (d := g_law_heard) rfl
  have F_g_law_heard' : FnP K "_law_heard" (top 39) (He.ga K "_law_heard") fd_g_law_heard := F_g_law_heard
  obtain ⟨fd_r_over, F_r_over⟩ := c.a.def_ 7 (d := r_over) rfl
  have F_r_over' : MtP K "over" "Ratio.over" (ratM 5) (He.ma K (cR K) "over") fd_r_over := F_r_over
  obtain ⟨fd_r_is_below, F_r_is_below⟩ := c.a.def_ 6 (d := r_is_below) rfl
  have F_r_is_below' : MtP K "is_below" "Ratio.is_below" (ratM 4) (He.ma K (cR K) "is_below") fd_r_is_below := F_r_is_below
  obtain ⟨fd_g_is_ratio, F_g_is_ratio⟩ := c.a.def_ 29 (d := g_is_ratio) rfl
  have F_g_is_ratio' : FnP K "is_ratio" (top 22) (He.ga K "is_ratio") fd_g_is_ratio := F_g_is_ratio
  obtain ⟨fd_r_of, F_r_of⟩ := c.a.def_ 4 (d := r_of) rfl
  have F_r_of' : MtP K "of" "Ratio.of" (ratM 2) (He5.wf K (cR K) "staticmethod" "of") fd_r_of := F_r_of
  have q9 := fxs c 9 (f := clsB) rfl
  unfold clsB at q9
  simp only [Bool.and_eq_true] at q9
  obtain ⟨k1, k2, k3, k4, k5, k6⟩ := q9
  have cr : CRead K (cR K) (.type "type") := ⟨k1, He.eqO_ok k2⟩
  have sm : SMet K (cR K) (.type "type") "of" (He.ma K (cR K) "of") (He5.wf K (cR K) "staticmethod" "of") := ⟨(He5.wrapB_ok k5).1, (He5.wrapB_ok k5).2, k6⟩
  exact ⟨_, _, RZ, ⟨F_g_law_heard', (He.glo_ok X G (c.a.fact 23 (f := .glo "_law_heard") rfl)), g1, g2, x1, n1, x2, n2, n3, He.exm_ok (c.a.fact 69 (f := .exm "BadRatio" "BadRatio" true) rfl), He.exm_ok (c.a.fact 70 (f := .exm "BadText" "BadRatio" false) rfl), He.exm_ok (c.a.fact 71 (f := .exm "BadText" "BadText" true) rfl)⟩, ⟨_, _, He.meth_ok (c.a.fact 66 (f := .meth "Ratio" "over") rfl), ok_over F_r_over' RZ.toRatG, (FunD.bindsKM F_r_over' fun _ _ _ _ _ _ _ zs hl => match zs, hl with | [_], _ => rfl)⟩, ⟨_, _, He.meth_ok (c.a.fact 65 (f := .meth "Ratio" "is_below") rfl), ok_below F_r_is_below' RZ.toRatH, (FunD.bindsKM F_r_is_below' fun _ _ _ _ _ _ _ zs hl => match zs, hl with | [_], _ => rfl)⟩,
    ⟨_, _, _, _, cr, sm, ok_of1 F_r_of' RZ.toRatF, (FunD.bindsK F_r_of' fun _ _ _ _ _ _ zs hl => match zs, hl with | [_], _ => rfl)⟩, ⟨_, _, ok_isRatio F_g_is_ratio' RZ.toRatG, (FunD.bindsN F_g_is_ratio' fun _ _ _ _ _ _ us hl => match us, hl with | [_], _ => rfl), F_g_is_ratio.kp, (He.glo_ok X G (c.a.fact 7 (f := .glo "is_ratio") rfl))⟩, ⟨fI, fdI, GI, bIK, kI, gI⟩, ⟨fW, fdW, GW, bWK, kW, gW⟩⟩
theorem fact_N (X : K.In h) (G : h.Ns mainGlobals mg) (c : SaysK fa fn fx tf h K) : NmK P w K mg base := by
  obtain ⟨fI, fdI, GI, bI, bIK, kI, gI⟩ := fact_int (P := P) (w := w) (base := base) X G c
  obtain ⟨fW, fdW, GW, bW, bWK, kW, gW⟩ := fact_wn (P := P) (w := w) (base := base) X G c
  obtain ⟨fd_g_is_name, F_g_is_name⟩ := c.a.def_ 24 (d := g_is_name) rfl
  have F_g_is_name' : FnP K "is_name" (top 12) (He.ga K "is_name") fd_g_is_name := F_g_is_name
  obtain ⟨fd_g_is_list, F_g_is_list⟩ := c.a.def_ 25 (d := g_is_list) rfl
  have F_g_is_list' : FnP K "is_list" (top 13) (He.ga K "is_list") fd_g_is_list := F_g_is_list
  obtain ⟨fd_g_are_names, F_g_are_names⟩ := c.a.def_ 26 (d := g_are_names) rfl
  have F_g_are_names' : FnP K "are_names" (top 14) (He.ga K "are_names") fd_g_are_names := F_g_are_names
  have N : NmG mg := ⟨(He.free_ok X G (c.a.fact 33 (f := .free "isinstance") rfl)), (He.free_ok X G (c.a.fact 36 (f := .free "str") rfl)), (He.free_ok X G (c.a.fact 37 (f := .free "len") rfl)), (He.free_ok X G (c.a.fact 40 (f := .free "all") rfl)), He.int_ok X G (c.a.fact 46 (f := .int "_LONGEST" 12) rfl), He.str_ok X G (c.a.fact 48 (f := .str "_LETTERS" letS) rfl), He.str_ok X G (c.a.fact 49 (f := .str "_SIGNS" sigS) rfl)⟩
  have GN : FnOk P w K mg base CX0 1 _ fd_g_is_name ["value"] (spNm K) := ok_isName F_g_is_name' N
  have bN : Binds K fd_g_is_name ["value"] [] := (FunD.bindsN F_g_is_name' fun _ _ _ _ _ _ us hl => match us, hl with | [_], _ => rfl)
  exact ⟨⟨_, _, GN, bN, (FunD.bindsK F_g_is_name' fun _ _ _ _ _ _ zs hl => match zs, hl with | [_], _ => rfl), F_g_is_name.kp, (He.glo_ok X G (c.a.fact 2 (f := .glo "is_name") rfl))⟩, ⟨_, _, ok_areNames F_g_are_names' (He.free_ok X G (c.a.fact 40 (f := .free "all") rfl)) GN bN F_g_is_name.kp (He.glo_ok X G (c.a.fact 2 (f := .glo "is_name") rfl)) (ok_isList F_g_is_list' (He.free_ok X G (c.a.fact 33 (f := .free "isinstance") rfl)) (He.free_ok X G (c.a.fact 38 (f := .free "list") rfl)) (He.free_ok X G (c.a.fact 39 (f := .free "tuple") rfl))) (FunD.bindsN F_g_is_list' fun _ _ _ _ _ _ us hl => match us, hl with | [_], _ => rfl) F_g_is_list.kp (He.glo_ok X G (c.a.fact 3 (f := .glo "is_list") rfl)), (FunD.bindsN F_g_are_names' fun _ _ _ _ _ _ us hl => match us, hl with | [_], _ => rfl), (FunD.bindsK F_g_are_names' fun _ _ _ _ _ _ zs hl => match zs, hl with | [_], _ => rfl), F_g_are_names.kp, (He.glo_ok X G (c.a.fact 4 (f := .glo "are_names") rfl))⟩, ⟨fI, fdI, GI, bI, kI, gI⟩, ⟨fW, fdW, GW, bW, kW, gW⟩⟩
theorem fact_L (X : K.In h) (G : h.Ns mainGlobals mg) (c : SaysK fa fn fx tf h K) (TB1 : TabB base mg (He.codeOf K ("_law_refused_right", none)) (PT1 K)) (TB2 : TabB base mg (He.codeOf K ("_law_read_right", none)) (PT2 K)) : LawK P w K mg base (cR K) (He.ga K "BadRatio") (TT K) := by
  obtain ⟨gH, fdH, RY⟩ := fact_Y (P := P) (w := w) (base := base) X G c
  have RN := fact_N (P := P) (w := w) (base := base) X G c
  have B : Blt mg := ⟨(He.free_ok X G (c.a.fact 34 (f := .free "int") rfl)), (He.free_ok X G (c.a.fact 37 (f := .free "len") rfl)), (He.free_ok X G (c.a.fact 42 (f := .free "abs") rfl))⟩
  have ne : PT1 K ≠ PT2 K := of_decide_eq_true (fxs c 11 (f := tabB2) rfl)
  obtain ⟨fd_g_law_till, F_g_law_till⟩ := c.a.def_ 35 (d := g_law_till) rfl
  have F_g_law_till' : FnP K "_law_till" (top 29) (He.ga K "_law_till") fd_g_law_till := F_g_law_till
  obtain ⟨fd_g_law_coin, F_g_law_coin⟩ := c.a.def_ 36 (d := g_law_coin) rfl
  have F_g_law_coin' : FnP K "_law_coin" (top 30) (He.ga K "_law_coin") fd_g_law_coin := F_g_law_coin
  obtain ⟨fd_g_law_of, F_g_law_of⟩ := c.a.def_ 37 (d := g_law_of) rfl
  have F_g_law_of' : FnP K "_law_of" (top 31) (He.ga K "_law_of") fd_g_law_of := F_g_law_of
  obtain ⟨fd_g_law_number, F_g_law_number⟩ := c.a.def_ 38 (d := g_law_number) rfl
  have F_g_law_number' : FnP K "_law_number" (top 32) (He.ga K "_law_number") fd_g_law_number := F_g_law_number
  obtain ⟨fd_g_law_bottom, F_g_law_bottom⟩ := c.a.def_ 39 (d := g_law_bottom) rfl
  have F_g_law_bottom' : FnP K "_law_bottom" (top 33) (He.ga K "_law_bottom") fd_g_law_bottom := F_g_law_bottom
  obtain ⟨fd_g_law_lowest, F_g_law_lowest⟩ := c.a.def_ 40 (d := g_law_lowest) rfl
  have F_g_law_lowest' : FnP K "_law_lowest" (top 34) (He.ga K "_law_lowest") fd_g_law_lowest := F_g_law_lowest
  obtain ⟨fd_g_law_is, F_g_law_is⟩ := c.a.def_ 41 (d := g_law_is) rfl
  have F_g_law_is' : FnP K "_law_is" (top 35) (He.ga K "_law_is") fd_g_law_is := F_g_law_is
  obtain ⟨fd_g_law_text, F_g_law_text⟩ := c.a.def_ 42 (d := g_law_text) rfl
  have F_g_law_text' : FnP K "_law_text" (top 36) (He.ga K "_law_text") fd_g_law_text := F_g_law_text
  obtain ⟨fd_g_law_one_right, F_g_law_one_right⟩ := c.a.def_ 43 (d := g_law_one_right) rfl
  have F_g_law_one_right' : FnP K "_law_one_right" (top 37) (He.ga K "_law_one_right") fd_g_law_one_right := F_g_law_one_right
  obtain ⟨fd_g_law_two_right, F_g_law_two_right⟩ := c.a.def_ 44 (d := g_law_two_right) rfl
  have F_g_law_two_right' : FnP K "_law_two_right" (top 38) (He.ga K "_law_two_right") fd_g_law_two_right := F_g_law_two_right
  obtain ⟨fd_g_law_refused_right, F_g_law_refused_right⟩ := c.a.def_ 46 (d := g_law_refused_right) rfl
  have F_g_law_refused_right' : FnP K "_law_refused_right" (top 40) (He.ga K "_law_refused_right") fd_g_law_refused_right := F_g_law_refused_right
  obtain ⟨fd_g_law_read_right, F_g_law_read_right⟩ := c.a.def_ 47 (d := g_law_read_right) rfl
  have F_g_law_read_right' : FnP K "_law_read_right" (top 41) (He.ga K "_law_read_right") fd_g_law_read_right := F_g_law_read_right
  obtain ⟨fd_g_law_is_name, F_g_law_is_name⟩ := c.a.def_ 48 (d := g_law_is_name) rfl
  have F_g_law_is_name' : FnP K "_law_is_name" (top 42) (He.ga K "_law_is_name") fd_g_law_is_name := F_g_law_is_name
  obtain ⟨fd_g_law_names_right, F_g_law_names_right⟩ := c.a.def_ 49 (d := g_law_names_right) rfl
  have F_g_law_names_right' : FnP K "_law_names_right" (top 43) (He.ga K "_law_names_right") fd_g_law_names_right := F_g_law_names_right
  have u1 : ∀ p ∈ TT K, p.1 = PT1 K → p.2 = lamQ "_law_refused_right" := fun p hp e => by
    rcases List.mem_cons.mp hp with rfl | hp
    · rfl
    · rw [List.mem_singleton.mp hp] at e
      exact absurd e.symm ne
  have u2 : ∀ p ∈ TT K, p.1 = PT2 K → p.2 = lamQ "_law_read_right" := fun p hp e => by
    rcases List.mem_cons.mp hp with rfl | hp
    · exact absurd e ne
    · rw [List.mem_singleton.mp hp]
  refine ⟨RY.toRatK, (He.free_ok X G (c.a.fact 43 (f := .free "range") rfl)), (He.free_ok X G (c.a.fact 44 (f := .free "enumerate") rfl)), ⟨_, _, ok_till F_g_law_till' B, (FunD.bindsN F_g_law_till' fun _ _ _ _ _ _ us hl => match us, hl with | [_], _ => rfl), F_g_law_till.kp, (He.glo_ok X G (c.a.fact 13 (f := .glo "_law_till") rfl))⟩, ⟨_, _, ok_number F_g_law_number' B (He.glo_ok X G (c.a.fact 14 (f := .glo "_law_coin") rfl)) F_g_law_coin', (FunD.bindsN F_g_law_number' fun _ _ _ _ _ _ us hl => match us, hl with | [_], _ => rfl), F_g_law_number.kp, (He.glo_ok X G (c.a.fact 16 (f := .glo "_law_number") rfl))⟩, ⟨_, _, ok_bottom F_g_law_bottom' B (He.glo_ok X G (c.a.fact 16 (f := .glo "_law_number") rfl)) F_g_law_number' (He.glo_ok X G (c.a.fact 14 (f := .glo "_law_coin") rfl)) F_g_law_coin', (FunD.bindsN F_g_law_bottom' fun _ _ _ _ _ _ us hl => match us, hl with | [_], _ => rfl), F_g_law_bottom.kp, (He.glo_ok X G (c.a.fact 17 (f := .glo "_law_bottom") rfl))⟩,
    ⟨_, _, ok_lowest F_g_law_lowest' B (He.free_ok X G (c.a.fact 43 (f := .free "range") rfl)), (FunD.bindsN F_g_law_lowest' fun _ _ _ _ _ _ us hl => match us, hl with | [_, _], _ => rfl), F_g_law_lowest.kp, (He.glo_ok X G (c.a.fact 18 (f := .glo "_law_lowest") rfl))⟩, ⟨_, _, ok_one F_g_law_one_right' RY.toRatZ B (He.free_ok X G (c.a.fact 43 (f := .free "range") rfl)) (He.free_ok X G (c.a.fact 35 (f := .free "bool") rfl)) (He.free_ok X G (c.a.fact 36 (f := .free "str") rfl)) (He.free_ok X G (c.a.fact 45 (f := .free "repr") rfl)) F_g_law_lowest' (He.glo_ok X G (c.a.fact 18 (f := .glo "_law_lowest") rfl)) F_g_law_is' (He.glo_ok X G (c.a.fact 19 (f := .glo "_law_is") rfl)) F_g_law_text' (He.glo_ok X G (c.a.fact 20 (f := .glo "_law_text") rfl)), (FunD.bindsN F_g_law_one_right' fun _ _ _ _ _ _ us hl => match us, hl with | [_, _], _ => rfl), F_g_law_one_right.kp, (He.glo_ok X G (c.a.fact 21 (f := .glo "_law_one_right") rfl))⟩, ⟨_, _, ok_two F_g_law_two_right' RY.toRatW B (He.free_ok X G (c.a.fact 43 (f := .free "range") rfl)) (He.free_ok X G (c.a.fact 35 (f := .free "bool") rfl)) F_g_law_lowest' (He.glo_ok X G (c.a.fact 18 (f := .glo "_law_lowest") rfl)) F_g_law_is' (He.glo_ok X G (c.a.fact 19 (f := .glo "_law_is") rfl)), (FunD.bindsN F_g_law_two_right' fun _ _ _ _ _ _ us hl => match us, hl with | [_, _], _ => rfl), F_g_law_two_right.kp, (He.glo_ok X G (c.a.fact 22 (f := .glo "_law_two_right") rfl))⟩,
    ⟨_, _, ok_refused F_g_law_refused_right' RY B (He.free_ok X G (c.a.fact 43 (f := .free "range") rfl)) (He.free_ok X G (c.a.fact 35 (f := .free "bool") rfl)) TB1 rfl List.mem_cons_self u1 (He.glo_ok X G (c.a.fact 14 (f := .glo "_law_coin") rfl)) F_g_law_coin' F_g_law_of' (He.glo_ok X G (c.a.fact 15 (f := .glo "_law_of") rfl)) F_g_law_lowest' (He.glo_ok X G (c.a.fact 18 (f := .glo "_law_lowest") rfl)) F_g_law_is' (He.glo_ok X G (c.a.fact 19 (f := .glo "_law_is") rfl)), (FunD.bindsN F_g_law_refused_right' fun _ _ _ _ _ _ us hl => match us, hl with | [_, _], _ => rfl), F_g_law_refused_right.kp, (He.glo_ok X G (c.a.fact 24 (f := .glo "_law_refused_right") rfl))⟩, ⟨_, _, ok_readRight F_g_law_read_right' RY B (He.free_ok X G (c.a.fact 36 (f := .free "str") rfl)) TB2 rfl (List.mem_cons_of_mem _ List.mem_cons_self) u2 (He.glo_ok X G (c.a.fact 14 (f := .glo "_law_coin") rfl)) F_g_law_coin' F_g_law_text' (He.glo_ok X G (c.a.fact 20 (f := .glo "_law_text") rfl)), (FunD.bindsN F_g_law_read_right' fun _ _ _ _ _ _ us hl => match us, hl with | [_, _], _ => rfl), F_g_law_read_right.kp, (He.glo_ok X G (c.a.fact 25 (f := .glo "_law_read_right") rfl))⟩,
    ⟨_, _, ok_names F_g_law_names_right' RN B (He.free_ok X G (c.a.fact 43 (f := .free "range") rfl)) (He.free_ok X G (c.a.fact 37 (f := .free "len") rfl)) (He.glo_ok X G (c.a.fact 14 (f := .glo "_law_coin") rfl)) F_g_law_coin' F_g_law_of' (He.glo_ok X G (c.a.fact 15 (f := .glo "_law_of") rfl)) F_g_law_is_name' (He.glo_ok X G (c.a.fact 26 (f := .glo "_law_is_name") rfl)), (FunD.bindsN F_g_law_names_right' fun _ _ _ _ _ _ us hl => match us, hl with | [_], _ => rfl), F_g_law_names_right.kp, (He.glo_ok X G (c.a.fact 27 (f := .glo "_law_names_right") rfl))⟩⟩
theorem fact_law {f : Addr} (X : K.In h) (G : h.Ns mainGlobals mg) (hfa : mg ("law" : Str) = some (.ref f)) (c : SaysK fa fn fx tf h K) (hP : P = (PySem.Challenge.rw_scaleborn_k01_ratios_and_names).prog) : LawAtS PySem.Challenge.rw_scaleborn_k01_ratios_and_names w K CX0 13 63 "_law_script" mg f h := by
  subst hP
  obtain ⟨fd_g_law, F_g_law⟩ := c.a.def_ 50 (d := g_law) rfl
  have F_g_law' : FnP K "law" (top 44) (He.ga K "law") fd_g_law := F_g_law
  have e := hfa.symm.trans (He.glo_ok X G (c.a.fact 28 (f := .glo "law") rfl))
  cases e
  have b := FunD.bindsA (ps := ["_law_script"]) F_g_law' fun _ _ _ _ _ _ us hl => match us, hl with | [_], _ => rfl
  refine ⟨fd_g_law, tf.map (He.cT K), spLaw K (TT K), fun p hp => ?_, fun p hp => ?_, fun p hp => ?_, fun s u => b s [u] rfl, fun H a ns hl _ hT hS => ?_, fun base _ _ hTB => ?_⟩
  · obtain ⟨q, hq, rfl⟩ := List.mem_map.mp hp
    exact c.empty q hq
  · obtain ⟨q, hq, rfl⟩ := List.mem_map.mp hp
    exact c.out q hq
  · obtain ⟨q, hq, rfl⟩ := List.mem_map.mp hp
    exact PySem.W.codeHd_of_K X (c.hd q hq)
  · refine ⟨a, ns, rfl, hS, hl, fun p hp => ?_, fun _ => rfl⟩
    rcases List.mem_cons.mp hp with rfl | hp
    · exact TabS.nil (hT _ (List.mem_map_of_mem (f := He.cT K) (show (("_law_refused_right", none) : Str × Option Str) ∈ tf from List.mem_cons_self)))
    · rw [List.mem_singleton.mp hp]
      exact TabS.nil (hT _ (List.mem_map_of_mem (f := He.cT K) (show (("_law_read_right", none) : Str × Option Str) ∈ tf from List.mem_cons_of_mem _ List.mem_cons_self)))
  · exact ok_law F_g_law' (fact_L X G c (hTB _ (List.mem_map_of_mem (f := He.cT K) (show (("_law_refused_right", none) : Str × Option Str) ∈ tf from List.mem_cons_self))) (hTB _ (List.mem_map_of_mem (f := He.cT K) (show (("_law_read_right", none) : Str × Option Str) ∈ tf from List.mem_cons_of_mem _ List.mem_cons_self))))
end
end K01
open PySem PySem.W PySem.Calls PyProof.Rows
theorem PySem.Challenge.cw_scaleborn_k01_ratios_and_names_holds : PySem.Challenge.rw_scaleborn_k01_ratios_and_names.Holds := by
  w_on; o_law
  refine HandSHeadRun.head_imp (r := OpenLaw.row PySem.Challenge.rw_scaleborn_k01_ratios_and_names) (q := view (OpenLaw.row PySem.Challenge.rw_scaleborn_k01_ratios_and_names).prog [0, 44]) (H := K01.hk) (ob := K01.ob) (M := 9000) (loose := K01.loose1 ++ K01.loose2) (d := HandSHeadRun.topDef (OpenLaw.row PySem.Challenge.rw_scaleborn_k01_ratios_and_names).prog 44) (kwd := []) K01.ob_eq
    K01.run (by kernel_rfl) (by kernel_rfl) (by kernel_rfl) (by rfl) (by first | assumption | decide +kernel) (by decide +kernel) ⟨rfl, rfl, rfl, rfl, rfl, by decide +kernel⟩ ?hw ?hc
  case hw => w_witness2
  case hc =>
    refine LamX.walk_ofTsE (n := 63) (k := 13) (CX := fun _ => L2.CX0) (x := "_law_script") rfl (by decide) (by kernel_rfl) ⟨rfl, by decide, by decide⟩ (fun w mg fa h Y G hmg0 => ?_) fun _ _ _ _ _ z => z.elim
    obtain ⟨K, KX, c⟩ := Y
    have hmg : mg ("law" : PySem.Str) = some (.ref fa) := by
      have e : (HandSHeadRun.topDef (OpenLaw.row PySem.Challenge.rw_scaleborn_k01_ratios_and_names).prog 44).name = ("law" : PySem.Str) := by kernel_rfl
      rw [← e]
      exact hmg0
    exact ⟨K, KX, K01.fact_law KX G hmg c rfl⟩
