import PyProof.Rows.All
import Wide.All
import OpenK.AllK
import Wide.FinOn
import HandS.ForMost
import HandS.Exc
import HandS.ExcInit
import HandS.IsInst
import HandS.Defaults
import PyProof.ReprRoads
import HandS.ExcField
import HandS.ExcIs
import KE.KExcIs
import PyProof.CallFns
import KE.KStateDown
import HandS.Head0
import HandS.Head1
import HandS.Head2
import HandS.HeadEnd
import HandS.HeadHook1
import HandS.HeadHook2
import HandS.Wide
import HandS.Walk
import PyProof.ReprLen
import PyProof.FitsInt
import PySem.Challenge.RW_scaleborn_k00_errors_keep_their_fields
set_option Elab.async false
set_option linter.all false
set_option maxRecDepth 100000
set_option maxHeartbeats 0
/-! An own exception made as a value, by place and by keywords. -/
namespace PySem
namespace MkE
open PySem.W PySem.Calls PyProof.Rows PySem.HandSPX
open Builtin Builtin.ObjectAttr
section
variable {M : Model} {A : Around} {E : Value → Shared → Prop} {h : Heap} {g : Array GenState} {d : Drawn} {t : Nat} {os : OsState}
variable {nm q : Str} {C N : Addr} {bs bm bmB : List Value} {hdct : Bool} {sn : List Str} {sub : List Value} {ab : Bool} {col : Option Bool} {dd : Option Addr} {k0 k1 k2 k3 k5 : Option Value} {B newId initId : String}
theorem look_new (F : ExcBaseFacts B newId initId bmB) (hT : ∀ X : String, bm.contains (.type X) = bmB.contains (.type X)) {us : List Value} {kw : List (Str × Value)} {Q : Unit → Shared → Prop}
    (hC : h.get? C = some (excClassObj nm q C N bs bm hdct sn sub ab col dd k0 k1 k2 k3 k5 newId)) (hq : Q () ⟨h, g, d, t, os⟩) :
    wpAny M A (checkBuiltinCall newId ⟨.ref C :: us, kw⟩) Q E ⟨h, g, d, t, os⟩ := by
  have isB : (Value.ref C :: bm).contains (.type B) = true := by rw [List.contains_cons, hT, F.hasB, Bool.or_true]
  have nostar := F.noStar
  simp only [checkBuiltinCall, F.newKind, F.newSplit, F.newRow]
  repeat (first
    | refine wpAny_loadPart_at hC ?_
    | (refine wpAny_isSubtype_exc hC ?_; rw [isB])
    | refine wpAny_staticBase_exc hC ?_
    | refine wpAny_madeBy_exc hC ?_
    | simp only [bne_self_eq_false, Bool.false_eq_true, if_false]
    | wp_step)
  exact hq
end
section
variable {prog : Program} {w : World} {A : Around} {E : Value → Shared → Prop} {R : Result → Shared → Prop} {h : Heap} {g : Array GenState} {d : Drawn} {t : Nat} {os : OsState}
variable {nm q : Str} {C N : Addr} {bs bm bmB : List Value} {hdct : Bool} {sn : List Str} {sub : List Value} {ab : Bool} {col : Option Bool} {dd : Option Addr} {k0 k1 k2 k3 k5 : Option Value} {B newId initId : String}
theorem new_made (F : ExcBaseFacts B newId initId bmB) (hT : ∀ X : String, bm.contains (.type X) = bmB.contains (.type X)) {us : List Value} {kw : List (Str × Value)}
    (hC : h.get? C = some (excClassObj nm q C N bs bm hdct sn sub ab col dd k0 k1 k2 k3 k5 newId))
    (hq : R (.ok (.ret (.ref (h.objs.size + 1)))) ⟨(h.push (W.kdv_tup us)).push (excO C h.objs.size), g, d, t, os⟩) (hl : us.length ≤ sizeLine) :
    codeAny (model prog w) A (.builtin newId ⟨.ref C :: us, kw⟩) R ⟨h, g, d, t, os⟩ := by
  have ends := F.ends
  have isB : (Value.ref C :: bm).contains (.type B) = true := by rw [List.contains_cons, hT, F.hasB, Bool.or_true]
  have notA : (Value.ref C :: bm).contains (.type "AttributeError") = false := by rw [List.contains_cons, hT, F.noAttr]; rfl
  have notN : (Value.ref C :: bm).contains (.type "NameError") = false := by rw [List.contains_cons, hT, F.noName]; rfl
  refine codeAny_builtinAt F.entry ?_
  unfold Builtin.«BaseException.__new__»
  refine wpAt_bind ?_
  show wpAt _ _ _ (stack >>= _) _ _ _
  refine wpAt_bind (wpAt_stack fun p below => wpAt_of_wpAny ?_)
  wp_walk
  refine wpAt_of_wpAny ?_
  rw [F.owner]
  repeat (first
    | with_reducible refine wpAny_madeHere_exc F.canon hC ?_
    | with_reducible refine wpAny_loadPart_at hC ?_
    | (with_reducible refine wpAny_isSubtype_exc hC ?_; first | rw [isB] | rw [notA] | rw [notN])
    | wp_step)
  show R _ _
  rw [Heap.size_push]
  exact hq
theorem type_made (F : ExcBaseFacts B newId initId bmB) (hT : ∀ X : String, bm.contains (.type X) = bmB.contains (.type X)) {us : List Value} {kw : List (Str × Value)} {fI : Addr} {Q : Fin → Shared → Prop}
    (hC : h.get? C = some (excClassObj nm q C N bs bm hdct sn sub ab col dd k0 k1 k2 k3 k5 newId))
    (hi : W.Looks (model prog w) h (typeLookup (.ref C) "__init__") (some (.ref fI))) (hb : ∀ self, W.Looks (model prog w) h (bindSpecial (.ref fI) self) (.ref fI, [self])) (hl : us.length ≤ sizeLine)
    (hq : codeAny (model prog w) A (.call (.ref fI) ⟨.ref (h.objs.size + 1) :: us, kw⟩)
      (fun r s' => match r with | .ok (.ret v) => v = .none ∧ Q (.done (.ret (.ref (h.objs.size + 1)))) s' | .ok _ => False | .error e => E e s')
      ⟨(h.push (W.kdv_tup us)).push (excO C h.objs.size), g, d, t, os⟩) :
    wpAny (model prog w) A (Builtin.«type.__call__» ⟨.ref C :: us, kw⟩) Q E ⟨h, g, d, t, os⟩ := by
  repeat (first | with_reducible refine wpAny_loadPart_at hC ?_ | with_reducible refine wpAny_madeBy_exc hC ?_ | wp_step)
  refine codeAny_call_builtin_code (Code.quiet_builtin _ F.quiet) (look_new F hT hC ?_)
  refine new_made F hT hC ?_ hl
  show wpAny _ _ _ _ _ _
  have k : ∀ b o, h.get? b = some o → ((h.push (W.kdv_tup us)).push (excO C h.objs.size)).get? b = some o := fun b o e => Heap.get?_push_of_some _ (Heap.get?_push_of_some _ e)
  have hC1 := k _ _ hC
  have at1 : ((h.push (W.kdv_tup us)).push (excO C h.objs.size)).get? (h.objs.size + 1) = some (excO C h.objs.size) := by heap_get
  have own : (Value.ref C :: bm).contains (.ref C) = true := by simp
  have i1 := hi.keeps k
  have b1 := (hb (.ref (h.objs.size + 1))).keeps k
  unfold isInstance
  repeat (first | with_reducible refine wpAny_loadPart_at at1 ?_ | (with_reducible refine wpAny_isSubtype_exc hC1 ?_; rw [own]) | wp_step)
  show wpAny _ _ (typeLookup (.ref C) _) _ _ _
  refine i1.at ?_
  refine wpAny_holding (wpAny_bind (b1.at ?_))
  refine wpAny_bind (wpAny_call (codeAny_mono hq fun r s' z => ?_))
  rcases r with e | (v | _ | _ | _) <;> first | exact z | exact z.elim | skip
  obtain ⟨rfl, z⟩ := z
  first
    | exact wpAny_pure (wpAny_pure z)
    | (wp_walk; exact z)
theorem call_made (F : ExcBaseFacts B newId initId bmB) (hT : ∀ X : String, bm.contains (.type X) = bmB.contains (.type X)) {us : List Value} {kw : List (Str × Value)} {fI : Addr}
    (hC : h.get? C = some (excClassObj nm q C N bs bm hdct sn sub ab col dd k0 k1 k2 k3 k5 newId))
    (hi : W.Looks (model prog w) h (typeLookup (.ref C) "__init__") (some (.ref fI))) (hb : ∀ self, W.Looks (model prog w) h (bindSpecial (.ref fI) self) (.ref fI, [self])) (hl : us.length ≤ sizeLine)
    (hq : codeAny (model prog w) (A.under (.builtin "type.__call__" ⟨.ref C :: us, kw⟩)) (.call (.ref fI) ⟨.ref (h.objs.size + 1) :: us, kw⟩) (W.InitBack (h.objs.size + 1) R)
      ⟨(h.push (W.kdv_tup us)).push (excO C h.objs.size), g, d, t, os⟩) :
    codeAny (model prog w) A (.call (.ref C) ⟨us, kw⟩) R ⟨h, g, d, t, os⟩ := by
  have f1 := tc_lookup
  have f2 := tc_bind (.ref C)
  have hTy : (⟨h, g, d, t, os⟩ : Shared).TypeIs (.ref C) "type" := ⟨_, hC, rfl⟩
  refine codeAny_of_tree ?_
  show wpAny _ _ (callAny (.ref C) _) _ _ _
  repeat (any_goals (first | assumption | with_reducible refine wpAny_loadPart_at hC ?_ | wp_step))
  refine ⟨rfl, ?_⟩
  refine codeAny_call_builtin_at (Code.quiet_builtin _ (by decide +kernel)) entry_typeCall (wpAny_check_type_call_sub hC (type_made F hT hC hi hb hl ?_))
  refine codeAny_mono hq fun r s' z => ?_
  rcases r with e | (v | _ | _ | _) <;> exact z
end
end MkE
end PySem
namespace L2
open PySem PySem.Spec PyProof.Rows
/-! ### an exception of an own class as a value -/
def ErrAt (H : Hp) (e C : Addr) (fs : List (Str × V)) : Prop :=
  (fs = [] ∧ H e = some (exo e C none)) ∨ ∃ d, H e = some (exo e C (some d)) ∧ H d = some (exd d fs)
theorem ErrAt.same {H H' : Hp} {e C : Addr} {fs : List (Str × V)} (h : ErrAt H e C fs) (s : Same H H') : ErrAt H' e C fs := by
  rcases h with ⟨h1, h2⟩ | ⟨d, h1, h2⟩
  · exact .inl ⟨h1, s _ _ h2⟩
  · exact .inr ⟨d, s _ _ h1, s _ _ h2⟩
section
variable {X : Cx} {pins : List (Addr × Obj)} {σ : St} {H : Hp} {s : Shared} {e C : Addr} {fs : List (Str × V)}
theorem ErrAt.inst (I : Inv X pins σ H s) (h : ErrAt H e C fs) :
    ∃ (oe : Obj) (od : Option Obj), PySem.W.InstAt s.heap e oe C od ∧ ∀ f v, fs.lookup f = some v → ∃ (o : Obj) (u : Value), od = some o ∧ RelV v u ∧ PySem.W.lookIn f o = some (some u) := by
  rcases h with ⟨h1, h2⟩ | ⟨d, h1, h2⟩
  · obtain ⟨t1, ho⟩ := exo_at I.hok h2
    exact ⟨_, none, ⟨ho, rfl, rfl, trivial⟩, fun f v l => by rw [h1] at l; cases l⟩
  · obtain ⟨t1, ho⟩ := exo_at I.hok h1
    obtain ⟨mA, hns, rel⟩ := exd_at I.hok h2
    obtain ⟨od, hod, hl⟩ := lookIn_ns hns
    refine ⟨_, some od, ⟨ho, rfl, rfl, hod⟩, fun f v l => ?_⟩
    obtain ⟨u, hu, ru⟩ := RelO.some_of (v := v) (o := mA f) (by rw [← l]; exact rel f)
    exact ⟨od, u, rfl, ru, by rw [hl, hu]⟩
end
/-- isinstance(e, c) -/
def rIsErr (K : PySem.W.Frag) : List V → Hp → VK → Prop := fun xs H Q => ∃ (e C : Addr) (fs : List (Str × V)) (c : V) (cv : Value) (b : Bool),
  xs = [.ref e, c] ∧ ErrAt H e C fs ∧ ExcC K C ∧ ClsV c cv ∧ PySem.W.kitOne K (.ref C) cv = some b ∧ Q (.bl b) H
theorem call_isErr {X : Cx} : CallR X (.builtin "isinstance") (rIsErr X.K) := by
  intro pins s σ H xs us Q I r h
  obtain ⟨e, C, fs, c, cv, b, rfl, he, T, k, ek, q⟩ := h
  obtain ⟨u1, u2, rfl, r1, r2⟩ := vals2 r
  have e2 := k.eq r2
  subst e2
  obtain rfl : u1 = Value.ref e := r1
  obtain ⟨oe, od, J, _⟩ := he.inst I
  have hcl : (PySem.W.clsIn X.K C).isSome = true := by
    obtain ⟨cd, hc, _⟩ := PySem.W.any_some T.hd
    rw [hc]
    rfl
  exact PySem.W.kia_one (PySem.W.kitx_exc (ox := oe) (od := od) hcl T.hg T.hk T.hs T.ha T.hn T.ht T.hm) I.kIn J ek (fun z => nomatch z) fun tk => ⟨.bl b, H, I.tok tk, rfl, q⟩
/-- e.f -/
def tErrF (K : PySem.W.Frag) (f : Str) (te : TE) : TE := fun σ H Q => te σ H fun x H1 => ∃ (e C : Addr) (fs : List (Str × V)) (v : V),
  x = .ref e ∧ ErrAt H1 e C fs ∧ XfC K C ∧ PySem.W.findIn K (.ref C) f = some none ∧ fs.lookup f = some v ∧ Q v H1
theorem pe_errF {X : Cx} {e : Expr} {te : TE} {pos : Pos} {n : Str} (he : PE X e te) (hb : attributeBase e n X.env (eval e X.env) = eval e X.env := by rfl) :
    PE X (.Attribute e n pos) (tErrF X.K n te) := by
  refine ⟨fun pins s σ H Q I h => ?_⟩
  refine attr_of hb (thn (he.run pins s σ H _ I h) fun u s1 hh => ?_)
  obtain ⟨x, H1, I1, rx, e0, C, fs, v, ex, ea, T, hno, l, q⟩ := hh
  subst ex
  obtain rfl : u = Value.ref e0 := rx
  obtain ⟨oe, od, J, hl⟩ := ea.inst I1
  obtain ⟨o, u, rfl, ru, hlu⟩ := hl n v l
  exact HandSPX.exc_get I1.kIn J T.ga T.gg T.exC (PySem.W.findObj_own T.hdC hno rfl hlu) (handed_of ru) ⟨v, H1, I1.tok _, ru, q⟩
/-! ### making one -/
/-- the promise of an __init__ that keeps its parameters ks -/
def spErrI (K : PySem.W.Frag) (ks : List Str) : Sp := fun vs H Q _ => ∃ (e C : Addr) (ws : List V), vs = .ref e :: ws ∧ ws.length = ks.length ∧ OexC K C ∧ (∀ f ∈ ks, PySem.W.findIn K (.ref C) f = some none) ∧
  H e = some (exo e C none) ∧ ∀ H', (∀ b o, b ≠ e → H b = some o → H' b = some o) → ErrAt H' e C (ks.zip ws).reverse → Q .non H'
/-- what the written part tells of such a class -/
structure ErrC (K : PySem.W.Frag) (C fI : Addr) (ks : List Str) : Prop where
  ox : OexC K C
  ini : PySem.W.findIn K (.ref C) "__init__" = some (some (.ref fI))
  fn : PySem.W.typeIn K (.ref fI) = some (.type "function")
  no : ∀ f ∈ ks, PySem.W.findIn K (.ref C) f = some none
  xf : XfC K C
  is : ExcC K C
section
variable {X : Cx} {C fI : Addr} {ks kn ps : List Str} {k : Nat} {fd : FuncData} {x : Str} {p pos : Pos} {e : Expr} {es : List Expr} {kws : List Keyword} {ta tk : TA} {g : List Value → List Value → List Value} {gV : List V → List V → List V}
theorem run_err {pins : List (Addr × Obj)} {σ : St} {H1 : Hp} {s1 : Shared} {Q : VK} {us : List Value} {kw : List (Str × Value)} {ws : List V} {as : List Value} (T : ErrC X.K C fI ks)
    (F : FnOk X.prog X.w X.K X.mg X.base CX0 k fI fd ps (spErrI X.K ks)) (hr : Room (k + 1) X.A) (I1 : Inv X pins σ H1 s1) (hl : us.length ≤ sizeLine)
    (hb : ∀ (s : Shared) (a : Addr), X.K.In s.heap → BindsTo s fd ⟨.ref a :: us, kw⟩ (ps.zip (.ref a :: as))) (r : Vals ws as) (hn : ws.length = ks.length)
    (h : ∀ e H2, H1 e = none → Same H1 H2 → ErrAt H2 e C (ks.zip ws).reverse → Q (.ref e) H2) :
    wpAny (model X.prog X.w) X.A (call (.ref C) us kw) (EP X pins σ Q) X.xe s1 := by
  obtain ⟨nm, q, N, bs, bm, sn, sub, ab, col, dd, k0, k1, k2, k3, k5, hC, hbm⟩ := T.ox.cls
  obtain ⟨hp, gs, dr, tk, os⟩ := s1
  have hsz : hp.objs.size ≤ hp.objs.size + 1 := Nat.le_succ _
  have fr : H1 (hp.objs.size + 1) = none := I1.hok.fresh hsz
  have kk : ∀ b o, hp.get? b = some o → ((hp.push (PySem.W.kdv_tup us)).push (PySem.HandSPX.excO C hp.objs.size)).get? b = some o := fun b o z => Heap.get?_push_of_some _ (Heap.get?_push_of_some _ z)
  have at1 : ((hp.push (PySem.W.kdv_tup us)).push (PySem.HandSPX.excO C hp.objs.size)).get? (hp.objs.size + 1) = some (PySem.HandSPX.excO C hp.objs.size) := by heap_get
  have I2 : Inv X pins σ (upd H1 (hp.objs.size + 1) (exo (hp.objs.size + 1) C none)) ⟨(hp.push (PySem.W.kdv_tup us)).push (PySem.HandSPX.excO C hp.objs.size), gs, dr, tk, os⟩ :=
    I1.laid (t' := tk) (a := hp.objs.size + 1) (o := exo (hp.objs.size + 1) C none) (h' := (hp.push (PySem.W.kdv_tup us)).push (PySem.HandSPX.excO C hp.objs.size)) kk hsz (exo_ok at1)
  have hsp : spErrI X.K ks (.ref (hp.objs.size + 1) :: ws) (upd H1 (hp.objs.size + 1) (exo (hp.objs.size + 1) C none)) (fun v H2 => v = .non ∧ Q (.ref (hp.objs.size + 1)) H2) (fun _ _ _ => False) :=
    ⟨_, C, ws, rfl, hn, T.ox, T.no, upd_same, fun H' km ea => ⟨rfl, h _ H' fr (fun b o z => km b o (ne_of_none z fr) (by rw [upd_ne (ne_of_none z fr)]; exact z)) ea⟩⟩
  refine wpAny_call (PySem.MkE.call_made PySem.F.excBase_ValueError (fun Y => PySem.HandSPX.refsVE_contains Y bm hbm) (I1.kIn _ _ hC) (PySem.W.looks_findIn I1.kIn T.ini) (fun self => PySem.W.bind_fn I1.kIn self T.fn) hl
    (codeAny_mono (F.run _ X.stack _ _ ⟨.ref (hp.objs.size + 1) :: us, kw⟩ (.ref (hp.objs.size + 1) :: as) (.ref (hp.objs.size + 1) :: ws) _ _ (hr.make C us kw) (I2.env0.make C us kw) (hb _ _ I2.kIn) (.cons rfl r) hsp) fun rr s' hq' => ?_))
  cases rr with
  | error er => exact False.elim hq'
  | ok fl =>
    cases fl with
    | ret u =>
      obtain ⟨v, H', I3, rv, ev, q3⟩ := I2.after hq'
      subst ev
      exact ⟨rv, ⟨V.ref (hp.objs.size + 1), H', I3, rfl, q3⟩⟩
    | next => exact False.elim hq'
    | brk => exact False.elim hq'
    | cont => exact False.elim hq'
/-- C(..): the values in the parameters' order -/
def tErr (C : Addr) (ks : List Str) (ord : List V → List V) (t : TA) : TE := fun σ H Q => t σ H fun vs H1 => vs.length = ks.length ∧ ∀ e H2, H1 e = none → Same H1 H2 → ErrAt H2 e C (ks.zip (ord vs)).reverse → Q (.ref e) H2
/-- C(e, ..) -/
theorem pe_err (T : ErrC X.K C fI ks) (F : FnOk X.prog X.w X.K X.mg X.base CX0 k fI fd ps (spErrI X.K ks)) (hr : Room (k + 1) X.A) (hg : Gl X x) (hm : X.mg x = some (.ref C)) (hb : Binds X.K fd ps []) (hp : ps.length = ks.length + 1) (hk : ks.length ≤ 100) (ha : PA X (e :: es) ta)
    (hdb : (x == ("__debug__" : Str)) = false := by decide) (he : starEach (e :: es) X.env = (false, eval e X.env) :: starEach es X.env := by rfl) (hpl : (backTo pos (starEach es X.env)).any (·.1) = false := by rfl) :
    PE X (.Call (.Name x p) (e :: es) [] pos) (tErr C ks id ta) := by
  refine ⟨fun pins s σ H Q I h => ?_⟩
  refine wpAny_Call_Name_kw (ld_glob I hg hm ?_ hdb)
  refine PySem.W.callWith_K (h₀ := X.base) I.ok.mod.kin T.ox.kC (thn (ha.run pos pins s σ H _ I h) fun us s1 ⟨vs, H1, I1, r, hl, q⟩ => ⟨I1.kIn, ?_⟩) he hpl
  have l2 : us.length = ks.length := r.length.symm.trans hl
  show wpAny _ _ (call (.ref C) us) _ _ _
  refine run_err (as := us) T F hr I1 (by rw [l2, sizeLine_eq]; omega) (fun s a KX => ?_) r hl q
  have z := hb s (.ref a :: us) KX (by rw [List.append_nil, List.length_cons, l2, hp])
  rw [List.append_nil] at z
  exact z
/-- C() -/
theorem pe_err0 (T : ErrC X.K C fI []) (F : FnOk X.prog X.w X.K X.mg X.base CX0 k fI fd ps (spErrI X.K [])) (hr : Room (k + 1) X.A) (hg : Gl X x) (hm : X.mg x = some (.ref C)) (hb : Binds X.K fd ps []) (hp : ps.length = 1)
    (hdb : (x == ("__debug__" : Str)) = false := by decide) : PE X (.Call (.Name x p) [] [] pos) (tErr C [] id tNil) := by
  refine ⟨fun pins s σ H Q I h => ?_⟩
  refine wpAny_Call_Name_kw (ld_glob I hg hm ?_ hdb)
  refine PySem.W.callWith_K0 I.kIn T.ox.kC ?_
  refine run_err (us := []) (as := []) (ws := []) T F hr I (Nat.zero_le _) (fun s a KX => ?_) .nil rfl h.2
  have z := hb s [.ref a] KX (by rw [List.append_nil, hp]; rfl)
  rw [List.append_nil] at z
  exact z
/-- C(k = e, ..) -/
theorem pe_errK (T : ErrC X.K C fI ks) (F : FnOk X.prog X.w X.K X.mg X.base CX0 k fI fd ps (spErrI X.K ks)) (hr : Room (k + 1) X.A) (hg : Gl X x) (hm : X.mg x = some (.ref C)) {ordV : List V → List V} {ordU : List Value → List Value}
    (hb : ∀ (s : Shared) (a : Addr) (zs : List Value), zs.length = ks.length → BindsTo s fd ⟨[.ref a], kn.zip zs⟩ (ps.zip (.ref a :: ordU zs))) (hv : ∀ (vs : List V) (us : List Value), vs.length = ks.length → Vals vs us → Vals (ordV vs) (ordU us) ∧ (ordV vs).length = ks.length) (hkw : PK X kws tk)
    (hall : (backToKw pos (keywordEach kws X.env)).all (·.1.isSome) = true := by rfl) (hks : (backToKw pos (keywordEach kws X.env)).filterMap (·.1) = kn := by rfl)
    (hdb : (x == ("__debug__" : Str)) = false := by decide)
    (hpl : ((backTo pos (starEach [] X.env)).any (·.1) || (backToKw pos (keywordEach kws X.env)).any (·.1.isNone)) = false := by rfl) :
    PE X (.Call (.Name x p) [] kws pos) (tErr C ks ordV tk) := by
  refine ⟨fun pins s σ H Q I h => ?_⟩
  refine wpAny_Call_Name_kw (ld_glob I hg hm ?_ hdb)
  refine PySem.W.callWith_KW0 (h₀ := X.base) I.ok.mod.kin T.ox.kC hall ?_ hpl
  refine thn (hkw.run pos pins s σ H _ I h) fun us s1 ⟨vs, H1, I1, r, hl, q⟩ => ⟨I1.kIn, ?_⟩
  rw [hks]
  obtain ⟨r2, l2⟩ := hv vs us hl r
  exact run_err (us := []) T F hr I1 (Nat.zero_le _) (fun s a _ => hb s a us (r.length.symm.trans hl)) r2 l2 q
end
end L2
namespace L2
open PySem PySem.Spec PyProof.Rows
/-! ### data that repr tells: t is one address that may change -/
def KeepBut (t : Addr) (H H' : Hp) : Prop := ∀ b o, b ≠ t → H b = some o → H' b = some o
theorem KeepBut.trans {t : Addr} {H H1 H2 : Hp} (a : KeepBut t H H1) (b : KeepBut t H1 H2) : KeepBut t H H2 := fun c o n e => b c o n (a c o n e)
theorem KeepBut.refl {t : Addr} (H : Hp) : KeepBut t H H := fun _ _ _ e => e
theorem Same.but {t : Addr} {H H' : Hp} (s : Same H H') : KeepBut t H H' := fun b o _ e => s b o e
def Rp (P : Program) (w : World) (t : Addr) (H : Hp) (v : V) (d : PyData) : Prop := ∀ (H' : Hp) (h : Heap), KeepBut t H H' → HOk P w H' h → ∀ u, RelV v u → ∃ as, Reads h u d as ∧ ∀ b ∈ as, b ≠ sysModules
abbrev RpL (P : Program) (w : World) (t : Addr) (H : Hp) : List V → List PyData → Prop := Paired (Rp P w t H)
section
variable {P : Program} {w : World} {t : Addr} {H H' : Hp} {v : V} {d : PyData} {vs : List V} {ds ks : List PyData} {a : Addr} {kvs : List (Key × V)}
theorem Rp.keep (h : Rp P w t H v d) (s : KeepBut t H H') : Rp P w t H' v d := fun H2 hh s2 ok u r => h H2 hh (s.trans s2) ok u r
theorem RpL.keep : ∀ {vs : List V} {ds : List PyData}, RpL P w t H vs ds → KeepBut t H H' → RpL P w t H' vs ds
  | _, _, .nil, _ => .nil
  | _, _, .cons h q, s => .cons (Rp.keep h s) (RpL.keep q s)
theorem RpL.reads {h : Heap} (s : KeepBut t H H') (ok : HOk P w H' h) : ∀ {vs : List V} {ds : List PyData} {us : List Value}, RpL P w t H vs ds → Vals vs us → ∃ as, ReadsAll h us ds as ∧ ∀ b ∈ as, b ≠ sysModules
  | _, _, _, .nil, .nil => ⟨[], .nil, fun _ z => nomatch z⟩
  | _, _, _, .cons x q, .cons r rt => by
    obtain ⟨a1, h1, n1⟩ := x H' h s ok _ r
    obtain ⟨a2, h2, n2⟩ := RpL.reads s ok q rt
    exact ⟨a1 ++ a2, .cons h1 h2, fun b hb => (List.mem_append.mp hb).elim (n1 b) (n2 b)⟩
theorem rp_non : Rp P w t H .non .none := fun _ _ _ _ u r => by cases (show u = Value.none from r); exact ⟨[], .none, fun _ z => nomatch z⟩
theorem rp_bl (b : Bool) : Rp P w t H (.bl b) (.bool b) := fun _ _ _ _ u r => by cases (show u = Value.bool b from r); exact ⟨[], .bool b, fun _ z => nomatch z⟩
theorem rp_int (i : Int) : Rp P w t H (.int i) (.int i) := fun _ _ _ _ u r => by obtain ⟨t, rfl⟩ := (show ∃ t, u = Value.int i t from r); exact ⟨[], .int i t, fun _ z => nomatch z⟩
theorem rp_str (x : Str) : Rp P w t H (.str x) (.str x) := fun _ _ _ _ u r => by obtain ⟨t, rfl⟩ := (show ∃ t, u = Value.str x t from r); exact ⟨[], .str x t, fun _ z => nomatch z⟩
theorem rp_lst (e : H a = some (.lst vs)) (nt : a ≠ t) (na : a ≠ sysModules) (r : RpL P w t H vs ds) : Rp P w t H (.ref a) (.list ds) := fun H' h s ok u ru => by
  cases (show u = Value.ref a from ru)
  obtain ⟨z, its, n, rv, ho⟩ : vs.length ≤ sizeLine ∧ ∃ (its : List Value) (n : Nat), Vals vs its ∧ h.get? a = some { cls := .type "list", data := .seq its.toArray n } := ok a _ (s _ _ nt e)
  obtain ⟨as, ra, nn⟩ := r.reads s ok rv
  exact ⟨a :: as, .list ho rfl rfl (by simpa using ra), fun b hb => (List.mem_cons.mp hb).elim (fun q => by rw [q]; exact na) (nn b)⟩
theorem rp_tup (e : H a = some (.tup vs)) (nt : a ≠ t) (r : RpL P w t H vs ds) : Rp P w t H (.ref a) (.tuple ds) := fun H' h s ok u ru => by
  cases (show u = Value.ref a from ru)
  obtain ⟨z, its, rv, o, ho, hc, n, hd⟩ : vs.length ≤ sizeLine ∧ ∃ its : List Value, Vals vs its ∧ IsTup h a its.toArray := ok a _ (s _ _ nt e)
  obtain ⟨as, ra, nn⟩ := r.reads s ok rv
  exact ⟨as, .tuple ho hc hd (by simpa using ra), nn⟩
theorem keys_vals {ws : List (Key × Value)} {es : List DictEntry} (rel : KV kvs ws) (pr : Pairs (mixKind P w) es ws) : Vals (kvs.map fun p => kV p.1) (es.map (·.key)) ∧ Vals (kvs.map (·.2)) (es.map (·.val)) := by
  unfold KV at rel
  induction rel generalizing es with
  | nil => cases pr; exact ⟨.nil, .nil⟩
  | @cons x y l1 l2 r tl ih =>
    cases pr with
    | @cons e kv es' _ hk hv ht =>
      obtain ⟨a1, a2⟩ := ih ht
      have k2 : keyIs y.1 e.key = true := hk
      refine ⟨.cons ?_ a1, .cons ?_ a2⟩
      · show RelV (kV x.1) e.key
        rw [r.1]
        rcases keyIs_shape k2 with ⟨i, t', e1, e2⟩ | ⟨x, t', e1, e2⟩
        · rw [e1, e2]; exact ⟨t', rfl⟩
        · rw [e1, e2]; exact ⟨t', rfl⟩
      · show RelV x.2 e.val
        rw [hv]
        exact r.2
theorem rp_dK (e : H a = some (.dK kvs)) (nt : a ≠ t) (rk : RpL P w t H (kvs.map fun p => kV p.1) ks) (rv : RpL P w t H (kvs.map (·.2)) ds) (hl : ks.length = ds.length) : Rp P w t H (.ref a) (.dict (ks.zip ds)) := fun H' h s ok u ru => by
  cases (show u = Value.ref a from ru)
  obtain ⟨z, na, ws, rel, o, es, ep, ho, hx, hd, _, hp, _⟩ : kvs.length ≤ sizeLine ∧ (a == sysModules) = false ∧ ∃ vs, KV kvs vs ∧ h.DictOf (mixKind P w) a vs := ok a _ (s _ _ nt e)
  obtain ⟨r1, r2⟩ := keys_vals rel hp
  obtain ⟨as, ra, na1⟩ := rk.reads s ok r1
  obtain ⟨bs, rb, nb1⟩ := rv.reads s ok r2
  refine ⟨a :: as ++ bs, .dict ho hx.1 hd ?_ ?_, fun b hb => ?_⟩
  · rw [List.map_fst_zip (Nat.le_of_eq hl)]; exact ra
  · rw [List.map_snd_zip (Nat.le_of_eq hl.symm)]; exact rb
  · rcases List.mem_append.mp hb with hb | hb
    · rcases List.mem_cons.mp hb with q | hb
      · rw [q]; exact beq_eq_false_iff_ne.mp na
      · exact na1 b hb
    · exact nb1 b hb
end
/-- repr(v) -/
def rRepr (P : Program) (w : World) : List V → Hp → VK → Prop := fun xs H Q => ∃ (t : Addr) (v : V) (d : PyData), xs = [v] ∧ Rp P w t H v d ∧ d.showable = true ∧ d.depth ≤ 50 ∧ d.shown.length ≤ sizeLine ∧ Q (.str d.shown) H
theorem call_repr {X : Cx} (hG : X.A.guards = some []) (hu : X.A.units + 64 < cLine) : CallR X (.builtin "repr") (rRepr X.prog X.w) := by
  intro pins s σ H xs us Q I r h
  obtain ⟨ta, v, d, rfl, rp, hs, hd, hz, q⟩ := h
  cases r with
  | cons rv rn =>
    rename_i u us'
    cases rn
    obtain ⟨as, rd, na⟩ := rp H s.heap (KeepBut.refl H) I.hok u rv
    cases u with
    | ref a =>
      refine repr_of_reads' rd hs (fun _ z => na _ z rfl) hG (by omega) (fun b o z => z) (fun h' t tk k => ?_) hz
      exact ⟨.str d.shown, H, I.kept k, ⟨_, rfl⟩, q⟩
    | none =>
      cases rd
      simp only [PyData.shown] at q
      exact PySem.P.repr_of_none ⟨.str "None", H, I.tok _, ⟨_, rfl⟩, q⟩
    | bool b =>
      cases rd
      simp only [PyData.shown] at q
      exact PySem.P.repr_of_bool ⟨.str (if b then "True" else "False"), H, I.tok _, ⟨_, rfl⟩, q⟩
    | int i t =>
      cases rd
      simp only [PyData.shown] at q
      have hs' : i.natAbs.log2 < 1920 := by simpa [PyData.showable] using hs
      exact PySem.P.repr_of_int hs' ⟨.str (toString i), H, I.tok _, ⟨_, rfl⟩, q⟩
    | str x t =>
      cases rd
      simp only [PyData.shown] at q hz
      exact PySem.P.repr_of_str ⟨.str (reprText x), H, I.tok _, ⟨_, rfl⟩, q⟩ hz
    | _ => cases rd
/-- [a, b, ..], not the table of modules -/
def tLstS (t : TA) : TE := fun σ H Q => t σ H fun xs H1 => xs.length ≤ sizeLine ∧ ∀ p, H1 p = none → p ≠ sysModules → Q (.ref p) (upd H1 p (.lst xs))
theorem pe_lstS {X : Cx} {es : List Expr} {t : TA} {pos : Pos} (h : PA X es t) : PE X (.List es pos) (tLstS t) := by
  refine ⟨fun pins s σ H Q I hq => ?_⟩
  refine wpAny_List_spliced (thn (h.run pos pins s σ H _ I hq) fun us s1 ⟨xs, H1, I1, r, z, q⟩ => ⟨by rw [← r.length]; exact z, ?_⟩)
  have hf : H1 s1.heap.objs.size = none := I1.hok.fresh (Nat.le_refl _)
  refine ⟨.ref s1.heap.objs.size, upd H1 s1.heap.objs.size (.lst xs), I1.laid (t' := s1.toks) (fun b u e => Heap.get?_push_of_some _ e) (Nat.le_refl _) ?_, rfl, q _ hf (Nat.ne_of_gt I1.big)⟩
  exact ⟨z, us, 0, r, Heap.get?_push_size _ rfl⟩
/-! ### a def that is called where nothing is being shown by repr -/
structure FnOkG (P : Program) (w : World) (K : PySem.W.Frag) (mg : Str → Option Value) (base : Heap) (CX : CXT) (k : Nat) (f : Addr) (fd : FuncData) (ps : List Str) (sp : Sp) : Prop where
  len : ∀ vs H Q E, sp vs H Q E → vs.length = ps.length
  run : ∀ (A : Around) (outer : List Env) (s : Shared) (H : Hp) (args : Args) (us : List Value) (vs : List V) (Q : VK) (E : XK), A.guards = some [] → Room k A → Env0 P w K mg base A outer s H → BindsTo s fd args (ps.zip us) → Vals vs us → sp vs H Q E →
    codeAny (model P w) A (.call (.ref f) args) (CR CX outer P w H s Q E) s
theorem FunD.okG {P : Program} {w : World} {K : PySem.W.Frag} {mg : Str → Option Value} {base : Heap} {x qual : Str} {params : Arguments} {body : List Stmt} {scope : Scope} {dvs : List V} {kws : List (Str × V)} {f : Addr} {fd : FuncData} {CX : CXT} {N ps : List Str} {k : Nat} {sp : Sp}
    (F : FunD K x qual params body scope dvs kws f fd) (S : FnScope N ps scope) (len : ∀ vs H Q E, sp vs H Q E → vs.length = ps.length)
    (hbody : ∀ (cdv : Value) (A : Around) (outer : List Env) (s : Shared) (H : Hp) (vs : List V) (Q : VK) (E : XK), A.guards = some [] → Room k (A.deeper (envOfC qual scope s.heap.objs.size f cdv)) → sp vs H Q E →
      ∃ t, PSs (cxOf CX P w K mg base N qual scope f cdv A outer s H E) body t ∧ t { nx := fun _ H' => Q .non H', rt := Q } (start N vs) H) : FnOkG P w K mg base CX (k + 1) f fd ps sp := by
  obtain ⟨oc, od, dV, kV, doc, pm, an, cdv, ct, osl, rfl, lk, hcd, _, _⟩ := F.ex
  refine ⟨len, fun A outer s H args us vs Q E hG hr e0 hb r hsp => ?_⟩
  have KX : K.In s.heap := e0.mod.kin.keeps fun b o e => (e0.bs b o e).1
  have lim : s.heap.NoLimit := e0.mod.nolimit.keeps fun b o e => (e0.bs b o e).1
  have kinds : ∀ y ∈ ps.zip us, scope.names.lookup y.1 = some .local ∨ (scope.names.lookup y.1 = some .cell ∧ ((cellsFrom (s.heap.objs.size + 1) scope.names []).lookup y.1).isSome = true) := fun ⟨n, v⟩ hy =>
    (S.par n (List.of_mem_zip hy).1).elim .inl fun q => .inr ⟨q, PySem.W.cellsFrom_some _ _ _ (.inl q)⟩
  refine codeAny_call_function hr.depth (KX _ _ lk) rfl S.co S.gen rfl (PySem.W.codeRec_of KX hcd) (hb _ _ _ _ ?_)
  refine wpAny_newFunctionEnv_cells S.kind kinds fun env he s1 x => ?_
  subst he
  refine ⟨lim.keeps x.toInCall.keep, codeAny_func ?_⟩
  obtain ⟨t, ht, hq⟩ := hbody cdv A outer s H vs Q E hG (hr.deeper _) hsp
  have I : Inv (cxOf CX P w K mg base N qual scope f cdv A outer s H E) [] (start N vs) H s1 := inv_start S hr.hd e0 (len _ _ _ _ hsp) r x
  refine wpAny_mono (ht.run [] s1 (start N vs) H _ I hq) (fun fl s' hs => ?_) fun e s' hs => hs
  cases fl with
  | ret u =>
    obtain ⟨v, σ', H', J, rv, q⟩ := hs
    exact ⟨v, H', J.os, J.bare, J.base, J.hok, rv, q⟩
  | next =>
    obtain ⟨σ', H', J, q⟩ := hs
    exact ⟨V.non, H', J.os, J.bare, J.base, J.hok, rfl, q⟩
  | brk =>
    obtain ⟨_, _, _, q⟩ := hs
    exact False.elim q
  | cont =>
    obtain ⟨_, _, _, q⟩ := hs
    exact False.elim q
section
variable {X : Cx} {CX : CXT} {k : Nat} {f : Addr} {fd : FuncData} {ps : List Str} {sp : Sp} {dvs : List V} {ds : List Value} {E : XK} {x : Str} {p pos : Pos} {e : Expr} {es : List Expr} {t : TA}
theorem pe_callG (F : FnOkG X.prog X.w X.K X.mg X.base CX k f fd ps sp) (hG : X.A.guards = some []) (hr : Room k X.A) (hg : Gl X x) (hm : X.mg x = some (.ref f)) (hk : PySem.W.keepIn X.K (.ref f) = true) (hb : Binds X.K fd ps ds) (hd : Vals dvs ds) (hx : Passes CX X E)
    (ha : PA X (e :: es) t) (hdb : (x == ("__debug__" : Str)) = false := by decide) (he : starEach (e :: es) X.env = (false, eval e X.env) :: starEach es X.env := by rfl) (hpl : (backTo pos (starEach es X.env)).any (·.1) = false := by rfl) :
    PE X (.Call (.Name x p) (e :: es) [] pos) (tCall sp dvs E t) := by
  refine ⟨fun pins s σ H Q I h => ?_⟩
  refine wpAny_Call_Name_kw (ld_glob I hg hm ?_ hdb)
  refine PySem.W.callWith_K (h₀ := X.base) I.ok.mod.kin hk (thn (ha.run pos pins s σ H _ I h) fun us s1 ⟨vs, H1, I1, r, q⟩ => ⟨I1.kIn, ?_⟩) he hpl
  show wpAny _ _ (call (.ref f) us) _ _ _
  have r2 : Vals (vs ++ dvs) (us ++ ds) := r.append hd
  have hl : (us ++ ds).length = ps.length := by rw [← r2.length]; exact F.len _ _ _ _ q
  refine wpAny_call (codeAny_mono (F.run X.A X.stack s1 H1 ⟨us, []⟩ (us ++ ds) (vs ++ dvs) Q E hG hr I1.env0 (hb s1 us I1.kIn hl) r2 q) fun rr s' hq => ?_)
  cases rr with
  | error e => exact hx pins σ H1 s1 e s' I1 hq
  | ok fl =>
    cases fl with
    | ret u => exact I1.after hq
    | next => exact False.elim hq
    | brk => exact False.elim hq
    | cont => exact False.elim hq
end
/-- a law's end -/
theorem law_callG {P : Program} {w : World} {K : PySem.W.Frag} {mg mb : Str → Option Value} {k : Nat} {fa a : Addr} {fd : FuncData} {x : Str} {sp : Sp} {s₁ : Shared} {vs : List Value} {ns : List Int}
    (KX : K.In s₁.heap) (hns : s₁.heap.Ns mainGlobals mg) (hb : s₁.heap.Ns builtinsNs mb) (hbb : ∀ x : Str, x ≠ "__name__" → mb x = bootBuiltins x) (hlim : s₁.heap.NoLimit) (hg : s₁.gens = #[])
    (ha : s₁.heap.get? a = some { cls := .type "list", data := .seq vs.toArray }) (hi : IntsAre vs ns) (hl : ns.length ≤ sizeLine) (hr : Room k callerA)
    (F : ∀ base : Heap, K.In base → base.Ns mainGlobals mg → FnOkG P w K mg base CX0 k fa fd [x] sp) (hbind : ∀ (s : Shared) (u : Value), BindsTo s fd ⟨[u], []⟩ [(x, u)])
    (hsp : ∀ H : Hp, Only H → SqL K H a (ns.map V.int) → sp [.ref a] H (fun v _ => v = .bl true) fun _ _ _ => False) :
    codeAny (model P w) callerA (.call (.ref fa) ⟨[.ref a], []⟩) (fun r s' => r = .ok (.ret (.bool true)) ∧ OldK s₁.heap s'.heap ∧ s'.os = s₁.os ∧ AllBare s'.gens) s₁ := by
  have rv := vals_ints hi
  have lenV := hi.length
  -- the heap at the entry: the script alone is tracked, where the written part does not hold it
  have main : ∀ H : Hp, Only H → SqL K H a (ns.map V.int) → HOk P w H s₁.heap → (∀ b, H b ≠ none → b = a) → (H a ≠ none → K.lookup a = none) →
      codeAny (model P w) callerA (.call (.ref fa) ⟨[.ref a], []⟩) (fun r s' => r = .ok (.ret (.bool true)) ∧ OldK s₁.heap s'.heap ∧ s'.os = s₁.os ∧ AllBare s'.gens) s₁ := by
    intro H hO hS hok hA hK
    have isA : ∀ {b : Addr} {u : HO}, H b = some u → b = a := fun {b u} q => hA b (by rw [q]; exact fun z => nomatch z)
    have noA : ∀ {b : Addr} {o : Obj} {es : Array DictEntry} {ep : Nat}, s₁.heap.get? b = some o → o.data = .dict es ep → H b = none := fun {b o es ep} e d => by
      cases q : H b with
      | none => rfl
      | some u =>
        have z := isA q
        subst z
        rw [ha] at e; cases e
        exact nomatch (show Data.seq vs.toArray _ = Data.dict es ep from d)
    have nsK : ∀ {b : Addr} {m : Str → Option Value}, s₁.heap.Ns b m → (hidT s₁.heap H).Ns b m := fun {b m} ⟨o, es, ep, e, d, r⟩ => ⟨o, es, ep, hidT_get e (noA e d), d, r⟩
    have hKb : K.In (hidT s₁.heap H) := fun b o e => hidT_get (KX b o e) (by
      cases q : H b with
      | none => rfl
      | some u =>
        have z := isA q
        subst z
        rw [hK (by rw [q]; exact fun z => nomatch z)] at e; cases e)
    have hM : Mod K mg (hidT s₁.heap H) := ⟨hKb, nsK hns, ⟨mb, nsK hb, hbb⟩, let ⟨mc, h1, h2⟩ := hlim; ⟨mc, nsK h1, h2⟩⟩
    have e0 : Env0 P w K mg (hidT s₁.heap H) callerA [] s₁ H := ⟨rfl, hM, fun b o e => of_hidT e, Nat.le_of_eq (hidT_size _ _), trivial, fun b hb => absurd (show b ∈ ([] : List Addr) from hb) (by simp), hok, .of_eq hg⟩
    refine codeAny_mono ((F _ hKb (nsK hns)).run callerA [] s₁ H ⟨[.ref a], []⟩ [.ref a] [.ref a] _ _ rfl hr e0 (hbind s₁ (.ref a)) (.cons rfl .nil) (hsp H hO hS)) fun r s' h => ?_
    cases r with
    | error e => exact False.elim h
    | ok fl =>
      cases fl with
      | next => exact False.elim h
      | brk => exact False.elim h
      | cont => exact False.elim h
      | ret u =>
        obtain ⟨v, H', os, bare, un, hok', r', q⟩ := h
        have q' : v = .bl true := q
        subst q'
        obtain rfl : u = Value.bool true := r'
        refine ⟨rfl, OldK.of_keep fun b o e => ?_, os, bare⟩
        cases q : H b with
        | none => exact un.keep b o e q (fun z => absurd (show b ∈ ([] : List Addr) from z) (by simp)) (by simp)
        | some u =>
          rcases hO b with z | ⟨ob, xs, z⟩
          · rw [q] at z; cases z
          · obtain ⟨e1, _⟩ := hok b _ z
            obtain ⟨e2, _⟩ := hok' b _ (un.frzs b ob _ z)
            rw [e] at e1; cases e1
            exact e2
  cases hk : K.lookup a with
  | some o =>
    have e := KX a o hk
    rw [ha] at e
    cases e
    exact main (fun _ => none) (fun _ => .inl rfl) (.inr ⟨_, vs.toArray, _, hk, rfl, rfl, rfl, by rw [List.size_toArray, lenV]; exact hl, by simpa using rv⟩) (fun b u z => nomatch (show (none : Option HO) = some u from z)) (fun b z => absurd rfl z) fun z => absurd rfl z
  | none =>
    have ⟨H, at_, off⟩ : ∃ H : Hp, (∀ b, b = a → H b = some (HO.frz { cls := .type "list", data := .seq vs.toArray } (.lst (ns.map V.int)))) ∧ ∀ b, b ≠ a → H b = none :=
      ⟨fun c => if c = a then some (HO.frz { cls := .type "list", data := .seq vs.toArray } (.lst (ns.map V.int))) else none, fun b z => if_pos z, fun b z => if_neg z⟩
    refine main H (fun b => ?_) (.inl (.inr ⟨_, at_ a rfl⟩)) (fun b u z => ?_) (fun b z => ?_) fun _ => hk
    · by_cases hb : b = a
      · exact .inr ⟨_, _, at_ b hb⟩
      · exact .inl (off b hb)
    · by_cases hb : b = a
      · have z2 := (at_ b hb).symm.trans z
        cases z2
        subst hb
        exact ⟨ha, by rw [List.length_map]; exact hl, vs, _, rv, ha⟩
      · have z2 := (off b hb).symm.trans z
        cases z2
    · by_cases hb : b = a
      · exact hb
      · exact absurd (off b hb) z
end L2
namespace L2
open PySem PySem.Spec PyProof.Rows
/-! ### what the written part tells of an own error's class, as a Bool -/
def oexB (K : PySem.W.Frag) (C : Addr) : Bool := match K.lookup C with
  | some ⟨.type "type", _, .cls cd, sl⟩ => (match cd.mro, sl.toList with
    | .ref C' :: bm, [_, _, _, _, some (.builtin n), _] => C' == C && n == "ValueError.__new__" && !cd.hasDel && cd.hasDict && PySem.HandSPX.refsVE bm
    | _, _ => false)
  | _ => false
theorem oexB_ok {K : PySem.W.Frag} {C : Addr} (h : oexB K C = true) : ∃ nm q N bs bm sn sub ab col dd k0 k1 k2 k3 k5,
    K.lookup C = some (excClassObj nm q C N bs bm true sn sub ab col dd k0 k1 k2 k3 k5 "ValueError.__new__") ∧ PySem.HandSPX.refsVE bm = true := by
  unfold oexB at h
  split at h
  · rename_i dd cd sl ho
    split at h
    · rename_i C' bm k0 k1 k2 k3 n k5 hm hs
      simp only [Bool.and_eq_true, beq_iff_eq, Bool.not_eq_true'] at h
      obtain ⟨⟨⟨⟨rfl, rfl⟩, hdel⟩, hd⟩, ht⟩ := h
      obtain ⟨nm, bs, mro, ns, qn, hdct, sn, sub, ab, col, del⟩ := cd
      dsimp only at hm hdel hd
      subst hm hdel hd
      have hsl : sl = #[k0, k1, k2, k3, some (.builtin "ValueError.__new__"), k5] := by
        obtain ⟨l⟩ := sl
        simp only at hs
        rw [hs]
      subst hsl
      exact ⟨nm, qn, ns, bs, bm, sn, sub, ab, col, dd, k0, k1, k2, k3, k5, ho, ht⟩
    · cases h
  · cases h
def errB (x : Str) (ks : List Str) (K : PySem.W.Frag) : Bool :=
  oexB K (He.ga K x) && (He.eqO (PySem.W.nsIn K mainGlobals x) (some (some (.ref (He.ga K x)))) && (He.eqO (PySem.W.findIn K (.ref (He.ga K x)) "__setattr__") (some (some (.builtin "object.__setattr__"))) &&
  (decide (PySem.W.subIn K (.ref (He.ga K x)) (.type "BaseException") = some true) && (decide (PySem.W.typeIn K (.ref (He.ga K x)) = some (.type "type")) && (PySem.W.keepIn K (.ref (He.ga K x)) &&
  (He.eqO (PySem.W.findIn K (.ref (He.ga K x)) "__init__") (some (some (.ref (He.ma K (He.ga K x) "__init__")))) && (decide (PySem.W.typeIn K (.ref (He.ma K (He.ga K x) "__init__")) = some (.type "function")) &&
  ((ks.all fun f => He.eqO (PySem.W.findIn K (.ref (He.ga K x)) f) (some none)) && (xfB K (He.ga K x) &&
  (He.eqO (PySem.W.findIn K (.ref (He.ga K x)) "__class__") (some (some (.builtin "object.__class__"))) && (He.eqO (PySem.W.specialIn K (.builtin "object.__class__") "__get__") (some (some (.builtin "getset_descriptor.__get__"))) &&
  (decide (PySem.W.takesIn K (.builtin "object.__class__") = some true) && decide (PySem.W.mroIn K (He.ga K x) (.type "object") = some true)))))))))))))
theorem errB_ok {K : PySem.W.Frag} {x : Str} {ks : List Str} (h : errB x ks K = true) : ErrC K (He.ga K x) (He.ma K (He.ga K x) "__init__") ks ∧ (He.Fa.glo x).ok K = true := by
  unfold errB at h
  simp only [Bool.and_eq_true] at h
  obtain ⟨h1, h2, h3, h4, h5, h6, h7, h8, h9, h10, h11, h12, h13, h14⟩ := h
  have X := xfB_ok h10
  refine ⟨⟨⟨oexB_ok h1, He.eqO_ok h3, of_decide_eq_true h4, of_decide_eq_true h5, h6⟩, He.eqO_ok h7, of_decide_eq_true h8, fun f hf => He.eqO_ok (List.all_eq_true.mp h9 f hf), X, ⟨X.ga, X.gg, X.exC, X.hdC, He.eqO_ok h11, He.eqO_ok h12, of_decide_eq_true h13, of_decide_eq_true h14⟩⟩, h2⟩
/-! ### a Hook with Bools of one's own -/
def hookX (n : Nat) (fa : List He.Fa) (fn : List He.DefD) (fx : List (PySem.W.Frag → Bool)) : PySem.W.Hook where
  α := He.AlD × Bool
  obs := fun s => (He.obsDG n fa fn s.heap.get?, fx.all fun f => f (He.frG s.heap.get? (He.asD s.heap.get? n)))
  val := fun _ => (He.valD fn, true)
  says := fun _ h => ∃ K : PySem.W.Frag, K.In h ∧ He.SaysD fa fn K ∧ (fx.all fun f => f K) = true
  of := fun _ _ e => ⟨_, He.frG_in, (Prod.mk.inj e).1, (Prod.mk.inj e).2⟩
  keeps := fun _ _ _ ⟨K, hK, c⟩ k => ⟨K, PySem.W.Frag.In.keeps hK k, c⟩
def obX (n : Nat) (fa : List He.Fa) (fn : List He.DefD) (fx : List (PySem.W.Frag → Bool)) (s : PySem.W.SharedT) : He.AlD × Bool :=
  (He.obsDG n fa fn (HandSHeadRun.getT s), fx.all fun f => f (He.frG (HandSHeadRun.getT s) (He.asD (HandSHeadRun.getT s) n)))
theorem obX_eq (n : Nat) (fa : List He.Fa) (fn : List He.DefD) (fx : List (PySem.W.Frag → Bool)) (s : PySem.W.SharedT) : obX n fa fn fx s = (hookX n fa fn fx).obs s.abs := by
  have e : HandSHeadRun.getT s = s.abs.heap.get? := funext fun a => HandSHeadRun.getT_eq s a
  unfold obX
  rw [e] <;> rfl
end L2
namespace K00
open PySem PySem.Spec PyProof.Rows L2
def top (i : Nat) : Stmt := PySem.Challenge.pw_scaleborn_k00_errors_keep_their_fields.main.body.getD i (.Pass ⟨0, 0, 0, 0⟩)
abbrev sTill : Stmt := top 31
abbrev sCoin : Stmt := top 32
abbrev sOf : Stmt := top 33
abbrev FnP (K : PySem.W.Frag) (x : Str) (st : Stmt) (f : Addr) (fd : FuncData) : Prop := FunD K x x (defArgs st) (defBody st) (defScope st) [] [] f fd
/-- all but t stands -/
def Keep (t : Addr) (H H' : Hp) : Prop := ∀ b o, b ≠ t → H b = some o → H' b = some o
/-- what draws: at t the list of the cells' list c, how many were begun, what is left of a great one -/
structure Till (H : Hp) (t c : Addr) (cells : List Int) (i g : Int) : Prop where
  ht : H t = some (.lst [.ref c, .int i, .int g])
  hc : H c = some (.lst (cells.map V.int))
  ne : c ≠ t
structure Blt (mg : Str → Option Value) : Prop where
  int : mg "int" = none
  len : mg "len" = none
  abs : mg "abs" = none
theorem dp_ints {K : PySem.W.Frag} {H : Hp} : ∀ l : List Int, DpAll K H (l.map V.int) (l.map PyData.int)
  | [] => .nil
  | x :: l => .cons (.int x) (dp_ints l)
theorem can_ints : ∀ l : List Int, PyData.canLayAll0 (l.map PyData.int) = true
  | [] => rfl
  | x :: l => by
    have ih := can_ints l
    simp [PyData.canLayAll0, PyData.canLay0, ih]
theorem deep_ints : ∀ l : List Int, PyData.depthAll (l.map PyData.int) = 0
  | [] => rfl
  | x :: l => by
    have ih := deep_ints l
    simp [PyData.depthAll, PyData.depth, ih]
theorem shaped_ints (l : List Int) : SeqAt.shaped (.list (l.map PyData.int)) = true := by
  have h1 := can_ints l
  have h2 := deep_ints l
  simp [SeqAt.shaped, PyData.canLay0, PyData.depth, h1, h2]
theorem eqv_nil (l : List Int) : PyData.eqv (.list (l.map PyData.int)) (.list []) = l.isEmpty := by
  cases l <;> simp [PyData.eqv, PyData.eqvAll]
theorem mix1 {c i : Int} (h0 : 0 ≤ i) (h1 : i ≤ 1000000) : (c % 2147483629 + 64007 * i + 5591).natAbs < 2 ^ 64 := by
  have a := Int.emod_nonneg c (show (2147483629 : Int) ≠ 0 by decide)
  have b := Int.emod_lt_of_pos c (show (0 : Int) < 2147483629 by decide)
  omega
theorem mix2 {m i : Int} (h0 : 0 ≤ i) (h1 : i ≤ 1000000) (m0 : 0 ≤ m) (m1 : m < 2147483647) : (m * (2 * i + 2473) + 61657 * i * i + 5591).natAbs < 2 ^ 64 := by
  have a0 : 0 ≤ m * (2 * i + 2473) := Int.mul_nonneg m0 (by omega)
  have a1 : m * (2 * i + 2473) ≤ 2147483647 * 2002473 := Int.mul_le_mul (by omega) (by omega) (by omega) (by omega)
  have b0 : 0 ≤ 61657 * i * i := Int.mul_nonneg (by omega) h0
  have b1 : 61657 * i * i ≤ 61657000000 * 1000000 := Int.mul_le_mul (by omega) h1 h0 (by omega)
  omega
theorem modOk {x many : Int} (h : 0 < many) : 0 ≤ x.fmod many ∧ x.fmod many < many := by
  have e : x.fmod many = x % many := Int.fmod_eq_emod_of_nonneg x (by omega)
  rw [e]
  exact ⟨Int.emod_nonneg _ (by omega), Int.emod_lt_of_pos _ h⟩
theorem greatOk {a b : Int} (h : decide ((10 : Int) ^ (18 : Int).toNat ≤ a) = true) (hb : 0 ≤ b) : 0 ≤ 2 * (a - (10 : Int) ^ (18 : Int).toNat) + b := by
  have h2 := of_decide_eq_true h
  omega
theorem bitOk (c : Bool) : (0 : Int) ≤ if c = true then 1 else 0 := by cases c <;> decide
theorem emodB (x : Int) : -(2 ^ 64) < x % 2147483647 ∧ x % 2147483647 < 2 ^ 64 := by
  have a := Int.emod_nonneg x (show (2147483647 : Int) ≠ 0 by decide)
  have b := Int.emod_lt_of_pos x (show (0 : Int) < 2147483647 by decide)
  omega
theorem mix2E {x i : Int} (h0 : 0 ≤ i) (h1 : i ≤ 1000000) : ((x % 2147483647) * (2 * i + 2473) + 61657 * i * i + 5591).natAbs < 2 ^ 64 :=
  mix2 h0 h1 (Int.emod_nonneg x (by decide)) (Int.emod_lt_of_pos x (by decide))
theorem atB {i : Int} (h0 : 0 ≤ i) (h1 : i ≤ 1000000) : -(2 ^ 64) < 61657 * i ∧ 61657 * i < 2 ^ 64 := by omega
def spCoin : Sp := fun vs H Q _ => ∃ (t c : Addr) (cells : List Int) (i g many : Int), vs = [.ref t, .int many] ∧ Till H t c cells i g ∧ 0 ≤ i ∧ i ≤ 1000000 ∧ 0 ≤ g ∧ 0 < many ∧ many.natAbs < 2 ^ 8000 ∧
  ∀ (r i' g' : Int) (H' : Hp), 0 ≤ r → r < many → 0 ≤ i' → i' ≤ i + 1 → 0 ≤ g' → Keep t H H' → Till H' t c cells i' g' → Q (.int r) H'
section
variable {P : Program} {w : World} {K : PySem.W.Frag} {mg : Str → Option Value} {base : Heap}
theorem scC : FnScope ["_law_till_here", "_law_many", "_law_digit", "_law_at", "_law_cell", "_law_great", "_law_mixed"] ["_law_till_here", "_law_many"] (defScope sCoin) := ⟨rfl, rfl, rfl, by decide +kernel, rfl, by decide +kernel, by decide +kernel⟩
theorem ok_coin {f : Addr} {fd : FuncData} (F : FnP K "_law_coin" sCoin f fd) (T : Blt mg) : FnOk P w K mg base CX0 1 f fd ["_law_till_here", "_law_many"] spCoin := by
  refine F.ok scC (fun vs H Q E h => ?_) (fun cdv A outer s H vs Q E hr h => ?_)
  · obtain ⟨t, c, cells, i, g, many, rfl, _⟩ := h
    rfl
  · obtain ⟨t, c, cells, i, g, many, rfl, hT, hi0, hi1, hg, hm0, hm1, k⟩ := h
    have hu := hu_of hr
    refine ⟨_, PSs.nox (pss_cons (ps_if (pt_cmpR op_gt (pe_ix ix_list (pv 0) pe_int (fun _ _ => rfl)) pe_int (nomark _)) (pss_cons (ps_set (i := 2) scC.nd rfl (.inl rfl) (pe_op op_modN (pe_callTy call_int1 (by rfl) T.int PyProof.Rows.boot_int (pa_cons (pe_ix ix_list (pv 0) pe_int (fun _ _ => rfl)) pa_nil)) (pv 1)))
        (pss_cons (ps_asg (pe_op op_fdivW (pe_callTy call_int1 (by rfl) T.int PyProof.Rows.boot_int (pa_cons (pe_ix ix_list (pv 0) pe_int (fun _ _ => rfl)) pa_nil)) (pv 1)) (pg_sub (pv 0) pe_int set_list))
        (pss_one (ps_ret (pv 2))))) pss_nil)
        (pss_cons (ps_set (i := 3) scC.nd rfl (.inl rfl) (pe_ix ix_list (pv 0) pe_int (fun _ _ => rfl)))
        (pss_cons (ps_asg (pe_op op_add (pv 3) pe_int) (pg_sub (pv 0) pe_int set_list))
        (pss_cons (ps_set (i := 4) scC.nd rfl (.inl rfl) (pe_op op_add (pe_op op_mul pe_int (pv 3)) pe_int))
        (pss_cons (ps_if (pt_cmpR (op_neD hr.units) (pe_ix ix_list (pv 0) pe_int (fun _ _ => rfl)) (pe_lst pa_nil) (nomark _)) (pss_one (ps_set (i := 4) scC.nd rfl (.inl rfl) (pe_ix ix_list (pe_ix ix_list (pv 0) pe_int (fun _ _ => rfl)) (pe_op op_modN (pe_callTy call_int1 (by rfl) T.int PyProof.Rows.boot_int (pa_cons (pv 3) pa_nil)) (pe_callB call_len_seq (by rfl) T.len PySem.boot_len (pa_cons (pe_ix ix_list (pv 0) pe_int (fun _ _ => rfl)) pa_nil))) (fun _ _ => rfl)))) pss_nil)
        (pss_cons (ps_if (PW.pt (pw_and (pt_cmpR op_lt (pv 3) (pe_callB call_len_seq (by rfl) T.len PySem.boot_len (pa_cons (pe_ix ix_list (pv 0) pe_int (fun _ _ => rfl)) pa_nil)) (nomark _)) (pw_and1 (pt_cmpR op_ge (pe_callB call_abs (by rfl) T.abs (by decide +kernel) (pa_cons (pv 4) pa_nil)) (pe_op op_pow pe_int pe_int) (nomark _))))) (pss_cons (ps_set (i := 5) scC.nd rfl (.inl rfl) (pe_op op_add (pe_op op_mul pe_int (pe_op op_sub (pe_callB call_abs (by rfl) T.abs (by decide +kernel) (pa_cons (pv 4) pa_nil)) (pe_op op_pow pe_int pe_int))) (pe_callTy call_int1 (by rfl) T.int PyProof.Rows.boot_int (pa_cons (pe_cmpR op_lt (pv 4) pe_int (nomark _)) pa_nil))))
        (pss_cons (ps_asg (pe_op op_fdivW (pe_callTy call_int1 (by rfl) T.int PyProof.Rows.boot_int (pa_cons (pv 5) pa_nil)) (pv 1)) (pg_sub (pv 0) pe_int set_list))
        (pss_one (ps_ret (pe_op op_modN (pe_callTy call_int1 (by rfl) T.int PyProof.Rows.boot_int (pa_cons (pv 5) pa_nil)) (pv 1)))))) pss_nil)
        (pss_cons (ps_set (i := 6) scC.nd rfl (.inl rfl) (pe_op op_mod (pe_callTy call_int1 (by rfl) T.int PyProof.Rows.boot_int (pa_cons (pe_op op_pow (pe_op op_add (pe_op op_add (pe_op op_mod (pe_callTy call_int1 (by rfl) T.int PyProof.Rows.boot_int (pa_cons (pv 4) pa_nil)) pe_int) (pe_op op_mul pe_int (pv 3))) pe_int) pe_int) pa_nil)) pe_int))
        (pss_cons (ps_set (i := 6) scC.nd rfl (.inl rfl) (pe_op op_mod (pe_callTy call_int1 (by rfl) T.int PyProof.Rows.boot_int (pa_cons (pe_op op_pow (pe_op op_add (pe_op op_add (pe_op op_mul (pv 6) (pe_op op_add (pe_op op_mul pe_int (pv 3)) pe_int)) (pe_op op_mul (pe_op op_mul pe_int (pv 3)) (pv 3))) pe_int) pe_int) pa_nil)) pe_int))
        (pss_one (ps_ret (pe_op op_modN (pe_callTy call_int1 (by rfl) T.int PyProof.Rows.boot_int (pa_cons (pe_op op_fdiv (pv 6) pe_int) pa_nil)) (pv 1)))))))))))), ?_⟩
    have two : atI [V.ref c, V.int i, V.int g] 2 = some (.int g) := by rfl
    have mm : CDivW g many := wide_div hm0 hm1 (by decide) (by decide)
    refine ⟨_, rfl, _, _, _, _, rfl, rfl, SqL.of hT.ht, rfl, _, _, rfl, rfl, _, rfl, ?_⟩
    refine ite2 (fun hc => ?_) (fun hc => ?_)
    · refine ⟨_, rfl, _, _, _, _, rfl, rfl, SqL.of hT.ht, rfl, .inl ⟨_, rfl, _, rfl, _, _, rfl, rfl, by omega, ?_⟩⟩
      refine ⟨_, rfl, _, _, _, _, rfl, rfl, SqL.of hT.ht, rfl, .inl ⟨_, rfl, _, rfl, _, _, rfl, rfl, mm, ?_⟩⟩
      refine ⟨_, rfl, _, _, _, _, rfl, rfl, hT.ht, rfl, _, rfl, ?_⟩
      have e1 : g.fmod many = g % many := Int.fmod_eq_emod_of_nonneg g (by omega)
      refine k _ _ _ _ ?_ ?_ hi0 (by omega) ?_ (fun b o hb e => by rw [upd_ne hb]; exact e) ⟨upd_same, by rw [upd_ne hT.ne]; exact hT.hc, hT.ne⟩
      · rw [e1]; exact Int.emod_nonneg _ (by omega)
      · rw [e1]; exact Int.emod_lt_of_pos _ hm0
      · exact Int.ediv_nonneg hg (by omega)
    · refine ⟨_, rfl, _, _, _, _, rfl, rfl, SqL.of hT.ht, rfl, ?_⟩
      refine ⟨_, rfl, _, _, rfl, rfl, _, rfl, _, _, _, _, rfl, rfl, hT.ht, rfl, ?_⟩
      refine ⟨_, rfl, _, _, rfl, rfl, .inl ⟨by decide, by decide⟩, _, _, rfl, rfl, ?_⟩
      refine ⟨_, rfl, _, _, _, _, rfl, rfl, SqL.of upd_same, rfl, Nat.zero_le _, fun p hp => ?_⟩
      have npt : p ≠ t := fun z => by rw [z, upd_same] at hp; cases hp
      have hp0 : H p = none := by rw [upd_ne npt] at hp; exact hp
      have npc : c ≠ p := ne_of_none hT.hc hp0
      refine ⟨_, _, Dp.lst (SqL.of (by rw [upd_ne npc, upd_ne hT.ne]; exact hT.hc)) (dp_ints cells), Dp.lst (SqL.of upd_same) .nil, shaped_ints cells, by decide, _, rfl, ?_⟩
      have h2t : upd (upd H t (.lst ([V.ref c, V.int i, V.int g].set (Int.toNat 1) (.int (i + 1))))) p (.lst []) t = some (.lst [.ref c, .int (i + 1), .int g]) := by rw [upd_ne npt.symm, upd_same]; rfl
      have h2c : upd (upd H t (.lst ([V.ref c, V.int i, V.int g].set (Int.toNat 1) (.int (i + 1))))) p (.lst []) c = some (.lst (cells.map V.int)) := by rw [upd_ne npc, upd_ne hT.ne]; exact hT.hc
      have h2k : Keep t H (upd (upd H t (.lst ([V.ref c, V.int i, V.int g].set (Int.toNat 1) (.int (i + 1))))) p (.lst [])) := fun b o hb e => by rw [upd_ne (ne_of_none e hp0), upd_ne hb]; exact e
      generalize upd (upd H t (.lst ([V.ref c, V.int i, V.int g].set (Int.toNat 1) (.int (i + 1))))) p (.lst []) = H2 at h2t h2c h2k ⊢
      rw [eqv_nil]
      refine ite2 (fun hn => ?one) (fun hn => ?two)
      case' one =>
        have hl : 0 < cells.length := by
          cases cells with
          | nil => exact absurd hn (by decide)
          | cons x l => exact Nat.zero_lt_succ _
        have e1 : i.fmod (cells.length : Int) = i % (cells.length : Int) := Int.fmod_eq_emod_of_nonneg i (by omega)
        have b0 := Int.emod_nonneg i (show (cells.length : Int) ≠ 0 by omega)
        have b1 := Int.emod_lt_of_pos i (show (0 : Int) < cells.length by omega)
        obtain ⟨n, hn1⟩ : ∃ n : Nat, i.fmod (cells.length : Int) = n := ⟨(i % (cells.length : Int)).toNat, by rw [e1]; omega⟩
        have hn2 : n < cells.length := by omega
        refine ⟨_, rfl, _, _, _, _, rfl, rfl, SqL.of h2t, rfl, _, rfl, .inl ⟨_, rfl, _, rfl, _, _, _, _, rfl, rfl, SqL.of h2t, rfl, _, _, rfl, .inl (SqL.of h2c), _, _, rfl, rfl, (by rw [List.length_map]; omega), ?_⟩⟩
        refine ⟨_, _, _, V.int cells[n], rfl, rfl, SqL.of h2c, (by rw [List.length_map, hn1]; exact atI_nat (by rw [List.getElem?_map, List.getElem?_eq_getElem hn2]; rfl)), ?_⟩
      all_goals
        refine ⟨_, rfl, _, rfl, _, _, _, _, rfl, rfl, SqL.of h2t, rfl, _, _, rfl, .inl (SqL.of h2c), _, _, rfl, rfl, _, rfl, ?_⟩
        refine ite2 (fun hA => ?_) (fun hA => ?_)
        · refine ⟨_, rfl, _, rfl, _, _, rfl, rfl, ⟨by decide, by decide, by decide⟩, _, _, rfl, rfl, _, rfl, ?_⟩
          refine ite2 (fun hB => ?_) (fun hB => ?_)
          · refine ⟨_, rfl, _, rfl, _, _, rfl, rfl, ⟨by decide, by decide, by decide⟩, _, _, rfl, rfl, _, _, rfl, rfl, .inl ⟨by decide, by decide⟩, _, rfl, _, _, rfl, rfl, .inr ⟨_, rfl, _, _, rfl, rfl, ?_⟩⟩
            refine ⟨_, rfl, .inl ⟨_, rfl, _, rfl, _, _, rfl, rfl, wide_div hm0 hm1 (by decide) (by decide), _, rfl, _, _, _, _, rfl, rfl, h2t, rfl, ?_⟩⟩
            refine ⟨_, rfl, .inl ⟨_, rfl, _, rfl, _, _, rfl, rfl, by omega, ?_⟩⟩
            refine k _ (i + 1) _ _ (modOk hm0).1 (modOk hm0).2 (by omega) (Int.le_refl _) (Int.ediv_nonneg (greatOk hB (bitOk _)) (by omega)) (fun b o hb e => by rw [upd_ne hb]; exact h2k b o hb e) ⟨upd_same, by rw [upd_ne hT.ne]; exact h2c, hT.ne⟩
          · refine ⟨_, rfl, .inl ⟨_, rfl, _, _, rfl, rfl, (by show (0 : Int) < 2147483629; decide), _, rfl, _, _, rfl, rfl, .inl ⟨by decide, by decide⟩, _, _, rfl, rfl, _, _, rfl, rfl, _, _, rfl, rfl, ⟨by decide, by decide, mix1 hi0 hi1⟩, .inl ⟨_, rfl, _, _, rfl, rfl, (by show (0 : Int) < 2147483647; decide), ?_⟩⟩⟩
            refine ⟨_, rfl, _, rfl, _, _, rfl, rfl, .inl ⟨by decide, by decide⟩, _, _, rfl, rfl, _, _, rfl, rfl, .inl (emodB _), _, rfl, _, _, rfl, rfl, .inl ⟨by decide, by decide⟩, _, rfl, _, _, rfl, rfl, .inl (atB hi0 hi1), _, _, rfl, rfl, _, _, rfl, rfl, _, _, rfl, rfl, ⟨by decide, by decide, mix2E hi0 hi1⟩, .inl ⟨_, rfl, _, _, rfl, rfl, (by show (0 : Int) < 2147483587; decide), ?_⟩⟩
            exact ⟨_, rfl, _, _, rfl, rfl, ⟨by decide, by decide⟩, .inl ⟨_, rfl, _, rfl, _, _, rfl, rfl, (by omega), k _ (i + 1) g H2 (modOk hm0).1 (modOk hm0).2 (by omega) (Int.le_refl _) hg h2k ⟨h2t, h2c, hT.ne⟩⟩⟩
        · refine ⟨_, rfl, .inl ⟨_, rfl, _, _, rfl, rfl, (by show (0 : Int) < 2147483629; decide), _, rfl, _, _, rfl, rfl, .inl ⟨by decide, by decide⟩, _, _, rfl, rfl, _, _, rfl, rfl, _, _, rfl, rfl, ⟨by decide, by decide, mix1 hi0 hi1⟩, .inl ⟨_, rfl, _, _, rfl, rfl, (by show (0 : Int) < 2147483647; decide), ?_⟩⟩⟩
          refine ⟨_, rfl, _, rfl, _, _, rfl, rfl, .inl ⟨by decide, by decide⟩, _, _, rfl, rfl, _, _, rfl, rfl, .inl (emodB _), _, rfl, _, _, rfl, rfl, .inl ⟨by decide, by decide⟩, _, rfl, _, _, rfl, rfl, .inl (atB hi0 hi1), _, _, rfl, rfl, _, _, rfl, rfl, _, _, rfl, rfl, ⟨by decide, by decide, mix2E hi0 hi1⟩, .inl ⟨_, rfl, _, _, rfl, rfl, (by show (0 : Int) < 2147483587; decide), ?_⟩⟩
          exact ⟨_, rfl, _, _, rfl, rfl, ⟨by decide, by decide⟩, .inl ⟨_, rfl, _, rfl, _, _, rfl, rfl, (by omega), k _ (i + 1) g H2 (modOk hm0).1 (modOk hm0).2 (by omega) (Int.le_refl _) hg h2k ⟨h2t, h2c, hT.ne⟩⟩⟩
end
end K00
namespace K00
open PySem PySem.Spec PyProof.Rows L2
def spTill (K : PySem.W.Frag) : Sp := fun vs H Q _ => ∃ (a : Addr) (ns : List Int), vs = [.ref a] ∧ SqL K H a (ns.map V.int) ∧ ns.length ≤ 63 ∧
  ∀ (t c : Addr) (H' : Hp), Same H H' → H t = none → Till H' t c (ns.take 62) 0 0 → Q (.ref t) H'
/-- one of some things that stand in a list -/
def spOf : Sp := fun vs H Q _ => ∃ (t c a : Addr) (cells : List Int) (i g : Int) (xs : List V), vs = [.ref t, .ref a] ∧ Till H t c cells i g ∧ 0 ≤ i ∧ i ≤ 1000000 ∧ 0 ≤ g ∧ a ≠ t ∧ H a = some (.lst xs) ∧ 0 < xs.length ∧ xs.length ≤ 10000 ∧
  ∀ (v : V) (i' g' : Int) (H' : Hp), v ∈ xs → 0 ≤ i' → i' ≤ i + 1 → 0 ≤ g' → Keep t H H' → Till H' t c cells i' g' → Q v H'
theorem same_upd {H : Hp} {p : Addr} {o : HO} (h : H p = none) : Same H (upd H p o) := fun b x e => by
  rw [upd_ne (ne_of_none e h)]
  exact e
theorem cut62 (ns : List Int) : cutV (ns.map V.int) none (some 62) = (ns.take 62).map V.int := by
  unfold cutV
  rw [HT.sIx_none, show HT.sIx (ns.map V.int).length (ns.map V.int).length (some 62) = min 62 (ns.map V.int).length from HT.sIx_nat _ _ 62, List.drop_zero, List.map_take, Nat.sub_zero]
  rw [← List.take_take, List.take_length]
section
variable {P : Program} {w : World} {K : PySem.W.Frag} {mg : Str → Option Value} {base : Heap}
theorem scT : FnScope ["_law_script", "_law_cell"] ["_law_script"] (defScope sTill) := ⟨rfl, rfl, rfl, by decide +kernel, rfl, by decide +kernel, by decide +kernel⟩
theorem ok_till {f : Addr} {fd : FuncData} (F : FnP K "_law_till" sTill f fd) (T : Blt mg) : FnOk P w K mg base CX0 1 f fd ["_law_script"] (spTill K) := by
  refine F.ok scT (fun vs H Q E h => ?_) (fun cdv A outer s H vs Q E hr h => ?_)
  · obtain ⟨a, ns, rfl, _⟩ := h
    rfl
  · obtain ⟨a, ns, rfl, hS, hl, k⟩ := h
    refine ⟨_, PSs.nox (pss_one (ps_ret (pe_lst (pa_cons
      (pe_lc (own := [("_law_cell", 1)]) (g := gName 1) (tt := tYes) rfl scT.nd (pi_list (pe_slice sl_list (pv 0) po_none (po_some pe_int))) (blkOk_by (N := ["_law_script", "_law_cell"]) (sc := defScope sTill) (by decide +kernel))
        (fun _ _ _ _ _ => pg_name (i := 1) scT.nd rfl (Or.inl rfl)) (fun _ _ _ _ _ => pts_nil) (fun _ _ _ _ _ => pe_callTy call_int1 (by rfl) T.int PyProof.Rows.boot_int (pa_cons (pv 1) pa_nil)))
      (pa_cons pe_int (pa_cons pe_int pa_nil)))))), ?_⟩
    refine ⟨_, rfl, 62, rfl, a, _, rfl, hS, fun p np => ⟨_, rfl, ⟨_, SqL.of upd_same⟩, fun D nD => ?_⟩⟩
    have npD : p ≠ D := fun z => by rw [← z, upd_same] at nD; cases nD
    have nD0 : H D = none := by rw [upd_ne npD.symm] at nD; exact nD
    refine lc_list (K := K) (a := p) (xs := cutV (ns.map V.int) none (some 62))
      (fun j H2 => Same H H2 ∧ H2 p = some (.lst ((ns.take 62).map V.int)) ∧ H2 D = some (.lst (((ns.take 62).map V.int).take j))) ⟨?_, ?_, upd_same⟩ (fun j H2 _ hP => by rw [cut62]; exact SqL.of hP.2.1) ?_ ?_
    · exact (same_upd np).trans (same_upd nD)
    · rw [upd_ne npD, upd_same, cut62]
    · rintro j x H2 hx ⟨s2, hp2, hD2⟩
      rw [cut62] at hx
      obtain ⟨z, rfl⟩ : ∃ z, x = V.int z := by
        rw [List.getElem?_map] at hx
        cases e : (ns.take 62)[j]? with
        | none => rw [e] at hx; cases hx
        | some z => rw [e] at hx; exact ⟨z, (Option.some.inj hx).symm⟩
      have hj : j < ((ns.take 62).map V.int).length := (List.getElem?_eq_some_iff.mp hx).1
      have hj2 : j < 62 := by rw [List.length_map, List.length_take] at hj; omega
      refine ⟨rfl, ?_⟩
      unfold tYes
      dsimp only
      rw [if_pos rfl]
      refine ⟨_, rfl, .inl ⟨_, rfl, _, hD2, ?_, fun b o e => ?_, ?_, ?_⟩⟩
      · rw [List.length_take, sizeLine_eq]; omega
      · rw [upd_ne (ne_of_none e nD0)]; exact s2 b o e
      · rw [upd_ne npD]; exact hp2
      · have e : ((ns.take 62).map V.int).take (j + 1) = ((ns.take 62).map V.int).take j ++ [V.int z] := by
          have q := List.take_add_one (l := (ns.take 62).map V.int) (i := j)
          rw [hx] at q
          exact q
        rw [upd_same, e]
    · rintro H2 ⟨s2, hp2, hD2⟩
      refine ⟨by show 3 ≤ sizeLine; decide, fun t nt => ?_⟩
      have e1 : H2 D = some (.lst ((ns.take 62).map V.int)) := by
        rw [hD2, cut62, List.take_length]
      have ntD : D ≠ t := ne_of_none e1 nt
      exact k t D _ (s2.trans (same_upd nt)) (s2.free nt) ⟨upd_same, by rw [upd_ne ntD]; exact e1, ntD⟩
theorem scO : FnScope ["_law_till_here", "_law_some"] ["_law_till_here", "_law_some"] (defScope sOf) := ⟨rfl, rfl, rfl, by decide +kernel, rfl, by decide +kernel, by decide +kernel⟩
theorem ok_of {f fC : Addr} {fd fdC : FuncData} (F : FnP K "_law_of" sOf f fd) (T : Blt mg) (gC : mg "_law_coin" = some (.ref fC)) (FC : FnP K "_law_coin" sCoin fC fdC) : FnOk P w K mg base CX0 2 f fd ["_law_till_here", "_law_some"] spOf := by
  have GC : FnOk P w K mg base CX0 1 fC fdC ["_law_till_here", "_law_many"] spCoin := ok_coin FC T
  have bC : Binds K fdC ["_law_till_here", "_law_many"] [] := FC.bindsN fun _ _ _ _ _ _ us hl => match us, hl with | [_, _], _ => rfl
  have kC := FC.kp
  refine F.ok scO (fun vs H Q E h => ?_) (fun cdv A outer s H vs Q E hr h => ?_)
  · obtain ⟨t, c, a, cells, i, g, xs, rfl, _⟩ := h
    rfl
  · obtain ⟨t, c, a, cells, i, g, xs, rfl, hT, hi0, hi1, hg, nat, ha, hx0, hx1, k⟩ := h
    have hr1 : Room 1 _ := hr
    refine ⟨_, PSs.nox (pss_one (ps_ret (pe_ix ix_list (pv 1) (pe_call GC hr1 rfl gC kC bC .nil pass0 (pa_cons (pv 0) (pa_cons (pe_callB call_len_seq (by rfl) T.len PySem.boot_len (pa_cons (pv 1) pa_nil)) pa_nil))) (fun _ _ => rfl)))), ?_⟩
    have hz : (2 : Nat) ^ 8000 > 10000 := by decide +kernel
    refine ⟨_, rfl, _, rfl, _, rfl, _, _, rfl, .inl (SqL.of ha), t, c, cells, i, g, _, rfl, hT, hi0, hi1, hg, by omega, by omega, fun r i' g' H' r0 r1 i0 i1 g0 kp T' => ?_⟩
    obtain ⟨n, rfl⟩ : ∃ n : Nat, r = n := ⟨r.toNat, by omega⟩
    have hn : n < xs.length := by omega
    exact ⟨_, _, _, xs[n], rfl, rfl, SqL.of (kp a _ nat ha), atI_nat (List.getElem?_eq_getElem hn), k _ i' g' H' (List.getElem_mem hn) i0 i1 g0 kp T'⟩
end
end K00
namespace L2
open PySem PySem.Spec PyProof.Rows
theorem FunD.kwN {K : PySem.W.Frag} {x qual : Str} {params : Arguments} {body : List Stmt} {scope : Scope} {f : Addr} {fd : FuncData} (F : FunD K x qual params body scope [] [] f fd) (s : Shared) {args : Args} {b : List (Str × Value)}
    (h : ∀ (kV doc pm : Value) (an : Option Addr) (cdv ct : Value), bindArgs (PySem.W.fnOf x qual params body scope .none kV doc pm an cdv ct) args = pure b) : BindsTo s fd args b := by
  obtain ⟨oc, od, dV, kV, doc, pm, an, cdv, ct, osl, rfl, lk, hcd, hD, hK⟩ := F.ex
  rcases hD with ⟨_, rfl⟩ | ⟨e, _⟩
  · exact .of_eq (h kV doc pm an cdv ct)
  · exact absurd rfl e
/-- an own error's class, ready to be made -/
structure ErrM (P : Program) (w : World) (K : PySem.W.Frag) (mg : Str → Option Value) (base : Heap) (x : Str) (C : Addr) (ks : List Str) : Prop where
  ex : ∃ (fI : Addr) (fd : FuncData), ErrC K C fI ks ∧ FnOk P w K mg base CX0 1 fI fd ("self" :: ks) (spErrI K ks) ∧ Binds K fd ("self" :: ks) [] ∧
    (∀ (s : Shared) (a : Addr) (zs : List Value), zs.length = ks.length → BindsTo s fd ⟨[.ref a], ks.zip zs⟩ ((("self" : Str) :: ks).zip (.ref a :: zs))) ∧
    (∀ (s : Shared) (a : Addr) (zs : List Value), zs.length = ks.length → BindsTo s fd ⟨[.ref a], ks.reverse.zip zs⟩ ((("self" : Str) :: ks).zip (.ref a :: zs.reverse)))
  g : mg x = some (.ref C)
  xf : XfC K C
  is : ExcC K C
  no : ∀ f ∈ ks, PySem.W.findIn K (.ref C) f = some none
section
variable {X : Cx} {C : Addr} {ks : List Str} {x : Str} {p pos : Pos} {e : Expr} {es : List Expr} {kws : List Keyword} {ta tk : TA}
theorem pe_eM (M : ErrM X.prog X.w X.K X.mg X.base x C ks) (hr : Room 2 X.A) (hg : Gl X x) (hk : ks.length ≤ 100) (ha : PA X (e :: es) ta)
    (hdb : (x == ("__debug__" : Str)) = false := by decide) (he : starEach (e :: es) X.env = (false, eval e X.env) :: starEach es X.env := by rfl) (hpl : (backTo pos (starEach es X.env)).any (·.1) = false := by rfl) :
    PE X (.Call (.Name x p) (e :: es) [] pos) (tErr C ks id ta) := by
  obtain ⟨fI, fd, T, F, b, _⟩ := M.ex
  exact pe_err T F hr hg M.g b rfl hk ha hdb he hpl
theorem pe_eM0 (M : ErrM X.prog X.w X.K X.mg X.base x C []) (hr : Room 2 X.A) (hg : Gl X x) (hdb : (x == ("__debug__" : Str)) = false := by decide) : PE X (.Call (.Name x p) [] [] pos) (tErr C [] id tNil) := by
  obtain ⟨fI, fd, T, F, b, _⟩ := M.ex
  exact pe_err0 T F hr hg M.g b rfl hdb
theorem pe_eMK (M : ErrM X.prog X.w X.K X.mg X.base x C ks) (hr : Room 2 X.A) (hg : Gl X x) (hkw : PK X kws tk)
    (hall : (backToKw pos (keywordEach kws X.env)).all (·.1.isSome) = true := by rfl) (hks : (backToKw pos (keywordEach kws X.env)).filterMap (·.1) = ks := by rfl)
    (hdb : (x == ("__debug__" : Str)) = false := by decide)
    (hpl : ((backTo pos (starEach [] X.env)).any (·.1) || (backToKw pos (keywordEach kws X.env)).any (·.1.isNone)) = false := by rfl) :
    PE X (.Call (.Name x p) [] kws pos) (tErr C ks id tk) := by
  obtain ⟨fI, fd, T, F, b, k1, _⟩ := M.ex
  exact pe_errK (ordU := id) T F hr hg M.g k1 (fun vs us hl r => ⟨r, hl⟩) hkw hall hks hdb hpl
theorem pe_eMR (M : ErrM X.prog X.w X.K X.mg X.base x C ks) (hr : Room 2 X.A) (hg : Gl X x) (hkw : PK X kws tk)
    (hall : (backToKw pos (keywordEach kws X.env)).all (·.1.isSome) = true := by rfl) (hks : (backToKw pos (keywordEach kws X.env)).filterMap (·.1) = ks.reverse := by rfl)
    (hdb : (x == ("__debug__" : Str)) = false := by decide)
    (hpl : ((backTo pos (starEach [] X.env)).any (·.1) || (backToKw pos (keywordEach kws X.env)).any (·.1.isNone)) = false := by rfl) :
    PE X (.Call (.Name x p) [] kws pos) (tErr C ks List.reverse tk) := by
  obtain ⟨fI, fd, T, F, b, _, k2⟩ := M.ex
  exact pe_errK (ordU := List.reverse) T F hr hg M.g k2 (fun vs us hl r => ⟨r.reverse, by rw [List.length_reverse]; exact hl⟩) hkw hall hks hdb hpl
end
end L2
namespace K00
open PySem PySem.Spec PyProof.Rows L2
abbrev iBadRatio : Stmt := inClass (top 2) 0
abbrev iBadBalance : Stmt := inClass (top 3) 0
abbrev iBadComparison : Stmt := inClass (top 4) 0
abbrev iBadPair : Stmt := inClass (top 5) 0
abbrev iBadSort : Stmt := inClass (top 6) 0
abbrev iBadScale : Stmt := inClass (top 7) 0
abbrev iBadBook : Stmt := inClass (top 8) 0
abbrev iBadSaying : Stmt := inClass (top 9) 0
abbrev iBadHands : Stmt := inClass (top 10) 0
abbrev iBadNumber : Stmt := inClass (top 12) 0
abbrev iBadPaper : Stmt := inClass (top 13) 0
abbrev iBadLive : Stmt := inClass (top 14) 0
abbrev iBadDesk : Stmt := inClass (top 15) 0
abbrev iBadOrder : Stmt := inClass (top 11) 0
abbrev iNoThing : Stmt := inClass (top 17) 0
abbrev iNoName : Stmt := inClass (top 18) 0
abbrev iTwice : Stmt := inClass (top 20) 0
abbrev iNoPair : Stmt := inClass (top 19) 0
abbrev iUnlike : Stmt := inClass (top 21) 0
abbrev iImpossible : Stmt := inClass (top 22) 0
abbrev iNotAbove : Stmt := inClass (top 23) 0
abbrev iNotCarried : Stmt := inClass (top 24) 0
abbrev iHanging : Stmt := inClass (top 25) 0
abbrev iTooMany : Stmt := inClass (top 27) 0
abbrev iBadText : Stmt := inClass (top 28) 0
abbrev iBadLine : Stmt := inClass (top 29) 0
abbrev iNothing : Stmt := inClass (top 26) 0
abbrev iMissing : Stmt := inClass (top 16) 0
section
variable {P : Program} {w : World} {K : PySem.W.Frag} {mg : Str → Option Value} {base : Heap}
theorem mk_BadRatio {C fI : Addr} {fd : FuncData} (F : FunD K "__init__" "BadRatio.__init__" (defArgs iBadRatio) (defBody iBadRatio) (defScope iBadRatio) [] [] fI fd) (T : ErrC K C fI ["part"]) (g : mg "BadRatio" = some (.ref C)) : ErrM P w K mg base "BadRatio" C ["part"] := by
  have S : FnScope ["self", "part"] ["self", "part"] (defScope iBadRatio) := ⟨rfl, rfl, rfl, by decide +kernel, rfl, by decide +kernel, by decide +kernel⟩
  refine ⟨⟨fI, fd, T, ?_, F.bindsN (fun _ _ _ _ _ _ us hl => match us, hl with | [_, _], _ => rfl), fun s a zs hz => ?_, fun s a zs hz => ?_⟩, g, T.xf, T.is, T.no⟩
  · refine F.ok S (fun vs H Q E h => ?_) (fun cdv A outer s H vs Q E hr h => ?_)
    · obtain ⟨e, C, ws, rfl, hn, _⟩ := h
      rw [List.length_cons, hn]
      rfl
    · obtain ⟨e, C, ws, rfl, hn, T, no, he, k⟩ := h
      match ws, hn with
      | [v0], _ =>
        refine ⟨_, PSs.nox (pss_one (ps_ost (pv 0) (pv 1))), ?_⟩
        refine ⟨_, rfl, _, rfl, e, C, rfl, T, no _ (by simp), .inl ⟨he, fun dx nd ne => ?_⟩⟩
        exact k _ (fun b o hb z => by rw [upd_ne hb, upd_ne (ne_of_none z nd)]; exact z) (.inr ⟨dx, upd_same, by rw [upd_ne ne]; exact upd_same⟩)
  · match zs, hz with
    | [z0], _ => exact F.kwN s fun _ _ _ _ _ _ => rfl
  · match zs, hz with
    | [z0], _ => exact F.kwN s fun _ _ _ _ _ _ => rfl
theorem mk_BadBalance {C fI : Addr} {fd : FuncData} (F : FunD K "__init__" "BadBalance.__init__" (defArgs iBadBalance) (defBody iBadBalance) (defScope iBadBalance) [] [] fI fd) (T : ErrC K C fI ["part"]) (g : mg "BadBalance" = some (.ref C)) : ErrM P w K mg base "BadBalance" C ["part"] := by
  have S : FnScope ["self", "part"] ["self", "part"] (defScope iBadBalance) := ⟨rfl, rfl, rfl, by decide +kernel, rfl, by decide +kernel, by decide +kernel⟩
  refine ⟨⟨fI, fd, T, ?_, F.bindsN (fun _ _ _ _ _ _ us hl => match us, hl with | [_, _], _ => rfl), fun s a zs hz => ?_, fun s a zs hz => ?_⟩, g, T.xf, T.is, T.no⟩
  · refine F.ok S (fun vs H Q E h => ?_) (fun cdv A outer s H vs Q E hr h => ?_)
    · obtain ⟨e, C, ws, rfl, hn, _⟩ := h
      rw [List.length_cons, hn]
      rfl
    · obtain ⟨e, C, ws, rfl, hn, T, no, he, k⟩ := h
      match ws, hn with
      | [v0], _ =>
        refine ⟨_, PSs.nox (pss_one (ps_ost (pv 0) (pv 1))), ?_⟩
        refine ⟨_, rfl, _, rfl, e, C, rfl, T, no _ (by simp), .inl ⟨he, fun dx nd ne => ?_⟩⟩
        exact k _ (fun b o hb z => by rw [upd_ne hb, upd_ne (ne_of_none z nd)]; exact z) (.inr ⟨dx, upd_same, by rw [upd_ne ne]; exact upd_same⟩)
  · match zs, hz with
    | [z0], _ => exact F.kwN s fun _ _ _ _ _ _ => rfl
  · match zs, hz with
    | [z0], _ => exact F.kwN s fun _ _ _ _ _ _ => rfl
theorem mk_BadComparison {C fI : Addr} {fd : FuncData} (F : FunD K "__init__" "BadComparison.__init__" (defArgs iBadComparison) (defBody iBadComparison) (defScope iBadComparison) [] [] fI fd) (T : ErrC K C fI ["part"]) (g : mg "BadComparison" = some (.ref C)) : ErrM P w K mg base "BadComparison" C ["part"] := by
  have S : FnScope ["self", "part"] ["self", "part"] (defScope iBadComparison) := ⟨rfl, rfl, rfl, by decide +kernel, rfl, by decide +kernel, by decide +kernel⟩
  refine ⟨⟨fI, fd, T, ?_, F.bindsN (fun _ _ _ _ _ _ us hl => match us, hl with | [_, _], _ => rfl), fun s a zs hz => ?_, fun s a zs hz => ?_⟩, g, T.xf, T.is, T.no⟩
  · refine F.ok S (fun vs H Q E h => ?_) (fun cdv A outer s H vs Q E hr h => ?_)
    · obtain ⟨e, C, ws, rfl, hn, _⟩ := h
      rw [List.length_cons, hn]
      rfl
    · obtain ⟨e, C, ws, rfl, hn, T, no, he, k⟩ := h
      match ws, hn with
      | [v0], _ =>
        refine ⟨_, PSs.nox (pss_one (ps_ost (pv 0) (pv 1))), ?_⟩
        refine ⟨_, rfl, _, rfl, e, C, rfl, T, no _ (by simp), .inl ⟨he, fun dx nd ne => ?_⟩⟩
        exact k _ (fun b o hb z => by rw [upd_ne hb, upd_ne (ne_of_none z nd)]; exact z) (.inr ⟨dx, upd_same, by rw [upd_ne ne]; exact upd_same⟩)
  · match zs, hz with
    | [z0], _ => exact F.kwN s fun _ _ _ _ _ _ => rfl
  · match zs, hz with
    | [z0], _ => exact F.kwN s fun _ _ _ _ _ _ => rfl
theorem mk_BadPair {C fI : Addr} {fd : FuncData} (F : FunD K "__init__" "BadPair.__init__" (defArgs iBadPair) (defBody iBadPair) (defScope iBadPair) [] [] fI fd) (T : ErrC K C fI ["part"]) (g : mg "BadPair" = some (.ref C)) : ErrM P w K mg base "BadPair" C ["part"] := by
  have S : FnScope ["self", "part"] ["self", "part"] (defScope iBadPair) := ⟨rfl, rfl, rfl, by decide +kernel, rfl, by decide +kernel, by decide +kernel⟩
  refine ⟨⟨fI, fd, T, ?_, F.bindsN (fun _ _ _ _ _ _ us hl => match us, hl with | [_, _], _ => rfl), fun s a zs hz => ?_, fun s a zs hz => ?_⟩, g, T.xf, T.is, T.no⟩
  · refine F.ok S (fun vs H Q E h => ?_) (fun cdv A outer s H vs Q E hr h => ?_)
    · obtain ⟨e, C, ws, rfl, hn, _⟩ := h
      rw [List.length_cons, hn]
      rfl
    · obtain ⟨e, C, ws, rfl, hn, T, no, he, k⟩ := h
      match ws, hn with
      | [v0], _ =>
        refine ⟨_, PSs.nox (pss_one (ps_ost (pv 0) (pv 1))), ?_⟩
        refine ⟨_, rfl, _, rfl, e, C, rfl, T, no _ (by simp), .inl ⟨he, fun dx nd ne => ?_⟩⟩
        exact k _ (fun b o hb z => by rw [upd_ne hb, upd_ne (ne_of_none z nd)]; exact z) (.inr ⟨dx, upd_same, by rw [upd_ne ne]; exact upd_same⟩)
  · match zs, hz with
    | [z0], _ => exact F.kwN s fun _ _ _ _ _ _ => rfl
  · match zs, hz with
    | [z0], _ => exact F.kwN s fun _ _ _ _ _ _ => rfl
theorem mk_BadSort {C fI : Addr} {fd : FuncData} (F : FunD K "__init__" "BadSort.__init__" (defArgs iBadSort) (defBody iBadSort) (defScope iBadSort) [] [] fI fd) (T : ErrC K C fI ["part"]) (g : mg "BadSort" = some (.ref C)) : ErrM P w K mg base "BadSort" C ["part"] := by
  have S : FnScope ["self", "part"] ["self", "part"] (defScope iBadSort) := ⟨rfl, rfl, rfl, by decide +kernel, rfl, by decide +kernel, by decide +kernel⟩
  refine ⟨⟨fI, fd, T, ?_, F.bindsN (fun _ _ _ _ _ _ us hl => match us, hl with | [_, _], _ => rfl), fun s a zs hz => ?_, fun s a zs hz => ?_⟩, g, T.xf, T.is, T.no⟩
  · refine F.ok S (fun vs H Q E h => ?_) (fun cdv A outer s H vs Q E hr h => ?_)
    · obtain ⟨e, C, ws, rfl, hn, _⟩ := h
      rw [List.length_cons, hn]
      rfl
    · obtain ⟨e, C, ws, rfl, hn, T, no, he, k⟩ := h
      match ws, hn with
      | [v0], _ =>
        refine ⟨_, PSs.nox (pss_one (ps_ost (pv 0) (pv 1))), ?_⟩
        refine ⟨_, rfl, _, rfl, e, C, rfl, T, no _ (by simp), .inl ⟨he, fun dx nd ne => ?_⟩⟩
        exact k _ (fun b o hb z => by rw [upd_ne hb, upd_ne (ne_of_none z nd)]; exact z) (.inr ⟨dx, upd_same, by rw [upd_ne ne]; exact upd_same⟩)
  · match zs, hz with
    | [z0], _ => exact F.kwN s fun _ _ _ _ _ _ => rfl
  · match zs, hz with
    | [z0], _ => exact F.kwN s fun _ _ _ _ _ _ => rfl
theorem mk_BadScale {C fI : Addr} {fd : FuncData} (F : FunD K "__init__" "BadScale.__init__" (defArgs iBadScale) (defBody iBadScale) (defScope iBadScale) [] [] fI fd) (T : ErrC K C fI ["part"]) (g : mg "BadScale" = some (.ref C)) : ErrM P w K mg base "BadScale" C ["part"] := by
  have S : FnScope ["self", "part"] ["self", "part"] (defScope iBadScale) := ⟨rfl, rfl, rfl, by decide +kernel, rfl, by decide +kernel, by decide +kernel⟩
  refine ⟨⟨fI, fd, T, ?_, F.bindsN (fun _ _ _ _ _ _ us hl => match us, hl with | [_, _], _ => rfl), fun s a zs hz => ?_, fun s a zs hz => ?_⟩, g, T.xf, T.is, T.no⟩
  · refine F.ok S (fun vs H Q E h => ?_) (fun cdv A outer s H vs Q E hr h => ?_)
    · obtain ⟨e, C, ws, rfl, hn, _⟩ := h
      rw [List.length_cons, hn]
      rfl
    · obtain ⟨e, C, ws, rfl, hn, T, no, he, k⟩ := h
      match ws, hn with
      | [v0], _ =>
        refine ⟨_, PSs.nox (pss_one (ps_ost (pv 0) (pv 1))), ?_⟩
        refine ⟨_, rfl, _, rfl, e, C, rfl, T, no _ (by simp), .inl ⟨he, fun dx nd ne => ?_⟩⟩
        exact k _ (fun b o hb z => by rw [upd_ne hb, upd_ne (ne_of_none z nd)]; exact z) (.inr ⟨dx, upd_same, by rw [upd_ne ne]; exact upd_same⟩)
  · match zs, hz with
    | [z0], _ => exact F.kwN s fun _ _ _ _ _ _ => rfl
  · match zs, hz with
    | [z0], _ => exact F.kwN s fun _ _ _ _ _ _ => rfl
theorem mk_BadBook {C fI : Addr} {fd : FuncData} (F : FunD K "__init__" "BadBook.__init__" (defArgs iBadBook) (defBody iBadBook) (defScope iBadBook) [] [] fI fd) (T : ErrC K C fI ["part"]) (g : mg "BadBook" = some (.ref C)) : ErrM P w K mg base "BadBook" C ["part"] := by
  have S : FnScope ["self", "part"] ["self", "part"] (defScope iBadBook) := ⟨rfl, rfl, rfl, by decide +kernel, rfl, by decide +kernel, by decide +kernel⟩
  refine ⟨⟨fI, fd, T, ?_, F.bindsN (fun _ _ _ _ _ _ us hl => match us, hl with | [_, _], _ => rfl), fun s a zs hz => ?_, fun s a zs hz => ?_⟩, g, T.xf, T.is, T.no⟩
  · refine F.ok S (fun vs H Q E h => ?_) (fun cdv A outer s H vs Q E hr h => ?_)
    · obtain ⟨e, C, ws, rfl, hn, _⟩ := h
      rw [List.length_cons, hn]
      rfl
    · obtain ⟨e, C, ws, rfl, hn, T, no, he, k⟩ := h
      match ws, hn with
      | [v0], _ =>
        refine ⟨_, PSs.nox (pss_one (ps_ost (pv 0) (pv 1))), ?_⟩
        refine ⟨_, rfl, _, rfl, e, C, rfl, T, no _ (by simp), .inl ⟨he, fun dx nd ne => ?_⟩⟩
        exact k _ (fun b o hb z => by rw [upd_ne hb, upd_ne (ne_of_none z nd)]; exact z) (.inr ⟨dx, upd_same, by rw [upd_ne ne]; exact upd_same⟩)
  · match zs, hz with
    | [z0], _ => exact F.kwN s fun _ _ _ _ _ _ => rfl
  · match zs, hz with
    | [z0], _ => exact F.kwN s fun _ _ _ _ _ _ => rfl
theorem mk_BadSaying {C fI : Addr} {fd : FuncData} (F : FunD K "__init__" "BadSaying.__init__" (defArgs iBadSaying) (defBody iBadSaying) (defScope iBadSaying) [] [] fI fd) (T : ErrC K C fI ["part"]) (g : mg "BadSaying" = some (.ref C)) : ErrM P w K mg base "BadSaying" C ["part"] := by
  have S : FnScope ["self", "part"] ["self", "part"] (defScope iBadSaying) := ⟨rfl, rfl, rfl, by decide +kernel, rfl, by decide +kernel, by decide +kernel⟩
  refine ⟨⟨fI, fd, T, ?_, F.bindsN (fun _ _ _ _ _ _ us hl => match us, hl with | [_, _], _ => rfl), fun s a zs hz => ?_, fun s a zs hz => ?_⟩, g, T.xf, T.is, T.no⟩
  · refine F.ok S (fun vs H Q E h => ?_) (fun cdv A outer s H vs Q E hr h => ?_)
    · obtain ⟨e, C, ws, rfl, hn, _⟩ := h
      rw [List.length_cons, hn]
      rfl
    · obtain ⟨e, C, ws, rfl, hn, T, no, he, k⟩ := h
      match ws, hn with
      | [v0], _ =>
        refine ⟨_, PSs.nox (pss_one (ps_ost (pv 0) (pv 1))), ?_⟩
        refine ⟨_, rfl, _, rfl, e, C, rfl, T, no _ (by simp), .inl ⟨he, fun dx nd ne => ?_⟩⟩
        exact k _ (fun b o hb z => by rw [upd_ne hb, upd_ne (ne_of_none z nd)]; exact z) (.inr ⟨dx, upd_same, by rw [upd_ne ne]; exact upd_same⟩)
  · match zs, hz with
    | [z0], _ => exact F.kwN s fun _ _ _ _ _ _ => rfl
  · match zs, hz with
    | [z0], _ => exact F.kwN s fun _ _ _ _ _ _ => rfl
theorem mk_BadHands {C fI : Addr} {fd : FuncData} (F : FunD K "__init__" "BadHands.__init__" (defArgs iBadHands) (defBody iBadHands) (defScope iBadHands) [] [] fI fd) (T : ErrC K C fI ["part"]) (g : mg "BadHands" = some (.ref C)) : ErrM P w K mg base "BadHands" C ["part"] := by
  have S : FnScope ["self", "part"] ["self", "part"] (defScope iBadHands) := ⟨rfl, rfl, rfl, by decide +kernel, rfl, by decide +kernel, by decide +kernel⟩
  refine ⟨⟨fI, fd, T, ?_, F.bindsN (fun _ _ _ _ _ _ us hl => match us, hl with | [_, _], _ => rfl), fun s a zs hz => ?_, fun s a zs hz => ?_⟩, g, T.xf, T.is, T.no⟩
  · refine F.ok S (fun vs H Q E h => ?_) (fun cdv A outer s H vs Q E hr h => ?_)
    · obtain ⟨e, C, ws, rfl, hn, _⟩ := h
      rw [List.length_cons, hn]
      rfl
    · obtain ⟨e, C, ws, rfl, hn, T, no, he, k⟩ := h
      match ws, hn with
      | [v0], _ =>
        refine ⟨_, PSs.nox (pss_one (ps_ost (pv 0) (pv 1))), ?_⟩
        refine ⟨_, rfl, _, rfl, e, C, rfl, T, no _ (by simp), .inl ⟨he, fun dx nd ne => ?_⟩⟩
        exact k _ (fun b o hb z => by rw [upd_ne hb, upd_ne (ne_of_none z nd)]; exact z) (.inr ⟨dx, upd_same, by rw [upd_ne ne]; exact upd_same⟩)
  · match zs, hz with
    | [z0], _ => exact F.kwN s fun _ _ _ _ _ _ => rfl
  · match zs, hz with
    | [z0], _ => exact F.kwN s fun _ _ _ _ _ _ => rfl
theorem mk_BadNumber {C fI : Addr} {fd : FuncData} (F : FunD K "__init__" "BadNumber.__init__" (defArgs iBadNumber) (defBody iBadNumber) (defScope iBadNumber) [] [] fI fd) (T : ErrC K C fI ["part"]) (g : mg "BadNumber" = some (.ref C)) : ErrM P w K mg base "BadNumber" C ["part"] := by
  have S : FnScope ["self", "part"] ["self", "part"] (defScope iBadNumber) := ⟨rfl, rfl, rfl, by decide +kernel, rfl, by decide +kernel, by decide +kernel⟩
  refine ⟨⟨fI, fd, T, ?_, F.bindsN (fun _ _ _ _ _ _ us hl => match us, hl with | [_, _], _ => rfl), fun s a zs hz => ?_, fun s a zs hz => ?_⟩, g, T.xf, T.is, T.no⟩
  · refine F.ok S (fun vs H Q E h => ?_) (fun cdv A outer s H vs Q E hr h => ?_)
    · obtain ⟨e, C, ws, rfl, hn, _⟩ := h
      rw [List.length_cons, hn]
      rfl
    · obtain ⟨e, C, ws, rfl, hn, T, no, he, k⟩ := h
      match ws, hn with
      | [v0], _ =>
        refine ⟨_, PSs.nox (pss_one (ps_ost (pv 0) (pv 1))), ?_⟩
        refine ⟨_, rfl, _, rfl, e, C, rfl, T, no _ (by simp), .inl ⟨he, fun dx nd ne => ?_⟩⟩
        exact k _ (fun b o hb z => by rw [upd_ne hb, upd_ne (ne_of_none z nd)]; exact z) (.inr ⟨dx, upd_same, by rw [upd_ne ne]; exact upd_same⟩)
  · match zs, hz with
    | [z0], _ => exact F.kwN s fun _ _ _ _ _ _ => rfl
  · match zs, hz with
    | [z0], _ => exact F.kwN s fun _ _ _ _ _ _ => rfl
theorem mk_BadPaper {C fI : Addr} {fd : FuncData} (F : FunD K "__init__" "BadPaper.__init__" (defArgs iBadPaper) (defBody iBadPaper) (defScope iBadPaper) [] [] fI fd) (T : ErrC K C fI ["part"]) (g : mg "BadPaper" = some (.ref C)) : ErrM P w K mg base "BadPaper" C ["part"] := by
  have S : FnScope ["self", "part"] ["self", "part"] (defScope iBadPaper) := ⟨rfl, rfl, rfl, by decide +kernel, rfl, by decide +kernel, by decide +kernel⟩
  refine ⟨⟨fI, fd, T, ?_, F.bindsN (fun _ _ _ _ _ _ us hl => match us, hl with | [_, _], _ => rfl), fun s a zs hz => ?_, fun s a zs hz => ?_⟩, g, T.xf, T.is, T.no⟩
  · refine F.ok S (fun vs H Q E h => ?_) (fun cdv A outer s H vs Q E hr h => ?_)
    · obtain ⟨e, C, ws, rfl, hn, _⟩ := h
      rw [List.length_cons, hn]
      rfl
    · obtain ⟨e, C, ws, rfl, hn, T, no, he, k⟩ := h
      match ws, hn with
      | [v0], _ =>
        refine ⟨_, PSs.nox (pss_one (ps_ost (pv 0) (pv 1))), ?_⟩
        refine ⟨_, rfl, _, rfl, e, C, rfl, T, no _ (by simp), .inl ⟨he, fun dx nd ne => ?_⟩⟩
        exact k _ (fun b o hb z => by rw [upd_ne hb, upd_ne (ne_of_none z nd)]; exact z) (.inr ⟨dx, upd_same, by rw [upd_ne ne]; exact upd_same⟩)
  · match zs, hz with
    | [z0], _ => exact F.kwN s fun _ _ _ _ _ _ => rfl
  · match zs, hz with
    | [z0], _ => exact F.kwN s fun _ _ _ _ _ _ => rfl
theorem mk_BadLive {C fI : Addr} {fd : FuncData} (F : FunD K "__init__" "BadLive.__init__" (defArgs iBadLive) (defBody iBadLive) (defScope iBadLive) [] [] fI fd) (T : ErrC K C fI ["part"]) (g : mg "BadLive" = some (.ref C)) : ErrM P w K mg base "BadLive" C ["part"] := by
  have S : FnScope ["self", "part"] ["self", "part"] (defScope iBadLive) := ⟨rfl, rfl, rfl, by decide +kernel, rfl, by decide +kernel, by decide +kernel⟩
  refine ⟨⟨fI, fd, T, ?_, F.bindsN (fun _ _ _ _ _ _ us hl => match us, hl with | [_, _], _ => rfl), fun s a zs hz => ?_, fun s a zs hz => ?_⟩, g, T.xf, T.is, T.no⟩
  · refine F.ok S (fun vs H Q E h => ?_) (fun cdv A outer s H vs Q E hr h => ?_)
    · obtain ⟨e, C, ws, rfl, hn, _⟩ := h
      rw [List.length_cons, hn]
      rfl
    · obtain ⟨e, C, ws, rfl, hn, T, no, he, k⟩ := h
      match ws, hn with
      | [v0], _ =>
        refine ⟨_, PSs.nox (pss_one (ps_ost (pv 0) (pv 1))), ?_⟩
        refine ⟨_, rfl, _, rfl, e, C, rfl, T, no _ (by simp), .inl ⟨he, fun dx nd ne => ?_⟩⟩
        exact k _ (fun b o hb z => by rw [upd_ne hb, upd_ne (ne_of_none z nd)]; exact z) (.inr ⟨dx, upd_same, by rw [upd_ne ne]; exact upd_same⟩)
  · match zs, hz with
    | [z0], _ => exact F.kwN s fun _ _ _ _ _ _ => rfl
  · match zs, hz with
    | [z0], _ => exact F.kwN s fun _ _ _ _ _ _ => rfl
theorem mk_BadDesk {C fI : Addr} {fd : FuncData} (F : FunD K "__init__" "BadDesk.__init__" (defArgs iBadDesk) (defBody iBadDesk) (defScope iBadDesk) [] [] fI fd) (T : ErrC K C fI ["part"]) (g : mg "BadDesk" = some (.ref C)) : ErrM P w K mg base "BadDesk" C ["part"] := by
  have S : FnScope ["self", "part"] ["self", "part"] (defScope iBadDesk) := ⟨rfl, rfl, rfl, by decide +kernel, rfl, by decide +kernel, by decide +kernel⟩
  refine ⟨⟨fI, fd, T, ?_, F.bindsN (fun _ _ _ _ _ _ us hl => match us, hl with | [_, _], _ => rfl), fun s a zs hz => ?_, fun s a zs hz => ?_⟩, g, T.xf, T.is, T.no⟩
  · refine F.ok S (fun vs H Q E h => ?_) (fun cdv A outer s H vs Q E hr h => ?_)
    · obtain ⟨e, C, ws, rfl, hn, _⟩ := h
      rw [List.length_cons, hn]
      rfl
    · obtain ⟨e, C, ws, rfl, hn, T, no, he, k⟩ := h
      match ws, hn with
      | [v0], _ =>
        refine ⟨_, PSs.nox (pss_one (ps_ost (pv 0) (pv 1))), ?_⟩
        refine ⟨_, rfl, _, rfl, e, C, rfl, T, no _ (by simp), .inl ⟨he, fun dx nd ne => ?_⟩⟩
        exact k _ (fun b o hb z => by rw [upd_ne hb, upd_ne (ne_of_none z nd)]; exact z) (.inr ⟨dx, upd_same, by rw [upd_ne ne]; exact upd_same⟩)
  · match zs, hz with
    | [z0], _ => exact F.kwN s fun _ _ _ _ _ _ => rfl
  · match zs, hz with
    | [z0], _ => exact F.kwN s fun _ _ _ _ _ _ => rfl
theorem mk_BadOrder {C fI : Addr} {fd : FuncData} (F : FunD K "__init__" "BadOrder.__init__" (defArgs iBadOrder) (defBody iBadOrder) (defScope iBadOrder) [] [] fI fd) (T : ErrC K C fI ["part"]) (g : mg "BadOrder" = some (.ref C)) : ErrM P w K mg base "BadOrder" C ["part"] := by
  have S : FnScope ["self", "part"] ["self", "part"] (defScope iBadOrder) := ⟨rfl, rfl, rfl, by decide +kernel, rfl, by decide +kernel, by decide +kernel⟩
  refine ⟨⟨fI, fd, T, ?_, F.bindsN (fun _ _ _ _ _ _ us hl => match us, hl with | [_, _], _ => rfl), fun s a zs hz => ?_, fun s a zs hz => ?_⟩, g, T.xf, T.is, T.no⟩
  · refine F.ok S (fun vs H Q E h => ?_) (fun cdv A outer s H vs Q E hr h => ?_)
    · obtain ⟨e, C, ws, rfl, hn, _⟩ := h
      rw [List.length_cons, hn]
      rfl
    · obtain ⟨e, C, ws, rfl, hn, T, no, he, k⟩ := h
      match ws, hn with
      | [v0], _ =>
        refine ⟨_, PSs.nox (pss_one (ps_ost (pv 0) (pv 1))), ?_⟩
        refine ⟨_, rfl, _, rfl, e, C, rfl, T, no _ (by simp), .inl ⟨he, fun dx nd ne => ?_⟩⟩
        exact k _ (fun b o hb z => by rw [upd_ne hb, upd_ne (ne_of_none z nd)]; exact z) (.inr ⟨dx, upd_same, by rw [upd_ne ne]; exact upd_same⟩)
  · match zs, hz with
    | [z0], _ => exact F.kwN s fun _ _ _ _ _ _ => rfl
  · match zs, hz with
    | [z0], _ => exact F.kwN s fun _ _ _ _ _ _ => rfl
theorem mk_NoThing {C fI : Addr} {fd : FuncData} (F : FunD K "__init__" "NoThing.__init__" (defArgs iNoThing) (defBody iNoThing) (defScope iNoThing) [] [] fI fd) (T : ErrC K C fI ["name"]) (g : mg "NoThing" = some (.ref C)) : ErrM P w K mg base "NoThing" C ["name"] := by
  have S : FnScope ["self", "name"] ["self", "name"] (defScope iNoThing) := ⟨rfl, rfl, rfl, by decide +kernel, rfl, by decide +kernel, by decide +kernel⟩
  refine ⟨⟨fI, fd, T, ?_, F.bindsN (fun _ _ _ _ _ _ us hl => match us, hl with | [_, _], _ => rfl), fun s a zs hz => ?_, fun s a zs hz => ?_⟩, g, T.xf, T.is, T.no⟩
  · refine F.ok S (fun vs H Q E h => ?_) (fun cdv A outer s H vs Q E hr h => ?_)
    · obtain ⟨e, C, ws, rfl, hn, _⟩ := h
      rw [List.length_cons, hn]
      rfl
    · obtain ⟨e, C, ws, rfl, hn, T, no, he, k⟩ := h
      match ws, hn with
      | [v0], _ =>
        refine ⟨_, PSs.nox (pss_one (ps_ost (pv 0) (pv 1))), ?_⟩
        refine ⟨_, rfl, _, rfl, e, C, rfl, T, no _ (by simp), .inl ⟨he, fun dx nd ne => ?_⟩⟩
        exact k _ (fun b o hb z => by rw [upd_ne hb, upd_ne (ne_of_none z nd)]; exact z) (.inr ⟨dx, upd_same, by rw [upd_ne ne]; exact upd_same⟩)
  · match zs, hz with
    | [z0], _ => exact F.kwN s fun _ _ _ _ _ _ => rfl
  · match zs, hz with
    | [z0], _ => exact F.kwN s fun _ _ _ _ _ _ => rfl
theorem mk_NoName {C fI : Addr} {fd : FuncData} (F : FunD K "__init__" "NoName.__init__" (defArgs iNoName) (defBody iNoName) (defScope iNoName) [] [] fI fd) (T : ErrC K C fI ["name"]) (g : mg "NoName" = some (.ref C)) : ErrM P w K mg base "NoName" C ["name"] := by
  have S : FnScope ["self", "name"] ["self", "name"] (defScope iNoName) := ⟨rfl, rfl, rfl, by decide +kernel, rfl, by decide +kernel, by decide +kernel⟩
  refine ⟨⟨fI, fd, T, ?_, F.bindsN (fun _ _ _ _ _ _ us hl => match us, hl with | [_, _], _ => rfl), fun s a zs hz => ?_, fun s a zs hz => ?_⟩, g, T.xf, T.is, T.no⟩
  · refine F.ok S (fun vs H Q E h => ?_) (fun cdv A outer s H vs Q E hr h => ?_)
    · obtain ⟨e, C, ws, rfl, hn, _⟩ := h
      rw [List.length_cons, hn]
      rfl
    · obtain ⟨e, C, ws, rfl, hn, T, no, he, k⟩ := h
      match ws, hn with
      | [v0], _ =>
        refine ⟨_, PSs.nox (pss_one (ps_ost (pv 0) (pv 1))), ?_⟩
        refine ⟨_, rfl, _, rfl, e, C, rfl, T, no _ (by simp), .inl ⟨he, fun dx nd ne => ?_⟩⟩
        exact k _ (fun b o hb z => by rw [upd_ne hb, upd_ne (ne_of_none z nd)]; exact z) (.inr ⟨dx, upd_same, by rw [upd_ne ne]; exact upd_same⟩)
  · match zs, hz with
    | [z0], _ => exact F.kwN s fun _ _ _ _ _ _ => rfl
  · match zs, hz with
    | [z0], _ => exact F.kwN s fun _ _ _ _ _ _ => rfl
theorem mk_Twice {C fI : Addr} {fd : FuncData} (F : FunD K "__init__" "Twice.__init__" (defArgs iTwice) (defBody iTwice) (defScope iTwice) [] [] fI fd) (T : ErrC K C fI ["name"]) (g : mg "Twice" = some (.ref C)) : ErrM P w K mg base "Twice" C ["name"] := by
  have S : FnScope ["self", "name"] ["self", "name"] (defScope iTwice) := ⟨rfl, rfl, rfl, by decide +kernel, rfl, by decide +kernel, by decide +kernel⟩
  refine ⟨⟨fI, fd, T, ?_, F.bindsN (fun _ _ _ _ _ _ us hl => match us, hl with | [_, _], _ => rfl), fun s a zs hz => ?_, fun s a zs hz => ?_⟩, g, T.xf, T.is, T.no⟩
  · refine F.ok S (fun vs H Q E h => ?_) (fun cdv A outer s H vs Q E hr h => ?_)
    · obtain ⟨e, C, ws, rfl, hn, _⟩ := h
      rw [List.length_cons, hn]
      rfl
    · obtain ⟨e, C, ws, rfl, hn, T, no, he, k⟩ := h
      match ws, hn with
      | [v0], _ =>
        refine ⟨_, PSs.nox (pss_one (ps_ost (pv 0) (pv 1))), ?_⟩
        refine ⟨_, rfl, _, rfl, e, C, rfl, T, no _ (by simp), .inl ⟨he, fun dx nd ne => ?_⟩⟩
        exact k _ (fun b o hb z => by rw [upd_ne hb, upd_ne (ne_of_none z nd)]; exact z) (.inr ⟨dx, upd_same, by rw [upd_ne ne]; exact upd_same⟩)
  · match zs, hz with
    | [z0], _ => exact F.kwN s fun _ _ _ _ _ _ => rfl
  · match zs, hz with
    | [z0], _ => exact F.kwN s fun _ _ _ _ _ _ => rfl
theorem mk_NoPair {C fI : Addr} {fd : FuncData} (F : FunD K "__init__" "NoPair.__init__" (defArgs iNoPair) (defBody iNoPair) (defScope iNoPair) [] [] fI fd) (T : ErrC K C fI ["pair"]) (g : mg "NoPair" = some (.ref C)) : ErrM P w K mg base "NoPair" C ["pair"] := by
  have S : FnScope ["self", "pair"] ["self", "pair"] (defScope iNoPair) := ⟨rfl, rfl, rfl, by decide +kernel, rfl, by decide +kernel, by decide +kernel⟩
  refine ⟨⟨fI, fd, T, ?_, F.bindsN (fun _ _ _ _ _ _ us hl => match us, hl with | [_, _], _ => rfl), fun s a zs hz => ?_, fun s a zs hz => ?_⟩, g, T.xf, T.is, T.no⟩
  · refine F.ok S (fun vs H Q E h => ?_) (fun cdv A outer s H vs Q E hr h => ?_)
    · obtain ⟨e, C, ws, rfl, hn, _⟩ := h
      rw [List.length_cons, hn]
      rfl
    · obtain ⟨e, C, ws, rfl, hn, T, no, he, k⟩ := h
      match ws, hn with
      | [v0], _ =>
        refine ⟨_, PSs.nox (pss_one (ps_ost (pv 0) (pv 1))), ?_⟩
        refine ⟨_, rfl, _, rfl, e, C, rfl, T, no _ (by simp), .inl ⟨he, fun dx nd ne => ?_⟩⟩
        exact k _ (fun b o hb z => by rw [upd_ne hb, upd_ne (ne_of_none z nd)]; exact z) (.inr ⟨dx, upd_same, by rw [upd_ne ne]; exact upd_same⟩)
  · match zs, hz with
    | [z0], _ => exact F.kwN s fun _ _ _ _ _ _ => rfl
  · match zs, hz with
    | [z0], _ => exact F.kwN s fun _ _ _ _ _ _ => rfl
theorem mk_Unlike {C fI : Addr} {fd : FuncData} (F : FunD K "__init__" "Unlike.__init__" (defArgs iUnlike) (defBody iUnlike) (defScope iUnlike) [] [] fI fd) (T : ErrC K C fI ["what"]) (g : mg "Unlike" = some (.ref C)) : ErrM P w K mg base "Unlike" C ["what"] := by
  have S : FnScope ["self", "what"] ["self", "what"] (defScope iUnlike) := ⟨rfl, rfl, rfl, by decide +kernel, rfl, by decide +kernel, by decide +kernel⟩
  refine ⟨⟨fI, fd, T, ?_, F.bindsN (fun _ _ _ _ _ _ us hl => match us, hl with | [_, _], _ => rfl), fun s a zs hz => ?_, fun s a zs hz => ?_⟩, g, T.xf, T.is, T.no⟩
  · refine F.ok S (fun vs H Q E h => ?_) (fun cdv A outer s H vs Q E hr h => ?_)
    · obtain ⟨e, C, ws, rfl, hn, _⟩ := h
      rw [List.length_cons, hn]
      rfl
    · obtain ⟨e, C, ws, rfl, hn, T, no, he, k⟩ := h
      match ws, hn with
      | [v0], _ =>
        refine ⟨_, PSs.nox (pss_one (ps_ost (pv 0) (pv 1))), ?_⟩
        refine ⟨_, rfl, _, rfl, e, C, rfl, T, no _ (by simp), .inl ⟨he, fun dx nd ne => ?_⟩⟩
        exact k _ (fun b o hb z => by rw [upd_ne hb, upd_ne (ne_of_none z nd)]; exact z) (.inr ⟨dx, upd_same, by rw [upd_ne ne]; exact upd_same⟩)
  · match zs, hz with
    | [z0], _ => exact F.kwN s fun _ _ _ _ _ _ => rfl
  · match zs, hz with
    | [z0], _ => exact F.kwN s fun _ _ _ _ _ _ => rfl
theorem mk_Impossible {C fI : Addr} {fd : FuncData} (F : FunD K "__init__" "Impossible.__init__" (defArgs iImpossible) (defBody iImpossible) (defScope iImpossible) [] [] fI fd) (T : ErrC K C fI ["paper"]) (g : mg "Impossible" = some (.ref C)) : ErrM P w K mg base "Impossible" C ["paper"] := by
  have S : FnScope ["self", "paper"] ["self", "paper"] (defScope iImpossible) := ⟨rfl, rfl, rfl, by decide +kernel, rfl, by decide +kernel, by decide +kernel⟩
  refine ⟨⟨fI, fd, T, ?_, F.bindsN (fun _ _ _ _ _ _ us hl => match us, hl with | [_, _], _ => rfl), fun s a zs hz => ?_, fun s a zs hz => ?_⟩, g, T.xf, T.is, T.no⟩
  · refine F.ok S (fun vs H Q E h => ?_) (fun cdv A outer s H vs Q E hr h => ?_)
    · obtain ⟨e, C, ws, rfl, hn, _⟩ := h
      rw [List.length_cons, hn]
      rfl
    · obtain ⟨e, C, ws, rfl, hn, T, no, he, k⟩ := h
      match ws, hn with
      | [v0], _ =>
        refine ⟨_, PSs.nox (pss_one (ps_ost (pv 0) (pv 1))), ?_⟩
        refine ⟨_, rfl, _, rfl, e, C, rfl, T, no _ (by simp), .inl ⟨he, fun dx nd ne => ?_⟩⟩
        exact k _ (fun b o hb z => by rw [upd_ne hb, upd_ne (ne_of_none z nd)]; exact z) (.inr ⟨dx, upd_same, by rw [upd_ne ne]; exact upd_same⟩)
  · match zs, hz with
    | [z0], _ => exact F.kwN s fun _ _ _ _ _ _ => rfl
  · match zs, hz with
    | [z0], _ => exact F.kwN s fun _ _ _ _ _ _ => rfl
theorem mk_NotAbove {C fI : Addr} {fd : FuncData} (F : FunD K "__init__" "NotAbove.__init__" (defArgs iNotAbove) (defBody iNotAbove) (defScope iNotAbove) [] [] fI fd) (T : ErrC K C fI ["scale"]) (g : mg "NotAbove" = some (.ref C)) : ErrM P w K mg base "NotAbove" C ["scale"] := by
  have S : FnScope ["self", "scale"] ["self", "scale"] (defScope iNotAbove) := ⟨rfl, rfl, rfl, by decide +kernel, rfl, by decide +kernel, by decide +kernel⟩
  refine ⟨⟨fI, fd, T, ?_, F.bindsN (fun _ _ _ _ _ _ us hl => match us, hl with | [_, _], _ => rfl), fun s a zs hz => ?_, fun s a zs hz => ?_⟩, g, T.xf, T.is, T.no⟩
  · refine F.ok S (fun vs H Q E h => ?_) (fun cdv A outer s H vs Q E hr h => ?_)
    · obtain ⟨e, C, ws, rfl, hn, _⟩ := h
      rw [List.length_cons, hn]
      rfl
    · obtain ⟨e, C, ws, rfl, hn, T, no, he, k⟩ := h
      match ws, hn with
      | [v0], _ =>
        refine ⟨_, PSs.nox (pss_one (ps_ost (pv 0) (pv 1))), ?_⟩
        refine ⟨_, rfl, _, rfl, e, C, rfl, T, no _ (by simp), .inl ⟨he, fun dx nd ne => ?_⟩⟩
        exact k _ (fun b o hb z => by rw [upd_ne hb, upd_ne (ne_of_none z nd)]; exact z) (.inr ⟨dx, upd_same, by rw [upd_ne ne]; exact upd_same⟩)
  · match zs, hz with
    | [z0], _ => exact F.kwN s fun _ _ _ _ _ _ => rfl
  · match zs, hz with
    | [z0], _ => exact F.kwN s fun _ _ _ _ _ _ => rfl
theorem mk_NotCarried {C fI : Addr} {fd : FuncData} (F : FunD K "__init__" "NotCarried.__init__" (defArgs iNotCarried) (defBody iNotCarried) (defScope iNotCarried) [] [] fI fd) (T : ErrC K C fI ["one", "other"]) (g : mg "NotCarried" = some (.ref C)) : ErrM P w K mg base "NotCarried" C ["one", "other"] := by
  have S : FnScope ["self", "one", "other"] ["self", "one", "other"] (defScope iNotCarried) := ⟨rfl, rfl, rfl, by decide +kernel, rfl, by decide +kernel, by decide +kernel⟩
  refine ⟨⟨fI, fd, T, ?_, F.bindsN (fun _ _ _ _ _ _ us hl => match us, hl with | [_, _, _], _ => rfl), fun s a zs hz => ?_, fun s a zs hz => ?_⟩, g, T.xf, T.is, T.no⟩
  · refine F.ok S (fun vs H Q E h => ?_) (fun cdv A outer s H vs Q E hr h => ?_)
    · obtain ⟨e, C, ws, rfl, hn, _⟩ := h
      rw [List.length_cons, hn]
      rfl
    · obtain ⟨e, C, ws, rfl, hn, T, no, he, k⟩ := h
      match ws, hn with
      | [v0, v1], _ =>
        refine ⟨_, PSs.nox (pss_cons (ps_ost (pv 0) (pv 1)) (pss_one (ps_ost (pv 0) (pv 2)))), ?_⟩
        refine ⟨_, rfl, _, rfl, e, C, rfl, T, no _ (by simp), .inl ⟨he, fun dx nd ne => ?_⟩⟩
        refine ⟨_, rfl, _, rfl, e, C, rfl, T, no _ (by simp), .inr ⟨dx, _, upd_same, by rw [upd_ne ne]; exact upd_same, by show 1 ≤ 900; decide, ?_⟩⟩
        exact k _ (fun b o hb z => by rw [upd_ne (ne_of_none z nd), upd_ne hb, upd_ne (ne_of_none z nd)]; exact z) (.inr ⟨dx, by rw [upd_ne ne.symm]; exact upd_same, upd_same⟩)
  · match zs, hz with
    | [z0, z1], _ => exact F.kwN s fun _ _ _ _ _ _ => rfl
  · match zs, hz with
    | [z0, z1], _ => exact F.kwN s fun _ _ _ _ _ _ => rfl
theorem mk_Hanging {C fI : Addr} {fd : FuncData} (F : FunD K "__init__" "Hanging.__init__" (defArgs iHanging) (defBody iHanging) (defScope iHanging) [] [] fI fd) (T : ErrC K C fI ["kept", "broken"]) (g : mg "Hanging" = some (.ref C)) : ErrM P w K mg base "Hanging" C ["kept", "broken"] := by
  have S : FnScope ["self", "kept", "broken"] ["self", "kept", "broken"] (defScope iHanging) := ⟨rfl, rfl, rfl, by decide +kernel, rfl, by decide +kernel, by decide +kernel⟩
  refine ⟨⟨fI, fd, T, ?_, F.bindsN (fun _ _ _ _ _ _ us hl => match us, hl with | [_, _, _], _ => rfl), fun s a zs hz => ?_, fun s a zs hz => ?_⟩, g, T.xf, T.is, T.no⟩
  · refine F.ok S (fun vs H Q E h => ?_) (fun cdv A outer s H vs Q E hr h => ?_)
    · obtain ⟨e, C, ws, rfl, hn, _⟩ := h
      rw [List.length_cons, hn]
      rfl
    · obtain ⟨e, C, ws, rfl, hn, T, no, he, k⟩ := h
      match ws, hn with
      | [v0, v1], _ =>
        refine ⟨_, PSs.nox (pss_cons (ps_ost (pv 0) (pv 1)) (pss_one (ps_ost (pv 0) (pv 2)))), ?_⟩
        refine ⟨_, rfl, _, rfl, e, C, rfl, T, no _ (by simp), .inl ⟨he, fun dx nd ne => ?_⟩⟩
        refine ⟨_, rfl, _, rfl, e, C, rfl, T, no _ (by simp), .inr ⟨dx, _, upd_same, by rw [upd_ne ne]; exact upd_same, by show 1 ≤ 900; decide, ?_⟩⟩
        exact k _ (fun b o hb z => by rw [upd_ne (ne_of_none z nd), upd_ne hb, upd_ne (ne_of_none z nd)]; exact z) (.inr ⟨dx, by rw [upd_ne ne.symm]; exact upd_same, upd_same⟩)
  · match zs, hz with
    | [z0, z1], _ => exact F.kwN s fun _ _ _ _ _ _ => rfl
  · match zs, hz with
    | [z0, z1], _ => exact F.kwN s fun _ _ _ _ _ _ => rfl
theorem mk_TooMany {C fI : Addr} {fd : FuncData} (F : FunD K "__init__" "TooMany.__init__" (defArgs iTooMany) (defBody iTooMany) (defScope iTooMany) [] [] fI fd) (T : ErrC K C fI ["what", "most"]) (g : mg "TooMany" = some (.ref C)) : ErrM P w K mg base "TooMany" C ["what", "most"] := by
  have S : FnScope ["self", "what", "most"] ["self", "what", "most"] (defScope iTooMany) := ⟨rfl, rfl, rfl, by decide +kernel, rfl, by decide +kernel, by decide +kernel⟩
  refine ⟨⟨fI, fd, T, ?_, F.bindsN (fun _ _ _ _ _ _ us hl => match us, hl with | [_, _, _], _ => rfl), fun s a zs hz => ?_, fun s a zs hz => ?_⟩, g, T.xf, T.is, T.no⟩
  · refine F.ok S (fun vs H Q E h => ?_) (fun cdv A outer s H vs Q E hr h => ?_)
    · obtain ⟨e, C, ws, rfl, hn, _⟩ := h
      rw [List.length_cons, hn]
      rfl
    · obtain ⟨e, C, ws, rfl, hn, T, no, he, k⟩ := h
      match ws, hn with
      | [v0, v1], _ =>
        refine ⟨_, PSs.nox (pss_cons (ps_ost (pv 0) (pv 1)) (pss_one (ps_ost (pv 0) (pv 2)))), ?_⟩
        refine ⟨_, rfl, _, rfl, e, C, rfl, T, no _ (by simp), .inl ⟨he, fun dx nd ne => ?_⟩⟩
        refine ⟨_, rfl, _, rfl, e, C, rfl, T, no _ (by simp), .inr ⟨dx, _, upd_same, by rw [upd_ne ne]; exact upd_same, by show 1 ≤ 900; decide, ?_⟩⟩
        exact k _ (fun b o hb z => by rw [upd_ne (ne_of_none z nd), upd_ne hb, upd_ne (ne_of_none z nd)]; exact z) (.inr ⟨dx, by rw [upd_ne ne.symm]; exact upd_same, upd_same⟩)
  · match zs, hz with
    | [z0, z1], _ => exact F.kwN s fun _ _ _ _ _ _ => rfl
  · match zs, hz with
    | [z0, z1], _ => exact F.kwN s fun _ _ _ _ _ _ => rfl
theorem mk_BadText {C fI : Addr} {fd : FuncData} (F : FunD K "__init__" "BadText.__init__" (defArgs iBadText) (defBody iBadText) (defScope iBadText) [] [] fI fd) (T : ErrC K C fI ["line", "word"]) (g : mg "BadText" = some (.ref C)) : ErrM P w K mg base "BadText" C ["line", "word"] := by
  have S : FnScope ["self", "line", "word"] ["self", "line", "word"] (defScope iBadText) := ⟨rfl, rfl, rfl, by decide +kernel, rfl, by decide +kernel, by decide +kernel⟩
  refine ⟨⟨fI, fd, T, ?_, F.bindsN (fun _ _ _ _ _ _ us hl => match us, hl with | [_, _, _], _ => rfl), fun s a zs hz => ?_, fun s a zs hz => ?_⟩, g, T.xf, T.is, T.no⟩
  · refine F.ok S (fun vs H Q E h => ?_) (fun cdv A outer s H vs Q E hr h => ?_)
    · obtain ⟨e, C, ws, rfl, hn, _⟩ := h
      rw [List.length_cons, hn]
      rfl
    · obtain ⟨e, C, ws, rfl, hn, T, no, he, k⟩ := h
      match ws, hn with
      | [v0, v1], _ =>
        refine ⟨_, PSs.nox (pss_cons (ps_ost (pv 0) (pv 1)) (pss_one (ps_ost (pv 0) (pv 2)))), ?_⟩
        refine ⟨_, rfl, _, rfl, e, C, rfl, T, no _ (by simp), .inl ⟨he, fun dx nd ne => ?_⟩⟩
        refine ⟨_, rfl, _, rfl, e, C, rfl, T, no _ (by simp), .inr ⟨dx, _, upd_same, by rw [upd_ne ne]; exact upd_same, by show 1 ≤ 900; decide, ?_⟩⟩
        exact k _ (fun b o hb z => by rw [upd_ne (ne_of_none z nd), upd_ne hb, upd_ne (ne_of_none z nd)]; exact z) (.inr ⟨dx, by rw [upd_ne ne.symm]; exact upd_same, upd_same⟩)
  · match zs, hz with
    | [z0, z1], _ => exact F.kwN s fun _ _ _ _ _ _ => rfl
  · match zs, hz with
    | [z0, z1], _ => exact F.kwN s fun _ _ _ _ _ _ => rfl
theorem mk_BadLine {C fI : Addr} {fd : FuncData} (F : FunD K "__init__" "BadLine.__init__" (defArgs iBadLine) (defBody iBadLine) (defScope iBadLine) [] [] fI fd) (T : ErrC K C fI ["line", "error"]) (g : mg "BadLine" = some (.ref C)) : ErrM P w K mg base "BadLine" C ["line", "error"] := by
  have S : FnScope ["self", "line", "error"] ["self", "line", "error"] (defScope iBadLine) := ⟨rfl, rfl, rfl, by decide +kernel, rfl, by decide +kernel, by decide +kernel⟩
  refine ⟨⟨fI, fd, T, ?_, F.bindsN (fun _ _ _ _ _ _ us hl => match us, hl with | [_, _, _], _ => rfl), fun s a zs hz => ?_, fun s a zs hz => ?_⟩, g, T.xf, T.is, T.no⟩
  · refine F.ok S (fun vs H Q E h => ?_) (fun cdv A outer s H vs Q E hr h => ?_)
    · obtain ⟨e, C, ws, rfl, hn, _⟩ := h
      rw [List.length_cons, hn]
      rfl
    · obtain ⟨e, C, ws, rfl, hn, T, no, he, k⟩ := h
      match ws, hn with
      | [v0, v1], _ =>
        refine ⟨_, PSs.nox (pss_cons (ps_ost (pv 0) (pv 1)) (pss_one (ps_ost (pv 0) (pv 2)))), ?_⟩
        refine ⟨_, rfl, _, rfl, e, C, rfl, T, no _ (by simp), .inl ⟨he, fun dx nd ne => ?_⟩⟩
        refine ⟨_, rfl, _, rfl, e, C, rfl, T, no _ (by simp), .inr ⟨dx, _, upd_same, by rw [upd_ne ne]; exact upd_same, by show 1 ≤ 900; decide, ?_⟩⟩
        exact k _ (fun b o hb z => by rw [upd_ne (ne_of_none z nd), upd_ne hb, upd_ne (ne_of_none z nd)]; exact z) (.inr ⟨dx, by rw [upd_ne ne.symm]; exact upd_same, upd_same⟩)
  · match zs, hz with
    | [z0, z1], _ => exact F.kwN s fun _ _ _ _ _ _ => rfl
  · match zs, hz with
    | [z0, z1], _ => exact F.kwN s fun _ _ _ _ _ _ => rfl
theorem mk_Nothing {C fI : Addr} {fd : FuncData} (F : FunD K "__init__" "Nothing.__init__" (defArgs iNothing) (defBody iNothing) (defScope iNothing) [] [] fI fd) (T : ErrC K C fI []) (g : mg "Nothing" = some (.ref C)) : ErrM P w K mg base "Nothing" C [] := by
  have S : FnScope ["self"] ["self"] (defScope iNothing) := ⟨rfl, rfl, rfl, by decide +kernel, rfl, by decide +kernel, by decide +kernel⟩
  refine ⟨⟨fI, fd, T, ?_, F.bindsN (fun _ _ _ _ _ _ us hl => match us, hl with | [_], _ => rfl), fun s a zs hz => ?_, fun s a zs hz => ?_⟩, g, T.xf, T.is, T.no⟩
  · refine F.ok S (fun vs H Q E h => ?_) (fun cdv A outer s H vs Q E hr h => ?_)
    · obtain ⟨e, C, ws, rfl, hn, _⟩ := h
      rw [List.length_cons, hn]
      rfl
    · obtain ⟨e, C, ws, rfl, hn, T, no, he, k⟩ := h
      match ws, hn with
      | [], _ =>
        exact ⟨_, PSs.nox (pss_one ps_pass), k H (fun b o _ z => z) (.inl ⟨rfl, he⟩)⟩
  · match zs, hz with
    | [], _ => exact F.kwN s fun _ _ _ _ _ _ => rfl
  · match zs, hz with
    | [], _ => exact F.kwN s fun _ _ _ _ _ _ => rfl
theorem mk_Missing {C fI : Addr} {fd : FuncData} (F : FunD K "__init__" "Missing.__init__" (defArgs iMissing) (defBody iMissing) (defScope iMissing) [] [] fI fd) (T : ErrC K C fI ["name"]) (g : mg "Missing" = some (.ref C)) : ErrM P w K mg base "Missing" C ["name"] := by
  have S : FnScope ["self", "name"] ["self", "name"] (defScope iMissing) := ⟨rfl, rfl, rfl, by decide +kernel, rfl, by decide +kernel, by decide +kernel⟩
  refine ⟨⟨fI, fd, T, ?_, F.bindsN (fun _ _ _ _ _ _ us hl => match us, hl with | [_, _], _ => rfl), fun s a zs hz => ?_, fun s a zs hz => ?_⟩, g, T.xf, T.is, T.no⟩
  · refine F.ok S (fun vs H Q E h => ?_) (fun cdv A outer s H vs Q E hr h => ?_)
    · obtain ⟨e, C, ws, rfl, hn, _⟩ := h
      rw [List.length_cons, hn]
      rfl
    · obtain ⟨e, C, ws, rfl, hn, T, no, he, k⟩ := h
      match ws, hn with
      | [v0], _ =>
        refine ⟨_, PSs.nox (pss_one (ps_ost (pv 0) (pv 1))), ?_⟩
        refine ⟨_, rfl, _, rfl, e, C, rfl, T, no _ (by simp), .inl ⟨he, fun dx nd ne => ?_⟩⟩
        exact k _ (fun b o hb z => by rw [upd_ne hb, upd_ne (ne_of_none z nd)]; exact z) (.inr ⟨dx, upd_same, by rw [upd_ne ne]; exact upd_same⟩)
  · match zs, hz with
    | [z0], _ => exact F.kwN s fun _ _ _ _ _ _ => rfl
  · match zs, hz with
    | [z0], _ => exact F.kwN s fun _ _ _ _ _ _ => rfl
end
end K00
namespace L2
open PySem PySem.Spec PyProof.Rows
/-! ### several errors, made one behind another -/
abbrev Errs (H : Hp) : List Addr → List (Addr × List (Str × V)) → Prop := Paired fun e d => ErrAt H e d.1 d.2
theorem Errs.same {H H' : Hp} (s : Same H H') : ∀ {es : List Addr} {D : List (Addr × List (Str × V))}, Errs H es D → Errs H' es D
  | _, _, .nil => .nil
  | _, _, .cons h t => .cons (h.same s) (Errs.same s t)
theorem Errs.app {H : Hp} : ∀ {es es' : List Addr} {D D' : List (Addr × List (Str × V))}, Errs H es D → Errs H es' D' → Errs H (es ++ es') (D ++ D')
  | _, _, _, _, .nil, h => h
  | _, _, _, _, .cons a t, h => .cons a (Errs.app t h)
def ErrsRead (t : TA) (σ : St) (D : List (Addr × List (Str × V))) : Prop := ∀ (H : Hp) (Q : List V → Hp → Prop), (∀ es H', Same H H' → Errs H' es D → Q (es.map V.ref) H') → t σ H Q
theorem errs_nil {σ : St} : ErrsRead tNil σ [] := fun H Q k => k [] H (Same.refl H) .nil
theorem errs_cons {σ : St} {C : Addr} {ks : List Str} {ord : List V → List V} {ta r : TA} {D : List (Addr × List (Str × V))} (vs : List V) (hta : ∀ H Q, Q vs H → ta σ H Q) (hl : vs.length = ks.length) (hr : ErrsRead r σ D) :
    ErrsRead (tCons (tErr C ks ord ta) r) σ ((C, (ks.zip (ord vs)).reverse) :: D) := fun H Q k =>
  hta H _ ⟨hl, fun e H2 n s ea => hr H2 _ fun es H' s' he => k (e :: es) H' (s.trans s') (.cons (ea.same s') he)⟩
/-- a display of errors -/
theorem disp {σ : St} {T : TA} {D : List (Addr × List (Str × V))} {H : Hp} {Q : VK} (er : ErrsRead T σ D) (hD : D.length ≤ 100)
    (k : ∀ (es : List Addr) (l : Addr) (H' : Hp), Same H H' → H' l = some (.lst (es.map V.ref)) → Errs H' es D → Q (.ref l) H') : tLst T σ H Q :=
  er H _ fun es H1 s1 e1 => ⟨by rw [List.length_map, Paired.length e1, sizeLine_eq]; omega, fun l nl => by
    have s2 : Same H1 (upd H1 l (.lst (es.map V.ref))) := fun b x e => by rw [upd_ne (ne_of_none e nl)]; exact e
    exact k es l _ (s1.trans s2) upd_same (e1.same s2)⟩
/-- a list of errors and a display of errors, added up -/
theorem disp_cat {σ : St} {T : TA} {D0 D : List (Addr × List (Str × V))} {H : Hp} {Q : VK} {l0 : Addr} {es0 : List Addr} (er : ErrsRead T σ D) (h0 : H l0 = some (.lst (es0.map V.ref))) (e0 : Errs H es0 D0) (hD : D0.length + D.length ≤ 100)
    (k : ∀ (es : List Addr) (l : Addr) (H' : Hp), Same H H' → H' l = some (.lst (es.map V.ref)) → Errs H' es (D0 ++ D) → Q (.ref l) H') : tLst T σ H fun y H2 => rCat (.ref l0) y H2 Q := by
  refine disp er (by omega) fun es l H1 s1 hl e1 => ?_
  refine ⟨l0, l, _, _, rfl, rfl, s1 _ _ h0, hl, ?_, fun p np => ?_⟩
  · rw [List.length_map, List.length_map, Paired.length e1, Paired.length e0, sizeLine_eq]
    omega
  · have s2 : Same H1 (upd H1 p (.lst (es0.map V.ref ++ es.map V.ref))) := fun b x e => by rw [upd_ne (ne_of_none e np)]; exact e
    exact k (es0 ++ es) p _ (s1.trans s2) (by rw [upd_same, List.map_append]) (((e0.same s1).app e1).same s2)
end L2
namespace K00
open PySem PySem.Spec PyProof.Rows L2
/-- the errors' classes: cA i, in the law's order; Missing's is cA 27 -/
structure T0 (P : Program) (w : World) (K : PySem.W.Frag) (mg : Str → Option Value) (base : Heap) (cA : Nat → Addr) : Prop where
  BadRatio : ErrM P w K mg base "BadRatio" (cA 0) ["part"]
  BadBalance : ErrM P w K mg base "BadBalance" (cA 1) ["part"]
  BadComparison : ErrM P w K mg base "BadComparison" (cA 2) ["part"]
  BadPair : ErrM P w K mg base "BadPair" (cA 3) ["part"]
  BadSort : ErrM P w K mg base "BadSort" (cA 4) ["part"]
  BadScale : ErrM P w K mg base "BadScale" (cA 5) ["part"]
  BadBook : ErrM P w K mg base "BadBook" (cA 6) ["part"]
  BadSaying : ErrM P w K mg base "BadSaying" (cA 7) ["part"]
  BadHands : ErrM P w K mg base "BadHands" (cA 8) ["part"]
  BadNumber : ErrM P w K mg base "BadNumber" (cA 9) ["part"]
  BadPaper : ErrM P w K mg base "BadPaper" (cA 10) ["part"]
  BadLive : ErrM P w K mg base "BadLive" (cA 11) ["part"]
  BadDesk : ErrM P w K mg base "BadDesk" (cA 12) ["part"]
  BadOrder : ErrM P w K mg base "BadOrder" (cA 13) ["part"]
  NoThing : ErrM P w K mg base "NoThing" (cA 14) ["name"]
  NoName : ErrM P w K mg base "NoName" (cA 15) ["name"]
  Twice : ErrM P w K mg base "Twice" (cA 16) ["name"]
  NoPair : ErrM P w K mg base "NoPair" (cA 17) ["pair"]
  Unlike : ErrM P w K mg base "Unlike" (cA 18) ["what"]
  Impossible : ErrM P w K mg base "Impossible" (cA 19) ["paper"]
  NotAbove : ErrM P w K mg base "NotAbove" (cA 20) ["scale"]
  NotCarried : ErrM P w K mg base "NotCarried" (cA 21) ["one", "other"]
  Hanging : ErrM P w K mg base "Hanging" (cA 22) ["kept", "broken"]
  TooMany : ErrM P w K mg base "TooMany" (cA 23) ["what", "most"]
  BadText : ErrM P w K mg base "BadText" (cA 24) ["line", "word"]
  BadLine : ErrM P w K mg base "BadLine" (cA 25) ["line", "error"]
  Nothing : ErrM P w K mg base "Nothing" (cA 26) []
  Missing : ErrM P w K mg base "Missing" (cA 27) ["name"]

def fds (one two : V) (j : Nat) : List (Str × V) :=
  if j < 14 then [("part", one)] else if j < 17 then [("name", one)] else if j < 21 then (if j = 17 then [("pair", one)] else if j = 18 then [("what", one)] else if j = 19 then [("paper", one)] else [("scale", one)])
  else if j < 23 then (if j = 21 then [("other", two), ("one", one)] else [("broken", two), ("kept", one)])
  else if j < 26 then (if j = 23 then [("most", two), ("what", one)] else if j = 24 then [("word", two), ("line", one)] else [("error", two), ("line", one)]) else []
def due (cA : Nat → Addr) (one two : V) (l : List Nat) : List (Addr × List (Str × V)) := l.map fun j => (cA j, fds one two j)
def spParts (cA : Nat → Addr) : Sp := fun vs H Q _ => ∃ (part : V) (tu : Bool), vs = [part, .bl tu] ∧ ∀ (es : List Addr) (l : Addr) (H' : Hp), Same H H' → H' l = some (.lst (es.map V.ref)) → Errs H' es (due cA part part (List.range 14)) → Q (.ref l) H'
def spOthers (cA : Nat → Addr) : Sp := fun vs H Q _ => ∃ (one two : V), vs = [one, two] ∧ ∀ (es : List Addr) (l : Addr) (H' : Hp), Same H H' → H' l = some (.lst (es.map V.ref)) → Errs H' es (due cA one two [14, 15, 16, 17, 18, 19, 20, 21, 22, 23, 24, 25, 26]) → Q (.ref l) H'
theorem short {es : List Addr} {H : Hp} {D : List (Addr × List (Str × V))} (h : Errs H es D) {n : Nat} (hn : D.length = n) : (es.map V.ref).length = n := by
  rw [List.length_map, ← hn]
  exact Paired.length h
section
variable {P : Program} {w : World} {K : PySem.W.Frag} {mg : Str → Option Value} {base : Heap} {cA : Nat → Addr}
theorem scPa : FnScope ["_law_part", "_law_turned", "_law_some"] ["_law_part", "_law_turned"] (defScope (top 34)) := ⟨rfl, rfl, rfl, by decide +kernel, rfl, by decide +kernel, by decide +kernel⟩
theorem ok_parts {f : Addr} {fd : FuncData} (F : FnP K "_law_parts" (top 34) f fd) (T : T0 P w K mg base cA) : FnOk P w K mg base CX0 3 f fd ["_law_part", "_law_turned"] (spParts cA) := by
  refine F.ok scPa (fun vs H Q E h => ?_) (fun cdv A outer s H vs Q E hr h => ?_)
  · obtain ⟨part, tu, rfl, _⟩ := h
    rfl
  · obtain ⟨part, tu, rfl, k⟩ := h
    have hr2 : Room 2 _ := hr
    refine ⟨_, PSs.nox (pss_cons (ps_set (i := 2) scPa.nd rfl (.inl rfl) (pe_lst (pa_cons (pe_eM T.BadRatio hr2 rfl (by decide) (pa_cons (pv 0) pa_nil)) (pa_cons (pe_eMK T.BadBalance hr2 rfl (pk_cons (pv 0) pk_nil)) (pa_cons (pe_eM T.BadComparison hr2 rfl (by decide) (pa_cons (pv 0) pa_nil)) (pa_cons (pe_eMK T.BadPair hr2 rfl (pk_cons (pv 0) pk_nil)) (pa_cons (pe_eM T.BadSort hr2 rfl (by decide) (pa_cons (pv 0) pa_nil)) pa_nil)))))))
        (pss_cons (ps_set (i := 2) scPa.nd rfl (.inl rfl) (pe_op op_cat (pv 2) (pe_lst (pa_cons (pe_eMK T.BadScale hr2 rfl (pk_cons (pv 0) pk_nil)) (pa_cons (pe_eM T.BadBook hr2 rfl (by decide) (pa_cons (pv 0) pa_nil)) (pa_cons (pe_eMK T.BadSaying hr2 rfl (pk_cons (pv 0) pk_nil)) (pa_cons (pe_eM T.BadHands hr2 rfl (by decide) (pa_cons (pv 0) pa_nil)) (pa_cons (pe_eMK T.BadNumber hr2 rfl (pk_cons (pv 0) pk_nil)) pa_nil))))))))
        (pss_cons (ps_set (i := 2) scPa.nd rfl (.inl rfl) (pe_op op_cat (pv 2) (pe_lst (pa_cons (pe_eM T.BadPaper hr2 rfl (by decide) (pa_cons (pv 0) pa_nil)) (pa_cons (pe_eMK T.BadLive hr2 rfl (pk_cons (pv 0) pk_nil)) (pa_cons (pe_eM T.BadDesk hr2 rfl (by decide) (pa_cons (pv 0) pa_nil)) (pa_cons (pe_eMK T.BadOrder hr2 rfl (pk_cons (pv 0) pk_nil)) pa_nil)))))))
        (pss_cons (ps_if (pt_not (pt_val (pv 1))) (pss_one (ps_ret (pv 2))) pss_nil)
        (pss_cons (ps_set (i := 2) scPa.nd rfl (.inl rfl) (pe_lst (pa_cons (pe_eMK T.BadRatio hr2 rfl (pk_cons (pv 0) pk_nil)) (pa_cons (pe_eM T.BadBalance hr2 rfl (by decide) (pa_cons (pv 0) pa_nil)) (pa_cons (pe_eMK T.BadComparison hr2 rfl (pk_cons (pv 0) pk_nil)) (pa_cons (pe_eM T.BadPair hr2 rfl (by decide) (pa_cons (pv 0) pa_nil)) (pa_cons (pe_eMK T.BadSort hr2 rfl (pk_cons (pv 0) pk_nil)) pa_nil)))))))
        (pss_cons (ps_set (i := 2) scPa.nd rfl (.inl rfl) (pe_op op_cat (pv 2) (pe_lst (pa_cons (pe_eM T.BadScale hr2 rfl (by decide) (pa_cons (pv 0) pa_nil)) (pa_cons (pe_eMK T.BadBook hr2 rfl (pk_cons (pv 0) pk_nil)) (pa_cons (pe_eM T.BadSaying hr2 rfl (by decide) (pa_cons (pv 0) pa_nil)) (pa_cons (pe_eMK T.BadHands hr2 rfl (pk_cons (pv 0) pk_nil)) (pa_cons (pe_eM T.BadNumber hr2 rfl (by decide) (pa_cons (pv 0) pa_nil)) pa_nil))))))))
        (pss_one (ps_ret (pe_op op_cat (pv 2) (pe_lst (pa_cons (pe_eMK T.BadPaper hr2 rfl (pk_cons (pv 0) pk_nil)) (pa_cons (pe_eM T.BadLive hr2 rfl (by decide) (pa_cons (pv 0) pa_nil)) (pa_cons (pe_eMK T.BadDesk hr2 rfl (pk_cons (pv 0) pk_nil)) (pa_cons (pe_eM T.BadOrder hr2 rfl (by decide) (pa_cons (pv 0) pa_nil)) pa_nil)))))))))))))), ?_⟩
    dsimp only [tSeq, tAsg]
    refine disp (D := due cA part part [0, 1, 2, 3, 4]) ?_ (by simp [due]) (fun es0 l0 H0 s0 hl0 he0 => ?_)
    · exact (errs_cons [part] (fun _ _ q => ⟨_, rfl, q⟩) rfl (errs_cons [part] (fun _ _ q => ⟨_, rfl, q⟩) rfl (errs_cons [part] (fun _ _ q => ⟨_, rfl, q⟩) rfl (errs_cons [part] (fun _ _ q => ⟨_, rfl, q⟩) rfl (errs_cons [part] (fun _ _ q => ⟨_, rfl, q⟩) rfl errs_nil)))))
    refine ⟨_, rfl, ?_⟩
    refine disp_cat (D := due cA part part [5, 6, 7, 8, 9]) ?_ hl0 he0 (by simp [due]) (fun es1 l1 H1 s1 hl1 he1 => ?_)
    · exact (errs_cons [part] (fun _ _ q => ⟨_, rfl, q⟩) rfl (errs_cons [part] (fun _ _ q => ⟨_, rfl, q⟩) rfl (errs_cons [part] (fun _ _ q => ⟨_, rfl, q⟩) rfl (errs_cons [part] (fun _ _ q => ⟨_, rfl, q⟩) rfl (errs_cons [part] (fun _ _ q => ⟨_, rfl, q⟩) rfl errs_nil)))))
    refine ⟨_, rfl, ?_⟩
    refine disp_cat (D := due cA part part [10, 11, 12, 13]) ?_ hl1 he1 (by simp [due]) (fun es2 l2 H2 s2 hl2 he2 => ?_)
    · exact (errs_cons [part] (fun _ _ q => ⟨_, rfl, q⟩) rfl (errs_cons [part] (fun _ _ q => ⟨_, rfl, q⟩) rfl (errs_cons [part] (fun _ _ q => ⟨_, rfl, q⟩) rfl (errs_cons [part] (fun _ _ q => ⟨_, rfl, q⟩) rfl errs_nil))))
    refine ⟨_, rfl, tu, rfl, ?_⟩
    cases tu with
    | false => exact iteT ⟨_, rfl, k es2 l2 H2 (s0.trans (s1.trans s2)) hl2 he2⟩
    | true =>
      have sA := s0.trans (s1.trans s2)
      clear hl0 he0 hl1 he1 hl2 he2 s0 s1 s2
      refine iteF ?_
      dsimp only [tNext, tSeq, tAsg]
      refine disp (D := due cA part part [0, 1, 2, 3, 4]) ?_ (by simp [due]) (fun es0' l0' H0' s0' hl0' he0' => ?_)
      · exact (errs_cons [part] (fun _ _ q => ⟨_, rfl, q⟩) rfl (errs_cons [part] (fun _ _ q => ⟨_, rfl, q⟩) rfl (errs_cons [part] (fun _ _ q => ⟨_, rfl, q⟩) rfl (errs_cons [part] (fun _ _ q => ⟨_, rfl, q⟩) rfl (errs_cons [part] (fun _ _ q => ⟨_, rfl, q⟩) rfl errs_nil)))))
      refine ⟨_, rfl, ?_⟩
      refine disp_cat (D := due cA part part [5, 6, 7, 8, 9]) ?_ hl0' he0' (by simp [due]) (fun es1' l1' H1' s1' hl1' he1' => ?_)
      · exact (errs_cons [part] (fun _ _ q => ⟨_, rfl, q⟩) rfl (errs_cons [part] (fun _ _ q => ⟨_, rfl, q⟩) rfl (errs_cons [part] (fun _ _ q => ⟨_, rfl, q⟩) rfl (errs_cons [part] (fun _ _ q => ⟨_, rfl, q⟩) rfl (errs_cons [part] (fun _ _ q => ⟨_, rfl, q⟩) rfl errs_nil)))))
      refine ⟨_, rfl, ?_⟩
      refine disp_cat (D := due cA part part [10, 11, 12, 13]) ?_ hl1' he1' (by simp [due]) (fun es2' l2' H2' s2' hl2' he2' => ?_)
      · exact (errs_cons [part] (fun _ _ q => ⟨_, rfl, q⟩) rfl (errs_cons [part] (fun _ _ q => ⟨_, rfl, q⟩) rfl (errs_cons [part] (fun _ _ q => ⟨_, rfl, q⟩) rfl (errs_cons [part] (fun _ _ q => ⟨_, rfl, q⟩) rfl errs_nil))))
      exact k es2' l2' H2' (sA.trans (s0'.trans (s1'.trans s2'))) hl2' he2'
theorem scOt : FnScope ["_law_one", "_law_two", "_law_some"] ["_law_one", "_law_two"] (defScope (top 35)) := ⟨rfl, rfl, rfl, by decide +kernel, rfl, by decide +kernel, by decide +kernel⟩
theorem ok_Ot {f : Addr} {fd : FuncData} (F : FnP K "_law_others" (top 35) f fd) (T : T0 P w K mg base cA) : FnOk P w K mg base CX0 3 f fd ["_law_one", "_law_two"] (spOthers cA) := by
  refine F.ok scOt (fun vs H Q E h => ?_) (fun cdv A outer s H vs Q E hr h => ?_)
  · obtain ⟨one, two, rfl, _⟩ := h
    rfl
  · obtain ⟨one, two, rfl, k⟩ := h
    have hr2 : Room 2 _ := hr
    refine ⟨_, PSs.nox (pss_cons (ps_set (i := 2) scOt.nd rfl (.inl rfl) (pe_lst (pa_cons (pe_eM T.NoThing hr2 rfl (by decide) (pa_cons (pv 0) pa_nil)) (pa_cons (pe_eM T.NoName hr2 rfl (by decide) (pa_cons (pv 0) pa_nil)) (pa_cons (pe_eM T.Twice hr2 rfl (by decide) (pa_cons (pv 0) pa_nil)) (pa_cons (pe_eM T.NoPair hr2 rfl (by decide) (pa_cons (pv 0) pa_nil)) (pa_cons (pe_eM T.Unlike hr2 rfl (by decide) (pa_cons (pv 0) pa_nil)) (pa_cons (pe_eM T.Impossible hr2 rfl (by decide) (pa_cons (pv 0) pa_nil)) (pa_cons (pe_eM T.NotAbove hr2 rfl (by decide) (pa_cons (pv 0) pa_nil)) pa_nil)))))))))
        (pss_one (ps_ret (pe_op op_cat (pv 2) (pe_lst (pa_cons (pe_eM T.NotCarried hr2 rfl (by decide) (pa_cons (pv 0) (pa_cons (pv 1) pa_nil))) (pa_cons (pe_eM T.Hanging hr2 rfl (by decide) (pa_cons (pv 0) (pa_cons (pv 1) pa_nil))) (pa_cons (pe_eM T.TooMany hr2 rfl (by decide) (pa_cons (pv 0) (pa_cons (pv 1) pa_nil))) (pa_cons (pe_eM T.BadText hr2 rfl (by decide) (pa_cons (pv 0) (pa_cons (pv 1) pa_nil))) (pa_cons (pe_eM T.BadLine hr2 rfl (by decide) (pa_cons (pv 0) (pa_cons (pv 1) pa_nil))) (pa_cons (pe_eM0 T.Nothing hr2 rfl) pa_nil))))))))))), ?_⟩
    dsimp only [tSeq, tAsg]
    refine disp (D := due cA one two [14, 15, 16, 17, 18, 19, 20]) ?_ (by simp [due]) (fun es0 l0 H0 s0 hl0 he0 => ?_)
    · exact (errs_cons [one] (fun _ _ q => ⟨_, rfl, q⟩) rfl (errs_cons [one] (fun _ _ q => ⟨_, rfl, q⟩) rfl (errs_cons [one] (fun _ _ q => ⟨_, rfl, q⟩) rfl (errs_cons [one] (fun _ _ q => ⟨_, rfl, q⟩) rfl (errs_cons [one] (fun _ _ q => ⟨_, rfl, q⟩) rfl (errs_cons [one] (fun _ _ q => ⟨_, rfl, q⟩) rfl (errs_cons [one] (fun _ _ q => ⟨_, rfl, q⟩) rfl errs_nil)))))))
    refine ⟨_, rfl, ?_⟩
    refine disp_cat (D := due cA one two [21, 22, 23, 24, 25, 26]) ?_ hl0 he0 (by simp [due]) (fun es1 l1 H1 s1 hl1 he1 => ?_)
    · exact (errs_cons [one, two] (fun _ _ q => ⟨_, rfl, _, rfl, q⟩) rfl (errs_cons [one, two] (fun _ _ q => ⟨_, rfl, _, rfl, q⟩) rfl (errs_cons [one, two] (fun _ _ q => ⟨_, rfl, _, rfl, q⟩) rfl (errs_cons [one, two] (fun _ _ q => ⟨_, rfl, _, rfl, q⟩) rfl (errs_cons [one, two] (fun _ _ q => ⟨_, rfl, _, rfl, q⟩) rfl (errs_cons [] (fun _ _ q => q) rfl errs_nil))))))
    exact k es1 l1 H1 (s0.trans s1) hl1 he1
theorem scOn : FnScope ["_law_one", "_law_two", "_law_some"] ["_law_one", "_law_two"] (defScope (top 36)) := ⟨rfl, rfl, rfl, by decide +kernel, rfl, by decide +kernel, by decide +kernel⟩
theorem ok_On {f : Addr} {fd : FuncData} (F : FnP K "_law_others_named" (top 36) f fd) (T : T0 P w K mg base cA) : FnOk P w K mg base CX0 3 f fd ["_law_one", "_law_two"] (spOthers cA) := by
  refine F.ok scOn (fun vs H Q E h => ?_) (fun cdv A outer s H vs Q E hr h => ?_)
  · obtain ⟨one, two, rfl, _⟩ := h
    rfl
  · obtain ⟨one, two, rfl, k⟩ := h
    have hr2 : Room 2 _ := hr
    refine ⟨_, PSs.nox (pss_cons (ps_set (i := 2) scOn.nd rfl (.inl rfl) (pe_lst (pa_cons (pe_eMK T.NoThing hr2 rfl (pk_cons (pv 0) pk_nil)) (pa_cons (pe_eMK T.NoName hr2 rfl (pk_cons (pv 0) pk_nil)) (pa_cons (pe_eMK T.Twice hr2 rfl (pk_cons (pv 0) pk_nil)) (pa_cons (pe_eMK T.NoPair hr2 rfl (pk_cons (pv 0) pk_nil)) (pa_cons (pe_eMK T.Unlike hr2 rfl (pk_cons (pv 0) pk_nil)) pa_nil)))))))
        (pss_cons (ps_set (i := 2) scOn.nd rfl (.inl rfl) (pe_op op_cat (pv 2) (pe_lst (pa_cons (pe_eMK T.Impossible hr2 rfl (pk_cons (pv 0) pk_nil)) (pa_cons (pe_eMK T.NotAbove hr2 rfl (pk_cons (pv 0) pk_nil)) (pa_cons (pe_eMR T.NotCarried hr2 rfl (pk_cons (pv 1) (pk_cons (pv 0) pk_nil))) (pa_cons (pe_eMR T.Hanging hr2 rfl (pk_cons (pv 1) (pk_cons (pv 0) pk_nil))) pa_nil)))))))
        (pss_one (ps_ret (pe_op op_cat (pv 2) (pe_lst (pa_cons (pe_eMR T.TooMany hr2 rfl (pk_cons (pv 1) (pk_cons (pv 0) pk_nil))) (pa_cons (pe_eMR T.BadText hr2 rfl (pk_cons (pv 1) (pk_cons (pv 0) pk_nil))) (pa_cons (pe_eMR T.BadLine hr2 rfl (pk_cons (pv 1) (pk_cons (pv 0) pk_nil))) (pa_cons (pe_eM0 T.Nothing hr2 rfl) pa_nil)))))))))), ?_⟩
    dsimp only [tSeq, tAsg]
    refine disp (D := due cA one two [14, 15, 16, 17, 18]) ?_ (by simp [due]) (fun es0 l0 H0 s0 hl0 he0 => ?_)
    · exact (errs_cons [one] (fun _ _ q => ⟨_, rfl, q⟩) rfl (errs_cons [one] (fun _ _ q => ⟨_, rfl, q⟩) rfl (errs_cons [one] (fun _ _ q => ⟨_, rfl, q⟩) rfl (errs_cons [one] (fun _ _ q => ⟨_, rfl, q⟩) rfl (errs_cons [one] (fun _ _ q => ⟨_, rfl, q⟩) rfl errs_nil)))))
    refine ⟨_, rfl, ?_⟩
    refine disp_cat (D := due cA one two [19, 20, 21, 22]) ?_ hl0 he0 (by simp [due]) (fun es1 l1 H1 s1 hl1 he1 => ?_)
    · exact (errs_cons [one] (fun _ _ q => ⟨_, rfl, q⟩) rfl (errs_cons [one] (fun _ _ q => ⟨_, rfl, q⟩) rfl (errs_cons [two, one] (fun _ _ q => ⟨_, rfl, _, rfl, q⟩) rfl (errs_cons [two, one] (fun _ _ q => ⟨_, rfl, _, rfl, q⟩) rfl errs_nil))))
    refine ⟨_, rfl, ?_⟩
    refine disp_cat (D := due cA one two [23, 24, 25, 26]) ?_ hl1 he1 (by simp [due]) (fun es2 l2 H2 s2 hl2 he2 => ?_)
    · exact (errs_cons [two, one] (fun _ _ q => ⟨_, rfl, _, rfl, q⟩) rfl (errs_cons [two, one] (fun _ _ q => ⟨_, rfl, _, rfl, q⟩) rfl (errs_cons [two, one] (fun _ _ q => ⟨_, rfl, _, rfl, q⟩) rfl (errs_cons [] (fun _ _ q => q) rfl errs_nil))))
    exact k es2 l2 H2 (s0.trans (s1.trans s2)) hl2 he2
end
end K00
namespace K00
open PySem PySem.Spec PyProof.Rows L2
def vals (one two : V) (j : Nat) : List V := if j < 21 then [one] else if j < 26 then [one, two] else []
/-- what the written part tells of the classes, by their numbers -/
structure T1 (K : PySem.W.Frag) (cA : Nat → Addr) (SE : Addr) : Prop where
  xf : ∀ j, j < 28 → XfC K (cA j)
  is : ∀ j, j < 28 → ExcC K (cA j)
  no : ∀ j, j < 27 → ∀ (one two : V) (f : Str) (v : V), (fds one two j).lookup f = some v → PySem.W.findIn K (.ref (cA j)) f = some none
  kit : ∀ i j, i < 28 → j < 27 → PySem.W.kitOne K (.ref (cA i)) (.ref (cA j)) = some (decide (i = j))
  se : ∀ i, i < 28 → PySem.W.kitOne K (.ref (cA i)) (.ref SE) = some true
  ve : ∀ i, i < 28 → PySem.W.kitOne K (.ref (cA i)) (.type "ValueError") = some true
  mi : ∀ i, i < 28 → PySem.W.kitOne K (.ref (cA i)) (.ref (cA 27)) = some (decide (i = 14 ∨ i = 15 ∨ i = 27))
  lo : ∀ i, i < 28 → PySem.W.kitOne K (.ref (cA i)) (.type "LookupError") = some false
  ty : ∀ i, i < 28 → PySem.W.kitOne K (.ref (cA i)) (.type "TypeError") = some false
  ar : ∀ i, i < 28 → PySem.W.kitOne K (.ref (cA i)) (.type "ArithmeticError") = some false
  ru : ∀ i, i < 28 → PySem.W.kitOne K (.ref (cA i)) (.type "RuntimeError") = some false
  at_ : ∀ i, i < 28 → PySem.W.kitOne K (.ref (cA i)) (.type "AttributeError") = some false
structure B1 (mg : Str → Option Value) (SE : Addr) : Prop where
  isi : mg "isinstance" = none
  rep : mg "repr" = none
  enu : mg "enumerate" = none
  ran : mg "range" = none
  len : mg "len" = none
  ValueError : mg "ValueError" = none
  LookupError : mg "LookupError" = none
  TypeError : mg "TypeError" = none
  ArithmeticError : mg "ArithmeticError" = none
  RuntimeError : mg "RuntimeError" = none
  AttributeError : mg "AttributeError" = none
  gSE : mg "ScaleError" = some (.ref SE)
def spFields (cA : Nat → Addr) : Sp := fun vs H Q _ => ∃ (e : Addr) (j : Nat) (one two : V), vs = [.ref e, .int j] ∧ j < 27 ∧ ErrAt H e (cA j) (fds one two j) ∧ ∀ p, H p = none → p ≠ sysModules → Q (.ref p) (upd H p (.lst (vals one two j)))
section
variable {P : Program} {w : World} {K : PySem.W.Frag} {mg : Str → Option Value} {base : Heap} {cA : Nat → Addr} {SE : Addr}
theorem scF : FnScope ["_law_error", "_law_place"] ["_law_error", "_law_place"] (defScope (top 37)) := ⟨rfl, rfl, rfl, by decide +kernel, rfl, by decide +kernel, by decide +kernel⟩
theorem ok_fields {f : Addr} {fd : FuncData} (F : FnP K "_law_fields" (top 37) f fd) (U : T1 K cA SE) : FnOk P w K mg base CX0 1 f fd ["_law_error", "_law_place"] (spFields cA) := by
  refine F.ok scF (fun vs H Q E h => ?_) (fun cdv A outer s H vs Q E hr h => ?_)
  · obtain ⟨e, j, one, two, rfl, _⟩ := h
    rfl
  · obtain ⟨e, j, one, two, rfl, hj, he, k⟩ := h
    refine ⟨_, PSs.nox (pss_cons (ps_if (pt_cmpR op_lt (pv 1) pe_int (nomark _)) (pss_one (ps_ret (pe_lstS (pa_cons (pe_errF (pv 0) rfl) pa_nil)))) pss_nil)
        (pss_cons (ps_if (pt_cmpR op_lt (pv 1) pe_int (nomark _)) (pss_one (ps_ret (pe_lstS (pa_cons (pe_errF (pv 0) rfl) pa_nil)))) pss_nil)
        (pss_cons (ps_if (pt_cmpR op_lt (pv 1) pe_int (nomark _)) (pss_one (ps_ret (pe_ifExp (pt_cmpR op_eq (pv 1) pe_int (nomark _)) (pe_lstS (pa_cons (pe_errF (pv 0) rfl) pa_nil)) (pe_ifExp (pt_cmpR op_eq (pv 1) pe_int (nomark _)) (pe_lstS (pa_cons (pe_errF (pv 0) rfl) pa_nil)) (pe_ifExp (pt_cmpR op_eq (pv 1) pe_int (nomark _)) (pe_lstS (pa_cons (pe_errF (pv 0) rfl) pa_nil)) (pe_lstS (pa_cons (pe_errF (pv 0) rfl) pa_nil))))))) pss_nil)
        (pss_cons (ps_if (pt_cmpR op_lt (pv 1) pe_int (nomark _)) (pss_one (ps_ret (pe_ifExp (pt_cmpR op_eq (pv 1) pe_int (nomark _)) (pe_lstS (pa_cons (pe_errF (pv 0) rfl) (pa_cons (pe_errF (pv 0) rfl) pa_nil))) (pe_lstS (pa_cons (pe_errF (pv 0) rfl) (pa_cons (pe_errF (pv 0) rfl) pa_nil)))))) pss_nil)
        (pss_cons (ps_if (pt_cmpR op_lt (pv 1) pe_int (nomark _)) (pss_one (ps_ret (pe_ifExp (pt_cmpR op_eq (pv 1) pe_int (nomark _)) (pe_lstS (pa_cons (pe_errF (pv 0) rfl) (pa_cons (pe_errF (pv 0) rfl) pa_nil))) (pe_ifExp (pt_cmpR op_eq (pv 1) pe_int (nomark _)) (pe_lstS (pa_cons (pe_errF (pv 0) rfl) (pa_cons (pe_errF (pv 0) rfl) pa_nil))) (pe_lstS (pa_cons (pe_errF (pv 0) rfl) (pa_cons (pe_errF (pv 0) rfl) pa_nil))))))) pss_nil)
        (pss_one (ps_ret (pe_lstS pa_nil)))))))), ?_⟩
    have X := U.xf j (by omega)
    have one1 : ∀ {g : Str} {v : V}, (fds one two j).lookup g = some v → PySem.W.findIn K (.ref (cA j)) g = some none := fun {g v} l => U.no j hj one two g v l
    refine ⟨_, rfl, _, _, rfl, rfl, _, rfl, ite2 (fun h1 => ?_) (fun h1 => ?_)⟩
    · have h1 := of_decide_eq_true h1
      have ef : (fds one two j).lookup ("part" : Str) = some one := by
        unfold fds
        rw [if_pos (by omega)]
        rfl
      have ev : vals one two j = [one] := by
        unfold vals
        rw [if_pos (by omega)]
      refine ⟨_, rfl, e, cA j, _, one, rfl, he, X, one1 ef, ef, by show 1 ≤ sizeLine; decide, fun p np ns => ?_⟩
      rw [← ev]
      exact k p np ns
    · have h1 : ¬ (j : Int) < 14 := fun z => h1 (decide_eq_true z)
      refine ⟨_, rfl, _, _, rfl, rfl, _, rfl, ite2 (fun h => ?_) (fun h => ?_)⟩
      · have h2 : (j : Int) < 17 := of_decide_eq_true h
        have ef0 : (fds one two j).lookup ("name" : Str) = some one := by
          unfold fds
          rw [if_neg (by omega), if_pos (by omega)]
          rfl
        have ev : vals one two j = [one] := by
          unfold vals
          rw [if_pos (by omega)]
        refine ⟨_, rfl, e, cA j, _, one, rfl, he, X, one1 ef0, ef0, by show 1 ≤ sizeLine; decide, fun p np ns => ?_⟩
        rw [← ev]
        exact k p np ns
      · have h2 : ¬ (j : Int) < 17 := fun z => h (decide_eq_true z)
        refine ⟨_, rfl, _, _, rfl, rfl, _, rfl, ite2 (fun h => ?_) (fun h => ?_)⟩
        · have h3 : (j : Int) < 21 := of_decide_eq_true h
          refine ⟨_, rfl, rfl, _, rfl, ite2 (fun h => ?_) (fun h => ?_)⟩
          · have q1 : (j : Int) = 17 := V.int.inj (of_decide_eq_true h)
            have ef0 : (fds one two j).lookup ("pair" : Str) = some one := by
              unfold fds
              rw [if_neg (by omega), if_neg (by omega), if_pos (by omega), if_pos (by omega)]
              rfl
            have ev : vals one two j = [one] := by
              unfold vals
              rw [if_pos (by omega)]
            refine ⟨_, rfl, e, cA j, _, one, rfl, he, X, one1 ef0, ef0, by show 1 ≤ sizeLine; decide, fun p np ns => ?_⟩
            rw [← ev]
            exact k p np ns
          · have q1 : ¬ (j : Int) = 17 := fun z => h (decide_eq_true (congrArg V.int z))
            refine ⟨_, rfl, rfl, _, rfl, ite2 (fun h => ?_) (fun h => ?_)⟩
            · have q2 : (j : Int) = 18 := V.int.inj (of_decide_eq_true h)
              have ef0 : (fds one two j).lookup ("what" : Str) = some one := by
                unfold fds
                rw [if_neg (by omega), if_neg (by omega), if_pos (by omega), if_neg (by omega), if_pos (by omega)]
                rfl
              have ev : vals one two j = [one] := by
                unfold vals
                rw [if_pos (by omega)]
              refine ⟨_, rfl, e, cA j, _, one, rfl, he, X, one1 ef0, ef0, by show 1 ≤ sizeLine; decide, fun p np ns => ?_⟩
              rw [← ev]
              exact k p np ns
            · have q2 : ¬ (j : Int) = 18 := fun z => h (decide_eq_true (congrArg V.int z))
              refine ⟨_, rfl, rfl, _, rfl, ite2 (fun h => ?_) (fun h => ?_)⟩
              · have q3 : (j : Int) = 19 := V.int.inj (of_decide_eq_true h)
                have ef0 : (fds one two j).lookup ("paper" : Str) = some one := by
                  unfold fds
                  rw [if_neg (by omega), if_neg (by omega), if_pos (by omega), if_neg (by omega), if_neg (by omega), if_pos (by omega)]
                  rfl
                have ev : vals one two j = [one] := by
                  unfold vals
                  rw [if_pos (by omega)]
                refine ⟨_, rfl, e, cA j, _, one, rfl, he, X, one1 ef0, ef0, by show 1 ≤ sizeLine; decide, fun p np ns => ?_⟩
                rw [← ev]
                exact k p np ns
              · have q3 : ¬ (j : Int) = 19 := fun z => h (decide_eq_true (congrArg V.int z))
                have ef0 : (fds one two j).lookup ("scale" : Str) = some one := by
                  unfold fds
                  rw [if_neg (by omega), if_neg (by omega), if_pos (by omega), if_neg (by omega), if_neg (by omega), if_neg (by omega)]
                  rfl
                have ev : vals one two j = [one] := by
                  unfold vals
                  rw [if_pos (by omega)]
                refine ⟨_, rfl, e, cA j, _, one, rfl, he, X, one1 ef0, ef0, by show 1 ≤ sizeLine; decide, fun p np ns => ?_⟩
                rw [← ev]
                exact k p np ns
        · have h3 : ¬ (j : Int) < 21 := fun z => h (decide_eq_true z)
          refine ⟨_, rfl, _, _, rfl, rfl, _, rfl, ite2 (fun h => ?_) (fun h => ?_)⟩
          · have h4 : (j : Int) < 23 := of_decide_eq_true h
            refine ⟨_, rfl, rfl, _, rfl, ite2 (fun h => ?_) (fun h => ?_)⟩
            · have q1 : (j : Int) = 21 := V.int.inj (of_decide_eq_true h)
              have ef0 : (fds one two j).lookup ("one" : Str) = some one := by
                unfold fds
                rw [if_neg (by omega), if_neg (by omega), if_neg (by omega), if_pos (by omega), if_pos (by omega)]
                rfl
              have ef1 : (fds one two j).lookup ("other" : Str) = some two := by
                unfold fds
                rw [if_neg (by omega), if_neg (by omega), if_neg (by omega), if_pos (by omega), if_pos (by omega)]
                rfl
              have ev : vals one two j = [one, two] := by
                unfold vals
                rw [if_neg (by omega), if_pos (by omega)]
              refine ⟨_, rfl, e, cA j, _, one, rfl, he, X, one1 ef0, ef0, _, rfl, e, cA j, _, two, rfl, he, X, one1 ef1, ef1, by show 2 ≤ sizeLine; decide, fun p np ns => ?_⟩
              rw [← ev]
              exact k p np ns
            · have q1 : ¬ (j : Int) = 21 := fun z => h (decide_eq_true (congrArg V.int z))
              have ef0 : (fds one two j).lookup ("kept" : Str) = some one := by
                unfold fds
                rw [if_neg (by omega), if_neg (by omega), if_neg (by omega), if_pos (by omega), if_neg (by omega)]
                rfl
              have ef1 : (fds one two j).lookup ("broken" : Str) = some two := by
                unfold fds
                rw [if_neg (by omega), if_neg (by omega), if_neg (by omega), if_pos (by omega), if_neg (by omega)]
                rfl
              have ev : vals one two j = [one, two] := by
                unfold vals
                rw [if_neg (by omega), if_pos (by omega)]
              refine ⟨_, rfl, e, cA j, _, one, rfl, he, X, one1 ef0, ef0, _, rfl, e, cA j, _, two, rfl, he, X, one1 ef1, ef1, by show 2 ≤ sizeLine; decide, fun p np ns => ?_⟩
              rw [← ev]
              exact k p np ns
          · have h4 : ¬ (j : Int) < 23 := fun z => h (decide_eq_true z)
            refine ⟨_, rfl, _, _, rfl, rfl, _, rfl, ite2 (fun h => ?_) (fun h => ?_)⟩
            · have h5 : (j : Int) < 26 := of_decide_eq_true h
              refine ⟨_, rfl, rfl, _, rfl, ite2 (fun h => ?_) (fun h => ?_)⟩
              · have q1 : (j : Int) = 23 := V.int.inj (of_decide_eq_true h)
                have ef0 : (fds one two j).lookup ("what" : Str) = some one := by
                  unfold fds
                  rw [if_neg (by omega), if_neg (by omega), if_neg (by omega), if_neg (by omega), if_pos (by omega), if_pos (by omega)]
                  rfl
                have ef1 : (fds one two j).lookup ("most" : Str) = some two := by
                  unfold fds
                  rw [if_neg (by omega), if_neg (by omega), if_neg (by omega), if_neg (by omega), if_pos (by omega), if_pos (by omega)]
                  rfl
                have ev : vals one two j = [one, two] := by
                  unfold vals
                  rw [if_neg (by omega), if_pos (by omega)]
                refine ⟨_, rfl, e, cA j, _, one, rfl, he, X, one1 ef0, ef0, _, rfl, e, cA j, _, two, rfl, he, X, one1 ef1, ef1, by show 2 ≤ sizeLine; decide, fun p np ns => ?_⟩
                rw [← ev]
                exact k p np ns
              · have q1 : ¬ (j : Int) = 23 := fun z => h (decide_eq_true (congrArg V.int z))
                refine ⟨_, rfl, rfl, _, rfl, ite2 (fun h => ?_) (fun h => ?_)⟩
                · have q2 : (j : Int) = 24 := V.int.inj (of_decide_eq_true h)
                  have ef0 : (fds one two j).lookup ("line" : Str) = some one := by
                    unfold fds
                    rw [if_neg (by omega), if_neg (by omega), if_neg (by omega), if_neg (by omega), if_pos (by omega), if_neg (by omega), if_pos (by omega)]
                    rfl
                  have ef1 : (fds one two j).lookup ("word" : Str) = some two := by
                    unfold fds
                    rw [if_neg (by omega), if_neg (by omega), if_neg (by omega), if_neg (by omega), if_pos (by omega), if_neg (by omega), if_pos (by omega)]
                    rfl
                  have ev : vals one two j = [one, two] := by
                    unfold vals
                    rw [if_neg (by omega), if_pos (by omega)]
                  refine ⟨_, rfl, e, cA j, _, one, rfl, he, X, one1 ef0, ef0, _, rfl, e, cA j, _, two, rfl, he, X, one1 ef1, ef1, by show 2 ≤ sizeLine; decide, fun p np ns => ?_⟩
                  rw [← ev]
                  exact k p np ns
                · have q2 : ¬ (j : Int) = 24 := fun z => h (decide_eq_true (congrArg V.int z))
                  have ef0 : (fds one two j).lookup ("line" : Str) = some one := by
                    unfold fds
                    rw [if_neg (by omega), if_neg (by omega), if_neg (by omega), if_neg (by omega), if_pos (by omega), if_neg (by omega), if_neg (by omega)]
                    rfl
                  have ef1 : (fds one two j).lookup ("error" : Str) = some two := by
                    unfold fds
                    rw [if_neg (by omega), if_neg (by omega), if_neg (by omega), if_neg (by omega), if_pos (by omega), if_neg (by omega), if_neg (by omega)]
                    rfl
                  have ev : vals one two j = [one, two] := by
                    unfold vals
                    rw [if_neg (by omega), if_pos (by omega)]
                  refine ⟨_, rfl, e, cA j, _, one, rfl, he, X, one1 ef0, ef0, _, rfl, e, cA j, _, two, rfl, he, X, one1 ef1, ef1, by show 2 ≤ sizeLine; decide, fun p np ns => ?_⟩
                  rw [← ev]
                  exact k p np ns
            · have h5 : ¬ (j : Int) < 26 := fun z => h (decide_eq_true z)
              have ev : vals one two j = [] := by
                unfold vals
                rw [if_neg (by omega), if_neg (by omega)]
              refine ⟨by show 0 ≤ sizeLine; decide, fun p np ns => ?_⟩
              rw [← ev]
              exact k p np ns
end
end K00
namespace L2
open PySem PySem.Spec PyProof.Rows
/-! ### rows of isinstance -/
def KinRead (K : PySem.W.Frag) (e C : Addr) (fs : List (Str × V)) (t : TA) (σ : St) (bs : List Bool) : Prop := ∀ (H : Hp) (Q : List V → Hp → Prop), ErrAt H e C fs → Q (bs.map V.bl) H → t σ H Q
theorem kin_nil {K : PySem.W.Frag} {e C : Addr} {fs : List (Str × V)} {σ : St} : KinRead K e C fs tNil σ [] := fun H Q _ q => q
theorem kin_cons {K : PySem.W.Frag} {e C D : Addr} {fs : List (Str × V)} {σ : St} {r : TA} {b : Bool} {bs : List Bool} (hσ : σ[0]? = some (some (V.ref e))) (x : ExcC K C) (kk : PySem.W.kitOne K (.ref C) (.ref D) = some b) (hr : KinRead K e C fs r σ bs) :
    KinRead K e C fs (tCons (tCB (rIsErr K) (tCons (tVar 0) (tCons (tC (.ref D)) tNil))) r) σ (b :: bs) := fun H Q he q =>
  ⟨_, hσ, e, C, fs, _, _, b, rfl, he, x, .own D, kk, hr H _ he q⟩
theorem dispB {K : PySem.W.Frag} {e C : Addr} {fs : List (Str × V)} {σ : St} {T : TA} {bs : List Bool} {H : Hp} {Q : VK} {he : ErrAt H e C fs} (kr : KinRead K e C fs T σ bs) (hD : bs.length ≤ 100)
    (k : ∀ (l : Addr) (H' : Hp), Same H H' → H' l = some (.lst (bs.map V.bl)) → Q (.ref l) H') : tLst T σ H Q :=
  kr H _ he ⟨by rw [List.length_map, sizeLine_eq]; omega, fun l nl => k l _ (fun b x e => by rw [upd_ne (ne_of_none e nl)]; exact e) upd_same⟩
theorem dispB_cat {K : PySem.W.Frag} {e C : Addr} {fs : List (Str × V)} {σ : St} {T : TA} {bs bs0 : List Bool} {H : Hp} {Q : VK} {l0 : Addr} {he : ErrAt H e C fs} (kr : KinRead K e C fs T σ bs) (h0 : H l0 = some (.lst (bs0.map V.bl))) (hD : bs0.length + bs.length ≤ 100)
    (k : ∀ (l : Addr) (H' : Hp), Same H H' → H' l = some (.lst ((bs0 ++ bs).map V.bl)) → Q (.ref l) H') : tLst T σ H fun y H2 => rCat (.ref l0) y H2 Q := by
  refine dispB (he := he) kr (by omega) fun l H1 s1 hl => ?_
  refine ⟨l0, l, _, _, rfl, rfl, s1 _ _ h0, hl, ?_, fun p np => ?_⟩
  · rw [List.length_map, List.length_map, sizeLine_eq]
    omega
  · have s2 : Same H1 (upd H1 p (.lst (bs0.map V.bl ++ bs.map V.bl))) := fun b x e => by rw [upd_ne (ne_of_none e np)]; exact e
    exact k p _ (s1.trans s2) (by rw [upd_same, List.map_append])
end L2
namespace K00
open PySem PySem.Spec PyProof.Rows L2
def kinOf (i : Nat) : List Bool := (List.range 27).map fun j => decide (i = j)
def spKin (cA : Nat → Addr) : Sp := fun vs H Q _ => ∃ (e : Addr) (i : Nat) (fs : List (Str × V)), vs = [.ref e] ∧ i < 28 ∧ ErrAt H e (cA i) fs ∧ ∀ (l : Addr) (H' : Hp), Same H H' → H' l = some (.lst ((kinOf i).map V.bl)) → Q (.ref l) H'
section
variable {P : Program} {w : World} {K : PySem.W.Frag} {mg : Str → Option Value} {base : Heap} {cA : Nat → Addr} {SE : Addr}
theorem scK : FnScope ["_law_error", "_law_kin_here"] ["_law_error"] (defScope (top 38)) := ⟨rfl, rfl, rfl, by decide +kernel, rfl, by decide +kernel, by decide +kernel⟩
theorem ok_kin {f : Addr} {fd : FuncData} (F : FnP K "_law_kin" (top 38) f fd) (T : T0 P w K mg base cA) (U : T1 K cA SE) (B : B1 mg SE) : FnOk P w K mg base CX0 1 f fd ["_law_error"] (spKin cA) := by
  refine F.ok scK (fun vs H Q E h => ?_) (fun cdv A outer s H vs Q E hr h => ?_)
  · obtain ⟨e, i, fs, rfl, _⟩ := h
    rfl
  · obtain ⟨e, i, fs, rfl, hi, he, k⟩ := h
    refine ⟨_, PSs.nox 
(pss_cons (ps_set (i := 1) scK.nd rfl (.inl rfl) (pe_lst (pa_cons (pe_callB call_isErr (by rfl) B.isi (by decide +kernel) (pa_cons (pv 0) (pa_cons (pe_glob (v := .ref _) rfl T.BadRatio.g rfl) pa_nil))) (pa_cons (pe_callB call_isErr (by rfl) B.isi (by decide +kernel) (pa_cons (pv 0) (pa_cons (pe_glob (v := .ref _) rfl T.BadBalance.g rfl) pa_nil))) (pa_cons (pe_callB call_isErr (by rfl) B.isi (by decide +kernel) (pa_cons (pv 0) (pa_cons (pe_glob (v := .ref _) rfl T.BadComparison.g rfl) pa_nil))) pa_nil)))))
        (pss_cons (ps_set (i := 1) scK.nd rfl (.inl rfl) (pe_op op_cat (pv 1) (pe_lst (pa_cons (pe_callB call_isErr (by rfl) B.isi (by decide +kernel) (pa_cons (pv 0) (pa_cons (pe_glob (v := .ref _) rfl T.BadPair.g rfl) pa_nil))) (pa_cons (pe_callB call_isErr (by rfl) B.isi (by decide +kernel) (pa_cons (pv 0) (pa_cons (pe_glob (v := .ref _) rfl T.BadSort.g rfl) pa_nil))) (pa_cons (pe_callB call_isErr (by rfl) B.isi (by decide +kernel) (pa_cons (pv 0) (pa_cons (pe_glob (v := .ref _) rfl T.BadScale.g rfl) pa_nil))) pa_nil))))))
        (pss_cons (ps_set (i := 1) scK.nd rfl (.inl rfl) (pe_op op_cat (pv 1) (pe_lst (pa_cons (pe_callB call_isErr (by rfl) B.isi (by decide +kernel) (pa_cons (pv 0) (pa_cons (pe_glob (v := .ref _) rfl T.BadBook.g rfl) pa_nil))) (pa_cons (pe_callB call_isErr (by rfl) B.isi (by decide +kernel) (pa_cons (pv 0) (pa_cons (pe_glob (v := .ref _) rfl T.BadSaying.g rfl) pa_nil))) (pa_cons (pe_callB call_isErr (by rfl) B.isi (by decide +kernel) (pa_cons (pv 0) (pa_cons (pe_glob (v := .ref _) rfl T.BadHands.g rfl) pa_nil))) pa_nil))))))
        (pss_cons (ps_set (i := 1) scK.nd rfl (.inl rfl) (pe_op op_cat (pv 1) (pe_lst (pa_cons (pe_callB call_isErr (by rfl) B.isi (by decide +kernel) (pa_cons (pv 0) (pa_cons (pe_glob (v := .ref _) rfl T.BadNumber.g rfl) pa_nil))) (pa_cons (pe_callB call_isErr (by rfl) B.isi (by decide +kernel) (pa_cons (pv 0) (pa_cons (pe_glob (v := .ref _) rfl T.BadPaper.g rfl) pa_nil))) (pa_cons (pe_callB call_isErr (by rfl) B.isi (by decide +kernel) (pa_cons (pv 0) (pa_cons (pe_glob (v := .ref _) rfl T.BadLive.g rfl) pa_nil))) pa_nil))))))
        (pss_cons (ps_set (i := 1) scK.nd rfl (.inl rfl) (pe_op op_cat (pv 1) (pe_lst (pa_cons (pe_callB call_isErr (by rfl) B.isi (by decide +kernel) (pa_cons (pv 0) (pa_cons (pe_glob (v := .ref _) rfl T.BadDesk.g rfl) pa_nil))) (pa_cons (pe_callB call_isErr (by rfl) B.isi (by decide +kernel) (pa_cons (pv 0) (pa_cons (pe_glob (v := .ref _) rfl T.BadOrder.g rfl) pa_nil))) (pa_cons (pe_callB call_isErr (by rfl) B.isi (by decide +kernel) (pa_cons (pv 0) (pa_cons (pe_glob (v := .ref _) rfl T.NoThing.g rfl) pa_nil))) (pa_cons (pe_callB call_isErr (by rfl) B.isi (by decide +kernel) (pa_cons (pv 0) (pa_cons (pe_glob (v := .ref _) rfl T.NoName.g rfl) pa_nil))) pa_nil)))))))
        (pss_cons (ps_set (i := 1) scK.nd rfl (.inl rfl) (pe_op op_cat (pv 1) (pe_lst (pa_cons (pe_callB call_isErr (by rfl) B.isi (by decide +kernel) (pa_cons (pv 0) (pa_cons (pe_glob (v := .ref _) rfl T.Twice.g rfl) pa_nil))) (pa_cons (pe_callB call_isErr (by rfl) B.isi (by decide +kernel) (pa_cons (pv 0) (pa_cons (pe_glob (v := .ref _) rfl T.NoPair.g rfl) pa_nil))) (pa_cons (pe_callB call_isErr (by rfl) B.isi (by decide +kernel) (pa_cons (pv 0) (pa_cons (pe_glob (v := .ref _) rfl T.Unlike.g rfl) pa_nil))) pa_nil))))))
        (pss_cons (ps_set (i := 1) scK.nd rfl (.inl rfl) (pe_op op_cat (pv 1) (pe_lst (pa_cons (pe_callB call_isErr (by rfl) B.isi (by decide +kernel) (pa_cons (pv 0) (pa_cons (pe_glob (v := .ref _) rfl T.Impossible.g rfl) pa_nil))) (pa_cons (pe_callB call_isErr (by rfl) B.isi (by decide +kernel) (pa_cons (pv 0) (pa_cons (pe_glob (v := .ref _) rfl T.NotAbove.g rfl) pa_nil))) (pa_cons (pe_callB call_isErr (by rfl) B.isi (by decide +kernel) (pa_cons (pv 0) (pa_cons (pe_glob (v := .ref _) rfl T.NotCarried.g rfl) pa_nil))) pa_nil))))))
        (pss_cons (ps_set (i := 1) scK.nd rfl (.inl rfl) (pe_op op_cat (pv 1) (pe_lst (pa_cons (pe_callB call_isErr (by rfl) B.isi (by decide +kernel) (pa_cons (pv 0) (pa_cons (pe_glob (v := .ref _) rfl T.Hanging.g rfl) pa_nil))) (pa_cons (pe_callB call_isErr (by rfl) B.isi (by decide +kernel) (pa_cons (pv 0) (pa_cons (pe_glob (v := .ref _) rfl T.TooMany.g rfl) pa_nil))) (pa_cons (pe_callB call_isErr (by rfl) B.isi (by decide +kernel) (pa_cons (pv 0) (pa_cons (pe_glob (v := .ref _) rfl T.BadText.g rfl) pa_nil))) pa_nil))))))
        (pss_one (ps_ret (pe_op op_cat (pv 1) (pe_lst (pa_cons (pe_callB call_isErr (by rfl) B.isi (by decide +kernel) (pa_cons (pv 0) (pa_cons (pe_glob (v := .ref _) rfl T.BadLine.g rfl) pa_nil))) (pa_cons (pe_callB call_isErr (by rfl) B.isi (by decide +kernel) (pa_cons (pv 0) (pa_cons (pe_glob (v := .ref _) rfl T.Nothing.g rfl) pa_nil))) pa_nil)))))))))))))), ?_⟩
    dsimp only [tSeq, tAsg]
    refine dispB (bs := [decide (i = 0), decide (i = 1), decide (i = 2)]) (he := he) (kin_cons rfl (U.is i hi) (U.kit i 0 hi (by decide)) (kin_cons rfl (U.is i hi) (U.kit i 1 hi (by decide)) (kin_cons rfl (U.is i hi) (U.kit i 2 hi (by decide)) kin_nil))) (by simp) (fun l0 H0 s0 hl0 => ?_)
    refine ⟨_, rfl, ?_⟩
    refine dispB_cat (bs := [decide (i = 3), decide (i = 4), decide (i = 5)]) (he := he.same s0) (kin_cons rfl (U.is i hi) (U.kit i 3 hi (by decide)) (kin_cons rfl (U.is i hi) (U.kit i 4 hi (by decide)) (kin_cons rfl (U.is i hi) (U.kit i 5 hi (by decide)) kin_nil))) hl0 (by simp) (fun l1 H1 t1 hl1 => ?_)
    have s1 := s0.trans t1
    clear hl0
    refine ⟨_, rfl, ?_⟩
    refine dispB_cat (bs := [decide (i = 6), decide (i = 7), decide (i = 8)]) (he := he.same s1) (kin_cons rfl (U.is i hi) (U.kit i 6 hi (by decide)) (kin_cons rfl (U.is i hi) (U.kit i 7 hi (by decide)) (kin_cons rfl (U.is i hi) (U.kit i 8 hi (by decide)) kin_nil))) hl1 (by simp) (fun l2 H2 t2 hl2 => ?_)
    have s2 := s1.trans t2
    clear hl1
    refine ⟨_, rfl, ?_⟩
    refine dispB_cat (bs := [decide (i = 9), decide (i = 10), decide (i = 11)]) (he := he.same s2) (kin_cons rfl (U.is i hi) (U.kit i 9 hi (by decide)) (kin_cons rfl (U.is i hi) (U.kit i 10 hi (by decide)) (kin_cons rfl (U.is i hi) (U.kit i 11 hi (by decide)) kin_nil))) hl2 (by simp) (fun l3 H3 t3 hl3 => ?_)
    have s3 := s2.trans t3
    clear hl2
    refine ⟨_, rfl, ?_⟩
    refine dispB_cat (bs := [decide (i = 12), decide (i = 13), decide (i = 14), decide (i = 15)]) (he := he.same s3) (kin_cons rfl (U.is i hi) (U.kit i 12 hi (by decide)) (kin_cons rfl (U.is i hi) (U.kit i 13 hi (by decide)) (kin_cons rfl (U.is i hi) (U.kit i 14 hi (by decide)) (kin_cons rfl (U.is i hi) (U.kit i 15 hi (by decide)) kin_nil)))) hl3 (by simp) (fun l4 H4 t4 hl4 => ?_)
    have s4 := s3.trans t4
    clear hl3
    refine ⟨_, rfl, ?_⟩
    refine dispB_cat (bs := [decide (i = 16), decide (i = 17), decide (i = 18)]) (he := he.same s4) (kin_cons rfl (U.is i hi) (U.kit i 16 hi (by decide)) (kin_cons rfl (U.is i hi) (U.kit i 17 hi (by decide)) (kin_cons rfl (U.is i hi) (U.kit i 18 hi (by decide)) kin_nil))) hl4 (by simp) (fun l5 H5 t5 hl5 => ?_)
    have s5 := s4.trans t5
    clear hl4
    refine ⟨_, rfl, ?_⟩
    refine dispB_cat (bs := [decide (i = 19), decide (i = 20), decide (i = 21)]) (he := he.same s5) (kin_cons rfl (U.is i hi) (U.kit i 19 hi (by decide)) (kin_cons rfl (U.is i hi) (U.kit i 20 hi (by decide)) (kin_cons rfl (U.is i hi) (U.kit i 21 hi (by decide)) kin_nil))) hl5 (by simp) (fun l6 H6 t6 hl6 => ?_)
    have s6 := s5.trans t6
    clear hl5
    refine ⟨_, rfl, ?_⟩
    refine dispB_cat (bs := [decide (i = 22), decide (i = 23), decide (i = 24)]) (he := he.same s6) (kin_cons rfl (U.is i hi) (U.kit i 22 hi (by decide)) (kin_cons rfl (U.is i hi) (U.kit i 23 hi (by decide)) (kin_cons rfl (U.is i hi) (U.kit i 24 hi (by decide)) kin_nil))) hl6 (by simp) (fun l7 H7 t7 hl7 => ?_)
    have s7 := s6.trans t7
    clear hl6
    refine ⟨_, rfl, ?_⟩
    refine dispB_cat (bs := [decide (i = 25), decide (i = 26)]) (he := he.same s7) (kin_cons rfl (U.is i hi) (U.kit i 25 hi (by decide)) (kin_cons rfl (U.is i hi) (U.kit i 26 hi (by decide)) kin_nil)) hl7 (by simp) (fun l8 H8 t8 hl8 => ?_)
    have s8 := s7.trans t8
    clear hl7
    exact k l8 H8 s8 hl8
end
end K00
namespace K00
open PySem PySem.Spec PyProof.Rows L2
def spStands (cA : Nat → Addr) : Sp := fun vs H Q _ => ∃ (e : Addr) (j : Nat) (fs : List (Str × V)), vs = [.ref e, .int j] ∧ j < 27 ∧ ErrAt H e (cA j) fs ∧ ∀ H' : Hp, Same H H' → Q (.bl true) H'
theorem dp_bools {K : PySem.W.Frag} {H : Hp} : ∀ l : List Bool, DpAll K H (l.map V.bl) (l.map PyData.bool)
  | [] => .nil
  | x :: l => .cons (.bl x) (dp_bools l)
theorem can_bools : ∀ l : List Bool, PyData.canLayAll0 (l.map PyData.bool) = true
  | [] => rfl
  | x :: l => by
    have ih := can_bools l
    simp [PyData.canLayAll0, PyData.canLay0, ih]
theorem deep_bools : ∀ l : List Bool, PyData.depthAll (l.map PyData.bool) = 0
  | [] => rfl
  | x :: l => by
    have ih := deep_bools l
    simp [PyData.depthAll, PyData.depth, ih]
theorem can_boolL (l : List Bool) : PyData.canLay0 (.list (l.map PyData.bool)) = true := by
  have h1 := can_bools l
  simp [PyData.canLay0, h1]
theorem shaped_bools (l : List Bool) : SeqAt.shaped (.list (l.map PyData.bool)) = true := by
  have h1 := can_bools l
  have h2 := deep_bools l
  simp [SeqAt.shaped, PyData.canLay0, PyData.depth, h1, h2]
theorem eqv_bools (l : List Bool) : PyData.eqv (.list (l.map PyData.bool)) (.list (l.map PyData.bool)) = true := PySem.SeqAt.eqv_refl _ (can_boolL l)
theorem mis {j : Nat} (hj : j < 27) : decide (j = 14 ∨ j = 15 ∨ j = 27) = inV (.int (j : Int)) [.int 14, .int 15] := by
  unfold inV
  simp only [List.any_cons, List.any_nil, eqV, Bool.or_false]
  by_cases c : j = 14
  · subst c; rfl
  · by_cases d : j = 15
    · subst d; rfl
    · have h1 : ((14 : Int) == (j : Int)) = false := beq_eq_false_iff_ne.mpr (by omega)
      have h2 : ((15 : Int) == (j : Int)) = false := beq_eq_false_iff_ne.mpr (by omega)
      rw [h1, h2]
      exact decide_eq_false (by omega)
section
variable {P : Program} {w : World} {K : PySem.W.Frag} {mg : Str → Option Value} {base : Heap} {cA : Nat → Addr} {SE : Addr}
theorem scS : FnScope ["_law_error", "_law_place", "_law_at"] ["_law_error", "_law_place"] (defScope (top 39)) := ⟨rfl, rfl, rfl, by decide +kernel, rfl, by decide +kernel, by decide +kernel⟩
theorem ok_stands {f fK : Addr} {fd fdK : FuncData} (F : FnP K "_law_stands_right" (top 39) f fd) (T : T0 P w K mg base cA) (U : T1 K cA SE) (B : B1 mg SE) (FK : FnP K "_law_kin" (top 38) fK fdK) (gK : mg "_law_kin" = some (.ref fK)) :
    FnOk P w K mg base CX0 2 f fd ["_law_error", "_law_place"] (spStands cA) := by
  have GK : FnOk P w K mg base CX0 1 fK fdK ["_law_error"] (spKin cA) := ok_kin FK T U B
  have bK : Binds K fdK ["_law_error"] [] := FK.bindsN fun _ _ _ _ _ _ us hl => match us, hl with | [_], _ => rfl
  refine F.ok scS (fun vs H Q E h => ?_) (fun cdv A outer s H vs Q E hr h => ?_)
  · obtain ⟨e, j, fs, rfl, _⟩ := h
    rfl
  · obtain ⟨e, j, fs, rfl, hj, he, k⟩ := h
    have hr1 : Room 1 _ := hr
    have hj2 : j < 28 := by omega
    refine ⟨_, PSs.nox (pss_cons (ps_if (pt_cmpR (op_neD hr.units) (pe_call GK hr1 rfl gK FK.kp bK .nil pass0 (pa_cons (pv 0) pa_nil)) (pe_lc (own := [("_law_at", 2)]) (g := gName 2) (tt := tYes) rfl scS.nd (pi_range1 (by rfl) B.ran (pa_cons pe_int pa_nil)) (blkOk_by (N := ["_law_error", "_law_place", "_law_at"]) (sc := defScope (top 39)) (by decide +kernel)) (fun _ _ _ _ _ => pg_name (i := 2) scS.nd rfl (Or.inl rfl)) (fun _ _ _ _ _ => pts_nil) (fun _ _ _ _ _ => pe_cmpR op_eq (pv 1) (pv 2) (nomark _))) (nomark _)) (pss_one (ps_ret pe_bl)) pss_nil)
        (pss_cons (ps_if (PW.pt (pw_or (pt_not (pt_val (pe_callB call_isErr (by rfl) B.isi (by decide +kernel) (pa_cons (pv 0) (pa_cons (pe_glob (v := .ref _) rfl B.gSE rfl) pa_nil))))) (pw_or1 (pt_not (pt_val (pe_callB call_isErr (by rfl) B.isi (by decide +kernel) (pa_cons (pv 0) (pa_cons (pe_bltn (v := .ty "ValueError") (by rfl) B.ValueError (by decide +kernel) rfl) pa_nil)))))))) (pss_one (ps_ret pe_bl)) pss_nil)
        (pss_cons (ps_if (pt_cmpR op_ne (pe_callB call_isErr (by rfl) B.isi (by decide +kernel) (pa_cons (pv 0) (pa_cons (pe_glob (v := .ref _) rfl T.Missing.g rfl) pa_nil))) (pe_cmpR op_in_seq (pv 1) (pe_tup (pa_cons pe_int (pa_cons pe_int pa_nil))) (by rfl)) (nomark _)) (pss_one (ps_ret pe_bl)) pss_nil)
        (pss_cons (ps_if (PW.pt (pw_or (pt_val (pe_callB call_isErr (by rfl) B.isi (by decide +kernel) (pa_cons (pv 0) (pa_cons (pe_bltn (v := .ty "LookupError") (by rfl) B.LookupError (by decide +kernel) rfl) pa_nil)))) (pw_or (pt_val (pe_callB call_isErr (by rfl) B.isi (by decide +kernel) (pa_cons (pv 0) (pa_cons (pe_bltn (v := .ty "TypeError") (by rfl) B.TypeError (by decide +kernel) rfl) pa_nil)))) (pw_or1 (pt_val (pe_callB call_isErr (by rfl) B.isi (by decide +kernel) (pa_cons (pv 0) (pa_cons (pe_bltn (v := .ty "ArithmeticError") (by rfl) B.ArithmeticError (by decide +kernel) rfl) pa_nil)))))))) (pss_one (ps_ret pe_bl)) pss_nil)
        (pss_one (ps_ret (pe_and (pe_not (pe_callB call_isErr (by rfl) B.isi (by decide +kernel) (pa_cons (pv 0) (pa_cons (pe_bltn (v := .ty "RuntimeError") (by rfl) B.RuntimeError (by decide +kernel) rfl) pa_nil)))) (pe_one (pe_not (pe_callB call_isErr (by rfl) B.isi (by decide +kernel) (pa_cons (pv 0) (pa_cons (pe_bltn (v := .ty "AttributeError") (by rfl) B.AttributeError (by decide +kernel) rfl) pa_nil)))))))))))), ?_⟩
    refine ⟨_, rfl, e, j, fs, rfl, hj2, he, fun l H1 s1 hl => ?_⟩
    refine ⟨27, rfl, by decide, by decide, fun D nD => ?_⟩
    have nlD : l ≠ D := ne_of_none hl nD
    refine lc_range (lo := 0) (n := (27 : Int).toNat) (fun n H2 => Same H1 H2 ∧ H2 D = some (.lst (((kinOf j).map V.bl).take n))) ⟨fun b o z => by rw [upd_ne (ne_of_none z nD)]; exact z, upd_same⟩ ?_ ?_
    · rintro n H2 hn ⟨s2, hD⟩
      have hn2 : n < 27 := hn
      have el : ((kinOf j).map V.bl)[n]? = some (.bl (decide (j = n))) := by
        unfold kinOf
        rw [List.getElem?_map, List.getElem?_map, List.getElem?_range hn2]
        rfl
      refine ⟨rfl, ?_⟩
      unfold tYes
      dsimp only
      rw [if_pos rfl]
      refine ⟨_, rfl, _, rfl, rfl, _, hD, ?_, fun b o z => ?_, ?_⟩
      · rw [List.length_take, sizeLine_eq]; omega
      · rw [upd_ne (ne_of_none z nD)]; exact s2 b o z
      · have q := List.take_add_one (l := (kinOf j).map V.bl) (i := n)
        rw [el] at q
        rw [upd_same, q]
        have e2 : decide (V.int (j : Int) = V.int (0 + (n : Int))) = decide (j = n) := by
          by_cases c : j = n
          · rw [decide_eq_true c, c]
            exact decide_eq_true (by congr 1; omega)
          · rw [decide_eq_false c]
            exact decide_eq_false fun z => c (by have := V.int.inj z; omega)
        rw [e2]
        rfl
    · rintro H2 ⟨s2, hD⟩
      have hD2 : H2 D = some (.lst ((kinOf j).map V.bl)) := by
        rw [hD]
        rfl
      have he2 := (he.same s1).same s2
      have s12 := s1.trans s2
      refine ⟨_, _, Dp.lst (SqL.of (s2 _ _ hl)) (dp_bools _), Dp.lst (SqL.of hD2) (dp_bools _), shaped_bools _, shaped_bools _, _, rfl, ?_⟩
      rw [eqv_bools]
      refine iteF ?_
      have X := U.is j hj2
      refine ⟨_, rfl, e, cA j, fs, _, _, _, rfl, he2, X, .own SE, U.se j hj2, _, rfl, iteF ⟨_, rfl, e, cA j, fs, _, _, _, rfl, he2, X, .ty _, U.ve j hj2, _, rfl, iteF ?_⟩⟩
      refine ⟨_, rfl, e, cA j, fs, _, _, _, rfl, he2, X, .own _, U.mi j hj2, _, rfl, by show 2 ≤ sizeLine; decide, fun t nt => ⟨t, _, rfl, .inr (SqT.of upd_same), rfl, rfl, rfl, _, rfl, iteNS ?_ ?_⟩⟩
      · exact congrArg V.bl (mis hj)
      have s3 : Same H2 (upd H2 t (.tup [.int 14, .int 15])) := fun b o z => by rw [upd_ne (ne_of_none z nt)]; exact z
      have he3 := he2.same s3
      refine ⟨_, rfl, e, cA j, fs, _, _, _, rfl, he3, X, .ty _, U.lo j hj2, _, rfl, iteF ⟨_, rfl, e, cA j, fs, _, _, _, rfl, he3, X, .ty _, U.ty j hj2, _, rfl, iteF ⟨_, rfl, e, cA j, fs, _, _, _, rfl, he3, X, .ty _, U.ar j hj2, _, rfl, iteF ?_⟩⟩⟩
      exact ⟨_, rfl, e, cA j, fs, _, _, _, rfl, he3, X, .ty _, U.ru j hj2, _, rfl, _, rfl, iteT ⟨_, rfl, e, cA j, fs, _, _, _, rfl, he3, X, .ty _, U.at_ j hj2, _, rfl, k _ (s12.trans s3)⟩⟩
end
end K00
namespace K00
open PySem PySem.Spec PyProof.Rows L2
/-- data that is told in short -/
structure Sh (d : PyData) : Prop where
  sb : d.showable = true
  dp : d.depth ≤ 40
  ln : d.shown.length ≤ 1000
def dvals (d1 d2 : PyData) (j : Nat) : List PyData := if j < 21 then [d1] else if j < 26 then [d1, d2] else []
theorem sh_list {l : List PyData} (h : ∀ d ∈ l, Sh d) (hl : l.length ≤ 2) : (PyData.list l).showable = true ∧ (PyData.list l).depth ≤ 50 ∧ (PyData.list l).shown.length ≤ sizeLine := by
  rw [sizeLine_eq]
  have q := listText_len_le (PyData.shownAll l)
  have e : (PyData.list l).shown = listText (PyData.shownAll l) := by simp only [PyData.shown]
  rw [e]
  match l, hl, h, q with
  | [], _, _, q => 
    refine ⟨by decide, by decide, Nat.le_trans q (by decide)⟩
  | [a], _, h, q =>
    have ha := h a (by simp)
    have h1 := ha.sb
    have h2 := ha.dp
    have h3 := ha.ln
    refine ⟨by simp [PyData.showable, PyData.showableAll, h1], by simp only [PyData.depth, PyData.depthAll]; omega, Nat.le_trans q ?_⟩
    simp only [PyData.shownAll, List.map_cons, List.map_nil, List.sum_cons, List.sum_nil, List.length_cons, List.length_nil]
    omega
  | [a, b], _, h, q =>
    have ha := h a (by simp)
    have hb := h b (by simp)
    have h1 := ha.sb
    have h2 := ha.dp
    have h3 := ha.ln
    have g1 := hb.sb
    have g2 := hb.dp
    have g3 := hb.ln
    refine ⟨by simp [PyData.showable, PyData.showableAll, h1, g1], by simp only [PyData.depth, PyData.depthAll]; omega, Nat.le_trans q ?_⟩
    simp only [PyData.shownAll, List.map_cons, List.map_nil, List.sum_cons, List.sum_nil, List.length_cons, List.length_nil]
    omega
  | _ :: _ :: _ :: _, hl, _, _ => exact absurd hl (by simp)
theorem sh_dvals {d1 d2 : PyData} (h1 : Sh d1) (h2 : Sh d2) (j : Nat) : (∀ d ∈ dvals d1 d2 j, Sh d) ∧ (dvals d1 d2 j).length ≤ 2 := by
  unfold dvals
  split
  · refine ⟨fun d hd => ?_, by simp⟩
    rw [List.mem_singleton.mp hd]
    exact h1
  · split
    · refine ⟨fun d hd => ?_, by simp⟩
      rcases List.mem_cons.mp hd with e | hd
      · rw [e]; exact h1
      · rw [List.mem_singleton.mp hd]; exact h2
    · refine ⟨fun d hd => ?_, by simp⟩
      cases hd
theorem rp_vals {P : Program} {w : World} {t : Addr} {H : Hp} {one two : V} {d1 d2 : PyData} (h1 : Rp P w t H one d1) (h2 : Rp P w t H two d2) (j : Nat) : RpL P w t H (vals one two j) (dvals d1 d2 j) := by
  unfold vals dvals
  split
  · exact .cons h1 .nil
  · split
    · exact .cons h1 (.cons h2 .nil)
    · exact .nil
def spAll (P : Program) (w : World) (cA : Nat → Addr) : Sp := fun vs H Q _ => ∃ (one two : V) (m t : Addr) (es : List Addr) (d1 d2 : PyData) (o : HO), vs = [one, two, .ref m] ∧ H t = some o ∧ H m = some (.lst (es.map V.ref)) ∧ Errs H es (due cA one two (List.range 27)) ∧
  Rp P w t H one d1 ∧ Rp P w t H two d2 ∧ Sh d1 ∧ Sh d2 ∧ ∀ H' : Hp, Same H H' → Q (.bl true) H'
theorem errs_at {H : Hp} : ∀ {es : List Addr} {D : List (Addr × List (Str × V))} (_ : Errs H es D) {i : Nat} {d : Addr × List (Str × V)}, D[i]? = some d → ∃ e, (es.map V.ref)[i]? = some (.ref e) ∧ ErrAt H e d.1 d.2
  | _, _, .nil, i, d, h => by simp at h
  | _, _, .cons h t, 0, d, q => by
    simp only [List.getElem?_cons_zero, Option.some.injEq] at q
    subst q
    exact ⟨_, rfl, h⟩
  | _, _, .cons h t, i + 1, d, q => by
    rw [List.getElem?_cons_succ] at q
    obtain ⟨e, h1, h2⟩ := errs_at t q
    exact ⟨e, by rw [List.map_cons, List.getElem?_cons_succ]; exact h1, h2⟩
section
variable {P : Program} {w : World} {K : PySem.W.Frag} {mg : Str → Option Value} {base : Heap} {cA : Nat → Addr} {SE : Addr}
theorem scAl : FnScope ["_law_one", "_law_two", "_law_made", "_law_place", "_law_error", "_law_due"] ["_law_one", "_law_two", "_law_made"] (defScope (top 40)) := ⟨rfl, rfl, rfl, by decide +kernel, rfl, by decide +kernel, by decide +kernel⟩
theorem ok_all {f fF fS fK : Addr} {fd fdF fdS fdK : FuncData} (F : FnP K "_law_all_right" (top 40) f fd) (T : T0 P w K mg base cA) (U : T1 K cA SE) (B : B1 mg SE) (FF : FnP K "_law_fields" (top 37) fF fdF) (gF : mg "_law_fields" = some (.ref fF))
    (FS : FnP K "_law_stands_right" (top 39) fS fdS) (gS : mg "_law_stands_right" = some (.ref fS)) (FK : FnP K "_law_kin" (top 38) fK fdK) (gK : mg "_law_kin" = some (.ref fK)) :
    FnOkG P w K mg base CX0 3 f fd ["_law_one", "_law_two", "_law_made"] (spAll P w cA) := by
  have GF : FnOk P w K mg base CX0 1 fF fdF ["_law_error", "_law_place"] (spFields cA) := ok_fields FF U
  have bF : Binds K fdF ["_law_error", "_law_place"] [] := FF.bindsN fun _ _ _ _ _ _ us hl => match us, hl with | [_, _], _ => rfl
  have GS : FnOk P w K mg base CX0 2 fS fdS ["_law_error", "_law_place"] (spStands cA) := ok_stands FS T U B FK gK
  have bS : Binds K fdS ["_law_error", "_law_place"] [] := FS.bindsN fun _ _ _ _ _ _ us hl => match us, hl with | [_, _], _ => rfl
  refine FunD.okG F scAl (fun vs H Q E h => ?_) (fun cdv A outer s H vs Q E hG hr h => ?_)
  · obtain ⟨one, two, m, t, es, d1, d2, o, rfl, _⟩ := h
    rfl
  · obtain ⟨one, two, m, t, es, d1, d2, o, rfl, hT, hm, he, r1, r2, s1, s2, k⟩ := h
    have hr2 : Room 2 _ := hr
    have hr1 : Room 1 _ := hr2.mono (by decide)
    refine ⟨_, PSs.nox (pss_cons (ps_for (PassesOwn.never) rfl (pi_enum (by rfl) B.enu (pa_cons (pv 2) pa_nil)) (pg_tup rfl (pgs_cons (pg_name (i := 3) scAl.nd rfl (Or.inl rfl)) (pgs_cons (pg_name (i := 4) scAl.nd rfl (Or.inl rfl)) pgs_nil)))
          (pss_cons (ps_set (i := 5) scAl.nd rfl (.inl rfl) (pe_ifExp (pt_cmpR op_lt (pv 3) pe_int (nomark _)) (pe_lstS (pa_cons (pv 0) pa_nil)) (pe_ifExp (pt_cmpR op_lt (pv 3) pe_int (nomark _)) (pe_lstS (pa_cons (pv 0) (pa_cons (pv 1) pa_nil))) (pe_lstS pa_nil))))
          (pss_one (ps_if (PW.pt (pw_or (pt_cmpR op_ne (pe_callB (call_repr hG hr.units) (by rfl) B.rep (by decide +kernel) (pa_cons (pe_call GF hr1 rfl gF FF.kp bF .nil pass0 (pa_cons (pv 4) (pa_cons (pv 3) pa_nil))) pa_nil)) (pe_callB (call_repr hG hr.units) (by rfl) B.rep (by decide +kernel) (pa_cons (pv 5) pa_nil)) (nomark _))
            (pw_or1 (pt_not (pt_val (pe_call GS hr2 rfl gS FS.kp bS .nil pass0 (pa_cons (pv 4) (pa_cons (pv 3) pa_nil)))))))) (pss_one (ps_ret pe_bl)) pss_nil))))
        (pss_one (ps_ret (pe_cmpR op_eq (pe_callB call_len_seq (by rfl) B.len PySem.boot_len (pa_cons (pv 2) pa_nil)) pe_int (nomark _))))), ?_⟩
    refine ⟨_, rfl, m, es.map V.ref, rfl, SqL.of hm, ?_⟩
    have lenE : (es.map V.ref).length = 27 := short he rfl
    refine for_it walk_enum (fun i σ H' => (∃ v3 v4 v5, σ = [some one, some two, some (.ref m), v3, v4, v5]) ∧ Same H H') ⟨⟨none, none, none, rfl⟩, Same.refl _⟩ (fun i σ H' _ p => SqL.of (p.2 _ _ hm)) ?_ ?_
    · rintro i x σ H1 H2 hi ⟨⟨v3, v4, v5, rfl⟩, sa⟩ ⟨T1, x1, x2, rfl, n1, rfl, e1, e2⟩
      cases e1
      rw [lenE] at hi
      have hD : (due cA one two (List.range 27))[i]? = some (cA i, fds one two i) := by
        unfold due
        rw [List.getElem?_map, List.getElem?_range hi]
        rfl
      obtain ⟨e, ge, he1⟩ := errs_at he hD
      obtain rfl : x2 = V.ref e := Option.some.inj (e2.symm.trans ge)
      have sb : Same H (upd H1 T1 (.tup [V.int (i : Nat), V.ref e])) := fun b o z => by rw [upd_ne (ne_of_none (sa b o z) n1)]; exact sa b o z
      refine ⟨T1, _, rfl, SqT.of upd_same, rfl, _, _, rfl, _, _, rfl, rfl, ?_⟩
      generalize upd H1 T1 (.tup [V.int (i : Nat), V.ref e]) = H3 at sb ⊢
      refine ⟨_, rfl, _, _, rfl, rfl, _, rfl, ite2 (fun c1 => ?_) (fun c1 => ?_)⟩
      case' refine_1 =>
        have c1 : (i : Int) < 21 := of_decide_eq_true c1
        have ev : vals one two i = [one] := if_pos (by omega)
        refine ⟨_, rfl, by rw [sizeLine_eq]; show 1 ≤ 16777216; decide, fun p np ns => ?_⟩
      case' refine_2 =>
        have c1 : ¬ (i : Int) < 21 := fun z => c1 (decide_eq_true z)
        have n21 : ¬ i < 21 := by omega
        refine ⟨_, rfl, _, _, rfl, rfl, _, rfl, ite2 (fun c2 => ?_) (fun c2 => ?_)⟩
      case' refine_2.refine_1 =>
        have c2 : (i : Int) < 26 := of_decide_eq_true c2
        have ev : vals one two i = [one, two] := (if_neg n21).trans (if_pos (by omega))
        refine ⟨_, rfl, _, rfl, by rw [sizeLine_eq]; show 2 ≤ 16777216; decide, fun p np ns => ?_⟩
      case' refine_2.refine_2 =>
        have c2 : ¬ (i : Int) < 26 := fun z => c2 (decide_eq_true z)
        have ev : vals one two i = [] := (if_neg n21).trans (if_neg (by omega))
        refine ⟨by rw [sizeLine_eq]; show 0 ≤ 16777216; decide, fun p np ns => ?_⟩
      all_goals
        obtain ⟨H4, eH4⟩ : ∃ H4, H4 = upd H3 p (.lst (vals one two i)) := ⟨_, rfl⟩
        have sc : Same H H4 := fun b o z => by rw [eH4, upd_ne (ne_of_none (sb b o z) np)]; exact sb b o z
        have eq4 := eH4
        rw [ev] at eq4
        rw [← eq4]
        have hp4 : H4 p = some (.lst (vals one two i)) := by rw [eH4]; exact upd_same
        have npt : p ≠ t := fun z => by rw [z] at np; rw [sb _ _ hT] at np; cases np
        have he4 : ErrAt H4 e (cA i) (fds one two i) := ErrAt.same he1 sc
        obtain ⟨w1, w2⟩ := sh_dvals s1 s2 i
        obtain ⟨u1, u2, u3⟩ := sh_list w1 w2
        refine ⟨_, rfl, _, rfl, e, i, one, two, rfl, hi, he4, fun p1 np1 ns1 => ?_⟩
        have s5 : Same H4 (upd H4 p1 (.lst (vals one two i))) := fun b o z => by rw [upd_ne (ne_of_none z np1)]; exact z
        have np1t : p1 ≠ t := fun z => by rw [z] at np1; rw [sc _ _ hT] at np1; cases np1
        have sd := sc.trans s5
        have R5 : RpL P w t (upd H4 p1 (.lst (vals one two i))) (vals one two i) (dvals d1 d2 i) := (rp_vals r1 r2 i).keep sd.but
        refine ⟨t, _, .list (dvals d1 d2 i), rfl, rp_lst upd_same np1t ns1 R5, u1, u2, u3, ?_⟩
        refine ⟨_, rfl, t, _, .list (dvals d1 d2 i), rfl, rp_lst (s5 _ _ hp4) npt ns R5, u1, u2, u3, rfl, _, rfl, iteNS rfl ?_⟩
        refine ⟨_, rfl, _, rfl, e, i, _, rfl, hi, he4.same s5, fun H6 s6 => ?_⟩
        refine ⟨_, rfl, iteF ⟨⟨_, _, _, rfl⟩, sd.trans s6⟩⟩
    · rintro σ H1 ⟨⟨v3, v4, v5, rfl⟩, sa⟩
      refine ⟨_, rfl, _, _, rfl, .inl (SqL.of (sa _ _ hm)), ?_⟩
      rw [lenE]
      have e27 : decide (V.int ((27 : Nat) : Int) = V.int 27) = true := decide_eq_true rfl
      refine ⟨rfl, ?_⟩
      show Q (.bl (decide (V.int ((27 : Nat) : Int) = V.int 27))) H1
      rw [e27]
      exact k _ sa
end
end K00
namespace K00
open PySem PySem.Spec PyProof.Rows L2
theorem int_len {i : Int} (h : i.natAbs < 10 ^ 63) : (PyData.int i).shown.length ≤ 64 := by
  have e := int_text_length_le10 (k := 63) (by decide) h
  show (Str.ofString (toString i)).length ≤ 64
  rw [PySem.ofString_length]; exact e
theorem int_log {i : Int} (h : i.natAbs < 10 ^ 63) : i.natAbs.log2 < 1920 :=
  PySem.Flt.log2_lt_of (by decide) (Nat.lt_trans h (by decide +kernel))
theorem sh_int {i : Int} (h : i.natAbs < 10 ^ 63) : Sh (.int i) :=
  ⟨by simp only [PyData.showable]; exact decide_eq_true (int_log h), by simp only [PyData.depth]; exact Nat.zero_le _, Nat.le_trans (int_len h) (by decide)⟩
theorem sh_int1 {i : Int} (h : i.natAbs < 10 ^ 63) : Sh (.list [.int i]) := by
  have q := listText_len_le (PyData.shownAll [.int i])
  have e : (PyData.list [.int i]).shown = listText (PyData.shownAll [.int i]) := by simp only [PyData.shown]
  have l := int_len h
  refine ⟨?_, by simp only [PyData.depth, PyData.depthAll]; decide, ?_⟩
  · simp only [PyData.showable, PyData.showableAll, Bool.and_true]
    exact decide_eq_true (int_log h)
  · rw [e]
    refine Nat.le_trans q ?_
    simp only [PyData.shownAll, List.map_cons, List.map_nil, List.sum_cons, List.sum_nil, List.length_cons, List.length_nil]
    omega
def Told (P : Program) (w : World) (t : Addr) (H : Hp) (v : V) : Prop := ∃ d, Rp P w t H v d ∧ Sh d
theorem Told.keep {P : Program} {w : World} {t : Addr} {H H' : Hp} {v : V} (h : Told P w t H v) (s : KeepBut t H H') : Told P w t H' v := let ⟨d, r, s'⟩ := h; ⟨d, r.keep s, s'⟩
theorem sh_c1 : Sh .none := ⟨by decide +kernel, by decide +kernel, by decide +kernel⟩
theorem sh_c2 (b : Bool) : Sh (.bool b) := by cases b <;> exact ⟨by decide +kernel, by decide +kernel, by decide +kernel⟩
theorem sh_c3 : Sh (.str "part") := ⟨by decide +kernel, by decide +kernel, by decide +kernel⟩
theorem sh_c4 : Sh (.str "") := ⟨by decide +kernel, by decide +kernel, by decide +kernel⟩
theorem sh_c5 : Sh (.tuple [.str "a", .int 1]) := ⟨by decide +kernel, by decide +kernel, by decide +kernel⟩
theorem sh_c6 : Sh (.dict (List.zip [.str "a"] [.list [.int 1]])) := ⟨by decide +kernel, by decide +kernel, by decide +kernel⟩
theorem sh_c7 : Sh (.str "book") := ⟨by decide +kernel, by decide +kernel, by decide +kernel⟩
theorem sh_c8 : Sh (.list []) := ⟨by decide +kernel, by decide +kernel, by decide +kernel⟩
theorem sh_c9 : Sh (.tuple []) := ⟨by decide +kernel, by decide +kernel, by decide +kernel⟩
theorem sh_c10 : Sh (.dict (List.zip [.int 1] [.int 2])) := ⟨by decide +kernel, by decide +kernel, by decide +kernel⟩
theorem Till.same {H H' : Hp} {t c : Addr} {cells : List Int} {i g : Int} (T : Till H t c cells i g) (s : Same H H') : Till H' t c cells i g := ⟨s _ _ T.ht, s _ _ T.hc, T.ne⟩
theorem same_disp {H : Hp} {D p : Addr} {x o o0 : HO} (nD : H D = none) (np : upd H D o0 p = none) : Same H (upd (upd (upd H D o0) p x) D o) ∧ upd (upd (upd H D o0) p x) D o p = some x ∧ upd (upd (upd H D o0) p x) D o D = some o := by
  have h : D ≠ p := fun z => by rw [← z, upd_same] at np; cases np
  refine ⟨fun b u e => ?_, ?_, upd_same⟩
  · have h1 : b ≠ D := ne_of_none e nD
    have h2 : b ≠ p := fun z => by rw [← z, upd_ne h1, e] at np; cases np
    rw [upd_ne h1, upd_ne h2, upd_ne h1]
    exact e
  · rw [upd_ne h.symm, upd_same]
theorem same_disp0 {H : Hp} {D : Addr} {o o0 : HO} (nD : H D = none) : Same H (upd (upd H D o0) D o) := fun b u e => by
  have h1 : b ≠ D := ne_of_none e nD
  rw [upd_ne h1, upd_ne h1]
  exact e
theorem told_non {P : Program} {w : World} {t : Addr} {H : Hp} : Told P w t H .non := ⟨_, rp_non, sh_c1⟩
theorem told_bl {P : Program} {w : World} {t : Addr} {H : Hp} (b : Bool) : Told P w t H (.bl b) := ⟨_, rp_bl b, sh_c2 b⟩
theorem told_int {P : Program} {w : World} {t : Addr} {H : Hp} {n : Int} (h : n.natAbs < 10 ^ 63) : Told P w t H (.int n) := ⟨_, rp_int n, sh_int h⟩
def spLaw (K : PySem.W.Frag) : Sp := fun vs H Q _ => ∃ (a : Addr) (ns : List Int), vs = [.ref a] ∧ SqL K H a (ns.map V.int) ∧ ns.length ≤ 63 ∧ ∀ H' : Hp, Q (.bl true) H'
theorem due_cat (cA : Nat → Addr) (one two : V) : due cA one one (List.range 14) ++ due cA one two [14, 15, 16, 17, 18, 19, 20, 21, 22, 23, 24, 25, 26] = due cA one two (List.range 27) := rfl
section
variable {P : Program} {w : World} {K : PySem.W.Frag} {mg : Str → Option Value} {base : Heap} {cA : Nat → Addr} {SE : Addr}
/-- the law's defs, each at its place -/
structure Defs (K : PySem.W.Frag) (mg : Str → Option Value) where
  (fT fC fO fP fX fN fF fK fS fA : Addr)
  (dT dC dO dP dX dN dF dK dS dA : FuncData)
  FT : FnP K "_law_till" (top 31) fT dT
  FC : FnP K "_law_coin" (top 32) fC dC
  FO : FnP K "_law_of" (top 33) fO dO
  FP : FnP K "_law_parts" (top 34) fP dP
  FX : FnP K "_law_others" (top 35) fX dX
  FN : FnP K "_law_others_named" (top 36) fN dN
  FF : FnP K "_law_fields" (top 37) fF dF
  FK : FnP K "_law_kin" (top 38) fK dK
  FS : FnP K "_law_stands_right" (top 39) fS dS
  FA : FnP K "_law_all_right" (top 40) fA dA
  gT : mg "_law_till" = some (.ref fT)
  gC : mg "_law_coin" = some (.ref fC)
  gO : mg "_law_of" = some (.ref fO)
  gP : mg "_law_parts" = some (.ref fP)
  gX : mg "_law_others" = some (.ref fX)
  gN : mg "_law_others_named" = some (.ref fN)
  gF : mg "_law_fields" = some (.ref fF)
  gK : mg "_law_kin" = some (.ref fK)
  gS : mg "_law_stands_right" = some (.ref fS)
  gA : mg "_law_all_right" = some (.ref fA)
theorem scL : FnScope ["_law_script", "_law_till_here", "_law_number", "_law_plain", "_law_one", "_law_two", "_law_error"] ["_law_script"] (defScope (top 41)) := ⟨rfl, rfl, rfl, by decide +kernel, rfl, by decide +kernel, by decide +kernel⟩
theorem ok_law {f : Addr} {fd : FuncData} (F : FnP K "law" (top 41) f fd) (D : Defs K mg) (T : T0 P w K mg base cA) (U : T1 K cA SE) (B : B1 mg SE) (L : Blt mg) : FnOkG P w K mg base CX0 4 f fd ["_law_script"] (spLaw K) := by
  have GT : FnOk P w K mg base CX0 1 D.fT D.dT ["_law_script"] (spTill K) := ok_till D.FT L
  have bT : Binds K D.dT ["_law_script"] [] := D.FT.bindsN fun _ _ _ _ _ _ us hl => match us, hl with | [_], _ => rfl
  have GC : FnOk P w K mg base CX0 1 D.fC D.dC ["_law_till_here", "_law_many"] spCoin := ok_coin D.FC L
  have bC : Binds K D.dC ["_law_till_here", "_law_many"] [] := D.FC.bindsN fun _ _ _ _ _ _ us hl => match us, hl with | [_, _], _ => rfl
  have GO : FnOk P w K mg base CX0 2 D.fO D.dO ["_law_till_here", "_law_some"] spOf := ok_of D.FO L D.gC D.FC
  have bO : Binds K D.dO ["_law_till_here", "_law_some"] [] := D.FO.bindsN fun _ _ _ _ _ _ us hl => match us, hl with | [_, _], _ => rfl
  have GP : FnOk P w K mg base CX0 3 D.fP D.dP ["_law_part", "_law_turned"] (spParts cA) := ok_parts D.FP T
  have bP : Binds K D.dP ["_law_part", "_law_turned"] [] := D.FP.bindsN fun _ _ _ _ _ _ us hl => match us, hl with | [_, _], _ => rfl
  have GX : FnOk P w K mg base CX0 3 D.fX D.dX ["_law_one", "_law_two"] (spOthers cA) := ok_Ot D.FX T
  have bX : Binds K D.dX ["_law_one", "_law_two"] [] := D.FX.bindsN fun _ _ _ _ _ _ us hl => match us, hl with | [_, _], _ => rfl
  have GN : FnOk P w K mg base CX0 3 D.fN D.dN ["_law_one", "_law_two"] (spOthers cA) := ok_On D.FN T
  have bN : Binds K D.dN ["_law_one", "_law_two"] [] := D.FN.bindsN fun _ _ _ _ _ _ us hl => match us, hl with | [_, _], _ => rfl
  have GK : FnOk P w K mg base CX0 1 D.fK D.dK ["_law_error"] (spKin cA) := ok_kin D.FK T U B
  have bK : Binds K D.dK ["_law_error"] [] := D.FK.bindsN fun _ _ _ _ _ _ us hl => match us, hl with | [_], _ => rfl
  have GA : FnOkG P w K mg base CX0 3 D.fA D.dA ["_law_one", "_law_two", "_law_made"] (spAll P w cA) := ok_all D.FA T U B D.FF D.gF D.FS D.gS D.FK D.gK
  have bA : Binds K D.dA ["_law_one", "_law_two", "_law_made"] [] := D.FA.bindsN fun _ _ _ _ _ _ us hl => match us, hl with | [_, _, _], _ => rfl
  refine FunD.okG F scL (fun vs H Q E h => ?_) (fun cdv A outer s H vs Q E hG hr h => ?_)
  · obtain ⟨a, ns, rfl, _⟩ := h
    rfl
  · obtain ⟨a, ns, rfl, hS, hl, k⟩ := h
    have hr3 : Room 3 _ := hr
    have hr2 : Room 2 _ := hr3.mono (by decide)
    have hr1 : Room 1 _ := hr3.mono (by decide)
    refine ⟨_, PSs.nox (pss_cons (ps_set (i := 1) scL.nd rfl (.inl rfl) (pe_call GT hr1 rfl D.gT D.FT.kp bT .nil pass0 (pa_cons (pv 0) pa_nil)))
        (pss_cons (ps_set (i := 2) scL.nd rfl (.inl rfl) (pe_op op_mulW (pe_call GO hr2 rfl D.gO D.FO.kp bO .nil pass0 (pa_cons (pv 1) (pa_cons (pe_lst (pa_cons pe_int (pa_cons (pe_un un_neg pe_int) pa_nil))) pa_nil)))
            (pe_call GC hr1 rfl D.gC D.FC.kp bC .nil pass0 (pa_cons (pv 1) (pa_cons (pe_op op_pow pe_int pe_int) pa_nil)))))
        (pss_cons (ps_set (i := 3) scL.nd rfl (.inl rfl) (pe_lst (pa_cons pe_non (pa_cons pe_bl (pa_cons (pv 2) (pa_cons pe_str (pa_cons pe_str (pa_cons (pe_tup (pa_cons pe_str (pa_cons pe_int pa_nil))) (pa_cons (pe_lstS (pa_cons (pv 2) pa_nil))
            (pa_cons (pe_disp (pps_cons pe_str (pe_lstS (pa_cons pe_int pa_nil)) pps_nil) rfl rfl (by decide) (by decide)) pa_nil))))))))))
        (pss_cons (ps_par (i := 4) (j := 5) rfl scL.nd rfl rfl (by decide) rfl rfl (pa_cons (pe_call GO hr2 rfl D.gO D.FO.kp bO .nil pass0 (pa_cons (pv 1) (pa_cons (pv 3) pa_nil)))
            (pa_cons (pe_call GO hr2 rfl D.gO D.FO.kp bO .nil pass0 (pa_cons (pv 1) (pa_cons (pe_lst (pa_cons pe_int (pa_cons pe_bl (pa_cons pe_str (pa_cons (pe_lstS pa_nil) (pa_cons (pe_tup pa_nil)
              (pa_cons (pe_disp (pps_cons pe_int pe_int pps_nil) rfl rfl (by decide) (by decide)) (pa_cons (pe_op op_add (pv 2) pe_int) (pa_cons pe_non pa_nil))))))))) pa_nil))) pa_nil)) rfl)
        (pss_cons (ps_if (pt_not (pt_val (pe_callG GA hG hr3 rfl D.gA D.FA.kp bA .nil pass0 (pa_cons (pv 4) (pa_cons (pv 5) (pa_cons (pe_op op_cat (pe_call GP hr3 rfl D.gP D.FP.kp bP .nil pass0 (pa_cons (pv 4) (pa_cons pe_bl pa_nil))) (pe_call GX hr3 rfl D.gX D.FX.kp bX .nil pass0 (pa_cons (pv 4) (pa_cons (pv 5) pa_nil)))) pa_nil)))))) (pss_one (ps_ret pe_bl)) pss_nil)
        (pss_cons (ps_if (pt_not (pt_val (pe_callG GA hG hr3 rfl D.gA D.FA.kp bA .nil pass0 (pa_cons (pv 4) (pa_cons (pv 5) (pa_cons (pe_op op_cat (pe_call GP hr3 rfl D.gP D.FP.kp bP .nil pass0 (pa_cons (pv 4) (pa_cons pe_bl pa_nil))) (pe_call GN hr3 rfl D.gN D.FN.kp bN .nil pass0 (pa_cons (pv 4) (pa_cons (pv 5) pa_nil)))) pa_nil)))))) (pss_one (ps_ret pe_bl)) pss_nil)
        (pss_cons (ps_for PassesOwn.never rfl (pi_list (pe_lst (pa_cons (pe_eM T.Missing hr2 rfl (by decide) (pa_cons (pv 4) pa_nil)) (pa_cons (pe_eMK T.Missing hr2 rfl (pk_cons (pv 4) pk_nil)) pa_nil)))) (pg_name (i := 6) scL.nd rfl (Or.inl rfl))
            (pss_cons (ps_if (PW.pt (pw_or (pt_cmpR op_ne (pe_callB (call_repr hG hr.units) (by rfl) B.rep (by decide +kernel) (pa_cons (pe_errF (pv 6) rfl) pa_nil)) (pe_callB (call_repr hG hr.units) (by rfl) B.rep (by decide +kernel) (pa_cons (pv 4) pa_nil)) (nomark _))
                (pw_or1 (pt_cmpR op_in_seq pe_bl (pe_call GK hr1 rfl D.gK D.FK.kp bK .nil pass0 (pa_cons (pv 6) pa_nil)) (by rfl))))) (pss_one (ps_ret pe_bl)) pss_nil)
            (pss_one (ps_if (PW.pt (pw_or (pt_not (pt_val (pe_callB call_isErr (by rfl) B.isi (by decide +kernel) (pa_cons (pv 6) (pa_cons (pe_glob (v := .ref _) rfl B.gSE rfl) pa_nil))))) (pw_or1 (pt_not (pt_val (pe_callB call_isErr (by rfl) B.isi (by decide +kernel) (pa_cons (pv 6) (pa_cons (pe_bltn (v := .ty "ValueError") (by rfl) B.ValueError (by decide +kernel) rfl) pa_nil)))))))) (pss_one (ps_ret pe_bl)) pss_nil))))
        (pss_one (ps_ret pe_bl))))))))), ?_⟩
    refine ⟨_, rfl, a, ns, rfl, hS, hl, fun t c H1 s1 nt T1 => ?_⟩
    refine ⟨_, rfl, _, rfl, by rw [sizeLine_eq]; show 2 ≤ 16777216; decide, fun p np => ?_⟩
    have hpt : p ≠ t := fun z => by rw [z, T1.ht] at np; cases np
    refine ⟨t, c, p, _, 0, 0, _, rfl, T1.same (same_upd np), by decide, by decide, by decide, hpt, upd_same, by decide, by decide, fun v i2 g2 H2 hv i20 i21 g20 k2 T2 => ?_⟩
    obtain ⟨e, rfl, he⟩ : ∃ e : Int, v = .int e ∧ e.natAbs = 1 := by
      rcases List.mem_cons.mp hv with q | hv
      · exact ⟨1, q, rfl⟩
      · exact ⟨-1, List.mem_singleton.mp hv, rfl⟩
    refine ⟨_, rfl, _, _, rfl, rfl, ⟨by decide, by decide, by decide⟩, t, c, _, i2, g2, _, rfl, T2, i20, by omega, g20, by decide +kernel, by decide +kernel, fun r i3 g3 H3 r0 r1 i30 i31 g30 k3 T3 => ?_⟩
    have r2 : r.natAbs < 10 ^ 60 := by
      have q : r < (10 : Int) ^ (60 : Nat) := r1
      have q2 : ((10 : Int) ^ (60 : Nat)) = ((10 ^ 60 : Nat) : Int) := by decide +kernel
      rw [q2] at q
      omega
    have r3 : (e * r).natAbs < 10 ^ 60 := by
      rw [Int.natAbs_mul, he, Nat.one_mul]
      exact r2
    refine ⟨e, r, rfl, rfl, wide_mul (a := 1) (b := 200) (by rw [he]; decide) (Nat.lt_of_lt_of_le r2 (by decide +kernel)) (by decide) (by decide) (by decide), ?_⟩
    have gen : ∀ n : Int, n.natAbs < 10 ^ 60 → n.natAbs < 10 ^ 63 ∧ (n + 1).natAbs < 10 ^ 63 := fun n h => by
      have q : (10 : Nat) ^ 60 + 1 < 10 ^ 63 := by decide +kernel
      exact ⟨by omega, by omega⟩
    obtain ⟨r4, r5⟩ := gen _ r3
    refine ⟨_, rfl, by rw [sizeLine_eq]; show 2 ≤ 16777216; decide, fun pT nT => ⟨_, rfl, by rw [sizeLine_eq]; show 1 ≤ 16777216; decide, fun pL nL nLs => ?_⟩⟩
    refine fun pD nD => ⟨by rw [sizeLine_eq]; show 1 ≤ 16777216; decide, fun pI nI nIs => ?_⟩
    have dDI : pD ≠ pI := fun z => by rw [← z, upd_same] at nI; cases nI
    refine ⟨by rw [upd_ne dDI, upd_same], [(.inr "a", .ref pI)], rfl, by show 1 ≤ 15; decide, by rw [sizeLine_eq]; show 8 ≤ 16777216; decide, fun pM nM => ?_⟩
    have s4 : Same H3 (upd H3 pT (.tup [.str "a", .int 1])) := same_upd nT
    have s5 := same_upd (o := .lst [.int (e * r)]) nL
    obtain ⟨s6, hI, hD⟩ := same_disp (x := .lst [.int 1]) (o := .dK (mergeK [] [(.inr "a", .ref pI)])) nD nI
    have s7 := same_upd (o := .lst [.non, .bl true, .int (e * r), .str "part", .str "", .ref pT, .ref pL, .ref pD]) nM
    have hpTt : pT ≠ t := fun z => by rw [z, T3.ht] at nT; cases nT
    have hpLt : pL ≠ t := fun z => by rw [z, s4 _ _ T3.ht] at nL; cases nL
    have hpDt : pD ≠ t := fun z => by rw [z, s5 _ _ (s4 _ _ T3.ht)] at nD; cases nD
    have hpIt : pI ≠ t := fun z => by rw [z, upd_ne hpDt.symm, s5 _ _ (s4 _ _ T3.ht)] at nI; cases nI
    have hpMt : pM ≠ t := fun z => by rw [z, s6 _ _ (s5 _ _ (s4 _ _ T3.ht))] at nM; cases nM
    have T4 := T3.same (s4.trans (s5.trans (s6.trans s7)))
    have told : ∀ v ∈ [V.non, .bl true, .int (e * r), .str "part", .str "", .ref pT, .ref pL, .ref pD], Told P w t _ v := fun v hv => by
      simp only [List.mem_cons, List.not_mem_nil, or_false] at hv
      rcases hv with rfl | rfl | rfl | rfl | rfl | rfl | rfl | rfl
      · exact told_non
      · exact told_bl _
      · exact told_int r4
      · exact ⟨_, rp_str _, sh_c3⟩
      · exact ⟨_, rp_str _, sh_c4⟩
      · exact Told.keep ⟨_, rp_tup upd_same hpTt (.cons (rp_str _) (.cons (rp_int _) .nil)), sh_c5⟩ (s5.trans (s6.trans s7)).but
      · exact Told.keep ⟨_, rp_lst upd_same hpLt nLs (.cons (rp_int _) .nil), sh_int1 r4⟩ (s6.trans s7).but
      · exact Told.keep ⟨_, rp_dK hD hpDt (.cons (rp_str "a") .nil) (.cons (rp_lst hI hpIt nIs (.cons (rp_int 1) .nil)) .nil) rfl, sh_c6⟩ s7.but
    refine ⟨_, rfl, _, rfl, t, c, pM, _, i3, g3, _, rfl, T4, i30, by omega, g30, hpMt, upd_same, by show 0 < 8; decide, by show 8 ≤ 10000; decide, fun one i4 g4 H4 hv4 i40 i41 g40 k4 T5 => ?_⟩
    have told1 := (told one hv4).keep k4
    have sz0 : 0 ≤ sizeLine := Nat.zero_le _
    have sz8 : 8 ≤ sizeLine := by rw [sizeLine_eq]; decide
    clear told s4 s5 s6 s7 hI hD nM nI nD nL nT k4 T4 hv4
    refine ⟨_, rfl, sz0, fun pE nE nEs => ⟨sz0, fun pU nU => ?_⟩⟩
    refine fun pF nF => ⟨upd_same, [(.inl 1, .int 2)], rfl, by show 1 ≤ 15; decide, ?_⟩
    refine ⟨_, rfl, _, _, rfl, rfl, sz8, fun pN nN => ?_⟩
    have s4 : Same H4 (upd H4 pE (.lst [])) := same_upd nE
    have s5 := same_upd (o := .tup []) nU
    have s6 := same_disp0 (o := .dK (mergeK [] [(.inl 1, .int 2)])) (o0 := .dK []) nF
    have s7 := same_upd (o := .lst [.int 0, .bl false, .str "book", .ref pE, .ref pU, .ref pF, .int (e * r + 1), .non]) nN
    have hpEt : pE ≠ t := fun z => by rw [z, T5.ht] at nE; cases nE
    have hpUt : pU ≠ t := fun z => by rw [z, s4 _ _ T5.ht] at nU; cases nU
    have hpFt : pF ≠ t := fun z => by rw [z, s5 _ _ (s4 _ _ T5.ht)] at nF; cases nF
    have hpNt : pN ≠ t := fun z => by rw [z, s6 _ _ (s5 _ _ (s4 _ _ T5.ht))] at nN; cases nN
    have s47 := s4.trans (s5.trans (s6.trans s7))
    have T6 := T5.same s47
    have told : ∀ v ∈ [V.int 0, .bl false, .str "book", .ref pE, .ref pU, .ref pF, .int (e * r + 1), .non], Told P w t _ v := fun v hv => by
      simp only [List.mem_cons, List.not_mem_nil, or_false] at hv
      rcases hv with rfl | rfl | rfl | rfl | rfl | rfl | rfl | rfl
      · exact told_int (by decide)
      · exact told_bl _
      · exact ⟨_, rp_str _, sh_c7⟩
      · exact Told.keep ⟨_, rp_lst upd_same hpEt nEs .nil, sh_c8⟩ (s5.trans (s6.trans s7)).but
      · exact Told.keep ⟨_, rp_tup upd_same hpUt .nil, sh_c9⟩ (s6.trans s7).but
      · exact Told.keep ⟨_, rp_dK (kvs := [(.inl 1, .int 2)]) (ks := [.int 1]) (ds := [.int 2]) upd_same hpFt (.cons (rp_int 1) .nil) (.cons (rp_int 2) .nil) rfl, sh_c10⟩ s7.but
      · exact told_int r5
      · exact told_non
    refine ⟨t, c, pN, _, i4, g4, _, rfl, T6, i40, by omega, g40, hpNt, upd_same, by show 0 < 8; decide, by show 8 ≤ 10000; decide, fun two i5 g5 H5 hv5 _ _ _ k5 T7 => ?_⟩
    obtain ⟨d2, rp2, sh2⟩ := (told two hv5).keep k5
    obtain ⟨d1, rp1, sh1⟩ := (told1.keep s47.but).keep k5
    have hT5 := T7.ht
    clear told s4 s5 s6 s7 s47 nE nU nF nN k5 T6 hv5 told1 T5 T7 T1 T2 T3 k2 k3 np
    refine ⟨one, two, rfl, ?_⟩
    dsimp only [tSeq]
    refine ⟨_, rfl, _, rfl, _, rfl, one, false, rfl, fun es l H6 s6 hl he => ⟨_, rfl, _, rfl, one, two, rfl, fun es' l' H7 s7 hl' he' => ⟨l, l', _, _, rfl, rfl, s7 _ _ hl, hl', ?_, fun p np => ?_⟩⟩⟩
    · rw [short he rfl, short he' rfl, sizeLine_eq]; show 14 + 13 ≤ 16777216; decide
    have s8 : Same H7 (upd H7 p (.lst (es.map V.ref ++ es'.map V.ref))) := same_upd np
    have s58 := s6.trans (s7.trans s8)
    have eA := ((he.same s7).app he').same s8
    rw [due_cat] at eA
    refine ⟨one, two, p, t, es ++ es', d1, d2, _, rfl, s58 _ _ hT5, by rw [upd_same, List.map_append], eA, rp1.keep s58.but, rp2.keep s58.but, sh1, sh2, fun H9 s9 => ⟨true, rfl, iteF ?_⟩⟩
    have s59 := s58.trans s9
    replace hT5 := s59 _ _ hT5
    replace rp1 := rp1.keep s59.but
    replace rp2 := rp2.keep s59.but
    clear s59 s58 s8 s9 eA np hl hl' he he' s6 s7 H6 H7
    dsimp only [tNext, tSeq]
    refine ⟨_, rfl, _, rfl, _, rfl, one, true, rfl, fun es l H6 s6 hl he => ⟨_, rfl, _, rfl, one, two, rfl, fun es' l' H7 s7 hl' he' => ⟨l, l', _, _, rfl, rfl, s7 _ _ hl, hl', ?_, fun p np => ?_⟩⟩⟩
    · rw [short he rfl, short he' rfl, sizeLine_eq]; show 14 + 13 ≤ 16777216; decide
    have s8 : Same H7 (upd H7 p (.lst (es.map V.ref ++ es'.map V.ref))) := same_upd np
    have s58 := s6.trans (s7.trans s8)
    have eA := ((he.same s7).app he').same s8
    rw [due_cat] at eA
    refine ⟨one, two, p, t, es ++ es', d1, d2, _, rfl, s58 _ _ hT5, by rw [upd_same, List.map_append], eA, rp1.keep s58.but, rp2.keep s58.but, sh1, sh2, fun Hz s9 => ⟨true, rfl, iteF ?_⟩⟩
    have s59 := s58.trans s9
    replace hT5 := s59 _ _ hT5
    replace rp1 := rp1.keep s59.but
    clear s59 s58 s8 s9 eA np hl hl' he he' s6 s7 H6 H7 rp2
    dsimp only [tNext, tSeq]
    delta tFor iList
    refine disp (D := [(cA 27, [("name", one)]), (cA 27, [("name", one)])]) (errs_cons [one] (fun _ _ q => ⟨_, rfl, q⟩) rfl (errs_cons [one] (fun _ _ q => ⟨_, rfl, q⟩) rfl errs_nil)) (by show 2 ≤ 100; decide) fun es l H6 s6 hl he => ⟨_, rfl, ⟨_, SqL.of hl⟩, ?_⟩
    have lenE : (es.map V.ref).length = 2 := short he rfl
    refine for_it (walk_list (xs := es.map V.ref)) (fun i σ H' => (∃ v6, σ = [some (.ref a), some (.ref t), some (.int (e * r)), some (.ref pM), some one, some two, v6]) ∧ Same H6 H') ⟨⟨none, rfl⟩, Same.refl _⟩ (fun i σ H' _ p => SqL.of (p.2 _ _ hl)) ?_ ?_
    · rintro i x σ H1 H2 hi ⟨⟨v6, rfl⟩, sa⟩ ⟨rfl, e2⟩
      rw [lenE] at hi
      have hD : ([(cA 27, [("name", one)]), (cA 27, [("name", one)])] : List (Addr × List (Str × V)))[i]? = some (cA 27, [(("name" : Str), one)]) := by
        match i, hi with
        | 0, _ => rfl
        | 1, _ => rfl
      obtain ⟨e0, ge, he1⟩ := errs_at he hD
      obtain rfl : x = V.ref e0 := Option.some.inj (e2.symm.trans ge)
      have he2 := he1.same sa
      have rp2 := rp1.keep (s6.trans sa).but
      refine ⟨_, rfl, e0, cA 27, _, one, rfl, he2, U.xf 27 (by decide), T.Missing.no _ (by simp), rfl, t, one, d1, rfl, rp2, sh1.sb, Nat.le_trans sh1.dp (by decide), Nat.le_trans sh1.ln (by rw [sizeLine_eq]; decide), ?_⟩
      refine ⟨_, rfl, t, one, d1, rfl, rp2, sh1.sb, Nat.le_trans sh1.dp (by decide), Nat.le_trans sh1.ln (by rw [sizeLine_eq]; decide), rfl, _, rfl, iteNS rfl ?_⟩
      refine ⟨_, rfl, e0, 27, _, rfl, by decide, he2, fun lk Hk sk hlk => ⟨lk, _, rfl, .inl (SqL.of hlk), rfl, by decide +kernel, false, congrArg V.bl (show inV (.bl true) ((kinOf 27).map V.bl) = false by decide +kernel), iteF ?_⟩⟩
      have he3 := he2.same sk
      have X := U.is 27 (by decide)
      refine ⟨_, rfl, e0, cA 27, _, _, _, _, rfl, he3, X, .own SE, U.se 27 (by decide), _, rfl, iteF ⟨_, rfl, e0, cA 27, _, _, _, _, rfl, he3, X, .ty _, U.ve 27 (by decide), _, rfl, iteF ?_⟩⟩
      exact ⟨⟨_, rfl⟩, sa.trans sk⟩
    · rintro σ H1 ⟨⟨v6, rfl⟩, sa⟩
      exact k _
end
end K00
namespace K00
open PySem PySem.Spec PyProof.Rows L2
def dBadRatio : He.DefD := ⟨("BadRatio", some "__init__"), "__init__", "BadRatio.__init__", defArgs iBadRatio, defBody iBadRatio, defScope iBadRatio, [], []⟩
def dBadBalance : He.DefD := ⟨("BadBalance", some "__init__"), "__init__", "BadBalance.__init__", defArgs iBadBalance, defBody iBadBalance, defScope iBadBalance, [], []⟩
def dBadComparison : He.DefD := ⟨("BadComparison", some "__init__"), "__init__", "BadComparison.__init__", defArgs iBadComparison, defBody iBadComparison, defScope iBadComparison, [], []⟩
def dBadPair : He.DefD := ⟨("BadPair", some "__init__"), "__init__", "BadPair.__init__", defArgs iBadPair, defBody iBadPair, defScope iBadPair, [], []⟩
def dBadSort : He.DefD := ⟨("BadSort", some "__init__"), "__init__", "BadSort.__init__", defArgs iBadSort, defBody iBadSort, defScope iBadSort, [], []⟩
def dBadScale : He.DefD := ⟨("BadScale", some "__init__"), "__init__", "BadScale.__init__", defArgs iBadScale, defBody iBadScale, defScope iBadScale, [], []⟩
def dBadBook : He.DefD := ⟨("BadBook", some "__init__"), "__init__", "BadBook.__init__", defArgs iBadBook, defBody iBadBook, defScope iBadBook, [], []⟩
def dBadSaying : He.DefD := ⟨("BadSaying", some "__init__"), "__init__", "BadSaying.__init__", defArgs iBadSaying, defBody iBadSaying, defScope iBadSaying, [], []⟩
def dBadHands : He.DefD := ⟨("BadHands", some "__init__"), "__init__", "BadHands.__init__", defArgs iBadHands, defBody iBadHands, defScope iBadHands, [], []⟩
def dBadNumber : He.DefD := ⟨("BadNumber", some "__init__"), "__init__", "BadNumber.__init__", defArgs iBadNumber, defBody iBadNumber, defScope iBadNumber, [], []⟩
def dBadPaper : He.DefD := ⟨("BadPaper", some "__init__"), "__init__", "BadPaper.__init__", defArgs iBadPaper, defBody iBadPaper, defScope iBadPaper, [], []⟩
def dBadLive : He.DefD := ⟨("BadLive", some "__init__"), "__init__", "BadLive.__init__", defArgs iBadLive, defBody iBadLive, defScope iBadLive, [], []⟩
def dBadDesk : He.DefD := ⟨("BadDesk", some "__init__"), "__init__", "BadDesk.__init__", defArgs iBadDesk, defBody iBadDesk, defScope iBadDesk, [], []⟩
def dBadOrder : He.DefD := ⟨("BadOrder", some "__init__"), "__init__", "BadOrder.__init__", defArgs iBadOrder, defBody iBadOrder, defScope iBadOrder, [], []⟩
def dNoThing : He.DefD := ⟨("NoThing", some "__init__"), "__init__", "NoThing.__init__", defArgs iNoThing, defBody iNoThing, defScope iNoThing, [], []⟩
def dNoName : He.DefD := ⟨("NoName", some "__init__"), "__init__", "NoName.__init__", defArgs iNoName, defBody iNoName, defScope iNoName, [], []⟩
def dTwice : He.DefD := ⟨("Twice", some "__init__"), "__init__", "Twice.__init__", defArgs iTwice, defBody iTwice, defScope iTwice, [], []⟩
def dNoPair : He.DefD := ⟨("NoPair", some "__init__"), "__init__", "NoPair.__init__", defArgs iNoPair, defBody iNoPair, defScope iNoPair, [], []⟩
def dUnlike : He.DefD := ⟨("Unlike", some "__init__"), "__init__", "Unlike.__init__", defArgs iUnlike, defBody iUnlike, defScope iUnlike, [], []⟩
def dImpossible : He.DefD := ⟨("Impossible", some "__init__"), "__init__", "Impossible.__init__", defArgs iImpossible, defBody iImpossible, defScope iImpossible, [], []⟩
def dNotAbove : He.DefD := ⟨("NotAbove", some "__init__"), "__init__", "NotAbove.__init__", defArgs iNotAbove, defBody iNotAbove, defScope iNotAbove, [], []⟩
def dNotCarried : He.DefD := ⟨("NotCarried", some "__init__"), "__init__", "NotCarried.__init__", defArgs iNotCarried, defBody iNotCarried, defScope iNotCarried, [], []⟩
def dHanging : He.DefD := ⟨("Hanging", some "__init__"), "__init__", "Hanging.__init__", defArgs iHanging, defBody iHanging, defScope iHanging, [], []⟩
def dTooMany : He.DefD := ⟨("TooMany", some "__init__"), "__init__", "TooMany.__init__", defArgs iTooMany, defBody iTooMany, defScope iTooMany, [], []⟩
def dBadText : He.DefD := ⟨("BadText", some "__init__"), "__init__", "BadText.__init__", defArgs iBadText, defBody iBadText, defScope iBadText, [], []⟩
def dBadLine : He.DefD := ⟨("BadLine", some "__init__"), "__init__", "BadLine.__init__", defArgs iBadLine, defBody iBadLine, defScope iBadLine, [], []⟩
def dNothing : He.DefD := ⟨("Nothing", some "__init__"), "__init__", "Nothing.__init__", defArgs iNothing, defBody iNothing, defScope iNothing, [], []⟩
def dMissing : He.DefD := ⟨("Missing", some "__init__"), "__init__", "Missing.__init__", defArgs iMissing, defBody iMissing, defScope iMissing, [], []⟩
abbrev s_law_till : Stmt := top 31
def d_law_till : He.DefD := ⟨("_law_till", none), "_law_till", "_law_till", defArgs s_law_till, defBody s_law_till, defScope s_law_till, [], []⟩
abbrev s_law_coin : Stmt := top 32
def d_law_coin : He.DefD := ⟨("_law_coin", none), "_law_coin", "_law_coin", defArgs s_law_coin, defBody s_law_coin, defScope s_law_coin, [], []⟩
abbrev s_law_of : Stmt := top 33
def d_law_of : He.DefD := ⟨("_law_of", none), "_law_of", "_law_of", defArgs s_law_of, defBody s_law_of, defScope s_law_of, [], []⟩
abbrev s_law_parts : Stmt := top 34
def d_law_parts : He.DefD := ⟨("_law_parts", none), "_law_parts", "_law_parts", defArgs s_law_parts, defBody s_law_parts, defScope s_law_parts, [], []⟩
abbrev s_law_others : Stmt := top 35
def d_law_others : He.DefD := ⟨("_law_others", none), "_law_others", "_law_others", defArgs s_law_others, defBody s_law_others, defScope s_law_others, [], []⟩
abbrev s_law_others_named : Stmt := top 36
def d_law_others_named : He.DefD := ⟨("_law_others_named", none), "_law_others_named", "_law_others_named", defArgs s_law_others_named, defBody s_law_others_named, defScope s_law_others_named, [], []⟩
abbrev s_law_fields : Stmt := top 37
def d_law_fields : He.DefD := ⟨("_law_fields", none), "_law_fields", "_law_fields", defArgs s_law_fields, defBody s_law_fields, defScope s_law_fields, [], []⟩
abbrev s_law_kin : Stmt := top 38
def d_law_kin : He.DefD := ⟨("_law_kin", none), "_law_kin", "_law_kin", defArgs s_law_kin, defBody s_law_kin, defScope s_law_kin, [], []⟩
abbrev s_law_stands_right : Stmt := top 39
def d_law_stands_right : He.DefD := ⟨("_law_stands_right", none), "_law_stands_right", "_law_stands_right", defArgs s_law_stands_right, defBody s_law_stands_right, defScope s_law_stands_right, [], []⟩
abbrev s_law_all_right : Stmt := top 40
def d_law_all_right : He.DefD := ⟨("_law_all_right", none), "_law_all_right", "_law_all_right", defArgs s_law_all_right, defBody s_law_all_right, defScope s_law_all_right, [], []⟩
abbrev slaw : Stmt := top 41
def dlaw : He.DefD := ⟨("law", none), "law", "law", defArgs slaw, defBody slaw, defScope slaw, [], []⟩

def fn : List He.DefD := [dBadRatio, dBadBalance, dBadComparison, dBadPair, dBadSort, dBadScale, dBadBook, dBadSaying, dBadHands, dBadNumber, dBadPaper, dBadLive, dBadDesk, dBadOrder, dNoThing, dNoName, dTwice, dNoPair, dUnlike, dImpossible, dNotAbove, dNotCarried, dHanging, dTooMany, dBadText, dBadLine, dNothing, dMissing, d_law_till, d_law_coin, d_law_of, d_law_parts, d_law_others, d_law_others_named, d_law_fields, d_law_kin, d_law_stands_right, d_law_all_right, dlaw]
def fa : List He.Fa := [.glo "ScaleError", .free "int", .free "len", .free "abs", .free "isinstance", .free "repr", .free "enumerate", .free "range", .free "ValueError", .free "LookupError", .free "TypeError", .free "ArithmeticError", .free "RuntimeError", .free "AttributeError", .glo "_law_till", .glo "_law_coin", .glo "_law_of", .glo "_law_parts", .glo "_law_others", .glo "_law_others_named", .glo "_law_fields", .glo "_law_kin", .glo "_law_stands_right", .glo "_law_all_right", .glo "law"]
/-- the errors in the law's order, with their fields; Missing stands last -/
def errs : List (Str × List Str) := [("BadRatio", ["part"]), ("BadBalance", ["part"]), ("BadComparison", ["part"]), ("BadPair", ["part"]), ("BadSort", ["part"]), ("BadScale", ["part"]), ("BadBook", ["part"]), ("BadSaying", ["part"]), ("BadHands", ["part"]), ("BadNumber", ["part"]), ("BadPaper", ["part"]), ("BadLive", ["part"]), ("BadDesk", ["part"]), ("BadOrder", ["part"]), ("NoThing", ["name"]), ("NoName", ["name"]), ("Twice", ["name"]), ("NoPair", ["pair"]), ("Unlike", ["what"]), ("Impossible", ["paper"]), ("NotAbove", ["scale"]), ("NotCarried", ["one", "other"]), ("Hanging", ["kept", "broken"]), ("TooMany", ["what", "most"]), ("BadText", ["line", "word"]), ("BadLine", ["line", "error"]), ("Nothing", []), ("Missing", ["name"])]
def nameAt (i : Nat) : Str := (errs.getD i ("", [])).1
def kit (K : PySem.W.Frag) (i : Nat) (v : Value) (b : Bool) : Bool := decide (PySem.W.kitOne K (.ref (He.ga K (nameAt i))) v = some b)
def fx : List (PySem.W.Frag → Bool) :=
  [fun K => errs.all fun e => errB e.1 e.2 K,
   fun K => (List.range 28).all fun i => (List.range 27).all fun j => kit K i (.ref (He.ga K (nameAt j))) (decide (i = j)),
   fun K => (List.range 28).all fun i => kit K i (.ref (He.ga K "ScaleError")) true && (kit K i (.type "ValueError") true && (kit K i (.ref (He.ga K "Missing")) (decide (i = 14 ∨ i = 15 ∨ i = 27)) &&
     (kit K i (.type "LookupError") false && (kit K i (.type "TypeError") false && (kit K i (.type "ArithmeticError") false && (kit K i (.type "RuntimeError") false && kit K i (.type "AttributeError") false))))))]
abbrev R : PySem.W.OpenRow := PySem.W.OpenLaw.row PySem.Challenge.rw_scaleborn_k00_errors_keep_their_fields
abbrev hk : PySem.W.Hook := hookX 5 fa fn fx
def ob (s : PySem.W.SharedT) : He.AlD × Bool := obX 5 fa fn fx s
theorem ob_eq (s : PySem.W.SharedT) : ob s = hk.obs s.abs := obX_eq 5 fa fn fx s
def loose1 : List Str := ["ScaleError", "BadRatio", "BadBalance", "BadComparison", "BadPair", "BadSort", "BadScale", "BadBook", "BadSaying", "BadHands", "BadOrder", "BadNumber", "BadPaper", "BadLive", "BadDesk", "Missing", "NoThing", "NoName", "NoPair", "Twice"]
def loose2 : List Str := ["Unlike", "Impossible", "NotAbove", "NotCarried", "Hanging", "Nothing", "TooMany", "BadText", "BadLine", "_law_till", "_law_coin", "_law_of", "_law_parts", "_law_others", "_law_others_named", "_law_fields", "_law_kin", "_law_stands_right", "_law_all_right"]
theorem run (w : World) : HandSHeadRun.RunEq R (PySem.W.view R.prog [41]) hk ob 9000 (loose1 ++ loose2) w := by
  intro os
  kernel_rfl
end K00
namespace K00
open PySem PySem.Spec PyProof.Rows L2
theorem look_mem {f : Str} {v : V} : ∀ {l : List (Str × V)}, l.lookup f = some v → f ∈ l.map (·.1)
  | [], h => by cases h
  | (k, b) :: r, h => by
    rw [List.lookup_cons] at h
    by_cases e : (f == k) = true
    · rw [beq_iff_eq.mp e]
      exact List.mem_cons_self
    · rw [Bool.not_eq_true] at e
      rw [e] at h
      exact List.mem_cons_of_mem _ (look_mem h)
theorem keys_fds (one two : V) : ∀ j, j < 27 → (fds one two j).map (·.1) = (errs.getD j ("", [])).2.reverse
  | 0, _ => rfl
  | 1, _ => rfl
  | 2, _ => rfl
  | 3, _ => rfl
  | 4, _ => rfl
  | 5, _ => rfl
  | 6, _ => rfl
  | 7, _ => rfl
  | 8, _ => rfl
  | 9, _ => rfl
  | 10, _ => rfl
  | 11, _ => rfl
  | 12, _ => rfl
  | 13, _ => rfl
  | 14, _ => rfl
  | 15, _ => rfl
  | 16, _ => rfl
  | 17, _ => rfl
  | 18, _ => rfl
  | 19, _ => rfl
  | 20, _ => rfl
  | 21, _ => rfl
  | 22, _ => rfl
  | 23, _ => rfl
  | 24, _ => rfl
  | 25, _ => rfl
  | 26, _ => rfl
  | n + 27, h => absurd h (by omega)
theorem errs_in : ∀ j, j < 28 → (nameAt j, (errs.getD j ("", [])).2) ∈ errs := by
  intro j hj
  have hl : j < errs.length := hj
  have e : errs.getD j ("", []) = errs[j] := by rw [List.getD_eq_getElem?_getD, List.getElem?_eq_getElem hl]; rfl
  unfold nameAt
  rw [e]
  exact List.getElem_mem hl
section
variable {P : Program} {w : World} {K : PySem.W.Frag} {h : Heap} {mg : Str → Option Value} {base : Heap}
abbrev cOf (K : PySem.W.Frag) : Nat → Addr := fun i => He.ga K (nameAt i)
theorem kit_ok {i : Nat} {v : Value} {b : Bool} (q : kit K i v b = true) : PySem.W.kitOne K (.ref (cOf K i)) v = some b := of_decide_eq_true q
theorem fact_err (cf : (fx.all fun f => f K) = true) {j : Nat} (hj : j < 28) : ErrC K (cOf K j) (He.ma K (cOf K j) "__init__") (errs.getD j ("", [])).2 ∧ (He.Fa.glo (nameAt j)).ok K = true := by
  have q := List.all_eq_true.mp cf _ (show (fun K => errs.all fun e => errB e.1 e.2 K) ∈ fx from List.mem_cons_self)
  exact errB_ok (List.all_eq_true.mp q _ (errs_in j hj))
theorem fact_T1 (cf : (fx.all fun f => f K) = true) : T1 K (cOf K) (He.ga K "ScaleError") := by
  have q2 : ((List.range 28).all fun i => (List.range 27).all fun j => kit K i (.ref (He.ga K (nameAt j))) (decide (i = j))) = true := List.all_eq_true.mp cf _ (List.mem_cons_of_mem _ List.mem_cons_self)
  have q3 : ((List.range 28).all fun i => kit K i (.ref (He.ga K "ScaleError")) true && (kit K i (.type "ValueError") true && (kit K i (.ref (He.ga K "Missing")) (decide (i = 14 ∨ i = 15 ∨ i = 27)) &&
     (kit K i (.type "LookupError") false && (kit K i (.type "TypeError") false && (kit K i (.type "ArithmeticError") false && (kit K i (.type "RuntimeError") false && kit K i (.type "AttributeError") false))))))) = true := List.all_eq_true.mp cf _ (List.mem_cons_of_mem _ (List.mem_cons_of_mem _ List.mem_cons_self))
  have r : ∀ i, i < 28 → _ := fun i hi => List.all_eq_true.mp q3 i (List.mem_range.mpr hi)
  simp only [Bool.and_eq_true] at r
  refine ⟨fun j hj => (fact_err cf hj).1.xf, fun j hj => (fact_err cf hj).1.is, fun j hj one two f v e => ?_, fun i j hi hj => ?_, fun i hi => kit_ok (r i hi).1, fun i hi => kit_ok (r i hi).2.1, fun i hi => kit_ok (r i hi).2.2.1,
    fun i hi => kit_ok (r i hi).2.2.2.1, fun i hi => kit_ok (r i hi).2.2.2.2.1, fun i hi => kit_ok (r i hi).2.2.2.2.2.1, fun i hi => kit_ok (r i hi).2.2.2.2.2.2.1, fun i hi => kit_ok (r i hi).2.2.2.2.2.2.2⟩
  · have m := look_mem e
    rw [keys_fds one two j hj] at m
    exact (fact_err cf (Nat.lt_succ_of_lt hj)).1.no f (List.mem_reverse.mp m)
  · exact kit_ok (List.all_eq_true.mp (List.all_eq_true.mp q2 i (List.mem_range.mpr hi)) j (List.mem_range.mpr hj))
theorem fact_T0 (X : K.In h) (G : h.Ns mainGlobals mg) (c : He.SaysD fa fn K) (cf : (fx.all fun f => f K) = true) : T0 P w K mg base (cOf K) := by
  obtain ⟨fd0, F0⟩ := c.def_ 0 (d := dBadRatio) rfl
  obtain ⟨fd1, F1⟩ := c.def_ 1 (d := dBadBalance) rfl
  obtain ⟨fd2, F2⟩ := c.def_ 2 (d := dBadComparison) rfl
  obtain ⟨fd3, F3⟩ := c.def_ 3 (d := dBadPair) rfl
  obtain ⟨fd4, F4⟩ := c.def_ 4 (d := dBadSort) rfl
  obtain ⟨fd5, F5⟩ := c.def_ 5 (d := dBadScale) rfl
  obtain ⟨fd6, F6⟩ := c.def_ 6 (d := dBadBook) rfl
  obtain ⟨fd7, F7⟩ := c.def_ 7 (d := dBadSaying) rfl
  obtain ⟨fd8, F8⟩ := c.def_ 8 (d := dBadHands) rfl
  obtain ⟨fd9, F9⟩ := c.def_ 9 (d := dBadNumber) rfl
  obtain ⟨fd10, F10⟩ := c.def_ 10 (d := dBadPaper) rfl
  obtain ⟨fd11, F11⟩ := c.def_ 11 (d := dBadLive) rfl
  obtain ⟨fd12, F12⟩ := c.def_ 12 (d := dBadDesk) rfl
  obtain ⟨fd13, F13⟩ := c.def_ 13 (d := dBadOrder) rfl
  obtain ⟨fd14, F14⟩ := c.def_ 14 (d := dNoThing) rfl
  obtain ⟨fd15, F15⟩ := c.def_ 15 (d := dNoName) rfl
  obtain ⟨fd16, F16⟩ := c.def_ 16 (d := dTwice) rfl
  obtain ⟨fd17, F17⟩ := c.def_ 17 (d := dNoPair) rfl
  obtain ⟨fd18, F18⟩ := c.def_ 18 (d := dUnlike) rfl
  obtain ⟨fd19, F19⟩ := c.def_ 19 (d := dImpossible) rfl
  obtain ⟨fd20, F20⟩ := c.def_ 20 (d := dNotAbove) rfl
  obtain ⟨fd21, F21⟩ := c.def_ 21 (d := dNotCarried) rfl
  obtain ⟨fd22, F22⟩ := c.def_ 22 (d := dHanging) rfl
  obtain ⟨fd23, F23⟩ := c.def_ 23 (d := dTooMany) rfl
  obtain ⟨fd24, F24⟩ := c.def_ 24 (d := dBadText) rfl
  obtain ⟨fd25, F25⟩ := c.def_ 25 (d := dBadLine) rfl
  obtain ⟨fd26, F26⟩ := c.def_ 26 (d := dNothing) rfl
  obtain ⟨fd27, F27⟩ := c.def_ 27 (d := dMissing) rfl
  obtain ⟨E0, g0⟩ := fact_err cf (j := 0) (by decide)
  obtain ⟨E1, g1⟩ := fact_err cf (j := 1) (by decide)
  obtain ⟨E2, g2⟩ := fact_err cf (j := 2) (by decide)
  obtain ⟨E3, g3⟩ := fact_err cf (j := 3) (by decide)
  obtain ⟨E4, g4⟩ := fact_err cf (j := 4) (by decide)
  obtain ⟨E5, g5⟩ := fact_err cf (j := 5) (by decide)
  obtain ⟨E6, g6⟩ := fact_err cf (j := 6) (by decide)
  obtain ⟨E7, g7⟩ := fact_err cf (j := 7) (by decide)
  obtain ⟨E8, g8⟩ := fact_err cf (j := 8) (by decide)
  obtain ⟨E9, g9⟩ := fact_err cf (j := 9) (by decide)
  obtain ⟨E10, g10⟩ := fact_err cf (j := 10) (by decide)
  obtain ⟨E11, g11⟩ := fact_err cf (j := 11) (by decide)
  obtain ⟨E12, g12⟩ := fact_err cf (j := 12) (by decide)
  obtain ⟨E13, g13⟩ := fact_err cf (j := 13) (by decide)
  obtain ⟨E14, g14⟩ := fact_err cf (j := 14) (by decide)
  obtain ⟨E15, g15⟩ := fact_err cf (j := 15) (by decide)
  obtain ⟨E16, g16⟩ := fact_err cf (j := 16) (by decide)
  obtain ⟨E17, g17⟩ := fact_err cf (j := 17) (by decide)
  obtain ⟨E18, g18⟩ := fact_err cf (j := 18) (by decide)
  obtain ⟨E19, g19⟩ := fact_err cf (j := 19) (by decide)
  obtain ⟨E20, g20⟩ := fact_err cf (j := 20) (by decide)
  obtain ⟨E21, g21⟩ := fact_err cf (j := 21) (by decide)
  obtain ⟨E22, g22⟩ := fact_err cf (j := 22) (by decide)
  obtain ⟨E23, g23⟩ := fact_err cf (j := 23) (by decide)
  obtain ⟨E24, g24⟩ := fact_err cf (j := 24) (by decide)
  obtain ⟨E25, g25⟩ := fact_err cf (j := 25) (by decide)
  obtain ⟨E26, g26⟩ := fact_err cf (j := 26) (by decide)
  obtain ⟨E27, g27⟩ := fact_err cf (j := 27) (by decide)
  exact ⟨mk_BadRatio F0 E0 (He.glo_ok X G g0), mk_BadBalance F1 E1 (He.glo_ok X G g1), mk_BadComparison F2 E2 (He.glo_ok X G g2), mk_BadPair F3 E3 (He.glo_ok X G g3), mk_BadSort F4 E4 (He.glo_ok X G g4), mk_BadScale F5 E5 (He.glo_ok X G g5), mk_BadBook F6 E6 (He.glo_ok X G g6), mk_BadSaying F7 E7 (He.glo_ok X G g7), mk_BadHands F8 E8 (He.glo_ok X G g8), mk_BadNumber F9 E9 (He.glo_ok X G g9), mk_BadPaper F10 E10 (He.glo_ok X G g10), mk_BadLive F11 E11 (He.glo_ok X G g11), mk_BadDesk F12 E12 (He.glo_ok X G g12), mk_BadOrder F13 E13 (He.glo_ok X G g13), mk_NoThing F14 E14 (He.glo_ok X G g14), mk_NoName F15 E15 (He.glo_ok X G g15), mk_Twice F16 E16 (He.glo_ok X G g16), mk_NoPair F17 E17 (He.glo_ok X G g17), mk_Unlike F18 E18 (He.glo_ok X G g18), mk_Impossible F19 E19 (He.glo_ok X G g19), mk_NotAbove F20 E20 (He.glo_ok X G g20), mk_NotCarried F21 E21 (He.glo_ok X G g21), mk_Hanging F22 E22 (He.glo_ok X G g22), mk_TooMany F23 E23 (He.glo_ok X G g23), mk_BadText F24 E24 (He.glo_ok X G g24), mk_BadLine F25 E25 (He.glo_ok X G g25), mk_Nothing F26 E26 (He.glo_ok X G g26), mk_Missing F27 E27 (He.glo_ok X G g27)⟩
theorem fact_B1 (X : K.In h) (G : h.Ns mainGlobals mg) (c : He.SaysD fa fn K) : B1 mg (He.ga K "ScaleError") :=
  ⟨He.free_ok X G (c.fact 4 (f := .free "isinstance") rfl), He.free_ok X G (c.fact 5 (f := .free "repr") rfl), He.free_ok X G (c.fact 6 (f := .free "enumerate") rfl), He.free_ok X G (c.fact 7 (f := .free "range") rfl), He.free_ok X G (c.fact 2 (f := .free "len") rfl),
    He.free_ok X G (c.fact 8 (f := .free "ValueError") rfl), He.free_ok X G (c.fact 9 (f := .free "LookupError") rfl), He.free_ok X G (c.fact 10 (f := .free "TypeError") rfl), He.free_ok X G (c.fact 11 (f := .free "ArithmeticError") rfl), He.free_ok X G (c.fact 12 (f := .free "RuntimeError") rfl),
    He.free_ok X G (c.fact 13 (f := .free "AttributeError") rfl), He.glo_ok X G (c.fact 0 (f := .glo "ScaleError") rfl)⟩
theorem fact_Blt (X : K.In h) (G : h.Ns mainGlobals mg) (c : He.SaysD fa fn K) : Blt mg :=
  ⟨He.free_ok X G (c.fact 1 (f := .free "int") rfl), He.free_ok X G (c.fact 2 (f := .free "len") rfl), He.free_ok X G (c.fact 3 (f := .free "abs") rfl)⟩
theorem fact_law {f : Addr} (X : K.In h) (G : h.Ns mainGlobals mg) (hfa : mg ("law" : Str) = some (.ref f)) (c : He.SaysD fa fn K) (cf : (fx.all fun f => f K) = true) :
    ∃ fd : FuncData, (∀ (s : Shared) (v : Value), BindsTo s fd ⟨[v], []⟩ [("_law_script", v)]) ∧ ∀ base : Heap, K.In base → base.Ns mainGlobals mg → FnOkG P w K mg base CX0 4 f fd ["_law_script"] (spLaw K) := by
  obtain ⟨fd0, F0⟩ := c.def_ 28 (d := d_law_till) rfl
  obtain ⟨fd1, F1⟩ := c.def_ 29 (d := d_law_coin) rfl
  obtain ⟨fd2, F2⟩ := c.def_ 30 (d := d_law_of) rfl
  obtain ⟨fd3, F3⟩ := c.def_ 31 (d := d_law_parts) rfl
  obtain ⟨fd4, F4⟩ := c.def_ 32 (d := d_law_others) rfl
  obtain ⟨fd5, F5⟩ := c.def_ 33 (d := d_law_others_named) rfl
  obtain ⟨fd6, F6⟩ := c.def_ 34 (d := d_law_fields) rfl
  obtain ⟨fd7, F7⟩ := c.def_ 35 (d := d_law_kin) rfl
  obtain ⟨fd8, F8⟩ := c.def_ 36 (d := d_law_stands_right) rfl
  obtain ⟨fd9, F9⟩ := c.def_ 37 (d := d_law_all_right) rfl
  obtain ⟨fd, F⟩ := c.def_ 38 (d := dlaw) rfl
  have e := hfa.symm.trans (He.glo_ok X G (c.fact 24 (f := .glo "law") rfl))
  cases e
  have b := FunD.bindsA (ps := ["_law_script"]) F fun _ _ _ _ _ _ us hl => match us, hl with | [_], _ => rfl
  have D : Defs K mg := ⟨_, _, _, _, _, _, _, _, _, _, fd0, fd1, fd2, fd3, fd4, fd5, fd6, fd7, fd8, fd9, F0, F1, F2, F3, F4, F5, F6, F7, F8, F9, He.glo_ok X G (c.fact 14 (f := .glo "_law_till") rfl), He.glo_ok X G (c.fact 15 (f := .glo "_law_coin") rfl), He.glo_ok X G (c.fact 16 (f := .glo "_law_of") rfl), He.glo_ok X G (c.fact 17 (f := .glo "_law_parts") rfl), He.glo_ok X G (c.fact 18 (f := .glo "_law_others") rfl), He.glo_ok X G (c.fact 19 (f := .glo "_law_others_named") rfl), He.glo_ok X G (c.fact 20 (f := .glo "_law_fields") rfl), He.glo_ok X G (c.fact 21 (f := .glo "_law_kin") rfl), He.glo_ok X G (c.fact 22 (f := .glo "_law_stands_right") rfl), He.glo_ok X G (c.fact 23 (f := .glo "_law_all_right") rfl)⟩
  exact ⟨fd, fun s v => b s [v] rfl, fun base _ _ => ok_law F D (fact_T0 X G c cf) (fact_T1 cf) (fact_B1 X G c) (fact_Blt X G c)⟩
end
end K00
open PySem PySem.W PySem.Calls PyProof.Rows
theorem PySem.Challenge.cw_scaleborn_k00_errors_keep_their_fields_holds : PySem.Challenge.rw_scaleborn_k00_errors_keep_their_fields.Holds := by
  w_on; o_law
  refine HandSHeadRun.head_any (r := OpenLaw.row PySem.Challenge.rw_scaleborn_k00_errors_keep_their_fields) (q := view (OpenLaw.row PySem.Challenge.rw_scaleborn_k00_errors_keep_their_fields).prog [41]) (H := K00.hk) (ob := K00.ob) (M := 9000) (loose := K00.loose1 ++ K00.loose2) (d := HandSHeadRun.topDef (OpenLaw.row PySem.Challenge.rw_scaleborn_k00_errors_keep_their_fields).prog 41) (kwd := []) K00.ob_eq
    (by kernel_rfl) (fun s => by kernel_rfl) K00.run (by kernel_rfl) (by kernel_rfl) (by kernel_rfl) (by rfl) (by first | assumption | decide +kernel) (by decide +kernel) ⟨rfl, rfl, rfl, rfl, rfl, by decide +kernel⟩ ?hw ?hc
  case hw => w_witness2
  case hc =>
    refine Att.attach_call (n := 63) rfl (by kernel_rfl) fun w s₀ s₁ mg mb fa o pm cd doc a vs ns G Y ho hd hcd hmg0 hobj hints hlen hg => ?_
    obtain ⟨K, KX, c, cf⟩ := Y
    have hmg : mg ("law" : PySem.Str) = some (.ref fa) := by
      have e : (HandSHeadRun.topDef (OpenLaw.row PySem.Challenge.rw_scaleborn_k00_errors_keep_their_fields).prog 41).name = ("law" : PySem.Str) := by kernel_rfl
      rw [← e]
      exact hmg0
    obtain ⟨fd, hb, hF⟩ := K00.fact_law (P := (PySem.Challenge.rw_scaleborn_k00_errors_keep_their_fields).prog) (w := w) KX G.T.g hmg c cf
    exact L2.law_callG KX G.T.g G.T.b G.T.builtins G.T.nolimit hg hobj hints (Nat.le_trans hlen (by decide)) ⟨rfl, by decide, by decide⟩ hF hb (fun H hO hS => ⟨a, ns, rfl, hS, hlen, fun _ => rfl⟩)
