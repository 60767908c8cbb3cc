import PyProof.Rows.All
import Wide.All
import OpenK.AllK
import Wide.FinOn
import HandS.ForMost
import HandS.Exc
import HandS.ExcInit
import HandS.IsInst
import HandS.Defaults
import PyProof.ReprRoads
import HandS.ExcField
import HandS.ExcIs
import KE.KExcIs
import PyProof.CallFns
import KE.KStateDown
import HandS.Head0
import HandS.Head1
import HandS.Head2
import HandS.HeadEnd
import HandS.HeadHook1
import HandS.HeadHook2
import HandS.ClsMeth
import HandS.MakeKwOnly
import HandS.SetFor
import KE.KOpsOwn
import HandS.OwnEq
import HandS.SlotsOwn
import PyProof.InstNe
import PyProof.Rows.FactsN_abs
import PyProof.Rows.Range3
import PyProof.CallStr
import KE.DataEq
import HandS.FStr
import KE.KFmtOwn
import HandS.Conv
import HandS.Iter
import KE.KDictList
import HandS.Gcd
import KE.KMathGC
import HandS.DictComp
import PyProof.Rows.SortStr
import PyProof.Rows.StrMeet
import HandS.Comp
import HandS.Walk
import HandS.Dict
import HandS.WordsExc
import PyProof.Rows.RuleB_bool
import HandS.Wide
import HandS.RaiseMore
import HandS.Style
import HandS.Text
import HandS.ListItems
import HandS.Head3
import HandS.HeadHook4
import HandS.HeadNt
import HandS.HeadWalk
import HandS.MakeKw
import PySem.Challenge.RW_scaleborn_k05_balances_added_and_brought
set_option Elab.async false
set_option linter.all false
set_option maxRecDepth 100000
set_option maxHeartbeats 0
/-! An own exception made as a value, by place and by keywords. -/
namespace PySem
namespace MkE
open PySem.W PySem.Calls PyProof.Rows PySem.HandSPX
open Builtin Builtin.ObjectAttr
section
variable {M : Model} {A : Around} {E : Value → Shared → Prop} {h : Heap} {g : Array GenState} {d : Drawn} {t : Nat} {os : OsState}
variable {nm q : Str} {C N : Addr} {bs bm bmB : List Value} {hdct : Bool} {sn : List Str} {sub : List Value} {ab : Bool} {col : Option Bool} {dd : Option Addr} {k0 k1 k2 k3 k5 : Option Value} {B newId initId : String}
theorem look_new (F : ExcBaseFacts B newId initId bmB) (hT : ∀ X : String, bm.contains (.type X) = bmB.contains (.type X)) {us : List Value} {kw : List (Str × Value)} {Q : Unit → Shared → Prop}
    (hC : h.get? C = some (excClassObj nm q C N bs bm hdct sn sub ab col dd k0 k1 k2 k3 k5 newId)) (hq : Q () ⟨h, g, d, t, os⟩) :
    wpAny M A (checkBuiltinCall newId ⟨.ref C :: us, kw⟩) Q E ⟨h, g, d, t, os⟩ := by
  have isB : (Value.ref C :: bm).contains (.type B) = true := by rw [List.contains_cons, hT, F.hasB, Bool.or_true]
  have nostar := F.noStar
  simp only [checkBuiltinCall, F.newKind, F.newSplit, F.newRow]
  repeat (first
    | refine wpAny_loadPart_at hC ?_
    | (refine wpAny_isSubtype_exc hC ?_; rw [isB])
    | refine wpAny_staticBase_exc hC ?_
    | refine wpAny_madeBy_exc hC ?_
    | simp only [bne_self_eq_false, Bool.false_eq_true, if_false]
    | wp_step)
  exact hq
end
section
variable {prog : Program} {w : World} {A : Around} {E : Value → Shared → Prop} {R : Result → Shared → Prop} {h : Heap} {g : Array GenState} {d : Drawn} {t : Nat} {os : OsState}
variable {nm q : Str} {C N : Addr} {bs bm bmB : List Value} {hdct : Bool} {sn : List Str} {sub : List Value} {ab : Bool} {col : Option Bool} {dd : Option Addr} {k0 k1 k2 k3 k5 : Option Value} {B newId initId : String}
theorem new_made (F : ExcBaseFacts B newId initId bmB) (hT : ∀ X : String, bm.contains (.type X) = bmB.contains (.type X)) {us : List Value} {kw : List (Str × Value)}
    (hC : h.get? C = some (excClassObj nm q C N bs bm hdct sn sub ab col dd k0 k1 k2 k3 k5 newId))
    (hq : R (.ok (.ret (.ref (h.objs.size + 1)))) ⟨(h.push (W.kdv_tup us)).push (excO C h.objs.size), g, d, t, os⟩) (hl : us.length ≤ sizeLine) :
    codeAny (model prog w) A (.builtin newId ⟨.ref C :: us, kw⟩) R ⟨h, g, d, t, os⟩ := by
  have ends := F.ends
  have isB : (Value.ref C :: bm).contains (.type B) = true := by rw [List.contains_cons, hT, F.hasB, Bool.or_true]
  have notA : (Value.ref C :: bm).contains (.type "AttributeError") = false := by rw [List.contains_cons, hT, F.noAttr]; rfl
  have notN : (Value.ref C :: bm).contains (.type "NameError") = false := by rw [List.contains_cons, hT, F.noName]; rfl
  refine codeAny_builtinAt F.entry ?_
  unfold Builtin.«BaseException.__new__»
  refine wpAt_bind ?_
  show wpAt _ _ _ (stack >>= _) _ _ _
  refine wpAt_bind (wpAt_stack fun p below => wpAt_of_wpAny ?_)
  wp_walk
  refine wpAt_of_wpAny ?_
  rw [F.owner]
  repeat (first
    | with_reducible refine wpAny_madeHere_exc F.canon hC ?_
    | with_reducible refine wpAny_loadPart_at hC ?_
    | (with_reducible refine wpAny_isSubtype_exc hC ?_; first | rw [isB] | rw [notA] | rw [notN])
    | wp_step)
  show R _ _
  rw [Heap.size_push]
  exact hq
theorem type_made (F : ExcBaseFacts B newId initId bmB) (hT : ∀ X : String, bm.contains (.type X) = bmB.contains (.type X)) {us : List Value} {kw : List (Str × Value)} {fI : Addr} {Q : Fin → Shared → Prop}
    (hC : h.get? C = some (excClassObj nm q C N bs bm hdct sn sub ab col dd k0 k1 k2 k3 k5 newId))
    (hi : W.Looks (model prog w) h (typeLookup (.ref C) "__init__") (some (.ref fI))) (hb : ∀ self, W.Looks (model prog w) h (bindSpecial (.ref fI) self) (.ref fI, [self])) (hl : us.length ≤ sizeLine)
    (hq : codeAny (model prog w) A (.call (.ref fI) ⟨.ref (h.objs.size + 1) :: us, kw⟩)
      (fun r s' => match r with | .ok (.ret v) => v = .none ∧ Q (.done (.ret (.ref (h.objs.size + 1)))) s' | .ok _ => False | .error e => E e s')
      ⟨(h.push (W.kdv_tup us)).push (excO C h.objs.size), g, d, t, os⟩) :
    wpAny (model prog w) A (Builtin.«type.__call__» ⟨.ref C :: us, kw⟩) Q E ⟨h, g, d, t, os⟩ := by
  repeat (first | with_reducible refine wpAny_loadPart_at hC ?_ | with_reducible refine wpAny_madeBy_exc hC ?_ | wp_step)
  refine codeAny_call_builtin_code (Code.quiet_builtin _ F.quiet) (look_new F hT hC ?_)
  refine new_made F hT hC ?_ hl
  show wpAny _ _ _ _ _ _
  have k : ∀ b o, h.get? b = some o → ((h.push (W.kdv_tup us)).push (excO C h.objs.size)).get? b = some o := fun b o e => Heap.get?_push_of_some _ (Heap.get?_push_of_some _ e)
  have hC1 := k _ _ hC
  have at1 : ((h.push (W.kdv_tup us)).push (excO C h.objs.size)).get? (h.objs.size + 1) = some (excO C h.objs.size) := by heap_get
  have own : (Value.ref C :: bm).contains (.ref C) = true := by simp
  have i1 := hi.keeps k
  have b1 := (hb (.ref (h.objs.size + 1))).keeps k
  unfold isInstance
  repeat (first | with_reducible refine wpAny_loadPart_at at1 ?_ | (with_reducible refine wpAny_isSubtype_exc hC1 ?_; rw [own]) | wp_step)
  show wpAny _ _ (typeLookup (.ref C) _) _ _ _
  refine i1.at ?_
  refine wpAny_holding (wpAny_bind (b1.at ?_))
  refine wpAny_bind (wpAny_call (codeAny_mono hq fun r s' z => ?_))
  rcases r with e | (v | _ | _ | _) <;> first | exact z | exact z.elim | skip
  obtain ⟨rfl, z⟩ := z
  first
    | exact wpAny_pure (wpAny_pure z)
    | (wp_walk; exact z)
theorem call_made (F : ExcBaseFacts B newId initId bmB) (hT : ∀ X : String, bm.contains (.type X) = bmB.contains (.type X)) {us : List Value} {kw : List (Str × Value)} {fI : Addr}
    (hC : h.get? C = some (excClassObj nm q C N bs bm hdct sn sub ab col dd k0 k1 k2 k3 k5 newId))
    (hi : W.Looks (model prog w) h (typeLookup (.ref C) "__init__") (some (.ref fI))) (hb : ∀ self, W.Looks (model prog w) h (bindSpecial (.ref fI) self) (.ref fI, [self])) (hl : us.length ≤ sizeLine)
    (hq : codeAny (model prog w) (A.under (.builtin "type.__call__" ⟨.ref C :: us, kw⟩)) (.call (.ref fI) ⟨.ref (h.objs.size + 1) :: us, kw⟩) (W.InitBack (h.objs.size + 1) R)
      ⟨(h.push (W.kdv_tup us)).push (excO C h.objs.size), g, d, t, os⟩) :
    codeAny (model prog w) A (.call (.ref C) ⟨us, kw⟩) R ⟨h, g, d, t, os⟩ := by
  have f1 := tc_lookup
  have f2 := tc_bind (.ref C)
  have hTy : (⟨h, g, d, t, os⟩ : Shared).TypeIs (.ref C) "type" := ⟨_, hC, rfl⟩
  refine codeAny_of_tree ?_
  show wpAny _ _ (callAny (.ref C) _) _ _ _
  repeat (any_goals (first | assumption | with_reducible refine wpAny_loadPart_at hC ?_ | wp_step))
  refine ⟨rfl, ?_⟩
  refine codeAny_call_builtin_at (Code.quiet_builtin _ (by decide +kernel)) entry_typeCall (wpAny_check_type_call_sub hC (type_made F hT hC hi hb hl ?_))
  refine codeAny_mono hq fun r s' z => ?_
  rcases r with e | (v | _ | _ | _) <;> exact z
end
end MkE
end PySem
namespace L2
open PySem PySem.Spec PyProof.Rows
/-! ### an exception of an own class as a value -/
def ErrAt (H : Hp) (e C : Addr) (fs : List (Str × V)) : Prop :=
  (fs = [] ∧ H e = some (exo e C none)) ∨ ∃ d, H e = some (exo e C (some d)) ∧ H d = some (exd d fs)
theorem ErrAt.same {H H' : Hp} {e C : Addr} {fs : List (Str × V)} (h : ErrAt H e C fs) (s : Same H H') : ErrAt H' e C fs := by
  rcases h with ⟨h1, h2⟩ | ⟨d, h1, h2⟩
  · exact .inl ⟨h1, s _ _ h2⟩
  · exact .inr ⟨d, s _ _ h1, s _ _ h2⟩
section
variable {X : Cx} {pins : List (Addr × Obj)} {σ : St} {H : Hp} {s : Shared} {e C : Addr} {fs : List (Str × V)}
theorem ErrAt.inst (I : Inv X pins σ H s) (h : ErrAt H e C fs) :
    ∃ (oe : Obj) (od : Option Obj), PySem.W.InstAt s.heap e oe C od ∧ ∀ f v, fs.lookup f = some v → ∃ (o : Obj) (u : Value), od = some o ∧ RelV v u ∧ PySem.W.lookIn f o = some (some u) := by
  rcases h with ⟨h1, h2⟩ | ⟨d, h1, h2⟩
  · obtain ⟨t1, ho⟩ := exo_at I.hok h2
    exact ⟨_, none, ⟨ho, rfl, rfl, trivial⟩, fun f v l => by rw [h1] at l; cases l⟩
  · obtain ⟨t1, ho⟩ := exo_at I.hok h1
    obtain ⟨mA, hns, rel⟩ := exd_at I.hok h2
    obtain ⟨od, hod, hl⟩ := lookIn_ns hns
    refine ⟨_, some od, ⟨ho, rfl, rfl, hod⟩, fun f v l => ?_⟩
    obtain ⟨u, hu, ru⟩ := RelO.some_of (v := v) (o := mA f) (by rw [← l]; exact rel f)
    exact ⟨od, u, rfl, ru, by rw [hl, hu]⟩
end
/-- isinstance(e, c) -/
def rIsErr (K : PySem.W.Frag) : List V → Hp → VK → Prop := fun xs H Q => ∃ (e C : Addr) (fs : List (Str × V)) (c : V) (cv : Value) (b : Bool),
  xs = [.ref e, c] ∧ ErrAt H e C fs ∧ ExcC K C ∧ ClsV c cv ∧ PySem.W.kitOne K (.ref C) cv = some b ∧ Q (.bl b) H
theorem call_isErr {X : Cx} : CallR X (.builtin "isinstance") (rIsErr X.K) := by
  intro pins s σ H xs us Q I r h
  obtain ⟨e, C, fs, c, cv, b, rfl, he, T, k, ek, q⟩ := h
  obtain ⟨u1, u2, rfl, r1, r2⟩ := vals2 r
  have e2 := k.eq r2
  subst e2
  obtain rfl : u1 = Value.ref e := r1
  obtain ⟨oe, od, J, _⟩ := he.inst I
  have hcl : (PySem.W.clsIn X.K C).isSome = true := by
    obtain ⟨cd, hc, _⟩ := PySem.W.any_some T.hd
    rw [hc]
    rfl
  exact PySem.W.kia_one (PySem.W.kitx_exc (ox := oe) (od := od) hcl T.hg T.hk T.hs T.ha T.hn T.ht T.hm) I.kIn J ek (fun z => nomatch z) fun tk => ⟨.bl b, H, I.tok tk, rfl, q⟩
/-- e.f -/
def tErrF (K : PySem.W.Frag) (f : Str) (te : TE) : TE := fun σ H Q => te σ H fun x H1 => ∃ (e C : Addr) (fs : List (Str × V)) (v : V),
  x = .ref e ∧ ErrAt H1 e C fs ∧ XfC K C ∧ PySem.W.findIn K (.ref C) f = some none ∧ fs.lookup f = some v ∧ Q v H1
theorem pe_errF {X : Cx} {e : Expr} {te : TE} {pos : Pos} {n : Str} (he : PE X e te) (hb : attributeBase e n X.env (eval e X.env) = eval e X.env := by rfl) :
    PE X (.Attribute e n pos) (tErrF X.K n te) := by
  refine ⟨fun pins s σ H Q I h => ?_⟩
  refine attr_of hb (thn (he.run pins s σ H _ I h) fun u s1 hh => ?_)
  obtain ⟨x, H1, I1, rx, e0, C, fs, v, ex, ea, T, hno, l, q⟩ := hh
  subst ex
  obtain rfl : u = Value.ref e0 := rx
  obtain ⟨oe, od, J, hl⟩ := ea.inst I1
  obtain ⟨o, u, rfl, ru, hlu⟩ := hl n v l
  exact HandSPX.exc_get I1.kIn J T.ga T.gg T.exC (PySem.W.findObj_own T.hdC hno rfl hlu) (handed_of ru) ⟨v, H1, I1.tok _, ru, q⟩
/-! ### making one -/
/-- the promise of an __init__ that keeps its parameters ks -/
def spErrI (K : PySem.W.Frag) (ks : List Str) : Sp := fun vs H Q _ => ∃ (e C : Addr) (ws : List V), vs = .ref e :: ws ∧ ws.length = ks.length ∧ OexC K C ∧ (∀ f ∈ ks, PySem.W.findIn K (.ref C) f = some none) ∧
  H e = some (exo e C none) ∧ ∀ H', (∀ b o, b ≠ e → H b = some o → H' b = some o) → ErrAt H' e C (ks.zip ws).reverse → Q .non H'
/-- what the written part tells of such a class -/
structure ErrC (K : PySem.W.Frag) (C fI : Addr) (ks : List Str) : Prop where
  ox : OexC K C
  ini : PySem.W.findIn K (.ref C) "__init__" = some (some (.ref fI))
  fn : PySem.W.typeIn K (.ref fI) = some (.type "function")
  no : ∀ f ∈ ks, PySem.W.findIn K (.ref C) f = some none
  xf : XfC K C
  is : ExcC K C
section
variable {X : Cx} {C fI : Addr} {ks kn ps : List Str} {k : Nat} {fd : FuncData} {x : Str} {p pos : Pos} {e : Expr} {es : List Expr} {kws : List Keyword} {ta tk : TA} {g : List Value → List Value → List Value} {gV : List V → List V → List V}
theorem run_err {pins : List (Addr × Obj)} {σ : St} {H1 : Hp} {s1 : Shared} {Q : VK} {us : List Value} {kw : List (Str × Value)} {ws : List V} {as : List Value} (T : ErrC X.K C fI ks)
    (F : FnOk X.prog X.w X.K X.mg X.base CX0 k fI fd ps (spErrI X.K ks)) (hr : Room (k + 1) X.A) (I1 : Inv X pins σ H1 s1) (hl : us.length ≤ sizeLine)
    (hb : ∀ (s : Shared) (a : Addr), X.K.In s.heap → BindsTo s fd ⟨.ref a :: us, kw⟩ (ps.zip (.ref a :: as))) (r : Vals ws as) (hn : ws.length = ks.length)
    (h : ∀ e H2, H1 e = none → Same H1 H2 → ErrAt H2 e C (ks.zip ws).reverse → Q (.ref e) H2) :
    wpAny (model X.prog X.w) X.A (call (.ref C) us kw) (EP X pins σ Q) X.xe s1 := by
  obtain ⟨nm, q, N, bs, bm, sn, sub, ab, col, dd, k0, k1, k2, k3, k5, hC, hbm⟩ := T.ox.cls
  obtain ⟨hp, gs, dr, tk, os⟩ := s1
  have hsz : hp.objs.size ≤ hp.objs.size + 1 := Nat.le_succ _
  have fr : H1 (hp.objs.size + 1) = none := I1.hok.fresh hsz
  have kk : ∀ b o, hp.get? b = some o → ((hp.push (PySem.W.kdv_tup us)).push (PySem.HandSPX.excO C hp.objs.size)).get? b = some o := fun b o z => Heap.get?_push_of_some _ (Heap.get?_push_of_some _ z)
  have at1 : ((hp.push (PySem.W.kdv_tup us)).push (PySem.HandSPX.excO C hp.objs.size)).get? (hp.objs.size + 1) = some (PySem.HandSPX.excO C hp.objs.size) := by heap_get
  have I2 : Inv X pins σ (upd H1 (hp.objs.size + 1) (exo (hp.objs.size + 1) C none)) ⟨(hp.push (PySem.W.kdv_tup us)).push (PySem.HandSPX.excO C hp.objs.size), gs, dr, tk, os⟩ :=
    I1.laid (t' := tk) (a := hp.objs.size + 1) (o := exo (hp.objs.size + 1) C none) (h' := (hp.push (PySem.W.kdv_tup us)).push (PySem.HandSPX.excO C hp.objs.size)) kk hsz (exo_ok at1)
  have hsp : spErrI X.K ks (.ref (hp.objs.size + 1) :: ws) (upd H1 (hp.objs.size + 1) (exo (hp.objs.size + 1) C none)) (fun v H2 => v = .non ∧ Q (.ref (hp.objs.size + 1)) H2) (fun _ _ _ => False) :=
    ⟨_, C, ws, rfl, hn, T.ox, T.no, upd_same, fun H' km ea => ⟨rfl, h _ H' fr (fun b o z => km b o (ne_of_none z fr) (by rw [upd_ne (ne_of_none z fr)]; exact z)) ea⟩⟩
  refine wpAny_call (PySem.MkE.call_made PySem.F.excBase_ValueError (fun Y => PySem.HandSPX.refsVE_contains Y bm hbm) (I1.kIn _ _ hC) (PySem.W.looks_findIn I1.kIn T.ini) (fun self => PySem.W.bind_fn I1.kIn self T.fn) hl
    (codeAny_mono (F.run _ X.stack _ _ ⟨.ref (hp.objs.size + 1) :: us, kw⟩ (.ref (hp.objs.size + 1) :: as) (.ref (hp.objs.size + 1) :: ws) _ _ (hr.make C us kw) (I2.env0.make C us kw) (hb _ _ I2.kIn) (.cons rfl r) hsp) fun rr s' hq' => ?_))
  cases rr with
  | error er => exact False.elim hq'
  | ok fl =>
    cases fl with
    | ret u =>
      obtain ⟨v, H', I3, rv, ev, q3⟩ := I2.after hq'
      subst ev
      exact ⟨rv, ⟨V.ref (hp.objs.size + 1), H', I3, rfl, q3⟩⟩
    | next => exact False.elim hq'
    | brk => exact False.elim hq'
    | cont => exact False.elim hq'
/-- C(..): the values in the parameters' order -/
def tErr (C : Addr) (ks : List Str) (ord : List V → List V) (t : TA) : TE := fun σ H Q => t σ H fun vs H1 => vs.length = ks.length ∧ ∀ e H2, H1 e = none → Same H1 H2 → ErrAt H2 e C (ks.zip (ord vs)).reverse → Q (.ref e) H2
/-- C(e, ..) -/
theorem pe_err (T : ErrC X.K C fI ks) (F : FnOk X.prog X.w X.K X.mg X.base CX0 k fI fd ps (spErrI X.K ks)) (hr : Room (k + 1) X.A) (hg : Gl X x) (hm : X.mg x = some (.ref C)) (hb : Binds X.K fd ps []) (hp : ps.length = ks.length + 1) (hk : ks.length ≤ 100) (ha : PA X (e :: es) ta)
    (hdb : (x == ("__debug__" : Str)) = false := by decide) (he : starEach (e :: es) X.env = (false, eval e X.env) :: starEach es X.env := by rfl) (hpl : (backTo pos (starEach es X.env)).any (·.1) = false := by rfl) :
    PE X (.Call (.Name x p) (e :: es) [] pos) (tErr C ks id ta) := by
  refine ⟨fun pins s σ H Q I h => ?_⟩
  refine wpAny_Call_Name_kw (ld_glob I hg hm ?_ hdb)
  refine PySem.W.callWith_K (h₀ := X.base) I.ok.mod.kin T.ox.kC (thn (ha.run pos pins s σ H _ I h) fun us s1 ⟨vs, H1, I1, r, hl, q⟩ => ⟨I1.kIn, ?_⟩) he hpl
  have l2 : us.length = ks.length := r.length.symm.trans hl
  show wpAny _ _ (call (.ref C) us) _ _ _
  refine run_err (as := us) T F hr I1 (by rw [l2, sizeLine_eq]; omega) (fun s a KX => ?_) r hl q
  have z := hb s (.ref a :: us) KX (by rw [List.append_nil, List.length_cons, l2, hp])
  rw [List.append_nil] at z
  exact z
/-- C() -/
theorem pe_err0 (T : ErrC X.K C fI []) (F : FnOk X.prog X.w X.K X.mg X.base CX0 k fI fd ps (spErrI X.K [])) (hr : Room (k + 1) X.A) (hg : Gl X x) (hm : X.mg x = some (.ref C)) (hb : Binds X.K fd ps []) (hp : ps.length = 1)
    (hdb : (x == ("__debug__" : Str)) = false := by decide) : PE X (.Call (.Name x p) [] [] pos) (tErr C [] id tNil) := by
  refine ⟨fun pins s σ H Q I h => ?_⟩
  refine wpAny_Call_Name_kw (ld_glob I hg hm ?_ hdb)
  refine PySem.W.callWith_K0 I.kIn T.ox.kC ?_
  refine run_err (us := []) (as := []) (ws := []) T F hr I (Nat.zero_le _) (fun s a KX => ?_) .nil rfl h.2
  have z := hb s [.ref a] KX (by rw [List.append_nil, hp]; rfl)
  rw [List.append_nil] at z
  exact z
/-- C(k = e, ..) -/
theorem pe_errK (T : ErrC X.K C fI ks) (F : FnOk X.prog X.w X.K X.mg X.base CX0 k fI fd ps (spErrI X.K ks)) (hr : Room (k + 1) X.A) (hg : Gl X x) (hm : X.mg x = some (.ref C)) {ordV : List V → List V} {ordU : List Value → List Value}
    (hb : ∀ (s : Shared) (a : Addr) (zs : List Value), zs.length = ks.length → BindsTo s fd ⟨[.ref a], kn.zip zs⟩ (ps.zip (.ref a :: ordU zs))) (hv : ∀ (vs : List V) (us : List Value), vs.length = ks.length → Vals vs us → Vals (ordV vs) (ordU us) ∧ (ordV vs).length = ks.length) (hkw : PK X kws tk)
    (hall : (backToKw pos (keywordEach kws X.env)).all (·.1.isSome) = true := by rfl) (hks : (backToKw pos (keywordEach kws X.env)).filterMap (·.1) = kn := by rfl)
    (hdb : (x == ("__debug__" : Str)) = false := by decide)
    (hpl : ((backTo pos (starEach [] X.env)).any (·.1) || (backToKw pos (keywordEach kws X.env)).any (·.1.isNone)) = false := by rfl) :
    PE X (.Call (.Name x p) [] kws pos) (tErr C ks ordV tk) := by
  refine ⟨fun pins s σ H Q I h => ?_⟩
  refine wpAny_Call_Name_kw (ld_glob I hg hm ?_ hdb)
  refine PySem.W.callWith_KW0 (h₀ := X.base) I.ok.mod.kin T.ox.kC hall ?_ hpl
  refine thn (hkw.run pos pins s σ H _ I h) fun us s1 ⟨vs, H1, I1, r, hl, q⟩ => ⟨I1.kIn, ?_⟩
  rw [hks]
  obtain ⟨r2, l2⟩ := hv vs us hl r
  exact run_err (us := []) T F hr I1 (Nat.zero_le _) (fun s a _ => hb s a us (r.length.symm.trans hl)) r2 l2 q
end
end L2
namespace L2
open PySem PySem.Spec PyProof.Rows
/-! ### data that repr tells: t is one address that may change -/
def KeepBut (t : Addr) (H H' : Hp) : Prop := ∀ b o, b ≠ t → H b = some o → H' b = some o
theorem KeepBut.trans {t : Addr} {H H1 H2 : Hp} (a : KeepBut t H H1) (b : KeepBut t H1 H2) : KeepBut t H H2 := fun c o n e => b c o n (a c o n e)
theorem KeepBut.refl {t : Addr} (H : Hp) : KeepBut t H H := fun _ _ _ e => e
theorem Same.but {t : Addr} {H H' : Hp} (s : Same H H') : KeepBut t H H' := fun b o _ e => s b o e
def Rp (P : Program) (w : World) (t : Addr) (H : Hp) (v : V) (d : PyData) : Prop := ∀ (H' : Hp) (h : Heap), KeepBut t H H' → HOk P w H' h → ∀ u, RelV v u → ∃ as, Reads h u d as ∧ ∀ b ∈ as, b ≠ sysModules
abbrev RpL (P : Program) (w : World) (t : Addr) (H : Hp) : List V → List PyData → Prop := Paired (Rp P w t H)
section
variable {P : Program} {w : World} {t : Addr} {H H' : Hp} {v : V} {d : PyData} {vs : List V} {ds ks : List PyData} {a : Addr} {kvs : List (Key × V)}
theorem Rp.keep (h : Rp P w t H v d) (s : KeepBut t H H') : Rp P w t H' v d := fun H2 hh s2 ok u r => h H2 hh (s.trans s2) ok u r
theorem RpL.keep : ∀ {vs : List V} {ds : List PyData}, RpL P w t H vs ds → KeepBut t H H' → RpL P w t H' vs ds
  | _, _, .nil, _ => .nil
  | _, _, .cons h q, s => .cons (Rp.keep h s) (RpL.keep q s)
theorem RpL.reads {h : Heap} (s : KeepBut t H H') (ok : HOk P w H' h) : ∀ {vs : List V} {ds : List PyData} {us : List Value}, RpL P w t H vs ds → Vals vs us → ∃ as, ReadsAll h us ds as ∧ ∀ b ∈ as, b ≠ sysModules
  | _, _, _, .nil, .nil => ⟨[], .nil, fun _ z => nomatch z⟩
  | _, _, _, .cons x q, .cons r rt => by
    obtain ⟨a1, h1, n1⟩ := x H' h s ok _ r
    obtain ⟨a2, h2, n2⟩ := RpL.reads s ok q rt
    exact ⟨a1 ++ a2, .cons h1 h2, fun b hb => (List.mem_append.mp hb).elim (n1 b) (n2 b)⟩
theorem rp_non : Rp P w t H .non .none := fun _ _ _ _ u r => by cases (show u = Value.none from r); exact ⟨[], .none, fun _ z => nomatch z⟩
theorem rp_bl (b : Bool) : Rp P w t H (.bl b) (.bool b) := fun _ _ _ _ u r => by cases (show u = Value.bool b from r); exact ⟨[], .bool b, fun _ z => nomatch z⟩
theorem rp_int (i : Int) : Rp P w t H (.int i) (.int i) := fun _ _ _ _ u r => by obtain ⟨t, rfl⟩ := (show ∃ t, u = Value.int i t from r); exact ⟨[], .int i t, fun _ z => nomatch z⟩
theorem rp_str (x : Str) : Rp P w t H (.str x) (.str x) := fun _ _ _ _ u r => by obtain ⟨t, rfl⟩ := (show ∃ t, u = Value.str x t from r); exact ⟨[], .str x t, fun _ z => nomatch z⟩
theorem rp_lst (e : H a = some (.lst vs)) (nt : a ≠ t) (na : a ≠ sysModules) (r : RpL P w t H vs ds) : Rp P w t H (.ref a) (.list ds) := fun H' h s ok u ru => by
  cases (show u = Value.ref a from ru)
  obtain ⟨z, its, n, rv, ho⟩ : vs.length ≤ sizeLine ∧ ∃ (its : List Value) (n : Nat), Vals vs its ∧ h.get? a = some { cls := .type "list", data := .seq its.toArray n } := ok a _ (s _ _ nt e)
  obtain ⟨as, ra, nn⟩ := r.reads s ok rv
  exact ⟨a :: as, .list ho rfl rfl (by simpa using ra), fun b hb => (List.mem_cons.mp hb).elim (fun q => by rw [q]; exact na) (nn b)⟩
theorem rp_tup (e : H a = some (.tup vs)) (nt : a ≠ t) (r : RpL P w t H vs ds) : Rp P w t H (.ref a) (.tuple ds) := fun H' h s ok u ru => by
  cases (show u = Value.ref a from ru)
  obtain ⟨z, its, rv, o, ho, hc, n, hd⟩ : vs.length ≤ sizeLine ∧ ∃ its : List Value, Vals vs its ∧ IsTup h a its.toArray := ok a _ (s _ _ nt e)
  obtain ⟨as, ra, nn⟩ := r.reads s ok rv
  exact ⟨as, .tuple ho hc hd (by simpa using ra), nn⟩
theorem keys_vals {ws : List (Key × Value)} {es : List DictEntry} (rel : KV kvs ws) (pr : Pairs (mixKind P w) es ws) : Vals (kvs.map fun p => kV p.1) (es.map (·.key)) ∧ Vals (kvs.map (·.2)) (es.map (·.val)) := by
  unfold KV at rel
  induction rel generalizing es with
  | nil => cases pr; exact ⟨.nil, .nil⟩
  | @cons x y l1 l2 r tl ih =>
    cases pr with
    | @cons e kv es' _ hk hv ht =>
      obtain ⟨a1, a2⟩ := ih ht
      have k2 : keyIs y.1 e.key = true := hk
      refine ⟨.cons ?_ a1, .cons ?_ a2⟩
      · show RelV (kV x.1) e.key
        rw [r.1]
        rcases keyIs_shape k2 with ⟨i, t', e1, e2⟩ | ⟨x, t', e1, e2⟩
        · rw [e1, e2]; exact ⟨t', rfl⟩
        · rw [e1, e2]; exact ⟨t', rfl⟩
      · show RelV x.2 e.val
        rw [hv]
        exact r.2
theorem rp_dK (e : H a = some (.dK kvs)) (nt : a ≠ t) (rk : RpL P w t H (kvs.map fun p => kV p.1) ks) (rv : RpL P w t H (kvs.map (·.2)) ds) (hl : ks.length = ds.length) : Rp P w t H (.ref a) (.dict (ks.zip ds)) := fun H' h s ok u ru => by
  cases (show u = Value.ref a from ru)
  obtain ⟨z, na, ws, rel, o, es, ep, ho, hx, hd, _, hp, _⟩ : kvs.length ≤ sizeLine ∧ (a == sysModules) = false ∧ ∃ vs, KV kvs vs ∧ h.DictOf (mixKind P w) a vs := ok a _ (s _ _ nt e)
  obtain ⟨r1, r2⟩ := keys_vals rel hp
  obtain ⟨as, ra, na1⟩ := rk.reads s ok r1
  obtain ⟨bs, rb, nb1⟩ := rv.reads s ok r2
  refine ⟨a :: as ++ bs, .dict ho hx.1 hd ?_ ?_, fun b hb => ?_⟩
  · rw [List.map_fst_zip (Nat.le_of_eq hl)]; exact ra
  · rw [List.map_snd_zip (Nat.le_of_eq hl.symm)]; exact rb
  · rcases List.mem_append.mp hb with hb | hb
    · rcases List.mem_cons.mp hb with q | hb
      · rw [q]; exact beq_eq_false_iff_ne.mp na
      · exact na1 b hb
    · exact nb1 b hb
end
/-- repr(v) -/
def rRepr (P : Program) (w : World) : List V → Hp → VK → Prop := fun xs H Q => ∃ (t : Addr) (v : V) (d : PyData), xs = [v] ∧ Rp P w t H v d ∧ d.showable = true ∧ d.depth ≤ 50 ∧ d.shown.length ≤ sizeLine ∧ Q (.str d.shown) H
theorem call_repr {X : Cx} (hG : X.A.guards = some []) (hu : X.A.units + 64 < cLine) : CallR X (.builtin "repr") (rRepr X.prog X.w) := by
  intro pins s σ H xs us Q I r h
  obtain ⟨ta, v, d, rfl, rp, hs, hd, hz, q⟩ := h
  cases r with
  | cons rv rn =>
    rename_i u us'
    cases rn
    obtain ⟨as, rd, na⟩ := rp H s.heap (KeepBut.refl H) I.hok u rv
    cases u with
    | ref a =>
      refine repr_of_reads' rd hs (fun _ z => na _ z rfl) hG (by omega) (fun b o z => z) (fun h' t tk k => ?_) hz
      exact ⟨.str d.shown, H, I.kept k, ⟨_, rfl⟩, q⟩
    | none =>
      cases rd
      simp only [PyData.shown] at q
      exact PySem.P.repr_of_none ⟨.str "None", H, I.tok _, ⟨_, rfl⟩, q⟩
    | bool b =>
      cases rd
      simp only [PyData.shown] at q
      exact PySem.P.repr_of_bool ⟨.str (if b then "True" else "False"), H, I.tok _, ⟨_, rfl⟩, q⟩
    | int i t =>
      cases rd
      simp only [PyData.shown] at q
      have hs' : i.natAbs.log2 < 1920 := by simpa [PyData.showable] using hs
      exact PySem.P.repr_of_int hs' ⟨.str (toString i), H, I.tok _, ⟨_, rfl⟩, q⟩
    | str x t =>
      cases rd
      simp only [PyData.shown] at q hz
      exact PySem.P.repr_of_str ⟨.str (reprText x), H, I.tok _, ⟨_, rfl⟩, q⟩ hz
    | _ => cases rd
/-- [a, b, ..], not the table of modules -/
def tLstS (t : TA) : TE := fun σ H Q => t σ H fun xs H1 => xs.length ≤ sizeLine ∧ ∀ p, H1 p = none → p ≠ sysModules → Q (.ref p) (upd H1 p (.lst xs))
theorem pe_lstS {X : Cx} {es : List Expr} {t : TA} {pos : Pos} (h : PA X es t) : PE X (.List es pos) (tLstS t) := by
  refine ⟨fun pins s σ H Q I hq => ?_⟩
  refine wpAny_List_spliced (thn (h.run pos pins s σ H _ I hq) fun us s1 ⟨xs, H1, I1, r, z, q⟩ => ⟨by rw [← r.length]; exact z, ?_⟩)
  have hf : H1 s1.heap.objs.size = none := I1.hok.fresh (Nat.le_refl _)
  refine ⟨.ref s1.heap.objs.size, upd H1 s1.heap.objs.size (.lst xs), I1.laid (t' := s1.toks) (fun b u e => Heap.get?_push_of_some _ e) (Nat.le_refl _) ?_, rfl, q _ hf (Nat.ne_of_gt I1.big)⟩
  exact ⟨z, us, 0, r, Heap.get?_push_size _ rfl⟩
/-! ### a def that is called where nothing is being shown by repr -/
structure FnOkG (P : Program) (w : World) (K : PySem.W.Frag) (mg : Str → Option Value) (base : Heap) (CX : CXT) (k : Nat) (f : Addr) (fd : FuncData) (ps : List Str) (sp : Sp) : Prop where
  len : ∀ vs H Q E, sp vs H Q E → vs.length = ps.length
  run : ∀ (A : Around) (outer : List Env) (s : Shared) (H : Hp) (args : Args) (us : List Value) (vs : List V) (Q : VK) (E : XK), A.guards = some [] → Room k A → Env0 P w K mg base A outer s H → BindsTo s fd args (ps.zip us) → Vals vs us → sp vs H Q E →
    codeAny (model P w) A (.call (.ref f) args) (CR CX outer P w H s Q E) s
theorem FunD.okG {P : Program} {w : World} {K : PySem.W.Frag} {mg : Str → Option Value} {base : Heap} {x qual : Str} {params : Arguments} {body : List Stmt} {scope : Scope} {dvs : List V} {kws : List (Str × V)} {f : Addr} {fd : FuncData} {CX : CXT} {N ps : List Str} {k : Nat} {sp : Sp}
    (F : FunD K x qual params body scope dvs kws f fd) (S : FnScope N ps scope) (len : ∀ vs H Q E, sp vs H Q E → vs.length = ps.length)
    (hbody : ∀ (cdv : Value) (A : Around) (outer : List Env) (s : Shared) (H : Hp) (vs : List V) (Q : VK) (E : XK), A.guards = some [] → Room k (A.deeper (envOfC qual scope s.heap.objs.size f cdv)) → sp vs H Q E →
      ∃ t, PSs (cxOf CX P w K mg base N qual scope f cdv A outer s H E) body t ∧ t { nx := fun _ H' => Q .non H', rt := Q } (start N vs) H) : FnOkG P w K mg base CX (k + 1) f fd ps sp := by
  obtain ⟨oc, od, dV, kV, doc, pm, an, cdv, ct, osl, rfl, lk, hcd, _, _⟩ := F.ex
  refine ⟨len, fun A outer s H args us vs Q E hG hr e0 hb r hsp => ?_⟩
  have KX : K.In s.heap := e0.mod.kin.keeps fun b o e => (e0.bs b o e).1
  have lim : s.heap.NoLimit := e0.mod.nolimit.keeps fun b o e => (e0.bs b o e).1
  have kinds : ∀ y ∈ ps.zip us, scope.names.lookup y.1 = some .local ∨ (scope.names.lookup y.1 = some .cell ∧ ((cellsFrom (s.heap.objs.size + 1) scope.names []).lookup y.1).isSome = true) := fun ⟨n, v⟩ hy =>
    (S.par n (List.of_mem_zip hy).1).elim .inl fun q => .inr ⟨q, PySem.W.cellsFrom_some _ _ _ (.inl q)⟩
  refine codeAny_call_function hr.depth (KX _ _ lk) rfl S.co S.gen rfl (PySem.W.codeRec_of KX hcd) (hb _ _ _ _ ?_)
  refine wpAny_newFunctionEnv_cells S.kind kinds fun env he s1 x => ?_
  subst he
  refine ⟨lim.keeps x.toInCall.keep, codeAny_func ?_⟩
  obtain ⟨t, ht, hq⟩ := hbody cdv A outer s H vs Q E hG (hr.deeper _) hsp
  have I : Inv (cxOf CX P w K mg base N qual scope f cdv A outer s H E) [] (start N vs) H s1 := inv_start S hr.hd e0 (len _ _ _ _ hsp) r x
  refine wpAny_mono (ht.run [] s1 (start N vs) H _ I hq) (fun fl s' hs => ?_) fun e s' hs => hs
  cases fl with
  | ret u =>
    obtain ⟨v, σ', H', J, rv, q⟩ := hs
    exact ⟨v, H', J.os, J.bare, J.base, J.hok, rv, q⟩
  | next =>
    obtain ⟨σ', H', J, q⟩ := hs
    exact ⟨V.non, H', J.os, J.bare, J.base, J.hok, rfl, q⟩
  | brk =>
    obtain ⟨_, _, _, q⟩ := hs
    exact False.elim q
  | cont =>
    obtain ⟨_, _, _, q⟩ := hs
    exact False.elim q
section
variable {X : Cx} {CX : CXT} {k : Nat} {f : Addr} {fd : FuncData} {ps : List Str} {sp : Sp} {dvs : List V} {ds : List Value} {E : XK} {x : Str} {p pos : Pos} {e : Expr} {es : List Expr} {t : TA}
theorem pe_callG (F : FnOkG X.prog X.w X.K X.mg X.base CX k f fd ps sp) (hG : X.A.guards = some []) (hr : Room k X.A) (hg : Gl X x) (hm : X.mg x = some (.ref f)) (hk : PySem.W.keepIn X.K (.ref f) = true) (hb : Binds X.K fd ps ds) (hd : Vals dvs ds) (hx : Passes CX X E)
    (ha : PA X (e :: es) t) (hdb : (x == ("__debug__" : Str)) = false := by decide) (he : starEach (e :: es) X.env = (false, eval e X.env) :: starEach es X.env := by rfl) (hpl : (backTo pos (starEach es X.env)).any (·.1) = false := by rfl) :
    PE X (.Call (.Name x p) (e :: es) [] pos) (tCall sp dvs E t) := by
  refine ⟨fun pins s σ H Q I h => ?_⟩
  refine wpAny_Call_Name_kw (ld_glob I hg hm ?_ hdb)
  refine PySem.W.callWith_K (h₀ := X.base) I.ok.mod.kin hk (thn (ha.run pos pins s σ H _ I h) fun us s1 ⟨vs, H1, I1, r, q⟩ => ⟨I1.kIn, ?_⟩) he hpl
  show wpAny _ _ (call (.ref f) us) _ _ _
  have r2 : Vals (vs ++ dvs) (us ++ ds) := r.append hd
  have hl : (us ++ ds).length = ps.length := by rw [← r2.length]; exact F.len _ _ _ _ q
  refine wpAny_call (codeAny_mono (F.run X.A X.stack s1 H1 ⟨us, []⟩ (us ++ ds) (vs ++ dvs) Q E hG hr I1.env0 (hb s1 us I1.kIn hl) r2 q) fun rr s' hq => ?_)
  cases rr with
  | error e => exact hx pins σ H1 s1 e s' I1 hq
  | ok fl =>
    cases fl with
    | ret u => exact I1.after hq
    | next => exact False.elim hq
    | brk => exact False.elim hq
    | cont => exact False.elim hq
end
/-- a law's end -/
theorem law_callG {P : Program} {w : World} {K : PySem.W.Frag} {mg mb : Str → Option Value} {k : Nat} {fa a : Addr} {fd : FuncData} {x : Str} {sp : Sp} {s₁ : Shared} {vs : List Value} {ns : List Int}
    (KX : K.In s₁.heap) (hns : s₁.heap.Ns mainGlobals mg) (hb : s₁.heap.Ns builtinsNs mb) (hbb : ∀ x : Str, x ≠ "__name__" → mb x = bootBuiltins x) (hlim : s₁.heap.NoLimit) (hg : s₁.gens = #[])
    (ha : s₁.heap.get? a = some { cls := .type "list", data := .seq vs.toArray }) (hi : IntsAre vs ns) (hl : ns.length ≤ sizeLine) (hr : Room k callerA)
    (F : ∀ base : Heap, K.In base → base.Ns mainGlobals mg → FnOkG P w K mg base CX0 k fa fd [x] sp) (hbind : ∀ (s : Shared) (u : Value), BindsTo s fd ⟨[u], []⟩ [(x, u)])
    (hsp : ∀ H : Hp, Only H → SqL K H a (ns.map V.int) → sp [.ref a] H (fun v _ => v = .bl true) fun _ _ _ => False) :
    codeAny (model P w) callerA (.call (.ref fa) ⟨[.ref a], []⟩) (fun r s' => r = .ok (.ret (.bool true)) ∧ OldK s₁.heap s'.heap ∧ s'.os = s₁.os ∧ AllBare s'.gens) s₁ := by
  have rv := vals_ints hi
  have lenV := hi.length
  -- the heap at the entry: the script alone is tracked, where the written part does not hold it
  have main : ∀ H : Hp, Only H → SqL K H a (ns.map V.int) → HOk P w H s₁.heap → (∀ b, H b ≠ none → b = a) → (H a ≠ none → K.lookup a = none) →
      codeAny (model P w) callerA (.call (.ref fa) ⟨[.ref a], []⟩) (fun r s' => r = .ok (.ret (.bool true)) ∧ OldK s₁.heap s'.heap ∧ s'.os = s₁.os ∧ AllBare s'.gens) s₁ := by
    intro H hO hS hok hA hK
    have isA : ∀ {b : Addr} {u : HO}, H b = some u → b = a := fun {b u} q => hA b (by rw [q]; exact fun z => nomatch z)
    have noA : ∀ {b : Addr} {o : Obj} {es : Array DictEntry} {ep : Nat}, s₁.heap.get? b = some o → o.data = .dict es ep → H b = none := fun {b o es ep} e d => by
      cases q : H b with
      | none => rfl
      | some u =>
        have z := isA q
        subst z
        rw [ha] at e; cases e
        exact nomatch (show Data.seq vs.toArray _ = Data.dict es ep from d)
    have nsK : ∀ {b : Addr} {m : Str → Option Value}, s₁.heap.Ns b m → (hidT s₁.heap H).Ns b m := fun {b m} ⟨o, es, ep, e, d, r⟩ => ⟨o, es, ep, hidT_get e (noA e d), d, r⟩
    have hKb : K.In (hidT s₁.heap H) := fun b o e => hidT_get (KX b o e) (by
      cases q : H b with
      | none => rfl
      | some u =>
        have z := isA q
        subst z
        rw [hK (by rw [q]; exact fun z => nomatch z)] at e; cases e)
    have hM : Mod K mg (hidT s₁.heap H) := ⟨hKb, nsK hns, ⟨mb, nsK hb, hbb⟩, let ⟨mc, h1, h2⟩ := hlim; ⟨mc, nsK h1, h2⟩⟩
    have e0 : Env0 P w K mg (hidT s₁.heap H) callerA [] s₁ H := ⟨rfl, hM, fun b o e => of_hidT e, Nat.le_of_eq (hidT_size _ _), trivial, fun b hb => absurd (show b ∈ ([] : List Addr) from hb) (by simp), hok, .of_eq hg⟩
    refine codeAny_mono ((F _ hKb (nsK hns)).run callerA [] s₁ H ⟨[.ref a], []⟩ [.ref a] [.ref a] _ _ rfl hr e0 (hbind s₁ (.ref a)) (.cons rfl .nil) (hsp H hO hS)) fun r s' h => ?_
    cases r with
    | error e => exact False.elim h
    | ok fl =>
      cases fl with
      | next => exact False.elim h
      | brk => exact False.elim h
      | cont => exact False.elim h
      | ret u =>
        obtain ⟨v, H', os, bare, un, hok', r', q⟩ := h
        have q' : v = .bl true := q
        subst q'
        obtain rfl : u = Value.bool true := r'
        refine ⟨rfl, OldK.of_keep fun b o e => ?_, os, bare⟩
        cases q : H b with
        | none => exact un.keep b o e q (fun z => absurd (show b ∈ ([] : List Addr) from z) (by simp)) (by simp)
        | some u =>
          rcases hO b with z | ⟨ob, xs, z⟩
          · rw [q] at z; cases z
          · obtain ⟨e1, _⟩ := hok b _ z
            obtain ⟨e2, _⟩ := hok' b _ (un.frzs b ob _ z)
            rw [e] at e1; cases e1
            exact e2
  cases hk : K.lookup a with
  | some o =>
    have e := KX a o hk
    rw [ha] at e
    cases e
    exact main (fun _ => none) (fun _ => .inl rfl) (.inr ⟨_, vs.toArray, _, hk, rfl, rfl, rfl, by rw [List.size_toArray, lenV]; exact hl, by simpa using rv⟩) (fun b u z => nomatch (show (none : Option HO) = some u from z)) (fun b z => absurd rfl z) fun z => absurd rfl z
  | none =>
    have ⟨H, at_, off⟩ : ∃ H : Hp, (∀ b, b = a → H b = some (HO.frz { cls := .type "list", data := .seq vs.toArray } (.lst (ns.map V.int)))) ∧ ∀ b, b ≠ a → H b = none :=
      ⟨fun c => if c = a then some (HO.frz { cls := .type "list", data := .seq vs.toArray } (.lst (ns.map V.int))) else none, fun b z => if_pos z, fun b z => if_neg z⟩
    refine main H (fun b => ?_) (.inl (.inr ⟨_, at_ a rfl⟩)) (fun b u z => ?_) (fun b z => ?_) fun _ => hk
    · by_cases hb : b = a
      · exact .inr ⟨_, _, at_ b hb⟩
      · exact .inl (off b hb)
    · by_cases hb : b = a
      · have z2 := (at_ b hb).symm.trans z
        cases z2
        subst hb
        exact ⟨ha, by rw [List.length_map]; exact hl, vs, _, rv, ha⟩
      · have z2 := (off b hb).symm.trans z
        cases z2
    · by_cases hb : b = a
      · exact hb
      · exact absurd (off b hb) z
end L2
namespace L2
open PySem PySem.Spec PyProof.Rows
/-! ### what the written part tells of an own error's class, as a Bool -/
def oexB (K : PySem.W.Frag) (C : Addr) : Bool := match K.lookup C with
  | some ⟨.type "type", _, .cls cd, sl⟩ => (match cd.mro, sl.toList with
    | .ref C' :: bm, [_, _, _, _, some (.builtin n), _] => C' == C && n == "ValueError.__new__" && !cd.hasDel && cd.hasDict && PySem.HandSPX.refsVE bm
    | _, _ => false)
  | _ => false
theorem oexB_ok {K : PySem.W.Frag} {C : Addr} (h : oexB K C = true) : ∃ nm q N bs bm sn sub ab col dd k0 k1 k2 k3 k5,
    K.lookup C = some (excClassObj nm q C N bs bm true sn sub ab col dd k0 k1 k2 k3 k5 "ValueError.__new__") ∧ PySem.HandSPX.refsVE bm = true := by
  unfold oexB at h
  split at h
  · rename_i dd cd sl ho
    split at h
    · rename_i C' bm k0 k1 k2 k3 n k5 hm hs
      simp only [Bool.and_eq_true, beq_iff_eq, Bool.not_eq_true'] at h
      obtain ⟨⟨⟨⟨rfl, rfl⟩, hdel⟩, hd⟩, ht⟩ := h
      obtain ⟨nm, bs, mro, ns, qn, hdct, sn, sub, ab, col, del⟩ := cd
      dsimp only at hm hdel hd
      subst hm hdel hd
      have hsl : sl = #[k0, k1, k2, k3, some (.builtin "ValueError.__new__"), k5] := by
        obtain ⟨l⟩ := sl
        simp only at hs
        rw [hs]
      subst hsl
      exact ⟨nm, qn, ns, bs, bm, sn, sub, ab, col, dd, k0, k1, k2, k3, k5, ho, ht⟩
    · cases h
  · cases h
def errB (x : Str) (ks : List Str) (K : PySem.W.Frag) : Bool :=
  oexB K (He.ga K x) && (He.eqO (PySem.W.nsIn K mainGlobals x) (some (some (.ref (He.ga K x)))) && (He.eqO (PySem.W.findIn K (.ref (He.ga K x)) "__setattr__") (some (some (.builtin "object.__setattr__"))) &&
  (decide (PySem.W.subIn K (.ref (He.ga K x)) (.type "BaseException") = some true) && (decide (PySem.W.typeIn K (.ref (He.ga K x)) = some (.type "type")) && (PySem.W.keepIn K (.ref (He.ga K x)) &&
  (He.eqO (PySem.W.findIn K (.ref (He.ga K x)) "__init__") (some (some (.ref (He.ma K (He.ga K x) "__init__")))) && (decide (PySem.W.typeIn K (.ref (He.ma K (He.ga K x) "__init__")) = some (.type "function")) &&
  ((ks.all fun f => He.eqO (PySem.W.findIn K (.ref (He.ga K x)) f) (some none)) && (xfB K (He.ga K x) &&
  (He.eqO (PySem.W.findIn K (.ref (He.ga K x)) "__class__") (some (some (.builtin "object.__class__"))) && (He.eqO (PySem.W.specialIn K (.builtin "object.__class__") "__get__") (some (some (.builtin "getset_descriptor.__get__"))) &&
  (decide (PySem.W.takesIn K (.builtin "object.__class__") = some true) && decide (PySem.W.mroIn K (He.ga K x) (.type "object") = some true)))))))))))))
theorem errB_ok {K : PySem.W.Frag} {x : Str} {ks : List Str} (h : errB x ks K = true) : ErrC K (He.ga K x) (He.ma K (He.ga K x) "__init__") ks ∧ (He.Fa.glo x).ok K = true := by
  unfold errB at h
  simp only [Bool.and_eq_true] at h
  obtain ⟨h1, h2, h3, h4, h5, h6, h7, h8, h9, h10, h11, h12, h13, h14⟩ := h
  have X := xfB_ok h10
  refine ⟨⟨⟨oexB_ok h1, He.eqO_ok h3, of_decide_eq_true h4, of_decide_eq_true h5, h6⟩, He.eqO_ok h7, of_decide_eq_true h8, fun f hf => He.eqO_ok (List.all_eq_true.mp h9 f hf), X, ⟨X.ga, X.gg, X.exC, X.hdC, He.eqO_ok h11, He.eqO_ok h12, of_decide_eq_true h13, of_decide_eq_true h14⟩⟩, h2⟩
/-! ### a Hook with Bools of one's own -/
def hookX (n : Nat) (fa : List He.Fa) (fn : List He.DefD) (fx : List (PySem.W.Frag → Bool)) : PySem.W.Hook where
  α := He.AlD × Bool
  obs := fun s => (He.obsDG n fa fn s.heap.get?, fx.all fun f => f (He.frG s.heap.get? (He.asD s.heap.get? n)))
  val := fun _ => (He.valD fn, true)
  says := fun _ h => ∃ K : PySem.W.Frag, K.In h ∧ He.SaysD fa fn K ∧ (fx.all fun f => f K) = true
  of := fun _ _ e => ⟨_, He.frG_in, (Prod.mk.inj e).1, (Prod.mk.inj e).2⟩
  keeps := fun _ _ _ ⟨K, hK, c⟩ k => ⟨K, PySem.W.Frag.In.keeps hK k, c⟩
def obX (n : Nat) (fa : List He.Fa) (fn : List He.DefD) (fx : List (PySem.W.Frag → Bool)) (s : PySem.W.SharedT) : He.AlD × Bool :=
  (He.obsDG n fa fn (HandSHeadRun.getT s), fx.all fun f => f (He.frG (HandSHeadRun.getT s) (He.asD (HandSHeadRun.getT s) n)))
theorem obX_eq (n : Nat) (fa : List He.Fa) (fn : List He.DefD) (fx : List (PySem.W.Frag → Bool)) (s : PySem.W.SharedT) : obX n fa fn fx s = (hookX n fa fn fx).obs s.abs := by
  have e : HandSHeadRun.getT s = s.abs.heap.get? := funext fun a => HandSHeadRun.getT_eq s a
  unfold obX
  rw [e] <;> rfl
end L2
namespace L2
open PySem PySem.Spec PyProof.Rows
/-- o.m(k = e, ..): all by keywords, in the parameters' order -/
def tMethK0 (C : Addr) (m : Str) (sp : Sp) (E : XK) (ta : TE) (t : TA) : TE := fun σ H Q => ta σ H fun x H1 => ∃ a dx fs, x = .ref a ∧ H1 a = some (.ins C dx fs) ∧ fs.lookup m = none ∧ t σ H1 fun vs H2 => sp (x :: vs) H2 Q E
theorem pe_methK0 {X : Cx} {CX : CXT} {k : Nat} {C f : Addr} {fd : FuncData} {ps ks : List Str} {sp : Sp} {E : XK} {m : Str} {pos apos : Pos} {o : Expr} {kws : List Keyword} {ta : TE} {tk : TA} {pl : Sem Bool}
    (he : PE X o ta) (c : Cls X.K C) (hm : Meth X.K C m f) (F : FnOk X.prog X.w X.K X.mg X.base CX k f fd ps sp) (hr : Room k X.A) (hb : ∀ (s : Shared) (a : Addr) (zs : List Value), (Value.ref a :: zs).length = ps.length → BindsTo s fd ⟨[.ref a], ks.zip zs⟩ (ps.zip (.ref a :: zs))) (hx : Passes CX X E) (hkw : PK X kws tk)
    (hall : (backToKw pos (keywordEach kws X.env)).all (·.1.isSome) = true := by rfl) (hks : (backToKw pos (keywordEach kws X.env)).filterMap (·.1) = ks := by rfl)
    (hpl : ((backTo pos (starEach [] X.env)).any (·.1) || (backToKw pos (keywordEach kws X.env)).any (·.1.isNone)) = false := by rfl)
    (ht : eval (.Call (.Attribute o m apos) [] kws pos) X.env = (do
      let ov ← eval o X.env
      standAt apos.atName
      let (f, first) ← holding [ov] (getMethod ov m pl)
      callWith pos f first (backTo pos (starEach [] X.env)) (backToKw pos (keywordEach kws X.env))) := by rfl) :
    PE X (.Call (.Attribute o m apos) [] kws pos) (tMethK0 C m sp E ta tk) := by
  refine ⟨fun pins s σ H Q I h => ?_⟩
  refine PySem.W.methodCall_KW (pl := pl) (thn (he.run pins s σ H _ I h) fun u s1 ⟨x, H1, I1, rx, a, dx, fs, ex, ea, l, q⟩ => ?_) ht
  subst ex
  obtain rfl : u = Value.ref a := rx
  refine getmeth_ok I1 ea c hm l ?_
  refine PySem.W.callWith_KW0 (first := [.ref a]) (h₀ := X.base) I1.ok.mod.kin hm.kp hall ?_ hpl
  refine thn (hkw.run pos pins s1 σ H1 _ I1 q) fun us s2 ⟨vs, H2, I2, r, q2⟩ => ⟨I2.kIn, ?_⟩
  rw [hks]
  have r2 : Vals (.ref a :: vs) (.ref a :: us) := .cons rfl r
  have hl : (Value.ref a :: us).length = ps.length := r2.length.symm.trans (F.len _ _ _ _ q2)
  refine wpAny_call (codeAny_mono (F.run X.A X.stack s2 H2 ⟨[.ref a], ks.zip us⟩ (.ref a :: us) (.ref a :: vs) Q E hr I2.env0 (hb s2 a us hl) r2 q2) fun r s' hq => ?_)
  match r, hq with
  | .error e, hq => exact hx pins σ H2 s2 e s' I2 hq
  | .ok (.ret u), hq => exact I2.after hq
  | .ok .next, hq => exact hq.elim
  | .ok .brk, hq => exact hq.elim
  | .ok .cont, hq => exact hq.elim
end L2
namespace L2
open PySem PySem.Spec PyProof.Rows ClX
/-- C.m is a staticmethod: its record at p, its def at g -/
structure SMet (K : PySem.W.Frag) (C : Addr) (mc : Value) (m : Str) (p g : Addr) : Prop where
  at_ : PySem.W.findCls K (.ref C) mc m = some (.get (.builtin "staticmethod.__get__") (.ref p) .none (.ref C))
  rc : ∃ rest, PySem.W.recIn K p "staticmethod" = some (.ref g :: rest)
  kp : PySem.W.keepIn K (.ref g) = true
section
variable {X : Cx} {pins : List (Addr × Obj)} {σ : L2.St} {H : Hp} {s : Shared} {C p g : Addr} {mc : Value} {m : Str} {A : Around} {E : Value → Shared → Prop}
theorem getsm_ok {pl : Sem Bool} {Q : Value × List Value → Shared → Prop} (I : Inv X pins σ H s) (r : CRead X.K C mc) (k : SMet X.K C mc m p g) (h : ∀ s', Inv X pins σ H s' → Q (.ref g, []) s') : wpAny (model X.prog X.w) A (getMethod (.ref C) m pl) Q E s := by
  obtain ⟨rest, hp⟩ := k.rc
  refine PySem.W.method_cls I.kIn r.ga (PySem.W.cls_bind I.kIn r.rd k.at_ ?_)
  refine wpAny_call (PySem.W.sm_get (s := { s with toks := s.toks + 1 }) I.kIn hp (PySem.W.handed_on rfl ?_))
  exact h _ (I.tok _)
end
/-- C.m(e, ..), m a staticmethod -/
def tSMeth (C : Addr) (sp : Sp) (E : XK) (ta : TE) (t : TA) : TE := fun σ H Q => ta σ H fun x H1 => x = .ref C ∧ t σ H1 fun vs H2 => sp vs H2 Q E
theorem pe_smeth {X : Cx} {CX : CXT} {k : Nat} {C p f : Addr} {mc : Value} {fd : FuncData} {ps : List Str} {sp : Sp} {E : XK} {o e : Expr} {es : List Expr} {m : Str} {pos apos : Pos} {ta : TE} {t : TA} {pl : Sem Bool}
    (he : PE X o ta) (r : CRead X.K C mc) (c : SMet X.K C mc m p f) (F : FnOk X.prog X.w X.K X.mg X.base CX k f fd ps sp) (hr : Room k X.A) (hb : Binds X.K fd ps []) (hx : Passes CX X E) (ha : PA X (e :: es) t)
    (hst : starEach (e :: es) X.env = (false, eval e X.env) :: starEach es X.env := by rfl) (hpl : (backTo pos (starEach es X.env)).any (·.1) = false := by rfl)
    (ht : eval (.Call (.Attribute o m apos) (e :: es) [] pos) X.env = (do
      let ov ← eval o X.env
      standAt apos.atName
      let (f, first) ← holding [ov] (getMethod ov m pl)
      callWith pos f first (backTo pos (starEach (e :: es) X.env)) (backToKw pos (keywordEach [] X.env))) := by rfl) :
    PE X (.Call (.Attribute o m apos) (e :: es) [] pos) (tSMeth C sp E ta t) := by
  refine ⟨fun pins s σ H Q I h => ?_⟩
  refine PySem.W.methodCall_KW (pl := pl) (thn (he.run pins s σ H _ I h) fun u s1 ⟨x, H1, I1, rx, ex, q⟩ => ?_) ht
  subst ex
  obtain rfl : u = Value.ref C := rx
  refine getsm_ok I1 r c fun s2 I2 => ?_
  refine PySem.W.callWith_K (first := []) (h₀ := X.base) I.ok.mod.kin c.kp (thn (ha.run pos pins s2 σ H1 _ I2 q) fun us s3 ⟨vs, H2, I3, rv, q2⟩ => ⟨I3.kIn, ?_⟩) hst hpl
  exact run_fn (dvs := []) F hr hb .nil hx I3 rv (by rw [List.append_nil]; exact q2)
end L2
namespace L2
open PySem PySem.Spec PyProof.Rows ClX
/-- all values by keywords, in the parameters' order -/
def BindsK (fd : FuncData) (ps : List Str) : Prop := ∀ (s : Shared) (zs : List Value), zs.length = ps.length → BindsTo s fd ⟨[], ps.zip zs⟩ (ps.zip zs)
theorem FunD.bindsK {K : PySem.W.Frag} {x qual : Str} {params : Arguments} {body : List Stmt} {scope : Scope} {kws : List (Str × V)} {f : Addr} {fd : FuncData} {ps : List Str} (F : FunD K x qual params body scope [] kws f fd)
    (h : ∀ (kV doc pm : Value) (an : Option Addr) (cdv ct : Value) (zs : List Value), zs.length = ps.length → bindArgs (PySem.W.fnOf x qual params body scope .none kV doc pm an cdv ct) ⟨[], ps.zip zs⟩ = pure (ps.zip zs)) : BindsK fd ps := by
  obtain ⟨oc, od, dV, kV, doc, pm, an, cdv, ct, osl, rfl, lk, hcd, hD, hK⟩ := F.ex
  rcases hD with ⟨_, rfl⟩ | ⟨e, _⟩
  · exact fun s zs hl => .of_eq (h kV doc pm an cdv ct zs hl)
  · exact absurd rfl e
/-- o.m(k = e, ..) -/
def BindsKM (fd : FuncData) (p : Str) (ps : List Str) : Prop := ∀ (s : Shared) (a : Addr) (zs : List Value), (Value.ref a :: zs).length = (p :: ps).length → BindsTo s fd ⟨[.ref a], ps.zip zs⟩ ((p :: ps).zip (.ref a :: zs))
theorem FunD.bindsKM {K : PySem.W.Frag} {x qual : Str} {params : Arguments} {body : List Stmt} {scope : Scope} {kws : List (Str × V)} {f : Addr} {fd : FuncData} {p : Str} {ps : List Str} (F : FunD K x qual params body scope [] kws f fd)
    (h : ∀ (kV doc pm : Value) (an : Option Addr) (cdv ct : Value) (a : Addr) (zs : List Value), zs.length = ps.length → bindArgs (PySem.W.fnOf x qual params body scope .none kV doc pm an cdv ct) ⟨[.ref a], ps.zip zs⟩ = pure ((p :: ps).zip (.ref a :: zs))) : BindsKM fd p ps := by
  obtain ⟨oc, od, dV, kV, doc, pm, an, cdv, ct, osl, rfl, lk, hcd, hD, hK⟩ := F.ex
  rcases hD with ⟨_, rfl⟩ | ⟨e, _⟩
  · exact fun s a zs hl => .of_eq (h kV doc pm an cdv ct a zs (Nat.succ.inj hl))
  · exact absurd rfl e
/-- f(k = e, ..), all by keywords -/
def tCallK0 (sp : Sp) (E : XK) (t : TA) : TE := fun σ H Q => t σ H fun vs H1 => sp vs H1 Q E
section
variable {X : Cx} {CX : CXT} {k : Nat} {f : Addr} {fd : FuncData} {ps : List Str} {sp : Sp} {E : XK} {x : Str} {p pos : Pos} {kws : List Keyword} {tk : TA}
theorem pe_callK0 (F : FnOk X.prog X.w X.K X.mg X.base CX k f fd ps sp) (hr : Room k X.A) (hg : Gl X x) (hm : X.mg x = some (.ref f)) (hk : PySem.W.keepIn X.K (.ref f) = true) (hb : BindsK fd ps) (hx : Passes CX X E) (hkw : PK X kws tk)
    (hall : (backToKw pos (keywordEach kws X.env)).all (·.1.isSome) = true := by rfl) (hks : (backToKw pos (keywordEach kws X.env)).filterMap (·.1) = ps := by rfl) (hdb : (x == ("__debug__" : Str)) = false := by decide)
    (hpl : ((backTo pos (starEach [] X.env)).any (·.1) || (backToKw pos (keywordEach kws X.env)).any (·.1.isNone)) = false := by rfl) :
    PE X (.Call (.Name x p) [] kws pos) (tCallK0 sp E tk) := by
  refine ⟨fun pins s σ H Q I h => ?_⟩
  refine wpAny_Call_Name_kw (ld_glob I hg hm ?_ hdb)
  refine PySem.W.callWith_KW0 (first := []) (h₀ := X.base) I.ok.mod.kin hk hall ?_ hpl
  refine thn (hkw.run pos pins s σ H _ I h) fun us s2 ⟨vs, H2, I2, r, q2⟩ => ⟨I2.kIn, ?_⟩
  rw [hks]
  have hl : us.length = ps.length := r.length.symm.trans (F.len _ _ _ _ q2)
  refine wpAny_call (codeAny_mono (F.run X.A X.stack s2 H2 ⟨[], ps.zip us⟩ us vs Q E hr I2.env0 (hb s2 us hl) r q2) fun r s' hq => ?_)
  match r, hq with
  | .error e, hq => exact hx pins σ H2 s2 e s' I2 hq
  | .ok (.ret u), hq => exact I2.after hq
  | .ok .next, hq => exact hq.elim
  | .ok .brk, hq => exact hq.elim
  | .ok .cont, hq => exact hq.elim
/-- f(), f told of by FnR -/
theorem pe_callR0 (F : FnR X.prog X.w X.K X.mg X.base CX k f sp) (hr : Room k X.A) (hg : Gl X x) (hm : X.mg x = some (.ref f)) (hk : PySem.W.keepIn X.K (.ref f) = true) (hx : Passes CX X E) (hd : (x == ("__debug__" : Str)) = false := by decide) :
    PE X (.Call (.Name x p) [] [] pos) (fun _ H Q => sp [] H Q E) := by
  refine ⟨fun pins s σ H Q I h => ?_⟩
  refine wpAny_Call_Name_kw (ld_glob I hg hm ?_ hd)
  exact PySem.W.callWith_K0 I.kIn hk (wpAny_call (run_fnR F hr hx I .nil h))
/-- C.m(k = e, ..), m a staticmethod -/
theorem pe_smethK0 {C q : Addr} {mc : Value} {o : Expr} {m : Str} {apos : Pos} {ta : TE} {pl : Sem Bool}
    (he : PE X o ta) (r : CRead X.K C mc) (c : SMet X.K C mc m q f) (F : FnOk X.prog X.w X.K X.mg X.base CX k f fd ps sp) (hr : Room k X.A) (hb : BindsK fd ps) (hx : Passes CX X E) (hkw : PK X kws tk)
    (hall : (backToKw pos (keywordEach kws X.env)).all (·.1.isSome) = true := by rfl) (hks : (backToKw pos (keywordEach kws X.env)).filterMap (·.1) = ps := by rfl)
    (hpl : ((backTo pos (starEach [] X.env)).any (·.1) || (backToKw pos (keywordEach kws X.env)).any (·.1.isNone)) = false := by rfl)
    (ht : eval (.Call (.Attribute o m apos) [] kws pos) X.env = (do
      let ov ← eval o X.env
      standAt apos.atName
      let (f, first) ← holding [ov] (getMethod ov m pl)
      callWith pos f first (backTo pos (starEach [] X.env)) (backToKw pos (keywordEach kws X.env))) := by rfl) :
    PE X (.Call (.Attribute o m apos) [] kws pos) (tSMeth C sp E ta tk) := by
  refine ⟨fun pins s σ H Q I h => ?_⟩
  refine PySem.W.methodCall_KW (pl := pl) (thn (he.run pins s σ H _ I h) fun u s1 ⟨x, H1, I1, rx, ex, q⟩ => ?_) ht
  subst ex
  obtain rfl : u = Value.ref C := rx
  refine getsm_ok I1 r c fun s2 I2 => ?_
  refine PySem.W.callWith_KW0 (first := []) (h₀ := X.base) I2.ok.mod.kin c.kp hall ?_ hpl
  refine thn (hkw.run pos pins s2 σ H1 _ I2 q) fun us s3 ⟨vs, H2, I3, rv, q2⟩ => ⟨I3.kIn, ?_⟩
  rw [hks]
  have hl : us.length = ps.length := rv.length.symm.trans (F.len _ _ _ _ q2)
  refine wpAny_call (codeAny_mono (F.run X.A X.stack s3 H2 ⟨[], ps.zip us⟩ us vs _ E hr I3.env0 (hb s3 us hl) rv q2) fun r s' hq => ?_)
  match r, hq with
  | .error e, hq => exact hx pins σ H2 s3 e s' I3 hq
  | .ok (.ret u), hq => exact I3.after hq
  | .ok .next, hq => exact hq.elim
  | .ok .brk, hq => exact hq.elim
  | .ok .cont, hq => exact hq.elim
end
end L2
namespace L2
open PySem PySem.Spec PyProof.Rows
/-! ### how often a text stands in a list of texts -/
def eqst (k : Str) (v : Value) : Bool := match v with
  | .str n _ => n.cps.toList == k.cps.toList
  | _ => false
theorem eqst_gives {k : Str} {t : Tok} : ∀ {us : List Value} {ns : List Str}, Vals (ns.map V.str) us → ∀ y ∈ us, MeetsSeq.EqGives y (.str k t) (eqst k y)
  | us, [], h => fun y hy => by
    cases h
    cases hy
  | us, n :: r, h => fun y hy => by
    cases h with
    | cons h1 h2 =>
      obtain ⟨t', rfl⟩ := h1
      rcases List.mem_cons.mp hy with e | e
      · rw [e]
        exact PySem.SeqRoads2.EqGives.str n k t' t
      · exact eqst_gives h2 y e
theorem eqst_count {k : Str} : ∀ {us : List Value} {ns : List Str}, Vals (ns.map V.str) us → us.countP (eqst k) = ns.countP fun x => decide (x = k)
  | us, [], h => by cases h; rfl
  | us, n :: r, h => by
    cases h with
    | cons h1 h2 =>
      obtain ⟨t', rfl⟩ := h1
      have ih := eqst_count (k := k) h2
      have e : eqst k (.str n t') = decide (n = k) := by
        show (n.cps.toList == k.cps.toList) = decide (n = k)
        by_cases c : n = k
        · rw [c]; simp
        · have : ¬ n.cps.toList = k.cps.toList := fun z => c (Str.ext' (Array.toList_inj.mp z))
          rw [decide_eq_false c]; exact beq_eq_false_iff_ne.mpr this
      rw [List.countP_cons, List.countP_cons, ih, e]
def rCntS (K : PySem.W.Frag) : V → List V → Hp → VK → Prop := fun x xs H Q => ∃ (p : Addr) (ns : List Str) (k : Str), x = .ref p ∧ xs = [.str k] ∧ SqL K H p (ns.map V.str) ∧ Q (.int (ns.countP (fun x => decide (x = k)) : Nat)) H
theorem mt_lcountS {X : Cx} : MtR X "list.count" (rCntS X.K) := by
  intro pins s σ H x xs v us Q I rx rxs h
  obtain ⟨p, ns, k, rfl, rfl, hs, q⟩ := h
  cases rx
  obtain ⟨u, rfl, ru⟩ := rxs.one
  obtain ⟨t, rfl⟩ := ru
  obtain ⟨its, rv, ⟨⟨cls, dd, data, sl⟩, n, ho, hc, hdn, hd⟩, hlen⟩ := I.list hs
  simp only at hc hd
  subst hc hd
  refine call_meets PySem.F.slot_list_count ⟨_, ho, rfl⟩ PySem.F.entry_list_count (PySem.F.args_list_count_2 _ _)
    (SeqAt.list_countAt p its.toArray n dd sl (.str k t) (eqst k)) ⟨ho, fun y hy => (eqst_gives rv y (by simpa using hy)).at _ _, ?_⟩
  have ec : its.toArray.toList.countP (eqst k) = ns.countP fun x => decide (x = k) := eqst_count rv
  refine ⟨.int (ns.countP (fun x => decide (x = k)) : Nat), H, I.tok _, ⟨s.toks, ?_⟩, q⟩
  show Value.int ((its.toArray.toList.countP (eqst k) : Nat) : Int) s.toks = Value.int ((ns.countP (fun x => decide (x = k)) : Nat) : Int) s.toks
  rw [ec]
end L2
namespace L2
open PySem PySem.Spec PyProof.Rows
/-! ### operators that an own class answers -/
/-- a class's own method by its special name -/
structure OwnM (K : PySem.W.Frag) (C : Addr) (name : Str) (f : Addr) : Prop where
  at_ : PySem.W.findIn K (.ref C) name = some (some (.ref f))
  fn : PySem.W.isFn K (.ref f) = true
/-- a is an instance of the class at C -/
def InsAt (H : Hp) (a C : Addr) : Prop := ∃ dx fs, H a = some (.ins C dx fs)
theorem InsAt.inst {X : Cx} {pins : List (Addr × Obj)} {σ : St} {H : Hp} {s : Shared} {a C : Addr} (h : InsAt H a C) (I : Inv X pins σ H s) : ∃ ox od, PySem.W.InstAt s.heap a ox C od := by
  obtain ⟨dx, fs, e⟩ := h
  obtain ⟨mA, J, _⟩ := ins_get I.hok e
  obtain ⟨od, J, _⟩ := J.look
  exact ⟨_, _, J⟩
section
variable {X : Cx} {CX : CXT} {n : Nat} {C f : Addr} {fd : FuncData} {ps : List Str} {sp : Sp} {E : XK}
/-- the def runs below the body, at any place with room -/
theorem own_run {A : Around} {pins : List (Addr × Obj)} {σ : St} {H : Hp} {s : Shared} {Q : VK} {us : List Value} {vs : List V} (F : FnOk X.prog X.w X.K X.mg X.base CX n f fd ps sp) (sb : Sub X n A) (hb : Binds X.K fd ps []) (hx : Passes CX X E)
    (I : Inv X pins σ H s) (r : Vals vs us) (h : sp vs H Q E) : wpAny (model X.prog X.w) A (call (.ref f) us) (EP X pins σ Q) X.xe s := by
  have e := I.env0
  have e0 : Env0 X.prog X.w X.K X.mg X.base A X.stack s H := ⟨by rw [sb.fr]; exact e.frames, e.mod, e.bs, e.bsz, e.funs, e.frf, e.hok, e.bare⟩
  have hl : us.length = ps.length := r.length.symm.trans (F.len _ _ _ _ h)
  have bi : BindsTo s fd ⟨us, []⟩ (ps.zip us) := by
    have z := hb s us I.kIn (by simpa using hl)
    simpa using z
  refine wpAny_call (codeAny_mono (F.run A X.stack s H ⟨us, []⟩ us vs Q E sb.room e0 bi r h) fun q s' z => ?_)
  match q, z with
  | .error x, z => exact hx pins σ H s x s' I z
  | .ok (.ret u), z => exact I.after z
  | .ok .next, z => exact z.elim
  | .ok .brk, z => exact z.elim
  | .ok .cont, z => exact z.elim
def rOwnC (C : Addr) (sp : Sp) (E : XK) : R2 := fun x y H Q => ∃ a b, x = .ref a ∧ y = .ref b ∧ InsAt H a C ∧ InsAt H b C ∧ sp [x, y] H Q E
/-- x op y, both of the class -/
theorem op_ownC {op : Operator} (M : OwnM X.K C (PySem.dunder op.info.2) f) (hc : PySem.W.selfFirst X.K C = true) (F : FnOk X.prog X.w X.K X.mg X.base CX n f fd ps sp) (hr : Room n X.A) (hb : Binds X.K fd ps []) (hx : Passes CX X E) : OpR X (binaryOp op) (rOwnC C sp E) := by
  intro pins s σ H x y v u Q I rx ry h
  obtain ⟨a, b, rfl, rfl, ha, hb', q⟩ := h
  obtain rfl : v = .ref a := rx
  obtain rfl : u = .ref b := ry
  obtain ⟨ox, od, J⟩ := ha.inst I
  obtain ⟨oy, ey, J'⟩ := hb'.inst I
  obtain ⟨m, hF⟩ := I.fr
  refine PySem.W.binop_K hF I.ok.mod.kin J J'.type hc M.at_ M.fn ?_
  refine wpAny_mono (own_run (vs := [.ref a, .ref b]) F ⟨hr, rfl⟩ hb hx I (.cons rfl (.cons rfl .nil)) q) (fun r s' z => ?_) fun _ _ z => z
  obtain ⟨z, H', I', rz, qz⟩ := id z
  exact SlX.cmpback rz ⟨z, H', I', rz, qz⟩
/-- the right side is a value of the built-in type at T, known without the heap -/
def PlainT (y : V) (T : String) : Prop := ∀ u, RelV y u → typeOf u = pure (.type T)
theorem plainT_int (i : Int) : PlainT (.int i) "int" := fun u r => by obtain ⟨t, rfl⟩ := (show ∃ t, u = Value.int i t from r); rfl
theorem plainT_str (x : Str) : PlainT (.str x) "str" := fun u r => by obtain ⟨t, rfl⟩ := (show ∃ t, u = Value.str x t from r); rfl
theorem plainT_bl (b : Bool) : PlainT (.bl b) "bool" := fun u r => by obtain rfl := (show u = Value.bool b from r); rfl
theorem plainT_non : PlainT .non "NoneType" := fun u r => by obtain rfl := (show u = Value.none from r); rfl
/-- what the written part must tell of a built-in type that stands at the right -/
structure RightT (K : PySem.W.Frag) (C : Addr) (nm : String) (T : String) : Prop where
  fo : ∃ o, PySem.W.findIn K (.type T) (PySem.dunder nm) = some o
  ro : ∃ o, PySem.W.findIn K (.type T) (dunderR nm) = some o
  no : PySem.W.subIn K (.type T) (.ref C) = some false
def rOwnT (K : PySem.W.Frag) (C : Addr) (nm : String) (sp : Sp) (E : XK) : R2 := fun x y H Q => ∃ a T, x = .ref a ∧ PlainT y T ∧ RightT K C nm T ∧ InsAt H a C ∧ sp [x, y] H Q E
theorem op_ownT {op : Operator} (M : OwnM X.K C (PySem.dunder op.info.2) f) (hc : PySem.W.selfFirst X.K C = true) (hR : PySem.W.findIn X.K (.ref C) (dunderR op.info.2) = some none) (F : FnOk X.prog X.w X.K X.mg X.base CX n f fd ps sp) (hr : Room n X.A) (hb : Binds X.K fd ps [])
    (hx : Passes CX X E) : OpR X (binaryOp op) (rOwnT X.K C op.info.2 sp E) := by
  intro pins s σ H x y v u Q I rx ry h
  obtain ⟨a, T, rfl, pt, R, ha, q⟩ := h
  obtain rfl : v = .ref a := rx
  obtain ⟨ox, od, J⟩ := ha.inst I
  obtain ⟨m, hF⟩ := I.fr
  obtain ⟨fo, h1⟩ := R.fo
  obtain ⟨ro, h2⟩ := R.ro
  refine PySem.W.ksp_binT hF I.ok.mod.kin J (pt u ry) hc M.at_ M.fn hR (.inl rfl) h1 h2 R.no ?_
  refine wpAny_mono (own_run (vs := [.ref a, y]) F ⟨hr, rfl⟩ hb hx I (.cons rfl (.cons ry .nil)) q) (fun r s' z => ?_) fun _ _ z => z
  obtain ⟨z, H', I', rz, qz⟩ := id z
  exact SlX.cmpback rz ⟨z, H', I', rz, qz⟩
def rOwn1 (C : Addr) (sp : Sp) (E : XK) : V → Hp → VK → Prop := fun x H Q => ∃ a, x = .ref a ∧ InsAt H a C ∧ sp [x] H Q E
/-- -x by an own __neg__ -/
theorem un_ownNeg (M : OwnM X.K C "__neg__" f) (F : FnOk X.prog X.w X.K X.mg X.base CX n f fd ps sp) (hr : Room n X.A) (hb : Binds X.K fd ps []) (hx : Passes CX X E) : UnR X (unaryOp .USub) (rOwn1 C sp E) := by
  intro pins s σ H x v Q I rx h
  obtain ⟨a, rfl, ha, q⟩ := h
  obtain rfl : v = .ref a := rx
  obtain ⟨ox, od, J⟩ := ha.inst I
  obtain ⟨m, hF⟩ := I.fr
  exact PySem.W.ksp_neg hF I.ok.mod.kin J M.at_ M.fn (own_run (vs := [.ref a]) F ⟨hr, rfl⟩ hb hx I (.cons rfl .nil) q)
/-- repr(x) by an own __repr__ -/
theorem call_ownRepr (M : OwnM X.K C "__repr__" f) (F : FnOk X.prog X.w X.K X.mg X.base CX n f fd ps sp) (hr : Room (n + 1) X.A) (hb : Binds X.K fd ps []) (hx : Passes CX X E) :
    CallR X (.builtin "repr") fun xs H Q => ∃ a, xs = [.ref a] ∧ InsAt H a C ∧ sp [.ref a] H (fun v H' => ∃ t, v = .str t ∧ Q v H') E := by
  intro pins s σ H xs us Q I r h
  obtain ⟨a, rfl, ha, q⟩ := h
  cases r with
  | cons rv rn =>
    cases rn
    cases rv
    obtain ⟨ox, od, J⟩ := ha.inst I
    obtain ⟨m, hF⟩ := I.fr
    have sb : Sub X n X.A.in1 := ⟨hr.in1, rfl⟩
    refine PySem.W.repr_K sb.room.units0 hF I.ok.mod.kin J M.at_ M.fn ?_
    refine wpAny_mono (own_run (vs := [.ref a]) F sb hb hx I (.cons rfl .nil) q) (fun u s' z => ?_) fun _ _ z => z
    obtain ⟨z, H', I', rz, t, rfl, qz⟩ := z
    obtain ⟨tk, rfl⟩ := (show ∃ tk, u = Value.str t tk from rz)
    exact ⟨.str t, H', I', ⟨tk, rfl⟩, qz⟩
/-- x's truth by an own __bool__ -/
theorem tru_own (M : OwnM X.K C "__bool__" f) (F : FnOk X.prog X.w X.K X.mg X.base CX n f fd ps sp) (hr : Room n X.A) (hb : Binds X.K fd ps []) (hx : Passes CX X E) :
    TruR X fun x H Q => ∃ a, x = .ref a ∧ InsAt H a C ∧ sp [.ref a] H (fun v H' => ∃ b, v = .bl b ∧ Q b H') E := by
  intro pins s σ H x v Q I rx h
  obtain ⟨a, rfl, ha, q⟩ := h
  obtain rfl : v = .ref a := rx
  obtain ⟨ox, od, J⟩ := ha.inst I
  obtain ⟨m, hF⟩ := I.fr
  refine PySem.W.truthy_K hF I.ok.mod.kin J M.at_ M.fn ?_
  refine wpAny_mono (own_run (vs := [.ref a]) F ⟨hr, rfl⟩ hb hx I (.cons rfl .nil) q) (fun u s' z => ?_) fun _ _ z => z
  obtain ⟨z, H', I', rz, b, rfl, qz⟩ := z
  obtain rfl : u = Value.bool b := rz
  exact ⟨H', I', qz⟩
end
end L2
namespace PySem.OwnS
open PySem PySem.W PySem.Calls PyProof.Rows
open Builtin Builtin.Str
section
variable {prog : Program} {w : World} {A : Around} {E : Value → Shared → Prop} {s : Shared} {K : Frag} {x C f : Addr} {ox : Obj} {od : Option Obj} {b tb : Value}
/-- an instance of a class that takes != from object -/
theorem ne_body (hu : A.units < cLine) (X : K.In s.heap) (I : InstAt s.heap x ox C od) (hs : findIn K (.ref C) "__eq__" = some (some (.ref f))) (hf : isFn K (.ref f) = true) {Q : Fin → Shared → Prop}
    (h : wpAny (model prog w) A (call (.ref f) [.ref x, b]) (fun v s' => ∃ k, v = .bool k ∧ Q (.done (.ret (.bool (!k)))) s') E s) : wpAny (model prog w) A (Builtin.«object.__ne__» ⟨[.ref x, b], []⟩) Q E s := by
  unfold Builtin.«object.__ne__»
  refine wpAny_bind (wpAny_pure ?_)
  dsimp only
  refine wpAny_bind (wpAny_cRoomFor hu ?_)
  refine wpAny_bind (m := callSpecialIfBound? (.ref x) (Str.ofString "__eq__") [b]) (ifBound_K X I hs hf (wpAny_mono h (fun v s' z => ?_) fun _ _ z => z))
  obtain ⟨k, rfl, q⟩ := z
  exact wpAny_bind (wpAny_truthy_bool (wpAny_pure q))
theorem LO (X : K.In s.heap) (I : InstAt s.heap x ox C od) (ho : subIn K (.ref C) (.type "object") = some true) : Looks (model prog w) s.heap (isInstance (.ref x) (.type "object")) true := I.type.andThen (looks_subIn X ho)
theorem ne_slot (hu : A.units + 1 < cLine) (X : K.In s.heap) (I : InstAt s.heap x ox C od) (ho : subIn K (.ref C) (.type "object") = some true) (hs : findIn K (.ref C) "__eq__" = some (some (.ref f))) (hf : isFn K (.ref f) = true) {Q : Value → Shared → Prop}
    (h : wpAny (model prog w) A.in1 (call (.ref f) [.ref x, b]) (fun v s' => ∃ k, v = .bool k ∧ Q (.bool (!k)) s') E s) : wpAny (model prog w) A (call (.builtin "object.__ne__") [.ref x, b]) Q E s := by
  refine wpAny_call (codeAny_call_builtin (by decide +kernel) F.cmpEntry_ne (@PySem.W.check_slot (model prog w) _ _ s "object.__ne__" "object" "__ne__" (.ref x) [b] [] _ (by decide +kernel) (by decide +kernel) (LO X I ho) (F.cmpArgs_ne _ _) ?_))
  refine ne_body (A := A.in1) hu X I hs hf (wpAny_mono h (fun v s' z => ?_) fun _ _ z => z)
  obtain ⟨k, rfl, q⟩ := z
  exact ⟨k, rfl, q⟩
theorem ne_own (hu : A.units + 1 < cLine) (X : K.In s.heap) (I : InstAt s.heap x ox C od) (hb : Looks (model prog w) s.heap (typeOf b) tb) (hn : notFirst K C tb = true) (ho : subIn K (.ref C) (.type "object") = some true)
    (hne : findIn K (.ref C) "__ne__" = some (some (.builtin "object.__ne__"))) (hs : findIn K (.ref C) "__eq__" = some (some (.ref f))) (hf : isFn K (.ref f) = true) {Q : Value → Shared → Prop}
    (h : wpAny (model prog w) A.in1 (call (.ref f) [.ref x, b]) (fun v s' => ∃ k, v = .bool k ∧ Q (.bool (!k)) s') E s) : wpAny (model prog w) A (richCompare .NotEq (.ref x) b) Q E s := by
  have one : wpAny (model prog w) A (tryCompare (.ref x) "__ne__" b) (fun r s' => ∃ v, r = some v ∧ Q v s') E s := by
    unfold tryCompare callSpecialIfBound? bindSpecialIfBound?
    have fin : wpAny (model prog w) A (call (.builtin "object.__ne__") ([.ref x] ++ [b]) >>= fun v => pure (some v)) (fun r s' => wpAny (model prog w) A (match r with | some .notImplemented | none => pure none | some v => pure (some v)) (fun r s' => ∃ v, r = some v ∧ Q v s') E s') E s := by
      refine wpAny_bind (wpAny_mono (ne_slot hu X I ho hs hf (wpAny_mono h (fun v s' z => ?_) fun _ _ z => z)) (fun v s' z => wpAny_pure z) fun _ _ z => z)
      obtain ⟨k, rfl, q⟩ := z
      exact ⟨k, rfl, wpAny_pure ⟨_, rfl, q⟩⟩
    refine wpAny_bind (wpAny_holding (wpAny_bind (wpAny_bind (wpAny_bind (I.type.here ((looks_findIn X hne).here ?_))))))
    refine wpAny_bind (wpAny_askSetting (wpAny_ite ?_))
    split
    · exact wpAny_bind (wpAny_pure (wpAny_pure fin))
    · exact wpAny_tryCatch (wpAny_bind (wpAny_pure (wpAny_pure fin)))
  unfold richCompare
  simp only [oneThing_ref]
  refine wpAny_holding (wpAny_bind (wpAny_cRoomFor (Nat.lt_of_succ_lt hu) ?_))
  refine wpAny_bind (I.type.here (wpAny_bind (hb.here ?_)))
  split
  · rename_i q
    have e : subIn K tb (.ref C) = some false := by
      rcases Bool.or_eq_true_iff.mp hn with e | e
      · rw [beq_iff_eq.mp e] at q; simp at q
      · exact beq_iff_eq.mp e
    refine wpAny_bind ((looks_subIn X e).here ?_)
    simp only [Bool.false_eq_true, if_false]
    refine wpAny_bind (wpAny_mono one (fun r s' z => ?_) fun _ _ e => e)
    obtain ⟨v, rfl, hq⟩ := z
    exact wpAny_pure hq
  · refine wpAny_bind (wpAny_pure ?_)
    simp only [Bool.false_eq_true, if_false]
    refine wpAny_bind (wpAny_mono one (fun r s' z => ?_) fun _ _ e => e)
    obtain ⟨v, rfl, hq⟩ := z
    exact wpAny_pure hq
/-- str(x) by an own __str__ -/
theorem str_own (hu : A.in1.in1.units < cLine) (X : K.In s.heap) (I : InstAt s.heap x ox C od) (hs : findIn K (.ref C) "__str__" = some (some (.ref f))) (hf : isFn K (.ref f) = true) {Q : Value → Shared → Prop}
    (h : wpAny (model prog w) A.in1.in1 (call (.ref f) [.ref x]) (fun v s' => ∃ y t, v = .str y t ∧ Q v s') E s) : wpAny (model prog w) A (call (.type "str") [.ref x]) Q E s := by
  refine callType_newIn F.called_str (by decide) (F.typeCall_str_1 _) (F.newCall_str_1 _) (fun obj => F.args_object_init_2 obj _) F.entry_str_new
    (S := fun A R s => wpAny (model prog w) A.in1 (Builtin.Str.strOf (.ref x)) (fun r s' => R (.ok (.ret r)) s') (fun e s' => R (.error e) s') s) (.of_wp fun A R s h => ?_) ?_
  · rw [str_new_tree (.ref x)]
    refine wpAny_bind (wpAny_pure ?_)
    refine wpAny_bind (wpAny_of_eq isSubtype_str_str ?_)
    exact wpAny_bind (wpAny_mono h (fun r s' h' => wpAny_pure ⟨_, rfl, h'⟩) fun _ _ e => e)
  · unfold Builtin.Str.strOf
    rw [show isExactStr (.ref x) = false from rfl]
    simp only [Bool.false_eq_true, if_false]
    refine wpAny_bind (wpAny_cRoomFor hu ?_)
    refine wpAny_bind (m := callSpecial? (.ref x) (Str.ofString "__str__")) (special_fn X I hs (beq_iff_eq.mp hf) (wpAny_mono h (fun v s' z => ?_) fun _ _ z => z))
    obtain ⟨y, t, rfl, q⟩ := z
    exact wpAny_pure ⟨typeIs_str _ _ _, q⟩
theorem abs_own (X : K.In s.heap) (I : InstAt s.heap x ox C od) (hs : findIn K (.ref C) "__abs__" = some (some (.ref f))) (hf : isFn K (.ref f) = true) {Q : Value → Shared → Prop}
    (h : wpAny (model prog w) A.in1 (call (.ref f) [.ref x]) Q E s) : wpAny (model prog w) A (call (.builtin "abs") [.ref x]) Q E s := by
  refine Calls.call_function_entry PyProof.Rows.kind_abs PyProof.Rows.plain_abs PyProof.Rows.entry_abs (PyProof.Rows.args_abs _) ?_
  unfold Builtin.«abs»
  refine wpAny_bind (m := oneArg "abs" _) (wpAny_pure ?_)
  refine wpAny_bind (m := callSpecial? (.ref x) (Str.ofString "__abs__")) (special_fn X I hs (beq_iff_eq.mp hf) (wpAny_mono h (fun v s' z => ?_) fun _ _ z => z))
  exact wpAny_pure ⟨_, rfl, z⟩
end
end PySem.OwnS
namespace L2
open PySem PySem.Spec PyProof.Rows
/-- the class of a value, as the heap tells it -/
def TyAt (X : Cx) (H : Hp) (y : V) (tb : Value) : Prop := ∀ (pins : List (Addr × Obj)) (s : Shared) (σ : St) (u : Value), Inv X pins σ H s → RelV y u → PySem.W.Looks (model X.prog X.w) s.heap (typeOf u) tb
section
variable {X : Cx} {CX : CXT} {n : Nat} {C f : Addr} {fd : FuncData} {ps : List Str} {sp : Sp} {E : XK} {H : Hp}
theorem ty_plain {y : V} {T : String} (p : PlainT y T) : TyAt X H y (.type T) := fun _ _ _ u _ r => PySem.W.Looks.of_pure (p u r)
theorem ty_ins {b : Addr} (h : InsAt H b C) : TyAt X H (.ref b) (.ref C) := fun _ _ _ u I r => by
  obtain rfl : u = .ref b := r
  obtain ⟨ox, od, J⟩ := h.inst I
  exact J.type
theorem looks_cls {s : Shared} {a : Addr} {o : Obj} (e : s.heap.get? a = some o) : PySem.W.Looks (model X.prog X.w) s.heap (typeOf (.ref a)) o.cls := fun A Q E s' k q => wpAny_typeOf_ref (k _ _ e) q
theorem ty_lst {a : Addr} {xs : List V} (h : H a = some (.lst xs)) : TyAt X H (.ref a) (.type "list") := fun _ _ _ u I r => by
  obtain rfl : u = .ref a := r
  obtain ⟨_, its, n, _, e⟩ := I.hok a _ h
  exact looks_cls (X := X) e
theorem ty_tup {a : Addr} {xs : List V} (h : H a = some (.tup xs)) : TyAt X H (.ref a) (.type "tuple") := fun _ _ _ u I r => by
  obtain rfl : u = .ref a := r
  obtain ⟨_, its, _, o, e, hc, _⟩ := I.hok a _ h
  have z := looks_cls (X := X) e
  rw [hc] at z
  exact z
theorem ty_dK {a : Addr} {kvs : List (Key × V)} (h : H a = some (.dK kvs)) : TyAt X H (.ref a) (.type "dict") := fun _ _ _ u I r => by
  obtain rfl : u = .ref a := r
  obtain ⟨_, _, ws, _, o, es, ep, e, hx, _⟩ := I.hok a _ h
  have z := looks_cls (X := X) e
  rw [hx.1] at z
  exact z
/-- x == y, x != y: the own __eq__ answers with a truth -/
def rEqOwn (X : Cx) (neg : Bool) (C : Addr) (sp : Sp) (E : XK) : R2 := fun x y H Q => ∃ a tb, x = .ref a ∧ InsAt H a C ∧ TyAt X H y tb ∧ PySem.W.notFirst X.K C tb = true ∧ sp [x, y] H (fun v H' => ∃ k, v = .bl k ∧ Q (.bl (if neg then !k else k)) H') E
theorem op_eqOwn (M : OwnM X.K C "__eq__" f) (F : FnOk X.prog X.w X.K X.mg X.base CX n f fd ps sp) (hr : Room n X.A) (hb : Binds X.K fd ps []) (hx : Passes CX X E) : OpR X (compareOp .Eq) (rEqOwn X false C sp E) := by
  intro pins s σ H x y v u Q I rx ry h
  obtain ⟨a, tb, rfl, ha, ht, hn, q⟩ := h
  obtain rfl : v = .ref a := rx
  obtain ⟨ox, od, J⟩ := ha.inst I
  obtain ⟨m, hF⟩ := I.fr
  show wpAny (model X.prog X.w) X.A (richCompare .Eq (.ref a) u) _ X.xe s
  refine PySem.W.cmp_K (op := .Eq) hr.units0 hF I.ok.mod.kin J (ht pins s σ u I ry) hn M.at_ M.fn ?_
  refine wpAny_mono (own_run (vs := [.ref a, y]) F ⟨hr, rfl⟩ hb hx I (.cons rfl (.cons ry .nil)) q) (fun r s' z => ?_) fun _ _ z => z
  obtain ⟨z, H', I', rz, k, rfl, qz⟩ := z
  obtain rfl : r = .bool k := rz
  exact ⟨.bl k, H', I', rfl, qz⟩
theorem op_neOwn (M : OwnM X.K C "__eq__" f) (hne : PySem.W.findIn X.K (.ref C) "__ne__" = some (some (.builtin "object.__ne__"))) (ho : PySem.W.subIn X.K (.ref C) (.type "object") = some true) (F : FnOk X.prog X.w X.K X.mg X.base CX n f fd ps sp) (hr : Room (n + 1) X.A)
    (hb : Binds X.K fd ps []) (hx : Passes CX X E) : OpR X (compareOp .NotEq) (rEqOwn X true C sp E) := by
  intro pins s σ H x y v u Q I rx ry h
  obtain ⟨a, tb, rfl, ha, ht, hn, q⟩ := h
  obtain rfl : v = .ref a := rx
  obtain ⟨ox, od, J⟩ := ha.inst I
  show wpAny (model X.prog X.w) X.A (richCompare .NotEq (.ref a) u) _ X.xe s
  refine PySem.OwnS.ne_own (by have := hr.units; omega) I.kIn J (ht pins s σ u I ry) hn ho hne M.at_ M.fn ?_
  refine wpAny_mono (own_run (vs := [.ref a, y]) F ⟨hr.in1, rfl⟩ hb hx I (.cons rfl (.cons ry .nil)) q) (fun r s' z => ?_) fun _ _ z => z
  obtain ⟨z, H', I', rz, k, rfl, qz⟩ := z
  obtain rfl : r = .bool k := rz
  exact ⟨k, rfl, .bl (!k), H', I', rfl, qz⟩
/-- str(x), abs(x) -/
theorem call_ownStr (M : OwnM X.K C "__str__" f) (F : FnOk X.prog X.w X.K X.mg X.base CX n f fd ps sp) (hr : Room (n + 2) X.A) (hb : Binds X.K fd ps []) (hx : Passes CX X E) :
    CallR X (.type "str") fun xs H Q => ∃ a, xs = [.ref a] ∧ InsAt H a C ∧ sp [.ref a] H (fun v H' => ∃ t, v = .str t ∧ Q v H') E := by
  intro pins s σ H xs us Q I r h
  obtain ⟨a, rfl, ha, q⟩ := h
  cases r with
  | cons rv rn =>
    cases rn
    cases rv
    obtain ⟨ox, od, J⟩ := ha.inst I
    have hr2 : Room n X.A.in1.in1 := (show Room (n + 1) X.A.in1 from hr.in1).in1
    refine PySem.OwnS.str_own hr2.units0 I.kIn J M.at_ M.fn ?_
    refine wpAny_mono (own_run (vs := [.ref a]) F ⟨hr2, rfl⟩ hb hx I (.cons rfl .nil) q) (fun u s' z => ?_) fun _ _ z => z
    obtain ⟨z, H', I', rz, t, rfl, qz⟩ := z
    obtain ⟨tk, rfl⟩ := (show ∃ tk, u = Value.str t tk from rz)
    exact ⟨t, tk, rfl, .str t, H', I', ⟨tk, rfl⟩, qz⟩
theorem call_ownAbs (M : OwnM X.K C "__abs__" f) (F : FnOk X.prog X.w X.K X.mg X.base CX n f fd ps sp) (hr : Room (n + 1) X.A) (hb : Binds X.K fd ps []) (hx : Passes CX X E) :
    CallR X (.builtin "abs") fun xs H Q => ∃ a, xs = [.ref a] ∧ InsAt H a C ∧ sp [.ref a] H Q E := by
  intro pins s σ H xs us Q I r h
  obtain ⟨a, rfl, ha, q⟩ := h
  cases r with
  | cons rv rn =>
    cases rn
    cases rv
    obtain ⟨ox, od, J⟩ := ha.inst I
    exact PySem.OwnS.abs_own I.kIn J M.at_ M.fn (own_run (vs := [.ref a]) F ⟨hr.in1, rfl⟩ hb hx I (.cons rfl .nil) q)
end
end L2
namespace PySem.OwnS
open PySem PySem.W PySem.Calls PyProof.Rows
section
variable {prog : Program} {w : World} {A : Around} {E : Value → Shared → Prop} {s : Shared} {K : Frag} {x C f : Addr} {ox : Obj} {od : Option Obj} {b : Value} {T : String}
/-- an own operator with a value of a built-in type at the right, its type read off the heap -/
theorem binT {op : Operator} {fo ro : Option Value} {Q : Value → Shared → Prop} (X : K.In s.heap) (I : InstAt s.heap x ox C od) (hb : Looks (model prog w) s.heap (typeOf b) (.type T)) (hc : selfFirst K C = true)
    (hs : findIn K (.ref C) (PySem.dunder op.info.2) = some (some (.ref f))) (hf : isFn K (.ref f) = true) (hr : findIn K (.ref C) (dunderR op.info.2) = some none)
    (h1 : findIn K (.type T) (PySem.dunder op.info.2) = some fo) (h2 : findIn K (.type T) (dunderR op.info.2) = some ro) (hsub : subIn K (.type T) (.ref C) = some false)
    (h : wpAny (model prog w) A (call (.ref f) [.ref x, b]) (PySem.W.CmpBack Q) E s) : wpAny (model prog w) A (binaryOp op (.ref x) b) Q E s := by
  obtain ⟨cd, rest, hcd, hm⟩ := ksp_first hc
  have one := ksp_try X I hs hf h
  rcases hi : op.info with ⟨sym, nm⟩
  rw [hi] at hs hr h1 h2 one
  dsimp only at hs hr h1 h2 one
  obtain ⟨hh, g, d, tt, os⟩ := s
  have A1 : Looks (model prog w) hh (typeOf (.ref x)) (.ref C) := I.type
  have A2 : Looks (model prog w) hh (typeOf b) (.type T) := hb
  have A3 : Looks (model prog w) hh (fillsNumberSlot (.ref C) nm) true := fills_K X hcd hm hs
  have A4 := ksp_fillsT (M := model prog w) X h1 h2
  have A5 : Looks (model prog w) hh (isSubtype (.type T) (.ref C)) false := looks_subIn X hsub
  have A6 : Looks (model prog w) hh (numberSlotInPython (.ref C) nm) true := ksp_inPy X hs hr (.inl rfl)
  have A7 : Looks (model prog w) hh (numberSlotInPython (.type T) nm) false := Looks.of_pure rfl
  have A8 : Looks (model prog w) hh (typeLookup (.type T) (dunderR nm)) ro := looks_findIn X h2
  generalize ((fo.isSome && !isSeqSlot fo) || (ro.isSome && !isSeqSlot ro)) = right at A4
  have hne : (Value.ref C == Value.type T) = false := Bool.eq_false_iff.mpr fun q => by cases beq_iff_eq.mp q
  simp only [binaryOp, hi]
  refine wpAny_holding (wpAny_bind ?_)
  unfold binaryOp1
  refine wpAny_bind (A1.at (wpAny_bind (A2.at (wpAny_bind (A3.at ?_)))))
  simp only [hne, Bool.false_eq_true, if_false]
  cases right <;>
    (ksp_lk
     refine wpAny_mono one (fun r s' z => ?_) fun _ _ e => e
     obtain ⟨v, rfl, hq⟩ := z
     ksp_lk
     exact hq)
end
end PySem.OwnS
namespace L2
open PySem PySem.Spec PyProof.Rows
def rOwnAny (X : Cx) (C : Addr) (nm : String) (sp : Sp) (E : XK) : R2 := fun x y H Q => ∃ a tb, x = .ref a ∧ InsAt H a C ∧ TyAt X H y tb ∧ (tb = .ref C ∨ ∃ T, tb = .type T ∧ RightT X.K C nm T) ∧ sp [x, y] H Q E
theorem op_ownAny {X : Cx} {CX : CXT} {n : Nat} {C f : Addr} {fd : FuncData} {ps : List Str} {sp : Sp} {E : XK} {op : Operator} (M : OwnM X.K C (PySem.dunder op.info.2) f) (hc : PySem.W.selfFirst X.K C = true) (hR : PySem.W.findIn X.K (.ref C) (dunderR op.info.2) = some none)
    (F : FnOk X.prog X.w X.K X.mg X.base CX n f fd ps sp) (hr : Room n X.A) (hb : Binds X.K fd ps []) (hx : Passes CX X E) : OpR X (binaryOp op) (rOwnAny X C op.info.2 sp E) := by
  intro pins s σ H x y v u Q I rx ry h
  obtain ⟨a, tb, rfl, ha, ht, ht2, q⟩ := h
  obtain rfl : v = .ref a := rx
  obtain ⟨ox, od, J⟩ := ha.inst I
  have L := ht pins s σ u I ry
  have go : wpAny (model X.prog X.w) X.A (call (.ref f) [.ref a, u]) (PySem.W.CmpBack (EP X pins σ Q)) X.xe s := by
    refine wpAny_mono (own_run (vs := [.ref a, y]) F ⟨hr, rfl⟩ hb hx I (.cons rfl (.cons ry .nil)) q) (fun r s' z => ?_) fun _ _ z => z
    obtain ⟨z, H', I', rz, qz⟩ := id z
    exact SlX.cmpback rz ⟨z, H', I', rz, qz⟩
  rcases ht2 with rfl | ⟨T, rfl, R⟩
  · obtain ⟨m, hF⟩ := I.fr
    exact PySem.W.binop_K hF I.ok.mod.kin J L hc M.at_ M.fn go
  · obtain ⟨fo, h1⟩ := R.fo
    obtain ⟨ro, h2⟩ := R.ro
    exact PySem.OwnS.binT I.kIn J L hc M.at_ M.fn hR h1 h2 R.no go
end L2
namespace PySem.OwnS
open PySem PySem.W PySem.Calls PyProof.Rows
section
variable {prog : Program} {w : World} {A : Around} {E : Value → Shared → Prop} {s : Shared} {K : Frag} {x C C2 f f2 : Addr} {ox : Obj} {od : Option Obj} {b : Value}
/-- an own operator with a value of another own class at the right that has the same operator -/
theorem binX {op : Operator} {Q : Value → Shared → Prop} (X : K.In s.heap) (I : InstAt s.heap x ox C od) (hb : Looks (model prog w) s.heap (typeOf b) (.ref C2)) (hc : selfFirst K C = true) (hc2 : selfFirst K C2 = true) (hne : C ≠ C2)
    (hs : findIn K (.ref C) (PySem.dunder op.info.2) = some (some (.ref f))) (hf : isFn K (.ref f) = true) (hr : findIn K (.ref C) (dunderR op.info.2) = some none)
    (hs2 : findIn K (.ref C2) (PySem.dunder op.info.2) = some (some (.ref f2))) (hr2 : findIn K (.ref C2) (dunderR op.info.2) = some none) (hsub : subIn K (.ref C2) (.ref C) = some false)
    (h : wpAny (model prog w) A (call (.ref f) [.ref x, b]) (PySem.W.CmpBack Q) E s) : wpAny (model prog w) A (binaryOp op (.ref x) b) Q E s := by
  obtain ⟨cd, rest, hcd, hm⟩ := ksp_first hc
  obtain ⟨cd2, rest2, hcd2, hm2⟩ := ksp_first hc2
  have one := ksp_try X I hs hf h
  rcases hi : op.info with ⟨sym, nm⟩
  rw [hi] at hs hr hs2 hr2 one
  dsimp only at hs hr hs2 hr2 one
  obtain ⟨hh, g, d, tt, os⟩ := s
  have A1 : Looks (model prog w) hh (typeOf (.ref x)) (.ref C) := I.type
  have A2 : Looks (model prog w) hh (typeOf b) (.ref C2) := hb
  have A3 : Looks (model prog w) hh (fillsNumberSlot (.ref C) nm) true := fills_K X hcd hm hs
  have A4 : Looks (model prog w) hh (fillsNumberSlot (.ref C2) nm) true := fills_K X hcd2 hm2 hs2
  have A5 : Looks (model prog w) hh (isSubtype (.ref C2) (.ref C)) false := looks_subIn X hsub
  have A6 : Looks (model prog w) hh (numberSlotInPython (.ref C) nm) true := ksp_inPy X hs hr (.inl rfl)
  have A7 : Looks (model prog w) hh (numberSlotInPython (.ref C2) nm) true := ksp_inPy X hs2 hr2 (.inl rfl)
  have A8 : Looks (model prog w) hh (typeLookup (.ref C2) (dunderR nm)) none := looks_findIn X hr2
  have ne : (Value.ref C == Value.ref C2) = false := Bool.eq_false_iff.mpr fun q => by
    have := beq_iff_eq.mp q
    injection this with this
    exact hne this
  simp only [binaryOp, hi]
  refine wpAny_holding (wpAny_bind ?_)
  unfold binaryOp1
  refine wpAny_bind (A1.at (wpAny_bind (A2.at (wpAny_bind (A3.at ?_)))))
  simp only [ne, Bool.false_eq_true, if_false]
  ksp_lk
  refine wpAny_mono one (fun r s' z => ?_) fun _ _ e => e
  obtain ⟨v, rfl, hq⟩ := z
  ksp_lk
  exact hq
end
end PySem.OwnS
namespace L2
open PySem PySem.Spec PyProof.Rows
/-- x op y, y of another own class that has the operator, too -/
def rOwnX (C C2 : Addr) (sp : Sp) (E : XK) : R2 := fun x y H Q => ∃ a b, x = .ref a ∧ y = .ref b ∧ InsAt H a C ∧ InsAt H b C2 ∧ sp [x, y] H Q E
theorem op_ownX {X : Cx} {CX : CXT} {n : Nat} {C C2 f f2 : Addr} {fd : FuncData} {ps : List Str} {sp : Sp} {E : XK} {op : Operator} (M : OwnM X.K C (PySem.dunder op.info.2) f) (hc : PySem.W.selfFirst X.K C = true) (hR : PySem.W.findIn X.K (.ref C) (dunderR op.info.2) = some none)
    (M2 : OwnM X.K C2 (PySem.dunder op.info.2) f2) (hc2 : PySem.W.selfFirst X.K C2 = true) (hR2 : PySem.W.findIn X.K (.ref C2) (dunderR op.info.2) = some none) (hne : C ≠ C2) (hsub : PySem.W.subIn X.K (.ref C2) (.ref C) = some false)
    (F : FnOk X.prog X.w X.K X.mg X.base CX n f fd ps sp) (hr : Room n X.A) (hb : Binds X.K fd ps []) (hx : Passes CX X E) : OpR X (binaryOp op) (rOwnX C C2 sp E) := by
  intro pins s σ H x y v u Q I rx ry h
  obtain ⟨a, b, rfl, rfl, ha, hb', q⟩ := h
  obtain rfl : v = .ref a := rx
  obtain rfl : u = .ref b := ry
  obtain ⟨ox, od, J⟩ := ha.inst I
  obtain ⟨oy, ey, J'⟩ := hb'.inst I
  refine PySem.OwnS.binX I.kIn J J'.type hc hc2 hne M.at_ M.fn hR M2.at_ hR2 hsub ?_
  refine wpAny_mono (own_run (vs := [.ref a, .ref b]) F ⟨hr, rfl⟩ hb hx I (.cons rfl (.cons rfl .nil)) q) (fun r s' z => ?_) fun _ _ z => z
  obtain ⟨z, H', I', rz, qz⟩ := id z
  exact SlX.cmpback rz ⟨z, H', I', rz, qz⟩
end L2
namespace L2
open PySem PySem.Spec PyProof.Rows
/-- x op y, y an integer or of another own class that has the operator, too -/
def rOwnN (C C2 : Addr) (sp : Sp) (E : XK) : R2 := fun x y H Q => ∃ a, x = .ref a ∧ InsAt H a C ∧ ((∃ b, y = .ref b ∧ InsAt H b C2) ∨ ∃ i, y = .int i) ∧ sp [x, y] H Q E
theorem op_ownN {X : Cx} {CX : CXT} {n : Nat} {C C2 f f2 : Addr} {fd : FuncData} {ps : List Str} {sp : Sp} {E : XK} {op : Operator} (M : OwnM X.K C (PySem.dunder op.info.2) f) (hc : PySem.W.selfFirst X.K C = true) (hR : PySem.W.findIn X.K (.ref C) (dunderR op.info.2) = some none)
    (M2 : OwnM X.K C2 (PySem.dunder op.info.2) f2) (hc2 : PySem.W.selfFirst X.K C2 = true) (hR2 : PySem.W.findIn X.K (.ref C2) (dunderR op.info.2) = some none) (hne : C ≠ C2) (hsub : PySem.W.subIn X.K (.ref C2) (.ref C) = some false) (rt : RightT X.K C op.info.2 "int")
    (F : FnOk X.prog X.w X.K X.mg X.base CX n f fd ps sp) (hr : Room n X.A) (hb : Binds X.K fd ps []) (hx : Passes CX X E) : OpR X (binaryOp op) (rOwnN C C2 sp E) := by
  intro pins s σ H x y v u Q I rx ry h
  obtain ⟨a, rfl, ha, hy, q⟩ := h
  rcases hy with ⟨b, rfl, hb2⟩ | ⟨i, rfl⟩
  · exact op_ownX M hc hR M2 hc2 hR2 hne hsub F hr hb hx pins s σ H _ _ v u Q I rx ry ⟨a, b, rfl, rfl, ha, hb2, q⟩
  · exact op_ownT M hc hR F hr hb hx pins s σ H _ _ v u Q I rx ry ⟨a, "int", rfl, plainT_int i, rt, ha, q⟩
end L2
namespace L2
open PySem PySem.Spec PyProof.Rows
/-! ### == and != of data without dicts, whatever signs its texts have -/
def rEqP (K : PySem.W.Frag) (f : Bool → Bool) : R2 := fun x y H Q => ∃ d e, Dp K H x d ∧ Dp K H y e ∧ d.plain = true ∧ e.plain = true ∧ min d.depth e.depth ≤ 60 ∧ Q (.bl (f (PyData.eqv d e))) H
section
variable {X : Cx}
theorem op_eqP (hu : X.A.units + 64 < cLine) : OpR X (compareOp .Eq) (rEqP X.K id) := by
  intro pins s σ H x y v u Q I rx ry h
  obtain ⟨d, e, hd, he, sd, se, ld, q⟩ := h
  obtain ⟨as, r1⟩ := Dp.reads I d x v hd rx
  obtain ⟨bs, r2⟩ := Dp.reads I e y u he ry
  exact SeqAt.eq_plain r1 r2 sd se (by omega) ⟨.bl _, H, I, rfl, q⟩
theorem op_neP (hu : X.A.units + 64 < cLine) : OpR X (compareOp .NotEq) (rEqP X.K not) := by
  intro pins s σ H x y v u Q I rx ry h
  obtain ⟨d, e, hd, he, sd, se, ld, q⟩ := h
  obtain ⟨as, r1⟩ := Dp.reads I d x v hd rx
  obtain ⟨bs, r2⟩ := Dp.reads I e y u he ry
  exact SeqAt.ne_plain r1 r2 sd se (by omega) ⟨.bl _, H, I, rfl, q⟩
end
/-! texts as data -/
theorem dp_strs {K : PySem.W.Frag} {H : Hp} : ∀ l : List Str, DpAll K H (l.map V.str) (l.map PyData.str)
  | [] => .nil
  | x :: t => .cons (.str x) (dp_strs t)
theorem plain_strs : ∀ l : List Str, PyData.plainAll (l.map PyData.str) = true
  | [] => rfl
  | x :: t => by
    have := plain_strs t
    simp only [List.map_cons, PyData.plainAll, PyData.plain, this, Bool.and_self]
theorem deep_strs : ∀ l : List Str, PyData.depthAll (l.map PyData.str) = 0
  | [] => rfl
  | x :: t => by
    have := deep_strs t
    simp [PyData.depthAll, PyData.depth, this]
theorem eqv_strs_nil (l : List Str) : PyData.eqv (.list (l.map PyData.str)) (.list []) = decide (l = []) := by
  cases l <;> rfl
end L2
namespace L2
open PySem PySem.Spec PyProof.Rows
/-! ### {x} in an f-string, x of an own class with __str__ -/
def tFmtO (C : Addr) (sp : Sp) (E : XK) (te : TE) : TE := fun σ H Q => te σ H fun x H1 => ∃ a, x = .ref a ∧ InsAt H1 a C ∧ sp [.ref a] H1 (fun v H2 => ∃ t, v = .str t ∧ Q (.str t) H2) E
theorem pe_fmtO {X : Cx} {CX : CXT} {n : Nat} {C f : Addr} {fd : FuncData} {ps : List Str} {sp : Sp} {E : XK} {e : Expr} {te : TE} {pos : Pos} (M : OwnM X.K C "__str__" f) (hfm : PySem.W.findIn X.K (.ref C) "__format__" = some (some (.builtin "object.__format__"))) (hm : PySem.W.mroIn X.K C (.type "object") = some true)
    (F : FnOk X.prog X.w X.K X.mg X.base CX n f fd ps sp) (hr : Room (n + 1) X.A) (hb : Binds X.K fd ps []) (hx : Passes CX X E) (he : PE X e te) : PE X (.FormattedValue e (-1) none pos) (tFmtO C sp E te) := by
  refine ⟨fun pins s σ H Q I h => ?_⟩
  refine wpAny_FormattedValue_plain (thn (he.run pins s σ H _ I h) fun v s1 hv => ?_)
  obtain ⟨x, H1, I1, r1, a, rfl, ha, q⟩ := hv
  obtain rfl : v = .ref a := r1
  obtain ⟨ox, od, J⟩ := ha.inst I1
  have hr1 : Room n X.A.in1 := hr.in1
  refine PySem.W.kfo_fieldS hr1.units0 I1.kIn J hfm hm M.at_ M.fn ?_
  have I2 : Inv X pins σ H1 { s1 with toks := s1.toks + 1 } := I1.tok _
  refine wpAny_mono (own_run (vs := [.ref a]) F ⟨hr1, rfl⟩ hb hx I2 (.cons rfl .nil) q) (fun u s' z => ?_) fun _ _ z => z
  obtain ⟨z, H', I', rz, t, rfl, qz⟩ := z
  obtain ⟨tk, rfl⟩ := (show ∃ tk, u = Value.str t tk from rz)
  exact ⟨.str t, H', I', ⟨tk, rfl⟩, qz⟩
end L2
namespace L2
open PySem PySem.Spec PyProof.Rows
/-! ### list(d.values()) -/
def tListVals (td : TE) : TE := fun σ H Q => td σ H fun x H1 => ∃ d kvs, x = .ref d ∧ H1 d = some (.dK kvs) ∧ ∀ q, H1 q = none → Q (.ref q) (upd H1 q (.lst (kvs.map Prod.snd)))
theorem pe_listVals {X : Cx} {e : Expr} {td : TE} {p pos apos cpos : Pos} (hc : X.calm = true) (hg : Gl X "list") (hm : X.mg "list" = none) (he : PE X e td) (hbase : attributeBase e "values" X.env (eval e X.env) = eval e X.env := by rfl) (hline : (apos.endLine == cpos.line) = true := by rfl)
    (na : starEach [.Call (.Attribute e "values" apos) [] [] cpos] X.env = (false, eval (.Call (.Attribute e "values" apos) [] [] cpos) X.env) :: starEach [] X.env := by rfl) :
    PE X (.Call (.Name "list" p) [.Call (.Attribute e "values" apos) [] [] cpos] [] pos) (tListVals td) := by
  refine ⟨fun pins s σ H Q I h => ?_⟩
  refine Call_ (ld_blt I hg hm boot_list (PyProof.Rows.callWith_type1 (args_cons ?_ na) na))
  refine wpAny_Call_method (T := "dict") (id := "dict.values") hbase rfl hline F.plainAttrs_dict F.slot_dict_values F.type_dict_values (thn (he.run pins s σ H _ I h) fun u s1 ⟨x, H1, I1, rx, d, kvs, ex, hd, q⟩ => ?_)
  subst ex
  obtain rfl : u = Value.ref d := rx
  obtain ⟨z, lo, vs, rk, hm⟩ := (show ObjOk X.prog X.w H1 s1.heap d (.dK kvs) from I1.hok d _ hd)
  obtain ⟨ep, at_⟩ := hm.dictAt
  have hl : kvs.length = vs.length := Paired.length rk
  refine ⟨hm.typeIs, hm.mapOf.noDict, ?_⟩
  have I2 : Inv X pins σ H1 { s1 with heap := s1.heap.push { cls := .type "dict_values", data := .fields #[.ref d] } } := I1.kept (t' := s1.toks) fun b ob q => Heap.get?_push_of_some _ q
  show wpAny _ _ (callWith cpos (.builtin "dict.values") [.ref d] [] []) _ X.xe s1
  refine method_meetsIn F.slot_dict_values F.entry_dict_values rfl (PySem.evalArgs_none ⟨rfl, hm.typeIs, F.args_dict_values_1 _, _, meets_dict_values (mixKind X.prog X.w) d lo, ⟨vs, hm⟩, ?_⟩)
  have vw : (s1.heap.push { cls := .type "dict_values", data := .fields #[.ref d] }).get? s1.heap.objs.size = some { cls := .type "dict_values", data := .fields #[.ref d] } := Heap.get?_push_size _ rfl
  show wpAny (model X.prog X.w) X.A (spliced (backTo pos (starEach [] X.env))) (fun us s2 => wpAny (model X.prog X.w) X.A (call (.type "list") (.ref s1.heap.objs.size :: us)) (EP X pins σ Q) X.xe s2) X.xe _
  refine args_nil ?_
  refine PySem.W.kdl_call (PySem.W.kdl_values (knd := mixKind X.prog X.w) (kvs := vs) (ep := ep) (d := d) (r := s1.heap.objs.size)) (I.ok.hd hc) ⟨⟨_, vw, rfl, rfl⟩, at_.push _⟩ (by rw [← hl]; exact z) fun h' tk acc c' kp hS hi => ?_
  have I3 : Inv X pins σ H1 { s1 with heap := h', toks := tk } := I2.kept (t' := tk) kp
  refine ⟨.ref _, upd H1 _ (.lst (kvs.map Prod.snd)), I2.laid kp (Nat.le_refl _) (show ObjOk X.prog X.w _ _ _ (.lst (kvs.map Prod.snd)) from ⟨?_, acc.toList, c', ?_, ?_⟩), rfl, q _ (I2.hok.fresh (Nat.le_refl _))⟩
  · rw [List.length_map]; exact z
  · have el : acc.toList.length = acc.size := by simp
    refine vals_of_at (by rw [List.length_map, el, hi.1, hl]) fun j x w' e1 e2 => ?_
    obtain ⟨k, hk⟩ := hi.2 j w' (by rw [← Array.getElem?_toList]; exact e2)
    rw [List.getElem?_map] at e1
    obtain ⟨kv, ekv, rfl⟩ := Option.map_eq_some_iff.mp e1
    have at2 : ∀ {a : List (Key × V)} {b : List (Key × Value)}, KV a b → ∀ (j : Nat) (x : Key × V) (y : Key × Value), a[j]? = some x → b[j]? = some y → RelV x.2 y.2 := by
      intro a b r
      induction r with
      | nil => intro j x y h1 _; simp at h1
      | cons h t ih =>
        intro j x y h1 h2
        cases j with
        | zero =>
          simp at h1 h2
          subst h1 h2
          exact h.2
        | succ j =>
          simp only [List.getElem?_cons_succ] at h1 h2
          exact ih j x y h1 h2
    exact at2 rk j kv (k, w') ekv hk
  · rw [Array.toArray_toList]; exact hS
end L2
namespace L2
open PySem PySem.Spec PyProof.Rows
/-! ### math.lcm of two integers below 2 ^ 64 -/
def rLcm : List V → Hp → VK → Prop := fun vs H Q => ∃ a b : Int, vs = [.int a, .int b] ∧ a.natAbs < 2 ^ 64 ∧ b.natAbs < 2 ^ 64 ∧ Q (.int ((Nat.lcm a.natAbs b.natAbs : Nat) : Int)) H
theorem cr_lcm {X : Cx} : CallR X (.builtin "math.lcm") rLcm := by
  intro pins s σ H vs us Q I r h
  obtain ⟨a, b, rfl, ha, hb, q⟩ := h
  obtain ⟨t, u, rfl⟩ := Vals.int2 r
  exact PySem.W.mc_lcm ha hb fun _ => ⟨.int _, H, I.tok _, ⟨_, rfl⟩, q⟩
end L2
namespace L2
open PySem PySem.Spec PyProof.Rows
/-! ### name = {k: v for ..}, the name a local: what the comprehension gives is stored at once -/
theorem sw_trueD {kx vx : Expr} {gs : List Comprehension} {scope : Scope} {pos py : Pos} {y : Str} {l : Nat} {env : Env} (hk : env.scope.kind = .function) (hy : env.scope.names.lookup y = some .local) (hl : (py.line == pos.line) = true)
    (ha : (scope.names.any fun (n, k) => n == y && (k == .local || k == .cell)) = false) : swapsWith (.DictComp kx vx gs scope pos) (some (.Name y py)) l env = pure true := by
  have h1 : env.kindOf y = some .local := hy
  have h2 : env.blockKind = .function := by unfold Env.blockKind; rw [hk]; rfl
  unfold swapsWith
  simp only [h2, h1, ha, Expr.pos, hl]
  rfl
section
variable {X : Cx}
theorem ps_setDc {i : Nat} {y : Str} {py : Pos} {kx vx tg iter : Expr} {ifs : List Expr} {scope : Scope} {own : List (Str × Nat)} {pos spos : Pos} {wi : TI} {g : TG} {tt : TT} {tk tv : TE} (hc : X.calm = true) (hN : X.N.Nodup) (hy : X.N[i]? = some y) (hyl : X.env.scope.names.lookup y = some .local)
    (hsw : swapsWith (.DictComp kx vx [⟨tg, iter, ifs, 0⟩] scope pos) (some (.Name y py)) spos.line X.env = pure true) (hi : PI X tg iter wi) (ok : BlkOk X.N X.env.scope scope own)
    (hg : ∀ (s : Shared) (H : Hp) (C : Addr) (cl : List (Str × Addr)) (fp : List Addr), PG (X.blk s H scope (compEnvC scope cl C X.env) fp) tg g) (ht : ∀ (s : Shared) (H : Hp) (C : Addr) (cl : List (Str × Addr)) (fp : List Addr), PTs (X.blk s H scope (compEnvC scope cl C X.env) fp) ifs tt)
    (hk : ∀ (s : Shared) (H : Hp) (C : Addr) (cl : List (Str × Addr)) (fp : List Addr), PE (X.blk s H scope (compEnvC scope cl C X.env) fp) kx tk)
    (he : ∀ (s : Shared) (H : Hp) (C : Addr) (cl : List (Str × Addr)) (fp : List Addr), PE (X.blk s H scope (compEnvC scope cl C X.env) fp) vx tv) (hs : ∀ x, foldedSetIterable iter X.env x = pure x := by intro _; rfl) :
    PS X (.Assign [.Name y py] (.DictComp kx vx [⟨tg, iter, ifs, 0⟩] scope pos) spos) (tAsg (tDc wi g tt tk tv (own.map (·.2))) (gName i)) := by
  refine ⟨fun pins s σ H D I h => ?_⟩
  rw [exec_Assign_Name_used _ _ _ _ hsw, arm_evalThenUse_DictComp]
  refine wpAny_bind (wpAny_standAt (wpAny_bind (wpAny_bind ?_)))
  -- what stands when the store is done
  have stored : ∀ L C s' m H', Inv X pins σ H' s' → gName i (.ref L) σ H' D.nx → s'.heap.Ns C m → FpOk X pins H' C → compPost (model X.prog X.w) X.A X.xe (some (assign (.Name y py) X.env)) (fun _ s2 => SP X pins D .next s2) (.ref L) C (.ok .next) s' := by
    intro L C s' m H' J q ns fp
    obtain ⟨p0, p1, p2, p3, p4, p5⟩ := fp
    show wpAny _ _ (assign (.Name y py) X.env (.ref L)) _ _ _
    refine wpAny_assign_Name (store_ok2 (v := V.ref L) J hN hy (.inl hyl) rfl ?_ (.inr hyl))
    intro s2 J2 hit
    obtain ⟨at_, but, at1⟩ := hit
    have ne : C ≠ at_ := at1.elim (fun e => e ▸ p1) fun e => fun z => p4 y at_ e z.symm
    exact ⟨m, ns.sameBut but ne, fun h3 but3 => ⟨_, H', J2.turned (t' := s2.toks) (fun b o hb e => (but3.2 b hb).trans e) p0 p1 p3 p4 p5, q⟩⟩
  exact thn (dc_core hc hN I hi ok hg ht hk he hs h stored) fun _ s' fin => wpAny_pure (wpAny_pure fin)
end
end L2
namespace L2
open PySem PySem.Spec PyProof.Rows
/-! ### sorted texts: one list for each set -/
/-- text by text, in Python's order -/
def leS (x y : Str) : Prop := x.cps.toList ≤ y.cps.toList
theorem leS_trans {a b c : Str} (h : leS a b) (k : leS b c) : leS a c := List.le_trans h k
theorem leS_antisymm {a b : Str} (h : leS a b) (k : leS b a) : a = b := by
  have e : a.cps.toList = b.cps.toList := List.le_antisymm h k
  cases a with
  | mk x =>
    cases b with
    | mk y =>
      congr 1
      cases x; cases y
      exact congrArg _ e
theorem leS_of {a b : Str} (h : ltCps b.cps.toList a.cps.toList = false) : leS a b := by
  rw [ltCps_eq] at h
  exact List.not_lt.mp (of_decide_eq_false h)
theorem to_leS {a b : Str} (h : leS a b) : ltCps b.cps.toList a.cps.toList = false := by
  rw [ltCps_eq]
  exact decide_eq_false (List.not_lt.mpr h)
theorem risingS_pw : ∀ (l : List Str) (p : Str), risingS p l = true → (p :: l).Pairwise leS
  | [], p, _ => List.pairwise_singleton _ _
  | x :: r, p, h => by
    have h : (!ltCps x.cps.toList p.cps.toList && risingS x r) = true := h
    rw [Bool.and_eq_true, Bool.not_eq_true'] at h
    have t := risingS_pw r x h.2
    refine List.pairwise_cons.mpr ⟨fun y m => ?_, t⟩
    cases m with
    | head => exact leS_of h.1
    | tail _ m => exact leS_trans (leS_of h.1) ((List.pairwise_cons.mp t).1 y m)
theorem sortedS_iff {l : List Str} : sortedS l = true ↔ l.Pairwise leS := by
  constructor
  · intro h
    cases l with
    | nil => exact .nil
    | cons x r => exact risingS_pw r x h
  · intro h
    exact sortedS_of_pairwise l (h.imp fun k => to_leS k)
theorem sorted_unique {a b : List Str} (ha : sortedS a = true) (hb : sortedS b = true) (p : a.Perm b) : a = b :=
  p.eq_of_pairwise (fun _ _ _ _ h k => leS_antisymm h k) (sortedS_iff.mp ha) (sortedS_iff.mp hb)
theorem sorted_filter {a : List Str} (f : Str → Bool) (h : sortedS a = true) : sortedS (a.filter f) = true := sortedS_iff.mpr ((sortedS_iff.mp h).filter _)
end L2
namespace L2
open PySem PySem.Spec PyProof.Rows
/-! ### a list comprehension of two fors, over any two walks -/
/-- the inner for -/
theorem lc_inner {J1 : It} {n : Nat} {G : Hp → Prop} {Y : Nat → Hp → V → Hp → Prop} (w : Walk J1 n G Y) {g1 : TG} {tt1 : TT} {te : TE} {vs1 : List Nat} {σ2 : St} {H4 : Hp} {D : Addr} {Nx : Hp → Prop} (Pv : Nat → Hp → Prop) (h0 : Pv 0 H4) (hG : ∀ i H, i ≤ n → Pv i H → G H)
    (hs : ∀ i x H H', i < n → Pv i H → Y i H x H' → g1 x (wipe σ2 vs1) H' fun σ3 H5 => wipe σ3 vs1 = wipe σ2 vs1 ∧ tt1 σ3 H5 fun b H6 =>
      if b = true then te σ3 H6 fun y H7 => ∃ acc, H7 D = some (.lst acc) ∧ acc.length < sizeLine ∧ Pv (i + 1) (upd H7 D (.lst (acc ++ [y]))) else Pv (i + 1) H6) (hd : ∀ H, Pv n H → Nx H) :
    ∃ W1 : Nat → Nat → Hp → Prop, (∃ m, W1 0 m H4) ∧ ∀ j k H, W1 j k H →
      (J1.stop j H ∧ Nx H) ∨ (J1.go j H ∧ ∃ Nx1 : Hp → Prop, (∀ H', Nx1 H' → ∃ k', k' < k ∧ W1 (j + 1) k' H') ∧ ∀ x H', J1.yld j H x H' → g1 x (wipe σ2 vs1) H' fun σ3 H5 => wipe σ3 vs1 = wipe σ2 vs1 ∧ tt1 σ3 H5 fun b H6 =>
        if b = true then te σ3 H6 fun y H7 => ∃ acc, H7 D = some (.lst acc) ∧ acc.length < sizeLine ∧ Nx1 (upd H7 D (.lst (acc ++ [y]))) else Nx1 H6) := by
  refine ⟨fun i m H => m + i = n ∧ Pv i H, ⟨n, Nat.add_zero n, h0⟩, ?_⟩
  rintro i m H ⟨e, p⟩
  have q := hG i H (by omega) p
  by_cases lt : i < n
  · exact .inr ⟨w.goes i H lt q, Pv (i + 1), fun H' p' => ⟨n - (i + 1), by omega, by omega, p'⟩, fun x H' y => hs i x H H' lt p (w.yields i H x H' lt q y)⟩
  · obtain rfl : i = n := by omega
    exact .inl ⟨w.stops H q, hd H p⟩
/-- the outer for -/
theorem lc_outer {J : It} {n : Nat} {G : Hp → Prop} {Y : Nat → Hp → V → Hp → Prop} (w : Walk J n G Y) {B : V → Hp → (Hp → Prop) → Prop} {H0 : Hp} {Qd : Hp → Prop} (Pv : Nat → Hp → Prop) (h0 : Pv 0 H0) (hG : ∀ i H, i ≤ n → Pv i H → G H)
    (hs : ∀ i x H H', i < n → Pv i H → Y i H x H' → B x H' (Pv (i + 1))) (hd : ∀ H, Pv n H → Qd H) :
    ∃ W : Nat → Nat → Hp → Prop, (∃ m, W 0 m H0) ∧ ∀ i m H, W i m H → (J.stop i H ∧ Qd H) ∨ (J.go i H ∧ ∃ Nx : Hp → Prop, (∀ H', Nx H' → ∃ m', m' < m ∧ W (i + 1) m' H') ∧ ∀ x H', J.yld i H x H' → B x H' Nx) := by
  refine ⟨fun i m H => m + i = n ∧ Pv i H, ⟨n, Nat.add_zero n, h0⟩, ?_⟩
  rintro i m H ⟨e, p⟩
  have q := hG i H (by omega) p
  by_cases lt : i < n
  · exact .inr ⟨w.goes i H lt q, Pv (i + 1), fun H' p' => ⟨n - (i + 1), by omega, by omega, p'⟩, fun x H' y => hs i x H H' lt p (w.yields i H x H' lt q y)⟩
  · obtain rfl : i = n := by omega
    exact .inl ⟨w.stops H q, hd H p⟩
end L2
namespace L2
open PySem PySem.Spec PyProof.Rows PySem.W
/-! ### tuple(d) of a dict: what list(d) goes over, collected for a tuple -/
section
variable {prog : Program} {w : World} {A : Around} {E : Value → Shared → Prop} {s : Shared} {T : String} {r d : Addr} {n : Nat} {P : Nat → Value → Prop} {OK : Heap → Prop}
theorem collect_src {Q : List Value → Shared → Prop} (K : KdlSrc prog w T r d n P OK) (hh : A.handled = none) (hok : OK s.heap) (hn : n ≤ sizeLine)
    (hQ : ∀ (h1 : Heap) (tk : Nat) (us : Array Value), (∀ b o, s.heap.get? b = some o → h1.get? b = some o) → ItemsOf P us n → Q us.toList { s with heap := h1, toks := tk }) : wpAny (model prog w) A (collect (.ref r)) Q E s := by
  have lt := K.there _ hok
  have new : (s.heap.push { cls := .type "list", data := .seq ([] : List Value).toArray }).get? s.heap.objs.size = some { cls := .type "list", data := .seq #[] 0 } := Heap.get?_push_size _ rfl
  have ok2 : OK (s.heap.push { cls := .type "list", data := .seq ([] : List Value).toArray }) := K.keep _ _ hok fun b _ o e => Heap.get?_push_of_some _ e
  unfold collect
  apply wpAny_bind
  apply wpAny_runValue
  apply codeAny_builtin F.entry_proto_collect
  rw [Around.under_plainId F.plain_proto_collect _]
  show wpAny _ A.in1 (do let l ← newList []; again (.builtin "list.__iadd__" ⟨[l, .ref r], []⟩)) _ _ s
  apply wpAny_bind
  refine wpAny_newObj_type ?_
  apply wpAny_pure
  refine ⟨plainId_quiet F.plain_list_iadd _, ?_⟩
  apply codeAny_builtin F.entry_list_iadd
  rw [Around.under_plainId F.plain_list_iadd _]
  have main := kdl_extend (A := A) (s := { s with heap := s.heap.push { cls := .type "list", data := .seq ([] : List Value).toArray } }) (R := fun rr s2 => rr = .ok (.ret (.ref s.heap.objs.size)) ∧ ∃ (h1 : Heap) (tk : Nat) (us : Array Value) (c1 : Nat), s2 = { s with heap := h1, toks := tk } ∧
      (∀ b o, s.heap.get? b = some o → h1.get? b = some o) ∧ h1.get? s.heap.objs.size = some { cls := .type "list", dict := none, data := .seq us c1, slots := #[] } ∧ ItemsOf P us n) K hh ok2 s.heap.objs.size (Nat.ne_of_gt lt.1) (Nat.ne_of_gt lt.2) (.ref s.heap.objs.size) 0 new
    (fun h1 tk us c1 kp e hi => ⟨rfl, h1, tk, us, c1, rfl, fun b o q => kp b o (Nat.ne_of_lt (Heap.lt_size q)) (Heap.get?_push_of_some _ q), e, hi⟩) hn
  refine wpAny_mono main (fun fin s2 h => ?_) (fun e s2 h => ?_)
  · have fin_ : ∀ {rr : Result} {s3 : Shared}, (rr = .ok (.ret (.ref s.heap.objs.size)) ∧ ∃ (h1 : Heap) (tk : Nat) (us : Array Value) (c1 : Nat), s3 = { s with heap := h1, toks := tk } ∧
        (∀ b o, s.heap.get? b = some o → h1.get? b = some o) ∧ h1.get? s.heap.objs.size = some { cls := .type "list", dict := none, data := .seq us c1, slots := #[] } ∧ ItemsOf P us n) →
        ∃ us : Array Value, rr = .ok (.ret (.ref s.heap.objs.size)) ∧ ∃ c1, s3.heap.get? s.heap.objs.size = some { cls := .type "list", dict := none, data := .seq us c1, slots := #[] } ∧ Q us.toList s3 := fun {rr s3} z => by
      obtain ⟨e, h1, tk, us, c1, e2, kp, hS, hi⟩ := z
      subst e2
      exact ⟨us, e, c1, hS, hQ h1 tk us kp hi⟩
    cases fin with
    | done f =>
      obtain ⟨us, e, c1, hS, q⟩ := fin_ h
      cases e
      show wpAny _ A (load s.heap.objs.size >>= _) _ _ _
      exact wpAny_bind (wpAny_load hS (wpAny_pure q))
    | again c' =>
      refine ⟨h.1, codeAny_mono h.2 fun rr s3 h3 => ?_⟩
      obtain ⟨us, e, c1, hS, q⟩ := fin_ h3
      subst e
      show wpAny _ A (load s.heap.objs.size >>= _) _ _ _
      exact wpAny_bind (wpAny_load hS (wpAny_pure q))
  · exact absurd h.1 (by simp)
theorem tupnew_src {Q₁ : Value → Shared → Prop} (K : KdlSrc prog w T r d n P OK) (hh : A.handled = none) (hok : OK s.heap) (hn : n ≤ sizeLine)
    (h : ∀ (h1 : Heap) (tk : Nat) (us : Array Value), (∀ b o, s.heap.get? b = some o → h1.get? b = some o) → ItemsOf P us n → Q₁ (.ref h1.objs.size) { s with heap := h1.push { cls := .type "tuple", data := .seq us }, toks := tk }) :
    codeAny (model prog w) A (.call (.builtin "tuple.__new__") ⟨[.type "tuple", .ref r], []⟩) (wants Q₁ E) s := by
  apply codeAny_of_tree
  show wpAny _ A.in1 (do checkBuiltinCall "tuple.__new__" ⟨[.type "tuple", .ref r], []⟩; again (.builtin "tuple.__new__" ⟨[.type "tuple", .ref r], []⟩)) _ _ s
  refine wpAny_bind (wpAny_of_eq (F.newCall_tuple_1 _) (wpAny_pure ⟨plainId_quiet F.plain_tuple_new _, codeAny_builtin F.entry_tuple_new ?_⟩))
  rw [Around.under_plainId F.plain_tuple_new _]
  have a1 := sub_tuple_self
  have a2 := init_tuple_lookup
  have a3 := madeHere_tuple
  have a4 := K.type s hok
  have a5 := K.notTuple
  have hh1 : A.in1.handled = none := hh
  wp_walk using wpAny_typeOf a4, collect_src (A := A.in1) K hh1 hok hn
  intro h1 tk us kp hi
  show wpAny _ _ (do let v ← Builtin.Tuple.tupleExact us.toList.toArray; ret v) _ _ _
  unfold Builtin.Tuple.tupleExact
  rw [show us.toList.toArray = us by simp]
  apply wpAny_bind
  refine wpAny_newObj_type ?_ (by show us.size ≤ sizeLine; rw [hi.1]; exact hn)
  apply wpAny_pure
  exact h h1 tk us kp hi
theorem tuple_src {Q : Value → Shared → Prop} (K : KdlSrc prog w T r d n P OK) (hh : A.handled = none) (hok : OK s.heap) (hn : n ≤ sizeLine)
    (h : ∀ (h1 : Heap) (tk : Nat) (us : Array Value), (∀ b o, s.heap.get? b = some o → h1.get? b = some o) → ItemsOf P us n → Q (.ref h1.objs.size) { s with heap := h1.push { cls := .type "tuple", data := .seq us }, toks := tk }) :
    wpAny (model prog w) A (call (.type "tuple") [.ref r]) Q E s := by
  refine callType_codes (Q₁ := fun obj s1 => s1.TypeIs obj "tuple" ∧ Q obj s1) F.called_tuple (F.typeCall_tuple_1 _) F.entry_object_init
    (tupnew_src (A := A.in1) K hh hok hn fun h1 tk us kp hi => ⟨⟨_, Heap.get?_push_size _ rfl, rfl⟩, h h1 tk us kp hi⟩) fun obj s1 z => ?_
  exact ⟨z.1, F.args_object_init_2 obj _, object_init_meets F.called_tuple.init.lookup F.called_tuple.made (by decide) prog w A.in1 _ s1 ⟨z.1, rfl, z.2⟩⟩
end
def rTupD : List V → Hp → VK → Prop := fun xs H Q => ∃ p kvs, xs = [.ref p] ∧ H p = some (.dK kvs) ∧ ∀ q, H q = none → Q (.ref q) (upd H q (.tup (kvs.map fun kv => kV kv.1)))
/-- tuple(d), d's keys ints and texts -/
theorem call_tuple_dK {X : Cx} (hc : X.calm = true) : CallR X (.type "tuple") rTupD := by
  intro pins s σ H xs us Q I r h
  obtain ⟨p, kvs, rfl, hk, q⟩ := h
  obtain ⟨u, rfl, rx⟩ := vals1 r
  obtain rfl : u = Value.ref p := rx
  obtain ⟨z, lo, vs, rk, hd⟩ := (show ObjOk X.prog X.w H s.heap p (.dK kvs) from I.hok p _ hk)
  obtain ⟨ep, at_⟩ := hd.dictAt
  have hl : kvs.length = vs.length := Paired.length rk
  have hz : vs.length ≤ sizeLine := by rw [← hl]; exact z
  refine tuple_src (kdl_dict (knd := mixKind X.prog X.w) (kvs := vs) (ep := ep) lo) (I.ok.hd hc) at_ hz fun h1 tk acc kp hi => ?_
  have I1 : Inv X pins σ H { s with heap := h1, toks := tk } := I.kept kp
  have key : Vals (kvs.map fun kv => kV kv.1) acc.toList := by
    have el : acc.toList.length = acc.size := by simp
    refine vals_of_at (by rw [List.length_map, el, hi.1, hl]) fun j x w' e1 e2 => ?_
    obtain ⟨k, y, hky, isk⟩ := hi.2 j w' (by rw [← Array.getElem?_toList]; exact e2)
    have ek : (kvs.map (·.1))[j]? = some k := by
      rw [KV.keys rk, List.getElem?_map, hky]
      rfl
    rw [List.getElem?_map] at ek e1
    obtain ⟨kv, ekv, rfl⟩ := Option.map_eq_some_iff.mp ek
    rw [ekv] at e1
    cases e1
    exact keyIs_rel isk
  refine ⟨.ref h1.objs.size, upd H h1.objs.size (.tup (kvs.map fun kv => kV kv.1)), I1.laid (t' := tk) (fun b o e => Heap.get?_push_of_some _ e) (Nat.le_refl _) (show ObjOk X.prog X.w _ _ _ (.tup (kvs.map fun kv => kV kv.1)) from ⟨by rw [List.length_map]; exact z, acc.toList, key, ?_⟩), rfl, q _ (I1.hok.fresh (Nat.le_refl _))⟩
  have e : acc.toList.toArray = acc := by simp
  rw [e]
  exact IsTup.new _ _
end L2
namespace L2
open PySem PySem.Spec PyProof.Rows
/-! ### a dict comprehension over any walk -/
/-- what the walk of a dict comprehension asks of one turn -/
def DcTurn (g : TG) (tt : TT) (tk tv : TE) (vs : List Nat) (σ : St) (D : Addr) (x : V) (H : Hp) (Pnx : Hp → Prop) : Prop :=
  g x (wipe σ vs) H fun σ2 H2 => wipe σ2 vs = wipe σ vs ∧ tt σ2 H2 fun b H3 =>
    if b = true then tk σ2 H3 fun y H4 => tv σ2 H4 fun z H5 => ∃ kvs k, y = kV k ∧ H5 D = some (.dK kvs) ∧ kvs.length < sizeLine ∧ Pnx (upd H5 D (.dK (putK kvs k z))) else Pnx H3
theorem dc_it {J : It} {n : Nat} {G : Hp → Prop} {Y : Nat → Hp → V → Hp → Prop} (w : Walk J n G Y) {g : TG} {tt : TT} {tk tv : TE} {vs : List Nat} {σ : St} {H1 : Hp} {D : Addr} {Qd : Hp → Prop} (Pv : Nat → Hp → Prop)
    (h0 : Pv 0 (upd H1 D (.dK []))) (hG : ∀ i H, i ≤ n → Pv i H → G H) (hs : ∀ i x H H', i < n → Pv i H → Y i H x H' → DcTurn g tt tk tv vs σ D x H' (Pv (i + 1))) (hd : ∀ H, Pv n H → Qd H) :
    ∃ W : Nat → Nat → Hp → Prop, (∃ m, W 0 m (upd H1 D (.dK []))) ∧ ∀ i m H, W i m H →
      (J.stop i H ∧ Qd H) ∨ (J.go i H ∧ ∃ Nx : Hp → Prop, (∀ H', Nx H' → ∃ m', m' < m ∧ W (i + 1) m' H') ∧ ∀ x H', J.yld i H x H' → g x (wipe σ vs) H' fun σ2 H2 => wipe σ2 vs = wipe σ vs ∧ tt σ2 H2 fun b H3 =>
        if b = true then tk σ2 H3 fun y H4 => tv σ2 H4 fun z H5 => ∃ kvs k, y = kV k ∧ H5 D = some (.dK kvs) ∧ kvs.length < sizeLine ∧ Nx (upd H5 D (.dK (putK kvs k z))) else Nx H3) := by
  refine ⟨fun i m H => m + i = n ∧ Pv i H, ⟨n, Nat.add_zero n, h0⟩, ?_⟩
  rintro i m H ⟨e, p⟩
  have q := hG i H (by omega) p
  by_cases lt : i < n
  · exact .inr ⟨w.goes i H lt q, Pv (i + 1), fun H' p' => ⟨n - (i + 1), by omega, by omega, p'⟩, fun x H' y => hs i x H H' lt p (w.yields i H x H' lt q y)⟩
  · obtain rfl : i = n := by omega
    exact .inl ⟨w.stops H q, hd H p⟩
end L2
namespace RatM
/-! ### ratios in lowest terms -/
def lowD (t b : Int) : Int := if 0 < b then (Int.gcd t b : Int) else -(Int.gcd t b : Int)
def lowT (t b : Int) : Int := t.fdiv (lowD t b)
def lowB (t b : Int) : Int := b.fdiv (lowD t b)
theorem gcd_pos {t b : Int} (hb : b ≠ 0) : 0 < (Int.gcd t b : Int) := by
  have h : 0 < Int.gcd t b := Nat.pos_of_ne_zero fun z => hb (Int.eq_zero_of_gcd_eq_zero_right z)
  omega
theorem lowD_ne {t b : Int} (hb : b ≠ 0) : lowD t b ≠ 0 := by
  have h := gcd_pos (t := t) hb
  unfold lowD
  split <;> omega
theorem lowD_dvd_t (t b : Int) : lowD t b ∣ t := by
  unfold lowD
  split
  · exact Int.gcd_dvd_left ..
  · exact Int.neg_dvd.mpr (Int.gcd_dvd_left ..)
theorem lowD_dvd_b (t b : Int) : lowD t b ∣ b := by
  unfold lowD
  split
  · exact Int.gcd_dvd_right ..
  · exact Int.neg_dvd.mpr (Int.gcd_dvd_right ..)
theorem lowT_mul {t b : Int} (hb : b ≠ 0) : lowD t b * lowT t b = t := by
  obtain ⟨k, hk⟩ := lowD_dvd_t t b
  have e : lowT t b = k := by
    unfold lowT
    conv => lhs; arg 1; rw [hk]
    exact Int.mul_fdiv_cancel_left k (lowD_ne hb)
  rw [e]
  exact hk.symm
theorem lowB_mul {t b : Int} (hb : b ≠ 0) : lowD t b * lowB t b = b := by
  obtain ⟨k, hk⟩ := lowD_dvd_b t b
  have e : lowB t b = k := by
    unfold lowB
    conv => lhs; arg 1; rw [hk]
    exact Int.mul_fdiv_cancel_left k (lowD_ne hb)
  rw [e]
  exact hk.symm
theorem lowB_pos {t b : Int} (hb : b ≠ 0) : 0 < lowB t b := by
  have m := lowB_mul (t := t) hb
  have g := gcd_pos (t := t) hb
  by_cases c : 0 < b
  · have d : 0 < lowD t b := by unfold lowD; rw [if_pos c]; exact g
    exact Int.pos_of_mul_pos_right (by rw [m]; exact c) d
  · have d : lowD t b < 0 := by unfold lowD; rw [if_neg c]; omega
    have e : (-lowD t b) * lowB t b = -b := by rw [Int.neg_mul, m]
    exact Int.pos_of_mul_pos_right (by rw [e]; omega) (by omega : 0 < -lowD t b)
theorem lowD_abs {t b : Int} : (lowD t b).natAbs = Int.gcd t b := by
  unfold lowD
  split <;> simp
theorem low_gcd {t b : Int} (hb : b ≠ 0) : Int.gcd (lowT t b) (lowB t b) = 1 := by
  have h : Int.gcd (lowD t b * lowT t b) (lowD t b * lowB t b) = (lowD t b).natAbs * Int.gcd (lowT t b) (lowB t b) := Int.gcd_mul_left ..
  rw [lowT_mul hb, lowB_mul hb, lowD_abs] at h
  have g := gcd_pos (t := t) hb
  have g2 : 0 < Int.gcd t b := by omega
  exact Nat.eq_of_mul_eq_mul_left g2 (by rw [Nat.mul_one]; exact h.symm)
theorem lowT_le {t b : Int} (hb : b ≠ 0) : (lowT t b).natAbs ≤ t.natAbs := by
  have m := congrArg Int.natAbs (lowT_mul (t := t) hb)
  rw [Int.natAbs_mul] at m
  have d : 0 < (lowD t b).natAbs := Int.natAbs_pos.mpr (lowD_ne hb)
  rw [← m]
  exact Nat.le_mul_of_pos_left _ d
theorem lowB_le {t b : Int} (hb : b ≠ 0) : (lowB t b).natAbs ≤ b.natAbs := by
  have m := congrArg Int.natAbs (lowB_mul (t := t) hb)
  rw [Int.natAbs_mul] at m
  have d : 0 < (lowD t b).natAbs := Int.natAbs_pos.mpr (lowD_ne hb)
  rw [← m]
  exact Nat.le_mul_of_pos_left _ d
theorem cop_dvd {p q r : Int} (g : Int.gcd p q = 1) (h : q ∣ p * r) : q ∣ r := by
  have h2 : q.natAbs ∣ p.natAbs * r.natAbs := by
    rw [← Int.natAbs_mul]
    exact Int.natAbs_dvd_natAbs.mpr h
  have c : Nat.Coprime q.natAbs p.natAbs := by
    unfold Nat.Coprime
    rw [Nat.gcd_comm]
    exact g
  exact Int.natAbs_dvd_natAbs.mp (Nat.Coprime.dvd_of_dvd_mul_left c h2)
/-- one ratio has one pair -/
theorem low_one {p q p' q' : Int} (hq : 0 < q) (hq' : 0 < q') (g : Int.gcd p q = 1) (g' : Int.gcd p' q' = 1) (e : p * q' = p' * q) : p = p' ∧ q = q' := by
  have d1 : q ∣ q' := by
    have z : q ∣ p * q' := ⟨p', by rw [e, Int.mul_comm]⟩
    exact cop_dvd g z
  have d2 : q' ∣ q := by
    have z : q' ∣ p' * q := ⟨p, by rw [← e, Int.mul_comm]⟩
    exact cop_dvd g' z
  have eq : q = q' := Int.dvd_antisymm (by omega) (by omega) d1 d2
  subst eq
  exact ⟨Int.eq_of_mul_eq_mul_right (by omega) e, rfl⟩
theorem low_self {p q : Int} (hq : 0 < q) (g : Int.gcd p q = 1) : lowT p q = p ∧ lowB p q = q := by
  have e : lowD p q = 1 := by unfold lowD; rw [if_pos hq, g]; rfl
  unfold lowT lowB
  rw [e]
  exact ⟨Int.fdiv_one p, Int.fdiv_one q⟩
/-- what stands in the same proportion has the same pair -/
theorem low_eq {t b t' b' : Int} (hb : b ≠ 0) (hb' : b' ≠ 0) (e : t * b' = t' * b) : lowT t b = lowT t' b' ∧ lowB t b = lowB t' b' := by
  refine low_one (lowB_pos hb) (lowB_pos hb') (low_gcd hb) (low_gcd hb') ?_
  have h1 := lowT_mul (t := t) hb
  have h2 := lowB_mul (t := t) hb
  have h3 := lowT_mul (t := t') hb'
  have h4 := lowB_mul (t := t') hb'
  have d1 := lowD_ne (t := t) hb
  have d2 := lowD_ne (t := t') hb'
  refine Int.eq_of_mul_eq_mul_left (Int.mul_ne_zero d1 d2) ?_
  have e1 : lowD t b * lowD t' b' * (lowT t b * lowB t' b') = (lowD t b * lowT t b) * (lowD t' b' * lowB t' b') := by ac_rfl
  have e2 : lowD t b * lowD t' b' * (lowT t' b' * lowB t b) = (lowD t' b' * lowT t' b') * (lowD t b * lowB t b) := by ac_rfl
  rw [e1, e2, h1, h2, h3, h4]
  exact e
end RatM
namespace L2
open PySem PySem.Spec PyProof.Rows
/-! ### an own error that is raised: its __init__ keeps its parameters ks -/
def spErrN (K : PySem.W.Frag) (ks : List Str) : Sp := fun vs H Q _ => ∃ (e C : Addr) (ws : List V), vs = .ref e :: ws ∧ ws.length = ks.length ∧ OexC K C ∧ (∀ f ∈ ks, PySem.W.findIn K (.ref C) f = some none) ∧
  H e = some (exo e C none) ∧ ∀ H' d, (∀ b o, b ≠ e → H b = some o → H' b = some o) → H d = none → d ≠ e → H' e = some (exo e C (some d)) → H' d = some (exd d (ks.zip ws).reverse) → Q .non H'
/-- what the written part tells of it, and of its __init__ -/
structure ErrN (P : Program) (w : World) (K : PySem.W.Frag) (mg : Str → Option Value) (base : Heap) (x : Str) (C : Addr) (ks : List Str) : Prop where
  ex : ∃ (fI : Addr) (fd : FuncData), PySem.W.findIn K (.ref C) "__init__" = some (some (.ref fI)) ∧ PySem.W.typeIn K (.ref fI) = some (.type "function") ∧ FnOk P w K mg base CX0 1 fI fd ("self" :: ks) (spErrN K ks) ∧ Binds K fd ("self" :: ks) []
  ox : OexC K C
  no : ∀ f ∈ ks, PySem.W.findIn K (.ref C) f = some none
  g : mg x = some (.ref C)
/-- that it is raised is what is wanted: E, with its dict d that is new -/
def Rz (H : Hp) (E : XK) (C : Addr) (fs : List (Str × V)) : Prop := ∀ d H', Same H H' → H d = none → H' d = some (.xd fs) → E (.ref C) (some d) H'
/-- what is asked behind the arguments -/
def RaiseN (K : PySem.W.Frag) (C : Addr) (ks : List Str) (vs : List V) (H1 : Hp) (Q : XK) : Prop := vs.length ≤ 1000 ∧ ∀ a, H1 a = none → spErrN K ks (.ref a :: (vs ++ [])) (upd H1 a (exo a C none))
  (fun v H2 => v = .non ∧ ∃ (d : Addr) (fs : List (Str × V)), H2 a = some (exo a C (some d)) ∧ H2 d = some (exd d fs) ∧ H1 d = none ∧ Q (.ref C) (some d) (upd (del H2 a) d (.xd fs))) (fun _ _ _ => False)
def tRaiseN (K : PySem.W.Frag) (C : Addr) (ks : List Str) (W : WX) (ta : TA) : TS := fun _ σ H => ta σ H fun vs H1 => RaiseN K C ks vs H1 fun c d H' => W c d σ H'
theorem raiseN {P : Program} {w : World} {K : PySem.W.Frag} {mg : Str → Option Value} {base : Heap} {x : Str} {C : Addr} {ks : List Str} (M : ErrN P w K mg base x C ks) {vs : List V} {H1 : Hp} {Q : XK} (hl : vs.length = ks.length) (hk : ks.length ≤ 100)
    (h : Rz H1 Q C (ks.zip vs).reverse) : RaiseN K C ks vs H1 Q := by
  refine ⟨by omega, fun a na => ⟨a, C, vs, by rw [List.append_nil], hl, M.ox, M.no, upd_same, fun H2 d kp nd ne h1 h2 => ⟨rfl, d, _, h1, h2, ?_, h d _ ?_ ?_ upd_same⟩⟩⟩
  · rw [upd_ne ne] at nd
    exact nd
  · intro b o z
    rw [upd_ne ne] at nd
    have hb : b ≠ a := ne_of_none z na
    rw [upd_ne (ne_of_none z nd), del_ne hb]
    exact kp b o hb (by rw [upd_ne hb]; exact z)
  · rw [upd_ne ne] at nd
    exact nd
section
variable {X : Cx} {C : Addr} {ks : List Str} {x : Str} {p pos pos2 : Pos} {e : Expr} {es : List Expr} {ta : TA} {W : WX}
theorem ps_raiseN (hc : X.calm = true) (M : ErrN X.prog X.w X.K X.mg X.base x C ks) (hr : Room 2 X.A) (tk : Takes X W) (hg : Gl X x) (ha : PA X (e :: es) ta)
    (hdb : (x == ("__debug__" : Str)) = false := by decide) (he : starEach (e :: es) X.env = (false, eval e X.env) :: starEach es X.env := by rfl) (hpl : (backTo pos (starEach es X.env)).any (·.1) = false := by rfl) :
    PS X (.Raise (some (.Call (.Name x p) (e :: es) [] pos)) none pos2) (tRaiseN X.K C ks W ta) := by
  obtain ⟨fI, fd, iC, tI, F, b⟩ := M.ex
  exact ps_raise (pos := pos2) hc tk (pmk_oex (p := p) (e := e) (dvs := []) M.ox iC tI F hr b .nil pass0 hg M.g ha hdb he hpl)
end
end L2
namespace L2
open PySem PySem.Spec PyProof.Rows
/-- a truth less a truth -/
theorem op_subBl {X : Cx} : OpR X (binaryOp .Sub) fun x y H Q => ∃ p q, x = .bl p ∧ y = .bl q ∧ Q (.int (b2i p - b2i q)) H := by
  intro pins s σ H x y v u Q I rx ry h
  obtain ⟨p, q, rfl, rfl, z⟩ := h
  obtain rfl : v = .bool p := rx
  obtain rfl : u = .bool q := ry
  exact sub_bool ⟨.int (b2i p - b2i q), H, I.tok _, ⟨_, rfl⟩, z⟩
/-- // by any divisor other than 0 that is not monstrous -/
def CDivZ (_ j : Int) : Prop := j ≠ 0 ∧ j.natAbs.log2 < 9000
theorem op_fdivZ {X : Cx} : OpR X (binaryOp .FloorDiv) (rI CDivZ fun i j => .int (i.fdiv j)) := opI fun _ _ _ _ _ _ _ hc q => floordiv_int hc.1 q (.inl (PyProof.noPylong_of_log2 hc.2))
/-! ### what isinstance tells of a value -/
/-- whether a value is an integer that is no truth -/
def IntIs (K : PySem.W.Frag) (H : Hp) (x : V) (b : Bool) : Prop := ∃ t b1 b2, TyX K H x t ∧ PySem.W.kitOne K t (.type "int") = some b1 ∧ PySem.W.kitOne K t (.type "bool") = some b2 ∧ b = (b1 && !b2)
theorem intIs_int {K : PySem.W.Frag} {H : Hp} (i : Int) : IntIs K H (.int i) true := ⟨.type "int", true, false, .base (.int _), kit_ty (by decide +kernel), kit_ty (by decide +kernel), rfl⟩
theorem intIs_bl {K : PySem.W.Frag} {H : Hp} (b : Bool) : IntIs K H (.bl b) false := ⟨.type "bool", true, true, .base (.bl _), kit_ty (by decide +kernel), kit_ty (by decide +kernel), rfl⟩
theorem intIs_non {K : PySem.W.Frag} {H : Hp} : IntIs K H .non false := ⟨.type "NoneType", false, false, .base .non, kit_ty (by decide +kernel), kit_ty (by decide +kernel), rfl⟩
theorem intIs_str {K : PySem.W.Frag} {H : Hp} (x : Str) : IntIs K H (.str x) false := ⟨.type "str", false, false, .base (.str _), kit_ty (by decide +kernel), kit_ty (by decide +kernel), rfl⟩
end L2
namespace K05
open PySem PySem.Spec PyProof.Rows L2
def top (i : Nat) : Stmt := PySem.Challenge.pw_scaleborn_k05_balances_added_and_brought.main.body.getD i (.Pass ⟨0, 0, 0, 0⟩)
abbrev FnP (K : PySem.W.Frag) (x : Str) (st : Stmt) (f : Addr) (fd : FuncData) : Prop := FunD K x x (defArgs st) (defBody st) (defScope st) [] [] f fd
abbrev MtP (K : PySem.W.Frag) (m q : Str) (st : Stmt) (f : Addr) (fd : FuncData) : Prop := FunD K m q (defArgs st) (defBody st) (defScope st) [] [] f fd
abbrev iBadRatio : Stmt := inClass (top 4) 0
abbrev iBadText : Stmt := inClass (top 7) 0
section
variable {P : Program} {w : World} {K : PySem.W.Frag} {mg : Str → Option Value} {base : Heap}
theorem mk_BadRatio {C fI : Addr} {fd : FuncData} (F : MtP K "__init__" "BadRatio.__init__" iBadRatio fI fd) (ox : OexC K C) (iC : PySem.W.findIn K (.ref C) "__init__" = some (some (.ref fI))) (tI : PySem.W.typeIn K (.ref fI) = some (.type "function"))
    (no : ∀ f ∈ ([("part" : Str)] : List Str), PySem.W.findIn K (.ref C) f = some none) (g : mg "BadRatio" = some (.ref C)) : ErrN P w K mg base "BadRatio" C ["part"] := by
  have S : FnScope ["self", "part"] ["self", "part"] (defScope iBadRatio) := ⟨rfl, rfl, rfl, by decide +kernel, rfl, by decide +kernel, by decide +kernel⟩
  refine ⟨⟨fI, fd, iC, tI, ?_, F.bindsN (fun _ _ _ _ _ _ us hl => match us, hl with | [_, _], _ => rfl)⟩, ox, no, g⟩
  refine F.ok S (fun vs H Q E h => ?_) (fun cdv A outer s H vs Q E hr h => ?_)
  · obtain ⟨e, C, ws, rfl, hn, _⟩ := h
    rw [List.length_cons, hn]
    rfl
  · obtain ⟨e, C, ws, rfl, hn, T, no, he, k⟩ := h
    match ws, hn with
    | [v0], _ =>
      refine ⟨_, PSs.nox (pss_one (ps_ost (pv 0) (pv 1))), ?_⟩
      refine ⟨_, rfl, _, rfl, e, C, rfl, T, no _ (by simp), .inl ⟨he, fun dx nd ne => ?_⟩⟩
      exact k _ dx (fun b o hb z => by rw [upd_ne hb, upd_ne (ne_of_none z nd)]; exact z) nd ne upd_same (by rw [upd_ne ne]; exact upd_same)
theorem mk_BadText {C fI : Addr} {fd : FuncData} (F : MtP K "__init__" "BadText.__init__" iBadText fI fd) (ox : OexC K C) (iC : PySem.W.findIn K (.ref C) "__init__" = some (some (.ref fI))) (tI : PySem.W.typeIn K (.ref fI) = some (.type "function"))
    (no : ∀ f ∈ ([("line" : Str), ("word" : Str)] : List Str), PySem.W.findIn K (.ref C) f = some none) (g : mg "BadText" = some (.ref C)) : ErrN P w K mg base "BadText" C ["line", "word"] := by
  have S : FnScope ["self", "line", "word"] ["self", "line", "word"] (defScope iBadText) := ⟨rfl, rfl, rfl, by decide +kernel, rfl, by decide +kernel, by decide +kernel⟩
  refine ⟨⟨fI, fd, iC, tI, ?_, F.bindsN (fun _ _ _ _ _ _ us hl => match us, hl with | [_, _, _], _ => rfl)⟩, ox, no, g⟩
  refine F.ok S (fun vs H Q E h => ?_) (fun cdv A outer s H vs Q E hr h => ?_)
  · obtain ⟨e, C, ws, rfl, hn, _⟩ := h
    rw [List.length_cons, hn]
    rfl
  · obtain ⟨e, C, ws, rfl, hn, T, no, he, k⟩ := h
    match ws, hn with
    | [v0, v1], _ =>
      refine ⟨_, PSs.nox (pss_cons (ps_ost (pv 0) (pv 1)) (pss_one (ps_ost (pv 0) (pv 2)))), ?_⟩
      refine ⟨_, rfl, _, rfl, e, C, rfl, T, no _ (by simp), .inl ⟨he, fun dx nd ne => ?_⟩⟩
      refine ⟨_, rfl, _, rfl, e, C, rfl, T, no _ (by simp), .inr ⟨dx, _, upd_same, by rw [upd_ne ne]; exact upd_same, by show 1 ≤ 900; decide, ?_⟩⟩
      refine k _ dx (fun b o hb z => ?_) nd ne (by rw [upd_ne ne.symm]; exact upd_same) upd_same
      rw [upd_ne (ne_of_none z nd), upd_ne hb, upd_ne (ne_of_none z nd)]
      exact z
/-! ### checks -/
def spIsI (K : PySem.W.Frag) : Sp := fun vs H Q _ => ∃ x b, vs = [x] ∧ IntIs K H x b ∧ Q (.bl b) H
theorem scI : FnScope ["value"] ["value"] (defScope (top 12)) := ⟨rfl, rfl, rfl, by decide +kernel, rfl, by decide +kernel, by decide +kernel⟩
theorem ok_isInt {f : Addr} {fd : FuncData} (F : FnP K "is_integer" (top 12) f fd) (bi : mg "isinstance" = none) (bI : mg "int" = none) (bB : mg "bool" = none) : FnOk P w K mg base CX0 1 f fd ["value"] (spIsI K) := by
  refine F.ok scI (fun vs H Q E h => ?_) (fun cdv A outer s H vs Q E hr h => ?_)
  · obtain ⟨x, b, rfl, _⟩ := h
    rfl
  · obtain ⟨x, b, rfl, ⟨t, b1, b2, ty, k1, k2, rfl⟩, q⟩ := h
    refine ⟨_, PSs.nox (pss_one (ps_ret (pe_and (pe_callB call_isi (by rfl) bi (by decide +kernel) (pa_cons (pv 0) (pa_cons (pe_bltn (v := .ty "int") (by rfl) bI (by decide +kernel) rfl) pa_nil)))
      (pe_one (pe_not (pe_callB call_isi (by rfl) bi (by decide +kernel) (pa_cons (pv 0) (pa_cons (pe_bltn (v := .ty "bool") (by rfl) bB (by decide +kernel) rfl) pa_nil)))))))), ?_⟩
    refine ⟨_, rfl, _, _, _, _, _, rfl, .ty "int", ty, k1, _, rfl, ?_⟩
    cases b1 with
    | false => exact iteF q
    | true => exact iteT ⟨_, rfl, _, _, _, _, _, rfl, .ty "bool", ty, k2, _, rfl, q⟩
end
end K05
namespace K05
open PySem PySem.Spec PyProof.Rows L2 RatM
abbrev ratM (i : Nat) : Stmt := inClass (top 25) i
/-- what the written part tells of the class of ratios -/
structure RatC (K : PySem.W.Frag) (C : Addr) : Prop where
  cls : Cls K C
  no : ∀ f ∈ ([("top" : Str), ("bottom" : Str), ("sign" : Str), ("is_whole" : Str), ("below" : Str)] : List Str), NoAttr K C f
/-- the fields of a ratio -/
def ratF (p q : Int) : List (Str × V) := putF "below" (.int (p.fdiv q)) (putF "is_whole" (.bl (decide (V.int q = V.int 1))) (putF "sign" (.int (b2i (decide (0 < p)) - b2i (decide (p < 0)))) (putF "bottom" (.int q) (putF "top" (.int p) []))))
def spRI (K : PySem.W.Frag) (C BR : Addr) : Sp := fun vs H Q E => ∃ (a : Addr) (x y : V), vs = [.ref a, x, y] ∧
  ((∃ (t b : Int) (dx : Addr), x = .int t ∧ y = .int b ∧ b ≠ 0 ∧ t.natAbs < 2 ^ 4000 ∧ b.natAbs < 2 ^ 4000 ∧ H a = some (.ins C dx []) ∧ ∀ H' : Hp, (∀ b, b ≠ a → H' b = H b) → H' a = some (.ins C dx (ratF (lowT t b) (lowB t b))) → Q .non H') ∨
   (IntIs K H x false ∧ Rz H E BR [("part", .str "top")]) ∨ (∃ t, x = .int t ∧ (IntIs K H y false ∨ y = .int 0) ∧ Rz H E BR [("part", .str "bottom")]))
theorem log2_of {i : Int} (h : i.natAbs < 2 ^ 4000) : i.natAbs.log2 < 9000 := Nat.lt_of_lt_of_le (PySem.Flt.log2_lt_of (by decide) h) (by decide)
section
variable {P : Program} {w : World} {K : PySem.W.Frag} {mg : Str → Option Value} {base : Heap} {C BR : Addr}
theorem scRI : FnScope ["self", "top", "bottom", "divisor"] ["self", "top", "bottom"] (defScope (ratM 0)) := ⟨rfl, rfl, rfl, by decide +kernel, rfl, by decide +kernel, by decide +kernel⟩
theorem ok_ratInit {f fI : Addr} {fd fdI : FuncData} {dvs : List V} {kws : List (Str × V)} (F : FunD K "__init__" "Ratio.__init__" (defArgs (ratM 0)) (defBody (ratM 0)) (defScope (ratM 0)) dvs kws f fd) (T : RatC K C) (M : ErrN P w K mg base "BadRatio" BR ["part"])
    (GI : FnOk P w K mg base CX0 1 fI fdI ["value"] (spIsI K)) (bI : Binds K fdI ["value"] []) (kI : PySem.W.keepIn K (.ref fI) = true) (gI : mg "is_integer" = some (.ref fI)) (gG : mg "gcd" = some (.builtin "math.gcd")) :
    FnOk P w K mg base (L2.CX P w) 3 f fd ["self", "top", "bottom"] (spRI K C BR) := by
  refine F.ok scRI (fun vs H Q E h => ?_) (fun cdv A outer s H vs Q E hr h => ?_)
  · obtain ⟨a, x, y, rfl, _⟩ := h
    rfl
  · obtain ⟨a, x, y, rfl, h⟩ := h
    have hr2 : Room 2 _ := hr
    have hr1 : Room 1 _ := hr2.mono (by decide)
    refine ⟨_, pss_cons (ps_if (pt_not (pt_val (pe_call GI hr1 rfl gI kI bI .nil pass0 (pa_cons (pv 1) pa_nil)))) (pss_one (ps_raiseN rfl M hr2 (takes_of rfl rfl rfl rfl) (by rfl) (pa_cons pe_str pa_nil))) pss_nil)
      (pss_cons (ps_if (PW.pt (pw_or (pt_not (pt_val (pe_call GI hr1 rfl gI kI bI .nil pass0 (pa_cons (pv 2) pa_nil)))) (pw_or1 (pt_cmpR op_eq (pv 2) pe_int (nomark _))))) (pss_one (ps_raiseN rfl M hr2 (takes_of rfl rfl rfl rfl) (by rfl) (pa_cons pe_str pa_nil))) pss_nil)
      (pss_cons (ps_set (i := 3) scRI.nd rfl (.inl rfl) (pe_ifExp (pt_cmpR op_gt (pv 2) pe_int (nomark _)) (pe_callBfun cr_gcd (by rfl) gG (pa_cons (pv 1) (pa_cons (pv 2) pa_nil))) (pe_un un_neg (pe_callBfun cr_gcd (by rfl) gG (pa_cons (pv 1) (pa_cons (pv 2) pa_nil))))))
      (pss_cons (ps_fld (pv 0) (pe_op op_fdivZ (pv 1) (pv 3)) (by rfl))
      (pss_cons (ps_fld (pv 0) (pe_op op_fdivZ (pv 2) (pv 3)) (by rfl))
      (pss_cons (ps_fld (pv 0) (pe_op op_subBl (pe_cmpR op_gt (pe_fld (pv 0) rfl) pe_int (nomark _)) (pe_cmpR op_lt (pe_fld (pv 0) rfl) pe_int (nomark _))) (by rfl))
      (pss_cons (ps_fld (pv 0) (pe_cmpR op_eq (pe_fld (pv 0) rfl) pe_int (nomark _)) (by rfl))
      (pss_one (ps_fld (pv 0) (pe_op op_fdivZ (pe_fld (pv 0) rfl) (pe_fld (pv 0) rfl)) (by rfl))))))))), ?_⟩
    rcases h with ⟨t, b, dx, rfl, rfl, hb, ht, hbb, ha, k⟩ | ⟨hx, rz⟩ | ⟨t, rfl, hy, rz⟩
    · refine ⟨_, rfl, _, _, rfl, intIs_int t, true, rfl, iteF ?_⟩
      refine ⟨_, rfl, _, _, rfl, intIs_int b, true, rfl, iteF ⟨_, rfl, rfl, false, congrArg V.bl (decide_eq_false fun z => hb (V.int.inj z)), iteF ?_⟩⟩
      have dn := lowD_ne (t := t) hb
      have dz : (lowD t b).natAbs.log2 < 9000 := by
        refine log2_of ?_
        rw [lowD_abs]
        exact Nat.lt_of_le_of_lt (Nat.gcd_le_right _ (Int.natAbs_pos.mpr hb)) hbb
      refine ⟨_, rfl, _, _, rfl, rfl, _, rfl, ite2 (fun c => ?_) (fun c => ?_)⟩
      case' refine_1 =>
        have eX : ((Nat.gcd t.natAbs b.natAbs : Nat) : Int) = lowD t b := (if_pos (of_decide_eq_true c)).symm
        refine ⟨_, rfl, _, rfl, _, _, rfl, ?_⟩
        rw [eX]
      case' refine_2 =>
        have eX : -((Nat.gcd t.natAbs b.natAbs : Nat) : Int) = lowD t b := (if_neg fun z => c (decide_eq_true z)).symm
        refine ⟨_, rfl, _, rfl, _, _, rfl, _, rfl, ?_⟩
        dsimp only
        rw [eX]
      all_goals
        have nt := T.no "top" (by simp)
        have nb := T.no "bottom" (by simp)
        have ns := T.no "sign" (by simp)
        have ni := T.no "is_whole" (by simp)
        have nl := T.no "below" (by simp)
        have qp := lowB_pos (t := t) hb
        have qz : (lowB t b).natAbs < 2 ^ 4000 := Nat.lt_of_le_of_lt (lowB_le hb) hbb
        refine ⟨_, rfl, _, rfl, _, _, rfl, rfl, ⟨dn, dz⟩, _, rfl, a, C, dx, _, rfl, ha, T.cls, nt, by show 0 < 1000; decide, ?_⟩
        refine ⟨_, rfl, _, rfl, _, _, rfl, rfl, ⟨dn, dz⟩, _, rfl, a, C, dx, _, rfl, upd_same, T.cls, nb, by show 1 < 1000; decide, ?_⟩
        refine ⟨_, rfl, a, C, dx, _, _, rfl, upd_same, T.cls, nt, rfl, _, _, rfl, rfl, ?_⟩
        refine ⟨_, rfl, a, C, dx, _, _, rfl, upd_same, T.cls, nt, rfl, _, _, rfl, rfl, _, _, rfl, rfl, ?_⟩
        refine ⟨_, rfl, a, C, dx, _, rfl, upd_same, T.cls, ns, by show 2 < 1000; decide, ?_⟩
        refine ⟨_, rfl, a, C, dx, _, _, rfl, upd_same, T.cls, nb, rfl, rfl, ?_⟩
        refine ⟨_, rfl, a, C, dx, _, rfl, upd_same, T.cls, ni, by show 3 < 1000; decide, ?_⟩
        refine ⟨_, rfl, a, C, dx, _, _, rfl, upd_same, T.cls, nt, rfl, _, rfl, a, C, dx, _, _, rfl, upd_same, T.cls, nb, rfl, _, _, rfl, rfl, ⟨Int.ne_of_gt qp, log2_of qz⟩, ?_⟩
        refine ⟨_, rfl, a, C, dx, _, rfl, upd_same, T.cls, nl, by show 4 < 1000; decide, ?_⟩
        refine k _ (fun b hb => ?_) upd_same
        rw [upd_ne hb, upd_ne hb, upd_ne hb, upd_ne hb, upd_ne hb]
    · refine ⟨_, rfl, _, _, rfl, hx, false, rfl, iteT ?_⟩
      exact raiseN M rfl (by decide) rz
    · refine ⟨_, rfl, _, _, rfl, intIs_int t, true, rfl, iteF ?_⟩
      rcases hy with hy | rfl
      · refine ⟨_, rfl, _, _, rfl, hy, false, rfl, iteT ?_⟩
        exact raiseN M rfl (by decide) rz
      · refine ⟨_, rfl, _, _, rfl, intIs_int 0, true, rfl, iteF ⟨_, rfl, rfl, true, congrArg V.bl (decide_eq_true rfl), iteT ?_⟩⟩
        exact raiseN M rfl (by decide) rz
end
end K05
namespace K05
open PySem PySem.Spec PyProof.Rows L2 RatM
/-- a ratio p / q stands at a -/
def RatAt (H : Hp) (a C : Addr) (p q : Int) : Prop := ∃ dx, H a = some (.ins C dx (ratF p q))
theorem RatAt.same {H H' : Hp} {a C : Addr} {p q : Int} (h : RatAt H a C p q) (s : Same H H') : RatAt H' a C p q := let ⟨dx, e⟩ := h; ⟨dx, s _ _ e⟩
theorem RatAt.ins {H : Hp} {a C : Addr} {p q : Int} (h : RatAt H a C p q) : InsAt H a C := let ⟨dx, e⟩ := h; ⟨dx, _, e⟩
theorem Rz.same {H H' : Hp} {E : XK} {C : Addr} {fs : List (Str × V)} (h : Rz H E C fs) (s : Same H H') : Rz H' E C fs := fun d H2 s2 nd hd => h d H2 (s.trans s2) (s.free nd) hd
/-- what isinstance asks of the class -/
structure RatI (K : PySem.W.Frag) (C : Addr) : Prop where
  ca : PySem.W.findIn K (.ref C) "__class__" = some (some (.builtin "object.__class__"))
  cn : PySem.W.specialIn K (.builtin "object.__class__") "__get__" = some (some (.builtin "getset_descriptor.__get__"))
  ct : PySem.W.takesIn K (.builtin "object.__class__") = some true
  cm : PySem.W.mroIn K C (.type "object") = some true
  cc : PySem.W.kitOne K (.ref C) (.ref C) = some true
  ci : PySem.W.kitOne K (.ref C) (.type "int") = some false
  cb : PySem.W.kitOne K (.ref C) (.type "bool") = some false
  ic : PySem.W.kitOne K (.type "int") (.ref C) = some false
/-- neither a ratio nor an integer -/
def NotNum (K : PySem.W.Frag) (H : Hp) (C : Addr) (x : V) : Prop := (∃ t, TyX K H x t ∧ PySem.W.kitOne K t (.ref C) = some false) ∧ IntIs K H x false
/-- all that the functions of ratios rest on -/
structure RatK (P : Program) (w : World) (K : PySem.W.Frag) (mg : Str → Option Value) (base : Heap) (C BR : Addr) : Prop where
  T : RatC K C
  I : RatI K C
  M : ErrN P w K mg base "BadRatio" BR ["part"]
  g : mg "Ratio" = some (.ref C)
  bi : mg "isinstance" = none
  int : ∃ (f : Addr) (fd : FuncData), FnOk P w K mg base CX0 1 f fd ["value"] (spIsI K) ∧ Binds K fd ["value"] [] ∧ PySem.W.keepIn K (.ref f) = true ∧ mg "is_integer" = some (.ref f)
  make : ∃ (f : Addr) (fd : FuncData) (ds : List Value), Mk K C f ∧ FnOk P w K mg base (L2.CX P w) 3 f fd ["self", "top", "bottom"] (spRI K C BR) ∧ Binds K fd ["self", "top", "bottom"] [] ∧ Binds K fd ["self", "top", "bottom"] ds ∧ Vals [.int 1] ds
section
variable {K : PySem.W.Frag} {C BR : Addr} {H : Hp}
theorem RatAt.ty {a : Addr} {p q : Int} (h : RatAt H a C p q) (T : RatC K C) (I : RatI K C) : TyX K H (.ref a) (.ref C) := let ⟨_, e⟩ := h; .base (.ins e T.cls I.ca I.cn I.ct I.cm)
theorem RatAt.notInt {a : Addr} {p q : Int} (h : RatAt H a C p q) (T : RatC K C) (I : RatI K C) : IntIs K H (.ref a) false := ⟨.ref C, false, false, h.ty T I, I.ci, I.cb, rfl⟩
/-- Ratio(x, y) -/
def MkR (K : PySem.W.Frag) (C BR : Addr) (x y : V) (H : Hp) (Q : VK) (E : XK) : Prop :=
  (∃ t b : Int, x = .int t ∧ y = .int b ∧ b ≠ 0 ∧ t.natAbs < 2 ^ 4000 ∧ b.natAbs < 2 ^ 4000 ∧ ∀ a H', Same H H' → RatAt H' a C (lowT t b) (lowB t b) → Q (.ref a) H') ∨
  (IntIs K H x false ∧ Rz H E BR [("part", .str "top")]) ∨ (∃ t, x = .int t ∧ (IntIs K H y false ∨ y = .int 0) ∧ Rz H E BR [("part", .str "bottom")])
theorem IntIs.same {H' : Hp} {x : V} {b : Bool} (h : IntIs K H x b) (s : Same H H') : IntIs K H' x b := by
  obtain ⟨t, b1, b2, ty, r⟩ := h
  refine ⟨t, b1, b2, ?_, r⟩
  cases ty with
  | base z =>
    refine .base ?_
    cases z with
    | non => exact .non
    | bl x => exact .bl x
    | int i => exact .int i
    | str x => exact .str x
    | flt x => exact .flt x
    | lst e => exact .lst (s _ _ e)
    | frz e => exact .frz (s _ _ e)
    | tup e => exact .tup (s _ _ e)
    | dK e => exact .dK (s _ _ e)
    | dT e => exact .dT (s _ _ e)
    | ins e a1 a2 a3 a4 a5 => exact .ins (s _ _ e) a1 a2 a3 a4 a5
  | byt b => exact .byt b
  | set e => exact .set (s _ _ e)
  | kList e c => exact .kList e c
  | kTuple e c => exact .kTuple e c
  | kDict e c => exact .kDict e c
  | fTuple e => exact .fTuple (s _ _ e)
  | fDict e => exact .fDict (s _ _ e)
theorem mkR_sp {x y : V} {Q : VK} {E : XK} (h : MkR K C BR x y H Q E) (a dx : Addr) (na : H a = none) (nd : H dx = none) (ne : dx ≠ a) :
    spRI K C BR [.ref a, x, y] (upd (upd H dx (.own a)) a (.ins C dx [])) (fun v H2 => v = .non ∧ Q (.ref a) H2) E := by
  have s1 : Same H (upd (upd H dx (.own a)) a (.ins C dx [])) := fun b o e => by rw [upd_ne (ne_of_none e na), upd_ne (ne_of_none e nd)]; exact e
  refine ⟨a, x, y, rfl, ?_⟩
  rcases h with ⟨t, b, rfl, rfl, hb, h1, h2, k⟩ | ⟨hx, rz⟩ | ⟨t, rfl, hy, rz⟩
  · refine .inl ⟨t, b, dx, rfl, rfl, hb, h1, h2, upd_same, fun H' off at_ => ⟨rfl, k a H' (fun b o e => ?_) ⟨dx, at_⟩⟩⟩
    rw [off b (ne_of_none e na)]
    exact s1 b o e
  · exact .inr (.inl ⟨IntIs.same hx s1, Rz.same rz s1⟩)
  · exact .inr (.inr ⟨t, rfl, hy.imp (fun z => IntIs.same z s1) id, Rz.same rz s1⟩)
end
section
variable {X : Cx} {C BR : Addr} {E : XK} {x : Str} {p pos : Pos} {e1 e2 : Expr} {ta : TA}
def tRat2 (K : PySem.W.Frag) (C BR : Addr) (E : XK) (ta : TA) : TE := fun σ H Q => ta σ H fun vs H1 => ∃ x y, vs = [x, y] ∧ MkR K C BR x y H1 Q E
def tRat1 (K : PySem.W.Frag) (C BR : Addr) (E : XK) (ta : TA) : TE := fun σ H Q => ta σ H fun vs H1 => ∃ x, vs = [x] ∧ MkR K C BR x (.int 1) H1 Q E
theorem pe_rat2 (R : RatK X.prog X.w X.K X.mg X.base C BR) (hr : Room 4 X.A) (hx : Passes (L2.CX X.prog X.w) X E) (hg : Gl X "Ratio") (ha : PA X [e1, e2] ta)
    (he : starEach [e1, e2] X.env = (false, eval e1 X.env) :: starEach [e2] X.env := by rfl) (hpl : (backTo pos (starEach [e2] X.env)).any (·.1) = false := by rfl) :
    PE X (.Call (.Name "Ratio" p) [e1, e2] [] pos) (tRat2 X.K C BR E ta) := by
  obtain ⟨f, fd, ds, M, F, b0, b1, r1⟩ := R.make
  refine ⟨fun pins s σ H Q I h => ?_⟩
  refine wpAny_Call_Name_kw (ld_glob I hg R.g ?_ (by decide))
  refine PySem.W.callWith_K (h₀ := X.base) I.ok.mod.kin M.kp (thn (ha.run pos pins s σ H _ I h) fun us s1 ⟨vs, H1, I1, r, q⟩ => ⟨I1.kIn, ?_⟩) he hpl
  obtain ⟨x, y, rfl, q⟩ := q
  exact run_make (dvs := []) M F hr b0 .nil hx I1 r fun a dx na nd ne => mkR_sp q a dx na nd ne
theorem pe_rat1 (R : RatK X.prog X.w X.K X.mg X.base C BR) (hr : Room 4 X.A) (hx : Passes (L2.CX X.prog X.w) X E) (hg : Gl X "Ratio") (ha : PA X [e1] ta)
    (he : starEach [e1] X.env = (false, eval e1 X.env) :: starEach [] X.env := by rfl) (hpl : (backTo pos (starEach [] X.env)).any (·.1) = false := by rfl) :
    PE X (.Call (.Name "Ratio" p) [e1] [] pos) (tRat1 X.K C BR E ta) := by
  obtain ⟨f, fd, ds, M, F, b0, b1, r1⟩ := R.make
  refine ⟨fun pins s σ H Q I h => ?_⟩
  refine wpAny_Call_Name_kw (ld_glob I hg R.g ?_ (by decide))
  refine PySem.W.callWith_K (h₀ := X.base) I.ok.mod.kin M.kp (thn (ha.run pos pins s σ H _ I h) fun us s1 ⟨vs, H1, I1, r, q⟩ => ⟨I1.kIn, ?_⟩) he hpl
  obtain ⟨x, rfl, q⟩ := q
  exact run_make (dvs := [.int 1]) M F hr b1 r1 hx I1 r fun a dx na nd ne => mkR_sp q a dx na nd ne
end
end K05
namespace K05
open PySem PySem.Spec PyProof.Rows L2 RatM
/-- a ratio or an integer: p / q -/
def NumAt (H : Hp) (C : Addr) (x : V) (p q : Int) : Prop := (∃ a, x = .ref a ∧ RatAt H a C p q) ∨ (x = .int p ∧ q = 1 ∧ p.natAbs < 2 ^ 4000)
theorem NumAt.same {H H' : Hp} {C : Addr} {x : V} {p q : Int} (h : NumAt H C x p q) (s : Same H H') : NumAt H' C x p q := h.imp (fun ⟨a, e, r⟩ => ⟨a, e, r.same s⟩) id
/-- x as a ratio; otherwise BadRatio(part) -/
def AsR (K : PySem.W.Frag) (C BR : Addr) (x : V) (part : Str) (H : Hp) (Q : VK) (E : XK) : Prop :=
  (∃ p q : Int, NumAt H C x p q ∧ ∀ a H', Same H H' → RatAt H' a C p q → Q (.ref a) H') ∨ (NotNum K H C x ∧ Rz H E BR [("part", .str part)])
def spRO (K : PySem.W.Frag) (C BR : Addr) : Sp := fun vs H Q E => ∃ x part, vs = [x, .str part] ∧ AsR K C BR x part H Q E
section
variable {P : Program} {w : World} {K : PySem.W.Frag} {mg : Str → Option Value} {base : Heap} {C BR : Addr}
theorem scRO : FnScope ["value", "part"] ["value", "part"] (defScope (top 27)) := ⟨rfl, rfl, rfl, by decide +kernel, rfl, by decide +kernel, by decide +kernel⟩
theorem ok_ratioOf {f : Addr} {fd : FuncData} (F : FnP K "_ratio_of" (top 27) f fd) (R : RatK P w K mg base C BR) : FnOk P w K mg base (L2.CX P w) 5 f fd ["value", "part"] (spRO K C BR) := by
  obtain ⟨fI, fdI, GI, bI, kI, gI⟩ := R.int
  refine F.ok scRO (fun vs H Q E h => ?_) (fun cdv A outer s H vs Q E hr h => ?_)
  · obtain ⟨x, part, rfl, _⟩ := h
    rfl
  · obtain ⟨x, part, rfl, h⟩ := h
    have hr4 : Room 4 _ := hr
    have hr2 : Room 2 _ := hr4.mono (by decide)
    have hr1 : Room 1 _ := hr4.mono (by decide)
    refine ⟨_, pss_cons (ps_if (pt_val (pe_callB call_isi (by rfl) R.bi (by decide +kernel) (pa_cons (pv 0) (pa_cons (pe_glob (v := .ref _) rfl R.g rfl) pa_nil)))) (pss_one (ps_ret (pv 0))) pss_nil)
      (pss_cons (ps_if (pt_val (pe_call GI hr1 rfl gI kI bI .nil pass0 (pa_cons (pv 0) pa_nil))) (pss_one (ps_ret (pe_rat1 R hr4 (E := E0) passL (by rfl) (pa_cons (pv 0) pa_nil)))) pss_nil)
      (pss_one (ps_raiseN rfl R.M hr2 (takes_of rfl rfl rfl rfl) (by rfl) (pa_cons (pv 1) pa_nil)))), ?_⟩
    rcases h with ⟨p, q, ⟨a, rfl, ha⟩ | ⟨rfl, rfl, hp⟩, k⟩ | ⟨⟨⟨t, ty, kt⟩, hi⟩, rz⟩
    · refine ⟨_, rfl, _, _, _, _, _, rfl, .own C, ha.ty R.T R.I, R.I.cc, _, rfl, iteT ⟨_, rfl, k a H (Same.refl H) ha⟩⟩
    · refine ⟨_, rfl, _, _, _, _, _, rfl, .own C, .base (.int p), R.I.ic, _, rfl, iteF ?_⟩
      refine ⟨_, rfl, _, _, rfl, intIs_int p, _, rfl, iteT ?_⟩
      refine ⟨_, rfl, _, rfl, .inl ⟨p, 1, rfl, rfl, by decide, hp, by decide +kernel, fun a H' s ra => k a H' s ?_⟩⟩
      obtain ⟨e1, e2⟩ := low_self (p := p) (q := 1) (by decide) (Int.gcd_one ..)
      rw [e1, e2] at ra
      exact ra
    · refine ⟨_, rfl, _, _, _, _, _, rfl, .own C, ty, kt, _, rfl, iteF ?_⟩
      refine ⟨_, rfl, _, _, rfl, hi, _, rfl, iteF ?_⟩
      exact ⟨_, rfl, raiseN R.M rfl (by decide) rz⟩
end
end K05
namespace K05
open PySem PySem.Spec PyProof.Rows L2 RatM
/-- what a callee raises goes on through the frame -/
theorem passE {X : Cx} {E : XK} (tk : Takes X fun c d _ H => E c d H) : Passes (L2.CX X.prog X.w) X E := fun _ _ _ _ e s' I c => tk e s' (XE.of_call I (fun _ _ _ h => h) c)
abbrev Sz (p : Int) : Prop := p.natAbs < 2 ^ 1900
theorem sz_mul {p q : Int} (hp : Sz p) (hq : Sz q) : CMulW p q := wide_mul hp hq (by decide) (by decide) (by decide)
theorem sz_prod {p q : Int} (hp : Sz p) (hq : Sz q) : (p * q).natAbs < 2 ^ 3800 := wide_lt hp hq
theorem sz_big {p : Int} (h : p.natAbs < 2 ^ 3800) : p.natAbs < 2 ^ 4000 := Nat.lt_of_lt_of_le h (Nat.pow_le_pow_right (by decide) (by decide))
theorem sz_two {m : Nat} (h : m < 2 ^ 3800 + 2 ^ 3800) : m < 2 ^ 4000 := by
  have e : (2 : Nat) ^ 3800 + 2 ^ 3800 ≤ 2 ^ 4000 := by
    have z : (2 : Nat) ^ 3801 ≤ 2 ^ 4000 := Nat.pow_le_pow_right (by decide) (by decide)
    have y : (2 : Nat) ^ 3801 = 2 ^ 3800 * 2 := Nat.pow_succ ..
    omega
  omega
theorem sz_add {p q : Int} (hp : p.natAbs < 2 ^ 3800) (hq : q.natAbs < 2 ^ 3800) : (p + q).natAbs < 2 ^ 4000 := by
  have h := Int.natAbs_add_le p q
  exact sz_two (by omega)
theorem sz_sub {p q : Int} (hp : p.natAbs < 2 ^ 3800) (hq : q.natAbs < 2 ^ 3800) : (p - q).natAbs < 2 ^ 4000 := by
  have h := Int.natAbs_sub_le p q
  exact sz_two (by omega)
/-- an operator's own method: g tells the top from both pairs -/
def spArith (K : PySem.W.Frag) (C BR : Addr) (g : Int → Int → Int → Int → Int) : Sp := fun vs H Q E => ∃ (a : Addr) (y : V) (p q : Int), vs = [.ref a, y] ∧ RatAt H a C p q ∧ Sz p ∧ Sz q ∧ q ≠ 0 ∧
  ((∃ p' q' : Int, NumAt H C y p' q' ∧ Sz p' ∧ Sz q' ∧ q' ≠ 0 ∧ ∀ a' H', Same H H' → RatAt H' a' C (lowT (g p q p' q') (q * q')) (lowB (g p q p' q') (q * q')) → Q (.ref a') H') ∨ (NotNum K H C y ∧ Rz H E BR [("part", .str "other")]))
section
variable {P : Program} {w : World} {K : PySem.W.Frag} {mg : Str → Option Value} {base : Heap} {C BR : Addr}
/-- the functions that the methods call -/
structure RatF (P : Program) (w : World) (K : PySem.W.Frag) (mg : Str → Option Value) (base : Heap) (C BR : Addr) : Prop extends RatK P w K mg base C BR where
  ro : ∃ (f : Addr) (fd : FuncData), FnOk P w K mg base (L2.CX P w) 5 f fd ["value", "part"] (spRO K C BR) ∧ Binds K fd ["value", "part"] [] ∧ PySem.W.keepIn K (.ref f) = true ∧ mg "_ratio_of" = some (.ref f)
theorem scAdd : FnScope ["self", "other", "right"] ["self", "other"] (defScope (ratM 6)) := ⟨rfl, rfl, rfl, by decide +kernel, rfl, by decide +kernel, by decide +kernel⟩
theorem ok_add {f : Addr} {fd : FuncData} (F : MtP K "__add__" "Ratio.__add__" (ratM 6) f fd) (R : RatF P w K mg base C BR) : FnOk P w K mg base (L2.CX P w) 6 f fd ["self", "other"] (spArith K C BR fun p q p' q' => p * q' + p' * q) := by
  obtain ⟨fO, fdO, GO, bO, kO, gO⟩ := R.ro
  refine F.ok scAdd (fun vs H Q E h => ?_) (fun cdv A outer s H vs Q E hr h => ?_)
  · obtain ⟨a, y, p, q, rfl, _⟩ := h
    rfl
  · obtain ⟨a, y, p, q, rfl, ha, sp, sq, hq, h⟩ := h
    have hr5 : Room 5 _ := hr
    have hr4 : Room 4 _ := hr5.mono (by decide)
    have T := R.T
    have nt := T.no "top" (by simp)
    have nb := T.no "bottom" (by simp)
    refine ⟨_, pss_cons (ps_set (i := 2) scAdd.nd rfl (.inl rfl) (pe_call GO hr5 rfl gO kO bO .nil (passE (takes_of rfl rfl rfl rfl)) (pa_cons (pv 1) (pa_cons pe_str pa_nil))))
      (pss_one (ps_ret (pe_rat2 R.toRatK hr4 (E := E0) passL (by rfl) (pa_cons (pe_op op_add (pe_op op_mulW (pe_fld (pv 0) rfl) (pe_fld (pv 2) rfl)) (pe_op op_mulW (pe_fld (pv 2) rfl) (pe_fld (pv 0) rfl))) (pa_cons (pe_op op_mulW (pe_fld (pv 0) rfl) (pe_fld (pv 2) rfl)) pa_nil))))), ?_⟩
    rcases h with ⟨p', q', hn, sp', sq', hq', k⟩ | ⟨hn, rz⟩
    · refine ⟨_, rfl, _, _, rfl, .inl ⟨p', q', hn, fun b H1 s1 hb => ?_⟩⟩
      obtain ⟨dx, ea⟩ := ha.same s1
      obtain ⟨dx', eb⟩ := hb
      refine ⟨_, rfl, a, C, dx, _, _, rfl, ea, T.cls, nt, rfl, _, rfl, b, C, dx', _, _, rfl, eb, T.cls, nb, rfl, _, _, rfl, rfl, sz_mul sp sq', ?_⟩
      refine ⟨_, rfl, b, C, dx', _, _, rfl, eb, T.cls, nt, rfl, _, rfl, a, C, dx, _, _, rfl, ea, T.cls, nb, rfl, _, _, rfl, rfl, sz_mul sp' sq, _, _, rfl, rfl, ?_⟩
      refine ⟨_, rfl, a, C, dx, _, _, rfl, ea, T.cls, nb, rfl, _, rfl, b, C, dx', _, _, rfl, eb, T.cls, nb, rfl, _, _, rfl, rfl, sz_mul sq sq', ?_⟩
      exact ⟨_, _, rfl, .inl ⟨_, _, rfl, rfl, Int.mul_ne_zero hq hq', sz_add (sz_prod sp sq') (sz_prod sp' sq), sz_big (sz_prod sq sq'), fun a' H' s ra => k a' H' (s1.trans s) ra⟩⟩
    · exact ⟨_, rfl, _, _, rfl, .inr ⟨hn, rz⟩⟩
end
end K05
namespace K05
open PySem PySem.Spec PyProof.Rows L2 RatM
section
variable {P : Program} {w : World} {K : PySem.W.Frag} {mg : Str → Option Value} {base : Heap} {C BR : Addr}
theorem scSub : FnScope ["self", "other", "right"] ["self", "other"] (defScope (ratM 7)) := ⟨rfl, rfl, rfl, by decide +kernel, rfl, by decide +kernel, by decide +kernel⟩
theorem ok_sub {f : Addr} {fd : FuncData} (F : MtP K "__sub__" "Ratio.__sub__" (ratM 7) f fd) (R : RatF P w K mg base C BR) : FnOk P w K mg base (L2.CX P w) 6 f fd ["self", "other"] (spArith K C BR fun p q p' q' => p * q' - p' * q) := by
  obtain ⟨fO, fdO, GO, bO, kO, gO⟩ := R.ro
  refine F.ok scSub (fun vs H Q E h => ?_) (fun cdv A outer s H vs Q E hr h => ?_)
  · obtain ⟨a, y, p, q, rfl, _⟩ := h
    rfl
  · obtain ⟨a, y, p, q, rfl, ha, sp, sq, hq, h⟩ := h
    have hr5 : Room 5 _ := hr
    have hr4 : Room 4 _ := hr5.mono (by decide)
    have T := R.T
    have nt := T.no "top" (by simp)
    have nb := T.no "bottom" (by simp)
    refine ⟨_, pss_cons (ps_set (i := 2) scSub.nd rfl (.inl rfl) (pe_call GO hr5 rfl gO kO bO .nil (passE (takes_of rfl rfl rfl rfl)) (pa_cons (pv 1) (pa_cons pe_str pa_nil))))
      (pss_one (ps_ret (pe_rat2 R.toRatK hr4 (E := E0) passL (by rfl) (pa_cons (pe_op op_sub (pe_op op_mulW (pe_fld (pv 0) rfl) (pe_fld (pv 2) rfl)) (pe_op op_mulW (pe_fld (pv 2) rfl) (pe_fld (pv 0) rfl))) (pa_cons (pe_op op_mulW (pe_fld (pv 0) rfl) (pe_fld (pv 2) rfl)) pa_nil))))), ?_⟩
    rcases h with ⟨p', q', hn, sp', sq', hq', k⟩ | ⟨hn, rz⟩
    · refine ⟨_, rfl, _, _, rfl, .inl ⟨p', q', hn, fun b H1 s1 hb => ?_⟩⟩
      obtain ⟨dx, ea⟩ := ha.same s1
      obtain ⟨dx', eb⟩ := hb
      refine ⟨_, rfl, a, C, dx, _, _, rfl, ea, T.cls, nt, rfl, _, rfl, b, C, dx', _, _, rfl, eb, T.cls, nb, rfl, _, _, rfl, rfl, sz_mul sp sq', ?_⟩
      refine ⟨_, rfl, b, C, dx', _, _, rfl, eb, T.cls, nt, rfl, _, rfl, a, C, dx, _, _, rfl, ea, T.cls, nb, rfl, _, _, rfl, rfl, sz_mul sp' sq, _, _, rfl, rfl, ?_⟩
      refine ⟨_, rfl, a, C, dx, _, _, rfl, ea, T.cls, nb, rfl, _, rfl, b, C, dx', _, _, rfl, eb, T.cls, nb, rfl, _, _, rfl, rfl, sz_mul sq sq', ?_⟩
      exact ⟨_, _, rfl, .inl ⟨_, _, rfl, rfl, Int.mul_ne_zero hq hq', sz_sub (sz_prod sp sq') (sz_prod sp' sq), sz_big (sz_prod sq sq'), fun a' H' s ra => k a' H' (s1.trans s) ra⟩⟩
    · exact ⟨_, rfl, _, _, rfl, .inr ⟨hn, rz⟩⟩
theorem scMul : FnScope ["self", "other", "right"] ["self", "other"] (defScope (ratM 8)) := ⟨rfl, rfl, rfl, by decide +kernel, rfl, by decide +kernel, by decide +kernel⟩
theorem ok_mul {f : Addr} {fd : FuncData} (F : MtP K "__mul__" "Ratio.__mul__" (ratM 8) f fd) (R : RatF P w K mg base C BR) : FnOk P w K mg base (L2.CX P w) 6 f fd ["self", "other"] (spArith K C BR fun p q p' q' => p * p') := by
  obtain ⟨fO, fdO, GO, bO, kO, gO⟩ := R.ro
  refine F.ok scMul (fun vs H Q E h => ?_) (fun cdv A outer s H vs Q E hr h => ?_)
  · obtain ⟨a, y, p, q, rfl, _⟩ := h
    rfl
  · obtain ⟨a, y, p, q, rfl, ha, sp, sq, hq, h⟩ := h
    have hr5 : Room 5 _ := hr
    have hr4 : Room 4 _ := hr5.mono (by decide)
    have T := R.T
    have nt := T.no "top" (by simp)
    have nb := T.no "bottom" (by simp)
    refine ⟨_, pss_cons (ps_set (i := 2) scMul.nd rfl (.inl rfl) (pe_call GO hr5 rfl gO kO bO .nil (passE (takes_of rfl rfl rfl rfl)) (pa_cons (pv 1) (pa_cons pe_str pa_nil))))
      (pss_one (ps_ret (pe_rat2 R.toRatK hr4 (E := E0) passL (by rfl) (pa_cons (pe_op op_mulW (pe_fld (pv 0) rfl) (pe_fld (pv 2) rfl)) (pa_cons (pe_op op_mulW (pe_fld (pv 0) rfl) (pe_fld (pv 2) rfl)) pa_nil))))), ?_⟩
    rcases h with ⟨p', q', hn, sp', sq', hq', k⟩ | ⟨hn, rz⟩
    · refine ⟨_, rfl, _, _, rfl, .inl ⟨p', q', hn, fun b H1 s1 hb => ?_⟩⟩
      obtain ⟨dx, ea⟩ := ha.same s1
      obtain ⟨dx', eb⟩ := hb
      refine ⟨_, rfl, a, C, dx, _, _, rfl, ea, T.cls, nt, rfl, _, rfl, b, C, dx', _, _, rfl, eb, T.cls, nt, rfl, _, _, rfl, rfl, sz_mul sp sp', ?_⟩
      refine ⟨_, rfl, a, C, dx, _, _, rfl, ea, T.cls, nb, rfl, _, rfl, b, C, dx', _, _, rfl, eb, T.cls, nb, rfl, _, _, rfl, rfl, sz_mul sq sq', ?_⟩
      exact ⟨_, _, rfl, .inl ⟨_, _, rfl, rfl, Int.mul_ne_zero hq hq', sz_big (sz_prod sp sp'), sz_big (sz_prod sq sq'), fun a' H' s ra => k a' H' (s1.trans s) ra⟩⟩
    · exact ⟨_, rfl, _, _, rfl, .inr ⟨hn, rz⟩⟩
/-- -r, abs(r) -/
def spSelf (K : PySem.W.Frag) (C : Addr) (g : Int → Int) : Sp := fun vs H Q _ => ∃ (a : Addr) (p q : Int), vs = [.ref a] ∧ RatAt H a C p q ∧ Sz p ∧ Sz q ∧ q ≠ 0 ∧ ∀ a' H', Same H H' → RatAt H' a' C (lowT (g p) q) (lowB (g p) q) → Q (.ref a') H'
theorem sz_up {p : Int} (h : Sz p) : p.natAbs < 2 ^ 4000 := Nat.lt_of_lt_of_le h (Nat.pow_le_pow_right (by decide) (by decide))
theorem scNeg : FnScope ["self"] ["self"] (defScope (ratM 9)) := ⟨rfl, rfl, rfl, by decide +kernel, rfl, by decide +kernel, by decide +kernel⟩
theorem ok_neg {f : Addr} {fd : FuncData} (F : MtP K "__neg__" "Ratio.__neg__" (ratM 9) f fd) (R : RatF P w K mg base C BR) : FnOk P w K mg base (L2.CX P w) 5 f fd ["self"] (spSelf K C fun p => -p) := by
  refine F.ok scNeg (fun vs H Q E h => ?_) (fun cdv A outer s H vs Q E hr h => ?_)
  · obtain ⟨a, p, q, rfl, _⟩ := h
    rfl
  · obtain ⟨a, p, q, rfl, ⟨dx, ea⟩, sp, sq, hq, k⟩ := h
    have hr4 : Room 4 _ := hr
    have T := R.T
    refine ⟨_, pss_one (ps_ret (pe_rat2 R.toRatK hr4 (E := E0) passL (by rfl) (pa_cons (pe_un un_neg (pe_fld (pv 0) rfl)) (pa_cons (pe_fld (pv 0) rfl) pa_nil)))), ?_⟩
    refine ⟨_, rfl, a, C, dx, _, _, rfl, ea, T.cls, T.no "top" (by simp), rfl, _, rfl, _, rfl, a, C, dx, _, _, rfl, ea, T.cls, T.no "bottom" (by simp), rfl, ?_⟩
    exact ⟨_, _, rfl, .inl ⟨_, _, rfl, rfl, hq, by rw [Int.natAbs_neg]; exact sz_up sp, sz_up sq, k⟩⟩
theorem scAbs : FnScope ["self"] ["self"] (defScope (ratM 10)) := ⟨rfl, rfl, rfl, by decide +kernel, rfl, by decide +kernel, by decide +kernel⟩
theorem ok_abs {f : Addr} {fd : FuncData} (F : MtP K "__abs__" "Ratio.__abs__" (ratM 10) f fd) (R : RatF P w K mg base C BR) (ba : mg "abs" = none) : FnOk P w K mg base (L2.CX P w) 5 f fd ["self"] (spSelf K C fun p => if p < 0 then -p else p) := by
  refine F.ok scAbs (fun vs H Q E h => ?_) (fun cdv A outer s H vs Q E hr h => ?_)
  · obtain ⟨a, p, q, rfl, _⟩ := h
    rfl
  · obtain ⟨a, p, q, rfl, ⟨dx, ea⟩, sp, sq, hq, k⟩ := h
    have hr4 : Room 4 _ := hr
    have T := R.T
    refine ⟨_, pss_one (ps_ret (pe_rat2 R.toRatK hr4 (E := E0) passL (by rfl) (pa_cons (pe_callB call_abs (by rfl) ba (by decide +kernel) (pa_cons (pe_fld (pv 0) rfl) pa_nil)) (pa_cons (pe_fld (pv 0) rfl) pa_nil)))), ?_⟩
    refine ⟨_, rfl, a, C, dx, _, _, rfl, ea, T.cls, T.no "top" (by simp), rfl, _, rfl, _, rfl, a, C, dx, _, _, rfl, ea, T.cls, T.no "bottom" (by simp), rfl, ?_⟩
    exact ⟨_, _, rfl, .inl ⟨_, _, rfl, rfl, hq, by split; (· rw [Int.natAbs_neg]; exact sz_up sp); exact sz_up sp, sz_up sq, k⟩⟩
end
end K05
namespace K05
open PySem PySem.Spec PyProof.Rows L2 RatM
theorem decI (i j : Int) : decide (V.int i = V.int j) = decide (i = j) := by
  by_cases h : i = j
  · rw [decide_eq_true h, decide_eq_true (congrArg V.int h)]
  · rw [decide_eq_false h, decide_eq_false fun z => h (V.int.inj z)]
theorem empty_app (x : Str) : Str.empty ++ x = x := by
  obtain ⟨c⟩ := x
  show (⟨#[] ++ c⟩ : Str) = ⟨c⟩
  simp
/-- r == y -/
def spSame (K : PySem.W.Frag) (C : Addr) : Sp := fun vs H Q _ => ∃ (a : Addr) (y : V) (p q : Int), vs = [.ref a, y] ∧ RatAt H a C p q ∧
  ((∃ b p' q', y = .ref b ∧ RatAt H b C p' q' ∧ Q (.bl (decide (p = p') && decide (q = q'))) H) ∨ (∃ i, y = .int i ∧ Q (.bl (decide (q = 1) && decide (p = i))) H) ∨ (NotNum K H C y ∧ Q (.bl false) H))
/-- a ratio's text -/
def textR (p q : Int) : Str := if q = 1 then (toString p : String) else (Str.ofString (toString p) ++ "/") ++ Str.ofString (toString q)
def spText (K : PySem.W.Frag) (C : Addr) : Sp := fun vs H Q _ => ∃ (a : Addr) (p q : Int), vs = [.ref a] ∧ RatAt H a C p q ∧ Sz p ∧ Sz q ∧ Q (.str (textR p q)) H
def spTruth (K : PySem.W.Frag) (C : Addr) : Sp := fun vs H Q _ => ∃ (a : Addr) (p q : Int), vs = [.ref a] ∧ RatAt H a C p q ∧ Q (.bl (decide (p ≠ 0))) H
section
variable {P : Program} {w : World} {K : PySem.W.Frag} {mg : Str → Option Value} {base : Heap} {C BR : Addr}
theorem scSa : FnScope ["ratio", "other"] ["ratio", "other"] (defScope (top 28)) := ⟨rfl, rfl, rfl, by decide +kernel, rfl, by decide +kernel, by decide +kernel⟩
theorem ok_isSame {f : Addr} {fd : FuncData} (F : FnP K "_is_same" (top 28) f fd) (R : RatK P w K mg base C BR) : FnOk P w K mg base CX0 2 f fd ["ratio", "other"] (spSame K C) := by
  obtain ⟨fI, fdI, GI, bI, kI, gI⟩ := R.int
  refine F.ok scSa (fun vs H Q E h => ?_) (fun cdv A outer s H vs Q E hr h => ?_)
  · obtain ⟨a, y, p, q, rfl, _⟩ := h
    rfl
  · obtain ⟨a, y, p, q, rfl, ⟨dx, ea⟩, h⟩ := h
    have hr1 : Room 1 _ := hr
    have T := R.T
    have nt := T.no "top" (by simp)
    have nb := T.no "bottom" (by simp)
    have ni := T.no "is_whole" (by simp)
    refine ⟨_, PSs.nox (pss_cons (ps_if (pt_val (pe_callB call_isi (by rfl) R.bi (by decide +kernel) (pa_cons (pv 1) (pa_cons (pe_glob (v := .ref _) rfl R.g rfl) pa_nil))))
        (pss_one (ps_ret (pe_and (pe_cmpR op_eq (pe_fld (pv 0) rfl) (pe_fld (pv 1) rfl) (nomark _)) (pe_one (pe_cmpR op_eq (pe_fld (pv 0) rfl) (pe_fld (pv 1) rfl) (nomark _)))))) pss_nil)
      (pss_one (ps_ret (pe_and (pe_call GI hr1 rfl gI kI bI .nil pass0 (pa_cons (pv 1) pa_nil)) (pe_and (pe_fld (pv 0) rfl) (pe_one (pe_cmpR op_eq (pe_fld (pv 0) rfl) (pv 1) (nomark _)))))))), ?_⟩
    rcases h with ⟨b, p', q', rfl, hb, k⟩ | ⟨i, rfl, k⟩ | ⟨⟨⟨t, ty, kt⟩, hi⟩, k⟩
    · have tb := hb.ty R.T R.I
      obtain ⟨dx', eb⟩ := hb
      refine ⟨_, rfl, _, _, _, _, _, rfl, .own C, tb, R.I.cc, _, rfl, iteT ?_⟩
      refine ⟨_, rfl, a, C, dx, _, _, rfl, ea, T.cls, nt, rfl, _, rfl, b, C, dx', _, _, rfl, eb, T.cls, nt, rfl, rfl, decide (p = p'), congrArg V.bl (decI ..), ?_⟩
      by_cases e : p = p'
      · rw [decide_eq_true e] at k ⊢
        refine iteT ⟨_, rfl, a, C, dx, _, _, rfl, ea, T.cls, nb, rfl, _, rfl, b, C, dx', _, _, rfl, eb, T.cls, nb, rfl, rfl, ?_⟩
        show Q (.bl (decide (V.int q = V.int q'))) H
        rw [decI]
        exact k
      · rw [decide_eq_false e] at k ⊢
        exact iteF k
    · refine ⟨_, rfl, _, _, _, _, _, rfl, .own C, .base (.int i), R.I.ic, _, rfl, iteF ?_⟩
      refine ⟨_, rfl, _, _, rfl, intIs_int i, _, rfl, iteT ⟨_, rfl, a, C, dx, _, _, rfl, ea, T.cls, ni, rfl, decide (q = 1), congrArg V.bl (decI ..), ?_⟩⟩
      by_cases e : q = 1
      · rw [decide_eq_true e] at k ⊢
        refine iteT ⟨_, rfl, a, C, dx, _, _, rfl, ea, T.cls, nt, rfl, _, rfl, rfl, ?_⟩
        show Q (.bl (decide (V.int p = V.int i))) H
        rw [decI]
        exact k
      · rw [decide_eq_false e] at k ⊢
        exact iteF k
    · refine ⟨_, rfl, _, _, _, _, _, rfl, .own C, ty, kt, _, rfl, iteF ?_⟩
      exact ⟨_, rfl, _, _, rfl, hi, _, rfl, iteF k⟩
theorem scEq : FnScope ["self", "other"] ["self", "other"] (defScope (ratM 12)) := ⟨rfl, rfl, rfl, by decide +kernel, rfl, by decide +kernel, by decide +kernel⟩
theorem ok_eq {f fS : Addr} {fd fdS : FuncData} (F : MtP K "__eq__" "Ratio.__eq__" (ratM 12) f fd) (R : RatK P w K mg base C BR) (FS : FnP K "_is_same" (top 28) fS fdS) (gS : mg "_is_same" = some (.ref fS)) : FnOk P w K mg base CX0 3 f fd ["self", "other"] (spSame K C) := by
  have GS : FnOk P w K mg base CX0 2 fS fdS ["ratio", "other"] (spSame K C) := ok_isSame FS R
  have bS : Binds K fdS ["ratio", "other"] [] := FS.bindsN fun _ _ _ _ _ _ us hl => match us, hl with | [_, _], _ => rfl
  refine F.ok scEq (fun vs H Q E h => ?_) (fun cdv A outer s H vs Q E hr h => ?_)
  · obtain ⟨a, y, p, q, rfl, _⟩ := h
    rfl
  · obtain ⟨a, y, p, q, rfl, h⟩ := h
    have hr2 : Room 2 _ := hr
    exact ⟨_, PSs.nox (pss_one (ps_ret (pe_call GS hr2 rfl gS FS.kp bS .nil pass0 (pa_cons (pv 0) (pa_cons (pv 1) pa_nil))))), _, rfl, _, rfl, a, y, p, q, rfl, h⟩
theorem sign_ne (p : Int) : (b2i (decide (0 < p)) - b2i (decide (p < 0)) != 0) = decide (p ≠ 0) := by
  unfold b2i
  by_cases h1 : 0 < p
  · have h2 : ¬ p < 0 := by omega
    have h3 : p ≠ 0 := by omega
    simp [h1, h2, h3]
  · by_cases h2 : p < 0
    · have h3 : p ≠ 0 := by omega
      simp [h1, h2, h3]
    · have h3 : p = 0 := by omega
      simp [h3]
theorem scBo : FnScope ["self"] ["self"] (defScope (ratM 11)) := ⟨rfl, rfl, rfl, by decide +kernel, rfl, by decide +kernel, by decide +kernel⟩
theorem ok_bool {f : Addr} {fd : FuncData} (F : MtP K "__bool__" "Ratio.__bool__" (ratM 11) f fd) (T : RatC K C) (bb : mg "bool" = none) : FnOk P w K mg base CX0 1 f fd ["self"] (spTruth K C) := by
  refine F.ok scBo (fun vs H Q E h => ?_) (fun cdv A outer s H vs Q E hr h => ?_)
  · obtain ⟨a, p, q, rfl, _⟩ := h
    rfl
  · obtain ⟨a, p, q, rfl, ⟨dx, ea⟩, k⟩ := h
    refine ⟨_, PSs.nox (pss_one (ps_ret (pe_callTy call_bool1 (by rfl) bb PyProof.Rows.boot_bool (pa_cons (pe_fld (pv 0) rfl) pa_nil)))), ?_⟩
    refine ⟨_, rfl, a, C, dx, _, _, rfl, ea, T.cls, T.no "sign" (by simp), rfl, .inl ⟨_, rfl, ?_⟩⟩
    rw [sign_ne]
    exact k
theorem sz_log {p : Int} (h : Sz p) : p.natAbs.log2 < 1920 := Nat.lt_of_lt_of_le (PySem.Flt.log2_lt_of (by decide) h) (by decide)
theorem sz_len {p : Int} (h : Sz p) : (Str.ofString (toString p)).length ≤ 601 := by
  rw [PySem.ofString_length]
  exact int_text_length_le10 (k := 600) (by decide) (Nat.lt_trans h (by decide +kernel))
theorem scWr : FnScope ["ratio"] ["ratio"] (defScope (top 29)) := ⟨rfl, rfl, rfl, by decide +kernel, rfl, by decide +kernel, by decide +kernel⟩
theorem ok_written {f : Addr} {fd : FuncData} (F : FnP K "_written" (top 29) f fd) (T : RatC K C) : FnOk P w K mg base CX0 1 f fd ["ratio"] (spText K C) := by
  refine F.ok scWr (fun vs H Q E h => ?_) (fun cdv A outer s H vs Q E hr h => ?_)
  · obtain ⟨a, p, q, rfl, _⟩ := h
    rfl
  · obtain ⟨a, p, q, rfl, ⟨dx, ea⟩, sp, sq, k⟩ := h
    have nt := T.no "top" (by simp)
    have nb := T.no "bottom" (by simp)
    have ni := T.no "is_whole" (by simp)
    refine ⟨_, PSs.nox (pss_one (ps_ret (pe_ifExp (pt_val (pe_fld (pv 0) rfl)) (pe_joined1 (pe_fmt (pe_fld (pv 0) rfl))) (pe_joined (.cons (pe_fmt (pe_fld (pv 0) rfl)) (.cons pe_str (.cons (pe_fmt (pe_fld (pv 0) rfl)) .nil))))))), ?_⟩
    refine ⟨_, rfl, a, C, dx, _, _, rfl, ea, T.cls, ni, rfl, decide (q = 1), congrArg V.bl (decI ..), ?_⟩
    by_cases e : q = 1
    · rw [decide_eq_true e]
      refine iteT ⟨_, rfl, a, C, dx, _, _, rfl, ea, T.cls, nt, rfl, .inr ⟨p, rfl, sz_log sp, ?_⟩⟩
      have z : textR p q = (toString p : String) := if_pos e
      rw [← z]
      exact k
    · rw [decide_eq_false e]
      refine iteF ?_
      have z : textR p q = (Str.ofString (toString p) ++ "/") ++ Str.ofString (toString q) := if_neg e
      rw [z] at k
      have l1 := sz_len sp
      have l2 := sz_len sq
      have l0 : (Str.empty : Str).length = 0 := rfl
      have ls : (Str.ofString "/").length = 1 := rfl
      refine ⟨_, rfl, a, C, dx, _, _, rfl, ea, T.cls, nt, rfl, .inr ⟨p, rfl, sz_log sp, _, rfl, ?_, _, rfl, ?_, ?_⟩⟩
      · rw [strLen_append, sizeLine_eq]; omega
      · rw [strLen_append, strLen_append, sizeLine_eq]; omega
      · refine ⟨_, rfl, a, C, dx, _, _, rfl, ea, T.cls, nb, rfl, .inr ⟨q, rfl, sz_log sq, _, rfl, ?_, ?_⟩⟩
        · rw [strLen_append, strLen_append, strLen_append, sizeLine_eq]; omega
        · show Q (.str (((Str.empty ++ Str.ofString (toString p)) ++ Str.ofString "/") ++ Str.ofString (toString q))) H
          rw [empty_app]
          exact k
theorem scSt : FnScope ["self"] ["self"] (defScope (ratM 13)) := ⟨rfl, rfl, rfl, by decide +kernel, rfl, by decide +kernel, by decide +kernel⟩
theorem ok_str {f fW : Addr} {fd fdW : FuncData} (F : MtP K "__str__" "Ratio.__str__" (ratM 13) f fd) (T : RatC K C) (FW : FnP K "_written" (top 29) fW fdW) (gW : mg "written_ratios" = some (.ref fW)) (bs : mg "str" = none) : FnOk P w K mg base CX0 2 f fd ["self"] (spText K C) := by
  have GW : FnOk P w K mg base CX0 1 fW fdW ["ratio"] (spText K C) := ok_written FW T
  have bW : Binds K fdW ["ratio"] [] := FW.bindsN fun _ _ _ _ _ _ us hl => match us, hl with | [_], _ => rfl
  refine F.ok scSt (fun vs H Q E h => ?_) (fun cdv A outer s H vs Q E hr h => ?_)
  · obtain ⟨a, p, q, rfl, _⟩ := h
    rfl
  · obtain ⟨a, p, q, rfl, ha, sp, sq, k⟩ := h
    have hr1 : Room 1 _ := hr
    exact ⟨_, PSs.nox (pss_one (ps_ret (pe_callTy SkE.call_str_str (by rfl) bs PyProof.Rows.boot_str (pa_cons (pe_call GW hr1 rfl gW FW.kp bW .nil pass0 (pa_cons (pv 0) pa_nil)) pa_nil)))), _, rfl, a, p, q, rfl, ha, sp, sq, _, rfl, k⟩
theorem scRe : FnScope ["self"] ["self"] (defScope (ratM 14)) := ⟨rfl, rfl, rfl, by decide +kernel, rfl, by decide +kernel, by decide +kernel⟩
theorem ok_repr {f fW : Addr} {fd fdW : FuncData} (F : MtP K "__repr__" "Ratio.__repr__" (ratM 14) f fd) (T : RatC K C) (FW : FnP K "_written" (top 29) fW fdW) (gW : mg "written_ratios" = some (.ref fW)) (bs : mg "str" = none) : FnOk P w K mg base CX0 2 f fd ["self"] (spText K C) := by
  have GW : FnOk P w K mg base CX0 1 fW fdW ["ratio"] (spText K C) := ok_written FW T
  have bW : Binds K fdW ["ratio"] [] := FW.bindsN fun _ _ _ _ _ _ us hl => match us, hl with | [_], _ => rfl
  refine F.ok scRe (fun vs H Q E h => ?_) (fun cdv A outer s H vs Q E hr h => ?_)
  · obtain ⟨a, p, q, rfl, _⟩ := h
    rfl
  · obtain ⟨a, p, q, rfl, ha, sp, sq, k⟩ := h
    have hr1 : Room 1 _ := hr
    exact ⟨_, PSs.nox (pss_one (ps_ret (pe_callTy SkE.call_str_str (by rfl) bs PyProof.Rows.boot_str (pa_cons (pe_call GW hr1 rfl gW FW.kp bW .nil pass0 (pa_cons (pv 0) pa_nil)) pa_nil)))), _, rfl, a, p, q, rfl, ha, sp, sq, _, rfl, k⟩
end
end K05
namespace RatM
theorem lowT_pos {t b : Int} (hb : 0 < b) : decide (0 < lowT t b) = decide (0 < t) ∧ decide (lowT t b < 0) = decide (t < 0) := by
  have m := lowT_mul (t := t) (show b ≠ 0 by omega)
  have d : 0 < lowD t b := by
    unfold lowD
    rw [if_pos hb]
    exact gcd_pos (by omega)
  refine ⟨decide_eq_decide.mpr ⟨fun h => ?_, fun h => ?_⟩, decide_eq_decide.mpr ⟨fun h => ?_, fun h => ?_⟩⟩
  · rw [← m]; exact Int.mul_pos d h
  · rw [← m] at h; exact Int.pos_of_mul_pos_right h d
  · have z : 0 < lowD t b * (-lowT t b) := Int.mul_pos d (by omega)
    rw [Int.mul_neg, m] at z
    omega
  · have z : 0 < lowD t b * (-lowT t b) := by rw [Int.mul_neg, m]; omega
    have y := Int.pos_of_mul_pos_right z d
    omega
end RatM
namespace K05
open PySem PySem.Spec PyProof.Rows L2 RatM
/-- what is neither a ratio nor an integer -/
inductive OddAt (H : Hp) : V → String → Prop where
  | non : OddAt H .non "NoneType"
  | bl (b : Bool) : OddAt H (.bl b) "bool"
  | str (x : Str) : OddAt H (.str x) "str"
  | lst {a : Addr} {xs : List V} (e : H a = some (.lst xs)) : OddAt H (.ref a) "list"
  | tup {a : Addr} {xs : List V} (e : H a = some (.tup xs)) : OddAt H (.ref a) "tuple"
  | dK {a : Addr} {kvs : List (Key × V)} (e : H a = some (.dK kvs)) : OddAt H (.ref a) "dict"
theorem OddAt.same {H H' : Hp} {y : V} {T : String} (h : OddAt H y T) (s : Same H H') : OddAt H' y T := by
  cases h with
  | non => exact .non
  | bl b => exact .bl b
  | str x => exact .str x
  | lst e => exact .lst (s _ _ e)
  | tup e => exact .tup (s _ _ e)
  | dK e => exact .dK (s _ _ e)
def oddTypes : List String := ["NoneType", "bool", "str", "list", "tuple", "dict"]
theorem OddAt.mem {H : Hp} {y : V} {T : String} (h : OddAt H y T) : T ∈ oddTypes := by cases h <;> decide
theorem OddAt.ty {K : PySem.W.Frag} {H : Hp} {y : V} {T : String} (h : OddAt H y T) : TyX K H y (.type T) := by
  cases h with
  | non => exact .base .non
  | bl b => exact .base (.bl b)
  | str x => exact .base (.str x)
  | lst e => exact .base (.lst e)
  | tup e => exact .base (.tup e)
  | dK e => exact .base (.dK e)
theorem OddAt.at_ {X : Cx} {H : Hp} {y : V} {T : String} (h : OddAt H y T) : TyAt X H y (.type T) := by
  cases h with
  | non => exact ty_plain plainT_non
  | bl b => exact ty_plain (plainT_bl b)
  | str x => exact ty_plain (plainT_str x)
  | lst e => exact ty_lst e
  | tup e => exact ty_tup e
  | dK e => exact ty_dK e
theorem OddAt.notNum {K : PySem.W.Frag} {H : Hp} {C : Addr} {y : V} {T : String} (h : OddAt H y T) (k : ∀ T ∈ oddTypes, PySem.W.kitOne K (.type T) (.ref C) = some false) : NotNum K H C y := by
  refine ⟨⟨_, h.ty, k T h.mem⟩, ?_⟩
  have ty := h.ty (K := K)
  cases h with
  | non => exact intIs_non
  | bl b => exact intIs_bl b
  | str x => exact intIs_str x
  | lst e => exact ⟨_, false, false, ty, kit_ty (by decide +kernel), kit_ty (by decide +kernel), rfl⟩
  | tup e => exact ⟨_, false, false, ty, kit_ty (by decide +kernel), kit_ty (by decide +kernel), rfl⟩
  | dK e => exact ⟨_, false, false, ty, kit_ty (by decide +kernel), kit_ty (by decide +kernel), rfl⟩
def sg (x : Int) : Int := b2i (decide (0 < x)) - b2i (decide (x < 0))
/-- what an own operator asks of the class and of the types at its right -/
structure OpF (K : PySem.W.Frag) (C : Addr) (nm : String) (f : Addr) : Prop where
  m : OwnM K C (PySem.dunder nm) f
  r : PySem.W.findIn K (.ref C) (dunderR nm) = some none
  t : ∀ T ∈ "int" :: oddTypes, RightT K C nm T
structure RatG (P : Program) (w : World) (K : PySem.W.Frag) (mg : Str → Option Value) (base : Heap) (C BR : Addr) : Prop extends RatF P w K mg base C BR where
  sf : PySem.W.selfFirst K C = true
  odd : ∀ T ∈ oddTypes, PySem.W.kitOne K (.type T) (.ref C) = some false
  add : ∃ (f : Addr) (fd : FuncData), OpF K C "add" f ∧ FnOk P w K mg base (L2.CX P w) 6 f fd ["self", "other"] (spArith K C BR fun p q p' q' => p * q' + p' * q) ∧ Binds K fd ["self", "other"] []
  sub : ∃ (f : Addr) (fd : FuncData), OpF K C "sub" f ∧ FnOk P w K mg base (L2.CX P w) 6 f fd ["self", "other"] (spArith K C BR fun p q p' q' => p * q' - p' * q) ∧ Binds K fd ["self", "other"] []
  mul : ∃ (f : Addr) (fd : FuncData), OpF K C "mul" f ∧ FnOk P w K mg base (L2.CX P w) 6 f fd ["self", "other"] (spArith K C BR fun p q p' q' => p * p') ∧ Binds K fd ["self", "other"] []
/-- a value at an operator's right -/
def RightV (H : Hp) (C : Addr) (y : V) : Prop := (∃ p q, NumAt H C y p q) ∨ ∃ T, OddAt H y T
/-- r op y, with g told of both pairs: a ratio, or BadRatio('other') -/
def rRat (K : PySem.W.Frag) (C BR : Addr) (g : Int → Int → Int → Int → Int) (E : XK) : R2 := fun x y H Q => ∃ (a : Addr) (p q : Int), x = .ref a ∧ RatAt H a C p q ∧ Sz p ∧ Sz q ∧ q ≠ 0 ∧
  ((∃ p' q' : Int, NumAt H C y p' q' ∧ Sz p' ∧ Sz q' ∧ q' ≠ 0 ∧ ∀ a' H', Same H H' → RatAt H' a' C (lowT (g p q p' q') (q * q')) (lowB (g p q p' q') (q * q')) → Q (.ref a') H') ∨ (∃ T, OddAt H y T ∧ Rz H E BR [("part", .str "other")]))
theorem op_rat {X : Cx} {C BR f : Addr} {fd : FuncData} {E : XK} {op : Operator} {g : Int → Int → Int → Int → Int} (sf : PySem.W.selfFirst X.K C = true) (odd : ∀ T ∈ oddTypes, PySem.W.kitOne X.K (.type T) (.ref C) = some false) (O : OpF X.K C op.info.2 f)
    (F : FnOk X.prog X.w X.K X.mg X.base (L2.CX X.prog X.w) 6 f fd ["self", "other"] (spArith X.K C BR g)) (b : Binds X.K fd ["self", "other"] []) (hr : Room 6 X.A) (hx : Passes (L2.CX X.prog X.w) X E) : OpR X (binaryOp op) (rRat X.K C BR g E) := by
  intro pins s σ H x y v u Q I rx ry h
  obtain ⟨a, p, q, rfl, ha, sp, sq, hq, h⟩ := h
  refine op_ownAny O.m sf O.r F hr b hx pins s σ H _ y v u Q I rx ry ?_
  rcases h with ⟨p', q', hn, sp', sq', hq', k⟩ | ⟨T, ho, rz⟩
  · rcases id hn with ⟨c, rfl, hc⟩ | ⟨rfl, _, _⟩
    · exact ⟨a, _, rfl, ha.ins, ty_ins hc.ins, .inl rfl, a, _, p, q, rfl, ha, sp, sq, hq, .inl ⟨p', q', hn, sp', sq', hq', k⟩⟩
    · exact ⟨a, _, rfl, ha.ins, ty_plain (plainT_int _), .inr ⟨_, rfl, O.t _ List.mem_cons_self⟩, a, _, p, q, rfl, ha, sp, sq, hq, .inl ⟨p', q', hn, sp', sq', hq', k⟩⟩
  · exact ⟨a, _, rfl, ha.ins, ho.at_, .inr ⟨_, rfl, O.t _ (List.mem_cons_of_mem _ ho.mem)⟩, a, _, p, q, rfl, ha, sp, sq, hq, .inr ⟨ho.notNum odd, rz⟩⟩
def spCmp (K : PySem.W.Frag) (C BR : Addr) (r : Int → V) : Sp := fun vs H Q E => ∃ (a : Addr) (y : V) (p q : Int), vs = [.ref a, y] ∧ RatAt H a C p q ∧ Sz p ∧ Sz q ∧ 0 < q ∧
  ((∃ p' q' : Int, NumAt H C y p' q' ∧ Sz p' ∧ Sz q' ∧ 0 < q' ∧ ∀ H', Same H H' → Q (r (sg (p * q' - p' * q))) H') ∨ (∃ T, OddAt H y T ∧ Rz H E BR [("part", .str "other")]))
section
variable {P : Program} {w : World} {K : PySem.W.Frag} {mg : Str → Option Value} {base : Heap} {C BR : Addr}
end
end K05
namespace K05
open PySem PySem.Spec PyProof.Rows L2 RatM
theorem sg_zero (p : Int) : decide (V.int (b2i (decide (0 < p)) - b2i (decide (p < 0))) = V.int 0) = decide (p = 0) := by
  rw [decI]
  refine decide_eq_decide.mpr ?_
  unfold b2i
  by_cases h1 : 0 < p
  · have h2 : ¬ p < 0 := by omega
    simp [h1, h2]; omega
  · by_cases h2 : p < 0
    · simp [h1, h2]; omega
    · have h3 : p = 0 := by omega
      simp [h3]
structure RatHx (P : Program) (w : World) (K : PySem.W.Frag) (mg : Str → Option Value) (base : Heap) (C BR : Addr) : Prop extends RatG P w K mg base C BR where
  cmp : ∃ (f : Addr) (fd : FuncData), Meth K C "compared" f ∧ FnOk P w K mg base (L2.CX P w) 7 f fd ["self", "other"] (spCmp K C BR V.int) ∧ Binds K fd ["self", "other"] []
/-- r.over(y) -/
def spOver (K : PySem.W.Frag) (C BR : Addr) : Sp := fun vs H Q E => ∃ (a : Addr) (y : V) (p q : Int), vs = [.ref a, y] ∧ RatAt H a C p q ∧ Sz p ∧ Sz q ∧ q ≠ 0 ∧
  ((∃ p' q' : Int, NumAt H C y p' q' ∧ Sz p' ∧ Sz q' ∧ q' ≠ 0 ∧ p' ≠ 0 ∧ ∀ a' H', Same H H' → RatAt H' a' C (lowT (p * q') (q * p')) (lowB (p * q') (q * p')) → Q (.ref a') H') ∨
   (∃ q' : Int, NumAt H C y 0 q' ∧ Rz H E BR [("part", .str "other")]) ∨ (∃ T, OddAt H y T ∧ Rz H E BR [("part", .str "other")]))
/-- is_ratio(x) -/
def spIsR (K : PySem.W.Frag) (C : Addr) : Sp := fun vs H Q _ => ∃ (x : V), vs = [x] ∧ ((∃ p q, NumAt H C x p q ∧ Q (.bl true) H) ∨ (∃ T, OddAt H x T ∧ Q (.bl false) H))
section
variable {P : Program} {w : World} {K : PySem.W.Frag} {mg : Str → Option Value} {base : Heap} {C BR : Addr}
theorem lookF (p q : Int) (m : Str) (h : m ∉ ([("top" : Str), "bottom", "sign", "is_whole", "below"] : List Str)) : (ratF p q).lookup m = none := by
  simp only [List.mem_cons, List.not_mem_nil, or_false, not_or] at h
  obtain ⟨h1, h2, h3, h4, h5⟩ := h
  unfold ratF
  rw [lookup_putF, if_neg h5, lookup_putF, if_neg h4, lookup_putF, if_neg h3, lookup_putF, if_neg h2, lookup_putF, if_neg h1]
  rfl
theorem scIR : FnScope ["value"] ["value"] (defScope (top 26)) := ⟨rfl, rfl, rfl, by decide +kernel, rfl, by decide +kernel, by decide +kernel⟩
theorem ok_isRatio {f : Addr} {fd : FuncData} (F : FnP K "is_ratio" (top 26) f fd) (R : RatG P w K mg base C BR) : FnOk P w K mg base CX0 2 f fd ["value"] (spIsR K C) := by
  obtain ⟨fI, fdI, GI, bI, kI, gI⟩ := R.int
  refine F.ok scIR (fun vs H Q E h => ?_) (fun cdv A outer s H vs Q E hr h => ?_)
  · obtain ⟨x, rfl, _⟩ := h
    rfl
  · obtain ⟨x, rfl, h⟩ := h
    have hr1 : Room 1 _ := hr
    refine ⟨_, PSs.nox (pss_one (ps_ret (pe_or (pe_callB call_isi (by rfl) R.bi (by decide +kernel) (pa_cons (pv 0) (pa_cons (pe_glob (v := .ref _) rfl R.g rfl) pa_nil))) (pe_one (pe_call GI hr1 rfl gI kI bI .nil pass0 (pa_cons (pv 0) pa_nil)))))), ?_⟩
    rcases h with ⟨p, q, hn, k⟩ | ⟨T, ho, k⟩
    · rcases hn with ⟨b, rfl, hb⟩ | ⟨rfl, _, _⟩
      · exact ⟨_, rfl, _, _, _, _, _, rfl, .own C, hb.ty R.T R.I, R.I.cc, _, rfl, iteT k⟩
      · exact ⟨_, rfl, _, _, _, _, _, rfl, .own C, .base (.int p), R.I.ic, _, rfl, iteF ⟨_, rfl, _, _, rfl, intIs_int p, k⟩⟩
    · exact ⟨_, rfl, _, _, _, _, _, rfl, .own C, ho.ty, R.odd T ho.mem, _, rfl, iteF ⟨_, rfl, _, _, rfl, (ho.notNum R.odd).2, k⟩⟩
end
end K05
namespace K05
open PySem PySem.Spec PyProof.Rows L2 RatM
def spOf1 (K : PySem.W.Frag) (C BR : Addr) : Sp := fun vs H Q E => ∃ x, vs = [x] ∧ AsR K C BR x "value" H Q E
theorem same_upd {H : Hp} {p : Addr} {o : HO} (h : H p = none) : Same H (upd H p o) := fun b x e => by
  rw [upd_ne (ne_of_none e h)]
  exact e
section
variable {P : Program} {w : World} {K : PySem.W.Frag} {mg : Str → Option Value} {base : Heap} {C BR : Addr}
theorem scOf1 : FnScope ["value"] ["value"] (defScope (ratM 2)) := ⟨rfl, rfl, rfl, by decide +kernel, rfl, by decide +kernel, by decide +kernel⟩
/-- Ratio.of(x) -/
theorem ok_of1 {f : Addr} {fd : FuncData} (F : MtP K "of" "Ratio.of" (ratM 2) f fd) (R : RatF P w K mg base C BR) : FnOk P w K mg base (L2.CX P w) 6 f fd ["value"] (spOf1 K C BR) := by
  obtain ⟨fO, fdO, GO, bO, kO, gO⟩ := R.ro
  refine F.ok scOf1 (fun vs H Q E h => ?_) (fun cdv A outer s H vs Q E hr h => ?_)
  · obtain ⟨x, rfl, _⟩ := h
    rfl
  · obtain ⟨x, rfl, h⟩ := h
    have hr5 : Room 5 _ := hr
    refine ⟨_, pss_one (ps_ret (pe_call GO hr5 rfl gO kO bO .nil (passE (takes_of rfl rfl rfl rfl)) (pa_cons (pv 0) (pa_cons pe_str pa_nil)))), ?_⟩
    exact ⟨_, rfl, _, _, rfl, h⟩
/-! ### is_list -/
def spLs (K : PySem.W.Frag) : Sp := fun vs H Q _ => ∃ x t b, vs = [x] ∧ TyX K H x t ∧ PySem.W.kitAny K t [.type "list", .type "tuple"] = some b ∧ ∀ H', Same H H' → Q (.bl b) H'
theorem scLs : FnScope ["value"] ["value"] (defScope (top 14)) := ⟨rfl, rfl, rfl, by decide +kernel, rfl, by decide +kernel, by decide +kernel⟩
theorem tyX_upd {H : Hp} {x : V} {t : Value} {p : Addr} {o : HO} (h : TyX K H x t) (n : H p = none) : TyX K (upd H p o) x t := by
  have s := same_upd (o := o) n
  cases h with
  | base z =>
    refine .base ?_
    cases z with
    | non => exact .non
    | bl x => exact .bl x
    | int i => exact .int i
    | str x => exact .str x
    | flt x => exact .flt x
    | lst e => exact .lst (s _ _ e)
    | frz e => exact .frz (s _ _ e)
    | tup e => exact .tup (s _ _ e)
    | dK e => exact .dK (s _ _ e)
    | dT e => exact .dT (s _ _ e)
    | ins e a1 a2 a3 a4 a5 => exact .ins (s _ _ e) a1 a2 a3 a4 a5
  | byt y => exact .byt y
  | set e => exact .set (s _ _ e)
  | kList e c => exact .kList e c
  | kTuple e c => exact .kTuple e c
  | kDict e c => exact .kDict e c
  | fTuple e => exact .fTuple (s _ _ e)
  | fDict e => exact .fDict (s _ _ e)
theorem ok_isList {f : Addr} {fd : FuncData} (F : FnP K "is_list" (top 14) f fd) (bi : mg "isinstance" = none) (bL : mg "list" = none) (bT : mg "tuple" = none) : FnOk P w K mg base CX0 1 f fd ["value"] (spLs K) := by
  refine F.ok scLs (fun vs H Q E h => ?_) (fun cdv A outer s H vs Q E hr h => ?_)
  · obtain ⟨x, t, b, rfl, _⟩ := h
    rfl
  · obtain ⟨x, t, b, rfl, ty, k, q⟩ := h
    refine ⟨_, PSs.nox (pss_one (ps_ret (pe_callB call_isiT (by rfl) bi (by decide +kernel) (pa_cons (pv 0) (pa_cons (pe_tup (pa_cons (pe_bltn (v := .ty "list") (by rfl) bL (by decide +kernel) rfl) (pa_cons (pe_bltn (v := .ty "tuple") (by rfl) bT (by decide +kernel) rfl) pa_nil))) pa_nil))))), ?_⟩
    exact ⟨_, rfl, by rw [sizeLine_eq]; show 2 ≤ 16777216; decide, fun p n => ⟨x, p, _, t, _, b, rfl, upd_same, .cons (.ty "list") (.cons (.ty "tuple") .nil), tyX_upd ty n, k, q _ (same_upd n)⟩⟩
end
end K05
namespace K05
open PySem PySem.Spec PyProof.Rows L2 RatM TL
def letS : Str := "abcdefghijklmnopqrstuvwxyz"
def sigS : Str := "0123456789abcdefghijklmnopqrstuvwxyz"
def nameT (l : List Nat) : Bool := decide (1 ≤ l.length) && (decide (l.length ≤ 12) && ((match l with | [] => false | c :: _ => decide (c ∈ letS.cps.toList)) && l.all fun c => decide (c ∈ sigS.cps.toList)))
def spNm (K : PySem.W.Frag) : Sp := fun vs H Q _ => ∃ x, vs = [x] ∧
  ((∃ w, x = .str w ∧ w.length ≤ 100000 ∧ ∀ H', Same H H' → Q (.bl (nameT w.cps.toList)) H') ∨ (∃ t, TyX K H x t ∧ PySem.W.kitOne K t (.type "str") = some false ∧ Q (.bl false) H))
structure NmG (mg : Str → Option Value) : Prop where
  isi : mg "isinstance" = none
  str : mg "str" = none
  len : mg "len" = none
  all : mg "all" = none
  lo : ∃ t, mg "_LONGEST" = some (.int 12 t)
  le : ∃ t, mg "_LETTERS" = some (.str letS t)
  si : ∃ t, mg "_SIGNS" = some (.str sigS t)
section
variable {P : Program} {w : World} {K : PySem.W.Frag} {mg : Str → Option Value} {base : Heap}
theorem scNm : FnScope ["value", "sign"] ["value"] (defScope (top 13)) := ⟨rfl, rfl, rfl, by decide +kernel, rfl, by decide +kernel, by decide +kernel⟩
theorem ok_isName {f : Addr} {fd : FuncData} (F : FnP K "is_name" (top 13) f fd) (G : NmG mg) : FnOk P w K mg base CX0 1 f fd ["value"] (spNm K) := by
  obtain ⟨t1, hLo⟩ := G.lo
  obtain ⟨t2, hLe⟩ := G.le
  obtain ⟨t3, hSi⟩ := G.si
  refine F.ok scNm (fun vs H Q E h => ?_) (fun cdv A outer s H vs Q E hr h => ?_)
  · obtain ⟨x, rfl, _⟩ := h
    rfl
  · obtain ⟨x, rfl, h⟩ := h
    refine ⟨_, PSs.nox (pss_cons (ps_if (PW.pt (pw_or (pt_not (pt_val (pe_callB call_isi (by rfl) G.isi (by decide +kernel) (pa_cons (pv 0) (pa_cons (pe_bltn (v := .ty "str") (by rfl) G.str (by decide +kernel) rfl) pa_nil))))) (pw_or1 (pt_not (pt_chain op_le op_le pe_int (pe_callB call_len (by rfl) G.len PySem.boot_len (pa_cons (pv 0) pa_nil)) (pe_glob (v := .int 12) rfl hLo ⟨_, rfl⟩)))))) (pss_one (ps_ret pe_bl)) pss_nil)
      (pss_one (ps_ret (pe_and (pe_cmpR op_in_sign (pe_ix ix_str (pv 0) pe_int (fun _ _ => rfl)) (pe_glob (v := .str letS) rfl hLe ⟨_, rfl⟩) rfl)
        (pe_one (pe_callB (cr_all rfl) (by rfl) G.all (by decide +kernel) (pa_cons (pe_lc (own := [("sign", 1)]) (g := gName 1) (tt := tYes) rfl scNm.nd (pi_str (pv 0)) (blkOk_by (N := ["value", "sign"]) (sc := defScope (top 13)) (by decide +kernel)) (fun _ _ _ _ _ => pg_name (i := 1) scNm.nd rfl (Or.inl rfl)) (fun _ _ _ _ _ => pts_nil) (fun _ _ _ _ _ => pe_cmpR op_in_sign (pv 1) (pe_glob (v := .str sigS) rfl hSi ⟨_, rfl⟩) rfl)) pa_nil))))))), ?_⟩
    rcases h with ⟨w, rfl, hz, k⟩ | ⟨t, ty, kk, q⟩
    · have lw : w.length = w.cps.toList.length := by simp [Str.length]
      refine ⟨_, rfl, _, _, _, _, _, rfl, .ty "str", .base (.str w), kit_ty (by decide +kernel), true, rfl, iteF ?_⟩
      refine ⟨_, rfl, .str w, w.length, rfl, ⟨by rw [sizeLine_eq]; omega, rfl⟩, _, _, rfl, rfl, decide ((1 : Int) ≤ (w.length : Nat)), rfl, ?_⟩
      generalize hl : w.cps.toList = l at k lw
      by_cases c1 : 1 ≤ l.length
      · rw [decide_eq_true (show (1 : Int) ≤ (w.length : Nat) by omega)]
        refine iteT ⟨_, _, rfl, rfl, decide ((w.length : Nat) ≤ (12 : Int)), rfl, ?_⟩
        by_cases c2 : l.length ≤ 12
        · rw [decide_eq_true (show ((w.length : Nat) : Int) ≤ 12 by omega)]
          refine iteF ?_
          dsimp only [tNext]
          obtain ⟨c0, r, e0⟩ : ∃ c0 r, l = c0 :: r := by
            cases l with
            | nil => cases c1
            | cons c r => exact ⟨c, r, rfl⟩
          have at0 : atI w.cps.toList 0 = some c0 := by rw [hl, e0]; exact atI_nat (show (c0 :: r)[0]? = some c0 from rfl)
          have kn : nameT l = (decide (c0 ∈ letS.cps.toList) && l.all fun c => decide (c ∈ sigS.cps.toList)) := by
            unfold nameT
            rw [decide_eq_true c1, decide_eq_true c2, e0, Bool.true_and, Bool.true_and]
          rw [kn] at k
          refine ⟨_, rfl, w, 0, c0, rfl, rfl, by rw [sizeLine_eq]; omega, at0, c0, letS, rfl, rfl, decide (c0 ∈ letS.cps.toList), rfl, ?_⟩
          by_cases c3 : c0 ∈ letS.cps.toList
          · rw [decide_eq_true c3] at k ⊢
            rw [Bool.true_and] at k
            refine iteT ⟨_, rfl, w, rfl, fun D nD => ?_⟩
            refine ⟨fun i m Hh => i ≤ l.length ∧ m = l.length - i ∧ Same H Hh ∧ Hh D = some (.lst (((l.take i).map fun c => decide (c ∈ sigS.cps.toList)).map V.bl)), ⟨_, Nat.zero_le _, rfl, same_upd nD, upd_same⟩, fun i m Hh hW => ?_⟩
            obtain ⟨hi, hm, sH, hD⟩ := hW
            have sz : w.cps.size = l.length := by rw [← hl]; simp
            by_cases ci : i < l.length
            · refine .inr ⟨(by show i < w.cps.size; omega), fun H' => ∃ m', m' < m ∧ i + 1 ≤ l.length ∧ m' = l.length - (i + 1) ∧ Same H H' ∧ H' D = some (.lst (((l.take (i + 1)).map fun c => decide (c ∈ sigS.cps.toList)).map V.bl)), fun H' z => z, fun x H' hy => ?_⟩
              obtain ⟨rfl, c, hc, rfl⟩ := hy
              have hc2 : l[i]? = some c := by rw [← hl]; simpa using hc
              refine ⟨rfl, ?_⟩
              unfold tYes
              dsimp only
              rw [if_pos rfl]
              refine ⟨_, rfl, c, sigS, rfl, rfl, _, hD, ?_, l.length - (i + 1), by omega, ci, rfl, fun b o e => ?_, ?_⟩
              · simp only [List.length_map, List.length_take]
                rw [sizeLine_eq]; omega
              · rw [upd_ne (ne_of_none e nD)]; exact sH b o e
              · rw [upd_same, List.take_add_one, hc2]
                simp
            · refine .inl ⟨(by show w.cps.size ≤ i; omega), ?_⟩
              rw [List.take_of_length_le (show l.length ≤ i by omega)] at hD
              refine ⟨D, _, rfl, SqL.of hD, ?_⟩
              have z := k Hh sH
              rw [show (List.map (fun c => decide (c ∈ sigS.cps.toList)) l).all id = l.all fun c => decide (c ∈ sigS.cps.toList) by rw [List.all_map]; rfl]
              exact z
          · rw [decide_eq_false c3] at k ⊢
            rw [Bool.false_and] at k
            exact iteF (k _ (Same.refl _))
        · rw [decide_eq_false (show ¬ ((w.length : Nat) : Int) ≤ 12 by omega)]
          have kn : nameT l = false := by
            unfold nameT
            rw [decide_eq_false c2, Bool.false_and, Bool.and_false]
          rw [kn] at k
          exact iteT (k _ (Same.refl _))
      · rw [decide_eq_false (show ¬ (1 : Int) ≤ (w.length : Nat) by omega)]
        have kn : nameT l = false := by
          unfold nameT
          rw [decide_eq_false c1, Bool.false_and]
        rw [kn] at k
        exact iteF ⟨false, rfl, iteT (k _ (Same.refl _))⟩
    · exact ⟨_, rfl, _, _, _, _, _, rfl, .ty "str", ty, kk, false, rfl, iteT q⟩
end
end K05
namespace K05
open PySem PySem.Spec PyProof.Rows L2 RatM TL
/-- is_name(x) is b -/
def NmIs (K : PySem.W.Frag) (H : Hp) (x : V) (b : Bool) : Prop := (∃ w, x = .str w ∧ w.length ≤ 100000 ∧ b = nameT w.cps.toList) ∨ (∃ t, TyX K H x t ∧ PySem.W.kitOne K t (.type "str") = some false ∧ b = false)
theorem tyX_same {K : PySem.W.Frag} {H H' : Hp} {x : V} {t : Value} (h : TyX K H x t) (s : Same H H') : TyX K H' x t := by
  cases h with
  | base z =>
    refine .base ?_
    cases z with
    | non => exact .non
    | bl x => exact .bl x
    | int i => exact .int i
    | str x => exact .str x
    | flt x => exact .flt x
    | lst e => exact .lst (s _ _ e)
    | frz e => exact .frz (s _ _ e)
    | tup e => exact .tup (s _ _ e)
    | dK e => exact .dK (s _ _ e)
    | dT e => exact .dT (s _ _ e)
    | ins e a1 a2 a3 a4 a5 => exact .ins (s _ _ e) a1 a2 a3 a4 a5
  | byt y => exact .byt y
  | set e => exact .set (s _ _ e)
  | kList e c => exact .kList e c
  | kTuple e c => exact .kTuple e c
  | kDict e c => exact .kDict e c
  | fTuple e => exact .fTuple (s _ _ e)
  | fDict e => exact .fDict (s _ _ e)
theorem NmIs.same {K : PySem.W.Frag} {H H' : Hp} {x : V} {b : Bool} (h : NmIs K H x b) (s : Same H H') : NmIs K H' x b := h.imp id fun ⟨t, ty, k, e⟩ => ⟨t, tyX_same ty s, k, e⟩
theorem NmIs.sp {K : PySem.W.Frag} {H : Hp} {x : V} {b : Bool} {Q : VK} {E : XK} (h : NmIs K H x b) (q : ∀ H', Same H H' → Q (.bl b) H') : spNm K [x] H Q E := by
  rcases h with ⟨w, rfl, l, rfl⟩ | ⟨t, ty, k, rfl⟩
  · exact ⟨_, rfl, .inl ⟨w, rfl, l, q⟩⟩
  · exact ⟨_, rfl, .inr ⟨t, ty, k, q _ (Same.refl _)⟩⟩
def spNms (K : PySem.W.Frag) : Sp := fun vs H Q _ => ∃ x, vs = [x] ∧
  ((∃ (a : Addr) (xs : List V) (bs : List Bool), x = .ref a ∧ (H a = some (.lst xs) ∨ H a = some (.tup xs)) ∧ xs.length ≤ 1000 ∧ bs.length = xs.length ∧ (∀ (i : Nat) x b, xs[i]? = some x → bs[i]? = some b → NmIs K H x b) ∧ ∀ H', Same H H' → Q (.bl (bs.all id)) H') ∨
   (∃ t, TyX K H x t ∧ PySem.W.kitAny K t [.type "list", .type "tuple"] = some false ∧ ∀ H', Same H H' → Q (.bl false) H'))
section
variable {P : Program} {w : World} {K : PySem.W.Frag} {mg : Str → Option Value} {base : Heap}
theorem any_ty {a b c : String} {x y : Bool} (h1 : PySem.W.kitOne K (.type a) (.type b) = some x) (h2 : PySem.W.kitOne K (.type a) (.type c) = some y) : PySem.W.kitAny K (.type a) [.type b, .type c] = some (x || y) := by
  simp only [PySem.W.kitAny, h1, h2]
  cases x <;> cases y <;> rfl
/-- the turns over the items, list or tuple -/
theorem nm_turn {H H1 Hh : Hp} {D : Addr} {σ : L2.St} {xs : List V} {bs : List Bool} {i : Nat} {x : V} (hσ : σ.length = 2) (lb : bs.length = xs.length) (lx : xs.length ≤ 1000) (hn : ∀ (i : Nat) x b, xs[i]? = some x → bs[i]? = some b → NmIs K H x b) (s1 : Same H H1) (nD : H1 D = none)
    (hx : xs[i]? = some x) (hP : Same H1 Hh ∧ Hh D = some (.lst ((bs.take i).map V.bl))) :
    gName 1 x (wipe σ [1]) Hh fun σ2 H2 => wipe σ2 [1] = wipe σ [1] ∧ tYes σ2 H2 fun b H3 => if b = true then tCall (spNm K) [] E0 (tCons (tVar 1) tNil) σ2 H3 fun y H4 => ∃ acc, H4 D = some (.lst acc) ∧ acc.length < sizeLine ∧ (Same H1 (upd H4 D (.lst (acc ++ [y]))) ∧ upd H4 D (.lst (acc ++ [y])) D = some (.lst ((bs.take (i + 1)).map V.bl))) else (Same H1 H3 ∧ H3 D = some (.lst ((bs.take (i + 1)).map V.bl))) := by
  obtain ⟨s2, hD⟩ := hP
  have li : i < xs.length := (List.getElem?_eq_some_iff.mp hx).1
  obtain ⟨b, hb⟩ : ∃ b, bs[i]? = some b := ⟨bs[i]'(by omega), List.getElem?_eq_getElem (by omega)⟩
  obtain ⟨a0, a1, rfl⟩ : ∃ a0 a1, σ = [a0, a1] := by
    match σ, hσ with
    | [a0, a1], _ => exact ⟨a0, a1, rfl⟩
  refine ⟨rfl, ?_⟩
  unfold tYes
  dsimp only
  rw [if_pos rfl]
  refine ⟨_, rfl, ?_⟩
  simp only [tNil, List.append_nil]
  refine NmIs.sp (((hn i x b hx hb).same s1).same s2) fun H4 s4 => ⟨_, s4 _ _ hD, ?_, fun c o e => ?_, ?_⟩
  · simp only [List.length_map, List.length_take]
    rw [sizeLine_eq]; omega
  · rw [upd_ne (ne_of_none e nD)]; exact s4 _ _ (s2 c o e)
  · rw [upd_same, List.take_add_one, hb]
    simp
theorem scNs : FnScope ["value", "item"] ["value"] (defScope (top 15)) := ⟨rfl, rfl, rfl, by decide +kernel, rfl, by decide +kernel, by decide +kernel⟩
theorem ok_areNames {f fN fL : Addr} {fd fdN fdL : FuncData} (F : FnP K "are_names" (top 15) f fd) (al : mg "all" = none) (GN : FnOk P w K mg base CX0 1 fN fdN ["value"] (spNm K)) (bN : Binds K fdN ["value"] []) (kN : PySem.W.keepIn K (.ref fN) = true) (gN : mg "is_name" = some (.ref fN))
    (GL : FnOk P w K mg base CX0 1 fL fdL ["value"] (spLs K)) (bL : Binds K fdL ["value"] []) (kL : PySem.W.keepIn K (.ref fL) = true) (gL : mg "is_list" = some (.ref fL)) : FnOk P w K mg base CX0 3 f fd ["value"] (spNms K) := by
  refine F.ok scNs (fun vs H Q E h => ?_) (fun cdv A outer s H vs Q E hr h => ?_)
  · obtain ⟨x, rfl, _⟩ := h
    rfl
  · obtain ⟨x, rfl, h⟩ := h
    have hr2 : Room 2 _ := hr
    have hr1 : Room 1 _ := hr2.mono (by decide)
    rcases h with ⟨a, xs, bs, rfl, hl | hl, lx, lb, hn, k⟩ | ⟨t, ty, kk, k⟩
    · refine ⟨_, PSs.nox (pss_one (ps_ret (pe_and (pe_call GL hr1 rfl gL kL bL .nil pass0 (pa_cons (pv 0) pa_nil))
        (pe_one (pe_callB (cr_all rfl) (by rfl) al (by decide +kernel) (pa_cons (pe_lc (own := [("item", 1)]) (g := gName 1) (tt := tYes) rfl scNs.nd (pi_list (pv 0)) (blkOk_by (N := ["value", "item"]) (sc := defScope (top 15)) (by decide +kernel)) (fun _ _ _ _ _ => pg_name (i := 1) scNs.nd rfl (Or.inl rfl)) (fun _ _ _ _ _ => pts_nil) (fun _ _ _ _ _ => pe_call GN (by exact hr1) rfl gN kN bN .nil pass0 (pa_cons (pv 1) pa_nil))) pa_nil)))))), ?_⟩
      refine ⟨_, rfl, _, _, _, rfl, .base (.lst hl), any_ty (x := true) (y := false) (kit_ty (by decide +kernel)) (kit_ty (by decide +kernel)), fun H1 s1 => ⟨true, rfl, iteT ?_⟩⟩
      refine ⟨_, rfl, a, rfl, ⟨xs, SqL.of (s1 _ _ hl)⟩, fun D nD => ?_⟩
      refine lc_list (a := a) (xs := xs) (fun i Hh => Same H1 Hh ∧ Hh D = some (.lst ((bs.take i).map V.bl))) ⟨same_upd nD, upd_same⟩ (fun i Hh _ hP => SqL.of (hP.1 _ _ (s1 _ _ hl))) (fun i x Hh hx hP => nm_turn rfl lb lx hn s1 nD hx hP) fun Hh hP => ?_
      obtain ⟨s2, hD⟩ := hP
      rw [← lb, List.take_length] at hD
      exact ⟨D, bs, rfl, SqL.of hD, k _ (s1.trans s2)⟩
    · refine ⟨_, PSs.nox (pss_one (ps_ret (pe_and (pe_call GL hr1 rfl gL kL bL .nil pass0 (pa_cons (pv 0) pa_nil))
        (pe_one (pe_callB (cr_all rfl) (by rfl) al (by decide +kernel) (pa_cons (pe_lc (own := [("item", 1)]) (g := gName 1) (tt := tYes) rfl scNs.nd (pi_tup (pv 0)) (blkOk_by (N := ["value", "item"]) (sc := defScope (top 15)) (by decide +kernel)) (fun _ _ _ _ _ => pg_name (i := 1) scNs.nd rfl (Or.inl rfl)) (fun _ _ _ _ _ => pts_nil) (fun _ _ _ _ _ => pe_call GN (by exact hr1) rfl gN kN bN .nil pass0 (pa_cons (pv 1) pa_nil))) pa_nil)))))), ?_⟩
      refine ⟨_, rfl, _, _, _, rfl, .base (.tup hl), any_ty (x := false) (y := true) (kit_ty (by decide +kernel)) (kit_ty (by decide +kernel)), fun H1 s1 => ⟨true, rfl, iteT ?_⟩⟩
      refine ⟨_, rfl, a, rfl, ⟨xs, SqT.of (s1 _ _ hl)⟩, fun D nD => ?_⟩
      refine lc_tup (a := a) (xs := xs) (fun i Hh => Same H1 Hh ∧ Hh D = some (.lst ((bs.take i).map V.bl))) ⟨same_upd nD, upd_same⟩ (fun i Hh _ hP => SqT.of (hP.1 _ _ (s1 _ _ hl))) (fun i x Hh hx hP => nm_turn rfl lb lx hn s1 nD hx hP) fun Hh hP => ?_
      obtain ⟨s2, hD⟩ := hP
      rw [← lb, List.take_length] at hD
      exact ⟨D, bs, rfl, SqL.of hD, k _ (s1.trans s2)⟩
    · refine ⟨_, PSs.nox (pss_one (ps_ret (pe_and (pe_call GL hr1 rfl gL kL bL .nil pass0 (pa_cons (pv 0) pa_nil))
        (pe_one (pe_callB (cr_all rfl) (by rfl) al (by decide +kernel) (pa_cons (pe_lc (own := [("item", 1)]) (g := gName 1) (tt := tYes) rfl scNs.nd (pi_list (pv 0)) (blkOk_by (N := ["value", "item"]) (sc := defScope (top 15)) (by decide +kernel)) (fun _ _ _ _ _ => pg_name (i := 1) scNs.nd rfl (Or.inl rfl)) (fun _ _ _ _ _ => pts_nil) (fun _ _ _ _ _ => pe_call GN (by exact hr1) rfl gN kN bN .nil pass0 (pa_cons (pv 1) pa_nil))) pa_nil)))))), ?_⟩
      exact ⟨_, rfl, _, t, false, rfl, ty, kk, fun H1 s1 => ⟨false, rfl, iteF (k _ s1)⟩⟩
end
end K05
namespace K05
open PySem PySem.Spec PyProof.Rows L2 RatM ClX
/-! ### dicts from names to numbers -/
/-- names, and numbers told by g -/
abbrev NumD (H : Hp) (C : Addr) (g : Str → Int × Int) : List (Key × V) → List Str → Prop := Paired fun kv n => kv.1 = .inr n ∧ NumAt H C kv.2 (g n).1 (g n).2
/-- the same, each number a Ratio -/
abbrev RatD (H : Hp) (C : Addr) (g : Str → Int × Int) : List (Key × V) → List Str → Prop := Paired fun kv n => kv.1 = .inr n ∧ ∃ a, kv.2 = .ref a ∧ RatAt H a C (g n).1 (g n).2
theorem Paired.mono' {α β : Type} {F G : α → β → Prop} (h : ∀ a b, F a b → G a b) : ∀ {l : List α} {m : List β}, Paired F l m → Paired G l m
  | _, _, .nil => .nil
  | _, _, .cons x t => .cons (h _ _ x) (Paired.mono' h t)
theorem Paired.at' {α β : Type} {F : α → β → Prop} : ∀ {l : List α} {m : List β}, Paired F l m → ∀ (i : Nat) (a : α), l[i]? = some a → ∃ b, m[i]? = some b ∧ F a b
  | _, _, .nil, i, a, e => by simp at e
  | _, _, .cons x t, 0, a, e => by
    simp at e
    subst e
    exact ⟨_, rfl, x⟩
  | _, _, .cons x t, i + 1, a, e => by
    simp only [List.getElem?_cons_succ] at e ⊢
    exact Paired.at' t i a e
section
variable {H H' : Hp} {C d : Addr} {g : Str → Int × Int} {kvs : List (Key × V)} {ks : List Str}
theorem NumD.same (h : NumD H C g kvs ks) (s : Same H H') : NumD H' C g kvs ks := Paired.mono' (fun _ _ ⟨e, n⟩ => ⟨e, n.same s⟩) h
theorem RatD.same (h : RatD H C g kvs ks) (s : Same H H') : RatD H' C g kvs ks := Paired.mono' (fun _ _ ⟨e, a, e2, n⟩ => ⟨e, a, e2, n.same s⟩) h
theorem RatD.num (h : RatD H C g kvs ks) : NumD H C g kvs ks := Paired.mono' (fun _ _ ⟨e, a, e2, n⟩ => ⟨e, .inl ⟨a, e2, n⟩⟩) h
theorem NumD.keys (h : NumD H C g kvs ks) : (kvs.map fun kv => kV kv.1) = ks.map V.str := by
  induction h with
  | nil => rfl
  | cons x t ih =>
    simp only [List.map_cons, ih, x.1]
    rfl
theorem NumD.val (h : NumD H C g kvs ks) {n : Str} (m : n ∈ ks) : ∃ v, valV kvs (.inr n) = some v ∧ NumAt H C v (g n).1 (g n).2 := by
  induction h with
  | nil => cases m
  | @cons a b l1 l2 x t ih =>
    by_cases e : b = n
    · subst e
      exact ⟨a.2, valV_pos x.1, x.2⟩
    · have ne : ¬ a.1 = Sum.inr n := fun z => e (by rw [x.1] at z; injection z)
      rw [valV_neg ne]
      exact ih (by cases m with
        | head => exact absurd rfl e
        | tail _ m => exact m)
theorem NumD.noVal (h : NumD H C g kvs ks) {n : Str} (m : n ∉ ks) : valV kvs (.inr n) = none := by
  induction h with
  | nil => rfl
  | @cons a b l1 l2 x t ih =>
    simp only [List.mem_cons, not_or] at m
    have ne : ¬ a.1 = Sum.inr n := fun z => m.1 (by rw [x.1] at z; injection z with z; exact z.symm)
    rw [valV_neg ne]
    exact ih m.2
/-- while the dict itself is locked -/
theorem NumAt.locked {x : V} {p q : Int} {o : HO} (h : NumAt H C x p q) (hd : H d = some (.dK kvs)) : NumAt (upd H d o) C x p q := by
  rcases h with ⟨a, rfl, dx, e⟩ | z
  · refine .inl ⟨a, rfl, dx, ?_⟩
    rw [upd_ne (fun z => by subst z; rw [hd] at e; cases e)]
    exact e
  · exact .inr z
end
section
variable {H H' : Hp} {C d : Addr} {g : Str → Int × Int} {kvs : List (Key × V)} {ks : List Str}
theorem RatAt.upd_d {a : Addr} {p q : Int} {o : HO} {D : Addr} {kvs : List (Key × V)} (h : RatAt H a C p q) (hd : H D = some (.dK kvs)) : RatAt (upd H D o) a C p q := by
  obtain ⟨dx, e⟩ := h
  refine ⟨dx, ?_⟩
  rw [upd_ne (fun z => by subst z; rw [hd] at e; cases e)]
  exact e
theorem RatD.upd_d {o : HO} {D : Addr} {kvs' : List (Key × V)} (h : RatD H C g kvs ks) (hd : H D = some (.dK kvs')) : RatD (upd H D o) C g kvs ks := Paired.mono' (fun _ _ ⟨e, a, e2, n⟩ => ⟨e, a, e2, RatAt.upd_d n hd⟩) h
end
def spNin (K : PySem.W.Frag) (C : Addr) : Sp := fun vs H Q _ => ∃ (d : Addr) (kvs : List (Key × V)) (ks : List Str) (g : Str → Int × Int), vs = [.ref d] ∧ H d = some (.dK kvs) ∧ NumD H C g kvs ks ∧ ks.Nodup ∧ ks.length ≤ 60 ∧ (∀ n ∈ ks, n.length ≤ 100000 ∧ nameT n.cps.toList = true) ∧
  ∀ r ys kvs' H', Same H H' → H r = none → ys.Perm ks → sortedS ys = true → H' r = some (.dK kvs') → RatD H' C g kvs' ys → Q (.ref r) H'
section
variable {P : Program} {w : World} {K : PySem.W.Frag} {mg : Str → Option Value} {base : Heap} {C BR : Addr}
theorem scNin : FnScope ["value", "number", "thing"] ["value"] (defScope (top 32)) := ⟨rfl, rfl, rfl, by decide +kernel, rfl, by decide +kernel, by decide +kernel⟩
theorem names_all {H : Hp} {K : PySem.W.Frag} : ∀ (ks : List Str), (∀ n ∈ ks, n.length ≤ 100000 ∧ nameT n.cps.toList = true) → ∀ (i : Nat) (x : V) (b : Bool), (ks.map V.str)[i]? = some x → (ks.map fun _ => true)[i]? = some b → NmIs K H x b := fun ks h i x b e1 e2 => by
  rw [List.getElem?_map] at e1 e2
  obtain ⟨n, en, rfl⟩ := Option.map_eq_some_iff.mp e1
  rw [en] at e2
  cases e2
  obtain ⟨l, t⟩ := h n (List.mem_of_getElem? en)
  exact .inl ⟨n, rfl, l, t.symm⟩
theorem all_trues {α : Type} : ∀ (l : List α), (l.map fun _ => true).all id = true
  | [] => rfl
  | _ :: t => by simp [all_trues t]
theorem ok_numbersIn {f fN fI : Addr} {fd fdN fdI : FuncData} {mc : Value} {p gO : Addr} {fdO : FuncData} (F : FnP K "numbers_in" (top 32) f fd) (bi : mg "isinstance" = none) (bD : mg "dict" = none) (bL : mg "list" = none) (al : mg "all" = none) (so : mg "sorted" = none)
    (GN : FnOk P w K mg base CX0 3 fN fdN ["value"] (spNms K)) (bN : Binds K fdN ["value"] []) (kN : PySem.W.keepIn K (.ref fN) = true) (gN : mg "are_names" = some (.ref fN))
    (GI : FnOk P w K mg base CX0 2 fI fdI ["value"] (spIsR K C)) (bI : Binds K fdI ["value"] []) (kI : PySem.W.keepIn K (.ref fI) = true) (gI : mg "is_ratio" = some (.ref fI))
    (gC : mg "Ratio" = some (.ref C)) (cr : CRead K C mc) (sm : SMet K C mc "of" p gO) (GO : FnOk P w K mg base (L2.CX P w) 6 gO fdO ["value"] (spOf1 K C BR)) (bO : Binds K fdO ["value"] []) :
    FnOk P w K mg base CX0 7 f fd ["value"] (spNin K C) := by
  refine F.ok scNin (fun vs H Q E h => ?_) (fun cdv A outer s H vs Q E hr h => ?_)
  · obtain ⟨d, kvs, ks, g, rfl, _⟩ := h
    rfl
  · obtain ⟨d, kvs, ks, g, rfl, hd, hk, nd, lk, nm, k⟩ := h
    have hr6 : Room 6 _ := hr
    have hu1 : (A.deeper (envOfC (Str.ofString "numbers_in") (defScope (top 32)) s.heap.objs.size f cdv)).units + 1 < cLine := by have := hr6.units; omega
    refine ⟨_, PSs.nox (pss_cons (ps_if (PW.pt (pw_or (pt_not (pt_val (pe_callB call_isi (by rfl) bi (by decide +kernel) (pa_cons (pv 0) (pa_cons (pe_bltn (v := .ty "dict") (by rfl) bD (by decide +kernel) rfl) pa_nil)))))
        (pw_or1 (pt_not (pt_val (pe_call GN (hr6.mono (by decide)) rfl gN kN bN .nil pass0 (pa_cons (pe_callTy (call_list_dK rfl) (by rfl) bL PyProof.Rows.boot_list (pa_cons (pv 0) pa_nil)) pa_nil))))))) (pss_one (ps_ret pe_non)) pss_nil)
      (pss_cons (ps_if (pt_not (pt_val (pe_callB (cr_all rfl) (by rfl) al (by decide +kernel) (pa_cons (pe_lock (pe_lc (own := [("number", 1)]) (g := gName 1) (tt := tYes) rfl scNin.nd (pi_values (pv 0)) (blkOk_by (N := ["value", "number", "thing"]) (sc := defScope (top 32)) (by decide +kernel)) (fun _ _ _ _ _ => pg_name (i := 1) scNin.nd rfl (Or.inl rfl)) (fun _ _ _ _ _ => pts_nil) (fun _ _ _ _ _ => pe_call GI (by exact hr6.mono (by decide)) rfl gI kI bI .nil pass0 (pa_cons (pv 1) pa_nil)))) pa_nil)))) (pss_one (ps_ret pe_non)) pss_nil)
      (pss_one (ps_ret (pe_dc (own := [("thing", 2)]) (g := gName 2) (tt := tYes) rfl scNin.nd (pi_list (pe_callB cr_sortedS (by rfl) so (by decide +kernel) (pa_cons (pe_callTy (call_list_dK rfl) (by rfl) bL PyProof.Rows.boot_list (pa_cons (pv 0) pa_nil)) pa_nil))) (blkOk_by (N := ["value", "number", "thing"]) (sc := defScope (top 32)) (by decide +kernel)) (fun _ _ _ _ _ => pg_name (i := 2) scNin.nd rfl (Or.inl rfl)) (fun _ _ _ _ _ => pts_nil) (fun _ _ _ _ _ => pv 2)
        (fun _ _ _ _ _ => pe_smeth (pe_glob (v := .ref _) rfl gC rfl) cr sm GO (by exact hr6) bO (E := E0) passL (pa_cons (pe_dget (by exact hu1) (pv 0) (pv 2) (fun _ _ => rfl)) pa_nil))))))), ?_⟩
    have lm : (kvs.map fun kv => kV kv.1) = ks.map V.str := hk.keys
    refine ⟨_, rfl, _, _, _, _, _, rfl, .ty "dict", .base (.dK hd), kit_ty (r := true) (by decide +kernel), _, rfl, iteF ?_⟩
    refine ⟨_, rfl, d, kvs, rfl, hd, fun q nq => ?_⟩
    refine ⟨_, rfl, .inl ⟨q, ks.map V.str, ks.map (fun _ => true), rfl, .inl (by rw [upd_same, lm]), by rw [List.length_map]; omega, by rw [List.length_map, List.length_map], names_all ks nm, fun H1 s1 => ⟨true, congrArg V.bl (all_trues ks), iteF ?_⟩⟩⟩
    replace s1 : Same H H1 := (same_upd nq).trans s1
    dsimp only [tNext, tSeq]
    refine ⟨d, .dK kvs, s1 _ _ hd, True.intro, fun od => ?_⟩
    refine ⟨_, rfl, d, od, kvs, rfl, upd_same, fun D nD => ?_⟩
    have nDd : D ≠ d := fun e => by rw [e, upd_same] at nD; cases nD
    have nD1 : H1 D = none := by rw [upd_ne nDd] at nD; exact nD
    generalize hHL : upd H1 d (.frz od (.dK kvs)) = HL at nD ⊢
    have hdL : HL d = some (.frz od (.dK kvs)) := by rw [← hHL]; exact upd_same
    have hkL : NumD HL C g kvs ks := by
      rw [← hHL]
      exact Paired.mono' (fun _ _ ⟨e, n⟩ => ⟨e, NumAt.locked n (s1 _ _ hd)⟩) (hk.same s1)
    refine lc_it walk_values (fun i Hh => Same HL Hh ∧ Hh D = some (.lst ((List.replicate i true).map V.bl))) ⟨same_upd nD, upd_same⟩ (fun i Hh _ hP => hP.1 _ _ hdL) (fun i x Hh Hh' hi hP hy => ?_) (fun Hh hP => ?_)
    · obtain ⟨rfl, key, ek⟩ := hy
      obtain ⟨s2, hD⟩ := hP
      obtain ⟨n, en, e1, hn⟩ := Paired.at' hkL i _ ek
      refine ⟨rfl, ?_⟩
      unfold tYes
      dsimp only
      rw [if_pos rfl]
      refine ⟨_, rfl, ?_⟩
      simp only [tNil, List.append_nil]
      refine ⟨x, rfl, .inl ⟨_, _, hn.same s2, _, hD, ?_, fun c o e => ?_, ?_⟩⟩
      · rw [List.length_map, List.length_replicate, sizeLine_eq]
        have := Paired.length hk
        omega
      · rw [upd_ne (ne_of_none e nD)]; exact s2 _ _ e
      · rw [upd_same, List.replicate_succ', List.map_append]
        rfl
    · obtain ⟨s2, hD⟩ := hP
      refine ⟨s2 _ _ hdL, D, List.replicate kvs.length true, rfl, SqL.of (by rw [upd_ne nDd]; exact hD), true, congrArg V.bl (by simp), iteF ?_⟩
      dsimp only [tNext]
      generalize hH2 : upd Hh d (.dK kvs) = H2
      have s3 : Same H H2 := fun b o e => by
        rw [← hH2]
        by_cases eb : b = d
        · subst eb
          rw [upd_same, ← hd, e]
        · rw [upd_ne eb]
          refine s2 _ _ ?_
          rw [← hHL, upd_ne eb]
          exact s1 _ _ e
      clear hH2 hHL
      refine ⟨_, rfl, d, kvs, rfl, s3 _ _ hd, fun q2 nq2 => ?_⟩
      refine ⟨q2, ks, rfl, SqL.of (by rw [upd_same, lm]), by omega, fun ys p2 py sy np => ?_⟩
      refine ⟨p2, rfl, ⟨_, SqL.of upd_same⟩, fun D2 nD2 => ?_⟩
      have s4 : Same H (upd (upd H2 q2 (.lst (kvs.map fun kv => kV kv.1))) p2 (.lst (ys.map V.str))) := (s3.trans (same_upd nq2)).trans (same_upd np)
      generalize hH4 : upd (upd H2 q2 (.lst (kvs.map fun kv => kV kv.1))) p2 (.lst (ys.map V.str)) = H4 at s4 nD2 ⊢
      have hp4 : H4 p2 = some (.lst (ys.map V.str)) := by rw [← hH4]; exact upd_same
      have nyd : ys.Nodup := py.nodup_iff.mpr nd
      refine dc_it walk_list (fun i Hx => Same H4 Hx ∧ ∃ kvs', Hx D2 = some (.dK kvs') ∧ RatD Hx C g kvs' (ys.take i)) ⟨same_upd nD2, [], upd_same, .nil⟩ (fun i Hx _ hP => SqL.of (hP.1 _ _ hp4)) (fun i x Hx Hx' hi hP hy => ?_) (fun Hx hP => ?_)
      · obtain ⟨rfl, ex⟩ := hy
        obtain ⟨s5, kvs', hD5, hR⟩ := hP
        rw [List.getElem?_map] at ex
        obtain ⟨n, en, rfl⟩ := Option.map_eq_some_iff.mp ex
        obtain ⟨v, hv, hn⟩ := NumD.val hk (py.mem_iff.mp (List.mem_of_getElem? en))
        refine ⟨rfl, ?_⟩
        unfold tYes
        dsimp only
        rw [if_pos rfl]
        refine ⟨_, rfl, rfl, ?_⟩
        refine ⟨_, rfl, _, rfl, d, v, rfl, ?_, ?_⟩
        · have z := DGet.k (k := .inr n) (s5 _ _ (s4 _ _ hd))
          rw [hv] at z
          exact z
        · refine ⟨v, rfl, .inl ⟨_, _, hn.same (s4.trans s5), fun a H6 s6 ha => ⟨kvs', .inr n, rfl, s6 _ _ hD5, ?_, fun c o e => ?_, ?_⟩⟩⟩
          · have := Paired.length hR
            have := List.length_take_le i ys
            have := py.length_eq
            have := List.length_take (i := i) (l := ys)
            rw [sizeLine_eq]; omega
          · rw [upd_ne (ne_of_none e nD2)]; exact s6 _ _ (s5 _ _ e)
          · refine ⟨_, upd_same, ?_⟩
            have nt : n ∉ ys.take i := fun m => by
              obtain ⟨j, hj, ej⟩ := List.mem_take_iff_getElem.mp m
              have h1 : ys[j]? = some n := by rw [List.getElem?_eq_getElem (by omega), ej]
              have lj : j < ys.length := by omega
              have h2 := (List.getElem?_inj lj nyd).mp (h1.trans en.symm)
              omega
            rw [putK_new _ (NumD.noVal hR.num nt), List.take_add_one, en]
            exact Paired.snoc ((hR.same s6).upd_d (s6 _ _ hD5)) ⟨rfl, a, rfl, RatAt.upd_d ha (s6 _ _ hD5)⟩
      · obtain ⟨s5, kvs', hD5, hR⟩ := hP
        rw [List.length_map, List.take_length] at hR
        refine k D2 ys kvs' Hx (s4.trans s5) ?_ py sy hD5 hR
        exact s4.free nD2
end
end K05
namespace K05
open PySem PySem.Spec PyProof.Rows L2 RatM ClX
abbrev balM (i : Nat) : Stmt := inClass (top 34) i
/-- the class of balances -/
structure BalC (K : PySem.W.Frag) (CB : Addr) : Prop where
  cls : Cls K CB
  no : ∀ f ∈ ([("_numbers" : Str), ("things" : Str), ("is_nothing" : Str), ("key" : Str)] : List Str), NoAttr K CB f
/-- the fields of a balance -/
def balF (nd tp kt : Addr) (b : Bool) : List (Str × V) := putF "key" (.ref kt) (putF "is_nothing" (.bl b) (putF "things" (.ref tp) (putF "_numbers" (.ref nd) [])))
/-- the items of a balance's key -/
def keyV (g : Str → Int × Int) (zs : List Str) : List V := zs.flatMap fun n => [.str n, .int (g n).1, .int (g n).2]
/-- what stands behind the fields -/
def BalIn (H : Hp) (C : Addr) (g : Str → Int × Int) (zs : List Str) (nd tp kt : Addr) : Prop := (∃ kvs, H nd = some (.dK kvs) ∧ RatD H C g kvs zs) ∧ H tp = some (.tup (zs.map V.str)) ∧ H kt = some (.tup (keyV g zs))
theorem RatD.upd_any {H : Hp} {C D : Addr} {g : Str → Int × Int} {kvs : List (Key × V)} {ks : List Str} {o : HO} (h : RatD H C g kvs ks) (hd : ∀ dx fs, H D ≠ some (.ins C dx fs)) : RatD (upd H D o) C g kvs ks :=
  Paired.mono' (fun _ _ ⟨e1, b, e2, dxb, hb⟩ => ⟨e1, b, e2, dxb, (upd_ne fun z => hd dxb _ (z ▸ hb)).trans hb⟩) h
/-- all but a stands -/
def But (a : Addr) (H H' : Hp) : Prop := ∀ b o, b ≠ a → H b = some o → H' b = some o
theorem But.same {a : Addr} {H H1 H2 : Hp} (h : But a H H1) (s : Same H1 H2) : But a H H2 := fun b o n e => s _ _ (h b o n e)
theorem But.upd {a : Addr} {H H1 : Hp} {o : HO} (h : But a H H1) : But a H (upd H1 a o) := fun b o n e => by rw [upd_ne n]; exact h b o n e
theorem But.free {a q : Addr} {H H1 : Hp} (h : But a H H1) (ha : ∃ o, H1 a = some o) (n : H1 q = none) : H q = none := by
  cases e : H q with
  | none => rfl
  | some o =>
    by_cases eq : q = a
    · subst eq
      obtain ⟨o', e'⟩ := ha
      rw [n] at e'
      cases e'
    · rw [h q o eq e] at n
      cases n
theorem keyV_take {g : Str → Int × Int} {zs : List Str} {i : Nat} {n : Str} (e : zs[i]? = some n) : keyV g (zs.take (i + 1)) = keyV g (zs.take i) ++ [.str n, .int (g n).1, .int (g n).2] := by
  unfold keyV
  rw [List.take_add_one, e, List.flatMap_append]
  rfl
theorem keyV_len (g : Str → Int × Int) : ∀ zs : List Str, (keyV g zs).length = 3 * zs.length
  | [] => rfl
  | n :: t => by
    have := keyV_len g t
    unfold keyV at this ⊢
    rw [List.flatMap_cons, List.length_append, this]
    simp only [List.length_cons, List.length_nil]
    omega
theorem yesI {σ : L2.St} {H : Hp} {A B : Hp → Prop} (h : A H) : tYes σ H (fun b H3 => if b = true then A H3 else B H3) := by
  unfold tYes
  dsimp only
  rw [if_pos rfl]
  exact h
def spBI (C CB : Addr) : Sp := fun vs H Q _ => ∃ (a dx d : Addr) (kvs : List (Key × V)) (ks : List Str) (g : Str → Int × Int), vs = [.ref a, .ref d] ∧ H a = some (.ins CB dx []) ∧ H d = some (.dK kvs) ∧ NumD H C g kvs ks ∧ ks.Nodup ∧ ks.length ≤ 60 ∧ (∀ n ∈ ks, n.length ≤ 100000 ∧ nameT n.cps.toList = true) ∧
  ∀ (ys : List Str) (nd tp kt : Addr) (H' : Hp), (∀ b o, b ≠ a → H b = some o → H' b = some o) → ys.Perm ks → sortedS ys = true → H' a = some (.ins CB dx (balF nd tp kt (decide (V.int ((ys.filter fun n => !decide ((g n).1 = 0)).length : Nat) = V.int 0)))) →
    BalIn H' C g (ys.filter fun n => !decide ((g n).1 = 0)) nd tp kt → H nd = none → H tp = none → H kt = none → Q .non H'
section
variable {P : Program} {w : World} {K : PySem.W.Frag} {mg : Str → Option Value} {base : Heap} {C BR CB BB : Addr}
theorem scBI : FnScope ["self", "numbers", "told", "thing", "number", "word"] ["self", "numbers"] (defScope (balM 0)) := ⟨rfl, rfl, rfl, by decide +kernel, rfl, by decide +kernel, by decide +kernel⟩
theorem ok_balInit {f fN : Addr} {fd fdN : FuncData} (F : MtP K "__init__" "Balance.__init__" (balM 0) f fd) (T : BalC K CB) (nCB : C ≠ CB) (TR : RatC K C) (M : ErrN P w K mg base "BadBalance" BB ["part"]) (bT : mg "tuple" = none) (bl : mg "len" = none)
    (GN : FnOk P w K mg base CX0 7 fN fdN ["value"] (spNin K C)) (bN : Binds K fdN ["value"] []) (kN : PySem.W.keepIn K (.ref fN) = true) (gN : mg "numbers_in" = some (.ref fN)) :
    FnOk P w K mg base (L2.CX P w) 8 f fd ["self", "numbers"] (spBI C CB) := by
  refine F.ok scBI (fun vs H Q E h => ?_) (fun cdv A outer s H vs Q E hr h => ?_)
  · obtain ⟨a, dx, d, kvs, ks, g, rfl, _⟩ := h
    rfl
  · obtain ⟨a, dx, d, kvs, ks, g, rfl, ha, hd, hk, nd, lk, nm, k⟩ := h
    have hr7 : Room 7 _ := hr
    refine ⟨_, (pss_cons (ps_set (i := 2) scBI.nd rfl (.inl rfl) (pe_call GN hr7 rfl gN kN bN .nil pass0 (pa_cons (pv 1) pa_nil)))
      (pss_cons (ps_if (pt_cmpR op_isN (pv 2) pe_non (nomark _)) (pss_one (ps_raiseN rfl M (hr7.mono (by decide)) (takes_of rfl rfl rfl rfl) (by rfl) (pa_cons pe_str pa_nil))) pss_nil)
      (pss_cons (ps_fld (pv 0) (pe_lock (pe_dc (own := [("thing", 3), ("number", 4)]) (g := gTup K 2 (gCons (gName 3) (gCons (gName 4) gNil))) (tt := tTest (tOp rNe (tFld K (tVar 4) "sign") (tC (.int 0)))) (tk := tVar 3) (tv := tVar 4) rfl scBI.nd (pi_items (pv 2)) (blkOk_by (N := ["self", "numbers", "told", "thing", "number", "word"]) (sc := defScope (balM 0)) (by decide +kernel)) (fun _ _ _ _ _ => pg_tup rfl (pgs_cons (pg_name (i := 3) scBI.nd rfl (Or.inl rfl)) (pgs_cons (pg_name (i := 4) scBI.nd rfl (Or.inl rfl)) pgs_nil))) (fun _ _ _ _ _ => pts_one (pt_cmpR op_ne (pe_fld (pv 4) rfl) pe_int (nomark _))) (fun _ _ _ _ _ => pv 3) (fun _ _ _ _ _ => pv 4))) (by rfl))
      (pss_cons (ps_fld (pv 0) (pe_callTy (call_tuple_dK rfl) (by rfl) bT PyProof.Rows.boot_tuple (pa_cons (pe_fld (pv 0) rfl) pa_nil)) (by rfl))
      (pss_cons (ps_fld (pv 0) (pe_cmpR op_eq (pe_callB call_len_seq (by rfl) bl PySem.boot_len (pa_cons (pe_fld (pv 0) rfl) pa_nil)) pe_int (nomark _)) (by rfl))
      (pss_one (ps_fld (pv 0) (pe_tupleOf (by rfl) bT (pe_lock (pe_lc2 (own := [("thing", 3), ("number", 4), ("word", 5)]) (vs1 := [5]) (g := gTup K 2 (gCons (gName 3) (gCons (gName 4) gNil))) (tt := tYes) (g1 := gName 5) (tt1 := tYes) (te := tVar 5) (wi1 := iTup K (tTup (tCons (tVar 3) (tCons (tFld K (tVar 4) "top") (tCons (tFld K (tVar 4) "bottom") tNil))))) rfl scBI.nd (pi_items (pe_fld (pv 0) rfl)) (blkOk_by (N := ["self", "numbers", "told", "thing", "number", "word"]) (sc := defScope (balM 0)) (by decide +kernel)) (by decide) (fun _ _ _ _ _ => pg_tup rfl (pgs_cons (pg_name (i := 3) scBI.nd rfl (Or.inl rfl)) (pgs_cons (pg_name (i := 4) scBI.nd rfl (Or.inl rfl)) pgs_nil))) (fun _ _ _ _ _ => pts_nil) (fun _ _ _ _ _ => pi_tup (pe_tup (pa_cons (pv 3) (pa_cons (pe_fld (pv 4) rfl) (pa_cons (pe_fld (pv 4) rfl) pa_nil)))))
        (fun _ _ _ _ _ => pg_name (i := 5) scBI.nd rfl (Or.inl rfl)) (fun _ _ _ _ _ => pts_nil) (fun _ _ _ _ _ => pv 5)))) (by rfl)))))))), ?_⟩
    have nN := T.no "_numbers" (by simp)
    have nT := T.no "things" (by simp)
    have nI := T.no "is_nothing" (by simp)
    have nK := T.no "key" (by simp)
    have rs := TR.no "sign" (by simp)
    have rt := TR.no "top" (by simp)
    have rb := TR.no "bottom" (by simp)
    refine ⟨_, rfl, d, kvs, ks, g, rfl, hd, hk, nd, lk, nm, fun r ys kvs1 H1 s1 nr py sy hr1 hR1 => ?_⟩
    refine ⟨_, rfl, rfl, false, rfl, iteF ?_⟩
    dsimp only [tNext, tSeq]
    have ha1 := s1 _ _ ha
    refine ⟨r, .dK kvs1, hr1, True.intro, fun od => ?_⟩
    refine ⟨_, rfl, r, od, kvs1, rfl, upd_same, fun D nD => ?_⟩
    have nDr : D ≠ r := fun e => by rw [e, upd_same] at nD; cases nD
    have nD1 : H1 D = none := by rw [upd_ne nDr] at nD; exact nD
    generalize hHL : upd H1 r (.frz od (.dK kvs1)) = HL at nD ⊢
    have hrL : HL r = some (.frz od (.dK kvs1)) := by rw [← hHL]; exact upd_same
    have hRL : RatD HL C g kvs1 ys := by
      rw [← hHL]
      exact RatD.upd_d hR1 hr1
    have ly : kvs1.length = ys.length := Paired.length hR1
    have lk2 : ys.length ≤ 60 := by rw [py.length_eq]; exact lk
    have nyd : ys.Nodup := py.nodup_iff.mpr nd
    refine dc_it walk_items (fun i Hx => Same HL Hx ∧ ∃ kvs', Hx D = some (.dK kvs') ∧ RatD Hx C g kvs' ((ys.take i).filter fun n => !decide ((g n).1 = 0))) ⟨same_upd nD, [], upd_same, .nil⟩ (fun i Hx _ hP => hP.1 _ _ hrL) (fun i x Hx Hx' hi hP hy => ?_) (fun Hx hP => ?_)
    · obtain ⟨TT, xk, xv, rfl, nTT, rfl, e1, e2⟩ := hy
      obtain ⟨s2, kvs', hD, hR⟩ := hP
      dsimp only at e1 e2
      obtain ⟨kv, ekv, e1⟩ := Option.map_eq_some_iff.mp e1
      rw [ekv] at e2
      obtain rfl : kv.2 = xv := by simpa using e2
      obtain ⟨n, en, ek, b, eb, dxb, hb⟩ := Paired.at' hRL i _ ekv
      rw [ek] at e1
      subst e1
      rw [eb]
      have s3 : Same Hx (upd Hx TT (.tup [kV (.inr n), .ref b])) := same_upd nTT
      generalize hH3 : upd Hx TT (.tup [kV (.inr n), .ref b]) = H3 at s3
      have hT3 : H3 TT = some (.tup [kV (.inr n), .ref b]) := by rw [← hH3]; exact upd_same
      have tk := take_succ_filter (fun n => !decide ((g n).1 = 0)) ys i n en
      refine ⟨TT, _, rfl, SqT.of hT3, rfl, _, _, rfl, _, _, rfl, rfl, rfl, ?_⟩
      refine ⟨_, rfl, b, C, dxb, _, _, rfl, s3 _ _ (s2 _ _ hb), TR.cls, rs, rfl, rfl, !decide ((g n).1 = 0), congrArg V.bl (by rw [sg_zero]), ite2 (fun c => ?_) (fun c => ?_)⟩
      · refine ⟨_, rfl, _, rfl, kvs', .inr n, rfl, s3 _ _ hD, ?_, fun c o e => ?_, _, upd_same, ?_⟩
        · have h1 := Paired.length hR
          have h2 := List.length_filter_le (fun n => !decide ((g n).1 = 0)) (ys.take i)
          have h3 := List.length_take (i := i) (l := ys)
          rw [sizeLine_eq]; omega
        · rw [upd_ne (ne_of_none e nD)]; exact s3 _ _ (s2 _ _ e)
        · rw [tk, if_pos c]
          have nt : n ∉ (ys.take i).filter fun n => !decide ((g n).1 = 0) := fun m => by
            obtain ⟨j, hj, ej⟩ := List.mem_take_iff_getElem.mp (List.mem_filter.mp m).1
            have h1 : ys[j]? = some n := by rw [List.getElem?_eq_getElem (by omega), ej]
            have lj : j < ys.length := by omega
            have h2 := (List.getElem?_inj lj nyd).mp (h1.trans en.symm)
            omega
          rw [putK_new _ (NumD.noVal hR.num nt)]
          exact Paired.snoc ((hR.same s3).upd_d (s3 _ _ hD)) ⟨rfl, b, rfl, RatAt.upd_d ⟨dxb, s3 _ _ (s2 _ _ hb)⟩ (s3 _ _ hD)⟩
      · refine ⟨s2.trans s3, kvs', s3 _ _ hD, ?_⟩
        rw [tk, if_neg c, List.append_nil]
        exact hR.same s3
    · obtain ⟨s2, kvs', hD, hR⟩ := hP
      rw [ly, List.take_length] at hR
      have lzs := Nat.le_trans (List.length_filter_le (fun n => !decide ((g n).1 = 0)) ys) lk2
      have k2 := k ys
      generalize (ys.filter fun n => !decide ((g n).1 = 0)) = zs at hR k2 lzs
      generalize hH2 : upd Hx r (.dK kvs1) = H2
      have s3 : Same H H2 := fun b o e => by
        rw [← hH2]
        by_cases eb : b = r
        · subst eb
          rw [nr] at e
          cases e
        · rw [upd_ne eb]
          refine s2 _ _ ?_
          rw [← hHL, upd_ne eb]
          exact s1 _ _ e
      have hD2 : H2 D = some (.dK kvs') := by rw [← hH2, upd_ne nDr]; exact hD
      have hR2 : RatD H2 C g kvs' zs := by rw [← hH2]; exact hR.upd_any fun dx fs z => by rw [s2 _ _ hrL] at z; cases z
      have nD0 : H D = none := s1.free nD1
      refine ⟨s2 _ _ hrL, _, rfl, a, CB, dx, [], rfl, s3 _ _ ha, T.cls, nN, by decide, ?_⟩
      have nDa : D ≠ a := fun e => by rw [e, ha] at nD0; cases nD0
      have hRu : ∀ {H' : Hp} {o : HO} {kv : List (Key × V)}, RatD H' C g kv zs → ∀ (fs : List (Str × V)), H' a = some (.ins CB dx fs) → RatD (upd H' a o) C g kv zs := fun {H' o kv} h fs e => h.upd_any fun dx2 fs2 z => by
        rw [e] at z
        injection z with z
        injection z with z
        exact nCB z.symm
      have lz : zs.length ≤ 60 := lzs
      have ha2 := s3 _ _ ha
      have bA : But a H (upd H2 a (.ins CB dx (putF "_numbers" (.ref D) []))) := But.upd fun b o _ e => s3 _ _ e
      have hRA := hRu (o := .ins CB dx (putF "_numbers" (.ref D) [])) hR2 _ ha2
      have hDA : (upd H2 a (.ins CB dx (putF "_numbers" (.ref D) []))) D = some (.dK kvs') := by rw [upd_ne nDa]; exact hD2
      have haA : (upd H2 a (.ins CB dx (putF "_numbers" (.ref D) []))) a = some (.ins CB dx (putF "_numbers" (.ref D) [])) := upd_same
      generalize upd H2 a (.ins CB dx (putF "_numbers" (.ref D) [])) = HA at bA hRA hDA haA ⊢
      clear hR2 hD2
      dsimp only [tSeq]
      refine ⟨_, rfl, a, CB, dx, _, _, rfl, haA, T.cls, nN, rfl, D, kvs', rfl, hDA, fun q nq => ?_⟩
      rw [NumD.keys hRA.num]
      have nqa : q ≠ a := fun e => by rw [e, haA] at nq; cases nq
      have nqD : q ≠ D := fun e => by rw [e, hDA] at nq; cases nq
      refine ⟨_, rfl, a, CB, dx, _, rfl, by rw [upd_ne (Ne.symm nqa)]; exact haA, T.cls, nT, by show 1 < 1000; decide, ?_⟩
      have nq0 : H q = none := bA.free ⟨_, haA⟩ nq
      have sB := same_upd (o := .tup (zs.map V.str)) nq
      have bB : But a H (upd (upd HA q (.tup (zs.map V.str))) a (.ins CB dx (putF "things" (.ref q) (putF "_numbers" (.ref D) [])))) := But.upd (bA.same sB)
      have hRB := hRu (o := .ins CB dx (putF "things" (.ref q) (putF "_numbers" (.ref D) []))) (hRA.same sB) _ (sB _ _ haA)
      have hDB : (upd (upd HA q (.tup (zs.map V.str))) a (.ins CB dx (putF "things" (.ref q) (putF "_numbers" (.ref D) [])))) D = some (.dK kvs') := by rw [upd_ne nDa]; exact sB _ _ hDA
      have haB : (upd (upd HA q (.tup (zs.map V.str))) a (.ins CB dx (putF "things" (.ref q) (putF "_numbers" (.ref D) [])))) a = some (.ins CB dx (putF "things" (.ref q) (putF "_numbers" (.ref D) []))) := upd_same
      have hqB : (upd (upd HA q (.tup (zs.map V.str))) a (.ins CB dx (putF "things" (.ref q) (putF "_numbers" (.ref D) [])))) q = some (.tup (zs.map V.str)) := by rw [upd_ne nqa, upd_same]
      generalize upd (upd HA q (.tup (zs.map V.str))) a (.ins CB dx (putF "things" (.ref q) (putF "_numbers" (.ref D) []))) = HB at bB hRB hDB haB hqB ⊢
      clear hRA hDA haA bA nq sB
      dsimp only [tSeq]
      refine ⟨_, rfl, a, CB, dx, _, _, rfl, haB, T.cls, nT, rfl, q, zs.map V.str, rfl, .inr (SqT.of hqB), rfl, ?_⟩
      rw [List.length_map]
      refine ⟨_, rfl, a, CB, dx, _, rfl, haB, T.cls, nI, by show 2 < 1000; decide, ?_⟩
      generalize hF3 : putF "is_nothing" (.bl (decide (V.int (zs.length : Nat) = V.int 0))) (putF "things" (.ref q) (putF "_numbers" (.ref D) [])) = F3
      have lF3 : F3.length < 1000 := by rw [← hF3]; show 3 < 1000; decide
      have lkF : F3.lookup ("_numbers" : Str) = some (V.ref D) := by rw [← hF3]; rfl
      have bC : But a H (upd HB a (.ins CB dx F3)) := bB.upd
      have hRC := hRu (o := .ins CB dx F3) hRB _ haB
      have hDC : (upd HB a (.ins CB dx F3)) D = some (.dK kvs') := by rw [upd_ne nDa]; exact hDB
      have hqC : (upd HB a (.ins CB dx F3)) q = some (.tup (zs.map V.str)) := by rw [upd_ne nqa]; exact hqB
      have haC : (upd HB a (.ins CB dx F3)) a = some (.ins CB dx F3) := upd_same
      generalize upd HB a (.ins CB dx F3) = HC at bC hRC hDC hqC haC ⊢
      clear hRB hDB haB bB hqB
      dsimp only [tSeq]
      refine ⟨D, .dK kvs', hDC, True.intro, fun od2 => ?_⟩
      refine ⟨_, rfl, a, CB, dx, _, _, rfl, by rw [upd_ne (Ne.symm nDa)]; exact haC, T.cls, nN, lkF, D, od2, kvs', rfl, upd_same, fun L nL => ?_⟩
      have nLD : L ≠ D := fun e => by rw [e, upd_same] at nL; cases nL
      have nLC : HC L = none := by rw [upd_ne nLD] at nL; exact nL
      have hRL2 : RatD (upd HC D (.frz od2 (.dK kvs'))) C g kvs' zs := hRC.upd_any fun dx fs z => by rw [hDC] at z; cases z
      generalize hHM : upd HC D (.frz od2 (.dK kvs')) = HM at nL hRL2 ⊢
      have hDM : HM D = some (.frz od2 (.dK kvs')) := by rw [← hHM]; exact upd_same
      refine lc_outer walk_items (fun i Hx => Same HM Hx ∧ Hx L = some (.lst (keyV g (zs.take i)))) ⟨same_upd nL, upd_same⟩ (fun i Hx _ hP => hP.1 _ _ hDM) (fun i x Hx Hx' hi hP hy => ?_) (fun Hx hP => ?_)
      · obtain ⟨TT, xk, xv, rfl, nTT, rfl, e1, e2⟩ := hy
        obtain ⟨s5, hL⟩ := hP
        dsimp only at e1 e2
        obtain ⟨kv, ekv, e1⟩ := Option.map_eq_some_iff.mp e1
        rw [ekv] at e2
        obtain rfl : kv.2 = xv := by simpa using e2
        obtain ⟨n, en, ek, b, eb, dxb, hb⟩ := Paired.at' hRL2 i _ ekv
        rw [ek] at e1
        subst e1
        rw [eb]
        have s6 : Same Hx (upd Hx TT (.tup [kV (.inr n), .ref b])) := same_upd nTT
        generalize hH3 : upd Hx TT (.tup [kV (.inr n), .ref b]) = H3 at s6
        have hT3 : H3 TT = some (.tup [kV (.inr n), .ref b]) := by rw [← hH3]; exact upd_same
        have hb3 := s6 _ _ (s5 _ _ hb)
        refine ⟨TT, _, rfl, SqT.of hT3, rfl, _, _, rfl, _, _, rfl, rfl, rfl, ?_⟩
        refine yesI ?_
        refine ⟨_, rfl, _, rfl, b, C, dxb, _, _, rfl, hb3, TR.cls, rt, rfl, _, rfl, b, C, dxb, _, _, rfl, hb3, TR.cls, rb, rfl, ?_, fun p np => ⟨p, rfl, ⟨_, SqT.of upd_same⟩, ?_⟩⟩
        · rw [sizeLine_eq]; show 3 ≤ 16777216; decide
        · have s7 := same_upd (o := .tup [V.str n, V.int (g n).1, V.int (g n).2]) np
          have hp : (upd H3 p (.tup [V.str n, V.int (g n).1, V.int (g n).2])) p = some (.tup [V.str n, V.int (g n).1, V.int (g n).2]) := upd_same
          have hL7 := s7 _ _ (s6 _ _ hL)
          have s8 : Same HM (upd H3 p (.tup [V.str n, V.int (g n).1, V.int (g n).2])) := (s5.trans s6).trans s7
          show ∃ W1 : Nat → Nat → Hp → Prop, (∃ m, W1 0 m (upd H3 p (.tup [V.str n, V.int (g n).1, V.int (g n).2]))) ∧ _
          generalize upd H3 p (.tup [V.str n, V.int (g n).1, V.int (g n).2]) = H7 at hp hL7 s8 ⊢
          refine lc_inner (walk_tup (xs := [V.str n, V.int (g n).1, V.int (g n).2])) (fun j Hy => Same HM Hy ∧ Hy p = some (.tup [V.str n, V.int (g n).1, V.int (g n).2]) ∧ Hy L = some (.lst (keyV g (zs.take i) ++ [V.str n, V.int (g n).1, V.int (g n).2].take j))) ⟨s8, hp, by rw [hL7, List.take_zero, List.append_nil]⟩ (fun j Hy _ hP => SqT.of hP.2.1) (fun j x Hy Hy' hj hP hy => ?_) (fun Hy hP => ?_)
          · obtain ⟨rfl, ex⟩ := hy
            obtain ⟨s9, hp9, hL9⟩ := hP
            refine ⟨rfl, ?_⟩
            refine yesI ?_
            have nLH : HM L = none := nL
            refine ⟨_, rfl, _, hL9, ?_, fun c o e => ?_, ?_, ?_⟩
            · have l1 := keyV_len g (zs.take i)
              have l2 := List.length_take (i := i) (l := zs)
              have l3 := List.length_take (i := j) (l := [V.str n, V.int (g n).1, V.int (g n).2])
              have l4 : [V.str n, V.int (g n).1, V.int (g n).2].length = 3 := rfl
              rw [List.length_append, sizeLine_eq]
              omega
            · rw [upd_ne (ne_of_none e nL)]; exact s9 _ _ e
            · rw [upd_ne (fun z => by rw [z, hL9] at hp9; cases hp9)]; exact hp9
            · rw [upd_same, List.append_assoc, List.take_add_one, ex]
              rfl
          · obtain ⟨s9, _, hL9⟩ := hP
            refine ⟨s9, ?_⟩
            rw [keyV_take en, hL9]
            rfl
      · obtain ⟨s5, hL⟩ := hP
        rw [Paired.length hRC, List.take_length] at hL
        generalize hHE : upd Hx D (.dK kvs') = HE
        have s6 : Same HC HE := fun b o e => by
          rw [← hHE]
          by_cases eb : b = D
          · subst eb
            rw [upd_same, ← hDC, e]
          · rw [upd_ne eb]
            refine s5 _ _ ?_
            rw [← hHM, upd_ne eb]
            exact e
        have hLE : HE L = some (.lst (keyV g zs)) := by rw [← hHE, upd_ne nLD]; exact hL
        refine ⟨s5 _ _ hDM, .inl ⟨L, keyV g zs, rfl, SqL.of hLE, fun q2 nq2 => ?_⟩⟩
        have haE := s6 _ _ haC
        have n2a : q2 ≠ a := fun e => by rw [e, haE] at nq2; cases nq2
        have n2D : q2 ≠ D := fun e => by rw [e, s6 _ _ hDC] at nq2; cases nq2
        have n2q : q2 ≠ q := fun e => by rw [e, s6 _ _ hqC] at nq2; cases nq2
        have sE := same_upd (o := .tup (keyV g zs)) nq2
        refine ⟨_, rfl, a, CB, dx, F3, rfl, sE _ _ haE, T.cls, nK, lF3, ?_⟩
        refine k2 D q q2 _ ((bC.same s6).same sE).upd py sy ?_ ⟨⟨kvs', ?_, ?_⟩, ?_, ?_⟩ nD0 nq0 ((bC.same s6).free ⟨_, haE⟩ nq2)
        · rw [upd_same, ← hF3]
          rfl
        · rw [upd_ne nDa]; exact sE _ _ (s6 _ _ hDC)
        · exact hRu ((hRC.same s6).same sE) _ (sE _ _ haE)
        · rw [upd_ne nqa]; exact sE _ _ (s6 _ _ hqC)
        · rw [upd_ne n2a, upd_same]
end
end K05
namespace K05
open PySem PySem.Spec PyProof.Rows L2 RatM ClX
/-! ### balances as values -/
/-- a balance of the things zs with the numbers g -/
def BalAt (H : Hp) (a CB C : Addr) (g : Str → Int × Int) (zs : List Str) : Prop := ∃ dx nd tp kt, H a = some (.ins CB dx (balF nd tp kt (decide (V.int (zs.length : Nat) = V.int 0)))) ∧ BalIn H C g zs nd tp kt
theorem BalIn.same {H H' : Hp} {C nd tp kt : Addr} {g : Str → Int × Int} {zs : List Str} (h : BalIn H C g zs nd tp kt) (s : Same H H') : BalIn H' C g zs nd tp kt := by
  obtain ⟨⟨kvs, e, r⟩, e1, e2⟩ := h
  exact ⟨⟨kvs, s _ _ e, r.same s⟩, s _ _ e1, s _ _ e2⟩
theorem BalAt.same {H H' : Hp} {a CB C : Addr} {g : Str → Int × Int} {zs : List Str} (h : BalAt H a CB C g zs) (s : Same H H') : BalAt H' a CB C g zs := by
  obtain ⟨dx, nd, tp, kt, e, i⟩ := h
  exact ⟨dx, nd, tp, kt, s _ _ e, i.same s⟩
/-- numbers other than 0 -/
abbrev nz (g : Str → Int × Int) (ys : List Str) : List Str := ys.filter fun n => !decide ((g n).1 = 0)
/-- the names that a dict may have as keys -/
structure NsOk (ks : List Str) : Prop where
  nd : ks.Nodup
  le : ks.length ≤ 60
  nm : ∀ n ∈ ks, n.length ≤ 100000 ∧ nameT n.cps.toList = true
/-- Balance(x) -/
def MkB (CB C : Addr) (x : V) (H : Hp) (Q : VK) : Prop := ∃ (d : Addr) (kvs : List (Key × V)) (ks : List Str) (g : Str → Int × Int), x = .ref d ∧ H d = some (.dK kvs) ∧ NumD H C g kvs ks ∧ NsOk ks ∧
  ∀ a ys H', Same H H' → H a = none → ys.Perm ks → sortedS ys = true → BalAt H' a CB C g (nz g ys) → Q (.ref a) H'
theorem mkB_sp {CB C : Addr} {x : V} {H : Hp} {Q : VK} {E : XK} (h : MkB CB C x H Q) (a dx : Addr) (na : H a = none) (nd : H dx = none) (ne : dx ≠ a) :
    spBI C CB [.ref a, x] (upd (upd H dx (.own a)) a (.ins CB dx [])) (fun v H2 => v = .non ∧ Q (.ref a) H2) E := by
  obtain ⟨d, kvs, ks, g, rfl, hd, hk, ok, k⟩ := h
  have s1 : Same H (upd (upd H dx (.own a)) a (.ins CB dx [])) := fun b o e => by rw [upd_ne (ne_of_none e na), upd_ne (ne_of_none e nd)]; exact e
  refine ⟨a, dx, d, kvs, ks, g, rfl, upd_same, s1 _ _ hd, hk.same s1, ok.nd, ok.le, ok.nm, fun ys nd' tp kt H' off py sy at_ bi n1 n2 n3 => ⟨rfl, k a ys H' (fun b o e => off b o (ne_of_none e na) (s1 b o e)) na py sy ⟨dx, nd', tp, kt, at_, bi⟩⟩⟩
/-- what the functions of balances rest on -/
structure BalK (P : Program) (w : World) (K : PySem.W.Frag) (mg : Str → Option Value) (base : Heap) (CB C : Addr) : Prop where
  T : BalC K CB
  n : C ≠ CB
  g : mg "Balance" = some (.ref CB)
  make : ∃ (f : Addr) (fd : FuncData), Mk K CB f ∧ FnOk P w K mg base (L2.CX P w) 8 f fd ["self", "numbers"] (spBI C CB) ∧ Binds K fd ["self", "numbers"] []
section
variable {X : Cx} {CB C : Addr} {E : XK} {p pos : Pos} {e1 : Expr} {ta : TA}
def tBal (CB C : Addr) (ta : TA) : TE := fun σ H Q => ta σ H fun vs H1 => ∃ x, vs = [x] ∧ MkB CB C x H1 Q
theorem pe_bal {P : Program} {w : World} {K : PySem.W.Frag} {mg : Str → Option Value} {base : Heap} (R : BalK P w K mg base CB C) (hr : Room 9 X.A) (hx : Passes (L2.CX X.prog X.w) X E) (hg : Gl X "Balance") (ha : PA X [e1] ta)
    (h1 : X.prog = P := by rfl) (h2 : X.w = w := by rfl) (h3 : X.K = K := by rfl) (h4 : X.mg = mg := by rfl) (h5 : X.base = base := by rfl)
    (he : starEach [e1] X.env = (false, eval e1 X.env) :: starEach [] X.env := by rfl) (hpl : (backTo pos (starEach [] X.env)).any (·.1) = false := by rfl) :
    PE X (.Call (.Name "Balance" p) [e1] [] pos) (tBal CB C ta) := by
  subst h1 h2 h3 h4 h5
  obtain ⟨f, fd, M, F, b0⟩ := R.make
  refine ⟨fun pins s σ H Q I h => ?_⟩
  refine wpAny_Call_Name_kw (ld_glob I hg R.g ?_ (by decide))
  refine PySem.W.callWith_K (h₀ := X.base) I.ok.mod.kin M.kp (thn (ha.run pos pins s σ H _ I h) fun us s1 ⟨vs, H1, I1, r, q⟩ => ⟨I1.kIn, ?_⟩) he hpl
  obtain ⟨x, rfl, q⟩ := q
  exact run_make (dvs := []) (E := E) M F hr b0 .nil hx I1 r fun a dx na nd ne => mkB_sp q a dx na nd ne
end
end K05
namespace K05
open PySem PySem.Spec PyProof.Rows L2 RatM ClX
/-- the number of a thing -/
def num (g : Str → Int × Int) (zs : List Str) (n : Str) : Int × Int := if n ∈ zs then g n else (0, 1)
theorem RatD.val {H : Hp} {C : Addr} {g : Str → Int × Int} {kvs : List (Key × V)} {ks : List Str} (h : RatD H C g kvs ks) {n : Str} (m : n ∈ ks) : ∃ v, valV kvs (.inr n) = some v ∧ ∃ b, v = .ref b ∧ RatAt H b C (g n).1 (g n).2 := by
  induction h with
  | nil => cases m
  | @cons x y l1 l2 h t ih =>
    by_cases e : y = n
    · subst e
      exact ⟨x.2, valV_pos h.1, h.2⟩
    · have ne : ¬ x.1 = Sum.inr n := fun z => e (by rw [h.1] at z; injection z)
      rw [valV_neg ne]
      exact ih (by cases m with
        | head => exact absurd rfl e
        | tail _ m => exact m)
def spNum (CB C : Addr) : Sp := fun vs H Q _ => ∃ (a : Addr) (n : Str) (g : Str → Int × Int) (zs : List Str), vs = [.ref a, .str n] ∧ BalAt H a CB C g zs ∧ n.length ≤ 100000 ∧ nameT n.cps.toList = true ∧ ∀ r H', Same H H' → RatAt H' r C (num g zs n).1 (num g zs n).2 → Q (.ref r) H'
section
variable {P : Program} {w : World} {K : PySem.W.Frag} {mg : Str → Option Value} {base : Heap} {C BR CB BB : Addr}
theorem scNo : FnScope ["self", "thing"] ["self", "thing"] (defScope (balM 3)) := ⟨rfl, rfl, rfl, by decide +kernel, rfl, by decide +kernel, by decide +kernel⟩
theorem ok_numberOf {f fM : Addr} {fd fdM : FuncData} (F : MtP K "number_of" "Balance.number_of" (balM 3) f fd) (T : BalC K CB) (R : RatK P w K mg base C BR)
    (GM : FnOk P w K mg base CX0 1 fM fdM ["value"] (spNm K)) (bM : Binds K fdM ["value"] []) (kM : PySem.W.keepIn K (.ref fM) = true) (gM : mg "is_name" = some (.ref fM)) :
    FnOk P w K mg base CX0 5 f fd ["self", "thing"] (spNum CB C) := by
  refine F.ok scNo (fun vs H Q E h => ?_) (fun cdv A outer s H vs Q E hr h => ?_)
  · obtain ⟨a, n, g, zs, rfl, _⟩ := h
    rfl
  · obtain ⟨a, n, g, zs, rfl, hb, ln, tn, k⟩ := h
    have hr4 : Room 4 _ := hr
    have hu1 : (A.deeper (envOfC (Str.ofString "Balance.number_of") (defScope (balM 3)) s.heap.objs.size f cdv)).units + 1 < cLine := by have := hr4.units; omega
    refine ⟨_, PSs.nox (pss_one (ps_ret (pe_ifExp (pt_val (pe_call GM (hr4.mono (by decide)) rfl gM kM bM .nil pass0 (pa_cons (pv 1) pa_nil))) (pe_dget2 hu1 (pe_fld (pv 0) rfl) (pv 1) (pe_rat1 R (by exact hr4) (E := E0) passL rfl (pa_cons pe_int pa_nil)) ⟨rfl, rfl, rfl, rfl⟩)
      (pe_rat1 R (by exact hr4) (E := E0) passL rfl (pa_cons pe_int pa_nil))))), ?_⟩
    obtain ⟨dx, nd, tp, kt, ha, ⟨kvs, hd, hR⟩, ht, hk⟩ := hb
    refine ⟨_, rfl, _, rfl, .inl ⟨n, rfl, ln, fun H1 s1 => ⟨true, congrArg V.bl tn, iteT ?_⟩⟩⟩
    refine ⟨_, rfl, a, CB, dx, _, _, rfl, s1 _ _ ha, T.cls, T.no "_numbers" (by simp), rfl, nd, rfl, .inl ⟨kvs, .inl (s1 _ _ hd)⟩, _, rfl, _, rfl, .inl ⟨0, 1, rfl, rfl, by decide, by decide, by decide, fun r H2 s2 h2 => ⟨_, DGet.k (k := .inr n) (s2 _ _ (s1 _ _ hd)), ?_⟩⟩⟩
    by_cases m : n ∈ zs
    · obtain ⟨v', ev', b, eb, hb⟩ := RatD.val hR m
      rw [ev', eb]
      refine k b H2 (s1.trans s2) ?_
      unfold num
      rw [if_pos m]
      exact hb.same (s1.trans s2)
    · rw [NumD.noVal hR.num m]
      refine k r H2 (s1.trans s2) ?_
      unfold num
      rw [if_neg m]
      exact h2
end
end K05
namespace K05
open PySem PySem.Spec PyProof.Rows L2 RatM ClX
/-! ### dict comprehensions that make balances -/
/-- so far: the things ahead that f lets through, with the numbers g -/
def DcP (HL : Hp) (D C : Addr) (g : Str → Int × Int) (f : Str → Bool) (zs : List Str) (i : Nat) (Hx : Hp) : Prop := Same HL Hx ∧ ∃ kvs', Hx D = some (.dK kvs') ∧ RatD Hx C g kvs' ((zs.take i).filter f)
section
variable {HL Hx H5 H1 H' : Hp} {D C nd b : Addr} {g : Str → Int × Int} {f : Str → Bool} {zs : List Str} {kvs : List (Key × V)} {i : Nat} {n : Str} {x : V} {od : Obj}
theorem DcP.zero (nD : HL D = none) : DcP HL D C g f zs 0 (upd HL D (.dK [])) := ⟨same_upd nD, [], upd_same, .nil⟩
theorem DcP.skip (h : DcP HL D C g f zs i Hx) (s : Same Hx H5) (en : zs[i]? = some n) (hf : f n = false) : DcP HL D C g f zs (i + 1) H5 := by
  obtain ⟨s2, kvs', hD, hR⟩ := h
  refine ⟨s2.trans s, kvs', s _ _ hD, ?_⟩
  have tk := take_succ_filter f zs i n en
  rw [tk, hf]
  simp only [Bool.false_eq_true, if_false, List.append_nil]
  exact hR.same s
theorem DcP.put (h : DcP HL D C g f zs i Hx) (nD : HL D = none) (ok : NsOk zs) (s : Same Hx H5) (en : zs[i]? = some n) (hf : f n = true) (hb : RatAt H5 b C (g n).1 (g n).2) :
    ∃ kvs k, (V.str n) = kV k ∧ H5 D = some (.dK kvs) ∧ kvs.length < sizeLine ∧ DcP HL D C g f zs (i + 1) (upd H5 D (.dK (putK kvs k (.ref b)))) := by
  obtain ⟨s2, kvs', hD, hR⟩ := h
  refine ⟨kvs', .inr n, rfl, s _ _ hD, ?_, fun c o e => ?_, _, upd_same, ?_⟩
  · have h1 := Paired.length hR
    have h2 := List.length_filter_le f (zs.take i)
    have h3 := List.length_take (i := i) (l := zs)
    have h4 := ok.le
    rw [sizeLine_eq]; omega
  · rw [upd_ne (ne_of_none e nD)]; exact s _ _ (s2 _ _ e)
  · have tk := take_succ_filter f zs i n en
    rw [tk, hf]
    have nt : n ∉ (zs.take i).filter f := fun m => by
      obtain ⟨j, hj, ej⟩ := List.mem_take_iff_getElem.mp (List.mem_filter.mp m).1
      have h1 : zs[j]? = some n := by rw [List.getElem?_eq_getElem (by omega), ej]
      have lj : j < zs.length := by omega
      have h2 := (List.getElem?_inj lj ok.nd).mp (h1.trans en.symm)
      omega
    rw [putK_new _ (NumD.noVal hR.num nt)]
    exact Paired.snoc ((hR.same s).upd_d (s _ _ hD)) ⟨rfl, b, rfl, RatAt.upd_d hb (s _ _ hD)⟩
theorem DcP.done (h : DcP HL D C g f zs zs.length Hx) : Same HL Hx ∧ ∃ kvs', Hx D = some (.dK kvs') ∧ RatD Hx C g kvs' (zs.filter f) := by
  unfold DcP at h
  rw [List.take_length] at h
  exact h
theorem items_turn (hRL : RatD HL C g kvs zs) (s2 : Same HL Hx) (hy : YPair (fun i => kvs[i]?.map fun kv => kV kv.1) (fun i => kvs[i]?.map Prod.snd) i Hx x H') :
    ∃ TT n b, zs[i]? = some n ∧ x = .ref TT ∧ Same Hx H' ∧ H' TT = some (.tup [.str n, .ref b]) ∧ RatAt H' b C (g n).1 (g n).2 := by
  obtain ⟨TT, xk, xv, rfl, nTT, rfl, e1, e2⟩ := hy
  dsimp only at e1 e2
  obtain ⟨kv, ekv, e1⟩ := Option.map_eq_some_iff.mp e1
  rw [ekv] at e2
  obtain rfl : kv.2 = xv := by simpa using e2
  obtain ⟨n, en, ek, b, eb, hb⟩ := Paired.at' hRL i _ ekv
  rw [ek] at e1
  subst e1
  rw [eb]
  have s3 : Same Hx (upd Hx TT (.tup [kV (.inr n), .ref b])) := same_upd nTT
  exact ⟨TT, n, b, en, rfl, s3, upd_same, hb.same (s2.trans s3)⟩
theorem unlock_same (hd : H1 nd = some (.dK kvs)) (s : Same (upd H1 nd (.frz od (.dK kvs))) Hx) : Same H1 (upd Hx nd (.dK kvs)) := fun b o e => by
  by_cases eb : b = nd
  · subst eb
    rw [upd_same, ← hd, e]
  · rw [upd_ne eb]
    refine s _ _ ?_
    rw [upd_ne eb]
    exact e
theorem sg_pos (p : Int) : decide (0 < b2i (decide (0 < p)) - b2i (decide (p < 0))) = decide (0 < p) := by
  refine decide_eq_decide.mpr ?_
  unfold b2i
  by_cases h1 : 0 < p
  · have h2 : ¬ p < 0 := by omega
    simp [h1, h2]
  · by_cases h2 : p < 0 <;> simp [h1, h2]
theorem sg_neg (p : Int) : decide (b2i (decide (0 < p)) - b2i (decide (p < 0)) < 0) = decide (p < 0) := by
  refine decide_eq_decide.mpr ?_
  unfold b2i
  by_cases h1 : 0 < p
  · have h2 : ¬ p < 0 := by omega
    simp [h1, h2]
  · by_cases h2 : p < 0 <;> simp [h1, h2]
end
/-- a balance's things and numbers, as it keeps them -/
structure BalOk (g : Str → Int × Int) (zs : List Str) : Prop where
  ns : NsOk zs
  so : sortedS zs = true
  ne : ∀ n ∈ zs, (g n).1 ≠ 0
theorem BalOk.nz {g : Str → Int × Int} {zs : List Str} (h : BalOk g zs) : nz g zs = zs := List.filter_eq_self.mpr fun n m => by simp [h.ne n m]
theorem NsOk.filter {zs : List Str} (h : NsOk zs) (f : Str → Bool) : NsOk (zs.filter f) := ⟨h.nd.filter _, Nat.le_trans (List.length_filter_le _ _) h.le, fun n m => h.nm n (List.mem_filter.mp m).1⟩
theorem NsOk.perm {zs ys : List Str} (h : NsOk zs) (p : ys.Perm zs) : NsOk ys := ⟨p.nodup_iff.mpr h.nd, by rw [p.length_eq]; exact h.le, fun n m => h.nm n (p.mem_iff.mp m)⟩
theorem BalOk.filter {g : Str → Int × Int} {zs : List Str} (h : BalOk g zs) (f : Str → Bool) : BalOk g (zs.filter f) := ⟨h.ns.filter f, sorted_filter f h.so, fun n m => h.ne n (List.mem_filter.mp m).1⟩
/-- a balance made of names in order -/
theorem MkB.of {CB C d : Addr} {kvs : List (Key × V)} {ks : List Str} {g : Str → Int × Int} {H : Hp} {Q : VK} (hd : H d = some (.dK kvs)) (hk : NumD H C g kvs ks) (ok : NsOk ks) (so : sortedS ks = true)
    (k : ∀ a H', Same H H' → H a = none → BalAt H' a CB C g (K05.nz g ks) → Q (.ref a) H') : MkB CB C (.ref d) H Q :=
  ⟨d, kvs, ks, g, rfl, hd, hk, ok, fun a ys H' s n py sy hb => by
    obtain rfl := sorted_unique sy so py
    exact k a H' s n hb⟩
end K05
namespace K05
open PySem PySem.Spec PyProof.Rows L2 RatM ClX
def spGains (CB C : Addr) : Sp := fun vs H Q _ => ∃ (a : Addr) (g : Str → Int × Int) (zs : List Str), vs = [.ref a] ∧ BalAt H a CB C g zs ∧ BalOk g zs ∧ ∀ a' H', Same H H' → BalAt H' a' CB C g (zs.filter fun n => decide (0 < (g n).1)) → Q (.ref a') H'
section
variable {P : Program} {w : World} {K : PySem.W.Frag} {mg : Str → Option Value} {base : Heap} {C BR CB BB : Addr}
theorem scGn : FnScope ["self", "thing", "number"] ["self"] (defScope (balM 4)) := ⟨rfl, rfl, rfl, by decide +kernel, rfl, by decide +kernel, by decide +kernel⟩
theorem ok_gains {f : Addr} {fd : FuncData} (F : MtP K "gains" "Balance.gains" (balM 4) f fd) (B : BalK P w K mg base CB C) (TR : RatC K C) :
    FnOk P w K mg base CX0 10 f fd ["self"] (spGains CB C) := by
  refine F.ok scGn (fun vs H Q E h => ?_) (fun cdv A outer s H vs Q E hr h => ?_)
  · obtain ⟨a, g, zs, rfl, _⟩ := h
    rfl
  · obtain ⟨a, g, zs, rfl, hb, ok, k⟩ := h
    have hr9 : Room 9 _ := hr
    refine ⟨_, PSs.nox (pss_one (ps_ret (pe_bal B (by exact hr9) (E := E0) passL rfl (pa_cons (pe_lock (pe_dc (own := [("thing", 1), ("number", 2)]) (g := gTup K 2 (gCons (gName 1) (gCons (gName 2) gNil))) (tt := tTest (tOp (rI0 fun i j => .bl (decide (j < i))) (tFld K (tVar 2) "sign") (tC (.int 0)))) (tk := tVar 1) (tv := tVar 2) rfl scGn.nd (pi_items (pe_fld (pv 0) rfl)) (blkOk_by (N := ["self", "thing", "number"]) (sc := defScope (balM 4)) (by decide +kernel))
      (fun _ _ _ _ _ => pg_tup rfl (pgs_cons (pg_name (i := 1) scGn.nd rfl (Or.inl rfl)) (pgs_cons (pg_name (i := 2) scGn.nd rfl (Or.inl rfl)) pgs_nil))) (fun _ _ _ _ _ => pts_one (pt_cmpR op_gt (pe_fld (pv 2) rfl) pe_int (nomark _))) (fun _ _ _ _ _ => pv 1) (fun _ _ _ _ _ => pv 2))) pa_nil)))), ?_⟩
    obtain ⟨dx, nd, tp, kt, ha, ⟨kvs, hd, hR⟩, ht, hk⟩ := hb
    have nN := B.T.no "_numbers" (by simp)
    have rs := TR.no "sign" (by simp)
    refine ⟨nd, .dK kvs, hd, True.intro, fun od => ?_⟩
    have nda : a ≠ nd := fun e => by rw [e, hd] at ha; cases ha
    refine ⟨_, rfl, a, CB, dx, _, _, rfl, (upd_ne nda).trans ha, B.T.cls, nN, rfl, nd, od, kvs, rfl, upd_same, fun D nD => ?_⟩
    have nDn : D ≠ nd := fun e => by rw [e, upd_same] at nD; cases nD
    have hRL : RatD (upd H nd (.frz od (.dK kvs))) C g kvs zs := hR.upd_d hd
    have hdL : (upd H nd (.frz od (.dK kvs))) nd = some (.frz od (.dK kvs)) := upd_same
    have ul : ∀ Hx, Same (upd H nd (.frz od (.dK kvs))) Hx → Same H (upd Hx nd (.dK kvs)) := fun Hx s => unlock_same hd s
    generalize upd H nd (.frz od (.dK kvs)) = HL at nD hRL hdL ul ⊢
    refine dc_it walk_items (DcP HL D C g (fun n => decide (0 < (g n).1)) zs) (DcP.zero nD) (fun i Hx _ hP => hP.1 _ _ hdL) (fun i x Hx Hx' hi hP hy => ?_) (fun Hx hP => ?_)
    · obtain ⟨TT, n, b, en, rfl, s3, hT, hb⟩ := items_turn hRL hP.1 hy
      obtain ⟨dxb, hb'⟩ := hb
      refine ⟨TT, _, rfl, SqT.of hT, rfl, _, _, rfl, _, _, rfl, rfl, rfl, ?_⟩
      refine ⟨_, rfl, b, C, dxb, _, _, rfl, hb', TR.cls, rs, rfl, _, _, rfl, rfl, decide (0 < (g n).1), congrArg V.bl (sg_pos _), ite2 (fun c => ?_) (fun c => ?_)⟩
      · exact ⟨_, rfl, _, rfl, hP.put nD ok.ns s3 en c ⟨dxb, hb'⟩⟩
      · exact hP.skip s3 en (by simpa using c)
    · rw [Paired.length hR] at hP
      obtain ⟨s2, kvs', hD, hR2⟩ := hP.done
      refine ⟨s2 _ _ hdL, _, rfl, ?_⟩
      refine MkB.of ((upd_ne nDn).trans hD) (RatD.num (hR2.upd_any fun dx fs z => by rw [s2 _ _ hdL] at z; cases z)) (ok.ns.filter _) (sorted_filter _ ok.so) fun a' H' s n hb => ?_
      rw [(ok.filter _).nz] at hb
      exact k a' H' ((ul _ s2).trans s) hb
end
end K05
namespace K05
open PySem PySem.Spec PyProof.Rows L2 RatM ClX
/-- numbers in lowest terms, below 2 ^ B -/
structure BalLo (B : Nat) (g : Str → Int × Int) (zs : List Str) : Prop where
  lo : ∀ n ∈ zs, 0 < (g n).2 ∧ Int.gcd (g n).1 (g n).2 = 1
  sz : ∀ n ∈ zs, (g n).1.natAbs < 2 ^ B ∧ (g n).2.natAbs < 2 ^ B
theorem sz_of {B : Nat} {p : Int} (h : p.natAbs < 2 ^ B) (hB : B ≤ 1900) : Sz p := Nat.lt_of_lt_of_le h (Nat.pow_le_pow_right (by decide) hB)
theorem BalOk.neg {g : Str → Int × Int} {zs : List Str} (h : BalOk g zs) : BalOk (fun n => (-(g n).1, (g n).2)) zs := ⟨h.ns, h.so, fun n m => by have := h.ne n m; show -(g n).1 ≠ 0; omega⟩
theorem BalLo.neg {B : Nat} {g : Str → Int × Int} {zs : List Str} (h : BalLo B g zs) : BalLo B (fun n => (-(g n).1, (g n).2)) zs := ⟨fun n m => ⟨(h.lo n m).1, by show Int.gcd (-(g n).1) (g n).2 = 1; rw [Int.neg_gcd]; exact (h.lo n m).2⟩, fun n m => ⟨by show (-(g n).1).natAbs < _; rw [Int.natAbs_neg]; exact (h.sz n m).1, (h.sz n m).2⟩⟩
def spLosses (CB C : Addr) : Sp := fun vs H Q _ => ∃ (a : Addr) (g : Str → Int × Int) (zs : List Str), vs = [.ref a] ∧ BalAt H a CB C g zs ∧ BalOk g zs ∧ BalLo 1900 g zs ∧ ∀ a' H', Same H H' → BalAt H' a' CB C (fun n => (-(g n).1, (g n).2)) (zs.filter fun n => decide ((g n).1 < 0)) → Q (.ref a') H'
section
variable {P : Program} {w : World} {K : PySem.W.Frag} {mg : Str → Option Value} {base : Heap} {C BR CB BB : Addr}
theorem scLs2 : FnScope ["self", "thing", "number"] ["self"] (defScope (balM 5)) := ⟨rfl, rfl, rfl, by decide +kernel, rfl, by decide +kernel, by decide +kernel⟩
theorem ok_losses {f : Addr} {fd : FuncData} (F : MtP K "losses" "Balance.losses" (balM 5) f fd) (B : BalK P w K mg base CB C) (TR : RatC K C) {fN : Addr} {fdN : FuncData} (MN : OwnM K C "__neg__" fN) (GN : FnOk P w K mg base (L2.CX P w) 5 fN fdN ["self"] (spSelf K C fun p => -p)) (bN : Binds K fdN ["self"] []) :
    FnOk P w K mg base CX0 10 f fd ["self"] (spLosses CB C) := by
  refine F.ok scLs2 (fun vs H Q E h => ?_) (fun cdv A outer s H vs Q E hr h => ?_)
  · obtain ⟨a, g, zs, rfl, _⟩ := h
    rfl
  · obtain ⟨a, g, zs, rfl, hb, ok, lo, k⟩ := h
    have hr9 : Room 9 _ := hr
    refine ⟨_, PSs.nox (pss_one (ps_ret (pe_bal B (by exact hr9) (E := E0) passL rfl (pa_cons (pe_lock (pe_dc (own := [("thing", 1), ("number", 2)]) (g := gTup K 2 (gCons (gName 1) (gCons (gName 2) gNil))) (tt := tTest (tOp (rI0 fun i j => .bl (decide (i < j))) (tFld K (tVar 2) "sign") (tC (.int 0)))) (tk := tVar 1) (tv := tUn (rOwn1 C (spSelf K C fun p => -p) E0) (tVar 2)) rfl scLs2.nd (pi_items (pe_fld (pv 0) rfl)) (blkOk_by (N := ["self", "thing", "number"]) (sc := defScope (balM 5)) (by decide +kernel))
      (fun _ _ _ _ _ => pg_tup rfl (pgs_cons (pg_name (i := 1) scLs2.nd rfl (Or.inl rfl)) (pgs_cons (pg_name (i := 2) scLs2.nd rfl (Or.inl rfl)) pgs_nil))) (fun _ _ _ _ _ => pts_one (pt_cmpR op_lt (pe_fld (pv 2) rfl) pe_int (nomark _))) (fun _ _ _ _ _ => pv 1) (fun _ _ _ _ _ => pe_un (un_ownNeg MN GN (by exact hr9.mono (by decide)) bN (E := E0) passL) (pv 2)))) pa_nil)))), ?_⟩
    obtain ⟨dx, nd, tp, kt, ha, ⟨kvs, hd, hR⟩, ht, hk⟩ := hb
    have nN := B.T.no "_numbers" (by simp)
    have rs := TR.no "sign" (by simp)
    refine ⟨nd, .dK kvs, hd, True.intro, fun od => ?_⟩
    have nda : a ≠ nd := fun e => by rw [e, hd] at ha; cases ha
    refine ⟨_, rfl, a, CB, dx, _, _, rfl, (upd_ne nda).trans ha, B.T.cls, nN, rfl, nd, od, kvs, rfl, upd_same, fun D nD => ?_⟩
    have nDn : D ≠ nd := fun e => by rw [e, upd_same] at nD; cases nD
    have hRL : RatD (upd H nd (.frz od (.dK kvs))) C g kvs zs := hR.upd_d hd
    have hdL : (upd H nd (.frz od (.dK kvs))) nd = some (.frz od (.dK kvs)) := upd_same
    have ul : ∀ Hx, Same (upd H nd (.frz od (.dK kvs))) Hx → Same H (upd Hx nd (.dK kvs)) := fun Hx s => unlock_same hd s
    generalize upd H nd (.frz od (.dK kvs)) = HL at nD hRL hdL ul ⊢
    refine dc_it walk_items (DcP HL D C (fun n => (-(g n).1, (g n).2)) (fun n => decide ((g n).1 < 0)) zs) (DcP.zero nD) (fun i Hx _ hP => hP.1 _ _ hdL) (fun i x Hx Hx' hi hP hy => ?_) (fun Hx hP => ?_)
    · obtain ⟨TT, n, b, en, rfl, s3, hT, hb⟩ := items_turn hRL hP.1 hy
      obtain ⟨dxb, hb'⟩ := hb
      refine ⟨TT, _, rfl, SqT.of hT, rfl, _, _, rfl, _, _, rfl, rfl, rfl, ?_⟩
      refine ⟨_, rfl, b, C, dxb, _, _, rfl, hb', TR.cls, rs, rfl, _, _, rfl, rfl, decide ((g n).1 < 0), congrArg V.bl (sg_neg _), ite2 (fun c => ?_) (fun c => ?_)⟩
      · have mn := List.mem_of_getElem? en
        obtain ⟨l1, l2⟩ := lo.neg.lo n mn
        have e := low_self l1 l2
        refine ⟨_, rfl, _, rfl, b, rfl, ⟨dxb, _, hb'⟩, b, _, _, rfl, ⟨dxb, hb'⟩, (lo.sz n mn).1, (lo.sz n mn).2, by have := (lo.lo n mn).1; omega, fun b' H5 s5 h5 => ?_⟩
        rw [show lowT (-(g n).1) (g n).2 = -(g n).1 from e.1, show lowB (-(g n).1) (g n).2 = (g n).2 from e.2] at h5
        exact hP.put nD ok.ns (s3.trans s5) en c h5
      · exact hP.skip s3 en (by simpa using c)
    · rw [Paired.length hR] at hP
      obtain ⟨s2, kvs', hD, hR2⟩ := hP.done
      refine ⟨s2 _ _ hdL, _, rfl, ?_⟩
      refine MkB.of ((upd_ne nDn).trans hD) (RatD.num (hR2.upd_any fun dx fs z => by rw [s2 _ _ hdL] at z; cases z)) (ok.ns.filter _) (sorted_filter _ ok.so) fun a' H' s n hb => ?_
      rw [(ok.neg.filter _).nz] at hb
      exact k a' H' ((ul _ s2).trans s) hb
end
end K05
namespace K05
open PySem PySem.Spec PyProof.Rows L2 RatM ClX
/-- times r -/
def mulF (g : Str → Int × Int) (r : Int × Int) : Str → Int × Int := fun n => (lowT ((g n).1 * r.1) ((g n).2 * r.2), lowB ((g n).1 * r.1) ((g n).2 * r.2))
/-- the operators of ratios, and a balance's numbers, as the defs of balances call them -/
structure OpsK (P : Program) (w : World) (K : PySem.W.Frag) (mg : Str → Option Value) (base : Heap) (CB C BR : Addr) : Prop where
  R : RatK P w K mg base C BR
  B : BalK P w K mg base CB C
  sf : PySem.W.selfFirst K C = true
  odd : ∀ T ∈ oddTypes, PySem.W.kitOne K (.type T) (.ref C) = some false
  add : ∃ (f : Addr) (fd : FuncData), OpF K C Operator.Add.info.2 f ∧ FnOk P w K mg base (L2.CX P w) 6 f fd ["self", "other"] (spArith K C BR fun p q p' q' => p * q' + p' * q) ∧ Binds K fd ["self", "other"] []
  mul : ∃ (f : Addr) (fd : FuncData), OpF K C Operator.Mult.info.2 f ∧ FnOk P w K mg base (L2.CX P w) 6 f fd ["self", "other"] (spArith K C BR fun p q p' q' => p * p') ∧ Binds K fd ["self", "other"] []
  num : ∃ (f : Addr) (fd : FuncData), Meth K CB "number_of" f ∧ FnOk P w K mg base CX0 5 f fd ["self", "thing"] (spNum CB C) ∧ Binds K fd ["self", "thing"] []
  isr : ∃ (f : Addr) (fd : FuncData), FnOk P w K mg base CX0 2 f fd ["value"] (spIsR K C) ∧ Binds K fd ["value"] [] ∧ PySem.W.keepIn K (.ref f) = true ∧ mg "is_ratio" = some (.ref f)
def spTimes (CB C : Addr) : Sp := fun vs H Q _ => ∃ (a : Addr) (y : V) (g : Str → Int × Int) (zs : List Str) (r : Int × Int), vs = [.ref a, y] ∧ BalAt H a CB C g zs ∧ BalOk g zs ∧ BalLo 1900 g zs ∧ NumAt H C y r.1 r.2 ∧ Sz r.1 ∧ Sz r.2 ∧ r.2 ≠ 0 ∧
  ∀ a' H', Same H H' → BalAt H' a' CB C (mulF g r) (nz (mulF g r) zs) → Q (.ref a') H'
section
variable {P : Program} {w : World} {K : PySem.W.Frag} {mg : Str → Option Value} {base : Heap} {C BR CB BB : Addr}
theorem scTm : FnScope ["balance", "ratio", "thing"] ["balance", "ratio"] (defScope (top 38)) := ⟨rfl, rfl, rfl, by decide +kernel, rfl, by decide +kernel, by decide +kernel⟩
theorem ok_times {f : Addr} {fd : FuncData} {BX : Addr} (F : FnP K "_times" (top 38) f fd) (O : OpsK P w K mg base CB C BR) (M : ErrN P w K mg base "BadNumber" BX ["part"]) :
    FnOk P w K mg base (L2.CX P w) 10 f fd ["balance", "ratio"] (spTimes CB C) := by
  obtain ⟨fI, fdI, GI, bI, kI, gI⟩ := O.isr
  obtain ⟨fM, fdM, OM, GM, bM⟩ := O.mul
  obtain ⟨fN, fdN, MN, GN, bN⟩ := O.num
  have B := O.B
  refine F.ok scTm (fun vs H Q E h => ?_) (fun cdv A outer s H vs Q E hr h => ?_)
  · obtain ⟨a, y, g, zs, r, rfl, _⟩ := h
    rfl
  · obtain ⟨a, y, g, zs, r, rfl, hb, ok, lo, hy, r1, r2, r0, k⟩ := h
    have hr9 : Room 9 _ := hr
    refine ⟨_, (pss_cons (ps_if (pt_not (pt_val (pe_call GI (hr9.mono (by decide)) rfl gI kI bI .nil pass0 (pa_cons (pv 1) pa_nil)))) (pss_one (ps_raiseN rfl M (hr9.mono (by decide)) (takes_of rfl rfl rfl rfl) (by rfl) (pa_cons pe_str pa_nil))) pss_nil)
      (pss_one (ps_ret (pe_bal B (by exact hr9) (E := E0) passL rfl (pa_cons (pe_dc (own := [("thing", 2)]) (g := gName 2) (tt := tYes) (tk := tVar 2) rfl scTm.nd (pi_tup (pe_fld (pv 0) rfl)) (blkOk_by (N := ["balance", "ratio", "thing"]) (sc := defScope (top 38)) (by decide +kernel))
      (fun _ _ _ _ _ => pg_name (i := 2) scTm.nd rfl (Or.inl rfl)) (fun _ _ _ _ _ => pts_nil) (fun _ _ _ _ _ => pv 2) (fun _ _ _ _ _ => pe_op (op_rat (op := .Mult) O.sf O.odd OM GM bM (by exact hr9.mono (by decide)) (E := E0) passL) (pe_meth (pv 0) B.T.cls MN GN (by exact hr9.mono (by decide)) bN .nil (E := E0) pass0 (pa_cons (pv 2) pa_nil)) (pv 1))) pa_nil))))), ?_⟩
    obtain ⟨dx, nd, tp, kt, ha, ⟨kvs, hd, hR⟩, ht, hk⟩ := hb
    have hb' : BalAt H a CB C g zs := ⟨dx, nd, tp, kt, ha, ⟨kvs, hd, hR⟩, ht, hk⟩
    have nT := B.T.no "things" (by simp)
    refine ⟨_, rfl, _, rfl, .inl ⟨_, _, hy, true, rfl, iteF ?_⟩⟩
    dsimp only [tNext]
    refine ⟨_, rfl, a, CB, dx, _, _, rfl, ha, B.T.cls, nT, rfl, tp, rfl, ⟨_, SqT.of ht⟩, fun D nD => ?_⟩
    refine dc_it (walk_tup (xs := zs.map V.str)) (DcP H D C (mulF g r) (fun _ => true) zs) (DcP.zero nD) (fun i Hx _ hP => SqT.of (hP.1 _ _ ht)) (fun i x Hx Hx' hi hP hy' => ?_) (fun Hx hP => ?_)
    · obtain ⟨rfl, ex⟩ := hy'
      rw [List.getElem?_map] at ex
      obtain ⟨n, en, rfl⟩ := Option.map_eq_some_iff.mp ex
      have mn := List.mem_of_getElem? en
      refine ⟨rfl, yesI ?_⟩
      refine ⟨_, rfl, _, rfl, a, dx, _, rfl, hP.1 _ _ ha, rfl, _, rfl, a, n, g, zs, rfl, hb'.same hP.1, (ok.ns.nm n mn).1, (ok.ns.nm n mn).2, fun b H4 s4 h4 => ?_⟩
      rw [show num g zs n = g n from if_pos mn] at h4
      refine ⟨_, rfl, b, _, _, rfl, h4, (lo.sz n mn).1, (lo.sz n mn).2, by have := (lo.lo n mn).1; omega, .inl ⟨_, _, hy.same (hP.1.trans s4), r1, r2, r0, fun b' H5 s5 h5 => ?_⟩⟩
      exact hP.put nD ok.ns (s4.trans s5) en rfl h5
    · rw [List.length_map] at hP
      obtain ⟨s2, kvs', hD, hR2⟩ := hP.done
      rw [List.filter_eq_self.mpr fun _ _ => rfl] at hR2
      refine ⟨_, rfl, ?_⟩
      refine MkB.of hD hR2.num ok.ns ok.so fun a' H' s n hb => k a' H' (s2.trans s) hb
end
end K05
namespace K05
open PySem PySem.Spec PyProof.Rows L2 RatM ClX
/-- the one and the other one k times, thing by thing -/
def sumF (g : Str → Int × Int) (zs : List Str) (g2 : Str → Int × Int) (zs2 : List Str) (k : Int) : Str → Int × Int := fun n =>
  if n ∈ zs2 then (lowT ((mulF g2 (k, 1) n).1 * (num g zs n).2 + (num g zs n).1 * (mulF g2 (k, 1) n).2) ((mulF g2 (k, 1) n).2 * (num g zs n).2), lowB ((mulF g2 (k, 1) n).1 * (num g zs n).2 + (num g zs n).1 * (mulF g2 (k, 1) n).2) ((mulF g2 (k, 1) n).2 * (num g zs n).2)) else g n
/-- the things of both -/
abbrev joinN (zs zs2 : List Str) : List Str := zs ++ zs2.filter fun n => !decide (n ∈ zs)
theorem putK_old {H : Hp} {C b : Addr} {g g' : Str → Int × Int} {kvs : List (Key × V)} {ks : List Str} {n : Str} (h : RatD H C g kvs ks) (e : ∀ m, m ≠ n → g' m = g m) (hb : RatAt H b C (g' n).1 (g' n).2) :
    RatD H C g' (kvs.map fun kv => if kv.1 = .inr n then (kv.1, V.ref b) else kv) ks := by
  induction h with
  | nil => exact .nil
  | @cons x y l1 l2 h t ih =>
    refine .cons ?_ ih
    dsimp only
    by_cases c : y = n
    · subst c
      rw [if_pos h.1]
      exact ⟨h.1, b, rfl, hb⟩
    · have ne : ¬ x.1 = Sum.inr n := fun z => c (by rw [h.1] at z; injection z)
      rw [if_neg ne]
      obtain ⟨h1, b', h2, h3⟩ := h
      refine ⟨h1, b', h2, ?_⟩
      rw [e y c]
      exact h3
theorem RatD.put {H : Hp} {C b : Addr} {g g' : Str → Int × Int} {kvs : List (Key × V)} {ks : List Str} {n : Str} (h : RatD H C g kvs ks) (e : ∀ m, m ≠ n → g' m = g m) (hb : RatAt H b C (g' n).1 (g' n).2) :
    RatD H C g' (putK kvs (.inr n) (.ref b)) (if n ∈ ks then ks else ks ++ [n]) := by
  have old := putK_old h e hb
  unfold putK
  rw [valV_any]
  by_cases m : n ∈ ks
  · obtain ⟨v, ev, _⟩ := RatD.val h m
    rw [ev, if_pos m]
    exact old
  · rw [NumD.noVal h.num m, if_neg m]
    refine Paired.snoc ?_ ⟨rfl, b, rfl, hb⟩
    have : ∀ {l : List (Key × V)} {k2 : List Str}, RatD H C g l k2 → n ∉ k2 → RatD H C g' l k2 := fun {l k2} q => by
      induction q with
      | nil => exact fun _ => .nil
      | @cons x y l1 l2 q t ih =>
        intro nm
        simp only [List.mem_cons, not_or] at nm
        obtain ⟨q1, b', q2, q3⟩ := q
        refine .cons ⟨q1, b', q2, ?_⟩ (ih nm.2)
        rw [e y (Ne.symm nm.1)]
        exact q3
    exact this h m
def spSum (CB C : Addr) : Sp := fun vs H Q _ => ∃ (a b : Addr) (g g2 : Str → Int × Int) (zs zs2 : List Str) (k : Int), vs = [.ref a, .ref b, .int k] ∧ BalAt H a CB C g zs ∧ BalAt H b CB C g2 zs2 ∧ BalOk g zs ∧ BalOk g2 zs2 ∧ BalLo 900 g zs ∧ BalLo 900 g2 zs2 ∧ zs.length + zs2.length ≤ 60 ∧ (k = 1 ∨ k = -1) ∧
  ∀ a' ys H', Same H H' → ys.Perm (joinN zs zs2) → sortedS ys = true → BalAt H' a' CB C (sumF g zs g2 zs2 k) (nz (sumF g zs g2 zs2 k) ys) → Q (.ref a') H'
theorem joinN_ok {zs zs2 : List Str} (h : NsOk zs) (h2 : NsOk zs2) (l : zs.length + zs2.length ≤ 60) : NsOk (joinN zs zs2) := by
  refine ⟨List.nodup_append.mpr ⟨h.nd, h2.nd.filter _, fun a ha b hb e => ?_⟩, ?_, fun n m => ?_⟩
  · subst e
    have := (List.mem_filter.mp hb).2
    simp [ha] at this
  · rw [List.length_append]
    have := List.length_filter_le (fun n => !decide (n ∈ zs)) zs2
    omega
  · rcases List.mem_append.mp m with m | m
    · exact h.nm n m
    · exact h2.nm n (List.mem_filter.mp m).1
section
variable {P : Program} {w : World} {K : PySem.W.Frag} {mg : Str → Option Value} {base : Heap} {C BR CB BB : Addr}
theorem scSm : FnScope ["one", "other", "factor", "numbers", "thing"] ["one", "other", "factor"] (defScope (top 37)) := ⟨rfl, rfl, rfl, by decide +kernel, rfl, by decide +kernel, by decide +kernel⟩
theorem ok_summed {f : Addr} {fd : FuncData} (F : FnP K "_summed" (top 37) f fd) (O : OpsK P w K mg base CB C BR) (M : ErrN P w K mg base "BadBalance" BB ["part"]) (bi : mg "isinstance" = none) (tyB : ∀ (H : Hp) (a : Addr) g zs, BalAt H a CB C g zs → TyX K H (.ref a) (.ref CB)) (cc : PySem.W.kitOne K (.ref CB) (.ref CB) = some true) :
    FnOk P w K mg base (L2.CX P w) 10 f fd ["one", "other", "factor"] (spSum CB C) := by
  obtain ⟨fA, fdA, OA, GA, bA⟩ := O.add
  obtain ⟨fM, fdM, OM, GM, bM⟩ := O.mul
  obtain ⟨fN, fdN, MN, GN, bN⟩ := O.num
  have B := O.B
  refine F.ok scSm (fun vs H Q E h => ?_) (fun cdv A outer s H vs Q E hr h => ?_)
  · obtain ⟨a, b, g, g2, zs, zs2, kk, rfl, _⟩ := h
    rfl
  · obtain ⟨a, b, g, g2, zs, zs2, kk, rfl, hb, hb2, ok, ok2, lo, lo2, ll, hkk, k⟩ := h
    have hr9 : Room 9 _ := hr
    have hu1 : (A.deeper (envOfC (Str.ofString "_summed") (defScope (top 37)) s.heap.objs.size f cdv)).units + 1 < cLine := by have := hr9.units; omega
    refine ⟨_, (pss_cons (ps_if (pt_not (pt_val (pe_callB call_isi (by rfl) bi (by decide +kernel) (pa_cons (pv 1) (pa_cons (pe_glob (v := .ref _) rfl B.g rfl) pa_nil))))) (pss_one (ps_raiseN rfl M (hr9.mono (by decide)) (takes_of rfl rfl rfl rfl) (by rfl) (pa_cons pe_str pa_nil))) pss_nil)
      (pss_cons (ps_setDc (i := 3) (own := [("thing", 4)]) (g := gName 4) (tt := tYes) (tk := tVar 4) rfl scSm.nd rfl rfl (sw_trueD rfl rfl rfl (by decide +kernel)) (pi_tup (pe_fld (pv 0) rfl)) (blkOk_by (N := ["one", "other", "factor", "numbers", "thing"]) (sc := defScope (top 37)) (by decide +kernel))
      (fun _ _ _ _ _ => pg_name (i := 4) scSm.nd rfl (Or.inl rfl)) (fun _ _ _ _ _ => pts_nil) (fun _ _ _ _ _ => pv 4) (fun _ _ _ _ _ => pe_meth (pv 0) B.T.cls MN GN (by exact hr9.mono (by decide)) bN .nil (E := E0) pass0 (pa_cons (pv 4) pa_nil)))
      (pss_cons (ps_for (passes_of rfl) rfl (pi_tup (pe_fld (pv 1) rfl)) (pg_name (i := 4) scSm.nd rfl (.inl rfl)) (pss_one (ps_dput hu1 (pv 3) (pv 4) (pe_op (op_rat (op := .Add) O.sf O.odd OA GA bA (by exact hr9.mono (by decide)) (E := E0) passL) (pe_op (op_rat (op := .Mult) O.sf O.odd OM GM bM (by exact hr9.mono (by decide)) (E := E0) passL) (pe_meth (pv 1) B.T.cls MN GN (by exact hr9.mono (by decide)) bN .nil (E := E0) pass0 (pa_cons (pv 4) pa_nil)) (pv 2)) (pe_dget2 hu1 (pv 3) (pv 4) pe_int ⟨rfl, rfl, rfl, rfl⟩)) (by rfl))))
      (pss_one (ps_ret (pe_bal B (by exact hr9) (E := E0) passL rfl (pa_cons (pv 3) pa_nil))))))), ?_⟩
    have nT := B.T.no "things" (by simp)
    refine ⟨_, rfl, _, _, _, _, _, rfl, .own CB, tyB _ _ _ _ hb2, cc, true, rfl, iteF ?_⟩
    dsimp only [tNext, tSeq, tAsg]
    obtain ⟨dx, nd, tp, kt, ha, ⟨kvs, hd, hR⟩, ht, hk⟩ := id hb
    obtain ⟨dx2, nd2, tp2, kt2, ha2, ⟨kvs2, hd2, hR2⟩, ht2, hk2⟩ := id hb2
    refine ⟨_, rfl, a, CB, dx, _, _, rfl, ha, B.T.cls, nT, rfl, tp, rfl, ⟨_, SqT.of ht⟩, fun D nD => ?_⟩
    refine dc_it (walk_tup (xs := zs.map V.str)) (DcP H D C g (fun _ => true) zs) (DcP.zero nD) (fun i Hx _ hP => SqT.of (hP.1 _ _ ht)) (fun i x Hx Hx' hi hP hy' => ?_) (fun Hx hP => ?_)
    · obtain ⟨rfl, ex⟩ := hy'
      rw [List.getElem?_map] at ex
      obtain ⟨n, en, rfl⟩ := Option.map_eq_some_iff.mp ex
      have mn := List.mem_of_getElem? en
      refine ⟨rfl, yesI ?_⟩
      refine ⟨_, rfl, _, rfl, a, dx, _, rfl, hP.1 _ _ ha, rfl, _, rfl, a, n, g, zs, rfl, hb.same hP.1, (ok.ns.nm n mn).1, (ok.ns.nm n mn).2, fun b' H4 s4 h4 => ?_⟩
      rw [show num g zs n = g n from if_pos mn] at h4
      exact hP.put nD ok.ns s4 en rfl h4
    · rw [List.length_map] at hP
      obtain ⟨s2, kvs', hD, hR3⟩ := hP.done
      rw [List.filter_eq_self.mpr fun _ _ => rfl] at hR3
      dsimp only [gName]
      refine ⟨_, rfl, b, CB, dx2, _, _, rfl, s2 _ _ ha2, B.T.cls, nT, rfl, tp2, rfl, ⟨_, SqT.of (s2 _ _ ht2)⟩, ?_⟩
      refine for_it (walk_tup (xs := zs2.map V.str)) (fun i σ Hx => (∃ o, σ = [some (.ref a), some (.ref b), some (.int kk), some (.ref D), o]) ∧ Same H Hx ∧ ∃ kv, Hx D = some (.dK kv) ∧ RatD Hx C (fun n => if n ∈ zs2.take i then sumF g zs g2 zs2 kk n else g n) kv (joinN zs (zs2.take i)))
        ⟨⟨none, rfl⟩, s2, kvs', hD, by simpa [joinN] using hR3⟩ (fun i σ Hx _ hP => SqT.of (hP.2.1 _ _ ht2)) ?_ ?_
      · rintro i x σ Hx Hx' hi ⟨⟨o, rfl⟩, s3, kv, hDx, hRx⟩ ⟨rfl, ex⟩
        rw [List.getElem?_map] at ex
        obtain ⟨n, en, rfl⟩ := Option.map_eq_some_iff.mp ex
        have mn := List.mem_of_getElem? en
        have nt : n ∉ zs2.take i := fun m => by
          obtain ⟨j, hj, ej⟩ := List.mem_take_iff_getElem.mp m
          have h1 : zs2[j]? = some n := by rw [List.getElem?_eq_getElem (by omega), ej]
          have lj : j < zs2.length := by omega
          have h2 := (List.getElem?_inj lj ok2.ns.nd).mp (h1.trans en.symm)
          omega
        have tk : zs2.take (i + 1) = zs2.take i ++ [n] := by rw [List.take_add_one, en]; rfl
        refine ⟨_, rfl, b, dx2, _, rfl, s3 _ _ ha2, rfl, _, rfl, b, n, g2, zs2, rfl, hb2.same s3, (ok2.ns.nm n mn).1, (ok2.ns.nm n mn).2, fun r1 H4 s4 h4 => ?_⟩
        rw [show num g2 zs2 n = g2 n from if_pos mn] at h4
        have l0 := lo2.lo n mn
        have z0 := lo2.sz n mn
        have kz : Sz kk := by rcases hkk with rfl | rfl <;> decide
        have q0 : (g2 n).2 * 1 ≠ 0 := by omega
        refine ⟨_, rfl, r1, _, _, rfl, h4, sz_of z0.1 (by decide), sz_of z0.2 (by decide), by omega, .inl ⟨kk, 1, .inr ⟨rfl, rfl, by rcases hkk with rfl | rfl <;> decide⟩, kz, by decide, by decide, fun r2 H5 s5 h5 => ?_⟩⟩
        have h5 : RatAt H5 r2 C (mulF g2 (kk, 1) n).1 (mulF g2 (kk, 1) n).2 := h5
        have z1 : (mulF g2 (kk, 1) n).1.natAbs < 2 ^ 900 := by
          refine Nat.lt_of_le_of_lt (lowT_le q0) ?_
          show ((g2 n).1 * kk).natAbs < _
          rw [Int.natAbs_mul]
          rcases hkk with rfl | rfl
          · simpa using z0.1
          · simpa using z0.1
        have z2 : (mulF g2 (kk, 1) n).2.natAbs < 2 ^ 900 := by
          refine Nat.lt_of_le_of_lt (lowB_le q0) ?_
          show ((g2 n).2 * 1).natAbs < _
          rw [Int.mul_one]
          exact z0.2
        have z3 : 0 < (mulF g2 (kk, 1) n).2 := lowB_pos q0
        have s35 := s3.trans (s4.trans s5)
        have hD5 := s5 _ _ (s4 _ _ hDx)
        have hR5 := (hRx.same s4).same s5
        have nz3 : Sz (num g zs n).1 ∧ Sz (num g zs n).2 ∧ (num g zs n).2 ≠ 0 := by
          unfold num
          by_cases m : n ∈ zs
          · rw [if_pos m]
            exact ⟨sz_of (lo.sz n m).1 (by decide), sz_of (lo.sz n m).2 (by decide), by have := (lo.lo n m).1; omega⟩
          · rw [if_neg m]
            exact ⟨by decide, by decide, by decide⟩
        have ki : n ∈ joinN zs (zs2.take i) ↔ n ∈ zs := by
          constructor
          · intro m
            rcases List.mem_append.mp m with m | m
            · exact m
            · exact absurd (List.mem_filter.mp m).1 nt
          · exact fun m => List.mem_append_left _ m
        have on : NumAt H5 C ((valV kv (.inr n)).getD (.int 0)) (num g zs n).1 (num g zs n).2 := by
          unfold num
          by_cases m : n ∈ zs
          · obtain ⟨v, ev, hv⟩ := NumD.val hR5.num (ki.mpr m)
            rw [ev, if_pos m]
            rw [if_neg nt] at hv
            exact hv
          · rw [NumD.noVal hR5.num fun z => m (ki.mp z), if_neg m]
            exact .inr ⟨rfl, rfl, by decide⟩
        refine ⟨_, rfl, D, rfl, .inl ⟨kv, .inl hD5⟩, _, rfl, _, DGet.k (k := .inr n) hD5, r2, _, _, rfl, h5, sz_of z1 (by decide), sz_of z2 (by decide), by omega, .inl ⟨_, _, on, nz3.1, nz3.2.1, nz3.2.2, fun r3 H6 s6 h6 => ?_⟩⟩
        have hD6 := s6 _ _ hD5
        have hR6 := hR5.same s6
        have lk := Paired.length hRx
        have l1 : (joinN zs (zs2.take i)).length ≤ 60 := by
          have f1 := List.length_filter_le (fun n => !decide (n ∈ zs)) (zs2.take i)
          have f2 := List.length_take (i := i) (l := zs2)
          rw [List.length_append]
          omega
        refine ⟨_, rfl, _, rfl, D, _, rfl, DPut.k (k := .inr n) hD6 (by rw [sizeLine_eq]; omega), ⟨_, rfl⟩, fun c ob e => ?_, _, upd_same, ?_⟩
        · by_cases ec : c = D
          · subst ec
            rw [nD] at e
            cases e
          · rw [upd_ne ec]
            exact s6 _ _ (s35 _ _ e)
        · have put := RatD.put (n := n) (g' := fun m => if m ∈ zs2.take (i + 1) then sumF g zs g2 zs2 kk m else g m) (b := r3) (hR6.upd_d (o := .dK (putK kv (.inr n) (.ref r3))) hD6) (fun m ne => by
            have : (m ∈ zs2.take (i + 1)) ↔ m ∈ zs2.take i := by rw [tk, List.mem_append, List.mem_singleton]; exact ⟨fun z => z.elim id fun z => absurd z ne, .inl⟩
            simp only [this]) (by
            have mt : n ∈ zs2.take (i + 1) := by rw [tk]; exact List.mem_append_right _ (List.mem_singleton.mpr rfl)
            rw [if_pos mt]
            unfold sumF
            rw [if_pos mn]
            exact h6.upd_d hD6)
          have ek : (if n ∈ joinN zs (zs2.take i) then joinN zs (zs2.take i) else joinN zs (zs2.take i) ++ [n]) = joinN zs (zs2.take (i + 1)) := by
            show _ = zs ++ (zs2.take (i + 1)).filter _
            rw [tk, List.filter_append]
            by_cases m : n ∈ zs
            · rw [if_pos (ki.mpr m)]
              simp [m, joinN]
            · rw [if_neg fun z => m (ki.mp z)]
              simp [m, joinN]
          rw [ek] at put
          exact put
      · rintro σ Hx ⟨⟨o, rfl⟩, s3, kv, hDx, hRx⟩
        rw [List.length_map, List.take_length] at hRx
        refine ⟨_, rfl, ?_⟩
        have e : (fun n => if n ∈ zs2 then sumF g zs g2 zs2 kk n else g n) = sumF g zs g2 zs2 kk := funext fun n => by
          by_cases m : n ∈ zs2
          · exact if_pos m
          · rw [if_neg m]
            exact (if_neg m).symm
        rw [e] at hRx
        exact ⟨.ref D, rfl, D, kv, joinN zs zs2, sumF g zs g2 zs2 kk, rfl, hDx, hRx.num, joinN_ok ok.ns ok2.ns ll, fun a' ys H' s n py sy hb => k a' ys H' (s3.trans s) py sy hb⟩
end
end K05
namespace K05
open PySem PySem.Spec PyProof.Rows L2 RatM ClX
/-- self + other, self - other -/
def spAddB (CB C : Addr) (k : Int) : Sp := fun vs H Q E => ∃ x y, vs = [x, y] ∧ spSum CB C [x, y, .int k] H Q E
/-- self * other -/
def spMulB (CB C : Addr) : Sp := fun vs H Q E => ∃ x y, vs = [x, y] ∧ spTimes CB C [x, y] H Q E
/-- -self -/
def spNegB (CB C : Addr) : Sp := fun vs H Q E => ∃ x, vs = [x] ∧ spTimes CB C [x, .int (-1)] H Q E
section
variable {P : Program} {w : World} {K : PySem.W.Frag} {mg : Str → Option Value} {base : Heap} {C BR CB BB : Addr}
theorem scAddB : FnScope ["self", "other"] ["self", "other"] (defScope (balM 8)) := ⟨rfl, rfl, rfl, by decide +kernel, rfl, by decide +kernel, by decide +kernel⟩
theorem ok_addB {f fS : Addr} {fd fdS : FuncData} (F : MtP K "__add__" "Balance.__add__" (balM 8) f fd) (GS : FnOk P w K mg base (L2.CX P w) 10 fS fdS ["one", "other", "factor"] (spSum CB C)) (bS : Binds K fdS ["one", "other", "factor"] []) (kS : PySem.W.keepIn K (.ref fS) = true) (gS : mg "_summed" = some (.ref fS)) :
    FnOk P w K mg base (L2.CX P w) 11 f fd ["self", "other"] (spAddB CB C 1) := by
  refine F.ok scAddB (fun vs H Q E h => ?_) (fun cdv A outer s H vs Q E hr h => ?_)
  · obtain ⟨x, y, rfl, _⟩ := h
    rfl
  · obtain ⟨x, y, rfl, h⟩ := h
    have hr10 : Room 10 _ := hr
    refine ⟨_, pss_one (ps_ret (pe_call GS hr10 rfl gS kS bS .nil (passE (takes_of rfl rfl rfl rfl)) (pa_cons (pv 0) (pa_cons (pv 1) (pa_cons pe_int pa_nil))))), ?_⟩
    exact ⟨_, rfl, _, rfl, h⟩
theorem scSubB : FnScope ["self", "other"] ["self", "other"] (defScope (balM 9)) := ⟨rfl, rfl, rfl, by decide +kernel, rfl, by decide +kernel, by decide +kernel⟩
theorem ok_subB {f fS : Addr} {fd fdS : FuncData} (F : MtP K "__sub__" "Balance.__sub__" (balM 9) f fd) (GS : FnOk P w K mg base (L2.CX P w) 10 fS fdS ["one", "other", "factor"] (spSum CB C)) (bS : Binds K fdS ["one", "other", "factor"] []) (kS : PySem.W.keepIn K (.ref fS) = true) (gS : mg "_summed" = some (.ref fS)) :
    FnOk P w K mg base (L2.CX P w) 11 f fd ["self", "other"] (spAddB CB C (-1)) := by
  refine F.ok scSubB (fun vs H Q E h => ?_) (fun cdv A outer s H vs Q E hr h => ?_)
  · obtain ⟨x, y, rfl, _⟩ := h
    rfl
  · obtain ⟨x, y, rfl, h⟩ := h
    have hr10 : Room 10 _ := hr
    refine ⟨_, pss_one (ps_ret (pe_call GS hr10 rfl gS kS bS .nil (passE (takes_of rfl rfl rfl rfl)) (pa_cons (pv 0) (pa_cons (pv 1) (pa_cons (pe_un un_neg pe_int) pa_nil))))), ?_⟩
    exact ⟨_, rfl, _, rfl, _, rfl, h⟩
theorem scNegB : FnScope ["self"] ["self"] (defScope (balM 10)) := ⟨rfl, rfl, rfl, by decide +kernel, rfl, by decide +kernel, by decide +kernel⟩
theorem ok_negB {f fS : Addr} {fd fdS : FuncData} (F : MtP K "__neg__" "Balance.__neg__" (balM 10) f fd) (GS : FnOk P w K mg base (L2.CX P w) 10 fS fdS ["balance", "ratio"] (spTimes CB C)) (bS : Binds K fdS ["balance", "ratio"] []) (kS : PySem.W.keepIn K (.ref fS) = true) (gS : mg "_times" = some (.ref fS)) :
    FnOk P w K mg base (L2.CX P w) 11 f fd ["self"] (spNegB CB C) := by
  refine F.ok scNegB (fun vs H Q E h => ?_) (fun cdv A outer s H vs Q E hr h => ?_)
  · obtain ⟨x, rfl, _⟩ := h
    rfl
  · obtain ⟨x, rfl, h⟩ := h
    have hr10 : Room 10 _ := hr
    refine ⟨_, pss_one (ps_ret (pe_call GS hr10 rfl gS kS bS .nil (passE (takes_of rfl rfl rfl rfl)) (pa_cons (pv 0) (pa_cons (pe_un un_neg pe_int) pa_nil)))), ?_⟩
    exact ⟨_, rfl, _, rfl, h⟩
theorem scMulB : FnScope ["self", "other"] ["self", "other"] (defScope (balM 11)) := ⟨rfl, rfl, rfl, by decide +kernel, rfl, by decide +kernel, by decide +kernel⟩
theorem ok_mulB {f fS : Addr} {fd fdS : FuncData} (F : MtP K "__mul__" "Balance.__mul__" (balM 11) f fd) (GS : FnOk P w K mg base (L2.CX P w) 10 fS fdS ["balance", "ratio"] (spTimes CB C)) (bS : Binds K fdS ["balance", "ratio"] []) (kS : PySem.W.keepIn K (.ref fS) = true) (gS : mg "_times" = some (.ref fS)) :
    FnOk P w K mg base (L2.CX P w) 11 f fd ["self", "other"] (spMulB CB C) := by
  refine F.ok scMulB (fun vs H Q E h => ?_) (fun cdv A outer s H vs Q E hr h => ?_)
  · obtain ⟨x, y, rfl, _⟩ := h
    rfl
  · obtain ⟨x, y, rfl, h⟩ := h
    have hr10 : Room 10 _ := hr
    refine ⟨_, pss_one (ps_ret (pe_call GS hr10 rfl gS kS bS .nil (passE (takes_of rfl rfl rfl rfl)) (pa_cons (pv 0) (pa_cons (pv 1) pa_nil)))), ?_⟩
    exact ⟨_, rfl, _, rfl, h⟩
end
end K05
namespace K05
open PySem PySem.Spec PyProof.Rows L2 RatM ClX
theorem pe_rat2K {X : Cx} {P : Program} {w : World} {K : PySem.W.Frag} {mg : Str → Option Value} {base : Heap} {C BR : Addr} {E : XK} {p pos : Pos} {e1 e2 : Expr} {ta : TA} (R : RatK P w K mg base C BR) (hr : Room 4 X.A) (hx : Passes (L2.CX X.prog X.w) X E) (hg : Gl X "Ratio") (ha : PA X [e1, e2] ta)
    (hX : X.prog = P ∧ X.w = w ∧ X.K = K ∧ X.mg = mg ∧ X.base = base := by exact ⟨rfl, rfl, rfl, rfl, rfl⟩)
    (he : starEach [e1, e2] X.env = (false, eval e1 X.env) :: starEach [e2] X.env := by rfl) (hpl : (backTo pos (starEach [e2] X.env)).any (·.1) = false := by rfl) :
    PE X (.Call (.Name "Ratio" p) [e1, e2] [] pos) (tRat2 K C BR E ta) := by
  obtain ⟨rfl, rfl, rfl, rfl, rfl⟩ := hX
  exact pe_rat2 R hr hx hg ha he hpl
theorem pe_rat1K {X : Cx} {P : Program} {w : World} {K : PySem.W.Frag} {mg : Str → Option Value} {base : Heap} {C BR : Addr} {E : XK} {p pos : Pos} {e1 : Expr} {ta : TA} (R : RatK P w K mg base C BR) (hr : Room 4 X.A) (hx : Passes (L2.CX X.prog X.w) X E) (hg : Gl X "Ratio") (ha : PA X [e1] ta)
    (hX : X.prog = P ∧ X.w = w ∧ X.K = K ∧ X.mg = mg ∧ X.base = base := by exact ⟨rfl, rfl, rfl, rfl, rfl⟩)
    (he : starEach [e1] X.env = (false, eval e1 X.env) :: starEach [] X.env := by rfl) (hpl : (backTo pos (starEach [] X.env)).any (·.1) = false := by rfl) :
    PE X (.Call (.Name "Ratio" p) [e1] [] pos) (tRat1 K C BR E ta) := by
  obtain ⟨rfl, rfl, rfl, rfl, rfl⟩ := hX
  exact pe_rat1 R hr hx hg ha he hpl
def lcmN (g : Str → Int × Int) (zs : List Str) : Nat := zs.foldl (fun l n => Nat.lcm l (g n).2.natAbs) 1
def gcdN (g : Str → Int × Int) (zs : List Str) : Nat := zs.foldl (fun d n => Nat.gcd d (g n).1.natAbs) 0
theorem lcmN_take {g : Str → Int × Int} {zs : List Str} {i : Nat} {n : Str} (e : zs[i]? = some n) : lcmN g (zs.take (i + 1)) = Nat.lcm (lcmN g (zs.take i)) (g n).2.natAbs := by
  unfold lcmN
  rw [List.take_add_one, e, List.foldl_append]
  rfl
theorem gcdN_take {g : Str → Int × Int} {zs : List Str} {i : Nat} {n : Str} (e : zs[i]? = some n) : gcdN g (zs.take (i + 1)) = Nat.gcd (gcdN g (zs.take i)) (g n).1.natAbs := by
  unfold gcdN
  rw [List.take_add_one, e, List.foldl_append]
  rfl
theorem lcm_fold_le (g : Str → Int × Int) : ∀ (zs : List Str) (l : Nat), (∀ n ∈ zs, (g n).2.natAbs < 2 ^ 12) → zs.foldl (fun l n => Nat.lcm l (g n).2.natAbs) l ≤ l * 2 ^ (12 * zs.length)
  | [], l, _ => by simp
  | n :: t, l, h => by
    have h1 := lcm_fold_le g t (Nat.lcm l (g n).2.natAbs) fun m hm => h m (List.mem_cons_of_mem _ hm)
    have h2 := PySem.W.mc_lcm_le l (g n).2.natAbs
    have h3 := h n List.mem_cons_self
    simp only [List.foldl_cons, List.length_cons]
    refine Nat.le_trans h1 ?_
    rw [show 12 * (t.length + 1) = 12 + 12 * t.length by omega, Nat.pow_add, ← Nat.mul_assoc]
    exact Nat.mul_le_mul_right _ (Nat.le_trans h2 (Nat.mul_le_mul_left _ (Nat.le_of_lt h3)))
theorem lcmN_lt {g : Str → Int × Int} {zs : List Str} (h : ∀ n ∈ zs, (g n).2.natAbs < 2 ^ 12) (l : zs.length ≤ 4) (i : Nat) : lcmN g (zs.take i) < 2 ^ 64 := by
  have h1 := lcm_fold_le g (zs.take i) 1 fun n m => h n (List.mem_of_mem_take m)
  have h2 : (zs.take i).length ≤ 4 := by rw [List.length_take]; omega
  unfold lcmN
  rw [Nat.one_mul] at h1
  refine Nat.lt_of_le_of_lt h1 (Nat.lt_of_le_of_lt (Nat.pow_le_pow_right (by decide) (show 12 * (zs.take i).length ≤ 48 by omega)) (by decide))
theorem gcd_fold_dvd (g : Str → Int × Int) : ∀ (zs : List Str) (d : Nat), zs.foldl (fun d n => Nat.gcd d (g n).1.natAbs) d ∣ d ∧ ∀ n ∈ zs, zs.foldl (fun d n => Nat.gcd d (g n).1.natAbs) d ∣ (g n).1.natAbs
  | [], d => ⟨Nat.dvd_refl _, fun n m => by cases m⟩
  | x :: t, d => by
    obtain ⟨h1, h2⟩ := gcd_fold_dvd g t (Nat.gcd d (g x).1.natAbs)
    refine ⟨Nat.dvd_trans h1 (Nat.gcd_dvd_left _ _), fun n m => ?_⟩
    cases m with
    | head => exact Nat.dvd_trans h1 (Nat.gcd_dvd_right _ _)
    | tail _ m => exact h2 n m
theorem gcdN_dvd {g : Str → Int × Int} {zs : List Str} {n : Str} (m : n ∈ zs) : gcdN g zs ∣ (g n).1.natAbs := (gcd_fold_dvd g zs 0).2 n m
/-- in least terms -/
def leastF (g : Str → Int × Int) (zs : List Str) : Str → Int × Int := fun n => (lowT ((g n).1 * (lcmN g zs : Nat)) ((g n).2 * (gcdN g zs : Nat)), lowB ((g n).1 * (lcmN g zs : Nat)) ((g n).2 * (gcdN g zs : Nat)))
def spLeast (CB C : Addr) : Sp := fun vs H Q _ => ∃ (a : Addr) (g : Str → Int × Int) (zs : List Str), vs = [.ref a] ∧ BalAt H a CB C g zs ∧ BalOk g zs ∧ BalLo 900 g zs ∧ zs.length ≤ 4 ∧ (∀ n ∈ zs, (g n).2.natAbs < 2 ^ 12) ∧ ∀ a' H', Same H H' → BalAt H' a' CB C (leastF g zs) (nz (leastF g zs) zs) → Q (.ref a') H'
section
variable {P : Program} {w : World} {K : PySem.W.Frag} {mg : Str → Option Value} {base : Heap} {C BR CB BB : Addr}
theorem scLe : FnScope ["self", "bottom", "divisor", "number", "thing"] ["self"] (defScope (balM 6)) := ⟨rfl, rfl, rfl, by decide +kernel, rfl, by decide +kernel, by decide +kernel⟩
theorem ok_least {f : Addr} {fd : FuncData} (F : MtP K "least" "Balance.least" (balM 6) f fd) (B : BalK P w K mg base CB C) (R : RatK P w K mg base C BR) (gl : mg "lcm" = some (.builtin "math.lcm")) (gg : mg "gcd" = some (.builtin "math.gcd")) :
    FnOk P w K mg base CX0 10 f fd ["self"] (spLeast CB C) := by
  have TR := R.T
  refine F.ok scLe (fun vs H Q E h => ?_) (fun cdv A outer s H vs Q E hr h => ?_)
  · obtain ⟨a, g, zs, rfl, _⟩ := h
    rfl
  · obtain ⟨a, g, zs, rfl, hb, ok, lo, l4, sm, k⟩ := h
    have hr9 : Room 9 _ := hr
    refine ⟨_, PSs.nox (pss_cons (ps_set (i := 1) scLe.nd rfl (.inr rfl) pe_int) (pss_cons (ps_set (i := 2) scLe.nd rfl (.inr rfl) pe_int)
      (pss_cons (ps_lock (ps_for PassesOwn.never rfl (pi_values (pe_fld (pv 0) rfl)) (pg_name (i := 3) scLe.nd rfl (.inl rfl))
        (pss_cons (ps_set (i := 1) scLe.nd rfl (.inr rfl) (pe_callBfun cr_lcm (by rfl) gl (pa_cons (pv 1) (pa_cons (pe_fld (pv 3) rfl) pa_nil))))
        (pss_one (ps_set (i := 2) scLe.nd rfl (.inr rfl) (pe_callBfun cr_gcd (by rfl) gg (pa_cons (pv 2) (pa_cons (pe_fld (pv 3) rfl) pa_nil))))))))
      (pss_one (ps_ret (pe_bal B (by exact hr9) (E := E0) passL rfl (pa_cons (pe_lock (pe_dc (own := [("thing", 4), ("number", 3)]) (g := gTup K 2 (gCons (gName 4) (gCons (gName 3) gNil))) (tt := tYes) (tk := tVar 4) (tv := tRat2 K C BR E0 (tCons (tOp (rI CMulW fun i j => .int (i * j)) (tFld K (tVar 3) "top") (tVar 1)) (tCons (tOp (rI CMulW fun i j => .int (i * j)) (tFld K (tVar 3) "bottom") (tVar 2)) tNil))) rfl scLe.nd (pi_items (pe_fld (pv 0) rfl)) (blkOk_by (N := ["self", "bottom", "divisor", "number", "thing"]) (sc := defScope (balM 6)) (by decide +kernel))
      (fun _ _ _ _ _ => pg_tup rfl (pgs_cons (pg_name (i := 4) scLe.nd rfl (Or.inl rfl)) (pgs_cons (pg_name (i := 3) scLe.nd rfl (Or.inl rfl)) pgs_nil))) (fun _ _ _ _ _ => pts_nil) (fun _ _ _ _ _ => pv 4) (fun _ _ _ _ _ => pe_rat2K R (by exact hr9.mono (by decide)) (E := E0) passL rfl (pa_cons (pe_op op_mulW (pe_fld (pv 3) rfl) (pv 1)) (pa_cons (pe_op op_mulW (pe_fld (pv 3) rfl) (pv 2)) pa_nil))))) pa_nil))))))), ?_⟩
    obtain ⟨dx, nd, tp, kt, ha, ⟨kvs, hd, hR⟩, ht, hk⟩ := hb
    have nN := B.T.no "_numbers" (by simp)
    have rt := TR.no "top" (by simp)
    have rb := TR.no "bottom" (by simp)
    have nda : a ≠ nd := fun e => by rw [e, hd] at ha; cases ha
    have lk := Paired.length hR
    -- the bottoms' common multiple, the tops' common divisor
    refine ⟨nd, .dK kvs, hd, True.intro, fun od => ?_⟩
    have hRL : RatD (upd H nd (.frz od (.dK kvs))) C g kvs zs := hR.upd_d hd
    have haL : (upd H nd (.frz od (.dK kvs))) a = some (.ins CB dx (balF nd tp kt (decide (V.int (zs.length : Nat) = V.int 0)))) := (upd_ne nda).trans ha
    refine ⟨_, rfl, a, CB, dx, _, _, rfl, haL, B.T.cls, nN, rfl, nd, od, kvs, rfl, upd_same, ?_⟩
    refine for_it walk_values (fun i σ Hx => (∃ o o4, σ = [some (.ref a), some (.int (lcmN g (zs.take i) : Nat)), some (.int (gcdN g (zs.take i) : Nat)), o, o4]) ∧ Hx = upd H nd (.frz od (.dK kvs))) ⟨⟨none, none, rfl⟩, rfl⟩ (fun i σ Hx _ hP => by rw [hP.2]; exact upd_same) ?_ ?_
    · rintro i x σ Hx Hx' hi ⟨⟨o, o4, rfl⟩, rfl⟩ ⟨rfl, key, ek⟩
      obtain ⟨n, en, e1, b, e2, dxb, hb⟩ := Paired.at' hRL i _ ek
      have e2 : x = .ref b := e2
      subst e2
      have mn := List.mem_of_getElem? en
      have lo0 := (lo.lo n mn).1
      refine ⟨_, rfl, _, rfl, b, C, dxb, _, _, rfl, hb, TR.cls, rb, rfl, _, _, rfl, by rw [Int.natAbs_natCast]; exact lcmN_lt sm l4 i, Nat.lt_of_lt_of_le (sm n mn) (by decide), ?_⟩
      refine ⟨_, rfl, _, rfl, b, C, dxb, _, _, rfl, hb, TR.cls, rt, rfl, _, _, rfl, ?_⟩
      refine ⟨⟨some (.ref b), o4, ?_⟩, rfl⟩
      rw [lcmN_take en, gcdN_take en]
      rfl
    · rintro σ Hx ⟨⟨o, o4, rfl⟩, rfl⟩
      rw [lk, List.take_length]
      refine ⟨upd_same, ?_⟩
      have back : upd (upd H nd (.frz od (.dK kvs))) nd (.dK kvs) = H := by
        funext c
        by_cases e : c = nd
        · subst e
          rw [upd_same, hd]
        · rw [upd_ne e, upd_ne e]
      rw [back]
      clear hRL haL
      have lz := lcmN_lt sm l4 zs.length
      rw [List.take_length] at lz
      refine ⟨nd, .dK kvs, hd, True.intro, fun od => ?_⟩
      refine ⟨_, rfl, a, CB, dx, _, _, rfl, (upd_ne nda).trans ha, B.T.cls, nN, rfl, nd, od, kvs, rfl, upd_same, fun D nD => ?_⟩
      have nDn : D ≠ nd := fun e => by rw [e, upd_same] at nD; cases nD
      have hRL : RatD (upd H nd (.frz od (.dK kvs))) C g kvs zs := hR.upd_d hd
      have hdL : (upd H nd (.frz od (.dK kvs))) nd = some (.frz od (.dK kvs)) := upd_same
      have ul : ∀ Hx, Same (upd H nd (.frz od (.dK kvs))) Hx → Same H (upd Hx nd (.dK kvs)) := fun Hx s => unlock_same hd s
      generalize upd H nd (.frz od (.dK kvs)) = HL at nD hRL hdL ul ⊢
      refine dc_it walk_items (DcP HL D C (leastF g zs) (fun _ => true) zs) (DcP.zero nD) (fun i Hx _ hP => hP.1 _ _ hdL) (fun i x Hx Hx' hi hP hy => ?_) (fun Hx hP => ?_)
      · obtain ⟨TT, n, b, en, rfl, s3, hT, hb⟩ := items_turn hRL hP.1 hy
        obtain ⟨dxb, hb'⟩ := hb
        have mn := List.mem_of_getElem? en
        have lo0 := (lo.lo n mn).1
        have sz := lo.sz n mn
        have gd := gcdN_dvd (g := g) mn
        have tp0 : 0 < (g n).1.natAbs := Int.natAbs_pos.mpr (ok.ne n mn)
        have gle := Nat.le_of_dvd tp0 gd
        have gpos := Nat.pos_of_dvd_of_pos gd tp0
        have lz2 : ((lcmN g zs : Nat) : Int).natAbs < 2 ^ 64 := by rw [Int.natAbs_natCast]; exact lz
        have gz2 : ((gcdN g zs : Nat) : Int).natAbs < 2 ^ 900 := by rw [Int.natAbs_natCast]; exact Nat.lt_of_le_of_lt gle sz.1
        have b0 : (g n).2 * ((gcdN g zs : Nat) : Int) ≠ 0 := Int.mul_ne_zero (by omega) (by omega)
        refine ⟨TT, _, rfl, SqT.of hT, rfl, _, _, rfl, _, _, rfl, rfl, rfl, yesI ?_⟩
        refine ⟨_, rfl, _, rfl, b, C, dxb, _, _, rfl, hb', TR.cls, rt, rfl, _, rfl, _, _, rfl, rfl, wide_mul sz.1 lz2 (by decide) (by decide) (by decide), _, rfl, b, C, dxb, _, _, rfl, hb', TR.cls, rb, rfl, _, rfl, _, _, rfl, rfl, wide_mul sz.2 gz2 (by decide) (by decide) (by decide), ?_⟩
        refine ⟨_, _, rfl, .inl ⟨_, _, rfl, rfl, b0, ?_, ?_, fun b' H5 s5 h5 => hP.put nD ok.ns (s3.trans s5) en rfl h5⟩⟩
        · exact Nat.lt_of_lt_of_le (wide_lt sz.1 lz2) (Nat.pow_le_pow_right (by decide) (by decide))
        · exact Nat.lt_of_lt_of_le (wide_lt sz.2 gz2) (Nat.pow_le_pow_right (by decide) (by decide))
      · rw [lk] at hP
        obtain ⟨s2, kvs', hD, hR2⟩ := hP.done
        rw [List.filter_eq_self.mpr fun _ _ => rfl] at hR2
        refine ⟨s2 _ _ hdL, _, rfl, ?_⟩
        exact MkB.of ((upd_ne nDn).trans hD) (RatD.num (hR2.upd_any fun dx fs z => by rw [s2 _ _ hdL] at z; cases z)) ok.ns ok.so fun a' H' s n hb => k a' H' ((ul _ s2).trans s) hb
end
end K05
namespace K05
open PySem PySem.Spec PyProof.Rows L2 RatM ClX
/-- a dict from names to names -/
abbrev NmD : List (Key × V) → List (Str × Str) → Prop := Paired fun kv p => kv = (.inr p.1, .str p.2)
/-- names -/
def NsT (l : List Str) : Prop := l.length ≤ 1000 ∧ ∀ n ∈ l, n.length ≤ 100000 ∧ nameT n.cps.toList = true
theorem NmD.keys {kvs : List (Key × V)} {ps : List (Str × Str)} (h : NmD kvs ps) : (kvs.map fun kv => kV kv.1) = (ps.map (·.1)).map V.str := by
  induction h with
  | nil => rfl
  | cons x t ih =>
    subst x
    simp only [List.map_cons, ih]
    rfl
theorem NmD.vals {kvs : List (Key × V)} {ps : List (Str × Str)} (h : NmD kvs ps) : kvs.map Prod.snd = (ps.map (·.2)).map V.str := by
  induction h with
  | nil => rfl
  | cons x t ih =>
    subst x
    simp only [List.map_cons, ih]
def spIsNm : Sp := fun vs H Q _ => ∃ (d : Addr) (kvs : List (Key × V)) (ps : List (Str × Str)), vs = [.ref d] ∧ H d = some (.dK kvs) ∧ NmD kvs ps ∧ NsT (ps.map (·.1)) ∧ NsT (ps.map (·.2)) ∧ ∀ H', Same H H' → Q (.bl true) H'
/-- how often each thing stands in a list: the keys in the order of their first places -/
def cntS (s : List Str × (Str → Int × Int)) (n : Str) : List Str × (Str → Int × Int) := (if n ∈ s.1 then s.1 else s.1 ++ [n], fun m => if m = n then ((if n ∈ s.1 then (s.2 n).1 else 0) + 1, 1) else s.2 m)
def cntN (l : List Str) : List Str × (Str → Int × Int) := l.foldl cntS ([], fun _ => (0, 1))
theorem cntN_take {l : List Str} {i : Nat} {n : Str} (e : l[i]? = some n) : cntN (l.take (i + 1)) = cntS (cntN (l.take i)) n := by
  unfold cntN
  rw [List.take_add_one, e, List.foldl_append]
  rfl
/-- integers for names -/
abbrev IntD (g : Str → Int × Int) : List (Key × V) → List Str → Prop := Paired fun kv n => kv = (.inr n, .int (g n).1) ∧ (g n).2 = 1 ∧ (g n).1.natAbs < 2 ^ 60
theorem IntD.num {H : Hp} {C : Addr} {g : Str → Int × Int} {kvs : List (Key × V)} {ks : List Str} (h : IntD g kvs ks) : NumD H C g kvs ks := Paired.mono' (fun kv n ⟨e, e2, e3⟩ => by
  subst e
  exact ⟨rfl, .inr ⟨rfl, e2, Nat.lt_of_lt_of_le e3 (Nat.pow_le_pow_right (by decide) (by decide))⟩⟩) h
theorem IntD.val {g : Str → Int × Int} {kvs : List (Key × V)} {ks : List Str} (h : IntD g kvs ks) {n : Str} (m : n ∈ ks) : valV kvs (.inr n) = some (.int (g n).1) ∧ (g n).2 = 1 ∧ (g n).1.natAbs < 2 ^ 60 := by
  induction h with
  | nil => cases m
  | @cons x y l1 l2 h t ih =>
    obtain ⟨h1, h2, h3⟩ := h
    subst h1
    by_cases e : y = n
    · subst e
      exact ⟨valV_pos rfl, h2, h3⟩
    · rw [valV_neg (fun z => e (by injection z))]
      exact ih (by cases m with
        | head => exact absurd rfl e
        | tail _ m => exact m)
theorem IntD.noVal {g : Str → Int × Int} {kvs : List (Key × V)} {ks : List Str} (h : IntD g kvs ks) {n : Str} (m : n ∉ ks) : valV kvs (.inr n) = none := by
  induction h with
  | nil => rfl
  | @cons x y l1 l2 h t ih =>
    obtain ⟨h1, h2, h3⟩ := h
    subst h1
    simp only [List.mem_cons, not_or] at m
    rw [valV_neg (fun z => m.1 (by injection z with z; exact z.symm))]
    exact ih m.2
theorem IntD.other {g g' : Str → Int × Int} {kvs : List (Key × V)} {ks : List Str} {n : Str} (h : IntD g kvs ks) (e : ∀ m, m ≠ n → g' m = g m) (nm : n ∉ ks) : IntD g' kvs ks := by
  induction h with
  | nil => exact .nil
  | @cons x y l1 l2 h t ih =>
    simp only [List.mem_cons, not_or] at nm
    refine .cons ?_ (ih nm.2)
    rw [e y (Ne.symm nm.1)]
    exact h
theorem IntD.put {g g' : Str → Int × Int} {kvs : List (Key × V)} {ks : List Str} {n : Str} (h : IntD g kvs ks) (e : ∀ m, m ≠ n → g' m = g m) (h1 : (g' n).2 = 1) (h2 : (g' n).1.natAbs < 2 ^ 60) :
    IntD g' (putK kvs (.inr n) (.int (g' n).1)) (if n ∈ ks then ks else ks ++ [n]) := by
  unfold putK
  rw [valV_any]
  by_cases m : n ∈ ks
  · rw [(IntD.val h m).1, if_pos m]
    clear m
    show IntD g' (kvs.map fun kv => if kv.1 = .inr n then (kv.1, V.int (g' n).1) else kv) ks
    induction h with
    | nil => exact .nil
    | @cons x y l1 l2 q t ih =>
      refine .cons ?_ ih
      obtain ⟨q1, q2, q3⟩ := q
      subst q1
      dsimp only
      by_cases c : y = n
      · subst c
        rw [if_pos rfl]
        exact ⟨rfl, h1, h2⟩
      · rw [if_neg (fun z => c (by injection z)), e y c]
        exact ⟨rfl, q2, q3⟩
  · rw [IntD.noVal h m, if_neg m]
    exact Paired.snoc (IntD.other h e m) ⟨rfl, h1, h2⟩
section
variable {P : Program} {w : World} {K : PySem.W.Frag} {mg : Str → Option Value} {base : Heap} {C BR CB BB : Addr}
theorem scIn : FnScope ["value"] ["value"] (defScope (top 16)) := ⟨rfl, rfl, rfl, by decide +kernel, rfl, by decide +kernel, by decide +kernel⟩
theorem ok_isNaming {f fN : Addr} {fd fdN : FuncData} (F : FnP K "is_naming" (top 16) f fd) (bi : mg "isinstance" = none) (bD : mg "dict" = none) (bL : mg "list" = none)
    (GN : FnOk P w K mg base CX0 3 fN fdN ["value"] (spNms K)) (bN : Binds K fdN ["value"] []) (kN : PySem.W.keepIn K (.ref fN) = true) (gN : mg "are_names" = some (.ref fN)) : FnOk P w K mg base CX0 4 f fd ["value"] spIsNm := by
  refine F.ok scIn (fun vs H Q E h => ?_) (fun cdv A outer s H vs Q E hr h => ?_)
  · obtain ⟨d, kvs, ps, rfl, _⟩ := h
    rfl
  · obtain ⟨d, kvs, ps, rfl, hd, hn, n1, n2, k⟩ := h
    have hr3 : Room 3 _ := hr
    refine ⟨_, PSs.nox (pss_one (ps_ret (pe_and (pe_callB call_isi (by rfl) bi (by decide +kernel) (pa_cons (pv 0) (pa_cons (pe_bltn (v := .ty "dict") (by rfl) bD (by decide +kernel) rfl) pa_nil)))
      (pe_and (pe_call GN hr3 rfl gN kN bN .nil pass0 (pa_cons (pe_callTy (call_list_dK rfl) (by rfl) bL PyProof.Rows.boot_list (pa_cons (pv 0) pa_nil)) pa_nil))
        (pe_one (pe_call GN hr3 rfl gN kN bN .nil pass0 (pa_cons (pe_listVals rfl (by rfl) bL (pv 0)) pa_nil))))))), ?_⟩
    refine ⟨_, rfl, _, _, _, _, _, rfl, .ty "dict", .base (.dK hd), kit_ty (r := true) (by decide +kernel), _, rfl, iteT ?_⟩
    refine ⟨_, rfl, d, kvs, rfl, hd, fun q nq => ?_⟩
    refine ⟨_, rfl, .inl ⟨q, (ps.map (·.1)).map V.str, (ps.map (·.1)).map (fun _ => true), rfl, .inl (by rw [upd_same, hn.keys]), by rw [List.length_map]; exact n1.1, by simp only [List.length_map], names_all _ n1.2, fun H1 s1 => ⟨true, congrArg V.bl (all_trues _), iteT ?_⟩⟩⟩
    have s2 := (same_upd nq).trans s1
    refine ⟨_, rfl, d, kvs, rfl, s2 _ _ hd, fun q2 nq2 => ?_⟩
    refine ⟨_, rfl, .inl ⟨q2, (ps.map (·.2)).map V.str, (ps.map (·.2)).map (fun _ => true), rfl, .inl (by rw [upd_same, hn.vals]), by rw [List.length_map]; exact n2.1, by simp only [List.length_map], names_all _ n2.2, fun H2 s3 => ?_⟩⟩
    rw [all_trues]
    exact k H2 ((s2.trans (same_upd nq2)).trans s3)
end
end K05
namespace K05
open PySem PySem.Spec PyProof.Rows L2 RatM ClX
def spCounts (K : PySem.W.Frag) : Sp := fun vs H Q _ => ∃ (a : Addr) (l : List Str), vs = [.ref a] ∧ (H a = some (.lst (l.map V.str)) ∨ H a = some (.tup (l.map V.str))) ∧ l.length ≤ 60 ∧
  ∀ d kvs H', Same H H' → H' d = some (.dK kvs) → IntD (cntN l).2 kvs (cntN l).1 → Q (.ref d) H'
theorem cntN_keys (l : List Str) : (cntN l).1.length ≤ l.length := by
  have : ∀ (l : List Str) (s : List Str × (Str → Int × Int)), (l.foldl cntS s).1.length ≤ s.1.length + l.length := by
    intro l
    induction l with
    | nil => intro s; exact Nat.le_refl _
    | cons n t ih =>
      intro s
      refine Nat.le_trans (ih _) ?_
      simp only [List.length_cons]
      unfold cntS
      dsimp only
      by_cases m : n ∈ s.1
      · rw [if_pos m]; omega
      · rw [if_neg m, List.length_append]; simp only [List.length_cons, List.length_nil]; omega
  have h := this l ([], fun _ => (0, 1))
  simpa [cntN] using h
section
variable {P : Program} {w : World} {K : PySem.W.Frag} {mg : Str → Option Value} {base : Heap} {C BR CB BB : Addr}
theorem scCt : FnScope ["things", "counts", "thing"] ["things"] (defScope (top 36)) := ⟨rfl, rfl, rfl, by decide +kernel, rfl, by decide +kernel, by decide +kernel⟩
/-- the loop's turn -/
theorem cnt_turn {A : Around} {H1 Hx : Hp} {D : Addr} {l : List Str} {i : Nat} {n : Str} (nD : H1 D = none) (le : l.length ≤ 60) (en : l[i]? = some n) (s3 : Same H1 Hx) {kv : List (Key × V)} (hDx : Hx D = some (.dK kv)) (hI : IntD (cntN (l.take i)).2 kv (cntN (l.take i)).1)
    (bd : ∀ m ∈ (cntN (l.take i)).1, ((cntN (l.take i)).2 m).1.natAbs ≤ i) {Pn : Hp → Prop} (hp : ∀ Hy kv', Same H1 Hy → Hy D = some (.dK kv') → IntD (cntN (l.take (i + 1))).2 kv' (cntN (l.take (i + 1))).1 → (∀ m ∈ (cntN (l.take (i + 1))).1, ((cntN (l.take (i + 1))).2 m).1.natAbs ≤ i + 1) → Pn Hy) :
    ∃ o, DGet Hx D (.str n) o ∧ ∃ z : Int, o.getD (.int 0) = .int z ∧ z.natAbs ≤ i ∧ ∃ H4, DPut Hx D (.str n) (.int (z + 1)) H4 ∧ Pn H4 := by
  have li : i < l.length := (List.getElem?_eq_some_iff.mp en).1
  have tk := cntN_take en
  have kl := cntN_keys (l.take i)
  have tl := List.length_take (i := i) (l := l)
  have pl := Paired.length hI
  have go : ∀ z : Int, z = (if n ∈ (cntN (l.take i)).1 then ((cntN (l.take i)).2 n).1 else 0) → z.natAbs ≤ i → ∃ H4, DPut Hx D (.str n) (.int (z + 1)) H4 ∧ Pn H4 := fun z ez zl => by
    refine ⟨_, DPut.k (k := .inr n) hDx (by rw [sizeLine_eq]; omega), ?_⟩
    refine hp _ _ (fun c o e => ?_) upd_same ?_ ?_
    · rw [upd_ne (ne_of_none e nD)]; exact s3 _ _ e
    · have put := IntD.put (n := n) (g' := (cntS (cntN (l.take i)) n).2) hI (fun m ne => if_neg ne) (by show (if n = n then _ else _ : Int × Int).2 = 1; rw [if_pos rfl]) (by
        show (if n = n then _ else _ : Int × Int).1.natAbs < _
        rw [if_pos rfl, ← ez]
        have : (z + 1).natAbs ≤ i + 1 := by omega
        exact Nat.lt_of_le_of_lt (Nat.le_trans this (show i + 1 ≤ 61 by omega)) (by decide))
      have e1 : ((cntS (cntN (l.take i)) n).2 n).1 = z + 1 := by
        show (if n = n then _ else _ : Int × Int).1 = _
        rw [if_pos rfl, ← ez]
      rw [e1] at put
      rw [tk]
      exact put
    · rw [tk]
      intro m hm
      show (if m = n then _ else _ : Int × Int).1.natAbs ≤ _
      by_cases e : m = n
      · rw [if_pos e, ← ez]
        show (z + 1).natAbs ≤ i + 1
        omega
      · rw [if_neg e]
        have hm2 : m ∈ (cntN (l.take i)).1 := by
          have hm : m ∈ (if n ∈ (cntN (l.take i)).1 then (cntN (l.take i)).1 else (cntN (l.take i)).1 ++ [n]) := hm
          by_cases c : n ∈ (cntN (l.take i)).1
          · rw [if_pos c] at hm; exact hm
          · rw [if_neg c] at hm
            rcases List.mem_append.mp hm with h | h
            · exact h
            · exact absurd (List.mem_singleton.mp h) e
        have := bd m hm2
        omega
  refine ⟨_, DGet.k (k := .inr n) hDx, ?_⟩
  by_cases m : n ∈ (cntN (l.take i)).1
  · obtain ⟨e1, e2, e3⟩ := IntD.val hI m
    rw [e1]
    exact ⟨_, rfl, bd n m, go _ (if_pos m).symm (bd n m)⟩
  · rw [IntD.noVal hI m]
    exact ⟨0, rfl, Nat.zero_le _, go 0 (if_neg m).symm (Nat.zero_le _)⟩
theorem ok_counts {f : Addr} {fd : FuncData} (F : FnP K "_counts" (top 36) f fd) : FnOk P w K mg base CX0 1 f fd ["things"] (spCounts K) := by
  refine F.ok scCt (fun vs H Q E h => ?_) (fun cdv A outer s H vs Q E hr h => ?_)
  · obtain ⟨a, l, rfl, _⟩ := h
    rfl
  · obtain ⟨a, l, rfl, hl, le, k⟩ := h
    have hr0 : Room 0 _ := hr
    have hu1 : (A.deeper (envOfC (Str.ofString "_counts") (defScope (top 36)) s.heap.objs.size f cdv)).units + 1 < cLine := by have := hr0.units; omega
    rcases hl with hl | hl
    · refine ⟨_, PSs.nox (pss_cons (ps_set (i := 1) scCt.nd rfl (.inl rfl) pe_dnewK) (pss_cons (ps_for PassesOwn.never rfl (pi_list (pv 0)) (pg_name (i := 2) scCt.nd rfl (.inl rfl)) (pss_one (ps_dput hu1 (pv 1) (pv 2) (pe_op op_add (pe_dget2 hu1 (pv 1) (pv 2) pe_int ⟨rfl, rfl, rfl, rfl⟩) pe_int) (by rfl)))) (pss_one (ps_ret (pv 1))))), ?_⟩
      intro D nD
      refine ⟨_, rfl, a, rfl, ⟨_, SqL.of ((same_upd nD) _ _ hl)⟩, ?_⟩
      refine for_it (walk_list (xs := l.map V.str)) (fun i σ Hx => (∃ o, σ = [some (.ref a), some (.ref D), o]) ∧ Same H Hx ∧ (∀ m ∈ (cntN (l.take i)).1, ((cntN (l.take i)).2 m).1.natAbs ≤ i) ∧ ∃ kv, Hx D = some (.dK kv) ∧ IntD (cntN (l.take i)).2 kv (cntN (l.take i)).1) ⟨⟨none, rfl⟩, same_upd nD, (by intro m hm; cases hm), [], upd_same, .nil⟩ (fun i σ Hx _ hP => SqL.of (hP.2.1 _ _ hl)) ?_ ?_
      · rintro i x σ Hx Hx' hi ⟨⟨o, rfl⟩, s3, bd, kv, hDx, hI⟩ ⟨rfl, ex⟩
        rw [List.getElem?_map] at ex
        obtain ⟨n, en, rfl⟩ := Option.map_eq_some_iff.mp ex
        obtain ⟨oo, dg, z, ez, zl, H4, dp, hq⟩ := cnt_turn (A := A) (Pn := fun Hy => (∃ o, [some (V.ref a), some (.ref D), some (.str n)] = [some (V.ref a), some (.ref D), o]) ∧ Same H Hy ∧ (∀ m ∈ (cntN (l.take (i + 1))).1, ((cntN (l.take (i + 1))).2 m).1.natAbs ≤ i + 1) ∧ ∃ kv, Hy D = some (.dK kv) ∧ IntD (cntN (l.take (i + 1))).2 kv (cntN (l.take (i + 1))).1) nD le en s3 hDx hI bd fun Hy kv' s hk hi b => ⟨⟨_, rfl⟩, s, b, kv', hk, hi⟩
        refine ⟨_, rfl, D, rfl, .inl ⟨kv, .inl hDx⟩, _, rfl, oo, dg, ?_⟩
        rw [ez]
        exact ⟨_, _, rfl, rfl, _, rfl, _, rfl, D, H4, rfl, dp, hq⟩
      · rintro σ Hx ⟨⟨o, rfl⟩, s3, bd, kv, hDx, hI⟩
        rw [List.length_map, List.take_length] at hI
        exact ⟨_, rfl, k D kv Hx s3 hDx hI⟩
    · refine ⟨_, PSs.nox (pss_cons (ps_set (i := 1) scCt.nd rfl (.inl rfl) pe_dnewK) (pss_cons (ps_for PassesOwn.never rfl (pi_tup (pv 0)) (pg_name (i := 2) scCt.nd rfl (.inl rfl)) (pss_one (ps_dput hu1 (pv 1) (pv 2) (pe_op op_add (pe_dget2 hu1 (pv 1) (pv 2) pe_int ⟨rfl, rfl, rfl, rfl⟩) pe_int) (by rfl)))) (pss_one (ps_ret (pv 1))))), ?_⟩
      intro D nD
      refine ⟨_, rfl, a, rfl, ⟨_, SqT.of ((same_upd nD) _ _ hl)⟩, ?_⟩
      refine for_it (walk_tup (xs := l.map V.str)) (fun i σ Hx => (∃ o, σ = [some (.ref a), some (.ref D), o]) ∧ Same H Hx ∧ (∀ m ∈ (cntN (l.take i)).1, ((cntN (l.take i)).2 m).1.natAbs ≤ i) ∧ ∃ kv, Hx D = some (.dK kv) ∧ IntD (cntN (l.take i)).2 kv (cntN (l.take i)).1) ⟨⟨none, rfl⟩, same_upd nD, (by intro m hm; cases hm), [], upd_same, .nil⟩ (fun i σ Hx _ hP => SqT.of (hP.2.1 _ _ hl)) ?_ ?_
      · rintro i x σ Hx Hx' hi ⟨⟨o, rfl⟩, s3, bd, kv, hDx, hI⟩ ⟨rfl, ex⟩
        rw [List.getElem?_map] at ex
        obtain ⟨n, en, rfl⟩ := Option.map_eq_some_iff.mp ex
        obtain ⟨oo, dg, z, ez, zl, H4, dp, hq⟩ := cnt_turn (A := A) (Pn := fun Hy => (∃ o, [some (V.ref a), some (.ref D), some (.str n)] = [some (V.ref a), some (.ref D), o]) ∧ Same H Hy ∧ (∀ m ∈ (cntN (l.take (i + 1))).1, ((cntN (l.take (i + 1))).2 m).1.natAbs ≤ i + 1) ∧ ∃ kv, Hy D = some (.dK kv) ∧ IntD (cntN (l.take (i + 1))).2 kv (cntN (l.take (i + 1))).1) nD le en s3 hDx hI bd fun Hy kv' s hk hi b => ⟨⟨_, rfl⟩, s, b, kv', hk, hi⟩
        refine ⟨_, rfl, D, rfl, .inl ⟨kv, .inl hDx⟩, _, rfl, oo, dg, ?_⟩
        rw [ez]
        exact ⟨_, _, rfl, rfl, _, rfl, _, rfl, D, H4, rfl, dp, hq⟩
      · rintro σ Hx ⟨⟨o, rfl⟩, s3, bd, kv, hDx, hI⟩
        rw [List.length_map, List.take_length] at hI
        exact ⟨_, rfl, k D kv Hx s3 hDx hI⟩
end
end K05
namespace K05
open PySem PySem.Spec PyProof.Rows L2 RatM ClX
theorem cnt_keys : ∀ (l : List Str) (s : List Str × (Str → Int × Int)), s.1.Nodup → (∀ m ∈ s.1, 1 ≤ (s.2 m).1 ∧ (s.2 m).2 = 1) → (l.foldl cntS s).1.Nodup ∧ (∀ m ∈ (l.foldl cntS s).1, m ∈ s.1 ∨ m ∈ l) ∧ ∀ m ∈ (l.foldl cntS s).1, 1 ≤ ((l.foldl cntS s).2 m).1 ∧ ((l.foldl cntS s).2 m).2 = 1
  | [], s, h, p => ⟨h, fun m hm => .inl hm, p⟩
  | n :: t, s, h, p => by
    have nd : (cntS s n).1.Nodup := by
      unfold cntS
      dsimp only
      by_cases c : n ∈ s.1
      · rw [if_pos c]; exact h
      · rw [if_neg c]
        exact List.nodup_append.mpr ⟨h, by simp, fun a ha b hb e => c (by rw [List.mem_singleton.mp hb] at e; exact e ▸ ha)⟩
    have mem : ∀ m ∈ (cntS s n).1, m ∈ s.1 ∨ m = n := fun m hm => by
      unfold cntS at hm
      dsimp only at hm
      by_cases c : n ∈ s.1
      · rw [if_pos c] at hm; exact .inl hm
      · rw [if_neg c] at hm
        exact (List.mem_append.mp hm).imp id List.mem_singleton.mp
    have pos : ∀ m ∈ (cntS s n).1, 1 ≤ ((cntS s n).2 m).1 ∧ ((cntS s n).2 m).2 = 1 := fun m hm => by
      show 1 ≤ (if m = n then _ else _ : Int × Int).1 ∧ (if m = n then _ else _ : Int × Int).2 = 1
      by_cases e : m = n
      · rw [if_pos e]
        refine ⟨?_, rfl⟩
        by_cases c : n ∈ s.1
        · rw [if_pos c]
          have := (p n c).1
          show 1 ≤ (s.2 n).1 + 1
          omega
        · rw [if_neg c]
          decide
      · rw [if_neg e]
        exact p m ((mem m hm).resolve_right e)
    obtain ⟨h1, h2, h3⟩ := cnt_keys t (cntS s n) nd pos
    refine ⟨h1, fun m hm => ?_, h3⟩
    rcases h2 m hm with z | z
    · exact (mem m z).imp id fun e => by rw [e]; exact List.mem_cons_self
    · exact .inr (List.mem_cons_of_mem _ z)
theorem cntN_ok {l : List Str} (h : NsT l) (l60 : l.length ≤ 60) : NsOk (cntN l).1 ∧ ∀ m ∈ (cntN l).1, 1 ≤ ((cntN l).2 m).1 ∧ ((cntN l).2 m).2 = 1 := by
  obtain ⟨h1, h2, h3⟩ := cnt_keys l ([], fun _ => (0, 1)) List.nodup_nil fun m hm => by cases hm
  refine ⟨⟨h1, Nat.le_trans (cntN_keys l) l60, fun n m => ?_⟩, h3⟩
  rcases h2 n m with z | z
  · cases z
  · exact h.2 n z
def spMean (CB C : Addr) : Sp := fun vs H Q _ => ∃ (a : Addr) (l : List Str), vs = [.ref a] ∧ (H a = some (.lst (l.map V.str)) ∨ H a = some (.tup (l.map V.str))) ∧ NsT l ∧ l.length ≤ 60 ∧ l ≠ [] ∧
  ∀ a' ys H', Same H H' → ys.Perm (cntN l).1 → sortedS ys = true → BalAt H' a' CB C (mulF (cntN l).2 (lowT 1 (l.length : Nat), lowB 1 (l.length : Nat))) (nz (mulF (cntN l).2 (lowT 1 (l.length : Nat), lowB 1 (l.length : Nat))) ys) → Q (.ref a') H'
section
variable {P : Program} {w : World} {K : PySem.W.Frag} {mg : Str → Option Value} {base : Heap} {C BR CB BB : Addr}
theorem scMe : FnScope ["things"] ["things"] (defScope (top 35)) := ⟨rfl, rfl, rfl, by decide +kernel, rfl, by decide +kernel, by decide +kernel⟩
theorem ok_meanOf {f fN fC fM fR : Addr} {fd fdN fdC fdM : FuncData} (F : FnP K "mean_of" (top 35) f fd) (O : OpsK P w K mg base CB C BR) (M : ErrN P w K mg base "BadBalance" BB ["part"]) (bl : mg "len" = none)
    (GN : FnOk P w K mg base CX0 3 fN fdN ["value"] (spNms K)) (bN : Binds K fdN ["value"] []) (kN : PySem.W.keepIn K (.ref fN) = true) (gN : mg "are_names" = some (.ref fN))
    (GC : FnOk P w K mg base CX0 1 fC fdC ["things"] (spCounts K)) (bC : Binds K fdC ["things"] []) (kC : PySem.W.keepIn K (.ref fC) = true) (gC : mg "_counts" = some (.ref fC))
    (MM : OwnM K CB (PySem.dunder Operator.Mult.info.2) fM) (GM : FnOk P w K mg base (L2.CX P w) 11 fM fdM ["self", "other"] (spMulB CB C)) (bM : Binds K fdM ["self", "other"] []) (hc : PySem.W.selfFirst K CB = true) (hR : PySem.W.findIn K (.ref CB) (dunderR Operator.Mult.info.2) = some none)
    (M2 : OwnM K C (PySem.dunder Operator.Mult.info.2) fR) (hR2 : PySem.W.findIn K (.ref C) (dunderR Operator.Mult.info.2) = some none) (hsub : PySem.W.subIn K (.ref C) (.ref CB) = some false) :
    FnOk P w K mg base (L2.CX P w) 12 f fd ["things"] (spMean CB C) := by
  have B := O.B
  have R := O.R
  refine F.ok scMe (fun vs H Q E h => ?_) (fun cdv A outer s H vs Q E hr h => ?_)
  · obtain ⟨a, l, rfl, _⟩ := h
    rfl
  · obtain ⟨a, l, rfl, hl, ns, l60, ne, k⟩ := h
    have hr11 : Room 11 _ := hr
    refine ⟨_, (pss_cons (ps_if (PW.pt (pw_or (pt_not (pt_val (pe_call GN (hr11.mono (by decide)) rfl gN kN bN .nil pass0 (pa_cons (pv 0) pa_nil)))) (pw_or1 (pt_cmpR op_eq (pe_callB call_len_seq (by rfl) bl PySem.boot_len (pa_cons (pv 0) pa_nil)) pe_int (nomark _))))) (pss_one (ps_raiseN rfl M (hr11.mono (by decide)) (takes_of rfl rfl rfl rfl) (by rfl) (pa_cons pe_str pa_nil))) pss_nil)
      (pss_one (ps_ret (pe_op (op_ownX (op := .Mult) MM hc hR M2 O.sf hR2 (Ne.symm B.n) hsub GM (by exact hr11) bM (E := E0) passL) (pe_bal B (by exact hr11.mono (by decide)) (E := E0) passL rfl (pa_cons (pe_call GC (hr11.mono (by decide)) rfl gC kC bC .nil pass0 (pa_cons (pv 0) pa_nil)) pa_nil)) (pe_rat2 R (by exact hr11.mono (by decide)) (E := E0) passL rfl (pa_cons pe_int (pa_cons (pe_callB call_len_seq (by rfl) bl PySem.boot_len (pa_cons (pv 0) pa_nil)) pa_nil))))))), ?_⟩
    have lp : 0 < l.length := List.length_pos_iff.mpr ne
    refine ⟨_, rfl, _, rfl, .inl ⟨a, l.map V.str, l.map (fun _ => true), rfl, hl, by rw [List.length_map]; exact ns.1, by simp only [List.length_map], names_all _ ns.2, fun H1 s1 => ⟨true, congrArg V.bl (all_trues _), iteF ?_⟩⟩⟩
    have hl1 : H1 a = some (.lst (l.map V.str)) ∨ H1 a = some (.tup (l.map V.str)) := hl.imp (s1 _ _) (s1 _ _)
    have sq : ∀ {Hx : Hp}, Same H1 Hx → SqL K Hx a (l.map V.str) ∨ SqT K Hx a (l.map V.str) := fun s => hl1.imp (fun e => SqL.of (s _ _ e)) (fun e => SqT.of (s _ _ e))
    refine ⟨_, rfl, a, l.map V.str, rfl, sq (Same.refl _), rfl, false, ?_, iteF ?_⟩
    · rw [List.length_map]
      exact congrArg V.bl (decide_eq_false fun z => by injection z with z; omega)
    dsimp only [tNext]
    refine ⟨_, rfl, a, l, rfl, hl1, l60, fun d kvs H2 s2 hd hI => ?_⟩
    obtain ⟨nok, pos⟩ := cntN_ok ns l60
    refine ⟨_, rfl, d, kvs, (cntN l).1, (cntN l).2, rfl, hd, hI.num, nok, fun a1 ys H3 s3 n1 py sy hb => ?_⟩
    have nzy : nz (cntN l).2 ys = ys := List.filter_eq_self.mpr fun n m => by
      have := (pos n (py.mem_iff.mp m)).1
      simp only [Bool.not_eq_true', decide_eq_false_iff_not]
      omega
    rw [nzy] at hb
    have s23 := s2.trans s3
    have l0 : ((l.length : Nat) : Int) ≠ 0 := by omega
    have lz : ((l.length : Nat) : Int).natAbs < 2 ^ 10 := by rw [Int.natAbs_natCast]; exact Nat.lt_of_le_of_lt l60 (by decide)
    refine ⟨_, rfl, a, l.map V.str, rfl, sq s23, _, _, rfl, .inl ⟨1, ((l.length : Nat) : Int), rfl, by rw [List.length_map], l0, by decide, Nat.lt_of_lt_of_le lz (Nat.pow_le_pow_right (by decide) (by decide)), fun r H4 s4 h4 => ?_⟩⟩
    have hb4 := hb.same s4
    have okB : BalOk (cntN l).2 ys := ⟨nok.perm py, sy, fun n m => by have := (pos n (py.mem_iff.mp m)).1; omega⟩
    have loB : BalLo 1900 (cntN l).2 ys := ⟨fun n m => by
      obtain ⟨p1, p2⟩ := pos n (py.mem_iff.mp m)
      rw [p2]
      exact ⟨by decide, Int.gcd_one⟩, fun n m => by
      obtain ⟨_, p2, p3⟩ := IntD.val hI (py.mem_iff.mp m)
      rw [p2]
      exact ⟨Nat.lt_of_lt_of_le p3 (Nat.pow_le_pow_right (by decide) (by decide)), by decide⟩⟩
    obtain ⟨dxB, _, _, _, eB, _⟩ := id hb4
    refine ⟨a1, r, rfl, rfl, ⟨dxB, _, eB⟩, h4.ins, _, _, rfl, a1, .ref r, (cntN l).2, ys, (lowT 1 (l.length : Nat), lowB 1 (l.length : Nat)), rfl, hb4, okB, loB, .inl ⟨r, rfl, h4⟩, ?_, ?_, ?_, fun a' H5 s5 h5 => k a' ys H5 (((s1.trans s23).trans s4).trans s5) py sy h5⟩
    · exact Nat.lt_of_le_of_lt (lowT_le l0) (by decide)
    · exact Nat.lt_of_le_of_lt (lowB_le l0) (Nat.lt_of_lt_of_le lz (Nat.pow_le_pow_right (by decide) (by decide)))
    · have := lowB_pos (t := 1) l0
      show lowB 1 (l.length : Nat) ≠ 0
      omega
end
end K05
namespace K05
open PySem PySem.Spec PyProof.Rows L2 RatM ClX
/-- the key as data -/
def keyD (g : Str → Int × Int) (zs : List Str) : List PyData := zs.flatMap fun n => [.str n, .int (g n).1, .int (g n).2]
theorem keyV_cons (g : Str → Int × Int) (n : Str) (t : List Str) : keyV g (n :: t) = V.str n :: V.int (g n).1 :: V.int (g n).2 :: keyV g t := rfl
theorem keyD_cons (g : Str → Int × Int) (n : Str) (t : List Str) : keyD g (n :: t) = PyData.str n :: PyData.int (g n).1 :: PyData.int (g n).2 :: keyD g t := rfl
theorem dp_key {K : PySem.W.Frag} {H : Hp} (g : Str → Int × Int) : ∀ zs : List Str, DpAll K H (keyV g zs) (keyD g zs)
  | [] => .nil
  | n :: t => by
    rw [keyV_cons, keyD_cons]
    exact .cons (.str n) (.cons (.int _) (.cons (.int _) (dp_key g t)))
theorem strOk_name {n : Str} (h : nameT n.cps.toList = true) : PyData.strOk n = true := by
  unfold nameT at h
  rw [Bool.and_eq_true, Bool.and_eq_true, Bool.and_eq_true] at h
  have h := h.2.2.2
  rw [List.all_eq_true] at h
  have lt : ∀ c ∈ sigS.cps.toList, c < 0x110000 := by decide +kernel
  unfold PyData.strOk
  rw [Array.all_eq_true']
  intro c hc
  have := h c (Array.mem_toList_iff.mpr hc)
  exact decide_eq_true (lt c (of_decide_eq_true this))
theorem can_key (g : Str → Int × Int) : ∀ zs : List Str, (∀ n ∈ zs, nameT n.cps.toList = true) → PyData.canLayAll0 (keyD g zs) = true
  | [], _ => rfl
  | n :: t, h => by
    rw [keyD_cons]
    have := can_key g t fun m hm => h m (List.mem_cons_of_mem _ hm)
    simp only [PyData.canLayAll0, PyData.canLay0, this, Bool.and_true, Bool.true_and]
    exact strOk_name (h n List.mem_cons_self)
theorem dep_key (g : Str → Int × Int) : ∀ zs : List Str, PyData.depthAll (keyD g zs) ≤ 1
  | [] => Nat.zero_le _
  | n :: t => by
    rw [keyD_cons]
    have := dep_key g t
    simp only [PyData.depthAll, PyData.depth]
    omega
theorem shaped_key {g : Str → Int × Int} {zs : List Str} (h : ∀ n ∈ zs, nameT n.cps.toList = true) : SeqAt.shaped (.tuple (keyD g zs)) = true := by
  have h1 := can_key g zs h
  have h2 := dep_key g zs
  unfold SeqAt.shaped
  rw [Bool.and_eq_true]
  refine ⟨by simp only [PyData.canLay0]; exact h1, decide_eq_true ?_⟩
  simp only [PyData.depth]
  omega
theorem eqv_key {g g2 : Str → Int × Int} {zs : List Str} (h : ∀ n ∈ zs, nameT n.cps.toList = true) (e : ∀ n ∈ zs, g n = g2 n) : PyData.eqv (.tuple (keyD g zs)) (.tuple (keyD g2 zs)) = true := by
  have : keyD g zs = keyD g2 zs := by
    clear h
    induction zs with
    | nil => rfl
    | cons n t ih => rw [keyD_cons, keyD_cons, e n List.mem_cons_self, ih fun m hm => e m (List.mem_cons_of_mem _ hm)]
  rw [← this]
  exact PySem.SeqAt.eqv_refl _ (by simp only [PyData.canLay0]; exact can_key g zs h)
/-- self == other -/
def spEqB (CB C : Addr) : Sp := fun vs H Q _ => ∃ (a b : Addr) (g g2 : Str → Int × Int) (zs zs2 : List Str), vs = [.ref a, .ref b] ∧ BalAt H a CB C g zs ∧ BalAt H b CB C g2 zs2 ∧ NsOk zs ∧ NsOk zs2 ∧ Q (.bl (PyData.eqv (.tuple (keyD g zs)) (.tuple (keyD g2 zs2)))) H
section
variable {P : Program} {w : World} {K : PySem.W.Frag} {mg : Str → Option Value} {base : Heap} {C BR CB BB : Addr}
theorem scEqB : FnScope ["self", "other"] ["self", "other"] (defScope (balM 12)) := ⟨rfl, rfl, rfl, by decide +kernel, rfl, by decide +kernel, by decide +kernel⟩
theorem ok_eqB {f : Addr} {fd : FuncData} (F : MtP K "__eq__" "Balance.__eq__" (balM 12) f fd) (T : BalC K CB) (gB : mg "Balance" = some (.ref CB)) (bi : mg "isinstance" = none) (tyB : ∀ (H : Hp) (a : Addr) g zs, BalAt H a CB C g zs → TyX K H (.ref a) (.ref CB)) (cc : PySem.W.kitOne K (.ref CB) (.ref CB) = some true) :
    FnOk P w K mg base CX0 1 f fd ["self", "other"] (spEqB CB C) := by
  refine F.ok scEqB (fun vs H Q E h => ?_) (fun cdv A outer s H vs Q E hr h => ?_)
  · obtain ⟨a, b, g, g2, zs, zs2, rfl, _⟩ := h
    rfl
  · obtain ⟨a, b, g, g2, zs, zs2, rfl, hb, hb2, n1, n2, k⟩ := h
    have hr0 : Room 0 _ := hr
    have kk := T.no "key" (by simp)
    refine ⟨_, PSs.nox (pss_one (ps_ret (pe_and (pe_callB call_isi (by rfl) bi (by decide +kernel) (pa_cons (pv 1) (pa_cons (pe_glob (v := .ref _) rfl gB rfl) pa_nil))) (pe_one (pe_cmpR (op_eqD hr0.units) (pe_fld (pv 0) rfl) (pe_fld (pv 1) rfl) (nomark _)))))), ?_⟩
    refine ⟨_, rfl, _, _, _, _, _, rfl, .own CB, tyB _ _ _ _ hb2, cc, true, rfl, iteT ?_⟩
    obtain ⟨dx, nd, tp, kt, ha, _, _, hk⟩ := hb
    obtain ⟨dx2, nd2, tp2, kt2, ha2, _, _, hk2⟩ := hb2
    exact ⟨_, rfl, a, CB, dx, _, _, rfl, ha, T.cls, kk, rfl, _, rfl, b, CB, dx2, _, _, rfl, ha2, T.cls, kk, rfl, _, _, .tup (SqT.of hk) (dp_key g zs), .tup (SqT.of hk2) (dp_key g2 zs2), shaped_key fun n m => (n1.nm n m).2, shaped_key fun n m => (n2.nm n m).2, k⟩
end
end K05
namespace K05
open PySem PySem.Spec PyProof.Rows L2 RatM ClX
/-- the sum of two fractions -/
def plusF (x y : Int × Int) : Int × Int := (lowT (x.1 * y.2 + y.1 * x.2) (x.2 * y.2), lowB (x.1 * y.2 + y.1 * x.2) (x.2 * y.2))
/-- the new name of a thing -/
def nmOf (ps : List (Str × Str)) (n : Str) : Str := ((ps.find? fun p => decide (p.1 = n)).map (·.2)).getD n
def renS (ps : List (Str × Str)) (g : Str → Int × Int) (s : List Str × (Str → Int × Int)) (n : Str) : List Str × (Str → Int × Int) :=
  (if nmOf ps n ∈ s.1 then s.1 else s.1 ++ [nmOf ps n], fun x => if x = nmOf ps n then plusF (g n) (if nmOf ps n ∈ s.1 then s.2 (nmOf ps n) else (0, 1)) else s.2 x)
def renN (ps : List (Str × Str)) (g : Str → Int × Int) (zs : List Str) : List Str × (Str → Int × Int) := zs.foldl (renS ps g) ([], fun _ => (0, 1))
theorem renN_take {ps : List (Str × Str)} {g : Str → Int × Int} {zs : List Str} {i : Nat} {n : Str} (e : zs[i]? = some n) : renN ps g (zs.take (i + 1)) = renS ps g (renN ps g (zs.take i)) n := by
  unfold renN
  rw [List.take_add_one, e, List.foldl_append]
  rfl
theorem nmOf_get {kvs : List (Key × V)} {ps : List (Str × Str)} (h : NmD kvs ps) (n : Str) : (valV kvs (.inr n)).getD (.str n) = .str (nmOf ps n) := by
  induction h with
  | nil => rfl
  | @cons x p l1 l2 h t ih =>
    subst h
    by_cases e : p.1 = n
    · rw [valV_pos (by rw [e])]
      unfold nmOf
      rw [List.find?_cons_of_pos (by simp [e])]
      rfl
    · rw [valV_neg (fun z => e (by injection z)), ih]
      unfold nmOf
      rw [List.find?_cons_of_neg (by simp [e])]
theorem nmOf_ok {ps : List (Str × Str)} {n : Str} (h : NsT (ps.map (·.2))) (hn : n.length ≤ 100000 ∧ nameT n.cps.toList = true) : (nmOf ps n).length ≤ 100000 ∧ nameT (nmOf ps n).cps.toList = true := by
  unfold nmOf
  cases e : ps.find? fun p => decide (p.1 = n) with
  | none => exact hn
  | some p => exact h.2 p.2 (List.mem_map.mpr ⟨p, List.mem_of_find?_eq_some e, rfl⟩)
/-- what holds of the names so far -/
structure RenI (s : List Str × (Str → Int × Int)) (i : Nat) : Prop where
  nd : s.1.Nodup
  le : s.1.length ≤ i
  nm : ∀ n ∈ s.1, n.length ≤ 100000 ∧ nameT n.cps.toList = true
  lo : ∀ m ∈ s.1, 0 < (s.2 m).2 ∧ (s.2 m).1.natAbs < 2 ^ (400 * (i + 1)) ∧ (s.2 m).2.natAbs < 2 ^ (400 * (i + 1))
theorem plusF_sz {x y : Int × Int} {i : Nat} (hx : x.1.natAbs < 2 ^ 300 ∧ x.2.natAbs < 2 ^ 300) (x0 : 0 < x.2) (hy : y.1.natAbs < 2 ^ (400 * (i + 1)) ∧ y.2.natAbs < 2 ^ (400 * (i + 1))) (y0 : 0 < y.2) :
    0 < (plusF x y).2 ∧ (plusF x y).1.natAbs < 2 ^ (400 * (i + 1 + 1)) ∧ (plusF x y).2.natAbs < 2 ^ (400 * (i + 1 + 1)) := by
  have b0 : x.2 * y.2 ≠ 0 := Int.mul_ne_zero (by omega) (by omega)
  have pw : 2 ^ (301 + 400 * (i + 1)) ≤ 2 ^ (400 * (i + 1 + 1)) := Nat.pow_le_pow_right (by decide) (by omega)
  have two : 2 ^ (301 + 400 * (i + 1)) = 2 ^ (300 + 400 * (i + 1)) + 2 ^ (300 + 400 * (i + 1)) := by rw [show 301 + 400 * (i + 1) = (300 + 400 * (i + 1)) + 1 by omega, Nat.pow_succ]; omega
  have m1 : (x.1 * y.2).natAbs < 2 ^ (300 + 400 * (i + 1)) := wide_lt hx.1 hy.2
  have m2 : (x.2 * y.1).natAbs < 2 ^ (300 + 400 * (i + 1)) := wide_lt hx.2 hy.1
  have m3 : (x.2 * y.2).natAbs < 2 ^ (300 + 400 * (i + 1)) := wide_lt hx.2 hy.2
  rw [Int.mul_comm x.2 y.1] at m2
  have ad := Int.natAbs_add_le (x.1 * y.2) (y.1 * x.2)
  refine ⟨lowB_pos b0, ?_, ?_⟩
  · exact Nat.lt_of_le_of_lt (lowT_le b0) (by omega)
  · exact Nat.lt_of_le_of_lt (lowB_le b0) (by omega)
theorem RenI.step {ps : List (Str × Str)} {g : Str → Int × Int} {s : List Str × (Str → Int × Int)} {i : Nat} {n : Str} (h : RenI s i) (hg : (g n).1.natAbs < 2 ^ 300 ∧ (g n).2.natAbs < 2 ^ 300) (g0 : 0 < (g n).2) (hn : (nmOf ps n).length ≤ 100000 ∧ nameT (nmOf ps n).cps.toList = true) : RenI (renS ps g s n) (i + 1) := by
  have mem : ∀ m ∈ (renS ps g s n).1, m ∈ s.1 ∨ m = nmOf ps n := fun m hm => by
    unfold renS at hm
    dsimp only at hm
    by_cases c : nmOf ps n ∈ s.1
    · rw [if_pos c] at hm; exact .inl hm
    · rw [if_neg c] at hm
      exact (List.mem_append.mp hm).imp id List.mem_singleton.mp
  have on : (if nmOf ps n ∈ s.1 then s.2 (nmOf ps n) else (0, 1) : Int × Int).1.natAbs < 2 ^ (400 * (i + 1)) ∧ (if nmOf ps n ∈ s.1 then s.2 (nmOf ps n) else (0, 1) : Int × Int).2.natAbs < 2 ^ (400 * (i + 1)) ∧ 0 < (if nmOf ps n ∈ s.1 then s.2 (nmOf ps n) else (0, 1) : Int × Int).2 := by
    by_cases c : nmOf ps n ∈ s.1
    · rw [if_pos c]
      obtain ⟨z1, z2, z3⟩ := h.lo _ c
      exact ⟨z2, z3, z1⟩
    · rw [if_neg c]
      have : (1 : Nat) < 2 ^ (400 * (i + 1)) := Nat.lt_of_lt_of_le (by decide) (Nat.pow_le_pow_right (by decide) (show 1 ≤ 400 * (i + 1) by omega))
      exact ⟨by show 0 < _; omega, this, by decide⟩
  refine ⟨?_, ?_, fun m hm => ?_, fun m hm => ?_⟩
  · unfold renS
    dsimp only
    by_cases c : nmOf ps n ∈ s.1
    · rw [if_pos c]; exact h.nd
    · rw [if_neg c]
      exact List.nodup_append.mpr ⟨h.nd, by simp, fun a ha b hb e => c (by rw [List.mem_singleton.mp hb] at e; exact e ▸ ha)⟩
  · unfold renS
    dsimp only
    have := h.le
    by_cases c : nmOf ps n ∈ s.1
    · rw [if_pos c]; omega
    · rw [if_neg c, List.length_append]; simp only [List.length_cons, List.length_nil]; omega
  · rcases mem m hm with z | z
    · exact h.nm m z
    · rw [z]; exact hn
  · show 0 < (if m = nmOf ps n then _ else _ : Int × Int).2 ∧ (if m = nmOf ps n then _ else _ : Int × Int).1.natAbs < _ ∧ (if m = nmOf ps n then _ else _ : Int × Int).2.natAbs < _
    by_cases e : m = nmOf ps n
    · rw [if_pos e]
      exact plusF_sz hg g0 ⟨on.1, on.2.1⟩ on.2.2
    · rw [if_neg e]
      obtain ⟨z1, z2, z3⟩ := h.lo m ((mem m hm).resolve_right e)
      have pw : 2 ^ (400 * (i + 1)) ≤ 2 ^ (400 * (i + 1 + 1)) := Nat.pow_le_pow_right (by decide) (by omega)
      exact ⟨z1, Nat.lt_of_lt_of_le z2 pw, Nat.lt_of_lt_of_le z3 pw⟩
end K05
namespace K05
open PySem PySem.Spec PyProof.Rows L2 RatM ClX
def spRen (CB C : Addr) : Sp := fun vs H Q _ => ∃ (a d : Addr) (g : Str → Int × Int) (zs : List Str) (kn : List (Key × V)) (ps : List (Str × Str)), vs = [.ref a, .ref d] ∧ BalAt H a CB C g zs ∧ BalOk g zs ∧ BalLo 300 g zs ∧ zs.length ≤ 4 ∧ H d = some (.dK kn) ∧ NmD kn ps ∧ NsT (ps.map (·.1)) ∧ NsT (ps.map (·.2)) ∧
  ∀ a' ys H', Same H H' → ys.Perm (renN ps g zs).1 → sortedS ys = true → BalAt H' a' CB C (renN ps g zs).2 (nz (renN ps g zs).2 ys) → Q (.ref a') H'
section
variable {P : Program} {w : World} {K : PySem.W.Frag} {mg : Str → Option Value} {base : Heap} {C BR CB BB : Addr}
theorem scRn : FnScope ["self", "names", "numbers", "thing", "number", "name"] ["self", "names"] (defScope (balM 7)) := ⟨rfl, rfl, rfl, by decide +kernel, rfl, by decide +kernel, by decide +kernel⟩
theorem ok_renamed {f fN : Addr} {fd fdN : FuncData} (F : MtP K "renamed" "Balance.renamed" (balM 7) f fd) (O : OpsK P w K mg base CB C BR) (M : ErrN P w K mg base "BadBalance" BB ["part"])
    (GN : FnOk P w K mg base CX0 4 fN fdN ["value"] spIsNm) (bN : Binds K fdN ["value"] []) (kN : PySem.W.keepIn K (.ref fN) = true) (gN : mg "is_naming" = some (.ref fN)) :
    FnOk P w K mg base (L2.CX P w) 10 f fd ["self", "names"] (spRen CB C) := by
  obtain ⟨fA, fdA, OA, GA, bA⟩ := O.add
  have B := O.B
  refine F.ok scRn (fun vs H Q E h => ?_) (fun cdv A outer s H vs Q E hr h => ?_)
  · obtain ⟨a, d, g, zs, kn, ps, rfl, _⟩ := h
    rfl
  · obtain ⟨a, d, g, zs, kn, ps, rfl, hb, ok, lo, l4, hdn, hps, n1, n2, k⟩ := h
    have hr9 : Room 9 _ := hr
    have hu1 : (A.deeper (envOfC (Str.ofString "Balance.renamed") (defScope (balM 7)) s.heap.objs.size f cdv)).units + 1 < cLine := by have := hr9.units; omega
    refine ⟨_, (pss_cons (ps_if (pt_not (pt_val (pe_call GN (hr9.mono (by decide)) rfl gN kN bN .nil pass0 (pa_cons (pv 1) pa_nil)))) (pss_one (ps_raiseN rfl M (hr9.mono (by decide)) (takes_of rfl rfl rfl rfl) (by rfl) (pa_cons pe_str pa_nil))) pss_nil)
      (pss_cons (ps_set (i := 2) scRn.nd rfl (.inl rfl) pe_dnewK)
      (pss_cons (ps_lock (ps_for (passes_of rfl) rfl (pi_items (pe_fld (pv 0) rfl)) (pg_tup rfl (pgs_cons (pg_name (i := 3) scRn.nd rfl (Or.inl rfl)) (pgs_cons (pg_name (i := 4) scRn.nd rfl (Or.inl rfl)) pgs_nil)))
        (pss_cons (ps_set (i := 5) scRn.nd rfl (.inl rfl) (pe_dget2 hu1 (pv 1) (pv 3) (pv 3) ⟨rfl, rfl, rfl, rfl⟩))
        (pss_one (ps_dput hu1 (pv 2) (pv 5) (pe_op (op_rat (op := .Add) O.sf O.odd OA GA bA (by exact hr9.mono (by decide)) (E := E0) passL) (pv 4) (pe_dget2 hu1 (pv 2) (pv 5) pe_int ⟨rfl, rfl, rfl, rfl⟩)) (by rfl))))))
      (pss_one (ps_ret (pe_bal B (by exact hr9) (E := E0) passL rfl (pa_cons (pv 2) pa_nil))))))), ?_⟩
    obtain ⟨dx, nd, tp, kt, ha, ⟨kvs, hd, hR⟩, ht, hk⟩ := hb
    have nN := B.T.no "_numbers" (by simp)
    have lk := Paired.length hR
    refine ⟨_, rfl, d, kn, ps, rfl, hdn, hps, n1, n2, fun H1 s1 => ⟨true, rfl, iteF ?_⟩⟩
    dsimp only [tNext, tSeq, tAsg]
    intro D nD
    dsimp only [gName]
    have hd1 := s1 _ _ hd
    have ha1 := s1 _ _ ha
    have s2 := same_upd (o := .dK []) nD
    have nda : a ≠ nd := fun e => by rw [e, hd] at ha; cases ha
    have nDn : D ≠ nd := fun e => by rw [e, hd1] at nD; cases nD
    refine ⟨nd, .dK kvs, s2 _ _ hd1, True.intro, fun od => ?_⟩
    refine ⟨_, rfl, a, CB, dx, _, _, rfl, (upd_ne nda).trans (s2 _ _ ha1), B.T.cls, nN, rfl, nd, od, kvs, rfl, upd_same, ?_⟩
    -- the heap without the new dict
    have hRB : RatD (upd H1 nd (.frz od (.dK kvs))) C g kvs zs := (hR.same s1).upd_d hd1
    have hdB : (upd H1 nd (.frz od (.dK kvs))) nd = some (.frz od (.dK kvs)) := upd_same
    have nDB : (upd H1 nd (.frz od (.dK kvs))) D = none := (upd_ne nDn).trans nD
    have rdB : Rd (upd H1 nd (.frz od (.dK kvs))) d (.dK kn) := by
      by_cases e : d = nd
      · subst e
        rw [hd] at hdn
        cases hdn
        exact .inr ⟨od, upd_same⟩
      · exact .inl ((upd_ne e).trans (s1 _ _ hdn))
    have s0 : Same (upd H1 nd (.frz od (.dK kvs))) (upd (upd H1 D (.dK [])) nd (.frz od (.dK kvs))) := fun c o e => by
      by_cases ec : c = nd
      · subst ec
        rw [upd_same] at e ⊢
        exact e
      · rw [upd_ne ec] at e ⊢
        exact s2 _ _ e
    have hD0 : (upd (upd H1 D (.dK [])) nd (.frz od (.dK kvs))) D = some (.dK []) := (upd_ne nDn).trans upd_same
    have ul : ∀ Hx, Same (upd H1 nd (.frz od (.dK kvs))) Hx → Same H (upd Hx nd (.dK kvs)) := fun Hx s => s1.trans (unlock_same hd1 s)
    generalize upd (upd H1 D (.dK [])) nd (.frz od (.dK kvs)) = H3 at s0 hD0 ⊢
    generalize upd H1 nd (.frz od (.dK kvs)) = HB at hRB hdB nDB rdB s0 ul ⊢
    have ri : ∀ i, i ≤ zs.length → RenI (renN ps g (zs.take i)) i := by
      intro i
      induction i with
      | zero => exact fun _ => ⟨List.nodup_nil, Nat.le_refl _, fun n m => (by cases m), fun n m => (by cases m)⟩
      | succ i ih =>
        intro hi
        have en : zs[i]? = some zs[i] := List.getElem?_eq_getElem (by omega)
        have mn := List.mem_of_getElem? en
        rw [renN_take en]
        exact (ih (by omega)).step (lo.sz _ mn) (lo.lo _ mn).1 (nmOf_ok n2 (ok.ns.nm _ mn))
    refine for_it walk_items (fun i σ Hx => (∃ o3 o4 o5, σ = [some (.ref a), some (.ref d), some (.ref D), o3, o4, o5]) ∧ Same HB Hx ∧ ∃ kv, Hx D = some (.dK kv) ∧ RatD Hx C (renN ps g (zs.take i)).2 kv (renN ps g (zs.take i)).1) ⟨⟨none, none, none, rfl⟩, s0, [], hD0, .nil⟩ (fun i σ Hx _ hP => hP.2.1 _ _ hdB) ?_ ?_
    · rintro i x σ Hx Hx' hi ⟨⟨o3, o4, o5, rfl⟩, s3, kv, hDx, hRx⟩ hy
      obtain ⟨TT, n, b, en, rfl, s4, hT, hb⟩ := items_turn hRB s3 hy
      have li : i < zs.length := (List.getElem?_eq_some_iff.mp en).1
      have mn := List.mem_of_getElem? en
      have I := ri i (by omega)
      have s34 := s3.trans s4
      have hD4 := s4 _ _ hDx
      have hR4 := hRx.same s4
      have rd4 : Rd Hx' d (.dK kn) := rdB.imp (fun e => s34 _ _ e) fun ⟨o, e⟩ => ⟨o, s34 _ _ e⟩
      have g2 := lo.lo n mn
      have gz := lo.sz n mn
      refine ⟨TT, _, rfl, SqT.of hT, rfl, _, _, rfl, _, _, rfl, rfl, ?_⟩
      refine ⟨_, rfl, d, rfl, .inl ⟨kn, rd4⟩, _, rfl, _, rfl, _, .inl ⟨kn, .inr n, rd4, rfl, rfl⟩, ?_⟩
      rw [nmOf_get hps]
      generalize hS : renN ps g (zs.take i) = S at I hR4 hRx
      have on : NumAt Hx' C ((valV kv (.inr (nmOf ps n))).getD (.int 0)) (if nmOf ps n ∈ S.1 then S.2 (nmOf ps n) else (0, 1) : Int × Int).1 (if nmOf ps n ∈ S.1 then S.2 (nmOf ps n) else (0, 1) : Int × Int).2 := by
        by_cases m : nmOf ps n ∈ S.1
        · obtain ⟨v, ev, hv⟩ := NumD.val hR4.num m
          rw [ev, if_pos m]
          exact hv
        · rw [NumD.noVal hR4.num m, if_neg m]
          exact .inr ⟨rfl, rfl, by decide⟩
      have oz : Sz (if nmOf ps n ∈ S.1 then S.2 (nmOf ps n) else (0, 1) : Int × Int).1 ∧ Sz (if nmOf ps n ∈ S.1 then S.2 (nmOf ps n) else (0, 1) : Int × Int).2 ∧ (if nmOf ps n ∈ S.1 then S.2 (nmOf ps n) else (0, 1) : Int × Int).2 ≠ 0 := by
        by_cases m : nmOf ps n ∈ S.1
        · rw [if_pos m]
          obtain ⟨z1, z2, z3⟩ := I.lo _ m
          exact ⟨sz_of z2 (by omega), sz_of z3 (by omega), by omega⟩
        · rw [if_neg m]
          exact ⟨by decide, by decide, by decide⟩
      refine ⟨_, rfl, _, rfl, D, rfl, .inl ⟨kv, .inl hD4⟩, _, rfl, _, DGet.k (k := .inr (nmOf ps n)) hD4, b, _, _, rfl, hb, sz_of gz.1 (by decide), sz_of gz.2 (by decide), by omega, .inl ⟨_, _, on, oz.1, oz.2.1, oz.2.2, fun r3 H6 s6 h6 => ?_⟩⟩
      have hD6 := s6 _ _ hD4
      have hR6 := hR4.same s6
      have pl := Paired.length hR6
      have Ile := I.le
      refine ⟨_, rfl, _, rfl, D, _, rfl, DPut.k (k := .inr (nmOf ps n)) hD6 (by rw [sizeLine_eq]; omega), ⟨_, _, _, rfl⟩, fun c ob e => ?_, _, upd_same, ?_⟩
      · rw [upd_ne (ne_of_none e nDB)]
        exact s6 _ _ (s34 _ _ e)
      · rw [renN_take en, hS]
        exact RatD.put (n := nmOf ps n) (g' := (renS ps g S n).2) (b := r3) (hR6.upd_d (o := .dK (putK kv (.inr (nmOf ps n)) (.ref r3))) hD6) (fun m ne => if_neg ne) (by
          show RatAt _ _ _ (if nmOf ps n = nmOf ps n then _ else _ : Int × Int).1 (if nmOf ps n = nmOf ps n then _ else _ : Int × Int).2
          rw [if_pos rfl]
          exact h6.upd_d hD6)
    · rintro σ Hx ⟨⟨o3, o4, o5, rfl⟩, s3, kv, hDx, hRx⟩
      rw [lk, List.take_length] at hRx
      have I := ri zs.length (Nat.le_refl _)
      rw [List.take_length] at I
      refine ⟨s3 _ _ hdB, _, rfl, .ref D, rfl, D, kv, (renN ps g zs).1, (renN ps g zs).2, rfl, (upd_ne nDn).trans hDx, (hRx.upd_any fun dx fs z => by rw [s3 _ _ hdB] at z; cases z).num, ⟨I.nd, by have := I.le; omega, I.nm⟩, fun a' ys H' s n py sy hb => k a' ys H' ((ul _ s3).trans s) py sy hb⟩
end
end K05
namespace K05
open PySem PySem.Spec PyProof.Rows L2 RatM ClX
/-- the words of a thing and its number -/
def termT (n : Str) (x : Int × Int) : Str := if (decide (x.2 = 1) && decide (x.1 = 1)) = true then n else ((Str.empty ++ textR x.1 x.2) ++ " ") ++ n
def spTerm (C : Addr) : Sp := fun vs H Q _ => ∃ (n : Str) (r : Addr) (x : Int × Int), vs = [.str n, .ref r] ∧ RatAt H r C x.1 x.2 ∧ Sz x.1 ∧ Sz x.2 ∧ n.length ≤ 1000 ∧ (textR x.1 x.2).length ≤ 1000 ∧ Q (.str (termT n x)) H
section
variable {P : Program} {w : World} {K : PySem.W.Frag} {mg : Str → Option Value} {base : Heap} {C BR CB BB : Addr}
theorem scTe : FnScope ["thing", "number"] ["thing", "number"] (defScope (top 41)) := ⟨rfl, rfl, rfl, by decide +kernel, rfl, by decide +kernel, by decide +kernel⟩
theorem ok_term {f fE fS : Addr} {fd fdE fdS : FuncData} (F : FnP K "_term" (top 41) f fd) (ME : OwnM K C "__eq__" fE) (GE : FnOk P w K mg base CX0 3 fE fdE ["self", "other"] (spSame K C)) (bE : Binds K fdE ["self", "other"] []) (nf : PySem.W.notFirst K C (.type "int") = true)
    (MS : OwnM K C "__str__" fS) (GS : FnOk P w K mg base CX0 2 fS fdS ["self"] (spText K C)) (bS : Binds K fdS ["self"] []) (hfm : PySem.W.findIn K (.ref C) "__format__" = some (some (.builtin "object.__format__"))) (hm : PySem.W.mroIn K C (.type "object") = some true) :
    FnOk P w K mg base CX0 4 f fd ["thing", "number"] (spTerm C) := by
  refine F.ok scTe (fun vs H Q E h => ?_) (fun cdv A outer s H vs Q E hr h => ?_)
  · obtain ⟨n, r, x, rfl, _⟩ := h
    rfl
  · obtain ⟨n, r, x, rfl, hb, z1, z2, ln, lt, k⟩ := h
    have hr3 : Room 3 _ := hr
    refine ⟨_, PSs.nox (pss_one (ps_ret (pe_ifExp (pt_cmpR (op_eqOwn ME GE hr3 bE (E := E0) pass0) (pv 1) pe_int (nomark _)) (pv 0) (pe_joined (PJ.cons (pe_fmtO MS hfm hm GS hr3 bS (E := E0) pass0 (pv 1)) (PJ.cons pe_str (PJ.cons (pe_fmt (pv 0)) PJ.nil))))))), ?_⟩
    refine ⟨_, rfl, r, .type "int", rfl, hb.ins, ty_plain (plainT_int _), nf, r, _, _, _, rfl, hb, .inr (.inl ⟨1, rfl, _, rfl, (decide (x.2 = 1) && decide (x.1 = 1)), rfl, ite2 (fun c => ?_) (fun c => ?_)⟩)⟩
    · refine ⟨_, rfl, ?_⟩
      unfold termT at k
      rw [if_pos c] at k
      exact k
    · unfold termT at k
      rw [if_neg c] at k
      have l1 : (Str.empty ++ textR x.1 x.2).length ≤ 1000 := by rw [strLen_append]; exact (by show 0 + _ ≤ 1000; omega)
      have l2 : ((Str.empty ++ textR x.1 x.2) ++ " ").length ≤ 1001 := by rw [strLen_append]; exact Nat.add_le_add l1 (Nat.le_refl 1)
      have l3 : (((Str.empty ++ textR x.1 x.2) ++ " ") ++ n).length ≤ 2001 := by rw [strLen_append]; omega
      refine ⟨_, rfl, r, rfl, hb.ins, r, _, _, rfl, hb, z1, z2, textR x.1 x.2, rfl, _, rfl, by rw [sizeLine_eq]; omega, _, rfl, by rw [sizeLine_eq]; omega, ?_⟩
      exact ⟨_, rfl, .inl ⟨n, rfl, by rw [sizeLine_eq]; omega, n, rfl, by rw [sizeLine_eq]; omega, k⟩⟩
end
end K05
namespace K05
open PySem PySem.Spec PyProof.Rows L2 RatM ClX
/-- a balance's text -/
def balT (g : Str → Int × Int) (zs : List Str) : Str := if zs.length = 0 then "0" else Txt.join " + " (zs.map fun n => termT n (g n))
def spBalT (CB C : Addr) : Sp := fun vs H Q _ => ∃ (a : Addr) (g : Str → Int × Int) (zs : List Str), vs = [.ref a] ∧ BalAt H a CB C g zs ∧ NsOk zs ∧ BalLo 1900 g zs ∧ (∀ n ∈ zs, n.length ≤ 1000 ∧ (textR (g n).1 (g n).2).length ≤ 1000) ∧ ∀ H', Same H H' → Q (.str (balT g zs)) H'
theorem termT_len {n : Str} {x : Int × Int} (h1 : n.length ≤ 1000) (h2 : (textR x.1 x.2).length ≤ 1000) : (termT n x).length ≤ 2001 := by
  unfold termT
  by_cases c : (decide (x.2 = 1) && decide (x.1 = 1)) = true
  · rw [if_pos c]; omega
  · rw [if_neg c]
    have l1 : (Str.empty ++ textR x.1 x.2).length ≤ 1000 := by rw [strLen_append]; exact (by show 0 + _ ≤ 1000; omega)
    have l2 : ((Str.empty ++ textR x.1 x.2) ++ " ").length ≤ 1001 := by rw [strLen_append]; exact Nat.add_le_add l1 (Nat.le_refl 1)
    rw [strLen_append]; omega
theorem sum_le {f : Str → Nat} {B : Nat} : ∀ l : List Str, (∀ x ∈ l, f x ≤ B) → (l.map f).sum ≤ l.length * B
  | [], _ => by simp
  | x :: t, h => by
    have h1 := sum_le t fun y m => h y (List.mem_cons_of_mem _ m)
    have h2 := h x List.mem_cons_self
    rw [List.map_cons, List.sum_cons, List.length_cons, Nat.add_mul, Nat.one_mul]
    omega
section
variable {P : Program} {w : World} {K : PySem.W.Frag} {mg : Str → Option Value} {base : Heap} {C BR CB BB : Addr}
theorem scWb : FnScope ["balance", "thing"] ["balance"] (defScope (top 39)) := ⟨rfl, rfl, rfl, by decide +kernel, rfl, by decide +kernel, by decide +kernel⟩
theorem ok_writtenB {f fT : Addr} {fd fdT : FuncData} (F : FnP K "_written" (top 39) f fd) (O : OpsK P w K mg base CB C BR)
    (GT : FnOk P w K mg base CX0 4 fT fdT ["thing", "number"] (spTerm C)) (bT : Binds K fdT ["thing", "number"] []) (kT : PySem.W.keepIn K (.ref fT) = true) (gT : mg "_term" = some (.ref fT)) :
    FnOk P w K mg base CX0 6 f fd ["balance"] (spBalT CB C) := by
  obtain ⟨fN, fdN, MN, GN, bN⟩ := O.num
  have B := O.B
  refine F.ok scWb (fun vs H Q E h => ?_) (fun cdv A outer s H vs Q E hr h => ?_)
  · obtain ⟨a, g, zs, rfl, _⟩ := h
    rfl
  · obtain ⟨a, g, zs, rfl, hb, ok, lo, tx, k⟩ := h
    have hr5 : Room 5 _ := hr
    refine ⟨_, PSs.nox (pss_cons (ps_if (pt_val (pe_fld (pv 0) rfl)) (pss_one (ps_ret pe_str)) pss_nil)
      (pss_one (ps_ret (pe_join pe_str (pe_lc (own := [("thing", 1)]) (g := gName 1) (tt := tYes) (te := tCall (spTerm C) [] E0 (tCons (tVar 1) (tCons (tMeth CB "number_of" (spNum CB C) [] E0 (tVar 0) (tCons (tVar 1) tNil)) tNil))) rfl scWb.nd (pi_tup (pe_fld (pv 0) rfl)) (blkOk_by (N := ["balance", "thing"]) (sc := defScope (top 39)) (by decide +kernel)) (fun _ _ _ _ _ => pg_name (i := 1) scWb.nd rfl (Or.inl rfl)) (fun _ _ _ _ _ => pts_nil)
        (fun _ _ _ _ _ => pe_call GT (by exact hr5.mono (by decide)) rfl gT kT bT .nil pass0 (pa_cons (pv 1) (pa_cons (pe_meth (pv 0) B.T.cls MN GN (by exact hr5) bN .nil (E := E0) pass0 (pa_cons (pv 1) pa_nil)) pa_nil)))))))), ?_⟩
    have nI := B.T.no "is_nothing" (by simp)
    have nT := B.T.no "things" (by simp)
    obtain ⟨dx, nd, tp, kt, ha, ⟨kvs, hd, hR⟩, ht, hk⟩ := id hb
    refine ⟨_, rfl, a, CB, dx, _, _, rfl, ha, B.T.cls, nI, rfl, decide (zs.length = 0), congrArg V.bl (decide_eq_decide.mpr ⟨fun z => by injection z with z; omega, fun z => by rw [z]; rfl⟩), ite2 (fun c => ?_) (fun c => ?_)⟩
    · unfold balT at k
      rw [if_pos (of_decide_eq_true c)] at k
      exact k H (Same.refl _)
    · have z0 : ¬ zs.length = 0 := fun z => c (decide_eq_true z)
      unfold balT at k
      rw [if_neg z0] at k
      dsimp only [tNext]
      refine ⟨⟨_, rfl⟩, _, rfl, a, CB, dx, _, _, rfl, ha, B.T.cls, nT, rfl, tp, rfl, ⟨_, SqT.of ht⟩, fun D nD => ?_⟩
      refine lc_it (walk_tup (xs := zs.map V.str)) (fun i Hx => Same H Hx ∧ Hx D = some (.lst (((zs.take i).map fun n => termT n (g n)).map V.str))) ⟨same_upd nD, upd_same⟩ (fun i Hx _ hP => SqT.of (hP.1 _ _ ht)) (fun i x Hx Hx' hi hP hy => ?_) (fun Hx hP => ?_)
      · obtain ⟨rfl, ex⟩ := hy
        obtain ⟨s2, hD⟩ := hP
        rw [List.getElem?_map] at ex
        obtain ⟨n, en, rfl⟩ := Option.map_eq_some_iff.mp ex
        have mn := List.mem_of_getElem? en
        refine ⟨rfl, yesI ?_⟩
        refine ⟨_, rfl, _, rfl, a, dx, _, rfl, s2 _ _ ha, rfl, _, rfl, a, n, g, zs, rfl, hb.same s2, (ok.nm n mn).1, (ok.nm n mn).2, fun b' H4 s4 h4 => ?_⟩
        rw [show num g zs n = g n from if_pos mn] at h4
        refine ⟨n, b', g n, rfl, h4, (lo.sz n mn).1, (lo.sz n mn).2, (tx n mn).1, (tx n mn).2, _, s4 _ _ hD, ?_, fun c o e => ?_, ?_⟩
        · have f2 := List.length_take (i := i) (l := zs)
          have f3 := ok.le
          simp only [List.length_map]
          rw [sizeLine_eq]; omega
        · rw [upd_ne (ne_of_none e nD)]; exact s4 _ _ (s2 _ _ e)
        · rw [upd_same, List.take_add_one, en]
          simp
      · obtain ⟨s2, hD⟩ := hP
        rw [List.length_map, List.take_length] at hD
        refine ⟨" + ", D, zs.map fun n => termT n (g n), rfl, rfl, .inl (SqL.of hD), ?_, k Hx s2⟩
        have sl := sum_le (f := fun n => (termT n (g n)).length) (B := 2001) zs fun n m => termT_len (tx n m).1 (tx n m).2
        have zl := ok.le
        rw [List.map_map, List.length_map]
        have e3 : (" + " : Str).length = 3 := rfl
        rw [e3]
        have : (zs.map ((fun x : Str => x.length) ∘ fun n => termT n (g n))).sum ≤ zs.length * 2001 := sl
        have m1 : zs.length * 2001 ≤ 60 * 2001 := Nat.mul_le_mul_right _ zl
        omega
end
end K05
namespace K05
open PySem PySem.Spec PyProof.Rows L2 RatM ClX
section
variable {P : Program} {w : World} {K : PySem.W.Frag} {mg : Str → Option Value} {base : Heap} {C BR CB BB : Addr}
theorem scStB : FnScope ["self"] ["self"] (defScope (balM 13)) := ⟨rfl, rfl, rfl, by decide +kernel, rfl, by decide +kernel, by decide +kernel⟩
theorem ok_strB {f fW : Addr} {fd fdW : FuncData} (F : MtP K "__str__" "Balance.__str__" (balM 13) f fd) (GW : FnOk P w K mg base CX0 6 fW fdW ["balance"] (spBalT CB C)) (bW : Binds K fdW ["balance"] []) (kW : PySem.W.keepIn K (.ref fW) = true) (gW : mg "written_balances" = some (.ref fW)) (bs : mg "str" = none) : FnOk P w K mg base CX0 7 f fd ["self"] (spBalT CB C) := by
  refine F.ok scStB (fun vs H Q E h => ?_) (fun cdv A outer s H vs Q E hr h => ?_)
  · obtain ⟨a, g, zs, rfl, _⟩ := h
    rfl
  · obtain ⟨a, g, zs, rfl, hb, ok, lo, tx, k⟩ := h
    have hr6 : Room 6 _ := hr
    exact ⟨_, PSs.nox (pss_one (ps_ret (pe_callTy SkE.call_str_str (by rfl) bs PyProof.Rows.boot_str (pa_cons (pe_call GW hr6 rfl gW kW bW .nil pass0 (pa_cons (pv 0) pa_nil)) pa_nil)))), _, rfl, a, g, zs, rfl, hb, ok, lo, tx, fun H' s => ⟨_, rfl, k H' s⟩⟩
end
end K05
namespace K05
open PySem PySem.Spec PyProof.Rows L2
abbrev sTill : Stmt := top 44
abbrev sCoin : Stmt := top 45
abbrev sOf : Stmt := top 46
/-- all but t stands -/
def Keep (t : Addr) (H H' : Hp) : Prop := ∀ b o, b ≠ t → H b = some o → H' b = some o
/-- what draws: at t the list of the cells' list c, how many were begun, what is left of a great one -/
structure Till (H : Hp) (t c : Addr) (cells : List Int) (i g : Int) : Prop where
  ht : H t = some (.lst [.ref c, .int i, .int g])
  hc : H c = some (.lst (cells.map V.int))
  ne : c ≠ t
structure Blt (mg : Str → Option Value) : Prop where
  int : mg "int" = none
  len : mg "len" = none
  abs : mg "abs" = none
theorem dp_ints {K : PySem.W.Frag} {H : Hp} : ∀ l : List Int, DpAll K H (l.map V.int) (l.map PyData.int)
  | [] => .nil
  | x :: l => .cons (.int x) (dp_ints l)
theorem can_ints : ∀ l : List Int, PyData.canLayAll0 (l.map PyData.int) = true
  | [] => rfl
  | x :: l => by
    have ih := can_ints l
    simp [PyData.canLayAll0, PyData.canLay0, ih]
theorem deep_ints : ∀ l : List Int, PyData.depthAll (l.map PyData.int) = 0
  | [] => rfl
  | x :: l => by
    have ih := deep_ints l
    simp [PyData.depthAll, PyData.depth, ih]
theorem shaped_ints (l : List Int) : SeqAt.shaped (.list (l.map PyData.int)) = true := by
  have h1 := can_ints l
  have h2 := deep_ints l
  simp [SeqAt.shaped, PyData.canLay0, PyData.depth, h1, h2]
theorem eqv_nil (l : List Int) : PyData.eqv (.list (l.map PyData.int)) (.list []) = l.isEmpty := by
  cases l <;> simp [PyData.eqv, PyData.eqvAll]
theorem mix1 {c i : Int} (h0 : 0 ≤ i) (h1 : i ≤ 1000000) : (c % 2147483477 + 53017 * i + 2111).natAbs < 2 ^ 64 := by
  have a := Int.emod_nonneg c (show (2147483477 : Int) ≠ 0 by decide)
  have b := Int.emod_lt_of_pos c (show (0 : Int) < 2147483477 by decide)
  omega
theorem mix2 {m i : Int} (h0 : 0 ≤ i) (h1 : i ≤ 1000000) (m0 : 0 ≤ m) (m1 : m < 2147483647) : (m * (2 * i + 1307) + 42013 * i * i + 53023).natAbs < 2 ^ 64 := by
  have a0 : 0 ≤ m * (2 * i + 1307) := Int.mul_nonneg m0 (by omega)
  have a1 : m * (2 * i + 1307) ≤ 2147483647 * 2001307 := Int.mul_le_mul (by omega) (by omega) (by omega) (by omega)
  have b0 : 0 ≤ 42013 * i * i := Int.mul_nonneg (by omega) h0
  have b1 : 42013 * i * i ≤ 61657000000 * 1000000 := Int.mul_le_mul (by omega) h1 h0 (by omega)
  omega
theorem modOk {x many : Int} (h : 0 < many) : 0 ≤ x.fmod many ∧ x.fmod many < many := by
  have e : x.fmod many = x % many := Int.fmod_eq_emod_of_nonneg x (by omega)
  rw [e]
  exact ⟨Int.emod_nonneg _ (by omega), Int.emod_lt_of_pos _ h⟩
theorem greatOk {a b : Int} (h : decide ((10 : Int) ^ (18 : Int).toNat ≤ a) = true) (hb : 0 ≤ b) : 0 ≤ 2 * (a - (10 : Int) ^ (18 : Int).toNat) + b := by
  have h2 := of_decide_eq_true h
  omega
theorem bitOk (c : Bool) : (0 : Int) ≤ if c = true then 1 else 0 := by cases c <;> decide
theorem emodB (x : Int) : -(2 ^ 64) < x % 2147483647 ∧ x % 2147483647 < 2 ^ 64 := by
  have a := Int.emod_nonneg x (show (2147483647 : Int) ≠ 0 by decide)
  have b := Int.emod_lt_of_pos x (show (0 : Int) < 2147483647 by decide)
  omega
theorem mix2E {x i : Int} (h0 : 0 ≤ i) (h1 : i ≤ 1000000) : ((x % 2147483647) * (2 * i + 1307) + 42013 * i * i + 53023).natAbs < 2 ^ 64 :=
  mix2 h0 h1 (Int.emod_nonneg x (by decide)) (Int.emod_lt_of_pos x (by decide))
theorem atB {i : Int} (h0 : 0 ≤ i) (h1 : i ≤ 1000000) : -(2 ^ 64) < 42013 * i ∧ 42013 * i < 2 ^ 64 := by omega
def spCoin : Sp := fun vs H Q _ => ∃ (t c : Addr) (cells : List Int) (i g many : Int), vs = [.ref t, .int many] ∧ Till H t c cells i g ∧ 0 ≤ i ∧ i ≤ 1000000 ∧ 0 ≤ g ∧ 0 < many ∧ many.natAbs < 2 ^ 8000 ∧
  ∀ (r i' g' : Int) (H' : Hp), 0 ≤ r → r < many → 0 ≤ i' → i' ≤ i + 1 → 0 ≤ g' → Keep t H H' → Till H' t c cells i' g' → Q (.int r) H'
section
variable {P : Program} {w : World} {K : PySem.W.Frag} {mg : Str → Option Value} {base : Heap}
theorem scC : FnScope ["_law_reel_here", "_law_many", "_law_rest", "_law_at", "_law_cell", "_law_mixed"] ["_law_reel_here", "_law_many"] (defScope sCoin) := ⟨rfl, rfl, rfl, by decide +kernel, rfl, by decide +kernel, by decide +kernel⟩
theorem ok_coin {f : Addr} {fd : FuncData} (F : FnP K "_law_turn" sCoin f fd) (T : Blt mg) : FnOk P w K mg base CX0 1 f fd ["_law_reel_here", "_law_many"] spCoin := by
  refine F.ok scC (fun vs H Q E h => ?_) (fun cdv A outer s H vs Q E hr h => ?_)
  · obtain ⟨t, c, cells, i, g, many, rfl, _⟩ := h
    rfl
  · obtain ⟨t, c, cells, i, g, many, rfl, hT, hi0, hi1, hg, hm0, hm1, k⟩ := h
    have hu := hu_of hr
    refine ⟨_, PSs.nox (pss_cons (ps_if (pt_cmpR op_gt (pe_ix ix_list (pv 0) pe_int (fun _ _ => rfl)) pe_int (nomark _)) (pss_cons (ps_set (i := 2) scC.nd rfl (.inl rfl) (pe_ix ix_list (pv 0) pe_int (fun _ _ => rfl)))
        (pss_cons (ps_asg (pe_op op_fdivW (pe_callTy call_int1 (by rfl) T.int PyProof.Rows.boot_int (pa_cons (pv 2) pa_nil)) (pv 1)) (pg_sub (pv 0) pe_int set_list))
        (pss_one (ps_ret (pe_op op_modN (pe_callTy call_int1 (by rfl) T.int PyProof.Rows.boot_int (pa_cons (pv 2) pa_nil)) (pv 1)))))) pss_nil)
        (pss_cons (ps_set (i := 3) scC.nd rfl (.inl rfl) (pe_ix ix_list (pv 0) pe_int (fun _ _ => rfl)))
        (pss_cons (ps_asg (pe_op op_add (pv 3) pe_int) (pg_sub (pv 0) pe_int set_list))
        (pss_cons (ps_set (i := 4) scC.nd rfl (.inl rfl) (pe_op op_add (pe_op op_mul pe_int (pv 3)) pe_int))
        (pss_cons (ps_if (pt_cmpR (op_neD hr.units) (pe_ix ix_list (pv 0) pe_int (fun _ _ => rfl)) (pe_lst pa_nil) (nomark _)) (pss_one (ps_set (i := 4) scC.nd rfl (.inl rfl) (pe_ix ix_list (pe_ix ix_list (pv 0) pe_int (fun _ _ => rfl)) (pe_op op_modN (pe_callTy call_int1 (by rfl) T.int PyProof.Rows.boot_int (pa_cons (pv 3) pa_nil)) (pe_callB call_len_seq (by rfl) T.len PySem.boot_len (pa_cons (pe_ix ix_list (pv 0) pe_int (fun _ _ => rfl)) pa_nil))) (fun _ _ => rfl)))) pss_nil)
        (pss_cons (ps_if (PW.pt (pw_and (pt_cmpR op_lt (pv 3) (pe_callB call_len_seq (by rfl) T.len PySem.boot_len (pa_cons (pe_ix ix_list (pv 0) pe_int (fun _ _ => rfl)) pa_nil)) (nomark _)) (pw_and1 (pt_cmpR op_ge (pe_callB call_abs (by rfl) T.abs (by decide +kernel) (pa_cons (pv 4) pa_nil)) (pe_op op_pow pe_int pe_int) (nomark _))))) (pss_cons (ps_set (i := 2) scC.nd rfl (.inl rfl) (pe_op op_add (pe_op op_mul pe_int (pe_op op_sub (pe_callB call_abs (by rfl) T.abs (by decide +kernel) (pa_cons (pv 4) pa_nil)) (pe_op op_pow pe_int pe_int))) (pe_callTy call_int1 (by rfl) T.int PyProof.Rows.boot_int (pa_cons (pe_cmpR op_lt (pv 4) pe_int (nomark _)) pa_nil))))
        (pss_cons (ps_asg (pe_op op_fdivW (pe_callTy call_int1 (by rfl) T.int PyProof.Rows.boot_int (pa_cons (pv 2) pa_nil)) (pv 1)) (pg_sub (pv 0) pe_int set_list))
        (pss_one (ps_ret (pe_op op_modN (pe_callTy call_int1 (by rfl) T.int PyProof.Rows.boot_int (pa_cons (pv 2) pa_nil)) (pv 1)))))) pss_nil)
        (pss_cons (ps_set (i := 5) scC.nd rfl (.inl rfl) (pe_op op_mod (pe_callTy call_int1 (by rfl) T.int PyProof.Rows.boot_int (pa_cons (pe_op op_pow (pe_op op_add (pe_op op_add (pe_op op_mod (pe_callTy call_int1 (by rfl) T.int PyProof.Rows.boot_int (pa_cons (pv 4) pa_nil)) pe_int) (pe_op op_mul pe_int (pv 3))) pe_int) pe_int) pa_nil)) pe_int))
        (pss_cons (ps_set (i := 5) scC.nd rfl (.inl rfl) (pe_op op_mod (pe_callTy call_int1 (by rfl) T.int PyProof.Rows.boot_int (pa_cons (pe_op op_pow (pe_op op_add (pe_op op_add (pe_op op_mul (pv 5) (pe_op op_add (pe_op op_mul pe_int (pv 3)) pe_int)) (pe_op op_mul (pe_op op_mul pe_int (pv 3)) (pv 3))) pe_int) pe_int) pa_nil)) pe_int))
        (pss_one (ps_ret (pe_op op_modN (pe_callTy call_int1 (by rfl) T.int PyProof.Rows.boot_int (pa_cons (pe_op op_fdiv (pv 5) pe_int) pa_nil)) (pv 1)))))))))))), ?_⟩
    have two : atI [V.ref c, V.int i, V.int g] 2 = some (.int g) := by rfl
    have mm : CDivW g many := wide_div hm0 hm1 (by decide) (by decide)
    refine ⟨_, rfl, _, _, _, _, rfl, rfl, SqL.of hT.ht, rfl, _, _, rfl, rfl, _, rfl, ?_⟩
    refine ite2 (fun hc => ?_) (fun hc => ?_)
    · refine ⟨_, rfl, _, _, _, _, rfl, rfl, SqL.of hT.ht, rfl, ?_⟩
      refine ⟨_, rfl, .inl ⟨_, rfl, _, rfl, _, _, rfl, rfl, mm, _, rfl, _, _, _, _, rfl, rfl, hT.ht, rfl, ?_⟩⟩
      refine ⟨_, rfl, .inl ⟨_, rfl, _, rfl, _, _, rfl, rfl, by omega, ?_⟩⟩
      have e1 : g.fmod many = g % many := Int.fmod_eq_emod_of_nonneg g (by omega)
      refine k _ _ _ _ ?_ ?_ hi0 (by omega) ?_ (fun b o hb e => by rw [upd_ne hb]; exact e) ⟨upd_same, by rw [upd_ne hT.ne]; exact hT.hc, hT.ne⟩
      · rw [e1]; exact Int.emod_nonneg _ (by omega)
      · rw [e1]; exact Int.emod_lt_of_pos _ hm0
      · exact Int.ediv_nonneg hg (by omega)
    · refine ⟨_, rfl, _, _, _, _, rfl, rfl, SqL.of hT.ht, rfl, ?_⟩
      refine ⟨_, rfl, _, _, rfl, rfl, _, rfl, _, _, _, _, rfl, rfl, hT.ht, rfl, ?_⟩
      refine ⟨_, rfl, _, _, rfl, rfl, .inl ⟨by decide, by decide⟩, _, _, rfl, rfl, ?_⟩
      refine ⟨_, rfl, _, _, _, _, rfl, rfl, SqL.of upd_same, rfl, Nat.zero_le _, fun p hp => ?_⟩
      have npt : p ≠ t := fun z => by rw [z, upd_same] at hp; cases hp
      have hp0 : H p = none := by rw [upd_ne npt] at hp; exact hp
      have npc : c ≠ p := ne_of_none hT.hc hp0
      refine ⟨_, _, Dp.lst (SqL.of (by rw [upd_ne npc, upd_ne hT.ne]; exact hT.hc)) (dp_ints cells), Dp.lst (SqL.of upd_same) .nil, shaped_ints cells, by decide, _, rfl, ?_⟩
      have h2t : upd (upd H t (.lst ([V.ref c, V.int i, V.int g].set (Int.toNat 1) (.int (i + 1))))) p (.lst []) t = some (.lst [.ref c, .int (i + 1), .int g]) := by rw [upd_ne npt.symm, upd_same]; rfl
      have h2c : upd (upd H t (.lst ([V.ref c, V.int i, V.int g].set (Int.toNat 1) (.int (i + 1))))) p (.lst []) c = some (.lst (cells.map V.int)) := by rw [upd_ne npc, upd_ne hT.ne]; exact hT.hc
      have h2k : Keep t H (upd (upd H t (.lst ([V.ref c, V.int i, V.int g].set (Int.toNat 1) (.int (i + 1))))) p (.lst [])) := fun b o hb e => by rw [upd_ne (ne_of_none e hp0), upd_ne hb]; exact e
      generalize upd (upd H t (.lst ([V.ref c, V.int i, V.int g].set (Int.toNat 1) (.int (i + 1))))) p (.lst []) = H2 at h2t h2c h2k ⊢
      rw [eqv_nil]
      refine ite2 (fun hn => ?one) (fun hn => ?two)
      case' one =>
        have hl : 0 < cells.length := by
          cases cells with
          | nil => exact absurd hn (by decide)
          | cons x l => exact Nat.zero_lt_succ _
        have e1 : i.fmod (cells.length : Int) = i % (cells.length : Int) := Int.fmod_eq_emod_of_nonneg i (by omega)
        have b0 := Int.emod_nonneg i (show (cells.length : Int) ≠ 0 by omega)
        have b1 := Int.emod_lt_of_pos i (show (0 : Int) < cells.length by omega)
        obtain ⟨n, hn1⟩ : ∃ n : Nat, i.fmod (cells.length : Int) = n := ⟨(i % (cells.length : Int)).toNat, by rw [e1]; omega⟩
        have hn2 : n < cells.length := by omega
        refine ⟨_, rfl, _, _, _, _, rfl, rfl, SqL.of h2t, rfl, _, rfl, .inl ⟨_, rfl, _, rfl, _, _, _, _, rfl, rfl, SqL.of h2t, rfl, _, _, rfl, .inl (SqL.of h2c), _, _, rfl, rfl, (by rw [List.length_map]; omega), ?_⟩⟩
        refine ⟨_, _, _, V.int cells[n], rfl, rfl, SqL.of h2c, (by rw [List.length_map, hn1]; exact atI_nat (by rw [List.getElem?_map, List.getElem?_eq_getElem hn2]; rfl)), ?_⟩
      all_goals
        refine ⟨_, rfl, _, rfl, _, _, _, _, rfl, rfl, SqL.of h2t, rfl, _, _, rfl, .inl (SqL.of h2c), _, _, rfl, rfl, _, rfl, ?_⟩
        refine ite2 (fun hA => ?_) (fun hA => ?_)
        · refine ⟨_, rfl, _, rfl, _, _, rfl, rfl, ⟨by decide, by decide, by decide⟩, _, _, rfl, rfl, _, rfl, ?_⟩
          refine ite2 (fun hB => ?_) (fun hB => ?_)
          · refine ⟨_, rfl, _, rfl, _, _, rfl, rfl, ⟨by decide, by decide, by decide⟩, _, _, rfl, rfl, _, _, rfl, rfl, .inl ⟨by decide, by decide⟩, _, rfl, _, _, rfl, rfl, .inr ⟨_, rfl, _, _, rfl, rfl, ?_⟩⟩
            refine ⟨_, rfl, .inl ⟨_, rfl, _, rfl, _, _, rfl, rfl, wide_div hm0 hm1 (by decide) (by decide), _, rfl, _, _, _, _, rfl, rfl, h2t, rfl, ?_⟩⟩
            refine ⟨_, rfl, .inl ⟨_, rfl, _, rfl, _, _, rfl, rfl, by omega, ?_⟩⟩
            refine k _ (i + 1) _ _ (modOk hm0).1 (modOk hm0).2 (by omega) (Int.le_refl _) (Int.ediv_nonneg (greatOk hB (bitOk _)) (by omega)) (fun b o hb e => by rw [upd_ne hb]; exact h2k b o hb e) ⟨upd_same, by rw [upd_ne hT.ne]; exact h2c, hT.ne⟩
          · refine ⟨_, rfl, .inl ⟨_, rfl, _, _, rfl, rfl, (by show (0 : Int) < 2147483477; decide), _, rfl, _, _, rfl, rfl, .inl ⟨by decide, by decide⟩, _, _, rfl, rfl, _, _, rfl, rfl, _, _, rfl, rfl, ⟨by decide, by decide, mix1 hi0 hi1⟩, .inl ⟨_, rfl, _, _, rfl, rfl, (by show (0 : Int) < 2147483647; decide), ?_⟩⟩⟩
            refine ⟨_, rfl, _, rfl, _, _, rfl, rfl, .inl ⟨by decide, by decide⟩, _, _, rfl, rfl, _, _, rfl, rfl, .inl (emodB _), _, rfl, _, _, rfl, rfl, .inl ⟨by decide, by decide⟩, _, rfl, _, _, rfl, rfl, .inl (atB hi0 hi1), _, _, rfl, rfl, _, _, rfl, rfl, _, _, rfl, rfl, ⟨by decide, by decide, mix2E hi0 hi1⟩, .inl ⟨_, rfl, _, _, rfl, rfl, (by show (0 : Int) < 2147483579; decide), ?_⟩⟩
            exact ⟨_, rfl, _, _, rfl, rfl, ⟨by decide, by decide⟩, .inl ⟨_, rfl, _, rfl, _, _, rfl, rfl, (by omega), k _ (i + 1) g H2 (modOk hm0).1 (modOk hm0).2 (by omega) (Int.le_refl _) hg h2k ⟨h2t, h2c, hT.ne⟩⟩⟩
        · refine ⟨_, rfl, .inl ⟨_, rfl, _, _, rfl, rfl, (by show (0 : Int) < 2147483477; decide), _, rfl, _, _, rfl, rfl, .inl ⟨by decide, by decide⟩, _, _, rfl, rfl, _, _, rfl, rfl, _, _, rfl, rfl, ⟨by decide, by decide, mix1 hi0 hi1⟩, .inl ⟨_, rfl, _, _, rfl, rfl, (by show (0 : Int) < 2147483647; decide), ?_⟩⟩⟩
          refine ⟨_, rfl, _, rfl, _, _, rfl, rfl, .inl ⟨by decide, by decide⟩, _, _, rfl, rfl, _, _, rfl, rfl, .inl (emodB _), _, rfl, _, _, rfl, rfl, .inl ⟨by decide, by decide⟩, _, rfl, _, _, rfl, rfl, .inl (atB hi0 hi1), _, _, rfl, rfl, _, _, rfl, rfl, _, _, rfl, rfl, ⟨by decide, by decide, mix2E hi0 hi1⟩, .inl ⟨_, rfl, _, _, rfl, rfl, (by show (0 : Int) < 2147483579; decide), ?_⟩⟩
          exact ⟨_, rfl, _, _, rfl, rfl, ⟨by decide, by decide⟩, .inl ⟨_, rfl, _, rfl, _, _, rfl, rfl, (by omega), k _ (i + 1) g H2 (modOk hm0).1 (modOk hm0).2 (by omega) (Int.le_refl _) hg h2k ⟨h2t, h2c, hT.ne⟩⟩⟩
end
def spTill (K : PySem.W.Frag) : Sp := fun vs H Q _ => ∃ (a : Addr) (ns : List Int), vs = [.ref a] ∧ SqL K H a (ns.map V.int) ∧ ns.length ≤ 63 ∧
  ∀ (t c : Addr) (H' : Hp), Same H H' → H t = none → Till H' t c (ns.take 60) 0 0 → Q (.ref t) H'
/-- one of some things that stand in a list -/
def spOf : Sp := fun vs H Q _ => ∃ (t c a : Addr) (cells : List Int) (i g : Int) (xs : List V), vs = [.ref t, .ref a] ∧ Till H t c cells i g ∧ 0 ≤ i ∧ i ≤ 1000000 ∧ 0 ≤ g ∧ a ≠ t ∧ H a = some (.lst xs) ∧ 0 < xs.length ∧ xs.length ≤ 10000 ∧
  ∀ (v : V) (i' g' : Int) (H' : Hp), v ∈ xs → 0 ≤ i' → i' ≤ i + 1 → 0 ≤ g' → Keep t H H' → Till H' t c cells i' g' → Q v H'
theorem cut60 (ns : List Int) : cutV (ns.map V.int) none (some 60) = (ns.take 60).map V.int := by
  unfold cutV
  rw [HT.sIx_none, show HT.sIx (ns.map V.int).length (ns.map V.int).length (some 60) = min 60 (ns.map V.int).length from HT.sIx_nat _ _ 60, List.drop_zero, List.map_take, Nat.sub_zero]
  rw [← List.take_take, List.take_length]
section
variable {P : Program} {w : World} {K : PySem.W.Frag} {mg : Str → Option Value} {base : Heap}
theorem scT : FnScope ["_law_script", "_law_cell"] ["_law_script"] (defScope sTill) := ⟨rfl, rfl, rfl, by decide +kernel, rfl, by decide +kernel, by decide +kernel⟩
theorem ok_till {f : Addr} {fd : FuncData} (F : FnP K "_law_reel" sTill f fd) (T : Blt mg) : FnOk P w K mg base CX0 1 f fd ["_law_script"] (spTill K) := by
  refine F.ok scT (fun vs H Q E h => ?_) (fun cdv A outer s H vs Q E hr h => ?_)
  · obtain ⟨a, ns, rfl, _⟩ := h
    rfl
  · obtain ⟨a, ns, rfl, hS, hl, k⟩ := h
    refine ⟨_, PSs.nox (pss_one (ps_ret (pe_lst (pa_cons
      (pe_lc (own := [("_law_cell", 1)]) (g := gName 1) (tt := tYes) rfl scT.nd (pi_list (pe_slice sl_list (pv 0) po_none (po_some pe_int))) (blkOk_by (N := ["_law_script", "_law_cell"]) (sc := defScope sTill) (by decide +kernel))
        (fun _ _ _ _ _ => pg_name (i := 1) scT.nd rfl (Or.inl rfl)) (fun _ _ _ _ _ => pts_nil) (fun _ _ _ _ _ => pe_callTy call_int1 (by rfl) T.int PyProof.Rows.boot_int (pa_cons (pv 1) pa_nil)))
      (pa_cons pe_int (pa_cons pe_int pa_nil)))))), ?_⟩
    refine ⟨_, rfl, 60, rfl, a, _, rfl, hS, fun p np => ⟨_, rfl, ⟨_, SqL.of upd_same⟩, fun D nD => ?_⟩⟩
    have npD : p ≠ D := fun z => by rw [← z, upd_same] at nD; cases nD
    have nD0 : H D = none := by rw [upd_ne npD.symm] at nD; exact nD
    refine lc_list (K := K) (a := p) (xs := cutV (ns.map V.int) none (some 60))
      (fun j H2 => Same H H2 ∧ H2 p = some (.lst ((ns.take 60).map V.int)) ∧ H2 D = some (.lst (((ns.take 60).map V.int).take j))) ⟨?_, ?_, upd_same⟩ (fun j H2 _ hP => by rw [cut60]; exact SqL.of hP.2.1) ?_ ?_
    · exact (same_upd np).trans (same_upd nD)
    · rw [upd_ne npD, upd_same, cut60]
    · rintro j x H2 hx ⟨s2, hp2, hD2⟩
      rw [cut60] at hx
      obtain ⟨z, rfl⟩ : ∃ z, x = V.int z := by
        rw [List.getElem?_map] at hx
        cases e : (ns.take 60)[j]? with
        | none => rw [e] at hx; cases hx
        | some z => rw [e] at hx; exact ⟨z, (Option.some.inj hx).symm⟩
      have hj : j < ((ns.take 60).map V.int).length := (List.getElem?_eq_some_iff.mp hx).1
      have hj2 : j < 60 := by rw [List.length_map, List.length_take] at hj; omega
      refine ⟨rfl, ?_⟩
      unfold tYes
      dsimp only
      rw [if_pos rfl]
      refine ⟨_, rfl, .inl ⟨_, rfl, _, hD2, ?_, fun b o e => ?_, ?_, ?_⟩⟩
      · rw [List.length_take, sizeLine_eq]; omega
      · rw [upd_ne (ne_of_none e nD0)]; exact s2 b o e
      · rw [upd_ne npD]; exact hp2
      · have e : ((ns.take 60).map V.int).take (j + 1) = ((ns.take 60).map V.int).take j ++ [V.int z] := by
          have q := List.take_add_one (l := (ns.take 60).map V.int) (i := j)
          rw [hx] at q
          exact q
        rw [upd_same, e]
    · rintro H2 ⟨s2, hp2, hD2⟩
      refine ⟨by show 3 ≤ sizeLine; decide, fun t nt => ?_⟩
      have e1 : H2 D = some (.lst ((ns.take 60).map V.int)) := by
        rw [hD2, cut60, List.take_length]
      have ntD : D ≠ t := ne_of_none e1 nt
      exact k t D _ (s2.trans (same_upd nt)) (s2.free nt) ⟨upd_same, by rw [upd_ne ntD]; exact e1, ntD⟩
theorem scO : FnScope ["_law_reel_here", "_law_some"] ["_law_reel_here", "_law_some"] (defScope sOf) := ⟨rfl, rfl, rfl, by decide +kernel, rfl, by decide +kernel, by decide +kernel⟩
theorem ok_of {f fC : Addr} {fd fdC : FuncData} (F : FnP K "_law_pick" sOf f fd) (T : Blt mg) (gC : mg "_law_turn" = some (.ref fC)) (FC : FnP K "_law_turn" sCoin fC fdC) : FnOk P w K mg base CX0 2 f fd ["_law_reel_here", "_law_some"] spOf := by
  have GC : FnOk P w K mg base CX0 1 fC fdC ["_law_reel_here", "_law_many"] spCoin := ok_coin FC T
  have bC : Binds K fdC ["_law_reel_here", "_law_many"] [] := FC.bindsN fun _ _ _ _ _ _ us hl => match us, hl with | [_, _], _ => rfl
  have kC := FC.kp
  refine F.ok scO (fun vs H Q E h => ?_) (fun cdv A outer s H vs Q E hr h => ?_)
  · obtain ⟨t, c, a, cells, i, g, xs, rfl, _⟩ := h
    rfl
  · obtain ⟨t, c, a, cells, i, g, xs, rfl, hT, hi0, hi1, hg, nat, ha, hx0, hx1, k⟩ := h
    have hr1 : Room 1 _ := hr
    refine ⟨_, PSs.nox (pss_one (ps_ret (pe_ix ix_list (pv 1) (pe_call GC hr1 rfl gC kC bC .nil pass0 (pa_cons (pv 0) (pa_cons (pe_callB call_len_seq (by rfl) T.len PySem.boot_len (pa_cons (pv 1) pa_nil)) pa_nil))) (fun _ _ => rfl)))), ?_⟩
    have hz : (2 : Nat) ^ 8000 > 10000 := by decide +kernel
    refine ⟨_, rfl, _, rfl, _, rfl, _, _, rfl, .inl (SqL.of ha), t, c, cells, i, g, _, rfl, hT, hi0, hi1, hg, by omega, by omega, fun r i' g' H' r0 r1 i0 i1 g0 kp T' => ?_⟩
    obtain ⟨n, rfl⟩ : ∃ n : Nat, r = n := ⟨r.toNat, by omega⟩
    have hn : n < xs.length := by omega
    exact ⟨_, _, _, xs[n], rfl, rfl, SqL.of (kp a _ nat ha), atI_nat (List.getElem?_eq_getElem hn), k _ i' g' H' (List.getElem_mem hn) i0 i1 g0 kp T'⟩
end
end K05
namespace K05
open PySem PySem.Spec PyProof.Rows L2 RatM ClX
/-- the greatest common divisor, by Euclid's way -/
def spSh : Sp := fun vs H Q _ => ∃ a b : Int, vs = [.int a, .int b] ∧ Q (.int ((Nat.gcd a.natAbs b.natAbs : Nat) : Int)) H
theorem absN (i : Int) : (if i < 0 then -i else i) = (i.natAbs : Int) := by
  by_cases h : i < 0
  · rw [if_pos h]; omega
  · rw [if_neg h]; omega
section
variable {P : Program} {w : World} {K : PySem.W.Frag} {mg : Str → Option Value} {base : Heap}
theorem scSh : FnScope ["_law_one", "_law_other", "_law_mine", "_law_its"] ["_law_one", "_law_other"] (defScope (top 47)) := ⟨rfl, rfl, rfl, by decide +kernel, rfl, by decide +kernel, by decide +kernel⟩
theorem ok_shared {f : Addr} {fd : FuncData} (F : FnP K "_law_shared" (top 47) f fd) (T : Blt mg) : FnOk P w K mg base CX0 1 f fd ["_law_one", "_law_other"] spSh := by
  refine F.ok scSh (fun vs H Q E h => ?_) (fun cdv A outer s H vs Q E hr h => ?_)
  · obtain ⟨a, b, rfl, _⟩ := h
    rfl
  · obtain ⟨a, b, rfl, k⟩ := h
    refine ⟨_, PSs.nox (pss_cons (ps_par (i := 2) (j := 3) rfl scSh.nd rfl rfl (by decide) rfl rfl (pa_cons (pe_callB call_abs (by rfl) T.abs (by decide +kernel) (pa_cons (pv 0) pa_nil)) (pa_cons (pe_callB call_abs (by rfl) T.abs (by decide +kernel) (pa_cons (pv 1) pa_nil)) pa_nil)) rfl)
      (pss_cons (ps_while PassesOwn.never (pt_cmpR op_gt (pv 3) pe_int (nomark _)) (pss_one (ps_par (i := 2) (j := 3) rfl scSh.nd rfl rfl (by decide) rfl rfl (pa_cons (pv 3) (pa_cons (pe_op op_modN (pe_callTy call_int1 (by rfl) T.int PyProof.Rows.boot_int (pa_cons (pv 2) pa_nil)) (pv 3)) pa_nil)) rfl)))
      (pss_one (ps_ret (pv 2))))), ?_⟩
    refine ⟨_, rfl, a, rfl, _, rfl, b, rfl, _, _, rfl, ?_⟩
    rw [absN, absN]
    refine ⟨fun m σ Hx => ∃ x : Nat, σ = [some (.int a), some (.int b), some (.int (x : Int)), some (.int (m : Int))] ∧ Nat.gcd x m = Nat.gcd a.natAbs b.natAbs ∧ Hx = H, ⟨b.natAbs, a.natAbs, rfl, rfl, rfl⟩, ?_⟩
    rintro m σ Hx ⟨x, rfl, eg, rfl⟩
    refine ⟨_, rfl, _, _, rfl, rfl, decide ((0 : Int) < (m : Int)), rfl, ite2 (fun c => ?_) (fun c => ?_)⟩
    · have m0 : 0 < m := by have := of_decide_eq_true c; omega
      refine ⟨fun σ' H' => ∃ x' : Nat, σ' = [some (.int a), some (.int b), some (.int (x' : Int)), some (.int ((x % m : Nat) : Int))] ∧ Nat.gcd x' (x % m) = Nat.gcd a.natAbs b.natAbs ∧ H' = Hx, fun σ' H' ⟨x', e1, e2, e3⟩ => ⟨x % m, Nat.mod_lt _ m0, x', e1, e2, e3⟩, ?_⟩
      refine ⟨_, rfl, _, rfl, .inl ⟨_, rfl, _, rfl, _, _, rfl, rfl, by omega, _, _, rfl, m, ?_, ?_, rfl⟩⟩
      · have e : (x : Int).fmod (m : Int) = ((x % m : Nat) : Int) := by
          rw [Int.fmod_eq_emod_of_nonneg _ (by omega)]
          exact (Int.natCast_emod ..).symm
        dsimp only
        rw [e]
        rfl
      · rw [← eg, Nat.gcd_comm x m, Nat.gcd_rec m x, Nat.gcd_comm]
    · have m0 : m = 0 := by
        have : ¬ (0 : Int) < (m : Int) := fun z => c (decide_eq_true z)
        omega
      subst m0
      rw [Nat.gcd_zero_right] at eg
      refine ⟨_, rfl, ?_⟩
      rw [eg]
      exact k
end
end K05
namespace K05
open PySem PySem.Spec PyProof.Rows L2 RatM ClX
theorem fdiv_neg_low {t b : Int} (h : b < 0) : (-t).fdiv ((Nat.gcd t.natAbs b.natAbs : Nat) : Int) = lowT t b ∧ (-b).fdiv ((Nat.gcd t.natAbs b.natAbs : Nat) : Int) = lowB t b := by
  have hb : b ≠ 0 := by omega
  have g0 : ((Nat.gcd t.natAbs b.natAbs : Nat) : Int) ≠ 0 := by
    have := Nat.gcd_pos_of_pos_right t.natAbs (Int.natAbs_pos.mpr hb)
    omega
  have eD : lowD t b = -((Nat.gcd t.natAbs b.natAbs : Nat) : Int) := if_neg (by omega)
  have m1 := lowT_mul (t := t) hb
  have m2 := lowB_mul (t := t) hb
  rw [eD] at m1 m2
  constructor
  · have e : -t = ((Nat.gcd t.natAbs b.natAbs : Nat) : Int) * lowT t b := by
      rw [Int.neg_mul] at m1
      omega
    rw [show (-t) = ((Nat.gcd t.natAbs b.natAbs : Nat) : Int) * lowT t b from e]
    exact Int.mul_fdiv_cancel_left _ g0
  · have e : -b = ((Nat.gcd t.natAbs b.natAbs : Nat) : Int) * lowB t b := by
      rw [Int.neg_mul] at m2
      omega
    rw [show (-b) = ((Nat.gcd t.natAbs b.natAbs : Nat) : Int) * lowB t b from e]
    exact Int.mul_fdiv_cancel_left _ g0
def spLw : Sp := fun vs H Q _ => ∃ t b : Int, vs = [.int t, .int b] ∧ b ≠ 0 ∧ b.natAbs < 2 ^ 4000 ∧ ∀ p, H p = none → Q (.ref p) (upd H p (.tup [.int (lowT t b), .int (lowB t b)]))
section
variable {P : Program} {w : World} {K : PySem.W.Frag} {mg : Str → Option Value} {base : Heap}
theorem scLo : FnScope ["_law_top", "_law_bottom", "_law_shared_here"] ["_law_top", "_law_bottom"] (defScope (top 48)) := ⟨rfl, rfl, rfl, by decide +kernel, rfl, by decide +kernel, by decide +kernel⟩
theorem ok_low {f fS : Addr} {fd fdS : FuncData} (F : FnP K "_law_low" (top 48) f fd) (GS : FnOk P w K mg base CX0 1 fS fdS ["_law_one", "_law_other"] spSh) (bS : Binds K fdS ["_law_one", "_law_other"] []) (kS : PySem.W.keepIn K (.ref fS) = true) (gS : mg "_law_shared" = some (.ref fS)) :
    FnOk P w K mg base CX0 2 f fd ["_law_top", "_law_bottom"] spLw := by
  refine F.ok scLo (fun vs H Q E h => ?_) (fun cdv A outer s H vs Q E hr h => ?_)
  · obtain ⟨t, b, rfl, _⟩ := h
    rfl
  · obtain ⟨t, b, rfl, hb, hz, k⟩ := h
    have hr1 : Room 1 _ := hr
    refine ⟨_, PSs.nox (pss_cons (ps_set (i := 2) scLo.nd rfl (.inl rfl) (pe_call GS hr1 rfl gS kS bS .nil pass0 (pa_cons (pv 0) (pa_cons (pv 1) pa_nil))))
      (pss_one (ps_ret (pe_ifExp (pt_cmpR op_gt (pv 1) pe_int (nomark _)) (pe_tup (pa_cons (pe_op op_fdivZ (pv 0) (pv 2)) (pa_cons (pe_op op_fdivZ (pv 1) (pv 2)) pa_nil))) (pe_tup (pa_cons (pe_op op_fdivZ (pe_un un_neg (pv 0)) (pv 2)) (pa_cons (pe_op op_fdivZ (pe_un un_neg (pv 1)) (pv 2)) pa_nil))))))), ?_⟩
    have g0 : ((Nat.gcd t.natAbs b.natAbs : Nat) : Int) ≠ 0 := by
      have := Nat.gcd_pos_of_pos_right t.natAbs (Int.natAbs_pos.mpr hb)
      omega
    have gz : ((Nat.gcd t.natAbs b.natAbs : Nat) : Int).natAbs.log2 < 9000 := by
      refine log2_of ?_
      rw [Int.natAbs_natCast]
      exact Nat.lt_of_le_of_lt (Nat.gcd_le_right _ (Int.natAbs_pos.mpr hb)) hz
    refine ⟨_, rfl, _, rfl, t, b, rfl, ?_⟩
    refine ⟨_, rfl, _, _, rfl, rfl, _, rfl, ite2 (fun c => ?_) (fun c => ?_)⟩
    · have b0 : 0 < b := of_decide_eq_true c
      have eD : ((Nat.gcd t.natAbs b.natAbs : Nat) : Int) = lowD t b := (if_pos b0).symm
      rw [eD] at g0 gz
      rw [eD]
      exact ⟨_, rfl, _, rfl, _, _, rfl, rfl, ⟨g0, gz⟩, _, rfl, _, rfl, _, _, rfl, rfl, ⟨g0, gz⟩, by rw [sizeLine_eq]; show 2 ≤ 16777216; decide, k⟩
    · have b0 : b < 0 := by
        have : ¬ 0 < b := fun z => c (decide_eq_true z)
        omega
      obtain ⟨e1, e2⟩ := fdiv_neg_low (t := t) b0
      refine ⟨_, rfl, _, rfl, _, rfl, _, _, rfl, rfl, ⟨g0, gz⟩, _, rfl, _, rfl, _, rfl, _, _, rfl, rfl, ⟨g0, gz⟩, by rw [sizeLine_eq]; show 2 ≤ 16777216; decide, ?_⟩
      dsimp only
      rw [e1, e2]
      exact k
end
end K05
namespace K05
open PySem PySem.Spec PyProof.Rows L2 RatM ClX
/-- the product of two fractions -/
def byF (x y : Int × Int) : Int × Int := (lowT (x.1 * y.1) (x.2 * y.2), lowB (x.1 * y.1) (x.2 * y.2))
/-- a fraction as the law has it -/
abbrev tupF (x : Int × Int) : List V := [.int x.1, .int x.2]
/-- numbers below 2 ^ 900, the bottom not 0 -/
def FrOk (x : Int × Int) : Prop := x.1.natAbs < 2 ^ 900 ∧ x.2.natAbs < 2 ^ 900 ∧ x.2 ≠ 0
def spFr (f : Int × Int → Int × Int → Int × Int) : Sp := fun vs H Q _ => ∃ (a b : Addr) (x y : Int × Int), vs = [.ref a, .ref b] ∧ H a = some (.tup (tupF x)) ∧ H b = some (.tup (tupF y)) ∧ FrOk x ∧ FrOk y ∧ ∀ p, H p = none → Q (.ref p) (upd H p (.tup (tupF (f x y))))
theorem fr_b0 {x y : Int × Int} (hx : FrOk x) (hy : FrOk y) : x.2 * y.2 ≠ 0 ∧ (x.2 * y.2).natAbs < 2 ^ 4000 := ⟨Int.mul_ne_zero hx.2.2 hy.2.2, Nat.lt_of_lt_of_le (wide_lt hx.2.1 hy.2.1) (Nat.pow_le_pow_right (by decide) (by decide))⟩
theorem fr_mul {p q : Int} (hp : p.natAbs < 2 ^ 900) (hq : q.natAbs < 2 ^ 900) : CMulW p q := wide_mul hp hq (by decide) (by decide) (by decide)
section
variable {P : Program} {w : World} {K : PySem.W.Frag} {mg : Str → Option Value} {base : Heap}
theorem scPl : FnScope ["_law_one", "_law_other"] ["_law_one", "_law_other"] (defScope (top 49)) := ⟨rfl, rfl, rfl, by decide +kernel, rfl, by decide +kernel, by decide +kernel⟩
theorem ok_plus {f fL : Addr} {fd fdL : FuncData} (F : FnP K "_law_plus" (top 49) f fd) (GL : FnOk P w K mg base CX0 2 fL fdL ["_law_top", "_law_bottom"] spLw) (bL : Binds K fdL ["_law_top", "_law_bottom"] []) (kL : PySem.W.keepIn K (.ref fL) = true) (gL : mg "_law_low" = some (.ref fL)) :
    FnOk P w K mg base CX0 3 f fd ["_law_one", "_law_other"] (spFr plusF) := by
  refine F.ok scPl (fun vs H Q E h => ?_) (fun cdv A outer s H vs Q E hr h => ?_)
  · obtain ⟨a, b, x, y, rfl, _⟩ := h
    rfl
  · obtain ⟨a, b, x, y, rfl, ha, hb, hx, hy, k⟩ := h
    have hr2 : Room 2 _ := hr
    obtain ⟨b0, bz⟩ := fr_b0 hx hy
    refine ⟨_, PSs.nox (pss_one (ps_ret (pe_call GL hr2 rfl gL kL bL .nil pass0 (pa_cons (pe_op op_add (pe_op op_mulW (pe_ix ix_tup (pv 0) pe_int (fun _ _ => rfl)) (pe_ix ix_tup (pv 1) pe_int (fun _ _ => rfl))) (pe_op op_mulW (pe_ix ix_tup (pv 1) pe_int (fun _ _ => rfl)) (pe_ix ix_tup (pv 0) pe_int (fun _ _ => rfl))))
      (pa_cons (pe_op op_mulW (pe_ix ix_tup (pv 0) pe_int (fun _ _ => rfl)) (pe_ix ix_tup (pv 1) pe_int (fun _ _ => rfl))) pa_nil))))), ?_⟩
    refine ⟨_, rfl, _, _, _, _, rfl, rfl, SqT.of ha, rfl, _, rfl, _, _, _, _, rfl, rfl, SqT.of hb, rfl, _, _, rfl, rfl, fr_mul hx.1 hy.2.1, ?_⟩
    refine ⟨_, rfl, _, _, _, _, rfl, rfl, SqT.of hb, rfl, _, rfl, _, _, _, _, rfl, rfl, SqT.of ha, rfl, _, _, rfl, rfl, fr_mul hy.1 hx.2.1, _, _, rfl, rfl, ?_⟩
    refine ⟨_, rfl, _, _, _, _, rfl, rfl, SqT.of ha, rfl, _, rfl, _, _, _, _, rfl, rfl, SqT.of hb, rfl, _, _, rfl, rfl, fr_mul hx.2.1 hy.2.1, ?_⟩
    exact ⟨_, _, rfl, b0, bz, k⟩
theorem scBy : FnScope ["_law_one", "_law_other"] ["_law_one", "_law_other"] (defScope (top 50)) := ⟨rfl, rfl, rfl, by decide +kernel, rfl, by decide +kernel, by decide +kernel⟩
theorem ok_by {f fL : Addr} {fd fdL : FuncData} (F : FnP K "_law_by" (top 50) f fd) (GL : FnOk P w K mg base CX0 2 fL fdL ["_law_top", "_law_bottom"] spLw) (bL : Binds K fdL ["_law_top", "_law_bottom"] []) (kL : PySem.W.keepIn K (.ref fL) = true) (gL : mg "_law_low" = some (.ref fL)) :
    FnOk P w K mg base CX0 3 f fd ["_law_one", "_law_other"] (spFr byF) := by
  refine F.ok scBy (fun vs H Q E h => ?_) (fun cdv A outer s H vs Q E hr h => ?_)
  · obtain ⟨a, b, x, y, rfl, _⟩ := h
    rfl
  · obtain ⟨a, b, x, y, rfl, ha, hb, hx, hy, k⟩ := h
    have hr2 : Room 2 _ := hr
    obtain ⟨b0, bz⟩ := fr_b0 hx hy
    refine ⟨_, PSs.nox (pss_one (ps_ret (pe_call GL hr2 rfl gL kL bL .nil pass0 (pa_cons (pe_op op_mulW (pe_ix ix_tup (pv 0) pe_int (fun _ _ => rfl)) (pe_ix ix_tup (pv 1) pe_int (fun _ _ => rfl)))
      (pa_cons (pe_op op_mulW (pe_ix ix_tup (pv 0) pe_int (fun _ _ => rfl)) (pe_ix ix_tup (pv 1) pe_int (fun _ _ => rfl))) pa_nil))))), ?_⟩
    refine ⟨_, rfl, _, _, _, _, rfl, rfl, SqT.of ha, rfl, _, rfl, _, _, _, _, rfl, rfl, SqT.of hb, rfl, _, _, rfl, rfl, fr_mul hx.1 hy.1, ?_⟩
    refine ⟨_, rfl, _, _, _, _, rfl, rfl, SqT.of ha, rfl, _, rfl, _, _, _, _, rfl, rfl, SqT.of hb, rfl, _, _, rfl, rfl, fr_mul hx.2.1 hy.2.1, ?_⟩
    exact ⟨_, _, rfl, b0, bz, k⟩
end
end K05
namespace K05
open PySem PySem.Spec PyProof.Rows L2 RatM ClX
/-- a drawn fraction: lowest terms, the top below 2 ^ 100, the bottom from 1 to 15 -/
structure FrD (x : Int × Int) : Prop where
  top : x.1.natAbs < 2 ^ 100
  b0 : 0 < x.2
  b1 : x.2 ≤ 15
  gcd : Int.gcd x.1 x.2 = 1
theorem frD_low {t b : Int} (ht : t.natAbs < 2 ^ 100) (h0 : 0 < b) (h1 : b ≤ 15) : FrD (lowT t b, lowB t b) := by
  have hb : b ≠ 0 := by omega
  have l := lowB_le (t := t) hb
  have p := lowB_pos (t := t) hb
  exact ⟨Nat.lt_of_le_of_lt (lowT_le hb) ht, p, by show lowB t b ≤ 15; omega, low_gcd hb⟩
def spNumb : Sp := fun vs H Q _ => ∃ (t c : Addr) (cells : List Int) (i g : Int), vs = [.ref t] ∧ Till H t c cells i g ∧ 0 ≤ i ∧ i ≤ 900000 ∧ 0 ≤ g ∧
  ∀ (p : Addr) (x : Int × Int) (i' g' : Int) (H' : Hp), FrD x → 0 ≤ i' → i' ≤ i + 4 → 0 ≤ g' → Keep t H H' → H p = none → H' p = some (.tup (tupF x)) → Till H' t c cells i' g' → Q (.ref p) H'
theorem Keep.free {t p : Addr} {H H' : Hp} (h : Keep t H H') (ht : ∃ o, H' t = some o) (n : H' p = none) : H p = none := by
  cases e : H p with
  | none => rfl
  | some o =>
    by_cases eq : p = t
    · subst eq
      obtain ⟨o', e'⟩ := ht
      rw [n] at e'
      cases e'
    · rw [h p o eq e] at n
      cases n
section
variable {P : Program} {w : World} {K : PySem.W.Frag} {mg : Str → Option Value} {base : Heap}
theorem scNb : FnScope ["_law_reel_here", "_law_way"] ["_law_reel_here"] (defScope (top 51)) := ⟨rfl, rfl, rfl, by decide +kernel, rfl, by decide +kernel, by decide +kernel⟩
theorem ok_number {f fT fL : Addr} {fd fdT fdL : FuncData} (F : FnP K "_law_number" (top 51) f fd) (T : Blt mg) (GT : FnOk P w K mg base CX0 1 fT fdT ["_law_reel_here", "_law_many"] spCoin) (bT : Binds K fdT ["_law_reel_here", "_law_many"] []) (kT : PySem.W.keepIn K (.ref fT) = true) (gT : mg "_law_turn" = some (.ref fT))
    (GL : FnOk P w K mg base CX0 2 fL fdL ["_law_top", "_law_bottom"] spLw) (bL : Binds K fdL ["_law_top", "_law_bottom"] []) (kL : PySem.W.keepIn K (.ref fL) = true) (gL : mg "_law_low" = some (.ref fL)) :
    FnOk P w K mg base CX0 3 f fd ["_law_reel_here"] spNumb := by
  refine F.ok scNb (fun vs H Q E h => ?_) (fun cdv A outer s H vs Q E hr h => ?_)
  · obtain ⟨t, c, cells, i, g, rfl, _⟩ := h
    rfl
  · obtain ⟨t, c, cells, i, g, rfl, hT, hi0, hi1, hg, k⟩ := h
    have hr2 : Room 2 _ := hr
    have hr1 : Room 1 _ := hr2.mono (by decide)
    refine ⟨_, PSs.nox (pss_cons (ps_set (i := 1) scNb.nd rfl (.inl rfl) (pe_call GT hr1 rfl gT kT bT .nil pass0 (pa_cons (pv 0) (pa_cons pe_int pa_nil))))
      (pss_cons (ps_if (pt_cmpR op_lt (pv 1) pe_int (nomark _)) (pss_one (ps_ret (pe_tup (pa_cons (pe_op op_sub (pe_call GT hr1 rfl gT kT bT .nil pass0 (pa_cons (pv 0) (pa_cons pe_int pa_nil))) pe_int) (pa_cons pe_int pa_nil))))) pss_nil)
      (pss_cons (ps_if (pt_cmpR op_lt (pv 1) pe_int (nomark _)) (pss_one (ps_ret (pe_call GL hr2 rfl gL kL bL .nil pass0 (pa_cons (pe_op op_sub (pe_call GT hr1 rfl gT kT bT .nil pass0 (pa_cons (pv 0) (pa_cons pe_int pa_nil))) pe_int) (pa_cons (pe_op op_add pe_int (pe_call GT hr1 rfl gT kT bT .nil pass0 (pa_cons (pv 0) (pa_cons pe_int pa_nil)))) pa_nil))))) pss_nil)
      (pss_cons (ps_if (pt_cmpR op_lt (pv 1) pe_int (nomark _)) (pss_one (ps_ret (pe_call GL hr2 rfl gL kL bL .nil pass0 (pa_cons (pe_op op_sub (pe_call GT hr1 rfl gT kT bT .nil pass0 (pa_cons (pv 0) (pa_cons pe_int pa_nil))) pe_int) (pa_cons (pe_op op_add pe_int (pe_op op_mulW (pe_call GT hr1 rfl gT kT bT .nil pass0 (pa_cons (pv 0) (pa_cons pe_int pa_nil))) (pe_callTy call_int1 (by rfl) T.int PyProof.Rows.boot_int (pa_cons (pe_cmpR op_eq (pv 1) pe_int (nomark _)) pa_nil)))) pa_nil))))) pss_nil)
      (pss_one (ps_ret (pe_call GL hr2 rfl gL kL bL .nil pass0 (pa_cons (pe_op op_add (pe_op op_mulW (pe_op op_sub (pe_call GT hr1 rfl gT kT bT .nil pass0 (pa_cons (pv 0) (pa_cons (pe_op op_pow pe_int pe_int) pa_nil))) pe_int) (pe_op op_pow pe_int pe_int)) (pe_call GT hr1 rfl gT kT bT .nil pass0 (pa_cons (pv 0) (pa_cons (pe_op op_pow pe_int pe_int) pa_nil)))) (pa_cons (pe_op op_add pe_int (pe_call GT hr1 rfl gT kT bT .nil pass0 (pa_cons (pv 0) (pa_cons pe_int pa_nil)))) pa_nil))))))))), ?_⟩
    refine ⟨_, rfl, t, c, cells, i, g, 9, rfl, hT, hi0, by omega, hg, by decide, by decide, fun wy i1 g1 H1 w0 w1 j0 j1 k0 kp hT1 => ?_⟩
    have fin : ∀ (x : Int × Int) (i2 g2 : Int) (H2 : Hp) (p : Addr), FrD x → 0 ≤ i2 → i2 ≤ i + 4 → 0 ≤ g2 → Keep t H H2 → Till H2 t c cells i2 g2 → H2 p = none → Q (.ref p) (upd H2 p (.tup (tupF x))) := fun x i2 g2 H2 p fx a0 a1 a2 kk hT2 np => by
      have npt : p ≠ t := fun e => by rw [e, hT2.ht] at np; cases np
      have npc : c ≠ p := ne_of_none hT2.hc np
      refine k p x i2 g2 _ fx a0 a1 a2 (fun b o hb e => ?_) (kk.free ⟨_, hT2.ht⟩ np) upd_same ⟨by rw [upd_ne (Ne.symm npt)]; exact hT2.ht, by rw [upd_ne npc]; exact hT2.hc, hT2.ne⟩
      rw [upd_ne (ne_of_none (kk b o hb e) np)]
      exact kk b o hb e
    have kt : ∀ {A B C' : Hp}, Keep t A B → Keep t B C' → Keep t A C' := fun h1 h2 b o hb e => h2 b o hb (h1 b o hb e)
    have z15 : ∀ {b : Int}, 0 < b → b ≤ 15 → b.natAbs < 2 ^ 4000 := fun h0 h1 => Nat.lt_of_lt_of_le (show _ < 2 ^ 4 by show _ < 16; omega) (Nat.pow_le_pow_right (by decide) (by decide))
    have z100 : ∀ {a : Int}, a.natAbs ≤ 10 ^ 25 → a.natAbs < 2 ^ 100 := fun h => Nat.lt_of_le_of_lt h (by decide)
    refine ⟨_, rfl, _, _, rfl, rfl, _, rfl, ite2 (fun c4 => ?_) (fun c4 => ?_)⟩
    · refine ⟨_, rfl, t, c, cells, i1, g1, 7, rfl, hT1, j0, by omega, k0, by decide, by decide, fun r i2 g2 H2 r0 r1 j2 j3 k2 kp2 hT2 => ?_⟩
      exact ⟨_, _, rfl, rfl, by rw [sizeLine_eq]; show 2 ≤ 16777216; decide, fun p np => fin (r - 3, 1) i2 g2 H2 p ⟨z100 (show (r - 3).natAbs ≤ _ from Nat.le_trans (show (r - 3).natAbs ≤ 100 by omega) (by decide)), (by show (0 : Int) < 1; decide), (by show (1 : Int) ≤ 15; decide), Int.gcd_one⟩ j2 (by omega) k2 (kt kp kp2) hT2 np⟩
    · dsimp only [tNext, tSeq]
      refine ⟨_, rfl, _, _, rfl, rfl, _, rfl, ite2 (fun c6 => ?_) (fun c6 => ?_)⟩
      · refine ⟨_, rfl, t, c, cells, i1, g1, 13, rfl, hT1, j0, by omega, k0, by decide, by decide, fun r i2 g2 H2 r0 r1 j2 j3 k2 kp2 hT2 => ?_⟩
        refine ⟨_, _, rfl, rfl, _, rfl, t, c, cells, i2, g2, 6, rfl, hT2, j2, by omega, k2, by decide, by decide, fun q i3 g3 H3 q0 q1 j4 j5 k3 kp3 hT3 => ?_⟩
        exact ⟨_, _, rfl, rfl, r - 6, 1 + q, rfl, by omega, z15 (by omega) (by omega), fun p np => fin _ i3 g3 H3 p (frD_low (z100 (Nat.le_trans (show (r - 6).natAbs ≤ 100 by omega) (by decide))) (by omega) (by omega)) j4 (by omega) k3 (kt kp (kt kp2 kp3)) hT3 np⟩
      · dsimp only [tNext, tSeq]
        refine ⟨_, rfl, _, _, rfl, rfl, _, rfl, ite2 (fun c8 => ?_) (fun c8 => ?_)⟩
        · refine ⟨_, rfl, t, c, cells, i1, g1, 199, rfl, hT1, j0, by omega, k0, by decide, by decide, fun r i2 g2 H2 r0 r1 j2 j3 k2 kp2 hT2 => ?_⟩
          refine ⟨_, _, rfl, rfl, _, rfl, t, c, cells, i2, g2, 15, rfl, hT2, j2, by omega, k2, by decide, by decide, fun q i3 g3 H3 q0 q1 j4 j5 k3 kp3 hT3 => ?_⟩
          have qb : ∀ e : Bool, 0 ≤ q * (if e = true then 1 else 0) ∧ q * (if e = true then 1 else 0) ≤ 14 := fun e => by cases e <;> simp <;> omega
          have qe := qb (decide (V.int wy = V.int 7))
          refine ⟨_, rfl, rfl, .inr ⟨_, rfl, _, _, rfl, rfl, ?_, _, _, rfl, rfl, r - 99, _, rfl, ?_, ?_, fun p np => fin _ i3 g3 H3 p (frD_low (z100 (Nat.le_trans (show (r - 99).natAbs ≤ 100 by omega) (by decide))) ?_ ?_) j4 (by omega) k3 (kt kp (kt kp2 kp3)) hT3 np⟩⟩
          · exact wide_mul (a := 64) (b := 64) (by omega) (by split <;> decide) (by decide) (by decide) (by decide)
          · have := qe.1; omega
          · exact z15 (by have := qe.1; omega) (by have := qe.2; omega)
          · have := qe.1; omega
          · have := qe.2; omega
        · dsimp only [tNext, tSeq]
          have p7 : (10 : Int) ^ (7 : Int).toNat = 10000000 := by decide
          have p17 : (10 : Int) ^ (17 : Int).toNat = 100000000000000000 := by decide
          refine ⟨_, rfl, _, _, rfl, rfl, ⟨by decide, by decide, by decide⟩, t, c, cells, i1, g1, _, rfl, hT1, j0, by omega, k0, by decide, by decide, fun r i2 g2 H2 r0 r1 j2 j3 k2 kp2 hT2 => ?_⟩
          rw [p7] at r1
          refine ⟨_, _, rfl, rfl, _, _, rfl, rfl, ⟨by decide, by decide, by decide⟩, _, _, rfl, rfl, ?_, _, rfl, _, _, rfl, rfl, ⟨by decide, by decide, by decide⟩, t, c, cells, i2, g2, _, rfl, hT2, j2, by omega, k2, by decide, by decide, fun q i3 g3 H3 q0 q1 j4 j5 k3 kp3 hT3 => ?_⟩
          · exact wide_mul (a := 64) (b := 64) (by omega) (by decide) (by decide) (by decide) (by decide)
          rw [p7] at q1
          refine ⟨_, _, rfl, rfl, _, rfl, t, c, cells, i3, g3, 3, rfl, hT3, j4, by omega, k3, by decide, by decide, fun u i4 g4 H4 u0 u1 j6 j7 k4 kp4 hT4 => ?_⟩
          refine ⟨_, _, rfl, rfl, _, 1 + u, rfl, by omega, z15 (by omega) (by omega), fun p np => fin _ i4 g4 H4 p (frD_low (z100 ?_) (by omega) (by omega)) j6 (by omega) k4 (kt kp (kt kp2 (kt kp3 kp4))) hT4 np⟩
          rw [p17]
          have e25 : (10 : Nat) ^ 25 = 10000000000000000000000000 := by decide
          rw [e25]
          omega
end
end K05
namespace K05
open PySem PySem.Spec PyProof.Rows L2 RatM ClX
theorem eqv_pair (p q u v : Int) : PyData.eqv (.tuple [.int p, .int q]) (.tuple [.int u, .int v]) = (decide (p = u) && decide (q = v)) := by
  simp [PyData.eqv, PyData.eqvAll, Bool.beq_eq_decide_eq]
theorem shaped_pair (p q : Int) : SeqAt.shaped (.tuple [.int p, .int q]) = true := by
  simp [SeqAt.shaped, PyData.canLay0, PyData.canLayAll0, PyData.depth, PyData.depthAll]
/-- a pair of integers stands at a -/
abbrev PairAt (K : PySem.W.Frag) (H : Hp) (a : Addr) (u v : Int) : Prop := SqT K H a [.int u, .int v]
theorem dp_pair {K : PySem.W.Frag} {H : Hp} {a : Addr} {u v : Int} (h : PairAt K H a u v) : Dp K H (.ref a) (.tuple [.int u, .int v]) := .tup h (.cons (.int u) (.cons (.int v) .nil))
def spTx (K : PySem.W.Frag) : Sp := fun vs H Q _ => ∃ (b : Addr) (u v : Int), vs = [.ref b] ∧ PairAt K H b u v ∧ Sz u ∧ Sz v ∧ Q (.str (textR u v)) H
section
variable {P : Program} {w : World} {K : PySem.W.Frag} {mg : Str → Option Value} {base : Heap} {C BR CB BB : Addr}
theorem scTx : FnScope ["_law_pair"] ["_law_pair"] (defScope (top 53)) := ⟨rfl, rfl, rfl, by decide +kernel, rfl, by decide +kernel, by decide +kernel⟩
theorem ok_text {f : Addr} {fd : FuncData} (F : FnP K "_law_text" (top 53) f fd) (bs : mg "str" = none) : FnOk P w K mg base CX0 1 f fd ["_law_pair"] (spTx K) := by
  refine F.ok scTx (fun vs H Q E h => ?_) (fun cdv A outer s H vs Q E hr h => ?_)
  · obtain ⟨b, u, v, rfl, _⟩ := h
    rfl
  · obtain ⟨b, u, v, rfl, hb, su, sv, k⟩ := h
    have ix0 : atI [V.int u, V.int v] 0 = some (.int u) := rfl
    have ix1 : atI [V.int u, V.int v] 1 = some (.int v) := rfl
    have l1 := sz_len su
    have l2 := sz_len sv
    refine ⟨_, PSs.nox (pss_one (ps_ret (pe_ifExp (pt_cmpR op_eq (pe_ix ix_tup (pv 0) pe_int (fun _ _ => rfl)) pe_int (nomark _)) (pe_callTy call_str_int (by rfl) bs PyProof.Rows.boot_str (pa_cons (pe_ix ix_tup (pv 0) pe_int (fun _ _ => rfl)) pa_nil))
      (pe_op op_add_str (pe_op op_add_str (pe_callTy call_str_int (by rfl) bs PyProof.Rows.boot_str (pa_cons (pe_ix ix_tup (pv 0) pe_int (fun _ _ => rfl)) pa_nil)) pe_str) (pe_callTy call_str_int (by rfl) bs PyProof.Rows.boot_str (pa_cons (pe_ix ix_tup (pv 0) pe_int (fun _ _ => rfl)) pa_nil)))))), ?_⟩
    refine ⟨_, rfl, b, _, _, _, rfl, rfl, hb, ix1, rfl, decide (v = 1), congrArg V.bl (decI ..), ?_⟩
    by_cases e : v = 1
    · rw [decide_eq_true e]
      have z : textR u v = (toString u : String) := if_pos e
      rw [z] at k
      exact iteT ⟨_, rfl, b, _, _, _, rfl, rfl, hb, ix0, u, rfl, sz_log su, k⟩
    · rw [decide_eq_false e]
      have z : textR u v = (Str.ofString (toString u) ++ "/") ++ Str.ofString (toString v) := if_neg e
      rw [z] at k
      have ls : (Str.ofString "/").length = 1 := rfl
      refine iteF ⟨_, rfl, b, _, _, _, rfl, rfl, hb, ix0, u, rfl, sz_log su, _, _, rfl, rfl, ?_, _, rfl, b, _, _, _, rfl, rfl, hb, ix1, v, rfl, sz_log sv, _, _, rfl, rfl, ?_, k⟩
      · rw [sizeLine_eq]; omega
      · rw [strLen_append, sizeLine_eq]; omega
end
/-- a fraction as a Ratio, or as an integer where it is one -/
def spRt (C : Addr) : Sp := fun vs H Q _ => ∃ (t o c : Addr) (cells : List Int) (i g : Int) (x : Int × Int), vs = [.ref t, .ref o] ∧ o ≠ t ∧ H o = some (.tup (tupF x)) ∧ FrD x ∧ Till H t c cells i g ∧ 0 ≤ i ∧ i ≤ 900000 ∧ 0 ≤ g ∧
  ∀ (v : V) (i' g' : Int) (H' : Hp), NumAt H' C v x.1 x.2 → 0 ≤ i' → i' ≤ i + 2 → 0 ≤ g' → Keep t H H' → Till H' t c cells i' g' → Q v H'
section
variable {P : Program} {w : World} {K : PySem.W.Frag} {mg : Str → Option Value} {base : Heap} {C BR CB BB : Addr}
theorem scRt : FnScope ["_law_reel_here", "_law_pair", "_law_times"] ["_law_reel_here", "_law_pair"] (defScope (top 56)) := ⟨rfl, rfl, rfl, by decide +kernel, rfl, by decide +kernel, by decide +kernel⟩
theorem ok_ratio {f fT fO : Addr} {fd fdT fdO : FuncData} (F : FnP K "_law_ratio" (top 56) f fd) (R : RatK P w K mg base C BR) (GT : FnOk P w K mg base CX0 1 fT fdT ["_law_reel_here", "_law_many"] spCoin) (bT : Binds K fdT ["_law_reel_here", "_law_many"] []) (kT : PySem.W.keepIn K (.ref fT) = true) (gT : mg "_law_turn" = some (.ref fT))
    (GO : FnOk P w K mg base CX0 2 fO fdO ["_law_reel_here", "_law_some"] spOf) (bO : Binds K fdO ["_law_reel_here", "_law_some"] []) (kO : PySem.W.keepIn K (.ref fO) = true) (gO : mg "_law_pick" = some (.ref fO)) :
    FnOk P w K mg base CX0 5 f fd ["_law_reel_here", "_law_pair"] (spRt C) := by
  refine F.ok scRt (fun vs H Q E h => ?_) (fun cdv A outer s H vs Q E hr h => ?_)
  · obtain ⟨t, o, c, cells, i, g, x, rfl, _⟩ := h
    rfl
  · obtain ⟨t, o, c, cells, i, g, x, rfl, nt, ho, fx, hT, hi0, hi1, hg, k⟩ := h
    have hr4 : Room 4 _ := hr
    refine ⟨_, PSs.nox (pss_cons (ps_if (PW.pt (pw_and (pt_cmpR op_eq (pe_ix ix_tup (pv 1) pe_int (fun _ _ => rfl)) pe_int (nomark _)) (pw_and1 (pt_cmpR op_eq (pe_call GT (hr4.mono (by decide)) rfl gT kT bT .nil pass0 (pa_cons (pv 0) (pa_cons pe_int pa_nil))) pe_int (nomark _))))) (pss_one (ps_ret (pe_ix ix_tup (pv 1) pe_int (fun _ _ => rfl)))) pss_nil)
      (pss_cons (ps_set (i := 2) scRt.nd rfl (.inl rfl) (pe_call GO (hr4.mono (by decide)) rfl gO kO bO .nil pass0 (pa_cons (pv 0) (pa_cons (pe_lst (pa_cons pe_int (pa_cons pe_int (pa_cons (pe_un un_neg pe_int) pa_nil)))) pa_nil))))
      (pss_one (ps_ret (pe_rat2 R (by exact hr4) (E := E0) passL rfl (pa_cons (pe_op op_mulW (pe_ix ix_tup (pv 1) pe_int (fun _ _ => rfl)) (pv 2)) (pa_cons (pe_op op_mulW (pe_ix ix_tup (pv 1) pe_int (fun _ _ => rfl)) (pv 2)) pa_nil))))))), ?_⟩
    have ix0 : atI [V.int x.1, V.int x.2] 0 = some (.int x.1) := rfl
    have ix1 : atI [V.int x.1, V.int x.2] 1 = some (.int x.2) := rfl
    have b0 := fx.b0
    have b1 := fx.b1
    have tp := fx.top
    have kH : Keep t H H := fun _ _ _ e => e
    refine ⟨_, rfl, _, _, _, _, rfl, rfl, SqT.of ho, ix1, rfl, decide (x.2 = 1), congrArg V.bl (decI ..), ?_⟩
    by_cases e : x.2 = 1
    · rw [decide_eq_true e]
      refine iteT ⟨_, rfl, t, c, cells, i, g, 2, rfl, hT, hi0, by omega, hg, by decide, by decide, fun r i1 g1 H1 r0 r1 j0 j1 k0 kp hT1 => ?_⟩
      refine ⟨rfl, _, rfl, ite2 (fun c2 => ?_) (fun c2 => ?_)⟩
      · exact ⟨_, rfl, _, _, _, _, rfl, rfl, SqT.of (kp _ _ nt ho), ix0, k _ i1 g1 H1 (.inr ⟨rfl, e, Nat.lt_of_lt_of_le tp (Nat.pow_le_pow_right (by decide) (by decide))⟩) j0 (by omega) k0 kp hT1⟩
      · dsimp only [tNext, tSeq, tAsg]
        refine ⟨_, rfl, _, rfl, by rw [sizeLine_eq]; show 3 ≤ 16777216; decide, fun p np => ?_⟩
        have npt : p ≠ t := fun e => by rw [e, hT1.ht] at np; cases np
        have npc : c ≠ p := ne_of_none hT1.hc np
        have npo : p ≠ o := fun e => by rw [e, kp _ _ nt ho] at np; cases np
        have hT2 : Till (upd H1 p (.lst [V.int 1, V.int 3, V.int (-2)])) t c cells i1 g1 := ⟨by rw [upd_ne (Ne.symm npt)]; exact hT1.ht, by rw [upd_ne npc]; exact hT1.hc, hT1.ne⟩
        refine ⟨t, c, p, cells, i1, g1, [V.int 1, V.int 3, V.int (-2)], rfl, hT2, j0, by omega, k0, npt, upd_same, by decide, by decide, fun v i2 g2 H2 hv j2 j3 k2 kp2 hT3 => ?_⟩
        obtain ⟨m, rfl, m0, mz⟩ : ∃ m : Int, v = .int m ∧ m ≠ 0 ∧ m.natAbs < 2 ^ 4 := by
          simp only [List.mem_cons, List.not_mem_nil, or_false] at hv
          rcases hv with rfl | rfl | rfl
          · exact ⟨1, rfl, by decide, by decide⟩
          · exact ⟨3, rfl, by decide, by decide⟩
          · exact ⟨-2, rfl, by decide, by decide⟩
        have ho2 : H2 o = some (.tup (tupF x)) := kp2 o _ nt (by rw [upd_ne (Ne.symm npo)]; exact kp _ _ nt ho)
        dsimp only [gName]
        have z2 : x.2.natAbs < 2 ^ 4 := by show _ < 16; omega
        have bz : x.2 * m ≠ 0 := Int.mul_ne_zero (by omega) m0
        refine ⟨_, rfl, _, _, _, _, rfl, rfl, SqT.of ho2, ix0, _, rfl, _, _, rfl, rfl, wide_mul tp mz (by decide) (by decide) (by decide), _, rfl, _, _, _, _, rfl, rfl, SqT.of ho2, ix1, _, rfl, _, _, rfl, rfl, wide_mul z2 mz (by decide) (by decide) (by decide), ?_⟩
        refine ⟨_, _, rfl, .inl ⟨x.1 * m, x.2 * m, rfl, rfl, bz, Nat.lt_of_lt_of_le (wide_lt tp mz) (Nat.pow_le_pow_right (by decide) (by decide)), Nat.lt_of_lt_of_le (wide_lt z2 mz) (Nat.pow_le_pow_right (by decide) (by decide)), fun r' H3 s3 h3 => ?_⟩⟩
        have sf := low_self b0 fx.gcd
        have le := low_eq (t := x.1 * m) (b := x.2 * m) (t' := x.1) (b' := x.2) bz (by omega) (by rw [Int.mul_assoc, Int.mul_comm m x.2])
        rw [le.1, le.2, sf.1, sf.2] at h3
        have kk : Keep t H H2 := fun b ob hb e => kp2 b ob hb (by
          have e1 := kp b ob hb e
          rw [upd_ne (ne_of_none e1 np)]
          exact e1)
        exact k (.ref r') i2 g2 H3 (.inl ⟨r', rfl, h3⟩) j2 (by omega) k2 (fun b ob hb e => s3 _ _ (kk b ob hb e)) ⟨s3 _ _ hT3.ht, s3 _ _ hT3.hc, hT3.ne⟩
    · rw [decide_eq_false e]
      refine iteF ?_
      dsimp only [tNext, tSeq, tAsg]
      refine ⟨_, rfl, _, rfl, by rw [sizeLine_eq]; show 3 ≤ 16777216; decide, fun p np => ?_⟩
      have npt : p ≠ t := fun e => by rw [e, hT.ht] at np; cases np
      have npc : c ≠ p := ne_of_none hT.hc np
      have npo : p ≠ o := fun e => by rw [e, kH _ _ nt ho] at np; cases np
      have hT2 : Till (upd H p (.lst [V.int 1, V.int 3, V.int (-2)])) t c cells i g := ⟨by rw [upd_ne (Ne.symm npt)]; exact hT.ht, by rw [upd_ne npc]; exact hT.hc, hT.ne⟩
      refine ⟨t, c, p, cells, i, g, [V.int 1, V.int 3, V.int (-2)], rfl, hT2, hi0, by omega, hg, npt, upd_same, by decide, by decide, fun v i2 g2 H2 hv j2 j3 k2 kp2 hT3 => ?_⟩
      obtain ⟨m, rfl, m0, mz⟩ : ∃ m : Int, v = .int m ∧ m ≠ 0 ∧ m.natAbs < 2 ^ 4 := by
        simp only [List.mem_cons, List.not_mem_nil, or_false] at hv
        rcases hv with rfl | rfl | rfl
        · exact ⟨1, rfl, by decide, by decide⟩
        · exact ⟨3, rfl, by decide, by decide⟩
        · exact ⟨-2, rfl, by decide, by decide⟩
      have ho2 : H2 o = some (.tup (tupF x)) := kp2 o _ nt (by rw [upd_ne (Ne.symm npo)]; exact kH _ _ nt ho)
      dsimp only [gName]
      have z2 : x.2.natAbs < 2 ^ 4 := by show _ < 16; omega
      have bz : x.2 * m ≠ 0 := Int.mul_ne_zero (by omega) m0
      refine ⟨_, rfl, _, _, _, _, rfl, rfl, SqT.of ho2, ix0, _, rfl, _, _, rfl, rfl, wide_mul tp mz (by decide) (by decide) (by decide), _, rfl, _, _, _, _, rfl, rfl, SqT.of ho2, ix1, _, rfl, _, _, rfl, rfl, wide_mul z2 mz (by decide) (by decide) (by decide), ?_⟩
      refine ⟨_, _, rfl, .inl ⟨x.1 * m, x.2 * m, rfl, rfl, bz, Nat.lt_of_lt_of_le (wide_lt tp mz) (Nat.pow_le_pow_right (by decide) (by decide)), Nat.lt_of_lt_of_le (wide_lt z2 mz) (Nat.pow_le_pow_right (by decide) (by decide)), fun r' H3 s3 h3 => ?_⟩⟩
      have sf := low_self b0 fx.gcd
      have le := low_eq (t := x.1 * m) (b := x.2 * m) (t' := x.1) (b' := x.2) bz (by omega) (by rw [Int.mul_assoc, Int.mul_comm m x.2])
      rw [le.1, le.2, sf.1, sf.2] at h3
      have kk : Keep t H H2 := fun b ob hb e => kp2 b ob hb (by
        have e1 := kH b ob hb e
        rw [upd_ne (ne_of_none e1 np)]
        exact e1)
      exact k (.ref r') i2 g2 H3 (.inl ⟨r', rfl, h3⟩) j2 (by omega) k2 (fun b ob hb e => s3 _ _ (kk b ob hb e)) ⟨s3 _ _ hT3.ht, s3 _ _ hT3.hc, hT3.ne⟩
end
end K05
namespace K05
open PySem PySem.Spec PyProof.Rows L2 RatM ClX
/-- a plain balance: a dict from names to fractions -/
abbrev PlD (H : Hp) (g : Str → Int × Int) : List (Key × V) → List Str → Prop := Paired fun kv n => kv.1 = .inr n ∧ ∃ o, kv.2 = .ref o ∧ H o = some (.tup (tupF (g n)))
theorem PlD.same {H H' : Hp} {g : Str → Int × Int} {kvs : List (Key × V)} {ks : List Str} (h : PlD H g kvs ks) (s : Same H H') : PlD H' g kvs ks := Paired.mono' (fun _ _ ⟨e, o, e2, n⟩ => ⟨e, o, e2, s _ _ n⟩) h
theorem PlD.val {H : Hp} {g : Str → Int × Int} {kvs : List (Key × V)} {ks : List Str} (h : PlD H g kvs ks) {n : Str} (m : n ∈ ks) : ∃ o, valV kvs (.inr n) = some (.ref o) ∧ H o = some (.tup (tupF (g n))) := by
  induction h with
  | nil => cases m
  | @cons a b l1 l2 x t ih =>
    by_cases e : b = n
    · subst e
      obtain ⟨x1, o, x2, x3⟩ := x
      exact ⟨o, by rw [valV_pos x1, x2], x3⟩
    · have ne : ¬ a.1 = Sum.inr n := fun z => e (by rw [x.1] at z; injection z)
      rw [valV_neg ne]
      exact ih (by cases m with
        | head => exact absurd rfl e
        | tail _ m => exact m)
theorem PlD.locked {H : Hp} {g : Str → Int × Int} {kvs : List (Key × V)} {ks : List Str} {d : Addr} {kvs' : List (Key × V)} {o : HO} (h : PlD H g kvs ks) (hd : H d = some (.dK kvs')) : PlD (upd H d o) g kvs ks :=
  Paired.mono' (fun _ _ ⟨e, b, e2, n⟩ => ⟨e, b, e2, (upd_ne fun z => by rw [z, hd] at n; cases n).trans n⟩) h
def spNamed : Sp := fun vs H Q _ => ∃ (d : Addr) (kvs : List (Key × V)) (ks : List Str) (g : Str → Int × Int), vs = [.ref d] ∧ H d = some (.dK kvs) ∧ PlD H g kvs ks ∧ ks.length ≤ 60 ∧
  ∀ p ys H', Same H H' → ys.Perm (nz g ks) → sortedS ys = true → H p = none → H' p = some (.lst (ys.map V.str)) → Q (.ref p) H'
section
variable {P : Program} {w : World} {K : PySem.W.Frag} {mg : Str → Option Value} {base : Heap}
theorem scNd : FnScope ["_law_plain", "_law_thing"] ["_law_plain"] (defScope (top 54)) := ⟨rfl, rfl, rfl, by decide +kernel, rfl, by decide +kernel, by decide +kernel⟩
theorem ok_named {f : Addr} {fd : FuncData} (F : FnP K "_law_named" (top 54) f fd) (so : mg "sorted" = none) (bs : mg "str" = none) : FnOk P w K mg base CX0 1 f fd ["_law_plain"] spNamed := by
  refine F.ok scNd (fun vs H Q E h => ?_) (fun cdv A outer s H vs Q E hr h => ?_)
  · obtain ⟨d, kvs, ks, g, rfl, _⟩ := h
    rfl
  · obtain ⟨d, kvs, ks, g, rfl, hd, hp, lk, k⟩ := h
    have hr0 : Room 0 _ := hr
    have hu1 : (A.deeper (envOfC (Str.ofString "_law_named") (defScope (top 54)) s.heap.objs.size f cdv)).units + 1 < cLine := by have := hr0.units; omega
    refine ⟨_, PSs.nox (pss_one (ps_ret (pe_callB cr_sortedS (by rfl) so (by decide +kernel) (pa_cons (pe_lock (pe_lc (own := [("_law_thing", 1)]) (g := gName 1) (tt := tTest (tOp rNe (tOp (rIxT K) (tDGet (tVar 0) (tVar 1)) (tC (.int 0))) (tC (.int 0)))) rfl scNd.nd (pi_keys (pv 0)) (blkOk_by (N := ["_law_plain", "_law_thing"]) (sc := defScope (top 54)) (by decide +kernel)) (fun _ _ _ _ _ => pg_name (i := 1) scNd.nd rfl (Or.inl rfl))
      (fun _ _ _ _ _ => pts_one (pt_cmpR op_ne (pe_ix ix_tup (pe_dget (by exact hu1) (pv 0) (pv 1) (fun _ _ => rfl)) pe_int (fun _ _ => rfl)) pe_int (nomark _))) (fun _ _ _ _ _ => pe_callTy SkE.call_str_str (by rfl) bs PyProof.Rows.boot_str (pa_cons (pv 1) pa_nil)))) pa_nil)))), ?_⟩
    refine ⟨d, .dK kvs, hd, True.intro, fun od => ?_⟩
    refine ⟨_, rfl, d, od, rfl, .inl ⟨kvs, upd_same, fun D nD => ?_⟩⟩
    have nDd : D ≠ d := fun e => by rw [e, upd_same] at nD; cases nD
    have nD0 : H D = none := (upd_ne nDd).symm.trans nD
    have hpL := hp.locked (o := .frz od (.dK kvs)) hd
    have hdL : (upd H d (.frz od (.dK kvs))) d = some (.frz od (.dK kvs)) := upd_same
    have ul : ∀ Hx, Same (upd H d (.frz od (.dK kvs))) Hx → Same H (upd Hx d (.dK kvs)) := fun Hx s => unlock_same hd s
    generalize upd H d (.frz od (.dK kvs)) = HL at nD hpL hdL ul ⊢
    refine lc_it walk_keys (fun i Hx => Same HL Hx ∧ Hx D = some (.lst ((nz g (ks.take i)).map V.str))) ⟨same_upd nD, upd_same⟩ (fun i Hx _ hP => hP.1 _ _ hdL) (fun i x Hx Hx' hi hP hy => ?_) (fun Hx hP => ?_)
    · obtain ⟨rfl, key, v, ek, rfl⟩ := hy
      obtain ⟨s2, hD⟩ := hP
      obtain ⟨n, en, e1, _⟩ := Paired.at' hpL i _ ek
      have e1 : key = .inr n := e1
      subst e1
      have mn := List.mem_of_getElem? en
      obtain ⟨o, ev, ho⟩ := hpL.val mn
      have tk : nz g (ks.take (i + 1)) = nz g (ks.take i) ++ (if (!decide ((g n).1 = 0)) = true then [n] else []) := take_succ_filter (fun n => !decide ((g n).1 = 0)) ks i n en
      refine ⟨rfl, ?_⟩
      refine ⟨_, rfl, _, rfl, d, .ref o, rfl, ?_, ?_⟩
      · have z : DGet Hx' d (kV (.inr n)) (valV kvs (.inr n)) := .inl ⟨kvs, .inr n, .inr ⟨od, s2 _ _ hdL⟩, rfl, rfl⟩
        rw [ev] at z
        exact z
      · refine ⟨_, _, _, _, rfl, rfl, SqT.of (s2 _ _ ho), rfl, rfl, !decide ((g n).1 = 0), congrArg V.bl (congrArg (fun b => !b) (decI ..)), ite2 (fun c => ?_) (fun c => ?_)⟩
        · refine ⟨_, rfl, n, rfl, _, hD, ?_, fun a ob e => ?_, ?_⟩
          · have f1 : (nz g (ks.take i)).length ≤ (ks.take i).length := List.length_filter_le _ _
            have f2 := List.length_take (i := i) (l := ks)
            rw [List.length_map, sizeLine_eq]; omega
          · rw [upd_ne (ne_of_none e nD)]; exact s2 _ _ e
          · rw [upd_same, tk, if_pos c, List.map_append]
            rfl
        · refine ⟨s2, ?_⟩
          rw [tk, if_neg c, List.append_nil]
          exact hD
    · obtain ⟨s2, hD⟩ := hP
      rw [Paired.length hp, List.take_length] at hD
      refine ⟨s2 _ _ hdL, D, nz g ks, rfl, SqL.of ((upd_ne nDd).trans hD), ?_, fun ys p py sy np => ?_⟩
      · have f1 : (nz g ks).length ≤ ks.length := List.length_filter_le _ _
        omega
      · exact k p ys _ ((ul _ s2).trans (same_upd np)) py sy ((ul _ s2).free np) upd_same
end
end K05
namespace K05
open PySem PySem.Spec PyProof.Rows L2 RatM ClX
theorem Keep.refl {t : Addr} {H : Hp} : Keep t H H := fun _ _ _ e => e
theorem Keep.trans {t : Addr} {A B C' : Hp} (h1 : Keep t A B) (h2 : Keep t B C') : Keep t A C' := fun b o hb e => h2 b o hb (h1 b o hb e)
theorem Keep.same {t : Addr} {A B C' : Hp} (h1 : Keep t A B) (h2 : Same B C') : Keep t A C' := fun b o hb e => h2 b o (h1 b o hb e)
theorem Till.off {H : Hp} {t c p : Addr} {cells : List Int} {i g : Int} (h : Till H t c cells i g) (n : H p = none) : p ≠ t := fun e => by rw [e, h.ht] at n; cases n
theorem Till.same {H H' : Hp} {t c : Addr} {cells : List Int} {i g : Int} (h : Till H t c cells i g) (s : Same H H') : Till H' t c cells i g := ⟨s _ _ h.ht, s _ _ h.hc, h.3⟩
/-- the lists of names that the law draws from -/
def pools : List (List Str) := [["a", "b", "c", "d"], ["b9", "a", "aa", "z"], ["x", "less", "ab", "abcdefghij12"]]
/-- names of things, all different, four at most -/
structure ThOk (xs : List Str) : Prop where
  nd : xs.Nodup
  le : xs.length ≤ 4
  nm : ∀ n ∈ xs, n.length ≤ 12 ∧ nameT n.cps.toList = true
theorem pools_ok : ∀ xs ∈ pools, xs.Nodup ∧ xs.length = 4 ∧ ∀ n ∈ xs, n.length ≤ 12 ∧ nameT n.cps.toList = true := by decide +kernel
theorem rot_cut {α : Type} (xs : List α) (b m : Nat) : (xs.drop b ++ xs.take b).take m = (xs.drop b ++ xs.take b).take m := rfl
theorem cut_from {xs : List V} (b : Nat) (h : b ≤ xs.length) : cutV xs (some (b : Int)) none = xs.drop b := by
  unfold cutV
  rw [HT.sIx_none, HT.sIx_nat, Nat.min_eq_left h]
  exact List.take_of_length_le (by rw [List.length_drop]; omega)
theorem cut_to {xs : List V} (b : Nat) : cutV xs none (some (b : Int)) = xs.take b := by
  unfold cutV
  rw [HT.sIx_none, HT.sIx_nat, List.drop_zero, Nat.sub_zero, ← List.take_take, List.take_length]
theorem rot_ok {xs : List Str} (h : xs ∈ pools) (b m : Nat) (hm : m ≤ 4) : ThOk ((xs.drop b ++ xs.take b).take m) := by
  obtain ⟨h1, h2, h3⟩ := pools_ok xs h
  have p : (xs.drop b ++ xs.take b).Perm xs := List.perm_append_comm.trans (by rw [List.take_append_drop])
  refine ⟨(p.nodup_iff.mpr h1).sublist (List.take_sublist _ _), ?_, fun n mn => h3 n (p.mem_iff.mp (List.mem_of_mem_take mn))⟩
  rw [List.length_take]; omega
theorem ThOk.reverse {xs : List Str} (h : ThOk xs) : ThOk xs.reverse := ⟨(List.reverse_perm xs).nodup_iff.mpr h.nd, by rw [List.length_reverse]; exact h.le, fun n m => h.nm n (List.mem_reverse.mp m)⟩
def spThs : Sp := fun vs H Q _ => ∃ (t c : Addr) (cells : List Int) (i g m : Int), vs = [.ref t, .int m] ∧ 0 ≤ m ∧ m ≤ 4 ∧ Till H t c cells i g ∧ 0 ≤ i ∧ i ≤ 900000 ∧ 0 ≤ g ∧
  ∀ (p : Addr) (xs : List Str) (i' g' : Int) (H' : Hp), ThOk xs → 0 ≤ i' → i' ≤ i + 3 → 0 ≤ g' → Keep t H H' → p ≠ t → H' p = some (.lst (xs.map V.str)) → Till H' t c cells i' g' → Q (.ref p) H'
section
variable {P : Program} {w : World} {K : PySem.W.Frag} {mg : Str → Option Value} {base : Heap}
theorem scTg : FnScope ["_law_reel_here", "_law_many", "_law_pool", "_law_begin", "_law_found"] ["_law_reel_here", "_law_many"] (defScope (top 52)) := ⟨rfl, rfl, rfl, by decide +kernel, rfl, by decide +kernel, by decide +kernel⟩
theorem ok_things {f fT fO : Addr} {fd fdT fdO : FuncData} (F : FnP K "_law_things" (top 52) f fd) (GT : FnOk P w K mg base CX0 1 fT fdT ["_law_reel_here", "_law_many"] spCoin) (bT : Binds K fdT ["_law_reel_here", "_law_many"] []) (kT : PySem.W.keepIn K (.ref fT) = true) (gT : mg "_law_turn" = some (.ref fT))
    (GO : FnOk P w K mg base CX0 2 fO fdO ["_law_reel_here", "_law_some"] spOf) (bO : Binds K fdO ["_law_reel_here", "_law_some"] []) (kO : PySem.W.keepIn K (.ref fO) = true) (gO : mg "_law_pick" = some (.ref fO)) :
    FnOk P w K mg base CX0 3 f fd ["_law_reel_here", "_law_many"] spThs := by
  refine F.ok scTg (fun vs H Q E h => ?_) (fun cdv A outer s H vs Q E hr h => ?_)
  · obtain ⟨t, c, cells, i, g, m, rfl, _⟩ := h
    rfl
  · obtain ⟨t, c, cells, i, g, m, rfl, m0, m4, hT, hi0, hi1, hg, k⟩ := h
    have hr2 : Room 2 _ := hr
    refine ⟨_, PSs.nox (pss_cons (ps_set (i := 2) scTg.nd rfl (.inl rfl) (pe_call GO hr2 rfl gO kO bO .nil pass0 (pa_cons (pv 0) (pa_cons (pe_lst (pa_cons (pe_lst (pa_cons pe_str (pa_cons pe_str (pa_cons pe_str (pa_cons pe_str pa_nil))))) (pa_cons (pe_lst (pa_cons pe_str (pa_cons pe_str (pa_cons pe_str (pa_cons pe_str pa_nil))))) (pa_cons (pe_lst (pa_cons pe_str (pa_cons pe_str (pa_cons pe_str (pa_cons pe_str pa_nil))))) pa_nil)))) pa_nil))))
      (pss_cons (ps_set (i := 3) scTg.nd rfl (.inl rfl) (pe_call GT (hr2.mono (by decide)) rfl gT kT bT .nil pass0 (pa_cons (pv 0) (pa_cons pe_int pa_nil))))
      (pss_cons (ps_set (i := 4) scTg.nd rfl (.inl rfl) (pe_slice sl_list (pe_op op_cat (pe_slice sl_list (pv 2) (po_some (pv 3)) po_none) (pe_slice sl_list (pv 2) po_none (po_some (pv 3)))) po_none (po_some (pv 1))))
      (pss_one (ps_ret (pe_ifExp (pt_cmpR op_eq (pe_call GT (hr2.mono (by decide)) rfl gT kT bT .nil pass0 (pa_cons (pv 0) (pa_cons pe_int pa_nil))) pe_int (nomark _)) (pe_revL (pv 4)) (pv 4))))))), ?_⟩
    have z4 : (4 : Nat) ≤ sizeLine := by rw [sizeLine_eq]; decide
    have z3 : (3 : Nat) ≤ sizeLine := by rw [sizeLine_eq]; decide
    refine ⟨_, rfl, z4, fun p1 n1 => ?_⟩
    have s1 : Same H (upd H p1 (.lst [.str "a", .str "b", .str "c", .str "d"])) := same_upd n1
    have e1 : (upd H p1 (.lst [.str "a", .str "b", .str "c", .str "d"])) p1 = some (.lst (([ "a", "b", "c", "d"] : List Str).map V.str)) := upd_same
    generalize (upd H p1 (.lst [.str "a", .str "b", .str "c", .str "d"])) = H1 at s1 e1 ⊢
    refine ⟨z4, fun p2 n2 => ?_⟩
    have s2 : Same H1 (upd H1 p2 (.lst [.str "b9", .str "a", .str "aa", .str "z"])) := same_upd n2
    have e2 : (upd H1 p2 (.lst [.str "b9", .str "a", .str "aa", .str "z"])) p2 = some (.lst (([ "b9", "a", "aa", "z"] : List Str).map V.str)) := upd_same
    generalize (upd H1 p2 (.lst [.str "b9", .str "a", .str "aa", .str "z"])) = H2 at s2 e2 ⊢
    refine ⟨z4, fun p3 n3 => ?_⟩
    have s3 : Same H2 (upd H2 p3 (.lst [.str "x", .str "less", .str "ab", .str "abcdefghij12"])) := same_upd n3
    have e3 : (upd H2 p3 (.lst [.str "x", .str "less", .str "ab", .str "abcdefghij12"])) p3 = some (.lst (([ "x", "less", "ab", "abcdefghij12"] : List Str).map V.str)) := upd_same
    generalize (upd H2 p3 (.lst [.str "x", .str "less", .str "ab", .str "abcdefghij12"])) = H3 at s3 e3 ⊢
    refine ⟨z3, fun p4 n4 => ?_⟩
    have s4 : Same H3 (upd H3 p4 (.lst [.ref p1, .ref p2, .ref p3])) := same_upd n4
    have e4 : (upd H3 p4 (.lst [.ref p1, .ref p2, .ref p3])) p4 = some (.lst [.ref p1, .ref p2, .ref p3]) := upd_same
    have hT3 := ((hT.same s1).same s2).same s3
    have n4t : p4 ≠ t := hT3.off n4
    generalize (upd H3 p4 (.lst [.ref p1, .ref p2, .ref p3])) = H4 at s4 e4 ⊢
    have hT4 := hT3.same s4
    refine ⟨t, c, p4, cells, i, g, _, rfl, hT4, hi0, by omega, hg, n4t, e4, (by show (0 : Nat) < 3; decide), (by show (3 : Nat) ≤ 10000; decide), fun v i1 g1 H5 hv j0 j1 k0 kp hT5 => ?_⟩
    have kp0 : Keep t H H5 := ((((Keep.refl.same s1).same s2).same s3).same s4).trans kp
    obtain ⟨q, xs, rfl, mx, hq⟩ : ∃ q xs, v = .ref q ∧ xs ∈ pools ∧ H5 q = some (.lst (xs.map V.str)) := by
      simp only [List.mem_cons, List.not_mem_nil, or_false] at hv
      have a1 := s4 _ _ (s3 _ _ (s2 _ _ e1))
      have a2 := s4 _ _ (s3 _ _ e2)
      have a3 := s4 _ _ e3
      have nt : ∀ {p : Addr} {xs : List V}, H4 p = some (.lst (xs)) → (∀ x : Addr, V.ref x ≠ xs.getD 0 .non) → p ≠ t := fun {p xs} e ne z => by
        rw [z, hT4.ht] at e
        injection e with e
        injection e with e
        subst e
        exact ne c rfl
      rcases hv with rfl | rfl | rfl
      · exact ⟨p1, _, rfl, by unfold pools; simp, kp _ _ (nt a1 (fun x z => by cases z)) a1⟩
      · exact ⟨p2, _, rfl, by unfold pools; simp, kp _ _ (nt a2 (fun x z => by cases z)) a2⟩
      · exact ⟨p3, _, rfl, by unfold pools; simp, kp _ _ (nt a3 (fun x z => by cases z)) a3⟩
    dsimp only [tNext, tSeq, tAsg, gName]
    refine ⟨_, rfl, t, c, cells, i1, g1, 4, rfl, hT5, j0, by omega, k0, by decide, by decide, fun r i2 g2 H6 r0 r1 j2 j3 k2 kp2 hT6 => ?_⟩
    have qt : q ≠ t := fun z => by
      rw [z, hT5.ht] at hq
      injection hq with hq
      injection hq with hq
      cases xs with
      | nil => cases hq
      | cons a l => injection hq with hq _; cases hq
    have hq6 := kp2 _ _ qt hq
    obtain ⟨b, rfl⟩ : ∃ b : Nat, r = b := ⟨r.toNat, by omega⟩
    obtain ⟨mm, rfl⟩ : ∃ mm : Nat, m = mm := ⟨m.toNat, by omega⟩
    have lx := (pools_ok xs mx).2.1
    have ok := rot_ok mx b mm (by omega)
    dsimp only [tNext, tSeq, tAsg, gName]
    refine ⟨_, rfl, _, rfl, _, rfl, q, _, rfl, SqL.of hq6, fun d1 m1 => ?_⟩
    rw [cut_from b (by rw [List.length_map]; omega), ← List.map_drop]
    have u1 : Same H6 (upd H6 d1 (.lst ((xs.drop b).map V.str))) := same_upd m1
    have f1 : (upd H6 d1 (.lst ((xs.drop b).map V.str))) d1 = some (.lst ((xs.drop b).map V.str)) := upd_same
    generalize (upd H6 d1 (.lst ((xs.drop b).map V.str))) = H7 at u1 f1 ⊢
    refine ⟨_, rfl, _, rfl, _, rfl, q, _, rfl, SqL.of (u1 _ _ hq6), fun d2 m2 => ?_⟩
    rw [cut_to, ← List.map_take]
    have u2 : Same H7 (upd H7 d2 (.lst ((xs.take b).map V.str))) := same_upd m2
    have f2 : (upd H7 d2 (.lst ((xs.take b).map V.str))) d2 = some (.lst ((xs.take b).map V.str)) := upd_same
    generalize (upd H7 d2 (.lst ((xs.take b).map V.str))) = H8 at u2 f2 ⊢
    refine ⟨d1, d2, _, _, rfl, rfl, u2 _ _ f1, f2, ?_, fun d3 m3 => ?_⟩
    · rw [List.length_map, List.length_map, List.length_drop, List.length_take, sizeLine_eq]; omega
    rw [← List.map_append]
    have u3 : Same H8 (upd H8 d3 (.lst ((xs.drop b ++ xs.take b).map V.str))) := same_upd m3
    have f3 : (upd H8 d3 (.lst ((xs.drop b ++ xs.take b).map V.str))) d3 = some (.lst ((xs.drop b ++ xs.take b).map V.str)) := upd_same
    generalize (upd H8 d3 (.lst ((xs.drop b ++ xs.take b).map V.str))) = H9 at u3 f3 ⊢
    refine ⟨_, rfl, _, rfl, d3, _, rfl, SqL.of f3, fun d4 m4' => ?_⟩
    rw [cut_to, ← List.map_take]
    generalize (xs.drop b ++ xs.take b).take mm = ys at ok ⊢
    have u4 : Same H9 (upd H9 d4 (.lst (ys.map V.str))) := same_upd m4'
    have f4 : (upd H9 d4 (.lst (ys.map V.str))) d4 = some (.lst (ys.map V.str)) := upd_same
    have ta : Till H9 t c cells i2 g2 := ((hT6.same u1).same u2).same u3
    have d4t : d4 ≠ t := ta.off m4'
    generalize (upd H9 d4 (.lst (ys.map V.str))) = HA at u4 f4 ⊢
    have tA := ta.same u4
    have kA : Keep t H HA := ((((kp0.trans kp2).same u1).same u2).same u3).same u4
    refine ⟨_, rfl, t, c, cells, i2, g2, 2, rfl, tA, j2, by omega, k2, by decide, by decide, fun r' i3 g3 HB r0' r1' j4 j5 k3 kp3 hTB => ?_⟩
    have fB := kp3 _ _ d4t f4
    refine ⟨rfl, _, rfl, ite2 (fun c2 => ?_) (fun c2 => ?_)⟩
    · refine ⟨_, rfl, d4, _, rfl, SqL.of fB, fun d5 m5 => ?_⟩
      have d5t := hTB.off m5
      rw [← List.map_reverse]
      exact k d5 ys.reverse i3 g3 _ ok.reverse j4 (by omega) k3 ((kA.trans kp3).same (same_upd m5)) d5t upd_same (hTB.same (same_upd m5))
    · exact ⟨_, rfl, k d4 ys i3 g3 HB ok j4 (by omega) k3 (kA.trans kp3) d4t fB hTB⟩
end
end K05
namespace K05
open PySem PySem.Spec PyProof.Rows L2 RatM ClX
/-- what a text of a plain balance asks of its numbers -/
def TxOk (g : Str → Int × Int) (ks : List Str) : Prop := ∀ n ∈ ks, Sz (g n).1 ∧ Sz (g n).2 ∧ n.length ≤ 1000 ∧ (textR (g n).1 (g n).2).length ≤ 1000
def spTold : Sp := fun vs H Q _ => ∃ (d : Addr) (kvs : List (Key × V)) (ks : List Str) (g : Str → Int × Int), vs = [.ref d] ∧ H d = some (.dK kvs) ∧ PlD H g kvs ks ∧ ks.length ≤ 60 ∧ TxOk g ks ∧
  ∀ ys H', Same H H' → ys.Perm (nz g ks) → sortedS ys = true → Q (.str (balT g ys)) H'
theorem eqv_one (x : Int × Int) : PyData.eqv (.tuple [.int x.1, .int x.2]) (.tuple [.int 1, .int 1]) = (decide (x.2 = 1) && decide (x.1 = 1)) := by
  rw [eqv_pair, Bool.and_comm]
theorem pair_plain (p q : Int) : PyData.plain (.tuple [.int p, .int q]) = true := rfl
section
variable {P : Program} {w : World} {K : PySem.W.Frag} {mg : Str → Option Value} {base : Heap}
theorem scTo : FnScope ["_law_plain", "_law_words", "_law_thing"] ["_law_plain"] (defScope (top 55)) := ⟨rfl, rfl, rfl, by decide +kernel, rfl, by decide +kernel, by decide +kernel⟩
theorem ok_told {f fN fX : Addr} {fd fdN fdX : FuncData} (F : FnP K "_law_told" (top 55) f fd)
    (GN : FnOk P w K mg base CX0 1 fN fdN ["_law_plain"] spNamed) (bN : Binds K fdN ["_law_plain"] []) (kN : PySem.W.keepIn K (.ref fN) = true) (gN : mg "_law_named" = some (.ref fN))
    (GX : FnOk P w K mg base CX0 1 fX fdX ["_law_pair"] (spTx K)) (bX : Binds K fdX ["_law_pair"] []) (kX : PySem.W.keepIn K (.ref fX) = true) (gX : mg "_law_text" = some (.ref fX)) :
    FnOk P w K mg base CX0 2 f fd ["_law_plain"] spTold := by
  refine F.ok scTo (fun vs H Q E h => ?_) (fun cdv A outer s H vs Q E hr h => ?_)
  · obtain ⟨d, kvs, ks, g, rfl, _⟩ := h
    rfl
  · obtain ⟨d, kvs, ks, g, rfl, hd, hp, lk, tx, k⟩ := h
    have hr1 : Room 1 _ := hr
    have hu1 : (A.deeper (envOfC (Str.ofString "_law_told") (defScope (top 55)) s.heap.objs.size f cdv)).units + 64 < cLine := by have := hr1.units; omega
    refine ⟨_, PSs.nox (pss_cons (ps_setLc (i := 1) (own := [("_law_thing", 2)]) (g := gName 2) (tt := tYes)
        (te := tIf (tOp (rEqP K id) (tDGet (tVar 0) (tVar 2)) (tTup (tCons (tC (.int 1)) (tCons (tC (.int 1)) tNil))) |> fun t σ H Q => t σ H fun x H1 => ∃ k, x = .bl k ∧ Q k H1) (tVar 2)
          (tOp (fun x y H Q => ∃ i j, x = .str i ∧ y = .str j ∧ i.length + j.length ≤ sizeLine ∧ Q (.str (i ++ j)) H) (tOp (fun x y H Q => ∃ i j, x = .str i ∧ y = .str j ∧ i.length + j.length ≤ sizeLine ∧ Q (.str (i ++ j)) H) (tCall (spTx K) [] E0 (tCons (tDGet (tVar 0) (tVar 2)) tNil)) (tC (.str " "))) (tVar 2)))
        rfl scTo.nd rfl rfl (sw_true rfl rfl rfl (by decide +kernel)) (pi_list (pe_call GN (by exact hr1) rfl gN kN bN .nil pass0 (pa_cons (pv 0) pa_nil))) (blkOk_by (N := ["_law_plain", "_law_words", "_law_thing"]) (sc := defScope (top 55)) (by decide +kernel))
        (fun _ _ _ _ _ => pg_name (i := 2) scTo.nd rfl (Or.inl rfl)) (fun _ _ _ _ _ => pts_nil)
        (fun _ _ _ _ _ => pe_ifExp (pt_cmpR (op_eqP (by exact hu1)) (pe_dget (by exact Nat.lt_of_le_of_lt (Nat.add_le_add_left (by decide) _) hu1) (pv 0) (pv 2) (fun _ _ => rfl)) (pe_tup (pa_cons pe_int (pa_cons pe_int pa_nil))) (nomark _)) (pv 2)
          (pe_op op_add_str (pe_op op_add_str (pe_call GX (by exact hr1) rfl gX kX bX .nil pass0 (pa_cons (pe_dget (by exact Nat.lt_of_le_of_lt (Nat.add_le_add_left (by decide) _) hu1) (pv 0) (pv 2) (fun _ _ => rfl)) pa_nil)) pe_str) (pv 2))))
      (pss_one (ps_ret (pe_ifExp (pt_cmpR (op_neP hu1) (pv 1) (pe_lst pa_nil) (nomark _)) (pe_join pe_str (pv 1)) pe_str)))), ?_⟩
    refine ⟨_, rfl, d, kvs, ks, g, rfl, hd, hp, lk, fun p ys H1 s1 py sy n1 e1 => ?_⟩
    refine ⟨p, rfl, ⟨_, SqL.of e1⟩, fun D nD => ?_⟩
    have lys : ys.length ≤ 60 := by
      rw [py.length_eq]
      exact Nat.le_trans (List.length_filter_le _ _) lk
    refine lc_it (walk_list (xs := ys.map V.str)) (fun i Hx => Same H1 Hx ∧ Hx D = some (.lst (((ys.take i).map fun n => termT n (g n)).map V.str))) ⟨same_upd nD, upd_same⟩ (fun i Hx _ hP => SqL.of (hP.1 _ _ e1)) (fun i x Hx Hx' hi hP hy => ?_) (fun Hx hP => ?_)
    · obtain ⟨rfl, ex⟩ := hy
      obtain ⟨s2, hD⟩ := hP
      rw [List.getElem?_map] at ex
      obtain ⟨n, en, rfl⟩ := Option.map_eq_some_iff.mp ex
      have mn : n ∈ ks := (List.mem_filter.mp (py.mem_iff.mp (List.mem_of_getElem? en))).1
      obtain ⟨z1, z2, z3, z4⟩ := tx n mn
      have s3 := s1.trans s2
      obtain ⟨o, ev, ho⟩ := (hp.same s3).val mn
      have dg : ∀ {Hy : Hp}, Same Hx' Hy → DGet Hy d (kV (.inr n)) (some (.ref o)) := fun {Hy} sy => by
        have z : DGet Hy d (kV (.inr n)) (valV kvs (.inr n)) := DGet.k (sy _ _ (s3 _ _ hd))
        rw [ev] at z
        exact z
      have fin : ∀ Hy : Hp, Same Hx' Hy → ∃ acc, Hy D = some (.lst acc) ∧ acc.length < sizeLine ∧ Same H1 (upd Hy D (.lst (acc ++ [.str (termT n (g n))]))) ∧ (upd Hy D (.lst (acc ++ [.str (termT n (g n))]))) D = some (.lst (((ys.take (i + 1)).map fun n => termT n (g n)).map V.str)) := fun Hy sy => by
        refine ⟨_, sy _ _ hD, ?_, fun c o e => ?_, ?_⟩
        · have f2 := List.length_take (i := i) (l := ys)
          simp only [List.length_map]
          rw [sizeLine_eq]; omega
        · rw [upd_ne (ne_of_none e nD)]; exact sy _ _ (s2 _ _ e)
        · rw [upd_same, List.take_add_one, en]
          simp
      refine ⟨rfl, yesI ?_⟩
      refine ⟨_, rfl, _, rfl, d, .ref o, rfl, dg (Same.refl _), ⟨by rw [sizeLine_eq]; decide, fun q nq => ?_⟩⟩
      have sq : Same Hx' (upd Hx' q (.tup [.int 1, .int 1])) := same_upd nq
      refine ⟨.tuple [.int (g n).1, .int (g n).2], .tuple [.int 1, .int 1], dp_pair (SqT.of (sq _ _ ho)), dp_pair (SqT.of upd_same), rfl, rfl, Nat.le_trans (Nat.min_le_right _ _) (by decide), _, congrArg V.bl (eqv_one (g n)), ite2 (fun c => ?_) (fun c => ?_)⟩
      · have := fin _ sq
        rw [show termT n (g n) = n from if_pos c] at this
        exact ⟨_, rfl, this⟩
      · have := fin _ sq
        rw [show termT n (g n) = (textR (g n).1 (g n).2 ++ " ") ++ n by rw [← empty_app (textR (g n).1 (g n).2)]; exact if_neg c] at this
        have e3 : (Str.ofString " " : Str).length = 1 := rfl
        exact ⟨_, rfl, _, rfl, d, .ref o, rfl, dg sq, o, _, _, rfl, SqT.of (sq _ _ ho), z1, z2, _, _, rfl, rfl, by rw [sizeLine_eq]; omega, _, rfl, _, _, rfl, rfl, by rw [strLen_append, sizeLine_eq]; omega, this⟩
    · obtain ⟨s2, hD⟩ := hP
      rw [List.length_map, List.take_length] at hD
      dsimp only [gName]
      refine ⟨_, rfl, ⟨by rw [sizeLine_eq]; exact Nat.zero_le _, fun q nq => ?_⟩⟩
      have sq : Same Hx (upd Hx q (.lst [])) := same_upd nq
      have k' := fun H' sx => k ys H' ((s1.trans s2).trans sx) py sy
      unfold balT at k'
      refine ⟨.list ((ys.map fun n => termT n (g n)).map .str), .list [], .lst (SqL.of (sq _ _ hD)) (dp_strs _), .lst (SqL.of upd_same) .nil, ?_, rfl, ?_, !decide (ys = []), congrArg V.bl ?_, ite2 (fun c => ?_) (fun c => ?_)⟩
      · simp only [PyData.plain]
        exact plain_strs _
      · exact Nat.le_trans (Nat.min_le_right _ _) (by decide)
      · rw [eqv_strs_nil]
        cases ys <;> rfl
      · have z0 : ¬ ys.length = 0 := fun z => by rw [List.length_eq_zero_iff.mp z] at c; exact absurd c (by decide)
        have k2 := k' _ sq
        rw [if_neg z0] at k2
        refine ⟨⟨_, rfl⟩, _, rfl, " + ", D, ys.map fun n => termT n (g n), rfl, rfl, .inl (SqL.of (sq _ _ hD)), ?_, k2⟩
        have sl := sum_le (f := fun n => (termT n (g n)).length) (B := 2001) ys fun n m => by
          obtain ⟨_, _, z3, z4⟩ := tx n (List.mem_filter.mp (py.mem_iff.mp m)).1
          exact termT_len z3 z4
        rw [List.map_map, List.length_map]
        have e3 : (" + " : Str).length = 3 := rfl
        rw [e3]
        have : (ys.map ((fun x : Str => x.length) ∘ fun n => termT n (g n))).sum ≤ ys.length * 2001 := sl
        have m1 : ys.length * 2001 ≤ 60 * 2001 := Nat.mul_le_mul_right _ lys
        omega
      · have z0 : ys = [] := by
          cases e : decide (ys = []) with
          | true => exact of_decide_eq_true e
          | false => rw [e] at c; exact absurd rfl c
        have k2 := k' _ sq
        rw [z0] at k2
        exact k2
end
end K05
namespace K05
open PySem PySem.Spec PyProof.Rows L2 RatM ClX
/-- what the law's defs rest on -/
structure LwK (P : Program) (w : World) (K : PySem.W.Frag) (mg : Str → Option Value) (base : Heap) (CB C BR : Addr) : Prop where
  O : OpsK P w K mg base CB C BR
  tyB : ∀ (H : Hp) (a : Addr) g zs, BalAt H a CB C g zs → TyX K H (.ref a) (.ref CB)
  cc : PySem.W.kitOne K (.ref CB) (.ref CB) = some true
  T : Blt mg
  tup : mg "tuple" = none
  str : mg "str" = none
  dict : mg "dict" = none
  list : mg "list" = none
  strB : ∃ (f : Addr) (fd : FuncData), OwnM K CB "__str__" f ∧ FnOk P w K mg base CX0 7 f fd ["self"] (spBalT CB C) ∧ Binds K fd ["self"] []
theorem RatAt.upd_l {H : Hp} {C a : Addr} {p q : Int} {o : HO} {D : Addr} {xs : List V} (h : RatAt H a C p q) (hd : H D = some (.lst xs)) : RatAt (upd H D o) a C p q := by
  obtain ⟨dx, e⟩ := h
  exact ⟨dx, (upd_ne fun z => by rw [z, hd] at e; cases e).trans e⟩
/-- fractions in a list, in order -/
abbrev TsP (H : Hp) (g : Str → Int × Int) : List Addr → List Str → Prop := Paired fun t n => H t = some (.tup (tupF (g n)))
theorem TsP.same {H H' : Hp} {g : Str → Int × Int} {ts : List Addr} {ks : List Str} (h : TsP H g ts ks) (s : Same H H') : TsP H' g ts ks := Paired.mono' (fun _ _ e => s _ _ e) h
theorem dp_ts {K : PySem.W.Frag} {H : Hp} {g : Str → Int × Int} {ts : List Addr} {ks : List Str} (h : TsP H g ts ks) : DpAll K H (ts.map V.ref) (ks.map fun n => PyData.tuple [.int (g n).1, .int (g n).2]) := by
  induction h with
  | nil => exact .nil
  | cons x _ ih => exact .cons (dp_pair (SqT.of x)) ih
theorem plain_ts (g : Str → Int × Int) : ∀ ks : List Str, PyData.plainAll (ks.map fun n => PyData.tuple [.int (g n).1, .int (g n).2]) = true
  | [] => rfl
  | n :: t => by
    have := plain_ts g t
    simp only [List.map_cons, PyData.plainAll, PyData.plain, this, Bool.and_self]
theorem deep_ts (g : Str → Int × Int) : ∀ ks : List Str, PyData.depthAll (ks.map fun n => PyData.tuple [.int (g n).1, .int (g n).2]) ≤ 1
  | [] => Nat.zero_le _
  | n :: t => by
    have := deep_ts g t
    simp only [List.map_cons, PyData.depthAll, PyData.depth]
    omega
abbrev RsP (H : Hp) (C : Addr) (g : Str → Int × Int) : List Addr → List Str → Prop := Paired fun t n => RatAt H t C (g n).1 (g n).2
theorem RsP.same {H H' : Hp} {C : Addr} {g : Str → Int × Int} {ts : List Addr} {ks : List Str} (h : RsP H C g ts ks) (s : Same H H') : RsP H' C g ts ks := Paired.mono' (fun _ _ e => e.same s) h
def spIsAs (CB C : Addr) : Sp := fun vs H Q _ => ∃ (a d : Addr) (kvs : List (Key × V)) (ks zs : List Str) (g g2 : Str → Int × Int), vs = [.ref a, .ref d] ∧ H d = some (.dK kvs) ∧ PlD H g kvs ks ∧ ks.length ≤ 60 ∧ TxOk g ks ∧
  BalAt H a CB C g2 zs ∧ BalOk g2 zs ∧ zs.Perm (nz g ks) ∧ (∀ n ∈ zs, g2 n = g n) ∧ (∀ n ∈ zs, 0 < (g n).2 ∧ Int.gcd (g n).1 (g n).2 = 1) ∧ ∀ H', Same H H' → Q (.bl true) H'
theorem balT_congr {g g2 : Str → Int × Int} {zs : List Str} (e : ∀ n ∈ zs, g2 n = g n) : balT g2 zs = balT g zs := by
  unfold balT
  have : (zs.map fun n => termT n (g2 n)) = zs.map fun n => termT n (g n) := List.map_congr_left fun n m => by rw [e n m]
  rw [this]
section
variable {P : Program} {w : World} {K : PySem.W.Frag} {mg : Str → Option Value} {base : Heap} {C BR CB BB : Addr}
abbrev nsIa : List Str := ["_law_balance", "_law_plain", "_law_names_here", "_law_numbers", "_law_thing", "_law_one"]
theorem scIa : FnScope nsIa ["_law_balance", "_law_plain"] (defScope (top 57)) := ⟨rfl, rfl, rfl, by decide +kernel, rfl, by decide +kernel, by decide +kernel⟩
theorem ok_isAs {f fN fT : Addr} {fd fdN fdT : FuncData} (F : FnP K "_law_is_as" (top 57) f fd) (L : LwK P w K mg base CB C BR)
    (GN : FnOk P w K mg base CX0 1 fN fdN ["_law_plain"] spNamed) (bN : Binds K fdN ["_law_plain"] []) (kN : PySem.W.keepIn K (.ref fN) = true) (gN : mg "_law_named" = some (.ref fN))
    (GT : FnOk P w K mg base CX0 2 fT fdT ["_law_plain"] spTold) (bT : Binds K fdT ["_law_plain"] []) (kT : PySem.W.keepIn K (.ref fT) = true) (gT : mg "_law_told" = some (.ref fT)) :
    FnOk P w K mg base CX0 10 f fd ["_law_balance", "_law_plain"] (spIsAs CB C) := by
  obtain ⟨fM, fdM, MN, GM, bM⟩ := L.O.num
  obtain ⟨fS, fdS, MS, GS, bS⟩ := L.strB
  have B := L.O.B
  have R := L.O.R
  refine F.ok scIa (fun vs H Q E h => ?_) (fun cdv A outer s H vs Q E hr h => ?_)
  · obtain ⟨a, d, kvs, ks, zs, g, g2, rfl, _⟩ := h
    rfl
  · obtain ⟨a, d, kvs, ks, zs, g, g2, rfl, hd, hp, lk, tx, hb, ok, pz, e2, lo, k⟩ := h
    have hr9 : Room 9 _ := hr
    have hu1 : (A.deeper (envOfC (Str.ofString "_law_is_as") (defScope (top 57)) s.heap.objs.size f cdv)).units + 64 < cLine := by have := hr9.units; omega
    refine ⟨_, PSs.nox (pss_cons (ps_set (i := 2) scIa.nd rfl (.inl rfl) (pe_call GN (hr9.mono (by decide)) rfl gN kN bN .nil pass0 (pa_cons (pv 1) pa_nil)))
      (pss_cons (ps_if (PW.pt (pw_or (pt_not (pt_val (pe_callB call_isi (by rfl) R.bi (by decide +kernel) (pa_cons (pv 0) (pa_cons (pe_glob (v := .ref _) rfl B.g rfl) pa_nil)))))
          (pw_or (pt_cmpR (op_neP hu1) (pe_fld (pv 0) rfl) (pe_callTy call_tuple_of (by rfl) L.tup PyProof.Rows.boot_tuple (pa_cons (pv 2) pa_nil)) (nomark _))
          (pw_or1 (pt_cmpR op_ne (pe_fld (pv 0) rfl) (pe_cmpR (op_eqP hu1) (pv 2) (pe_lst pa_nil) (nomark _)) (nomark _)))))) (pss_one (ps_ret pe_bl)) pss_nil)
      (pss_cons (ps_setLc (i := 3) (own := [("_law_thing", 4)]) (g := gName 4) (tt := tYes) (te := tMeth CB "number_of" (spNum CB C) [] E0 (tVar 0) (tCons (tVar 4) tNil)) rfl scIa.nd rfl rfl (sw_true rfl rfl rfl (by decide +kernel)) (pi_list (pv 2)) (blkOk_by (N := nsIa) (sc := defScope (top 57)) (by decide +kernel))
        (fun _ _ _ _ _ => pg_name (i := 4) scIa.nd rfl (Or.inl rfl)) (fun _ _ _ _ _ => pts_nil) (fun _ _ _ _ _ => pe_meth (pv 0) B.T.cls MN GM (by exact hr9.mono (by decide)) bM .nil (E := E0) pass0 (pa_cons (pv 4) pa_nil)))
      (pss_cons (ps_if (pt_cmpR (op_neP hu1) (pe_lc (own := [("_law_one", 5)]) (g := gName 5) (tt := tNot (tB (tCB (rIsi K) (tCons (tVar 5) (tCons (tC (.ref C)) tNil))))) (te := tVar 5) rfl scIa.nd (pi_list (pv 3)) (blkOk_by (N := nsIa) (sc := defScope (top 57)) (by decide +kernel))
        (fun _ _ _ _ _ => pg_name (i := 5) scIa.nd rfl (Or.inl rfl)) (fun _ _ _ _ _ => pts_one (pt_not (pt_val (pe_callB call_isi (by rfl) R.bi (by decide +kernel) (pa_cons (pv 5) (pa_cons (pe_glob (v := .ref _) rfl R.g rfl) pa_nil)))))) (fun _ _ _ _ _ => pv 5)) (pe_lst pa_nil) (nomark _)) (pss_one (ps_ret pe_bl)) pss_nil)
      (pss_one (ps_ret (pe_and (pe_cmpR (op_eqP hu1)
        (pe_lc (own := [("_law_one", 5)]) (g := gName 5) (tt := tYes) (te := tTup (tCons (tFld K (tVar 5) "top") (tCons (tFld K (tVar 5) "bottom") tNil))) rfl scIa.nd (pi_list (pv 3)) (blkOk_by (N := nsIa) (sc := defScope (top 57)) (by decide +kernel))
          (fun _ _ _ _ _ => pg_name (i := 5) scIa.nd rfl (Or.inl rfl)) (fun _ _ _ _ _ => pts_nil) (fun _ _ _ _ _ => pe_tup (pa_cons (pe_fld (pv 5) rfl) (pa_cons (pe_fld (pv 5) rfl) pa_nil))))
        (pe_lc (own := [("_law_thing", 4)]) (g := gName 4) (tt := tYes) (te := tDGet (tVar 1) (tVar 4)) rfl scIa.nd (pi_list (pv 2)) (blkOk_by (N := nsIa) (sc := defScope (top 57)) (by decide +kernel))
          (fun _ _ _ _ _ => pg_name (i := 4) scIa.nd rfl (Or.inl rfl)) (fun _ _ _ _ _ => pts_nil) (fun _ _ _ _ _ => pe_dget (by exact Nat.lt_of_le_of_lt (Nat.add_le_add_left (by decide) _) hu1) (pv 1) (pv 4) (fun _ _ => rfl))) (nomark _))
        (pe_one (pe_cmpR op_eq (pe_callTy (call_ownStr MS GS (by exact hr9) bS (E := E0) pass0) (by rfl) L.str PyProof.Rows.boot_str (pa_cons (pv 0) pa_nil)) (pe_call GT (hr9.mono (by decide)) rfl gT kT bT .nil pass0 (pa_cons (pv 1) pa_nil)) (nomark _)))))))))), ?_⟩
    refine ⟨_, rfl, d, kvs, ks, g, rfl, hd, hp, lk, fun p ys H1 s1 py sy n1 e1 => ?_⟩
    obtain rfl : ys = zs := sorted_unique sy ok.so (py.trans pz.symm)
    have nT := B.T.no "things" (by simp)
    have nI := B.T.no "is_nothing" (by simp)
    have hb1 := hb.same s1
    obtain ⟨dx, nd, tp, kt, ha, bi⟩ := id hb1
    obtain ⟨hnd, htp, hkt⟩ := id bi
    have lz : ys.length ≤ 60 := ok.ns.le
    have mk : ∀ n ∈ ys, n ∈ ks := fun n m => (List.mem_filter.mp (pz.mem_iff.mp m)).1
    dsimp only [tNext, tSeq, tAsg, gName]
    refine ⟨_, rfl, _, _, _, _, _, rfl, .own CB, L.tyB _ _ _ _ hb1, L.cc, true, rfl, iteF ?_⟩
    refine ⟨_, rfl, a, CB, dx, _, _, rfl, ha, B.T.cls, nT, rfl, _, rfl, p, _, rfl, .inl ⟨SqL.of e1, fun q nq => ?_⟩⟩
    have sq : Same H1 (upd H1 q (.tup (ys.map V.str))) := same_upd nq
    have eq1 : (upd H1 q (.tup (ys.map V.str))) q = some (.tup (ys.map V.str)) := upd_same
    generalize (upd H1 q (.tup (ys.map V.str))) = H2 at sq eq1 ⊢
    have pl : PyData.plain (.tuple (ys.map PyData.str)) = true := by simp only [PyData.plain]; exact plain_strs _
    have dl : PyData.depth (.tuple (ys.map PyData.str)) ≤ 60 := by simp only [PyData.depth, deep_strs]; decide
    refine ⟨.tuple (ys.map .str), .tuple (ys.map .str), .tup (SqT.of (sq _ _ htp)) (dp_strs _), .tup (SqT.of eq1) (dp_strs _), pl, pl, Nat.le_trans (Nat.min_le_left _ _) dl, false, congrArg V.bl (by rw [SeqAt.eqv_refl_plain _ pl]; rfl), iteF ?_⟩
    refine ⟨_, rfl, a, CB, dx, _, _, rfl, sq _ _ ha, B.T.cls, nI, rfl, _, rfl, by rw [sizeLine_eq]; exact Nat.zero_le _, fun q2 nq2 => ?_⟩
    have sq2 : Same H2 (upd H2 q2 (.lst [])) := same_upd nq2
    have eq2 : (upd H2 q2 (.lst [])) q2 = some (.lst []) := upd_same
    generalize (upd H2 q2 (.lst [])) = H3 at sq2 eq2 ⊢
    refine ⟨.list (ys.map .str), .list [], .lst (SqL.of (sq2 _ _ (sq _ _ e1))) (dp_strs _), .lst (SqL.of eq2) .nil, by simp only [PyData.plain]; exact plain_strs _, rfl, Nat.le_trans (Nat.min_le_right _ _) (by decide), rfl, false, congrArg V.bl ?_, ?_⟩
    · rw [eqv_strs_nil]
      cases ys with
      | nil => rfl
      | cons y t =>
        have : ((t.length + 1 : Nat) : Int) ≠ 0 := by omega
        simp [this]
        omega
    dsimp only [tNext, tSeq]
    have s3 : Same H1 H3 := sq.trans sq2
    have hb3 := hb1.same s3
    have e3 := s3 _ _ e1
    refine iteF ?_
    refine ⟨_, rfl, p, rfl, ⟨_, SqL.of e3⟩, fun D nD => ?_⟩
    refine lc_it (walk_list (xs := ys.map V.str)) (fun i Hx => Same H3 Hx ∧ ∃ bs : List Addr, Hx D = some (.lst (bs.map V.ref)) ∧ RsP Hx C g bs (ys.take i)) ⟨same_upd nD, [], upd_same, .nil⟩ (fun i Hx _ hP => SqL.of (hP.1 _ _ e3)) (fun i x Hx Hx' hi hP hy => ?_) (fun H4 hP => ?_)
    · obtain ⟨rfl, ex⟩ := hy
      obtain ⟨s4, bs, hD, hB⟩ := hP
      rw [List.getElem?_map] at ex
      obtain ⟨n, en, rfl⟩ := Option.map_eq_some_iff.mp ex
      have mn := List.mem_of_getElem? en
      have hb4 := hb3.same s4
      obtain ⟨dx4, nd4, tp4, kt4, ha4, _⟩ := id hb4
      refine ⟨rfl, yesI ?_⟩
      refine ⟨_, rfl, a, dx4, _, rfl, ha4, rfl, _, rfl, a, n, g2, ys, rfl, hb4, (ok.ns.nm n mn).1, (ok.ns.nm n mn).2, fun b' H5 s5 h5 => ?_⟩
      rw [show num g2 ys n = g n from (if_pos mn).trans (e2 n mn)] at h5
      refine ⟨_, s5 _ _ hD, ?_, fun c o e => ?_, bs ++ [b'], ?_, ?_⟩
      · have f2 := List.length_take (i := i) (l := ys)
        have f3 := Paired.length hB
        simp only [List.length_map]
        rw [sizeLine_eq]; omega
      · rw [upd_ne (ne_of_none e nD)]; exact s5 _ _ (s4 _ _ e)
      · rw [upd_same, List.map_append]; rfl
      · rw [List.take_add_one, en]
        refine Paired.snoc ?_ ?_
        · exact Paired.mono' (fun _ _ e => RatAt.upd_l (e.same s5) (s5 _ _ hD)) hB
        · exact RatAt.upd_l h5 (s5 _ _ hD)
    · obtain ⟨s4, bs, hD, hB⟩ := hP
      rw [List.length_map, List.take_length] at hB
      have lb := Paired.length hB
      dsimp only [gName]
      refine ⟨_, rfl, D, rfl, ⟨_, SqL.of hD⟩, fun D2 nD2 => ?_⟩
      refine lc_it (walk_list (xs := bs.map V.ref)) (fun i Hx => Same H4 Hx ∧ Hx D2 = some (.lst [])) ⟨same_upd nD2, upd_same⟩ (fun i Hx _ hP => SqL.of (hP.1 _ _ hD)) (fun i x Hx Hx' hi hP hy => ?_) (fun H5 hP => ?_)
      · obtain ⟨rfl, ex⟩ := hy
        rw [List.getElem?_map] at ex
        obtain ⟨b, eb, rfl⟩ := Option.map_eq_some_iff.mp ex
        obtain ⟨n, en, hr⟩ := Paired.at' hB i b eb
        have hr5 := hr.same hP.1
        exact ⟨rfl, _, rfl, _, _, _, _, _, rfl, .own C, hr5.ty R.T R.I, R.I.cc, true, rfl, iteF hP⟩
      · obtain ⟨s5, hD2⟩ := hP
        refine ⟨by rw [sizeLine_eq]; exact Nat.zero_le _, fun q3 nq3 => ?_⟩
        have sq3 : Same H5 (upd H5 q3 (.lst [])) := same_upd nq3
        have eq3 : (upd H5 q3 (.lst [])) q3 = some (.lst []) := upd_same
        generalize (upd H5 q3 (.lst [])) = H6 at sq3 eq3 ⊢
        refine ⟨.list [], .list [], .lst (SqL.of (sq3 _ _ hD2)) .nil, .lst (SqL.of eq3) .nil, rfl, rfl, by decide, false, rfl, iteF ?_⟩
        dsimp only [tNext, tSeq]
        have s6 : Same H4 H6 := s5.trans sq3
        have hD6 := s6 _ _ hD
        have hB6 : RsP H6 C g bs ys := hB.same s6
        refine ⟨_, rfl, D, rfl, ⟨_, SqL.of hD6⟩, fun D3 nD3 => ?_⟩
        refine lc_it (walk_list (xs := bs.map V.ref)) (fun i Hx => Same H6 Hx ∧ ∃ ts : List Addr, Hx D3 = some (.lst (ts.map V.ref)) ∧ TsP Hx g ts (ys.take i)) ⟨same_upd nD3, [], upd_same, .nil⟩ (fun i Hx _ hP => SqL.of (hP.1 _ _ hD6)) (fun i x Hx Hx' hi hP hy => ?_) (fun H7 hP => ?_)
        · obtain ⟨rfl, ex⟩ := hy
          obtain ⟨s7, ts, hD3, hT⟩ := hP
          rw [List.getElem?_map] at ex
          obtain ⟨b, eb, rfl⟩ := Option.map_eq_some_iff.mp ex
          obtain ⟨n, en, hr⟩ := Paired.at' hB6 i b eb
          obtain ⟨dxb, hr7⟩ := hr.same s7
          refine ⟨rfl, yesI ?_⟩
          refine ⟨_, rfl, b, C, dxb, _, _, rfl, hr7, R.T.cls, R.T.no "top" (by simp), rfl, _, rfl, b, C, dxb, _, _, rfl, hr7, R.T.cls, R.T.no "bottom" (by simp), rfl, by rw [sizeLine_eq]; show 2 ≤ 16777216; decide, fun t nt => ?_⟩
          have st : Same Hx' (upd Hx' t (.tup [.int (g n).1, .int (g n).2])) := same_upd nt
          have et : (upd Hx' t (.tup [.int (g n).1, .int (g n).2])) t = some (.tup (tupF (g n))) := upd_same
          refine ⟨_, st _ _ hD3, ?_, fun c o e => ?_, ts ++ [t], ?_, ?_⟩
          · have f2 := List.length_take (i := i) (l := ys)
            have f3 := Paired.length hT
            simp only [List.length_map]
            rw [sizeLine_eq]; omega
          · rw [upd_ne (ne_of_none e nD3)]; exact st _ _ (s7 _ _ e)
          · rw [upd_same, List.map_append]; rfl
          · rw [List.take_add_one, en]
            refine Paired.snoc ?_ ?_
            · exact Paired.mono' (fun _ _ e => (upd_ne fun z => by rw [z, hD3] at e; cases e).trans (st _ _ e)) hT
            · exact (upd_ne fun z => by have nt2 := nt; rw [z, hD3] at nt2; cases nt2).trans et
        · obtain ⟨s7, ts, hD3, hT⟩ := hP
          rw [List.length_map, lb, List.take_length] at hT
          have s17 : Same H1 H7 := (s3.trans s4).trans (s6.trans s7)
          have e7 := s17 _ _ e1
          refine ⟨_, rfl, p, rfl, ⟨_, SqL.of e7⟩, fun D4 nD4 => ?_⟩
          have hp7 := (hp.same s1).same s17
          have hd7 := s17 _ _ (s1 _ _ hd)
          refine lc_it (walk_list (xs := ys.map V.str)) (fun i Hx => Same H7 Hx ∧ ∃ us : List Addr, Hx D4 = some (.lst (us.map V.ref)) ∧ TsP Hx g us (ys.take i)) ⟨same_upd nD4, [], upd_same, .nil⟩ (fun i Hx _ hP => SqL.of (hP.1 _ _ e7)) (fun i x Hx Hx' hi hP hy => ?_) (fun H8 hP => ?_)
          · obtain ⟨rfl, ex⟩ := hy
            obtain ⟨s8, us, hD4, hU⟩ := hP
            rw [List.getElem?_map] at ex
            obtain ⟨n, en, rfl⟩ := Option.map_eq_some_iff.mp ex
            obtain ⟨o, ev, ho⟩ := (hp7.same s8).val (mk n (List.mem_of_getElem? en))
            refine ⟨rfl, yesI ?_⟩
            refine ⟨_, rfl, _, rfl, d, .ref o, rfl, ?_, ?_⟩
            · have z : DGet Hx' d (kV (.inr n)) (valV kvs (.inr n)) := DGet.k (s8 _ _ hd7)
              rw [ev] at z
              exact z
            refine ⟨_, hD4, ?_, fun c o e => ?_, us ++ [o], ?_, ?_⟩
            · have f2 := List.length_take (i := i) (l := ys)
              have f3 := Paired.length hU
              simp only [List.length_map]
              rw [sizeLine_eq]; omega
            · rw [upd_ne (ne_of_none e nD4)]; exact s8 _ _ e
            · rw [upd_same, List.map_append]; rfl
            · rw [List.take_add_one, en]
              refine Paired.snoc ?_ ?_
              · exact Paired.mono' (fun _ _ e => (upd_ne fun z => by rw [z, hD4] at e; cases e).trans e) hU
              · exact (upd_ne fun z => by rw [z, hD4] at ho; cases ho).trans ho
          · obtain ⟨s8, us, hD4, hU⟩ := hP
            rw [List.length_map, List.take_length] at hU
            have pt : PyData.plain (.list (ys.map fun n => PyData.tuple [.int (g n).1, .int (g n).2])) = true := by simp only [PyData.plain]; exact plain_ts g ys
            have dt : PyData.depth (.list (ys.map fun n => PyData.tuple [.int (g n).1, .int (g n).2])) ≤ 60 := by
              have := deep_ts g ys
              simp only [PyData.depth]
              omega
            refine ⟨_, _, .lst (SqL.of (s8 _ _ hD3)) (dp_ts (hT.same s8)), .lst (SqL.of hD4) (dp_ts hU), pt, pt, Nat.le_trans (Nat.min_le_left _ _) dt, true, congrArg V.bl (SeqAt.eqv_refl_plain _ pt), iteT ?_⟩
            have s18 := s17.trans s8
            have hb8 := hb1.same s18
            obtain ⟨dx8, nd8, tp8, kt8, ha8, _⟩ := id hb8
            refine ⟨_, rfl, a, rfl, ⟨dx8, _, ha8⟩, a, g2, ys, rfl, hb8, ok.ns, ⟨fun n m => by rw [e2 n m]; exact lo n m, fun n m => by rw [e2 n m]; exact ⟨(tx n (mk n m)).1, (tx n (mk n m)).2.1⟩⟩, fun n m => by rw [e2 n m]; exact (tx n (mk n m)).2.2, fun H9 s9 => ⟨_, rfl, ?_⟩⟩
            refine ⟨_, rfl, d, kvs, ks, g, rfl, s9 _ _ (s8 _ _ hd7), (hp7.same s8).same s9, lk, tx, fun ys' HA sA p' so' => ?_⟩
            obtain rfl : ys' = ys := sorted_unique so' ok.so (p'.trans pz.symm)
            refine ⟨rfl, ?_⟩
            rw [balT_congr e2, decide_eq_true rfl]
            exact k HA (s1.trans (s18.trans (s9.trans sA)))
end
end K05
namespace K05
open PySem PySem.Spec PyProof.Rows L2 RatM ClX
/-- keys that are these names, in order -/
abbrev KyN : List (Key × V) → List Str → Prop := Paired fun kv n => kv.1 = .inr n
theorem KyN.noVal {kvs : List (Key × V)} {ks : List Str} (h : KyN kvs ks) {n : Str} (m : n ∉ ks) : valV kvs (.inr n) = none := by
  induction h with
  | nil => rfl
  | @cons a b l1 l2 x t ih =>
    simp only [List.mem_cons, not_or] at m
    rw [valV_neg fun z => m.1 (by rw [x] at z; injection z with z; exact z.symm)]
    exact ih m.2
theorem KyN.append {l1 l2 : List (Key × V)} {k1 k2 : List Str} (h : KyN l1 k1) (h2 : KyN l2 k2) : KyN (l1 ++ l2) (k1 ++ k2) := by
  induction h with
  | nil => exact h2
  | cons x _ ih => exact .cons x ih
theorem mergeK_app {more : List (Key × V)} {ks : List Str} (h : KyN more ks) : ∀ {acc : List (Key × V)} {k0 : List Str}, KyN acc k0 → (k0 ++ ks).Nodup → mergeK acc more = acc ++ more := by
  induction h with
  | nil => intro acc k0 _ _; exact (List.append_nil _).symm
  | @cons a b l1 l2 x t ih =>
    intro acc k0 ha nd
    have nb : b ∉ k0 := fun z => (List.nodup_append.mp nd).2.2 b z b List.mem_cons_self rfl
    have e : putK acc a.1 a.2 = acc ++ [a] := by
      rw [x, putK_new _ (ha.noVal nb), ← x]
    show mergeK (putK acc a.1 a.2) l1 = _
    rw [e, ih (ha.append (.cons x .nil)) (by rw [List.append_assoc]; exact nd), List.append_assoc]
    rfl
theorem mergeK_names {more : List (Key × V)} {ks : List Str} (h : KyN more ks) (nd : ks.Nodup) : mergeK [] more = more := mergeK_app h .nil nd
theorem RatAt.keep {H H' : Hp} {C a t c : Addr} {cells : List Int} {i g p q : Int} (h : RatAt H a C p q) (hT : Till H t c cells i g) (k : Keep t H H') : RatAt H' a C p q := by
  obtain ⟨dx, e⟩ := h
  exact ⟨dx, k a _ (fun z => by rw [z, hT.ht] at e; cases e) e⟩
theorem NumAt.keep {H H' : Hp} {C t c : Addr} {cells : List Int} {i g p q : Int} {x : V} (h : NumAt H C x p q) (hT : Till H t c cells i g) (k : Keep t H H') : NumAt H' C x p q := h.imp (fun ⟨a, e, r⟩ => ⟨a, e, r.keep hT k⟩) id
theorem NumAt.upd_any {H : Hp} {C D : Addr} {o : HO} {p q : Int} {x : V} (h : NumAt H C x p q) (hd : ∀ dx fs, H D ≠ some (.ins C dx fs)) : NumAt (upd H D o) C x p q := h.imp (fun ⟨a, e, dx, r⟩ => ⟨a, e, dx, (upd_ne fun z => by rw [z] at r; exact hd _ _ r).trans r⟩) id
/-- pairs of a name and a number, each in a tuple -/
abbrev NtP (H : Hp) (C : Addr) (g : Str → Int × Int) : List Addr → List Str → Prop := Paired fun p n => ∃ v, H p = some (.tup [.str n, v]) ∧ NumAt H C v (g n).1 (g n).2
theorem NtP.keep {H H' : Hp} {C t c : Addr} {cells : List Int} {i k : Int} {g : Str → Int × Int} {ps : List Addr} {ks : List Str} (h : NtP H C g ps ks) (hT : Till H t c cells i k) (kp : Keep t H H') : NtP H' C g ps ks :=
  Paired.mono' (fun a _ ⟨v, e, n⟩ => ⟨v, kp a _ (fun z => by rw [z, hT.ht] at e; cases e) e, n.keep hT kp⟩) h
theorem NtP.upd {H : Hp} {C D : Addr} {o o' : HO} {g : Str → Int × Int} {ps : List Addr} {ks : List Str} (h : NtP H C g ps ks) (hd : H D = some o') (n1 : ∀ xs, o' ≠ .tup xs) (n2 : ∀ dx fs, o' ≠ .ins C dx fs) : NtP (upd H D o) C g ps ks :=
  Paired.mono' (fun a _ ⟨v, e, n⟩ => ⟨v, (upd_ne fun z => by rw [z, hd] at e; injection e with e; exact n1 _ e).trans e, n.upd_any fun dx fs z => by rw [hd] at z; injection z with z; exact n2 _ _ z⟩) h
theorem NtP.kvs {K : PySem.W.Frag} {H : Hp} {C : Addr} {g : Str → Int × Int} {ps : List Addr} {ks : List Str} (h : NtP H C g ps ks) : ∃ kvs : List (Key × V), Paired (fun p (kv : Key × V) => SqT K H p [kV kv.1, kv.2]) ps kvs ∧ NumD H C g kvs ks := by
  induction h with
  | nil => exact ⟨[], .nil, .nil⟩
  | @cons a n l1 l2 x t ih =>
    obtain ⟨v, e, hn⟩ := x
    obtain ⟨kvs, h1, h2⟩ := ih
    exact ⟨(.inr n, v) :: kvs, .cons (SqT.of e) h1, .cons ⟨rfl, hn⟩ h2⟩
theorem NumD.kyn {H : Hp} {C : Addr} {g : Str → Int × Int} {kvs : List (Key × V)} {ks : List Str} (h : NumD H C g kvs ks) : KyN kvs ks := Paired.mono' (fun _ _ x => x.1) h
theorem keep_unlock {H Hx : Hp} {t d : Addr} {kvs : List (Key × V)} {od : Obj} (hd : H d = some (.dK kvs)) (s : Keep t (upd H d (.frz od (.dK kvs))) Hx) : Keep t H (upd Hx d (.dK kvs)) := fun b o nb e => by
  by_cases eb : b = d
  · subst eb
    rw [upd_same, ← hd, e]
  · rw [upd_ne eb]
    refine s _ _ nb ?_
    rw [upd_ne eb]
    exact e
theorem Till.upd {H : Hp} {t c d : Addr} {o : HO} {cells : List Int} {i g : Int} (h : Till H t c cells i g) (h1 : d ≠ t) (h2 : d ≠ c) : Till (upd H d o) t c cells i g := ⟨(upd_ne (Ne.symm h1)).trans h.ht, (upd_ne (Ne.symm h2)).trans h.hc, h.3⟩
theorem ThOk.ns {xs : List Str} (h : ThOk xs) : NsOk xs := ⟨h.nd, Nat.le_trans h.le (by decide), fun n m => ⟨Nat.le_trans (h.nm n m).1 (by decide), (h.nm n m).2⟩⟩
def spMade (CB C : Addr) : Sp := fun vs H Q _ => ∃ (t d c : Addr) (cells : List Int) (i gg : Int) (kvs : List (Key × V)) (ks : List Str) (g : Str → Int × Int), vs = [.ref t, .ref d] ∧ H d = some (.dK kvs) ∧ PlD H g kvs ks ∧ ThOk ks ∧ (∀ n ∈ ks, FrD (g n)) ∧ Till H t c cells i gg ∧ 0 ≤ i ∧ i ≤ 800000 ∧ 0 ≤ gg ∧
  ∀ (a : Addr) (ys : List Str) (i' g' : Int) (H' : Hp), 0 ≤ i' → i' ≤ i + 8 → 0 ≤ g' → Keep t H H' → Till H' t c cells i' g' → ys.Perm ks → sortedS ys = true → BalAt H' a CB C g (nz g ys) → Q (.ref a) H'
section
variable {P : Program} {w : World} {K : PySem.W.Frag} {mg : Str → Option Value} {base : Heap} {C BR CB BB : Addr}
abbrev nsMd : List Str := ["_law_reel_here", "_law_plain", "_law_thing"]
theorem scMd : FnScope nsMd ["_law_reel_here", "_law_plain"] (defScope (top 58)) := ⟨rfl, rfl, rfl, by decide +kernel, rfl, by decide +kernel, by decide +kernel⟩
theorem ok_made {f fR : Addr} {fd fdR : FuncData} (F : FnP K "_law_made" (top 58) f fd) (L : LwK P w K mg base CB C BR)
    (GR : FnOk P w K mg base CX0 5 fR fdR ["_law_reel_here", "_law_pair"] (spRt C)) (bR : Binds K fdR ["_law_reel_here", "_law_pair"] []) (kR : PySem.W.keepIn K (.ref fR) = true) (gR : mg "_law_ratio" = some (.ref fR)) :
    FnOk P w K mg base CX0 10 f fd ["_law_reel_here", "_law_plain"] (spMade CB C) := by
  have B := L.O.B
  refine F.ok scMd (fun vs H Q E h => ?_) (fun cdv A outer s H vs Q E hr h => ?_)
  · obtain ⟨t, d, c, cells, i, gg, kvs, ks, g, rfl, _⟩ := h
    rfl
  · obtain ⟨t, d, c, cells, i, gg, kvs, ks, g, rfl, hd, hp, ok, fr, hT, hi0, hi1, hg, k⟩ := h
    have hr9 : Room 9 _ := hr
    have hu1 : (A.deeper (envOfC (Str.ofString "_law_made") (defScope (top 58)) s.heap.objs.size f cdv)).units + 1 < cLine := by have := hr9.units; omega
    refine ⟨_, PSs.nox (pss_one (ps_ret (pe_bal B (by exact hr9) (E := E0) passL rfl (pa_cons (pe_callTy (call_dictP rfl) (by rfl) L.dict PyProof.Rows.boot_dict (pa_cons (pe_lock (pe_lc (own := [("_law_thing", 2)]) (g := gName 2) (tt := tYes) (te := tTup (tCons (tVar 2) (tCons (tCall (spRt C) [] E0 (tCons (tVar 0) (tCons (tDGet (tVar 1) (tVar 2)) tNil))) tNil))) rfl scMd.nd (pi_keys (pv 1)) (blkOk_by (N := nsMd) (sc := defScope (top 58)) (by decide +kernel)) (fun _ _ _ _ _ => pg_name (i := 2) scMd.nd rfl (Or.inl rfl)) (fun _ _ _ _ _ => pts_nil)
      (fun _ _ _ _ _ => pe_tup (pa_cons (pv 2) (pa_cons (pe_call GR (by exact hr9.mono (by decide)) rfl gR kR bR .nil pass0 (pa_cons (pv 0) (pa_cons (pe_dget (by exact hu1) (pv 1) (pv 2) (fun _ _ => rfl)) pa_nil))) pa_nil))))) pa_nil)) pa_nil)))), ?_⟩
    have ndt : d ≠ t := fun e => by rw [e, hT.ht] at hd; cases hd
    have ndc : d ≠ c := fun e => by rw [e, hT.hc] at hd; cases hd
    have l4 : ks.length ≤ 4 := ok.le
    refine ⟨d, .dK kvs, hd, True.intro, fun od => ?_⟩
    refine ⟨_, rfl, d, od, rfl, .inl ⟨kvs, upd_same, fun D nD => ?_⟩⟩
    have hpL := hp.locked (o := .frz od (.dK kvs)) hd
    have hdL : (upd H d (.frz od (.dK kvs))) d = some (.frz od (.dK kvs)) := upd_same
    have hTL : Till (upd H d (.frz od (.dK kvs))) t c cells i gg := hT.upd ndt ndc
    have ul : ∀ Hx, Keep t (upd H d (.frz od (.dK kvs))) Hx → Keep t H (upd Hx d (.dK kvs)) := fun Hx s => keep_unlock hd s
    have nDd : D ≠ d := fun e => by rw [e, upd_same] at nD; cases nD
    generalize upd H d (.frz od (.dK kvs)) = HL at nD hpL hdL hTL ul ⊢
    have nDt : D ≠ t := hTL.off nD
    have nDc : D ≠ c := fun e => by rw [e, hTL.hc] at nD; cases nD
    refine lc_it walk_keys (fun j Hx => Keep t HL Hx ∧ (∃ i' g', 0 ≤ i' ∧ i' ≤ i + 2 * (j : Nat) ∧ 0 ≤ g' ∧ Till Hx t c cells i' g') ∧ ∃ ps : List Addr, Hx D = some (.lst (ps.map V.ref)) ∧ NtP Hx C g ps (ks.take j))
      ⟨Keep.refl.same (same_upd nD), ⟨i, gg, hi0, by omega, hg, hTL.same (same_upd nD)⟩, [], upd_same, .nil⟩ (fun j Hx _ hP => hP.1 _ _ ndt hdL) (fun j x Hx Hx' hj hP hy => ?_) (fun Hx hP => ?_)
    · obtain ⟨rfl, key, v, ek, rfl⟩ := hy
      obtain ⟨kp, ⟨i', g', a0, a1, a2, hTx⟩, ps, hD, hN⟩ := hP
      obtain ⟨n, en, e1, _⟩ := Paired.at' hpL j _ ek
      have e1 : key = .inr n := e1
      subst e1
      have mn := List.mem_of_getElem? en
      obtain ⟨o, ev, ho⟩ := hpL.val mn
      have not_ : o ≠ t := fun e => by rw [e, hTL.ht] at ho; cases ho
      have jl : j < ks.length := (List.getElem?_eq_some_iff.mp en).1
      refine ⟨rfl, yesI ?_⟩
      refine ⟨_, rfl, _, rfl, _, rfl, _, rfl, d, .ref o, rfl, ?_, ?_⟩
      · have z : DGet Hx' d (kV (.inr n)) (valV kvs (.inr n)) := .inl ⟨kvs, .inr n, .inr ⟨od, kp _ _ ndt hdL⟩, rfl, rfl⟩
        rw [ev] at z
        exact z
      refine ⟨t, o, c, cells, i', g', g n, rfl, not_, kp _ _ not_ ho, fr n mn, hTx, a0, by omega, a2, fun v i2 g2 H2 hv b0 b1 b2 kp2 hT2 => ?_⟩
      refine ⟨by rw [sizeLine_eq]; show 2 ≤ 16777216; decide, fun p np => ?_⟩
      have sp : Same H2 (upd H2 p (.tup [.str n, v])) := same_upd np
      have ep : (upd H2 p (.tup [.str n, v])) p = some (.tup [.str n, v]) := upd_same
      have hD2 := kp2 _ _ nDt hD
      have pD : p ≠ D := fun e => by rw [e, hD2] at np; cases np
      refine ⟨_, sp _ _ hD2, ?_, fun b ob nb e => ?_, ⟨i2, g2, b0, by omega, b2, (hT2.same sp).upd nDt nDc⟩, ps ++ [p], ?_, ?_⟩
      · have f2 := List.length_take (i := j) (l := ks)
        have f3 := Paired.length hN
        simp only [List.length_map]
        rw [sizeLine_eq]; omega
      · rw [upd_ne (ne_of_none e nD)]
        exact sp _ _ (kp2 _ _ nb (kp _ _ nb e))
      · rw [upd_same, List.map_append]; rfl
      · rw [List.take_add_one, en]
        refine Paired.snoc (NtP.upd (Paired.mono' (fun a _ ⟨v, e, n⟩ => ⟨v, sp _ _ e, n.same sp⟩) (hN.keep hTx kp2)) (sp _ _ hD2) (fun _ z => by cases z) (fun _ _ z => by cases z)) ⟨v, (upd_ne pD).trans ep, ?_⟩
        exact (hv.same sp).upd_any fun dx fs z => by rw [sp _ _ hD2] at z; cases z
    · obtain ⟨kp, ⟨i', g', a0, a1, a2, hTx⟩, ps, hD, hN⟩ := hP
      rw [Paired.length hp, List.take_length] at hN
      have lk := Paired.length hp
      have hdx := kp _ _ ndt hdL
      refine ⟨hdx, ?_⟩
      have kU := ul Hx kp
      have hNU : NtP (upd Hx d (.dK kvs)) C g ps ks := NtP.upd hN hdx (fun _ z => by cases z) (fun _ _ z => by cases z)
      have hDU : (upd Hx d (.dK kvs)) D = some (.lst (ps.map V.ref)) := (upd_ne nDd).trans hD
      have hTU : Till (upd Hx d (.dK kvs)) t c cells i' g' := hTx.upd ndt ndc
      generalize upd Hx d (.dK kvs) = HU at kU hNU hDU hTU ⊢
      obtain ⟨kvs2, q1, q2⟩ := hNU.kvs (K := K)
      refine ⟨D, ps, kvs2, rfl, SqL.of hDU, q1, fun p np => ?_⟩
      rw [mergeK_names q2.kyn ok.nd]
      have sp : Same HU (upd HU p (.dK kvs2)) := same_upd np
      refine ⟨_, rfl, p, kvs2, ks, g, rfl, upd_same, q2.same sp, ok.ns, fun a ys H' s na py sy hb => ?_⟩
      exact k a ys i' g' H' a0 (by omega) a2 (kU.same (sp.trans s)) ((hTU.same sp).same s) py sy hb
end
end K05
namespace K05
open PySem PySem.Spec PyProof.Rows L2 RatM ClX
theorem PlD.kyn {H : Hp} {g : Str → Int × Int} {kvs : List (Key × V)} {ks : List Str} (h : PlD H g kvs ks) : KyN kvs ks := Paired.mono' (fun _ _ x => x.1) h
theorem PlD.congr {H : Hp} {g g' : Str → Int × Int} {kvs : List (Key × V)} {ks : List Str} (h : PlD H g kvs ks) (e : ∀ n ∈ ks, g' n = g n) : PlD H g' kvs ks := by
  induction h with
  | nil => exact .nil
  | @cons a n l1 l2 x t ih =>
    obtain ⟨x1, o, x2, x3⟩ := x
    exact .cons ⟨x1, o, x2, by rw [e n List.mem_cons_self]; exact x3⟩ (ih fun m hm => e m (List.mem_cons_of_mem _ hm))
theorem PlD.upd_any {H : Hp} {D : Addr} {o : HO} {g : Str → Int × Int} {kvs : List (Key × V)} {ks : List Str} (h : PlD H g kvs ks) (hd : ∀ xs, H D ≠ some (.tup xs)) : PlD (upd H D o) g kvs ks :=
  Paired.mono' (fun _ _ ⟨e, b, e2, n⟩ => ⟨e, b, e2, (upd_ne fun z => by rw [z] at n; exact hd _ n).trans n⟩) h
theorem plPut_old {H : Hp} {b : Addr} {g g' : Str → Int × Int} {kvs : List (Key × V)} {ks : List Str} {n : Str} (h : PlD H g kvs ks) (e : ∀ m, m ≠ n → g' m = g m) (hb : H b = some (.tup (tupF (g' n)))) :
    PlD H g' (kvs.map fun kv => if kv.1 = .inr n then (kv.1, V.ref b) else kv) ks := by
  induction h with
  | nil => exact .nil
  | @cons x y l1 l2 h t ih =>
    refine .cons ?_ ih
    dsimp only
    by_cases c : y = n
    · subst c
      rw [if_pos h.1]
      exact ⟨h.1, b, rfl, hb⟩
    · have ne : ¬ x.1 = Sum.inr n := fun z => c (by rw [h.1] at z; injection z)
      rw [if_neg ne]
      obtain ⟨h1, b', h2, h3⟩ := h
      refine ⟨h1, b', h2, ?_⟩
      rw [e y c]
      exact h3
theorem PlD.put {H : Hp} {b : Addr} {g g' : Str → Int × Int} {kvs : List (Key × V)} {ks : List Str} {n : Str} (h : PlD H g kvs ks) (e : ∀ m, m ≠ n → g' m = g m) (hb : H b = some (.tup (tupF (g' n)))) :
    PlD H g' (putK kvs (.inr n) (.ref b)) (if n ∈ ks then ks else ks ++ [n]) := by
  have old := plPut_old h e hb
  by_cases m : n ∈ ks
  · unfold putK
    rw [valV_any]
    obtain ⟨v, ev, _⟩ := PlD.val h m
    rw [ev, if_pos m]
    exact old
  · rw [putK_new _ (h.kyn.noVal m), if_neg m]
    refine Paired.snoc ?_ ⟨rfl, b, rfl, hb⟩
    exact h.congr fun y hy => e y fun z => m (by rw [← z]; exact hy)
/-- list(d.items()), told again as a dict -/
theorem items_kvs {K : PySem.W.Frag} {H : Hp} {ts : List Addr} {kvs : List (Key × V)} (h : Paired (fun (t : Addr) (q : Key × V) => H t = some (.tup [kV q.1, q.2])) ts kvs) : Paired (fun p (kv : Key × V) => SqT K H p [kV kv.1, kv.2]) ts kvs := Paired.mono' (fun _ _ e => SqT.of e) h
/-- the law's sum, thing by thing -/
def sumL (g1 : Str → Int × Int) (k1 : List Str) (g2 : Str → Int × Int) (k2 : List Str) (x : Int × Int) : Str → Int × Int := fun n => if n ∈ k2 then plusF (num g1 k1 n) (byF (g2 n) x) else g1 n
def spSumL : Sp := fun vs H Q _ => ∃ (d1 d2 o : Addr) (kvs1 kvs2 : List (Key × V)) (k1 k2 : List Str) (g1 g2 : Str → Int × Int) (x : Int × Int), vs = [.ref d1, .ref d2, .ref o] ∧ H d1 = some (.dK kvs1) ∧ H d2 = some (.dK kvs2) ∧ H o = some (.tup (tupF x)) ∧ PlD H g1 kvs1 k1 ∧ PlD H g2 kvs2 k2 ∧
  NsOk k1 ∧ NsOk k2 ∧ k1.length + k2.length ≤ 60 ∧ (∀ n ∈ k1, FrOk (g1 n)) ∧ (∀ n ∈ k2, FrOk (g2 n) ∧ FrOk (byF (g2 n) x)) ∧ FrOk x ∧
  ∀ r kvs' H', Same H H' → H r = none → H' r = some (.dK kvs') → PlD H' (sumL g1 k1 g2 k2 x) kvs' (joinN k1 k2) → Q (.ref r) H'
section
variable {P : Program} {w : World} {K : PySem.W.Frag} {mg : Str → Option Value} {base : Heap} {C BR CB BB : Addr}
abbrev nsSl : List Str := ["_law_one", "_law_other", "_law_times", "_law_found", "_law_thing"]
theorem scSl : FnScope nsSl ["_law_one", "_law_other", "_law_times"] (defScope (top 59)) := ⟨rfl, rfl, rfl, by decide +kernel, rfl, by decide +kernel, by decide +kernel⟩
theorem ok_sum {f fP fB : Addr} {fd fdP fdB : FuncData} (F : FnP K "_law_sum" (top 59) f fd) (bd : mg "dict" = none) (bl : mg "list" = none)
    (GP : FnOk P w K mg base CX0 3 fP fdP ["_law_one", "_law_other"] (spFr plusF)) (bP : Binds K fdP ["_law_one", "_law_other"] []) (kP : PySem.W.keepIn K (.ref fP) = true) (gP : mg "_law_plus" = some (.ref fP))
    (GB : FnOk P w K mg base CX0 3 fB fdB ["_law_one", "_law_other"] (spFr byF)) (bB : Binds K fdB ["_law_one", "_law_other"] []) (kB : PySem.W.keepIn K (.ref fB) = true) (gB : mg "_law_by" = some (.ref fB)) :
    FnOk P w K mg base CX0 4 f fd ["_law_one", "_law_other", "_law_times"] spSumL := by
  refine F.ok scSl (fun vs H Q E h => ?_) (fun cdv A outer s H vs Q E hr h => ?_)
  · obtain ⟨d1, d2, o, kvs1, kvs2, k1, k2, g1, g2, x, rfl, _⟩ := h
    rfl
  · obtain ⟨d1, d2, o, kvs1, kvs2, k1, k2, g1, g2, x, rfl, h1, h2, ho, p1, p2, n1, n2, ll, f1, f2, fx, k⟩ := h
    have hr3 : Room 3 _ := hr
    have hu1 : (A.deeper (envOfC (Str.ofString "_law_sum") (defScope (top 59)) s.heap.objs.size f cdv)).units + 1 < cLine := by have := hr3.units; omega
    refine ⟨_, PSs.nox (pss_cons (ps_set (i := 3) scSl.nd rfl (.inl rfl) (pe_callTy (call_dictP rfl) (by rfl) bd PyProof.Rows.boot_dict (pa_cons (LiI.pe_listItems rfl (pv 0) (by rfl) bl PyProof.Rows.boot_list) pa_nil)))
      (pss_cons (ps_lock (ps_for PassesOwn.never rfl (pi_keys (pv 1)) (pg_name (i := 4) scSl.nd rfl (.inl rfl))
        (pss_one (ps_dput hu1 (pv 3) (pv 4) (pe_call GP (hr3) rfl gP kP bP .nil pass0 (pa_cons (pe_dget2 hu1 (pv 3) (pv 4) (pe_tup (pa_cons pe_int (pa_cons pe_int pa_nil))) ⟨rfl, rfl, rfl, rfl⟩) (pa_cons (pe_call GB (hr3) rfl gB kB bB .nil pass0 (pa_cons (pe_dget hu1 (pv 1) (pv 4) (fun _ _ => rfl)) (pa_cons (pv 2) pa_nil))) pa_nil))) (by rfl)))))
      (pss_one (ps_ret (pv 3))))), ?_⟩
    refine ⟨_, rfl, d1, kvs1, rfl, h1, fun HA pl ts sA npl nts nin eL eT => ?_⟩
    refine ⟨pl, ts, kvs1, rfl, SqL.of eL, items_kvs eT, fun D nD => ?_⟩
    rw [mergeK_names p1.kyn n1.nd]
    dsimp only [tNext, tSeq, tAsg, gName]
    have sA : Same H HA := sA
    have hd2A := sA _ _ h2
    have s2 := same_upd (o := .dK kvs1) nD
    have nDn : D ≠ d2 := fun e => by rw [e, hd2A] at nD; cases nD
    refine ⟨d2, .dK kvs2, s2 _ _ hd2A, True.intro, fun od => ?_⟩
    refine ⟨_, rfl, d2, od, rfl, .inl ⟨kvs2, upd_same, ?_⟩⟩
    have p1B : PlD (upd HA d2 (.frz od (.dK kvs2))) g1 kvs1 k1 := (p1.same sA).locked hd2A
    have p2B : PlD (upd HA d2 (.frz od (.dK kvs2))) g2 kvs2 k2 := (p2.same sA).locked hd2A
    have hoB : (upd HA d2 (.frz od (.dK kvs2))) o = some (.tup (tupF x)) := (upd_ne fun z => by rw [z, h2] at ho; cases ho).trans (sA _ _ ho)
    have hdB : (upd HA d2 (.frz od (.dK kvs2))) d2 = some (.frz od (.dK kvs2)) := upd_same
    have nDB : (upd HA d2 (.frz od (.dK kvs2))) D = none := (upd_ne nDn).trans nD
    have s0 : Same (upd HA d2 (.frz od (.dK kvs2))) (upd (upd HA D (.dK kvs1)) d2 (.frz od (.dK kvs2))) := fun c o e => by
      by_cases ec : c = d2
      · subst ec
        rw [upd_same] at e ⊢
        exact e
      · rw [upd_ne ec] at e ⊢
        exact s2 _ _ e
    have hD0 : (upd (upd HA D (.dK kvs1)) d2 (.frz od (.dK kvs2))) D = some (.dK kvs1) := (upd_ne nDn).trans upd_same
    have ul : ∀ Hx, Same (upd HA d2 (.frz od (.dK kvs2))) Hx → Same H (upd Hx d2 (.dK kvs2)) := fun Hx s => sA.trans (unlock_same hd2A s)
    generalize upd (upd HA D (.dK kvs1)) d2 (.frz od (.dK kvs2)) = H3 at s0 hD0 ⊢
    generalize upd HA d2 (.frz od (.dK kvs2)) = HB at p1B p2B hoB hdB nDB s0 ul ⊢
    have lk := Paired.length p2B
    refine for_it walk_keys (fun i σ Hx => (∃ o4, σ = [some (.ref d1), some (.ref d2), some (.ref o), some (.ref D), o4]) ∧ Same HB Hx ∧ ∃ kv, Hx D = some (.dK kv) ∧ PlD Hx (fun n => if n ∈ k2.take i then sumL g1 k1 g2 k2 x n else g1 n) kv (joinN k1 (k2.take i))) ⟨⟨none, rfl⟩, s0, kvs1, hD0, by simpa [joinN] using p1B.same s0⟩ (fun i σ Hx _ hP => hP.2.1 _ _ hdB) ?_ ?_
    · rintro i x' σ Hx Hx' hi ⟨⟨o4, rfl⟩, s3, kv, hDx, hRx⟩ hy
      obtain ⟨rfl, key, v, ek, rfl⟩ := hy
      obtain ⟨n, en, e1, _⟩ := Paired.at' p2B i _ ek
      have e1 : key = .inr n := e1
      subst e1
      have mn := List.mem_of_getElem? en
      obtain ⟨q2, ev, hq2⟩ := p2B.val mn
      have nt : n ∉ k2.take i := fun m => by
        obtain ⟨j, hj, ej⟩ := List.mem_take_iff_getElem.mp m
        have h1 : k2[j]? = some n := by rw [List.getElem?_eq_getElem (by omega), ej]
        have lj : j < k2.length := by omega
        have h2 := (List.getElem?_inj lj n2.nd).mp (h1.trans en.symm)
        omega
      have tk : k2.take (i + 1) = k2.take i ++ [n] := by rw [List.take_add_one, en]; rfl
      have ki : n ∈ joinN k1 (k2.take i) ↔ n ∈ k1 := by
        constructor
        · intro m
          rcases List.mem_append.mp m with m | m
          · exact m
          · exact absurd (List.mem_filter.mp m).1 nt
        · exact fun m => List.mem_append_left _ m
      refine ⟨_, rfl, D, rfl, .inl ⟨kv, .inl hDx⟩, _, rfl, by rw [sizeLine_eq]; show 2 ≤ 16777216; decide, fun q0 nq0 => ?_⟩
      have sq : Same Hx' (upd Hx' q0 (.tup [.int 0, .int 1])) := same_upd nq0
      have eq0 : (upd Hx' q0 (.tup [.int 0, .int 1])) q0 = some (.tup (tupF (0, 1))) := upd_same
      generalize (upd Hx' q0 (.tup [.int 0, .int 1])) = H4 at sq eq0 ⊢
      have hD4 := sq _ _ hDx
      have hR4 := hRx.same sq
      obtain ⟨a1, ea1, ha1⟩ : ∃ a1, (valV kv (.inr n)).getD (.ref q0) = .ref a1 ∧ H4 a1 = some (.tup (tupF (num g1 k1 n))) := by
        unfold num
        by_cases m : n ∈ k1
        · obtain ⟨o1, ev1, ho1⟩ := hR4.val (ki.mpr m)
          rw [if_neg nt] at ho1
          rw [ev1, if_pos m]
          exact ⟨o1, rfl, ho1⟩
        · rw [hR4.kyn.noVal fun z => m (ki.mp z), if_neg m]
          exact ⟨q0, rfl, eq0⟩
      refine ⟨_, DGet.k (k := .inr n) hD4, ?_⟩
      rw [ea1]
      have s34 := s3.trans sq
      refine ⟨_, rfl, _, rfl, d2, .ref q2, rfl, ?_, ?_⟩
      · have z : DGet H4 d2 (kV (.inr n)) (valV kvs2 (.inr n)) := .inl ⟨kvs2, .inr n, .inr ⟨od, s34 _ _ hdB⟩, rfl, rfl⟩
        rw [ev] at z
        exact z
      obtain ⟨fg, fb⟩ := f2 n mn
      refine ⟨_, rfl, q2, o, g2 n, x, rfl, s34 _ _ hq2, s34 _ _ hoB, fg, fx, fun q3 nq3 => ?_⟩
      have s4 : Same H4 (upd H4 q3 (.tup (tupF (byF (g2 n) x)))) := same_upd nq3
      have eq3 : (upd H4 q3 (.tup (tupF (byF (g2 n) x)))) q3 = some (.tup (tupF (byF (g2 n) x))) := upd_same
      generalize (upd H4 q3 (.tup (tupF (byF (g2 n) x)))) = H5 at s4 eq3 ⊢
      have fn : FrOk (num g1 k1 n) := by
        unfold num
        by_cases m : n ∈ k1
        · rw [if_pos m]; exact f1 n m
        · rw [if_neg m]; exact ⟨by decide, by decide, by decide⟩
      refine ⟨a1, q3, num g1 k1 n, byF (g2 n) x, rfl, s4 _ _ ha1, eq3, fn, fb, fun q4 nq4 => ?_⟩
      have s5 : Same H5 (upd H5 q4 (.tup (tupF (plusF (num g1 k1 n) (byF (g2 n) x))))) := same_upd nq4
      have eq4 : (upd H5 q4 (.tup (tupF (plusF (num g1 k1 n) (byF (g2 n) x))))) q4 = some (.tup (tupF (plusF (num g1 k1 n) (byF (g2 n) x)))) := upd_same
      generalize (upd H5 q4 (.tup (tupF (plusF (num g1 k1 n) (byF (g2 n) x))))) = H6 at s5 eq4 ⊢
      have hD6 := s5 _ _ (s4 _ _ hD4)
      have hR6 := (hR4.same s4).same s5
      have lk6 := Paired.length hRx
      have l1 : (joinN k1 (k2.take i)).length ≤ 60 := by
        have f1 := List.length_filter_le (fun n => !decide (n ∈ k1)) (k2.take i)
        have f2 := List.length_take (i := i) (l := k2)
        rw [List.length_append]
        omega
      refine ⟨_, rfl, _, rfl, D, _, rfl, DPut.k (k := .inr n) hD6 (by rw [sizeLine_eq]; omega), ⟨_, rfl⟩, fun c ob e => ?_, _, upd_same, ?_⟩
      · rw [upd_ne (ne_of_none e nDB)]
        exact s5 _ _ (s4 _ _ (s34 _ _ e))
      · have put := PlD.put (n := n) (g' := fun m => if m ∈ k2.take (i + 1) then sumL g1 k1 g2 k2 x m else g1 m) (b := q4) (hR6.upd_any (o := .dK (putK kv (.inr n) (.ref q4))) (D := D) fun xs z => by rw [hD6] at z; cases z) (fun m ne => by
          have : (m ∈ k2.take (i + 1)) ↔ m ∈ k2.take i := by rw [tk, List.mem_append, List.mem_singleton]; exact ⟨fun z => z.elim id fun z => absurd z ne, .inl⟩
          simp only [this]) (by
          have mt : n ∈ k2.take (i + 1) := by rw [tk]; exact List.mem_append_right _ (List.mem_singleton.mpr rfl)
          rw [if_pos mt]
          unfold sumL
          rw [if_pos mn]
          exact (upd_ne fun z => by rw [z, hD6] at eq4; cases eq4).trans eq4)
        have ek : (if n ∈ joinN k1 (k2.take i) then joinN k1 (k2.take i) else joinN k1 (k2.take i) ++ [n]) = joinN k1 (k2.take (i + 1)) := by
          show _ = k1 ++ (k2.take (i + 1)).filter _
          rw [tk, List.filter_append]
          by_cases m : n ∈ k1
          · rw [if_pos (ki.mpr m)]
            simp [m, joinN]
          · rw [if_neg fun z => m (ki.mp z)]
            simp [m, joinN]
        rw [ek] at put
        exact put
    · rintro σ Hx ⟨⟨o4, rfl⟩, s3, kv, hDx, hRx⟩
      rw [lk, List.take_length] at hRx
      refine ⟨s3 _ _ hdB, _, rfl, ?_⟩
      have e : (fun n => if n ∈ k2 then sumL g1 k1 g2 k2 x n else g1 n) = sumL g1 k1 g2 k2 x := funext fun n => by
        by_cases m : n ∈ k2
        · exact if_pos m
        · rw [if_neg m]
          exact (if_neg m).symm
      rw [e] at hRx
      have HD0 : H D = none := sA.free nD
      exact k D kv _ (ul _ s3) HD0 ((upd_ne nDn).trans hDx) (hRx.upd_any fun xs z => by rw [s3 _ _ hdB] at z; cases z)
end
end K05
namespace K05
open PySem PySem.Spec PyProof.Rows L2 RatM ClX
theorem plusF_comm (x y : Int × Int) : plusF x y = plusF y x := by
  unfold plusF
  rw [Int.add_comm, Int.mul_comm x.2 y.2]
/-- what holds of the names so far -/
structure RenJ (s : List Str × (Str → Int × Int)) (i : Nat) : Prop where
  nd : s.1.Nodup
  le : s.1.length ≤ i
  nm : ∀ n ∈ s.1, n.length ≤ 100000 ∧ nameT n.cps.toList = true
  lo : ∀ m ∈ s.1, 0 < (s.2 m).2 ∧ (s.2 m).1.natAbs < 2 ^ (200 * (i + 1)) ∧ (s.2 m).2.natAbs < 2 ^ (200 * (i + 1))
theorem plusF_szJ {x y : Int × Int} {i : Nat} (hx : x.1.natAbs < 2 ^ 100 ∧ x.2.natAbs < 2 ^ 100) (x0 : 0 < x.2) (hy : y.1.natAbs < 2 ^ (200 * (i + 1)) ∧ y.2.natAbs < 2 ^ (200 * (i + 1))) (y0 : 0 < y.2) :
    0 < (plusF x y).2 ∧ (plusF x y).1.natAbs < 2 ^ (200 * (i + 1 + 1)) ∧ (plusF x y).2.natAbs < 2 ^ (200 * (i + 1 + 1)) := by
  have b0 : x.2 * y.2 ≠ 0 := Int.mul_ne_zero (by omega) (by omega)
  have pw : 2 ^ (101 + 200 * (i + 1)) ≤ 2 ^ (200 * (i + 1 + 1)) := Nat.pow_le_pow_right (by decide) (by omega)
  have two : 2 ^ (101 + 200 * (i + 1)) = 2 ^ (100 + 200 * (i + 1)) + 2 ^ (100 + 200 * (i + 1)) := by rw [show 101 + 200 * (i + 1) = (100 + 200 * (i + 1)) + 1 by omega, Nat.pow_succ]; omega
  have m1 : (x.1 * y.2).natAbs < 2 ^ (100 + 200 * (i + 1)) := wide_lt hx.1 hy.2
  have m2 : (x.2 * y.1).natAbs < 2 ^ (100 + 200 * (i + 1)) := wide_lt hx.2 hy.1
  have m3 : (x.2 * y.2).natAbs < 2 ^ (100 + 200 * (i + 1)) := wide_lt hx.2 hy.2
  rw [Int.mul_comm x.2 y.1] at m2
  have ad := Int.natAbs_add_le (x.1 * y.2) (y.1 * x.2)
  refine ⟨lowB_pos b0, ?_, ?_⟩
  · exact Nat.lt_of_le_of_lt (lowT_le b0) (by omega)
  · exact Nat.lt_of_le_of_lt (lowB_le b0) (by omega)
theorem RenJ.step {ps : List (Str × Str)} {g : Str → Int × Int} {s : List Str × (Str → Int × Int)} {i : Nat} {n : Str} (h : RenJ s i) (hg : (g n).1.natAbs < 2 ^ 100 ∧ (g n).2.natAbs < 2 ^ 100) (g0 : 0 < (g n).2) (hn : (nmOf ps n).length ≤ 100000 ∧ nameT (nmOf ps n).cps.toList = true) : RenJ (renS ps g s n) (i + 1) := by
  have mem : ∀ m ∈ (renS ps g s n).1, m ∈ s.1 ∨ m = nmOf ps n := fun m hm => by
    unfold renS at hm
    dsimp only at hm
    by_cases c : nmOf ps n ∈ s.1
    · rw [if_pos c] at hm; exact .inl hm
    · rw [if_neg c] at hm
      exact (List.mem_append.mp hm).imp id List.mem_singleton.mp
  have on : (if nmOf ps n ∈ s.1 then s.2 (nmOf ps n) else (0, 1) : Int × Int).1.natAbs < 2 ^ (200 * (i + 1)) ∧ (if nmOf ps n ∈ s.1 then s.2 (nmOf ps n) else (0, 1) : Int × Int).2.natAbs < 2 ^ (200 * (i + 1)) ∧ 0 < (if nmOf ps n ∈ s.1 then s.2 (nmOf ps n) else (0, 1) : Int × Int).2 := by
    by_cases c : nmOf ps n ∈ s.1
    · rw [if_pos c]
      obtain ⟨z1, z2, z3⟩ := h.lo _ c
      exact ⟨z2, z3, z1⟩
    · rw [if_neg c]
      have : (1 : Nat) < 2 ^ (200 * (i + 1)) := Nat.lt_of_lt_of_le (by decide) (Nat.pow_le_pow_right (by decide) (show 1 ≤ 200 * (i + 1) by omega))
      exact ⟨by show 0 < _; omega, this, by decide⟩
  refine ⟨?_, ?_, fun m hm => ?_, fun m hm => ?_⟩
  · unfold renS
    dsimp only
    by_cases c : nmOf ps n ∈ s.1
    · rw [if_pos c]; exact h.nd
    · rw [if_neg c]
      exact List.nodup_append.mpr ⟨h.nd, by simp, fun a ha b hb e => c (by rw [List.mem_singleton.mp hb] at e; exact e ▸ ha)⟩
  · unfold renS
    dsimp only
    have := h.le
    by_cases c : nmOf ps n ∈ s.1
    · rw [if_pos c]; omega
    · rw [if_neg c, List.length_append]; simp only [List.length_cons, List.length_nil]; omega
  · rcases mem m hm with z | z
    · exact h.nm m z
    · rw [z]; exact hn
  · show 0 < (if m = nmOf ps n then _ else _ : Int × Int).2 ∧ (if m = nmOf ps n then _ else _ : Int × Int).1.natAbs < _ ∧ (if m = nmOf ps n then _ else _ : Int × Int).2.natAbs < _
    by_cases e : m = nmOf ps n
    · rw [if_pos e]
      exact plusF_szJ hg g0 ⟨on.1, on.2.1⟩ on.2.2
    · rw [if_neg e]
      obtain ⟨z1, z2, z3⟩ := h.lo m ((mem m hm).resolve_right e)
      have pw : 2 ^ (200 * (i + 1)) ≤ 2 ^ (200 * (i + 1 + 1)) := Nat.pow_le_pow_right (by decide) (by omega)
      exact ⟨z1, Nat.lt_of_lt_of_le z2 pw, Nat.lt_of_lt_of_le z3 pw⟩
def spRenL : Sp := fun vs H Q _ => ∃ (d dn : Addr) (kvs kn : List (Key × V)) (ks : List Str) (g : Str → Int × Int) (ps : List (Str × Str)), vs = [.ref d, .ref dn] ∧ H d = some (.dK kvs) ∧ H dn = some (.dK kn) ∧ PlD H g kvs ks ∧ NmD kn ps ∧ NsT (ps.map (·.2)) ∧
  ThOk ks ∧ (∀ n ∈ ks, FrD (g n)) ∧
  ∀ r kvs' H', Same H H' → H r = none → H' r = some (.dK kvs') → PlD H' (renN ps g ks).2 kvs' (renN ps g ks).1 → Q (.ref r) H'
section
variable {P : Program} {w : World} {K : PySem.W.Frag} {mg : Str → Option Value} {base : Heap} {C BR CB BB : Addr}
abbrev nsRl : List Str := ["_law_plain", "_law_names_here", "_law_found", "_law_thing", "_law_goal"]
theorem scRl : FnScope nsRl ["_law_plain", "_law_names_here"] (defScope (top 62)) := ⟨rfl, rfl, rfl, by decide +kernel, rfl, by decide +kernel, by decide +kernel⟩
theorem ok_renL {f fP : Addr} {fd fdP : FuncData} (F : FnP K "_law_renamed" (top 62) f fd)
    (GP : FnOk P w K mg base CX0 3 fP fdP ["_law_one", "_law_other"] (spFr plusF)) (bP : Binds K fdP ["_law_one", "_law_other"] []) (kP : PySem.W.keepIn K (.ref fP) = true) (gP : mg "_law_plus" = some (.ref fP)) :
    FnOk P w K mg base CX0 4 f fd ["_law_plain", "_law_names_here"] spRenL := by
  refine F.ok scRl (fun vs H Q E h => ?_) (fun cdv A outer s H vs Q E hr h => ?_)
  · obtain ⟨d, dn, kvs, kn, ks, g, ps, rfl, _⟩ := h
    rfl
  · obtain ⟨d, dn, kvs, kn, ks, g, ps, rfl, hd, hn, hp, hps, n2, ok, fr, k⟩ := h
    have hr3 : Room 3 _ := hr
    have hu1 : (A.deeper (envOfC (Str.ofString "_law_renamed") (defScope (top 62)) s.heap.objs.size f cdv)).units + 1 < cLine := by have := hr3.units; omega
    refine ⟨_, PSs.nox (pss_cons (ps_set (i := 2) scRl.nd rfl (.inl rfl) pe_dnewK)
      (pss_cons (ps_lock (ps_for PassesOwn.never rfl (pi_keys (pv 0)) (pg_name (i := 3) scRl.nd rfl (.inl rfl))
        (pss_cons (ps_set (i := 4) scRl.nd rfl (.inl rfl) (pe_dget2 hu1 (pv 1) (pv 3) (pv 3) ⟨rfl, rfl, rfl, rfl⟩))
        (pss_one (ps_dput hu1 (pv 2) (pv 4) (pe_call GP (hr3) rfl gP kP bP .nil pass0 (pa_cons (pe_dget2 hu1 (pv 2) (pv 4) (pe_tup (pa_cons pe_int (pa_cons pe_int pa_nil))) ⟨rfl, rfl, rfl, rfl⟩) (pa_cons (pe_dget hu1 (pv 0) (pv 3) (fun _ _ => rfl)) pa_nil))) (by rfl))))))
      (pss_one (ps_ret (pv 2))))), ?_⟩
    intro D nD
    dsimp only [tNext, tSeq, tAsg, gName]
    have l4 : ks.length ≤ 4 := ok.le
    have s2 := same_upd (o := .dK []) nD
    have nDn : D ≠ d := fun e => by rw [e, hd] at nD; cases nD
    refine ⟨d, .dK kvs, s2 _ _ hd, True.intro, fun od => ?_⟩
    refine ⟨_, rfl, d, od, rfl, .inl ⟨kvs, upd_same, ?_⟩⟩
    have pB : PlD (upd H d (.frz od (.dK kvs))) g kvs ks := hp.locked hd
    have hdB : (upd H d (.frz od (.dK kvs))) d = some (.frz od (.dK kvs)) := upd_same
    have nDB : (upd H d (.frz od (.dK kvs))) D = none := (upd_ne nDn).trans nD
    have rdB : Rd (upd H d (.frz od (.dK kvs))) dn (.dK kn) := by
      by_cases e : dn = d
      · subst e
        rw [hd] at hn
        cases hn
        exact .inr ⟨od, upd_same⟩
      · exact .inl ((upd_ne e).trans hn)
    have s0 : Same (upd H d (.frz od (.dK kvs))) (upd (upd H D (.dK [])) d (.frz od (.dK kvs))) := fun c o e => by
      by_cases ec : c = d
      · subst ec
        rw [upd_same] at e ⊢
        exact e
      · rw [upd_ne ec] at e ⊢
        exact s2 _ _ e
    have hD0 : (upd (upd H D (.dK [])) d (.frz od (.dK kvs))) D = some (.dK []) := (upd_ne nDn).trans upd_same
    have ul : ∀ Hx, Same (upd H d (.frz od (.dK kvs))) Hx → Same H (upd Hx d (.dK kvs)) := fun Hx s => unlock_same hd s
    generalize upd (upd H D (.dK [])) d (.frz od (.dK kvs)) = H3 at s0 hD0 ⊢
    generalize upd H d (.frz od (.dK kvs)) = HB at pB hdB nDB rdB s0 ul ⊢
    have lk := Paired.length pB
    have ri : ∀ i, i ≤ ks.length → RenJ (renN ps g (ks.take i)) i := by
      intro i
      induction i with
      | zero => exact fun _ => ⟨List.nodup_nil, Nat.le_refl _, fun n m => (by cases m), fun n m => (by cases m)⟩
      | succ i ih =>
        intro hi
        have en : ks[i]? = some ks[i] := List.getElem?_eq_getElem (by omega)
        have mn := List.mem_of_getElem? en
        rw [renN_take en]
        have fx := fr _ mn
        exact (ih (by omega)).step ⟨fx.top, Nat.lt_of_lt_of_le (show _ < 2 ^ 4 by have := fx.b0; have := fx.b1; show _ < 16; omega) (Nat.pow_le_pow_right (by decide) (by decide))⟩ fx.b0 (nmOf_ok n2 (ok.ns.nm _ mn))
    refine for_it walk_keys (fun i σ Hx => (∃ o3 o4, σ = [some (.ref d), some (.ref dn), some (.ref D), o3, o4]) ∧ Same HB Hx ∧ ∃ kv, Hx D = some (.dK kv) ∧ PlD Hx (renN ps g (ks.take i)).2 kv (renN ps g (ks.take i)).1) ⟨⟨none, none, rfl⟩, s0, [], hD0, .nil⟩ (fun i σ Hx _ hP => hP.2.1 _ _ hdB) ?_ ?_
    · rintro i x' σ Hx Hx' hi ⟨⟨o3, o4, rfl⟩, s3, kv, hDx, hRx⟩ hy
      obtain ⟨rfl, key, v, ek, rfl⟩ := hy
      obtain ⟨n, en, e1, _⟩ := Paired.at' pB i _ ek
      have e1 : key = .inr n := e1
      subst e1
      have mn := List.mem_of_getElem? en
      obtain ⟨q2, ev, hq2⟩ := pB.val mn
      have li : i < ks.length := (List.getElem?_eq_some_iff.mp en).1
      have I := ri i (by omega)
      have fx := fr _ mn
      have rd4 : Rd Hx' dn (.dK kn) := rdB.imp (fun e => s3 _ _ e) fun ⟨o, e⟩ => ⟨o, s3 _ _ e⟩
      refine ⟨_, rfl, dn, rfl, .inl ⟨kn, rd4⟩, _, rfl, _, rfl, _, .inl ⟨kn, .inr n, rd4, rfl, rfl⟩, ?_⟩
      rw [show (valV kn (.inr n)).getD (kV (.inr n)) = .str (nmOf ps n) from nmOf_get hps n]
      dsimp only [tNext, tSeq, tAsg, gName]
      generalize hS : renN ps g (ks.take i) = S at I hRx
      refine ⟨_, rfl, D, rfl, .inl ⟨kv, .inl hDx⟩, _, rfl, by rw [sizeLine_eq]; show 2 ≤ 16777216; decide, fun q0 nq0 => ?_⟩
      have sq : Same Hx' (upd Hx' q0 (.tup [.int 0, .int 1])) := same_upd nq0
      have eq0 : (upd Hx' q0 (.tup [.int 0, .int 1])) q0 = some (.tup (tupF (0, 1))) := upd_same
      generalize (upd Hx' q0 (.tup [.int 0, .int 1])) = H4 at sq eq0 ⊢
      have hD4 := sq _ _ hDx
      have hR4 := hRx.same sq
      obtain ⟨a1, ea1, ha1⟩ : ∃ a1, (valV kv (.inr (nmOf ps n))).getD (.ref q0) = .ref a1 ∧ H4 a1 = some (.tup (tupF (if nmOf ps n ∈ S.1 then S.2 (nmOf ps n) else (0, 1)))) := by
        by_cases m : nmOf ps n ∈ S.1
        · obtain ⟨o1, ev1, ho1⟩ := hR4.val m
          rw [ev1, if_pos m]
          exact ⟨o1, rfl, ho1⟩
        · rw [hR4.kyn.noVal m, if_neg m]
          exact ⟨q0, rfl, eq0⟩
      refine ⟨_, DGet.k (k := .inr (nmOf ps n)) hD4, ?_⟩
      rw [ea1]
      have s34 := s3.trans sq
      refine ⟨_, rfl, _, rfl, d, .ref q2, rfl, ?_, ?_⟩
      · have z : DGet H4 d (kV (.inr n)) (valV kvs (.inr n)) := .inl ⟨kvs, .inr n, .inr ⟨od, s34 _ _ hdB⟩, rfl, rfl⟩
        rw [ev] at z
        exact z
      have fo : FrOk (if nmOf ps n ∈ S.1 then S.2 (nmOf ps n) else (0, 1)) := by
        by_cases m : nmOf ps n ∈ S.1
        · rw [if_pos m]
          obtain ⟨z1, z2, z3⟩ := I.lo _ m
          have pw : 2 ^ (200 * (i + 1)) ≤ 2 ^ 900 := Nat.pow_le_pow_right (by decide) (by omega)
          exact ⟨Nat.lt_of_lt_of_le z2 pw, Nat.lt_of_lt_of_le z3 pw, by omega⟩
        · rw [if_neg m]; exact ⟨by decide, by decide, by decide⟩
      have fg : FrOk (g n) := ⟨Nat.lt_of_lt_of_le fx.top (Nat.pow_le_pow_right (by decide) (by decide)), Nat.lt_of_lt_of_le (show _ < 2 ^ 4 by have := fx.b0; have := fx.b1; show _ < 16; omega) (Nat.pow_le_pow_right (by decide) (by decide)), by have := fx.b0; omega⟩
      refine ⟨a1, q2, _, g n, rfl, ha1, s34 _ _ hq2, fo, fg, fun q4 nq4 => ?_⟩
      rw [plusF_comm]
      generalize eY : plusF (g n) (if nmOf ps n ∈ S.1 then S.2 (nmOf ps n) else (0, 1)) = Y
      have s5 : Same H4 (upd H4 q4 (.tup (tupF Y))) := same_upd nq4
      have eq4 : (upd H4 q4 (.tup (tupF Y))) q4 = some (.tup (tupF Y)) := upd_same
      generalize (upd H4 q4 (.tup (tupF Y))) = H6 at s5 eq4 ⊢
      have hD6 := s5 _ _ hD4
      have hR6 := hR4.same s5
      have pl := Paired.length hR6
      have Ile := I.le
      refine ⟨_, rfl, _, rfl, D, _, rfl, DPut.k (k := .inr (nmOf ps n)) hD6 (by rw [sizeLine_eq]; omega), ⟨_, _, rfl⟩, fun c ob e => ?_, _, upd_same, ?_⟩
      · rw [upd_ne (ne_of_none e nDB)]
        exact s5 _ _ (s34 _ _ e)
      · rw [renN_take en, hS]
        refine PlD.put (n := nmOf ps n) (g' := (renS ps g S n).2) (b := q4) (hR6.upd_any (o := .dK (putK kv (.inr (nmOf ps n)) (.ref q4))) (D := D) fun xs z => by rw [hD6] at z; cases z) (fun m ne => if_neg ne) ?_
        show _ = some (HO.tup (tupF (if nmOf ps n = nmOf ps n then _ else _ : Int × Int)))
        rw [if_pos rfl, eY]
        exact (upd_ne fun z => by rw [z, hD6] at eq4; cases eq4).trans eq4
    · rintro σ Hx ⟨⟨o3, o4, rfl⟩, s3, kv, hDx, hRx⟩
      rw [lk, List.take_length] at hRx
      refine ⟨s3 _ _ hdB, _, rfl, ?_⟩
      exact k D kv _ (ul _ s3) nD ((upd_ne nDn).trans hDx) (hRx.upd_any fun xs z => by rw [s3 _ _ hdB] at z; cases z)
end
end K05
namespace K05
open PySem PySem.Spec PyProof.Rows L2 RatM ClX
/-- a name that a thing may have, short -/
def NmS (n : Str) : Prop := n.length ≤ 12 ∧ nameT n.cps.toList = true
/-- new names: every key once, short names -/
structure NwOk (ps : List (Str × Str)) : Prop where
  nd : (ps.map (·.1)).Nodup
  le : ps.length ≤ 8
  nm : ∀ p ∈ ps, NmS p.1 ∧ NmS p.2
theorem NmD.kyn {kvs : List (Key × V)} {ps : List (Str × Str)} (h : NmD kvs ps) : KyN kvs (ps.map (·.1)) := by
  induction h with
  | nil => exact .nil
  | @cons a p l1 l2 x t ih => exact .cons (by rw [x]) ih
theorem NmD.old {kvs : List (Key × V)} {ps : List (Str × Str)} (n m : Str) (h : NmD kvs ps) : NmD (kvs.map fun kv => if kv.1 = .inr n then (kv.1, V.str m) else kv) (ps.map fun p => if p.1 = n then (p.1, m) else p) := by
  induction h with
  | nil => exact .nil
  | @cons a p l1 l2 x t ih =>
    refine .cons ?_ ih
    dsimp only
    subst x
    by_cases c : p.1 = n
    · rw [if_pos c, if_pos (by rw [c])]
    · rw [if_neg c, if_neg fun z => c (by injection z)]
theorem NmD.put {kvs : List (Key × V)} {ps : List (Str × Str)} (n m : Str) (h : NmD kvs ps) (nd : (ps.map (·.1)).Nodup) : ∃ ps', NmD (putK kvs (.inr n) (.str m)) ps' ∧ (ps'.map (·.1)).Nodup ∧ ps'.length ≤ ps.length + 1 ∧ ∀ p ∈ ps', p ∈ ps ∨ p = (n, m) := by
  by_cases c : n ∈ ps.map (·.1)
  · refine ⟨ps.map fun p => if p.1 = n then (p.1, m) else p, ?_, ?_, by rw [List.length_map]; omega, fun p hp => ?_⟩
    · unfold putK
      rw [valV_any]
      obtain ⟨p, hp, ep⟩ := List.mem_map.mp c
      cases e : valV kvs (.inr n) with
      | none =>
        exfalso
        clear nd
        induction h with
        | nil => cases hp
        | @cons a q l1 l2 x t ih =>
          subst x
          by_cases z : q.1 = n
          · rw [valV_pos (by rw [z])] at e
            cases e
          · rw [valV_neg fun y => z (by injection y)] at e
            have hp2 : p ∈ l2 := (List.mem_cons.mp hp).resolve_left fun y => z (by rw [← y]; exact ep)
            exact ih (List.mem_map.mpr ⟨p, hp2, ep⟩) hp2 e
      | some v => exact h.old n m
    · have : (ps.map fun p => if p.1 = n then (p.1, m) else p).map (·.1) = ps.map (·.1) := by
        rw [List.map_map]
        refine List.map_congr_left fun p _ => ?_
        show (if p.1 = n then (p.1, m) else p : Str × Str).1 = p.1
        split <;> rfl
      rw [this]
      exact nd
    · obtain ⟨q, hq, e⟩ := List.mem_map.mp hp
      by_cases z : q.1 = n
      · rw [if_pos z] at e
        exact .inr (by rw [← e, z])
      · rw [if_neg z] at e
        exact .inl (e ▸ hq)
  · refine ⟨ps ++ [(n, m)], ?_, ?_, by simp, fun p hp => (List.mem_append.mp hp).imp id List.mem_singleton.mp⟩
    · rw [putK_new _ (h.kyn.noVal c)]
      exact Paired.snoc h rfl
    · rw [List.map_append]
      exact List.nodup_append.mpr ⟨nd, by simp, fun a ha b hb e => c (by rw [e] at ha; rw [List.mem_singleton.mp hb] at ha; exact ha)⟩
def spNw : Sp := fun vs H Q _ => ∃ (t a c : Addr) (cells : List Int) (i g : Int) (xs : List Str), vs = [.ref t, .ref a] ∧ a ≠ t ∧ H a = some (.lst (xs.map V.str)) ∧ ThOk xs ∧ Till H t c cells i g ∧ 0 ≤ i ∧ i ≤ 900000 ∧ 0 ≤ g ∧
  ∀ (r : Addr) (kvs : List (Key × V)) (ps : List (Str × Str)) (i' g' : Int) (H' : Hp), NmD kvs ps → NwOk ps → 0 ≤ i' → i' ≤ i + 8 → 0 ≤ g' → Keep t H H' → r ≠ t → H' r = some (.dK kvs) → Till H' t c cells i' g' → Q (.ref r) H'
def fiveN : List Str := ["a", "b", "c", "new", "z9"]
theorem five_ok : ∀ n ∈ fiveN, n.length ≤ 12 ∧ nameT n.cps.toList = true := by decide +kernel
theorem nobody_ok : Str.length "nobody" ≤ 12 ∧ nameT (Str.ofString "nobody").cps.toList = true := by decide +kernel
section
variable {P : Program} {w : World} {K : PySem.W.Frag} {mg : Str → Option Value} {base : Heap}
abbrev nsNw : List Str := ["_law_reel_here", "_law_things_here", "_law_names_here", "_law_thing"]
theorem scNw : FnScope nsNw ["_law_reel_here", "_law_things_here"] (defScope (top 63)) := ⟨rfl, rfl, rfl, by decide +kernel, rfl, by decide +kernel, by decide +kernel⟩
theorem ok_names {f fT fO : Addr} {fd fdT fdO : FuncData} (F : FnP K "_law_names" (top 63) f fd) (GT : FnOk P w K mg base CX0 1 fT fdT ["_law_reel_here", "_law_many"] spCoin) (bT : Binds K fdT ["_law_reel_here", "_law_many"] []) (kT : PySem.W.keepIn K (.ref fT) = true) (gT : mg "_law_turn" = some (.ref fT))
    (GO : FnOk P w K mg base CX0 2 fO fdO ["_law_reel_here", "_law_some"] spOf) (bO : Binds K fdO ["_law_reel_here", "_law_some"] []) (kO : PySem.W.keepIn K (.ref fO) = true) (gO : mg "_law_pick" = some (.ref fO)) :
    FnOk P w K mg base CX0 3 f fd ["_law_reel_here", "_law_things_here"] spNw := by
  refine F.ok scNw (fun vs H Q E h => ?_) (fun cdv A outer s H vs Q E hr h => ?_)
  · obtain ⟨t, a, c, cells, i, g, xs, rfl, _⟩ := h
    rfl
  · obtain ⟨t, a, c, cells, i, g, xs, rfl, nat, ha, ok, hT, hi0, hi1, hg, k⟩ := h
    have hr2 : Room 2 _ := hr
    have hu1 : (A.deeper (envOfC (Str.ofString "_law_names") (defScope (top 63)) s.heap.objs.size f cdv)).units + 1 < cLine := by have := hr2.units; omega
    refine ⟨_, PSs.nox (pss_cons (ps_set (i := 2) scNw.nd rfl (.inl rfl) (pe_disp (pps_cons pe_str pe_str pps_nil) (by rfl) (by rfl) (fun z => by cases z) (by decide)))
      (pss_cons (ps_for PassesOwn.never rfl (pi_list (pv 1)) (pg_name (i := 3) scNw.nd rfl (.inl rfl))
        (pss_one (ps_if (pt_cmpR op_gt (pe_call GT (hr2.mono (by decide)) rfl gT kT bT .nil pass0 (pa_cons (pv 0) (pa_cons pe_int pa_nil))) pe_int (nomark _))
          (pss_one (ps_dput hu1 (pv 2) (pv 3) (pe_call GO hr2 rfl gO kO bO .nil pass0 (pa_cons (pv 0) (pa_cons (pe_op op_cat (pe_lst (pa_cons pe_str (pa_cons pe_str (pa_cons pe_str (pa_cons pe_str (pa_cons pe_str pa_nil)))))) (pv 1)) pa_nil))) (by rfl))) pss_nil)))
      (pss_one (ps_ret (pv 2))))), ?_⟩
    refine fun D nD => ⟨upd_same, [(.inr "nobody", .str "a")], rfl, by decide, ?_⟩
    have hm : mergeK [] [((.inr "nobody" : Key), V.str "a")] = [(.inr "nobody", V.str "a")] := rfl
    rw [hm]
    have nDt : D ≠ t := hT.off nD
    have nDc : D ≠ c := fun e => by rw [e, hT.hc] at nD; cases nD
    have s1 : Same H (upd (upd H D (.dK [])) D (.dK [(.inr "nobody", V.str "a")])) := fun b o e => by
      rw [upd_ne (ne_of_none e nD), upd_ne (ne_of_none e nD)]; exact e
    have e1 : (upd (upd H D (.dK [])) D (.dK [(.inr "nobody", V.str "a")])) D = some (.dK [(.inr "nobody", V.str "a")]) := upd_same
    generalize (upd (upd H D (.dK [])) D (.dK [(.inr "nobody", V.str "a")])) = H1 at s1 e1 ⊢
    dsimp only [tNext, tSeq, tAsg, gName]
    have l4 : xs.length ≤ 4 := ok.le
    refine ⟨_, rfl, a, rfl, ⟨_, SqL.of (s1 _ _ ha)⟩, ?_⟩
    refine for_it (walk_list (xs := xs.map V.str)) (fun j σ Hx => (∃ o3, σ = [some (.ref t), some (.ref a), some (.ref D), o3]) ∧ Keep t H Hx ∧ (∃ i' g', 0 ≤ i' ∧ i' ≤ i + 2 * (j : Nat) ∧ 0 ≤ g' ∧ Till Hx t c cells i' g') ∧ ∃ kv ps, Hx D = some (.dK kv) ∧ NmD kv ps ∧ (ps.map (·.1)).Nodup ∧ ps.length ≤ j + 1 ∧ ∀ p ∈ ps, NmS p.1 ∧ NmS p.2)
      ⟨⟨none, rfl⟩, Keep.refl.same s1, ⟨i, g, hi0, by omega, hg, hT.same s1⟩, _, [("nobody", "a")], e1, .cons rfl .nil, by simp, by simp, fun p hp => by rw [List.mem_singleton.mp hp]; exact ⟨nobody_ok, five_ok "a" (by unfold fiveN; simp)⟩⟩
      (fun j σ Hx _ hP => SqL.of (hP.2.1 _ _ nat ha)) ?_ ?_
    · rintro j x' σ Hx Hx' hj ⟨⟨o3, rfl⟩, kp, ⟨i1, g1, a0, a1, a2, hT1⟩, kv, ps, hD, hN, nd, le, nm⟩ ⟨rfl, ex⟩
      rw [List.getElem?_map] at ex
      obtain ⟨n, en, rfl⟩ := Option.map_eq_some_iff.mp ex
      have mn := List.mem_of_getElem? en
      have jl : j < xs.length := (List.getElem?_eq_some_iff.mp en).1
      refine ⟨_, rfl, t, c, cells, i1, g1, 3, rfl, hT1, a0, by omega, a2, by decide, by decide, fun r i2 g2 H2 r0 r1 b0 b1 b2 kp2 hT2 => ?_⟩
      have hD2 := kp2 _ _ nDt hD
      have ha2 := kp2 _ _ nat (kp _ _ nat ha)
      refine ⟨_, _, rfl, rfl, _, rfl, ite2 (fun cc => ?_) (fun cc => ?_)⟩
      · refine ⟨_, rfl, by rw [sizeLine_eq]; show 5 ≤ 16777216; decide, fun p np => ?_⟩
        have sp : Same H2 (upd H2 p (.lst [.str "a", .str "b", .str "c", .str "new", .str "z9"])) := same_upd np
        have ep : (upd H2 p (.lst [.str "a", .str "b", .str "c", .str "new", .str "z9"])) p = some (.lst (fiveN.map V.str)) := upd_same
        generalize (upd H2 p (.lst [.str "a", .str "b", .str "c", .str "new", .str "z9"])) = H3 at sp ep ⊢
        refine ⟨_, rfl, p, a, _, _, rfl, rfl, ep, sp _ _ ha2, ?_, fun q nq => ?_⟩
        · rw [List.length_map, List.length_map, sizeLine_eq]
          have : fiveN.length = 5 := rfl
          omega
        rw [← List.map_append]
        have sq : Same H3 (upd H3 q (.lst ((fiveN ++ xs).map V.str))) := same_upd nq
        have eq : (upd H3 q (.lst ((fiveN ++ xs).map V.str))) q = some (.lst ((fiveN ++ xs).map V.str)) := upd_same
        have hT3 := hT2.same sp
        have qt : q ≠ t := hT3.off nq
        generalize (upd H3 q (.lst ((fiveN ++ xs).map V.str))) = H4 at sq eq ⊢
        have hT4 := hT3.same sq
        have l5 : fiveN.length = 5 := rfl
        refine ⟨t, c, q, cells, i2, g2, _, rfl, hT4, b0, by omega, b2, qt, eq, by rw [List.length_map, List.length_append]; omega, by rw [List.length_map, List.length_append]; omega, fun v i3 g3 H5 hv c0 c1 c2 kp3 hT5 => ?_⟩
        obtain ⟨m, mm, rfl⟩ := List.mem_map.mp hv
        have okm : NmS m := by
          rcases List.mem_append.mp mm with z | z
          · exact five_ok m z
          · exact ok.nm m z
        have hD5 := kp3 _ _ nDt (sq _ _ (sp _ _ hD2))
        obtain ⟨ps', q1, q2, q3, q4⟩ := hN.put n m nd
        have lp := Paired.length hN
        refine ⟨_, rfl, _, rfl, D, _, rfl, DPut.k (k := .inr n) hD5 (by rw [sizeLine_eq]; omega), ⟨_, rfl⟩, fun b o nb e => ?_, ⟨i3, g3, c0, by omega, c2, hT5.upd nDt nDc⟩, _, ps', upd_same, q1, q2, by omega, fun p hp => ?_⟩
        · rw [upd_ne (ne_of_none e nD)]
          exact kp3 _ _ nb (sq _ _ (sp _ _ (kp2 _ _ nb (kp _ _ nb e))))
        · rcases q4 p hp with z | z
          · exact nm p z
          · rw [z]; exact ⟨ok.nm n mn, okm⟩
      · exact ⟨⟨_, rfl⟩, kp.trans kp2, ⟨i2, g2, b0, by omega, b2, hT2⟩, kv, ps, hD2, hN, nd, by omega, nm⟩
    · rintro σ Hx ⟨⟨o3, rfl⟩, kp, ⟨i1, g1, a0, a1, a2, hT1⟩, kv, ps, hD, hN, nd, le, nm⟩
      rw [List.length_map] at a1 le
      exact ⟨_, rfl, k D kv ps i1 g1 Hx hN ⟨nd, by omega, nm⟩ a0 (by omega) a2 kp nDt hD hT1⟩
end
end K05
namespace K05
open PySem PySem.Spec PyProof.Rows L2 RatM ClX
/-- pairs of a name and a fraction, each in a tuple -/
abbrev NuP (H : Hp) (g : Str → Int × Int) : List Addr → List Str → Prop := Paired fun p n => ∃ o, H p = some (.tup [.str n, .ref o]) ∧ H o = some (.tup (tupF (g n)))
theorem NuP.same {H H' : Hp} {g : Str → Int × Int} {ps : List Addr} {ks : List Str} (h : NuP H g ps ks) (s : Same H H') : NuP H' g ps ks := Paired.mono' (fun a _ ⟨o, e, n⟩ => ⟨o, s _ _ e, s _ _ n⟩) h
theorem NuP.keep {H H' : Hp} {t c : Addr} {cells : List Int} {i k : Int} {g : Str → Int × Int} {ps : List Addr} {ks : List Str} (h : NuP H g ps ks) (hT : Till H t c cells i k) (kp : Keep t H H') : NuP H' g ps ks :=
  Paired.mono' (fun a _ ⟨o, e, n⟩ => ⟨o, kp a _ (fun z => by rw [z, hT.ht] at e; cases e) e, kp o _ (fun z => by rw [z, hT.ht] at n; cases n) n⟩) h
theorem NuP.upd {H : Hp} {D : Addr} {o : HO} {g : Str → Int × Int} {ps : List Addr} {ks : List Str} (h : NuP H g ps ks) (hd : ∀ xs, H D ≠ some (.tup xs)) : NuP (upd H D o) g ps ks :=
  Paired.mono' (fun a _ ⟨q, e, n⟩ => ⟨q, (upd_ne fun z => by rw [z] at e; exact hd _ e).trans e, (upd_ne fun z => by rw [z] at n; exact hd _ n).trans n⟩) h
theorem NuP.kvs {K : PySem.W.Frag} {H : Hp} {g : Str → Int × Int} {ps : List Addr} {ks : List Str} (h : NuP H g ps ks) : ∃ kvs : List (Key × V), Paired (fun p (kv : Key × V) => SqT K H p [kV kv.1, kv.2]) ps kvs ∧ PlD H g kvs ks := by
  induction h with
  | nil => exact ⟨[], .nil, .nil⟩
  | @cons a n l1 l2 x t ih =>
    obtain ⟨o, e, hn⟩ := x
    obtain ⟨kvs, h1, h2⟩ := ih
    exact ⟨(.inr n, .ref o) :: kvs, .cons (SqT.of e) h1, .cons ⟨rfl, o, rfl, hn⟩ h2⟩
/-- one more pair -/
theorem NuP.snoc {H5 : Hp} {D p o : Addr} {xs : List V} {ob : HO} {g : Str → Int × Int} {ps : List Addr} {ks : List Str} {i : Nat} {n : Str} (h : NuP H5 g ps (ks.take i)) (en : ks[i]? = some n) (hD : H5 D = some (.lst xs)) (hp : H5 p = some (.tup [.str n, .ref o])) (ho : H5 o = some (.tup (tupF (g n)))) :
    NuP (L2.upd H5 D ob) g (ps ++ [p]) (ks.take (i + 1)) := by
  rw [List.take_add_one, en]
  have nt : ∀ xs, H5 D ≠ some (.tup xs) := fun xs z => by rw [hD] at z; cases z
  exact Paired.snoc (h.upd nt) ⟨o, (upd_ne fun z => by rw [z] at hp; exact nt _ hp).trans hp, (upd_ne fun z => by rw [z] at ho; exact nt _ ho).trans ho⟩
/-- the law's common divisor of the tops, all over one bottom -/
def gcdL (L : Nat) (g : Str → Int × Int) (zs : List Str) : Nat := zs.foldl (fun s n => Nat.gcd s ((g n).1 * (L : Int).fdiv (g n).2).natAbs) 0
def leastL (g : Str → Int × Int) (zs : List Str) : Str → Int × Int := fun n => (((g n).1 * ((lcmN g zs : Nat) : Int).fdiv (g n).2).fdiv (gcdL (lcmN g zs) g zs : Nat), 1)
theorem gcdL_take {L : Nat} {g : Str → Int × Int} {zs : List Str} {i : Nat} {n : Str} (e : zs[i]? = some n) : gcdL L g (zs.take (i + 1)) = Nat.gcd (gcdL L g (zs.take i)) ((g n).1 * (L : Int).fdiv (g n).2).natAbs := by
  unfold gcdL
  rw [List.take_add_one, e, List.foldl_append]
  rfl
theorem gcdL_fold_dvd (L : Nat) (g : Str → Int × Int) : ∀ (zs : List Str) (d : Nat), zs.foldl (fun s n => Nat.gcd s ((g n).1 * (L : Int).fdiv (g n).2).natAbs) d ∣ d ∧ ∀ n ∈ zs, zs.foldl (fun s n => Nat.gcd s ((g n).1 * (L : Int).fdiv (g n).2).natAbs) d ∣ ((g n).1 * (L : Int).fdiv (g n).2).natAbs
  | [], d => ⟨Nat.dvd_refl _, fun n m => by cases m⟩
  | x :: t, d => by
    obtain ⟨h1, h2⟩ := gcdL_fold_dvd L g t (Nat.gcd d ((g x).1 * (L : Int).fdiv (g x).2).natAbs)
    refine ⟨Nat.dvd_trans h1 (Nat.gcd_dvd_left _ _), fun n m => ?_⟩
    cases m with
    | head => exact Nat.dvd_trans h1 (Nat.gcd_dvd_right _ _)
    | tail _ m => exact h2 n m
theorem gcdL_dvd {L : Nat} {g : Str → Int × Int} {zs : List Str} {n : Str} (m : n ∈ zs) : gcdL L g zs ∣ ((g n).1 * (L : Int).fdiv (g n).2).natAbs := (gcdL_fold_dvd L g zs 0).2 n m
theorem fdiv_nat (a b : Nat) : ((a : Nat) : Int).fdiv (b : Nat) = ((a / b : Nat) : Int) := by
  rw [Int.fdiv_eq_ediv_of_nonneg _ (by omega)]
  exact (Int.natCast_ediv ..).symm
theorem lcm_step (b q : Nat) : (b : Int) * ((q : Nat) : Int).fdiv ((Nat.gcd b q : Nat) : Int) = ((Nat.lcm b q : Nat) : Int) := by
  rw [fdiv_nat, ← Int.natCast_mul, ← Nat.mul_div_assoc b (Nat.gcd_dvd_right b q)]
  rfl
theorem lcm_fold_dvd (g : Str → Int × Int) : ∀ (zs : List Str) (l : Nat), l ∣ zs.foldl (fun l n => Nat.lcm l (g n).2.natAbs) l ∧ ∀ n ∈ zs, (g n).2.natAbs ∣ zs.foldl (fun l n => Nat.lcm l (g n).2.natAbs) l
  | [], l => ⟨Nat.dvd_refl _, fun n m => by cases m⟩
  | x :: t, l => by
    obtain ⟨h1, h2⟩ := lcm_fold_dvd g t (Nat.lcm l (g x).2.natAbs)
    refine ⟨Nat.dvd_trans (Nat.dvd_lcm_left _ _) h1, fun n m => ?_⟩
    cases m with
    | head => exact Nat.dvd_trans (Nat.dvd_lcm_right _ _) h1
    | tail _ m => exact h2 n m
theorem lcm_fold_pos (g : Str → Int × Int) : ∀ (zs : List Str) (l : Nat), 0 < l → (∀ n ∈ zs, 0 < (g n).2) → 0 < zs.foldl (fun l n => Nat.lcm l (g n).2.natAbs) l
  | [], l, h, _ => h
  | x :: t, l, h, p => lcm_fold_pos g t _ (Nat.lcm_pos h (by have := p x List.mem_cons_self; omega)) fun n m => p n (List.mem_cons_of_mem _ m)
def spLeastL : Sp := fun vs H Q _ => ∃ (d : Addr) (kvs : List (Key × V)) (ks : List Str) (g : Str → Int × Int), vs = [.ref d] ∧ H d = some (.dK kvs) ∧ PlD H g kvs ks ∧ ThOk ks ∧ (∀ n ∈ ks, FrD (g n)) ∧
  ∀ r kvs' zs H', Same H H' → zs.Perm (nz g ks) → sortedS zs = true → H r = none → H' r = some (.dK kvs') → PlD H' (leastL g zs) kvs' zs → Q (.ref r) H'
section
variable {P : Program} {w : World} {K : PySem.W.Frag} {mg : Str → Option Value} {base : Heap} {C BR CB BB : Addr}
abbrev nsLl : List Str := ["_law_plain", "_law_bottom", "_law_shared_here", "_law_thing"]
theorem scLl : FnScope nsLl ["_law_plain"] (defScope (top 60)) := ⟨rfl, rfl, rfl, by decide +kernel, rfl, by decide +kernel, by decide +kernel⟩
theorem ok_leastL {f fN fS : Addr} {fd fdN fdS : FuncData} (F : FnP K "_law_least" (top 60) f fd) (bd : mg "dict" = none)
    (GN : FnOk P w K mg base CX0 1 fN fdN ["_law_plain"] spNamed) (bN : Binds K fdN ["_law_plain"] []) (kN : PySem.W.keepIn K (.ref fN) = true) (gN : mg "_law_named" = some (.ref fN))
    (GS : FnOk P w K mg base CX0 1 fS fdS ["_law_one", "_law_other"] spSh) (bS : Binds K fdS ["_law_one", "_law_other"] []) (kS : PySem.W.keepIn K (.ref fS) = true) (gS : mg "_law_shared" = some (.ref fS)) :
    FnOk P w K mg base CX0 2 f fd ["_law_plain"] spLeastL := by
  refine F.ok scLl (fun vs H Q E h => ?_) (fun cdv A outer s H vs Q E hr h => ?_)
  · obtain ⟨d, kvs, ks, g, rfl, _⟩ := h
    rfl
  · obtain ⟨d, kvs, ks, g, rfl, hd, hp, ok, fr, k⟩ := h
    have hr1 : Room 1 _ := hr
    have hu1 : (A.deeper (envOfC (Str.ofString "_law_least") (defScope (top 60)) s.heap.objs.size f cdv)).units + 1 < cLine := by have := hr1.units; omega
    refine ⟨_, PSs.nox (pss_cons (ps_asg (pe_tup (pa_cons pe_int (pa_cons pe_int pa_nil))) (pg_tup rfl (pgs_cons (pg_name (i := 1) scLl.nd rfl (.inr rfl)) (pgs_cons (pg_name (i := 2) scLl.nd rfl (.inr rfl)) pgs_nil))))
      (pss_cons (ps_for PassesOwn.never rfl (pi_list (pe_call GN hr1 rfl gN kN bN .nil pass0 (pa_cons (pv 0) pa_nil))) (pg_name (i := 3) scLl.nd rfl (.inl rfl))
        (pss_one (ps_set (i := 1) scLl.nd rfl (.inr rfl) (pe_op op_mulW (pv 1) (pe_op op_fdivZ (pe_ix ix_tup (pe_dget hu1 (pv 0) (pv 3) (fun _ _ => rfl)) pe_int (fun _ _ => rfl)) (pe_call GS hr1 rfl gS kS bS .nil pass0 (pa_cons (pv 1) (pa_cons (pe_ix ix_tup (pe_dget hu1 (pv 0) (pv 3) (fun _ _ => rfl)) pe_int (fun _ _ => rfl)) pa_nil))))))))
      (pss_cons (ps_for PassesOwn.never rfl (pi_list (pe_call GN hr1 rfl gN kN bN .nil pass0 (pa_cons (pv 0) pa_nil))) (pg_name (i := 3) scLl.nd rfl (.inl rfl))
        (pss_one (ps_set (i := 2) scLl.nd rfl (.inr rfl) (pe_call GS hr1 rfl gS kS bS .nil pass0 (pa_cons (pv 2) (pa_cons (pe_op op_mulW (pe_ix ix_tup (pe_dget hu1 (pv 0) (pv 3) (fun _ _ => rfl)) pe_int (fun _ _ => rfl)) (pe_op op_fdivZ (pv 1) (pe_ix ix_tup (pe_dget hu1 (pv 0) (pv 3) (fun _ _ => rfl)) pe_int (fun _ _ => rfl)))) pa_nil))))))
      (pss_one (ps_ret (pe_callTy (call_dictP rfl) (by rfl) bd PyProof.Rows.boot_dict (pa_cons (pe_lc (own := [("_law_thing", 3)]) (g := gName 3) (tt := tYes)
        (te := tTup (tCons (tVar 3) (tCons (tTup (tCons (tOp (rI CDivZ fun i j => .int (i.fdiv j)) (tOp (rI CMulW fun i j => .int (i * j)) (tOp (rIxT K) (tDGet (tVar 0) (tVar 3)) (tC (.int 0))) (tOp (rI CDivZ fun i j => .int (i.fdiv j)) (tVar 1) (tOp (rIxT K) (tDGet (tVar 0) (tVar 3)) (tC (.int 1))))) (tVar 2)) (tCons (tC (.int 1)) tNil))) tNil)))
        rfl scLl.nd (pi_list (pe_call GN (by exact hr1) rfl gN kN bN .nil pass0 (pa_cons (pv 0) pa_nil))) (blkOk_by (N := nsLl) (sc := defScope (top 60)) (by decide +kernel))
        (fun _ _ _ _ _ => pg_name (i := 3) scLl.nd rfl (Or.inl rfl)) (fun _ _ _ _ _ => pts_nil) (fun _ _ _ _ _ => pe_tup (pa_cons (pv 3) (pa_cons (pe_tup (pa_cons (pe_op op_fdivZ (pe_op op_mulW (pe_ix ix_tup (pe_dget (by exact hu1) (pv 0) (pv 3) (fun _ _ => rfl)) pe_int (fun _ _ => rfl)) (pe_op op_fdivZ (pv 1) (pe_ix ix_tup (pe_dget (by exact hu1) (pv 0) (pv 3) (fun _ _ => rfl)) pe_int (fun _ _ => rfl)))) (pv 2)) (pa_cons pe_int pa_nil))) pa_nil)))) pa_nil))))))), ?_⟩
    have l4 : ks.length ≤ 4 := ok.le
    -- facts of the numbers
    have fq : ∀ n ∈ ks, 0 < (g n).2 ∧ (g n).2 ≤ 15 := fun n m => ⟨(fr n m).b0, (fr n m).b1⟩
    have ix0 : ∀ u v : Int, atI [V.int u, V.int v] 0 = some (.int u) := fun _ _ => rfl
    have ix1 : ∀ u v : Int, atI [V.int u, V.int v] 1 = some (.int v) := fun _ _ => rfl
    have pl : ∀ (Hy : Hp) (n : Str), Same H Hy → n ∈ ks → ∃ o, DGet Hy d (kV (.inr n)) (some (.ref o)) ∧ SqT K Hy o [.int (g n).1, .int (g n).2] := fun Hy n sy mn => by
      obtain ⟨o, ev, ho⟩ := (hp.same sy).val mn
      have z : DGet Hy d (kV (.inr n)) (valV kvs (.inr n)) := DGet.k (sy _ _ hd)
      rw [ev] at z
      exact ⟨o, z, SqT.of ho⟩
    refine ⟨by rw [sizeLine_eq]; show 2 ≤ 16777216; decide, fun p0 np0 => ⟨p0, _, rfl, SqT.of upd_same, rfl, _, _, rfl, _, _, rfl, rfl, ?_⟩⟩
    have s00 : Same H (upd H p0 (.tup [.int 1, .int 0])) := same_upd np0
    generalize (upd H p0 (.tup [.int 1, .int 0])) = H0 at s00 ⊢
    dsimp only [tNext, tSeq]
    refine ⟨_, rfl, d, kvs, ks, g, rfl, s00 _ _ hd, hp.same s00, by omega, fun p1 zs H1 s1 pz sz n1 e1 => ?_⟩
    replace s1 : Same H H1 := s00.trans s1
    have mk : ∀ n ∈ zs, n ∈ ks ∧ (g n).1 ≠ 0 := fun n m => by
      have := List.mem_filter.mp (pz.mem_iff.mp m)
      exact ⟨this.1, by simpa using this.2⟩
    have lz : zs.length ≤ 4 := by
      rw [pz.length_eq]
      exact Nat.le_trans (List.length_filter_le _ _) l4
    have nz_ : zs.Nodup := pz.nodup_iff.mpr (ok.nd.filter _)
    have q12 : ∀ n ∈ zs, (g n).2.natAbs < 2 ^ 12 := fun n m => by have := fq n (mk n m).1; show _ < 4096; omega
    have lt64 := lcmN_lt q12 lz
    have divs : ∀ n ∈ zs, (g n).2.natAbs ∣ lcmN g zs := (lcm_fold_dvd g zs 1).2
    have lpos : 0 < lcmN g zs := lcm_fold_pos g zs 1 (by decide) fun n m => (fq n (mk n m).1).1
    have lall : lcmN g zs < 2 ^ 64 := by have := lt64 zs.length; rwa [List.take_length] at this
    refine ⟨p1, rfl, ⟨_, SqL.of e1⟩, ?_⟩
    refine for_it (walk_list (xs := zs.map V.str)) (fun i σ Hx => (∃ o3, σ = [some (.ref d), some (.int ((lcmN g (zs.take i) : Nat) : Int)), some (.int 0), o3]) ∧ Same H1 Hx) ⟨⟨none, rfl⟩, Same.refl _⟩ (fun i σ Hx _ hP => SqL.of (hP.2 _ _ e1)) ?_ ?_
    · rintro i x' σ Hx Hx' hi ⟨⟨o3, rfl⟩, s2⟩ ⟨rfl, ex⟩
      rw [List.getElem?_map] at ex
      obtain ⟨n, en, rfl⟩ := Option.map_eq_some_iff.mp ex
      have mn := List.mem_of_getElem? en
      obtain ⟨q0, q1⟩ := fq n (mk n mn).1
      obtain ⟨qn, eqn⟩ : ∃ qn : Nat, (g n).2 = qn := ⟨(g n).2.toNat, by omega⟩
      have ea : (g n).2.natAbs = qn := by omega
      obtain ⟨o, dg, sq⟩ := pl Hx' n (s1.trans s2) (mk n mn).1
      have lb := lt64 i
      have gp : 0 < Nat.gcd (lcmN g (zs.take i)) qn := Nat.gcd_pos_of_pos_right _ (by omega)
      have g15 : Nat.gcd (lcmN g (zs.take i)) qn ≤ 15 := Nat.le_trans (Nat.gcd_le_right _ (by omega)) (by omega)
      refine ⟨_, rfl, _, rfl, _, rfl, d, .ref o, rfl, dg, _, _, _, _, rfl, rfl, sq, ix1 _ _, _, rfl, _, rfl, _, rfl, d, .ref o, rfl, dg, _, _, _, _, rfl, rfl, sq, ix1 _ _, _, _, rfl, ?_⟩
      rw [show Nat.gcd ((lcmN g (zs.take i) : Nat) : Int).natAbs (g n).2.natAbs = Nat.gcd (lcmN g (zs.take i)) qn by rw [ea, Int.natAbs_natCast]]
      refine ⟨_, _, rfl, rfl, ⟨by omega, log2_of (Nat.lt_of_lt_of_le (show _ < 2 ^ 4 by rw [Int.natAbs_natCast]; show _ < 16; omega) (Nat.pow_le_pow_right (by decide) (by decide)))⟩, ?_⟩
      rw [eqn]
      have dle : ((qn : Int).fdiv ((Nat.gcd (lcmN g (zs.take i)) qn : Nat) : Int)).natAbs < 2 ^ 4 := by
        rw [fdiv_nat, Int.natAbs_natCast]
        exact Nat.lt_of_le_of_lt (Nat.div_le_self _ _) (by show _ < 16; omega)
      refine ⟨_, _, rfl, rfl, wide_mul (show ((lcmN g (zs.take i) : Nat) : Int).natAbs < 2 ^ 64 by rw [Int.natAbs_natCast]; exact lb) dle (by decide) (by decide) (by decide), ⟨some (V.str n), ?_⟩, s2⟩
      dsimp only
      rw [lcm_step, lcmN_take en, ea]
      rfl
    · rintro σ Hx ⟨⟨o3, rfl⟩, s2⟩
      rw [List.length_map, List.take_length]
      have s02 := s1.trans s2
      refine ⟨_, rfl, d, kvs, ks, g, rfl, s02 _ _ hd, hp.same s02, by omega, fun p2 zs2 H2 s3 pz2 sz2 n2 e2 => ?_⟩
      obtain rfl : zs2 = zs := sorted_unique sz2 sz (pz2.trans pz.symm)
      generalize hL : lcmN g zs2 = L at divs lpos lall
      have tz : ∀ n ∈ zs2, ((g n).1 * (L : Int).fdiv (g n).2).natAbs < 2 ^ 164 ∧ (g n).1 * (L : Int).fdiv (g n).2 ≠ 0 ∧ ((L : Int).fdiv (g n).2).natAbs < 2 ^ 64 := fun n mn => by
        obtain ⟨q0, q1⟩ := fq n (mk n mn).1
        obtain ⟨qn, eqn⟩ : ∃ qn : Nat, (g n).2 = qn := ⟨(g n).2.toNat, by omega⟩
        have dv := divs n mn
        rw [eqn, Int.natAbs_natCast] at dv
        have dp : 0 < L / qn := Nat.div_pos (Nat.le_of_dvd lpos dv) (by omega)
        have dl : L / qn < 2 ^ 64 := Nat.lt_of_le_of_lt (Nat.div_le_self _ _) lall
        rw [eqn, fdiv_nat]
        have d64 : (((L / qn : Nat) : Int)).natAbs < 2 ^ 64 := by rw [Int.natAbs_natCast]; exact dl
        exact ⟨wide_lt (fr n (mk n mn).1).top d64, Int.mul_ne_zero (mk n mn).2 (by omega), d64⟩
      have step : ∀ (Hy : Hp) (n : Str), Same H Hy → n ∈ zs2 → ∃ o, DGet Hy d (kV (.inr n)) (some (.ref o)) ∧ SqT K Hy o [.int (g n).1, .int (g n).2] := fun Hy n sy mn => pl Hy n sy (mk n mn).1
      have qz : ∀ n ∈ zs2, (g n).2 ≠ 0 ∧ (g n).2.natAbs.log2 < 9000 := fun n mn => by
        obtain ⟨q0, q1⟩ := fq n (mk n mn).1
        exact ⟨by omega, log2_of (Nat.lt_of_lt_of_le (show _ < 2 ^ 4 by show _ < 16; omega) (Nat.pow_le_pow_right (by decide) (by decide)))⟩
      have mz : ∀ n ∈ zs2, CMulW (g n).1 ((L : Int).fdiv (g n).2) := fun n mn => wide_mul (fr n (mk n mn).1).top (tz n mn).2.2 (by decide) (by decide) (by decide)
      refine ⟨p2, rfl, ⟨_, SqL.of e2⟩, ?_⟩
      refine for_it (walk_list (xs := zs2.map V.str)) (fun i σ Hx => (∃ o3, σ = [some (.ref d), some (.int (L : Int)), some (.int ((gcdL L g (zs2.take i) : Nat) : Int)), o3]) ∧ Same H2 Hx) ⟨⟨o3, rfl⟩, Same.refl _⟩ (fun i σ Hx _ hP => SqL.of (hP.2 _ _ e2)) ?_ ?_
      · rintro i x' σ Hy Hx' hi ⟨⟨o3, rfl⟩, s4⟩ ⟨rfl, ex⟩
        rw [List.getElem?_map] at ex
        obtain ⟨n, en, rfl⟩ := Option.map_eq_some_iff.mp ex
        have mn := List.mem_of_getElem? en
        obtain ⟨o, dg, sq⟩ := step Hx' n (s02.trans (s3.trans s4)) mn
        refine ⟨_, rfl, _, rfl, _, rfl, d, .ref o, rfl, dg, _, _, _, _, rfl, rfl, sq, ix0 _ _, _, rfl, _, rfl, _, rfl, d, .ref o, rfl, dg, _, _, _, _, rfl, rfl, sq, ix1 _ _, _, _, rfl, rfl, qz n mn, _, _, rfl, rfl, mz n mn, _, _, rfl, ⟨some (V.str n), ?_⟩, s4⟩
        rw [gcdL_take en, Int.natAbs_natCast]
        rfl
      · rintro σ Hy ⟨⟨o3, rfl⟩, s4⟩
        rw [List.length_map, List.take_length]
        have s04 := s02.trans (s3.trans s4)
        refine ⟨_, rfl, d, kvs, ks, g, rfl, s04 _ _ hd, hp.same s04, by omega, fun p3 zs3 H3 s5 pz3 sz3 n3 e3 => ?_⟩
        obtain rfl : zs3 = zs2 := sorted_unique sz3 sz (pz3.trans pz.symm)
        refine ⟨p3, rfl, ⟨_, SqL.of e3⟩, fun D nD => ?_⟩
        have s05 := s04.trans s5
        refine lc_it (walk_list (xs := zs3.map V.str)) (fun i Hx => Same H3 Hx ∧ ∃ ps : List Addr, Hx D = some (.lst (ps.map V.ref)) ∧ NuP Hx (leastL g zs3) ps (zs3.take i)) ⟨same_upd nD, [], upd_same, .nil⟩ (fun i Hx _ hP => SqL.of (hP.1 _ _ e3)) (fun i x Hx Hx' hi hP hy => ?_) (fun H4 hP => ?_)
        · obtain ⟨rfl, ex⟩ := hy
          obtain ⟨s6, ps, hD, hN⟩ := hP
          rw [List.getElem?_map] at ex
          obtain ⟨n, en, rfl⟩ := Option.map_eq_some_iff.mp ex
          have mn := List.mem_of_getElem? en
          obtain ⟨o, dg, sq⟩ := step Hx' n (s05.trans s6) mn
          have gd : gcdL L g zs3 ∣ ((g n).1 * (L : Int).fdiv (g n).2).natAbs := gcdL_dvd mn
          have gp : 0 < gcdL L g zs3 := Nat.pos_of_dvd_of_pos gd (by have := (tz n mn).2.1; omega)
          have gl : gcdL L g zs3 ≤ ((g n).1 * (L : Int).fdiv (g n).2).natAbs := Nat.le_of_dvd (by have := (tz n mn).2.1; omega) gd
          refine ⟨rfl, yesI ?_⟩
          refine ⟨_, rfl, _, rfl, _, rfl, d, .ref o, rfl, dg, _, _, _, _, rfl, rfl, sq, ix0 _ _, _, rfl, _, rfl, _, rfl, d, .ref o, rfl, dg, _, _, _, _, rfl, rfl, sq, ix1 _ _, _, _, rfl, rfl, qz n mn, _, _, rfl, rfl, mz n mn, _, rfl, _, _, rfl, rfl, ⟨by omega, log2_of (Nat.lt_of_le_of_lt (show _ ≤ _ by rw [Int.natAbs_natCast]; exact gl) (Nat.lt_of_lt_of_le (tz n mn).1 (Nat.pow_le_pow_right (by decide) (by decide))))⟩, by rw [sizeLine_eq]; show 2 ≤ 16777216; decide, fun q nq => ?_⟩
          have ev : leastL g zs3 n = (((g n).1 * (L : Int).fdiv (g n).2).fdiv ((gcdL L g zs3 : Nat) : Int), 1) := by unfold leastL; rw [hL]
          have sq2 : Same Hx' (upd Hx' q (.tup [.int (((g n).1 * (L : Int).fdiv (g n).2).fdiv ((gcdL L g zs3 : Nat) : Int)), .int 1])) := same_upd nq
          have eq2 : (upd Hx' q (.tup [.int (((g n).1 * (L : Int).fdiv (g n).2).fdiv ((gcdL L g zs3 : Nat) : Int)), .int 1])) q = some (.tup (tupF (leastL g zs3 n))) := by rw [ev]; exact upd_same
          generalize (upd Hx' q (.tup [.int (((g n).1 * (L : Int).fdiv (g n).2).fdiv ((gcdL L g zs3 : Nat) : Int)), .int 1])) = H5 at sq2 eq2 ⊢
          refine ⟨by rw [sizeLine_eq]; show 2 ≤ 16777216; decide, fun q3 nq3 => ?_⟩
          have sq3 : Same H5 (upd H5 q3 (.tup [.str n, .ref q])) := same_upd nq3
          have eq3 : (upd H5 q3 (.tup [.str n, .ref q])) q3 = some (.tup [.str n, .ref q]) := upd_same
          generalize (upd H5 q3 (.tup [.str n, .ref q])) = H6 at sq3 eq3 ⊢
          have s56 := sq2.trans sq3
          refine ⟨_, s56 _ _ hD, ?_, fun c o' e => ?_, ps ++ [q3], ?_, ?_⟩
          · have f2 := List.length_take (i := i) (l := zs3)
            have f3 := Paired.length hN
            simp only [List.length_map]
            rw [sizeLine_eq]; omega
          · rw [upd_ne (ne_of_none e nD)]; exact s56 _ _ (s6 _ _ e)
          · rw [upd_same, List.map_append]; rfl
          · exact NuP.snoc (hN.same s56) en (s56 _ _ hD) eq3 (sq3 _ _ eq2)
        · obtain ⟨s6, ps, hD, hN⟩ := hP
          rw [List.length_map, List.take_length] at hN
          obtain ⟨kvs2, q1, q2⟩ := hN.kvs (K := K)
          refine ⟨D, ps, kvs2, rfl, SqL.of hD, q1, fun p np => ?_⟩
          rw [mergeK_names q2.kyn nz_]
          have sp : Same H4 (upd H4 p (.dK kvs2)) := same_upd np
          have s06 : Same H H4 := s05.trans s6
          exact k p kvs2 zs3 _ (s06.trans sp) pz sz (s06.free np) upd_same (q2.same sp)
end
end K05
namespace K05
open PySem PySem.Spec PyProof.Rows L2 RatM ClX
/-! ### fractions as rationals -/
/-- a fraction in lowest terms -/
def Lo (x : Int × Int) : Prop := 0 < x.2 ∧ Int.gcd x.1 x.2 = 1
def val (x : Int × Int) : Rat := Rat.divInt x.1 x.2
theorem lo_low {t b : Int} (h : b ≠ 0) : Lo (lowT t b, lowB t b) := ⟨lowB_pos h, low_gcd h⟩
theorem val_low {t b : Int} (h : b ≠ 0) : val (lowT t b, lowB t b) = Rat.divInt t b := by
  have p := lowB_pos (t := t) h
  refine (Rat.divInt_eq_divInt_iff (show lowB t b ≠ 0 by omega) h).mpr ?_
  show lowT t b * b = t * lowB t b
  have m1 := lowT_mul (t := t) h
  have m2 := lowB_mul (t := t) h
  generalize lowD t b = d at m1 m2
  generalize lowT t b = u at m1 ⊢
  generalize lowB t b = v at m2 ⊢
  subst m1
  rw [← m2]
  grind
theorem lo_ext {x y : Int × Int} (hx : Lo x) (hy : Lo y) (h : val x = val y) : x = y := by
  have e := (Rat.divInt_eq_divInt_iff (show x.2 ≠ 0 by have := hx.1; omega) (show y.2 ≠ 0 by have := hy.1; omega)).mp h
  obtain ⟨a, b⟩ := low_one hx.1 hy.1 hx.2 hy.2 e
  exact Prod.ext a b
theorem lo01 : Lo (0, 1) := ⟨by decide, by decide⟩
theorem val01 : val (0, 1) = 0 := by unfold val; exact Rat.zero_divInt 1
theorem val_int (k : Int) : val (k, 1) = (k : Rat) := by
  show Rat.divInt k 1 = k
  rw [Rat.divInt_eq_div]
  have : ((1 : Int) : Rat) = 1 := rfl
  grind
theorem lo_int (k : Int) : Lo (k, 1) := ⟨by show (0 : Int) < 1; decide, Int.gcd_one⟩
theorem val_zero {x : Int × Int} (hx : Lo x) : val x = 0 ↔ x.1 = 0 := by
  constructor
  · intro h
    have := lo_ext hx lo01 (h.trans val01.symm)
    rw [this]
  · intro h
    have b0 := hx.1
    unfold val
    rw [h, Rat.zero_divInt]
theorem lo_plus {x y : Int × Int} (hx : x.2 ≠ 0) (hy : y.2 ≠ 0) : Lo (plusF x y) := lo_low (Int.mul_ne_zero hx hy)
theorem lo_by {x y : Int × Int} (hx : x.2 ≠ 0) (hy : y.2 ≠ 0) : Lo (byF x y) := lo_low (Int.mul_ne_zero hx hy)
theorem val_plus {x y : Int × Int} (hx : x.2 ≠ 0) (hy : y.2 ≠ 0) : val (plusF x y) = val x + val y := by
  unfold plusF
  rw [val_low (Int.mul_ne_zero hx hy)]
  unfold val
  rw [Rat.divInt_add_divInt _ _ hx hy]
theorem val_by {x y : Int × Int} (hx : x.2 ≠ 0) (hy : y.2 ≠ 0) : val (byF x y) = val x * val y := by
  unfold byF
  rw [val_low (Int.mul_ne_zero hx hy)]
  unfold val
  rw [Rat.divInt_mul_divInt]
theorem val_neg (x : Int × Int) : val (-x.1, x.2) = -val x := by
  unfold val
  rw [Rat.neg_divInt]
theorem lo_neg {x : Int × Int} (h : Lo x) : Lo (-x.1, x.2) := ⟨h.1, by show Int.gcd (-x.1) x.2 = 1; rw [Int.neg_gcd]; exact h.2⟩
theorem Lo.ne {x : Int × Int} (h : Lo x) : x.2 ≠ 0 := by have := h.1; omega
/-- the sign of a fraction -/
theorem val_nonneg {x : Int × Int} (h : 0 < x.2) : 0 ≤ val x ↔ 0 ≤ x.1 := Rat.divInt_nonneg_iff_of_pos_right h
theorem val_pos {x : Int × Int} (h : Lo x) : 0 < val x ↔ 0 < x.1 := by
  have h1 := val_nonneg h.1
  have h2 := val_zero h
  constructor
  · intro z
    have a := h1.mp (by grind)
    have b : x.1 ≠ 0 := fun e => by have := h2.mpr e; grind
    omega
  · intro z
    have a := h1.mpr (by omega)
    have b : val x ≠ 0 := fun e => by have := h2.mp e; omega
    grind
theorem val_lt {x : Int × Int} (h : Lo x) : val x < 0 ↔ x.1 < 0 := by
  have := val_pos (lo_neg h)
  rw [val_neg] at this
  constructor
  · intro z
    have := this.mp (by grind)
    have : 0 < -x.1 := this
    omega
  · intro z
    have := this.mpr (show 0 < -x.1 by omega)
    grind
/-! ### balances by the numbers of all things -/
/-- a balance that has these numbers -/
structure BalV (v : Str → Rat) (g : Str → Int × Int) (zs : List Str) : Prop where
  ok : BalOk g zs
  lo : ∀ n ∈ zs, Lo (g n)
  val : ∀ n, val (num g zs n) = v n
/-- a plain balance that has these numbers -/
structure PlV (v : Str → Rat) (g : Str → Int × Int) (ks : List Str) : Prop where
  nd : ks.Nodup
  lo : ∀ n ∈ ks, Lo (g n)
  val : ∀ n, val (num g ks n) = v n
theorem num_lo {g : Str → Int × Int} {zs : List Str} (h : ∀ n ∈ zs, Lo (g n)) (n : Str) : Lo (num g zs n) := by
  unfold num
  by_cases m : n ∈ zs
  · rw [if_pos m]; exact h n m
  · rw [if_neg m]; exact lo01
theorem num_in {g : Str → Int × Int} {zs : List Str} {n : Str} (m : n ∈ zs) : num g zs n = g n := if_pos m
theorem num_out {g : Str → Int × Int} {zs : List Str} {n : Str} (m : n ∉ zs) : num g zs n = (0, 1) := if_neg m
theorem BalV.mem {v : Str → Rat} {g : Str → Int × Int} {zs : List Str} (h : BalV v g zs) (n : Str) : n ∈ zs ↔ v n ≠ 0 := by
  rw [← h.val n]
  constructor
  · intro m
    rw [num_in m]
    exact fun e => h.ok.ne n m ((val_zero (h.lo n m)).mp e)
  · intro e
    by_cases m : n ∈ zs
    · exact m
    · rw [num_out m, val01] at e
      exact absurd rfl e
theorem PlV.mem {v : Str → Rat} {g : Str → Int × Int} {ks : List Str} (h : PlV v g ks) (n : Str) : n ∈ nz g ks ↔ v n ≠ 0 := by
  rw [← h.val n]
  constructor
  · intro m
    obtain ⟨m1, m2⟩ := List.mem_filter.mp m
    rw [num_in m1]
    exact fun e => by
      have := (val_zero (h.lo n m1)).mp e
      simp [this] at m2
  · intro e
    by_cases m : n ∈ ks
    · rw [num_in m] at e
      refine List.mem_filter.mpr ⟨m, ?_⟩
      have : (g n).1 ≠ 0 := fun z => e ((val_zero (h.lo n m)).mpr z)
      simp [this]
    · rw [num_out m, val01] at e
      exact absurd rfl e
theorem BalV.at_ {v : Str → Rat} {g : Str → Int × Int} {zs : List Str} (h : BalV v g zs) {n : Str} (m : n ∈ zs) : K05.val (g n) = v n := by
  rw [← h.val n, num_in m]
/-- two balances with the same numbers are the same -/
theorem BalV.same {v v2 : Str → Rat} {g g2 : Str → Int × Int} {zs zs2 : List Str} (h : BalV v g zs) (h2 : BalV v2 g2 zs2) (e : ∀ n, v n = v2 n) : zs = zs2 ∧ ∀ n ∈ zs, g n = g2 n := by
  have p : zs.Perm zs2 := (List.perm_ext_iff_of_nodup h.ok.ns.nd h2.ok.ns.nd).mpr fun n => by rw [h.mem, h2.mem, e]
  have q := sorted_unique h.ok.so h2.ok.so p
  refine ⟨q, fun n m => lo_ext (h.lo n m) (h2.lo n (q ▸ m)) ?_⟩
  rw [h.at_ m, h2.at_ (q ▸ m), e]
theorem BalV.plain {v v2 : Str → Rat} {g g2 : Str → Int × Int} {zs ks : List Str} (h : BalV v g zs) (h2 : PlV v2 g2 ks) (e : ∀ n, v n = v2 n) : zs.Perm (nz g2 ks) ∧ (∀ n ∈ zs, g n = g2 n) ∧ ∀ n ∈ zs, 0 < (g2 n).2 ∧ Int.gcd (g2 n).1 (g2 n).2 = 1 := by
  have p : zs.Perm (nz g2 ks) := (List.perm_ext_iff_of_nodup h.ok.ns.nd (h2.nd.filter _)).mpr fun n => by rw [h.mem, h2.mem, e]
  have mk : ∀ n ∈ zs, n ∈ ks := fun n m => (List.mem_filter.mp (p.mem_iff.mp m)).1
  refine ⟨p, fun n m => lo_ext (h.lo n m) (h2.lo n (mk n m)) ?_, fun n m => h2.lo n (mk n m)⟩
  rw [h.at_ m, ← num_in (g := g2) (mk n m), h2.val, e]
/-- a balance out of a dict -/
theorem BalV.of {v : Str → Rat} {g : Str → Int × Int} {ys : List Str} (ns : NsOk ys) (so : sortedS ys = true) (lo : ∀ n ∈ ys, Lo (g n)) (hv : ∀ n, K05.val (num g ys n) = v n) : BalV v g (nz g ys) := by
  refine ⟨⟨ns.filter _, sorted_filter _ so, fun n m => by have := (List.mem_filter.mp m).2; simpa using this⟩, fun n m => lo n (List.mem_filter.mp m).1, fun n => ?_⟩
  rw [← hv n]
  by_cases m : n ∈ ys
  · by_cases z : (g n).1 = 0
    · rw [num_out (fun y => by have := (List.mem_filter.mp y).2; simp [z] at this), num_in m, val01, (val_zero (lo n m)).mpr z]
    · rw [num_in (List.mem_filter.mpr ⟨m, by simp [z]⟩), num_in m]
  · rw [num_out m, num_out fun y => m (List.mem_filter.mp y).1]
theorem num_perm {g : Str → Int × Int} {zs ys : List Str} (p : ys.Perm zs) (n : Str) : num g ys n = num g zs n := by
  unfold num
  by_cases m : n ∈ zs
  · rw [if_pos m, if_pos (p.mem_iff.mpr m)]
  · rw [if_neg m, if_neg fun z => m (p.mem_iff.mp z)]
theorem NsOk.pm {zs ys : List Str} (h : NsOk zs) (p : ys.Perm zs) : NsOk ys := h.perm p
end K05
namespace K05
open PySem PySem.Spec PyProof.Rows L2 RatM ClX
theorem BalV.out {v : Str → Rat} {g : Str → Int × Int} {zs : List Str} (h : BalV v g zs) {n : Str} (m : n ∉ zs) : v n = 0 := by rw [← h.val n, num_out m, val01]
theorem mul_by (g : Str → Int × Int) (r : Int × Int) (n : Str) : mulF g r n = byF (g n) r := rfl
/-- n times r -/
theorem BalV.mul {v : Str → Rat} {g : Str → Int × Int} {zs : List Str} {r : Int × Int} (h : BalV v g zs) (hr : r.2 ≠ 0) : BalV (fun n => v n * K05.val r) (mulF g r) (nz (mulF g r) zs) := by
  refine BalV.of h.ok.ns h.ok.so (fun n m => lo_by (h.lo n m).ne hr) fun n => ?_
  by_cases m : n ∈ zs
  · rw [num_in m, mul_by, val_by (h.lo n m).ne hr, h.at_ m]
  · rw [num_out m, val01]
    rw [h.out m, Rat.zero_mul]
theorem joinN_mem {zs zs2 : List Str} {n : Str} : n ∈ joinN zs zs2 ↔ n ∈ zs ∨ n ∈ zs2 := by
  unfold joinN
  rw [List.mem_append, List.mem_filter]
  constructor
  · exact fun z => z.imp id fun z => z.1
  · intro z
    by_cases m : n ∈ zs
    · exact .inl m
    · exact .inr ⟨z.resolve_left m, by simp [m]⟩
/-- one and k times the other -/
theorem BalV.sum {v v2 : Str → Rat} {g g2 : Str → Int × Int} {zs zs2 ys : List Str} {k : Int} (h : BalV v g zs) (h2 : BalV v2 g2 zs2) (ll : zs.length + zs2.length ≤ 60) (p : ys.Perm (joinN zs zs2)) (so : sortedS ys = true) :
    BalV (fun n => v n + v2 n * k) (sumF g zs g2 zs2 k) (nz (sumF g zs g2 zs2 k) ys) := by
  have ne1 : ((k, 1) : Int × Int).2 ≠ 0 := by show (1 : Int) ≠ 0; decide
  have lm : ∀ n ∈ zs2, Lo (mulF g2 (k, 1) n) := fun n m => lo_by (h2.lo n m).ne ne1
  have nl := num_lo h.lo
  have e2 : ∀ n ∈ zs2, sumF g zs g2 zs2 k n = plusF (mulF g2 (k, 1) n) (num g zs n) := fun n m => if_pos m
  have e1 : ∀ n, n ∉ zs2 → sumF g zs g2 zs2 k n = g n := fun n m => if_neg m
  refine BalV.of ((joinN_ok h.ok.ns h2.ok.ns ll).perm p) so (fun n m => ?_) fun n => ?_
  · by_cases m2 : n ∈ zs2
    · rw [e2 n m2]
      exact lo_plus (lm n m2).ne (nl n).ne
    · rw [e1 n m2]
      exact h.lo n ((joinN_mem.mp (p.mem_iff.mp m)).resolve_right m2)
  · rw [num_perm p]
    have z2 : n ∉ zs2 → v2 n = 0 := fun m => h2.out m
    have z1 : n ∉ zs → v n = 0 := fun m => h.out m
    by_cases m2 : n ∈ zs2
    · rw [num_in (joinN_mem.mpr (.inr m2)), e2 n m2, val_plus (lm n m2).ne (nl n).ne, mul_by, val_by (h2.lo n m2).ne ne1, h.val, h2.at_ m2, val_int, Rat.add_comm]
    · rw [z2 m2, Rat.zero_mul, Rat.add_zero]
      by_cases m : n ∈ zs
      · rw [num_in (joinN_mem.mpr (.inl m)), e1 n m2, h.at_ m]
      · rw [num_out fun z => (joinN_mem.mp z).elim m m2, val01, z1 m]
/-- the law's own sum -/
theorem PlV.sum {v v2 : Str → Rat} {g g2 : Str → Int × Int} {ks k2 : List Str} {x : Int × Int} (h : PlV v g ks) (h2 : PlV v2 g2 k2) (hx : x.2 ≠ 0) : PlV (fun n => v n + v2 n * K05.val x) (sumL g ks g2 k2 x) (joinN ks k2) := by
  have lm : ∀ n ∈ k2, Lo (byF (g2 n) x) := fun n m => lo_by (h2.lo n m).ne hx
  have nl := num_lo h.lo
  have e2 : ∀ n ∈ k2, sumL g ks g2 k2 x n = plusF (num g ks n) (byF (g2 n) x) := fun n m => if_pos m
  have e1 : ∀ n, n ∉ k2 → sumL g ks g2 k2 x n = g n := fun n m => if_neg m
  refine ⟨?_, fun n m => ?_, fun n => ?_⟩
  · exact List.nodup_append.mpr ⟨h.nd, h2.nd.filter _, fun a ha b hb e => by
      subst e
      have := (List.mem_filter.mp hb).2
      simp [ha] at this⟩
  · by_cases m2 : n ∈ k2
    · rw [e2 n m2]
      exact lo_plus (nl n).ne (lm n m2).ne
    · rw [e1 n m2]
      exact h.lo n ((joinN_mem.mp m).resolve_right m2)
  · have z2 : n ∉ k2 → v2 n = 0 := fun m => by rw [← h2.val n, num_out m, val01]
    have z1 : n ∉ ks → v n = 0 := fun m => by rw [← h.val n, num_out m, val01]
    by_cases m2 : n ∈ k2
    · rw [num_in (joinN_mem.mpr (.inr m2)), e2 n m2, val_plus (nl n).ne (lm n m2).ne, val_by (h2.lo n m2).ne hx, h.val, ← num_in (g := g2) m2, h2.val]
    · rw [z2 m2, Rat.zero_mul, Rat.add_zero]
      by_cases m : n ∈ ks
      · rw [num_in (joinN_mem.mpr (.inl m)), e1 n m2, ← num_in (g := g) m, h.val]
      · rw [num_out fun z => (joinN_mem.mp z).elim m m2, val01, z1 m]
/-- what a drawn dict has as numbers -/
def vOf (g : Str → Int × Int) (ks : List Str) : Str → Rat := fun n => K05.val (num g ks n)
theorem PlV.drawn {g : Str → Int × Int} {ks : List Str} (nd : ks.Nodup) (fr : ∀ n ∈ ks, FrD (g n)) : PlV (vOf g ks) g ks := ⟨nd, fun n m => ⟨(fr n m).b0, (fr n m).gcd⟩, fun n => rfl⟩
theorem BalV.drawn {g : Str → Int × Int} {ks ys : List Str} (ok : NsOk ks) (fr : ∀ n ∈ ks, FrD (g n)) (p : ys.Perm ks) (so : sortedS ys = true) : BalV (vOf g ks) g (nz g ys) :=
  BalV.of (ok.perm p) so (fun n m => ⟨(fr n (p.mem_iff.mp m)).b0, (fr n (p.mem_iff.mp m)).gcd⟩) fun n => by rw [num_perm p]; rfl
theorem PlV.empty : PlV (fun _ => 0) (fun _ => (0, 1)) [] := ⟨List.nodup_nil, fun n m => by (cases m), fun n => val01⟩
/-- gains and losses -/
theorem BalV.gains {v : Str → Rat} {g : Str → Int × Int} {zs : List Str} (h : BalV v g zs) : BalV (fun n => if 0 < v n then v n else 0) g (zs.filter fun n => decide (0 < (g n).1)) := by
  refine ⟨h.ok.filter _, fun n m => h.lo n (List.mem_filter.mp m).1, fun n => ?_⟩
  by_cases m : n ∈ zs
  · have e := h.at_ m
    by_cases p : 0 < (g n).1
    · rw [num_in (List.mem_filter.mpr ⟨m, decide_eq_true p⟩), e, if_pos (by rw [← e]; exact (val_pos (h.lo n m)).mpr p)]
    · rw [num_out (fun y => p (of_decide_eq_true (List.mem_filter.mp y).2)), val01, if_neg (by rw [← e]; exact fun z => p ((val_pos (h.lo n m)).mp z))]
  · have z : v n = 0 := h.out m
    rw [num_out fun y => m (List.mem_filter.mp y).1, val01, z, if_neg (by decide)]
theorem BalV.losses {v : Str → Rat} {g : Str → Int × Int} {zs : List Str} (h : BalV v g zs) : BalV (fun n => if v n < 0 then -v n else 0) (fun n => (-(g n).1, (g n).2)) (zs.filter fun n => decide ((g n).1 < 0)) := by
  refine ⟨h.ok.neg.filter _, fun n m => lo_neg (h.lo n (List.mem_filter.mp m).1), fun n => ?_⟩
  by_cases m : n ∈ zs
  · have e := h.at_ m
    by_cases p : (g n).1 < 0
    · rw [num_in (List.mem_filter.mpr ⟨m, decide_eq_true p⟩), val_neg, e, if_pos (by rw [← e]; exact (val_lt (h.lo n m)).mpr p)]
    · rw [num_out (fun y => p (of_decide_eq_true (List.mem_filter.mp y).2)), val01, if_neg (by rw [← e]; exact fun z => p ((val_lt (h.lo n m)).mp z))]
  · have z : v n = 0 := h.out m
    rw [num_out fun y => m (List.mem_filter.mp y).1, val01, z, if_neg (by decide)]
end K05
namespace K05
open PySem PySem.Spec PyProof.Rows L2 RatM ClX
/-! ### least terms -/
theorem gcd_step {D L t q : Nat} (hL : 0 < L) (hq : 0 < q) (h1 : Nat.Coprime D L) (h2 : Nat.Coprime t q) : Nat.gcd (D * (Nat.lcm L q / L)) (t * (Nat.lcm L q / q)) = Nat.gcd D t := by
  have gp : 0 < Nat.gcd L q := Nat.gcd_pos_of_pos_left _ hL
  obtain ⟨a, ha⟩ := Nat.gcd_dvd_left L q
  obtain ⟨b, hb⟩ := Nat.gcd_dvd_right L q
  have cop : Nat.Coprime a b := by
    have := Nat.coprime_div_gcd_div_gcd gp
    rwa [Nat.div_eq_of_eq_mul_right gp ha, Nat.div_eq_of_eq_mul_right gp hb] at this
  have e1 : Nat.lcm L q = L * b := by
    unfold Nat.lcm
    refine Nat.div_eq_of_eq_mul_right gp ?_
    generalize Nat.gcd L q = G at ha hb
    rw [hb]
    exact Nat.mul_left_comm _ _ _
  have e2 : Nat.lcm L q = q * a := by
    unfold Nat.lcm
    refine Nat.div_eq_of_eq_mul_right gp ?_
    generalize Nat.gcd L q = G at ha hb
    rw [ha]
    grind
  have d1 : Nat.lcm L q / L = b := by rw [e1]; exact Nat.mul_div_cancel_left _ hL
  have d2 : Nat.lcm L q / q = a := by rw [e2]; exact Nat.mul_div_cancel_left _ hq
  rw [d1, d2]
  have ca : a ∣ L := ⟨Nat.gcd L q, by rw [Nat.mul_comm]; exact ha⟩
  have cb : b ∣ q := ⟨Nat.gcd L q, by rw [Nat.mul_comm]; exact hb⟩
  have k1 : Nat.Coprime D a := Nat.Coprime.coprime_dvd_right ca h1
  have k2 : Nat.Coprime t b := Nat.Coprime.coprime_dvd_right cb h2
  rw [Nat.Coprime.gcd_mul_right_cancel D (Nat.Coprime.mul_right k2.symm cop.symm), Nat.Coprime.gcd_mul_right_cancel_right t k1.symm]
theorem frac_pos {a : Rat} (h : 0 < a) : ∃ x y : Nat, 0 < x ∧ 0 < y ∧ a * (y : Rat) = (x : Rat) := by
  have n0 : 0 ≤ a.num := Rat.num_nonneg.mpr (by grind)
  have n1 : a.num ≠ 0 := fun z => by have := Rat.num_eq_zero.mp z; grind
  refine ⟨a.num.toNat, a.den, by omega, Rat.den_pos _, ?_⟩
  have e := Rat.num_divInt_den a
  rw [Rat.divInt_eq_div] at e
  have h3 : (((a.den : Nat) : Int) : Rat) ≠ 0 := fun z => by
    have := Rat.intCast_eq_zero_iff.mp z
    have := Rat.den_pos a
    omega
  have h4 : ((a.num.toNat : Nat) : Rat) = (a.num : Rat) := by
    show (((a.num.toNat : Nat) : Int) : Rat) = _
    rw [Int.toNat_of_nonneg n0]
  have h5 : ((a.den : Nat) : Rat) = (((a.den : Nat) : Int) : Rat) := rfl
  rw [h4, h5]
  generalize (((a.den : Nat) : Int) : Rat) = d at e h3
  generalize (a.num : Rat) = m at e
  grind
theorem fdiv_abs {t q : Int} {M : Nat} (hq : 0 < q) : (t * (M : Int).fdiv q).natAbs = t.natAbs * (M / q.natAbs) := by
  obtain ⟨k, rfl⟩ : ∃ k : Nat, q = k := ⟨q.toNat, by omega⟩
  rw [fdiv_nat, Int.natAbs_mul, Int.natAbs_natCast, Int.natAbs_natCast]
theorem gcdL_gen {M : Nat} (hM : 0 < M) (g : Str → Int × Int) : ∀ (zs : List Str) (D L : Nat), 0 < L → Nat.Coprime D L → (∀ n ∈ zs, Lo (g n)) → zs.foldl (fun l n => Nat.lcm l (g n).2.natAbs) L ∣ M →
    zs.foldl (fun s n => Nat.gcd s ((g n).1 * (M : Int).fdiv (g n).2).natAbs) (D * (M / L)) = zs.foldl (fun d n => Nat.gcd d (g n).1.natAbs) D * (M / zs.foldl (fun l n => Nat.lcm l (g n).2.natAbs) L)
  | [], D, L, _, _, _, _ => rfl
  | x :: t, D, L, hL, hc, lo, hd => by
    have lx := lo x List.mem_cons_self
    have q0 : 0 < (g x).2.natAbs := by have := lx.1; omega
    have l0 : 0 < Nat.lcm L (g x).2.natAbs := Nat.lcm_pos hL q0
    simp only [List.foldl_cons] at hd ⊢
    have dm : Nat.lcm L (g x).2.natAbs ∣ M := Nat.dvd_trans (lcm_fold_dvd g t _).1 hd
    have cop : Nat.Coprime (g x).1.natAbs (g x).2.natAbs := lx.2
    have c2 : Nat.Coprime (Nat.gcd D (g x).1.natAbs) (Nat.lcm L (g x).2.natAbs) := by
      have a1 : Nat.Coprime (Nat.gcd D (g x).1.natAbs) L := Nat.Coprime.coprime_dvd_left (Nat.gcd_dvd_left _ _) hc
      have a2 : Nat.Coprime (Nat.gcd D (g x).1.natAbs) (g x).2.natAbs := Nat.Coprime.coprime_dvd_left (Nat.gcd_dvd_right _ _) cop
      exact Nat.Coprime.coprime_dvd_right (Nat.lcm_dvd_mul _ _) (Nat.Coprime.mul_right a1 a2)
    have e : Nat.gcd (D * (M / L)) ((g x).1 * (M : Int).fdiv (g x).2).natAbs = Nat.gcd D (g x).1.natAbs * (M / Nat.lcm L (g x).2.natAbs) := by
      rw [fdiv_abs lx.1]
      obtain ⟨k, hk⟩ := dm
      have kl : M / L = (Nat.lcm L (g x).2.natAbs / L) * k := by
        rw [hk, Nat.mul_comm, Nat.mul_div_assoc _ (Nat.dvd_lcm_left _ _), Nat.mul_comm]
      have kq : M / (g x).2.natAbs = (Nat.lcm L (g x).2.natAbs / (g x).2.natAbs) * k := by
        rw [hk, Nat.mul_comm, Nat.mul_div_assoc _ (Nat.dvd_lcm_right _ _), Nat.mul_comm]
      have km : M / Nat.lcm L (g x).2.natAbs = k := by rw [hk]; exact Nat.mul_div_cancel_left _ l0
      rw [kl, kq, km, ← Nat.mul_assoc, ← Nat.mul_assoc, Nat.gcd_mul_right, gcd_step hL q0 hc cop]
    rw [e]
    exact gcdL_gen hM g t _ _ l0 c2 (fun n m => lo n (List.mem_cons_of_mem _ m)) hd
theorem lcmN_pos {g : Str → Int × Int} {zs : List Str} (lo : ∀ n ∈ zs, Lo (g n)) : 0 < lcmN g zs := lcm_fold_pos g zs 1 (by decide) fun n m => (lo n m).1
theorem gcdL_eq {g : Str → Int × Int} {zs : List Str} (lo : ∀ n ∈ zs, Lo (g n)) : gcdL (lcmN g zs) g zs = gcdN g zs := by
  have p := lcmN_pos lo
  have := gcdL_gen p g zs 0 1 (by decide) (by decide) lo (Nat.dvd_refl _)
  rw [Nat.zero_mul] at this
  refine this.trans ?_
  show gcdN g zs * (lcmN g zs / lcmN g zs) = gcdN g zs
  rw [Nat.div_self p, Nat.mul_one]
theorem gcdN_pos {g : Str → Int × Int} {zs : List Str} {n : Str} (m : n ∈ zs) (h : (g n).1 ≠ 0) : 0 < gcdN g zs := Nat.pos_of_dvd_of_pos (gcdN_dvd m) (by omega)
/-- one of the whole numbers -/
theorem leastL_mul {g : Str → Int × Int} {zs : List Str} {n : Str} (lo : ∀ n ∈ zs, Lo (g n)) (m : n ∈ zs) (h : (g n).1 ≠ 0) : (leastL g zs n).1 * ((g n).2 * (gcdN g zs : Nat)) = (g n).1 * (lcmN g zs : Nat) := by
  have gp := gcdN_pos m h
  have q0 := (lo n m).1
  obtain ⟨qn, eqn⟩ : ∃ qn : Nat, (g n).2 = qn := ⟨(g n).2.toNat, by omega⟩
  have dv : qn ∣ lcmN g zs := by
    have := (lcm_fold_dvd g zs 1).2 n m
    rwa [eqn, Int.natAbs_natCast] at this
  have gd : gcdN g zs ∣ ((g n).1 * ((lcmN g zs : Nat) : Int).fdiv (g n).2).natAbs := by rw [← gcdL_eq lo]; exact gcdL_dvd m
  have e1 : (leastL g zs n).1 = ((g n).1 * ((lcmN g zs : Nat) : Int).fdiv (g n).2).fdiv ((gcdN g zs : Nat) : Int) := by
    show ((g n).1 * ((lcmN g zs : Nat) : Int).fdiv (g n).2).fdiv ((gcdL (lcmN g zs) g zs : Nat) : Int) = _
    rw [gcdL_eq lo]
  rw [e1]
  have gd2 : ((gcdN g zs : Nat) : Int) ∣ (g n).1 * ((lcmN g zs : Nat) : Int).fdiv (g n).2 := Int.ofNat_dvd_left.mpr gd
  obtain ⟨u, hu⟩ := gd2
  rw [hu, Int.mul_fdiv_cancel_left _ (by omega)]
  rw [eqn, fdiv_nat] at hu
  obtain ⟨w, hw⟩ := dv
  have : lcmN g zs / qn = w := by rw [hw]; exact Nat.mul_div_cancel_left _ (by omega)
  rw [this] at hu
  rw [eqn, hw, Int.natCast_mul]
  grind
theorem least_eq {g : Str → Int × Int} {zs : List Str} {n : Str} (lo : ∀ n ∈ zs, Lo (g n)) (m : n ∈ zs) (h : (g n).1 ≠ 0) : leastF g zs n = leastL g zs n := by
  have e := leastL_mul lo m h
  have b0 : (g n).2 * (gcdN g zs : Nat) ≠ 0 := Int.mul_ne_zero (lo n m).ne (by have := gcdN_pos m h; omega)
  have le := low_eq (t := (g n).1 * (lcmN g zs : Nat)) (b := (g n).2 * (gcdN g zs : Nat)) (t' := (leastL g zs n).1) (b' := 1) b0 (by decide) (by rw [Int.mul_one]; exact e.symm)
  have sf := low_self (p := (leastL g zs n).1) (q := 1) (by decide) Int.gcd_one
  refine Prod.ext ?_ ?_
  · exact le.1.trans sf.1
  · exact le.2.trans sf.2
/-- the whole numbers w have no common divisor -/
def gcdW (w : Str → Int) (zs : List Str) (d : Nat) : Nat := zs.foldl (fun d n => Nat.gcd d (w n).natAbs) d
theorem gcdW_mul (k : Nat) (w : Str → Int) : ∀ (zs : List Str) (d : Nat), gcdW (fun n => (k : Int) * w n) zs (k * d) = k * gcdW w zs d
  | [], d => rfl
  | x :: t, d => by
    show gcdW _ t (Nat.gcd (k * d) ((k : Int) * w x).natAbs) = k * gcdW w t (Nat.gcd d (w x).natAbs)
    rw [Int.natAbs_mul, Int.natAbs_natCast, Nat.gcd_mul_left]
    exact gcdW_mul k w t _
theorem gcdW_congr {w w' : Str → Int} : ∀ (zs : List Str) (d : Nat), (∀ n ∈ zs, (w n).natAbs = (w' n).natAbs) → gcdW w zs d = gcdW w' zs d
  | [], d, _ => rfl
  | x :: t, d, h => by
    show gcdW w t (Nat.gcd d (w x).natAbs) = gcdW w' t (Nat.gcd d (w' x).natAbs)
    rw [h x List.mem_cons_self]
    exact gcdW_congr t _ fun n m => h n (List.mem_cons_of_mem _ m)
/-- u is v in least terms over the things zs -/
structure LeastV (v u : Str → Rat) (zs : List Str) : Prop where
  ex : ∃ (w : Str → Int) (c : Rat), 0 < c ∧ (∀ n ∈ zs, u n = w n ∧ u n = c * v n) ∧ (zs = [] ∨ gcdW w zs 0 = 1)
  out : ∀ n, n ∉ zs → u n = 0
theorem LeastV.neg {v u : Str → Rat} {zs : List Str} (h : LeastV v u zs) : LeastV (fun n => -v n) (fun n => -u n) zs := by
  obtain ⟨⟨w, c, c0, e, p⟩, out⟩ := h
  refine ⟨⟨fun n => -w n, c, c0, fun n m => ?_, p.imp id fun z => ?_⟩, fun n m => by rw [out n m]; rfl⟩
  · obtain ⟨e1, e2⟩ := e n m
    exact ⟨by rw [e1, Rat.intCast_neg], by rw [e2]; grind⟩
  · rw [← z]
    exact gcdW_congr zs 0 fun n _ => Int.natAbs_neg _
theorem LeastV.self {v u : Str → Rat} {zs : List Str} (h : LeastV v u zs) : LeastV u u zs := by
  obtain ⟨⟨w, c, c0, e, p⟩, out⟩ := h
  exact ⟨⟨w, 1, by decide, fun n m => ⟨(e n m).1, by grind⟩, p⟩, out⟩
theorem LeastV.uniq {v u v' u' : Str → Rat} {zs : List Str} {k : Rat} (h : LeastV v u zs) (h' : LeastV v' u' zs) (k0 : 0 < k) (e : ∀ n ∈ zs, v' n = k * v n) : ∀ n, u n = u' n := by
  obtain ⟨⟨w, c, c0, ew, p⟩, out⟩ := h
  obtain ⟨⟨w', c', c0', ew', p'⟩, out'⟩ := h'
  intro n
  by_cases m : n ∈ zs
  · have zn : zs ≠ [] := fun z => by rw [z] at m; cases m
    have p := p.resolve_left zn
    have p' := p'.resolve_left zn
    -- the factor
    have rk : ∀ n ∈ zs, (w' n : Rat) * c = (c' * k) * w n := fun n m => by
      obtain ⟨a1, a2⟩ := ew n m
      obtain ⟨b1, b2⟩ := ew' n m
      have := e n m
      rw [← a1, ← b1, a2, b2, this]
      grind
    have fk : ∃ x y : Nat, 0 < x ∧ 0 < y ∧ (c' * k) * (y : Rat) = c * (x : Rat) := by
      obtain ⟨x1, y1, a1, a2, a3⟩ := frac_pos (Rat.mul_pos c0' k0)
      obtain ⟨x2, y2, b1, b2, b3⟩ := frac_pos c0
      refine ⟨x1 * y2, x2 * y1, Nat.mul_pos a1 b2, Nat.mul_pos b1 a2, ?_⟩
      rw [Rat.natCast_mul, Rat.natCast_mul]
      grind
    obtain ⟨x, y, x0, y0, exy⟩ := fk
    have wi : ∀ n ∈ zs, (y : Int) * w' n = (x : Int) * w n := fun n m => by
      have r := rk n m
      have : ((y : Int) : Rat) * (w' n : Rat) = ((x : Int) : Rat) * (w n : Rat) := by
        have y1 : (((y : Int)) : Rat) = (y : Rat) := rfl
        have x1 : (((x : Int)) : Rat) = (x : Rat) := rfl
        rw [y1, x1]
        have cn : c ≠ 0 := by grind
        have : c * ((y : Rat) * (w' n : Rat)) = c * ((x : Rat) * (w n : Rat)) := by grind
        grind
      rw [← Rat.intCast_mul, ← Rat.intCast_mul] at this
      exact Rat.intCast_inj.mp this
    have g1 := gcdW_mul y w' zs 0
    have g2 := gcdW_mul x w zs 0
    rw [Nat.mul_zero, p', Nat.mul_one] at g1
    rw [Nat.mul_zero, p, Nat.mul_one] at g2
    have gg := gcdW_congr (w := fun n => (y : Int) * w' n) (w' := fun n => (x : Int) * w n) zs 0 fun n m => by rw [wi n m]
    have xy : y = x := by rw [← g1, ← g2]; exact gg
    subst xy
    have := wi n m
    have ww : w' n = w n := Int.eq_of_mul_eq_mul_left (by omega) this
    rw [(ew n m).1, (ew' n m).1, ww]
  · rw [out n m, out' n m]
end K05
namespace K05
open PySem PySem.Spec PyProof.Rows L2 RatM ClX
theorem leastL_x {g : Str → Int × Int} {zs : List Str} {n : Str} (lo : ∀ n ∈ zs, Lo (g n)) (m : n ∈ zs) (h : (g n).1 ≠ 0) : (g n).1 * ((lcmN g zs : Nat) : Int).fdiv (g n).2 = (gcdN g zs : Nat) * (leastL g zs n).1 := by
  have gp := gcdN_pos m h
  have gd : gcdN g zs ∣ ((g n).1 * ((lcmN g zs : Nat) : Int).fdiv (g n).2).natAbs := by rw [← gcdL_eq lo]; exact gcdL_dvd m
  have e1 : (leastL g zs n).1 = ((g n).1 * ((lcmN g zs : Nat) : Int).fdiv (g n).2).fdiv ((gcdN g zs : Nat) : Int) := by
    show ((g n).1 * ((lcmN g zs : Nat) : Int).fdiv (g n).2).fdiv ((gcdL (lcmN g zs) g zs : Nat) : Int) = _
    rw [gcdL_eq lo]
  rw [e1]
  have gd2 : ((gcdN g zs : Nat) : Int) ∣ (g n).1 * ((lcmN g zs : Nat) : Int).fdiv (g n).2 := Int.ofNat_dvd_left.mpr gd
  obtain ⟨u, hu⟩ := gd2
  rw [hu, Int.mul_fdiv_cancel_left _ (by omega)]
theorem foldG {w : Str → Int} {G : Nat} {x : Str → Int} : ∀ (zs : List Str) (d : Nat), (∀ n ∈ zs, x n = (G : Int) * w n) → zs.foldl (fun s n => Nat.gcd s (x n).natAbs) (G * d) = G * gcdW w zs d
  | [], d, _ => rfl
  | y :: t, d, h => by
    show t.foldl _ (Nat.gcd (G * d) (x y).natAbs) = G * gcdW w t (Nat.gcd d (w y).natAbs)
    rw [h y List.mem_cons_self, Int.natAbs_mul, Int.natAbs_natCast, Nat.gcd_mul_left]
    exact foldG t _ fun n m => h n (List.mem_cons_of_mem _ m)
/-- in least terms -/
theorem BalV.least {v : Str → Rat} {g : Str → Int × Int} {zs : List Str} (h : BalV v g zs) :
    ∃ u, BalV u (leastF g zs) zs ∧ LeastV v u zs ∧ PlV u (leastL g zs) zs ∧ nz (leastF g zs) zs = zs ∧ ∀ n ∈ zs, leastF g zs n = leastL g zs n := by
  have eq : ∀ n ∈ zs, leastF g zs n = leastL g zs n := fun n m => least_eq h.lo m (h.ok.ne n m)
  have lo1 : ∀ n ∈ zs, Lo (leastL g zs n) := fun n m => lo_int _
  have v1 : ∀ n, K05.val (leastL g zs n) = ((leastL g zs n).1 : Rat) := fun n => val_int _
  have ne : ∀ n ∈ zs, (leastL g zs n).1 ≠ 0 := fun n m z => by
    have := leastL_mul h.lo m (h.ok.ne n m)
    rw [z, Int.zero_mul] at this
    have l0 := lcmN_pos h.lo
    exact Int.mul_ne_zero (h.ok.ne n m) (by omega) this.symm
  have nzs : nz (leastF g zs) zs = zs := List.filter_eq_self.mpr fun n m => by simp [eq n m, ne n m]
  refine ⟨fun n => K05.val (num (leastL g zs) zs n), ?_, ⟨?_, fun n m => by rw [num_out m, val01]⟩, ⟨h.ok.ns.nd, lo1, fun n => rfl⟩, nzs, eq⟩
  · refine ⟨⟨h.ok.ns, h.ok.so, fun n m => by rw [eq n m]; exact ne n m⟩, fun n m => by rw [eq n m]; exact lo1 n m, fun n => ?_⟩
    by_cases m : n ∈ zs
    · rw [num_in m, num_in m, eq n m]
    · rw [num_out m, num_out m]
  · by_cases z : zs = []
    · exact ⟨fun _ => 0, 1, by decide, (fun n m => by rw [z] at m; cases m), .inl z⟩
    · obtain ⟨n0, m0⟩ := List.exists_mem_of_ne_nil zs z
      have gp := gcdN_pos m0 (h.ok.ne n0 m0)
      have lp := lcmN_pos h.lo
      have gq : (0 : Rat) < ((gcdN g zs : Nat) : Int) := Rat.intCast_pos.mpr (by omega)
      have lq : (0 : Rat) < ((lcmN g zs : Nat) : Int) := Rat.intCast_pos.mpr (by omega)
      refine ⟨fun n => (leastL g zs n).1, ((lcmN g zs : Nat) : Int) * (((gcdN g zs : Nat) : Int) : Rat)⁻¹, Rat.mul_pos lq (Rat.inv_pos.mpr gq), fun n m => ⟨by rw [num_in m, v1], ?_⟩, .inr ?_⟩
      · rw [num_in m, v1, ← h.at_ m]
        have e := leastL_mul h.lo m (h.ok.ne n m)
        have q0 := (h.lo n m).ne
        unfold K05.val
        rw [Rat.divInt_eq_div]
        have e2 : ((leastL g zs n).1 : Rat) * (((g n).2 : Rat) * (((gcdN g zs : Nat) : Int) : Rat)) = ((g n).1 : Rat) * (((lcmN g zs : Nat) : Int) : Rat) := by
          rw [← Rat.intCast_mul, ← Rat.intCast_mul, ← Rat.intCast_mul, e]
        have q1 : ((g n).2 : Rat) ≠ 0 := fun z => q0 (Rat.intCast_eq_zero_iff.mp z)
        have g1 : (((gcdN g zs : Nat) : Int) : Rat) ≠ 0 := by grind
        generalize (((gcdN g zs : Nat) : Int) : Rat) = G at e2 g1 ⊢
        generalize (((lcmN g zs : Nat) : Int) : Rat) = L at e2 ⊢
        generalize ((g n).1 : Rat) = t at e2 ⊢
        generalize ((g n).2 : Rat) = q at e2 q1 ⊢
        generalize ((leastL g zs n).1 : Rat) = w at e2 ⊢
        grind
      · have f := foldG (w := fun n => (leastL g zs n).1) (G := gcdN g zs) (x := fun n => (g n).1 * ((lcmN g zs : Nat) : Int).fdiv (g n).2) zs 0 fun n m => leastL_x h.lo m (h.ok.ne n m)
        rw [Nat.mul_zero] at f
        have f2 : gcdL (lcmN g zs) g zs = gcdN g zs * gcdW (fun n => (leastL g zs n).1) zs 0 := f
        rw [gcdL_eq h.lo] at f2
        have : gcdN g zs * 1 = gcdN g zs * gcdW (fun n => (leastL g zs n).1) zs 0 := by rw [Nat.mul_one]; exact f2
        exact (Nat.eq_of_mul_eq_mul_left gp this).symm
/-- the numbers of the things that become m, added up -/
def rsum (ps : List (Str × Str)) (v : Str → Rat) (m : Str) : List Str → Rat
  | [] => 0
  | n :: t => (if nmOf ps n = m then v n else 0) + rsum ps v m t
theorem rsum_perm {ps : List (Str × Str)} {v : Str → Rat} {m : Str} {l l2 : List Str} (p : l.Perm l2) : rsum ps v m l = rsum ps v m l2 := by
  induction p with
  | nil => rfl
  | cons x _ ih => unfold rsum; rw [ih]
  | swap x y l => unfold rsum; unfold rsum; grind
  | trans _ _ h1 h2 => exact h1.trans h2
theorem rsum_filter {ps : List (Str × Str)} {v : Str → Rat} {m : Str} {f : Str → Bool} : ∀ l : List Str, (∀ n ∈ l, f n = false → v n = 0) → rsum ps v m (l.filter f) = rsum ps v m l
  | [], _ => rfl
  | n :: t, h => by
    have ih := rsum_filter (ps := ps) (m := m) t fun x hx => h x (List.mem_cons_of_mem _ hx)
    by_cases c : f n = true
    · rw [List.filter_cons_of_pos c]
      unfold rsum
      rw [ih]
    · rw [List.filter_cons_of_neg c]
      have := h n List.mem_cons_self (by simpa using c)
      conv => rhs; unfold rsum
      rw [ih, this]
      grind
theorem rsum_congr {ps : List (Str × Str)} {v v2 : Str → Rat} {m : Str} : ∀ l : List Str, (∀ n ∈ l, v n = v2 n) → rsum ps v m l = rsum ps v2 m l
  | [], _ => rfl
  | n :: t, h => by
    unfold rsum
    rw [h n List.mem_cons_self, rsum_congr t fun x hx => h x (List.mem_cons_of_mem _ hx)]
theorem renS_num (ps : List (Str × Str)) (g : Str → Int × Int) (s : List Str × (Str → Int × Int)) (n m : Str) :
    num (renS ps g s n).2 (renS ps g s n).1 m = if m = nmOf ps n then plusF (g n) (num s.2 s.1 (nmOf ps n)) else num s.2 s.1 m := by
  have mem : m ∈ (renS ps g s n).1 ↔ m ∈ s.1 ∨ m = nmOf ps n := by
    unfold renS
    dsimp only
    by_cases c : nmOf ps n ∈ s.1
    · rw [if_pos c]
      exact ⟨.inl, fun z => z.elim id fun z => z ▸ c⟩
    · rw [if_neg c, List.mem_append, List.mem_singleton]
  by_cases e : m = nmOf ps n
  · rw [if_pos e, num_in (mem.mpr (.inr e))]
    show (if m = nmOf ps n then _ else _ : Int × Int) = _
    rw [if_pos e]
    rfl
  · rw [if_neg e]
    by_cases c : m ∈ s.1
    · rw [num_in (mem.mpr (.inl c)), num_in c]
      exact if_neg e
    · rw [num_out fun z => (mem.mp z).elim c e, num_out c]
theorem renN_gen {ps : List (Str × Str)} {g : Str → Int × Int} : ∀ (l : List Str) (s : List Str × (Str → Int × Int)), (∀ n ∈ l, Lo (g n)) → (∀ m, Lo (num s.2 s.1 m)) → ∀ m, Lo (num (l.foldl (renS ps g) s).2 (l.foldl (renS ps g) s).1 m) ∧
    K05.val (num (l.foldl (renS ps g) s).2 (l.foldl (renS ps g) s).1 m) = K05.val (num s.2 s.1 m) + rsum ps (fun n => K05.val (g n)) m l
  | [], s, _, hs, m => ⟨hs m, by show _ = _ + (0 : Rat); grind⟩
  | n :: t, s, lo, hs, m => by
    have ln := lo n List.mem_cons_self
    have st : ∀ m, Lo (num (renS ps g s n).2 (renS ps g s n).1 m) := fun m => by
      rw [renS_num]
      by_cases e : m = nmOf ps n
      · rw [if_pos e]; exact lo_plus ln.ne (hs _).ne
      · rw [if_neg e]; exact hs m
    obtain ⟨h1, h2⟩ := renN_gen t (renS ps g s n) (fun x hx => lo x (List.mem_cons_of_mem _ hx)) st m
    refine ⟨h1, ?_⟩
    rw [List.foldl_cons, h2, renS_num]
    show _ = _ + ((if nmOf ps n = m then K05.val (g n) else 0) + rsum ps _ m t)
    by_cases e : m = nmOf ps n
    · rw [if_pos e, if_pos e.symm, val_plus ln.ne (hs _).ne, ← e]
      grind
    · rw [if_neg e, if_neg (Ne.symm e)]
      grind
theorem renN_val {ps : List (Str × Str)} {g : Str → Int × Int} {l : List Str} (lo : ∀ n ∈ l, Lo (g n)) (m : Str) : Lo (num (renN ps g l).2 (renN ps g l).1 m) ∧ K05.val (num (renN ps g l).2 (renN ps g l).1 m) = rsum ps (fun n => K05.val (g n)) m l := by
  obtain ⟨h1, h2⟩ := renN_gen (ps := ps) l ([], fun _ => (0, 1)) lo (fun m => lo01) m
  refine ⟨h1, h2.trans ?_⟩
  rw [num_out (by simp), val01, Rat.zero_add]
theorem renJ_all {ps : List (Str × Str)} {g : Str → Int × Int} {ks : List Str} (n2 : NsT (ps.map (·.2))) (ok : ∀ n ∈ ks, n.length ≤ 100000 ∧ nameT n.cps.toList = true) (fr : ∀ n ∈ ks, FrD (g n)) : RenJ (renN ps g ks) ks.length := by
  have ri : ∀ i, i ≤ ks.length → RenJ (renN ps g (ks.take i)) i := by
    intro i
    induction i with
    | zero => exact fun _ => ⟨List.nodup_nil, Nat.le_refl _, fun n m => (by cases m), fun n m => (by cases m)⟩
    | succ i ih =>
      intro hi
      have en : ks[i]? = some ks[i] := List.getElem?_eq_getElem (by omega)
      have mn := List.mem_of_getElem? en
      rw [renN_take en]
      have fx := fr _ mn
      exact (ih (by omega)).step ⟨fx.top, Nat.lt_of_lt_of_le (show _ < 2 ^ 4 by have := fx.b0; have := fx.b1; show _ < 16; omega) (Nat.pow_le_pow_right (by decide) (by decide))⟩ fx.b0 (nmOf_ok n2 (ok _ mn))
  have := ri ks.length (Nat.le_refl _)
  rwa [List.take_length] at this
theorem num_self_in {s : List Str × (Str → Int × Int)} {m : Str} (h : m ∈ s.1) : num s.2 s.1 m = s.2 m := num_in h
/-- renamed by the law -/
theorem PlV.ren {ps : List (Str × Str)} {g : Str → Int × Int} {ks : List Str} (n2 : NsT (ps.map (·.2))) (ok : ∀ n ∈ ks, n.length ≤ 100000 ∧ nameT n.cps.toList = true) (fr : ∀ n ∈ ks, FrD (g n)) :
    PlV (fun m => rsum ps (fun n => K05.val (g n)) m ks) (renN ps g ks).2 (renN ps g ks).1 := by
  have lo : ∀ n ∈ ks, Lo (g n) := fun n m => ⟨(fr n m).b0, (fr n m).gcd⟩
  exact ⟨(renJ_all n2 ok fr).nd, fun m hm => by have := (renN_val (ps := ps) lo m).1; rwa [num_in hm] at this, fun m => (renN_val lo m).2⟩
/-- renamed by the package -/
theorem BalV.ren {ps : List (Str × Str)} {g : Str → Int × Int} {ks ys : List Str} (n2 : NsT (ps.map (·.2))) (l : ks.length ≤ 60) (ok : ∀ n ∈ ks, n.length ≤ 100000 ∧ nameT n.cps.toList = true) (fr : ∀ n ∈ ks, FrD (g n)) (p : ys.Perm (renN ps g ks).1) (so : sortedS ys = true) :
    BalV (fun m => rsum ps (fun n => K05.val (g n)) m ks) (renN ps g ks).2 (nz (renN ps g ks).2 ys) := by
  have lo : ∀ n ∈ ks, Lo (g n) := fun n m => ⟨(fr n m).b0, (fr n m).gcd⟩
  have R := renJ_all n2 ok fr
  refine BalV.of (NsOk.perm ⟨R.nd, by have := R.le; omega, R.nm⟩ p) so (fun m hm => ?_) fun m => ?_
  · have := (renN_val (ps := ps) lo m).1
    rwa [num_in (p.mem_iff.mp hm)] at this
  · rw [num_perm p]
    exact (renN_val lo m).2
end K05
namespace K05
open PySem PySem.Spec PyProof.Rows L2 RatM ClX
/-- how often n stands in l -/
def cnt (l : List Str) (n : Str) : Nat := l.countP fun x => decide (x = n)
theorem cntS_num (s : List Str × (Str → Int × Int)) (n m : Str) : num (cntS s n).2 (cntS s n).1 m = if m = n then ((num s.2 s.1 n).1 + 1, 1) else num s.2 s.1 m := by
  have mem : m ∈ (cntS s n).1 ↔ m ∈ s.1 ∨ m = n := by
    unfold cntS
    dsimp only
    by_cases c : n ∈ s.1
    · rw [if_pos c]
      exact ⟨.inl, fun z => z.elim id fun z => z ▸ c⟩
    · rw [if_neg c, List.mem_append, List.mem_singleton]
  by_cases e : m = n
  · rw [if_pos e, num_in (mem.mpr (.inr e))]
    show (if m = n then _ else _ : Int × Int) = _
    rw [if_pos e]
    unfold num
    by_cases c : n ∈ s.1
    · rw [if_pos c, if_pos c]
    · rw [if_neg c, if_neg c]
  · rw [if_neg e]
    by_cases c : m ∈ s.1
    · rw [num_in (mem.mpr (.inl c)), num_in c]
      exact if_neg e
    · rw [num_out fun z => (mem.mp z).elim c e, num_out c]
theorem cnt_gen : ∀ (l : List Str) (s : List Str × (Str → Int × Int)), (∀ m, (num s.2 s.1 m).2 = 1) → ∀ m, num (l.foldl cntS s).2 (l.foldl cntS s).1 m = ((num s.2 s.1 m).1 + cnt l m, 1)
  | [], s, hs, m => Prod.ext (by show (num s.2 s.1 m).1 = (num s.2 s.1 m).1 + ((0 : Nat) : Int); omega) (hs m)
  | n :: t, s, hs, m => by
    have st : ∀ m, (num (cntS s n).2 (cntS s n).1 m).2 = 1 := fun m => by
      rw [cntS_num]
      by_cases e : m = n
      · rw [if_pos e]
      · rw [if_neg e]; exact hs m
    rw [List.foldl_cons, cnt_gen t (cntS s n) st m, cntS_num]
    unfold cnt
    rw [List.countP_cons]
    by_cases e : m = n
    · subst e
      rw [if_pos rfl, if_pos (decide_eq_true rfl)]
      refine Prod.ext ?_ rfl
      show (num s.2 s.1 m).1 + 1 + _ = (num s.2 s.1 m).1 + ((_ + 1 : Nat) : Int)
      omega
    · rw [if_neg e, if_neg (by simpa using Ne.symm e)]
      rfl
theorem cntN_num (l : List Str) (m : Str) : num (cntN l).2 (cntN l).1 m = ((cnt l m : Int), 1) := by
  have := cnt_gen l ([], fun _ => (0, 1)) (fun m => rfl) m
  refine this.trans (Prod.ext ?_ rfl)
  show (0 : Int) + _ = _
  omega
/-- the mean's numbers -/
def vMean (l : List Str) : Str → Rat := fun n => Rat.divInt (cnt l n) (l.length : Nat)
theorem BalV.mean {l ys : List Str} (ns : NsT l) (l60 : l.length ≤ 60) (ne : l ≠ []) (p : ys.Perm (cntN l).1) (so : sortedS ys = true) :
    BalV (vMean l) (mulF (cntN l).2 (lowT 1 (l.length : Nat), lowB 1 (l.length : Nat))) (nz (mulF (cntN l).2 (lowT 1 (l.length : Nat), lowB 1 (l.length : Nat))) ys) := by
  obtain ⟨nok, pos⟩ := cntN_ok ns l60
  have lp : ((l.length : Nat) : Int) ≠ 0 := by have := List.length_pos_iff.mpr ne; omega
  have rl := lo_low (t := 1) lp
  refine BalV.of (nok.perm p) so (fun n m => lo_by (by rw [(pos n (p.mem_iff.mp m)).2]; decide) rl.ne) fun n => ?_
  rw [num_perm p]
  have e := cntN_num l n
  unfold vMean
  by_cases m : n ∈ (cntN l).1
  · rw [num_in m] at e ⊢
    rw [mul_by, e, val_by (show (1 : Int) ≠ 0 by decide) rl.ne, val_low lp]
    show Rat.divInt _ 1 * Rat.divInt _ _ = _
    rw [Rat.divInt_mul_divInt, Int.mul_one, Int.one_mul]
  · rw [num_out m] at e ⊢
    have : (cnt l n : Int) = 0 := by
      have := congrArg Prod.fst e
      exact this.symm
    rw [val01, this, Rat.zero_divInt]
/-- the law's own mean -/
def meanL (l : List Str) : Str → Int × Int := fun n => (lowT (cnt l n) (l.length : Nat), lowB (cnt l n) (l.length : Nat))
theorem PlV.mean {l ks : List Str} (ne : l ≠ []) (nd : ks.Nodup) (mem : ∀ n, n ∈ ks ↔ n ∈ l) : PlV (vMean l) (meanL l) ks := by
  have lp : ((l.length : Nat) : Int) ≠ 0 := by have := List.length_pos_iff.mpr ne; omega
  refine ⟨nd, fun n m => lo_low lp, fun n => ?_⟩
  unfold vMean
  by_cases m : n ∈ ks
  · rw [num_in m]
    exact val_low lp
  · rw [num_out m, val01]
    have : cnt l n = 0 := by
      unfold cnt
      rw [List.countP_eq_zero]
      intro x hx z
      exact m ((mem n).mpr (by rw [← of_decide_eq_true z]; exact hx))
    rw [this]
    exact (Rat.zero_divInt _).symm
end K05
namespace K05
open PySem PySem.Spec PyProof.Rows L2 RatM ClX
/-- a balance with the numbers v, of the things zs, its numbers below 2 ^ B over 2 ^ b -/
def BX (H : Hp) (a CB C : Addr) (v : Str → Rat) (zs : List Str) (B b : Nat) : Prop := ∃ g, BalAt H a CB C g zs ∧ BalV v g zs ∧ ∀ n ∈ zs, (g n).1.natAbs < 2 ^ B ∧ (g n).2.natAbs < 2 ^ b
/-- a plain balance with the numbers v -/
def PX (H : Hp) (d : Addr) (v : Str → Rat) : Prop := ∃ kvs ks g, H d = some (.dK kvs) ∧ PlD H g kvs ks ∧ PlV v g ks ∧ ks.length ≤ 60 ∧ ∀ n ∈ ks, n.length ≤ 1000
section
variable {H H' : Hp} {a b d CB C : Addr} {v v2 : Str → Rat} {zs zs2 : List Str} {B c B2 c2 : Nat}
theorem BX.same (h : BX H a CB C v zs B c) (s : Same H H') : BX H' a CB C v zs B c := by
  obtain ⟨g, h1, h2, h3⟩ := h
  exact ⟨g, h1.same s, h2, h3⟩
theorem BX.ins (h : BX H a CB C v zs B c) : InsAt H a CB := by
  obtain ⟨g, ⟨dx, nd, tp, kt, e, _⟩, _⟩ := h
  exact ⟨dx, _, e⟩
theorem BX.up (h : BX H a CB C v zs B c) (h1 : B ≤ B2) (h2 : c ≤ c2) : BX H a CB C v zs B2 c2 := by
  obtain ⟨g, a1, a2, a3⟩ := h
  exact ⟨g, a1, a2, fun n m => ⟨Nat.lt_of_lt_of_le (a3 n m).1 (Nat.pow_le_pow_right (by decide) h1), Nat.lt_of_lt_of_le (a3 n m).2 (Nat.pow_le_pow_right (by decide) h2)⟩⟩
theorem PX.same (h : PX H d v) (s : Same H H') : PX H' d v := by
  obtain ⟨kvs, ks, g, h1, h2, h3⟩ := h
  exact ⟨kvs, ks, g, s _ _ h1, h2.same s, h3⟩
theorem bxLo {g : Str → Int × Int} (h : BalV v g zs) (z : ∀ n ∈ zs, (g n).1.natAbs < 2 ^ B ∧ (g n).2.natAbs < 2 ^ c) (hB : B ≤ B2) (hc : c ≤ B2) : BalLo B2 g zs :=
  ⟨fun n m => h.lo n m, fun n m => ⟨Nat.lt_of_lt_of_le (z n m).1 (Nat.pow_le_pow_right (by decide) hB), Nat.lt_of_lt_of_le (z n m).2 (Nat.pow_le_pow_right (by decide) hc)⟩⟩
theorem low_szT {t q : Int} {k : Nat} (hq : q ≠ 0) (h : t.natAbs < 2 ^ k) : (lowT t q).natAbs < 2 ^ k := Nat.lt_of_le_of_lt (lowT_le hq) h
theorem low_szB {t q : Int} {k : Nat} (hq : q ≠ 0) (h : q.natAbs < 2 ^ k) : (lowB t q).natAbs < 2 ^ k := Nat.lt_of_le_of_lt (lowB_le hq) h
/-- how great what is multiplied is -/
theorem by_sz {x y : Int × Int} {i j k l : Nat} (hx : x.1.natAbs < 2 ^ i ∧ x.2.natAbs < 2 ^ j) (hy : y.1.natAbs < 2 ^ k ∧ y.2.natAbs < 2 ^ l) (x0 : x.2 ≠ 0) (y0 : y.2 ≠ 0) : (byF x y).1.natAbs < 2 ^ (i + k) ∧ (byF x y).2.natAbs < 2 ^ (j + l) :=
  ⟨low_szT (Int.mul_ne_zero x0 y0) (wide_lt hx.1 hy.1), low_szB (Int.mul_ne_zero x0 y0) (wide_lt hx.2 hy.2)⟩
theorem plus_sz {x y : Int × Int} {i j k l : Nat} (hx : x.1.natAbs < 2 ^ i ∧ x.2.natAbs < 2 ^ j) (hy : y.1.natAbs < 2 ^ k ∧ y.2.natAbs < 2 ^ l) (x0 : x.2 ≠ 0) (y0 : y.2 ≠ 0) : (plusF x y).1.natAbs < 2 ^ (i + k + j + l + 1) ∧ (plusF x y).2.natAbs < 2 ^ (j + l) := by
  refine ⟨low_szT (Int.mul_ne_zero x0 y0) ?_, low_szB (Int.mul_ne_zero x0 y0) (wide_lt hx.2 hy.2)⟩
  have m1 : (x.1 * y.2).natAbs < 2 ^ (i + l) := wide_lt hx.1 hy.2
  have m2 : (y.1 * x.2).natAbs < 2 ^ (k + j) := wide_lt hy.1 hx.2
  have p1 : 2 ^ (i + l) ≤ 2 ^ (i + k + j + l) := Nat.pow_le_pow_right (by decide) (by omega)
  have p2 : 2 ^ (k + j) ≤ 2 ^ (i + k + j + l) := Nat.pow_le_pow_right (by decide) (by omega)
  have ad := Int.natAbs_add_le (x.1 * y.2) (y.1 * x.2)
  rw [Nat.pow_succ]
  omega
theorem BX.sum {k : Int} {Q : VK} {E : XK} (h : BX H a CB C v zs B c) (h2 : BX H b CB C v2 zs2 B2 c2) (hB : B ≤ 900 ∧ c ≤ 900 ∧ B2 ≤ 900 ∧ c2 ≤ 900) (ll : zs.length + zs2.length ≤ 60) (hk : k = 1 ∨ k = -1)
    (kk : ∀ a' zs' H', Same H H' → zs'.length ≤ zs.length + zs2.length → BX H' a' CB C (fun n => v n + v2 n * k) zs' (B2 + B + c2 + c + 1) (c2 + c) → Q (.ref a') H') : spAddB CB C k [.ref a, .ref b] H Q E := by
  obtain ⟨g, h1, hv, hz⟩ := h
  obtain ⟨g2, h3, hv2, hz2⟩ := h2
  refine ⟨.ref a, .ref b, rfl, a, b, g, g2, zs, zs2, k, rfl, h1, h3, hv.ok, hv2.ok, bxLo hv hz hB.1 hB.2.1, bxLo hv2 hz2 hB.2.2.1 hB.2.2.2, ll, hk, fun a' ys H' s py sy hb => ?_⟩
  have V := hv.sum (k := k) hv2 ll py sy
  refine kk a' _ H' s ?_ ⟨_, hb, V, fun n m => ?_⟩
  · refine Nat.le_trans (List.length_filter_le _ _) ?_
    rw [py.length_eq]
    unfold joinN
    rw [List.length_append]
    have := List.length_filter_le (fun n => !decide (n ∈ zs)) zs2
    omega
  · have mj := joinN_mem.mp (py.mem_iff.mp (List.mem_filter.mp m).1)
    have nsz : (num g zs n).1.natAbs < 2 ^ B ∧ (num g zs n).2.natAbs < 2 ^ c ∨ (num g zs n) = (0, 1) := by
      by_cases mz : n ∈ zs
      · rw [num_in mz]; exact .inl (hz n mz)
      · exact .inr (num_out mz)
    by_cases m2 : n ∈ zs2
    · have e : sumF g zs g2 zs2 k n = plusF (byF (g2 n) (k, 1)) (num g zs n) := if_pos m2
      have l2 := hv2.lo n m2
      have msz : (byF (g2 n) (k, 1)).1.natAbs < 2 ^ B2 ∧ (byF (g2 n) (k, 1)).2.natAbs < 2 ^ c2 := by
        refine ⟨low_szT (Int.mul_ne_zero l2.ne (show (1 : Int) ≠ 0 by decide)) ?_, low_szB (Int.mul_ne_zero l2.ne (show (1 : Int) ≠ 0 by decide)) ?_⟩
        · rw [Int.natAbs_mul]
          have := (hz2 n m2).1
          rcases hk with rfl | rfl <;> simpa using this
        · rw [Int.natAbs_mul]
          simpa using (hz2 n m2).2
      have lb := lo_by (x := g2 n) (y := (k, 1)) l2.ne (show (1 : Int) ≠ 0 by decide)
      rw [e]
      rcases nsz with z | z
      · exact plus_sz msz z lb.ne (num_lo hv.lo n).ne
      · rw [z]
        have pz : plusF (byF (g2 n) (k, 1)) (0, 1) = byF (g2 n) (k, 1) := lo_ext (lo_plus lb.ne (by decide)) lb (by rw [val_plus lb.ne (by decide), val01]; grind)
        rw [pz]
        exact ⟨Nat.lt_of_lt_of_le msz.1 (Nat.pow_le_pow_right (by decide) (by omega)), Nat.lt_of_lt_of_le msz.2 (Nat.pow_le_pow_right (by decide) (by omega))⟩
    · have e : sumF g zs g2 zs2 k n = g n := if_neg m2
      have mz := mj.resolve_right m2
      rw [e]
      exact ⟨Nat.lt_of_lt_of_le (hz n mz).1 (Nat.pow_le_pow_right (by decide) (by omega)), Nat.lt_of_lt_of_le (hz n mz).2 (Nat.pow_le_pow_right (by decide) (by omega))⟩
theorem BX.times {y : V} {r : Int × Int} {i j : Nat} {Q : VK} {E : XK} (h : BX H a CB C v zs B c) (hB : B ≤ 1900 ∧ c ≤ 1900) (hy : NumAt H C y r.1 r.2) (rz : r.1.natAbs < 2 ^ i ∧ r.2.natAbs < 2 ^ j) (hi : i ≤ 1900 ∧ j ≤ 1900) (r0 : r.2 ≠ 0)
    (kk : ∀ a' zs' H', Same H H' → zs'.length ≤ zs.length → (val r ≠ 0 → zs' = zs) → BX H' a' CB C (fun n => v n * val r) zs' (B + i) (c + j) → Q (.ref a') H') : spTimes CB C [.ref a, y] H Q E := by
  obtain ⟨g, h1, hv, hz⟩ := h
  refine ⟨a, y, g, zs, r, rfl, h1, hv.ok, bxLo hv hz hB.1 hB.2, hy, sz_of rz.1 hi.1, sz_of rz.2 hi.2, r0, fun a' H' s hb => ?_⟩
  have V := hv.mul r0
  refine kk a' _ H' s (List.length_filter_le _ _) (fun rn => ?_) ⟨_, hb, V, fun n m => by_sz (hz n (List.mem_filter.mp m).1) rz (hv.lo n (List.mem_filter.mp m).1).ne r0⟩
  refine sorted_unique V.ok.so hv.ok.so ((List.perm_ext_iff_of_nodup V.ok.ns.nd hv.ok.ns.nd).mpr fun n => ?_)
  rw [V.mem, hv.mem]
  constructor
  · intro z e
    exact z (by rw [e, Rat.zero_mul])
  · intro z e
    rcases Rat.mul_eq_zero.mp e with w | w
    · exact z w
    · exact rn w
theorem val_m1 : val (-1, 1) = -1 := by rw [val_int]; rfl
theorem BX.neg {Q : VK} {E : XK} (h : BX H a CB C v zs B c) (hB : B ≤ 1900 ∧ c ≤ 1900)
    (kk : ∀ a' H', Same H H' → BX H' a' CB C (fun n => -v n) zs (B + 1) (c + 1) → Q (.ref a') H') : spNegB CB C [.ref a] H Q E := by
  refine ⟨.ref a, rfl, h.times (y := .int (-1)) (r := (-1, 1)) (i := 1) (j := 1) hB (.inr ⟨rfl, rfl, by decide⟩) ⟨by decide, by decide⟩ ⟨by decide, by decide⟩ (by decide) fun a' zs' H' s l z hb => ?_⟩
  have e := z (by rw [val_m1]; decide)
  subst e
  refine kk a' H' s ?_
  obtain ⟨g, a1, a2, a3⟩ := hb
  refine ⟨g, a1, ⟨a2.ok, a2.lo, fun n => ?_⟩, a3⟩
  rw [a2.val, val_m1]
  grind
theorem BX.eq {Q : VK} {E : XK} (h : BX H a CB C v zs B c) (h2 : BX H b CB C v2 zs2 B2 c2) (e : ∀ n, v n = v2 n) (q : Q (.bl true) H) : spEqB CB C [.ref a, .ref b] H Q E := by
  obtain ⟨g, h1, hv, hz⟩ := h
  obtain ⟨g2, h3, hv2, hz2⟩ := h2
  obtain ⟨rfl, eg⟩ := hv.same hv2 e
  refine ⟨a, b, g, g2, zs, zs, rfl, h1, h3, hv.ok.ns, hv2.ok.ns, ?_⟩
  rw [eqv_key (fun n m => (hv.ok.ns.nm n m).2) eg]
  exact q
theorem BX.least {Q : VK} {E : XK} (h : BX H a CB C v zs B c) (hB : B ≤ 900) (hc : c ≤ 12) (l4 : zs.length ≤ 4)
    (kk : ∀ a' u H', Same H H' → BX H' a' CB C u zs (B + 64) 1 → LeastV v u zs → Q (.ref a') H') : spLeast CB C [.ref a] H Q E := by
  obtain ⟨g, h1, hv, hz⟩ := h
  have q12 : ∀ n ∈ zs, (g n).2.natAbs < 2 ^ 12 := fun n m => Nat.lt_of_lt_of_le (hz n m).2 (Nat.pow_le_pow_right (by decide) hc)
  refine ⟨a, g, zs, rfl, h1, hv.ok, bxLo hv hz hB (by omega), l4, q12, fun a' H' s hb => ?_⟩
  obtain ⟨u, V, L, _, nzs, eq⟩ := hv.least
  rw [nzs] at hb
  refine kk a' u H' s ⟨_, hb, V, fun n m => ?_⟩ L
  have b0 : (g n).2 * (gcdN g zs : Nat) ≠ 0 := Int.mul_ne_zero (hv.lo n m).ne (by have := gcdN_pos m (hv.ok.ne n m); omega)
  refine ⟨low_szT b0 (wide_lt (hz n m).1 ?_), ?_⟩
  · rw [Int.natAbs_natCast]
    have := lcmN_lt q12 l4 zs.length
    rwa [List.take_length] at this
  · rw [eq n m]
    show (1 : Int).natAbs < 2 ^ 1
    decide
theorem tx_len {x : Int × Int} (h1 : x.1.natAbs < 2 ^ 1000) (h2 : x.2.natAbs < 2 ^ 1000) : (textR x.1 x.2).length ≤ 1000 := by
  have len : ∀ {p : Int}, p.natAbs < 2 ^ 1000 → (Str.ofString (toString p)).length ≤ 401 := fun {p} h => by
    rw [PySem.ofString_length]
    exact int_text_length_le10 (k := 400) (by decide) (Nat.lt_trans h (by decide +kernel))
  unfold textR
  by_cases e : x.2 = 1
  · rw [if_pos e]
    exact Nat.le_trans (len h1) (by decide)
  · rw [if_neg e, strLen_append, strLen_append]
    have a1 := len h1
    have a2 := len h2
    have a3 : (Str.ofString "/").length = 1 := rfl
    omega
theorem BX.isAs {Q : VK} {E : XK} (h : BX H a CB C v zs B c) (h2 : PX H d v2) (hB : B ≤ 1000 ∧ c ≤ 1000) (e : ∀ n, v n = v2 n) (q : ∀ H', Same H H' → Q (.bl true) H') : spIsAs CB C [.ref a, .ref d] H Q E := by
  obtain ⟨g2, h1, hv, hz⟩ := h
  obtain ⟨kvs, ks, g, hd, hp, hpv, l60, ln⟩ := h2
  obtain ⟨p, eg, lo⟩ := hv.plain hpv e
  refine ⟨a, d, kvs, ks, zs, g, g2, rfl, hd, hp, l60, fun n m => ?_, h1, hv.ok, p, eg, lo, q⟩
  have z : (g n).1.natAbs < 2 ^ 1000 ∧ (g n).2.natAbs < 2 ^ 1000 := by
    by_cases mz : n ∈ zs
    · rw [← eg n mz]
      exact ⟨Nat.lt_of_lt_of_le (hz n mz).1 (Nat.pow_le_pow_right (by decide) hB.1), Nat.lt_of_lt_of_le (hz n mz).2 (Nat.pow_le_pow_right (by decide) hB.2)⟩
    · have v0 : K05.val (g n) = 0 := by rw [← num_in (g := g) m, hpv.val, ← e]; exact hv.out mz
      have : g n = (0, 1) := lo_ext (hpv.lo n m) lo01 (v0.trans val01.symm)
      rw [this]
      exact ⟨by decide +kernel, by decide +kernel⟩
  exact ⟨Nat.lt_of_lt_of_le z.1 (Nat.pow_le_pow_right (by decide) (by decide)), Nat.lt_of_lt_of_le z.2 (Nat.pow_le_pow_right (by decide) (by decide)), ln n m, tx_len z.1 z.2⟩
end
end K05
namespace K05
open PySem PySem.Spec PyProof.Rows L2 RatM ClX
/-- the operators and methods of balances, as the law calls them -/
structure BopK (P : Program) (w : World) (K : PySem.W.Frag) (mg : Str → Option Value) (base : Heap) (CB C BR : Addr) : Prop where
  L : LwK P w K mg base CB C BR
  sfB : PySem.W.selfFirst K CB = true
  rmB : PySem.W.findIn K (.ref CB) (dunderR Operator.Mult.info.2) = some none
  rmC : PySem.W.findIn K (.ref C) (dunderR Operator.Mult.info.2) = some none
  sub : PySem.W.subIn K (.ref C) (.ref CB) = some false
  rt : RightT K CB Operator.Mult.info.2 "int"
  nf : PySem.W.notFirst K CB (.ref CB) = true
  ne : PySem.W.findIn K (.ref CB) "__ne__" = some (some (.builtin "object.__ne__"))
  ob : PySem.W.subIn K (.ref CB) (.type "object") = some true
  add : ∃ (f : Addr) (fd : FuncData), OwnM K CB (PySem.dunder Operator.Add.info.2) f ∧ FnOk P w K mg base (L2.CX P w) 11 f fd ["self", "other"] (spAddB CB C 1) ∧ Binds K fd ["self", "other"] []
  sub2 : ∃ (f : Addr) (fd : FuncData), OwnM K CB (PySem.dunder Operator.Sub.info.2) f ∧ FnOk P w K mg base (L2.CX P w) 11 f fd ["self", "other"] (spAddB CB C (-1)) ∧ Binds K fd ["self", "other"] []
  mul : ∃ (f : Addr) (fd : FuncData), OwnM K CB (PySem.dunder Operator.Mult.info.2) f ∧ FnOk P w K mg base (L2.CX P w) 11 f fd ["self", "other"] (spMulB CB C) ∧ Binds K fd ["self", "other"] []
  mulC : ∃ f : Addr, OwnM K C (PySem.dunder Operator.Mult.info.2) f
  neg : ∃ (f : Addr) (fd : FuncData), OwnM K CB "__neg__" f ∧ FnOk P w K mg base (L2.CX P w) 11 f fd ["self"] (spNegB CB C) ∧ Binds K fd ["self"] []
  eq : ∃ (f : Addr) (fd : FuncData), OwnM K CB "__eq__" f ∧ FnOk P w K mg base CX0 1 f fd ["self", "other"] (spEqB CB C) ∧ Binds K fd ["self", "other"] []
  least : ∃ (f : Addr) (fd : FuncData), Meth K CB "least" f ∧ FnOk P w K mg base CX0 10 f fd ["self"] (spLeast CB C) ∧ Binds K fd ["self"] []
  gains : ∃ (f : Addr) (fd : FuncData), Meth K CB "gains" f ∧ FnOk P w K mg base CX0 10 f fd ["self"] (spGains CB C) ∧ Binds K fd ["self"] []
  losses : ∃ (f : Addr) (fd : FuncData), Meth K CB "losses" f ∧ FnOk P w K mg base CX0 10 f fd ["self"] (spLosses CB C) ∧ Binds K fd ["self"] []
  ratNeg : ∃ (f : Addr) (fd : FuncData), OwnM K C "__neg__" f ∧ FnOk P w K mg base (L2.CX P w) 5 f fd ["self"] (spSelf K C fun p => -p) ∧ Binds K fd ["self"] []
theorem BalV.congr {v : Str → Rat} {g g2 : Str → Int × Int} {zs : List Str} (h : BalV v g zs) (e : ∀ n ∈ zs, g n = g2 n) : BalV v g2 zs := by
  refine ⟨⟨h.ok.ns, h.ok.so, fun n m => by rw [← e n m]; exact h.ok.ne n m⟩, fun n m => by rw [← e n m]; exact h.lo n m, fun n => ?_⟩
  rw [← h.val n]
  by_cases m : n ∈ zs
  · rw [num_in m, num_in m, e n m]
  · rw [num_out m, num_out m]
theorem BX.gains {H : Hp} {a CB C : Addr} {v : Str → Rat} {zs : List Str} {B c : Nat} {Q : VK} {E : XK} (h : BX H a CB C v zs B c)
    (kk : ∀ a' zs' H', Same H H' → zs'.length ≤ zs.length → BX H' a' CB C (fun n => if 0 < v n then v n else 0) zs' B c → Q (.ref a') H') : spGains CB C [.ref a] H Q E := by
  obtain ⟨g, h1, hv, hz⟩ := h
  exact ⟨a, g, zs, rfl, h1, hv.ok, fun a' H' s hb => kk a' _ H' s (List.length_filter_le _ _) ⟨g, hb, hv.gains, fun n m => hz n (List.mem_filter.mp m).1⟩⟩
theorem BX.losses {H : Hp} {a CB C : Addr} {v : Str → Rat} {zs : List Str} {B c : Nat} {Q : VK} {E : XK} (h : BX H a CB C v zs B c) (hB : B ≤ 1900 ∧ c ≤ 1900)
    (kk : ∀ a' zs' H', Same H H' → zs'.length ≤ zs.length → BX H' a' CB C (fun n => if v n < 0 then -v n else 0) zs' B c → Q (.ref a') H') : spLosses CB C [.ref a] H Q E := by
  obtain ⟨g, h1, hv, hz⟩ := h
  exact ⟨a, g, zs, rfl, h1, hv.ok, bxLo hv hz hB.1 hB.2, fun a' H' s hb => kk a' _ H' s (List.length_filter_le _ _) ⟨_, hb, hv.losses, fun n m => by
    have := hz n (List.mem_filter.mp m).1
    exact ⟨by show (-(g n).1).natAbs < _; rw [Int.natAbs_neg]; exact this.1, this.2⟩⟩⟩
theorem Till.notLst {H : Hp} {t c b : Addr} {cells : List Int} {i g : Int} {o : HO} (h : Till H t c cells i g) (e : H b = some o) (n : ∀ xs, o ≠ .lst xs) : b ≠ t := fun z => by
  rw [z, h.ht] at e
  injection e with e
  exact n _ e.symm
theorem BX.keep {H H' : Hp} {a CB C t c : Addr} {cells : List Int} {i g : Int} {v : Str → Rat} {zs : List Str} {B b : Nat} (h : BX H a CB C v zs B b) (hT : Till H t c cells i g) (k : Keep t H H') : BX H' a CB C v zs B b := by
  obtain ⟨g, ⟨dx, nd, tp, kt, e, ⟨kvs, e1, r⟩, e2, e3⟩, h2, h3⟩ := h
  have kp : ∀ {b : Addr} {o : HO}, H b = some o → (∀ xs, o ≠ .lst xs) → H' b = some o := fun e n => k _ _ (hT.notLst e n) e
  exact ⟨g, ⟨dx, nd, tp, kt, kp e (fun _ z => by cases z), ⟨kvs, kp e1 (fun _ z => by cases z), Paired.mono' (fun _ _ ⟨x1, b', x2, x3⟩ => ⟨x1, b', x2, x3.keep hT k⟩) r⟩, kp e2 (fun _ z => by cases z), kp e3 (fun _ z => by cases z)⟩, h2, h3⟩
theorem PlD.keep {H H' : Hp} {t c : Addr} {cells : List Int} {i k : Int} {g : Str → Int × Int} {kvs : List (Key × V)} {ks : List Str} (h : PlD H g kvs ks) (hT : Till H t c cells i k) (kp : Keep t H H') : PlD H' g kvs ks :=
  Paired.mono' (fun _ _ ⟨e, o, e2, n⟩ => ⟨e, o, e2, kp o _ (hT.notLst n fun _ z => by cases z) n⟩) h
theorem PX.keep {H H' : Hp} {d t c : Addr} {cells : List Int} {i k : Int} {v : Str → Rat} (h : PX H d v) (hT : Till H t c cells i k) (kp : Keep t H H') : PX H' d v := by
  obtain ⟨kvs, ks, g, h1, h2, h3⟩ := h
  exact ⟨kvs, ks, g, kp _ _ (hT.notLst h1 fun _ z => by cases z) h1, h2.keep hT kp, h3⟩
theorem BX.at_ {H : Hp} {a CB C : Addr} {v : Str → Rat} {zs : List Str} {B b : Nat} (h : BX H a CB C v zs B b) : ∃ dx nd tp kt x, H a = some (.ins CB dx (balF nd tp kt x)) := by
  obtain ⟨g, ⟨dx, nd, tp, kt, e, _⟩, _⟩ := h
  exact ⟨dx, nd, tp, kt, _, e⟩
theorem nilI {σ : L2.St} {H : Hp} {f : List V → Hp → Prop} (h : f [] H) : tNil σ H f := h
theorem Same.keep {t : Addr} {H H' : Hp} (s : Same H H') : Keep t H H' := fun b o _ e => s b o e
def spLR (CB C : Addr) : Sp := fun vs H Q _ => ∃ (t a d c : Addr) (cells : List Int) (i gg : Int) (kvs : List (Key × V)) (ks zs : List Str) (g : Str → Int × Int), vs = [.ref t, .ref a, .ref d] ∧ BX H a CB C (vOf g ks) zs 100 4 ∧ zs.length ≤ 4 ∧ H d = some (.dK kvs) ∧ PlD H g kvs ks ∧ ThOk ks ∧ (∀ n ∈ ks, FrD (g n)) ∧ Till H t c cells i gg ∧ 0 ≤ i ∧ i ≤ 800000 ∧ 0 ≤ gg ∧
  ∀ (i' g' : Int) (H' : Hp), 0 ≤ i' → i' ≤ i + 2 → 0 ≤ g' → Keep t H H' → Till H' t c cells i' g' → Q (.bl true) H'
theorem LeastV.out' {v u : Str → Rat} {zs : List Str} (h : LeastV v u zs) {g : Str → Int × Int} (hv : BalV v g zs) (n : Str) : v n = 0 → u n = 0 := fun e => by
  refine h.out n fun m => (hv.mem n).mp m e
section
variable {P : Program} {w : World} {K : PySem.W.Frag} {mg : Str → Option Value} {base : Heap} {C BR CB : Addr}
abbrev nsLr : List Str := ["_law_reel_here", "_law_balance", "_law_plain", "_law_due", "_law_above"]
theorem scLr : FnScope nsLr ["_law_reel_here", "_law_balance", "_law_plain"] (defScope (top 61)) := ⟨rfl, rfl, rfl, by decide +kernel, rfl, by decide +kernel, by decide +kernel⟩
theorem ok_leastRight {f fT fL fI : Addr} {fd fdT fdL fdI : FuncData} (F : FnP K "_law_least_right" (top 61) f fd) (W : BopK P w K mg base CB C BR)
    (GT : FnOk P w K mg base CX0 1 fT fdT ["_law_reel_here", "_law_many"] spCoin) (bT : Binds K fdT ["_law_reel_here", "_law_many"] []) (kT : PySem.W.keepIn K (.ref fT) = true) (gT : mg "_law_turn" = some (.ref fT))
    (GL : FnOk P w K mg base CX0 2 fL fdL ["_law_plain"] spLeastL) (bL : Binds K fdL ["_law_plain"] []) (kL : PySem.W.keepIn K (.ref fL) = true) (gL : mg "_law_least" = some (.ref fL))
    (GI : FnOk P w K mg base CX0 10 fI fdI ["_law_balance", "_law_plain"] (spIsAs CB C)) (bI : Binds K fdI ["_law_balance", "_law_plain"] []) (kI : PySem.W.keepIn K (.ref fI) = true) (gI : mg "_law_is_as" = some (.ref fI)) :
    FnOk P w K mg base CX0 13 f fd ["_law_reel_here", "_law_balance", "_law_plain"] (spLR CB C) := by
  obtain ⟨fA, fdA, MA, GA, bA⟩ := W.add
  obtain ⟨fS, fdS, MS, GS, bS⟩ := W.sub2
  obtain ⟨fM, fdM, MM, GM, bM⟩ := W.mul
  obtain ⟨fMC, MMC⟩ := W.mulC
  obtain ⟨fN, fdN, MN, GN, bN⟩ := W.neg
  obtain ⟨fE, fdE, ME, GE, bE⟩ := W.eq
  obtain ⟨fLe, fdLe, MLe, GLe, bLe⟩ := W.least
  obtain ⟨fG, fdG, MG, GG, bG⟩ := W.gains
  obtain ⟨fLo, fdLo, MLo, GLo, bLo⟩ := W.losses
  obtain ⟨fRN, fdRN, MRN, GRN, bRN⟩ := W.ratNeg
  have B := W.L.O.B
  have O := W.L.O
  have R := W.L.O.R
  refine F.ok scLr (fun vs H Q E h => ?_) (fun cdv A outer s H vs Q E hr h => ?_)
  · obtain ⟨t, a, d, c, cells, i, gg, kvs, ks, zs, g, rfl, _⟩ := h
    rfl
  · obtain ⟨t, a, d, c, cells, i, gg, kvs, ks, zs, g, rfl, hb, l4, hd, hp, ok, fr, hT, hi0, hi1, hg, k⟩ := h
    have hr12 : Room 12 _ := hr
    have hr11 : Room 11 _ := hr12.mono (by decide)
    have hr10 : Room 10 _ := hr12.mono (by decide)
    refine ⟨_, PSs.nox (pss_cons (ps_par (i := 3) (j := 4) rfl scLr.nd rfl rfl (by decide) rfl rfl (pa_cons (pe_call GL (hr12.mono (by decide)) rfl gL kL bL .nil pass0 (pa_cons (pv 2) pa_nil)) (pa_cons (pe_rat2 R (hr12.mono (by decide)) (E := E0) passL rfl (pa_cons (pe_op op_add pe_int (pe_call GT (hr12.mono (by decide)) rfl gT kT bT .nil pass0 (pa_cons (pv 0) (pa_cons pe_int pa_nil)))) (pa_cons (pe_op op_add pe_int (pe_call GT (hr12.mono (by decide)) rfl gT kT bT .nil pass0 (pa_cons (pv 0) (pa_cons pe_int pa_nil)))) pa_nil))) pa_nil)) rfl)
      (pss_cons (ps_if (PW.pt (pw_or (pt_not (pt_val (pe_call GI hr10 rfl gI kI bI .nil pass0 (pa_cons (pe_meth0 (pv 1) B.T.cls MLe GLe hr10 bLe .nil (E := E0) pass0) (pa_cons (pv 3) pa_nil)))))
          (pw_or1 (pt_cmpR (op_neOwn ME W.ne W.ob GE (hr12.mono (by decide)) bE (E := E0) pass0) (pe_meth0 (pv 1) B.T.cls MLe GLe hr10 bLe .nil (E := E0) pass0) (pe_meth0 (pe_meth0 (pv 1) B.T.cls MLe GLe hr10 bLe .nil (E := E0) pass0) B.T.cls MLe GLe hr10 bLe .nil (E := E0) pass0) (nomark _))))) (pss_one (ps_ret pe_bl)) pss_nil)
      (pss_cons (ps_if (PW.pt (pw_or (pt_cmpR (op_neOwn ME W.ne W.ob GE (hr12.mono (by decide)) bE (E := E0) pass0) (pe_meth0 (pe_op (op_ownN (op := .Mult) MM W.sfB W.rmB MMC O.sf W.rmC (Ne.symm B.n) W.sub W.rt GM hr11 bM (E := E0) passL) (pv 1) (pv 4)) B.T.cls MLe GLe hr10 bLe .nil (E := E0) pass0) (pe_meth0 (pv 1) B.T.cls MLe GLe hr10 bLe .nil (E := E0) pass0) (nomark _))
          (pw_or1 (pt_cmpR (op_neOwn ME W.ne W.ob GE (hr12.mono (by decide)) bE (E := E0) pass0) (pe_meth0 (pe_op (op_ownN (op := .Mult) MM W.sfB W.rmB MMC O.sf W.rmC (Ne.symm B.n) W.sub W.rt GM hr11 bM (E := E0) passL) (pv 1) (pe_un (un_ownNeg MRN GRN (hr12.mono (by decide)) bRN (E := E0) passL) (pv 4))) B.T.cls MLe GLe hr10 bLe .nil (E := E0) pass0) (pe_un (un_ownNeg MN GN hr11 bN (E := E0) passL) (pe_meth0 (pv 1) B.T.cls MLe GLe hr10 bLe .nil (E := E0) pass0)) (nomark _))))) (pss_one (ps_ret pe_bl)) pss_nil)
      (pss_one (ps_ret (pe_and (pe_cmpR (op_eqOwn ME GE (hr12.mono (by decide)) bE (E := E0) pass0) (pe_op (op_ownC (op := .Sub) MS W.sfB GS hr11 bS (E := E0) passL) (pe_meth0 (pv 1) B.T.cls MG GG hr10 bG .nil (E := E0) pass0) (pe_meth0 (pv 1) B.T.cls MLo GLo hr10 bLo .nil (E := E0) pass0)) (pv 1) (nomark _)) (pe_one (pe_call GI hr10 rfl gI kI bI .nil pass0 (pa_cons (pv 1) (pa_cons (pv 2) pa_nil)))))))))), ?_⟩
    refine ⟨_, rfl, d, kvs, ks, g, rfl, hd, hp, ok, fr, fun r kvs' zs' H1 s1 pz sz nr hr1 hp1 => ?_⟩
    have hT1 := hT.same s1
    refine ⟨_, rfl, t, c, cells, i, gg, 12, rfl, hT1, hi0, by omega, hg, by decide, by decide, fun r1 i1 g1 H2 r10 r11 j0 j1 k0 kp2 hT2 => ?_⟩
    refine ⟨_, _, rfl, rfl, _, rfl, t, c, cells, i1, g1, 12, rfl, hT2, j0, by omega, k0, by decide, by decide, fun r2 i2 g2 H3 r20 r21 j2 j3 k2 kp3 hT3 => ?_⟩
    refine ⟨_, _, rfl, rfl, ?_⟩
    have b0 : 1 + r2 ≠ 0 := by omega
    have z4 : ∀ {x : Int}, 0 ≤ x → x < 12 → (1 + x).natAbs < 2 ^ 4 := fun h0 h1 => by show _ < 16; omega
    have z4000 : ∀ {x : Int}, 0 ≤ x → x < 12 → (1 + x).natAbs < 2 ^ 4000 := fun h0 h1 => Nat.lt_of_lt_of_le (z4 h0 h1) (Nat.pow_le_pow_right (by decide) (by decide))
    refine ⟨_, _, rfl, .inl ⟨1 + r1, 1 + r2, rfl, rfl, b0, z4000 r10 r11, z4000 r20 r21, fun q H4 s4 h4 => ?_⟩⟩
    refine ⟨_, _, rfl, ?_⟩
    dsimp only [tNext, tSeq]
    have lq : Lo (lowT (1 + r1) (1 + r2), lowB (1 + r1) (1 + r2)) := lo_low b0
    have szq : (lowT (1 + r1) (1 + r2)).natAbs < 2 ^ 4 ∧ (lowB (1 + r1) (1 + r2)).natAbs < 2 ^ 4 := ⟨low_szT b0 (z4 r10 r11), low_szB b0 (z4 r20 r21)⟩
    have vq : 0 < val (lowT (1 + r1) (1 + r2), lowB (1 + r1) (1 + r2)) := by
      refine (val_pos lq).mpr ?_
      have := lowT_pos (t := 1 + r1) (b := 1 + r2) (by omega)
      exact of_decide_eq_true (this.1.trans (decide_eq_true (by omega)))
    generalize lowT (1 + r1) (1 + r2) = qp at h4 lq szq vq
    generalize lowB (1 + r1) (1 + r2) = qb at h4 lq szq vq
    -- what stands at the heap H4
    have ndp : PlV (vOf g ks) g ks := PlV.drawn ok.nd fr
    have kAll : Keep t H1 H4 := (kp2.trans kp3).same s4
    have hT4 := hT3.same s4
    have hb1 : BX H4 a CB C (vOf g ks) zs 100 4 := (hb.same s1).keep hT1 kAll
    have due : ∃ u, PX H4 r u ∧ LeastV (vOf g ks) u zs := by
      obtain ⟨g2, _, hv, _⟩ := id hb
      obtain ⟨p, eg, _⟩ := hv.plain ndp fun _ => rfl
      have e : zs' = zs := sorted_unique sz hv.ok.so (pz.trans p.symm)
      subst e
      obtain ⟨u, V, L, PL, _, _⟩ := (hv.congr eg).least
      have px : PX H1 r u := ⟨kvs', zs', _, hr1, hp1, PL, by omega, fun n m => Nat.le_trans (ok.nm n (List.mem_filter.mp (pz.mem_iff.mp m)).1).1 (by decide)⟩
      exact ⟨u, px.keep hT1 kAll, L⟩
    obtain ⟨u0, pdue, L0⟩ := due
    have pd : PX H4 d (vOf g ks) := (PX.same ⟨kvs, ks, g, hd, hp, ndp, by have := ok.le; omega, fun n m => Nat.le_trans (ok.nm n m).1 (by decide)⟩ s1).keep hT1 kAll
    have fin : ∀ H', Same H4 H' → Q (.bl true) H' := fun H' sx => k i2 g2 H' j2 (by omega) k2 (((Same.keep s1).trans kAll).same sx) (hT4.same sx)
    clear k hb hd hp hp1 hr1 hT hT1 hT2 hT3 kp2 kp3 kAll s4 s1 fr nr hT4
    generalize vOf g ks = v at *
    -- one: in least terms
    obtain ⟨x1, x2, x3, x4, x5, ha⟩ := hb1.at_
    refine ⟨_, rfl, a, x1, _, rfl, ha, rfl, nilI (hb1.least (by decide) (by decide) l4 fun a1 u1 H5 s5 hb5 L1 => ?_)⟩
    refine ⟨_, rfl, nilI (hb5.isAs (pdue.same s5) ⟨by decide, by decide⟩ (L1.uniq L0 (k := 1) (by decide) fun n _ => by grind) fun H6 s6 => ⟨true, rfl, iteF ?_⟩)⟩
    have s46 : Same H4 H6 := s5.trans s6
    refine ⟨_, rfl, a, x1, _, rfl, s46 _ _ ha, rfl, nilI ((hb1.same s46).least (by decide) (by decide) l4 fun a2 u2 H7 s7 hb7 L2 => ?_)⟩
    have s47 := s46.trans s7
    refine ⟨_, rfl, a, x1, _, rfl, s47 _ _ ha, rfl, nilI ((hb1.same s47).least (by decide) (by decide) l4 fun a3 u3 H8 s8 hb8 L3 => ?_)⟩
    obtain ⟨y1, y2, y3, y4, y5, ha3⟩ := hb8.at_
    refine ⟨a3, y1, _, rfl, ha3, rfl, nilI (hb8.least (by decide) (by decide) l4 fun a4 u4 H9 s9 hb9 L4 => ?_)⟩
    have e24 : ∀ n, u2 n = u4 n := fun n => (L2.uniq L3 (k := 1) (by decide) (fun n _ => by grind) n).trans (L3.self.uniq L4 (k := 1) (by decide) (fun n _ => by grind) n)
    refine ⟨a2, .ref CB, rfl, (hb7.same (s8.trans s9)).ins, ty_ins hb9.ins, W.nf, (hb7.same (s8.trans s9)).eq hb9 e24 ⟨true, rfl, false, rfl, iteF ?_⟩⟩
    dsimp only [tNext, tSeq]
    have s49 : Same H4 H9 := s47.trans (s8.trans s9)
    clear hb5 hb7 hb8 hb9 L1 L2 L3 L4 e24 ha3 s46 s47 s5 s6 s7 s8 s9
    -- two: times a ratio
    have vn : val (qp, qb) ≠ 0 := by grind
    refine ⟨_, rfl, _, rfl, a, rfl, (hb1.same s49).ins, .inl ⟨q, rfl, (h4.same s49).ins⟩, _, _, rfl, (hb1.same s49).times (r := (qp, qb)) (i := 4) (j := 4) ⟨by decide, by decide⟩ (.inl ⟨q, rfl, h4.same s49⟩) szq ⟨by decide, by decide⟩ lq.ne fun a5 zs5 H10 s10 _ ez hb10 => ?_⟩
    obtain rfl := ez vn
    obtain ⟨y1, y2, y3, y4, y5, ha5⟩ := hb10.at_
    refine ⟨a5, y1, _, rfl, ha5, rfl, nilI (hb10.least (by decide) (by decide) l4 fun a6 u6 H11 s11 hb11 L6 => ?_)⟩
    have s411 := s49.trans (s10.trans s11)
    refine ⟨_, rfl, a, x1, _, rfl, s411 _ _ ha, rfl, nilI ((hb1.same s411).least (by decide) (by decide) l4 fun a7 u7 H12 s12 hb12 L7 => ?_)⟩
    have e67 : ∀ n, u6 n = u7 n := fun n => (L7.uniq L6 (k := val (qp, qb)) vq (fun n _ => by grind) n).symm
    refine ⟨a6, .ref CB, rfl, (hb11.same s12).ins, ty_ins hb12.ins, W.nf, (hb11.same s12).eq hb12 e67 ⟨true, rfl, false, rfl, iteF ?_⟩⟩
    have s412 := s411.trans s12
    clear hb10 hb11 hb12 L6 L7 e67 ha5 s411 s10 s11 s12 s49
    have h412 := h4.same s412
    refine ⟨_, rfl, _, rfl, q, rfl, h412.ins, q, qp, qb, rfl, h412, Nat.lt_of_lt_of_le szq.1 (Nat.pow_le_pow_right (by decide) (by decide)), Nat.lt_of_lt_of_le szq.2 (Nat.pow_le_pow_right (by decide) (by decide)), lq.ne, fun q' H13 s13 h13 => ?_⟩
    have sf := low_self (p := -qp) (q := qb) lq.1 (lo_neg lq).2
    rw [sf.1, sf.2] at h13
    have s413 := s412.trans s13
    have vm : val (-qp, qb) = -val (qp, qb) := val_neg (qp, qb)
    have vmn : val (-qp, qb) ≠ 0 := by grind
    refine ⟨a, rfl, (hb1.same s413).ins, .inl ⟨q', rfl, h13.ins⟩, _, _, rfl, (hb1.same s413).times (r := (-qp, qb)) (i := 4) (j := 4) ⟨by decide, by decide⟩ (.inl ⟨q', rfl, h13⟩) ⟨by show (-qp).natAbs < _; rw [Int.natAbs_neg]; exact szq.1, szq.2⟩ ⟨by decide, by decide⟩ lq.ne fun a8 zs8 H14 s14 _ ez hb14 => ?_⟩
    obtain rfl := ez vmn
    obtain ⟨y1, y2, y3, y4, y5, ha8⟩ := hb14.at_
    refine ⟨a8, y1, _, rfl, ha8, rfl, nilI (hb14.least (by decide) (by decide) l4 fun a9 u9 H15 s15 hb15 L9 => ?_)⟩
    have s415 := s413.trans (s14.trans s15)
    refine ⟨_, rfl, a, x1, _, rfl, s415 _ _ ha, rfl, nilI ((hb1.same s415).least (by decide) (by decide) l4 fun a10 u10 H16 s16 hb16 L10 => ?_)⟩
    refine ⟨a10, rfl, hb16.ins, hb16.neg ⟨by decide, by decide⟩ fun a11 H17 s17 hb17 => ?_⟩
    have e9 : ∀ n, u9 n = -u10 n := fun n => (L10.neg.uniq L9 (k := val (qp, qb)) vq (fun n _ => by rw [vm]; grind) n).symm
    refine ⟨a9, .ref CB, rfl, (hb15.same (s16.trans s17)).ins, ty_ins hb17.ins, W.nf, (hb15.same (s16.trans s17)).eq hb17 e9 ⟨true, rfl, false, rfl, iteF ?_⟩⟩
    dsimp only [tNext, tSeq]
    have s417 := s415.trans (s16.trans s17)
    clear hb14 hb15 hb16 hb17 L9 L10 e9 ha8 s415 s413 s412 s13 s14 s15 s16 s17 h412 h13
    -- three: gains less losses
    refine ⟨_, rfl, a, x1, _, rfl, s417 _ _ ha, rfl, nilI ((hb1.same s417).gains fun a12 zs12 H18 s18 l12 hb18 => ?_)⟩
    have s418 := s417.trans s18
    refine ⟨_, rfl, a, x1, _, rfl, s418 _ _ ha, rfl, nilI ((hb1.same s418).losses ⟨by decide, by decide⟩ fun a13 zs13 H19 s19 l13 hb19 => ?_)⟩
    have hb18' := hb18.same s19
    refine ⟨a12, a13, rfl, rfl, hb18'.ins, hb19.ins, hb18'.sum hb19 ⟨by decide, by decide, by decide, by decide⟩ (by omega) (.inr rfl) fun a14 zs14 H20 s20 l14 hb20 => ?_⟩
    have s420 := s418.trans (s19.trans s20)
    have ev : ∀ n, (if 0 < v n then v n else 0) + (if v n < 0 then -v n else 0) * ((-1 : Int) : Rat) = v n := fun n => by
      have m1 : ((-1 : Int) : Rat) = -1 := rfl
      rw [m1]
      by_cases c1 : 0 < v n
      · rw [if_pos c1, if_neg (by grind)]; grind
      · by_cases c2 : v n < 0
        · rw [if_neg c1, if_pos c2]; grind
        · rw [if_neg c1, if_neg c2]; grind
    refine ⟨_, rfl, a14, .ref CB, rfl, hb20.ins, ty_ins (hb1.same s420).ins, W.nf, hb20.eq (hb1.same s420) ev ⟨true, rfl, true, rfl, iteT ?_⟩⟩
    exact ⟨_, rfl, _, rfl, nilI ((hb1.same s420).isAs (pd.same s420) ⟨by decide, by decide⟩ (fun _ => rfl) fun H' sx => fin H' (s420.trans sx))⟩
end
end K05
namespace K05
open PySem PySem.Spec PyProof.Rows L2 RatM ClX
theorem renN_mem {ps : List (Str × Str)} {g : Str → Int × Int} : ∀ (l : List Str) (s : List Str × (Str → Int × Int)) (m : Str), m ∈ (l.foldl (renS ps g) s).1 → m ∈ s.1 ∨ ∃ n ∈ l, m = nmOf ps n
  | [], s, m, h => .inl h
  | n :: t, s, m, h => by
    rcases renN_mem t (renS ps g s n) m h with z | ⟨x, hx, e⟩
    · have : m ∈ s.1 ∨ m = nmOf ps n := by
        unfold renS at z
        dsimp only at z
        by_cases c : nmOf ps n ∈ s.1
        · rw [if_pos c] at z; exact .inl z
        · rw [if_neg c] at z
          exact (List.mem_append.mp z).imp id List.mem_singleton.mp
      exact this.imp id fun e => ⟨n, List.mem_cons_self, e⟩
    · exact .inr ⟨x, List.mem_cons_of_mem _ hx, e⟩
theorem nmOf_short {ps : List (Str × Str)} {n : Str} (h : ∀ p ∈ ps, NmS p.2) (hn : NmS n) : NmS (nmOf ps n) := by
  unfold nmOf
  cases e : ps.find? fun p => decide (p.1 = n) with
  | none => exact hn
  | some p => exact h p (List.mem_of_find?_eq_some e)
theorem NwOk.snd {ps : List (Str × Str)} (h : NwOk ps) : NsT (ps.map (·.2)) := ⟨by rw [List.length_map]; exact Nat.le_trans h.le (by decide), fun n m => by
  obtain ⟨p, hp, rfl⟩ := List.mem_map.mp m
  exact ⟨Nat.le_trans (h.nm p hp).2.1 (by decide), (h.nm p hp).2.2⟩⟩
theorem NwOk.fst {ps : List (Str × Str)} (h : NwOk ps) : NsT (ps.map (·.1)) := ⟨by rw [List.length_map]; exact Nat.le_trans h.le (by decide), fun n m => by
  obtain ⟨p, hp, rfl⟩ := List.mem_map.mp m
  exact ⟨Nat.le_trans (h.nm p hp).1.1 (by decide), (h.nm p hp).1.2⟩⟩
/-- a renamed balance's numbers -/
def vRen (ps : List (Str × Str)) (g : Str → Int × Int) (ks : List Str) : Str → Rat := fun m => rsum ps (fun n => val (g n)) m ks
section
variable {H : Hp} {a d d2 CB C : Addr} {v v2 : Str → Rat} {zs zs2 : List Str} {B c : Nat} {Q : VK} {E : XK}
theorem BX.ren {g : Str → Int × Int} {ks : List Str} {kn : List (Key × V)} {ps : List (Str × Str)} (h : BX H a CB C (vOf g ks) zs B c) (ok : ThOk ks) (fr : ∀ n ∈ ks, FrD (g n)) (hn : H d = some (.dK kn)) (hps : NmD kn ps) (nw : NwOk ps)
    (kk : ∀ a' zs' H', Same H H' → BX H' a' CB C (vRen ps g ks) zs' 1000 1000 → Q (.ref a') H') : spRen CB C [.ref a, .ref d] H Q E := by
  obtain ⟨g2, h1, hv, hz⟩ := h
  obtain ⟨p, eg, lo⟩ := hv.plain (PlV.drawn ok.nd fr) fun _ => rfl
  have mk : ∀ n ∈ zs, n ∈ ks := fun n m => (List.mem_filter.mp (p.mem_iff.mp m)).1
  have fr2 : ∀ n ∈ zs, FrD (g2 n) := fun n m => by rw [eg n m]; exact fr n (mk n m)
  have l4 : zs.length ≤ 4 := by
    rw [p.length_eq]
    exact Nat.le_trans (List.length_filter_le _ _) ok.le
  have lo3 : BalLo 300 g2 zs := ⟨fun n m => ⟨(fr2 n m).b0, (fr2 n m).gcd⟩, fun n m => ⟨Nat.lt_of_lt_of_le (fr2 n m).top (Nat.pow_le_pow_right (by decide) (by decide)), Nat.lt_of_lt_of_le (show _ < 2 ^ 4 by have := (fr2 n m).b0; have := (fr2 n m).b1; show _ < 16; omega) (Nat.pow_le_pow_right (by decide) (by decide))⟩⟩
  have nmz : ∀ n ∈ zs, n.length ≤ 100000 ∧ nameT n.cps.toList = true := fun n m => ok.ns.nm n (mk n m)
  refine ⟨a, d, g2, zs, kn, ps, rfl, h1, hv.ok, lo3, l4, hn, hps, nw.fst, nw.snd, fun a' ys H' s py sy hb => ?_⟩
  have V := BalV.ren nw.snd (by omega) nmz fr2 py sy
  have J := renJ_all (g := g2) nw.snd nmz fr2
  refine kk a' _ H' s ⟨_, hb, ⟨V.ok, V.lo, fun m => ?_⟩, fun n m => ?_⟩
  · rw [V.val]
    unfold vRen
    rw [rsum_congr (v2 := fun n => K05.val (g n)) zs fun n hn => by rw [eg n hn], rsum_perm p]
    exact rsum_filter ks fun n hn hf => by
      have : (g n).1 = 0 := by simpa using hf
      exact (val_zero ⟨(fr n hn).b0, (fr n hn).gcd⟩).mpr this
  · obtain ⟨_, z1, z2⟩ := J.lo n (py.mem_iff.mp (List.mem_filter.mp m).1)
    have pw : 2 ^ (200 * (zs.length + 1)) ≤ 2 ^ 1000 := Nat.pow_le_pow_right (by decide) (by omega)
    exact ⟨Nat.lt_of_lt_of_le z1 pw, Nat.lt_of_lt_of_le z2 pw⟩
theorem PX.ren {g : Str → Int × Int} {ks : List Str} {kvs : List (Key × V)} {ps : List (Str × Str)} (ok : ThOk ks) (fr : ∀ n ∈ ks, FrD (g n)) (nw : NwOk ps) (hd : H d = some (.dK kvs)) (hp : PlD H (renN ps g ks).2 kvs (renN ps g ks).1) : PX H d (vRen ps g ks) := by
  have J := renJ_all (g := g) nw.snd ok.ns.nm fr
  refine ⟨kvs, _, _, hd, hp, PlV.ren nw.snd ok.ns.nm fr, by have := J.le; have := ok.le; omega, fun m hm => ?_⟩
  rcases renN_mem ks _ m hm with z | ⟨n, hn, rfl⟩
  · cases z
  · exact Nat.le_trans (nmOf_short (fun p hp => (nw.nm p hp).2) (ok.nm n hn)).1 (by decide)
theorem joinN_len {zs zs2 : List Str} : (joinN zs zs2).length ≤ zs.length + zs2.length := by
  unfold joinN
  rw [List.length_append]
  have := List.length_filter_le (fun n => !decide (n ∈ zs)) zs2
  omega
theorem frOk {x : Int × Int} (h : FrD x) : FrOk x := ⟨Nat.lt_of_lt_of_le h.top (Nat.pow_le_pow_right (by decide) (by decide)), Nat.lt_of_lt_of_le (show _ < 2 ^ 4 by have := h.b0; have := h.b1; show _ < 16; omega) (Nat.pow_le_pow_right (by decide) (by decide)), by have := h.b0; omega⟩
theorem frBy {x y : Int × Int} (h : FrD x) (h2 : FrD y) : FrOk (byF x y) := by
  have z4 : ∀ {x : Int × Int}, FrD x → x.2.natAbs < 2 ^ 4 := fun h => by have := h.b0; have := h.b1; show _ < 16; omega
  obtain ⟨a1, a2⟩ := by_sz ⟨h.top, z4 h⟩ ⟨h2.top, z4 h2⟩ (by have := h.b0; omega) (by have := h2.b0; omega)
  exact ⟨Nat.lt_of_lt_of_le a1 (Nat.pow_le_pow_right (by decide) (by decide)), Nat.lt_of_lt_of_le a2 (Nat.pow_le_pow_right (by decide) (by decide)), (lo_by (by have := h.b0; omega) (by have := h2.b0; omega)).ne⟩
/-- the law's sum of drawn balances -/
theorem sumX {o : Addr} {kvs1 kvs2 : List (Key × V)} {k1 k2 : List Str} {g1 g2 : Str → Int × Int} {x : Int × Int} (h1 : H d = some (.dK kvs1)) (h2 : H d2 = some (.dK kvs2)) (ho : H o = some (.tup (tupF x))) (p1 : PlD H g1 kvs1 k1) (p2 : PlD H g2 kvs2 k2) (o1 : ThOk k1) (o2 : ThOk k2)
    (f1 : ∀ n ∈ k1, FrD (g1 n)) (f2 : ∀ n ∈ k2, FrD (g2 n)) (fx : FrD x) (kk : ∀ r H', Same H H' → PX H' r (fun n => vOf g1 k1 n + vOf g2 k2 n * val x) → Q (.ref r) H') : spSumL [.ref d, .ref d2, .ref o] H Q E := by
  refine ⟨d, d2, o, kvs1, kvs2, k1, k2, g1, g2, x, rfl, h1, h2, ho, p1, p2, o1.ns, o2.ns, by have := o1.le; have := o2.le; omega, fun n m => frOk (f1 n m), fun n m => ⟨frOk (f2 n m), frBy (f2 n m) fx⟩, frOk fx, fun r kvs' H' s nr hr hp => kk r H' s ⟨kvs', _, _, hr, hp, (PlV.drawn o1.nd f1).sum (PlV.drawn o2.nd f2) (by have := fx.b0; omega), ?_, fun n m => ?_⟩⟩
  · have := joinN_len (zs := k1) (zs2 := k2)
    have := o1.le
    have := o2.le
    omega
  · rcases joinN_mem.mp m with z | z
    · exact Nat.le_trans (o1.nm n z).1 (by decide)
    · exact Nat.le_trans (o2.nm n z).1 (by decide)
/-- one, negative one -/
theorem fr_int {k : Int} (h : k.natAbs < 2 ^ 100) : FrD (k, 1) := ⟨h, by show (0 : Int) < 1; decide, by show (1 : Int) ≤ 15; decide, Int.gcd_one⟩
theorem merge_dup {g : Str → Int × Int} {more : List (Key × V)} {ks : List Str} (h : PlD H g more ks) : ∀ {acc : List (Key × V)} {k0 : List Str}, PlD H g acc k0 → k0.Nodup → ∃ k2, PlD H g (mergeK acc more) k2 ∧ k2.Nodup ∧ (∀ n, n ∈ k2 ↔ n ∈ k0 ∨ n ∈ ks) ∧ k2.length ≤ k0.length + ks.length := by
  induction h with
  | nil => exact fun {acc k0} ha nd => ⟨k0, ha, nd, fun n => by simp, by simp⟩
  | @cons x n l1 l2 hx t ih =>
    intro acc k0 ha nd
    obtain ⟨x1, o, x2, x3⟩ := hx
    have put := PlD.put (n := n) (b := o) ha (fun m _ => rfl) x3
    have e : putK acc x.1 x.2 = putK acc (.inr n) (.ref o) := by rw [x1, x2]
    rw [← e] at put
    have nd2 : (if n ∈ k0 then k0 else k0 ++ [n]).Nodup := by
      by_cases c : n ∈ k0
      · rw [if_pos c]; exact nd
      · rw [if_neg c]
        exact List.nodup_append.mpr ⟨nd, by simp, fun a ha b hb e => c (by rw [e] at ha; rw [List.mem_singleton.mp hb] at ha; exact ha)⟩
    obtain ⟨k2, q1, q2, q3, q4⟩ := ih put nd2
    refine ⟨k2, q1, q2, fun m => ?_, ?_⟩
    · rw [q3]
      by_cases c : n ∈ k0
      · rw [if_pos c, List.mem_cons]
        exact ⟨fun z => z.imp id .inr, fun z => z.elim .inl fun z => z.elim (fun z => .inl (z ▸ c)) .inr⟩
      · rw [if_neg c, List.mem_append, List.mem_singleton, List.mem_cons]
        exact or_assoc
    · rw [List.length_cons]
      by_cases c : n ∈ k0
      · rw [if_pos c] at q4; omega
      · rw [if_neg c, List.length_append, List.length_singleton] at q4; omega
theorem PX.mean {l : List Str} {more : List (Key × V)} (ne : l ≠ []) (l60 : l.length ≤ 60) (nm : ∀ n ∈ l, NmS n) (hp : PlD H (meanL l) more l) (hd : H d = some (.dK (mergeK [] more))) : PX H d (vMean l) := by
  obtain ⟨k2, q1, q2, q3, q4⟩ := merge_dup hp .nil List.nodup_nil
  have q3' : ∀ n, n ∈ k2 ↔ n ∈ l := fun n => by rw [q3]; simp
  exact ⟨_, k2, _, hd, q1, PlV.mean ne q2 q3', by simp only [List.length_nil] at q4; omega, fun n m => Nat.le_trans (nm n ((q3' n).mp m)).1 (by decide)⟩
theorem BX.mean {l : List Str} (hl : H d = some (.lst (l.map V.str)) ∨ H d = some (.tup (l.map V.str))) (ne : l ≠ []) (l60 : l.length ≤ 60) (nm : ∀ n ∈ l, NmS n)
    (kk : ∀ a' zs' H', Same H H' → BX H' a' CB C (vMean l) zs' 7 7 → Q (.ref a') H') : spMean CB C [.ref d] H Q E := by
  have ns : NsT l := ⟨by omega, fun n m => ⟨Nat.le_trans (nm n m).1 (by decide), (nm n m).2⟩⟩
  refine ⟨d, l, rfl, hl, ns, l60, ne, fun a' ys H' s py sy hb => kk a' _ H' s ⟨_, hb, BalV.mean ns l60 ne py sy, fun n m => ?_⟩⟩
  have lp : ((l.length : Nat) : Int) ≠ 0 := by have := List.length_pos_iff.mpr ne; omega
  obtain ⟨nok, pos⟩ := cntN_ok ns l60
  have mi := py.mem_iff.mp (List.mem_filter.mp m).1
  have e := cntN_num l n
  rw [num_in mi] at e
  have cl : cnt l n ≤ l.length := List.countP_le_length
  rw [mul_by, e]
  have rz : (lowT 1 (l.length : Nat)).natAbs < 2 ^ 1 ∧ (lowB 1 (l.length : Nat)).natAbs < 2 ^ 6 := ⟨low_szT lp (by decide), low_szB lp (by rw [Int.natAbs_natCast]; show _ < 64; omega)⟩
  exact by_sz (x := ((cnt l n : Int), 1)) (i := 6) (j := 1) ⟨by show (cnt l n : Int).natAbs < 64; omega, by show (1 : Int).natAbs < 2; decide⟩ rz (show (1 : Int) ≠ 0 by decide) (lo_low lp).ne
end
end K05
namespace K05
open PySem PySem.Spec PyProof.Rows L2 RatM ClX
/-- a dict of drawn numbers, being drawn -/
def DrawP (HL : Hp) (D t c : Addr) (cells : List Int) (i : Int) (xs : List Str) (j : Nat) (Hx : Hp) : Prop := Keep t HL Hx ∧ (∃ i' g', 0 ≤ i' ∧ i' ≤ i + 4 * (j : Nat) ∧ 0 ≤ g' ∧ Till Hx t c cells i' g') ∧
  ∃ (ps : List Addr) (g : Str → Int × Int), Hx D = some (.lst (ps.map V.ref)) ∧ NuP Hx g ps (xs.take j) ∧ ∀ n ∈ xs.take j, FrD (g n)
theorem NuP.congr {H : Hp} {g g' : Str → Int × Int} {ps : List Addr} {ks : List Str} (h : NuP H g ps ks) (e : ∀ n ∈ ks, g' n = g n) : NuP H g' ps ks := by
  induction h with
  | nil => exact .nil
  | @cons a n l1 l2 x t ih =>
    obtain ⟨o, x1, x2⟩ := x
    exact .cons ⟨o, x1, by rw [e n List.mem_cons_self]; exact x2⟩ (ih fun m hm => e m (List.mem_cons_of_mem _ hm))
theorem draw_turn {HL : Hp} {D t c : Addr} {cells : List Int} {i : Int} {xs : List Str} {s0 s2 s3 s4 s5 s6 s7 s8 s9 s10 s11 s12 s13 s14 s15 : Option V} (ok : ThOk xs) (hT : ∃ g, Till HL t c cells i g) (hi : 0 ≤ i ∧ i ≤ 800000) (nD : HL D = none) (j : Nat) (x : V) (Hx H' : Hp) (hj : j < (xs.map V.str).length) (hP : DrawP HL D t c cells i xs j Hx) (hy : YAt (xs.map V.str) j Hx x H') :
    gName 14 x (wipe [s0, some (.ref t), s2, s3, s4, s5, s6, s7, s8, s9, s10, s11, s12, s13, s14, s15] [14]) H' fun σ2 H2 => wipe σ2 [14] = wipe [s0, some (.ref t), s2, s3, s4, s5, s6, s7, s8, s9, s10, s11, s12, s13, s14, s15] [14] ∧ tYes σ2 H2 fun b H3 =>
      if b = true then tTup (tCons (tVar 14) (tCons (tCall spNumb [] E0 (tCons (tVar 1) tNil)) tNil)) σ2 H3 fun y H4 => ∃ acc, H4 D = some (.lst acc) ∧ acc.length < sizeLine ∧ DrawP HL D t c cells i xs (j + 1) (upd H4 D (.lst (acc ++ [y]))) else DrawP HL D t c cells i xs (j + 1) H3 := by
  obtain ⟨rfl, ex⟩ := hy
  obtain ⟨kp, ⟨i', g', a0, a1, a2, hTx⟩, ps, g, hD, hN, fr⟩ := hP
  obtain ⟨gg, hT⟩ := hT
  have nDt : D ≠ t := hT.off nD
  have nDc : D ≠ c := fun e => by rw [e, hT.hc] at nD; cases nD
  rw [List.getElem?_map] at ex
  obtain ⟨n, en, rfl⟩ := Option.map_eq_some_iff.mp ex
  have jl : j < xs.length := (List.getElem?_eq_some_iff.mp en).1
  have l4 := ok.le
  have nt : n ∉ xs.take j := fun m => by
    obtain ⟨k, hk, ek⟩ := List.mem_take_iff_getElem.mp m
    have h1 : xs[k]? = some n := by rw [List.getElem?_eq_getElem (by omega), ek]
    have lj : k < xs.length := by omega
    have h2 := (List.getElem?_inj lj ok.nd).mp (h1.trans en.symm)
    omega
  refine ⟨rfl, yesI ?_⟩
  refine ⟨_, rfl, _, rfl, t, c, cells, i', g', rfl, hTx, a0, by omega, a2, fun p z i2 g2 H2 fz b0 b1 b2 kp2 np ep hT2 => ?_⟩
  refine ⟨by rw [sizeLine_eq]; show 2 ≤ 16777216; decide, fun q nq => ?_⟩
  have sq : Same H2 (upd H2 q (.tup [.str n, .ref p])) := same_upd nq
  have eq : (upd H2 q (.tup [.str n, .ref p])) q = some (.tup [.str n, .ref p]) := upd_same
  have hD2 := kp2 _ _ nDt hD
  refine ⟨_, sq _ _ hD2, ?_, fun b ob nb e => ?_, ⟨i2, g2, b0, by omega, b2, (hT2.same sq).upd nDt nDc⟩, ps ++ [q], (fun m => if m = n then z else g m), ?_, ?_, ?_⟩
  · have f2 := List.length_take (i := j) (l := xs)
    have f3 := Paired.length hN
    simp only [List.length_map]
    rw [sizeLine_eq]; omega
  · rw [upd_ne (ne_of_none e nD)]
    exact sq _ _ (kp2 _ _ nb (kp _ _ nb e))
  · rw [upd_same, List.map_append]; rfl
  · refine NuP.snoc (g := fun m => if m = n then z else g m) (NuP.congr ((hN.keep hTx kp2).same sq) fun m hm => if_neg (show ¬ m = n from fun e => nt (by rw [← e]; exact hm))) en (sq _ _ hD2) eq ?_
    rw [if_pos rfl]
    exact sq _ _ ep
  · intro m hm
    rw [List.take_add_one, en] at hm
    dsimp only
    by_cases e : m = n
    · rw [if_pos e]; exact fz
    · rw [if_neg e]
      rcases List.mem_append.mp hm with z | z
      · exact fr m z
      · exact absurd (by simpa using z) e
/-- what the law has drawn -/
structure LawS (K : PySem.W.Frag) (CB C : Addr) (H : Hp) (t c : Addr) (cells : List Int) (i g : Int) (p1 d1 d2 o a1 a2 : Addr) (y : V) (x : Int × Int) (xs1 xs2 : List Str) (kv1 kv2 : List (Key × V)) (g1 g2 : Str → Int × Int) (z1 z2 : List Str) : Prop where
  hT : Till H t c cells i g
  i0 : 0 ≤ i
  i1 : i ≤ 700000
  g0 : 0 ≤ g
  np : p1 ≠ t
  lst : H p1 = some (.lst (xs1.map V.str))
  h1 : H d1 = some (.dK kv1)
  h2 : H d2 = some (.dK kv2)
  ho : H o = some (.tup (tupF x))
  pl1 : PlD H g1 kv1 xs1
  pl2 : PlD H g2 kv2 xs2
  mine : BX H a1 CB C (vOf g1 xs1) z1 100 4
  its : BX H a2 CB C (vOf g2 xs2) z2 100 4
  num : NumAt H C y x.1 x.2
section
variable {K : PySem.W.Frag} {CB C : Addr} {H H' : Hp} {t c : Addr} {cells : List Int} {i g i' g' : Int} {p1 d1 d2 o a1 a2 : Addr} {y : V} {x : Int × Int} {xs1 xs2 : List Str} {kv1 kv2 : List (Key × V)} {g1 g2 : Str → Int × Int} {z1 z2 : List Str}
theorem LawS.same (h : LawS K CB C H t c cells i g p1 d1 d2 o a1 a2 y x xs1 xs2 kv1 kv2 g1 g2 z1 z2) (s : Same H H') : LawS K CB C H' t c cells i g p1 d1 d2 o a1 a2 y x xs1 xs2 kv1 kv2 g1 g2 z1 z2 :=
  ⟨h.hT.same s, h.i0, h.i1, h.g0, h.np, s _ _ h.lst, s _ _ h.h1, s _ _ h.h2, s _ _ h.ho, h.pl1.same s, h.pl2.same s, h.mine.same s, h.its.same s, h.num.same s⟩
theorem LawS.keep (h : LawS K CB C H t c cells i g p1 d1 d2 o a1 a2 y x xs1 xs2 kv1 kv2 g1 g2 z1 z2) (k : Keep t H H') (hT : Till H' t c cells i' g') (b0 : 0 ≤ i') (b1 : i' ≤ 700000) (b2 : 0 ≤ g') : LawS K CB C H' t c cells i' g' p1 d1 d2 o a1 a2 y x xs1 xs2 kv1 kv2 g1 g2 z1 z2 :=
  ⟨hT, b0, b1, b2, h.np, k _ _ h.np h.lst, k _ _ (h.hT.notLst h.h1 fun _ z => by cases z) h.h1, k _ _ (h.hT.notLst h.h2 fun _ z => by cases z) h.h2, k _ _ (h.hT.notLst h.ho fun _ z => by cases z) h.ho, h.pl1.keep h.hT k, h.pl2.keep h.hT k, h.mine.keep h.hT k, h.its.keep h.hT k, h.num.keep h.hT k⟩
end
theorem numSide {H : Hp} {C : Addr} {y : V} {p q : Int} (h : NumAt H C y p q) : (∃ b, y = .ref b ∧ InsAt H b C) ∨ ∃ i, y = .int i := h.imp (fun ⟨a, e, r⟩ => ⟨a, e, r.ins⟩) fun ⟨e, _⟩ => ⟨p, e⟩
theorem frSz {x : Int × Int} (h : FrD x) : x.1.natAbs < 2 ^ 100 ∧ x.2.natAbs < 2 ^ 4 := ⟨h.top, by have := h.b0; have := h.b1; show _ < 16; omega⟩
theorem BX.drawn {H : Hp} {a CB C : Addr} {g : Str → Int × Int} {ks ys : List Str} (ok : ThOk ks) (fr : ∀ n ∈ ks, FrD (g n)) (p : ys.Perm ks) (so : sortedS ys = true) (h : BalAt H a CB C g (nz g ys)) : BX H a CB C (vOf g ks) (nz g ys) 100 4 :=
  ⟨g, h, BalV.drawn ok.ns fr p so, fun n m => frSz (fr n (p.mem_iff.mp (List.mem_filter.mp m).1))⟩
theorem nz_len {g : Str → Int × Int} {ks ys : List Str} (ok : ThOk ks) (p : ys.Perm ks) : (nz g ys).length ≤ 4 := Nat.le_trans (List.length_filter_le _ _) (by rw [p.length_eq]; exact ok.le)
theorem vOf_nil (g : Str → Int × Int) (n : Str) : vOf g [] n = 0 := by
  unfold vOf
  rw [num_out (by simp), val01]
theorem val_one : val (1, 1) = 1 := by rw [val_int]; rfl
end K05
namespace K05
open PySem PySem.Spec PyProof.Rows L2 RatM ClX
def fourN : List Str := ["a", "b", "c", "dd"]
theorem four_ok : ∀ n ∈ fourN, n.length ≤ 12 ∧ nameT n.cps.toList = true := by decide +kernel
theorem vMean_rev (l : List Str) (n : Str) : vMean l.reverse n = vMean l n := by
  unfold vMean cnt
  rw [List.countP_reverse, List.length_reverse]
theorem tyV_lst {K : PySem.W.Frag} {H : Hp} {a : Addr} {xs : List V} (h : H a = some (.lst xs)) : tyV K "list" (.ref a) H := .inl ⟨rfl, xs, SqL.of h⟩
/-- the means, being made -/
def MeanP (HL : Hp) (D : Addr) (l : List Str) (j : Nat) (Hy : Hp) : Prop := Same HL Hy ∧ ∃ ps : List Addr, Hy D = some (.lst (ps.map V.ref)) ∧ NuP Hy (meanL l) ps (l.take j)
theorem mean_turn {K : PySem.W.Frag} {HL : Hp} {D L : Addr} {l : List Str} {s0 s1 s2 s3 s4 s5 s6 s7 s8 s9 s10 s11 s13 s14 s15 : Option V} (hL : HL L = some (.lst (l.map V.str))) (ne : l ≠ []) (l60 : l.length ≤ 60) (nD : HL D = none) (j : Nat) (x : V) (Hx H' : Hp) (hP : MeanP HL D l j Hx) (hy : YAt (l.map V.str) j Hx x H') :
    gName 14 x (wipe [s0, s1, s2, s3, s4, s5, s6, s7, s8, s9, s10, s11, some (.ref L), s13, s14, s15] [14]) H' fun σ2 H2 => wipe σ2 [14] = wipe [s0, s1, s2, s3, s4, s5, s6, s7, s8, s9, s10, s11, some (.ref L), s13, s14, s15] [14] ∧ tYes σ2 H2 fun b H3 =>
      if b = true then tTup (tCons (tVar 14) (tCons (tCall spLw [] E0 (tCons (tBM K "list" (rCntS K) (tVar 12) (tCons (tVar 14) tNil)) (tCons (tCB (fun xs H Q => ∃ p ys, xs = [.ref p] ∧ (SqL K H p ys ∨ SqT K H p ys) ∧ Q (.int ys.length) H) (tCons (tVar 12) tNil)) tNil))) tNil)) σ2 H3 fun y H4 => ∃ acc, H4 D = some (.lst acc) ∧ acc.length < sizeLine ∧ MeanP HL D l (j + 1) (upd H4 D (.lst (acc ++ [y]))) else MeanP HL D l (j + 1) H3 := by
  obtain ⟨rfl, ex⟩ := hy
  obtain ⟨sy, ps, hD2, hN⟩ := hP
  rw [List.getElem?_map] at ex
  obtain ⟨n, en, rfl⟩ := Option.map_eq_some_iff.mp ex
  have lp : ((l.length : Nat) : Int) ≠ 0 := by have := List.length_pos_iff.mpr ne; omega
  have lb : ((l.length : Nat) : Int).natAbs < 2 ^ 4000 := Nat.lt_of_lt_of_le (show _ < 2 ^ 6 by rw [Int.natAbs_natCast]; show _ < 64; omega) (Nat.pow_le_pow_right (by decide) (by decide))
  have hLx := sy _ _ hL
  refine ⟨rfl, yesI ?_⟩
  refine ⟨_, rfl, ?_⟩
  refine ⟨_, rfl, tyV_lst hLx, ?_⟩
  refine ⟨_, rfl, ?_⟩
  refine ⟨L, l, n, rfl, rfl, SqL.of hLx, ?_⟩
  refine ⟨_, rfl, L, l.map V.str, rfl, .inl (SqL.of hLx), ?_⟩
  rw [List.length_map]
  refine ⟨((l.countP fun x => decide (x = n) : Nat) : Int), ((l.length : Nat) : Int), rfl, lp, lb, fun p np => ?_⟩
  have sp : Same H' (upd H' p (.tup (tupF (meanL l n)))) := same_upd np
  have ep : (upd H' p (.tup (tupF (meanL l n)))) p = some (.tup (tupF (meanL l n))) := upd_same
  change tNil _ (upd H' p (.tup (tupF (meanL l n)))) _
  generalize (upd H' p (.tup (tupF (meanL l n)))) = Ha at sp ep ⊢
  refine ⟨by rw [sizeLine_eq]; show 2 ≤ 16777216; decide, fun q nq => ?_⟩
  have sq : Same Ha (upd Ha q (.tup [.str n, .ref p])) := same_upd nq
  have eq : (upd Ha q (.tup [.str n, .ref p])) q = some (.tup [.str n, .ref p]) := upd_same
  generalize (upd Ha q (.tup [.str n, .ref p])) = Hb at sq eq ⊢
  have sab := sp.trans sq
  refine ⟨_, sab _ _ hD2, ?_, fun b ob e => ?_, ps ++ [q], ?_, ?_⟩
  · have f2 := List.length_take (i := j) (l := l)
    have f3 := Paired.length hN
    simp only [List.length_map]
    rw [sizeLine_eq]; omega
  · rw [upd_ne (ne_of_none e nD)]; exact sab _ _ (sy _ _ e)
  · rw [upd_same, List.map_append]; rfl
  · exact NuP.snoc (hN.same sab) en (sab _ _ hD2) eq (sq _ _ ep)
end K05
namespace K05
open PySem PySem.Spec PyProof.Rows L2 RatM ClX
/-- what the law itself calls besides -/
structure LawB (P : Program) (w : World) (K : PySem.W.Frag) (mg : Str → Option Value) (base : Heap) (CB C BR : Addr) : Prop where
  W : BopK P w K mg base CB C BR
  rng : mg "range" = none
  ren : ∃ (f : Addr) (fd : FuncData), Meth K CB "renamed" f ∧ FnOk P w K mg base (L2.CX P w) 10 f fd ["self", "names"] (spRen CB C) ∧ BindsKM fd "self" ["names"]
  mean : ∃ (f : Addr) (fd : FuncData), FnOk P w K mg base (L2.CX P w) 12 f fd ["things"] (spMean CB C) ∧ Binds K fd ["things"] [] ∧ BindsK fd ["things"] ∧ PySem.W.keepIn K (.ref f) = true ∧ mg "mean_of" = some (.ref f)
  reel : ∃ (f : Addr) (fd : FuncData), FnOk P w K mg base CX0 1 f fd ["_law_script"] (spTill K) ∧ Binds K fd ["_law_script"] [] ∧ PySem.W.keepIn K (.ref f) = true ∧ mg "_law_reel" = some (.ref f)
  turn : ∃ (f : Addr) (fd : FuncData), FnOk P w K mg base CX0 1 f fd ["_law_reel_here", "_law_many"] spCoin ∧ Binds K fd ["_law_reel_here", "_law_many"] [] ∧ PySem.W.keepIn K (.ref f) = true ∧ mg "_law_turn" = some (.ref f)
  pick : ∃ (f : Addr) (fd : FuncData), FnOk P w K mg base CX0 2 f fd ["_law_reel_here", "_law_some"] spOf ∧ Binds K fd ["_law_reel_here", "_law_some"] [] ∧ PySem.W.keepIn K (.ref f) = true ∧ mg "_law_pick" = some (.ref f)
  low : ∃ (f : Addr) (fd : FuncData), FnOk P w K mg base CX0 2 f fd ["_law_top", "_law_bottom"] spLw ∧ Binds K fd ["_law_top", "_law_bottom"] [] ∧ PySem.W.keepIn K (.ref f) = true ∧ mg "_law_low" = some (.ref f)
  number : ∃ (f : Addr) (fd : FuncData), FnOk P w K mg base CX0 3 f fd ["_law_reel_here"] spNumb ∧ Binds K fd ["_law_reel_here"] [] ∧ PySem.W.keepIn K (.ref f) = true ∧ mg "_law_number" = some (.ref f)
  things : ∃ (f : Addr) (fd : FuncData), FnOk P w K mg base CX0 3 f fd ["_law_reel_here", "_law_many"] spThs ∧ Binds K fd ["_law_reel_here", "_law_many"] [] ∧ PySem.W.keepIn K (.ref f) = true ∧ mg "_law_things" = some (.ref f)
  made : ∃ (f : Addr) (fd : FuncData), FnOk P w K mg base CX0 10 f fd ["_law_reel_here", "_law_plain"] (spMade CB C) ∧ Binds K fd ["_law_reel_here", "_law_plain"] [] ∧ PySem.W.keepIn K (.ref f) = true ∧ mg "_law_made" = some (.ref f)
  ratio : ∃ (f : Addr) (fd : FuncData), FnOk P w K mg base CX0 5 f fd ["_law_reel_here", "_law_pair"] (spRt C) ∧ Binds K fd ["_law_reel_here", "_law_pair"] [] ∧ PySem.W.keepIn K (.ref f) = true ∧ mg "_law_ratio" = some (.ref f)
  isAs : ∃ (f : Addr) (fd : FuncData), FnOk P w K mg base CX0 10 f fd ["_law_balance", "_law_plain"] (spIsAs CB C) ∧ Binds K fd ["_law_balance", "_law_plain"] [] ∧ PySem.W.keepIn K (.ref f) = true ∧ mg "_law_is_as" = some (.ref f)
  sumL : ∃ (f : Addr) (fd : FuncData), FnOk P w K mg base CX0 4 f fd ["_law_one", "_law_other", "_law_times"] spSumL ∧ Binds K fd ["_law_one", "_law_other", "_law_times"] [] ∧ PySem.W.keepIn K (.ref f) = true ∧ mg "_law_sum" = some (.ref f)
  right : ∃ (f : Addr) (fd : FuncData), FnOk P w K mg base CX0 13 f fd ["_law_reel_here", "_law_balance", "_law_plain"] (spLR CB C) ∧ Binds K fd ["_law_reel_here", "_law_balance", "_law_plain"] [] ∧ PySem.W.keepIn K (.ref f) = true ∧ mg "_law_least_right" = some (.ref f)
  renL : ∃ (f : Addr) (fd : FuncData), FnOk P w K mg base CX0 4 f fd ["_law_plain", "_law_names_here"] spRenL ∧ Binds K fd ["_law_plain", "_law_names_here"] [] ∧ PySem.W.keepIn K (.ref f) = true ∧ mg "_law_renamed" = some (.ref f)
  names : ∃ (f : Addr) (fd : FuncData), FnOk P w K mg base CX0 3 f fd ["_law_reel_here", "_law_things_here"] spNw ∧ Binds K fd ["_law_reel_here", "_law_things_here"] [] ∧ PySem.W.keepIn K (.ref f) = true ∧ mg "_law_names" = some (.ref f)
theorem th_nil : ThOk [] := ⟨List.nodup_nil, by decide, fun n m => by cases m⟩
theorem neg1 : ((-1 : Int) : Rat) = -1 := rfl
theorem pos1 : ((1 : Int) : Rat) = 1 := rfl
theorem nm_flat {kn : List (Key × V)} {ps : List (Str × Str)} (h : NmD kn ps) (nd : (ps.map (·.1)).Nodup) {p : Key × V} (hp : p ∈ kn) : valV kn p.1 = some p.2 ∧ flatB p.2 = true := by
  induction h with
  | nil => cases hp
  | @cons a q l1 l2 x t ih =>
    rw [List.map_cons, List.nodup_cons] at nd
    subst x
    rcases List.mem_cons.mp hp with e | e
    · subst e
      exact ⟨valV_pos rfl, rfl⟩
    · obtain ⟨h1, h2⟩ := ih nd.2 e
      refine ⟨?_, h2⟩
      have : p.1 ≠ .inr q.1 := fun z => by
        obtain ⟨n, i, hn⟩ : ∃ n, n ∈ l2.map (·.1) ∧ p.1 = .inr n := by
          clear ih nd hp h1 z
          induction t with
          | nil => cases e
          | @cons b r m1 m2 y t2 ih2 =>
            subst y
            rcases List.mem_cons.mp e with e2 | e2
            · exact ⟨r.1, List.mem_cons_self, by rw [e2]⟩
            · obtain ⟨n, i, hn⟩ := ih2 e2
              exact ⟨n, List.mem_cons_of_mem _ i, hn⟩
        rw [hn] at z
        injection z with z
        rw [z] at i
        exact nd.1 i
      rw [valV_neg (Ne.symm this)]
      exact h1
def spLaw (K : PySem.W.Frag) : Sp := fun vs H Q _ => ∃ (a : Addr) (ns : List Int), vs = [.ref a] ∧ SqL K H a (ns.map V.int) ∧ ns.length ≤ 63 ∧ ∀ H', Q (.bl true) H'
section
variable {P : Program} {w : World} {K : PySem.W.Frag} {mg : Str → Option Value} {base : Heap} {C BR CB : Addr}
abbrev nsLw : List Str := ["_law_script", "_law_reel_here", "_law_things_here", "_law_others", "_law_one", "_law_other", "_law_times", "_law_mine", "_law_its", "_law_ratio_here", "_law_names_here", "_law_kept", "_law_some", "_law_due", "_law_thing", "_law_turn_here"]
theorem scLw : FnScope nsLw ["_law_script"] (defScope (top 64)) := ⟨rfl, rfl, rfl, by decide +kernel, rfl, by decide +kernel, by decide +kernel⟩
theorem ok_law {f : Addr} {fd : FuncData} (F : FnP K "law" (top 64) f fd) (Z : LawB P w K mg base CB C BR) : FnOk P w K mg base CX0 14 f fd ["_law_script"] (spLaw K) := by
  obtain ⟨fA, fdA, MA, GA, bA⟩ := Z.W.add
  obtain ⟨fS, fdS, MS, GS, bS⟩ := Z.W.sub2
  obtain ⟨fM, fdM, MM, GM, bM⟩ := Z.W.mul
  obtain ⟨fMC, MMC⟩ := Z.W.mulC
  obtain ⟨fN, fdN, MN, GN, bN⟩ := Z.W.neg
  obtain ⟨fE, fdE, ME, GE, bE⟩ := Z.W.eq
  obtain ⟨fR, fdR, MR, GR, bR⟩ := Z.ren
  obtain ⟨fMe, fdMe, GMe, bMe, bMeK, kMe, gMe⟩ := Z.mean
  obtain ⟨fRe, fdRe, GRe, bRe, kRe, gRe⟩ := Z.reel
  obtain ⟨fT, fdT, GT, bT, kT, gT⟩ := Z.turn
  obtain ⟨fP, fdP, GP, bP, kP, gP⟩ := Z.pick
  obtain ⟨fLw, fdLw, GLw, bLw, kLw, gLw⟩ := Z.low
  obtain ⟨fNu, fdNu, GNu, bNu, kNu, gNu⟩ := Z.number
  obtain ⟨fTh, fdTh, GTh, bTh, kTh, gTh⟩ := Z.things
  obtain ⟨fMa, fdMa, GMa, bMa, kMa, gMa⟩ := Z.made
  obtain ⟨fRa, fdRa, GRa, bRa, kRa, gRa⟩ := Z.ratio
  obtain ⟨fI, fdI, GI, bI, kI, gI⟩ := Z.isAs
  obtain ⟨fSu, fdSu, GSu, bSu, kSu, gSu⟩ := Z.sumL
  obtain ⟨fLR, fdLR, GLR, bLR, kLR, gLR⟩ := Z.right
  obtain ⟨fRL, fdRL, GRL, bRL, kRL, gRL⟩ := Z.renL
  obtain ⟨fNm, fdNm, GNm, bNm, kNm, gNm⟩ := Z.names
  have W := Z.W
  have O := W.L.O
  have B := O.B
  have bd := W.L.dict
  have bl := W.L.list
  refine F.ok scLw (fun vs H Q E h => ?_) (fun cdv A outer s H vs Q E hr h => ?_)
  · obtain ⟨a, ns, rfl, _⟩ := h
    rfl
  · obtain ⟨a, ns, rfl, ha, hns, k⟩ := h
    have h13 : Room 13 _ := hr
    have h12 : Room 12 _ := h13.mono (by decide)
    have h11 : Room 11 _ := h13.mono (by decide)
    have h10 : Room 10 _ := h13.mono (by decide)
    have h5 : Room 5 _ := h13.mono (by decide)
    have h4 : Room 4 _ := h13.mono (by decide)
    have h3 : Room 3 _ := h13.mono (by decide)
    have h2 : Room 2 _ := h13.mono (by decide)
    have h1 : Room 1 _ := h13.mono (by decide)
    have hu : (A.deeper (envOfC (Str.ofString "law") (defScope (top 64)) s.heap.objs.size f cdv)).units < cLine := by have := h13.units; omega
    refine ⟨_, PSs.nox (pss_cons (ps_set (i := 1) scLw.nd rfl (.inr rfl) (pe_call GRe h1 rfl gRe kRe bRe .nil pass0 (pa_cons (pv 0) pa_nil)))
      (pss_cons (ps_par (i := 2) (j := 3) rfl scLw.nd rfl rfl (by decide) rfl rfl (pa_cons (pe_call GTh h3 rfl gTh kTh bTh .nil pass0 (pa_cons (pv 1) (pa_cons (pe_call GT h1 rfl gT kT bT .nil pass0 (pa_cons (pv 1) (pa_cons pe_int pa_nil))) pa_nil))) (pa_cons (pe_call GTh h3 rfl gTh kTh bTh .nil pass0 (pa_cons (pv 1) (pa_cons (pe_call GT h1 rfl gT kT bT .nil pass0 (pa_cons (pv 1) (pa_cons pe_int pa_nil))) pa_nil))) pa_nil)) rfl)
      (pss_cons (ps_par (i := 4) (j := 5) rfl scLw.nd rfl rfl (by decide) rfl rfl
        (pa_cons (pe_callTy (call_dictP rfl) (by rfl) bd PyProof.Rows.boot_dict (pa_cons (pe_lc (own := [("_law_thing", 14)]) (g := gName 14) (tt := tYes) (te := tTup (tCons (tVar 14) (tCons (tCall spNumb [] E0 (tCons (tVar 1) tNil)) tNil))) rfl scLw.nd (pi_list (pv 2)) (blkOk_by (N := nsLw) (sc := defScope (top 64)) (by decide +kernel)) (fun _ _ _ _ _ => pg_name (i := 14) scLw.nd rfl (Or.inl rfl)) (fun _ _ _ _ _ => pts_nil) (fun _ _ _ _ _ => pe_tup (pa_cons (pv 14) (pa_cons (pe_call GNu (by exact h3) rfl gNu kNu bNu .nil pass0 (pa_cons (pv 1) pa_nil)) pa_nil)))) pa_nil))
        (pa_cons (pe_callTy (call_dictP rfl) (by rfl) bd PyProof.Rows.boot_dict (pa_cons (pe_lc (own := [("_law_thing", 14)]) (g := gName 14) (tt := tYes) (te := tTup (tCons (tVar 14) (tCons (tCall spNumb [] E0 (tCons (tVar 1) tNil)) tNil))) rfl scLw.nd (pi_list (pv 3)) (blkOk_by (N := nsLw) (sc := defScope (top 64)) (by decide +kernel)) (fun _ _ _ _ _ => pg_name (i := 14) scLw.nd rfl (Or.inl rfl)) (fun _ _ _ _ _ => pts_nil) (fun _ _ _ _ _ => pe_tup (pa_cons (pv 14) (pa_cons (pe_call GNu (by exact h3) rfl gNu kNu bNu .nil pass0 (pa_cons (pv 1) pa_nil)) pa_nil)))) pa_nil)) pa_nil)) rfl)
      (pss_cons (ps_set (i := 6) scLw.nd rfl (.inl rfl) (pe_call GNu h3 rfl gNu kNu bNu .nil pass0 (pa_cons (pv 1) pa_nil)))
      (pss_cons (ps_par3 (i := 7) (j := 8) (l := 9) rfl scLw.nd rfl rfl rfl (by decide) (by decide) (by decide) rfl rfl rfl (pa_cons (pe_call GMa h10 rfl gMa kMa bMa .nil pass0 (pa_cons (pv 1) (pa_cons (pv 4) pa_nil))) (pa_cons (pe_call GMa h10 rfl gMa kMa bMa .nil pass0 (pa_cons (pv 1) (pa_cons (pv 5) pa_nil))) (pa_cons (pe_call GRa h5 rfl gRa kRa bRa .nil pass0 (pa_cons (pv 1) (pa_cons (pv 6) pa_nil))) pa_nil))) rfl)
      (pss_cons (ps_if (PW.pt (pw_or (pt_not (pt_val (pe_call GI h10 rfl gI kI bI .nil pass0 (pa_cons (pe_op (op_ownC (op := .Add) MA W.sfB GA h11 bA (E := E0) passL) (pv 7) (pv 8)) (pa_cons (pe_call GSu h4 rfl gSu kSu bSu .nil pass0 (pa_cons (pv 4) (pa_cons (pv 5) (pa_cons (pe_tup (pa_cons pe_int (pa_cons pe_int pa_nil))) pa_nil)))) pa_nil)))))
          (pw_or1 (pt_not (pt_val (pe_call GI h10 rfl gI kI bI .nil pass0 (pa_cons (pe_op (op_ownC (op := .Sub) MS W.sfB GS h11 bS (E := E0) passL) (pv 7) (pv 8)) (pa_cons (pe_call GSu h4 rfl gSu kSu bSu .nil pass0 (pa_cons (pv 4) (pa_cons (pv 5) (pa_cons (pe_tup (pa_cons (pe_un un_neg pe_int) (pa_cons pe_int pa_nil))) pa_nil)))) pa_nil)))))))) (pss_one (ps_ret pe_bl)) pss_nil)
      (pss_cons (ps_if (PW.pt (pw_or (pt_not (pt_val (pe_call GI h10 rfl gI kI bI .nil pass0 (pa_cons (pe_un (un_ownNeg MN GN h11 bN (E := E0) passL) (pv 7)) (pa_cons (pe_call GSu h4 rfl gSu kSu bSu .nil pass0 (pa_cons pe_dnewK (pa_cons (pv 4) (pa_cons (pe_tup (pa_cons (pe_un un_neg pe_int) (pa_cons pe_int pa_nil))) pa_nil)))) pa_nil)))))
          (pw_or1 (pt_not (pt_val (pe_call GI h10 rfl gI kI bI .nil pass0 (pa_cons (pe_op (op_ownN (op := .Mult) MM W.sfB W.rmB MMC O.sf W.rmC (Ne.symm B.n) W.sub W.rt GM h11 bM (E := E0) passL) (pv 7) (pv 9)) (pa_cons (pe_call GSu h4 rfl gSu kSu bSu .nil pass0 (pa_cons pe_dnewK (pa_cons (pv 4) (pa_cons (pv 6) pa_nil)))) pa_nil)))))))) (pss_one (ps_ret pe_bl)) pss_nil)
      (pss_cons (ps_if (PW.pt (pw_or (pt_cmpR (op_neOwn ME W.ne W.ob GE h2 bE (E := E0) pass0) (pe_op (op_ownC (op := .Sub) MS W.sfB GS h11 bS (E := E0) passL) (pe_op (op_ownC (op := .Add) MA W.sfB GA h11 bA (E := E0) passL) (pv 7) (pv 8)) (pv 8)) (pv 7) (nomark _))
          (pw_or (pt_not (pt_val (pe_fld (pe_op (op_ownC (op := .Sub) MS W.sfB GS h11 bS (E := E0) passL) (pv 7) (pv 7)) rfl)))
          (pw_or (pt_cmpR (op_neOwn ME W.ne W.ob GE h2 bE (E := E0) pass0) (pe_op (op_ownC (op := .Add) MA W.sfB GA h11 bA (E := E0) passL) (pv 7) (pv 8)) (pe_op (op_ownC (op := .Add) MA W.sfB GA h11 bA (E := E0) passL) (pv 8) (pv 7)) (nomark _))
          (pw_or1 (pt_cmpR (op_neOwn ME W.ne W.ob GE h2 bE (E := E0) pass0) (pe_op (op_ownN (op := .Mult) MM W.sfB W.rmB MMC O.sf W.rmC (Ne.symm B.n) W.sub W.rt GM h11 bM (E := E0) passL) (pe_op (op_ownC (op := .Add) MA W.sfB GA h11 bA (E := E0) passL) (pv 7) (pv 8)) (pv 9))
            (pe_op (op_ownC (op := .Add) MA W.sfB GA h11 bA (E := E0) passL) (pe_op (op_ownN (op := .Mult) MM W.sfB W.rmB MMC O.sf W.rmC (Ne.symm B.n) W.sub W.rt GM h11 bM (E := E0) passL) (pv 7) (pv 9)) (pe_op (op_ownN (op := .Mult) MM W.sfB W.rmB MMC O.sf W.rmC (Ne.symm B.n) W.sub W.rt GM h11 bM (E := E0) passL) (pv 8) (pv 9))) (nomark _))))))) (pss_one (ps_ret pe_bl)) pss_nil)
      (pss_cons (ps_if (PW.pt (pw_or (pt_not (pt_val (pe_call GI h10 rfl gI kI bI .nil pass0 (pa_cons (pv 7) (pa_cons (pv 4) pa_nil)))))
          (pw_or (pt_not (pt_val (pe_call GI h10 rfl gI kI bI .nil pass0 (pa_cons (pv 8) (pa_cons (pv 5) pa_nil)))))
          (pw_or1 (pt_not (pt_val (pe_call GLR h13 rfl gLR kLR bLR .nil pass0 (pa_cons (pv 1) (pa_cons (pv 7) (pa_cons (pv 4) pa_nil)))))))))) (pss_one (ps_ret pe_bl)) pss_nil)
      (pss_cons (ps_set (i := 10) scLw.nd rfl (.inl rfl) (pe_call GNm h3 rfl gNm kNm bNm .nil pass0 (pa_cons (pv 1) (pa_cons (pv 2) pa_nil))))
      (pss_cons (ps_set (i := 11) scLw.nd rfl (.inl rfl) (pe_callTy (call_dictP rfl) (by rfl) bd PyProof.Rows.boot_dict (pa_cons (LiI.pe_listItems rfl (pv 10) (by rfl) bl PyProof.Rows.boot_list) pa_nil)))
      (pss_cons (ps_if (PW.pt (pw_or (pt_not (pt_val (pe_call GI h10 rfl gI kI bI .nil pass0 (pa_cons (pe_methK0 (pv 7) B.T.cls MR GR h10 bR (E := E0) passL (pk_cons (pv 10) pk_nil)) (pa_cons (pe_call GRL h4 rfl gRL kRL bRL .nil pass0 (pa_cons (pv 4) (pa_cons (pv 11) pa_nil))) pa_nil)))))
          (pw_or (pt_cmpR (op_ne_dictA hu) (pv 10) (pv 11) (nomark _))
          (pw_or1 (pt_not (pt_val (pe_call GI h10 rfl gI kI bI .nil pass0 (pa_cons (pv 7) (pa_cons (pv 4) pa_nil))))))))) (pss_one (ps_ret pe_bl)) pss_nil)
      (pss_cons (ps_set (i := 12) scLw.nd rfl (.inr rfl) (pe_lc (own := [("_law_turn_here", 15)]) (g := gName 15) (tt := tYes) (te := tCall spOf [] E0 (tCons (tVar 1) (tCons (tLst (tCons (tC (.str "a")) (tCons (tC (.str "b")) (tCons (tC (.str "c")) (tCons (tC (.str "dd")) tNil))))) tNil))) rfl scLw.nd (pi_range1 (by rfl) Z.rng (pa_cons (pe_op op_add pe_int (pe_call GT h1 rfl gT kT bT .nil pass0 (pa_cons (pv 1) (pa_cons pe_int pa_nil)))) pa_nil)) (blkOk_by (N := nsLw) (sc := defScope (top 64)) (by decide +kernel)) (fun _ _ _ _ _ => pg_name (i := 15) scLw.nd rfl (Or.inl rfl)) (fun _ _ _ _ _ => pts_nil)
        (fun _ _ _ _ _ => pe_call GP (by exact h2) rfl gP kP bP .nil pass0 (pa_cons (pv 1) (pa_cons (pe_lst (pa_cons pe_str (pa_cons pe_str (pa_cons pe_str (pa_cons pe_str pa_nil))))) pa_nil)))))
      (pss_cons (ps_set (i := 13) scLw.nd rfl (.inl rfl) (pe_callTy (call_dictP rfl) (by rfl) bd PyProof.Rows.boot_dict (pa_cons (pe_lc (own := [("_law_thing", 14)]) (g := gName 14) (tt := tYes) (te := tTup (tCons (tVar 14) (tCons (tCall spLw [] E0 (tCons (tBM K "list" (rCntS K) (tVar 12) (tCons (tVar 14) tNil)) (tCons (tCB (fun xs H Q => ∃ p ys, xs = [.ref p] ∧ (SqL K H p ys ∨ SqT K H p ys) ∧ Q (.int ys.length) H) (tCons (tVar 12) tNil)) tNil))) tNil))) rfl scLw.nd (pi_list (pv 12)) (blkOk_by (N := nsLw) (sc := defScope (top 64)) (by decide +kernel)) (fun _ _ _ _ _ => pg_name (i := 14) scLw.nd rfl (Or.inl rfl)) (fun _ _ _ _ _ => pts_nil)
        (fun _ _ _ _ _ => pe_tup (pa_cons (pv 14) (pa_cons (pe_call GLw (by exact h2) rfl gLw kLw bLw .nil pass0 (pa_cons (pe_bm PySem.F.plainAttrs_list PySem.F.slot_list_count PySem.F.type_list_count mt_lcountS (pv 12) (pa_cons (pv 14) pa_nil)) (pa_cons (pe_callB call_len_seq (by rfl) W.L.T.len PySem.boot_len (pa_cons (pv 12) pa_nil)) pa_nil))) pa_nil)))) pa_nil)))
      (pss_one (ps_ret (pe_and (pe_call GI h10 rfl gI kI bI .nil pass0 (pa_cons (pe_callK0 GMe h12 rfl gMe kMe bMeK (E := E0) passL (pk_cons (pv 12) pk_nil)) (pa_cons (pv 13) pa_nil)))
        (pe_one (pe_call GI h10 rfl gI kI bI .nil pass0 (pa_cons (pe_call GMe h12 rfl gMe kMe bMe .nil (E := E0) passL (pa_cons (pe_callTy call_tuple_of (by rfl) W.L.tup PyProof.Rows.boot_tuple (pa_cons (pe_revL (pv 12)) pa_nil)) pa_nil)) (pa_cons (pv 13) pa_nil))))))))))))))))))))), ?_⟩
    refine ⟨_, rfl, a, ns, rfl, ha, hns, fun t c H1 s1 nt hT1 => ?_⟩
    dsimp only [tNext, tSeq, tAsg, gName]
    generalize hcells : ns.take 60 = cells at hT1
    -- the things
    refine ⟨_, rfl, _, rfl, t, c, cells, 0, 0, 5, rfl, hT1, by decide, by decide, by decide, by decide, by decide, fun m1 i1 g1 H2 m10 m11 j0 j1 k0 kp1 hT2 => ?_⟩
    refine ⟨t, c, cells, i1, g1, m1, rfl, m10, by omega, hT2, j0, by omega, k0, fun p1 xs1 i2 g2 H3 ok1 j2 j3 k2 kp2 np1 e1 hT3 => ?_⟩
    refine ⟨_, rfl, _, rfl, t, c, cells, i2, g2, 5, rfl, hT3, j2, by omega, k2, by decide, by decide, fun m2 i3 g3 H4 m20 m21 j4 j5 k3 kp3 hT4 => ?_⟩
    refine ⟨t, c, cells, i3, g3, m2, rfl, m20, by omega, hT4, j4, by omega, k3, fun p2 xs2 i4 g4 H5 ok2 j6 j7 k4 kp4 np2 e2 hT5 => ?_⟩
    refine ⟨_, _, rfl, ?_⟩
    dsimp only [tNext, tSeq]
    have e1' := kp4 _ _ np1 (kp3 _ _ np1 e1)
    have i4b : i4 ≤ 8 := by omega
    clear kp1 kp2 kp3 kp4 hT1 hT2 hT3 hT4 e1 s1 nt hcells
    have l1 := ok1.le
    have l2 := ok2.le
    -- the numbers of the first
    refine ⟨_, rfl, p1, rfl, ⟨_, SqL.of e1'⟩, fun D1 nD1 => ?_⟩
    refine lc_it (walk_list (xs := xs1.map V.str)) (DrawP H5 D1 t c cells i4 xs1) ⟨Keep.refl.same (same_upd nD1), ⟨i4, g4, j6, by omega, k4, hT5.same (same_upd nD1)⟩, [], (fun _ => (0, 1)), upd_same, .nil, fun n m => by (cases m)⟩ (fun j Hx _ hP => SqL.of (hP.1 _ _ np1 e1')) (fun j x Hx H' hj hP hy => draw_turn ok1 ⟨_, hT5⟩ ⟨j6, by omega⟩ nD1 j x Hx H' hj hP hy) (fun H6 hP => ?_)
    obtain ⟨kp5, ⟨i5, g5, j8, j9, k5, hT6⟩, ps1, q1, hD1, hN1, fr1⟩ := hP
    rw [List.length_map, List.take_length] at hN1 fr1
    rw [List.length_map] at j9
    obtain ⟨kv1, u1, u2⟩ := hN1.kvs (K := K)
    refine ⟨D1, ps1, kv1, rfl, SqL.of hD1, u1, fun d1 nd1 => ?_⟩
    rw [mergeK_names u2.kyn ok1.nd]
    have s6 : Same H6 (upd H6 d1 (.dK kv1)) := same_upd nd1
    have hd1 : (upd H6 d1 (.dK kv1)) d1 = some (.dK kv1) := upd_same
    have pl1 := u2.same s6
    have hT7 := hT6.same s6
    have k57 := kp5.same s6
    generalize (upd H6 d1 (.dK kv1)) = H7 at hd1 pl1 hT7 k57 ⊢
    have lst1 := k57 _ _ np1 e1'
    have lst2 := k57 _ _ np2 e2
    clear s6 u1 u2 hN1 hD1 hT6 kp5 k57 hT5 e1' e2 nd1
    -- the numbers of the second
    refine ⟨_, rfl, p2, rfl, ⟨_, SqL.of lst2⟩, fun D2 nD2 => ?_⟩
    refine lc_it (walk_list (xs := xs2.map V.str)) (DrawP H7 D2 t c cells i5 xs2) ⟨Keep.refl.same (same_upd nD2), ⟨i5, g5, j8, by omega, k5, hT7.same (same_upd nD2)⟩, [], (fun _ => (0, 1)), upd_same, .nil, fun n m => by (cases m)⟩ (fun j Hx _ hP => SqL.of (hP.1 _ _ np2 lst2)) (fun j x Hx H' hj hP hy => draw_turn ok2 ⟨_, hT7⟩ ⟨j8, by omega⟩ nD2 j x Hx H' hj hP hy) (fun H8 hP => ?_)
    obtain ⟨kp7, ⟨i6, g6, ja, jb, k6, hT8⟩, ps2, q2, hD2, hN2, fr2⟩ := hP
    rw [List.length_map, List.take_length] at hN2 fr2
    rw [List.length_map] at jb
    obtain ⟨kv2, u1, u2⟩ := hN2.kvs (K := K)
    refine ⟨D2, ps2, kv2, rfl, SqL.of hD2, u1, fun d2 nd2 => ?_⟩
    rw [mergeK_names u2.kyn ok2.nd]
    have s8 : Same H8 (upd H8 d2 (.dK kv2)) := same_upd nd2
    have hd2 : (upd H8 d2 (.dK kv2)) d2 = some (.dK kv2) := upd_same
    have pl2 := u2.same s8
    have hT9 := hT8.same s8
    have k79 := kp7.same s8
    generalize (upd H8 d2 (.dK kv2)) = H9 at hd2 pl2 hT9 k79 ⊢
    replace lst1 := k79 _ _ np1 lst1
    replace pl1 := pl1.keep hT7 k79
    replace hd1 := k79 _ _ (hT7.notLst hd1 fun _ z => by cases z) hd1
    clear s8 u1 u2 hN2 hD2 hT8 kp7 k79 hT7 lst2 nd2
    refine ⟨_, _, rfl, ?_⟩
    dsimp only [tNext, tSeq]
    have i6b : i6 ≤ 40 := by omega
    -- how many times
    refine ⟨_, rfl, t, c, cells, i6, g6, rfl, hT9, ja, by omega, k6, fun o x i7 g7 HA fx jc jd k7 kp9 np ho hTA => ?_⟩
    dsimp only [tNext, tSeq, tAsg, gName]
    replace lst1 := kp9 _ _ np1 lst1
    replace pl1 := pl1.keep hT9 kp9
    replace pl2 := pl2.keep hT9 kp9
    replace hd1 := kp9 _ _ (hT9.notLst hd1 fun _ z => by cases z) hd1
    replace hd2 := kp9 _ _ (hT9.notLst hd2 fun _ z => by cases z) hd2
    clear kp9 hT9 np
    -- the balances
    refine ⟨_, rfl, _, rfl, t, d1, c, cells, i7, g7, kv1, xs1, q1, rfl, hd1, pl1, ok1, fr1, hTA, jc, by omega, k7, fun a1 ys1 i8 g8 HB je jf k8 kpA hTB py1 sy1 hb1 => ?_⟩
    have hx1 := BX.drawn ok1 fr1 py1 sy1 hb1
    have z14 : (nz q1 ys1).length ≤ 4 := nz_len ok1 py1
    generalize nz q1 ys1 = z1 at hx1 z14
    replace lst1 := kpA _ _ np1 lst1
    replace pl1 := pl1.keep hTA kpA
    replace pl2 := pl2.keep hTA kpA
    replace ho := kpA _ _ (hTA.notLst ho fun _ z => by cases z) ho
    replace hd1 := kpA _ _ (hTA.notLst hd1 fun _ z => by cases z) hd1
    replace hd2 := kpA _ _ (hTA.notLst hd2 fun _ z => by cases z) hd2
    clear kpA hTA py1 sy1 hb1
    refine ⟨_, rfl, _, rfl, t, d2, c, cells, i8, g8, kv2, xs2, q2, rfl, hd2, pl2, ok2, fr2, hTB, je, by omega, k8, fun a2 ys2 i9 g9 HC jg jh k9 kpB hTC py2 sy2 hb2 => ?_⟩
    have hx2 := BX.drawn ok2 fr2 py2 sy2 hb2
    have z24 : (nz q2 ys2).length ≤ 4 := nz_len ok2 py2
    generalize nz q2 ys2 = z2 at hx2 z24
    replace lst1 := kpB _ _ np1 lst1
    replace pl1 := pl1.keep hTB kpB
    replace pl2 := pl2.keep hTB kpB
    replace hx1 := hx1.keep hTB kpB
    replace ho := kpB _ _ (hTB.notLst ho fun _ z => by cases z) ho
    replace hd1 := kpB _ _ (hTB.notLst hd1 fun _ z => by cases z) hd1
    replace hd2 := kpB _ _ (hTB.notLst hd2 fun _ z => by cases z) hd2
    clear kpB hTB py2 sy2 hb2
    have ot : o ≠ t := hTC.notLst ho fun _ z => by cases z
    refine ⟨_, rfl, _, rfl, t, o, c, cells, i9, g9, x, rfl, ot, ho, fx, hTC, jg, by omega, k9, fun y ia ga HD hy ji jk kA kpC hTD => ?_⟩
    refine ⟨_, _, _, rfl, ?_⟩
    dsimp only [tNext, tSeq]
    have S : LawS K CB C HD t c cells ia ga p1 d1 d2 o a1 a2 y x xs1 xs2 kv1 kv2 q1 q2 z1 z2 :=
      ⟨hTD, ji, by omega, kA, np1, kpC _ _ np1 lst1, kpC _ _ (hTC.notLst hd1 fun _ z => by cases z) hd1, kpC _ _ (hTC.notLst hd2 fun _ z => by cases z) hd2, kpC _ _ ot ho, pl1.keep hTC kpC, pl2.keep hTC kpC, hx1.keep hTC kpC, hx2.keep hTC kpC, hy⟩
    have iab : ia ≤ 100 := by omega
    clear kpC hTC hTD ho hd1 hd2 pl1 pl2 hx1 hx2 lst1 hy np1 np2
    have sz2 : (2 : Nat) ≤ sizeLine := by rw [sizeLine_eq]; decide
    have f1 : FrD (1, 1) := fr_int (by decide)
    have fm : FrD (-1, 1) := fr_int (by decide)
    -- sum and difference
    refine ⟨_, rfl, _, rfl, a1, a2, rfl, rfl, S.mine.ins, S.its.ins, S.mine.sum S.its ⟨by decide, by decide, by decide, by decide⟩ (by omega) (.inl rfl) fun a3 z3 HE sE l3 hb3 => ?_⟩
    refine ⟨_, rfl, _, rfl, sz2, fun q nq => ?_⟩
    have sq : Same HE (upd HE q (.tup [.int 1, .int 1])) := same_upd nq
    have eq : (upd HE q (.tup [.int 1, .int 1])) q = some (.tup (tupF (1, 1))) := upd_same
    generalize (upd HE q (.tup [.int 1, .int 1])) = HF at sq eq ⊢
    have sF := sE.trans sq
    refine nilI (sumX (sF _ _ S.h1) (sF _ _ S.h2) eq (S.pl1.same sF) (S.pl2.same sF) ok1 ok2 fr1 fr2 f1 fun r HG sG px => ?_)
    refine nilI ((hb3.same (sq.trans sG)).isAs px ⟨by decide, by decide⟩ (fun n => by rw [val_int]) fun HI sI => ⟨true, rfl, iteF ?_⟩)
    replace S := S.same (sF.trans (sG.trans sI))
    clear sF sq sE eq hb3 px sG sI nq
    refine ⟨_, rfl, _, rfl, a1, a2, rfl, rfl, S.mine.ins, S.its.ins, S.mine.sum S.its ⟨by decide, by decide, by decide, by decide⟩ (by omega) (.inr rfl) fun a3 z3 HE sE l3 hb3 => ?_⟩
    refine ⟨_, rfl, _, rfl, _, rfl, sz2, fun q nq => ?_⟩
    have sq : Same HE (upd HE q (.tup [.int (-1), .int 1])) := same_upd nq
    have eq : (upd HE q (.tup [.int (-1), .int 1])) q = some (.tup (tupF (-1, 1))) := upd_same
    generalize (upd HE q (.tup [.int (-1), .int 1])) = HF at sq eq ⊢
    have sF := sE.trans sq
    refine nilI (sumX (sF _ _ S.h1) (sF _ _ S.h2) eq (S.pl1.same sF) (S.pl2.same sF) ok1 ok2 fr1 fr2 fm fun r HG sG px => ?_)
    refine nilI ((hb3.same (sq.trans sG)).isAs px ⟨by decide, by decide⟩ (fun n => by rw [val_int]) fun HI sI => ⟨true, rfl, iteF ?_⟩)
    replace S := S.same (sF.trans (sG.trans sI))
    clear sF sq sE eq hb3 px sG sI nq
    dsimp only [tNext, tSeq]
    -- negative, and so many times
    refine ⟨_, rfl, a1, rfl, S.mine.ins, S.mine.neg ⟨by decide, by decide⟩ fun a3 HE sE hb3 => ?_⟩
    intro D nD
    refine ⟨_, rfl, _, rfl, sz2, fun q nq => ?_⟩
    have sD : Same HE (upd HE D (.dK [])) := same_upd nD
    have eD : (upd HE D (.dK [])) D = some (.dK []) := upd_same
    generalize (upd HE D (.dK [])) = HD0 at sD eD nq ⊢
    have sq : Same HD0 (upd HD0 q (.tup [.int (-1), .int 1])) := same_upd nq
    have eq : (upd HD0 q (.tup [.int (-1), .int 1])) q = some (.tup (tupF (-1, 1))) := upd_same
    generalize (upd HD0 q (.tup [.int (-1), .int 1])) = HF at sq eq ⊢
    have sF := sE.trans (sD.trans sq)
    refine nilI (sumX (g1 := fun _ => (0, 1)) (sq _ _ eD) (sF _ _ S.h1) eq .nil (S.pl1.same sF) th_nil ok1 (fun n m => by cases m) fr1 fm fun r HG sG px => ?_)
    refine nilI ((hb3.same ((sD.trans sq).trans sG)).isAs px ⟨by decide, by decide⟩ (fun n => by rw [vOf_nil, val_m1]; grind) fun HI sI => ⟨true, rfl, iteF ?_⟩)
    replace S := S.same (sF.trans (sG.trans sI))
    clear sF sq sE eq hb3 px sG sI nq sD eD nD
    have xz := frSz fx
    have x0 : x.2 ≠ 0 := by have := fx.b0; omega
    refine ⟨_, rfl, _, rfl, a1, rfl, S.mine.ins, numSide S.num, _, _, rfl, S.mine.times (r := x) ⟨by decide, by decide⟩ S.num xz ⟨by decide, by decide⟩ x0 fun a3 z3 HE sE l3 _ hb3 => ?_⟩
    intro D nD
    refine ⟨_, rfl, _, rfl, ?_⟩
    have sD : Same HE (upd HE D (.dK [])) := same_upd nD
    have eD : (upd HE D (.dK [])) D = some (.dK []) := upd_same
    generalize (upd HE D (.dK [])) = HD0 at sD eD ⊢
    have sF := sE.trans sD
    refine nilI (sumX (g1 := fun _ => (0, 1)) eD (sF _ _ S.h1) (sF _ _ S.ho) .nil (S.pl1.same sF) th_nil ok1 (fun n m => by cases m) fr1 fx fun r HG sG px => ?_)
    refine nilI ((hb3.same (sD.trans sG)).isAs px ⟨by decide, by decide⟩ (fun n => by rw [vOf_nil]; grind) fun HI sI => ⟨true, rfl, iteF ?_⟩)
    replace S := S.same (sF.trans (sG.trans sI))
    clear sF sE hb3 px sG sI sD eD nD
    dsimp only [tNext, tSeq]
    -- one sum or another
    refine ⟨_, rfl, _, rfl, a1, a2, rfl, rfl, S.mine.ins, S.its.ins, S.mine.sum S.its ⟨by decide, by decide, by decide, by decide⟩ (by omega) (.inl rfl) fun a3 z3 HE sE l3 hb3 => ?_⟩
    refine ⟨_, rfl, a3, a2, rfl, rfl, hb3.ins, (S.its.same sE).ins, hb3.sum (S.its.same sE) ⟨by decide, by decide, by decide, by decide⟩ (by omega) (.inr rfl) fun a4 z4 HF sF l4 hb4 => ?_⟩
    replace S := S.same (sE.trans sF)
    refine ⟨_, rfl, a4, .ref CB, rfl, hb4.ins, ty_ins S.mine.ins, W.nf, hb4.eq S.mine (fun n => by rw [neg1, pos1]; grind) ⟨true, rfl, false, rfl, iteF ?_⟩⟩
    clear sE hb3 sF hb4
    refine ⟨_, rfl, _, rfl, a1, a1, rfl, rfl, S.mine.ins, S.mine.ins, S.mine.sum S.mine ⟨by decide, by decide, by decide, by decide⟩ (by omega) (.inr rfl) fun a3 z3 HE sE l3 hb3 => ?_⟩
    replace S := S.same sE
    obtain ⟨g5, ⟨dx, nd, tp, kt, e5, _⟩, V5, _⟩ := hb3
    have z3n : z3 = [] := List.eq_nil_iff_forall_not_mem.mpr fun n m => (V5.mem n).mp m (by rw [neg1]; grind)
    subst z3n
    refine ⟨a3, CB, dx, _, _, rfl, e5, B.T.cls, B.T.no "is_nothing" (by simp), rfl, true, rfl, iteF ?_⟩
    clear sE e5 V5
    refine ⟨_, rfl, _, rfl, a1, a2, rfl, rfl, S.mine.ins, S.its.ins, S.mine.sum S.its ⟨by decide, by decide, by decide, by decide⟩ (by omega) (.inl rfl) fun a3 z3 HE sE l3 hb3 => ?_⟩
    replace S := S.same sE
    refine ⟨_, rfl, _, rfl, a2, a1, rfl, rfl, S.its.ins, S.mine.ins, S.its.sum S.mine ⟨by decide, by decide, by decide, by decide⟩ (by omega) (.inl rfl) fun a4 z4 HF sF l4 hb4 => ?_⟩
    replace S := S.same sF
    refine ⟨a3, .ref CB, rfl, (hb3.same sF).ins, ty_ins hb4.ins, W.nf, (hb3.same sF).eq hb4 (fun n => by rw [pos1]; grind) ⟨true, rfl, false, rfl, iteF ?_⟩⟩
    clear sE hb3 sF hb4
    refine ⟨_, rfl, _, rfl, a1, a2, rfl, rfl, S.mine.ins, S.its.ins, S.mine.sum S.its ⟨by decide, by decide, by decide, by decide⟩ (by omega) (.inl rfl) fun a3 z3 HE sE l3 hb3 => ?_⟩
    replace S := S.same sE
    refine ⟨_, rfl, a3, rfl, hb3.ins, numSide S.num, _, _, rfl, hb3.times (r := x) ⟨by decide, by decide⟩ S.num xz ⟨by decide, by decide⟩ x0 fun a4 z4 HF sF l4 _ hb4 => ?_⟩
    replace S := S.same sF
    refine ⟨_, rfl, _, rfl, a1, rfl, S.mine.ins, numSide S.num, _, _, rfl, S.mine.times (r := x) ⟨by decide, by decide⟩ S.num xz ⟨by decide, by decide⟩ x0 fun a5 z5 HG sG l5 _ hb5 => ?_⟩
    replace S := S.same sG
    refine ⟨_, rfl, _, rfl, a2, rfl, S.its.ins, numSide S.num, _, _, rfl, S.its.times (r := x) ⟨by decide, by decide⟩ S.num xz ⟨by decide, by decide⟩ x0 fun a6 z6 HI sI l6 _ hb6 => ?_⟩
    replace S := S.same sI
    refine ⟨a5, a6, rfl, rfl, (hb5.same sI).ins, hb6.ins, (hb5.same sI).sum hb6 ⟨by decide, by decide, by decide, by decide⟩ (by omega) (.inl rfl) fun a7 z7 HJ sJ l7 hb7 => ?_⟩
    replace S := S.same sJ
    have hb4' := hb4.same (sG.trans (sI.trans sJ))
    refine ⟨a4, .ref CB, rfl, hb4'.ins, ty_ins hb7.ins, W.nf, hb4'.eq hb7 (fun n => by rw [pos1]; grind) ⟨true, rfl, false, rfl, iteF ?_⟩⟩
    clear sE hb3 sF hb4 sG hb5 sI hb6 sJ hb7 hb4'
    dsimp only [tNext, tSeq]
    -- as they were, in least terms
    have mineX : ∀ {Hy : Hp}, Same HJ Hy → PX Hy d1 (vOf q1 xs1) := fun {Hy} sy => PX.same ⟨kv1, xs1, q1, S.h1, S.pl1, PlV.drawn ok1.nd fr1, by omega, fun n m => Nat.le_trans (ok1.nm n m).1 (by decide)⟩ sy
    have itsX : ∀ {Hy : Hp}, Same HJ Hy → PX Hy d2 (vOf q2 xs2) := fun {Hy} sy => PX.same ⟨kv2, xs2, q2, S.h2, S.pl2, PlV.drawn ok2.nd fr2, by omega, fun n m => Nat.le_trans (ok2.nm n m).1 (by decide)⟩ sy
    refine ⟨_, rfl, _, rfl, nilI (S.mine.isAs (mineX (Same.refl _)) ⟨by decide, by decide⟩ (fun _ => rfl) fun HE sE => ⟨true, rfl, iteF ?_⟩)⟩
    refine ⟨_, rfl, _, rfl, nilI ((S.its.same sE).isAs (itsX sE) ⟨by decide, by decide⟩ (fun _ => rfl) fun HF sF => ⟨true, rfl, iteF ?_⟩)⟩
    replace S := S.same (sE.trans sF)
    clear mineX itsX sE sF
    refine ⟨_, rfl, _, rfl, _, rfl, t, a1, d1, c, cells, ia, ga, kv1, xs1, z1, q1, rfl, S.mine, z14, S.h1, S.pl1, ok1, fr1, S.hT, S.i0, by omega, S.g0, fun ib gb HG b0 b1 b2 kpG hTG => ⟨true, rfl, iteF ?_⟩⟩
    replace S := S.keep kpG hTG b0 (by omega) b2
    have ibb : ib ≤ 110 := by omega
    clear kpG hTG
    dsimp only [tNext, tSeq]
    -- new names
    refine ⟨_, rfl, _, rfl, t, p1, c, cells, ib, gb, xs1, rfl, S.np, S.lst, ok1, S.hT, S.i0, by omega, S.g0, fun r kn ps ic gc HH hN nw c0 c1 c2 kpH nrt hr hTH => ?_⟩
    replace S := S.keep kpH hTH c0 (by omega) c2
    have icb : ic ≤ 120 := by omega
    clear kpH hTH
    dsimp only [tNext, tSeq, tAsg, gName]
    refine ⟨_, rfl, r, kn, rfl, hr, fun HI pl ts sI npl nts nin eL eT => ?_⟩
    refine ⟨pl, ts, kn, rfl, SqL.of eL, items_kvs eT, fun D nD => ?_⟩
    rw [mergeK_names hN.kyn nw.nd]
    replace sI : Same HH HI := sI
    have sD : Same HI (upd HI D (.dK kn)) := same_upd nD
    have eD : (upd HI D (.dK kn)) D = some (.dK kn) := upd_same
    generalize (upd HI D (.dK kn)) = HK at sD eD ⊢
    replace S := S.same (sI.trans sD)
    replace hr := sD _ _ (sI _ _ hr)
    clear sI sD nD eL eT nin nts npl
    dsimp only [tNext, tSeq, tAsg, gName]
    obtain ⟨x1, x2, x3, x4, x5, hat⟩ := S.mine.at_
    refine ⟨_, rfl, a1, x1, _, rfl, hat, rfl, _, rfl, nilI (S.mine.ren ok1 fr1 hr hN nw fun a3 z3 HL sL hb3 => ?_)⟩
    replace S := S.same sL
    refine ⟨_, rfl, _, rfl, d1, D, kv1, kn, xs1, q1, ps, rfl, S.h1, sL _ _ eD, S.pl1, hN, nw.snd, ok1, fr1, fun r2 kv3 HM sM nr2 hr2 hp2 => ?_⟩
    refine nilI ((hb3.same sM).isAs (PX.ren ok1 fr1 nw hr2 hp2) ⟨by decide, by decide⟩ (fun _ => rfl) fun HN' sN => ⟨true, rfl, iteF ?_⟩)
    replace S := S.same (sM.trans sN)
    have sLN : Same HK HN' := sL.trans (sM.trans sN)
    replace hr := sLN _ _ hr
    replace eD := sLN _ _ eD
    clear sL sM sN hb3 hr2 hp2 nr2 sLN hat
    refine ⟨_, rfl, _, rfl, r, D, kn, kn, rfl, rfl, hr, eD, rfl, fun p hp => nm_flat hN nw.nd hp, false, rfl, iteF ?_⟩
    refine ⟨_, rfl, _, rfl, nilI (S.mine.isAs ⟨kv1, xs1, q1, S.h1, S.pl1, PlV.drawn ok1.nd fr1, by omega, fun n m => Nat.le_trans (ok1.nm n m).1 (by decide)⟩ ⟨by decide, by decide⟩ (fun _ => rfl) fun HO sO => ⟨true, rfl, iteF ?_⟩)⟩
    have hTO : Till HO t c cells ic gc := S.hT.same sO
    have c0' := S.i0
    have c2' := S.g0
    clear S hr eD sO hN nw
    dsimp only [tNext, tSeq]
    -- means
    refine ⟨_, rfl, t, c, cells, ic, gc, 5, rfl, hTO, c0', by omega, c2', by decide, by decide, fun m id_ gd HP m0 m1 d0 d1' d2' kpP hTP => ?_⟩
    obtain ⟨mn, rfl⟩ : ∃ mn : Nat, m = mn := ⟨m.toNat, by omega⟩
    refine ⟨_, _, rfl, rfl, ((mn + 1 : Nat) : Int), congrArg (fun z => [V.int z]) (by omega), by omega, by omega, fun D nD => ?_⟩
    rw [Int.toNat_natCast]
    have nDt : D ≠ t := hTP.off nD
    have nDc : D ≠ c := fun e => by rw [e, hTP.hc] at nD; cases nD
    refine lc_range (fun j Hx => Keep t HP Hx ∧ (∃ i' g', 0 ≤ i' ∧ i' ≤ id_ + (j : Nat) ∧ 0 ≤ g' ∧ Till Hx t c cells i' g') ∧ ∃ l : List Str, Hx D = some (.lst (l.map V.str)) ∧ l.length = j ∧ ∀ n ∈ l, n ∈ fourN)
      ⟨Keep.refl.same (same_upd nD), ⟨id_, gd, d0, by omega, d2', hTP.same (same_upd nD)⟩, [], upd_same, rfl, fun n m => by (cases m)⟩ (fun j Hx hj hP => ?_) (fun Hx hP => ?_)
    · obtain ⟨kp, ⟨i', g', e0, e1, e2, hTx⟩, l, hD, hl, hf⟩ := hP
      refine ⟨rfl, yesI ?_⟩
      refine ⟨_, rfl, by rw [sizeLine_eq]; show 4 ≤ 16777216; decide, fun q nq => ?_⟩
      have sq : Same Hx (upd Hx q (.lst [.str "a", .str "b", .str "c", .str "dd"])) := same_upd nq
      have eq : (upd Hx q (.lst [.str "a", .str "b", .str "c", .str "dd"])) q = some (.lst (fourN.map V.str)) := upd_same
      have qt : q ≠ t := hTx.off nq
      generalize (upd Hx q (.lst [.str "a", .str "b", .str "c", .str "dd"])) = Hy at sq eq ⊢
      have hD1 := sq _ _ hD
      refine ⟨t, c, q, cells, i', g', _, rfl, hTx.same sq, e0, by omega, e2, qt, eq, by show 0 < 4; decide, by show 4 ≤ 10000; decide, fun v i2 g2 Hz hv b0 b1 b2 kp2 hT2 => ?_⟩
      obtain ⟨n, mn4, rfl⟩ := List.mem_map.mp hv
      have hD2 := kp2 _ _ nDt hD1
      refine ⟨_, hD2, by rw [List.length_map, sizeLine_eq]; omega, fun b o nb e => ?_, ⟨i2, g2, b0, by omega, b2, hT2.upd nDt nDc⟩, l ++ [n], by rw [upd_same, List.map_append]; rfl, by rw [List.length_append, hl]; rfl, fun x hx => ?_⟩
      · rw [upd_ne (ne_of_none e nD)]
        exact kp2 _ _ nb (sq _ _ (kp _ _ nb e))
      · rcases List.mem_append.mp hx with z | z
        · exact hf x z
        · rw [List.mem_singleton.mp z]; exact mn4
    · obtain ⟨kp, ⟨i', g', e0, e1, e2, hTx⟩, l, hD, hl, hf⟩ := hP
      have nmL : ∀ n ∈ l, NmS n := fun n m => four_ok n (hf n m)
      have ne : l ≠ [] := fun z => by rw [z] at hl; simp at hl
      have l60 : l.length ≤ 60 := by omega
      have lp : ((l.length : Nat) : Int) ≠ 0 := by omega
      clear hTx kp
      dsimp only [tNext, tSeq, tAsg, gName]
      refine ⟨_, rfl, D, rfl, ⟨_, SqL.of hD⟩, fun D2 nD2 => ?_⟩
      refine lc_it (walk_list (xs := l.map V.str)) (MeanP Hx D2 l) ⟨same_upd nD2, [], upd_same, .nil⟩ (fun j Hy _ hP => SqL.of (hP.1 _ _ hD)) (fun j x Hy H' hj hP hy => mean_turn hD ne l60 nD2 j x Hy H' hP hy) (fun Hy hP => ?_)
      · obtain ⟨sy, ps, hD2, hN⟩ := hP
        rw [List.length_map, List.take_length] at hN
        obtain ⟨kvs2, u1, u2⟩ := hN.kvs (K := K)
        refine ⟨D2, ps, kvs2, rfl, SqL.of hD2, u1, fun d nd => ?_⟩
        have sd : Same Hy (upd Hy d (.dK (mergeK [] kvs2))) := same_upd nd
        have px : PX (upd Hy d (.dK (mergeK [] kvs2))) d (vMean l) := PX.mean ne l60 nmL (u2.same sd) upd_same
        generalize (upd Hy d (.dK (mergeK [] kvs2))) = Hc at sd px ⊢
        have hDc := sd _ _ (sy _ _ hD)
        dsimp only [tNext, tSeq, tAsg, gName]
        refine ⟨_, rfl, nilI (BX.mean (.inl hDc) ne l60 nmL fun a5 z5 Hd sd5 hb5 => ?_)⟩
        refine ⟨_, rfl, nilI (hb5.isAs (px.same sd5) ⟨by decide, by decide⟩ (fun _ => rfl) fun He se => ⟨true, rfl, iteT ?_⟩)⟩
        have hDe := se _ _ (sd5 _ _ hDc)
        refine ⟨_, rfl, D, _, rfl, SqL.of hDe, fun r nr => ?_⟩
        rw [← List.map_reverse]
        have sr : Same He (upd He r (.lst (l.reverse.map V.str))) := same_upd nr
        have er : (upd He r (.lst (l.reverse.map V.str))) r = some (.lst (l.reverse.map V.str)) := upd_same
        generalize (upd He r (.lst (l.reverse.map V.str))) = Hf at sr er ⊢
        refine ⟨r, _, rfl, .inl ⟨SqL.of er, fun r2 nr2 => ?_⟩⟩
        have s2 : Same Hf (upd Hf r2 (.tup (l.reverse.map V.str))) := same_upd nr2
        have e2 : (upd Hf r2 (.tup (l.reverse.map V.str))) r2 = some (.tup (l.reverse.map V.str)) := upd_same
        generalize (upd Hf r2 (.tup (l.reverse.map V.str))) = Hg at s2 e2 ⊢
        refine nilI (BX.mean (.inr e2) (fun z => ne (List.reverse_eq_nil_iff.mp z)) (by rw [List.length_reverse]; exact l60) (fun n m => nmL n (List.mem_reverse.mp m)) fun a6 z6 Hh sh hb6 => ?_)
        refine ⟨_, rfl, nilI (hb6.isAs (px.same (sd5.trans (se.trans (sr.trans (s2.trans sh))))) ⟨by decide, by decide⟩ (vMean_rev l) fun Hi si => k Hi)⟩
end
end K05
namespace L2
open PySem PySem.Spec PyProof.Rows
/-! ### a Hook with defs at any address, Bools of one's own, tables of code objects -/
structure SaysK (fa : List He.Fa) (fn : List He5.DefA) (fx : List (PySem.W.Frag → Bool)) (tf : List He.Defn) (h : Heap) (K : PySem.W.Frag) : Prop where
  a : He5.SaysA fa fn K
  x : (fx.all fun f => f K) = true
  hd : ∀ p ∈ tf, PySem.W.codeHdIn K (He.cT K p).1 (He.cT K p).2 = true
  out : ∀ p ∈ tf, K.lookup (He.cT K p).2 = none
  empty : ∀ p ∈ tf, h.get? (He.cT K p).2 = some { cls := .none, data := .fields #[] }
def obsK (as : List Addr) (fa : List He.Fa) (fn : List He5.DefA) (fx : List (PySem.W.Frag → Bool)) (tf : List He.Defn) (g : Addr → Option Obj) : He.AlD × Bool :=
  (He5.obsA fa fn (He.frT g as), (fx.all fun f => f (He.frT g as)) && He.tabsB g tf (He.frT g as))
theorem saysK_of {as : List Addr} {fa : List He.Fa} {fn : List He5.DefA} {fx : List (PySem.W.Frag → Bool)} {tf : List He.Defn} {h : Heap} (e : obsK as fa fn fx tf h.get? = (He5.valA fn, true)) : SaysK fa fn fx tf h (He.frT h.get? as) := by
  have e1 := congrArg Prod.fst e
  have e2 := congrArg Prod.snd e
  unfold obsK at e1 e2
  dsimp only at e1 e2
  obtain ⟨h1, h2⟩ := Bool.and_eq_true_iff.mp e2
  generalize hK : He.frT h.get? as = K at e1 h1 h2
  have key : ∀ p ∈ tf, PySem.W.codeHdIn K (He.cT K p).1 (He.cT K p).2 = true ∧ ∃ o, h.get? (He.cT K p).2 = some o ∧ He.emptyTab o = true := fun p hp => by
    obtain ⟨h3, h4⟩ := Bool.and_eq_true_iff.mp (List.all_eq_true.mp h2 p hp)
    refine ⟨h3, ?_⟩
    cases q : h.get? (He.cT K p).2 with
    | none =>
      rw [q] at h4
      cases h4
    | some o =>
      rw [q] at h4
      exact ⟨o, rfl, h4⟩
  refine ⟨e1, h1, fun p hp => (key p hp).1, fun p hp => ?_, fun p hp => ?_⟩
  · obtain ⟨_, o, q, z⟩ := key p hp
    rw [← hK]
    rw [← hK] at q
    exact He.frT_none q z
  · obtain ⟨_, o, q, z⟩ := key p hp
    rw [q, He.emptyTab_eq z]
def hookK (as : List Addr) (fa : List He.Fa) (fn : List He5.DefA) (fx : List (PySem.W.Frag → Bool)) (tf : List He.Defn) : PySem.W.Hook where
  α := He.AlD × Bool
  obs := fun s => obsK as fa fn fx tf s.heap.get?
  val := fun _ => (He5.valA fn, true)
  says := fun _ h => ∃ K : PySem.W.Frag, K.In h ∧ SaysK fa fn fx tf h K
  of := fun _ _ e => ⟨_, He.frT_in, saysK_of e⟩
  keeps := fun _ _ _ ⟨K, hK, c⟩ k => ⟨K, PySem.W.Frag.In.keeps hK k, ⟨c.a, c.x, c.hd, c.out, fun p hp => k _ _ (c.empty p hp)⟩⟩
theorem obK_eq (as : List Addr) (fa : List He.Fa) (fn : List He5.DefA) (fx : List (PySem.W.Frag → Bool)) (tf : List He.Defn) (s : PySem.W.SharedT) : obsK as fa fn fx tf (HandSHeadRun.getT s) = (hookK as fa fn fx tf).obs s.abs := by
  have e : HandSHeadRun.getT s = s.abs.heap.get? := funext fun a => HandSHeadRun.getT_eq s a
  rw [e] <;> rfl
end L2
namespace K05
open PySem PySem.Spec PyProof.Rows L2 RatM ClX
abbrev iBadBalance : Stmt := inClass (top 5) 0
abbrev iBadNumber : Stmt := inClass (top 6) 0
section
variable {P : Program} {w : World} {K : PySem.W.Frag} {mg : Str → Option Value} {base : Heap}
theorem mk_BadBalance {C fI : Addr} {fd : FuncData} (F : MtP K "__init__" "BadBalance.__init__" iBadBalance fI fd) (ox : OexC K C) (iC : PySem.W.findIn K (.ref C) "__init__" = some (some (.ref fI))) (tI : PySem.W.typeIn K (.ref fI) = some (.type "function"))
    (no : ∀ f ∈ ([("part" : Str)] : List Str), PySem.W.findIn K (.ref C) f = some none) (g : mg "BadBalance" = some (.ref C)) : ErrN P w K mg base "BadBalance" C ["part"] := by
  have S : FnScope ["self", "part"] ["self", "part"] (defScope iBadBalance) := ⟨rfl, rfl, rfl, by decide +kernel, rfl, by decide +kernel, by decide +kernel⟩
  refine ⟨⟨fI, fd, iC, tI, ?_, F.bindsN (fun _ _ _ _ _ _ us hl => match us, hl with | [_, _], _ => rfl)⟩, ox, no, g⟩
  refine F.ok S (fun vs H Q E h => ?_) (fun cdv A outer s H vs Q E hr h => ?_)
  · obtain ⟨e, C, ws, rfl, hn, _⟩ := h
    rw [List.length_cons, hn]
    rfl
  · obtain ⟨e, C, ws, rfl, hn, T, no, he, k⟩ := h
    match ws, hn with
    | [v0], _ =>
      refine ⟨_, PSs.nox (pss_one (ps_ost (pv 0) (pv 1))), ?_⟩
      refine ⟨_, rfl, _, rfl, e, C, rfl, T, no _ (by simp), .inl ⟨he, fun dx nd ne => ?_⟩⟩
      exact k _ dx (fun b o hb z => by rw [upd_ne hb, upd_ne (ne_of_none z nd)]; exact z) nd ne upd_same (by rw [upd_ne ne]; exact upd_same)
theorem mk_BadNumber {C fI : Addr} {fd : FuncData} (F : MtP K "__init__" "BadNumber.__init__" iBadNumber fI fd) (ox : OexC K C) (iC : PySem.W.findIn K (.ref C) "__init__" = some (some (.ref fI))) (tI : PySem.W.typeIn K (.ref fI) = some (.type "function"))
    (no : ∀ f ∈ ([("part" : Str)] : List Str), PySem.W.findIn K (.ref C) f = some none) (g : mg "BadNumber" = some (.ref C)) : ErrN P w K mg base "BadNumber" C ["part"] := by
  have S : FnScope ["self", "part"] ["self", "part"] (defScope iBadNumber) := ⟨rfl, rfl, rfl, by decide +kernel, rfl, by decide +kernel, by decide +kernel⟩
  refine ⟨⟨fI, fd, iC, tI, ?_, F.bindsN (fun _ _ _ _ _ _ us hl => match us, hl with | [_, _], _ => rfl)⟩, ox, no, g⟩
  refine F.ok S (fun vs H Q E h => ?_) (fun cdv A outer s H vs Q E hr h => ?_)
  · obtain ⟨e, C, ws, rfl, hn, _⟩ := h
    rw [List.length_cons, hn]
    rfl
  · obtain ⟨e, C, ws, rfl, hn, T, no, he, k⟩ := h
    match ws, hn with
    | [v0], _ =>
      refine ⟨_, PSs.nox (pss_one (ps_ost (pv 0) (pv 1))), ?_⟩
      refine ⟨_, rfl, _, rfl, e, C, rfl, T, no _ (by simp), .inl ⟨he, fun dx nd ne => ?_⟩⟩
      exact k _ dx (fun b o hb z => by rw [upd_ne hb, upd_ne (ne_of_none z nd)]; exact z) nd ne upd_same (by rw [upd_ne ne]; exact upd_same)
end
def e_BadRatio : He5.DefA := ⟨fun K => He.fAd K ("BadRatio", some "__init__"), "__init__", "BadRatio.__init__", defArgs iBadRatio, defBody iBadRatio, defScope iBadRatio, [], []⟩
def e_BadBalance : He5.DefA := ⟨fun K => He.fAd K ("BadBalance", some "__init__"), "__init__", "BadBalance.__init__", defArgs iBadBalance, defBody iBadBalance, defScope iBadBalance, [], []⟩
def e_BadNumber : He5.DefA := ⟨fun K => He.fAd K ("BadNumber", some "__init__"), "__init__", "BadNumber.__init__", defArgs iBadNumber, defBody iBadNumber, defScope iBadNumber, [], []⟩
def r_init : He5.DefA := ⟨fun K => He.fAd K ("Ratio", some "__init__"), "__init__", "Ratio.__init__", defArgs (ratM 0), defBody (ratM 0), defScope (ratM 0), [.int 1], []⟩
def r_of : He5.DefA := ⟨fun K => He5.wf K (He.ga K "Ratio") "staticmethod" "of", "of", "Ratio.of", defArgs (ratM 2), defBody (ratM 2), defScope (ratM 2), [], []⟩
def r_add : He5.DefA := ⟨fun K => He.fAd K ("Ratio", some "__add__"), "__add__", "Ratio.__add__", defArgs (ratM 6), defBody (ratM 6), defScope (ratM 6), [], []⟩
def r_sub : He5.DefA := ⟨fun K => He.fAd K ("Ratio", some "__sub__"), "__sub__", "Ratio.__sub__", defArgs (ratM 7), defBody (ratM 7), defScope (ratM 7), [], []⟩
def r_mul : He5.DefA := ⟨fun K => He.fAd K ("Ratio", some "__mul__"), "__mul__", "Ratio.__mul__", defArgs (ratM 8), defBody (ratM 8), defScope (ratM 8), [], []⟩
def r_neg : He5.DefA := ⟨fun K => He.fAd K ("Ratio", some "__neg__"), "__neg__", "Ratio.__neg__", defArgs (ratM 9), defBody (ratM 9), defScope (ratM 9), [], []⟩
def r_eq : He5.DefA := ⟨fun K => He.fAd K ("Ratio", some "__eq__"), "__eq__", "Ratio.__eq__", defArgs (ratM 12), defBody (ratM 12), defScope (ratM 12), [], []⟩
def r_str : He5.DefA := ⟨fun K => He.fAd K ("Ratio", some "__str__"), "__str__", "Ratio.__str__", defArgs (ratM 13), defBody (ratM 13), defScope (ratM 13), [], []⟩
def b_init : He5.DefA := ⟨fun K => He.fAd K ("Balance", some "__init__"), "__init__", "Balance.__init__", defArgs (balM 0), defBody (balM 0), defScope (balM 0), [], []⟩
def b_number_of : He5.DefA := ⟨fun K => He.fAd K ("Balance", some "number_of"), "number_of", "Balance.number_of", defArgs (balM 3), defBody (balM 3), defScope (balM 3), [], []⟩
def b_gains : He5.DefA := ⟨fun K => He.fAd K ("Balance", some "gains"), "gains", "Balance.gains", defArgs (balM 4), defBody (balM 4), defScope (balM 4), [], []⟩
def b_losses : He5.DefA := ⟨fun K => He.fAd K ("Balance", some "losses"), "losses", "Balance.losses", defArgs (balM 5), defBody (balM 5), defScope (balM 5), [], []⟩
def b_least : He5.DefA := ⟨fun K => He.fAd K ("Balance", some "least"), "least", "Balance.least", defArgs (balM 6), defBody (balM 6), defScope (balM 6), [], []⟩
def b_renamed : He5.DefA := ⟨fun K => He.fAd K ("Balance", some "renamed"), "renamed", "Balance.renamed", defArgs (balM 7), defBody (balM 7), defScope (balM 7), [], []⟩
def b_add : He5.DefA := ⟨fun K => He.fAd K ("Balance", some "__add__"), "__add__", "Balance.__add__", defArgs (balM 8), defBody (balM 8), defScope (balM 8), [], []⟩
def b_sub : He5.DefA := ⟨fun K => He.fAd K ("Balance", some "__sub__"), "__sub__", "Balance.__sub__", defArgs (balM 9), defBody (balM 9), defScope (balM 9), [], []⟩
def b_neg : He5.DefA := ⟨fun K => He.fAd K ("Balance", some "__neg__"), "__neg__", "Balance.__neg__", defArgs (balM 10), defBody (balM 10), defScope (balM 10), [], []⟩
def b_mul : He5.DefA := ⟨fun K => He.fAd K ("Balance", some "__mul__"), "__mul__", "Balance.__mul__", defArgs (balM 11), defBody (balM 11), defScope (balM 11), [], []⟩
def b_eq : He5.DefA := ⟨fun K => He.fAd K ("Balance", some "__eq__"), "__eq__", "Balance.__eq__", defArgs (balM 12), defBody (balM 12), defScope (balM 12), [], []⟩
def b_str : He5.DefA := ⟨fun K => He.fAd K ("Balance", some "__str__"), "__str__", "Balance.__str__", defArgs (balM 13), defBody (balM 13), defScope (balM 13), [], []⟩
def g_writtenR : He5.DefA := ⟨fun K => He.ga K "written_ratios", "_written", "_written", defArgs (top 29), defBody (top 29), defScope (top 29), [], []⟩
def g_writtenB : He5.DefA := ⟨fun K => He.ga K "written_balances", "_written", "_written", defArgs (top 39), defBody (top 39), defScope (top 39), [], []⟩
def g_is_integer : He5.DefA := ⟨fun K => He.fAd K ("is_integer", none), "is_integer", "is_integer", defArgs (top 12), defBody (top 12), defScope (top 12), [], []⟩
def g_is_name : He5.DefA := ⟨fun K => He.fAd K ("is_name", none), "is_name", "is_name", defArgs (top 13), defBody (top 13), defScope (top 13), [], []⟩
def g_is_list : He5.DefA := ⟨fun K => He.fAd K ("is_list", none), "is_list", "is_list", defArgs (top 14), defBody (top 14), defScope (top 14), [], []⟩
def g_are_names : He5.DefA := ⟨fun K => He.fAd K ("are_names", none), "are_names", "are_names", defArgs (top 15), defBody (top 15), defScope (top 15), [], []⟩
def g_is_naming : He5.DefA := ⟨fun K => He.fAd K ("is_naming", none), "is_naming", "is_naming", defArgs (top 16), defBody (top 16), defScope (top 16), [], []⟩
def g_is_ratio : He5.DefA := ⟨fun K => He.fAd K ("is_ratio", none), "is_ratio", "is_ratio", defArgs (top 26), defBody (top 26), defScope (top 26), [], []⟩
def g_ratio_of : He5.DefA := ⟨fun K => He.fAd K ("_ratio_of", none), "_ratio_of", "_ratio_of", defArgs (top 27), defBody (top 27), defScope (top 27), [], []⟩
def g_is_same : He5.DefA := ⟨fun K => He.fAd K ("_is_same", none), "_is_same", "_is_same", defArgs (top 28), defBody (top 28), defScope (top 28), [], []⟩
def g_numbers_in : He5.DefA := ⟨fun K => He.fAd K ("numbers_in", none), "numbers_in", "numbers_in", defArgs (top 32), defBody (top 32), defScope (top 32), [], []⟩
def g_mean_of : He5.DefA := ⟨fun K => He.fAd K ("mean_of", none), "mean_of", "mean_of", defArgs (top 35), defBody (top 35), defScope (top 35), [], []⟩
def g_counts : He5.DefA := ⟨fun K => He.fAd K ("_counts", none), "_counts", "_counts", defArgs (top 36), defBody (top 36), defScope (top 36), [], []⟩
def g_summed : He5.DefA := ⟨fun K => He.fAd K ("_summed", none), "_summed", "_summed", defArgs (top 37), defBody (top 37), defScope (top 37), [], []⟩
def g_times : He5.DefA := ⟨fun K => He.fAd K ("_times", none), "_times", "_times", defArgs (top 38), defBody (top 38), defScope (top 38), [], []⟩
def g_term : He5.DefA := ⟨fun K => He.fAd K ("_term", none), "_term", "_term", defArgs (top 41), defBody (top 41), defScope (top 41), [], []⟩
def g_law_reel : He5.DefA := ⟨fun K => He.fAd K ("_law_reel", none), "_law_reel", "_law_reel", defArgs (top 44), defBody (top 44), defScope (top 44), [], []⟩
def g_law_turn : He5.DefA := ⟨fun K => He.fAd K ("_law_turn", none), "_law_turn", "_law_turn", defArgs (top 45), defBody (top 45), defScope (top 45), [], []⟩
def g_law_pick : He5.DefA := ⟨fun K => He.fAd K ("_law_pick", none), "_law_pick", "_law_pick", defArgs (top 46), defBody (top 46), defScope (top 46), [], []⟩
def g_law_shared : He5.DefA := ⟨fun K => He.fAd K ("_law_shared", none), "_law_shared", "_law_shared", defArgs (top 47), defBody (top 47), defScope (top 47), [], []⟩
def g_law_low : He5.DefA := ⟨fun K => He.fAd K ("_law_low", none), "_law_low", "_law_low", defArgs (top 48), defBody (top 48), defScope (top 48), [], []⟩
def g_law_plus : He5.DefA := ⟨fun K => He.fAd K ("_law_plus", none), "_law_plus", "_law_plus", defArgs (top 49), defBody (top 49), defScope (top 49), [], []⟩
def g_law_by : He5.DefA := ⟨fun K => He.fAd K ("_law_by", none), "_law_by", "_law_by", defArgs (top 50), defBody (top 50), defScope (top 50), [], []⟩
def g_law_number : He5.DefA := ⟨fun K => He.fAd K ("_law_number", none), "_law_number", "_law_number", defArgs (top 51), defBody (top 51), defScope (top 51), [], []⟩
def g_law_things : He5.DefA := ⟨fun K => He.fAd K ("_law_things", none), "_law_things", "_law_things", defArgs (top 52), defBody (top 52), defScope (top 52), [], []⟩
def g_law_text : He5.DefA := ⟨fun K => He.fAd K ("_law_text", none), "_law_text", "_law_text", defArgs (top 53), defBody (top 53), defScope (top 53), [], []⟩
def g_law_named : He5.DefA := ⟨fun K => He.fAd K ("_law_named", none), "_law_named", "_law_named", defArgs (top 54), defBody (top 54), defScope (top 54), [], []⟩
def g_law_told : He5.DefA := ⟨fun K => He.fAd K ("_law_told", none), "_law_told", "_law_told", defArgs (top 55), defBody (top 55), defScope (top 55), [], []⟩
def g_law_ratio : He5.DefA := ⟨fun K => He.fAd K ("_law_ratio", none), "_law_ratio", "_law_ratio", defArgs (top 56), defBody (top 56), defScope (top 56), [], []⟩
def g_law_is_as : He5.DefA := ⟨fun K => He.fAd K ("_law_is_as", none), "_law_is_as", "_law_is_as", defArgs (top 57), defBody (top 57), defScope (top 57), [], []⟩
def g_law_made : He5.DefA := ⟨fun K => He.fAd K ("_law_made", none), "_law_made", "_law_made", defArgs (top 58), defBody (top 58), defScope (top 58), [], []⟩
def g_law_sum : He5.DefA := ⟨fun K => He.fAd K ("_law_sum", none), "_law_sum", "_law_sum", defArgs (top 59), defBody (top 59), defScope (top 59), [], []⟩
def g_law_least : He5.DefA := ⟨fun K => He.fAd K ("_law_least", none), "_law_least", "_law_least", defArgs (top 60), defBody (top 60), defScope (top 60), [], []⟩
def g_law_least_right : He5.DefA := ⟨fun K => He.fAd K ("_law_least_right", none), "_law_least_right", "_law_least_right", defArgs (top 61), defBody (top 61), defScope (top 61), [], []⟩
def g_law_renamed : He5.DefA := ⟨fun K => He.fAd K ("_law_renamed", none), "_law_renamed", "_law_renamed", defArgs (top 62), defBody (top 62), defScope (top 62), [], []⟩
def g_law_names : He5.DefA := ⟨fun K => He.fAd K ("_law_names", none), "_law_names", "_law_names", defArgs (top 63), defBody (top 63), defScope (top 63), [], []⟩
def g_law : He5.DefA := ⟨fun K => He.fAd K ("law", none), "law", "law", defArgs (top 64), defBody (top 64), defScope (top 64), [], []⟩
def fn : List He5.DefA := [e_BadRatio, e_BadBalance, e_BadNumber, r_init, r_of, r_add, r_sub, r_mul, r_neg, r_eq, r_str, b_init, b_number_of, b_gains, b_losses, b_least, b_renamed, b_add, b_sub, b_neg, b_mul, b_eq, b_str, g_writtenR, g_writtenB, g_is_integer, g_is_name, g_is_list, g_are_names, g_is_naming, g_is_ratio, g_ratio_of, g_is_same, g_numbers_in, g_mean_of, g_counts, g_summed, g_times, g_term, g_law_reel, g_law_turn, g_law_pick, g_law_shared, g_law_low, g_law_plus, g_law_by, g_law_number, g_law_things, g_law_text, g_law_named, g_law_told, g_law_ratio, g_law_is_as, g_law_made, g_law_sum, g_law_least, g_law_least_right, g_law_renamed, g_law_names, g_law]
def fa : List He.Fa := [.glo "is_integer", .glo "is_name", .glo "is_list", .glo "are_names", .glo "is_naming", .glo "is_ratio", .glo "_ratio_of", .glo "_is_same", .glo "numbers_in", .glo "mean_of", .glo "_counts", .glo "_summed", .glo "_times", .glo "_term", .glo "_law_reel", .glo "_law_turn", .glo "_law_pick", .glo "_law_shared", .glo "_law_low", .glo "_law_plus", .glo "_law_by", .glo "_law_number", .glo "_law_things", .glo "_law_text", .glo "_law_named", .glo "_law_told", .glo "_law_ratio", .glo "_law_is_as", .glo "_law_made", .glo "_law_sum", .glo "_law_least", .glo "_law_least_right", .glo "_law_renamed", .glo "_law_names", .glo "law", .glo "written_ratios", .glo "written_balances", .glo "Ratio", .glo "Balance", .glo "BadRatio", .glo "BadBalance", .glo "BadNumber", .free "isinstance", .free "int", .free "bool", .free "str", .free "len", .free "list", .free "tuple", .free "dict", .free "all", .free "abs", .free "range", .free "sorted", .int "_LONGEST" 12, .str "_LETTERS" letS, .str "_SIGNS" sigS, .cls "Ratio", .cls "Balance", .noat "Ratio" "top", .noat "Ratio" "bottom", .noat "Ratio" "sign", .noat "Ratio" "is_whole", .noat "Ratio" "below", .noat "Balance" "_numbers", .noat "Balance" "things", .noat "Balance" "is_nothing", .noat "Balance" "key", .meth "Balance" "number_of", .meth "Balance" "gains", .meth "Balance" "losses", .meth "Balance" "least", .meth "Balance" "renamed", .mkr "Ratio", .mkr "Balance"]
abbrev cR (K : PySem.W.Frag) : Addr := He.ga K "Ratio"
def kitB (K : PySem.W.Frag) (a b : Value) (r : Bool) : Bool := decide (PySem.W.kitOne K a b = some r)
def rightB (K : PySem.W.Frag) (nm : String) (T : String) : Bool := (PySem.W.findIn K (.type T) (PySem.dunder nm)).isSome && ((PySem.W.findIn K (.type T) (dunderR nm)).isSome && decide (PySem.W.subIn K (.type T) (.ref (cR K)) = some false))
def opB (K : PySem.W.Frag) (nm : String) : Bool := He.eqO (PySem.W.findIn K (.ref (cR K)) (PySem.dunder nm)) (some (some (.ref (He.ma K (cR K) (PySem.dunder nm))))) && (PySem.W.isFn K (.ref (He.ma K (cR K) (PySem.dunder nm))) && (He.eqO (PySem.W.findIn K (.ref (cR K)) (dunderR nm)) (some none) && ("int" :: oddTypes).all fun T => rightB K nm T))
def ownB (K : PySem.W.Frag) (m : Str) : Bool := He.eqO (PySem.W.findIn K (.ref (cR K)) m) (some (some (.ref (He.ma K (cR K) m)))) && PySem.W.isFn K (.ref (He.ma K (cR K) m))
def ratIB (K : PySem.W.Frag) : Bool := He.eqO (PySem.W.findIn K (.ref (cR K)) "__class__") (some (some (.builtin "object.__class__"))) && (He.eqO (PySem.W.specialIn K (.builtin "object.__class__") "__get__") (some (some (.builtin "getset_descriptor.__get__"))) &&
  (decide (PySem.W.takesIn K (.builtin "object.__class__") = some true) && (decide (PySem.W.mroIn K (cR K) (.type "object") = some true) && (kitB K (.ref (cR K)) (.ref (cR K)) true && (kitB K (.ref (cR K)) (.type "int") false && (kitB K (.ref (cR K)) (.type "bool") false && kitB K (.type "int") (.ref (cR K)) false))))))
def oddB (K : PySem.W.Frag) : Bool := PySem.W.selfFirst K (cR K) && (oddTypes.all fun T => kitB K (.type T) (.ref (cR K)) false)
abbrev cB (K : PySem.W.Frag) : Addr := He.ga K "Balance"
def clsB (K : PySem.W.Frag) : Bool := PySem.W.readsIn K (cR K) (.type "type") && (He.eqO (PySem.W.specialIn K (.ref (cR K)) "__getattribute__") (some (some (.builtin "type.__getattribute__"))) && (He5.wrapB K (cR K) "staticmethod" "staticmethod.__get__" "of" && PySem.W.keepIn K (.ref (He5.wf K (cR K) "staticmethod" "of"))))
def gcdB (K : PySem.W.Frag) : Bool := He.eqO (PySem.W.nsIn K mainGlobals "gcd") (some (some (.builtin "math.gcd"))) && He.eqO (PySem.W.nsIn K mainGlobals "lcm") (some (some (.builtin "math.lcm")))
def nfB (K : PySem.W.Frag) : Bool := PySem.W.notFirst K (cR K) (.type "int") && He.eqO (PySem.W.findIn K (.ref (cR K)) "__format__") (some (some (.builtin "object.__format__")))
def balTB (K : PySem.W.Frag) : Bool := He.eqO (PySem.W.findIn K (.ref (cB K)) "__class__") (some (some (.builtin "object.__class__"))) && (decide (PySem.W.mroIn K (cB K) (.type "object") = some true) && (kitB K (.ref (cB K)) (.ref (cB K)) true && decide (cR K ≠ cB K)))
def balOB (K : PySem.W.Frag) : Bool := PySem.W.selfFirst K (cB K) && (He.eqO (PySem.W.findIn K (.ref (cB K)) (dunderR "mul")) (some none) && (decide (PySem.W.subIn K (.ref (cR K)) (.ref (cB K)) = some false) && (PySem.W.notFirst K (cB K) (.ref (cB K)) && (He.eqO (PySem.W.findIn K (.ref (cB K)) "__ne__") (some (some (.builtin "object.__ne__"))) && decide (PySem.W.subIn K (.ref (cB K)) (.type "object") = some true)))))
def balRB (K : PySem.W.Frag) : Bool := (PySem.W.findIn K (.type "int") (PySem.dunder "mul")).isSome && ((PySem.W.findIn K (.type "int") (dunderR "mul")).isSome && decide (PySem.W.subIn K (.type "int") (.ref (cB K)) = some false))
def ownBB (K : PySem.W.Frag) (m : Str) : Bool := He.eqO (PySem.W.findIn K (.ref (cB K)) m) (some (some (.ref (He.ma K (cB K) m)))) && PySem.W.isFn K (.ref (He.ma K (cB K) m))
def ownsR : List Str := ["__neg__", "__eq__", "__str__"]
def ownsB : List Str := ["__add__", "__sub__", "__neg__", "__mul__", "__eq__", "__str__"]
def fx : List (PySem.W.Frag → Bool) := [errB "BadRatio" ["part"], errB "BadBalance" ["part"], errB "BadNumber" ["part"], ratIB, oddB, fun K => opB K "add", fun K => opB K "sub", fun K => opB K "mul", fun K => ownsR.all fun m => ownB K m, clsB, gcdB, nfB, balTB, balOB, balRB, fun K => ownsB.all fun m => ownBB K m]
def tf : List He.Defn := []
/-- where the head's objects stand -/
def asx : List Addr := [3, 6, 4, 49, 59, 79, 98, 117, 136, 145, 150, 157, 162, 169, 176, 183, 249, 260, 267, 389, 400, 407, 414, 570, 421, 426, 431, 537, 548, 555, 560, 565, 577, 584, 589, 596, 603, 610, 617, 624, 631, 638, 645, 652, 657, 662, 669, 674, 679, 686, 691, 698, 705, 712, 717, 0, 48, 58, 78, 97, 116, 135, 144, 149, 156, 161, 168, 175, 182, 248, 259, 266, 388, 399, 406, 413, 569, 420, 425, 430, 536, 547, 554, 559, 564, 576, 583, 588, 595, 602, 609, 616, 623, 630, 637, 644, 651, 656, 661, 668, 673, 678, 685, 690, 697, 704, 711, 716, 43, 44, 45, 46, 47, 57, 60, 76, 77, 95, 96, 114, 115, 133, 134, 139, 140, 141, 142, 143, 146, 147, 148, 151, 152, 153, 154, 155, 158, 159, 160, 163, 164, 165, 166, 167, 170, 171, 172, 173, 174, 177, 178, 179, 180, 181, 197, 204, 211, 218, 225, 232, 239, 246, 247, 250, 251, 254, 255, 256, 257, 258, 261, 262, 263, 264, 265, 282, 291, 301, 309, 316, 323, 330, 337, 344, 351, 358, 365, 372, 379, 386, 387, 390, 391, 394, 395, 396, 397, 398, 401, 402, 403, 404, 405, 408, 409, 410, 411, 412, 566, 567, 568, 415, 416, 417, 418, 419, 422, 423, 424, 427, 428, 429, 443, 452, 462, 470, 475, 480, 485, 492, 499, 506, 513, 520, 527, 534, 535, 538, 539, 542, 543, 544, 545, 546, 549, 550, 551, 552, 553, 556, 557, 558, 561, 562, 563, 571, 572, 573, 574, 575, 578, 579, 580, 581, 582, 585, 586, 587, 590, 591, 592, 593, 594, 597, 598, 599, 600, 601, 604, 605, 606, 607, 608, 611, 612, 613, 614, 615, 618, 619, 620, 621, 622, 625, 626, 627, 628, 629, 632, 633, 634, 635, 636, 639, 640, 641, 642, 643, 646, 647, 648, 649, 650, 653, 654, 655, 658, 659, 660, 663, 664, 665, 666, 667, 670, 671, 672, 675, 676, 677, 680, 681, 682, 683, 684, 687, 688, 689, 692, 693, 694, 695, 696, 699, 700, 701, 702, 703, 706, 707, 708, 709, 710, 713, 714, 715, 75, 94, 113, 132, 196, 203, 210, 217, 224, 231, 238, 245, 281, 275, 289, 290, 299, 300, 308, 315, 322, 329, 336, 343, 350, 357, 364, 371, 378, 385, 442, 450, 451, 460, 461, 469, 474, 479, 484, 491, 498, 505, 512, 519, 526, 533, 70, 71, 72, 73, 74, 89, 90, 91, 92, 93, 108, 109, 110, 111, 112, 127, 128, 129, 130, 131, 191, 192, 193, 194, 195, 198, 199, 200, 201, 202, 205, 206, 207, 208, 209, 212, 213, 214, 215, 216, 219, 220, 221, 222, 223, 226, 227, 228, 229, 230, 233, 234, 235, 236, 237, 240, 241, 242, 243, 244, 276, 277, 278, 279, 280, 288, 292, 298, 302, 303, 304, 305, 306, 307, 310, 311, 312, 313, 314, 317, 318, 319, 320, 321, 324, 325, 326, 327, 328, 331, 332, 333, 334, 335, 338, 339, 340, 341, 342, 345, 346, 347, 348, 349, 352, 353, 354, 355, 356, 359, 360, 361, 362, 363, 366, 367, 368, 369, 370, 373, 374, 375, 376, 377, 380, 381, 382, 383, 384, 439, 440, 441, 449, 453, 459, 463, 464, 465, 466, 467, 468, 471, 472, 473, 476, 477, 478, 481, 482, 483, 486, 487, 488, 489, 490, 493, 494, 495, 496, 497, 500, 501, 502, 503, 504, 507, 508, 509, 510, 511, 514, 515, 516, 517, 518, 521, 522, 523, 524, 525, 528, 529, 530, 531, 532, 2]
abbrev RR : PySem.W.OpenRow := PySem.W.OpenLaw.row PySem.Challenge.rw_scaleborn_k05_balances_added_and_brought
abbrev hk : PySem.W.Hook := hookK asx fa fn fx tf
def ob (s : PySem.W.SharedT) : He.AlD × Bool := obsK asx fa fn fx tf (HandSHeadRun.getT s)
theorem ob_eq (s : PySem.W.SharedT) : ob s = hk.obs s.abs := obK_eq asx fa fn fx tf s
def loose1 : List Str := ["_wall", "ScaleError", "BadRatio", "BadBalance", "BadNumber", "BadText", "_LETTERS", "_SIGNS", "_LONGEST", "is_integer", "is_name", "is_list", "are_names", "is_naming", "name_above", "free_name", "_MOST_DIGITS", "Reader", "reader_of", "whole_in"]
def loose2 : List Str := ["Ratio", "is_ratio", "_ratio_of", "_is_same", "_written", "written_ratios", "ratio_in", "numbers_in", "Balance", "mean_of", "_counts", "_summed", "_times", "written_balances", "_term", "_read_term", "_law_reel", "_law_turn", "_law_pick", "_law_shared"]
def loose3 : List Str := ["_law_low", "_law_plus", "_law_by", "_law_number", "_law_things", "_law_text", "_law_named", "_law_told", "_law_ratio", "_law_is_as", "_law_made", "_law_sum", "_law_least", "_law_least_right", "_law_renamed", "_law_names"]
theorem run (w : World) : HandSHeadRun.RunEqI RR (PySem.W.view RR.prog [0, 64]) hk ob 9000 (loose1 ++ (loose2 ++ loose3)) w := by
  delta HandSHeadRun.RunEqI
  kernel_rfl
end K05
namespace K05
open PySem PySem.Spec PyProof.Rows L2 RatM LamX ClX
section
variable {P : Program} {w : World} {K : PySem.W.Frag} {h : Heap} {mg : Str → Option Value} {base : Heap}
theorem fxs (c : SaysK fa fn fx tf h K) (i : Nat) {f : PySem.W.Frag → Bool} (e : fx[i]? = some f) : f K = true := List.all_eq_true.mp c.x f (List.mem_of_getElem? e)
theorem fact_I (c : SaysK fa fn fx tf h K) : RatI K (cR K) := by
  have q := fxs c 3 (f := ratIB) rfl
  unfold ratIB kitB at q
  simp only [Bool.and_eq_true] at q
  obtain ⟨h1, h2, h3, h4, h5, h6, h7, h8⟩ := q
  exact ⟨He.eqO_ok h1, He.eqO_ok h2, of_decide_eq_true h3, of_decide_eq_true h4, of_decide_eq_true h5, of_decide_eq_true h6, of_decide_eq_true h7, of_decide_eq_true h8⟩
theorem fact_T (c : SaysK fa fn fx tf h K) : RatC K (cR K) := by
  refine ⟨He.cls_ok (c.a.fact 57 (f := .cls "Ratio") rfl), fun f hf => ?_⟩
  simp only [List.mem_cons, List.not_mem_nil, or_false] at hf
  rcases hf with rfl | rfl | rfl | rfl | rfl
  · exact He.noat_ok (c.a.fact 59 (f := .noat "Ratio" "top") rfl)
  · exact He.noat_ok (c.a.fact 60 (f := .noat "Ratio" "bottom") rfl)
  · exact He.noat_ok (c.a.fact 61 (f := .noat "Ratio" "sign") rfl)
  · exact He.noat_ok (c.a.fact 62 (f := .noat "Ratio" "is_whole") rfl)
  · exact He.noat_ok (c.a.fact 63 (f := .noat "Ratio" "below") rfl)
theorem fact_TB (c : SaysK fa fn fx tf h K) : BalC K (cB K) := by
  refine ⟨He.cls_ok (c.a.fact 58 (f := .cls "Balance") rfl), fun f hf => ?_⟩
  simp only [List.mem_cons, List.not_mem_nil, or_false] at hf
  rcases hf with rfl | rfl | rfl | rfl
  · exact He.noat_ok (c.a.fact 64 (f := .noat "Balance" "_numbers") rfl)
  · exact He.noat_ok (c.a.fact 65 (f := .noat "Balance" "things") rfl)
  · exact He.noat_ok (c.a.fact 66 (f := .noat "Balance" "is_nothing") rfl)
  · exact He.noat_ok (c.a.fact 67 (f := .noat "Balance" "key") rfl)
theorem fact_op (c : SaysK fa fn fx tf h K) (i : Nat) {nm : String} {m : Str} (e : fx[i]? = some fun K => opB K nm) (em : PySem.dunder nm = m) : OpF K (cR K) nm (He.ma K (cR K) m) := by
  have q := fxs c i e
  unfold opB at q
  simp only [Bool.and_eq_true] at q
  obtain ⟨h1, h2, h3, h4⟩ := q
  rw [em] at h1 h2
  refine ⟨⟨by rw [em]; exact He.eqO_ok h1, h2⟩, He.eqO_ok h3, fun T hT => ?_⟩
  have r := List.all_eq_true.mp h4 T hT
  unfold rightB at r
  simp only [Bool.and_eq_true] at r
  obtain ⟨r1, r2, r3⟩ := r
  exact ⟨Option.isSome_iff_exists.mp r1, Option.isSome_iff_exists.mp r2, of_decide_eq_true r3⟩
theorem fact_own (c : SaysK fa fn fx tf h K) {m : Str} (hm : m ∈ ownsR) : OwnM K (cR K) m (He.ma K (cR K) m) := by
  have q := fxs c 8 (f := fun K => ownsR.all fun m => ownB K m) rfl
  have r := List.all_eq_true.mp q m hm
  unfold ownB at r
  simp only [Bool.and_eq_true] at r
  exact ⟨He.eqO_ok r.1, r.2⟩
theorem fact_ownB (c : SaysK fa fn fx tf h K) {m : Str} (hm : m ∈ ownsB) : OwnM K (cB K) m (He.ma K (cB K) m) := by
  have q := fxs c 15 (f := fun K => ownsB.all fun m => ownBB K m) rfl
  have r := List.all_eq_true.mp q m hm
  unfold ownBB at r
  simp only [Bool.and_eq_true] at r
  exact ⟨He.eqO_ok r.1, r.2⟩
/-- what the head tells of balances -/
structure BalF (K : PySem.W.Frag) : Prop where
  ty : ∀ (H : Hp) (a : Addr) g zs, BalAt H a (cB K) (cR K) g zs → TyX K H (.ref a) (.ref (cB K))
  cc : PySem.W.kitOne K (.ref (cB K)) (.ref (cB K)) = some true
  n : cR K ≠ cB K
  sf : PySem.W.selfFirst K (cB K) = true
  rm : PySem.W.findIn K (.ref (cB K)) (dunderR "mul") = some none
  sub : PySem.W.subIn K (.ref (cR K)) (.ref (cB K)) = some false
  nf : PySem.W.notFirst K (cB K) (.ref (cB K)) = true
  ne : PySem.W.findIn K (.ref (cB K)) "__ne__" = some (some (.builtin "object.__ne__"))
  ob : PySem.W.subIn K (.ref (cB K)) (.type "object") = some true
  rt : RightT K (cB K) "mul" "int"
  nfR : PySem.W.notFirst K (cR K) (.type "int") = true
  fm : PySem.W.findIn K (.ref (cR K)) "__format__" = some (some (.builtin "object.__format__"))
theorem fact_B (c : SaysK fa fn fx tf h K) : BalF K := by
  have I := fact_I c
  have T := fact_TB c
  have q := fxs c 12 (f := balTB) rfl
  unfold balTB kitB at q
  simp only [Bool.and_eq_true] at q
  obtain ⟨h1, h2, h3, h4⟩ := q
  have q2 := fxs c 13 (f := balOB) rfl
  unfold balOB at q2
  simp only [Bool.and_eq_true] at q2
  obtain ⟨k1, k2, k3, k4, k5, k6⟩ := q2
  have q3 := fxs c 14 (f := balRB) rfl
  unfold balRB at q3
  simp only [Bool.and_eq_true] at q3
  obtain ⟨r1, r2, r3⟩ := q3
  have q4 := fxs c 11 (f := nfB) rfl
  unfold nfB at q4
  simp only [Bool.and_eq_true] at q4
  exact ⟨fun H a g zs hb => by
    obtain ⟨dx, nd, tp, kt, e, _⟩ := hb
    exact .base (.ins e T.cls (He.eqO_ok h1) I.cn I.ct (of_decide_eq_true h2)), of_decide_eq_true h3, of_decide_eq_true h4, k1, He.eqO_ok k2, of_decide_eq_true k3, k4, He.eqO_ok k5, of_decide_eq_true k6,
    ⟨Option.isSome_iff_exists.mp r1, Option.isSome_iff_exists.mp r2, of_decide_eq_true r3⟩, q4.1, He.eqO_ok q4.2⟩
theorem fact_BadRatio (X : K.In h) (G : h.Ns mainGlobals mg) (c : SaysK fa fn fx tf h K) : ErrN P w K mg base "BadRatio" (He.ga K "BadRatio") ["part"] := by
  obtain ⟨fd_e_BadRatio, F_e_BadRatio⟩ := c.a.def_ 0 (d := e_BadRatio) rfl
  obtain ⟨E, g⟩ := errB_ok (fxs c 0 (f := errB "BadRatio" ["part"]) rfl)
  exact mk_BadRatio F_e_BadRatio E.ox E.ini E.fn E.no (He.glo_ok X G g)
theorem fact_BadBalance (X : K.In h) (G : h.Ns mainGlobals mg) (c : SaysK fa fn fx tf h K) : ErrN P w K mg base "BadBalance" (He.ga K "BadBalance") ["part"] := by
  obtain ⟨fd_e_BadBalance, F_e_BadBalance⟩ := c.a.def_ 1 (d := e_BadBalance) rfl
  obtain ⟨E, g⟩ := errB_ok (fxs c 1 (f := errB "BadBalance" ["part"]) rfl)
  exact mk_BadBalance F_e_BadBalance E.ox E.ini E.fn E.no (He.glo_ok X G g)
theorem fact_BadNumber (X : K.In h) (G : h.Ns mainGlobals mg) (c : SaysK fa fn fx tf h K) : ErrN P w K mg base "BadNumber" (He.ga K "BadNumber") ["part"] := by
  obtain ⟨fd_e_BadNumber, F_e_BadNumber⟩ := c.a.def_ 2 (d := e_BadNumber) rfl
  obtain ⟨E, g⟩ := errB_ok (fxs c 2 (f := errB "BadNumber" ["part"]) rfl)
  exact mk_BadNumber F_e_BadNumber E.ox E.ini E.fn E.no (He.glo_ok X G g)
theorem fact_int (X : K.In h) (G : h.Ns mainGlobals mg) (c : SaysK fa fn fx tf h K) : ∃ (f : Addr) (fd : FuncData), FnOk P w K mg base CX0 1 f fd ["value"] (spIsI K) ∧ Binds K fd ["value"] [] ∧ PySem.W.keepIn K (.ref f) = true ∧ mg "is_integer" = some (.ref f) := by
  obtain ⟨fd_g_is_integer, F_g_is_integer⟩ := c.a.def_ 25 (d := g_is_integer) rfl
  have F_g_is_integer' : FnP K "is_integer" (top 12) (He.ga K "is_integer") fd_g_is_integer := F_g_is_integer
  exact ⟨_, _, ok_isInt F_g_is_integer' (He.free_ok X G (c.a.fact 42 (f := .free "isinstance") rfl)) (He.free_ok X G (c.a.fact 43 (f := .free "int") rfl)) (He.free_ok X G (c.a.fact 44 (f := .free "bool") rfl)), (FunD.bindsN F_g_is_integer' fun _ _ _ _ _ _ us hl => match us, hl with | [_], _ => rfl), F_g_is_integer.kp, (He.glo_ok X G (c.a.fact 0 (f := .glo "is_integer") rfl))⟩
theorem fact_K (X : K.In h) (G : h.Ns mainGlobals mg) (c : SaysK fa fn fx tf h K) : RatK P w K mg base (cR K) (He.ga K "BadRatio") := by
  obtain ⟨fd_r_init, F_r_init⟩ := c.a.def_ 3 (d := r_init) rfl
  obtain ⟨fI, fdI, GI, bI, kI, gI⟩ := fact_int (P := P) (w := w) (base := base) X G c
  have M := fact_BadRatio (P := P) (w := w) (base := base) X G c
  have T := fact_T c
  have q := fxs c 10 (f := gcdB) rfl
  unfold gcdB at q
  simp only [Bool.and_eq_true] at q
  have gG : mg "gcd" = some (.builtin "math.gcd") := PySem.W.mg_of X G (He.eqO_ok q.1)
  have mk := He.mkr_ok (c.a.fact 73 (f := .mkr "Ratio") rfl)
  have F : FunD K "__init__" "Ratio.__init__" (defArgs (ratM 0)) (defBody (ratM 0)) (defScope (ratM 0)) [.int 1] [] (He.ma K (cR K) "__init__") fd_r_init := F_r_init
  have G0 : FnOk P w K mg base (L2.CX P w) 3 _ fd_r_init ["self", "top", "bottom"] (spRI K (cR K) (He.ga K "BadRatio")) := ok_ratInit F T M GI bI kI gI gG
  obtain ⟨ds0, v0, b0⟩ := FunD.binds1 (ps := ["self", "top", "bottom"]) F 3 1 (by simp) rfl fun _ _ _ _ _ _ _ us its h1 h2 => match us, its, h1, h2 with | [_, _, _], [_], _, _ => ⟨_, rfl, rfl⟩
  obtain ⟨ds1, v1, b1⟩ := FunD.binds1 (ps := ["self", "top", "bottom"]) F 2 0 (by simp) rfl fun _ _ _ _ _ _ _ us its h1 h2 => match us, its, h1, h2 with | [_, _], [_], _, _ => ⟨_, rfl, rfl⟩
  obtain rfl : ds0 = [] := by cases v0; rfl
  exact ⟨T, fact_I c, M, (He.glo_ok X G (c.a.fact 37 (f := .glo "Ratio") rfl)), (He.free_ok X G (c.a.fact 42 (f := .free "isinstance") rfl)), ⟨fI, fdI, GI, bI, kI, gI⟩, ⟨_, _, ds1, mk, G0, b0, b1, v1⟩⟩
theorem fact_G (X : K.In h) (G : h.Ns mainGlobals mg) (c : SaysK fa fn fx tf h K) : RatG P w K mg base (cR K) (He.ga K "BadRatio") := by
  have R0 := fact_K (P := P) (w := w) (base := base) X G c
  obtain ⟨fd_g_ratio_of, F_g_ratio_of⟩ := c.a.def_ 31 (d := g_ratio_of) rfl
  have F_g_ratio_of' : FnP K "_ratio_of" (top 27) (He.ga K "_ratio_of") fd_g_ratio_of := F_g_ratio_of
  have RF : RatF P w K mg base (cR K) (He.ga K "BadRatio") := ⟨R0, ⟨_, _, ok_ratioOf F_g_ratio_of' R0, (FunD.bindsN F_g_ratio_of' fun _ _ _ _ _ _ us hl => match us, hl with | [_, _], _ => rfl), F_g_ratio_of.kp, (He.glo_ok X G (c.a.fact 6 (f := .glo "_ratio_of") rfl))⟩⟩
  have q := fxs c 4 (f := oddB) rfl
  unfold oddB kitB at q
  simp only [Bool.and_eq_true] at q
  obtain ⟨fd_r_add, F_r_add⟩ := c.a.def_ 5 (d := r_add) rfl
  have F_r_add' : MtP K "__add__" "Ratio.__add__" (ratM 6) (He.ma K (cR K) "__add__") fd_r_add := F_r_add
  obtain ⟨fd_r_sub, F_r_sub⟩ := c.a.def_ 6 (d := r_sub) rfl
  have F_r_sub' : MtP K "__sub__" "Ratio.__sub__" (ratM 7) (He.ma K (cR K) "__sub__") fd_r_sub := F_r_sub
  obtain ⟨fd_r_mul, F_r_mul⟩ := c.a.def_ 7 (d := r_mul) rfl
  have F_r_mul' : MtP K "__mul__" "Ratio.__mul__" (ratM 8) (He.ma K (cR K) "__mul__") fd_r_mul := F_r_mul
  exact ⟨RF, q.1, fun T hT => of_decide_eq_true (List.all_eq_true.mp q.2 T hT), ⟨_, _, fact_op c 5 (m := "__add__") rfl (by decide +kernel), ok_add F_r_add' RF, (FunD.bindsN F_r_add' fun _ _ _ _ _ _ us hl => match us, hl with | [_, _], _ => rfl)⟩, ⟨_, _, fact_op c 6 (m := "__sub__") rfl (by decide +kernel), ok_sub F_r_sub' RF, (FunD.bindsN F_r_sub' fun _ _ _ _ _ _ us hl => match us, hl with | [_, _], _ => rfl)⟩, ⟨_, _, fact_op c 7 (m := "__mul__") rfl (by decide +kernel), ok_mul F_r_mul' RF, (FunD.bindsN F_r_mul' fun _ _ _ _ _ _ us hl => match us, hl with | [_, _], _ => rfl)⟩⟩
theorem fact_neg (X : K.In h) (G : h.Ns mainGlobals mg) (c : SaysK fa fn fx tf h K) : ∃ (f : Addr) (fd : FuncData), OwnM K (cR K) "__neg__" f ∧ FnOk P w K mg base (L2.CX P w) 5 f fd ["self"] (spSelf K (cR K) fun p => -p) ∧ Binds K fd ["self"] [] := by
  obtain ⟨fd_r_neg, F_r_neg⟩ := c.a.def_ 8 (d := r_neg) rfl
  have F_r_neg' : MtP K "__neg__" "Ratio.__neg__" (ratM 9) (He.ma K (cR K) "__neg__") fd_r_neg := F_r_neg
  exact ⟨_, _, fact_own c (by unfold ownsR; simp), ok_neg F_r_neg' (fact_G (P := P) (w := w) (base := base) X G c).toRatF, (FunD.bindsN F_r_neg' fun _ _ _ _ _ _ us hl => match us, hl with | [_], _ => rfl)⟩
theorem fact_isr (X : K.In h) (G : h.Ns mainGlobals mg) (c : SaysK fa fn fx tf h K) : ∃ (f : Addr) (fd : FuncData), FnOk P w K mg base CX0 2 f fd ["value"] (spIsR K (cR K)) ∧ Binds K fd ["value"] [] ∧ PySem.W.keepIn K (.ref f) = true ∧ mg "is_ratio" = some (.ref f) := by
  obtain ⟨fd_g_is_ratio, F_g_is_ratio⟩ := c.a.def_ 30 (d := g_is_ratio) rfl
  have F_g_is_ratio' : FnP K "is_ratio" (top 26) (He.ga K "is_ratio") fd_g_is_ratio := F_g_is_ratio
  exact ⟨_, _, ok_isRatio F_g_is_ratio' (fact_G (P := P) (w := w) (base := base) X G c), (FunD.bindsN F_g_is_ratio' fun _ _ _ _ _ _ us hl => match us, hl with | [_], _ => rfl), F_g_is_ratio.kp, (He.glo_ok X G (c.a.fact 5 (f := .glo "is_ratio") rfl))⟩
theorem fact_isn (X : K.In h) (G : h.Ns mainGlobals mg) (c : SaysK fa fn fx tf h K) : ∃ (f : Addr) (fd : FuncData), FnOk P w K mg base CX0 1 f fd ["value"] (spNm K) ∧ Binds K fd ["value"] [] ∧ PySem.W.keepIn K (.ref f) = true ∧ mg "is_name" = some (.ref f) := by
  obtain ⟨fd_g_is_name, F_g_is_name⟩ := c.a.def_ 26 (d := g_is_name) rfl
  have F_g_is_name' : FnP K "is_name" (top 13) (He.ga K "is_name") fd_g_is_name := F_g_is_name
  exact ⟨_, _, ok_isName F_g_is_name' ⟨(He.free_ok X G (c.a.fact 42 (f := .free "isinstance") rfl)), (He.free_ok X G (c.a.fact 45 (f := .free "str") rfl)), (He.free_ok X G (c.a.fact 46 (f := .free "len") rfl)), (He.free_ok X G (c.a.fact 50 (f := .free "all") rfl)), He.int_ok X G (c.a.fact 54 (f := .int "_LONGEST" 12) rfl), He.str_ok X G (c.a.fact 55 (f := .str "_LETTERS" letS) rfl), He.str_ok X G (c.a.fact 56 (f := .str "_SIGNS" sigS) rfl)⟩, (FunD.bindsN F_g_is_name' fun _ _ _ _ _ _ us hl => match us, hl with | [_], _ => rfl), F_g_is_name.kp, (He.glo_ok X G (c.a.fact 1 (f := .glo "is_name") rfl))⟩
theorem fact_isl (X : K.In h) (G : h.Ns mainGlobals mg) (c : SaysK fa fn fx tf h K) : ∃ (f : Addr) (fd : FuncData), FnOk P w K mg base CX0 1 f fd ["value"] (spLs K) ∧ Binds K fd ["value"] [] ∧ PySem.W.keepIn K (.ref f) = true ∧ mg "is_list" = some (.ref f) := by
  obtain ⟨fd_g_is_list, F_g_is_list⟩ := c.a.def_ 27 (d := g_is_list) rfl
  have F_g_is_list' : FnP K "is_list" (top 14) (He.ga K "is_list") fd_g_is_list := F_g_is_list
  exact ⟨_, _, ok_isList F_g_is_list' (He.free_ok X G (c.a.fact 42 (f := .free "isinstance") rfl)) (He.free_ok X G (c.a.fact 47 (f := .free "list") rfl)) (He.free_ok X G (c.a.fact 48 (f := .free "tuple") rfl)), (FunD.bindsN F_g_is_list' fun _ _ _ _ _ _ us hl => match us, hl with | [_], _ => rfl), F_g_is_list.kp, (He.glo_ok X G (c.a.fact 2 (f := .glo "is_list") rfl))⟩
theorem fact_nms (X : K.In h) (G : h.Ns mainGlobals mg) (c : SaysK fa fn fx tf h K) : ∃ (f : Addr) (fd : FuncData), FnOk P w K mg base CX0 3 f fd ["value"] (spNms K) ∧ Binds K fd ["value"] [] ∧ PySem.W.keepIn K (.ref f) = true ∧ mg "are_names" = some (.ref f) := by
  obtain ⟨fd_g_are_names, F_g_are_names⟩ := c.a.def_ 28 (d := g_are_names) rfl
  have F_g_are_names' : FnP K "are_names" (top 15) (He.ga K "are_names") fd_g_are_names := F_g_are_names
  obtain ⟨fN, fdN, GN, bN, kN, gN⟩ := fact_isn (P := P) (w := w) (base := base) X G c
  obtain ⟨fL, fdL, GL, bL, kL, gL⟩ := fact_isl (P := P) (w := w) (base := base) X G c
  exact ⟨_, _, ok_areNames F_g_are_names' (He.free_ok X G (c.a.fact 50 (f := .free "all") rfl)) GN bN kN gN GL bL kL gL, (FunD.bindsN F_g_are_names' fun _ _ _ _ _ _ us hl => match us, hl with | [_], _ => rfl), F_g_are_names.kp, (He.glo_ok X G (c.a.fact 3 (f := .glo "are_names") rfl))⟩
theorem fact_nmg (X : K.In h) (G : h.Ns mainGlobals mg) (c : SaysK fa fn fx tf h K) : ∃ (f : Addr) (fd : FuncData), FnOk P w K mg base CX0 4 f fd ["value"] spIsNm ∧ Binds K fd ["value"] [] ∧ PySem.W.keepIn K (.ref f) = true ∧ mg "is_naming" = some (.ref f) := by
  obtain ⟨fd_g_is_naming, F_g_is_naming⟩ := c.a.def_ 29 (d := g_is_naming) rfl
  have F_g_is_naming' : FnP K "is_naming" (top 16) (He.ga K "is_naming") fd_g_is_naming := F_g_is_naming
  obtain ⟨fN, fdN, GN, bN, kN, gN⟩ := fact_nms (P := P) (w := w) (base := base) X G c
  exact ⟨_, _, ok_isNaming F_g_is_naming' (He.free_ok X G (c.a.fact 42 (f := .free "isinstance") rfl)) (He.free_ok X G (c.a.fact 49 (f := .free "dict") rfl)) (He.free_ok X G (c.a.fact 47 (f := .free "list") rfl)) GN bN kN gN, (FunD.bindsN F_g_is_naming' fun _ _ _ _ _ _ us hl => match us, hl with | [_], _ => rfl), F_g_is_naming.kp, (He.glo_ok X G (c.a.fact 4 (f := .glo "is_naming") rfl))⟩
theorem fact_nin (X : K.In h) (G : h.Ns mainGlobals mg) (c : SaysK fa fn fx tf h K) : ∃ (f : Addr) (fd : FuncData), FnOk P w K mg base CX0 7 f fd ["value"] (spNin K (cR K)) ∧ Binds K fd ["value"] [] ∧ PySem.W.keepIn K (.ref f) = true ∧ mg "numbers_in" = some (.ref f) := by
  obtain ⟨fd_g_numbers_in, F_g_numbers_in⟩ := c.a.def_ 33 (d := g_numbers_in) rfl
  have F_g_numbers_in' : FnP K "numbers_in" (top 32) (He.ga K "numbers_in") fd_g_numbers_in := F_g_numbers_in
  obtain ⟨fN, fdN, GN, bN, kN, gN⟩ := fact_nms (P := P) (w := w) (base := base) X G c
  obtain ⟨fI, fdI, GI, bI, kI, gI⟩ := fact_isr (P := P) (w := w) (base := base) X G c
  obtain ⟨fd_r_of, F_r_of⟩ := c.a.def_ 4 (d := r_of) rfl
  have F_r_of' : MtP K "of" "Ratio.of" (ratM 2) (He5.wf K (cR K) "staticmethod" "of") fd_r_of := F_r_of
  have q9 := fxs c 9 (f := clsB) rfl
  unfold clsB at q9
  simp only [Bool.and_eq_true] at q9
  obtain ⟨k1, k2, k5, k6⟩ := q9
  have cr : CRead K (cR K) (.type "type") := ⟨k1, He.eqO_ok k2⟩
  have sm : SMet K (cR K) (.type "type") "of" (He.ma K (cR K) "of") (He5.wf K (cR K) "staticmethod" "of") := ⟨(He5.wrapB_ok k5).1, (He5.wrapB_ok k5).2, k6⟩
  exact ⟨_, _, ok_numbersIn F_g_numbers_in' (He.free_ok X G (c.a.fact 42 (f := .free "isinstance") rfl)) (He.free_ok X G (c.a.fact 49 (f := .free "dict") rfl)) (He.free_ok X G (c.a.fact 47 (f := .free "list") rfl)) (He.free_ok X G (c.a.fact 50 (f := .free "all") rfl)) (He.free_ok X G (c.a.fact 53 (f := .free "sorted") rfl)) GN bN kN gN GI bI kI gI (He.glo_ok X G (c.a.fact 37 (f := .glo "Ratio") rfl)) cr sm (ok_of1 F_r_of' (fact_G (P := P) (w := w) (base := base) X G c).toRatF) (FunD.bindsN F_r_of' fun _ _ _ _ _ _ us hl => match us, hl with | [_], _ => rfl), (FunD.bindsN F_g_numbers_in' fun _ _ _ _ _ _ us hl => match us, hl with | [_], _ => rfl), F_g_numbers_in.kp, (He.glo_ok X G (c.a.fact 8 (f := .glo "numbers_in") rfl))⟩
theorem fact_BK (X : K.In h) (G : h.Ns mainGlobals mg) (c : SaysK fa fn fx tf h K) : BalK P w K mg base (cB K) (cR K) := by
  have T := fact_TB c
  obtain ⟨fd_b_init, F_b_init⟩ := c.a.def_ 11 (d := b_init) rfl
  have F_b_init' : MtP K "__init__" "Balance.__init__" (balM 0) (He.ma K (cB K) "__init__") fd_b_init := F_b_init
  obtain ⟨fN, fdN, GN, bN, kN, gN⟩ := fact_nin (P := P) (w := w) (base := base) X G c
  have mk := He.mkr_ok (c.a.fact 74 (f := .mkr "Balance") rfl)
  exact ⟨T, (fact_B c).n, (He.glo_ok X G (c.a.fact 38 (f := .glo "Balance") rfl)), ⟨_, _, mk, ok_balInit F_b_init' T (fact_B c).n (fact_T c) (fact_BadBalance (P := P) (w := w) (base := base) X G c) (He.free_ok X G (c.a.fact 48 (f := .free "tuple") rfl)) (He.free_ok X G (c.a.fact 46 (f := .free "len") rfl)) GN bN kN gN, (FunD.bindsN F_b_init' fun _ _ _ _ _ _ us hl => match us, hl with | [_, _], _ => rfl)⟩⟩
theorem fact_O (X : K.In h) (G : h.Ns mainGlobals mg) (c : SaysK fa fn fx tf h K) : OpsK P w K mg base (cB K) (cR K) (He.ga K "BadRatio") := by
  have RG := fact_G (P := P) (w := w) (base := base) X G c
  obtain ⟨fd_b_number_of, F_b_number_of⟩ := c.a.def_ 12 (d := b_number_of) rfl
  have F_b_number_of' : MtP K "number_of" "Balance.number_of" (balM 3) (He.ma K (cB K) "number_of") fd_b_number_of := F_b_number_of
  obtain ⟨fM, fdM, GM, bM, kM, gM⟩ := fact_isn (P := P) (w := w) (base := base) X G c
  obtain ⟨fI, fdI, GI, bI, kI, gI⟩ := fact_isr (P := P) (w := w) (base := base) X G c
  exact ⟨RG.toRatK, fact_BK (P := P) (w := w) (base := base) X G c, RG.sf, RG.odd, RG.add, RG.mul, ⟨_, _, (He.meth_ok (c.a.fact 68 (f := .meth "Balance" "number_of") rfl)), ok_numberOf F_b_number_of' (fact_TB c) RG.toRatK GM bM kM gM, (FunD.bindsN F_b_number_of' fun _ _ _ _ _ _ us hl => match us, hl with | [_, _], _ => rfl)⟩, ⟨fI, fdI, GI, bI, kI, gI⟩⟩
theorem fact_summed (X : K.In h) (G : h.Ns mainGlobals mg) (c : SaysK fa fn fx tf h K) : ∃ (f : Addr) (fd : FuncData), FnOk P w K mg base (L2.CX P w) 10 f fd ["one", "other", "factor"] (spSum (cB K) (cR K)) ∧ Binds K fd ["one", "other", "factor"] [] ∧ PySem.W.keepIn K (.ref f) = true ∧ mg "_summed" = some (.ref f) := by
  obtain ⟨fd_g_summed, F_g_summed⟩ := c.a.def_ 36 (d := g_summed) rfl
  have F_g_summed' : FnP K "_summed" (top 37) (He.ga K "_summed") fd_g_summed := F_g_summed
  exact ⟨_, _, ok_summed F_g_summed' (fact_O (P := P) (w := w) (base := base) X G c) (fact_BadBalance (P := P) (w := w) (base := base) X G c) (He.free_ok X G (c.a.fact 42 (f := .free "isinstance") rfl)) (fact_B c).ty (fact_B c).cc, (FunD.bindsN F_g_summed' fun _ _ _ _ _ _ us hl => match us, hl with | [_, _, _], _ => rfl), F_g_summed.kp, (He.glo_ok X G (c.a.fact 11 (f := .glo "_summed") rfl))⟩
theorem fact_times (X : K.In h) (G : h.Ns mainGlobals mg) (c : SaysK fa fn fx tf h K) : ∃ (f : Addr) (fd : FuncData), FnOk P w K mg base (L2.CX P w) 10 f fd ["balance", "ratio"] (spTimes (cB K) (cR K)) ∧ Binds K fd ["balance", "ratio"] [] ∧ PySem.W.keepIn K (.ref f) = true ∧ mg "_times" = some (.ref f) := by
  obtain ⟨fd_g_times, F_g_times⟩ := c.a.def_ 37 (d := g_times) rfl
  have F_g_times' : FnP K "_times" (top 38) (He.ga K "_times") fd_g_times := F_g_times
  exact ⟨_, _, ok_times F_g_times' (fact_O (P := P) (w := w) (base := base) X G c) (fact_BadNumber (P := P) (w := w) (base := base) X G c), (FunD.bindsN F_g_times' fun _ _ _ _ _ _ us hl => match us, hl with | [_, _], _ => rfl), F_g_times.kp, (He.glo_ok X G (c.a.fact 12 (f := .glo "_times") rfl))⟩
theorem fact_counts (X : K.In h) (G : h.Ns mainGlobals mg) (c : SaysK fa fn fx tf h K) : ∃ (f : Addr) (fd : FuncData), FnOk P w K mg base CX0 1 f fd ["things"] (spCounts K) ∧ Binds K fd ["things"] [] ∧ PySem.W.keepIn K (.ref f) = true ∧ mg "_counts" = some (.ref f) := by
  obtain ⟨fd_g_counts, F_g_counts⟩ := c.a.def_ 35 (d := g_counts) rfl
  have F_g_counts' : FnP K "_counts" (top 36) (He.ga K "_counts") fd_g_counts := F_g_counts
  exact ⟨_, _, ok_counts F_g_counts', (FunD.bindsN F_g_counts' fun _ _ _ _ _ _ us hl => match us, hl with | [_], _ => rfl), F_g_counts.kp, (He.glo_ok X G (c.a.fact 10 (f := .glo "_counts") rfl))⟩
theorem fact_mulB (X : K.In h) (G : h.Ns mainGlobals mg) (c : SaysK fa fn fx tf h K) : ∃ (f : Addr) (fd : FuncData), OwnM K (cB K) (PySem.dunder Operator.Mult.info.2) f ∧ FnOk P w K mg base (L2.CX P w) 11 f fd ["self", "other"] (spMulB (cB K) (cR K)) ∧ Binds K fd ["self", "other"] [] := by
  obtain ⟨fd_b_mul, F_b_mul⟩ := c.a.def_ 20 (d := b_mul) rfl
  have F_b_mul' : MtP K "__mul__" "Balance.__mul__" (balM 11) (He.ma K (cB K) "__mul__") fd_b_mul := F_b_mul
  obtain ⟨fS, fdS, GS, bS, kS, gS⟩ := fact_times (P := P) (w := w) (base := base) X G c
  exact ⟨_, _, fact_ownB c (m := "__mul__") (by unfold ownsB; simp), ok_mulB F_b_mul' GS bS kS gS, (FunD.bindsN F_b_mul' fun _ _ _ _ _ _ us hl => match us, hl with | [_, _], _ => rfl)⟩
theorem fact_mean (X : K.In h) (G : h.Ns mainGlobals mg) (c : SaysK fa fn fx tf h K) : ∃ (f : Addr) (fd : FuncData), FnOk P w K mg base (L2.CX P w) 12 f fd ["things"] (spMean (cB K) (cR K)) ∧ Binds K fd ["things"] [] ∧ BindsK fd ["things"] ∧ PySem.W.keepIn K (.ref f) = true ∧ mg "mean_of" = some (.ref f) := by
  obtain ⟨fd_g_mean_of, F_g_mean_of⟩ := c.a.def_ 34 (d := g_mean_of) rfl
  have F_g_mean_of' : FnP K "mean_of" (top 35) (He.ga K "mean_of") fd_g_mean_of := F_g_mean_of
  obtain ⟨fN, fdN, GN, bN, kN, gN⟩ := fact_nms (P := P) (w := w) (base := base) X G c
  obtain ⟨fC, fdC, GC, bC, kC, gC⟩ := fact_counts (P := P) (w := w) (base := base) X G c
  obtain ⟨fM, fdM, MM, GM, bM⟩ := fact_mulB (P := P) (w := w) (base := base) X G c
  obtain ⟨f2, fd2, M2, G2, b2⟩ := (fact_G (P := P) (w := w) (base := base) X G c).mul
  exact ⟨_, _, ok_meanOf F_g_mean_of' (fact_O (P := P) (w := w) (base := base) X G c) (fact_BadBalance (P := P) (w := w) (base := base) X G c) (He.free_ok X G (c.a.fact 46 (f := .free "len") rfl)) GN bN kN gN GC bC kC gC MM GM bM (fact_B c).sf (fact_B c).rm M2.1 M2.2 (fact_B c).sub, (FunD.bindsN F_g_mean_of' fun _ _ _ _ _ _ us hl => match us, hl with | [_], _ => rfl), (FunD.bindsK F_g_mean_of' fun _ _ _ _ _ _ zs hl => match zs, hl with | [_], _ => rfl), F_g_mean_of.kp, (He.glo_ok X G (c.a.fact 9 (f := .glo "mean_of") rfl))⟩
theorem fact_term (X : K.In h) (G : h.Ns mainGlobals mg) (c : SaysK fa fn fx tf h K) : ∃ (f : Addr) (fd : FuncData), FnOk P w K mg base CX0 4 f fd ["thing", "number"] (spTerm (cR K)) ∧ Binds K fd ["thing", "number"] [] ∧ PySem.W.keepIn K (.ref f) = true ∧ mg "_term" = some (.ref f) := by
  obtain ⟨fd_g_term, F_g_term⟩ := c.a.def_ 38 (d := g_term) rfl
  have F_g_term' : FnP K "_term" (top 41) (He.ga K "_term") fd_g_term := F_g_term
  obtain ⟨fd_r_eq, F_r_eq⟩ := c.a.def_ 9 (d := r_eq) rfl
  have F_r_eq' : MtP K "__eq__" "Ratio.__eq__" (ratM 12) (He.ma K (cR K) "__eq__") fd_r_eq := F_r_eq
  obtain ⟨fd_r_str, F_r_str⟩ := c.a.def_ 10 (d := r_str) rfl
  have F_r_str' : MtP K "__str__" "Ratio.__str__" (ratM 13) (He.ma K (cR K) "__str__") fd_r_str := F_r_str
  obtain ⟨fd_g_is_same, F_g_is_same⟩ := c.a.def_ 32 (d := g_is_same) rfl
  have F_g_is_same' : FnP K "_is_same" (top 28) (He.ga K "_is_same") fd_g_is_same := F_g_is_same
  obtain ⟨fd_g_writtenR, F_g_writtenR⟩ := c.a.def_ 23 (d := g_writtenR) rfl
  have F_w' : FnP K "_written" (top 29) (He.ga K "written_ratios") fd_g_writtenR := F_g_writtenR
  have GE : FnOk P w K mg base CX0 3 _ fd_r_eq ["self", "other"] (spSame K (cR K)) := ok_eq F_r_eq' (fact_K (P := P) (w := w) (base := base) X G c) F_g_is_same' (He.glo_ok X G (c.a.fact 7 (f := .glo "_is_same") rfl))
  have GS : FnOk P w K mg base CX0 2 _ fd_r_str ["self"] (spText K (cR K)) := ok_str F_r_str' (fact_T c) F_w' (He.glo_ok X G (c.a.fact 35 (f := .glo "written_ratios") rfl)) (He.free_ok X G (c.a.fact 45 (f := .free "str") rfl))
  exact ⟨_, _, ok_term F_g_term' (fact_own c (m := "__eq__") (by unfold ownsR; simp)) GE (FunD.bindsN F_r_eq' fun _ _ _ _ _ _ us hl => match us, hl with | [_, _], _ => rfl) (fact_B c).nfR (fact_own c (m := "__str__") (by unfold ownsR; simp)) GS (FunD.bindsN F_r_str' fun _ _ _ _ _ _ us hl => match us, hl with | [_], _ => rfl) (fact_B c).fm (fact_I c).cm, (FunD.bindsN F_g_term' fun _ _ _ _ _ _ us hl => match us, hl with | [_, _], _ => rfl), F_g_term.kp, (He.glo_ok X G (c.a.fact 13 (f := .glo "_term") rfl))⟩
theorem fact_strB (X : K.In h) (G : h.Ns mainGlobals mg) (c : SaysK fa fn fx tf h K) : ∃ (f : Addr) (fd : FuncData), OwnM K (cB K) "__str__" f ∧ FnOk P w K mg base CX0 7 f fd ["self"] (spBalT (cB K) (cR K)) ∧ Binds K fd ["self"] [] := by
  obtain ⟨fd_b_str, F_b_str⟩ := c.a.def_ 22 (d := b_str) rfl
  have F_b_str' : MtP K "__str__" "Balance.__str__" (balM 13) (He.ma K (cB K) "__str__") fd_b_str := F_b_str
  obtain ⟨fd_g_writtenB, F_g_writtenB⟩ := c.a.def_ 24 (d := g_writtenB) rfl
  obtain ⟨fT, fdT, GT, bT, kT, gT⟩ := fact_term (P := P) (w := w) (base := base) X G c
  have F_w' : FnP K "_written" (top 39) (He.ga K "written_balances") fd_g_writtenB := F_g_writtenB
  have GW : FnOk P w K mg base CX0 6 _ fd_g_writtenB ["balance"] (spBalT (cB K) (cR K)) := ok_writtenB F_w' (fact_O (P := P) (w := w) (base := base) X G c) GT bT kT gT
  exact ⟨_, _, fact_ownB c (by unfold ownsB; simp), ok_strB F_b_str' GW (FunD.bindsN F_w' fun _ _ _ _ _ _ us hl => match us, hl with | [_], _ => rfl) F_g_writtenB.kp (He.glo_ok X G (c.a.fact 36 (f := .glo "written_balances") rfl)) (He.free_ok X G (c.a.fact 45 (f := .free "str") rfl)), (FunD.bindsN F_b_str' fun _ _ _ _ _ _ us hl => match us, hl with | [_], _ => rfl)⟩
theorem fact_L (X : K.In h) (G : h.Ns mainGlobals mg) (c : SaysK fa fn fx tf h K) : LwK P w K mg base (cB K) (cR K) (He.ga K "BadRatio") :=
  ⟨fact_O (P := P) (w := w) (base := base) X G c, (fact_B c).ty, (fact_B c).cc, ⟨(He.free_ok X G (c.a.fact 43 (f := .free "int") rfl)), (He.free_ok X G (c.a.fact 46 (f := .free "len") rfl)), (He.free_ok X G (c.a.fact 51 (f := .free "abs") rfl))⟩, (He.free_ok X G (c.a.fact 48 (f := .free "tuple") rfl)), (He.free_ok X G (c.a.fact 45 (f := .free "str") rfl)), (He.free_ok X G (c.a.fact 49 (f := .free "dict") rfl)), (He.free_ok X G (c.a.fact 47 (f := .free "list") rfl)), fact_strB (P := P) (w := w) (base := base) X G c⟩
theorem fact_W (X : K.In h) (G : h.Ns mainGlobals mg) (c : SaysK fa fn fx tf h K) : BopK P w K mg base (cB K) (cR K) (He.ga K "BadRatio") := by
  have B := fact_B c
  have BK := fact_BK (P := P) (w := w) (base := base) X G c
  obtain ⟨f2, fd2, M2, G2, b2⟩ := (fact_G (P := P) (w := w) (base := base) X G c).mul
  obtain ⟨fRN, fdRN, MRN, GRN, bRN⟩ := fact_neg (P := P) (w := w) (base := base) X G c
  obtain ⟨fS, fdS, GS, bS, kS, gS⟩ := fact_summed (P := P) (w := w) (base := base) X G c
  obtain ⟨fT, fdT, GT, bT, kT, gT⟩ := fact_times (P := P) (w := w) (base := base) X G c
  obtain ⟨fd_b_add, F_b_add⟩ := c.a.def_ 17 (d := b_add) rfl
  have F_b_add' : MtP K "__add__" "Balance.__add__" (balM 8) (He.ma K (cB K) "__add__") fd_b_add := F_b_add
  obtain ⟨fd_b_sub, F_b_sub⟩ := c.a.def_ 18 (d := b_sub) rfl
  have F_b_sub' : MtP K "__sub__" "Balance.__sub__" (balM 9) (He.ma K (cB K) "__sub__") fd_b_sub := F_b_sub
  obtain ⟨fd_b_neg, F_b_neg⟩ := c.a.def_ 19 (d := b_neg) rfl
  have F_b_neg' : MtP K "__neg__" "Balance.__neg__" (balM 10) (He.ma K (cB K) "__neg__") fd_b_neg := F_b_neg
  obtain ⟨fd_b_eq, F_b_eq⟩ := c.a.def_ 21 (d := b_eq) rfl
  have F_b_eq' : MtP K "__eq__" "Balance.__eq__" (balM 12) (He.ma K (cB K) "__eq__") fd_b_eq := F_b_eq
  obtain ⟨fd_b_least, F_b_least⟩ := c.a.def_ 15 (d := b_least) rfl
  have F_b_least' : MtP K "least" "Balance.least" (balM 6) (He.ma K (cB K) "least") fd_b_least := F_b_least
  obtain ⟨fd_b_gains, F_b_gains⟩ := c.a.def_ 13 (d := b_gains) rfl
  have F_b_gains' : MtP K "gains" "Balance.gains" (balM 4) (He.ma K (cB K) "gains") fd_b_gains := F_b_gains
  obtain ⟨fd_b_losses, F_b_losses⟩ := c.a.def_ 14 (d := b_losses) rfl
  have F_b_losses' : MtP K "losses" "Balance.losses" (balM 5) (He.ma K (cB K) "losses") fd_b_losses := F_b_losses
  have q := fxs c 10 (f := gcdB) rfl
  unfold gcdB at q
  simp only [Bool.and_eq_true] at q
  have gG : mg "gcd" = some (.builtin "math.gcd") := PySem.W.mg_of X G (He.eqO_ok q.1)
  have gL : mg "lcm" = some (.builtin "math.lcm") := PySem.W.mg_of X G (He.eqO_ok q.2)
  exact ⟨fact_L (P := P) (w := w) (base := base) X G c, B.sf, B.rm, M2.2, B.sub, B.rt, B.nf, B.ne, B.ob,
    ⟨_, _, fact_ownB c (m := "__add__") (by unfold ownsB; simp), ok_addB F_b_add' GS bS kS gS, (FunD.bindsN F_b_add' fun _ _ _ _ _ _ us hl => match us, hl with | [_, _], _ => rfl)⟩,
    ⟨_, _, fact_ownB c (m := "__sub__") (by unfold ownsB; simp), ok_subB F_b_sub' GS bS kS gS, (FunD.bindsN F_b_sub' fun _ _ _ _ _ _ us hl => match us, hl with | [_, _], _ => rfl)⟩,
    fact_mulB (P := P) (w := w) (base := base) X G c, ⟨_, M2.1⟩,
    ⟨_, _, fact_ownB c (by unfold ownsB; simp), ok_negB F_b_neg' GT bT kT gT, (FunD.bindsN F_b_neg' fun _ _ _ _ _ _ us hl => match us, hl with | [_], _ => rfl)⟩,
    ⟨_, _, fact_ownB c (by unfold ownsB; simp), ok_eqB F_b_eq' (fact_TB c) (He.glo_ok X G (c.a.fact 38 (f := .glo "Balance") rfl)) (He.free_ok X G (c.a.fact 42 (f := .free "isinstance") rfl)) B.ty B.cc, (FunD.bindsN F_b_eq' fun _ _ _ _ _ _ us hl => match us, hl with | [_, _], _ => rfl)⟩,
    ⟨_, _, (He.meth_ok (c.a.fact 71 (f := .meth "Balance" "least") rfl)), ok_least F_b_least' BK (fact_K (P := P) (w := w) (base := base) X G c) gL gG, (FunD.bindsN F_b_least' fun _ _ _ _ _ _ us hl => match us, hl with | [_], _ => rfl)⟩,
    ⟨_, _, (He.meth_ok (c.a.fact 69 (f := .meth "Balance" "gains") rfl)), ok_gains F_b_gains' BK (fact_T c), (FunD.bindsN F_b_gains' fun _ _ _ _ _ _ us hl => match us, hl with | [_], _ => rfl)⟩,
    ⟨_, _, (He.meth_ok (c.a.fact 70 (f := .meth "Balance" "losses") rfl)), ok_losses F_b_losses' BK (fact_T c) MRN GRN bRN, (FunD.bindsN F_b_losses' fun _ _ _ _ _ _ us hl => match us, hl with | [_], _ => rfl)⟩,
    ⟨fRN, fdRN, MRN, GRN, bRN⟩⟩
theorem fact_reel (X : K.In h) (G : h.Ns mainGlobals mg) (c : SaysK fa fn fx tf h K) : ∃ (f : Addr) (fd : FuncData), FnOk P w K mg base CX0 1 f fd ["_law_script"] (spTill K) ∧ Binds K fd ["_law_script"] [] ∧ PySem.W.keepIn K (.ref f) = true ∧ mg "_law_reel" = some (.ref f) := by
  obtain ⟨fd_g_law_reel, F_g_law_reel⟩ := c.a.def_ 39 (d := g_law_reel) rfl
  have F_g_law_reel' : FnP K "_law_reel" (top 44) (He.ga K "_law_reel") fd_g_law_reel := F_g_law_reel
  exact ⟨_, _, ok_till F_g_law_reel' ⟨(He.free_ok X G (c.a.fact 43 (f := .free "int") rfl)), (He.free_ok X G (c.a.fact 46 (f := .free "len") rfl)), (He.free_ok X G (c.a.fact 51 (f := .free "abs") rfl))⟩, (FunD.bindsN F_g_law_reel' fun _ _ _ _ _ _ us hl => match us, hl with | [_], _ => rfl), F_g_law_reel.kp, (He.glo_ok X G (c.a.fact 14 (f := .glo "_law_reel") rfl))⟩
theorem fact_turn (X : K.In h) (G : h.Ns mainGlobals mg) (c : SaysK fa fn fx tf h K) : ∃ (f : Addr) (fd : FuncData), FnOk P w K mg base CX0 1 f fd ["_law_reel_here", "_law_many"] spCoin ∧ Binds K fd ["_law_reel_here", "_law_many"] [] ∧ PySem.W.keepIn K (.ref f) = true ∧ mg "_law_turn" = some (.ref f) := by
  obtain ⟨fd_g_law_turn, F_g_law_turn⟩ := c.a.def_ 40 (d := g_law_turn) rfl
  have F_g_law_turn' : FnP K "_law_turn" (top 45) (He.ga K "_law_turn") fd_g_law_turn := F_g_law_turn
  exact ⟨_, _, ok_coin F_g_law_turn' ⟨(He.free_ok X G (c.a.fact 43 (f := .free "int") rfl)), (He.free_ok X G (c.a.fact 46 (f := .free "len") rfl)), (He.free_ok X G (c.a.fact 51 (f := .free "abs") rfl))⟩, (FunD.bindsN F_g_law_turn' fun _ _ _ _ _ _ us hl => match us, hl with | [_, _], _ => rfl), F_g_law_turn.kp, (He.glo_ok X G (c.a.fact 15 (f := .glo "_law_turn") rfl))⟩
theorem fact_pick (X : K.In h) (G : h.Ns mainGlobals mg) (c : SaysK fa fn fx tf h K) : ∃ (f : Addr) (fd : FuncData), FnOk P w K mg base CX0 2 f fd ["_law_reel_here", "_law_some"] spOf ∧ Binds K fd ["_law_reel_here", "_law_some"] [] ∧ PySem.W.keepIn K (.ref f) = true ∧ mg "_law_pick" = some (.ref f) := by
  obtain ⟨fd_g_law_pick, F_g_law_pick⟩ := c.a.def_ 41 (d := g_law_pick) rfl
  have F_g_law_pick' : FnP K "_law_pick" (top 46) (He.ga K "_law_pick") fd_g_law_pick := F_g_law_pick
  obtain ⟨fd_g_law_turn, F_g_law_turn⟩ := c.a.def_ 40 (d := g_law_turn) rfl
  have F_g_law_turn' : FnP K "_law_turn" (top 45) (He.ga K "_law_turn") fd_g_law_turn := F_g_law_turn
  exact ⟨_, _, ok_of F_g_law_pick' ⟨(He.free_ok X G (c.a.fact 43 (f := .free "int") rfl)), (He.free_ok X G (c.a.fact 46 (f := .free "len") rfl)), (He.free_ok X G (c.a.fact 51 (f := .free "abs") rfl))⟩ (He.glo_ok X G (c.a.fact 15 (f := .glo "_law_turn") rfl)) F_g_law_turn', (FunD.bindsN F_g_law_pick' fun _ _ _ _ _ _ us hl => match us, hl with | [_, _], _ => rfl), F_g_law_pick.kp, (He.glo_ok X G (c.a.fact 16 (f := .glo "_law_pick") rfl))⟩
theorem fact_shared (X : K.In h) (G : h.Ns mainGlobals mg) (c : SaysK fa fn fx tf h K) : ∃ (f : Addr) (fd : FuncData), FnOk P w K mg base CX0 1 f fd ["_law_one", "_law_other"] spSh ∧ Binds K fd ["_law_one", "_law_other"] [] ∧ PySem.W.keepIn K (.ref f) = true ∧ mg "_law_shared" = some (.ref f) := by
  obtain ⟨fd_g_law_shared, F_g_law_shared⟩ := c.a.def_ 42 (d := g_law_shared) rfl
  have F_g_law_shared' : FnP K "_law_shared" (top 47) (He.ga K "_law_shared") fd_g_law_shared := F_g_law_shared
  exact ⟨_, _, ok_shared F_g_law_shared' ⟨(He.free_ok X G (c.a.fact 43 (f := .free "int") rfl)), (He.free_ok X G (c.a.fact 46 (f := .free "len") rfl)), (He.free_ok X G (c.a.fact 51 (f := .free "abs") rfl))⟩, (FunD.bindsN F_g_law_shared' fun _ _ _ _ _ _ us hl => match us, hl with | [_, _], _ => rfl), F_g_law_shared.kp, (He.glo_ok X G (c.a.fact 17 (f := .glo "_law_shared") rfl))⟩
theorem fact_low (X : K.In h) (G : h.Ns mainGlobals mg) (c : SaysK fa fn fx tf h K) : ∃ (f : Addr) (fd : FuncData), FnOk P w K mg base CX0 2 f fd ["_law_top", "_law_bottom"] spLw ∧ Binds K fd ["_law_top", "_law_bottom"] [] ∧ PySem.W.keepIn K (.ref f) = true ∧ mg "_law_low" = some (.ref f) := by
  obtain ⟨fd_g_law_low, F_g_law_low⟩ := c.a.def_ 43 (d := g_law_low) rfl
  have F_g_law_low' : FnP K "_law_low" (top 48) (He.ga K "_law_low") fd_g_law_low := F_g_law_low
  obtain ⟨fS, fdS, GS, bS, kS, gS⟩ := fact_shared (P := P) (w := w) (base := base) X G c
  exact ⟨_, _, ok_low F_g_law_low' GS bS kS gS, (FunD.bindsN F_g_law_low' fun _ _ _ _ _ _ us hl => match us, hl with | [_, _], _ => rfl), F_g_law_low.kp, (He.glo_ok X G (c.a.fact 18 (f := .glo "_law_low") rfl))⟩
theorem fact_plus (X : K.In h) (G : h.Ns mainGlobals mg) (c : SaysK fa fn fx tf h K) : ∃ (f : Addr) (fd : FuncData), FnOk P w K mg base CX0 3 f fd ["_law_one", "_law_other"] (spFr plusF) ∧ Binds K fd ["_law_one", "_law_other"] [] ∧ PySem.W.keepIn K (.ref f) = true ∧ mg "_law_plus" = some (.ref f) := by
  obtain ⟨fd_g_law_plus, F_g_law_plus⟩ := c.a.def_ 44 (d := g_law_plus) rfl
  have F_g_law_plus' : FnP K "_law_plus" (top 49) (He.ga K "_law_plus") fd_g_law_plus := F_g_law_plus
  obtain ⟨fL, fdL, GL, bL, kL, gL⟩ := fact_low (P := P) (w := w) (base := base) X G c
  exact ⟨_, _, ok_plus F_g_law_plus' GL bL kL gL, (FunD.bindsN F_g_law_plus' fun _ _ _ _ _ _ us hl => match us, hl with | [_, _], _ => rfl), F_g_law_plus.kp, (He.glo_ok X G (c.a.fact 19 (f := .glo "_law_plus") rfl))⟩
theorem fact_by (X : K.In h) (G : h.Ns mainGlobals mg) (c : SaysK fa fn fx tf h K) : ∃ (f : Addr) (fd : FuncData), FnOk P w K mg base CX0 3 f fd ["_law_one", "_law_other"] (spFr byF) ∧ Binds K fd ["_law_one", "_law_other"] [] ∧ PySem.W.keepIn K (.ref f) = true ∧ mg "_law_by" = some (.ref f) := by
  obtain ⟨fd_g_law_by, F_g_law_by⟩ := c.a.def_ 45 (d := g_law_by) rfl
  have F_g_law_by' : FnP K "_law_by" (top 50) (He.ga K "_law_by") fd_g_law_by := F_g_law_by
  obtain ⟨fL, fdL, GL, bL, kL, gL⟩ := fact_low (P := P) (w := w) (base := base) X G c
  exact ⟨_, _, ok_by F_g_law_by' GL bL kL gL, (FunD.bindsN F_g_law_by' fun _ _ _ _ _ _ us hl => match us, hl with | [_, _], _ => rfl), F_g_law_by.kp, (He.glo_ok X G (c.a.fact 20 (f := .glo "_law_by") rfl))⟩
theorem fact_number (X : K.In h) (G : h.Ns mainGlobals mg) (c : SaysK fa fn fx tf h K) : ∃ (f : Addr) (fd : FuncData), FnOk P w K mg base CX0 3 f fd ["_law_reel_here"] spNumb ∧ Binds K fd ["_law_reel_here"] [] ∧ PySem.W.keepIn K (.ref f) = true ∧ mg "_law_number" = some (.ref f) := by
  obtain ⟨fd_g_law_number, F_g_law_number⟩ := c.a.def_ 46 (d := g_law_number) rfl
  have F_g_law_number' : FnP K "_law_number" (top 51) (He.ga K "_law_number") fd_g_law_number := F_g_law_number
  obtain ⟨fT, fdT, GT, bT, kT, gT⟩ := fact_turn (P := P) (w := w) (base := base) X G c
  obtain ⟨fL, fdL, GL, bL, kL, gL⟩ := fact_low (P := P) (w := w) (base := base) X G c
  exact ⟨_, _, ok_number F_g_law_number' ⟨(He.free_ok X G (c.a.fact 43 (f := .free "int") rfl)), (He.free_ok X G (c.a.fact 46 (f := .free "len") rfl)), (He.free_ok X G (c.a.fact 51 (f := .free "abs") rfl))⟩ GT bT kT gT GL bL kL gL, (FunD.bindsN F_g_law_number' fun _ _ _ _ _ _ us hl => match us, hl with | [_], _ => rfl), F_g_law_number.kp, (He.glo_ok X G (c.a.fact 21 (f := .glo "_law_number") rfl))⟩
theorem fact_things (X : K.In h) (G : h.Ns mainGlobals mg) (c : SaysK fa fn fx tf h K) : ∃ (f : Addr) (fd : FuncData), FnOk P w K mg base CX0 3 f fd ["_law_reel_here", "_law_many"] spThs ∧ Binds K fd ["_law_reel_here", "_law_many"] [] ∧ PySem.W.keepIn K (.ref f) = true ∧ mg "_law_things" = some (.ref f) := by
  obtain ⟨fd_g_law_things, F_g_law_things⟩ := c.a.def_ 47 (d := g_law_things) rfl
  have F_g_law_things' : FnP K "_law_things" (top 52) (He.ga K "_law_things") fd_g_law_things := F_g_law_things
  obtain ⟨fT, fdT, GT, bT, kT, gT⟩ := fact_turn (P := P) (w := w) (base := base) X G c
  obtain ⟨fO, fdO, GO, bO, kO, gO⟩ := fact_pick (P := P) (w := w) (base := base) X G c
  exact ⟨_, _, ok_things F_g_law_things' GT bT kT gT GO bO kO gO, (FunD.bindsN F_g_law_things' fun _ _ _ _ _ _ us hl => match us, hl with | [_, _], _ => rfl), F_g_law_things.kp, (He.glo_ok X G (c.a.fact 22 (f := .glo "_law_things") rfl))⟩
theorem fact_text (X : K.In h) (G : h.Ns mainGlobals mg) (c : SaysK fa fn fx tf h K) : ∃ (f : Addr) (fd : FuncData), FnOk P w K mg base CX0 1 f fd ["_law_pair"] (spTx K) ∧ Binds K fd ["_law_pair"] [] ∧ PySem.W.keepIn K (.ref f) = true ∧ mg "_law_text" = some (.ref f) := by
  obtain ⟨fd_g_law_text, F_g_law_text⟩ := c.a.def_ 48 (d := g_law_text) rfl
  have F_g_law_text' : FnP K "_law_text" (top 53) (He.ga K "_law_text") fd_g_law_text := F_g_law_text
  exact ⟨_, _, ok_text F_g_law_text' (He.free_ok X G (c.a.fact 45 (f := .free "str") rfl)), (FunD.bindsN F_g_law_text' fun _ _ _ _ _ _ us hl => match us, hl with | [_], _ => rfl), F_g_law_text.kp, (He.glo_ok X G (c.a.fact 23 (f := .glo "_law_text") rfl))⟩
theorem fact_named (X : K.In h) (G : h.Ns mainGlobals mg) (c : SaysK fa fn fx tf h K) : ∃ (f : Addr) (fd : FuncData), FnOk P w K mg base CX0 1 f fd ["_law_plain"] spNamed ∧ Binds K fd ["_law_plain"] [] ∧ PySem.W.keepIn K (.ref f) = true ∧ mg "_law_named" = some (.ref f) := by
  obtain ⟨fd_g_law_named, F_g_law_named⟩ := c.a.def_ 49 (d := g_law_named) rfl
  have F_g_law_named' : FnP K "_law_named" (top 54) (He.ga K "_law_named") fd_g_law_named := F_g_law_named
  exact ⟨_, _, ok_named F_g_law_named' (He.free_ok X G (c.a.fact 53 (f := .free "sorted") rfl)) (He.free_ok X G (c.a.fact 45 (f := .free "str") rfl)), (FunD.bindsN F_g_law_named' fun _ _ _ _ _ _ us hl => match us, hl with | [_], _ => rfl), F_g_law_named.kp, (He.glo_ok X G (c.a.fact 24 (f := .glo "_law_named") rfl))⟩
theorem fact_told (X : K.In h) (G : h.Ns mainGlobals mg) (c : SaysK fa fn fx tf h K) : ∃ (f : Addr) (fd : FuncData), FnOk P w K mg base CX0 2 f fd ["_law_plain"] spTold ∧ Binds K fd ["_law_plain"] [] ∧ PySem.W.keepIn K (.ref f) = true ∧ mg "_law_told" = some (.ref f) := by
  obtain ⟨fd_g_law_told, F_g_law_told⟩ := c.a.def_ 50 (d := g_law_told) rfl
  have F_g_law_told' : FnP K "_law_told" (top 55) (He.ga K "_law_told") fd_g_law_told := F_g_law_told
  obtain ⟨fN, fdN, GN, bN, kN, gN⟩ := fact_named (P := P) (w := w) (base := base) X G c
  obtain ⟨fX, fdX, GX, bX, kX, gX⟩ := fact_text (P := P) (w := w) (base := base) X G c
  exact ⟨_, _, ok_told F_g_law_told' GN bN kN gN GX bX kX gX, (FunD.bindsN F_g_law_told' fun _ _ _ _ _ _ us hl => match us, hl with | [_], _ => rfl), F_g_law_told.kp, (He.glo_ok X G (c.a.fact 25 (f := .glo "_law_told") rfl))⟩
theorem fact_ratio (X : K.In h) (G : h.Ns mainGlobals mg) (c : SaysK fa fn fx tf h K) : ∃ (f : Addr) (fd : FuncData), FnOk P w K mg base CX0 5 f fd ["_law_reel_here", "_law_pair"] (spRt (cR K)) ∧ Binds K fd ["_law_reel_here", "_law_pair"] [] ∧ PySem.W.keepIn K (.ref f) = true ∧ mg "_law_ratio" = some (.ref f) := by
  obtain ⟨fd_g_law_ratio, F_g_law_ratio⟩ := c.a.def_ 51 (d := g_law_ratio) rfl
  have F_g_law_ratio' : FnP K "_law_ratio" (top 56) (He.ga K "_law_ratio") fd_g_law_ratio := F_g_law_ratio
  obtain ⟨fT, fdT, GT, bT, kT, gT⟩ := fact_turn (P := P) (w := w) (base := base) X G c
  obtain ⟨fO, fdO, GO, bO, kO, gO⟩ := fact_pick (P := P) (w := w) (base := base) X G c
  exact ⟨_, _, ok_ratio F_g_law_ratio' (fact_K (P := P) (w := w) (base := base) X G c) GT bT kT gT GO bO kO gO, (FunD.bindsN F_g_law_ratio' fun _ _ _ _ _ _ us hl => match us, hl with | [_, _], _ => rfl), F_g_law_ratio.kp, (He.glo_ok X G (c.a.fact 26 (f := .glo "_law_ratio") rfl))⟩
theorem fact_isAs (X : K.In h) (G : h.Ns mainGlobals mg) (c : SaysK fa fn fx tf h K) : ∃ (f : Addr) (fd : FuncData), FnOk P w K mg base CX0 10 f fd ["_law_balance", "_law_plain"] (spIsAs (cB K) (cR K)) ∧ Binds K fd ["_law_balance", "_law_plain"] [] ∧ PySem.W.keepIn K (.ref f) = true ∧ mg "_law_is_as" = some (.ref f) := by
  obtain ⟨fd_g_law_is_as, F_g_law_is_as⟩ := c.a.def_ 52 (d := g_law_is_as) rfl
  have F_g_law_is_as' : FnP K "_law_is_as" (top 57) (He.ga K "_law_is_as") fd_g_law_is_as := F_g_law_is_as
  obtain ⟨fN, fdN, GN, bN, kN, gN⟩ := fact_named (P := P) (w := w) (base := base) X G c
  obtain ⟨fT, fdT, GT, bT, kT, gT⟩ := fact_told (P := P) (w := w) (base := base) X G c
  exact ⟨_, _, ok_isAs F_g_law_is_as' (fact_L (P := P) (w := w) (base := base) X G c) GN bN kN gN GT bT kT gT, (FunD.bindsN F_g_law_is_as' fun _ _ _ _ _ _ us hl => match us, hl with | [_, _], _ => rfl), F_g_law_is_as.kp, (He.glo_ok X G (c.a.fact 27 (f := .glo "_law_is_as") rfl))⟩
theorem fact_made (X : K.In h) (G : h.Ns mainGlobals mg) (c : SaysK fa fn fx tf h K) : ∃ (f : Addr) (fd : FuncData), FnOk P w K mg base CX0 10 f fd ["_law_reel_here", "_law_plain"] (spMade (cB K) (cR K)) ∧ Binds K fd ["_law_reel_here", "_law_plain"] [] ∧ PySem.W.keepIn K (.ref f) = true ∧ mg "_law_made" = some (.ref f) := by
  obtain ⟨fd_g_law_made, F_g_law_made⟩ := c.a.def_ 53 (d := g_law_made) rfl
  have F_g_law_made' : FnP K "_law_made" (top 58) (He.ga K "_law_made") fd_g_law_made := F_g_law_made
  obtain ⟨fR, fdR, GR, bR, kR, gR⟩ := fact_ratio (P := P) (w := w) (base := base) X G c
  exact ⟨_, _, ok_made F_g_law_made' (fact_L (P := P) (w := w) (base := base) X G c) GR bR kR gR, (FunD.bindsN F_g_law_made' fun _ _ _ _ _ _ us hl => match us, hl with | [_, _], _ => rfl), F_g_law_made.kp, (He.glo_ok X G (c.a.fact 28 (f := .glo "_law_made") rfl))⟩
theorem fact_sumL (X : K.In h) (G : h.Ns mainGlobals mg) (c : SaysK fa fn fx tf h K) : ∃ (f : Addr) (fd : FuncData), FnOk P w K mg base CX0 4 f fd ["_law_one", "_law_other", "_law_times"] spSumL ∧ Binds K fd ["_law_one", "_law_other", "_law_times"] [] ∧ PySem.W.keepIn K (.ref f) = true ∧ mg "_law_sum" = some (.ref f) := by
  obtain ⟨fd_g_law_sum, F_g_law_sum⟩ := c.a.def_ 54 (d := g_law_sum) rfl
  have F_g_law_sum' : FnP K "_law_sum" (top 59) (He.ga K "_law_sum") fd_g_law_sum := F_g_law_sum
  obtain ⟨fP, fdP, GP, bP, kP, gP⟩ := fact_plus (P := P) (w := w) (base := base) X G c
  obtain ⟨fB, fdB, GB, bB, kB, gB⟩ := fact_by (P := P) (w := w) (base := base) X G c
  exact ⟨_, _, ok_sum F_g_law_sum' (He.free_ok X G (c.a.fact 49 (f := .free "dict") rfl)) (He.free_ok X G (c.a.fact 47 (f := .free "list") rfl)) GP bP kP gP GB bB kB gB, (FunD.bindsN F_g_law_sum' fun _ _ _ _ _ _ us hl => match us, hl with | [_, _, _], _ => rfl), F_g_law_sum.kp, (He.glo_ok X G (c.a.fact 29 (f := .glo "_law_sum") rfl))⟩
theorem fact_leastL (X : K.In h) (G : h.Ns mainGlobals mg) (c : SaysK fa fn fx tf h K) : ∃ (f : Addr) (fd : FuncData), FnOk P w K mg base CX0 2 f fd ["_law_plain"] spLeastL ∧ Binds K fd ["_law_plain"] [] ∧ PySem.W.keepIn K (.ref f) = true ∧ mg "_law_least" = some (.ref f) := by
  obtain ⟨fd_g_law_least, F_g_law_least⟩ := c.a.def_ 55 (d := g_law_least) rfl
  have F_g_law_least' : FnP K "_law_least" (top 60) (He.ga K "_law_least") fd_g_law_least := F_g_law_least
  obtain ⟨fN, fdN, GN, bN, kN, gN⟩ := fact_named (P := P) (w := w) (base := base) X G c
  obtain ⟨fS, fdS, GS, bS, kS, gS⟩ := fact_shared (P := P) (w := w) (base := base) X G c
  exact ⟨_, _, ok_leastL F_g_law_least' (He.free_ok X G (c.a.fact 49 (f := .free "dict") rfl)) GN bN kN gN GS bS kS gS, (FunD.bindsN F_g_law_least' fun _ _ _ _ _ _ us hl => match us, hl with | [_], _ => rfl), F_g_law_least.kp, (He.glo_ok X G (c.a.fact 30 (f := .glo "_law_least") rfl))⟩
theorem fact_right (X : K.In h) (G : h.Ns mainGlobals mg) (c : SaysK fa fn fx tf h K) : ∃ (f : Addr) (fd : FuncData), FnOk P w K mg base CX0 13 f fd ["_law_reel_here", "_law_balance", "_law_plain"] (spLR (cB K) (cR K)) ∧ Binds K fd ["_law_reel_here", "_law_balance", "_law_plain"] [] ∧ PySem.W.keepIn K (.ref f) = true ∧ mg "_law_least_right" = some (.ref f) := by
  obtain ⟨fd_g_law_least_right, F_g_law_least_right⟩ := c.a.def_ 56 (d := g_law_least_right) rfl
  have F_g_law_least_right' : FnP K "_law_least_right" (top 61) (He.ga K "_law_least_right") fd_g_law_least_right := F_g_law_least_right
  obtain ⟨fT, fdT, GT, bT, kT, gT⟩ := fact_turn (P := P) (w := w) (base := base) X G c
  obtain ⟨fL, fdL, GL, bL, kL, gL⟩ := fact_leastL (P := P) (w := w) (base := base) X G c
  obtain ⟨fI, fdI, GI, bI, kI, gI⟩ := fact_isAs (P := P) (w := w) (base := base) X G c
  exact ⟨_, _, ok_leastRight F_g_law_least_right' (fact_W (P := P) (w := w) (base := base) X G c) GT bT kT gT GL bL kL gL GI bI kI gI, (FunD.bindsN F_g_law_least_right' fun _ _ _ _ _ _ us hl => match us, hl with | [_, _, _], _ => rfl), F_g_law_least_right.kp, (He.glo_ok X G (c.a.fact 31 (f := .glo "_law_least_right") rfl))⟩
theorem fact_renL (X : K.In h) (G : h.Ns mainGlobals mg) (c : SaysK fa fn fx tf h K) : ∃ (f : Addr) (fd : FuncData), FnOk P w K mg base CX0 4 f fd ["_law_plain", "_law_names_here"] spRenL ∧ Binds K fd ["_law_plain", "_law_names_here"] [] ∧ PySem.W.keepIn K (.ref f) = true ∧ mg "_law_renamed" = some (.ref f) := by
  obtain ⟨fd_g_law_renamed, F_g_law_renamed⟩ := c.a.def_ 57 (d := g_law_renamed) rfl
  have F_g_law_renamed' : FnP K "_law_renamed" (top 62) (He.ga K "_law_renamed") fd_g_law_renamed := F_g_law_renamed
  obtain ⟨fP, fdP, GP, bP, kP, gP⟩ := fact_plus (P := P) (w := w) (base := base) X G c
  exact ⟨_, _, ok_renL F_g_law_renamed' GP bP kP gP, (FunD.bindsN F_g_law_renamed' fun _ _ _ _ _ _ us hl => match us, hl with | [_, _], _ => rfl), F_g_law_renamed.kp, (He.glo_ok X G (c.a.fact 32 (f := .glo "_law_renamed") rfl))⟩
theorem fact_names (X : K.In h) (G : h.Ns mainGlobals mg) (c : SaysK fa fn fx tf h K) : ∃ (f : Addr) (fd : FuncData), FnOk P w K mg base CX0 3 f fd ["_law_reel_here", "_law_things_here"] spNw ∧ Binds K fd ["_law_reel_here", "_law_things_here"] [] ∧ PySem.W.keepIn K (.ref f) = true ∧ mg "_law_names" = some (.ref f) := by
  obtain ⟨fd_g_law_names, F_g_law_names⟩ := c.a.def_ 58 (d := g_law_names) rfl
  have F_g_law_names' : FnP K "_law_names" (top 63) (He.ga K "_law_names") fd_g_law_names := F_g_law_names
  obtain ⟨fT, fdT, GT, bT, kT, gT⟩ := fact_turn (P := P) (w := w) (base := base) X G c
  obtain ⟨fO, fdO, GO, bO, kO, gO⟩ := fact_pick (P := P) (w := w) (base := base) X G c
  exact ⟨_, _, ok_names F_g_law_names' GT bT kT gT GO bO kO gO, (FunD.bindsN F_g_law_names' fun _ _ _ _ _ _ us hl => match us, hl with | [_, _], _ => rfl), F_g_law_names.kp, (He.glo_ok X G (c.a.fact 33 (f := .glo "_law_names") rfl))⟩
theorem fact_Z (X : K.In h) (G : h.Ns mainGlobals mg) (c : SaysK fa fn fx tf h K) : LawB P w K mg base (cB K) (cR K) (He.ga K "BadRatio") := by
  obtain ⟨fd_b_renamed, F_b_renamed⟩ := c.a.def_ 16 (d := b_renamed) rfl
  have F_b_renamed' : MtP K "renamed" "Balance.renamed" (balM 7) (He.ma K (cB K) "renamed") fd_b_renamed := F_b_renamed
  obtain ⟨fN, fdN, GN, bN, kN, gN⟩ := fact_nmg (P := P) (w := w) (base := base) X G c
  exact ⟨fact_W (P := P) (w := w) (base := base) X G c, (He.free_ok X G (c.a.fact 52 (f := .free "range") rfl)), ⟨_, _, (He.meth_ok (c.a.fact 72 (f := .meth "Balance" "renamed") rfl)), ok_renamed F_b_renamed' (fact_O (P := P) (w := w) (base := base) X G c) (fact_BadBalance (P := P) (w := w) (base := base) X G c) GN bN kN gN, (FunD.bindsKM F_b_renamed' fun _ _ _ _ _ _ _ zs hl => match zs, hl with | [_], _ => rfl)⟩, fact_mean (P := P) (w := w) (base := base) X G c, fact_reel (P := P) (w := w) (base := base) X G c, fact_turn (P := P) (w := w) (base := base) X G c, fact_pick (P := P) (w := w) (base := base) X G c, fact_low (P := P) (w := w) (base := base) X G c, fact_number (P := P) (w := w) (base := base) X G c, fact_things (P := P) (w := w) (base := base) X G c, fact_made (P := P) (w := w) (base := base) X G c, fact_ratio (P := P) (w := w) (base := base) X G c, fact_isAs (P := P) (w := w) (base := base) X G c, fact_sumL (P := P) (w := w) (base := base) X G c, fact_right (P := P) (w := w) (base := base) X G c, fact_renL (P := P) (w := w) (base := base) X G c, fact_names (P := P) (w := w) (base := base) X G c⟩
theorem fact_law {f : Addr} (X : K.In h) (G : h.Ns mainGlobals mg) (hfa : mg ("law" : Str) = some (.ref f)) (c : SaysK fa fn fx tf h K) (hP : P = (PySem.Challenge.rw_scaleborn_k05_balances_added_and_brought).prog) : LawAtS PySem.Challenge.rw_scaleborn_k05_balances_added_and_brought w K CX0 14 63 "_law_script" mg f h := by
  subst hP
  obtain ⟨fd_g_law, F_g_law⟩ := c.a.def_ 59 (d := g_law) rfl
  have F_g_law' : FnP K "law" (top 64) (He.ga K "law") fd_g_law := F_g_law
  have e := hfa.symm.trans (He.glo_ok X G (c.a.fact 34 (f := .glo "law") rfl))
  cases e
  have b := FunD.bindsA (ps := ["_law_script"]) F_g_law' fun _ _ _ _ _ _ us hl => match us, hl with | [_], _ => rfl
  refine ⟨fd_g_law, [], spLaw K, fun p hp => (by cases hp), fun p hp => (by cases hp), fun p hp => (by cases hp), fun s u => b s [u] rfl, fun H a ns hl _ hT hS => ⟨a, ns, rfl, hS, hl, fun _ => rfl⟩, fun base _ _ hTB => ok_law F_g_law' (fact_Z X G c)⟩
end
end K05
open PySem PySem.W PySem.Calls PyProof.Rows
theorem PySem.Challenge.cw_scaleborn_k05_balances_added_and_brought_holds : PySem.Challenge.rw_scaleborn_k05_balances_added_and_brought.Holds := by
  w_on; o_law
  refine HandSHeadRun.head_imp (r := OpenLaw.row PySem.Challenge.rw_scaleborn_k05_balances_added_and_brought) (q := view (OpenLaw.row PySem.Challenge.rw_scaleborn_k05_balances_added_and_brought).prog [0, 64]) (H := K05.hk) (ob := K05.ob) (M := 9000) (loose := K05.loose1 ++ (K05.loose2 ++ K05.loose3)) (d := HandSHeadRun.topDef (OpenLaw.row PySem.Challenge.rw_scaleborn_k05_balances_added_and_brought).prog 64) (kwd := []) K05.ob_eq
    K05.run (by kernel_rfl) (by kernel_rfl) (by kernel_rfl) (by rfl) (by first | assumption | decide +kernel) (by decide +kernel) ⟨rfl, rfl, rfl, rfl, rfl, by decide +kernel⟩ ?hw ?hc
  case hw => w_witness2
  case hc =>
    refine LamX.walk_ofTsE (n := 63) (k := 14) (CX := fun _ => L2.CX0) (x := "_law_script") rfl (by decide) (by kernel_rfl) ⟨rfl, by decide, by decide⟩ (fun w mg fa h Y G hmg0 => ?_) fun _ _ _ _ _ z => z.elim
    obtain ⟨K, KX, c⟩ := Y
    have hmg : mg ("law" : PySem.Str) = some (.ref fa) := by
      have e : (HandSHeadRun.topDef (OpenLaw.row PySem.Challenge.rw_scaleborn_k05_balances_added_and_brought).prog 64).name = ("law" : PySem.Str) := by kernel_rfl
      rw [← e]
      exact hmg0
    exact ⟨K, KX, K05.fact_law KX G hmg c rfl⟩
