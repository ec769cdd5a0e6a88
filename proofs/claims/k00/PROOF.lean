import PyProof.Rows.All
import Wide.All
import OpenK.AllK
import Wide.FinOn
import HandS.Base
import HandS.Call
import HandS.List
import HandS.Exc
import HandS.ExcInit
import HandS.Defaults
import KE.KExcIs
import HandS.IsInst
import HandS.ExcField
import HandS.ForMost
import KE.KEqDict
import PyProof.NeKinds
import HandS.Wide
import HandS.Style
import HandS.TupLe
import PyProof.AutoSeq1
import PyProof.ReprRoads
import PyProof.StrWalks
import KE.KDictList
import HandS.Walk
import KE.KeyNested
import HandS.TupSets
import HandS.Strs
import HandS.SetKeys
import HandS.Steps
import HandS.RaiseMore
import PySem.Challenge.RW_holegates_k00_errors_and_checks
import HandS.Codes
set_option Elab.async false
set_option linter.all false
set_option maxRecDepth 100000
set_option maxHeartbeats 4000000
namespace PySem
namespace KitE
open Builtin Builtin.ObjectAttr PySem.HandSPX
section
variable {M : Model} {A : Around} {E : Value → Shared → Prop} {h : Heap} {g : Array GenState} {d : Drawn} {t : Nat} {os : OsState}
variable {nm q : Str} {C N : Addr} {bs bm bmB : List Value} {hdct : Bool} {sn : List Str} {sub : List Value} {ab : Bool} {col : Option Bool} {dd : Option Addr} {k0 k1 k2 k3 k5 : Option Value} {B newId initId : String}
theorem check_new_kw (F : ExcBaseFacts B newId initId bmB) (hT : ∀ X : String, bm.contains (.type X) = bmB.contains (.type X)) {rest : List Value} {kw : List (Str × Value)} {Q : Unit → Shared → Prop}
    (hC : h.get? C = some (excClassObj nm q C N bs bm hdct sn sub ab col dd k0 k1 k2 k3 k5 newId)) (hq : Q () ⟨h, g, d, t, os⟩) : wpAny M A (checkBuiltinCall newId ⟨.ref C :: rest, kw⟩) Q E ⟨h, g, d, t, os⟩ := by
  have hcont : (Value.ref C :: bm).contains (.type B) = true := by rw [List.contains_cons, hT, F.hasB, Bool.or_true]
  have hstar := F.noStar
  simp only [checkBuiltinCall, F.newKind, F.newSplit, F.newRow]
  repeat (first | refine wpAny_loadPart_at hC ?_ | (refine wpAny_isSubtype_exc hC ?_; rw [hcont]) | refine wpAny_staticBase_exc hC ?_ | refine wpAny_madeBy_exc hC ?_ | simp only [bne_self_eq_false, Bool.false_eq_true, if_false] | wp_step)
  exact hq
end
section
variable {prog : Program} {w : World} {A : Around} {E : Value → Shared → Prop} {R : Result → Shared → Prop} {h : Heap} {g : Array GenState} {d : Drawn} {t : Nat} {os : OsState}
variable {nm q : Str} {C N : Addr} {bs bm bmB : List Value} {hdct : Bool} {sn : List Str} {sub : List Value} {ab : Bool} {col : Option Bool} {dd : Option Addr} {k0 k1 k2 k3 k5 : Option Value} {B newId initId : String}
theorem new_kw (F : ExcBaseFacts B newId initId bmB) (hT : ∀ X : String, bm.contains (.type X) = bmB.contains (.type X)) {rest : List Value} {kw : List (Str × Value)}
    (hC : h.get? C = some (excClassObj nm q C N bs bm hdct sn sub ab col dd k0 k1 k2 k3 k5 newId))
    (hq : R (.ok (.ret (.ref (h.objs.size + 1)))) ⟨(h.push { cls := .type "tuple", data := .seq rest.toArray }).push
      { cls := .ref C, data := .fields #[.ref h.objs.size, .none, .none, .none, .bool false, .none] }, g, d, t, os⟩) (hrest : rest.length ≤ sizeLine) :
    codeAny (model prog w) A (.builtin newId ⟨.ref C :: rest, kw⟩) R ⟨h, g, d, t, os⟩ := by
  have hends := F.ends
  have hcB : (Value.ref C :: bm).contains (.type B) = true := by rw [List.contains_cons, hT, F.hasB, Bool.or_true]
  have hcA : (Value.ref C :: bm).contains (.type "AttributeError") = false := by rw [List.contains_cons, hT, F.noAttr]; rfl
  have hcN : (Value.ref C :: bm).contains (.type "NameError") = false := by rw [List.contains_cons, hT, F.noName]; rfl
  refine codeAny_builtinAt F.entry ?_
  unfold Builtin.«BaseException.__new__»
  refine wpAt_bind ?_
  show wpAt _ _ _ (stack >>= _) _ _ _
  refine wpAt_bind (wpAt_stack fun p below => wpAt_of_wpAny ?_)
  wp_walk
  refine wpAt_of_wpAny ?_
  rw [F.owner]
  repeat (first | with_reducible refine wpAny_madeHere_exc F.canon hC ?_ | with_reducible refine wpAny_loadPart_at hC ?_ | (with_reducible refine wpAny_isSubtype_exc hC ?_; first | rw [hcB] | rw [hcA] | rw [hcN]) | wp_step)
  show R _ _
  rw [Heap.size_push]
  exact hq

theorem type_call_kw (F : ExcBaseFacts B newId initId bmB) (hT : ∀ X : String, bm.contains (.type X) = bmB.contains (.type X)) {rest : List Value} {kw : List (Str × Value)} {fI : Addr} {Q : Fin → Shared → Prop}
    (hC : h.get? C = some (excClassObj nm q C N bs bm hdct sn sub ab col dd k0 k1 k2 k3 k5 newId))
    (hi : W.Looks (model prog w) h (typeLookup (.ref C) "__init__") (some (.ref fI))) (hb : ∀ self, W.Looks (model prog w) h (bindSpecial (.ref fI) self) (.ref fI, [self])) (hrest : rest.length ≤ sizeLine)
    (hq : codeAny (model prog w) A (.call (.ref fI) ⟨.ref (h.objs.size + 1) :: rest, kw⟩)
      (fun r s' => match r with | .ok (.ret v) => v = .none ∧ Q (.done (.ret (.ref (h.objs.size + 1)))) s' | .ok _ => False | .error e => E e s')
      ⟨(h.push (W.kdv_tup rest)).push (excO C h.objs.size), g, d, t, os⟩) :
    wpAny (model prog w) A (Builtin.«type.__call__» ⟨.ref C :: rest, kw⟩) Q E ⟨h, g, d, t, os⟩ := by
  repeat (first | with_reducible refine wpAny_loadPart_at hC ?_ | with_reducible refine wpAny_madeBy_exc hC ?_ | wp_step)
  refine codeAny_call_builtin_code (Code.quiet_builtin _ F.quiet) (check_new_kw F hT hC ?_)
  refine new_kw F hT hC ?_ hrest
  show wpAny _ _ _ _ _ _
  have k : ∀ b o, h.get? b = some o → ((h.push (W.kdv_tup rest)).push (excO C h.objs.size)).get? b = some o := fun b o e => Heap.get?_push_of_some _ (Heap.get?_push_of_some _ e)
  have hC₁ := k _ _ hC
  have hget : ((h.push (W.kdv_tup rest)).push (excO C h.objs.size)).get? (h.objs.size + 1) = some (excO C h.objs.size) := by heap_get
  have hcC : (Value.ref C :: bm).contains (.ref C) = true := by simp
  have i1 := hi.keeps k
  have b1 := (hb (.ref (h.objs.size + 1))).keeps k
  unfold isInstance
  repeat (first | with_reducible refine wpAny_loadPart_at hget ?_ | (with_reducible refine wpAny_isSubtype_exc hC₁ ?_; rw [hcC]) | wp_step)
  show wpAny _ _ (typeLookup (.ref C) _) _ _ _
  refine i1.at ?_
  refine wpAny_holding (wpAny_bind (b1.at ?_))
  refine wpAny_bind (wpAny_call (codeAny_mono hq fun r s' z => ?_))
  rcases r with e | (v | _ | _ | _) <;> first | exact z | exact z.elim | skip
  obtain ⟨rfl, z⟩ := z
  first
    | exact wpAny_pure (wpAny_pure z)
    | (wp_walk; exact z)

theorem call_kw (F : ExcBaseFacts B newId initId bmB) (hT : ∀ X : String, bm.contains (.type X) = bmB.contains (.type X)) {rest : List Value} {kw : List (Str × Value)} {fI : Addr}
    (hC : h.get? C = some (excClassObj nm q C N bs bm hdct sn sub ab col dd k0 k1 k2 k3 k5 newId))
    (hi : W.Looks (model prog w) h (typeLookup (.ref C) "__init__") (some (.ref fI))) (hb : ∀ self, W.Looks (model prog w) h (bindSpecial (.ref fI) self) (.ref fI, [self])) (hrest : rest.length ≤ sizeLine)
    (hq : codeAny (model prog w) (A.under (.builtin "type.__call__" ⟨.ref C :: rest, kw⟩)) (.call (.ref fI) ⟨.ref (h.objs.size + 1) :: rest, kw⟩) (W.InitBack (h.objs.size + 1) R)
      ⟨(h.push (W.kdv_tup rest)).push (excO C h.objs.size), g, d, t, os⟩) :
    codeAny (model prog w) A (.call (.ref C) ⟨rest, kw⟩) R ⟨h, g, d, t, os⟩ := by
  have f1 := tc_lookup
  have f2 := tc_bind (.ref C)
  have hTy : (⟨h, g, d, t, os⟩ : Shared).TypeIs (.ref C) "type" := ⟨_, hC, rfl⟩
  refine codeAny_of_tree ?_
  show wpAny _ _ (callAny (.ref C) _) _ _ _
  repeat (any_goals (first | assumption | with_reducible refine wpAny_loadPart_at hC ?_ | wp_step))
  refine ⟨rfl, ?_⟩
  refine codeAny_call_builtin_at (Code.quiet_builtin _ (by decide +kernel)) entry_typeCall (wpAny_check_type_call_sub hC (type_call_kw F hT hC hi hb hrest ?_))
  refine codeAny_mono hq fun r s' z => ?_
  rcases r with e | (v | _ | _ | _) <;> exact z
end
end KitE
end PySem

namespace L2
open PySem PySem.Spec PyProof.Rows
/-- C(e, ..), an exception class with an __init__ of its own, as a value -/
def tMkV (C : Addr) (sp : Sp) (dvs : List V) (ta : TA) : TE := fun σ H Q => ta σ H fun vs H1 => vs.length ≤ 1000 ∧ ∀ a, H1 a = none → sp (.ref a :: (vs ++ dvs)) (upd H1 a (exo a C none))
  (fun v H2 => v = .non ∧ Q (.ref a) H2) (fun _ _ _ => False)
/-- C(k = e, ..), the same by names alone -/
def tMkVK (C : Addr) (m : Nat) (sp : Sp) (gV : List V → List V → List V) (tk : TA) : TE := fun σ H Q => tk σ H fun zs H1 => zs.length = m ∧ ∀ a, H1 a = none → sp (gV [.ref a] zs) (upd H1 a (exo a C none))
  (fun v H2 => v = .non ∧ Q (.ref a) H2) (fun _ _ _ => False)
section
variable {X : Cx} {o e : Expr} {es : List Expr} {to te : TE} {ta tk : TA} {f : Str} {p p' p1 p2 pos : Pos}
theorem pe_mkV {CX : CXT} {x : Str} {C fI : Addr} {k : Nat} {fd : FuncData} {ps : List Str} {sp : Sp} {ds : List Value} {dvs : List V} (T : OexC X.K C) (iC : PySem.W.findIn X.K (.ref C) "__init__" = some (some (.ref fI))) (tI : PySem.W.typeIn X.K (.ref fI) = some (.type "function"))
    (F1 : FnOk X.prog X.w X.K X.mg X.base CX k fI fd ps sp) (hr : Room (k + 1) X.A) (hb : Binds X.K fd ps ds) (hd : Vals dvs ds) (hx : Passes CX X (fun _ _ _ => False)) (hg : Gl X x) (hm : X.mg x = some (.ref C)) (ha : PA X (e :: es) ta)
    (hdb : (x == ("__debug__" : Str)) = false := by decide) (he : starEach (e :: es) X.env = (false, eval e X.env) :: starEach es X.env := by rfl) (hpl : (backTo pos (starEach es X.env)).any (·.1) = false := by rfl) :
    PE X (.Call (.Name x p) (e :: es) [] pos) (tMkV C sp dvs ta) := by
  refine ⟨fun pins s σ H Q I h => ?_⟩
  obtain ⟨nm, q, N, bs, bm, sn, sub, ab, col, dd, k0, k1, k2, k3, k5, hC, hbm⟩ := T.cls
  refine wpAny_Call_Name_kw (ld_glob I hg hm ?_ hdb)
  refine PySem.W.callWith_K (h₀ := X.base) I.ok.mod.kin T.kC (thn (ha.run pos pins s σ H _ I h) fun us s1 ⟨vs, H1, I1, r1, hz, q1⟩ => ⟨I1.kIn, ?_⟩) he hpl
  show wpAny _ _ (call (.ref C) us) _ _ _
  obtain ⟨hp, g, dr, tk, os⟩ := s1
  have hsz : hp.objs.size ≤ hp.objs.size + 1 := Nat.le_succ _
  have hn : H1 (hp.objs.size + 1) = none := I1.hok.fresh hsz
  have hq := q1 (hp.objs.size + 1) hn
  have kk : ∀ b o, hp.get? b = some o → ((hp.push (PySem.W.kdv_tup us)).push (PySem.HandSPX.excO C hp.objs.size)).get? b = some o := fun b o e => Heap.get?_push_of_some _ (Heap.get?_push_of_some _ e)
  have hget : ((hp.push (PySem.W.kdv_tup us)).push (PySem.HandSPX.excO C hp.objs.size)).get? (hp.objs.size + 1) = some (PySem.HandSPX.excO C hp.objs.size) := by heap_get
  have I2 : Inv X pins σ (upd H1 (hp.objs.size + 1) (exo (hp.objs.size + 1) C none)) ⟨(hp.push (PySem.W.kdv_tup us)).push (PySem.HandSPX.excO C hp.objs.size), g, dr, tk, os⟩ :=
    I1.laid (t' := tk) (a := hp.objs.size + 1) (o := exo (hp.objs.size + 1) C none) (h' := (hp.push (PySem.W.kdv_tup us)).push (PySem.HandSPX.excO C hp.objs.size)) kk hsz (exo_ok hget)
  have r2 : Vals (V.ref (hp.objs.size + 1) :: (vs ++ dvs)) (Value.ref (hp.objs.size + 1) :: (us ++ ds)) := .cons rfl (r1.append hd)
  have hl : (Value.ref (hp.objs.size + 1) :: us ++ ds).length = ps.length := by
    have e := r2.length
    rw [F1.len _ _ _ _ hq] at e
    exact e.symm
  have hus : us.length ≤ sizeLine := by
    rw [← Paired.length r1, sizeLine_eq]
    omega
  refine wpAny_call (PySem.HandSPX.call_own F.excBase_ValueError (fun Y => PySem.HandSPX.refsVE_contains Y bm hbm) (I1.kIn _ _ hC) (PySem.W.looks_findIn I1.kIn iC) (fun self => PySem.W.bind_fn I1.kIn self tI) hus
    (codeAny_mono (F1.run _ X.stack _ _ ⟨Value.ref (hp.objs.size + 1) :: us, []⟩ (Value.ref (hp.objs.size + 1) :: (us ++ ds)) _ _ (fun _ _ _ => False) (hr.make C us []) (I2.env0.make C us []) (hb _ (Value.ref (hp.objs.size + 1) :: us) I2.kIn hl) r2 hq) fun r s' hq' => ?_))
  cases r with
  | error er => exact hx pins σ _ _ er s' I2 hq'
  | ok fl =>
    cases fl with
    | ret u =>
      obtain ⟨v, H2, I3, rv, ev, q2⟩ := I2.after hq'
      subst ev
      exact ⟨rv, ⟨V.ref (hp.objs.size + 1), H2, I3, rfl, q2⟩⟩
    | next => exact False.elim hq'
    | brk => exact False.elim hq'
    | cont => exact False.elim hq'
theorem pe_mkVK {CX : CXT} {x : Str} {C fI : Addr} {k : Nat} {fd : FuncData} {ps ks : List Str} {sp : Sp} {kws : List Keyword} {g : List Value → List Value → List Value} {gV : List V → List V → List V} (T : OexC X.K C) (iC : PySem.W.findIn X.K (.ref C) "__init__" = some (some (.ref fI))) (tI : PySem.W.typeIn X.K (.ref fI) = some (.type "function"))
    (F1 : FnOk X.prog X.w X.K X.mg X.base CX k fI fd ps sp) (hr : Room (k + 1) X.A) (hb : KBn X.K fd ps 1 ks g gV) (hx : Passes CX X (fun _ _ _ => False)) (hg : Gl X x) (hm : X.mg x = some (.ref C)) (hkw : PK X kws tk)
    (hall : (backToKw pos (keywordEach kws X.env)).all (·.1.isSome) = true := by rfl) (hks : (backToKw pos (keywordEach kws X.env)).filterMap (·.1) = ks := by rfl)
    (hdb : (x == ("__debug__" : Str)) = false := by decide)
    (hpl : ((backTo pos (starEach [] X.env)).any (·.1) || (backToKw pos (keywordEach kws X.env)).any (·.1.isNone)) = false := by rfl) :
    PE X (.Call (.Name x p) [] kws pos) (tMkVK C ks.length sp gV tk) := by
  refine ⟨fun pins s σ H Q I h => ?_⟩
  obtain ⟨nm, q, N, bs, bm, sn, sub, ab, col, dd, k0, k1, k2, k3, k5, hC, hbm⟩ := T.cls
  refine wpAny_Call_Name_kw (ld_glob I hg hm ?_ hdb)
  refine PySem.W.callWith_KW0 (h₀ := X.base) I.ok.mod.kin T.kC hall (thn (hkw.run pos pins s σ H _ I h) fun ws s1 ⟨zs, H1, I1, r1, hz, q1⟩ => ⟨I1.kIn, ?_⟩) hpl
  rw [hks]
  show wpAny _ _ (call (.ref C) [] (ks.zip ws)) _ _ _
  obtain ⟨hp, gg, dr, tk, os⟩ := s1
  have hsz : hp.objs.size ≤ hp.objs.size + 1 := Nat.le_succ _
  have hn : H1 (hp.objs.size + 1) = none := I1.hok.fresh hsz
  have hq := q1 (hp.objs.size + 1) hn
  have kk : ∀ b o, hp.get? b = some o → ((hp.push (PySem.W.kdv_tup [])).push (PySem.HandSPX.excO C hp.objs.size)).get? b = some o := fun b o e => Heap.get?_push_of_some _ (Heap.get?_push_of_some _ e)
  have hget : ((hp.push (PySem.W.kdv_tup [])).push (PySem.HandSPX.excO C hp.objs.size)).get? (hp.objs.size + 1) = some (PySem.HandSPX.excO C hp.objs.size) := by heap_get
  have I2 : Inv X pins σ (upd H1 (hp.objs.size + 1) (exo (hp.objs.size + 1) C none)) ⟨(hp.push (PySem.W.kdv_tup [])).push (PySem.HandSPX.excO C hp.objs.size), gg, dr, tk, os⟩ :=
    I1.laid (t' := tk) (a := hp.objs.size + 1) (o := exo (hp.objs.size + 1) C none) (h' := (hp.push (PySem.W.kdv_tup [])).push (PySem.HandSPX.excO C hp.objs.size)) kk hsz (exo_ok hget)
  have r0 : Vals [V.ref (hp.objs.size + 1)] [Value.ref (hp.objs.size + 1)] := .cons rfl .nil
  have r2 := hb.rel r0 r1
  have e2 : ws.length = ks.length := r1.length.symm.trans hz
  refine wpAny_call (PySem.KitE.call_kw F.excBase_ValueError (fun Y => PySem.HandSPX.refsVE_contains Y bm hbm) (I1.kIn _ _ hC) (PySem.W.looks_findIn I1.kIn iC) (fun self => PySem.W.bind_fn I1.kIn self tI) (Nat.zero_le _)
    (codeAny_mono (F1.run _ X.stack _ _ ⟨[Value.ref (hp.objs.size + 1)], ks.zip ws⟩ (g [Value.ref (hp.objs.size + 1)] ws) _ _ (fun _ _ _ => False) (hr.make C [] (ks.zip ws)) (I2.env0.make C [] (ks.zip ws)) (hb.to _ [Value.ref (hp.objs.size + 1)] ws I2.kIn rfl e2) r2 hq) fun r s' hq' => ?_))
  cases r with
  | error er => exact hx pins σ _ _ er s' I2 hq'
  | ok fl =>
    cases fl with
    | ret u =>
      obtain ⟨v, H2, I3, rv, ev, q2⟩ := I2.after hq'
      subst ev
      exact ⟨rv, ⟨V.ref (hp.objs.size + 1), H2, I3, rfl, q2⟩⟩
    | next => exact False.elim hq'
    | brk => exact False.elim hq'
    | cont => exact False.elim hq'
/-- an exception as it stands: its class, its fields -/
def ExAt (H : Hp) (a C : Addr) (fs : List (Str × V)) : Prop := ∃ d, H a = some (exo a C (some d)) ∧ H d = some (exd d fs)
/-- what the written part says of a class of exceptions -/
structure ExK (K : PySem.W.Frag) (C : Addr) : Prop where
  xf : XfC K C
  cl : (PySem.W.clsIn K C).isSome = true
  cc : PySem.W.findIn K (.ref C) "__class__" = some (some (.builtin "object.__class__"))
  hn : PySem.W.specialIn K (.builtin "object.__class__") "__get__" = some (some (.builtin "getset_descriptor.__get__"))
  ht : PySem.W.takesIn K (.builtin "object.__class__") = some true
  hm : PySem.W.mroIn K C (.type "object") = some true
/-- e.f of an exception -/
def tExf (K : PySem.W.Frag) (f : Str) (te : TE) : TE := fun σ H Q => te σ H fun x H1 => ∃ a C fs v, x = .ref a ∧ ExAt H1 a C fs ∧ ExK K C ∧ PySem.W.findIn K (.ref C) f = some none ∧ fs.lookup f = some v ∧ Q v H1
theorem ex_inst {pins : List (Addr × Obj)} {σ : St} {H : Hp} {s : Shared} {a C : Addr} {fs : List (Str × V)} (I : Inv X pins σ H s) (h : ExAt H a C fs) : ∃ oe od, PySem.W.InstAt s.heap a oe C (some od) ∧ ∀ name, ∃ o, PySem.W.lookIn name od = some o ∧ RelO (fs.lookup name) o := by
  obtain ⟨d, e1, e2⟩ := h
  obtain ⟨t1, ho⟩ := exo_at I.hok e1
  obtain ⟨mA, hns, rel⟩ := exd_at I.hok e2
  obtain ⟨od, hd, hl⟩ := lookIn_ns hns
  exact ⟨_, od, ⟨ho, rfl, rfl, hd⟩, fun name => ⟨mA name, hl name, rel name⟩⟩
theorem pe_exf (he : PE X e te) (hb : attributeBase e f X.env (eval e X.env) = eval e X.env := by rfl) : PE X (.Attribute e f pos) (tExf X.K f te) := by
  refine ⟨fun pins s σ H Q I h => ?_⟩
  refine attr_of hb (thn (he.run pins s σ H _ I h) fun u s1 hh => ?_)
  obtain ⟨x, H1, I1, rx, a, C, fs, v, ex, hE, T, hno, l, q⟩ := hh
  subst ex
  obtain rfl : u = Value.ref a := rx
  obtain ⟨oe, od, J, hl⟩ := ex_inst I1 hE
  obtain ⟨o, h1, h2⟩ := hl f
  rw [l] at h2
  obtain ⟨u, rfl, ru⟩ := RelO.some_of h2
  exact HandSPX.exc_get I1.kIn J T.xf.ga T.xf.gg T.xf.exC (PySem.W.findObj_own T.xf.hdC hno rfl h1) (handed_of ru) ⟨v, H1, I1.tok _, ru, q⟩
/-- isinstance(e, c), e an exception -/
def rIsX (K : PySem.W.Frag) : List V → Hp → VK → Prop := fun xs H Q => ∃ (a C : Addr) (fs : List (Str × V)) (c : V) (u : Value) (b : Bool), xs = [.ref a, c] ∧ ExAt H a C fs ∧ ExK K C ∧ ClsV c u ∧ PySem.W.kitOne K (.ref C) u = some b ∧ Q (.bl b) H
def rIsXT (K : PySem.W.Frag) : List V → Hp → VK → Prop := fun xs H Q => ∃ (a C tp : Addr) (fs : List (Str × V)) (cs : List V) (us : List Value) (b : Bool), xs = [.ref a, .ref tp] ∧ H tp = some (.tup cs) ∧ Paired ClsV cs us ∧ ExAt H a C fs ∧ ExK K C ∧ PySem.W.kitAny K (.ref C) us = some b ∧ Q (.bl b) H
theorem ex_kit {pins : List (Addr × Obj)} {σ : St} {H : Hp} {s : Shared} {a C : Addr} {fs : List (Str × V)} (I : Inv X pins σ H s) (h : ExAt H a C fs) (T : ExK X.K C) : ∃ P : Heap → Prop, PySem.W.KitX X.K (.ref a) (.ref C) P ∧ P s.heap := by
  obtain ⟨oe, od, J, _⟩ := ex_inst I h
  exact ⟨_, PySem.W.kitx_exc T.cl T.xf.ga T.xf.gg T.xf.exC T.cc T.hn T.ht T.hm, J⟩
theorem call_isX : CallR X (.builtin "isinstance") (rIsX X.K) := by
  intro pins s σ H xs us Q I r h
  obtain ⟨a, C, fs, c, u, b, rfl, hE, T, k, e, q⟩ := h
  obtain ⟨u1, u2, rfl, r1, r2⟩ := vals2 r
  have e2 := k.eq r2
  subst e2
  cases (show u1 = Value.ref a from r1)
  obtain ⟨P, Z, p⟩ := ex_kit I hE T
  exact PySem.W.kia_one Z I.kIn p e (fun z => nomatch z) fun tk => ⟨.bl b, H, I.tok tk, rfl, q⟩
theorem call_isXT : CallR X (.builtin "isinstance") (rIsXT X.K) := by
  intro pins s σ H xs us Q I r h
  obtain ⟨a, C, tp, fs, cs, ws, b, rfl, hT, k, hE, T, e, q⟩ := h
  obtain ⟨u1, u2, rfl, r1, r2⟩ := vals2 r
  cases (show u2 = Value.ref tp from r2)
  cases (show u1 = Value.ref a from r1)
  obtain ⟨P, Z, p⟩ := ex_kit I hE T
  obtain ⟨_, its, rv, o, h1, h2, n, h3⟩ := (show ObjOk X.prog X.w H s.heap tp (.tup cs) from I.hok tp _ hT)
  have e3 := ClsV.all k rv
  subst e3
  obtain ⟨oc, od, dt, sl⟩ := o
  simp only at h2 h3
  subst h2 h3
  exact PySem.W.kia_tup Z I.kIn p h1 e (fun z => nomatch z) fun tk => ⟨.bl b, H, I.tok tk, rfl, q⟩
end
end L2
namespace L2
open PySem PySem.Spec PyProof.Rows
/-- a value that is equal to itself by being itself -/
def selfV : V → Bool
  | .flt _ => false
  | .ty _ => false
  | .byt _ => false
  | _ => true
theorem eqAt_self {A : Around} {s : Shared} {x : V} {u v : Value} (f : selfV x = true) (ru : RelV x u) (rv : RelV x v) : SeqAt.EqAt A s u v true := by
  cases x with
  | non => cases (show u = Value.none from ru); cases (show v = Value.none from rv); exact SeqAt.EqAt.same _
  | bl b => cases (show u = Value.bool b from ru); cases (show v = Value.bool b from rv); exact SeqAt.EqAt.same _
  | int i =>
    obtain ⟨t, rfl⟩ := ru
    obtain ⟨t', rfl⟩ := rv
    have h := SeqAt.EqAt.int_int (A := A) (s := s) i t i t'
    rw [beq_self_eq_true] at h
    exact h
  | str z =>
    obtain ⟨t, rfl⟩ := ru
    obtain ⟨t', rfl⟩ := rv
    have h := SeqAt.EqAt.str_str (A := A) (s := s) z t z t'
    rw [beq_self_eq_true] at h
    exact h
  | ref a => cases (show u = Value.ref a from ru); cases (show v = Value.ref a from rv); exact SeqAt.EqAt.same _
  | byt b => cases f
  | flt b => cases f
  | ty n => cases f
theorem all_range_true (n : Nat) : (List.range n).all (fun _ => true) = true := by simp
section
variable {X : Cx} {pins : List (Addr × Obj)} {σ : St} {H : Hp} {s : Shared}
theorem eqAt_items {A : Around} {s : Shared} {xs : List V} {us vs : List Value} (f : xs.all selfV = true) (ru : Vals xs us) (rv : Vals xs vs) :
    us.toArray.size = vs.toArray.size ∧ ∀ j (h1 : j < us.toArray.size) (h2 : j < vs.toArray.size), SeqAt.EqAt A s us.toArray[j] vs.toArray[j] true := by
  refine ⟨?_, fun j h1 h2 => ?_⟩
  · show us.length = vs.length
    rw [← ru.length, ← rv.length]
  · have l1 : j < us.length := h1
    have l0 : j < xs.length := by rw [ru.length]; exact l1
    obtain ⟨u, e1, r1⟩ := ru.get (List.getElem?_eq_getElem l0)
    obtain ⟨v, e2, r2⟩ := rv.get (List.getElem?_eq_getElem l0)
    have q1 : us.toArray[j] = u := by
      have := List.getElem?_eq_getElem l1
      rw [this] at e1
      exact Option.some.inj e1
    have l2 : j < vs.length := h2
    have q2 : vs.toArray[j] = v := by
      have := List.getElem?_eq_getElem l2
      rw [this] at e2
      exact Option.some.inj e2
    rw [q1, q2]
    exact eqAt_self (List.all_eq_true.mp f _ (List.getElem_mem l0)) r1 r2
/-- two lists of the same values (by identity) -/
def rSameL (K : PySem.W.Frag) (b : Bool) : R2 := fun x y H Q => ∃ p q xs, x = .ref p ∧ y = .ref q ∧ SqL K H p xs ∧ SqL K H q xs ∧ xs.all selfV = true ∧ Q (.bl b) H
theorem op_eqSame (hu : X.A.units < cLine) : OpR X (compareOp .Eq) (rSameL X.K true) := by
  intro pins s σ H x y v u Q I rx ry h
  obtain ⟨p, q, xs, rfl, rfl, h1, h2, f, hq⟩ := h
  cases (show v = Value.ref p from rx)
  cases (show u = Value.ref q from ry)
  obtain ⟨us, r1, L1, _⟩ := I.list h1
  obtain ⟨vs, r2, L2, _⟩ := I.list h2
  obtain ⟨hsz, he⟩ := eqAt_items (A := X.A.in1) (s := s) f r1 r2
  refine SeqAt.eq_listAt (e := fun _ => true) L1.isList L2.isList hsz hu he ?_
  rw [all_range_true]
  exact ⟨.bl _, H, I, rfl, hq⟩
theorem op_neSame (hu : X.A.units < cLine) : OpR X (compareOp .NotEq) (rSameL X.K false) := by
  intro pins s σ H x y v u Q I rx ry h
  obtain ⟨p, q, xs, rfl, rfl, h1, h2, f, hq⟩ := h
  cases (show v = Value.ref p from rx)
  cases (show u = Value.ref q from ry)
  obtain ⟨us, r1, L1, _⟩ := I.list h1
  obtain ⟨vs, r2, L2, _⟩ := I.list h2
  obtain ⟨hsz, he⟩ := eqAt_items (A := X.A.in1) (s := s) f r1 r2
  refine PySem.W.cmp_ofNotEq (SeqAt.RcNeAt.lists (e := fun _ => true) L1.isList L2.isList hsz hu he _ _ _ _ ?_)
  rw [all_range_true]
  exact ⟨.bl _, H, I, rfl, hq⟩
/-- what is equal to itself, as != asks -/
def SelfOk (K : PySem.W.Frag) (H : Hp) (x : V) : Prop := x = .non ∨ (∃ b, x = .bl b) ∨ (∃ i, x = .int i) ∨ (∃ z, x = .str z) ∨ ∃ p, x = .ref p ∧ ((∃ xs, SqL K H p xs) ∨ (∃ xs, SqT K H p xs) ∨ H p = some (.dK []))
def rNeSelf (K : PySem.W.Frag) : R2 := fun x y H Q => x = y ∧ SelfOk K H x ∧ Q (.bl false) H
theorem range_same (n : Nat) : (!((List.range (min n n)).all (fun _ => true) && n == n)) = false := by simp
theorem op_neSelf (hu : X.A.units < cLine) : OpR X (compareOp .NotEq) (rNeSelf X.K) := by
  intro pins s σ H x y v u Q I rx ry h
  obtain ⟨rfl, hs, hq⟩ := h
  rcases hs with rfl | ⟨b, rfl⟩ | ⟨i, rfl⟩ | ⟨z, rfl⟩ | ⟨p, rfl, hp⟩
  · exact op_ne pins s σ H _ _ v u Q I rx ry ⟨rfl, by simpa using hq⟩
  · exact op_ne pins s σ H _ _ v u Q I rx ry ⟨rfl, by simpa using hq⟩
  · exact op_ne pins s σ H _ _ v u Q I rx ry ⟨rfl, by simpa using hq⟩
  · exact op_ne pins s σ H _ _ v u Q I rx ry ⟨rfl, by simpa using hq⟩
  · cases (show v = Value.ref p from rx)
    cases (show u = Value.ref p from ry)
    rcases hp with ⟨xs, h1⟩ | ⟨xs, h1⟩ | h1
    · obtain ⟨us, r1, L1, _⟩ := I.list h1
      refine PySem.W.cmp_ofNotEq (SeqAt.RcNeAt.lists (e := fun _ => true) L1.isList L1.isList rfl hu (fun j _ _ => SeqAt.EqAt.same _) _ _ _ _ ?_)
      rw [all_range_true]
      exact ⟨.bl _, H, I, rfl, hq⟩
    · obtain ⟨us, r1, L1, _⟩ := I.tuple h1
      refine PySem.W.cmp_ofNotEq (SeqAt.RcNeAt.tuples (e := fun _ => true) L1 L1 hu (fun j _ _ => SeqAt.EqAt.same _) _ _ _ _ ?_)
      rw [range_same]
      exact ⟨.bl _, H, I, rfl, hq⟩
    · obtain ⟨_, hm, vs, kv, D⟩ := (show ObjOk X.prog X.w H s.heap p (.dK []) from I.hok p _ h1)
      cases kv
      refine PySem.W.keq_ne hm hm D D hu (fun _ => PySem.W.KeqHits.nil) ?_
      exact ⟨.bl _, H, I, rfl, hq⟩
end
end L2
namespace Kit
open PySem PySem.Spec PyProof.Rows L2
/-- built-in names that the module does not bind -/
structure NB (mg : Str → Option Value) : Prop where
  z_len : mg "len" = none
  z_int : mg "int" = none
  z_str : mg "str" = none
  z_bool : mg "bool" = none
  z_list : mg "list" = none
  z_tuple : mg "tuple" = none
  z_set : mg "set" = none
  z_range : mg "range" = none
  z_abs : mg "abs" = none
  z_all : mg "all" = none
  z_repr : mg "repr" = none
  z_enumerate : mg "enumerate" = none
  z_isinstance : mg "isinstance" = none
  z_ValueError : mg "ValueError" = none
  z_LookupError : mg "LookupError" = none
  z_TypeError : mg "TypeError" = none
  z_ArithmeticError : mg "ArithmeticError" = none
  z_AttributeError : mg "AttributeError" = none
  z_RuntimeError : mg "RuntimeError" = none
/-- a def of the module as its callers need it -/
structure Dn (P : Program) (w : World) (K : PySem.W.Frag) (mg : Str → Option Value) (base : Heap) (x : Str) (k : Nat) (ps : List Str) (sp : Sp) : Prop where
  ex : ∃ (f : Addr) (fd : FuncData), FnOk P w K mg base CX0 k f fd ps sp ∧ mg x = some (.ref f) ∧ PySem.W.keepIn K (.ref f) = true ∧ Binds K fd ps []
section
variable {X : Cx} {k : Nat} {ps : List Str} {sp : Sp} {x : Str} {p pos : Pos} {e : Expr} {es : List Expr} {t tk : TA} {kws : List Keyword} {ks : List Str}
theorem pe_fn (D : Dn X.prog X.w X.K X.mg X.base x k ps sp) (hr : Room k X.A) (hg : Gl X x) (ha : PA X (e :: es) t)
    (hdb : (x == ("__debug__" : Str)) = false := by decide) (he : starEach (e :: es) X.env = (false, eval e X.env) :: starEach es X.env := by rfl) (hpl : (backTo pos (starEach es X.env)).any (·.1) = false := by rfl) :
    PE X (.Call (.Name x p) (e :: es) [] pos) (tCall sp [] E0 t) := by
  obtain ⟨f, fd, F, hm, hk, hb⟩ := D.ex
  exact pe_call F hr hg hm hk hb .nil pass0 ha hdb he hpl
/-- a call by names alone -/
theorem pe_callN0 {CX : CXT} {f : Addr} {fd : FuncData} {E : XK} {g : List Value → List Value → List Value} {gV : List V → List V → List V} (F : FnOk X.prog X.w X.K X.mg X.base CX k f fd ps sp) (hr : Room k X.A) (hg : Gl X x) (hm : X.mg x = some (.ref f)) (hk : PySem.W.keepIn X.K (.ref f) = true) (hb : KBn X.K fd ps 0 ks g gV) (hx : Passes CX X E)
    (hkw : PK X kws tk) (hall : (backToKw pos (keywordEach kws X.env)).all (·.1.isSome) = true := by rfl) (hks : (backToKw pos (keywordEach kws X.env)).filterMap (·.1) = ks := by rfl)
    (hdb : (x == ("__debug__" : Str)) = false := by decide)
    (hpl : ((backTo pos (starEach [] X.env)).any (·.1) || (backToKw pos (keywordEach kws X.env)).any (·.1.isNone)) = false := by rfl) :
    PE X (.Call (.Name x p) [] kws pos) (tCallN 0 ks.length sp gV E tNil tk) := by
  refine ⟨fun pins s σ H Q I h => wpAny_Call_Name_kw (ld_glob I hg hm ?_ hdb)⟩
  refine PySem.W.callWith_KW0 (h₀ := X.base) I.ok.mod.kin hk hall (thn (hkw.run pos pins s σ H _ I h) fun ws s2 ⟨zs, H2, I2, rz, l1, l2, q2⟩ => ⟨I2.kIn, ?_⟩) hpl
  rw [hks]
  exact run_fnN F hr hb hx I2 .nil rz rfl l2 q2
end
end Kit
namespace L2
open PySem PySem.Spec PyProof.Rows
/-- how a def without defaults binds positional values and names -/
theorem Fun.kbn {K : PySem.W.Frag} {x qual : Str} {st : Stmt} {f : Addr} {fd : FuncData} {ps : List Str} (F : Fun K x qual st f fd) (n : Nat) (ks : List Str) (g : {α : Type} → List α → List α → List α)
    (hrel : ∀ {vs : List V} {us : List Value} {zs : List V} {ws : List Value}, Vals vs us → Vals zs ws → Vals (g vs zs) (g us ws))
    (h : ∀ (kV doc pm : Value) (an : Option Addr) (cdv ct : Value) (us ws : List Value), us.length = n → ws.length = ks.length →
      bindArgs (PySem.W.fnOf x qual (defArgs st) (defBody st) (defScope st) .none kV doc pm an cdv ct) ⟨us, ks.zip ws⟩ = pure (ps.zip (g us ws))) : KBn K fd ps n ks (fun us ws => g us ws) (fun vs zs => g vs zs) := by
  obtain ⟨oc, od, kV, doc, pm, an, cdv, ct, osl, rfl, lk, hcd⟩ := F.ex
  exact ⟨fun s us ws _ e1 e2 => BindsTo.of_eq (h kV doc pm an cdv ct us ws e1 e2), fun r q => hrel r q⟩
section
variable {X : Cx}
/-- list.extend of a tuple -/
def rExtT (K : PySem.W.Frag) : V → List V → Hp → VK → Prop := fun x vs H Q => ∃ l b xs zs, x = .ref l ∧ vs = [.ref b] ∧ H l = some (.lst xs) ∧ SqT K H b zs ∧ xs.length + zs.length ≤ sizeLine ∧ Q .non (upd H l (.lst (xs ++ zs)))
open PySem.AutoSeq1 in
theorem extend_tup (l : Addr) (items : Array Value) (n : Nat) (b : Addr) (dd : Option Addr) (sl : Array (Option Value)) (items2 : Array Value) (n2 : Nat) (hs0 : ¬(!items.isEmpty && Builtin.List.listTooLong (items.size + items2.size)) = true) (hs1 : items.size ≤ sizeLine) (hs2 : items.size + items2.size ≤ sizeLine + 1) :
    Meets (Builtin.«list.extend» ⟨[.ref l, .ref b], []⟩) (fun _ R s => s.heap.get? l = some { cls := .type "list", data := .seq items n } ∧ s.heap.get? b = some { cls := .type "tuple", dict := dd, data := .seq items2 n2, slots := sl } ∧
      R (.ok (.ret Value.none)) { s with heap := s.heap.update l (Obj.mapSeq fun x => x ++ items2) }) :=
  .of_wp fun prog w A R s h => by
    obtain ⟨hp, g, d, tk, os⟩ := s
    obtain ⟨hl, hb, h⟩ := h
    have f1 := idx_int
    have f2 := PySem.AutoSeq1.sub_tuple_tuple
    have f3 := PySem.AutoSeq1.sub_list_list
    have f4 := PySem.AutoSeq1.sub_tuple_list
    have f5 := PySem.AutoSeq1.sub_list_tuple
    have hz' : (items ++ items2).size ≤ sizeLine + 1 := by rw [Array.size_append]; exact hs2
    wp_walk using (wpAny_updateSeq hl rfl (hz := hs1) (_hz' := hz')), wpAny_loadPart' hl, wpAny_loadPart' hb
    exact ⟨_, rfl, h⟩
theorem mt_extendT : MtM X "list.extend" (rExtT X.K) := by
  intro pins s σ H x vs v us Q I rx rv h
  obtain ⟨l, b, xs, zs, rfl, rfl, hH, hB, hz, q⟩ := h
  cases rx
  obtain ⟨u, rfl, ru⟩ := rv.one
  cases ru
  obtain ⟨z, its, n, r, hl, e⟩ := I.lstM hH
  obtain ⟨its2, r2, ⟨⟨cls, dd, data, sl⟩, ho, hc, n2, hd⟩, hs⟩ := I.tuple hB
  simp only at hc hd
  subst hc hd
  have l2 := r2.length
  have hsz : its.toArray.size + its2.toArray.size ≤ sizeLine := by rw [List.size_toArray, List.size_toArray]; omega
  refine call_meets F.slot_list_extend ⟨_, e, rfl⟩ F.entry_list_extend (F.args_list_extend_2 _ _)
    (extend_tup l its.toArray n b dd sl its2.toArray n2 (by rw [notLongL hsz, Bool.and_false]; exact Bool.false_ne_true) (by rw [List.size_toArray]; omega) (by omega)) ⟨e, ho, ?_⟩
  refine ⟨.non, _, I.lset (its' := its ++ its2) hH e (by simp) (r.append r2) ?_, rfl, q⟩
  rw [List.length_append]
  omega
/-- text * int -/
def rMulStr : R2 := fun x y H Q => ∃ z k, x = .str z ∧ y = .int k ∧ 2 ≤ k ∧ k ≤ 1000 ∧ 1 ≤ z.length ∧ z.length ≤ 1000 ∧ (⟨(List.replicate k.toNat z.cps).foldl (· ++ ·) #[]⟩ : Str).length ≤ sizeLine ∧ Q (.str ⟨(List.replicate k.toNat z.cps).foldl (· ++ ·) #[]⟩) H
theorem op_mul_str : OpR X (binaryOp .Mult) rMulStr := by
  intro pins s σ H x y v u Q I rx ry h
  obtain ⟨z, k, rfl, rfl, h1, h2, h3, h4, hs, q⟩ := h
  obtain ⟨t, rfl⟩ := rx
  obtain ⟨t', rfl⟩ := ry
  have hz : (z.length : Int) * k ≤ 1000 * 1000 := Int.le_trans (Int.mul_le_mul_of_nonneg_right (by omega : (z.length : Int) ≤ 1000) (by omega)) (by omega)
  have hb : ¬ ((z.length : Int) > (2 ^ 63 - 1) / k) := by
    have e : (z.length : Int) ≤ (2 ^ 63 - 1) / k := (Int.le_ediv_iff_mul_le (by omega)).mpr (by omega)
    omega
  have hl : Builtin.Str.tooLong (z.length * k.toNat) = false := by
    unfold Builtin.Str.tooLong
    have : z.length * k.toNat ≤ 1000 * 1000 := Nat.mul_le_mul h4 (by omega)
    rw [sizeLine_eq]
    exact decide_eq_false (by omega)
  refine PySem.P.mul_str (by rw [decide_eq_false (by omega), decide_eq_false (by omega)]; rfl) (fun _ _ => hb) (fun _ _ => hl) ?_
  rw [if_neg (by omega), if_neg (by
    have e1 : (k == 1) = false := beq_eq_false_iff_ne.mpr (by omega)
    have e2 : (z.length == 0) = false := beq_eq_false_iff_ne.mpr (by omega)
    rw [e1, e2]
    exact Bool.false_ne_true)]
  exact ⟨hs, .str _, H, I.tok _, ⟨_, rfl⟩, q⟩
end
end L2
namespace Kit
open PySem PySem.Spec PyProof.Rows L2
/-! ### a def that asks how it is called: nothing guarded runs around it -/
structure FnOkG (P : Program) (w : World) (K : PySem.W.Frag) (mg : Str → Option Value) (base : Heap) (k : Nat) (f : Addr) (fd : FuncData) (ps : List Str) (sp : Sp) : Prop where
  len : ∀ vs H Q E, sp vs H Q E → vs.length = ps.length
  run : ∀ (A : Around) (outer : List Env) (s : Shared) (H : Hp) (args : Args) (us : List Value) (vs : List V) (Q : VK) (E : XK), A.guards = some [] → Room k A → Env0 P w K mg base A outer s H → BindsTo s fd args (ps.zip us) → Vals vs us → sp vs H Q E →
    codeAny (model P w) A (.call (.ref f) args) (CR CX0 outer P w H s Q E) s
section
variable {P : Program} {w : World} {K : PySem.W.Frag} {mg : Str → Option Value} {base : Heap}
theorem okG {x qual : Str} {st : Stmt} {f : Addr} {fd : FuncData} {N ps : List Str} {k : Nat} {sp : Sp} (F : Fun K x qual st f fd) (S : FnScope N ps (defScope st)) (len : ∀ vs H Q E, sp vs H Q E → vs.length = ps.length)
    (hbody : ∀ (cdv : Value) (A : Around) (outer : List Env) (s : Shared) (H : Hp) (vs : List V) (Q : VK) (E : XK), A.guards = some [] → Room k (A.deeper (envOfC qual (defScope st) s.heap.objs.size f cdv)) → sp vs H Q E →
      ∃ t, PSs (cxOf CX0 P w K mg base N qual (defScope st) f cdv A outer s H E).nox (defBody st) t ∧ t { nx := fun _ H' => Q .non H', rt := Q } (start N vs) H) : FnOkG P w K mg base (k + 1) f fd ps sp := by
  obtain ⟨oc, od, kV, doc, pm, an, cdv, ct, osl, rfl, lk, hcd⟩ := F.ex
  refine ⟨len, fun A outer s H args us vs Q E hG hr e0 hb r hsp => ?_⟩
  have hl := len _ _ _ _ hsp
  have KX : K.In s.heap := e0.mod.kin.keeps fun b o e => (e0.bs b o e).1
  have lim : s.heap.NoLimit := e0.mod.nolimit.keeps fun b o e => (e0.bs b o e).1
  refine codeAny_call_function hr.depth (KX _ _ lk) rfl S.co S.gen rfl (PySem.W.codeRec_of KX hcd) (hb _ _ _ _ ?_)
  refine wpAny_newFunctionEnv_cells S.kind (fun ⟨n, v⟩ hy => ?_) fun env he s1 x => ?_
  · rcases S.par n (List.of_mem_zip hy).1 with q | q
    · exact .inl q
    · exact .inr ⟨q, PySem.W.cellsFrom_some _ _ _ (.inl q)⟩
  · subst he
    refine ⟨lim.keeps x.toInCall.keep, codeAny_func ?_⟩
    obtain ⟨t, ht, hq⟩ := hbody cdv A outer s H vs Q E hG (hr.deeper _) hsp
    refine wpAny_mono (ht.nox.run [] s1 (start N vs) H _ (inv_start S hr.hd e0 hl r x) hq) (fun fl s' hs => ?_) fun e s' hs => hs
    cases fl with
    | ret u =>
      obtain ⟨v, σ', H', J, rv, q⟩ := hs
      exact ⟨v, H', J.os, J.bare, J.base, J.hok, rv, q⟩
    | next =>
      obtain ⟨σ', H', J, q⟩ := hs
      exact ⟨V.non, H', J.os, J.bare, J.base, J.hok, rfl, q⟩
    | brk =>
      obtain ⟨_, _, _, q⟩ := hs
      exact False.elim q
    | cont =>
      obtain ⟨_, _, _, q⟩ := hs
      exact False.elim q
end
/-- such a def as its callers need it -/
structure DnG (P : Program) (w : World) (K : PySem.W.Frag) (mg : Str → Option Value) (base : Heap) (x : Str) (k : Nat) (ps : List Str) (sp : Sp) : Prop where
  ex : ∃ (f : Addr) (fd : FuncData), FnOkG P w K mg base k f fd ps sp ∧ mg x = some (.ref f) ∧ PySem.W.keepIn K (.ref f) = true ∧ Binds K fd ps []
section
variable {X : Cx} {k : Nat} {ps : List Str} {sp : Sp} {x : Str} {p pos : Pos} {e : Expr} {es : List Expr} {t : TA}
theorem pe_fnG (D : DnG X.prog X.w X.K X.mg X.base x k ps sp) (hG : X.A.guards = some []) (hr : Room k X.A) (hg : Gl X x) (ha : PA X (e :: es) t)
    (hdb : (x == ("__debug__" : Str)) = false := by decide) (he : starEach (e :: es) X.env = (false, eval e X.env) :: starEach es X.env := by rfl) (hpl : (backTo pos (starEach es X.env)).any (·.1) = false := by rfl) :
    PE X (.Call (.Name x p) (e :: es) [] pos) (tCall sp [] E0 t) := by
  obtain ⟨f, fd, F, hm, hk, hb⟩ := D.ex
  refine ⟨fun pins s σ H Q I h => wpAny_Call_Name_kw (ld_glob I hg hm ?_ hdb)⟩
  refine PySem.W.callWith_K (h₀ := X.base) I.ok.mod.kin hk (thn (ha.run pos pins s σ H _ I h) fun us s1 ⟨vs, H1, I1, r, q⟩ => ⟨I1.kIn, ?_⟩) he hpl
  have q1 : sp vs H1 Q E0 := by rw [← List.append_nil vs]; exact q
  have hl : (us ++ []).length = ps.length := by rw [List.append_nil, ← r.length]; exact F.len _ _ _ _ q1
  have hB := hb s1 us I1.kIn hl
  rw [List.append_nil] at hB
  refine wpAny_call (codeAny_mono (F.run X.A X.stack s1 H1 ⟨us, []⟩ us vs Q E0 hG hr I1.env0 hB r q1) fun rr s' hq => ?_)
  cases rr with
  | error e => exact False.elim hq
  | ok fl =>
    cases fl with
    | ret u => exact I1.after hq
    | next => exact False.elim hq
    | brk => exact False.elim hq
    | cont => exact False.elim hq
end
end Kit
namespace L2
open PySem PySem.Spec PyProof.Rows
section
variable {X : Cx}
/-- repr(x): None, or data that can be shown -/
def rRepr (K : PySem.W.Frag) : List V → Hp → VK → Prop := fun xs H Q => (xs = [.non] ∧ Q (.str "None") H) ∨ ∃ a d, xs = [.ref a] ∧ Dp K H (.ref a) d ∧ d.showable = true ∧ d.hasDict = false ∧ d.depth ≤ 50 ∧ d.shown.length ≤ sizeLine ∧ Q (.str d.shown) H
theorem call_reprD (hG : X.A.guards = some []) (hu : X.A.units + 64 < cLine) : CallR X (.builtin "repr") (rRepr X.K) := by
  intro pins s σ H xs us Q I r h
  rcases h with ⟨rfl, q⟩ | ⟨a, d, rfl, hd, h1, h2, h3, h4, q⟩
  · cases r with
    | cons r0 r1 =>
      cases r1
      cases (show _ = Value.none from r0)
      exact PySem.P.repr_of_none ⟨.str "None", H, I.tok _, ⟨_, rfl⟩, q⟩
  · cases r with
    | cons r0 r1 =>
      cases r1
      obtain ⟨as, rd⟩ := Dp.reads I d _ _ hd r0
      cases (show _ = Value.ref a from r0)
      exact repr_of_reads' (h₀ := s.heap) rd h1 (fun z => by rw [h2] at z; cases z) hG (by omega) (fun b o e => e) (fun h' u tk k => ⟨.str d.shown, H, I.kept k, ⟨_, rfl⟩, q⟩) h4
end
end L2
namespace Kit
open PySem PySem.Spec PyProof.Rows L2
section
variable {prog : Program} {w : World} {A : Around} {E : Value → Shared → Prop} {s : Shared}
theorem hint_str {x : Str} {t : Tok} {Q : Bool → Shared → Prop} (h : Q false s) : wpAny (model prog w) A (Builtin.List.listLengthHint (.str x t)) Q E s := by
  have hT := typeIs_str s x t
  unfold Builtin.List.listLengthHint
  refine wpAny_bind (wpAny_specialOf hT PySem.F.slot_str_len.lookup ?_)
  generalize hid : ("str.__len__" : String) = id0
  wp_delta
  rw [show splitId id0 = some ("str", "__len__") from by subst hid; decide +kernel]
  subst hid
  refine wpAny_bind (wpAny_isInstance (T := "str") (b := true) hT (by rw [isSubtype_type]; kernel_rfl) ?_)
  refine wpAny_ite_split (fun hab => absurd hab (by decide)) (fun _ => ?_)
  refine wpAny_ite_split (fun _ => ?_) (fun hab => absurd (by decide +kernel) hab)
  refine wpAny_bind (wpAny_typeOf hT ?_)
  exact wpAny_pure h
/-- the extension of a new list by a text's signs -/
theorem extend_str {R : Result → Shared → Prop} {x : Str} {t : Tok} (hh : A.handled = none) (S : Addr) (c₀ : Nat) (hS : s.heap.get? S = some { cls := .type "list", data := .seq #[] c₀ })
    (hR : ∀ h' tk acc' c', (∀ b o, b ≠ S → s.heap.get? b = some o → h'.get? b = some o) → h'.get? S = some { cls := .type "list", dict := none, data := .seq acc' c', slots := #[] } → ItemsOf (SignAt x) acc' x.cps.size → R (.ok (.ret .none)) { s with heap := h', toks := tk }) (hn : x.cps.size ≤ sizeLine) :
    wpAny (model prog w) A.in1 (Builtin.List.listExtendWith (.ref S) (.str x t) .none)
      (fun fin s' => match fin with | .done f => R (.ok f) s' | .again c' => c'.quiet = true ∧ codeAny (model prog w) A c' R s') (fun e s' => R (.error e) s') s := by
  have hSI : S ≠ s.heap.objs.size := Nat.ne_of_lt (Heap.lt_size hS)
  have hSf : S ∉ [s.heap.objs.size] := by simp only [List.mem_cons, List.not_mem_nil, or_false]; exact hSI
  unfold Builtin.List.listExtendWith
  refine wpAny_bind (wpAny_typeOf (T := "str") (typeIs_str s x t) ?_)
  have h1 : (Builtin.List.listSameRef (.ref S) (.str x t) || Value.type "str" == Value.type "list" || Value.type "str" == Value.type "tuple") = false := by
    have e : Builtin.List.listSameRef (.ref S) (.str x t) = false := rfl
    rw [e]
    decide
  simp only [h1, Bool.false_eq_true, if_false]
  refine wpAny_bind (wpAny_pyIter_str fun oI St W st => ?_)
  have key : ∀ (h : Heap) (c₁ tk : Nat), St 0 h → (∀ b o, b ≠ S → s.heap.get? b = some o → h.get? b = some o) →
      h.get? S = some { cls := .type "list", data := .seq #[] c₁ } → codeAny (model prog w) A (.builtin "list.extend.loop" ⟨[.ref S, .ref s.heap.objs.size, .none], []⟩) R { s with heap := h, toks := tk } := by
    intro h c₁ tk hst hk hS₁
    refine codeAny_extend_loopS (W A.in1 hh).toS hn S hSf .none _ 0 _ #[] c₁ rfl (Nat.zero_le _) hst hS₁ (ItemsOf.nil _) fun s' acc' c' hm hS' hacc => ?_
    rw [Moved.eq_with hm]
    refine hR s'.heap s'.toks acc' c' (fun b o hb e => hm.heap b o (fun hmem => ?_) (hk b o hb e)) hS' hacc
    rcases List.mem_cons.mp hmem with e' | hmem
    · exact hb e'
    · exact absurd (Heap.lt_size e) (by rw [List.mem_singleton.mp hmem]; exact Nat.lt_irrefl _)
  have hS₁ := Heap.get?_push_of_some oI hS
  refine wpAny_bind (wpAny_holding (hint_str ?_))
  refine wpAny_ite_split (fun _ => ?_) (fun _ => wpAny_pure ⟨plainId_quiet PySem.F.plain_extend_loop _, key _ c₀ _ st (fun b o _ e => Heap.get?_push_of_some _ e) hS₁⟩)
  refine wpAny_bind (wpAny_rule ?_)
  refine wpAny_bind ?_
  show wpAny _ _ (updateSeq S (·.push .none) >>= fun _ => updateSeq S (·.pop)) _ _ _
  refine wpAny_bind (wpAny_updateSeq hS₁ rfl ?_)
  have hS₂ := Heap.get?_update_self (Obj.mapSeq (·.push Value.none)) hS₁ rfl
  refine wpAny_updateSeq (hz := by seq_fits) hS₂ rfl ?_
  have hS₃ := Heap.get?_update_self (Obj.mapSeq (·.pop)) hS₂ rfl
  refine wpAny_pure ⟨plainId_quiet PySem.F.plain_extend_loop _, key _ _ _ ?_ (fun b o hb e => ?_) hS₃⟩
  · refine (W A.in1 hh).frame 0 _ _ st fun b hb o e => ?_
    have hbS : b ≠ S := fun h => hSf (h ▸ hb)
    exact (Heap.get?_update_other _ _ (Ne.symm hbS)).trans ((Heap.get?_update_other _ _ (Ne.symm hbS)).trans e)
  · exact (Heap.get?_update_other _ _ (Ne.symm hb)).trans ((Heap.get?_update_other _ _ (Ne.symm hb)).trans (Heap.get?_push_of_some _ e))
theorem call_list_text {x : Str} {t : Tok} {Q : Value → Shared → Prop} (hh : A.handled = none) (hn : x.cps.size ≤ sizeLine)
    (hQ : ∀ h' tk acc' c', (∀ b o, s.heap.get? b = some o → h'.get? b = some o) → h'.get? s.heap.objs.size = some { cls := .type "list", dict := none, data := .seq acc' c', slots := #[] } → ItemsOf (SignAt x) acc' x.cps.size → Q (.ref s.heap.objs.size) { s with heap := h', toks := tk }) :
    wpAny (model prog w) A (call (.type "list") [.str x t]) Q E s := by
  refine callType_codes (Q₁ := fun obj s₁ => obj = .ref s.heap.objs.size ∧ s₁ = { s with heap := s.heap.push { cls := .type "list", data := .seq #[] } }) PySem.F.called_list (PySem.F.typeCall_list_1 _) PySem.F.entry_list_init
    (code_list_new _ ⟨rfl, rfl⟩) fun obj s₁ h₁ => ?_
  obtain ⟨rfl, rfl⟩ := h₁
  have hS : (s.heap.push { cls := .type "list", data := .seq #[] }).get? s.heap.objs.size = some { cls := .type "list", data := .seq #[] } := Heap.get?_push_size _ rfl
  refine ⟨⟨_, hS, rfl⟩, PySem.F.args_list_init_2 _ _, ?_⟩
  show wpAny _ _ (do let old ← Builtin.List.listItems (.ref s.heap.objs.size); Builtin.List.listUpdate (.ref s.heap.objs.size) (fun _ => #[]); letGo old.toList.reverse; Builtin.List.listExtendWith (.ref s.heap.objs.size) (.str x t) .none) _ _ _
  refine wpAny_bind ?_
  unfold Builtin.List.listItems
  refine wpAny_bind (wpAny_seqItems hS rfl (wpAny_pure ?_))
  show wpAny _ _ (updateSeq s.heap.objs.size (fun _ => #[]) >>= fun _ => letGo (#[] : Array Value).toList.reverse >>= fun _ => Builtin.List.listExtendWith (.ref s.heap.objs.size) (.str x t) .none) _ _ _
  refine wpAny_bind (wpAny_updateSeq hS rfl ?_)
  have hS₂ := Heap.get?_update_self (Obj.mapSeq (fun _ => (#[] : Array Value))) hS rfl
  refine wpAny_bind (wpAny_letGo ?_)
  refine extend_str (A := A.in1) hh s.heap.objs.size _ hS₂ (fun h' tk acc' c' hk hS' hacc => ?_) hn
  exact ⟨rfl, hQ h' tk acc' c' (fun b o e => by
    have hb : b ≠ s.heap.objs.size := Nat.ne_of_lt (Heap.lt_size e)
    exact hk b o hb ((Heap.get?_update_other _ _ (Ne.symm hb)).trans (Heap.get?_push_of_some _ e))) hS' hacc⟩
end
end Kit
namespace L2
open PySem PySem.Spec PyProof.Rows
theorem vals_signs : ∀ (cs : List Nat) (us : List Value), us.length = cs.length → (∀ (j : Nat) (v : Value), us[j]? = some v → ∃ (c : Nat) (u : Tok), cs[j]? = some c ∧ v = Value.str ⟨#[c]⟩ u) → Vals (cs.map fun c => V.str ⟨#[c]⟩) us
  | [], us, hl, _ => by
    have e : us = [] := List.eq_nil_of_length_eq_zero hl
    rw [e]
    exact .nil
  | c :: cs, [], hl, _ => by cases hl
  | c :: cs, u :: us, hl, h => by
    obtain ⟨c', tk, e1, e2⟩ := h 0 u rfl
    cases e1
    exact .cons ⟨tk, e2⟩ (vals_signs cs us (Nat.succ.inj hl) fun j v e => h (j + 1) v e)
section
variable {X : Cx}
/-- list(text): its signs -/
def rListStr : List V → Hp → VK → Prop := fun xs H Q => ∃ z, xs = [.str z] ∧ z.length ≤ sizeLine ∧ ∀ l, H l = none → Q (.ref l) (upd H l (.lst (z.cps.toList.map fun c => .str ⟨#[c]⟩)))
theorem call_list_str (hc : X.A.handled = none) : CallR X (.type "list") rListStr := by
  intro pins s σ H xs us Q I r h
  obtain ⟨z, rfl, hz, q⟩ := h
  obtain ⟨u, rfl, ⟨t, rfl⟩⟩ := r.one
  refine Kit.call_list_text hc hz fun h' tk acc' c' k hg hi => ?_
  have hv : Vals (z.cps.toList.map fun c => V.str ⟨#[c]⟩) acc'.toList := vals_signs _ _ (by rw [Array.length_toList, Array.length_toList]; exact hi.1) fun j v e => by
    obtain ⟨c, u, e1, e2⟩ := hi.2 j v (by rw [← Array.getElem?_toList]; exact e)
    exact ⟨c, u, by rw [Array.getElem?_toList]; exact e1, e2⟩
  refine ⟨.ref s.heap.objs.size, _, I.laid (t' := tk) (o := .lst (z.cps.toList.map fun c => .str ⟨#[c]⟩)) k (Nat.le_refl _) ?_, rfl, q _ (I.hok.fresh (Nat.le_refl _))⟩
  refine ⟨?_, acc'.toList, c', hv, by rw [Array.toArray_toList]; exact hg⟩
  rw [List.length_map, Array.length_toList]
  exact hz
end
end L2
namespace Kit
open PySem PySem.Spec PyProof.Rows L2
/-- a def of the module that is called with n values by place and the names ks, in the parameters' order -/
structure DnK (P : Program) (w : World) (K : PySem.W.Frag) (mg : Str → Option Value) (base : Heap) (x : Str) (k : Nat) (ps : List Str) (sp : Sp) (n : Nat) (ks : List Str) : Prop where
  ex : ∃ (f : Addr) (fd : FuncData), FnOk P w K mg base CX0 k f fd ps sp ∧ mg x = some (.ref f) ∧ PySem.W.keepIn K (.ref f) = true ∧ KBn K fd ps n ks (fun us ws => us ++ ws) (fun vs zs => vs ++ zs)
section
variable {X : Cx} {k n : Nat} {ps : List Str} {sp : Sp} {x : Str} {p pos : Pos} {e : Expr} {es : List Expr} {t tk : TA} {kws : List Keyword} {ks : List Str}
theorem pe_fnK0 (D : DnK X.prog X.w X.K X.mg X.base x k ps sp 0 ks) (hr : Room k X.A) (hg : Gl X x) (hkw : PK X kws tk)
    (hall : (backToKw pos (keywordEach kws X.env)).all (·.1.isSome) = true := by rfl) (hks : (backToKw pos (keywordEach kws X.env)).filterMap (·.1) = ks := by rfl)
    (hdb : (x == ("__debug__" : Str)) = false := by decide) (hpl : ((backTo pos (starEach [] X.env)).any (·.1) || (backToKw pos (keywordEach kws X.env)).any (·.1.isNone)) = false := by rfl) :
    PE X (.Call (.Name x p) [] kws pos) (tCallN 0 ks.length sp (fun vs zs => vs ++ zs) E0 tNil tk) := by
  obtain ⟨f, fd, F, hm, hk, hb⟩ := D.ex
  exact pe_callN0 F hr hg hm hk hb pass0 hkw hall hks hdb hpl
theorem pe_fnKp (D : DnK X.prog X.w X.K X.mg X.base x k ps sp n ks) (hr : Room k X.A) (hg : Gl X x) (ha : PA X (e :: es) t) (hkw : PK X kws tk)
    (hall : (backToKw pos (keywordEach kws X.env)).all (·.1.isSome) = true := by rfl) (hks : (backToKw pos (keywordEach kws X.env)).filterMap (·.1) = ks := by rfl)
    (hdb : (x == ("__debug__" : Str)) = false := by decide) (he : starEach (e :: es) X.env = (false, eval e X.env) :: starEach es X.env := by rfl)
    (hpl : ((backTo pos (starEach (e :: es) X.env)).any (·.1) || (backToKw pos (keywordEach kws X.env)).any (·.1.isNone)) = false := by rfl) :
    PE X (.Call (.Name x p) (e :: es) kws pos) (tCallN n ks.length sp (fun vs zs => vs ++ zs) E0 t tk) := by
  obtain ⟨f, fd, F, hm, hk, hb⟩ := D.ex
  exact pe_callN F hr hg hm hk hb pass0 ha hkw hall hks hdb he hpl
end
/-! ### kinds of values -/
inductive Kn where
  | non | bl | int | str | lst | tup | dct
  deriving DecidableEq
def Kn.nm : Kn → String
  | .non => "NoneType"
  | .bl => "bool"
  | .int => "int"
  | .str => "str"
  | .lst => "list"
  | .tup => "tuple"
  | .dct => "dict"
inductive Kd (K : PySem.W.Frag) (H : Hp) : V → Kn → Prop
  | non : Kd K H .non .non
  | bl (b : Bool) : Kd K H (.bl b) .bl
  | int (i : Int) : Kd K H (.int i) .int
  | str (z : Str) : Kd K H (.str z) .str
  | lst {a : Addr} {xs : List V} (h : SqL K H a xs) : Kd K H (.ref a) .lst
  | tup {a : Addr} {xs : List V} (h : SqT K H a xs) : Kd K H (.ref a) .tup
  | dct {a : Addr} {kvs : List (Key × V)} (h : H a = some (.dK kvs)) : Kd K H (.ref a) .dct
theorem Kd.ty {K : PySem.W.Frag} {H : Hp} {x : V} {k : Kn} (h : Kd K H x k) : TyX K H x (.type k.nm) := by
  cases h with
  | non => exact .base .non
  | bl b => exact .base (.bl b)
  | int i => exact .base (.int i)
  | str z => exact .base (.str z)
  | lst h =>
    rcases h with (h | ⟨o, h⟩) | ⟨o, its, n, h, hc, _⟩
    · exact .base (.lst h)
    · exact .base (.frz h)
    · exact .kList h hc
  | tup h =>
    rcases h with (h | ⟨o, h⟩) | ⟨o, its, n, h, hc, _⟩
    · exact .base (.tup h)
    · exact .fTuple h
    · exact .kTuple h hc
  | dct h => exact .base (.dK h)
theorem same_seqT {K : PySem.W.Frag} {H H' : Hp} {a : Addr} {xs : List V} (e : Same H H') (h : SqT K H a xs) : SqT K H' a xs := by
  rcases h with (h | ⟨o, h⟩) | h
  · exact .inl (.inl (e _ _ h))
  · exact .inl (.inr ⟨o, e _ _ h⟩)
  · exact .inr h
theorem Kd.same {K : PySem.W.Frag} {H H' : Hp} {x : V} {k : Kn} (e : Same H H') (h : Kd K H x k) : Kd K H' x k := by
  cases h with
  | non => exact .non
  | bl b => exact .bl b
  | int i => exact .int i
  | str z => exact .str z
  | lst h => exact .lst (e.seq h)
  | tup h => exact .tup (same_seqT e h)
  | dct h => exact .dct (e _ _ h)
theorem same_new {H : Hp} {p : Addr} {o : HO} (h : H p = none) : Same H (upd H p o) := fun b x e => by
  rw [upd_ne (ne_of_none e h)]
  exact e
/-- isinstance(x, T) -/
theorem r_isi {K : PySem.W.Frag} {H : Hp} {x : V} {k : Kn} {T : String} {Q : VK} (b : Bool) (hf : kitB k.nm T = some b) (h : Kd K H x k) (q : Q (.bl b) H) : rIsi K [x, .ty T] H Q :=
  ⟨x, .ty T, _, _, b, rfl, .ty T, h.ty, kit_ty hf, q⟩
theorem kn_int (k : Kn) : kitB k.nm "int" = some (decide (k = .int) || decide (k = .bl)) := by cases k <;> decide +kernel
theorem kn_bool (k : Kn) : kitB k.nm "bool" = some (decide (k = .bl)) := by cases k <;> decide +kernel
theorem kn_str (k : Kn) : kitB k.nm "str" = some (decide (k = .str)) := by cases k <;> decide +kernel
theorem kn_list (k : Kn) : kitB k.nm "list" = some (decide (k = .lst)) := by cases k <;> decide +kernel
theorem kn_tuple (k : Kn) : kitB k.nm "tuple" = some (decide (k = .tup)) := by cases k <;> decide +kernel
/-- isinstance(x, (list, tuple)) -/
theorem r_isiLT {K : PySem.W.Frag} {H : Hp} {x : V} {k : Kn} {p : Addr} {Q : VK} (h : Kd K H x k) (hp : H p = some (.tup [.ty "list", .ty "tuple"])) (q : Q (.bl (decide (k = .lst) || decide (k = .tup))) H) : rIsiT K [x, .ref p] H Q := by
  refine ⟨x, p, [.ty "list", .ty "tuple"], _, [.type "list", .type "tuple"], _, rfl, hp, .cons (.ty _) (.cons (.ty _) .nil), h.ty, ?_, q⟩
  refine kitAny_cons (kit_ty (kn_list k)) (fun e => ?_) (fun e => ?_)
  · refine kitAny_cons (kit_ty (kn_tuple k)) (fun e2 => ?_) (fun e2 => ?_)
    · rw [e, e2]
      exact kitAny_nil
    · rw [e, e2]
      rfl
  · rw [e]
    rfl
/-! ### what is a list or a tuple -/
def Sq (K : PySem.W.Frag) (H : Hp) (a : Addr) (xs : List V) : Prop := SqL K H a xs ∨ SqT K H a xs
theorem sqL_keep {K : PySem.W.Frag} {H H' : Hp} {a : Addr} {xs : List V} (h : SqL K H a xs) (k : ∀ o, H a = some o → H' a = some o) : SqL K H' a xs := by
  rcases h with (h | ⟨o, h⟩) | h
  · exact .inl (.inl (k _ h))
  · exact .inl (.inr ⟨o, k _ h⟩)
  · exact .inr h
theorem sqT_keep {K : PySem.W.Frag} {H H' : Hp} {a : Addr} {xs : List V} (h : SqT K H a xs) (k : ∀ o, H a = some o → H' a = some o) : SqT K H' a xs := by
  rcases h with (h | ⟨o, h⟩) | h
  · exact .inl (.inl (k _ h))
  · exact .inl (.inr ⟨o, k _ h⟩)
  · exact .inr h
theorem Sq.keep {K : PySem.W.Frag} {H H' : Hp} {a : Addr} {xs : List V} (h : Sq K H a xs) (k : ∀ o, H a = some o → H' a = some o) : Sq K H' a xs :=
  h.elim (fun h => .inl (sqL_keep h k)) (fun h => .inr (sqT_keep h k))
theorem Sq.same {K : PySem.W.Frag} {H H' : Hp} {a : Addr} {xs : List V} (h : Sq K H a xs) (e : Same H H') : Sq K H' a xs := h.keep fun o => e a o
/-- walked, be it a list or a tuple: J is its iterator, of which a Walk is known while the object at a stays -/
def iSeq (K : PySem.W.Frag) (tl : TE) : TI := fun σ H R => tl σ H fun x H1 => ∃ a xs H0, x = .ref a ∧ Sq K H0 a xs ∧ (∀ o, H0 a = some o → H1 a = some o) ∧
  ∀ (J : It) (G : Hp → Prop), Walk J xs.length G (YAt xs) → (∀ H', (∀ o, H0 a = some o → H' a = some o) → G H') → R J H1
section
variable {X : Cx} {tg l : Expr} {tl : TE}
theorem pi_seq (hl : PE X l tl) : PI X tg l (iSeq X.K tl) := by
  refine ⟨fun pins s σ H R I h => thn (hl.run pins s σ H _ I h) fun v s1 ⟨x, H1, I1, r1, q1⟩ => ?_⟩
  obtain ⟨a, xs, H0, rfl, hs0, hk0, q⟩ := q1
  cases r1
  have fp : ∀ b ∈ [s1.heap.objs.size], FpOk X pins H1 b := fun b hb => by
    have e : b = s1.heap.objs.size := by simpa using hb
    subst e
    exact I1.fpOk (Nat.le_refl _) (I1.hok.fresh (Nat.le_refl _))
  rcases hs0 with hs0 | hs0
  · obtain ⟨its, rv, p, hz⟩ := I1.list (sqL_keep hs0 hk0)
    exact wpAny_pyIter_list p.isList ⟨s1.heap.objs.size, [s1.heap.objs.size], _, _, H1, rfl, I1.kept (t' := s1.toks) fun b o e => Heap.get?_push_of_some _ e, turn_list a _, ⟨_, Heap.get?_push_size _ rfl, rfl, rfl⟩, fp, q _ _ walk_list fun H' k => sqL_keep hs0 k⟩
  · obtain ⟨its, rv, p, hz⟩ := I1.tuple (sqT_keep hs0 hk0)
    exact wpAny_pyIter_tuple (show s1.heap.IsTuple a its.toArray from p) ⟨s1.heap.objs.size, [s1.heap.objs.size], _, _, H1, rfl, I1.kept (t' := s1.toks) fun b o e => Heap.get?_push_of_some _ e, turn_tuple a _, ⟨_, Heap.get?_push_size _ rfl, rfl, rfl⟩, fp, q _ _ walk_tup fun H' k => sqT_keep hs0 k⟩
end
theorem Kd.of_sq {K : PySem.W.Frag} {H : Hp} {a : Addr} {xs : List V} (h : Sq K H a xs) : ∃ k, Kd K H (.ref a) k ∧ (decide (k = .lst) || decide (k = .tup)) = true := by
  rcases h with h | h
  · exact ⟨.lst, .lst h, rfl⟩
  · exact ⟨.tup, .tup h, rfl⟩
end Kit
/-! Sets whose members are tuples of whole numbers, texts, None and such tuples. -/
namespace Kit
open PySem PySem.Spec PyProof.Rows L2
abbrev NK := NestedKey
/-- the tuple at a is the key k -/
abbrev IsN (h : Heap) (k : NK) (a : Addr) : Prop := NestedIs h k (.ref a) ∧ k.depth ≤ 8
def nrows (w : World) (L : List (Addr × NK)) : List (Int × Value) := L.map fun p => (p.2.hash w, Value.ref p.1)
theorem nrows_len (w : World) (L : List (Addr × NK)) : (nrows w L).length = L.length := List.length_map _
/-- the set at a, its members with their tuples -/
structure NSet (w : World) (h : Heap) (a : Addr) (L : List (Addr × NK)) (es : Array (Int × Value)) (ep : Nat) (t : SetTable) : Prop where
  ob : ∃ o, h.get? a = some o ∧ o.ExactSet ∧ o.data = .set es ep t
  rows : es.toList = nrows w L
  tab : TabOk t (L.map fun p => p.2.hash w)
  nd : (L.map (·.2)).Nodup
  tup : ∀ p ∈ L, IsN h p.2 p.1
  led : w.params.followText "set-order" = true ∨ t.led = true
  room : L.length * 5 < t.mask * 3
  few : L.length < 64
section
variable {P : Program} {w : World} {A : Around} {E : Value → Shared → Prop} {s : Shared}
/-! ### small questions asked of a key -/
mutual
theorem cls_key : ∀ (k : NK) (v : Value) (n : Nat) (s : Shared), NestedIs s.heap k v → k.depth ≤ n → ∀ (Q : Bool → Shared → Prop), Q false s → wpAny (model P w) A (ofAClassStatement n v) Q E s
  | .none, _, n, s, h, _, Q, q => by
    cases h
    cases n <;> exact wpAny_pure q
  | .num i, v, n, s, h, _, Q, q => by
    cases h <;> cases n <;> exact wpAny_pure q
  | .text x, _, n, s, h, _, Q, q => by
    cases h
    cases n <;> exact wpAny_pure q
  | .tup ks, v, 0, s, h, hd, Q, q => by
    unfold NestedKey.depth at hd
    omega
  | .tup ks, v, n + 1, s, h, hd, Q, q => by
    unfold NestedKey.depth at hd
    cases h with
    | @tup a o vs m _ ho hc hdt hi =>
      have hT : s.TypeIs (.ref a) "tuple" := ⟨o, ho, hc⟩
      unfold ofAClassStatement
      refine wpAny_bind (wpAny_typeOf hT ?_)
      dsimp only
      have e : (("tuple" : String) == "tuple") = true := by decide
      simp only [e, if_true, Bool.not_true, Bool.false_eq_true, if_false]
      try refine wpAny_bind (wpAny_pure ?_)
      try simp only [Bool.not_true, Bool.false_eq_true, if_false]
      show wpAny _ _ (seqItems? (.ref a) >>= _) _ _ s
      refine wpAny_bind (wpAny_seqItems ho hdt ?_)
      dsimp only
      refine wpAny_bind ?_
      show wpAny _ _ (forIn vs _ _) _ _ s
      rw [← Array.forIn_toList]
      refine wpAny_forIn_list _ (fun rest r s' => r.1 = none ∧ s' = s ∧ ∀ u ∈ rest, ∀ (Q : Bool → Shared → Prop), Q false s → wpAny (model P w) A (ofAClassStatement n u) Q E s) _ ?_ ?_ _ _ ⟨rfl, rfl, cls_keys ks vs.toList n s (by simpa using hi) (by omega)⟩
      · rintro u rest r s' ⟨hr, rfl, hall⟩
        refine wpAny_bind (hall u List.mem_cons_self _ ?_)
        simp only [Bool.false_eq_true, if_false]
        exact wpAny_pure ⟨rfl, rfl, fun u' hu' => hall u' (List.mem_cons_of_mem _ hu')⟩
      · rintro ⟨r1, r2⟩ s' ⟨hr, rfl, _⟩
        simp only at hr
        subst hr
        exact wpAny_pure q
theorem cls_keys : ∀ (ks : List NK) (vs : List Value) (n : Nat) (s : Shared), NestedAll s.heap ks vs → NestedKey.depthAll ks ≤ n → ∀ u ∈ vs, ∀ (Q : Bool → Shared → Prop), Q false s → wpAny (model P w) A (ofAClassStatement n u) Q E s
  | [], _, n, s, h, _ => by
    cases h
    intro u hu
    cases hu
  | k :: ks, _, n, s, h, hd => by
    cases h with
    | cons h1 h2 =>
      unfold NestedKey.depthAll at hd
      intro u hu
      rcases List.mem_cons.mp hu with rfl | hu
      · exact cls_key k _ n s h1 (by omega)
      · exact cls_keys ks _ n s h2 (by omega) u hu
end
theorem hby_key : ∀ (n : Nat) (k : NK) (v : Value) (s : Shared), NestedIs s.heap k v → ∀ (Q : Bool → Shared → Prop), (∀ b, Q b s) → wpAny (model P w) A (hashByValue n v) Q E s := by
  intro n
  induction n with
  | zero =>
    intro k v s h Q q
    cases h <;> exact wpAny_pure (q _)
  | succ n ih =>
    intro k v s h Q q
    cases h with
    | none => exact wpAny_pure (q _)
    | bool _ => exact wpAny_pure (q _)
    | int _ _ => exact wpAny_pure (q _)
    | text _ _ => exact wpAny_pure (q _)
    | @tup a o vs m ks ho hc hdt hi =>
      have hT : s.TypeIs (.ref a) "tuple" := ⟨o, ho, hc⟩
      unfold hashByValue
      refine wpAny_bind (wpAny_specialOf hT F.slot_tuple_hash.lookup ?_)
      show wpAny _ _ (seqItems? (.ref a) >>= _) _ _ s
      refine wpAny_bind (wpAny_seqItems ho hdt ?_)
      refine wpAny_bind ?_
      show wpAny _ _ (forIn vs _ _) _ _ s
      rw [← Array.forIn_toList]
      have all : ∀ (ks : List NK) (us : List Value), NestedAll s.heap ks us → ∀ u ∈ us, ∃ k, NestedIs s.heap k u := by
        intro ks
        induction ks with
        | nil => intro us h u hu; cases h; cases hu
        | cons k ks ih2 =>
          intro us h u hu
          cases h with
          | cons h1 h2 =>
            rcases List.mem_cons.mp hu with rfl | hu
            · exact ⟨k, h1⟩
            · exact ih2 _ h2 u hu
      refine wpAny_forIn_list _ (fun rest r s' => s' = s ∧ ∀ u ∈ rest, ∃ k, NestedIs s.heap k u) _ ?_ ?_ _ _ ⟨rfl, all ks _ hi⟩
      · rintro u rest r s' ⟨rfl, hall⟩
        obtain ⟨k, hk⟩ := hall u List.mem_cons_self
        have hr : ∀ u' ∈ rest, ∃ k, NestedIs s'.heap k u' := fun u' hu' => hall u' (List.mem_cons_of_mem _ hu')
        refine wpAny_bind (ih k u s' hk _ fun b => ?_)
        cases b with
        | true =>
          simp only [Bool.not_true, Bool.false_eq_true, if_false]
          exact wpAny_pure ⟨rfl, hr⟩
        | false =>
          simp only [Bool.not_false, if_true]
          exact wpAny_pure (wpAny_pure (q false))
      · rintro ⟨r1, r2⟩ s' ⟨rfl, _⟩
        cases r1 with
        | none => exact wpAny_pure (q _)
        | some b => exact wpAny_pure (q _)
/-- asking for a key among keys shows nothing -/
theorem seen_key {k : NK} {b : Addr} {Q : Bool → Shared → Prop} (hk : IsN s.heap k b) {ys : List Value} (hy : ∀ y ∈ ys, ∃ k' c, y = Value.ref c ∧ IsN s.heap k' c) (h : Q false s) :
    wpAny (model P w) A (searchCouldBeSeen (.ref b) ys) Q E s := by
  unfold searchCouldBeSeen
  refine wpAny_bind ?_
  refine wpAny_forIn_list _ (fun rest r s' => r.1 = none ∧ s' = s ∧ ∀ y ∈ rest, ∃ k' c, y = Value.ref c ∧ IsN s.heap k' c) _ ?_ ?_ _ _ ⟨rfl, rfl, hy⟩
  · rintro v rest r s' ⟨hr, rfl, hall⟩
    obtain ⟨k', c, rfl, hc⟩ := hall v List.mem_cons_self
    have rest' := fun u hu' => hall u (List.mem_cons_of_mem _ hu')
    dsimp only
    by_cases hv : (b == c || (carriedByValue (.ref b) && carriedByValue (.ref c))) = true
    · exact wp_if_pos hv (wpAny_pure ⟨rfl, rfl, rest'⟩)
    · refine wp_if_neg hv ?_
      refine wpAny_bind ((nestedKind P w).quiet hk ?_)
      simp only [Bool.not_true, Bool.false_eq_true, if_false]
      refine wpAny_bind ((nestedKind P w).quiet hc ?_)
      simp only [Bool.not_true, Bool.false_eq_true, if_false]
      refine wpAny_bind (cls_key k _ 8 s' hk.1 hk.2 _ ?_)
      simp only [Bool.false_eq_true, if_false]
      refine wpAny_bind (cls_key k' _ 8 s' hc.1 hc.2 _ ?_)
      simp only [Bool.false_eq_true, if_false]
      exact wpAny_pure ⟨rfl, rfl, rest'⟩
  · rintro ⟨r1, r2⟩ s' ⟨hr, rfl, _⟩
    simp only at hr
    subst hr
    exact wpAny_pure h
/-! ### the search -/
variable {a : Addr} {L : List (Addr × NK)} {es : Array (Int × Value)} {ep : Nat} {t : SetTable}
theorem NSet.size (R : NSet w s.heap a L es ep t) : es.size = L.length := by
  rw [← Array.length_toList, R.rows, nrows_len]
theorem NSet.fits (R : NSet w s.heap a L es ep t) : t.fits es.size = true := by
  have h1 := R.tab.sz
  rw [List.length_map] at h1
  have h2 := R.size
  have h3 := R.room
  unfold SetTable.fits SetTable.fill
  rw [R.tab.dm, Bool.and_eq_true, beq_iff_eq, decide_eq_true_eq]
  show t.place.size = es.size ∧ t.place.size + 0 ≤ t.mask
  omega
theorem NSet.entry (R : NSet w s.heap a L es ep t) {i : Nat} {p : Addr × NK} (h : L[i]? = some p) : es[i]? = some (p.2.hash w, Value.ref p.1) := by
  rw [← Array.getElem?_toList, R.rows, nrows, List.getElem?_map, h] <;> rfl
theorem NSet.gw (R : NSet w s.heap a L es ep t) : ¬ t.gaveWay = true := by
  unfold SetTable.gaveWay
  rw [mask_odd R.tab.mok]
  decide
/-- the probe that stands at the c-th step of a key's way -/
abbrev stepAt (w : World) (t : SetTable) (k : NK) (c : Nat) : SetTable.Probe := nth t.mask (runAt t.mask (SetTable.bits (k.hash w) % (t.mask + 1)) (SetTable.bits (k.hash w))) c
abbrev wayN (w : World) (t : SetTable) (k : NK) (c : Nat) : Nat := way t.mask (k.hash w) c
theorem nth_dummy (m : Nat) : ∀ (n : Nat) (p : SetTable.Probe), p.dummy = none → (nth m p n).dummy = none
  | 0, _, h => h
  | n + 1, p, h => nth_dummy m n (adv m p) (by unfold adv; split <;> exact h)
theorem search_go (ad : Bool) (R : NSet w s.heap a L es ep t) {x : Addr} {k : NK} (hx : IsN s.heap k x) (hu : A.units + 8 < cLine) {K : Nat} (hKf : K < 10 * SetTable.turns t.mask)
    (hK : wayN w t k K ∉ t.place.toList) (hKb : ∀ c, c < K → wayN w t k c ∈ t.place.toList) {Q : SetFound → Shared → Prop}
    (hin : k ∈ L.map (·.2) → ∀ o : Option Nat, (ad = true ∨ o.isSome = true) → Q (.there o) s) (hout : k ∉ L.map (·.2) → Q (.free (wayN w t k K) false) s) :
    ∀ (f c : Nat) (stand : Option SetTable.Probe), stand.getD (t.probeStart (k.hash w)) = stepAt w t k c → c ≤ K → K - c < f →
      (∀ (i : Nat) p, L[i]? = some p → p.2 = k → ∃ c', c ≤ c' ∧ c' < K ∧ t.place.toList[i]? = some (wayN w t k c')) →
      wpAny (model P w) A (setSearchFrom a (.ref x) (k.hash w) ad f stand) Q E s
  | 0, c, stand, _, _, hf, _ => absurd hf (Nat.not_lt_zero _)
  | f + 1, c, stand, hst, hc, hf, hre => by
    obtain ⟨o, ho, hex, hd⟩ := R.ob
    rw [setSearchFrom_succ]
    refine wpAny_bind (wpAny_setState_of ho hd R.fits ?_)
    dsimp only
    refine wp_if_neg R.gw ?_
    try refine wpAny_bind (wpAny_pure ?_)
    have hnd : (stepAt w t k c).dummy = none := nth_dummy _ _ _ rfl
    have sh : ∀ q, nth t.mask (stepAt w t k c) q = stepAt w t k (c + q) := fun q => (nth_add t.mask c _ q).symm
    have e1 : ∀ q, (nth t.mask (stepAt w t k c) q).j = wayN w t k (c + q) := fun q => congrArg SetTable.Probe.j (sh q)
    have spec := go_spec t R.tab.ris R.tab.dm (fun i => (es[i]?.map (·.1)).getD 0) (k.hash w) (10 * SetTable.turns t.mask) (K - c) _ hnd (by omega)
      (fun q hq => by rw [e1]; exact hKb (c + q) (by omega)) (by rw [e1, show c + (K - c) = K by omega]; exact hK)
    have hashAt : ∀ (i : Nat) (p : Addr × NK), L[i]? = some p → (es[i]?.map (·.1)).getD 0 = p.2.hash w := fun i p hp => by rw [R.entry hp] <;> rfl
    rcases spec with ⟨q, i, hq, hi, hh, hno, hpr⟩ | ⟨hno, hpr⟩
    · have hpr' : t.probe (fun i => (es[i]?.map (·.1)).getD 0) (k.hash w) (stand.getD (t.probeStart (k.hash w))) = some (.candidate (wayN w t k (c + q)) i (stepAt w t k (c + (q + 1)))) := by
        rw [hst, ← e1, ← sh]
        exact hpr
      rw [hpr']
      dsimp only
      rw [e1] at hi
      have hil : i < L.length := by
        have h1 : i < t.place.toList.length := (List.getElem?_eq_some_iff.mp hi).1
        have h2 := R.tab.sz
        rw [List.length_map] at h2
        rw [Array.length_toList] at h1
        omega
      have hp : L[i]? = some L[i] := List.getElem?_eq_getElem hil
      generalize L[i] = p at hp
      have hmem : p ∈ L := List.mem_of_getElem? hp
      have hpt := R.tup p hmem
      have rest : wpAny (model P w) A (searchRest a (.ref x) (k.hash w) ad f es t (wayN w t k (c + q)) i (stepAt w t k (c + (q + 1)))) Q E s := by
        unfold searchRest
        rw [R.entry hp]
        dsimp only
        refine wpAny_bind (wpAny_holding ((nestedKind P w).eqBool hu hpt hx ?_))
        refine wpAny_bind (wpAny_setState_of ho hd R.fits ?_)
        dsimp only
        have hsl : t.slot (wayN w t k (c + q)) = .live i := slot_live R.tab.ris hi
        by_cases hkk : p.2 = k
        · have hm := List.mem_map.mpr ⟨p, hmem, hkk⟩
          by_cases had : ad = true
          · refine wp_if_pos (by simp [hkk, had]) ?_
            exact wpAny_pure (hin hm _ (.inl had))
          · refine wp_if_neg (by simp [had]) ?_
            try refine wpAny_bind (wpAny_pure ?_)
            rw [sameMem]
            dsimp only
            simp only [if_true, hsl, R.entry hp]
            refine wpAny_bind (wpAny_isSame_ref_self (wpAny_bind (wpAny_pure ?_)))
            simp only [if_true]
            refine wp_if_pos (by simp [hkk]) ?_
            exact wpAny_pure (hin hm _ (.inr rfl))
        · refine wp_if_neg (by simp [hkk]) ?_
          try refine wpAny_bind (wpAny_pure ?_)
          rw [sameMem]
          dsimp only
          simp only [if_true, hsl, R.entry hp]
          refine wpAny_bind (wpAny_isSame_ref_self (wpAny_bind (wpAny_pure ?_)))
          simp only [if_true]
          refine wp_if_neg (by simp [hkk]) ?_
          refine search_go ad R hx hu hKf hK hKb hin hout f (c + (q + 1)) _ rfl (by omega) (by omega) fun i0 p0 h0 hk0 => ?_
          obtain ⟨c', a1, a2, a3⟩ := hre i0 p0 h0 hk0
          refine ⟨c', ?_, a2, a3⟩
          rcases Nat.lt_trichotomy c' (c + q) with z | z | z
          · exfalso
            refine hno (c' - c) i0 (by omega) (by rw [e1, show c + (c' - c) = c' by omega]; exact a3) ?_
            exact (hashAt i0 p0 h0).trans (congrArg (NestedKey.hash w) hk0)
          · exfalso
            rw [z] at a3
            have s0 := slot_live R.tab.ris a3
            rw [hsl] at s0
            injection s0 with s0
            rw [← s0, hp] at h0
            exact hkk ((congrArg Prod.snd (Option.some.inj h0)).trans hk0)
          · omega
      by_cases hl : t.led = true
      · refine wp_if_neg (by simp [hl]) ?_
        try refine wpAny_bind (wpAny_pure ?_)
        exact rest
      · refine wp_if_pos (by simp [hl]) ?_
        refine wpAny_bind (seen_key hx (fun y hy => ?_) ?_)
        · obtain ⟨e, he, ee⟩ := List.mem_map.mp hy
          have he1 : e ∈ es ∧ e.1 = k.hash w := by simpa using he
          have he2 : e ∈ es.toList := by simpa using he1.1
          rw [R.rows] at he2
          obtain ⟨p2, hp2, e2⟩ := List.mem_map.mp he2
          exact ⟨p2.2, p2.1, by rw [← ee, ← e2], R.tup p2 hp2⟩
        · refine wp_if_neg (by decide) ?_
          try refine wpAny_bind (wpAny_pure ?_)
          exact rest
    · have hpr' : t.probe (fun i => (es[i]?.map (·.1)).getD 0) (k.hash w) (stand.getD (t.probeStart (k.hash w))) = some (.empty (wayN w t k K) none) := by
        have e2 : wayN w t k K = (nth t.mask (stepAt w t k c) (K - c)).j := by rw [e1, show c + (K - c) = K by omega]
        rw [hst, e2]
        exact hpr
      rw [hpr']
      dsimp only
      refine wpAny_pure (hout fun hm => ?_)
      obtain ⟨p0, h0, hk0⟩ := List.mem_map.mp hm
      obtain ⟨i0, hi0, e0⟩ := List.getElem_of_mem h0
      have h00 : L[i0]? = some p0 := by rw [List.getElem?_eq_getElem hi0, e0]
      obtain ⟨c', a1, a2, a3⟩ := hre i0 p0 h00 hk0
      exact hno (c' - c) i0 (by omega) (by rw [e1, show c + (c' - c) = c' by omega]; exact a3) ((hashAt i0 p0 h00).trans (congrArg (NestedKey.hash w) hk0))
theorem search_key (ad : Bool) (R : NSet w s.heap a L es ep t) {x : Addr} {k : NK} (hx : IsN s.heap k x) (hu : A.units + 8 < cLine) {Q : SetFound → Shared → Prop}
    (hin : k ∈ L.map (·.2) → ∀ o : Option Nat, (ad = true ∨ o.isSome = true) → Q (.there o) s)
    (hout : ∀ K, k ∉ L.map (·.2) → wayN w t k K ∉ t.place.toList → (∀ c, c < K → wayN w t k c ∈ t.place.toList) → Q (.free (wayN w t k K) false) s) :
    wpAny (model P w) A (setSearch a (.ref x) (k.hash w) ad) Q E s := by
  have hroom := R.room
  obtain ⟨K, hKf, hK, hKb⟩ := R.tab.first (by rw [List.length_map]; omega) (k.hash w)
  have hbig : K < 100000 := by
    have : 10 * SetTable.turns t.mask ≤ 1420 := by
      unfold SetTable.turns
      rcases R.tab.mok with e | e | e <;> omega
    omega
  unfold setSearch
  refine search_go ad R hx hu hKf hK hKb hin (fun hn => hout K hn hK hKb) 100000 0 none rfl (Nat.zero_le _) (by omega) fun i p hp hk => ?_
  have hi : (L.map fun p => p.2.hash w)[i]? = some (k.hash w) := by rw [List.getElem?_map, hp, ← hk] <;> rfl
  have hil : i < t.place.toList.length := by
    have h1 : i < L.length := (List.getElem?_eq_some_iff.mp hp).1
    have h2 := R.tab.sz
    rw [List.length_map] at h2
    rw [Array.length_toList]
    omega
  have hj := List.getElem?_eq_getElem hil
  obtain ⟨c, hc, e⟩ := R.tab.before hK hi hj
  exact ⟨c, Nat.zero_le _, hc, by rw [hj]; exact congrArg some e.symm⟩
/-! ### a table laid anew, a member put in -/
def nrow (w : World) (p : Addr × NK) : Int × Value := (p.2.hash w, Value.ref p.1)
theorem nrows_eq (w : World) (L : List (Addr × NK)) : nrows w L = L.map (nrow w) := rfl
theorem nrows_at {w : World} {L : List (Addr × NK)} {es : Array (Int × Value)} (hr : es.toList = nrows w L) (i : Nat) : es[i]? = (L[i]?).map (nrow w) := by
  rw [← Array.getElem?_toList, hr, nrows_eq, List.getElem?_map]
theorem order_key (L : List (Addr × NK)) (es : Array (Int × Value)) (order : Array Nat) (hr : es.toList = nrows w L) (hp : order.toList.Perm (List.range L.length)) :
    ∃ L2, (order.filterMap (es[·]?)).toList = nrows w L2 ∧ L2.Perm L ∧ (L2.map fun p => p.2.hash w) = order.toList.map fun i => (es.map (·.1)).getD i 0 := by
  have e0 : (order.filterMap (es[·]?)).toList = order.toList.filterMap fun i => (L[i]?).map (nrow w) := by
    rw [Array.toList_filterMap]
    exact congrArg (fun f => List.filterMap f order.toList) (funext fun i => nrows_at hr i)
  have e1 : ∀ l : List Nat, (l.filterMap fun i => (L[i]?).map (nrow w)) = (l.filterMap fun i => L[i]?).map (nrow w) := fun l => (List.map_filterMap).symm
  have e2 : ∀ l : List Nat, (∀ i ∈ l, i < L.length) → ((l.filterMap fun i => L[i]?).map fun p => p.2.hash w) = l.map fun i => (es.map (·.1)).getD i 0 := by
    intro l
    induction l with
    | nil => intro _; rfl
    | cons i l ih =>
      intro hl
      have hi := hl i List.mem_cons_self
      have e5 : (es.map (·.1))[i]? = some ((L[i]).2.hash w) := by
        rw [Array.getElem?_map, nrows_at hr, List.getElem?_eq_getElem hi] <;> rfl
      have e6 : (es.map (·.1)).getD i 0 = (L[i]).2.hash w := by simp [Array.getD_eq_getD_getElem?, e5]
      rw [List.filterMap_cons_some (List.getElem?_eq_getElem hi), List.map_cons, List.map_cons, ih fun j hj => hl j (List.mem_cons_of_mem _ hj), e6]
  have e3 : ∀ n, n ≤ L.length → (List.range n).filterMap (fun i => L[i]?) = L.take n := by
    intro n
    induction n with
    | zero => intro _; rfl
    | succ n ih =>
      intro hn
      have hlt : n < L.length := hn
      rw [List.range_succ, List.filterMap_append, ih (Nat.le_of_lt hlt), List.take_succ, List.getElem?_eq_getElem hlt, List.filterMap_cons_some (List.getElem?_eq_getElem hlt)] <;> rfl
  refine ⟨order.toList.filterMap fun i => L[i]?, e0.trans (e1 _), ?_, e2 _ fun i hi => List.mem_range.mp (hp.mem_iff.mp hi)⟩
  have h1 := hp.filterMap fun i => L[i]?
  rw [e3 L.length (Nat.le_refl _), List.take_length] at h1
  exact h1
/-- a key's tuple isn't the set -/
theorem isN_but {h h' : Heap} {k : NK} {a b : Addr} {o : Obj} {es : Array (Int × Value)} {ep : Nat} {t : SetTable} (hb : IsN h k b) (ho : h.get? a = some o) (hd : o.data = .set es ep t) (hs : Heap.SameBut a h h') : IsN h' k b :=
  ⟨NestedIs.at (fun c oc vs n hc hdc => by
    have hne : c ≠ a := by
      rintro rfl
      obtain rfl : oc = o := Option.some.inj (hc.symm.trans ho)
      rw [hd] at hdc
      exact nomatch hdc
    exact (hs.2 c hne).trans hc) k _ hb.1, hb.2⟩
theorem relay_key {o : Obj} (ho : s.heap.get? a = some o) (hex : o.ExactSet) (hd : o.data = .set es ep t) (hrows : es.toList = nrows w L) (hsz : t.place.size = es.size) (hdm : t.dummies = #[]) (hfl : es.size ≤ t.mask)
    (nd : (L.map (·.2)).Nodup) (tup : ∀ p ∈ L, IsN s.heap p.2 p.1) (ld : w.params.followText "set-order" = true ∨ t.led = true) (few : L.length < 64) {wanted M : Nat}
    (hw : SetTable.sizeAbove wanted - 1 = M) (hM : MaskOk M) (hw2 : SetTable.sizeAbove wanted ≤ 128) (hn : L.length * 5 < M * 3) {Q : Unit → Shared → Prop}
    (hQ : ∀ h' L' es' ep' t', Heap.SameBut a s.heap h' → NSet w h' a L' es' ep' t' → L'.Perm L → Q () { s with heap := h' }) : wpAny (model P w) A (setRelay a wanted) Q E s := by
  have hsl : es.size = L.length := by rw [← Array.length_toList, hrows, nrows_len]
  have hfits : t.fits es.size = true := by
    unfold SetTable.fits SetTable.fill
    rw [hdm, Bool.and_eq_true, beq_iff_eq, decide_eq_true_eq]
    show t.place.size = es.size ∧ t.place.size + 0 ≤ t.mask
    omega
  obtain ⟨t', order, e, hp, T, em, el, _, _⟩ := relaid_ok t (hs := es.map (·.1)) (wanted := wanted) hw hM (by rw [Array.size_map, hsl]; omega)
  rw [Array.size_map, hsl] at hp
  obtain ⟨L2, r1, r2, r3⟩ := order_key L es order hrows hp
  rw [← r3] at T
  have hs2 : (order.filterMap (es[·]?)).size = es.size := by rw [← Array.length_toList, r1, nrows_len, r2.length_eq, hsl]
  rw [setRelay_eq]
  refine wpAny_bind (wpAny_setState_of ho hd hfits ?_)
  dsimp only
  refine wp_if_neg (by rw [sizeLine_eq]; omega) ?_
  try refine wpAny_bind (wpAny_pure ?_)
  rw [e]
  dsimp only
  refine wpAny_bind (wp_if_neg (by rw [hs2]; simp) ?_)
  try refine wpAny_bind (wpAny_pure ?_)
  refine wpAny_pure ?_
  dsimp only
  refine wpAny_storeSet_of ho hd ?_ (by rw [hs2, hsl, sizeLine_eq]; omega)
  have sb : Heap.SameBut a s.heap (s.heap.update a (Obj.putSet (order.filterMap (es[·]?)) t')) := Heap.SameBut.update ..
  refine hQ _ L2 (order.filterMap (es[·]?)) (ep + 1) t' sb ⟨⟨_, store_at ho hd, ⟨hex.1, hex.2.1, hex.2.2⟩, rfl⟩, r1, T, (r2.map (·.2)).nodup_iff.mpr nd, fun p hpm => isN_but (tup p (r2.mem_iff.mp hpm)) ho hd sb, by rw [el]; exact ld, ?_, by rw [r2.length_eq]; exact few⟩ r2
  rw [r2.length_eq, em]
  exact hn
theorem add_key (R : NSet w s.heap a L es ep t) {x : Addr} {k : NK} (hx : IsN s.heap k x) (hu : A.units + 8 < cLine) (hfew : L.length + 1 < 64) {Q : Bool → Shared → Prop}
    (hQ : ∀ b h' L' es' ep' t', Heap.SameBut a s.heap h' → NSet w h' a L' es' ep' t' → (k ∈ L.map (·.2) → L' = L) → (k ∉ L.map (·.2) → L'.Perm ((x, k) :: L)) → Q b { s with heap := h' }) :
    wpAny (model P w) A (setAddHashed a (.ref x) (k.hash w)) Q E s := by
  obtain ⟨o, ho, hex, hd⟩ := R.ob
  have hsl := R.size
  have hroom := R.room
  unfold setAddHashed
  refine wpAny_holding ?_
  rw [show (100000 : Nat) = 99999 + 1 from rfl, setAddHashedIn_succ]
  refine wpAny_bind (wpAny_setState_of ho hd R.fits ?_)
  dsimp only
  refine wp_if_neg (by simp [byScan, Value.scannable]) ?_
  try refine wpAny_bind (wpAny_pure ?_)
  refine wpAny_bind (search_key true R hx hu (fun hm o' _ => ?_) fun K hm hK hb => ?_)
  · dsimp only
    exact wpAny_pure (hQ false s.heap L es ep t (Heap.SameBut.refl a s.heap) R (fun _ => rfl) fun z => absurd hm z)
  · dsimp only
    refine wpAny_bind (wpAny_setState_of ho hd R.fits ?_)
    dsimp only
    obtain ⟨q1, q2, q3, q4, q5, q6, q7, q8, q9⟩ := R.tab.put hK hb
    generalize hpt : t.put (wayN w t k K) = pt at q1 q3 q4 q5 q6 q7 q8 q9 ⊢
    obtain ⟨t1, p⟩ := pt
    dsimp only at q1 q3 q4 q5 q6 q7 q8 q9 ⊢
    subst q1
    -- whatever is known of the new member's hash: the table but for its mark
    have key : ∀ t2 : SetTable, t2.mask = t1.mask → t2.place = t1.place → t2.dummies = t1.dummies → t2.led = t1.led →
        wpAny (model P w) A (storeSet a (SetTable.insertAt es (SetTable.below t.place (wayN w t k K)) (k.hash w, Value.ref x)) t2 >>= fun _ => if (!false && t2.tooFull) = true then (setRelay a (SetTable.grown (es.size + 1)) >>= fun _ => pure true) else pure true) Q E s := by
      intro t2 m1 m2 m3 m4
      have T2 : TabOk t2 ((L.map fun p => p.2.hash w).take (SetTable.below t.place (wayN w t k K)) ++ k.hash w :: (L.map fun p => p.2.hash w).drop (SetTable.below t.place (wayN w t k K))) :=
        ⟨by rw [m2]; exact q3.ris, by rw [m3]; exact q3.dm, by rw [m2]; exact q3.sz, by rw [m1]; exact q3.mok, by rw [m2, m1]; exact q3.bd, by rw [m2, m1]; exact q3.reach⟩
      have fill2 : t2.fill = L.length + 1 := by
        have z := q9
        rw [List.length_map] at z
        unfold SetTable.fill at z ⊢
        rw [m2, m3]
        exact z
      have hin : (SetTable.insertAt es (SetTable.below t.place (wayN w t k K)) (k.hash w, Value.ref x)).toList = nrows w (L.take (SetTable.below t.place (wayN w t k K)) ++ (x, k) :: L.drop (SetTable.below t.place (wayN w t k K))) := by
        rw [SetTable.toList_insertAt, R.rows, nrows_eq, nrows_eq, List.map_append, List.map_cons, List.map_take, List.map_drop] <;> rfl
      generalize SetTable.below t.place (wayN w t k K) = p at q2 T2 hin ⊢
      have pm := put_perm L p (x, k)
      have hlen : (L.take p ++ (x, k) :: L.drop p).length = L.length + 1 := pm.length_eq
      have hhs : (L.take p ++ (x, k) :: L.drop p).map (fun p => p.2.hash w) = (L.map fun p => p.2.hash w).take p ++ k.hash w :: (L.map fun p => p.2.hash w).drop p := by
        rw [List.map_append, List.map_cons, List.map_take, List.map_drop]
      rw [← hhs] at T2
      have nd1 : ((L.take p ++ (x, k) :: L.drop p).map (·.2)).Nodup := by
        refine (pm.map (·.2)).nodup_iff.mpr ?_
        rw [List.map_cons]
        exact List.nodup_cons.mpr ⟨hm, R.nd⟩
      have hes : (SetTable.insertAt es p (k.hash w, Value.ref x)).size = L.length + 1 := by rw [← Array.length_toList, hin, nrows_len, hlen]
      generalize SetTable.insertAt es p (k.hash w, Value.ref x) = es1 at hin hes ⊢
      generalize L.take p ++ (x, k) :: L.drop p = L1 at pm hlen T2 nd1 hin
      refine wpAny_bind (wpAny_storeSet_of ho hd ?_ (by rw [hes, sizeLine_eq]; omega))
      have sb : Heap.SameBut a s.heap (s.heap.update a (Obj.putSet es1 t2)) := Heap.SameBut.update ..
      have ho1 := store_at (es' := es1) (t' := t2) ho hd
      generalize s.heap.update a (Obj.putSet es1 t2) = h1 at sb ho1 ⊢
      have tup1 : ∀ p ∈ L1, IsN h1 p.2 p.1 := fun p hp => by
        rcases List.mem_cons.mp (pm.mem_iff.mp hp) with e | hp
        · rw [e]; exact isN_but hx ho hd sb
        · exact isN_but (R.tup p hp) ho hd sb
      have ld1 : w.params.followText "set-order" = true ∨ t2.led = true := by rw [m4, q5]; exact R.led
      by_cases hf : t2.tooFull = true
      · refine wp_if_pos (by simp [hf]) (wpAny_bind ?_)
        have hfull : (L.length + 1) * 5 ≥ t2.mask * 3 := by
          have h := hf
          unfold SetTable.tooFull at h
          rw [decide_eq_true_eq, fill2] at h
          exact h
        rw [hsl]
        have hsz1 : t2.place.size = es1.size := by
          have h := T2.sz
          rw [List.length_map, hlen] at h
          rw [h, hes]
        have cases2 : (t.mask = 7 ∧ L.length = 4) ∨ (t.mask = 31 ∧ L.length = 18) := by
          rw [m1, q4] at hfull
          rcases R.tab.mok with e | e | e <;> rw [e] at hfull hroom
          · exact .inl ⟨e, by omega⟩
          · exact .inr ⟨e, by omega⟩
          · exfalso; omega
        have go : ∀ M, SetTable.sizeAbove (SetTable.grown (L.length + 1)) - 1 = M → MaskOk M → SetTable.sizeAbove (SetTable.grown (L.length + 1)) ≤ 128 → (L.length + 1) * 5 < M * 3 →
            wpAny (model P w) A (setRelay a (SetTable.grown (L.length + 1))) (fun _ s' => wpAny (model P w) A (pure true) Q E s') E { s with heap := h1 } := fun M h1' h2' h3' h4' => by
          refine relay_key (s := { s with heap := h1 }) ho1 ⟨hex.1, hex.2.1, hex.2.2⟩ rfl hin hsz1 T2.dm (by rw [hes, m1, q4]; rcases cases2 with ⟨e, e2⟩ | ⟨e, e2⟩ <;> omega) nd1 tup1 ld1 (by rw [hlen]; exact hfew) h1' h2' h3' (by rw [hlen]; exact h4') ?_
          intro h2 L2 es2 ep2 t3 sb2 R2 pm2
          exact wpAny_pure (hQ true h2 L2 es2 ep2 t3 (sb.trans sb2) R2 (fun z => absurd z hm) fun _ => pm2.trans pm)
        rcases cases2 with ⟨_, e2⟩ | ⟨_, e2⟩
        · exact go 31 (by rw [e2, size_20]) (.inr (.inl rfl)) (by rw [e2, size_20]; decide) (by omega)
        · exact go 127 (by rw [e2, size_76]) (.inr (.inr rfl)) (by rw [e2, size_76]; decide) (by omega)
      · refine wp_if_neg (by simp [hf]) ?_
        refine wpAny_pure (hQ true h1 L1 es1 (ep + 1) t2 sb ⟨⟨_, ho1, ⟨hex.1, hex.2.1, hex.2.2⟩, rfl⟩, hin, T2, nd1, tup1, ld1, ?_, by rw [hlen]; exact hfew⟩ (fun z => absurd z hm) fun _ => pm)
        have h := hf
        unfold SetTable.tooFull at h
        rw [decide_eq_true_eq, fill2] at h
        rw [hlen]
        omega
    by_cases hpl : t1.plain = true
    · first
        | refine wpAny_bind (wp_if_pos hpl (hby_key 8 k _ s hx.1 _ fun b => ?_))
        | refine wp_if_pos hpl (wpAny_bind (hby_key 8 k _ s hx.1 _ fun b => ?_))
      cases b with
      | true => exact key t1 rfl rfl rfl rfl
      | false => exact key { t1 with plain := false } rfl rfl rfl rfl
    · first
        | refine wpAny_bind (wp_if_neg hpl (wpAny_pure ?_))
        | refine wp_if_neg hpl (wpAny_bind (wpAny_pure ?_))
      exact key t1 rfl rfl rfl rfl
end
end Kit
namespace Kit
open PySem PySem.Spec PyProof.Rows L2
/-- the set at a, by its object alone -/
structure NSet0 (w : World) (h : Heap) (a : Addr) (L : List (Addr × NK)) : Prop where
  ex : ∃ (es : Array (Int × Value)) (ep : Nat) (t : SetTable), (∃ o, h.get? a = some o ∧ o.ExactSet ∧ o.data = .set es ep t) ∧ es.toList = nrows w L ∧ TabOk t (L.map fun p => p.2.hash w) ∧ (L.map (·.2)).Nodup ∧
    (w.params.followText "set-order" = true ∨ t.led = true) ∧ L.length * 5 < t.mask * 3 ∧ L.length < 64
def NSetO (w : World) (a : Addr) (L : List (Addr × NK)) : HO := .ext fun h => NSet0 w h a L
theorem NSet.less {w : World} {h : Heap} {a : Addr} {L : List (Addr × NK)} {es : Array (Int × Value)} {ep : Nat} {t : SetTable} (R : NSet w h a L es ep t) : NSet0 w h a L := ⟨es, ep, t, R.ob, R.rows, R.tab, R.nd, R.led, R.room, R.few⟩
theorem NSet0.full {w : World} {h : Heap} {a : Addr} {L : List (Addr × NK)} (R : NSet0 w h a L) (ht : ∀ p ∈ L, IsN h p.2 p.1) : ∃ es ep t, NSet w h a L es ep t :=
  let ⟨es, ep, t, h1, h2, h3, h4, h5, h6, h7⟩ := R.ex
  ⟨es, ep, t, h1, h2, h3, h4, ht, h5, h6, h7⟩
theorem nsetO_ok {P : Program} {w : World} {H : Hp} {h : Heap} {a : Addr} {L : List (Addr × NK)} (R : NSet0 w h a L) : ObjOk P w H h a (NSetO w a L) := by
  have ⟨es, ep, t, ⟨o, ho, r⟩, q⟩ := R.ex
  refine ⟨R, ⟨o, ho⟩, fun h1 h2 p k => ?_⟩
  have ⟨es', ep', t', ⟨o', ho', r'⟩, q'⟩ := NSet0.ex p
  exact ⟨es', ep', t', ⟨o', k o' ho', r'⟩, q'⟩
/-! ### keys over the abstract heap -/
mutual
inductive NkIs (K : PySem.W.Frag) (H : Hp) : NK → V → Prop
  | non : NkIs K H .none .non
  | int (i : Int) : NkIs K H (.num i) (.int i)
  | str (x : Str) : NkIs K H (.text x) (.str x)
  | tup {a : Addr} {xs : List V} {ks : List NK} : SqT K H a xs → NkAll K H ks xs → NkIs K H (.tup ks) (.ref a)
inductive NkAll (K : PySem.W.Frag) (H : Hp) : List NK → List V → Prop
  | nil : NkAll K H [] []
  | cons {k : NK} {v : V} {ks : List NK} {vs : List V} : NkIs K H k v → NkAll K H ks vs → NkAll K H (k :: ks) (v :: vs)
end
section
variable {X : Cx} {pins : List (Addr × Obj)} {σ : L2.St} {H : Hp} {s : Shared}
mutual
theorem NkIs.raw (I : Inv X pins σ H s) : ∀ (k : NK) (v : V) (u : Value), NkIs X.K H k v → RelV v u → NestedIs s.heap k u
  | .none, _, _, h, r => by
    cases h
    cases r
    exact .none
  | .num i, _, _, h, r => by
    cases h
    obtain ⟨t, rfl⟩ := r
    exact .int i t
  | .text x, _, _, h, r => by
    cases h
    obtain ⟨t, rfl⟩ := r
    exact .text x t
  | .tup ks, _, _, h, r => by
    cases h with
    | @tup a xs _ h1 h2 =>
      cases (show _ = Value.ref a from r)
      obtain ⟨its, rv, ⟨o, ho, hc, n, hd⟩, _⟩ := I.tuple h1
      exact .tup ho hc hd (by simpa using NkAll.raw I ks xs its h2 rv)
theorem NkAll.raw (I : Inv X pins σ H s) : ∀ (ks : List NK) (vs : List V) (us : List Value), NkAll X.K H ks vs → Vals vs us → NestedAll s.heap ks us
  | [], _, _, h, r => by
    cases h
    cases r
    exact .nil
  | k :: ks, _, _, h, r => by
    cases h with
    | cons h1 h2 =>
      cases r with
      | cons r1 r2 => exact .cons (NkIs.raw I k _ _ h1 r1) (NkAll.raw I ks _ _ h2 r2)
end
end
/-- the members with their tuples -/
def Mems (K : PySem.W.Frag) (H : Hp) (L : List (Addr × NK)) : Prop := ∀ p ∈ L, NkIs K H p.2 (.ref p.1) ∧ p.2.depth ≤ 8
section
variable {X : Cx}
theorem mems_raw {pins : List (Addr × Obj)} {σ : L2.St} {H : Hp} {s : Shared} {L : List (Addr × NK)} (I : Inv X pins σ H s) (h : Mems X.K H L) : ∀ p ∈ L, IsN s.heap p.2 p.1 := fun p hp => ⟨NkIs.raw I _ _ _ (h p hp).1 rfl, (h p hp).2⟩
/-- set() -/
def rSetN0 (w : World) : List V → Hp → VK → Prop := fun xs H Q => xs = [] ∧ ∀ p, H p = none → Q (.ref p) (upd H p (NSetO w p []))
theorem cr_setN : CallR X (.type "set") (rSetN0 X.w) := by
  intro pins s σ H xs us Q I r h
  obtain ⟨rfl, q⟩ := h
  cases r
  refine setR_new fun _ => ?_
  have T := setTR_fresh (P := X.prog) (w := X.w) (Heap.get?_push_size s.heap (o := { cls := .type "set", dict := none, data := .set #[] 0 (.fresh 0 0 (!X.w.params.followText "set-order")) }) rfl)
  have new : NSet0 X.w (s.heap.push { cls := .type "set", dict := none, data := .set #[] 0 (.fresh 0 0 (!X.w.params.followText "set-order")) }) s.heap.objs.size [] := ⟨_, _, _, T.ob, rfl, T.tab, List.nodup_nil, T.led, T.room, T.few⟩
  exact ⟨.ref _, _, I.laid (t' := s.toks) (fun b u e => Heap.get?_push_of_some _ e) (Nat.le_refl _) (nsetO_ok new), rfl, q _ (I.hok.fresh (Nat.le_refl _))⟩
/-- found.add(key) -/
def rSAddN (K : PySem.W.Frag) (w : World) : V → List V → Hp → VK → Prop := fun x xs H Q => ∃ (a b : Addr) (L : List (Addr × NK)) (k : NK), x = V.ref a ∧ xs = [.ref b] ∧ H a = some (NSetO w a L) ∧ Mems K H L ∧ NkIs K H k (.ref b) ∧ k.depth ≤ 8 ∧ L.length + 1 < 64 ∧
  ∀ L', (k ∈ L.map (·.2) → L' = L) → (k ∉ L.map (·.2) → L'.Perm ((b, k) :: L)) → Q .non (upd H a (NSetO w a L'))
theorem nset_type {h : Heap} {a : Addr} {L : List (Addr × NK)} {w : World} (R : NSet0 w h a L) : ∃ o, h.get? a = some o ∧ o.cls = .type "set" ∧ o.dict = none := by
  obtain ⟨_, _, _, ⟨o, ho, hx, _⟩, _⟩ := R.ex
  exact ⟨o, ho, hx.1, hx.2.1⟩
theorem mt_saddN (hu : X.A.units + 16 < cLine) : MtR X "set.add" (rSAddN X.K X.w) := by
  intro pins s σ H x xs v us Q I rx rxs h
  obtain ⟨a, b, L, k, rfl, rfl, ha, hm, hk, hd, hl, q⟩ := h
  cases rx
  obtain ⟨u, rfl, ru⟩ := rxs.one
  cases (show u = Value.ref b from ru)
  have R0 : NSet0 X.w s.heap a L := (show ObjOk X.prog X.w H s.heap a (NSetO X.w a L) from I.hok a _ ha).1
  obtain ⟨es, ep, t, R⟩ := R0.full (mems_raw I hm)
  obtain ⟨o, ho, hcls, _⟩ := nset_type R0
  have hb : IsN s.heap k b := ⟨NkIs.raw I _ _ _ hk rfl, hd⟩
  refine wpAny_call_entry F.slot_set_add ⟨o, ho, hcls⟩ F.entry_set_add ?_ (F.args_set_add_2 _ _)
  unfold Builtin.«set.add» Builtin.Frozenset.oneOther
  simp only [List.isEmpty_nil, bind_assoc]
  unfold Builtin.Frozenset.addrOf setAdd
  refine wpAny_bind (wpAny_pure ?_)
  try dsimp only
  refine wpAny_bind (wpAny_pure ?_)
  try dsimp only
  refine wpAny_bind (wpAny_holding (wpAny_bind ((nestedKind X.prog X.w).pyHash (show X.A.in1.units + 8 < cLine from by show X.A.units + 1 + 8 < cLine; omega) hb ?_)))
  refine add_key (s := { s with toks := s.toks + (nestedKind X.prog X.w).draws k }) R hb (by show X.A.units + 1 + 8 < cLine; omega) hl fun bb h' L' es' ep' t' sb R' c1 c2 => ?_
  show wpAny _ _ (ret Value.none) _ _ _
  refine wpAny_pure ⟨_, rfl, ?_⟩
  have he : ∃ u, h'.get? a = some u := by
    obtain ⟨o', ho', _⟩ := nset_type R'.less
    exact ⟨o', ho'⟩
  exact ⟨.non, _, I.write (e := a) (t' := s.toks + (nestedKind X.prog X.w).draws k) (by rw [ha]; trivial) (.inl rfl) (fun c u hc hu' => (sb.2 c hc).trans hu') he (nsetO_ok R'.less), rfl, q L' c1 c2⟩
def tSAddN (K : PySem.W.Frag) (w : World) (to : TE) (t : TA) : TE := fun σ H Q => to σ H fun x H1 => (∃ a L, x = V.ref a ∧ H1 a = some (NSetO w a L)) ∧ t σ H1 fun xs H2 => rSAddN K w x xs H2 Q
variable {o e : Expr} {es : List Expr} {to : TE} {t : TA} {apos cpos : Pos}
theorem pe_saddN (hu : X.A.units + 16 < cLine) (ho : PE X o to) (ha : PA X (e :: es) t)
    (hbase : attributeBase o "add" X.env (eval o X.env) = eval o X.env := by rfl)
    (hfew : ((backTo cpos (starEach (e :: es) X.env)).all (fun x => !x.1) && (backToKw cpos (keywordEach [] X.env)).all (fun x => x.1.isSome)
      && decide ((e :: es).length + ([] : List Keyword).length + (if ([] : List Keyword).isEmpty then 0 else 1) < 30)) = true := by rfl)
    (hline : (apos.endLine == cpos.line) = true := by rfl) (hs : starEach (e :: es) X.env = (false, eval e X.env) :: starEach es X.env := by rfl) (hplain : (backTo cpos (starEach es X.env)).any (·.1) = false := by rfl) :
    PE X (.Call (.Attribute o "add" apos) (e :: es) [] cpos) (tSAddN X.K X.w to t) := by
  refine ⟨fun pins s σ H Q I h => wpAny_Call_method_late hbase hfew hline rfl (thn (ho.run pins s σ H _ I h) fun v s1 ⟨x, H1, I1, r1, ty, q1⟩ => ?_)⟩
  obtain ⟨a, L, rfl, hka⟩ := ty
  obtain ⟨ob, hob, hcls, hdict⟩ := nset_type (show ObjOk X.prog X.w H1 s1.heap a (NSetO X.w a L) from I1.hok a _ hka).1
  cases r1
  refine ⟨"set", "set.add", F.plainAttrs_set, F.slot_set_add, F.type_set_add, ⟨ob, hob, hcls⟩, fun b hb => ?_, ?_⟩
  · cases hb
    exact ⟨ob, hob, hdict⟩
  · have hA := ha.run cpos pins s1 σ H1 _ I1 q1
    rw [hs] at hA ⊢
    refine Calls.callWith_builtin (by show (false || (backTo cpos (starEach es X.env)).any (·.1)) = false; rw [hplain] <;> rfl) (Calls.evalArgs_plain ?_)
    exact thn hA fun us s2 ⟨vs, H2, I2, r2, q2⟩ => mt_saddN hu pins s2 σ H2 (.ref a) vs (.ref a) us Q I2 rfl r2 q2
end
theorem setFindIn_succ (a : Addr) (x : Value) (h : Int) (fuel : Nat) : setFindIn a x h (fuel + 1) = (do
    let (es, _, _) ← setState a
    if byScan x es then
      rule "set.find.by-scan"
      match ← setScan a x h false es with
      | .found i => return some i
      | .absent => return none
      | .anew => return ← setFindIn a x h fuel
    match ← setSearch a x h with
    | .there i => return i
    | .free .. => return none) := rfl
section
variable {X : Cx}
/-- key in found -/
def rInN (K : PySem.W.Frag) (w : World) : R2 := fun x y H Q => ∃ (a b : Addr) (L : List (Addr × NK)) (k : NK), x = V.ref b ∧ y = V.ref a ∧ H a = some (NSetO w a L) ∧ Mems K H L ∧ NkIs K H k (.ref b) ∧ k.depth ≤ 8 ∧ Q (.bl (decide (k ∈ L.map (·.2)))) H
theorem op_in_setN (hu : X.A.units + 16 < cLine) : OpR X (compareOp .In) (rInN X.K X.w) := by
  intro pins s σ H x y v u Q I rx ry h
  obtain ⟨a, b, L, k, rfl, rfl, ha, hm, hk, hd, q⟩ := h
  cases rx
  cases ry
  have R0 : NSet0 X.w s.heap a L := (show ObjOk X.prog X.w H s.heap a (NSetO X.w a L) from I.hok a _ ha).1
  obtain ⟨es, ep, t, R⟩ := R0.full (mems_raw I hm)
  obtain ⟨o, ho, hcls, _⟩ := nset_type R0
  have hT : s.TypeIs (.ref a) "set" := ⟨o, ho, hcls⟩
  have hb : IsN s.heap k b := ⟨NkIs.raw I _ _ _ hk rfl, hd⟩
  show wpAny _ _ (do return Value.bool (← contains (.ref a) (.ref b))) _ _ s
  refine wpAny_bind ?_
  unfold contains
  try with_reducible refine wpAny_holding ?_
  refine wpAny_bind (wpAny_specialOf hT F.slot_set_contains.lookup ?_)
  show wpAny _ _ (if (some (Value.builtin "set.__contains__") == some Value.none) = true then _ else _) _ _ s
  rw [if_neg (by rw [beq_builtin_none]; exact Bool.false_ne_true)]
  refine wpAny_bind (wpAny_callSpecialUnlessNone?_slot (name := Str.ofString "__contains__") hT F.slot_set_contains (wpAny_call_entry F.slot_set_contains hT entry_set_contains ?_ (F.args_set_contains_2 _ _)))
  unfold Builtin.«frozenset.__contains__» Builtin.Frozenset.oneOther
  simp only [List.isEmpty_nil, bind_assoc]
  unfold Builtin.Frozenset.addrOf Builtin.Frozenset.withSetAsKey setContains
  refine wpAny_bind (wpAny_pure ?_)
  try dsimp only
  refine wpAny_bind (wpAny_pure ?_)
  try dsimp only
  refine wpAny_bind (wpAny_tryCatch (wpAny_holding (wpAny_bind ((nestedKind X.prog X.w).pyHash (show X.A.in1.units + 8 < cLine from by show X.A.units + 1 + 8 < cLine; omega) hb ?_))))
  have fin : ∀ c : Bool, c = decide (k ∈ L.map (·.2)) → wpAny (model X.prog X.w) X.A.in1 (ret (Value.bool c)) (fun fin s' => ∃ v, fin = Fin.done (Flow.ret v) ∧ wpAny (model X.prog X.w) X.A (truthy v) (fun a s' => wpAny (model X.prog X.w) X.A (pure (Value.bool a)) (EP X pins σ Q) X.xe s') X.xe s') X.xe { s with toks := s.toks + (nestedKind X.prog X.w).draws k } := fun c hc => by
    subst hc
    exact wpAny_pure ⟨_, rfl, wpAny_truthy_bool (wpAny_pure ⟨.bl _, H, I.tok _, rfl, q⟩)⟩
  obtain ⟨o', ho', _, hd'⟩ := R.ob
  refine wpAny_bind ?_
  unfold setFind
  rw [show (100000 : Nat) = 99999 + 1 from rfl, setFindIn_succ]
  refine wpAny_bind (wpAny_setState_of (s := { s with toks := s.toks + (nestedKind X.prog X.w).draws k }) ho' hd' R.fits ?_)
  dsimp only
  refine wp_if_neg (by simp [byScan, Value.scannable]) ?_
  try refine wpAny_bind (wpAny_pure ?_)
  refine wpAny_bind (search_key (s := { s with toks := s.toks + (nestedKind X.prog X.w).draws k }) false R hb (by show X.A.units + 1 + 8 < cLine; omega) (fun hmem r hr => ?_) fun K hmem _ _ => ?_)
  · dsimp only
    refine wpAny_pure (wpAny_pure (fin _ ?_))
    rcases hr with z | z
    · cases z
    · rw [z, decide_eq_true hmem]
  · dsimp only
    refine wpAny_pure (wpAny_pure (fin _ ?_))
    rw [decide_eq_false hmem]
    rfl
end
end Kit
/-! The end of a law whose def asks how it is called. -/
namespace Kit
open PySem PySem.Spec PyProof.Rows L2
section
variable {P : Program} {w : World} {K : PySem.W.Frag} {mg mb : Str → Option Value} {k : Nat} {fa a : Addr} {fd : FuncData} {x : Str} {sp : Sp} {s : Shared} {vs : List Value} {ns : List Int}
/-- the script's object -/
def scrO (vs : List Value) : Obj := { cls := .type "list", data := .seq vs.toArray }
/-- what is tracked where the law begins: the script, unless it is an object of the module -/
def begH (K : PySem.W.Frag) (a : Addr) (vs : List Value) (ns : List Int) : Hp := fun b => if b = a ∧ K.lookup a = none then some (.frz (scrO vs) (.lst (ns.map V.int))) else none
theorem begH_some {b : Addr} {u : HO} (h : begH K a vs ns b = some u) : b = a ∧ K.lookup a = none ∧ u = .frz (scrO vs) (.lst (ns.map V.int)) := by
  by_cases z : b = a ∧ K.lookup a = none
  · have e : begH K a vs ns b = some (.frz (scrO vs) (.lst (ns.map V.int))) := if_pos z
    rw [e] at h
    exact ⟨z.1, z.2, (Option.some.inj h).symm⟩
  · have e : begH K a vs ns b = none := if_neg z
    rw [e] at h
    cases h
theorem law_callG (KX : K.In s.heap) (hns : s.heap.Ns mainGlobals mg) (hb : s.heap.Ns builtinsNs mb) (hbb : ∀ x : Str, x ≠ "__name__" → mb x = bootBuiltins x) (hlim : s.heap.NoLimit) (hg : s.gens = #[])
    (ha : s.heap.get? a = some (scrO vs)) (hi : IntsAre vs ns) (hl : ns.length ≤ sizeLine) (hr : Room k callerA)
    (F : ∀ base : Heap, K.In base → base.Ns mainGlobals mg → FnOkG P w K mg base k fa fd [x] sp) (hbind : ∀ (s : Shared) (u : Value), BindsTo s fd ⟨[u], []⟩ [(x, u)])
    (hsp : ∀ H : Hp, SqL K H a (ns.map V.int) → sp [.ref a] H (fun v _ => v = .bl true) fun _ _ _ => False) :
    codeAny (model P w) callerA (.call (.ref fa) ⟨[.ref a], []⟩) (fun r s' => r = .ok (.ret (.bool true)) ∧ OldK s.heap s'.heap ∧ s'.os = s.os ∧ AllBare s'.gens) s := by
  have rv := vals_ints hi
  -- an object that is no such list is not hidden
  have free : ∀ {b : Addr} {o : Obj}, s.heap.get? b = some o → (b = a → K.lookup a ≠ none ∨ o ≠ scrO vs) → (hidT s.heap (begH K a vs ns)).get? b = some o := fun {b o} e h => by
    refine hidT_get e ?_
    cases q : begH K a vs ns b with
    | none => rfl
    | some u =>
      obtain ⟨e1, e2, _⟩ := begH_some q
      rcases h e1 with h | h
      · exact (h e2).elim
      · rw [e1, ha] at e
        exact (h (Option.some.inj e).symm).elim
  have hK : K.In (hidT s.heap (begH K a vs ns)) := fun b o e => free (KX b o e) fun z => .inl (by rw [← z, e]; exact fun q => nomatch q)
  have hN : ∀ {b : Addr} {m : Str → Option Value}, s.heap.Ns b m → (hidT s.heap (begH K a vs ns)).Ns b m := fun {b m} ⟨o, es, ep, e, d, r⟩ => ⟨o, es, ep, free e fun _ => .inr (fun q => by
    rw [q] at d
    have d' : Data.seq vs.toArray = Data.dict es ep := d
    cases d'), d, r⟩
  have hok : HOk P w (begH K a vs ns) s.heap := fun b u h => by
    obtain ⟨rfl, _, rfl⟩ := begH_some h
    exact ⟨ha, by rw [List.length_map]; exact hl, vs, _, rv, ha⟩
  have hS : SqL K (begH K a vs ns) a (ns.map V.int) := by
    cases q : K.lookup a with
    | none => exact .inl (.inr ⟨scrO vs, if_pos ⟨rfl, q⟩⟩)
    | some o =>
      have e := KX a o q
      rw [ha] at e
      cases e
      exact .inr ⟨_, vs.toArray, _, q, rfl, rfl, rfl, by rw [List.size_toArray, hi.length]; exact hl, by simpa using rv⟩
  have hM : Mod K mg (hidT s.heap (begH K a vs ns)) := ⟨hK, hN hns, ⟨mb, hN hb, hbb⟩, hlim.elim fun mc h => ⟨mc, hN h.1, h.2⟩⟩
  have e0 : Env0 P w K mg (hidT s.heap (begH K a vs ns)) callerA [] s (begH K a vs ns) := ⟨rfl, hM, fun b o e => of_hidT e, Nat.le_of_eq (hidT_size _ _), trivial, fun b hb => absurd (show b ∈ ([] : List Addr) from hb) List.not_mem_nil, hok, .of_eq hg⟩
  refine codeAny_mono ((F _ hK (hN hns)).run callerA [] s _ ⟨[.ref a], []⟩ [.ref a] [.ref a] _ _ rfl hr e0 (hbind s (.ref a)) (.cons rfl .nil) (hsp _ hS)) fun r s' h => ?_
  match r, h with
  | .error e, h => exact False.elim h
  | .ok .next, h => exact False.elim h
  | .ok .brk, h => exact False.elim h
  | .ok .cont, h => exact False.elim h
  | .ok (.ret u), h =>
    obtain ⟨v, H', os, bare, un, hok', r', q⟩ := h
    have q' : v = .bl true := q
    subst q'
    obtain rfl : u = Value.bool true := r'
    refine ⟨rfl, OldK.of_keep fun b o e => ?_, os, bare⟩
    cases q : begH K a vs ns b with
    | none => exact un.keep b o e q (fun z => absurd (show b ∈ ([] : List Addr) from z) List.not_mem_nil) (by simp)
    | some u =>
      obtain ⟨_, _, rfl⟩ := begH_some q
      have k1 := (hok b _ q).1
      have k2 := (hok' b _ (un.frzs b _ _ q)).1
      rw [e] at k1
      cases k1
      exact k2
theorem walk_ofG {l : PySem.W.OpenLaw} {n k : Nat} {q : Program} {loose : List Str} {XP : (Str → Option Value) → Heap → Prop} {YP : World → Heap → Prop} {d : DefRec} {K : Params → PySem.W.Frag} {sp : PySem.W.Frag → Sp} {x : Str}
    (hn : l.most = some n) (hn2 : n ≤ sizeLine) (hdf : d.params.defaults = []) (hr : Room k callerA) (hY : ∀ (w : World) (h : Heap), YP w h → (K w.params).In h)
    (F : ∀ (w : World) (mg : Str → Option Value) (fa : Addr) (h : Heap), (K w.params).In h → h.Ns mainGlobals mg → mg d.name = some (.ref fa) →
      ∃ fd : FuncData, (∀ (s : Shared) (u : Value), BindsTo s fd ⟨[u], []⟩ [(x, u)]) ∧ ∀ base : Heap, (K w.params).In base → base.Ns mainGlobals mg → FnOkG l.prog w (K w.params) mg base k fa fd [x] (sp (K w.params)))
    (hsp : ∀ (K : PySem.W.Frag) (H : Hp) (a : Addr) (ns : List Int), ns.length ≤ n → SqL K H a (ns.map V.int) → sp K [.ref a] H (fun v _ => v = .bl true) fun _ _ _ => False) :
    PySem.W.WalkO q loose XP YP l.row.toRowW d [] (fun f vs => PySem.call f vs) := by
  refine Att.attach_call hn hdf fun w s₀ s₁ mg mb fa o pm cd doc a vs ns G Y ho hd hcd hmg hobj hints hlen hg => ?_
  obtain ⟨fd, hb, hF⟩ := F w mg fa _ (hY w _ Y) G.T.g hmg
  exact law_callG (hY w _ Y) G.T.g G.T.b G.T.builtins G.T.nolimit hg hobj hints (Nat.le_trans hlen hn2) hr hF hb fun H hS => hsp _ H a ns hlen hS
end
end Kit
/-! The checks of the program, def by def. -/
namespace K00
open PySem PySem.Spec PyProof.Rows L2 Kit
def topS (i : Nat) : Stmt := PySem.Challenge.pw_holegates_k00_errors_and_checks.main.body.getD i (.Pass ⟨0, 0, 0, 0⟩)
abbrev sIsInteger : Stmt := topS 6
abbrev n_sIsInteger : List Str := ["value"]
theorem scIsInteger : FnScope n_sIsInteger ["value"] (defScope sIsInteger) := ⟨rfl, rfl, rfl, by decide +kernel, rfl, by decide +kernel, by decide +kernel⟩
abbrev sIsWithin : Stmt := topS 7
abbrev n_sIsWithin : List Str := ["value", "least", "most"]
theorem scIsWithin : FnScope n_sIsWithin ["value", "least", "most"] (defScope sIsWithin) := ⟨rfl, rfl, rfl, by decide +kernel, rfl, by decide +kernel, by decide +kernel⟩
abbrev sIsSign : Stmt := topS 8
abbrev n_sIsSign : List Str := ["value"]
theorem scIsSign : FnScope n_sIsSign ["value"] (defScope sIsSign) := ⟨rfl, rfl, rfl, by decide +kernel, rfl, by decide +kernel, by decide +kernel⟩
abbrev sAreSigns : Stmt := topS 9
abbrev n_sAreSigns : List Str := ["value", "item"]
theorem scAreSigns : FnScope n_sAreSigns ["value"] (defScope sAreSigns) := ⟨rfl, rfl, rfl, by decide +kernel, rfl, by decide +kernel, by decide +kernel⟩
abbrev sIsName : Stmt := topS 10
abbrev n_sIsName : List Str := ["value", "sign"]
theorem scIsName : FnScope n_sIsName ["value"] (defScope sIsName) := ⟨rfl, rfl, rfl, by decide +kernel, rfl, by decide +kernel, by decide +kernel⟩
abbrev sFirstTwice : Stmt := topS 11
abbrev n_sFirstTwice : List Str := ["values", "seen", "value", "key"]
theorem scFirstTwice : FnScope n_sFirstTwice ["values"] (defScope sFirstTwice) := ⟨rfl, rfl, rfl, by decide +kernel, rfl, by decide +kernel, by decide +kernel⟩
abbrev sFlatKey : Stmt := topS 12
abbrev n_sFlatKey : List Str := ["value", "spread", "item"]
theorem scFlatKey : FnScope n_sFlatKey ["value"] (defScope sFlatKey) := ⟨rfl, rfl, rfl, by decide +kernel, rfl, by decide +kernel, by decide +kernel⟩
abbrev sFixed : Stmt := topS 1
abbrev n_sFixed : List Str := ["value", "item"]
theorem scFixed : FnScope n_sFixed ["value"] (defScope sFixed) := ⟨rfl, rfl, rfl, by decide +kernel, rfl, by decide +kernel, by decide +kernel⟩

theorem hu16 {A : Around} {k : Nat} (hr : Room k A) : A.units + 16 < cLine := by
  have := hr.units
  omega
/-- the module's constants -/
def sL : Str := "abcdefghijklmnopqrstuvwxyz"
def sLD : Str := "abcdefghijklmnopqrstuvwxyz0123456789"
structure Cn (mg : Str → Option Value) : Prop where
  g_L : ∃ t, mg "LETTERS" = some (.str sL t)
  g_LD : ∃ t, mg "LETTERS_AND_DIGITS" = some (.str sLD t)
  g_N : ∃ t, mg "LONGEST_NAME" = some (.int 12 t)
section
variable {P : Program} {w : World} {K : PySem.W.Frag} {mg : Str → Option Value} {base : Heap}
/-! ### is_integer -/
def spInteger (K : PySem.W.Frag) : Sp := fun vs H Q _ => ∃ x k, vs = [x] ∧ Kd K H x k ∧ Q (.bl (decide (k = .int))) H
theorem ok_integer {f : Addr} {fd : FuncData} (F : Fun K "is_integer" "is_integer" sIsInteger f fd) (B : NB mg) : FnOk P w K mg base CX0 1 f fd ["value"] (spInteger K) := by
  refine F.ok scIsInteger (fun vs H Q E h => ?_) (fun cdv A outer s H vs Q E hr h => ?_)
  · obtain ⟨x, k, rfl, _⟩ := h
    rfl
  · obtain ⟨x, k, rfl, hk, q⟩ := h
    refine ⟨_, (pss_one (ps_ret (pe_and (pe_callB call_isi (by rfl) B.z_isinstance (by decide +kernel) (pa_cons (pv 0) (pa_cons (pe_bltn (v := .ty "int") (by rfl) B.z_int (by decide +kernel) rfl) pa_nil))) (pe_one (pe_not (pe_callB call_isi (by rfl) B.z_isinstance (by decide +kernel) (pa_cons (pv 0) (pa_cons (pe_bltn (v := .ty "bool") (by rfl) B.z_bool (by decide +kernel) rfl) pa_nil)))))))), ?_⟩
    refine ⟨x, rfl, x, .ty "int", _, _, _, rfl, .ty _, hk.ty, kit_ty (kn_int k), _, rfl, ite2 (fun e => ?_) (fun e => ?_)⟩
    · refine ⟨x, rfl, x, .ty "bool", _, _, _, rfl, .ty _, hk.ty, kit_ty (kn_bool k), _, rfl, ?_⟩
      cases k <;> first | exact q | simp at e
    · cases k <;> first | exact q | simp at e
/-! ### is_within -/
def oV : Option Int → V
  | none => .non
  | some i => .int i
def inB (x : V) (l h : Option Int) : Bool := match x with
  | .int i => l.all (fun a => decide (a ≤ i)) && h.all (fun b => decide (i ≤ b))
  | _ => false
def spWithin (K : PySem.W.Frag) : Sp := fun vs H Q _ => ∃ x l h k, vs = [x, oV l, oV h] ∧ Kd K H x k ∧ Q (.bl (inB x l h)) H
theorem ok_within {f : Addr} {fd : FuncData} (F : Fun K "is_within" "is_within" sIsWithin f fd) (D_IsInteger : Dn P w K mg base "is_integer" 1 ["value"] (spInteger K)) : FnOk P w K mg base CX0 2 f fd ["value", "least", "most"] (spWithin K) := by
  refine F.ok scIsWithin (fun vs H Q E h => ?_) (fun cdv A outer s H vs Q E hr h => ?_)
  · obtain ⟨x, l, hh, k, rfl, _⟩ := h
    rfl
  · obtain ⟨x, l, hh, k, rfl, hk, q⟩ := h
    refine ⟨_, (pss_cons (ps_if (pt_not (pt_val (pe_fn D_IsInteger (hr.mono (by decide)) (by rfl) (pa_cons (pv 0) pa_nil))))
        (pss_one (ps_ret pe_bl))
        pss_nil)
      (pss_one (ps_ret (pe_and (pe_or (pe_cmpR op_isN (pv 1) pe_non (nomark _)) (pe_one (pe_cmpR op_le (pv 1) (pv 0) (nomark _)))) (pe_one (pe_or (pe_cmpR op_isN (pv 2) pe_non (nomark _)) (pe_one (pe_cmpR op_le (pv 0) (pv 2) (nomark _))))))))), ?_⟩
    refine ⟨x, rfl, x, k, rfl, hk, _, rfl, ?_⟩
    cases hk with
    | int i =>
      refine iteF ?_
      cases l with
      | none =>
        refine ⟨.non, rfl, rfl, true, rfl, true, rfl, ?_⟩
        cases hh with
        | none => exact ⟨.non, rfl, rfl, true, rfl, q⟩
        | some b => exact ⟨.int b, rfl, rfl, false, rfl, .int i, rfl, .int b, rfl, i, b, rfl, rfl, q⟩
      | some a =>
        refine ⟨.int a, rfl, rfl, false, rfl, .int a, rfl, .int i, rfl, a, i, rfl, rfl, ?_⟩
        refine ⟨_, rfl, ite2 (fun e => ?_) (fun e => ?_)⟩
        · have e1 : ∀ c, inB (.int i) (some a) c = c.all (fun b => decide (i ≤ b)) := fun c => by
            show (decide (a ≤ i) && c.all (fun b => decide (i ≤ b))) = _
            rw [e, Bool.true_and]
          rw [e1] at q
          cases hh with
          | none => exact ⟨.non, rfl, rfl, true, rfl, q⟩
          | some b => exact ⟨.int b, rfl, rfl, false, rfl, .int i, rfl, .int b, rfl, i, b, rfl, rfl, q⟩
        · have e1 : inB (.int i) (some a) hh = false := by
            show (decide (a ≤ i) && hh.all (fun b => decide (i ≤ b))) = _
            rw [Bool.eq_false_iff.mpr e, Bool.false_and]
          rw [e1] at q
          exact q
    | non => exact iteT q
    | bl b => exact iteT q
    | str z => exact iteT q
    | lst h => exact iteT q
    | tup h => exact iteT q
    | dct h => exact iteT q
/-! ### is_sign -/
def isSg (x : V) : Bool := inB x (some 0) (some 1)
def spSign (K : PySem.W.Frag) : Sp := fun vs H Q _ => ∃ x k, vs = [x] ∧ Kd K H x k ∧ Q (.bl (isSg x)) H
theorem ok_sign {f : Addr} {fd : FuncData} (F : Fun K "is_sign" "is_sign" sIsSign f fd) (D_IsWithin : Dn P w K mg base "is_within" 2 ["value", "least", "most"] (spWithin K)) : FnOk P w K mg base CX0 3 f fd ["value"] (spSign K) := by
  refine F.ok scIsSign (fun vs H Q E h => ?_) (fun cdv A outer s H vs Q E hr h => ?_)
  · obtain ⟨x, k, rfl, _⟩ := h
    rfl
  · obtain ⟨x, k, rfl, hk, q⟩ := h
    refine ⟨_, (pss_one (ps_ret (pe_fn D_IsWithin (hr.mono (by decide)) (by rfl) (pa_cons (pv 0) (pa_cons pe_int (pa_cons pe_int pa_nil)))))), ?_⟩
    exact ⟨x, rfl, x, some 0, some 1, k, rfl, hk, q⟩
/-! ### are_signs -/
theorem kit_LT (k : Kn) : PySem.W.kitAny K (.type k.nm) [.type "list", .type "tuple"] = some (decide (k = .lst) || decide (k = .tup)) := by
  refine kitAny_cons (kit_ty (kn_list k)) (fun e => ?_) (fun e => ?_)
  · refine kitAny_cons (kit_ty (kn_tuple k)) (fun e2 => ?_) (fun e2 => ?_)
    · rw [e, e2]
      exact kitAny_nil
    · rw [e, e2]
      rfl
  · rw [e]
    rfl
theorem tyOk {A B : Hp → Prop} {σ : L2.St} {H : Hp} (h : A H) : tYes σ H (fun b H3 => if b = true then A H3 else B H3) := (if_pos rfl : (if true = true then A H else B H) = A H).mpr h
theorem two_le : (2 : Nat) ≤ sizeLine := by
  rw [sizeLine_eq]
  decide
theorem take_snoc {α : Type} {xs : List α} {i : Nat} {x : α} (h : xs[i]? = some x) : xs.take (i + 1) = xs.take i ++ [x] := by
  rw [List.take_add_one, h]
  rfl
theorem lt_line {n : Nat} (h : n ≤ 100000) : n < sizeLine := by
  rw [sizeLine_eq]
  omega
def spSigns (K : PySem.W.Frag) : Sp := fun vs H Q _ => ∃ x k, vs = [x] ∧ Kd K H x k ∧
  ((∃ a xs, x = .ref a ∧ ((k = .lst ∧ SqL K H a xs) ∨ (k = .tup ∧ SqT K H a xs)) ∧ xs.length ≤ 1000 ∧ (∀ y ∈ xs, ∃ j, Kd K H y j) ∧ ∀ H', Same H H' → Q (.bl (xs.all isSg)) H') ∨
    (k ≠ .lst ∧ k ≠ .tup ∧ ∀ H', Same H H' → Q (.bl false) H'))
theorem ok_signs {f : Addr} {fd : FuncData} (F : Fun K "are_signs" "are_signs" sAreSigns f fd) (B : NB mg) (D_IsSign : Dn P w K mg base "is_sign" 3 ["value"] (spSign K)) : FnOk P w K mg base CX0 4 f fd ["value"] (spSigns K) := by
  refine F.ok scAreSigns (fun vs H Q E h => ?_) (fun cdv A outer s H vs Q E hr h => ?_)
  · obtain ⟨x, k, rfl, _⟩ := h
    rfl
  · obtain ⟨x, k, rfl, hk, h⟩ := h
    -- the turn of the comprehension, over a list as over a tuple
    have turn : ∀ (H1 : Hp) (D : Addr) (xs : List V), H1 D = none → xs.length ≤ 1000 → (∀ y ∈ xs, ∃ j, Kd K H1 y j) → ∀ (i : Nat) (y : V) (H' : Hp), xs[i]? = some y → (Same H1 H' ∧ H' D = some (.lst ((xs.take i).map fun y => V.bl (isSg y)))) →
        ∃ acc, H' D = some (.lst acc) ∧ acc.length < sizeLine ∧ Same H1 (upd H' D (.lst (acc ++ [V.bl (isSg y)]))) ∧ (upd H' D (.lst (acc ++ [V.bl (isSg y)]))) D = some (.lst ((xs.take (i + 1)).map fun y => V.bl (isSg y))) := by
      intro H1 D xs nD hl hj i y H' hy ⟨sm, hD⟩
      refine ⟨_, hD, lt_line ?_, fun b o e => ?_, ?_⟩
      · rw [List.length_map, List.length_take]
        omega
      · rw [upd_ne (ne_of_none e nD)]
        exact sm _ _ e
      · rw [upd_same, take_snoc hy, List.map_append]
        rfl
    rcases h with ⟨a, xs, rfl, hS, hl, hj, q⟩ | ⟨n1, n2, q⟩
    · rcases hS with ⟨rfl, hS⟩ | ⟨rfl, hS⟩
      · refine ⟨_, (pss_one (ps_ret (pe_and (pe_callB call_isiT (by rfl) B.z_isinstance (by decide +kernel) (pa_cons (pv 0) (pa_cons (pe_tup (pa_cons (pe_bltn (v := .ty "list") (by rfl) B.z_list (by decide +kernel) rfl) (pa_cons (pe_bltn (v := .ty "tuple") (by rfl) B.z_tuple (by decide +kernel) rfl) pa_nil))) pa_nil))) (pe_one (pe_callB (cr_all rfl) (by rfl) B.z_all (by decide +kernel) (pa_cons (pe_lc (own := [("item", 1)]) (g := gName 1) (tt := tYes) rfl scAreSigns.nd (pi_list (pv 0)) (blkOk_by (N := n_sAreSigns) (sc := (defScope sAreSigns)) (by decide +kernel)) (fun _ _ _ _ _ => (pg_name (i := 1) scAreSigns.nd rfl (Or.inl rfl))) (fun _ _ _ _ _ => pts_nil) (fun _ _ _ _ _ => (pe_fn D_IsSign (hr.mono (by decide)) (by rfl) (pa_cons (pv 1) pa_nil)))) pa_nil)))))), ?_⟩
        refine ⟨_, rfl, two_le, fun p np => ⟨_, p, [.ty "list", .ty "tuple"], _, [.type "list", .type "tuple"], _, rfl, upd_same, .cons (.ty _) (.cons (.ty _) .nil), (hk.same (same_new np)).ty, kit_LT .lst, true, rfl, iteT ?_⟩⟩
        have s1 := same_new (o := .tup [.ty "list", .ty "tuple"]) np
        generalize upd H p (.tup [.ty "list", .ty "tuple"]) = H1 at s1
        have hS1 := s1.seq hS
        have hj1 : ∀ y ∈ xs, ∃ j, Kd K H1 y j := fun y hy => (hj y hy).imp fun j h => h.same s1
        refine ⟨_, rfl, a, rfl, ⟨xs, hS1⟩, fun D nD => lc_list (K := K) (a := a) (xs := xs) (fun i H' => Same H1 H' ∧ H' D = some (.lst ((xs.take i).map fun y => V.bl (isSg y)))) ⟨same_new nD, upd_same⟩ (fun i H' _ h => h.1.seq hS1) (fun i y H' hy h => ?_) (fun H' h => ?_)⟩
        · obtain ⟨j, hjy⟩ := hj1 y (List.mem_of_getElem? hy)
          exact ⟨rfl, tyOk ⟨y, rfl, y, j, rfl, hjy.same h.1, turn H1 D xs nD hl hj1 i y H' hy h⟩⟩
        · rw [List.take_length] at h
          refine ⟨D, xs.map isSg, rfl, SqL.of (by rw [h.2, List.map_map]; rfl), ?_⟩
          rw [List.all_map]
          exact q H' (s1.trans h.1)
      · refine ⟨_, (pss_one (ps_ret (pe_and (pe_callB call_isiT (by rfl) B.z_isinstance (by decide +kernel) (pa_cons (pv 0) (pa_cons (pe_tup (pa_cons (pe_bltn (v := .ty "list") (by rfl) B.z_list (by decide +kernel) rfl) (pa_cons (pe_bltn (v := .ty "tuple") (by rfl) B.z_tuple (by decide +kernel) rfl) pa_nil))) pa_nil))) (pe_one (pe_callB (cr_all rfl) (by rfl) B.z_all (by decide +kernel) (pa_cons (pe_lc (own := [("item", 1)]) (g := gName 1) (tt := tYes) rfl scAreSigns.nd (pi_tup (pv 0)) (blkOk_by (N := n_sAreSigns) (sc := (defScope sAreSigns)) (by decide +kernel)) (fun _ _ _ _ _ => (pg_name (i := 1) scAreSigns.nd rfl (Or.inl rfl))) (fun _ _ _ _ _ => pts_nil) (fun _ _ _ _ _ => (pe_fn D_IsSign (hr.mono (by decide)) (by rfl) (pa_cons (pv 1) pa_nil)))) pa_nil)))))), ?_⟩
        refine ⟨_, rfl, two_le, fun p np => ⟨_, p, [.ty "list", .ty "tuple"], _, [.type "list", .type "tuple"], _, rfl, upd_same, .cons (.ty _) (.cons (.ty _) .nil), (hk.same (same_new np)).ty, kit_LT .tup, true, rfl, iteT ?_⟩⟩
        have s1 := same_new (o := .tup [.ty "list", .ty "tuple"]) np
        generalize upd H p (.tup [.ty "list", .ty "tuple"]) = H1 at s1
        have hS1 := same_seqT s1 hS
        have hj1 : ∀ y ∈ xs, ∃ j, Kd K H1 y j := fun y hy => (hj y hy).imp fun j h => h.same s1
        refine ⟨_, rfl, a, rfl, ⟨xs, hS1⟩, fun D nD => lc_tup (K := K) (a := a) (xs := xs) (fun i H' => Same H1 H' ∧ H' D = some (.lst ((xs.take i).map fun y => V.bl (isSg y)))) ⟨same_new nD, upd_same⟩ (fun i H' _ h => same_seqT h.1 hS1) (fun i y H' hy h => ?_) (fun H' h => ?_)⟩
        · obtain ⟨j, hjy⟩ := hj1 y (List.mem_of_getElem? hy)
          exact ⟨rfl, tyOk ⟨y, rfl, y, j, rfl, hjy.same h.1, turn H1 D xs nD hl hj1 i y H' hy h⟩⟩
        · rw [List.take_length] at h
          refine ⟨D, xs.map isSg, rfl, SqL.of (by rw [h.2, List.map_map]; rfl), ?_⟩
          rw [List.all_map]
          exact q H' (s1.trans h.1)
    · refine ⟨_, (pss_one (ps_ret (pe_and (pe_callB call_isiT (by rfl) B.z_isinstance (by decide +kernel) (pa_cons (pv 0) (pa_cons (pe_tup (pa_cons (pe_bltn (v := .ty "list") (by rfl) B.z_list (by decide +kernel) rfl) (pa_cons (pe_bltn (v := .ty "tuple") (by rfl) B.z_tuple (by decide +kernel) rfl) pa_nil))) pa_nil))) (pe_one (pe_callB (cr_all rfl) (by rfl) B.z_all (by decide +kernel) (pa_cons (pe_lc (own := [("item", 1)]) (g := gName 1) (tt := tYes) rfl scAreSigns.nd (pi_list (pv 0)) (blkOk_by (N := n_sAreSigns) (sc := (defScope sAreSigns)) (by decide +kernel)) (fun _ _ _ _ _ => (pg_name (i := 1) scAreSigns.nd rfl (Or.inl rfl))) (fun _ _ _ _ _ => pts_nil) (fun _ _ _ _ _ => (pe_fn D_IsSign (hr.mono (by decide)) (by rfl) (pa_cons (pv 1) pa_nil)))) pa_nil)))))), ?_⟩
      refine ⟨_, rfl, two_le, fun p np => ⟨_, p, [.ty "list", .ty "tuple"], _, [.type "list", .type "tuple"], _, rfl, upd_same, .cons (.ty _) (.cons (.ty _) .nil), (hk.same (same_new np)).ty, kit_LT k, false, ?_, iteF (q _ (same_new np))⟩⟩
      rw [decide_eq_false n1, decide_eq_false n2]
      rfl
/-! ### is_name -/
def inLD (c : Nat) : Bool := decide (c ∈ sLD.cps.toList)
def nameL (cs : List Nat) : Bool := match cs with
  | [] => false
  | c :: r => decide ((c :: r).length ≤ 12) && (decide (c ∈ sL.cps.toList) && (c :: r).all inLD)
def nameB (z : Str) : Bool := nameL z.cps.toList
def spName (K : PySem.W.Frag) : Sp := fun vs H Q _ => ∃ x k, vs = [x] ∧ Kd K H x k ∧ ((∃ z, x = .str z ∧ z.length ≤ 10000 ∧ ∀ H', Same H H' → Q (.bl (nameB z)) H') ∨ (k ≠ .str ∧ Q (.bl false) H))
theorem ok_name {f : Addr} {fd : FuncData} (F : Fun K "is_name" "is_name" sIsName f fd) (B : NB mg) (T : Cn mg) : FnOk P w K mg base CX0 1 f fd ["value"] (spName K) := by
  obtain ⟨tL, gL⟩ := T.g_L
  obtain ⟨tLD, gLD⟩ := T.g_LD
  obtain ⟨tN, gN⟩ := T.g_N
  refine F.ok scIsName (fun vs H Q E h => ?_) (fun cdv A outer s H vs Q E hr h => ?_)
  · obtain ⟨x, k, rfl, _⟩ := h
    rfl
  · obtain ⟨x, k, rfl, hk, h⟩ := h
    refine ⟨_, (pss_cons (ps_if (PW.pt (pw_or (pt_not (pt_val (pe_callB call_isi (by rfl) B.z_isinstance (by decide +kernel) (pa_cons (pv 0) (pa_cons (pe_bltn (v := .ty "str") (by rfl) B.z_str (by decide +kernel) rfl) pa_nil))))) (pw_or1 (pt_not (pt_chain op_le op_le pe_int (pe_callB call_len (by rfl) B.z_len PySem.boot_len (pa_cons (pv 0) pa_nil)) (pe_glob (v := .int 12) rfl gN ⟨_, rfl⟩))))))
        (pss_one (ps_ret pe_bl))
        pss_nil)
      (pss_one (ps_ret (pe_and (pe_cmpR op_inS (pe_ix ix_str (pv 0) pe_int (fun _ _ => rfl)) (pe_glob (v := .str sL) rfl gL ⟨_, rfl⟩) (by rfl)) (pe_one (pe_callB (cr_all rfl) (by rfl) B.z_all (by decide +kernel) (pa_cons (pe_lc (own := [("sign", 1)]) (g := gName 1) (tt := tYes) rfl scIsName.nd (pi_str (pv 0)) (blkOk_by (N := n_sIsName) (sc := (defScope sIsName)) (by decide +kernel)) (fun _ _ _ _ _ => (pg_name (i := 1) scIsName.nd rfl (Or.inl rfl))) (fun _ _ _ _ _ => pts_nil) (fun _ _ _ _ _ => (pe_cmpR op_inS (pv 1) (pe_glob (v := .str sLD) rfl gLD ⟨_, rfl⟩) (by rfl)))) pa_nil))))))), ?_⟩
    rcases h with ⟨z, rfl, hz, q⟩ | ⟨nk, q⟩
    · obtain rfl : k = .str := by cases hk <;> rfl
      refine ⟨_, rfl, _, .ty "str", _, _, _, rfl, .ty _, hk.ty, kit_ty (kn_str .str), true, rfl, ?_⟩
      refine iteF ⟨.str z, rfl, .str z, z.length, rfl, ⟨by rw [sizeLine_eq]; omega, rfl⟩, 1, _, rfl, rfl, _, rfl, ite2 (fun e1 => ?_) (fun e1 => ?_)⟩
      · have l1 : 1 ≤ z.length := by
          have := of_decide_eq_true e1
          omega
        refine ⟨_, _, rfl, rfl, _, rfl, ?_⟩
        have el : z.length = z.cps.toList.length := (Array.length_toList).symm
        cases hc : z.cps.toList with
        | nil =>
          rw [el, hc] at l1
          exact absurd l1 (by decide)
        | cons c r =>
          by_cases e2 : z.length ≤ 12
          · have d2 : decide ((z.length : Int) ≤ 12) = true := decide_eq_true (by omega)
            rw [d2]
            refine iteF ?_
            have qn : nameB z = (decide (c ∈ sL.cps.toList) && (c :: r).all inLD) := by
              unfold nameB
              rw [hc]
              show (decide ((c :: r).length ≤ 12) && _) = _
              rw [← hc, ← el, decide_eq_true e2, hc, Bool.true_and]
            rw [qn] at q
            refine ⟨_, rfl, z, 0, c, rfl, rfl, by rw [sizeLine_eq]; omega, by rw [hc]; exact atI_nat (j := 0) rfl, c, sL, rfl, rfl, _, rfl, ite2 (fun e3 => ?_) (fun e3 => ?_)⟩
            · rw [e3, Bool.true_and] at q
              refine ⟨_, rfl, z, rfl, fun D nD => lc_it walk_str (fun i H' => Same H H' ∧ H' D = some (.lst ((z.cps.toList.take i).map fun c => V.bl (inLD c)))) ⟨same_new nD, upd_same⟩ (fun _ _ _ _ => trivial) (fun i x H1 H2 hi h hx => ?_) (fun H' h => ?_)⟩
              · obtain ⟨rfl, c', ec, rfl⟩ := hx
                have ec' : z.cps.toList[i]? = some c' := by rw [Array.getElem?_toList]; exact ec
                refine ⟨rfl, tyOk ⟨_, rfl, c', sLD, rfl, rfl, _, h.2, lt_line ?_, fun b o e => ?_, ?_⟩⟩
                · rw [List.length_map, List.length_take, ← el]
                  omega
                · rw [upd_ne (ne_of_none e nD)]
                  exact h.1 _ _ e
                · rw [upd_same, take_snoc ec', List.map_append]
                  rfl
              · rw [show z.cps.size = z.cps.toList.length from (Array.length_toList).symm, List.take_length, hc] at h
                refine ⟨D, (c :: r).map inLD, rfl, SqL.of (by rw [h.2, List.map_map]; rfl), ?_⟩
                rw [List.all_map]
                exact q H' h.1
            · rw [Bool.eq_false_iff.mpr e3, Bool.false_and] at q
              exact q H (Same.refl H)
          · have d2 : decide ((z.length : Int) ≤ 12) = false := decide_eq_false (by omega)
            rw [d2]
            have qn : nameB z = false := by
              unfold nameB
              rw [hc]
              show (decide ((c :: r).length ≤ 12) && _) = _
              rw [← hc, ← el, decide_eq_false e2, Bool.false_and]
            rw [qn] at q
            exact iteT (q H (Same.refl H))
      · have l0 : z.cps.toList = [] := List.eq_nil_of_length_eq_zero (by
          have e : ¬ ((1 : Int) ≤ (z.length : Int)) := fun h => e1 (decide_eq_true h)
          rw [Array.length_toList]
          show z.length = 0
          omega)
        have qn : nameB z = false := by
          unfold nameB
          rw [l0]
          rfl
        rw [qn] at q
        exact ⟨_, rfl, iteT (q H (Same.refl H))⟩
    · refine ⟨x, rfl, x, .ty "str", _, _, _, rfl, .ty _, hk.ty, kit_ty (kn_str k), _, rfl, ?_⟩
      rw [decide_eq_false nk]
      exact iteT q
/-! ### _flat_key -/
/-- whole numbers and texts -/
def Lf (x : V) : Prop := (∃ i, x = .int i) ∨ ∃ z, x = .str z
def nkOf : V → NK
  | .int i => .num i
  | .str z => .text z
  | _ => .none
theorem Lf.kd {H : Hp} {x : V} (h : Lf x) : ∃ k, Kd K H x k ∧ k ≠ .lst ∧ k ≠ .tup := by
  rcases h with ⟨i, rfl⟩ | ⟨z, rfl⟩
  · exact ⟨.int, .int i, by decide, by decide⟩
  · exact ⟨.str, .str z, by decide, by decide⟩
theorem one_le : (1 : Nat) ≤ sizeLine := by
  rw [sizeLine_eq]
  decide
theorem le_line {n : Nat} (h : n ≤ 100000) : n ≤ sizeLine := Nat.le_of_lt (lt_line h)
theorem notLT {k : Kn} (n1 : k ≠ .lst) (n2 : k ≠ .tup) : (decide (k = .lst) || decide (k = .tup)) = false := by
  rw [decide_eq_false n1, decide_eq_false n2]
  rfl
def flat0 (x : V) (H : Hp) (Q : VK) : Prop := Lf x ∧ ∀ H' p, Same H H' → H p = none → H' p = some (.tup [x]) → Q (.ref p) H'
def spFlat0 : Sp := fun vs H Q _ => ∃ x, vs = [x] ∧ flat0 x H Q
def spFlat1 (K : PySem.W.Frag) : Sp := fun vs H Q _ => ∃ x, vs = [x] ∧ (flat0 x H Q ∨ ∃ a xs, x = .ref a ∧ Sq K H a xs ∧ (∀ y ∈ xs, Lf y) ∧ xs.length ≤ 100 ∧
  ∀ H' p e, Same H H' → H p = none → H' p = some (.tup (.non :: xs ++ [.ref e])) → H' e = some (.tup []) → Q (.ref p) H')
theorem ok_flat0 {f : Addr} {fd : FuncData} (F : Fun K "_flat_key" "_flat_key" sFlatKey f fd) (B : NB mg) : FnOk P w K mg base CX0 1 f fd ["value"] spFlat0 := by
  refine F.ok scFlatKey (fun vs H Q E h => ?_) (fun cdv A outer s H vs Q E hr h => ?_)
  · obtain ⟨x, rfl, _⟩ := h
    rfl
  · obtain ⟨x, rfl, hx, q⟩ := h
    obtain ⟨k, hk, n1, n2⟩ := hx.kd (K := K) (H := H)
    refine ⟨_, pss_cons (ps_if (pt_not (pt_val (pe_callB call_isiT (by rfl) B.z_isinstance (by decide +kernel) (pa_cons (pv 0) (pa_cons (pe_tup (pa_cons (pe_bltn (v := .ty "list") (by rfl) B.z_list (by decide +kernel) rfl) (pa_cons (pe_bltn (v := .ty "tuple") (by rfl) B.z_tuple (by decide +kernel) rfl) pa_nil))) pa_nil)))))
        (pss_one (ps_ret (pe_tup (pa_cons (pv 0) pa_nil)))) pss_nil) pss_never, ?_⟩
    refine ⟨_, rfl, two_le, fun p np => ⟨_, p, [.ty "list", .ty "tuple"], _, [.type "list", .type "tuple"], _, rfl, upd_same, .cons (.ty _) (.cons (.ty _) .nil), (hk.same (same_new np)).ty, kit_LT k, _, rfl, ?_⟩⟩
    rw [notLT n1 n2]
    refine iteT ⟨x, rfl, one_le, fun p2 np2 => ?_⟩
    exact q _ p2 ((same_new np).trans (same_new np2)) ((same_new np).free np2) upd_same
theorem ok_flat1 {f : Addr} {fd : FuncData} (F : Fun K "_flat_key" "_flat_key" sFlatKey f fd) (B : NB mg) (D_FlatKey : Dn P w K mg base "_flat_key" 1 ["value"] spFlat0) : FnOk P w K mg base CX0 2 f fd ["value"] (spFlat1 K) := by
  refine F.ok scFlatKey (fun vs H Q E h => ?_) (fun cdv A outer s H vs Q E hr h => ?_)
  · obtain ⟨x, rfl, _⟩ := h
    rfl
  · obtain ⟨x, rfl, h⟩ := h
    refine ⟨_, (pss_cons (ps_if (pt_not (pt_val (pe_callB call_isiT (by rfl) B.z_isinstance (by decide +kernel) (pa_cons (pv 0) (pa_cons (pe_tup (pa_cons (pe_bltn (v := .ty "list") (by rfl) B.z_list (by decide +kernel) rfl) (pa_cons (pe_bltn (v := .ty "tuple") (by rfl) B.z_tuple (by decide +kernel) rfl) pa_nil))) pa_nil)))))
        (pss_one (ps_ret (pe_tup (pa_cons (pv 0) pa_nil))))
        pss_nil)
      (pss_cons (ps_set (i := 1) scFlatKey.nd rfl (Or.inl rfl) (pe_lst (pa_cons pe_non pa_nil)))
      (pss_cons (ps_for PassesOwn.never rfl (pi_seq (pv 0)) (pg_name (i := 2) scFlatKey.nd rfl (Or.inl rfl))
      (pss_one (ps_expr (pe_bm PySem.F.plainAttrs_list PySem.F.slot_list_extend PySem.F.type_list_extend mt_extendT (pv 1) (pa_cons (pe_fn D_FlatKey (hr.mono (by decide)) (by rfl) (pa_cons (pv 2) pa_nil)) pa_nil)))))
      (pss_cons (ps_expr (pe_bm PySem.F.plainAttrs_list PySem.F.slot_list_append PySem.F.type_list_append mt_append (pv 1) (pa_cons (pe_tup pa_nil) pa_nil)))
      (pss_one (ps_ret (pe_callTy call_tuple_of (by rfl) B.z_tuple (by decide +kernel) (pa_cons (pv 1) pa_nil)))))))), ?_⟩
    rcases h with ⟨hx, q⟩ | ⟨a, xs, rfl, hS, hf, hl, q⟩
    · obtain ⟨k, hk, n1, n2⟩ := hx.kd (K := K) (H := H)
      refine ⟨_, rfl, two_le, fun p np => ⟨_, p, [.ty "list", .ty "tuple"], _, [.type "list", .type "tuple"], _, rfl, upd_same, .cons (.ty _) (.cons (.ty _) .nil), (hk.same (same_new np)).ty, kit_LT k, _, rfl, ?_⟩⟩
      rw [notLT n1 n2]
      refine iteT ⟨x, rfl, one_le, fun p2 np2 => ?_⟩
      exact q _ p2 ((same_new np).trans (same_new np2)) ((same_new np).free np2) upd_same
    · obtain ⟨k, hk, ek⟩ := Kd.of_sq hS
      refine ⟨_, rfl, two_le, fun p np => ⟨_, p, [.ty "list", .ty "tuple"], _, [.type "list", .type "tuple"], _, rfl, upd_same, .cons (.ty _) (.cons (.ty _) .nil), (hk.same (same_new np)).ty, kit_LT k, _, rfl, ?_⟩⟩
      rw [ek]
      refine iteF ?_
      have s1 := same_new (o := .tup [.ty "list", .ty "tuple"]) np
      generalize upd H p (.tup [.ty "list", .ty "tuple"]) = H1 at s1
      -- spread = [None]
      refine ⟨one_le, fun S nS => ?_⟩
      have s2 := same_new (o := .lst [.non]) nS
      refine ⟨_, rfl, a, xs, H1, rfl, hS.same s1, fun o => s2 a o, fun J G wJ kJ => ?_⟩
      have nS2 : ∀ b o, H1 b = some o → b ≠ S := fun b o e => ne_of_none e nS
      refine for_it wJ (fun i σ H' => (∃ v2, σ = [some (.ref a), some (.ref S), v2]) ∧ Same H1 H' ∧ H' S = some (.lst (.non :: xs.take i))) ⟨⟨none, rfl⟩, s2, upd_same⟩ (fun i σ H' _ h => kJ H' fun o => h.2.1 a o) (fun i y σ H' H'' hi h hy => ?_) (fun σ H' h => ?_)
      · obtain ⟨⟨v2, rfl⟩, sm, hS'⟩ := h
        obtain ⟨rfl, hy⟩ := hy
        refine ⟨_, rfl, .inl ⟨rfl, _, SqL.of hS'⟩, y, rfl, y, rfl, hf y (List.mem_of_getElem? hy), fun H2 p2 sm2 np2 e2 => ?_⟩
        refine ⟨S, p2, _, [y], rfl, rfl, sm2 _ _ hS', .inl (.inl e2), ?_, ⟨_, rfl⟩, fun b o e => ?_, ?_⟩
        · rw [List.length_cons, List.length_take]
          exact le_line (by show min i xs.length + 1 + 1 ≤ _; omega)
        · rw [upd_ne (nS2 b o e)]
          exact sm2 _ _ (sm _ _ e)
        · rw [upd_same, take_snoc hy]
          rfl
      · obtain ⟨⟨v2, rfl⟩, sm, hS'⟩ := h
        rw [List.take_length] at hS'
        refine ⟨_, rfl, .inl ⟨rfl, _, SqL.of hS'⟩, Nat.zero_le _, fun e ne => ?_⟩
        have s3 := same_new (o := .tup []) ne
        refine ⟨S, _, _, rfl, rfl, s3 _ _ hS', ?_, _, rfl, S, _, rfl, .inl ⟨.inl (.inl upd_same), fun p3 np3 => ?_⟩⟩
        · exact lt_line (by rw [List.length_cons]; omega)
        have s4 : Same H1 (upd (upd H' e (.tup [])) S (.lst ((.non :: xs) ++ [.ref e]))) := fun b o e' => by
          rw [upd_ne (nS2 b o e')]
          exact s3 _ _ (sm _ _ e')
        have s5 := same_new (o := .tup ((.non :: xs) ++ [.ref e])) np3
        refine q _ p3 e ((s1.trans s4).trans s5) ((s1.trans s4).free np3) upd_same ?_
        refine s5 _ _ ?_
        rw [upd_ne (fun z => ?_), upd_same]
        rw [z, hS'] at ne
        cases ne
/-! ### fixed -/
def fix0 (x : V) (H : Hp) (Q : VK) : Prop := Lf x ∧ ∀ H', Same H H' → Q x H'
def spFixed0 : Sp := fun vs H Q _ => ∃ x, vs = [x] ∧ fix0 x H Q
def spFixed1 (K : PySem.W.Frag) : Sp := fun vs H Q _ => ∃ x, vs = [x] ∧ (fix0 x H Q ∨ ∃ a xs, x = .ref a ∧ Sq K H a xs ∧ (∀ y ∈ xs, Lf y) ∧ xs.length ≤ 100 ∧
  ∀ H' p, Same H H' → H p = none → H' p = some (.tup xs) → Q (.ref p) H')
theorem ok_fixed0 {f : Addr} {fd : FuncData} (F : Fun K "fixed" "fixed" sFixed f fd) (B : NB mg) : FnOk P w K mg base CX0 1 f fd ["value"] spFixed0 := by
  refine F.ok scFixed (fun vs H Q E h => ?_) (fun cdv A outer s H vs Q E hr h => ?_)
  · obtain ⟨x, rfl, _⟩ := h
    rfl
  · obtain ⟨x, rfl, hx, q⟩ := h
    obtain ⟨k, hk, n1, n2⟩ := hx.kd (K := K) (H := H)
    refine ⟨_, pss_cons (ps_if (pt_val (pe_callB call_isiT (by rfl) B.z_isinstance (by decide +kernel) (pa_cons (pv 0) (pa_cons (pe_tup (pa_cons (pe_bltn (v := .ty "list") (by rfl) B.z_list (by decide +kernel) rfl) (pa_cons (pe_bltn (v := .ty "tuple") (by rfl) B.z_tuple (by decide +kernel) rfl) pa_nil))) pa_nil))))
        pss_never pss_nil) (pss_one (ps_ret (pv 0))), ?_⟩
    refine ⟨_, rfl, two_le, fun p np => ⟨_, p, [.ty "list", .ty "tuple"], _, [.type "list", .type "tuple"], _, rfl, upd_same, .cons (.ty _) (.cons (.ty _) .nil), (hk.same (same_new np)).ty, kit_LT k, _, rfl, ?_⟩⟩
    rw [notLT n1 n2]
    exact iteF ⟨x, rfl, q _ (same_new np)⟩
theorem ok_fixed1 {f : Addr} {fd : FuncData} (F : Fun K "fixed" "fixed" sFixed f fd) (B : NB mg) (D_Fixed : Dn P w K mg base "fixed" 1 ["value"] spFixed0) : FnOk P w K mg base CX0 2 f fd ["value"] (spFixed1 K) := by
  refine F.ok scFixed (fun vs H Q E h => ?_) (fun cdv A outer s H vs Q E hr h => ?_)
  · obtain ⟨x, rfl, _⟩ := h
    rfl
  · obtain ⟨x, rfl, h⟩ := h
    refine ⟨_, (pss_cons (ps_if (pt_val (pe_callB call_isiT (by rfl) B.z_isinstance (by decide +kernel) (pa_cons (pv 0) (pa_cons (pe_tup (pa_cons (pe_bltn (v := .ty "list") (by rfl) B.z_list (by decide +kernel) rfl) (pa_cons (pe_bltn (v := .ty "tuple") (by rfl) B.z_tuple (by decide +kernel) rfl) pa_nil))) pa_nil))))
        (pss_one (ps_ret (pe_callTy call_tuple_of (by rfl) B.z_tuple (by decide +kernel) (pa_cons (pe_lc (own := [("item", 1)]) (g := gName 1) (tt := tYes) rfl scFixed.nd (pi_seq (pv 0)) (blkOk_by (N := n_sFixed) (sc := (defScope sFixed)) (by decide +kernel)) (fun _ _ _ _ _ => (pg_name (i := 1) scFixed.nd rfl (Or.inl rfl))) (fun _ _ _ _ _ => pts_nil) (fun _ _ _ _ _ => (pe_fn D_Fixed (hr.mono (by decide)) (by rfl) (pa_cons (pv 1) pa_nil)))) pa_nil))))
        pss_nil)
      (pss_one (ps_ret (pv 0)))), ?_⟩
    rcases h with ⟨hx, q⟩ | ⟨a, xs, rfl, hS, hf, hl, q⟩
    · obtain ⟨k, hk, n1, n2⟩ := hx.kd (K := K) (H := H)
      refine ⟨_, rfl, two_le, fun p np => ⟨_, p, [.ty "list", .ty "tuple"], _, [.type "list", .type "tuple"], _, rfl, upd_same, .cons (.ty _) (.cons (.ty _) .nil), (hk.same (same_new np)).ty, kit_LT k, _, rfl, ?_⟩⟩
      rw [notLT n1 n2]
      exact iteF ⟨x, rfl, q _ (same_new np)⟩
    · obtain ⟨k, hk, ek⟩ := Kd.of_sq hS
      refine ⟨_, rfl, two_le, fun p np => ⟨_, p, [.ty "list", .ty "tuple"], _, [.type "list", .type "tuple"], _, rfl, upd_same, .cons (.ty _) (.cons (.ty _) .nil), (hk.same (same_new np)).ty, kit_LT k, _, rfl, ?_⟩⟩
      rw [ek]
      refine iteT ?_
      have s1 := same_new (o := .tup [.ty "list", .ty "tuple"]) np
      generalize upd H p (.tup [.ty "list", .ty "tuple"]) = H1 at s1
      refine ⟨_, rfl, a, xs, H1, rfl, hS.same s1, fun o e => e, fun J G wJ kJ D nD => lc_it wJ (fun i H' => Same H1 H' ∧ H' D = some (.lst (xs.take i))) ⟨same_new nD, upd_same⟩ (fun i H' _ h => kJ H' fun o => h.1 a o) (fun i y H1' H2 hi h hy => ?_) (fun H' h => ?_)⟩
      · obtain ⟨rfl, hy⟩ := hy
        refine ⟨rfl, tyOk ⟨y, rfl, y, rfl, hf y (List.mem_of_getElem? hy), fun H3 s3 => ⟨_, s3 _ _ h.2, ?_, fun b o e => ?_, ?_⟩⟩⟩
        · rw [List.length_take]
          exact lt_line (by omega)
        · rw [upd_ne (ne_of_none e nD)]
          exact s3 _ _ (h.1 _ _ e)
        · rw [upd_same, take_snoc hy]
      · rw [List.take_length] at h
        refine ⟨D, xs, rfl, .inl ⟨SqL.of h.2, fun l nl => ?_⟩⟩
        exact q _ l (s1.trans (h.1.trans (same_new nl))) (s1.free (h.1.free nl)) upd_same
/-! ### first_twice -/
def keyT (ks : List NK) : NK := .tup (.none :: ks ++ [.tup []])
/-- an item and what it is told apart by -/
def It1 (K : PySem.W.Frag) (H : Hp) (y : V) (k : NK) : Prop := (Lf y ∧ k = .tup [nkOf y]) ∨ ∃ b ys, y = .ref b ∧ Sq K H b ys ∧ (∀ z ∈ ys, Lf z) ∧ ys.length ≤ 100 ∧ k = keyT (ys.map nkOf)
theorem It1.same {H H' : Hp} {y : V} {k : NK} (e : Same H H') (h : It1 K H y k) : It1 K H' y k := by
  rcases h with h | ⟨b, ys, h1, h2, h3⟩
  · exact .inl h
  · exact .inr ⟨b, ys, h1, h2.same e, h3⟩
theorem Lf.nk {H : Hp} {y : V} (h : Lf y) : NkIs K H (nkOf y) y := by
  rcases h with ⟨i, rfl⟩ | ⟨z, rfl⟩
  · exact .int i
  · exact .str z
theorem nkAll_lf {H : Hp} : ∀ (ys : List V), (∀ z ∈ ys, Lf z) → NkAll K H (ys.map nkOf) ys
  | [], _ => .nil
  | y :: ys, h => .cons (h y (List.mem_cons_self)).nk (nkAll_lf ys fun z hz => h z (List.mem_cons_of_mem _ hz))
theorem NkAll.snoc {H : Hp} {k : NK} {v : V} (h1 : NkIs K H k v) : ∀ {ks : List NK} {vs : List V}, NkAll K H ks vs → NkAll K H (ks ++ [k]) (vs ++ [v])
  | [], _, h => by
    cases h
    exact .cons h1 .nil
  | _ :: _, _, h => by
    cases h with
    | cons a b => exact .cons a (NkAll.snoc h1 b)
mutual
theorem NkIs.keep {H H' : Hp} (e : ∀ b xs, SqT K H b xs → SqT K H' b xs) : ∀ {k : NK} {v : V}, NkIs K H k v → NkIs K H' k v
  | .none, _, h => by
    cases h
    exact .non
  | .num i, _, h => by
    cases h
    exact .int i
  | .text i, _, h => by
    cases h
    exact .str i
  | .tup ks, _, h => by
    cases h with
    | tup h1 h2 => exact .tup (e _ _ h1) (NkAll.keep e h2)
theorem NkAll.keep {H H' : Hp} (e : ∀ b xs, SqT K H b xs → SqT K H' b xs) : ∀ {ks : List NK} {vs : List V}, NkAll K H ks vs → NkAll K H' ks vs
  | [], _, h => by
    cases h
    exact .nil
  | _ :: _, _, h => by
    cases h with
    | cons a b => exact .cons (NkIs.keep e a) (NkAll.keep e b)
end
theorem Mems.keep {H H' : Hp} {L : List (Addr × NK)} (e : ∀ b xs, SqT K H b xs → SqT K H' b xs) (h : Mems K H L) : Mems K H' L := fun p hp => ⟨NkIs.keep e (h p hp).1, (h p hp).2⟩
theorem sqT_set {H : Hp} {S : Addr} {w : World} {L L' : List (Addr × NK)} (hS : H S = some (NSetO w S L)) : ∀ b xs, SqT K H b xs → SqT K (upd H S (NSetO w S L')) b xs := fun b xs h => by
  rcases h with (h | ⟨o, h⟩) | h
  · refine .inl (.inl ?_)
    rw [upd_ne (fun z => ?_)]
    · exact h
    · rw [z, hS] at h
      cases h
  · refine .inl (.inr ⟨o, ?_⟩)
    rw [upd_ne (fun z => ?_)]
    · exact h
    · rw [z, hS] at h
      cases h
  · exact .inr h
theorem depth_all {n : Nat} : ∀ (ks : List NK), (∀ k ∈ ks, k.depth ≤ n) → NestedKey.depthAll ks ≤ n
  | [], _ => Nat.zero_le _
  | k :: ks, h => by
    show max _ _ ≤ n
    have h1 := h k (List.mem_cons_self)
    have h2 := depth_all ks fun z hz => h z (List.mem_cons_of_mem _ hz)
    omega
theorem depth_nk {y : V} (h : Lf y) : (nkOf y).depth ≤ 1 := by
  rcases h with ⟨i, rfl⟩ | ⟨z, rfl⟩ <;> exact Nat.zero_le _
theorem depth_keyT {ys : List V} (h : ∀ z ∈ ys, Lf z) : (keyT (ys.map nkOf)).depth ≤ 8 := by
  show NestedKey.depthAll _ + 1 ≤ 8
  have := depth_all (n := 2) (.none :: ys.map nkOf ++ [.tup []]) (fun k hk => ?_)
  · omega
  · rcases List.mem_append.mp hk with hk | hk
    · rcases List.mem_cons.mp hk with rfl | hk
      · decide
      · obtain ⟨y, hy, rfl⟩ := List.mem_map.mp hk
        exact Nat.le_trans (depth_nk (h y hy)) (by decide)
    · rw [List.mem_singleton.mp hk]
      decide
theorem paired_get {α β : Type} {F : α → β → Prop} : ∀ {l₁ : List α} {l₂ : List β}, Paired F l₁ l₂ → ∀ {i : Nat} {x : α}, l₁[i]? = some x → ∃ y, l₂[i]? = some y ∧ F x y
  | _, _, .nil, i, x, h => by simp at h
  | _, _, .cons h1 h2, 0, x, h => by
    simp at h
    subst h
    exact ⟨_, rfl, h1⟩
  | _, _, .cons h1 h2, i + 1, x, h => paired_get h2 (by simpa using h)
/-- the first place at which something stands that stands ahead of it -/
def fTw {α : Type} [DecidableEq α] (l : List α) : Option Nat := (List.range l.length).find? fun i => decide (l[i]? ∈ (l.take i).map some)
theorem fTw_some {α : Type} [DecidableEq α] {l : List α} {i : Nat} {c : α} (h : ∀ j, j < i → ∀ k, l[j]? = some k → k ∉ l.take j) (hc : l[i]? = some c) (hm : c ∈ l.take i) : fTw l = some i := by
  unfold fTw
  rw [List.find?_range_eq_some]
  refine ⟨decide_eq_true ?_, List.mem_range.mpr (List.getElem?_eq_some_iff.mp hc).1, fun j hj => ?_⟩
  · rw [hc]
    exact List.mem_map_of_mem hm
  · rw [Bool.not_eq_true']
    refine decide_eq_false fun z => ?_
    obtain ⟨k, hk, e⟩ := List.mem_map.mp z
    exact h j hj k e.symm hk
theorem fTw_none {α : Type} [DecidableEq α] {l : List α} (h : ∀ j, j < l.length → ∀ k, l[j]? = some k → k ∉ l.take j) : fTw l = none := by
  unfold fTw
  rw [List.find?_range_eq_none]
  intro j hj
  rw [Bool.not_eq_true']
  refine decide_eq_false fun z => ?_
  obtain ⟨k, hk, e⟩ := List.mem_map.mp z
  exact h j hj k e.symm hk
def spTwice (K : PySem.W.Frag) : Sp := fun vs H Q _ => ∃ a xs ks, vs = [.ref a] ∧ Sq K H a xs ∧ xs.length ≤ 60 ∧ Paired (It1 K H) xs ks ∧ (fTw ks = none → ∀ H', Same H H' → Q .non H') ∧
  ∀ i y, fTw ks = some i → xs[i]? = some y → (Lf y → ∀ H', Same H H' → Q y H') ∧ ∀ b ys, y = .ref b → Sq K H b ys → (∀ z ∈ ys, Lf z) → ks[i]? = some (keyT (ys.map nkOf)) → ∀ H' p, Same H H' → H p = none → H' p = some (.tup ys) → Q (.ref p) H'
theorem ok_twice {f : Addr} {fd : FuncData} (F : Fun K "first_twice" "first_twice" sFirstTwice f fd) (B : NB mg) (D_FlatKey : Dn P w K mg base "_flat_key" 2 ["value"] (spFlat1 K)) (D_Fixed : Dn P w K mg base "fixed" 2 ["value"] (spFixed1 K)) : FnOk P w K mg base CX0 3 f fd ["values"] (spTwice K) := by
  refine F.ok scFirstTwice (fun vs H Q E h => ?_) (fun cdv A outer s H vs Q E hr h => ?_)
  · obtain ⟨x, xs, ks, rfl, _⟩ := h
    rfl
  · obtain ⟨a, xs, ks, rfl, hS, hl, hk, qn, qs⟩ := h
    refine ⟨_, (pss_cons (ps_set (i := 1) scFirstTwice.nd rfl (Or.inl rfl) (pe_callTy0 cr_setN (by rfl) B.z_set (by decide +kernel)))
      (pss_cons (ps_for PassesOwn.never rfl (pi_seq (pv 0)) (pg_name (i := 2) scFirstTwice.nd rfl (Or.inl rfl))
      (pss_cons (ps_set (i := 3) scFirstTwice.nd rfl (Or.inl rfl) (pe_fn D_FlatKey (hr.mono (by decide)) (by rfl) (pa_cons (pv 2) pa_nil)))
      (pss_cons (ps_if (pt_cmpR (op_in_setN (hu16 hr)) (pv 3) (pv 1) (by rfl))
        (pss_one (ps_ret (pe_fn D_Fixed (hr.mono (by decide)) (by rfl) (pa_cons (pv 2) pa_nil))))
        pss_nil)
      (pss_one (ps_expr (pe_saddN (hu16 hr) (pv 1) (pa_cons (pv 3) pa_nil)))))))
      (pss_one (ps_ret pe_non)))), ?_⟩
    refine ⟨rfl, fun S nS => ?_⟩
    have s1 := same_new (o := NSetO w S []) nS
    refine ⟨_, rfl, a, xs, H, rfl, hS, fun o e => s1 _ _ e, fun J G wJ kJ => ?_⟩
    have nS2 : ∀ b o, H b = some o → b ≠ S := fun b o e => ne_of_none e nS
    refine for_it wJ (fun i σ H' => (∃ v2 v3, σ = [some (.ref a), some (.ref S), v2, v3]) ∧ Same H H' ∧ (∀ j, j < i → ∀ k, ks[j]? = some k → k ∉ ks.take j) ∧ ∃ L, H' S = some (NSetO w S L) ∧ Mems K H' L ∧ L.length ≤ i ∧ ∀ k, k ∈ L.map (·.2) ↔ k ∈ ks.take i) ⟨⟨none, none, rfl⟩, s1, fun j h => absurd h (Nat.not_lt_zero _), [], upd_same, fun p hp => absurd hp List.not_mem_nil, Nat.le_refl _, fun k => Iff.rfl⟩ (fun i σ H' _ h => kJ H' fun o => h.2.1 a o) (fun i y σ H' H'' hi h hy => ?_) (fun σ H' h => ?_)
    · obtain ⟨⟨v2, v3, rfl⟩, sm, nod, L, hS', hm, lL, hL⟩ := h
      obtain ⟨rfl, hy⟩ := hy
      obtain ⟨c, hc, hi1⟩ := paired_get hk hy
      -- what is done with the key at p, be the item what it may
      have rest : ∀ (D : Ends) (H2 : Hp) (p : Addr), (∀ v3 H3 L', Same H H3 → H3 S = some (NSetO w S L') → Mems K H3 L' → L'.length ≤ i + 1 → (∀ k, k ∈ L'.map (·.2) ↔ k ∈ ks.take (i + 1)) → c ∉ ks.take i → D.nx [some (.ref a), some (.ref S), some y, v3] H3) → (∀ v H3, Q v H3 → D.rt v H3) →
          Same H'' H2 → NkIs K H2 c (.ref p) → c.depth ≤ 8 →
          (tSeq (tIfS (tTest (tOp (rInN K w) (tVar 3) (tVar 1))) (tRet (tCall (spFixed1 K) [] E0 (tCons (tVar 2) tNil))) tNext) (tDrop (tSAddN K w (tVar 1) (tCons (tVar 3) tNil)))) D [some (.ref a), some (.ref S), some y, some (.ref p)] H2 := by
        intro D H2 p hN hR s2 hn hd
        have m2 : Mems K H2 L := Mems.keep (fun b xs => same_seqT s2) hm
        have eS := s2 _ _ hS'
        refine ⟨_, rfl, _, rfl, ⟨S, p, L, c, rfl, rfl, eS, m2, hn, hd, _, rfl, ite2 (fun e => ?_) (fun e => ?_)⟩⟩
        · have hcm : c ∈ ks.take i := (hL c).mp (of_decide_eq_true e)
          have hf : fTw ks = some i := fTw_some nod hc hcm
          have q := qs i y hf hy
          refine ⟨y, rfl, y, rfl, ?_⟩
          rcases hi1 with ⟨hf, rfl⟩ | ⟨b, ys, rfl, hsy, hf, hl', rfl⟩
          · exact .inl ⟨hf, fun H3 s3 => hR _ _ (q.1 hf H3 (sm.trans (s2.trans s3)))⟩
          · exact .inr ⟨b, ys, rfl, hsy.same (sm.trans s2), hf, hl', fun H3 p3 s3 np3 e3 => hR _ _ (q.2 b ys rfl hsy hf hc H3 p3 (sm.trans (s2.trans s3)) (sm.free (s2.free np3)) e3)⟩
        · have hcm : c ∉ ks.take i := fun z => e (decide_eq_true ((hL c).mpr z))
          have hcm2 : c ∉ L.map (·.2) := fun z => hcm ((hL c).mp z)
          refine ⟨_, rfl, ⟨S, L, rfl, eS⟩, _, rfl, S, p, L, c, rfl, rfl, eS, m2, hn, hd, by omega, fun L' _ hp => ?_⟩
          have hp := hp hcm2
          refine hN _ _ L' (fun b o e => ?_) upd_same (Mems.keep (sqT_set eS) fun z hz => ?_) ?_ (fun k => ?_) hcm
          · rw [upd_ne (nS2 b o e)]
            exact s2 _ _ (sm _ _ e)
          · rcases List.mem_cons.mp (hp.mem_iff.mp hz) with rfl | hz
            · exact ⟨hn, hd⟩
            · exact m2 z hz
          · rw [hp.length_eq, List.length_cons]
            omega
          · rw [(hp.map _).mem_iff, take_snoc hc, List.mem_append, List.map_cons, List.mem_cons, List.mem_singleton, hL k]
            exact Or.comm
      rcases hi1 with ⟨hf, rfl⟩ | ⟨b, ys, rfl, hsy, hf, hl', rfl⟩
      · refine ⟨y, rfl, y, rfl, .inl ⟨hf, fun H2 p s2 np e2 => ?_⟩⟩
        refine rest _ H2 p (fun v3 H3 L' a1 a2 a3 a4 a5 a6 => ⟨⟨_, _, rfl⟩, a1, fun j hj k hk => ?_, L', a2, a3, a4, a5⟩) (fun _ _ h => h) s2 (.tup (.inl (.inl e2)) (.cons hf.nk .nil)) ?_
        · rcases Nat.lt_succ_iff_lt_or_eq.mp hj with hj | rfl
          · exact nod j hj k hk
          · rw [hc] at hk
            cases hk
            exact a6
        · show NestedKey.depthAll _ + 1 ≤ 8
          have := depth_all (n := 1) [nkOf y] (fun k hk => by rw [List.mem_singleton.mp hk]; exact depth_nk hf)
          omega
      · refine ⟨_, rfl, _, rfl, .inr ⟨b, ys, rfl, hsy.same sm, hf, hl', fun H2 p e s2 np e2 e3 => ?_⟩⟩
        refine rest _ H2 p (fun v3 H3 L' a1 a2 a3 a4 a5 a6 => ⟨⟨_, _, rfl⟩, a1, fun j hj k hk => ?_, L', a2, a3, a4, a5⟩) (fun _ _ h => h) s2 (.tup (.inl (.inl e2)) (NkAll.snoc (.tup (.inl (.inl e3)) .nil) (.cons .non (nkAll_lf ys hf)))) (depth_keyT hf)
        · rcases Nat.lt_succ_iff_lt_or_eq.mp hj with hj | rfl
          · exact nod j hj k hk
          · rw [hc] at hk
            cases hk
            exact a6
    · obtain ⟨⟨v2, v3, rfl⟩, sm, nod, _⟩ := h
      rw [Paired.length hk] at nod
      exact qn (fTw_none nod) H' sm
end
end K00
/-! The law's own drawing of numbers and values. -/
namespace K00
open PySem PySem.Spec PyProof.Rows L2 Kit
abbrev sLawUrn : Stmt := topS 33
abbrev n_sLawUrn : List Str := ["script", "cell"]
theorem scLawUrn : FnScope n_sLawUrn ["script"] (defScope sLawUrn) := ⟨rfl, rfl, rfl, by decide +kernel, rfl, by decide +kernel, by decide +kernel⟩
abbrev sLawDip : Stmt := topS 34
abbrev n_sLawDip : List Str := ["urn", "many", "digit", "at", "cell", "great", "mixed"]
theorem scLawDip : FnScope n_sLawDip ["urn", "many"] (defScope sLawDip) := ⟨rfl, rfl, rfl, by decide +kernel, rfl, by decide +kernel, by decide +kernel⟩
abbrev sLawOne : Stmt := topS 35
abbrev n_sLawOne : List Str := ["urn", "some"]
theorem scLawOne : FnScope n_sLawOne ["urn", "some"] (defScope sLawOne) := ⟨rfl, rfl, rfl, by decide +kernel, rfl, by decide +kernel, by decide +kernel⟩
abbrev sLawValue : Stmt := topS 36
abbrev n_sLawValue : List Str := ["urn", "small"]
theorem scLawValue : FnScope n_sLawValue ["urn"] (defScope sLawValue) := ⟨rfl, rfl, rfl, by decide +kernel, rfl, by decide +kernel, by decide +kernel⟩

/-- all but what stands at u stays -/
def Gr (u : Addr) (H H' : Hp) : Prop := ∀ b o, b ≠ u → H b = some o → H' b = some o
theorem Gr.refl (u : Addr) (H : Hp) : Gr u H H := fun _ _ _ h => h
theorem Gr.trans {u : Addr} {H H1 H2 : Hp} (a : Gr u H H1) (b : Gr u H1 H2) : Gr u H H2 := fun c o n h => b c o n (a c o n h)
theorem same_gr {u : Addr} {H H1 : Hp} (a : Same H H1) : Gr u H H1 := fun c o _ h => a c o h
theorem gr_set {u : Addr} {H : Hp} {o : HO} : Gr u H (upd H u o) := fun c x n h => by
  rw [upd_ne n]
  exact h
/-- the numbers still to be drawn from -/
def UrnL (u : Addr) (c : Addr) (ds : List Int) (k l : Int) (H : Hp) : Prop := H u = some (.lst [.ref c, .int k, .int l]) ∧ H c = some (.lst (ds.map V.int)) ∧ c ≠ u
def Urn (u c : Addr) (n : Nat) (H : Hp) : Prop := ∃ ds k l, UrnL u c ds k l H ∧ 0 ≤ k ∧ k ≤ (n : Int) ∧ 0 ≤ l ∧ ds.length ≤ 100
theorem UrnL.same {u c : Addr} {ds : List Int} {k l : Int} {H H' : Hp} (s : Same H H') (h : UrnL u c ds k l H) : UrnL u c ds k l H' := ⟨s _ _ h.1, s _ _ h.2.1, h.2.2⟩
theorem UrnL.set {u c : Addr} {ds : List Int} {k l k' l' : Int} {H : Hp} (h : UrnL u c ds k l H) : UrnL u c ds k' l' (upd H u (.lst [.ref c, .int k', .int l'])) := ⟨upd_same, by rw [upd_ne h.2.2]; exact h.2.1, h.2.2⟩
theorem Urn.same {u c : Addr} {n : Nat} {H H' : Hp} (s : Same H H') : Urn u c n H → Urn u c n H' := fun ⟨ds, k, l, h, r⟩ => ⟨ds, k, l, h.same s, r⟩
theorem Urn.mono {u c : Addr} {n m : Nat} {H : Hp} (h : n ≤ m) : Urn u c n H → Urn u c m H := fun ⟨ds, k, l, a, r1, r2, r3⟩ => ⟨ds, k, l, a, r1, by omega, r3⟩
theorem Urn.at {u c : Addr} {n : Nat} {H : Hp} : Urn u c n H → ∃ o, H u = some o := fun ⟨ds, k, l, h, _⟩ => ⟨_, h.1⟩
theorem Urn.atC {u c : Addr} {n : Nat} {H : Hp} : Urn u c n H → ∃ o, H c = some o := fun ⟨ds, k, l, h, _⟩ => ⟨_, h.2.1⟩
theorem Urn.upd {u c : Addr} {n : Nat} {H : Hp} {b : Addr} {o : HO} (n1 : b ≠ u) (n2 : b ≠ c) : Urn u c n H → Urn u c n (upd H b o) := fun ⟨ds, k, l, h, r⟩ => ⟨ds, k, l, ⟨by rw [upd_ne n1.symm]; exact h.1, by rw [upd_ne n2.symm]; exact h.2.1, h.2.2⟩, r⟩
theorem urn_ne {u c : Addr} {n : Nat} {H : Hp} (U : Urn u c n H) {p : Addr} (e : H p = none) : p ≠ u := by
  obtain ⟨o, h⟩ := U.at
  exact (ne_of_none h e).symm
theorem urn_neC {u c : Addr} {n : Nat} {H : Hp} (U : Urn u c n H) {p : Addr} (e : H p = none) : p ≠ c := by
  obtain ⟨o, h⟩ := U.atC
  exact (ne_of_none h e).symm
theorem Gr.free {u c : Addr} {m : Nat} {H H' : Hp} (g : Gr u H H') (h : Urn u c m H') {p : Addr} (e : H' p = none) : H p = none := by
  cases q : H p with
  | none => rfl
  | some o =>
    have n : p ≠ u := fun z => by
      obtain ⟨o', ho⟩ := h.at
      rw [z, ho] at e
      cases e
    rw [g p o n q] at e
    cases e
theorem dpAll_ints {K : PySem.W.Frag} {H : Hp} : ∀ (ds : List Int), DpAll K H (ds.map V.int) (ds.map PyData.int)
  | [] => .nil
  | d :: ds => .cons (.int d) (dpAll_ints ds)
section
variable {P : Program} {w : World} {K : PySem.W.Frag} {mg : Str → Option Value} {base : Heap}
/-! ### dip -/
def spDip : Sp := fun vs H Q _ => ∃ u c m n, vs = [.ref u, .int m] ∧ 0 < m ∧ m < 1000000 ∧ n < 100000 ∧ Urn u c n H ∧ ∀ H' k, Gr u H H' → Urn u c (n + 1) H' → 0 ≤ k → k < m → Q (.int k) H'
theorem divW {i m : Int} (h : 0 < m) (h2 : m < 1000000) : CDivW i m := ⟨h, by
  have e : m.natAbs < 2 ^ 20 := by omega
  have := (Nat.log2_lt (n := m.natAbs) (k := 20) (by omega)).mpr e
  omega⟩
theorem cellI {ds : List Int} {k : Int} (k0 : 0 ≤ k) (h : ds ≠ []) : ∃ x : Int, atI (ds.map V.int) (k % ((ds.map V.int).length : Int)) = some (.int x) := by
  have hl : 0 < ds.length := List.length_pos_iff.mpr h
  rw [List.length_map]
  have h1 := Int.emod_nonneg k (show (ds.length : Int) ≠ 0 by omega)
  have h2 := Int.emod_lt_of_pos k (show (0 : Int) < ds.length by omega)
  obtain ⟨j, hj⟩ : ∃ j : Nat, k % (ds.length : Int) = j := ⟨(k % (ds.length : Int)).toNat, by omega⟩
  rw [hj]
  exact ⟨_, atI_cell (ns := ds) (j := j) (by omega)⟩
theorem eqv_nil {ds : List Int} (h : (!(PyData.eqv (.list (ds.map .int)) (.list []))) = true) : ds ≠ [] := by
  rintro rfl
  exact absurd h (by decide)
theorem great_nn {a : Int} {b : Bool} (h : 10 ^ (18 : Int).toNat ≤ a) : 0 ≤ 2 * (a - 10 ^ (18 : Int).toNat) + (if b = true then 1 else 0) := by
  have : (0 : Int) ≤ (if b = true then 1 else 0) := by split <;> decide
  omega
theorem pow_ok {i : Int} {j : Int} (h0 : 0 ≤ j) (h1 : j ≤ 30) (h : -18446744073709551616 < i ∧ i < 18446744073709551616) : CPow i j := ⟨h0, by omega, by omega⟩
theorem pm1 : (0 : Int) < 2147483629 := by decide
theorem pm2 : (0 : Int) < 2147483587 := by decide
theorem pm3 : (0 : Int) < 2147483563 := by decide
theorem mix1 {x k : Int} (k0 : 0 ≤ k) (kn : k ≤ 100000) : -18446744073709551616 < x % 2147483629 + 87103 * k + 2303 ∧ x % 2147483629 + 87103 * k + 2303 < 18446744073709551616 := by
  have h1 := Int.emod_nonneg x (show (2147483629 : Int) ≠ 0 by decide)
  have h2 := Int.emod_lt_of_pos x (show (0 : Int) < 2147483629 by decide)
  omega
theorem mix2 {x k : Int} (k0 : 0 ≤ k) (kn : k ≤ 100000) : (-18446744073709551616 < (x % 2147483587) * (2 * k + 2303) + 90107 * k * k + 87103 ∧ (x % 2147483587) * (2 * k + 2303) + 90107 * k * k + 87103 < 18446744073709551616) ∧ CMul (x % 2147483587) (2 * k + 2303) := by
  have h1 := Int.emod_nonneg x (show (2147483587 : Int) ≠ 0 by decide)
  have h2 := Int.emod_lt_of_pos x (show (0 : Int) < 2147483587 by decide)
  generalize x % 2147483587 = y at h1 h2
  have h3 : y * (2 * k + 2303) ≤ 2147483587 * 202303 := Int.mul_le_mul (by omega) (by omega) (by omega) (by omega)
  have h4 : 0 ≤ y * (2 * k + 2303) := Int.mul_nonneg h1 (by omega)
  have h5 : 90107 * k * k ≤ 9010700000 * 100000 := Int.mul_le_mul (by omega) kn k0 (by omega)
  have h6 : 0 ≤ 90107 * k * k := Int.mul_nonneg (by omega) k0
  refine ⟨by omega, .inl (by omega)⟩
theorem ok_dip {f : Addr} {fd : FuncData} (F : Fun K "_law_dip" "_law_dip" sLawDip f fd) (B : NB mg) : FnOk P w K mg base CX0 1 f fd ["urn", "many"] spDip := by
  refine F.ok scLawDip (fun vs H Q E h => ?_) (fun cdv A outer s H vs Q E hr h => ?_)
  · obtain ⟨u, c, m, n, rfl, _⟩ := h
    rfl
  · obtain ⟨u, c, m, n, rfl, hm, hm2, hn, ⟨ds, k, l, hU, k0, kn, l0, hd⟩, q⟩ := h
    refine ⟨_, (pss_cons (ps_if (pt_cmpR op_gt (pe_ix ix_list (pv 0) pe_int (fun _ _ => rfl)) pe_int (nomark _))
        (pss_cons (ps_set (i := 2) scLawDip.nd rfl (Or.inl rfl) (pe_op op_mod (pe_callTy call_int1 (by rfl) B.z_int (by decide +kernel) (pa_cons (pe_ix ix_list (pv 0) pe_int (fun _ _ => rfl)) pa_nil)) (pv 1)))
      (pss_cons (ps_asg (pe_op op_fdivW (pe_callTy call_int1 (by rfl) B.z_int (by decide +kernel) (pa_cons (pe_ix ix_list (pv 0) pe_int (fun _ _ => rfl)) pa_nil)) (pv 1)) (pg_sub (pv 0) pe_int set_list))
      (pss_one (ps_ret (pv 2)))))
        pss_nil)
      (pss_cons (ps_set (i := 3) scLawDip.nd rfl (Or.inl rfl) (pe_ix ix_list (pv 0) pe_int (fun _ _ => rfl)))
      (pss_cons (ps_asg (pe_op op_add (pv 3) pe_int) (pg_sub (pv 0) pe_int set_list))
      (pss_cons (ps_set (i := 4) scLawDip.nd rfl (Or.inl rfl) (pe_op op_add (pe_op op_mul pe_int (pv 3)) pe_int))
      (pss_cons (ps_if (pt_cmpR (op_neD hr.units) (pe_ix ix_list (pv 0) pe_int (fun _ _ => rfl)) (pe_lst pa_nil) (nomark _))
        (pss_one (ps_set (i := 4) scLawDip.nd rfl (Or.inl rfl) (pe_ix ix_list (pe_ix ix_list (pv 0) pe_int (fun _ _ => rfl)) (pe_op op_mod (pe_callTy call_int1 (by rfl) B.z_int (by decide +kernel) (pa_cons (pv 3) pa_nil)) (pe_callB call_len (by rfl) B.z_len PySem.boot_len (pa_cons (pe_ix ix_list (pv 0) pe_int (fun _ _ => rfl)) pa_nil))) (fun _ _ => rfl))))
        pss_nil)
      (pss_cons (ps_if (PW.pt (pw_and (pt_cmpR op_lt (pv 3) (pe_callB call_len (by rfl) B.z_len PySem.boot_len (pa_cons (pe_ix ix_list (pv 0) pe_int (fun _ _ => rfl)) pa_nil)) (nomark _)) (pw_and1 (pt_cmpR op_ge (pe_callB call_abs (by rfl) B.z_abs (by decide +kernel) (pa_cons (pv 4) pa_nil)) (pe_op op_pow pe_int pe_int) (nomark _)))))
        (pss_cons (ps_set (i := 5) scLawDip.nd rfl (Or.inl rfl) (pe_op op_add (pe_op op_mul pe_int (pe_op op_sub (pe_callB call_abs (by rfl) B.z_abs (by decide +kernel) (pa_cons (pv 4) pa_nil)) (pe_op op_pow pe_int pe_int))) (pe_callTy call_int1 (by rfl) B.z_int (by decide +kernel) (pa_cons (pe_cmpR op_lt (pv 4) pe_int (nomark _)) pa_nil))))
      (pss_cons (ps_asg (pe_op op_fdivW (pe_callTy call_int1 (by rfl) B.z_int (by decide +kernel) (pa_cons (pv 5) pa_nil)) (pv 1)) (pg_sub (pv 0) pe_int set_list))
      (pss_one (ps_ret (pe_op op_mod (pe_callTy call_int1 (by rfl) B.z_int (by decide +kernel) (pa_cons (pv 5) pa_nil)) (pv 1))))))
        pss_nil)
      (pss_cons (ps_set (i := 6) scLawDip.nd rfl (Or.inl rfl) (pe_op op_mod (pe_callTy call_int1 (by rfl) B.z_int (by decide +kernel) (pa_cons (pe_op op_pow (pe_op op_add (pe_op op_add (pe_op op_mod (pe_callTy call_int1 (by rfl) B.z_int (by decide +kernel) (pa_cons (pv 4) pa_nil)) pe_int) (pe_op op_mul pe_int (pv 3))) pe_int) pe_int) pa_nil)) pe_int))
      (pss_cons (ps_set (i := 6) scLawDip.nd rfl (Or.inl rfl) (pe_op op_mod (pe_callTy call_int1 (by rfl) B.z_int (by decide +kernel) (pa_cons (pe_op op_pow (pe_op op_add (pe_op op_add (pe_op op_mul (pv 6) (pe_op op_add (pe_op op_mul pe_int (pv 3)) pe_int)) (pe_op op_mul (pe_op op_mul pe_int (pv 3)) (pv 3))) pe_int) pe_int) pa_nil)) pe_int))
      (pss_one (ps_ret (pe_op op_mod (pe_callTy call_int1 (by rfl) B.z_int (by decide +kernel) (pa_cons (pe_op op_fdivW (pv 6) pe_int) pa_nil)) (pv 1)))))))))))), ?_⟩
    refine ⟨_, rfl, u, _, 2, _, rfl, rfl, SqL.of hU.1, rfl, l, 0, rfl, rfl, _, rfl, ite2 (fun e => ?_) (fun e => ?_)⟩
    · refine ⟨_, rfl, u, _, 2, _, rfl, rfl, SqL.of hU.1, rfl, .inl ⟨l, rfl, _, rfl, l, m, rfl, rfl, hm, ?_⟩⟩
      refine ⟨_, rfl, u, _, 2, _, rfl, rfl, SqL.of hU.1, rfl, .inl ⟨l, rfl, _, rfl, l, m, rfl, rfl, divW hm hm2, ?_⟩⟩
      refine ⟨_, rfl, u, _, 2, 2, rfl, rfl, hU.1, rfl, _, rfl, ?_⟩
      exact q _ _ gr_set ⟨ds, k, l / m, hU.set, k0, by omega, Int.ediv_nonneg l0 (by omega), hd⟩ (Int.emod_nonneg _ (by omega)) (Int.emod_lt_of_pos _ hm)
    · refine ⟨_, rfl, u, _, 1, _, rfl, rfl, SqL.of hU.1, rfl, ?_⟩
      refine ⟨_, rfl, k, 1, rfl, rfl, _, rfl, u, _, 1, 1, rfl, rfl, hU.1, rfl, ?_⟩
      generalize hX : upd H u _ = H1
      have U1 : UrnL u c ds (k + 1) l H1 := hX ▸ hU.set
      have g1 : Gr u H H1 := hX ▸ gr_set (o := .lst [.ref c, .int (k + 1), .int l])
      have kb : -(2 ^ 64) < k ∧ k < 2 ^ 64 := by omega
      refine ⟨_, rfl, 90107, k, rfl, rfl, .inr kb, _, 2303, rfl, rfl, ?_⟩
      refine ⟨_, rfl, u, _, 0, _, rfl, rfl, SqL.of U1.1, rfl, Nat.zero_le _, fun z nz => ?_⟩
      have U2 := U1.same (same_new (o := .lst []) nz)
      have g2 := g1.trans (same_gr (same_new (o := .lst []) nz))
      refine ⟨.list (ds.map .int), .list [], .lst (SqL.of U2.2.1) (dpAll_ints ds), .lst (SqL.of upd_same) .nil, ?_, rfl, _, rfl, ?_⟩
      · exact PySem.W.shaped_ints ds
      generalize upd H1 z (.lst []) = H2 at U2 g2
      refine ite2 (fun e => ?_) (fun e => ?_)
      · obtain ⟨x, hx⟩ := cellI k0 (eqv_nil e)
        refine ⟨_, rfl, u, _, 0, _, rfl, rfl, SqL.of U2.1, rfl, _, rfl, .inl ⟨k, rfl, ?_⟩⟩
        refine ⟨_, rfl, u, _, 0, _, rfl, rfl, SqL.of U2.1, rfl, _, _, rfl, .inl ⟨_, SqL.of U2.2.1, rfl⟩, _, _, rfl, rfl, ?_, _, _, _, _, rfl, rfl, SqL.of U2.2.1, hx, ?_⟩
        · have := List.length_pos_iff.mpr (eqv_nil e)
          rw [List.length_map]
          omega
        refine ⟨_, rfl, _, rfl, u, _, 0, _, rfl, rfl, SqL.of U2.1, rfl, _, _, rfl, .inl ⟨_, SqL.of U2.2.1, rfl⟩, _, _, rfl, rfl, _, rfl, ?_⟩
        refine ite2 (fun e1 => ?_) (fun e1 => ?_)
        · refine ⟨_, rfl, _, rfl, _, _, rfl, rfl, pow_ok (by decide) (by decide) (by decide), _, _, rfl, rfl, _, rfl, ite2 (fun e2 => ?_) (fun e2 => ?_)⟩
          · refine ⟨_, rfl, _, rfl, _, _, rfl, rfl, pow_ok (by decide) (by decide) (by decide), _, _, rfl, rfl, _, _, rfl, rfl, .inl ⟨by decide, by decide⟩, _, rfl, _, _, rfl, rfl, .inr ⟨_, rfl, _, _, rfl, rfl, ?_⟩⟩
            refine ⟨_, rfl, .inl ⟨_, rfl, _, rfl, _, _, rfl, rfl, divW hm hm2, _, rfl, _, _, 2, 2, rfl, rfl, U2.1, rfl, _, rfl, .inl ⟨_, rfl, _, rfl, _, _, rfl, rfl, hm, ?_⟩⟩⟩
            exact q _ _ (g2.trans gr_set) ⟨ds, k + 1, _, U2.set, by omega, by omega, Int.ediv_nonneg (great_nn (of_decide_eq_true e2)) (by omega), hd⟩ (Int.emod_nonneg _ (by omega)) (Int.emod_lt_of_pos _ hm)
          · refine ⟨_, rfl, .inl ⟨_, rfl, _, _, rfl, rfl, pm1, _, rfl, _, _, rfl, rfl, .inl ⟨by decide, by decide⟩, _, _, rfl, rfl, _, _, rfl, rfl, _, _, rfl, rfl, pow_ok (by decide) (by decide) (mix1 k0 (by omega)), .inl ⟨_, rfl, _, _, rfl, rfl, pm2, ?_⟩⟩⟩
            refine ⟨_, rfl, _, rfl, _, _, rfl, rfl, .inl ⟨by decide, by decide⟩, _, _, rfl, rfl, _, _, rfl, rfl, (mix2 k0 (by omega)).2, _, rfl, _, _, rfl, rfl, .inl ⟨by decide, by decide⟩, _, rfl, _, _, rfl, rfl, .inr kb, _, _, rfl, rfl, _, _, rfl, rfl, _, _, rfl, rfl, pow_ok (by decide) (by decide) (mix2 k0 (by omega)).1, .inl ⟨_, rfl, _, _, rfl, rfl, pm3, ?_⟩⟩
            refine ⟨_, rfl, _, _, rfl, rfl, divW (by decide) (by decide), .inl ⟨_, rfl, _, rfl, _, _, rfl, rfl, hm, ?_⟩⟩
            exact q H2 _ g2 ⟨ds, k + 1, l, U2, by omega, by omega, l0, hd⟩ (Int.emod_nonneg _ (by omega)) (Int.emod_lt_of_pos _ hm)
        · refine ⟨_, rfl, .inl ⟨_, rfl, _, _, rfl, rfl, pm1, _, rfl, _, _, rfl, rfl, .inl ⟨by decide, by decide⟩, _, _, rfl, rfl, _, _, rfl, rfl, _, _, rfl, rfl, pow_ok (by decide) (by decide) (mix1 k0 (by omega)), .inl ⟨_, rfl, _, _, rfl, rfl, pm2, ?_⟩⟩⟩
          refine ⟨_, rfl, _, rfl, _, _, rfl, rfl, .inl ⟨by decide, by decide⟩, _, _, rfl, rfl, _, _, rfl, rfl, (mix2 k0 (by omega)).2, _, rfl, _, _, rfl, rfl, .inl ⟨by decide, by decide⟩, _, rfl, _, _, rfl, rfl, .inr kb, _, _, rfl, rfl, _, _, rfl, rfl, _, _, rfl, rfl, pow_ok (by decide) (by decide) (mix2 k0 (by omega)).1, .inl ⟨_, rfl, _, _, rfl, rfl, pm3, ?_⟩⟩
          refine ⟨_, rfl, _, _, rfl, rfl, divW (by decide) (by decide), .inl ⟨_, rfl, _, rfl, _, _, rfl, rfl, hm, ?_⟩⟩
          exact q H2 _ g2 ⟨ds, k + 1, l, U2, by omega, by omega, l0, hd⟩ (Int.emod_nonneg _ (by omega)) (Int.emod_lt_of_pos _ hm)
      · refine ⟨_, rfl, _, rfl, u, _, 0, _, rfl, rfl, SqL.of U2.1, rfl, _, _, rfl, .inl ⟨_, SqL.of U2.2.1, rfl⟩, _, _, rfl, rfl, _, rfl, ?_⟩
        refine ite2 (fun e1 => ?_) (fun e1 => ?_)
        · refine ⟨_, rfl, _, rfl, _, _, rfl, rfl, pow_ok (by decide) (by decide) (by decide), _, _, rfl, rfl, _, rfl, ite2 (fun e2 => ?_) (fun e2 => ?_)⟩
          · refine ⟨_, rfl, _, rfl, _, _, rfl, rfl, pow_ok (by decide) (by decide) (by decide), _, _, rfl, rfl, _, _, rfl, rfl, .inl ⟨by decide, by decide⟩, _, rfl, _, _, rfl, rfl, .inr ⟨_, rfl, _, _, rfl, rfl, ?_⟩⟩
            refine ⟨_, rfl, .inl ⟨_, rfl, _, rfl, _, _, rfl, rfl, divW hm hm2, _, rfl, _, _, 2, 2, rfl, rfl, U2.1, rfl, _, rfl, .inl ⟨_, rfl, _, rfl, _, _, rfl, rfl, hm, ?_⟩⟩⟩
            exact q _ _ (g2.trans gr_set) ⟨ds, k + 1, _, U2.set, by omega, by omega, Int.ediv_nonneg (great_nn (of_decide_eq_true e2)) (by omega), hd⟩ (Int.emod_nonneg _ (by omega)) (Int.emod_lt_of_pos _ hm)
          · refine ⟨_, rfl, .inl ⟨_, rfl, _, _, rfl, rfl, pm1, _, rfl, _, _, rfl, rfl, .inl ⟨by decide, by decide⟩, _, _, rfl, rfl, _, _, rfl, rfl, _, _, rfl, rfl, pow_ok (by decide) (by decide) (mix1 k0 (by omega)), .inl ⟨_, rfl, _, _, rfl, rfl, pm2, ?_⟩⟩⟩
            refine ⟨_, rfl, _, rfl, _, _, rfl, rfl, .inl ⟨by decide, by decide⟩, _, _, rfl, rfl, _, _, rfl, rfl, (mix2 k0 (by omega)).2, _, rfl, _, _, rfl, rfl, .inl ⟨by decide, by decide⟩, _, rfl, _, _, rfl, rfl, .inr kb, _, _, rfl, rfl, _, _, rfl, rfl, _, _, rfl, rfl, pow_ok (by decide) (by decide) (mix2 k0 (by omega)).1, .inl ⟨_, rfl, _, _, rfl, rfl, pm3, ?_⟩⟩
            refine ⟨_, rfl, _, _, rfl, rfl, divW (by decide) (by decide), .inl ⟨_, rfl, _, rfl, _, _, rfl, rfl, hm, ?_⟩⟩
            exact q H2 _ g2 ⟨ds, k + 1, l, U2, by omega, by omega, l0, hd⟩ (Int.emod_nonneg _ (by omega)) (Int.emod_lt_of_pos _ hm)
        · refine ⟨_, rfl, .inl ⟨_, rfl, _, _, rfl, rfl, pm1, _, rfl, _, _, rfl, rfl, .inl ⟨by decide, by decide⟩, _, _, rfl, rfl, _, _, rfl, rfl, _, _, rfl, rfl, pow_ok (by decide) (by decide) (mix1 k0 (by omega)), .inl ⟨_, rfl, _, _, rfl, rfl, pm2, ?_⟩⟩⟩
          refine ⟨_, rfl, _, rfl, _, _, rfl, rfl, .inl ⟨by decide, by decide⟩, _, _, rfl, rfl, _, _, rfl, rfl, (mix2 k0 (by omega)).2, _, rfl, _, _, rfl, rfl, .inl ⟨by decide, by decide⟩, _, rfl, _, _, rfl, rfl, .inr kb, _, _, rfl, rfl, _, _, rfl, rfl, _, _, rfl, rfl, pow_ok (by decide) (by decide) (mix2 k0 (by omega)).1, .inl ⟨_, rfl, _, _, rfl, rfl, pm3, ?_⟩⟩
          refine ⟨_, rfl, _, _, rfl, rfl, divW (by decide) (by decide), .inl ⟨_, rfl, _, rfl, _, _, rfl, rfl, hm, ?_⟩⟩
          exact q H2 _ g2 ⟨ds, k + 1, l, U2, by omega, by omega, l0, hd⟩ (Int.emod_nonneg _ (by omega)) (Int.emod_lt_of_pos _ hm)
/-! ### the urn -/
def spUrn (K : PySem.W.Frag) : Sp := fun vs H Q _ => ∃ (a : Addr) (ns : List Int), vs = [.ref a] ∧ SqL K H a (ns.map V.int) ∧ ns.length ≤ 63 ∧ ∀ H' u c, Same H H' → H u = none → Urn u c 0 H' → Q (.ref u) H'
theorem cut_ints (ns : List Int) (lo hi : Option Int) : ∃ ds : List Int, cutV (ns.map V.int) lo hi = ds.map V.int ∧ ds.length ≤ ns.length := by
  refine ⟨(ns.drop (HT.sIx (ns.map V.int).length 0 lo)).take (HT.sIx (ns.map V.int).length (ns.map V.int).length hi - HT.sIx (ns.map V.int).length 0 lo), ?_, ?_⟩
  · rw [List.map_take, List.map_drop]
    rfl
  · rw [List.length_take, List.length_drop]
    omega
theorem take_ints {ds : List Int} {i : Nat} {y : V} (h : (ds.map V.int)[i]? = some y) : ∃ d, y = .int d ∧ (ds.take (i + 1)).map V.int = (ds.take i).map V.int ++ [.int d] := by
  rw [List.getElem?_map] at h
  cases e : ds[i]? with
  | none =>
    rw [e] at h
    cases h
  | some d =>
    rw [e] at h
    refine ⟨d, (Option.some.inj h).symm, ?_⟩
    rw [take_snoc e, List.map_append]
    rfl
theorem ok_urn {f : Addr} {fd : FuncData} (F : Fun K "_law_urn" "_law_urn" sLawUrn f fd) (B : NB mg) : FnOk P w K mg base CX0 1 f fd ["script"] (spUrn K) := by
  refine F.ok scLawUrn (fun vs H Q E h => ?_) (fun cdv A outer s H vs Q E hr h => ?_)
  · obtain ⟨a, ns, rfl, _⟩ := h
    rfl
  · obtain ⟨a, ns, rfl, hS, hl, q⟩ := h
    refine ⟨_, (pss_one (ps_ret (pe_lst (pa_cons (pe_lc (own := [("cell", 1)]) (g := gName 1) (tt := tYes) rfl scLawUrn.nd (pi_list (pe_slice sl_list (pv 0) po_none (po_some pe_int))) (blkOk_by (N := n_sLawUrn) (sc := (defScope sLawUrn)) (by decide +kernel)) (fun _ _ _ _ _ => (pg_name (i := 1) scLawUrn.nd rfl (Or.inl rfl))) (fun _ _ _ _ _ => pts_nil) (fun _ _ _ _ _ => (pe_callTy call_int1 (by rfl) B.z_int (by decide +kernel) (pa_cons (pv 1) pa_nil)))) (pa_cons pe_int (pa_cons pe_int pa_nil)))))), ?_⟩
    obtain ⟨ds, ed, ld⟩ := cut_ints ns none (some 62)
    refine ⟨_, rfl, _, rfl, a, _, rfl, hS, fun p np => ?_⟩
    rw [ed]
    have s1 := same_new (o := .lst (ds.map V.int)) np
    have e1 : (upd H p (.lst (ds.map V.int))) p = some (.lst (ds.map V.int)) := upd_same
    generalize upd H p (.lst (ds.map V.int)) = H1 at s1 e1
    refine ⟨p, rfl, ⟨_, SqL.of e1⟩, fun D nD => lc_list (K := K) (a := p) (xs := ds.map V.int) (fun i H' => Same H1 H' ∧ H' D = some (.lst ((ds.take i).map V.int))) ⟨same_new nD, upd_same⟩ (fun i H' _ h => SqL.of (h.1 _ _ e1)) (fun i y H' hy h => ?_) (fun H' h => ?_)⟩
    · obtain ⟨d, rfl, et⟩ := take_ints hy
      refine ⟨rfl, tyOk ⟨_, rfl, .inl ⟨_, rfl, _, h.2, ?_, fun b o e => ?_, ?_⟩⟩⟩
      · rw [List.length_map, List.length_take]
        exact lt_line (by omega)
      · rw [upd_ne (ne_of_none e nD)]
        exact h.1 _ _ e
      · rw [upd_same, et]
    · rw [List.length_map, List.take_length] at h
      refine ⟨le_line (by show 3 ≤ 100000; decide), fun u nu => ?_⟩
      have s2 := s1.trans h.1
      refine q _ u D (s2.trans (same_new nu)) (s2.free nu) ⟨ds, 0, 0, ⟨upd_same, ?_, ne_of_none h.2 nu⟩, Int.le_refl _, Int.le_refl _, Int.le_refl _, by omega⟩
      exact same_new nu _ _ h.2
/-! ### one of some -/
def spOne (K : PySem.W.Frag) : Sp := fun vs H Q _ => ∃ u c s xs n, vs = [.ref u, .ref s] ∧ SqL K H s xs ∧ s ≠ u ∧ xs ≠ [] ∧ xs.length ≤ 1000 ∧ n < 100000 ∧ Urn u c n H ∧ ∀ H' x, Gr u H H' → Urn u c (n + 1) H' → x ∈ xs → Q x H'
theorem ok_one {f : Addr} {fd : FuncData} (F : Fun K "_law_one" "_law_one" sLawOne f fd) (B : NB mg) (D_LawDip : Dn P w K mg base "_law_dip" 1 ["urn", "many"] spDip) : FnOk P w K mg base CX0 2 f fd ["urn", "some"] (spOne K) := by
  refine F.ok scLawOne (fun vs H Q E h => ?_) (fun cdv A outer s H vs Q E hr h => ?_)
  · obtain ⟨u, c, s, xs, n, rfl, _⟩ := h
    rfl
  · obtain ⟨u, c, s, xs, n, rfl, hS, ns, nx, lx, hn, hU, q⟩ := h
    refine ⟨_, (pss_one (ps_ret (pe_ix ix_list (pv 1) (pe_fn D_LawDip (hr.mono (by decide)) (by rfl) (pa_cons (pv 0) (pa_cons (pe_callB call_len (by rfl) B.z_len PySem.boot_len (pa_cons (pv 1) pa_nil)) pa_nil))) (fun _ _ => rfl)))), ?_⟩
    have hl := List.length_pos_iff.mpr nx
    refine ⟨_, rfl, _, rfl, _, rfl, _, _, rfl, .inl ⟨_, hS, rfl⟩, u, c, _, n, rfl, by omega, by omega, hn, hU, fun H' k g U k0 km => ?_⟩
    obtain ⟨j, rfl⟩ : ∃ j : Nat, k = (j : Int) := ⟨k.toNat, by omega⟩
    have hj : j < xs.length := by omega
    exact ⟨s, xs, _, _, rfl, rfl, sqL_keep hS fun o e => g _ _ ns e, atI_nat (List.getElem?_eq_getElem hj), q H' _ g U (List.getElem_mem hj)⟩
/-! ### a value -/
def Ov (u : Addr) (H : Hp) (x : V) : Prop := x = .non ∨ (∃ b, x = .bl b) ∨ (∃ i, x = .int i) ∨ (∃ z, x = .str z) ∨ ∃ p, x = .ref p ∧ p ≠ u ∧ ((∃ xs, H p = some (.lst xs)) ∨ (∃ xs, H p = some (.tup xs)) ∨ H p = some (.dK []))
theorem Ov.gr {u : Addr} {H H' : Hp} {x : V} (g : Gr u H H') (h : Ov u H x) : Ov u H' x := by
  rcases h with h | h | h | h | ⟨p, h, n, r⟩
  · exact .inl h
  · exact .inr (.inl h)
  · exact .inr (.inr (.inl h))
  · exact .inr (.inr (.inr (.inl h)))
  · refine .inr (.inr (.inr (.inr ⟨p, h, n, ?_⟩)))
    rcases r with ⟨xs, r⟩ | ⟨xs, r⟩ | r
    · exact .inl ⟨xs, g _ _ n r⟩
    · exact .inr (.inl ⟨xs, g _ _ n r⟩)
    · exact .inr (.inr (g _ _ n r))
theorem Ov.self {u : Addr} {H : Hp} {x : V} (h : Ov u H x) : SelfOk K H x := by
  rcases h with h | h | h | h | ⟨p, h, n, r⟩
  · exact .inl h
  · exact .inr (.inl h)
  · exact .inr (.inr (.inl h))
  · exact .inr (.inr (.inr (.inl h)))
  · refine .inr (.inr (.inr (.inr ⟨p, h, ?_⟩)))
    rcases r with ⟨xs, r⟩ | ⟨xs, r⟩ | r
    · exact .inl ⟨xs, SqL.of r⟩
    · exact .inr (.inl ⟨xs, SqT.of r⟩)
    · exact .inr (.inr r)
theorem Ov.sv {u : Addr} {H : Hp} {x : V} (h : Ov u H x) : selfV x = true := by
  rcases h with rfl | ⟨_, rfl⟩ | ⟨_, rfl⟩ | ⟨_, rfl⟩ | ⟨_, rfl, _⟩ <;> rfl
def spValue : Sp := fun vs H Q _ => ∃ u c n, vs = [.ref u] ∧ n < 10000 ∧ Urn u c n H ∧ ∀ H' x, Gr u H H' → Urn u c (n + 2) H' → Ov u H' x → Q x H'
theorem strLen : ∀ j : Nat, j < 80 → (Str.ofString (toString (j : Int))).length ≤ 10 := by decide +kernel
theorem ok_value {f : Addr} {fd : FuncData} (F : Fun K "_law_value" "_law_value" sLawValue f fd) (B : NB mg) (D_LawDip : Dn P w K mg base "_law_dip" 1 ["urn", "many"] spDip) (D_LawOne : Dn P w K mg base "_law_one" 2 ["urn", "some"] (spOne K)) : FnOk P w K mg base CX0 3 f fd ["urn"] spValue := by
  refine F.ok scLawValue (fun vs H Q E h => ?_) (fun cdv A outer s H vs Q E hr h => ?_)
  · obtain ⟨u, c, n, rfl, _⟩ := h
    rfl
  · obtain ⟨u, c, n, rfl, hn, hU, q⟩ := h
    refine ⟨_, (pss_cons (ps_set (i := 1) scLawValue.nd rfl (Or.inl rfl) (pe_fn D_LawDip (hr.mono (by decide)) (by rfl) (pa_cons (pv 0) (pa_cons pe_int pa_nil))))
      (pss_one (ps_ret (pe_fn D_LawOne (hr.mono (by decide)) (by rfl) (pa_cons (pv 0) (pa_cons (pe_lst (pa_cons (pv 1) (pa_cons (pe_op op_sub (pe_un un_neg (pe_op op_pow pe_int pe_int)) (pv 1)) (pa_cons (pe_op op_add_str pe_str (pe_callTy call_str_int (by rfl) B.z_str (by decide +kernel) (pa_cons (pv 1) pa_nil))) (pa_cons pe_str (pa_cons pe_non (pa_cons (pe_lst (pa_cons (pv 1) (pa_cons (pe_lst (pa_cons pe_non pa_nil)) pa_nil))) (pa_cons (pe_tup (pa_cons (pv 1) (pa_cons (pe_tup (pa_cons pe_str pa_nil)) pa_nil))) (pa_cons pe_bl (pa_cons pe_dnewK (pa_cons pe_str pa_nil))))))))))) pa_nil)))))), ?_⟩
    refine ⟨_, rfl, u, c, _, n, rfl, by decide, by decide, by omega, hU, fun H1 k g1 U1 k0 k80 => ?_⟩
    obtain ⟨j, rfl⟩ : ∃ j : Nat, k = (j : Int) := ⟨k.toNat, by omega⟩
    have hs := strLen j (by omega)
    have hz : 1 + (Str.ofString (toString (j : Int))).length ≤ sizeLine := le_line (by omega)
    have hlog : (j : Int).natAbs.log2 < 1920 := by
      have e : (j : Int).natAbs < 2 ^ 7 := by omega
      by_cases z : (j : Int).natAbs = 0
      · rw [z]
        decide
      · have := (Nat.log2_lt (n := (j : Int).natAbs) (k := 7) z).mpr e
        omega
    refine ⟨_, rfl, _, rfl, _, _, rfl, rfl, pow_ok (by decide) (by decide) (by decide), _, rfl, _, rfl, _, _, rfl, rfl, _, rfl, _, rfl, hlog, _, _, rfl, rfl, hz, ?_⟩
    refine ⟨_, rfl, one_le, fun p1 n1 => ⟨two_le, fun p2 n2 => ?_⟩⟩
    have s1 := same_new (o := .lst [.non]) n1
    have s2 := same_new (o := .lst [.int (j : Int), .ref p1]) n2
    have e2 : (upd (upd H1 p1 (.lst [.non])) p2 (.lst [.int (j : Int), .ref p1])) p2 = some (.lst [.int (j : Int), .ref p1]) := upd_same
    have t2 := s1.trans s2
    generalize upd (upd H1 p1 (.lst [.non])) p2 (.lst [.int (j : Int), .ref p1]) = H2 at t2 e2
    refine ⟨_, rfl, one_le, fun p3 n3 => ⟨two_le, fun p4 n4 => ?_⟩⟩
    have s3 := same_new (o := .tup [.str "x"]) n3
    have s4 := same_new (o := .tup [.int (j : Int), .ref p3]) n4
    have e4 : (upd (upd H2 p3 (.tup [.str "x"])) p4 (.tup [.int (j : Int), .ref p3])) p4 = some (.tup [.int (j : Int), .ref p3]) := upd_same
    have t4 := t2.trans (s3.trans s4)
    have e42 := s4 _ _ (s3 _ _ e2)
    generalize upd (upd H2 p3 (.tup [.str "x"])) p4 (.tup [.int (j : Int), .ref p3]) = H4 at t4 e4 e42
    intro p5 n5
    have s5 := same_new (o := .dK []) n5
    have e5 : (upd H4 p5 (.dK [])) p5 = some (.dK []) := upd_same
    have t5 := t4.trans s5
    have e54 := s5 _ _ e4
    have e52 := s5 _ _ e42
    generalize upd H4 p5 (.dK []) = H5 at t5 e5 e54 e52
    refine ⟨le_line (by show 10 ≤ 100000; decide), fun p6 n6 => ?_⟩
    have s6 := same_new (o := .lst [.int (j : Int), .int (-10 ^ (30 : Int).toNat - (j : Int)), .str ("a" ++ Str.ofString (toString (j : Int))), .str "", .non, .ref p2, .ref p4, .bl true, .ref p5, .str "part"]) n6
    have U5 := U1.same t5
    obtain ⟨ou, hou⟩ := U5.at
    refine ⟨u, c, p6, _, n + 1, rfl, SqL.of upd_same, (ne_of_none hou n6).symm, List.cons_ne_nil _ _, (by show 10 ≤ 1000; decide), by omega, U5.same s6, fun H' x g U hx => q H' x (g1.trans ((same_gr (t5.trans s6)).trans g)) U (Ov.gr g ?_)⟩
    have nu : ∀ {p : Addr} {o : HO}, H5 p = some o → (∀ c k l, o ≠ .lst [.ref c, .int k, .int l]) → p ≠ u := fun {p o} e h z => by
      obtain ⟨ds, k, l, hh, _⟩ := U5
      rw [z, hh.1] at e
      exact h _ _ _ (Option.some.inj e).symm
    simp only [List.mem_cons, List.not_mem_nil, or_false] at hx
    rcases hx with rfl | rfl | rfl | rfl | rfl | rfl | rfl | rfl | rfl | rfl
    · exact .inr (.inr (.inl ⟨_, rfl⟩))
    · exact .inr (.inr (.inl ⟨_, rfl⟩))
    · exact .inr (.inr (.inr (.inl ⟨_, rfl⟩)))
    · exact .inr (.inr (.inr (.inl ⟨_, rfl⟩)))
    · exact .inl rfl
    · exact .inr (.inr (.inr (.inr ⟨p2, rfl, nu e52 (fun c k l z => by cases z), .inl ⟨_, s6 _ _ e52⟩⟩)))
    · exact .inr (.inr (.inr (.inr ⟨p4, rfl, nu e54 (fun c k l z => by cases z), .inr (.inl ⟨_, s6 _ _ e54⟩)⟩)))
    · exact .inr (.inl ⟨_, rfl⟩)
    · exact .inr (.inr (.inr (.inr ⟨p5, rfl, nu e5 (fun c k l z => by cases z), .inr (.inr (s6 _ _ e5))⟩)))
    · exact .inr (.inr (.inr (.inl ⟨_, rfl⟩)))
end
end K00
/-! The errors. -/
namespace K00
open PySem PySem.Spec PyProof.Rows L2 Kit
section
variable {P : Program} {w : World} {K : PySem.W.Frag} {mg : Str → Option Value} {base : Heap}
/-! ### what __init__ does -/
def spI1 (K : PySem.W.Frag) (f : Str) : Sp := fun vs H Q _ => ∃ a C v, vs = [.ref a, v] ∧ OexC K C ∧ PySem.W.findIn K (.ref C) f = some none ∧ H a = some (exo a C none) ∧ ∀ dx, H dx = none → dx ≠ a → Q .non (upd (upd H dx (exd dx [(f, v)])) a (exo a C (some dx)))
def spI2 (K : PySem.W.Frag) (f g : Str) : Sp := fun vs H Q _ => ∃ a C v x, vs = [.ref a, v, x] ∧ OexC K C ∧ PySem.W.findIn K (.ref C) f = some none ∧ PySem.W.findIn K (.ref C) g = some none ∧ H a = some (exo a C none) ∧
  ∀ dx, H dx = none → dx ≠ a → Q .non (upd (upd (upd H dx (exd dx [(f, v)])) a (exo a C (some dx))) dx (exd dx [(g, x), (f, v)]))
abbrev sInitBadTable : Stmt := inClass (topS 15) 0
abbrev n_sInitBadTable : List Str := ["self", "part"]
theorem scInitBadTable : FnScope n_sInitBadTable ["self", "part"] (defScope sInitBadTable) := ⟨rfl, rfl, rfl, by decide +kernel, rfl, by decide +kernel, by decide +kernel⟩
theorem ok_InitBadTable {f : Addr} {fd : FuncData} (F : Fun K "__init__" "BadTable.__init__" sInitBadTable f fd) : FnOk P w K mg base CX0 1 f fd ["self", "part"] (spI1 K "part") := by
  refine F.ok scInitBadTable (fun vs H Q E h => ?_) (fun cdv A outer s H vs Q E hr h => ?_)
  · obtain ⟨a, C, v, rfl, _⟩ := h
    rfl
  · obtain ⟨a, C, v, rfl, T, no, e, q⟩ := h
    exact ⟨_, pss_one (ps_ost (pv 0) (pv 1)), _, rfl, _, rfl, a, C, rfl, T, no, .inl ⟨e, fun dx n ne => q dx n ne⟩⟩
abbrev sInitBadNet : Stmt := inClass (topS 16) 0
abbrev n_sInitBadNet : List Str := ["self", "part"]
theorem scInitBadNet : FnScope n_sInitBadNet ["self", "part"] (defScope sInitBadNet) := ⟨rfl, rfl, rfl, by decide +kernel, rfl, by decide +kernel, by decide +kernel⟩
theorem ok_InitBadNet {f : Addr} {fd : FuncData} (F : Fun K "__init__" "BadNet.__init__" sInitBadNet f fd) : FnOk P w K mg base CX0 1 f fd ["self", "part"] (spI1 K "part") := by
  refine F.ok scInitBadNet (fun vs H Q E h => ?_) (fun cdv A outer s H vs Q E hr h => ?_)
  · obtain ⟨a, C, v, rfl, _⟩ := h
    rfl
  · obtain ⟨a, C, v, rfl, T, no, e, q⟩ := h
    exact ⟨_, pss_one (ps_ost (pv 0) (pv 1)), _, rfl, _, rfl, a, C, rfl, T, no, .inl ⟨e, fun dx n ne => q dx n ne⟩⟩
abbrev sInitBadTask : Stmt := inClass (topS 17) 0
abbrev n_sInitBadTask : List Str := ["self", "part"]
theorem scInitBadTask : FnScope n_sInitBadTask ["self", "part"] (defScope sInitBadTask) := ⟨rfl, rfl, rfl, by decide +kernel, rfl, by decide +kernel, by decide +kernel⟩
theorem ok_InitBadTask {f : Addr} {fd : FuncData} (F : Fun K "__init__" "BadTask.__init__" sInitBadTask f fd) : FnOk P w K mg base CX0 1 f fd ["self", "part"] (spI1 K "part") := by
  refine F.ok scInitBadTask (fun vs H Q E h => ?_) (fun cdv A outer s H vs Q E hr h => ?_)
  · obtain ⟨a, C, v, rfl, _⟩ := h
    rfl
  · obtain ⟨a, C, v, rfl, T, no, e, q⟩ := h
    exact ⟨_, pss_one (ps_ost (pv 0) (pv 1)), _, rfl, _, rfl, a, C, rfl, T, no, .inl ⟨e, fun dx n ne => q dx n ne⟩⟩
abbrev sInitBadFilling : Stmt := inClass (topS 18) 0
abbrev n_sInitBadFilling : List Str := ["self", "part"]
theorem scInitBadFilling : FnScope n_sInitBadFilling ["self", "part"] (defScope sInitBadFilling) := ⟨rfl, rfl, rfl, by decide +kernel, rfl, by decide +kernel, by decide +kernel⟩
theorem ok_InitBadFilling {f : Addr} {fd : FuncData} (F : Fun K "__init__" "BadFilling.__init__" sInitBadFilling f fd) : FnOk P w K mg base CX0 1 f fd ["self", "part"] (spI1 K "part") := by
  refine F.ok scInitBadFilling (fun vs H Q E h => ?_) (fun cdv A outer s H vs Q E hr h => ?_)
  · obtain ⟨a, C, v, rfl, _⟩ := h
    rfl
  · obtain ⟨a, C, v, rfl, T, no, e, q⟩ := h
    exact ⟨_, pss_one (ps_ost (pv 0) (pv 1)), _, rfl, _, rfl, a, C, rfl, T, no, .inl ⟨e, fun dx n ne => q dx n ne⟩⟩
abbrev sInitBadForm : Stmt := inClass (topS 19) 0
abbrev n_sInitBadForm : List Str := ["self", "part"]
theorem scInitBadForm : FnScope n_sInitBadForm ["self", "part"] (defScope sInitBadForm) := ⟨rfl, rfl, rfl, by decide +kernel, rfl, by decide +kernel, by decide +kernel⟩
theorem ok_InitBadForm {f : Addr} {fd : FuncData} (F : Fun K "__init__" "BadForm.__init__" sInitBadForm f fd) : FnOk P w K mg base CX0 1 f fd ["self", "part"] (spI1 K "part") := by
  refine F.ok scInitBadForm (fun vs H Q E h => ?_) (fun cdv A outer s H vs Q E hr h => ?_)
  · obtain ⟨a, C, v, rfl, _⟩ := h
    rfl
  · obtain ⟨a, C, v, rfl, T, no, e, q⟩ := h
    exact ⟨_, pss_one (ps_ost (pv 0) (pv 1)), _, rfl, _, rfl, a, C, rfl, T, no, .inl ⟨e, fun dx n ne => q dx n ne⟩⟩
abbrev sInitBadNumber : Stmt := inClass (topS 20) 0
abbrev n_sInitBadNumber : List Str := ["self", "part"]
theorem scInitBadNumber : FnScope n_sInitBadNumber ["self", "part"] (defScope sInitBadNumber) := ⟨rfl, rfl, rfl, by decide +kernel, rfl, by decide +kernel, by decide +kernel⟩
theorem ok_InitBadNumber {f : Addr} {fd : FuncData} (F : Fun K "__init__" "BadNumber.__init__" sInitBadNumber f fd) : FnOk P w K mg base CX0 1 f fd ["self", "part"] (spI1 K "part") := by
  refine F.ok scInitBadNumber (fun vs H Q E h => ?_) (fun cdv A outer s H vs Q E hr h => ?_)
  · obtain ⟨a, C, v, rfl, _⟩ := h
    rfl
  · obtain ⟨a, C, v, rfl, T, no, e, q⟩ := h
    exact ⟨_, pss_one (ps_ost (pv 0) (pv 1)), _, rfl, _, rfl, a, C, rfl, T, no, .inl ⟨e, fun dx n ne => q dx n ne⟩⟩
abbrev sInitBadPaper : Stmt := inClass (topS 21) 0
abbrev n_sInitBadPaper : List Str := ["self", "part"]
theorem scInitBadPaper : FnScope n_sInitBadPaper ["self", "part"] (defScope sInitBadPaper) := ⟨rfl, rfl, rfl, by decide +kernel, rfl, by decide +kernel, by decide +kernel⟩
theorem ok_InitBadPaper {f : Addr} {fd : FuncData} (F : Fun K "__init__" "BadPaper.__init__" sInitBadPaper f fd) : FnOk P w K mg base CX0 1 f fd ["self", "part"] (spI1 K "part") := by
  refine F.ok scInitBadPaper (fun vs H Q E h => ?_) (fun cdv A outer s H vs Q E hr h => ?_)
  · obtain ⟨a, C, v, rfl, _⟩ := h
    rfl
  · obtain ⟨a, C, v, rfl, T, no, e, q⟩ := h
    exact ⟨_, pss_one (ps_ost (pv 0) (pv 1)), _, rfl, _, rfl, a, C, rfl, T, no, .inl ⟨e, fun dx n ne => q dx n ne⟩⟩
abbrev sInitMisfit : Stmt := inClass (topS 22) 0
abbrev n_sInitMisfit : List Str := ["self", "part"]
theorem scInitMisfit : FnScope n_sInitMisfit ["self", "part"] (defScope sInitMisfit) := ⟨rfl, rfl, rfl, by decide +kernel, rfl, by decide +kernel, by decide +kernel⟩
theorem ok_InitMisfit {f : Addr} {fd : FuncData} (F : Fun K "__init__" "Misfit.__init__" sInitMisfit f fd) : FnOk P w K mg base CX0 1 f fd ["self", "part"] (spI1 K "part") := by
  refine F.ok scInitMisfit (fun vs H Q E h => ?_) (fun cdv A outer s H vs Q E hr h => ?_)
  · obtain ⟨a, C, v, rfl, _⟩ := h
    rfl
  · obtain ⟨a, C, v, rfl, T, no, e, q⟩ := h
    exact ⟨_, pss_one (ps_ost (pv 0) (pv 1)), _, rfl, _, rfl, a, C, rfl, T, no, .inl ⟨e, fun dx n ne => q dx n ne⟩⟩
abbrev sInitMissing : Stmt := inClass (topS 23) 0
abbrev n_sInitMissing : List Str := ["self", "value"]
theorem scInitMissing : FnScope n_sInitMissing ["self", "value"] (defScope sInitMissing) := ⟨rfl, rfl, rfl, by decide +kernel, rfl, by decide +kernel, by decide +kernel⟩
theorem ok_InitMissing {f : Addr} {fd : FuncData} (F : Fun K "__init__" "Missing.__init__" sInitMissing f fd) : FnOk P w K mg base CX0 1 f fd ["self", "value"] (spI1 K "value") := by
  refine F.ok scInitMissing (fun vs H Q E h => ?_) (fun cdv A outer s H vs Q E hr h => ?_)
  · obtain ⟨a, C, v, rfl, _⟩ := h
    rfl
  · obtain ⟨a, C, v, rfl, T, no, e, q⟩ := h
    exact ⟨_, pss_one (ps_ost (pv 0) (pv 1)), _, rfl, _, rfl, a, C, rfl, T, no, .inl ⟨e, fun dx n ne => q dx n ne⟩⟩
abbrev sInitTwice : Stmt := inClass (topS 28) 0
abbrev n_sInitTwice : List Str := ["self", "value"]
theorem scInitTwice : FnScope n_sInitTwice ["self", "value"] (defScope sInitTwice) := ⟨rfl, rfl, rfl, by decide +kernel, rfl, by decide +kernel, by decide +kernel⟩
theorem ok_InitTwice {f : Addr} {fd : FuncData} (F : Fun K "__init__" "Twice.__init__" sInitTwice f fd) : FnOk P w K mg base CX0 1 f fd ["self", "value"] (spI1 K "value") := by
  refine F.ok scInitTwice (fun vs H Q E h => ?_) (fun cdv A outer s H vs Q E hr h => ?_)
  · obtain ⟨a, C, v, rfl, _⟩ := h
    rfl
  · obtain ⟨a, C, v, rfl, T, no, e, q⟩ := h
    exact ⟨_, pss_one (ps_ost (pv 0) (pv 1)), _, rfl, _, rfl, a, C, rfl, T, no, .inl ⟨e, fun dx n ne => q dx n ne⟩⟩
abbrev sInitImpossible : Stmt := inClass (topS 29) 0
abbrev n_sInitImpossible : List Str := ["self", "paper"]
theorem scInitImpossible : FnScope n_sInitImpossible ["self", "paper"] (defScope sInitImpossible) := ⟨rfl, rfl, rfl, by decide +kernel, rfl, by decide +kernel, by decide +kernel⟩
theorem ok_InitImpossible {f : Addr} {fd : FuncData} (F : Fun K "__init__" "Impossible.__init__" sInitImpossible f fd) : FnOk P w K mg base CX0 1 f fd ["self", "paper"] (spI1 K "paper") := by
  refine F.ok scInitImpossible (fun vs H Q E h => ?_) (fun cdv A outer s H vs Q E hr h => ?_)
  · obtain ⟨a, C, v, rfl, _⟩ := h
    rfl
  · obtain ⟨a, C, v, rfl, T, no, e, q⟩ := h
    exact ⟨_, pss_one (ps_ost (pv 0) (pv 1)), _, rfl, _, rfl, a, C, rfl, T, no, .inl ⟨e, fun dx n ne => q dx n ne⟩⟩
abbrev sInitTooMany : Stmt := inClass (topS 30) 0
abbrev n_sInitTooMany : List Str := ["self", "what", "most"]
theorem scInitTooMany : FnScope n_sInitTooMany ["self", "what", "most"] (defScope sInitTooMany) := ⟨rfl, rfl, rfl, by decide +kernel, rfl, by decide +kernel, by decide +kernel⟩
theorem ok_InitTooMany {f : Addr} {fd : FuncData} (F : Fun K "__init__" "TooMany.__init__" sInitTooMany f fd) : FnOk P w K mg base CX0 1 f fd ["self", "what", "most"] (spI2 K "what" "most") := by
  refine F.ok scInitTooMany (fun vs H Q E h => ?_) (fun cdv A outer s H vs Q E hr h => ?_)
  · obtain ⟨a, C, v, x, rfl, _⟩ := h
    rfl
  · obtain ⟨a, C, v, x, rfl, T, no, no2, e, q⟩ := h
    refine ⟨_, pss_cons (ps_ost (pv 0) (pv 1)) (pss_one (ps_ost (pv 0) (pv 2))), _, rfl, _, rfl, a, C, rfl, T, no, .inl ⟨e, fun dx n ne => ?_⟩⟩
    refine ⟨_, rfl, _, rfl, a, C, rfl, T, no2, .inr ⟨dx, _, upd_same, ?_, by show 1 ≤ 900; decide, q dx n ne⟩⟩
    rw [upd_ne ne, upd_same]
abbrev sInitBadText : Stmt := inClass (topS 31) 0
abbrev n_sInitBadText : List Str := ["self", "line", "item"]
theorem scInitBadText : FnScope n_sInitBadText ["self", "line", "item"] (defScope sInitBadText) := ⟨rfl, rfl, rfl, by decide +kernel, rfl, by decide +kernel, by decide +kernel⟩
theorem ok_InitBadText {f : Addr} {fd : FuncData} (F : Fun K "__init__" "BadText.__init__" sInitBadText f fd) : FnOk P w K mg base CX0 1 f fd ["self", "line", "item"] (spI2 K "line" "item") := by
  refine F.ok scInitBadText (fun vs H Q E h => ?_) (fun cdv A outer s H vs Q E hr h => ?_)
  · obtain ⟨a, C, v, x, rfl, _⟩ := h
    rfl
  · obtain ⟨a, C, v, x, rfl, T, no, no2, e, q⟩ := h
    refine ⟨_, pss_cons (ps_ost (pv 0) (pv 1)) (pss_one (ps_ost (pv 0) (pv 2))), _, rfl, _, rfl, a, C, rfl, T, no, .inl ⟨e, fun dx n ne => ?_⟩⟩
    refine ⟨_, rfl, _, rfl, a, C, rfl, T, no2, .inr ⟨dx, _, upd_same, ?_, by show 1 ≤ 900; decide, q dx n ne⟩⟩
    rw [upd_ne ne, upd_same]

/-! ### what is known of a class of errors -/
structure E1 (P : Program) (w : World) (K : PySem.W.Frag) (mg : Str → Option Value) (base : Heap) (n : Str) (C : Addr) (f : Str) : Prop where
  m : mg n = some (.ref C)
  ox : OexC K C
  ek : ExK K C
  no : PySem.W.findIn K (.ref C) f = some none
  ini : ∃ (fI : Addr) (fd : FuncData), PySem.W.findIn K (.ref C) "__init__" = some (some (.ref fI)) ∧ PySem.W.typeIn K (.ref fI) = some (.type "function") ∧ FnOk P w K mg base CX0 1 fI fd ["self", f] (spI1 K f) ∧ Binds K fd ["self", f] [] ∧ KBn K fd ["self", f] 1 [f] (fun us ws => us ++ ws) (fun vs zs => vs ++ zs)
def swap2 {α : Type} (vs zs : List α) : List α := vs ++ zs.reverse
structure E2 (P : Program) (w : World) (K : PySem.W.Frag) (mg : Str → Option Value) (base : Heap) (n : Str) (C : Addr) (f g : Str) : Prop where
  m : mg n = some (.ref C)
  ox : OexC K C
  ek : ExK K C
  no : PySem.W.findIn K (.ref C) f = some none
  no2 : PySem.W.findIn K (.ref C) g = some none
  ini : ∃ (fI : Addr) (fd : FuncData), PySem.W.findIn K (.ref C) "__init__" = some (some (.ref fI)) ∧ PySem.W.typeIn K (.ref fI) = some (.type "function") ∧ FnOk P w K mg base CX0 1 fI fd ["self", f, g] (spI2 K f g) ∧ Binds K fd ["self", f, g] [] ∧ KBn K fd ["self", f, g] 1 [g, f] (fun us ws => swap2 us ws) (fun vs zs => swap2 vs zs)
/-- C(x), x the i-th local -/
def tMk1 (C : Addr) (f : Str) (i : Nat) : TE := fun σ H Q => ∃ v, σ[i]? = some (some v) ∧ ∀ a H2, H a = none → Same H H2 → ExAt H2 a C [(f, v)] → Q (.ref a) H2
def tMk2 (C : Addr) (f g : Str) (i j : Nat) : TE := fun σ H Q => ∃ v x, σ[i]? = some (some v) ∧ σ[j]? = some (some x) ∧ ∀ a H2, H a = none → Same H H2 → ExAt H2 a C [(g, x), (f, v)] → Q (.ref a) H2
theorem mk1_go {C : Addr} {f : Str} {H : Hp} {v : V} {Q : VK} {E : XK} (ox : OexC K C) (no : PySem.W.findIn K (.ref C) f = some none) (q : ∀ a H2, H a = none → Same H H2 → ExAt H2 a C [(f, v)] → Q (.ref a) H2) (a : Addr) (na : H a = none) :
    spI1 K f [.ref a, v] (upd H a (exo a C none)) (fun v H2 => v = .non ∧ Q (.ref a) H2) E := by
  refine ⟨a, C, v, rfl, ox, no, upd_same, fun dx nd ne => ⟨rfl, q a _ na (fun b o e => ?_) ⟨dx, upd_same, ?_⟩⟩⟩
  · have hb := ne_of_none e na
    have hd : b ≠ dx := fun z => by
      rw [z] at e
      rw [upd_ne ne, e] at nd
      cases nd
    rw [upd_ne hb, upd_ne hd, upd_ne hb]
    exact e
  · rw [upd_ne ne, upd_same]
theorem mk2_go {C : Addr} {f g : Str} {H : Hp} {v x : V} {Q : VK} {E : XK} (ox : OexC K C) (no : PySem.W.findIn K (.ref C) f = some none) (no2 : PySem.W.findIn K (.ref C) g = some none) (q : ∀ a H2, H a = none → Same H H2 → ExAt H2 a C [(g, x), (f, v)] → Q (.ref a) H2) (a : Addr) (na : H a = none) :
    spI2 K f g [.ref a, v, x] (upd H a (exo a C none)) (fun v H2 => v = .non ∧ Q (.ref a) H2) E := by
  refine ⟨a, C, v, x, rfl, ox, no, no2, upd_same, fun dx nd ne => ⟨rfl, q a _ na (fun b o e => ?_) ⟨dx, ?_, upd_same⟩⟩⟩
  · have hb := ne_of_none e na
    have hd : b ≠ dx := fun z => by
      rw [z] at e
      rw [upd_ne ne, e] at nd
      cases nd
    rw [upd_ne hd, upd_ne hb, upd_ne hd, upd_ne hb]
    exact e
  · rw [upd_ne ne.symm, upd_same]
section
variable {X : Cx} {n f g : Str} {C : Addr} {p pos : Pos} {e e1 e2 : Expr} {i j : Nat} {kws : List Keyword}
theorem pe_mk1p (E : E1 X.prog X.w X.K X.mg X.base n C f) (hr : Room 2 X.A) (hg : Gl X n) (ha : PA X [e] (tCons (tVar i) tNil))
    (hdb : (n == ("__debug__" : Str)) = false := by decide) (he : starEach (e :: []) X.env = (false, eval e X.env) :: starEach [] X.env := by rfl) (hpl : (backTo pos (starEach [] X.env)).any (·.1) = false := by rfl) :
    PE X (.Call (.Name n p) [e] [] pos) (tMk1 C f i) := by
  obtain ⟨fI, fd, iC, tI, F1, hb, _⟩ := E.ini
  refine ⟨fun pins s σ H Q I h => (pe_mkV E.ox iC tI F1 hr hb .nil pass0 hg E.m ha hdb he hpl).run pins s σ H Q I ?_⟩
  obtain ⟨v, hv, q⟩ := h
  exact ⟨v, hv, by show 1 ≤ 1000; decide, mk1_go E.ox E.no q⟩
theorem pe_mk1k (E : E1 X.prog X.w X.K X.mg X.base n C f) (hr : Room 2 X.A) (hg : Gl X n) (hkw : PK X kws (tCons (tVar i) tNil))
    (hall : (backToKw pos (keywordEach kws X.env)).all (·.1.isSome) = true := by rfl) (hks : (backToKw pos (keywordEach kws X.env)).filterMap (·.1) = [f] := by rfl)
    (hdb : (n == ("__debug__" : Str)) = false := by decide) (hpl : ((backTo pos (starEach [] X.env)).any (·.1) || (backToKw pos (keywordEach kws X.env)).any (·.1.isNone)) = false := by rfl) :
    PE X (.Call (.Name n p) [] kws pos) (tMk1 C f i) := by
  obtain ⟨fI, fd, iC, tI, F1, _, hb⟩ := E.ini
  refine ⟨fun pins s σ H Q I h => (pe_mkVK E.ox iC tI F1 hr hb pass0 hg E.m hkw hall hks hdb hpl).run pins s σ H Q I ?_⟩
  obtain ⟨v, hv, q⟩ := h
  exact ⟨v, hv, rfl, mk1_go E.ox E.no q⟩
theorem pe_mk2p (E : E2 X.prog X.w X.K X.mg X.base n C f g) (hr : Room 2 X.A) (hg : Gl X n) (ha : PA X [e1, e2] (tCons (tVar i) (tCons (tVar j) tNil)))
    (hdb : (n == ("__debug__" : Str)) = false := by decide) (he : starEach (e1 :: [e2]) X.env = (false, eval e1 X.env) :: starEach [e2] X.env := by rfl) (hpl : (backTo pos (starEach [e2] X.env)).any (·.1) = false := by rfl) :
    PE X (.Call (.Name n p) [e1, e2] [] pos) (tMk2 C f g i j) := by
  obtain ⟨fI, fd, iC, tI, F1, hb, _⟩ := E.ini
  refine ⟨fun pins s σ H Q I h => (pe_mkV E.ox iC tI F1 hr hb .nil pass0 hg E.m ha hdb he hpl).run pins s σ H Q I ?_⟩
  obtain ⟨v, x, hv, hx, q⟩ := h
  exact ⟨v, hv, x, hx, by show 2 ≤ 1000; decide, mk2_go E.ox E.no E.no2 q⟩
/-- by names, the second one first -/
theorem pe_mk2k (E : E2 X.prog X.w X.K X.mg X.base n C f g) (hr : Room 2 X.A) (hg : Gl X n) (hkw : PK X kws (tCons (tVar j) (tCons (tVar i) tNil)))
    (hall : (backToKw pos (keywordEach kws X.env)).all (·.1.isSome) = true := by rfl) (hks : (backToKw pos (keywordEach kws X.env)).filterMap (·.1) = [g, f] := by rfl)
    (hdb : (n == ("__debug__" : Str)) = false := by decide) (hpl : ((backTo pos (starEach [] X.env)).any (·.1) || (backToKw pos (keywordEach kws X.env)).any (·.1.isNone)) = false := by rfl) :
    PE X (.Call (.Name n p) [] kws pos) (tMk2 C f g i j) := by
  obtain ⟨fI, fd, iC, tI, F1, _, hb⟩ := E.ini
  refine ⟨fun pins s σ H Q I h => (pe_mkVK E.ox iC tI F1 hr hb pass0 hg E.m hkw hall hks hdb hpl).run pins s σ H Q I ?_⟩
  obtain ⟨v, x, hv, hx, q⟩ := h
  exact ⟨x, hx, v, hv, rfl, mk2_go E.ox E.no E.no2 q⟩
end
end
end K00
/-! The law's looks at errors. -/
namespace K00
open PySem PySem.Spec PyProof.Rows L2 Kit
abbrev sLawClasses : Stmt := topS 37
abbrev n_sLawClasses : List Str := ["error", "told"]
theorem scLawClasses : FnScope n_sLawClasses ["error"] (defScope sLawClasses) := ⟨rfl, rfl, rfl, by decide +kernel, rfl, by decide +kernel, by decide +kernel⟩

theorem hu0 {A : Around} {k : Nat} (hr : Room k A) : A.units < cLine := by
  have := hr.units
  omega
/-- which class is below which: 16 is Missing, 17 HoleError -/
def subE (i j : Nat) : Bool := decide (i = j) || (decide (j = 17) || (decide (j = 16) && (decide (8 ≤ i) && decide (i < 12))))
structure Ers (P : Program) (w : World) (K : PySem.W.Frag) (mg : Str → Option Value) (base : Heap) (C : Nat → Addr) : Prop where
  e_BadTable : E1 P w K mg base "BadTable" (C 0) "part"
  e_BadNet : E1 P w K mg base "BadNet" (C 1) "part"
  e_BadTask : E1 P w K mg base "BadTask" (C 2) "part"
  e_BadFilling : E1 P w K mg base "BadFilling" (C 3) "part"
  e_BadForm : E1 P w K mg base "BadForm" (C 4) "part"
  e_BadNumber : E1 P w K mg base "BadNumber" (C 5) "part"
  e_BadPaper : E1 P w K mg base "BadPaper" (C 6) "part"
  e_Misfit : E1 P w K mg base "Misfit" (C 7) "part"
  e_NoWire : E1 P w K mg base "NoWire" (C 8) "value"
  e_NoHole : E1 P w K mg base "NoHole" (C 9) "value"
  e_NoRow : E1 P w K mg base "NoRow" (C 10) "value"
  e_NoPlace : E1 P w K mg base "NoPlace" (C 11) "value"
  e_Twice : E1 P w K mg base "Twice" (C 12) "value"
  e_Impossible : E1 P w K mg base "Impossible" (C 13) "paper"
  e_TooMany : E2 P w K mg base "TooMany" (C 14) "what" "most"
  e_BadText : E2 P w K mg base "BadText" (C 15) "line" "item"
  e_Missing : E1 P w K mg base "Missing" (C 16) "value"
  m_HoleError : mg "HoleError" = some (.ref (C 17))
  kit : ∀ i, i < 17 → ∀ j, j < 18 → PySem.W.kitOne K (.ref (C i)) (.ref (C j)) = some (subE i j)
  kitV : ∀ i, i < 17 → PySem.W.kitOne K (.ref (C i)) (.type "ValueError") = some true
  kitT : ∀ i, i < 17 → PySem.W.kitAny K (.ref (C i)) [.type "LookupError", .type "TypeError", .type "ArithmeticError", .type "AttributeError", .type "RuntimeError"] = some false
  exk : ∀ i, i < 17 → ExK K (C i)
theorem exAt_same {H H' : Hp} {a C : Addr} {fs : List (Str × V)} (e : Same H H') (h : ExAt H a C fs) : ExAt H' a C fs := by
  obtain ⟨d, h1, h2⟩ := h
  exact ⟨d, e _ _ h1, e _ _ h2⟩
section
variable {P : Program} {w : World} {K : PySem.W.Frag} {mg : Str → Option Value} {base : Heap} {C : Nat → Addr}
def spClasses (C : Nat → Addr) : Sp := fun vs H Q _ => ∃ a i fs, vs = [.ref a] ∧ i < 16 ∧ ExAt H a (C i) fs ∧ ∀ H' l, Same H H' → H l = none → H' l = some (.lst ((List.range 16).map fun j => .bl (decide (i = j)))) → Q (.ref l) H'
theorem ok_classes {f : Addr} {fd : FuncData} (F : Fun K "_law_classes" "_law_classes" sLawClasses f fd) (B : NB mg) (E : Ers P w K mg base C) : FnOk P w K mg base CX0 1 f fd ["error"] (spClasses C) := by
  refine F.ok scLawClasses (fun vs H Q E h => ?_) (fun cdv A outer s H vs Q E' hr h => ?_)
  · obtain ⟨a, i, fs, rfl, _⟩ := h
    rfl
  · obtain ⟨a, i, fs, rfl, hi, hE, q⟩ := h
    refine ⟨_, (pss_cons (ps_set (i := 1) scLawClasses.nd rfl (Or.inl rfl) (pe_lst (pa_cons (pe_callB call_isX (by rfl) B.z_isinstance (by decide +kernel) (pa_cons (pv 0) (pa_cons (pe_glob (v := .ref (C 0)) rfl E.e_BadTable.m rfl) pa_nil))) (pa_cons (pe_callB call_isX (by rfl) B.z_isinstance (by decide +kernel) (pa_cons (pv 0) (pa_cons (pe_glob (v := .ref (C 1)) rfl E.e_BadNet.m rfl) pa_nil))) (pa_cons (pe_callB call_isX (by rfl) B.z_isinstance (by decide +kernel) (pa_cons (pv 0) (pa_cons (pe_glob (v := .ref (C 2)) rfl E.e_BadTask.m rfl) pa_nil))) (pa_cons (pe_callB call_isX (by rfl) B.z_isinstance (by decide +kernel) (pa_cons (pv 0) (pa_cons (pe_glob (v := .ref (C 3)) rfl E.e_BadFilling.m rfl) pa_nil))) pa_nil))))))
      (pss_cons (ps_set (i := 1) scLawClasses.nd rfl (Or.inl rfl) (pe_op op_cat (pv 1) (pe_lst (pa_cons (pe_callB call_isX (by rfl) B.z_isinstance (by decide +kernel) (pa_cons (pv 0) (pa_cons (pe_glob (v := .ref (C 4)) rfl E.e_BadForm.m rfl) pa_nil))) (pa_cons (pe_callB call_isX (by rfl) B.z_isinstance (by decide +kernel) (pa_cons (pv 0) (pa_cons (pe_glob (v := .ref (C 5)) rfl E.e_BadNumber.m rfl) pa_nil))) (pa_cons (pe_callB call_isX (by rfl) B.z_isinstance (by decide +kernel) (pa_cons (pv 0) (pa_cons (pe_glob (v := .ref (C 6)) rfl E.e_BadPaper.m rfl) pa_nil))) (pa_cons (pe_callB call_isX (by rfl) B.z_isinstance (by decide +kernel) (pa_cons (pv 0) (pa_cons (pe_glob (v := .ref (C 7)) rfl E.e_Misfit.m rfl) pa_nil))) pa_nil)))))))
      (pss_cons (ps_set (i := 1) scLawClasses.nd rfl (Or.inl rfl) (pe_op op_cat (pv 1) (pe_lst (pa_cons (pe_callB call_isX (by rfl) B.z_isinstance (by decide +kernel) (pa_cons (pv 0) (pa_cons (pe_glob (v := .ref (C 8)) rfl E.e_NoWire.m rfl) pa_nil))) (pa_cons (pe_callB call_isX (by rfl) B.z_isinstance (by decide +kernel) (pa_cons (pv 0) (pa_cons (pe_glob (v := .ref (C 9)) rfl E.e_NoHole.m rfl) pa_nil))) (pa_cons (pe_callB call_isX (by rfl) B.z_isinstance (by decide +kernel) (pa_cons (pv 0) (pa_cons (pe_glob (v := .ref (C 10)) rfl E.e_NoRow.m rfl) pa_nil))) (pa_cons (pe_callB call_isX (by rfl) B.z_isinstance (by decide +kernel) (pa_cons (pv 0) (pa_cons (pe_glob (v := .ref (C 11)) rfl E.e_NoPlace.m rfl) pa_nil))) pa_nil)))))))
      (pss_one (ps_ret (pe_op op_cat (pv 1) (pe_lst (pa_cons (pe_callB call_isX (by rfl) B.z_isinstance (by decide +kernel) (pa_cons (pv 0) (pa_cons (pe_glob (v := .ref (C 12)) rfl E.e_Twice.m rfl) pa_nil))) (pa_cons (pe_callB call_isX (by rfl) B.z_isinstance (by decide +kernel) (pa_cons (pv 0) (pa_cons (pe_glob (v := .ref (C 13)) rfl E.e_Impossible.m rfl) pa_nil))) (pa_cons (pe_callB call_isX (by rfl) B.z_isinstance (by decide +kernel) (pa_cons (pv 0) (pa_cons (pe_glob (v := .ref (C 14)) rfl E.e_TooMany.m rfl) pa_nil))) (pa_cons (pe_callB call_isX (by rfl) B.z_isinstance (by decide +kernel) (pa_cons (pv 0) (pa_cons (pe_glob (v := .ref (C 15)) rfl E.e_BadText.m rfl) pa_nil))) pa_nil))))))))))), ?_⟩
    have ek := E.exk i (by omega)
    have ki : ∀ j, j < 16 → PySem.W.kitOne K (.ref (C i)) (.ref (C j)) = some (decide (i = j)) := fun j hj => by
      rw [E.kit i (by omega) j (by omega)]
      have e1 : decide (j = 17) = false := decide_eq_false (by omega)
      have e2 : decide (j = 16) = false := decide_eq_false (by omega)
      show some (decide (i = j) || (decide (j = 17) || (decide (j = 16) && _))) = _
      rw [e1, e2, Bool.false_and, Bool.or_false, Bool.or_false]
    have le4 : (4 : Nat) ≤ sizeLine := le_line (by decide)
    refine ⟨_, rfl, a, _, fs, _, _, _, rfl, hE, ek, .own _, ki 0 (by decide), _, rfl, a, _, fs, _, _, _, rfl, hE, ek, .own _, ki 1 (by decide), _, rfl, a, _, fs, _, _, _, rfl, hE, ek, .own _, ki 2 (by decide), _, rfl, a, _, fs, _, _, _, rfl, hE, ek, .own _, ki 3 (by decide), le4, fun p1 n1 => ?_⟩
    have s1 := same_new (o := .lst [.bl (decide (i = 0)), .bl (decide (i = 1)), .bl (decide (i = 2)), .bl (decide (i = 3))]) n1
    have e1 : (upd H p1 (.lst [.bl (decide (i = 0)), .bl (decide (i = 1)), .bl (decide (i = 2)), .bl (decide (i = 3))])) p1 = some (.lst [.bl (decide (i = 0)), .bl (decide (i = 1)), .bl (decide (i = 2)), .bl (decide (i = 3))]) := upd_same
    have hE := exAt_same s1 hE
    generalize upd H p1 (.lst [.bl (decide (i = 0)), .bl (decide (i = 1)), .bl (decide (i = 2)), .bl (decide (i = 3))]) = H1 at s1 e1 hE
    refine ⟨_, rfl, _, rfl, a, _, fs, _, _, _, rfl, hE, ek, .own _, ki 4 (by decide), _, rfl, a, _, fs, _, _, _, rfl, hE, ek, .own _, ki 5 (by decide), _, rfl, a, _, fs, _, _, _, rfl, hE, ek, .own _, ki 6 (by decide), _, rfl, a, _, fs, _, _, _, rfl, hE, ek, .own _, ki 7 (by decide), le4, fun q1 m1 => ?_⟩
    have t1 := same_new (o := .lst [.bl (decide (i = 4)), .bl (decide (i = 5)), .bl (decide (i = 6)), .bl (decide (i = 7))]) m1
    refine ⟨_, _, _, _, rfl, rfl, t1 _ _ e1, upd_same, le_line (by show 8 ≤ 100000; decide), fun p2 n2 => ?_⟩
    have u1 := t1.trans (same_new (o := .lst ([.bl (decide (i = 0)), .bl (decide (i = 1)), .bl (decide (i = 2)), .bl (decide (i = 3))] ++ [.bl (decide (i = 4)), .bl (decide (i = 5)), .bl (decide (i = 6)), .bl (decide (i = 7))])) n2)
    have e2 : (upd (upd H1 q1 (.lst [.bl (decide (i = 4)), .bl (decide (i = 5)), .bl (decide (i = 6)), .bl (decide (i = 7))])) p2 (.lst ([.bl (decide (i = 0)), .bl (decide (i = 1)), .bl (decide (i = 2)), .bl (decide (i = 3))] ++ [.bl (decide (i = 4)), .bl (decide (i = 5)), .bl (decide (i = 6)), .bl (decide (i = 7))]))) p2 = some (.lst ([.bl (decide (i = 0)), .bl (decide (i = 1)), .bl (decide (i = 2)), .bl (decide (i = 3))] ++ [.bl (decide (i = 4)), .bl (decide (i = 5)), .bl (decide (i = 6)), .bl (decide (i = 7))])) := upd_same
    have hE := exAt_same u1 hE
    have s2 := s1.trans u1
    generalize upd (upd H1 q1 (.lst [.bl (decide (i = 4)), .bl (decide (i = 5)), .bl (decide (i = 6)), .bl (decide (i = 7))])) p2 (.lst ([.bl (decide (i = 0)), .bl (decide (i = 1)), .bl (decide (i = 2)), .bl (decide (i = 3))] ++ [.bl (decide (i = 4)), .bl (decide (i = 5)), .bl (decide (i = 6)), .bl (decide (i = 7))])) = H2 at s2 e2 hE
    refine ⟨_, rfl, _, rfl, a, _, fs, _, _, _, rfl, hE, ek, .own _, ki 8 (by decide), _, rfl, a, _, fs, _, _, _, rfl, hE, ek, .own _, ki 9 (by decide), _, rfl, a, _, fs, _, _, _, rfl, hE, ek, .own _, ki 10 (by decide), _, rfl, a, _, fs, _, _, _, rfl, hE, ek, .own _, ki 11 (by decide), le4, fun q2 m2 => ?_⟩
    have t2 := same_new (o := .lst [.bl (decide (i = 8)), .bl (decide (i = 9)), .bl (decide (i = 10)), .bl (decide (i = 11))]) m2
    refine ⟨_, _, _, _, rfl, rfl, t2 _ _ e2, upd_same, le_line (by show 12 ≤ 100000; decide), fun p3 n3 => ?_⟩
    have u2 := t2.trans (same_new (o := .lst (([.bl (decide (i = 0)), .bl (decide (i = 1)), .bl (decide (i = 2)), .bl (decide (i = 3))] ++ [.bl (decide (i = 4)), .bl (decide (i = 5)), .bl (decide (i = 6)), .bl (decide (i = 7))]) ++ [.bl (decide (i = 8)), .bl (decide (i = 9)), .bl (decide (i = 10)), .bl (decide (i = 11))])) n3)
    have e3 : (upd (upd H2 q2 (.lst [.bl (decide (i = 8)), .bl (decide (i = 9)), .bl (decide (i = 10)), .bl (decide (i = 11))])) p3 (.lst (([.bl (decide (i = 0)), .bl (decide (i = 1)), .bl (decide (i = 2)), .bl (decide (i = 3))] ++ [.bl (decide (i = 4)), .bl (decide (i = 5)), .bl (decide (i = 6)), .bl (decide (i = 7))]) ++ [.bl (decide (i = 8)), .bl (decide (i = 9)), .bl (decide (i = 10)), .bl (decide (i = 11))]))) p3 = some (.lst (([.bl (decide (i = 0)), .bl (decide (i = 1)), .bl (decide (i = 2)), .bl (decide (i = 3))] ++ [.bl (decide (i = 4)), .bl (decide (i = 5)), .bl (decide (i = 6)), .bl (decide (i = 7))]) ++ [.bl (decide (i = 8)), .bl (decide (i = 9)), .bl (decide (i = 10)), .bl (decide (i = 11))])) := upd_same
    have hE := exAt_same u2 hE
    have s3 := s2.trans u2
    generalize upd (upd H2 q2 (.lst [.bl (decide (i = 8)), .bl (decide (i = 9)), .bl (decide (i = 10)), .bl (decide (i = 11))])) p3 (.lst (([.bl (decide (i = 0)), .bl (decide (i = 1)), .bl (decide (i = 2)), .bl (decide (i = 3))] ++ [.bl (decide (i = 4)), .bl (decide (i = 5)), .bl (decide (i = 6)), .bl (decide (i = 7))]) ++ [.bl (decide (i = 8)), .bl (decide (i = 9)), .bl (decide (i = 10)), .bl (decide (i = 11))])) = H3 at s3 e3 hE
    refine ⟨_, rfl, _, rfl, a, _, fs, _, _, _, rfl, hE, ek, .own _, ki 12 (by decide), _, rfl, a, _, fs, _, _, _, rfl, hE, ek, .own _, ki 13 (by decide), _, rfl, a, _, fs, _, _, _, rfl, hE, ek, .own _, ki 14 (by decide), _, rfl, a, _, fs, _, _, _, rfl, hE, ek, .own _, ki 15 (by decide), le4, fun q3 m3 => ?_⟩
    have t3 := same_new (o := .lst [.bl (decide (i = 12)), .bl (decide (i = 13)), .bl (decide (i = 14)), .bl (decide (i = 15))]) m3
    refine ⟨_, _, _, _, rfl, rfl, t3 _ _ e3, upd_same, le_line (by show 16 ≤ 100000; decide), fun p4 n4 => ?_⟩
    have u3 := t3.trans (same_new (o := .lst ((([.bl (decide (i = 0)), .bl (decide (i = 1)), .bl (decide (i = 2)), .bl (decide (i = 3))] ++ [.bl (decide (i = 4)), .bl (decide (i = 5)), .bl (decide (i = 6)), .bl (decide (i = 7))]) ++ [.bl (decide (i = 8)), .bl (decide (i = 9)), .bl (decide (i = 10)), .bl (decide (i = 11))]) ++ [.bl (decide (i = 12)), .bl (decide (i = 13)), .bl (decide (i = 14)), .bl (decide (i = 15))])) n4)
    exact q _ p4 (s3.trans u3) (s3.free (t3.free n4)) upd_same
end
end K00
/-! The law's looks at errors. -/
namespace K00
open PySem PySem.Spec PyProof.Rows L2 Kit
abbrev sLawIsOnly : Stmt := topS 38
abbrev n_sLawIsOnly : List Str := ["error", "at", "spot"]
theorem scLawIsOnly : FnScope n_sLawIsOnly ["error", "at"] (defScope sLawIsOnly) := ⟨rfl, rfl, rfl, by decide +kernel, rfl, by decide +kernel, by decide +kernel⟩
abbrev sLawByPlace : Stmt := topS 39
abbrev n_sLawByPlace : List Str := ["one", "made"]
theorem scLawByPlace : FnScope n_sLawByPlace ["one"] (defScope sLawByPlace) := ⟨rfl, rfl, rfl, by decide +kernel, rfl, by decide +kernel, by decide +kernel⟩
abbrev sLawByName : Stmt := topS 40
abbrev n_sLawByName : List Str := ["one", "made"]
theorem scLawByName : FnScope n_sLawByName ["one"] (defScope sLawByName) := ⟨rfl, rfl, rfl, by decide +kernel, rfl, by decide +kernel, by decide +kernel⟩

section
variable {P : Program} {w : World} {K : PySem.W.Frag} {mg : Str → Option Value} {base : Heap} {C : Nat → Addr}
/-! ### of no other class -/
def spIsOnly (C : Nat → Addr) : Sp := fun vs H Q _ => ∃ a i fs, vs = [.ref a, .int (i : Nat)] ∧ i < 16 ∧ ExAt H a (C i) fs ∧ ∀ H', Same H H' → Q (.bl true) H'
theorem ok_isOnly {f : Addr} {fd : FuncData} (F : Fun K "_law_is_only" "_law_is_only" sLawIsOnly f fd) (B : NB mg) (E : Ers P w K mg base C) (D_LawClasses : Dn P w K mg base "_law_classes" 1 ["error"] (spClasses C)) : FnOk P w K mg base CX0 2 f fd ["error", "at"] (spIsOnly C) := by
  refine F.ok scLawIsOnly (fun vs H Q E h => ?_) (fun cdv A outer s H vs Q E' hr h => ?_)
  · obtain ⟨a, i, fs, rfl, _⟩ := h
    rfl
  · obtain ⟨a, i, fs, rfl, hi, hE, q⟩ := h
    refine ⟨_, (pss_cons (ps_if (PW.pt (pw_or (pt_not (pt_val (pe_callB call_isX (by rfl) B.z_isinstance (by decide +kernel) (pa_cons (pv 0) (pa_cons (pe_glob (v := .ref (C 17)) rfl E.m_HoleError rfl) pa_nil))))) (pw_or1 (pt_not (pt_val (pe_callB call_isX (by rfl) B.z_isinstance (by decide +kernel) (pa_cons (pv 0) (pa_cons (pe_bltn (v := .ty "ValueError") (by rfl) B.z_ValueError (by decide +kernel) rfl) pa_nil))))))))
        (pss_one (ps_ret pe_bl))
        pss_nil)
      (pss_cons (ps_if (PW.pt (pw_or (pt_val (pe_callB call_isXT (by rfl) B.z_isinstance (by decide +kernel) (pa_cons (pv 0) (pa_cons (pe_tup (pa_cons (pe_bltn (v := .ty "LookupError") (by rfl) B.z_LookupError (by decide +kernel) rfl) (pa_cons (pe_bltn (v := .ty "TypeError") (by rfl) B.z_TypeError (by decide +kernel) rfl) (pa_cons (pe_bltn (v := .ty "ArithmeticError") (by rfl) B.z_ArithmeticError (by decide +kernel) rfl) (pa_cons (pe_bltn (v := .ty "AttributeError") (by rfl) B.z_AttributeError (by decide +kernel) rfl) (pa_cons (pe_bltn (v := .ty "RuntimeError") (by rfl) B.z_RuntimeError (by decide +kernel) rfl) pa_nil)))))) pa_nil)))) (pw_or1 (pt_cmpR op_ne (pe_callB call_isX (by rfl) B.z_isinstance (by decide +kernel) (pa_cons (pv 0) (pa_cons (pe_glob (v := .ref (C 16)) rfl E.e_Missing.m rfl) pa_nil))) (pe_chain op_le op_lt pe_int (pv 1) pe_int) (nomark _)))))
        (pss_one (ps_ret pe_bl))
        pss_nil)
      (pss_one (ps_ret (pe_cmpR (op_eqSame (hu0 hr)) (pe_fn D_LawClasses (hr.mono (by decide)) (by rfl) (pa_cons (pv 0) pa_nil)) (pe_lc (own := [("spot", 2)]) (g := gName 2) (tt := tYes) rfl scLawIsOnly.nd (pi_range1 rfl B.z_range (pa_cons pe_int pa_nil)) (blkOk_by (N := n_sLawIsOnly) (sc := (defScope sLawIsOnly)) (by decide +kernel)) (fun _ _ _ _ _ => (pg_name (i := 2) scLawIsOnly.nd rfl (Or.inl rfl))) (fun _ _ _ _ _ => pts_nil) (fun _ _ _ _ _ => (pe_cmpR op_eq (pv 2) (pv 1) (nomark _)))) (nomark _)))))), ?_⟩
    have ek := E.exk i (by omega)
    have k17 : PySem.W.kitOne K (.ref (C i)) (.ref (C 17)) = some true := by
      rw [E.kit i (by omega) 17 (by decide)]
      show some (decide (i = 17) || true) = some true
      rw [Bool.or_true]
    have k16 : PySem.W.kitOne K (.ref (C i)) (.ref (C 16)) = some (decide (8 ≤ i) && decide (i < 12)) := by
      rw [E.kit i (by omega) 16 (by decide)]
      have e : decide (i = 16) = false := decide_eq_false (by omega)
      show some (decide (i = 16) || _) = _
      rw [e]
      rfl
    refine ⟨_, rfl, a, _, fs, _, _, _, rfl, hE, ek, .own _, k17, _, rfl, iteF ⟨_, rfl, a, _, fs, _, _, _, rfl, hE, ek, .ty _, E.kitV i (by omega), _, rfl, iteF ?_⟩⟩
    refine ⟨_, rfl, le_line (by show 5 ≤ 100000; decide), fun tp np => ?_⟩
    have s1 := same_new (o := .tup [.ty "LookupError", .ty "TypeError", .ty "ArithmeticError", .ty "AttributeError", .ty "RuntimeError"]) np
    have hE1 := exAt_same s1 hE
    refine ⟨a, _, tp, fs, _, _, _, rfl, upd_same, .cons (.ty _) (.cons (.ty _) (.cons (.ty _) (.cons (.ty _) (.cons (.ty _) .nil)))), hE1, ek, E.kitT i (by omega), _, rfl, iteF ?_⟩
    generalize upd H tp (.tup [.ty "LookupError", .ty "TypeError", .ty "ArithmeticError", .ty "AttributeError", .ty "RuntimeError"]) = H1 at s1 hE1
    refine ⟨_, rfl, a, _, fs, _, _, _, rfl, hE1, ek, .own _, k16, ?_⟩
    have chain : ∀ (Q' : V → Hp → Prop), Q' (.bl (decide (8 ≤ i) && decide (i < 12))) H1 → tChain (rI0 fun i j => V.bl (decide (i ≤ j))) (rI0 fun i j => V.bl (decide (i < j))) (tC (.int 8)) (tVar 1) (tC (.int 12)) [some (.ref a), some (.int (i : Nat)), none] H1 Q' := by
      intro Q' q'
      refine ⟨_, rfl, _, _, rfl, rfl, _, rfl, ite2 (fun e => ⟨_, _, rfl, rfl, ?_⟩) (fun e => ?_)⟩
      · have e8 : 8 ≤ i := by have := of_decide_eq_true e; omega
        have e9 : decide ((i : Int) < 12) = decide (i < 12) := decide_eq_decide.mpr (by omega)
        show Q' (.bl (decide ((i : Int) < 12))) H1
        rw [e9, ← Bool.true_and (decide (i < 12)), ← decide_eq_true e8]
        exact q'
      · have e8 : ¬ 8 ≤ i := fun z => e (decide_eq_true (by omega))
        rw [decide_eq_false e8, Bool.false_and] at q'
        exact q'
    refine chain _ ⟨rfl, _, rfl, ?_⟩
    have ed : (!decide (V.bl (decide (8 ≤ i) && decide (i < 12)) = V.bl (decide (8 ≤ i) && decide (i < 12)))) = false := by
      rw [decide_eq_true rfl]
      rfl
    rw [ed]
    refine iteF ?_
    refine ⟨_, rfl, a, i, fs, rfl, hi, hE1, fun H2 l s2 nl el => ?_⟩
    refine ⟨16, rfl, by decide, by decide, fun D nD => ?_⟩
    refine lc_range (n := 16) (fun j H' => Same H2 H' ∧ H' D = some (.lst ((List.range j).map fun j => V.bl (decide (i = j))))) ⟨same_new nD, upd_same⟩ (fun j H' hj h => ?_) (fun H' h => ?_)
    · refine ⟨rfl, tyOk ⟨_, rfl, _, rfl, rfl, _, h.2, ?_, fun b o e => ?_, ?_⟩⟩
      · rw [List.length_map, List.length_range]
        exact lt_line (by omega)
      · rw [upd_ne (ne_of_none e nD)]
        exact h.1 _ _ e
      · rw [upd_same, List.range_succ, List.map_append]
        have e1 : decide (V.int (0 + (j : Int)) = V.int ((i : Nat) : Int)) = decide (i = j) := by
          rw [dec_int]
          show decide _ = _
          exact decide_eq_decide.mpr (by omega)
        rw [e1]
        rfl
    · exact ⟨l, D, _, rfl, rfl, SqL.of (h.1 _ _ el), SqL.of h.2, rfl, q H' (s1.trans (s2.trans h.1))⟩
/-! ### thirteen of them -/
def fldN (i : Nat) : Str := if i < 8 then "part" else "value"
def spMade (C : Nat → Addr) : Sp := fun vs H Q _ => ∃ v, vs = [v] ∧ ∀ (H' : Hp) (l : Addr) (as : List Addr), Same H H' → H l = none → H' l = some (.lst (as.map V.ref)) → as.length = 13 → (∀ i a, as[i]? = some a → ExAt H' a (C i) [(fldN i, v)]) → Q (.ref l) H'
theorem ok_byPlace {f : Addr} {fd : FuncData} (F : Fun K "_law_by_place" "_law_by_place" sLawByPlace f fd) (E : Ers P w K mg base C) : FnOk P w K mg base CX0 3 f fd ["one"] (spMade C) := by
  refine F.ok scLawByPlace (fun vs H Q E h => ?_) (fun cdv A outer s Z0 vs Q E' hr h => ?_)
  · obtain ⟨v, rfl, _⟩ := h
    rfl
  · obtain ⟨v, rfl, q⟩ := h
    refine ⟨_, (pss_cons (ps_set (i := 1) scLawByPlace.nd rfl (Or.inl rfl) (pe_lst (pa_cons (pe_mk1p E.e_BadTable (hr.mono (by decide)) (by rfl) (pa_cons (pv 0) pa_nil)) (pa_cons (pe_mk1p E.e_BadNet (hr.mono (by decide)) (by rfl) (pa_cons (pv 0) pa_nil)) (pa_cons (pe_mk1p E.e_BadTask (hr.mono (by decide)) (by rfl) (pa_cons (pv 0) pa_nil)) (pa_cons (pe_mk1p E.e_BadFilling (hr.mono (by decide)) (by rfl) (pa_cons (pv 0) pa_nil)) (pa_cons (pe_mk1p E.e_BadForm (hr.mono (by decide)) (by rfl) (pa_cons (pv 0) pa_nil)) (pa_cons (pe_mk1p E.e_BadNumber (hr.mono (by decide)) (by rfl) (pa_cons (pv 0) pa_nil)) (pa_cons (pe_mk1p E.e_BadPaper (hr.mono (by decide)) (by rfl) (pa_cons (pv 0) pa_nil)) (pa_cons (pe_mk1p E.e_Misfit (hr.mono (by decide)) (by rfl) (pa_cons (pv 0) pa_nil)) pa_nil))))))))))
      (pss_one (ps_ret (pe_op op_cat (pv 1) (pe_lst (pa_cons (pe_mk1p E.e_NoWire (hr.mono (by decide)) (by rfl) (pa_cons (pv 0) pa_nil)) (pa_cons (pe_mk1p E.e_NoHole (hr.mono (by decide)) (by rfl) (pa_cons (pv 0) pa_nil)) (pa_cons (pe_mk1p E.e_NoRow (hr.mono (by decide)) (by rfl) (pa_cons (pv 0) pa_nil)) (pa_cons (pe_mk1p E.e_NoPlace (hr.mono (by decide)) (by rfl) (pa_cons (pv 0) pa_nil)) (pa_cons (pe_mk1p E.e_Twice (hr.mono (by decide)) (by rfl) (pa_cons (pv 0) pa_nil)) pa_nil)))))))))), ?_⟩
    have ll : ∀ n, n ≤ 100000 → n ≤ sizeLine := fun n h => le_line h
    refine ⟨v, rfl, fun a0 H0 n0 s0 x0 => ⟨v, rfl, fun a1 H1 n1 s1 x1 => ⟨v, rfl, fun a2 H2 n2 s2 x2 => ⟨v, rfl, fun a3 H3 n3 s3 x3 => ⟨v, rfl, fun a4 H4 n4 s4 x4 => ⟨v, rfl, fun a5 H5 n5 s5 x5 => ⟨v, rfl, fun a6 H6 n6 s6 x6 => ⟨v, rfl, fun a7 H7 n7 s7 x7 => ⟨ll _ (by show 8 ≤ 100000; decide), fun p0 m0 => ?_⟩⟩⟩⟩⟩⟩⟩⟩⟩
    have c0 := same_new (o := .lst [.ref a0, .ref a1, .ref a2, .ref a3, .ref a4, .ref a5, .ref a6, .ref a7]) m0
    have e0 : (upd H7 p0 (.lst [.ref a0, .ref a1, .ref a2, .ref a3, .ref a4, .ref a5, .ref a6, .ref a7])) p0 = some (.lst [.ref a0, .ref a1, .ref a2, .ref a3, .ref a4, .ref a5, .ref a6, .ref a7]) := upd_same
    generalize upd H7 p0 (.lst [.ref a0, .ref a1, .ref a2, .ref a3, .ref a4, .ref a5, .ref a6, .ref a7]) = G0 at c0 e0
    refine ⟨_, rfl, ⟨v, rfl, fun a8 H8 n8 s8 x8 => ⟨v, rfl, fun a9 H9 n9 s9 x9 => ⟨v, rfl, fun a10 H10 n10 s10 x10 => ⟨v, rfl, fun a11 H11 n11 s11 x11 => ⟨v, rfl, fun a12 H12 n12 s12 x12 => ⟨ll _ (by show 5 ≤ 100000; decide), fun p1 m1 => ?_⟩⟩⟩⟩⟩⟩⟩
    have c1 := same_new (o := .lst [.ref a8, .ref a9, .ref a10, .ref a11, .ref a12]) m1
    have e1 : (upd H12 p1 (.lst [.ref a8, .ref a9, .ref a10, .ref a11, .ref a12])) p1 = some (.lst [.ref a8, .ref a9, .ref a10, .ref a11, .ref a12]) := upd_same
    generalize upd H12 p1 (.lst [.ref a8, .ref a9, .ref a10, .ref a11, .ref a12]) = G1 at c1 e1
    have b1 := (((((s8.trans s9).trans s10).trans s11).trans s12).trans c1) _ _ e0
    refine ⟨_, _, _, _, rfl, rfl, b1, e1, ll _ (by show 13 ≤ 100000; decide), fun q1 k1 => ?_⟩
    have d1 := same_new (o := .lst ([.ref a0, .ref a1, .ref a2, .ref a3, .ref a4, .ref a5, .ref a6, .ref a7] ++ [.ref a8, .ref a9, .ref a10, .ref a11, .ref a12])) k1
    have f1 : (upd G1 q1 (.lst ([.ref a0, .ref a1, .ref a2, .ref a3, .ref a4, .ref a5, .ref a6, .ref a7] ++ [.ref a8, .ref a9, .ref a10, .ref a11, .ref a12]))) q1 = some (.lst ([.ref a0, .ref a1, .ref a2, .ref a3, .ref a4, .ref a5, .ref a6, .ref a7] ++ [.ref a8, .ref a9, .ref a10, .ref a11, .ref a12])) := upd_same
    generalize upd G1 q1 (.lst ([.ref a0, .ref a1, .ref a2, .ref a3, .ref a4, .ref a5, .ref a6, .ref a7] ++ [.ref a8, .ref a9, .ref a10, .ref a11, .ref a12])) = J1 at d1 f1
    have t16 := Same.refl J1
    have t15 := d1.trans t16
    have t14 := c1.trans t15
    have t13 := s12.trans t14
    have t12 := s11.trans t13
    have t11 := s10.trans t12
    have t10 := s9.trans t11
    have t9 := s8.trans t10
    have t8 := c0.trans t9
    have t7 := s7.trans t8
    have t6 := s6.trans t7
    have t5 := s5.trans t6
    have t4 := s4.trans t5
    have t3 := s3.trans t4
    have t2 := s2.trans t3
    have t1 := s1.trans t2
    have t0 := s0.trans t1
    refine q _ q1 [a0, a1, a2, a3, a4, a5, a6, a7, a8, a9, a10, a11, a12] t0 ?_ f1 rfl (fun i a h => ?_)
    · have g15 := Same.refl G1
      have g14 := c1.trans g15
      have g13 := s12.trans g14
      have g12 := s11.trans g13
      have g11 := s10.trans g12
      have g10 := s9.trans g11
      have g9 := s8.trans g10
      have g8 := c0.trans g9
      have g7 := s7.trans g8
      have g6 := s6.trans g7
      have g5 := s5.trans g6
      have g4 := s4.trans g5
      have g3 := s3.trans g4
      have g2 := s2.trans g3
      have g1 := s1.trans g2
      have g0 := s0.trans g1
      exact g0.free k1
    · match i, h with
      | 0, h => (cases h; exact exAt_same t1 x0)
      | 1, h => (cases h; exact exAt_same t2 x1)
      | 2, h => (cases h; exact exAt_same t3 x2)
      | 3, h => (cases h; exact exAt_same t4 x3)
      | 4, h => (cases h; exact exAt_same t5 x4)
      | 5, h => (cases h; exact exAt_same t6 x5)
      | 6, h => (cases h; exact exAt_same t7 x6)
      | 7, h => (cases h; exact exAt_same t8 x7)
      | 8, h => (cases h; exact exAt_same t10 x8)
      | 9, h => (cases h; exact exAt_same t11 x9)
      | 10, h => (cases h; exact exAt_same t12 x10)
      | 11, h => (cases h; exact exAt_same t13 x11)
      | 12, h => (cases h; exact exAt_same t14 x12)
      | i + 13, h => exact absurd h (by simp)
theorem ok_byName {f : Addr} {fd : FuncData} (F : Fun K "_law_by_name" "_law_by_name" sLawByName f fd) (E : Ers P w K mg base C) : FnOk P w K mg base CX0 3 f fd ["one"] (spMade C) := by
  refine F.ok scLawByName (fun vs H Q E h => ?_) (fun cdv A outer s Z0 vs Q E' hr h => ?_)
  · obtain ⟨v, rfl, _⟩ := h
    rfl
  · obtain ⟨v, rfl, q⟩ := h
    refine ⟨_, (pss_cons (ps_set (i := 1) scLawByName.nd rfl (Or.inl rfl) (pe_lst (pa_cons (pe_mk1k E.e_BadTable (hr.mono (by decide)) (by rfl) (pk_cons (pv 0) pk_nil)) (pa_cons (pe_mk1k E.e_BadNet (hr.mono (by decide)) (by rfl) (pk_cons (pv 0) pk_nil)) (pa_cons (pe_mk1k E.e_BadTask (hr.mono (by decide)) (by rfl) (pk_cons (pv 0) pk_nil)) (pa_cons (pe_mk1k E.e_BadFilling (hr.mono (by decide)) (by rfl) (pk_cons (pv 0) pk_nil)) pa_nil))))))
      (pss_cons (ps_set (i := 1) scLawByName.nd rfl (Or.inl rfl) (pe_op op_cat (pv 1) (pe_lst (pa_cons (pe_mk1k E.e_BadForm (hr.mono (by decide)) (by rfl) (pk_cons (pv 0) pk_nil)) (pa_cons (pe_mk1k E.e_BadNumber (hr.mono (by decide)) (by rfl) (pk_cons (pv 0) pk_nil)) (pa_cons (pe_mk1k E.e_BadPaper (hr.mono (by decide)) (by rfl) (pk_cons (pv 0) pk_nil)) (pa_cons (pe_mk1k E.e_Misfit (hr.mono (by decide)) (by rfl) (pk_cons (pv 0) pk_nil)) pa_nil)))))))
      (pss_one (ps_ret (pe_op op_cat (pv 1) (pe_lst (pa_cons (pe_mk1k E.e_NoWire (hr.mono (by decide)) (by rfl) (pk_cons (pv 0) pk_nil)) (pa_cons (pe_mk1k E.e_NoHole (hr.mono (by decide)) (by rfl) (pk_cons (pv 0) pk_nil)) (pa_cons (pe_mk1k E.e_NoRow (hr.mono (by decide)) (by rfl) (pk_cons (pv 0) pk_nil)) (pa_cons (pe_mk1k E.e_NoPlace (hr.mono (by decide)) (by rfl) (pk_cons (pv 0) pk_nil)) (pa_cons (pe_mk1k E.e_Twice (hr.mono (by decide)) (by rfl) (pk_cons (pv 0) pk_nil)) pa_nil))))))))))), ?_⟩
    have ll : ∀ n, n ≤ 100000 → n ≤ sizeLine := fun n h => le_line h
    refine ⟨v, rfl, fun a0 H0 n0 s0 x0 => ⟨v, rfl, fun a1 H1 n1 s1 x1 => ⟨v, rfl, fun a2 H2 n2 s2 x2 => ⟨v, rfl, fun a3 H3 n3 s3 x3 => ⟨ll _ (by show 4 ≤ 100000; decide), fun p0 m0 => ?_⟩⟩⟩⟩⟩
    have c0 := same_new (o := .lst [.ref a0, .ref a1, .ref a2, .ref a3]) m0
    have e0 : (upd H3 p0 (.lst [.ref a0, .ref a1, .ref a2, .ref a3])) p0 = some (.lst [.ref a0, .ref a1, .ref a2, .ref a3]) := upd_same
    generalize upd H3 p0 (.lst [.ref a0, .ref a1, .ref a2, .ref a3]) = G0 at c0 e0
    refine ⟨_, rfl, ⟨v, rfl, fun a4 H4 n4 s4 x4 => ⟨v, rfl, fun a5 H5 n5 s5 x5 => ⟨v, rfl, fun a6 H6 n6 s6 x6 => ⟨v, rfl, fun a7 H7 n7 s7 x7 => ⟨ll _ (by show 4 ≤ 100000; decide), fun p1 m1 => ?_⟩⟩⟩⟩⟩⟩
    have c1 := same_new (o := .lst [.ref a4, .ref a5, .ref a6, .ref a7]) m1
    have e1 : (upd H7 p1 (.lst [.ref a4, .ref a5, .ref a6, .ref a7])) p1 = some (.lst [.ref a4, .ref a5, .ref a6, .ref a7]) := upd_same
    generalize upd H7 p1 (.lst [.ref a4, .ref a5, .ref a6, .ref a7]) = G1 at c1 e1
    have b1 := ((((s4.trans s5).trans s6).trans s7).trans c1) _ _ e0
    refine ⟨_, _, _, _, rfl, rfl, b1, e1, ll _ (by show 8 ≤ 100000; decide), fun q1 k1 => ?_⟩
    have d1 := same_new (o := .lst ([.ref a0, .ref a1, .ref a2, .ref a3] ++ [.ref a4, .ref a5, .ref a6, .ref a7])) k1
    have f1 : (upd G1 q1 (.lst ([.ref a0, .ref a1, .ref a2, .ref a3] ++ [.ref a4, .ref a5, .ref a6, .ref a7]))) q1 = some (.lst ([.ref a0, .ref a1, .ref a2, .ref a3] ++ [.ref a4, .ref a5, .ref a6, .ref a7])) := upd_same
    generalize upd G1 q1 (.lst ([.ref a0, .ref a1, .ref a2, .ref a3] ++ [.ref a4, .ref a5, .ref a6, .ref a7])) = J1 at d1 f1
    refine ⟨_, rfl, ⟨v, rfl, fun a8 H8 n8 s8 x8 => ⟨v, rfl, fun a9 H9 n9 s9 x9 => ⟨v, rfl, fun a10 H10 n10 s10 x10 => ⟨v, rfl, fun a11 H11 n11 s11 x11 => ⟨v, rfl, fun a12 H12 n12 s12 x12 => ⟨ll _ (by show 5 ≤ 100000; decide), fun p2 m2 => ?_⟩⟩⟩⟩⟩⟩⟩
    have c2 := same_new (o := .lst [.ref a8, .ref a9, .ref a10, .ref a11, .ref a12]) m2
    have e2 : (upd H12 p2 (.lst [.ref a8, .ref a9, .ref a10, .ref a11, .ref a12])) p2 = some (.lst [.ref a8, .ref a9, .ref a10, .ref a11, .ref a12]) := upd_same
    generalize upd H12 p2 (.lst [.ref a8, .ref a9, .ref a10, .ref a11, .ref a12]) = G2 at c2 e2
    have b2 := (((((s8.trans s9).trans s10).trans s11).trans s12).trans c2) _ _ f1
    refine ⟨_, _, _, _, rfl, rfl, b2, e2, ll _ (by show 13 ≤ 100000; decide), fun q2 k2 => ?_⟩
    have d2 := same_new (o := .lst (([.ref a0, .ref a1, .ref a2, .ref a3] ++ [.ref a4, .ref a5, .ref a6, .ref a7]) ++ [.ref a8, .ref a9, .ref a10, .ref a11, .ref a12])) k2
    have f2 : (upd G2 q2 (.lst (([.ref a0, .ref a1, .ref a2, .ref a3] ++ [.ref a4, .ref a5, .ref a6, .ref a7]) ++ [.ref a8, .ref a9, .ref a10, .ref a11, .ref a12]))) q2 = some (.lst (([.ref a0, .ref a1, .ref a2, .ref a3] ++ [.ref a4, .ref a5, .ref a6, .ref a7]) ++ [.ref a8, .ref a9, .ref a10, .ref a11, .ref a12])) := upd_same
    generalize upd G2 q2 (.lst (([.ref a0, .ref a1, .ref a2, .ref a3] ++ [.ref a4, .ref a5, .ref a6, .ref a7]) ++ [.ref a8, .ref a9, .ref a10, .ref a11, .ref a12])) = J2 at d2 f2
    have t18 := Same.refl J2
    have t17 := d2.trans t18
    have t16 := c2.trans t17
    have t15 := s12.trans t16
    have t14 := s11.trans t15
    have t13 := s10.trans t14
    have t12 := s9.trans t13
    have t11 := s8.trans t12
    have t10 := d1.trans t11
    have t9 := c1.trans t10
    have t8 := s7.trans t9
    have t7 := s6.trans t8
    have t6 := s5.trans t7
    have t5 := s4.trans t6
    have t4 := c0.trans t5
    have t3 := s3.trans t4
    have t2 := s2.trans t3
    have t1 := s1.trans t2
    have t0 := s0.trans t1
    refine q _ q2 [a0, a1, a2, a3, a4, a5, a6, a7, a8, a9, a10, a11, a12] t0 ?_ f2 rfl (fun i a h => ?_)
    · have g17 := Same.refl G2
      have g16 := c2.trans g17
      have g15 := s12.trans g16
      have g14 := s11.trans g15
      have g13 := s10.trans g14
      have g12 := s9.trans g13
      have g11 := s8.trans g12
      have g10 := d1.trans g11
      have g9 := c1.trans g10
      have g8 := s7.trans g9
      have g7 := s6.trans g8
      have g6 := s5.trans g7
      have g5 := s4.trans g6
      have g4 := c0.trans g5
      have g3 := s3.trans g4
      have g2 := s2.trans g3
      have g1 := s1.trans g2
      have g0 := s0.trans g1
      exact g0.free k2
    · match i, h with
      | 0, h => (cases h; exact exAt_same t1 x0)
      | 1, h => (cases h; exact exAt_same t2 x1)
      | 2, h => (cases h; exact exAt_same t3 x2)
      | 3, h => (cases h; exact exAt_same t4 x3)
      | 4, h => (cases h; exact exAt_same t6 x4)
      | 5, h => (cases h; exact exAt_same t7 x5)
      | 6, h => (cases h; exact exAt_same t8 x6)
      | 7, h => (cases h; exact exAt_same t9 x7)
      | 8, h => (cases h; exact exAt_same t12 x8)
      | 9, h => (cases h; exact exAt_same t13 x9)
      | 10, h => (cases h; exact exAt_same t14 x10)
      | 11, h => (cases h; exact exAt_same t15 x11)
      | 12, h => (cases h; exact exAt_same t16 x12)
      | i + 13, h => exact absurd h (by simp)
end
end K00
/-! Errors made both ways. -/
namespace K00
open PySem PySem.Spec PyProof.Rows L2 Kit
abbrev sLawOneRight : Stmt := topS 41
abbrev n_sLawOneRight : List Str := ["one", "other", "made", "again", "at", "error", "told", "base", "twin"]
theorem scLawOneRight : FnScope n_sLawOneRight ["one", "other"] (defScope sLawOneRight) := ⟨rfl, rfl, rfl, by decide +kernel, rfl, by decide +kernel, by decide +kernel⟩
abbrev sLawTwoRight : Stmt := topS 42
abbrev n_sLawTwoRight : List Str := ["one", "other", "error"]
theorem scLawTwoRight : FnScope n_sLawTwoRight ["one", "other"] (defScope sLawTwoRight) := ⟨rfl, rfl, rfl, by decide +kernel, rfl, by decide +kernel, by decide +kernel⟩

section
variable {P : Program} {w : World} {K : PySem.W.Frag} {mg : Str → Option Value} {base : Heap} {C : Nat → Addr}
theorem lk1 {f : Str} {v : V} : ([(f, v)] : List (Str × V)).lookup f = some v := by simp [List.lookup]
theorem lk2a {f g : Str} {v x : V} : ([(g, x), (f, v)] : List (Str × V)).lookup g = some x := by simp [List.lookup]
theorem lk2b {f g : Str} {v x : V} (h : ¬ f = g) : ([(g, x), (f, v)] : List (Str × V)).lookup f = some v := by
  rw [lookup_put, if_neg h]
  exact lk1
theorem all_self2 {u : Addr} {H : Hp} {x y : V} (ox : Ov u H x) (oy : Ov u H y) : [x, y].all selfV = true := by
  show (selfV x && (selfV y && true)) = true
  rw [ox.sv, oy.sv]
  rfl
def spPair (K : PySem.W.Frag) : Sp := fun vs H Q _ => ∃ u x y, vs = [x, y] ∧ Ov u H x ∧ Ov u H y ∧ ∀ H', Same H H' → Q (.bl true) H'
theorem ok_two {f : Addr} {fd : FuncData} (F : Fun K "_law_two_right" "_law_two_right" sLawTwoRight f fd) (B : NB mg) (E : Ers P w K mg base C) (D_LawIsOnly : Dn P w K mg base "_law_is_only" 2 ["error", "at"] (spIsOnly C)) : FnOk P w K mg base CX0 3 f fd ["one", "other"] (spPair K) := by
  refine F.ok scLawTwoRight (fun vs H Q E h => ?_) (fun cdv A outer s H vs Q E' hr h => ?_)
  · obtain ⟨u, x, y, rfl, _⟩ := h
    rfl
  · obtain ⟨u, x, y, rfl, ox, oy, q⟩ := h
    refine ⟨_, (pss_cons (ps_for PassesOwn.never rfl (pi_tup (pe_tup (pa_cons (pe_mk2p E.e_TooMany (hr.mono (by decide)) (by rfl) (pa_cons (pv 0) (pa_cons (pv 1) pa_nil))) (pa_cons (pe_mk2k E.e_TooMany (hr.mono (by decide)) (by rfl) (pk_cons (pv 1) (pk_cons (pv 0) pk_nil))) pa_nil)))) (pg_name (i := 2) scLawTwoRight.nd rfl (Or.inl rfl))
      (pss_one (ps_if (PW.pt (pw_or (pt_cmpR (op_neSame (hu0 hr)) (pe_lst (pa_cons (pe_exf (pv 2) rfl) (pa_cons (pe_exf (pv 2) rfl) pa_nil))) (pe_lst (pa_cons (pv 0) (pa_cons (pv 1) pa_nil))) (nomark _)) (pw_or1 (pt_not (pt_val (pe_fn D_LawIsOnly (hr.mono (by decide)) (by rfl) (pa_cons (pv 2) (pa_cons pe_int pa_nil))))))))
        (pss_one (ps_ret pe_bl))
        pss_nil)))
      (pss_cons (ps_for PassesOwn.never rfl (pi_tup (pe_tup (pa_cons (pe_mk2p E.e_BadText (hr.mono (by decide)) (by rfl) (pa_cons (pv 0) (pa_cons (pv 1) pa_nil))) (pa_cons (pe_mk2k E.e_BadText (hr.mono (by decide)) (by rfl) (pk_cons (pv 1) (pk_cons (pv 0) pk_nil))) pa_nil)))) (pg_name (i := 2) scLawTwoRight.nd rfl (Or.inl rfl))
      (pss_one (ps_if (PW.pt (pw_or (pt_cmpR (op_neSame (hu0 hr)) (pe_lst (pa_cons (pe_exf (pv 2) rfl) (pa_cons (pe_exf (pv 2) rfl) pa_nil))) (pe_lst (pa_cons (pv 0) (pa_cons (pv 1) pa_nil))) (nomark _)) (pw_or1 (pt_not (pt_val (pe_fn D_LawIsOnly (hr.mono (by decide)) (by rfl) (pa_cons (pv 2) (pa_cons pe_int pa_nil))))))))
        (pss_one (ps_ret pe_bl))
        pss_nil)))
      (pss_one (ps_ret pe_bl)))), ?_⟩
    refine ⟨x, y, rfl, rfl, fun a H1 n1 s1 x1 => ⟨x, y, rfl, rfl, fun b H2 n2 s2 x2 => ⟨two_le, fun p n3 => ?_⟩⟩⟩
    have s3 := same_new (o := .tup [.ref a, .ref b]) n3
    have e3 : (upd H2 p (.tup [.ref a, .ref b])) p = some (.tup [.ref a, .ref b]) := upd_same
    have x1 := exAt_same (s2.trans s3) x1
    have x2 := exAt_same s3 x2
    have t3 := (s1.trans (s2.trans s3))
    generalize upd H2 p (.tup [.ref a, .ref b]) = H3 at s3 e3 x1 x2 t3
    refine ⟨p, rfl, ⟨_, SqT.of e3⟩, ?_⟩
    refine for_tup (K := K) (a := p) (xs := [.ref a, .ref b]) (fun i σ H' => (∃ v, σ = [some x, some y, v]) ∧ Same H3 H') ⟨⟨_, rfl⟩, Same.refl _⟩ (fun i σ H' _ h => SqT.of (h.2 _ _ e3)) (fun i z σ H' hi h => ?_) (fun σ H' h => ?_)
    · obtain ⟨⟨v, rfl⟩, sm⟩ := h
      have hz : ∃ e, z = .ref e ∧ ExAt H' e (C 14) [("most", y), ("what", x)] := by
        rcases i with _ | _ | i
        · cases hi
          exact ⟨a, rfl, exAt_same sm x1⟩
        · cases hi
          exact ⟨b, rfl, exAt_same sm x2⟩
        · simp at hi
      obtain ⟨e, rfl, he⟩ := hz
      have ek := E.exk 14 (by decide)
      refine ⟨_, rfl, e, C 14, _, x, rfl, he, ek, E.e_TooMany.no, lk2b (by decide), _, rfl, e, C 14, _, y, rfl, he, ek, E.e_TooMany.no2, lk2a, two_le, fun l1 m1 => ?_⟩
      have r1 := same_new (o := .lst [x, y]) m1
      refine ⟨_, rfl, _, rfl, two_le, fun l2 m2 => ?_⟩
      have r2 := same_new (o := .lst [x, y]) m2
      refine ⟨l1, l2, [x, y], rfl, rfl, SqL.of (r2 _ _ upd_same), SqL.of upd_same, all_self2 ox oy, _, rfl, iteF ?_⟩
      have r := r1.trans r2
      refine ⟨_, rfl, e, 14, _, rfl, by decide, exAt_same r he, fun H4 s4 => ⟨_, rfl, iteF ?_⟩⟩
      exact ⟨⟨_, rfl⟩, sm.trans (r.trans s4)⟩
    · obtain ⟨⟨v, rfl⟩, sm⟩ := h
      have t4 := t3.trans sm
      refine ⟨x, y, rfl, rfl, fun a H1 n1 s1 x1 => ⟨x, y, rfl, rfl, fun b H2 n2 s2 x2 => ⟨two_le, fun p n3 => ?_⟩⟩⟩
      have s3 := same_new (o := .tup [.ref a, .ref b]) n3
      have e3 : (upd H2 p (.tup [.ref a, .ref b])) p = some (.tup [.ref a, .ref b]) := upd_same
      have x1 := exAt_same (s2.trans s3) x1
      have x2 := exAt_same s3 x2
      have t3 := t4.trans (s1.trans (s2.trans s3))
      generalize upd H2 p (.tup [.ref a, .ref b]) = H3 at s3 e3 x1 x2 t3
      refine ⟨p, rfl, ⟨_, SqT.of e3⟩, ?_⟩
      refine for_tup (K := K) (a := p) (xs := [.ref a, .ref b]) (fun i σ H' => (∃ v, σ = [some x, some y, v]) ∧ Same H3 H') ⟨⟨_, rfl⟩, Same.refl _⟩ (fun i σ H' _ h => SqT.of (h.2 _ _ e3)) (fun i z σ H' hi h => ?_) (fun σ H' h => ?_)
      · obtain ⟨⟨v, rfl⟩, sm⟩ := h
        have hz : ∃ e, z = .ref e ∧ ExAt H' e (C 15) [("item", y), ("line", x)] := by
          rcases i with _ | _ | i
          · cases hi
            exact ⟨a, rfl, exAt_same sm x1⟩
          · cases hi
            exact ⟨b, rfl, exAt_same sm x2⟩
          · simp at hi
        obtain ⟨e, rfl, he⟩ := hz
        have ek := E.exk 15 (by decide)
        refine ⟨_, rfl, e, C 15, _, x, rfl, he, ek, E.e_BadText.no, lk2b (by decide), _, rfl, e, C 15, _, y, rfl, he, ek, E.e_BadText.no2, lk2a, two_le, fun l1 m1 => ?_⟩
        have r1 := same_new (o := .lst [x, y]) m1
        refine ⟨_, rfl, _, rfl, two_le, fun l2 m2 => ?_⟩
        have r2 := same_new (o := .lst [x, y]) m2
        refine ⟨l1, l2, [x, y], rfl, rfl, SqL.of (r2 _ _ upd_same), SqL.of upd_same, all_self2 ox oy, _, rfl, iteF ?_⟩
        have r := r1.trans r2
        refine ⟨_, rfl, e, 15, _, rfl, by decide, exAt_same r he, fun H4 s4 => ⟨_, rfl, iteF ?_⟩⟩
        exact ⟨⟨_, rfl⟩, sm.trans (r.trans s4)⟩
      · obtain ⟨⟨v, rfl⟩, sm⟩ := h
        exact q H' (t3.trans sm)
/-! ### one field -/
theorem Ers.nof (E : Ers P w K mg base C) : ∀ i, i < 13 → PySem.W.findIn K (.ref (C i)) (fldN i) = some none
  | 0, _ => E.e_BadTable.no
  | 1, _ => E.e_BadNet.no
  | 2, _ => E.e_BadTask.no
  | 3, _ => E.e_BadFilling.no
  | 4, _ => E.e_BadForm.no
  | 5, _ => E.e_BadNumber.no
  | 6, _ => E.e_BadPaper.no
  | 7, _ => E.e_Misfit.no
  | 8, _ => E.e_NoWire.no
  | 9, _ => E.e_NoHole.no
  | 10, _ => E.e_NoRow.no
  | 11, _ => E.e_NoPlace.no
  | 12, _ => E.e_Twice.no
  | i + 13, h => absurd h (by omega)
def Md (C : Nat → Addr) (H : Hp) (l : Addr) (v : V) : Prop := ∃ as : List Addr, H l = some (.lst (as.map V.ref)) ∧ as.length = 13 ∧ ∀ i a, as[i]? = some a → ExAt H a (C i) [(fldN i, v)]
theorem md_same {H H' : Hp} {l : Addr} {v : V} (e : Same H H') (h : Md C H l v) : Md C H' l v := by
  obtain ⟨as, h1, h2, h3⟩ := h
  exact ⟨as, e _ _ h1, h2, fun i a hi => exAt_same e (h3 i a hi)⟩
theorem sqT_two {H H' : Hp} {p a b : Addr} (e : Same H H') (h : H p = some (.tup [.ref a, .ref b])) : SqT K H' p [.ref a, .ref b] := SqT.of (e _ _ h)
theorem ok_oneRight {f : Addr} {fd : FuncData} (F : Fun K "_law_one_right" "_law_one_right" sLawOneRight f fd) (B : NB mg) (E : Ers P w K mg base C) (D_LawIsOnly : Dn P w K mg base "_law_is_only" 2 ["error", "at"] (spIsOnly C))
    (D_LawByPlace : Dn P w K mg base "_law_by_place" 3 ["one"] (spMade C)) (D_LawByName : Dn P w K mg base "_law_by_name" 3 ["one"] (spMade C)) : FnOk P w K mg base CX0 4 f fd ["one", "other"] (spPair K) := by
  refine F.ok scLawOneRight (fun vs H Q E h => ?_) (fun cdv A outer s H vs Q E' hr h => ?_)
  · obtain ⟨u, x, y, rfl, _⟩ := h
    rfl
  · obtain ⟨u, x, y, rfl, ox, oy, q⟩ := h
    refine ⟨_, (pss_cons (ps_for PassesOwn.never rfl (pi_tup (pe_tup (pa_cons (pe_tup (pa_cons (pe_fn D_LawByPlace (hr.mono (by decide)) (by rfl) (pa_cons (pv 0) pa_nil)) (pa_cons (pe_fn D_LawByName (hr.mono (by decide)) (by rfl) (pa_cons (pv 1) pa_nil)) pa_nil))) (pa_cons (pe_tup (pa_cons (pe_fn D_LawByName (hr.mono (by decide)) (by rfl) (pa_cons (pv 0) pa_nil)) (pa_cons (pe_fn D_LawByPlace (hr.mono (by decide)) (by rfl) (pa_cons (pv 1) pa_nil)) pa_nil))) pa_nil)))) (pg_tup rfl (pgs_cons (pg_name (i := 2) scLawOneRight.nd rfl (Or.inl rfl)) (pgs_cons (pg_name (i := 3) scLawOneRight.nd rfl (Or.inl rfl)) pgs_nil)))
      (pss_one (ps_for PassesOwn.never rfl (pi_enum (by rfl) B.z_enumerate (pa_cons (pv 2) pa_nil)) (pg_tup rfl (pgs_cons (pg_name (i := 4) scLawOneRight.nd rfl (Or.inl rfl)) (pgs_cons (pg_name (i := 5) scLawOneRight.nd rfl (Or.inl rfl)) pgs_nil)))
      (pss_cons (ps_set (i := 6) scLawOneRight.nd rfl (Or.inl rfl) (pe_ifExp (pt_cmpR op_lt (pv 4) pe_int (nomark _)) (pe_lst (pa_cons (pe_exf (pv 5) rfl) (pa_cons (pe_exf (pe_ix ix_list (pv 3) (pv 4) (fun _ _ => rfl)) rfl) pa_nil))) (pe_lst (pa_cons (pe_exf (pv 5) rfl) (pa_cons (pe_exf (pe_ix ix_list (pv 3) (pv 4) (fun _ _ => rfl)) rfl) pa_nil)))))
      (pss_one (ps_if (PW.pt (pw_or (pt_cmpR (op_neSame (hu0 hr)) (pv 6) (pe_lst (pa_cons (pv 0) (pa_cons (pv 1) pa_nil))) (nomark _)) (pw_or (pt_not (pt_val (pe_fn D_LawIsOnly (hr.mono (by decide)) (by rfl) (pa_cons (pv 5) (pa_cons (pv 4) pa_nil))))) (pw_or1 (pt_not (pt_val (pe_fn D_LawIsOnly (hr.mono (by decide)) (by rfl) (pa_cons (pe_ix ix_list (pv 3) (pv 4) (fun _ _ => rfl)) (pa_cons (pv 4) pa_nil)))))))))
        (pss_one (ps_ret pe_bl))
        pss_nil))))))
      (pss_cons (ps_set (i := 7) scLawOneRight.nd rfl (Or.inl rfl) (pe_mk1k E.e_Missing (hr.mono (by decide)) (by rfl) (pk_cons (pv 0) pk_nil)))
      (pss_cons (ps_if (PW.pt (pw_or (pt_cmpR (op_neSelf (hu0 hr)) (pe_exf (pv 7) rfl) (pv 0) (nomark _)) (pw_or (pt_val (pe_callB call_isX (by rfl) B.z_isinstance (by decide +kernel) (pa_cons (pv 7) (pa_cons (pe_glob (v := .ref (C 9)) rfl E.e_NoHole.m rfl) pa_nil)))) (pw_or (pt_not (pt_val (pe_callB call_isX (by rfl) B.z_isinstance (by decide +kernel) (pa_cons (pv 7) (pa_cons (pe_glob (v := .ref (C 17)) rfl E.m_HoleError rfl) pa_nil))))) (pw_or1 (pt_cmpR (op_neSelf (hu0 hr)) (pe_exf (pe_mk1p E.e_Missing (hr.mono (by decide)) (by rfl) (pa_cons (pv 1) pa_nil)) rfl) (pv 1) (nomark _)))))))
        (pss_one (ps_ret pe_bl))
        pss_nil)
      (pss_cons (ps_for PassesOwn.never rfl (pi_tup (pe_tup (pa_cons (pe_tup (pa_cons (pe_mk1p E.e_Impossible (hr.mono (by decide)) (by rfl) (pa_cons (pv 0) pa_nil)) (pa_cons (pe_mk1k E.e_Impossible (hr.mono (by decide)) (by rfl) (pk_cons (pv 1) pk_nil)) pa_nil))) (pa_cons (pe_tup (pa_cons (pe_mk1k E.e_Impossible (hr.mono (by decide)) (by rfl) (pk_cons (pv 0) pk_nil)) (pa_cons (pe_mk1p E.e_Impossible (hr.mono (by decide)) (by rfl) (pa_cons (pv 1) pa_nil)) pa_nil))) pa_nil)))) (pg_tup rfl (pgs_cons (pg_name (i := 5) scLawOneRight.nd rfl (Or.inl rfl)) (pgs_cons (pg_name (i := 8) scLawOneRight.nd rfl (Or.inl rfl)) pgs_nil)))
      (pss_one (ps_if (PW.pt (pw_or (pt_cmpR (op_neSame (hu0 hr)) (pe_lst (pa_cons (pe_exf (pv 5) rfl) (pa_cons (pe_exf (pv 8) rfl) pa_nil))) (pe_lst (pa_cons (pv 0) (pa_cons (pv 1) pa_nil))) (nomark _)) (pw_or (pt_not (pt_val (pe_fn D_LawIsOnly (hr.mono (by decide)) (by rfl) (pa_cons (pv 5) (pa_cons pe_int pa_nil))))) (pw_or1 (pt_not (pt_val (pe_fn D_LawIsOnly (hr.mono (by decide)) (by rfl) (pa_cons (pv 8) (pa_cons pe_int pa_nil)))))))))
        (pss_one (ps_ret pe_bl))
        pss_nil)))
      (pss_one (ps_ret pe_bl)))))), ?_⟩
    refine ⟨_, rfl, x, rfl, fun H1 l1 as1 s1 n1 e1 g1 f1 => ⟨_, rfl, y, rfl, fun H2 l2 as2 s2 n2 e2 g2 f2 => ⟨two_le, fun p1 m1 => ?_⟩⟩⟩
    have c1 := same_new (o := .tup [.ref l1, .ref l2]) m1
    have d1 : (upd H2 p1 (.tup [.ref l1, .ref l2])) p1 = some (.tup [.ref l1, .ref l2]) := upd_same
    have M1 : Md C _ l1 x := md_same (s2.trans c1) ⟨as1, e1, g1, f1⟩
    have M2 : Md C _ l2 y := md_same c1 ⟨as2, e2, g2, f2⟩
    have t1 := s1.trans (s2.trans c1)
    generalize upd H2 p1 (.tup [.ref l1, .ref l2]) = J1 at c1 d1 M1 M2 t1
    refine ⟨_, rfl, x, rfl, fun H3 l3 as3 s3 n3 e3 g3 f3 => ⟨_, rfl, y, rfl, fun H4 l4 as4 s4 n4 e4 g4 f4 => ⟨two_le, fun p2 m2 => ?_⟩⟩⟩
    have c2 := same_new (o := .tup [.ref l3, .ref l4]) m2
    have d2 : (upd H4 p2 (.tup [.ref l3, .ref l4])) p2 = some (.tup [.ref l3, .ref l4]) := upd_same
    have M3 : Md C _ l3 x := md_same (s4.trans c2) ⟨as3, e3, g3, f3⟩
    have M4 : Md C _ l4 y := md_same c2 ⟨as4, e4, g4, f4⟩
    have t2 := s3.trans (s4.trans c2)
    generalize upd H4 p2 (.tup [.ref l3, .ref l4]) = J2 at c2 d2 M3 M4 t2
    refine ⟨two_le, fun p m => ?_⟩
    have c3 := same_new (o := .tup [.ref p1, .ref p2]) m
    have d3 : (upd J2 p (.tup [.ref p1, .ref p2])) p = some (.tup [.ref p1, .ref p2]) := upd_same
    have M1 := md_same (t2.trans c3) M1
    have M2 := md_same (t2.trans c3) M2
    have M3 := md_same c3 M3
    have M4 := md_same c3 M4
    have d1 := (t2.trans c3) _ _ d1
    have d2 := c3 _ _ d2
    have t3 := t1.trans (t2.trans c3)
    generalize upd J2 p (.tup [.ref p1, .ref p2]) = J3 at c3 d1 d2 d3 M1 M2 M3 M4 t3
    refine ⟨p, rfl, ⟨_, SqT.of d3⟩, ?_⟩
    refine for_tup (K := K) (a := p) (xs := [.ref p1, .ref p2]) (fun i σ H' => (∃ v2 v3 v4 v5 v6, σ = [some x, some y, v2, v3, v4, v5, v6, none, none]) ∧ Same J3 H') ⟨⟨_, _, _, _, _, rfl⟩, Same.refl _⟩ (fun i σ H' _ h => SqT.of (h.2 _ _ d3)) (fun i z σ H' hi h => ?_) (fun σ H' h => ?_)
    · obtain ⟨⟨v2, v3, v4, v5, v6, rfl⟩, sm⟩ := h
      have hz : ∃ q l l', z = .ref q ∧ SqT K H' q [.ref l, .ref l'] ∧ Md C H' l x ∧ Md C H' l' y := by
        rcases i with _ | _ | i
        · cases hi
          exact ⟨p1, l1, l2, rfl, SqT.of (sm _ _ d1), md_same sm M1, md_same sm M2⟩
        · cases hi
          exact ⟨p2, l3, l4, rfl, SqT.of (sm _ _ d2), md_same sm M3, md_same sm M4⟩
        · simp at hi
      obtain ⟨q0, l, l', rfl, hq, Ml, Ml'⟩ := hz
      refine ⟨q0, _, rfl, hq, rfl, _, _, rfl, _, _, rfl, rfl, ?_⟩
      obtain ⟨as, ea, ga, fa⟩ := id Ml
      obtain ⟨bs, eb, gb, fb⟩ := id Ml'
      refine ⟨_, rfl, l, as.map V.ref, rfl, SqL.of ea, ?_⟩
      refine for_it walk_enum (fun i σ H'' => (∃ v4 v5 v6, σ = [some x, some y, some (.ref l), some (.ref l'), v4, v5, v6, none, none]) ∧ Same H' H'') ⟨⟨_, _, _, rfl⟩, Same.refl _⟩ (fun i σ H'' _ h => SqL.of (h.2 _ _ ea)) (fun i z σ H5 H6 hi h hy => ?_) (fun σ H'' h => ?_)
      · obtain ⟨⟨v4, v5, v6, rfl⟩, sm5⟩ := h
        obtain ⟨T, xi, xa, rfl, nT, rfl, exi, exa⟩ := hy
        have s6 := same_new (o := .tup [xi, xa]) nT
        have e6 : (upd H5 T (.tup [xi, xa])) T = some (.tup [xi, xa]) := upd_same
        have sm6 := sm5.trans s6
        generalize upd H5 T (.tup [xi, xa]) = H6 at s6 e6 sm6
        obtain rfl : xi = .int (i : Nat) := (Option.some.inj exi).symm
        have hi13 : i < 13 := by rw [List.length_map, ga] at hi; exact hi
        obtain ⟨a, ha⟩ : ∃ a, as[i]? = some a := ⟨_, List.getElem?_eq_getElem (by omega)⟩
        obtain ⟨b, hb⟩ : ∃ b, bs[i]? = some b := ⟨_, List.getElem?_eq_getElem (by omega)⟩
        obtain rfl : xa = .ref a := by
          have e : (as.map V.ref)[i]? = some xa := exa
          rw [List.getElem?_map, ha] at e
          exact (Option.some.inj e).symm
        have hb' : (bs.map V.ref)[i]? = some (.ref b) := by rw [List.getElem?_map, hb]; rfl
        have xA := exAt_same sm6 (fa i a ha)
        have xB := exAt_same sm6 (fb i b hb)
        have eb6 := sm6 _ _ eb
        have ek := E.exk i (by omega)
        have no := E.nof i hi13
        refine ⟨T, _, rfl, SqT.of e6, rfl, _, _, rfl, _, _, rfl, rfl, ?_⟩
        refine ⟨_, rfl, _, _, rfl, rfl, _, rfl, ite2 (fun e => ?_) (fun e => ?_)⟩
        · have hf : fldN i = "part" := if_pos (by have := of_decide_eq_true e; omega)
          refine ⟨_, rfl, a, C i, _, x, rfl, xA, ek, by rw [← hf]; exact no, by rw [hf]; exact lk1, _, rfl, _, rfl, l', _, i, _, rfl, rfl, SqL.of eb6, atI_nat hb', b, C i, _, y, rfl, xB, ek, by rw [← hf]; exact no, by rw [hf]; exact lk1, two_le, fun r1 k1 => ?_⟩
          have w1 := same_new (o := .lst [x, y]) k1
          refine ⟨_, rfl, _, rfl, _, rfl, two_le, fun r2 k2 => ?_⟩
          have w2 := same_new (o := .lst [x, y]) k2
          refine ⟨r1, r2, [x, y], rfl, rfl, SqL.of (w2 _ _ upd_same), SqL.of upd_same, all_self2 ox oy, _, rfl, iteF ?_⟩
          have w := w1.trans w2
          refine ⟨_, rfl, _, rfl, a, i, _, rfl, by omega, exAt_same w xA, fun H7 s7 => ⟨_, rfl, iteF ?_⟩⟩
          refine ⟨_, rfl, _, rfl, l', _, i, _, rfl, rfl, SqL.of (s7 _ _ (w _ _ eb6)), atI_nat hb', _, rfl, b, i, _, rfl, by omega, exAt_same (w.trans s7) xB, fun H8 s8 => ⟨_, rfl, iteF ?_⟩⟩
          exact ⟨⟨_, _, _, rfl⟩, sm6.trans (w.trans (s7.trans s8))⟩
        · have hf : fldN i = "value" := if_neg (fun z => e (decide_eq_true (by omega)))
          refine ⟨_, rfl, a, C i, _, x, rfl, xA, ek, by rw [← hf]; exact no, by rw [hf]; exact lk1, _, rfl, _, rfl, l', _, i, _, rfl, rfl, SqL.of eb6, atI_nat hb', b, C i, _, y, rfl, xB, ek, by rw [← hf]; exact no, by rw [hf]; exact lk1, two_le, fun r1 k1 => ?_⟩
          have w1 := same_new (o := .lst [x, y]) k1
          refine ⟨_, rfl, _, rfl, _, rfl, two_le, fun r2 k2 => ?_⟩
          have w2 := same_new (o := .lst [x, y]) k2
          refine ⟨r1, r2, [x, y], rfl, rfl, SqL.of (w2 _ _ upd_same), SqL.of upd_same, all_self2 ox oy, _, rfl, iteF ?_⟩
          have w := w1.trans w2
          refine ⟨_, rfl, _, rfl, a, i, _, rfl, by omega, exAt_same w xA, fun H7 s7 => ⟨_, rfl, iteF ?_⟩⟩
          refine ⟨_, rfl, _, rfl, l', _, i, _, rfl, rfl, SqL.of (s7 _ _ (w _ _ eb6)), atI_nat hb', _, rfl, b, i, _, rfl, by omega, exAt_same (w.trans s7) xB, fun H8 s8 => ⟨_, rfl, iteF ?_⟩⟩
          exact ⟨⟨_, _, _, rfl⟩, sm6.trans (w.trans (s7.trans s8))⟩
      · obtain ⟨⟨v4, v5, v6, rfl⟩, sm5⟩ := h
        exact ⟨⟨_, _, _, _, _, rfl⟩, sm.trans sm5⟩
    · obtain ⟨⟨v2, v3, v4, v5, v6, rfl⟩, sm⟩ := h
      have t4 := t3.trans sm
      have ox4 := ox.gr (same_gr (u := u) t4)
      have oy4 := oy.gr (same_gr (u := u) t4)
      refine ⟨x, rfl, fun b H5 n5 s5 xb => ?_⟩
      have ek := E.exk 16 (by decide)
      have k9 : PySem.W.kitOne K (.ref (C 16)) (.ref (C 9)) = some false := by
        rw [E.kit 16 (by decide) 9 (by decide)]
        rfl
      have k17 : PySem.W.kitOne K (.ref (C 16)) (.ref (C 17)) = some true := by
        rw [E.kit 16 (by decide) 17 (by decide)]
        rfl
      have ox5 := ox4.gr (same_gr (u := u) s5)
      have oy5 := oy4.gr (same_gr (u := u) s5)
      refine ⟨_, rfl, b, C 16, _, x, rfl, xb, ek, E.e_Missing.no, lk1, _, rfl, rfl, ox5.self, _, rfl, iteF ?_⟩
      refine ⟨_, rfl, b, C 16, _, _, _, _, rfl, xb, ek, .own _, k9, _, rfl, iteF ?_⟩
      refine ⟨_, rfl, b, C 16, _, _, _, _, rfl, xb, ek, .own _, k17, _, rfl, iteF ?_⟩
      refine ⟨y, rfl, fun b2 H6 n6 s6 xb2 => ?_⟩
      have oy6 := oy5.gr (same_gr (u := u) s6)
      refine ⟨b2, C 16, _, y, rfl, xb2, ek, E.e_Missing.no, lk1, _, rfl, rfl, oy6.self, _, rfl, iteF ?_⟩
      have t6 := t4.trans (s5.trans s6)
      -- Impossible
      refine ⟨x, rfl, fun a1 K1 m1 r1 x1 => ⟨y, rfl, fun a2 K2 m2 r2 x2 => ⟨two_le, fun p1 m3 => ?_⟩⟩⟩
      have c1 := same_new (o := .tup [.ref a1, .ref a2]) m3
      have d1 : (upd K2 p1 (.tup [.ref a1, .ref a2])) p1 = some (.tup [.ref a1, .ref a2]) := upd_same
      have x1 := exAt_same (r2.trans c1) x1
      have x2 := exAt_same c1 x2
      have t7 := t6.trans (r1.trans (r2.trans c1))
      generalize upd K2 p1 (.tup [.ref a1, .ref a2]) = K3 at c1 d1 x1 x2 t7
      refine ⟨x, rfl, fun a3 K4 m4 r4 x3 => ⟨y, rfl, fun a4 K5 m5 r5 x4 => ⟨two_le, fun p2 m6 => ?_⟩⟩⟩
      have c2 := same_new (o := .tup [.ref a3, .ref a4]) m6
      have d2 : (upd K5 p2 (.tup [.ref a3, .ref a4])) p2 = some (.tup [.ref a3, .ref a4]) := upd_same
      have w := r4.trans (r5.trans c2)
      have d1 := w _ _ d1
      have x1 := exAt_same w x1
      have x2 := exAt_same w x2
      have x3 := exAt_same (r5.trans c2) x3
      have x4 := exAt_same c2 x4
      have t8 := t7.trans w
      generalize upd K5 p2 (.tup [.ref a3, .ref a4]) = K6 at c2 d1 d2 x1 x2 x3 x4 t8
      refine ⟨two_le, fun p m7 => ?_⟩
      have c3 := same_new (o := .tup [.ref p1, .ref p2]) m7
      have d3 : (upd K6 p (.tup [.ref p1, .ref p2])) p = some (.tup [.ref p1, .ref p2]) := upd_same
      have d1 := c3 _ _ d1
      have d2 := c3 _ _ d2
      have x1 := exAt_same c3 x1
      have x2 := exAt_same c3 x2
      have x3 := exAt_same c3 x3
      have x4 := exAt_same c3 x4
      have t9 := t8.trans c3
      generalize upd K6 p (.tup [.ref p1, .ref p2]) = K7 at c3 d1 d2 d3 x1 x2 x3 x4 t9
      refine ⟨p, rfl, ⟨_, SqT.of d3⟩, ?_⟩
      refine for_tup (K := K) (a := p) (xs := [.ref p1, .ref p2]) (fun i σ H' => (∃ v2 v3 v4 v5 v6 v7 v8, σ = [some x, some y, v2, v3, v4, v5, v6, v7, v8]) ∧ Same K7 H') ⟨⟨_, _, _, _, _, _, _, rfl⟩, Same.refl _⟩ (fun i σ H' _ h => SqT.of (h.2 _ _ d3)) (fun i z σ H' hi h => ?_) (fun σ H' h => ?_)
      · obtain ⟨⟨v2, v3, v4, v5, v6, v7, v8, rfl⟩, sm⟩ := h
        have hz : ∃ q l l', z = .ref q ∧ SqT K H' q [.ref l, .ref l'] ∧ ExAt H' l (C 13) [("paper", x)] ∧ ExAt H' l' (C 13) [("paper", y)] := by
          rcases i with _ | _ | i
          · cases hi
            exact ⟨p1, a1, a2, rfl, SqT.of (sm _ _ d1), exAt_same sm x1, exAt_same sm x2⟩
          · cases hi
            exact ⟨p2, a3, a4, rfl, SqT.of (sm _ _ d2), exAt_same sm x3, exAt_same sm x4⟩
          · simp at hi
        obtain ⟨q0, l, l', rfl, hq, xl, xl'⟩ := hz
        have ek := E.exk 13 (by decide)
        refine ⟨q0, _, rfl, hq, rfl, _, _, rfl, _, _, rfl, rfl, ?_⟩
        refine ⟨_, rfl, l, C 13, _, x, rfl, xl, ek, E.e_Impossible.no, lk1, _, rfl, l', C 13, _, y, rfl, xl', ek, E.e_Impossible.no, lk1, two_le, fun r1 k1 => ?_⟩
        have w1 := same_new (o := .lst [x, y]) k1
        refine ⟨_, rfl, _, rfl, two_le, fun r2 k2 => ?_⟩
        have w2 := same_new (o := .lst [x, y]) k2
        refine ⟨r1, r2, [x, y], rfl, rfl, SqL.of (w2 _ _ upd_same), SqL.of upd_same, all_self2 ox oy, _, rfl, iteF ?_⟩
        have w := w1.trans w2
        refine ⟨_, rfl, l, 13, _, rfl, by decide, exAt_same w xl, fun H7 s7 => ⟨_, rfl, iteF ?_⟩⟩
        refine ⟨_, rfl, l', 13, _, rfl, by decide, exAt_same (w.trans s7) xl', fun H8 s8 => ⟨_, rfl, iteF ?_⟩⟩
        exact ⟨⟨_, _, _, _, _, _, _, rfl⟩, sm.trans (w.trans (s7.trans s8))⟩
      · obtain ⟨_, sm⟩ := h
        exact q H' (t9.trans sm)
end
end K00
/-! The law's look at the checks of whole numbers and signs. -/
namespace K00
open PySem PySem.Spec PyProof.Rows L2 Kit
abbrev sLawIntegersRight : Stmt := topS 43
abbrev n_sLawIntegersRight : List Str := ["urn", "number", "odd", "low", "high", "told", "row", "at", "bad", "turn"]
theorem scLawIntegersRight : FnScope n_sLawIntegersRight ["urn"] (defScope sLawIntegersRight) := ⟨rfl, rfl, rfl, by decide +kernel, rfl, by decide +kernel, by decide +kernel⟩

section
variable {P : Program} {w : World} {K : PySem.W.Frag} {mg : Str → Option Value} {base : Heap}
/-- no whole number, no sign -/
def Od (u : Addr) (H : Hp) (x : V) : Prop := (∃ b, x = .bl b) ∨ x = .non ∨ (∃ z, x = .str z) ∨ ∃ p, x = .ref p ∧ p ≠ u ∧ (H p = some (.lst [.int 1]) ∨ H p = some (.tup [.int 1]) ∨ H p = some (.dK []))
theorem Od.gr {u : Addr} {H H' : Hp} {x : V} (g : Gr u H H') (h : Od u H x) : Od u H' x := by
  rcases h with h | h | h | ⟨p, h, n, r⟩
  · exact .inl h
  · exact .inr (.inl h)
  · exact .inr (.inr (.inl h))
  · refine .inr (.inr (.inr ⟨p, h, n, ?_⟩))
    rcases r with r | r | r
    · exact .inl (g _ _ n r)
    · exact .inr (.inl (g _ _ n r))
    · exact .inr (.inr (g _ _ n r))
theorem Od.kd {u : Addr} {H : Hp} {x : V} (h : Od u H x) : ∃ k, Kd K H x k ∧ k ≠ .int := by
  rcases h with ⟨b, rfl⟩ | rfl | ⟨z, rfl⟩ | ⟨p, rfl, _, r | r | r⟩
  · exact ⟨.bl, .bl b, by decide⟩
  · exact ⟨.non, .non, by decide⟩
  · exact ⟨.str, .str z, by decide⟩
  · exact ⟨.lst, .lst (SqL.of r), by decide⟩
  · exact ⟨.tup, .tup (SqT.of r), by decide⟩
  · exact ⟨.dct, .dct r, by decide⟩
theorem Od.inB {u : Addr} {H : Hp} {x : V} (h : Od u H x) (l m : Option Int) : inB x l m = false := by
  rcases h with ⟨b, rfl⟩ | rfl | ⟨z, rfl⟩ | ⟨p, rfl, _⟩ <;> rfl
theorem kd_int1 {H : Hp} : ∀ y ∈ [V.int 1], ∃ j, Kd K H y j := fun y hy => by
  rw [List.mem_singleton.mp hy]
  exact ⟨.int, .int 1⟩
theorem Od.signs {u : Addr} {H : Hp} {x : V} (h : Od u H x) : ∃ k b, Kd K H x k ∧ b = (decide (k = .lst) || decide (k = .tup)) ∧ ∀ (Q : VK) (E : XK), (∀ H', Same H H' → Q (.bl b) H') → spSigns K [x] H Q E := by
  rcases h with ⟨b, rfl⟩ | rfl | ⟨z, rfl⟩ | ⟨p, rfl, _, r | r | r⟩
  · exact ⟨.bl, false, .bl b, rfl, fun Q E q => ⟨_, .bl, rfl, .bl b, .inr ⟨by decide, by decide, q⟩⟩⟩
  · exact ⟨.non, false, .non, rfl, fun Q E q => ⟨_, .non, rfl, .non, .inr ⟨by decide, by decide, q⟩⟩⟩
  · exact ⟨.str, false, .str z, rfl, fun Q E q => ⟨_, .str, rfl, .str z, .inr ⟨by decide, by decide, q⟩⟩⟩
  · exact ⟨.lst, true, .lst (SqL.of r), rfl, fun Q E q => ⟨_, .lst, rfl, .lst (SqL.of r), .inl ⟨p, _, rfl, .inl ⟨rfl, SqL.of r⟩, by decide, kd_int1, q⟩⟩⟩
  · exact ⟨.tup, true, .tup (SqT.of r), rfl, fun Q E q => ⟨_, .tup, rfl, .tup (SqT.of r), .inl ⟨p, _, rfl, .inr ⟨rfl, SqT.of r⟩, by decide, kd_int1, q⟩⟩⟩
  · exact ⟨.dct, false, .dct r, rfl, fun Q E q => ⟨_, .dct, rfl, .dct r, .inr ⟨by decide, by decide, q⟩⟩⟩
/-- a number drawn, and what is none -/
def spOk : Sp := fun vs H Q _ => ∃ u c n, vs = [.ref u] ∧ n < 5000 ∧ Urn u c n H ∧ ∀ H', Gr u H H' → Urn u c (n + 100) H' → Q (.bl true) H'
theorem tw1 (num low high : Int) : inB (.int num) (some (num + low)) (some (num + high)) = (decide (low ≤ 0) && decide (0 ≤ high)) := by
  show (decide (num + low ≤ num) && decide (num ≤ num + high)) = _
  rw [decide_eq_decide.mpr (show num + low ≤ num ↔ low ≤ 0 by omega), decide_eq_decide.mpr (show num ≤ num + high ↔ 0 ≤ high by omega)]
theorem tw2 (num high : Int) : inB (.int num) none (some (num + high)) = decide (0 ≤ high) := by
  show (true && decide (num ≤ num + high)) = _
  rw [Bool.true_and, decide_eq_decide.mpr (show num ≤ num + high ↔ 0 ≤ high by omega)]
theorem tw3 (num low : Int) : inB (.int num) (some (num + low)) none = decide (low ≤ 0) := by
  show (decide (num + low ≤ num) && true) = _
  rw [Bool.and_true, decide_eq_decide.mpr (show num + low ≤ num ↔ low ≤ 0 by omega)]
def Bd (u : Addr) (H : Hp) (b : V) : Prop := Od u H b ∨ ∃ i, b = .int i ∧ isSg (.int i) = false
theorem Bd.gr {u : Addr} {H H' : Hp} {x : V} (g : Gr u H H') (h : Bd u H x) : Bd u H' x := h.imp (fun h => h.gr g) id
theorem Bd.sg {u : Addr} {H : Hp} {x : V} (h : Bd u H x) : isSg x = false := by
  rcases h with h | ⟨i, rfl, e⟩
  · exact h.inB _ _
  · exact e
theorem Bd.kd {u : Addr} {H : Hp} {x : V} (h : Bd u H x) : ∃ k, Kd K H x k := by
  rcases h with h | ⟨i, rfl, e⟩
  · obtain ⟨k, h, _⟩ := h.kd (K := K)
    exact ⟨k, h⟩
  · exact ⟨.int, .int i⟩
theorem kd_ints {H : Hp} (rs : List Int) : ∀ y ∈ rs.map V.int, ∃ j, Kd K H y j := fun y hy => by
  obtain ⟨r, _, rfl⟩ := List.mem_map.mp hy
  exact ⟨.int, .int r⟩
theorem all_sg {rs : List Int} (h : ∀ r ∈ rs, r = 0 ∨ r = 1) : (rs.map V.int).all isSg = true := by
  rw [List.all_eq_true]
  intro y hy
  obtain ⟨r, hr, rfl⟩ := List.mem_map.mp hy
  rcases h r hr with rfl | rfl <;> rfl
theorem dup_same {H : Hp} {p : Addr} {o o' : HO} (n : H p = none) : Same H (upd (upd H p o) p o') := by
  rw [upd_upd]
  exact same_new n
theorem sg_in (num : Int) : inV (.int num) [.int 0, .int 1] = isSg (.int num) := by
  show ((0 == num) || ((1 == num) || false)) = (decide (0 ≤ num) && decide (num ≤ 1))
  rw [Bool.eq_iff_iff]
  simp
  omega
theorem ok_integers {f : Addr} {fd : FuncData} (F : Fun K "_law_integers_right" "_law_integers_right" sLawIntegersRight f fd) (B : NB mg) (D_LawDip : Dn P w K mg base "_law_dip" 1 ["urn", "many"] spDip) (D_LawOne : Dn P w K mg base "_law_one" 2 ["urn", "some"] (spOne K))
    (D_IsInteger : Dn P w K mg base "is_integer" 1 ["value"] (spInteger K)) (K0_IsInteger_value : DnK P w K mg base "is_integer" 1 ["value"] (spInteger K) 0 ["value"])
    (D_IsWithin : Dn P w K mg base "is_within" 2 ["value", "least", "most"] (spWithin K)) (K1_IsWithin_least_most : DnK P w K mg base "is_within" 2 ["value", "least", "most"] (spWithin K) 1 ["least", "most"]) (K0_IsWithin_value_least_most : DnK P w K mg base "is_within" 2 ["value", "least", "most"] (spWithin K) 0 ["value", "least", "most"])
    (D_IsSign : Dn P w K mg base "is_sign" 3 ["value"] (spSign K)) (K0_IsSign_value : DnK P w K mg base "is_sign" 3 ["value"] (spSign K) 0 ["value"]) (D_AreSigns : Dn P w K mg base "are_signs" 4 ["value"] (spSigns K)) (K0_AreSigns_value : DnK P w K mg base "are_signs" 4 ["value"] (spSigns K) 0 ["value"]) :
    FnOk P w K mg base CX0 5 f fd ["urn"] spOk := by
  refine F.ok scLawIntegersRight (fun vs H Q E h => ?_) (fun cdv A outer s H vs Q E hr h => ?_)
  · obtain ⟨u, c, n, rfl, _⟩ := h
    rfl
  · obtain ⟨u, c, n, rfl, hn, hU, q⟩ := h
    refine ⟨_, (pss_cons (ps_set (i := 1) scLawIntegersRight.nd rfl (Or.inl rfl) (pe_fn D_LawOne (hr.mono (by decide)) (by rfl) (pa_cons (pv 0) (pa_cons (pe_lst (pa_cons pe_int (pa_cons pe_int (pa_cons (pe_un un_neg pe_int) (pa_cons (pe_op op_pow pe_int pe_int) (pa_cons (pe_un un_neg (pe_op op_pow pe_int pe_int)) (pa_cons (pe_fn D_LawDip (hr.mono (by decide)) (by rfl) (pa_cons (pv 0) (pa_cons pe_int pa_nil))) pa_nil))))))) pa_nil))))
      (pss_cons (ps_set (i := 2) scLawIntegersRight.nd rfl (Or.inl rfl) (pe_fn D_LawOne (hr.mono (by decide)) (by rfl) (pa_cons (pv 0) (pa_cons (pe_lst (pa_cons pe_bl (pa_cons pe_bl (pa_cons pe_non (pa_cons pe_str (pa_cons (pe_lst (pa_cons pe_int pa_nil)) (pa_cons (pe_tup (pa_cons pe_int pa_nil)) (pa_cons pe_dnewK (pa_cons pe_str (pa_cons (pe_cmpR op_eq (pv 1) pe_int (nomark _)) pa_nil)))))))))) pa_nil))))
      (pss_cons (ps_if (PW.pt (pw_or (pt_cmpR (op_neSame (hu0 hr)) (pe_lst (pa_cons (pe_fnK0 K0_IsInteger_value (hr.mono (by decide)) (by rfl) (pk_cons (pv 1) pk_nil)) (pa_cons (pe_fn D_IsInteger (hr.mono (by decide)) (by rfl) (pa_cons (pv 2) pa_nil)) pa_nil))) (pe_lst (pa_cons pe_bl (pa_cons pe_bl pa_nil))) (nomark _)) (pw_or (pt_val (pe_fn D_IsWithin (hr.mono (by decide)) (by rfl) (pa_cons (pv 2) (pa_cons pe_non (pa_cons pe_non pa_nil))))) (pw_or1 (pt_val (pe_fnKp K1_IsWithin_least_most (hr.mono (by decide)) (by rfl) (pa_cons (pv 2) pa_nil) (pk_cons pe_int (pk_cons pe_int pk_nil))))))))
        (pss_one (ps_ret pe_bl))
        pss_nil)
      (pss_cons (ps_par (i := 3) (j := 4) (by rfl) scLawIntegersRight.nd rfl rfl (by decide) rfl rfl (pa_cons (pe_op op_sub (pe_fn D_LawDip (hr.mono (by decide)) (by rfl) (pa_cons (pv 0) (pa_cons pe_int pa_nil))) pe_int) (pa_cons (pe_op op_sub (pe_fn D_LawDip (hr.mono (by decide)) (by rfl) (pa_cons (pv 0) (pa_cons pe_int pa_nil))) pe_int) pa_nil)) (by rfl))
      (pss_cons (ps_set (i := 5) scLawIntegersRight.nd rfl (Or.inl rfl) (pe_lst (pa_cons (pe_fn D_IsWithin (hr.mono (by decide)) (by rfl) (pa_cons (pv 1) (pa_cons (pe_op op_add (pv 1) (pv 3)) (pa_cons (pe_op op_add (pv 1) (pv 4)) pa_nil)))) (pa_cons (pe_fnK0 K0_IsWithin_value_least_most (hr.mono (by decide)) (by rfl) (pk_cons (pv 1) (pk_cons pe_non (pk_cons (pe_op op_add (pv 1) (pv 4)) pk_nil)))) (pa_cons (pe_fn D_IsWithin (hr.mono (by decide)) (by rfl) (pa_cons (pv 1) (pa_cons (pe_op op_add (pv 1) (pv 3)) (pa_cons pe_non pa_nil)))) pa_nil)))))
      (pss_cons (ps_if (PW.pt (pw_or (pt_cmpR (op_neSame (hu0 hr)) (pv 5) (pe_lst (pa_cons (pe_chain op_le op_le (pv 3) pe_int (pv 4)) (pa_cons (pe_cmpR op_le pe_int (pv 4) (nomark _)) (pa_cons (pe_cmpR op_le (pv 3) pe_int (nomark _)) pa_nil)))) (nomark _)) (pw_or1 (pt_cmpR op_notBl (pe_fn D_IsWithin (hr.mono (by decide)) (by rfl) (pa_cons (pv 1) (pa_cons pe_non (pa_cons pe_non pa_nil)))) pe_bl (nomark _)))))
        (pss_one (ps_ret pe_bl))
        pss_nil)
      (pss_cons (ps_if (pt_cmpR (op_neSame (hu0 hr)) (pe_lst (pa_cons (pe_fnK0 K0_IsSign_value (hr.mono (by decide)) (by rfl) (pk_cons (pv 1) pk_nil)) (pa_cons (pe_fn D_IsSign (hr.mono (by decide)) (by rfl) (pa_cons (pv 2) pa_nil)) (pa_cons (pe_fn D_IsSign (hr.mono (by decide)) (by rfl) (pa_cons pe_int pa_nil)) (pa_cons (pe_fn D_IsSign (hr.mono (by decide)) (by rfl) (pa_cons pe_int pa_nil)) (pa_cons (pe_fn D_IsSign (hr.mono (by decide)) (by rfl) (pa_cons pe_int pa_nil)) (pa_cons (pe_fn D_IsSign (hr.mono (by decide)) (by rfl) (pa_cons (pe_un un_neg pe_int) pa_nil)) pa_nil))))))) (pe_lst (pa_cons (pe_cmpR op_in_seq (pv 1) (pe_tup (pa_cons pe_int (pa_cons pe_int pa_nil))) (by rfl)) (pa_cons pe_bl (pa_cons pe_bl (pa_cons pe_bl (pa_cons pe_bl (pa_cons pe_bl pa_nil))))))) (nomark _))
        (pss_one (ps_ret pe_bl))
        pss_nil)
      (pss_cons (ps_setLc (i := 6) (own := [("turn", 9)]) (g := gName 9) (tt := tYes) rfl scLawIntegersRight.nd rfl rfl (sw_true rfl rfl rfl (by decide +kernel)) (pi_range1 rfl B.z_range (pa_cons (pe_fn D_LawDip (hr.mono (by decide)) (by rfl) (pa_cons (pv 0) (pa_cons pe_int pa_nil))) pa_nil)) (blkOk_by (N := n_sLawIntegersRight) (sc := (defScope sLawIntegersRight)) (by decide +kernel)) (fun _ _ _ _ _ => (pg_name (i := 9) scLawIntegersRight.nd rfl (Or.inl rfl))) (fun _ _ _ _ _ => pts_nil) (fun _ _ _ _ _ => (pe_fn D_LawDip (hr.mono (by decide)) (by rfl) (pa_cons (pv 0) (pa_cons pe_int pa_nil)))))
      (pss_cons (ps_par (i := 7) (j := 8) (by rfl) scLawIntegersRight.nd rfl rfl (by decide) rfl rfl (pa_cons (pe_fn D_LawDip (hr.mono (by decide)) (by rfl) (pa_cons (pv 0) (pa_cons (pe_op op_add (pe_callB call_len (by rfl) B.z_len PySem.boot_len (pa_cons (pv 6) pa_nil)) pe_int) pa_nil))) (pa_cons (pe_fn D_LawOne (hr.mono (by decide)) (by rfl) (pa_cons (pv 0) (pa_cons (pe_lst (pa_cons (pv 2) (pa_cons pe_int (pa_cons (pe_un un_neg pe_int) (pa_cons (pe_op op_pow pe_int pe_int) (pa_cons pe_str pa_nil)))))) pa_nil))) pa_nil)) (by rfl))
      (pss_cons (ps_if (PW.pt (pw_or (pt_not (pt_val (pe_fn D_AreSigns (hr.mono (by decide)) (by rfl) (pa_cons (pv 6) pa_nil)))) (pw_or (pt_not (pt_val (pe_fnK0 K0_AreSigns_value (hr.mono (by decide)) (by rfl) (pk_cons (pe_callTy call_tuple_of (by rfl) B.z_tuple (by decide +kernel) (pa_cons (pv 6) pa_nil)) pk_nil)))) (pw_or1 (pt_cmpR op_ne (pe_fn D_AreSigns (hr.mono (by decide)) (by rfl) (pa_cons (pv 2) pa_nil)) (pe_callB call_isiT (by rfl) B.z_isinstance (by decide +kernel) (pa_cons (pv 2) (pa_cons (pe_tup (pa_cons (pe_bltn (v := .ty "list") (by rfl) B.z_list (by decide +kernel) rfl) (pa_cons (pe_bltn (v := .ty "tuple") (by rfl) B.z_tuple (by decide +kernel) rfl) pa_nil))) pa_nil))) (nomark _))))))
        (pss_one (ps_ret pe_bl))
        pss_nil)
      (pss_one (ps_ret (pe_and (pe_not (pe_fn D_AreSigns (hr.mono (by decide)) (by rfl) (pa_cons (pe_op op_cat (pe_op op_cat (pe_slice sl_list (pv 6) po_none (po_some (pv 7))) (pe_lst (pa_cons (pv 8) pa_nil))) (pe_slice sl_list (pv 6) (po_some (pv 7)) po_none)) pa_nil))) (pe_and (pe_not (pe_fn D_AreSigns (hr.mono (by decide)) (by rfl) (pa_cons pe_str pa_nil))) (pe_one (pe_not (pe_fn D_AreSigns (hr.mono (by decide)) (by rfl) (pa_cons (pe_disp (pps_cons pe_int pe_int pps_nil) (by rfl) (by rfl) (fun z => by cases z) (by decide)) pa_nil)))))))))))))))))), ?_⟩
    -- number
    refine ⟨_, rfl, _, rfl, _, _, rfl, rfl, pow_ok (by decide) (by decide) (by decide), _, _, rfl, rfl, pow_ok (by decide) (by decide) (by decide), _, rfl, _, rfl, u, c, 100, n, rfl, by decide, by decide, by omega, hU, fun H1 k g1 U1 k0 k1 => ⟨le_line (by show 6 ≤ 100000; decide), fun p np => ?_⟩⟩
    have s1 := same_new (o := .lst [.int 0, .int 1, .int (-1), .int (10 ^ (30 : Int).toNat), .int (-10 ^ (30 : Int).toNat), .int k]) np
    refine ⟨u, c, p, _, n + 1, rfl, SqL.of upd_same, urn_ne U1 np, List.cons_ne_nil _ _, (by show 6 ≤ 1000; decide), by omega, U1.same s1, fun H2 y g2 U2 hy => ?_⟩
    have hy : ∃ num, y = .int num := by
      simp only [List.mem_cons, List.not_mem_nil, or_false] at hy
      rcases hy with rfl | rfl | rfl | rfl | rfl | rfl <;> exact ⟨_, rfl⟩
    obtain ⟨num, rfl⟩ := hy
    have G2 := g1.trans ((same_gr s1).trans g2)
    clear s1 g1 U1 g2 np
    -- odd
    refine ⟨_, rfl, one_le, fun q1 m1 => ⟨one_le, fun q2 m2 => fun q3 m3 => ⟨_, rfl, rfl, le_line (by show 9 ≤ 100000; decide), fun q4 m4 => ?_⟩⟩⟩
    have r1 := same_new (o := .lst [.int 1]) m1
    have r2 := same_new (o := .tup [.int 1]) m2
    have r3 := same_new (o := .dK []) m3
    have i1 : (upd (upd (upd H2 q1 (.lst [.int 1])) q2 (.tup [.int 1])) q3 (.dK [])) q1 = some (.lst [.int 1]) := r3 _ _ (r2 _ _ upd_same)
    have i2 : (upd (upd (upd H2 q1 (.lst [.int 1])) q2 (.tup [.int 1])) q3 (.dK [])) q2 = some (.tup [.int 1]) := r3 _ _ upd_same
    have i3 : (upd (upd (upd H2 q1 (.lst [.int 1])) q2 (.tup [.int 1])) q3 (.dK [])) q3 = some (.dK []) := upd_same
    have R := r1.trans (r2.trans r3)
    have u1 := urn_ne U2 m1
    have u2 := urn_ne (U2.same r1) m2
    have u3 := urn_ne (U2.same (r1.trans r2)) m3
    generalize upd (upd (upd H2 q1 (.lst [.int 1])) q2 (.tup [.int 1])) q3 (.dK []) = H3 at m4 i1 i2 i3 R
    have U3 := U2.same R
    have s4 := same_new (o := .lst [.bl true, .bl false, .non, .str "1", .ref q1, .ref q2, .ref q3, .str "", .bl (decide (V.int num = V.int 0))]) m4
    refine ⟨u, c, q4, _, n + 1 + 1, rfl, SqL.of upd_same, urn_ne U3 m4, List.cons_ne_nil _ _, (by show 9 ≤ 1000; decide), by omega, U3.same s4, fun H4 x g4 U4 hx => ?_⟩
    have hx : Od u H4 x := by
      have g5 := (same_gr (u := u) s4).trans g4
      simp only [List.mem_cons, List.not_mem_nil, or_false] at hx
      rcases hx with rfl | rfl | rfl | rfl | rfl | rfl | rfl | rfl | rfl
      · exact .inl ⟨_, rfl⟩
      · exact .inl ⟨_, rfl⟩
      · exact .inr (.inl rfl)
      · exact .inr (.inr (.inl ⟨_, rfl⟩))
      · exact .inr (.inr (.inr ⟨q1, rfl, u1, .inl (g5 _ _ u1 i1)⟩))
      · exact .inr (.inr (.inr ⟨q2, rfl, u2, .inr (.inl (g5 _ _ u2 i2))⟩))
      · exact .inr (.inr (.inr ⟨q3, rfl, u3, .inr (.inr (g5 _ _ u3 i3))⟩))
      · exact .inr (.inr (.inl ⟨_, rfl⟩))
      · exact .inl ⟨_, rfl⟩
    have G4 := G2.trans ((same_gr R).trans ((same_gr s4).trans g4))
    clear s4 g4 U3 m4 i1 i2 i3 R r1 r2 r3 m1 m2 m3 u1 u2 u3
    obtain ⟨ko, kdo, nko⟩ := hx.kd (K := K)
    have ed : decide (ko = .int) = false := decide_eq_false nko
    -- is_integer
    refine ⟨_, rfl, rfl, rfl, .int num, .int, rfl, .int num, _, rfl, x, ko, rfl, kdo, two_le, fun l1 m1 => ⟨two_le, fun l2 m2 => ?_⟩⟩
    have e1 : (upd H4 l1 (.lst [.bl (decide (Kn.int = Kn.int)), .bl (decide (ko = .int))])) l1 = some (.lst [.bl true, .bl false]) := by
      rw [upd_same, ed]
      rfl
    have r1 := same_new (o := .lst [.bl (decide (Kn.int = Kn.int)), .bl (decide (ko = .int))]) m1
    have r2 := same_new (o := .lst [.bl true, .bl false]) m2
    have R := r1.trans r2
    refine ⟨l1, l2, [.bl true, .bl false], rfl, rfl, SqL.of (r2 _ _ e1), SqL.of upd_same, rfl, _, rfl, iteF ?_⟩
    generalize upd (upd H4 l1 (.lst [.bl (decide (Kn.int = Kn.int)), .bl (decide (ko = .int))])) l2 (.lst [.bl true, .bl false]) = H5 at R
    have kd5 := kdo.same R
    refine ⟨_, rfl, x, none, none, ko, rfl, kd5, _, rfl, ?_⟩
    rw [hx.inB]
    refine iteF ⟨_, rfl, rfl, rfl, x, some 0, some 1, ko, rfl, kd5, _, rfl, ?_⟩
    rw [hx.inB]
    refine iteF ?_
    have G5 := G4.trans (same_gr R)
    have U5 := U4.same R
    have hx5 := hx.gr (same_gr R)
    clear R r1 r2 e1 m1 m2
    -- low, high
    refine ⟨_, rfl, u, c, 5, _, rfl, by decide, by decide, by omega, U5, fun H6 lo g6 U6 lo0 lo5 => ⟨_, _, rfl, rfl, _, rfl, u, c, 5, _, rfl, by decide, by decide, by omega, U6, fun H7 hi g7 U7 hi0 hi5 => ⟨_, _, rfl, rfl, _, _, rfl, ?_⟩⟩⟩
    have G7 := G5.trans (g6.trans g7)
    have hx7 := hx5.gr (g6.trans g7)
    refine ⟨_, rfl, _, rfl, _, rfl, _, _, rfl, rfl, _, rfl, _, rfl, _, _, rfl, rfl, .int num, some _, some _, .int, rfl, .int num, _, rfl, _, rfl, _, rfl, _, _, rfl, rfl, rfl, rfl, .int num, none, some _, .int, rfl, .int num, _, rfl, _, rfl, _, rfl, _, _, rfl, rfl, .int num, some _, none, .int, rfl, .int num, le_line (by show 3 ≤ 100000; decide), fun l1 m1 => ?_⟩
    rw [tw1, tw2, tw3]
    have r1 := same_new (o := .lst [.bl (decide (lo - 2 ≤ 0) && decide (0 ≤ hi - 2)), .bl (decide (0 ≤ hi - 2)), .bl (decide (lo - 2 ≤ 0))]) m1
    have e1 : (upd H7 l1 (.lst [.bl (decide (lo - 2 ≤ 0) && decide (0 ≤ hi - 2)), .bl (decide (0 ≤ hi - 2)), .bl (decide (lo - 2 ≤ 0))])) l1 = some (.lst [.bl (decide (lo - 2 ≤ 0) && decide (0 ≤ hi - 2)), .bl (decide (0 ≤ hi - 2)), .bl (decide (lo - 2 ≤ 0))]) := upd_same
    generalize upd H7 l1 (.lst [.bl (decide (lo - 2 ≤ 0) && decide (0 ≤ hi - 2)), .bl (decide (0 ≤ hi - 2)), .bl (decide (lo - 2 ≤ 0))]) = H8 at r1 e1
    -- told
    have chain : ∀ (Q' : V → Hp → Prop), Q' (.bl (decide (lo - 2 ≤ 0) && decide (0 ≤ hi - 2))) H8 → tChain (rI0 fun i j => V.bl (decide (i ≤ j))) (rI0 fun i j => V.bl (decide (i ≤ j))) (tVar 3) (tC (.int 0)) (tVar 4) [some (.ref u), some (.int num), some x, some (.int (lo - 2)), some (.int (hi - 2)), some (.ref l1), none, none, none, none] H8 Q' := by
      intro Q' q'
      refine ⟨_, rfl, _, _, rfl, rfl, _, rfl, ite2 (fun e => ⟨_, rfl, _, _, rfl, rfl, ?_⟩) (fun e => ?_)⟩
      · rw [e, Bool.true_and] at q'
        exact q'
      · rw [Bool.eq_false_iff.mpr e, Bool.false_and] at q'
        exact q'
    refine ⟨_, rfl, chain _ ⟨_, rfl, _, _, rfl, rfl, _, rfl, _, _, rfl, rfl, le_line (by show 3 ≤ 100000; decide), fun l2 m2 => ?_⟩⟩
    have r2 := same_new (o := .lst [.bl (decide (lo - 2 ≤ 0) && decide (0 ≤ hi - 2)), .bl (decide (0 ≤ hi - 2)), .bl (decide (lo - 2 ≤ 0))]) m2
    refine ⟨l1, l2, _, rfl, rfl, SqL.of (r2 _ _ e1), SqL.of upd_same, rfl, _, rfl, iteF ?_⟩
    have R := r1.trans r2
    generalize upd H8 l2 (.lst [.bl (decide (lo - 2 ≤ 0) && decide (0 ≤ hi - 2)), .bl (decide (0 ≤ hi - 2)), .bl (decide (lo - 2 ≤ 0))]) = H9 at R
    refine ⟨_, rfl, .int num, none, none, .int, rfl, .int num, true, true, rfl, rfl, _, rfl, iteF ?_⟩
    have G9 := G7.trans (same_gr R)
    have U9 := U7.same R
    have hx9 := hx7.gr (same_gr R)
    clear R r1 r2 e1 m1 m2 chain
    -- is_sign
    obtain ⟨k9, kd9, nk9⟩ := hx9.kd (K := K)
    refine ⟨_, rfl, rfl, rfl, .int num, .int, rfl, .int num, _, rfl, x, k9, rfl, kd9, .int 0, .int, rfl, .int 0, .int 1, .int, rfl, .int 1, .int 2, .int, rfl, .int 2, _, rfl, .int (-1), .int, rfl, .int (-1), le_line (by show 6 ≤ 100000; decide), fun l1 m1 => ?_⟩
    have e1 : (upd H9 l1 (.lst [.bl (isSg (.int num)), .bl (isSg x), .bl (isSg (.int 0)), .bl (isSg (.int 1)), .bl (isSg (.int 2)), .bl (isSg (.int (-1)))])) l1 = some (.lst [.bl (isSg (.int num)), .bl false, .bl true, .bl true, .bl false, .bl false]) := by
      rw [upd_same, show isSg x = false from hx9.inB _ _]
      rfl
    have r1 := same_new (o := .lst [.bl (isSg (.int num)), .bl (isSg x), .bl (isSg (.int 0)), .bl (isSg (.int 1)), .bl (isSg (.int 2)), .bl (isSg (.int (-1)))]) m1
    refine ⟨_, rfl, two_le, fun t mt => ⟨t, [.int 0, .int 1], rfl, .inr (SqT.of upd_same), rfl, rfl, le_line (by show 6 ≤ 100000; decide), fun l2 m2 => ?_⟩⟩
    have r2 := same_new (o := .tup [.int 0, .int 1]) mt
    have r3 := same_new (o := .lst [.bl (inV (.int num) [.int 0, .int 1]), .bl false, .bl true, .bl true, .bl false, .bl false]) m2
    have ei : inV (.int num) [.int 0, .int 1] = isSg (.int num) := sg_in num
    refine ⟨l1, l2, [.bl (isSg (.int num)), .bl false, .bl true, .bl true, .bl false, .bl false], rfl, rfl, SqL.of (r3 _ _ (r2 _ _ e1)), SqL.of ?_, rfl, _, rfl, iteF ?_⟩
    · rw [← ei]
      exact upd_same
    have R := r1.trans (r2.trans r3)
    generalize hX : upd _ l2 _ = HA
    have R : Same H9 HA := hX ▸ R
    have GA := G9.trans (same_gr R)
    have UA := U9.same R
    have hxA := hx9.gr (same_gr R)
    clear R r1 r2 r3 e1 m1 mt m2 hX
    -- row
    refine ⟨_, rfl, u, c, 6, _, rfl, by decide, by decide, by omega, UA, fun HB k gB UB k0 k6 => ⟨k, rfl, by omega, by omega, fun D nD => ?_⟩⟩
    have uD := urn_ne UB nD
    have cD := urn_neC UB nD
    have bD : ∀ b o, HB b = some o → b ≠ D := fun b o e => ne_of_none e nD
    refine lc_range (lo := 0) (n := k.toNat) (fun i H' => ∃ rs : List Int, Gr u HB H' ∧ Urn u c (n + 6 + i) H' ∧ H' D = some (.lst (rs.map V.int)) ∧ rs.length = i ∧ ∀ r ∈ rs, r = 0 ∨ r = 1) ⟨[], same_gr (same_new nD), UB.same (same_new nD), upd_same, rfl, fun r hr => absurd hr List.not_mem_nil⟩ (fun i H' hi h => ?_) (fun H' h => ?_)
    · obtain ⟨rs, g, U, eD, el, es⟩ := h
      refine ⟨rfl, tyOk ⟨_, rfl, u, c, 2, _, rfl, by decide, by decide, by omega, U, fun H'' r g' U' r0 r2 => ⟨_, g' D _ uD eD, ?_, rs ++ [r], fun b o nb e => ?_, U'.upd uD cD, ?_, ?_, ?_⟩⟩⟩
      · rw [List.length_map]
        exact lt_line (by omega)
      · rw [upd_ne (bD b o e)]
        exact g' b o nb (g b o nb e)
      · rw [upd_same, List.map_append]
        rfl
      · rw [List.length_append, el]
        rfl
      · intro z hz
        rcases List.mem_append.mp hz with hz | hz
        · exact es z hz
        · rw [List.mem_singleton.mp hz]
          omega
    · obtain ⟨rs, g, U, eD, el, es⟩ := h
      have GC := GA.trans (gB.trans g)
      have hxC := hxA.gr (gB.trans g)
      clear GA UA hxA gB UB nD bD g
      -- at, bad
      refine ⟨_, rfl, _, rfl, _, _, rfl, .inl ⟨_, SqL.of eD, rfl⟩, _, _, rfl, rfl, u, c, _, _, rfl, by rw [List.length_map]; omega, by rw [List.length_map]; omega, by omega, U, fun HE at0 gE UE a0 al => ?_⟩
      refine ⟨_, rfl, _, rfl, _, rfl, _, _, rfl, rfl, pow_ok (by decide) (by decide) (by decide), le_line (by show 5 ≤ 100000; decide), fun l1 m1 => ?_⟩
      have r1 := same_new (o := .lst [x, .int 2, .int (-1), .int (10 ^ (20 : Int).toNat), .str "0"]) m1
      refine ⟨u, c, l1, _, _, rfl, SqL.of upd_same, urn_ne UE m1, List.cons_ne_nil _ _, (by show 5 ≤ 1000; decide), by omega, UE.same r1, fun HF b gF UF hb => ⟨_, _, rfl, ?_⟩⟩
      have hb : Bd u HF b := by
        have hxF := hxC.gr (gE.trans ((same_gr r1).trans gF))
        simp only [List.mem_cons, List.not_mem_nil, or_false] at hb
        rcases hb with rfl | rfl | rfl | rfl | rfl
        · exact .inl hxF
        · exact .inr ⟨_, rfl, rfl⟩
        · exact .inr ⟨_, rfl, rfl⟩
        · exact .inr ⟨_, rfl, by decide⟩
        · exact .inl (.inr (.inr (.inl ⟨_, rfl⟩)))
      have gCF := gE.trans ((same_gr r1).trans gF)
      have GF := GC.trans gCF
      have eF := gCF D _ uD eD
      have hxF := hxC.gr gCF
      clear gCF r1 gE gF UE
      -- are_signs
      have hall := all_sg es
      have hlen : (rs.map V.int).length ≤ 1000 := by rw [List.length_map]; omega
      refine ⟨_, rfl, .ref D, .lst, rfl, .lst (SqL.of eF), .inl ⟨D, _, rfl, .inl ⟨rfl, SqL.of eF⟩, hlen, kd_ints rs, fun HG sG => ⟨_, rfl, ?_⟩⟩⟩
      rw [hall]
      have eG := sG _ _ eF
      refine iteF ⟨_, rfl, D, _, rfl, .inl ⟨SqL.of eG, fun t nt => ⟨rfl, rfl, .ref t, .tup, rfl, .tup (SqT.of upd_same), .inl ⟨t, _, rfl, .inr ⟨rfl, SqT.of upd_same⟩, hlen, kd_ints rs, fun HH sH => ⟨_, rfl, ?_⟩⟩⟩⟩⟩
      rw [hall]
      refine iteF ?_
      have sFH := sG.trans ((same_new (o := .tup (rs.map V.int)) nt).trans sH)
      have hxH := hxF.gr (same_gr sFH)
      obtain ⟨kx, bx, kdx, ebx, sig⟩ := hxH.signs (K := K)
      refine ⟨_, rfl, ?_⟩
      dsimp only [tNil]
      refine sig _ _ (fun HI sI => ⟨_, rfl, two_le, fun tp ntp => ⟨_, tp, [.ty "list", .ty "tuple"], _, [.type "list", .type "tuple"], _, rfl, upd_same, .cons (.ty _) (.cons (.ty _) .nil), (kdx.same (sI.trans (same_new ntp))).ty, kit_LT kx, ?_⟩⟩)
      refine ⟨rfl, _, rfl, ?_⟩
      rw [← ebx, decide_eq_true (rfl : V.bl bx = V.bl bx)]
      refine iteF ?_
      have sFI := sFH.trans (sI.trans (same_new (o := .tup [.ty "list", .ty "tuple"]) ntp))
      generalize upd HI tp (.tup [.ty "list", .ty "tuple"]) = HJ at sFI
      have eJ := sFI _ _ eF
      have GJ := GF.trans (same_gr sFI)
      have UJ := UF.same sFI
      have hbJ := hb.gr (same_gr sFI)
      clear sFI sFH sig sI sH sG nt ntp kdx hxH eG
      -- the last ones
      obtain ⟨d1, ed1, ld1⟩ := cut_ints rs none (some at0)
      obtain ⟨d2, ed2, ld2⟩ := cut_ints rs (some at0) none
      refine ⟨_, rfl, _, rfl, _, rfl, D, _, rfl, SqL.of eJ, fun p1 n1 => ?_⟩
      rw [ed1]
      have s1 := same_new (o := .lst (d1.map V.int)) n1
      refine ⟨_, rfl, one_le, fun p2 n2 => ?_⟩
      have s2 := same_new (o := .lst [b]) n2
      refine ⟨p1, p2, _, _, rfl, rfl, s2 _ _ upd_same, upd_same, le_line (by rw [List.length_map]; show _ + 1 ≤ _; omega), fun p3 n3 => ?_⟩
      have s3 := same_new (o := .lst (d1.map V.int ++ [b])) n3
      have sK := s1.trans (s2.trans s3)
      refine ⟨_, rfl, _, rfl, _, rfl, D, _, rfl, SqL.of (sK _ _ eJ), fun p4 n4 => ?_⟩
      rw [ed2]
      have s4 := same_new (o := .lst (d2.map V.int)) n4
      refine ⟨p3, p4, _, _, rfl, rfl, s4 _ _ upd_same, upd_same, le_line (by rw [List.length_append, List.length_map, List.length_map]; show _ + 1 + _ ≤ _; omega), fun p5 n5 => ?_⟩
      have s5 := same_new (o := .lst (d1.map V.int ++ [b] ++ d2.map V.int)) n5
      have sL := sK.trans (s4.trans s5)
      have hbL := hbJ.gr (same_gr sL)
      have hno : (d1.map V.int ++ [b] ++ d2.map V.int).all isSg = false := by
        rw [List.all_append, List.all_append]
        show (_ && (isSg b && true) && _) = false
        rw [hbL.sg, Bool.false_and, Bool.and_false, Bool.false_and]
      refine ⟨.ref p5, .lst, rfl, .lst (SqL.of upd_same), .inl ⟨p5, _, rfl, .inl ⟨rfl, SqL.of upd_same⟩, by rw [List.length_append, List.length_append, List.length_map, List.length_map]; show _ + 1 + _ ≤ _; omega, fun y hy => ?_, fun HM sM => ⟨_, rfl, _, rfl, ?_⟩⟩⟩
      · rcases List.mem_append.mp hy with hy | hy
        · rcases List.mem_append.mp hy with hy | hy
          · exact kd_ints d1 y hy
          · rw [List.mem_singleton.mp hy]
            exact hbL.kd
        · exact kd_ints d2 y hy
      · rw [hno]
        refine iteT ⟨.str "01", .str, rfl, .str _, .inr ⟨by decide, by decide, fun HN sN => ⟨_, rfl, _, rfl, iteT ?_⟩⟩⟩
        intro p6 n6
        refine ⟨upd_same, [(.inl 0, .int 1)], rfl, by decide, .ref p6, .dct, rfl, .dct upd_same, .inr ⟨by decide, by decide, fun HO sO => ⟨_, rfl, ?_⟩⟩⟩
        have sZ := sL.trans (sM.trans (sN.trans ((dup_same n6).trans sO)))
        exact q HO (GJ.trans (same_gr sZ)) ((UJ.same sZ).mono (by omega))
end
end K00
/-! The law's look at names. -/
namespace K00
open PySem PySem.Spec PyProof.Rows L2 Kit
abbrev sLawNamesRight : Stmt := topS 44
abbrev n_sLawNamesRight : List Str := ["urn", "first", "many", "name", "at", "sign", "bad", "turn", "value"]
theorem scLawNamesRight : FnScope n_sLawNamesRight ["urn"] (defScope sLawNamesRight) := ⟨rfl, rfl, rfl, by decide +kernel, rfl, by decide +kernel, by decide +kernel⟩

/-- one sign, as a text -/
def cS (c : Nat) : Str := ⟨#[c]⟩
theorem join_cs (cs : List Nat) : Txt.join "" (cs.map cS) = SX.S cs := by
  have e : TL.joinL [] (cs.map fun c => [c]) = cs := by
    induction cs with
    | nil => rfl
    | cons c r ih =>
      cases r with
      | nil => rfl
      | cons d r =>
        show [c] ++ ([] ++ TL.joinL [] ((d :: r).map fun c => [c])) = c :: d :: r
        rw [ih]
        rfl
  have h := SX.join_S [] (cs.map fun c => [c])
  rw [e, List.map_map] at h
  exact h
theorem sum_cs (cs : List Nat) : ((cs.map cS).map (·.length)).sum = cs.length := by
  induction cs with
  | nil => rfl
  | cons c r ih =>
    show 1 + ((r.map cS).map (·.length)).sum = r.length + 1
    rw [ih]
    omega
theorem app_cs (c : Nat) (cs : List Nat) : cS c ++ SX.S cs = SX.S (c :: cs) := by
  show (⟨#[c] ++ cs.toArray⟩ : Str) = ⟨(c :: cs).toArray⟩
  congr 1
  simp
theorem nameB_S (l : List Nat) : nameB (SX.S l) = nameL l := rfl
theorem nameL_ok {c : Nat} {r : List Nat} (h1 : r.length ≤ 11) (h2 : c ∈ sL.cps.toList) (h3 : ∀ x ∈ c :: r, inLD x = true) : nameL (c :: r) = true := by
  show (decide ((c :: r).length ≤ 12) && (decide (c ∈ sL.cps.toList) && (c :: r).all inLD)) = true
  rw [decide_eq_true (show (c :: r).length ≤ 12 by rw [List.length_cons]; omega), decide_eq_true h2, List.all_eq_true.mpr h3]
  rfl
theorem nameL_bad1 {l : List Nat} (h : ∃ c ∈ l, inLD c = false) : nameL l = false := by
  obtain ⟨c, hc, e⟩ := h
  have ea : l.all inLD = false := by
    rw [Bool.eq_false_iff]
    intro z
    rw [List.all_eq_true.mp z c hc] at e
    cases e
  cases l with
  | nil => rfl
  | cons d r =>
    show (decide ((d :: r).length ≤ 12) && (decide (d ∈ sL.cps.toList) && (d :: r).all inLD)) = false
    rw [ea, Bool.and_false, Bool.and_false]
theorem nameL_bad2 {c : Nat} {r : List Nat} (h : c ∉ sL.cps.toList) : nameL (c :: r) = false := by
  show (decide ((c :: r).length ≤ 12) && (decide (c ∈ sL.cps.toList) && (c :: r).all inLD)) = false
  rw [decide_eq_false h, Bool.false_and, Bool.and_false]
theorem sL_ld {c : Nat} (h : c ∈ sL.cps.toList) : inLD c = true := by
  have : ∀ c ∈ sL.cps.toList, inLD c = true := by decide +kernel
  exact this c h
section
variable {P : Program} {w : World} {K : PySem.W.Frag} {mg : Str → Option Value} {base : Heap}
/-- no name -/
def NoN (K : PySem.W.Frag) (H : Hp) (y : V) : Prop := (∃ z, y = .str z ∧ z.length ≤ 10000 ∧ nameB z = false) ∨ ∃ k, Kd K H y k ∧ k ≠ .str
theorem NoN.same {H H' : Hp} {y : V} (e : Same H H') (h : NoN K H y) : NoN K H' y := by
  rcases h with h | ⟨k, h, n⟩
  · exact .inl h
  · exact .inr ⟨k, h.same e, n⟩
theorem NoN.sp {H : Hp} {y : V} {Q : VK} {E : XK} (h : NoN K H y) (q : ∀ H', Same H H' → Q (.bl false) H') : spName K [y] H Q E := by
  rcases h with ⟨z, rfl, l, e⟩ | ⟨k, h, n⟩
  · exact ⟨_, .str, rfl, .str z, .inl ⟨z, rfl, l, by rw [e]; exact q⟩⟩
  · exact ⟨_, k, rfl, h, .inr ⟨n, q _ (Same.refl _)⟩⟩
theorem nine : (List.replicate (11 : Int).toNat ("9" : Str).cps).foldl (· ++ ·) #[] = #[57, 57, 57, 57, 57, 57, 57, 57, 57, 57, 57] := by decide +kernel
theorem name12 {c : Nat} (h : c ∈ sL.cps.toList) : nameB (cS c ++ ⟨(List.replicate (11 : Int).toNat ("9" : Str).cps).foldl (· ++ ·) #[]⟩) = true := by
  rw [nine]
  have e : cS c ++ (⟨#[57, 57, 57, 57, 57, 57, 57, 57, 57, 57, 57]⟩ : Str) = SX.S (c :: List.replicate 11 57) := app_cs c (List.replicate 11 57)
  rw [e, nameB_S]
  refine nameL_ok (by decide) h (fun x hx => ?_)
  rcases List.mem_cons.mp hx with rfl | hx
  · exact sL_ld h
  · rw [List.eq_of_mem_replicate hx]
    decide +kernel
theorem fold_cs (c : Nat) : ∀ (n : Nat) (acc : Array Nat), (List.replicate n (cS c).cps).foldl (· ++ ·) acc = acc ++ (List.replicate n c).toArray
  | 0, acc => by simp
  | n + 1, acc => by
    rw [List.replicate_succ, List.foldl_cons, fold_cs c n]
    show acc ++ #[c] ++ _ = _
    apply Array.ext'
    simp [List.replicate_succ]
theorem fold13 (c : Nat) : (⟨(List.replicate (13 : Int).toNat (cS c).cps).foldl (· ++ ·) #[]⟩ : Str) = SX.S (List.replicate 13 c) := by
  show (⟨(List.replicate 13 (cS c).cps).foldl (· ++ ·) #[]⟩ : Str) = ⟨(List.replicate 13 c).toArray⟩
  rw [fold_cs]
  exact congrArg Str.mk (Array.empty_append)
theorem bad13 {c : Nat} : nameB ⟨(List.replicate (13 : Int).toNat (cS c).cps).foldl (· ++ ·) #[]⟩ = false := by
  rw [fold13, nameB_S]
  rfl
theorem len13 {c : Nat} : (⟨(List.replicate (13 : Int).toNat (cS c).cps).foldl (· ++ ·) #[]⟩ : Str).length = 13 := by
  rw [fold13]
  show (List.replicate 13 c).toArray.size = 13
  rw [List.size_toArray, List.length_replicate]
theorem len11 : (⟨(List.replicate (11 : Int).toNat ("9" : Str).cps).foldl (· ++ ·) #[]⟩ : Str).length = 11 := by
  rw [nine]
  rfl
theorem bad_mid {a b : Str} {d : Nat} (h : inLD d = false) : nameB (a ++ cS d ++ b) = false := by
  refine nameL_bad1 ⟨d, ?_, h⟩
  show d ∈ (a.cps ++ #[d] ++ b.cps).toList
  simp
theorem bad_sign {d : Nat} (h : inLD d = false) : nameB (cS d) = false := nameL_bad1 (l := [d]) ⟨d, List.mem_singleton.mpr rfl, h⟩
theorem z1 : ("0" : Str).length = 1 := by decide +kernel
theorem bad_zero {b : Str} : nameB ("0" ++ b) = false := by
  have e : ("0" ++ b : Str).cps.toList = 48 :: b.cps.toList := by
    show (("0" : Str).cps ++ b.cps).toList = _
    rw [show ("0" : Str).cps = #[48] by decide +kernel]
    simp
  show nameL ("0" ++ b : Str).cps.toList = false
  rw [e]
  exact nameL_bad2 (by decide +kernel)
theorem ok_names {f : Addr} {fd : FuncData} (F : Fun K "_law_names_right" "_law_names_right" sLawNamesRight f fd) (B : NB mg) (D_LawDip : Dn P w K mg base "_law_dip" 1 ["urn", "many"] spDip) (D_LawOne : Dn P w K mg base "_law_one" 2 ["urn", "some"] (spOne K))
    (D_IsName : Dn P w K mg base "is_name" 1 ["value"] (spName K)) (K0_IsName_value : DnK P w K mg base "is_name" 1 ["value"] (spName K) 0 ["value"]) : FnOk P w K mg base CX0 5 f fd ["urn"] spOk := by
  refine F.ok scLawNamesRight (fun vs H Q E h => ?_) (fun cdv A outer s H vs Q E hr h => ?_)
  · obtain ⟨u, c, n, rfl, _⟩ := h
    rfl
  · obtain ⟨u, c, n, rfl, hn, hU, q⟩ := h
    refine ⟨_, (pss_cons (ps_par (i := 1) (j := 2) (by rfl) scLawNamesRight.nd rfl rfl (by decide) rfl rfl (pa_cons (pe_fn D_LawOne (hr.mono (by decide)) (by rfl) (pa_cons (pv 0) (pa_cons (pe_callTy (call_list_str hr.hd) (by rfl) B.z_list (by decide +kernel) (pa_cons pe_str pa_nil)) pa_nil))) (pa_cons (pe_fn D_LawDip (hr.mono (by decide)) (by rfl) (pa_cons (pv 0) (pa_cons pe_int pa_nil))) pa_nil)) (by rfl))
      (pss_cons (ps_set (i := 3) scLawNamesRight.nd rfl (Or.inl rfl) (pe_op op_add_str (pv 1) (pe_join pe_str (pe_lc (own := [("turn", 7)]) (g := gName 7) (tt := tYes) rfl scLawNamesRight.nd (pi_range1 rfl B.z_range (pa_cons (pv 2) pa_nil)) (blkOk_by (N := n_sLawNamesRight) (sc := (defScope sLawNamesRight)) (by decide +kernel)) (fun _ _ _ _ _ => (pg_name (i := 7) scLawNamesRight.nd rfl (Or.inl rfl))) (fun _ _ _ _ _ => pts_nil) (fun _ _ _ _ _ => (pe_fn D_LawOne (hr.mono (by decide)) (by rfl) (pa_cons (pv 0) (pa_cons (pe_callTy (call_list_str hr.hd) (by rfl) B.z_list (by decide +kernel) (pa_cons pe_str pa_nil)) pa_nil))))))))
      (pss_cons (ps_par (i := 4) (j := 5) (by rfl) scLawNamesRight.nd rfl rfl (by decide) rfl rfl (pa_cons (pe_fn D_LawDip (hr.mono (by decide)) (by rfl) (pa_cons (pv 0) (pa_cons (pe_op op_add (pe_callB call_len (by rfl) B.z_len PySem.boot_len (pa_cons (pv 3) pa_nil)) pe_int) pa_nil))) (pa_cons (pe_fn D_LawOne (hr.mono (by decide)) (by rfl) (pa_cons (pv 0) (pa_cons (pe_lst (pa_cons pe_str (pa_cons pe_str (pa_cons pe_str (pa_cons pe_str (pa_cons pe_str (pa_cons pe_str (pa_cons pe_str (pa_cons pe_str (pa_cons pe_str (pa_cons pe_str pa_nil))))))))))) pa_nil))) pa_nil)) (by rfl))
      (pss_cons (ps_set (i := 6) scLawNamesRight.nd rfl (Or.inl rfl) (pe_lst (pa_cons (pe_op op_add_str (pe_op op_add_str (pe_slice sl_str (pv 3) po_none (po_some (pv 4))) (pv 5)) (pe_slice sl_str (pv 3) (po_some (pv 4)) po_none)) (pa_cons pe_str (pa_cons (pv 5) (pa_cons (pe_op op_add_str pe_str (pe_slice sl_str (pv 3) po_none (po_some pe_int))) (pa_cons (pe_op op_mul_str (pe_ix ix_str (pv 3) pe_int (fun _ _ => rfl)) pe_int) (pa_cons pe_non (pa_cons pe_int (pa_cons (pe_lst (pa_cons (pv 3) pa_nil)) (pa_cons (pe_tup (pa_cons (pv 3) pa_nil)) (pa_cons pe_bl (pa_cons (pe_disp (pps_cons (pv 3) pe_int pps_nil) (by rfl) (by rfl) (fun z => by cases z) (by decide)) pa_nil)))))))))))))
      (pss_cons (ps_if (PW.pt (pw_or (pt_not (pt_val (pe_fn D_IsName (hr.mono (by decide)) (by rfl) (pa_cons (pv 3) pa_nil)))) (pw_or (pt_cmpR op_notBl (pe_fnK0 K0_IsName_value (hr.mono (by decide)) (by rfl) (pk_cons (pv 3) pk_nil)) pe_bl (nomark _)) (pw_or (pt_not (pt_val (pe_fn D_IsName (hr.mono (by decide)) (by rfl) (pa_cons (pv 1) pa_nil)))) (pw_or1 (pt_not (pt_val (pe_fn D_IsName (hr.mono (by decide)) (by rfl) (pa_cons (pe_op op_add_str (pv 1) (pe_op op_mul_str pe_str pe_int)) pa_nil)))))))))
        (pss_one (ps_ret pe_bl))
        pss_nil)
      (pss_one (ps_ret (pe_cmpR (op_eqSame (hu0 hr)) (pe_lc (own := [("value", 8)]) (g := gName 8) rfl scLawNamesRight.nd (pi_list (pv 6)) (blkOk_by (N := n_sLawNamesRight) (sc := (defScope sLawNamesRight)) (by decide +kernel)) (fun _ _ _ _ _ => (pg_name (i := 8) scLawNamesRight.nd rfl (Or.inl rfl))) (fun _ _ _ _ _ => (pts_one (pt_cmpR op_notBl (pe_fn D_IsName (hr.mono (by decide)) (by rfl) (pa_cons (pv 8) pa_nil)) pe_bl (nomark _)))) (fun _ _ _ _ _ => (pv 8))) (pe_lst pa_nil) (nomark _))))))))), ?_⟩
    -- first, many
    refine ⟨_, rfl, "abmyz", rfl, le_line (by decide), fun l1 m1 => ⟨u, c, l1, _, n, rfl, SqL.of upd_same, urn_ne hU m1, List.cons_ne_nil _ _, (by show 5 ≤ 1000; decide), by omega, hU.same (same_new m1), fun H1 x g1 U1 hx => ?_⟩⟩
    have hx : ∃ c0, x = .str (cS c0) ∧ c0 ∈ sL.cps.toList := by
      obtain ⟨c0, h0, rfl⟩ := List.mem_map.mp hx
      refine ⟨c0, rfl, ?_⟩
      have : ∀ c ∈ ("abmyz" : Str).cps.toList, c ∈ sL.cps.toList := by decide +kernel
      exact this c0 h0
    obtain ⟨c0, rfl, hc0⟩ := hx
    have G1 := (same_gr (same_new m1)).trans g1
    refine ⟨_, rfl, u, c, 12, _, rfl, by decide, by decide, by omega, U1, fun H2 k g2 U2 k0 k12 => ⟨_, _, rfl, ?_⟩⟩
    have G2 := G1.trans g2
    clear G1 g1 g2 U1 m1
    -- name
    refine ⟨_, rfl, ⟨_, rfl⟩, _, rfl, k, rfl, by omega, by omega, fun D nD => ?_⟩
    have uD := urn_ne U2 nD
    have cD := urn_neC U2 nD
    have bD : ∀ b o, H2 b = some o → b ≠ D := fun b o e => ne_of_none e nD
    refine lc_range (lo := 0) (n := k.toNat) (fun i H' => ∃ cs : List Nat, Gr u H2 H' ∧ Urn u c (n + 2 + i) H' ∧ H' D = some (.lst ((cs.map cS).map V.str)) ∧ cs.length = i ∧ ∀ r ∈ cs, inLD r = true) ⟨[], same_gr (same_new nD), U2.same (same_new nD), upd_same, rfl, fun r hr => absurd hr List.not_mem_nil⟩ (fun i H' hi h => ?_) (fun H' h => ?_)
    · obtain ⟨cs, g, U, eD, el, es⟩ := h
      refine ⟨rfl, tyOk ⟨_, rfl, "azkq0195", rfl, le_line (by decide), fun l2 m2 => ⟨u, c, l2, _, _, rfl, SqL.of upd_same, urn_ne U m2, List.cons_ne_nil _ _, (by show 8 ≤ 1000; decide), by omega, U.same (same_new m2), fun H'' x g' U' hx => ?_⟩⟩⟩
      have hx : ∃ c1, x = .str (cS c1) ∧ inLD c1 = true := by
        obtain ⟨c1, h1, rfl⟩ := List.mem_map.mp hx
        refine ⟨c1, rfl, ?_⟩
        have : ∀ c ∈ ("azkq0195" : Str).cps.toList, inLD c = true := by decide +kernel
        exact this c1 h1
      obtain ⟨c1, rfl, h1⟩ := hx
      have g'' := (same_gr (u := u) (same_new (o := .lst (("azkq0195" : Str).cps.toList.map fun c => .str ⟨#[c]⟩)) m2)).trans g'
      refine ⟨_, g'' D _ uD eD, ?_, cs ++ [c1], fun b o nb e => ?_, U'.upd uD cD, ?_, ?_, ?_⟩
      · rw [List.length_map, List.length_map]
        exact lt_line (by omega)
      · rw [upd_ne (bD b o e)]
        exact g'' b o nb (g b o nb e)
      · rw [upd_same, List.map_append, List.map_append]
        rfl
      · rw [List.length_append, el]
        rfl
      · intro z hz
        rcases List.mem_append.mp hz with hz | hz
        · exact es z hz
        · rw [List.mem_singleton.mp hz]
          exact h1
    · obtain ⟨cs, g, U, eD, el, es⟩ := h
      have G3 := G2.trans g
      have lc : cs.length ≤ 11 := by omega
      refine ⟨"", D, cs.map cS, rfl, rfl, .inl (SqL.of eD), ?_, _, _, rfl, rfl, ?_, ?_⟩
      · rw [sum_cs, List.length_map]
        show _ + _ * 0 ≤ _
        omega
      · rw [join_cs]
        show 1 + cs.toArray.size ≤ _
        rw [List.size_toArray]
        exact le_line (by omega)
      rw [join_cs, app_cs]
      clear eD bD G2 g uD cD nD U2
      have hnm : ∀ x ∈ c0 :: cs, inLD x = true := fun x hx => by
        rcases List.mem_cons.mp hx with rfl | hx
        · exact sL_ld hc0
        · exact es x hx
      have hl : (SX.S (c0 :: cs)).length = cs.length + 1 := by
        show (c0 :: cs).toArray.size = _
        rw [List.size_toArray]
        rfl
      have hB : nameB (SX.S (c0 :: cs)) = true := nameL_ok lc hc0 hnm
      -- at, sign
      refine ⟨_, rfl, _, rfl, _, _, rfl, ⟨le_line (by rw [hl]; omega), rfl⟩, _, _, rfl, rfl, u, c, _, _, rfl, by omega, by rw [hl]; omega, by omega, U, fun HE at0 gE UE a0 al => ?_⟩
      refine ⟨_, rfl, le_line (by show 10 ≤ 100000; decide), fun l2 m2 => ⟨u, c, l2, _, _, rfl, SqL.of upd_same, urn_ne UE m2, List.cons_ne_nil _ _, (by show 10 ≤ 1000; decide), by omega, UE.same (same_new m2), fun HF x gF UF hx => ⟨_, _, rfl, ?_⟩⟩⟩
      have hx : ∃ d, x = .str (cS d) ∧ inLD d = false := by
        simp only [List.mem_cons, List.not_mem_nil, or_false] at hx
        rcases hx with rfl | rfl | rfl | rfl | rfl | rfl | rfl | rfl | rfl | rfl
        · exact ⟨65, congrArg V.str (by decide +kernel), by decide +kernel⟩
        · exact ⟨95, congrArg V.str (by decide +kernel), by decide +kernel⟩
        · exact ⟨32, congrArg V.str (by decide +kernel), by decide +kernel⟩
        · exact ⟨45, congrArg V.str (by decide +kernel), by decide +kernel⟩
        · exact ⟨63, congrArg V.str (by decide +kernel), by decide +kernel⟩
        · exact ⟨47, congrArg V.str (by decide +kernel), by decide +kernel⟩
        · exact ⟨58, congrArg V.str (by decide +kernel), by decide +kernel⟩
        · exact ⟨10, congrArg V.str (by decide +kernel), by decide +kernel⟩
        · exact ⟨46, congrArg V.str (by decide +kernel), by decide +kernel⟩
        · exact ⟨39, congrArg V.str (by decide +kernel), by decide +kernel⟩
      obtain ⟨d, rfl, hd⟩ := hx
      have GF := G3.trans (gE.trans ((same_gr (same_new m2)).trans gF))
      clear G3 gE gF UE m2 U
      have nl : (SX.S (c0 :: cs)).length ≤ 12 := by omega
      have ld1 := cutS_length (SX.S (c0 :: cs)) none (some at0)
      have ld2 := cutS_length (SX.S (c0 :: cs)) (some at0) none
      have ld3 := cutS_length (SX.S (c0 :: cs)) none (some 11)
      have lsz : (SX.S (c0 :: cs)).length ≤ sizeLine := le_line (by omega)
      have l1 : ∀ (c : Nat), (cS c).length = 1 := fun c => rfl
      have at00 : atI (SX.S (c0 :: cs)).cps.toList 0 = some c0 := atI_nat (xs := c0 :: cs) (j := 0) rfl
      -- the bad ones
      refine ⟨_, rfl, _, rfl, _, rfl, _, rfl, lsz, _, rfl, _, _, rfl, rfl, le_line (by rw [l1]; omega), _, rfl, _, rfl, _, rfl, _, rfl, lsz, _, _, rfl, rfl, le_line (by rw [Str.length_append, l1]; omega), ?_⟩
      refine ⟨_, rfl, _, rfl, _, rfl, _, rfl, lsz, _, _, rfl, rfl, le_line (by rw [z1]; omega), ?_⟩
      refine ⟨_, rfl, _, 0, c0, rfl, rfl, lsz, at00, cS c0, 13, rfl, rfl, by decide, by decide, Nat.le_refl 1, by show 1 ≤ 1000; decide, by rw [len13]; exact le_line (by decide), ?_⟩
      refine ⟨_, rfl, one_le, fun p1 n1 => ⟨_, rfl, one_le, fun p2 n2 => fun p3 n3 => ⟨_, rfl, upd_same, [(.inr (SX.S (c0 :: cs)), .int 1)], rfl, (by show 1 ≤ 15; decide), le_line (by show 11 ≤ 100000; decide), fun p4 n4 => ?_⟩⟩⟩
      have s1 := same_new (o := .lst [.str (SX.S (c0 :: cs))]) n1
      have s2 := same_new (o := .tup [.str (SX.S (c0 :: cs))]) n2
      have s3 := dup_same (o := .dK []) (o' := .dK (mergeK [] [(.inr (SX.S (c0 :: cs)), .int 1)])) n3
      generalize hY : (HO.lst [V.str (cutS (SX.S (c0 :: cs)) none (some at0) ++ cS d ++ cutS (SX.S (c0 :: cs)) (some at0) none), _, _, _, _, _, _, _, _, _, _]) = Y
      have s4 := same_new (o := Y) n4
      generalize hX : upd _ p4 _ = H4
      have e4 : H4 p4 = some Y := by
        rw [← hX]
        exact upd_same
      have t3 : Same _ H4 := hX ▸ s4
      have t2 := s3.trans t3
      have t1 := s2.trans t2
      have t0 := s1.trans t1
      have f1 : H4 p1 = some (.lst [.str (SX.S (c0 :: cs))]) := t1 _ _ upd_same
      have f2 : H4 p2 = some (.tup [.str (SX.S (c0 :: cs))]) := t2 _ _ upd_same
      have f3 : H4 p3 = some (.dK (mergeK [] [(.inr (SX.S (c0 :: cs)), .int 1)])) := t3 _ _ upd_same
      have G4 := GF.trans (same_gr t0)
      have U4 := UF.same t0
      clear s1 s2 s3 s4 t0 t1 t2 t3 n1 n2 n3 n4 hX GF UF
      have hbad : ∃ ys, Y = .lst ys ∧ ∀ y ∈ ys, NoN K H4 y := by
        refine ⟨_, hY.symm, fun y hy => ?_⟩
        simp only [List.mem_cons, List.not_mem_nil, or_false] at hy
        rcases hy with rfl | rfl | rfl | rfl | rfl | rfl | rfl | rfl | rfl | rfl | rfl
        · exact .inl ⟨_, rfl, by rw [Str.length_append, Str.length_append, l1]; omega, bad_mid hd⟩
        · exact .inl ⟨_, rfl, by decide, rfl⟩
        · exact .inl ⟨_, rfl, by rw [l1]; decide, bad_sign hd⟩
        · exact .inl ⟨_, rfl, by rw [Str.length_append, z1]; omega, bad_zero⟩
        · exact .inl ⟨_, rfl, by rw [len13]; decide, bad13⟩
        · exact .inr ⟨.non, .non, by decide⟩
        · exact .inr ⟨.int, .int _, by decide⟩
        · exact .inr ⟨.lst, .lst (SqL.of f1), by decide⟩
        · exact .inr ⟨.tup, .tup (SqT.of f2), by decide⟩
        · exact .inr ⟨.bl, .bl _, by decide⟩
        · exact .inr ⟨.dct, .dct f3, by decide⟩
      obtain ⟨ys, rfl, hys⟩ := hbad
      clear hY f1 f2 f3
      have hB1 : nameB (cS c0) = true := nameL_ok (r := []) (by decide) hc0 (fun x hx => by rw [List.mem_singleton.mp hx]; exact sL_ld hc0)
      have hB2 := name12 hc0
      have l12 : (cS c0).length + (⟨(List.replicate (11 : Int).toNat ("9" : Str).cps).foldl (· ++ ·) #[]⟩ : Str).length = 12 := by rw [len11, l1]
      refine ⟨_, rfl, .str (SX.S (c0 :: cs)), .str, rfl, .str _, .inl ⟨_, rfl, by omega, fun HG sG => ⟨_, rfl, ?_⟩⟩⟩
      rw [hB]
      refine iteF ⟨_, rfl, rfl, rfl, .str (SX.S (c0 :: cs)), .str, rfl, .str _, .inl ⟨_, rfl, by omega, fun HH sH => ⟨_, true, rfl, rfl, _, rfl, ?_⟩⟩⟩
      rw [hB]
      refine iteF ⟨_, rfl, .str (cS c0), .str, rfl, .str _, .inl ⟨_, rfl, by rw [l1]; decide, fun HI sI => ⟨_, rfl, ?_⟩⟩⟩
      rw [hB1]
      refine iteF ⟨_, rfl, "9", 11, rfl, rfl, by decide, by decide, by decide +kernel, by decide +kernel, by rw [len11]; exact le_line (by decide), _, _, rfl, rfl, le_line (by rw [l12]; decide), .str _, .str, rfl, .str _, .inl ⟨_, rfl, by rw [Str.length_append, l12]; decide, fun HJ sJ => ⟨_, rfl, ?_⟩⟩⟩
      rw [hB2]
      refine iteF ?_
      have sX := sG.trans (sH.trans (sI.trans sJ))
      have eJ := sX _ _ e4
      refine ⟨_, rfl, p4, rfl, ⟨_, SqL.of eJ⟩, fun DD nDD => lc_list (K := K) (a := p4) (xs := ys) (fun i H' => Same HJ H' ∧ H' DD = some (.lst [])) ⟨same_new nDD, upd_same⟩ (fun i H' _ h => SqL.of (h.1 _ _ eJ)) (fun i y H' hy h => ?_) (fun H' h => ?_)⟩
      · refine ⟨rfl, _, rfl, ?_⟩
        dsimp only [tNil]
        refine NoN.sp (NoN.same (sX.trans h.1) (hys y (List.mem_of_getElem? hy))) (fun H3 s3 => ⟨false, false, rfl, rfl, _, rfl, iteF ⟨h.1.trans s3, s3 _ _ h.2⟩⟩)
      · refine ⟨Nat.zero_le _, fun e ne => ⟨DD, e, [], rfl, rfl, SqL.of (same_new ne _ _ h.2), SqL.of upd_same, rfl, ?_⟩⟩
        have sZ := sX.trans (h.1.trans (same_new (o := .lst []) ne))
        exact q _ (G4.trans (same_gr sZ)) ((U4.same sZ).mono (by omega))
end
end K00
/-! The law's look at what stands twice. -/
namespace K00
open PySem PySem.Spec PyProof.Rows L2 Kit
abbrev sLawTwiceRight : Stmt := topS 45
abbrev n_sLawTwiceRight : List Str := ["urn", "numbers", "texts", "pairs", "due", "listed", "turn", "number", "at", "pair"]
theorem scLawTwiceRight : FnScope n_sLawTwiceRight ["urn"] (defScope sLawTwiceRight) := ⟨rfl, rfl, rfl, by decide +kernel, rfl, by decide +kernel, by decide +kernel⟩

theorem op_in_seqK {X : Cx} {K : PySem.W.Frag} (h : X.K = K) : OpR X (compareOp .In) (rIn K false) := by
  subst h
  exact op_in_seq
theorem sl_listK {X : Cx} {K : PySem.W.Frag} (h : X.K = K) : SlR X (rSlL K) := by
  subst h
  exact sl_list
def rLo (K : PySem.W.Frag) : List V → Hp → VK → Prop := fun xs H Q => ∃ p ys, xs = [.ref p] ∧ (SqL K H p ys ∨ SqT K H p ys) ∧ ∀ l, H l = none → Q (.ref l) (upd H l (.lst ys))
theorem call_list_ofK {X : Cx} {K : PySem.W.Frag} (h : X.K = K) : CallR X (.type "list") (rLo K) := by
  subst h
  exact call_list_of
theorem pg_tupK {X : Cx} {K : PySem.W.Frag} {es : List Expr} {k : Nat} {t : TGs} {n : Nat} {pos : Pos} (h : X.K = K) (hc : X.calm = true) (hg : PGs X es t)
    (hn : (assignEach es X.env).length = n := by rfl) (hst : (assignEach es X.env).findIdx? (·.1) = none := by rfl) : PG X (.Tuple es k pos) (gTup K n t) := by
  subst h
  exact pg_tup hc hg hn hst
/-! ### first ones that stand twice -/
theorem fTw_inv {α : Type} [DecidableEq α] {l : List α} {i : Nat} (h : fTw l = some i) : ∃ c, l[i]? = some c ∧ c ∈ l.take i ∧ ∀ j, j < i → ∀ k, l[j]? = some k → k ∉ l.take j := by
  unfold fTw at h
  rw [List.find?_range_eq_some] at h
  obtain ⟨h1, h2, h3⟩ := h
  have h1 := of_decide_eq_true h1
  obtain ⟨c, hc⟩ : ∃ c, l[i]? = some c := ⟨_, List.getElem?_eq_getElem (List.mem_range.mp h2)⟩
  rw [hc] at h1
  obtain ⟨k, hk, e⟩ := List.mem_map.mp h1
  cases e
  refine ⟨c, hc, hk, fun j hj x hx hm => ?_⟩
  have := h3 j hj
  rw [Bool.not_eq_true'] at this
  refine of_decide_eq_false this ?_
  rw [hx]
  exact List.mem_map_of_mem hm
theorem fTw_inv0 {α : Type} [DecidableEq α] {l : List α} (h : fTw l = none) : ∀ j, j < l.length → ∀ k, l[j]? = some k → k ∉ l.take j := by
  intro j hj k hk hm
  unfold fTw at h
  rw [List.find?_range_eq_none] at h
  have := h j hj
  rw [Bool.not_eq_true'] at this
  refine of_decide_eq_false this ?_
  rw [hk]
  exact List.mem_map_of_mem hm
theorem mem_inj {α β : Type} {l : List α} {f : α → β} (hf : ∀ a ∈ l, ∀ b ∈ l, f a = f b → a = b) {j : Nat} {k : α} (hk : k ∈ l) (h : f k ∈ (l.map f).take j) : k ∈ l.take j := by
  rw [← List.map_take] at h
  obtain ⟨b, hb, e⟩ := List.mem_map.mp h
  have := hf b (List.mem_of_mem_take hb) k hk e
  rw [← this]
  exact hb
theorem fTw_map {α β : Type} [DecidableEq α] [DecidableEq β] {l : List α} {f : α → β} (hf : ∀ a ∈ l, ∀ b ∈ l, f a = f b → a = b) : fTw (l.map f) = fTw l := by
  have none_of : ∀ n, (∀ j, j < n → ∀ k, l[j]? = some k → k ∉ l.take j) → ∀ j, j < n → ∀ k, (l.map f)[j]? = some k → k ∉ (l.map f).take j := by
    intro n h j hj k hk hm
    rw [List.getElem?_map] at hk
    cases e : l[j]? with
    | none =>
      rw [e] at hk
      cases hk
    | some a =>
      rw [e] at hk
      cases hk
      exact h j hj a e (mem_inj hf (List.mem_of_getElem? e) hm)
  cases e : fTw l with
  | none =>
    refine fTw_none fun j hj => none_of l.length (fTw_inv0 e) j ?_
    rw [List.length_map] at hj
    exact hj
  | some i =>
    obtain ⟨c, hc, hm, hn⟩ := fTw_inv e
    refine fTw_some (c := f c) (none_of i hn) ?_ ?_
    · rw [List.getElem?_map, hc]
      rfl
    · rw [← List.map_take]
      exact List.mem_map_of_mem hm
/-- the places at which something stands that stands ahead of it -/
def dueL {α : Type} [DecidableEq α] (l : List α) (n : Nat) : List Nat := (List.range n).filter fun i => decide (l[i]? ∈ (l.take i).map some)
theorem due_head {α : Type} [DecidableEq α] (l : List α) : (dueL l l.length).head? = fTw l := by
  unfold dueL fTw
  exact List.head?_filter
theorem due_succ {α : Type} [DecidableEq α] (l : List α) (n : Nat) : dueL l (n + 1) = dueL l n ++ (if l[n]? ∈ (l.take n).map some then [n] else []) := by
  unfold dueL
  rw [List.range_succ, List.filter_append]
  congr 1
  by_cases h : l[n]? ∈ (l.take n).map some
  · rw [if_pos h]
    exact List.filter_cons_of_pos (decide_eq_true h)
  · rw [if_neg h]
    exact List.filter_cons_of_neg (by rw [decide_eq_false h]; exact Bool.false_ne_true)
theorem due_len {α : Type} [DecidableEq α] (l : List α) (n : Nat) : (dueL l n).length ≤ n := by
  unfold dueL
  exact Nat.le_trans (List.length_filter_le _ _) (by rw [List.length_range]; exact Nat.le_refl _)
theorem in_ints (k : Int) (l : List Int) : inV (.int k) (l.map V.int) = decide (k ∈ l) := by
  unfold inV
  rw [List.any_map, Bool.eq_iff_iff, List.any_eq_true]
  constructor
  · rintro ⟨x, hx, e⟩
    have e : (x == k) = true := e
    rw [eq_of_beq e] at hx
    exact decide_eq_true hx
  · intro h
    exact ⟨k, of_decide_eq_true h, beq_self_eq_true k⟩
theorem cut_take (l : List Int) {i : Nat} (h : i ≤ l.length) : cutV (l.map V.int) none (some (i : Int)) = (l.take i).map V.int := by
  unfold cutV
  rw [HT.sIx_nat, HT.sIx_none, List.length_map, List.drop_zero, Nat.sub_zero, Nat.min_eq_left h, List.map_take]
theorem mem_some {k : Int} {l : List Int} {i : Nat} (h : l[i]? = some k) : decide (k ∈ l.take i) = decide (l[i]? ∈ (l.take i).map some) := by
  rw [h]
  refine decide_eq_decide.mpr ⟨fun z => List.mem_map_of_mem z, fun z => ?_⟩
  obtain ⟨b, hb, e⟩ := List.mem_map.mp z
  cases e
  exact hb
/-- x0, x1, .. -/
def txt (k : Int) : Str := "x" ++ Str.ofString (toString k)
def pairD (k : Int) : PyData := .tuple [.int (k / 3), .int k]
theorem txt_inj : ∀ a : Nat, a < 7 → ∀ b : Nat, b < 7 → txt (a : Int) = txt (b : Int) → a = b := by decide +kernel
theorem txt_len : ∀ a : Nat, a < 7 → (Str.ofString (toString (a : Int))).length ≤ 10 := by decide +kernel
theorem pair_len : ∀ a : Nat, a < 7 → (pairD (a : Int)).shown.length ≤ 100 := by decide +kernel
theorem pair_sh : ∀ a : Nat, a < 7 → (pairD (a : Int)).showable = true := by decide +kernel
theorem nat7 {ns : List Int} (h : ∀ k ∈ ns, 0 ≤ k ∧ k < 7) {k : Int} (hk : k ∈ ns) : ∃ a : Nat, a < 7 ∧ k = (a : Int) := ⟨k.toNat, by have := h k hk; omega, by have := h k hk; omega⟩
theorem inj_num {ns : List Int} : ∀ a ∈ ns, ∀ b ∈ ns, NestedKey.tup [.num a] = NestedKey.tup [.num b] → a = b := fun a _ b _ e => by
  injection e with e
  injection e with e
  injection e
theorem inj_txt {ns : List Int} (h : ∀ k ∈ ns, 0 ≤ k ∧ k < 7) : ∀ a ∈ ns, ∀ b ∈ ns, NestedKey.tup [.text (txt a)] = NestedKey.tup [.text (txt b)] → a = b := fun a ha b hb e => by
  injection e with e
  injection e with e
  injection e with e
  obtain ⟨a', ha', rfl⟩ := nat7 h ha
  obtain ⟨b', hb', rfl⟩ := nat7 h hb
  rw [txt_inj a' ha' b' hb' e]
theorem inj_pair {ns : List Int} : ∀ a ∈ ns, ∀ b ∈ ns, keyT ([V.int (a / 3), .int a].map nkOf) = keyT ([V.int (b / 3), .int b].map nkOf) → a = b := fun a _ b _ e => by
  have e : NestedKey.tup [.none, .num (a / 3), .num a, .tup []] = NestedKey.tup [.none, .num (b / 3), .num b, .tup []] := e
  injection e with e
  injection e with _ e
  injection e with _ e
  injection e with e _
  injection e
section
variable {P : Program} {w : World} {K : PySem.W.Frag} {mg : Str → Option Value} {base : Heap}
theorem pairD_dp {H : Hp} {p : Addr} {k : Int} (h : H p = some (.tup [.int (k / 3), .int k])) : Dp K H (.ref p) (pairD k) := .tup (SqT.of h) (.cons (.int _) (.cons (.int _) .nil))
theorem pairD_shaped (k : Int) : SeqAt.shaped (pairD k) = true := rfl
theorem pairD_eqv (k : Int) : PyData.eqv (pairD k) (pairD k) = true := by
  show ((k / 3 == k / 3) && ((k == k) && true)) = true
  simp
theorem paired_idx {α β : Type} {R : α → β → Prop} : ∀ {l1 : List α} {l2 : List β}, l1.length = l2.length → (∀ (j : Nat) x y, l1[j]? = some x → l2[j]? = some y → R x y) → Paired R l1 l2
  | [], [], _, _ => .nil
  | x :: l1, y :: l2, hl, h => .cons (h 0 x y rfl rfl) (paired_idx (by simpa using hl) fun j x y hx hy => h (j + 1) x y (by simpa using hx) (by simpa using hy))
  | [], _ :: _, hl, _ => by simp at hl
  | _ :: _, [], hl, _ => by simp at hl
theorem get_map {α β : Type} {l : List α} {f : α → β} {i : Nat} {y : β} (h : (l.map f)[i]? = some y) : ∃ d, y = f d ∧ l[i]? = some d := by
  rw [List.getElem?_map] at h
  cases e : l[i]? with
  | none =>
    rw [e] at h
    cases h
  | some d =>
    rw [e] at h
    exact ⟨d, (Option.some.inj h).symm, rfl⟩
theorem nk_inj {x y : V} (hx : Lf x) (hy : Lf y) (e : nkOf x = nkOf y) : x = y := by
  rcases hx with ⟨i, rfl⟩ | ⟨i, rfl⟩ <;> rcases hy with ⟨j, rfl⟩ | ⟨j, rfl⟩
  · injection e with e
    rw [e]
  · cases e
  · cases e
  · injection e with e
    rw [e]
theorem map_nk_inj : ∀ xs ys : List V, (∀ z ∈ xs, Lf z) → (∀ z ∈ ys, Lf z) → xs.map nkOf = ys.map nkOf → xs = ys
  | [], [], _, _, _ => rfl
  | [], y :: ys, _, _, e => by cases e
  | x :: xs, [], _, _, e => by cases e
  | x :: xs, y :: ys, hx, hy, e => by
    have e' : nkOf x :: xs.map nkOf = nkOf y :: ys.map nkOf := e
    injection e' with e1 e2
    rw [nk_inj (hx x List.mem_cons_self) (hy y List.mem_cons_self) e1, map_nk_inj xs ys (fun z hz => hx z (List.mem_cons_of_mem _ hz)) (fun z hz => hy z (List.mem_cons_of_mem _ hz)) e2]
theorem key_inj (xs ys : List V) (hx : ∀ z ∈ xs, Lf z) (hy : ∀ z ∈ ys, Lf z) (e : keyT (xs.map nkOf) = keyT (ys.map nkOf)) : xs = ys := by
  have e' : NestedKey.tup (.none :: xs.map nkOf ++ [.tup []]) = NestedKey.tup (.none :: ys.map nkOf ++ [.tup []]) := e
  injection e' with e'
  exact map_nk_inj xs ys hx hy (List.append_cancel_right (List.cons.inj e').2)
def pickV (xs : List V) : Option Nat → V
  | none => .non
  | some i => xs.getD i .non
theorem pickV_at {xs : List V} {i : Nat} {v : V} (h : xs[i]? = some v) : pickV xs (some i) = v := by
  show xs.getD i .non = v
  rw [List.getD_eq_getElem?_getD, h]
  rfl
def dueI (ns : List Int) : List Int := (dueL ns ns.length).map fun (j : Nat) => (j : Int)
theorem eqv_cons {a : Int} {ds : List Int} : (!(PyData.eqv (.list ((a :: ds).map .int)) (.list []))) = true := rfl
/-- xs[due[0]] if due != [] else None -/
theorem pick {σ : L2.St} {H : Hp} {Q : VK} {j : Nat} {a Dd : Addr} {xs : List V} {ns : List Int} (hd : σ[4]? = some (some (.ref Dd))) (ha : σ[j]? = some (some (.ref a))) (eDd : H Dd = some (.lst ((dueI ns).map V.int))) (ea : H a = some (.lst xs)) (hl : xs.length = ns.length)
    (q : ∀ H', Same H H' → Q (pickV xs (fTw ns)) H') : tIf (tTest (tOp (rNeD K) (tVar 4) (tLst tNil))) (tOp (rIxL K) (tVar j) (tOp (rIxL K) (tVar 4) (tC (.int 0)))) (tC .non) σ H Q := by
  refine ⟨.ref Dd, hd, Nat.zero_le _, fun z nz => ?_⟩
  have s := same_new (o := .lst []) nz
  refine ⟨.list ((dueI ns).map .int), .list [], .lst (SqL.of (s _ _ eDd)) (dpAll_ints _), .lst (SqL.of upd_same) .nil, PySem.W.shaped_ints _, rfl, _, rfl, ?_⟩
  have hh := due_head ns
  cases e : dueL ns ns.length with
  | nil =>
    rw [e] at hh
    have e2 : dueI ns = [] := by
      unfold dueI
      rw [e]
      rfl
    rw [e2]
    have q' := q _ s
    rw [← hh] at q'
    exact iteF q'
  | cons i r =>
    rw [e] at hh
    have e2 : dueI ns = (i : Int) :: r.map fun (j : Nat) => (j : Int) := by
      unfold dueI
      rw [e]
      rfl
    rw [e2] at eDd ⊢
    rw [eqv_cons]
    have hi : fTw ns = some i := hh.symm
    obtain ⟨c, hc, _⟩ := fTw_inv hi
    have li : i < xs.length := by
      rw [hl]
      exact (List.getElem?_eq_some_iff.mp hc).1
    have q' := q _ s
    rw [hi, pickV_at (List.getElem?_eq_getElem li)] at q'
    exact iteT ⟨.ref a, ha, .ref Dd, hd, Dd, _, 0, .int i, rfl, rfl, SqL.of (s _ _ eDd), atI_nat (j := 0) rfl, a, xs, i, _, rfl, rfl, SqL.of (s _ _ ea), atI_nat (List.getElem?_eq_getElem li), q'⟩
theorem twice_leaf {H : Hp} {a : Addr} {ns : List Int} {f : Int → V} {Q : VK} {E : XK} (hS : Sq K H a (ns.map f)) (hf : ∀ k, Lf (f k)) (inj : ∀ a ∈ ns, ∀ b ∈ ns, NestedKey.tup [nkOf (f a)] = NestedKey.tup [nkOf (f b)] → a = b) (hl : ns.length ≤ 60)
    (q : ∀ H', Same H H' → Q (pickV (ns.map f) (fTw ns)) H') : spTwice K [.ref a] H Q E := by
  have ef := fTw_map (f := fun k => NestedKey.tup [nkOf (f k)]) inj
  refine ⟨a, ns.map f, ns.map fun k => NestedKey.tup [nkOf (f k)], rfl, hS, by rw [List.length_map]; exact hl, paired_idx (by rw [List.length_map, List.length_map]) (fun j x y hx hy => ?_), fun e H' s => ?_, fun i y e hy => ⟨fun _ H' s => ?_, fun b ys eb => ?_⟩⟩
  · obtain ⟨d, rfl, hd⟩ := get_map hx
    obtain ⟨d', rfl, hd'⟩ := get_map hy
    rw [hd] at hd'
    cases hd'
    exact .inl ⟨hf d, rfl⟩
  · rw [ef] at e
    have := q H' s
    rw [e] at this
    exact this
  · rw [ef] at e
    have := q H' s
    rw [e, pickV_at hy] at this
    exact this
  · obtain ⟨d, rfl, hd⟩ := get_map hy
    rcases hf d with ⟨x, h⟩ | ⟨x, h⟩ <;> (rw [h] at eb; cases eb)
theorem pick_cases (ns : List Int) (f : Int → V) (o : Option Nat) : pickV (ns.map f) o = .non ∨ ∃ k, pickV (ns.map f) o = f k := by
  cases o with
  | none => exact .inl rfl
  | some i =>
    cases e : (ns.map f)[i]? with
    | none =>
      refine .inl ?_
      show (ns.map f).getD i .non = .non
      rw [List.getD_eq_getElem?_getD, e]
      rfl
    | some y =>
      obtain ⟨d, rfl, _⟩ := get_map e
      exact .inr ⟨d, pickV_at e⟩
theorem scal_pick {ns : List Int} {f : Int → V} (hf : ∀ k, Lf (f k)) (o : Option Nat) : scal (pickV (ns.map f) o) (pickV (ns.map f) o) = true := by
  rcases pick_cases ns f o with e | ⟨k, e⟩
  · rw [e]
    rfl
  · rw [e]
    rcases hf k with ⟨x, h⟩ | ⟨x, h⟩ <;> (rw [h]; rfl)
/-- None, or the pair that stands twice -/
def PvA (K : PySem.W.Frag) (H : Hp) (ns : List Int) (v : V) : Prop := (fTw ns = none ∧ v = .non) ∨ ∃ i k p, fTw ns = some i ∧ ns[i]? = some k ∧ v = .ref p ∧ SqT K H p [.int (k / 3), .int k]
theorem PvA.same {H H' : Hp} {ns : List Int} {v : V} (s : Same H H') (h : PvA K H ns v) : PvA K H' ns v := by
  rcases h with h | ⟨i, k, p, h1, h2, h3, h4⟩
  · exact .inl h
  · exact .inr ⟨i, k, p, h1, h2, h3, same_seqT s h4⟩
theorem twice_pair {H : Hp} {a : Addr} {ps : List Addr} {ns : List Int} {Q : VK} {E : XK} (hS : Sq K H a (ps.map V.ref)) (hpl : ps.length = ns.length) (hp : ∀ (j : Nat) p k, ps[j]? = some p → ns[j]? = some k → Sq K H p [.int (k / 3), .int k]) (hl : ns.length ≤ 60)
    (q : ∀ H' v, Same H H' → PvA K H' ns v → Q v H') : spTwice K [.ref a] H Q E := by
  have ef := fTw_map (f := fun k => keyT ([V.int (k / 3), .int k].map nkOf)) (inj_pair (ns := ns))
  have lf2 : ∀ k : Int, ∀ z ∈ [V.int (k / 3), .int k], Lf z := fun k z hz => by
    rcases List.mem_cons.mp hz with rfl | hz
    · exact .inl ⟨_, rfl⟩
    · rw [List.mem_singleton.mp hz]
      exact .inl ⟨_, rfl⟩
  refine ⟨a, ps.map V.ref, ns.map fun k => keyT ([V.int (k / 3), .int k].map nkOf), rfl, hS, by rw [List.length_map, hpl]; exact hl, paired_idx (by rw [List.length_map, List.length_map, hpl]) (fun j x y hx hy => ?_), fun e H' s => ?_, fun i y e hy => ⟨fun lf H' s => ?_, fun b ys eb hb lfy hk H' p s np ep => ?_⟩⟩
  · obtain ⟨p, rfl, h1⟩ := get_map hx
    obtain ⟨k, rfl, h2⟩ := get_map hy
    exact .inr ⟨p, _, rfl, hp j p k h1 h2, lf2 k, (by show 2 ≤ 100; decide), rfl⟩
  · rw [ef] at e
    exact q H' _ s (.inl ⟨e, rfl⟩)
  · obtain ⟨p, rfl, h1⟩ := get_map hy
    rcases lf with ⟨x, h⟩ | ⟨x, h⟩ <;> cases h
  · rw [ef] at e
    obtain ⟨p', e', h1⟩ := get_map hy
    rw [eb] at e'
    cases e'
    obtain ⟨k, hk1, _⟩ := fTw_inv e
    have ey : ys = [V.int (k / 3), .int k] := by
      rw [List.getElem?_map, hk1] at hk
      exact key_inj _ _ lfy (lf2 k) (Option.some.inj hk).symm
    rw [ey] at ep
    exact q H' _ s (.inr ⟨i, k, p, e, hk1, rfl, SqT.of ep⟩)
theorem pick_pair {H : Hp} {ps : List Addr} {ns : List Int} (hpl : ps.length = ns.length) (hp : ∀ (j : Nat) p k, ps[j]? = some p → ns[j]? = some k → H p = some (.tup [.int (k / 3), .int k])) : PvA K H ns (pickV (ps.map V.ref) (fTw ns)) := by
  cases e : fTw ns with
  | none => exact .inl ⟨e, rfl⟩
  | some i =>
    obtain ⟨k, hk, _⟩ := fTw_inv e
    have li : i < ps.length := by
      rw [hpl]
      exact (List.getElem?_eq_some_iff.mp hk).1
    have h1 : ps[i]? = some ps[i] := List.getElem?_eq_getElem li
    have h2 : (ps.map V.ref)[i]? = some (.ref ps[i]) := by
      rw [List.getElem?_map, h1]
      rfl
    exact .inr ⟨i, k, ps[i], e, hk, pickV_at h2, SqT.of (hp i _ k h1 hk)⟩
def sA (ns : List Int) : Str := match fTw ns with
  | none => "None"
  | some i => match ns[i]? with
    | some k => (pairD k).shown
    | none => ""
theorem neP {H : Hp} {ns : List Int} {v x : V} {Q : VK} (hv : PvA K H ns v) (hx : PvA K H ns x) (q : Q (.bl false) H) : rNeD K v x H Q := by
  rcases hv with ⟨e, rfl⟩ | ⟨i, k, p, h1, h2, rfl, h4⟩
  · rcases hx with ⟨_, rfl⟩ | ⟨i, k, p, h1, _⟩
    · exact ⟨.none, .none, .non, .non, rfl, rfl, q⟩
    · rw [e] at h1
      cases h1
  · rcases hx with ⟨e, rfl⟩ | ⟨i', k', p', h1', h2', rfl, h4'⟩
    · rw [e] at h1
      cases h1
    · rw [h1] at h1'
      cases h1'
      rw [h2] at h2'
      cases h2'
      refine ⟨pairD k, pairD k, .tup h4 (.cons (.int _) (.cons (.int _) .nil)), .tup h4' (.cons (.int _) (.cons (.int _) .nil)), pairD_shaped k, pairD_shaped k, ?_⟩
      rw [pairD_eqv]
      exact q
theorem reprP {H : Hp} {ns : List Int} {v : V} {Q : VK} (hb : ∀ k ∈ ns, 0 ≤ k ∧ k < 7) (hv : PvA K H ns v) (q : Q (.str (sA ns)) H) : rRepr K [v] H Q := by
  rcases hv with ⟨e, rfl⟩ | ⟨i, k, p, h1, h2, rfl, h4⟩
  · unfold sA at q
    rw [e] at q
    exact .inl ⟨rfl, q⟩
  · unfold sA at q
    rw [h1] at q
    simp only [h2] at q
    obtain ⟨b, hb7, rfl⟩ := nat7 hb (List.mem_of_getElem? h2)
    exact .inr ⟨p, pairD b, rfl, .tup h4 (.cons (.int _) (.cons (.int _) .nil)), pair_sh b hb7, rfl, (by show 1 ≤ 50; decide), le_line (by have := pair_len b hb7; omega), q⟩
theorem ok_twiceR {f : Addr} {fd : FuncData} (F : Fun K "_law_twice_right" "_law_twice_right" sLawTwiceRight f fd) (B : NB mg) (D_LawDip : Dn P w K mg base "_law_dip" 1 ["urn", "many"] spDip)
    (D_FirstTwice : Dn P w K mg base "first_twice" 3 ["values"] (spTwice K)) (K0_FirstTwice_values : DnK P w K mg base "first_twice" 3 ["values"] (spTwice K) 0 ["values"]) : FnOkG P w K mg base 5 f fd ["urn"] spOk := by
  refine okG F scLawTwiceRight (fun vs H Q E h => ?_) (fun cdv A outer s H vs Q E hG hr h => ?_)
  · obtain ⟨u, c, n, rfl, _⟩ := h
    rfl
  · obtain ⟨u, c, n, rfl, hn, hU, q⟩ := h
    refine ⟨_, (pss_cons (ps_set (i := 1) scLawTwiceRight.nd rfl (Or.inr rfl) (pe_lc (own := [("turn", 6)]) (g := gName 6) (tt := tYes) rfl scLawTwiceRight.nd (pi_range1 rfl B.z_range (pa_cons (pe_fn D_LawDip (hr.mono (by decide)) (by rfl) (pa_cons (pv 0) (pa_cons pe_int pa_nil))) pa_nil)) (blkOk_by (N := n_sLawTwiceRight) (sc := (defScope sLawTwiceRight)) (by decide +kernel)) (fun _ _ _ _ _ => (pg_name (i := 6) scLawTwiceRight.nd rfl (Or.inl rfl))) (fun _ _ _ _ _ => pts_nil) (fun _ _ _ _ _ => (pe_fn D_LawDip (hr.mono (by decide)) (by rfl) (pa_cons (pv 0) (pa_cons pe_int pa_nil))))))
      (pss_cons (ps_par (i := 2) (j := 3) (by rfl) scLawTwiceRight.nd rfl rfl (by decide) rfl rfl (pa_cons (pe_lc (own := [("number", 7)]) (g := gName 7) (tt := tYes) rfl scLawTwiceRight.nd (pi_list (pv 1)) (blkOk_by (N := n_sLawTwiceRight) (sc := (defScope sLawTwiceRight)) (by decide +kernel)) (fun _ _ _ _ _ => (pg_name (i := 7) scLawTwiceRight.nd rfl (Or.inl rfl))) (fun _ _ _ _ _ => pts_nil) (fun _ _ _ _ _ => (pe_op op_add_str pe_str (pe_callTy call_str_int (by rfl) B.z_str (by decide +kernel) (pa_cons (pv 7) pa_nil))))) (pa_cons (pe_lc (own := [("number", 7)]) (g := gName 7) (tt := tYes) rfl scLawTwiceRight.nd (pi_list (pv 1)) (blkOk_by (N := n_sLawTwiceRight) (sc := (defScope sLawTwiceRight)) (by decide +kernel)) (fun _ _ _ _ _ => (pg_name (i := 7) scLawTwiceRight.nd rfl (Or.inl rfl))) (fun _ _ _ _ _ => pts_nil) (fun _ _ _ _ _ => (pe_tup (pa_cons (pe_op op_fdivW (pv 7) pe_int) (pa_cons (pv 7) pa_nil))))) pa_nil)) (by rfl))
      (pss_cons (ps_setLc (i := 4) (own := [("at", 8), ("number", 7)]) rfl scLawTwiceRight.nd rfl rfl (sw_true rfl rfl rfl (by decide +kernel)) (pi_enum (by rfl) B.z_enumerate (pa_cons (pv 1) pa_nil)) (blkOk_by (N := n_sLawTwiceRight) (sc := (defScope sLawTwiceRight)) (by decide +kernel)) (fun _ _ _ _ _ => (pg_tupK (K := K) (n := 2) rfl rfl (pgs_cons (pg_name (i := 8) scLawTwiceRight.nd rfl (Or.inl rfl)) (pgs_cons (pg_name (i := 7) scLawTwiceRight.nd rfl (Or.inl rfl)) pgs_nil)))) (fun _ _ _ _ _ => (pts_one (pt_cmpR (op_in_seqK (K := K) rfl) (pv 7) (pe_slice (sl_listK (K := K) rfl) (pv 1) po_none (po_some (pv 8))) (by rfl)))) (fun _ _ _ _ _ => (pv 8)))
      (pss_cons (ps_if (PW.pt (pw_or (pt_cmpR op_ne (pe_fnK0 K0_FirstTwice_values (hr.mono (by decide)) (by rfl) (pk_cons (pv 1) pk_nil)) (pe_ifExp (pt_cmpR (op_neD hr.units) (pv 4) (pe_lst pa_nil) (nomark _)) (pe_ix ix_list (pv 1) (pe_ix ix_list (pv 4) pe_int (fun _ _ => rfl)) (fun _ _ => rfl)) pe_non) (nomark _)) (pw_or1 (pt_cmpR (op_neD hr.units) (pe_fn D_FirstTwice (hr.mono (by decide)) (by rfl) (pa_cons (pv 3) pa_nil)) (pe_ifExp (pt_cmpR (op_neD hr.units) (pv 4) (pe_lst pa_nil) (nomark _)) (pe_ix ix_list (pv 3) (pe_ix ix_list (pv 4) pe_int (fun _ _ => rfl)) (fun _ _ => rfl)) pe_non) (nomark _)))))
        (pss_one (ps_ret pe_bl))
        pss_nil)
      (pss_cons (ps_setLc (i := 5) (own := [("pair", 9)]) (g := gName 9) (tt := tYes) rfl scLawTwiceRight.nd rfl rfl (sw_true rfl rfl rfl (by decide +kernel)) (pi_list (pv 3)) (blkOk_by (N := n_sLawTwiceRight) (sc := (defScope sLawTwiceRight)) (by decide +kernel)) (fun _ _ _ _ _ => (pg_name (i := 9) scLawTwiceRight.nd rfl (Or.inl rfl))) (fun _ _ _ _ _ => pts_nil) (fun _ _ _ _ _ => (pe_ifExp (pt_cmpR op_eq (pe_fn D_LawDip (hr.mono (by decide)) (by rfl) (pa_cons (pv 0) (pa_cons pe_int pa_nil))) pe_int (nomark _)) (pe_callTy (call_list_ofK (K := K) rfl) (by rfl) B.z_list (by decide +kernel) (pa_cons (pv 9) pa_nil)) (pv 9))))
      (pss_cons (ps_if (pt_cmpR op_ne (pe_callB (call_reprD hG hr.units) (by rfl) B.z_repr (by decide +kernel) (pa_cons (pe_fn D_FirstTwice (hr.mono (by decide)) (by rfl) (pa_cons (pv 5) pa_nil)) pa_nil)) (pe_callB (call_reprD hG hr.units) (by rfl) B.z_repr (by decide +kernel) (pa_cons (pe_ifExp (pt_cmpR (op_neD hr.units) (pv 4) (pe_lst pa_nil) (nomark _)) (pe_ix ix_list (pv 3) (pe_ix ix_list (pv 4) pe_int (fun _ _ => rfl)) (fun _ _ => rfl)) pe_non) pa_nil)) (nomark _))
        (pss_one (ps_ret pe_bl))
        pss_nil)
      (pss_one (ps_ret (pe_and (pe_cmpR op_eq (pe_fn D_FirstTwice (hr.mono (by decide)) (by rfl) (pa_cons (pe_callTy call_tuple_of (by rfl) B.z_tuple (by decide +kernel) (pa_cons (pv 2) pa_nil)) pa_nil)) (pe_ifExp (pt_cmpR (op_neD hr.units) (pv 4) (pe_lst pa_nil) (nomark _)) (pe_ix ix_list (pv 2) (pe_ix ix_list (pv 4) pe_int (fun _ _ => rfl)) (fun _ _ => rfl)) pe_non) (nomark _)) (pe_one (pe_cmpR op_isN (pe_fn D_FirstTwice (hr.mono (by decide)) (by rfl) (pa_cons (pe_lst pa_nil) pa_nil)) pe_non (nomark _)))))))))))), ?_⟩
    -- numbers
    refine ⟨_, rfl, u, c, 8, n, rfl, by decide, by decide, by omega, hU, fun H1 k g1 U1 k0 k8 => ⟨k, rfl, by omega, by omega, fun D nD => ?_⟩⟩
    have uD := urn_ne U1 nD
    have cD := urn_neC U1 nD
    have bD : ∀ b o, H1 b = some o → b ≠ D := fun b o e => ne_of_none e nD
    refine lc_range (lo := 0) (n := k.toNat) (fun i H' => ∃ ns : List Int, Gr u H1 H' ∧ Urn u c (n + 1 + i) H' ∧ H' D = some (.lst (ns.map V.int)) ∧ ns.length = i ∧ ∀ r ∈ ns, 0 ≤ r ∧ r < 7) ⟨[], same_gr (same_new nD), U1.same (same_new nD), upd_same, rfl, fun r hr => absurd hr List.not_mem_nil⟩ (fun i H' hi h => ?_) (fun H' h => ?_)
    · obtain ⟨ns, g, U, eD, el, es⟩ := h
      refine ⟨rfl, tyOk ⟨_, rfl, u, c, 7, _, rfl, by decide, by decide, by omega, U, fun H'' r g' U' r0 r2 => ⟨_, g' D _ uD eD, ?_, ns ++ [r], fun b o nb e => ?_, U'.upd uD cD, ?_, ?_, ?_⟩⟩⟩
      · rw [List.length_map]
        exact lt_line (by omega)
      · rw [upd_ne (bD b o e)]
        exact g' b o nb (g b o nb e)
      · rw [upd_same, List.map_append]
        rfl
      · rw [List.length_append, el]
        rfl
      · intro z hz
        rcases List.mem_append.mp hz with hz | hz
        · exact es z hz
        · rw [List.mem_singleton.mp hz]
          exact ⟨r0, r2⟩
    · obtain ⟨ns, g, U, eD, el, es⟩ := h
      have G2 := g1.trans g
      have ln : ns.length ≤ 7 := by omega
      clear g1 g U1 nD bD
      have lnm : (ns.map V.int).length = ns.length := List.length_map _
      -- texts
      refine ⟨_, rfl, D, rfl, ⟨_, SqL.of eD⟩, fun Dt nDt => lc_list (K := K) (a := D) (xs := ns.map V.int) (fun i H2 => Same H' H2 ∧ H2 Dt = some (.lst ((ns.take i).map fun k => V.str (txt k)))) ⟨same_new nDt, upd_same⟩ (fun i H2 _ h => SqL.of (h.1 _ _ eD)) (fun i y H2 hy h => ?_) (fun H2 h => ?_)⟩
      · obtain ⟨d, rfl, hd⟩ := get_map hy
        obtain ⟨b, hb7, rfl⟩ := nat7 es (List.mem_of_getElem? hd)
        have hlog : (b : Int).natAbs.log2 < 1920 := by
          by_cases z : (b : Int).natAbs = 0
          · rw [z]
            decide
          · have := (Nat.log2_lt (n := (b : Int).natAbs) (k := 3) z).mpr (by omega)
            omega
        refine ⟨rfl, tyOk ⟨_, rfl, _, rfl, hlog, _, _, rfl, rfl, ?_, _, h.2, ?_, fun b' o e => ?_, ?_⟩⟩
        · have := txt_len b hb7
          have x1 : ("x" : Str).length = 1 := by decide +kernel
          rw [x1]
          exact le_line (by omega)
        · rw [List.length_map, List.length_take]
          exact lt_line (by omega)
        · rw [upd_ne (ne_of_none e nDt)]
          exact h.1 _ _ e
        · rw [upd_same, take_snoc hd, List.map_append]
          rfl
      rw [lnm, List.take_length] at h
      obtain ⟨s2, eDt⟩ := h
      have uDt := urn_ne U nDt
      have eD2 := s2 _ _ eD
      -- pairs
      refine ⟨_, rfl, D, rfl, ⟨_, SqL.of eD2⟩, fun Dp nDp => lc_list (K := K) (a := D) (xs := ns.map V.int) (fun i H3 => Same H2 H3 ∧ ∃ ps : List Addr, H3 Dp = some (.lst (ps.map V.ref)) ∧ ps.length = i ∧ ∀ (j : Nat) p k, ps[j]? = some p → ns[j]? = some k → H3 p = some (.tup [.int (k / 3), .int k])) ⟨same_new nDp, [], upd_same, rfl, fun j p k hp => by simp at hp⟩ (fun i H3 _ h => SqL.of (h.1 _ _ eD2)) (fun i y H3 hy h => ?_) (fun H3 h => ?_)⟩
      · obtain ⟨s3, ps, eDp, lps, hps⟩ := h
        obtain ⟨d, rfl, hd⟩ := get_map hy
        have hi : i < ns.length := (List.getElem?_eq_some_iff.mp hd).1
        refine ⟨rfl, tyOk ⟨_, rfl, _, _, rfl, rfl, divW (by decide) (by decide), _, rfl, two_le, fun p np => ⟨_, same_new np _ _ eDp, ?_, fun b' o e => ?_, ps ++ [p], ?_, ?_, fun j p' k hp hk => ?_⟩⟩⟩
        · rw [List.length_map]
          exact lt_line (by omega)
        · rw [upd_ne (ne_of_none e nDp)]
          exact same_new np _ _ (s3 _ _ e)
        · rw [upd_same, List.map_append]
          rfl
        · rw [List.length_append, lps]
          rfl
        · have eold : ∀ p', (upd H3 p (.tup [.int (d / 3), .int d])) p' = some (.tup [.int (k / 3), .int k]) → (upd (upd H3 p (.tup [.int (d / 3), .int d])) Dp (.lst (ps.map V.ref ++ [.ref p]))) p' = some (.tup [.int (k / 3), .int k]) := fun p' e => by
            rw [upd_ne (fun z => ?_)]
            · exact e
            · rw [z, same_new np _ _ eDp] at e
              cases e
          rcases Nat.lt_or_ge j ps.length with hj | hj
          · rw [List.getElem?_append_left hj] at hp
            exact eold p' (same_new np _ _ (hps j p' k hp hk))
          · rw [List.getElem?_append_right hj] at hp
            have hj0 : j - ps.length = 0 := by
              have := (List.getElem?_eq_some_iff.mp hp).1
              rw [List.length_singleton] at this
              omega
            rw [hj0] at hp
            cases hp
            have ej : j = i := by omega
            rw [ej, hd] at hk
            cases hk
            exact eold p upd_same
      rw [lnm] at h
      obtain ⟨s3, ps, eDp, lps, hps⟩ := h
      have uDp := urn_ne (U.same s2) nDp
      have eD3 := s3 _ _ eD2
      have eDt3 := s3 _ _ eDt
      refine ⟨_, _, rfl, ?_⟩
      -- due
      refine ⟨_, rfl, D, _, rfl, SqL.of eD3, fun Dd nDd => lc_it walk_enum (fun i H4 => Same H3 H4 ∧ H4 Dd = some (.lst ((dueL ns i).map fun (j : Nat) => V.int (j : Int)))) ⟨same_new nDd, upd_same⟩ (fun i H4 _ h => SqL.of (h.1 _ _ eD3)) (fun i y H4 H5 hi h hy => ?_) (fun H4 h => ?_)⟩
      · obtain ⟨s4, eDd⟩ := h
        obtain ⟨T, xi, xa, rfl, nT, rfl, exi, exa⟩ := hy
        have s5 := same_new (o := .tup [xi, xa]) nT
        obtain rfl : xi = .int (i : Nat) := (Option.some.inj exi).symm
        have exa : (ns.map V.int)[i]? = some xa := exa
        obtain ⟨d, rfl, hd⟩ := get_map exa
        have eT : (upd H4 T (.tup [.int (i : Nat), .int d])) T = some (.tup [.int (i : Nat), .int d]) := upd_same
        have s6 := s4.trans s5
        have eDd := s5 _ _ eDd
        generalize upd H4 T (.tup [.int (i : Nat), .int d]) = H5 at s5 eT s6 eDd
        have hi : i < ns.length := by
          rw [← lnm]
          exact hi
        refine ⟨T, _, rfl, SqT.of eT, rfl, _, _, rfl, _, _, rfl, rfl, rfl, ?_⟩
        refine ⟨_, rfl, _, rfl, _, rfl, _, rfl, D, _, rfl, SqL.of (s6 _ _ eD3), fun p np => ?_⟩
        rw [cut_take ns (Nat.le_of_lt hi)]
        have s7 := same_new (o := .lst ((ns.take i).map V.int)) np
        refine ⟨p, _, rfl, .inl (SqL.of upd_same), rfl, ?_, _, rfl, ?_⟩
        · rw [List.all_map, List.all_eq_true]
          intro x hx
          rfl
        · show if inV (.int d) ((ns.take i).map V.int) = true then _ else _
          rw [in_ints, mem_some hd]
          have s8 := s6.trans s7
          have eDd := s7 _ _ eDd
          refine ite2 (fun e => ?_) (fun e => ?_)
          · refine ⟨_, rfl, _, eDd, ?_, fun b' o e' => ?_, ?_⟩
            · rw [List.length_map]
              have := due_len ns i
              exact lt_line (by omega)
            · rw [upd_ne (ne_of_none e' nDd)]
              exact s8 _ _ e'
            · rw [upd_same, due_succ, if_pos (of_decide_eq_true e), List.map_append]
              rfl
          · refine ⟨s8, ?_⟩
            rw [due_succ, if_neg (fun z => e (decide_eq_true z)), List.append_nil]
            exact eDd
      rw [lnm] at h
      obtain ⟨s4, eDd⟩ := h
      have uDd := urn_ne (U.same (s2.trans s3)) nDd
      have eDd : H4 Dd = some (.lst ((dueI ns).map V.int)) := by
        rw [eDd]
        unfold dueI
        rw [List.map_map]
        rfl
      have eD4 := s4 _ _ eD3
      have eDt4 := s4 _ _ eDt3
      have eDp4 := s4 _ _ eDp
      have hps4 : ∀ (j : Nat) p k, ps[j]? = some p → ns[j]? = some k → H4 p = some (.tup [.int (k / 3), .int k]) := fun j p k h1 h2 => s4 _ _ (hps j p k h1 h2)
      have S4 := s2.trans (s3.trans s4)
      have G4 := G2.trans (same_gr S4)
      have U4 := U.same S4
      clear hps eDp eDt3 eDt eD3 eD2 s2 s3 s4 S4 nDt nDp nDd eD G2
      have lpm : (ps.map V.ref).length = ns.length := by rw [List.length_map, lps]
      have lfi : ∀ k : Int, Lf (V.int k) := fun k => .inl ⟨k, rfl⟩
      have lft : ∀ k : Int, Lf (V.str (txt k)) := fun k => .inr ⟨_, rfl⟩
      -- the numbers
      refine ⟨_, rfl, rfl, rfl, ?_⟩
      refine twice_leaf (f := V.int) (.inl (SqL.of eD4)) lfi inj_num (by omega) (fun H5 s5 => ?_)
      refine pick (j := 1) (a := D) (Dd := Dd) (xs := ns.map V.int) rfl rfl (s5 _ _ eDd) (s5 _ _ eD4) lnm (fun H6 s6 => ⟨scal_pick lfi _, _, rfl, ?_⟩)
      rw [decide_eq_true rfl]
      refine iteF ?_
      -- the pairs
      have s56 := s5.trans s6
      refine ⟨_, rfl, ?_⟩
      dsimp only [tNil]
      refine twice_pair (.inl (SqL.of (s56 _ _ eDp4))) lps (fun j p k h1 h2 => .inr (SqT.of (s56 _ _ (hps4 j p k h1 h2)))) (by omega) (fun H7 v7 s7 hv => ?_)
      have s57 := s56.trans s7
      refine pick (j := 3) (a := Dp) (Dd := Dd) (xs := ps.map V.ref) rfl rfl (s57 _ _ eDd) (s57 _ _ eDp4) lpm (fun H8 s8 => ?_)
      have s58 := s57.trans s8
      refine neP (hv.same s8) (pick_pair lps fun j p k h1 h2 => s58 _ _ (hps4 j p k h1 h2)) ⟨_, rfl, iteF ?_⟩
      have eD8 := s58 _ _ eD4
      have eDt8 := s58 _ _ eDt4
      have eDp8 := s58 _ _ eDp4
      have eDd8 := s58 _ _ eDd
      have hps8 : ∀ (j : Nat) p k, ps[j]? = some p → ns[j]? = some k → H8 p = some (.tup [.int (k / 3), .int k]) := fun j p k h1 h2 => s58 _ _ (hps4 j p k h1 h2)
      have G8 := G4.trans (same_gr s58)
      have U8 : Urn u c (n + 8) H8 := (U4.same s58).mono (by omega)
      clear s5 s6 s56 s7 s57 s8 s58 hv hps4 eD4 eDt4 eDp4 eDd G4 U4 U
      have nu8 : ∀ {p : Addr} {o : HO}, H8 p = some o → (∀ c k l, o ≠ .lst [.ref c, .int k, .int l]) → p ≠ u := fun {p o} e h z => by
        obtain ⟨ds, k, l, hh, _⟩ := U8
        rw [z, hh.1] at e
        exact h _ _ _ (Option.some.inj e).symm
      -- lists for some of the pairs
      refine ⟨_, rfl, Dp, rfl, ⟨_, SqL.of eDp8⟩, fun Dl nDl => ?_⟩
      have uDl := urn_ne U8 nDl
      have cDl := urn_neC U8 nDl
      have oldl : ∀ {b : Addr} {o : HO}, H8 b = some o → b ≠ Dl := fun {b o} e => ne_of_none e nDl
      have lpm' : ps.length = ns.length := lps
      refine lc_list (K := K) (a := Dp) (xs := ps.map V.ref) (fun i H' => ∃ qs : List Addr, Gr u H8 H' ∧ Urn u c (n + 8 + i) H' ∧ H' Dl = some (.lst (qs.map V.ref)) ∧ qs.length = i ∧ ∀ (j : Nat) q k, qs[j]? = some q → ns[j]? = some k → (H' q = some (.lst [.int (k / 3), .int k]) ∨ H' q = some (.tup [.int (k / 3), .int k])) ∧ q ≠ u ∧ q ≠ Dl)
        ⟨[], same_gr (same_new nDl), U8.same (same_new nDl), upd_same, rfl, fun j p k hp => by simp at hp⟩ (fun i H' _ h => by
          obtain ⟨qs, g, _⟩ := h
          exact SqL.of (g _ _ uDp eDp8)) (fun i y H' hy h => ?_) (fun H' h => ?_)
      · obtain ⟨qs, g, U, eDl, lqs, hqs⟩ := h
        obtain ⟨p, rfl, hp⟩ := get_map hy
        have hi : i < ns.length := by
          rw [← lpm']
          exact (List.getElem?_eq_some_iff.mp hp).1
        obtain ⟨k1, hk1⟩ : ∃ k1, ns[i]? = some k1 := ⟨_, List.getElem?_eq_getElem hi⟩
        have ep8 := hps8 i p k1 hp hk1
        have up := nu8 ep8 (fun c k l z => by cases z)
        have pl := oldl ep8
        refine ⟨rfl, tyOk ⟨_, rfl, u, c, 2, _, rfl, by decide, by decide, by omega, U, fun H'' r g' U' r0 r2 => ⟨rfl, _, rfl, ?_⟩⟩⟩
        have fin : ∀ (Hn : Hp) (q : Addr), Same H'' Hn → (Hn q = some (.lst [.int (k1 / 3), .int k1]) ∨ Hn q = some (.tup [.int (k1 / 3), .int k1])) → q ≠ u → q ≠ Dl →
            ∃ acc, Hn Dl = some (.lst acc) ∧ acc.length < sizeLine ∧ ∃ qs : List Addr, Gr u H8 (upd Hn Dl (.lst (acc ++ [.ref q]))) ∧ Urn u c (n + 8 + (i + 1)) (upd Hn Dl (.lst (acc ++ [.ref q]))) ∧ (upd Hn Dl (.lst (acc ++ [.ref q]))) Dl = some (.lst (qs.map V.ref)) ∧ qs.length = i + 1 ∧
              ∀ (j : Nat) q' k, qs[j]? = some q' → ns[j]? = some k → ((upd Hn Dl (.lst (acc ++ [.ref q]))) q' = some (.lst [.int (k / 3), .int k]) ∨ (upd Hn Dl (.lst (acc ++ [.ref q]))) q' = some (.tup [.int (k / 3), .int k])) ∧ q' ≠ u ∧ q' ≠ Dl := by
          intro Hn q sn hq uq ql
          refine ⟨_, sn _ _ (g' Dl _ uDl eDl), ?_, qs ++ [q], fun b o nb e => ?_, (U'.same sn).upd uDl cDl, ?_, ?_, fun j q' k hj hk => ?_⟩
          · rw [List.length_map]
            exact lt_line (by omega)
          · rw [upd_ne (oldl e)]
            exact sn _ _ (g' b o nb (g b o nb e))
          · rw [upd_same, List.map_append]
            rfl
          · rw [List.length_append, lqs]
            rfl
          · rcases Nat.lt_or_ge j qs.length with hjl | hjl
            · rw [List.getElem?_append_left hjl] at hj
              obtain ⟨h1, h2, h3⟩ := hqs j q' k hj hk
              refine ⟨?_, h2, h3⟩
              rw [upd_ne h3]
              exact h1.imp (fun z => sn _ _ (g' _ _ h2 z)) (fun z => sn _ _ (g' _ _ h2 z))
            · rw [List.getElem?_append_right hjl] at hj
              have hj0 : j - qs.length = 0 := by
                have := (List.getElem?_eq_some_iff.mp hj).1
                rw [List.length_singleton] at this
                omega
              rw [hj0] at hj
              cases hj
              have ej : j = i := by omega
              rw [ej, hk1] at hk
              cases hk
              refine ⟨?_, uq, ql⟩
              rw [upd_ne ql]
              exact hq
        have ep2 := g' _ _ up (g _ _ up ep8)
        refine ite2 (fun e => ?_) (fun e => ?_)
        · refine ⟨_, rfl, p, _, rfl, .inr (SqT.of ep2), fun l nl => ?_⟩
          exact fin _ l (same_new nl) (.inl upd_same) (urn_ne U' nl) (fun z => by
            rw [z, g' Dl _ uDl eDl] at nl
            cases nl)
        · exact ⟨_, rfl, fin _ p (Same.refl _) (.inr ep2) up pl⟩
      obtain ⟨qs, g, U9, eDl, lqs, hqs⟩ := h
      rw [lpm] at U9 lqs
      have eDp9 := g _ _ uDp eDp8
      have eDd9 := g _ _ uDd eDd8
      have eDt9 := g _ _ uDt eDt8
      have hps9 : ∀ (j : Nat) p k, ps[j]? = some p → ns[j]? = some k → H' p = some (.tup [.int (k / 3), .int k]) := fun j p k h1 h2 => g _ _ (nu8 (hps8 j p k h1 h2) (fun c k l z => by cases z)) (hps8 j p k h1 h2)
      have G9 := G8.trans g
      clear g G8 U8 nDl oldl nu8 hps8 eD8 eDp8 eDd8 eDt8
      -- repr
      refine ⟨_, rfl, ?_⟩
      dsimp only [tNil]
      refine twice_pair (.inl (SqL.of eDl)) lqs (fun j q k h1 h2 => (hqs j q k h1 h2).1.elim (fun z => .inl (SqL.of z)) fun z => .inr (SqT.of z)) (by omega) (fun H5 v5 s5 hv => ?_)
      refine reprP es hv ?_
      dsimp only [tCB, tCons, tNil]
      refine pick (j := 3) (a := Dp) (Dd := Dd) (xs := ps.map V.ref) rfl rfl (s5 _ _ eDd9) (s5 _ _ eDp9) lpm (fun H6 s6 => ?_)
      have s56 := s5.trans s6
      refine reprP es (pick_pair lps fun j p k h1 h2 => s56 _ _ (hps9 j p k h1 h2)) ⟨rfl, _, rfl, ?_⟩
      rw [decide_eq_true rfl]
      refine iteF ?_
      -- the texts
      have eDt6 := s56 _ _ eDt9
      have eDd6 := s56 _ _ eDd9
      refine ⟨_, rfl, Dt, _, rfl, .inl ⟨SqL.of eDt6, fun t nt => ?_⟩⟩
      dsimp only [tNil]
      have s7 := same_new (o := .tup (ns.map fun k => V.str (txt k))) nt
      refine twice_leaf (f := fun k => V.str (txt k)) (.inr (SqT.of upd_same)) lft (inj_txt es) (by omega) (fun H8' s8 => ?_)
      have s78 := s7.trans s8
      refine pick (j := 2) (a := Dt) (Dd := Dd) (xs := ns.map fun k => V.str (txt k)) rfl rfl (s78 _ _ eDd6) (s78 _ _ eDt6) (List.length_map _) (fun H9' s9 => ⟨scal_pick lft _, _, rfl, ?_⟩)
      rw [decide_eq_true rfl]
      refine iteT ⟨Nat.zero_le _, fun e ne => ?_⟩
      refine ⟨e, [], [], rfl, .inl (SqL.of upd_same), by decide, .nil, fun _ H10 s10 => ⟨rfl, ?_⟩, fun i y z => by cases z⟩
      have sZ := s56.trans (s78.trans (s9.trans ((same_new (o := .lst []) ne).trans s10)))
      exact q H10 (G9.trans (same_gr sZ)) ((U9.same sZ).mono (by omega))
end
end K00
/-! The law. -/
namespace K00
open PySem PySem.Spec PyProof.Rows L2 Kit
abbrev sLaw : Stmt := topS 46
abbrev n_sLaw : List Str := ["script", "urn", "turn", "one", "other"]
theorem scLaw : FnScope n_sLaw ["script"] (defScope sLaw) := ⟨rfl, rfl, rfl, by decide +kernel, rfl, by decide +kernel, by decide +kernel⟩

section
variable {P : Program} {w : World} {K : PySem.W.Frag} {mg : Str → Option Value} {base : Heap}
def spLaw (K : PySem.W.Frag) : Sp := fun vs H Q _ => ∃ (a : Addr) (ns : List Int), vs = [.ref a] ∧ SqL K H a (ns.map V.int) ∧ ns.length ≤ 63 ∧ ∀ H', Q (.bl true) H'
theorem ok_law {f : Addr} {fd : FuncData} (F : Fun K "law" "law" sLaw f fd) (B : NB mg) (D_LawUrn : Dn P w K mg base "_law_urn" 1 ["script"] (spUrn K)) (D_LawValue : Dn P w K mg base "_law_value" 3 ["urn"] spValue)
    (D_LawOneRight : Dn P w K mg base "_law_one_right" 4 ["one", "other"] (spPair K)) (D_LawTwoRight : Dn P w K mg base "_law_two_right" 3 ["one", "other"] (spPair K)) (D_LawIntegersRight : Dn P w K mg base "_law_integers_right" 5 ["urn"] spOk) (D_LawNamesRight : Dn P w K mg base "_law_names_right" 5 ["urn"] spOk)
    (D_LawTwiceRight : DnG P w K mg base "_law_twice_right" 5 ["urn"] spOk) : FnOkG P w K mg base 6 f fd ["script"] (spLaw K) := by
  refine okG F scLaw (fun vs H Q E h => ?_) (fun cdv A outer s H vs Q E hG hr h => ?_)
  · obtain ⟨a, ns, rfl, _⟩ := h
    rfl
  · obtain ⟨a, ns, rfl, hS, hl, q⟩ := h
    refine ⟨_, (pss_cons (ps_set (i := 1) scLaw.nd rfl (Or.inl rfl) (pe_fn D_LawUrn (hr.mono (by decide)) (by rfl) (pa_cons (pv 0) pa_nil)))
      (pss_cons (ps_for PassesOwn.never rfl (pi_range1 rfl B.z_range (pa_cons pe_int pa_nil)) (pg_name (i := 2) scLaw.nd rfl (Or.inl rfl))
      (pss_cons (ps_par (i := 3) (j := 4) (by rfl) scLaw.nd rfl rfl (by decide) rfl rfl (pa_cons (pe_fn D_LawValue (hr.mono (by decide)) (by rfl) (pa_cons (pv 1) pa_nil)) (pa_cons (pe_fn D_LawValue (hr.mono (by decide)) (by rfl) (pa_cons (pv 1) pa_nil)) pa_nil)) (by rfl))
      (pss_one (ps_if (PW.pt (pw_or (pt_not (pt_val (pe_fn D_LawOneRight (hr.mono (by decide)) (by rfl) (pa_cons (pv 3) (pa_cons (pv 4) pa_nil))))) (pw_or1 (pt_not (pt_val (pe_fn D_LawTwoRight (hr.mono (by decide)) (by rfl) (pa_cons (pv 3) (pa_cons (pv 4) pa_nil))))))))
        (pss_one (ps_ret pe_bl))
        pss_nil))))
      (pss_cons (ps_for PassesOwn.never rfl (pi_range1 rfl B.z_range (pa_cons pe_int pa_nil)) (pg_name (i := 2) scLaw.nd rfl (Or.inl rfl))
      (pss_one (ps_if (PW.pt (pw_or (pt_not (pt_val (pe_fn D_LawIntegersRight (hr.mono (by decide)) (by rfl) (pa_cons (pv 1) pa_nil)))) (pw_or (pt_not (pt_val (pe_fn D_LawNamesRight (hr.mono (by decide)) (by rfl) (pa_cons (pv 1) pa_nil)))) (pw_or1 (pt_not (pt_val (pe_fnG D_LawTwiceRight hG (hr.mono (by decide)) (by rfl) (pa_cons (pv 1) pa_nil))))))))
        (pss_one (ps_ret pe_bl))
        pss_nil)))
      (pss_one (ps_ret pe_bl))))), ?_⟩
    refine ⟨_, rfl, a, ns, rfl, hS, hl, fun H1 u c s1 n1 U1 => ?_⟩
    refine ⟨2, rfl, by decide, by decide, for_it (walk_range (lo := 0) (n := 2)) (fun i σ H' => (∃ v2 v3 v4, σ = [some (.ref a), some (.ref u), v2, v3, v4]) ∧ Urn u c (4 * i) H') ⟨⟨_, _, _, rfl⟩, U1⟩ (fun _ _ _ _ _ => trivial) (fun i y σ H2 H3 hi h hy => ?_) (fun σ H2 h => ?_)⟩
    · obtain ⟨⟨v2, v3, v4, rfl⟩, U⟩ := h
      obtain ⟨rfl, rfl⟩ := hy
      refine ⟨_, rfl, u, c, _, rfl, by omega, U, fun H4 x g4 U4 ox => ⟨_, rfl, u, c, _, rfl, by omega, U4, fun H5 y g5 U5 oy => ⟨_, _, rfl, ?_⟩⟩⟩
      have ox5 := ox.gr g5
      refine ⟨_, rfl, _, rfl, u, x, y, rfl, ox5, oy, fun H6 s6 => ⟨_, rfl, iteF ⟨_, rfl, _, rfl, u, x, y, rfl, ox5.gr (same_gr s6), oy.gr (same_gr s6), fun H7 s7 => ⟨_, rfl, iteF ?_⟩⟩⟩⟩
      exact ⟨⟨_, _, _, rfl⟩, (U5.same (s6.trans s7)).mono (by omega)⟩
    · obtain ⟨⟨v2, v3, v4, rfl⟩, U⟩ := h
      refine ⟨3, rfl, by decide, by decide, for_it (walk_range (lo := 0) (n := 3)) (fun i σ H' => (∃ v2 v3 v4, σ = [some (.ref a), some (.ref u), v2, v3, v4]) ∧ Urn u c (8 + 300 * i) H') ⟨⟨_, _, _, rfl⟩, U⟩ (fun _ _ _ _ _ => trivial) (fun i y σ H2 H3 hi h hy => ?_) (fun σ H2 h => ?_)⟩
      · obtain ⟨⟨v2, v3, v4, rfl⟩, U⟩ := h
        obtain ⟨rfl, rfl⟩ := hy
        refine ⟨_, rfl, u, c, _, rfl, by omega, U, fun H4 g4 U4 => ⟨_, rfl, iteF ⟨_, rfl, u, c, _, rfl, by omega, U4, fun H5 g5 U5 => ⟨_, rfl, iteF ⟨_, rfl, u, c, _, rfl, by omega, U5, fun H6 g6 U6 => ⟨_, rfl, iteF ?_⟩⟩⟩⟩⟩⟩
        exact ⟨⟨_, _, _, rfl⟩, U6.mono (by omega)⟩
      · exact q H2
end
end K00
/-! What the top has left, and the law over it. -/
namespace K00
open PySem PySem.Spec PyProof.Rows L2 Kit
/-- a def of the module -/
def Df (K : PySem.W.Frag) (x : Str) (st : Stmt) : Prop := ∃ (f : Addr) (fd : FuncData), Fun K x x st f fd ∧ PySem.W.nsIn K mainGlobals x = some (some (.ref f))
theorem df_mk {K : PySem.W.Frag} {x : Str} {st : Stmt} {f : Addr} {oc : Value} {od an : Option Addr} {sl : Array (Option Value)} {kV dc pm cd ct : Value} (a : PySem.W.nsIn K mainGlobals x = some (some (.ref f)))
    (l : K.lookup f = some ⟨oc, od, .func (PySem.W.fnOf x x (defArgs st) (defBody st) (defScope st) .none kV dc pm an cd ct), sl⟩) (c : PySem.W.codeIn K cd x = true) (k : PySem.W.keepIn K (.ref f) = true) : Df K x st := ⟨f, _, fun_mk l c k, a⟩
/-- where a class of the module stands -/
def cOf (K : PySem.W.Frag) (n : Str) : Addr := match PySem.W.nsIn K mainGlobals n with
  | some (some (.ref C)) => C
  | _ => 0
theorem cOf_eq {K : PySem.W.Frag} {n : Str} {C : Addr} (a : PySem.W.nsIn K mainGlobals n = some (some (.ref C))) : cOf K n = C := by
  unfold cOf
  rw [a]
theorem cOf_ns {K : PySem.W.Frag} {n : Str} {C : Addr} (a : PySem.W.nsIn K mainGlobals n = some (some (.ref C))) : PySem.W.nsIn K mainGlobals n = some (some (.ref (cOf K n))) := by
  rw [cOf_eq a]
  exact a
structure Ec0 (K : PySem.W.Frag) (n : Str) (C fI : Addr) (qual : Str) (st : Stmt) : Prop where
  a : PySem.W.nsIn K mainGlobals n = some (some (.ref C))
  ox : OexC K C
  ek : ExK K C
  iC : PySem.W.findIn K (.ref C) "__init__" = some (some (.ref fI))
  tI : PySem.W.typeIn K (.ref fI) = some (.type "function")
  fn : ∃ fd : FuncData, Fun K "__init__" qual st fI fd
theorem ec_mk {K : PySem.W.Frag} {n qual : Str} {st : Stmt} {C fI : Addr} {nm q : Str} {N : Addr} {bs bm : List Value} {sn : List Str} {sub : List Value} {ab : Bool} {col : Option Bool} {dd : Option Addr} {m0 m1 m2 m3 m5 : Option Value} {oc : Value} {od an : Option Addr} {sl : Array (Option Value)} {kV dc pm cd ct : Value}
    (aC : PySem.W.nsIn K mainGlobals n = some (some (.ref C))) (xL : K.lookup C = some (excClassObj nm q C N bs bm true sn sub ab col dd m0 m1 m2 m3 m5 "ValueError.__new__")) (hbm : PySem.HandSPX.refsVE bm = true)
    (sa : PySem.W.findIn K (.ref C) "__setattr__" = some (some (.builtin "object.__setattr__"))) (ga : PySem.W.findIn K (.ref C) "__getattribute__" = some (some (.builtin "BaseException.__getattribute__"))) (gg : PySem.W.findIn K (.ref C) "__getattr__" = some none)
    (a1 : PySem.W.findIn K (.ref C) "__init__" = some (some (.ref fI))) (t1 : PySem.W.typeIn K (.ref fI) = some (.type "function")) (l1 : K.lookup fI = some ⟨oc, od, .func (PySem.W.fnOf "__init__" qual (defArgs st) (defBody st) (defScope st) .none kV dc pm an cd ct), sl⟩) (c1 : PySem.W.codeIn K cd qual = true) (k1 : PySem.W.keepIn K (.ref fI) = true)
    (kC : PySem.W.keepIn K (.ref C) = true) (eC : PySem.W.subIn K (.ref C) (.type "BaseException") = some true) (tC : PySem.W.typeIn K (.ref C) = some (.type "type")) (hC : PySem.W.hasDictIn K C = true)
    (cc : PySem.W.findIn K (.ref C) "__class__" = some (some (.builtin "object.__class__"))) (hm : PySem.W.mroIn K C (.type "object") = some true) (hn : PySem.W.specialIn K (.builtin "object.__class__") "__get__" = some (some (.builtin "getset_descriptor.__get__"))) (ht : PySem.W.takesIn K (.builtin "object.__class__") = some true) : Ec0 K n C fI qual st where
  a := aC
  ox := ⟨⟨nm, q, N, bs, bm, sn, sub, ab, col, dd, m0, m1, m2, m3, m5, xL, hbm⟩, sa, eC, tC, kC⟩
  ek := ⟨⟨ga, gg, eC, hC⟩, by unfold PySem.W.clsIn; rw [xL] <;> rfl, cc, hn, ht, hm⟩
  iC := a1
  tI := t1
  fn := ⟨_, fun_mk l1 c1 k1⟩
def Ec1 (K : PySem.W.Frag) (n qual : Str) (st : Stmt) (f : Str) : Prop := ∃ fI, Ec0 K n (cOf K n) fI qual st ∧ PySem.W.findIn K (.ref (cOf K n)) f = some none
def Ec2 (K : PySem.W.Frag) (n qual : Str) (st : Stmt) (f g : Str) : Prop := ∃ fI, Ec0 K n (cOf K n) fI qual st ∧ PySem.W.findIn K (.ref (cOf K n)) f = some none ∧ PySem.W.findIn K (.ref (cOf K n)) g = some none
theorem ec1_mk {K : PySem.W.Frag} {n qual : Str} {st : Stmt} {f : Str} {C fI : Addr} (e : Ec0 K n C fI qual st) (no : PySem.W.findIn K (.ref C) f = some none) : Ec1 K n qual st f := by
  have z := cOf_eq e.a
  subst z
  exact ⟨fI, e, no⟩
theorem ec2_mk {K : PySem.W.Frag} {n qual : Str} {st : Stmt} {f g : Str} {C fI : Addr} (e : Ec0 K n C fI qual st) (no : PySem.W.findIn K (.ref C) f = some none) (no2 : PySem.W.findIn K (.ref C) g = some none) : Ec2 K n qual st f g := by
  have z := cOf_eq e.a
  subst z
  exact ⟨fI, e, no, no2⟩
def nmE : Nat → Str := fun i => (["BadTable", "BadNet", "BadTask", "BadFilling", "BadForm", "BadNumber", "BadPaper", "Misfit", "NoWire", "NoHole", "NoRow", "NoPlace", "Twice", "Impossible", "TooMany", "BadText", "Missing", "HoleError"] : List Str).getD i ""
def kitB (K : PySem.W.Frag) : Bool := (List.range 17).all fun i => ((List.range 18).all fun j => decide (PySem.W.kitOne K (.ref (cOf K (nmE i))) (.ref (cOf K (nmE j))) = some (subE i j))) && (decide (PySem.W.kitOne K (.ref (cOf K (nmE i))) (.type "ValueError") = some true) &&
  decide (PySem.W.kitAny K (.ref (cOf K (nmE i))) [.type "LookupError", .type "TypeError", .type "ArithmeticError", .type "AttributeError", .type "RuntimeError"] = some false))
theorem kitB_at {K : PySem.W.Frag} (h : kitB K = true) (i : Nat) (hi : i < 17) : (∀ j, j < 18 → PySem.W.kitOne K (.ref (cOf K (nmE i))) (.ref (cOf K (nmE j))) = some (subE i j)) ∧ PySem.W.kitOne K (.ref (cOf K (nmE i))) (.type "ValueError") = some true ∧
    PySem.W.kitAny K (.ref (cOf K (nmE i))) [.type "LookupError", .type "TypeError", .type "ArithmeticError", .type "AttributeError", .type "RuntimeError"] = some false := by
  have h1 := List.all_eq_true.mp h i (List.mem_range.mpr hi)
  rw [Bool.and_eq_true, Bool.and_eq_true] at h1
  exact ⟨fun j hj => of_decide_eq_true (List.all_eq_true.mp h1.1 j (List.mem_range.mpr hj)), of_decide_eq_true h1.2.1, of_decide_eq_true h1.2.2⟩
theorem vals_rev : ∀ {zs : List V} {ws : List Value}, Vals zs ws → Vals zs.reverse ws.reverse
  | _, _, .nil => .nil
  | _, _, .cons h r => by
    rw [List.reverse_cons, List.reverse_cons]
    exact (vals_rev r).append (.cons h .nil)
section
variable {P : Program} {w : World} {K : PySem.W.Frag} {mg : Str → Option Value} {base : Heap}
theorem e_BadTable {h : Heap} (X : K.In h) (G : h.Ns mainGlobals mg) (e : Ec1 K "BadTable" "BadTable.__init__" sInitBadTable "part") : E1 P w K mg base "BadTable" (cOf K "BadTable") "part" := by
  obtain ⟨fI, e, no⟩ := e
  obtain ⟨fd, F⟩ := e.fn
  exact ⟨PySem.W.mg_of X G e.a, e.ox, e.ek, no, fI, fd, e.iC, e.tI, ok_InitBadTable F, F.binds fun _ _ _ _ _ _ us hl => match us, hl with | [_, _], _ => rfl, F.kbn 1 ["part"] (fun {α} (vs zs : List α) => vs ++ zs) (fun r q => r.append q) fun _ _ _ _ _ _ us ws h1 h2 => match us, ws, h1, h2 with | [_], [_], _, _ => rfl⟩
theorem e_BadNet {h : Heap} (X : K.In h) (G : h.Ns mainGlobals mg) (e : Ec1 K "BadNet" "BadNet.__init__" sInitBadNet "part") : E1 P w K mg base "BadNet" (cOf K "BadNet") "part" := by
  obtain ⟨fI, e, no⟩ := e
  obtain ⟨fd, F⟩ := e.fn
  exact ⟨PySem.W.mg_of X G e.a, e.ox, e.ek, no, fI, fd, e.iC, e.tI, ok_InitBadNet F, F.binds fun _ _ _ _ _ _ us hl => match us, hl with | [_, _], _ => rfl, F.kbn 1 ["part"] (fun {α} (vs zs : List α) => vs ++ zs) (fun r q => r.append q) fun _ _ _ _ _ _ us ws h1 h2 => match us, ws, h1, h2 with | [_], [_], _, _ => rfl⟩
theorem e_BadTask {h : Heap} (X : K.In h) (G : h.Ns mainGlobals mg) (e : Ec1 K "BadTask" "BadTask.__init__" sInitBadTask "part") : E1 P w K mg base "BadTask" (cOf K "BadTask") "part" := by
  obtain ⟨fI, e, no⟩ := e
  obtain ⟨fd, F⟩ := e.fn
  exact ⟨PySem.W.mg_of X G e.a, e.ox, e.ek, no, fI, fd, e.iC, e.tI, ok_InitBadTask F, F.binds fun _ _ _ _ _ _ us hl => match us, hl with | [_, _], _ => rfl, F.kbn 1 ["part"] (fun {α} (vs zs : List α) => vs ++ zs) (fun r q => r.append q) fun _ _ _ _ _ _ us ws h1 h2 => match us, ws, h1, h2 with | [_], [_], _, _ => rfl⟩
theorem e_BadFilling {h : Heap} (X : K.In h) (G : h.Ns mainGlobals mg) (e : Ec1 K "BadFilling" "BadFilling.__init__" sInitBadFilling "part") : E1 P w K mg base "BadFilling" (cOf K "BadFilling") "part" := by
  obtain ⟨fI, e, no⟩ := e
  obtain ⟨fd, F⟩ := e.fn
  exact ⟨PySem.W.mg_of X G e.a, e.ox, e.ek, no, fI, fd, e.iC, e.tI, ok_InitBadFilling F, F.binds fun _ _ _ _ _ _ us hl => match us, hl with | [_, _], _ => rfl, F.kbn 1 ["part"] (fun {α} (vs zs : List α) => vs ++ zs) (fun r q => r.append q) fun _ _ _ _ _ _ us ws h1 h2 => match us, ws, h1, h2 with | [_], [_], _, _ => rfl⟩
theorem e_BadForm {h : Heap} (X : K.In h) (G : h.Ns mainGlobals mg) (e : Ec1 K "BadForm" "BadForm.__init__" sInitBadForm "part") : E1 P w K mg base "BadForm" (cOf K "BadForm") "part" := by
  obtain ⟨fI, e, no⟩ := e
  obtain ⟨fd, F⟩ := e.fn
  exact ⟨PySem.W.mg_of X G e.a, e.ox, e.ek, no, fI, fd, e.iC, e.tI, ok_InitBadForm F, F.binds fun _ _ _ _ _ _ us hl => match us, hl with | [_, _], _ => rfl, F.kbn 1 ["part"] (fun {α} (vs zs : List α) => vs ++ zs) (fun r q => r.append q) fun _ _ _ _ _ _ us ws h1 h2 => match us, ws, h1, h2 with | [_], [_], _, _ => rfl⟩
theorem e_BadNumber {h : Heap} (X : K.In h) (G : h.Ns mainGlobals mg) (e : Ec1 K "BadNumber" "BadNumber.__init__" sInitBadNumber "part") : E1 P w K mg base "BadNumber" (cOf K "BadNumber") "part" := by
  obtain ⟨fI, e, no⟩ := e
  obtain ⟨fd, F⟩ := e.fn
  exact ⟨PySem.W.mg_of X G e.a, e.ox, e.ek, no, fI, fd, e.iC, e.tI, ok_InitBadNumber F, F.binds fun _ _ _ _ _ _ us hl => match us, hl with | [_, _], _ => rfl, F.kbn 1 ["part"] (fun {α} (vs zs : List α) => vs ++ zs) (fun r q => r.append q) fun _ _ _ _ _ _ us ws h1 h2 => match us, ws, h1, h2 with | [_], [_], _, _ => rfl⟩
theorem e_BadPaper {h : Heap} (X : K.In h) (G : h.Ns mainGlobals mg) (e : Ec1 K "BadPaper" "BadPaper.__init__" sInitBadPaper "part") : E1 P w K mg base "BadPaper" (cOf K "BadPaper") "part" := by
  obtain ⟨fI, e, no⟩ := e
  obtain ⟨fd, F⟩ := e.fn
  exact ⟨PySem.W.mg_of X G e.a, e.ox, e.ek, no, fI, fd, e.iC, e.tI, ok_InitBadPaper F, F.binds fun _ _ _ _ _ _ us hl => match us, hl with | [_, _], _ => rfl, F.kbn 1 ["part"] (fun {α} (vs zs : List α) => vs ++ zs) (fun r q => r.append q) fun _ _ _ _ _ _ us ws h1 h2 => match us, ws, h1, h2 with | [_], [_], _, _ => rfl⟩
theorem e_Misfit {h : Heap} (X : K.In h) (G : h.Ns mainGlobals mg) (e : Ec1 K "Misfit" "Misfit.__init__" sInitMisfit "part") : E1 P w K mg base "Misfit" (cOf K "Misfit") "part" := by
  obtain ⟨fI, e, no⟩ := e
  obtain ⟨fd, F⟩ := e.fn
  exact ⟨PySem.W.mg_of X G e.a, e.ox, e.ek, no, fI, fd, e.iC, e.tI, ok_InitMisfit F, F.binds fun _ _ _ _ _ _ us hl => match us, hl with | [_, _], _ => rfl, F.kbn 1 ["part"] (fun {α} (vs zs : List α) => vs ++ zs) (fun r q => r.append q) fun _ _ _ _ _ _ us ws h1 h2 => match us, ws, h1, h2 with | [_], [_], _, _ => rfl⟩
theorem e_NoWire {h : Heap} (X : K.In h) (G : h.Ns mainGlobals mg) (e : Ec1 K "NoWire" "Missing.__init__" sInitMissing "value") : E1 P w K mg base "NoWire" (cOf K "NoWire") "value" := by
  obtain ⟨fI, e, no⟩ := e
  obtain ⟨fd, F⟩ := e.fn
  exact ⟨PySem.W.mg_of X G e.a, e.ox, e.ek, no, fI, fd, e.iC, e.tI, ok_InitMissing F, F.binds fun _ _ _ _ _ _ us hl => match us, hl with | [_, _], _ => rfl, F.kbn 1 ["value"] (fun {α} (vs zs : List α) => vs ++ zs) (fun r q => r.append q) fun _ _ _ _ _ _ us ws h1 h2 => match us, ws, h1, h2 with | [_], [_], _, _ => rfl⟩
theorem e_NoHole {h : Heap} (X : K.In h) (G : h.Ns mainGlobals mg) (e : Ec1 K "NoHole" "Missing.__init__" sInitMissing "value") : E1 P w K mg base "NoHole" (cOf K "NoHole") "value" := by
  obtain ⟨fI, e, no⟩ := e
  obtain ⟨fd, F⟩ := e.fn
  exact ⟨PySem.W.mg_of X G e.a, e.ox, e.ek, no, fI, fd, e.iC, e.tI, ok_InitMissing F, F.binds fun _ _ _ _ _ _ us hl => match us, hl with | [_, _], _ => rfl, F.kbn 1 ["value"] (fun {α} (vs zs : List α) => vs ++ zs) (fun r q => r.append q) fun _ _ _ _ _ _ us ws h1 h2 => match us, ws, h1, h2 with | [_], [_], _, _ => rfl⟩
theorem e_NoRow {h : Heap} (X : K.In h) (G : h.Ns mainGlobals mg) (e : Ec1 K "NoRow" "Missing.__init__" sInitMissing "value") : E1 P w K mg base "NoRow" (cOf K "NoRow") "value" := by
  obtain ⟨fI, e, no⟩ := e
  obtain ⟨fd, F⟩ := e.fn
  exact ⟨PySem.W.mg_of X G e.a, e.ox, e.ek, no, fI, fd, e.iC, e.tI, ok_InitMissing F, F.binds fun _ _ _ _ _ _ us hl => match us, hl with | [_, _], _ => rfl, F.kbn 1 ["value"] (fun {α} (vs zs : List α) => vs ++ zs) (fun r q => r.append q) fun _ _ _ _ _ _ us ws h1 h2 => match us, ws, h1, h2 with | [_], [_], _, _ => rfl⟩
theorem e_NoPlace {h : Heap} (X : K.In h) (G : h.Ns mainGlobals mg) (e : Ec1 K "NoPlace" "Missing.__init__" sInitMissing "value") : E1 P w K mg base "NoPlace" (cOf K "NoPlace") "value" := by
  obtain ⟨fI, e, no⟩ := e
  obtain ⟨fd, F⟩ := e.fn
  exact ⟨PySem.W.mg_of X G e.a, e.ox, e.ek, no, fI, fd, e.iC, e.tI, ok_InitMissing F, F.binds fun _ _ _ _ _ _ us hl => match us, hl with | [_, _], _ => rfl, F.kbn 1 ["value"] (fun {α} (vs zs : List α) => vs ++ zs) (fun r q => r.append q) fun _ _ _ _ _ _ us ws h1 h2 => match us, ws, h1, h2 with | [_], [_], _, _ => rfl⟩
theorem e_Twice {h : Heap} (X : K.In h) (G : h.Ns mainGlobals mg) (e : Ec1 K "Twice" "Twice.__init__" sInitTwice "value") : E1 P w K mg base "Twice" (cOf K "Twice") "value" := by
  obtain ⟨fI, e, no⟩ := e
  obtain ⟨fd, F⟩ := e.fn
  exact ⟨PySem.W.mg_of X G e.a, e.ox, e.ek, no, fI, fd, e.iC, e.tI, ok_InitTwice F, F.binds fun _ _ _ _ _ _ us hl => match us, hl with | [_, _], _ => rfl, F.kbn 1 ["value"] (fun {α} (vs zs : List α) => vs ++ zs) (fun r q => r.append q) fun _ _ _ _ _ _ us ws h1 h2 => match us, ws, h1, h2 with | [_], [_], _, _ => rfl⟩
theorem e_Impossible {h : Heap} (X : K.In h) (G : h.Ns mainGlobals mg) (e : Ec1 K "Impossible" "Impossible.__init__" sInitImpossible "paper") : E1 P w K mg base "Impossible" (cOf K "Impossible") "paper" := by
  obtain ⟨fI, e, no⟩ := e
  obtain ⟨fd, F⟩ := e.fn
  exact ⟨PySem.W.mg_of X G e.a, e.ox, e.ek, no, fI, fd, e.iC, e.tI, ok_InitImpossible F, F.binds fun _ _ _ _ _ _ us hl => match us, hl with | [_, _], _ => rfl, F.kbn 1 ["paper"] (fun {α} (vs zs : List α) => vs ++ zs) (fun r q => r.append q) fun _ _ _ _ _ _ us ws h1 h2 => match us, ws, h1, h2 with | [_], [_], _, _ => rfl⟩
theorem e_TooMany {h : Heap} (X : K.In h) (G : h.Ns mainGlobals mg) (e : Ec2 K "TooMany" "TooMany.__init__" sInitTooMany "what" "most") : E2 P w K mg base "TooMany" (cOf K "TooMany") "what" "most" := by
  obtain ⟨fI, e, no, no2⟩ := e
  obtain ⟨fd, F⟩ := e.fn
  exact ⟨PySem.W.mg_of X G e.a, e.ox, e.ek, no, no2, fI, fd, e.iC, e.tI, ok_InitTooMany F, F.binds fun _ _ _ _ _ _ us hl => match us, hl with | [_, _, _], _ => rfl, F.kbn 1 ["most", "what"] (fun {α} (vs zs : List α) => swap2 vs zs) (fun r q => r.append (vals_rev q)) fun _ _ _ _ _ _ us ws h1 h2 => match us, ws, h1, h2 with | [_], [_, _], _, _ => rfl⟩
theorem e_BadText {h : Heap} (X : K.In h) (G : h.Ns mainGlobals mg) (e : Ec2 K "BadText" "BadText.__init__" sInitBadText "line" "item") : E2 P w K mg base "BadText" (cOf K "BadText") "line" "item" := by
  obtain ⟨fI, e, no, no2⟩ := e
  obtain ⟨fd, F⟩ := e.fn
  exact ⟨PySem.W.mg_of X G e.a, e.ox, e.ek, no, no2, fI, fd, e.iC, e.tI, ok_InitBadText F, F.binds fun _ _ _ _ _ _ us hl => match us, hl with | [_, _, _], _ => rfl, F.kbn 1 ["item", "line"] (fun {α} (vs zs : List α) => swap2 vs zs) (fun r q => r.append (vals_rev q)) fun _ _ _ _ _ _ us ws h1 h2 => match us, ws, h1, h2 with | [_], [_, _], _, _ => rfl⟩
theorem e_Missing {h : Heap} (X : K.In h) (G : h.Ns mainGlobals mg) (e : Ec1 K "Missing" "Missing.__init__" sInitMissing "value") : E1 P w K mg base "Missing" (cOf K "Missing") "value" := by
  obtain ⟨fI, e, no⟩ := e
  obtain ⟨fd, F⟩ := e.fn
  exact ⟨PySem.W.mg_of X G e.a, e.ox, e.ek, no, fI, fd, e.iC, e.tI, ok_InitMissing F, F.binds fun _ _ _ _ _ _ us hl => match us, hl with | [_, _], _ => rfl, F.kbn 1 ["value"] (fun {α} (vs zs : List α) => vs ++ zs) (fun r q => r.append q) fun _ _ _ _ _ _ us ws h1 h2 => match us, ws, h1, h2 with | [_], [_], _, _ => rfl⟩
theorem all_mk {h : Heap} {fa : Addr} {tL tLD tN : Tok} (X : K.In h) (G : h.Ns mainGlobals mg) (hfa : mg "law" = some (.ref fa))
    (d_fixed : Df K "fixed" sFixed)
    (d_is_integer : Df K "is_integer" sIsInteger)
    (d_is_within : Df K "is_within" sIsWithin)
    (d_is_sign : Df K "is_sign" sIsSign)
    (d_are_signs : Df K "are_signs" sAreSigns)
    (d_is_name : Df K "is_name" sIsName)
    (d_first_twice : Df K "first_twice" sFirstTwice)
    (d_flat_key : Df K "_flat_key" sFlatKey)
    (d_law_urn : Df K "_law_urn" sLawUrn)
    (d_law_dip : Df K "_law_dip" sLawDip)
    (d_law_one : Df K "_law_one" sLawOne)
    (d_law_value : Df K "_law_value" sLawValue)
    (d_law_classes : Df K "_law_classes" sLawClasses)
    (d_law_is_only : Df K "_law_is_only" sLawIsOnly)
    (d_law_by_place : Df K "_law_by_place" sLawByPlace)
    (d_law_by_name : Df K "_law_by_name" sLawByName)
    (d_law_one_right : Df K "_law_one_right" sLawOneRight)
    (d_law_two_right : Df K "_law_two_right" sLawTwoRight)
    (d_law_integers_right : Df K "_law_integers_right" sLawIntegersRight)
    (d_law_names_right : Df K "_law_names_right" sLawNamesRight)
    (d_law_twice_right : Df K "_law_twice_right" sLawTwiceRight)
    (d_law : Df K "law" sLaw)
    (x_BadTable : Ec1 K "BadTable" "BadTable.__init__" sInitBadTable "part")
    (x_BadNet : Ec1 K "BadNet" "BadNet.__init__" sInitBadNet "part")
    (x_BadTask : Ec1 K "BadTask" "BadTask.__init__" sInitBadTask "part")
    (x_BadFilling : Ec1 K "BadFilling" "BadFilling.__init__" sInitBadFilling "part")
    (x_BadForm : Ec1 K "BadForm" "BadForm.__init__" sInitBadForm "part")
    (x_BadNumber : Ec1 K "BadNumber" "BadNumber.__init__" sInitBadNumber "part")
    (x_BadPaper : Ec1 K "BadPaper" "BadPaper.__init__" sInitBadPaper "part")
    (x_Misfit : Ec1 K "Misfit" "Misfit.__init__" sInitMisfit "part")
    (x_NoWire : Ec1 K "NoWire" "Missing.__init__" sInitMissing "value")
    (x_NoHole : Ec1 K "NoHole" "Missing.__init__" sInitMissing "value")
    (x_NoRow : Ec1 K "NoRow" "Missing.__init__" sInitMissing "value")
    (x_NoPlace : Ec1 K "NoPlace" "Missing.__init__" sInitMissing "value")
    (x_Twice : Ec1 K "Twice" "Twice.__init__" sInitTwice "value")
    (x_Impossible : Ec1 K "Impossible" "Impossible.__init__" sInitImpossible "paper")
    (x_TooMany : Ec2 K "TooMany" "TooMany.__init__" sInitTooMany "what" "most")
    (x_BadText : Ec2 K "BadText" "BadText.__init__" sInitBadText "line" "item")
    (x_Missing : Ec1 K "Missing" "Missing.__init__" sInitMissing "value")
    (hHE : PySem.W.nsIn K mainGlobals "HoleError" = some (some (.ref (cOf K "HoleError"))))
    (hkit : kitB K = true)
    (g_LETTERS : PySem.W.nsIn K mainGlobals "LETTERS" = some (some (.str sL tL)))
    (g_LETTERS_AND_DIGITS : PySem.W.nsIn K mainGlobals "LETTERS_AND_DIGITS" = some (some (.str sLD tLD)))
    (g_LONGEST_NAME : PySem.W.nsIn K mainGlobals "LONGEST_NAME" = some (some (.int 12 tN)))
    (z_len : PySem.W.nsIn K mainGlobals "len" = some none)
    (z_int : PySem.W.nsIn K mainGlobals "int" = some none)
    (z_str : PySem.W.nsIn K mainGlobals "str" = some none)
    (z_bool : PySem.W.nsIn K mainGlobals "bool" = some none)
    (z_list : PySem.W.nsIn K mainGlobals "list" = some none)
    (z_tuple : PySem.W.nsIn K mainGlobals "tuple" = some none)
    (z_set : PySem.W.nsIn K mainGlobals "set" = some none)
    (z_range : PySem.W.nsIn K mainGlobals "range" = some none)
    (z_abs : PySem.W.nsIn K mainGlobals "abs" = some none)
    (z_all : PySem.W.nsIn K mainGlobals "all" = some none)
    (z_repr : PySem.W.nsIn K mainGlobals "repr" = some none)
    (z_enumerate : PySem.W.nsIn K mainGlobals "enumerate" = some none)
    (z_isinstance : PySem.W.nsIn K mainGlobals "isinstance" = some none)
    (z_ValueError : PySem.W.nsIn K mainGlobals "ValueError" = some none)
    (z_LookupError : PySem.W.nsIn K mainGlobals "LookupError" = some none)
    (z_TypeError : PySem.W.nsIn K mainGlobals "TypeError" = some none)
    (z_ArithmeticError : PySem.W.nsIn K mainGlobals "ArithmeticError" = some none)
    (z_AttributeError : PySem.W.nsIn K mainGlobals "AttributeError" = some none)
    (z_RuntimeError : PySem.W.nsIn K mainGlobals "RuntimeError" = some none)
    : ∃ fd : FuncData, (∀ (s : Shared) (u : Value), BindsTo s fd ⟨[u], []⟩ [("script", u)]) ∧ ∀ base : Heap, K.In base → base.Ns mainGlobals mg → FnOkG P w K mg base 6 fa fd ["script"] (spLaw K) := by
  have B : NB mg := ⟨PySem.W.mg_none_of X G z_len, PySem.W.mg_none_of X G z_int, PySem.W.mg_none_of X G z_str, PySem.W.mg_none_of X G z_bool, PySem.W.mg_none_of X G z_list, PySem.W.mg_none_of X G z_tuple, PySem.W.mg_none_of X G z_set, PySem.W.mg_none_of X G z_range, PySem.W.mg_none_of X G z_abs, PySem.W.mg_none_of X G z_all, PySem.W.mg_none_of X G z_repr, PySem.W.mg_none_of X G z_enumerate, PySem.W.mg_none_of X G z_isinstance, PySem.W.mg_none_of X G z_ValueError, PySem.W.mg_none_of X G z_LookupError, PySem.W.mg_none_of X G z_TypeError, PySem.W.mg_none_of X G z_ArithmeticError, PySem.W.mg_none_of X G z_AttributeError, PySem.W.mg_none_of X G z_RuntimeError⟩
  have T : Cn mg := ⟨⟨tL, PySem.W.mg_of X G g_LETTERS⟩, ⟨tLD, PySem.W.mg_of X G g_LETTERS_AND_DIGITS⟩, ⟨tN, PySem.W.mg_of X G g_LONGEST_NAME⟩⟩
  obtain ⟨f_Fixed, fd_Fixed, F_Fixed, a_Fixed⟩ := d_fixed
  obtain ⟨f_IsInteger, fd_IsInteger, F_IsInteger, a_IsInteger⟩ := d_is_integer
  obtain ⟨f_IsWithin, fd_IsWithin, F_IsWithin, a_IsWithin⟩ := d_is_within
  obtain ⟨f_IsSign, fd_IsSign, F_IsSign, a_IsSign⟩ := d_is_sign
  obtain ⟨f_AreSigns, fd_AreSigns, F_AreSigns, a_AreSigns⟩ := d_are_signs
  obtain ⟨f_IsName, fd_IsName, F_IsName, a_IsName⟩ := d_is_name
  obtain ⟨f_FirstTwice, fd_FirstTwice, F_FirstTwice, a_FirstTwice⟩ := d_first_twice
  obtain ⟨f_FlatKey, fd_FlatKey, F_FlatKey, a_FlatKey⟩ := d_flat_key
  obtain ⟨f_LawUrn, fd_LawUrn, F_LawUrn, a_LawUrn⟩ := d_law_urn
  obtain ⟨f_LawDip, fd_LawDip, F_LawDip, a_LawDip⟩ := d_law_dip
  obtain ⟨f_LawOne, fd_LawOne, F_LawOne, a_LawOne⟩ := d_law_one
  obtain ⟨f_LawValue, fd_LawValue, F_LawValue, a_LawValue⟩ := d_law_value
  obtain ⟨f_LawClasses, fd_LawClasses, F_LawClasses, a_LawClasses⟩ := d_law_classes
  obtain ⟨f_LawIsOnly, fd_LawIsOnly, F_LawIsOnly, a_LawIsOnly⟩ := d_law_is_only
  obtain ⟨f_LawByPlace, fd_LawByPlace, F_LawByPlace, a_LawByPlace⟩ := d_law_by_place
  obtain ⟨f_LawByName, fd_LawByName, F_LawByName, a_LawByName⟩ := d_law_by_name
  obtain ⟨f_LawOneRight, fd_LawOneRight, F_LawOneRight, a_LawOneRight⟩ := d_law_one_right
  obtain ⟨f_LawTwoRight, fd_LawTwoRight, F_LawTwoRight, a_LawTwoRight⟩ := d_law_two_right
  obtain ⟨f_LawIntegersRight, fd_LawIntegersRight, F_LawIntegersRight, a_LawIntegersRight⟩ := d_law_integers_right
  obtain ⟨f_LawNamesRight, fd_LawNamesRight, F_LawNamesRight, a_LawNamesRight⟩ := d_law_names_right
  obtain ⟨f_LawTwiceRight, fd_LawTwiceRight, F_LawTwiceRight, a_LawTwiceRight⟩ := d_law_twice_right
  obtain ⟨f_Law, fd_Law, F_Law, a_Law⟩ := d_law
  have ee := hfa.symm.trans (PySem.W.mg_of X G a_Law)
  cases ee
  refine ⟨fd_Law, fun s v => ?_, fun base hb hB => ?_⟩
  · obtain ⟨oc, od, kV, doc, pm, an, cdv, ct, osl, rfl, lk, hcd⟩ := F_Law.ex
    exact .of_eq rfl
  have E : Ers P w K mg base (fun i => cOf K (nmE i)) := {
    e_BadTable := e_BadTable X G x_BadTable
    e_BadNet := e_BadNet X G x_BadNet
    e_BadTask := e_BadTask X G x_BadTask
    e_BadFilling := e_BadFilling X G x_BadFilling
    e_BadForm := e_BadForm X G x_BadForm
    e_BadNumber := e_BadNumber X G x_BadNumber
    e_BadPaper := e_BadPaper X G x_BadPaper
    e_Misfit := e_Misfit X G x_Misfit
    e_NoWire := e_NoWire X G x_NoWire
    e_NoHole := e_NoHole X G x_NoHole
    e_NoRow := e_NoRow X G x_NoRow
    e_NoPlace := e_NoPlace X G x_NoPlace
    e_Twice := e_Twice X G x_Twice
    e_Impossible := e_Impossible X G x_Impossible
    e_TooMany := e_TooMany X G x_TooMany
    e_BadText := e_BadText X G x_BadText
    e_Missing := e_Missing X G x_Missing
    m_HoleError := PySem.W.mg_of X G hHE
    kit := fun i hi j hj => (kitB_at hkit i hi).1 j hj
    kitV := fun i hi => (kitB_at hkit i hi).2.1
    kitT := fun i hi => (kitB_at hkit i hi).2.2
    exk := fun i hi => match i, hi with
      | 0, _ => (x_BadTable.elim fun _ e => e.1.ek)
      | 1, _ => (x_BadNet.elim fun _ e => e.1.ek)
      | 2, _ => (x_BadTask.elim fun _ e => e.1.ek)
      | 3, _ => (x_BadFilling.elim fun _ e => e.1.ek)
      | 4, _ => (x_BadForm.elim fun _ e => e.1.ek)
      | 5, _ => (x_BadNumber.elim fun _ e => e.1.ek)
      | 6, _ => (x_BadPaper.elim fun _ e => e.1.ek)
      | 7, _ => (x_Misfit.elim fun _ e => e.1.ek)
      | 8, _ => (x_NoWire.elim fun _ e => e.1.ek)
      | 9, _ => (x_NoHole.elim fun _ e => e.1.ek)
      | 10, _ => (x_NoRow.elim fun _ e => e.1.ek)
      | 11, _ => (x_NoPlace.elim fun _ e => e.1.ek)
      | 12, _ => (x_Twice.elim fun _ e => e.1.ek)
      | 13, _ => (x_Impossible.elim fun _ e => e.1.ek)
      | 14, _ => (x_TooMany.elim fun _ e => e.1.ek)
      | 15, _ => (x_BadText.elim fun _ e => e.1.ek)
      | 16, _ => (x_Missing.elim fun _ e => e.1.ek)
      | i + 17, h => absurd h (by omega) }
  have D_IsInteger : Dn P w K mg base "is_integer" 1 ["value"] (spInteger K) := ⟨f_IsInteger, fd_IsInteger, ok_integer F_IsInteger B, PySem.W.mg_of X G a_IsInteger, F_IsInteger.kp, F_IsInteger.binds fun _ _ _ _ _ _ us hl => match us, hl with | [_], _ => rfl⟩
  have K0_IsInteger_value : DnK P w K mg base "is_integer" 1 ["value"] (spInteger K) 0 ["value"] := ⟨f_IsInteger, fd_IsInteger, ok_integer F_IsInteger B, PySem.W.mg_of X G a_IsInteger, F_IsInteger.kp, F_IsInteger.kbn 0 ["value"] (fun {α} (vs zs : List α) => vs ++ zs) (fun r q => r.append q) fun _ _ _ _ _ _ us ws h1 h2 => match us, ws, h1, h2 with | [], [_], _, _ => rfl⟩
  have D_IsWithin : Dn P w K mg base "is_within" 2 ["value", "least", "most"] (spWithin K) := ⟨f_IsWithin, fd_IsWithin, ok_within F_IsWithin D_IsInteger, PySem.W.mg_of X G a_IsWithin, F_IsWithin.kp, F_IsWithin.binds fun _ _ _ _ _ _ us hl => match us, hl with | [_, _, _], _ => rfl⟩
  have K1_IsWithin_least_most : DnK P w K mg base "is_within" 2 ["value", "least", "most"] (spWithin K) 1 ["least", "most"] := ⟨f_IsWithin, fd_IsWithin, ok_within F_IsWithin D_IsInteger, PySem.W.mg_of X G a_IsWithin, F_IsWithin.kp, F_IsWithin.kbn 1 ["least", "most"] (fun {α} (vs zs : List α) => vs ++ zs) (fun r q => r.append q) fun _ _ _ _ _ _ us ws h1 h2 => match us, ws, h1, h2 with | [_], [_, _], _, _ => rfl⟩
  have K0_IsWithin_value_least_most : DnK P w K mg base "is_within" 2 ["value", "least", "most"] (spWithin K) 0 ["value", "least", "most"] := ⟨f_IsWithin, fd_IsWithin, ok_within F_IsWithin D_IsInteger, PySem.W.mg_of X G a_IsWithin, F_IsWithin.kp, F_IsWithin.kbn 0 ["value", "least", "most"] (fun {α} (vs zs : List α) => vs ++ zs) (fun r q => r.append q) fun _ _ _ _ _ _ us ws h1 h2 => match us, ws, h1, h2 with | [], [_, _, _], _, _ => rfl⟩
  have D_IsSign : Dn P w K mg base "is_sign" 3 ["value"] (spSign K) := ⟨f_IsSign, fd_IsSign, ok_sign F_IsSign D_IsWithin, PySem.W.mg_of X G a_IsSign, F_IsSign.kp, F_IsSign.binds fun _ _ _ _ _ _ us hl => match us, hl with | [_], _ => rfl⟩
  have K0_IsSign_value : DnK P w K mg base "is_sign" 3 ["value"] (spSign K) 0 ["value"] := ⟨f_IsSign, fd_IsSign, ok_sign F_IsSign D_IsWithin, PySem.W.mg_of X G a_IsSign, F_IsSign.kp, F_IsSign.kbn 0 ["value"] (fun {α} (vs zs : List α) => vs ++ zs) (fun r q => r.append q) fun _ _ _ _ _ _ us ws h1 h2 => match us, ws, h1, h2 with | [], [_], _, _ => rfl⟩
  have D_AreSigns : Dn P w K mg base "are_signs" 4 ["value"] (spSigns K) := ⟨f_AreSigns, fd_AreSigns, ok_signs F_AreSigns B D_IsSign, PySem.W.mg_of X G a_AreSigns, F_AreSigns.kp, F_AreSigns.binds fun _ _ _ _ _ _ us hl => match us, hl with | [_], _ => rfl⟩
  have K0_AreSigns_value : DnK P w K mg base "are_signs" 4 ["value"] (spSigns K) 0 ["value"] := ⟨f_AreSigns, fd_AreSigns, ok_signs F_AreSigns B D_IsSign, PySem.W.mg_of X G a_AreSigns, F_AreSigns.kp, F_AreSigns.kbn 0 ["value"] (fun {α} (vs zs : List α) => vs ++ zs) (fun r q => r.append q) fun _ _ _ _ _ _ us ws h1 h2 => match us, ws, h1, h2 with | [], [_], _, _ => rfl⟩
  have D_IsName : Dn P w K mg base "is_name" 1 ["value"] (spName K) := ⟨f_IsName, fd_IsName, ok_name F_IsName B T, PySem.W.mg_of X G a_IsName, F_IsName.kp, F_IsName.binds fun _ _ _ _ _ _ us hl => match us, hl with | [_], _ => rfl⟩
  have K0_IsName_value : DnK P w K mg base "is_name" 1 ["value"] (spName K) 0 ["value"] := ⟨f_IsName, fd_IsName, ok_name F_IsName B T, PySem.W.mg_of X G a_IsName, F_IsName.kp, F_IsName.kbn 0 ["value"] (fun {α} (vs zs : List α) => vs ++ zs) (fun r q => r.append q) fun _ _ _ _ _ _ us ws h1 h2 => match us, ws, h1, h2 with | [], [_], _, _ => rfl⟩
  have D_Flat0 : Dn P w K mg base "_flat_key" 1 ["value"] spFlat0 := ⟨f_FlatKey, fd_FlatKey, ok_flat0 F_FlatKey B, PySem.W.mg_of X G a_FlatKey, F_FlatKey.kp, F_FlatKey.binds fun _ _ _ _ _ _ us hl => match us, hl with | [_], _ => rfl⟩
  have D_FlatKey : Dn P w K mg base "_flat_key" 2 ["value"] (spFlat1 K) := ⟨f_FlatKey, fd_FlatKey, ok_flat1 F_FlatKey B D_Flat0, PySem.W.mg_of X G a_FlatKey, F_FlatKey.kp, F_FlatKey.binds fun _ _ _ _ _ _ us hl => match us, hl with | [_], _ => rfl⟩
  have D_Fixed0 : Dn P w K mg base "fixed" 1 ["value"] spFixed0 := ⟨f_Fixed, fd_Fixed, ok_fixed0 F_Fixed B, PySem.W.mg_of X G a_Fixed, F_Fixed.kp, F_Fixed.binds fun _ _ _ _ _ _ us hl => match us, hl with | [_], _ => rfl⟩
  have D_Fixed : Dn P w K mg base "fixed" 2 ["value"] (spFixed1 K) := ⟨f_Fixed, fd_Fixed, ok_fixed1 F_Fixed B D_Fixed0, PySem.W.mg_of X G a_Fixed, F_Fixed.kp, F_Fixed.binds fun _ _ _ _ _ _ us hl => match us, hl with | [_], _ => rfl⟩
  have D_FirstTwice : Dn P w K mg base "first_twice" 3 ["values"] (spTwice K) := ⟨f_FirstTwice, fd_FirstTwice, ok_twice F_FirstTwice B D_FlatKey D_Fixed, PySem.W.mg_of X G a_FirstTwice, F_FirstTwice.kp, F_FirstTwice.binds fun _ _ _ _ _ _ us hl => match us, hl with | [_], _ => rfl⟩
  have K0_FirstTwice_values : DnK P w K mg base "first_twice" 3 ["values"] (spTwice K) 0 ["values"] := ⟨f_FirstTwice, fd_FirstTwice, ok_twice F_FirstTwice B D_FlatKey D_Fixed, PySem.W.mg_of X G a_FirstTwice, F_FirstTwice.kp, F_FirstTwice.kbn 0 ["values"] (fun {α} (vs zs : List α) => vs ++ zs) (fun r q => r.append q) fun _ _ _ _ _ _ us ws h1 h2 => match us, ws, h1, h2 with | [], [_], _, _ => rfl⟩
  have D_LawUrn : Dn P w K mg base "_law_urn" 1 ["script"] (spUrn K) := ⟨f_LawUrn, fd_LawUrn, ok_urn F_LawUrn B, PySem.W.mg_of X G a_LawUrn, F_LawUrn.kp, F_LawUrn.binds fun _ _ _ _ _ _ us hl => match us, hl with | [_], _ => rfl⟩
  have D_LawDip : Dn P w K mg base "_law_dip" 1 ["urn", "many"] spDip := ⟨f_LawDip, fd_LawDip, ok_dip F_LawDip B, PySem.W.mg_of X G a_LawDip, F_LawDip.kp, F_LawDip.binds fun _ _ _ _ _ _ us hl => match us, hl with | [_, _], _ => rfl⟩
  have D_LawOne : Dn P w K mg base "_law_one" 2 ["urn", "some"] (spOne K) := ⟨f_LawOne, fd_LawOne, ok_one F_LawOne B D_LawDip, PySem.W.mg_of X G a_LawOne, F_LawOne.kp, F_LawOne.binds fun _ _ _ _ _ _ us hl => match us, hl with | [_, _], _ => rfl⟩
  have D_LawValue : Dn P w K mg base "_law_value" 3 ["urn"] spValue := ⟨f_LawValue, fd_LawValue, ok_value F_LawValue B D_LawDip D_LawOne, PySem.W.mg_of X G a_LawValue, F_LawValue.kp, F_LawValue.binds fun _ _ _ _ _ _ us hl => match us, hl with | [_], _ => rfl⟩
  have D_LawClasses : Dn P w K mg base "_law_classes" 1 ["error"] (spClasses fun i => cOf K (nmE i)) := ⟨f_LawClasses, fd_LawClasses, ok_classes F_LawClasses B E, PySem.W.mg_of X G a_LawClasses, F_LawClasses.kp, F_LawClasses.binds fun _ _ _ _ _ _ us hl => match us, hl with | [_], _ => rfl⟩
  have D_LawIsOnly : Dn P w K mg base "_law_is_only" 2 ["error", "at"] (spIsOnly fun i => cOf K (nmE i)) := ⟨f_LawIsOnly, fd_LawIsOnly, ok_isOnly F_LawIsOnly B E D_LawClasses, PySem.W.mg_of X G a_LawIsOnly, F_LawIsOnly.kp, F_LawIsOnly.binds fun _ _ _ _ _ _ us hl => match us, hl with | [_, _], _ => rfl⟩
  have D_LawByPlace : Dn P w K mg base "_law_by_place" 3 ["one"] (spMade fun i => cOf K (nmE i)) := ⟨f_LawByPlace, fd_LawByPlace, ok_byPlace F_LawByPlace E, PySem.W.mg_of X G a_LawByPlace, F_LawByPlace.kp, F_LawByPlace.binds fun _ _ _ _ _ _ us hl => match us, hl with | [_], _ => rfl⟩
  have D_LawByName : Dn P w K mg base "_law_by_name" 3 ["one"] (spMade fun i => cOf K (nmE i)) := ⟨f_LawByName, fd_LawByName, ok_byName F_LawByName E, PySem.W.mg_of X G a_LawByName, F_LawByName.kp, F_LawByName.binds fun _ _ _ _ _ _ us hl => match us, hl with | [_], _ => rfl⟩
  have D_LawOneRight : Dn P w K mg base "_law_one_right" 4 ["one", "other"] (spPair K) := ⟨f_LawOneRight, fd_LawOneRight, ok_oneRight F_LawOneRight B E D_LawIsOnly D_LawByPlace D_LawByName, PySem.W.mg_of X G a_LawOneRight, F_LawOneRight.kp, F_LawOneRight.binds fun _ _ _ _ _ _ us hl => match us, hl with | [_, _], _ => rfl⟩
  have D_LawTwoRight : Dn P w K mg base "_law_two_right" 3 ["one", "other"] (spPair K) := ⟨f_LawTwoRight, fd_LawTwoRight, ok_two F_LawTwoRight B E D_LawIsOnly, PySem.W.mg_of X G a_LawTwoRight, F_LawTwoRight.kp, F_LawTwoRight.binds fun _ _ _ _ _ _ us hl => match us, hl with | [_, _], _ => rfl⟩
  have D_LawIntegersRight : Dn P w K mg base "_law_integers_right" 5 ["urn"] spOk := ⟨f_LawIntegersRight, fd_LawIntegersRight, ok_integers F_LawIntegersRight B D_LawDip D_LawOne D_IsInteger K0_IsInteger_value D_IsWithin K1_IsWithin_least_most K0_IsWithin_value_least_most D_IsSign K0_IsSign_value D_AreSigns K0_AreSigns_value, PySem.W.mg_of X G a_LawIntegersRight, F_LawIntegersRight.kp, F_LawIntegersRight.binds fun _ _ _ _ _ _ us hl => match us, hl with | [_], _ => rfl⟩
  have D_LawNamesRight : Dn P w K mg base "_law_names_right" 5 ["urn"] spOk := ⟨f_LawNamesRight, fd_LawNamesRight, ok_names F_LawNamesRight B D_LawDip D_LawOne D_IsName K0_IsName_value, PySem.W.mg_of X G a_LawNamesRight, F_LawNamesRight.kp, F_LawNamesRight.binds fun _ _ _ _ _ _ us hl => match us, hl with | [_], _ => rfl⟩
  have D_LawTwiceRight : DnG P w K mg base "_law_twice_right" 5 ["urn"] spOk := ⟨f_LawTwiceRight, fd_LawTwiceRight, ok_twiceR F_LawTwiceRight B D_LawDip D_FirstTwice K0_FirstTwice_values, PySem.W.mg_of X G a_LawTwiceRight, F_LawTwiceRight.kp, F_LawTwiceRight.binds fun _ _ _ _ _ _ us hl => match us, hl with | [_], _ => rfl⟩
  exact ok_law F_Law B D_LawUrn D_LawValue D_LawOneRight D_LawTwoRight D_LawIntegersRight D_LawNamesRight D_LawTwiceRight
end
end K00
open PySem PySem.W PyProof.Rows in
set_option maxRecDepth 100000 in
set_option maxHeartbeats 0 in
theorem PySem.Challenge.cw_holegates_k00_errors_and_checks_holds : PySem.Challenge.rw_holegates_k00_errors_and_checks.Holds := by
  w_on; o_law; k_head; (case hw => w_witness2)
  k_fill
  refine Kit.walk_ofG (l := PySem.Challenge.rw_holegates_k00_errors_and_checks) (n := 63) (k := 6) (x := "script") (sp := K00.spLaw) rfl (by decide) rfl ⟨rfl, by decide, by decide⟩ (fun w h Y => PySem.W.kIn_of Y) ?F (fun K H a ns hl hS => ⟨a, ns, rfl, hS, hl, fun _ => rfl⟩)
  case F =>
    intro w mg fa h KX G hmg
    refine' K00.all_mk KX G hmg ?h0 ?h1 ?h2 ?h3 ?h4 ?h5 ?h6 ?h7 ?h8 ?h9 ?h10 ?h11 ?h12 ?h13 ?h14 ?h15 ?h16 ?h17 ?h18 ?h19 ?h20 ?h21 ?h22 ?h23 ?h24 ?h25 ?h26 ?h27 ?h28 ?h29 ?h30 ?h31 ?h32 ?h33 ?h34 ?h35 ?h36 ?h37 ?h38 ?h39 ?h40 ?h41 ?h42 ?h43 ?h44 ?h45 ?h46 ?h47 ?h48 ?h49 ?h50 ?h51 ?h52 ?h53 ?h54 ?h55 ?h56 ?h57 ?h58 ?h59 ?h60 ?h61 ?h62
    (case h0 => (refine' K00.df_mk ?a ?l ?c ?k; (case a => k_is); (case l => k_is); (case c => k_is); (case k => k_is)))
    (case h1 => (refine' K00.df_mk ?a ?l ?c ?k; (case a => k_is); (case l => k_is); (case c => k_is); (case k => k_is)))
    (case h2 => (refine' K00.df_mk ?a ?l ?c ?k; (case a => k_is); (case l => k_is); (case c => k_is); (case k => k_is)))
    (case h3 => (refine' K00.df_mk ?a ?l ?c ?k; (case a => k_is); (case l => k_is); (case c => k_is); (case k => k_is)))
    (case h4 => (refine' K00.df_mk ?a ?l ?c ?k; (case a => k_is); (case l => k_is); (case c => k_is); (case k => k_is)))
    (case h5 => (refine' K00.df_mk ?a ?l ?c ?k; (case a => k_is); (case l => k_is); (case c => k_is); (case k => k_is)))
    (case h6 => (refine' K00.df_mk ?a ?l ?c ?k; (case a => k_is); (case l => k_is); (case c => k_is); (case k => k_is)))
    (case h7 => (refine' K00.df_mk ?a ?l ?c ?k; (case a => k_is); (case l => k_is); (case c => k_is); (case k => k_is)))
    (case h8 => (refine' K00.df_mk ?a ?l ?c ?k; (case a => k_is); (case l => k_is); (case c => k_is); (case k => k_is)))
    (case h9 => (refine' K00.df_mk ?a ?l ?c ?k; (case a => k_is); (case l => k_is); (case c => k_is); (case k => k_is)))
    (case h10 => (refine' K00.df_mk ?a ?l ?c ?k; (case a => k_is); (case l => k_is); (case c => k_is); (case k => k_is)))
    (case h11 => (refine' K00.df_mk ?a ?l ?c ?k; (case a => k_is); (case l => k_is); (case c => k_is); (case k => k_is)))
    (case h12 => (refine' K00.df_mk ?a ?l ?c ?k; (case a => k_is); (case l => k_is); (case c => k_is); (case k => k_is)))
    (case h13 => (refine' K00.df_mk ?a ?l ?c ?k; (case a => k_is); (case l => k_is); (case c => k_is); (case k => k_is)))
    (case h14 => (refine' K00.df_mk ?a ?l ?c ?k; (case a => k_is); (case l => k_is); (case c => k_is); (case k => k_is)))
    (case h15 => (refine' K00.df_mk ?a ?l ?c ?k; (case a => k_is); (case l => k_is); (case c => k_is); (case k => k_is)))
    (case h16 => (refine' K00.df_mk ?a ?l ?c ?k; (case a => k_is); (case l => k_is); (case c => k_is); (case k => k_is)))
    (case h17 => (refine' K00.df_mk ?a ?l ?c ?k; (case a => k_is); (case l => k_is); (case c => k_is); (case k => k_is)))
    (case h18 => (refine' K00.df_mk ?a ?l ?c ?k; (case a => k_is); (case l => k_is); (case c => k_is); (case k => k_is)))
    (case h19 => (refine' K00.df_mk ?a ?l ?c ?k; (case a => k_is); (case l => k_is); (case c => k_is); (case k => k_is)))
    (case h20 => (refine' K00.df_mk ?a ?l ?c ?k; (case a => k_is); (case l => k_is); (case c => k_is); (case k => k_is)))
    (case h21 => (refine' K00.df_mk ?a ?l ?c ?k; (case a => k_is); (case l => k_is); (case c => k_is); (case k => k_is)))
    (case h22 => (refine' K00.ec1_mk (K00.ec_mk ?aC ?xL ?hbm ?sa ?ga ?gg ?a1 ?t1 ?l1 ?c1 ?k1 ?kC ?eC ?tC ?hC ?cc ?hm ?hn ?ht) ?no; (case aC => k_is); (case xL => k_is); (case hbm => decide +kernel); (case sa => k_is); (case ga => k_is); (case gg => k_is); (case a1 => k_is); (case t1 => k_is); (case l1 => k_is); (case c1 => k_is); (case k1 => k_is); (case kC => k_is); (case eC => k_is); (case tC => k_is); (case hC => k_is); (case cc => k_is); (case hm => k_is); (case hn => k_is); (case ht => k_is); (case no => k_is)))
    (case h23 => (refine' K00.ec1_mk (K00.ec_mk ?aC ?xL ?hbm ?sa ?ga ?gg ?a1 ?t1 ?l1 ?c1 ?k1 ?kC ?eC ?tC ?hC ?cc ?hm ?hn ?ht) ?no; (case aC => k_is); (case xL => k_is); (case hbm => decide +kernel); (case sa => k_is); (case ga => k_is); (case gg => k_is); (case a1 => k_is); (case t1 => k_is); (case l1 => k_is); (case c1 => k_is); (case k1 => k_is); (case kC => k_is); (case eC => k_is); (case tC => k_is); (case hC => k_is); (case cc => k_is); (case hm => k_is); (case hn => k_is); (case ht => k_is); (case no => k_is)))
    (case h24 => (refine' K00.ec1_mk (K00.ec_mk ?aC ?xL ?hbm ?sa ?ga ?gg ?a1 ?t1 ?l1 ?c1 ?k1 ?kC ?eC ?tC ?hC ?cc ?hm ?hn ?ht) ?no; (case aC => k_is); (case xL => k_is); (case hbm => decide +kernel); (case sa => k_is); (case ga => k_is); (case gg => k_is); (case a1 => k_is); (case t1 => k_is); (case l1 => k_is); (case c1 => k_is); (case k1 => k_is); (case kC => k_is); (case eC => k_is); (case tC => k_is); (case hC => k_is); (case cc => k_is); (case hm => k_is); (case hn => k_is); (case ht => k_is); (case no => k_is)))
    (case h25 => (refine' K00.ec1_mk (K00.ec_mk ?aC ?xL ?hbm ?sa ?ga ?gg ?a1 ?t1 ?l1 ?c1 ?k1 ?kC ?eC ?tC ?hC ?cc ?hm ?hn ?ht) ?no; (case aC => k_is); (case xL => k_is); (case hbm => decide +kernel); (case sa => k_is); (case ga => k_is); (case gg => k_is); (case a1 => k_is); (case t1 => k_is); (case l1 => k_is); (case c1 => k_is); (case k1 => k_is); (case kC => k_is); (case eC => k_is); (case tC => k_is); (case hC => k_is); (case cc => k_is); (case hm => k_is); (case hn => k_is); (case ht => k_is); (case no => k_is)))
    (case h26 => (refine' K00.ec1_mk (K00.ec_mk ?aC ?xL ?hbm ?sa ?ga ?gg ?a1 ?t1 ?l1 ?c1 ?k1 ?kC ?eC ?tC ?hC ?cc ?hm ?hn ?ht) ?no; (case aC => k_is); (case xL => k_is); (case hbm => decide +kernel); (case sa => k_is); (case ga => k_is); (case gg => k_is); (case a1 => k_is); (case t1 => k_is); (case l1 => k_is); (case c1 => k_is); (case k1 => k_is); (case kC => k_is); (case eC => k_is); (case tC => k_is); (case hC => k_is); (case cc => k_is); (case hm => k_is); (case hn => k_is); (case ht => k_is); (case no => k_is)))
    (case h27 => (refine' K00.ec1_mk (K00.ec_mk ?aC ?xL ?hbm ?sa ?ga ?gg ?a1 ?t1 ?l1 ?c1 ?k1 ?kC ?eC ?tC ?hC ?cc ?hm ?hn ?ht) ?no; (case aC => k_is); (case xL => k_is); (case hbm => decide +kernel); (case sa => k_is); (case ga => k_is); (case gg => k_is); (case a1 => k_is); (case t1 => k_is); (case l1 => k_is); (case c1 => k_is); (case k1 => k_is); (case kC => k_is); (case eC => k_is); (case tC => k_is); (case hC => k_is); (case cc => k_is); (case hm => k_is); (case hn => k_is); (case ht => k_is); (case no => k_is)))
    (case h28 => (refine' K00.ec1_mk (K00.ec_mk ?aC ?xL ?hbm ?sa ?ga ?gg ?a1 ?t1 ?l1 ?c1 ?k1 ?kC ?eC ?tC ?hC ?cc ?hm ?hn ?ht) ?no; (case aC => k_is); (case xL => k_is); (case hbm => decide +kernel); (case sa => k_is); (case ga => k_is); (case gg => k_is); (case a1 => k_is); (case t1 => k_is); (case l1 => k_is); (case c1 => k_is); (case k1 => k_is); (case kC => k_is); (case eC => k_is); (case tC => k_is); (case hC => k_is); (case cc => k_is); (case hm => k_is); (case hn => k_is); (case ht => k_is); (case no => k_is)))
    (case h29 => (refine' K00.ec1_mk (K00.ec_mk ?aC ?xL ?hbm ?sa ?ga ?gg ?a1 ?t1 ?l1 ?c1 ?k1 ?kC ?eC ?tC ?hC ?cc ?hm ?hn ?ht) ?no; (case aC => k_is); (case xL => k_is); (case hbm => decide +kernel); (case sa => k_is); (case ga => k_is); (case gg => k_is); (case a1 => k_is); (case t1 => k_is); (case l1 => k_is); (case c1 => k_is); (case k1 => k_is); (case kC => k_is); (case eC => k_is); (case tC => k_is); (case hC => k_is); (case cc => k_is); (case hm => k_is); (case hn => k_is); (case ht => k_is); (case no => k_is)))
    (case h30 => (refine' K00.ec1_mk (K00.ec_mk ?aC ?xL ?hbm ?sa ?ga ?gg ?a1 ?t1 ?l1 ?c1 ?k1 ?kC ?eC ?tC ?hC ?cc ?hm ?hn ?ht) ?no; (case aC => k_is); (case xL => k_is); (case hbm => decide +kernel); (case sa => k_is); (case ga => k_is); (case gg => k_is); (case a1 => k_is); (case t1 => k_is); (case l1 => k_is); (case c1 => k_is); (case k1 => k_is); (case kC => k_is); (case eC => k_is); (case tC => k_is); (case hC => k_is); (case cc => k_is); (case hm => k_is); (case hn => k_is); (case ht => k_is); (case no => k_is)))
    (case h31 => (refine' K00.ec1_mk (K00.ec_mk ?aC ?xL ?hbm ?sa ?ga ?gg ?a1 ?t1 ?l1 ?c1 ?k1 ?kC ?eC ?tC ?hC ?cc ?hm ?hn ?ht) ?no; (case aC => k_is); (case xL => k_is); (case hbm => decide +kernel); (case sa => k_is); (case ga => k_is); (case gg => k_is); (case a1 => k_is); (case t1 => k_is); (case l1 => k_is); (case c1 => k_is); (case k1 => k_is); (case kC => k_is); (case eC => k_is); (case tC => k_is); (case hC => k_is); (case cc => k_is); (case hm => k_is); (case hn => k_is); (case ht => k_is); (case no => k_is)))
    (case h32 => (refine' K00.ec1_mk (K00.ec_mk ?aC ?xL ?hbm ?sa ?ga ?gg ?a1 ?t1 ?l1 ?c1 ?k1 ?kC ?eC ?tC ?hC ?cc ?hm ?hn ?ht) ?no; (case aC => k_is); (case xL => k_is); (case hbm => decide +kernel); (case sa => k_is); (case ga => k_is); (case gg => k_is); (case a1 => k_is); (case t1 => k_is); (case l1 => k_is); (case c1 => k_is); (case k1 => k_is); (case kC => k_is); (case eC => k_is); (case tC => k_is); (case hC => k_is); (case cc => k_is); (case hm => k_is); (case hn => k_is); (case ht => k_is); (case no => k_is)))
    (case h33 => (refine' K00.ec1_mk (K00.ec_mk ?aC ?xL ?hbm ?sa ?ga ?gg ?a1 ?t1 ?l1 ?c1 ?k1 ?kC ?eC ?tC ?hC ?cc ?hm ?hn ?ht) ?no; (case aC => k_is); (case xL => k_is); (case hbm => decide +kernel); (case sa => k_is); (case ga => k_is); (case gg => k_is); (case a1 => k_is); (case t1 => k_is); (case l1 => k_is); (case c1 => k_is); (case k1 => k_is); (case kC => k_is); (case eC => k_is); (case tC => k_is); (case hC => k_is); (case cc => k_is); (case hm => k_is); (case hn => k_is); (case ht => k_is); (case no => k_is)))
    (case h34 => (refine' K00.ec1_mk (K00.ec_mk ?aC ?xL ?hbm ?sa ?ga ?gg ?a1 ?t1 ?l1 ?c1 ?k1 ?kC ?eC ?tC ?hC ?cc ?hm ?hn ?ht) ?no; (case aC => k_is); (case xL => k_is); (case hbm => decide +kernel); (case sa => k_is); (case ga => k_is); (case gg => k_is); (case a1 => k_is); (case t1 => k_is); (case l1 => k_is); (case c1 => k_is); (case k1 => k_is); (case kC => k_is); (case eC => k_is); (case tC => k_is); (case hC => k_is); (case cc => k_is); (case hm => k_is); (case hn => k_is); (case ht => k_is); (case no => k_is)))
    (case h35 => (refine' K00.ec1_mk (K00.ec_mk ?aC ?xL ?hbm ?sa ?ga ?gg ?a1 ?t1 ?l1 ?c1 ?k1 ?kC ?eC ?tC ?hC ?cc ?hm ?hn ?ht) ?no; (case aC => k_is); (case xL => k_is); (case hbm => decide +kernel); (case sa => k_is); (case ga => k_is); (case gg => k_is); (case a1 => k_is); (case t1 => k_is); (case l1 => k_is); (case c1 => k_is); (case k1 => k_is); (case kC => k_is); (case eC => k_is); (case tC => k_is); (case hC => k_is); (case cc => k_is); (case hm => k_is); (case hn => k_is); (case ht => k_is); (case no => k_is)))
    (case h36 => (refine' K00.ec2_mk (K00.ec_mk ?aC ?xL ?hbm ?sa ?ga ?gg ?a1 ?t1 ?l1 ?c1 ?k1 ?kC ?eC ?tC ?hC ?cc ?hm ?hn ?ht) ?no ?no2; (case aC => k_is); (case xL => k_is); (case hbm => decide +kernel); (case sa => k_is); (case ga => k_is); (case gg => k_is); (case a1 => k_is); (case t1 => k_is); (case l1 => k_is); (case c1 => k_is); (case k1 => k_is); (case kC => k_is); (case eC => k_is); (case tC => k_is); (case hC => k_is); (case cc => k_is); (case hm => k_is); (case hn => k_is); (case ht => k_is); (case no => k_is); (case no2 => k_is)))
    (case h37 => (refine' K00.ec2_mk (K00.ec_mk ?aC ?xL ?hbm ?sa ?ga ?gg ?a1 ?t1 ?l1 ?c1 ?k1 ?kC ?eC ?tC ?hC ?cc ?hm ?hn ?ht) ?no ?no2; (case aC => k_is); (case xL => k_is); (case hbm => decide +kernel); (case sa => k_is); (case ga => k_is); (case gg => k_is); (case a1 => k_is); (case t1 => k_is); (case l1 => k_is); (case c1 => k_is); (case k1 => k_is); (case kC => k_is); (case eC => k_is); (case tC => k_is); (case hC => k_is); (case cc => k_is); (case hm => k_is); (case hn => k_is); (case ht => k_is); (case no => k_is); (case no2 => k_is)))
    (case h38 => (refine' K00.ec1_mk (K00.ec_mk ?aC ?xL ?hbm ?sa ?ga ?gg ?a1 ?t1 ?l1 ?c1 ?k1 ?kC ?eC ?tC ?hC ?cc ?hm ?hn ?ht) ?no; (case aC => k_is); (case xL => k_is); (case hbm => decide +kernel); (case sa => k_is); (case ga => k_is); (case gg => k_is); (case a1 => k_is); (case t1 => k_is); (case l1 => k_is); (case c1 => k_is); (case k1 => k_is); (case kC => k_is); (case eC => k_is); (case tC => k_is); (case hC => k_is); (case cc => k_is); (case hm => k_is); (case hn => k_is); (case ht => k_is); (case no => k_is)))
    (case h39 => (refine' K00.cOf_ns ?a; (case a => k_is)))
    (case h40 => kernel_rfl)
    (case h41 => k_is)
    (case h42 => k_is)
    (case h43 => k_is)
    (case h44 => k_is)
    (case h45 => k_is)
    (case h46 => k_is)
    (case h47 => k_is)
    (case h48 => k_is)
    (case h49 => k_is)
    (case h50 => k_is)
    (case h51 => k_is)
    (case h52 => k_is)
    (case h53 => k_is)
    (case h54 => k_is)
    (case h55 => k_is)
    (case h56 => k_is)
    (case h57 => k_is)
    (case h58 => k_is)
    (case h59 => k_is)
    (case h60 => k_is)
    (case h61 => k_is)
    (case h62 => k_is)
