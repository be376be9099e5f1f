import PyProof.Rows.All
import Wide.All
import OpenK.AllK
import Wide.FinOn
import HandS.ForMost
import HandS.Evl
import HandS.Star
import HandS.DictComp
import HandS.Defaults
import HandS.WideBits
import HandS.SortInts
import HandS.Conv
import HandS.FStr
import HandS.Strs
import HandS.Flow
import HandS.IsInst
import HandS.Style
import HandS.Walk
import HandS.Wide
import HandS.Gcd
import HandS.Exc
import HandS.ExcInit
import HandS.ExcField
import HandS.ExcSuper
import HandS.DeepEq
import HandS.NoneIn
import KE.KExcIs
import KE.KSuper
import KE.GoesMore
import PyProof.ListStr
import PyProof.StrOps2
import PyProof.TupleOfSeq
import PyProof.NeKinds
import HandS.OwnEq
import HandS.NamedTupGet
import PyProof.InstNe
import HandS.Deep
import HandS.ExcOwn
import HandS.WordsExc
import PyProof.WalksMore
import PyProof.WalkInts
import HandS.SortRule
import KE.GoesEnum
import HandS.Zip
import HandS.TupAny
import HandS.ExcIs
import HandS.Lambda
import HandS.MakeKwOnly
import HandS.TupLe
import KE.KCallOwn
import KE.KDictZip
import KE.KDictKeyed
import HandS.Text
import KE.KRevSl
import HandS.HeadHook4
import HandS.HeadWalk
import HandS.MakeKw
import KE.KNestM
import HandS.Head0
import HandS.Head1
import HandS.Head2
import HandS.Head3
import HandS.HeadEnd
import HandS.HeadHook1
import HandS.NestedK
import KE.KStateDown
import PySem.Challenge.RW_otherhand_k06_marks_turned_and_mirrored
set_option Elab.async false
set_option linter.all false
set_option maxRecDepth 100000
set_option maxHeartbeats 8000000
/-! an own exception class, called with keywords -/
namespace PySem
namespace KXP
open PySem.W PySem.Calls PyProof.Rows PySem.HandSPX
section
variable {M : Model} {A : Around} {E : Value → Shared → Prop} {h : Heap} {g : Array GenState} {d : Drawn} {t : Nat} {os : OsState}
variable {nm q : Str} {C N : Addr} {bs bm bmB : List Value} {hdct : Bool} {sn : List Str} {sub : List Value} {ab : Bool} {col : Option Bool} {dd : Option Addr} {k0 k1 k2 k3 k5 : Option Value} {B newId initId : String}
theorem check_newK (F : ExcBaseFacts B newId initId bmB) (hT : ∀ X : String, bm.contains (.type X) = bmB.contains (.type X)) {rest : List Value} {kw : List (Str × Value)} {Q : Unit → Shared → Prop}
    (hC : h.get? C = some (excClassObj nm q C N bs bm hdct sn sub ab col dd k0 k1 k2 k3 k5 newId)) (hq : Q () ⟨h, g, d, t, os⟩) : wpAny M A (checkBuiltinCall newId ⟨.ref C :: rest, kw⟩) Q E ⟨h, g, d, t, os⟩ := by
  have hcont : (Value.ref C :: bm).contains (.type B) = true := by rw [List.contains_cons, hT, F.hasB, Bool.or_true]
  have hstar := F.noStar
  simp only [checkBuiltinCall, F.newKind, F.newSplit, F.newRow]
  repeat (first | refine wpAny_loadPart_at hC ?_ | (refine wpAny_isSubtype_exc hC ?_; rw [hcont]) | refine wpAny_staticBase_exc hC ?_ | refine wpAny_madeBy_exc hC ?_ | simp only [bne_self_eq_false, Bool.false_eq_true, if_false] | wp_step)
  exact hq
end
section
variable {prog : Program} {w : World} {A : Around} {E : Value → Shared → Prop} {R : Result → Shared → Prop} {h : Heap} {g : Array GenState} {d : Drawn} {t : Nat} {os : OsState}
variable {nm q : Str} {C N : Addr} {bs bm bmB : List Value} {hdct : Bool} {sn : List Str} {sub : List Value} {ab : Bool} {col : Option Bool} {dd : Option Addr} {k0 k1 k2 k3 k5 : Option Value} {B newId initId : String}
theorem newK (F : ExcBaseFacts B newId initId bmB) (hT : ∀ X : String, bm.contains (.type X) = bmB.contains (.type X)) {rest : List Value} {kw : List (Str × Value)}
    (hC : h.get? C = some (excClassObj nm q C N bs bm hdct sn sub ab col dd k0 k1 k2 k3 k5 newId))
    (hq : R (.ok (.ret (.ref (h.objs.size + 1)))) ⟨(h.push { cls := .type "tuple", data := .seq rest.toArray }).push
      { cls := .ref C, data := .fields #[.ref h.objs.size, .none, .none, .none, .bool false, .none] }, g, d, t, os⟩) (hrest : rest.length ≤ sizeLine) :
    codeAny (model prog w) A (.builtin newId ⟨.ref C :: rest, kw⟩) R ⟨h, g, d, t, os⟩ := by
  have hends := F.ends
  have hcB : (Value.ref C :: bm).contains (.type B) = true := by rw [List.contains_cons, hT, F.hasB, Bool.or_true]
  have hcA : (Value.ref C :: bm).contains (.type "AttributeError") = false := by rw [List.contains_cons, hT, F.noAttr]; rfl
  have hcN : (Value.ref C :: bm).contains (.type "NameError") = false := by rw [List.contains_cons, hT, F.noName]; rfl
  refine codeAny_builtinAt F.entry ?_
  unfold Builtin.«BaseException.__new__»
  refine wpAt_bind ?_
  show wpAt _ _ _ (stack >>= _) _ _ _
  refine wpAt_bind (wpAt_stack fun p below => wpAt_of_wpAny ?_)
  wp_walk
  refine wpAt_of_wpAny ?_
  rw [F.owner]
  repeat (first | with_reducible refine wpAny_madeHere_exc F.canon hC ?_ | with_reducible refine wpAny_loadPart_at hC ?_ | (with_reducible refine wpAny_isSubtype_exc hC ?_; first | rw [hcB] | rw [hcA] | rw [hcN]) | wp_step)
  show R _ _
  rw [Heap.size_push]
  exact hq
theorem type_callK (F : ExcBaseFacts B newId initId bmB) (hT : ∀ X : String, bm.contains (.type X) = bmB.contains (.type X)) {rest : List Value} {kw : List (Str × Value)} {fI : Addr} {Q : Fin → Shared → Prop}
    (hC : h.get? C = some (excClassObj nm q C N bs bm hdct sn sub ab col dd k0 k1 k2 k3 k5 newId))
    (hi : W.Looks (model prog w) h (typeLookup (.ref C) "__init__") (some (.ref fI))) (hb : ∀ self, W.Looks (model prog w) h (bindSpecial (.ref fI) self) (.ref fI, [self])) (hrest : rest.length ≤ sizeLine)
    (hq : codeAny (model prog w) A (.call (.ref fI) ⟨.ref (h.objs.size + 1) :: rest, kw⟩)
      (fun r s' => match r with | .ok (.ret v) => v = .none ∧ Q (.done (.ret (.ref (h.objs.size + 1)))) s' | .ok _ => False | .error e => E e s')
      ⟨(h.push (W.kdv_tup rest)).push (excO C h.objs.size), g, d, t, os⟩) :
    wpAny (model prog w) A (Builtin.«type.__call__» ⟨.ref C :: rest, kw⟩) Q E ⟨h, g, d, t, os⟩ := by
  repeat (first | with_reducible refine wpAny_loadPart_at hC ?_ | with_reducible refine wpAny_madeBy_exc hC ?_ | wp_step)
  refine codeAny_call_builtin_code (Code.quiet_builtin _ F.quiet) (check_newK F hT hC ?_)
  refine newK F hT hC ?_ hrest
  show wpAny _ _ _ _ _ _
  have k : ∀ b o, h.get? b = some o → ((h.push (W.kdv_tup rest)).push (excO C h.objs.size)).get? b = some o := fun b o e => Heap.get?_push_of_some _ (Heap.get?_push_of_some _ e)
  have hC₁ := k _ _ hC
  have hget : ((h.push (W.kdv_tup rest)).push (excO C h.objs.size)).get? (h.objs.size + 1) = some (excO C h.objs.size) := by heap_get
  have hcC : (Value.ref C :: bm).contains (.ref C) = true := by simp
  have i1 := hi.keeps k
  have b1 := (hb (.ref (h.objs.size + 1))).keeps k
  unfold isInstance
  repeat (first | with_reducible refine wpAny_loadPart_at hget ?_ | (with_reducible refine wpAny_isSubtype_exc hC₁ ?_; rw [hcC]) | wp_step)
  show wpAny _ _ (typeLookup (.ref C) _) _ _ _
  refine i1.at ?_
  refine wpAny_holding (wpAny_bind (b1.at ?_))
  refine wpAny_bind (wpAny_call (codeAny_mono hq fun r s' z => ?_))
  rcases r with e | (v | _ | _ | _) <;> first | exact z | exact z.elim | skip
  obtain ⟨rfl, z⟩ := z
  first
    | exact wpAny_pure (wpAny_pure z)
    | (wp_walk; exact z)
theorem call_ownK (F : ExcBaseFacts B newId initId bmB) (hT : ∀ X : String, bm.contains (.type X) = bmB.contains (.type X)) {rest : List Value} {kw : List (Str × Value)} {fI : Addr}
    (hC : h.get? C = some (excClassObj nm q C N bs bm hdct sn sub ab col dd k0 k1 k2 k3 k5 newId))
    (hi : W.Looks (model prog w) h (typeLookup (.ref C) "__init__") (some (.ref fI))) (hb : ∀ self, W.Looks (model prog w) h (bindSpecial (.ref fI) self) (.ref fI, [self])) (hrest : rest.length ≤ sizeLine)
    (hq : codeAny (model prog w) (A.under (.builtin "type.__call__" ⟨.ref C :: rest, kw⟩)) (.call (.ref fI) ⟨.ref (h.objs.size + 1) :: rest, kw⟩) (W.InitBack (h.objs.size + 1) R)
      ⟨(h.push (W.kdv_tup rest)).push (excO C h.objs.size), g, d, t, os⟩) :
    codeAny (model prog w) A (.call (.ref C) ⟨rest, kw⟩) R ⟨h, g, d, t, os⟩ := by
  have f1 := tc_lookup
  have f2 := tc_bind (.ref C)
  have hTy : (⟨h, g, d, t, os⟩ : Shared).TypeIs (.ref C) "type" := ⟨_, hC, rfl⟩
  refine codeAny_of_tree ?_
  show wpAny _ _ (callAny (.ref C) _) _ _ _
  repeat (any_goals (first | assumption | with_reducible refine wpAny_loadPart_at hC ?_ | wp_step))
  refine ⟨rfl, ?_⟩
  refine codeAny_call_builtin_at (Code.quiet_builtin _ (by decide +kernel)) entry_typeCall (wpAny_check_type_call_sub hC (type_callK F hT hC hi hb hrest ?_))
  refine codeAny_mono hq fun r s' z => ?_
  rcases r with e | (v | _ | _ | _) <;> exact z
end
end KXP
end PySem
namespace KX
open PySem PySem.Spec PyProof.Rows L2
/-! ### C(e, .., k = v, ..): an own exception as a value -/
def tMkV (C : Addr) (n m : Nat) (sp : Sp) (gV : List V → List V → List V) (t tk : TA) : TE := fun σ H Q => t σ H fun vs H1 => tk σ H1 fun zs H2 => vs.length = n ∧ zs.length = m ∧
  ∀ a, H2 a = none → sp (gV (.ref a :: vs) zs) (upd H2 a (exo a C none)) (fun v H3 => v = .non ∧ Q (.ref a) H3) (fun _ _ _ => False)
/-- the class and its __init__ -/
structure OxI (K : PySem.W.Frag) (C fI : Addr) : Prop where
  T : OexC K C
  iC : PySem.W.findIn K (.ref C) "__init__" = some (some (.ref fI))
  tI : PySem.W.typeIn K (.ref fI) = some (.type "function")
section
variable {X : Cx} {CX : CXT} {k n : Nat} {C fI : Addr} {fd : FuncData} {ps ks : List Str} {sp : Sp} {x : Str} {p pos : Pos} {e : Expr} {es : List Expr} {kws : List Keyword} {t tk : TA} {g : List Value → List Value → List Value} {gV : List V → List V → List V}
theorem run_excN {pins : List (Addr × Obj)} {σ : L2.St} {H : Hp} {s : Shared} {Q : VK} {us ws : List Value} {vs zs : List V} (O : OxI X.K C fI) (F1 : FnOk X.prog X.w X.K X.mg X.base CX k fI fd ps sp) (hr : Room (k + 1) X.A) (hb : KBn X.K fd ps (n + 1) ks g gV)
    (hx : Passes CX X (fun _ _ _ => False)) (I : Inv X pins σ H s) (r : Vals vs us) (rz : Vals zs ws) (l1 : vs.length = n) (l2 : zs.length = ks.length) (hn9 : n ≤ 1000)
    (h : ∀ a, H a = none → sp (gV (.ref a :: vs) zs) (upd H a (exo a C none)) (fun v H3 => v = .non ∧ Q (.ref a) H3) (fun _ _ _ => False)) :
    wpAny (model X.prog X.w) X.A (call (.ref C) us (ks.zip ws)) (EP X pins σ Q) X.xe s := by
  obtain ⟨nm, q, N, bs, bm, sn, sub, ab, col, dd, k0, k1, k2, k3, k5, hC, hbm⟩ := O.T.cls
  obtain ⟨hp, gg, dr, tk, os⟩ := s
  have hsz : hp.objs.size ≤ hp.objs.size + 1 := Nat.le_succ _
  have hn : H (hp.objs.size + 1) = none := I.hok.fresh hsz
  have hq := h (hp.objs.size + 1) hn
  have kk : ∀ b o, hp.get? b = some o → ((hp.push (PySem.W.kdv_tup us)).push (PySem.HandSPX.excO C hp.objs.size)).get? b = some o := fun b o e => Heap.get?_push_of_some _ (Heap.get?_push_of_some _ e)
  have hget : ((hp.push (PySem.W.kdv_tup us)).push (PySem.HandSPX.excO C hp.objs.size)).get? (hp.objs.size + 1) = some (PySem.HandSPX.excO C hp.objs.size) := by heap_get
  have I2 : Inv X pins σ (upd H (hp.objs.size + 1) (exo (hp.objs.size + 1) C none)) ⟨(hp.push (PySem.W.kdv_tup us)).push (PySem.HandSPX.excO C hp.objs.size), gg, dr, tk, os⟩ :=
    I.laid (t' := tk) (a := hp.objs.size + 1) (o := exo (hp.objs.size + 1) C none) (h' := (hp.push (PySem.W.kdv_tup us)).push (PySem.HandSPX.excO C hp.objs.size)) kk hsz (exo_ok hget)
  have r1 : Vals (V.ref (hp.objs.size + 1) :: vs) (Value.ref (hp.objs.size + 1) :: us) := .cons rfl r
  have r2 := hb.rel r1 rz
  have e1 : (Value.ref (hp.objs.size + 1) :: us).length = n + 1 := r1.length.symm.trans (congrArg Nat.succ l1)
  have e2 : ws.length = ks.length := rz.length.symm.trans l2
  have hus : us.length ≤ sizeLine := by
    rw [← Paired.length r, l1, sizeLine_eq]
    omega
  refine wpAny_call (PySem.KXP.call_ownK F.excBase_ValueError (fun Y => PySem.HandSPX.refsVE_contains Y bm hbm) (I.kIn _ _ hC) (PySem.W.looks_findIn I.kIn O.iC) (fun self => PySem.W.bind_fn I.kIn self O.tI) hus
    (codeAny_mono (F1.run _ X.stack _ _ ⟨Value.ref (hp.objs.size + 1) :: us, ks.zip ws⟩ (g (Value.ref (hp.objs.size + 1) :: us) ws) _ _ (fun _ _ _ => False) (hr.make C us (ks.zip ws)) (I2.env0.make C us (ks.zip ws)) (hb.to _ (Value.ref (hp.objs.size + 1) :: us) ws I2.kIn e1 e2) r2 hq) fun r s' hq' => ?_))
  cases r with
  | error er => exact hx pins σ _ _ er s' I2 hq'
  | ok fl =>
    cases fl with
    | ret u =>
      obtain ⟨v, H2, os2, bare2, un, hok2, rv, ev, q2⟩ := hq'
      subst ev
      obtain ⟨h2, g2, d2, t2, os'⟩ := s'
      have nha : ∀ {b : Addr} {o : Obj}, hp.get? b = some o → b ≠ hp.objs.size + 1 := fun {b o} z => Nat.ne_of_lt (Nat.lt_of_lt_of_le (Heap.lt_size z) hsz)
      have up : ∀ {b : Addr}, b ≠ hp.objs.size + 1 → H b = none → upd H (hp.objs.size + 1) (exo (hp.objs.size + 1) C none) b = none := fun {b} hb n => by rw [upd_ne hb]; exact n
      have U : Un (frs X.stack) [] H H2 hp h2 := {
        keep := fun b o z n hf hx => un.keep b o (kk b o z) (up (nha z) n) hf hx
        slot := fun b o z n hf hx => un.slot b o (kk b o z) (up (nha z) n) hf hx
        free := fun b o z n hx => un.free b o (kk b o z) (up (nha z) n) hx
        there := fun b o z hx => un.there b o (kk b o z) hx
        tups := fun b xs z => un.tups b xs (by rw [upd_ne (ne_of_none z hn)]; exact z)
        frzs := fun b o v z => un.frzs b o v (by rw [upd_ne (ne_of_none z hn)]; exact z)
        tbls := fun b ps z => un.tbls b ps (by rw [upd_ne (ne_of_none z hn)]; exact z) }
      have J : Inv X pins σ H2 ⟨h2, g2, d2, t2, os'⟩ := I.call' (ch := []) os2 U hok2 bare2 (fun b z => absurd z (by simp))
      exact ⟨rv, ⟨V.ref (hp.objs.size + 1), H2, J, rfl, q2⟩⟩
    | next => exact False.elim hq'
    | brk => exact False.elim hq'
    | cont => exact False.elim hq'
theorem pe_excV (O : OxI X.K C fI) (F1 : FnOk X.prog X.w X.K X.mg X.base CX k fI fd ps sp) (hr : Room (k + 1) X.A) (hg : Gl X x) (hm : X.mg x = some (.ref C)) (hb : KBn X.K fd ps (n + 1) [] g gV) (hx : Passes CX X (fun _ _ _ => False)) (hn9 : n ≤ 1000)
    (ha : PA X (e :: es) t) (hdb : (x == ("__debug__" : Str)) = false := by decide) (he : starEach (e :: es) X.env = (false, eval e X.env) :: starEach es X.env := by rfl) (hpl : (backTo pos (starEach es X.env)).any (·.1) = false := by rfl) :
    PE X (.Call (.Name x p) (e :: es) [] pos) (tMkV C n 0 sp gV t tNil) := by
  refine ⟨fun pins s σ H Q I h => ?_⟩
  refine wpAny_Call_Name_kw (ld_glob I hg hm ?_ hdb)
  refine PySem.W.callWith_K (h₀ := X.base) I.ok.mod.kin O.T.kC (thn (ha.run pos pins s σ H _ I h) fun us s1 ⟨vs, H1, I1, r1, q1⟩ => ⟨I1.kIn, ?_⟩) he hpl
  obtain ⟨l1, l2, q2⟩ := (show vs.length = n ∧ ([] : List V).length = 0 ∧ _ from q1)
  exact run_excN (ws := []) (ks := []) O F1 hr hb hx I1 r1 .nil l1 rfl hn9 q2
theorem pe_excVK (O : OxI X.K C fI) (F1 : FnOk X.prog X.w X.K X.mg X.base CX k fI fd ps sp) (hr : Room (k + 1) X.A) (hg : Gl X x) (hm : X.mg x = some (.ref C)) (hb : KBn X.K fd ps (0 + 1) ks g gV) (hx : Passes CX X (fun _ _ _ => False))
    (hkw : PK X kws tk) (hall : (backToKw pos (keywordEach kws X.env)).all (·.1.isSome) = true := by rfl) (hks : (backToKw pos (keywordEach kws X.env)).filterMap (·.1) = ks := by rfl)
    (hdb : (x == ("__debug__" : Str)) = false := by decide) (hpl : ((backTo pos (starEach [] X.env)).any (·.1) || (backToKw pos (keywordEach kws X.env)).any (·.1.isNone)) = false := by rfl) :
    PE X (.Call (.Name x p) [] kws pos) (tMkV C 0 ks.length sp gV tNil tk) := by
  refine ⟨fun pins s σ H Q I h => ?_⟩
  refine wpAny_Call_Name_kw (ld_glob I hg hm ?_ hdb)
  refine PySem.W.callWith_KW0 (h₀ := X.base) I.ok.mod.kin O.T.kC hall ?_ hpl
  refine thn (hkw.run pos pins s σ H _ I h) fun ws s2 ⟨zs, H2, I2, rz, l1, l2, q2⟩ => ⟨I2.kIn, ?_⟩
  rw [hks]
  exact run_excN (us := []) (vs := []) O F1 hr hb hx I2 .nil rz rfl l2 (by omega) q2
end
/-! ### e.f of such a value -/
def ErD (H : Hp) (a C : Addr) (fs : List (Str × V)) : Prop := ∃ d, H a = some (exo a C (some d)) ∧ H d = some (exd d fs)
theorem ErD.up {H H' : Hp} {a C : Addr} {fs : List (Str × V)} (e : Evl.Ex H H') (h : ErD H a C fs) : ErD H' a C fs := let ⟨d, x, y⟩ := h; ⟨d, e _ _ x, e _ _ y⟩
structure XfD (K : PySem.W.Frag) (C : Addr) (f : Str) : Prop where
  T : XfC K C
  no : PySem.W.findIn K (.ref C) f = some none
def tXv (K : PySem.W.Frag) (f : Str) (te : TE) : TE := fun σ H Q => te σ H fun x H1 => ∃ (a C : Addr) (fs : List (Str × V)) (v : V), x = .ref a ∧ ErD H1 a C fs ∧ XfD K C f ∧ fs.lookup f = some v ∧ Q v H1
theorem pe_xv {X : Cx} {e : Expr} {te : TE} {pos : Pos} {n : Str} (he : PE X e te) (hb : attributeBase e n X.env (eval e X.env) = eval e X.env := by rfl) : PE X (.Attribute e n pos) (tXv X.K n te) := by
  refine ⟨fun pins s σ H Q I h => ?_⟩
  refine attr_of hb (thn (he.run pins s σ H _ I h) fun u s1 hh => ?_)
  obtain ⟨x, H1, I1, rx, a, C, fs, v, ex, ⟨dd, ea, ed⟩, D, l, q⟩ := hh
  subst ex
  obtain rfl : u = Value.ref a := rx
  obtain ⟨t0, ha⟩ := exo_at I1.hok ea
  obtain ⟨mA, hns, hr⟩ := exd_at I1.hok ed
  obtain ⟨od, ho, hl⟩ := lookIn_ns hns
  obtain ⟨u, hu, ru⟩ := RelO.some_of (v := v) (o := mA n) (by rw [← l]; exact hr n)
  have J : PySem.W.InstAt s1.heap a ({ cls := .ref C, dict := some dd, data := .fields #[.ref t0, .none, .none, .none, .bool false, .none] } : Obj) C (some od) := ⟨ha, rfl, rfl, ho⟩
  exact HandSPX.exc_get I1.kIn J D.T.ga D.T.gg D.T.exC (PySem.W.findObj_own D.T.hdC D.no rfl (by rw [hl, hu])) (handed_of ru) ⟨v, H1, I1.tok _, ru, q⟩
/-! ### isinstance of such a value -/
structure IsXC (K : PySem.W.Frag) (C : Addr) : Prop where
  cl : (PySem.W.clsIn K C).isSome = true
  ga : PySem.W.findIn K (.ref C) "__getattribute__" = some (some (.builtin "BaseException.__getattribute__"))
  gg : PySem.W.findIn K (.ref C) "__getattr__" = some none
  sb : PySem.W.subIn K (.ref C) (.type "BaseException") = some true
  ac : PySem.W.findIn K (.ref C) "__class__" = some (some (.builtin "object.__class__"))
  sp : PySem.W.specialIn K (.builtin "object.__class__") "__get__" = some (some (.builtin "getset_descriptor.__get__"))
  tk : PySem.W.takesIn K (.builtin "object.__class__") = some true
  mr : PySem.W.mroIn K C (.type "object") = some true
def ErA (H : Hp) (a C : Addr) : Prop := H a = some (exo a C none) ∨ ∃ fs, ErD H a C fs
theorem ErA.up {H H' : Hp} {a C : Addr} (e : Evl.Ex H H') (h : ErA H a C) : ErA H' a C := by
  rcases h with h | ⟨fs, h⟩
  · exact .inl (e _ _ h)
  · exact .inr ⟨fs, h.up e⟩
def rIsX (K : PySem.W.Frag) : List V → Hp → VK → Prop := fun xs H Q => ∃ (a C : Addr) (c : V) (u : Value) (b : Bool), xs = [.ref a, c] ∧ ErA H a C ∧ IsXC K C ∧ ClsV c u ∧ PySem.W.kitOne K (.ref C) u = some b ∧ Q (.bl b) H
def rIsXT (K : PySem.W.Frag) : List V → Hp → VK → Prop := fun xs H Q => ∃ (a C tp : Addr) (cs : List V) (us : List Value) (b : Bool), xs = [.ref a, .ref tp] ∧ ErA H a C ∧ IsXC K C ∧ H tp = some (.tup cs) ∧ Paired ClsV cs us ∧ PySem.W.kitAny K (.ref C) us = some b ∧ Q (.bl b) H
theorem erA_inst {P : Program} {w : World} {H : Hp} {h : Heap} {a C : Addr} (hok : HOk P w H h) (e : ErA H a C) : ∃ ox od, PySem.W.InstAt h a ox C od := by
  rcases e with e | ⟨fs, dd, ea, ed⟩
  · obtain ⟨t0, ha⟩ := exo_at hok e
    exact ⟨_, none, ha, rfl, rfl, trivial⟩
  · obtain ⟨t0, ha⟩ := exo_at hok ea
    obtain ⟨mA, hns, hr⟩ := exd_at hok ed
    obtain ⟨od, ho, hl⟩ := lookIn_ns hns
    exact ⟨_, some od, ha, rfl, rfl, ho⟩
section
variable {X : Cx}
theorem call_isX : CallR X (.builtin "isinstance") (rIsX X.K) := by
  intro pins s σ H xs us Q I r h
  obtain ⟨a, C, c, u, b, rfl, ea, D, k, e, q⟩ := h
  obtain ⟨u1, u2, rfl, r1, r2⟩ := vals2 r
  cases (show u1 = Value.ref a from r1)
  have e2 := k.eq r2
  subst e2
  obtain ⟨ox, od, J⟩ := erA_inst I.hok ea
  exact PySem.W.kia_one (PySem.W.kitx_exc D.cl D.ga D.gg D.sb D.ac D.sp D.tk D.mr) I.kIn J e (fun z => nomatch z) fun tk => ⟨.bl b, H, I.tok tk, rfl, q⟩
theorem call_isXT : CallR X (.builtin "isinstance") (rIsXT X.K) := by
  intro pins s σ H xs us Q I r h
  obtain ⟨a, C, tp, cs, ws, b, rfl, ea, D, hT, k, e, q⟩ := h
  obtain ⟨u1, u2, rfl, r1, r2⟩ := vals2 r
  cases (show u1 = Value.ref a from r1)
  cases (show u2 = Value.ref tp from r2)
  obtain ⟨ox, od, J⟩ := erA_inst I.hok ea
  obtain ⟨_, its, rv, o, h1, h2, n, h3⟩ := (show ObjOk X.prog X.w H s.heap tp (.tup cs) from I.hok tp _ hT)
  have e3 := ClsV.all k rv
  subst e3
  obtain ⟨oc, od', dt, sl⟩ := o
  simp only at h2 h3
  subst h2 h3
  exact PySem.W.kia_tup (PySem.W.kitx_exc D.cl D.ga D.gg D.sb D.ac D.sp D.tk D.mr) I.kIn J h1 e (fun z => nomatch z) fun tk => ⟨.bl b, H, I.tok tk, rfl, q⟩
end
end KX
namespace KR
open PySem PySem.Spec PyProof.Rows L2
/-! ### for over a list or a tuple -/
def iSeq (K : PySem.W.Frag) (tl : TE) : TI := fun σ H R => tl σ H fun x H1 => ∃ a, x = .ref a ∧ ((∃ xs, SqL K H1 a xs ∧ R (Itl K a) H1) ∨ ∃ xs, SqT K H1 a xs ∧ R (Itt K a) H1)
theorem pi_seq {X : Cx} {tg l : Expr} {tl : TE} (hl : PE X l tl) : PI X tg l (iSeq X.K tl) := by
  refine ⟨fun pins s σ H R I h => ?_⟩
  refine thn (hl.run pins s σ H _ I h) fun v s1 ⟨x, H1, I1, r1, q1⟩ => ?_
  obtain ⟨a, e, q1⟩ := q1
  subst e
  cases r1
  rcases q1 with ⟨xs, hq, q⟩ | ⟨xs, hq, q⟩
  · obtain ⟨its, rv, p, hz⟩ := I1.list hq
    refine wpAny_pyIter_list p.isList ?_
    refine ⟨s1.heap.objs.size, [s1.heap.objs.size], _, _, H1, rfl, I1.kept (t' := s1.toks) fun b o e => Heap.get?_push_of_some _ e, turn_list a _, ⟨_, Heap.get?_push_size _ rfl, rfl, rfl⟩, fun b hb => ?_, q⟩
    have e : b = s1.heap.objs.size := by simpa using hb
    subst e
    exact I1.fpOk (Nat.le_refl _) (I1.hok.fresh (Nat.le_refl _))
  · obtain ⟨its, rv, p, hz⟩ := I1.tuple hq
    refine wpAny_pyIter_tuple (show s1.heap.IsTuple a its.toArray from p) ?_
    refine ⟨s1.heap.objs.size, [s1.heap.objs.size], _, _, H1, rfl, I1.kept (t' := s1.toks) fun b o e => Heap.get?_push_of_some _ e, turn_tuple a _, ⟨_, Heap.get?_push_size _ rfl, rfl, rfl⟩, fun b hb => ?_, q⟩
    have e : b = s1.heap.objs.size := by simpa using hb
    subst e
    exact I1.fpOk (Nat.le_refl _) (I1.hok.fresh (Nat.le_refl _))
/-! ### a call by keywords alone -/
section
variable {X : Cx} {CX : CXT} {k : Nat} {f : Addr} {fd : FuncData} {ps ks : List Str} {sp : Sp} {E : XK} {x : Str} {p pos : Pos} {kws : List Keyword} {tk : TA} {g : List Value → List Value → List Value} {gV : List V → List V → List V}
theorem pe_callN0 (F : FnOk X.prog X.w X.K X.mg X.base CX k f fd ps sp) (hr : Room k X.A) (hg : Gl X x) (hm : X.mg x = some (.ref f)) (hk : PySem.W.keepIn X.K (.ref f) = true) (hb : KBn X.K fd ps 0 ks g gV) (hx : Passes CX X E)
    (hkw : PK X kws tk) (hall : (backToKw pos (keywordEach kws X.env)).all (·.1.isSome) = true := by rfl) (hks : (backToKw pos (keywordEach kws X.env)).filterMap (·.1) = ks := by rfl)
    (hdb : (x == ("__debug__" : Str)) = false := by decide) (hpl : ((backTo pos (starEach [] X.env)).any (·.1) || (backToKw pos (keywordEach kws X.env)).any (·.1.isNone)) = false := by rfl) :
    PE X (.Call (.Name x p) [] kws pos) (tCallN 0 ks.length sp gV E tNil tk) := by
  refine ⟨fun pins s σ H Q I h => ?_⟩
  refine wpAny_Call_Name_kw (ld_glob I hg hm ?_ hdb)
  refine PySem.W.callWith_KW0 (h₀ := X.base) I.ok.mod.kin hk hall ?_ hpl
  refine thn (hkw.run pos pins s σ H _ I h) fun ws s2 ⟨zs, H2, I2, rz, l1, l2, q2⟩ => ⟨I2.kIn, ?_⟩
  rw [hks]
  exact run_fnN (us := []) (vs := []) F hr hb hx I2 .nil rz rfl l2 q2
end
end KR
namespace KS
open PySem PySem.Spec PyProof.Rows L2 KR Evl
/-! ### a list or a tuple of ints; of such -/
def Sq (K : PySem.W.Frag) (H : Hp) (a : Addr) (xs : List V) : Prop := SqL K H a xs ∨ SqT K H a xs
theorem Sq.up {K : PySem.W.Frag} {H H' : Hp} {a : Addr} {xs : List V} (e : Ex H H') (h : Sq K H a xs) : Sq K H' a xs := by
  rcases h with h | h
  · exact .inl (ex_l e h)
  · exact .inr (ex_t e h)
theorem pget {α β : Type} {F : α → β → Prop} : ∀ {xs : List α} {ys : List β} {i : Nat} {x : α}, Paired F xs ys → xs[i]? = some x → ∃ y, ys[i]? = some y ∧ F x y
  | _, _, _, _, .nil, e => by simp at e
  | _, _, 0, _, .cons r _, e => by simp at e; subst e; exact ⟨_, rfl, r⟩
  | _, _, i + 1, x, .cons _ t, e => by
    obtain ⟨u, h1, h2⟩ := pget (i := i) (x := x) t (by simpa using e)
    exact ⟨u, by simpa using h1, h2⟩
/-- for over a list or tuple, told by one word -/
theorem s_forSq {K : PySem.W.Frag} {σ : L2.St} {H0 H : Hp} {D : Ends} {tu : TS} {g : TG} {a : Addr} {xs : List V} {tl : TE} (h : Ev tl σ H (.ref a)) (hx : Sq K H0 a xs) (e0 : Ex H0 H) (Pv : Nat → L2.St → Hp → Prop) (h0 : ∀ H1, Ex H H1 → Pv 0 σ H1) (hl : ∀ i σ' H', i ≤ xs.length → Pv i σ' H' → Ex H0 H')
    (hs : ∀ i x σ' H', xs[i]? = some x → Pv i σ' H' → g x σ' H' fun σ2 H2 => tu { D with nx := Pv (i + 1), ct := Pv (i + 1), bk := D.nx } σ2 H2) (hd : ∀ σ' H', Pv xs.length σ' H' → D.nx σ' H') : tFor (iSeq K tl) g tu D σ H :=
  h H (Ex.refl H) _ fun H1 e => ⟨a, rfl, by
    rcases hx with hx | hx
    · exact .inl ⟨xs, ex_l (e0.trans e) hx, for_list Pv (h0 H1 e) (fun i σ' H' hi p => ex_l (hl i σ' H' hi p) hx) hs hd⟩
    · exact .inr ⟨xs, ex_t (e0.trans e) hx, for_tup Pv (h0 H1 e) (fun i σ' H' hi p => ex_t (hl i σ' H' hi p) hx) hs hd⟩⟩
theorem len_putK (kvs : List (Key × V)) (k : Key) (v : V) : (putK kvs k v).length ≤ kvs.length + 1 := by
  unfold putK
  split
  · simp
  · simp
theorem rev_ind {α : Type} {P : List α → Prop} (h0 : P []) (hs : ∀ l x, P l → P (l ++ [x])) : ∀ l, P l := by
  have key : ∀ r : List α, P r.reverse := by
    intro r
    induction r with
    | nil => exact h0
    | cons a r ih =>
      rw [List.reverse_cons]
      exact hs _ _ ih
  intro l
  have := key l.reverse
  rw [List.reverse_reverse] at this
  exact this
theorem val_at {κ : Type} [DecidableEq κ] {kvs : List (κ × V)} (nd : (kvs.map (·.1)).Nodup) {i : Nat} {k : κ} {v : V} (h : kvs[i]? = some (k, v)) : valV kvs k = some v := by
  induction kvs generalizing i with
  | nil => simp at h
  | cons p r ih =>
    have nd' : (p.1 :: r.map (·.1)).Nodup := nd
    obtain ⟨n1, n2⟩ := List.nodup_cons.mp nd'
    cases i with
    | zero =>
      have e : p = (k, v) := by simpa using h
      rw [e]
      exact valV_pos rfl
    | succ i =>
      have h' : r[i]? = some (k, v) := by simpa using h
      have hne : ¬ p.1 = k := fun z => n1 (by
        rw [z]
        exact List.mem_map.mpr ⟨(k, v), List.mem_of_getElem? h', rfl⟩)
      rw [valV_neg hne]
      exact ih n2 h'
theorem at_val {κ : Type} [DecidableEq κ] {kvs : List (κ × V)} {k : κ} {v : V} (h : valV kvs k = some v) : ∃ i : Nat, kvs[i]? = some (k, v) := by
  unfold valV at h
  cases e : kvs.find? fun kv => decide (kv.1 = k) with
  | none => rw [e] at h; cases h
  | some p =>
    rw [e] at h
    have h1 := List.find?_some e
    have h2 := List.mem_of_find?_eq_some e
    obtain ⟨i, hi⟩ := List.getElem?_of_mem h2
    refine ⟨i, hi.trans ?_⟩
    have e1 : p.1 = k := of_decide_eq_true h1
    have e2 : p.2 = v := Option.some.inj h
    rw [← e1, ← e2]
theorem paired_snoc {α β : Type} {F : α → β → Prop} : ∀ {xs : List α} {ys : List β} {x : α} {y : β}, Paired F xs ys → F x y → Paired F (xs ++ [x]) (ys ++ [y])
  | _, _, _, _, .nil, h => .cons h .nil
  | _, _, _, _, .cons r t, h => .cons r (paired_snoc t h)
/-! ### readings opened -/
theorem q_as {te : TE} {g : TG} {u : TS} {D : Ends} {σ : L2.St} {H : Hp} (h : te σ H (fun x H1 => g x σ H1 (u D))) : tSeq (tAsg te g) u D σ H := h
theorem s_as {te : TE} {g : TG} {D : Ends} {σ : L2.St} {H : Hp} (h : te σ H (fun x H1 => g x σ H1 D.nx)) : tAsg te g D σ H := h
theorem s_re {te : TE} {D : Ends} {σ : L2.St} {H : Hp} (h : te σ H D.rt) : tRet te D σ H := h
theorem c_op {sp : Sp} {dvs : List V} {E : XK} {t : TA} {σ : L2.St} {H : Hp} {Q : VK} (h : t σ H (fun vs H1 => sp (vs ++ dvs) H1 Q E)) : tCall sp dvs E t σ H Q := h
theorem cb_op {r : List V → Hp → VK → Prop} {t : TA} {σ : L2.St} {H : Hp} {Q : VK} (h : t σ H (fun vs H1 => r vs H1 Q)) : tCB r t σ H Q := h
theorem a_op {te : TE} {t : TA} {σ : L2.St} {H : Hp} {Q : List V → Hp → Prop} (h : te σ H (fun x H1 => t σ H1 fun xs H2 => Q (x :: xs) H2)) : tCons te t σ H Q := h
theorem l_op {t : TA} {σ : L2.St} {H : Hp} {Q : VK} (h : t σ H fun xs H1 => xs.length ≤ sizeLine ∧ ∀ p, H1 p = none → Q (.ref p) (upd H1 p (.lst xs))) : tLst t σ H Q := h
theorem th_op {te : TE} {k : V → Hp → VK → Prop} {σ : L2.St} {H : Hp} {Q : VK} (h : te σ H (fun x H1 => k x H1 Q)) : tThen te k σ H Q := h
theorem q_if0 {c : TT} {t u v : TS} {D : Ends} {σ : L2.St} {H : Hp} (h : c σ H fun b H1 => if b = true then t { D with nx := v D } σ H1 else u { D with nx := v D } σ H1) : tSeq (tIfS c t u) v D σ H := h
theorem s_if0 {c : TT} {t u : TS} {D : Ends} {σ : L2.St} {H : Hp} (h : c σ H fun b H1 => if b = true then t D σ H1 else u D σ H1) : tIfS c t u D σ H := h
/-! ### comprehensions by what their items are worth -/
section
variable {K : PySem.W.Frag} {σ : L2.St} {H : Hp}
/-- a dict comprehension over what is walked -/
theorem dc_it {J : It} {n : Nat} {G : Hp → Prop} {Y : Nat → Hp → V → Hp → Prop} (w : Walk J n G Y) {g : TG} {tt : TT} {tk tv : TE} {vs : List Nat} {D : Addr} {Qd : Hp → Prop} (Pv : Nat → Hp → Prop) (h0 : Pv 0 (upd H D (.dK []))) (hG : ∀ i H, i ≤ n → Pv i H → G H)
    (hs : ∀ i x H H', i < n → Pv i H → Y i H x H' → g x (wipe σ vs) H' fun σ2 H2 => wipe σ2 vs = wipe σ vs ∧ tt σ2 H2 fun b H3 =>
      if b = true then tk σ2 H3 fun y H4 => tv σ2 H4 fun z H5 => ∃ kvs k, y = kV k ∧ H5 D = some (.dK kvs) ∧ kvs.length < sizeLine ∧ Pv (i + 1) (upd H5 D (.dK (putK kvs k z))) else Pv (i + 1) H3) (hd : ∀ H, Pv n H → Qd H) :
    ∃ W : Nat → Nat → Hp → Prop, (∃ m, W 0 m (upd H D (.dK []))) ∧ ∀ i m H, W i m H →
      (J.stop i H ∧ Qd H) ∨ (J.go i H ∧ ∃ Nx : Hp → Prop, (∀ H', Nx H' → ∃ m', m' < m ∧ W (i + 1) m' H') ∧ ∀ x H', J.yld i H x H' → g x (wipe σ vs) H' fun σ2 H2 => wipe σ2 vs = wipe σ vs ∧ tt σ2 H2 fun b H3 =>
        if b = true then tk σ2 H3 fun y H4 => tv σ2 H4 fun z H5 => ∃ kvs k, y = kV k ∧ H5 D = some (.dK kvs) ∧ kvs.length < sizeLine ∧ Nx (upd H5 D (.dK (putK kvs k z))) else Nx H3) := by
  refine ⟨fun i m H => m + i = n ∧ Pv i H, ⟨n, rfl, h0⟩, fun i m H ⟨hm, p⟩ => ?_⟩
  have hq := hG i H (by omega) p
  rcases Nat.lt_or_ge i n with hlt | hge
  · exact .inr ⟨w.goes i H hlt hq, Pv (i + 1), fun H' p' => ⟨m - 1, by omega, by omega, p'⟩, fun x H' y => hs i x H H' hlt p (w.yields i H x H' hlt hq y)⟩
  · obtain rfl : i = n := by omega
    exact .inl ⟨w.stops H hq, hd H p⟩
theorem p_take {α β : Type} {F : α → β → Prop} {vs : List α} {ys : List β} {i : Nat} {v : α} {y : β} (h : Paired F vs (ys.take i)) (hy : ys[i]? = some y) (hv : F v y) : Paired F (vs ++ [v]) (ys.take (i + 1)) := by
  rw [List.take_add_one, hy]
  exact paired_snoc h hv
/-- a new object, told by G -/
def EvF {β : Type} (G : HO → β → Prop) (te : TE) (σ : L2.St) (H : Hp) (y : β) : Prop := ∀ H1, Ex H H1 → ∀ Q : VK, (∀ a o H2, H1 a = none → Ex H1 H2 → H2 a = some o → G o y → Q (.ref a) H2) → te σ H1 Q
def Ob {β : Type} (G : HO → β → Prop) (H : Hp) (v : V) (y : β) : Prop := ∃ a o, v = .ref a ∧ H a = some o ∧ G o y
theorem Ob.up {β : Type} {G : HO → β → Prop} {H H' : Hp} {v : V} {y : β} (e : Ex H H') (h : Ob G H v y) : Ob G H' v y := let ⟨a, o, x, b, c⟩ := h; ⟨a, o, x, e a o b, c⟩
def Co {β : Type} (G : HO → β → Prop) (H : Hp) (ys : List β) (D : Addr) (i : Nat) (H' : Hp) : Prop := H D = none ∧ Ex H H' ∧ ∃ vs, H' D = some (.lst vs) ∧ Paired (fun v y => ∃ a o, v = .ref a ∧ a ≠ D ∧ H' a = some o ∧ G o y) vs (ys.take i)
theorem co_turn {β : Type} {G : HO → β → Prop} {H H' : Hp} {ys : List β} {D : Addr} {i : Nat} {te : TE} {σ2 : L2.St} {y : β} (hy : ys[i]? = some y) (hz : ys.length ≤ 50000) (p : Co G H ys D i H') (h : EvF G te σ2 H y) :
    tYes σ2 H' fun b H3 => if b = true then te σ2 H3 fun v H4 => ∃ acc, H4 D = some (.lst acc) ∧ acc.length < sizeLine ∧ Co G H ys D (i + 1) (upd H4 D (.lst (acc ++ [v]))) else Co G H ys D (i + 1) H3 := by
  obtain ⟨p1, p2, vs, p3, p4⟩ := p
  show te σ2 H' fun v H4 => ∃ acc, H4 D = some (.lst acc) ∧ acc.length < sizeLine ∧ Co G H ys D (i + 1) (upd H4 D (.lst (acc ++ [v])))
  refine h H' p2 _ fun a o H4 ha e4 ho hg => ⟨vs, e4 D _ p3, ?_, p1, Ex.mut (p2.trans e4) p1, vs ++ [.ref a], upd_same, ?_⟩
  · have l1 := Paired.length p4
    rw [List.length_take] at l1
    have l2 := (List.getElem?_eq_some_iff.mp hy).1
    exact sz_lt (by omega)
  · have hne : a ≠ D := fun z => by rw [z, p3] at ha; cases ha
    refine p_take (L2.Paired.mapP p4 fun v z ⟨b, u, c1, c2, c3, c4⟩ => ⟨b, u, c1, c2, ?_, c4⟩) hy ⟨a, o, rfl, hne, ?_, hg⟩
    · rw [upd_ne c2]
      exact e4 b u c3
    · rw [upd_ne hne]
      exact ho
theorem Co.end_ {β : Type} {G : HO → β → Prop} {H H' : Hp} {ys : List β} {D : Addr} (p : Co G H ys D ys.length H') : Ex H H' ∧ ∃ vs, H' D = some (.lst vs) ∧ Paired (Ob G H') vs ys := by
  obtain ⟨_, p2, vs, p3, p4⟩ := p
  rw [List.take_length] at p4
  exact ⟨p2, vs, p3, L2.Paired.mapP p4 fun v y ⟨a, o, c1, _, c3, c4⟩ => ⟨a, o, c1, c3, c4⟩⟩
theorem Co.start {β : Type} {G : HO → β → Prop} {H : Hp} {ys : List β} {D : Addr} (h : H D = none) : Co G H ys D 0 (upd H D (.lst [])) := ⟨h, Ex.new h, [], upd_same, .nil⟩
/-- a new list of new objects -/
def EvO' {β : Type} (G : HO → β → Prop) (te : TE) (σ : L2.St) (H : Hp) (ys : List β) : Prop := ∀ H1, Ex H H1 → ∀ Q : VK, (∀ p vs H2, H1 p = none → Ex H1 H2 → H2 p = some (.lst vs) → Paired (Ob G H2) vs ys → Q (.ref p) H2) → te σ H1 Q
/-- over a list or tuple: each item a new object -/
theorem eo_lcSq {β : Type} {G : HO → β → Prop} {a : Addr} {xs : List V} {tl te : TE} {j : Nat} {vs : List Nat} (ys : List β) (hl : xs.length = ys.length) (h : Ev tl σ H (.ref a)) (hx : Sq K H a xs) (hz : ys.length ≤ 40000) (hw : ∀ x, wipe ((wipe σ vs).set j (some x)) vs = wipe σ vs)
    (he : ∀ (i : Nat) (x : V) (y : β) H1, Ex H H1 → xs[i]? = some x → ys[i]? = some y → EvF G te ((wipe σ vs).set j (some x)) H1 y) : EvO' G (tLc (iSeq K tl) (gName j) tYes te vs) σ H ys := fun H0 e Q q => h H0 e _ fun H1 e1 => ⟨a, rfl, by
  have turn : ∀ (D : Addr) i x H', xs[i]? = some x → Co G H1 ys D i H' → gName j x (wipe σ vs) H' fun σ2 H2 => wipe σ2 vs = wipe σ vs ∧ tYes σ2 H2 fun b H3 =>
      if b = true then te σ2 H3 fun y H4 => ∃ acc, H4 D = some (.lst acc) ∧ acc.length < sizeLine ∧ Co G H1 ys D (i + 1) (upd H4 D (.lst (acc ++ [y]))) else Co G H1 ys D (i + 1) H3 := fun D i x H' hi p => by
    have hi2 : i < ys.length := by
      have := (List.getElem?_eq_some_iff.mp hi).1
      omega
    exact ⟨hw x, co_turn (List.getElem?_eq_getElem hi2) (by omega) p (he i x _ H1 (e.trans e1) hi (List.getElem?_eq_getElem hi2))⟩
  have fin : ∀ (D : Addr), H1 D = none → ∀ H', Co G H1 ys D xs.length H' → Q (.ref D) H' := fun D hD H' p => by
    rw [hl] at p
    obtain ⟨p2, vs', p3, p4⟩ := p.end_
    exact q D vs' H' (fresh_back e1 hD) (e1.trans p2) p3 p4
  rcases hx with hx | hx
  · exact .inl ⟨xs, ex_l (e.trans e1) hx, fun D hD => lc_it walk_list (Co G H1 ys D) (Co.start hD) (fun i H' _ p => ex_l ((e.trans e1).trans p.2.1) hx) (fun i x H' H'' hi p ⟨e2, hi2⟩ => by subst e2; exact turn D i x _ hi2 p) (fin D hD)⟩
  · exact .inr ⟨xs, ex_t (e.trans e1) hx, fun D hD => lc_it walk_tup (Co G H1 ys D) (Co.start hD) (fun i H' _ p => ex_t ((e.trans e1).trans p.2.1) hx) (fun i x H' H'' hi p ⟨e2, hi2⟩ => by subst e2; exact turn D i x _ hi2 p) (fin D hD)⟩⟩
/-- over a list or tuple: which items, and what each is worth -/
theorem el_lcSq {a : Addr} {xs : List V} {tl te : TE} {t : TT} {j : Nat} {vs : List Nat} (f : Nat → Bool) (v : Nat → V) (h : Ev tl σ H (.ref a)) (hx : Sq K H a xs) (hz : xs.length ≤ 40000) (hw : ∀ x, wipe ((wipe σ vs).set j (some x)) vs = wipe σ vs)
    (ht : ∀ (i : Nat) (x : V) H1, Ex H H1 → xs[i]? = some x → EvT t ((wipe σ vs).set j (some x)) H1 (f i)) (he : ∀ (i : Nat) (x : V) H1, Ex H H1 → xs[i]? = some x → f i = true → Ev te ((wipe σ vs).set j (some x)) H1 (v i)) :
    EvL (tLc (iSeq K tl) (gName j) t te vs) σ H (given xs.length f v) := fun H0 e Q q => h H0 e _ fun H1 e1 => ⟨a, rfl, by
  have turn : ∀ (D : Addr) i x H', xs[i]? = some x → Cw H1 f v D i H' → gName j x (wipe σ vs) H' fun σ2 H2 => wipe σ2 vs = wipe σ vs ∧ t σ2 H2 fun b H3 =>
      if b = true then te σ2 H3 fun y H4 => ∃ acc, H4 D = some (.lst acc) ∧ acc.length < sizeLine ∧ Cw H1 f v D (i + 1) (upd H4 D (.lst (acc ++ [y]))) else Cw H1 f v D (i + 1) H3 := fun D i x H' hi p =>
    ⟨hw x, cw_turn p (by have := (List.getElem?_eq_some_iff.mp hi).1; omega) (ht i x H1 (e.trans e1) hi) (he i x H1 (e.trans e1) hi)⟩
  have fin : ∀ (D : Addr), H1 D = none → ∀ H', Cw H1 f v D xs.length H' → Q (.ref D) H' := fun D hD H' p => q D H' (fresh_back e1 hD) (e1.trans p.2.1) p.2.2
  rcases hx with hx | hx
  · exact .inl ⟨xs, ex_l (e.trans e1) hx, fun D hD => lc_it walk_list (Cw H1 f v D) ⟨hD, Ex.new hD, upd_same⟩ (fun i H' _ p => ex_l ((e.trans e1).trans p.2.1) hx) (fun i x H' H'' hi p ⟨e2, hi2⟩ => by subst e2; exact turn D i x _ hi2 p) (fin D hD)⟩
  · exact .inr ⟨xs, ex_t (e.trans e1) hx, fun D hD => lc_it walk_tup (Cw H1 f v D) ⟨hD, Ex.new hD, upd_same⟩ (fun i H' _ p => ex_t ((e.trans e1).trans p.2.1) hx) (fun i x H' H'' hi p ⟨e2, hi2⟩ => by subst e2; exact turn D i x _ hi2 p) (fin D hD)⟩⟩
theorem et_yes {σ : L2.St} {H : Hp} : EvT tYes σ H true := fun H1 _ _ q => q H1 (Ex.refl H1)
theorem given_all {n : Nat} {v : Nat → V} {l : List V} (h : n = l.length) (hv : ∀ i x, l[i]? = some x → v i = x) : given n (fun _ => true) v = l := by
  unfold given
  rw [List.filter_eq_self.mpr (fun _ _ => rfl)]
  refine List.ext_getElem? fun i => ?_
  rw [List.getElem?_map]
  by_cases hi : i < n
  · rw [List.getElem?_range hi]
    obtain ⟨x, hx⟩ : ∃ x, l[i]? = some x := ⟨l[i]'(by omega), List.getElem?_eq_getElem (by omega)⟩
    rw [hx]
    exact congrArg some (hv i x hx)
  · rw [List.getElem?_eq_none (l := List.range n) (by simpa using hi), List.getElem?_eq_none (l := l) (by omega)]
    rfl
end
section
variable {K : PySem.W.Frag} {σ : L2.St} {H : Hp}
def EvS (K : PySem.W.Frag) (te : TE) (σ : L2.St) (H : Hp) (xs : List V) : Prop := ∀ H1, Ex H H1 → ∀ Q : VK, (∀ r H2, Ex H1 H2 → SqL K H2 r xs → Q (.ref r) H2) → te σ H1 Q
theorem EvL.s {te : TE} {xs : List V} (h : EvL te σ H xs) : EvS K te σ H xs := fun H1 e Q q => h H1 e Q fun p H2 _ e2 hp => q p H2 e2 (sq_of hp)
theorem ev_s {te : TE} {xs : List V} {a : Addr} (h : Ev te σ H (.ref a)) (hx : SqL K H a xs) : EvS K te σ H xs := fun H1 e Q q => h H1 e Q fun H2 e2 => q a H2 e2 (ex_l (e.trans e2) hx)
theorem el_lcS {xs : List V} {tl te : TE} {t : TT} {j : Nat} {vs : List Nat} (f : Nat → Bool) (v : Nat → V) (h : EvS K tl σ H xs) (hz : xs.length ≤ 40000) (hw : ∀ x, wipe ((wipe σ vs).set j (some x)) vs = wipe σ vs)
    (ht : ∀ (i : Nat) (x : V) H1, Ex H H1 → xs[i]? = some x → EvT t ((wipe σ vs).set j (some x)) H1 (f i)) (he : ∀ (i : Nat) (x : V) H1, Ex H H1 → xs[i]? = some x → f i = true → Ev te ((wipe σ vs).set j (some x)) H1 (v i)) :
    EvL (tLc (iList K tl) (gName j) t te vs) σ H (given xs.length f v) := fun H0 e Q q => h H0 e _ fun r H1 e1 hr => ⟨r, rfl, ⟨xs, hr⟩, fun D hD =>
  lc_it walk_list (Cw H1 f v D) ⟨hD, Ex.new hD, upd_same⟩ (fun i H' _ p => ex_l p.2.1 hr) (fun i x H' H'' hi p ⟨e2, hi2⟩ => by
    subst e2
    exact ⟨hw x, cw_turn p (by omega) (ht i x H1 (e.trans e1) hi2) (he i x H1 (e.trans e1) hi2)⟩) (fun H' p => q D H' (fresh_back e1 hD) (e1.trans p.2.1) p.2.2)⟩
end
open StX
/-! ### data compared -/
def intsD (l : List Int) : List PyData := l.map PyData.int
theorem dp_ints {K : PySem.W.Frag} {H : Hp} : ∀ l : List Int, DpAll K H (l.map V.int) (intsD l)
  | [] => .nil
  | x :: l => .cons (.int x) (dp_ints l)
theorem lay_ints : ∀ l : List Int, PyData.canLayAll0 (intsD l) = true
  | [] => by simp [intsD, PyData.canLayAll0]
  | x :: l => by
    have ih := lay_ints l
    unfold intsD at ih ⊢
    rw [List.map_cons, PyData.canLayAll0, ih]
    simp [PyData.canLay0]
theorem dep_ints : ∀ l : List Int, PyData.depthAll (intsD l) = 0
  | [] => by simp [intsD, PyData.depthAll]
  | x :: l => by
    have ih := dep_ints l
    unfold intsD at ih ⊢
    rw [List.map_cons, PyData.depthAll, ih]
    simp [PyData.depth]
theorem sh_list (l : List Int) : SeqAt.shaped (.list (intsD l)) = true := by
  unfold SeqAt.shaped
  rw [PyData.canLay0, lay_ints, PyData.depth, dep_ints]
  rfl
theorem sh_tup (l : List Int) : SeqAt.shaped (.tuple (intsD l)) = true := by
  unfold SeqAt.shaped
  rw [PyData.canLay0, lay_ints, PyData.depth, dep_ints]
  rfl
theorem sh_none : SeqAt.shaped .none = true := by
  unfold SeqAt.shaped
  rw [PyData.canLay0, PyData.depth]
  rfl
theorem eqv_ints : ∀ a b : List Int, PyData.eqvAll (intsD a) (intsD b) = decide (a = b)
  | [], [] => by simp [intsD, PyData.eqvAll]
  | [], _ :: _ => by simp [intsD, PyData.eqvAll]
  | _ :: _, [] => by simp [intsD, PyData.eqvAll]
  | x :: a, y :: b => by
    have ih := eqv_ints a b
    unfold intsD at ih ⊢
    rw [List.map_cons, List.map_cons, PyData.eqvAll, ih, PyData.eqv]
    by_cases h : x = y
    · subst h
      by_cases h2 : a = b
      · subst h2; simp
      · simp [h2]
    · simp [h]
theorem eqv_list (a b : List Int) : PyData.eqv (.list (intsD a)) (.list (intsD b)) = decide (a = b) := by rw [PyData.eqv]; exact eqv_ints a b
theorem eqv_tup (a b : List Int) : PyData.eqv (.tuple (intsD a)) (.tuple (intsD b)) = decide (a = b) := by rw [PyData.eqv]; exact eqv_ints a b
/-! ### all but one object stays -/
def ExP (p : Addr) (H H' : Hp) : Prop := ∀ a o, a ≠ p → H a = some o → H' a = some o
theorem ExP.refl (p : Addr) (H : Hp) : ExP p H H := fun _ _ _ h => h
theorem ExP.trans {p : Addr} {H H1 H2 : Hp} (a : ExP p H H1) (b : ExP p H1 H2) : ExP p H H2 := fun x o n h => b x o n (a x o n h)
theorem Ex.p {p : Addr} {H H' : Hp} (e : Ex H H') : ExP p H H' := fun a o _ h => e a o h
theorem ExP.upd {p : Addr} {H : Hp} {o : HO} : ExP p H (upd H p o) := fun a u n h => by rw [upd_ne n]; exact h
/-- read behind a change of p, where p's own object is of another kind -/
theorem exp_l {K : PySem.W.Frag} {p : Addr} {H H' : Hp} {a : Addr} {xs : List V} (e : ExP p H H') (hp : a ≠ p) (h : SqL K H a xs) : SqL K H' a xs := by
  rcases h with (h | ⟨o, h⟩) | h
  · exact .inl (.inl (e a _ hp h))
  · exact .inl (.inr ⟨o, e a _ hp h⟩)
  · exact .inr h
/-! ### rows by their places -/
theorem range_getD {α : Type} (d : α) (l : List α) : (List.range l.length).map (fun i => l.getD i d) = l := by
  refine List.ext_getElem? fun i => ?_
  rw [List.getElem?_map]
  by_cases hi : i < l.length
  · rw [List.getElem?_range hi, List.getElem?_eq_getElem hi]
    show some (l.getD i d) = _
    rw [List.getD_eq_getElem?_getD, List.getElem?_eq_getElem hi]
    rfl
  · rw [List.getElem?_eq_none (l := List.range l.length) (by simpa using hi), List.getElem?_eq_none (by omega)]
    rfl
theorem given_filter {α : Type} (d : α) (l : List α) (p : α → Bool) (v : α → V) : given l.length (fun i => p (l.getD i d)) (fun i => v (l.getD i d)) = (l.filter p).map v := by
  unfold given
  conv => rhs; rw [← range_getD d l, List.filter_map, List.map_map]
  rfl
theorem given_of {α : Type} (d : α) (l : List α) {n : Nat} (hn : n = l.length) (p : α → Bool) (v : α → V) : given n (fun i => p (l.getD i d)) (fun i => v (l.getD i d)) = (l.filter p).map v := by
  rw [hn]
  exact given_filter d l p v
theorem getD_at {α : Type} {d : α} {l : List α} {i : Nat} {x : α} (h : l[i]? = some x) : l.getD i d = x := by
  rw [List.getD_eq_getElem?_getD, h]
  rfl
theorem inV_ints (x : Int) : ∀ l : List Int, inV (.int x) (l.map V.int) = decide (x ∈ l)
  | [] => rfl
  | y :: l => by
    have ih := inV_ints x l
    unfold inV at ih ⊢
    rw [List.map_cons, List.any_cons, ih]
    show ((y == x) || decide (x ∈ l)) = decide (x ∈ y :: l)
    by_cases h : y = x
    · subst h; simp
    · have h2 : (y == x) = false := beq_eq_false_iff_ne.mpr h
      have h3 : ¬ x = y := fun z => h z.symm
      simp [h2, h3]
theorem flat_ints (l : List Int) : (l.map V.int).all flatV = true := by
  rw [List.all_map]
  exact List.all_eq_true.mpr fun _ _ => rfl
theorem int_at {l : List Int} {i : Nat} {z : V} (h : (l.map V.int)[i]? = some z) : ∃ n, l[i]? = some n ∧ z = .int n := by
  rw [List.getElem?_map] at h
  cases e : l[i]? with
  | none => rw [e] at h; cases h
  | some n => rw [e] at h; exact ⟨n, rfl, (Option.some.inj h).symm⟩
abbrev rInt1 : List V → Hp → VK → Prop := fun xs H Q => (∃ i, xs = [V.int i] ∧ Q (.int i) H) ∨ ∃ k, xs = [V.bl k] ∧ Q (.int (if k then 1 else 0)) H
theorem given_cons {n : Nat} {f : Nat → Bool} {v : Nat → V} : given (n + 1) f v = (if f 0 = true then [v 0] else []) ++ given n (fun i => f (i + 1)) (fun i => v (i + 1)) := by
  unfold given
  rw [List.range_succ_eq_map, List.filter_cons, List.filter_map]
  cases f 0 with
  | true =>
    rw [if_pos rfl, if_pos rfl, List.map_cons, List.map_map]
    rfl
  | false =>
    rw [if_neg Bool.false_ne_true, if_neg Bool.false_ne_true, List.map_map]
    rfl
theorem op_op {r : R2} {ta tb : TE} {σ : L2.St} {H : Hp} {Q : VK} (h : ta σ H fun x H1 => tb σ H1 fun y H2 => r x y H2 Q) : tOp r ta tb σ H Q := h
theorem lc_op {K : PySem.W.Frag} {tl te : TE} {g : TG} {tt : TT} {vs : List Nat} {σ : L2.St} {H : Hp} {Q : VK} (h : tl σ H fun x H1 => tLc (iList K (tC x)) g tt te vs σ H1 Q) : tLc (iList K tl) g tt te vs σ H Q := h
theorem not_nil_any {α : Type} (p : α → Bool) [DecidableEq α] : ∀ l : List α, (!decide (l.filter p = [])) = l.any p
  | [] => rfl
  | x :: l => by
    rw [List.filter_cons, List.any_cons]
    cases h : p x with
    | true => simp
    | false =>
      rw [if_neg Bool.false_ne_true, not_nil_any p l]
      rfl
theorem et_nn {σ : L2.St} {H : Hp} {j : Nat} (hj : σ[j]? = some (some .non)) : EvT (tB (tNotN (tVar j))) σ H false := fun H1 e Q q => ⟨.non, hj, _, rfl, by rw [decide_eq_true rfl]; exact q H1 (Ex.refl H1)⟩
theorem nx_op {f b c : L2.St → Hp → Prop} {r : VK} {σ : L2.St} {H : Hp} (h : f σ H) : tNext { nx := f, rt := r, bk := b, ct := c } σ H := h
theorem an_op {ta tb : TE} {σ : L2.St} {H : Hp} {Q : VK} (h : ta σ H fun x H1 => ∃ c, x = .bl c ∧ if c = true then tb σ H1 Q else Q (.bl false) H1) : tAndV ta tb σ H Q := h
theorem cut_last {ys : List V} {z : V} : cutV (ys ++ [z]) none (some (-1)) = ys := by
  unfold cutV
  show ((ys ++ [z]).drop 0).take ((-1 + ((ys ++ [z]).length : Int)).toNat - 0) = ys
  have e : (-1 + ((ys ++ [z]).length : Int)).toNat - 0 = ys.length := by
    rw [List.length_append, List.length_singleton]
    omega
  rw [e, List.drop_zero, List.take_left' rfl]
theorem at_last {ys : List V} {z : V} : atI (ys ++ [z]) (-1) = some z := by
  unfold atI ixN
  rw [if_neg (by decide), List.length_append, List.length_singleton, if_pos (by omega)]
  show (ys ++ [z])[((-1 : Int) + ((ys.length + 1 : Nat) : Int)).toNat]? = some z
  have e : ((-1 : Int) + ((ys.length + 1 : Nat) : Int)).toNat = ys.length := by omega
  rw [e, List.getElem?_append_right (Nat.le_refl _), Nat.sub_self]
  rfl
theorem q_par {i j : Nat} {ta : TA} {u : TS} {D : Ends} {σ : L2.St} {H : Hp} (h : ta σ H fun vs H1 => ∃ v w, vs = [v, w] ∧ u D ((σ.set i (some v)).set j (some w)) H1) : tSeq (tPar i j ta) u D σ H := h
theorem t_op {t : TA} {σ : L2.St} {H : Hp} {Q : VK} (h : t σ H fun xs H1 => xs.length ≤ sizeLine ∧ ∀ p, H1 p = none → Q (.ref p) (upd H1 p (.tup xs))) : tTup t σ H Q := h
section
variable {K : PySem.W.Frag}
/-- over a range: each item a new object -/
theorem eo_rng {σ : L2.St} {H : Hp} {β : Type} {G : HO → β → Prop} {n : Nat} {ta : TA} {te : TE} {j : Nat} {vs : List Nat} (ys : List β) (hl : n = ys.length) (h : EvA ta σ H [.int (n : Int)]) (hz : ys.length ≤ 40000) (hw : ∀ x, wipe ((wipe σ vs).set j (some x)) vs = wipe σ vs)
    (he : ∀ (i : Nat) (y : β) H1, Ex H H1 → i < n → ys[i]? = some y → EvF G te ((wipe σ vs).set j (some (.int (0 + (i : Int))))) H1 y) : EvO' G (tLc (iRng1 ta) (gName j) tYes te vs) σ H ys := fun H0 e Q q => h H0 e _ fun H1 e1 => ⟨(n : Int), rfl, by omega, by omega, fun D hD => by
  show ∃ W : Nat → Nat → Hp → Prop, _
  refine lc_it (n := n) walk_range (Co G H1 ys D) (Co.start hD) (fun _ _ _ _ => trivial) (fun i x H' H'' hi p hy => ?_) (fun H' p => ?_)
  · obtain ⟨rfl, rfl⟩ := hy
    have hi2 : i < ys.length := by omega
    exact ⟨hw _, co_turn (List.getElem?_eq_getElem hi2) (by omega) p (he i _ _ (e.trans e1) hi (List.getElem?_eq_getElem hi2))⟩
  · rw [hl] at p
    obtain ⟨p2, vs', p3, p4⟩ := p.end_
    exact q D vs' H' (fresh_back e1 hD) (e1.trans p2) p3 p4⟩
theorem nx_op2 {f b c : L2.St → Hp → Prop} {r : VK} {σ : L2.St} {H : Hp} (h : f σ H) : ({ nx := f, rt := r, bk := b, ct := c } : Ends).nx σ H := h
theorem tt_op {te : TE} {σ : L2.St} {H : Hp} {Q : Bool → Hp → Prop} (h : te σ H fun x H1 => ∃ k, x = .bl k ∧ Q k H1) : tTest te σ H Q := h
theorem or_op {t u : TT} {σ : L2.St} {H : Hp} {Q : Bool → Hp → Prop} (h : t σ H fun c H1 => if c = true then Q true H1 else u σ H1 Q) : tOr t u σ H Q := h
/-- over a list: each item a new object -/
theorem eo_lcL {σ : L2.St} {H : Hp} {β : Type} {G : HO → β → Prop} {a : Addr} {xs : List V} {tl te : TE} {j : Nat} {vs : List Nat} (ys : List β) (hl : xs.length = ys.length) (h : Ev tl σ H (.ref a)) (hx : SqL K H a xs) (hz : ys.length ≤ 40000) (hw : ∀ x, wipe ((wipe σ vs).set j (some x)) vs = wipe σ vs)
    (he : ∀ (i : Nat) (x : V) (y : β) H1, Ex H H1 → xs[i]? = some x → ys[i]? = some y → EvF G te ((wipe σ vs).set j (some x)) H1 y) : EvO' G (tLc (iList K tl) (gName j) tYes te vs) σ H ys := fun H0 e Q q => h H0 e _ fun H1 e1 => ⟨a, rfl, ⟨xs, ex_l (e.trans e1) hx⟩, fun D hD => by
  refine lc_it walk_list (Co G H1 ys D) (Co.start hD) (fun i H' _ p => ex_l ((e.trans e1).trans p.2.1) hx) (fun i x H' H'' hi p hy => ?_) (fun H' p => ?_)
  · obtain ⟨rfl, hi2⟩ := hy
    have hi3 : i < ys.length := by omega
    exact ⟨hw x, co_turn (List.getElem?_eq_getElem hi3) (by omega) p (he i x _ _ (e.trans e1) hi2 (List.getElem?_eq_getElem hi3))⟩
  · rw [hl] at p
    obtain ⟨p2, vs', p3, p4⟩ := p.end_
    exact q D vs' H' (fresh_back e1 hD) (e1.trans p2) p3 p4⟩
end
end KS
namespace KX
open PySem PySem.Spec PyProof.Rows L2 Evl
/-! ### values that are equal to themselves within a list -/
def Valu (v : V) : Prop := flatB v = true ∨ ∃ a, v = .ref a
theorem eqAt_valu {A : Around} {s : Shared} {v : V} {u u' : Value} (h : Valu v) (r : RelV v u) (r' : RelV v u') : SeqAt.EqAt A s u u' true := by
  rcases h with h | ⟨a, rfl⟩
  · exact eqAt_same r r' h
  · cases (show u = Value.ref a from r)
    cases (show u' = Value.ref a from r')
    exact SeqAt.EqAt.same _
theorem eqAt_all {A : Around} {s : Shared} : ∀ {vs : List V} {us ws : List Value}, (∀ v ∈ vs, Valu v) → Vals vs us → Vals vs ws → ∀ j (h1 : j < us.length) (h2 : j < ws.length), SeqAt.EqAt A s us[j] ws[j] true
  | [], _, _, _, .nil, .nil, j, h1, _ => absurd h1 (Nat.not_lt_zero j)
  | v :: vs, _, _, h, .cons a1 b1, .cons a2 b2, 0, _, _ => eqAt_valu (h v List.mem_cons_self) a1 a2
  | v :: vs, _, _, h, .cons a1 b1, .cons a2 b2, j + 1, h1, h2 => eqAt_all (fun u hu => h u (List.mem_cons_of_mem _ hu)) b1 b2 j (Nat.lt_of_succ_lt_succ h1) (Nat.lt_of_succ_lt_succ h2)
/-- two lists of the very same values -/
def rNeVs (K : PySem.W.Frag) : R2 := fun x y H Q => ∃ a b vs, x = .ref a ∧ y = .ref b ∧ SqL K H a vs ∧ SqL K H b vs ∧ (∀ v ∈ vs, Valu v) ∧ Q (.bl false) H
section
variable {X : Cx}
theorem op_neVs (hu : X.A.units + 1 < cLine) : OpR X (compareOp .NotEq) (rNeVs X.K) := by
  intro pins s σ H x y v u Q I rx ry h
  obtain ⟨a, b, vs, rfl, rfl, ha, hb, hv, q⟩ := h
  cases (show v = Value.ref a from rx)
  cases (show u = Value.ref b from ry)
  obtain ⟨us, r1, p1, _⟩ := I.list ha
  obtain ⟨ws, r2, p2, _⟩ := I.list hb
  have hsz : us.toArray.size = ws.toArray.size := by
    rw [List.size_toArray, List.size_toArray, ← r1.length, ← r2.length]
  refine SeqAt.RcNeAt.lists (e := fun _ => true) p1.isList p2.isList hsz (by omega) (fun j h1 h2 => ?_) _ _ _ _ ?_
  · have k := eqAt_all (A := X.A.in1) (s := s) hv r1 r2 j (by simpa using h1) (by simpa using h2)
    simpa using k
  · rw [show ((List.range us.toArray.size).all fun _ => true) = true from List.all_eq_true.mpr fun _ _ => rfl]
    exact ⟨.bl false, H, I, rfl, q⟩
/-- a value and itself: data, or an empty dict -/
def SameV (K : PySem.W.Frag) (H : Hp) (v : V) : Prop := scal v v = true ∨ (∃ d, Dp K H v d ∧ SeqAt.shaped d = true ∧ PyData.eqv d d = true) ∨ ∃ a, v = .ref a ∧ H a = some (.dK [])
def rNeS (K : PySem.W.Frag) : R2 := fun x y H Q => x = y ∧ SameV K H x ∧ Q (.bl false) H
theorem op_neS (hu : X.A.units + 64 < cLine) : OpR X (compareOp .NotEq) (rNeS X.K) := by
  intro pins s σ H x y v u Q I rx ry h
  obtain ⟨rfl, hs, q⟩ := h
  rcases hs with hs | ⟨d, hd, sh, e⟩ | ⟨a, rfl, ha⟩
  · exact op_ne pins s σ H x x v u Q I rx ry ⟨hs, by rw [decide_eq_true rfl]; exact q⟩
  · exact op_neD hu pins s σ H x x v u Q I rx ry ⟨d, d, hd, hd, sh, sh, by rw [e]; exact q⟩
  · exact op_ne_dictA (by omega) pins s σ H _ _ v u Q I rx ry ⟨a, a, [], [], rfl, rfl, ha, ha, rfl, (fun p hp => absurd hp List.not_mem_nil), q⟩
/-- a text times a number -/
def repS (z : Str) (n : Nat) : Str := ⟨(List.replicate n z.cps).foldl (· ++ ·) #[]⟩
theorem rep_cps (z : Str) (n : Nat) : (repS z n).cps.toList = (List.replicate n z.cps.toList).flatten := by
  unfold repS
  have key : ∀ (l : List (Array Nat)) (acc : Array Nat), (l.foldl (· ++ ·) acc).toList = acc.toList ++ (l.map Array.toList).flatten := by
    intro l
    induction l with
    | nil => intro acc; simp
    | cons a l ih => intro acc; simp [ih]
  rw [key]
  simp
def rMulS : R2 := fun x y H Q => ∃ (z : Str) (n : Nat), x = .str z ∧ y = .int (n : Int) ∧ z.length ≤ 100 ∧ n ≤ 100 ∧ Q (.str (repS z n)) H
theorem rep_one (z : Str) : repS z 1 = z := by
  unfold repS
  show (⟨#[] ++ z.cps⟩ : Str) = z
  simp
theorem rep_zero (z : Str) : repS z 0 = Str.empty := rfl
theorem op_mulS : OpR X (binaryOp .Mult) rMulS := by
  intro pins s σ H x y v u Q I rx ry h
  obtain ⟨z, n, rfl, rfl, hz, hn, q⟩ := h
  obtain ⟨t, rfl⟩ := rx
  obtain ⟨t2, rfl⟩ := ry
  refine P.mul_str ?_ (fun h1 h2 => ?_) (fun h1 h2 => ?_) ?_
  · rw [decide_eq_false (by omega), decide_eq_false (by omega)]; rfl
  · have h3 : ((z.length : Nat) : Int) ≤ 100 := by omega
    have h4 : (100 : Int) ≤ (2 ^ 63 - 1) / (n : Int) := by
      refine (Int.le_ediv_iff_mul_le (by omega)).mpr ?_
      omega
    omega
  · unfold Builtin.Str.tooLong
    have : z.length * ((n : Int).toNat) ≤ 100 * 100 := Nat.mul_le_mul hz (by omega)
    rw [decide_eq_false]
    rw [sizeLine_eq]
    omega
  · by_cases h1 : (n : Int) < 1
    · rw [if_pos h1]
      have : n = 0 := by omega
      subst this
      exact ⟨by decide, ⟨.str (repS z 0), H, I.tok _, ⟨_, rfl⟩, q⟩⟩
    · rw [if_neg h1]
      by_cases h2 : ((n : Int) == 1 || z.length == 0) = true
      · rw [if_pos h2]
        have e : repS z n = z := by
          rcases Bool.or_eq_true_iff.mp h2 with e | e
          · have e : (n : Int) = 1 := by simpa using e
            have : n = 1 := by omega
            rw [this, rep_one]
          · have e : z.length = 0 := by simpa using e
            have e1 : z.cps = #[] := Array.eq_empty_of_size_eq_zero e
            have e2 : (repS z n).cps.toList = [] := by
              rw [rep_cps, e1]
              simp
            have e3 : (repS z n).cps = z.cps := by
              rw [e1]
              exact Array.toList_inj.mp (by rw [e2])
            cases hz : repS z n with
            | mk c =>
              rw [hz] at e3
              cases z
              congr
        rw [e] at q
        exact ⟨.str z, H, I, ⟨_, rfl⟩, q⟩
      · rw [if_neg h2]
        refine ⟨?_, ⟨.str (repS z n), H, I.tok _, ⟨_, rfl⟩, q⟩⟩
        have : (repS z ((n : Int).toNat)).length ≤ sizeLine := by
          have e : (repS z ((n : Int).toNat)).length = ((n : Int).toNat) * z.length := by
            show (repS z ((n : Int).toNat)).cps.size = _ * z.cps.size
            rw [← Array.length_toList, rep_cps]
            simp
          rw [e]
          have : (n : Int).toNat * z.length ≤ 100 * 100 := Nat.mul_le_mul (by omega) hz
          rw [sizeLine_eq]; omega
        exact this
/-- list(text) -/
theorem ints_signs {z : Str} {us : List Value} (h : ItemsOf (SignAt z) us.toArray z.cps.size) : Vals (z.cps.toList.map fun c => V.str ⟨#[c]⟩) us := by
  obtain ⟨h1, h2⟩ := h
  have key : ∀ (us : List Value) (cs : List Nat), us.length = cs.length → (∀ (j : Nat) (v : Value), us[j]? = some v → ∃ (c : Nat) (u : Tok), cs[j]? = some c ∧ v = Value.str ⟨#[c]⟩ u) → Vals (cs.map fun c => V.str ⟨#[c]⟩) us := by
    intro us
    induction us with
    | nil =>
      intro cs hl _
      cases cs with
      | nil => exact .nil
      | cons c cs => simp at hl
    | cons u us ih =>
      intro cs hl hh
      cases cs with
      | nil => simp at hl
      | cons c cs =>
        obtain ⟨c', t, e1, e2⟩ := hh 0 u rfl
        have e1' : c = c' := Option.some.inj e1
        subst e1' e2
        exact .cons ⟨t, rfl⟩ (ih cs (by simpa using hl) fun j v e => by
          obtain ⟨c2, t2, a, b⟩ := hh (j + 1) v (by simpa using e)
          exact ⟨c2, t2, by simpa using a, b⟩)
  refine key us z.cps.toList (by simpa using h1) fun j v e => ?_
  obtain ⟨c, u, a, b⟩ := h2 j v (by simpa using e)
  exact ⟨c, u, by simpa using a, b⟩
def rListS : List V → Hp → VK → Prop := fun xs H Q => ∃ z : Str, xs = [.str z] ∧ z.length ≤ 1000 ∧ ∀ p, H p = none → Q (.ref p) (upd H p (.lst (z.cps.toList.map fun c => V.str ⟨#[c]⟩)))
theorem cr_listS (hc : X.calm = true) : CallR X (.type "list") rListS := by
  intro pins s σ H xs us Q I r h
  obtain ⟨z, rfl, hz, q⟩ := h
  obtain ⟨u, rfl, rx⟩ := vals1 r
  obtain ⟨t, rfl⟩ := rx
  refine call_list_str (I.ok.hd hc) z t (fun h' tk acc' c' hk hob hacc => ?_) (by show z.length ≤ sizeLine; rw [sizeLine_eq]; omega)
  have hv : Vals (z.cps.toList.map fun c => V.str ⟨#[c]⟩) acc'.toList := ints_signs (by simpa using hacc)
  exact ⟨.ref s.heap.objs.size, _, I.laid (t' := tk) hk (Nat.le_refl _) (show ObjOk X.prog X.w _ _ _ (.lst (z.cps.toList.map fun c => V.str ⟨#[c]⟩)) from ⟨by rw [List.length_map, Array.length_toList]; show z.length ≤ sizeLine; rw [sizeLine_eq]; omega, acc'.toList, c', hv, by simpa using hob⟩), rfl, q _ (I.hok.fresh (Nat.le_refl _))⟩
/-- sorted(list or tuple of ints), fewer than 64 -/
def rSortSq (K : PySem.W.Frag) : List V → Hp → VK → Prop := fun vs H Q => ∃ (a : Addr) (ns : List Int), vs = [V.ref a] ∧ KS.Sq K H a (ns.map V.int) ∧ ns.length < 64 ∧
  ∀ (ns' : List Int) (p : Addr), ns'.Perm ns → ns'.Pairwise (· ≤ ·) → H p = none → Q (.ref p) (upd H p (.lst (ns'.map V.int)))
theorem cr_sortSq : CallR X (.builtin "sorted") (rSortSq X.K) := by
  intro pins s σ H xs us Q I r q
  obtain ⟨a, ns, ex, hd, h64, q⟩ := q
  subst ex
  obtain ⟨u, eu, rx⟩ := vals1 r
  subst eu
  cases rx
  obtain ⟨T, o, its, n, hT, rv, ho, hc, hdt⟩ : ∃ (T : String) (o : Obj) (its : List Value) (n : Nat), (T = "list" ∨ T = "tuple") ∧ Vals (ns.map V.int) its ∧ s.heap.get? a = some o ∧ o.cls = .type T ∧ o.data = .seq its.toArray n := by
    rcases hd with hd | hd
    · obtain ⟨its, rv, p, _⟩ := I.list hd
      obtain ⟨o, ho, hc, n, hdt⟩ := p.isList
      exact ⟨"list", o, its, n, .inl rfl, rv, ho, hc, hdt⟩
    · obtain ⟨its, rv, p, _⟩ := I.tuple hd
      obtain ⟨o, ho, hc, n, hdt⟩ := (show s.heap.IsTuple a its.toArray from p)
      exact ⟨"tuple", o, its, n, .inr rfl, rv, ho, hc, hdt⟩
  have hS : IntsAre its ns := rv.ints
  have hal : its.length = ns.length := by rw [← rv.length, List.length_map]
  refine Calls.call_function_entry PyProof.Rows.kind_sorted PyProof.Rows.plain_sorted PyProof.Rows.entry_sorted (PyProof.Rows.args_sorted1 _) ?_
  unfold Builtin.«sorted»
  refine wpAny_bind (m := checkCount "sorted" 1 1 _) (wpAny_pure ?_)
  refine wpAny_bind (wpAny_collect_seq a hT ho hc hdt (fun h' hk => ?_) (by rw [List.size_toArray, hal, sizeLine_eq]; omega))
  have I1 : Inv X pins σ H { s with heap := h', toks := s.toks } := I.kept hk
  show wpAny _ _ (newList its.toArray.toList >>= _) _ _ _
  rw [show its.toArray.toList = its from rfl]
  refine wpAny_bind (wpAny_newList ?_ (by rw [hal, sizeLine_eq]; omega))
  have hoL : (h'.push (seqObj "list" its.toArray 0)).get? h'.objs.size = some (seqObj "list" its.toArray 0) := Heap.get?_push_size _ rfl
  show wpAny _ _ _ _ _ { s with heap := h'.push (seqObj "list" its.toArray 0) }
  refine wpAny_bind (wpAny_holding (wpAny_call_entry PyProof.Rows.slot_list_sort ⟨_, hoL, rfl⟩ PyProof.Rows.entry_list_sort
    (PyProof.Rows.list_sort_tree (s := { s with heap := h'.push (seqObj "list" its.toArray 0) }) hoL hS (by rw [hal]; exact h64) fun out ys g1 g2 g3 => ⟨_, rfl, ?_⟩) (PyProof.Rows.args_list_sort _)))
  obtain ⟨e', he'⟩ := PyProof.Rows.sortedHeap_at (vs := its) (out := out) hoL
  have hlen : (ys.map V.int).length ≤ sizeLine := by
    rw [List.length_map, g2.length_eq]
    exact Nat.le_trans (Nat.le_of_lt h64) (by decide)
  refine wpAny_pure ⟨_, rfl, .ref h'.objs.size, upd H h'.objs.size (.lst (ys.map V.int)), I1.laid (t' := s.toks) (fun b u e => ?_) (Nat.le_refl _) (show ObjOk X.prog X.w _ _ _ (.lst (ys.map V.int)) from ⟨hlen, out.toList, e', vals_of_ints g1, by rw [Array.toArray_toList]; exact he'⟩), rfl, q ys _ g2 g3 (I1.hok.fresh (Nat.le_refl _))⟩
  have hb : b ≠ h'.objs.size := Nat.ne_of_lt (Heap.lt_size e)
  have e2 : (h'.push (seqObj "list" its.toArray 0)).get? b = some u := Heap.get?_push_of_some _ e
  rw [PyProof.Rows.sortedHeap_old hb (Heap.lt_size e2)]
  exact e2
end
end KX
namespace KW
open PySem PySem.Spec PyProof.Rows L2 KR KS KX Evl StX
/-! ### the text -/
def topS (i : Nat) : Stmt := PySem.Challenge.pw_otherhand_k06_marks_turned_and_mirrored.main.body.getD i (.Pass ⟨0, 0, 0, 0⟩)
abbrev FnP (K : PySem.W.Frag) (x : Str) (st : Stmt) (f : Addr) (fd : FuncData) : Prop := FunD K x x (defArgs st) (defBody st) (defScope st) [] [] f fd
structure FnA (K : PySem.W.Frag) (mg : Str → Option Value) (x : Str) (st : Stmt) (ps : List Str) where
  f : Addr
  fd : FuncData
  F : FnP K x st f fd
  b : L2.Binds K fd ps []
  g : mg x = some (.ref f)
/-- what the module's names hold -/
structure Bu (mg : Str → Option Value) : Prop where
  tuple : mg "tuple" = none
  sorted : mg "sorted" = none
  len : mg "len" = none
  int : mg "int" = none
  enumerate : mg "enumerate" = none
  range : mg "range" = none
  list : mg "list" = none
  abs : mg "abs" = none
  isinstance : mg "isinstance" = none
  str : mg "str" = none
  bool : mg "bool" = none
  all : mg "all" = none
  any : mg "any" = none
  min : mg "min" = none
  max : mg "max" = none
  zip : mg "zip" = none
section
variable {P : Program} {w : World} {K : PySem.W.Frag} {mg : Str → Option Value} {base : Heap}
/-- the rule for a def that lets nothing out -/
theorem ok0 {x : Str} {st : Stmt} {f : Addr} {fd : FuncData} {N ps : List Str} {k : Nat} {sp : Sp} (F : FnP K x st f fd) (S : FnScope N ps (defScope st)) (len : ∀ vs H Q E, sp vs H Q E → vs.length = ps.length)
    (hbody : ∀ (cdv : Value) (A : Around) (outer : List Env) (s : Shared) (H : Hp) (vs : List V) (Q : VK) (E : XK), Room k (A.deeper (envOfC x (defScope st) s.heap.objs.size f cdv)) → sp vs H Q E →
      ∃ t, PSs (cxOf CX0 P w K mg base N x (defScope st) f cdv A outer s H E).nox (defBody st) t ∧ t { nx := fun _ H' => Q .non H', rt := Q } (start N vs) H) : FnOk P w K mg base CX0 (k + 1) f fd ps sp :=
  FunD.ok F S len fun cdv A outer s H vs Q E hr h => by
    obtain ⟨t, h1, h2⟩ := hbody cdv A outer s H vs Q E hr h
    exact ⟨t, h1.nox, h2⟩
end
/-- how keywords alone bind -/
theorem fund_kb {K : PySem.W.Frag} {x qual : Str} {params : Arguments} {body : List Stmt} {scope : Scope} {f : Addr} {fd : FuncData} {ps ks : List Str} {g : List Value → List Value} {gV : List V → List V} (F : FunD K x qual params body scope [] [] f fd)
    (h : ∀ (kV doc pm : Value) (an : Option Addr) (cdv ct : Value) (ws : List Value), ws.length = ks.length → bindArgs (PySem.W.fnOf x qual params body scope .none kV doc pm an cdv ct) ⟨[], ks.zip ws⟩ = pure (ps.zip (g ws)))
    (hr : ∀ {zs : List V} {ws : List Value}, Vals zs ws → Vals (gV zs) (g ws)) : KBn K fd ps 0 ks (fun _ ws => g ws) (fun _ zs => gV zs) := by
  obtain ⟨oc, od, dV, kV, doc, pm, an, cdv, ct, osl, rfl, lk, hcd, hD, hK⟩ := F.ex
  rcases hD with ⟨_, rfl⟩ | ⟨e, _⟩
  · refine ⟨fun s us ws X l1 l2 => ?_, fun _ r2 => hr r2⟩
    have e : us = [] := List.eq_nil_of_length_eq_zero l1
    subst e
    exact .of_eq (h kV doc pm an cdv ct ws l2)
  · exact absurd rfl e
structure Pen (H : Hp) (p l : Addr) (ns : List Int) (n : Int) : Prop where
  at_ : ∃ t r, H p = some (.lst [.ref l, .int t, .int r]) ∧ 0 ≤ t ∧ t ≤ n
  ls : H l = some (.lst (ns.map V.int))
  ne : l ≠ p
  few : ns.length ≤ 63
theorem Pen.more {H : Hp} {p l : Addr} {ns : List Int} {n m : Int} (h : Pen H p l ns n) (k : n ≤ m) : Pen H p l ns m := let ⟨t, r, a, b, c⟩ := h.at_; ⟨⟨t, r, a, b, by omega⟩, h.ls, h.ne, h.few⟩
theorem Pen.up {H H' : Hp} {p l : Addr} {ns : List Int} {n : Int} (e : Ex H H') (h : Pen H p l ns n) : Pen H' p l ns n := let ⟨t, r, a, b, c⟩ := h.at_; ⟨⟨t, r, e _ _ a, b, c⟩, e _ _ h.ls, h.ne, h.few⟩
theorem Pen.some {H : Hp} {p l : Addr} {ns : List Int} {n : Int} (h : Pen H p l ns n) {D : Addr} (hD : H D = none) : D ≠ p := fun e => by
  obtain ⟨t, r, a, _⟩ := h.at_
  rw [e, a] at hD
  cases hD
section
variable {P : Program} {w : World} {K : PySem.W.Frag} {mg : Str → Option Value} {base : Heap}
/-! ### _law_pen -/
abbrev sPen : Stmt := topS 72
theorem scPen : FnScope ["_law_script", "_law_cell"] ["_law_script"] (defScope sPen) := ⟨rfl, rfl, rfl, by decide +kernel, rfl, by decide +kernel, by decide +kernel⟩
def spPen (K : PySem.W.Frag) : Sp := fun vs H Q _ => ∃ (a : Addr) (ns : List Int), vs = [.ref a] ∧ SqL K H a (ns.map V.int) ∧ ns.length ≤ 63 ∧
  ∀ p l ms H2, H p = none → Ex H H2 → Pen H2 p l ms 0 → Q (.ref p) H2
theorem ok_pen {f : Addr} {fd : FuncData} {k : Nat} (F : FnP K "_law_pen" sPen f fd) (B : Bu mg) : FnOk P w K mg base CX0 (k + 1) f fd ["_law_script"] (spPen K) := by
  refine ok0 F scPen (fun vs H Q E h => ?_) (fun cdv A outer s H vs Q E hr h => ?_)
  · obtain ⟨a, ns, rfl, _⟩ := h
    rfl
  · obtain ⟨a, ns, rfl, hS, hz, q⟩ := h
    refine ⟨_, pss_one (ps_ret (pe_lst (pa_cons (pe_lc (own := [("_law_cell", 1)]) (g := gName 1) rfl scPen.nd (pi_list (pe_slice sl_list (pv 0) po_none (po_some pe_int))) (blkOk_by (N := ["_law_script", "_law_cell"]) (sc := defScope sPen) (by decide +kernel))
        (fun _ _ _ _ _ => pg_name (i := 1) scPen.nd rfl (Or.inl rfl)) (fun _ _ _ _ _ => pts_nil) (fun _ _ _ _ _ => pe_callTy call_int1 rfl B.int boot_int (pa_cons (pv 1) pa_nil))) (pa_cons pe_int (pa_cons pe_int pa_nil))))), ?_⟩
    obtain ⟨ms, hms, hml⟩ : ∃ ms : List Int, cutV (ns.map V.int) none (some 60) = ms.map V.int ∧ ms.length ≤ 63 := by
      refine ⟨(ns.drop (HT.sIx ns.length 0 none)).take (HT.sIx ns.length ns.length (some 60) - HT.sIx ns.length 0 none), ?_, ?_⟩
      · unfold cutV
        rw [List.length_map, List.map_take, List.map_drop]
      · rw [List.length_take, List.length_drop]
        omega
    have hval : given (ms.map V.int).length (fun _ => true) (fun i => V.int (ms.getD i 0)) = ms.map V.int := given_all (by simp) fun i x hx => by
      rw [List.getElem?_map] at hx
      cases e : ms[i]? with
      | none => rw [e] at hx; cases hx
      | some z =>
        rw [e] at hx
        rw [List.getD_eq_getElem?_getD, e]
        exact Option.some.inj hx
    have comp := el_lcS (K := K) (σ := [some (.ref a), none]) (H := H) (tl := tSl (rSlL K) (tVar 0) tNoPart (tPart (tC (.int 60)))) (te := tCB (fun xs H Q => (∃ i, xs = [V.int i] ∧ Q (.int i) H) ∨ ∃ k, xs = [V.bl k] ∧ Q (.int (if k then 1 else 0)) H) (tCons (tVar 1) tNil)) (t := tYes) (j := 1) (vs := [1]) (xs := ms.map V.int) (fun _ => true) (fun i => V.int (ms.getD i 0))
      (EvL.s (by rw [← hms]; exact el_sl (ev_var rfl) eo_none (eo_some ev_c) hS)) (by rw [List.length_map]; omega) (fun _ => rfl) (fun _ _ _ _ _ => et_yes) (fun i x H9 e9 hx _ => by
        rw [List.getElem?_map] at hx
        obtain ⟨z, hz2, rfl⟩ : ∃ z, ms[i]? = some z ∧ x = .int z := by
          cases e : ms[i]? with
          | none => rw [e] at hx; cases hx
          | some l => rw [e] at hx; exact ⟨l, rfl, (Option.some.inj hx).symm⟩
        rw [List.getD_eq_getElem?_getD, hz2]
        exact fun H1 e1 Q1 q1 => ⟨.int z, rfl, .inl ⟨z, rfl, q1 H1 (Ex.refl H1)⟩⟩)
    rw [hval] at comp
    refine s_re (l_op (a_op (comp H (Ex.refl H) _ fun l H1 hl e1 h1 => ⟨by show 3 ≤ sizeLine; decide, fun p hp => ?_⟩)))
    have e2 : Ex H1 (upd H1 p (.lst [.ref l, .int 0, .int 0])) := Ex.new hp
    refine q p l ms _ (fresh_back e1 hp) (e1.trans e2) ⟨⟨0, 0, upd_same, by decide, by decide⟩, e2 l _ h1, ne_of_none h1 hp, hml⟩
/-! ### _law_draw -/
abbrev sDraw : Stmt := topS 73
abbrev nDraw : List Str := ["_law_pen_here", "_law_many", "_law_digit", "_law_at", "_law_cell", "_law_great", "_law_mixed_here"]
theorem scDraw : FnScope nDraw ["_law_pen_here", "_law_many"] (defScope sDraw) := ⟨rfl, rfl, rfl, by decide +kernel, rfl, by decide +kernel, by decide +kernel⟩
def spDraw : Sp := fun vs H Q _ => ∃ (p l : Addr) (ns : List Int) (n m : Int), vs = [.ref p, .int m] ∧ Pen H p l ns n ∧ n ≤ 100000 ∧ 0 < m ∧ m ≤ 1000 ∧
  ∀ v H2, 0 ≤ v → v < m → ExP p H H2 → Pen H2 p l ns (n + 1) → Q (.int v) H2
theorem mix1 {x t : Int} (h0 : 0 ≤ t) (h1 : t ≤ 100000) : (x % 2147483549 + 64373 * t + 2939).natAbs < 2 ^ 64 := by
  have := Int.emod_nonneg x (show (2147483549 : Int) ≠ 0 by decide)
  have := Int.emod_lt_of_pos x (show (0 : Int) < 2147483549 by decide)
  omega
theorem mix2 {x t : Int} (h0 : 0 ≤ t) (h1 : t ≤ 100000) : (x % 2147483629 * (2 * t + 2239) + 58031 * t * t + 2939).natAbs < 2 ^ 64 := by
  have a := Int.emod_nonneg x (show (2147483629 : Int) ≠ 0 by decide)
  have b := Int.emod_lt_of_pos x (show (0 : Int) < 2147483629 by decide)
  generalize x % 2147483629 = y at a b
  have c : y * (2 * t + 2239) ≤ 2147483629 * 203001 := Int.mul_le_mul (by omega) (by omega) (by omega) (by decide)
  have d : 0 ≤ y * (2 * t + 2239) := Int.mul_nonneg a (by omega)
  have e : 58031 * t * t ≤ 7101100000 * 100000 := Int.mul_le_mul (by omega) h1 h0 (by decide)
  have f : 0 ≤ 58031 * t * t := Int.mul_nonneg (by omega) h0
  omega
theorem ok_draw {f : Addr} {fd : FuncData} {k : Nat} (F : FnP K "_law_draw" sDraw f fd) (B : Bu mg) : FnOk P w K mg base CX0 (k + 1) f fd ["_law_pen_here", "_law_many"] spDraw := by
  refine ok0 F scDraw (fun vs H Q E h => ?_) (fun cdv A outer s H vs Q E hr h => ?_)
  · obtain ⟨p, l, ns, n, m, rfl, _⟩ := h
    rfl
  · obtain ⟨p, l, ns, n, m, rfl, hp, hn, hm0, hm1, q⟩ := h
    have hu := hu_of hr
    have hu64 := hr.units
    refine ⟨_, pss_cons (ps_if (pt_cmpR op_gt (pe_ix ix_list (pv 0) pe_int (fun _ _ => rfl)) pe_int (nomark _))
        (pss_cons (ps_set (i := 2) scDraw.nd rfl (Or.inl rfl) (pe_op op_mod (pe_callTy call_int1 rfl B.int boot_int (pa_cons (pe_ix ix_list (pv 0) pe_int (fun _ _ => rfl)) pa_nil)) (pv 1)))
        (pss_cons (ps_asg (pe_op op_fdiv (pe_callTy call_int1 rfl B.int boot_int (pa_cons (pe_ix ix_list (pv 0) pe_int (fun _ _ => rfl)) pa_nil)) (pv 1)) (pg_sub (pv 0) pe_int set_list))
        (pss_one (ps_ret (pv 2))))) pss_nil)
      (pss_cons (ps_set (i := 3) scDraw.nd rfl (Or.inl rfl) (pe_ix ix_list (pv 0) pe_int (fun _ _ => rfl)))
      (pss_cons (ps_asg (pe_op op_add (pv 3) pe_int) (pg_sub (pv 0) pe_int set_list))
      (pss_cons (ps_set (i := 4) scDraw.nd rfl (Or.inl rfl) (pe_op op_add (pe_op op_mul pe_int (pv 3)) pe_int))
      (Evl.pss_cut (ps_if (pt_cmpR (op_neD hu64) (pe_ix ix_list (pv 0) pe_int (fun _ _ => rfl)) (pe_lst pa_nil) (nomark _))
        (pss_one (ps_set (i := 4) scDraw.nd rfl (Or.inl rfl) (pe_ix ix_list (pe_ix ix_list (pv 0) pe_int (fun _ _ => rfl)) (pe_op op_mod (pe_callTy call_int1 rfl B.int boot_int (pa_cons (pv 3) pa_nil)) (pe_callB call_len_seq rfl B.len PySem.boot_len (pa_cons (pe_ix ix_list (pv 0) pe_int (fun _ _ => rfl)) pa_nil))) (fun _ _ => rfl)))) pss_nil)
      (Evl.pss_cut (ps_if (PW.pt (pw_and (pt_cmpR op_lt (pv 3) (pe_callB call_len_seq rfl B.len PySem.boot_len (pa_cons (pe_ix ix_list (pv 0) pe_int (fun _ _ => rfl)) pa_nil)) (nomark _)) (pw_and1 (pt_cmpR op_ge (pe_callB call_abs rfl B.abs (by decide +kernel) (pa_cons (pv 4) pa_nil)) (pe_op op_pow pe_int pe_int) (nomark _)))))
        (pss_cons (ps_set (i := 5) scDraw.nd rfl (Or.inl rfl) (pe_op op_add (pe_op op_mul pe_int (pe_op op_sub (pe_callB call_abs rfl B.abs (by decide +kernel) (pa_cons (pv 4) pa_nil)) (pe_op op_pow pe_int pe_int))) (pe_callTy call_int1 rfl B.int boot_int (pa_cons (pe_cmpR op_lt (pv 4) pe_int (nomark _)) pa_nil))))
        (pss_cons (ps_asg (pe_op op_fdiv (pe_callTy call_int1 rfl B.int boot_int (pa_cons (pv 5) pa_nil)) (pv 1)) (pg_sub (pv 0) pe_int set_list))
        (pss_one (ps_ret (pe_op op_mod (pe_callTy call_int1 rfl B.int boot_int (pa_cons (pv 5) pa_nil)) (pv 1)))))) pss_nil)
      (pss_cons (ps_set (i := 6) scDraw.nd rfl (Or.inl rfl) (pe_op op_mod (pe_callTy call_int1 rfl B.int boot_int (pa_cons (pe_op op_pow (pe_op op_add (pe_op op_add (pe_op op_mod (pe_callTy call_int1 rfl B.int boot_int (pa_cons (pv 4) pa_nil)) pe_int) (pe_op op_mul pe_int (pv 3))) pe_int) pe_int) pa_nil)) pe_int))
      (pss_cons (ps_set (i := 6) scDraw.nd rfl (Or.inl rfl) (pe_op op_mod (pe_callTy call_int1 rfl B.int boot_int (pa_cons (pe_op op_pow (pe_op op_add (pe_op op_add (pe_op op_mul (pv 6) (pe_op op_add (pe_op op_mul pe_int (pv 3)) pe_int)) (pe_op op_mul (pe_op op_mul pe_int (pv 3)) (pv 3))) pe_int) pe_int) pa_nil)) pe_int))
      (pss_one (ps_ret (pe_op op_mod (pe_callTy call_int1 rfl B.int boot_int (pa_cons (pe_op op_fdiv (pv 6) pe_int) pa_nil)) (pv 1))))))))))), ?_⟩
    obtain ⟨t, r, hat, ht0, htn⟩ := hp.at_
    have hls := hp.ls
    have hne := hp.ne
    have hfew := hp.few
    refine ⟨.ref p, rfl, p, _, 2, .int r, rfl, rfl, sq_of hat, rfl, _, _, rfl, rfl, _, rfl, ite2 (fun hr0 => ?_) (fun hr0 => ?_)⟩
    · refine ⟨.ref p, rfl, p, _, 2, .int r, rfl, rfl, sq_of hat, rfl, .inl ⟨r, rfl, .int m, rfl, r, m, rfl, rfl, hm0, ?_⟩⟩
      refine ⟨.ref p, rfl, p, _, 2, .int r, rfl, rfl, sq_of hat, rfl, .inl ⟨r, rfl, .int m, rfl, r, m, rfl, rfl, ⟨hm0, by omega⟩, .ref p, rfl, p, _, 2, 2, rfl, rfl, hat, rfl, ?_⟩⟩
      refine ⟨_, rfl, ?_⟩
      exact q _ _ (Int.emod_nonneg _ (by omega)) (Int.emod_lt_of_pos _ hm0) ExP.upd ⟨⟨t, r / m, upd_same, ht0, by omega⟩, by rw [upd_ne hne]; exact hls, hne, hfew⟩
    · -- turn = pen[1]; pen[1] = turn + 1; cell = ..
      refine ⟨.ref p, rfl, p, _, 1, .int t, rfl, rfl, sq_of hat, rfl, ?_⟩
      refine ⟨.int t, rfl, t, 1, rfl, rfl, .ref p, rfl, p, _, 1, 1, rfl, rfl, hat, rfl, ?_⟩
      have hx1 : ExP p H (upd H p (.lst ([V.ref l, .int t, .int r].set 1 (.int (t + 1))))) := ExP.upd
      have hat1 : (upd H p (.lst ([V.ref l, .int t, .int r].set 1 (.int (t + 1))))) p = some (.lst [.ref l, .int (t + 1), .int r]) := upd_same
      generalize hH1 : upd H p (.lst ([V.ref l, .int t, .int r].set 1 (.int (t + 1)))) = H1 at hx1 hat1
      have hls1 := hx1 l _ hne hls
      refine ⟨.int t, rfl, 64373, t, rfl, rfl, .inl ⟨by decide, by decide⟩, _, 2939, rfl, rfl, ?_⟩
      -- if pen[0] != []
      refine ⟨fun σ' H' => ∃ c : Int, σ' = [some (.ref p), some (.int m), none, some (.int t), some (.int c), none, none] ∧ Ex H1 H', ?_, ?_⟩
      · refine ⟨.ref p, rfl, p, _, 0, .ref l, rfl, rfl, sq_of hat1, rfl, Nat.zero_le _, fun e0 he0 => ?_⟩
        have hx2 : Ex H1 (upd H1 e0 (.lst [])) := Ex.new he0
        refine ⟨.list (intsD ns), .list (intsD []), .lst (sq_of (hx2 l _ hls1)) (dp_ints ns), .lst (sq_of upd_same) .nil, sh_list ns, sh_list [], _, rfl, ?_⟩
        rw [eqv_list]
        cases ns with
        | nil => exact iteF ⟨_, rfl, hx2⟩
        | cons z zs =>
          have e : (!decide (z :: zs = [])) = true := rfl
          rw [e]
          refine iteT ?_
          have hat2 := hx2 p _ hat1
          have hls2 := hx2 l _ hls1
          have hm0 := Int.emod_nonneg t (show ((((z :: zs).map V.int).length : Nat) : Int) ≠ 0 by rw [List.length_map, List.length_cons]; omega)
          have hm1 := Int.emod_lt_of_pos t (show (0 : Int) < ((((z :: zs).map V.int).length : Nat) : Int) by rw [List.length_map, List.length_cons]; omega)
          have hk : (t % ((((z :: zs).map V.int).length : Nat) : Int)).toNat < (z :: zs).length := by
            rw [List.length_map] at hm0 hm1 ⊢
            omega
          refine ⟨.ref p, rfl, p, _, 0, .ref l, rfl, rfl, sq_of hat2, rfl, .int t, rfl, .inl ⟨t, rfl, .ref p, rfl, p, _, 0, .ref l, rfl, rfl, sq_of hat2, rfl, l, _, rfl, .inl (sq_of hls2), t, _, rfl, rfl, (by rw [List.length_map, List.length_cons]; omega), l, _, _, .int ((z :: zs)[(t % ((((z :: zs).map V.int).length : Nat) : Int)).toNat]), rfl, rfl, sq_of hls2, at_of (j := (t % ((((z :: zs).map V.int).length : Nat) : Int)).toNat) (by omega) ?_, ?_⟩⟩
          · rw [List.getElem?_map, List.getElem?_eq_getElem hk]
            rfl
          · exact ⟨_, rfl, hx2⟩
      · rintro σ' H2 ⟨c, rfl, hx2⟩
        have hat2 := hx2 p _ hat1
        have hls2 := hx2 l _ hls1
        have hx12 : ExP p H H2 := hx1.trans (Ex.p hx2)
        have hpow : ((10 : Int) ^ (18 : Int).toNat) = 1000000000000000000 := by decide
        have fin : ∀ (rr : Int) (H3 : Hp), ExP p H2 H3 → H3 p = some (.lst [.ref l, .int (t + 1), .int rr]) → ∀ v, 0 ≤ v → v < m → Q (.int v) H3 := fun rr H3 hx3 h3 v v0 v1 =>
          q v H3 v0 v1 (hx12.trans hx3) ⟨⟨t + 1, rr, h3, by omega, by omega⟩, hx3 l _ hne hls2, hne, hfew⟩
        refine ⟨fun σ' H' => σ' = [some (.ref p), some (.int m), none, some (.int t), some (.int c), none, none] ∧ H' = H2, ?_, ?_⟩
        · refine ⟨.int t, rfl, .ref p, rfl, p, _, 0, .ref l, rfl, rfl, sq_of hat2, rfl, l, _, rfl, .inl (sq_of hls2), _, _, rfl, rfl, _, rfl, ite2 (fun h1 => ?_) (fun h1 => iteF ⟨rfl, rfl⟩)⟩
          refine ⟨.int c, rfl, c, rfl, 10, 18, rfl, rfl, ⟨by decide, by decide, by decide⟩, _, _, rfl, rfl, _, rfl, ite2 (fun h2 => ?_) (fun h2 => ⟨rfl, rfl⟩)⟩
          refine ⟨.int c, rfl, c, rfl, 10, 18, rfl, rfl, ⟨by decide, by decide, by decide⟩, _, _, rfl, rfl, 2, _, rfl, rfl, .inl ⟨by decide, by decide⟩, .int c, rfl, _, _, rfl, rfl, .inr ⟨_, rfl, _, _, rfl, rfl, ?_⟩⟩
          refine ⟨_, rfl, .inl ⟨_, rfl, .int m, rfl, _, m, rfl, rfl, ⟨hm0, by omega⟩, .ref p, rfl, p, _, 2, 2, rfl, rfl, hat2, rfl, ?_⟩⟩
          refine ⟨_, rfl, .inl ⟨_, rfl, .int m, rfl, _, m, rfl, rfl, hm0, ?_⟩⟩
          exact fin _ _ ExP.upd upd_same _ (Int.emod_nonneg _ (by omega)) (Int.emod_lt_of_pos _ hm0)
        · rintro σ' H' ⟨rfl, rfl⟩
          refine ⟨.int c, rfl, .inl ⟨c, rfl, c, 2147483549, rfl, rfl, (show (0 : Int) < 2147483549 by decide), .int t, rfl, 64373, t, rfl, rfl, .inl ⟨by decide, by decide⟩, _, _, rfl, rfl, _, 2939, rfl, rfl, _, 5, rfl, rfl, ⟨by decide, by decide, mix1 ht0 (by omega)⟩, .inl ⟨_, rfl, _, 2147483629, rfl, rfl, (show (0 : Int) < 2147483629 by decide), ?_⟩⟩⟩
          generalize (c % 2147483549 + 64373 * t + 2939) ^ (5 : Int).toNat = x5
          have b0 := Int.emod_nonneg x5 (show (2147483629 : Int) ≠ 0 by decide)
          have b1 := Int.emod_lt_of_pos x5 (show (0 : Int) < 2147483629 by decide)
          refine ⟨.int (x5 % 2147483629), rfl, .int t, rfl, 2, t, rfl, rfl, .inl ⟨by decide, by decide⟩, _, 2239, rfl, rfl, _, _, rfl, rfl, .inl ⟨by omega, by omega⟩, .int t, rfl, 58031, t, rfl, rfl, .inl ⟨by decide, by decide⟩, .int t, rfl, _, t, rfl, rfl, .inl ⟨by omega, by omega⟩, _, _, rfl, rfl, _, 2939, rfl, rfl, _, 3, rfl, rfl, ⟨by decide, by decide, mix2 ht0 (by omega)⟩, .inl ⟨_, rfl, _, 2147483647, rfl, rfl, (show (0 : Int) < 2147483647 by decide), ?_⟩⟩
          generalize (x5 % 2147483629 * (2 * t + 2239) + 58031 * t * t + 2939) ^ (3 : Int).toNat = x3
          refine ⟨.int (x3 % 2147483647), rfl, _, 64, rfl, rfl, ⟨by decide, by decide⟩, .inl ⟨_, rfl, .int m, rfl, _, m, rfl, rfl, hm0, ?_⟩⟩
          exact fin r H' (ExP.refl p H') hat2 _ (Int.emod_nonneg _ (by omega)) (Int.emod_lt_of_pos _ hm0)
/-! ### _law_pick -/
abbrev sPick : Stmt := topS 74
theorem scPick : FnScope ["_law_pen_here", "_law_some"] ["_law_pen_here", "_law_some"] (defScope sPick) := ⟨rfl, rfl, rfl, by decide +kernel, rfl, by decide +kernel, by decide +kernel⟩
def spPick (K : PySem.W.Frag) : Sp := fun vs H Q _ => ∃ (p a l : Addr) (ns : List Int) (n : Int) (xs : List V), vs = [.ref p, .ref a] ∧ Pen H p l ns n ∧ n ≤ 100000 ∧ SqL K H a xs ∧ a ≠ p ∧ xs ≠ [] ∧ xs.length ≤ 1000 ∧
  ∀ x H2, x ∈ xs → ExP p H H2 → Pen H2 p l ns (n + 1) → Q x H2
theorem ok_pick {f : Addr} {fd : FuncData} {k : Nat} (F : FnP K "_law_pick" sPick f fd) (B : Bu mg) (D : FnA K mg "_law_draw" sDraw ["_law_pen_here", "_law_many"]) : FnOk P w K mg base CX0 (k + 2) f fd ["_law_pen_here", "_law_some"] (spPick K) := by
  have GD : FnOk P w K mg base CX0 (k + 1) D.f D.fd ["_law_pen_here", "_law_many"] spDraw := ok_draw D.F B
  refine ok0 F scPick (fun vs H Q E h => ?_) (fun cdv A outer s H vs Q E hr h => ?_)
  · obtain ⟨p, a, l, ns, n, xs, rfl, _⟩ := h
    rfl
  · obtain ⟨p, a, l, ns, n, xs, rfl, hp, hn, hS, hap, hne, hl, q⟩ := h
    refine ⟨_, pss_one (ps_ret (pe_ix ix_list (pv 1) (pe_call GD hr (by rfl) D.g D.F.kp D.b .nil pass0 (pa_cons (pv 0) (pa_cons (pe_callB call_len_seq rfl B.len PySem.boot_len (pa_cons (pv 1) pa_nil)) pa_nil))) (fun _ _ => rfl))), ?_⟩
    have hpos : 0 < xs.length := List.length_pos_iff.mpr hne
    refine ⟨.ref a, rfl, .ref p, rfl, .ref a, rfl, a, xs, rfl, .inl hS, ?_⟩
    refine ⟨p, l, ns, n, _, rfl, hp, hn, by omega, by omega, fun v H2 v0 v1 e hp2 => ?_⟩
    have hi : v.toNat < xs.length := by omega
    exact ⟨a, xs, v, xs[v.toNat], rfl, rfl, exp_l e hap hS, at_of (j := v.toNat) (by omega) (List.getElem?_eq_getElem hi), q _ H2 (List.getElem_mem hi) e hp2⟩
end
end KW
namespace KX
open PySem PySem.Spec PyProof.Rows L2 Evl
/-! ### len, == and != of instances by their own defs -/
section
variable {X : Cx} {pins : List (Addr × Obj)} {σ : L2.St} {H : Hp} {s : Shared} {CX : CXT} {n : Nat} {C f : Addr} {fd : FuncData} {ps : List Str} {sp : Sp} {E : XK}
/-- a def called at any level below the running body -/
theorem own_call (F : FnOk X.prog X.w X.K X.mg X.base CX n f fd ps sp) (hb : L2.Binds X.K fd ps []) (hx : Passes CX X E) {A : Around} (sb : Sub X n A) (I : Inv X pins σ H s) {vs : List V} {us : List Value} (r : Vals vs us) {Qv : VK} (h : sp vs H Qv E)
    {Q : Value → Shared → Prop} (hq : ∀ y v H' s', Inv X pins σ H' s' → RelV y v → Qv y H' → Q v s') : wpAny (model X.prog X.w) A (call (.ref f) us) Q X.xe s := by
  have e0 : Env0 X.prog X.w X.K X.mg X.base A X.stack s H := by
    have e := I.env0
    exact ⟨by rw [sb.fr]; exact e.frames, e.mod, e.bs, e.bsz, e.funs, e.frf, e.hok, e.bare⟩
  have hl := F.len _ _ _ _ h
  refine wpAny_call (codeAny_mono (F.run A X.stack s H ⟨us, []⟩ us vs _ E sb.room e0 (by
    have := hb s us I.kIn (by rw [List.append_nil, ← r.length]; exact hl)
    simpa using this) r h) fun res s' hq' => ?_)
  cases res with
  | error e => exact hx pins σ H s e s' I hq'
  | ok fl =>
    cases fl with
    | ret w =>
      obtain ⟨z, H', I', rz, ex⟩ := I.after hq'
      exact hq z w H' s' I' rz ex
    | next => exact False.elim hq'
    | brk => exact False.elim hq'
    | cont => exact False.elim hq'
/-- len(x) by an own __len__ -/
theorem call_lenO (F : FnOk X.prog X.w X.K X.mg X.base CX n f fd ps sp) (hs : PySem.W.findIn X.K (.ref C) "__len__" = some (some (.ref f))) (hf : PySem.W.isFn X.K (.ref f) = true) (hb : L2.Binds X.K fd ps []) (hx : Passes CX X E) (hr : Room (n + 1) X.A) :
    CallR X (.builtin "len") (fun xs H Q => ∃ a dx fs, xs = [.ref a] ∧ H a = some (.ins C dx fs) ∧ sp [.ref a] H (fun v H' => ∃ m : Nat, v = .int m ∧ m < 2 ^ 62 ∧ Q (.int m) H') E) := by
  intro pins s σ H xs us Q I r h
  obtain ⟨a, dx, fs, rfl, ha, hsp⟩ := h
  obtain ⟨u, rfl, ru⟩ := vals1 r
  obtain rfl : u = Value.ref a := ru
  obtain ⟨mA, J, _⟩ := ins_get I.hok ha
  obtain ⟨od, J, _⟩ := J.look
  refine Calls.call_function_entry kind_len plain_len entry_len (args_len1 _) ?_
  unfold Builtin.«len»
  refine wpAny_bind (m := oneArg "len" _) (wpAny_pure ?_)
  refine wpAny_bind (m := callSpecial? (.ref a) (PySem.Str.ofString "__len__")) ?_
  unfold callSpecial? specialOf
  refine wpAny_bind (wpAny_bind (J.type.here ((PySem.W.looks_findIn I.kIn hs).here ?_)))
  refine wpAny_holding ?_
  refine wpAny_bind ((PySem.W.bind_fn I.kIn _ (beq_iff_eq.mp hf)).here ?_)
  show wpAny _ _ (call (.ref f) [Value.ref a] >>= fun v => pure (some v)) _ _ _
  refine wpAny_bind (own_call F hb hx (A := X.A.in1) ⟨hr.in1, rfl⟩ I (r := (.cons rfl .nil : Vals [V.ref a] [Value.ref a])) hsp fun y v H' s' I' ry hy => ?_)
  obtain ⟨m, rfl, hm, q⟩ := hy
  obtain ⟨t, rfl⟩ := (show ∃ t, v = Value.int m t from ry)
  refine wpAny_pure (wpAny_bind (wpAny_holding (wpAny_pure ?_)))
  refine wpAny_bind (wpAny_letGo ?_)
  show wpAny _ _ (if ((m : Nat) : Int) < 0 then _ else _) _ _ _
  rw [if_neg (by omega)]
  show wpAny _ _ (if ((m : Nat) : Int) ≥ 2 ^ 63 then _ else _) _ _ _
  rw [if_neg (by omega)]
  exact wpAny_bind (wpAny_mkInt (wpAny_pure ⟨_, rfl, ⟨.int m, H', I'.tok _, ⟨_, rfl⟩, q⟩⟩))
/-- what stands at the right of ==: its class is not below C -/
def RightOk (X : Cx) (C : Addr) (y : V) (H : Hp) : Prop := ∀ (pins : List (Addr × Obj)) (σ : L2.St) (s : Shared) (v : Value), Inv X pins σ H s → RelV y v → ∃ tb, PySem.W.Looks (model X.prog X.w) s.heap (typeOf v) tb ∧ PySem.W.notFirst X.K C tb = true
theorem right_ins {C b dx : Addr} {fs : List (Str × V)} {H : Hp} (h : H b = some (.ins C dx fs)) : RightOk X C (.ref b) H := fun pins σ s v I rv => by
  obtain rfl : v = Value.ref b := rv
  obtain ⟨mA, J, _⟩ := ins_get I.hok h
  obtain ⟨od, J, _⟩ := J.look
  exact ⟨.ref C, J.type, by simp [PySem.W.notFirst]⟩
theorem right_lst {C b : Addr} {xs : List V} {H : Hp} (hn : PySem.W.notFirst X.K C (.type "list") = true) (h : H b = some (.lst xs)) : RightOk X C (.ref b) H := fun pins σ s v I rv => by
  obtain rfl : v = Value.ref b := rv
  obtain ⟨_, _, n, _, h1⟩ := (show ObjOk X.prog X.w H s.heap b (.lst xs) from I.hok b _ h)
  exact ⟨.type "list", (PySem.W.Looks.ld h1).andThen .now, hn⟩
/-- x == y by an own __eq__ -/
def rEqO (C : Addr) (X : Cx) (sp : Sp) (E : XK) : R2 := fun x y H Q => ∃ a dx fs, x = .ref a ∧ H a = some (.ins C dx fs) ∧ RightOk X C y H ∧ sp [.ref a, y] H (fun v H' => ∃ b, v = .bl b ∧ Q (.bl b) H') E
theorem op_eqO (F : FnOk X.prog X.w X.K X.mg X.base CX n f fd ps sp) (hs : PySem.W.findIn X.K (.ref C) "__eq__" = some (some (.ref f))) (hf : PySem.W.isFn X.K (.ref f) = true) (hb : L2.Binds X.K fd ps []) (hx : Passes CX X E) (hr : Room n X.A) :
    OpR X (compareOp .Eq) (rEqO C X sp E) := by
  intro pins s σ H x y v u Q I rx ry hq
  obtain ⟨a, dx, fs, rfl, ha, hR, hsp⟩ := hq
  obtain rfl : v = Value.ref a := rx
  obtain ⟨tb, hl, hn⟩ := hR pins σ s u I ry
  obtain ⟨mA, J, _⟩ := ins_get I.hok ha
  obtain ⟨od, J, _⟩ := J.look
  obtain ⟨m, hF⟩ := I.fr
  show wpAny (model X.prog X.w) X.A (richCompare .Eq (.ref a) u) (EP X pins σ Q) X.xe s
  refine PySem.W.cmp_K (op := .Eq) (tb := tb) hr.units0 hF I.ok.mod.kin J hl hn hs hf ?_
  refine own_call F hb hx (A := X.A) ⟨hr, rfl⟩ I (r := (.cons rfl (.cons ry .nil) : Vals [V.ref a, y] [Value.ref a, u])) hsp fun z w H' s' I' rz hz => ?_
  obtain ⟨b, rfl, q⟩ := hz
  obtain rfl : w = Value.bool b := rz
  exact ⟨.bl b, H', I', rfl, q⟩
theorem ifBoundB {M : Model} {A : Around} {x : Addr} {ox : Obj} {od : Option Obj} {name : Str} {B id : String} {args : List Value} {Q : Option Value → Shared → Prop} {E : Value → Shared → Prop} {K : PySem.W.Frag} (X : K.In s.heap) (I : PySem.W.InstAt s.heap x ox C od) (hs : PySem.W.findIn K (.ref C) name = some (some (.builtin id))) (S : Slot B name id)
    (h : wpAny M A (call (.builtin id) (.ref x :: args)) (fun v => Q (some v)) E s) : wpAny M A (callSpecialIfBound? (.ref x) name args) Q E s := by
  simp only [callSpecialIfBound?, bindSpecialIfBound?]
  refine wpAny_holding (wpAny_bind (wpAny_bind (wpAny_bind (I.type.here ((PySem.W.looks_findIn X hs).here ?_)))))
  simp only [S.bind]
  refine wpAny_bind (wpAny_askSetting (wpAny_ite ?_))
  have fin : wpAny M A (call (.builtin id) ([.ref x] ++ args) >>= fun v => pure (some v)) Q E s := wpAny_bind (wpAny_mono h (fun v s' h' => wpAny_pure h') fun _ _ h' => h')
  split
  · exact wpAny_bind (wpAny_pure (wpAny_pure (by exact fin)))
  · exact wpAny_tryCatch (wpAny_bind (wpAny_pure (wpAny_pure (by exact fin))))
/-- x != y, by object.__ne__ over the own __eq__ -/
def rNeO (C : Addr) (X : Cx) (sp : Sp) (E : XK) : R2 := fun x y H Q => ∃ a dx fs, x = .ref a ∧ H a = some (.ins C dx fs) ∧ RightOk X C y H ∧ sp [.ref a, y] H (fun v H' => ∃ b, v = .bl b ∧ Q (.bl (!b)) H') E
theorem op_neO (F : FnOk X.prog X.w X.K X.mg X.base CX n f fd ps sp) (hs : PySem.W.findIn X.K (.ref C) "__eq__" = some (some (.ref f))) (hne : PySem.W.findIn X.K (.ref C) "__ne__" = some (some (.builtin "object.__ne__"))) (ho : PySem.W.subIn X.K (.ref C) (.type "object") = some true)
    (hf : PySem.W.isFn X.K (.ref f) = true) (hb : L2.Binds X.K fd ps []) (hx : Passes CX X E) (hr : Room (n + 1) X.A) : OpR X (compareOp .NotEq) (rNeO C X sp E) := by
  intro pins s σ H x y v u Q I rx ry hq
  obtain ⟨a, dx, fs, rfl, ha, hR, hsp⟩ := hq
  obtain rfl : v = Value.ref a := rx
  obtain ⟨tb, hl, hn⟩ := hR pins σ s u I ry
  obtain ⟨mA, J, _⟩ := ins_get I.hok ha
  obtain ⟨od, J, _⟩ := J.look
  have X0 := I.kIn
  have isin : PySem.W.Looks (model X.prog X.w) s.heap (isInstance (.ref a) (.type "object")) true := J.type.andThen (PySem.W.looks_subIn X0 ho)
  have hcall : wpAny (model X.prog X.w) X.A (call (.builtin "object.__ne__") [.ref a, u]) (fun v s' => ∃ b, v = .bool b ∧ EP X pins σ Q (.bool b) s') X.xe s := by
    refine wpAny_call (codeAny_call_builtin PySem.F.cmp_object.ne.plain PySem.F.cmpEntry_ne (@PySem.W.check_slot (model X.prog X.w) _ _ _ "object.__ne__" "object" "__ne__" (.ref a) [u] [] _ (by decide +kernel) (by decide +kernel) isin (PySem.F.cmpArgs_ne _ _) ?_))
    have hin : wpAny (model X.prog X.w) X.A.in1 (call (.ref f) [.ref a, u]) (fun v s' => ∃ b, v = .bool b ∧ EP X pins σ Q (.bool (!b)) s') X.xe s := by
      refine own_call F hb hx (A := X.A.in1) ⟨hr.in1, rfl⟩ I (r := (.cons rfl (.cons ry .nil) : Vals [V.ref a, y] [Value.ref a, u])) hsp fun z w H' s' I' rz hz => ?_
      obtain ⟨b, rfl, q⟩ := hz
      obtain rfl : w = Value.bool b := rz
      exact ⟨b, rfl, .bl (!b), H', I', rfl, q⟩
    show wpAny _ _ (Builtin.«object.__ne__» ⟨[.ref a, u], []⟩) _ _ s
    unfold Builtin.«object.__ne__»
    repeat (first
      | with_reducible refine wpAny_cRoomFor hr.in1.units0 ?_
      | (refine wpAny_bind (m := callSpecialIfBound? (.ref a) (Str.ofString "__eq__") [u])
          (PySem.W.ifBound_K X0 J hs hf (wpAny_mono hin (fun r s' hr => by
            obtain ⟨b, rfl, hq⟩ := hr
            repeat (first | exact ⟨_, rfl, hq⟩ | exact wpAny_pure ⟨_, rfl, hq⟩ | (refine wpAny_bind (m := truthy (.bool _)) (wpAny_truthy_bool ?_)) | wp_step)) fun _ _ e => e)))
      | wp_step)
  have one : wpAny (model X.prog X.w) X.A (tryCompare (.ref a) "__ne__" u) (fun r s' => ∃ v, r = some v ∧ EP X pins σ Q v s') X.xe s := by
    unfold tryCompare
    refine wpAny_bind (ifBoundB X0 J hne PySem.F.cmp_object.ne (wpAny_mono hcall (fun v s' hv => ?_) fun _ _ e => e))
    obtain ⟨b, rfl, q⟩ := hv
    exact wpAny_pure ⟨_, rfl, q⟩
  show wpAny (model X.prog X.w) X.A (richCompare .NotEq (.ref a) u) (EP X pins σ Q) X.xe s
  unfold richCompare
  simp only [oneThing_ref]
  refine wpAny_holding (wpAny_bind (wpAny_cRoomFor hr.units0 ?_))
  refine wpAny_bind (J.type.here (wpAny_bind (hl.here ?_)))
  split
  · rename_i q
    have e : PySem.W.subIn X.K tb (.ref C) = some false := by
      rcases Bool.or_eq_true_iff.mp hn with e | e
      · rw [beq_iff_eq.mp e] at q; simp at q
      · exact beq_iff_eq.mp e
    refine wpAny_bind ((PySem.W.looks_subIn X0 e).here ?_)
    simp only [Bool.false_eq_true, if_false]
    refine wpAny_bind (wpAny_mono one (fun r s' z => ?_) fun _ _ e => e)
    obtain ⟨v, rfl, hq⟩ := z
    exact wpAny_pure hq
  · refine wpAny_bind (wpAny_pure ?_)
    simp only [Bool.false_eq_true, if_false]
    refine wpAny_bind (wpAny_mono one (fun r s' z => ?_) fun _ _ e => e)
    obtain ⟨v, rfl, hq⟩ := z
    exact wpAny_pure hq
end
end KX
namespace KX
open PySem PySem.Spec PyProof.Rows L2 Evl
/-! ### data of bounded depth: compared, looked for -/
structure GD (K : PySem.W.Frag) (H : Hp) (v : V) (d : PyData) (n : Nat) : Prop where
  dp : Dp K H v d
  lay : d.canLay0 = true
  dep : d.depth ≤ n
theorem GD.sh {K : PySem.W.Frag} {H : Hp} {v : V} {d : PyData} {n : Nat} (h : GD K H v d n) (hn : n ≤ 64) : SeqAt.shaped d = true := by
  unfold SeqAt.shaped
  rw [h.lay, decide_eq_true (Nat.le_trans h.dep hn)]
  rfl
section
variable {K : PySem.W.Frag} {H : Hp}
theorem GD.non {n : Nat} : GD K H .non .none n := ⟨.non, by simp [PyData.canLay0], by simp [PyData.depth]⟩
theorem GD.bl {n : Nat} (b : Bool) : GD K H (.bl b) (.bool b) n := ⟨.bl b, by simp [PyData.canLay0], by simp [PyData.depth]⟩
theorem GD.int {n : Nat} (i : Int) : GD K H (.int i) (.int i) n := ⟨.int i, by simp [PyData.canLay0], by simp [PyData.depth]⟩
theorem GD.str {n : Nat} {z : Str} (h : (PyData.str z).canLay0 = true) : GD K H (.str z) (.str z) n := ⟨.str z, h, by simp [PyData.depth]⟩
theorem gd_all {n : Nat} : ∀ {xs : List V} {ds : List PyData}, Paired (fun v d => GD K H v d n) xs ds → DpAll K H xs ds ∧ PyData.canLayAll0 ds = true ∧ PyData.depthAll ds ≤ n
  | _, _, .nil => ⟨.nil, by simp [PyData.canLayAll0], by simp [PyData.depthAll]⟩
  | _, _, .cons a b => by
    obtain ⟨h1, h2, h3⟩ := gd_all b
    refine ⟨.cons a.dp h1, by simp [PyData.canLayAll0, a.lay, h2], ?_⟩
    simp only [PyData.depthAll]
    exact Nat.max_le.mpr ⟨a.dep, h3⟩
theorem GD.tup {n : Nat} {a : Addr} {xs : List V} {ds : List PyData} (hs : SqT K H a xs) (h : Paired (fun v d => GD K H v d n) xs ds) : GD K H (.ref a) (.tuple ds) (n + 1) := by
  obtain ⟨h1, h2, h3⟩ := gd_all h
  exact ⟨.tup hs h1, by simpa [PyData.canLay0] using h2, by simp only [PyData.depth]; omega⟩
theorem GD.lst {n : Nat} {a : Addr} {xs : List V} {ds : List PyData} (hs : SqL K H a xs) (h : Paired (fun v d => GD K H v d n) xs ds) : GD K H (.ref a) (.list ds) (n + 1) := by
  obtain ⟨h1, h2, h3⟩ := gd_all h
  exact ⟨.lst hs h1, by simpa [PyData.canLay0] using h2, by simp only [PyData.depth]; omega⟩
theorem GD.mono {n m : Nat} {v : V} {d : PyData} (h : GD K H v d n) (k : n ≤ m) : GD K H v d m := ⟨h.dp, h.lay, Nat.le_trans h.dep k⟩
theorem eq_gd {x y : V} {d e : PyData} {n m : Nat} {Q : VK} (hx : GD K H x d n) (hy : GD K H y e m) (q : Q (.bl (PyData.eqv d e)) H) (h1 : n ≤ 64 := by omega) (h2 : m ≤ 64 := by omega) : rEqD K x y H Q := ⟨d, e, hx.dp, hy.dp, hx.sh h1, hy.sh h2, q⟩
theorem ne_gd {x y : V} {d e : PyData} {n m : Nat} {Q : VK} (hx : GD K H x d n) (hy : GD K H y e m) (q : Q (.bl (!PyData.eqv d e)) H) (h1 : n ≤ 64 := by omega) (h2 : m ≤ 64 := by omega) : rNeD K x y H Q := ⟨d, e, hx.dp, hy.dp, hx.sh h1, hy.sh h2, q⟩
/-- x in t, x not in t: t a list or a tuple of data -/
def rInG (K : PySem.W.Frag) (neg : Bool) : R2 := fun x y H Q => ∃ d ds n m, GD K H x d n ∧ (GD K H y (.list ds) m ∨ GD K H y (.tuple ds) m) ∧ n ≤ 64 ∧ m ≤ 64 ∧ Q (.bl (if neg = true then !ds.any fun z => PyData.eqv z d else ds.any fun z => PyData.eqv z d)) H
theorem eqvAll_map {α : Type} [DecidableEq α] (f : α → PyData) (hf : ∀ x y, PyData.eqv (f x) (f y) = decide (x = y)) : ∀ l m : List α, PyData.eqvAll (l.map f) (m.map f) = decide (l = m)
  | [], [] => by simp [PyData.eqvAll]
  | [], y :: m => by simp [PyData.eqvAll]
  | x :: l, [] => by simp [PyData.eqvAll]
  | x :: l, y :: m => by
    simp only [List.map_cons, PyData.eqvAll]
    rw [hf x y, eqvAll_map f hf l m]
    by_cases h1 : x = y
    · by_cases h2 : l = m
      · subst h1 h2; simp
      · rw [decide_eq_false h2, decide_eq_false (fun z => h2 (List.cons.inj z).2), Bool.and_false]
    · rw [decide_eq_false h1, decide_eq_false (fun z => h1 (List.cons.inj z).1), Bool.false_and]
theorem eqv_tmap {α : Type} [DecidableEq α] (f : α → PyData) (hf : ∀ x y, PyData.eqv (f x) (f y) = decide (x = y)) (l m : List α) : PyData.eqv (.tuple (l.map f)) (.tuple (m.map f)) = decide (l = m) := by
  simp only [PyData.eqv]
  exact eqvAll_map f hf l m
theorem eqv_lmap {α : Type} [DecidableEq α] (f : α → PyData) (hf : ∀ x y, PyData.eqv (f x) (f y) = decide (x = y)) (l m : List α) : PyData.eqv (.list (l.map f)) (.list (m.map f)) = decide (l = m) := by
  simp only [PyData.eqv]
  exact eqvAll_map f hf l m
theorem eqv_int (x y : Int) : PyData.eqv (.int x) (.int y) = decide (x = y) := by
  simp only [PyData.eqv]
  by_cases h : x = y
  · subst h; simp
  · simp [h]
theorem eqv_str (x y : Str) : PyData.eqv (.str x) (.str y) = decide (x = y) := by
  simp only [PyData.eqv]
  by_cases h : x = y
  · subst h; simp
  · simp [h]
def pqD (p : Int × Int) : PyData := .tuple [.int p.1, .int p.2]
theorem eqv_pair (x y : Int × Int) : PyData.eqv (pqD x) (pqD y) = decide (x = y) := by
  unfold pqD
  simp only [PyData.eqv, PyData.eqvAll]
  obtain ⟨a, b⟩ := x
  obtain ⟨c, d⟩ := y
  by_cases h1 : a = c
  · by_cases h2 : b = d
    · subst h1 h2; simp
    · simp [h2]
  · simp [h1]
theorem any_yes {α : Type} [DecidableEq α] (f : α → PyData) (hf : ∀ x y, PyData.eqv (f x) (f y) = decide (x = y)) {l : List α} {x : α} (h : x ∈ l) : ((l.map f).any fun z => PyData.eqv z (f x)) = true :=
  List.any_eq_true.mpr ⟨f x, List.mem_map.mpr ⟨x, h, rfl⟩, by rw [hf]; exact decide_eq_true rfl⟩
theorem any_no {α : Type} [DecidableEq α] (f : α → PyData) (hf : ∀ x y, PyData.eqv (f x) (f y) = decide (x = y)) {l : List α} {x : α} (h : x ∉ l) : ((l.map f).any fun z => PyData.eqv z (f x)) = false :=
  List.any_eq_false.mpr fun z hz e => by
    obtain ⟨y, hy, rfl⟩ := List.mem_map.mp hz
    rw [hf] at e
    exact h (by rw [← of_decide_eq_true e]; exact hy)
end
section
variable {X : Cx}
theorem op_inG (hu : X.A.units + 65 < cLine) : OpR X (compareOp .In) (rInG X.K false) := by
  intro pins s σ H x y v u Q I rx ry h
  obtain ⟨d, ds, n, m, hd, he, h1, h2, q⟩ := h
  obtain ⟨as, r1⟩ := Dp.reads I d x v hd.dp rx
  rcases he with he | he
  · obtain ⟨bs, r2⟩ := Dp.reads I (.list ds) y u he.dp ry
    exact SeqAt.in_list_reads r2 r1 (SeqAt.canLay_of_shaped (he.sh h2)) (SeqAt.canLay_of_shaped (hd.sh h1)) (room_in_shaped (hd.sh h1) hu) ⟨.bl _, H, I, rfl, q⟩
  · obtain ⟨bs, r2⟩ := Dp.reads I (.tuple ds) y u he.dp ry
    exact SeqAt.in_tuple_reads r2 r1 (SeqAt.canLay_of_shaped (he.sh h2)) (SeqAt.canLay_of_shaped (hd.sh h1)) (room_in_shaped (hd.sh h1) hu) ⟨.bl _, H, I, rfl, q⟩
theorem op_notInG (hu : X.A.units + 65 < cLine) : OpR X (compareOp .NotIn) (rInG X.K true) := by
  intro pins s σ H x y v u Q I rx ry h
  obtain ⟨d, ds, n, m, hd, he, h1, h2, q⟩ := h
  obtain ⟨as, r1⟩ := Dp.reads I d x v hd.dp rx
  rcases he with he | he
  · obtain ⟨bs, r2⟩ := Dp.reads I (.list ds) y u he.dp ry
    exact SeqAt.notIn_list_reads r2 r1 (SeqAt.canLay_of_shaped (he.sh h2)) (SeqAt.canLay_of_shaped (hd.sh h1)) (room_in_shaped (hd.sh h1) hu) ⟨.bl _, H, I, rfl, q⟩
  · obtain ⟨bs, r2⟩ := Dp.reads I (.tuple ds) y u he.dp ry
    exact SeqAt.notIn_tuple_reads r2 r1 (SeqAt.canLay_of_shaped (he.sh h2)) (SeqAt.canLay_of_shaped (hd.sh h1)) (room_in_shaped (hd.sh h1) hu) ⟨.bl _, H, I, rfl, q⟩
end
end KX
namespace KX
open PySem PySem.Spec PyProof.Rows L2 Evl
/-! ### t.index(x) of a tuple of data -/
def rTIx (K : PySem.W.Frag) : V → List V → Hp → VK → Prop := fun x xs H Q => ∃ (a : Addr) (y : V) (d : PyData) (ds : List PyData) (j : Nat) (z : PyData) (n m : Nat), x = V.ref a ∧ xs = [y] ∧ GD K H (V.ref a) (.tuple ds) n ∧ GD K H y d m ∧ n ≤ 64 ∧ m ≤ 64 ∧
  ds[j]? = some z ∧ PyData.eqv z d = true ∧ (∀ (m : Nat) (z' : PyData), m < j → ds[m]? = some z' → PyData.eqv z' d = false) ∧ Q (.int (j : Nat)) H
section
variable {X : Cx}
theorem mt_tix (hu : X.A.units + 65 < cLine) : MtR X "tuple.index" (rTIx X.K) := by
  intro pins s σ H x xs v us Q I rx rxs h
  obtain ⟨a, y, d, ds, j, z, n0, m0, rfl, rfl, hl, hy, hn0, hm0, hz, hzj, hno, q⟩ := h
  have sl := hl.sh hn0
  have sd := hy.sh hm0
  have hl := hl.dp
  have hy := hy.dp
  cases rx
  cases rxs with
  | cons ry rt =>
    rename_i uy ut
    cases rt
    obtain ⟨bs, r1⟩ := Dp.reads I d y uy hy ry
    have hxs : PyData.canLayAll0 ds = true := SeqAt.canLay_of_shaped sl
    have hroom : X.A.units + 1 + min (PyData.depthAll ds) d.depth < cLine := room_in_shaped sd hu
    cases hl with
    | tup hs ha =>
      obtain ⟨its, rv, pl, hlen⟩ := I.tuple hs
      obtain ⟨⟨cls, dd, dt, sls⟩, ho, hc, n, hdt⟩ := pl
      simp only at hc hdt
      subst hc hdt
      obtain ⟨as, h4⟩ := Dp.readsAll I ds _ its ha rv
      have hn : its.length = ds.length := SeqAt.ReadsAll.length ds its as h4
      have hmap : its.map (SeqAt.readOf s.heap) = ds := SeqAt.readsAll_map ds its as hxs h4
      have hvl := rv.length
      have hsl := sizeLine_eq
      obtain ⟨hjd, _⟩ := List.getElem?_eq_some_iff.mp hz
      have hjl : j < its.length := by omega
      have hj : j < its.toArray.size := by simpa using hjl
      have at_ : ∀ (m : Nat) (hm : m < its.toArray.size) (z' : PyData), ds[m]? = some z' → SeqAt.readOf s.heap its.toArray[m] = z' := by
        intro m hm z' hz'
        have hml : m < its.length := by simpa using hm
        rw [← hmap, List.getElem?_map, List.getElem?_eq_getElem hml] at hz'
        have e1 : SeqAt.readOf s.heap its[m] = z' := Option.some.inj (show some (SeqAt.readOf s.heap its[m]) = some z' from hz')
        simpa using e1
      refine call_meets PySem.F.slot_tuple_index ⟨_, ho, rfl⟩ PySem.F.entry_tuple_index (PySem.F.args_tuple_index_2 _ _)
        (TI.tuple_indexAt a its.toArray n dd sls uy (fun u => PyData.eqv (SeqAt.readOf s.heap u) d) j hj ?_ ?_) ⟨ho, SeqAt.items_eqAt (vs := its.toArray) (show ReadsAll s.heap its.toArray.toList ds as from h4) r1 hxs (SeqAt.canLay_of_shaped sd) hroom, ?_⟩
      · show PyData.eqv (SeqAt.readOf s.heap its.toArray[j]) d = true
        rw [at_ j hj z hz]
        exact hzj
      · intro m hm hmj
        have hml : m < ds.length := by
          have : m < its.length := by simpa using hm
          omega
        show PyData.eqv (SeqAt.readOf s.heap its.toArray[m]) d = false
        rw [at_ m hm _ (List.getElem?_eq_getElem hml)]
        exact hno m _ hmj (List.getElem?_eq_getElem hml)
      · exact ⟨.int (j : Nat), H, I.tok _, ⟨_, rfl⟩, q⟩
end
end KX
namespace KX
open PySem PySem.Spec PyProof.Rows L2 Evl
/-! ### a tuple whose object is known: its methods -/
def TF (H : Hp) (a : Addr) (xs : List V) : Prop := ∃ o : Obj, H a = some (.frz o (.tup xs)) ∧ o.cls = .type "tuple" ∧ o.dict = none
theorem TF.up {H H' : Hp} {a : Addr} {xs : List V} (e : Ex H H') (h : TF H a xs) : TF H' a xs := let ⟨o, x, y⟩ := h; ⟨o, e _ _ x, y⟩
theorem TF.st {K : PySem.W.Frag} {H : Hp} {a : Addr} {xs : List V} (h : TF H a xs) : SqT K H a xs := let ⟨o, x, _⟩ := h; .inl (.inr ⟨o, x⟩)
/-- known or not -/
def TX (H : Hp) (a : Addr) (xs : List V) : Prop := H a = some (.tup xs) ∨ TF H a xs
theorem TX.up {H H' : Hp} {a : Addr} {xs : List V} (e : Ex H H') (h : TX H a xs) : TX H' a xs := h.elim (fun h => .inl (e _ _ h)) fun h => .inr (h.up e)
theorem TX.st {K : PySem.W.Frag} {H : Hp} {a : Addr} {xs : List V} (h : TX H a xs) : SqT K H a xs := h.elim (fun h => .inl (.inl h)) fun h => h.st
def kTupF (K : PySem.W.Frag) (x : V) (H : Hp) (Q : VK) : Prop := ∃ p xs, x = .ref p ∧ SqL K H p xs ∧ ∀ q o, H q = none → o.cls = .type "tuple" → o.dict = none → Q (.ref q) (upd H q (.frz o (.tup xs)))
section
variable {X : Cx}
theorem rl_tupF (pins : List (Addr × Obj)) (s : Shared) (σ : L2.St) (H : Hp) (x : V) (v : Value) (Q : VK) (I : Inv X pins σ H s) (r : RelV x v) (h : kTupF X.K x H Q) :
    wpAny (model X.prog X.w) X.A (call (.type "tuple") [v]) (EP X pins σ Q) X.xe s := by
  obtain ⟨p, xs, rfl, hs, q⟩ := h
  obtain rfl : v = .ref p := r
  obtain ⟨its, rv, pl, hz⟩ := I.list hs
  refine call_tuple_list pl.isList (fun h' hk => ?_) (by rw [List.size_toArray, ← rv.length]; exact hz)
  have I1 : Inv X pins σ H { s with heap := h' } := I.kept (t' := s.toks) hk
  have I2 : Inv X pins σ (upd H h'.objs.size (.frz { cls := .type "tuple", data := .seq its.toArray } (.tup xs))) { s with heap := h'.push { cls := .type "tuple", data := .seq its.toArray } } :=
    I1.laid (t' := s.toks) (fun b o e => Heap.get?_push_of_some _ e) (Nat.le_refl _) (show ObjOk X.prog X.w _ _ _ (.frz _ (.tup xs)) from ⟨Heap.get?_push_size _ rfl, hz, its, rv, IsTup.new _ _⟩)
  exact ⟨.ref h'.objs.size, _, I2, rfl, q _ _ (I1.hok.fresh (Nat.le_refl _)) rfl rfl⟩
theorem pe_tupF {a : Expr} {ta : TE} {p pos : Pos} (hg : Gl X "tuple") (hm : X.mg "tuple" = none) (ha : PE X a ta) (na : starEach [a] X.env = (false, eval a X.env) :: starEach [] X.env := by rfl) :
    PE X (.Call (.Name "tuple" p) [a] [] pos) (tThen ta (kTupF X.K)) := by
  refine ⟨fun pins s σ H Q I h => ?_⟩
  exact Call_ (ld_blt I hg hm boot_tuple (PyProof.Rows.callWith_type1 (one_arg ha I h (fun v s2 x H2 I2 r q => rl_tupF pins s2 σ H2 x v Q I2 r q) na) na))
/-- t.m(..), t such a tuple -/
def tBMT (r : V → List V → Hp → VK → Prop) (to : TE) (t : TA) : TE := fun σ H Q => to σ H fun x H1 => (∃ a xs, x = .ref a ∧ TF H1 a xs) ∧ t σ H1 fun zs H2 => r x zs H2 Q
theorem pe_bmT {o e : Expr} {es : List Expr} {to : TE} {t : TA} {name : Str} {apos cpos : Pos} {id : String} {r : V → List V → Hp → VK → Prop} (slot : Slot "tuple" name id) (hty : typeOf (.builtin id) = pure (.type "method_descriptor")) (hm : MtR X id r) (ho : PE X o to) (ha : PA X (e :: es) t)
    (hbase : attributeBase o name X.env (eval o X.env) = eval o X.env := by rfl)
    (hfew : ((backTo cpos (starEach (e :: es) X.env)).all (fun x => !x.1) && (backToKw cpos (keywordEach [] X.env)).all (fun x => x.1.isSome)
      && decide ((e :: es).length + ([] : List Keyword).length + (if ([] : List Keyword).isEmpty then 0 else 1) < 30)) = true := by rfl)
    (hline : (apos.endLine == cpos.line) = true := by rfl) (hs : starEach (e :: es) X.env = (false, eval e X.env) :: starEach es X.env := by rfl) (hplain : (backTo cpos (starEach es X.env)).any (·.1) = false := by rfl) :
    PE X (.Call (.Attribute o name apos) (e :: es) [] cpos) (tBMT r to t) := by
  refine ⟨fun pins s σ H Q I h => ?_⟩
  refine wpAny_Call_method_late hbase hfew hline rfl (wpAny_mono (ho.run pins s σ H _ I h) (fun v s1 hv => ?_) fun _ _ e => e)
  obtain ⟨x, H1, I1, r1, ⟨a, xs, rfl, ob, hob, oc, od⟩, q1⟩ := hv
  obtain rfl : v = .ref a := r1
  have hget : s1.heap.get? a = some ob := (show ObjOk X.prog X.w H1 s1.heap a (.frz ob (.tup xs)) from I1.hok a _ hob).1
  refine ⟨"tuple", id, PySem.F.plainAttrs_tuple, slot, hty, ⟨ob, hget, oc⟩, fun b e => by cases e; exact ⟨ob, hget, od⟩, ?_⟩
  have hA := ha.run cpos pins s1 σ H1 _ I1 q1
  rw [hs] at hA ⊢
  refine Calls.callWith_builtin (by show (false || (backTo cpos (starEach es X.env)).any (·.1)) = false; rw [hplain] <;> rfl) (Calls.evalArgs_plain ?_)
  exact wpAny_mono hA (fun us s2 ⟨vs, H2, I2, r2, q2⟩ => hm pins s2 σ H2 (.ref a) vs (.ref a) us Q I2 rfl r2 q2) fun _ _ e => e
end
end KX
namespace KW
open PySem PySem.Spec PyProof.Rows L2 KR KS KX Evl StX
/-! ### kinds of values -/
inductive Kd (H : Hp) : V → String → Prop
  | int (i : Int) : Kd H (.int i) "int"
  | bl (b : Bool) : Kd H (.bl b) "bool"
  | non : Kd H .non "NoneType"
  | str (z : Str) : Kd H (.str z) "str"
  | lst (a : Addr) (xs : List V) (h : H a = some (.lst xs)) : Kd H (.ref a) "list"
  | tup (a : Addr) (xs : List V) (h : TX H a xs) : Kd H (.ref a) "tuple"
  | dic (a : Addr) (kvs : List (Key × V)) (h : H a = some (.dK kvs)) : Kd H (.ref a) "dict"
theorem Kd.up {H H' : Hp} {v : V} {T : String} (e : Ex H H') (h : Kd H v T) : Kd H' v T := by
  cases h with
  | int i => exact .int i
  | bl b => exact .bl b
  | non => exact .non
  | str z => exact .str z
  | lst a xs h => exact .lst a xs (e _ _ h)
  | tup a xs h => exact .tup a xs (h.up e)
  | dic a xs h => exact .dic a xs (e _ _ h)
section
variable {K : PySem.W.Frag} {H : Hp} {v : V} {T : String}
theorem Kd.ty (h : Kd H v T) : TyX K H v (.type T) := by
  cases h with
  | int i => exact .base (.int i)
  | bl b => exact .base (.bl b)
  | non => exact .base .non
  | str z => exact .base (.str z)
  | lst a xs h => exact .base (.lst h)
  | tup a xs h => exact h.elim (fun h => .base (.tup h)) fun ⟨o, x, _⟩ => .fTuple x
  | dic a xs h => exact .base (.dK h)
theorem Kd.isI (h : Kd H v T) : PySem.W.kitOne K (.type T) (.type "int") = some (decide (T = "int") || decide (T = "bool")) := by cases h <;> exact kit_ty (by decide +kernel)
theorem Kd.isB (h : Kd H v T) : PySem.W.kitOne K (.type T) (.type "bool") = some (decide (T = "bool")) := by cases h <;> exact kit_ty (by decide +kernel)
theorem Kd.isS (h : Kd H v T) : PySem.W.kitOne K (.type T) (.type "str") = some (decide (T = "str")) := by cases h <;> exact kit_ty (by decide +kernel)
theorem Kd.isL (h : Kd H v T) : PySem.W.kitOne K (.type T) (.type "list") = some (decide (T = "list")) := by cases h <;> exact kit_ty (by decide +kernel)
theorem Kd.isT (h : Kd H v T) : PySem.W.kitOne K (.type T) (.type "tuple") = some (decide (T = "tuple")) := by cases h <;> exact kit_ty (by decide +kernel)
theorem Kd.isLT (h : Kd H v T) : PySem.W.kitAny K (.type T) [.type "list", .type "tuple"] = some (decide (T = "list") || decide (T = "tuple")) :=
  kitAny_cons h.isL (fun e => kitAny_cons h.isT (fun e2 => by rw [e, e2]; exact kitAny_nil) (fun e2 => by rw [e, e2]; rfl)) (fun e => by rw [e]; rfl)
end
section
variable {P : Program} {w : World} {K : PySem.W.Frag} {mg : Str → Option Value} {base : Heap}
/-! ### is_integer -/
abbrev sIsI : Stmt := topS 19
theorem scIsI : FnScope ["value"] ["value"] (defScope sIsI) := ⟨rfl, rfl, rfl, by decide +kernel, rfl, by decide +kernel, by decide +kernel⟩
def spIsI : Sp := fun vs H Q _ => ∃ (v : V) (T : String), vs = [v] ∧ Kd H v T ∧ Q (.bl (decide (T = "int"))) H
theorem ok_isI {f : Addr} {fd : FuncData} {k : Nat} (F : FnP K "is_integer" sIsI f fd) (B : Bu mg) : FnOk P w K mg base CX0 (k + 1) f fd ["value"] spIsI := by
  refine ok0 F scIsI (fun vs H Q E h => ?_) (fun cdv A outer s H vs Q E hr h => ?_)
  · obtain ⟨v, T, rfl, _⟩ := h
    rfl
  · obtain ⟨v, T, rfl, h, q⟩ := h
    refine ⟨_, pss_one (ps_ret (pe_and (pe_callB call_isi rfl B.isinstance boot_isinstance (pa_cons (pv 0) (pa_cons (pe_bltn (v := V.ty "int") rfl B.int boot_int rfl) pa_nil)))
      (pe_one (pe_not (pe_callB call_isi rfl B.isinstance boot_isinstance (pa_cons (pv 0) (pa_cons (pe_bltn (v := V.ty "bool") rfl B.bool boot_bool rfl) pa_nil))))))), ?_⟩
    refine ⟨v, rfl, v, V.ty "int", _, _, _, rfl, .ty _, h.ty, h.isI, _, rfl, ?_⟩
    cases h with
    | int i => exact iteT ⟨_, rfl, _, V.ty "bool", _, _, _, rfl, .ty _, (Kd.int i : Kd H _ _).ty, (Kd.int i : Kd H _ _).isB, _, rfl, q⟩
    | bl i => exact iteT ⟨_, rfl, _, V.ty "bool", _, _, _, rfl, .ty _, (Kd.bl i : Kd H _ _).ty, (Kd.bl i : Kd H _ _).isB, _, rfl, q⟩
    | _ => exact iteF q
/-! ### is_within -/
abbrev sWit : Stmt := topS 20
theorem scWit : FnScope ["value", "least", "most"] ["value", "least", "most"] (defScope sWit) := ⟨rfl, rfl, rfl, by decide +kernel, rfl, by decide +kernel, by decide +kernel⟩
def oV : Option Int → V
  | none => .non
  | some i => .int i
def wit (v : V) (l m : Option Int) : Bool := match v with
  | .int i => (l.all fun x => decide (x ≤ i)) && (m.all fun x => decide (i ≤ x))
  | _ => false
def spWit : Sp := fun vs H Q _ => ∃ (v : V) (T : String) (l m : Option Int), vs = [v, oV l, oV m] ∧ Kd H v T ∧ Q (.bl (wit v l m)) H
theorem ok_wit {f : Addr} {fd : FuncData} {k : Nat} (F : FnP K "is_within" sWit f fd) (B : Bu mg) (I_ : FnA K mg "is_integer" sIsI ["value"]) : FnOk P w K mg base CX0 (k + 2) f fd ["value", "least", "most"] spWit := by
  have GI : FnOk P w K mg base CX0 (k + 1) I_.f I_.fd ["value"] spIsI := ok_isI I_.F B
  refine ok0 F scWit (fun vs H Q E h => ?_) (fun cdv A outer s H vs Q E hr h => ?_)
  · obtain ⟨v, T, l, m, rfl, _⟩ := h
    rfl
  · obtain ⟨v, T, l, m, rfl, h, q⟩ := h
    refine ⟨_, pss_cons (ps_if (pt_not (pt_val (pe_call GI hr (by rfl) I_.g I_.F.kp I_.b .nil pass0 (pa_cons (pv 0) pa_nil)))) (pss_one (ps_ret pe_bl)) pss_nil)
      (pss_one (ps_ret (pe_and (pe_or (pe_cmp (pc_isN (pv 1)) rfl) (pe_one (pe_cmpR op_ge (pv 0) (pv 1) (nomark _)))) (pe_one (pe_or (pe_cmp (pc_isN (pv 2)) rfl) (pe_one (pe_cmpR op_le (pv 0) (pv 2) (nomark _)))))))), ?_⟩
    refine ⟨v, rfl, v, T, rfl, h, _, rfl, ?_⟩
    cases h with
    | int i =>
      refine iteF ?_
      have tail : ∀ b : Bool, (b = (l.all fun x => decide (x ≤ i))) → Q (.bl (wit (.int i) l m)) H → if b = true then tOrV (tIsN (tVar 2)) (tOp (rI0 fun i j => .bl (decide (i ≤ j))) (tVar 0) (tVar 2)) [some (.int i), some (oV l), some (oV m)] H Q else Q (.bl false) H := by
        intro b hb q
        subst hb
        replace q : Q (.bl ((l.all fun x => decide (x ≤ i)) && (m.all fun x => decide (i ≤ x)))) H := q
        cases e : (l.all fun x => decide (x ≤ i)) with
        | false => rw [e] at q; exact iteF q
        | true =>
          rw [e] at q
          refine iteT ?_
          cases m with
          | none => exact ⟨_, rfl, _, rfl, iteT q⟩
          | some m => exact ⟨_, rfl, _, rfl, iteF ⟨_, rfl, _, rfl, _, _, rfl, rfl, by simpa [Option.all] using q⟩⟩
      cases l with
      | none => exact ⟨_, rfl, _, rfl, iteT ⟨_, rfl, tail true rfl q⟩⟩
      | some l => exact ⟨_, rfl, _, rfl, iteF ⟨_, rfl, _, rfl, _, _, rfl, rfl, _, rfl, tail _ (by simp [Option.all]) q⟩⟩
    | _ => exact iteT q
/-! ### is_numbers -/
abbrev sNum : Stmt := topS 22
theorem scNum : FnScope ["value", "number"] ["value"] (defScope sNum) := ⟨rfl, rfl, rfl, by decide +kernel, rfl, by decide +kernel, by decide +kernel⟩
def Seq1 (H : Hp) (a : Addr) (xs : List V) : Prop := H a = some (.lst xs) ∨ TX H a xs
def spNum : Sp := fun vs H Q _ => ∃ (v : V), vs = [v] ∧ ((∃ T, Kd H v T ∧ (decide (T = "list") || decide (T = "tuple")) = false ∧ ∀ H2, Ex H H2 → Q (.bl false) H2) ∨
  ∃ (a : Addr) (xs : List V) (ts : List String), v = .ref a ∧ Seq1 H a xs ∧ Paired (Kd H) xs ts ∧ xs.length ≤ 1000 ∧ ∀ H2, Ex H H2 → Q (.bl (ts.all fun T => decide (T = "int"))) H2)
theorem pgetL {α β : Type} {F : α → β → Prop} {xs : List α} {ys : List β} (h : Paired F xs ys) : xs.length = ys.length := Paired.length h
theorem ok_num {f : Addr} {fd : FuncData} {k : Nat} (F : FnP K "is_numbers" sNum f fd) (B : Bu mg) (I_ : FnA K mg "is_integer" sIsI ["value"]) : FnOk P w K mg base CX0 (k + 2) f fd ["value"] spNum := by
  have GI : FnOk P w K mg base CX0 (k + 1) I_.f I_.fd ["value"] spIsI := ok_isI I_.F B
  refine ok0 F scNum (fun vs H Q E h => ?_) (fun cdv A outer s H vs Q E hr h => ?_)
  · obtain ⟨v, rfl, _⟩ := h
    rfl
  · obtain ⟨v, rfl, h⟩ := h
    refine ⟨_, pss_one (ps_ret (pe_and (pe_callB call_isiT rfl B.isinstance boot_isinstance (pa_cons (pv 0) (pa_cons (pe_tup (pa_cons (pe_bltn (v := V.ty "list") rfl B.list boot_list rfl) (pa_cons (pe_bltn (v := V.ty "tuple") rfl B.tuple boot_tuple rfl) pa_nil))) pa_nil)))
      (pe_one (pe_callB (cr_all rfl) rfl B.all boot_all (pa_cons (pe_lc (own := [("number", 1)]) (g := gName 1) rfl scNum.nd (pi_seq (pv 0)) (blkOk_by (N := ["value", "number"]) (sc := defScope sNum) (by decide +kernel))
        (fun _ _ _ _ _ => pg_name (i := 1) scNum.nd rfl (Or.inl rfl)) (fun _ _ _ _ _ => pts_nil) (fun _ _ _ _ _ => pe_call GI hr (by rfl) I_.g I_.F.kp I_.b .nil pass0 (pa_cons (pv 1) pa_nil))) pa_nil))))), ?_⟩
    refine ⟨v, rfl, by show 2 ≤ sizeLine; decide, fun tp htp => ?_⟩
    have e0 : Ex H (upd H tp (.tup [V.ty "list", V.ty "tuple"])) := Ex.new htp
    have cl : Paired ClsV [V.ty "list", V.ty "tuple"] [Value.type "list", Value.type "tuple"] := .cons (.ty _) (.cons (.ty _) .nil)
    rcases h with ⟨T, h, hT, q⟩ | ⟨a, xs, ts, rfl, hS, hP, hl, q⟩
    · exact ⟨v, tp, _, _, _, _, rfl, upd_same, cl, (h.up e0).ty, (h.up e0).isLT, _, rfl, by rw [hT]; exact iteF (q _ e0)⟩
    · obtain ⟨T, hk, hT⟩ : ∃ T, Kd (upd H tp (.tup [V.ty "list", V.ty "tuple"])) (.ref a) T ∧ (decide (T = "list") || decide (T = "tuple")) = true := by
        rcases hS with hS | hS
        · exact ⟨_, .lst a xs (e0 _ _ hS), rfl⟩
        · exact ⟨_, .tup a xs (hS.up e0), rfl⟩
      refine ⟨.ref a, tp, _, _, _, _, rfl, upd_same, cl, hk.ty, hk.isLT, _, rfl, ?_⟩
      rw [hT]
      refine iteT ?_
      have hSq : Sq K H a xs := by
        rcases hS with hS | hS
        · exact .inl (sq_of hS)
        · exact .inr (hS.st)
      have hlen := Paired.length hP
      have comp := el_lcSq (K := K) (σ := [some (.ref a), none]) (H := H) (a := a) (xs := xs) (tl := tVar 0) (te := tCall spIsI [] E0 (tCons (tVar 1) tNil)) (t := tYes) (j := 1) (vs := [1]) (fun _ => true) (fun i => V.bl (decide (ts.getD i "" = "int")))
        (ev_var rfl) hSq (by omega) (fun _ => rfl) (fun _ _ _ _ _ => et_yes) (fun i x H1 e1 hx _ H2 e2 Q2 q2 => by
          obtain ⟨T, hT, hk⟩ := pget hP hx
          have eT : ts.getD i "" = T := getD_at hT
          refine ⟨x, rfl, x, T, rfl, hk.up (e1.trans e2), ?_⟩
          rw [← eT]
          exact q2 H2 (Ex.refl H2))
      have hval : given xs.length (fun _ => true) (fun i => V.bl (decide (ts.getD i "" = "int"))) = (ts.map fun T => decide (T = "int")).map V.bl := by
        refine given_all (by simp [hlen]) fun i x hx => ?_
        rw [List.getElem?_map, List.getElem?_map] at hx
        cases e : ts[i]? with
        | none => rw [e] at hx; cases hx
        | some T =>
          rw [e] at hx
          rw [getD_at e]
          exact Option.some.inj hx
      rw [hval] at comp
      refine cb_op (a_op (comp _ e0 _ fun D H2 hD e2 hd => ⟨D, ts.map fun T => decide (T = "int"), rfl, sq_of hd, ?_⟩))
      rw [List.all_map]
      exact q H2 (e0.trans e2)
end
end KW
namespace KW
open PySem PySem.Spec PyProof.Rows L2 KR KS KX Evl StX
section
variable {K : PySem.W.Frag} {σ : L2.St} {H : Hp}
/-- over a text: which signs, and what each is worth -/
theorem el_lcStr {z : Str} {tl te : TE} {t : TT} {j : Nat} {vs : List Nat} (f : Nat → Bool) (v : Nat → V) (h : Ev tl σ H (.str z)) (hz : z.cps.size ≤ 40000) (hw : ∀ x, wipe ((wipe σ vs).set j (some x)) vs = wipe σ vs)
    (ht : ∀ (i : Nat) (c : Nat) H1, Ex H H1 → z.cps[i]? = some c → EvT t ((wipe σ vs).set j (some (.str ⟨#[c]⟩))) H1 (f i)) (he : ∀ (i : Nat) (c : Nat) H1, Ex H H1 → z.cps[i]? = some c → f i = true → Ev te ((wipe σ vs).set j (some (.str ⟨#[c]⟩))) H1 (v i)) :
    EvL (tLc (iStr tl) (gName j) t te vs) σ H (given z.cps.size f v) := fun H0 e Q q => h H0 e _ fun H1 e1 => ⟨z, rfl, fun D hD =>
  lc_it walk_str (Cw H1 f v D) ⟨hD, Ex.new hD, upd_same⟩ (fun _ _ _ _ => trivial) (fun i x H' H'' hi p hy => by
    obtain ⟨e2, c, hc, hx⟩ := hy
    subst e2 hx
    exact ⟨hw _, cw_turn p (by omega) (ht i c H1 (e.trans e1) hc) (he i c H1 (e.trans e1) hc)⟩) (fun H' p => q D H' (fresh_back e1 hD) (e1.trans p.2.1) p.2.2)⟩
end
/-- the constants of the top -/
abbrev LE : Str := "abcdefghijklmnopqrstuvwxyz"
abbrev LD : Str := "abcdefghijklmnopqrstuvwxyz0123456789"
structure Gc (mg : Str → Option Value) : Prop where
  le : ∃ t, mg "LETTERS" = some (.str LE t)
  ld : ∃ t, mg "LETTERS_AND_DIGITS" = some (.str LD t)
  mx : ∃ t, mg "LONGEST_NAME" = some (.int 12 t)
  mp : ∃ t, mg "MOST_PIECES" = some (.int 16 t)
  mn : ∃ t, mg "MOST_NEIGHBOURS" = some (.int 4 t)
  fh : ∃ t, mg "FEWEST_OF_A_HUB" = some (.int 3 t)
section
variable {P : Program} {w : World} {K : PySem.W.Frag} {mg : Str → Option Value} {base : Heap}
/-! ### is_name -/
abbrev sNam : Stmt := topS 21
theorem scNam : FnScope ["value", "sign"] ["value"] (defScope sNam) := ⟨rfl, rfl, rfl, by decide +kernel, rfl, by decide +kernel, by decide +kernel⟩
def nam (l : List Nat) : Bool := (decide (1 ≤ (l.length : Int)) && decide ((l.length : Int) ≤ 12)) && ((match l with | c :: _ => decide (c ∈ LE.cps.toList) | [] => false) && l.all fun c => decide (c ∈ LD.cps.toList))
def spNam : Sp := fun vs H Q _ => ∃ (v : V), vs = [v] ∧ ((∃ T, Kd H v T ∧ decide (T = "str") = false ∧ Q (.bl false) H) ∨
  ∃ z : Str, v = .str z ∧ z.length ≤ 1000 ∧ ∀ H2, Ex H H2 → Q (.bl (nam z.cps.toList)) H2)
theorem ok_nam {f : Addr} {fd : FuncData} {k : Nat} (F : FnP K "is_name" sNam f fd) (B : Bu mg) (G : Gc mg) : FnOk P w K mg base CX0 (k + 1) f fd ["value"] spNam := by
  obtain ⟨t1, g1⟩ := G.le
  obtain ⟨t2, g2⟩ := G.ld
  obtain ⟨t3, g3⟩ := G.mx
  refine ok0 F scNam (fun vs H Q E h => ?_) (fun cdv A outer s H vs Q E hr h => ?_)
  · obtain ⟨v, rfl, _⟩ := h
    rfl
  · obtain ⟨v, rfl, h⟩ := h
    refine ⟨_, pss_cons (ps_if (PW.pt (pw_or (pt_not (pt_val (pe_callB call_isi rfl B.isinstance boot_isinstance (pa_cons (pv 0) (pa_cons (pe_bltn (v := V.ty "str") rfl B.str boot_str rfl) pa_nil)))))
        (pw_or1 (pt_not (pt_chain op_le op_le pe_int (pe_callB call_len_str rfl B.len PySem.boot_len (pa_cons (pv 0) pa_nil)) (pe_glob (v := V.int 12) rfl g3 ⟨_, rfl⟩)))))) (pss_one (ps_ret pe_bl)) pss_nil)
      (pss_one (ps_ret (pe_and (pe_cmpR op_in_sign (pe_ix ix_str (pv 0) pe_int (fun _ _ => rfl)) (pe_glob (v := V.str LE) rfl g1 ⟨_, rfl⟩) (by rfl)) (pe_one (pe_callB (cr_all rfl) rfl B.all boot_all (pa_cons
        (pe_lc (own := [("sign", 1)]) (g := gName 1) rfl scNam.nd (pi_str (pv 0)) (blkOk_by (N := ["value", "sign"]) (sc := defScope sNam) (by decide +kernel))
          (fun _ _ _ _ _ => pg_name (i := 1) scNam.nd rfl (Or.inl rfl)) (fun _ _ _ _ _ => pts_nil) (fun _ _ _ _ _ => pe_cmpR op_in_sign (pv 1) (pe_glob (v := V.str LD) rfl g2 ⟨_, rfl⟩) (by rfl))) pa_nil)))))), ?_⟩
    rcases h with ⟨T, h, hT, q⟩ | ⟨z, rfl, hz, q⟩
    · refine ⟨v, rfl, v, V.ty "str", _, _, _, rfl, .ty _, h.ty, h.isS, _, rfl, ?_⟩
      rw [hT]
      exact iteT (iteT q)
    · refine ⟨_, rfl, _, V.ty "str", _, _, _, rfl, .ty _, (Kd.str z : Kd H _ _).ty, (Kd.str z : Kd H _ _).isS, _, rfl, iteF ?_⟩
      have hl : (z.length : Nat) = z.cps.toList.length := by rw [Array.length_toList]; rfl
      have q0 := q H (Ex.refl H)
      refine ⟨.str z, rfl, z, rfl, by rw [sizeLine_eq]; omega, _, _, rfl, rfl, _, rfl, ?_⟩
      have hnam : nam z.cps.toList = ((decide (1 ≤ (z.length : Int)) && decide ((z.length : Int) ≤ 12)) && ((match z.cps.toList with | c :: _ => decide (c ∈ LE.cps.toList) | [] => false) && z.cps.toList.all fun c => decide (c ∈ LD.cps.toList))) := by
        unfold nam
        rw [hl]
      have bad : (decide (1 ≤ (z.length : Int)) && decide ((z.length : Int) ≤ 12)) = false → Q (.bl false) H := fun e => by
        rw [hnam, e] at q0
        exact q0
      by_cases h1 : 1 ≤ (z.length : Int)
      · rw [decide_eq_true h1]
        refine iteT ⟨_, _, rfl, rfl, _, rfl, ?_⟩
        by_cases h2 : (z.length : Int) ≤ 12
        · rw [decide_eq_true h2]
          refine iteF ?_
          obtain ⟨c, r, hcr⟩ : ∃ c r, z.cps.toList = c :: r := by
            cases e : z.cps.toList with
            | nil => rw [e] at hl; simp at hl; omega
            | cons c r => exact ⟨c, r, rfl⟩
          refine ⟨.str z, rfl, z, 0, c, rfl, rfl, by rw [sizeLine_eq]; omega, ?_, ?_⟩
          · show atI z.cps.toList 0 = some c
            rw [hcr]; exact atI_nat (j := 0) rfl
          refine ⟨c, LE, rfl, rfl, _, rfl, ?_⟩
          have e1 : nam z.cps.toList = (decide (c ∈ LE.cps.toList) && z.cps.toList.all fun c => decide (c ∈ LD.cps.toList)) := by
            rw [hnam, decide_eq_true h1, decide_eq_true h2, hcr]
            rfl
          by_cases h3 : c ∈ LE.cps.toList
          · rw [decide_eq_true h3]
            refine iteT ?_
            have comp := el_lcStr (σ := [some (.str z), none]) (H := H) (z := z) (tl := tVar 0) (te := tOp (fun x y H Q => ∃ (c : Nat) (z : Str), x = .str ⟨#[c]⟩ ∧ y = .str z ∧ Q (.bl (decide (c ∈ z.cps.toList))) H) (tVar 1) (tC (.str LD))) (t := tYes) (j := 1) (vs := [1]) (fun _ => true) (fun i => V.bl (decide (z.cps.toList.getD i 0 ∈ LD.cps.toList)))
              (ev_var rfl) (by show z.length ≤ _; omega) (fun _ => rfl) (fun _ _ _ _ _ => et_yes) (fun i c H1 e1 hc _ H2 e2 Q2 q2 => by
                have eT : z.cps.toList.getD i 0 = c := getD_at (by simpa using hc)
                refine ⟨_, rfl, c, LD, rfl, rfl, ?_⟩
                rw [← eT]
                exact q2 H2 (Ex.refl H2))
            have hval : given z.cps.size (fun _ => true) (fun i => V.bl (decide (z.cps.toList.getD i 0 ∈ LD.cps.toList))) = (z.cps.toList.map fun c => decide (c ∈ LD.cps.toList)).map V.bl := by
              refine given_all (by simp) fun i x hx => ?_
              rw [List.getElem?_map, List.getElem?_map] at hx
              cases e : z.cps.toList[i]? with
              | none => rw [e] at hx; cases hx
              | some c =>
                rw [e] at hx
                rw [getD_at e]
                exact Option.some.inj hx
            rw [hval] at comp
            refine cb_op (a_op (comp _ (Ex.refl H) _ fun D H2 hD e2 hd => ⟨D, z.cps.toList.map fun c => decide (c ∈ LD.cps.toList), rfl, sq_of hd, ?_⟩))
            rw [List.all_map]
            have q1 := q H2 e2
            rw [e1, decide_eq_true h3] at q1
            exact q1
          · rw [decide_eq_false h3]
            refine iteF ?_
            rw [e1, decide_eq_false h3] at q0
            exact q0
        · rw [decide_eq_false h2]
          exact iteT (bad (by rw [decide_eq_false h2]; simp))
      · rw [decide_eq_false h1]
        exact iteF ⟨_, rfl, iteT (bad (by rw [decide_eq_false h1]; rfl))⟩
end
end KW
namespace KW
open PySem PySem.Spec PyProof.Rows L2 KR KS KX Evl StX
/-! ### the first that stands twice -/
def vz : V → Int
  | .int z => z
  | _ => 0
theorem vz_map (l : List Int) : (l.map V.int).map vz = l := by
  rw [List.map_map]
  exact List.map_id l
section
variable {κ : Type} [DecidableEq κ]
def ft : List κ → List κ → Option κ
  | _, [] => none
  | s, x :: l => if x ∈ s then some x else ft (s ++ [x]) l
def sk (l : List κ) : List (κ × V) := l.foldl (fun kvs x => putK kvs x (.bl true)) []
theorem sk_snoc (l : List κ) (x : κ) : sk (l ++ [x]) = putK (sk l) x (.bl true) := by
  unfold sk
  rw [List.foldl_append]
  rfl
theorem len_putG (kvs : List (κ × V)) (k : κ) (v : V) : (putK kvs k v).length ≤ kvs.length + 1 := by
  unfold putK
  split
  · simp
  · simp
theorem len_sk : ∀ l : List κ, (sk l).length ≤ l.length := rev_ind (by simp [sk]) fun l x ih => by
  rw [sk_snoc, List.length_append, List.length_singleton]
  exact Nat.le_trans (len_putG _ _ _) (Nat.succ_le_succ ih)
theorem val_sk (x : κ) : ∀ l : List κ, valV (sk l) x = if x ∈ l then some (.bl true) else none := rev_ind (by simp [sk, valV]) fun l y ih => by
  rw [sk_snoc, valV_put, ih]
  by_cases e : x = y
  · rw [if_pos e, if_pos (by simp [e])]
  · rw [if_neg e]
    by_cases h : x ∈ l
    · rw [if_pos h, if_pos (by simp [h])]
    · rw [if_neg h, if_neg (by simp [h, e])]
theorem ft_step {l : List κ} {i : Nat} {x : κ} (h : l[i]? = some x) : ft (l.take i) (l.drop i) = if x ∈ l.take i then some x else ft (l.take (i + 1)) (l.drop (i + 1)) := by
  have e : l.drop i = x :: l.drop (i + 1) := by
    obtain ⟨hi, hx⟩ := List.getElem?_eq_some_iff.mp h
    rw [← hx, List.drop_eq_getElem_cons hi]
  rw [e, List.take_add_one, h]
  rfl
end
section
variable {P : Program} {w : World} {K : PySem.W.Frag} {mg : Str → Option Value} {base : Heap}
/-! ### fixed -/
abbrev sFix : Stmt := topS 14
theorem scFix : FnScope ["value", "part"] ["value"] (defScope sFix) := ⟨rfl, rfl, rfl, by decide +kernel, rfl, by decide +kernel, by decide +kernel⟩
def spFix0 : Sp := fun vs H Q _ => ∃ (v : V) (T : String), vs = [v] ∧ Kd H v T ∧ (decide (T = "list") || decide (T = "tuple")) = false ∧ ∀ H2, Ex H H2 → Q v H2
theorem ok_fix0 {f : Addr} {fd : FuncData} {k : Nat} (F : FnP K "fixed" sFix f fd) (B : Bu mg) : FnOk P w K mg base CX0 (k + 1) f fd ["value"] spFix0 := by
  refine ok0 F scFix (fun vs H Q E h => ?_) (fun cdv A outer s H vs Q E hr h => ?_)
  · obtain ⟨v, T, rfl, _⟩ := h
    rfl
  · obtain ⟨v, T, rfl, h, hT, q⟩ := h
    refine ⟨_, pss_cons (ps_if (pt_val (pe_callB call_isiT rfl B.isinstance boot_isinstance (pa_cons (pv 0) (pa_cons (pe_tup (pa_cons (pe_bltn (v := V.ty "list") rfl B.list boot_list rfl) (pa_cons (pe_bltn (v := V.ty "tuple") rfl B.tuple boot_tuple rfl) pa_nil))) pa_nil)))) (pss_one ps_never) pss_nil)
      (pss_one (ps_ret (pv 0))), ?_⟩
    refine ⟨v, rfl, by show 2 ≤ sizeLine; decide, fun tp htp => ?_⟩
    have e0 : Ex H (upd H tp (.tup [V.ty "list", V.ty "tuple"])) := Ex.new htp
    have cl : Paired ClsV [V.ty "list", V.ty "tuple"] [Value.type "list", Value.type "tuple"] := .cons (.ty _) (.cons (.ty _) .nil)
    refine ⟨v, tp, _, _, _, _, rfl, upd_same, cl, (h.up e0).ty, (h.up e0).isLT, _, rfl, ?_⟩
    rw [hT]
    exact iteF ⟨v, rfl, q _ e0⟩
def spFix1 : Sp := fun vs H Q _ => ∃ (a : Addr) (c : List Int), vs = [.ref a] ∧ H a = some (.tup (c.map V.int)) ∧ c.length ≤ 1000 ∧ ∀ p H2, H p = none → Ex H H2 → H2 p = some (.tup (c.map V.int)) → Q (.ref p) H2
theorem ok_fix1 {f : Addr} {fd : FuncData} {k : Nat} (F : FnP K "fixed" sFix f fd) (B : Bu mg) (b : L2.Binds K fd ["value"] []) (g : mg "fixed" = some (.ref f)) : FnOk P w K mg base CX0 (k + 2) f fd ["value"] spFix1 := by
  have G0 : FnOk P w K mg base CX0 (k + 1) f fd ["value"] spFix0 := ok_fix0 F B
  refine ok0 F scFix (fun vs H Q E h => ?_) (fun cdv A outer s H vs Q E hr h => ?_)
  · obtain ⟨a, c, rfl, _⟩ := h
    rfl
  · obtain ⟨a, c, rfl, ha, hl, q⟩ := h
    refine ⟨_, pss_cons (ps_if (pt_val (pe_callB call_isiT rfl B.isinstance boot_isinstance (pa_cons (pv 0) (pa_cons (pe_tup (pa_cons (pe_bltn (v := V.ty "list") rfl B.list boot_list rfl) (pa_cons (pe_bltn (v := V.ty "tuple") rfl B.tuple boot_tuple rfl) pa_nil))) pa_nil))))
        (pss_one (ps_ret (pe_tupleOf rfl B.tuple (pe_lc (own := [("part", 1)]) (g := gName 1) rfl scFix.nd (pi_seq (pv 0)) (blkOk_by (N := ["value", "part"]) (sc := defScope sFix) (by decide +kernel)) (fun _ _ _ _ _ => pg_name (i := 1) scFix.nd rfl (Or.inl rfl)) (fun _ _ _ _ _ => pts_nil)
          (fun _ _ _ _ _ => pe_call G0 hr (by rfl) g F.kp b .nil pass0 (pa_cons (pv 1) pa_nil)))))) pss_nil)
      (pss_one (ps_ret (pv 0))), ?_⟩
    refine ⟨_, rfl, by show 2 ≤ sizeLine; decide, fun tp htp => ?_⟩
    have e0 : Ex H (upd H tp (.tup [V.ty "list", V.ty "tuple"])) := Ex.new htp
    have cl : Paired ClsV [V.ty "list", V.ty "tuple"] [Value.type "list", Value.type "tuple"] := .cons (.ty _) (.cons (.ty _) .nil)
    have hk : Kd (upd H tp (.tup [V.ty "list", V.ty "tuple"])) (.ref a) "tuple" := .tup a _ (.inl (e0 _ _ ha))
    refine ⟨_, tp, _, _, _, _, rfl, upd_same, cl, hk.ty, hk.isLT, _, rfl, iteT ?_⟩
    have comp := el_lcSq (K := K) (σ := [some (.ref a), none]) (H := H) (a := a) (xs := c.map V.int) (tl := tVar 0) (te := tCall spFix0 [] E0 (tCons (tVar 1) tNil)) (t := tYes) (j := 1) (vs := [1]) (fun _ => true) (fun i => V.int (c.getD i 0))
      (ev_var rfl) (.inr (st_of ha)) (by rw [List.length_map]; omega) (fun _ => rfl) (fun _ _ _ _ _ => et_yes) (fun i x H1 e1 hx _ H2 e2 Q2 q2 => by
        obtain ⟨n, hn, rfl⟩ := int_at hx
        refine ⟨_, rfl, _, "int", rfl, .int n, rfl, fun H3 e3 => ?_⟩
        rw [getD_at hn] at q2
        exact q2 H3 e3)
    have hval : given (c.map V.int).length (fun _ => true) (fun i => V.int (c.getD i 0)) = c.map V.int := by
      refine given_all rfl fun i x hx => ?_
      obtain ⟨n, hn, rfl⟩ := int_at hx
      rw [getD_at hn]
    rw [hval] at comp
    refine s_re (comp _ e0 _ fun D H2 hD e2 hd => .inl ⟨D, _, rfl, sq_of hd, fun r hr2 => ?_⟩)
    exact q r _ (fresh_back (e0.trans e2) hr2) ((e0.trans e2).trans (Ex.new hr2)) upd_same
/-! ### first_twice -/
abbrev sFT : Stmt := topS 24
theorem scFT : FnScope ["values", "seen", "value", "key"] ["values"] (defScope sFT) := ⟨rfl, rfl, rfl, by decide +kernel, rfl, by decide +kernel, by decide +kernel⟩
def oK : Option Key → V
  | none => .non
  | some k => kV k
def spFT (K : PySem.W.Frag) : Sp := fun vs H Q _ => ∃ (a : Addr) (ks : List Key), vs = [.ref a] ∧ Sq K H a (ks.map kV) ∧ ks.length ≤ 1000 ∧ ∀ H2, Ex H H2 → Q (oK (ft [] ks)) H2
theorem kd_key (H : Hp) : ∀ k : Key, ∃ T, Kd H (kV k) T ∧ (decide (T = "list") || decide (T = "tuple")) = false
  | .inl i => ⟨_, .int i, rfl⟩
  | .inr z => ⟨_, .str z, rfl⟩
theorem ok_ft {f : Addr} {fd : FuncData} {k : Nat} (F : FnP K "first_twice" sFT f fd) (B : Bu mg) (X_ : FnA K mg "fixed" sFix ["value"]) : FnOk P w K mg base CX0 (k + 2) f fd ["values"] (spFT K) := by
  have G0 : FnOk P w K mg base CX0 (k + 1) X_.f X_.fd ["value"] spFix0 := ok_fix0 X_.F B
  refine ok0 F scFT (fun vs H Q E h => ?_) (fun cdv A outer s H vs Q E hr h => ?_)
  · obtain ⟨a, ks, rfl, _⟩ := h
    rfl
  · obtain ⟨a, ks, rfl, hS, hl, q⟩ := h
    have hu := hu_of hr
    refine ⟨_, pss_cons (ps_set (i := 1) scFT.nd rfl (Or.inl rfl) pe_dnewK)
      (pss_cons (ps_for PassesOwn.never rfl (pi_seq (pv 0)) (pg_name (i := 2) scFT.nd rfl (.inl rfl))
        (pss_cons (ps_set (i := 3) scFT.nd rfl (Or.inl rfl) (pe_call G0 hr (by rfl) X_.g X_.F.kp X_.b .nil pass0 (pa_cons (pv 2) pa_nil)))
        (pss_cons (ps_if (pt_cmp (pc_din hu (pv 3) (pv 1))) (pss_one (ps_ret (pv 3))) pss_nil)
        (pss_one (ps_dput hu (pv 1) (pv 3) pe_bl rfl)))))
      (pss_one (ps_ret pe_non))), ?_⟩
    refine fun d hd => ?_
    have e0 : Ex H (upd H d (.dK [])) := Ex.new hd
    refine s_forSq (H0 := H) (H := upd H d (.dK [])) (ev_var rfl) hS e0 (fun i σ' H' => ∃ y2 y3, σ' = [some (.ref a), some (.ref d), y2, y3] ∧ Ex H H' ∧ H' d = some (.dK (sk (ks.take i))) ∧ ft [] ks = ft (ks.take i) (ks.drop i))
      (fun H1 e => ⟨none, none, rfl, e0.trans e, e d _ upd_same, rfl⟩) (fun i σ' H' _ ⟨_, _, _, e, _⟩ => e) ?_ ?_
    · rintro i x σ' H' hi ⟨y2, y3, rfl, e1, hD, hf⟩
      rw [List.getElem?_map] at hi
      obtain ⟨key, hk, rfl⟩ : ∃ key, ks[i]? = some key ∧ x = kV key := by
        cases e : ks[i]? with
        | none => rw [e] at hi; cases hi
        | some n => rw [e] at hi; exact ⟨n, rfl, (Option.some.inj hi).symm⟩
      obtain ⟨T, kd, kt⟩ := kd_key H' key
      refine ⟨_, rfl, _, T, rfl, kd, kt, fun H2 e2 => ?_⟩
      have hD2 := e2 d _ hD
      refine ⟨_, rfl, _, rfl, d, _, rfl, DGet.k (k := key) hD2, _, rfl, ?_⟩
      rw [val_sk]
      have hs := ft_step hk
      by_cases hin : key ∈ ks.take i
      · rw [if_pos hin] at hs ⊢
        refine iteT ⟨_, rfl, ?_⟩
        have := q H2 (e1.trans e2)
        rw [hf, hs] at this
        exact this
      · rw [if_neg hin] at hs ⊢
        refine iteF ⟨_, rfl, _, rfl, d, _, rfl, DPut.k (k := key) hD2 ?_, ?_⟩
        · have h1 := len_sk (ks.take i)
          rw [List.length_take] at h1
          exact sz_lt (by omega)
        · refine ⟨_, _, rfl, Ex.mut (e1.trans e2) hd, ?_, hf.trans hs⟩
          rw [upd_same, ← sk_snoc, List.take_add_one, hk]
          rfl
    · rintro σ' H' ⟨y2, y3, rfl, e1, hD, hf⟩
      have := q H' e1
      rw [List.length_map, List.take_length, List.drop_length] at hf
      rw [hf] at this
      exact this
/-- the same of tuples of numbers -/
def TupR (H : Hp) (v : V) (c : List Int) : Prop := ∃ b, v = .ref b ∧ H b = some (.tup (c.map V.int))
theorem TupR.up {H H' : Hp} {v : V} {c : List Int} (e : Ex H H') (h : TupR H v c) : TupR H' v c := let ⟨b, x, y⟩ := h; ⟨b, x, e _ _ y⟩
def OVT (H : Hp) (v : V) : Option (List Int) → Prop
  | none => v = .non
  | some c => TupR H v c
def spFTT (K : PySem.W.Frag) : Sp := fun vs H Q _ => ∃ (a : Addr) (xs : List V) (cs : List (List Int)), vs = [.ref a] ∧ Sq K H a xs ∧ Paired (TupR H) xs cs ∧ xs.length ≤ 1000 ∧ (∀ c ∈ cs, c.length ≤ 1000) ∧ ∀ v H2, Ex H H2 → OVT H2 v (ft [] cs) → Q v H2
def kk (c : List Int) : List Key := c.map Sum.inl
theorem kk_kV (c : List Int) : (kk c).map kV = c.map V.int := by
  unfold kk
  rw [List.map_map]
  rfl
theorem kk_inj {a b : List Int} (h : kk a = kk b) : a = b := by
  have h2 := congrArg (List.map kV) h
  rw [kk_kV, kk_kV] at h2
  have h3 := congrArg (List.map vz) h2
  rw [vz_map, vz_map] at h3
  exact h3
theorem kk_mem {c : List Int} {l : List (List Int)} : kk c ∈ l.map kk ↔ c ∈ l := by
  rw [List.mem_map]
  exact ⟨fun ⟨z, h1, h2⟩ => by rw [← kk_inj h2]; exact h1, fun h => ⟨c, h, rfl⟩⟩
theorem ok_ftt {f : Addr} {fd : FuncData} {k : Nat} (F : FnP K "first_twice" sFT f fd) (B : Bu mg) (X_ : FnA K mg "fixed" sFix ["value"]) : FnOk P w K mg base CX0 (k + 3) f fd ["values"] (spFTT K) := by
  have G1 : FnOk P w K mg base CX0 (k + 2) X_.f X_.fd ["value"] spFix1 := ok_fix1 X_.F B X_.b X_.g
  refine ok0 F scFT (fun vs H Q E h => ?_) (fun cdv A outer s H vs Q E hr h => ?_)
  · obtain ⟨a, xs, cs, rfl, _⟩ := h
    rfl
  · obtain ⟨a, xs, cs, rfl, hS, hP, hl, hcl, q⟩ := h
    have hu := hu_of hr
    refine ⟨_, pss_cons (ps_set (i := 1) scFT.nd rfl (Or.inl rfl) pe_dnewT)
      (pss_cons (ps_for PassesOwn.never rfl (pi_seq (pv 0)) (pg_name (i := 2) scFT.nd rfl (.inl rfl))
        (pss_cons (ps_set (i := 3) scFT.nd rfl (Or.inl rfl) (pe_call G1 hr (by rfl) X_.g X_.F.kp X_.b .nil pass0 (pa_cons (pv 2) pa_nil)))
        (pss_cons (ps_if (pt_cmp (pc_din hu (pv 3) (pv 1))) (pss_one (ps_ret (pv 3))) pss_nil)
        (pss_one (ps_dput hu (pv 1) (pv 3) pe_bl rfl)))))
      (pss_one (ps_ret pe_non))), ?_⟩
    have hlen := Paired.length hP
    refine fun d hd => ?_
    have e0 : Ex H (upd H d (.dT [])) := Ex.new hd
    refine s_forSq (H0 := H) (H := upd H d (.dT [])) (ev_var rfl) hS e0 (fun i σ' H' => ∃ y2 y3, σ' = [some (.ref a), some (.ref d), y2, y3] ∧ Ex H H' ∧ H' d = some (.dT (sk ((cs.take i).map kk))) ∧ ft [] cs = ft (cs.take i) (cs.drop i))
      (fun H1 e => ⟨none, none, rfl, e0.trans e, e d _ upd_same, rfl⟩) (fun i σ' H' _ ⟨_, _, _, e, _⟩ => e) ?_ ?_
    · rintro i x σ' H' hi ⟨y2, y3, rfl, e1, hD, hf⟩
      obtain ⟨c, hc, b, rfl, hb⟩ := pget hP hi
      refine ⟨_, rfl, b, c, rfl, e1 _ _ hb, hcl c (List.mem_of_getElem? hc), fun p H2 hp e2 hp2 => ?_⟩
      have hD2 := e2 d _ hD
      have hkey : H2 p = some (.tup ((kk c).map kV)) := by rw [kk_kV]; exact hp2
      refine ⟨_, rfl, _, rfl, d, _, rfl, DGet.t (k := kk c) hD2 hkey, _, rfl, ?_⟩
      rw [val_sk]
      have hs := ft_step hc
      by_cases hin : c ∈ cs.take i
      · rw [if_pos hin] at hs
        rw [if_pos (kk_mem.mpr hin)]
        refine iteT ⟨_, rfl, q _ H2 (e1.trans e2) ?_⟩
        rw [hf, hs]
        exact ⟨p, rfl, hp2⟩
      · rw [if_neg hin] at hs
        rw [if_neg fun z => hin (kk_mem.mp z)]
        refine iteF ⟨_, rfl, _, rfl, d, _, rfl, DPut.t (k := kk c) hD2 hkey ?_, ?_⟩
        · have h1 := len_sk ((cs.take i).map kk)
          rw [List.length_map, List.length_take] at h1
          exact sz_lt (by omega)
        · refine ⟨_, _, rfl, Ex.mut (e1.trans e2) hd, ?_, hf.trans hs⟩
          rw [upd_same, ← sk_snoc, List.take_add_one, hc, List.map_append]
          rfl
    · rintro σ' H' ⟨y2, y3, rfl, e1, hD, hf⟩
      rw [hlen, List.take_length, List.drop_length] at hf
      exact q _ H' e1 (by rw [hf]; rfl)
end
end KW
namespace KW
open PySem PySem.Spec PyProof.Rows L2 KR KS KX Evl StX
/-! ### own errors raised -/
theorem PS.imp {X : Cx} {st : Stmt} {t1 t2 : TS} (h : PS X st t1) (k : ∀ D σ H, t2 D σ H → t1 D σ H) : PS X st t2 := ⟨fun pins s σ H D I q => h.run pins s σ H D I (k _ _ _ q)⟩
def iArgs1 (f : Str) (p1 p2 : Pos) : Arguments := { posonlyargs := [], args := [{ arg := "self", annotation := none, pos := p1 }, { arg := f, annotation := none, pos := p2 }], vararg := none, kwonlyargs := [], kw_defaults := [], kwarg := none, defaults := [] }
def iBody1 (f : Str) (q1 q2 q3 q4 : Pos) : List Stmt := [.Assign [.Attribute (.Name "self" q1) f q2] (.Name f q3) q4]
def iScope1 (f : Str) : Scope := { kind := .function, names := [(PySem.Str.ofString "self", .local), (f, .local)], isGenerator := false, isCoroutine := false, more := [] }
def iArgs2 (f g : Str) (p1 p2 p3 : Pos) : Arguments := { posonlyargs := [], args := [{ arg := "self", annotation := none, pos := p1 }, { arg := f, annotation := none, pos := p2 }, { arg := g, annotation := none, pos := p3 }], vararg := none, kwonlyargs := [], kw_defaults := [], kwarg := none, defaults := [] }
def iBody2 (f g : Str) (q1 q2 q3 q4 r1 r2 r3 r4 : Pos) : List Stmt := [.Assign [.Attribute (.Name "self" q1) f q2] (.Name f q3) q4, .Assign [.Attribute (.Name "self" r1) g r2] (.Name g r3) r4]
def iScope2 (f g : Str) : Scope := { kind := .function, names := [(PySem.Str.ofString "self", .local), (f, .local), (g, .local)], isGenerator := false, isCoroutine := false, more := [] }
def spI1 (K : PySem.W.Frag) (f : Str) : Sp := fun vs H Q _ => ∃ (a C : Addr) (v : V), vs = [.ref a, v] ∧ H a = some (exo a C none) ∧ OexC K C ∧ PySem.W.findIn K (.ref C) f = some none ∧ ∀ dx, H dx = none → dx ≠ a → Q .non (upd (upd H dx (exd dx [(f, v)])) a (exo a C (some dx)))
def spI2 (K : PySem.W.Frag) (f g : Str) : Sp := fun vs H Q _ => ∃ (a C : Addr) (v u : V), vs = [.ref a, v, u] ∧ H a = some (exo a C none) ∧ OexC K C ∧ PySem.W.findIn K (.ref C) f = some none ∧ PySem.W.findIn K (.ref C) g = some none ∧
  ∀ dx, H dx = none → dx ≠ a → Q .non (upd (upd (upd H dx (exd dx [(f, v)])) a (exo a C (some dx))) dx (exd dx [(g, u), (f, v)]))
/-- a class of one field, f, that may be raised -/
structure Ex1 (P : Program) (w : World) (K : PySem.W.Frag) (mg : Str → Option Value) (base : Heap) (n f : Str) where
  C : Addr
  fI : Addr
  fd : FuncData
  g : mg n = some (.ref C)
  ox : OxI K C fI
  no : PySem.W.findIn K (.ref C) f = some none
  F : FnOk P w K mg base CX0 1 fI fd ["self", f] (spI1 K f)
  b : L2.Binds K fd ["self", f] []
structure Ex2 (P : Program) (w : World) (K : PySem.W.Frag) (mg : Str → Option Value) (base : Heap) (n f h : Str) where
  C : Addr
  fI : Addr
  fd : FuncData
  g : mg n = some (.ref C)
  ox : OxI K C fI
  no : PySem.W.findIn K (.ref C) f = some none
  no2 : PySem.W.findIn K (.ref C) h = some none
  F : FnOk P w K mg base CX0 1 fI fd ["self", f, h] (spI2 K f h)
  b : L2.Binds K fd ["self", f, h] []
section
variable {P : Program} {w : World} {K : PySem.W.Frag} {mg : Str → Option Value} {base : Heap}
theorem sc_part : FnScope ["self", "part"] ["self", "part"] (iScope1 "part") := ⟨rfl, rfl, rfl, by decide +kernel, rfl, by decide +kernel, by decide +kernel⟩
theorem sc_value : FnScope ["self", "value"] ["self", "value"] (iScope1 "value") := ⟨rfl, rfl, rfl, by decide +kernel, rfl, by decide +kernel, by decide +kernel⟩
theorem sc_many : FnScope ["self", "what", "most"] ["self", "what", "most"] (iScope2 "what" "most") := ⟨rfl, rfl, rfl, by decide +kernel, rfl, by decide +kernel, by decide +kernel⟩
theorem ok_part {q : Str} {p1 p2 q1 q2 q3 q4 : Pos} {fI : Addr} {fd : FuncData} {k : Nat} (F : FunD K "__init__" q (iArgs1 "part" p1 p2) (iBody1 "part" q1 q2 q3 q4) (iScope1 "part") [] [] fI fd) : FnOk P w K mg base CX0 (k + 1) fI fd ["self", "part"] (spI1 K "part") := by
  refine FunD.ok F sc_part (fun vs H Q E h => ?_) (fun cdv A outer s H vs Q E hr h => ?_)
  · obtain ⟨a, C, v, rfl, _⟩ := h
    rfl
  · obtain ⟨a, C, v, rfl, ha, T, no, q⟩ := h
    exact ⟨_, (pss_one (ps_ost (pv 0) (pv 1))).nox, v, rfl, .ref a, rfl, a, C, rfl, T, no, .inl ⟨ha, fun dx h1 h2 => q dx h1 h2⟩⟩
theorem ok_value {q : Str} {p1 p2 q1 q2 q3 q4 : Pos} {fI : Addr} {fd : FuncData} {k : Nat} (F : FunD K "__init__" q (iArgs1 "value" p1 p2) (iBody1 "value" q1 q2 q3 q4) (iScope1 "value") [] [] fI fd) : FnOk P w K mg base CX0 (k + 1) fI fd ["self", "value"] (spI1 K "value") := by
  refine FunD.ok F sc_value (fun vs H Q E h => ?_) (fun cdv A outer s H vs Q E hr h => ?_)
  · obtain ⟨a, C, v, rfl, _⟩ := h
    rfl
  · obtain ⟨a, C, v, rfl, ha, T, no, q⟩ := h
    exact ⟨_, (pss_one (ps_ost (pv 0) (pv 1))).nox, v, rfl, .ref a, rfl, a, C, rfl, T, no, .inl ⟨ha, fun dx h1 h2 => q dx h1 h2⟩⟩
theorem ok_many {q : Str} {p1 p2 p3 q1 q2 q3 q4 r1 r2 r3 r4 : Pos} {fI : Addr} {fd : FuncData} {k : Nat} (F : FunD K "__init__" q (iArgs2 "what" "most" p1 p2 p3) (iBody2 "what" "most" q1 q2 q3 q4 r1 r2 r3 r4) (iScope2 "what" "most") [] [] fI fd) : FnOk P w K mg base CX0 (k + 1) fI fd ["self", "what", "most"] (spI2 K "what" "most") := by
  refine FunD.ok F sc_many (fun vs H Q E h => ?_) (fun cdv A outer s H vs Q E hr h => ?_)
  · obtain ⟨a, C, v, u, rfl, _⟩ := h
    rfl
  · obtain ⟨a, C, v, u, rfl, ha, T, n1, n2, q⟩ := h
    refine ⟨_, (pss_cons (ps_ost (pv 0) (pv 1)) (pss_one (ps_ost (pv 0) (pv 2)))).nox, v, rfl, .ref a, rfl, a, C, rfl, T, n1, .inl ⟨ha, fun dx h1 h2 => ?_⟩⟩
    exact ⟨u, rfl, .ref a, rfl, a, C, rfl, T, n2, .inr ⟨dx, _, upd_same, by rw [upd_ne h2, upd_same], (by show 1 ≤ 900; decide), q dx h1 h2⟩⟩
/-- raise n(e): d is the error's own dict, new -/
def Rs1 (K : PySem.W.Frag) (C : Addr) (f : Str) (W : XK) (v : V) (H1 : Hp) : Prop := [v].length ≤ 1000 ∧ ∀ a, H1 a = none → spI1 K f [.ref a, v] (upd H1 a (exo a C none))
  (fun v H2 => v = .non ∧ ∃ (d : Addr) (fs : List (Str × V)), H2 a = some (exo a C (some d)) ∧ H2 d = some (exd d fs) ∧ H1 d = none ∧ W (.ref C) (some d) (upd (del H2 a) d (.xd fs))) (fun _ _ _ => False)
def tRs1 (K : PySem.W.Frag) (C : Addr) (f : Str) (W : WX) (te : TE) : TS := fun _ σ H => te σ H fun v H1 => Rs1 K C f (fun cls d H' => W cls d σ H') v H1
def Rs2 (K : PySem.W.Frag) (C : Addr) (f h : Str) (W : XK) (v u : V) (H1 : Hp) : Prop := [v, u].length ≤ 1000 ∧ ∀ a, H1 a = none → spI2 K f h [.ref a, v, u] (upd H1 a (exo a C none))
  (fun v H2 => v = .non ∧ ∃ (d : Addr) (fs : List (Str × V)), H2 a = some (exo a C (some d)) ∧ H2 d = some (exd d fs) ∧ H1 d = none ∧ W (.ref C) (some d) (upd (del H2 a) d (.xd fs))) (fun _ _ _ => False)
def tRs2 (K : PySem.W.Frag) (C : Addr) (f h : Str) (W : WX) (te tg : TE) : TS := fun _ σ H => te σ H fun v H1 => tg σ H1 fun u H2 => Rs2 K C f h (fun cls d H' => W cls d σ H') v u H2
theorem Ex1.rs {n f : Str} (E : Ex1 P w K mg base n f) {W : XK} {v : V} {H : Hp} (h : ∀ d, H d = none → W (.ref E.C) (some d) (upd H d (.xd [(f, v)]))) : Rs1 K E.C f W v H :=
  ⟨by show 1 ≤ 1000; decide, fun a ha => ⟨a, E.C, v, rfl, upd_same, E.ox.T, E.no, fun dx h1 h2 => by
    have h1' : H dx = none := by rw [← h1, upd_ne h2]
    refine ⟨rfl, dx, [(f, v)], upd_same, by rw [upd_ne h2, upd_same], h1', ?_⟩
    have e : upd (del (upd (upd (upd H a (exo a E.C none)) dx (exd dx [(f, v)])) a (exo a E.C (some dx))) a) dx (HO.xd [(f, v)]) = upd H dx (.xd [(f, v)]) := by
      funext b
      by_cases hb : b = dx
      · subst hb
        rw [upd_same, upd_same]
      · rw [upd_ne hb, upd_ne hb]
        by_cases hba : b = a
        · subst hba
          rw [del_same, ha]
        · rw [del_ne hba, upd_ne hba, upd_ne hb, upd_ne hba]
    rw [e]
    exact h dx h1'⟩⟩
theorem Ex2.rs {n f g : Str} (E : Ex2 P w K mg base n f g) {W : XK} {v u : V} {H : Hp} (h : ∀ d, H d = none → W (.ref E.C) (some d) (upd H d (.xd [(g, u), (f, v)]))) : Rs2 K E.C f g W v u H :=
  ⟨by show 2 ≤ 1000; decide, fun a ha => ⟨a, E.C, v, u, rfl, upd_same, E.ox.T, E.no, E.no2, fun dx h1 h2 => by
    have h1' : H dx = none := by rw [← h1, upd_ne h2]
    refine ⟨rfl, dx, [(g, u), (f, v)], by rw [upd_ne (Ne.symm h2), upd_same], upd_same, h1', ?_⟩
    have e : upd (del (upd (upd (upd (upd H a (exo a E.C none)) dx (exd dx [(f, v)])) a (exo a E.C (some dx))) dx (exd dx [(g, u), (f, v)])) a) dx (HO.xd [(g, u), (f, v)]) = upd H dx (.xd [(g, u), (f, v)]) := by
      funext b
      by_cases hb : b = dx
      · subst hb
        rw [upd_same, upd_same]
      · rw [upd_ne hb, upd_ne hb]
        by_cases hba : b = a
        · subst hba
          rw [del_same, ha]
        · rw [del_ne hba, upd_ne hb, upd_ne hba, upd_ne hb, upd_ne hba]
    rw [e]
    exact h dx h1'⟩⟩
end
section
variable {X : Cx}
theorem ps_rs1 {n f : Str} {W : WX} {e : Expr} {te : TE} {p pos pos' : Pos} (E : Ex1 X.prog X.w X.K X.mg X.base n f) (hr : Room 2 X.A) (he : PE X e te) (tk : Takes X W) (hg : Gl X n := by rfl) (hc : X.calm = true := by rfl)
    (hdb : (n == ("__debug__" : Str)) = false := by decide) (hs : starEach [e] X.env = (false, eval e X.env) :: starEach [] X.env := by rfl) (hpl : (backTo pos (starEach [] X.env)).any (·.1) = false := by rfl) :
    PS X (.Raise (some (.Call (.Name n p) [e] [] pos)) none pos') (tRs1 X.K E.C f W te) :=
  ps_raise hc tk (pmk_oex E.ox.T E.ox.iC E.ox.tI E.F hr E.b .nil pass0 hg E.g (pa_cons he pa_nil hs) hdb hs hpl)
theorem ps_rs2 {n f h : Str} {W : WX} {e e2 : Expr} {te tg : TE} {p pos pos' : Pos} (E : Ex2 X.prog X.w X.K X.mg X.base n f h) (hr : Room 2 X.A) (he : PE X e te) (he2 : PE X e2 tg) (tk : Takes X W) (hg : Gl X n := by rfl) (hc : X.calm = true := by rfl)
    (hdb : (n == ("__debug__" : Str)) = false := by decide) (hs : starEach [e, e2] X.env = (false, eval e X.env) :: starEach [e2] X.env := by rfl) (hpl : (backTo pos (starEach [e2] X.env)).any (·.1) = false := by rfl)
    (hs2 : starEach [e2] X.env = (false, eval e2 X.env) :: starEach [] X.env := by rfl) :
    PS X (.Raise (some (.Call (.Name n p) [e, e2] [] pos)) none pos') (tRs2 X.K E.C f h W te tg) :=
  ps_raise hc tk (pmk_oex E.ox.T E.ox.iC E.ox.tI E.F hr E.b .nil pass0 hg E.g (pa_cons he (pa_cons he2 pa_nil hs2) hs) hdb hs hpl)
end
end KW
namespace KW
open PySem PySem.Spec PyProof.Rows L2 KR KS KX Evl StX
/-! ### calls opened -/
theorem n_op {σ : L2.St} {H : Hp} {Q : List V → Hp → Prop} (h : Q [] H) : tNil σ H Q := h
theorem v_op {i : Nat} {σ : L2.St} {H : Hp} {v : V} {Q : VK} (e : σ[i]? = some (some v)) (h : Q v H) : tVar i σ H Q := ⟨v, e, h⟩
theorem cl1 {sp : Sp} {E : XK} {i : Nat} {σ : L2.St} {H : Hp} {v : V} {Q : VK} (e : σ[i]? = some (some v)) (h : sp [v] H Q E) : tCall sp [] E (tCons (tVar i) tNil) σ H Q := ⟨v, e, h⟩
theorem cl2 {sp : Sp} {E : XK} {i j : Nat} {σ : L2.St} {H : Hp} {v u : V} {Q : VK} (e : σ[i]? = some (some v)) (e2 : σ[j]? = some (some u)) (h : sp [v, u] H Q E) : tCall sp [] E (tCons (tVar i) (tCons (tVar j) tNil)) σ H Q := ⟨v, e, u, e2, h⟩
/-! ### any values -/
inductive Va
  | non
  | bl (b : Bool)
  | int (i : Int)
  | str (z : Str)
  | lst (l : List Va)
  | tup (l : List Va)
  | dic
mutual
inductive Rv (H : Hp) : V → Va → Prop
  | non : Rv H .non .non
  | bl (b : Bool) : Rv H (.bl b) (.bl b)
  | int (i : Int) : Rv H (.int i) (.int i)
  | str (z : Str) : z.length ≤ 1000 → Rv H (.str z) (.str z)
  | lst {a : Addr} {xs : List V} {l : List Va} : H a = some (.lst xs) → RvA H xs l → l.length ≤ 1000 → Rv H (.ref a) (.lst l)
  | tup {a : Addr} {xs : List V} {l : List Va} : TX H a xs → RvA H xs l → l.length ≤ 1000 → Rv H (.ref a) (.tup l)
  | dic {a : Addr} {kvs : List (Key × V)} : H a = some (.dK kvs) → Rv H (.ref a) .dic
inductive RvA (H : Hp) : List V → List Va → Prop
  | nil : RvA H [] []
  | cons {v : V} {vs : List V} {d : Va} {ds : List Va} : Rv H v d → RvA H vs ds → RvA H (v :: vs) (d :: ds)
end
mutual
theorem Rv.up {H H' : Hp} (e : Ex H H') : ∀ {d : Va} {v : V}, Rv H v d → Rv H' v d
  | .non, _, .non => .non
  | .bl _, _, .bl b => .bl b
  | .int _, _, .int i => .int i
  | .str _, _, .str z h => .str z h
  | .lst _, _, .lst h r k => .lst (e _ _ h) (RvA.up e r) k
  | .tup _, _, .tup h r k => .tup (h.up e) (RvA.up e r) k
  | .dic, _, .dic h => .dic (e _ _ h)
theorem RvA.up {H H' : Hp} (e : Ex H H') : ∀ {ds : List Va} {vs : List V}, RvA H vs ds → RvA H' vs ds
  | [], _, .nil => .nil
  | _ :: _, _, .cons a b => .cons (Rv.up e a) (RvA.up e b)
end
theorem RvA.paired {H : Hp} : ∀ {ds : List Va} {vs : List V}, RvA H vs ds → Paired (Rv H) vs ds
  | [], _, .nil => .nil
  | _ :: _, _, .cons a b => .cons a (RvA.paired b)
theorem RvA.of {H : Hp} : ∀ {vs : List V} {ds : List Va}, Paired (Rv H) vs ds → RvA H vs ds
  | _, _, .nil => .nil
  | _, _, .cons a b => .cons a (RvA.of b)
def tyV : Va → String
  | .non => "NoneType"
  | .bl _ => "bool"
  | .int _ => "int"
  | .str _ => "str"
  | .lst _ => "list"
  | .tup _ => "tuple"
  | .dic => "dict"
theorem Rv.kd {H : Hp} {v : V} {d : Va} (h : Rv H v d) : Kd H v (tyV d) := by
  cases h with
  | non => exact .non
  | bl b => exact .bl b
  | int i => exact .int i
  | str z _ => exact .str z
  | lst h _ _ => exact .lst _ _ h
  | tup h _ _ => exact .tup _ _ h
  | dic h => exact .dic _ _ h
theorem kds {H : Hp} : ∀ {vs : List V} {ds : List Va}, Paired (Rv H) vs ds → Paired (Kd H) vs (ds.map tyV)
  | _, _, .nil => .nil
  | _, _, .cons a b => .cons a.kd (kds b)
/-- a list or a tuple, and what is in it -/
def seqV : Va → Option (List Va)
  | .lst l => some l
  | .tup l => some l
  | _ => none
def isI : Va → Bool
  | .int _ => true
  | _ => false
def isNums (d : Va) : Bool := match seqV d with
  | some l => l.all isI
  | none => false
def lenV (d : Va) : Nat := match seqV d with
  | some l => l.length
  | none => 0
def isPair (d : Va) : Bool := isNums d && decide (lenV d = 2)
def arePairs (d : Va) : Bool := match seqV d with
  | some l => l.all isPair
  | none => false
def isName : Va → Bool
  | .str z => nam z.cps.toList
  | _ => false
theorem Rv.seq {H : Hp} {v : V} {d : Va} (h : Rv H v d) : (∃ (a : Addr) (xs : List V) (l : List Va), v = .ref a ∧ seqV d = some l ∧ Seq1 H a xs ∧ Paired (Rv H) xs l ∧ xs.length ≤ 1000) ∨ (seqV d = none ∧ (decide (tyV d = "list") || decide (tyV d = "tuple")) = false) := by
  cases h with
  | lst h r k => exact .inl ⟨_, _, _, rfl, rfl, .inl h, r.paired, by rw [Paired.length r.paired]; exact k⟩
  | tup h r k => exact .inl ⟨_, _, _, rfl, rfl, .inr h, r.paired, by rw [Paired.length r.paired]; exact k⟩
  | _ => exact .inr ⟨rfl, rfl⟩
theorem Seq1.sq {K : PySem.W.Frag} {H : Hp} {a : Addr} {xs : List V} (h : Seq1 H a xs) : Sq K H a xs := by
  rcases h with h | h
  · exact .inl (sq_of h)
  · exact .inr h.st
theorem Seq1.up {H H' : Hp} {a : Addr} {xs : List V} (e : Ex H H') (h : Seq1 H a xs) : Seq1 H' a xs := by
  rcases h with h | h
  · exact .inl (e _ _ h)
  · exact .inr (h.up e)
theorem all_isI {l : List Va} : ((l.map tyV).all fun T => decide (T = "int")) = l.all isI := by
  rw [List.all_map]
  congr 1
  funext d
  cases d <;> rfl
/-! ### what is raised -/
inductive Er
  | web (p : Str)
  | body (p : Str)
  | lot (p : Str)
  | piece (d : Va)
  | mark (d : Va)
  | tie (d : Va)
  | twice (d : Va)
  | many (n : Str) (m : Int)
structure Es (P : Program) (w : World) (K : PySem.W.Frag) (mg : Str → Option Value) (base : Heap) where
  web : Ex1 P w K mg base "BadWeb" "part"
  body : Ex1 P w K mg base "BadBody" "part"
  lot : Ex1 P w K mg base "BadLot" "part"
  piece : Ex1 P w K mg base "NoPiece" "value"
  mark : Ex1 P w K mg base "NoMark" "value"
  tie : Ex1 P w K mg base "NoTie" "value"
  twice : Ex1 P w K mg base "Twice" "value"
  many : Ex2 P w K mg base "TooMany" "what" "most"
section
variable {P : Program} {w : World} {K : PySem.W.Frag} {mg : Str → Option Value} {base : Heap}
/-- which class, and what its dict holds -/
def RzC (S : Es P w K mg base) : Er → Addr
  | .web _ => S.web.C
  | .body _ => S.body.C
  | .lot _ => S.lot.C
  | .piece _ => S.piece.C
  | .mark _ => S.mark.C
  | .tie _ => S.tie.C
  | .twice _ => S.twice.C
  | .many _ _ => S.many.C
def RzF (H : Hp) (fs : List (Str × V)) : Er → Prop
  | .web p => fs = ([("part", .str p)] : List (Str × V))
  | .body p => fs = ([("part", .str p)] : List (Str × V))
  | .lot p => fs = ([("part", .str p)] : List (Str × V))
  | .piece x => ∃ v, Rv H v x ∧ fs = ([("value", v)] : List (Str × V))
  | .mark x => ∃ v, Rv H v x ∧ fs = ([("value", v)] : List (Str × V))
  | .tie x => ∃ v, Rv H v x ∧ fs = ([("value", v)] : List (Str × V))
  | .twice x => ∃ v, Rv H v x ∧ fs = ([("value", v)] : List (Str × V))
  | .many n m => fs = ([("most", .int m), ("what", .str n)] : List (Str × V))
def Rz (S : Es P w K mg base) (H : Hp) (E : XK) (r : Er) : Prop := ∀ d fs H2, Ex H H2 → RzF H2 fs r → H2 d = some (.xd fs) → E (.ref (RzC S r)) (some d) H2
theorem Rz.up {S : Es P w K mg base} {H H' : Hp} {E : XK} {r : Er} (e : Ex H H') (h : Rz S H E r) : Rz S H' E r := fun d fs H2 e2 f g => h d fs H2 (e.trans e2) f g
/-- raised as it stands -/
theorem rs_web {S : Es P w K mg base} {H H1 : Hp} {E : XK} {p : Str} (h : Rz S H E (.web p)) (e : Ex H H1) : Rs1 K S.web.C "part" E (.str p) H1 := S.web.rs fun d hd => h d _ _ (e.trans (Ex.new hd)) rfl upd_same
theorem rs_body {S : Es P w K mg base} {H H1 : Hp} {E : XK} {p : Str} (h : Rz S H E (.body p)) (e : Ex H H1) : Rs1 K S.body.C "part" E (.str p) H1 := S.body.rs fun d hd => h d _ _ (e.trans (Ex.new hd)) rfl upd_same
theorem rs_lot {S : Es P w K mg base} {H H1 : Hp} {E : XK} {p : Str} (h : Rz S H E (.lot p)) (e : Ex H H1) : Rs1 K S.lot.C "part" E (.str p) H1 := S.lot.rs fun d hd => h d _ _ (e.trans (Ex.new hd)) rfl upd_same
theorem rs_piece {S : Es P w K mg base} {H H1 : Hp} {E : XK} {v : V} {x : Va} (h : Rz S H E (.piece x)) (e : Ex H H1) (r : Rv H1 v x) : Rs1 K S.piece.C "value" E v H1 := S.piece.rs fun d hd => h d _ _ (e.trans (Ex.new hd)) ⟨v, r.up (Ex.new hd), rfl⟩ upd_same
theorem rs_mark {S : Es P w K mg base} {H H1 : Hp} {E : XK} {v : V} {x : Va} (h : Rz S H E (.mark x)) (e : Ex H H1) (r : Rv H1 v x) : Rs1 K S.mark.C "value" E v H1 := S.mark.rs fun d hd => h d _ _ (e.trans (Ex.new hd)) ⟨v, r.up (Ex.new hd), rfl⟩ upd_same
theorem rs_tie {S : Es P w K mg base} {H H1 : Hp} {E : XK} {v : V} {x : Va} (h : Rz S H E (.tie x)) (e : Ex H H1) (r : Rv H1 v x) : Rs1 K S.tie.C "value" E v H1 := S.tie.rs fun d hd => h d _ _ (e.trans (Ex.new hd)) ⟨v, r.up (Ex.new hd), rfl⟩ upd_same
theorem rs_twice {S : Es P w K mg base} {H H1 : Hp} {E : XK} {v : V} {x : Va} (h : Rz S H E (.twice x)) (e : Ex H H1) (r : Rv H1 v x) : Rs1 K S.twice.C "value" E v H1 := S.twice.rs fun d hd => h d _ _ (e.trans (Ex.new hd)) ⟨v, r.up (Ex.new hd), rfl⟩ upd_same
theorem rs_many {S : Es P w K mg base} {H H1 : Hp} {E : XK} {n : Str} {m : Int} (h : Rz S H E (.many n m)) (e : Ex H H1) : Rs2 K S.many.C "what" "most" E (.str n) (.int m) H1 := S.many.rs fun d hd => h d _ _ (e.trans (Ex.new hd)) rfl upd_same
/-- the rule for a def that raises own errors -/
theorem okE {x : Str} {st : Stmt} {f : Addr} {fd : FuncData} {N ps : List Str} {k : Nat} {sp : Sp} (F : FnP K x st f fd) (S : FnScope N ps (defScope st)) (len : ∀ vs H Q E, sp vs H Q E → vs.length = ps.length)
    (hbody : ∀ (cdv : Value) (A : Around) (outer : List Env) (s : Shared) (H : Hp) (vs : List V) (Q : VK) (E : XK), Room k (A.deeper (envOfC x (defScope st) s.heap.objs.size f cdv)) → sp vs H Q E →
      ∃ t, PSs (cxOf (L2.CX P w) P w K mg base N x (defScope st) f cdv A outer s H E) (defBody st) t ∧ t { nx := fun _ H' => Q .non H', rt := Q } (start N vs) H) : FnOk P w K mg base (L2.CX P w) (k + 1) f fd ps sp :=
  FunD.ok F S len hbody
end
/-! ### is_pair, are_pairs -/
section
variable {P : Program} {w : World} {K : PySem.W.Frag} {mg : Str → Option Value} {base : Heap}
abbrev sPair : Stmt := topS 53
theorem scPair : FnScope ["value"] ["value"] (defScope sPair) := ⟨rfl, rfl, rfl, by decide +kernel, rfl, by decide +kernel, by decide +kernel⟩
/-- is_numbers of any value -/
theorem num_any {H : Hp} {v : V} {d : Va} {Q : VK} {E : XK} (r : Rv H v d) (q : ∀ H2, Ex H H2 → Q (.bl (isNums d)) H2) : spNum [v] H Q E := by
  refine ⟨v, rfl, ?_⟩
  rcases r.seq with ⟨a, xs, l, rfl, hl, hS, hP, hz⟩ | ⟨hl, hT⟩
  · refine .inr ⟨a, xs, l.map tyV, rfl, hS, kds hP, hz, fun H2 e => ?_⟩
    rw [all_isI]
    have := q H2 e
    unfold isNums at this
    rw [hl] at this
    exact this
  · refine .inl ⟨tyV d, r.kd, hT, fun H2 e => ?_⟩
    have := q H2 e
    unfold isNums at this
    rw [hl] at this
    exact this
def spPair : Sp := fun vs H Q _ => ∃ (v : V) (d : Va), vs = [v] ∧ Rv H v d ∧ ∀ H2, Ex H H2 → Q (.bl (isPair d)) H2
theorem ok_pair {f : Addr} {fd : FuncData} {k : Nat} (F : FnP K "is_pair" sPair f fd) (B : Bu mg) (I_ : FnA K mg "is_integer" sIsI ["value"]) (N_ : FnA K mg "is_numbers" sNum ["value"]) : FnOk P w K mg base CX0 (k + 3) f fd ["value"] spPair := by
  have GN : FnOk P w K mg base CX0 (k + 2) N_.f N_.fd ["value"] spNum := ok_num N_.F B I_
  refine ok0 F scPair (fun vs H Q E h => ?_) (fun cdv A outer s H vs Q E hr h => ?_)
  · obtain ⟨v, d, rfl, _⟩ := h
    rfl
  · obtain ⟨v, d, rfl, r, q⟩ := h
    refine ⟨_, pss_one (ps_ret (pe_and (pe_call GN hr (by rfl) N_.g N_.F.kp N_.b .nil pass0 (pa_cons (pv 0) pa_nil)) (pe_one (pe_cmpR op_eq (pe_callB call_len_seq rfl B.len PySem.boot_len (pa_cons (pv 0) pa_nil)) pe_int (nomark _))))), ?_⟩
    refine s_re (an_op (cl1 rfl (num_any r fun H2 e => ⟨_, rfl, ?_⟩)))
    rcases r.seq with ⟨a, xs, l, rfl, hl, hS, hP, hz⟩ | ⟨hl, hT⟩
    · by_cases hn : isNums d = true
      · rw [hn]
        refine iteT ⟨.ref a, rfl, a, xs, rfl, (hS.up e).sq, rfl, ?_⟩
        have := q H2 e
        unfold isPair lenV at this
        rw [hn, hl, Bool.true_and] at this
        have e2 : decide (l.length = 2) = decide (V.int ((xs.length : Nat) : Int) = V.int 2) := by
          rw [Paired.length hP]
          by_cases h : l.length = 2
          · rw [h]; rfl
          · rw [decide_eq_false h, decide_eq_false (by intro z; exact h (by have := V.int.inj z; omega))]
        show Q (.bl (decide (V.int ((xs.length : Nat) : Int) = V.int 2))) H2
        rw [← e2]
        exact this
      · have hn : isNums d = false := by simpa using hn
        rw [hn]
        have := q H2 e
        unfold isPair at this
        rw [hn] at this
        exact iteF this
    · have hn : isNums d = false := by unfold isNums; rw [hl]
      rw [hn]
      have := q H2 e
      unfold isPair at this
      rw [hn] at this
      exact iteF this
end
end KW
namespace KX
open PySem PySem.Spec PyProof.Rows L2 Evl
/-! ### min and max of a tuple of ints -/
section
variable {prog : Program} {w : World} {A : Around} {E : Value → Shared → Prop} {s : Shared} {l : Addr} {xs : Array (Int × Tok)}
theorem iter_intTup {Q : Value → Shared → Prop} (hl : s.heap.IsTuple l (intItems xs))
    (h : ∀ s₂ : Shared, s₂ = { s with heap := s.heap.push { cls := .type "tuple_iterator", data := .fields #[.ref l, .int 0 0] } } →
      (s₂.heap.IsTupleIter s.heap.objs.size l 0 ∧ s₂.heap.IsTuple l (intItems xs)) → (∀ b ∈ [s.heap.objs.size, l], b < s₂.heap.objs.size) → l ≠ s.heap.objs.size → Q (.ref s.heap.objs.size) s₂) :
    wpAny (model prog w) A (pyIter (.ref l)) Q E s := by
  have hlt : l < s.heap.objs.size := by obtain ⟨_, e, _⟩ := hl; exact Heap.lt_size e
  have hl2 : ∀ o, (s.heap.push o).IsTuple l (intItems xs) := fun o => by
    obtain ⟨ob, e, r⟩ := hl
    exact ⟨ob, Heap.get?_push_of_some _ e, r⟩
  refine wpAny_pyIter_tuple hl (h _ rfl ⟨⟨_, Heap.get?_push_size _ rfl, rfl, rfl⟩, hl2 _⟩ (fun b hb => ?_) (Nat.ne_of_lt hlt))
  show b < (s.heap.push _).objs.size
  rw [Heap.size_push]
  rcases List.mem_cons.mp hb with rfl | hb
  · exact Nat.lt_succ_self _
  · rcases List.mem_cons.mp hb with rfl | hb
    · exact Nat.lt_succ_of_lt hlt
    · cases hb
theorem old_keptT {h' : Heap} (hk : ∀ b o, b ∉ [s.heap.objs.size] → (s.heap.push { cls := .type "tuple_iterator", data := .fields #[.ref l, .int 0 0] }).get? b = some o → h'.get? b = some o) :
    ∀ b o, s.heap.get? b = some o → h'.get? b = some o := fun b o e => by
  refine hk b o (fun hm => ?_) (Heap.get?_push_of_some _ e)
  rcases List.mem_cons.mp hm with e1 | hm
  · exact absurd (e1 ▸ Heap.lt_size e) (Nat.lt_irrefl _)
  · cases hm
theorem max_intTup {Q : Value → Shared → Prop} (hh : A.handled = none) (hl : s.heap.IsTuple l (intItems xs)) (hne : 0 < xs.size)
    (h : ∀ v h' tk, (intItems xs)[argBest (fun i j => decide (numAt xs i > numAt xs j)) (xs.size - 1)]? = some v → (∀ b o, s.heap.get? b = some o → h'.get? b = some o) → Q v { s with heap := h', toks := tk }) :
    wpAny (model prog w) A (call (.builtin "max") [.ref l]) Q E s := by
  refine call_max_walk (iter_intTup hl fun s₂ e st hfp hlI => ?_)
  subst e
  refine ⟨_, _, _, _, _, _, _, rfl, Walks.tuple (A := A.in1) hh _ l hlI (intItems xs), st, hfp, by simpa [intItems] using hne, CmpOf.ints_gt (numAt xs) (fun _ _ => intItems_at), fun v h' tk hP hk => ?_⟩
  exact h v h' tk (by simpa [intItems] using hP) (old_keptT hk)
theorem min_intTup {Q : Value → Shared → Prop} (hh : A.handled = none) (hl : s.heap.IsTuple l (intItems xs)) (hne : 0 < xs.size)
    (h : ∀ v h' tk, (intItems xs)[argBest (fun i j => decide (numAt xs i < numAt xs j)) (xs.size - 1)]? = some v → (∀ b o, s.heap.get? b = some o → h'.get? b = some o) → Q v { s with heap := h', toks := tk }) :
    wpAny (model prog w) A (call (.builtin "min") [.ref l]) Q E s := by
  refine call_min_walk (iter_intTup hl fun s₂ e st hfp hlI => ?_)
  subst e
  refine ⟨_, _, _, _, _, _, _, rfl, Walks.tuple (A := A.in1) hh _ l hlI (intItems xs), st, hfp, by simpa [intItems] using hne, CmpOf.ints_lt (numAt xs) (fun _ _ => intItems_at), fun v h' tk hP hk => ?_⟩
  exact h v h' tk (by simpa [intItems] using hP) (old_keptT hk)
theorem max_rawT {its : List Value} {ns : List Int} {Q : Value → Shared → Prop} (hh : A.handled = none) (hl : s.heap.IsTuple l its.toArray) (hi : IntsAre its ns) (hne : 0 < ns.length)
    (h : ∀ h' tk M t', (∀ b o, s.heap.get? b = some o → h'.get? b = some o) → M ∈ ns → (∀ a, a ∈ ns → a ≤ M) → Q (.int M t') { s with heap := h', toks := tk }) : wpAny (model prog w) A (call (.builtin "max") [.ref l]) Q E s := by
  obtain ⟨xs, e⟩ := hi.allInts.items
  have hn : numsOf (intItems xs).toList = ns := by rw [← e]; exact hi.numsOf
  rw [nums_intItems] at hn
  subst hn
  rw [e] at hl
  have hsz : 0 < xs.size := by simpa using hne
  refine max_intTup hh hl hsz fun v h' tk hv hk => ?_
  obtain ⟨t, rfl⟩ := intItems_at hv
  obtain ⟨h1, h2⟩ := argBest_gt (numAt xs) (xs.size - 1)
  refine h h' tk _ t hk ?_ fun a ha => ?_
  · rw [numAt_eq]; exact PySem.getD_mem (by rw [List.length_map, Array.length_toList]; omega)
  · obtain ⟨j, hj, rfl⟩ := mem_getD ha
    rw [List.length_map, Array.length_toList] at hj
    rw [← numAt_eq]; exact h2 j (by omega)
theorem min_rawT {its : List Value} {ns : List Int} {Q : Value → Shared → Prop} (hh : A.handled = none) (hl : s.heap.IsTuple l its.toArray) (hi : IntsAre its ns) (hne : 0 < ns.length)
    (h : ∀ h' tk M t', (∀ b o, s.heap.get? b = some o → h'.get? b = some o) → M ∈ ns → (∀ a, a ∈ ns → M ≤ a) → Q (.int M t') { s with heap := h', toks := tk }) : wpAny (model prog w) A (call (.builtin "min") [.ref l]) Q E s := by
  obtain ⟨xs, e⟩ := hi.allInts.items
  have hn : numsOf (intItems xs).toList = ns := by rw [← e]; exact hi.numsOf
  rw [nums_intItems] at hn
  subst hn
  rw [e] at hl
  have hsz : 0 < xs.size := by simpa using hne
  refine min_intTup hh hl hsz fun v h' tk hv hk => ?_
  obtain ⟨t, rfl⟩ := intItems_at hv
  obtain ⟨h1, h2⟩ := argBest_lt (numAt xs) (xs.size - 1)
  refine h h' tk _ t hk ?_ fun a ha => ?_
  · rw [numAt_eq]; exact PySem.getD_mem (by rw [List.length_map, Array.length_toList]; omega)
  · obtain ⟨j, hj, rfl⟩ := mem_getD ha
    rw [List.length_map, Array.length_toList] at hj
    rw [← numAt_eq]; exact h2 j (by omega)
end
section
variable {X : Cx}
/-- max(x), min(x) of a list or tuple of ints -/
def rMaxQ (K : PySem.W.Frag) : List V → Hp → VK → Prop := fun vs H Q => ∃ (a : Addr) (ns : List Int), vs = [V.ref a] ∧ KS.Sq K H a (ns.map V.int) ∧ 0 < ns.length ∧ ∀ m, m ∈ ns → (∀ y, y ∈ ns → y ≤ m) → Q (.int m) H
def rMinQ (K : PySem.W.Frag) : List V → Hp → VK → Prop := fun vs H Q => ∃ (a : Addr) (ns : List Int), vs = [V.ref a] ∧ KS.Sq K H a (ns.map V.int) ∧ 0 < ns.length ∧ ∀ m, m ∈ ns → (∀ y, y ∈ ns → m ≤ y) → Q (.int m) H
theorem cr_maxQ (hc : X.calm = true) : CallR X (.builtin "max") (rMaxQ X.K) := by
  intro pins s σ H vs us Q I r h
  obtain ⟨a, ns, rfl, hs, hne, q⟩ := h
  rcases hs with hs | hs
  · exact cr_max hc pins s σ H _ us Q I r ⟨a, ns, rfl, hs, hne, q⟩
  · obtain ⟨its, rv, hl, _⟩ := I.tuple hs
    rw [Vals.ref1 r]
    exact max_rawT (I.ok.hd hc) (show s.heap.IsTuple a its.toArray from hl) rv.ints hne fun h' tk m t' hk h1 h2 => ⟨.int _, H, I.kept hk, ⟨_, rfl⟩, q m h1 h2⟩
theorem cr_minQ (hc : X.calm = true) : CallR X (.builtin "min") (rMinQ X.K) := by
  intro pins s σ H vs us Q I r h
  obtain ⟨a, ns, rfl, hs, hne, q⟩ := h
  rcases hs with hs | hs
  · exact cr_min hc pins s σ H _ us Q I r ⟨a, ns, rfl, hs, hne, q⟩
  · obtain ⟨its, rv, hl, _⟩ := I.tuple hs
    rw [Vals.ref1 r]
    exact min_rawT (I.ok.hd hc) (show s.heap.IsTuple a its.toArray from hl) rv.ints hne fun h' tk m t' hk h1 h2 => ⟨.int _, H, I.kept hk, ⟨_, rfl⟩, q m h1 h2⟩
end
end KX
namespace KW
open PySem PySem.Spec PyProof.Rows L2 KR KS KX Evl StX
/-- isinstance(x, (list, tuple)) of any value -/
theorem islt {K : PySem.W.Frag} {H : Hp} {v : V} {d : Va} {i : Nat} {σ : L2.St} {Q : VK} (e : σ[i]? = some (some v)) (r : Rv H v d) (q : ∀ H2, Ex H H2 → Q (.bl (seqV d).isSome) H2) :
    tCB (rIsiT K) (tCons (tVar i) (tCons (tTup (tCons (tC (V.ty "list")) (tCons (tC (V.ty "tuple")) tNil))) tNil)) σ H Q := by
  refine ⟨v, e, by show 2 ≤ sizeLine; decide, fun tp htp => ?_⟩
  have e0 : Ex H (upd H tp (.tup [V.ty "list", V.ty "tuple"])) := Ex.new htp
  have cl : Paired ClsV [V.ty "list", V.ty "tuple"] [Value.type "list", Value.type "tuple"] := .cons (.ty _) (.cons (.ty _) .nil)
  have hk := (r.up e0).kd
  refine ⟨v, tp, _, _, _, _, rfl, upd_same, cl, hk.ty, hk.isLT, ?_⟩
  have hb : (decide (tyV d = "list") || decide (tyV d = "tuple")) = (seqV d).isSome := by cases d <;> rfl
  rw [hb]
  exact q _ e0
theorem va_at {H : Hp} {xs : List V} {l : List Va} {i : Nat} {x : V} (h : Paired (Rv H) xs l) (hx : xs[i]? = some x) : Rv H x (l.getD i .non) := by
  obtain ⟨d, hd, r⟩ := pget h hx
  rw [getD_at hd]
  exact r
/-- all([f(x) for x in xs]), f a test by the values -/
theorem given_va {l : List Va} {n : Nat} (hn : n = l.length) (p : Va → Bool) : given n (fun _ => true) (fun i => V.bl (p (l.getD i .non))) = (l.map p).map V.bl := by
  refine given_all (by simp [hn]) fun i x hx => ?_
  rw [List.getElem?_map, List.getElem?_map] at hx
  cases e : l[i]? with
  | none => rw [e] at hx; cases hx
  | some d =>
    rw [e] at hx
    rw [getD_at e]
    exact Option.some.inj hx
section
variable {P : Program} {w : World} {K : PySem.W.Frag} {mg : Str → Option Value} {base : Heap}
/-! ### are_pairs -/
abbrev sPairs : Stmt := topS 54
abbrev nPairs : List Str := ["value", "pair"]
theorem scPairs : FnScope nPairs ["value"] (defScope sPairs) := ⟨rfl, rfl, rfl, by decide +kernel, rfl, by decide +kernel, by decide +kernel⟩
def spPairs : Sp := fun vs H Q _ => ∃ (v : V) (d : Va), vs = [v] ∧ Rv H v d ∧ ∀ H2, Ex H H2 → Q (.bl (arePairs d)) H2
theorem ok_pairs {f : Addr} {fd : FuncData} {k : Nat} (F : FnP K "are_pairs" sPairs f fd) (B : Bu mg) (P_ : FnA K mg "is_pair" sPair ["value"]) (GP : FnOk P w K mg base CX0 (k + 3) P_.f P_.fd ["value"] spPair) : FnOk P w K mg base CX0 (k + 4) f fd ["value"] spPairs := by
  refine ok0 F scPairs (fun vs H Q E h => ?_) (fun cdv A outer s H vs Q E hr h => ?_)
  · obtain ⟨v, d, rfl, _⟩ := h
    rfl
  · obtain ⟨v, d, rfl, r, q⟩ := h
    refine ⟨_, (pss_one (ps_ret (pe_and (pe_callB call_isiT rfl B.isinstance boot_isinstance (pa_cons (pv 0) (pa_cons (pe_tup (pa_cons (pe_bltn (v := V.ty "list") rfl B.list boot_list rfl) (pa_cons (pe_bltn (v := V.ty "tuple") rfl B.tuple boot_tuple rfl) pa_nil))) pa_nil))) (pe_one (pe_callB (cr_all rfl) rfl B.all boot_all (pa_cons (pe_lc (own := [("pair", 1)]) (g := gName 1) rfl scPairs.nd (pi_seq (pv 0)) (blkOk_by (N := nPairs) (sc := defScope sPairs) (by decide +kernel)) (fun _ _ _ _ _ => (pg_name (i := 1) scPairs.nd rfl (Or.inl rfl))) (fun _ _ _ _ _ => pts_nil) (fun _ _ _ _ _ => (pe_call GP hr (by rfl) P_.g P_.F.kp P_.b .nil pass0 (pa_cons (pv 1) pa_nil)))) pa_nil)))))), ?_⟩
    refine s_re (an_op (islt rfl r fun H1 e1 => ⟨_, rfl, ?_⟩))
    rcases r.seq with ⟨a, xs, l, rfl, hl, hS, hP, hz⟩ | ⟨hl, hT⟩
    · have qq : ∀ H2, Ex H H2 → Q (.bl (l.all isPair)) H2 := fun H2 e2 => by
        have := q H2 e2
        unfold arePairs at this
        rw [hl] at this
        exact this
      rw [hl]
      refine iteT ?_
      have comp := el_lcSq (K := K) (σ := [some (.ref a), none]) (H := H) (a := a) (xs := xs) (tl := tVar 0) (te := tCall spPair [] E0 (tCons (tVar 1) tNil)) (t := tYes) (j := 1) (vs := [1]) (fun _ => true) (fun i => V.bl (isPair (l.getD i .non)))
        (ev_var rfl) hS.sq (by omega) (fun _ => rfl) (fun _ _ _ _ _ => et_yes) (fun i x H1 e1 hx _ H2 e2 Q2 q2 => cl1 rfl ⟨x, l.getD i .non, rfl, (va_at hP hx).up (e1.trans e2), fun H3 e3 => q2 H3 e3⟩)
      rw [given_va (Paired.length hP)] at comp
      refine cb_op (a_op (comp _ e1 _ fun D H2 hD e2 hd => ⟨D, l.map isPair, rfl, sq_of hd, ?_⟩))
      rw [List.all_map]
      exact qq H2 (e1.trans e2)
    · have := q H1 e1
      unfold arePairs at this
      rw [hl] at this ⊢
      exact iteF this
/-! ### need_kinds -/
abbrev sNK : Stmt := topS 58
abbrev nNK : List Str := ["kinds", "kind"]
theorem scNK : FnScope nNK ["kinds"] (defScope sNK) := ⟨rfl, rfl, rfl, by decide +kernel, rfl, by decide +kernel, by decide +kernel⟩
def areKinds (d : Va) : Bool := match seqV d with
  | some l => !l.isEmpty && l.all isName
  | none => false
def spNK (S : Es P w K mg base) : Sp := fun vs H Q E => ∃ (v : V) (d : Va), vs = [v] ∧ Rv H v d ∧ if areKinds d = true then ∀ H2, Ex H H2 → Q .non H2 else Rz S H E (.web "kinds")
theorem name_any {H : Hp} {v : V} {d : Va} {Q : VK} {E : XK} (r : Rv H v d) (q : ∀ H2, Ex H H2 → Q (.bl (isName d)) H2) : spNam [v] H Q E := by
  refine ⟨v, rfl, ?_⟩
  cases r with
  | str z hz => exact .inr ⟨z, rfl, hz, q⟩
  | non => exact .inl ⟨_, .non, rfl, q H (Ex.refl H)⟩
  | bl b => exact .inl ⟨_, .bl b, rfl, q H (Ex.refl H)⟩
  | int i => exact .inl ⟨_, .int i, rfl, q H (Ex.refl H)⟩
  | lst h _ _ => exact .inl ⟨_, .lst _ _ h, rfl, q H (Ex.refl H)⟩
  | tup h _ _ => exact .inl ⟨_, .tup _ _ h, rfl, q H (Ex.refl H)⟩
  | dic h => exact .inl ⟨_, .dic _ _ h, rfl, q H (Ex.refl H)⟩
theorem seq_tru {H : Hp} {a : Addr} {xs : List V} (h : Seq1 H a xs) : TruV K (.ref a) H (!xs.isEmpty) := by
  rcases h with h | h
  · exact .inl ⟨xs, sq_of h, rfl⟩
  · exact .inr (.inl ⟨xs, h.st, rfl⟩)
theorem ok_nk {S : Es P w K mg base} {f : Addr} {fd : FuncData} {k : Nat} (F : FnP K "need_kinds" sNK f fd) (B : Bu mg) (G : Gc mg) (N_ : FnA K mg "is_name" sNam ["value"]) : FnOk P w K mg base (L2.CX P w) (k + 3) f fd ["kinds"] (spNK S) := by
  have GN : FnOk P w K mg base CX0 (k + 1) N_.f N_.fd ["value"] spNam := ok_nam N_.F B G
  refine okE F scNK (fun vs H Q E h => ?_) (fun cdv A outer s H vs Q E hr h => ?_)
  · obtain ⟨v, d, rfl, _⟩ := h
    rfl
  · obtain ⟨v, d, rfl, r, q⟩ := h
    have hr1 := hr.mono (j := k + 1) (by omega)
    refine ⟨_, (pss_cons (ps_if (PW.pt (pw_or (pt_not (pt_val (pe_callB call_isiT rfl B.isinstance boot_isinstance (pa_cons (pv 0) (pa_cons (pe_tup (pa_cons (pe_bltn (v := V.ty "list") rfl B.list boot_list rfl) (pa_cons (pe_bltn (v := V.ty "tuple") rfl B.tuple boot_tuple rfl) pa_nil))) pa_nil))))) (pw_or1 (pt_not (pt_truth (pv 0) (fun _ => rfl)))))) (pss_one (ps_rs1 S.web (hr.mono (by omega)) pe_str (takes_of rfl rfl rfl rfl))) pss_nil)
      (pss_one (ps_if (pt_not (pt_val (pe_callB (cr_all rfl) rfl B.all boot_all (pa_cons (pe_lc (own := [("kind", 1)]) (g := gName 1) rfl scNK.nd (pi_seq (pv 0)) (blkOk_by (N := nNK) (sc := defScope sNK) (by decide +kernel)) (fun _ _ _ _ _ => (pg_name (i := 1) scNK.nd rfl (Or.inl rfl))) (fun _ _ _ _ _ => pts_nil) (fun _ _ _ _ _ => (pe_call GN hr1 (by rfl) N_.g N_.F.kp N_.b .nil pass0 (pa_cons (pv 1) pa_nil)))) pa_nil)))) (pss_one (ps_rs1 S.web (hr.mono (by omega)) pe_str (takes_of rfl rfl rfl rfl))) pss_nil))), ?_⟩
    refine q_if0 (or_op (islt rfl r fun H1 e1 => ⟨_, rfl, ?_⟩))
    rcases r.seq with ⟨a, xs, l, rfl, hl, hS, hP, hz⟩ | ⟨hl, hT⟩
    · have hlen := Paired.length hP
      have hA : areKinds d = (!l.isEmpty && l.all isName) := by unfold areKinds; rw [hl]
      have hemp : xs.isEmpty = l.isEmpty := by cases hP <;> rfl
      rw [hl]
      refine iteF ⟨.ref a, rfl, _, seq_tru (hS.up e1), ?_⟩
      rw [hemp]
      cases he : l.isEmpty with
      | true =>
        rw [hA, he] at q
        exact iteT (rs_web q e1)
      | false =>
        rw [hA, he] at q
        refine iteF (nx_op (s_if0 ?_))
        have comp := el_lcSq (K := K) (σ := [some (.ref a), none]) (H := H) (a := a) (xs := xs) (tl := tVar 0) (te := tCall spNam [] E0 (tCons (tVar 1) tNil)) (t := tYes) (j := 1) (vs := [1]) (fun _ => true) (fun i => V.bl (isName (l.getD i .non)))
          (ev_var rfl) hS.sq (by omega) (fun _ => rfl) (fun _ _ _ _ _ => et_yes) (fun i x H1 e1 hx _ H2 e2 Q2 q2 => cl1 rfl (name_any ((va_at hP hx).up (e1.trans e2)) fun H3 e3 => q2 H3 e3))
        rw [given_va hlen] at comp
        refine cb_op (a_op (comp _ e1 _ fun D H2 hD e2 hd => ⟨D, l.map isName, rfl, sq_of hd, _, rfl, ?_⟩))
        have hall : ((l.map isName).all fun b => b) = l.all isName := by rw [List.all_map]; rfl
        rw [show ((l.map isName).all id) = l.all isName from by rw [List.all_map]; rfl]
        cases ha : l.all isName with
        | true =>
          rw [ha] at q
          exact iteF (q H2 (e1.trans e2))
        | false =>
          rw [ha] at q
          exact iteT (rs_web q (e1.trans e2))
    · have hA : areKinds d = false := by unfold areKinds; rw [hl]
      rw [hA] at q
      rw [hl]
      exact iteT (iteT (rs_web q e1))
end
end KW
namespace KW
open PySem PySem.Spec PyProof.Rows L2 KR KS KX Evl StX
/-- a pair of ints -/
def prV (d : Va) : Int × Int := match seqV d with
  | some [.int a, .int b] => (a, b)
  | _ => (0, 0)
def ascP (p : Int × Int) : List Int := [min p.1 p.2, max p.1 p.2]
def ascV (d : Va) : List Int := ascP (prV d)
theorem pair_is {H : Hp} {v : V} {d : Va} (r : Rv H v d) (h : isPair d = true) : ∃ (a : Addr) (i j : Int), v = .ref a ∧ Seq1 H a [V.int i, V.int j] ∧ prV d = (i, j) := by
  rcases r.seq with ⟨a, xs, l, rfl, hl, hS, hP, hz⟩ | ⟨hl, hT⟩
  · unfold isPair isNums lenV at h
    rw [hl] at h
    simp only [Bool.and_eq_true, decide_eq_true_eq] at h
    obtain ⟨h1, h2⟩ := h
    match l, h2, hl, hP, h1 with
    | [x, y], _, hl, hP, h1 =>
      simp only [List.all_cons, List.all_nil, Bool.and_true, Bool.and_eq_true] at h1
      obtain ⟨hx, hy⟩ := h1
      obtain ⟨i, rfl⟩ : ∃ i, x = .int i := by cases x <;> first | exact ⟨_, rfl⟩ | cases hx
      obtain ⟨j, rfl⟩ : ∃ j, y = .int j := by cases y <;> first | exact ⟨_, rfl⟩ | cases hy
      cases hP with
      | cons r1 t =>
        cases t with
        | cons r2 t2 =>
          cases t2
          cases r1
          cases r2
          exact ⟨a, i, j, rfl, hS, by unfold prV; rw [hl]⟩
  · unfold isPair isNums at h
    rw [hl] at h
    cases h
theorem min_of {m i j : Int} (h1 : m ∈ [i, j]) (h2 : ∀ y, y ∈ [i, j] → m ≤ y) : m = min i j := by
  have a := h2 i (by simp)
  have b := h2 j (by simp)
  rcases List.mem_cons.mp h1 with e | e
  · omega
  · have e := List.mem_singleton.mp e
    omega
theorem max_of {m i j : Int} (h1 : m ∈ [i, j]) (h2 : ∀ y, y ∈ [i, j] → y ≤ m) : m = max i j := by
  have a := h2 i (by simp)
  have b := h2 j (by simp)
  rcases List.mem_cons.mp h1 with e | e
  · omega
  · have e := List.mem_singleton.mp e
    omega
def TupG (o : HO) (c : List Int) : Prop := o = .tup (c.map V.int)
theorem tupR_of {H : Hp} {v : V} {c : List Int} (h : Ob TupG H v c) : TupR H v c := by
  obtain ⟨a, o, rfl, h, g⟩ := h
  cases g
  exact ⟨a, rfl, h⟩
theorem nn_no {i : Nat} {σ : L2.St} {H : Hp} {Q : Bool → Hp → Prop} (e : σ[i]? = some (some .non)) (h : Q false H) : tB (tNotN (tVar i)) σ H Q := ⟨_, e, _, rfl, by rw [decide_eq_true rfl]; exact h⟩
theorem nn_yes {i : Nat} {σ : L2.St} {H : Hp} {v : V} {Q : Bool → Hp → Prop} (e : σ[i]? = some (some v)) (hv : v ≠ .non) (h : Q true H) : tB (tNotN (tVar i)) σ H Q := ⟨_, e, _, rfl, by rw [decide_eq_false hv]; exact h⟩
theorem boot_min : bootBuiltins "min" = some (.builtin "min") := by decide +kernel
theorem boot_max : bootBuiltins "max" = some (.builtin "max") := by decide +kernel
theorem boot_any : bootBuiltins "any" = some (.builtin "any") := by decide +kernel
section
variable {P : Program} {w : World} {K : PySem.W.Frag} {mg : Str → Option Value} {base : Heap}
/-! ### ascending -/
abbrev sAsc : Stmt := topS 55
abbrev nAsc : List Str := ["pairs", "pair"]
theorem scAsc : FnScope nAsc ["pairs"] (defScope sAsc) := ⟨rfl, rfl, rfl, by decide +kernel, rfl, by decide +kernel, by decide +kernel⟩
def spAsc : Sp := fun vs H Q _ => ∃ (a : Addr) (xs : List V) (l : List Va), vs = [.ref a] ∧ Seq1 H a xs ∧ Paired (Rv H) xs l ∧ xs.length ≤ 1000 ∧ l.all isPair = true ∧
  ∀ p ys H2, H p = none → Ex H H2 → H2 p = some (.lst ys) → Paired (TupR H2) ys (l.map ascV) → Q (.ref p) H2
theorem ok_asc {f : Addr} {fd : FuncData} {k : Nat} (F : FnP K "ascending" sAsc f fd) (B : Bu mg) : FnOk P w K mg base CX0 (k + 1) f fd ["pairs"] spAsc := by
  refine ok0 F scAsc (fun vs H Q E h => ?_) (fun cdv A outer s H vs Q E hr h => ?_)
  · obtain ⟨a, xs, l, rfl, _⟩ := h
    rfl
  · obtain ⟨a, xs, l, rfl, hS, hP, hz, hall, q⟩ := h
    refine ⟨_, (pss_one (ps_ret (pe_lc (own := [("pair", 1)]) (g := gName 1) (te := tTup (tCons (tCB (rMinQ K) (tCons (tVar 1) tNil)) (tCons (tCB (rMaxQ K) (tCons (tVar 1) tNil)) tNil))) rfl scAsc.nd (pi_seq (pv 0)) (blkOk_by (N := nAsc) (sc := defScope sAsc) (by decide +kernel)) (fun _ _ _ _ _ => (pg_name (i := 1) scAsc.nd rfl (Or.inl rfl))) (fun _ _ _ _ _ => pts_nil) (fun _ _ _ _ _ => (pe_tup (pa_cons (pe_callB (cr_minQ rfl) rfl B.min boot_min (pa_cons (pv 1) pa_nil)) (pa_cons (pe_callB (cr_maxQ rfl) rfl B.max boot_max (pa_cons (pv 1) pa_nil)) pa_nil))))))), ?_⟩
    have hlen := Paired.length hP
    have comp := eo_lcSq (K := K) (G := TupG) (σ := [some (.ref a), none]) (H := H) (a := a) (xs := xs) (tl := tVar 0) (te := tTup (tCons (tCB (rMinQ K) (tCons (tVar 1) tNil)) (tCons (tCB (rMaxQ K) (tCons (tVar 1) tNil)) tNil))) (j := 1) (vs := [1]) (l.map ascV)
      (by rw [List.length_map]; exact hlen) (ev_var rfl) hS.sq (by rw [List.length_map]; omega) (fun _ => rfl) (fun i x y H1 e1 hx hy => by
        obtain ⟨d, hd, r⟩ := pget hP hx
        rw [List.getElem?_map, hd] at hy
        have hy : ascV d = y := Option.some.inj hy
        subst hy
        obtain ⟨b, i1, j1, rfl, hb, hpr⟩ := pair_is r (List.all_eq_true.mp hall d (List.mem_of_getElem? hd))
        intro H2 e2 Q2 q2
        have hb2 := (hb.up (e1.trans e2)).sq (K := K)
        refine ⟨.ref b, rfl, b, [i1, j1], rfl, hb2, (by show 0 < 2; decide), fun m hm1 hm2 => ⟨.ref b, rfl, b, [i1, j1], rfl, hb2, (by show 0 < 2; decide), fun m2 hn1 hn2 => ⟨by show 2 ≤ sizeLine; decide, fun t ht => ?_⟩⟩⟩
        have e : ascV d = [m, m2] := by
          unfold ascV ascP
          rw [hpr, min_of hm1 hm2, max_of hn1 hn2]
        refine q2 t _ _ ht (Ex.new ht) upd_same ?_
        rw [e]
        rfl)
    exact s_re (comp H (Ex.refl H) _ fun p ys H2 hp e2 h2 hP2 => q p ys H2 hp e2 h2 (L2.Paired.mapP hP2 fun _ _ => tupR_of))
/-! ### need_none_twice -/
abbrev sNT : Stmt := topS 56
abbrev nNT : List Str := ["values", "twice"]
theorem scNT : FnScope nNT ["values"] (defScope sNT) := ⟨rfl, rfl, rfl, by decide +kernel, rfl, by decide +kernel, by decide +kernel⟩
def tupV (c : List Int) : Va := .tup (c.map .int)
def spNTp (S : Es P w K mg base) : Sp := fun vs H Q E => ∃ (a : Addr) (xs : List V) (cs : List (List Int)), vs = [.ref a] ∧ Sq K H a xs ∧ Paired (TupR H) xs cs ∧ xs.length ≤ 1000 ∧ (∀ c ∈ cs, c.length ≤ 1000) ∧
  match ft [] cs with
  | none => ∀ H2, Ex H H2 → Q .non H2
  | some c => Rz S H E (.twice (tupV c))
theorem rva_ints (H : Hp) : ∀ c : List Int, RvA H (c.map V.int) (c.map Va.int)
  | [] => .nil
  | x :: c => .cons (.int x) (rva_ints H c)
theorem tupR_rv {H : Hp} {v : V} {c : List Int} (h : TupR H v c) (hl : c.length ≤ 1000) : Rv H v (tupV c) := by
  obtain ⟨b, rfl, hb⟩ := h
  exact .tup (.inl hb) (rva_ints H c) (by rw [List.length_map]; exact hl)
theorem ft_mem {κ : Type} [DecidableEq κ] : ∀ (l s : List κ) (c : κ), ft s l = some c → c ∈ l
  | [], s, c, h => by cases h
  | x :: l, s, c, h => by
    unfold ft at h
    split at h
    · cases h; exact List.mem_cons_self
    · exact List.mem_cons_of_mem _ (ft_mem l _ c h)
theorem ok_ntp {S : Es P w K mg base} {f : Addr} {fd : FuncData} {k : Nat} (F : FnP K "need_none_twice" sNT f fd) (B : Bu mg) (F_ : FnA K mg "first_twice" sFT ["values"]) (X_ : FnA K mg "fixed" sFix ["value"]) : FnOk P w K mg base (L2.CX P w) (k + 4) f fd ["values"] (spNTp S) := by
  have GF : FnOk P w K mg base CX0 (k + 3) F_.f F_.fd ["values"] (spFTT K) := ok_ftt F_.F B X_
  refine okE F scNT (fun vs H Q E h => ?_) (fun cdv A outer s H vs Q E hr h => ?_)
  · obtain ⟨a, xs, cs, rfl, _⟩ := h
    rfl
  · obtain ⟨a, xs, cs, rfl, hS, hP, hz, hc, q⟩ := h
    refine ⟨_, (pss_cons (ps_set (i := 1) scNT.nd rfl (Or.inl rfl) (pe_call GF hr (by rfl) F_.g F_.F.kp F_.b .nil pass0 (pa_cons (pv 0) pa_nil)))
      (pss_one (ps_if (pt_cmp (pc_notN (pv 1))) (pss_one (ps_rs1 S.twice (hr.mono (by omega)) (pv 1) (takes_of rfl rfl rfl rfl))) pss_nil))), ?_⟩
    refine q_as (cl1 rfl ⟨a, xs, cs, rfl, hS, hP, hz, hc, fun v H2 e2 hv => ?_⟩)
    cases e : ft [] cs with
    | none =>
      rw [e] at hv q
      cases hv
      exact s_if0 (nn_no rfl (iteF (q H2 e2)))
    | some c =>
      rw [e] at hv q
      have hr2 := tupR_rv hv (hc c (ft_mem _ _ _ e))
      obtain ⟨b, rfl, hb⟩ := hv
      exact s_if0 (nn_yes rfl (fun z => nomatch z) (iteT ⟨_, rfl, rs_twice q e2 hr2⟩))
def spNTi (S : Es P w K mg base) : Sp := fun vs H Q E => ∃ (a : Addr) (ns : List Int), vs = [.ref a] ∧ Sq K H a (ns.map V.int) ∧ ns.length ≤ 1000 ∧
  match ft [] ns with
  | none => ∀ H2, Ex H H2 → Q .non H2
  | some c => Rz S H E (.twice (.int c))
theorem ft_inl : ∀ (l s : List Int), ft (κ := Key) (s.map Sum.inl) (l.map Sum.inl) = (ft s l).map Sum.inl
  | [], s => rfl
  | x :: l, s => by
    rw [List.map_cons]
    unfold ft
    have e : ((Sum.inl x : Key) ∈ s.map Sum.inl) ↔ x ∈ s := by
      rw [List.mem_map]
      exact ⟨fun ⟨y, h1, h2⟩ => by cases h2; exact h1, fun h => ⟨x, h, rfl⟩⟩
    by_cases h : x ∈ s
    · rw [if_pos h, if_pos (e.mpr h)]
      rfl
    · rw [if_neg h, if_neg (fun z => h (e.mp z))]
      have := ft_inl l (s ++ [x])
      rw [List.map_append] at this
      exact this
theorem ok_nti {S : Es P w K mg base} {f : Addr} {fd : FuncData} {k : Nat} (F : FnP K "need_none_twice" sNT f fd) (B : Bu mg) (F_ : FnA K mg "first_twice" sFT ["values"]) (X_ : FnA K mg "fixed" sFix ["value"]) : FnOk P w K mg base (L2.CX P w) (k + 4) f fd ["values"] (spNTi S) := by
  have GF : FnOk P w K mg base CX0 (k + 3) F_.f F_.fd ["values"] (spFT K) := (ok_ft (k := k) F_.F B X_).mono (by omega)
  refine okE F scNT (fun vs H Q E h => ?_) (fun cdv A outer s H vs Q E hr h => ?_)
  · obtain ⟨a, ns, rfl, _⟩ := h
    rfl
  · obtain ⟨a, ns, rfl, hS, hz, q⟩ := h
    refine ⟨_, (pss_cons (ps_set (i := 1) scNT.nd rfl (Or.inl rfl) (pe_call GF hr (by rfl) F_.g F_.F.kp F_.b .nil pass0 (pa_cons (pv 0) pa_nil)))
      (pss_one (ps_if (pt_cmp (pc_notN (pv 1))) (pss_one (ps_rs1 S.twice (hr.mono (by omega)) (pv 1) (takes_of rfl rfl rfl rfl))) pss_nil))), ?_⟩
    have hk : (ns.map Sum.inl : List Key).map kV = ns.map V.int := by
      rw [List.map_map]
      rfl
    refine q_as (cl1 rfl ⟨a, ns.map Sum.inl, rfl, by rw [hk]; exact hS, by rw [List.length_map]; exact hz, fun H2 e2 => ?_⟩)
    rw [show ft ([] : List Key) (ns.map Sum.inl) = (ft [] ns).map Sum.inl from ft_inl ns []]
    cases e : ft [] ns with
    | none =>
      rw [e] at q
      exact s_if0 (nn_no rfl (iteF (q H2 e2)))
    | some c =>
      rw [e] at q
      exact s_if0 (nn_yes (v := .int c) rfl (fun z => nomatch z) (iteT ⟨_, rfl, rs_twice q e2 (.int c)⟩))
/-! ### need_pieces -/
abbrev sNP : Stmt := topS 57
abbrev nNP : List Str := ["values", "many", "value"]
theorem scNP : FnScope nNP ["values", "many"] (defScope sNP) := ⟨rfl, rfl, rfl, by decide +kernel, rfl, by decide +kernel, by decide +kernel⟩
def badP (m : Int) (ns : List Int) : Option Int := ns.find? fun i => !(decide (0 ≤ i) && decide (i ≤ m - 1))
def spNP (S : Es P w K mg base) : Sp := fun vs H Q E => ∃ (a : Addr) (ns : List Int) (m : Int), vs = [.ref a, .int m] ∧ Sq K H a (ns.map V.int) ∧
  match badP m ns with
  | none => ∀ H2, Ex H H2 → Q .non H2
  | some c => Rz S H E (.piece (.int c))
theorem badP_step {m : Int} {ns : List Int} {i : Nat} {x : Int} (h : ns[i]? = some x) : badP m (ns.drop i) = if (decide (0 ≤ x) && decide (x ≤ m - 1)) = true then badP m (ns.drop (i + 1)) else some x := by
  have e : ns.drop i = x :: ns.drop (i + 1) := by
    obtain ⟨hi, hx⟩ := List.getElem?_eq_some_iff.mp h
    rw [← hx, List.drop_eq_getElem_cons hi]
  rw [e]
  unfold badP
  rw [List.find?_cons]
  cases h : (decide (0 ≤ x) && decide (x ≤ m - 1)) <;> simp
theorem ok_np {S : Es P w K mg base} {f : Addr} {fd : FuncData} {k : Nat} (F : FnP K "need_pieces" sNP f fd) (B : Bu mg) (W_ : FnA K mg "is_within" sWit ["value", "least", "most"]) (I_ : FnA K mg "is_integer" sIsI ["value"]) : FnOk P w K mg base (L2.CX P w) (k + 3) f fd ["values", "many"] (spNP S) := by
  have GW : FnOk P w K mg base CX0 (k + 2) W_.f W_.fd ["value", "least", "most"] spWit := ok_wit W_.F B I_
  refine okE F scNP (fun vs H Q E h => ?_) (fun cdv A outer s H vs Q E hr h => ?_)
  · obtain ⟨a, ns, m, rfl, _⟩ := h
    rfl
  · obtain ⟨a, ns, m, rfl, hS, q⟩ := h
    refine ⟨_, (pss_one (ps_for (passes_of rfl) rfl (pi_seq (pv 0)) (pg_name (i := 2) scNP.nd rfl (Or.inl rfl)) (pss_one (ps_if (pt_not (pt_val (pe_call GW hr (by rfl) W_.g W_.F.kp W_.b .nil pass0 (pa_cons (pv 2) (pa_cons pe_int (pa_cons (pe_op op_sub (pv 1) pe_int) pa_nil)))))) (pss_one (ps_rs1 S.piece (hr.mono (by omega)) (pv 2) (takes_of rfl rfl rfl rfl))) pss_nil)))), ?_⟩
    refine s_forSq (H0 := H) (H := H) (ev_var rfl) hS (Ex.refl H) (fun i σ' H' => ∃ y, σ' = [some (.ref a), some (.int m), y] ∧ Ex H H' ∧ badP m ns = badP m (ns.drop i))
      (fun H1 e => ⟨none, rfl, e, rfl⟩) (fun i σ' H' _ ⟨_, _, e, _⟩ => e) ?_ ?_
    · rintro i x σ' H' hi ⟨y, rfl, e1, hb⟩
      obtain ⟨n, hn, rfl⟩ := int_at hi
      have hs := badP_step (m := m) hn
      refine s_if0 ⟨_, rfl, _, rfl, m, 1, rfl, rfl, .int n, "int", some 0, some (m - 1), rfl, .int n, ?_⟩
      show ∃ b, V.bl (wit (.int n) (some 0) (some (m - 1))) = .bl b ∧ _
      refine ⟨_, rfl, ?_⟩
      have e : wit (.int n) (some 0) (some (m - 1)) = (decide (0 ≤ n) && decide (n ≤ m - 1)) := rfl
      rw [e]
      cases hv : (decide (0 ≤ n) && decide (n ≤ m - 1)) with
      | true =>
        rw [hv] at hs
        exact iteF ⟨_, rfl, e1, hb.trans hs⟩
      | false =>
        rw [hv] at hs
        rw [hb, hs] at q
        exact iteT ⟨_, rfl, rs_piece q e1 (.int n)⟩
    · rintro σ' H' ⟨y, rfl, e1, hb⟩
      rw [List.length_map, List.drop_length] at hb
      rw [hb] at q
      exact q H' e1
end
end KW
namespace KX
open PySem PySem.Spec PyProof.Rows L2 Evl KR KS
/-! ### insertion sort: what sorted tells -/
section
variable {α : Type} (le : α → α → Bool)
def insO (x : α) : List α → List α
  | [] => [x]
  | y :: l => if le x y = true then x :: y :: l else y :: insO x l
def isort : List α → List α
  | [] => []
  | x :: l => insO le x (isort l)
theorem insO_perm (x : α) : ∀ l : List α, (insO le x l).Perm (x :: l)
  | [] => .refl _
  | y :: l => by
    unfold insO
    split
    · exact .refl _
    · exact ((insO_perm x l).cons y).trans (.swap x y l)
theorem isort_perm : ∀ l : List α, (isort le l).Perm l
  | [] => .refl _
  | x :: l => (insO_perm le x _).trans ((isort_perm l).cons x)
theorem insO_sorted (tr : ∀ a b c, le a b = true → le b c = true → le a c = true) (to : ∀ a b, le a b = true ∨ le b a = true) (x : α) : ∀ l : List α, l.Pairwise (fun a b => le a b = true) → (insO le x l).Pairwise (fun a b => le a b = true)
  | [], _ => List.pairwise_singleton _ _
  | y :: l, h => by
    obtain ⟨h1, h2⟩ := List.pairwise_cons.mp h
    unfold insO
    split
    · rename_i c
      refine List.pairwise_cons.mpr ⟨fun z hz => ?_, h⟩
      rcases List.mem_cons.mp hz with rfl | hz
      · exact c
      · exact tr _ _ _ c (h1 z hz)
    · rename_i c
      refine List.pairwise_cons.mpr ⟨fun z hz => ?_, insO_sorted tr to x l h2⟩
      rcases List.mem_cons.mp ((insO_perm le x l).mem_iff.mp hz) with rfl | hz
      · exact (to z y).resolve_left c
      · exact h1 z hz
theorem isort_sorted (tr : ∀ a b c, le a b = true → le b c = true → le a c = true) (to : ∀ a b, le a b = true ∨ le b a = true) : ∀ l : List α, (isort le l).Pairwise (fun a b => le a b = true)
  | [] => .nil
  | x :: l => insO_sorted le tr to x _ (isort_sorted tr to l)
theorem isort_eq (tr : ∀ a b c, le a b = true → le b c = true → le a c = true) (to : ∀ a b, le a b = true ∨ le b a = true) (an : ∀ a b, le a b = true → le b a = true → a = b) {l m : List α} (hp : m.Perm l) (hs : m.Pairwise (fun a b => le a b = true)) : m = isort le l :=
  List.Perm.eq_of_pairwise (fun a b _ _ => an a b) hs (isort_sorted le tr to l) (hp.trans (isort_perm le l).symm)
end
def leI (a b : Int) : Bool := decide (a ≤ b)
def sortI (l : List Int) : List Int := isort leI l
theorem sortI_eq {l m : List Int} (hp : m.Perm l) (hs : m.Pairwise (· ≤ ·)) : m = sortI l :=
  isort_eq leI (fun a b c h1 h2 => by unfold leI at *; simp at *; omega) (fun a b => by unfold leI; simp; omega) (fun a b h1 h2 => by unfold leI at *; simp at *; omega) hp (hs.imp fun h => decide_eq_true h)
theorem sortI_perm (l : List Int) : (sortI l).Perm l := isort_perm leI l
theorem sortI_sorted (l : List Int) : (sortI l).Pairwise (· ≤ ·) := (isort_sorted leI (fun a b c h1 h2 => by unfold leI at *; simp at *; omega) (fun a b => by unfold leI; simp; omega) l).imp fun h => of_decide_eq_true h
/-- pairs, as lists of two -/
def leP (a b : Int × Int) : Bool := decide (a.1 < b.1 ∨ (a.1 = b.1 ∧ a.2 ≤ b.2))
def sortP (l : List (Int × Int)) : List (Int × Int) := isort leP l
theorem leP_iff {a b : Int × Int} : leP a b = true ↔ a.1 < b.1 ∨ (a.1 = b.1 ∧ a.2 ≤ b.2) := by unfold leP; exact decide_eq_true_iff
theorem sortP_eq {l m : List (Int × Int)} (hp : m.Perm l) (hs : m.Pairwise (fun a b => leP a b = true)) : m = sortP l :=
  isort_eq leP (fun a b c h1 h2 => by rw [leP_iff] at *; omega) (fun a b => by rw [leP_iff, leP_iff]; omega) (fun a b h1 h2 => by rw [leP_iff] at *; exact Prod.ext (by omega) (by omega)) hp hs
theorem sortP_perm (l : List (Int × Int)) : (sortP l).Perm l := isort_perm leP l
theorem sortP_sorted (l : List (Int × Int)) : (sortP l).Pairwise (fun a b => leP a b = true) := isort_sorted leP (fun a b c h1 h2 => by rw [leP_iff] at *; omega) (fun a b => by rw [leP_iff, leP_iff]; omega) l
/-! ### tuples of two ints -/
def PrR (H : Hp) (v : V) (p : Int × Int) : Prop := ∃ b, v = .ref b ∧ H b = some (.tup [.int p.1, .int p.2])
theorem PrR.up {H H' : Hp} {v : V} {p : Int × Int} (e : Ex H H') (h : PrR H v p) : PrR H' v p := let ⟨b, x, y⟩ := h; ⟨b, x, e _ _ y⟩
theorem prs_up {H H' : Hp} {vs : List V} {ps : List (Int × Int)} (e : Ex H H') (h : Paired (PrR H) vs ps) : Paired (PrR H') vs ps := L2.Paired.mapP h fun _ _ r => r.up e
def keyP (H : Hp) (v : V) : Int × Int := match v with
  | .ref b => match H b with
    | some (.tup [.int i, .int j]) => (i, j)
    | _ => (0, 0)
  | _ => (0, 0)
theorem keyP_of {H : Hp} {v : V} {p : Int × Int} (h : PrR H v p) : keyP H v = p := by
  obtain ⟨b, rfl, e⟩ := h
  show (match H b with
    | some (.tup [.int i, .int j]) => (i, j)
    | _ => (0, 0)) = p
  rw [e]
theorem keys_of {H : Hp} : ∀ {vs : List V} {ps : List (Int × Int)}, Paired (PrR H) vs ps → vs.map (keyP H) = ps
  | _, _, .nil => rfl
  | _, _, .cons a b => by rw [List.map_cons, keyP_of a, keys_of b]
theorem prs_of {H : Hp} : ∀ {vs : List V}, (∀ v ∈ vs, PrR H v (keyP H v)) → Paired (PrR H) vs (vs.map (keyP H))
  | [], _ => .nil
  | v :: vs, h => .cons (h v List.mem_cons_self) (prs_of fun u hu => h u (List.mem_cons_of_mem _ hu))
theorem pr_mem {H : Hp} {vs : List V} {ps : List (Int × Int)} (h : Paired (PrR H) vs ps) : ∀ v ∈ vs, PrR H v (keyP H v) := fun v hv => by
  obtain ⟨i, hi⟩ := List.getElem?_of_mem hv
  obtain ⟨p, _, r⟩ := pget h hi
  rw [keyP_of r]
  exact r
/-- sorted(x) of a list of pairs of ints -/
theorem sort_pairs {K : PySem.W.Frag} {H : Hp} {a : Addr} {vs : List V} {ps : List (Int × Int)} {Q : VK} (hS : SqL K H a vs) (hP : Paired (PrR H) vs ps)
    (q : ∀ p ys, H p = none → Paired (PrR H) ys (sortP ps) → Q (.ref p) (upd H p (.lst ys))) : rSortedPO K [.ref a] H Q := by
  refine ⟨a, vs, keyP H, rfl, hS, fun x hx => ?_, fun ys p h1 h2 hp => q p ys hp ?_⟩
  · obtain ⟨b, e, f⟩ := pr_mem hP x hx
    exact ⟨b, e, f⟩
  · have hy : ∀ v ∈ ys, PrR H v (keyP H v) := fun v hv => pr_mem hP v (h2.perm.mem_iff.mp hv)
    have e : ys.map (keyP H) = sortP ps := by
      refine sortP_eq ?_ ?_
      · rw [← keys_of hP]
        exact h2.perm.map _
      · refine List.pairwise_map.mpr (h1.imp fun {x y} h => ?_)
        have h := SrtO.lexB_no.mp h
        rw [leP_iff]
        omega
    have := prs_of hy
    rw [e] at this
    exact this
/-! ### for over a list or tuple, as one walk -/
theorem is_op {K : PySem.W.Frag} {σ : L2.St} {H0 H : Hp} {a : Addr} {xs : List V} {tl : TE} {R : It → Hp → Prop} (h : Ev tl σ H (.ref a)) (hx : Sq K H0 a xs) (e0 : Ex H0 H)
    (q : ∀ (J : It) (G : Hp → Prop), (∀ H', Ex H0 H' → G H') → Walk J xs.length G (YAt xs) → ∀ H', Ex H H' → R J H') : iSeq K tl σ H R := h H (Ex.refl H) _ fun H1 e1 => ⟨a, rfl, by
  rcases hx with hx | hx
  · exact .inl ⟨xs, ex_l (e0.trans e1) hx, q (Itl K a) (fun H => SqL K H a xs) (fun H' e => ex_l e hx) walk_list H1 e1⟩
  · exact .inr ⟨xs, ex_t (e0.trans e1) hx, q (Itt K a) (fun H => SqT K H a xs) (fun H' e => ex_t e hx) walk_tup H1 e1⟩⟩
theorem yes_if {A B : Hp → Prop} {σ : L2.St} {H : Hp} (h : A H) : tYes σ H fun b H3 => if b = true then A H3 else B H3 := by
  show (if true = true then A H else B H)
  rw [if_pos rfl]
  exact h
/-- [y for x in xs for y in x] -/
theorem el_lc2id {K : PySem.W.Frag} {σ : L2.St} {H : Hp} {a : Addr} {xs : List V} {rows : List (List V)} {tl : TE} {j k : Nat} {vs vs1 : List Nat} (h : Ev tl σ H (.ref a)) (hx : Sq K H a xs) (hr : Paired (fun x r => ∃ b, x = .ref b ∧ Sq K H b r) xs rows) (hz : rows.flatten.length ≤ 40000)
    (hw : ∀ x, wipe ((wipe σ vs).set j (some x)) vs = wipe σ vs) (hj : ∀ x, ((wipe σ vs).set j (some x))[j]? = some (some x))
    (hw1 : ∀ x y, wipe ((wipe ((wipe σ vs).set j (some x)) vs1).set k (some y)) vs1 = wipe ((wipe σ vs).set j (some x)) vs1) (hk : ∀ x y, ((wipe ((wipe σ vs).set j (some x)) vs1).set k (some y))[k]? = some (some y)) :
    EvL (tLc2 (iSeq K tl) (gName j) tYes (iSeq K (tVar j)) (gName k) tYes (tVar k) vs vs1) σ H rows.flatten := fun H0 e Q q => by
  refine is_op (h.mono e) (hx.up e) (Ex.refl H0) fun J G hG w H1 e1 => fun D hD => ?_
  refine ⟨fun i m H' => m + i = xs.length ∧ Ex H1 H' ∧ H' D = some (.lst (rows.take i).flatten), ⟨xs.length, rfl, Ex.new hD, upd_same⟩, fun i m H' ⟨hm, e2, hd⟩ => ?_⟩
  rcases Nat.lt_or_ge i xs.length with hlt | hge
  · refine .inr ⟨w.goes i H' hlt (hG H' (e1.trans e2)), fun H'' => Ex H1 H'' ∧ H'' D = some (.lst (rows.take (i + 1)).flatten), fun H'' p => ⟨m - 1, by omega, by omega, p.1, p.2⟩, fun x H'' y => ?_⟩
    obtain ⟨rfl, hxi⟩ := w.yields i H' x H'' hlt (hG H' (e1.trans e2)) y
    obtain ⟨r, hri, b, rfl, hb⟩ := pget hr hxi
    have htake : (rows.take (i + 1)).flatten = (rows.take i).flatten ++ r := by
      rw [List.take_add_one, hri, List.flatten_append]
      simp
    have hlen : (rows.take i).flatten.length + r.length ≤ 40000 := by
      have h1 : (rows.take (i + 1)).flatten.length ≤ rows.flatten.length := by
        conv => rhs; rw [← List.take_append_drop (i + 1) rows, List.flatten_append, List.length_append]
        omega
      rw [htake, List.length_append] at h1
      omega
    refine ⟨hw _, ?_⟩
    refine yes_if ?_
    refine is_op (H0 := H1) (ev_var (hj _)) (hb.up (e.trans e1)) e2 fun J1 G1 hG1 w1 H3 e3 => ?_
    refine ⟨fun t n H4 => n + t = r.length ∧ Ex H1 H4 ∧ H4 D = some (.lst ((rows.take i).flatten ++ r.take t)), ⟨r.length, rfl, e2.trans e3, by rw [List.take_zero, List.append_nil]; exact e3 D _ hd⟩, fun t n H4 ⟨hn, e4, hd4⟩ => ?_⟩
    rcases Nat.lt_or_ge t r.length with ht | ht
    · refine .inr ⟨w1.goes t H4 ht (hG1 H4 e4), fun H5 => Ex H1 H5 ∧ H5 D = some (.lst ((rows.take i).flatten ++ r.take (t + 1))), fun H5 p => ⟨n - 1, by omega, by omega, p⟩, fun y H5 y5 => ?_⟩
      obtain ⟨rfl, hyt⟩ := w1.yields t H4 y H5 ht (hG1 H4 e4) y5
      refine ⟨hw1 _ _, ?_⟩
      refine yes_if ?_
      refine ⟨_, hk _ _, _, hd4, ?_, Ex.mut e4 hD, ?_⟩
      · rw [List.length_append, List.length_take]
        exact sz_lt (by omega)
      · rw [upd_same, List.take_add_one, hyt, List.append_assoc]
        rfl
    · refine .inl ⟨by have : t = r.length := by omega
                      subst this
                      exact w1.stops H4 (hG1 H4 e4), e4, ?_⟩
      rw [hd4, List.take_of_length_le ht, htake]
  · have hi : i = xs.length := by omega
    subst hi
    refine .inl ⟨w.stops H' (hG H' (e1.trans e2)), ?_⟩
    have hall : rows.take xs.length = rows := by rw [Paired.length hr, List.take_length]
    rw [hall] at hd
    exact q D H' (fresh_back e1 hD) (e1.trans e2) hd
end KX
namespace KW
open PySem PySem.Spec PyProof.Rows L2 KR KS KX Evl StX
theorem q_ex {te : TE} {u : TS} {D : Ends} {σ : L2.St} {H : Hp} (h : te σ H fun _ H1 => u D σ H1) : tSeq (tDrop te) u D σ H := h
theorem s_ex {te : TE} {D : Ends} {σ : L2.St} {H : Hp} (h : te σ H fun _ H1 => D.nx σ H1) : tDrop te D σ H := h
def itemsV (d : Va) : List Va := (seqV d).getD []
def ascQ (d : Va) : Int × Int := (min (prV d).1 (prV d).2, max (prV d).1 (prV d).2)
theorem ascV_Q (d : Va) : ascV d = [(ascQ d).1, (ascQ d).2] := rfl
def selfT (d : Va) : Bool := (itemsV d).any fun t => decide ((prV t).1 = (prV t).2)
def endsT (d : Va) : List Int := ((itemsV d).map fun t => [(prV t).1, (prV t).2]).flatten
def tiesM (d : Va) (m : Int) : Except Er (List (Int × Int)) :=
  if (!arePairs d || selfT d) = true then .error (.web "ties") else
  match badP m (endsT d) with
  | some c => .error (.piece (.int c))
  | none => match ft [] ((itemsV d).map ascV) with
    | some c => .error (.twice (tupV c))
    | none => .ok (sortP ((itemsV d).map ascQ))
theorem prR_of {H : Hp} {v : V} {d : Va} (h : TupR H v (ascV d)) : PrR H v (ascQ d) := h
theorem prs_asc {H : Hp} : ∀ {l : List Va} {ys : List V}, Paired (TupR H) ys (l.map ascV) → Paired (PrR H) ys (l.map ascQ)
  | [], _, .nil => .nil
  | d :: l, _, .cons a b => .cons a (prs_asc b)
/-- the rows of a list of pairs -/
theorem rows_of {K : PySem.W.Frag} {H : Hp} : ∀ {l : List Va} {xs : List V}, Paired (Rv H) xs l → l.all isPair = true → Paired (fun x r => ∃ b, x = .ref b ∧ Sq K H b r) xs (l.map fun t => [V.int (prV t).1, V.int (prV t).2])
  | [], _, .nil, _ => .nil
  | d :: l, _, .cons a b, h => by
    rw [List.all_cons, Bool.and_eq_true] at h
    obtain ⟨c, i, j, rfl, hc, hp⟩ := pair_is a h.1
    refine .cons ⟨c, rfl, ?_⟩ (rows_of b h.2)
    show Sq K H c [V.int (prV d).1, V.int (prV d).2]
    rw [hp]
    exact hc.sq
theorem flat_rows : ∀ l : List Va, (l.map fun t => [V.int (prV t).1, V.int (prV t).2]).flatten = ((l.map fun t => [(prV t).1, (prV t).2]).flatten).map V.int
  | [] => rfl
  | d :: l => by
    rw [List.map_cons, List.map_cons, List.flatten_cons, List.flatten_cons, flat_rows l, List.map_append]
    rfl
theorem flat_len : ∀ l : List Va, (l.map fun t => [V.int (prV t).1, V.int (prV t).2]).flatten.length = 2 * l.length
  | [] => rfl
  | d :: l => by
    rw [List.map_cons, List.flatten_cons, List.length_append, flat_len l]
    show 2 + 2 * l.length = 2 * (l.length + 1)
    omega
section
variable {P : Program} {w : World} {K : PySem.W.Frag} {mg : Str → Option Value} {base : Heap}
/-! ### sorted_ties -/
abbrev sST : Stmt := topS 59
abbrev nST : List Str := ["ties", "many", "tie", "piece"]
theorem scST : FnScope nST ["ties", "many"] (defScope sST) := ⟨rfl, rfl, rfl, by decide +kernel, rfl, by decide +kernel, by decide +kernel⟩
def spST (S : Es P w K mg base) : Sp := fun vs H Q E => ∃ (v : V) (d : Va) (m : Int), vs = [v, .int m] ∧ Rv H v d ∧
  match tiesM d m with
  | .error r => Rz S H E r
  | .ok ps => ∀ p ys H2, H p = none → Ex H H2 → H2 p = some (.tup ys) → Paired (PrR H2) ys ps → Q (.ref p) H2
theorem pairs_of {H : Hp} {a : Addr} {xs : List V} {d : Va} {l : List Va} (hl : seqV d = some l) (h : arePairs d = true) : l.all isPair = true := by
  unfold arePairs at h
  rw [hl] at h
  exact h
theorem ok_st {S : Es P w K mg base} {f : Addr} {fd : FuncData} {k : Nat} (F : FnP K "sorted_ties" sST f fd) (B : Bu mg) (P_ : FnA K mg "are_pairs" sPairs ["value"]) (N_ : FnA K mg "need_pieces" sNP ["values", "many"]) (T_ : FnA K mg "need_none_twice" sNT ["values"]) (A_ : FnA K mg "ascending" sAsc ["pairs"])
    (GP : FnOk P w K mg base CX0 (k + 4) P_.f P_.fd ["value"] spPairs) (GN : FnOk P w K mg base (L2.CX P w) (k + 4) N_.f N_.fd ["values", "many"] (spNP S)) (GT : FnOk P w K mg base (L2.CX P w) (k + 4) T_.f T_.fd ["values"] (spNTp S)) (GA : FnOk P w K mg base CX0 (k + 4) A_.f A_.fd ["pairs"] spAsc) :
    FnOk P w K mg base (L2.CX P w) (k + 5) f fd ["ties", "many"] (spST S) := by
  refine okE F scST (fun vs H Q E h => ?_) (fun cdv A outer s H vs Q E hr h => ?_)
  · obtain ⟨v, d, m, rfl, _⟩ := h
    rfl
  · obtain ⟨v, d, m, rfl, r, q⟩ := h
    refine ⟨_, (pss_cons (ps_if (PW.pt (pw_or (pt_not (pt_val (pe_call GP hr (by rfl) P_.g P_.F.kp P_.b .nil pass0 (pa_cons (pv 0) pa_nil)))) (pw_or1 (pt_val (pe_callB (cr_any rfl) rfl B.any boot_any (pa_cons (pe_lc (own := [("tie", 2)]) (g := gName 2) (te := tOp rEq (tOp (rIx K) (tVar 2) (tC (.int 0))) (tOp (rIx K) (tVar 2) (tC (.int 1)))) rfl scST.nd (pi_seq (pv 0)) (blkOk_by (N := nST) (sc := defScope sST) (by decide +kernel)) (fun _ _ _ _ _ => (pg_name (i := 2) scST.nd rfl (Or.inl rfl))) (fun _ _ _ _ _ => pts_nil) (fun _ _ _ _ _ => (pe_cmpR op_eq (pe_ix ix_seq (pv 2) pe_int (fun _ _ => rfl)) (pe_ix ix_seq (pv 2) pe_int (fun _ _ => rfl)) (nomark _)))) pa_nil)))))) (pss_one (ps_rs1 S.web (hr.mono (by omega)) pe_str (takes_of rfl rfl rfl rfl))) pss_nil)
      (pss_cons (ps_expr (pe_call GN hr (by rfl) N_.g N_.F.kp N_.b .nil (passes_call (takes_of rfl rfl rfl rfl) (fun _ _ _ _ h => h)) (pa_cons (pe_lc2 (own := [("tie", 2), ("piece", 3)]) (vs1 := [3]) (g := gName 2) (g1 := gName 3) (wi1 := iSeq K (tVar 2)) rfl scST.nd (pi_seq (pv 0)) (blkOk_by (N := nST) (sc := defScope sST) (by decide +kernel)) (by decide) (fun _ _ _ _ _ => (pg_name (i := 2) scST.nd rfl (Or.inl rfl))) (fun _ _ _ _ _ => pts_nil) (fun _ _ _ _ _ => (pi_seq (pv 2))) (fun _ _ _ _ _ => (pg_name (i := 3) scST.nd rfl (Or.inl rfl))) (fun _ _ _ _ _ => pts_nil) (fun _ _ _ _ _ => (pv 3))) (pa_cons (pv 1) pa_nil))))
      (pss_cons (ps_expr (pe_call GT hr (by rfl) T_.g T_.F.kp T_.b .nil (passes_call (takes_of rfl rfl rfl rfl) (fun _ _ _ _ h => h)) (pa_cons (pe_call GA hr (by rfl) A_.g A_.F.kp A_.b .nil pass0 (pa_cons (pv 0) pa_nil)) pa_nil)))
      (pss_one (ps_ret (pe_tupleOf rfl B.tuple (pe_callB cr_sortedPO rfl B.sorted boot_sorted (pa_cons (pe_call GA hr (by rfl) A_.g A_.F.kp A_.b .nil pass0 (pa_cons (pv 0) pa_nil)) pa_nil)))))))), ?_⟩
    refine q_if0 (or_op (cl1 rfl ⟨v, d, rfl, r, fun H1 e1 => ⟨_, rfl, ?_⟩⟩))
    cases hp : arePairs d with
    | false =>
      have hM : tiesM d m = .error (.web "ties") := by unfold tiesM; rw [hp]; rfl
      rw [hM] at q
      exact iteT (iteT (rs_web q e1))
    | true =>
      refine iteF ?_
      rcases r.seq with ⟨a, xs, l, rfl, hl, hS, hP, hz⟩ | ⟨hl, hT⟩
      · have hall := pairs_of (H := H) (a := a) (xs := xs) hl hp
        have hlen := Paired.length hP
        have hit : itemsV d = l := by unfold itemsV; rw [hl]; rfl
        have comp := el_lcSq (K := K) (σ := [some (.ref a), some (.int m), none, none]) (H := H) (a := a) (xs := xs) (tl := tVar 0) (te := tOp rEq (tOp (rIx K) (tVar 2) (tC (.int 0))) (tOp (rIx K) (tVar 2) (tC (.int 1)))) (t := tYes) (j := 2) (vs := [2]) (fun _ => true) (fun i => V.bl (decide ((prV (l.getD i .non)).1 = (prV (l.getD i .non)).2)))
          (ev_var rfl) hS.sq (by omega) (fun _ => rfl) (fun _ _ _ _ _ => et_yes) (fun i x H1 e1 hx _ H2 e2 Q2 q2 => by
            obtain ⟨d1, hd, r1⟩ := pget hP hx
            obtain ⟨b, i1, j1, rfl, hb, hpr⟩ := pair_is r1 (List.all_eq_true.mp hall d1 (List.mem_of_getElem? hd))
            rw [getD_at hd, hpr] at q2
            have hb2 := (hb.up (e1.trans e2)).sq (K := K)
            have ixs : ∀ (n : Nat) (v : V), [V.int i1, V.int j1][n]? = some v → ∀ Q3 : VK, Q3 v H2 → rIx K (.ref b) (.int (n : Int)) H2 Q3 := fun n v hv Q3 q3 => by
              rcases hb2 with hb2 | hb2
              · exact .inl ⟨b, _, (n : Int), v, rfl, rfl, hb2, atI_nat hv, q3⟩
              · exact .inr (.inl ⟨b, _, (n : Int), v, rfl, rfl, hb2, atI_nat hv, q3⟩)
            refine ⟨_, rfl, ixs 0 _ rfl _ ⟨_, rfl, ixs 1 _ rfl _ ⟨rfl, ?_⟩⟩⟩
            have e : decide (V.int i1 = V.int j1) = decide (i1 = j1) := by
              by_cases h : i1 = j1
              · subst h; rw [decide_eq_true rfl, decide_eq_true rfl]
              · rw [decide_eq_false h, decide_eq_false (fun z => h (V.int.inj z))]
            rw [e]
            exact q2 H2 (Ex.refl H2))
        rw [given_va hlen (fun t => decide ((prV t).1 = (prV t).2))] at comp
        refine cb_op (a_op (comp _ e1 _ fun D H2 hD e2 hd => ⟨D, l.map fun t => decide ((prV t).1 = (prV t).2), rfl, sq_of hd, _, rfl, ?_⟩))
        rw [show ((l.map fun t => decide ((prV t).1 = (prV t).2)).any id) = selfT d from by unfold selfT; rw [hit, List.any_map]; rfl]
        cases hs : selfT d with
        | true =>
          have hM : tiesM d m = .error (.web "ties") := by unfold tiesM; rw [hp, hs]; rfl
          rw [hM] at q
          exact iteT (rs_web q (e1.trans e2))
        | false =>
          refine iteF (nx_op ?_)
          have e12 := e1.trans e2
          have hM : tiesM d m = match badP m (endsT d) with
            | some c => .error (.piece (.int c))
            | none => match ft [] ((itemsV d).map ascV) with
              | some c => .error (.twice (tupV c))
              | none => .ok (sortP ((itemsV d).map ascQ)) := by
            conv => lhs; unfold tiesM
            rw [hp, hs]
            rfl
          have comp2 := el_lc2id (K := K) (σ := [some (.ref a), some (.int m), none, none]) (H := H) (a := a) (xs := xs) (tl := tVar 0) (j := 2) (k := 3) (vs := [2, 3]) (vs1 := [3]) (ev_var rfl) hS.sq (rows_of hP hall) (by rw [flat_len]; omega) (fun _ => rfl) (fun _ => rfl) (fun _ _ => rfl) (fun _ _ => rfl)
          rw [flat_rows] at comp2
          have hends : (l.map fun t => [(prV t).1, (prV t).2]).flatten = endsT d := by unfold endsT; rw [hit]
          rw [hends] at comp2
          refine q_ex (c_op (a_op (comp2 _ e12 _ fun D2 H3 hD2 e3 hd3 => ⟨.int m, rfl, D2, endsT d, m, rfl, .inl (sq_of hd3), ?_⟩)))
          have e13 := e12.trans e3
          cases hb : badP m (endsT d) with
          | some c =>
            rw [hM, hb] at q
            exact q.up e13
          | none =>
            rw [hM, hb] at q
            intro H4 e4
            have e14 := e13.trans e4
            refine q_ex (c_op (a_op (c_op (a_op ⟨.ref a, rfl, a, xs, l, rfl, hS.up e14, L2.Paired.mapP hP fun _ _ r => r.up e14, hz, hall, fun p1 y1 H5 hp1 e5 h5 hP5 => ?_⟩))))
            have e15 := e14.trans e5
            refine ⟨p1, y1, l.map ascV, rfl, .inl (sq_of h5), hP5, by rw [Paired.length hP5, List.length_map]; omega, fun c hc => ?_, ?_⟩
            · obtain ⟨t, _, rfl⟩ := List.mem_map.mp hc
              show 2 ≤ 1000
              decide
            rw [hit] at q
            cases hf : ft [] (l.map ascV) with
            | some c =>
              rw [hf] at q
              exact q.up e15
            | none =>
              rw [hf] at q
              intro H6 e6
              have e16 := e15.trans e6
              refine s_re ?_
              refine cb_op (a_op (c_op (a_op ⟨.ref a, rfl, a, xs, l, rfl, hS.up e16, L2.Paired.mapP hP fun _ _ r => r.up e16, hz, hall, fun p2 y2 H7 hp2 e7 h7 hP7 => ?_⟩)))
              have e17 := e16.trans e7
              refine n_op (sort_pairs (sq_of h7) (prs_asc hP7) fun p3 y3 hp3 hP3 => ?_)
              have e8 : Ex H7 (upd H7 p3 (.lst y3)) := Ex.new hp3
              refine .inl ⟨p3, y3, rfl, sq_of upd_same, fun p4 hp4 => ?_⟩
              have e9 := Ex.new (o := HO.tup y3) hp4
              exact q p4 y3 _ (fresh_back (e17.trans e8) hp4) ((e17.trans e8).trans e9) upd_same (prs_up (e8.trans e9) hP3)
      · unfold arePairs at hp
        rw [hl] at hp
        cases hp
end
end KW
namespace KW
open PySem PySem.Spec PyProof.Rows L2 KR KS KX Evl StX
/-! ### hang_together -/
def push (st : List Int × List Int) (o : Int) : List Int × List Int := if o ∈ st.2 then st else (st.1 ++ [o], st.2 ++ [o])
def rowAt (near : List (List Int)) (p : Int) : List Int := near.getD p.toNat []
def dfs (near : List (List Int)) : Nat → List Int → List Int → List Int × List Int
  | 0, r, s => (r, s)
  | f + 1, r, s => match r with
    | [] => ([], s)
    | x :: l => let st := (rowAt near ((x :: l).getLastD 0)).foldl push ((x :: l).dropLast, s)
      dfs near f st.1 st.2
def hangB (near : List (List Int)) : Bool := decide ((dfs near near.length [0] [0]).2.length = near.length)
/-- the dict of what was seen -/
def seenD (s : List Int) : List (Key × V) := s.map fun x => (Sum.inl x, V.bl true)
theorem seenD_val (s : List Int) (x : Int) : valV (seenD s) (Sum.inl x : Key) = if x ∈ s then some (.bl true) else none := by
  unfold valV seenD
  induction s with
  | nil => rfl
  | cons y s ih =>
    rw [List.map_cons, List.find?_cons]
    by_cases h : y = x
    · subst h
      simp
    · have e : (decide ((Sum.inl y : Key) = Sum.inl x)) = false := decide_eq_false fun z => h (Sum.inl.inj z)
      rw [e]
      have h2 : ¬ x = y := fun z => h z.symm
      simp only [List.mem_cons, h2, false_or]
      exact ih
theorem seenD_put {s : List Int} {x : Int} (h : ¬ x ∈ s) : putK (seenD s) (Sum.inl x) (.bl true) = seenD (s ++ [x]) := by
  have hn : valV (seenD s) (Sum.inl x : Key) = none := by rw [seenD_val, if_neg h]
  rw [putK_new _ hn]
  unfold seenD
  rw [List.map_append]
  rfl
theorem seenD_len (s : List Int) : (seenD s).length = s.length := by unfold seenD; rw [List.length_map]
/-- what a turn keeps -/
structure Hg (n m : Nat) (r s : List Int) : Prop where
  nd : s.Nodup
  bd : ∀ x ∈ s, 0 ≤ x ∧ x < (n : Int)
  sub : ∀ x ∈ r, x ∈ s
  ms : m + s.length = n + r.length
  le : s.length ≤ n
  mn : m ≤ n
theorem card_le : ∀ {n : Nat} {s : List Int}, s.Nodup → (∀ x ∈ s, 0 ≤ x ∧ x < (n : Int)) → s.length ≤ n
  | 0, s, _, bd => by
    cases s with
    | nil => exact Nat.le_refl _
    | cons x s => have := bd x List.mem_cons_self; omega
  | n + 1, s, nd, bd => by
    have h := card_le (n := n) (s := s.erase (n : Int)) (nd.erase _) (fun x hx => by
      obtain ⟨h1, h2⟩ := (nd.mem_erase_iff).mp hx
      have := bd x h2
      omega)
    by_cases hm : (n : Int) ∈ s
    · rw [List.length_erase_of_mem hm] at h
      omega
    · rw [List.erase_of_not_mem hm] at h
      omega
theorem pgetR {α β : Type} {F : α → β → Prop} {xs : List α} {ys : List β} {i : Nat} {y : β} (h : Paired F xs ys) (e : ys[i]? = some y) : ∃ x, xs[i]? = some x ∧ F x y := by
  have hi : i < xs.length := by
    rw [Paired.length h]
    exact (List.getElem?_eq_some_iff.mp e).1
  obtain ⟨z, hz, r⟩ := pget h (List.getElem?_eq_getElem hi)
  rw [e] at hz
  cases hz
  exact ⟨_, List.getElem?_eq_getElem hi, r⟩
theorem q_while' {c : TT} {tb u : TS} {D : Ends} {σ : L2.St} {H : Hp} (W : Nat → L2.St → Hp → Prop) (m0 : Nat) (h0 : W m0 σ H)
    (hs : ∀ m σ H, W m σ H → c σ H fun b H1 => if b = true then ∃ N : L2.St → Hp → Prop, (∀ σ' H', N σ' H' → ∃ m', m' < m ∧ W m' σ' H') ∧ tb { D with nx := N, ct := N, bk := u D } σ H1 else u D σ H1) : tSeq (tWhile c tb) u D σ H := ⟨W, ⟨m0, h0⟩, hs⟩
theorem Hg.push {n m : Nat} {r s : List Int} (h : Hg n m r s) {o : Int} (ho : 0 ≤ o ∧ o < (n : Int)) : Hg n m (push (r, s) o).1 (push (r, s) o).2 := by
  unfold KW.push
  by_cases hm : o ∈ s
  · rw [if_pos hm]
    exact h
  · rw [if_neg hm]
    have nd : (s ++ [o]).Nodup := List.nodup_append.mpr ⟨h.nd, by simp, fun a ha b hb => by
      rw [List.mem_singleton.mp hb]
      intro z
      subst z
      exact hm ha⟩
    have bd : ∀ x ∈ s ++ [o], 0 ≤ x ∧ x < (n : Int) := fun x hx => by
      rcases List.mem_append.mp hx with hx | hx
      · exact h.bd x hx
      · rw [List.mem_singleton.mp hx]
        exact ho
    refine ⟨nd, bd, fun x hx => ?_, ?_, card_le nd bd, h.mn⟩
    · rcases List.mem_append.mp hx with hx | hx
      · exact List.mem_append_left _ (h.sub x hx)
      · exact List.mem_append_right _ hx
    · have := h.ms
      simp only [List.length_append, List.length_singleton]
      omega
def RowR (H : Hp) (v : V) (row : List Int) : Prop := ∃ b, v = .ref b ∧ H b = some (.lst (row.map V.int))
section
variable {P : Program} {w : World} {K : PySem.W.Frag} {mg : Str → Option Value} {base : Heap}
abbrev sHT : Stmt := topS 61
abbrev nHT : List Str := ["near", "reached", "seen", "piece", "other"]
theorem scHT : FnScope nHT ["near"] (defScope sHT) := ⟨rfl, rfl, rfl, by decide +kernel, rfl, by decide +kernel, by decide +kernel⟩
def spHT : Sp := fun vs H Q _ => ∃ (a : Addr) (rs : List V) (near : List (List Int)), vs = [.ref a] ∧ H a = some (.lst rs) ∧ Paired (RowR H) rs near ∧ 1 ≤ near.length ∧ near.length ≤ 1000 ∧ (∀ row ∈ near, ∀ x ∈ row, 0 ≤ x ∧ x < (near.length : Int)) ∧
  ∀ H2, Ex H H2 → Q (.bl (hangB near)) H2
theorem ok_ht {f : Addr} {fd : FuncData} {k : Nat} (F : FnP K "hang_together" sHT f fd) (B : Bu mg) : FnOk P w K mg base CX0 (k + 1) f fd ["near"] spHT := by
  refine ok0 F scHT (fun vs H Q E h => ?_) (fun cdv A outer s H vs Q E hr h => ?_)
  · obtain ⟨a, rs, near, rfl, _⟩ := h
    rfl
  · obtain ⟨a, rs, near, rfl, ha, hP, h1, hz, hb, q⟩ := h
    have hu := hu_of hr
    refine ⟨_, (pss_cons (ps_set (i := 1) scHT.nd rfl (Or.inl rfl) (pe_lst (pa_cons pe_int pa_nil)))
      (pss_cons (ps_set (i := 2) scHT.nd rfl (Or.inl rfl) (pe_disp (pps_cons pe_int pe_bl pps_nil) rfl rfl (by simp) (by decide)))
      (pss_cons (ps_while PassesOwn.never (pt_truth (pv 1) (fun _ => rfl)) (pss_cons (ps_set (i := 3) scHT.nd rfl (Or.inl rfl) (pe_bm0 PySem.F.plainAttrs_list PySem.F.slot_list_pop PySem.F.type_list_pop mt_pop (pv 1)))
      (pss_one (ps_for PassesOwn.never rfl (pi_seq (pe_ix ix_list (pv 0) (pv 3) (fun _ _ => rfl))) (pg_name (i := 4) scHT.nd rfl (Or.inl rfl)) (pss_one (ps_if (pt_cmp (pc_dnotin hu (pv 4) (pv 2))) (pss_cons (ps_dput hu (pv 2) (pv 4) pe_bl rfl)
      (pss_one (ps_expr (pe_bm PySem.F.plainAttrs_list PySem.F.slot_list_append PySem.F.type_list_append mt_append (pv 1) (pa_cons (pv 4) pa_nil))))) pss_nil))))))
      (pss_one (ps_ret (pe_cmpR op_eq (pe_callB call_lenD rfl B.len PySem.boot_len (pa_cons (pv 2) pa_nil)) (pe_callB call_len_seq rfl B.len PySem.boot_len (pa_cons (pv 0) pa_nil)) (nomark _))))))), ?_⟩
    have hlen := Paired.length hP
    refine q_as (l_op (a_op ⟨by show 1 ≤ sizeLine; decide, fun R hR => ?_⟩))
    have e1 : Ex H (upd H R (.lst [.int 0])) := Ex.new hR
    refine q_as (fun S hS => ⟨upd_same, [(Sum.inl 0, .bl true)], rfl, by show 1 ≤ 15; decide, ?_⟩)
    have hSR : S ≠ R := fun z => by rw [z, upd_same] at hS; cases hS
    have hRS : R ≠ S := fun z => hSR z.symm
    have e3 : Ex (upd H R (.lst [.int 0])) (upd (upd (upd H R (.lst [.int 0])) S (.dK [])) S (.dK (mergeK [] [(Sum.inl 0, .bl true)]))) := Ex.mut (Ex.new hS) hS
    have e13 := e1.trans e3
    have hHS : H S = none := fresh_back e1 hS
    have r3 : (upd (upd (upd H R (.lst [.int 0])) S (.dK [])) S (.dK (mergeK [] [(Sum.inl 0, .bl true)]))) R = some (.lst ([(0 : Int)].map V.int)) := by rw [upd_ne hRS, upd_ne hRS, upd_same]; rfl
    have s3 : (upd (upd (upd H R (.lst [.int 0])) S (.dK [])) S (.dK (mergeK [] [(Sum.inl 0, .bl true)]))) S = some (.dK (seenD [0])) := by rw [upd_same]; rfl
    generalize upd (upd (upd H R (.lst [.int 0])) S (.dK [])) S (.dK (mergeK [] [(Sum.inl 0, .bl true)])) = H3 at e3 e13 r3 s3
    refine q_while' (fun m σ' H' => ∃ (r s : List Int) (y3 y4 : Option V), σ' = [some (.ref a), some (.ref R), some (.ref S), y3, y4] ∧ Ex H H' ∧ H' R = some (.lst (r.map V.int)) ∧ H' S = some (.dK (seenD s)) ∧ Hg near.length m r s ∧ dfs near near.length [0] [0] = dfs near m r s)
      near.length ⟨[0], [0], none, none, rfl, e13, r3, s3, ⟨by simp, by simp; omega, by simp, rfl, h1, Nat.le_refl _⟩, rfl⟩ ?_
    rintro m σ' H' ⟨r, s, y3, y4, rfl, e4, hR4, hS4, hg, hd⟩
    refine ⟨.ref R, rfl, !r.isEmpty, .inl ⟨_, sq_of hR4, by rw [List.isEmpty_map]⟩, ?_⟩
    cases r with
    | nil =>
      refine iteF ?_
      refine s_re ⟨.ref S, rfl, ?_⟩
      refine ⟨S, _, rfl, hS4, .ref a, rfl, a, rs, rfl, .inl (sq_of (e4 a _ ha)), rfl, ?_⟩
      have hdf : dfs near m [] s = ([], s) := by cases m <;> rfl
      have e : hangB near = decide (V.int ((seenD s).length : Int) = V.int (rs.length : Int)) := by
        unfold hangB
        rw [hd, hdf, seenD_len, hlen]
        by_cases h : s.length = near.length
        · rw [decide_eq_true h, h, decide_eq_true rfl]
        · rw [decide_eq_false h, decide_eq_false]
          intro z
          have := V.int.inj z
          omega
      rw [← e]
      exact q H' e4
    | cons x l =>
      have hm : m ≠ 0 := by
        have := hg.ms
        have := hg.le
        simp only [List.length_cons] at *
        omega
      obtain ⟨m, rfl⟩ : ∃ j, m = j + 1 := ⟨m - 1, by omega⟩
      have hne : (x :: l) ≠ [] := by simp
      have hlast : (x :: l)[(x :: l).length - 1]? = some ((x :: l).getLastD 0) := by
        rw [← List.getLast?_eq_getElem?, List.getLastD_eq_getLast?, List.getLast?_eq_some_getLast hne]
        rfl
      have hpm : (x :: l).getLastD 0 ∈ s := hg.sub _ (List.mem_of_getElem? hlast)
      have hpb := hg.bd _ hpm
      generalize hp : (x :: l).getLastD 0 = p at hlast hpm hpb
      refine iteT ⟨fun σ2 H2 => ∃ m', m' < m + 1 ∧ ∃ (r s : List Int) (y3 y4 : Option V), σ2 = [some (.ref a), some (.ref R), some (.ref S), y3, y4] ∧ Ex H H2 ∧ H2 R = some (.lst (r.map V.int)) ∧ H2 S = some (.dK (seenD s)) ∧ Hg near.length m' r s ∧ dfs near near.length [0] [0] = dfs near m' r s, fun σ2 H2 h => h, ?_⟩
      have hmap : ((x :: l).map V.int)[((x :: l).map V.int).length - 1]? = some (.int p) := by
        rw [List.length_map, List.getElem?_map, hlast]
        rfl
      refine q_as ⟨.ref R, rfl, .inl ⟨rfl, _, sq_of hR4⟩, R, _, _, rfl, rfl, hR4, hmap, ?_⟩
      have e5 : Ex H (upd H' R (.lst ((x :: l).map V.int).dropLast)) := Ex.mut e4 hR
      have hpn : p.toNat < near.length := by omega
      obtain ⟨row, hrow⟩ : ∃ row, near[p.toNat]? = some row := ⟨near[p.toNat], List.getElem?_eq_getElem hpn⟩
      obtain ⟨v, hv, b, rfl, hbb⟩ := pgetR hP hrow
      have hrb : ∀ x ∈ row, 0 ≤ x ∧ x < (near.length : Int) := hb row (List.mem_of_getElem? hrow)
      have hra : rowAt near p = row := by unfold rowAt; exact getD_at hrow
      have hdl : ((x :: l).map V.int).dropLast = ((x :: l).dropLast).map V.int := by rw [List.map_dropLast]
      rw [hdl] at e5 ⊢
      have hg0 : Hg near.length m (x :: l).dropLast s := ⟨hg.nd, hg.bd, fun z hz => hg.sub z ((List.dropLast_sublist _).mem hz), by
        have := hg.ms
        rw [List.length_dropLast]
        simp only [List.length_cons, Nat.add_sub_cancel] at *
        omega, hg.le, by have := hg.mn; omega⟩
      have hd0 : dfs near (m + 1) (x :: l) s = dfs near m (row.foldl push ((x :: l).dropLast, s)).1 (row.foldl push ((x :: l).dropLast, s)).2 := by
        conv => lhs; unfold dfs
        show (let st := (rowAt near ((x :: l).getLastD 0)).foldl push ((x :: l).dropLast, s); dfs near m st.1 st.2) = _
        rw [hp, hra]
      have hnear : Ev (tOp (rIxL K) (tVar 0) (tVar 3)) [some (.ref a), some (.ref R), some (.ref S), some (.int p), y4] (upd H' R (.lst ((x :: l).dropLast.map V.int))) (.ref b) := fun H1 e Q1 q1 =>
        ⟨_, rfl, _, rfl, a, rs, p, .ref b, rfl, rfl, sq_of (e a _ (e5 a _ ha)), at_of (j := p.toNat) (by omega) hv, q1 H1 (Ex.refl H1)⟩
      have inv0 : ∀ H1, Ex (upd H' R (.lst ((x :: l).dropLast.map V.int))) H1 → H1 R = some (.lst ((x :: l).dropLast.map V.int)) ∧ H1 S = some (.dK (seenD s)) := fun H1 e =>
        ⟨e R _ upd_same, e S _ (by rw [upd_ne hSR]; exact hS4)⟩
      refine s_forSq (H0 := H) hnear (.inl (sq_of hbb)) e5 (fun i σ2 H2 => ∃ (r2 s2 : List Int) (y4 : Option V), (row.take i).foldl push ((x :: l).dropLast, s) = (r2, s2) ∧ σ2 = [some (.ref a), some (.ref R), some (.ref S), some (.int p), y4] ∧ Ex H H2 ∧ H2 R = some (.lst (r2.map V.int)) ∧ H2 S = some (.dK (seenD s2)) ∧ Hg near.length m r2 s2)
        (fun H1 e => ⟨_, _, y4, rfl, rfl, e5.trans e, (inv0 H1 e).1, (inv0 H1 e).2, hg0⟩) (fun i σ' H' _ ⟨_, _, _, _, _, e, _⟩ => e) ?_ ?_
      · rintro i x' σ2 H2 hi ⟨r2, s2, y4, hf, rfl, e6, hR6, hS6, hg6⟩
        obtain ⟨o, ho, rfl⟩ := int_at hi
        have hf2 : (row.take (i + 1)).foldl push ((x :: l).dropLast, s) = push (r2, s2) o := by
          rw [List.take_add_one, ho, List.foldl_append, hf]
          rfl
        have hgp := hg6.push (hrb o (List.mem_of_getElem? ho))
        refine s_if0 ⟨_, rfl, _, rfl, S, _, rfl, DGet.k (k := Sum.inl o) hS6, _, rfl, ?_⟩
        rw [seenD_val]
        unfold push at hgp hf2
        by_cases hin : o ∈ s2
        · rw [if_pos hin] at hgp hf2 ⊢
          exact iteF ⟨r2, s2, _, hf2, rfl, e6, hR6, hS6, hg6⟩
        · rw [if_neg hin] at hgp hf2 ⊢
          have l1 := hg6.le
          have l2 := hg6.ms
          have l3 := hg6.mn
          refine iteT ⟨_, rfl, _, rfl, S, _, rfl, DPut.k (k := Sum.inl o) hS6 ?_, ?_⟩
          · rw [seenD_len]
            exact sz_lt (by omega)
          rw [seenD_put hin]
          have hR7 : upd H2 S (.dK (seenD (s2 ++ [o]))) R = some (.lst (r2.map V.int)) := by rw [upd_ne hRS]; exact hR6
          refine ⟨_, rfl, .inl ⟨rfl, _, sq_of hR7⟩, _, rfl, R, _, _, rfl, rfl, hR7, ?_, ?_⟩
          · rw [List.length_map]
            exact sz_lt (by omega)
          · refine ⟨r2 ++ [o], s2 ++ [o], _, hf2, rfl, Ex.mut (Ex.mut e6 hHS) hR, ?_, ?_, hgp⟩
            · rw [upd_same, List.map_append]
              rfl
            · rw [upd_ne hSR, upd_same]
      · rintro σ2 H2 ⟨r2, s2, y4, hf, rfl, e6, hR6, hS6, hg6⟩
        rw [List.length_map, List.take_length] at hf
        refine ⟨m, by omega, r2, s2, _, _, rfl, e6, hR6, hS6, hg6, ?_⟩
        rw [hd, hd0, hf]
end
end KW
namespace KW
open PySem PySem.Spec PyProof.Rows L2 KR KS KX Evl StX
/-! ### rows of lists -/
/-- at n a list of the new lists as, which hold near -/
structure NearH (H0 H : Hp) (n : Addr) (as : List Addr) (near : List (List Int)) : Prop where
  ls : H n = some (.lst (as.map V.ref))
  row : ∀ (i : Nat) (l : List Int), near[i]? = some l → ∃ a, as[i]? = some a ∧ H a = some (.lst (l.map V.int))
  len : as.length = near.length
  nd : as.Nodup
  fr : ∀ a ∈ as, H0 a = none
  nn : n ∉ as
  fn : H0 n = none
  ex : Ex H0 H
theorem NearH.up {H0 H H' : Hp} {n : Addr} {as : List Addr} {near : List (List Int)} (h : NearH H0 H n as near) (e : Ex H H') : NearH H0 H' n as near :=
  ⟨e _ _ h.ls, fun i l hl => let ⟨a, x, y⟩ := h.row i l hl; ⟨a, x, e _ _ y⟩, h.len, h.nd, h.fr, h.nn, h.fn, h.ex.trans e⟩
theorem NearH.rows {H0 H : Hp} {n : Addr} {as : List Addr} {near : List (List Int)} (h : NearH H0 H n as near) : Paired (RowR H) (as.map V.ref) near := by
  have key : ∀ (as : List Addr) (near : List (List Int)), as.length = near.length → (∀ (i : Nat) (l : List Int), near[i]? = some l → ∃ a, as[i]? = some a ∧ H a = some (.lst (l.map V.int))) → Paired (RowR H) (as.map V.ref) near := by
    intro as
    induction as with
    | nil => intro near hl _; cases near with
      | nil => exact .nil
      | cons x y => simp at hl
    | cons a as ih => intro near hl hr; cases near with
      | nil => simp at hl
      | cons l near =>
        refine .cons ?_ (ih near (by simpa using hl) fun i l' hl' => ?_)
        · obtain ⟨a', e, f⟩ := hr 0 l rfl
          have e : a = a' := Option.some.inj e
          subst e
          exact ⟨a, rfl, f⟩
        · obtain ⟨a', e, f⟩ := hr (i + 1) l' (by simpa using hl')
          exact ⟨a', by simpa using e, f⟩
  exact key as near h.len h.row
def app (near : List (List Int)) (i x : Int) : List (List Int) := near.set i.toNat (rowAt near i ++ [x])
theorem app_len (near : List (List Int)) (i x : Int) : (app near i x).length = near.length := by unfold app; rw [List.length_set]
theorem nodup_ix {as : List Addr} (nd : as.Nodup) {i j : Nat} {a : Addr} (h1 : as[i]? = some a) (h2 : as[j]? = some a) : i = j := by
  obtain ⟨l1, e1⟩ := List.getElem?_eq_some_iff.mp h1
  obtain ⟨l2, e2⟩ := List.getElem?_eq_some_iff.mp h2
  exact (List.getElem_inj nd).mp (e1.trans e2.symm)
/-- near[i].append(x) -/
theorem NearH.app {H0 H : Hp} {n : Addr} {as : List Addr} {near : List (List Int)} (h : NearH H0 H n as near) {i x : Int} (hi : 0 ≤ i ∧ i < (near.length : Int)) :
    ∃ a, (as.map V.ref)[i.toNat]? = some (.ref a) ∧ H a = some (.lst ((rowAt near i).map V.int)) ∧ NearH H0 (upd H a (.lst ((rowAt near i).map V.int ++ [.int x]))) n as (app near i x) := by
  have hlt : i.toNat < near.length := by omega
  obtain ⟨a, ha, hv⟩ := h.row i.toNat near[i.toNat] (List.getElem?_eq_getElem hlt)
  have hra : rowAt near i = near[i.toNat] := by unfold rowAt; exact getD_at (List.getElem?_eq_getElem hlt)
  have ham : a ∈ as := List.mem_of_getElem? ha
  rw [← hra] at hv
  refine ⟨a, by rw [List.getElem?_map, ha]; rfl, hv, ?_⟩
  refine ⟨?_, fun j l hl => ?_, by rw [app_len]; exact h.len, h.nd, h.fr, h.nn, h.fn, Ex.mut h.ex (h.fr a ham)⟩
  · rw [upd_ne (fun z => h.nn (by rw [z]; exact ham))]
    exact h.ls
  · unfold KW.app at hl
    by_cases hj : j = i.toNat
    · subst hj
      rw [List.getElem?_set_self hlt] at hl
      cases hl
      refine ⟨a, ha, ?_⟩
      rw [upd_same, List.map_append]
      rfl
    · rw [List.getElem?_set_ne (Ne.symm hj)] at hl
      obtain ⟨b, hb, hbv⟩ := h.row j l hl
      refine ⟨b, hb, ?_⟩
      rw [upd_ne (fun z => hj (nodup_ix h.nd (by rw [← z]; exact hb) ha))]
      exact hbv
/-- [[] for _ in range(m)] -/
theorem el_empties {ta : TA} {σ : L2.St} {H : Hp} {j : Nat} {vs : List Nat} {m : Int} (h : EvA ta σ H [.int m]) (hm : 0 ≤ m ∧ m ≤ 1000) (hw : ∀ x, wipe ((wipe σ vs).set j (some x)) vs = wipe σ vs) {Q : VK}
    (q : ∀ n as H2, NearH H H2 n as (List.replicate m.toNat []) → Q (.ref n) H2) : tLc (iRng1 ta) (gName j) tYes (tLst tNil) vs σ H Q := h H (Ex.refl H) _ fun H1 e1 => ⟨m, rfl, by omega, by omega, fun D hD => by
  refine lc_it (n := m.toNat) walk_range (fun i H' => Ex H1 H' ∧ ∃ as : List Addr, as.length = i ∧ H' D = some (.lst (as.map V.ref)) ∧ as.Nodup ∧ D ∉ as ∧ ∀ a ∈ as, H1 a = none ∧ H' a = some (.lst [])) ⟨Ex.new hD, [], rfl, upd_same, List.nodup_nil, by simp, by simp⟩ (fun _ _ _ _ => trivial) ?_ ?_
  · rintro i x H' H'' hi ⟨e2, as, hl, hd, nd, hn, hr⟩ ⟨rfl, rfl⟩
    refine ⟨hw _, yes_if ?_⟩
    refine ⟨by show 0 ≤ sizeLine; exact Nat.zero_le _, fun a ha => ?_⟩
    have e3 : Ex H'' (upd H'' a (.lst [])) := Ex.new ha
    have hDa : D ≠ a := ne_of_none hd ha
    refine ⟨_, e3 D _ hd, by rw [List.length_map]; exact sz_lt (by omega), Ex.mut (e2.trans e3) hD, as ++ [a], by rw [List.length_append, hl]; rfl, by rw [upd_same, List.map_append]; rfl, ?_, ?_, ?_⟩
    · refine List.nodup_append.mpr ⟨nd, by simp, fun b hb c hc => ?_⟩
      rw [List.mem_singleton.mp hc]
      intro z
      subst z
      rw [(hr b hb).2] at ha
      cases ha
    · intro z
      rcases List.mem_append.mp z with z | z
      · exact hn z
      · exact hDa (List.mem_singleton.mp z)
    · intro b hb
      rcases List.mem_append.mp hb with hb | hb
      · refine ⟨(hr b hb).1, ?_⟩
        rw [upd_ne (fun z => hn (by rw [← z]; exact hb))]
        exact e3 b _ (hr b hb).2
      · rw [List.mem_singleton.mp hb]
        exact ⟨fresh_back e2 ha, by rw [upd_ne hDa.symm, upd_same]⟩
  · rintro H' ⟨e2, as, hl, hd, nd, hn, hr⟩
    refine q D as H' ⟨hd, fun i l hl2 => ?_, by rw [List.length_replicate]; exact hl, nd, fun a ha => fresh_back e1 (hr a ha).1, hn, fresh_back e1 hD, e1.trans e2⟩
    obtain ⟨h1, h2⟩ := List.getElem?_eq_some_iff.mp hl2
    rw [List.length_replicate] at h1
    rw [List.getElem_replicate] at h2
    subst h2
    have hia : i < as.length := by omega
    exact ⟨as[i], List.getElem?_eq_getElem hia, (hr _ (List.getElem_mem hia)).2⟩⟩
def rawN (m : Int) (ps : List (Int × Int)) : List (List Int) := ps.foldl (fun near p => app (app near p.1 p.2) p.2 p.1) (List.replicate m.toNat [])
theorem fold_len (near : List (List Int)) : ∀ ps : List (Int × Int), (ps.foldl (fun near p => app (app near p.1 p.2) p.2 p.1) near).length = near.length := by
  intro ps
  induction ps generalizing near with
  | nil => rfl
  | cons p ps ih =>
    rw [List.foldl_cons, ih, app_len, app_len]
theorem rawN_len (m : Int) (ps : List (Int × Int)) : (rawN m ps).length = m.toNat := by
  unfold rawN
  rw [fold_len, List.length_replicate]
/-- what holds of all rows -/
def AllB (n : Nat) (near : List (List Int)) : Prop := ∀ row ∈ near, ∀ x ∈ row, 0 ≤ x ∧ x < (n : Int)
theorem AllB.app {n : Nat} {near : List (List Int)} (h : AllB n near) {i x : Int} (hx : 0 ≤ x ∧ x < (n : Int)) : AllB n (app near i x) := fun row hr y hy => by
  unfold KW.app at hr
  rcases List.mem_or_eq_of_mem_set hr with hr | rfl
  · exact h row hr y hy
  · rcases List.mem_append.mp hy with hy | hy
    · unfold rowAt at hy
      rw [List.getD_eq_getElem?_getD] at hy
      cases e : near[i.toNat]? with
      | none => rw [e] at hy; cases hy
      | some l => rw [e] at hy; exact h l (List.mem_of_getElem? e) y hy
    · rw [List.mem_singleton.mp hy]
      exact hx
def LenB (c : Nat) (near : List (List Int)) : Prop := ∀ row ∈ near, row.length ≤ c
theorem LenB.at {c : Nat} {near : List (List Int)} (h : LenB c near) (i : Int) : (rowAt near i).length ≤ c := by
  unfold rowAt
  rw [List.getD_eq_getElem?_getD]
  cases e : near[i.toNat]? with
  | none => exact Nat.zero_le _
  | some l => exact h l (List.mem_of_getElem? e)
theorem LenB.app {c : Nat} {near : List (List Int)} (h : LenB c near) (i x : Int) : LenB (c + 1) (app near i x) := fun row hr => by
  unfold KW.app at hr
  rcases List.mem_or_eq_of_mem_set hr with hr | rfl
  · exact Nat.le_succ_of_le (h row hr)
  · rw [List.length_append]
    exact Nat.succ_le_succ (h.at i)
def nearM (m : Int) (ps : List (Int × Int)) : Except Er (List (List Int)) :=
  if ((rawN m ps).any fun r => decide (4 < r.length)) = true then .error (.web "neighbours")
  else if hangB (rawN m ps) = true then .ok ((rawN m ps).map sortI) else .error (.web "apart")
section
variable {P : Program} {w : World} {K : PySem.W.Frag} {mg : Str → Option Value} {base : Heap}
/-! ### rows_of_neighbours -/
abbrev sRN : Stmt := topS 60
abbrev nRN : List Str := ["ties", "many", "near", "low", "high", "_", "row"]
theorem scRN : FnScope nRN ["ties", "many"] (defScope sRN) := ⟨rfl, rfl, rfl, by decide +kernel, rfl, by decide +kernel, by decide +kernel⟩
def spRN (S : Es P w K mg base) : Sp := fun vs H Q E => ∃ (t : Addr) (ys : List V) (m : Int) (ps : List (Int × Int)), vs = [.ref t, .int m] ∧ H t = some (.tup ys) ∧ Paired (PrR H) ys ps ∧ 1 ≤ m ∧ m ≤ 1000 ∧ ps.length ≤ 1000 ∧ (∀ p ∈ ps, (0 ≤ p.1 ∧ p.1 < m) ∧ (0 ≤ p.2 ∧ p.2 < m)) ∧
  match nearM m ps with
  | .error r => Rz S H E r
  | .ok near => ∀ p zs H2, H p = none → Ex H H2 → H2 p = some (.tup zs) → Paired (TupR H2) zs near → Q (.ref p) H2
theorem ok_rn {S : Es P w K mg base} {f : Addr} {fd : FuncData} {k : Nat} (F : FnP K "rows_of_neighbours" sRN f fd) (B : Bu mg) (G : Gc mg) (H_ : FnA K mg "hang_together" sHT ["near"]) : FnOk P w K mg base (L2.CX P w) (k + 3) f fd ["ties", "many"] (spRN S) := by
  have GH : FnOk P w K mg base CX0 (k + 1) H_.f H_.fd ["near"] spHT := ok_ht H_.F B
  obtain ⟨t4, g4⟩ := G.mn
  refine okE F scRN (fun vs H Q E h => ?_) (fun cdv A outer s H vs Q E hr h => ?_)
  · obtain ⟨t, ys, m, ps, rfl, _⟩ := h
    rfl
  · obtain ⟨t, ys, m, ps, rfl, ht, hP, h1, hm, hz, hb, q⟩ := h
    have hr1 := hr.mono (j := k + 1) (by omega)
    refine ⟨_, (pss_cons (ps_setLc (i := 2) (own := [("_", 5)]) (g := gName 5) rfl scRN.nd rfl rfl rfl (pi_range1 rfl B.range (pa_cons (pv 1) pa_nil)) (blkOk_by (N := nRN) (sc := defScope sRN) (by decide +kernel)) (fun _ _ _ _ _ => (pg_name (i := 5) scRN.nd rfl (Or.inl rfl))) (fun _ _ _ _ _ => pts_nil) (fun _ _ _ _ _ => (pe_lst pa_nil)))
      (Evl.pss_cut (ps_for (passes_of rfl) rfl (pi_seq (pv 0)) (pg_tup rfl (pgs_cons (pg_name (i := 3) scRN.nd rfl (Or.inl rfl)) (pgs_cons (pg_name (i := 4) scRN.nd rfl (Or.inl rfl)) pgs_nil))) (pss_cons (ps_expr (pe_bm PySem.F.plainAttrs_list PySem.F.slot_list_append PySem.F.type_list_append mt_append (pe_ix ix_list (pv 2) (pv 3) (fun _ _ => rfl)) (pa_cons (pv 4) pa_nil)))
      (pss_one (ps_expr (pe_bm PySem.F.plainAttrs_list PySem.F.slot_list_append PySem.F.type_list_append mt_append (pe_ix ix_list (pv 2) (pv 4) (fun _ _ => rfl)) (pa_cons (pv 3) pa_nil))))))
      (pss_cons (ps_if (pt_val (pe_callB (cr_any rfl) rfl B.any boot_any (pa_cons (pe_lc (own := [("row", 6)]) (g := gName 6) (te := tOp (rI0 fun i j => .bl (decide (j < i))) (tCB (rLenS K) (tCons (tVar 6) tNil)) (tC (.int 4))) rfl scRN.nd (pi_seq (pv 2)) (blkOk_by (N := nRN) (sc := defScope sRN) (by decide +kernel)) (fun _ _ _ _ _ => (pg_name (i := 6) scRN.nd rfl (Or.inl rfl))) (fun _ _ _ _ _ => pts_nil) (fun _ _ _ _ _ => (pe_cmpR op_gt (pe_callB call_len_seq rfl B.len PySem.boot_len (pa_cons (pv 6) pa_nil)) (pe_glob (v := V.int 4) rfl g4 ⟨_, rfl⟩) (nomark _)))) pa_nil))) (pss_one (ps_rs1 S.web (hr.mono (by omega)) pe_str (takes_of rfl rfl rfl rfl))) pss_nil)
      (pss_cons (ps_if (pt_not (pt_val (pe_call GH hr1 (by rfl) H_.g H_.F.kp H_.b .nil pass0 (pa_cons (pv 2) pa_nil)))) (pss_one (ps_rs1 S.web (hr.mono (by omega)) pe_str (takes_of rfl rfl rfl rfl))) pss_nil)
      (pss_one (ps_ret (pe_tupleOf rfl B.tuple (pe_lc (own := [("row", 6)]) (g := gName 6) (te := tThen (tCB (rSortSq K) (tCons (tVar 6) tNil)) (kTup K)) rfl scRN.nd (pi_seq (pv 2)) (blkOk_by (N := nRN) (sc := defScope sRN) (by decide +kernel)) (fun _ _ _ _ _ => (pg_name (i := 6) scRN.nd rfl (Or.inl rfl))) (fun _ _ _ _ _ => pts_nil) (fun _ _ _ _ _ => (pe_tupleOf rfl B.tuple (pe_callB cr_sortSq rfl B.sorted boot_sorted (pa_cons (pv 6) pa_nil)))))))))))), ?_⟩
    have hlen := Paired.length hP
    have hm0 : ((m.toNat : Nat) : Int) = m := by omega
    refine q_as (el_empties (ea_cons (ev_var rfl) ea_nil) (by omega) (fun _ => rfl) fun n as H1 hN => ?_)
    have hlenN : ∀ i, ((ps.take i).foldl (fun near p => app (app near p.1 p.2) p.2 p.1) (List.replicate m.toNat [])).length = m.toNat := fun i => by rw [fold_len, List.length_replicate]
    have hA0 : AllB m.toNat (List.replicate m.toNat []) := fun row hr x hx => by rw [List.eq_of_mem_replicate hr] at hx; cases hx
    have hL0 : LenB (2 * 0) (List.replicate m.toNat []) := fun row hr => by rw [List.eq_of_mem_replicate hr]; exact Nat.le_refl _
    refine ⟨fun σ' H' => ∃ y3 y4, σ' = [some (.ref t), some (.int m), some (.ref n), y3, y4, none, none] ∧ NearH H H' n as (rawN m ps) ∧ AllB m.toNat (rawN m ps) ∧ LenB (2 * ps.length) (rawN m ps), ?_, ?_⟩
    · refine s_forSq (H0 := H) (ev_var rfl) (.inr (st_of ht)) hN.ex (fun i σ' H' => ∃ (near : List (List Int)) (y3 y4 : Option V), (ps.take i).foldl (fun near p => app (app near p.1 p.2) p.2 p.1) (List.replicate m.toNat []) = near ∧ σ' = [some (.ref t), some (.int m), some (.ref n), y3, y4, none, none] ∧ NearH H H' n as near ∧ AllB m.toNat near ∧ LenB (2 * i) near)
        (fun H2 e => ⟨_, none, none, rfl, rfl, hN.up e, hA0, hL0⟩) (fun i σ' H' _ ⟨_, _, _, _, _, h, _⟩ => h.ex) ?_ ?_
      · rintro i x σ' H' hi ⟨near, y3, y4, hf, rfl, hN1, hA, hL⟩
        obtain ⟨p, hp, b, rfl, hbt⟩ := pget hP hi
        have hil := (List.getElem?_eq_some_iff.mp hp).1
        obtain ⟨hp1, hp2⟩ := hb p (List.mem_of_getElem? hp)
        have hl0 : near.length = m.toNat := by rw [← hf]; exact hlenN i
        have hf2 : (ps.take (i + 1)).foldl (fun near p => app (app near p.1 p.2) p.2 p.1) (List.replicate m.toNat []) = app (app near p.1 p.2) p.2 p.1 := by
          rw [List.take_add_one, hp, List.foldl_append, hf]
          rfl
        refine ⟨b, _, rfl, st_of (hN1.ex b _ hbt), rfl, _, _, rfl, _, _, rfl, rfl, ?_⟩
        obtain ⟨a1, ha1, hv1, hN2⟩ := hN1.app (i := p.1) (x := p.2) (by omega)
        refine q_ex ⟨.ref n, rfl, .int p.1, rfl, n, _, p.1, .ref a1, rfl, rfl, sq_of hN1.ls, at_of (j := p.1.toNat) (by omega) ha1, .inl ⟨rfl, _, sq_of hv1⟩, _, rfl, a1, _, _, rfl, rfl, hv1, ?_, ?_⟩
        · rw [List.length_map]
          have := hL.at p.1
          exact sz_lt (by omega)
        obtain ⟨a2, ha2, hv2, hN3⟩ := hN2.app (i := p.2) (x := p.1) (by rw [app_len]; omega)
        have hL2 := hL.app p.1 p.2
        refine s_ex ⟨.ref n, rfl, .int p.2, rfl, n, _, p.2, .ref a2, rfl, rfl, sq_of hN2.ls, at_of (j := p.2.toNat) (by omega) ha2, .inl ⟨rfl, _, sq_of hv2⟩, _, rfl, a2, _, _, rfl, rfl, hv2, ?_, ?_⟩
        · rw [List.length_map]
          have := hL2.at p.2
          exact sz_lt (by omega)
        exact ⟨_, _, _, hf2, rfl, hN3, (hA.app (by omega)).app (by omega), hL2.app p.2 p.1⟩
      · rintro σ' H' ⟨near, y3, y4, hf, rfl, hN1, hA, hL⟩
        rw [hlen, List.take_length] at hf
        subst hf
        rw [hlen] at hL
        exact ⟨y3, y4, rfl, hN1, hA, hL⟩
    · rintro σ' H' ⟨y3, y4, rfl, hN2, hA, hL⟩
      have hraw := rawN_len m ps
      generalize hrw : rawN m ps = raw at hN2 hA hL hraw
      have hPr := hN2.rows
      have hl2 := Paired.length hPr
      have comp := el_lcSq (K := K) (σ := [some (.ref t), some (.int m), some (.ref n), y3, y4, none, none]) (H := H') (a := n) (xs := as.map V.ref) (tl := tVar 2) (te := tOp (rI0 fun i j => .bl (decide (j < i))) (tCB (rLenS K) (tCons (tVar 6) tNil)) (tC (.int 4))) (t := tYes) (j := 6) (vs := [6]) (fun _ => true) (fun i => V.bl (decide (4 < (raw.getD i []).length)))
        (ev_var rfl) (.inl (sq_of hN2.ls)) (by omega) (fun _ => rfl) (fun _ _ _ _ _ => et_yes) (fun i x H1 e1 hx _ H2 e2 Q2 q2 => by
          obtain ⟨row, hrow, b, rfl, hb⟩ := pget hPr hx
          rw [getD_at hrow] at q2
          refine ⟨_, rfl, b, _, rfl, .inl (sq_of ((e1.trans e2) b _ hb)), _, _, rfl, rfl, ?_⟩
          have e : decide ((4 : Int) < (((row.map V.int).length : Nat) : Int)) = decide (4 < row.length) := by
            rw [List.length_map]
            by_cases h : 4 < row.length
            · rw [decide_eq_true h, decide_eq_true (by omega)]
            · rw [decide_eq_false h, decide_eq_false (by omega)]
          show Q2 (V.bl (decide ((4 : Int) < (((row.map V.int).length : Nat) : Int)))) H2
          rw [e]
          exact q2 H2 (Ex.refl H2))
      have hval : given (as.map V.ref).length (fun _ => true) (fun i => V.bl (decide (4 < (raw.getD i []).length))) = (raw.map fun r => decide (4 < r.length)).map V.bl := by
        refine given_all (by rw [hl2]; simp) fun i x hx => ?_
        rw [List.getElem?_map, List.getElem?_map] at hx
        cases e : raw[i]? with
        | none => rw [e] at hx; cases hx
        | some r =>
          rw [e] at hx
          rw [getD_at e]
          exact Option.some.inj hx
      rw [hval] at comp
      unfold nearM at q
      rw [hrw] at q
      refine q_if0 (cb_op (a_op (comp _ (Ex.refl H') _ fun D H2 hD e2 hd => ⟨D, raw.map fun r => decide (4 < r.length), rfl, sq_of hd, _, rfl, ?_⟩)))
      rw [show ((raw.map fun r => decide (4 < r.length)).any id) = (raw.any fun r => decide (4 < r.length)) from by rw [List.any_map]; rfl]
      have e02 := hN2.ex.trans e2
      cases ha : (raw.any fun r => decide (4 < r.length)) with
      | true =>
        rw [ha] at q
        exact iteT (rs_web q e02)
      | false =>
        rw [ha] at q
        rw [if_neg Bool.false_ne_true] at q
        refine iteF (nx_op ?_)
        have hN3 := hN2.up e2
        refine q_if0 (cl1 rfl ⟨n, as.map V.ref, raw, rfl, hN3.ls, hN3.rows, by omega, by omega, (by rw [hraw]; exact hA), fun H4 e4 => ⟨_, rfl, ?_⟩⟩)
        have e04 := e02.trans e4
        cases hh : hangB raw with
        | false =>
          rw [hh] at q
          exact iteT (rs_web q e04)
        | true =>
          rw [hh, if_pos rfl] at q
          refine iteF (nx_op (s_re ?_))
          have hN4 := hN3.up e4
          have hP4 := hN4.rows
          have h4 : ∀ row ∈ raw, row.length ≤ 4 := fun row hr => by
            have := List.any_eq_false.mp ha row hr
            simpa using this
          have comp2 := eo_lcSq (K := K) (G := TupG) (σ := [some (.ref t), some (.int m), some (.ref n), y3, y4, none, none]) (H := H4) (a := n) (xs := as.map V.ref) (tl := tVar 2) (te := tThen (tCB (rSortSq K) (tCons (tVar 6) tNil)) (kTup K)) (j := 6) (vs := [6]) (raw.map sortI)
            (by rw [hl2, List.length_map]) (ev_var rfl) (.inl (sq_of hN4.ls)) (by rw [List.length_map]; omega) (fun _ => rfl) (fun i x y H5 e5 hx hy => by
              obtain ⟨row, hrow, b, rfl, hb⟩ := pget hP4 hx
              rw [List.getElem?_map, hrow] at hy
              have hy : sortI row = y := Option.some.inj hy
              subst hy
              intro H6 e6 Q6 q6
              refine ⟨.ref b, rfl, b, row, rfl, .inl (sq_of ((e5.trans e6) b _ hb)), by have := h4 row (List.mem_of_getElem? hrow); omega, fun ns' p3 hp1 hp2 hp3 => ?_⟩
              rw [sortI_eq hp1 hp2]
              refine .inl ⟨p3, _, rfl, sq_of upd_same, fun p4 hp4 => ?_⟩
              exact q6 p4 _ _ (fresh_back (Ex.new hp3) hp4) ((Ex.new hp3).trans (Ex.new hp4)) upd_same rfl)
          refine comp2 H4 (Ex.refl H4) _ fun p zs H5 hp5 e5 h5 hP5 => .inl ⟨p, zs, rfl, sq_of h5, fun p6 hp6 => ?_⟩
          have e6 := Ex.new (o := HO.tup zs) hp6
          exact q p6 zs _ (fresh_back (e04.trans e5) hp6) ((e04.trans e5).trans e6) upd_same (L2.Paired.mapP hP5 fun _ _ r => (tupR_of r).up e6)
end
end KW
namespace KW
open PySem PySem.Spec PyProof.Rows L2 KR KS KX Evl StX
/-! ### sorted_hubs -/
def intV : Va → Int
  | .int i => i
  | _ => 0
def intsV (d : Va) : List Int := (itemsV d).map intV
theorem ints_is {H : Hp} : ∀ {l : List Va} {xs : List V}, Paired (Rv H) xs l → l.all isI = true → xs = (l.map intV).map V.int
  | [], _, .nil, _ => rfl
  | d :: l, _, .cons a b, h => by
    rw [List.all_cons, Bool.and_eq_true] at h
    rw [ints_is b h.2]
    cases d <;> first | (cases a; rfl) | cases h.1
/-- a list of integers -/
theorem nums_seq {H : Hp} {v : V} {d : Va} (r : Rv H v d) (h : isNums d = true) : ∃ (a : Addr), v = .ref a ∧ Seq1 H a ((intsV d).map V.int) ∧ (intsV d).length ≤ 1000 := by
  unfold isNums at h
  rcases r.seq with ⟨a, xs, l, rfl, hl, hS, hP, hz⟩ | ⟨hl, hT⟩
  · rw [hl] at h
    have e := ints_is hP h
    have hi : intsV d = l.map intV := by unfold intsV itemsV; rw [hl]; rfl
    rw [hi, ← e]
    exact ⟨a, rfl, hS, by rw [List.length_map, ← Paired.length hP]; exact hz⟩
  · rw [hl] at h
    cases h
theorem ft_nodup {κ : Type} [DecidableEq κ] : ∀ (l s : List κ), s.Nodup → ft s l = none → (s ++ l).Nodup
  | [], s, h, _ => by rw [List.append_nil]; exact h
  | x :: l, s, h, e => by
    unfold ft at e
    split at e
    · cases e
    · rename_i hx
      have := ft_nodup l (s ++ [x]) (List.nodup_append.mpr ⟨h, by simp, fun a ha b hb => by
        rw [List.mem_singleton.mp hb]
        intro z
        subst z
        exact hx ha⟩) e
      rw [List.append_assoc] at this
      exact this
theorem badP_none {m : Int} {ns : List Int} (h : badP m ns = none) : ∀ x ∈ ns, 0 ≤ x ∧ x ≤ m - 1 := fun x hx => by
  have := List.find?_eq_none.mp h x hx
  simpa using this
def fewH (near : List (List Int)) (ns : List Int) : Bool := ns.any fun h => decide ((rowAt near h).length < 3)
def hubsM (d : Va) (near : List (List Int)) : Except Er (List Int) :=
  if isNums d = true then match badP (near.length : Int) (intsV d) with
    | some c => .error (.piece (.int c))
    | none => match ft [] (intsV d) with
      | some c => .error (.twice (.int c))
      | none => if fewH near (intsV d) = true then .error (.web "hub") else .ok (sortI (intsV d))
  else .error (.web "hubs")
theorem given_ints {l : List Int} (v : Int → V) : given (l.map V.int).length (fun _ => true) (fun i => v (l.getD i 0)) = l.map v := by
  refine given_all (by simp) fun i x hx => ?_
  rw [List.getElem?_map] at hx
  cases e : l[i]? with
  | none => rw [e] at hx; cases hx
  | some n =>
    rw [e] at hx
    rw [getD_at e]
    exact Option.some.inj hx
section
variable {P : Program} {w : World} {K : PySem.W.Frag} {mg : Str → Option Value} {base : Heap}
abbrev sSH : Stmt := topS 62
abbrev nSH : List Str := ["hubs", "near", "hub"]
theorem scSH : FnScope nSH ["hubs", "near"] (defScope sSH) := ⟨rfl, rfl, rfl, by decide +kernel, rfl, by decide +kernel, by decide +kernel⟩
def spSH (S : Es P w K mg base) : Sp := fun vs H Q E => ∃ (v : V) (d : Va) (n : Addr) (zs : List V) (near : List (List Int)), vs = [v, .ref n] ∧ Rv H v d ∧ H n = some (.tup zs) ∧ Paired (TupR H) zs near ∧ near.length ≤ 60 ∧
  match hubsM d near with
  | .error r => Rz S H E r
  | .ok hs => ∀ p H2, H p = none → Ex H H2 → TF H2 p (hs.map V.int) → Q (.ref p) H2
/-- near[x], and its length -/
theorem near_len {H : Hp} {n : Addr} {zs : List V} {near : List (List Int)} {h : Int} (hn : H n = some (.tup zs)) (hP : Paired (TupR H) zs near) (h0 : 0 ≤ h ∧ h < (near.length : Int)) {Q : VK} (q : Q (.int ((rowAt near h).length : Int)) H) {tn th : TE} {σ : L2.St}
    (en : ∀ Q : VK, Q (.ref n) H → tn σ H Q) (eh : ∀ Q : VK, Q (.int h) H → th σ H Q) : tCB (rLenS K) (tCons (tOp (rIx K) tn th) tNil) σ H Q := by
  have hlt : h.toNat < near.length := by omega
  obtain ⟨v, hv, b, rfl, hb⟩ := pgetR hP (List.getElem?_eq_getElem hlt)
  have hr : rowAt near h = near[h.toNat] := by unfold rowAt; exact getD_at (List.getElem?_eq_getElem hlt)
  rw [← hr] at hb
  refine en _ (eh _ (.inr (.inl ⟨n, zs, h, .ref b, rfl, rfl, st_of hn, at_of (j := h.toNat) (by omega) hv, b, _, rfl, .inr (st_of hb), ?_⟩)))
  rw [List.length_map]
  exact q
theorem ok_sh {S : Es P w K mg base} {f : Addr} {fd : FuncData} {k : Nat} (F : FnP K "sorted_hubs" sSH f fd) (B : Bu mg) (G : Gc mg) (P_ : FnA K mg "is_numbers" sNum ["value"]) (N_ : FnA K mg "need_pieces" sNP ["values", "many"]) (T_ : FnA K mg "need_none_twice" sNT ["values"])
    (GP : FnOk P w K mg base CX0 (k + 4) P_.f P_.fd ["value"] spNum) (GN : FnOk P w K mg base (L2.CX P w) (k + 4) N_.f N_.fd ["values", "many"] (spNP S)) (GT : FnOk P w K mg base (L2.CX P w) (k + 4) T_.f T_.fd ["values"] (spNTi S)) :
    FnOk P w K mg base (L2.CX P w) (k + 5) f fd ["hubs", "near"] (spSH S) := by
  obtain ⟨t3, g3⟩ := G.fh
  refine okE F scSH (fun vs H Q E h => ?_) (fun cdv A outer s H vs Q E hr h => ?_)
  · obtain ⟨v, d, n, zs, near, rfl, _⟩ := h
    rfl
  · obtain ⟨v, d, n, zs, near, rfl, r, hn, hPn, hz60, q⟩ := h
    refine ⟨_, (pss_cons (ps_if (pt_not (pt_val (pe_call GP hr (by rfl) P_.g P_.F.kp P_.b .nil pass0 (pa_cons (pv 0) pa_nil)))) (pss_one (ps_rs1 S.web (hr.mono (by omega)) pe_str (takes_of rfl rfl rfl rfl))) pss_nil)
      (pss_cons (ps_expr (pe_call GN hr (by rfl) N_.g N_.F.kp N_.b .nil (passes_call (takes_of rfl rfl rfl rfl) (fun _ _ _ _ h => h)) (pa_cons (pv 0) (pa_cons (pe_callB call_len_seq rfl B.len PySem.boot_len (pa_cons (pv 1) pa_nil)) pa_nil))))
      (pss_cons (ps_expr (pe_call GT hr (by rfl) T_.g T_.F.kp T_.b .nil (passes_call (takes_of rfl rfl rfl rfl) (fun _ _ _ _ h => h)) (pa_cons (pv 0) pa_nil)))
      (pss_cons (ps_if (pt_val (pe_callB (cr_any rfl) rfl B.any boot_any (pa_cons (pe_lc (own := [("hub", 2)]) (g := gName 2) (te := tOp (rI0 fun i j => .bl (decide (i < j))) (tCB (rLenS K) (tCons (tOp (rIx K) (tVar 1) (tVar 2)) tNil)) (tC (.int 3))) rfl scSH.nd (pi_seq (pv 0)) (blkOk_by (N := nSH) (sc := defScope sSH) (by decide +kernel)) (fun _ _ _ _ _ => (pg_name (i := 2) scSH.nd rfl (Or.inl rfl))) (fun _ _ _ _ _ => pts_nil) (fun _ _ _ _ _ => (pe_cmpR op_lt (pe_callB call_len_seq rfl B.len PySem.boot_len (pa_cons (pe_ix ix_seq (pv 1) (pv 2) (fun _ _ => rfl)) pa_nil)) (pe_glob (v := V.int 3) rfl g3 ⟨_, rfl⟩) (nomark _)))) pa_nil))) (pss_one (ps_rs1 S.web (hr.mono (by omega)) pe_str (takes_of rfl rfl rfl rfl))) pss_nil)
      (pss_one (ps_ret (pe_tupF rfl B.tuple (pe_callB cr_sortSq rfl B.sorted boot_sorted (pa_cons (pv 0) pa_nil))))))))), ?_⟩
    refine q_if0 (cl1 rfl (num_any r fun H1 e1 => ⟨_, rfl, ?_⟩))
    have hlen := Paired.length hPn
    unfold hubsM at q
    cases hp : isNums d with
    | false =>
      rw [hp, if_neg Bool.false_ne_true] at q
      exact iteT (rs_web q e1)
    | true =>
      rw [hp, if_pos rfl] at q
      obtain ⟨a, rfl, hS, hzl⟩ := nums_seq r hp
      generalize hns : intsV d = ns at q hS hzl
      refine iteF (nx_op (q_ex (c_op (a_op ⟨.ref a, rfl, ?_⟩))))
      refine a_op ⟨.ref n, rfl, n, zs, rfl, .inr (st_of (e1 n _ hn)), a, ns, (zs.length : Int), rfl, (hS.up e1).sq, ?_⟩
      rw [hlen]
      cases hb : badP (near.length : Int) ns with
      | some c =>
        rw [hb] at q
        exact q.up e1
      | none =>
        rw [hb] at q
        intro H2 e2
        have e12 := e1.trans e2
        have hbd := badP_none hb
        refine q_ex (cl1 rfl ⟨a, ns, rfl, (hS.up e12).sq, hzl, ?_⟩)
        cases hf : ft [] ns with
        | some c =>
          rw [hf] at q
          exact q.up e12
        | none =>
          rw [hf] at q
          intro H3 e3
          have e13 := e12.trans e3
          have hnd : ns.Nodup := by
            have := ft_nodup ns [] List.nodup_nil hf
            simpa using this
          have hcard := card_le hnd (fun x hx => by have := hbd x hx; omega : ∀ x ∈ ns, 0 ≤ x ∧ x < (near.length : Int))
          have comp := el_lcSq (K := K) (σ := [some (.ref a), some (.ref n), none]) (H := H) (a := a) (xs := ns.map V.int) (tl := tVar 0) (te := tOp (rI0 fun i j => .bl (decide (i < j))) (tCB (rLenS K) (tCons (tOp (rIx K) (tVar 1) (tVar 2)) tNil)) (tC (.int 3))) (t := tYes) (j := 2) (vs := [2]) (fun _ => true) (fun i => V.bl (decide ((rowAt near (ns.getD i 0)).length < 3)))
            (ev_var rfl) hS.sq (by rw [List.length_map]; omega) (fun _ => rfl) (fun _ _ _ _ _ => et_yes) (fun i x H1 e1 hx _ H2 e2 Q2 q2 => by
              obtain ⟨h, hh, rfl⟩ := int_at hx
              rw [getD_at hh] at q2
              have hb2 := hbd h (List.mem_of_getElem? hh)
              refine near_len ((e1.trans e2) n _ hn) (L2.Paired.mapP hPn fun _ _ r => r.up (e1.trans e2)) (by omega) ?_ (fun Q q => ⟨_, rfl, q⟩) (fun Q q => ⟨_, rfl, q⟩)
              refine ⟨_, _, rfl, rfl, ?_⟩
              have e : decide ((((rowAt near h).length : Nat) : Int) < 3) = decide ((rowAt near h).length < 3) := by
                by_cases h : (rowAt near h).length < 3
                · rw [decide_eq_true h, decide_eq_true (by omega)]
                · rw [decide_eq_false h, decide_eq_false (by omega)]
              show Q2 (V.bl (decide ((((rowAt near h).length : Nat) : Int) < 3))) H2
              rw [e]
              exact q2 H2 (Ex.refl H2))
          rw [given_ints (fun h => V.bl (decide ((rowAt near h).length < 3)))] at comp
          have hval : ns.map (fun h => V.bl (decide ((rowAt near h).length < 3))) = (ns.map fun h => decide ((rowAt near h).length < 3)).map V.bl := by rw [List.map_map]; rfl
          rw [hval] at comp
          refine q_if0 (cb_op (a_op (comp _ e13 _ fun D H4 hD e4 hd => ⟨D, ns.map fun h => decide ((rowAt near h).length < 3), rfl, sq_of hd, _, rfl, ?_⟩)))
          rw [show ((ns.map fun h => decide ((rowAt near h).length < 3)).any id) = fewH near ns from by unfold fewH; rw [List.any_map]; rfl]
          have e14 := e13.trans e4
          cases hw : fewH near ns with
          | true =>
            rw [hw, if_pos rfl] at q
            exact iteT (rs_web q e14)
          | false =>
            rw [hw, if_neg Bool.false_ne_true] at q
            refine iteF (nx_op (s_re ?_))
            refine ⟨.ref a, rfl, a, ns, rfl, (hS.up e14).sq, by omega, fun ns' p3 hp1 hp2 hp3 => ?_⟩
            rw [sortI_eq hp1 hp2]
            refine ⟨p3, _, rfl, sq_of upd_same, fun p4 o hp4 oc od => ?_⟩
            have e5 := Ex.new (o := HO.lst ((sortI ns).map V.int)) hp3
            have e6 := Ex.new (o := HO.frz o (.tup ((sortI ns).map V.int))) hp4
            exact q p4 _ (fresh_back (e14.trans e5) hp4) ((e14.trans e5).trans e6) ⟨o, upd_same, oc, od⟩
end
end KW
namespace KX
open PySem PySem.Spec PyProof.Rows L2 Evl
/-! ### dict comprehensions whose keys are tuples -/
theorem d_dictSetT {X : Cx} {pins : List (Addr × Obj)} {σ : L2.St} {H : Hp} {s : Shared} {E : Value → Shared → Prop} {D tb : Addr} {kvs : List (List Key × V)} {kk : List Key} {v : V} {r : Value} {Q : Unit → Shared → Prop} (hu : X.A.units + 1 < cLine) (I : Inv X pins σ H s) (hD : H D = some (.dT kvs))
    (hk : H tb = some (.tup (kk.map kV))) (hl : kvs.length < sizeLine) (rv : RelV v r) (h : ∀ s', Inv X pins σ (upd H D (.dT (putK kvs kk v))) s' → Q () s') : wpAny (model X.prog X.w) X.A (dictSet D (.ref tb) r) Q E s := by
  obtain ⟨z, hd, xs, rel, dd⟩ := dt_of I.hok hD
  have hz : xs.length ≤ sizeLine := (Paired.length rel) ▸ z
  have hn : (putK kvs kk v).length ≤ sizeLine := Nat.le_trans (length_putK kvs kk v) hl
  refine wpAny_dictSet_heap (hsz := hz) (show X.A.units < cLine by omega) (key_of I.hok hk) dd fun h' dd' hs => h _ ?_
  obtain ⟨q, es, ep, hq, h2, h3, h4, _, h5⟩ := dd'
  refine d_write I (by rw [hD]; exact True.intro) hs ⟨q, hq⟩ ⟨hn, hd, _, (rel.put kk hk rv).keeps fun c ys ec => ?_, q, es, ep, hq, h2, h3, h4, h5⟩
  rw [upd_ne (ne_of ec hD (fun z => nomatch z))]
  exact ec
def tDcT (wi : TI) (g : TG) (tt : TT) (tk tv : TE) (vs : List Nat) : TE := fun σ H Q => wi σ H fun J H1 => ∀ D, H1 D = none → ∃ W : Nat → Nat → Hp → Prop, (∃ m, W 0 m (upd H1 D (.dT []))) ∧ ∀ i m H, W i m H →
  (J.stop i H ∧ Q (.ref D) H) ∨ (J.go i H ∧ ∃ Nx : Hp → Prop, (∀ H', Nx H' → ∃ m', m' < m ∧ W (i + 1) m' H') ∧ ∀ x H', J.yld i H x H' → g x (wipe σ vs) H' fun σ2 H2 => wipe σ2 vs = wipe σ vs ∧ tt σ2 H2 fun b H3 =>
    if b = true then tk σ2 H3 fun y H4 => tv σ2 H4 fun z H5 => ∃ (kvs : List (List Key × V)) (kk : List Key) (tb : Addr), y = .ref tb ∧ H5 tb = some (.tup (kk.map kV)) ∧ H5 D = some (.dT kvs) ∧ kvs.length < sizeLine ∧ Nx (upd H5 D (.dT (putK kvs kk z))) else Nx H3)
section
variable {X : Cx}
theorem dcT_core {pins : List (Addr × Obj)} {s : Shared} {σ : L2.St} {H : Hp} {Q : VK} {kx vx tg iter : Expr} {ifs : List Expr} {scope : Scope} {own : List (Str × Nat)} {pos pos' : Pos} {wi : TI} {g : TG} {tt : TT} {tk tv : TE} {use : Option (Value → Sem Unit)} {Qf : Value → Shared → Prop}
    (hu : X.A.units + 1 < cLine) (hc : X.calm = true) (hN : X.N.Nodup) (I : Inv X pins σ H s) (hi : PI X tg iter wi) (ok : BlkOk X.N X.env.scope scope own)
    (hg : ∀ (s : Shared) (H : Hp) (C : Addr) (cl : List (Str × Addr)) (fp : List Addr), PG (X.blk s H scope (compEnvC scope cl C X.env) fp) tg g) (ht : ∀ (s : Shared) (H : Hp) (C : Addr) (cl : List (Str × Addr)) (fp : List Addr), PTs (X.blk s H scope (compEnvC scope cl C X.env) fp) ifs tt)
    (hk : ∀ (s : Shared) (H : Hp) (C : Addr) (cl : List (Str × Addr)) (fp : List Addr), PE (X.blk s H scope (compEnvC scope cl C X.env) fp) kx tk)
    (he : ∀ (s : Shared) (H : Hp) (C : Addr) (cl : List (Str × Addr)) (fp : List Addr), PE (X.blk s H scope (compEnvC scope cl C X.env) fp) vx tv) (hs : ∀ x, foldedSetIterable iter X.env x = pure x)
    (h : tDcT wi g tt tk tv (own.map (·.2)) σ H Q)
    (hRR : ∀ D C s' m H', Inv X pins σ H' s' → Q (.ref D) H' → s'.heap.Ns C m → FpOk X pins H' C → compPost (model X.prog X.w) X.A X.xe use Qf (.ref D) C (.ok .next) s') :
    wpAny (model X.prog X.w) X.A (comprehension (.DictComp kx vx [⟨tg, iter, ifs, 0⟩] scope pos) scope X.env pos' newDict false (eval iter X.env) use) Qf X.xe s := by
  have hfree : ∀ y ∈ scope.names, y.2 = .free → ∃ c, X.env.cells.lookup y.1 = some c := fun y hy e => by
    rcases ok.free y hy e with k | k
    · exact I.ok.has _ (.inl k)
    · exact I.ok.has _ (.inr k)
  refine wpAny_comprehension_free (use := use) rfl hs (closure_ok hfree) ok.kind (fun y hy e => by rw [ok.uniq y hy, e])
    (thn (hi.run pins s σ H _ I h) fun xv s1 hx => thn hx fun itv s2 h2 => ?_)
  obtain ⟨it, fp, tn, J, H2, e, I2, T, st2, f2, q⟩ := h2
  subst e
  refine wpAny_newObj_type (newEnv_comp ?_)
  generalize hD : s2.heap.objs.size = D
  have hDn : H2 D = none := I2.hok.fresh (Nat.le_of_eq hD)
  obtain ⟨W, ⟨m0, w0⟩, turn⟩ := q D hDn
  -- the new list
  generalize hs3 : ({ s2 with heap := s2.heap.push { cls := .type "dict", data := .dict #[] } } : Shared) = s3
  have I3 : Inv X pins σ (upd H2 D (.dT [])) s3 := by
    rw [← hs3]
    refine I2.laid (t' := s2.toks) (fun b o e => Heap.get?_push_of_some _ e) (Nat.le_of_eq hD) ?_
    rw [← hD]
    exact dt_empty s2.heap I2.big
  have h3 : s3.heap = s2.heap.push { cls := .type "dict", data := .dict #[] } := by rw [← hs3]
  have sz : ∀ b ∈ fp, b < s2.heap.objs.size := fun b hb => by
    obtain ⟨o, e, _⟩ := T.obj _ _ st2 b hb
    exact Heap.lt_size e
  have f3 : ∀ b ∈ fp, FpOk X pins (upd H2 D (.dT [])) b ∧ b < s3.heap.objs.size := fun b hb => by
    have hlt := sz b hb
    refine ⟨⟨?_, (f2 b hb).2⟩, by rw [h3, Heap.size_push]; exact Nat.lt_succ_of_lt hlt⟩
    rw [upd_ne (by rw [← hD]; exact Nat.ne_of_lt hlt)]
    exact (f2 b hb).1
  have st3 : tn 0 s3.heap := T.keep _ _ _ st2 fun b _ o e => by rw [h3]; exact Heap.get?_push_of_some _ e
  have I4 := block_start I3 ok hN f3
  have pg := hg s3 (upd H2 D (.dT [])) s3.heap.objs.size (cellsFrom (s3.heap.objs.size + 1) scope.names (cloFrom X.env.cells scope.names [])) fp
  have pt := ht s3 (upd H2 D (.dT [])) s3.heap.objs.size (cellsFrom (s3.heap.objs.size + 1) scope.names (cloFrom X.env.cells scope.names [])) fp
  have pk := hk s3 (upd H2 D (.dT [])) s3.heap.objs.size (cellsFrom (s3.heap.objs.size + 1) scope.names (cloFrom X.env.cells scope.names [])) fp
  have pe := he s3 (upd H2 D (.dT [])) s3.heap.objs.size (cellsFrom (s3.heap.objs.size + 1) scope.names (cloFrom X.env.cells scope.names [])) fp
  show codeAny _ _ (.compStart (.DictComp kx vx [⟨tg, iter, ifs, 0⟩] scope pos) 0 (.ref it) (.ref D) (compEnvC scope (cellsFrom (s3.heap.objs.size + 1) scope.names (cloFrom X.env.cells scope.names [])) s3.heap.objs.size X.env)) (compPost (model X.prog X.w) X.A X.xe use Qf (.ref D) s3.heap.objs.size) { s3 with heap := pushCells (s3.heap.push { cls := .type "dict", data := .dict #[] }) scope.names }
  have nfp : ∀ b ∈ fp, (upd H2 D (.dT [])) b = none := fun b hb => (f3 b hb).1.1
  generalize hce : compEnvC scope (cellsFrom (s3.heap.objs.size + 1) scope.names (cloFrom X.env.cells scope.names [])) s3.heap.objs.size X.env = ce at I4 pg pt pk pe ⊢
  have cL : ce.locals = s3.heap.objs.size := by subst hce; rfl
  generalize hH3 : upd H2 D (.dT []) = H3 at I3 I4 pg pt pk pe w0 nfp f3
  generalize hs4 : ({ s3 with heap := pushCells (s3.heap.push { cls := .type "dict", data := .dict #[] }) scope.names } : Shared) = s4 at I4 ⊢
  have st4 : tn 0 s4.heap := T.keep _ _ _ st3 fun b _ o e => by rw [← hs4]; exact pushCells_keeps _ _ _ _ (Heap.get?_push_of_some _ e)
  have stat : ∀ {σ' : L2.St} {H' : Hp} {s' : Shared}, Inv (X.blk s3 H3 scope ce fp) [] σ' H' s' → (∀ b ∈ fp, H' b = none) → ∀ b ∈ fp, FpOk (X.blk s3 H3 scope ce fp) [] H' b := fun {σ' H' s'} I' hn b hb =>
    ⟨hn b hb, (I'.ok.exf b hb).1, I'.ok.exfs b hb, .inl hb, fun x c e => (I'.ok.exf b hb).2 x c e, fun p hp => absurd (show p ∈ ([] : List (Addr × Obj)) ++ [] from hp) (by simp)⟩
  have loop : codeAny (model X.prog X.w) X.A (.compLoop (.DictComp kx vx [⟨tg, iter, ifs, 0⟩] scope pos) 0 (.ref it) (.ref D) ce) (compPost (model X.prog X.w) X.A X.xe use Qf (.ref D) s3.heap.objs.size) s4 := by
    refine compLoop_anyD (fun n s' => ∃ i H', Inv (X.blk s3 H3 scope ce fp) [] (wipe σ (own.map (·.2))) H' s' ∧ tn i s'.heap ∧ (∀ b ∈ fp, H' b = none) ∧ W i n H') ?_ m0 ⟨0, H3, I4, st4, nfp, w0⟩
    rintro n s5 ⟨i, H5, I5, st5, n5, w5⟩
    rcases turn i n H5 w5 with ⟨stop, qq⟩ | ⟨go, Nx, hNx, step⟩
    · have td := T.done (X.blk s3 H3 scope ce fp) rfl rfl rfl hc i [] s5 _ H5 (fun _ _ => False) I5 (stat I5 n5) st5 stop
      refine thnF td fun r s6 ⟨hr, I6⟩ => ?_
      subst hr
      -- back in the def's context
      have I7 : Inv X pins σ H5 s6 := I3.call' (ch := fp) I6.os I6.base I6.hok I6.bare fun b hb => ⟨(f3 b hb).1.2.2.2.1, (f3 b hb).1.2.1, (f3 b hb).1.2.2.2.2.1, (f3 b hb).1.2.2.2.2.2⟩
      have nC : H5 s3.heap.objs.size = none := by
        have z : H5 ce.locals = none := I6.free
        rw [cL] at z
        exact z
      obtain ⟨m, hn, _⟩ := I6.loc
      have hn : s6.heap.Ns ce.locals m := hn
      rw [cL] at hn
      exact hRR D s3.heap.objs.size s6 m H5 I7 qq hn (I3.fpOk (Nat.le_refl _) nC)
    · have ti := T.item (X.blk s3 H3 scope ce fp) rfl rfl rfl hc i [] s5 _ H5 (fun _ _ => False) I5 (stat I5 n5) st5 go
      refine thnF ti fun r s6 ⟨u, hr, h6⟩ => ?_
      subst hr
      refine thnF h6 fun _ s7 ⟨x, H7, I7, r7, y7, st7, n7⟩ => ?_
      have I7' := I7.pinned (stat I7 n7) (T.obj _ _ st7)
      refine thnF (pg.run _ s7 _ H7 x u _ I7' r7 (step x H7 y7)) fun _ s8 ⟨σ8, H8, I8, hw8, q8⟩ => ?_
      refine thnF (pt.run _ s8 σ8 H8 _ I8 q8) fun b s9 ⟨H9, I9, q9⟩ => ?_
      -- the turn's end
      have fin : ∀ {s' : Shared} {H' : Hp}, Inv (X.blk s3 H3 scope ce fp) ([] ++ pinsAt fp s7.heap) σ8 H' s' → Nx H' → ∃ m, m < n ∧ ∃ i H', Inv (X.blk s3 H3 scope ce fp) [] (wipe σ (own.map (·.2))) H' s' ∧ tn i s'.heap ∧ (∀ b ∈ fp, H' b = none) ∧ W i m H' := fun {s' H'} I' nx => by
        obtain ⟨m', hm, w'⟩ := hNx H' nx
        have pin' : ∀ b ∈ fp, ∀ o, s7.heap.get? b = some o → s'.heap.get? b = some o ∧ H' b = none := fun b hb o e =>
          let z := I'.pin (b, o) (List.mem_append_right _ (List.mem_append_right _ (mem_pinsAt hb e)))
          ⟨z.1, z.2.1⟩
        have hl : (wipe σ (own.map (·.2))).length = σ8.length := by rw [← hw8, wipe_length]
        refine ⟨m', hm, i + 1, H', (I'.unpinned (pins := [])).weak hl (fun j v e => ?_), T.keep _ _ _ st7 fun b hb o e => (pin' b hb o e).1, fun b hb => ?_, w'⟩
        · rw [← hw8] at e
          exact (wipe_some e).1
        · obtain ⟨o, e, _⟩ := T.obj _ _ st7 b hb
          exact (pin' b hb o e).2
      cases b with
      | false =>
        simp only [Bool.false_eq_true, if_false] at q9 ⊢
        exact fin I9 q9
      | true =>
        simp only [if_true] at q9 ⊢
        refine thnF (pk.run _ s9 σ8 H9 _ I9 q9) fun z s10 ⟨yk, H10, I10, r10, q10⟩ => ?_
        refine thnF (pe.run _ s10 σ8 H10 _ I10 q10) fun z2 s11 ⟨yv, H11, I11, r11, kvs, kk, tb, ek, hkb, hD11, hz11, nx⟩ => ?_
        subst ek
        cases (show z = Value.ref tb from r10)
        exact d_dictSetT (X := X.blk s3 H3 scope ce fp) hu I11 hD11 hkb hz11 r11 fun s12 I12 => fin I12 nx
  exact codeAny_compStart_dict loop (T.self X.A 0 _ _ _ st4 loop)
/-- x = {k: v for ..}, x a plain local name -/
theorem ps_setDcT {i : Nat} {y : Str} {py : Pos} {kx vx tg iter : Expr} {ifs : List Expr} {scope : Scope} {own : List (Str × Nat)} {pos spos : Pos} {wi : TI} {g : TG} {tt : TT} {tk tv : TE} (hu : X.A.units + 1 < cLine) (hc : X.calm = true) (hN : X.N.Nodup) (hy : X.N[i]? = some y) (hyl : X.env.scope.names.lookup y = some .local)
    (hsw : swapsWith (.DictComp kx vx [⟨tg, iter, ifs, 0⟩] scope pos) (some (.Name y py)) spos.line X.env = pure true) (hi : PI X tg iter wi) (ok : BlkOk X.N X.env.scope scope own)
    (hg : ∀ (s : Shared) (H : Hp) (C : Addr) (cl : List (Str × Addr)) (fp : List Addr), PG (X.blk s H scope (compEnvC scope cl C X.env) fp) tg g) (ht : ∀ (s : Shared) (H : Hp) (C : Addr) (cl : List (Str × Addr)) (fp : List Addr), PTs (X.blk s H scope (compEnvC scope cl C X.env) fp) ifs tt)
    (hk : ∀ (s : Shared) (H : Hp) (C : Addr) (cl : List (Str × Addr)) (fp : List Addr), PE (X.blk s H scope (compEnvC scope cl C X.env) fp) kx tk)
    (he : ∀ (s : Shared) (H : Hp) (C : Addr) (cl : List (Str × Addr)) (fp : List Addr), PE (X.blk s H scope (compEnvC scope cl C X.env) fp) vx tv) (hs : ∀ x, foldedSetIterable iter X.env x = pure x := by intro _; rfl) :
    PS X (.Assign [.Name y py] (.DictComp kx vx [⟨tg, iter, ifs, 0⟩] scope pos) spos) (tAsg (tDcT wi g tt tk tv (own.map (·.2))) (gName i)) := by
  refine ⟨fun pins s σ H D I h => ?_⟩
  have h2 : tDcT wi g tt tk tv (own.map (·.2)) σ H (fun x H1 => gName i x σ H1 D.nx) := h
  rw [exec_Assign_Name_used _ _ _ _ hsw]
  refine wpAny_bind (wpAny_standAt (wpAny_bind ?_))
  show wpAny _ X.A (do let _ ← comprehension (.DictComp kx vx [⟨tg, iter, ifs, 0⟩] scope pos) scope X.env (firstIterPos [⟨tg, iter, ifs, 0⟩] pos) newDict false (eval iter X.env) (some (assign (.Name y py) X.env))) _ _ s
  refine wpAny_bind (thn (dcT_core (Qf := fun _ s' => SP X pins D .next s') hu hc hN I hi ok hg ht hk he hs h2 fun L C s3 m H3 I3 q3 hn f => ?_) fun _ s4 hq => wpAny_pure (wpAny_pure hq))
  show wpAny _ _ (assign (.Name y py) X.env (.ref L)) _ _ _
  refine wpAny_assign_Name (store_ok2 (v := V.ref L) I3 hN hy (.inl hyl) rfl (fun s5 I5 ⟨a, sb, ha⟩ => ?_) (.inr hyl))
  obtain ⟨f0, f1, f2, f3, f4, f5⟩ := f
  have hCa : C ≠ a := ha.elim (fun z => z ▸ f1) (fun z e => f4 y a z e.symm)
  exact ⟨m, hn.sameBut sb hCa, fun h6 sb6 => ⟨_, H3, I5.turned (t' := s5.toks) (fun b o hb e => (sb6.2 b hb).trans e) f0 f1 f3 f4 f5, q3⟩⟩
/-- x = {k: v for ..}, x a plain local name -/
theorem ps_setDc {i : Nat} {y : Str} {py : Pos} {kx vx tg iter : Expr} {ifs : List Expr} {scope : Scope} {own : List (Str × Nat)} {pos spos : Pos} {wi : TI} {g : TG} {tt : TT} {tk tv : TE} (hc : X.calm = true) (hN : X.N.Nodup) (hy : X.N[i]? = some y) (hyl : X.env.scope.names.lookup y = some .local)
    (hsw : swapsWith (.DictComp kx vx [⟨tg, iter, ifs, 0⟩] scope pos) (some (.Name y py)) spos.line X.env = pure true) (hi : PI X tg iter wi) (ok : BlkOk X.N X.env.scope scope own)
    (hg : ∀ (s : Shared) (H : Hp) (C : Addr) (cl : List (Str × Addr)) (fp : List Addr), PG (X.blk s H scope (compEnvC scope cl C X.env) fp) tg g) (ht : ∀ (s : Shared) (H : Hp) (C : Addr) (cl : List (Str × Addr)) (fp : List Addr), PTs (X.blk s H scope (compEnvC scope cl C X.env) fp) ifs tt)
    (hk : ∀ (s : Shared) (H : Hp) (C : Addr) (cl : List (Str × Addr)) (fp : List Addr), PE (X.blk s H scope (compEnvC scope cl C X.env) fp) kx tk)
    (he : ∀ (s : Shared) (H : Hp) (C : Addr) (cl : List (Str × Addr)) (fp : List Addr), PE (X.blk s H scope (compEnvC scope cl C X.env) fp) vx tv) (hs : ∀ x, foldedSetIterable iter X.env x = pure x := by intro _; rfl) :
    PS X (.Assign [.Name y py] (.DictComp kx vx [⟨tg, iter, ifs, 0⟩] scope pos) spos) (tAsg (tDc wi g tt tk tv (own.map (·.2))) (gName i)) := by
  refine ⟨fun pins s σ H D I h => ?_⟩
  have h2 : tDc wi g tt tk tv (own.map (·.2)) σ H (fun x H1 => gName i x σ H1 D.nx) := h
  rw [exec_Assign_Name_used _ _ _ _ hsw]
  refine wpAny_bind (wpAny_standAt (wpAny_bind ?_))
  show wpAny _ X.A (do let _ ← comprehension (.DictComp kx vx [⟨tg, iter, ifs, 0⟩] scope pos) scope X.env (firstIterPos [⟨tg, iter, ifs, 0⟩] pos) newDict false (eval iter X.env) (some (assign (.Name y py) X.env))) _ _ s
  refine wpAny_bind (thn (dc_core (Qf := fun _ s' => SP X pins D .next s') hc hN I hi ok hg ht hk he hs h2 fun L C s3 m H3 I3 q3 hn f => ?_) fun _ s4 hq => wpAny_pure (wpAny_pure hq))
  show wpAny _ _ (assign (.Name y py) X.env (.ref L)) _ _ _
  refine wpAny_assign_Name (store_ok2 (v := V.ref L) I3 hN hy (.inl hyl) rfl (fun s5 I5 ⟨a, sb, ha⟩ => ?_) (.inr hyl))
  obtain ⟨f0, f1, f2, f3, f4, f5⟩ := f
  have hCa : C ≠ a := ha.elim (fun z => z ▸ f1) (fun z e => f4 y a z e.symm)
  exact ⟨m, hn.sameBut sb hCa, fun h6 sb6 => ⟨_, H3, I5.turned (t' := s5.toks) (fun b o hb e => (sb6.2 b hb).trans e) f0 f1 f3 f4 f5, q3⟩⟩
end
end KX
namespace KW
open PySem PySem.Spec PyProof.Rows L2 KR KS KX Evl StX
/-! ### can_be_stiff -/
def endOk (hubs : List Int) (near : List (List Int)) (e : Int) : Bool := !(decide (e ∈ hubs) || !(decide ((rowAt near e).length = 2) || decide ((rowAt near e).length = 3)))
def stiffB (ends hubs : List Int) (near : List (List Int)) : Bool := (ends.all fun e => endOk hubs near e) && (ft [] ends).isNone
theorem seenD_nd : ∀ l : List Int, l.Nodup → True := fun _ _ => trivial
/-- {x: True for x in xs}: xs unlike integers -/
def dedupS (l : List Int) : List (Key × V) := l.foldl (fun kvs x => putK kvs (Sum.inl x) (.bl true)) []
theorem isn_op {te : TE} {σ : L2.St} {H : Hp} {Q : VK} (h : te σ H fun x H1 => Q (.bl (decide (x = .non))) H1) : tIsN te σ H Q := h
theorem op_test {te : TE} {σ : L2.St} {H : Hp} {Q : Bool → Hp → Prop} (h : te σ H fun x H1 => ∃ k, x = .bl k ∧ Q k H1) : tTest te σ H Q := h
theorem dedupS_val (l : List Int) (x : Int) : valV (dedupS l) (Sum.inl x : Key) = if x ∈ l then some (.bl true) else none := by
  unfold dedupS
  have key : ∀ (l : List Int) (kvs : List (Key × V)), valV (l.foldl (fun kvs x => putK kvs (Sum.inl x) (.bl true)) kvs) (Sum.inl x : Key) = if x ∈ l then some (.bl true) else valV kvs (Sum.inl x) := by
    intro l
    induction l with
    | nil => intro kvs; simp
    | cons y l ih =>
      intro kvs
      rw [List.foldl_cons, ih, valV_put]
      by_cases h1 : x ∈ l
      · rw [if_pos h1, if_pos (List.mem_cons_of_mem _ h1)]
      · rw [if_neg h1]
        by_cases h2 : x = y
        · subst h2
          rw [if_pos rfl, if_pos List.mem_cons_self]
        · rw [if_neg (fun z => h2 (Sum.inl.inj z)), if_neg (fun z => (List.mem_cons.mp z).elim h2 h1)]
  rw [key l []]
  rfl
theorem dedupS_len (l : List Int) : (dedupS l).length ≤ l.length := by
  unfold dedupS
  have key : ∀ (l : List Int) (kvs : List (Key × V)), (l.foldl (fun kvs x => putK kvs (Sum.inl x) (.bl true)) kvs).length ≤ kvs.length + l.length := by
    intro l
    induction l with
    | nil => intro kvs; exact Nat.le_refl _
    | cons y l ih =>
      intro kvs
      rw [List.foldl_cons, List.length_cons]
      have := ih (putK kvs (Sum.inl y) (.bl true))
      have := length_putK kvs (Sum.inl y : Key) (.bl true)
      omega
  have := key l []
  simpa using this
/-- barred = {x: True for x in xs} -/
theorem dc_ints {K : PySem.W.Frag} {σ : L2.St} {H : Hp} {a : Addr} {ns : List Int} {tl : TE} {j : Nat} {vs : List Nat} {Q : VK} (h : Ev tl σ H (.ref a)) (hx : Sq K H a (ns.map V.int)) (hz : ns.length ≤ 5000)
    (hw : ∀ x, wipe ((wipe σ vs).set j (some x)) vs = wipe σ vs) (hj : ∀ x, ((wipe σ vs).set j (some x))[j]? = some (some x)) (q : ∀ D H2, H D = none → Ex H H2 → H2 D = some (.dK (dedupS ns)) → Q (.ref D) H2) :
    tDc (iSeq K tl) (gName j) tYes (tVar j) (tC (.bl true)) vs σ H Q := by
  refine is_op h hx (Ex.refl H) fun J G hG w H1 e1 => fun D hD => ?_
  refine dc_it w (fun n H3 => Ex H1 H3 ∧ H3 D = some (.dK (dedupS (ns.take n)))) ⟨Ex.new hD, upd_same⟩ (fun n H3 _ p => hG H3 (e1.trans p.1)) ?_ ?_
  · rintro n x H3 H4 hn ⟨e3, hd3⟩ ⟨rfl, hx⟩
    obtain ⟨i, hi, rfl⟩ := int_at hx
    refine ⟨hw _, yes_if ⟨_, hj _, _, Sum.inl i, rfl, hd3, ?_, Ex.mut e3 hD, ?_⟩⟩
    · have := dedupS_len (ns.take n)
      rw [List.length_take] at this
      exact sz_lt (by omega)
    · rw [upd_same, List.take_add_one, hi]
      unfold dedupS
      rw [List.foldl_append]
      rfl
  · rintro H3 ⟨e3, hd3⟩
    rw [List.length_map, List.take_length] at hd3
    exact q D H3 (fresh_back e1 hD) (e1.trans e3) hd3
theorem len_in {K : PySem.W.Frag} {H : Hp} (n : Nat) : inV (.int (n : Int)) [V.int 2, V.int 3] = (decide (n = 2) || decide (n = 3)) := by
  have := inV_ints (n : Int) [2, 3]
  show inV (.int (n : Int)) ([2, 3].map V.int) = _
  rw [this]
  by_cases h1 : n = 2
  · subst h1; rfl
  · by_cases h2 : n = 3
    · subst h2; rfl
    · rw [decide_eq_false h1, decide_eq_false h2, decide_eq_false]
      · rfl
      · intro z
        simp at z
        omega
section
variable {P : Program} {w : World} {K : PySem.W.Frag} {mg : Str → Option Value} {base : Heap}
abbrev sCS : Stmt := topS 64
abbrev nCS : List Str := ["stiff", "hubs", "near", "ends", "barred", "end", "tie", "piece", "hub"]
theorem scCS : FnScope nCS ["stiff", "hubs", "near"] (defScope sCS) := ⟨rfl, rfl, rfl, by decide +kernel, rfl, by decide +kernel, by decide +kernel⟩
def spCS (K : PySem.W.Frag) : Sp := fun vs H Q _ => ∃ (a h n : Addr) (xs : List V) (l : List Va) (hs : List Int) (zs : List V) (near : List (List Int)), vs = [.ref a, .ref h, .ref n] ∧ Seq1 H a xs ∧ Paired (Rv H) xs l ∧ xs.length ≤ 400 ∧ l.all isPair = true ∧
  TF H h (hs.map V.int) ∧ hs.length ≤ 1000 ∧ H n = some (.tup zs) ∧ Paired (TupR H) zs near ∧ (∀ e ∈ (l.map fun t => [(prV t).1, (prV t).2]).flatten, 0 ≤ e ∧ e < (near.length : Int)) ∧
  ∀ H2, Ex H H2 → Q (.bl (stiffB (l.map fun t => [(prV t).1, (prV t).2]).flatten hs near)) H2
theorem ok_cs {f : Addr} {fd : FuncData} {k : Nat} (F : FnP K "can_be_stiff" sCS f fd) (B : Bu mg) (F_ : FnA K mg "first_twice" sFT ["values"]) (X_ : FnA K mg "fixed" sFix ["value"]) : FnOk P w K mg base CX0 (k + 3) f fd ["stiff", "hubs", "near"] (spCS K) := by
  have GF : FnOk P w K mg base CX0 (k + 2) F_.f F_.fd ["values"] (spFT K) := ok_ft F_.F B X_
  refine ok0 F scCS (fun vs H Q E h => ?_) (fun cdv A outer s H vs Q E hr h => ?_)
  · obtain ⟨a, h, n, xs, l, hs, zs, near, rfl, _⟩ := h
    rfl
  · obtain ⟨a, h, n, xs, l, hs, zs, near, rfl, hS, hP, hz, hall, hh, hhl, hn, hPn, hb, q⟩ := h
    have hu := hu_of hr
    refine ⟨_, (pss_cons (ps_setLc2 (i := 3) (own := [("tie", 6), ("piece", 7)]) (vs1 := [7]) (g := gName 6) (g1 := gName 7) (wi1 := iSeq K (tVar 6)) rfl scCS.nd rfl rfl rfl (pi_seq (pv 0)) (blkOk_by (N := nCS) (sc := defScope sCS) (by decide +kernel)) (by decide) (fun _ _ _ _ _ => (pg_name (i := 6) scCS.nd rfl (Or.inl rfl))) (fun _ _ _ _ _ => pts_nil) (fun _ _ _ _ _ => (pi_seq (pv 6))) (fun _ _ _ _ _ => (pg_name (i := 7) scCS.nd rfl (Or.inl rfl))) (fun _ _ _ _ _ => pts_nil) (fun _ _ _ _ _ => (pv 7)))
      (pss_cons (ps_setDc (i := 4) (own := [("hub", 8)]) (g := gName 8) rfl scCS.nd rfl rfl rfl (pi_seq (pv 1)) (blkOk_by (N := nCS) (sc := defScope sCS) (by decide +kernel)) (fun _ _ _ _ _ => (pg_name (i := 8) scCS.nd rfl (Or.inl rfl))) (fun _ _ _ _ _ => pts_nil) (fun _ _ _ _ _ => (pv 8)) (fun _ _ _ _ _ => pe_bl))
      (pss_cons (ps_for PassesOwn.never rfl (pi_seq (pv 3)) (pg_name (i := 5) scCS.nd rfl (Or.inl rfl)) (pss_one (ps_if (PW.pt (pw_or (pt_cmp (pc_din hu (pv 5) (pv 4))) (pw_or1 (pt_cmpR op_notIn_seq (pe_callB call_len_seq rfl B.len PySem.boot_len (pa_cons (pe_ix ix_seq (pv 2) (pv 5) (fun _ _ => rfl)) pa_nil)) (pe_tup (pa_cons pe_int (pa_cons pe_int pa_nil))) (by rfl))))) (pss_one (ps_ret pe_bl)) pss_nil)))
      (pss_one (ps_ret (pe_cmp (pc_isN (pe_call GF hr (by rfl) F_.g F_.F.kp F_.b .nil pass0 (pa_cons (pv 3) pa_nil))))))))), ?_⟩
    have comp2 := el_lc2id (K := K) (σ := [some (.ref a), some (.ref h), some (.ref n), none, none, none, none, none, none]) (H := H) (a := a) (xs := xs) (tl := tVar 0) (j := 6) (k := 7) (vs := [6, 7]) (vs1 := [7]) (ev_var rfl) hS.sq (rows_of hP hall) (by rw [flat_len, ← Paired.length hP]; omega) (fun _ => rfl) (fun _ => rfl) (fun _ _ => rfl) (fun _ _ => rfl)
    rw [flat_rows] at comp2
    generalize hends : (l.map fun t => [(prV t).1, (prV t).2]).flatten = ends at comp2 hb q
    have hel : ends.length ≤ 800 := by
      have := flat_len l
      rw [flat_rows, hends, List.length_map] at this
      have := Paired.length hP
      omega
    refine q_as (comp2 H (Ex.refl H) _ fun D1 H1 hD1 e1 hd1 => ?_)
    refine q_as (dc_ints (K := K) (ns := hs) (ev_var rfl) (.inr (hh.up e1).st) (by omega) (fun _ => rfl) (fun _ => rfl) fun D2 H2 hD2 e2 hd2 => ?_)
    have e12 := e1.trans e2
    refine s_forSq (H0 := H2) (ev_var rfl) (.inl (sq_of (e2 _ _ hd1))) (Ex.refl H2) (fun i σ' H' => ∃ y5, σ' = [some (.ref a), some (.ref h), some (.ref n), some (.ref D1), some (.ref D2), y5, none, none, none] ∧ Ex H2 H' ∧ (ends.all fun e => endOk hs near e) = ((ends.drop i).all fun e => endOk hs near e))
      (fun H3 e3 => ⟨none, rfl, e3, rfl⟩) (fun i σ' H' _ ⟨_, _, e, _⟩ => e) ?_ ?_
    · rintro i x σ' H' hi ⟨y5, rfl, e3, hal⟩
      obtain ⟨e, he, rfl⟩ := int_at hi
      have e13 := e12.trans e3
      have hdrop : (ends.drop i) = e :: ends.drop (i + 1) := by
        obtain ⟨hi2, hx⟩ := List.getElem?_eq_some_iff.mp he
        rw [← hx, List.drop_eq_getElem_cons hi2]
      rw [hdrop, List.all_cons] at hal
      have hbe := hb e (List.mem_of_getElem? he)
      have bad : endOk hs near e = false → Q (.bl false) H' ∧ ∀ H4, Ex H' H4 → Q (.bl false) H4 := fun h0 => by
        have hf : stiffB ends hs near = false := by unfold stiffB; rw [hal, h0]; rfl
        rw [hf] at q
        exact ⟨q H' e13, fun H4 e4 => q H4 (e13.trans e4)⟩
      refine s_if0 (or_op ⟨_, rfl, _, rfl, D2, _, rfl, DGet.k (k := Sum.inl e) (e3 _ _ hd2), _, rfl, ?_⟩)
      rw [dedupS_val]
      by_cases hin : e ∈ hs
      · rw [if_pos hin]
        exact iteT (iteT (bad (by unfold endOk; rw [decide_eq_true hin]; rfl)).1)
      · rw [if_neg hin]
        refine iteF (op_test (op_op (near_len (H := H') (e13 _ _ hn) (L2.Paired.mapP hPn fun _ _ r => r.up e13) hbe ?_ (fun Q q => ⟨_, rfl, q⟩) (fun Q q => ⟨_, rfl, q⟩))))
        refine ⟨by show 2 ≤ sizeLine; decide, fun tp htp => ⟨tp, _, rfl, .inr (st_of upd_same), rfl, rfl, _, rfl, ?_⟩⟩
        have e4 : Ex H' (upd H' tp (.tup [.int 2, .int 3])) := Ex.new htp
        show if (if true = true then !inV (.int ((rowAt near e).length : Int)) [V.int 2, V.int 3] else inV (.int ((rowAt near e).length : Int)) [V.int 2, V.int 3]) = true then _ else _
        rw [if_pos rfl, len_in (K := K) (H := H)]
        cases hv : (decide ((rowAt near e).length = 2) || decide ((rowAt near e).length = 3)) with
        | true =>
          have ho : endOk hs near e = true := by unfold endOk; rw [decide_eq_false hin, hv]; rfl
          rw [ho, Bool.true_and] at hal
          exact iteF ⟨_, rfl, e3.trans e4, hal⟩
        | false =>
          exact iteT ((bad (by unfold endOk; rw [decide_eq_false hin, hv]; rfl)).2 _ e4)
    · rintro σ' H' ⟨y5, rfl, e3, hal⟩
      rw [List.length_map, List.drop_length, List.all_nil] at hal
      have e13 := e12.trans e3
      have hk : (ends.map Sum.inl : List Key).map kV = ends.map V.int := by
        rw [List.map_map]
        rfl
      refine s_re (isn_op (cl1 rfl ⟨D1, ends.map Sum.inl, rfl, ?_, ?_, fun H4 e4 => ?_⟩))
      · rw [hk]
        exact .inl (sq_of (e3 _ _ (e2 _ _ hd1)))
      · rw [List.length_map]
        omega
      · rw [show ft ([] : List Key) (ends.map Sum.inl) = (ft [] ends).map Sum.inl from ft_inl ends []]
        have := q H4 (e13.trans e4)
        unfold stiffB at this
        rw [hal, Bool.true_and] at this
        cases e : ft [] ends with
        | none =>
          rw [e] at this
          show Q (V.bl (decide (V.non = V.non))) H4
          rw [decide_eq_true rfl]
          exact this
        | some c =>
          rw [e] at this
          show Q (V.bl (decide (V.int c = V.non))) H4
          rw [decide_eq_false (fun z => nomatch z)]
          exact this
end
end KW
namespace KX
open PySem PySem.Spec PyProof.Rows L2 Evl KR KS
/-! ### zip of two, each a list or a tuple -/
/-- true: a list; false: a tuple -/
def SqB (K : PySem.W.Frag) : Bool → Hp → Addr → List V → Prop
  | true => SqL K
  | false => SqT K
def SrcB : Bool → Heap → Addr → Array Value → Prop
  | true => fun h a its => h.IsList a its
  | false => fun h a its => h.IsTuple a its
def ItB : Bool → Heap → Addr → Addr → Nat → Prop
  | true => fun h it a i => h.IsListIter it a i
  | false => fun h it a i => h.IsTupleIter it a i
def objB : Bool → Addr → Obj
  | true => fun a => { cls := .type "list_iterator", data := .fields #[.ref a, .int 0 0] }
  | false => fun a => { cls := .type "tuple_iterator", data := .fields #[.ref a, .int 0 0] }
theorem drawsB {prog : Program} {w : World} {A : Around} (k : Bool) (hh : A.handled = none) (it l : Addr) (hne : l ≠ it) (its : Array Value) : Draws prog w A it [it, l] its.size (fun i v => its[i]? = some v) (fun i h => ItB k h it l i ∧ SrcB k h l its) := by
  cases k
  · exact Draws.tuple hh it l hne its
  · exact Draws.list hh it l hne its
theorem beginsB (k : Bool) (l : Addr) (its : Array Value) : Begins (.ref l) (objB k l) fun h => SrcB k h l its := by
  cases k
  · exact begins_tuple l its
  · exact begins_list l its
theorem itB_at {k : Bool} {h h' : Heap} {it a : Addr} {i : Nat} (x : ItB k h it a i) (e : ∀ o, h.get? it = some o → h'.get? it = some o) : ItB k h' it a i := by
  cases k
  · exact Heap.IsTupleIter.at x e
  · exact Heap.IsListIter.at x e
theorem itB_obj {k : Bool} {h : Heap} {it a : Addr} {i : Nat} (x : ItB k h it a i) : ∃ o, h.get? it = some o ∧ ∀ v, o.data ≠ .cell v := by
  cases k
  · obtain ⟨o, e, _, d⟩ := x
    exact ⟨o, e, fun v q => by rw [d] at q; cases q⟩
  · obtain ⟨o, e, _, d⟩ := x
    exact ⟨o, e, fun v q => by rw [d] at q; cases q⟩
theorem itB_new {k : Bool} {h : Heap} {it a : Addr} (e : h.get? it = some (objB k a)) : ItB k h it a 0 := by
  cases k
  · exact ⟨_, e, rfl, rfl⟩
  · exact ⟨_, e, rfl, rfl⟩
section
variable {X : Cx} {pins : List (Addr × Obj)} {σ : L2.St} {H : Hp} {s : Shared}
theorem inv_src {k : Bool} {a : Addr} {xs : List V} (I : Inv X pins σ H s) (h : SqB X.K k H a xs) : ∃ its, Vals xs its ∧ SrcB k s.heap a its.toArray := by
  cases k
  · obtain ⟨its, rv, p, _⟩ := I.tuple h
    exact ⟨its, rv, p⟩
  · obtain ⟨its, rv, p, _⟩ := I.list h
    exact ⟨its, rv, p.isList⟩
theorem inv_inj {k : Bool} {a : Addr} {xs ys : List V} (I : Inv X pins σ H s) (h1 : SqB X.K k H a xs) (h2 : SqB X.K k H a ys) : xs = ys := by
  cases k
  · exact I.tuple_inj h1 h2
  · exact I.list_inj h1 h2
end
theorem srcB_lt {k : Bool} {h : Heap} {a : Addr} {its : Array Value} (x : SrcB k h a its) : a < h.objs.size := by
  cases k
  · obtain ⟨o, e, _⟩ := x
    exact Heap.lt_size e
  · obtain ⟨o, e, _⟩ := x
    exact Heap.lt_size e
/-- the two at each turn, the items in new pairs -/
def ItzB (K : PySem.W.Frag) (k1 k2 : Bool) (a b : Addr) : It :=
  ⟨fun i H => ∃ (xs ys : List V) (x y : V), SqB K k1 H a xs ∧ SqB K k2 H b ys ∧ xs[i]? = some x ∧ ys[i]? = some y,
    fun i H v H' => ∃ T x y, v = .ref T ∧ H T = none ∧ H' = upd H T (.tup [x, y]) ∧ (∀ xs, SqB K k1 H a xs → xs[i]? = some x) ∧ ∀ ys, SqB K k2 H b ys → ys[i]? = some y,
    fun i H => ∃ xs ys : List V, SqB K k1 H a xs ∧ SqB K k2 H b ys ∧ i ≤ xs.length ∧ i ≤ ys.length ∧ (i = xs.length ∨ i = ys.length)⟩
theorem sepB {z TI TO i1 i2 a b : Addr} (D : ZipApart z TI TO i1 i2 a b) : ZipSep2 z TI TO i1 i2 [i1, a] [i2, b] where
  TIz := D.TIz
  TOz := D.TOz
  TITO := D.TITO
  TIi1 := D.TIi1
  mem1 := List.mem_cons_self
  zf1 := by
    have := D.i1z.symm
    have := D.l1z.symm
    simp [*]
  Tf1 := by
    have := D.TOi1
    have := D.l1TO.symm
    simp [*]
  TIi2 := D.TIi2
  mem2 := List.mem_cons_self
  zf2 := by
    have := D.i2z.symm
    have := D.l2z.symm
    simp [*]
  Tf2 := by
    have := D.TOi2
    have := D.l2TO.symm
    simp [*]
  sep1_2 := by
    have := D.i12
    have := D.l2i1.symm
    simp [*]
  sep2_1 := by
    have := D.i12.symm
    have := D.l1i2.symm
    simp [*]
theorem mem5 {c z TI TO i1 i2 : Addr} (h : c ∈ [z, TI, TO, i1, i2]) : c = z ∨ c = TI ∨ c = TO ∨ c = i1 ∨ c = i2 := by simpa using h
theorem turn_zipB {P : Program} {w : World} {K : PySem.W.Frag} {elts : List Expr} {kk : Nat} {tpos : Pos} {a b z TI TO i1 i2 : Addr} (k1 k2 : Bool) (D : ZipApart z TI TO i1 i2 a b) :
    Turn P w K (.Tuple elts kk tpos) (ItzB K k1 k2 a b) [z, TI, TO, i1, i2] z (fun i h => IsZip h z TI TO .none ∧ IsTupOf2 h TI (.ref i1) (.ref i2) ∧ (∃ x y, IsTupOf2 h TO x y) ∧ ItB k1 h i1 a i ∧ ItB k2 h i2 b i) where
  mem := List.mem_cons_self
  obj := fun i h ⟨hz, hI, ⟨_, _, hO⟩, h1, h2⟩ c hc => by
    rcases mem5 hc with rfl | rfl | rfl | rfl | rfl
    · exact ⟨_, hz, fun v q => nomatch q⟩
    · exact ⟨_, hI, fun v q => nomatch q⟩
    · exact ⟨_, hO, fun v q => nomatch q⟩
    · exact itB_obj h1
    · exact itB_obj h2
  keep := fun i h h' ⟨hz, hI, ⟨x, y, hO⟩, h1, h2⟩ k => ⟨k z (by simp) _ hz, k TI (by simp) _ hI, ⟨x, y, k TO (by simp) _ hO⟩, itB_at h1 fun o q => k i1 (by simp) o q, itB_at h2 fun o q => k i2 (by simp) o q⟩
  item := by
    intro X hP hw hK hc i pins s σ H E I hf ⟨hz, hI, ⟨x0, y0, hO⟩, h1, h2⟩ ⟨xs, ys, x, y, qx, qy, ex, ey⟩
    subst hP hw hK
    obtain ⟨us, rx, px⟩ := inv_src I qx
    obtain ⟨ws, ry, py⟩ := inv_src I qy
    obtain ⟨u, hu, ru⟩ := rx.get ex
    obtain ⟨v, hv, rv⟩ := ry.get ey
    have hh := I.ok.hd hc
    have n1 : i < us.toArray.size := by
      rw [List.size_toArray]
      exact (List.getElem?_eq_some_iff.mp hu).1
    have n2 : i < ws.toArray.size := by
      rw [List.size_toArray]
      exact (List.getElem?_eq_some_iff.mp hv).1
    refine wpAny_pyNext_zipD2_item (sepB D) (drawsB (A := X.A.in1) k1 (show X.A.in1.handled = none from hh) i1 a D.l1i1 us.toArray) (drawsB (A := X.A.in1) k2 (show X.A.in1.handled = none from hh) i2 b D.l2i2 ws.toArray) hz hI hO ⟨h1, px⟩ ⟨h2, py⟩ n1 n2 fun x1 x2 h' tk e1 e2 z1 O1 t1 t2 T1 hsz hk => ?_
    have e1 : u = x1 := by
      have : us[i]? = some x1 := by simpa using e1
      rw [hu] at this
      exact Option.some.inj this
    have e2 : v = x2 := by
      have : ws[i]? = some x2 := by simpa using e2
      rw [hv] at this
      exact Option.some.inj this
    subst e1 e2
    have hzl : z < s.heap.objs.size := Heap.lt_size hz
    refine ⟨_, rfl, wpAny_letOwnedTupleGo_zip (s := { s with heap := h', toks := tk }) z1 fun h'' z2 sb => ?_⟩
    have T2 : h''.get? s.heap.objs.size = some { cls := .type "tuple", data := .seq #[u, v] } := (sb.2 _ (Nat.ne_of_gt hzl)).trans T1
    have nw : ObjOk X.prog X.w (upd H s.heap.objs.size (.tup [x, y])) h'' s.heap.objs.size (.tup [x, y]) := ⟨by show 2 ≤ sizeLine; decide, [u, v], .cons ru (.cons rv .nil), ⟨_, T2, rfl, _, rfl⟩⟩
    have off : ∀ c o, c ∉ [z, TI, TO, i1, i2] → s.heap.get? c = some o → h''.get? c = some o := fun c o hb q => by
      have m : ∀ d, d ∈ [z, TI, TO, i1, i2] → c ≠ d := fun d hd z => hb (z ▸ hd)
      exact (sb.2 c (m z (by simp))).trans (hk c o (m z (by simp)) (m TO (by simp)) (m i1 (by simp)) (m i2 (by simp)) q)
    have I1 : Inv X pins σ (upd H s.heap.objs.size (.tup [x, y])) { s with heap := h'', toks := tk } := I.turnedNew (t' := tk) (ch := [z, TI, TO, i1, i2]) off hf (Nat.le_refl _) nw
    refine ⟨.ref s.heap.objs.size, _, I1, rfl, ⟨_, x, y, rfl, I.hok.fresh (Nat.le_refl _), rfl, fun l hl => by rw [inv_inj I hl qx]; exact ex, fun l hl => by rw [inv_inj I hl qy]; exact ey⟩, ⟨z2, ?_, ⟨u, v, ?_⟩, ?_, ?_⟩, fun c hcm => ?_⟩
    · exact (sb.2 _ D.TIz).trans (hk _ _ D.TIz D.TITO D.TIi1 D.TIi2 hI)
    · exact (sb.2 _ D.TOz).trans O1
    · exact itB_at t1.1 fun o q => (sb.2 _ D.i1z).trans q
    · exact itB_at t2.1 fun o q => (sb.2 _ D.i2z).trans q
    · have hlt : c < s.heap.objs.size := by
        rcases mem5 hcm with rfl | rfl | rfl | rfl | rfl
        · exact hzl
        · exact Heap.lt_size hI
        · exact Heap.lt_size hO
        · obtain ⟨_, e, _⟩ := itB_obj h1; exact Heap.lt_size e
        · obtain ⟨_, e, _⟩ := itB_obj h2; exact Heap.lt_size e
      rw [upd_ne (Nat.ne_of_lt hlt)]
      exact (hf c hcm).1
  done := by
    intro X hP hw hK hc i pins s σ H E I hf ⟨hz, hI, ⟨x0, y0, hO⟩, h1, h2⟩ ⟨xs, ys, qx, qy, l1, l2, hend⟩
    subst hP hw hK
    obtain ⟨us, rx, px⟩ := inv_src I qx
    obtain ⟨ws, ry, py⟩ := inv_src I qy
    have hh := I.ok.hd hc
    have z1 := rx.length
    have z2 := ry.length
    refine wpAny_pyNext_zipD2_end (sepB D) (drawsB (A := X.A.in1) k1 (show X.A.in1.handled = none from hh) i1 a D.l1i1 us.toArray) (drawsB (A := X.A.in1) k2 (show X.A.in1.handled = none from hh) i2 b D.l2i2 ws.toArray) hz hI hO ⟨h1, px⟩ ⟨h2, py⟩ (by rw [List.size_toArray]; omega) (by rw [List.size_toArray]; omega) (by rw [List.size_toArray, List.size_toArray]; omega) fun h' tk hk => ⟨rfl, ?_⟩
    refine I.turnedL (t' := tk) (ch := [z, TI, TO, i1, i2]) (fun c o hb q => ?_) hf
    have m : ∀ d, d ∈ [z, TI, TO, i1, i2] → c ≠ d := fun d hd z => hb (z ▸ hd)
    exact hk c o (m z (by simp)) (m TO (by simp)) (m i1 (by simp)) (m i2 (by simp)) q
  self := fun A i s Q E st h => wpAny_pyIter_zip st.1 h
def iZipB (K : PySem.W.Frag) (ta : TA) : TI := fun σ H R => ta σ H fun vs H1 => ∃ a b xs ys k1 k2, vs = [.ref a, .ref b] ∧ SqB K k1 H1 a xs ∧ SqB K k2 H1 b ys ∧ R (ItzB K k1 k2 a b) H1
theorem pi_zipB {X : Cx} {e e2 : Expr} {ta : TA} {p pos tpos : Pos} {elts : List Expr} {kk : Nat} (hg : Gl X "zip") (hm : X.mg "zip" = none) (ha : PA X [e, e2] ta)
    (hs : starEach [e, e2] X.env = (false, eval e X.env) :: starEach [e2] X.env := by rfl) (hpl : (backTo pos (starEach [e2] X.env)).any (·.1) = false := by rfl) :
    PI X (.Tuple elts kk tpos) (.Call (.Name "zip" p) [e, e2] [] pos) (iZipB X.K ta) := by
  refine ⟨fun pins s σ H R I h => ?_⟩
  refine Call_ (ld_blt I hg hm PyProof.Rows.boot_zip (PyProof.Rows.callWith_type1 (thn (ha.run pos pins s σ H _ I h) fun us s1 ⟨vs, H1, I1, r1, q1⟩ => ?_) hs hpl))
  obtain ⟨a, b, xs, ys, k1, k2, rfl, qx, qy, q⟩ := q1
  obtain ⟨u1, u2, rfl, e1, e2⟩ := vals2 r1
  cases (show u1 = Value.ref a from e1)
  cases (show u2 = Value.ref b from e2)
  obtain ⟨us, rx, px⟩ := inv_src I1 qx
  obtain ⟨ws, ry, py⟩ := inv_src I1 qy
  refine zip_begins2 (beginsB k1 a us.toArray) (beginsB k2 b ws.toArray) px py fun h' hz hI hO g1 g2 hsz hk => wpAny_pyIter_zip hz ?_
  refine ⟨s1.heap.objs.size + 4, [s1.heap.objs.size + 4, s1.heap.objs.size + 2, s1.heap.objs.size + 3, s1.heap.objs.size, s1.heap.objs.size + 1], _, _, H1, rfl, I1.kept (t' := s1.toks) hk,
    turn_zipB k1 k2 (PySem.W.ktu_apart s1.heap.objs.size a b (srcB_lt px) (srcB_lt py)), ⟨hz, hI, ⟨_, _, hO⟩, itB_new g1, itB_new g2⟩, fun c hc => ?_, q⟩
  have hle : s1.heap.objs.size ≤ c := by
    rcases mem5 hc with rfl | rfl | rfl | rfl | rfl
    · exact Nat.le_add_right _ _
    · exact Nat.le_add_right _ _
    · exact Nat.le_add_right _ _
    · exact Nat.le_refl _
    · exact Nat.le_add_right _ _
  exact I1.fpOk hle (I1.hok.fresh hle)
/-- a loop over two of one length -/
theorem zipB_op {K : PySem.W.Frag} {σ : L2.St} {H0 H : Hp} {D : Ends} {tu : TS} {g : TG} {a b : Addr} {xs ys : List V} {ta : TA} (h : ∀ Q : List V → Hp → Prop, (∀ H1, Ex H H1 → Q [.ref a, .ref b] H1) → ta σ H Q) (hx : Sq K H0 a xs) (hy : Sq K H0 b ys) (hl : xs.length = ys.length) (e0 : Ex H0 H)
    (Pv : Nat → L2.St → Hp → Prop) (h0 : ∀ H1, Ex H H1 → Pv 0 σ H1) (hp : ∀ i σ' H', Pv i σ' H' → Ex H0 H')
    (hs : ∀ (i : Nat) (x y : V) (T : Addr) σ' H', xs[i]? = some x → ys[i]? = some y → Pv i σ' H' → H' T = none → g (.ref T) σ' (upd H' T (.tup [x, y])) fun σ2 H2 => tu { D with nx := Pv (i + 1), ct := Pv (i + 1), bk := D.nx } σ2 H2) (hd : ∀ σ' H', Pv xs.length σ' H' → D.nx σ' H') :
    tFor (iZipB K ta) g tu D σ H := by
  obtain ⟨k1, hk1⟩ : ∃ k1, ∀ H', Ex H0 H' → SqB K k1 H' a xs := by
    rcases hx with hx | hx
    · exact ⟨true, fun H' e => ex_l e hx⟩
    · exact ⟨false, fun H' e => ex_t e hx⟩
  obtain ⟨k2, hk2⟩ : ∃ k2, ∀ H', Ex H0 H' → SqB K k2 H' b ys := by
    rcases hy with hy | hy
    · exact ⟨true, fun H' e => ex_l e hy⟩
    · exact ⟨false, fun H' e => ex_t e hy⟩
  refine h _ fun H1 e1 => ⟨a, b, xs, ys, k1, k2, rfl, hk1 _ (e0.trans e1), hk2 _ (e0.trans e1), ?_⟩
  refine ⟨fun i m σ' H' => m + i = xs.length ∧ Pv i σ' H', ⟨xs.length, rfl, h0 H1 e1⟩, fun i m σ' H' ⟨hm, p⟩ => ?_⟩
  have e2 := hp i σ' H' p
  rcases Nat.lt_or_ge i xs.length with hlt | hge
  · have ex : xs[i]? = some xs[i] := List.getElem?_eq_getElem hlt
    have hlt2 : i < ys.length := by omega
    have ey : ys[i]? = some ys[i] := List.getElem?_eq_getElem hlt2
    refine .inr ⟨⟨xs, ys, _, _, hk1 _ e2, hk2 _ e2, ex, ey⟩, Pv (i + 1), fun σ2 H2 p2 => ⟨m - 1, by omega, by omega, p2⟩, fun v H2 y => ?_⟩
    obtain ⟨T, x', y', rfl, hT, rfl, f1, f2⟩ := y
    exact hs i x' y' T σ' H' (f1 xs (hk1 _ e2)) (f2 ys (hk2 _ e2)) p hT
  · have hi : i = xs.length := by omega
    subst hi
    exact .inl ⟨⟨xs, ys, hk1 _ e2, hk2 _ e2, Nat.le_refl _, by omega, .inl rfl⟩, hd _ _ p⟩
end KX
namespace KW
open PySem PySem.Spec PyProof.Rows L2 KR KS KX Evl StX
/-! ### sorted_stiff -/
theorem dcT_it {J : It} {n : Nat} {G : Hp → Prop} {Y : Nat → Hp → V → Hp → Prop} {σ : L2.St} {H : Hp} (w : Walk J n G Y) {g : TG} {tt : TT} {tk tv : TE} {vs : List Nat} {D : Addr} {Qd : Hp → Prop} (Pv : Nat → Hp → Prop) (h0 : Pv 0 (upd H D (.dT []))) (hG : ∀ i H, i ≤ n → Pv i H → G H)
    (hs : ∀ i x H H', i < n → Pv i H → Y i H x H' → g x (wipe σ vs) H' fun σ2 H2 => wipe σ2 vs = wipe σ vs ∧ tt σ2 H2 fun b H3 =>
      if b = true then tk σ2 H3 fun y H4 => tv σ2 H4 fun z H5 => ∃ (kvs : List (List Key × V)) (kk : List Key) (tb : Addr), y = .ref tb ∧ H5 tb = some (.tup (kk.map kV)) ∧ H5 D = some (.dT kvs) ∧ kvs.length < sizeLine ∧ Pv (i + 1) (upd H5 D (.dT (putK kvs kk z))) else Pv (i + 1) H3) (hd : ∀ H, Pv n H → Qd H) :
    ∃ W : Nat → Nat → Hp → Prop, (∃ m, W 0 m (upd H D (.dT []))) ∧ ∀ i m H, W i m H →
      (J.stop i H ∧ Qd H) ∨ (J.go i H ∧ ∃ Nx : Hp → Prop, (∀ H', Nx H' → ∃ m', m' < m ∧ W (i + 1) m' H') ∧ ∀ x H', J.yld i H x H' → g x (wipe σ vs) H' fun σ2 H2 => wipe σ2 vs = wipe σ vs ∧ tt σ2 H2 fun b H3 =>
        if b = true then tk σ2 H3 fun y H4 => tv σ2 H4 fun z H5 => ∃ (kvs : List (List Key × V)) (kk : List Key) (tb : Addr), y = .ref tb ∧ H5 tb = some (.tup (kk.map kV)) ∧ H5 D = some (.dT kvs) ∧ kvs.length < sizeLine ∧ Nx (upd H5 D (.dT (putK kvs kk z))) else Nx H3) := by
  refine ⟨fun i m H => m + i = n ∧ Pv i H, ⟨n, rfl, h0⟩, fun i m H ⟨hm, p⟩ => ?_⟩
  have hq := hG i H (by omega) p
  rcases Nat.lt_or_ge i n with hlt | hge
  · exact .inr ⟨w.goes i H hlt hq, Pv (i + 1), fun H' p' => ⟨m - 1, by omega, by omega, p'⟩, fun x H' y => hs i x H H' hlt p (w.yields i H x H' hlt hq y)⟩
  · obtain rfl : i = n := by omega
    exact .inl ⟨w.stops H hq, hd H p⟩
def kP (p : Int × Int) : List Key := [Sum.inl p.1, Sum.inl p.2]
theorem kP_inj {p q : Int × Int} (h : kP p = kP q) : p = q := by
  unfold kP at h
  have h1 := List.cons.inj h
  have h2 := List.cons.inj h1.2
  exact Prod.ext (Sum.inl.inj h1.1) (Sum.inl.inj h2.1)
theorem kP_mem {p : Int × Int} {l : List (Int × Int)} : kP p ∈ l.map kP ↔ p ∈ l := by
  rw [List.mem_map]
  exact ⟨fun ⟨z, h1, h2⟩ => by rw [← kP_inj h2]; exact h1, fun h => ⟨p, h, rfl⟩⟩
/-- {tie: True for tie in ties} -/
theorem dc_ties {K : PySem.W.Frag} {σ : L2.St} {H : Hp} {a : Addr} {ys : List V} {ps : List (Int × Int)} {tl : TE} {j : Nat} {vs : List Nat} {Q : VK} (h : Ev tl σ H (.ref a)) (hx : Sq K H a ys) (hP : Paired (PrR H) ys ps) (hz : ps.length ≤ 5000)
    (hw : ∀ x, wipe ((wipe σ vs).set j (some x)) vs = wipe σ vs) (hj : ∀ x, ((wipe σ vs).set j (some x))[j]? = some (some x)) (q : ∀ D H2, H D = none → Ex H H2 → H2 D = some (.dT (sk (ps.map kP))) → Q (.ref D) H2) :
    tDcT (iSeq K tl) (gName j) tYes (tVar j) (tC (.bl true)) vs σ H Q := by
  refine is_op h hx (Ex.refl H) fun J G hG w H1 e1 => fun D hD => ?_
  refine dcT_it w (fun n H3 => Ex H1 H3 ∧ H3 D = some (.dT (sk ((ps.take n).map kP)))) ⟨Ex.new hD, upd_same⟩ (fun n H3 _ p => hG H3 (e1.trans p.1)) ?_ ?_
  · rintro n x H3 H4 hn ⟨e3, hd3⟩ ⟨rfl, hx⟩
    obtain ⟨p, hp, b, rfl, hb⟩ := pget hP hx
    refine ⟨hw _, yes_if ⟨_, hj _, _, kP p, b, rfl, (e1.trans e3) _ _ hb, hd3, ?_, Ex.mut e3 hD, ?_⟩⟩
    · have := len_sk ((ps.take n).map kP)
      rw [List.length_map, List.length_take] at this
      exact sz_lt (by omega)
    · rw [upd_same, ← sk_snoc, List.take_add_one, hp, List.map_append]
      rfl
  · rintro H3 ⟨e3, hd3⟩
    rw [Paired.length hP, List.take_length] at hd3
    exact q D H3 (fresh_back e1 hD) (e1.trans e3) hd3
def noTie (ts : List (Int × Int)) (l : List Va) : Option Va := l.find? fun t => !decide (ascQ t ∈ ts)
def stiffM (d : Va) (ts : List (Int × Int)) (hubs : List Int) (near : List (List Int)) : Except Er (List (Int × Int)) :=
  if arePairs d = false then .error (.web "stiff") else
  match noTie ts (itemsV d) with
  | some t => .error (.tie t)
  | none => match ft [] ((itemsV d).map ascV) with
    | some c => .error (.twice (tupV c))
    | none => if stiffB (endsT d) hubs near = false then .error (.web "stiff") else .ok (sortP ((itemsV d).map ascQ))
theorem noTie_step {ts : List (Int × Int)} {l : List Va} {i : Nat} {x : Va} (h : l[i]? = some x) : noTie ts (l.drop i) = if ascQ x ∈ ts then noTie ts (l.drop (i + 1)) else some x := by
  obtain ⟨h1, h2⟩ := List.getElem?_eq_some_iff.mp h
  unfold noTie
  rw [List.drop_eq_getElem_cons h1, h2]
  by_cases e : ascQ x ∈ ts
  · rw [if_pos e, List.find?_cons_of_neg (by simpa using e)]
  · rw [if_neg e, List.find?_cons_of_pos (by simpa using e)]
/-- unlike ties that are all known are not more than these -/
theorem ft_none_nodup {κ : Type} [DecidableEq κ] : ∀ (l s : List κ), ft s l = none → l.Nodup ∧ ∀ x ∈ l, x ∉ s
  | [], _, _ => ⟨List.nodup_nil, fun _ h => by cases h⟩
  | x :: l, s, h => by
    have h0 : ft s (x :: l) = if x ∈ s then some x else ft (s ++ [x]) l := by
      rfl
    rw [h0] at h
    by_cases hx : x ∈ s
    · rw [if_pos hx] at h
      cases h
    · rw [if_neg hx] at h
      obtain ⟨h1, h2⟩ := ft_none_nodup l (s ++ [x]) h
      refine ⟨List.nodup_cons.mpr ⟨fun z => h2 x z (by simp), h1⟩, fun y hy => ?_⟩
      rcases List.mem_cons.mp hy with rfl | hy
      · exact hx
      · exact fun z => h2 y hy (List.mem_append_left _ z)
theorem zo {K : PySem.W.Frag} {ta : TA} {g : TG} {tu : TS} {D : Ends} {σ : L2.St} {H : Hp} (h : ta σ H fun vs H1 => tFor (iZipB K fun _ H' Q => Q vs H') g tu D σ H1) : tFor (iZipB K ta) g tu D σ H := h
theorem cl3 {sp : Sp} {E : XK} {i j m : Nat} {σ : L2.St} {H : Hp} {v u z : V} {Q : VK} (e : σ[i]? = some (some v)) (e2 : σ[j]? = some (some u)) (e3 : σ[m]? = some (some z)) (h : sp [v, u, z] H Q E) : tCall sp [] E (tCons (tVar i) (tCons (tVar j) (tCons (tVar m) tNil))) σ H Q := ⟨v, e, u, e2, z, e3, h⟩
theorem ends_in {ts : List (Int × Int)} {l : List Va} {m : Int} (hk : noTie ts l = none) (hb : ∀ p ∈ ts, (0 ≤ p.1 ∧ p.1 < m) ∧ (0 ≤ p.2 ∧ p.2 < m)) : ∀ e ∈ (l.map fun t => [(prV t).1, (prV t).2]).flatten, 0 ≤ e ∧ e < m := fun e he => by
  obtain ⟨r, hr, her⟩ := List.mem_flatten.mp he
  obtain ⟨t, ht, rfl⟩ := List.mem_map.mp hr
  have h1 := List.find?_eq_none.mp hk t ht
  have h2 : ascQ t ∈ ts := by simpa using h1
  obtain ⟨b1, b2⟩ := hb _ h2
  unfold ascQ at b1 b2
  simp only [List.mem_cons, List.not_mem_nil, or_false] at her
  simp only at b1 b2
  rcases her with rfl | rfl <;> omega
theorem ascV_map (l : List Va) : l.map ascV = (l.map ascQ).map fun p => [p.1, p.2] := by
  rw [List.map_map]
  rfl
theorem nd_le {α : Type} [DecidableEq α] : ∀ {l m : List α}, l.Nodup → (∀ x ∈ l, x ∈ m) → l.length ≤ m.length
  | [], _, _, _ => Nat.zero_le _
  | x :: l, m, h, k => by
    obtain ⟨h1, h2⟩ := List.nodup_cons.mp h
    have hx := k x List.mem_cons_self
    have := nd_le (m := m.erase x) h2 fun y hy => (List.mem_erase_of_ne (fun z => h1 (by rw [← z]; exact hy))).mpr (k y (List.mem_cons_of_mem _ hy))
    rw [List.length_erase_of_mem hx] at this
    have hl := List.length_pos_of_mem hx
    rw [List.length_cons]
    omega
theorem few_stiff {ts : List (Int × Int)} {l : List Va} (hk : noTie ts l = none) (hf : ft [] (l.map ascV) = none) : l.length ≤ ts.length := by
  have h1 := (ft_none_nodup _ _ hf).1
  rw [ascV_map] at h1
  have h2 : (l.map ascQ).Nodup := (List.pairwise_map.mp h1).imp fun z e => z (by rw [e])
  have h3 : ∀ p ∈ l.map ascQ, p ∈ ts := fun p hp => by
    obtain ⟨t, ht, rfl⟩ := List.mem_map.mp hp
    have := List.find?_eq_none.mp hk t ht
    simpa using this
  have := nd_le h2 h3
  rwa [List.length_map] at this
section
variable {P : Program} {w : World} {K : PySem.W.Frag} {mg : Str → Option Value} {base : Heap}
abbrev sSS : Stmt := topS 63
abbrev nSS : List Str := ["stiff", "ties", "hubs", "near", "known", "told", "tie"]
theorem scSS : FnScope nSS ["stiff", "ties", "hubs", "near"] (defScope sSS) := ⟨rfl, rfl, rfl, by decide +kernel, rfl, by decide +kernel, by decide +kernel⟩
def spSS (S : Es P w K mg base) : Sp := fun vs H Q E => ∃ (v : V) (d : Va) (t h n : Addr) (ys : List V) (ts : List (Int × Int)) (hs : List Int) (zs : List V) (near : List (List Int)), vs = [v, .ref t, .ref h, .ref n] ∧ Rv H v d ∧
  H t = some (.tup ys) ∧ Paired (PrR H) ys ts ∧ ts.length ≤ 400 ∧ (∀ p ∈ ts, (0 ≤ p.1 ∧ p.1 < (near.length : Int)) ∧ (0 ≤ p.2 ∧ p.2 < (near.length : Int))) ∧ TF H h (hs.map V.int) ∧ hs.length ≤ 1000 ∧ H n = some (.tup zs) ∧ Paired (TupR H) zs near ∧
  match stiffM d ts hs near with
  | .error r => Rz S H E r
  | .ok ps => ∀ p ys H2, H p = none → Ex H H2 → TF H2 p ys → Paired (PrR H2) ys ps → Q (.ref p) H2
theorem ok_ss {S : Es P w K mg base} {f : Addr} {fd : FuncData} {k : Nat} (F : FnP K "sorted_stiff" sSS f fd) (B : Bu mg) (P_ : FnA K mg "are_pairs" sPairs ["value"]) (A_ : FnA K mg "ascending" sAsc ["pairs"]) (T_ : FnA K mg "need_none_twice" sNT ["values"]) (C_ : FnA K mg "can_be_stiff" sCS ["stiff", "hubs", "near"])
    (GP : FnOk P w K mg base CX0 (k + 4) P_.f P_.fd ["value"] spPairs) (GA : FnOk P w K mg base CX0 (k + 4) A_.f A_.fd ["pairs"] spAsc) (GT : FnOk P w K mg base (L2.CX P w) (k + 4) T_.f T_.fd ["values"] (spNTp S)) (GC : FnOk P w K mg base CX0 (k + 4) C_.f C_.fd ["stiff", "hubs", "near"] (spCS K)) :
    FnOk P w K mg base (L2.CX P w) (k + 5) f fd ["stiff", "ties", "hubs", "near"] (spSS S) := by
  refine okE F scSS (fun vs H Q E h => ?_) (fun cdv A outer s H vs Q E hr h => ?_)
  · obtain ⟨v, d, t, h, n, ys, ts, hs, zs, near, rfl, _⟩ := h
    rfl
  · obtain ⟨v, d, t, h, n, ys, ts, hs, zs, near, rfl, r, ht, hPt, hz, htb, hh, hhl, hn, hPn, q⟩ := h
    have hu := hu_of hr
    refine ⟨_, (pss_cons (ps_if (pt_not (pt_val (pe_call GP hr (by rfl) P_.g P_.F.kp P_.b .nil pass0 (pa_cons (pv 0) pa_nil)))) (pss_one (ps_rs1 S.web (hr.mono (by omega)) pe_str (takes_of rfl rfl rfl rfl))) pss_nil)
      (pss_cons (ps_setDcT (i := 4) (own := [("tie", 6)]) (g := gName 6) hu rfl scSS.nd rfl rfl rfl (pi_seq (pv 1)) (blkOk_by (N := nSS) (sc := defScope sSS) (by decide +kernel)) (fun _ _ _ _ _ => (pg_name (i := 6) scSS.nd rfl (Or.inl rfl))) (fun _ _ _ _ _ => pts_nil) (fun _ _ _ _ _ => (pv 6)) (fun _ _ _ _ _ => pe_bl))
      (pss_cons (ps_for (passes_of rfl) rfl (pi_zipB rfl B.zip (pa_cons (pv 0) (pa_cons (pe_call GA hr (by rfl) A_.g A_.F.kp A_.b .nil pass0 (pa_cons (pv 0) pa_nil)) pa_nil))) (pg_tup rfl (pgs_cons (pg_name (i := 5) scSS.nd rfl (Or.inl rfl)) (pgs_cons (pg_name (i := 6) scSS.nd rfl (Or.inl rfl)) pgs_nil))) (pss_one (ps_if (pt_cmp (pc_dnotin hu (pv 6) (pv 4))) (pss_one (ps_rs1 S.tie (hr.mono (by omega)) (pv 5) (takes_of rfl rfl rfl rfl))) pss_nil)))
      (pss_cons (ps_expr (pe_call GT hr (by rfl) T_.g T_.F.kp T_.b .nil (passes_call (takes_of rfl rfl rfl rfl) (fun _ _ _ _ h => h)) (pa_cons (pe_call GA hr (by rfl) A_.g A_.F.kp A_.b .nil pass0 (pa_cons (pv 0) pa_nil)) pa_nil)))
      (pss_cons (ps_if (pt_not (pt_val (pe_call GC hr (by rfl) C_.g C_.F.kp C_.b .nil pass0 (pa_cons (pv 0) (pa_cons (pv 2) (pa_cons (pv 3) pa_nil)))))) (pss_one (ps_rs1 S.web (hr.mono (by omega)) pe_str (takes_of rfl rfl rfl rfl))) pss_nil)
      (pss_one (ps_ret (pe_tupF rfl B.tuple (pe_callB cr_sortedPO rfl B.sorted boot_sorted (pa_cons (pe_call GA hr (by rfl) A_.g A_.F.kp A_.b .nil pass0 (pa_cons (pv 0) pa_nil)) pa_nil)))))))))), ?_⟩
    refine q_if0 (cl1 rfl ⟨v, d, rfl, r, fun H1 e1 => ⟨_, rfl, ?_⟩⟩)
    cases hp : arePairs d with
    | false =>
      have hM : stiffM d ts hs near = .error (.web "stiff") := by unfold stiffM; rw [hp]; rfl
      rw [hM] at q
      exact iteT (rs_web q e1)
    | true =>
      refine iteF (nx_op ?_)
      rcases r.seq with ⟨a, xs, l, rfl, hl, hS, hP, hxz⟩ | ⟨hl, hT⟩
      · have hall := pairs_of (H := H) (a := a) (xs := xs) hl hp
        have hlen := Paired.length hP
        have hit : itemsV d = l := by unfold itemsV; rw [hl]; rfl
        have hM : stiffM d ts hs near = match noTie ts l with
          | some t => .error (.tie t)
          | none => match ft [] (l.map ascV) with
            | some c => .error (.twice (tupV c))
            | none => if stiffB (endsT d) hs near = false then .error (.web "stiff") else .ok (sortP (l.map ascQ)) := by
          conv => lhs; unfold stiffM
          rw [hp, hit]
          rfl
        rw [hM] at q
        refine q_as (dc_ties (K := K) (ev_var rfl) (.inr (st_of (e1 _ _ ht))) (prs_up e1 hPt) (by omega) (fun _ => rfl) (fun _ => rfl) fun D H2 hD e2 hd2 => ?_)
        have e12 := e1.trans e2
        refine zo (a_op ⟨.ref a, rfl, ?_⟩)
        refine c_op (a_op ⟨.ref a, rfl, a, xs, l, rfl, hS.up e12, L2.Paired.mapP hP fun _ _ r => r.up e12, hxz, hall, fun b y1 H3 hb e3 h3 hP3 => ?_⟩)
        have e13 := e12.trans e3
        refine zipB_op (xs := xs) (ys := y1) (fun Q q => q _ (Ex.refl _)) (hS.up e13).sq (.inl (sq_of h3)) (by rw [hlen, Paired.length hP3, List.length_map]) (Ex.refl _) (fun i σ' H' => ∃ y5 y6, σ' = [some (.ref a), some (.ref t), some (.ref h), some (.ref n), some (.ref D), y5, y6] ∧ Ex H3 H' ∧ noTie ts l = noTie ts (l.drop i))
          (fun H4 e4 => ⟨none, none, rfl, e4, rfl⟩) (fun i σ' H' ⟨_, _, _, e, _⟩ => e) ?_ ?_
        · rintro i x y T σ' H' hi hy ⟨y5, y6, rfl, e4, hno⟩ hT
          obtain ⟨u, hu1, ru⟩ := pget hP hi
          obtain ⟨c, hc, b2, rfl, hb2⟩ := pget hP3 hy
          rw [List.getElem?_map, hu1] at hc
          have hc : ascV u = c := Option.some.inj hc
          subst hc
          have e14 := e13.trans e4
          have e5 : Ex H' (upd H' T (.tup [x, .ref b2])) := Ex.new hT
          refine ⟨T, _, rfl, st_of upd_same, rfl, _, _, rfl, _, _, rfl, rfl, ?_⟩
          refine s_if0 ⟨_, rfl, _, rfl, D, _, rfl, DGet.t (k := kP (ascQ u)) (((e3.trans e4).trans e5) _ _ hd2) ((e4.trans e5) _ _ hb2), _, rfl, ?_⟩
          rw [val_sk]
          have hs1 := noTie_step (ts := ts) hu1
          by_cases hin : ascQ u ∈ ts
          · rw [if_pos hin] at hs1
            rw [if_pos (kP_mem.mpr hin)]
            exact iteF ⟨_, _, rfl, e4.trans e5, hno.trans hs1⟩
          · rw [if_neg hin] at hs1
            rw [if_neg fun z => hin (kP_mem.mp z)]
            rw [hno, hs1] at q
            exact iteT ⟨_, rfl, rs_tie q (e14.trans e5) (ru.up (e14.trans e5))⟩
        · rintro σ' H' ⟨y5, y6, rfl, e4, hno⟩
          rw [hlen, List.drop_length] at hno
          have hno : noTie ts l = none := hno
          rw [hno] at q
          have e14 := e13.trans e4
          dsimp only
          refine q_ex ?_
          refine c_op ?_
          refine a_op ?_
          refine c_op ?_
          refine a_op ?_
          refine (⟨.ref a, rfl, a, xs, l, rfl, hS.up e14, L2.Paired.mapP hP fun _ _ r => r.up e14, hxz, hall, fun p1 y1 H5 hp1 e5 h5 hP5 => ?_⟩)
          have e15 := e14.trans e5
          refine ⟨p1, y1, l.map ascV, rfl, .inl (sq_of h5), hP5, by rw [Paired.length hP5, List.length_map]; omega, fun c hc => ?_, ?_⟩
          · obtain ⟨t, _, rfl⟩ := List.mem_map.mp hc
            show 2 ≤ 1000
            decide
          cases hf : ft [] (l.map ascV) with
          | some c =>
            rw [hf] at q
            exact q.up e15
          | none =>
            rw [hf] at q
            intro H6 e6
            have e16 := e15.trans e6
            have hfew := few_stiff hno hf
            have hends : (l.map fun t => [(prV t).1, (prV t).2]).flatten = endsT d := by unfold endsT; rw [hit]
            refine q_if0 (cl3 rfl rfl rfl ⟨a, h, n, xs, l, hs, zs, near, rfl, hS.up e16, L2.Paired.mapP hP fun _ _ r => r.up e16, by omega, hall, hh.up e16, hhl, e16 _ _ hn, L2.Paired.mapP hPn fun _ _ r => r.up e16, ends_in hno htb, fun H7 e7 => ⟨_, rfl, ?_⟩⟩)
            rw [hends]
            have e17 := e16.trans e7
            cases hsb : stiffB (endsT d) hs near with
            | false =>
              rw [hsb] at q
              exact iteT (rs_web q e17)
            | true =>
              rw [hsb] at q
              refine iteF (nx_op (s_re ?_))
              refine cb_op (a_op (c_op (a_op ⟨.ref a, rfl, a, xs, l, rfl, hS.up e17, L2.Paired.mapP hP fun _ _ r => r.up e17, hxz, hall, fun p2 y2 H8 hp2 e8 h8 hP8 => ?_⟩)))
              have e18 := e17.trans e8
              refine n_op (sort_pairs (sq_of h8) (prs_asc hP8) fun p3 y3 hp3 hP9 => ?_)
              have e9 : Ex H8 (upd H8 p3 (.lst y3)) := Ex.new hp3
              refine ⟨p3, y3, rfl, sq_of upd_same, fun p4 o hp4 oc od => ?_⟩
              have e10 := Ex.new (o := HO.frz o (.tup y3)) hp4
              exact q p4 y3 _ (fresh_back (e18.trans e9) hp4) ((e18.trans e9).trans e10) ⟨o, upd_same, oc, od⟩ (prs_up (e9.trans e10) hP9)
      · unfold arePairs at hp
        rw [hl] at hp
        cases hp
end
end KW
namespace KW
open PySem PySem.Spec PyProof.Rows L2 KR KS KX Evl StX
/-! ### webs as objects -/
structure WebD where
  kinds : List Str
  ties : List (Int × Int)
  near : List (List Int)
  hubs : List Int
  stiff : List (Int × Int)
structure WebA where
  kA : Addr
  tA : Addr
  nA : Addr
  hA : Addr
  sA : Addr
  mA : Addr
  tys : List V
  nys : List V
  sys : List V
def treeB (d : WebD) : Bool := decide ((d.ties.length : Int) = (d.kinds.length : Int) - 1)
def webFs (d : WebD) (w : WebA) : List (Str × V) := [("kinds", .ref w.kA), ("ties", .ref w.tA), ("near", .ref w.nA), ("hubs", .ref w.hA), ("stiff", .ref w.sA), ("marks", .ref w.mA), ("is_tree", .bl (treeB d))]
structure WebI (H : Hp) (d : WebD) (w : WebA) : Prop where
  k : TX H w.kA (d.kinds.map V.str)
  t : H w.tA = some (.tup w.tys)
  n : H w.nA = some (.tup w.nys)
  h : TF H w.hA (d.hubs.map V.int)
  s : TF H w.sA w.sys
  m : TX H w.mA (d.hubs.map V.int ++ w.sys)
  pt : Paired (PrR H) w.tys d.ties
  pn : Paired (TupR H) w.nys d.near
  ps : Paired (PrR H) w.sys d.stiff
theorem WebI.up {H H' : Hp} {d : WebD} {w : WebA} (e : Ex H H') (h : WebI H d w) : WebI H' d w := ⟨h.k.up e, e _ _ h.t, e _ _ h.n, h.h.up e, h.s.up e, h.m.up e, prs_up e h.pt, L2.Paired.mapP h.pn fun _ _ r => r.up e, prs_up e h.ps⟩
/-- a right web: what its parts keep -/
structure WebK (d : WebD) : Prop where
  len : 1 ≤ d.kinds.length ∧ d.kinds.length ≤ 16
  kok : ∀ z ∈ d.kinds, (PyData.str z).canLay0 = true
  near : d.near.length = d.kinds.length
  rows : ∀ row ∈ d.near, row.length ≤ 4
  ties : d.ties.length ≤ 400
  hubs : d.hubs.length ≤ 1000
  stiff : d.stiff.length ≤ 400
  hin : ∀ h ∈ d.hubs, 0 ≤ h ∧ h < (d.near.length : Int)
  tin : ∀ p ∈ d.ties, (0 ≤ p.1 ∧ p.1 < (d.near.length : Int)) ∧ (0 ≤ p.2 ∧ p.2 < (d.near.length : Int))
def WebH (C : Addr) (H : Hp) (a : Addr) (d : WebD) : Prop := WebK d ∧ ∃ (w : WebA) (dx : Addr), H a = some (.ins C dx (webFs d w)) ∧ WebI H d w
theorem WebH.up {C : Addr} {H H' : Hp} {a : Addr} {d : WebD} (e : Ex H H') (h : WebH C H a d) : WebH C H' a d := by
  obtain ⟨k, w, dx, ha, hi⟩ := h
  exact ⟨k, w, dx, e _ _ ha, hi.up e⟩
/-- the class Web -/
structure WebC (K : PySem.W.Frag) (mg : Str → Option Value) where
  C : Addr
  g : mg "Web" = some (.ref C)
  cls : Cls K C
  n1 : NoAttr K C "kinds"
  n2 : NoAttr K C "ties"
  n3 : NoAttr K C "near"
  n4 : NoAttr K C "hubs"
  n5 : NoAttr K C "stiff"
  n6 : NoAttr K C "marks"
  n7 : NoAttr K C "is_tree"
def clsBody : Stmt → List Stmt
  | .ClassDef (body := b) .. => b
  | _ => []
def webS (i : Nat) : Stmt := (clsBody (topS 65)).getD i (.Pass ⟨0, 0, 0, 0⟩)
section
variable {P : Program} {w : World} {K : PySem.W.Frag} {mg : Str → Option Value} {base : Heap}
theorem fld {W : WebC K mg} {H : Hp} {a : Addr} {d : WebD} {te : TE} {σ : L2.St} {f : Str} {Q : VK} (h : WebH W.C H a d) (he : Ev te σ H (.ref a)) (hn : NoAttr K W.C f)
    (q : ∀ (w : WebA) (H1 : Hp), Ex H H1 → WebI H1 d w → ∃ v, (webFs d w).lookup f = some v ∧ Q v H1) : tFld K te f σ H Q := by
  obtain ⟨k, w, dx, ha, hi⟩ := h
  refine he H (Ex.refl H) _ fun H1 e1 => ?_
  obtain ⟨v, hv, qv⟩ := q w H1 e1 (hi.up e1)
  exact ⟨a, W.C, dx, _, v, rfl, e1 _ _ ha, W.cls, hn, hv, qv⟩
/-! ### __len__ -/
abbrev sLen : Stmt := webS 2
theorem scLen : FnScope ["self"] ["self"] (defScope sLen) := ⟨rfl, rfl, rfl, by decide +kernel, rfl, by decide +kernel, by decide +kernel⟩
abbrev MthP (K : PySem.W.Frag) (x : Str) (st : Stmt) (f : Addr) (fd : FuncData) : Prop := FunD K x ("Web." ++ x) (defArgs st) (defBody st) (defScope st) [] [] f fd
def spLen (C : Addr) : Sp := fun vs H Q _ => ∃ (a : Addr) (d : WebD), vs = [.ref a] ∧ WebH C H a d ∧ ∀ H2, Ex H H2 → Q (.int (d.kinds.length : Int)) H2
/-- a method that lets nothing out -/
theorem okM0 {x q : Str} {st : Stmt} {f : Addr} {fd : FuncData} {N ps : List Str} {k : Nat} {sp : Sp} (F : FunD K x q (defArgs st) (defBody st) (defScope st) [] [] f fd) (S : FnScope N ps (defScope st)) (len : ∀ vs H Q E, sp vs H Q E → vs.length = ps.length)
    (hbody : ∀ (cdv : Value) (A : Around) (outer : List Env) (s : Shared) (H : Hp) (vs : List V) (Q : VK) (E : XK), Room k (A.deeper (envOfC q (defScope st) s.heap.objs.size f cdv)) → sp vs H Q E →
      ∃ t, PSs (cxOf CX0 P w K mg base N q (defScope st) f cdv A outer s H E).nox (defBody st) t ∧ t { nx := fun _ H' => Q .non H', rt := Q } (start N vs) H) : FnOk P w K mg base CX0 (k + 1) f fd ps sp :=
  FunD.ok F S len fun cdv A outer s H vs Q E hr h => by
    obtain ⟨t, h1, h2⟩ := hbody cdv A outer s H vs Q E hr h
    exact ⟨t, h1.nox, h2⟩
theorem ok_len {W : WebC K mg} {f : Addr} {fd : FuncData} {k : Nat} (F : MthP K "__len__" sLen f fd) (B : Bu mg) : FnOk P w K mg base CX0 (k + 1) f fd ["self"] (spLen W.C) := by
  refine okM0 F scLen (fun vs H Q E h => ?_) (fun cdv A outer s H vs Q E hr h => ?_)
  · obtain ⟨a, d, rfl, _⟩ := h
    rfl
  · obtain ⟨a, d, rfl, hW, q⟩ := h
    refine ⟨_, (pss_one (ps_ret (pe_callB call_len_seq rfl B.len PySem.boot_len (pa_cons (pe_fld (pv 0) rfl) pa_nil)))), ?_⟩
    refine s_re (cb_op (a_op (fld (W := W) hW (ev_var rfl) W.n1 fun w H1 e1 hi => ⟨_, rfl, w.kA, _, rfl, .inr hi.k.st, ?_⟩)))
    rw [List.length_map]
    exact q H1 e1
/-- the methods' facts -/
structure WebM (P : Program) (w : World) (K : PySem.W.Frag) (mg : Str → Option Value) (base : Heap) extends WebC K mg where
  fL : Addr
  fdL : FuncData
  atL : PySem.W.findIn K (.ref C) "__len__" = some (some (.ref fL))
  fnL : PySem.W.isFn K (.ref fL) = true
  bL : L2.Binds K fdL ["self"] []
  FL : FnOk P w K mg base CX0 1 fL fdL ["self"] (spLen C)
theorem len_web {M : WebM P w K mg base} {X : Cx} (hX : X.prog = P ∧ X.w = w ∧ X.K = K ∧ X.mg = mg ∧ X.base = base) : True := trivial
/-! ### is_hub, need_piece, need_hub -/
abbrev sIH : Stmt := topS 27
theorem scIH : FnScope ["web", "value"] ["web", "value"] (defScope sIH) := ⟨rfl, rfl, rfl, by decide +kernel, rfl, by decide +kernel, by decide +kernel⟩
def hubB (x : Va) (hubs : List Int) : Bool := match x with
  | .int i => decide (i ∈ hubs)
  | _ => false
def spIH (C : Addr) : Sp := fun vs H Q _ => ∃ (a : Addr) (d : WebD) (v : V) (x : Va), vs = [.ref a, v] ∧ WebH C H a d ∧ Rv H v x ∧ ∀ H2, Ex H H2 → Q (.bl (hubB x d.hubs)) H2
theorem ok_ih {W : WebC K mg} {f : Addr} {fd : FuncData} {k : Nat} (F : FnP K "is_hub" sIH f fd) (B : Bu mg) (I_ : FnA K mg "is_integer" sIsI ["value"]) : FnOk P w K mg base CX0 (k + 2) f fd ["web", "value"] (spIH W.C) := by
  have GI : FnOk P w K mg base CX0 (k + 1) I_.f I_.fd ["value"] spIsI := ok_isI I_.F B
  refine ok0 F scIH (fun vs H Q E h => ?_) (fun cdv A outer s H vs Q E hr h => ?_)
  · obtain ⟨a, d, v, x, rfl, _⟩ := h
    rfl
  · obtain ⟨a, d, v, x, rfl, hW, r, q⟩ := h
    refine ⟨_, (pss_one (ps_ret (pe_and (pe_call GI hr (by rfl) I_.g I_.F.kp I_.b .nil pass0 (pa_cons (pv 1) pa_nil)) (pe_one (pe_cmpR op_in_seq (pv 1) (pe_fld (pv 0) rfl) (by rfl)))))), ?_⟩
    refine s_re (an_op (cl1 rfl ⟨v, tyV x, rfl, r.kd, _, rfl, ?_⟩))
    cases r with
    | int i =>
      refine iteT (op_op (v_op rfl (fld (W := W) hW (ev_var rfl) W.n4 fun w H1 e1 hi => ⟨_, rfl, w.hA, _, rfl, .inr hi.h.st, ?_⟩)))
      refine ⟨rfl, by rw [List.all_eq_true]; intro y hy; obtain ⟨n, _, rfl⟩ := List.mem_map.mp hy; rfl, ?_⟩
      show Q (.bl (inV (.int i) (d.hubs.map V.int))) H1
      rw [inV_ints]
      exact q H1 e1
    | _ => exact iteF (q H (Ex.refl H))
end
end KW
namespace KX
open PySem PySem.Spec PyProof.Rows L2 Evl KR KS
/-! ### comprehensions over pairs: for x, y in ps -/
def PrV (K : PySem.W.Frag) (H : Hp) (v : V) (p : V × V) : Prop := ∃ b, v = .ref b ∧ SqT K H b [p.1, p.2]
section
variable {K : PySem.W.Frag} {σ : L2.St} {H : Hp}
/-- each item a new object -/
theorem eo2_lcSq {β : Type} {G : HO → β → Prop} {a : Addr} {xs : List V} {ps : List (V × V)} {tl te : TE} {j k : Nat} {vs : List Nat} (ys : List β) (hl : xs.length = ys.length) (h : Ev tl σ H (.ref a)) (hx : Sq K H a xs) (hP : Paired (PrV K H) xs ps) (hz : ys.length ≤ 40000)
    (hw : ∀ x y, wipe (((wipe σ vs).set j (some x)).set k (some y)) vs = wipe σ vs)
    (he : ∀ (i : Nat) (x y : V) (z : β) H1, Ex H H1 → ps[i]? = some (x, y) → ys[i]? = some z → EvF G te (((wipe σ vs).set j (some x)).set k (some y)) H1 z) : EvO' G (tLc (iSeq K tl) (gTup K 2 (gCons (gName j) (gCons (gName k) gNil))) tYes te vs) σ H ys := fun H0 e Q q => h H0 e _ fun H1 e1 => ⟨a, rfl, by
  have turn : ∀ (D : Addr) i x H', xs[i]? = some x → Co G H1 ys D i H' → (gTup K 2 (gCons (gName j) (gCons (gName k) gNil))) x (wipe σ vs) H' fun σ2 H2 => wipe σ2 vs = wipe σ vs ∧ tYes σ2 H2 fun b H3 =>
      if b = true then te σ2 H3 fun y H4 => ∃ acc, H4 D = some (.lst acc) ∧ acc.length < sizeLine ∧ Co G H1 ys D (i + 1) (upd H4 D (.lst (acc ++ [y]))) else Co G H1 ys D (i + 1) H3 := fun D i x H' hi p => by
    have hi2 : i < ys.length := by
      have := (List.getElem?_eq_some_iff.mp hi).1
      omega
    obtain ⟨⟨u, v⟩, hu, b, rfl, hb⟩ := pget hP hi
    exact ⟨b, [u, v], rfl, ex_t ((e.trans e1).trans p.2.1) hb, rfl, _, _, rfl, _, _, rfl, rfl, hw u v, co_turn (List.getElem?_eq_getElem hi2) (by omega) p (he i u v _ H1 (e.trans e1) hu (List.getElem?_eq_getElem hi2))⟩
  have fin : ∀ (D : Addr), H1 D = none → ∀ H', Co G H1 ys D xs.length H' → Q (.ref D) H' := fun D hD H' p => by
    rw [hl] at p
    obtain ⟨p2, vs', p3, p4⟩ := p.end_
    exact q D vs' H' (fresh_back e1 hD) (e1.trans p2) p3 p4
  rcases hx with hx | hx
  · exact .inl ⟨xs, ex_l (e.trans e1) hx, fun D hD => lc_it walk_list (Co G H1 ys D) (Co.start hD) (fun i H' _ p => ex_l ((e.trans e1).trans p.2.1) hx) (fun i x H' H'' hi p ⟨e2, hi2⟩ => by subst e2; exact turn D i x _ hi2 p) (fin D hD)⟩
  · exact .inr ⟨xs, ex_t (e.trans e1) hx, fun D hD => lc_it walk_tup (Co G H1 ys D) (Co.start hD) (fun i H' _ p => ex_t ((e.trans e1).trans p.2.1) hx) (fun i x H' H'' hi p ⟨e2, hi2⟩ => by subst e2; exact turn D i x _ hi2 p) (fin D hD)⟩⟩
/-- plain items, with a filter -/
theorem el2_lcSq {a : Addr} {xs : List V} {ps : List (V × V)} {tl te : TE} {t : TT} {j k : Nat} {vs : List Nat} (f : Nat → Bool) (v : Nat → V) (h : Ev tl σ H (.ref a)) (hx : Sq K H a xs) (hP : Paired (PrV K H) xs ps) (hz : xs.length ≤ 40000)
    (hw : ∀ x y, wipe (((wipe σ vs).set j (some x)).set k (some y)) vs = wipe σ vs)
    (ht : ∀ (i : Nat) (x y : V) H1, Ex H H1 → ps[i]? = some (x, y) → EvT t (((wipe σ vs).set j (some x)).set k (some y)) H1 (f i)) (he : ∀ (i : Nat) (x y : V) H1, Ex H H1 → ps[i]? = some (x, y) → f i = true → Ev te (((wipe σ vs).set j (some x)).set k (some y)) H1 (v i)) :
    EvL (tLc (iSeq K tl) (gTup K 2 (gCons (gName j) (gCons (gName k) gNil))) t te vs) σ H (given xs.length f v) := fun H0 e Q q => h H0 e _ fun H1 e1 => ⟨a, rfl, by
  have turn : ∀ (D : Addr) i x H', xs[i]? = some x → Cw H1 f v D i H' → (gTup K 2 (gCons (gName j) (gCons (gName k) gNil))) x (wipe σ vs) H' fun σ2 H2 => wipe σ2 vs = wipe σ vs ∧ t σ2 H2 fun b H3 =>
      if b = true then te σ2 H3 fun y H4 => ∃ acc, H4 D = some (.lst acc) ∧ acc.length < sizeLine ∧ Cw H1 f v D (i + 1) (upd H4 D (.lst (acc ++ [y]))) else Cw H1 f v D (i + 1) H3 := fun D i x H' hi p => by
    obtain ⟨⟨u, w⟩, hu, b, rfl, hb⟩ := pget hP hi
    exact ⟨b, [u, w], rfl, ex_t ((e.trans e1).trans p.2.1) hb, rfl, _, _, rfl, _, _, rfl, rfl, hw u w, cw_turn p (by have := (List.getElem?_eq_some_iff.mp hi).1; omega) (ht i u w H1 (e.trans e1) hu) (he i u w H1 (e.trans e1) hu)⟩
  have fin : ∀ (D : Addr), H1 D = none → ∀ H', Cw H1 f v D xs.length H' → Q (.ref D) H' := fun D hD H' p => q D H' (fresh_back e1 hD) (e1.trans p.2.1) p.2.2
  rcases hx with hx | hx
  · exact .inl ⟨xs, ex_l (e.trans e1) hx, fun D hD => lc_it walk_list (Cw H1 f v D) ⟨hD, Ex.new hD, upd_same⟩ (fun i H' _ p => ex_l ((e.trans e1).trans p.2.1) hx) (fun i x H' H'' hi p ⟨e2, hi2⟩ => by subst e2; exact turn D i x _ hi2 p) (fin D hD)⟩
  · exact .inr ⟨xs, ex_t (e.trans e1) hx, fun D hD => lc_it walk_tup (Cw H1 f v D) ⟨hD, Ex.new hD, upd_same⟩ (fun i H' _ p => ex_t ((e.trans e1).trans p.2.1) hx) (fun i x H' H'' hi p ⟨e2, hi2⟩ => by subst e2; exact turn D i x _ hi2 p) (fin D hD)⟩⟩
end
end KX
namespace KW
open PySem PySem.Spec PyProof.Rows L2 KR KS KX Evl StX
theorem k_op {v : V} {σ : L2.St} {H : Hp} {Q : VK} (h : Q v H) : tC v σ H Q := h
theorem webH_C {C : Addr} {H : Hp} {a : Addr} {d : WebD} (h : WebH C H a d) : ∃ dx fs, H a = some (.ins C dx fs) := by
  obtain ⟨_, w, dx, ha, _⟩ := h
  exact ⟨dx, _, ha⟩
def gSq (K : PySem.W.Frag) (n : Nat) (t : TGs) : TG := fun v σ H Q => gTup K n t v σ H Q ∨ gUnl K n t v σ H Q
theorem pg_sq {X : Cx} {es : List Expr} {k : Nat} {pos : Pos} {t : TGs} {n : Nat} (hc : X.calm = true) (h : PGs X es t) (hn : (assignEach es X.env).length = n := by rfl) (hst : (assignEach es X.env).findIdx? (·.1) = none := by rfl) : PG X (.Tuple es k pos) (gSq X.K n t) :=
  ⟨fun pins s σ H v u Q I r hq => hq.elim (fun q => (pg_tup hc h hn hst).run pins s σ H v u Q I r q) fun q => (pg_unl hc h hn hst).run pins s σ H v u Q I r q⟩
theorem sq_op {K : PySem.W.Frag} {H : Hp} {a : Addr} {xs : List V} {n : Nat} {t : TGs} {σ : L2.St} {Q : L2.St → Hp → Prop} (h : Sq K H a xs) (hl : xs.length = n) (q : t xs σ H Q) : gSq K n t (.ref a) σ H Q := by
  rcases h with h | h
  · exact .inr ⟨a, xs, rfl, h, hl, q⟩
  · exact .inl ⟨a, xs, rfl, h, hl, q⟩
/-! ### need_piece, need_hub -/
def pieceB (x : Va) (n : Nat) : Bool := match x with
  | .int i => decide (0 ≤ i) && decide (i ≤ (n : Int) - 1)
  | _ => false
theorem wit_piece {H : Hp} {v : V} {x : Va} (r : Rv H v x) (n : Nat) : wit v (some 0) (some ((n : Int) - 1)) = pieceB x n := by
  cases r <;> first | rfl | simp [wit, pieceB]
section
variable {P : Program} {w : World} {K : PySem.W.Frag} {mg : Str → Option Value} {base : Heap}
abbrev sNPc : Stmt := topS 29
theorem scNPc : FnScope ["web", "value"] ["web", "value"] (defScope sNPc) := ⟨rfl, rfl, rfl, by decide +kernel, rfl, by decide +kernel, by decide +kernel⟩
def spNPc (S : Es P w K mg base) (C : Addr) : Sp := fun vs H Q E => ∃ (a : Addr) (d : WebD) (v : V) (x : Va), vs = [.ref a, v] ∧ WebH C H a d ∧ Rv H v x ∧ if pieceB x d.kinds.length = true then ∀ H2, Ex H H2 → Q .non H2 else Rz S H E (.piece x)
theorem ok_npc {S : Es P w K mg base} {M : WebM P w K mg base} {f : Addr} {fd : FuncData} {k : Nat} (F : FnP K "need_piece" sNPc f fd) (B : Bu mg) (W_ : FnA K mg "is_within" sWit ["value", "least", "most"]) (I_ : FnA K mg "is_integer" sIsI ["value"]) : FnOk P w K mg base (L2.CX P w) (k + 3) f fd ["web", "value"] (spNPc S M.C) := by
  have GW : FnOk P w K mg base CX0 (k + 2) W_.f W_.fd ["value", "least", "most"] spWit := ok_wit W_.F B I_
  refine okE F scNPc (fun vs H Q E h => ?_) (fun cdv A outer s H vs Q E hr h => ?_)
  · obtain ⟨a, d, v, x, rfl, _⟩ := h
    rfl
  · obtain ⟨a, d, v, x, rfl, hW, r, q⟩ := h
    refine ⟨_, (pss_one (ps_if (pt_not (pt_val (pe_call GW hr (by rfl) W_.g W_.F.kp W_.b .nil pass0 (pa_cons (pv 1) (pa_cons pe_int (pa_cons (pe_op op_sub (pe_callB (call_lenO M.FL M.atL M.fnL M.bL pass0 (hr.mono (by omega))) rfl B.len PySem.boot_len (pa_cons (pv 0) pa_nil)) pe_int) pa_nil)))))) (pss_one (ps_rs1 S.piece (hr.mono (by omega)) (pv 1) (takes_of rfl rfl rfl rfl))) pss_nil)), ?_⟩
    obtain ⟨dx, fs, ha⟩ := webH_C hW
    have hk := hW.1.len
    refine s_if0 (c_op (a_op (v_op rfl (a_op (k_op (a_op (op_op (cb_op (a_op (v_op rfl (n_op ⟨a, dx, fs, rfl, ha, a, d, rfl, hW, fun H2 e2 => ⟨d.kinds.length, rfl, by omega, _, _, rfl, rfl, ?_⟩⟩)))))))))))
    refine n_op ⟨v, tyV x, some 0, some ((d.kinds.length : Int) - 1), rfl, (r.up e2).kd, _, rfl, ?_⟩
    rw [wit_piece (r.up e2)]
    cases hp : pieceB x d.kinds.length with
    | true => rw [hp, if_pos rfl] at q; exact iteF (q H2 e2)
    | false => rw [hp, if_neg Bool.false_ne_true] at q; exact iteT ⟨_, rfl, rs_piece q e2 (r.up e2)⟩
abbrev sNHb : Stmt := topS 31
theorem scNHb : FnScope ["web", "value"] ["web", "value"] (defScope sNHb) := ⟨rfl, rfl, rfl, by decide +kernel, rfl, by decide +kernel, by decide +kernel⟩
def spNHb (S : Es P w K mg base) (C : Addr) : Sp := fun vs H Q E => ∃ (a : Addr) (d : WebD) (v : V) (x : Va), vs = [.ref a, v] ∧ WebH C H a d ∧ Rv H v x ∧ if hubB x d.hubs = true then ∀ H2, Ex H H2 → Q .non H2 else Rz S H E (.mark x)
theorem ok_nhb {S : Es P w K mg base} {M : WebM P w K mg base} {f : Addr} {fd : FuncData} {k : Nat} (F : FnP K "need_hub" sNHb f fd) (B : Bu mg) (H_ : FnA K mg "is_hub" sIH ["web", "value"]) (I_ : FnA K mg "is_integer" sIsI ["value"]) : FnOk P w K mg base (L2.CX P w) (k + 3) f fd ["web", "value"] (spNHb S M.C) := by
  have GH : FnOk P w K mg base CX0 (k + 2) H_.f H_.fd ["web", "value"] (spIH M.C) := ok_ih (W := M.toWebC) H_.F B I_
  refine okE F scNHb (fun vs H Q E h => ?_) (fun cdv A outer s H vs Q E hr h => ?_)
  · obtain ⟨a, d, v, x, rfl, _⟩ := h
    rfl
  · obtain ⟨a, d, v, x, rfl, hW, r, q⟩ := h
    refine ⟨_, (pss_one (ps_if (pt_not (pt_val (pe_call GH hr (by rfl) H_.g H_.F.kp H_.b .nil pass0 (pa_cons (pv 0) (pa_cons (pv 1) pa_nil))))) (pss_one (ps_rs1 S.mark (hr.mono (by omega)) (pv 1) (takes_of rfl rfl rfl rfl))) pss_nil)), ?_⟩
    refine s_if0 (cl2 rfl rfl ⟨a, d, v, x, rfl, hW, r, fun H2 e2 => ⟨_, rfl, ?_⟩⟩)
    cases hp : hubB x d.hubs with
    | true => rw [hp, if_pos rfl] at q; exact iteF (q H2 e2)
    | false => rw [hp, if_neg Bool.false_ne_true] at q; exact iteT ⟨_, rfl, rs_mark q e2 (r.up e2)⟩
end
end KW
namespace KW
open PySem PySem.Spec PyProof.Rows L2 KR KS KX Evl StX
/-! ### neighbours, seats -/
theorem row_ix {K : PySem.W.Frag} {H : Hp} {n : Addr} {zs : List V} {near : List (List Int)} {h : Int} (hn : H n = some (.tup zs)) (hP : Paired (TupR H) zs near) (h0 : 0 ≤ h ∧ h < (near.length : Int)) {Q : VK}
    (q : ∀ b, H b = some (.tup ((rowAt near h).map V.int)) → Q (.ref b) H) : rIx K (.ref n) (.int h) H Q := by
  have hlt : h.toNat < near.length := by omega
  obtain ⟨v, hv, b, rfl, hb⟩ := pgetR hP (List.getElem?_eq_getElem hlt)
  have hr : rowAt near h = near[h.toNat] := by unfold rowAt; exact getD_at (List.getElem?_eq_getElem hlt)
  rw [← hr] at hb
  exact .inr (.inl ⟨n, zs, h, .ref b, rfl, rfl, st_of hn, at_of (j := h.toNat) (by omega) hv, q b hb⟩)
section
variable {P : Program} {w : World} {K : PySem.W.Frag} {mg : Str → Option Value} {base : Heap}
/-- a method that raises own errors -/
theorem okME {x q : Str} {st : Stmt} {f : Addr} {fd : FuncData} {N ps : List Str} {k : Nat} {sp : Sp} (F : FunD K x q (defArgs st) (defBody st) (defScope st) [] [] f fd) (S : FnScope N ps (defScope st)) (len : ∀ vs H Q E, sp vs H Q E → vs.length = ps.length)
    (hbody : ∀ (cdv : Value) (A : Around) (outer : List Env) (s : Shared) (H : Hp) (vs : List V) (Q : VK) (E : XK), Room k (A.deeper (envOfC q (defScope st) s.heap.objs.size f cdv)) → sp vs H Q E →
      ∃ t, PSs (cxOf (L2.CX P w) P w K mg base N q (defScope st) f cdv A outer s H E) (defBody st) t ∧ t { nx := fun _ H' => Q .non H', rt := Q } (start N vs) H) : FnOk P w K mg base (L2.CX P w) (k + 1) f fd ps sp :=
  FunD.ok F S len hbody
abbrev sNb : Stmt := webS 5
theorem scNb : FnScope ["self", "piece"] ["self", "piece"] (defScope sNb) := ⟨rfl, rfl, rfl, by decide +kernel, rfl, by decide +kernel, by decide +kernel⟩
def spNb (S : Es P w K mg base) (C : Addr) : Sp := fun vs H Q E => ∃ (a : Addr) (d : WebD) (v : V) (x : Va), vs = [.ref a, v] ∧ WebH C H a d ∧ Rv H v x ∧ if pieceB x d.kinds.length = true then ∀ b H2, Ex H H2 → H2 b = some (.tup ((rowAt d.near (intV x)).map V.int)) → Q (.ref b) H2 else Rz S H E (.piece x)
theorem ok_nb {S : Es P w K mg base} {M : WebM P w K mg base} {f : Addr} {fd : FuncData} {k : Nat} (F : MthP K "neighbours" sNb f fd) (B : Bu mg) (N_ : FnA K mg "need_piece" sNPc ["web", "value"]) (W_ : FnA K mg "is_within" sWit ["value", "least", "most"]) (I_ : FnA K mg "is_integer" sIsI ["value"]) : FnOk P w K mg base (L2.CX P w) (k + 4) f fd ["self", "piece"] (spNb S M.C) := by
  have GN : FnOk P w K mg base (L2.CX P w) (k + 3) N_.f N_.fd ["web", "value"] (spNPc S M.C) := ok_npc N_.F B W_ I_
  refine okME F scNb (fun vs H Q E h => ?_) (fun cdv A outer s H vs Q E hr h => ?_)
  · obtain ⟨a, d, v, x, rfl, _⟩ := h
    rfl
  · obtain ⟨a, d, v, x, rfl, hW, r, q⟩ := h
    refine ⟨_, (pss_cons (ps_expr (pe_call GN hr (by rfl) N_.g N_.F.kp N_.b .nil (passes_call (takes_of rfl rfl rfl rfl) (fun _ _ _ _ h => h)) (pa_cons (pv 0) (pa_cons (pv 1) pa_nil))))
      (pss_one (ps_ret (pe_ix ix_seq (pe_fld (pv 0) rfl) (pv 1) (fun _ _ => rfl))))), ?_⟩
    refine q_ex (cl2 rfl rfl ⟨a, d, v, x, rfl, hW, r, ?_⟩)
    cases hp : pieceB x d.kinds.length with
    | false => rw [hp, if_neg Bool.false_ne_true] at q; rw [if_neg Bool.false_ne_true]; exact q
    | true =>
      rw [hp, if_pos rfl] at q
      rw [if_pos rfl]
      intro H2 e2
      cases r with
      | int i =>
        unfold pieceB at hp
        rw [Bool.and_eq_true, decide_eq_true_eq, decide_eq_true_eq] at hp
        refine s_re (op_op (fld (W := M.toWebC) (hW.up e2) (ev_var rfl) M.n3 fun w H3 e3 hi => ⟨_, rfl, v_op rfl (row_ix hi.n hi.pn (by rw [hW.1.near]; omega) fun b hb => q b H3 (e2.trans e3) hb)⟩))
      | _ => cases hp
end
end KW
namespace KW
open PySem PySem.Spec PyProof.Rows L2 KR KS KX Evl StX
/-! ### others -/
theorem room65 {k : Nat} {A : Around} (r : Room k A) : A.units + 65 < cLine := by have := r.un; omega
theorem tup_op {K : PySem.W.Frag} {H : Hp} {a : Addr} {xs : List V} {Q : VK} (h : Sq K H a xs) (q : ∀ b H2, Ex H H2 → SqT K H2 b xs → Q (.ref b) H2) : kTup K (.ref a) H Q := by
  rcases h with h | h
  · exact .inl ⟨a, xs, rfl, h, fun p hp => q p _ (Ex.new hp) (st_of upd_same)⟩
  · exact .inr ⟨a, xs, rfl, h, q a H (Ex.refl H) h⟩
def pl (p : Int × Int) : List Int := [p.1, p.2]
theorem pairD_pl : ∀ l : List (Int × Int), l.map pqD = (l.map pl).map fun c => PyData.tuple (c.map PyData.int) := fun l => by
  rw [List.map_map]
  rfl
theorem gd_ints {K : PySem.W.Frag} {H : Hp} {n : Nat} : ∀ c : List Int, Paired (fun v d => GD K H v d n) (c.map V.int) (c.map PyData.int)
  | [] => .nil
  | i :: c => .cons (.int i) (gd_ints c)
theorem gd_pairs {K : PySem.W.Frag} {H : Hp} : ∀ {ys : List V} {ps : List (Int × Int)}, Paired (PrR H) ys ps → Paired (fun v d => GD K H v d 1) ys (ps.map pqD)
  | _, _, .nil => .nil
  | _, _, .cons a b => by
    obtain ⟨t, rfl, ht⟩ := a
    exact .cons (GD.tup (n := 0) (st_of ht) (.cons (.int _) (.cons (.int _) .nil))) (gd_pairs b)
def tieB (x : Va) (ties : List (Int × Int)) : Bool := isNums x && decide (intsV x ∈ ties.map pl)
def othersM (near : List (List Int)) (c : List Int) : List (List Int) := [(rowAt near (c.getD 0 0)).filter fun f => !decide (f = c.getD 1 0), (rowAt near (c.getD 1 0)).filter fun f => !decide (f = c.getD 0 0)]
theorem given_filter {l : List Int} (f : Int → Bool) : given (l.map V.int).length (fun i => f (l.getD i 0)) (fun i => V.int (l.getD i 0)) = (l.filter f).map V.int := by
  unfold given
  rw [List.length_map]
  have h : (List.range l.length).map (fun i => l.getD i 0) = l := by
    refine List.ext_getElem? fun i => ?_
    rw [List.getElem?_map]
    by_cases hi : i < l.length
    · rw [List.getElem?_range hi, List.getElem?_eq_getElem hi]
      exact congrArg some (getD_at (List.getElem?_eq_getElem hi))
    · rw [List.getElem?_eq_none (l := List.range l.length) (by simpa using hi), List.getElem?_eq_none (l := l) (by omega)]
      rfl
  conv => rhs; rw [← h, List.filter_map, List.map_map]
  rfl
section
variable {P : Program} {w : World} {K : PySem.W.Frag} {mg : Str → Option Value} {base : Heap}
theorem fldW {W : WebC K mg} {H : Hp} {a dx : Addr} {d : WebD} {w : WebA} {te : TE} {σ : L2.St} {f : Str} {v : V} {Q : VK} (ha : H a = some (.ins W.C dx (webFs d w))) (he : Ev te σ H (.ref a)) (hn : NoAttr K W.C f) (hv : (webFs d w).lookup f = some v) (q : ∀ H1, Ex H H1 → Q v H1) : tFld K te f σ H Q :=
  he H (Ex.refl H) _ fun H1 e1 => ⟨a, W.C, dx, _, v, rfl, e1 _ _ ha, W.cls, hn, hv, q H1 e1⟩
end
end KW
namespace KW
open PySem PySem.Spec PyProof.Rows L2 KR KS KX Evl StX
/-! ### == of webs -/
def eqW (d e : WebD) : Bool := decide (d.kinds = e.kinds) && (decide (d.ties = e.ties) && (decide (d.hubs = e.hubs) && decide (d.stiff = e.stiff)))
theorem gd_strs {K : PySem.W.Frag} {H : Hp} {n : Nat} : ∀ c : List Str, (∀ z ∈ c, (PyData.str z).canLay0 = true) → Paired (fun v d => GD K H v d n) (c.map V.str) (c.map PyData.str)
  | [], _ => .nil
  | z :: c, h => .cons (.str (h z List.mem_cons_self)) (gd_strs c fun y hy => h y (List.mem_cons_of_mem _ hy))
theorem and_step {te tb : TE} {σ : L2.St} {H : Hp} {Q : VK} {c : Bool} (h : ∀ Q : VK, (∀ H2, Ex H H2 → Q (.bl c) H2) → te σ H Q) (ht : c = true → ∀ H2, Ex H H2 → tb σ H2 Q) (hf : c = false → ∀ H2, Ex H H2 → Q (.bl false) H2) : tAndV te tb σ H Q :=
  an_op (h _ fun H2 e2 => ⟨c, rfl, by
    cases c with
    | true => exact iteT (ht rfl H2 e2)
    | false => exact iteF (hf rfl H2 e2)⟩)
section
variable {P : Program} {w : World} {K : PySem.W.Frag} {mg : Str → Option Value} {base : Heap}
/-- what isinstance asks of the class -/
structure WebE (K : PySem.W.Frag) (C : Addr) : Prop where
  ha : PySem.W.findIn K (.ref C) "__class__" = some (some (.builtin "object.__class__"))
  hn : PySem.W.specialIn K (.builtin "object.__class__") "__get__" = some (some (.builtin "getset_descriptor.__get__"))
  htk : PySem.W.takesIn K (.builtin "object.__class__") = some true
  hm : PySem.W.mroIn K C (.type "object") = some true
  own : PySem.W.kitOne K (.ref C) (.ref C) = some true
  lst : PySem.W.kitOne K (.type "list") (.ref C) = some false
  nf : PySem.W.notFirst K C (.type "list") = true
abbrev sEq : Stmt := webS 1
theorem scEq : FnScope ["self", "other"] ["self", "other"] (defScope sEq) := ⟨rfl, rfl, rfl, by decide +kernel, rfl, by decide +kernel, by decide +kernel⟩
def spEqW (C : Addr) : Sp := fun vs H Q _ => ∃ (a : Addr) (d : WebD) (b : Addr), vs = [.ref a, .ref b] ∧ WebH C H a d ∧ ((∃ e, WebH C H b e ∧ ∀ H2, Ex H H2 → Q (.bl (eqW d e)) H2) ∨ (∃ xs, H b = some (.lst xs) ∧ ∀ H2, Ex H H2 → Q (.bl false) H2))
theorem eq_kinds {W : WebC K mg} {H : Hp} {a b : Addr} {d e : WebD} {σ : L2.St} {Q : VK} (hW : WebH W.C H a d) (hE : WebH W.C H b e) (h0 : σ[0]? = some (some (.ref a))) (h1 : σ[1]? = some (some (.ref b))) (q : ∀ H2, Ex H H2 → Q (.bl (decide (d.kinds = e.kinds))) H2) :
    tOp (rEqD K) (tFld K (tVar 0) "kinds") (tFld K (tVar 1) "kinds") σ H Q :=
  op_op (fld (W := W) hW (ev_var h0) W.n1 fun w1 H1 e1 hi1 => ⟨_, rfl, fld (W := W) (hE.up e1) (ev_var h1) W.n1 fun w2 H2 e2 hi2 => ⟨_, rfl, eq_gd (n := 1) (m := 1) (GD.tup (n := 0) (hi1.up e2).k.st (gd_strs _ hW.1.kok)) (GD.tup (n := 0) hi2.k.st (gd_strs _ hE.1.kok)) (by
    rw [eqv_tmap _ eqv_str]
    exact q H2 (e1.trans e2))⟩⟩)
theorem eq_ties {W : WebC K mg} {H : Hp} {a b : Addr} {d e : WebD} {σ : L2.St} {Q : VK} (hW : WebH W.C H a d) (hE : WebH W.C H b e) (h0 : σ[0]? = some (some (.ref a))) (h1 : σ[1]? = some (some (.ref b))) (q : ∀ H2, Ex H H2 → Q (.bl (decide (d.ties = e.ties))) H2) :
    tOp (rEqD K) (tFld K (tVar 0) "ties") (tFld K (tVar 1) "ties") σ H Q :=
  op_op (fld (W := W) hW (ev_var h0) W.n2 fun w1 H1 e1 hi1 => ⟨_, rfl, fld (W := W) (hE.up e1) (ev_var h1) W.n2 fun w2 H2 e2 hi2 => ⟨_, rfl, eq_gd (n := 2) (m := 2) (GD.tup (n := 1) (st_of (hi1.up e2).t) (gd_pairs (hi1.up e2).pt)) (GD.tup (n := 1) (st_of hi2.t) (gd_pairs hi2.pt)) (by
    rw [eqv_tmap _ eqv_pair]
    exact q H2 (e1.trans e2))⟩⟩)
theorem eq_hubs {W : WebC K mg} {H : Hp} {a b : Addr} {d e : WebD} {σ : L2.St} {Q : VK} (hW : WebH W.C H a d) (hE : WebH W.C H b e) (h0 : σ[0]? = some (some (.ref a))) (h1 : σ[1]? = some (some (.ref b))) (q : ∀ H2, Ex H H2 → Q (.bl (decide (d.hubs = e.hubs))) H2) :
    tOp (rEqD K) (tFld K (tVar 0) "hubs") (tFld K (tVar 1) "hubs") σ H Q :=
  op_op (fld (W := W) hW (ev_var h0) W.n4 fun w1 H1 e1 hi1 => ⟨_, rfl, fld (W := W) (hE.up e1) (ev_var h1) W.n4 fun w2 H2 e2 hi2 => ⟨_, rfl, eq_gd (n := 1) (m := 1) (GD.tup (n := 0) (hi1.up e2).h.st (gd_ints _)) (GD.tup (n := 0) hi2.h.st (gd_ints _)) (by
    rw [eqv_tmap _ eqv_int]
    have e : (decide (d.hubs = e.hubs)) = decide (d.hubs = e.hubs) := rfl
    exact q H2 (e1.trans e2))⟩⟩)
theorem eq_stiff {W : WebC K mg} {H : Hp} {a b : Addr} {d e : WebD} {σ : L2.St} {Q : VK} (hW : WebH W.C H a d) (hE : WebH W.C H b e) (h0 : σ[0]? = some (some (.ref a))) (h1 : σ[1]? = some (some (.ref b))) (q : ∀ H2, Ex H H2 → Q (.bl (decide (d.stiff = e.stiff))) H2) :
    tOp (rEqD K) (tFld K (tVar 0) "stiff") (tFld K (tVar 1) "stiff") σ H Q :=
  op_op (fld (W := W) hW (ev_var h0) W.n5 fun w1 H1 e1 hi1 => ⟨_, rfl, fld (W := W) (hE.up e1) (ev_var h1) W.n5 fun w2 H2 e2 hi2 => ⟨_, rfl, eq_gd (n := 2) (m := 2) (GD.tup (n := 1) (hi1.up e2).s.st (gd_pairs (hi1.up e2).ps)) (GD.tup (n := 1) hi2.s.st (gd_pairs hi2.ps)) (by
    rw [eqv_tmap _ eqv_pair]
    exact q H2 (e1.trans e2))⟩⟩)
theorem ok_eqw {W : WebC K mg} {f : Addr} {fd : FuncData} {k : Nat} (F : MthP K "__eq__" sEq f fd) (B : Bu mg) (Z : WebE K W.C) : FnOk P w K mg base CX0 (k + 1) f fd ["self", "other"] (spEqW W.C) := by
  refine okM0 F scEq (fun vs H Q E h => ?_) (fun cdv A outer s H vs Q E hr h => ?_)
  · obtain ⟨a, d, b, rfl, _⟩ := h
    rfl
  · obtain ⟨a, d, b, rfl, hW, h⟩ := h
    have hu := hr.units
    refine ⟨_, (pss_one (ps_ret (pe_and (pe_callB call_isi rfl B.isinstance boot_isinstance (pa_cons (pv 1) (pa_cons (pe_glob (v := V.ref W.C) rfl W.g rfl) pa_nil))) (pe_and (pe_cmpR (op_eqD hu) (pe_fld (pv 0) rfl) (pe_fld (pv 1) rfl) (nomark _)) (pe_and (pe_cmpR (op_eqD hu) (pe_fld (pv 0) rfl) (pe_fld (pv 1) rfl) (nomark _)) (pe_and (pe_cmpR (op_eqD hu) (pe_fld (pv 0) rfl) (pe_fld (pv 1) rfl) (nomark _)) (pe_one (pe_cmpR (op_eqD hu) (pe_fld (pv 0) rfl) (pe_fld (pv 1) rfl) (nomark _))))))))), ?_⟩
    refine s_re ?_
    rcases h with ⟨e, hE, q⟩ | ⟨xs, hb, q⟩
    · refine and_step (c := true) (fun Q2 q2 => ?_) (fun _ H2 e2 => ?_) (fun z => nomatch z)
      · obtain ⟨_, w2, dx, hb, _⟩ := id hE
        exact cb_op (a_op (v_op rfl (a_op (k_op (n_op ⟨_, _, _, _, _, rfl, .own W.C, .base (.ins hb W.cls Z.ha Z.hn Z.htk Z.hm), Z.own, q2 H (Ex.refl H)⟩)))))
      have hW2 := hW.up e2
      have hE2 := hE.up e2
      refine and_step (c := decide (d.kinds = e.kinds)) (fun Q2 q2 => eq_kinds (W := W) hW2 hE2 rfl rfl q2) (fun c1 H3 e3 => ?_) (fun c1 H3 e3 => ?_)
      · refine and_step (c := decide (d.ties = e.ties)) (fun Q2 q2 => eq_ties (W := W) (hW2.up e3) (hE2.up e3) rfl rfl q2) (fun c2 H4 e4 => ?_) (fun c2 H4 e4 => ?_)
        · refine and_step (c := decide (d.hubs = e.hubs)) (fun Q2 q2 => eq_hubs (W := W) ((hW2.up e3).up e4) ((hE2.up e3).up e4) rfl rfl q2) (fun c3 H5 e5 => ?_) (fun c3 H5 e5 => ?_)
          · refine eq_stiff (W := W) (((hW2.up e3).up e4).up e5) (((hE2.up e3).up e4).up e5) rfl rfl fun H6 e6 => ?_
            have := q H6 ((((e2.trans e3).trans e4).trans e5).trans e6)
            unfold eqW at this
            rw [c1, c2, c3, Bool.true_and, Bool.true_and, Bool.true_and] at this
            exact this
          · have := q H5 (((e2.trans e3).trans e4).trans e5)
            unfold eqW at this
            rw [c1, c2, c3, Bool.true_and, Bool.true_and, Bool.false_and] at this
            exact this
        · have := q H4 ((e2.trans e3).trans e4)
          unfold eqW at this
          rw [c1, c2, Bool.true_and, Bool.false_and] at this
          exact this
      · have := q H3 (e2.trans e3)
        unfold eqW at this
        rw [c1, Bool.false_and] at this
        exact this
    · refine and_step (c := false) (fun Q2 q2 => ?_) (fun z => nomatch z) (fun _ H2 e2 => q H2 e2)
      exact cb_op (a_op (v_op rfl (a_op (k_op (n_op ⟨_, _, _, _, _, rfl, .own W.C, .base (.lst hb), Z.lst, q2 H (Ex.refl H)⟩)))))
end
end KW
namespace KW
open PySem PySem.Spec PyProof.Rows L2 KR KS KX Evl StX
/-! ### what makes a web -/
def preM (dk dt : Va) : Except Er (List (Int × Int) × List (List Int)) :=
  if areKinds dk = false then .error (.web "kinds") else
  match tiesM dt ((itemsV dk).length : Int) with
  | .error r => .error r
  | .ok ts => match nearM ((itemsV dk).length : Int) ts with
    | .error r => .error r
    | .ok near => .ok (ts, near)
def strV : Va → Str
  | .str z => z
  | _ => ""
def kindsV (d : Va) : List Str := (itemsV d).map strV
def postM (dk : Va) (ts : List (Int × Int)) (near : List (List Int)) (dh ds : Va) : Except Er WebD :=
  match hubsM dh near with
  | .error r => .error r
  | .ok hs => match stiffM ds ts hs near with
    | .error r => .error r
    | .ok ss => if 16 < (itemsV dk).length then .error (.many "pieces" 16) else .ok ⟨kindsV dk, ts, near, hs, ss⟩
theorem tiesM_ok {d : Va} {m : Int} {ts : List (Int × Int)} (h : tiesM d m = .ok ts) : ts.length = (itemsV d).length ∧ ∀ p ∈ ts, (0 ≤ p.1 ∧ p.1 < m) ∧ (0 ≤ p.2 ∧ p.2 < m) := by
  unfold tiesM at h
  split at h
  · cases h
  split at h
  · cases h
  rename_i hb
  split at h
  · cases h
  cases h
  refine ⟨by rw [(sortP_perm _).length_eq, List.length_map], fun p hp => ?_⟩
  obtain ⟨t, ht, rfl⟩ := List.mem_map.mp ((sortP_perm _).mem_iff.mp hp)
  have m1 : (prV t).1 ∈ endsT d := List.mem_flatten.mpr ⟨_, List.mem_map.mpr ⟨t, ht, rfl⟩, List.mem_cons_self⟩
  have m2 : (prV t).2 ∈ endsT d := List.mem_flatten.mpr ⟨_, List.mem_map.mpr ⟨t, ht, rfl⟩, List.mem_cons_of_mem _ List.mem_cons_self⟩
  have b1 := badP_none hb _ m1
  have b2 := badP_none hb _ m2
  unfold ascQ
  simp only
  omega
theorem nearM_ok {m : Int} {ps : List (Int × Int)} {near : List (List Int)} (h : nearM m ps = .ok near) : near.length = m.toNat ∧ ∀ row ∈ near, row.length ≤ 4 := by
  unfold nearM at h
  split at h
  · cases h
  rename_i ha
  split at h
  · cases h
    refine ⟨by rw [List.length_map, rawN_len], fun row hr => ?_⟩
    obtain ⟨r, hr2, rfl⟩ := List.mem_map.mp hr
    rw [(sortI_perm r).length_eq]
    have ha2 : ((rawN m ps).any fun r => decide (4 < r.length)) = false := Bool.eq_false_iff.mpr ha
    have := List.any_eq_false.mp ha2 r hr2
    simpa using this
  · cases h
theorem hubsM_ok {d : Va} {near : List (List Int)} {hs : List Int} (h : hubsM d near = .ok hs) : isNums d = true ∧ hs.length = (intsV d).length ∧ ∀ x ∈ hs, 0 ≤ x ∧ x < (near.length : Int) := by
  unfold hubsM at h
  split at h
  · rename_i hn
    split at h
    · cases h
    rename_i hb
    split at h
    · cases h
    split at h
    · cases h
    cases h
    refine ⟨hn, (sortI_perm _).length_eq, fun x hx => ?_⟩
    have := badP_none hb x ((sortI_perm _).mem_iff.mp hx)
    omega
  · cases h
theorem stiffM_ok {d : Va} {ts : List (Int × Int)} {hs : List Int} {near : List (List Int)} {ss : List (Int × Int)} (h : stiffM d ts hs near = .ok ss) : ss.length ≤ ts.length := by
  unfold stiffM at h
  split at h
  · cases h
  split at h
  · cases h
  rename_i hk
  split at h
  · cases h
  rename_i hf
  split at h
  · cases h
  cases h
  rw [(sortP_perm _).length_eq, List.length_map]
  exact few_stiff hk hf
theorem strs_is {H : Hp} : ∀ {l : List Va} {xs : List V}, Paired (Rv H) xs l → l.all isName = true → xs = (l.map strV).map V.str
  | [], _, .nil, _ => rfl
  | d :: l, _, .cons a b, h => by
    rw [List.all_cons, Bool.and_eq_true] at h
    rw [strs_is b h.2]
    cases d <;> first | (cases a; rfl) | cases h.1
theorem name_ok {d : Va} (h : isName d = true) : (PyData.str (strV d)).canLay0 = true := by
  cases d with
  | str z =>
    show (PyData.str z).canLay0 = true
    simp only [PyData.canLay0]
    unfold PyData.strOk
    have h : nam z.cps.toList = true := h
    rw [← Array.all_toList, List.all_eq_true]
    intro c hc
    unfold nam at h
    have h2 := (Bool.and_eq_true_iff.mp (Bool.and_eq_true_iff.mp h).2).2
    have h3 : c ∈ LD.cps.toList := of_decide_eq_true (List.all_eq_true.mp h2 c hc)
    have h4 : (LD.cps.toList.all fun c => decide (c < 0x110000)) = true := by decide +kernel
    exact List.all_eq_true.mp h4 c h3
  | _ => cases h
theorem kinds_is {H : Hp} {v : V} {d : Va} (r : Rv H v d) (h : areKinds d = true) : ∃ (a : Addr), v = .ref a ∧ Seq1 H a ((kindsV d).map V.str) ∧ (itemsV d).length = (kindsV d).length ∧ 1 ≤ (kindsV d).length ∧ ∀ z ∈ kindsV d, (PyData.str z).canLay0 = true := by
  unfold areKinds at h
  rcases r.seq with ⟨a, xs, l, rfl, hl, hS, hP, hz⟩ | ⟨hl, hT⟩
  · rw [hl, Bool.and_eq_true] at h
    have hk : kindsV d = l.map strV := by unfold kindsV itemsV; rw [hl]; rfl
    have hi : itemsV d = l := by unfold itemsV; rw [hl]; rfl
    rw [hk, hi, ← strs_is hP h.2]
    refine ⟨a, rfl, hS, by rw [List.length_map], ?_, fun z hz => ?_⟩
    · rw [List.length_map]
      cases l with
      | nil => cases h.1
      | cons _ _ => exact Nat.succ_le_succ (Nat.zero_le _)
    · obtain ⟨t, ht, rfl⟩ := List.mem_map.mp hz
      exact name_ok (List.all_eq_true.mp h.2 t ht)
  · rw [hl] at h
    cases h
end KW
namespace KW
open PySem PySem.Spec PyProof.Rows L2 KR KS KX Evl StX
/-! ### Web.__init__ -/
structure ExT (H H' : Hp) : Prop where
  t : ∀ b xs, H b = some (.tup xs) → H' b = some (.tup xs)
  f : ∀ b o u, H b = some (.frz o u) → H' b = some (.frz o u)
instance {H H' : Hp} : CoeFun (ExT H H') (fun _ => ∀ b xs, H b = some (.tup xs) → H' b = some (.tup xs)) := ⟨ExT.t⟩
theorem ExT.of {H H' : Hp} (e : Ex H H') : ExT H H' := ⟨fun b xs h => e _ _ h, fun b o u h => e _ _ h⟩
theorem ExT.at_ {H : Hp} {a : Addr} {o : HO} (h : ∀ xs, H a ≠ some (.tup xs)) (k : ∀ p u, H a ≠ some (.frz p u)) : ExT H (upd H a o) := ⟨fun b xs hb => by
  rw [upd_ne (fun z => h xs (by rw [← z]; exact hb))]
  exact hb, fun b p u hb => by
  rw [upd_ne (fun z => k p u (by rw [← z]; exact hb))]
  exact hb⟩
theorem ExT.ins {H : Hp} {a C dx : Addr} {fs : List (Str × V)} {o : HO} (h : H a = some (.ins C dx fs)) : ExT H (upd H a o) := ExT.at_ (fun _ z => by rw [h] at z; cases z) (fun _ _ z => by rw [h] at z; cases z)
theorem ExT.lst {H : Hp} {a : Addr} {ys : List V} {o : HO} (h : H a = some (.lst ys)) : ExT H (upd H a o) := ExT.at_ (fun _ z => by rw [h] at z; cases z) (fun _ _ z => by rw [h] at z; cases z)
theorem ExT.trans {H H1 H2 : Hp} (e : ExT H H1) (f : ExT H1 H2) : ExT H H2 := ⟨fun b xs h => f.t b xs (e.t b xs h), fun b o u h => f.f b o u (e.f b o u h)⟩
theorem _root_.KX.TF.upT {H H' : Hp} {a : Addr} {xs : List V} (e : ExT H H') (h : TF H a xs) : TF H' a xs := let ⟨o, x, y⟩ := h; ⟨o, e.f _ _ _ x, y⟩
theorem _root_.KX.TX.upT {H H' : Hp} {a : Addr} {xs : List V} (e : ExT H H') (h : TX H a xs) : TX H' a xs := h.elim (fun h => .inl (e.t _ _ h)) fun h => .inr (h.upT e)
theorem PrR.upT {H H' : Hp} {v : V} {p : Int × Int} (e : ExT H H') (h : PrR H v p) : PrR H' v p := let ⟨b, x, y⟩ := h; ⟨b, x, e _ _ y⟩
theorem prs_upT {H H' : Hp} {vs : List V} {ps : List (Int × Int)} (e : ExT H H') (h : Paired (PrR H) vs ps) : Paired (PrR H') vs ps := L2.Paired.mapP h fun _ _ r => PrR.upT e r
theorem tups_upT {H H' : Hp} {vs : List V} {ps : List (List Int)} (e : ExT H H') (h : Paired (TupR H) vs ps) : Paired (TupR H') vs ps := L2.Paired.mapP h fun _ _ ⟨b, x, y⟩ => ⟨b, x, e _ _ y⟩
theorem tup_op1 {K : PySem.W.Frag} {H : Hp} {a : Addr} {xs : List V} {Q : VK} (h : Seq1 H a xs) (q : ∀ b H2, Ex H H2 → TX H2 b xs → Q (.ref b) H2) : kTup K (.ref a) H Q := by
  rcases h with h | h
  · exact .inl ⟨a, xs, rfl, sq_of h, fun p hp => q p _ (Ex.new hp) (.inl upd_same)⟩
  · exact .inr ⟨a, xs, rfl, h.st, q a H (Ex.refl H) h⟩
theorem cat_op {K : PySem.W.Frag} {H : Hp} {a b : Addr} {xs ys : List V} {Q : VK} (ha : TF H a xs) (hb : TF H b ys) (hl : xs.length + ys.length ≤ sizeLine) (q : ∀ m H2, Ex H H2 → TX H2 m (xs ++ ys) → Q (.ref m) H2) : rCatA K (.ref a) (.ref b) H Q :=
  ⟨a, b, xs, ys, rfl, rfl, ha.st, hb.st, hl, fun z => q b H (Ex.refl H) (by rw [z]; exact .inr hb), fun _ z => q a H (Ex.refl H) (by rw [z, List.append_nil]; exact .inr ha), fun _ _ p hp => q p _ (Ex.new hp) (.inl upd_same)⟩
/-- x.f = e, in a row of statements; the last one; x.f -/
theorem q_fld {K : PySem.W.Frag} {i : Nat} {tv : TE} {f : Str} {u : TS} {D : Ends} {σ : L2.St} {H : Hp} (h : tv σ H fun y H1 => ∃ x, σ[i]? = some (some x) ∧ ∃ a C dx fs, x = .ref a ∧ H1 a = some (.ins C dx fs) ∧ Cls K C ∧ NoAttr K C f ∧ fs.length < 1000 ∧ u D σ (upd H1 a (.ins C dx (putF f y fs)))) : tSeq (sFld K (tVar i) tv f) u D σ H := h
theorem s_fld {K : PySem.W.Frag} {i : Nat} {tv : TE} {f : Str} {D : Ends} {σ : L2.St} {H : Hp} (h : tv σ H fun y H1 => ∃ x, σ[i]? = some (some x) ∧ ∃ a C dx fs, x = .ref a ∧ H1 a = some (.ins C dx fs) ∧ Cls K C ∧ NoAttr K C f ∧ fs.length < 1000 ∧ D.nx σ (upd H1 a (.ins C dx (putF f y fs)))) : sFld K (tVar i) tv f D σ H := h
theorem f_op {K : PySem.W.Frag} {i : Nat} {f : Str} {σ : L2.St} {H : Hp} {a C dx : Addr} {fs : List (Str × V)} {v : V} {Q : VK} (h0 : σ[i]? = some (some (.ref a))) (hA : H a = some (.ins C dx fs)) (c : Cls K C) (n : NoAttr K C f) (hv : fs.lookup f = some v) (q : Q v H) : tFld K (tVar i) f σ H Q := ⟨.ref a, h0, a, C, dx, fs, v, rfl, hA, c, n, hv, q⟩
section
variable {P : Program} {w : World} {K : PySem.W.Frag} {mg : Str → Option Value} {base : Heap}
abbrev sInit : Stmt := webS 0
abbrev nInit : List Str := ["self", "kinds", "ties", "hubs", "stiff"]
theorem scInit : FnScope nInit nInit (defScope sInit) := ⟨rfl, rfl, rfl, by decide +kernel, rfl, by decide +kernel, by decide +kernel⟩
def spInit (S : Es P w K mg base) (C : Addr) : Sp := fun vs H Q E => ∃ (a dx : Addr) (H0 : Hp) (vk vt vh vz : V) (dk dt : Va), vs = [.ref a, vk, vt, vh, vz] ∧ H = upd (upd H0 dx (.own a)) a (.ins C dx []) ∧ H0 a = none ∧ H0 dx = none ∧ Rv H0 vk dk ∧ Rv H0 vt dt ∧ (itemsV dk).length ≤ 60 ∧ (itemsV dt).length ≤ 400 ∧
  match preM dk dt with
  | .error r => Rz S H0 E r
  | .ok tn => ∃ dh ds, Rv H0 vh dh ∧ Rv H0 vz ds ∧ match postM dk tn.1 tn.2 dh ds with
    | .error r => Rz S H0 E r
    | .ok d => ∀ H2, Ex H0 H2 → WebH C H2 a d → Q .non H2
theorem ok_init {S : Es P w K mg base} {W : WebC K mg} {dvs : List V} {f : Addr} {fd : FuncData} {k : Nat} (F : FunD K "__init__" "Web.__init__" (defArgs sInit) (defBody sInit) (defScope sInit) dvs [] f fd) (B : Bu mg) (G : Gc mg) (K_ : FnA K mg "need_kinds" sNK ["kinds"]) (T_ : FnA K mg "sorted_ties" sST ["ties", "many"]) (R_ : FnA K mg "rows_of_neighbours" sRN ["ties", "many"]) (H_ : FnA K mg "sorted_hubs" sSH ["hubs", "near"]) (Y_ : FnA K mg "sorted_stiff" sSS ["stiff", "ties", "hubs", "near"])
    (GK : FnOk P w K mg base (L2.CX P w) (k + 5) K_.f K_.fd ["kinds"] (spNK S)) (GT : FnOk P w K mg base (L2.CX P w) (k + 5) T_.f T_.fd ["ties", "many"] (spST S)) (GR : FnOk P w K mg base (L2.CX P w) (k + 5) R_.f R_.fd ["ties", "many"] (spRN S)) (GH : FnOk P w K mg base (L2.CX P w) (k + 5) H_.f H_.fd ["hubs", "near"] (spSH S)) (GY : FnOk P w K mg base (L2.CX P w) (k + 5) Y_.f Y_.fd ["stiff", "ties", "hubs", "near"] (spSS S)) :
    FnOk P w K mg base (L2.CX P w) (k + 6) f fd nInit (spInit S W.C) := by
  obtain ⟨t16, g16⟩ := G.mp
  refine FunD.ok F scInit (fun vs H Q E h => ?_) (fun cdv A outer s H vs Q E hr h => ?_)
  · obtain ⟨a, dx, H0, vk, vt, vh, vz, dk, dt, rfl, _⟩ := h
    rfl
  · obtain ⟨a, dx, H0, vk, vt, vh, vz, dk, dt, rfl, rfl, ha, hdx, rk, rt, lk, lt, q⟩ := h
    refine ⟨_, (pss_cons (ps_expr (pe_call GK hr (by rfl) K_.g K_.F.kp K_.b .nil (passes_call (takes_of rfl rfl rfl rfl) (fun _ _ _ _ h => h)) (pa_cons (pv 1) pa_nil)))
      (pss_cons (ps_fld (pv 0) (pe_tupleOf rfl B.tuple (pv 1)) rfl)
      (pss_cons (ps_fld (pv 0) (pe_call GT hr (by rfl) T_.g T_.F.kp T_.b .nil (passes_call (takes_of rfl rfl rfl rfl) (fun _ _ _ _ h => h)) (pa_cons (pv 2) (pa_cons (pe_callB call_len_seq rfl B.len PySem.boot_len (pa_cons (pv 1) pa_nil)) pa_nil))) rfl)
      (pss_cons (ps_fld (pv 0) (pe_call GR hr (by rfl) R_.g R_.F.kp R_.b .nil (passes_call (takes_of rfl rfl rfl rfl) (fun _ _ _ _ h => h)) (pa_cons (pe_fld (pv 0) rfl) (pa_cons (pe_callB call_len_seq rfl B.len PySem.boot_len (pa_cons (pv 1) pa_nil)) pa_nil))) rfl)
      (pss_cons (ps_fld (pv 0) (pe_call GH hr (by rfl) H_.g H_.F.kp H_.b .nil (passes_call (takes_of rfl rfl rfl rfl) (fun _ _ _ _ h => h)) (pa_cons (pv 3) (pa_cons (pe_fld (pv 0) rfl) pa_nil))) rfl)
      (pss_cons (ps_fld (pv 0) (pe_call GY hr (by rfl) Y_.g Y_.F.kp Y_.b .nil (passes_call (takes_of rfl rfl rfl rfl) (fun _ _ _ _ h => h)) (pa_cons (pv 4) (pa_cons (pe_fld (pv 0) rfl) (pa_cons (pe_fld (pv 0) rfl) (pa_cons (pe_fld (pv 0) rfl) pa_nil))))) rfl)
      (pss_cons (ps_if (pt_cmpR op_gt (pe_callB call_len_seq rfl B.len PySem.boot_len (pa_cons (pv 1) pa_nil)) (pe_glob (v := V.int 16) rfl g16 ⟨_, rfl⟩) (nomark _)) (pss_one (ps_rs2 S.many (hr.mono (by omega)) pe_str (pe_glob (v := V.int 16) rfl g16 ⟨_, rfl⟩) (takes_of rfl rfl rfl rfl))) pss_nil)
      (pss_cons (ps_fld (pv 0) (pe_op op_catA (pe_fld (pv 0) rfl) (pe_fld (pv 0) rfl)) rfl)
      (pss_one (ps_fld (pv 0) (pe_cmpR op_eq (pe_callB call_len_seq rfl B.len PySem.boot_len (pa_cons (pe_fld (pv 0) rfl) pa_nil)) (pe_op op_sub (pe_callB call_len_seq rfl B.len PySem.boot_len (pa_cons (pe_fld (pv 0) rfl) pa_nil)) pe_int) (nomark _)) rfl)))))))))), ?_⟩
    have e0 : Ex H0 (upd (upd H0 dx (.own a)) a (.ins W.C dx [])) := Ex.mut (Ex.new hdx) ha
    have hA0 : (upd (upd H0 dx (.own a)) a (.ins W.C dx [])) a = some (.ins W.C dx []) := upd_same
    generalize upd (upd H0 dx (.own a)) a (.ins W.C dx []) = H at e0 hA0 ⊢
    refine q_ex (cl1 rfl ⟨vk, dk, rfl, rk.up e0, ?_⟩)
    cases hK : areKinds dk with
    | false =>
      have hM : preM dk dt = .error (.web "kinds") := by unfold preM; rw [hK]; rfl
      rw [hM] at q
      rw [if_neg Bool.false_ne_true]
      exact Rz.up e0 q
    | true =>
      rw [if_pos rfl]
      intro H1 e1
      have e01 := e0.trans e1
      obtain ⟨ka, rfl, _, hkl, hk1, hko⟩ := kinds_is (rk.up e01) hK
      have hS : ∀ H', Ex H0 H' → Seq1 H' ka ((kindsV dk).map V.str) := fun H' e => by
        obtain ⟨kb, h1, h2, _⟩ := kinds_is (rk.up e) hK
        cases h1
        exact h2
      have hM : preM dk dt = match tiesM dt ((itemsV dk).length : Int) with
        | .error r => .error r
        | .ok ts => match nearM ((itemsV dk).length : Int) ts with
          | .error r => .error r
          | .ok near => .ok (ts, near) := by
        conv => lhs; unfold preM
        rw [hK]
        rfl
      -- self.kinds
      refine q_fld (th_op (v_op rfl (tup_op1 (hS _ e01) fun kA H2 e2 hkA => ⟨_, rfl, a, W.C, dx, [], rfl, (e1.trans e2) _ _ hA0, W.cls, W.n1, by show 0 < 1000; decide, ?_⟩)))
      have e02 := e01.trans e2
      have hA2 := (e1.trans e2) _ _ hA0
      generalize hH3 : upd H2 a (.ins W.C dx (putF "kinds" (V.ref kA) [])) = H3
      have hA3 : H3 a = some (.ins W.C dx [("kinds", .ref kA)]) := by rw [← hH3]; exact upd_same
      have t3 : ExT H2 H3 := by rw [← hH3]; exact ExT.ins hA2
      have e03 : Ex H0 H3 := by rw [← hH3]; exact Ex.mut e02 ha
      have k3 := hkA.upT t3
      clear hH3 hkA hA2 e02
      have hlen : (((kindsV dk).map V.str).length : Int) = ((itemsV dk).length : Int) := by rw [List.length_map, hkl]
      have lenk : ∀ (H' : Hp) (Q : VK), Ex H0 H' → Q (.int ((itemsV dk).length : Int)) H' → tCB (rLenS K) (tCons (tVar 1) tNil) [some (.ref a), some (.ref ka), some vt, some vh, some vz] H' Q := fun H' Q e qq => cb_op (a_op (v_op rfl (n_op ⟨ka, _, rfl, (hS _ e).sq, by rw [hlen]; exact qq⟩)))
      -- self.ties
      refine q_fld (c_op (a_op (v_op rfl (a_op (lenk _ _ e03 (n_op ⟨vt, dt, ((itemsV dk).length : Int), rfl, rt.up e03, ?_⟩))))))
      cases hT : tiesM dt ((itemsV dk).length : Int) with
      | error r =>
        rw [hM, hT] at q
        exact Rz.up e03 q
      | ok ts =>
        obtain ⟨tl, tb⟩ := tiesM_ok hT
        intro tA tys H4 _ e4 ht4 hP4
        refine ⟨_, rfl, a, W.C, dx, _, rfl, e4 _ _ hA3, W.cls, W.n2, by show 1 < 1000; decide, ?_⟩
        generalize hH5 : upd H4 a (.ins W.C dx (putF "ties" (V.ref tA) [("kinds", .ref kA)])) = H5
        have hA5 : H5 a = some (.ins W.C dx [("kinds", .ref kA), ("ties", .ref tA)]) := by rw [← hH5]; exact upd_same
        have t5 : ExT H4 H5 := by rw [← hH5]; exact ExT.ins (e4 _ _ hA3)
        have e05 : Ex H0 H5 := by rw [← hH5]; exact Ex.mut (e03.trans e4) ha
        have k5 := (k3.up e4).upT t5
        have ti5 := t5 tA _ ht4
        have pt5 := prs_upT t5 hP4
        clear hH5 ht4 hP4
        -- self.near
        refine q_fld (c_op (a_op (f_op rfl hA5 W.cls W.n2 rfl (a_op (lenk _ _ e05 (n_op ⟨tA, tys, ((itemsV dk).length : Int), ts, rfl, ti5, pt5, by omega, by omega, by omega, tb, ?_⟩))))))
        cases hN : nearM ((itemsV dk).length : Int) ts with
        | error r =>
          rw [hM, hT] at q
          simp only [hN] at q
          exact Rz.up e05 q
        | ok near =>
          rw [hM, hT] at q
          simp only [hN] at q
          obtain ⟨dh, ds, rh, rz, q⟩ := q
          obtain ⟨nl, nr⟩ := nearM_ok hN
          have nl2 : near.length = (itemsV dk).length := by omega
          intro nA nys H6 _ e6 hn6 hP6
          refine ⟨_, rfl, a, W.C, dx, _, rfl, e6 _ _ hA5, W.cls, W.n3, by show 2 < 1000; decide, ?_⟩
          generalize hH7 : upd H6 a (.ins W.C dx (putF "near" (V.ref nA) [("kinds", .ref kA), ("ties", .ref tA)])) = H7
          have hA7 : H7 a = some (.ins W.C dx [("kinds", .ref kA), ("ties", .ref tA), ("near", .ref nA)]) := by rw [← hH7]; exact upd_same
          have t7 : ExT H6 H7 := by rw [← hH7]; exact ExT.ins (e6 _ _ hA5)
          have e07 : Ex H0 H7 := by rw [← hH7]; exact Ex.mut (e05.trans e6) ha
          have k7 := (k5.up e6).upT t7
          have ti7 := t7 tA _ (e6 _ _ ti5)
          have pt7 := prs_upT t7 (prs_up e6 pt5)
          have n7 := t7 nA _ hn6
          have pn7 := tups_upT t7 hP6
          clear hH7 hn6 hP6
          -- self.hubs
          refine q_fld (c_op (a_op (v_op rfl (a_op (f_op rfl hA7 W.cls W.n3 rfl (n_op ⟨vh, dh, nA, nys, near, rfl, rh.up e07, n7, pn7, by omega, ?_⟩))))))
          cases hHb : hubsM dh near with
          | error r =>
            unfold postM at q
            rw [hHb] at q
            exact Rz.up e07 q
          | ok hs =>
            obtain ⟨hnum, hhl, hhb⟩ := hubsM_ok hHb
            obtain ⟨_, _, _, hhz⟩ := nums_seq rh hnum
            intro hA H8 _ e8 hh8
            refine ⟨_, rfl, a, W.C, dx, _, rfl, e8 _ _ hA7, W.cls, W.n4, by show 3 < 1000; decide, ?_⟩
            generalize hH9 : upd H8 a (.ins W.C dx (putF "hubs" (V.ref hA) [("kinds", .ref kA), ("ties", .ref tA), ("near", .ref nA)])) = H9
            have hA9 : H9 a = some (.ins W.C dx [("kinds", .ref kA), ("ties", .ref tA), ("near", .ref nA), ("hubs", .ref hA)]) := by rw [← hH9]; exact upd_same
            have t9 : ExT H8 H9 := by rw [← hH9]; exact ExT.ins (e8 _ _ hA7)
            have e09 : Ex H0 H9 := by rw [← hH9]; exact Ex.mut (e07.trans e8) ha
            have k9 := (k7.up e8).upT t9
            have ti9 := t9 tA _ (e8 _ _ ti7)
            have pt9 := prs_upT t9 (prs_up e8 pt7)
            have n9 := t9 nA _ (e8 _ _ n7)
            have pn9 : Paired (TupR H9) nys near := tups_upT t9 (tups_upT (ExT.of e8) pn7)
            have h9 := hh8.upT t9
            clear hH9 hh8
            -- self.stiff
            refine q_fld (c_op (a_op (v_op rfl (a_op (f_op rfl hA9 W.cls W.n2 rfl (a_op (f_op rfl hA9 W.cls W.n4 rfl (a_op (f_op rfl hA9 W.cls W.n3 rfl (n_op ⟨vz, ds, tA, hA, nA, tys, ts, hs, nys, near, rfl, rz.up e09, ti9, pt9, by omega, by rw [nl2]; exact tb, h9, by omega, n9, pn9, ?_⟩))))))))))
            cases hSt : stiffM ds ts hs near with
            | error r =>
              unfold postM at q
              rw [hHb] at q
              simp only [hSt] at q
              exact Rz.up e09 q
            | ok ss =>
              have ssl := stiffM_ok hSt
              unfold postM at q
              rw [hHb] at q
              simp only [hSt] at q
              intro sA sys H10 _ e10 hs10 hP10
              refine ⟨_, rfl, a, W.C, dx, _, rfl, e10 _ _ hA9, W.cls, W.n5, by show 4 < 1000; decide, ?_⟩
              generalize hH11 : upd H10 a (.ins W.C dx (putF "stiff" (V.ref sA) [("kinds", .ref kA), ("ties", .ref tA), ("near", .ref nA), ("hubs", .ref hA)])) = H11
              have hA11 : H11 a = some (.ins W.C dx [("kinds", .ref kA), ("ties", .ref tA), ("near", .ref nA), ("hubs", .ref hA), ("stiff", .ref sA)]) := by rw [← hH11]; exact upd_same
              have t11 : ExT H10 H11 := by rw [← hH11]; exact ExT.ins (e10 _ _ hA9)
              have e011 : Ex H0 H11 := by rw [← hH11]; exact Ex.mut (e09.trans e10) ha
              have k11 := (k9.up e10).upT t11
              have ti11 := t11 tA _ (e10 _ _ ti9)
              have pt11 := prs_upT t11 (prs_up e10 pt9)
              have n11 := t11 nA _ (e10 _ _ n9)
              have pn11 : Paired (TupR H11) nys near := tups_upT t11 (tups_upT (ExT.of e10) pn9)
              have h11 := (h9.up e10).upT t11
              have s11 := hs10.upT t11
              have ps11 := prs_upT t11 hP10
              clear hH11 hs10 hP10
              -- too many pieces
              refine q_if0 (op_test (op_op (lenk _ _ e011 ⟨_, _, rfl, rfl, _, rfl, ?_⟩)))
              have hst : ss.length ≤ 400 := by omega
              by_cases hbig : 16 < (itemsV dk).length
              · rw [if_pos hbig] at q
                have q : Rz S H0 E (.many "pieces" 16) := q
                rw [decide_eq_true (show (16 : Int) < ((itemsV dk).length : Int) by omega)]
                exact iteT (rs_many q e011)
              · rw [if_neg hbig] at q
                have q : ∀ H2, Ex H0 H2 → WebH W.C H2 a ⟨kindsV dk, ts, near, hs, ss⟩ → Q .non H2 := q
                rw [decide_eq_false (show ¬ (16 : Int) < ((itemsV dk).length : Int) by omega)]
                refine iteF (nx_op ?_)
                -- self.marks
                refine q_fld (op_op (f_op rfl hA11 W.cls W.n4 rfl (f_op rfl hA11 W.cls W.n5 rfl (cat_op h11 s11 (by
                  rw [List.length_map, ← Paired.length ps11 |>.symm]
                  exact Nat.le_of_lt (sz_lt (by omega))) fun mA H12 e12 hm => ?_))))
                refine ⟨_, rfl, a, W.C, dx, _, rfl, e12 _ _ hA11, W.cls, W.n6, by show 5 < 1000; decide, ?_⟩
                generalize hH13 : upd H12 a (.ins W.C dx (putF "marks" (V.ref mA) [("kinds", .ref kA), ("ties", .ref tA), ("near", .ref nA), ("hubs", .ref hA), ("stiff", .ref sA)])) = H13
                have hA13 : H13 a = some (.ins W.C dx [("kinds", .ref kA), ("ties", .ref tA), ("near", .ref nA), ("hubs", .ref hA), ("stiff", .ref sA), ("marks", .ref mA)]) := by rw [← hH13]; exact upd_same
                have t13 : ExT H11 H13 := by rw [← hH13]; exact (ExT.of e12).trans (ExT.ins (e12 _ _ hA11))
                have e013 : Ex H0 H13 := by rw [← hH13]; exact Ex.mut (e011.trans e12) ha
                have m13 : TX H13 mA (hs.map V.int ++ sys) := by rw [← hH13]; exact hm.upT (ExT.ins (e12 _ _ hA11))
                clear hH13 hm
                -- self.is_tree
                refine s_fld (op_op (cb_op (a_op (f_op rfl hA13 W.cls W.n2 rfl (n_op ⟨tA, tys, rfl, .inr (st_of (t13 _ _ ti11)), op_op (cb_op (a_op (f_op rfl hA13 W.cls W.n1 rfl (n_op ⟨kA, _, rfl, .inr (k11.upT t13).st, k_op ⟨_, _, rfl, rfl, rfl, ?_⟩⟩))))⟩)))))
                refine ⟨_, rfl, a, W.C, dx, _, rfl, hA13, W.cls, W.n7, by show 6 < 1000; decide, ?_⟩
                have hbt : decide (V.int (tys.length : Int) = V.int ((((kindsV dk).map V.str).length : Int) - 1)) = treeB ⟨kindsV dk, ts, near, hs, ss⟩ := by
                  unfold treeB
                  show _ = decide ((ts.length : Int) = ((kindsV dk).length : Int) - 1)
                  rw [List.length_map, Paired.length pt11]
                  by_cases h : (ts.length : Int) = ((kindsV dk).length : Int) - 1
                  · rw [decide_eq_true h, h, decide_eq_true rfl]
                  · rw [decide_eq_false h, decide_eq_false fun z => h (V.int.inj z)]
                rw [hbt]
                have t14 : ∀ o, ExT H11 (upd H13 a o) := fun o => t13.trans (ExT.ins hA13)
                refine q _ (Ex.mut e013 ha) ⟨⟨by show 1 ≤ (kindsV dk).length ∧ (kindsV dk).length ≤ 16; omega, hko, by show near.length = (kindsV dk).length; omega, nr, by show ts.length ≤ 400; omega, by show hs.length ≤ 1000; omega, hst, hhb, by rw [show (WebD.near ⟨kindsV dk, ts, near, hs, ss⟩).length = (itemsV dk).length from nl2]; exact tb⟩, ⟨kA, tA, nA, hA, sA, mA, tys, nys, sys⟩, dx, upd_same, ?_⟩
                exact ⟨k11.upT (t14 _), t14 _ _ _ ti11, t14 _ _ _ n11, h11.upT (t14 _), s11.upT (t14 _), m13.upT (ExT.ins hA13), prs_upT (t14 _) pt11, tups_upT (t14 _) pn11, prs_upT (t14 _) ps11⟩
end
end KW
namespace KW
open PySem PySem.Spec PyProof.Rows L2 KR KS KX Evl StX
/-! ### _law_mixed -/
theorem exp_mut {p : Addr} {H H' : Hp} {L : Addr} {o : HO} (e : ExP p H H') (h : H L = none) : ExP p H (upd H' L o) := fun a u n ha => by
  rw [upd_ne (ne_of_none ha h)]
  exact e a u n ha
theorem exp_back {p : Addr} {H H' : Hp} {L : Addr} (e : ExP p H H') (h1 : L ≠ p) (h : H' L = none) : H L = none := by
  cases z : H L with
  | none => rfl
  | some o => rw [e L o h1 z] at h; cases h
theorem pen_upd {H : Hp} {p l : Addr} {ns : List Int} {n : Int} {D : Addr} {o : HO} (h : Pen H p l ns n) (h1 : D ≠ p) (h2 : D ≠ l) : Pen (upd H D o) p l ns n := by
  obtain ⟨t, r, a, b, c⟩ := h.at_
  exact ⟨⟨t, r, by rw [upd_ne (Ne.symm h1)]; exact a, b, c⟩, by rw [upd_ne (Ne.symm h2)]; exact h.ls, h.ne, h.few⟩
theorem pen_ne {H : Hp} {p l : Addr} {ns : List Int} {n : Int} {D : Addr} (h : Pen H p l ns n) (hD : H D = none) : D ≠ p ∧ D ≠ l := by
  refine ⟨h.some hD, fun e => ?_⟩
  rw [e, h.ls] at hD
  cases hD
theorem seqIx {v : Int} {n : Nat} (h0 : 0 ≤ v) (h1 : v < n) : seqIndex? v n = some v.toNat := by
  unfold seqIndex?
  have hj : (if v < 0 then v + (n : Int) else v) = v := if_neg (by omega)
  simp only [hj]
  simp [h0, h1]
theorem erIdx_perm {α : Type} : ∀ {zs : List α} {k : Nat} {y : α}, zs[k]? = some y → zs.Perm (y :: zs.eraseIdx k)
  | [], _, _, h => by simp at h
  | z :: zs, 0, y, h => by
    simp at h
    subst h
    exact List.Perm.refl _
  | z :: zs, k + 1, y, h => by
    simp at h
    have := erIdx_perm h
    rw [List.eraseIdx_cons_succ]
    exact (List.Perm.cons z this).trans (List.Perm.swap _ _ _)
theorem perm_mv {ys zs : List V} {k : Nat} {y : V} {xs : List V} (hp : (ys ++ zs).Perm xs) (hy : zs[k]? = some y) : ((ys ++ [y]) ++ zs.eraseIdx k).Perm xs := by
  have h1 : zs.Perm (y :: zs.eraseIdx k) := erIdx_perm hy
  rw [List.append_assoc]
  exact (List.Perm.append_left ys h1.symm).trans hp
section
variable {P : Program} {w : World} {K : PySem.W.Frag} {mg : Str → Option Value} {base : Heap}
abbrev sMix : Stmt := topS 75
abbrev nMix : List Str := ["_law_pen_here", "_law_items", "_law_left", "_law_found", "_law_turn"]
theorem scMix : FnScope nMix ["_law_pen_here", "_law_items"] (defScope sMix) := ⟨rfl, rfl, rfl, by decide +kernel, rfl, by decide +kernel, by decide +kernel⟩
def spMix (K : PySem.W.Frag) : Sp := fun vs H Q _ => ∃ (p a l : Addr) (ns : List Int) (n : Int) (xs : List V), vs = [.ref p, .ref a] ∧ Pen H p l ns n ∧ n ≤ 90000 ∧ Seq1 H a xs ∧ xs.length ≤ 1000 ∧
  ∀ b ys H2, H b = none → ExP p H H2 → Pen H2 p l ns (n + xs.length) → ys.Perm xs → H2 b = some (.lst ys) → Q (.ref b) H2
theorem ok_mix {f : Addr} {fd : FuncData} {k : Nat} (F : FnP K "_law_mixed" sMix f fd) (B : Bu mg) (D_ : FnA K mg "_law_draw" sDraw ["_law_pen_here", "_law_many"]) : FnOk P w K mg base CX0 (k + 2) f fd ["_law_pen_here", "_law_items"] (spMix K) := by
  have GD : FnOk P w K mg base CX0 (k + 1) D_.f D_.fd ["_law_pen_here", "_law_many"] spDraw := ok_draw D_.F B
  refine ok0 F scMix (fun vs H Q E h => ?_) (fun cdv A outer s H vs Q E hr h => ?_)
  · obtain ⟨p, a, l, ns, n, xs, rfl, _⟩ := h
    rfl
  · obtain ⟨p, a, l, ns, n, xs, rfl, hp, hn, hS, hl, q⟩ := h
    refine ⟨_, (pss_cons (ps_par (i := 2) (j := 3) (by rfl) scMix.nd rfl rfl (by decide) rfl rfl (pa_cons (pe_callTy call_list_of rfl B.list boot_list (pa_cons (pv 1) pa_nil)) (pa_cons (pe_lst pa_nil) pa_nil)) (by rfl))
      (pss_cons (ps_for PassesOwn.never rfl (pi_range1 rfl B.range (pa_cons (pe_callB call_len_seq rfl B.len PySem.boot_len (pa_cons (pv 1) pa_nil)) pa_nil)) (pg_name (i := 4) scMix.nd rfl (Or.inl rfl)) (pss_one (ps_expr (pe_bm PySem.F.plainAttrs_list PySem.F.slot_list_append PySem.F.type_list_append mt_append (pv 3) (pa_cons (pe_bm PySem.F.plainAttrs_list PySem.F.slot_list_pop PySem.F.type_list_pop mt_popAt (pv 2) (pa_cons (pe_call GD hr (by rfl) D_.g D_.F.kp D_.b .nil pass0 (pa_cons (pv 0) (pa_cons (pe_callB call_len_seq rfl B.len PySem.boot_len (pa_cons (pv 2) pa_nil)) pa_nil))) pa_nil)) pa_nil)))))
      (pss_one (ps_ret (pv 3))))), ?_⟩
    refine q_par (a_op (cb_op (a_op (v_op rfl (n_op ⟨a, xs, rfl, hS.sq, fun L hL => a_op (l_op (n_op ⟨Nat.zero_le _, fun R hR => ?_⟩))⟩)))))
    refine n_op ⟨_, _, rfl, ?_⟩
    have eL : Ex H (upd H L (.lst xs)) := Ex.new hL
    have eR : Ex (upd H L (.lst xs)) (upd (upd H L (.lst xs)) R (.lst [])) := Ex.new hR
    have hRH : H R = none := fresh_back eL hR
    have hLR : L ≠ R := fun z => by rw [← z, upd_same] at hR; cases hR
    obtain ⟨hLp, hLl⟩ := pen_ne hp hL
    obtain ⟨hRp, hRl⟩ := pen_ne hp hRH
    have hx1 : (upd (upd H L (.lst xs)) R (.lst [])) L = some (.lst xs) := eR _ _ upd_same
    refine s_forR1 (n := (xs.length : Int)) (fun H1 e1 Q2 q2 => a_op (cb_op (a_op (v_op rfl (n_op ⟨a, xs, rfl, (hS.up ((eL.trans eR).trans e1)).sq, n_op (q2 H1 (Ex.refl H1))⟩))))) (by omega)
      (fun i σ' H' => ∃ y4 ys zs, σ' = [some (.ref p), some (.ref a), some (.ref L), some (.ref R), y4] ∧ ExP p H H' ∧ Pen H' p l ns (n + i) ∧ H' L = some (.lst zs) ∧ H' R = some (.lst ys) ∧ (ys ++ zs).Perm xs ∧ zs.length + i = xs.length)
      (fun H1 e1 => ⟨none, [], xs, rfl, Ex.p ((eL.trans eR).trans e1), by
        have := hp.up ((eL.trans eR).trans e1)
        simpa using this, e1 _ _ hx1, e1 _ _ upd_same, List.Perm.refl _, rfl⟩) ?_ ?_
    · rintro i σ' H' hi ⟨y4, ys, zs, rfl, eP, hp1, hL1, hR1, hperm, hzl⟩
      have hzp : 0 < zs.length := by omega
      refine s_ex ⟨.ref R, rfl, .inl ⟨rfl, _, sq_of hR1⟩, ?_⟩
      refine a_op ⟨.ref L, rfl, .inl ⟨rfl, _, sq_of hL1⟩, a_op (c_op (a_op (v_op rfl (a_op (cb_op (a_op (v_op rfl (n_op ⟨L, zs, rfl, .inl (sq_of hL1), n_op ?_⟩))))))))⟩
      refine ⟨p, l, ns, n + (i : Int), (zs.length : Int), rfl, hp1, by omega, by omega, by omega, fun v H2 v0 v1 e2 hp2 => ?_⟩
      have hL2 := e2 L _ hLp hL1
      have hR2 := e2 R _ hRp hR1
      have hk : v.toNat < zs.length := by omega
      refine n_op ⟨L, zs, v, v.toNat, zs[v.toNat], rfl, rfl, hL2, by omega, by omega, seqIx v0 v1, List.getElem?_eq_getElem hk, ?_⟩
      have hR3 : (upd H2 L (.lst (zs.eraseIdx v.toNat))) R = some (.lst ys) := by rw [upd_ne (Ne.symm hLR)]; exact hR2
      refine n_op ⟨R, ys, zs[v.toNat], rfl, rfl, hR3, ?_, ?_⟩
      · have := hperm.length_eq
        rw [List.length_append] at this
        exact sz_lt (by omega)
      · refine ⟨_, ys ++ [zs[v.toNat]], zs.eraseIdx v.toNat, rfl, exp_mut (exp_mut (eP.trans e2) hL) hRH, ?_, ?_, upd_same, perm_mv hperm (List.getElem?_eq_getElem hk), ?_⟩
        · have := pen_upd (pen_upd (o := .lst (zs.eraseIdx v.toNat)) hp2 hLp hLl) (o := .lst (ys ++ [zs[v.toNat]])) hRp hRl
          have e : n + (i : Int) + 1 = n + ((i + 1 : Nat) : Int) := by omega
          rw [← e]
          exact this
        · rw [upd_ne hLR, upd_same]
        · rw [List.length_eraseIdx_of_lt hk]
          omega
    · rintro σ' H' ⟨y4, ys, zs, rfl, eP, hp1, hL1, hR1, hperm, hzl⟩
      have hz0 : zs = [] := List.eq_nil_of_length_eq_zero (by omega)
      rw [hz0, List.append_nil] at hperm
      refine s_re (v_op rfl (q R ys H' hRH eP ?_ hperm hR1))
      have := hp1
      rw [Int.toNat_natCast] at this
      exact this
end
end KW
namespace KW
open PySem PySem.Spec PyProof.Rows L2 KR KS KX Evl StX
/-! ### _law_beside -/
def besM (ts : List (Int × Int)) (c : Int) : List Int := sortI ((ts.filter fun p => decide (p.2 = c)).map (·.1) ++ (ts.filter fun p => decide (p.1 = c)).map (·.2))
theorem prv_of {K : PySem.W.Frag} {H : Hp} : ∀ {ys : List V} {ts : List (Int × Int)}, Paired (PrR H) ys ts → Paired (PrV K H) ys (ts.map fun p => (V.int p.1, V.int p.2))
  | _, _, .nil => .nil
  | _, _, .cons a b => by
    obtain ⟨t, rfl, ht⟩ := a
    exact .cons ⟨t, rfl, st_of ht⟩ (prv_of b)
theorem pv_at {ts : List (Int × Int)} {i : Nat} {x y : V} (h : (ts.map fun p => (V.int p.1, V.int p.2))[i]? = some (x, y)) : ∃ p, ts[i]? = some p ∧ x = .int p.1 ∧ y = .int p.2 := by
  rw [List.getElem?_map] at h
  cases e : ts[i]? with
  | none => rw [e] at h; cases h
  | some p =>
    rw [e] at h
    have := Option.some.inj h
    exact ⟨p, rfl, (congrArg Prod.fst this).symm, (congrArg Prod.snd this).symm⟩
theorem dec_intV (a b : Int) : decide (V.int a = V.int b) = decide (a = b) := by
  by_cases h : a = b
  · subst h; rw [decide_eq_true rfl, decide_eq_true rfl]
  · rw [decide_eq_false h, decide_eq_false (fun z => h (V.int.inj z))]
section
variable {P : Program} {w : World} {K : PySem.W.Frag} {mg : Str → Option Value} {base : Heap}
abbrev sBes : Stmt := topS 77
abbrev nBes : List Str := ["_law_ties", "_law_piece", "_law_one", "_law_other"]
theorem scBes : FnScope nBes ["_law_ties", "_law_piece"] (defScope sBes) := ⟨rfl, rfl, rfl, by decide +kernel, rfl, by decide +kernel, by decide +kernel⟩
def spBes (K : PySem.W.Frag) : Sp := fun vs H Q _ => ∃ (a : Addr) (ys : List V) (ts : List (Int × Int)) (c : Int), vs = [.ref a, .int c] ∧ Sq K H a ys ∧ Paired (PrR H) ys ts ∧ ts.length ≤ 31 ∧
  ∀ b H2, H b = none → Ex H H2 → H2 b = some (.lst ((besM ts c).map V.int)) → Q (.ref b) H2
theorem ok_bes {f : Addr} {fd : FuncData} {k : Nat} (F : FnP K "_law_beside" sBes f fd) (B : Bu mg) : FnOk P w K mg base CX0 (k + 1) f fd ["_law_ties", "_law_piece"] (spBes K) := by
  refine ok0 F scBes (fun vs H Q E h => ?_) (fun cdv A outer s H vs Q E hr h => ?_)
  · obtain ⟨a, ys, ts, c, rfl, _⟩ := h
    rfl
  · obtain ⟨a, ys, ts, c, rfl, hS, hP, hl, q⟩ := h
    refine ⟨_, (pss_one (ps_ret (pe_callB cr_sortSq rfl B.sorted boot_sorted (pa_cons (pe_op op_cat (pe_lc (own := [("_law_one", 2), ("_law_other", 3)]) (g := (gTup K 2 (gCons (gName 2) (gCons (gName 3) gNil)))) (te := tVar 2) (tt := tTest (tOp rEq (tVar 3) (tVar 1))) rfl scBes.nd (pi_seq (pv 0)) (blkOk_by (N := nBes) (sc := (defScope sBes)) (by decide +kernel)) (fun _ _ _ _ _ => (pg_tup rfl (pgs_cons (pg_name (i := 2) scBes.nd rfl (Or.inl rfl)) (pgs_cons (pg_name (i := 3) scBes.nd rfl (Or.inl rfl)) pgs_nil)))) (fun _ _ _ _ _ => pts_one (pt_cmpR op_eq (pv 3) (pv 1) (nomark _))) (fun _ _ _ _ _ => (pv 2))) (pe_lc (own := [("_law_one", 2), ("_law_other", 3)]) (g := (gTup K 2 (gCons (gName 2) (gCons (gName 3) gNil)))) (te := tVar 3) (tt := tTest (tOp rEq (tVar 2) (tVar 1))) rfl scBes.nd (pi_seq (pv 0)) (blkOk_by (N := nBes) (sc := (defScope sBes)) (by decide +kernel)) (fun _ _ _ _ _ => (pg_tup rfl (pgs_cons (pg_name (i := 2) scBes.nd rfl (Or.inl rfl)) (pgs_cons (pg_name (i := 3) scBes.nd rfl (Or.inl rfl)) pgs_nil)))) (fun _ _ _ _ _ => pts_one (pt_cmpR op_eq (pv 2) (pv 1) (nomark _))) (fun _ _ _ _ _ => (pv 3)))) pa_nil)))), ?_⟩
    have hlen := Paired.length hP
    have c1 := el2_lcSq (K := K) (σ := [some (.ref a), some (.int c), none, none]) (H := H) (a := a) (xs := ys) (ps := ts.map fun p => (V.int p.1, V.int p.2)) (tl := tVar 0) (te := tVar 2) (t := tTest (tOp rEq (tVar 3) (tVar 1))) (j := 2) (k := 3) (vs := [2, 3]) (fun i => decide ((ts.getD i (0, 0)).2 = c)) (fun i => V.int (ts.getD i (0, 0)).1) (ev_var rfl) hS (prv_of hP) (by omega) (fun _ _ => rfl)
      (fun i x y H1 e1 hx H2 e2 Q2 q2 => by
        obtain ⟨p, hp, rfl, rfl⟩ := pv_at hx
        rw [getD_at hp] at q2
        refine ⟨_, rfl, _, rfl, rfl, _, rfl, ?_⟩
        rw [dec_intV]
        exact q2 H2 (Ex.refl H2)) (fun i x y H1 e1 hx _ H2 e2 Q2 q2 => by
        obtain ⟨p, hp, rfl, rfl⟩ := pv_at hx
        rw [getD_at hp] at q2
        exact ⟨_, rfl, q2 H2 (Ex.refl H2)⟩)
    rw [given_of (0, 0) ts hlen (fun p => decide (p.2 = c)) (fun p => V.int p.1)] at c1
    have c2 := el2_lcSq (K := K) (σ := [some (.ref a), some (.int c), none, none]) (H := H) (a := a) (xs := ys) (ps := ts.map fun p => (V.int p.1, V.int p.2)) (tl := tVar 0) (te := tVar 3) (t := tTest (tOp rEq (tVar 2) (tVar 1))) (j := 2) (k := 3) (vs := [2, 3]) (fun i => decide ((ts.getD i (0, 0)).1 = c)) (fun i => V.int (ts.getD i (0, 0)).2) (ev_var rfl) hS (prv_of hP) (by omega) (fun _ _ => rfl)
      (fun i x y H1 e1 hx H2 e2 Q2 q2 => by
        obtain ⟨p, hp, rfl, rfl⟩ := pv_at hx
        rw [getD_at hp] at q2
        refine ⟨_, rfl, _, rfl, rfl, _, rfl, ?_⟩
        rw [dec_intV]
        exact q2 H2 (Ex.refl H2)) (fun i x y H1 e1 hx _ H2 e2 Q2 q2 => by
        obtain ⟨p, hp, rfl, rfl⟩ := pv_at hx
        rw [getD_at hp] at q2
        exact ⟨_, rfl, q2 H2 (Ex.refl H2)⟩)
    rw [given_of (0, 0) ts hlen (fun p => decide (p.1 = c)) (fun p => V.int p.2)] at c2
    refine s_re (cb_op (a_op (op_op (c1 H (Ex.refl H) _ fun D1 H1 hD1 e1 h1 => c2 H1 e1 _ fun D2 H2 hD2 e2 h2 => ⟨D1, D2, _, _, rfl, rfl, e2 _ _ h1, h2, ?_, fun p hp => n_op ?_⟩))))
    · have l1 := List.length_filter_le (fun p : Int × Int => decide (p.2 = c)) ts
      have l2 := List.length_filter_le (fun p : Int × Int => decide (p.1 = c)) ts
      rw [List.length_map, List.length_map]
      exact Nat.le_of_lt (sz_lt (by omega))
    · have e3 := Ex.new (o := HO.lst (((ts.filter fun p => decide (p.2 = c)).map fun p => V.int p.1) ++ ((ts.filter fun p => decide (p.1 = c)).map fun p => V.int p.2))) hp
      refine ⟨p, (ts.filter fun p => decide (p.2 = c)).map (·.1) ++ (ts.filter fun p => decide (p.1 = c)).map (·.2), rfl, .inl (sq_of ?_), ?_, fun ns' b hp1 hp2 hb => ?_⟩
      · rw [upd_same, List.map_append, List.map_map, List.map_map]
        rfl
      · have l1 := List.length_filter_le (fun p : Int × Int => decide (p.2 = c)) ts
        have l2 := List.length_filter_le (fun p : Int × Int => decide (p.1 = c)) ts
        rw [List.length_append, List.length_map, List.length_map]
        omega
      · rw [sortI_eq hp1 hp2]
        exact q b _ (fresh_back ((e1.trans e2).trans e3) hb) (((e1.trans e2).trans e3).trans (Ex.new hb)) upd_same
end
end KW
namespace KX
open PySem PySem.Spec PyProof.Rows L2 Evl KR KS
/-! ### xs[::f(..)], xs of two items, the step 1 or -1 -/
def tStep2 (K : PySem.W.Frag) (te ts : TE) : TE := fun σ H Q => te σ H fun x H1 => ∃ a, x = .ref a ∧ tPart ts σ H1 fun o H2 => ∃ u v i, o = some i ∧ SqL K H2 a [u, v] ∧ (i = 1 ∨ i = -1) ∧ ∀ p, H2 p = none → Q (.ref p) (upd H2 p (.lst (if i = 1 then [u, v] else [v, u])))
section
variable {X : Cx}
theorem pe_step2 {e fn : Expr} {te ts : TE} {args : List Expr} {p2 p3 pos : Pos} (he : PE X e te) (hf : PE X (.Call fn args [] p2) ts) : PE X (.Subscript e (.Slice none none (some (.Call fn args [] p2)) p3) pos) (tStep2 X.K te ts) := by
  refine ⟨fun pins s σ H Q I h => ?_⟩
  refine Subscript_ (thn (he.run pins s σ H _ I h) fun v s1 ⟨x, H1, I1, r1, q1⟩ => ?_)
  obtain ⟨a, ex, q⟩ := q1
  subst ex
  cases r1
  refine wpAny_Slice (thn (po_none.run pins s1 σ H1 (fun o H2 => o = none ∧ H2 = H1) I1 ⟨rfl, rfl⟩) fun vl s2 ⟨l, H2, I2, pl, el, e2⟩ => ?_)
  subst el e2
  refine thn (po_none.run pins s2 σ H2 (fun o H3 => o = none ∧ H3 = H2) I2 ⟨rfl, rfl⟩) fun vu s3 ⟨u, H3, I3, pu, eu, e3⟩ => ?_
  subst eu e3
  refine thn ((po_some hf).run pins s3 σ H3 (fun o H4 => ∃ w z i, o = some i ∧ SqL X.K H4 a [w, z] ∧ (i = 1 ∨ i = -1) ∧ ∀ p, H4 p = none → Q (.ref p) (upd H4 p (.lst (if i = 1 then [w, z] else [z, w])))) I3 q) fun vs s4 ⟨o, H4, I4, ps, hq⟩ => ?_
  obtain ⟨w, z, i, eo, hx, hi, q⟩ := hq
  subst eo
  have I5 : Inv X pins σ H4 { s4 with heap := s4.heap.push { cls := .type "slice", data := .fields #[vl, vu, vs] } } := I4.kept (t' := s4.toks) fun b ob q => Heap.get?_push_of_some _ q
  obtain ⟨its, r, ht, hz⟩ := I5.list hx
  show wpAny (model X.prog X.w) X.A (subscriptTail e (.Slice none none (some (.Call fn args [] p2)) p3) (.ref a) (.ref s4.heap.objs.size)) (EP X pins σ Q) X.xe { s4 with heap := s4.heap.push { cls := .type "slice", data := .fields #[vl, vu, vs] } }
  refine tail_any (ops := [.ref a, .ref s4.heap.objs.size]) ht.isList.typeIs (PySem.slot_list_getitem.lookup) ?_ (by with_unfolding_all rfl)
  obtain ⟨u1, u2, rfl, e1, e2⟩ := vals2 r
  refine wpAny_getItem_list_slice ht.isList (Heap.IsSliceOf.new _ vl vu vs) pl pu ps (by rcases hi with rfl | rfl <;> decide) ?_ (by show 2 ≤ sizeLine; decide)
  have hpk : slicePick (#[u1, u2] : Array Value) none none (some i) = (if i = 1 then [u1, u2] else [u2, u1]).toArray := by
    rcases hi with rfl | rfl
    · show slicePick [u1, u2].toArray none none (some 1) = _
      rw [if_pos rfl]
      unfold slicePick
      rw [show sliceBounds none none (some 1) ([u1, u2].toArray).size = (0, 2, 1) from by show sliceBounds none none (some 1) 2 = (0, 2, 1); decide +kernel]
      show (List.filterMap ([u1, u2].toArray[·]?) (sliceRange 0 2 1)).toArray = _
      rw [show sliceRange 0 2 1 = [0, 1] from by decide +kernel]
      rfl
    · show slicePick [u1, u2].toArray none none (some (-1)) = _
      rw [PySem.W.krv_pick, if_neg (by decide)]
      rfl
  rw [show ([u1, u2].toArray) = #[u1, u2] from rfl, hpk]
  refine ⟨.ref _, _, I5.laid (t' := s4.toks) (o := .lst (if i = 1 then [w, z] else [z, w])) (fun b ob q => Heap.get?_push_of_some _ q) (Nat.le_refl _) ?_, rfl, q _ (I5.hok.fresh (Nat.le_refl _))⟩
  refine ⟨by split <;> (show 2 ≤ sizeLine; decide), _, 0, ?_, Heap.get?_push_size _ rfl⟩
  rcases hi with rfl | rfl
  · exact .cons e1 (.cons e2 .nil)
  · exact .cons e2 (.cons e1 .nil)
end
end KX
namespace KW
open PySem PySem.Spec PyProof.Rows L2 KR KS KX Evl StX
/-! ### _law_told -/
def srt (p : Int × Int) : Int × Int := (min p.1 p.2, max p.1 p.2)
theorem srt_swap (a b : Int) : srt (b, a) = srt (a, b) := by unfold srt; rw [Int.min_comm, Int.max_comm]
theorem ExT.pen {H H' : Hp} {p l : Addr} {ns : List Int} {n : Int} (h : Pen H p l ns n) (e : ExP p H H') : ExT H H' := by
  obtain ⟨t, r, a, _⟩ := h.at_
  exact ⟨fun b xs hb => e b _ (fun z => by rw [z, a] at hb; cases hb) hb, fun b o u hb => e b _ (fun z => by rw [z, a] at hb; cases hb) hb⟩
theorem row_pen {H : Hp} {p l : Addr} {ns : List Int} {n : Int} (h : Pen H p l ns n) {b : Addr} {x y : V} (hb : H b = some (.lst [x, y])) : b ≠ p := fun z => by
  obtain ⟨t, r, a, _⟩ := h.at_
  rw [z, a] at hb
  cases hb
theorem perm_prs {H : Hp} {xs xs' : List V} {ps : List (Int × Int)} (h : Paired (PrR H) xs ps) (k : xs'.Perm xs) : ∃ ps', ps'.Perm ps ∧ Paired (PrR H) xs' ps' := by
  refine ⟨xs'.map (keyP H), ?_, prs_of fun v hv => pr_mem h v (k.mem_iff.mp hv)⟩
  rw [← keys_of h]
  exact k.map _
/-- a row of two in a list, not at D -/
def RowL (D : Addr) (H : Hp) (v : V) (q : Int × Int) : Prop := ∃ b, v = .ref b ∧ b ≠ D ∧ H b = some (.lst [.int q.1, .int q.2])
/-- a row of two in a list or a tuple, not at D, and what it is -/
def RowQ (D : Addr) (H : Hp) (v : V) (d : Va) : Prop := ∃ (b : Addr) (q : Int × Int), v = .ref b ∧ b ≠ D ∧ ((H b = some (.lst [.int q.1, .int q.2]) ∧ d = .lst [.int q.1, .int q.2]) ∨ (H b = some (.tup [.int q.1, .int q.2]) ∧ d = .tup [.int q.1, .int q.2]))
theorem RowQ.rv {D : Addr} {H : Hp} {v : V} {d : Va} (h : RowQ D H v d) : Rv H v d ∧ isPair d = true := by
  obtain ⟨b, q, rfl, _, ⟨hb, rfl⟩ | ⟨hb, rfl⟩⟩ := h
  · exact ⟨.lst hb (.cons (.int _) (.cons (.int _) .nil)) (by show 2 ≤ 1000; decide), rfl⟩
  · exact ⟨.tup (.inl hb) (.cons (.int _) (.cons (.int _) .nil)) (by show 2 ≤ 1000; decide), rfl⟩
section
variable {P : Program} {w : World} {K : PySem.W.Frag} {mg : Str → Option Value} {base : Heap}
end
end KW
namespace KW
open PySem PySem.Spec PyProof.Rows L2 KR KS KX Evl StX
/-! ### the rows of neighbours of drawn ties -/
def besL (ts : List (Int × Int)) (c : Int) : List Int := (ts.filter fun p => decide (p.2 = c)).map (·.1) ++ (ts.filter fun p => decide (p.1 = c)).map (·.2)
theorem besM_def (ts : List (Int × Int)) (c : Int) : besM ts c = sortI (besL ts c) := rfl
theorem row_app {near : List (List Int)} {i x c : Int} (hi : 0 ≤ i ∧ i < (near.length : Int)) (hc : 0 ≤ c) : rowAt (app near i x) c = if c = i then rowAt near i ++ [x] else rowAt near c := by
  unfold app
  unfold rowAt
  rw [List.getD_eq_getElem?_getD, List.getD_eq_getElem?_getD, List.getD_eq_getElem?_getD]
  by_cases h : c = i
  · subst h
    rw [if_pos rfl, List.getElem?_set_self (by omega)]
    rfl
  · rw [if_neg h, List.getElem?_set_ne (by omega)]
theorem rows_fold {n : Nat} {c : Int} (hc : 0 ≤ c) : ∀ (ps : List (Int × Int)) (near : List (List Int)), near.length = n → (∀ p ∈ ps, (0 ≤ p.1 ∧ p.1 < (n : Int)) ∧ (0 ≤ p.2 ∧ p.2 < (n : Int)) ∧ p.1 ≠ p.2) →
    (rowAt (ps.foldl (fun near p => app (app near p.1 p.2) p.2 p.1) near) c).Perm (rowAt near c ++ besL ps c)
  | [], near, _, _ => by
    show (rowAt near c).Perm (rowAt near c ++ ([] ++ []))
    rw [List.append_nil, List.append_nil]
  | p :: ps, near, hn, hb => by
    obtain ⟨h1, h2, h3⟩ := hb p List.mem_cons_self
    rw [List.foldl_cons]
    have ih := rows_fold hc ps (app (app near p.1 p.2) p.2 p.1) (by rw [app_len, app_len]; exact hn) fun q hq => hb q (List.mem_cons_of_mem _ hq)
    refine ih.trans ?_
    rw [row_app (by rw [app_len]; omega) hc]
    have hr2 : rowAt (app near p.1 p.2) p.2 = rowAt near p.2 := by rw [row_app (by omega) (by omega), if_neg (fun z => h3 z.symm)]
    rw [hr2, row_app (by omega) hc]
    unfold besL
    rw [List.filter_cons, List.filter_cons]
    by_cases e2 : c = p.2
    · have e1 : ¬ c = p.1 := fun z => h3 (z.symm.trans e2)
      rw [if_pos e2, ← e2, decide_eq_true rfl, decide_eq_false (fun z => e1 z.symm)]
      simp only [if_true, Bool.false_eq_true, if_false, List.map_cons, List.cons_append, List.append_assoc, List.singleton_append]
      exact List.Perm.refl _
    · by_cases e1 : c = p.1
      · rw [if_neg e2, if_pos e1, decide_eq_false (fun z => e2 z.symm), ← e1, decide_eq_true rfl]
        simp only [if_true, Bool.false_eq_true, if_false, List.map_cons, List.append_assoc, List.singleton_append]
        refine List.Perm.append_left _ ?_
        exact List.perm_middle.symm
      · rw [if_neg e2, if_neg e1, decide_eq_false (fun z => e2 z.symm), decide_eq_false (fun z => e1 z.symm)]
        exact List.Perm.refl _
theorem raw_rows {m : Nat} {ps : List (Int × Int)} (hb : ∀ p ∈ ps, (0 ≤ p.1 ∧ p.1 < (m : Int)) ∧ (0 ≤ p.2 ∧ p.2 < (m : Int)) ∧ p.1 ≠ p.2) {c : Int} (hc : 0 ≤ c) : (rowAt (rawN (m : Int) ps) c).Perm (besL ps c) := by
  have := rows_fold (n := m) hc ps (List.replicate (m : Int).toNat []) (by rw [List.length_replicate]; omega) hb
  unfold rawN
  refine this.trans ?_
  have e : rowAt (List.replicate (m : Int).toNat []) c = [] := by
    unfold rowAt
    rw [List.getD_eq_getElem?_getD, List.getElem?_replicate]
    split <;> rfl
  rw [e]
  exact List.Perm.refl _
theorem bes_perm {ts us : List (Int × Int)} (h : us.Perm ts) (c : Int) : (besL us c).Perm (besL ts c) := ((h.filter _).map _).append ((h.filter _).map _)
theorem bes_mem {ts : List (Int × Int)} {c x : Int} : x ∈ besL ts c ↔ (x, c) ∈ ts ∨ (c, x) ∈ ts := by
  unfold besL
  rw [List.mem_append, List.mem_map, List.mem_map]
  refine ⟨fun h => ?_, fun h => ?_⟩
  · rcases h with ⟨p, h1, h2⟩ | ⟨p, h1, h2⟩
    · obtain ⟨h3, h4⟩ := List.mem_filter.mp h1
      have h4 : p.2 = c := of_decide_eq_true h4
      exact .inl (by rw [← h2, ← h4]; exact h3)
    · obtain ⟨h3, h4⟩ := List.mem_filter.mp h1
      have h4 : p.1 = c := of_decide_eq_true h4
      exact .inr (by rw [← h2, ← h4]; exact h3)
  · rcases h with h | h
    · exact .inl ⟨(x, c), List.mem_filter.mpr ⟨h, decide_eq_true rfl⟩, rfl⟩
    · exact .inr ⟨(c, x), List.mem_filter.mpr ⟨h, decide_eq_true rfl⟩, rfl⟩
/-! ### what hangs together -/
theorem push_fold_sub : ∀ (row : List Int) (r s : List Int), (∀ x ∈ s, x ∈ (row.foldl push (r, s)).2) ∧ (∀ x ∈ r, x ∈ (row.foldl push (r, s)).1) ∧ (∀ y ∈ row, y ∈ (row.foldl push (r, s)).2) ∧ ∀ x ∈ (row.foldl push (r, s)).2, x ∈ s ∨ x ∈ (row.foldl push (r, s)).1
  | [], r, s => ⟨fun _ h => h, fun _ h => h, fun _ h => absurd h List.not_mem_nil, fun _ h => Or.inl h⟩
  | o :: row, r, s => by
    rw [List.foldl_cons]
    by_cases h : o ∈ s
    · have e : push (r, s) o = (r, s) := by unfold push; rw [if_pos h]
      rw [e]
      obtain ⟨h1, h2, h3, h4⟩ := push_fold_sub row r s
      exact ⟨h1, h2, fun y hy => (List.mem_cons.mp hy).elim (fun z => by rw [z]; exact h1 o h) (h3 y), h4⟩
    · have e : push (r, s) o = (r ++ [o], s ++ [o]) := by unfold push; rw [if_neg h]
      rw [e]
      obtain ⟨h1, h2, h3, h4⟩ := push_fold_sub row (r ++ [o]) (s ++ [o])
      refine ⟨fun x hx => h1 x (List.mem_append_left _ hx), fun x hx => h2 x (List.mem_append_left _ hx), fun y hy => (List.mem_cons.mp hy).elim (fun z => by rw [z]; exact h1 o (by simp)) (h3 y), fun x hx => ?_⟩
      rcases h4 x hx with h5 | h5
      · rcases List.mem_append.mp h5 with h6 | h6
        · exact .inl h6
        · exact .inr (h2 x (List.mem_append_right _ h6))
      · exact .inr h5
theorem hg_fold {n m : Nat} : ∀ (row : List Int) (r s : List Int), (∀ o ∈ row, 0 ≤ o ∧ o < (n : Int)) → Hg n m r s → Hg n m (row.foldl push (r, s)).1 (row.foldl push (r, s)).2
  | [], _, _, _, h => h
  | o :: row, r, s, hb, h => by
    rw [List.foldl_cons]
    have := h.push (hb o List.mem_cons_self)
    exact hg_fold row _ _ (fun y hy => hb y (List.mem_cons_of_mem _ hy)) this
theorem getLastD_mem : ∀ (x : Int) (l : List Int), (x :: l).getLastD 0 ∈ x :: l := fun x l => by
  rw [List.getLastD_cons]
  exact List.getLastD_mem_cons ..
theorem dropLast_or {r : List Int} {x : Int} (h : x ∈ r) : x ∈ r.dropLast ∨ x = r.getLastD 0 := by
  cases r with
  | nil => cases h
  | cons a l =>
    have e := List.dropLast_concat_getLast (l := a :: l) (List.cons_ne_nil _ _)
    rw [← e] at h
    rcases List.mem_append.mp h with h | h
    · exact .inl h
    · refine .inr ?_
      rw [List.mem_singleton.mp h, List.getLastD_eq_getLast?, List.getLast?_eq_some_getLast (List.cons_ne_nil _ _)]
      rfl
theorem dfs_closed {near : List (List Int)} (hb : ∀ row ∈ near, ∀ x ∈ row, 0 ≤ x ∧ x < (near.length : Int)) : ∀ (m : Nat) (r s : List Int), Hg near.length m r s → (∀ x ∈ s, x ∉ r → ∀ y ∈ rowAt near x, y ∈ s) →
    (∀ x ∈ s, x ∈ (dfs near m r s).2) ∧ (∀ x ∈ (dfs near m r s).2, ∀ y ∈ rowAt near x, y ∈ (dfs near m r s).2) ∧ (dfs near m r s).2.Nodup ∧ ∀ x ∈ (dfs near m r s).2, 0 ≤ x ∧ x < (near.length : Int)
  | 0, r, s, h, hc => by
    have h1 := h.ms
    have h2 := h.le
    have hr : r = [] := List.eq_nil_of_length_eq_zero (by omega)
    subst hr
    exact ⟨fun _ h => h, fun x hx y hy => hc x hx List.not_mem_nil y hy, h.nd, h.bd⟩
  | m + 1, [], s, h, hc => ⟨fun _ h => h, fun x hx y hy => hc x hx List.not_mem_nil y hy, h.nd, h.bd⟩
  | m + 1, x :: l, s, h, hc => by
    unfold dfs
    simp only
    have hlast : (x :: l).getLastD 0 ∈ s := h.sub _ (getLastD_mem x l)
    generalize hz : (x :: l).getLastD 0 = z at hlast
    have hrow : ∀ o ∈ rowAt near z, 0 ≤ o ∧ o < (near.length : Int) := fun o ho => by
      unfold rowAt at ho
      rw [List.getD_eq_getElem?_getD] at ho
      cases e : near[z.toNat]? with
      | none => rw [e] at ho; cases ho
      | some row => rw [e] at ho; exact hb row (List.mem_of_getElem? e) o ho
    have h0 : Hg near.length m (x :: l).dropLast s := by
      refine ⟨h.nd, h.bd, fun y hy => h.sub y ((List.dropLast_sublist _).subset hy), ?_, h.le, by have := h.mn; omega⟩
      have := h.ms
      rw [List.length_dropLast]
      simp only [List.length_cons] at this ⊢
      omega
    obtain ⟨p1, p2, p3, p4⟩ := push_fold_sub (rowAt near z) (x :: l).dropLast s
    have h1 := hg_fold (rowAt near z) (x :: l).dropLast s hrow h0
    generalize (rowAt near z).foldl push ((x :: l).dropLast, s) = st at p1 p2 p3 p4 h1
    obtain ⟨q1, q2, q3, q4⟩ := dfs_closed hb m st.1 st.2 h1 (fun y hy hyr w hw => by
      rcases p4 y hy with h5 | h5
      · by_cases hyl : y ∈ x :: l
        · rcases dropLast_or hyl with h6 | h6
          · exact absurd (p2 y h6) hyr
          · rw [h6, hz] at hw
            exact p3 w hw
        · exact p1 w (hc y h5 hyl w hw)
      · exact absurd h5 hyr)
    exact ⟨fun y hy => q1 y (p1 y hy), q2, q3, q4⟩
/-- each piece but the first tied to an earlier one -/
theorem hang_of {m : Nat} {ts : List (Int × Int)} (hm : 1 ≤ m) (hb : ∀ p ∈ ts, 0 ≤ p.1 ∧ p.1 < p.2 ∧ p.2 < (m : Int)) (hc : ∀ j : Int, 1 ≤ j → j < (m : Int) → ∃ p ∈ ts, p.2 = j) {ps : List (Int × Int)} (hp : ps.Perm ts) : hangB (rawN (m : Int) ps) = true := by
  have hb2 : ∀ p ∈ ps, (0 ≤ p.1 ∧ p.1 < (m : Int)) ∧ (0 ≤ p.2 ∧ p.2 < (m : Int)) ∧ p.1 ≠ p.2 := fun p hq => by
    obtain ⟨h1, h2, h3⟩ := hb p (hp.mem_iff.mp hq)
    exact ⟨⟨h1, by omega⟩, ⟨by omega, h3⟩, by omega⟩
  have hlen : (rawN (m : Int) ps).length = m := by rw [rawN_len]; omega
  have hrow : ∀ c x : Int, 0 ≤ c → (x ∈ rowAt (rawN (m : Int) ps) c ↔ (x, c) ∈ ts ∨ (c, x) ∈ ts) := fun c x h0 => by
    rw [(raw_rows hb2 h0).mem_iff, (bes_perm hp c).mem_iff, bes_mem]
  have hbr : ∀ row ∈ rawN (m : Int) ps, ∀ x ∈ row, 0 ≤ x ∧ x < ((rawN (m : Int) ps).length : Int) := fun row hr x hx => by
    obtain ⟨i, hi⟩ := List.getElem?_of_mem hr
    have hx2 : x ∈ rowAt (rawN (m : Int) ps) (i : Int) := by
      unfold rowAt
      rw [List.getD_eq_getElem?_getD, Int.toNat_natCast, hi]
      exact hx
    rw [hlen]
    rcases (hrow (i : Int) x (by omega)).mp hx2 with h | h
    · have := hb _ h; simp only at this; omega
    · have := hb _ h; simp only at this; omega
  unfold hangB
  have hg : Hg (rawN (m : Int) ps).length (rawN (m : Int) ps).length [0] [0] := by
    rw [hlen]
    exact ⟨by simp, fun x hx => by rw [List.mem_singleton.mp hx]; omega, fun x hx => hx, rfl, hm, Nat.le_refl _⟩
  obtain ⟨q1, q2, q3, q4⟩ := dfs_closed hbr (rawN (m : Int) ps).length [0] [0] hg (fun x hx hn => absurd hx hn)
  have hall : ∀ j : Nat, j < m → (j : Int) ∈ (dfs (rawN (m : Int) ps) (rawN (m : Int) ps).length [0] [0]).2 := by
    intro j
    induction j using Nat.strongRecOn with
    | ind j ih =>
      intro hj
      by_cases h0 : j = 0
      · subst h0
        exact q1 0 List.mem_cons_self
      · obtain ⟨p, hp1, hp2⟩ := hc (j : Int) (by omega) (by omega)
        obtain ⟨b1, b2, b3⟩ := hb p hp1
        have h1 := ih p.1.toNat (by omega) (by omega)
        rw [show ((p.1.toNat : Nat) : Int) = p.1 from by omega] at h1
        refine q2 p.1 h1 (j : Int) ((hrow p.1 (j : Int) b1).mpr (.inr ?_))
        rw [← hp2]
        exact hp1
  refine decide_eq_true (Nat.le_antisymm (card_le q3 q4) ?_)
  have := nd_le (l := (List.range m).map fun i => ((i : Nat) : Int)) (m := (dfs (rawN (m : Int) ps) (rawN (m : Int) ps).length [0] [0]).2) (List.pairwise_map.mpr (List.nodup_range.imp fun h z => h (Int.ofNat.inj z))) (fun x hx => by
    obtain ⟨i, hi, rfl⟩ := List.mem_map.mp hx
    exact hall i (List.mem_range.mp hi))
  rw [List.length_map, List.length_range] at this
  rw [hlen] at this ⊢
  exact this
end KW
namespace KW
open PySem PySem.Spec PyProof.Rows L2 KR KS KX Evl StX
/-! ### a drawn web is a web -/
structure WebT (ks : List Str) (ts : List (Int × Int)) (hs : List Int) (ss : List (Int × Int)) : Prop where
  len : 1 ≤ ks.length ∧ ks.length ≤ 16
  nam : ∀ z ∈ ks, KW.nam z.cps.toList = true ∧ z.length ≤ 1000
  tb : ∀ p ∈ ts, 0 ≤ p.1 ∧ p.1 < p.2 ∧ p.2 < (ks.length : Int)
  tsd : ts.Pairwise fun a b => leP a b = true
  tn : ts.Nodup
  tl : ts.length ≤ 31
  deg : ∀ c : Int, (besL ts c).length ≤ 4
  tie : ∀ j : Int, 1 ≤ j → j < (ks.length : Int) → ∃ p ∈ ts, p.2 = j
  hsd : hs.Pairwise (· ≤ ·)
  hn : hs.Nodup
  hb : ∀ h ∈ hs, 0 ≤ h ∧ h < (ks.length : Int)
  hd : ∀ h ∈ hs, 3 ≤ (besL ts h).length
  ssd : ss.Pairwise fun a b => leP a b = true
  sn : ss.Nodup
  si : ∀ p ∈ ss, p ∈ ts
  se : ∀ p ∈ ss, ∀ e ∈ [p.1, p.2], e ∉ hs ∧ ((besL ts e).length = 2 ∨ (besL ts e).length = 3)
  su : (ss.map fun p => [p.1, p.2]).flatten.Nodup
theorem ft_none {κ : Type} [DecidableEq κ] : ∀ (l s : List κ), l.Nodup → (∀ x ∈ l, x ∉ s) → ft s l = none
  | [], _, _, _ => rfl
  | x :: l, s, h, k => by
    obtain ⟨h1, h2⟩ := List.nodup_cons.mp h
    have hx := k x List.mem_cons_self
    show (if x ∈ s then some x else ft (s ++ [x]) l) = none
    rw [if_neg hx]
    refine ft_none l _ h2 fun y hy z => ?_
    rcases List.mem_append.mp z with z | z
    · exact k y (List.mem_cons_of_mem _ hy) z
    · exact h1 (by rw [← List.mem_singleton.mp z]; exact hy)
theorem pl_inj {a b : Int × Int} (h : pl a = pl b) : a = b := by
  unfold pl at h
  have h1 := List.cons.inj h
  exact Prod.ext h1.1 (List.cons.inj h1.2).1
theorem ft_asc {l : List Va} {ts : List (Int × Int)} (h : (l.map ascQ).Perm ts) (hn : ts.Nodup) : ft [] (l.map ascV) = none := by
  refine ft_none _ _ ?_ fun _ _ => List.not_mem_nil
  have e : l.map ascV = (l.map ascQ).map pl := ascV_map l
  rw [e]
  exact List.pairwise_map.mpr ((h.nodup_iff.mpr hn).imp fun hne z => hne (pl_inj z))
/-- the neighbours of a drawn web -/
def nearT (m : Nat) (ts : List (Int × Int)) : List (List Int) := (rawN (m : Int) ts).map sortI
theorem sortI_perm_eq {l m : List Int} (h : l.Perm m) : sortI l = sortI m := sortI_eq ((sortI_perm l).trans h) (sortI_sorted l)
theorem near_row {ks : List Str} {ts : List (Int × Int)} {hs : List Int} {ss : List (Int × Int)} (T : WebT ks ts hs ss) {c : Int} (hc : 0 ≤ c ∧ c < (ks.length : Int)) : rowAt (nearT ks.length ts) c = besM ts c := by
  have hb2 : ∀ p ∈ ts, (0 ≤ p.1 ∧ p.1 < (ks.length : Int)) ∧ (0 ≤ p.2 ∧ p.2 < (ks.length : Int)) ∧ p.1 ≠ p.2 := fun p hq => by
    obtain ⟨h1, h2, h3⟩ := T.tb p hq
    exact ⟨⟨h1, by omega⟩, ⟨by omega, h3⟩, by omega⟩
  have h := raw_rows hb2 hc.1
  have hlen : (rawN (ks.length : Int) ts).length = ks.length := by rw [rawN_len]; omega
  rw [besM_def, ← sortI_perm_eq h]
  unfold nearT rowAt
  rw [List.getD_eq_getElem?_getD, List.getElem?_map, List.getD_eq_getElem?_getD, List.getElem?_eq_getElem (by omega)]
  rfl
theorem bes_len (ts : List (Int × Int)) (c : Int) : (besM ts c).length = (besL ts c).length := (sortI_perm _).length_eq
theorem isPairs_of {d : Va} {l : List Va} (hl : seqV d = some l) (h : l.all isPair = true) : arePairs d = true := by
  unfold arePairs
  rw [hl]
  exact h
theorem find_none {α : Type} {p : α → Bool} {l : List α} (h : ∀ x ∈ l, p x = false) : l.find? p = none := List.find?_eq_none.mpr fun x hx z => by rw [h x hx] at z; cases z
section
variable {ks : List Str} {ts : List (Int × Int)} {hs : List Int} {ss : List (Int × Int)}
theorem min_max_perm (a b : Int) : [a, b].Perm [min a b, max a b] := by
  by_cases h : a ≤ b
  · rw [Int.min_eq_left h, Int.max_eq_right h]
  · rw [Int.min_eq_right (by omega), Int.max_eq_left (by omega)]
    exact List.Perm.swap _ _ _
theorem flat_perm {α β : Type} {f g : α → List β} (h : ∀ x, (f x).Perm (g x)) : ∀ {l : List α}, (l.map f).flatten.Perm (l.map g).flatten
  | [] => List.Perm.refl _
  | x :: l => by
    rw [List.map_cons, List.map_cons, List.flatten_cons, List.flatten_cons]
    exact (h x).append (flat_perm h)
theorem asc_in {l : List Va} {us : List (Int × Int)} (h : (l.map ascQ).Perm us) {t : Va} (ht : t ∈ l) : ascQ t ∈ us := h.mem_iff.mp (List.mem_map.mpr ⟨t, ht, rfl⟩)
theorem ties_ok (T : WebT ks ts hs ss) {d : Va} {l : List Va} (hl : seqV d = some l) (hp : l.all isPair = true) (h : (l.map ascQ).Perm ts) : tiesM d (ks.length : Int) = .ok ts := by
  have hit : itemsV d = l := by unfold itemsV; rw [hl]; rfl
  have hself : selfT d = false := by
    unfold selfT
    rw [hit]
    refine List.any_eq_false.mpr fun t ht => ?_
    have := T.tb _ (asc_in h ht)
    unfold ascQ at this
    simp only at this
    rw [decide_eq_true_eq]
    omega
  have hbad : badP (ks.length : Int) (endsT d) = none := by
    unfold badP
    refine find_none fun e he => ?_
    unfold endsT at he
    rw [hit] at he
    obtain ⟨r, hr, her⟩ := List.mem_flatten.mp he
    obtain ⟨t, ht, rfl⟩ := List.mem_map.mp hr
    have := T.tb _ (asc_in h ht)
    unfold ascQ at this
    simp only at this
    simp only [List.mem_cons, List.not_mem_nil, or_false] at her
    have hbd : 0 ≤ e ∧ e ≤ (ks.length : Int) - 1 := by rcases her with rfl | rfl <;> omega
    rw [decide_eq_true hbd.1, decide_eq_true hbd.2]
    rfl
  unfold tiesM
  rw [isPairs_of hl hp, hself, hbad, hit, ft_asc h T.tn, ← sortP_eq h.symm T.tsd]
  rfl
theorem near_ok (T : WebT ks ts hs ss) : nearM (ks.length : Int) ts = .ok (nearT ks.length ts) := by
  have hb2 : ∀ p ∈ ts, (0 ≤ p.1 ∧ p.1 < (ks.length : Int)) ∧ (0 ≤ p.2 ∧ p.2 < (ks.length : Int)) ∧ p.1 ≠ p.2 := fun p hq => by
    obtain ⟨h1, h2, h3⟩ := T.tb p hq
    exact ⟨⟨h1, by omega⟩, ⟨by omega, h3⟩, by omega⟩
  have hany : ((rawN (ks.length : Int) ts).any fun r => decide (4 < r.length)) = false := List.any_eq_false.mpr fun row hr => by
    obtain ⟨i, hi⟩ := List.getElem?_of_mem hr
    have e : rowAt (rawN (ks.length : Int) ts) (i : Int) = row := by
      unfold rowAt
      rw [List.getD_eq_getElem?_getD, Int.toNat_natCast, hi]
      rfl
    have h := (raw_rows hb2 (show (0 : Int) ≤ (i : Int) by omega)).length_eq
    rw [e] at h
    have := T.deg (i : Int)
    rw [decide_eq_true_eq]
    omega
  unfold nearM
  rw [hany, hang_of T.len.1 T.tb T.tie (List.Perm.refl _)]
  rfl
theorem near_len2 (T : WebT ks ts hs ss) : (nearT ks.length ts).length = ks.length := by
  unfold nearT
  rw [List.length_map, rawN_len]
  omega
theorem hubs_ok (T : WebT ks ts hs ss) {d : Va} (hn : isNums d = true) (h : (intsV d).Perm hs) : hubsM d (nearT ks.length ts) = .ok hs := by
  have hbad : badP ((nearT ks.length ts).length : Int) (intsV d) = none := by
    unfold badP
    refine find_none fun e he => ?_
    have := T.hb e (h.mem_iff.mp he)
    rw [near_len2 T, decide_eq_true this.1, decide_eq_true (show e ≤ (ks.length : Int) - 1 by omega)]
    rfl
  have hfew : fewH (nearT ks.length ts) (intsV d) = false := by
    unfold fewH
    refine List.any_eq_false.mpr fun e he => ?_
    have h1 := T.hb e (h.mem_iff.mp he)
    have h2 := T.hd e (h.mem_iff.mp he)
    rw [decide_eq_true_eq, near_row T h1, bes_len]
    omega
  unfold hubsM
  rw [hn, hbad, ft_none _ _ (h.nodup_iff.mpr T.hn) (fun _ _ => List.not_mem_nil), hfew, ← sortI_eq h.symm T.hsd]
  rfl
theorem stiff_ok (T : WebT ks ts hs ss) {d : Va} {l : List Va} (hl : seqV d = some l) (hp : l.all isPair = true) (h : (l.map ascQ).Perm ss) : stiffM d ts hs (nearT ks.length ts) = .ok ss := by
  have hit : itemsV d = l := by unfold itemsV; rw [hl]; rfl
  have hno : noTie ts l = none := find_none fun t ht => by
    rw [decide_eq_true (T.si _ (asc_in h ht))]
    rfl
  have hends : ∀ e ∈ endsT d, ∃ p ∈ ss, e ∈ [p.1, p.2] := fun e he => by
    unfold endsT at he
    rw [hit] at he
    obtain ⟨r, hr, her⟩ := List.mem_flatten.mp he
    obtain ⟨t, ht, rfl⟩ := List.mem_map.mp hr
    refine ⟨ascQ t, asc_in h ht, ?_⟩
    unfold ascQ
    simp only [List.mem_cons, List.not_mem_nil, or_false] at her ⊢
    rcases her with rfl | rfl <;> omega
  have hst : stiffB (endsT d) hs (nearT ks.length ts) = true := by
    unfold stiffB
    rw [Bool.and_eq_true]
    refine ⟨List.all_eq_true.mpr fun e he => ?_, ?_⟩
    · obtain ⟨p, hp1, hp2⟩ := hends e he
      obtain ⟨h1, h2⟩ := T.se p hp1 e hp2
      have hb := T.tb p (T.si p hp1)
      have hr : 0 ≤ e ∧ e < (ks.length : Int) := by
        simp only [List.mem_cons, List.not_mem_nil, or_false] at hp2
        rcases hp2 with rfl | rfl <;> omega
      unfold endOk
      rw [near_row T hr, bes_len, decide_eq_false h1]
      rcases h2 with h2 | h2 <;> rw [h2] <;> rfl
    · have hnd : (endsT d).Nodup := by
        unfold endsT
        rw [hit]
        have h1 : (l.map fun t => [(prV t).1, (prV t).2]).flatten.Perm ((l.map ascQ).map fun p => [p.1, p.2]).flatten := by
          rw [List.map_map]
          exact flat_perm fun t => min_max_perm _ _
        exact (h1.trans (h.map _).flatten).nodup_iff.mpr T.su
      rw [ft_none _ _ hnd fun _ _ => List.not_mem_nil]
      rfl
  unfold stiffM
  rw [isPairs_of hl hp, hit, hno, ft_asc h T.sn, hst, ← sortP_eq h.symm T.ssd]
  rfl
end
end KW
namespace KW
open PySem PySem.Spec PyProof.Rows L2 KR KS KX Evl StX
/-! ### drawing a web: what the ties keep -/
structure TieI (ts : List (Int × Int)) (k : Nat) : Prop where
  tb : ∀ p ∈ ts, 0 ≤ p.1 ∧ p.1 < p.2 ∧ p.2 < (k : Int)
  tn : ts.Nodup
  deg : ∀ c : Int, (besL ts c).length ≤ 4
  tie : ∀ j : Int, 1 ≤ j → j < (k : Int) → ∃ p ∈ ts, p.2 = j
theorem deg_snoc (ts : List (Int × Int)) (q : Int × Int) (x : Int) : (besL (ts ++ [q]) x).length = (besL ts x).length + (if q.2 = x then 1 else 0) + (if q.1 = x then 1 else 0) := by
  unfold besL
  rw [List.filter_append, List.filter_append, List.length_append, List.length_map, List.length_map, List.length_append, List.length_append, List.length_append, List.length_map, List.length_map]
  have h1 : (List.filter (fun p : Int × Int => decide (p.2 = x)) [q]).length = if q.2 = x then 1 else 0 := by
    by_cases h : q.2 = x
    · simp [h]
    · simp [h]
  have h2 : (List.filter (fun p : Int × Int => decide (p.1 = x)) [q]).length = if q.1 = x then 1 else 0 := by
    by_cases h : q.1 = x
    · simp [h]
    · simp [h]
  rw [h1, h2]
  omega
theorem deg_far {ts : List (Int × Int)} {k : Nat} (h : ∀ p ∈ ts, 0 ≤ p.1 ∧ p.1 < p.2 ∧ p.2 < (k : Int)) : besL ts (k : Int) = [] := by
  unfold besL
  rw [List.filter_eq_nil_iff.mpr fun p hp => ?_, List.filter_eq_nil_iff.mpr fun p hp => ?_]
  · rfl
  · have := h p hp; rw [decide_eq_true_eq]; omega
  · have := h p hp; rw [decide_eq_true_eq]; omega
theorem deg_le {ts : List (Int × Int)} (h : ∀ p ∈ ts, p.1 < p.2) (x : Int) : (besL ts x).length ≤ ts.length := by
  induction ts with
  | nil => exact Nat.le_refl _
  | cons q ts ih =>
    have e : besL (q :: ts) x = besL ([q] ++ ts) x := rfl
    have hp : (besL (q :: ts) x).length = (besL (ts ++ [q]) x).length := (bes_perm (List.perm_append_comm (l₁ := [q]) (l₂ := ts)) x).length_eq
    have h1 := ih fun p hp => h p (List.mem_cons_of_mem _ hp)
    have h2 := h q List.mem_cons_self
    rw [hp, deg_snoc, List.length_cons]
    by_cases e2 : q.2 = x
    · rw [if_pos e2, if_neg (by omega)]; omega
    · rw [if_neg e2]; split <;> omega
theorem TieI.one : TieI [] 1 := ⟨fun _ h => absurd h List.not_mem_nil, List.nodup_nil, fun _ => Nat.zero_le _, fun j h1 h2 => by omega⟩
/-- a further piece -/
theorem TieI.piece {ts : List (Int × Int)} {k : Nat} (h : TieI ts k) {c : Int} (hc : 0 ≤ c ∧ c < (k : Int)) (hd : (besL ts c).length < 4) : TieI (ts ++ [(c, (k : Int))]) (k + 1) ∧ (besL (ts ++ [(c, (k : Int))]) (k : Int)).length ≤ 1 := by
  have hk := deg_far h.tb
  refine ⟨⟨fun p hp => ?_, ?_, fun x => ?_, fun j h1 h2 => ?_⟩, ?_⟩
  · rcases List.mem_append.mp hp with hp | hp
    · have := h.tb p hp; omega
    · rw [List.mem_singleton.mp hp]; simp only; omega
  · refine List.nodup_append.mpr ⟨h.tn, by simp, fun a ha b hb => ?_⟩
    rw [List.mem_singleton.mp hb]
    intro z
    have := h.tb a ha
    rw [z] at this
    simp only at this
    omega
  · rw [deg_snoc]
    simp only
    by_cases e2 : (k : Int) = x
    · subst e2
      rw [hk, if_pos rfl, if_neg (by omega)]
      decide
    · rw [if_neg e2]
      by_cases e1 : c = x
      · subst e1; rw [if_pos rfl]; omega
      · rw [if_neg e1]; have := h.deg x; omega
  · by_cases e : j = (k : Int)
    · exact ⟨(c, (k : Int)), by simp, e.symm⟩
    · obtain ⟨p, h3, h4⟩ := h.tie j h1 (by omega)
      exact ⟨p, List.mem_append_left _ h3, h4⟩
  · rw [deg_snoc, hk, if_pos rfl, if_neg (show ¬ c = (k : Int) by omega)]
    decide
/-- a further tie -/
theorem TieI.more {ts : List (Int × Int)} {k : Nat} (h : TieI ts k) {c e : Int} (hc : 0 ≤ c) (hce : c < e) (he : e < (k : Int)) (hn : (c, e) ∉ ts) (hd : (besL ts c).length < 4) (hd2 : (besL ts e).length < 4) : TieI (ts ++ [(c, e)]) k := by
  refine ⟨fun p hp => ?_, ?_, fun x => ?_, fun j h1 h2 => ?_⟩
  · rcases List.mem_append.mp hp with hp | hp
    · exact h.tb p hp
    · rw [List.mem_singleton.mp hp]; exact ⟨hc, hce, he⟩
  · refine List.nodup_append.mpr ⟨h.tn, by simp, fun a ha b hb => ?_⟩
    rw [List.mem_singleton.mp hb]
    intro z
    exact hn (by rw [← z]; exact ha)
  · rw [deg_snoc]
    simp only
    by_cases e2 : e = x
    · subst e2; rw [if_pos rfl, if_neg (by omega)]; omega
    · rw [if_neg e2]
      by_cases e1 : c = x
      · subst e1; rw [if_pos rfl]; omega
      · rw [if_neg e1]; have := h.deg x; omega
  · obtain ⟨p, h3, h4⟩ := h.tie j h1 h2
    exact ⟨p, List.mem_append_left _ h3, h4⟩
/-! stiff ties, one by one -/
structure StfI (ts : List (Int × Int)) (hs : List Int) (done : List (Int × Int)) (ss : List (Int × Int)) : Prop where
  sl : ss.Sublist done
  se : ∀ p ∈ ss, ∀ e ∈ [p.1, p.2], e ∉ hs ∧ ((besL ts e).length = 2 ∨ (besL ts e).length = 3)
  su : (ss.map fun p => [p.1, p.2]).flatten.Nodup
theorem StfI.nil {ts : List (Int × Int)} {hs : List Int} : StfI ts hs [] [] := ⟨List.Sublist.refl _, fun _ h => absurd h List.not_mem_nil, List.nodup_nil⟩
theorem StfI.skip {ts : List (Int × Int)} {hs : List Int} {done ss : List (Int × Int)} {p : Int × Int} (h : StfI ts hs done ss) : StfI ts hs (done ++ [p]) ss := ⟨h.sl.trans (List.sublist_append_left _ _), h.se, h.su⟩
theorem StfI.take {ts : List (Int × Int)} {hs : List Int} {done ss : List (Int × Int)} {p : Int × Int} (h : StfI ts hs done ss) (hne : p.1 ≠ p.2) (hp : ∀ e ∈ [p.1, p.2], e ∉ hs ++ (ss.map fun p => [p.1, p.2]).flatten ∧ ((besL ts e).length = 2 ∨ (besL ts e).length = 3)) : StfI ts hs (done ++ [p]) (ss ++ [p]) := by
  refine ⟨h.sl.append (List.Sublist.refl _), fun q hq e he => ?_, ?_⟩
  · rcases List.mem_append.mp hq with hq | hq
    · exact h.se q hq e he
    · rw [List.mem_singleton.mp hq] at he
      obtain ⟨h1, h2⟩ := hp e he
      exact ⟨fun z => h1 (List.mem_append_left _ z), h2⟩
  · rw [List.map_append, List.flatten_append]
    refine List.nodup_append.mpr ⟨h.su, ?_, fun a ha b hb => ?_⟩
    · show ([p.1, p.2] ++ []).Nodup
      simp [hne]
    · have hb : b ∈ [p.1, p.2] := by simpa using hb
      intro z
      exact (hp b hb).1 (List.mem_append_right _ (by rw [← z]; exact ha))
/-- all together -/
theorem web_of {ks : List Str} {ts : List (Int × Int)} {hs : List Int} {ss : List (Int × Int)} (hk : 1 ≤ ks.length ∧ ks.length ≤ 16) (hkn : ∀ z ∈ ks, nam z.cps.toList = true ∧ z.length ≤ 1000) (hT : TieI ts ks.length) (hl : ts.length ≤ 31) (h1 : hs.Pairwise (· < ·)) (hb : ∀ h ∈ hs, 0 ≤ h ∧ h < (ks.length : Int)) (hd : ∀ h ∈ hs, 3 ≤ (besL ts h).length) (hS : StfI ts hs (sortP ts) ss) :
    WebT ks (sortP ts) hs ss := by
  have hp := sortP_perm ts
  have hdeg : ∀ x, (besL (sortP ts) x).length = (besL ts x).length := fun x => (bes_perm hp x).length_eq
  have hsn : (sortP ts).Nodup := hp.nodup_iff.mpr hT.tn
  refine ⟨hk, hkn, fun p hq => hT.tb p (hp.mem_iff.mp hq), sortP_sorted ts, hsn, by rw [hp.length_eq]; exact hl, fun c => by rw [hdeg]; exact hT.deg c, fun j a b => ?_, h1.imp fun h => by omega, h1.imp fun h z => by omega, hb, fun h hh => by rw [hdeg]; exact hd h hh, (sortP_sorted ts).sublist hS.sl, hsn.sublist hS.sl, fun p hq => hS.sl.subset hq, fun p hq e he => by rw [hdeg]; exact hS.se p hq e he, hS.su⟩
  obtain ⟨p, h3, h4⟩ := hT.tie j a b
  exact ⟨p, hp.mem_iff.mpr h3, h4⟩
end KW
namespace KW
open PySem PySem.Spec PyProof.Rows L2 KR KS KX Evl StX
/-! ### _law_web -/
section
variable {P : Program} {w : World} {K : PySem.W.Frag} {mg : Str → Option Value} {base : Heap}
abbrev sWeb : Stmt := topS 76
abbrev nWeb : List Str := ["_law_pen_here", "_law_least", "_law_most", "_law_many", "_law_piece", "_law_kinds", "_law_ties", "_law_star", "_law_one", "_law_room", "_law_turn", "_law_other", "_law_hubs", "_law_stiff", "_law_taken", "_law_tie", "_law_fits"]
theorem scWeb : FnScope nWeb ["_law_pen_here", "_law_least", "_law_most"] (defScope sWeb) := ⟨rfl, rfl, rfl, by decide +kernel, rfl, by decide +kernel, by decide +kernel⟩
def kdL : List Str := ["a", "a", "b", "c", "abcdefghij12"]
/-- a drawn web as it lies in lists -/
structure WL (H : Hp) (p b kA tA hA sA : Addr) (tys sys : List V) (ks : List Str) (ts : List (Int × Int)) (hs : List Int) (ss : List (Int × Int)) : Prop where
  hb : H b = some (.lst [.ref kA, .ref tA, .ref hA, .ref sA])
  hk : H kA = some (.lst (ks.map V.str))
  ht : H tA = some (.lst tys)
  hh : H hA = some (.lst (hs.map V.int))
  hz : H sA = some (.lst sys)
  pt : Paired (PrR H) tys ts
  ps : Paired (PrR H) sys ss
  ne : b ≠ p ∧ kA ≠ p ∧ tA ≠ p ∧ hA ≠ p ∧ sA ≠ p
  T : WebT ks ts hs ss
  kd : ∀ z ∈ ks, z ∈ kdL
def spWeb : Sp := fun vs H Q _ => ∃ (p l : Addr) (ns : List Int) (n : Int), vs = [.ref p, .int 1, .int 16] ∧ Pen H p l ns n ∧ n ≤ 60000 ∧
  ∀ b kA tA hA sA tys sys ks ts hs ss n' H2, ExP p H H2 → Pen H2 p l ns n' → n ≤ n' → n' ≤ n + 1000 → WL H2 p b kA tA hA sA tys sys ks ts hs ss → Q (.ref b) H2
abbrev teW1 (K : PySem.W.Frag) : TE := tCall (spPick K) [] E0 (tCons (tVar 0) (tCons (tLst (tCons (tC (.str "a")) (tCons (tC (.str "a")) (tCons (tC (.str "b")) (tCons (tC (.str "c")) (tCons (tC (.str "abcdefghij12")) tNil)))))) tNil))
abbrev degJ (K : PySem.W.Frag) (j : Nat) : TE := tCB (rLenS K) (tCons (tCall (spBes K) [] E0 (tCons (tVar 6) (tCons (tVar j) tNil))) tNil)
abbrev degT (K : PySem.W.Frag) : TE := degJ K 8
abbrev ttH (K : PySem.W.Frag) : TT := tAnd (tTest (tOp (rI0 fun i j => .bl (decide (j < i))) (degT K) (tC (.int 2)))) (tTest (tOp (rI0 fun i j => .bl (decide (j < i))) (tCall spDraw [] E0 (tCons (tVar 0) (tCons (tC (.int 4)) tNil))) (tC (.int 0))))
abbrev ttF (K : PySem.W.Frag) : TT := tAnd (tTest (tOp (rIn K true) (tVar 8) (tVar 14))) (tTest (tOp (rIn K false) (degT K) (tTup (tCons (tC (.int 2)) (tCons (tC (.int 3)) tNil)))))
def InvK (p l : Addr) (ns : List Int) (n : Int) (H1 : Hp) (D : Addr) (i : Nat) (H' : Hp) : Prop := ExP p H1 H' ∧ Pen H' p l ns (n + (i : Int)) ∧ ∃ ks : List Str, H' D = some (.lst (ks.map V.str)) ∧ ks.length = i ∧ ∀ z ∈ ks, z ∈ kdL
theorem kd_ok : ∀ z ∈ kdL, nam z.cps.toList = true ∧ z.length ≤ 1000 := by
  have h : (kdL.all fun z => nam z.cps.toList && decide (z.length ≤ 1000)) = true := by decide +kernel
  intro z hz
  have := List.all_eq_true.mp h z hz
  rw [Bool.and_eq_true, decide_eq_true_eq] at this
  exact this
theorem kind_turn {p l : Addr} {ns : List Int} {n : Int} {H1 : Hp} {D : Addr} {σ : L2.St} {i : Nat} {H' : Hp} (hn : n + (i : Int) ≤ 90000) (hi : i ≤ 1000) (hD : H1 D = none) (hp0 : Pen H1 p l ns n) (h0 : σ[0]? = some (some (.ref p))) (v : InvK p l ns n H1 D i H') :
    teW1 K σ H' fun y H4 => ∃ acc, H4 D = some (.lst acc) ∧ acc.length < sizeLine ∧ InvK p l ns n H1 D (i + 1) (upd H4 D (.lst (acc ++ [y]))) := by
  obtain ⟨eP, hp, ks, hDl, hkl, hkn⟩ := v
  obtain ⟨hDp, hDL⟩ := pen_ne hp0 hD
  refine c_op (a_op (v_op h0 (a_op (l_op (a_op (k_op (a_op (k_op (a_op (k_op (a_op (k_op (a_op (k_op (n_op ⟨by show 5 ≤ sizeLine; decide, fun S hS => ?_⟩)))))))))))))))
  have eb : Ex H' (upd H' S (.lst [.str "a", .str "a", .str "b", .str "c", .str "abcdefghij12"])) := Ex.new hS
  have hbS : (upd H' S (.lst [.str "a", .str "a", .str "b", .str "c", .str "abcdefghij12"])) S = some (.lst (kdL.map V.str)) := upd_same
  generalize upd H' S (.lst [.str "a", .str "a", .str "b", .str "c", .str "abcdefghij12"]) = Hb at eb hbS ⊢
  have hpb := hp.up eb
  refine n_op ⟨p, S, l, ns, n + (i : Int), kdL.map V.str, rfl, hpb, by omega, sq_of hbS, (pen_ne hp hS).1, by decide, by show 5 ≤ 1000; decide, fun x H5 hx5 e5 hp5 => ?_⟩
  obtain ⟨z, hz, rfl⟩ := List.mem_map.mp hx5
  have hD5 := e5 D _ hDp (eb _ _ hDl)
  refine ⟨ks.map V.str, hD5, ?_, exp_mut ((eP.trans (Ex.p eb)).trans e5) hD, ?_, ks ++ [z], ?_, ?_, ?_⟩
  · rw [List.length_map]
    exact sz_lt (by omega)
  · have := pen_upd (o := .lst (ks.map V.str ++ [V.str z])) hp5 hDp hDL
    have e : n + (i : Int) + 1 = n + ((i + 1 : Nat) : Int) := by omega
    rw [← e]
    exact this
  · rw [upd_same, List.map_append]
    rfl
  · rw [List.length_append, hkl]
    rfl
  · intro y hy
    rcases List.mem_append.mp hy with hy | hy
    · exact hkn y hy
    · rw [List.mem_singleton.mp hy]
      exact hz
theorem kinds_lc {p l : Addr} {ns : List Int} {n : Int} {H1 : Hp} {σ : L2.St} {m : Nat} {Q : VK} (h3 : σ[3]? = some (some (.int (m : Int)))) (hw : ∀ x, wipe ((wipe σ [4]).set 4 (some x)) [4] = wipe σ [4]) (h0 : ∀ x, ((wipe σ [4]).set 4 (some x))[0]? = some (some (.ref p))) (hp : Pen H1 p l ns n) (hm : m ≤ 1000) (hn : n ≤ 80000)
    (q : ∀ (D : Addr) (H2 : Hp) (ks : List Str), H1 D = none → ExP p H1 H2 → Pen H2 p l ns (n + (m : Int)) → H2 D = some (.lst (ks.map V.str)) → ks.length = m → (∀ z ∈ ks, z ∈ kdL) → Q (.ref D) H2) : tLc (iRng1 (tCons (tVar 3) tNil)) (gName 4) tYes (teW1 K) [4] σ H1 Q :=
  ⟨.int (m : Int), h3, (m : Int), rfl, by omega, by omega, fun D hD => by
    refine lc_it (n := m) walk_range (InvK p l ns n H1 D) ⟨exp_mut (ExP.refl _ _) hD, ?_, [], upd_same, rfl, fun _ hz => by cases hz⟩ (fun _ _ _ _ => trivial) ?_ ?_
    · obtain ⟨x1, x2⟩ := pen_ne hp hD
      have := pen_upd (o := .lst []) hp x1 x2
      simpa using this
    · rintro i x H' H'' hi v ⟨rfl, rfl⟩
      exact ⟨hw _, yes_if (kind_turn (by omega) (by omega) hD hp (h0 _) v)⟩
    · rintro H2 ⟨e2, hp2, ks, hDk, hkl, hkn⟩
      exact q D H2 ks hD e2 hp2 hDk hkl hkn⟩
structure WS (p l : Addr) (ns : List Int) (H : Hp) (D T : Addr) (ks : List Str) (c : Int) (ts : List (Int × Int)) (H' : Hp) : Prop where
  e : ExP p H H'
  pn : Pen H' p l ns c
  d : H' D = some (.lst (ks.map V.str))
  t : ∃ tys, H' T = some (.lst tys) ∧ Paired (PrR H') tys ts
theorem WS.up {p l : Addr} {ns : List Int} {H : Hp} {D T : Addr} {ks : List Str} {c : Int} {ts : List (Int × Int)} {H' H2 : Hp} (h : WS p l ns H D T ks c ts H') (e : Ex H' H2) : WS p l ns H D T ks c ts H2 := by
  obtain ⟨tys, h1, h2⟩ := h.t
  exact ⟨h.e.trans (Ex.p e), h.pn.up e, e _ _ h.d, tys, e _ _ h1, prs_up e h2⟩
theorem WS.pen {p l : Addr} {ns : List Int} {H : Hp} {D T : Addr} {ks : List Str} {c c2 : Int} {ts : List (Int × Int)} {H' H2 : Hp} (h : WS p l ns H D T ks c ts H') (e : ExP p H' H2) (hp : Pen H2 p l ns c2) (hD : D ≠ p) (hT : T ≠ p) : WS p l ns H D T ks c2 ts H2 := by
  obtain ⟨tys, h1, h2⟩ := h.t
  exact ⟨h.e.trans e, hp, e _ _ hD h.d, tys, e _ _ hT h1, prs_upT (ExT.pen h.pn e) h2⟩
theorem WS.add {p l : Addr} {ns : List Int} {H : Hp} {D T : Addr} {ks : List Str} {c : Int} {ts : List (Int × Int)} {H' : Hp} (h : WS p l ns H D T ks c ts H') (hTD : T ≠ D) (hT : T ≠ p) (hTl : T ≠ l) (hTH : H T = none) {q : Addr} {x : Int × Int} (hq : H' q = some (.tup [.int x.1, .int x.2])) (tys : List V) (ht : H' T = some (.lst tys)) (hP : Paired (PrR H') tys ts) : WS p l ns H D T ks c (ts ++ [x]) (upd H' T (.lst (tys ++ [.ref q]))) := by
  have et : ExT H' (upd H' T (.lst (tys ++ [.ref q]))) := ExT.lst ht
  exact ⟨exp_mut h.e hTH, pen_upd h.pn hT hTl, by rw [upd_ne (Ne.symm hTD)]; exact h.d, _, upd_same, paired_snoc (prs_upT et hP) ⟨q, rfl, et _ _ hq⟩⟩
def roomL (ts : List (Int × Int)) (k : Nat) : List Int := ((List.range k).filter fun i : Nat => decide ((besL ts (i : Int)).length < 4)).map fun i : Nat => (i : Int)
theorem room_mem {ts : List (Int × Int)} {k : Nat} {c : Int} : c ∈ roomL ts k ↔ (0 ≤ c ∧ c < (k : Int)) ∧ (besL ts c).length < 4 := by
  unfold roomL
  rw [List.mem_map]
  refine ⟨fun ⟨i, h1, h2⟩ => ?_, fun ⟨h1, h2⟩ => ⟨c.toNat, ?_, by omega⟩⟩
  · obtain ⟨h3, h4⟩ := List.mem_filter.mp h1
    have h3 := List.mem_range.mp h3
    have h4 := of_decide_eq_true h4
    rw [← h2]
    exact ⟨by omega, h4⟩
  · refine List.mem_filter.mpr ⟨List.mem_range.mpr (by omega), decide_eq_true ?_⟩
    rw [show ((c.toNat : Nat) : Int) = c from by omega]
    exact h2
/-- how many are beside -/
theorem deg_ev {σ : L2.St} {j : Nat} {H : Hp} {T : Addr} {tys : List V} {ts : List (Int × Int)} {c : Int} {Q : VK} (h6 : σ[6]? = some (some (.ref T))) (h8 : σ[j]? = some (some (.int c))) (ht : H T = some (.lst tys)) (hP : Paired (PrR H) tys ts) (hl : ts.length ≤ 31) (q : ∀ H2, Ex H H2 → Q (.int ((besL ts c).length : Int)) H2) : degJ K j σ H Q :=
  cb_op (a_op (c_op (a_op (v_op h6 (a_op (v_op h8 (n_op ⟨T, tys, ts, c, rfl, .inl (sq_of ht), hP, hl, fun b H2 _ e2 h2 => n_op ⟨b, _, rfl, .inl (sq_of h2), by
    rw [List.length_map, bes_len]
    exact q H2 e2⟩⟩)))))))
theorem room_lc {σ : L2.St} {H : Hp} {T : Addr} {tys : List V} {ts : List (Int × Int)} {k : Nat} (h4 : σ[4]? = some (some (.int (k : Int)))) (hw : ∀ x, wipe ((wipe σ [8]).set 8 (some x)) [8] = wipe σ [8]) (h6 : ∀ x, ((wipe σ [8]).set 8 (some x))[6]? = some (some (.ref T))) (h8 : ∀ x, ((wipe σ [8]).set 8 (some x))[8]? = some (some x))
    (ht : H T = some (.lst tys)) (hP : Paired (PrR H) tys ts) (hl : ts.length ≤ 31) (hk : k ≤ 1000) : EvL (tLc (iRng1 (tCons (tVar 4) tNil)) (gName 8) (tTest (tOp (rI0 fun i j => V.bl (decide (i < j))) (degT K) (tC (.int 4)))) (tVar 8) [8]) σ H ((roomL ts k).map V.int) := by
  have := el_lcR1 (σ := σ) (H := H) (ta := tCons (tVar 4) tNil) (te := tVar 8) (t := tTest (tOp (rI0 fun i j => V.bl (decide (i < j))) (degT K) (tC (.int 4)))) (j := 8) (vs := [8]) (n := (k : Int)) (fun i => decide ((besL ts (i : Int)).length < 4)) (fun i => .int (i : Int)) (ea_cons (ev_var h4) ea_nil) (by omega) hw
    (fun i H1 e1 hi H2 e2 Q2 q2 => op_test (op_op (deg_ev (h6 _) (h8 _) ((e1.trans e2) _ _ ht) (prs_up (e1.trans e2) hP) hl fun H3 e3 => k_op ⟨_, _, rfl, rfl, _, rfl, by
      have e : decide (((besL ts (i : Int)).length : Int) < 4) = decide ((besL ts (i : Int)).length < 4) := by
        by_cases h : (besL ts (i : Int)).length < 4
        · rw [decide_eq_true h, decide_eq_true (by omega)]
        · rw [decide_eq_false h, decide_eq_false (by omega)]
      rw [e]
      exact q2 H3 e3⟩))) (fun i H1 e1 hi _ H2 e2 Q2 q2 => v_op (h8 _) (q2 H2 (Ex.refl H2)))
  have hg : given ((k : Int).toNat) (fun i => decide ((besL ts (i : Int)).length < 4)) (fun i => V.int (i : Int)) = (roomL ts k).map V.int := by
    unfold given roomL
    rw [List.map_map, Int.toNat_natCast]
    rfl
  rw [hg] at this
  exact this
theorem cut_mem {xs : List V} {lo hi : Option Int} {x : V} (h : x ∈ cutV xs lo hi) : x ∈ xs := by
  unfold cutV at h
  exact List.mem_of_mem_drop (List.mem_of_mem_take h)
theorem room_pick {σ : L2.St} {H6 : Hp} {R : Addr} {ts : List (Int × Int)} {i : Nat} {sv : Int} {Q : VK} (h4 : σ[4]? = some (some (.int ((1 + i : Nat) : Int)))) (h7 : σ[7]? = some (some (.int sv))) (h9 : σ[9]? = some (some (.ref R))) (hR : H6 R = some (.lst ((roomL ts (1 + i)).map V.int))) (hi : i ≤ 100) (tI : TieI ts (1 + i)) (td : (besL ts (i : Int)).length ≤ 1) (tl : ts.length = i)
    (q : ∀ (S : Addr) (xs : List V) (H7 : Hp), H6 S = none → Ex H6 H7 → H7 S = some (.lst xs) → xs ≠ [] → xs.length ≤ 1000 → (∀ x ∈ xs, ∃ c : Int, x = .int c ∧ (0 ≤ c ∧ c < ((1 + i : Nat) : Int)) ∧ (besL ts c).length < 4) → Q (.ref S) H7) :
    tIf (tOr (tTest (tOp rEq (tVar 7) (tC (.int 0)))) (tTest (tOp (rI0 fun i j => V.bl (decide (j < i))) (tVar 4) (tC (.int 3))))) (tOp rCat (tSl (rSlL K) (tVar 9) (tPart (tUn (rU fun i => V.int (-i)) (tC (.int 3)))) tNoPart) (tVar 9)) (tLst (tCons (tC (.int 0)) tNil)) σ H6 Q := by
  have hmem : ((i : Nat) : Int) ∈ roomL ts (1 + i) := room_mem.mpr ⟨⟨by omega, by omega⟩, by omega⟩
  have hrl : (roomL ts (1 + i)).length ≤ 1 + i := by
    unfold roomL
    rw [List.length_map]
    exact Nat.le_trans (List.length_filter_le _ _) (by rw [List.length_range]; exact Nat.le_refl _)
  have big : tOp rCat (tSl (rSlL K) (tVar 9) (tPart (tUn (rU fun i => V.int (-i)) (tC (.int 3)))) tNoPart) (tVar 9) σ H6 Q := by
    refine op_op ⟨.ref R, h9, 3, rfl, -3, rfl, R, _, rfl, sq_of hR, fun D hD => v_op h9 ⟨D, R, _, _, rfl, rfl, upd_same, (Ex.new hD) _ _ hR, ?_, fun S hS => ?_⟩⟩
    · have := cutV_length ((roomL ts (1 + i)).map V.int) (some (-3)) none
      rw [List.length_map] at this ⊢
      exact Nat.le_of_lt (sz_lt (by omega))
    · refine q S _ _ (fresh_back (Ex.new hD) hS) ((Ex.new hD).trans (Ex.new hS)) upd_same ?_ ?_ fun x hx => ?_
      · intro z
        have := List.append_eq_nil_iff.mp z
        rw [List.map_eq_nil_iff] at this
        rw [this.2] at hmem
        cases hmem
      · have := cutV_length ((roomL ts (1 + i)).map V.int) (some (-3)) none
        rw [List.length_append]
        rw [List.length_map] at this ⊢
        omega
      · have hx : x ∈ (roomL ts (1 + i)).map V.int := (List.mem_append.mp hx).elim cut_mem id
        obtain ⟨c, hc, rfl⟩ := List.mem_map.mp hx
        exact ⟨c, rfl, room_mem.mp hc⟩
  refine or_op (op_test (op_op (v_op h7 (k_op ⟨rfl, _, rfl, ?_⟩))))
  split
  · exact iteT big
  · refine op_test (op_op (v_op h4 (k_op ⟨_, _, rfl, rfl, _, rfl, ?_⟩)))
    by_cases hk : (3 : Int) < ((1 + i : Nat) : Int)
    · rw [decide_eq_true hk]
      exact iteT big
    · rw [decide_eq_false hk]
      refine iteF (l_op (a_op (k_op (n_op ⟨by show 1 ≤ sizeLine; decide, fun S hS => q S _ _ hS (Ex.new hS) upd_same (List.cons_ne_nil _ _) (by show 1 ≤ 1000; decide) fun x hx => ?_⟩))))
      rw [List.mem_singleton.mp hx]
      refine ⟨0, rfl, ⟨by omega, by omega⟩, ?_⟩
      have := deg_le (fun p hp => (tI.tb p hp).2.1) 0
      omega
theorem an_t {t u : TT} {σ : L2.St} {H : Hp} {Q : Bool → Hp → Prop} (h : t σ H fun c H1 => if c = true then u σ H1 Q else Q false H1) : tAnd t u σ H Q := h
/-- what a walk over J asks -/
def FJ (J : It) (g : TG) (tb : TS) (D : Ends) (σ : L2.St) (H1 : Hp) : Prop := ∃ W : Nat → Nat → L2.St → Hp → Prop, (∃ m, W 0 m σ H1) ∧ ∀ i m σ H, W i m σ H →
  (J.stop i H ∧ D.nx σ H) ∨ (J.go i H ∧ ∃ N : L2.St → Hp → Prop, (∀ σ' H', N σ' H' → ∃ m', m' < m ∧ W (i + 1) m' σ' H') ∧ ∀ x H', J.yld i H x H' → g x σ H' fun σ2 H2 => tb { D with nx := N, ct := N, bk := D.nx } σ2 H2)
theorem for1 {ta : TA} {g : TG} {tu : TS} {D : Ends} {σ : L2.St} {H : Hp} (h : ta σ H fun vs H1 => ∃ j : Int, vs = [.int j] ∧ -(2 ^ 62) ≤ j ∧ j < 2 ^ 62 ∧ FJ (Itr 0 j.toNat) g tu D σ H1) : tFor (iRng1 ta) g tu D σ H := h
theorem two_sorted {a b : Int} {ns : List Int} (hp : ns.Perm [a, b]) (hs : ns.Pairwise (· ≤ ·)) : ∃ x y, ns = [x, y] ∧ x ≤ y ∧ x ∈ [a, b] ∧ y ∈ [a, b] := by
  have hl := hp.length_eq
  match ns, hl with
  | [x, y], _ =>
    refine ⟨x, y, rfl, ?_, hp.mem_iff.mp (by simp), hp.mem_iff.mp (by simp)⟩
    have := List.pairwise_cons.mp hs
    exact this.1 y (by simp)
def InvH (p l : Addr) (ns : List Int) (n : Int) (H1 : Hp) (ts : List (Int × Int)) (D : Addr) (i : Nat) (H' : Hp) : Prop := ExP p H1 H' ∧ (∃ c, n ≤ c ∧ c ≤ n + (i : Int) ∧ Pen H' p l ns c) ∧ ∃ hs : List Int, H' D = some (.lst (hs.map V.int)) ∧ hs.length ≤ i ∧ hs.Pairwise (· < ·) ∧ ∀ h ∈ hs, (0 ≤ h ∧ h < (i : Int)) ∧ 3 ≤ (besL ts h).length
theorem InvH.skip {p l : Addr} {ns : List Int} {n : Int} {H1 : Hp} {ts : List (Int × Int)} {D : Addr} {i : Nat} {H' H2 : Hp} (v : InvH p l ns n H1 ts D i H') (hDp : D ≠ p) (e : ExP p H' H2) (hp : ∃ c, n ≤ c ∧ c ≤ n + ((i + 1 : Nat) : Int) ∧ Pen H2 p l ns c) : InvH p l ns n H1 ts D (i + 1) H2 := by
  obtain ⟨e1, _, hs, h1, h2, h3, h4⟩ := v
  exact ⟨e1.trans e, hp, hs, e D _ hDp h1, by omega, h3, fun h hh => ⟨⟨(h4 h hh).1.1, by have := (h4 h hh).1.2; omega⟩, (h4 h hh).2⟩⟩
theorem hubs_lc {p l : Addr} {ns : List Int} {n : Int} {H1 : Hp} {σ : L2.St} {m : Nat} {T : Addr} {tys : List V} {ts : List (Int × Int)} {Q : VK} (h3 : σ[3]? = some (some (.int (m : Int)))) (hw : ∀ x, wipe ((wipe σ [8]).set 8 (some x)) [8] = wipe σ [8]) (h0 : ∀ x, ((wipe σ [8]).set 8 (some x))[0]? = some (some (.ref p))) (h6 : ∀ x, ((wipe σ [8]).set 8 (some x))[6]? = some (some (.ref T))) (h8 : ∀ x, ((wipe σ [8]).set 8 (some x))[8]? = some (some x))
    (hp : Pen H1 p l ns n) (hm : m ≤ 100) (hn : n ≤ 80000) (hTp : T ≠ p) (ht : H1 T = some (.lst tys)) (hP : Paired (PrR H1) tys ts) (hl : ts.length ≤ 31)
    (q : ∀ (D : Addr) (H2 : Hp) (hs : List Int), H1 D = none → InvH p l ns n H1 ts D m H2 → Q (.ref D) H2) : tLc (iRng1 (tCons (tVar 3) tNil)) (gName 8) (ttH K) (tVar 8) [8] σ H1 Q :=
  ⟨.int (m : Int), h3, (m : Int), rfl, by omega, by omega, fun D hD => by
    obtain ⟨hDp, hDl⟩ := pen_ne hp hD
    refine lc_it (n := m) walk_range (InvH p l ns n H1 ts D) ⟨exp_mut (ExP.refl _ _) hD, ⟨n, by omega, by omega, pen_upd hp hDp hDl⟩, [], upd_same, Nat.zero_le _, List.Pairwise.nil, fun _ h => absurd h List.not_mem_nil⟩ (fun _ _ _ _ => trivial) ?_ (fun H2 v => q D H2 [] hD v)
    rintro i x H' H'' hi v ⟨rfl, rfl⟩
    refine ⟨hw _, ?_⟩
    have vv := v
    obtain ⟨eP, ⟨c, c0, c1, hpc⟩, hs, hDs, hsl, hsp, hsm⟩ := v
    have hx0 : (fun i : Nat => V.int (0 + (i : Int))) i = V.int (i : Int) := by show V.int _ = _; rw [Int.zero_add]
    rw [hx0]
    refine an_t (op_test (op_op (deg_ev (j := 8) (h6 _) (h8 _) (eP T _ hTp ht) (prs_upT (ExT.pen hp eP) hP) hl fun H5 e5 => k_op ⟨_, _, rfl, rfl, _, rfl, ?_⟩)))
    have hp5 := hpc.up e5
    by_cases hd : (2 : Int) < ((besL ts (i : Int)).length : Int)
    · rw [decide_eq_true hd]
      refine iteT (op_test (op_op (c_op (a_op (v_op (h0 _) (a_op (k_op (n_op ⟨p, l, ns, c, 4, rfl, hp5, by omega, by decide, by decide, fun r H6 r0 r1 e6 hp6 => k_op ⟨_, _, rfl, rfl, _, rfl, ?_⟩⟩))))))))
      have e56 : ExP p H'' H6 := (Ex.p e5).trans e6
      have hD6 := e56 D _ hDp hDs
      by_cases hr : (0 : Int) < r
      · rw [decide_eq_true hr]
        refine iteT (v_op (h8 _) ⟨hs.map V.int, hD6, ?_, exp_mut (eP.trans e56) hD, ⟨c + 1, by omega, by omega, pen_upd hp6 hDp hDl⟩, hs ++ [(i : Int)], ?_, ?_, ?_, ?_⟩)
        · rw [List.length_map]
          exact sz_lt (by omega)
        · rw [upd_same, List.map_append]
          rfl
        · rw [List.length_append]
          show hs.length + 1 ≤ i + 1
          omega
        · refine List.pairwise_append.mpr ⟨hsp, by simp, fun a ha b hb => ?_⟩
          rw [List.mem_singleton.mp hb]
          exact (hsm a ha).1.2
        · intro h hh
          rcases List.mem_append.mp hh with hh | hh
          · have := hsm h hh
            exact ⟨⟨this.1.1, by omega⟩, this.2⟩
          · rw [List.mem_singleton.mp hh]
            exact ⟨⟨by omega, by omega⟩, by omega⟩
      · rw [decide_eq_false hr]
        exact iteF (vv.skip hDp e56 ⟨c + 1, by omega, by omega, hp6⟩)
    · rw [decide_eq_false hd]
      exact iteF (iteF (vv.skip hDp (Ex.p e5) ⟨c, by omega, by omega, hp5⟩))⟩
theorem forS {te : TE} {g : TG} {tu : TS} {D : Ends} {σ : L2.St} {H : Hp} (h : te σ H fun x H1 => ∃ a, x = .ref a ∧ ((∃ xs, SqL K H1 a xs ∧ FJ (Itl K a) g tu D σ H1) ∨ ∃ xs, SqT K H1 a xs ∧ FJ (Itt K a) g tu D σ H1)) : tFor (iSeq K te) g tu D σ H := h
def fitB (ts : List (Int × Int)) (tk : List Int) (e : Int) : Bool := !(decide (e ∈ tk)) && (decide ((besL ts e).length = 2) || decide ((besL ts e).length = 3))
theorem fits_lc {σ : L2.St} {H : Hp} {b T U : Addr} {x y : Int} {tys : List V} {ts : List (Int × Int)} {tk : List Int} (h15 : σ[15]? = some (some (.ref b))) (hw : ∀ x, wipe ((wipe σ [8]).set 8 (some x)) [8] = wipe σ [8]) (h6 : ∀ x, ((wipe σ [8]).set 8 (some x))[6]? = some (some (.ref T))) (h8 : ∀ x, ((wipe σ [8]).set 8 (some x))[8]? = some (some x)) (h14 : ∀ x, ((wipe σ [8]).set 8 (some x))[14]? = some (some (.ref U)))
    (hb : H b = some (.tup [.int x, .int y])) (ht : H T = some (.lst tys)) (hP : Paired (PrR H) tys ts) (hl : ts.length ≤ 31) (hU : H U = some (.lst (tk.map V.int))) : EvL (tLc (iSeq K (tVar 15)) (gName 8) (ttF K) (tVar 8) [8]) σ H (([x, y].filter (fitB ts tk)).map V.int) := by
  have comp := el_lcSq (K := K) (σ := σ) (H := H) (a := b) (xs := [x, y].map V.int) (tl := tVar 15) (te := tVar 8) (t := ttF K) (j := 8) (vs := [8]) (fun i => fitB ts tk ([x, y].getD i 0)) (fun i => V.int ([x, y].getD i 0)) (ev_var h15) (.inr (st_of hb)) (by show 2 ≤ 40000; decide) hw
    (fun i v H1 e1 hv H2 e2 Q2 q2 => by
      obtain ⟨e, he, rfl⟩ := int_at hv
      rw [getD_at he] at q2
      unfold fitB at q2
      have e12 := e1.trans e2
      refine an_t (op_test (op_op (v_op (h8 _) (v_op (h14 _) ⟨U, _, rfl, .inl (sq_of (e12 _ _ hU)), rfl, ?_, _, rfl, ?_⟩))))
      · rw [List.all_eq_true]
        intro z hz
        obtain ⟨n, _, rfl⟩ := List.mem_map.mp hz
        rfl
      show if (if true = true then !inV (.int e) (tk.map V.int) else inV (.int e) (tk.map V.int)) = true then _ else _
      rw [if_pos rfl, inV_ints]
      by_cases hin : e ∈ tk
      · rw [decide_eq_true hin] at q2 ⊢
        exact iteF (q2 H2 (Ex.refl H2))
      rw [decide_eq_false hin] at q2 ⊢
      refine iteT (op_test (op_op (deg_ev (j := 8) (h6 _) (h8 _) (e12 _ _ ht) (prs_up e12 hP) hl fun H3 e3 => t_op (a_op (k_op (a_op (k_op (n_op ⟨by show 2 ≤ sizeLine; decide, fun tp htp => ?_⟩))))))))
      refine ⟨tp, _, rfl, .inr (st_of upd_same), rfl, rfl, _, rfl, ?_⟩
      show Q2 (if false = true then !inV (.int ((besL ts e).length : Int)) [V.int 2, V.int 3] else inV (.int ((besL ts e).length : Int)) [V.int 2, V.int 3]) _
      rw [if_neg Bool.false_ne_true, len_in (K := K) (H := H)]
      exact q2 _ (e3.trans (Ex.new htp))) (fun i v H1 e1 hv _ H2 e2 Q2 q2 => by
      obtain ⟨e, he, rfl⟩ := int_at hv
      rw [getD_at he] at q2
      exact v_op (h8 _) (q2 H2 (Ex.refl H2)))
  have hg : given ([x, y].map V.int).length (fun i => fitB ts tk ([x, y].getD i 0)) (fun i => V.int ([x, y].getD i 0)) = ([x, y].filter (fitB ts tk)).map V.int := given_of 0 [x, y] rfl (fitB ts tk) V.int
  rw [hg] at comp
  exact comp
theorem fits_two {f : Int → Bool} {x y : Int} (h : ([x, y].filter f).length = 2) : f x = true ∧ f y = true ∧ [x, y].filter f = [x, y] := by
  cases hx : f x <;> cases hy : f y <;> simp [List.filter, hx, hy] at h ⊢
theorem ends_len : ∀ ss : List (Int × Int), ((ss.map fun p => [p.1, p.2]).flatten).length = 2 * ss.length
  | [] => rfl
  | a :: ss => by
    rw [List.map_cons, List.flatten_cons, List.length_append, ends_len ss]
    show 2 + 2 * ss.length = 2 * (ss.length + 1)
    omega
theorem ok_web {f : Addr} {fd : FuncData} {k : Nat} (F : FnP K "_law_web" sWeb f fd) (B : Bu mg) (P_ : FnA K mg "_law_pick" sPick ["_law_pen_here", "_law_some"]) (D_ : FnA K mg "_law_draw" sDraw ["_law_pen_here", "_law_many"]) (B_ : FnA K mg "_law_beside" sBes ["_law_ties", "_law_piece"]) : FnOk P w K mg base CX0 (k + 3) f fd ["_law_pen_here", "_law_least", "_law_most"] spWeb := by
  have GP : FnOk P w K mg base CX0 (k + 2) P_.f P_.fd ["_law_pen_here", "_law_some"] (spPick K) := ok_pick P_.F B D_
  have GD : FnOk P w K mg base CX0 (k + 2) D_.f D_.fd ["_law_pen_here", "_law_many"] spDraw := ok_draw D_.F B
  have GB : FnOk P w K mg base CX0 (k + 2) B_.f B_.fd ["_law_ties", "_law_piece"] (spBes K) := ok_bes B_.F B
  refine ok0 F scWeb (fun vs H Q E h => ?_) (fun cdv A outer s H vs Q E hr h => ?_)
  · obtain ⟨p, l, ns, n, rfl, _⟩ := h
    rfl
  · obtain ⟨p, l, ns, n, rfl, hp, hn, q⟩ := h
    have hu := room65 hr
    refine ⟨_, (pss_cons (ps_set (i := 3) scWeb.nd rfl (Or.inl rfl) (pe_op op_add (pv 1) (pe_call GD hr (by rfl) D_.g D_.F.kp D_.b .nil pass0 (pa_cons (pv 0) (pa_cons (pe_op op_add (pe_op op_sub (pv 2) (pv 1)) pe_int) pa_nil)))))
      (pss_cons (ps_asg (pe_tup (pa_cons (pe_lc (own := [("_law_piece", 4)]) (g := gName 4) (te := teW1 K) rfl scWeb.nd (pi_range1 rfl B.range (pa_cons (pv 3) pa_nil)) (blkOk_by (N := nWeb) (sc := (defScope sWeb)) (by decide +kernel)) (fun _ _ _ _ _ => (pg_name (i := 4) scWeb.nd rfl (Or.inl rfl))) (fun _ _ _ _ _ => pts_nil) (fun _ _ _ _ _ => (pe_call GP hr (by rfl) P_.g P_.F.kp P_.b .nil pass0 (pa_cons (pv 0) (pa_cons (pe_lst (pa_cons pe_str (pa_cons pe_str (pa_cons pe_str (pa_cons pe_str (pa_cons pe_str pa_nil)))))) pa_nil))))) (pa_cons (pe_lst pa_nil) (pa_cons (pe_call GD hr (by rfl) D_.g D_.F.kp D_.b .nil pass0 (pa_cons (pv 0) (pa_cons pe_int pa_nil))) pa_nil)))) (pg_tup rfl (pgs_cons (pg_name (i := 5) scWeb.nd rfl (Or.inl rfl)) (pgs_cons (pg_name (i := 6) scWeb.nd rfl (Or.inr rfl)) (pgs_cons (pg_name (i := 7) scWeb.nd rfl (Or.inl rfl)) pgs_nil)))))
      (pss_cons (ps_for PassesOwn.never rfl (pi_range2 rfl B.range (pa_cons pe_int (pa_cons (pv 3) pa_nil))) (pg_name (i := 4) scWeb.nd rfl (Or.inl rfl)) (pss_cons (ps_setLc (i := 9) (own := [("_law_one", 8)]) (g := gName 8) (te := tVar 8) (tt := tTest (tOp (rI0 fun i j => .bl (decide (i < j))) (degT K) (tC (.int 4)))) rfl scWeb.nd rfl rfl rfl (pi_range1 rfl B.range (pa_cons (pv 4) pa_nil)) (blkOk_by (N := nWeb) (sc := (defScope sWeb)) (by decide +kernel)) (fun _ _ _ _ _ => (pg_name (i := 8) scWeb.nd rfl (Or.inl rfl))) (fun _ _ _ _ _ => pts_one (pt_cmpR op_lt (pe_callB call_len_seq rfl B.len PySem.boot_len (pa_cons (pe_call GB hr (by rfl) B_.g B_.F.kp B_.b .nil pass0 (pa_cons (pv 6) (pa_cons (pv 8) pa_nil))) pa_nil)) pe_int (nomark _))) (fun _ _ _ _ _ => (pv 8)))
      (pss_one (ps_expr (pe_bm PySem.F.plainAttrs_list PySem.F.slot_list_append PySem.F.type_list_append mt_append (pv 6) (pa_cons (pe_tup (pa_cons (pe_call GP hr (by rfl) P_.g P_.F.kp P_.b .nil pass0 (pa_cons (pv 0) (pa_cons (pe_ifExp (PW.pt (pw_or (pt_cmpR op_eq (pv 7) pe_int (nomark _)) (pw_or1 (pt_cmpR op_gt (pv 4) pe_int (nomark _))))) (pe_op op_cat (pe_slice sl_list (pv 9) (po_some (pe_un un_neg pe_int)) po_none) (pv 9)) (pe_lst (pa_cons pe_int pa_nil))) pa_nil))) (pa_cons (pv 4) pa_nil))) pa_nil))))))
      (pss_cons (ps_for PassesOwn.never rfl (pi_range1 rfl B.range (pa_cons (pe_call GP hr (by rfl) P_.g P_.F.kp P_.b .nil pass0 (pa_cons (pv 0) (pa_cons (pe_lst (pa_cons pe_int (pa_cons pe_int (pa_cons pe_int (pa_cons pe_int pa_nil))))) pa_nil))) pa_nil)) (pg_name (i := 10) scWeb.nd rfl (Or.inl rfl)) (pss_cons (ps_asg (pe_callB cr_sortSq rfl B.sorted boot_sorted (pa_cons (pe_lst (pa_cons (pe_call GD hr (by rfl) D_.g D_.F.kp D_.b .nil pass0 (pa_cons (pv 0) (pa_cons (pv 3) pa_nil))) (pa_cons (pe_call GD hr (by rfl) D_.g D_.F.kp D_.b .nil pass0 (pa_cons (pv 0) (pa_cons (pv 3) pa_nil))) pa_nil))) pa_nil)) (pg_unl rfl (pgs_cons (pg_name (i := 8) scWeb.nd rfl (Or.inl rfl)) (pgs_cons (pg_name (i := 11) scWeb.nd rfl (Or.inl rfl)) pgs_nil))))
      (pss_one (ps_if (PW.pt (pw_and (pt_cmpR op_ne (pv 8) (pv 11) (nomark _)) (pw_and (pt_cmpR (op_notInG hu) (pe_tup (pa_cons (pv 8) (pa_cons (pv 11) pa_nil))) (pv 6) (by rfl)) (pw_and (pt_cmpR op_lt (pe_callB call_len_seq rfl B.len PySem.boot_len (pa_cons (pe_call GB hr (by rfl) B_.g B_.F.kp B_.b .nil pass0 (pa_cons (pv 6) (pa_cons (pv 8) pa_nil))) pa_nil)) pe_int (nomark _)) (pw_and1 (pt_cmpR op_lt (pe_callB call_len_seq rfl B.len PySem.boot_len (pa_cons (pe_call GB hr (by rfl) B_.g B_.F.kp B_.b .nil pass0 (pa_cons (pv 6) (pa_cons (pv 11) pa_nil))) pa_nil)) pe_int (nomark _))))))) (pss_one (ps_expr (pe_bm PySem.F.plainAttrs_list PySem.F.slot_list_append PySem.F.type_list_append mt_append (pv 6) (pa_cons (pe_tup (pa_cons (pv 8) (pa_cons (pv 11) pa_nil))) pa_nil)))) pss_nil))))
      (pss_cons (ps_setLc (i := 12) (own := [("_law_one", 8)]) (g := gName 8) (te := tVar 8) (tt := ttH K) rfl scWeb.nd rfl rfl rfl (pi_range1 rfl B.range (pa_cons (pv 3) pa_nil)) (blkOk_by (N := nWeb) (sc := (defScope sWeb)) (by decide +kernel)) (fun _ _ _ _ _ => (pg_name (i := 8) scWeb.nd rfl (Or.inl rfl))) (fun _ _ _ _ _ => pts_one (PW.pt (pw_and (pt_cmpR op_gt (pe_callB call_len_seq rfl B.len PySem.boot_len (pa_cons (pe_call GB hr (by rfl) B_.g B_.F.kp B_.b .nil pass0 (pa_cons (pv 6) (pa_cons (pv 8) pa_nil))) pa_nil)) pe_int (nomark _)) (pw_and1 (pt_cmpR op_gt (pe_call GD hr (by rfl) D_.g D_.F.kp D_.b .nil pass0 (pa_cons (pv 0) (pa_cons pe_int pa_nil))) pe_int (nomark _)))))) (fun _ _ _ _ _ => (pv 8)))
      (pss_cons (ps_asg (pe_tup (pa_cons (pe_lst pa_nil) (pa_cons (pe_callTy call_list_of rfl B.list boot_list (pa_cons (pv 12) pa_nil)) pa_nil))) (pg_tup rfl (pgs_cons (pg_name (i := 13) scWeb.nd rfl (Or.inl rfl)) (pgs_cons (pg_name (i := 14) scWeb.nd rfl (Or.inr rfl)) pgs_nil))))
      (pss_cons (ps_for PassesOwn.never rfl (pi_seq (pe_callB cr_sortedPO rfl B.sorted boot_sorted (pa_cons (pv 6) pa_nil))) (pg_name (i := 15) scWeb.nd rfl (Or.inl rfl)) (pss_cons (ps_setLc (i := 16) (own := [("_law_one", 8)]) (g := gName 8) (te := tVar 8) (tt := ttF K) rfl scWeb.nd rfl rfl rfl (pi_seq (pv 15)) (blkOk_by (N := nWeb) (sc := (defScope sWeb)) (by decide +kernel)) (fun _ _ _ _ _ => (pg_name (i := 8) scWeb.nd rfl (Or.inl rfl))) (fun _ _ _ _ _ => pts_one (PW.pt (pw_and (pt_cmpR op_notIn_seq (pv 8) (pv 14) (by rfl)) (pw_and1 (pt_cmpR op_in_seq (pe_callB call_len_seq rfl B.len PySem.boot_len (pa_cons (pe_call GB hr (by rfl) B_.g B_.F.kp B_.b .nil pass0 (pa_cons (pv 6) (pa_cons (pv 8) pa_nil))) pa_nil)) (pe_tup (pa_cons pe_int (pa_cons pe_int pa_nil))) (by rfl)))))) (fun _ _ _ _ _ => (pv 8)))
      (pss_one (ps_if (PW.pt (pw_and (pt_cmpR op_eq (pe_callB call_len_seq rfl B.len PySem.boot_len (pa_cons (pv 16) pa_nil)) pe_int (nomark _)) (pw_and1 (pt_cmpR op_eq (pe_call GD hr (by rfl) D_.g D_.F.kp D_.b .nil pass0 (pa_cons (pv 0) (pa_cons pe_int pa_nil))) pe_int (nomark _))))) (pss_cons (ps_expr (pe_bm PySem.F.plainAttrs_list PySem.F.slot_list_append PySem.F.type_list_append mt_append (pv 13) (pa_cons (pv 15) pa_nil)))
      (pss_one (ps_set (i := 14) scWeb.nd rfl (Or.inr rfl) (pe_op op_cat (pv 14) (pv 16))))) pss_nil))))
      (pss_one (ps_ret (pe_lst (pa_cons (pv 5) (pa_cons (pe_callB cr_sortedPO rfl B.sorted boot_sorted (pa_cons (pv 6) pa_nil)) (pa_cons (pv 12) (pa_cons (pv 13) pa_nil)))))))))))))), ?_⟩
    refine q_as (op_op (v_op rfl (c_op (a_op (v_op rfl (a_op (op_op (op_op (v_op rfl (v_op rfl ⟨_, _, rfl, rfl, k_op ⟨_, _, rfl, rfl, n_op ⟨p, l, ns, n, 16 - 1 + 1, rfl, hp, by omega, by decide, by decide, fun v H1 v0 v1 e1 hp1 => ⟨_, _, rfl, rfl, ?_⟩⟩⟩⟩))))))))))
    obtain ⟨m, hm, hm1, hm2⟩ : ∃ m : Nat, 1 + v = (m : Int) ∧ 1 ≤ m ∧ m ≤ 16 := ⟨(1 + v).toNat, by omega, by omega, by omega⟩
    have hm' : (fun i j : Int => V.int (i + j)) 1 v = V.int (m : Int) := by show V.int (1 + v) = _; rw [hm]
    rw [hm']
    -- kinds, ties, star
    refine q_as (t_op (a_op (kinds_lc (p := p) rfl (fun _ => rfl) (fun _ => rfl) hp1 (by omega) (by omega) fun D H2 ks hD e2 hp2 hDk hkl hkn => ?_)))
    refine a_op (l_op (n_op ⟨Nat.zero_le _, fun T hT => a_op (c_op (a_op (v_op rfl (a_op (k_op (n_op ⟨p, l, ns, n + 1 + (m : Int), 3, rfl, hp2.up (Ex.new hT), by omega, by decide, by decide, fun sv H4 s0 s1 e4 hp4 => n_op ⟨by show 3 ≤ sizeLine; decide, fun tp htp => ?_⟩⟩))))))⟩))
    obtain ⟨hDp, hDl⟩ := pen_ne hp1 hD
    obtain ⟨hTp, hTl⟩ := pen_ne hp2 hT
    have hTD : T ≠ D := fun z => by rw [z, hDk] at hT; cases hT
    have e02 : ExP p H H2 := e1.trans e2
    have hTH : H T = none := exp_back e02 hTp hT
    have e5 : Ex H4 (upd H4 tp (.tup [.ref D, .ref T, .int sv])) := Ex.new htp
    have htp5 : (upd H4 tp (.tup [.ref D, .ref T, .int sv])) tp = some (.tup [.ref D, .ref T, .int sv]) := upd_same
    generalize upd H4 tp (.tup [.ref D, .ref T, .int sv]) = H5 at e5 htp5 ⊢
    have hT4 : H4 T = some (.lst []) := e4 T _ hTp upd_same
    have hD4 : H4 D = some (.lst (ks.map V.str)) := e4 D _ hDp ((Ex.new hT) _ _ hDk)
    have w5 : WS p l ns H D T ks (n + 1 + (m : Int) + 1) [] H5 := ⟨((e02.trans (Ex.p (Ex.new hT))).trans e4).trans (Ex.p e5), hp4.up e5, e5 _ _ hD4, [], e5 _ _ hT4, .nil⟩
    refine ⟨tp, _, rfl, st_of htp5, rfl, _, _, rfl, _, _, rfl, _, _, rfl, rfl, ?_⟩
    -- for piece in range(1, many)
    refine s_forR2 (lo := 1) (n := (m : Int)) (ea_cons ev_c (ea_cons (ev_var rfl) ea_nil)) (by omega) (fun i σ' H' => ∃ y4 y9 ts, σ' = [some (.ref p), some (.int 1), some (.int 16), some (.int (m : Int)), y4, some (.ref D), some (.ref T), some (.int sv), none, y9, none, none, none, none, none, none, none] ∧ ∃ c, n ≤ c ∧ c ≤ n + 40 + (i : Int) ∧ WS p l ns H D T ks c ts H' ∧ TieI ts (1 + i) ∧ (besL ts (i : Int)).length ≤ 1 ∧ ts.length = i)
      (fun H6 e6 => ⟨none, none, [], rfl, _, by omega, by omega, w5.up e6, TieI.one, Nat.zero_le _, rfl⟩) ?_ ?_
    · rintro i σ' H' hi ⟨y4, y9, ts, rfl, c, c0, c1, ww, tI, td, tl⟩
      obtain ⟨tys, ht, hP⟩ := ww.t
      rw [show (1 : Int) + (i : Int) = ((1 + i : Nat) : Int) from by omega]
      refine q_as (room_lc (k := 1 + i) rfl (fun _ => rfl) (fun _ => rfl) (fun _ => rfl) ht hP (by omega) (by omega) _ (Ex.refl _) _ fun R H6 hR e6 hr6 => ?_)
      have w6 := ww.up e6
      have ht6 := e6 _ _ ht
      have hP6 := prs_up e6 hP
      refine s_ex ⟨.ref T, rfl, .inl ⟨rfl, _, sq_of ht6⟩, a_op (t_op (a_op (c_op (a_op (v_op rfl (a_op (room_pick rfl rfl rfl hr6 (by omega) tI td tl fun S xs H7 hS e7 hs7 hne hxl hxs => ?_)))))))⟩
      have w7 := w6.up e7
      refine n_op ⟨p, S, l, ns, c, xs, rfl, w7.pn, by omega, sq_of hs7, (pen_ne w6.pn hS).1, hne, hxl, fun x H8 hx e8 hp8 => ?_⟩
      obtain ⟨cc, rfl, hc0, hc1⟩ := hxs x hx
      have w8 := w7.pen e8 hp8 hDp hTp
      refine a_op (v_op rfl (n_op ⟨by show 2 ≤ sizeLine; decide, fun q hq => ?_⟩))
      have e9 : Ex H8 (upd H8 q (.tup [.int cc, .int ((1 + i : Nat) : Int)])) := Ex.new hq
      have hq9 : (upd H8 q (.tup [.int cc, .int ((1 + i : Nat) : Int)])) q = some (.tup [.int cc, .int ((1 + i : Nat) : Int)]) := upd_same
      generalize upd H8 q (.tup [.int cc, .int ((1 + i : Nat) : Int)]) = H9 at e9 hq9 ⊢
      have w9 := w8.up e9
      have ht9 : H9 T = some (.lst tys) := e9 _ _ (e8 T _ hTp (e7 _ _ ht6))
      have hP9 : Paired (PrR H9) tys ts := prs_up e9 (prs_upT (ExT.pen w7.pn e8) (prs_up e7 hP6))
      refine n_op ⟨T, tys, .ref q, rfl, rfl, ht9, ?_, ?_⟩
      · have := Paired.length hP9
        exact sz_lt (by omega)
      · obtain ⟨t1, t2⟩ := tI.piece hc0 hc1
        refine ⟨_, _, ts ++ [(cc, ((1 + i : Nat) : Int))], rfl, c + 1, by omega, by omega, w9.add hTD hTp hTl hTH (x := (cc, ((1 + i : Nat) : Int))) hq9 tys ht9 hP9, t1, ?_, by rw [List.length_append, tl]; rfl⟩
        rw [show ((i + 1 : Nat) : Int) = ((1 + i : Nat) : Int) from by omega]
        exact t2
    · rintro σ' H' ⟨y4, y9, ts, rfl, c, c0, c1, ww, tI, td, tl⟩
      have hmn : ((m : Int) - 1).toNat = m - 1 := by omega
      rw [hmn] at c1 tI tl
      rw [show 1 + (m - 1) = m from by omega] at tI
      -- for turn in range(pick(pen, [0, 0, 1, 2]))
      refine for1 (a_op (c_op (a_op (v_op rfl (a_op (l_op (a_op (k_op (a_op (k_op (a_op (k_op (a_op (k_op (n_op ⟨by show 4 ≤ sizeLine; decide, fun S hS => ?_⟩)))))))))))))))
      have e6 : Ex H' (upd H' S (.lst [.int 0, .int 0, .int 1, .int 2])) := Ex.new hS
      have hs6 : (upd H' S (.lst [.int 0, .int 0, .int 1, .int 2])) S = some (.lst [.int 0, .int 0, .int 1, .int 2]) := upd_same
      generalize upd H' S (.lst [.int 0, .int 0, .int 1, .int 2]) = H6 at e6 hs6 ⊢
      have w6 := ww.up e6
      refine n_op ⟨p, S, l, ns, c, [.int 0, .int 0, .int 1, .int 2], rfl, w6.pn, by omega, sq_of hs6, (pen_ne ww.pn hS).1, List.cons_ne_nil _ _, by show 4 ≤ 1000; decide, fun x H7 hx e7 hp7 => ?_⟩
      obtain ⟨tn, rfl, tn0, tn1⟩ : ∃ t : Int, x = .int t ∧ 0 ≤ t ∧ t ≤ 2 := by
        simp only [List.mem_cons, List.not_mem_nil, or_false] at hx
        rcases hx with rfl | rfl | rfl | rfl
        · exact ⟨0, rfl, by decide, by decide⟩
        · exact ⟨0, rfl, by decide, by decide⟩
        · exact ⟨1, rfl, by decide, by decide⟩
        · exact ⟨2, rfl, by decide, by decide⟩
      have w7 := w6.pen e7 hp7 hDp hTp
      refine n_op ⟨tn, rfl, by omega, by omega, ?_⟩
      refine for_range (lo := 0) (n := tn.toNat) (fun i σ' H' => ∃ y4 y8 y9 y10 y11 ts, σ' = [some (.ref p), some (.int 1), some (.int 16), some (.int (m : Int)), y4, some (.ref D), some (.ref T), some (.int sv), y8, y9, y10, y11, none, none, none, none, none] ∧ ∃ c, n ≤ c ∧ c ≤ n + 60 + 2 * (i : Int) ∧ WS p l ns H D T ks c ts H' ∧ TieI ts m ∧ ts.length ≤ 15 + i)
        ⟨y4, none, y9, none, none, ts, rfl, c + 1, by omega, by omega, w7, tI, by omega⟩ ?_ ?_
      · rintro i σ' H8 hi ⟨y4, y8, y9, y10, y11, ts, rfl, c, c0, c1, ww, tI, tl⟩
        refine q_as (cb_op (a_op (l_op (a_op (c_op (a_op (v_op rfl (a_op (v_op rfl (n_op ⟨p, l, ns, c, (m : Int), rfl, ww.pn, by omega, by omega, by omega, fun a1 Ha h0 h1 ea hpa => a_op (c_op (a_op (v_op rfl (a_op (v_op rfl (n_op ⟨p, l, ns, c + 1, (m : Int), rfl, hpa, by omega, by omega, by omega, fun a2 Hb h2 h3 eb hpb => n_op ⟨by show 2 ≤ sizeLine; decide, fun S2 hS2 => n_op ⟨S2, [a1, a2], rfl, .inl (sq_of upd_same), by show 2 < 64; decide, fun ns' b hpp hps hb => ?_⟩⟩⟩))))))⟩))))))))))
        obtain ⟨x, y, rfl, hxy, hxm, hym⟩ := two_sorted hpp hps
        have hx : 0 ≤ x ∧ x < (m : Int) := by simp only [List.mem_cons, List.not_mem_nil, or_false] at hxm; rcases hxm with rfl | rfl <;> omega
        have hy : 0 ≤ y ∧ y < (m : Int) := by simp only [List.mem_cons, List.not_mem_nil, or_false] at hym; rcases hym with rfl | rfl <;> omega
        have e9 : Ex Hb (upd (upd Hb S2 (.lst [.int a1, .int a2])) b (.lst ([x, y].map V.int))) := (Ex.new hS2).trans (Ex.new hb)
        have hb9 : (upd (upd Hb S2 (.lst [.int a1, .int a2])) b (.lst ([x, y].map V.int))) b = some (.lst [.int x, .int y]) := upd_same
        generalize upd (upd Hb S2 (.lst [.int a1, .int a2])) b (.lst ([x, y].map V.int)) = H9 at e9 hb9 ⊢
        have w9 := ((ww.pen ea hpa hDp hTp).pen eb hpb hDp hTp).up e9
        refine ⟨b, _, rfl, sq_of hb9, rfl, _, _, rfl, _, _, rfl, rfl, ?_⟩
        have skip : ∀ H10, Ex H9 H10 → ∃ y4' y8' y9' y10' y11' ts', [some (V.ref p), some (V.int 1), some (V.int 16), some (V.int (m : Int)), y4, some (V.ref D), some (V.ref T), some (V.int sv), some (V.int x), y9, some (V.int (0 + (i : Int))), some (V.int y), none, none, none, none, none] = [some (.ref p), some (.int 1), some (.int 16), some (.int (m : Int)), y4', some (.ref D), some (.ref T), some (.int sv), y8', y9', y10', y11', none, none, none, none, none] ∧ ∃ c, n ≤ c ∧ c ≤ n + 60 + 2 * ((i + 1 : Nat) : Int) ∧ WS p l ns H D T ks c ts' H10 ∧ TieI ts' m ∧ ts'.length ≤ 15 + (i + 1) := fun H10 e => ⟨_, _, _, _, _, ts, rfl, c + 1 + 1, by omega, by omega, w9.up e, tI, by omega⟩
        obtain ⟨tys, ht9, hP9⟩ := w9.t
        refine s_if0 (an_t (op_test (op_op (v_op rfl (v_op rfl ⟨rfl, _, rfl, ?_⟩)))))
        by_cases exy : x = y
        · rw [decide_eq_true (congrArg V.int exy)]
          exact iteF (iteF (skip H9 (Ex.refl _)))
        rw [decide_eq_false (fun z => exy (V.int.inj z))]
        refine iteT (an_t (op_test (op_op (t_op (a_op (v_op rfl (a_op (v_op rfl (n_op ⟨by show 2 ≤ sizeLine; decide, fun t1 h1 => v_op rfl ?_⟩)))))))))
        have e10 : Ex H9 (upd H9 t1 (.tup [.int x, .int y])) := Ex.new h1
        have ht10 : (upd H9 t1 (.tup [.int x, .int y])) t1 = some (.tup [.int x, .int y]) := upd_same
        generalize upd H9 t1 (.tup [.int x, .int y]) = H10 at e10 ht10 ⊢
        refine ⟨pqD (x, y), ts.map pqD, 1, 2, KX.GD.tup (n := 0) (st_of ht10) (.cons (.int _) (.cons (.int _) .nil)), .inl (KX.GD.lst (n := 1) (sq_of (e10 _ _ ht9)) (gd_pairs (prs_up e10 hP9))), by omega, by omega, _, rfl, ?_⟩
        rw [if_pos rfl]
        by_cases hin : (x, y) ∈ ts
        · rw [any_yes pqD eqv_pair hin]
          exact iteF (iteF (skip H10 e10))
        rw [any_no pqD eqv_pair hin]
        refine iteT (an_t (op_test (op_op (deg_ev (j := 8) rfl rfl (e10 _ _ ht9) (prs_up e10 hP9) (by omega) fun H11 e11 => k_op ⟨_, _, rfl, rfl, _, rfl, ?_⟩))))
        by_cases hd1 : ((besL ts x).length : Int) < 4
        · rw [decide_eq_true hd1]
          have e911 := e10.trans e11
          refine iteT (op_test (op_op (deg_ev (j := 11) rfl rfl (e911 _ _ ht9) (prs_up e911 hP9) (by omega) fun H12 e12 => k_op ⟨_, _, rfl, rfl, _, rfl, ?_⟩)))
          have e912 := e911.trans e12
          by_cases hd2 : ((besL ts y).length : Int) < 4
          · rw [decide_eq_true hd2]
            refine iteT (s_ex ⟨.ref T, rfl, .inl ⟨rfl, _, sq_of (e912 _ _ ht9)⟩, a_op (t_op (a_op (v_op rfl (a_op (v_op rfl (n_op ⟨by show 2 ≤ sizeLine; decide, fun t2 h2 => ?_⟩))))))⟩)
            have e13 : Ex H12 (upd H12 t2 (.tup [.int x, .int y])) := Ex.new h2
            have ht13 : (upd H12 t2 (.tup [.int x, .int y])) t2 = some (.tup [.int x, .int y]) := upd_same
            generalize upd H12 t2 (.tup [.int x, .int y]) = H13 at e13 ht13 ⊢
            have e913 := e912.trans e13
            have w13 := w9.up e913
            refine n_op ⟨T, tys, .ref t2, rfl, rfl, e913 _ _ ht9, ?_, ?_⟩
            · have := Paired.length hP9
              exact sz_lt (by omega)
            · exact ⟨_, _, _, _, _, ts ++ [(x, y)], rfl, c + 1 + 1, by omega, by omega, w13.add hTD hTp hTl hTH (x := (x, y)) ht13 tys (e913 _ _ ht9) (prs_up e913 hP9), tI.more hx.1 (by omega) hy.2 hin (by omega) (by omega), by rw [List.length_append]; show ts.length + 1 ≤ _; omega⟩
          · rw [decide_eq_false hd2]
            exact iteF (skip H12 e912)
        · rw [decide_eq_false hd1]
          exact iteF (iteF (skip H11 (e10.trans e11)))
      · rintro σ' H8 ⟨y4, y8, y9, y10, y11, ts, rfl, c, c0, c1, ww, tI, tl⟩
        have c1 : c ≤ n + 64 := by omega
        have tl : ts.length ≤ 17 := by omega
        obtain ⟨tys, ht, hP⟩ := ww.t
        refine q_as (hubs_lc (p := p) (l := l) (ns := ns) (n := c) rfl (fun _ => rfl) (fun _ => rfl) (fun _ => rfl) (fun _ => rfl) ww.pn (by omega) (by omega) hTp ht hP (by omega) fun U H9 _ hU v => ?_)
        obtain ⟨e9, ⟨c2, c20, c21, hp9⟩, hs, hU9, hsl, hsp, hsm⟩ := v
        obtain ⟨hUp, hUl⟩ := pen_ne ww.pn hU
        have w9 := ww.pen e9 hp9 hDp hTp
        -- stiff, taken = [], list(hubs)
        refine q_as (t_op (a_op (l_op (n_op ⟨Nat.zero_le _, fun Z hZ => a_op (cb_op (a_op (v_op rfl (n_op ⟨U, _, rfl, .inl (sq_of ((Ex.new hZ) _ _ hU9)), fun K1 hK1 => n_op ⟨by show 2 ≤ sizeLine; decide, fun tp2 htp2 => ?_⟩⟩))))⟩))))
        have ea : Ex H9 (upd (upd H9 Z (.lst [])) K1 (.lst (hs.map V.int))) := (Ex.new hZ).trans (Ex.new hK1)
        have hZa : (upd (upd H9 Z (.lst [])) K1 (.lst (hs.map V.int))) Z = some (.lst []) := (Ex.new hK1) _ _ upd_same
        have hKa : (upd (upd H9 Z (.lst [])) K1 (.lst (hs.map V.int))) K1 = some (.lst (hs.map V.int)) := upd_same
        generalize upd (upd H9 Z (.lst [])) K1 (.lst (hs.map V.int)) = Ha at ea hZa hKa htp2 ⊢
        have eb : Ex Ha (upd Ha tp2 (.tup [.ref Z, .ref K1])) := Ex.new htp2
        have hbt : (upd Ha tp2 (.tup [.ref Z, .ref K1])) tp2 = some (.tup [.ref Z, .ref K1]) := upd_same
        generalize upd Ha tp2 (.tup [.ref Z, .ref K1]) = Hb at eb hbt ⊢
        obtain ⟨hZp, hZl⟩ := pen_ne hp9 hZ
        have hZ0 : H Z = none := exp_back w9.e hZp hZ
        have hZU : Z ≠ U := fun z => by rw [z, hU9] at hZ; cases hZ
        have hZD : Z ≠ D := fun z => by rw [z, w9.d] at hZ; cases hZ
        have hZT : Z ≠ T := fun z => by
          obtain ⟨tys9, ht9, _⟩ := w9.t
          rw [z, ht9] at hZ; cases hZ
        have eab := ea.trans eb
        have wb := w9.up eab
        refine ⟨tp2, _, rfl, st_of hbt, rfl, _, _, rfl, _, _, rfl, rfl, ?_⟩
        -- for tie in sorted(ties)
        obtain ⟨tysb, htb, hPb⟩ := wb.t
        refine forS (cb_op (a_op (v_op rfl (n_op (sort_pairs (sq_of htb) hPb fun b5 ys hb5 hP5 => ⟨b5, rfl, .inl ⟨ys, sq_of upd_same, ?_⟩⟩)))))
        have ec : Ex Hb (upd Hb b5 (.lst ys)) := Ex.new hb5
        have hc5 : (upd Hb b5 (.lst ys)) b5 = some (.lst ys) := upd_same
        generalize upd Hb b5 (.lst ys) = Hc at ec hc5 ⊢
        have wc := wb.up ec
        have hP5c := prs_up ec hP5
        have hb5p : b5 ≠ p := (pen_ne wb.pn hb5).1
        have hyl : ys.length = ts.length := by rw [Paired.length hP5, (sortP_perm ts).length_eq]
        have hKp : K1 ≠ p := (pen_ne (hp9.up (Ex.new hZ)) hK1).1
        have hKZ : K1 ≠ Z := fun z => by rw [z, upd_same] at hK1; cases hK1
        have hb5Z : b5 ≠ Z := fun z => by rw [z, eb _ _ hZa] at hb5; cases hb5
        refine for_it (walk_list (xs := ys)) (fun i σ' H' => ∃ (y4 y8 y9 y10 y11 : Option V) (K2 : Addr) (y15 y16 : Option V) (ss : List (Int × Int)) (zs : List V), σ' = [some (.ref p), some (.int 1), some (.int 16), some (.int (m : Int)), y4, some (.ref D), some (.ref T), some (.int sv), y8, y9, y10, y11, some (.ref U), some (.ref Z), some (.ref K2), y15, y16] ∧ ∃ c, n ≤ c ∧ c ≤ n + 100 + (i : Int) ∧ WS p l ns H D T ks c ts H' ∧ (H' b5 = some (.lst ys) ∧ Paired (PrR H') ys (sortP ts)) ∧ H' U = some (.lst (hs.map V.int)) ∧ H' Z = some (.lst zs) ∧ Paired (PrR H') zs ss ∧ H' K2 = some (.lst ((hs ++ (ss.map fun p => [p.1, p.2]).flatten).map V.int)) ∧ K2 ≠ p ∧ K2 ≠ Z ∧ StfI ts hs ((sortP ts).take i) ss)
          ⟨y4, y8, y9, y10, y11, K1, none, none, [], [], rfl, c2, by omega, by omega, wc, ⟨hc5, hP5c⟩, ec _ _ (eab _ _ hU9), ec _ _ (eb _ _ hZa), .nil, by rw [show (hs ++ (([] : List (Int × Int)).map fun p => [p.1, p.2]).flatten) = hs from List.append_nil hs]; exact ec _ _ (eb _ _ hKa), hKp, hKZ, StfI.nil⟩
          (fun i σ' H' _ ⟨_, _, _, _, _, _, _, _, _, _, _, _, _, _, _, ⟨h5, _⟩, _⟩ => sq_of h5) ?_ ?_
        · rintro i x σ' H' H'' hi ⟨y4, y8, y9, y10, y11, K2, y15, y16, ss, zs, rfl, c, c0, c1, ww, ⟨h5, hPy⟩, hU, hZz, hPz, hK2, hK2p, hK2Z, hSf⟩ ⟨e2, hx⟩
          subst e2
          obtain ⟨q, hq, b, rfl, hb⟩ := pget hPy hx
          have hqt : q ∈ ts := (sortP_perm ts).mem_iff.mp (List.mem_of_getElem? hq)
          have hqb := tI.tb q hqt
          have htake : (sortP ts).take (i + 1) = (sortP ts).take i ++ [q] := by rw [List.take_add_one, hq]; rfl
          obtain ⟨tys, ht, hP⟩ := ww.t
          have hzl : ss.length ≤ 17 := by
            have h1 := hSf.sl.length_le
            rw [List.length_take, (sortP_perm ts).length_eq] at h1
            omega
          generalize htk : hs ++ (ss.map fun p => [p.1, p.2]).flatten = tk at hK2
          refine q_as (fits_lc (b := b) (T := T) (U := K2) (x := q.1) (y := q.2) (ts := ts) (tk := tk) rfl (fun _ => rfl) (fun _ => rfl) (fun _ => rfl) (fun _ => rfl) hb ht hP (by omega) hK2 _ (Ex.refl _) _ fun L HL hL eL hlL => ?_)
          have wL := ww.up eL
          have skip : ∀ (H10 : Hp) (c' : Int), ExP p HL H10 → Pen H10 p l ns c' → n ≤ c' → c' ≤ n + 100 + ((i + 1 : Nat) : Int) → ∃ (y4' y8' y9' y10' y11' : Option V) (K2' : Addr) (y15' y16' : Option V) (ss' : List (Int × Int)) (zs' : List V), [some (V.ref p), some (.int 1), some (.int 16), some (.int (m : Int)), y4, some (.ref D), some (.ref T), some (.int sv), y8, y9, y10, y11, some (.ref U), some (.ref Z), some (.ref K2), some (.ref b), some (.ref L)] = [some (.ref p), some (.int 1), some (.int 16), some (.int (m : Int)), y4', some (.ref D), some (.ref T), some (.int sv), y8', y9', y10', y11', some (.ref U), some (.ref Z), some (.ref K2'), y15', y16'] ∧ ∃ c, n ≤ c ∧ c ≤ n + 100 + ((i + 1 : Nat) : Int) ∧ WS p l ns H D T ks c ts H10 ∧ (H10 b5 = some (.lst ys) ∧ Paired (PrR H10) ys (sortP ts)) ∧ H10 U = some (.lst (hs.map V.int)) ∧ H10 Z = some (.lst zs') ∧ Paired (PrR H10) zs' ss' ∧ H10 K2' = some (.lst ((hs ++ (ss'.map fun p => [p.1, p.2]).flatten).map V.int)) ∧ K2' ≠ p ∧ K2' ≠ Z ∧ StfI ts hs ((sortP ts).take (i + 1)) ss' := fun H10 c' e hp' c0' c1' =>
            ⟨_, _, _, _, _, K2, _, _, ss, zs, rfl, c', c0', c1', wL.pen e hp' hDp hTp, ⟨e b5 _ hb5p (eL _ _ h5), prs_upT (ExT.pen wL.pn e) (prs_up eL hPy)⟩, e U _ hUp (eL _ _ hU), e Z _ hZp (eL _ _ hZz), prs_upT (ExT.pen wL.pn e) (prs_up eL hPz), by rw [htk]; exact e K2 _ hK2p (eL _ _ hK2), hK2p, hK2Z, by rw [htake]; exact hSf.skip⟩
          refine s_if0 (an_t (op_test (op_op (cb_op (a_op (v_op rfl (n_op ⟨L, _, rfl, .inl (sq_of hlL), k_op ⟨rfl, _, rfl, ?_⟩⟩)))))))
          rw [dec_intV, List.length_map]
          by_cases h2 : ([q.1, q.2].filter (fitB ts tk)).length = 2
          · rw [decide_eq_true (show (([q.1, q.2].filter (fitB ts tk)).length : Int) = 2 by omega)]
            obtain ⟨f1, f2, f3⟩ := fits_two h2
            rw [f3] at hlL
            refine iteT (op_test (op_op (c_op (a_op (v_op rfl (a_op (k_op (n_op ⟨p, l, ns, c, 2, rfl, wL.pn, by omega, by decide, by decide, fun r H6 r0 r1 e6 hp6 => k_op ⟨rfl, _, rfl, ?_⟩⟩))))))))
            rw [dec_intV]
            have w6 := wL.pen e6 hp6 hDp hTp
            by_cases hr0 : r = 0
            · rw [decide_eq_true hr0]
              have hZ6 : H6 Z = some (.lst zs) := e6 Z _ hZp (eL _ _ hZz)
              refine iteT (q_ex ⟨.ref Z, rfl, .inl ⟨rfl, _, sq_of hZ6⟩, a_op (v_op rfl (n_op ⟨Z, zs, .ref b, rfl, rfl, hZ6, ?_, ?_⟩))⟩)
              · have := Paired.length hPz
                exact sz_lt (by omega)
              have et : ExT H6 (upd H6 Z (.lst (zs ++ [.ref b]))) := ExT.lst hZ6
              have eo : ∀ a o, a ≠ Z → H6 a = some o → (upd H6 Z (.lst (zs ++ [.ref b]))) a = some o := fun a o hne ha => by rw [upd_ne hne]; exact ha
              have hz7 : (upd H6 Z (.lst (zs ++ [.ref b]))) Z = some (.lst (zs ++ [.ref b])) := upd_same
              have w7 : WS p l ns H D T ks (c + 1) ts (upd H6 Z (.lst (zs ++ [.ref b]))) := by
                obtain ⟨tys6, ht6, hP6⟩ := w6.t
                exact ⟨exp_mut w6.e hZ0, pen_upd w6.pn hZp hZl, eo _ _ hZD.symm w6.d, tys6, eo _ _ hZT.symm ht6, prs_upT et hP6⟩
              generalize upd H6 Z (.lst (zs ++ [.ref b])) = H7 at et eo hz7 w7 ⊢
              have hLp : L ≠ p := (pen_ne ww.pn hL).1
              have hLZ : L ≠ Z := fun z => by rw [z, hZz] at hL; cases hL
              have hK7 : H7 K2 = some (.lst (tk.map V.int)) := eo _ _ hK2Z (e6 K2 _ hK2p (eL _ _ hK2))
              have hL7 : H7 L = some (.lst ([q.1, q.2].map V.int)) := eo _ _ hLZ (e6 L _ hLp hlL)
              refine s_as (op_op (v_op rfl (v_op rfl ⟨K2, L, _, _, rfl, rfl, hK7, hL7, ?_, fun K3 hK3 => ?_⟩)))
              · rw [List.length_map]
                have h3 : tk.length ≤ 100 := by
                  rw [← htk, List.length_append]
                  have := ends_len ss
                  omega
                exact Nat.le_of_lt (sz_lt (by show tk.length + 2 < _; omega))
              · have e8 : Ex H7 (upd H7 K3 (.lst (tk.map V.int ++ [q.1, q.2].map V.int))) := Ex.new hK3
                have hpen7 := w7.pn
                have hK3p := (pen_ne hpen7 hK3).1
                have hK3Z : K3 ≠ Z := fun z => by rw [z, hz7] at hK3; cases hK3
                have hn1 : q.1 ∉ tk ∧ ((besL ts q.1).length = 2 ∨ (besL ts q.1).length = 3) := by
                  unfold fitB at f1
                  simpa using f1
                have hn2 : q.2 ∉ tk ∧ ((besL ts q.2).length = 2 ∨ (besL ts q.2).length = 3) := by
                  unfold fitB at f2
                  simpa using f2
                refine ⟨_, _, _, _, _, K3, _, _, ss ++ [q], zs ++ [.ref b], rfl, c + 1, by omega, by omega, w7.up e8, ⟨e8 _ _ (eo _ _ hb5Z (e6 b5 _ hb5p (eL _ _ h5))), prs_up e8 (prs_upT et (prs_upT (ExT.pen wL.pn e6) (prs_up eL hPy)))⟩, e8 _ _ (eo _ _ hZU.symm (e6 U _ hUp (eL _ _ hU))), e8 _ _ hz7, ?_, ?_, hK3p, hK3Z, ?_⟩
                · exact prs_up e8 (paired_snoc (prs_upT et (prs_upT (ExT.pen wL.pn e6) (prs_up eL hPz))) ⟨b, rfl, et _ _ (ExT.pen wL.pn e6 _ _ (eL _ _ hb))⟩)
                · rw [upd_same, List.map_append (f := fun p : Int × Int => [p.1, p.2]), List.flatten_append, ← List.append_assoc, htk, List.map_append]
                  rfl
                · rw [htake]
                  refine hSf.take (by omega) fun e he => ?_
                  rw [htk]
                  simp only [List.mem_cons, List.not_mem_nil, or_false] at he
                  rcases he with rfl | rfl
                  · exact hn1
                  · exact hn2
            · rw [decide_eq_false hr0]
              exact iteF (skip H6 (c + 1) e6 hp6 (by omega) (by omega))
          · rw [decide_eq_false (show ¬ (([q.1, q.2].filter (fitB ts tk)).length : Int) = 2 by omega)]
            exact iteF (iteF (skip HL c (ExP.refl _ _) wL.pn (by omega) (by omega)))
        · rintro σ' H' ⟨y4, y8, y9, y10, y11, K2, y15, y16, ss, zs, rfl, c, c0, c1, ww, ⟨h5, hPy⟩, hU, hZz, hPz, hK2, hK2p, hK2Z, hSf⟩
          rw [List.take_of_length_le (by rw [(sortP_perm ts).length_eq]; omega)] at hSf
          obtain ⟨tys, ht, hP⟩ := ww.t
          refine s_re (l_op (a_op (v_op rfl (a_op (cb_op (a_op (v_op rfl (n_op (sort_pairs (sq_of ht) hP fun b6 ys6 hb6 hP6 => a_op (v_op rfl (a_op (v_op rfl (n_op ⟨by show 4 ≤ sizeLine; decide, fun r hr => ?_⟩)))))))))))))
          have e6 : Ex H' (upd H' b6 (.lst ys6)) := Ex.new hb6
          have e7 := Ex.new (o := HO.lst [V.ref D, V.ref b6, V.ref U, V.ref Z]) hr
          have e67 := e6.trans e7
          have hT2 : TieI ts ks.length := by rw [hkl]; exact tI
          refine q r D b6 U Z ys6 zs ks (sortP ts) hs ss c _ (ww.e.trans (Ex.p e67)) (ww.pn.up e67) c0 (by omega) ⟨upd_same, e67 _ _ ww.d, e7 _ _ upd_same, e67 _ _ hU, e67 _ _ hZz, prs_up e67 hP6, prs_up e67 hPz, ⟨(pen_ne (ww.pn.up e6) hr).1, hDp, (pen_ne ww.pn hb6).1, hUp, hZp⟩, ?_, hkn⟩
          exact web_of (by omega) (fun z hz => kd_ok z (hkn z hz)) hT2 (by omega) hsp (fun h hh => by rw [hkl]; exact (hsm h hh).1) (fun h hh => (hsm h hh).2) hSf
end
end KW
namespace KX
open PySem PySem.Spec PyProof.Rows L2 Evl
/-! ### isinstance of a caught error that has fields -/
def rIsY (K : PySem.W.Frag) (a : Addr) (cls : Value) (d : Option Addr) : List V → Hp → VK → Prop := fun xs H Q => ∃ (C : Addr) (c : V) (u : Value) (b : Bool) (dd : Addr) (fs : List (Str × V)), xs = [.ref a, c] ∧ cls = .ref C ∧ IsXC K C ∧ d = some dd ∧ H dd = some (.xd fs) ∧ ClsV c u ∧ PySem.W.kitOne K (.ref C) u = some b ∧ Q (.bl b) H
theorem call_isY {X : Cx} {a : Addr} {oe : Obj} {cls : Value} {d : Option Addr} {pn : List (Addr × Obj)} (hz : Zc cls d oe) (hf : ∃ vs, oe.data = .fields vs) : CallR (X.suite a ((a, oe) :: pn)) (.builtin "isinstance") (rIsY X.K a cls d) := by
  intro pins s σ H xs us Q I r h
  obtain ⟨C, c, u, b, dd, fs, rfl, ec, D, ed, ea, k, e, q⟩ := h
  subst ec
  subst ed
  obtain ⟨u1, u2, rfl, r1, r2⟩ := vals2 r
  cases (show u1 = Value.ref a from r1)
  have e2 := k.eq r2
  subst e2
  obtain ⟨ha, _⟩ := I.pin (a, oe) (List.mem_append_left _ List.mem_cons_self)
  obtain ⟨vs, hd⟩ := hf
  have hx : ObjOk X.prog X.w H s.heap dd (.xd fs) := I.hok dd _ ea
  obtain ⟨mA, hns, hr⟩ := hx
  obtain ⟨od, ho, hl⟩ := lookIn_ns hns
  have J : PySem.W.InstAt s.heap a oe C (some od) := ⟨ha, hz.1, by unfold PySem.W.notCls; rw [hd] <;> rfl, by rw [hz.2]; exact ho⟩
  exact PySem.W.kia_one (PySem.W.kitx_exc D.cl D.ga D.gg D.sb D.ac D.sp D.tk D.mr) I.kIn J e (fun z => nomatch z) fun tk => ⟨.bl b, H, I.kept (t' := tk) fun _ _ z => z, rfl, q⟩
end KX
namespace KW
open PySem PySem.Spec PyProof.Rows L2 KR KS KX Evl StX LamX
/-! ### _law_heard -/
def ixE : Er → Nat
  | .web _ => 0
  | .body _ => 1
  | .lot _ => 2
  | .piece _ => 3
  | .mark _ => 4
  | .tie _ => 5
  | .twice _ => 6
  | .many _ _ => 7
/-- what is told of an error -/
def HrdR (H : Hp) (xs : List V) : Er → Prop
  | .web p => xs = [.str "web", .str p]
  | .body p => xs = [.str "body", .str p]
  | .lot p => xs = [.str "lot", .str p]
  | .piece _ => xs = [.str "other"]
  | .mark x => ∃ v, Rv H v x ∧ xs = [.str "mark", v]
  | .tie _ => xs = [.str "other"]
  | .twice x => ∃ v, Rv H v x ∧ xs = [.str "twice", v]
  | .many _ _ => xs = [.str "other"]
abbrev sHd : Stmt := topS 78
abbrev nHd : List Str := ["_law_ask", "_law_found", "error"]
theorem scHd : FnScope nHd ["_law_ask"] (defScope sHd) := ⟨rfl, rfl, rfl, by decide +kernel, rfl, by decide +kernel, by decide +kernel⟩
section
variable {P : Program} {w : World} {K : PySem.W.Frag} {mg : Str → Option Value} {base : Heap}
theorem takesL {X : Cx} {W W' : WX} (t : Takes X W) (h : ∀ c d (σ : L2.St) H, σ.length = X.N.length → W' c d σ H → W c d σ H) : Takes X W' := fun u s' ⟨a, B, sI, pins, σ, H, cls, d, e, I, nb, up, sky, na, os, ag, w⟩ =>
  t u s' ⟨a, B, sI, pins, σ, H, cls, d, e, I, nb, up, sky, na, os, ag, h _ _ _ _ I.len w⟩
structure HrdK (S : Es P w K mg base) where
  HE : Addr
  g : mg "HandError" = some (.ref HE)
  hx : ∀ r, IsXC K (RzC S r)
  xf : ∀ r, XfC K (RzC S r)
  ki : ∀ r r', PySem.W.kitOne K (.ref (RzC S r)) (.ref (RzC S r')) = some (decide (ixE r = ixE r'))
  ex : ∀ r, PySem.W.exmOne K (.ref (RzC S r)) (.ref HE) = some true
def TTh (S : Es P w K mg base) : (XK → Hp → VK → Prop) → Hp → VK → Prop := fun tl H Q => ∀ p0 H1, Ex H H1 → H1 p0 = some (.tup []) →
  tl (fun cls d H' => ∃ (r : Er) (dd : Addr) (fs : List (Str × V)), cls = .ref (RzC S r) ∧ d = some dd ∧ H' dd = some (.xd fs) ∧ RzF H' fs r ∧ ∀ p xs H2, Ex H' H2 → H2 p = some (.tup xs) → HrdR H2 xs r → Q (.ref p) H2) H1
    (fun _ H' => ∃ v, some (some (V.ref p0)) = some (some v) ∧ Q v H')
theorem is_y {a : Addr} {cls : Value} {d : Option Addr} {σ : L2.St} {H : Hp} {C0 C1 dd : Addr} {fs : List (Str × V)} {b : Bool} {Q : Bool → Hp → Prop} (h2 : σ[2]? = some (some (.ref a))) (hc : cls = .ref C0) (hx : IsXC K C0) (hd : d = some dd) (hf : H dd = some (.xd fs)) (hk : PySem.W.kitOne K (.ref C0) (.ref C1) = some b) (q : Q b H) :
    tB (tCB (rIsY K a cls d) (tCons (tVar 2) (tCons (tC (.ref C1)) tNil))) σ H Q := ⟨_, h2, C0, .ref C1, .ref C1, b, dd, fs, rfl, hc, hx, hd, hf, .own C1, hk, _, rfl, q⟩
theorem xf_op {a : Addr} {cls : Value} {d : Option Addr} {σ : L2.St} {H : Hp} {C dd : Addr} {fs : List (Str × V)} {f : Str} {v : V} {Q : VK} (h2 : σ[2]? = some (some (.ref a))) (hc : cls = .ref C) (hd : d = some dd) (hf : H dd = some (.xd fs)) (hl : fs.lookup f = some v) (q : Q v H) : tXf a cls d C f (tVar 2) σ H Q := ⟨_, h2, rfl, hc, dd, fs, v, hd, hf, hl, q⟩
end
theorem heard_gives {X : Cx} (S : Es X.prog X.w X.K X.mg X.base) (HK : HrdK S) (B : Bu X.mg) {g : Addr} {cdg : Value} {q : Str} : GivesTo X nHd "_law_heard" (defScope sHd) g cdg (defBody sHd) "_law_ask" q (TTh S) := by
  intro f c' s H Q tl act hc h
  refine ⟨_, pss_cons (ps_set (i := 1) scHd.nd rfl (Or.inl rfl) (pe_tup pa_nil)) (pss_cons (ps_try_as (X := (cxOf C8.CX0 X.prog X.w X.K X.mg X.base nHd "_law_heard" (defScope sHd) g cdg X.A X.stack s H C8.E0).nox) (c := .ref HK.HE) (i := 2)
      (tb := fun W D σ H => ∃ Ech : XK, (∀ cls d (σ' : L2.St) H', σ'.length = 3 → Ech cls d H' → W cls d σ' H') ∧ σ[0]? = some (some (.ref f)) ∧ H c' = some (CodeO c' q) ∧ tl Ech H fun _ H' => D.nx σ H')
      rfl rfl scHd.nd rfl rfl ⟨rfl, by decide, .inl HK.g⟩ LamX.takes0 (fun W pn xe tk _ => ?_) (fun a oe cls d pn hz hf => (pss_cons (ps_set (i := 1) scHd.nd rfl (Or.inl rfl) (pe_tup (pa_cons pe_str pa_nil)))
      (pss_one (ps_if (pt_val (pe_callB (call_isY hz hf) rfl B.isinstance boot_isinstance (pa_cons (pv 2) (pa_cons (pe_glob (v := V.ref S.web.C) rfl S.web.g rfl) pa_nil)))) (pss_one (ps_set (i := 1) scHd.nd rfl (Or.inl rfl) (pe_tup (pa_cons pe_str (pa_cons (pe_xf (HK.xf (.web "")) S.web.no hz hf (pv 2)) pa_nil))))) (pss_one (ps_if (pt_val (pe_callB (call_isY hz hf) rfl B.isinstance boot_isinstance (pa_cons (pv 2) (pa_cons (pe_glob (v := V.ref S.body.C) rfl S.body.g rfl) pa_nil)))) (pss_one (ps_set (i := 1) scHd.nd rfl (Or.inl rfl) (pe_tup (pa_cons pe_str (pa_cons (pe_xf (HK.xf (.body "")) S.body.no hz hf (pv 2)) pa_nil))))) (pss_one (ps_if (pt_val (pe_callB (call_isY hz hf) rfl B.isinstance boot_isinstance (pa_cons (pv 2) (pa_cons (pe_glob (v := V.ref S.lot.C) rfl S.lot.g rfl) pa_nil)))) (pss_one (ps_set (i := 1) scHd.nd rfl (Or.inl rfl) (pe_tup (pa_cons pe_str (pa_cons (pe_xf (HK.xf (.lot "")) S.lot.no hz hf (pv 2)) pa_nil))))) (pss_one (ps_if (pt_val (pe_callB (call_isY hz hf) rfl B.isinstance boot_isinstance (pa_cons (pv 2) (pa_cons (pe_glob (v := V.ref S.mark.C) rfl S.mark.g rfl) pa_nil)))) (pss_one (ps_set (i := 1) scHd.nd rfl (Or.inl rfl) (pe_tup (pa_cons pe_str (pa_cons (pe_xf (HK.xf (.mark .non)) S.mark.no hz hf (pv 2)) pa_nil))))) (pss_one (ps_if (pt_val (pe_callB (call_isY hz hf) rfl B.isinstance boot_isinstance (pa_cons (pv 2) (pa_cons (pe_glob (v := V.ref S.twice.C) rfl S.twice.g rfl) pa_nil)))) (pss_one (ps_set (i := 1) scHd.nd rfl (Or.inl rfl) (pe_tup (pa_cons pe_str (pa_cons (pe_xf (HK.xf (.twice .non)) S.twice.no hz hf (pv 2)) pa_nil))))) pss_nil)))))))))))))
      (pss_one (ps_ret (pv 1)))), ?_⟩
  · refine ⟨fun pins s' σ H' D I h' => ?_⟩
    obtain ⟨Ech, hW, h1, h2, h3⟩ := h'
    exact (pss_one (ps_expr (act (fun cls d _ H' => Ech cls d H') pn xe Ech _ _ (takesL tk fun c d σ H l w => hW c d σ H l w) fun _ _ _ _ h => h))).run pins s' σ H' D I ⟨h1, h2, h3⟩
  · refine q_as (t_op (n_op ⟨Nat.zero_le _, fun p0 hp0 => ?_⟩))
    have e1 : Ex H (upd H p0 (.tup [])) := Ex.new hp0
    have hp1 : (upd H p0 (.tup [])) p0 = some (.tup []) := upd_same
    generalize upd H p0 (.tup []) = H1 at e1 hp1 ⊢
    refine ⟨_, fun cls d σ' H' hl hE => ?_, rfl, e1 _ _ hc, h p0 H1 e1 hp1⟩
    obtain ⟨r, dd, fs, rfl, rfl, hdd, hF, qq⟩ := hE
    obtain ⟨x0, x1, x2, rfl⟩ : ∃ x0 x1 x2, σ' = [x0, x1, x2] := by
      match σ', hl with
      | [x0, x1, x2], _ => exact ⟨x0, x1, x2, rfl⟩
    refine ⟨true, HK.ex r, fun _ a ha => ?_, fun z => nomatch z⟩
    refine q_as (t_op (a_op (k_op (n_op ⟨by show 1 ≤ sizeLine; decide, fun p5 hp5 => ?_⟩))))
    have e5 : Ex H' (upd H' p5 (.tup [.str "other"])) := Ex.new hp5
    have h5 : (upd H' p5 (.tup [.str "other"])) p5 = some (.tup [.str "other"]) := upd_same
    generalize upd H' p5 (.tup [.str "other"]) = H5 at e5 h5 ⊢
    have hd5 := e5 _ _ hdd
    -- the end
    have fin : ∀ (p : Addr) (xs : List V), H5 p = none → HrdR (upd H5 p (.tup xs)) xs r → Q (.ref p) (upd H5 p (.tup xs)) := fun p xs hp hr => qq p xs _ (e5.trans (Ex.new hp)) upd_same hr
    have up5 : ∀ {v : V} {x : Va} {p : Addr} {xs : List V}, H5 p = none → Rv H' v x → Rv (upd H5 p (.tup xs)) v x := fun hp h => h.up (e5.trans (Ex.new hp))
    have no : ∀ r', ixE r ≠ ixE r' → PySem.W.kitOne X.K (.ref (RzC S r)) (.ref (RzC S r')) = some false := fun r' h => by rw [HK.ki, decide_eq_false h]
    have fin0 : HrdR H5 [.str "other"] r → Q (.ref p5) H5 := fun hr => qq p5 _ _ e5 h5 hr
    cases r with
    | web z =>
      subst hF
      refine s_if0 (is_y rfl rfl (HK.hx _) rfl hd5 (HK.ki (.web z) (.web z)) (iteT (s_as (t_op (a_op (k_op (a_op (xf_op rfl rfl rfl hd5 rfl (n_op ⟨by show 2 ≤ sizeLine; decide, fun p hp => ?_⟩)))))))))
      exact ⟨_, rfl, fin p _ hp rfl⟩
    | body z =>
      subst hF
      refine s_if0 (is_y rfl rfl (HK.hx _) rfl hd5 (no (.web "") (by simp [ixE])) (iteF ?_))
      refine s_if0 (is_y rfl rfl (HK.hx _) rfl hd5 (HK.ki (.body z) (.body z)) (iteT (s_as (t_op (a_op (k_op (a_op (xf_op rfl rfl rfl hd5 rfl (n_op ⟨by show 2 ≤ sizeLine; decide, fun p hp => ?_⟩)))))))))
      exact ⟨_, rfl, fin p _ hp rfl⟩
    | lot z =>
      subst hF
      refine s_if0 (is_y rfl rfl (HK.hx _) rfl hd5 (no (.web "") (by simp [ixE])) (iteF ?_))
      refine s_if0 (is_y rfl rfl (HK.hx _) rfl hd5 (no (.body "") (by simp [ixE])) (iteF ?_))
      refine s_if0 (is_y rfl rfl (HK.hx _) rfl hd5 (HK.ki (.lot z) (.lot z)) (iteT (s_as (t_op (a_op (k_op (a_op (xf_op rfl rfl rfl hd5 rfl (n_op ⟨by show 2 ≤ sizeLine; decide, fun p hp => ?_⟩)))))))))
      exact ⟨_, rfl, fin p _ hp rfl⟩
    | piece z =>
      obtain ⟨v, hv, hF⟩ := hF
      subst hF
      refine s_if0 (is_y rfl rfl (HK.hx _) rfl hd5 (no (.web "") (by simp [ixE])) (iteF ?_))
      refine s_if0 (is_y rfl rfl (HK.hx _) rfl hd5 (no (.body "") (by simp [ixE])) (iteF ?_))
      refine s_if0 (is_y rfl rfl (HK.hx _) rfl hd5 (no (.lot "") (by simp [ixE])) (iteF ?_))
      refine s_if0 (is_y rfl rfl (HK.hx _) rfl hd5 (no (.mark .non) (by simp [ixE])) (iteF ?_))
      refine s_if0 (is_y rfl rfl (HK.hx _) rfl hd5 (no (.twice .non) (by simp [ixE])) (iteF ?_))
      exact nx_op ⟨_, rfl, fin0 rfl⟩
    | mark z =>
      obtain ⟨v, hv, hF⟩ := hF
      subst hF
      refine s_if0 (is_y rfl rfl (HK.hx _) rfl hd5 (no (.web "") (by simp [ixE])) (iteF ?_))
      refine s_if0 (is_y rfl rfl (HK.hx _) rfl hd5 (no (.body "") (by simp [ixE])) (iteF ?_))
      refine s_if0 (is_y rfl rfl (HK.hx _) rfl hd5 (no (.lot "") (by simp [ixE])) (iteF ?_))
      refine s_if0 (is_y rfl rfl (HK.hx _) rfl hd5 (HK.ki (.mark z) (.mark z)) (iteT (s_as (t_op (a_op (k_op (a_op (xf_op rfl rfl rfl hd5 rfl (n_op ⟨by show 2 ≤ sizeLine; decide, fun p hp => ?_⟩)))))))))
      exact ⟨_, rfl, fin p _ hp ⟨v, up5 hp hv, rfl⟩⟩
    | tie z =>
      obtain ⟨v, hv, hF⟩ := hF
      subst hF
      refine s_if0 (is_y rfl rfl (HK.hx _) rfl hd5 (no (.web "") (by simp [ixE])) (iteF ?_))
      refine s_if0 (is_y rfl rfl (HK.hx _) rfl hd5 (no (.body "") (by simp [ixE])) (iteF ?_))
      refine s_if0 (is_y rfl rfl (HK.hx _) rfl hd5 (no (.lot "") (by simp [ixE])) (iteF ?_))
      refine s_if0 (is_y rfl rfl (HK.hx _) rfl hd5 (no (.mark .non) (by simp [ixE])) (iteF ?_))
      refine s_if0 (is_y rfl rfl (HK.hx _) rfl hd5 (no (.twice .non) (by simp [ixE])) (iteF ?_))
      exact nx_op ⟨_, rfl, fin0 rfl⟩
    | twice z =>
      obtain ⟨v, hv, hF⟩ := hF
      subst hF
      refine s_if0 (is_y rfl rfl (HK.hx _) rfl hd5 (no (.web "") (by simp [ixE])) (iteF ?_))
      refine s_if0 (is_y rfl rfl (HK.hx _) rfl hd5 (no (.body "") (by simp [ixE])) (iteF ?_))
      refine s_if0 (is_y rfl rfl (HK.hx _) rfl hd5 (no (.lot "") (by simp [ixE])) (iteF ?_))
      refine s_if0 (is_y rfl rfl (HK.hx _) rfl hd5 (no (.mark .non) (by simp [ixE])) (iteF ?_))
      refine s_if0 (is_y rfl rfl (HK.hx _) rfl hd5 (HK.ki (.twice z) (.twice z)) (iteT (s_as (t_op (a_op (k_op (a_op (xf_op rfl rfl rfl hd5 rfl (n_op ⟨by show 2 ≤ sizeLine; decide, fun p hp => ?_⟩)))))))))
      exact ⟨_, rfl, fin p _ hp ⟨v, up5 hp hv, rfl⟩⟩
    | many z m =>
      subst hF
      refine s_if0 (is_y rfl rfl (HK.hx _) rfl hd5 (no (.web "") (by simp [ixE])) (iteF ?_))
      refine s_if0 (is_y rfl rfl (HK.hx _) rfl hd5 (no (.body "") (by simp [ixE])) (iteF ?_))
      refine s_if0 (is_y rfl rfl (HK.hx _) rfl hd5 (no (.lot "") (by simp [ixE])) (iteF ?_))
      refine s_if0 (is_y rfl rfl (HK.hx _) rfl hd5 (no (.mark .non) (by simp [ixE])) (iteF ?_))
      refine s_if0 (is_y rfl rfl (HK.hx _) rfl hd5 (no (.twice .non) (by simp [ixE])) (iteF ?_))
      exact nx_op ⟨_, rfl, fin0 rfl⟩
end KW
namespace KW
open PySem PySem.Spec PyProof.Rows L2 KR KS KX Evl StX
/-! ### law -/
/-- all but the pen and the tables of code stay -/
def ExN (p : Addr) (H H' : Hp) : Prop := ∀ a o, a ≠ p → (∀ ps, o ≠ .tbl ps) → H a = some o → H' a = some o
theorem ExN.of {p : Addr} {H H' : Hp} (e : ExP p H H') : ExN p H H' := fun a o h _ ha => e a o h ha
theorem ExN.trans {p : Addr} {H H1 H2 : Hp} (e : ExN p H H1) (f : ExN p H1 H2) : ExN p H H2 := fun a o h k ha => f a o h k (e a o h k ha)
theorem ExN.refl (p : Addr) (H : Hp) : ExN p H H := fun _ _ _ _ h => h
/-- what is kept beside the pen, and by all that lets the tables be -/
structure Keep (Tb : Hp → Prop) : Prop where
  ex : ∀ H H', Ex H H' → Tb H → Tb H'
  exp : ∀ p l ns n H H', Pen H p l ns n → ExP p H H' → Tb H → Tb H'
theorem WL.upP {H H' : Hp} {p l b kA tA hA sA : Addr} {ns : List Int} {n : Int} {tys sys : List V} {ks : List Str} {ts : List (Int × Int)} {hs : List Int} {ss : List (Int × Int)} (h : WL H p b kA tA hA sA tys sys ks ts hs ss) (hp : Pen H p l ns n) (e : ExP p H H') : WL H' p b kA tA hA sA tys sys ks ts hs ss := by
  obtain ⟨n1, n2, n3, n4, n5⟩ := h.ne
  exact ⟨e _ _ n1 h.hb, e _ _ n2 h.hk, e _ _ n3 h.ht, e _ _ n4 h.hh, e _ _ n5 h.hz, prs_upT (ExT.pen hp e) h.pt, prs_upT (ExT.pen hp e) h.ps, h.ne, h.T, h.kd⟩
end KW
namespace KW
open PySem PySem.Spec PyProof.Rows L2 KR KS KX Evl StX
/-! ### a right web, made -/
def webT (ks : List Str) (ts : List (Int × Int)) (hs : List Int) (ss : List (Int × Int)) : WebD := ⟨ks, ts, nearT ks.length ts, hs, ss⟩
/-- kinds, ties, hubs, stiff ties as they are passed -/
structure ArgK (H : Hp) (v : V) (d : Va) (ks : List Str) : Prop where
  r : Rv H v d
  o : ∃ l, seqV d = some l ∧ l.all isName = true ∧ l.map strV = ks
structure ArgP (H : Hp) (v : V) (d : Va) (ts : List (Int × Int)) : Prop where
  r : Rv H v d
  o : ∃ l, seqV d = some l ∧ l.all isPair = true ∧ (l.map ascQ).Perm ts
structure ArgI (H : Hp) (v : V) (d : Va) (hs : List Int) : Prop where
  r : Rv H v d
  o : isNums d = true ∧ (intsV d).Perm hs
section
variable {P : Program} {w : World} {K : PySem.W.Frag} {mg : Str → Option Value} {base : Heap}
theorem make_ok {S : Es P w K mg base} {C : Addr} {ks : List Str} {ts : List (Int × Int)} {hs : List Int} {ss : List (Int × Int)} (T : WebT ks ts hs ss) {H : Hp} {x dx : Addr} {vk vt vh vz : V} {dk dt dh ds : Va} {Q : Hp → Prop} {E : XK} (hx : H x = none) (hdx : H dx = none)
    (ak : ArgK H vk dk ks) (at_ : ArgP H vt dt ts) (ah : ArgI H vh dh hs) (as : ArgP H vz ds ss) (q : ∀ H2, Ex H H2 → WebH C H2 x (webT ks ts hs ss) → Q H2) :
    spInit S C [.ref x, vk, vt, vh, vz] (upd (upd H dx (.own x)) x (.ins C dx [])) (fun v H2 => v = .non ∧ Q H2) E := by
  obtain ⟨lk, hlk, hnk, hks⟩ := ak.o
  obtain ⟨lt, hlt, hpt, hat⟩ := at_.o
  obtain ⟨lz, hlz, hpz, haz⟩ := as.o
  have ik : itemsV dk = lk := by unfold itemsV; rw [hlk]; rfl
  have it : itemsV dt = lt := by unfold itemsV; rw [hlt]; rfl
  have kk : lk.length = ks.length := by rw [← hks, List.length_map]
  have hne := T.len
  have hK : areKinds dk = true := by
    unfold areKinds
    rw [hlk]
    show (!lk.isEmpty && lk.all isName) = true
    rw [hnk, Bool.and_true]
    cases lk with
    | nil => simp at kk; omega
    | cons _ _ => rfl
  have hpre : preM dk dt = .ok (ts, nearT ks.length ts) := by
    unfold preM
    rw [hK, ik, kk, ties_ok T hlt hpt hat]
    simp only [Bool.true_eq_false, if_false]
    rw [near_ok T]
  have hpost : postM dk ts (nearT ks.length ts) dh ds = .ok (webT ks ts hs ss) := by
    unfold postM
    rw [hubs_ok T ah.o.1 ah.o.2]
    simp only
    rw [stiff_ok T hlz hpz haz]
    simp only
    rw [ik, kk, if_neg (by omega)]
    unfold kindsV webT
    rw [ik, hks]
  have ltl : lt.length = ts.length := by
    have := hat.length_eq
    rw [List.length_map] at this
    exact this
  have := T.tl
  refine ⟨x, dx, H, vk, vt, vh, vz, dk, dt, rfl, rfl, hx, hdx, ak.r, at_.r, by rw [ik]; omega, by rw [it]; omega, ?_⟩
  rw [hpre]
  refine ⟨dh, ds, ah.r, as.r, ?_⟩
  show match postM dk ts (nearT ks.length ts) dh ds with
    | .error r => _
    | .ok d => _
  rw [hpost]
  exact fun H2 e2 hW => ⟨rfl, q H2 e2 hW⟩
end
/-- as it stands in lists -/
theorem argK_lst {H : Hp} {a : Addr} {ks : List Str} (h : H a = some (.lst (ks.map V.str))) (hl : ks.length ≤ 1000) (hn : ∀ z ∈ ks, nam z.cps.toList = true ∧ z.length ≤ 1000) : ArgK H (.ref a) (.lst (ks.map Va.str)) ks := by
  have key : ∀ ks : List Str, (∀ z ∈ ks, nam z.cps.toList = true ∧ z.length ≤ 1000) → RvA H (ks.map V.str) (ks.map Va.str) ∧ (ks.map Va.str).all isName = true ∧ (ks.map Va.str).map strV = ks := by
    intro ks
    induction ks with
    | nil => intro _; exact ⟨.nil, rfl, rfl⟩
    | cons z ks ih =>
      intro hk
      obtain ⟨h1, h2, h3⟩ := ih fun y hy => hk y (List.mem_cons_of_mem _ hy)
      have hz := hk z List.mem_cons_self
      refine ⟨.cons (.str z hz.2) h1, ?_, ?_⟩
      · rw [List.map_cons, List.all_cons, h2, Bool.and_true]
        exact hz.1
      · rw [List.map_cons, List.map_cons, h3]
        rfl
  obtain ⟨h1, h2, h3⟩ := key ks hn
  exact ⟨.lst h h1 (by rw [List.length_map]; exact hl), _, rfl, h2, h3⟩
theorem argI_lst {H : Hp} {a : Addr} {is hs : List Int} (h : H a = some (.lst (is.map V.int))) (hl : is.length ≤ 1000) (hp : is.Perm hs) : ArgI H (.ref a) (.lst (is.map Va.int)) hs := by
  have key : ∀ is : List Int, RvA H (is.map V.int) (is.map Va.int) ∧ (is.map Va.int).all isI = true ∧ (is.map Va.int).map intV = is := by
    intro is
    induction is with
    | nil => exact ⟨.nil, rfl, rfl⟩
    | cons z is ih =>
      obtain ⟨h1, h2, h3⟩ := ih
      refine ⟨.cons (.int z) h1, ?_, ?_⟩
      · rw [List.map_cons, List.all_cons, h2]
        rfl
      · rw [List.map_cons, List.map_cons, h3]
        rfl
  obtain ⟨h1, h2, h3⟩ := key is
  refine ⟨.lst h h1 (by rw [List.length_map]; exact hl), h2, ?_⟩
  show ((is.map Va.int).map intV).Perm hs
  rw [h3]
  exact hp
end KW
namespace KW
open PySem PySem.Spec PyProof.Rows L2 KR KS KX Evl StX
/-! ### what is passed, as it lies -/
theorem rva_int {H H' : Hp} : ∀ {l : List Va} {xs : List V}, RvA H xs l → l.all isI = true → RvA H' xs l
  | [], _, .nil, _ => .nil
  | d :: l, _, .cons a b, h => by
    rw [List.all_cons, Bool.and_eq_true] at h
    refine .cons ?_ (rva_int b h.2)
    cases d <;> first | (cases a; exact .int _) | cases h.1
theorem pair_upP {H H' : Hp} {p l : Addr} {ns : List Int} {n : Int} {v : V} {d : Va} (hp : Pen H p l ns n) (e : ExP p H H') (r : Rv H v d) (h : isPair d = true) : Rv H' v d := by
  unfold isPair at h
  rw [Bool.and_eq_true] at h
  obtain ⟨h1, h2⟩ := h
  have h2 := of_decide_eq_true h2
  cases r with
  | @lst a xs ds hb ra hz =>
    have hl : xs.length = 2 := by
      have := Paired.length ra.paired
      have h2 : ds.length = 2 := h2
      omega
    refine .lst (e a _ (fun z => ?_) hb) (rva_int ra h1) hz
    obtain ⟨t, r, ha, _⟩ := hp.at_
    rw [z, ha] at hb
    cases hb
    simp at hl
  | @tup a xs ds hb ra hz => exact .tup (hb.upT (ExT.pen hp e)) (rva_int ra h1) hz
  | _ => cases h1
theorem pairs_upP {H H' : Hp} {p l : Addr} {ns : List Int} {n : Int} (hp : Pen H p l ns n) (e : ExP p H H') : ∀ {zs : List V} {ds : List Va}, Paired (Rv H) zs ds → ds.all isPair = true → Paired (Rv H') zs ds
  | _, _, .nil, _ => .nil
  | _, _, .cons a b, h => by
    rw [List.all_cons, Bool.and_eq_true] at h
    exact .cons (pair_upP hp e a h.1) (pairs_upP hp e b h.2)
theorem srt_id {ts : List (Int × Int)} (h : ∀ p ∈ ts, p.1 < p.2) : ts.map srt = ts := by
  have : ts.map srt = ts.map id := List.map_congr_left fun p hp => by
    have := h p hp
    unfold srt
    rw [Int.min_eq_left (by omega), Int.max_eq_right (by omega)]
    rfl
  rw [this, List.map_id]
theorem argP_told {H : Hp} {b : Addr} {zs : List V} {ds : List Va} {ts : List (Int × Int)} (hb : H b = some (.lst zs)) (hP : Paired (Rv H) zs ds) (ha : ds.all isPair = true) (hp : (ds.map ascQ).Perm (ts.map srt)) (hl : ds.length ≤ 1000) (h : ∀ p ∈ ts, p.1 < p.2) : ArgP H (.ref b) (.lst ds) ts :=
  ⟨.lst hb (RvA.of hP) hl, ds, rfl, ha, by rw [srt_id h] at hp; exact hp⟩
def pairV (p : Int × Int) : Va := .tup [.int p.1, .int p.2]
theorem prs_rv {H : Hp} : ∀ {ys : List V} {ts : List (Int × Int)}, Paired (PrR H) ys ts → Paired (Rv H) ys (ts.map pairV)
  | _, _, .nil => .nil
  | _, _, .cons a b => by
    obtain ⟨t, rfl, ht⟩ := a
    exact .cons (.tup (.inl ht) (.cons (.int _) (.cons (.int _) .nil)) (by show 2 ≤ 1000; decide)) (prs_rv b)
theorem pairV_all (ts : List (Int × Int)) : (ts.map pairV).all isPair = true := by
  rw [List.all_map, List.all_eq_true]
  intro p _
  rfl
theorem pairV_asc {ts : List (Int × Int)} (h : ∀ p ∈ ts, p.1 < p.2) : ((ts.map pairV).map ascQ).Perm ts := by
  rw [List.map_map]
  have : ts.map (ascQ ∘ pairV) = ts.map srt := rfl
  rw [this, srt_id h]
theorem argP_lst {H : Hp} {a : Addr} {ys : List V} {ts : List (Int × Int)} (ha : H a = some (.lst ys)) (hP : Paired (PrR H) ys ts) (hl : ts.length ≤ 1000) (h : ∀ p ∈ ts, p.1 < p.2) : ArgP H (.ref a) (.lst (ts.map pairV)) ts :=
  ⟨.lst ha (RvA.of (prs_rv hP)) (by rw [List.length_map]; exact hl), _, rfl, pairV_all ts, pairV_asc h⟩
theorem argP_tup {H : Hp} {a : Addr} {ys : List V} {ts : List (Int × Int)} (ha : TX H a ys) (hP : Paired (PrR H) ys ts) (hl : ts.length ≤ 1000) (h : ∀ p ∈ ts, p.1 < p.2) : ArgP H (.ref a) (.tup (ts.map pairV)) ts :=
  ⟨.tup ha (RvA.of (prs_rv hP)) (by rw [List.length_map]; exact hl), _, rfl, pairV_all ts, pairV_asc h⟩
theorem argK_tup {H : Hp} {a b : Addr} {ks : List Str} (h : TX H a (ks.map V.str)) (hl : ks.length ≤ 1000) (hn : ∀ z ∈ ks, nam z.cps.toList = true ∧ z.length ≤ 1000) : ArgK H (.ref a) (.tup (ks.map Va.str)) ks := by
  have hk := argK_lst (H := upd (fun _ => none) b (.lst (ks.map V.str))) (a := b) upd_same hl hn
  obtain ⟨r, o⟩ := hk
  have key : ∀ ks : List Str, (∀ z ∈ ks, nam z.cps.toList = true ∧ z.length ≤ 1000) → RvA H (ks.map V.str) (ks.map Va.str) := by
    intro ks
    induction ks with
    | nil => intro _; exact .nil
    | cons z ks ih => intro hk; exact .cons (.str z (hk z List.mem_cons_self).2) (ih fun y hy => hk y (List.mem_cons_of_mem _ hy))
  refine ⟨.tup h (key ks hn) (by rw [List.length_map]; exact hl), ?_⟩
  obtain ⟨l, h1, h2, h3⟩ := o
  exact ⟨l, h1, h2, h3⟩
theorem argI_tup {H : Hp} {a : Addr} {is hs : List Int} (h : TX H a (is.map V.int)) (hl : is.length ≤ 1000) (hp : is.Perm hs) : ArgI H (.ref a) (.tup (is.map Va.int)) hs := by
  have hk := argI_lst (H := upd (fun _ => none) a (.lst (is.map V.int))) (a := a) upd_same hl hp
  have key : ∀ is : List Int, RvA H (is.map V.int) (is.map Va.int) := by
    intro is
    induction is with
    | nil => exact .nil
    | cons z is ih => exact .cons (.int z) ih
  exact ⟨.tup h (key is) (by rw [List.length_map]; exact hl), hk.o⟩
theorem sub_flat {α β : Type} (f : α → List β) : ∀ {l m : List α}, l.Sublist m → (l.map f).flatten.Sublist (m.map f).flatten
  | _, _, .slnil => List.Sublist.refl _
  | _, _, .cons a h => by
    rw [List.map_cons, List.flatten_cons]
    exact (sub_flat f h).trans (List.sublist_append_right _ _)
  | _, _, .cons₂ a h => by
    rw [List.map_cons, List.map_cons, List.flatten_cons, List.flatten_cons]
    exact (List.Sublist.refl _).append (sub_flat f h)
/-! ### other webs beside it -/
section
variable {ks : List Str} {ts : List (Int × Int)} {hs : List Int} {ss : List (Int × Int)}
theorem WebT.hub_off (T : WebT ks ts hs ss) : WebT ks ts (hs.drop 1) ss := by
  have hsub : (hs.drop 1).Sublist hs := List.drop_sublist _ _
  exact ⟨T.len, T.nam, T.tb, T.tsd, T.tn, T.tl, T.deg, T.tie, T.hsd.sublist hsub, T.hn.sublist hsub, fun h hh => T.hb h (hsub.subset hh), fun h hh => T.hd h (hsub.subset hh), T.ssd, T.sn, T.si, fun p hp e he => ⟨fun z => (T.se p hp e he).1 (hsub.subset z), (T.se p hp e he).2⟩, T.su⟩
theorem WebT.stiff_off (T : WebT ks ts hs ss) : WebT ks ts hs (ss.drop 1) := by
  have hsub : (ss.drop 1).Sublist ss := List.drop_sublist _ _
  refine ⟨T.len, T.nam, T.tb, T.tsd, T.tn, T.tl, T.deg, T.tie, T.hsd, T.hn, T.hb, T.hd, T.ssd.sublist hsub, T.sn.sublist hsub, fun p hp => T.si p (hsub.subset hp), fun p hp => T.se p (hsub.subset hp), ?_⟩
  exact T.su.sublist (sub_flat _ hsub)
theorem WebT.kind_on (T : WebT ks ts hs ss) {z : Str} (hz : KW.nam z.cps.toList = true ∧ z.length ≤ 1000) : WebT (z :: ks.drop 1) ts hs ss := by
  have hl : (z :: ks.drop 1).length = ks.length := by
    rw [List.length_cons, List.length_drop]
    have := T.len
    omega
  refine ⟨by rw [hl]; exact T.len, fun y hy => ?_, by rw [hl]; exact T.tb, T.tsd, T.tn, T.tl, T.deg, by rw [hl]; exact T.tie, T.hsd, T.hn, by rw [hl]; exact T.hb, T.hd, T.ssd, T.sn, T.si, T.se, T.su⟩
  rcases List.mem_cons.mp hy with rfl | hy
  · exact hz
  · exact T.nam y (List.mem_of_mem_drop hy)
end
end KW
namespace KX
open PySem PySem.Spec PyProof.Rows L2 Evl KR
/-! ### o.m(k = e, ..): keywords alone -/
def tMethK (C : Addr) (m : Str) (n : Nat) (sp : Sp) (gV : List V → List V → List V) (E : XK) (ta : TE) (tk : TA) : TE := fun σ H Q => ta σ H fun x H1 => ∃ a dx fs, x = .ref a ∧ H1 a = some (.ins C dx fs) ∧ fs.lookup m = none ∧ tk σ H1 fun zs H2 => zs.length = n ∧ sp (gV [x] zs) H2 Q E
section
variable {X : Cx} {CX : CXT} {k : Nat} {f C : Addr} {fd : FuncData} {ps ks : List Str} {sp : Sp} {E : XK} {m : Str} {pos apos : Pos} {o : Expr} {kws : List Keyword} {ta : TE} {tk : TA} {g : List Value → List Value → List Value} {gV : List V → List V → List V}
theorem pe_methK {pl : Sem Bool} (he : PE X o ta) (c : Cls X.K C) (hm : Meth X.K C m f) (F : FnOk X.prog X.w X.K X.mg X.base CX k f fd ps sp) (hr : Room k X.A) (hb : KBn X.K fd ps 1 ks g gV) (hx : Passes CX X E) (hkw : PK X kws tk)
    (hall : (backToKw pos (keywordEach kws X.env)).all (·.1.isSome) = true := by rfl) (hks : (backToKw pos (keywordEach kws X.env)).filterMap (·.1) = ks := by rfl)
    (hpl : ((backTo pos (starEach [] X.env)).any (·.1) || (backToKw pos (keywordEach kws X.env)).any (·.1.isNone)) = false := by rfl)
    (ht : eval (.Call (.Attribute o m apos) [] kws pos) X.env = (do
      let ov ← eval o X.env
      standAt apos.atName
      let (f, first) ← holding [ov] (getMethod ov m pl)
      callWith pos f first (backTo pos (starEach [] X.env)) (backToKw pos (keywordEach kws X.env))) := by rfl) :
    PE X (.Call (.Attribute o m apos) [] kws pos) (tMethK C m ks.length sp gV E ta tk) := by
  refine ⟨fun pins s σ H Q I h => ?_⟩
  refine PySem.W.methodCall_KW (pl := pl) (thn (he.run pins s σ H _ I h) fun u s1 ⟨x, H1, I1, rx, a, dx, fs, ex, ea, l, q⟩ => ?_) ht
  subst ex
  obtain rfl : u = Value.ref a := rx
  refine getmeth_ok I1 ea c hm l ?_
  refine PySem.W.callWith_KW0 (first := [.ref a]) (h₀ := X.base) I.ok.mod.kin hm.kp hall ?_ hpl
  refine thn (hkw.run pos pins s1 σ H1 _ I1 q) fun ws s2 ⟨zs, H2, I2, rz, l2, q2⟩ => ⟨I2.kIn, ?_⟩
  rw [hks]
  exact run_fnN (us := [.ref a]) (vs := [.ref a]) F hr hb hx I2 (.cons rfl .nil) rz rfl l2 q2
end
end KX
namespace KW
open PySem PySem.Spec PyProof.Rows L2 KR KS KX Evl StX
/-! ### _law_made_right -/
theorem passF {X : Cx} {P : Program} {w : World} : Passes (L2.CX P w) X (fun _ _ _ => False) := fun pins σ H s e s' I h => by
  obtain ⟨_, _, _, _, _, _, _, _, _, _, _, _, _, z⟩ := h
section
variable {P : Program} {w : World} {K : PySem.W.Frag} {mg : Str → Option Value} {base : Heap}
/-- the class Web with all its defs, at level n -/
structure WebY (S : Es P w K mg base) (n : Nat) extends WebM P w K mg base where
  fI : Addr
  fdI : FuncData
  M : Mk K C fI
  FI : FnOk P w K mg base (L2.CX P w) n fI fdI nInit (spInit S C)
  bI : L2.Binds K fdI nInit []
  dD : List V
  dV : List Value
  bD : L2.Binds K fdI nInit dV
  vD : Vals dD dV
  two : ∃ a b, dD = [a, b]
  kI : KBn K fdI nInit 1 ["stiff", "hubs", "ties", "kinds"] (fun us ws => us ++ ws.reverse) (fun vs zs => vs ++ zs.reverse)
  fE : Addr
  fdE : FuncData
  atE : PySem.W.findIn K (.ref C) "__eq__" = some (some (.ref fE))
  fnE : PySem.W.isFn K (.ref fE) = true
  bE : L2.Binds K fdE ["self", "other"] []
  FE : FnOk P w K mg base CX0 1 fE fdE ["self", "other"] (spEqW C)
  ne : PySem.W.findIn K (.ref C) "__ne__" = some (some (.builtin "object.__ne__"))
  ob : PySem.W.subIn K (.ref C) (.type "object") = some true
  Z : WebE K C
theorem m_op {C : Addr} {sp : Sp} {dvs : List V} {E : XK} {t : TA} {σ : L2.St} {H : Hp} {Q : VK} (h : t σ H fun vs H1 => ∀ x dx, H1 x = none → H1 dx = none → dx ≠ x → sp (.ref x :: (vs ++ dvs)) (upd (upd H1 dx (.own x)) x (.ins C dx [])) (fun v H2 => v = .non ∧ Q (.ref x) H2) E) : tMake C sp dvs E t σ H Q := h
theorem wx {σ : L2.St} {H : Hp} {b : Addr} {xs : List V} {v : V} {j : Nat} {Q : VK} (h1 : σ[1]? = some (some (.ref b))) (hb : H b = some (.lst xs)) (hv : xs[j]? = some v) (q : Q v H) : tOp (rIx K) (tVar 1) (tC (.int (j : Int))) σ H Q :=
  op_op (v_op h1 (k_op (.inl ⟨b, xs, (j : Int), v, rfl, rfl, sq_of hb, atI_nat hv, q⟩)))
theorem ints_of {hs : List Int} {ys : List V} (h : ys.Perm (hs.map V.int)) : ∃ is : List Int, ys = is.map V.int ∧ is.Perm hs := by
  refine ⟨ys.map vz, ?_, ?_⟩
  · rw [List.map_map]
    conv => lhs; rw [← List.map_id ys]
    refine List.map_congr_left fun y hy => ?_
    obtain ⟨i, _, rfl⟩ := List.mem_map.mp (h.mem_iff.mp hy)
    rfl
  · have := h.map vz
    rw [vz_map] at this
    exact this
theorem _root_.KW.WebH.updL {C : Addr} {H : Hp} {a L : Addr} {d : WebD} {xs : List V} {o : HO} (h : WebH C H a d) (hL : H L = some (.lst xs)) : WebH C (upd H L o) a d := by
  obtain ⟨k, w, dx, ha, hi⟩ := h
  have et : ExT H (upd H L o) := ExT.lst hL
  exact ⟨k, w, dx, by rw [upd_ne (fun z => by rw [z, hL] at ha; cases ha)]; exact ha, ⟨hi.k.upT et, et _ _ hi.t, et _ _ hi.n, hi.h.upT et, hi.s.upT et, hi.m.upT et, prs_upT et hi.pt, tups_upT et hi.pn, prs_upT et hi.ps⟩⟩
theorem eqv_four (a b c d a' b' c' d' : PyData) : PyData.eqv (.tuple [a, b, c, d]) (.tuple [a', b', c', d']) = (PyData.eqv a a' && (PyData.eqv b b' && (PyData.eqv c c' && (PyData.eqv d d' && true)))) := by
  rw [PyData.eqv, PyData.eqvAll, PyData.eqvAll, PyData.eqvAll, PyData.eqvAll, PyData.eqvAll]
theorem pa_app {α β : Type} {F : α → β → Prop} : ∀ {xs : List α} {ys : List β} {us : List α} {vs : List β}, Paired F xs ys → Paired F us vs → Paired F (xs ++ us) (ys ++ vs)
  | _, _, _, _, .nil, h => h
  | _, _, _, _, .cons a b, h => .cons a (pa_app b h)
theorem eqvAll_self : ∀ l : List PyData, (∀ d ∈ l, PyData.eqv d d = true) → PyData.eqvAll l l = true
  | [], _ => by rw [PyData.eqvAll]
  | d :: l, h => by rw [PyData.eqvAll, h d List.mem_cons_self, eqvAll_self l fun e he => h e (List.mem_cons_of_mem _ he)]; rfl
theorem eqv_app (hs : List Int) (ss : List (Int × Int)) : PyData.eqv (.tuple (hs.map PyData.int ++ ss.map pqD)) (.tuple (hs.map PyData.int ++ ss.map pqD)) = true := by
  rw [PyData.eqv]
  refine eqvAll_self _ fun d hd => ?_
  rcases List.mem_append.mp hd with hd | hd
  · obtain ⟨i, _, rfl⟩ := List.mem_map.mp hd
    rw [eqv_int]; exact decide_eq_true rfl
  · obtain ⟨i, _, rfl⟩ := List.mem_map.mp hd
    rw [eqv_pair]; exact decide_eq_true rfl
theorem mk_op {C : Addr} {n m : Nat} {sp : Sp} {gV : List V → List V → List V} {E : XK} {t tk : TA} {σ : L2.St} {H : Hp} {Q : VK} (h : t σ H fun vs H1 => tk σ H1 fun zs H2 => vs.length = n ∧ zs.length = m ∧ ∀ x dx, H2 x = none → H2 dx = none → dx ≠ x → sp (gV (.ref x :: vs) zs) (upd (upd H2 dx (.own x)) x (.ins C dx [])) (fun v H3 => v = .non ∧ Q (.ref x) H3) E) : tMakeK C n m sp gV E t tk σ H Q := h
theorem eqW_self (d : WebD) : eqW d d = true := by
  unfold eqW
  rw [decide_eq_true rfl, decide_eq_true rfl, decide_eq_true rfl, decide_eq_true rfl]
  rfl
theorem me_op {C : Addr} {m : Str} {n : Nat} {sp : Sp} {gV : List V → List V → List V} {E : XK} {ta : TE} {tk : TA} {σ : L2.St} {H : Hp} {Q : VK} (h : ta σ H fun x H1 => ∃ a dx fs, x = .ref a ∧ H1 a = some (.ins C dx fs) ∧ fs.lookup m = none ∧ tk σ H1 fun zs H2 => zs.length = n ∧ sp (gV [x] zs) H2 Q E) : tMethK C m n sp gV E ta tk σ H Q := h
end
end KW
namespace KW
open PySem PySem.Spec PyProof.Rows L2 KR KS KX Evl StX
section
variable {P : Program} {w : World} {K : PySem.W.Frag} {mg : Str → Option Value} {base : Heap}
/-- what a comprehension over J asks -/
def LJ (J : It) (g : TG) (tt : TT) (te : TE) (vs : List Nat) (σ : L2.St) (Q : VK) (H1 : Hp) : Prop := ∀ D, H1 D = none → ∃ W : Nat → Nat → Hp → Prop, (∃ m, W 0 m (upd H1 D (.lst []))) ∧ ∀ i m H, W i m H →
  (J.stop i H ∧ Q (.ref D) H) ∨ (J.go i H ∧ ∃ Nx : Hp → Prop, (∀ H', Nx H' → ∃ m', m' < m ∧ W (i + 1) m' H') ∧ ∀ x H', J.yld i H x H' → g x (wipe σ vs) H' fun σ2 H2 => wipe σ2 vs = wipe σ vs ∧ tt σ2 H2 fun b H3 =>
    if b = true then te σ2 H3 fun y H4 => ∃ acc, H4 D = some (.lst acc) ∧ acc.length < sizeLine ∧ Nx (upd H4 D (.lst (acc ++ [y]))) else Nx H3)
theorem lcS {t0 : TE} {g : TG} {tt : TT} {te : TE} {vs : List Nat} {σ : L2.St} {H : Hp} {Q : VK} (h : t0 σ H fun x H1 => ∃ a, x = .ref a ∧ ((∃ xs, SqL K H1 a xs ∧ LJ (Itl K a) g tt te vs σ Q H1) ∨ ∃ xs, SqT K H1 a xs ∧ LJ (Itt K a) g tt te vs σ Q H1)) : tLc (iSeq K t0) g tt te vs σ H Q := h
theorem lj_cw {a : Addr} {xs : List V} {t : TT} {te : TE} {j : Nat} {vs : List Nat} {σ : L2.St} {Q : VK} {H1 : Hp} (f : Nat → Bool) (v : Nat → V) (hx : H1 a = some (.lst xs)) (hz : xs.length ≤ 40000) (hw : ∀ x, wipe ((wipe σ vs).set j (some x)) vs = wipe σ vs)
    (ht : ∀ (i : Nat) (x : V) H2, Ex H1 H2 → xs[i]? = some x → EvT t ((wipe σ vs).set j (some x)) H2 (f i)) (he : ∀ (i : Nat) (x : V) H2, Ex H1 H2 → xs[i]? = some x → f i = true → Ev te ((wipe σ vs).set j (some x)) H2 (v i))
    (q : ∀ D H2, H1 D = none → Ex H1 H2 → H2 D = some (.lst (given xs.length f v)) → Q (.ref D) H2) : LJ (Itl K a) (gName j) t te vs σ Q H1 := fun D hD =>
  lc_it walk_list (Cw H1 f v D) ⟨hD, Ex.new hD, upd_same⟩ (fun i H' _ p => sq_of (p.2.1 _ _ hx)) (fun i x H' H'' hi p ⟨e2, hi2⟩ => by
    subst e2
    exact ⟨hw x, cw_turn p (by have := (List.getElem?_eq_some_iff.mp hi2).1; omega) (ht i x H1 (Ex.refl H1) hi2) (he i x H1 (Ex.refl H1) hi2)⟩) (fun H' p => q D H' hD p.2.1 p.2.2)
theorem gd_rows {H : Hp} : ∀ {zs : List V} {L : List (List Int)}, Paired (TupR H) zs L → Paired (fun v d => KX.GD K H v d 1) zs (L.map fun c => PyData.tuple (c.map PyData.int))
  | _, _, .nil => .nil
  | _, _, .cons a b => by
    obtain ⟨t, rfl, ht⟩ := a
    exact .cons (KX.GD.tup (n := 0) (st_of ht) (gd_ints _)) (gd_rows b)
theorem rows_up {H H' : Hp} (e : Ex H H') {zs : List V} {L : List (List Int)} (h : Paired (TupR H) zs L) : Paired (TupR H') zs L := L2.Paired.mapP h fun _ _ r => r.up e
theorem rows_ob {H : Hp} {zs : List V} {L : List (List Int)} (h : Paired (Ob TupG H) zs L) : Paired (TupR H) zs L := L2.Paired.mapP h fun _ _ r => tupR_of r
theorem eqv_rows (L M : List (List Int)) : PyData.eqv (.tuple (L.map fun c => PyData.tuple (c.map PyData.int))) (.tuple (M.map fun c => PyData.tuple (c.map PyData.int))) = decide (L = M) := eqv_tmap (fun c : List Int => PyData.tuple (c.map PyData.int)) (fun a b => eqv_tmap _ eqv_int a b) L M
theorem mt_op {C : Addr} {m : Str} {sp : Sp} {dvs : List V} {E : XK} {ta : TE} {t : TA} {σ : L2.St} {H : Hp} {Q : VK} (h : ta σ H fun x H1 => ∃ a dx fs, x = .ref a ∧ H1 a = some (.ins C dx fs) ∧ fs.lookup m = none ∧ t σ H1 fun vs H2 => sp (x :: (vs ++ dvs)) H2 Q E) : tMeth C m sp dvs E ta t σ H Q := h
theorem cut_drop {α : Type} (f : α → V) (l : List α) : cutV (l.map f) (some 1) none = (l.drop 1).map f := by
  unfold cutV
  rw [List.length_map, ← List.map_drop, ← List.map_take]
  congr 1
  cases l with
  | nil => rfl
  | cons a l =>
    have e1 : HT.sIx (a :: l).length 0 (some 1) = 1 := by
      unfold HT.sIx
      simp
    have e2 : HT.sIx (a :: l).length (a :: l).length none = (a :: l).length := rfl
    rw [e1, e2]
    show ((a :: l).drop 1).take _ = _
    rw [List.take_of_length_le]
    rw [List.length_drop]
    exact Nat.le_refl _
theorem pair_drop {α β : Type} {F : α → β → Prop} : ∀ (n : Nat) {xs : List α} {ys : List β}, Paired F xs ys → Paired F (xs.drop n) (ys.drop n)
  | 0, _, _, h => h
  | _ + 1, _, _, .nil => .nil
  | n + 1, _, _, .cons _ h => pair_drop n h
/-- what is passed makes the web e -/
def Mks (e : WebD) (H : Hp) (vs : List V) : Prop := ∃ (vk vt vh vz : V) (dk dt dh ds : Va) (ks : List Str) (ts : List (Int × Int)) (hs : List Int) (ss : List (Int × Int)), vs = [vk, vt, vh, vz] ∧ WebT ks ts hs ss ∧ e = webT ks ts hs ss ∧ ArgK H vk dk ks ∧ ArgP H vt dt ts ∧ ArgI H vh dh hs ∧ ArgP H vz ds ss
theorem mk_web {S : Es P w K mg base} {C : Addr} {t : TA} {σ : L2.St} {H : Hp} {Q : VK} {e : WebD} {E : XK} (ht : ∀ Q2 : List V → Hp → Prop, (∀ vs H2, Ex H H2 → Mks e H2 vs → Q2 vs H2) → t σ H Q2) (q : ∀ a H2, Ex H H2 → WebH C H2 a e → Q (.ref a) H2) : tMake C (spInit S C) [] E t σ H Q :=
  m_op (ht _ fun vs H1 e1 m x dx hx hdx _ => by
    obtain ⟨vk, vt, vh, vz, dk, dt, dh, ds, ks, ts, hs, ss, rfl, T, rfl, ak, at_, ah, as⟩ := m
    exact make_ok T hx hdx ak at_ ah as fun H2 e2 hW => q x H2 (e1.trans e2) hW)
theorem eq_make {S : Es P w K mg base} {X : Cx} {n : Nat} {Y : WebY S n} {t : TA} {σ : L2.St} {H : Hp} {x : Addr} {d e : WebD} {Q : Bool → Hp → Prop} {E : XK} (h6 : σ[6]? = some (some (.ref x))) (hW : WebH Y.C H x d) (ht : ∀ Q2 : List V → Hp → Prop, (∀ vs H2, Ex H H2 → Mks e H2 vs → Q2 vs H2) → t σ H Q2) (q : ∀ H2, Ex H H2 → Q (eqW d e) H2) :
    tTest (tOp (rEqO Y.C X (spEqW Y.C) E0) (tVar 6) (tMake Y.C (spInit S Y.C) [] E t)) σ H Q :=
  op_test (op_op (v_op h6 (mk_web ht fun x2 H2 e2 hW2 => by
    obtain ⟨_, wA, dxA, ha, _⟩ := id hW
    obtain ⟨_, w2, dx3, hx3, _⟩ := id hW2
    exact ⟨x, dxA, _, rfl, e2 _ _ ha, right_ins hx3, x, _, x2, rfl, hW.up e2, .inl ⟨_, hW2, fun H7 e7 => ⟨_, rfl, _, rfl, q H7 (e2.trans e7)⟩⟩⟩)))
theorem ne_make {S : Es P w K mg base} {X : Cx} {n : Nat} {Y : WebY S n} {t : TA} {σ : L2.St} {H : Hp} {x : Addr} {d e : WebD} {Q : VK} {E : XK} (h6 : σ[6]? = some (some (.ref x))) (hW : WebH Y.C H x d) (ht : ∀ Q2 : List V → Hp → Prop, (∀ vs H2, Ex H H2 → Mks e H2 vs → Q2 vs H2) → t σ H Q2) (q : ∀ H2, Ex H H2 → Q (.bl (!eqW d e)) H2) :
    tOp (rNeO Y.C X (spEqW Y.C) E0) (tVar 6) (tMake Y.C (spInit S Y.C) [] E t) σ H Q :=
  op_op (v_op h6 (mk_web ht fun x2 H2 e2 hW2 => by
    obtain ⟨_, wA, dxA, ha, _⟩ := id hW
    obtain ⟨_, w2, dx3, hx3, _⟩ := id hW2
    exact ⟨x, dxA, _, rfl, e2 _ _ ha, right_ins hx3, x, _, x2, rfl, hW.up e2, .inl ⟨_, hW2, fun H7 e7 => ⟨_, rfl, q H7 (e2.trans e7)⟩⟩⟩))
theorem eqv_nil (ds : List PyData) : PyData.eqv (.list ds) (.list []) = ds.isEmpty := by
  cases ds <;> simp [PyData.eqv, PyData.eqvAll]
theorem ne_nil {σ : L2.St} {H : Hp} {b l : Addr} {xs ys : List V} {ds : List PyData} {j : Nat} {Q : Bool → Hp → Prop} (h1 : σ[1]? = some (some (.ref b))) (hb : H b = some (.lst xs)) (hv : xs[j]? = some (.ref l)) (hl : H l = some (.lst ys)) (hg : ∀ H2, Ex H H2 → Paired (fun v d => KX.GD K H2 v d 1) ys ds) (q : ∀ H2, Ex H H2 → Q (!ds.isEmpty) H2) :
    tTest (tOp (rNeD K) (tOp (rIx K) (tVar 1) (tC (.int (j : Int)))) (tLst tNil)) σ H Q :=
  op_test (op_op (wx h1 hb hv (l_op (n_op ⟨Nat.zero_le _, fun e0 he0 => ne_gd (KX.GD.lst (n := 1) (sq_of ((Ex.new he0) _ _ hl)) (hg _ (Ex.new he0))) (KX.GD.lst (n := 1) (sq_of upd_same) .nil) ⟨_, rfl, by
    rw [eqv_nil]
    exact q _ (Ex.new he0)⟩⟩))))
theorem sl_op {σ : L2.St} {H : Hp} {b l : Addr} {xs ys : List V} {j : Nat} {Q : VK} (h1 : σ[1]? = some (some (.ref b))) (hb : H b = some (.lst xs)) (hv : xs[j]? = some (.ref l)) (hl : H l = some (.lst ys)) (q : ∀ p H2, H p = none → Ex H H2 → H2 p = some (.lst (cutV ys (some 1) none)) → Q (.ref p) H2) :
    tSl (rSlL K) (tOp (rIx K) (tVar 1) (tC (.int (j : Int)))) (tPart (tC (.int 1))) tNoPart σ H Q :=
  wx h1 hb hv ⟨1, rfl, l, _, rfl, sq_of hl, fun p hp => q p _ hp (Ex.new hp) upd_same⟩
end
end KW
namespace KW
open PySem PySem.Spec PyProof.Rows L2 KR KS KX Evl StX LamX
/-! ### all but the tables stays -/
def Keepy : HO → Prop := fun o => ∀ ps, o ≠ .tbl ps
theorem kp_lst (xs : List V) : Keepy (.lst xs) := fun _ z => by cases z
theorem kp_tup (xs : List V) : Keepy (.tup xs) := fun _ z => by cases z
theorem kp_dk (xs : List (Key × V)) : Keepy (.dK xs) := fun _ z => by cases z
theorem kp_ins (C dx : Addr) (fs : List (Str × V)) : Keepy (.ins C dx fs) := fun _ z => by cases z
section
variable {H H' : Hp} (e : ExtN H H')
include e
theorem xl {a : Addr} {xs : List V} (h : H a = some (.lst xs)) : H' a = some (.lst xs) := e _ _ h (kp_lst _)
theorem xt {a : Addr} {xs : List V} (h : H a = some (.tup xs)) : H' a = some (.tup xs) := e _ _ h (kp_tup _)
theorem Pen.upN {p l : Addr} {ns : List Int} {n : Int} (h : Pen H p l ns n) : Pen H' p l ns n := let ⟨t, r, a, b, c⟩ := h.at_; ⟨⟨t, r, xl e a, b, c⟩, xl e h.ls, h.ne, h.few⟩
theorem prs_upN {ys : List V} {ps : List (Int × Int)} (h : Paired (PrR H) ys ps) : Paired (PrR H') ys ps := L2.Paired.mapP h fun _ _ ⟨t, x, y⟩ => ⟨t, x, xt e y⟩
theorem WL.upN {p b kA tA hA sA : Addr} {tys sys : List V} {ks : List Str} {ts : List (Int × Int)} {hs : List Int} {ss : List (Int × Int)} (h : WL H p b kA tA hA sA tys sys ks ts hs ss) : WL H' p b kA tA hA sA tys sys ks ts hs ss :=
  ⟨xl e h.hb, xl e h.hk, xl e h.ht, xl e h.hh, xl e h.hz, prs_upN e h.pt, prs_upN e h.ps, h.ne, h.T, h.kd⟩
theorem _root_.KX.TF.upN {a : Addr} {xs : List V} (h : TF H a xs) : TF H' a xs := let ⟨o, x, y⟩ := h; ⟨o, e _ _ x (fun _ z => by cases z), y⟩
theorem _root_.KX.TX.upN {a : Addr} {xs : List V} (h : TX H a xs) : TX H' a xs := h.elim (fun h => .inl (xt e h)) fun h => .inr (h.upN e)
theorem WebH.upN {C a : Addr} {d : WebD} (h : WebH C H a d) : WebH C H' a d := by
  obtain ⟨k, w, dx, ha, hi⟩ := h
  exact ⟨k, w, dx, e _ _ ha (kp_ins _ _ _), ⟨hi.k.upN e, xt e hi.t, xt e hi.n, hi.h.upN e, hi.s.upN e, hi.m.upN e, prs_upN e hi.pt, L2.Paired.mapP hi.pn fun _ _ ⟨t, x, y⟩ => ⟨t, x, xt e y⟩, prs_upN e hi.ps⟩⟩
mutual
theorem Rv.upN : ∀ {d : Va} {v : V}, Rv H v d → Rv H' v d
  | .non, _, .non => .non
  | .bl _, _, .bl b => .bl b
  | .int _, _, .int i => .int i
  | .str _, _, .str z h => .str z h
  | .lst _, _, .lst h r k => .lst (xl e h) (RvA.upN r) k
  | .tup _, _, .tup h r k => .tup (h.upN e) (RvA.upN r) k
  | .dic, _, .dic h => .dic (e _ _ h (kp_dk _))
theorem RvA.upN : ∀ {ds : List Va} {vs : List V}, RvA H vs ds → RvA H' vs ds
  | [], _, .nil => .nil
  | _ :: _, _, .cons a b => .cons (Rv.upN a) (RvA.upN b)
end
theorem HrdR.upN {xs : List V} : ∀ {r : Er}, HrdR H xs r → HrdR H' xs r
  | .web _, h => h
  | .body _, h => h
  | .lot _, h => h
  | .piece _, h => h
  | .mark _, ⟨v, a, b⟩ => ⟨v, a.upN e, b⟩
  | .tie _, h => h
  | .twice _, ⟨v, a, b⟩ => ⟨v, a.upN e, b⟩
  | .many _ _, h => h
end
/-! ### what is heard, as data -/
def vaD : Va → PyData
  | .non => .none
  | .bl b => .bool b
  | .int i => .int i
  | .str z => .str z
  | .lst l => .list (vaDs l)
  | .tup l => .tuple (vaDs l)
  | .dic => .none
where vaDs : List Va → List PyData
  | [] => []
  | a :: l => vaD a :: vaDs l
structure GV (n : Nat) (x : Va) : Prop where
  gd : ∀ (K : PySem.W.Frag) (H : Hp) (v : V), Rv H v x → KX.GD K H v (vaD x) n
  sf : PyData.eqv (vaD x) (vaD x) = true
theorem GV.mono {n m : Nat} {x : Va} (h : GV n x) (k : n ≤ m) : GV m x := ⟨fun K H v r => (h.gd K H v r).mono k, h.sf⟩
theorem GV.non {n : Nat} : GV n .non := ⟨fun K H v r => by cases r; exact KX.GD.non, by simp [vaD, PyData.eqv]⟩
theorem GV.bl {n : Nat} (b : Bool) : GV n (.bl b) := ⟨fun K H v r => by cases r; exact KX.GD.bl b, by cases b <;> simp [vaD, PyData.eqv]⟩
theorem GV.int {n : Nat} (i : Int) : GV n (.int i) := ⟨fun K H v r => by cases r; exact KX.GD.int i, by show PyData.eqv (.int i) (.int i) = true; rw [eqv_int]; exact decide_eq_true rfl⟩
theorem GV.str {n : Nat} {z : Str} (h : (PyData.str z).canLay0 = true) : GV n (.str z) := ⟨fun K H v r => by cases r; exact KX.GD.str h, by show PyData.eqv (.str z) (.str z) = true; rw [eqv_str]; exact decide_eq_true rfl⟩
theorem gv_all {K : PySem.W.Frag} {H : Hp} {n : Nat} : ∀ {l : List Va} {xs : List V}, RvA H xs l → (∀ y ∈ l, GV n y) → Paired (fun v d => KX.GD K H v d n) xs (vaD.vaDs l)
  | [], _, .nil, _ => .nil
  | y :: l, _, .cons a b, h => .cons ((h y List.mem_cons_self).gd K H _ a) (gv_all b fun z hz => h z (List.mem_cons_of_mem _ hz))
theorem gv_self {n : Nat} : ∀ {l : List Va}, (∀ y ∈ l, GV n y) → PyData.eqvAll (vaD.vaDs l) (vaD.vaDs l) = true
  | [], _ => by simp [vaD.vaDs, PyData.eqvAll]
  | y :: l, h => by
    show PyData.eqvAll (vaD y :: vaD.vaDs l) (vaD y :: vaD.vaDs l) = true
    rw [PyData.eqvAll, (h y List.mem_cons_self).sf, gv_self fun z hz => h z (List.mem_cons_of_mem _ hz)]
    rfl
theorem GV.lst {n : Nat} {l : List Va} (h : ∀ y ∈ l, GV n y) : GV (n + 1) (.lst l) :=
  ⟨fun K H v r => by cases r with | lst a b _ => exact KX.GD.lst (sq_of a) (gv_all b h), by show PyData.eqv (.list (vaD.vaDs l)) (.list (vaD.vaDs l)) = true; rw [PyData.eqv]; exact gv_self h⟩
theorem GV.tup {n : Nat} {l : List Va} (h : ∀ y ∈ l, GV n y) : GV (n + 1) (.tup l) :=
  ⟨fun K H v r => by cases r with | tup a b _ => exact KX.GD.tup a.st (gv_all b h), by show PyData.eqv (.tuple (vaD.vaDs l)) (.tuple (vaD.vaDs l)) = true; rw [PyData.eqv]; exact gv_self h⟩
/-- what is told, or nothing -/
def hrdD : Option Er → PyData
  | none => .tuple []
  | some (.web p) => .tuple [.str "web", .str p]
  | some (.body p) => .tuple [.str "body", .str p]
  | some (.lot p) => .tuple [.str "lot", .str p]
  | some (.piece _) => .tuple [.str "other"]
  | some (.mark x) => .tuple [.str "mark", vaD x]
  | some (.tie _) => .tuple [.str "other"]
  | some (.twice x) => .tuple [.str "twice", vaD x]
  | some (.many _ _) => .tuple [.str "other"]
def OkR : Option Er → Prop
  | none => True
  | some (.web p) => (PyData.str p).canLay0 = true
  | some (.body p) => (PyData.str p).canLay0 = true
  | some (.lot p) => (PyData.str p).canLay0 = true
  | some (.piece _) => True
  | some (.mark x) => GV 2 x
  | some (.tie _) => True
  | some (.twice x) => GV 2 x
  | some (.many _ _) => True
def Hrd (H : Hp) (v : V) (r : Option Er) : Prop := ∃ p xs, v = .ref p ∧ H p = some (.tup xs) ∧ match r with
  | none => xs = []
  | some r => HrdR H xs r
theorem Hrd.upN {H H' : Hp} (e : ExtN H H') {v : V} {r : Option Er} (h : Hrd H v r) : Hrd H' v r := by
  obtain ⟨p, xs, a, b, c⟩ := h
  refine ⟨p, xs, a, xt e b, ?_⟩
  cases r with
  | none => exact c
  | some r => exact HrdR.upN e c
theorem str_lay : (PyData.str "web").canLay0 = true ∧ (PyData.str "body").canLay0 = true ∧ (PyData.str "lot").canLay0 = true ∧ (PyData.str "mark").canLay0 = true ∧ (PyData.str "twice").canLay0 = true ∧ (PyData.str "other").canLay0 = true := by decide +kernel
theorem Hrd.gd {K : PySem.W.Frag} {H : Hp} {v : V} {r : Option Er} (h : Hrd H v r) (k : OkR r) : KX.GD K H v (hrdD r) 3 := by
  obtain ⟨l1, l2, l3, l4, l5, l6⟩ := str_lay
  obtain ⟨p, xs, rfl, hp, c⟩ := h
  cases r with
  | none =>
    have c : xs = [] := c
    subst c
    exact (KX.GD.tup (n := 2) (st_of hp) .nil)
  | some r =>
    cases r with
    | web z =>
      have c : xs = _ := c
      subst c
      exact KX.GD.tup (n := 2) (st_of hp) (.cons (KX.GD.str l1) (.cons (KX.GD.str k) .nil))
    | body z =>
      have c : xs = _ := c
      subst c
      exact KX.GD.tup (n := 2) (st_of hp) (.cons (KX.GD.str l2) (.cons (KX.GD.str k) .nil))
    | lot z =>
      have c : xs = _ := c
      subst c
      exact KX.GD.tup (n := 2) (st_of hp) (.cons (KX.GD.str l3) (.cons (KX.GD.str k) .nil))
    | piece z =>
      have c : xs = _ := c
      subst c
      exact KX.GD.tup (n := 2) (st_of hp) (.cons (KX.GD.str l6) .nil)
    | mark x =>
      obtain ⟨v, rv, rfl⟩ := c
      exact KX.GD.tup (n := 2) (st_of hp) (.cons (KX.GD.str l4) (.cons (k.gd K H v rv) .nil))
    | tie z =>
      have c : xs = _ := c
      subst c
      exact KX.GD.tup (n := 2) (st_of hp) (.cons (KX.GD.str l6) .nil)
    | twice x =>
      obtain ⟨v, rv, rfl⟩ := c
      exact KX.GD.tup (n := 2) (st_of hp) (.cons (KX.GD.str l5) (.cons (k.gd K H v rv) .nil))
    | many z m =>
      have c : xs = _ := c
      subst c
      exact KX.GD.tup (n := 2) (st_of hp) (.cons (KX.GD.str l6) .nil)
theorem str_self (z : Str) : PyData.eqv (.str z) (.str z) = true := by rw [eqv_str]; exact decide_eq_true rfl
theorem hrd_self {r : Option Er} (k : OkR r) : PyData.eqv (hrdD r) (hrdD r) = true := by
  have two : ∀ a b : PyData, PyData.eqv a a = true → PyData.eqv b b = true → PyData.eqv (.tuple [a, b]) (.tuple [a, b]) = true := fun a b h1 h2 => by
    simp [PyData.eqv, PyData.eqvAll, h1, h2]
  have one : PyData.eqv (.tuple [.str "other"]) (.tuple [.str "other"]) = true := by simp [PyData.eqv, PyData.eqvAll, str_self]
  cases r with
  | none => simp [hrdD, PyData.eqv, PyData.eqvAll]
  | some r =>
    cases r with
    | web z => exact two _ _ (str_self _) (str_self _)
    | body z => exact two _ _ (str_self _) (str_self _)
    | lot z => exact two _ _ (str_self _) (str_self _)
    | piece z => exact one
    | mark z => exact two _ _ (str_self _) k.sf
    | tie z => exact one
    | twice z => exact two _ _ (str_self _) k.sf
    | many z m => exact one
theorem hrds_gd {K : PySem.W.Frag} {H : Hp} : ∀ {xs : List V} {rs : List (Option Er)}, Paired (Hrd H) xs rs → (∀ r ∈ rs, OkR r) → Paired (fun v d => KX.GD K H v d 3) xs (rs.map hrdD)
  | _, _, .nil, _ => .nil
  | _, _, .cons a b, h => .cons (a.gd (h _ List.mem_cons_self)) (hrds_gd b fun r hr => h r (List.mem_cons_of_mem _ hr))
theorem hrds_upN {H H' : Hp} (e : ExtN H H') {xs : List V} {rs : List (Option Er)} (h : Paired (Hrd H) xs rs) : Paired (Hrd H') xs rs := L2.Paired.mapP h fun _ _ r => r.upN e
/-- two lists of what is told -/
theorem eq_hrds {K : PySem.W.Frag} {H : Hp} {a b : Addr} {xs ys : List V} {rs : List (Option Er)} {Q : VK} (ha : H a = some (.lst xs)) (hb : H b = some (.lst ys)) (hx : Paired (Hrd H) xs rs) (hy : Paired (Hrd H) ys rs) (ok : ∀ r ∈ rs, OkR r) (q : Q (.bl true) H) : rEqD K (.ref a) (.ref b) H Q := by
  refine eq_gd (KX.GD.lst (n := 3) (sq_of ha) (hrds_gd hx ok)) (KX.GD.lst (n := 3) (sq_of hb) (hrds_gd hy ok)) ?_
  have : PyData.eqv (.list (rs.map hrdD)) (.list (rs.map hrdD)) = true := by
    rw [PyData.eqv]
    refine eqvAll_self _ fun d hd => ?_
    obtain ⟨r, hr, rfl⟩ := List.mem_map.mp hd
    exact hrd_self (ok r hr)
  rw [this]
  exact q
/-! ### _law_heard of a lambda -/
theorem lam_op {T : List (Addr × Str)} {TT : (XK → Hp → VK → Prop) → Hp → VK → Prop} {t : XK → TE} {σ : L2.St} {H : Hp} {Q : VK} (h : Tabs T H ∧ ∀ H1, ExtN H H1 → Tabs T H1 → TT (fun E H' Q' => t E σ H' Q') H1 Q) : tLam T TT t σ H Q := h
section
variable {P : Program} {w : World} {K : PySem.W.Frag} {mg : Str → Option Value} {base : Heap}
/-- it raises r -/
theorem hear {S : Es P w K mg base} {T : List (Addr × Str)} {t : XK → TE} {σ : L2.St} {H : Hp} {Q : VK} (hT : Tabs T H) (r : Er) (h : ∀ H1, ExtN H H1 → ∀ (E : XK) (Q' : VK), Rz S H1 E r → t E σ H1 Q') (q : ∀ v H2, ExtN H H2 → Tabs T H2 → Hrd H2 v (some r) → Q v H2) : tLam T (TTh S) t σ H Q :=
  lam_op ⟨hT, fun H1 e1 T1 p0 H2 e2 h0 => h H2 (e1.trans (ExtN.of e2)) _ _ fun d fs H3 e3 f g => ⟨r, d, fs, rfl, rfl, g, f, fun p xs H4 e4 h4 hr => q (.ref p) H4 (e1.trans (ExtN.of ((e2.trans e3).trans e4))) (T1.ext ((e2.trans e3).trans e4)) ⟨p, xs, rfl, h4, hr⟩⟩⟩
/-- it raises nothing -/
theorem hear0 {S : Es P w K mg base} {T : List (Addr × Str)} {t : XK → TE} {σ : L2.St} {H : Hp} {Q : VK} (hT : Tabs T H) (h : ∀ H1, ExtN H H1 → ∀ (E : XK) (Q' : VK), (∀ v H2, Ex H1 H2 → Q' v H2) → t E σ H1 Q') (q : ∀ v H2, ExtN H H2 → Tabs T H2 → Hrd H2 v none → Q v H2) : tLam T (TTh S) t σ H Q :=
  lam_op ⟨hT, fun H1 e1 T1 p0 H2 e2 h0 => h H2 (e1.trans (ExtN.of e2)) _ _ fun v H3 e3 => ⟨.ref p0, rfl, q (.ref p0) H3 (e1.trans (ExtN.of (e2.trans e3))) (T1.ext (e2.trans e3)) ⟨p0, [], rfl, e3 _ _ h0, rfl⟩⟩⟩
end
/-- _law_heard(lambda: body) -/
theorem pe_heard {X : Cx} {S : Es X.prog X.w X.K X.mg X.base} (HK : HrdK S) (B : Bu X.mg) (D : FnA X.K X.mg "_law_heard" sHd ["_law_ask"]) {T : List (Addr × Str)} {c Pt : Addr} {k : Nat} {params : Arguments} {body : Expr} {scope : Scope} {t : XK → TE} {p lpos pos : Pos}
    (hg : Gl X "_law_heard") (TB : TabB X.base X.mg c Pt) (hcode : X.env.code = .ref c) (hmT : (Pt, X.env.qual ++ "<lambda>") ∈ T) (hu : ∀ q ∈ T, q.1 = Pt → q.2 = X.env.qual ++ "<lambda>") (hr : Room (k + 2) X.A) (L : LamS X.env.scope scope) (hdef : defaultsOf params X.env = ([], []))
    (hbind : ∀ (q : Str) (cl : List (Str × Addr)) (pm cv ctv : Value), bindArgs (PySem.W.kla_fn "<lambda>" q params body scope cl pm cv ctv) ⟨[], []⟩ = pure [])
    (hbody : ∀ (A : Around) (outer : List Env) (s : Shared) (H : Hp) (E : XK) (f c' : Addr), Room k (A.deeper (lamEnv X scope s.heap.objs.size f c')) → PE (lamCx X A outer s H E scope f c') body (t E)) :
    PE X (.Call (.Name "_law_heard" p) [.Lambda params body scope lpos] [] pos) (tLam T (TTh S) t) := by
  obtain ⟨oc, od, dV, kV, doc, pm, an, cdv, ct, osl, hfd, lk, hcd, hD, hK⟩ := D.F.ex
  have hb := D.b
  rw [hfd] at lk hb
  exact pe_lamcall hg D.g D.F.kp lk hcd hb scHd rfl (.inl rfl) (heard_gives S HK B) TB hcode hmT hu hr L hdef hbind hbody
/-- a def whose code object is known -/
structure FnC (K : PySem.W.Frag) (mg : Str → Option Value) (base : Heap) (x : Str) (st : Stmt) (ps : List Str) extends FnA K mg x st ps where
  c : Addr
  Pt : Addr
  ex : ∃ (oc : Value) (od : Option Addr) (dV kV doc pm : Value) (an : Option Addr) (ct : Value) (osl : Array (Option Value)), fd = PySem.W.fnOf x x (defArgs st) (defBody st) (defScope st) dV kV doc pm an (.ref c) ct ∧ K.lookup f = some ⟨oc, od, .func fd, osl⟩ ∧ PySem.W.codeIn K (.ref c) x = true
  TB : TabB base mg c Pt
section
variable {P : Program} {w : World} {K : PySem.W.Frag} {mg : Str → Option Value} {base : Heap}
theorem ok0C {x : Str} {st : Stmt} {N ps qs : List Str} {k : Nat} {sp : Sp} (F : FnC K mg base x st qs) (S : FnScope N ps (defScope st)) (len : ∀ vs H Q E, sp vs H Q E → vs.length = ps.length)
    (hbody : ∀ (A : Around) (outer : List Env) (s : Shared) (H : Hp) (vs : List V) (Q : VK) (E : XK), Room k (A.deeper (envOfC x (defScope st) s.heap.objs.size F.f (.ref F.c))) → sp vs H Q E →
      ∃ t, PSs (cxOf CX0 P w K mg base N x (defScope st) F.f (.ref F.c) A outer s H E).nox (defBody st) t ∧ t { nx := fun _ H' => Q .non H', rt := Q } (start N vs) H) : FnOk P w K mg base CX0 (k + 1) F.f F.fd ps sp := by
  obtain ⟨oc, od, dV, kV, doc, pm, an, ct, osl, hfd, lk, hcd⟩ := F.ex
  rw [hfd] at lk ⊢
  exact fn_of lk hcd S len fun A outer s H vs Q E hr h => by
    obtain ⟨t, h1, h2⟩ := hbody A outer s H vs Q E hr h
    exact ⟨t, h1.nox, h2⟩
end
end KW
namespace KW
open PySem PySem.Spec PyProof.Rows L2 KR KS KX Evl StX LamX
/-! ### written values -/
def EvR (te : TE) (σ : L2.St) (H : Hp) (x : Va) : Prop := ∀ H1, Ex H H1 → ∀ Q : VK, (∀ v H2, Ex H1 H2 → Rv H2 v x → Q v H2) → te σ H1 Q
def EvRs (ta : TA) (σ : L2.St) (H : Hp) (xs : List Va) : Prop := ∀ H1, Ex H H1 → ∀ Q : List V → Hp → Prop, (∀ vs H2, Ex H1 H2 → RvA H2 vs xs → Q vs H2) → ta σ H1 Q
section
variable {σ : L2.St} {H : Hp}
theorem er_non : EvR (tC .non) σ H .non := fun H1 _ Q q => q _ H1 (Ex.refl H1) .non
theorem er_int (i : Int) : EvR (tC (.int i)) σ H (.int i) := fun H1 _ Q q => q _ H1 (Ex.refl H1) (.int i)
theorem er_bl (b : Bool) : EvR (tC (.bl b)) σ H (.bl b) := fun H1 _ Q q => q _ H1 (Ex.refl H1) (.bl b)
theorem er_str (z : Str) (h : z.length ≤ 1000 := by decide +kernel) : EvR (tC (.str z)) σ H (.str z) := fun H1 _ Q q => q _ H1 (Ex.refl H1) (.str z h)
theorem er_neg (i : Int) : EvR (tUn (rU fun i => .int (-i)) (tC (.int i))) σ H (.int (-i)) := fun H1 _ Q q => ⟨i, rfl, q _ H1 (Ex.refl H1) (.int (-i))⟩
theorem er_nil : EvRs tNil σ H [] := fun H1 _ Q q => q [] H1 (Ex.refl H1) .nil
theorem er_cons {te : TE} {ta : TA} {x : Va} {xs : List Va} (h : EvR te σ H x) (t : EvRs ta σ H xs) : EvRs (tCons te ta) σ H (x :: xs) := fun H1 e Q q =>
  a_op (h H1 e _ fun v H2 e2 rv => t H2 (e.trans e2) _ fun vs H3 e3 rs => q (v :: vs) H3 (e2.trans e3) (.cons (rv.up e3) rs))
theorem len_rva {H : Hp} {vs : List V} {xs : List Va} (h : RvA H vs xs) : vs.length = xs.length := Paired.length h.paired
theorem er_lst {ta : TA} {xs : List Va} (h : EvRs ta σ H xs) (hl : xs.length ≤ 1000 := by first | decide | simp) : EvR (tLst ta) σ H (.lst xs) := fun H1 e Q q =>
  l_op (h H1 e _ fun vs H2 e2 rs => ⟨by rw [len_rva rs]; exact Nat.le_of_lt (sz_lt (by omega)), fun p hp => q _ _ (e2.trans (Ex.new hp)) (.lst upd_same (RvA.up (Ex.new hp) rs) hl)⟩)
theorem er_tup {ta : TA} {xs : List Va} (h : EvRs ta σ H xs) (hl : xs.length ≤ 1000 := by first | decide | simp) : EvR (tTup ta) σ H (.tup xs) := fun H1 e Q q =>
  t_op (h H1 e _ fun vs H2 e2 rs => ⟨by rw [len_rva rs]; exact Nat.le_of_lt (sz_lt (by omega)), fun p hp => q _ _ (e2.trans (Ex.new hp)) (.tup (.inl upd_same) (RvA.up (Ex.new hp) rs) hl)⟩)
theorem er_var {i : Nat} {v : V} {x : Va} (hi : σ[i]? = some (some v)) (r : Rv H v x) : EvR (tVar i) σ H x := fun H1 e Q q => v_op hi (q v H1 (Ex.refl H1) (r.up e))
end
/-- no row like the pen -/
def rowP : List Va → Bool
  | [.lst _, .int _, .int _] => true
  | _ => false
def noPen : Va → Bool
  | .lst l => !rowP l && noPens l
  | .tup l => noPens l
  | _ => true
where noPens : List Va → Bool
  | [] => true
  | a :: l => noPen a && noPens l
mutual
theorem Rv.upPn {H H' : Hp} {p l : Addr} {ns : List Int} {n : Int} (hp : Pen H p l ns n) (e : ExP p H H') : ∀ {d : Va} {v : V}, Rv H v d → noPen d = true → Rv H' v d
  | .non, _, .non, _ => .non
  | .bl _, _, .bl b, _ => .bl b
  | .int _, _, .int i, _ => .int i
  | .str _, _, .str z h, _ => .str z h
  | .tup l, _, .tup h r k, hn => .tup (h.upT (ExT.pen hp e)) (RvA.upPn hp e r hn) k
  | .lst ds, _, .lst (a := a) h r k, hn => by
    have hn : (!rowP ds && noPen.noPens ds) = true := hn
    rw [Bool.and_eq_true] at hn
    refine .lst (e a _ (fun z => ?_) h) (RvA.upPn hp e r hn.2) k
    obtain ⟨t, rr, ha, _⟩ := hp.at_
    rw [z, ha] at h
    cases h
    have h1 := hn.1
    cases r with
    | cons r1 rs =>
      cases rs with
      | cons r2 rs2 =>
        cases rs2 with
        | cons r3 rs3 =>
          cases rs3
          cases r2
          cases r3
          cases r1 with
          | lst _ _ _ => cases h1
          | tup hh _ _ =>
            have := hp.ls
            rcases hh with hh | ⟨o, hh, _⟩
            · rw [this] at hh
              cases hh
            · rw [this] at hh
              cases hh
          | dic hh =>
            have := hp.ls
            rw [this] at hh
            cases hh
  | .dic, _, .dic (a := a) h, _ => .dic (e a _ (fun z => by
    obtain ⟨t, rr, ha, _⟩ := hp.at_
    rw [z, ha] at h
    cases h) h)
theorem RvA.upPn {H H' : Hp} {p l : Addr} {ns : List Int} {n : Int} (hp : Pen H p l ns n) (e : ExP p H H') : ∀ {ds : List Va} {vs : List V}, RvA H vs ds → noPen.noPens ds = true → RvA H' vs ds
  | [], _, .nil, _ => .nil
  | d :: ds, _, .cons a b, h => by
    have h : (noPen d && noPen.noPens ds) = true := h
    rw [Bool.and_eq_true] at h
    exact .cons (Rv.upPn hp e a h.1) (RvA.upPn hp e b h.2)
end
theorem rva_mem {H : Hp} : ∀ {vs : List V} {xs : List Va} {v : V}, RvA H vs xs → v ∈ vs → ∃ x ∈ xs, Rv H v x
  | _, _, v, .nil, h => absurd h List.not_mem_nil
  | _, _, v, .cons a b, h => by
    rcases List.mem_cons.mp h with rfl | h
    · exact ⟨_, List.mem_cons_self, a⟩
    · obtain ⟨x, hx, r⟩ := rva_mem b h
      exact ⟨x, List.mem_cons_of_mem _ hx, r⟩
theorem noPens_mem : ∀ {xs : List Va} {x : Va}, noPen.noPens xs = true → x ∈ xs → noPen x = true
  | a :: l, x, h, hx => by
    have h : (noPen a && noPen.noPens l) = true := h
    rw [Bool.and_eq_true] at h
    rcases List.mem_cons.mp hx with rfl | hx
    · exact h.1
    · exact noPens_mem h.2 hx
section
variable {K : PySem.W.Frag}
/-- one of the written values drawn -/
theorem pick_op {σ : L2.St} {H : Hp} {Q : VK} {p l : Addr} {ns : List Int} {n : Int} {ta : TA} {xs : List Va} (h0 : σ[0]? = some (some (.ref p))) (hp : Pen H p l ns n) (hn : n ≤ 100000) (hx : EvRs ta σ H xs) (hne : xs ≠ []) (hl : xs.length ≤ 1000) (np : noPen.noPens xs = true)
    (q : ∀ v x H2, x ∈ xs → ExP p H H2 → Pen H2 p l ns (n + 1) → Rv H2 v x → Q v H2) : tCall (spPick K) [] E0 (tCons (tVar 0) (tCons (tLst ta) tNil)) σ H Q :=
  c_op (a_op (v_op h0 (a_op (l_op (hx H (Ex.refl H) _ fun vs H2 e2 rs => ⟨by rw [len_rva rs]; exact Nat.le_of_lt (sz_lt (by omega)), fun S hS => by
    have e3 : Ex H2 (upd H2 S (.lst vs)) := Ex.new hS
    have hp3 := (hp.up e2).up e3
    have hvl := len_rva rs
    refine n_op ⟨p, S, l, ns, n, vs, rfl, hp3, hn, sq_of upd_same, (pen_ne (hp.up e2) hS).1, fun z => ?_, by omega, fun v H4 hv e4 hp4 => ?_⟩
    · rw [z] at hvl
      exact hne (List.eq_nil_of_length_eq_zero hvl.symm)
    · obtain ⟨x, hxm, r⟩ := rva_mem rs hv
      exact q v x H4 hxm ((Ex.p (e2.trans e3)).trans e4) hp4 ((r.up e3).upPn hp3 e4 (noPens_mem np hxm))⟩)))))
end
end KW
namespace KW
open PySem PySem.Spec PyProof.Rows L2 KR KS KX Evl StX LamX
theorem keepT (T : List (Addr × Str)) : Keep (Tabs T) := by
  refine ⟨fun H H' e h => h.ext e, fun p l ns n H H' hp e h q hq => ?_⟩
  obtain ⟨t, rr, ha, _⟩ := hp.at_
  obtain ⟨ps, a, b, c⟩ := h q hq
  refine ⟨ps, e _ _ (fun z => by rw [z, ha] at a; cases a) a, b, fun pos cv hc => ?_⟩
  obtain ⟨c0, e1, e2⟩ := c pos cv hc
  refine ⟨c0, e1, e _ _ (fun z => by rw [z, ha] at e2; unfold CodeO at e2; cases e2) e2⟩
theorem tabs_upd {T : List (Addr × Str)} {H : Hp} {L : Addr} {xs ys : List V} (h : Tabs T H) (hL : H L = some (.lst xs)) : Tabs T (upd H L (.lst ys)) := fun q hq => by
  obtain ⟨ps, a, b, c⟩ := h q hq
  refine ⟨ps, by rw [upd_ne (fun z => by rw [z, hL] at a; cases a)]; exact a, b, fun pos cv hc => ?_⟩
  obtain ⟨c0, e1, e2⟩ := c pos cv hc
  refine ⟨c0, e1, ?_⟩
  rw [upd_ne (fun z => by rw [z, hL] at e2; unfold CodeO at e2; cases e2)]
  exact e2
theorem extn_mut {H H' : Hp} {L : Addr} {o : HO} (e : ExtN H H') (h : ∀ o, H L = some o → ¬ Keepy o) : ExtN H (upd H' L o) := fun b u hb n => by
  rw [upd_ne (fun z => h u (by rw [← z]; exact hb) n)]
  exact e b u hb n
theorem _root_.KW.WebH.upP {C : Addr} {H H' : Hp} {p l a : Addr} {ns : List Int} {n : Int} {d : WebD} (h : WebH C H a d) (hp : Pen H p l ns n) (e : ExP p H H') : WebH C H' a d := by
  obtain ⟨k, w, dx, ha, hi⟩ := h
  have et := ExT.pen hp e
  obtain ⟨t, rr, hpp, _⟩ := hp.at_
  exact ⟨k, w, dx, e _ _ (fun z => by rw [z, hpp] at ha; cases ha) ha, ⟨hi.k.upT et, et _ _ hi.t, et _ _ hi.n, hi.h.upT et, hi.s.upT et, hi.m.upT et, prs_upT et hi.pt, tups_upT et hi.pn, prs_upT et hi.ps⟩⟩
theorem extn_p {p : Addr} {H H' : Hp} (e : ExtN H H') : ExN p H H' := fun a o _ k ha => e a o ha k
/-- no row of tuples in it -/
def rowT : List Va → Bool
  | .tup _ :: _ => true
  | _ => false
def noTup : Va → Bool
  | .lst l => !rowT l && noTups l
  | .tup l => noTups l
  | _ => true
where noTups : List Va → Bool
  | [] => true
  | a :: l => noTup a && noTups l
section
variable {H : Hp} {L t : Addr} {ys zs : List V} {o : HO} (hL : H L = some (.lst (.ref t :: ys))) (ht : H t = some (.tup zs))
include hL ht
mutual
theorem Rv.updT : ∀ {d : Va} {v : V}, Rv H v d → noTup d = true → Rv (upd H L o) v d
  | .non, _, .non, _ => .non
  | .bl _, _, .bl b, _ => .bl b
  | .int _, _, .int i, _ => .int i
  | .str _, _, .str z h, _ => .str z h
  | .tup l, _, .tup h r k, hn => .tup (h.upT (ExT.lst hL)) (RvA.updT r hn) k
  | .lst ds, _, .lst (a := a) h r k, hn => by
    have hn : (!rowT ds && noTup.noTups ds) = true := hn
    rw [Bool.and_eq_true] at hn
    refine .lst ?_ (RvA.updT r hn.2) k
    rw [upd_ne (fun z => ?_)]
    · exact h
    rw [z, hL] at h
    cases h
    have h1 := hn.1
    cases r with
    | cons r1 rs =>
      cases r1 with
      | lst hh _ _ => rw [ht] at hh; cases hh
      | tup _ _ _ => cases h1
      | dic hh => rw [ht] at hh; cases hh
  | .dic, _, .dic (a := a) h, _ => .dic (by rw [upd_ne (fun z => by rw [z, hL] at h; cases h)]; exact h)
theorem RvA.updT : ∀ {ds : List Va} {vs : List V}, RvA H vs ds → noTup.noTups ds = true → RvA (upd H L o) vs ds
  | [], _, .nil, _ => .nil
  | d :: ds, _, .cons a b, h => by
    have h : (noTup d && noTup.noTups ds) = true := h
    rw [Bool.and_eq_true] at h
    exact .cons (Rv.updT a h.1) (RvA.updT b h.2)
end
def okT : Option Er → Bool
  | some (.mark x) => noTup x
  | some (.twice x) => noTup x
  | _ => true
theorem Hrd.updT {v : V} {r : Option Er} (h : Hrd H v r) (k : okT r = true) : Hrd (upd H L o) v r := by
  obtain ⟨p, xs, rfl, hp, c⟩ := h
  refine ⟨p, xs, rfl, by rw [upd_ne (fun z => by rw [z, hL] at hp; cases hp)]; exact hp, ?_⟩
  cases r with
  | none => exact c
  | some r =>
    cases r with
    | web _ => exact c
    | body _ => exact c
    | lot _ => exact c
    | piece _ => exact c
    | mark x => obtain ⟨v, a, b⟩ := c; exact ⟨v, Rv.updT hL ht a k, b⟩
    | tie _ => exact c
    | twice x => obtain ⟨v, a, b⟩ := c; exact ⟨v, Rv.updT hL ht a k, b⟩
    | many _ _ => exact c
theorem hrds_updT : ∀ {xs : List V} {rs : List (Option Er)}, Paired (Hrd H) xs rs → (rs.all okT) = true → Paired (Hrd (upd H L o)) xs rs
  | _, _, .nil, _ => .nil
  | _, _, .cons a b, h => by
    rw [List.all_cons, Bool.and_eq_true] at h
    exact .cons (a.updT hL ht h.1) (hrds_updT b h.2)
end
/-! ### the list of what is heard -/
/-- what has been heard so far, from H0 on -/
structure Lis (T : List (Addr × Str)) (H0 : Hp) (L : Addr) (rs : List (Option Er)) (H : Hp) : Prop where
  e : ExtN H0 H
  n : ∀ o, H0 L = some o → ¬ Keepy o
  t : Tabs T H
  l : ∃ xs, H L = some (.lst xs) ∧ Paired (Hrd H) xs rs ∧ rs ≠ []
  k : rs.all okT = true
  m : rs.length ≤ 1000
section
variable {P : Program} {w : World} {K : PySem.W.Frag} {mg : Str → Option Value} {base : Heap}
/-- the first one -/
theorem lis_start {T : List (Addr × Str)} {H0 H1 : Hp} {v : V} {r : Option Er} {L : Addr} (e : ExtN H0 H1) (t : Tabs T H1) (h : Hrd H1 v r) (k : okT r = true) (hL : H1 L = none) : Lis T H0 L [r] (upd H1 L (.lst [v])) := by
  have en := ExtN.of (Ex.new (o := HO.lst [v]) hL)
  exact ⟨e.trans en, fun o ho k => (by rw [e _ _ ho k] at hL; cases hL), t.ext (Ex.new hL), ⟨[v], upd_same, .cons (h.upN en) .nil, List.cons_ne_nil _ _⟩, by rw [List.all_cons, k]; rfl, by show 1 ≤ 1000; decide⟩
/-- one more -/
theorem Lis.more {T : List (Addr × Str)} {H0 H1 H2 : Hp} {v : V} {r : Option Er} {rs : List (Option Er)} {L : Addr} (h : Lis T H0 L rs H1) (e : ExtN H1 H2) (t : Tabs T H2) (g : Hrd H2 v r) (k : okT r = true) (m : rs.length < 1000) :
    ∃ xs, H2 L = some (.lst xs) ∧ xs.length < sizeLine ∧ Lis T H0 L (rs ++ [r]) (upd H2 L (.lst (xs ++ [v]))) := by
  obtain ⟨xs, hx, hp, hne⟩ := h.l
  have hx2 := xl e hx
  have hp2 := hrds_upN e hp
  refine ⟨xs, hx2, sz_lt (by have := Paired.length hp; omega), extn_mut (h.e.trans e) h.n, h.n, tabs_upd t hx2, ⟨_, upd_same, ?_, by simp⟩, by rw [List.all_append, h.k, List.all_cons, k]; rfl, by rw [List.length_append]; show _ + 1 ≤ _; omega⟩
  cases hp2 with
  | nil => exact absurd rfl hne
  | cons a b =>
    obtain ⟨p1, ys, e1, h1, _⟩ := id a
    subst e1
    exact paired_snoc (hrds_updT hx2 h1 (.cons a b) h.k) (g.updT hx2 h1 k)
/-- the same, with the tuples that stay -/
theorem lis_apT {S : Es P w K mg base} {T : List (Addr × Str)} {t : XK → TE} {σ : L2.St} {H0 H : Hp} {rs : List (Option Er)} {L : Addr} {Q : VK} {j : Nat} (h : Lis T H0 L rs H) (r : Er) (hj : σ[j]? = some (some (.ref L))) (k : okT (some r) = true) (m : rs.length < 1000) (hr : ∀ H1, ExtN H H1 → ∀ (E : XK) (Q' : VK), Rz S H1 E r → t E σ H1 Q') (q : ∀ H2, ExT H H2 → Lis T H0 L (rs ++ [some r]) H2 → Q .non H2) :
    tBM K "list" rAppend (tVar j) (tCons (tLam T (TTh S) t) tNil) σ H Q := by
  obtain ⟨xs0, hx0, _, _⟩ := h.l
  refine ⟨.ref L, hj, .inl ⟨rfl, _, sq_of hx0⟩, a_op (hear h.t r hr fun v H2 e2 T2 h2 => n_op ?_)⟩
  obtain ⟨xs, hx, hl, hL⟩ := h.more e2 T2 h2 k m
  exact ⟨L, xs, v, rfl, rfl, hx, hl, q _ ((show ExT H H2 from ⟨fun b ys hb => xt e2 hb, fun b o u hb => e2 _ _ hb (fun _ z => by cases z)⟩).trans (ExT.lst hx)) hL⟩
/-- L.append(_law_heard(lambda: ..)) -/
theorem lis_ap {S : Es P w K mg base} {T : List (Addr × Str)} {t : XK → TE} {σ : L2.St} {H0 H : Hp} {rs : List (Option Er)} {L : Addr} {Q : VK} {j : Nat} (h : Lis T H0 L rs H) (r : Er) (hj : σ[j]? = some (some (.ref L))) (k : okT (some r) = true) (m : rs.length < 1000) (hr : ∀ H1, ExtN H H1 → ∀ (E : XK) (Q' : VK), Rz S H1 E r → t E σ H1 Q') (q : ∀ H2, Lis T H0 L (rs ++ [some r]) H2 → Q .non H2) :
    tBM K "list" rAppend (tVar j) (tCons (tLam T (TTh S) t) tNil) σ H Q := by
  obtain ⟨xs0, hx0, _, _⟩ := h.l
  refine ⟨.ref L, hj, .inl ⟨rfl, _, sq_of hx0⟩, a_op (hear h.t r hr fun v H2 e2 T2 h2 => n_op ?_)⟩
  obtain ⟨xs, hx, hl, hL⟩ := h.more e2 T2 h2 k m
  exact ⟨L, xs, v, rfl, rfl, hx, hl, q _ hL⟩
theorem lis_ap0 {S : Es P w K mg base} {T : List (Addr × Str)} {t : XK → TE} {σ : L2.St} {H0 H : Hp} {rs : List (Option Er)} {L : Addr} {Q : VK} {j : Nat} (h : Lis T H0 L rs H) (hj : σ[j]? = some (some (.ref L))) (m : rs.length < 1000) (hr : ∀ H1, ExtN H H1 → ∀ (E : XK) (Q' : VK), (∀ v H2, Ex H1 H2 → Q' v H2) → t E σ H1 Q') (q : ∀ H2, Lis T H0 L (rs ++ [none]) H2 → Q .non H2) :
    tBM K "list" rAppend (tVar j) (tCons (tLam T (TTh S) t) tNil) σ H Q := by
  obtain ⟨xs0, hx0, _, _⟩ := h.l
  refine ⟨.ref L, hj, .inl ⟨rfl, _, sq_of hx0⟩, a_op (hear0 h.t hr fun v H2 e2 T2 h2 => n_op ?_)⟩
  obtain ⟨xs, hx, hl, hL⟩ := h.more e2 T2 h2 rfl m
  exact ⟨L, xs, v, rfl, rfl, hx, hl, q _ hL⟩
end
/-! ### what is due -/
def EvH (te : TE) (σ : L2.St) (H : Hp) (r : Option Er) : Prop := ∀ H1, Ex H H1 → ∀ Q : VK, (∀ v H2, Ex H1 H2 → Hrd H2 v r → Q v H2) → te σ H1 Q
def EvHs (ta : TA) (σ : L2.St) (H : Hp) (rs : List (Option Er)) : Prop := ∀ H1, Ex H H1 → ∀ Q : List V → Hp → Prop, (∀ vs H2, Ex H1 H2 → Paired (Hrd H2) vs rs → Q vs H2) → ta σ H1 Q
section
variable {σ : L2.St} {H : Hp}
theorem Hrd.up {H H' : Hp} (e : Ex H H') {v : V} {r : Option Er} (h : Hrd H v r) : Hrd H' v r := h.upN (ExtN.of e)
theorem eh_none : EvH (tTup tNil) σ H none := fun H1 e Q q => t_op (n_op ⟨Nat.zero_le _, fun p hp => q _ _ (Ex.new hp) ⟨p, _, rfl, upd_same, rfl⟩⟩)
theorem eh_web (z : Str) : EvH (tTup (tCons (tC (.str "web")) (tCons (tC (.str z)) tNil))) σ H (some (.web z)) := fun H1 e Q q =>
  t_op (a_op (k_op (a_op (k_op (n_op ⟨by show 2 ≤ sizeLine; decide, fun p hp => q _ _ (Ex.new hp) ⟨p, _, rfl, upd_same, rfl⟩⟩)))))
theorem eh_body (z : Str) : EvH (tTup (tCons (tC (.str "body")) (tCons (tC (.str z)) tNil))) σ H (some (.body z)) := fun H1 e Q q =>
  t_op (a_op (k_op (a_op (k_op (n_op ⟨by show 2 ≤ sizeLine; decide, fun p hp => q _ _ (Ex.new hp) ⟨p, _, rfl, upd_same, rfl⟩⟩)))))
theorem eh_lot (z : Str) : EvH (tTup (tCons (tC (.str "lot")) (tCons (tC (.str z)) tNil))) σ H (some (.lot z)) := fun H1 e Q q =>
  t_op (a_op (k_op (a_op (k_op (n_op ⟨by show 2 ≤ sizeLine; decide, fun p hp => q _ _ (Ex.new hp) ⟨p, _, rfl, upd_same, rfl⟩⟩)))))
theorem eh_mark {te : TE} {x : Va} (h : EvR te σ H x) : EvH (tTup (tCons (tC (.str "mark")) (tCons te tNil))) σ H (some (.mark x)) := fun H1 e Q q =>
  t_op (a_op (k_op (a_op (h H1 e _ fun v H2 e2 r => n_op ⟨by show 2 ≤ sizeLine; decide, fun p hp => q _ _ (e2.trans (Ex.new hp)) ⟨p, _, rfl, upd_same, v, r.up (Ex.new hp), rfl⟩⟩))))
theorem eh_twice {te : TE} {x : Va} (h : EvR te σ H x) : EvH (tTup (tCons (tC (.str "twice")) (tCons te tNil))) σ H (some (.twice x)) := fun H1 e Q q =>
  t_op (a_op (k_op (a_op (h H1 e _ fun v H2 e2 r => n_op ⟨by show 2 ≤ sizeLine; decide, fun p hp => q _ _ (e2.trans (Ex.new hp)) ⟨p, _, rfl, upd_same, v, r.up (Ex.new hp), rfl⟩⟩))))
theorem eh_nil : EvHs tNil σ H [] := fun H1 _ Q q => q [] H1 (Ex.refl H1) .nil
theorem eh_cons {te : TE} {ta : TA} {x : Option Er} {xs : List (Option Er)} (h : EvH te σ H x) (t : EvHs ta σ H xs) : EvHs (tCons te ta) σ H (x :: xs) := fun H1 e Q q =>
  a_op (h H1 e _ fun v H2 e2 rv => t H2 (e.trans e2) _ fun vs H3 e3 rs => q (v :: vs) H3 (e2.trans e3) (.cons (rv.up e3) rs))
/-- a new list of what is due -/
theorem eh_lst {ta : TA} {rs : List (Option Er)} {Q : VK} (h : EvHs ta σ H rs) (m : rs.length ≤ 1000) (q : ∀ b ys H2, Ex H H2 → H2 b = some (.lst ys) → Paired (Hrd H2) ys rs → Q (.ref b) H2) : tLst ta σ H Q :=
  l_op (h H (Ex.refl H) _ fun vs H2 e2 rs => ⟨by rw [Paired.length rs]; exact Nat.le_of_lt (sz_lt (by omega)), fun p hp => q p vs _ (e2.trans (Ex.new hp)) upd_same (L2.Paired.mapP rs fun _ _ r => r.up (Ex.new hp))⟩)
end
end KW
namespace KX
open PySem PySem.Spec PyProof.Rows L2 Evl
/-! ### str of instances by their own def -/
section
variable {X : Cx} {CX : CXT} {n : Nat} {C f : Addr} {fd : FuncData} {ps : List Str} {sp : Sp} {E : XK}
theorem call_strO (F : FnOk X.prog X.w X.K X.mg X.base CX n f fd ps sp) (hs : PySem.W.findIn X.K (.ref C) "__str__" = some (some (.ref f))) (hf : PySem.W.isFn X.K (.ref f) = true) (hb : L2.Binds X.K fd ps []) (hx : Passes CX X E) (hr : Room (n + 2) X.A) :
    CallR X (.type "str") (fun xs H Q => ∃ a dx fs, xs = [.ref a] ∧ H a = some (.ins C dx fs) ∧ sp [.ref a] H (fun v H' => ∃ z, v = .str z ∧ Q (.str z) H') E) := by
  intro pins s σ H xs us Q I r h
  obtain ⟨a, dx, fs, rfl, ha, hsp⟩ := h
  obtain ⟨u, rfl, ru⟩ := vals1 r
  obtain rfl : u = Value.ref a := ru
  obtain ⟨mA, J, _⟩ := ins_get I.hok ha
  obtain ⟨od, J, _⟩ := J.look
  have hr2 : Room n X.A.in1.in1 := by
    have h1 : Room (n + 1) X.A.in1 := Room.in1 (by exact hr)
    exact Room.in1 (by exact h1)
  refine PySem.W.kso_call hr2.units0 I.kIn J hs hf ?_
  refine own_call F hb hx (A := X.A.in1.in1) ⟨hr2, rfl⟩ I (r := (.cons rfl .nil : Vals [V.ref a] [Value.ref a])) hsp fun y v H' s' I' ry hy => ?_
  obtain ⟨z, rfl, q⟩ := hy
  obtain ⟨t, rfl⟩ := (show ∃ t, v = Value.str z t from ry)
  exact ⟨.str z, H', I', ⟨_, rfl⟩, q⟩
end
end KX
namespace KW
open PySem PySem.Spec PyProof.Rows L2 KR KS KX Evl StX
/-! ### what is asked of settings, marks, lots -/
def isSg : Va → Bool
  | .int i => decide (i = 1) || decide (i = -1)
  | _ => false
def nM (d : WebD) : Nat := d.hubs.length + d.stiff.length
def isSet (d : WebD) (x : Va) : Bool := match seqV x with
  | some l => decide (l.length = nM d) && l.all isSg
  | none => false
section
variable {P : Program} {w : World} {K : PySem.W.Frag} {mg : Str → Option Value} {base : Heap}
abbrev sSgn : Stmt := topS 23
theorem scSgn : FnScope ["value"] ["value"] (defScope sSgn) := ⟨rfl, rfl, rfl, by decide +kernel, rfl, by decide +kernel, by decide +kernel⟩
def spSgn : Sp := fun vs H Q _ => ∃ (v : V) (x : Va), vs = [v] ∧ Rv H v x ∧ ∀ H2, Ex H H2 → Q (.bl (isSg x)) H2
theorem ok_sgn {f : Addr} {fd : FuncData} {k : Nat} (F : FnP K "is_sign" sSgn f fd) (B : Bu mg) (I_ : FnA K mg "is_integer" sIsI ["value"]) : FnOk P w K mg base CX0 (k + 2) f fd ["value"] spSgn := by
  have GI : FnOk P w K mg base CX0 (k + 1) I_.f I_.fd ["value"] spIsI := ok_isI I_.F B
  refine ok0 F scSgn (fun vs H Q E h => ?_) (fun cdv A outer s H vs Q E hr h => ?_)
  · obtain ⟨v, x, rfl, _⟩ := h
    rfl
  · obtain ⟨v, x, rfl, r, q⟩ := h
    refine ⟨_, (pss_one (ps_ret (pe_and (pe_call GI hr (by rfl) I_.g I_.F.kp I_.b .nil pass0 (pa_cons (pv 0) pa_nil)) (pe_one (pe_cmpR op_in_seq (pv 0) (pe_tup (pa_cons pe_int (pa_cons (pe_un un_neg pe_int) pa_nil))) (by rfl)))))), ?_⟩
    refine s_re (an_op (cl1 rfl ⟨v, tyV x, rfl, r.kd, _, rfl, ?_⟩))
    cases r with
    | int i =>
      refine iteT ⟨_, rfl, 1, rfl, by show 2 ≤ sizeLine; decide, fun p hp => ⟨p, _, rfl, .inr (st_of upd_same), rfl, rfl, ?_⟩⟩
      have e : inV (.int i) [V.int 1, V.int (-1)] = isSg (.int i) := by
        have := inV_ints i [1, -1]
        show inV (.int i) ([1, -1].map V.int) = _
        rw [this]
        unfold isSg
        by_cases h1 : i = 1
        · simp [h1]
        · by_cases h2 : i = -1 <;> simp [h1, h2]
      show Q (.bl (inV (.int i) [V.int 1, V.int (-1)])) _
      rw [e]
      exact q _ (Ex.new hp)
    | _ => exact iteF (q _ (Ex.refl _))
/-! ### is_setting -/
theorem fld_marks {W : WebC K mg} {te : TE} {σ : L2.St} {H : Hp} {a : Addr} {d : WebD} {Q : VK} (hW : WebH W.C H a d) (ev : Ev te σ H (.ref a)) (q : ∀ H2, Ex H H2 → Q (.int (nM d : Int)) H2) : tCB (rLenS K) (tCons (tFld K te "marks") tNil) σ H Q :=
  cb_op (a_op (fld (W := W) hW ev W.n6 fun w H1 e1 hi => ⟨_, rfl, n_op ⟨w.mA, _, rfl, .inr hi.m.st, by
    rw [List.length_append, List.length_map, Paired.length hi.ps]
    exact q H1 e1⟩⟩))
abbrev sSet : Stmt := topS 26
abbrev nSet : List Str := ["web", "value", "sign"]
theorem scSet : FnScope nSet ["web", "value"] (defScope sSet) := ⟨rfl, rfl, rfl, by decide +kernel, rfl, by decide +kernel, by decide +kernel⟩
def spSet (C : Addr) : Sp := fun vs H Q _ => ∃ (a : Addr) (d : WebD) (v : V) (x : Va), vs = [.ref a, v] ∧ WebH C H a d ∧ Rv H v x ∧ ∀ H2, Ex H H2 → Q (.bl (isSet d x)) H2
theorem ok_set {W : WebC K mg} {f : Addr} {fd : FuncData} {k : Nat} (F : FnP K "is_setting" sSet f fd) (B : Bu mg) (S_ : FnA K mg "is_sign" sSgn ["value"]) (I_ : FnA K mg "is_integer" sIsI ["value"]) : FnOk P w K mg base CX0 (k + 3) f fd ["web", "value"] (spSet W.C) := by
  have GS : FnOk P w K mg base CX0 (k + 2) S_.f S_.fd ["value"] spSgn := ok_sgn S_.F B I_
  refine ok0 F scSet (fun vs H Q E h => ?_) (fun cdv A outer s H vs Q E hr h => ?_)
  · obtain ⟨a, d, v, x, rfl, _⟩ := h
    rfl
  · obtain ⟨a, d, v, x, rfl, hW, r, q⟩ := h
    refine ⟨_, (pss_cons (ps_if (PW.pt (pw_or (pt_not (pt_val (pe_callB call_isiT rfl B.isinstance boot_isinstance (pa_cons (pv 1) (pa_cons (pe_tup (pa_cons (pe_bltn (v := V.ty "list") rfl B.list boot_list rfl) (pa_cons (pe_bltn (v := V.ty "tuple") rfl B.tuple boot_tuple rfl) pa_nil))) pa_nil))))) (pw_or1 (pt_cmpR op_ne (pe_callB call_len_seq rfl B.len PySem.boot_len (pa_cons (pv 1) pa_nil)) (pe_callB call_len_seq rfl B.len PySem.boot_len (pa_cons (pe_fld (pv 0) rfl) pa_nil)) (nomark _))))) (pss_one (ps_ret pe_bl)) pss_nil)
      (pss_one (ps_ret (pe_callB (cr_all rfl) rfl B.all boot_all (pa_cons (pe_lc (own := [("sign", 2)]) (g := gName 2) rfl scSet.nd (pi_seq (pv 1)) (blkOk_by (N := nSet) (sc := (defScope sSet)) (by decide +kernel)) (fun _ _ _ _ _ => (pg_name (i := 2) scSet.nd rfl (Or.inl rfl))) (fun _ _ _ _ _ => pts_nil) (fun _ _ _ _ _ => (pe_call GS hr (by rfl) S_.g S_.F.kp S_.b .nil pass0 (pa_cons (pv 2) pa_nil)))) pa_nil))))), ?_⟩
    refine q_if0 (or_op (islt rfl r fun H1 e1 => ⟨_, rfl, ?_⟩))
    rcases r.seq with ⟨b, xs, l, rfl, hl, hS, hP, hz⟩ | ⟨hl, hT⟩
    · rw [hl]
      have qq : ∀ H2, Ex H H2 → Q (.bl (decide (l.length = nM d) && l.all isSg)) H2 := fun H2 e2 => by
        have := q H2 e2
        unfold isSet at this
        rw [hl] at this
        exact this
      refine iteF (op_test (op_op (cb_op (a_op (v_op rfl (n_op ⟨b, xs, rfl, (hS.up e1).sq, ?_⟩))))))
      refine fld_marks (hW.up e1) (ev_var rfl) fun H2 e2 => ⟨rfl, _, rfl, ?_⟩
      have e12 := e1.trans e2
      have hb : decide (V.int (xs.length : Int) = V.int (nM d : Int)) = decide (l.length = nM d) := by
        rw [Paired.length hP]
        by_cases h : l.length = nM d
        · rw [h, decide_eq_true rfl, decide_eq_true rfl]
        · rw [decide_eq_false h, decide_eq_false fun z => h (by have := V.int.inj z; omega)]
      rw [hb]
      cases hd : decide (l.length = nM d) with
      | false =>
        rw [hd] at qq
        exact iteT (qq H2 e12)
      | true =>
        rw [hd] at qq
        refine iteF (nx_op ?_)
        have comp := el_lcSq (K := K) (σ := [some (.ref a), some (.ref b), none]) (H := H) (a := b) (xs := xs) (tl := tVar 1) (te := tCall spSgn [] E0 (tCons (tVar 2) tNil)) (t := tYes) (j := 2) (vs := [2]) (fun _ => true) (fun i => V.bl (isSg (l.getD i .non)))
          (ev_var rfl) hS.sq (by omega) (fun _ => rfl) (fun _ _ _ _ _ => et_yes) (fun i x H1 e1 hx _ H2 e2 Q2 q2 => cl1 rfl ⟨x, l.getD i .non, rfl, (va_at hP hx).up (e1.trans e2), fun H3 e3 => q2 H3 e3⟩)
        rw [given_va (Paired.length hP)] at comp
        refine s_re (cb_op (a_op (comp _ e12 _ fun D H3 hD e3 hd3 => ⟨D, l.map isSg, rfl, sq_of hd3, ?_⟩)))
        rw [List.all_map]
        exact qq _ (e12.trans e3)
    · rw [hl]
      have := q H1 e1
      unfold isSet at this
      rw [hl] at this
      exact iteT (iteT this)
/-! ### is_stiff -/
abbrev sStf : Stmt := topS 28
theorem scStf : FnScope ["web", "value"] ["web", "value"] (defScope sStf) := ⟨rfl, rfl, rfl, by decide +kernel, rfl, by decide +kernel, by decide +kernel⟩
def spStf (C : Addr) : Sp := fun vs H Q _ => ∃ (a : Addr) (d : WebD) (v : V) (x : Va), vs = [.ref a, v] ∧ WebH C H a d ∧ Rv H v x ∧ ∀ H2, Ex H H2 → Q (.bl (tieB x d.stiff)) H2
theorem ok_stf {W : WebC K mg} {f : Addr} {fd : FuncData} {k : Nat} (F : FnP K "is_stiff" sStf f fd) (B : Bu mg) (N_ : FnA K mg "is_numbers" sNum ["value"]) (I_ : FnA K mg "is_integer" sIsI ["value"]) : FnOk P w K mg base CX0 (k + 3) f fd ["web", "value"] (spStf W.C) := by
  have GN : FnOk P w K mg base CX0 (k + 2) N_.f N_.fd ["value"] spNum := ok_num N_.F B I_
  refine ok0 F scStf (fun vs H Q E h => ?_) (fun cdv A outer s H vs Q E hr h => ?_)
  · obtain ⟨a, d, v, x, rfl, _⟩ := h
    rfl
  · obtain ⟨a, d, v, x, rfl, hW, r, q⟩ := h
    have hu := room65 hr
    refine ⟨_, (pss_one (ps_ret (pe_and (pe_call GN hr (by rfl) N_.g N_.F.kp N_.b .nil pass0 (pa_cons (pv 1) pa_nil)) (pe_one (pe_cmpR (op_inG hu) (pe_tupleOf rfl B.tuple (pv 1)) (pe_fld (pv 0) rfl) (by rfl)))))), ?_⟩
    refine s_re (an_op (cl1 rfl (num_any r fun H1 e1 => ⟨_, rfl, ?_⟩)))
    cases hn : isNums x with
    | false =>
      have hT : tieB x d.stiff = false := by unfold tieB; rw [hn]; rfl
      rw [hT] at q
      exact iteF (q H1 e1)
    | true =>
      obtain ⟨ta, rfl, hS, hl⟩ := nums_seq r hn
      refine iteT (op_op (th_op (v_op rfl (tup_op (K := K) (hS.up e1).sq fun b H2 e2 hb => ?_))))
      have e12 := e1.trans e2
      refine fld (W := W) (hW.up e12) (ev_var rfl) W.n5 fun wA H3 e3 hi => ⟨_, rfl, ?_⟩
      have e13 := e12.trans e3
      refine ⟨.tuple ((intsV x).map PyData.int), d.stiff.map pqD, 1, 2, GD.tup (n := 0) (ex_t e3 hb) (gd_ints _), .inr (GD.tup (n := 1) hi.s.st (gd_pairs hi.ps)), by omega, by omega, ?_⟩
      rw [pairD_pl, if_neg Bool.false_ne_true]
      have hT : tieB x d.stiff = decide (intsV x ∈ d.stiff.map pl) := by unfold tieB; rw [hn, Bool.true_and]
      rw [hT] at q
      by_cases hin : intsV x ∈ d.stiff.map pl
      · rw [any_yes (fun c : List Int => PyData.tuple (c.map PyData.int)) (fun a b => eqv_tmap _ eqv_int a b) hin]
        rw [decide_eq_true hin] at q
        exact q H3 e13
      · rw [any_no (fun c : List Int => PyData.tuple (c.map PyData.int)) (fun a b => eqv_tmap _ eqv_int a b) hin]
        rw [decide_eq_false hin] at q
        exact q H3 e13
/-! ### need_mark -/
abbrev sNMk : Stmt := topS 30
theorem scNMk : FnScope ["web", "value"] ["web", "value"] (defScope sNMk) := ⟨rfl, rfl, rfl, by decide +kernel, rfl, by decide +kernel, by decide +kernel⟩
def spNMk (S : Es P w K mg base) (C : Addr) : Sp := fun vs H Q E => ∃ (a : Addr) (d : WebD) (v : V) (x : Va), vs = [.ref a, v] ∧ WebH C H a d ∧ Rv H v x ∧ if pieceB x (nM d) = true then ∀ H2, Ex H H2 → Q .non H2 else Rz S H E (.mark x)
theorem ok_nmk {S : Es P w K mg base} {W : WebC K mg} {f : Addr} {fd : FuncData} {k : Nat} (F : FnP K "need_mark" sNMk f fd) (B : Bu mg) (W_ : FnA K mg "is_within" sWit ["value", "least", "most"]) (I_ : FnA K mg "is_integer" sIsI ["value"]) : FnOk P w K mg base (L2.CX P w) (k + 3) f fd ["web", "value"] (spNMk S W.C) := by
  have GW : FnOk P w K mg base CX0 (k + 2) W_.f W_.fd ["value", "least", "most"] spWit := ok_wit W_.F B I_
  refine okE F scNMk (fun vs H Q E h => ?_) (fun cdv A outer s H vs Q E hr h => ?_)
  · obtain ⟨a, d, v, x, rfl, _⟩ := h
    rfl
  · obtain ⟨a, d, v, x, rfl, hW, r, q⟩ := h
    refine ⟨_, (pss_one (ps_if (pt_not (pt_val (pe_call GW hr (by rfl) W_.g W_.F.kp W_.b .nil pass0 (pa_cons (pv 1) (pa_cons pe_int (pa_cons (pe_op op_sub (pe_callB call_len_seq rfl B.len PySem.boot_len (pa_cons (pe_fld (pv 0) rfl) pa_nil)) pe_int) pa_nil)))))) (pss_one (ps_rs1 S.mark (hr.mono (by omega)) (pv 1) (takes_of rfl rfl rfl rfl))) pss_nil)), ?_⟩
    refine s_if0 (c_op (a_op (v_op rfl (a_op (k_op (a_op (op_op (fld_marks hW (ev_var rfl) fun H2 e2 => k_op ⟨_, _, rfl, rfl, ?_⟩))))))))
    refine n_op ⟨v, tyV x, some 0, some ((nM d : Int) - 1), rfl, (r.up e2).kd, _, rfl, ?_⟩
    rw [wit_piece (r.up e2)]
    cases hp : pieceB x (nM d) with
    | true => rw [hp, if_pos rfl] at q; exact iteF (q H2 e2)
    | false => rw [hp, if_neg Bool.false_ne_true] at q; exact iteT ⟨_, rfl, rs_mark q e2 (r.up e2)⟩
/-! ### need_setting -/
abbrev sNSt : Stmt := topS 32
theorem scNSt : FnScope ["web", "value", "part"] ["web", "value", "part"] (defScope sNSt) := ⟨rfl, rfl, rfl, by decide +kernel, rfl, by decide +kernel, by decide +kernel⟩
def spNSt (S : Es P w K mg base) (C : Addr) : Sp := fun vs H Q E => ∃ (a : Addr) (d : WebD) (v : V) (x : Va) (z : Str), vs = [.ref a, v, .str z] ∧ WebH C H a d ∧ Rv H v x ∧ if isSet d x = true then ∀ H2, Ex H H2 → Q .non H2 else Rz S H E (.body z)
theorem ok_nst {S : Es P w K mg base} {W : WebC K mg} {f : Addr} {fd : FuncData} {k : Nat} (F : FnP K "need_setting" sNSt f fd) (B : Bu mg) (T_ : FnA K mg "is_setting" sSet ["web", "value"]) (S_ : FnA K mg "is_sign" sSgn ["value"]) (I_ : FnA K mg "is_integer" sIsI ["value"]) : FnOk P w K mg base (L2.CX P w) (k + 4) f fd ["web", "value", "part"] (spNSt S W.C) := by
  have GS : FnOk P w K mg base CX0 (k + 3) T_.f T_.fd ["web", "value"] (spSet W.C) := ok_set T_.F B S_ I_
  refine okE F scNSt (fun vs H Q E h => ?_) (fun cdv A outer s H vs Q E hr h => ?_)
  · obtain ⟨a, d, v, x, z, rfl, _⟩ := h
    rfl
  · obtain ⟨a, d, v, x, z, rfl, hW, r, q⟩ := h
    refine ⟨_, (pss_one (ps_if (pt_not (pt_val (pe_call GS hr (by rfl) T_.g T_.F.kp T_.b .nil pass0 (pa_cons (pv 0) (pa_cons (pv 1) pa_nil))))) (pss_one (ps_rs1 S.body (hr.mono (by omega)) (pv 2) (takes_of rfl rfl rfl rfl))) pss_nil)), ?_⟩
    refine s_if0 (cl2 rfl rfl ⟨a, d, v, x, rfl, hW, r, fun H2 e2 => ⟨_, rfl, ?_⟩⟩)
    cases hp : isSet d x with
    | true => rw [hp, if_pos rfl] at q; exact iteF (q H2 e2)
    | false => rw [hp, if_neg Bool.false_ne_true] at q; exact iteT ⟨_, rfl, rs_body q e2⟩
end
end KW
namespace KW
open PySem PySem.Spec PyProof.Rows L2 KR KS KX Evl StX
def lotM (d : WebD) (x : Va) (z : Str) : Except Er (List Int) :=
  if isNums x = true then match badP (nM d : Int) (intsV x) with
    | some c => .error (.mark (.int c))
    | none => match ft [] (intsV x) with
      | some c => .error (.twice (.int c))
      | none => .ok (intsV x)
  else .error (.lot z)
section
variable {P : Program} {w : World} {K : PySem.W.Frag} {mg : Str → Option Value} {base : Heap}
/-! ### need_lot -/
abbrev sNLt : Stmt := topS 33
abbrev nNLt : List Str := ["web", "value", "part", "mark", "twice"]
theorem scNLt : FnScope nNLt ["web", "value", "part"] (defScope sNLt) := ⟨rfl, rfl, rfl, by decide +kernel, rfl, by decide +kernel, by decide +kernel⟩
def spNLt (S : Es P w K mg base) (C : Addr) : Sp := fun vs H Q E => ∃ (a : Addr) (d : WebD) (v : V) (x : Va) (z : Str), vs = [.ref a, v, .str z] ∧ WebH C H a d ∧ Rv H v x ∧ match lotM d x z with
  | .error r => Rz S H E r
  | .ok _ => ∀ H2, Ex H H2 → Q .non H2
theorem ok_nlt {S : Es P w K mg base} {W : WebC K mg} {f : Addr} {fd : FuncData} {k : Nat} (F : FnP K "need_lot" sNLt f fd) (B : Bu mg) (N_ : FnA K mg "is_numbers" sNum ["value"]) (I_ : FnA K mg "is_integer" sIsI ["value"]) (M_ : FnA K mg "need_mark" sNMk ["web", "value"]) (W_ : FnA K mg "is_within" sWit ["value", "least", "most"]) (F_ : FnA K mg "first_twice" sFT ["values"]) (X_ : FnA K mg "fixed" sFix ["value"]) : FnOk P w K mg base (L2.CX P w) (k + 4) f fd ["web", "value", "part"] (spNLt S W.C) := by
  have GN : FnOk P w K mg base CX0 (k + 3) N_.f N_.fd ["value"] spNum := ok_num N_.F B I_
  have GM : FnOk P w K mg base (L2.CX P w) (k + 3) M_.f M_.fd ["web", "value"] (spNMk S W.C) := ok_nmk M_.F B W_ I_
  have GF : FnOk P w K mg base CX0 (k + 3) F_.f F_.fd ["values"] (spFT K) := (ok_ft (k := k) F_.F B X_).mono (by omega)
  refine okE F scNLt (fun vs H Q E h => ?_) (fun cdv A outer s H vs Q E hr h => ?_)
  · obtain ⟨a, d, v, x, z, rfl, _⟩ := h
    rfl
  · obtain ⟨a, d, v, x, z, rfl, hW, r, q⟩ := h
    refine ⟨_, (pss_cons (ps_if (pt_not (pt_val (pe_call GN hr (by rfl) N_.g N_.F.kp N_.b .nil pass0 (pa_cons (pv 1) pa_nil)))) (pss_one (ps_rs1 S.lot (hr.mono (by omega)) (pv 2) (takes_of rfl rfl rfl rfl))) pss_nil)
      (pss_cons (ps_for (passes_of rfl) rfl (pi_seq (pv 1)) (pg_name (i := 3) scNLt.nd rfl (Or.inl rfl)) (pss_one (ps_expr (pe_call GM hr (by rfl) M_.g M_.F.kp M_.b .nil (passes_call (takes_of rfl rfl rfl rfl) (fun _ _ _ _ h => h)) (pa_cons (pv 0) (pa_cons (pv 3) pa_nil))))))
      (pss_cons (ps_set (i := 4) scNLt.nd rfl (Or.inl rfl) (pe_call GF hr (by rfl) F_.g F_.F.kp F_.b .nil pass0 (pa_cons (pv 1) pa_nil)))
      (pss_one (ps_if (pt_cmp (pc_notN (pv 4))) (pss_one (ps_rs1 S.twice (hr.mono (by omega)) (pv 4) (takes_of rfl rfl rfl rfl))) pss_nil))))), ?_⟩
    refine q_if0 (cl1 rfl (num_any r fun H1 e1 => ⟨_, rfl, ?_⟩))
    cases hn : isNums x with
    | false =>
      have hM : lotM d x z = .error (.lot z) := by unfold lotM; rw [hn]; rfl
      rw [hM] at q
      exact iteT ⟨_, rfl, rs_lot q e1⟩
    | true =>
      refine iteF (nx_op ?_)
      obtain ⟨ta, rfl, hS, hl⟩ := nums_seq r hn
      have hM : lotM d x z = match badP (nM d : Int) (intsV x) with
        | some c => .error (.mark (.int c))
        | none => match ft [] (intsV x) with
          | some c => .error (.twice (.int c))
          | none => .ok (intsV x) := by unfold lotM; rw [hn]; rfl
      rw [hM] at q
      generalize intsV x = ns at q hS hl
      refine s_forSq (H0 := H1) (H := H1) (ev_var rfl) (hS.up e1).sq (Ex.refl H1) (fun i σ' H' => ∃ y, σ' = [some (.ref a), some (.ref ta), some (.str z), y, none] ∧ Ex H1 H' ∧ badP (nM d : Int) ns = badP (nM d : Int) (ns.drop i))
        (fun H2 e => ⟨none, rfl, e, rfl⟩) (fun i σ' H' _ ⟨_, _, e, _⟩ => e) ?_ ?_
      · rintro i v σ' H' hi ⟨y, rfl, e2, hb⟩
        obtain ⟨n, hnn, rfl⟩ := int_at hi
        have hs := badP_step (m := (nM d : Int)) hnn
        have e12 := e1.trans e2
        refine s_ex (cl2 rfl rfl ⟨a, d, .int n, .int n, rfl, hW.up e12, .int n, ?_⟩)
        show if (decide (0 ≤ n) && decide (n ≤ (nM d : Int) - 1)) = true then _ else _
        cases hv : (decide (0 ≤ n) && decide (n ≤ (nM d : Int) - 1)) with
        | true =>
          rw [hv] at hs
          rw [if_pos rfl]
          exact fun H3 e3 => ⟨_, rfl, e2.trans e3, hb.trans hs⟩
        | false =>
          rw [hv] at hs
          rw [if_neg Bool.false_ne_true]
          rw [hb, hs] at q
          exact Rz.up e12 q
      · rintro σ' H' ⟨y, rfl, e2, hb⟩
        rw [List.length_map, List.drop_length] at hb
        rw [hb] at q
        have e12 := e1.trans e2
        have hk : (ns.map Sum.inl : List Key).map kV = ns.map V.int := by
          rw [List.map_map]
          rfl
        refine q_as (cl1 rfl ⟨ta, ns.map Sum.inl, rfl, by rw [hk]; exact (hS.up e12).sq, by rw [List.length_map]; exact hl, fun H3 e3 => ?_⟩)
        rw [show ft ([] : List Key) (ns.map Sum.inl) = (ft [] ns).map Sum.inl from ft_inl ns []]
        have q : match (match ft [] ns with
          | some c => (Except.error (Er.twice (Va.int c)) : Except Er (List Int))
          | none => Except.ok ns) with
          | .error r => Rz S H E r
          | .ok _ => ∀ H2, Ex H H2 → Q .non H2 := q
        cases e : ft [] ns with
        | none =>
          rw [e] at q
          exact s_if0 (nn_no rfl (iteF (q H3 (e12.trans e3))))
        | some c =>
          rw [e] at q
          exact s_if0 (nn_yes (v := .int c) rfl (fun z => nomatch z) (iteT ⟨_, rfl, rs_twice q (e12.trans e3) (.int c)⟩))
/-! ### hub_mark, tie_mark -/
abbrev sHM : Stmt := topS 35
theorem scHM : FnScope ["web", "hub"] ["web", "hub"] (defScope sHM) := ⟨rfl, rfl, rfl, by decide +kernel, rfl, by decide +kernel, by decide +kernel⟩
def spHM (C : Addr) : Sp := fun vs H Q _ => ∃ (a : Addr) (d : WebD) (h : Int) (j : Nat), vs = [.ref a, .int h] ∧ WebH C H a d ∧ d.hubs[j]? = some h ∧ (∀ m, m < j → d.hubs[m]? ≠ some h) ∧ ∀ H2, Ex H H2 → Q (.int (j : Int)) H2
theorem bm_op {r : V → List V → Hp → VK → Prop} {to : TE} {t : TA} {σ : L2.St} {H : Hp} {Q : VK} (h : to σ H fun x H1 => (∃ a xs, x = .ref a ∧ TF H1 a xs) ∧ t σ H1 fun zs H2 => r x zs H2 Q) : tBMT r to t σ H Q := h
theorem ok_hm {W : WebC K mg} {f : Addr} {fd : FuncData} {k : Nat} (F : FnP K "hub_mark" sHM f fd) : FnOk P w K mg base CX0 (k + 1) f fd ["web", "hub"] (spHM W.C) := by
  refine ok0 F scHM (fun vs H Q E h => ?_) (fun cdv A outer s H vs Q E hr h => ?_)
  · obtain ⟨a, d, h, j, rfl, _⟩ := h
    rfl
  · obtain ⟨a, d, h, j, rfl, hW, hj, hno, q⟩ := h
    have hu := room65 hr
    refine ⟨_, pss_one (ps_ret (pe_bmT PySem.F.slot_tuple_index PySem.F.type_tuple_index (mt_tix hu) (pe_fld (pv 0) rfl) (pa_cons (pv 1) pa_nil))), ?_⟩
    refine s_re (bm_op (fld (W := W) hW (ev_var rfl) W.n4 fun w H1 e1 hi => ⟨_, rfl, ⟨_, _, rfl, hi.h⟩, a_op (v_op rfl (n_op ?_))⟩))
    refine ⟨w.hA, .int h, .int h, d.hubs.map PyData.int, j, .int h, 1, 0, rfl, rfl, GD.tup (n := 0) hi.h.st (gd_ints _), GD.int h, by omega, by omega, by rw [List.getElem?_map, hj]; rfl, by rw [eqv_int]; exact decide_eq_true rfl, fun m z' hm hz' => ?_, q H1 e1⟩
    rw [List.getElem?_map] at hz'
    cases e : d.hubs[m]? with
    | none => rw [e] at hz'; cases hz'
    | some y =>
      rw [e] at hz'
      cases hz'
      rw [eqv_int]
      exact decide_eq_false fun z => hno m hm (by rw [e, z])
abbrev sTM : Stmt := topS 36
theorem scTM : FnScope ["web", "tie"] ["web", "tie"] (defScope sTM) := ⟨rfl, rfl, rfl, by decide +kernel, rfl, by decide +kernel, by decide +kernel⟩
def spTM (C : Addr) : Sp := fun vs H Q _ => ∃ (a t : Addr) (d : WebD) (p : Int × Int) (j : Nat), vs = [.ref a, .ref t] ∧ WebH C H a d ∧ TX H t [.int p.1, .int p.2] ∧ d.stiff[j]? = some p ∧ (∀ m, m < j → d.stiff[m]? ≠ some p) ∧ ∀ H2, Ex H H2 → Q (.int ((d.hubs.length : Int) + (j : Int))) H2
theorem ok_tm {W : WebC K mg} {f : Addr} {fd : FuncData} {k : Nat} (F : FnP K "tie_mark" sTM f fd) (B : Bu mg) : FnOk P w K mg base CX0 (k + 1) f fd ["web", "tie"] (spTM W.C) := by
  refine ok0 F scTM (fun vs H Q E h => ?_) (fun cdv A outer s H vs Q E hr h => ?_)
  · obtain ⟨a, t, d, p, j, rfl, _⟩ := h
    rfl
  · obtain ⟨a, t, d, p, j, rfl, hW, ht, hj, hno, q⟩ := h
    have hu := room65 hr
    refine ⟨_, pss_one (ps_ret (pe_op op_add (pe_callB call_len_seq rfl B.len PySem.boot_len (pa_cons (pe_fld (pv 0) rfl) pa_nil)) (pe_bmT PySem.F.slot_tuple_index PySem.F.type_tuple_index (mt_tix hu) (pe_fld (pv 0) rfl) (pa_cons (pv 1) pa_nil)))), ?_⟩
    refine s_re (op_op (cb_op (a_op (fld (W := W) hW (ev_var rfl) W.n4 fun w0 H0 e0 hi0 => ⟨_, rfl, n_op ⟨w0.hA, _, rfl, .inr hi0.h.st, ?_⟩⟩))))
    refine bm_op (fld (W := W) (hW.up e0) (ev_var rfl) W.n5 fun w H1 e1 hi => ⟨_, rfl, ⟨_, _, rfl, hi.s⟩, a_op (v_op rfl (n_op ?_))⟩)
    have e01 := e0.trans e1
    refine ⟨w.sA, .ref t, pqD p, d.stiff.map pqD, j, pqD p, 2, 1, rfl, rfl, GD.tup (n := 1) hi.s.st (gd_pairs hi.ps), GD.tup (n := 0) (ht.up e01).st (.cons (.int _) (.cons (.int _) .nil)), by omega, by omega, by rw [List.getElem?_map, hj]; rfl, by rw [eqv_pair]; exact decide_eq_true rfl, fun m z' hm hz' => ?_, ?_⟩
    · rw [List.getElem?_map] at hz'
      cases e : d.stiff[m]? with
      | none => rw [e] at hz'; cases hz'
      | some y =>
        rw [e] at hz'
        cases hz'
        rw [eqv_pair]
        exact decide_eq_false fun z => hno m hm (by rw [e, z])
    · refine ⟨_, _, rfl, rfl, ?_⟩
      rw [List.length_map]
      exact q H1 e01
end
end KW
namespace KW
open PySem PySem.Spec PyProof.Rows L2 KR KS KX Evl StX
/-! ### bodies as objects -/
structure BodD where
  web : WebD
  sg : List Int
def bodFs (wa sA : Addr) : List (Str × V) := [("web", .ref wa), ("setting", .ref sA)]
structure BodI (W : Addr) (H : Hp) (b : BodD) (wa sA : Addr) : Prop where
  w : WebH W H wa b.web
  s : TX H sA (b.sg.map V.int)
def BodH (W C : Addr) (H : Hp) (a : Addr) (b : BodD) : Prop := (b.sg.length = nM b.web ∧ (∀ s ∈ b.sg, s = 1 ∨ s = -1) ∧ b.sg.length ≤ 1000) ∧ ∃ wa sA dx, H a = some (.ins C dx (bodFs wa sA)) ∧ BodI W H b wa sA
theorem BodI.up {W : Addr} {H H' : Hp} {b : BodD} {wa sA : Addr} (e : Ex H H') (h : BodI W H b wa sA) : BodI W H' b wa sA := ⟨h.w.up e, h.s.up e⟩
theorem BodH.up {W C : Addr} {H H' : Hp} {a : Addr} {b : BodD} (e : Ex H H') (h : BodH W C H a b) : BodH W C H' a b := by
  obtain ⟨k, wa, sA, dx, ha, hi⟩ := h
  exact ⟨k, wa, sA, dx, e _ _ ha, hi.up e⟩
structure BodC (K : PySem.W.Frag) (mg : Str → Option Value) where
  C : Addr
  g : mg "Body" = some (.ref C)
  cls : Cls K C
  n1 : NoAttr K C "web"
  n2 : NoAttr K C "setting"
def bodS (i : Nat) : Stmt := (clsBody (topS 69)).getD i (.Pass ⟨0, 0, 0, 0⟩)
/-- what isinstance tells of a value -/
def IsW (K : PySem.W.Frag) (C : Addr) (H : Hp) (v : V) (b : Bool) : Prop := ∃ t, (∀ H', Ex H H' → TyX K H' v t) ∧ PySem.W.kitOne K t (.ref C) = some b
section
variable {P : Program} {w : World} {K : PySem.W.Frag} {mg : Str → Option Value} {base : Heap}
theorem web_is {W : WebC K mg} (Z : WebE K W.C) {H : Hp} {a : Addr} {d : WebD} (h : WebH W.C H a d) : IsW K W.C H (.ref a) true := by
  obtain ⟨_, w2, dx, hb, _⟩ := h
  exact ⟨_, fun H' e => .base (.ins (e _ _ hb) W.cls Z.ha Z.hn Z.htk Z.hm), Z.own⟩
theorem IsW.up {C : Addr} {H H' : Hp} {v : V} {b : Bool} (e : Ex H H') (h : IsW K C H v b) : IsW K C H' v b := let ⟨t, x, y⟩ := h; ⟨t, fun H2 e2 => x H2 (e.trans e2), y⟩
theorem isi_op {C : Addr} {H : Hp} {i : Nat} {σ : L2.St} {v : V} {b : Bool} {Q : VK} (hv : σ[i]? = some (some v)) (h : IsW K C H v b) (q : Q (.bl b) H) : tCB (rIsi K) (tCons (tVar i) (tCons (tC (.ref C)) tNil)) σ H Q := by
  obtain ⟨t, x, y⟩ := h
  exact cb_op (a_op (v_op hv (a_op (k_op (n_op ⟨_, _, _, _, _, rfl, .own C, x H (Ex.refl H), y, q⟩)))))
/-! ### need_web -/
abbrev sNW : Stmt := topS 52
theorem scNW : FnScope ["value", "part"] ["value", "part"] (defScope sNW) := ⟨rfl, rfl, rfl, by decide +kernel, rfl, by decide +kernel, by decide +kernel⟩
def spNW (S : Es P w K mg base) (C : Addr) : Sp := fun vs H Q E => ∃ (v : V) (z : Str) (b : Bool), vs = [v, .str z] ∧ IsW K C H v b ∧ if b = true then ∀ H2, Ex H H2 → Q .non H2 else Rz S H E (.web z)
theorem ok_nw {S : Es P w K mg base} {W : WebC K mg} {f : Addr} {fd : FuncData} {k : Nat} (F : FnP K "need_web" sNW f fd) (B : Bu mg) : FnOk P w K mg base (L2.CX P w) (k + 3) f fd ["value", "part"] (spNW S W.C) := by
  refine okE F scNW (fun vs H Q E h => ?_) (fun cdv A outer s H vs Q E hr h => ?_)
  · obtain ⟨v, z, b, rfl, _⟩ := h
    rfl
  · obtain ⟨v, z, b, rfl, hb, q⟩ := h
    refine ⟨_, (pss_one (ps_if (pt_not (pt_val (pe_callB call_isi rfl B.isinstance boot_isinstance (pa_cons (pv 0) (pa_cons (pe_glob (v := V.ref W.C) rfl W.g rfl) pa_nil))))) (pss_one (ps_rs1 S.web (hr.mono (by omega)) (pv 1) (takes_of rfl rfl rfl rfl))) pss_nil)), ?_⟩
    refine s_if0 (isi_op rfl hb ⟨_, rfl, ?_⟩)
    cases b with
    | true => rw [if_pos rfl] at q; exact iteF (q H (Ex.refl H))
    | false => rw [if_neg Bool.false_ne_true] at q; exact iteT ⟨_, rfl, rs_web q (Ex.refl H)⟩
/-! ### Body.__init__ -/
theorem set_nums {d : WebD} {x : Va} (h : isSet d x = true) : isNums x = true ∧ (intsV x).length = nM d ∧ ∀ s ∈ intsV x, s = 1 ∨ s = -1 := by
  unfold isSet at h
  cases hl : seqV x with
  | none => rw [hl] at h; cases h
  | some l =>
    rw [hl] at h
    obtain ⟨h1, h2⟩ := Bool.and_eq_true_iff.mp h
    have h1 := of_decide_eq_true h1
    have hi : intsV x = l.map intV := by unfold intsV itemsV; rw [hl]; rfl
    refine ⟨?_, by rw [hi, List.length_map]; exact h1, fun s hs => ?_⟩
    · unfold isNums
      rw [hl]
      refine List.all_eq_true.mpr fun y hy => ?_
      have := List.all_eq_true.mp h2 y hy
      cases y <;> first | rfl | cases this
    · rw [hi] at hs
      obtain ⟨y, hy, rfl⟩ := List.mem_map.mp hs
      have := List.all_eq_true.mp h2 y hy
      cases y with
      | int i =>
        unfold isSg at this
        rcases Bool.or_eq_true_iff.mp this with h | h
        · exact .inl (of_decide_eq_true h)
        · exact .inr (of_decide_eq_true h)
      | _ => cases this
abbrev sBI : Stmt := bodS 0
abbrev nBI : List Str := ["self", "web", "setting"]
theorem scBI : FnScope nBI nBI (defScope sBI) := ⟨rfl, rfl, rfl, by decide +kernel, rfl, by decide +kernel, by decide +kernel⟩
def spBI (S : Es P w K mg base) (W C : Addr) : Sp := fun vs H Q E => ∃ (a dx : Addr) (H0 : Hp) (vw vz : V) (b : Bool), vs = [.ref a, vw, vz] ∧ H = upd (upd H0 dx (.own a)) a (.ins C dx []) ∧ H0 a = none ∧ H0 dx = none ∧ IsW K W H0 vw b ∧
  if b = true then ∃ wa d x, vw = .ref wa ∧ WebH W H0 wa d ∧ Rv H0 vz x ∧ if isSet d x = true then ∀ H2, Ex H0 H2 → BodH W C H2 a ⟨d, intsV x⟩ → Q .non H2 else Rz S H0 E (.body "setting")
  else Rz S H0 E (.web "web")
theorem ok_bi {S : Es P w K mg base} {W : WebC K mg} {Bd : BodC K mg} {f : Addr} {fd : FuncData} {k : Nat} (F : FunD K "__init__" "Body.__init__" (defArgs sBI) (defBody sBI) (defScope sBI) [] [] f fd) (B : Bu mg) (W_ : FnA K mg "need_web" sNW ["value", "part"]) (T_ : FnA K mg "need_setting" sNSt ["web", "value", "part"]) (G_ : FnA K mg "is_setting" sSet ["web", "value"]) (S_ : FnA K mg "is_sign" sSgn ["value"]) (I_ : FnA K mg "is_integer" sIsI ["value"]) :
    FnOk P w K mg base (L2.CX P w) (k + 5) f fd nBI (spBI S W.C Bd.C) := by
  have GW : FnOk P w K mg base (L2.CX P w) (k + 4) W_.f W_.fd ["value", "part"] (spNW S W.C) := ok_nw W_.F B
  have GS : FnOk P w K mg base (L2.CX P w) (k + 4) T_.f T_.fd ["web", "value", "part"] (spNSt S W.C) := ok_nst T_.F B G_ S_ I_
  refine FunD.ok F scBI (fun vs H Q E h => ?_) (fun cdv A outer s H vs Q E hr h => ?_)
  · obtain ⟨a, dx, H0, vw, vz, b, rfl, _⟩ := h
    rfl
  · obtain ⟨a, dx, H0, vw, vz, b, rfl, rfl, ha, hdx, hb, q⟩ := h
    refine ⟨_, (pss_cons (ps_expr (pe_call GW hr (by rfl) W_.g W_.F.kp W_.b .nil (passes_call (takes_of rfl rfl rfl rfl) (fun _ _ _ _ h => h)) (pa_cons (pv 1) (pa_cons pe_str pa_nil))))
      (pss_cons (ps_expr (pe_call GS hr (by rfl) T_.g T_.F.kp T_.b .nil (passes_call (takes_of rfl rfl rfl rfl) (fun _ _ _ _ h => h)) (pa_cons (pv 1) (pa_cons (pv 2) (pa_cons pe_str pa_nil)))))
      (pss_cons (ps_fld (pv 0) (pv 1) rfl)
      (pss_one (ps_fld (pv 0) (pe_tupleOf rfl B.tuple (pv 2)) rfl))))), ?_⟩
    have e0 : Ex H0 (upd (upd H0 dx (.own a)) a (.ins Bd.C dx [])) := Ex.mut (Ex.new hdx) ha
    have hA0 : (upd (upd H0 dx (.own a)) a (.ins Bd.C dx [])) a = some (.ins Bd.C dx []) := upd_same
    generalize upd (upd H0 dx (.own a)) a (.ins Bd.C dx []) = H at e0 hA0 ⊢
    refine q_ex (c_op (a_op (v_op rfl (a_op (k_op (n_op ⟨vw, "web", b, rfl, hb.up e0, ?_⟩))))))
    cases b with
    | false =>
      rw [if_neg Bool.false_ne_true] at q ⊢
      exact Rz.up e0 q
    | true =>
      rw [if_pos rfl] at q ⊢
      intro H1 e1
      have e01 := e0.trans e1
      obtain ⟨wa, d, x, rfl, hW, r, q⟩ := q
      refine q_ex (c_op (a_op (v_op rfl (a_op (v_op rfl (a_op (k_op (n_op ⟨wa, d, vz, x, "setting", rfl, hW.up e01, r.up e01, ?_⟩))))))))
      cases hs : isSet d x with
      | false =>
        rw [hs, if_neg Bool.false_ne_true] at q
        rw [if_neg Bool.false_ne_true]
        exact Rz.up e01 q
      | true =>
        rw [hs, if_pos rfl] at q
        rw [if_pos rfl]
        intro H2 e2
        have e02 := e01.trans e2
        obtain ⟨hn, hl, hsg⟩ := set_nums hs
        obtain ⟨ta, rfl, hS, hz⟩ := nums_seq r hn
        refine q_fld (v_op rfl ⟨_, rfl, a, Bd.C, dx, [], rfl, (e1.trans e2) _ _ hA0, Bd.cls, Bd.n1, by show 0 < 1000; decide, ?_⟩)
        have hA2 := (e1.trans e2) _ _ hA0
        generalize hH3 : upd H2 a (.ins Bd.C dx (putF "web" (V.ref wa) [])) = H3
        have hA3 : H3 a = some (.ins Bd.C dx [("web", .ref wa)]) := by rw [← hH3]; exact upd_same
        have e03 : Ex H0 H3 := by rw [← hH3]; exact Ex.mut e02 ha
        clear hH3 hA2
        refine s_fld (th_op (v_op rfl (tup_op1 (hS.up e03) fun sA H4 e4 hsA => ⟨_, rfl, a, Bd.C, dx, _, rfl, e4 _ _ hA3, Bd.cls, Bd.n2, by show 1 < 1000; decide, ?_⟩)))
        have e04 := e03.trans e4
        have hA4 := e4 _ _ hA3
        refine q _ (Ex.mut e04 ha) ⟨⟨hl, hsg, hz⟩, wa, sA, dx, upd_same, ⟨hW.up (Ex.mut e04 ha), hsA.upT (ExT.ins hA4)⟩⟩
end
end KW
namespace KW
open PySem PySem.Spec PyProof.Rows L2 KR KS KX Evl StX
def eqB (b e : BodD) : Bool := eqW b.web e.web && decide (b.sg = e.sg)
section
variable {P : Program} {w : World} {K : PySem.W.Frag} {mg : Str → Option Value} {base : Heap}
theorem fldB {W : Addr} {Bd : BodC K mg} {H : Hp} {a : Addr} {b : BodD} {te : TE} {σ : L2.St} {f : Str} {Q : VK} (h : BodH W Bd.C H a b) (he : Ev te σ H (.ref a)) (hn : NoAttr K Bd.C f)
    (q : ∀ (wa sA : Addr) (H1 : Hp), Ex H H1 → BodI W H1 b wa sA → ∃ v, (bodFs wa sA).lookup f = some v ∧ Q v H1) : tFld K te f σ H Q := by
  obtain ⟨k, wa, sA, dx, ha, hi⟩ := h
  refine he H (Ex.refl H) _ fun H1 e1 => ?_
  obtain ⟨v, hv, qv⟩ := q wa sA H1 e1 (hi.up e1)
  exact ⟨a, Bd.C, dx, _, v, rfl, e1 _ _ ha, Bd.cls, hn, hv, qv⟩
abbrev MthB (K : PySem.W.Frag) (x : Str) (st : Stmt) (f : Addr) (fd : FuncData) : Prop := FunD K x ("Body." ++ x) (defArgs st) (defBody st) (defScope st) [] [] f fd
/-! ### == -/
theorem body_is {W : Addr} {Bd : BodC K mg} (Z : WebE K Bd.C) {H : Hp} {a : Addr} {b : BodD} (h : BodH W Bd.C H a b) : IsW K Bd.C H (.ref a) true := by
  obtain ⟨_, wa, sA, dx, hb, _⟩ := h
  exact ⟨_, fun H' e => .base (.ins (e _ _ hb) Bd.cls Z.ha Z.hn Z.htk Z.hm), Z.own⟩
theorem web_at {C : Addr} {H : Hp} {a : Addr} {d : WebD} (h : WebH C H a d) : ∃ dx fs, H a = some (.ins C dx fs) := webH_C h
abbrev sBE : Stmt := bodS 1
theorem scBE : FnScope ["self", "other"] ["self", "other"] (defScope sBE) := ⟨rfl, rfl, rfl, by decide +kernel, rfl, by decide +kernel, by decide +kernel⟩
def spEqB (K : PySem.W.Frag) (W C : Addr) : Sp := fun vs H Q _ => ∃ (a : Addr) (b : BodD) (v : V), vs = [.ref a, v] ∧ BodH W C H a b ∧ ((∃ c e, v = .ref c ∧ BodH W C H c e ∧ ∀ H2, Ex H H2 → Q (.bl (eqB b e)) H2) ∨ (IsW K C H v false ∧ ∀ H2, Ex H H2 → Q (.bl false) H2))
theorem ok_eqb {S : Es P w K mg base} {n : Nat} {Y : WebY S n} {Bd : BodC K mg} {f : Addr} {fd : FuncData} {k : Nat} (F : MthB K "__eq__" sBE f fd) (B : Bu mg) (Z : WebE K Bd.C) : FnOk P w K mg base CX0 (k + 2) f fd ["self", "other"] (spEqB K Y.C Bd.C) := by
  refine okM0 F scBE (fun vs H Q E h => ?_) (fun cdv A outer s H vs Q E hr h => ?_)
  · obtain ⟨a, b, v, rfl, _⟩ := h
    rfl
  · obtain ⟨a, b, v, rfl, hB, h⟩ := h
    have hu := hr.units
    have hr1 := hr.mono (j := 1) (by omega)
    refine ⟨_, (pss_one (ps_ret (pe_and (pe_callB call_isi rfl B.isinstance boot_isinstance (pa_cons (pv 1) (pa_cons (pe_glob (v := V.ref Bd.C) rfl Bd.g rfl) pa_nil))) (pe_and (pe_cmpR (op_eqO Y.FE Y.atE Y.fnE Y.bE pass0 hr1) (pe_fld (pv 0) rfl) (pe_fld (pv 1) rfl) (nomark _)) (pe_one (pe_cmpR (op_eqD hu) (pe_fld (pv 0) rfl) (pe_fld (pv 1) rfl) (nomark _))))))), ?_⟩
    refine s_re ?_
    rcases h with ⟨c, e, rfl, hE, q⟩ | ⟨hN, q⟩
    · refine and_step (c := true) (fun Q2 q2 => isi_op rfl (body_is Z hE) (q2 H (Ex.refl H))) (fun _ H2 e2 => ?_) (fun z => nomatch z)
      have hB2 := hB.up e2
      have hE2 := hE.up e2
      refine and_step (c := eqW b.web e.web) (fun Q2 q2 => ?_) (fun c1 H3 e3 => ?_) (fun c1 H3 e3 => ?_)
      · refine op_op (fldB (Bd := Bd) hB2 (ev_var rfl) Bd.n1 fun w1 s1 H1 e1 hi1 => ⟨_, rfl, fldB (Bd := Bd) (hE2.up e1) (ev_var rfl) Bd.n1 fun w2 s2 H4 e4 hi2 => ⟨_, rfl, ?_⟩⟩)
        obtain ⟨dx, fs, ha⟩ := web_at (hi1.up e4).w
        obtain ⟨dx2, fs2, hb2⟩ := web_at hi2.w
        exact ⟨w1, dx, fs, rfl, ha, right_ins hb2, w1, _, w2, rfl, (hi1.up e4).w, .inl ⟨_, hi2.w, fun H5 e5 => ⟨_, rfl, q2 H5 ((e1.trans e4).trans e5)⟩⟩⟩
      · refine op_op (fldB (Bd := Bd) (hB2.up e3) (ev_var rfl) Bd.n2 fun w1 s1 H1 e1 hi1 => ⟨_, rfl, fldB (Bd := Bd) ((hE2.up e3).up e1) (ev_var rfl) Bd.n2 fun w2 s2 H4 e4 hi2 => ⟨_, rfl, ?_⟩⟩)
        refine eq_gd (n := 1) (m := 1) (GD.tup (n := 0) (hi1.up e4).s.st (gd_ints _)) (GD.tup (n := 0) hi2.s.st (gd_ints _)) ?_
        rw [eqv_tmap _ eqv_int]
        have := q H4 ((e2.trans e3).trans (e1.trans e4))
        unfold eqB at this
        rw [c1, Bool.true_and] at this
        exact this
      · have := q H3 (e2.trans e3)
        unfold eqB at this
        rw [c1, Bool.false_and] at this
        exact this
    · refine and_step (c := false) (fun Q2 q2 => isi_op rfl hN (q2 H (Ex.refl H))) (fun z => nomatch z) (fun _ H2 e2 => q H2 e2)
/-! ### hand, side -/
theorem okMB {x q : Str} {st : Stmt} {f : Addr} {fd : FuncData} {N ps : List Str} {k : Nat} {sp : Sp} (F : FunD K x q (defArgs st) (defBody st) (defScope st) [] [] f fd) (S : FnScope N ps (defScope st)) (len : ∀ vs H Q E, sp vs H Q E → vs.length = ps.length)
    (hbody : ∀ (cdv : Value) (A : Around) (outer : List Env) (s : Shared) (H : Hp) (vs : List V) (Q : VK) (E : XK), Room k (A.deeper (envOfC q (defScope st) s.heap.objs.size f cdv)) → sp vs H Q E →
      ∃ t, PSs (cxOf (L2.CX P w) P w K mg base N q (defScope st) f cdv A outer s H E) (defBody st) t ∧ t { nx := fun _ H' => Q .non H', rt := Q } (start N vs) H) : FnOk P w K mg base (L2.CX P w) (k + 1) f fd ps sp :=
  FunD.ok F S len hbody
theorem sg_at {W : Addr} {b : BodD} {wa sA : Addr} {H : Hp} {j : Nat} {z : Int} {Q : VK} (hi : BodI W H b wa sA) (hj : b.sg[j]? = some z) (q : Q (.int z) H) : rIx K (.ref sA) (.int (j : Int)) H Q :=
  .inr (.inl ⟨sA, _, (j : Int), .int z, rfl, rfl, hi.s.st, atI_nat (by rw [List.getElem?_map, hj]; rfl), q⟩)
abbrev sBH : Stmt := bodS 4
theorem scBH : FnScope ["self", "hub"] ["self", "hub"] (defScope sBH) := ⟨rfl, rfl, rfl, by decide +kernel, rfl, by decide +kernel, by decide +kernel⟩
/-- the first place of it -/
def FirstAt {α : Type} (l : List α) (x : α) (j : Nat) : Prop := l[j]? = some x ∧ ∀ m, m < j → l[m]? ≠ some x
def spHd (S : Es P w K mg base) (W C : Addr) : Sp := fun vs H Q E => ∃ (a : Addr) (b : BodD) (v : V) (x : Va), vs = [.ref a, v] ∧ BodH W C H a b ∧ Rv H v x ∧
  ((hubB x b.web.hubs = false ∧ Rz S H E (.mark x)) ∨ ∃ h j z, x = .int h ∧ FirstAt b.web.hubs h j ∧ b.sg[j]? = some z ∧ ∀ H2, Ex H H2 → Q (.int z) H2)
theorem ok_hd {S : Es P w K mg base} {n : Nat} {Y : WebY S n} {Bd : BodC K mg} {f : Addr} {fd : FuncData} {k : Nat} (F : MthB K "hand" sBH f fd) (B : Bu mg) (H_ : FnA K mg "need_hub" sNHb ["web", "value"]) (I2_ : FnA K mg "is_hub" sIH ["web", "value"]) (I_ : FnA K mg "is_integer" sIsI ["value"]) (M_ : FnA K mg "hub_mark" sHM ["web", "hub"]) : FnOk P w K mg base (L2.CX P w) (k + 4) f fd ["self", "hub"] (spHd S Y.C Bd.C) := by
  have GH : FnOk P w K mg base (L2.CX P w) (k + 3) H_.f H_.fd ["web", "value"] (spNHb S Y.C) := ok_nhb (M := Y.toWebM) H_.F B I2_ I_
  have GM : FnOk P w K mg base CX0 (k + 3) M_.f M_.fd ["web", "hub"] (spHM Y.C) := ok_hm (W := Y.toWebC) M_.F
  refine okMB F scBH (fun vs H Q E h => ?_) (fun cdv A outer s H vs Q E hr h => ?_)
  · obtain ⟨a, b, v, x, rfl, _⟩ := h
    rfl
  · obtain ⟨a, b, v, x, rfl, hB, r, h⟩ := h
    refine ⟨_, (pss_cons (ps_expr (pe_call GH hr (by rfl) H_.g H_.F.kp H_.b .nil (passes_call (takes_of rfl rfl rfl rfl) (fun _ _ _ _ h => h)) (pa_cons (pe_fld (pv 0) rfl) (pa_cons (pv 1) pa_nil))))
      (pss_one (ps_ret (pe_ix ix_seq (pe_fld (pv 0) rfl) (pe_call GM hr (by rfl) M_.g M_.F.kp M_.b .nil pass0 (pa_cons (pe_fld (pv 0) rfl) (pa_cons (pv 1) pa_nil))) (fun _ _ => rfl))))), ?_⟩
    refine q_ex (c_op (a_op (fldB (Bd := Bd) hB (ev_var rfl) Bd.n1 fun w1 s1 H1 e1 hi1 => ⟨_, rfl, a_op (v_op rfl (n_op ⟨w1, b.web, v, x, rfl, hi1.w, r.up e1, ?_⟩))⟩)))
    rcases h with ⟨hf, q⟩ | ⟨h, j, z, rfl, hj, hz, q⟩
    · rw [hf, if_neg Bool.false_ne_true]
      exact Rz.up e1 q
    · have ht : hubB (.int h) b.web.hubs = true := decide_eq_true (List.mem_of_getElem? hj.1)
      rw [ht, if_pos rfl]
      intro H2 e2
      have e12 := e1.trans e2
      cases r
      refine s_re (op_op (fldB (Bd := Bd) (hB.up e12) (ev_var rfl) Bd.n2 fun w3 s3 H3 e3 hi3 => ⟨_, rfl, c_op (a_op (fldB (Bd := Bd) ((hB.up e12).up e3) (ev_var rfl) Bd.n1 fun w4 s4 H4 e4 hi4 => ⟨_, rfl, a_op (v_op rfl (n_op ⟨w4, b.web, h, j, rfl, hi4.w, hj.1, hj.2, fun H5 e5 => ?_⟩))⟩))⟩))
      exact sg_at ((hi3.up e4).up e5) hz (q H5 (((e12.trans e3).trans e4).trans e5))
abbrev sBS : Stmt := bodS 5
theorem scBS : FnScope ["self", "tie"] ["self", "tie"] (defScope sBS) := ⟨rfl, rfl, rfl, by decide +kernel, rfl, by decide +kernel, by decide +kernel⟩
def spSd (S : Es P w K mg base) (W C : Addr) : Sp := fun vs H Q E => ∃ (a : Addr) (b : BodD) (v : V) (x : Va), vs = [.ref a, v] ∧ BodH W C H a b ∧ Rv H v x ∧
  ((tieB x b.web.stiff = false ∧ Rz S H E (.mark x)) ∨ ∃ p j z, isNums x = true ∧ intsV x = [p.1, p.2] ∧ FirstAt b.web.stiff p j ∧ b.sg[b.web.hubs.length + j]? = some z ∧ ∀ H2, Ex H H2 → Q (.int z) H2)
theorem ok_sd {S : Es P w K mg base} {n : Nat} {Y : WebY S n} {Bd : BodC K mg} {f : Addr} {fd : FuncData} {k : Nat} (F : MthB K "side" sBS f fd) (B : Bu mg) (S_ : FnA K mg "is_stiff" sStf ["web", "value"]) (N_ : FnA K mg "is_numbers" sNum ["value"]) (I_ : FnA K mg "is_integer" sIsI ["value"]) (M_ : FnA K mg "tie_mark" sTM ["web", "tie"]) : FnOk P w K mg base (L2.CX P w) (k + 4) f fd ["self", "tie"] (spSd S Y.C Bd.C) := by
  have GS : FnOk P w K mg base CX0 (k + 3) S_.f S_.fd ["web", "value"] (spStf Y.C) := ok_stf (W := Y.toWebC) S_.F B N_ I_
  have GM : FnOk P w K mg base CX0 (k + 3) M_.f M_.fd ["web", "tie"] (spTM Y.C) := ok_tm (W := Y.toWebC) M_.F B
  refine okMB F scBS (fun vs H Q E h => ?_) (fun cdv A outer s H vs Q E hr h => ?_)
  · obtain ⟨a, b, v, x, rfl, _⟩ := h
    rfl
  · obtain ⟨a, b, v, x, rfl, hB, r, h⟩ := h
    refine ⟨_, (pss_cons (ps_if (pt_not (pt_val (pe_call GS hr (by rfl) S_.g S_.F.kp S_.b .nil pass0 (pa_cons (pe_fld (pv 0) rfl) (pa_cons (pv 1) pa_nil))))) (pss_one (ps_rs1 S.mark (hr.mono (by omega)) (pv 1) (takes_of rfl rfl rfl rfl))) pss_nil)
      (pss_one (ps_ret (pe_ix ix_seq (pe_fld (pv 0) rfl) (pe_call GM hr (by rfl) M_.g M_.F.kp M_.b .nil pass0 (pa_cons (pe_fld (pv 0) rfl) (pa_cons (pe_tupleOf rfl B.tuple (pv 1)) pa_nil))) (fun _ _ => rfl))))), ?_⟩
    refine q_if0 (c_op (a_op (fldB (Bd := Bd) hB (ev_var rfl) Bd.n1 fun w1 s1 H1 e1 hi1 => ⟨_, rfl, a_op (v_op rfl (n_op ⟨w1, b.web, v, x, rfl, hi1.w, r.up e1, fun H2 e2 => ⟨_, rfl, ?_⟩⟩))⟩)))
    have e12 := e1.trans e2
    rcases h with ⟨hf, q⟩ | ⟨p, j, z, hn, hx, hj, hz, q⟩
    · rw [hf]
      exact iteT ⟨_, rfl, rs_mark q e12 (r.up e12)⟩
    · have ht : tieB x b.web.stiff = true := by
        unfold tieB
        rw [hn, hx]
        exact decide_eq_true (List.mem_map.mpr ⟨p, List.mem_of_getElem? hj.1, rfl⟩)
      rw [ht]
      refine iteF (nx_op ?_)
      obtain ⟨ta, rfl, hS, hl⟩ := nums_seq r hn
      rw [hx] at hS
      refine s_re (op_op (fldB (Bd := Bd) (hB.up e12) (ev_var rfl) Bd.n2 fun w3 s3 H3 e3 hi3 => ⟨_, rfl, c_op (a_op (fldB (Bd := Bd) ((hB.up e12).up e3) (ev_var rfl) Bd.n1 fun w4 s4 H4 e4 hi4 => ⟨_, rfl, a_op (th_op (v_op rfl ?_))⟩))⟩))
      have e14 := (e12.trans e3).trans e4
      refine tup_op1 (hS.up e14) fun t H5 e5 ht5 => n_op ⟨w4, t, b.web, p, j, rfl, (hi4.up e5).w, ?_, hj.1, hj.2, fun H6 e6 => ?_⟩
      · exact ht5
      · refine sg_at (j := b.web.hubs.length + j) (((hi3.up e4).up e5).up e6) hz ?_
        exact q H6 ((e14.trans e5).trans e6)
end
end KW
namespace KW
open PySem PySem.Spec PyProof.Rows L2 KR KS KX Evl StX
/-! ### a right setting, passed -/
def Signs (sg : List Int) : Prop := ∀ s ∈ sg, s = 1 ∨ s = -1
def SgV (d : WebD) (sg : List Int) (H : Hp) (v : V) : Prop := ∃ x, Rv H v x ∧ isSet d x = true ∧ intsV x = sg
theorem set_ok {d : WebD} {sg : List Int} (hl : sg.length = nM d) (hs : Signs sg) {x : Va} (h : seqV x = some (sg.map Va.int)) : isSet d x = true ∧ intsV x = sg := by
  constructor
  · unfold isSet
    rw [h]
    refine Bool.and_eq_true_iff.mpr ⟨by rw [List.length_map]; exact decide_eq_true hl, List.all_eq_true.mpr fun y hy => ?_⟩
    obtain ⟨i, hi, rfl⟩ := List.mem_map.mp hy
    unfold isSg
    rcases hs i hi with h | h
    · rw [h]; rfl
    · rw [h]; rfl
  · unfold intsV itemsV
    rw [h]
    show (sg.map Va.int).map intV = sg
    rw [List.map_map]
    exact List.map_id sg
theorem sgv_lst {d : WebD} {sg : List Int} {H : Hp} {a : Addr} (hl : sg.length = nM d) (hs : Signs sg) (hz : sg.length ≤ 1000) (h : H a = some (.lst (sg.map V.int))) : SgV d sg H (.ref a) :=
  ⟨.lst (sg.map Va.int), .lst h (rva_ints H sg) (by rw [List.length_map]; exact hz), set_ok hl hs rfl⟩
theorem sgv_tup {d : WebD} {sg : List Int} {H : Hp} {a : Addr} (hl : sg.length = nM d) (hs : Signs sg) (hz : sg.length ≤ 1000) (h : TX H a (sg.map V.int)) : SgV d sg H (.ref a) :=
  ⟨.tup (sg.map Va.int), .tup h (rva_ints H sg) (by rw [List.length_map]; exact hz), set_ok hl hs rfl⟩
section
variable {P : Program} {w : World} {K : PySem.W.Frag} {mg : Str → Option Value} {base : Heap}
theorem bi_ok {S : Es P w K mg base} {W : WebC K mg} (Z : WebE K W.C) {C : Addr} {d : WebD} {sg : List Int} {H : Hp} {x dx wa : Addr} {v : V} {Q : Hp → Prop} {E : XK} (hx : H x = none) (hdx : H dx = none) (hW : WebH W.C H wa d) (hv : SgV d sg H v) (q : ∀ H2, Ex H H2 → BodH W.C C H2 x ⟨d, sg⟩ → Q H2) :
    spBI S W.C C [.ref x, .ref wa, v] (upd (upd H dx (.own x)) x (.ins C dx [])) (fun v H2 => v = .non ∧ Q H2) E := by
  obtain ⟨y, r, hs, rfl⟩ := hv
  refine ⟨x, dx, H, .ref wa, v, true, rfl, rfl, hx, hdx, web_is Z hW, ?_⟩
  rw [if_pos rfl]
  refine ⟨wa, d, y, rfl, hW, r, ?_⟩
  rw [hs, if_pos rfl]
  exact fun H2 e2 hB => ⟨rfl, q H2 e2 hB⟩
theorem mkb {S : Es P w K mg base} {W : WebC K mg} (Z : WebE K W.C) {C : Addr} {d : WebD} {sg : List Int} {t : TA} {σ : L2.St} {H : Hp} {Q : VK} {E : XK} (ht : ∀ Q2 : List V → Hp → Prop, (∀ wa v H2, Ex H H2 → WebH W.C H2 wa d → SgV d sg H2 v → Q2 [.ref wa, v] H2) → t σ H Q2) (q : ∀ c H2, Ex H H2 → BodH W.C C H2 c ⟨d, sg⟩ → Q (.ref c) H2) : tMake C (spBI S W.C C) [] E t σ H Q :=
  m_op (ht _ fun wa v H1 e1 hW hv x dx hx hdx _ => bi_ok Z hx hdx hW hv fun H2 e2 hB => q x H2 (e1.trans e2) hB)
/-- the class Body, made at level n -/
structure BodY (S : Es P w K mg base) (W : Addr) (n : Nat) extends BodC K mg where
  fI : Addr
  fdI : FuncData
  M : Mk K C fI
  FI : FnOk P w K mg base (L2.CX P w) n fI fdI nBI (spBI S W C)
  bI : L2.Binds K fdI nBI []
  kI : KBn K fdI nBI 1 ["setting", "web"] (fun us ws => us ++ ws.reverse) (fun vs zs => vs ++ zs.reverse)
/-! ### turned -/
def turnS (sg : List Int) (ms : List Int) : List Int := ms.foldl (fun s m => s.set m.toNat (-(s.getD m.toNat 0))) sg
theorem turn_len : ∀ (ms sg : List Int), (turnS sg ms).length = sg.length
  | [], _ => rfl
  | m :: ms, sg => by
    show (turnS (sg.set m.toNat _) ms).length = _
    rw [turn_len ms, List.length_set]
theorem turn_snoc (sg ms : List Int) (m : Int) : turnS sg (ms ++ [m]) = (turnS sg ms).set m.toNat (-((turnS sg ms).getD m.toNat 0)) := by
  unfold turnS
  rw [List.foldl_append]
  rfl
theorem set_signs {sg : List Int} (h : Signs sg) (j : Nat) : Signs (sg.set j (-(sg.getD j 0))) := fun s hs => by
  by_cases hj : j < sg.length
  · rcases List.mem_or_eq_of_mem_set hs with hs | hs
    · exact h s hs
    · have h2 := h sg[j] (List.getElem_mem hj)
      have h3 : sg.getD j 0 = sg[j] := getD_at (List.getElem?_eq_getElem hj)
      rw [h3] at hs
      omega
  · rw [List.set_eq_of_length_le (by omega)] at hs
    exact h s hs
theorem turn_signs : ∀ (ms sg : List Int), Signs sg → Signs (turnS sg ms)
  | [], _, h => h
  | m :: ms, sg, h => turn_signs ms _ (set_signs h _)
abbrev sBT : Stmt := bodS 6
abbrev nBT : List Str := ["self", "lot", "setting", "mark"]
theorem scBT : FnScope nBT ["self", "lot"] (defScope sBT) := ⟨rfl, rfl, rfl, by decide +kernel, rfl, by decide +kernel, by decide +kernel⟩
def spTn (S : Es P w K mg base) (W C : Addr) : Sp := fun vs H Q E => ∃ (a : Addr) (b : BodD) (v : V) (x : Va), vs = [.ref a, v] ∧ BodH W C H a b ∧ Rv H v x ∧ match lotM b.web x "lot" with
  | .error r => Rz S H E r
  | .ok ms => ∀ c H2, Ex H H2 → BodH W C H2 c ⟨b.web, turnS b.sg ms⟩ → Q (.ref c) H2
theorem lot_ok {d : WebD} {x : Va} {z : Str} {ms : List Int} (h : lotM d x z = .ok ms) : isNums x = true ∧ ms = intsV x ∧ (∀ m ∈ ms, 0 ≤ m ∧ m < (nM d : Int)) ∧ ms.Nodup := by
  unfold lotM at h
  split at h
  · rename_i hn
    split at h
    · cases h
    · rename_i hb
      split at h
      · cases h
      · rename_i hf
        cases h
        refine ⟨hn, rfl, fun m hm => ?_, ?_⟩
        · have := badP_none hb m hm
          omega
        · have := ft_nodup (intsV x) [] List.nodup_nil hf
          simpa using this
  · cases h
theorem body_short {W C : Addr} {H : Hp} {a : Addr} {b : BodD} (h : BodH W C H a b) : b.sg.length = nM b.web ∧ Signs b.sg ∧ b.sg.length ≤ 1000 := h.1
theorem ok_tn {S : Es P w K mg base} {n : Nat} {Y : WebY S n} {k : Nat} {Bd : BodY S Y.C (k + 5)} {f : Addr} {fd : FuncData} (F : MthB K "turned" sBT f fd) (B : Bu mg) (L_ : FnA K mg "need_lot" sNLt ["web", "value", "part"]) (GL : FnOk P w K mg base (L2.CX P w) (k + 6) L_.f L_.fd ["web", "value", "part"] (spNLt S Y.C)) : FnOk P w K mg base (L2.CX P w) (k + 7) f fd ["self", "lot"] (spTn S Y.C Bd.C) := by
  refine okMB F scBT (fun vs H Q E h => ?_) (fun cdv A outer s H vs Q E hr h => ?_)
  · obtain ⟨a, b, v, x, rfl, _⟩ := h
    rfl
  · obtain ⟨a, b, v, x, rfl, hB, r, q⟩ := h
    obtain ⟨hl, hs, hm⟩ := body_short hB
    refine ⟨_, (pss_cons (ps_expr (pe_call GL hr (by rfl) L_.g L_.F.kp L_.b .nil (passes_call (takes_of rfl rfl rfl rfl) (fun _ _ _ _ h => h)) (pa_cons (pe_fld (pv 0) rfl) (pa_cons (pv 1) (pa_cons pe_str pa_nil)))))
      (pss_cons (ps_set (i := 2) scBT.nd rfl (Or.inl rfl) (pe_callTy call_list_of rfl B.list boot_list (pa_cons (pe_fld (pv 0) rfl) pa_nil)))
      (pss_cons (ps_for (passes_of rfl) rfl (pi_seq (pv 1)) (pg_name (i := 3) scBT.nd rfl (Or.inl rfl)) (pss_one (ps_asg (pe_un un_neg (pe_ix ix_seq (pv 2) (pv 3) (fun _ _ => rfl))) (pg_sub (pv 2) (pv 3) set_list))))
      (pss_one (ps_ret (pe_make Bd.M Bd.FI hr rfl Bd.g Bd.bI .nil (passes_call (takes_of rfl rfl rfl rfl) (fun _ _ _ _ h => h)) (pa_cons (pe_fld (pv 0) rfl) (pa_cons (pv 2) pa_nil)))))))), ?_⟩
    refine q_ex (c_op (a_op (fldB (Bd := Bd.toBodC) hB (ev_var rfl) Bd.n1 fun w1 s1 H1 e1 hi1 => ⟨_, rfl, a_op (v_op rfl (a_op (k_op (n_op ⟨w1, b.web, v, x, "lot", rfl, hi1.w, r.up e1, ?_⟩))))⟩)))
    cases hM : lotM b.web x "lot" with
    | error rr =>
      rw [hM] at q
      exact Rz.up e1 q
    | ok ms =>
      rw [hM] at q
      intro H2 e2
      have e12 := e1.trans e2
      obtain ⟨hn, rfl, hbd, hnd⟩ := lot_ok hM
      obtain ⟨ta, rfl, hS, hz⟩ := nums_seq r hn
      generalize intsV x = ms at q hS hz hbd hnd
      refine q_as (cb_op (a_op (fldB (Bd := Bd.toBodC) (hB.up e12) (ev_var rfl) Bd.n2 fun w3 s3 H3 e3 hi3 => ⟨_, rfl, n_op ⟨s3, _, rfl, .inr hi3.s.st, fun L hL => ?_⟩⟩)))
      have e13 := e12.trans e3
      have e4 : Ex H3 (upd H3 L (.lst (b.sg.map V.int))) := Ex.new hL
      have hL4 : (upd H3 L (.lst (b.sg.map V.int))) L = some (.lst (b.sg.map V.int)) := upd_same
      have hLH : H L = none := fresh_back e13 hL
      generalize upd H3 L (.lst (b.sg.map V.int)) = H4 at e4 hL4 ⊢
      have e14 := e13.trans e4
      refine s_forSq (H0 := H) (H := H4) (ev_var rfl) hS.sq e14 (fun i σ' H' => ∃ y, σ' = [some (.ref a), some (.ref ta), some (.ref L), y] ∧ Ex H H' ∧ H' L = some (.lst ((turnS b.sg (ms.take i)).map V.int)))
        (fun H5 e5 => ⟨none, rfl, e14.trans e5, e5 _ _ hL4⟩) (fun i σ' H' _ ⟨_, _, e, _⟩ => e) ?_ ?_
      · rintro i v σ' H' hi ⟨y, rfl, e5, hL5⟩
        obtain ⟨m, hm2, rfl⟩ := int_at hi
        have hb := hbd m (List.mem_of_getElem? hm2)
        have hlen : (turnS b.sg (ms.take i)).length = nM b.web := by rw [turn_len, hl]
        have hlt : m.toNat < (turnS b.sg (ms.take i)).length := by omega
        have hat : (turnS b.sg (ms.take i))[m.toNat]? = some ((turnS b.sg (ms.take i)).getD m.toNat 0) := by
          rw [List.getElem?_eq_getElem hlt]
          exact congrArg some (getD_at (List.getElem?_eq_getElem hlt)).symm
        refine ⟨_, rfl, _, rfl, .inl ⟨L, _, m, .int ((turnS b.sg (ms.take i)).getD m.toNat 0), rfl, rfl, sq_of hL5, at_of (j := m.toNat) (by omega) (by rw [List.getElem?_map, hat]; rfl), ?_⟩⟩
        refine ⟨_, rfl, _, rfl, _, rfl, L, _, m, m.toNat, rfl, rfl, hL5, ?_, ?_⟩
        · rw [List.length_map]
          unfold L2.ixN
          rw [if_pos (by omega), if_pos (by omega)]
        · refine ⟨_, rfl, Ex.mut e5 hLH, ?_⟩
          rw [upd_same, List.take_add_one, hm2]
          show _ = some (HO.lst ((turnS b.sg (ms.take i ++ [m])).map V.int))
          rw [turn_snoc, List.map_set]
      · rintro σ' H' ⟨y, rfl, e5, hL5⟩
        rw [List.length_map, List.take_length] at hL5
        have hlen : (turnS b.sg ms).length = nM b.web := by rw [turn_len, hl]
        refine s_re (mkb Y.Z (fun Q2 q2 => a_op (fldB (Bd := Bd.toBodC) (hB.up e5) (ev_var rfl) Bd.n1 fun w6 s6 H6 e6 hi6 => ⟨_, rfl, a_op (v_op rfl (n_op (q2 w6 _ H6 e6 hi6.w (sgv_lst hlen (turn_signs _ _ hs) ?_ (e6 _ _ hL5)))))⟩)) fun c H7 e7 hB7 => q c H7 (e5.trans e7) hB7)
        rw [turn_len]
        exact hm
end
end KW
namespace KW
open PySem PySem.Spec PyProof.Rows L2 KR KS KX Evl StX
/-! ### slices of tuples -/
theorem sIx_none (n d : Nat) : HT.sIx n d none = d := rfl
theorem sIx_nat (n d m : Nat) : HT.sIx n d (some (m : Int)) = min m n := by
  unfold HT.sIx
  show (if (m : Int) < 0 then _ else _) = _
  rw [if_neg (by omega)]
  rfl
theorem cut_take {α : Type} (f : α → V) (l : List α) (m : Nat) : cutV (l.map f) none (some (m : Int)) = (l.take m).map f := by
  unfold cutV
  rw [sIx_none, sIx_nat, List.drop_zero, List.length_map, Nat.sub_zero, ← List.map_take]
  congr 1
  by_cases h : m ≤ l.length
  · rw [Nat.min_eq_left h]
  · rw [Nat.min_eq_right (by omega), List.take_length, List.take_of_length_le (by omega)]
theorem cut_dropN {α : Type} (f : α → V) (l : List α) (m : Nat) : cutV (l.map f) (some (m : Int)) none = (l.drop m).map f := by
  unfold cutV
  rw [sIx_none, sIx_nat, List.length_map, ← List.map_drop, ← List.map_take]
  congr 1
  by_cases h : m ≤ l.length
  · rw [Nat.min_eq_left h, List.take_of_length_le (by rw [List.length_drop]; exact Nat.le_refl _)]
  · rw [Nat.min_eq_right (by omega), List.drop_length, List.drop_of_length_le (by omega), List.take_nil]
theorem slA {K : PySem.W.Frag} {H : Hp} {a : Addr} {xs : List V} {lo hi : Option Int} {Q : VK} (h : TX H a xs) (q : ∀ p H2, Ex H H2 → TX H2 p (cutV xs lo hi) → Q (.ref p) H2) : rSlA K (.ref a) lo hi H Q :=
  ⟨a, xs, rfl, h.st, fun e => q a H (Ex.refl H) (by
    unfold cutV
    rw [e.1, e.2, List.drop_zero, Nat.sub_zero, List.take_length]
    exact h), fun _ p hp => q p _ (Ex.new hp) (.inl upd_same)⟩
section
variable {P : Program} {w : World} {K : PySem.W.Frag} {mg : Str → Option Value} {base : Heap}
theorem lj_cwT {a : Addr} {xs : List V} {t : TT} {te : TE} {j : Nat} {vs : List Nat} {σ : L2.St} {Q : VK} {H1 : Hp} (f : Nat → Bool) (v : Nat → V) (hx : TX H1 a xs) (hz : xs.length ≤ 40000) (hw : ∀ x, wipe ((wipe σ vs).set j (some x)) vs = wipe σ vs)
    (ht : ∀ (i : Nat) (x : V) H2, Ex H1 H2 → xs[i]? = some x → EvT t ((wipe σ vs).set j (some x)) H2 (f i)) (he : ∀ (i : Nat) (x : V) H2, Ex H1 H2 → xs[i]? = some x → f i = true → Ev te ((wipe σ vs).set j (some x)) H2 (v i))
    (q : ∀ D H2, H1 D = none → Ex H1 H2 → H2 D = some (.lst (given xs.length f v)) → Q (.ref D) H2) : LJ (Itt K a) (gName j) t te vs σ Q H1 := fun D hD =>
  lc_it walk_tup (Cw H1 f v D) ⟨hD, Ex.new hD, upd_same⟩ (fun i H' _ p => (hx.up p.2.1).st) (fun i x H' H'' hi p ⟨e2, hi2⟩ => by
    subst e2
    exact ⟨hw x, cw_turn p (by have := (List.getElem?_eq_some_iff.mp hi2).1; omega) (ht i x H1 (Ex.refl H1) hi2) (he i x H1 (Ex.refl H1) hi2)⟩) (fun H' p => q D H' hD p.2.1 p.2.2)
theorem slo_op {j i : Nat} {σ : L2.St} {H : Hp} {Q : VK} {n : Int} {x : V} (hj : σ[j]? = some (some x)) (hi : σ[i]? = some (some (.int n))) (h : rSlA K x (some n) none H Q) : tSl (rSlA K) (tVar j) (tPart (tVar i)) tNoPart σ H Q := ⟨x, hj, _, hi, n, rfl, h⟩
theorem shi_op {j i : Nat} {σ : L2.St} {H : Hp} {Q : VK} {n : Int} {x : V} (hj : σ[j]? = some (some x)) (hi : σ[i]? = some (some (.int n))) (h : rSlA K x none (some n) H Q) : tSl (rSlA K) (tVar j) tNoPart (tPart (tVar i)) σ H Q := ⟨x, hj, _, hi, n, rfl, h⟩
/-! ### mirrored_setting -/
def mirS (d : WebD) (sg : List Int) : List Int := (sg.take d.hubs.length).map (fun s => -s) ++ sg.drop d.hubs.length
abbrev sMS : Stmt := topS 68
abbrev nMS : List Str := ["web", "setting", "hands", "sign"]
theorem scMS : FnScope nMS ["web", "setting"] (defScope sMS) := ⟨rfl, rfl, rfl, by decide +kernel, rfl, by decide +kernel, by decide +kernel⟩
def spMS (C : Addr) : Sp := fun vs H Q _ => ∃ (a s : Addr) (d : WebD) (sg : List Int), vs = [.ref a, .ref s] ∧ WebH C H a d ∧ TX H s (sg.map V.int) ∧ sg.length ≤ 1000 ∧ ∀ t H2, Ex H H2 → TX H2 t ((mirS d sg).map V.int) → Q (.ref t) H2
theorem catX {K : PySem.W.Frag} {H : Hp} {a b : Addr} {xs ys : List V} {Q : VK} (ha : TX H a xs) (hb : TX H b ys) (hl : xs.length + ys.length ≤ sizeLine) (q : ∀ m H2, Ex H H2 → TX H2 m (xs ++ ys) → Q (.ref m) H2) : rCatA K (.ref a) (.ref b) H Q :=
  ⟨a, b, xs, ys, rfl, rfl, ha.st, hb.st, hl, fun z => q b H (Ex.refl H) (by rw [z]; exact hb), fun _ z => q a H (Ex.refl H) (by rw [z, List.append_nil]; exact ha), fun _ _ p hp => q p _ (Ex.new hp) (.inl upd_same)⟩
theorem ok_ms {W : WebC K mg} {f : Addr} {fd : FuncData} {k : Nat} (F : FnP K "mirrored_setting" sMS f fd) (B : Bu mg) : FnOk P w K mg base CX0 (k + 1) f fd ["web", "setting"] (spMS W.C) := by
  refine ok0 F scMS (fun vs H Q E h => ?_) (fun cdv A outer s H vs Q E hr h => ?_)
  · obtain ⟨a, s, d, sg, rfl, _⟩ := h
    rfl
  · obtain ⟨a, s2, d, sg, rfl, hW, hs, hz, q⟩ := h
    refine ⟨_, (pss_cons (ps_set (i := 2) scMS.nd rfl (Or.inl rfl) (pe_callB call_len_seq rfl B.len PySem.boot_len (pa_cons (pe_fld (pv 0) rfl) pa_nil)))
      (pss_one (ps_ret (pe_op op_catA (pe_tupleOf rfl B.tuple (pe_lc (own := [("sign", 3)]) (g := gName 3) rfl scMS.nd (pi_seq (pe_slice sl_tupA (pv 1) po_none (po_some (pv 2)))) (blkOk_by (N := nMS) (sc := (defScope sMS)) (by decide +kernel)) (fun _ _ _ _ _ => (pg_name (i := 3) scMS.nd rfl (Or.inl rfl))) (fun _ _ _ _ _ => pts_nil) (fun _ _ _ _ _ => (pe_un un_neg (pv 3))))) (pe_tupleOf rfl B.tuple (pe_slice sl_tupA (pv 1) (po_some (pv 2)) po_none)))))), ?_⟩
    refine q_as (cb_op (a_op (fld (W := W) hW (ev_var rfl) W.n4 fun w1 H1 e1 hi1 => ⟨_, rfl, n_op ⟨w1.hA, _, rfl, .inr hi1.h.st, ?_⟩⟩)))
    rw [List.length_map]
    refine s_re (op_op (th_op (lcS (v_op rfl ⟨_, rfl, _, rfl, slA (hs.up e1) fun p H2 e2 hp => ⟨p, rfl, .inr ⟨_, hp.st, ?_⟩⟩⟩))))
    rw [cut_take] at hp
    have hW2 := hW.up (e1.trans e2)
    have hs2 := hs.up (e1.trans e2)
    refine lj_cwT (fun _ => true) (fun i => V.int (-((sg.take d.hubs.length).getD i 0))) hp (by rw [List.length_map, List.length_take]; omega) (fun _ => rfl) (fun _ _ _ _ _ => et_yes) (fun i x H3 e3 hx _ H4 e4 Q4 q4 => ?_) (fun D H3 hD e3 hd => ?_)
    · obtain ⟨n, hn, rfl⟩ := int_at hx
      rw [getD_at hn] at q4
      exact ⟨_, rfl, n, rfl, q4 H4 (Ex.refl H4)⟩
    · rw [given_ints (fun s => V.int (-s)), show (sg.take d.hubs.length).map (fun s => V.int (-s)) = ((sg.take d.hubs.length).map fun s => -s).map V.int from by rw [List.map_map]; rfl] at hd
      refine .inl ⟨D, _, rfl, sq_of hd, fun t1 ht1 => ?_⟩
      have e4 : Ex H3 (upd H3 t1 (.tup (((sg.take d.hubs.length).map fun s => -s).map V.int))) := Ex.new ht1
      refine th_op (slo_op rfl rfl (slA (hs2.up (e3.trans e4)) fun p2 H5 e5 hp5 => ?_))
      rw [cut_dropN] at hp5
      refine .inr ⟨p2, _, rfl, hp5.st, ?_⟩
      refine catX (.inl (e5 _ _ upd_same)) hp5 (by rw [List.length_map, List.length_map, List.length_map, List.length_take, List.length_drop]; exact Nat.le_of_lt (sz_lt (by omega))) fun m H6 e6 hm => ?_
      refine q m H6 ((((e1.trans e2).trans e3).trans e4).trans (e5.trans e6)) ?_
      rw [← List.map_append] at hm
      exact hm
end
end KW
namespace KW
open PySem PySem.Spec PyProof.Rows L2 KR KS KX Evl StX
theorem mir_len (d : WebD) (sg : List Int) : (mirS d sg).length = sg.length := by
  unfold mirS
  rw [List.length_append, List.length_map, List.length_take, List.length_drop]
  omega
theorem mir_signs (d : WebD) {sg : List Int} (h : Signs sg) : Signs (mirS d sg) := fun s hs => by
  unfold mirS at hs
  rcases List.mem_append.mp hs with hs | hs
  · obtain ⟨t, ht, rfl⟩ := List.mem_map.mp hs
    have := h t (List.mem_of_mem_take ht)
    omega
  · exact h s (List.mem_of_mem_drop hs)
section
variable {P : Program} {w : World} {K : PySem.W.Frag} {mg : Str → Option Value} {base : Heap}
/-! ### mirrored -/
abbrev sBM : Stmt := bodS 7
theorem scBM : FnScope ["self"] ["self"] (defScope sBM) := ⟨rfl, rfl, rfl, by decide +kernel, rfl, by decide +kernel, by decide +kernel⟩
def spMi (W C : Addr) : Sp := fun vs H Q _ => ∃ (a : Addr) (b : BodD), vs = [.ref a] ∧ BodH W C H a b ∧ ∀ c H2, Ex H H2 → BodH W C H2 c ⟨b.web, mirS b.web b.sg⟩ → Q (.ref c) H2
theorem ok_mi {S : Es P w K mg base} {n : Nat} {Y : WebY S n} {k : Nat} {Bd : BodY S Y.C (k + 5)} {f : Addr} {fd : FuncData} (F : MthB K "mirrored" sBM f fd) (B : Bu mg) (M_ : FnA K mg "mirrored_setting" sMS ["web", "setting"]) : FnOk P w K mg base (L2.CX P w) (k + 7) f fd ["self"] (spMi Y.C Bd.C) := by
  have GM : FnOk P w K mg base CX0 (k + 6) M_.f M_.fd ["web", "setting"] (spMS Y.C) := ok_ms (W := Y.toWebC) M_.F B
  refine okMB F scBM (fun vs H Q E h => ?_) (fun cdv A outer s H vs Q E hr h => ?_)
  · obtain ⟨a, b, rfl, _⟩ := h
    rfl
  · obtain ⟨a, b, rfl, hB, q⟩ := h
    obtain ⟨hl, hs, hm⟩ := body_short hB
    refine ⟨_, (pss_one (ps_ret (pe_make Bd.M Bd.FI hr rfl Bd.g Bd.bI .nil (passes_call (takes_of rfl rfl rfl rfl) (fun _ _ _ _ h => h)) (pa_cons (pe_fld (pv 0) rfl) (pa_cons (pe_call GM hr (by rfl) M_.g M_.F.kp M_.b .nil pass0 (pa_cons (pe_fld (pv 0) rfl) (pa_cons (pe_fld (pv 0) rfl) pa_nil))) pa_nil))))), ?_⟩
    refine s_re (mkb Y.Z (fun Q2 q2 => a_op (fldB (Bd := Bd.toBodC) hB (ev_var rfl) Bd.n1 fun w1 s1 H1 e1 hi1 => ⟨_, rfl, a_op (c_op (a_op (fldB (Bd := Bd.toBodC) (hB.up e1) (ev_var rfl) Bd.n1 fun w2 s2 H2 e2 hi2 => ⟨_, rfl, a_op (fldB (Bd := Bd.toBodC) ((hB.up e1).up e2) (ev_var rfl) Bd.n2 fun w3 s3 H3 e3 hi3 => ⟨_, rfl, n_op ⟨w2, s3, b.web, b.sg, rfl, hi2.w.up e3, hi3.s, hm, fun t H4 e4 ht => ?_⟩⟩)⟩)))⟩)) fun c H7 e7 hB7 => q c H7 e7 hB7)
    have e14 := ((e1.trans e2).trans e3).trans e4
    exact n_op (q2 w1 _ H4 e14 (hi1.w.up ((e2.trans e3).trans e4)) (sgv_tup (by rw [mir_len]; exact hl) (mir_signs _ hs) (by rw [mir_len]; exact hm) ht))
/-! ### with_kind of a web -/
abbrev sWK : Stmt := webS 8
abbrev nWK : List Str := ["self", "piece", "kind", "kinds"]
theorem scWK : FnScope nWK ["self", "piece", "kind"] (defScope sWK) := ⟨rfl, rfl, rfl, by decide +kernel, rfl, by decide +kernel, by decide +kernel⟩
def spWK (C : Addr) : Sp := fun vs H Q _ => ∃ (a : Addr) (ks : List Str) (ts : List (Int × Int)) (hs : List Int) (ss : List (Int × Int)) (z : Str), vs = [.ref a, .int 0, .str z] ∧ WebH C H a (webT ks ts hs ss) ∧ WebT ks ts hs ss ∧ (KW.nam z.cps.toList = true ∧ z.length ≤ 1000) ∧
  ∀ c H2, Ex H H2 → WebH C H2 c (webT (z :: ks.drop 1) ts hs ss) → Q (.ref c) H2
theorem ok_wk {S : Es P w K mg base} {k : Nat} {Y : WebY S (k + 6)} {f : Addr} {fd : FuncData} (F : MthP K "with_kind" sWK f fd) (B : Bu mg) (G : Gc mg) (P_ : FnA K mg "need_piece" sNPc ["web", "value"]) (W_ : FnA K mg "is_within" sWit ["value", "least", "most"]) (I_ : FnA K mg "is_integer" sIsI ["value"]) (N_ : FnA K mg "is_name" sNam ["value"]) : FnOk P w K mg base (L2.CX P w) (k + 8) f fd ["self", "piece", "kind"] (spWK Y.C) := by
  have GP : FnOk P w K mg base (L2.CX P w) (k + 7) P_.f P_.fd ["web", "value"] (spNPc S Y.C) := (ok_npc (k := k) (M := Y.toWebM) P_.F B W_ I_).mono (by omega)
  have GN : FnOk P w K mg base CX0 (k + 7) N_.f N_.fd ["value"] spNam := ok_nam N_.F B G
  refine okMB F scWK (fun vs H Q E h => ?_) (fun cdv A outer s H vs Q E hr h => ?_)
  · obtain ⟨a, ks, ts, hs, ss, z, rfl, _⟩ := h
    rfl
  · obtain ⟨a, ks, ts, hs, ss, z, rfl, hW, T, hz, q⟩ := h
    refine ⟨_, (pss_cons (ps_expr (pe_call GP hr (by rfl) P_.g P_.F.kp P_.b .nil (passes_call (takes_of rfl rfl rfl rfl) (fun _ _ _ _ h => h)) (pa_cons (pv 0) (pa_cons (pv 1) pa_nil))))
      (pss_cons (ps_if (pt_not (pt_val (pe_call GN hr (by rfl) N_.g N_.F.kp N_.b .nil pass0 (pa_cons (pv 2) pa_nil)))) (pss_one (ps_rs1 S.web (hr.mono (by omega)) pe_str (takes_of rfl rfl rfl rfl))) pss_nil)
      (pss_cons (ps_set (i := 3) scWK.nd rfl (Or.inl rfl) (pe_callTy call_list_of rfl B.list boot_list (pa_cons (pe_fld (pv 0) rfl) pa_nil)))
      (pss_cons (ps_asg (pv 2) (pg_sub (pv 3) (pv 1) set_list))
      (pss_one (ps_ret (pe_make Y.M Y.FI hr rfl Y.g Y.bI .nil (passes_call (takes_of rfl rfl rfl rfl) (fun _ _ _ _ h => h)) (pa_cons (pv 3) (pa_cons (pe_fld (pv 0) rfl) (pa_cons (pe_fld (pv 0) rfl) (pa_cons (pe_fld (pv 0) rfl) pa_nil))))))))))), ?_⟩
    have hk := T.len
    have hp : pieceB (.int 0) (webT ks ts hs ss).kinds.length = true := by
      unfold pieceB
      show (decide ((0 : Int) ≤ 0) && decide ((0 : Int) ≤ ((ks.length : Nat) : Int) - 1)) = true
      rw [decide_eq_true (by omega), decide_eq_true (by omega)]
      rfl
    refine q_ex (cl2 rfl rfl ⟨a, _, .int 0, .int 0, rfl, hW, .int 0, ?_⟩)
    rw [hp, if_pos rfl]
    intro H1 e1
    refine q_if0 (cl1 rfl (name_any (.str z hz.2) fun H2 e2 => ⟨_, rfl, ?_⟩))
    rw [show isName (.str z) = true from hz.1]
    refine iteF (nx_op ?_)
    have e12 := e1.trans e2
    refine q_as (cb_op (a_op (fld (W := Y.toWebC) (hW.up e12) (ev_var rfl) Y.n1 fun w3 H3 e3 hi3 => ⟨_, rfl, n_op ⟨w3.kA, _, rfl, .inr hi3.k.st, fun L hL => ?_⟩⟩)))
    have e13 := e12.trans e3
    have hLH : H L = none := fresh_back e13 hL
    refine ⟨_, rfl, _, rfl, _, rfl, L, _, 0, 0, rfl, rfl, upd_same, ?_, ?_⟩
    · unfold L2.ixN
      rw [List.length_map, if_pos (by omega), if_pos (by show (0 : Int) < ((ks.length : Nat) : Int); omega)]
      rfl
    have e5 : Ex H (upd (upd H3 L (.lst ((webT ks ts hs ss).kinds.map V.str))) L (.lst (((webT ks ts hs ss).kinds.map V.str).set 0 (.str z)))) := Ex.mut (e13.trans (Ex.new hL)) hLH
    have hL5 : (upd (upd H3 L (.lst ((webT ks ts hs ss).kinds.map V.str))) L (.lst (((webT ks ts hs ss).kinds.map V.str).set 0 (.str z)))) L = some (.lst ((z :: ks.drop 1).map V.str)) := by
      rw [upd_same]
      congr 2
      show (ks.map V.str).set 0 (.str z) = _
      cases ks with
      | nil => simp at hk
      | cons y ks => rfl
    generalize upd (upd H3 L (.lst ((webT ks ts hs ss).kinds.map V.str))) L (.lst (((webT ks ts hs ss).kinds.map V.str).set 0 (.str z))) = H5 at e5 hL5 ⊢
    have T2 := T.kind_on hz
    have hlk : (z :: ks.drop 1).length = ks.length := by
      rw [List.length_cons, List.length_drop]
      omega
    refine s_re (mk_web (e := webT (z :: ks.drop 1) ts hs ss) (fun Q2 q2 => a_op (v_op rfl (a_op (fld (W := Y.toWebC) (hW.up e5) (ev_var rfl) Y.n2 fun w6 H6 e6 hi6 => ⟨_, rfl, a_op (fld (W := Y.toWebC) ((hW.up e5).up e6) (ev_var rfl) Y.n4 fun w7 H7 e7 hi7 => ⟨_, rfl, a_op (fld (W := Y.toWebC) (((hW.up e5).up e6).up e7) (ev_var rfl) Y.n5 fun w8 H8 e8 hi8 => ⟨_, rfl, n_op (q2 _ H8 ((e6.trans e7).trans e8) ?_)⟩)⟩)⟩)))) fun c H9 e9 h9 => q c H9 (e5.trans e9) h9)
    have tl := T.tl
    have hub : hs.length ≤ 1000 := hW.1.hubs
    have sl : ss.length ≤ 400 := hW.1.stiff
    refine ⟨_, _, _, _, _, _, _, _, z :: ks.drop 1, ts, hs, ss, rfl, T2, rfl, argK_lst (((e6.trans e7).trans e8) _ _ hL5) (by rw [hlk]; omega) T2.nam, argP_tup (.inl ((e7.trans e8) _ _ hi6.t)) (prs_up (e7.trans e8) hi6.pt) (show ts.length ≤ 1000 by omega) (fun p hp => (T.tb p hp).2.1), argI_tup (.inr (hi7.h.up e8)) hub (List.Perm.refl _), argP_tup (.inr hi8.s) hi8.ps (show ss.length ≤ 1000 by omega) fun p hp => (T.tb p (T.si p hp)).2.1⟩
end
end KW
namespace KX
open PySem PySem.Spec PyProof.Rows L2 Evl KR KS
/-! ### dict(zip(xs, ys)), each a list or a tuple -/
section
variable {prog : Program} {w : World} {A : Around} {E : Value → Shared → Prop} {s : Shared} {z TI TO T i1 i2 : Addr} {fp1 fp2 : List Addr} {n1 n2 i : Nat} {P1 P2 : Nat → Value → Prop} {St1 St2 : Nat → Heap → Prop}
theorem zipD2_next_item_held {f : Bool} {oT : Obj} {Q : Value → Shared → Prop} (S : ZipSep2 z TI TO i1 i2 fp1 fp2) (D1 : Draws prog w A i1 fp1 n1 P1 St1) (D2 : Draws prog w A i2 fp2 n2 P2 St2)
    (hz : IsZipHeld s.heap z TI TO T f) (hT : s.heap.get? T = some oT) (hTI : IsTupOf2 s.heap TI (.ref i1) (.ref i2)) (st1 : St1 i s.heap) (st2 : St2 i s.heap) (hlt1 : i < n1) (hlt2 : i < n2)
    (hQ : ∀ x1 x2 h' tk, P1 i x1 → P2 i x2 → IsZipHeld h' z TI TO T true → St1 (i + 1) h' → St2 (i + 1) h' → IsTupOf2 h' s.heap.objs.size x1 x2 → h'.objs.size = s.heap.objs.size + 1 →
      (∀ c o, c ≠ z → c ≠ i1 → c ≠ i2 → s.heap.get? c = some o → h'.get? c = some o) → Q (.ref s.heap.objs.size) { s with heap := h', toks := tk }) :
    wpAny (model prog w) A (Builtin.«zip.__next__» ⟨[.ref z], []⟩) (fun fin s' => ∃ v, fin = .done (.ret v) ∧ Q v s') E s := by
  obtain ⟨hp, g, d, tk0, os⟩ := s
  show wpAny _ _ (field (.ref z) 2 >>= _) _ _ _
  refine wpAny_bind (wpAny_field hz rfl (x := .bool false) rfl ?_)
  show wpAny _ _ (field (.ref z) 3 >>= _) _ _ _
  refine wpAny_bind (wpAny_field hz rfl (x := .ref TI) rfl ?_)
  refine wpAny_bind (wpAny_seqItems hTI rfl ?_)
  show wpAny _ _ (Builtin.SmallTypes.ownedTupleIsFree (.ref z) >>= _) _ _ _
  refine wpAny_bind (wpAny_tupleHeld_zip hz hT fun h₁ hz₁ hs₁ => ?_)
  replace hs₁ : Heap.SameBut z hp h₁ := hs₁
  simp only [Bool.false_eq_true, if_false]
  refine wpAny_bind ?_
  rw [← Array.forIn_toList]
  simp only [List.forIn_cons, List.forIn_nil]
  refine wpAny_bind (wpAny_bind (wpAny_holding ?_))
  show wpAny _ _ (Builtin.SmallTypes.nextOf (.ref i1) >>= _) _ _ ⟨h₁, g, d, tk0, os⟩
  refine wpAny_bind (D1.item i _ _ _ hlt1 (D1.over st1 hs₁ S.zf1) fun x1 p1 tk1 hx1 sn1 hp1 => wpAny_pure ?_)
  replace hp1 : Heap.SameBut i1 h₁ p1 := hp1
  refine wpAny_pure ?_
  refine wpAny_bind (wpAny_bind (wpAny_holding ?_))
  show wpAny _ _ (Builtin.SmallTypes.nextOf (.ref i2) >>= _) _ _ ⟨p1, g, d, tk1, os⟩
  refine wpAny_bind (D2.item i _ _ _ hlt2 (D2.over (D2.over st2 hs₁ S.zf2) hp1 S.sep1_2) fun x2 p2 tk2 hx2 sn2 hp2 => wpAny_pure ?_)
  replace hp2 : Heap.SameBut i2 p1 p2 := hp2
  refine wpAny_pure (wpAny_pure ?_)
  show wpAny _ _ (newTuple [x1, x2] >>= _) _ _ ⟨p2, g, d, tk2, os⟩
  refine wpAny_bind (wpAny_newTuple ?_)
  have hsz : p2.objs.size = hp.objs.size := by rw [hp2.1, hp1.1, hs₁.1]
  have hz₃ : IsZipHeld p2 z TI TO T true := hp2.extBut _ _ S.zi2 (hp1.extBut _ _ S.zi1 hz₁)
  have hk : ∀ c o, c ≠ z → c ≠ i1 → c ≠ i2 → hp.get? c = some o → p2.get? c = some o := fun c o c1 c2 c3 e => hp2.extBut _ _ c3 (hp1.extBut _ _ c2 (hs₁.extBut _ _ c1 e))
  have sn1' : St1 (i + 1) p2 := D1.over sn1 hp2 S.sep2_1
  refine wpAny_pure ⟨_, rfl, ?_⟩
  show Q (.ref p2.objs.size) _
  have hpp : IsTupOf2 (p2.push { cls := .type "tuple", data := .seq #[x1, x2] }) p2.objs.size x1 x2 := Heap.get?_push_size _ rfl
  have hz4 : (p2.push { cls := .type "tuple", data := .seq #[x1, x2] }).objs.size = p2.objs.size + 1 := Heap.size_push ..
  rw [hsz] at hpp hz4 ⊢
  exact hQ x1 x2 _ tk2 hx1 hx2 (Heap.get?_push_of_some _ hz₃) (D1.frame _ _ _ sn1' fun b _ o e => Heap.get?_push_of_some _ e) (D2.frame _ _ _ sn2 fun b _ o e => Heap.get?_push_of_some _ e) hpp hz4 fun c o c1 c2 c3 e => Heap.get?_push_of_some _ (hk c o c1 c2 c3 e)
theorem zipD2_next_end_held {f : Bool} {oT : Obj} {Q : Fin → Shared → Prop} (S : ZipSep2 z TI TO i1 i2 fp1 fp2) (D1 : Draws prog w A i1 fp1 n1 P1 St1) (D2 : Draws prog w A i2 fp2 n2 P2 St2)
    (hz : IsZipHeld s.heap z TI TO T f) (hT : s.heap.get? T = some oT) (hTI : IsTupOf2 s.heap TI (.ref i1) (.ref i2)) (st1 : St1 i s.heap) (st2 : St2 i s.heap) (hle1 : i ≤ n1) (hle2 : i ≤ n2) (hend : i = n1 ∨ i = n2)
    (hE : ∀ h' tk e, (∀ c o, c ≠ z → c ≠ i1 → c ≠ i2 → s.heap.get? c = some o → h'.get? c = some o) → (∃ o, h'.get? e = some o ∧ o.cls = .type "StopIteration") → E (.ref e) { s with heap := h', toks := tk }) :
    wpAny (model prog w) A (Builtin.«zip.__next__» ⟨[.ref z], []⟩) Q E s := by
  obtain ⟨hp, g, d, tk0, os⟩ := s
  show wpAny _ _ (field (.ref z) 2 >>= _) _ _ _
  refine wpAny_bind (wpAny_field hz rfl (x := .bool false) rfl ?_)
  show wpAny _ _ (field (.ref z) 3 >>= _) _ _ _
  refine wpAny_bind (wpAny_field hz rfl (x := .ref TI) rfl ?_)
  refine wpAny_bind (wpAny_seqItems hTI rfl ?_)
  show wpAny _ _ (Builtin.SmallTypes.ownedTupleIsFree (.ref z) >>= _) _ _ _
  refine wpAny_bind (wpAny_tupleHeld_zip hz hT fun h₁ hz₁ hs₁ => ?_)
  replace hs₁ : Heap.SameBut z hp h₁ := hs₁
  simp only [Bool.false_eq_true, if_false]
  refine wpAny_bind ?_
  rw [← Array.forIn_toList]
  simp only [List.forIn_cons, List.forIn_nil]
  refine wpAny_bind (wpAny_bind (wpAny_holding ?_))
  show wpAny _ _ (Builtin.SmallTypes.nextOf (.ref i1) >>= _) _ _ ⟨h₁, g, d, tk0, os⟩
  by_cases hlt1 : i < n1
  · refine wpAny_bind (D1.item i _ _ _ hlt1 (D1.over st1 hs₁ S.zf1) fun x1 p1 tk1 hx1 sn1 hp1 => wpAny_pure ?_)
    replace hp1 : Heap.SameBut i1 h₁ p1 := hp1
    have hi2 : i = n2 := by omega
    refine wpAny_pure ?_
    refine wpAny_bind (wpAny_bind (wpAny_holding ?_))
    show wpAny _ _ (Builtin.SmallTypes.nextOf (.ref i2) >>= _) _ _ ⟨p1, g, d, tk1, os⟩
    refine wpAny_bind (D2.done ⟨p1, g, d, tk1, os⟩ _ _ (by rw [← hi2]; exact (D2.over (D2.over st2 hs₁ S.zf2) hp1 S.sep1_2)) fun q e hq he => ?_)
    exact hE q tk1 e (fun c o c1 c2 c3 x => hq _ _ c3 (hp1.extBut _ _ c2 (hs₁.extBut _ _ c1 x))) he
  · have hi1 : i = n1 := by omega
    refine wpAny_bind (D1.done ⟨h₁, g, d, tk0, os⟩ _ _ (by rw [← hi1]; exact (D1.over st1 hs₁ S.zf1)) fun q e hq he => ?_)
    exact hE q tk0 e (fun c o c1 c2 c3 x => hq _ _ c2 (hs₁.extBut _ _ c1 x)) he
theorem wpAny_pyNext_zipD2_item_held {f : Bool} {oT : Obj} {Q : Option Value → Shared → Prop} (S : ZipSep2 z TI TO i1 i2 fp1 fp2) (D1 : Draws prog w A.in1 i1 fp1 n1 P1 St1) (D2 : Draws prog w A.in1 i2 fp2 n2 P2 St2)
    (hz : IsZipHeld s.heap z TI TO T f) (hT : s.heap.get? T = some oT) (hTI : IsTupOf2 s.heap TI (.ref i1) (.ref i2)) (st1 : St1 i s.heap) (st2 : St2 i s.heap) (hlt1 : i < n1) (hlt2 : i < n2)
    (hQ : ∀ x1 x2 h' tk, P1 i x1 → P2 i x2 → IsZipHeld h' z TI TO T true → St1 (i + 1) h' → St2 (i + 1) h' → IsTupOf2 h' s.heap.objs.size x1 x2 → h'.objs.size = s.heap.objs.size + 1 →
      (∀ c o, c ≠ z → c ≠ i1 → c ≠ i2 → s.heap.get? c = some o → h'.get? c = some o) → Q (some (.ref s.heap.objs.size)) { s with heap := h', toks := tk }) :
    wpAny (model prog w) A (pyNext (.ref z)) Q E s := by
  have hTy : s.TypeIs (.ref z) "zip" := ⟨_, hz, rfl⟩
  unfold pyNext
  exact wpAny_bind (wpAny_attempt (wpAny_callSpecial?_slot (name := Str.ofString "__next__") hTy F.slot_zip_next
    (wpAny_call_entry F.slot_zip_next hTy F.entry_zip_next
      (zipD2_next_item_held S D1 D2 hz hT hTI st1 st2 hlt1 hlt2 fun x1 x2 h' tk y1 y2 b1 b2 d1 d2 b5 b6 => wpAny_pure (hQ x1 x2 h' tk y1 y2 b1 b2 d1 d2 b5 b6)) (F.args_zip_next_1 _))))
theorem wpAny_pyNext_zipD2_end_held {f : Bool} {oT : Obj} {Q : Option Value → Shared → Prop} (S : ZipSep2 z TI TO i1 i2 fp1 fp2) (D1 : Draws prog w A.in1 i1 fp1 n1 P1 St1) (D2 : Draws prog w A.in1 i2 fp2 n2 P2 St2)
    (hz : IsZipHeld s.heap z TI TO T f) (hT : s.heap.get? T = some oT) (hTI : IsTupOf2 s.heap TI (.ref i1) (.ref i2)) (st1 : St1 i s.heap) (st2 : St2 i s.heap) (hle1 : i ≤ n1) (hle2 : i ≤ n2) (hend : i = n1 ∨ i = n2)
    (hQ : ∀ h' tk, (∀ c o, c ≠ z → c ≠ i1 → c ≠ i2 → s.heap.get? c = some o → h'.get? c = some o) → Q none { s with heap := h', toks := tk }) : wpAny (model prog w) A (pyNext (.ref z)) Q E s := by
  have hTy : s.TypeIs (.ref z) "zip" := ⟨_, hz, rfl⟩
  unfold pyNext
  refine wpAny_bind (wpAny_attempt (wpAny_callSpecial?_slot (name := Str.ofString "__next__") hTy F.slot_zip_next
    (wpAny_call_entry F.slot_zip_next hTy F.entry_zip_next (zipD2_next_end_held S D1 D2 hz hT hTI st1 st2 hle1 hle2 hend fun h' tk e hk he => ?_) (F.args_zip_next_1 _))))
  obtain ⟨o, ho, hc⟩ := he
  refine wpAny_bind (wpAny_isInstance (T := "StopIteration") (b := true) ⟨o, ho, hc⟩ isSubtype_stop ?_)
  exact wpAny_pure (hQ _ _ hk)
end
theorem srcB_at {k : Bool} {h h' : Heap} {a : Addr} {its : Array Value} (x : SrcB k h a its) (e : ∀ o, h.get? a = some o → h'.get? a = some o) : SrcB k h' a its := by
  cases k
  · exact Heap.IsTuple.at x e
  · exact Heap.IsList.at x e
theorem srcB_obj {k : Bool} {h : Heap} {a : Addr} {its : Array Value} (x : SrcB k h a its) : ∃ o, h.get? a = some o := by
  cases k
  · obtain ⟨o, e, _⟩ := x; exact ⟨o, e⟩
  · obtain ⟨o, e, _⟩ := x; exact ⟨o, e⟩
theorem pairArg_zipB {prog : Program} {w : World} (k1 k2 : Bool) (z TI TO i1 i2 l1 l2 : Addr) (D : ZipApart z TI TO i1 i2 l1 l2) (xs ys : Array Value) :
    PairArg prog w "zip" z [z, TI, TO, i1, i2, l1, l2] [z, TO, i1, i2] (min xs.size ys.size) (fun i k v => xs[i]? = some k ∧ ys[i]? = some v)
      (fun h => IsZip h z TI TO .none ∧ IsTupOf2 h TI (.ref i1) (.ref i2) ∧ (∃ a b, IsTupOf2 h TO a b) ∧ ItB k1 h i1 l1 0 ∧ ItB k2 h i2 l2 0 ∧ SrcB k1 h l1 xs ∧ SrcB k2 h l2 ys) where
  type := fun s ok => ⟨_, ok.1, rfl⟩
  notDict := by decide
  keep := fun h h' ok hk => by
    obtain ⟨hz, hTI, ⟨a, b, hTO⟩, h1, h2, hl1, hl2⟩ := ok
    exact ⟨hk _ _ hz, hk _ _ hTI, ⟨a, b, hk _ _ hTO⟩, itB_at h1 fun o e => hk _ o e, itB_at h2 fun o e => hk _ o e, srcB_at hl1 fun o e => hk _ o e, srcB_at hl2 fun o e => hk _ o e⟩
  there := fun h ok b hb => by
    obtain ⟨hz, hTI, ⟨a, c, hTO⟩, h1, h2, hl1, hl2⟩ := ok
    obtain ⟨o1, e1, _⟩ := itB_obj h1
    obtain ⟨o2, e2, _⟩ := itB_obj h2
    simp only [List.mem_cons, List.not_mem_nil, or_false] at hb
    rcases hb with rfl | rfl | rfl | rfl | rfl | rfl | rfl
    all_goals first | exact ⟨_, hz⟩ | exact ⟨_, hTI⟩ | exact ⟨_, hTO⟩ | exact ⟨_, e1⟩ | exact ⟨_, e2⟩ | exact srcB_obj hl1 | exact srcB_obj hl2
  sub := fun b hb => by simp at hb ⊢; rcases hb with rfl | rfl | rfl | rfl <;> simp
  noKeys := fun A s Q E hA ok h => getAttrOr_miss_zip ok.1 rfl rfl rfl zip_no_keys (by decide +kernel) hA h
  iter := fun A s d Q E hA ok hd hdf h => by
    obtain ⟨hz, hTI, ⟨a, b, hTO⟩, h1, h2, hl1, hl2⟩ := ok
    simp only [List.mem_cons, List.not_mem_nil, or_false, not_or] at hdf
    obtain ⟨dz, dTI, dTO, di1, di2, dl1, dl2⟩ := hdf
    have D1 := drawsB (prog := prog) (w := w) (A := A.in1) k1 (show A.in1.handled = none from hA) i1 l1 D.l1i1 xs
    have D2 := drawsB (prog := prog) (w := w) (A := A.in1) k2 (show A.in1.handled = none from hA) i2 l2 D.l2i2 ys
    refine wpAny_pyIter_zip hz (h z [z, TO, i1, i2] (fun i h => IsTupOf2 h TI (.ref i1) (.ref i2) ∧ ItB k1 h i1 l1 i ∧ ItB k2 h i2 l2 i ∧ SrcB k1 h l1 xs ∧ SrcB k2 h l2 ys ∧
      ((IsZip h z TI TO .none ∧ ∃ a b, IsTupOf2 h TO a b) ∨ ∃ T f oT, IsZipHeld h z TI TO T f ∧ h.get? T = some oT ∧ T ≠ z ∧ T ≠ i1 ∧ T ≠ i2 ∧ T ≠ d)) s.heap s.toks ?_
      ⟨hTI, h1, h2, hl1, hl2, .inl ⟨hz, a, b, hTO⟩⟩ (fun _ _ e => e) fun b hb => .inl hb)
    exact {
      off := fun hm => by
        simp only [List.mem_cons, List.not_mem_nil, or_false] at hm
        rcases hm with e | e | e | e
        · exact dz e
        · exact dTO e
        · exact di1 e
        · exact di2 e
      frame := fun i h₁ h₂ st hk => by
        obtain ⟨hTI, h1, h2, hl1, hl2, hz⟩ := st
        refine ⟨hk _ _ (Ne.symm dTI) hTI, itB_at h1 fun o e => hk _ o (Ne.symm di1) e, itB_at h2 fun o e => hk _ o (Ne.symm di2) e, srcB_at hl1 fun o e => hk _ o (Ne.symm dl1) e, srcB_at hl2 fun o e => hk _ o (Ne.symm dl2) e, ?_⟩
        rcases hz with ⟨hz, a, b, hTO⟩ | ⟨T, f, oT, hz, hT, r1, r2, r3, r4⟩
        · exact .inl ⟨hk _ _ (Ne.symm dz) hz, a, b, hk _ _ (Ne.symm dTO) hTO⟩
        · exact .inr ⟨T, f, oT, hk _ _ (Ne.symm dz) hz, hk _ _ r4 hT, r1, r2, r3, r4⟩
      item := fun i s₁ Q₁ E₁ hi st hds hQ => by
        obtain ⟨hTI, h1, h2, hl1, hl2, hz⟩ := st
        have hix : i < xs.size := Nat.lt_of_lt_of_le hi (Nat.min_le_left ..)
        have hiy : i < ys.size := Nat.lt_of_lt_of_le hi (Nat.min_le_right ..)
        have lt : ∀ {c o}, s₁.heap.get? c = some o → s₁.heap.objs.size ≠ c := fun e => Nat.ne_of_gt (Heap.lt_size e)
        have n1 : s₁.heap.objs.size ≠ i1 := let ⟨_, e, _⟩ := itB_obj h1; lt e
        have n2 : s₁.heap.objs.size ≠ i2 := let ⟨_, e, _⟩ := itB_obj h2; lt e
        rcases hz with ⟨hz, a, b, hTO⟩ | ⟨T, f, oT, hz, hT, r1, r2, r3, r4⟩
        · refine wpAny_pyNext_zipD2_item (sepB D) D1 D2 hz hTI hTO ⟨h1, hl1⟩ ⟨h2, hl2⟩ hix hiy fun x y h' tk ex ey a1 a2 a3 a4 a5 a6 hk => ?_
          exact hQ s₁.heap.objs.size _ _ h' tk ⟨ex, ey⟩ (.inl ⟨_, a5, rfl, _, rfl⟩)
            ⟨hk _ _ D.TIz D.TITO D.TIi1 D.TIi2 hTI, a3.1, a4.1, a3.2, a4.2,
              .inr ⟨s₁.heap.objs.size, false, _, a1, a5, lt hz, n1, n2, Nat.ne_of_gt hds⟩⟩
            fun c o hc e => hk c o (fun x => hc (by simp [x])) (fun x => hc (by simp [x])) (fun x => hc (by simp [x])) (fun x => hc (by simp [x])) e
        · refine wpAny_pyNext_zipD2_item_held (sepB D) D1 D2 hz hT hTI ⟨h1, hl1⟩ ⟨h2, hl2⟩ hix hiy fun x y h' tk ex ey a1 a3 a4 a5 a6 hk => ?_
          exact hQ s₁.heap.objs.size _ _ h' tk ⟨ex, ey⟩ (.inl ⟨_, a5, rfl, _, rfl⟩)
            ⟨hk _ _ D.TIz D.TIi1 D.TIi2 hTI, a3.1, a4.1, a3.2, a4.2,
              .inr ⟨T, true, oT, a1, hk _ _ r1 r2 r3 hT, r1, r2, r3, r4⟩⟩
            fun c o hc e => hk c o (fun x => hc (by simp [x])) (fun x => hc (by simp [x])) (fun x => hc (by simp [x])) e
      done := fun s₁ Q₁ E₁ st hQ => by
        obtain ⟨hTI, h1, h2, hl1, hl2, hz⟩ := st
        have hle1 : min xs.size ys.size ≤ xs.size := Nat.min_le_left ..
        have hle2 : min xs.size ys.size ≤ ys.size := Nat.min_le_right ..
        have hend : min xs.size ys.size = xs.size ∨ min xs.size ys.size = ys.size := by omega
        rcases hz with ⟨hz, a, b, hTO⟩ | ⟨T, f, oT, hz, hT, r1, r2, r3, r4⟩
        · exact wpAny_pyNext_zipD2_end (sepB D) D1 D2 hz hTI hTO ⟨h1, hl1⟩ ⟨h2, hl2⟩ hle1 hle2 hend fun h' tk hk => hQ h' tk fun c o hc e => hk c o (fun x => hc (by simp [x])) (fun x => hc (by simp [x])) (fun x => hc (by simp [x])) (fun x => hc (by simp [x])) e
        · exact wpAny_pyNext_zipD2_end_held (sepB D) D1 D2 hz hT hTI ⟨h1, hl1⟩ ⟨h2, hl2⟩ hle1 hle2 hend fun h' tk hk => hQ h' tk fun c o hc e => hk c o (fun x => hc (by simp [x])) (fun x => hc (by simp [x])) (fun x => hc (by simp [x])) e }
end KX
namespace KX
open PySem PySem.Spec PyProof.Rows L2 Evl KR KS
/-! ### dict(zip(xs, ys)): its keys ints and texts, or tuples of them -/
theorem pair_right {α β : Type} {F : α → β → Prop} : ∀ {xs : List α} {ys : List β} {i : Nat} {y : β}, Paired F xs ys → ys[i]? = some y → ∃ x, xs[i]? = some x ∧ F x y
  | _, _, 0, _, .cons a _, h => ⟨_, rfl, by cases h; exact a⟩
  | _, _, i + 1, y, .cons _ t, h => by
    obtain ⟨x, h1, h2⟩ := pair_right (i := i) t (by simpa using h)
    exact ⟨x, by simpa using h1, h2⟩
  | _, _, i, _, .nil, h => by cases h
theorem kv_of {P : Program} {w : World} : ∀ {kvs : List (Key × V)} {rest : List V} {us ws : List Value}, Vals (kvs.map fun p => kV p.1) us → Vals (kvs.map (·.2) ++ rest) ws →
    ∃ prs : List (Key × Value), KV kvs prs ∧ prs.length = kvs.length ∧ ∀ (i : Nat) (key v : Value), us[i]? = some key → ws[i]? = some v → ∃ k, prs[i]? = some (k, v) ∧ (mixKind P w).is k key = true
  | [], rest, us, ws, r1, r2 => by
    cases r1
    exact ⟨[], .nil, rfl, fun i key v e _ => by cases e⟩
  | p :: kvs, rest, us, ws, r1, r2 => by
    cases r1 with
    | cons a1 t1 =>
      cases r2 with
      | cons a2 t2 =>
        obtain ⟨prs, h1, h2, h3⟩ := kv_of t1 t2
        rename_i u us' u2 ws'
        refine ⟨(p.1, u2) :: prs, .cons ⟨rfl, a2⟩ h1, by rw [List.length_cons, List.length_cons, h2], fun i key v e1 e2 => ?_⟩
        cases i with
        | zero =>
          cases e1
          cases e2
          exact ⟨p.1, rfl, kV_is a1⟩
        | succ i =>
          obtain ⟨k, e3, e4⟩ := h3 i key v (by simpa using e1) (by simpa using e2)
          exact ⟨k, by simpa using e3, e4⟩
def RefT (H : Hp) (x : V) (kv : List Key × V) : Prop := ∃ t, x = .ref t ∧ H t = some (.tup (kv.1.map kV))
theorem kt_of {H : Hp} : ∀ {xs : List V} {kvs : List (List Key × V)} {rest : List V} {us ws : List Value}, Paired (RefT H) xs kvs → Vals xs us → Vals (kvs.map (·.2) ++ rest) ws →
    ∃ ps : List (List Key × Addr × Value), Paired (fun (p : List Key × V) (q : List Key × Addr × Value) => p.1 = q.1 ∧ H q.2.1 = some (.tup (p.1.map kV)) ∧ RelV p.2 q.2.2) kvs ps ∧ ps.length = kvs.length ∧ ps.map (·.1) = kvs.map (·.1) ∧
      ∀ (i : Nat) (key v : Value), us[i]? = some key → ws[i]? = some v → ∃ k b, ps[i]? = some (k, b, v) ∧ key = .ref b
  | [], [], rest, us, ws, .nil, r1, r2 => by
    cases r1
    exact ⟨[], .nil, rfl, rfl, fun i key v e _ => by cases e⟩
  | x :: xs, p :: kvs, rest, us, ws, .cons a t, r1, r2 => by
    obtain ⟨b, rfl, hb⟩ := a
    cases r1 with
    | cons a1 t1 =>
      cases r2 with
      | cons a2 t2 =>
        obtain ⟨ps, h1, h2, h4, h3⟩ := kt_of t t1 t2
        rename_i u us' u2 ws'
        cases a1
        refine ⟨(p.1, b, u2) :: ps, .cons ⟨rfl, hb, a2⟩ h1, by rw [List.length_cons, List.length_cons, h2], by rw [List.map_cons, List.map_cons, h4], fun i key v e1 e2 => ?_⟩
        cases i with
        | zero =>
          cases e1
          cases e2
          exact ⟨p.1, b, rfl, rfl⟩
        | succ i =>
          obtain ⟨k, c, e3, e4⟩ := h3 i key v (by simpa using e1) (by simpa using e2)
          exact ⟨k, c, by simpa using e3, e4⟩
def rDictZ (K : PySem.W.Frag) (vs : List V) (H : Hp) (Q : VK) : Prop := ∃ (a b : Addr) (xs ys : List V) (k1 k2 : Bool), vs = [.ref a, .ref b] ∧ SqB K k1 H a xs ∧ SqB K k2 H b ys ∧ xs.length ≤ 1000 ∧
  ((∃ (kvs : List (Key × V)) (rest : List V), xs = (kvs.map fun p => kV p.1) ∧ ys = kvs.map (·.2) ++ rest ∧ ∀ p, H p = none → Q (.ref p) (upd H p (.dK (mergeK [] kvs)))) ∨
   (∃ (kvs : List (List Key × V)) (rest : List V), Paired (RefT H) xs kvs ∧ ys = kvs.map (·.2) ++ rest ∧ (kvs.map (·.1)).Nodup ∧ ∀ p, H p = none → Q (.ref p) (upd H p (.dT kvs))))
def tDictZ (K : PySem.W.Frag) (ta : TA) : TE := fun σ H Q => ta σ H fun vs H1 => rDictZ K vs H1 Q
theorem pe_dictZ {X : Cx} {e e2 : Expr} {ta : TA} {p p2 q pos : Pos} (hu : X.A.units + 64 < cLine) (hcalm : X.calm = true) (hg : Gl X "dict") (hm : X.mg "dict" = none) (hg2 : Gl X "zip") (hm2 : X.mg "zip" = none) (ha : PA X [e, e2] ta)
    (hs : starEach [e, e2] X.env = (false, eval e X.env) :: starEach [e2] X.env := by rfl) (hpl : (backTo q (starEach [e2] X.env)).any (·.1) = false := by rfl) :
    PE X (.Call (.Name "dict" p) [.Call (.Name "zip" p2) [e, e2] [] q] [] pos) (tDictZ X.K ta) := by
  refine ⟨fun pins s σ H Q I h => ?_⟩
  refine Call_ (ld_blt I hg hm (show bootBuiltins "dict" = some (.type "dict") by decide +kernel) ?_)
  refine PyProof.Rows.callWith_type1 (PyProof.Rows.args_cons ?_ rfl) rfl rfl
  refine Call_ (ld_blt I hg2 hm2 PyProof.Rows.boot_zip (PyProof.Rows.callWith_type1 (thn (ha.run q pins s σ H _ I h) fun us s1 ⟨vs, H1, I1, r1, q1⟩ => ?_) hs hpl))
  obtain ⟨a, b, xs, ys, k1, k2, rfl, qx, qy, hl, q1⟩ := q1
  obtain ⟨u1, u2, rfl, e1, e2⟩ := vals2 r1
  cases (show u1 = Value.ref a from e1)
  cases (show u2 = Value.ref b from e2)
  obtain ⟨us, rx, px⟩ := inv_src I1 qx
  obtain ⟨ws, ry, py⟩ := inv_src I1 qy
  refine zip_begins2 (beginsB k1 a us.toArray) (beginsB k2 b ws.toArray) px py fun h' hz hI hO g1 g2 hsz hk => PyProof.Rows.args_nil ?_
  have D := PySem.W.ktu_apart s1.heap.objs.size a b (srcB_lt px) (srcB_lt py)
  have hh : X.A.handled = none := I1.ok.hd hcalm
  have P := pairArg_zipB (prog := X.prog) (w := X.w) k1 k2 (s1.heap.objs.size + 4) (s1.heap.objs.size + 2) (s1.heap.objs.size + 3) s1.heap.objs.size (s1.heap.objs.size + 1) a b D us.toArray ws.toArray
  have ok : IsZip h' (s1.heap.objs.size + 4) (s1.heap.objs.size + 2) (s1.heap.objs.size + 3) .none ∧ IsTupOf2 h' (s1.heap.objs.size + 2) (.ref s1.heap.objs.size) (.ref (s1.heap.objs.size + 1)) ∧ (∃ a b, IsTupOf2 h' (s1.heap.objs.size + 3) a b) ∧ ItB k1 h' s1.heap.objs.size a 0 ∧ ItB k2 h' (s1.heap.objs.size + 1) b 0 ∧ SrcB k1 h' a us.toArray ∧ SrcB k2 h' b ws.toArray :=
    ⟨hz, hI, ⟨_, _, hO⟩, itB_new g1, itB_new g2, srcB_at px fun o e => hk _ o e, srcB_at py fun o e => hk _ o e⟩
  have old : ∀ b o, s1.heap.get? b = some o → b ∉ [s1.heap.objs.size + 4, s1.heap.objs.size + 3, s1.heap.objs.size, s1.heap.objs.size + 1] := fun b o e hm => by
    have hlt : b < s1.heap.objs.size := Heap.lt_size e
    simp only [List.mem_cons, List.not_mem_nil, or_false] at hm
    rcases hm with rfl | rfl | rfl | rfl
    · exact absurd hlt (Nat.not_lt.mpr (Nat.le_add_right _ _))
    · exact absurd hlt (Nat.not_lt.mpr (Nat.le_add_right _ _))
    · exact absurd hlt (Nat.lt_irrefl _)
    · exact absurd hlt (Nat.not_lt.mpr (Nat.le_add_right _ _))
  have lx := rx.length
  have ly := ry.length
  have hle : s1.heap.objs.size ≤ h'.objs.size := by rw [hsz]; exact Nat.le_add_right _ _
  have hbig : (h'.objs.size == sysModules) = false := beq_eq_false_iff_ne.mpr (Nat.ne_of_gt (Nat.lt_of_lt_of_le I1.big hle))
  have szl : (1000 : Nat) ≤ sizeLine := Nat.le_of_lt (sz_lt (by omega))
  rcases q1 with ⟨kvs, rest, rfl, rfl, q1⟩ | ⟨kvs, rest, hp, rfl, hnd, q1⟩
  · obtain ⟨prs, h1, h2, h3⟩ := kv_of (P := X.prog) (w := X.w) rx ry
    have hn : min us.toArray.size ws.toArray.size = kvs.length := by
      rw [List.size_toArray, List.size_toArray, ← lx, ← ly, List.length_map, List.length_append, List.length_map]
      omega
    rw [List.length_map] at hl
    refine call_dict_pairs (knd := mixKind X.prog X.w) (kvs := prs) P hh ok ⟨by rw [hn, h2], fun i key v ⟨e1, e2⟩ => h3 i key v (by simpa using e1) (by simpa using e2)⟩ (by rw [hn]; omega) fun h2' tk hd' k => ?_
    have hlen : (mergeK [] kvs).length ≤ sizeLine := by
      refine Nat.le_trans (length_mergeK kvs []) ?_
      rw [List.length_nil, Nat.zero_add]
      omega
    exact ⟨.ref h'.objs.size, upd H1 h'.objs.size (.dK (mergeK [] kvs)), I1.laid (t' := tk) (fun b o e => k b o (old b o e) (hk b o e)) hle (show ObjOk X.prog X.w _ _ _ (.dK (mergeK [] kvs)) from ⟨hlen, hbig, merged [] prs, KV.merge h1 .nil, hd'⟩), rfl, q1 _ (I1.hok.fresh hle)⟩
  · obtain ⟨ps, h1, h2, h4, h3⟩ := kt_of hp rx ry
    have lp := Paired.length hp
    have hn : min us.toArray.size ws.toArray.size = kvs.length := by
      rw [List.size_toArray, List.size_toArray, ← lx, ← ly, List.length_append, List.length_map]
      omega
    have hnd2 : (ps.map (·.1)).Nodup := by rw [h4]; exact hnd
    refine call_dict_pairsH (knd := tupleKind (mixKind X.prog X.w)) (ps := ps) P hh (show X.A.units + 1 + 1 < cLine by omega) ok ⟨by rw [hn, h2], fun i key v ⟨e1, e2⟩ => h3 i key v (by simpa using e1) (by simpa using e2)⟩ (fun hx hkk x hx => ?_) (by rw [hn]; omega) fun h2' tk hd' k => ?_
    · obtain ⟨i, hi⟩ := List.getElem?_of_mem hx
      obtain ⟨kv, hkv, r1, r2, r3⟩ := pair_right h1 hi
      obtain ⟨o, items, n, ho, hc, hd, hit⟩ := key_of (P := X.prog) (w := X.w) I1.hok (by rw [← r1]; exact r2 : H1 x.2.1 = some (.tup (x.1.map kV)))
      have hlt := Heap.lt_size ho
      exact ⟨o, items, n, hkk _ _ (Nat.ne_of_lt (Nat.lt_of_lt_of_le hlt hle)) (old _ _ ho) (hk _ _ ho), hc, hd, hit⟩
    · rw [storedAllH_nil_of_nodup ps hnd2] at hd'
      obtain ⟨o, es, ep, d1, d2, d3, d4, _, d5⟩ := hd'
      have hnone : H1 h'.objs.size = none := I1.hok.fresh hle
      refine ⟨.ref h'.objs.size, upd H1 h'.objs.size (.dT kvs), I1.laid (t' := tk) (fun b o e => k b o (old b o e) (hk b o e)) hle (show ObjOk X.prog X.w _ _ _ (.dT kvs) from ⟨by omega, hbig, ps, ?_, o, es, ep, d1, d2, d3, d4, d5⟩), rfl, q1 _ hnone⟩
      exact Paired.mapP h1 fun p q ⟨r1, r2, r3⟩ => ⟨r1, by rw [upd_ne (fun z => by rw [z, hnone] at r2; cases r2)]; exact r2, r3⟩
end KX
namespace KX
open PySem PySem.Spec PyProof.Rows L2 Evl KR KS
/-! ### enumerate of a list or a tuple -/
set_option maxHeartbeats 1000000 in
theorem meets_enumerate_newB1 {v : Value} {o : Obj} {H : Heap → Prop} (B : Begins v o H) :
    Meets (Builtin.«enumerate.__new__» ⟨[.type "enumerate", v], []⟩) (fun _ R s => H s.heap ∧
      R (.ok (.ret (.ref (s.heap.push o).objs.size))) { s with heap := (s.heap.push o).push { cls := .type "enumerate", data := .fields #[.none, .bool false, .ref s.heap.objs.size, rawInt 0, .none, .none] } }) :=
  .of_wp fun prog w A R s h => by
    obtain ⟨hp, g, d, tk, os⟩ := s; obtain ⟨h1, h⟩ := h
    have hsub := sub_enumerate
    have q1 : ∀ {A' : Around} {E : Value → Shared → Prop} {Q : Value → Shared → Prop}, Q (.ref hp.objs.size) ⟨hp.push o, g, d, tk, os⟩ → wpAny (model prog w) A' (pyIter v) Q E ⟨hp, g, d, tk, os⟩ :=
      fun q => B.iter prog w _ _ ⟨hp, g, d, tk, os⟩ _ h1 q
    wp_walk using q1
    refine wpAny_stack_any fun st => wpAny_pure ?_
    split
    · rename_i c _ _ _ _ _
      cases (c == Value.type "enumerate")
      · wp_walk using q1
        exact ⟨_, rfl, h⟩
      · wp_walk using q1
        exact ⟨_, rfl, h⟩
    · wp_walk using q1
      exact ⟨_, rfl, h⟩
section
variable {prog : Program} {w : World} {A : Around} {E : Value → Shared → Prop} {s : Shared}
theorem enum_begins1 {v : Value} {o : Obj} {H : Heap → Prop} {Q : Value → Shared → Prop} (B : Begins v o H) (h1 : H s.heap)
    (h : ∀ h', IsEnum h' (s.heap.objs.size + 1) s.heap.objs.size 0 .none → h'.get? s.heap.objs.size = some o → h'.objs.size = s.heap.objs.size + 2 →
      (∀ b o, s.heap.get? b = some o → h'.get? b = some o) → Q (.ref (s.heap.objs.size + 1)) { s with heap := h' }) :
    wpAny (model prog w) A (call (.type "enumerate") [v]) Q E s := by
  refine callType_new F.called_enumerate (by decide) (F.typeCall_enumerate_1 _) (F.newCall_enumerate_1 _) (fun obj => F.args_object_init_2 obj _) F.entry_enumerate_new
    (meets_enumerate_newB1 B) ⟨h1, ?_⟩
  have hz : (s.heap.push o).objs.size = s.heap.objs.size + 1 := Heap.size_push ..
  show _ ∧ _
  rw [hz]
  have he : IsEnum ((s.heap.push o).push { cls := .type "enumerate", data := .fields #[.none, .bool false, .ref s.heap.objs.size, rawInt 0, .none, .none] }) (s.heap.objs.size + 1) s.heap.objs.size 0 .none := by
    have := Heap.get?_push_size (s.heap.push o) (o := { cls := .type "enumerate", data := .fields #[.none, .bool false, .ref s.heap.objs.size, rawInt 0, .none, .none] }) rfl
    rw [hz] at this; exact this
  refine ⟨⟨_, he, rfl⟩, h _ he (Heap.get?_push_of_some _ (Heap.get?_push_size _ B.free)) (by rw [Heap.size_push, hz]) fun b o x => Heap.get?_push_of_some _ (Heap.get?_push_of_some _ x)⟩
end
/-- what stands at a at each turn, each item in a new pair -/
def IteB (K : PySem.W.Frag) (k : Bool) (a : Addr) : It :=
  ⟨fun i H => ∃ (xs : List V) (x : V), SqB K k H a xs ∧ xs[i]? = some x, fun i H v H' => ∃ T x, v = .ref T ∧ H T = none ∧ H' = upd H T (.tup [.int (i : Nat), x]) ∧ ∀ xs, SqB K k H a xs → xs[i]? = some x, fun i H => ∃ xs : List V, SqB K k H a xs ∧ xs.length = i⟩
theorem turn_enumB {P : Program} {w : World} {K : PySem.W.Frag} {elts : List Expr} {kk : Nat} {tpos : Pos} (k : Bool) (a e it : Addr) (hai : a ≠ it) (hae : a ≠ e) :
    Turn P w K (.Tuple elts kk tpos) (IteB K k a) [e, it] e (fun i h => (∃ old, IsEnum h e it ((i : Nat) : Int) old) ∧ ItB k h it a i ∧ e ≠ it) where
  mem := by simp
  obj := fun i h st b hb => by
    obtain ⟨⟨old, he⟩, hi, _⟩ := st
    have e' : b = e ∨ b = it := by simpa using hb
    rcases e' with z | z
    · rw [z]; exact ⟨_, he, fun v q => nomatch q⟩
    · rw [z]; exact itB_obj hi
  keep := fun i h h' st k => let ⟨⟨old, he⟩, hi, hne⟩ := st; ⟨⟨old, k e (by simp) _ he⟩, itB_at hi fun o q => k it (by simp) o q, hne⟩
  item := by
    intro X hP hw hK hc i pins s σ H E I hf st hg
    subst hP hw hK
    obtain ⟨⟨old, he⟩, hit, hne⟩ := st
    obtain ⟨xs, x, hq, hx⟩ := hg
    obtain ⟨us, rx, px⟩ := inv_src I hq
    obtain ⟨u, hu, ru⟩ := rx.get hx
    have hh := I.ok.hd hc
    have n1 : i < us.toArray.size := by
      rw [List.size_toArray]
      exact (List.getElem?_eq_some_iff.mp hu).1
    have hel : e < s.heap.objs.size := Heap.lt_size he
    have hil : it < s.heap.objs.size := by obtain ⟨_, q, _⟩ := itB_obj hit; exact Heap.lt_size q
    have hef : e ∉ [it, a] := by
      intro z
      simp only [List.mem_cons, List.not_mem_nil, or_false] at z
      rcases z with z | z
      · exact hne z
      · exact hae z.symm
    refine wpAny_pyNext_enum_itemC (drawsB (A := X.A.in1) k (show X.A.in1.handled = none from hh) it a hai us.toArray) he ⟨hit, px⟩ n1 hne hef fun x1 h' tk ex ho hit' hT hsz hk => ?_
    have ex : u = x1 := by
      have : us[i]? = some x1 := by simpa using ex
      rw [hu] at this
      exact Option.some.inj this
    subst ex
    refine ⟨_, rfl, wpAny_letOwnedTupleGo_enum (s := { s with heap := h', toks := tk + 1 }) ho fun h'' he' sb => ?_⟩
    have hT2 : h''.get? s.heap.objs.size = some { cls := .type "tuple", data := .seq #[.int i tk, u] } := (sb.2 _ (Nat.ne_of_gt hel)).trans hT
    have new : ObjOk X.prog X.w (upd H s.heap.objs.size (.tup [.int (i : Nat), x])) h'' s.heap.objs.size (.tup [.int (i : Nat), x]) :=
      ⟨by show 2 ≤ sizeLine; decide, [.int i tk, u], .cons ⟨_, rfl⟩ (.cons ru .nil), ⟨_, hT2, rfl, _, rfl⟩⟩
    have I1 : Inv X pins σ (upd H s.heap.objs.size (.tup [.int (i : Nat), x])) { s with heap := h'', toks := tk + 1 } :=
      I.turnedNew (ch := [e, it]) (fun b ob hb q => (sb.2 b (fun z => hb (by simp [z]))).trans (hk b ob (fun z => hb (by simp [z])) (fun z => hb (by simp [z])) q)) hf (Nat.le_refl _) new
    refine ⟨.ref s.heap.objs.size, _, I1, rfl, ⟨_, x, rfl, I.hok.fresh (Nat.le_refl _), rfl, fun ys hy => by rw [inv_inj I hy hq]; exact hx⟩, ⟨⟨u, ?_⟩, itB_at hit'.1 fun o q => (sb.2 it (Ne.symm hne)).trans q, hne⟩, fun b hb => ?_⟩
    · have e1 : ((i + 1 : Nat) : Int) = (i : Int) + 1 := by omega
      rw [e1]; exact he'
    · have hb' : b < s.heap.objs.size := by
        have e' : b = e ∨ b = it := by simpa using hb
        rcases e' with z | z
        · rw [z]; exact hel
        · rw [z]; exact hil
      rw [upd_ne (Nat.ne_of_lt hb')]
      exact (hf b hb).1
  done := by
    intro X hP hw hK hc i pins s σ H E I hf st hg
    subst hP hw hK
    obtain ⟨⟨old, he⟩, hit, hne⟩ := st
    obtain ⟨xs, hq, hx⟩ := hg
    obtain ⟨us, rx, px⟩ := inv_src I hq
    obtain ⟨f0, f1, f2, f3, f4, f5⟩ := hf it (by simp)
    have hl := rx.length
    have hh := I.ok.hd hc
    have hi : i = us.toArray.size := by rw [List.size_toArray]; omega
    subst hi
    exact wpAny_pyNext_enum_endD (drawsB (A := X.A.in1) k (show X.A.in1.handled = none from hh) it a hai us.toArray) he ⟨hit, px⟩ fun h' eb => ⟨rfl, I.turned (t' := s.toks) (fun b o hb q => eb b o hb q) f0 f1 f3 f4 f5⟩
  self := fun A i s Q E st h => let ⟨⟨_, he⟩, _⟩ := st; wpAny_pyIter_enum he h
def iEnumB (K : PySem.W.Frag) (ta : TA) : TI := fun σ H R => ta σ H fun vs H1 => ∃ a xs k, vs = [.ref a] ∧ SqB K k H1 a xs ∧ R (IteB K k a) H1
theorem pi_enumB {X : Cx} {e : Expr} {ta : TA} {p pos tpos : Pos} {elts : List Expr} {kk : Nat} (hg : Gl X "enumerate") (hm : X.mg "enumerate" = none) (ha : PA X [e] ta) (hs : starEach [e] X.env = [(false, eval e X.env)] := by rfl) :
    PI X (.Tuple elts kk tpos) (.Call (.Name "enumerate" p) [e] [] pos) (iEnumB X.K ta) := by
  refine ⟨fun pins s σ H R I h => ?_⟩
  refine Call_ (ld_blt I hg hm boot_enumerate (PyProof.Rows.callWith_type1 (thn (ha.run pos pins s σ H _ I h) fun us s1 ⟨vs, H1, I1, r1, q1⟩ => ?_) hs rfl))
  obtain ⟨a, xs, k, rfl, hq, q⟩ := q1
  obtain ⟨u, rfl, ru⟩ := vals1 r1
  cases (show u = Value.ref a from ru)
  obtain ⟨us, rx, px⟩ := inv_src I1 hq
  refine enum_begins1 (beginsB k a us.toArray) px fun h' he g1 hsz hk => wpAny_pyIter_enum he ?_
  have hla : a < s1.heap.objs.size := srcB_lt px
  refine ⟨s1.heap.objs.size + 1, [s1.heap.objs.size + 1, s1.heap.objs.size], _, _, H1, rfl, I1.kept (t' := s1.toks) hk, turn_enumB k a (s1.heap.objs.size + 1) s1.heap.objs.size (Nat.ne_of_lt hla) (Nat.ne_of_lt (Nat.lt_succ_of_lt hla)), ⟨⟨.none, he⟩, itB_new g1, Nat.succ_ne_self _⟩, fun b hb => ?_, q⟩
  have e' : b = s1.heap.objs.size + 1 ∨ b = s1.heap.objs.size := by simpa using hb
  have hle : s1.heap.objs.size ≤ b := by
    rcases e' with z | z
    · rw [z]; exact Nat.le_add_right _ _
    · rw [z]; exact Nat.le_refl _
  exact I1.fpOk hle (I1.hok.fresh hle)
end KX
namespace KW
open PySem PySem.Spec PyProof.Rows L2 KR KS KX Evl StX
/-! ### told_items -/
theorem walk_enumB {K : PySem.W.Frag} {k : Bool} {a : Addr} {xs : List V} : Walk (IteB K k a) xs.length (fun H => SqB K k H a xs) (fun i H v H' => ∃ T x, v = .ref T ∧ H T = none ∧ H' = upd H T (.tup [.int (i : Nat), x]) ∧ xs[i]? = some x) :=
  ⟨fun i _ hi q => ⟨xs, xs[i], q, List.getElem?_eq_getElem hi⟩, fun _ q => ⟨xs, q, rfl⟩, fun i H v H' _ q ⟨T, x, e1, e2, e3, e4⟩ => ⟨T, x, e1, e2, e3, e4 xs q⟩⟩
theorem valV_mem {κ : Type} [DecidableEq κ] {kvs : List (κ × V)} {k : κ} {v : V} (h : valV kvs k = some v) : ∃ p ∈ kvs, p.2 = v := by
  unfold valV at h
  cases e : kvs.find? (fun kv => decide (kv.1 = k)) with
  | none => rw [e] at h; cases h
  | some p =>
    rw [e] at h
    exact ⟨p, List.mem_of_find?_eq_some e, Option.some.inj h⟩
theorem lcE {K : PySem.W.Frag} {ta : TA} {g : TG} {tt : TT} {te : TE} {vs : List Nat} {σ : L2.St} {H : Hp} {Q : VK} (h : ta σ H fun us H1 => ∃ a xs k, us = [.ref a] ∧ SqB K k H1 a xs ∧ LJ (IteB K k a) g tt te vs σ Q H1) : tLc (iEnumB K ta) g tt te vs σ H Q := h
theorem forE {K : PySem.W.Frag} {ta : TA} {g : TG} {tu : TS} {D : Ends} {σ : L2.St} {H : Hp} (h : ta σ H fun us H1 => ∃ a xs k, us = [.ref a] ∧ SqB K k H1 a xs ∧ FJ (IteB K k a) g tu D σ H1) : tFor (iEnumB K ta) g tu D σ H := h
/-- values that are short texts -/
def ShortV {κ : Type} (kvs : List (κ × V)) : Prop := ∀ p ∈ kvs, ∃ z : Str, p.2 = .str z ∧ z.length ≤ 1
theorem ShortV.at_ {κ : Type} [DecidableEq κ] {kvs : List (κ × V)} (h : ShortV kvs) (k : κ) : valV kvs k = none ∨ ∃ z : Str, valV kvs k = some (.str z) ∧ z.length ≤ 1 := by
  cases e : valV kvs k with
  | none => exact .inl rfl
  | some v =>
    obtain ⟨p, hp, rfl⟩ := valV_mem e
    obtain ⟨z, hz, hl⟩ := h p hp
    exact .inr ⟨z, by rw [hz], hl⟩
/-- a list of texts that grows -/
structure SL (H : Hp) (L : Addr) (n : Nat) (H' : Hp) : Prop where
  e : Ex H H'
  nn : H L = none
  l : ∃ zs : List Str, H' L = some (.lst (zs.map V.str)) ∧ zs.length ≤ n ∧ ∀ z ∈ zs, z.length ≤ 1001
theorem SL.up {H H' H2 : Hp} {L : Addr} {n : Nat} (h : SL H L n H') (e : Ex H' H2) : SL H L n H2 := let ⟨zs, a, b, c⟩ := h.l; ⟨h.e.trans e, h.nn, zs, e _ _ a, b, c⟩
theorem SL.more {H H' : Hp} {L : Addr} {n m : Nat} (h : SL H L n H') (k : n ≤ m) : SL H L m H' := let ⟨zs, a, b, c⟩ := h.l; ⟨h.e, h.nn, zs, a, by omega, c⟩
theorem SL.app {K : PySem.W.Frag} {H H' : Hp} {L : Addr} {n j : Nat} {te : TE} {σ : L2.St} {Q : VK} (h : SL H L n H') (hj : σ[j]? = some (some (.ref L))) (hn : n ≤ 1000) (ht : ∀ Q2 : VK, (∀ (z : Str) H2, Ex H' H2 → z.length ≤ 1001 → Q2 (.str z) H2) → te σ H' Q2) (q : ∀ H2, SL H L (n + 1) H2 → Q .non H2) : tBM K "list" rAppend (tVar j) (tCons te tNil) σ H' Q := by
  obtain ⟨zs, hx, hl, hz⟩ := h.l
  refine ⟨.ref L, hj, .inl ⟨rfl, _, sq_of hx⟩, a_op (ht _ fun z H2 e2 hz2 => n_op ⟨L, zs.map V.str, .str z, rfl, rfl, e2 _ _ hx, sz_lt (by rw [List.length_map]; omega), q _ ⟨Ex.mut (h.e.trans e2) h.nn, h.nn, zs ++ [z], by rw [upd_same, List.map_append]; rfl, by rw [List.length_append]; show zs.length + 1 ≤ n + 1; omega, fun y hy => ?_⟩⟩)⟩
  rcases List.mem_append.mp hy with hy | hy
  · exact hz y hy
  · rw [List.mem_singleton.mp hy]; exact hz2
abbrev rAS : R2 := fun x y H Q => ∃ i j, x = .str i ∧ y = .str j ∧ i.length + j.length ≤ sizeLine ∧ Q (.str (i ++ j)) H
theorem small_str {i : Int} (h : 0 ≤ i ∧ i < 16) : ((toString i : String) : Str).length ≤ 1001 ∧ i.natAbs.log2 < 1920 := by
  have : ∀ n : Fin 16, ((toString ((n.val : Nat) : Int) : String) : Str).length ≤ 1001 ∧ ((n.val : Nat) : Int).natAbs.log2 < 1920 := by decide +kernel
  have h2 := this ⟨i.toNat, by omega⟩
  simp only at h2
  rw [show ((i.toNat : Nat) : Int) = i from by omega] at h2
  exact h2
section
variable {P : Program} {w : World} {K : PySem.W.Frag} {mg : Str → Option Value} {base : Heap}
abbrev sTI : Stmt := topS 42
abbrev nTI : List Str := ["kinds", "ties", "hub_signs", "tie_signs", "items", "at", "tie", "piece", "kind"]
theorem scTI : FnScope nTI ["kinds", "ties", "hub_signs", "tie_signs"] (defScope sTI) := ⟨rfl, rfl, rfl, by decide +kernel, rfl, by decide +kernel, by decide +kernel⟩
def spTI : Sp := fun vs H Q _ => ∃ (kA tA hD sD : Addr) (ks : List Str) (tys : List V) (ts : List (Int × Int)) (hk : List (Key × V)) (sk : List (List Key × V)), vs = [.ref kA, .ref tA, .ref hD, .ref sD] ∧ TX H kA (ks.map V.str) ∧ H tA = some (.tup tys) ∧ Paired (PrR H) tys ts ∧ H hD = some (.dK hk) ∧ H sD = some (.dT sk) ∧
  ks.length ≤ 16 ∧ (∀ z ∈ ks, z.length ≤ 1000) ∧ ts.length ≤ 32 ∧ (∀ p ∈ ts, (0 ≤ p.1 ∧ p.1 < 16) ∧ (0 ≤ p.2 ∧ p.2 < 16)) ∧ ShortV hk ∧ ShortV sk ∧ ∀ L (zs : List Str) H2, Ex H H2 → H2 L = some (.lst (zs.map V.str)) → zs.length ≤ 400 → (∀ z ∈ zs, z.length ≤ 1001) → Q (.ref L) H2
theorem txb {H : Hp} {a : Addr} {xs : List V} (h : TX H a xs) : SqB K false H a xs := h.st
abbrev rSI : List V → Hp → VK → Prop := fun xs H Q => ∃ i, xs = [.int i] ∧ i.natAbs.log2 < 1920 ∧ Q (.str (toString i)) H
theorem ti_rest {σ : L2.St} {D' : Ends} {H H5 : Hp} {L b sD : Addr} {m : Nat} {t : Int × Int} {sk : List (List Key × V)} (h4 : σ[4]? = some (some (.ref L))) (h6 : σ[6]? = some (some (.ref b))) (h3 : σ[3]? = some (some (.ref sD))) (hb : H b = some (.tup [.int t.1, .int t.2])) (htb : (0 ≤ t.1 ∧ t.1 < 16) ∧ (0 ≤ t.2 ∧ t.2 < 16)) (hsD : H sD = some (.dT sk)) (vs : ShortV sk) (hm : m ≤ 500) (p : SL H L (m + 1) H5) (q : ∀ H6, SL H L (m + 4) H6 → D'.nx σ H6) :
    tSeq (tDrop (tBM K "list" rAppend (tVar 4) (tCons (tCB rSI (tCons (tOp (rIx K) (tVar 6) (tC (.int 0))) tNil)) tNil))) (tSeq (tIfS (tB (tDIn (tVar 6) (tVar 3))) (tDrop (tBM K "list" rAppend (tVar 4) (tCons (tDGet (tVar 3) (tVar 6)) tNil))) tNext) (tDrop (tBM K "list" rAppend (tVar 4) (tCons (tCB rSI (tCons (tOp (rIx K) (tVar 6) (tC (.int 1))) tNil)) tNil)))) D' σ H5 := by
  have str : ∀ (j : Nat) (v : Int) (H6 : Hp) (Q2 : VK), Ex H H6 → ([V.int t.1, V.int t.2])[j]? = some (.int v) → (0 ≤ v ∧ v < 16) → (∀ (z : Str) H2, Ex H6 H2 → z.length ≤ 1001 → Q2 (.str z) H2) → tCB rSI (tCons (tOp (rIx K) (tVar 6) (tC (.int (j : Int)))) tNil) σ H6 Q2 := fun j v H6 Q2 e hj hv q2 =>
    cb_op (a_op (op_op (v_op h6 (k_op (.inr (.inl ⟨b, _, (j : Int), .int v, rfl, rfl, st_of (e _ _ hb), atI_nat hj, n_op ⟨v, rfl, (small_str hv).2, q2 _ H6 (Ex.refl _) (small_str hv).1⟩⟩))))))
  refine q_ex (p.app h4 (by omega) (fun Q2 q2 => str 0 t.1 H5 Q2 p.e rfl htb.1 q2) fun H6 p6 => ?_)
  have last : ∀ H7, SL H L (m + 3) H7 → tDrop (tBM K "list" rAppend (tVar 4) (tCons (tCB rSI (tCons (tOp (rIx K) (tVar 6) (tC (.int 1))) tNil)) tNil)) D' σ H7 := fun H7 p7 =>
    s_ex (p7.app h4 (by omega) (fun Q2 q2 => str 1 t.2 H7 Q2 p7.e rfl htb.2 q2) fun H8 p8 => q H8 p8)
  have dg : ∀ H7, Ex H H7 → DGet H7 sD (.ref b) (valV sk [Sum.inl t.1, Sum.inl t.2]) := fun H7 e => DGet.t (k := [Sum.inl t.1, Sum.inl t.2]) (e _ _ hsD) (e _ _ hb)
  refine q_if0 ⟨_, h6, _, h3, sD, _, rfl, dg _ p6.e, _, rfl, ?_⟩
  rcases vs.at_ [Sum.inl t.1, Sum.inl t.2] with e | ⟨u, e, ul⟩
  · rw [e]
    exact iteF (nx_op (last H6 (p6.more (by omega))))
  · rw [e]
    refine iteT (s_ex (p6.app h4 (by omega) (fun Q2 q2 => ?_) fun H7 p7 => last H7 p7))
    have d6 := dg _ p6.e
    rw [e] at d6
    exact ⟨_, h3, _, h6, sD, _, rfl, d6, q2 u H6 (Ex.refl _) (by omega)⟩
theorem ok_ti {f : Addr} {fd : FuncData} {k : Nat} (F : FnP K "told_items" sTI f fd) (B : Bu mg) : FnOk P w K mg base CX0 (k + 1) f fd ["kinds", "ties", "hub_signs", "tie_signs"] spTI := by
  refine ok0 F scTI (fun vs H Q E h => ?_) (fun cdv A outer s H vs Q E hr h => ?_)
  · obtain ⟨kA, tA, hD, sD, ks, tys, ts, hk, sk, rfl, _⟩ := h
    rfl
  · obtain ⟨kA, tA, hD, sD, ks, tys, ts, hk, sk, rfl, hkA, htA, hP, hhD, hsD, kl, kz, tl, tb, vh, vs, q⟩ := h
    have hu1 := hu_of hr
    refine ⟨_, (pss_cons (ps_setLc (i := 4) (own := [("piece", 7), ("kind", 8)]) (g := (gTup K 2 (gCons (gName 7) (gCons (gName 8) gNil)))) (te := tOp rAS (tVar 8) (tDGet2 (tVar 2) (tVar 7) (tC (.str "")))) rfl scTI.nd rfl rfl rfl (pi_enumB rfl B.enumerate (pa_cons (pv 0) pa_nil)) (blkOk_by (N := nTI) (sc := (defScope sTI)) (by decide +kernel)) (fun _ _ _ _ _ => (pg_tup rfl (pgs_cons (pg_name (i := 7) scTI.nd rfl (Or.inl rfl)) (pgs_cons (pg_name (i := 8) scTI.nd rfl (Or.inl rfl)) pgs_nil)))) (fun _ _ _ _ _ => pts_nil) (fun _ _ _ _ _ => (pe_op op_add_str (pv 8) (pe_dget2 hu1 (pv 2) (pv 7) pe_str ⟨rfl, rfl, rfl, rfl⟩))))
      (pss_cons (ps_expr (pe_bm PySem.F.plainAttrs_list PySem.F.slot_list_append PySem.F.type_list_append mt_append (pv 4) (pa_cons pe_str pa_nil)))
      (pss_cons (ps_for PassesOwn.never rfl (pi_enumB rfl B.enumerate (pa_cons (pv 1) pa_nil)) (pg_tup rfl (pgs_cons (pg_name (i := 5) scTI.nd rfl (Or.inl rfl)) (pgs_cons (pg_name (i := 6) scTI.nd rfl (Or.inl rfl)) pgs_nil))) (pss_cons (ps_if (pt_cmpR op_gt (pv 5) pe_int (nomark _)) (pss_one (ps_expr (pe_bm PySem.F.plainAttrs_list PySem.F.slot_list_append PySem.F.type_list_append mt_append (pv 4) (pa_cons pe_str pa_nil)))) pss_nil)
      (pss_cons (ps_expr (pe_bm PySem.F.plainAttrs_list PySem.F.slot_list_append PySem.F.type_list_append mt_append (pv 4) (pa_cons (pe_callTy call_str_int rfl B.str boot_str (pa_cons (pe_ix ix_seq (pv 6) pe_int (fun _ _ => rfl)) pa_nil)) pa_nil)))
      (pss_cons (ps_if (pt_cmp (pc_din hu1 (pv 6) (pv 3))) (pss_one (ps_expr (pe_bm PySem.F.plainAttrs_list PySem.F.slot_list_append PySem.F.type_list_append mt_append (pv 4) (pa_cons (pe_dget hu1 (pv 3) (pv 6) (fun _ _ => rfl)) pa_nil)))) pss_nil)
      (pss_one (ps_expr (pe_bm PySem.F.plainAttrs_list PySem.F.slot_list_append PySem.F.type_list_append mt_append (pv 4) (pa_cons (pe_callTy call_str_int rfl B.str boot_str (pa_cons (pe_ix ix_seq (pv 6) pe_int (fun _ _ => rfl)) pa_nil)) pa_nil))))))))
      (pss_one (ps_ret (pv 4)))))), ?_⟩
    have sz2 : (2 : Nat) ≤ sizeLine := by decide
    refine q_as (lcE (a_op (v_op rfl (n_op ⟨kA, _, false, rfl, txb hkA, fun D hDn => ?_⟩))))
    refine lc_it (walk_enumB (xs := ks.map V.str)) (fun i H' => SL H D i H') ⟨Ex.new hDn, hDn, [], upd_same, Nat.zero_le _, fun _ z => absurd z List.not_mem_nil⟩ (fun i H' _ p => txb (hkA.up p.e)) ?_ ?_
    · rintro i x H' H2 hi p ⟨T, y, rfl, hT, rfl, hy⟩
      rw [List.getElem?_map] at hy
      obtain ⟨z, hz, rfl⟩ : ∃ z, ks[i]? = some z ∧ y = .str z := by
        cases e : ks[i]? with
        | none => rw [e] at hy; cases hy
        | some z => rw [e] at hy; exact ⟨z, rfl, (Option.some.inj hy).symm⟩
      have eT := Ex.new (o := HO.tup [.int ((i : Nat) : Int), .str z]) hT
      have p2 := p.up eT
      have hzl := kz z (List.mem_of_getElem? hz)
      refine ⟨T, _, rfl, st_of upd_same, rfl, _, _, rfl, _, _, rfl, rfl, rfl, yes_if ?_⟩
      have hd2 := p2.e _ _ hhD
      obtain ⟨zs, hx, hl, hzz⟩ := p2.l
      have fin : ∀ y : Str, y.length ≤ 1001 → ∃ acc, (upd H' T (.tup [.int ((i : Nat) : Int), .str z])) D = some (.lst acc) ∧ acc.length < sizeLine ∧ SL H D (i + 1) (upd (upd H' T (.tup [.int ((i : Nat) : Int), .str z])) D (.lst (acc ++ [.str y]))) := fun y hyl =>
        ⟨zs.map V.str, hx, sz_lt (by rw [List.length_map]; rw [List.length_map] at hi; omega), ⟨Ex.mut p2.e hDn, hDn, zs ++ [y], by rw [upd_same, List.map_append]; rfl, by rw [List.length_append]; show zs.length + 1 ≤ i + 1; omega, fun u hu => by
          rcases List.mem_append.mp hu with hu | hu
          · exact hzz u hu
          · rw [List.mem_singleton.mp hu]; exact hyl⟩⟩
      refine op_op (v_op rfl ⟨.ref hD, rfl, hD, rfl, .inl ⟨hk, .inl hd2⟩, v_op rfl (k_op ⟨_, DGet.k (k := Sum.inl ((i : Nat) : Int)) hd2, ?_⟩)⟩)
      rcases vh.at_ (Sum.inl ((i : Nat) : Int) : Key) with e | ⟨u, e, ul⟩
      · rw [e]
        refine ⟨z, "", rfl, rfl, Nat.le_of_lt (sz_lt (by show z.length + 0 < _; omega)), fin _ ?_⟩
        have : (z ++ ("" : Str)).length = z.length + ("" : Str).length := Str.length_append ..
        rw [this]
        show z.length + 0 ≤ _
        omega
      · rw [e]
        refine ⟨z, u, rfl, rfl, Nat.le_of_lt (sz_lt (by omega)), fin _ ?_⟩
        have : (z ++ u).length = z.length + u.length := Str.length_append ..
        rw [this]
        omega
    · intro H1 p
      rw [List.length_map] at p
      refine q_ex (p.app rfl (by omega) (fun Q2 q2 => k_op (q2 _ _ (Ex.refl _) (by show 1 ≤ 1001; decide))) fun H2 p2 => ?_)
      have ll := Paired.length hP
      refine forE (a_op (v_op rfl (n_op ⟨tA, tys, false, rfl, st_of (p2.e _ _ htA), for_it (walk_enumB (xs := tys)) (fun i σ' H' => ∃ y5 y6, σ' = [some (.ref kA), some (.ref tA), some (.ref hD), some (.ref sD), some (.ref D), y5, y6, none, none] ∧ SL H D (ks.length + 1 + 4 * i) H') ⟨none, none, rfl, p2⟩ (fun i σ' H' _ ⟨_, _, _, h⟩ => st_of (h.e _ _ htA)) ?_ ?_⟩)))
      · rintro i x σ' H' H3 hi ⟨y5, y6, rfl, p3⟩ ⟨T, y, rfl, hT, rfl, hy⟩
        obtain ⟨t, ht, b, rfl, hb⟩ := pget hP hy
        have htb := tb t (List.mem_of_getElem? ht)
        have eT := Ex.new (o := HO.tup [.int ((i : Nat) : Int), .ref b]) hT
        have p4 := p3.up eT
        refine ⟨T, _, rfl, st_of upd_same, rfl, _, _, rfl, _, _, rfl, rfl, ?_⟩
        generalize upd H' T (.tup [.int ((i : Nat) : Int), .ref b]) = H4 at p4 ⊢
        have hi32 : i < 32 := by omega
        refine q_if0 (op_test (op_op (v_op rfl (k_op ⟨_, _, rfl, rfl, _, rfl, ?_⟩))))
        refine ite2 (fun _ => s_ex (p4.app rfl (by omega) (fun Q2 q2 => k_op (q2 _ _ (Ex.refl _) (by show 1 ≤ 1001; decide))) fun H5 p5 => ?_)) (fun _ => nx_op ?_)
        · exact ti_rest (m := ks.length + 1 + 4 * i) (t := t) rfl rfl rfl hb htb hsD vs (by omega) p5 fun H6 p6 => ⟨_, _, rfl, p6⟩
        · exact ti_rest (m := ks.length + 1 + 4 * i) (t := t) rfl rfl rfl hb htb hsD vs (by omega) (p4.more (by omega)) fun H6 p6 => ⟨_, _, rfl, p6⟩
      · rintro σ' H' ⟨y5, y6, rfl, p3⟩
        obtain ⟨zs, hx, hl, hz⟩ := p3.l
        exact s_re (v_op rfl (q D zs H' p3.e hx (by omega) hz))
end
end KW
namespace KW
open PySem PySem.Spec PyProof.Rows L2 KR KS KX Evl StX
/-! ### the texts of webs and bodies -/
theorem ShortV.put {κ : Type} [DecidableEq κ] {kvs : List (κ × V)} (h : ShortV kvs) (k : κ) {v : V} (hv : ∃ z : Str, v = .str z ∧ z.length ≤ 1) : ShortV (putK kvs k v) := by
  unfold putK
  split
  · intro p hp
    obtain ⟨q, hq, rfl⟩ := List.mem_map.mp hp
    split
    · exact hv
    · exact h q hq
  · intro p hp
    rcases List.mem_append.mp hp with hp | hp
    · exact h p hp
    · rw [List.mem_singleton.mp hp]; exact hv
theorem ShortV.merge : ∀ {more kvs : List (Key × V)}, ShortV kvs → ShortV more → ShortV (mergeK kvs more)
  | [], _, h, _ => h
  | p :: more, kvs, h, g => by
    show ShortV (mergeK (putK kvs p.1 p.2) more)
    exact ShortV.merge (h.put p.1 (g p List.mem_cons_self)) fun q hq => g q (List.mem_cons_of_mem _ hq)
theorem dc_intsC {K : PySem.W.Frag} {σ : L2.St} {H : Hp} {a : Addr} {ns : List Int} {tl : TE} {j : Nat} {vs : List Nat} {Q : VK} {u : Str} (hu : u.length ≤ 1) (h : Ev tl σ H (.ref a)) (hx : Sq K H a (ns.map V.int)) (hz : ns.length ≤ 5000)
    (hw : ∀ x, wipe ((wipe σ vs).set j (some x)) vs = wipe σ vs) (hj : ∀ x, ((wipe σ vs).set j (some x))[j]? = some (some x)) (q : ∀ D kvs H2, H D = none → Ex H H2 → H2 D = some (.dK kvs) → ShortV kvs → Q (.ref D) H2) :
    tDc (iSeq K tl) (gName j) tYes (tVar j) (tC (.str u)) vs σ H Q := by
  refine is_op h hx (Ex.refl H) fun J G hG w H1 e1 => fun D hD => ?_
  refine dc_it w (fun n H3 => Ex H1 H3 ∧ ∃ kvs, H3 D = some (.dK kvs) ∧ kvs.length ≤ n ∧ ShortV kvs) ⟨Ex.new hD, [], upd_same, Nat.le_refl _, fun _ z => absurd z List.not_mem_nil⟩ (fun n H3 _ p => hG H3 (e1.trans p.1)) ?_ ?_
  · rintro n x H3 H4 hn ⟨e3, kvs, hd3, hl, hs⟩ ⟨rfl, hx⟩
    obtain ⟨i, hi, rfl⟩ := int_at hx
    have hn2 := (List.getElem?_eq_some_iff.mp hi).1
    refine ⟨hw _, yes_if ⟨_, hj _, _, Sum.inl i, rfl, hd3, sz_lt (by omega), Ex.mut e3 hD, _, upd_same, ?_, hs.put _ ⟨u, rfl, hu⟩⟩⟩
    have := length_putK kvs (Sum.inl i : Key) (.str u)
    omega
  · rintro H3 ⟨e3, kvs, hd3, hl, hs⟩
    exact q D kvs H3 (fresh_back e1 hD) (e1.trans e3) hd3 hs
theorem dc_tiesC {K : PySem.W.Frag} {σ : L2.St} {H : Hp} {a : Addr} {ys : List V} {ps : List (Int × Int)} {tl : TE} {j : Nat} {vs : List Nat} {Q : VK} {u : Str} (hu : u.length ≤ 1) (h : Ev tl σ H (.ref a)) (hx : Sq K H a ys) (hP : Paired (PrR H) ys ps) (hz : ps.length ≤ 5000)
    (hw : ∀ x, wipe ((wipe σ vs).set j (some x)) vs = wipe σ vs) (hj : ∀ x, ((wipe σ vs).set j (some x))[j]? = some (some x)) (q : ∀ D kvs H2, H D = none → Ex H H2 → H2 D = some (.dT kvs) → ShortV kvs → Q (.ref D) H2) :
    tDcT (iSeq K tl) (gName j) tYes (tVar j) (tC (.str u)) vs σ H Q := by
  refine is_op h hx (Ex.refl H) fun J G hG w H1 e1 => fun D hD => ?_
  refine dcT_it w (fun n H3 => Ex H1 H3 ∧ ∃ kvs, H3 D = some (.dT kvs) ∧ kvs.length ≤ n ∧ ShortV kvs) ⟨Ex.new hD, [], upd_same, Nat.le_refl _, fun _ z => absurd z List.not_mem_nil⟩ (fun n H3 _ p => hG H3 (e1.trans p.1)) ?_ ?_
  · rintro n x H3 H4 hn ⟨e3, kvs, hd3, hl, hs⟩ ⟨rfl, hx⟩
    obtain ⟨p, hp, b, rfl, hb⟩ := pget hP hx
    have hn2 := (List.getElem?_eq_some_iff.mp hp).1
    refine ⟨hw _, yes_if ⟨_, hj _, _, kP p, b, rfl, (e1.trans e3) _ _ hb, hd3, sz_lt (by omega), Ex.mut e3 hD, _, upd_same, ?_, hs.put _ ⟨u, rfl, hu⟩⟩⟩
    have := length_putK kvs (kP p) (.str u)
    omega
  · rintro H3 ⟨e3, kvs, hd3, hl, hs⟩
    exact q D kvs H3 (fresh_back e1 hD) (e1.trans e3) hd3 hs
theorem sum_len : ∀ {zs : List Str}, (∀ z ∈ zs, z.length ≤ 1001) → (zs.map (·.length)).sum ≤ 1001 * zs.length
  | [], _ => Nat.le_refl _
  | z :: zs, h => by
    have h1 := sum_len fun y hy => h y (List.mem_cons_of_mem z hy)
    have h2 := h z List.mem_cons_self
    rw [List.map_cons, List.sum_cons, List.length_cons, Nat.mul_succ]
    omega
def sgS (s : Int) : Str := if s = 1 then "+" else "-"
theorem sgS_short (s : Int) : (sgS s).length ≤ 1 := by
  unfold sgS
  split
  · exact Nat.le_refl 1
  · exact Nat.le_refl 1
/-- the signs of the stiff ties, by their ties -/
def stK (ss : List (Int × Int)) (sg : List Int) : List (List Key × V) := (ss.zip sg).map fun p => (kP p.1, V.str (sgS p.2))
theorem stK_ref {H : Hp} : ∀ {sys : List V} {ss : List (Int × Int)} {sg : List Int}, Paired (PrR H) sys ss → ss.length = sg.length → Paired (RefT H) sys (stK ss sg)
  | [], [], sg, .nil, h => by
    cases sg with
    | nil => exact .nil
    | cons _ _ => cases h
  | x :: sys, p :: ss, s :: sg, .cons a t, h => by
    obtain ⟨b, rfl, hb⟩ := a
    exact .cons ⟨b, rfl, hb⟩ (stK_ref t (by simpa using h))
  | _ :: _, _ :: _, [], _, h => by cases h
theorem stK_fst {ss : List (Int × Int)} {sg : List Int} (h : ss.length = sg.length) : (stK ss sg).map (·.1) = ss.map kP := by
  unfold stK
  rw [List.map_map]
  have : (ss.zip sg).map ((fun x : List Key × V => x.1) ∘ fun p => (kP p.1, V.str (sgS p.2))) = ((ss.zip sg).map Prod.fst).map kP := by rw [List.map_map]; rfl
  rw [this, List.map_fst_zip (by omega)]
theorem stK_snd {ss : List (Int × Int)} {sg : List Int} (h : ss.length = sg.length) : (stK ss sg).map (·.2) = sg.map fun s => V.str (sgS s) := by
  unfold stK
  rw [List.map_map]
  have : (ss.zip sg).map ((fun x : List Key × V => x.2) ∘ fun p => (kP p.1, V.str (sgS p.2))) = ((ss.zip sg).map Prod.snd).map fun s => V.str (sgS s) := by rw [List.map_map]; rfl
  rw [this, List.map_snd_zip (by omega)]
def huK (hs : List Int) (sg : List Int) : List (Key × V) := (hs.zip sg).map fun p => (Sum.inl p.1, V.str (sgS p.2))
theorem huK_fst {hs sg : List Int} (h : hs.length = sg.length) : ((huK hs sg).map fun p => kV p.1) = hs.map V.int := by
  unfold huK
  rw [List.map_map]
  have : (hs.zip sg).map ((fun x : Key × V => kV x.1) ∘ fun p => (Sum.inl p.1, V.str (sgS p.2))) = ((hs.zip sg).map Prod.fst).map V.int := by rw [List.map_map]; rfl
  rw [this, List.map_fst_zip (by omega)]
theorem huK_snd {hs sg : List Int} (h : hs.length = sg.length) : (huK hs sg).map (·.2) = sg.map fun s => V.str (sgS s) := by
  unfold huK
  rw [List.map_map]
  have : (hs.zip sg).map ((fun x : Key × V => x.2) ∘ fun p => (Sum.inl p.1, V.str (sgS p.2))) = ((hs.zip sg).map Prod.snd).map fun s => V.str (sgS s) := by rw [List.map_map]; rfl
  rw [this, List.map_snd_zip (by omega)]
theorem stK_short (ss : List (Int × Int)) (sg : List Int) : ShortV (stK ss sg) := fun p hp => by
  obtain ⟨q, _, rfl⟩ := List.mem_map.mp hp
  exact ⟨_, rfl, sgS_short _⟩
theorem huK_short (hs sg : List Int) : ShortV (huK hs sg) := fun p hp => by
  obtain ⟨q, _, rfl⟩ := List.mem_map.mp hp
  exact ⟨_, rfl, sgS_short _⟩
theorem Sq.b {K : PySem.W.Frag} {H : Hp} {a : Addr} {xs : List V} (h : Sq K H a xs) : ∃ k, SqB K k H a xs := h.elim (fun h => ⟨true, h⟩) fun h => ⟨false, h⟩
section
variable {P : Program} {w : World} {K : PySem.W.Frag} {mg : Str → Option Value} {base : Heap}
abbrev rJn (K : PySem.W.Frag) : V → List V → Hp → VK → Prop := fun x xs H Q => ∃ a p, ∃ ys : List Str, x = .str a ∧ xs = [.ref p] ∧ (SqL K H p (ys.map V.str) ∨ SqT K H p (ys.map V.str)) ∧ (ys.map (·.length)).sum + ys.length * a.length ≤ 16777216 ∧ Q (.str (Txt.join a ys)) H
theorem j_op {σ : L2.St} {H : Hp} {te : TE} {Q : VK} (h : te σ H fun y H1 => rJn K (.str " ") [y] H1 Q) : tM1 (rJn K) (tC (.str " ")) te σ H Q := k_op ⟨⟨_, rfl⟩, h⟩
theorem j_of {H : Hp} {p : Addr} {ys : List Str} {Q : VK} (h1 : H p = some (.lst (ys.map V.str))) (h2 : ys.length ≤ 400) (h3 : ∀ z ∈ ys, z.length ≤ 1001) (q : ∀ z, Q (.str z) H) : rJn K (.str " ") [.ref p] H Q :=
  ⟨" ", p, ys, rfl, rfl, .inl (sq_of h1), by
    have := sum_len h3
    show _ + ys.length * 1 ≤ _
    omega, q _⟩
abbrev sWS : Stmt := webS 3
abbrev nWS : List Str := ["self", "hub_signs", "tie_signs", "hub", "tie"]
theorem scWS : FnScope nWS ["self"] (defScope sWS) := ⟨rfl, rfl, rfl, by decide +kernel, rfl, by decide +kernel, by decide +kernel⟩
def spWS (C : Addr) : Sp := fun vs H Q _ => ∃ (a : Addr) (ks : List Str) (ts : List (Int × Int)) (hs : List Int) (ss : List (Int × Int)), vs = [.ref a] ∧ WebH C H a (webT ks ts hs ss) ∧ WebT ks ts hs ss ∧ ∀ z H2, Ex H H2 → Q (.str z) H2
theorem ok_ws {W : WebC K mg} {f : Addr} {fd : FuncData} {k : Nat} (F : MthP K "__str__" sWS f fd) (B : Bu mg) (T_ : FnA K mg "told_items" sTI ["kinds", "ties", "hub_signs", "tie_signs"]) : FnOk P w K mg base CX0 (k + 2) f fd ["self"] (spWS W.C) := by
  have GT : FnOk P w K mg base CX0 (k + 1) T_.f T_.fd ["kinds", "ties", "hub_signs", "tie_signs"] spTI := ok_ti T_.F B
  refine okM0 F scWS (fun vs H Q E h => ?_) (fun cdv A outer s H vs Q E hr h => ?_)
  · obtain ⟨a, ks, ts, hs, ss, rfl, _⟩ := h
    rfl
  · obtain ⟨a, ks, ts, hs, ss, rfl, hW, T, q⟩ := h
    have hu := hu_of hr
    refine ⟨_, (pss_cons (ps_setDc (i := 1) (own := [("hub", 3)]) (g := gName 3) rfl scWS.nd rfl rfl rfl (pi_seq (pe_fld (pv 0) rfl)) (blkOk_by (N := nWS) (sc := defScope sWS) (by decide +kernel)) (fun _ _ _ _ _ => (pg_name (i := 3) scWS.nd rfl (Or.inl rfl))) (fun _ _ _ _ _ => pts_nil) (fun _ _ _ _ _ => (pv 3)) (fun _ _ _ _ _ => pe_str))
      (pss_cons (ps_setDcT (i := 2) (own := [("tie", 4)]) (g := gName 4) hu rfl scWS.nd rfl rfl rfl (pi_seq (pe_fld (pv 0) rfl)) (blkOk_by (N := nWS) (sc := defScope sWS) (by decide +kernel)) (fun _ _ _ _ _ => (pg_name (i := 4) scWS.nd rfl (Or.inl rfl))) (fun _ _ _ _ _ => pts_nil) (fun _ _ _ _ _ => (pv 4)) (fun _ _ _ _ _ => pe_str))
      (pss_one (ps_ret (pe_join pe_str (pe_call GT hr (by rfl) T_.g T_.F.kp T_.b .nil pass0 (pa_cons (pe_fld (pv 0) rfl) (pa_cons (pe_fld (pv 0) rfl) (pa_cons (pv 1) (pa_cons (pv 2) pa_nil)))))))))), ?_⟩
    obtain ⟨kk2, wA, dx, ha, hi⟩ := id hW
    have hk := T.len
    have hhl : hs.length ≤ 1000 := hW.1.hubs
    have hsl : ss.length ≤ 400 := hW.1.stiff
    refine q_as (dc_intsC (K := K) (ns := hs) (a := wA.hA) (by decide) (fun H1 e1 Q1 q1 => fldW (W := W) (e1 _ _ ha) (ev_var rfl) W.n4 rfl q1) (.inr hi.h.st) (by omega) (fun _ => rfl) (fun _ => rfl) fun D1 kv1 H1 _ e1 hd1 sv1 => ?_)
    refine q_as (dc_tiesC (K := K) (ps := ss) (ys := wA.sys) (a := wA.sA) (by decide) (fun H2 e2 Q1 q1 => fldW (W := W) ((e1.trans e2) _ _ ha) (ev_var rfl) W.n5 rfl q1) (.inr (hi.s.up e1).st) (prs_up e1 hi.ps) (by omega) (fun _ => rfl) (fun _ => rfl) fun D2 kv2 H2 _ e2 hd2 sv2 => ?_)
    have e12 := e1.trans e2
    refine s_re (j_op (c_op (a_op (fldW (W := W) (e12 _ _ ha) (ev_var rfl) W.n1 rfl fun H3 e3 => a_op (fldW (W := W) ((e12.trans e3) _ _ ha) (ev_var rfl) W.n2 rfl fun H4 e4 => a_op (v_op rfl (a_op (v_op rfl (n_op ?_)))))))))
    have e24 := e3.trans e4
    have e14 := e12.trans e24
    refine ⟨wA.kA, wA.tA, D1, D2, ks, wA.tys, ts, kv1, kv2, rfl, hi.k.up e14, e14 _ _ hi.t, prs_up e14 hi.pt, (e2.trans e24) _ _ hd1, e24 _ _ hd2, hk.2, fun z hz => (T.nam z hz).2, by have := T.tl; omega, fun p hp => by have := T.tb p hp; omega, sv1, sv2, fun L zs H5 e5 hL zl zz => j_of hL zl zz fun z => q z H5 (e14.trans e5)⟩
theorem tif_op {t : TT} {ta tb : TE} {σ : L2.St} {H : Hp} {Q : VK} (h : t σ H fun c H1 => if c = true then ta σ H1 Q else tb σ H1 Q) : tIf t ta tb σ H Q := h
abbrev sBSt : Stmt := bodS 2
abbrev nBSt : List Str := ["self", "signs", "hub_signs", "tie_signs", "sign"]
theorem scBSt : FnScope nBSt ["self"] (defScope sBSt) := ⟨rfl, rfl, rfl, by decide +kernel, rfl, by decide +kernel, by decide +kernel⟩
def spBSt (W C : Addr) : Sp := fun vs H Q _ => ∃ (a : Addr) (ks : List Str) (ts : List (Int × Int)) (hs : List Int) (ss : List (Int × Int)) (sg : List Int), vs = [.ref a] ∧ BodH W C H a ⟨webT ks ts hs ss, sg⟩ ∧ WebT ks ts hs ss ∧ ∀ z H2, Ex H H2 → Q (.str z) H2
theorem dz_op {σ : L2.St} {H : Hp} {ta : TA} {Q : VK} (h : ta σ H fun vs H1 => rDictZ K vs H1 Q) : tDictZ K ta σ H Q := h
theorem okMB0 {x : Str} {st : Stmt} {f : Addr} {fd : FuncData} {N ps : List Str} {k : Nat} {sp : Sp} (F : MthB K x st f fd) (S : FnScope N ps (defScope st)) (len : ∀ vs H Q E, sp vs H Q E → vs.length = ps.length)
    (hbody : ∀ (cdv : Value) (A : Around) (outer : List Env) (s : Shared) (H : Hp) (vs : List V) (Q : VK) (E : XK), Room k (A.deeper (envOfC ("Body." ++ x) (defScope st) s.heap.objs.size f cdv)) → sp vs H Q E →
      ∃ t, PSs (cxOf CX0 P w K mg base N ("Body." ++ x) (defScope st) f cdv A outer s H E).nox (defBody st) t ∧ t { nx := fun _ H' => Q .non H', rt := Q } (start N vs) H) : FnOk P w K mg base CX0 (k + 1) f fd ps sp :=
  okM0 F S len hbody
theorem ok_bst {M : WebM P w K mg base} {Bd : BodC K mg} {f : Addr} {fd : FuncData} {k : Nat} (F : MthB K "__str__" sBSt f fd) (B : Bu mg) (hdict : mg "dict" = none) (T_ : FnA K mg "told_items" sTI ["kinds", "ties", "hub_signs", "tie_signs"]) : FnOk P w K mg base CX0 (k + 2) f fd ["self"] (spBSt M.C Bd.C) := by
  have GT : FnOk P w K mg base CX0 (k + 1) T_.f T_.fd ["kinds", "ties", "hub_signs", "tie_signs"] spTI := ok_ti T_.F B
  refine okM0 F scBSt (fun vs H Q E h => ?_) (fun cdv A outer s H vs Q E hr h => ?_)
  · obtain ⟨a, ks, ts, hs, ss, sg, rfl, _⟩ := h
    rfl
  · obtain ⟨a, ks, ts, hs, ss, sg, rfl, hB, T, q⟩ := h
    have hu64 := hr.units
    refine ⟨_, (pss_cons (ps_setLc (i := 1) (own := [("sign", 4)]) (g := gName 4) (te := tIf (tTest (tOp rEq (tVar 4) (tC (.int 1)))) (tC (.str "+")) (tC (.str "-"))) rfl scBSt.nd rfl rfl rfl (pi_seq (pe_fld (pv 0) rfl)) (blkOk_by (N := nBSt) (sc := (defScope sBSt)) (by decide +kernel)) (fun _ _ _ _ _ => (pg_name (i := 4) scBSt.nd rfl (Or.inl rfl))) (fun _ _ _ _ _ => pts_nil) (fun _ _ _ _ _ => (pe_ifExp (pt_cmpR op_eq (pv 4) pe_int (nomark _)) pe_str pe_str)))
      (pss_cons (ps_set (i := 2) scBSt.nd rfl (Or.inl rfl) (pe_dictZ hu64 rfl rfl hdict rfl B.zip (pa_cons (pe_fld (pe_fld (pv 0) rfl) rfl) (pa_cons (pv 1) pa_nil))))
      (pss_cons (ps_set (i := 3) scBSt.nd rfl (Or.inl rfl) (pe_dictZ hu64 rfl rfl hdict rfl B.zip (pa_cons (pe_fld (pe_fld (pv 0) rfl) rfl) (pa_cons (pe_slice sl_list (pv 1) (po_some (pe_callB call_len_seq rfl B.len PySem.boot_len (pa_cons (pe_fld (pe_fld (pv 0) rfl) rfl) pa_nil))) po_none) pa_nil))))
      (pss_one (ps_ret (pe_join pe_str (pe_call GT hr (by rfl) T_.g T_.F.kp T_.b .nil pass0 (pa_cons (pe_fld (pe_fld (pv 0) rfl) rfl) (pa_cons (pe_fld (pe_fld (pv 0) rfl) rfl) (pa_cons (pv 2) (pa_cons (pv 3) pa_nil))))))))))), ?_⟩
    obtain ⟨hsl, hsg, hsz⟩ := hB.1
    have hlen : sg.length = hs.length + ss.length := hsl
    have hsz : sg.length ≤ 1000 := hsz
    obtain ⟨_, wa, sA, dx, ha, hi⟩ := id hB
    have hk := T.len
    have comp := el_lcSq (K := K) (σ := [some (.ref a), none, none, none, none]) (H := H) (a := sA) (xs := sg.map V.int) (tl := tFld K (tVar 0) "setting") (te := tIf (tTest (tOp rEq (tVar 4) (tC (.int 1)))) (tC (.str "+")) (tC (.str "-"))) (t := tYes) (j := 4) (vs := [4]) (fun _ => true) (fun i => V.str (sgS (sg.getD i 0)))
      (fun H1 e1 Q1 q1 => ⟨_, rfl, a, Bd.C, dx, _, .ref sA, rfl, e1 _ _ ha, Bd.cls, Bd.n2, rfl, q1 H1 (Ex.refl _)⟩) (.inr hi.s.st) (by rw [List.length_map]; omega) (fun _ => rfl) (fun _ _ _ _ _ => et_yes) (fun i x H1 e1 hx _ H2 e2 Q2 q2 => by
        obtain ⟨n, hn, rfl⟩ := int_at hx
        rw [getD_at hn] at q2
        refine tif_op (op_test (op_op (v_op rfl (k_op ⟨rfl, _, rfl, ?_⟩))))
        by_cases h1 : n = 1
        · subst h1
          exact iteT (q2 H2 (Ex.refl _))
        · rw [decide_eq_false (fun z => h1 (V.int.inj z))]
          unfold sgS at q2
          rw [if_neg h1] at q2
          exact iteF (q2 H2 (Ex.refl _)))
    have hg : given (sg.map V.int).length (fun _ => true) (fun i => V.str (sgS (sg.getD i 0))) = sg.map fun s => V.str (sgS s) := by
      have := given_of 0 sg (n := (sg.map V.int).length) (by rw [List.length_map]) (fun _ => true) (fun s => V.str (sgS s))
      rw [this, List.filter_eq_self.mpr fun _ _ => rfl]
    rw [hg] at comp
    refine q_as (comp H (Ex.refl _) _ fun L H1 hL e1 hL1 => ?_)
    -- the fields of the web
    obtain ⟨kk2, wA, dw, hw, hwi⟩ := id hi.w
    have fw : ∀ (σ : L2.St) (f : Str) (v : V) (H' : Hp) (Q' : VK), σ[0]? = some (some (.ref a)) → Ex H H' → NoAttr K M.C f → (webFs (webT ks ts hs ss) wA).lookup f = some v → Q' v H' → tFld K (tFld K (tVar 0) "web") f σ H' Q' := fun σ f v H' Q' s0 e hn hv q' =>
      ⟨_, s0, a, Bd.C, dx, _, .ref wa, rfl, e _ _ ha, Bd.cls, Bd.n1, rfl, wa, M.C, dw, _, v, rfl, e _ _ hw, M.cls, hn, hv, q'⟩
    have ltk : (sg.take hs.length).length = hs.length := by rw [List.length_take]; omega
    have ldr : (sg.drop hs.length).length = ss.length := by rw [List.length_drop]; omega
    have hhl : hs.length ≤ 1000 := by omega
    have hss : ss.length ≤ 400 := hi.w.1.stiff
    obtain ⟨k1, hk1⟩ := Sq.b (K := K) (H := H1) (a := wA.hA) (xs := hs.map V.int) (.inr (hwi.h.up e1).st)
    refine q_as (dz_op (a_op (fw _ "hubs" _ H1 _ rfl e1 M.n4 rfl (a_op (v_op rfl (n_op ⟨wA.hA, L, _, _, k1, true, rfl, hk1, sq_of hL1, by rw [List.length_map]; exact hhl, .inl ⟨huK hs (sg.take hs.length), (sg.drop hs.length).map fun s => V.str (sgS s), (huK_fst ltk.symm).symm, by rw [huK_snd ltk.symm, ← List.map_append, List.take_append_drop], fun D1 hD1 => ?_⟩⟩))))))
    have e2 := Ex.new (o := HO.dK (mergeK [] (huK hs (sg.take hs.length)))) hD1
    have hd1 : (upd H1 D1 (.dK (mergeK [] (huK hs (sg.take hs.length))))) D1 = some (.dK (mergeK [] (huK hs (sg.take hs.length)))) := upd_same
    generalize upd H1 D1 (.dK (mergeK [] (huK hs (sg.take hs.length)))) = H2 at e2 hd1 ⊢
    have e12 := e1.trans e2
    refine q_as (dz_op (a_op (fw _ "stiff" _ H2 _ rfl e12 M.n5 rfl (a_op ⟨.ref L, rfl, cb_op (a_op (fw _ "hubs" _ H2 _ rfl e12 M.n4 rfl (n_op ⟨wA.hA, _, rfl, .inr (hwi.h.up e12).st, ?_⟩)))⟩))))
    rw [List.length_map]
    refine ⟨(hs.length : Int), rfl, L, _, rfl, sq_of (e2 _ _ hL1), fun L2 hL2 => ?_⟩
    rw [cut_dropN]
    have e3 := Ex.new (o := HO.lst ((sg.drop hs.length).map fun s => V.str (sgS s))) hL2
    have hL3 : (upd H2 L2 (.lst ((sg.drop hs.length).map fun s => V.str (sgS s)))) L2 = some (.lst ((sg.drop hs.length).map fun s => V.str (sgS s))) := upd_same
    generalize upd H2 L2 (.lst ((sg.drop hs.length).map fun s => V.str (sgS s))) = H3 at e3 hL3 ⊢
    have e13 := e12.trans e3
    obtain ⟨k2, hk2⟩ := Sq.b (K := K) (H := H3) (a := wA.sA) (xs := wA.sys) (.inr (hwi.s.up e13).st)
    have hps := Paired.length hwi.ps
    refine n_op ⟨wA.sA, L2, _, _, k2, true, rfl, hk2, sq_of hL3, by rw [hps]; show ss.length ≤ 1000; omega, .inr ⟨stK ss (sg.drop hs.length), [], stK_ref (prs_up e13 hwi.ps) ldr.symm, by rw [stK_snd ldr.symm, List.append_nil], by rw [stK_fst ldr.symm]; exact List.pairwise_map.mpr (T.sn.imp fun h z => h (kP_inj z)), fun D2 hD2 => ?_⟩⟩
    have e4 := Ex.new (o := HO.dT (stK ss (sg.drop hs.length))) hD2
    have hd2 : (upd H3 D2 (.dT (stK ss (sg.drop hs.length)))) D2 = some (.dT (stK ss (sg.drop hs.length))) := upd_same
    generalize upd H3 D2 (.dT (stK ss (sg.drop hs.length))) = H4 at e4 hd2 ⊢
    have e14 := e13.trans e4
    refine s_re (j_op (c_op (a_op (fw _ "kinds" _ H4 _ rfl e14 M.n1 rfl (a_op (fw _ "ties" _ H4 _ rfl e14 M.n2 rfl (a_op (v_op rfl (a_op (v_op rfl (n_op ?_)))))))))))
    exact ⟨wA.kA, wA.tA, D1, D2, ks, wA.tys, ts, _, _, rfl, hwi.k.up e14, e14 _ _ hwi.t, prs_up e14 hwi.pt, (e3.trans e4) _ _ hd1, hd2, hk.2, fun z hz => (T.nam z hz).2, by have := T.tl; omega, fun p hp => by have := T.tb p hp; omega, ShortV.merge (fun _ z => absurd z List.not_mem_nil) (huK_short _ _), stK_short _ _, fun L zs H5 e5 hL zl zz => j_of hL zl zz fun z => q z H5 (e14.trans e5)⟩
end
end KW
namespace KW
open PySem PySem.Spec PyProof.Rows L2 KR KS KX Evl StX
section
variable {P : Program} {w : World} {K : PySem.W.Frag} {mg : Str → Option Value} {base : Heap}
/-- both classes with all that this law asks of them -/
structure All6 (S : Es P w K mg base) (k : Nat) where
  Y : WebY S (k + 6)
  Bd : BodY S Y.C (k + 5)
  ZB : WebE K Bd.C
  fE : Addr
  fdE : FuncData
  atE : PySem.W.findIn K (.ref Bd.C) "__eq__" = some (some (.ref fE))
  fnE : PySem.W.isFn K (.ref fE) = true
  bE : L2.Binds K fdE ["self", "other"] []
  FE : FnOk P w K mg base CX0 2 fE fdE ["self", "other"] (spEqB K Y.C Bd.C)
  ne : PySem.W.findIn K (.ref Bd.C) "__ne__" = some (some (.builtin "object.__ne__"))
  ob : PySem.W.subIn K (.ref Bd.C) (.type "object") = some true
  fK : Addr
  fdK : FuncData
  mK : Meth K Y.C "with_kind" fK
  FK : FnOk P w K mg base (L2.CX P w) (k + 8) fK fdK ["self", "piece", "kind"] (spWK Y.C)
  bK : L2.Binds K fdK ["self", "piece", "kind"] []
  fH : Addr
  fdH : FuncData
  mH : Meth K Bd.C "hand" fH
  FH : FnOk P w K mg base (L2.CX P w) (k + 4) fH fdH ["self", "hub"] (spHd S Y.C Bd.C)
  bH : L2.Binds K fdH ["self", "hub"] []
  kH : KBn K fdH ["self", "hub"] 1 ["hub"] (fun us ws => us ++ ws) (fun vs zs => vs ++ zs)
  fD : Addr
  fdD : FuncData
  mD : Meth K Bd.C "side" fD
  FD : FnOk P w K mg base (L2.CX P w) (k + 4) fD fdD ["self", "tie"] (spSd S Y.C Bd.C)
  bD : L2.Binds K fdD ["self", "tie"] []
  kD : KBn K fdD ["self", "tie"] 1 ["tie"] (fun us ws => us ++ ws) (fun vs zs => vs ++ zs)
  fT : Addr
  fdT : FuncData
  mT : Meth K Bd.C "turned" fT
  FT : FnOk P w K mg base (L2.CX P w) (k + 7) fT fdT ["self", "lot"] (spTn S Y.C Bd.C)
  bT : L2.Binds K fdT ["self", "lot"] []
  kT : KBn K fdT ["self", "lot"] 1 ["lot"] (fun us ws => us ++ ws) (fun vs zs => vs ++ zs)
  fM : Addr
  fdM : FuncData
  mM : Meth K Bd.C "mirrored" fM
  FM : FnOk P w K mg base (L2.CX P w) (k + 7) fM fdM ["self"] (spMi Y.C Bd.C)
  bM : L2.Binds K fdM ["self"] []
  fU : Addr
  fdU : FuncData
  atU : PySem.W.findIn K (.ref Bd.C) "__str__" = some (some (.ref fU))
  fnU : PySem.W.isFn K (.ref fU) = true
  bU : L2.Binds K fdU ["self"] []
  FU : FnOk P w K mg base CX0 (k + 2) fU fdU ["self"] (spBSt Y.C Bd.C)
  fV : Addr
  fdV : FuncData
  atV : PySem.W.findIn K (.ref Y.C) "__str__" = some (some (.ref fV))
  fnV : PySem.W.isFn K (.ref fV) = true
  bV : L2.Binds K fdV ["self"] []
  FV : FnOk P w K mg base CX0 (k + 2) fV fdV ["self"] (spWS Y.C)
  wB : PySem.W.kitOne K (.ref Y.C) (.ref Bd.C) = some false
  bW : PySem.W.kitOne K (.ref Bd.C) (.ref Y.C) = some false
  sB : PySem.W.kitOne K (.type "str") (.ref Bd.C) = some false
  tW : ∀ t ∈ (["NoneType", "int", "str"] : List String), PySem.W.kitOne K (.type t) (.ref Y.C) = some false
  nfS : PySem.W.notFirst K Bd.C (.type "str") = true
  nfW : PySem.W.notFirst K Bd.C (.ref Y.C) = true
/-! ### == and != -/
theorem right_inO {X : Cx} {C D b dx : Addr} {fs : List (Str × V)} {H : Hp} (hn : PySem.W.notFirst X.K C (.ref D) = true) (h : H b = some (.ins D dx fs)) : RightOk X C (.ref b) H := fun pins σ s v I rv => by
  obtain rfl : v = Value.ref b := rv
  obtain ⟨mA, J, _⟩ := ins_get I.hok h
  obtain ⟨od, J, _⟩ := J.look
  exact ⟨.ref D, J.type, hn⟩
theorem right_str {X : Cx} {C : Addr} {z : Str} {H : Hp} (hn : PySem.W.notFirst X.K C (.type "str") = true) : RightOk X C (.str z) H := fun pins σ s v I rv => by
  obtain ⟨t, rfl⟩ := (show ∃ t, v = Value.str z t from rv)
  exact ⟨.type "str", .now, hn⟩
theorem bodH_C {W C : Addr} {H : Hp} {a : Addr} {b : BodD} (h : BodH W C H a b) : ∃ dx fs, H a = some (.ins C dx fs) := by
  obtain ⟨_, wa, sA, dx, ha, _⟩ := h
  exact ⟨dx, _, ha⟩
theorem mt_body {W C : Addr} {H : Hp} {a : Addr} {b : BodD} {m : Str} (h : BodH W C H a b) (hm : ∀ wa sA, (bodFs wa sA).lookup m = none) : ∃ dx fs, H a = some (.ins C dx fs) ∧ fs.lookup m = none := by
  obtain ⟨_, wa, sA, dx, ha, _⟩ := h
  exact ⟨dx, _, ha, hm wa sA⟩
theorem new_op {X : Cx} {C : Addr} {H : Hp} {a b : Addr} {d e : WebD} {Q : VK} (ha : WebH C H a d) (hb : WebH C H b e) (q : ∀ H2, Ex H H2 → Q (.bl (!eqW d e)) H2) : rNeO C X (spEqW C) E0 (.ref a) (.ref b) H Q := by
  obtain ⟨dx, fs, h1⟩ := webH_C ha
  obtain ⟨dx2, fs2, h2⟩ := webH_C hb
  exact ⟨a, dx, fs, rfl, h1, right_ins h2, a, _, b, rfl, ha, .inl ⟨_, hb, fun H2 e2 => ⟨_, rfl, q H2 e2⟩⟩⟩
theorem eqb_op {X : Cx} {W C : Addr} {H : Hp} {a b : Addr} {d e : BodD} {Q : VK} (ha : BodH W C H a d) (hb : BodH W C H b e) (q : ∀ H2, Ex H H2 → Q (.bl (eqB d e)) H2) : rEqO C X (spEqB K W C) E0 (.ref a) (.ref b) H Q := by
  obtain ⟨dx, fs, h1⟩ := bodH_C ha
  obtain ⟨dx2, fs2, h2⟩ := bodH_C hb
  exact ⟨a, dx, fs, rfl, h1, right_ins h2, a, _, .ref b, rfl, ha, .inl ⟨b, _, rfl, hb, fun H2 e2 => ⟨_, rfl, q H2 e2⟩⟩⟩
theorem neb_op {X : Cx} {W C : Addr} {H : Hp} {a b : Addr} {d e : BodD} {Q : VK} (ha : BodH W C H a d) (hb : BodH W C H b e) (q : ∀ H2, Ex H H2 → Q (.bl (!eqB d e)) H2) : rNeO C X (spEqB K W C) E0 (.ref a) (.ref b) H Q := by
  obtain ⟨dx, fs, h1⟩ := bodH_C ha
  obtain ⟨dx2, fs2, h2⟩ := bodH_C hb
  exact ⟨a, dx, fs, rfl, h1, right_ins h2, a, _, .ref b, rfl, ha, .inl ⟨b, _, rfl, hb, fun H2 e2 => ⟨_, rfl, q H2 e2⟩⟩⟩
theorem str_is {C : Addr} {H : Hp} {z : Str} {b : Bool} (h : PySem.W.kitOne K (.type "str") (.ref C) = some b) : IsW K C H (.str z) b := ⟨_, fun H' e => (Kd.str z).ty, h⟩
theorem web_isO {W : WebC K mg} (Z : WebE K W.C) {C : Addr} {H : Hp} {a : Addr} {d : WebD} {b : Bool} (h : WebH W.C H a d) (k : PySem.W.kitOne K (.ref W.C) (.ref C) = some b) : IsW K C H (.ref a) b := by
  obtain ⟨_, w2, dx, hb, _⟩ := h
  exact ⟨_, fun H' e => .base (.ins (e _ _ hb) W.cls Z.ha Z.hn Z.htk Z.hm), k⟩
theorem body_isO {W : Addr} {Bd : BodC K mg} (Z : WebE K Bd.C) {C : Addr} {H : Hp} {a : Addr} {e : BodD} {b : Bool} (h : BodH W Bd.C H a e) (k : PySem.W.kitOne K (.ref Bd.C) (.ref C) = some b) : IsW K C H (.ref a) b := by
  obtain ⟨_, wa, sA, dx, hb, _⟩ := h
  exact ⟨_, fun H' e => .base (.ins (e _ _ hb) Bd.cls Z.ha Z.hn Z.htk Z.hm), k⟩
/-- body == a text -/
theorem eqbS_op {X : Cx} {W C : Addr} {H : Hp} {a : Addr} {z : Str} {d : BodD} {Q : VK} (hn : PySem.W.notFirst X.K C (.type "str") = true) (hk : PySem.W.kitOne K (.type "str") (.ref C) = some false) (ha : BodH W C H a d) (q : ∀ H2, Ex H H2 → Q (.bl false) H2) : rEqO C X (spEqB K W C) E0 (.ref a) (.str z) H Q := by
  obtain ⟨dx, fs, h1⟩ := bodH_C ha
  exact ⟨a, dx, fs, rfl, h1, right_str hn, a, _, .str z, rfl, ha, .inr ⟨str_is hk, fun H2 e2 => ⟨_, rfl, q H2 e2⟩⟩⟩
/-- body != a web -/
theorem nebW_op {X : Cx} {W : WebC K mg} (Z : WebE K W.C) {C : Addr} {H : Hp} {a b : Addr} {d : BodD} {e : WebD} {Q : VK} (hn : PySem.W.notFirst X.K C (.ref W.C) = true) (hk : PySem.W.kitOne K (.ref W.C) (.ref C) = some false) (ha : BodH W.C C H a d) (hb : WebH W.C H b e) (q : ∀ H2, Ex H H2 → Q (.bl true) H2) : rNeO C X (spEqB K W.C C) E0 (.ref a) (.ref b) H Q := by
  obtain ⟨dx, fs, h1⟩ := bodH_C ha
  obtain ⟨dx2, fs2, h2⟩ := webH_C hb
  exact ⟨a, dx, fs, rfl, h1, right_inO hn h2, a, _, .ref b, rfl, ha, .inr ⟨web_isO Z hb hk, fun H2 e2 => ⟨_, rfl, q H2 e2⟩⟩⟩
theorem eqB_self (b : BodD) : eqB b b = true := by
  unfold eqB
  rw [eqW_self, decide_eq_true rfl]
  rfl
/-! ### the defs, called -/
theorem first_nodup {α : Type} {l : List α} {x : α} {i j : Nat} (hn : l.Nodup) (hi : l[i]? = some x) (hj : FirstAt l x j) : j = i := by
  obtain ⟨a, ha⟩ := List.getElem?_eq_some_iff.mp hi
  obtain ⟨b, hb⟩ := List.getElem?_eq_some_iff.mp hj.1
  rcases Nat.lt_trichotomy j i with h | h | h
  · exact absurd (hb.trans ha.symm) (List.pairwise_iff_getElem.mp hn j i b a h)
  · exact h
  · exact absurd (ha.trans hb.symm) (List.pairwise_iff_getElem.mp hn i j a b h)
end
end KW
namespace KW
open PySem PySem.Spec PyProof.Rows L2 KR KS KX Evl StX
/-! ### marks turned: what comes of it -/
def toN (n : Nat) : List Int := (List.range n).map fun (i : Nat) => (i : Int)
theorem toN_len (n : Nat) : (toN n).length = n := by unfold toN; rw [List.length_map, List.length_range]
theorem toN_mem {n : Nat} {x : Int} : x ∈ toN n ↔ 0 ≤ x ∧ x < (n : Int) := by
  unfold toN
  rw [List.mem_map]
  constructor
  · rintro ⟨i, hi, rfl⟩
    have := List.mem_range.mp hi
    omega
  · rintro ⟨h1, h2⟩
    exact ⟨x.toNat, List.mem_range.mpr (by omega), by omega⟩
theorem toN_nodup (n : Nat) : (toN n).Nodup := by
  unfold toN
  refine List.Pairwise.map _ (fun a b h z => h (by omega)) List.nodup_range
theorem rg_toN (n : Nat) : rgV 0 (n : Int) = (toN n).map V.int := by
  unfold rgV toN
  rw [List.map_map, show ((n : Int) - 0).toNat = n from by omega]
  refine List.map_congr_left fun i _ => ?_
  show V.int (0 + (i : Int)) = V.int (i : Int)
  rw [Int.zero_add]
theorem ext_of {l l' : List Int} (hl : l'.length = l.length) (h : ∀ (i : Nat) (s : Int), l[i]? = some s → l'[i]? = some s) : l' = l := by
  refine List.ext_getElem? fun i => ?_
  by_cases hi : i < l.length
  · rw [List.getElem?_eq_getElem hi]
    exact h i _ (List.getElem?_eq_getElem hi)
  · rw [List.getElem?_eq_none (by omega), List.getElem?_eq_none (by omega)]
theorem turn_get : ∀ (ms sg : List Int), ms.Nodup → (∀ m ∈ ms, 0 ≤ m ∧ m < (sg.length : Int)) → ∀ (i : Nat) (s : Int), sg[i]? = some s → (turnS sg ms)[i]? = some (if (i : Int) ∈ ms then -s else s)
  | [], sg, _, _, i, s, h => by
    rw [if_neg List.not_mem_nil]
    exact h
  | m :: ms, sg, hn, hb, i, s, h => by
    obtain ⟨m0, m1⟩ := hb m List.mem_cons_self
    obtain ⟨k, rfl⟩ : ∃ k : Nat, m = k := ⟨m.toNat, by omega⟩
    obtain ⟨hn1, hn2⟩ := List.nodup_cons.mp hn
    show (turnS (sg.set (k : Int).toNat (-(sg.getD (k : Int).toNat 0))) ms)[i]? = _
    rw [show (k : Int).toNat = k from by omega]
    have hb2 : ∀ x ∈ ms, 0 ≤ x ∧ x < ((sg.set k (-(sg.getD k 0))).length : Int) := fun x hx => by
      rw [List.length_set]
      exact hb x (List.mem_cons_of_mem _ hx)
    by_cases e : i = k
    · subst e
      rw [turn_get ms _ hn2 hb2 i (-(sg.getD i 0)) (List.getElem?_set_self (List.getElem?_eq_some_iff.mp h).1), getD_at h, if_neg hn1, if_pos List.mem_cons_self]
    · rw [turn_get ms _ hn2 hb2 i s (by rw [List.getElem?_set_ne (Ne.symm e)]; exact h)]
      by_cases hm : (i : Int) ∈ ms
      · rw [if_pos hm, if_pos (List.mem_cons_of_mem _ hm)]
      · rw [if_neg hm, if_neg fun z => (List.mem_cons.mp z).elim (fun z => e (by omega)) hm]
theorem turn_turn {ms sg : List Int} (hn : ms.Nodup) (hb : ∀ m ∈ ms, 0 ≤ m ∧ m < (sg.length : Int)) : turnS (turnS sg ms) ms = sg := by
  refine ext_of (by rw [turn_len, turn_len]) fun i s h => ?_
  rw [turn_get ms _ hn (by rw [turn_len]; exact hb) i _ (turn_get ms sg hn hb i s h)]
  by_cases hm : (i : Int) ∈ ms
  · rw [if_pos hm, if_pos hm, Int.neg_neg]
  · rw [if_neg hm, if_neg hm]
theorem turn_nil {ms sg : List Int} (hn : ms.Nodup) (hb : ∀ m ∈ ms, 0 ≤ m ∧ m < (sg.length : Int)) (hs : Signs sg) : decide (turnS sg ms = sg) = decide (ms = []) := by
  cases ms with
  | nil => rw [decide_eq_true (show turnS sg [] = sg from rfl), decide_eq_true rfl]
  | cons m ms =>
    rw [decide_eq_false (List.cons_ne_nil _ _)]
    refine decide_eq_false fun z => ?_
    obtain ⟨m0, m1⟩ := hb m List.mem_cons_self
    have h1 : sg[m.toNat]? = some sg[m.toNat] := List.getElem?_eq_getElem (by omega)
    have h2 := turn_get _ sg hn hb _ _ h1
    rw [z, h1, if_pos (by rw [show ((m.toNat : Nat) : Int) = m from by omega]; exact List.mem_cons_self)] at h2
    have h3 := hs _ (List.getElem_mem (l := sg) (n := m.toNat) (by omega))
    have h4 := Option.some.inj h2
    omega
theorem mir_get {d : WebD} {sg : List Int} {i : Nat} {s : Int} (h : sg[i]? = some s) : (mirS d sg)[i]? = some (if i < d.hubs.length then -s else s) := by
  have hi := (List.getElem?_eq_some_iff.mp h).1
  unfold mirS
  by_cases e : i < d.hubs.length
  · rw [List.getElem?_append_left (by rw [List.length_map, List.length_take]; omega), List.getElem?_map, List.getElem?_take, if_pos e, h, if_pos e]
    rfl
  · rw [List.getElem?_append_right (by rw [List.length_map, List.length_take]; omega), List.length_map, List.length_take, List.getElem?_drop, if_neg e]
    rw [show d.hubs.length + (i - min d.hubs.length sg.length) = i from by omega]
    exact h
theorem turn_mir {d : WebD} {sg : List Int} (hl : d.hubs.length ≤ sg.length) : turnS sg (toN d.hubs.length) = mirS d sg := by
  refine List.ext_getElem? fun i => ?_
  by_cases hi : i < sg.length
  · have h := List.getElem?_eq_getElem hi
    rw [turn_get _ sg (toN_nodup _) (fun m hm => by have := toN_mem.mp hm; omega) i _ h, mir_get h]
    by_cases e : i < d.hubs.length
    · rw [if_pos (toN_mem.mpr (by omega)), if_pos e]
    · rw [if_neg fun z => e (by have := toN_mem.mp z; omega), if_neg e]
  · rw [List.getElem?_eq_none (by rw [turn_len]; omega), List.getElem?_eq_none (by rw [mir_len]; omega)]
theorem mir_mir (d : WebD) (sg : List Int) : mirS d (mirS d sg) = sg := by
  refine ext_of (by rw [mir_len, mir_len]) fun i s h => ?_
  rw [mir_get (mir_get h)]
  by_cases e : i < d.hubs.length
  · rw [if_pos e, if_pos e, Int.neg_neg]
  · rw [if_neg e, if_neg e]
theorem mir_nil {d : WebD} {sg : List Int} (hl : d.hubs.length ≤ sg.length) (hs : Signs sg) : decide (mirS d sg = sg) = decide ((d.hubs.length : Int) = 0) := by
  by_cases e : d.hubs.length = 0
  · rw [decide_eq_true (by omega : (d.hubs.length : Int) = 0)]
    refine decide_eq_true (ext_of (mir_len _ _) fun i s h => ?_)
    rw [mir_get h, if_neg (by omega)]
  · rw [decide_eq_false (by omega : ¬(d.hubs.length : Int) = 0)]
    refine decide_eq_false fun z => ?_
    have h1 : sg[0]? = some sg[0] := List.getElem?_eq_getElem (by omega)
    have h2 := mir_get (d := d) h1
    rw [z, h1, if_pos (by omega)] at h2
    have h3 := hs _ (List.getElem_mem (l := sg) (n := 0) (by omega))
    have h4 := Option.some.inj h2
    omega
theorem lotM_ok {d : WebD} {x : Va} {ms : List Int} {z : Str} (hx : isNums x = true) (hi : intsV x = ms) (hn : ms.Nodup) (hb : ∀ m ∈ ms, 0 ≤ m ∧ m < (nM d : Int)) : lotM d x z = .ok ms := by
  have h1 : badP (nM d : Int) ms = none := List.find?_eq_none.mpr fun m hm => by
    have := hb m hm
    simp only [Bool.not_eq_true, Bool.not_eq_false', Bool.and_eq_true, decide_eq_true_eq]
    omega
  unfold lotM
  rw [if_pos hx, hi, h1, ft_none ms [] hn fun _ _ z => nomatch z]
theorem nums_of {l : List Int} {x : Va} (h : seqV x = some (l.map Va.int)) : isNums x = true ∧ intsV x = l := by
  have h1 : (l.map Va.int).all isI = true := List.all_eq_true.mpr fun y hy => by
    obtain ⟨i, _, rfl⟩ := List.mem_map.mp hy
    rfl
  refine ⟨by unfold isNums; rw [h]; exact h1, ?_⟩
  unfold intsV itemsV
  rw [h, Option.getD_some, List.map_map]
  conv => rhs; rw [← List.map_id l]
  exact List.map_congr_left fun i _ => rfl
theorem given_take {l : List Int} {n : Nat} (h : n ≤ l.length) : given n (fun _ => true) (fun i => V.int (l.getD i 0)) = (l.take n).map V.int := given_all (by rw [List.length_map, List.length_take]; omega) fun i x hx => by
  rw [List.getElem?_map, List.getElem?_take] at hx
  split at hx
  · obtain ⟨y, hy, rfl⟩ := Option.map_eq_some_iff.mp hx
    rw [getD_at hy]
  · cases hx
theorem given_drop {l : List Int} {n d : Nat} (h : d + n = l.length) : given n (fun _ => true) (fun i => V.int (l.getD (d + i) 0)) = (l.drop d).map V.int := given_all (by rw [List.length_map, List.length_drop]; omega) fun i x hx => by
  rw [List.getElem?_map, List.getElem?_drop] at hx
  obtain ⟨y, hy, rfl⟩ := Option.map_eq_some_iff.mp hx
  rw [getD_at hy]
end KW
namespace KW
open PySem PySem.Spec PyProof.Rows L2 KR KS KX Evl StX
section
variable {P : Program} {w : World} {K : PySem.W.Frag} {mg : Str → Option Value} {base : Heap}
/-! ### readings that the law's parts share -/
/-- what lies ready: the pen, the drawn web, its web, its setting, its body -/
structure MC {S : Es P w K mg base} {k : Nat} (A : All6 S k) (p l : Addr) (ns : List Int) (b kA tA hA sA : Addr) (tys sys : List V) (ks : List Str) (ts : List (Int × Int)) (hs : List Int) (ss : List (Int × Int)) (m g : Addr) (sg : List Int) (n : Int) (H : Hp) : Prop where
  pen : Pen H p l ns n
  wl : WL H p b kA tA hA sA tys sys ks ts hs ss
  w : WebH A.Y.C H m (webT ks ts hs ss)
  gp : g ≠ p
  g : H g = some (.lst (sg.map V.int))
  len : sg.length = hs.length + ss.length
  sgn : Signs sg
theorem MC.upP {S : Es P w K mg base} {k : Nat} {A : All6 S k} {p l : Addr} {ns : List Int} {b kA tA hA sA : Addr} {tys sys : List V} {ks : List Str} {ts : List (Int × Int)} {hs : List Int} {ss : List (Int × Int)} {m g : Addr} {sg : List Int} {n n' : Int} {H H' : Hp} (M : MC A p l ns b kA tA hA sA tys sys ks ts hs ss m g sg n H) (e : ExP p H H') (hp : Pen H' p l ns n') : MC A p l ns b kA tA hA sA tys sys ks ts hs ss m g sg n' H' :=
  ⟨hp, M.wl.upP M.pen e, M.w.upP M.pen e, M.gp, e _ _ M.gp M.g, M.len, M.sgn⟩
theorem MC.up {S : Es P w K mg base} {k : Nat} {A : All6 S k} {p l : Addr} {ns : List Int} {b kA tA hA sA : Addr} {tys sys : List V} {ks : List Str} {ts : List (Int × Int)} {hs : List Int} {ss : List (Int × Int)} {m g : Addr} {sg : List Int} {n : Int} {H H' : Hp} (M : MC A p l ns b kA tA hA sA tys sys ks ts hs ss m g sg n H) (e : Ex H H') : MC A p l ns b kA tA hA sA tys sys ks ts hs ss m g sg n H' := M.upP (Ex.p e) (M.pen.up e)
theorem BodH.upP {W C : Addr} {H H' : Hp} {p l a : Addr} {ns : List Int} {n : Int} {b : BodD} (h : BodH W C H a b) (hp : Pen H p l ns n) (e : ExP p H H') : BodH W C H' a b := by
  obtain ⟨k, wa, sA, dx, ha, hi⟩ := h
  obtain ⟨t, rr, hpp, _⟩ := hp.at_
  exact ⟨k, wa, sA, dx, e _ _ (fun z => by rw [z, hpp] at ha; cases ha) ha, ⟨hi.w.upP hp e, hi.s.upT (ExT.pen hp e)⟩⟩
theorem fl_op {te : TE} {f : Str} {σ : L2.St} {H : Hp} {Q : VK} (h : te σ H fun x H1 => ∃ a C dx fs v, x = .ref a ∧ H1 a = some (.ins C dx fs) ∧ Cls K C ∧ NoAttr K C f ∧ fs.lookup f = some v ∧ Q v H1) : tFld K te f σ H Q := h
/-- a field of a body, as a value -/
theorem fbv {W : Addr} {Bd : BodC K mg} {H : Hp} {a : Addr} {b : BodD} {f : Str} {Q : VK} (h : BodH W Bd.C H a b) (hn : NoAttr K Bd.C f) (q : ∀ wa sA, BodI W H b wa sA → ∃ v, (bodFs wa sA).lookup f = some v ∧ Q v H) : ∃ a' C dx fs v, V.ref a = .ref a' ∧ H a' = some (.ins C dx fs) ∧ Cls K C ∧ NoAttr K C f ∧ fs.lookup f = some v ∧ Q v H := by
  obtain ⟨_, wa, sA, dx, ha, hi⟩ := h
  obtain ⟨v, h1, h2⟩ := q wa sA hi
  exact ⟨a, _, dx, _, v, rfl, ha, Bd.cls, hn, h1, h2⟩
theorem ne_tt {H : Hp} {a b : Addr} {l l' : List Int} {Q : VK} (h1 : TX H a (l.map V.int)) (h2 : TX H b (l'.map V.int)) (q : Q (.bl (!decide (l = l'))) H) : rNeD K (.ref a) (.ref b) H Q :=
  ne_gd (n := 1) (m := 1) (KX.GD.tup (n := 0) h1.st (gd_ints _)) (KX.GD.tup (n := 0) h2.st (gd_ints _)) (by rw [eqv_tmap _ eqv_int]; exact q)
theorem ne_ll {H : Hp} {a b : Addr} {l l' : List Int} {Q : VK} (h1 : H a = some (.lst (l.map V.int))) (h2 : H b = some (.lst (l'.map V.int))) (q : Q (.bl (!decide (l = l'))) H) : rNeD K (.ref a) (.ref b) H Q :=
  ne_gd (n := 1) (m := 1) (KX.GD.lst (n := 0) (sq_of h1) (gd_ints _)) (KX.GD.lst (n := 0) (sq_of h2) (gd_ints _)) (by rw [eqv_lmap _ eqv_int]; exact q)
theorem eq_ll {H : Hp} {a b : Addr} {l l' : List Int} {Q : VK} (h1 : H a = some (.lst (l.map V.int))) (h2 : H b = some (.lst (l'.map V.int))) (q : Q (.bl (decide (l = l'))) H) : rEqD K (.ref a) (.ref b) H Q :=
  eq_gd (n := 1) (m := 1) (KX.GD.lst (n := 0) (sq_of h1) (gd_ints _)) (KX.GD.lst (n := 0) (sq_of h2) (gd_ints _)) (by rw [eqv_lmap _ eqv_int]; exact q)
theorem eqv_bool (a b : Bool) : PyData.eqv (.bool a) (.bool b) = (a == b) := by
  cases a <;> cases b <;> simp [PyData.eqv]
theorem ne_bb {H : Hp} {a b : Bool} {Q : VK} (q : Q (.bl (!(a == b))) H) : rNeD K (.bl a) (.bl b) H Q :=
  ne_gd (n := 0) (m := 0) (KX.GD.bl a) (KX.GD.bl b) (by rw [eqv_bool]; exact q)
theorem eq_ii {H : Hp} {a b : Int} {Q : VK} (q : Q (.bl (decide (a = b))) H) : rEqD K (.int a) (.int b) H Q :=
  eq_gd (n := 0) (m := 0) (KX.GD.int a) (KX.GD.int b) (by rw [eqv_int]; exact q)
theorem first_of {α : Type} {l : List α} {x : α} {i : Nat} (hn : l.Nodup) (hi : l[i]? = some x) : FirstAt l x i := by
  refine ⟨hi, fun m hm z => ?_⟩
  obtain ⟨a, ha⟩ := List.getElem?_eq_some_iff.mp hi
  obtain ⟨b, hb⟩ := List.getElem?_eq_some_iff.mp z
  exact absurd (hb.trans ha.symm) (List.pairwise_iff_getElem.mp hn m i b a hm)
theorem hd_op {S : Es P w K mg base} {W C : Addr} {H : Hp} {a : Addr} {d : WebD} {sg : List Int} {i : Nat} {h z : Int} {Q : VK} {E : XK} (hB : BodH W C H a ⟨d, sg⟩) (hn : d.hubs.Nodup) (hi : d.hubs[i]? = some h) (hz : sg[i]? = some z) (q : ∀ H2, Ex H H2 → Q (.int z) H2) : spHd S W C [.ref a, .int h] H Q E :=
  ⟨a, _, .int h, .int h, rfl, hB, .int h, .inr ⟨h, i, z, rfl, first_of hn hi, hz, q⟩⟩
theorem sd_op {S : Es P w K mg base} {W C : Addr} {H : Hp} {a : Addr} {d : WebD} {sg : List Int} {i : Nat} {p : Int × Int} {v : V} {x : Va} {z : Int} {Q : VK} {E : XK} (hB : BodH W C H a ⟨d, sg⟩) (hn : d.stiff.Nodup) (hi : d.stiff[i]? = some p) (hz : sg[d.hubs.length + i]? = some z) (r : Rv H v x) (hx : seqV x = some ([p.1, p.2].map Va.int)) (q : ∀ H2, Ex H H2 → Q (.int z) H2) : spSd S W C [.ref a, v] H Q E :=
  ⟨a, _, v, x, rfl, hB, r, .inr ⟨p, i, z, (nums_of hx).1, (nums_of hx).2, first_of hn hi, hz, q⟩⟩
theorem tn_op {S : Es P w K mg base} {W C : Addr} {H : Hp} {a : Addr} {d : WebD} {sg ms : List Int} {v : V} {x : Va} {Q : VK} {E : XK} (hB : BodH W C H a ⟨d, sg⟩) (r : Rv H v x) (hx : seqV x = some (ms.map Va.int)) (hn : ms.Nodup) (hb : ∀ i ∈ ms, 0 ≤ i ∧ i < (nM d : Int)) (q : ∀ c H2, Ex H H2 → BodH W C H2 c ⟨d, turnS sg ms⟩ → Q (.ref c) H2) : spTn S W C [.ref a, v] H Q E := by
  refine ⟨a, _, v, x, rfl, hB, r, ?_⟩
  rw [lotM_ok (nums_of hx).1 (nums_of hx).2 hn hb]
  exact q
theorem rv_lst {H : Hp} {a : Addr} {l : List Int} (h : H a = some (.lst (l.map V.int))) (hl : l.length ≤ 1000) : Rv H (.ref a) (.lst (l.map Va.int)) := .lst h (rva_ints H l) (by rw [List.length_map]; exact hl)
theorem rv_tup {H : Hp} {a : Addr} {l : List Int} (h : TX H a (l.map V.int)) (hl : l.length ≤ 1000) : Rv H (.ref a) (.tup (l.map Va.int)) := .tup h (rva_ints H l) (by rw [List.length_map]; exact hl)
theorem hands_lj {S : Es P w K mg base} {k : Nat} {A : All6 S k} {p l : Addr} {ns : List Int} {b kA tA hA sA : Addr} {tys sys : List V} {ks : List Str} {ts : List (Int × Int)} {hs : List Int} {ss : List (Int × Int)} {m g : Addr} {sg : List Int} {n : Int} {H : Hp} (M : MC A p l ns b kA tA hA sA tys sys ks ts hs ss m g sg n H) {σ : L2.St} {te : TE} {Q : VK} (hw : ∀ x, wipe ((wipe σ [12]).set 12 (some x)) [12] = wipe σ [12])
    (he : ∀ (i : Nat) (h z : Int) (H2 : Hp), Ex H H2 → hs[i]? = some h → sg[i]? = some z → ∀ Q2 : VK, (∀ H3, Ex H2 H3 → Q2 (.int z) H3) → te ((wipe σ [12]).set 12 (some (.int h))) H2 Q2) (q : ∀ D H2, Ex H H2 → H2 D = some (.lst ((sg.take hs.length).map V.int)) → Q (.ref D) H2) : LJ (Itl K hA) (gName 12) tYes te [12] σ Q H := by
  have hsl : hs.length ≤ 1000 := M.w.1.hubs
  refine lj_cw (fun _ => true) (fun i => V.int (sg.getD i 0)) M.wl.hh (by rw [List.length_map]; omega) hw (fun _ _ _ _ _ => et_yes) (fun i x H3 e3 hx _ H4 e4 Q4 q4 => ?_) (fun D H3 hD e3 hd => q D H3 e3 ?_)
  · obtain ⟨h, hh, rfl⟩ := int_at hx
    have hi := (List.getElem?_eq_some_iff.mp hh).1
    have hl := M.len
    obtain ⟨z, hz⟩ : ∃ z, sg[i]? = some z := ⟨_, List.getElem?_eq_getElem (by omega)⟩
    refine he i h z H4 (e3.trans e4) hh hz Q4 fun H5 e5 => ?_
    rw [getD_at hz] at q4
    exact q4 H5 e5
  · rw [List.length_map, given_take (by have := M.len; omega)] at hd
    exact hd
theorem sides_lj {S : Es P w K mg base} {k : Nat} {A : All6 S k} {p l : Addr} {ns : List Int} {b kA tA hA sA : Addr} {tys sys : List V} {ks : List Str} {ts : List (Int × Int)} {hs : List Int} {ss : List (Int × Int)} {m g : Addr} {sg : List Int} {n : Int} {H : Hp} (M : MC A p l ns b kA tA hA sA tys sys ks ts hs ss m g sg n H) {σ : L2.St} {te : TE} {Q : VK} (hw : ∀ x, wipe ((wipe σ [13]).set 13 (some x)) [13] = wipe σ [13])
    (he : ∀ (i : Nat) (t : Addr) (s : Int × Int) (z : Int) (H2 : Hp), Ex H H2 → H2 t = some (.tup [.int s.1, .int s.2]) → ss[i]? = some s → sg[hs.length + i]? = some z → ∀ Q2 : VK, (∀ H3, Ex H2 H3 → Q2 (.int z) H3) → te ((wipe σ [13]).set 13 (some (.ref t))) H2 Q2) (q : ∀ D H2, Ex H H2 → H2 D = some (.lst ((sg.drop hs.length).map V.int)) → Q (.ref D) H2) : LJ (Itl K sA) (gName 13) tYes te [13] σ Q H := by
  have hsl : ss.length ≤ 400 := M.w.1.stiff
  have hyl : sys.length = ss.length := Paired.length M.wl.ps
  refine lj_cw (fun _ => true) (fun i => V.int (sg.getD (hs.length + i) 0)) M.wl.hz (by omega) hw (fun _ _ _ _ _ => et_yes) (fun i x H3 e3 hx _ H4 e4 Q4 q4 => ?_) (fun D H3 hD e3 hd => q D H3 e3 ?_)
  · obtain ⟨s, hs2, t, rfl, ht⟩ := pget M.wl.ps hx
    have hi := (List.getElem?_eq_some_iff.mp hs2).1
    have hl := M.len
    obtain ⟨z, hz⟩ : ∃ z, sg[hs.length + i]? = some z := ⟨_, List.getElem?_eq_getElem (by omega)⟩
    refine he i t s z H4 (e3.trans e4) ((e3.trans e4) _ _ ht) hs2 hz Q4 fun H5 e5 => ?_
    rw [getD_at hz] at q4
    exact q4 H5 e5
  · rw [hyl, given_drop (by have := M.len; omega)] at hd
    exact hd
theorem lj_enum {k : Bool} {a : Addr} {xs : List V} {te : TE} {σ : L2.St} {Q : VK} {H1 : Hp} (v : Nat → V) (hx : ∀ H2, Ex H1 H2 → SqB K k H2 a xs) (hz : xs.length ≤ 40000) (hw : ∀ x y, wipe (((wipe σ [10, 11]).set 10 (some x)).set 11 (some y)) [10, 11] = wipe σ [10, 11])
    (he : ∀ (i : Nat) (x : V) H2, Ex H1 H2 → xs[i]? = some x → Ev te (((wipe σ [10, 11]).set 10 (some (.int (i : Int)))).set 11 (some x)) H2 (v i)) (q : ∀ D H2, Ex H1 H2 → H2 D = some (.lst (given xs.length (fun _ => true) v)) → Q (.ref D) H2) : LJ (IteB K k a) (gTup K 2 (gCons (gName 10) (gCons (gName 11) gNil))) tYes te [10, 11] σ Q H1 := fun D hD =>
  lc_it walk_enumB (Cw H1 (fun _ => true) v D) ⟨hD, Ex.new hD, upd_same⟩ (fun i H' _ p => hx H' p.2.1) (by
    rintro i x H' H2 hi p ⟨T, y, rfl, hT, rfl, hy⟩
    have eT := Ex.new (o := HO.tup [.int ((i : Nat) : Int), y]) hT
    have p2 : Cw H1 (fun _ => true) v D i (upd H' T (.tup [.int ((i : Nat) : Int), y])) := ⟨p.1, p.2.1.trans eT, eT _ _ p.2.2⟩
    exact ⟨T, _, rfl, st_of upd_same, rfl, _, _, rfl, _, _, rfl, rfl, hw _ _, cw_turn p2 (by have := (List.getElem?_eq_some_iff.mp hy).1; omega) et_yes (fun _ => he i y H1 (Ex.refl H1) hy)⟩) (fun H' p => q D H' p.2.1 p.2.2)
theorem given_ints_all {l : List Int} : given l.length (fun _ => true) (fun i => V.int (l.getD i 0)) = l.map V.int := by
  rw [given_take (Nat.le_refl _), List.take_length]
theorem nv_op {te : TE} {σ : L2.St} {H : Hp} {Q : VK} (h : te σ H fun x H1 => ∃ c, x = .bl c ∧ Q (.bl (!c)) H1) : tNotV te σ H Q := h
theorem mt_web {C : Addr} {H : Hp} {a : Addr} {d : WebD} {m : Str} (h : WebH C H a d) (hm : ∀ w : WebA, (webFs d w).lookup m = none) : ∃ dx fs, H a = some (.ins C dx fs) ∧ fs.lookup m = none := by
  obtain ⟨_, w, dx, ha, _⟩ := h
  exact ⟨dx, _, ha, hm w⟩
theorem sl_lo {r : V → Option Int → Option Int → Hp → VK → Prop} {ta tb : TE} {σ : L2.St} {H : Hp} {Q : VK} (h : ta σ H fun x H1 => tb σ H1 fun v H2 => ∃ n, v = .int n ∧ r x (some n) none H2 Q) : tSl r ta (tPart tb) tNoPart σ H Q := h
theorem sl_hi {r : V → Option Int → Option Int → Hp → VK → Prop} {ta tb : TE} {σ : L2.St} {H : Hp} {Q : VK} (h : ta σ H fun x H1 => tb σ H1 fun v H2 => ∃ n, v = .int n ∧ r x none (some n) H2 Q) : tSl r ta tNoPart (tPart tb) σ H Q := h
end
end KW
namespace KW
open PySem PySem.Spec PyProof.Rows L2 KR KS KX Evl StX
section
variable {P : Program} {w : World} {K : PySem.W.Frag} {mg : Str → Option Value} {base : Heap}
abbrev sMR : Stmt := topS 79
abbrev nMR : List Str := ["_law_pen_here", "_law_web_here", "_law_made", "_law_setting", "_law_body", "_law_hubs", "_law_many", "_law_lot", "_law_due", "_law_mirrored", "_law_mark", "_law_sign", "_law_hub", "_law_tie"]
theorem scMR : FnScope nMR ["_law_pen_here", "_law_web_here", "_law_made", "_law_setting"] (defScope sMR) := ⟨rfl, rfl, rfl, by decide +kernel, rfl, by decide +kernel, by decide +kernel⟩
abbrev teMR (K : PySem.W.Frag) : TE := tIf (tTest (tOp (rIn K false) (tVar 10) (tVar 7))) (tUn (rU fun i => V.int (-i)) (tVar 11)) (tVar 11)
abbrev rLO (K : PySem.W.Frag) : List V → Hp → VK → Prop := fun xs H Q => ∃ p ys, xs = [.ref p] ∧ (SqL K H p ys ∨ SqT K H p ys) ∧ ∀ l, H l = none → Q (.ref l) (upd H l (.lst ys))
abbrev teSL {S : Es P w K mg base} {k : Nat} (A : All6 S k) : TE := tMethK A.Bd.C "side" (["tie"] : List Str).length (spSd S A.Y.C A.Bd.C) (fun vs zs => vs ++ zs) (fun _ _ _ => False) (tVar 4) (tCons (tCB (rLO K) (tCons (tVar 13) tNil)) tNil)
def spMR {S : Es P w K mg base} {k : Nat} (A : All6 S k) : Sp := fun vs H Q _ => ∃ (p l : Addr) (ns : List Int) (n : Int) (b kA tA hA sA : Addr) (tys sys : List V) (ks : List Str) (ts : List (Int × Int)) (hs : List Int) (ss : List (Int × Int)) (m g : Addr) (sg : List Int), vs = [.ref p, .ref b, .ref m, .ref g] ∧ Pen H p l ns n ∧ n ≤ 70000 ∧ WL H p b kA tA hA sA tys sys ks ts hs ss ∧
  WebH A.Y.C H m (webT ks ts hs ss) ∧ g ≠ p ∧ H g = some (.lst (sg.map V.int)) ∧ sg.length = hs.length + ss.length ∧ Signs sg ∧ ∀ n' H2, ExP p H H2 → Pen H2 p l ns n' → n ≤ n' → n' ≤ n + 1000 → Q (.bl true) H2
theorem ok_mr {S : Es P w K mg base} {k : Nat} (A : All6 S k) {f : Addr} {fd : FuncData} (F : FnP K "_law_marks_right" sMR f fd) (B : Bu mg) (M_ : FnA K mg "_law_mixed" sMix ["_law_pen_here", "_law_items"]) (D_ : FnA K mg "_law_draw" sDraw ["_law_pen_here", "_law_many"]) : FnOk P w K mg base CX0 (k + 10) f fd ["_law_pen_here", "_law_web_here", "_law_made", "_law_setting"] (spMR A) := by
  have GD : FnOk P w K mg base CX0 (k + 9) D_.f D_.fd ["_law_pen_here", "_law_many"] spDraw := ok_draw D_.F B
  have GM : FnOk P w K mg base CX0 (k + 9) M_.f M_.fd ["_law_pen_here", "_law_items"] (spMix K) := ok_mix M_.F B D_
  refine ok0 F scMR (fun vs H Q E h => ?_) (fun cdv A' outer s H vs Q E hr h => ?_)
  · obtain ⟨p, l, ns, n, b, kA, tA, hA, sA, tys, sys, ks, ts, hs, ss, m, g, sg, rfl, _⟩ := h
    rfl
  · obtain ⟨p, l, ns, n, b, kA, tA, hA, sA, tys, sys, ks, ts, hs, ss, m, g, sg, rfl, hp, hn, wl, hW, hgp, hg, hl, hsg, q⟩ := h
    have hu := hr.units
    have hr8 := hr.mono (j := k + 8) (by omega)
    have hr7 := hr.mono (j := k + 7) (by omega)
    have hr6 := hr.mono (j := k + 6) (by omega)
    have hr4 := hr.mono (j := k + 4) (by omega)
    have hr3 := hr.mono (j := 3) (by omega)
    have hr2 := hr.mono (j := 2) (by omega)
    have hr1 := hr.mono (j := 1) (by omega)
    refine ⟨_, (pss_cons (ps_asg (pe_tup (pa_cons (pe_make A.Bd.M A.Bd.FI hr6 rfl A.Bd.g A.Bd.bI .nil passF (pa_cons (pv 2) (pa_cons (pv 3) pa_nil))) (pa_cons (pe_callB call_len_seq rfl B.len PySem.boot_len (pa_cons (pe_ix ix_seq (pv 1) pe_int (fun _ _ => rfl)) pa_nil)) (pa_cons (pe_callB call_len_seq rfl B.len PySem.boot_len (pa_cons (pv 3) pa_nil)) pa_nil)))) (pg_tup rfl (pgs_cons (pg_name (i := 4) scMR.nd rfl (Or.inr rfl)) (pgs_cons (pg_name (i := 5) scMR.nd rfl (Or.inl rfl)) (pgs_cons (pg_name (i := 6) scMR.nd rfl (Or.inl rfl)) pgs_nil)))))
      (pss_cons (ps_if (PW.pt (pw_or (pt_cmpR (op_neO A.Y.FE A.Y.atE A.Y.ne A.Y.ob A.Y.fnE A.Y.bE pass0 hr2) (pe_fld (pv 4) rfl) (pv 2) (nomark _)) (pw_or (pt_cmpR (op_neD hu) (pe_fld (pv 4) rfl) (pe_tupleOf rfl B.tuple (pv 3)) (nomark _)) (pw_or1 (pt_cmpR (op_neO A.FE A.atE A.ne A.ob A.fnE A.bE pass0 hr3) (pe_makeK0 A.Bd.M A.Bd.FI hr6 rfl A.Bd.g A.Bd.kI passF (pk_cons (pe_tupleOf rfl B.tuple (pv 3)) (pk_cons (pv 2) pk_nil))) (pv 4) (nomark _)))))) (pss_one (ps_ret pe_bl)) pss_nil)
      (pss_cons (ps_if (PW.pt (pw_or (pt_cmpR (op_neD hu) (pe_lc (own := [("_law_hub", 12)]) (g := gName 12) rfl scMR.nd (pi_seq (pe_ix ix_seq (pv 1) pe_int (fun _ _ => rfl))) (blkOk_by (N := nMR) (sc := (defScope sMR)) (by decide +kernel)) (fun _ _ _ _ _ => (pg_name (i := 12) scMR.nd rfl (Or.inl rfl))) (fun _ _ _ _ _ => pts_nil) (fun _ _ _ _ _ => (pe_meth (pv 4) A.Bd.cls A.mH A.FH hr4 A.bH .nil passF (pa_cons (pv 12) pa_nil)))) (pe_slice sl_list (pv 3) po_none (po_some (pv 5))) (nomark _)) (pw_or1 (pt_cmpR (op_neD hu) (pe_lc (own := [("_law_tie", 13)]) (g := gName 13) (te := teSL A) rfl scMR.nd (pi_seq (pe_ix ix_seq (pv 1) pe_int (fun _ _ => rfl))) (blkOk_by (N := nMR) (sc := (defScope sMR)) (by decide +kernel)) (fun _ _ _ _ _ => (pg_name (i := 13) scMR.nd rfl (Or.inl rfl))) (fun _ _ _ _ _ => pts_nil) (fun _ _ _ _ _ => (pe_methK (pv 4) A.Bd.cls A.mD A.FD hr4 A.kD passF (pk_cons (pe_callTy call_list_of rfl B.list boot_list (pa_cons (pv 13) pa_nil)) pk_nil)))) (pe_slice sl_list (pv 3) (po_some (pv 5)) po_none) (nomark _))))) (pss_one (ps_ret pe_bl)) pss_nil)
      (pss_cons (ps_if (pt_cmpR (op_neD hu) (pe_op op_cat (pe_lc (own := [("_law_hub", 12)]) (g := gName 12) rfl scMR.nd (pi_seq (pe_ix ix_seq (pv 1) pe_int (fun _ _ => rfl))) (blkOk_by (N := nMR) (sc := (defScope sMR)) (by decide +kernel)) (fun _ _ _ _ _ => (pg_name (i := 12) scMR.nd rfl (Or.inl rfl))) (fun _ _ _ _ _ => pts_nil) (fun _ _ _ _ _ => (pe_methK (pv 4) A.Bd.cls A.mH A.FH hr4 A.kH passF (pk_cons (pv 12) pk_nil)))) (pe_lc (own := [("_law_tie", 13)]) (g := gName 13) rfl scMR.nd (pi_seq (pe_ix ix_seq (pv 1) pe_int (fun _ _ => rfl))) (blkOk_by (N := nMR) (sc := (defScope sMR)) (by decide +kernel)) (fun _ _ _ _ _ => (pg_name (i := 13) scMR.nd rfl (Or.inl rfl))) (fun _ _ _ _ _ => pts_nil) (fun _ _ _ _ _ => (pe_meth (pv 4) A.Bd.cls A.mD A.FD hr4 A.bD .nil passF (pa_cons (pv 13) pa_nil))))) (pv 3) (nomark _)) (pss_one (ps_ret pe_bl)) pss_nil)
      (pss_cons (ps_set (i := 7) scMR.nd rfl (Or.inr rfl) (pe_slice sl_list (pe_call GM hr (by rfl) M_.g M_.F.kp M_.b .nil pass0 (pa_cons (pv 0) (pa_cons (pe_listRg rfl rfl B.list (prg_1 rfl B.range (pv 6))) pa_nil))) po_none (po_some (pe_call GD hr (by rfl) D_.g D_.F.kp D_.b .nil pass0 (pa_cons (pv 0) (pa_cons (pe_op op_add (pv 6) pe_int) pa_nil))))))
      (pss_cons (ps_set (i := 8) scMR.nd rfl (Or.inl rfl) (pe_tupleOf rfl B.tuple (pe_lc (own := [("_law_mark", 10), ("_law_sign", 11)]) (g := (gTup K 2 (gCons (gName 10) (gCons (gName 11) gNil)))) (te := teMR K) rfl scMR.nd (pi_enumB rfl B.enumerate (pa_cons (pv 3) pa_nil)) (blkOk_by (N := nMR) (sc := (defScope sMR)) (by decide +kernel)) (fun _ _ _ _ _ => (pg_tup rfl (pgs_cons (pg_name (i := 10) scMR.nd rfl (Or.inl rfl)) (pgs_cons (pg_name (i := 11) scMR.nd rfl (Or.inl rfl)) pgs_nil)))) (fun _ _ _ _ _ => pts_nil) (fun _ _ _ _ _ => (pe_ifExp (pt_cmpR op_in_seq (pv 10) (pv 7) (by rfl)) (pe_un un_neg (pv 11)) (pv 11))))))
      (pss_cons (ps_if (PW.pt (pw_or (pt_cmpR (op_neD hu) (pe_fld (pe_meth (pv 4) A.Bd.cls A.mT A.FT hr7 A.bT .nil passF (pa_cons (pv 7) pa_nil)) rfl) (pv 8) (nomark _)) (pw_or (pt_cmpR (op_neO A.FE A.atE A.ne A.ob A.fnE A.bE pass0 hr3) (pe_meth (pe_methK (pv 4) A.Bd.cls A.mT A.FT hr7 A.kT passF (pk_cons (pe_tupleOf rfl B.tuple (pv 7)) pk_nil)) A.Bd.cls A.mT A.FT hr7 A.bT .nil passF (pa_cons (pv 7) pa_nil)) (pv 4) (nomark _)) (pw_or1 (pt_cmpR (op_neD hu) (pe_cmpR (op_eqO A.FE A.atE A.fnE A.bE pass0 hr2) (pe_meth (pv 4) A.Bd.cls A.mT A.FT hr7 A.bT .nil passF (pa_cons (pv 7) pa_nil)) (pv 4) (nomark _)) (pe_cmpR (op_eqD hu) (pv 7) (pe_lst pa_nil) (nomark _)) (nomark _)))))) (pss_one (ps_ret pe_bl)) pss_nil)
      (pss_cons (ps_set (i := 9) scMR.nd rfl (Or.inl rfl) (pe_meth0 (pv 4) A.Bd.cls A.mM A.FM hr7 A.bM .nil passF))
      (pss_cons (ps_if (PW.pt (pw_or (pt_cmpR (op_neD hu) (pe_fld (pv 9) rfl) (pe_tupleOf rfl B.tuple (pe_op op_cat (pe_lc (own := [("_law_sign", 11)]) (g := gName 11) rfl scMR.nd (pi_seq (pe_slice sl_list (pv 3) po_none (po_some (pv 5)))) (blkOk_by (N := nMR) (sc := (defScope sMR)) (by decide +kernel)) (fun _ _ _ _ _ => (pg_name (i := 11) scMR.nd rfl (Or.inl rfl))) (fun _ _ _ _ _ => pts_nil) (fun _ _ _ _ _ => (pe_un un_neg (pv 11)))) (pe_slice sl_list (pv 3) (po_some (pv 5)) po_none))) (nomark _)) (pw_or1 (pt_cmpR (op_neO A.FE A.atE A.ne A.ob A.fnE A.bE pass0 hr3) (pe_meth0 (pv 9) A.Bd.cls A.mM A.FM hr7 A.bM .nil passF) (pv 4) (nomark _))))) (pss_one (ps_ret pe_bl)) pss_nil)
      (pss_cons (ps_if (PW.pt (pw_or (pt_cmpR (op_neD hu) (pe_cmpR (op_eqO A.FE A.atE A.fnE A.bE pass0 hr2) (pv 9) (pv 4) (nomark _)) (pe_cmpR (op_eqD hu) (pv 5) pe_int (nomark _)) (nomark _)) (pw_or (pt_cmpR (op_neO A.Y.FE A.Y.atE A.Y.ne A.Y.ob A.Y.fnE A.Y.bE pass0 hr2) (pe_fld (pv 9) rfl) (pv 2) (nomark _)) (pw_or1 (pt_cmpR (op_neO A.FE A.atE A.ne A.ob A.fnE A.bE pass0 hr3) (pe_meth (pv 4) A.Bd.cls A.mT A.FT hr7 A.bT .nil passF (pa_cons (pe_listRg rfl rfl B.list (prg_1 rfl B.range (pv 5))) pa_nil)) (pv 9) (nomark _)))))) (pss_one (ps_ret pe_bl)) pss_nil)
      (pss_one (ps_ret (pe_and (pe_cmpR (op_neO A.FE A.atE A.ne A.ob A.fnE A.bE pass0 hr3) (pv 4) (pv 2) (nomark _)) (pe_and (pe_not (pe_cmpR (op_eqO A.FE A.atE A.fnE A.bE pass0 hr2) (pv 4) (pe_callTy (call_strO A.FU A.atU A.fnU A.bU pass0 hr4) rfl B.str boot_str (pa_cons (pv 4) pa_nil)) (nomark _))) (pe_one (pe_cmpR (op_neO A.FE A.atE A.ne A.ob A.fnE A.bE pass0 hr3) (pv 4) (pe_make A.Bd.M A.Bd.FI hr6 rfl A.Bd.g A.Bd.bI .nil passF (pa_cons (pe_meth (pv 2) A.Y.cls A.mK A.FK hr8 A.bK .nil passF (pa_cons pe_int (pa_cons pe_str pa_nil))) (pa_cons (pv 3) pa_nil))) (nomark _))))))))))))))))), ?_⟩
    have M : MC A p l ns b kA tA hA sA tys sys ks ts hs ss m g sg n H := ⟨hp, wl, hW, hgp, hg, hl, hsg⟩
    clear hp wl hW hgp hg
    have T := M.wl.T
    have hsl : hs.length ≤ 1000 := M.w.1.hubs
    have ssl : ss.length ≤ 400 := M.w.1.stiff
    have h16 : hs.length ≤ 16 := by
      have := card_le (n := ks.length) T.hn T.hb
      have := T.len
      omega
    have s31 : ss.length ≤ 31 := by
      have := nd_le T.sn T.si
      have := T.tl
      omega
    have hnM : sg.length = nM (webT ks ts hs ss) := hl
    -- the body
    refine q_as (t_op (a_op (mkb A.Y.Z (d := webT ks ts hs ss) (sg := sg) (fun Q2 q2 => a_op (v_op rfl (a_op (v_op rfl (n_op (q2 m (.ref g) H (Ex.refl H) M.w (sgv_lst hnM hsg (by omega) M.g))))))) fun c H1 e1 hB => ?_)))
    have M1 := M.up e1
    refine a_op (cb_op (a_op (wx (j := 2) rfl M1.wl.hb rfl (n_op ⟨hA, _, rfl, .inl (sq_of M1.wl.hh), ?_⟩))))
    rw [List.length_map]
    refine a_op (cb_op (a_op (v_op rfl (n_op ⟨g, _, rfl, .inl (sq_of M1.g), ?_⟩))))
    rw [List.length_map]
    refine n_op ⟨by show 3 ≤ sizeLine; decide, fun tp htp => ?_⟩
    refine ⟨tp, _, rfl, st_of upd_same, rfl, _, _, rfl, _, _, rfl, _, _, rfl, rfl, ?_⟩
    have e2 := Ex.new (o := HO.tup [.ref c, .int (hs.length : Int), .int (sg.length : Int)]) htp
    have M2 := M1.up e2
    have hB2 := hB.up e2
    have eP2 := Ex.p (p := p) (e1.trans e2)
    generalize upd H1 tp (.tup [.ref c, .int (hs.length : Int), .int (sg.length : Int)]) = H2 at M2 hB2 eP2 ⊢
    clear e1 e2 hB M1 htp M
    -- what it holds
    refine q_if0 (or_op (op_test (op_op (fldB (Bd := A.Bd.toBodC) hB2 (ev_var rfl) A.Bd.n1 fun wa s1 H3 e3 hi3 => ⟨_, rfl, v_op rfl (new_op hi3.w (M2.up e3).w fun H4 e4 => ⟨_, rfl, ?_⟩)⟩))))
    rw [show eqW (BodD.mk (webT ks ts hs ss) sg).web (webT ks ts hs ss) = true from eqW_self _]
    have M4 := (M2.up e3).up e4
    have hB4 := (hB2.up e3).up e4
    have e24 := e3.trans e4
    refine iteF (or_op (op_test (op_op (fldB (Bd := A.Bd.toBodC) hB4 (ev_var rfl) A.Bd.n2 fun wa5 s5 H5 e5 hi5 => ⟨_, rfl, th_op (v_op rfl (tup_op1 (.inl ((M4.up e5).g)) fun c6 H6 e6 hc6 => ne_tt (hi5.s.up e6) hc6 ⟨_, rfl, ?_⟩))⟩))))
    rw [decide_eq_true rfl]
    have M6 := (M4.up e5).up e6
    have hB6 := (hB4.up e5).up e6
    have e26 := (e24.trans e5).trans e6
    refine iteF (op_test (op_op (mk_op (n_op (a_op (th_op (v_op rfl (tup_op1 (.inl M6.g) fun c7 H7 e7 hc7 => a_op (v_op rfl (n_op ⟨rfl, rfl, fun x dx hx hdx _ => ?_⟩))))))))))
    have M7 := M6.up e7
    have hB7 := hB6.up e7
    refine bi_ok A.Y.Z hx hdx M7.w (sgv_tup hnM hsg (by omega) hc7) fun H8 e8 hB8 => v_op rfl (neb_op hB8 (hB7.up e8) fun H9 e9 => ⟨_, rfl, ?_⟩)
    rw [eqB_self]
    have M9 := (M7.up e8).up e9
    have hB9 := (hB7.up e8).up e9
    have eP9 := eP2.trans (Ex.p (((e26.trans e7).trans e8).trans e9))
    refine iteF (nx_op ?_)
    clear M2 hB2 eP2 M4 hB4 M6 hB6 M7 hB7 e24 e26 hB8
    -- hands and sides, both ways
    have hsn : (webT ks ts hs ss).hubs.Nodup := T.hn
    have ssn : (webT ks ts hs ss).stiff.Nodup := T.sn
    have hmt : ∀ m2 : Str, (∀ wa sA, (bodFs wa sA).lookup m2 = none) → ∀ H' : Hp, Ex H9 H' → ∃ dx fs, H' c = some (.ins A.Bd.C dx fs) ∧ fs.lookup m2 = none := fun m2 hm H' e' => mt_body (hB9.up e') hm
    refine q_if0 (or_op (op_test (op_op (lcS (wx (j := 2) rfl M9.wl.hb rfl ⟨hA, rfl, .inl ⟨_, sq_of M9.wl.hh, hands_lj M9 (fun _ => rfl) (fun i h z H10 e10 hh hz Q2 q2 => ?_) fun D H10 e10 hD => ?_⟩⟩)))))
    · obtain ⟨dx, fs, ha, hf⟩ := hmt "hand" (fun _ _ => rfl) H10 e10
      exact mt_op (v_op rfl ⟨c, dx, fs, rfl, ha, hf, a_op (v_op rfl (n_op (hd_op (hB9.up e10) hsn hh hz q2)))⟩)
    refine sl_hi (v_op rfl (v_op rfl ⟨_, rfl, g, _, rfl, sq_of ((M9.up e10).g), fun p11 hp11 => ?_⟩))
    rw [cut_take]
    refine ne_ll (Ex.new hp11 _ _ hD) upd_same ⟨_, rfl, ?_⟩
    rw [decide_eq_true rfl]
    have e11 := e10.trans (Ex.new (o := HO.lst ((sg.take hs.length).map V.int)) hp11)
    generalize upd H10 p11 (.lst ((sg.take hs.length).map V.int)) = H11 at e11 ⊢
    have M11 := M9.up e11
    refine iteF (op_test (op_op (lcS (wx (j := 3) rfl M11.wl.hb rfl ⟨sA, rfl, .inl ⟨_, sq_of M11.wl.hz, sides_lj M11 (fun _ => rfl) (fun i t2 s2 z H12 e12 ht2 hs2 hz Q2 q2 => ?_) fun D2 H12 e12 hD2 => ?_⟩⟩))))
    · obtain ⟨dx, fs, ha, hf⟩ := hmt "side" (fun _ _ => rfl) H12 (e11.trans e12)
      refine me_op (v_op rfl ⟨c, dx, fs, rfl, ha, hf, a_op (cb_op (a_op (v_op rfl (n_op ⟨t2, _, rfl, .inr (st_of ht2), fun l3 hl3 => n_op ⟨rfl, ?_⟩⟩))))⟩)
      exact sd_op (p := s2) (hB9.up ((e11.trans e12).trans (Ex.new hl3))) ssn hs2 hz (rv_lst (l := [s2.1, s2.2]) upd_same (by show 2 ≤ 1000; decide)) rfl fun H13 e13 => q2 H13 ((Ex.new hl3).trans e13)
    refine sl_lo (v_op rfl (v_op rfl ⟨_, rfl, g, _, rfl, sq_of ((M11.up e12).g), fun p13 hp13 => ?_⟩))
    rw [cut_dropN]
    refine ne_ll (Ex.new hp13 _ _ hD2) upd_same ⟨_, rfl, ?_⟩
    rw [decide_eq_true rfl]
    have e13 := e12.trans (Ex.new (o := HO.lst ((sg.drop hs.length).map V.int)) hp13)
    generalize upd H12 p13 (.lst ((sg.drop hs.length).map V.int)) = H13 at e13 ⊢
    have e913 := e11.trans e13
    have M13 := M9.up e913
    refine iteF (nx_op ?_)
    clear M11 hD hD2
    refine q_if0 (op_test (op_op (op_op (lcS (wx (j := 2) rfl M13.wl.hb rfl ⟨hA, rfl, .inl ⟨_, sq_of M13.wl.hh, hands_lj M13 (fun _ => rfl) (fun i h z H14 e14 hh hz Q2 q2 => ?_) fun D H14 e14 hD => ?_⟩⟩)))))
    · obtain ⟨dx, fs, ha, hf⟩ := hmt "hand" (fun _ _ => rfl) H14 (e913.trans e14)
      exact me_op (v_op rfl ⟨c, dx, fs, rfl, ha, hf, a_op (v_op rfl (n_op ⟨rfl, hd_op (hB9.up (e913.trans e14)) hsn hh hz q2⟩))⟩)
    have M14 := M13.up e14
    refine lcS (wx (j := 3) rfl M14.wl.hb rfl ⟨sA, rfl, .inl ⟨_, sq_of M14.wl.hz, sides_lj M14 (fun _ => rfl) (fun i t2 s2 z H15 e15 ht2 hs2 hz Q2 q2 => ?_) fun D2 H15 e15 hD2 => ?_⟩⟩)
    · obtain ⟨dx, fs, ha, hf⟩ := hmt "side" (fun _ _ => rfl) H15 ((e913.trans e14).trans e15)
      exact mt_op (v_op rfl ⟨c, dx, fs, rfl, ha, hf, a_op (v_op rfl (n_op (sd_op (p := s2) (hB9.up ((e913.trans e14).trans e15)) ssn hs2 hz (rv_tup (l := [s2.1, s2.2]) (.inl ht2) (by show 2 ≤ 1000; decide)) rfl q2)))⟩)
    refine ⟨D, D2, _, _, rfl, rfl, e15 _ _ hD, hD2, by rw [List.length_map, List.length_map, List.length_take, List.length_drop]; exact Nat.le_of_lt (sz_lt (by omega)), fun p16 hp16 => v_op rfl ?_⟩
    rw [← List.map_append, List.take_append_drop]
    have e16 := (e14.trans e15).trans (Ex.new (o := HO.lst (sg.map V.int)) hp16)
    have M16 := M13.up e16
    refine ne_ll upd_same M16.g ⟨_, rfl, ?_⟩
    rw [decide_eq_true rfl]
    generalize upd H15 p16 (.lst (sg.map V.int)) = H16 at e16 M16 ⊢
    refine iteF (nx_op ?_)
    have hB16 := hB9.up (e913.trans e16)
    have eP16 := eP9.trans (Ex.p (e913.trans e16))
    clear M9 M13 M14 hB9 eP9 hmt hD hD2 e913 e16 e13 e12 e11 e10 e14 e15 e3 e4 e5 e6 e7 e8 e9
    -- a lot
    have p62 : (2 : Int) ^ 62 = 4611686018427387904 := by decide
    have p24 : (2 : Nat) ^ 24 = 16777216 := by decide
    refine q_as (sl_hi (c_op (a_op (v_op rfl (a_op ⟨_, rfl, (sg.length : Int), rfl, ⟨by rw [p62]; omega, by rw [p62]; omega, by rw [p62]; omega, by rw [p62]; omega, by rw [p24]; omega⟩, fun qq hqq => n_op ⟨p, qq, l, ns, n, _, rfl, M16.pen.up (Ex.new hqq), by omega, .inl upd_same, ?_, fun d ys H18 hd e18 hp18 hperm hd18 => ?_⟩⟩)))))
    · rw [rg_toN, List.length_map, toN_len]
      omega
    have hqq2 := Ex.new (o := HO.lst (rgV 0 (sg.length : Int))) hqq
    rw [rg_toN] at hperm
    have hrl : (rgV 0 (sg.length : Int)).length = sg.length := by rw [rg_toN, List.length_map, toN_len]
    rw [hrl] at hp18
    obtain ⟨is, rfl, his⟩ := ints_of hperm
    have M17 := M16.up hqq2
    have M18 := M17.upP e18 hp18
    have hB18 := (hB16.up hqq2).upP M17.pen e18
    obtain ⟨hdp, hdl⟩ := pen_ne M17.pen hd
    refine c_op (a_op (v_op rfl (a_op (op_op (v_op rfl (k_op ⟨_, _, rfl, rfl, n_op ⟨p, l, ns, n + (sg.length : Int), _, rfl, M18.pen, by omega, by omega, by omega, fun v H19 v0 v1 e19 hp19 => ⟨v, rfl, d, _, rfl, sq_of (e19 _ _ hdp hd18), fun p20 hp20 => ?_⟩⟩⟩))))))
    obtain ⟨r, rfl⟩ : ∃ r : Nat, v = (r : Int) := ⟨v.toNat, by omega⟩
    rw [cut_take]
    have M19 := M18.upP e19 hp19
    have hB19 := hB18.upP M18.pen e19
    have e20 := Ex.new (o := HO.lst ((is.take r).map V.int)) hp20
    have hL : (upd H19 p20 (.lst ((is.take r).map V.int))) p20 = some (.lst ((is.take r).map V.int)) := upd_same
    have M20 := M19.up e20
    have hB20 := hB19.up e20
    have eP20 := ((eP16.trans (Ex.p hqq2)).trans e18).trans (e19.trans (Ex.p e20))
    have hmn : (is.take r).Nodup := ((his.nodup_iff).mpr (toN_nodup _)).sublist (List.take_sublist _ _)
    have hmb : ∀ x ∈ is.take r, 0 ≤ x ∧ x < (sg.length : Int) := fun x hx => toN_mem.mp (his.mem_iff.mp (List.mem_of_mem_take hx))
    have hml : (is.take r).length ≤ 1000 := by
      rw [List.length_take]
      have := his.length_eq
      rw [toN_len] at this
      omega
    generalize is.take r = ms at hL hmn hmb hml e20 M20 hB20 eP20 ⊢
    generalize upd H19 p20 (.lst (ms.map V.int)) = H20 at e20 hL M20 hB20 eP20 ⊢
    clear M16 hB16 eP16 M17 M18 hB18 M19 hB19 e20 hqq2 his hperm hd18 e18 e19 hp18 hp19
    -- what is due
    refine q_as (th_op (lcE (a_op (v_op rfl (n_op ⟨g, _, true, rfl, sq_of M20.g, lj_enum (fun i => V.int ((turnS sg ms).getD i 0)) (fun H' e' => sq_of (e' _ _ M20.g)) (by rw [List.length_map]; omega) (fun _ _ => rfl) (fun i x H21 e21 hx H22 e22 Q2 q2 => ?_) fun D H21 e21 hD => ?_⟩)))))
    · obtain ⟨s, hs3, rfl⟩ := int_at hx
      have ht := turn_get ms sg hmn hmb i s hs3
      rw [getD_at ht] at q2
      refine tif_op (op_test (op_op (v_op rfl (v_op rfl ⟨p20, _, rfl, .inl (sq_of ((e21.trans e22) _ _ hL)), rfl, flat_ints ms, _, rfl, ?_⟩))))
      rw [show (if false = true then !inV (V.int (i : Int)) (ms.map V.int) else inV (V.int (i : Int)) (ms.map V.int)) = decide ((i : Int) ∈ ms) from inV_ints _ _]
      by_cases hm : (i : Int) ∈ ms
      · rw [if_pos hm] at q2
        rw [decide_eq_true hm]
        exact iteT ⟨_, rfl, s, rfl, q2 _ (Ex.refl _)⟩
      · rw [if_neg hm] at q2
        rw [decide_eq_false hm]
        exact iteF (v_op rfl (q2 _ (Ex.refl _)))
    rw [List.length_map, ← turn_len ms sg, given_ints_all] at hD
    refine tup_op1 (.inl hD) fun dA H22 e22 hdA => ?_
    have e23 := e21.trans e22
    have M22 := M20.up e23
    have hB22 := hB20.up e23
    have hL22 := e23 _ _ hL
    have eP22 := eP20.trans (Ex.p e23)
    clear M20 hB20 hL eP20 hD e21 e22 e23
    -- turned, and turned back
    have hmb2 : ∀ x ∈ ms, 0 ≤ x ∧ x < (nM (webT ks ts hs ss) : Int) := fun x hx => by
      have := hmb x hx
      omega
    have hmt : ∀ m2 : Str, (∀ wa sA, (bodFs wa sA).lookup m2 = none) → ∀ H' : Hp, Ex H22 H' → ∃ dx fs, H' c = some (.ins A.Bd.C dx fs) ∧ fs.lookup m2 = none := fun m2 hm H' e' => mt_body (hB22.up e') hm
    obtain ⟨dx, fs, ha, hf⟩ := hmt "turned" (fun _ _ => rfl) H22 (Ex.refl _)
    refine q_if0 (or_op (op_test (op_op (fl_op (mt_op (v_op rfl ⟨c, dx, fs, rfl, ha, hf, a_op (v_op rfl (n_op (tn_op hB22 (rv_lst hL22 hml) rfl hmn hmb2 fun c1 H1 e1 hB1 => ?_)))⟩))))))
    obtain ⟨_, wa, s1, dx1, ha1, hi⟩ := id hB1
    refine ⟨c1, _, dx1, _, .ref s1, rfl, ha1, A.Bd.cls, A.Bd.n2, rfl, v_op rfl (ne_tt hi.s (hdA.up e1) ⟨_, rfl, ?_⟩)⟩
    rw [decide_eq_true rfl]
    have hL1 := e1 _ _ hL22
    refine iteF (or_op (op_test (op_op (mt_op (me_op (v_op rfl ⟨c, dx, fs, rfl, e1 _ _ ha, hf, a_op (th_op (v_op rfl (tup_op1 (.inl hL1) fun dB H2 e2 hdB => n_op ⟨rfl, tn_op (hB22.up (e1.trans e2)) (rv_tup hdB hml) rfl hmn hmb2 fun c2 H3 e3 hB3 => ?_⟩)))⟩))))))
    obtain ⟨dx2, fs2, ha2, hf2⟩ := mt_body (m := "turned") hB3 (fun _ _ => rfl)
    refine ⟨c2, dx2, fs2, rfl, ha2, hf2, a_op (v_op rfl (n_op (tn_op hB3 (rv_lst ((e2.trans e3) _ _ hL1) hml) rfl hmn hmb2 fun c3 H4 e4 hB4 => v_op rfl (neb_op hB4 (hB22.up (((e1.trans e2).trans e3).trans e4)) fun H5 e5 => ⟨_, rfl, ?_⟩))))⟩
    rw [turn_turn hmn hmb, eqB_self]
    have e225 := (((e1.trans e2).trans e3).trans e4).trans e5
    refine iteF (op_test (op_op (op_op (mt_op (v_op rfl ⟨c, dx, fs, rfl, e225 _ _ ha, hf, a_op (v_op rfl (n_op (tn_op (hB22.up e225) (rv_lst (e225 _ _ hL22) hml) rfl hmn hmb2 fun c6 H6 e6 hB6 => v_op rfl (eqb_op hB6 (hB22.up (e225.trans e6)) fun H7 e7 => op_op (v_op rfl (l_op (n_op ⟨Nat.zero_le _, fun p8 hp8 => ?_⟩))))))) ⟩)))))
    have e8 := Ex.new (o := HO.lst []) hp8
    refine eq_ll (l' := []) (((e225.trans e6).trans (e7.trans e8)) _ _ hL22) upd_same (ne_bb ⟨_, rfl, ?_⟩)
    have hT : eqB ⟨webT ks ts hs ss, turnS sg ms⟩ ⟨webT ks ts hs ss, sg⟩ = decide (ms = []) := by
      unfold eqB
      rw [eqW_self, turn_nil hmn hmb hsg]
      rfl
    rw [hT, show (decide (ms = []) == decide (ms = [])) = true from by simp]
    have e228 := (e225.trans e6).trans (e7.trans e8)
    have M8 := M22.up e228
    have hB8 := hB22.up e228
    have eP8 := eP22.trans (Ex.p e228)
    generalize upd H7 p8 (.lst []) = H8 at e228 M8 hB8 eP8 ⊢
    refine iteF (nx_op ?_)
    clear ha1 hB1 hi hdB hB3 hB4 hB6 e1 e2 e3 e4 e5 e6 e7 e8 e225 e228 M22 hB22 eP22 hL22 hL1 ha2 hf2 ha hf hdA hmt hT hml hmn hmb hmb2
    -- mirrored
    obtain ⟨dx, fs, ha, hf⟩ := mt_body (m := "mirrored") hB8 (fun _ _ => rfl)
    refine q_as (mt_op (v_op rfl ⟨c, dx, fs, rfl, ha, hf, n_op ⟨c, _, rfl, hB8, fun dM H9 e9 hM => ?_⟩⟩))
    have M9 := M8.up e9
    have hB9 := hB8.up e9
    have eP9 := eP8.trans (Ex.p e9)
    clear M8 hB8 eP8 ha hf e9
    refine q_if0 (or_op (op_test (op_op (fldB (Bd := A.Bd.toBodC) hM (ev_var rfl) A.Bd.n2 fun wa s1 H10 e10 hi => ⟨_, rfl, th_op (op_op (lcS (sl_hi (v_op rfl (v_op rfl ⟨_, rfl, g, _, rfl, sq_of ((M9.up e10).g), fun p11 hp11 => ?_⟩)))))⟩))))
    rw [cut_take]
    have e11 := Ex.new (o := HO.lst ((sg.take hs.length).map V.int)) hp11
    have h11 : (upd H10 p11 (.lst ((sg.take hs.length).map V.int))) p11 = some (.lst ((sg.take hs.length).map V.int)) := upd_same
    generalize upd H10 p11 (.lst ((sg.take hs.length).map V.int)) = H11 at e11 h11 ⊢
    refine ⟨p11, rfl, .inl ⟨_, sq_of h11, lj_cw (fun _ => true) (fun i => V.int (-((sg.take hs.length).getD i 0))) h11 (by rw [List.length_map, List.length_take]; omega) (fun _ => rfl) (fun _ _ _ _ _ => et_yes) (fun i x H12 e12 hx _ H13 e13 Q2 q2 => ?_) fun D H12 hDn e12 hD => ?_⟩⟩
    · obtain ⟨s, hs3, rfl⟩ := int_at hx
      rw [getD_at hs3] at q2
      exact ⟨_, rfl, s, rfl, q2 _ (Ex.refl _)⟩
    rw [given_ints (fun s => V.int (-s)), show (sg.take hs.length).map (fun s => V.int (-s)) = ((sg.take hs.length).map fun s => -s).map V.int from by rw [List.map_map]; rfl] at hD
    have M12 := M9.up ((e10.trans e11).trans e12)
    refine sl_lo (v_op rfl (v_op rfl ⟨_, rfl, g, _, rfl, sq_of M12.g, fun p13 hp13 => ?_⟩))
    rw [cut_dropN]
    refine ⟨D, p13, _, _, rfl, rfl, Ex.new hp13 _ _ hD, upd_same, by rw [List.length_map, List.length_map, List.length_map, List.length_take, List.length_drop]; exact Nat.le_of_lt (sz_lt (by omega)), fun p14 hp14 => ?_⟩
    rw [← List.map_append]
    have e13 := Ex.new (o := HO.lst ((sg.drop hs.length).map V.int)) hp13
    have e14 := Ex.new (o := HO.lst (((sg.take hs.length).map (fun s => -s) ++ sg.drop hs.length).map V.int)) hp14
    refine tup_op1 (.inl upd_same) fun dC H15 e15 hdC => ne_tt (hi.s.up (((e11.trans e12).trans (e13.trans e14)).trans e15)) hdC ⟨_, rfl, ?_⟩
    rw [show ((sg.take hs.length).map (fun s => -s) ++ sg.drop hs.length) = mirS (webT ks ts hs ss) sg from rfl, decide_eq_true rfl]
    have e915 := ((e10.trans e11).trans e12).trans ((e13.trans e14).trans e15)
    obtain ⟨dx, fs, ha, hf⟩ := mt_body (m := "mirrored") (hM.up e915) (fun _ _ => rfl)
    refine iteF (op_test (op_op (mt_op (v_op rfl ⟨dM, dx, fs, rfl, ha, hf, n_op ⟨dM, _, rfl, hM.up e915, fun c5 H16 e16 h5 => v_op rfl (neb_op h5 (hB9.up (e915.trans e16)) fun H17 e17 => ⟨_, rfl, ?_⟩)⟩⟩))))
    rw [show (BodD.mk (webT ks ts hs ss) (mirS (webT ks ts hs ss) sg)).sg = mirS (webT ks ts hs ss) sg from rfl, mir_mir, eqB_self]
    have e917 := (e915.trans e16).trans e17
    have M17 := M9.up e917
    have hB17 := hB9.up e917
    have hM17 := hM.up e917
    have eP17 := eP9.trans (Ex.p e917)
    refine iteF (nx_op ?_)
    clear M9 hB9 hM eP9 hi h11 hD M12 hdC h5 ha hf e10 e11 e12 e13 e14 e15 e915 e16 e17 e917 hp11 hp13 hp14
    -- as compared with the body
    have hnh : (webT ks ts hs ss).hubs.length ≤ sg.length := by show hs.length ≤ _; omega
    refine q_if0 (or_op (op_test (op_op (op_op (v_op rfl (v_op rfl (eqb_op hM17 hB17 fun H18 e18 => op_op (v_op rfl (k_op (eq_ii (ne_bb ⟨_, rfl, ?_⟩)))))))))))
    have hT : eqB ⟨webT ks ts hs ss, mirS (webT ks ts hs ss) sg⟩ ⟨webT ks ts hs ss, sg⟩ = decide ((hs.length : Int) = 0) := by
      unfold eqB
      rw [eqW_self, mir_nil hnh hsg]
      rfl
    rw [show eqB ⟨(BodD.mk (webT ks ts hs ss) sg).web, mirS (BodD.mk (webT ks ts hs ss) sg).web (BodD.mk (webT ks ts hs ss) sg).sg⟩ ⟨webT ks ts hs ss, sg⟩ = decide ((hs.length : Int) = 0) from hT, show (decide ((hs.length : Int) = 0) == decide ((hs.length : Int) = 0)) = true from by simp]
    refine iteF (or_op (op_test (op_op (fldB (Bd := A.Bd.toBodC) (hM17.up e18) (ev_var rfl) A.Bd.n1 fun wa s1 H19 e19 hi => ⟨_, rfl, v_op rfl (new_op hi.w (M17.up (e18.trans e19)).w fun H20 e20 => ⟨_, rfl, ?_⟩)⟩))))
    rw [show eqW (BodD.mk (BodD.mk (webT ks ts hs ss) sg).web (mirS (BodD.mk (webT ks ts hs ss) sg).web (BodD.mk (webT ks ts hs ss) sg).sg)).web (webT ks ts hs ss) = true from eqW_self _]
    have e1720 := (e18.trans e19).trans e20
    obtain ⟨dx, fs, ha, hf⟩ := mt_body (m := "turned") (hB17.up e1720) (fun _ _ => rfl)
    refine iteF (op_test (op_op (mt_op (v_op rfl ⟨c, dx, fs, rfl, ha, hf, a_op ⟨_, rfl, (hs.length : Int), rfl, ⟨by rw [p62]; omega, by rw [p62]; omega, by rw [p62]; omega, by rw [p62]; omega, by rw [p24]; omega⟩, fun qq hqq => n_op ?_⟩⟩))))
    have e21 := Ex.new (o := HO.lst (rgV 0 (hs.length : Int))) hqq
    refine tn_op (ms := toN hs.length) (hB17.up (e1720.trans e21)) (rv_lst (by rw [upd_same, rg_toN]) (by rw [toN_len]; omega)) rfl (toN_nodup _) (fun x hx => by
      have := toN_mem.mp hx
      omega) fun c6 H22 e22 h6 => v_op rfl (neb_op h6 (hM17.up ((e1720.trans e21).trans e22)) fun H23 e23 => ⟨_, rfl, ?_⟩)
    rw [show turnS sg (toN hs.length) = mirS (webT ks ts hs ss) sg from turn_mir (d := webT ks ts hs ss) hnh, show (BodD.mk (BodD.mk (webT ks ts hs ss) sg).web (mirS (BodD.mk (webT ks ts hs ss) sg).web (BodD.mk (webT ks ts hs ss) sg).sg)) = BodD.mk (webT ks ts hs ss) (mirS (webT ks ts hs ss) sg) from rfl, eqB_self]
    have e1723 := ((e1720.trans e21).trans e22).trans e23
    have M23 := M17.up e1723
    have hB23 := hB17.up e1723
    have eP23 := eP17.trans (Ex.p e1723)
    refine iteF (nx_op ?_)
    clear M17 hB17 hM17 eP17 hT hi ha hf h6 e18 e19 e20 e1720 e21 e22 e23 e1723 hqq
    -- no web, no text, no other body
    refine s_re (and_step (c := true) (fun Q2 q2 => op_op (v_op rfl (v_op rfl (nebW_op A.Y.Z A.nfW A.wB hB23 M23.w q2)))) (fun _ H24 e24 => ?_) fun z0 => nomatch z0)
    refine and_step (c := true) (fun Q2 q2 => nv_op (op_op (v_op rfl (cb_op (a_op (v_op rfl (n_op ?_))))))) (fun _ H25 e25 => ?_) fun z0 => nomatch z0
    · obtain ⟨dx, fs, ha⟩ := bodH_C (hB23.up e24)
      exact ⟨c, dx, fs, rfl, ha, c, ks, ts, hs, ss, sg, rfl, hB23.up e24, T, fun z H25 e25 => ⟨z, rfl, eqbS_op A.nfS A.sB (hB23.up (e24.trans e25)) fun H26 e26 => ⟨false, rfl, q2 _ (e25.trans e26)⟩⟩⟩
    · have e2325 := e24.trans e25
      have M25 := M23.up e2325
      obtain ⟨dx, fs, ha, hf⟩ := mt_web (m := "with_kind") M25.w (fun _ => rfl)
      refine op_op (v_op rfl (mkb A.Y.Z (d := webT ("other9" :: ks.drop 1) ts hs ss) (sg := sg) (fun Q2 q2 => a_op (mt_op (v_op rfl ⟨m, dx, fs, rfl, ha, hf, a_op (k_op (a_op (k_op (n_op ⟨m, ks, ts, hs, ss, "other9", rfl, M25.w, T, by decide +kernel, fun c7 H26 e26 h7 => a_op (v_op rfl (n_op (q2 c7 (.ref g) H26 e26 h7 (sgv_lst hnM hsg (by omega) (M25.up e26).g))))⟩))))⟩))) fun c8 H27 e27 h8 => neb_op (hB23.up (e2325.trans e27)) h8 fun H28 e28 => ?_))
      have hk : ks ≠ ("other9" : Str) :: ks.drop 1 := fun z => by
        have h1 : ("other9" : Str) ∈ ks := by rw [z]; exact List.mem_cons_self
        exact absurd (M25.wl.kd _ h1) (by decide +kernel)
      have hT : eqB ⟨webT ks ts hs ss, sg⟩ ⟨webT ("other9" :: ks.drop 1) ts hs ss, sg⟩ = false := by
        unfold eqB eqW
        rw [decide_eq_false (show ¬(webT ks ts hs ss).kinds = (webT ("other9" :: ks.drop 1) ts hs ss).kinds from hk)]
        rfl
      rw [hT]
      have e2328 := (e2325.trans e27).trans e28
      exact q _ _ (eP23.trans (Ex.p e2328)) (M23.up e2328).pen (by omega) (by omega)
end
end KW
namespace HT
open PySem PySem.Spec PyProof PyProof.Rows
/-! ### t[::-1] of a pair -/
section
variable {prog : Program} {w : World} {A : Around} {E : Value → Shared → Prop} {s : Shared}
theorem sliceApplied_back {sl : Addr} {u : Tok} {Q : Int × Int × Nat → Shared → Prop} (hs : s.heap.IsSliceOf sl .none .none (.int (-1) u)) (h : Q (1, -1, 2) s) : wpAny (model prog w) A (Builtin.Slice.sliceApplied (.ref sl) (pure (2 : Int))) Q E s := by
  obtain ⟨os, hos, hcs, hds⟩ := id hs
  unfold Builtin.Slice.sliceApplied Builtin.Slice.sliceFields
  refine wpAny_bind (wpAny_bind (wpAny_field hos hds (x := .none) rfl (wpAny_bind (wpAny_field hos hds (x := .none) rfl (wpAny_bind (wpAny_field hos hds (x := .int (-1) u) rfl (wpAny_pure ?_)))))))
  refine wpAny_bind (slicePart_int ?_)
  show wpAny _ _ (if ((-1 : Int) == 0) = true then _ else _) _ _ s
  rw [if_neg (by decide)]
  refine wpAny_bind (slicePart_none (wpAny_bind (slicePart_none (wpAny_bind (wpAny_pure ?_)))))
  exact wpAny_pure h
theorem getItem_pair_back {t sl : Addr} {x y : Value} {u : Tok} {Q : Value → Shared → Prop} (ht : IsTup s.heap t #[x, y]) (hs : s.heap.IsSliceOf sl .none .none (.int (-1) u))
    (h : Q (.ref s.heap.objs.size) { s with heap := s.heap.push { cls := .type "tuple", data := .seq #[y, x] } }) : wpAny (model prog w) A (getItem (.ref t) (.ref sl)) Q E s := by
  have htake : sizeOk (.seq #[y, x]) := by
    show 2 ≤ sizeLine
    decide
  obtain ⟨os, hos, hcs, hds⟩ := id hs
  have hTs : s.TypeIs (.ref sl) "slice" := ⟨os, hos, hcs⟩
  unfold getItem
  try with_reducible refine wpAny_holding ?_
  first | refine wpAny_bind (wpAny_pure ?_) | skip
  refine wpAny_bind (wpAny_sequenceKey ht.typeIs (by decide) ?_)
  refine wpAny_bind (wpAny_callSpecial?_slot (name := Str.ofString "__getitem__") ht.typeIs PyProof.Rows.slot_tuple_getitem
    (wpAny_call_entry PyProof.Rows.slot_tuple_getitem ht.typeIs entry_tuple_getitem ?_ (args_tuple_getitem _ _)))
  show wpAny _ _ (Builtin.Tuple.tupleItemsOf (.ref t) >>= _) _ _ s
  refine wpAny_bind (tupleItemsOf_ ht ?_)
  refine wpAny_bind (wpAny_typeOf hTs ?_)
  rw [if_pos (by decide)]
  refine wpAny_bind (sliceApplied_back hs ?_)
  have hno : ¬ (((1 : Int) == 0 && (-1 : Int) == 1 && (2 : Nat) == 2) = true) := by decide
  show wpAny _ _ (if ((1 : Int) == 0 && (-1 : Int) == 1 && (2 : Nat) == 2) = true then _ else _) _ _ s
  rw [if_neg hno]
  have hp : ((List.range 2).filterMap fun (m : Nat) => (#[x, y] : Array Value)[((1 : Int) + (m : Int) * (-1)).toNat]?).toArray = #[y, x] := rfl
  first
    | exact wpAny_bind (m := Builtin.Tuple.tupleExact _) (wpAny_newObj_type (wpAny_pure ⟨_, rfl, wpAny_pure h⟩) htake)
    | exact wpAny_bind (m := Builtin.Tuple.tupleExact _) (wpAny_newObj_type (wpAny_bind (wpAny_pure (wpAny_pure ⟨_, rfl, wpAny_pure h⟩))) htake)
    | exact wpAny_bind (wpAny_bind (m := Builtin.Tuple.tupleExact _) (wpAny_newObj_type (wpAny_pure (wpAny_pure ⟨_, rfl, wpAny_pure h⟩)) htake))
    | exact wpAny_bind (wpAny_bind (m := Builtin.Tuple.tupleExact _) (wpAny_newObj_type (wpAny_pure ⟨_, rfl, wpAny_pure h⟩) htake))
end
end HT
namespace L2
open PySem PySem.Spec PyProof.Rows
def tRevP (K : PySem.W.Frag) (te : TE) : TE := fun σ H Q => te σ H fun x H1 => ∃ a u v, x = .ref a ∧ SqT K H1 a [u, v] ∧ ∀ p, H1 p = none → Q (.ref p) (upd H1 p (.tup [v, u]))
theorem pe_revP {X : Cx} {e : Expr} {te : TE} {k : Nat} {p1 p2 p3 pos : Pos} (he : PE X e te) : PE X (.Subscript e (.Slice none none (some (.UnaryOp .USub (.Constant (.int 1) k p1) p2)) p3) pos) (tRevP X.K te) := by
  refine ⟨fun pins s σ H Q I h => ?_⟩
  refine Subscript_ (thn (he.run pins s σ H _ I h) fun v s1 ⟨x, H1, I1, r1, q1⟩ => ?_)
  obtain ⟨a, y1, y2, ex, hx, q⟩ := q1
  subst ex
  cases r1
  have hst : PO X (some (.UnaryOp .USub (.Constant (.int 1) k p1) p2)) (tPart (tUn (rU fun i => .int (-i)) (tC (.int 1)))) := po_some (pe_un un_neg pe_int)
  refine wpAny_Slice (thn (po_none.run pins s1 σ H1 (fun o H2 => o = none ∧ H2 = H1) I1 ⟨rfl, rfl⟩) fun vl s2 ⟨l, H2, I2, pl, el, e2⟩ => ?_)
  subst el e2
  refine thn (po_none.run pins s2 σ H2 (fun o H3 => o = none ∧ H3 = H2) I2 ⟨rfl, rfl⟩) fun vu s3 ⟨u, H3, I3, pu, eu, e3⟩ => ?_
  subst eu e3
  refine thn (hst.run pins s3 σ H3 (fun o H4 => o = some (-1) ∧ H4 = H3) I3 ⟨1, rfl, -1, rfl, rfl, rfl⟩) fun vs s4 ⟨o, H4, I4, ps, eo, e4⟩ => ?_
  subst eo e4
  have I5 : Inv X pins σ H4 { s4 with heap := s4.heap.push { cls := .type "slice", data := .fields #[vl, vu, vs] } } := I4.kept (t' := s4.toks) fun b ob q => Heap.get?_push_of_some _ q
  obtain ⟨tk, rfl⟩ : ∃ tk, vs = .int (-1) tk := by
    cases ps with
    | int i t => exact ⟨t, rfl⟩
  cases pl
  cases pu
  obtain ⟨its, r, ht, hz⟩ := I5.tuple hx
  obtain ⟨u1, u2, rfl, r1, r2⟩ : ∃ u1 u2, its = [u1, u2] ∧ RelV y1 u1 ∧ RelV y2 u2 := by
    cases r with
    | cons a b => cases b with
      | cons c d => cases d; exact ⟨_, _, rfl, a, c⟩
  show wpAny (model X.prog X.w) X.A (subscriptTail e (.Slice none none (some (.UnaryOp .USub (.Constant (.int 1) k p1) p2)) p3) (.ref a) (.ref s4.heap.objs.size)) (EP X pins σ Q) X.xe { s4 with heap := s4.heap.push { cls := .type "slice", data := .fields #[.none, .none, .int (-1) tk] } }
  refine tail_any (ops := [.ref a, .ref s4.heap.objs.size]) ht.typeIs (PyProof.Rows.slot_tuple_getitem.lookup) ?_ (by with_unfolding_all rfl)
  refine HT.getItem_pair_back ht (Heap.IsSliceOf.new _ _ _ _) ?_
  refine ⟨.ref _, _, I5.laid (t' := s4.toks) (o := .tup [y2, y1]) (fun b ob q => Heap.get?_push_of_some _ q) (Nat.le_refl _) ?_, rfl, q _ (I5.hok.fresh (Nat.le_refl _))⟩
  exact ⟨by show 2 ≤ sizeLine; decide, _, .cons r2 (.cons r1 .nil), IsTup.new _ _⟩
end L2
namespace KW
open PySem PySem.Spec PyProof.Rows L2 KR KS KX Evl StX LamX
/-! ### a change at the pen, and what is heard beside it -/
theorem exn_two {p : Addr} {H H' : Hp} (e : ExN p H H') : ∃ Hm, ExtN H Hm ∧ ExP p Hm H' := by
  refine ⟨fun a => if a = p then H p else H' a, fun a o ha k => ?_, fun a o n ha => ?_⟩
  · show (if a = p then H p else H' a) = some o
    by_cases h : a = p
    · rw [if_pos h, ← h]; exact ha
    · rw [if_neg h]; exact e a o h k ha
  · have ha : (if a = p then H p else H' a) = some o := ha
    rw [if_neg n] at ha
    exact ha
theorem rva_app {H : Hp} : ∀ {vs us : List V} {xs ys : List Va}, RvA H vs xs → RvA H us ys → RvA H (vs ++ us) (xs ++ ys)
  | _, _, _, _, .nil, h => h
  | _, _, _, _, .cons a b, h => .cons a (rva_app b h)
theorem rva_rep {H : Hp} {v : V} {x : Va} (r : Rv H v x) : ∀ n : Nat, RvA H (List.replicate n [v]).flatten (List.replicate n x)
  | 0 => .nil
  | n + 1 => .cons r (rva_rep r n)
theorem repS_len (z : Str) (n : Nat) : (repS z n).length = n * z.length := by
  show (repS z n).cps.size = n * z.cps.size
  rw [← Array.length_toList, rep_cps]
  simp
section
variable {σ : L2.St} {H : Hp}
theorem er_cat {ta tb : TE} {xs ys : List Va} (h1 : EvR ta σ H (.lst xs)) (h2 : EvR tb σ H (.lst ys)) (hl : xs.length + ys.length ≤ 1000) : EvR (tOp rCat ta tb) σ H (.lst (xs ++ ys)) := fun H1 e Q q =>
  op_op (h1 H1 e _ fun v H2 e2 r1 => h2 H2 (e.trans e2) _ fun u H3 e3 r2 => by
    cases r1.up e3 with
    | @lst a xs' _ ha ra k1 =>
      cases r2 with
      | @lst b ys' _ hb rb k2 =>
        exact ⟨a, b, xs', ys', rfl, rfl, ha, hb, by rw [len_rva ra, len_rva rb]; exact Nat.le_of_lt (sz_lt (by omega)), fun p hp => q _ _ ((e2.trans e3).trans (Ex.new hp)) (.lst upd_same (RvA.up (Ex.new hp) (rva_app ra rb)) (by rw [List.length_append]; exact hl))⟩)
theorem er_repN {te tn : TE} {x : Va} {n : Nat} (h : EvR te σ H x) (hn : EvR tn σ H (.int (n : Int))) (hl : n ≤ 1000) : EvR (tOp rRep (tLst (tCons te tNil)) tn) σ H (.lst (List.replicate n x)) := fun H1 e Q q =>
  op_op (l_op (a_op (h H1 e _ fun v H2 e2 r => n_op ⟨by show 1 ≤ sizeLine; decide, fun L hL => hn _ ((e.trans e2).trans (Ex.new hL)) _ fun u H4 e4 ru => by
    cases ru
    have e3 := Ex.new (o := HO.lst [v]) hL
    refine ⟨L, (n : Int), [v], rfl, rfl, e4 _ _ upd_same, by omega, by omega, Nat.le_of_lt (sz_lt (by show 1 * (n : Int).toNat < _; omega)), fun p hp => ?_⟩
    rw [Int.toNat_natCast]
    exact q _ _ (((e2.trans e3).trans e4).trans (Ex.new hp)) (.lst upd_same ((rva_rep ((r.up e3).up e4) n).up (Ex.new hp)) (by rw [List.length_replicate]; exact hl))⟩)))
theorem er_dic (k : Key) (v : V) : EvR (tDisp [(tC (kV k), tC v)]) σ H .dic := fun H1 e Q q => fun p hp =>
  ⟨upd_same, [(k, v)], rfl, (by show 1 ≤ 15; decide), q _ _ (Ex.mut (Ex.new hp) hp) (.dic upd_same)⟩
theorem er_max {i : Nat} {n : Nat} (h : σ[i]? = some (some (.int (n : Int)))) : EvR (tCB (fun xs H Q => ∃ i j, xs = [V.int i, V.int j] ∧ Q (.int (if j > i then j else i)) H) (tCons (tC (.int 1)) (tCons (tVar i) tNil))) σ H (.int ((max 1 n : Nat) : Int)) := fun H1 e Q q =>
  cb_op (a_op (k_op (a_op (v_op h (n_op ⟨1, (n : Int), rfl, by
    have e1 : (if (n : Int) > 1 then (n : Int) else 1) = ((max 1 n : Nat) : Int) := by
      split <;> omega
    rw [e1]
    exact q _ H1 (Ex.refl H1) (.int _)⟩)))))
theorem er_mulS {i : Nat} {n : Nat} {z : Str} (h : σ[i]? = some (some (.int (n : Int)))) (hz : z.length ≤ 100) (hn : n ≤ 100) (hl : (repS z n).length ≤ 1000) : EvR (tOp rMulS (tC (.str z)) (tVar i)) σ H (.str (repS z n)) := fun H1 e Q q =>
  op_op (k_op (v_op h ⟨z, n, rfl, rfl, hz, hn, q _ H1 (Ex.refl H1) (.str _ hl)⟩))
theorem er_add1 {i : Nat} {n : Nat} (h : σ[i]? = some (some (.int (n : Int)))) : EvR (tOp (rI0 fun i j => V.int (i + j)) (tVar i) (tC (.int 1))) σ H (.int ((n + 1 : Nat) : Int)) := fun H1 e Q q =>
  op_op (v_op h (k_op ⟨_, _, rfl, rfl, by
    show Q (V.int ((n : Int) + 1)) H1
    rw [show ((n : Int) + 1) = ((n + 1 : Nat) : Int) from by omega]
    exact q _ H1 (Ex.refl H1) (.int _)⟩))
end
def flat1 : Va → Bool
  | .lst _ => false
  | .tup _ => false
  | _ => true
theorem noPens_of : ∀ {l : List Va}, (∀ x ∈ l, noPen x = true) → noPen.noPens l = true
  | [], _ => rfl
  | a :: l, h => by
    show (noPen a && noPen.noPens l) = true
    rw [h a List.mem_cons_self, noPens_of fun x hx => h x (List.mem_cons_of_mem _ hx)]
    rfl
theorem np_flat {l : List Va} (h : ∀ y ∈ l, flat1 y = true) : noPen (.lst l) = true := by
  show (!rowP l && noPen.noPens l) = true
  have h1 : rowP l = false := by
    cases l with
    | nil => rfl
    | cons a t =>
      have ha := h a List.mem_cons_self
      cases a <;> first | (rcases t with _ | ⟨b, _ | ⟨c, _ | _⟩⟩ <;> rfl) | cases ha
  rw [h1, noPens_of fun x hx => by have := h x hx; cases x <;> first | rfl | cases this]
  rfl
theorem fl_ints (is : List Int) : ∀ y ∈ is.map Va.int, flat1 y = true := fun y hy => by
  obtain ⟨i, _, rfl⟩ := List.mem_map.mp hy
  rfl
/-! ### what is no setting -/
def oddM (sg : List Int) : List Va := [.non, .int 5, .lst (sg.map .int ++ [.int 1]), .lst (List.replicate (max 1 sg.length) (.int 0)), .lst (List.replicate (max 1 sg.length) (.bl true)), .str (repS "+" sg.length), .lst (List.replicate (sg.length + 1) .non), .lst ([.int 2] ++ sg.map .int), .dic]
theorem set_len {d : WebD} {l : List Va} (h : l.length ≠ nM d) : isSet d (.lst l) = false := by
  show (decide (l.length = nM d) && l.all isSg) = false
  rw [decide_eq_false h, Bool.false_and]
theorem set_sg {d : WebD} {l : List Va} {x : Va} (hx : x ∈ l) (h : isSg x = false) : isSet d (.lst l) = false := by
  show (decide (l.length = nM d) && l.all isSg) = false
  have : l.all isSg = false := by
    rw [Bool.eq_false_iff]
    intro z
    have := List.all_eq_true.mp z x hx
    rw [h] at this
    cases this
  rw [this, Bool.and_false]
theorem oddM_no {d : WebD} {sg : List Int} (hd : sg.length = nM d) : ∀ x ∈ oddM sg, isSet d x = false := by
  intro x hx
  simp only [oddM, List.mem_cons, List.mem_singleton, List.not_mem_nil, or_false] at hx
  rcases hx with rfl | rfl | rfl | rfl | rfl | rfl | rfl | rfl | rfl
  · rfl
  · rfl
  · exact set_len (by rw [List.length_append, List.length_map]; show sg.length + 1 ≠ _; omega)
  · exact set_sg (List.mem_replicate.mpr ⟨by omega, rfl⟩) rfl
  · exact set_sg (List.mem_replicate.mpr ⟨by omega, rfl⟩) rfl
  · rfl
  · exact set_len (by rw [List.length_replicate]; omega)
  · exact set_len (by rw [List.length_append, List.length_map]; show 1 + sg.length ≠ _; omega)
  · rfl
theorem oddM_np (sg : List Int) : noPen.noPens (oddM sg) = true := by
  refine noPens_of fun x hx => ?_
  simp only [oddM, List.mem_cons, List.mem_singleton, List.not_mem_nil, or_false] at hx
  rcases hx with rfl | rfl | rfl | rfl | rfl | rfl | rfl | rfl | rfl
  · rfl
  · rfl
  · refine np_flat fun y hy => ?_
    rcases List.mem_append.mp hy with hy | hy
    · exact fl_ints _ y hy
    · rw [List.mem_singleton.mp hy]; rfl
  · refine np_flat fun y hy => ?_
    rw [List.eq_of_mem_replicate hy]; rfl
  · refine np_flat fun y hy => ?_
    rw [List.eq_of_mem_replicate hy]; rfl
  · rfl
  · refine np_flat fun y hy => ?_
    rw [List.eq_of_mem_replicate hy]; rfl
  · refine np_flat fun y hy => ?_
    rcases List.mem_append.mp hy with hy | hy
    · rw [List.mem_singleton.mp hy]; rfl
    · exact fl_ints _ y hy
  · rfl
/-! ### what is no hub, no stiff tie, no lot -/
/-- a value that stays beside the pen and the list of what is heard -/
structure Sta (x : Va) : Prop where
  gv : GV 2 x
  np : noPen x = true
  nt : noTup x = true
def PlG (hs : List Int) (x : Va) : Prop := hubB x hs = false ∧ Sta x
def LoG (ss : List (Int × Int)) (x : Va) : Prop := tieB x ss = false ∧ Sta x
theorem sta_int (i : Int) : Sta (.int i) := ⟨GV.int i, rfl, rfl⟩
theorem sta_pair (a b : Int) : Sta (.tup [.int a, .int b]) := ⟨GV.tup (n := 1) fun y hy => by
  rcases List.mem_cons.mp hy with rfl | hy
  · exact GV.int _
  · rw [List.mem_singleton.mp hy]; exact GV.int _, rfl, rfl⟩
def plainW (n : Int) : List Va := [.int n, .int (-1), .non, .str "0", .lst [.int 0], .bl true]
theorem plainW_ok {n : Int} {hs : List Int} (hb : ∀ h ∈ hs, 0 ≤ h ∧ h < n) : ∀ x ∈ plainW n, PlG hs x := by
  intro x hx
  simp only [plainW, List.mem_cons, List.mem_singleton, List.not_mem_nil, or_false] at hx
  rcases hx with rfl | rfl | rfl | rfl | rfl | rfl
  · exact ⟨decide_eq_false fun z => by have := hb _ z; omega, sta_int _⟩
  · exact ⟨decide_eq_false fun z => by have := hb _ z; omega, sta_int _⟩
  · exact ⟨rfl, GV.non, rfl, rfl⟩
  · exact ⟨rfl, GV.str (by decide +kernel), rfl, rfl⟩
  · exact ⟨rfl, GV.lst (n := 1) fun y hy => by rw [List.mem_singleton.mp hy]; exact GV.int _, rfl, rfl⟩
  · exact ⟨rfl, GV.bl _, rfl, rfl⟩
def looseW : List Va := [.non, .int 5, .tup [.int 0], .tup [.int 0, .int 1, .int 2], .lst [.lst [.int 0, .int 1]], .str "01", .tup [.int 0, .bl true], .lst [.int 0, .int 0]]
theorem tieB_no {x : Va} {ss : List (Int × Int)} (h : isNums x = false) : tieB x ss = false := by
  unfold tieB
  rw [h, Bool.false_and]
theorem tieB_len {x : Va} {ss : List (Int × Int)} (h : (intsV x).length ≠ 2) : tieB x ss = false := by
  unfold tieB
  rw [decide_eq_false, Bool.and_false]
  intro z
  obtain ⟨p, _, e⟩ := List.mem_map.mp z
  rw [← e] at h
  exact h rfl
theorem tieB_two {x : Va} {ss : List (Int × Int)} {a b : Int} (h : intsV x = [a, b]) (hn : (a, b) ∉ ss) : tieB x ss = false := by
  unfold tieB
  rw [decide_eq_false, Bool.and_false]
  intro z
  obtain ⟨p, hp, e⟩ := List.mem_map.mp z
  rw [h] at e
  obtain ⟨p1, p2⟩ := p
  have e1 : p1 = a := by injection e
  have e2 : p2 = b := by injection e with _ e; injection e
  rw [e1, e2] at hp
  exact hn hp
theorem two_int {n : Nat} {x y : Va} (h1 : GV n x) (h2 : GV n y) : ∀ z ∈ [x, y], GV n z := fun z hz => by
  rcases List.mem_cons.mp hz with rfl | hz
  · exact h1
  · rw [List.mem_singleton.mp hz]; exact h2
theorem looseW_ok {ss : List (Int × Int)} (hb : ∀ s ∈ ss, s.1 < s.2) : ∀ x ∈ looseW, LoG ss x := by
  intro x hx
  simp only [looseW, List.mem_cons, List.mem_singleton, List.not_mem_nil, or_false] at hx
  rcases hx with rfl | rfl | rfl | rfl | rfl | rfl | rfl | rfl
  · exact ⟨tieB_no rfl, GV.non, rfl, rfl⟩
  · exact ⟨tieB_no rfl, sta_int _⟩
  · exact ⟨tieB_len (by decide), GV.tup (n := 1) fun y hy => by rw [List.mem_singleton.mp hy]; exact GV.int _, rfl, rfl⟩
  · exact ⟨tieB_len (by decide), GV.tup (n := 1) fun y hy => by
      rcases List.mem_cons.mp hy with rfl | hy
      · exact GV.int _
      · exact two_int (GV.int _) (GV.int _) y hy, rfl, rfl⟩
  · exact ⟨tieB_no rfl, GV.lst (n := 1) fun y hy => by rw [List.mem_singleton.mp hy]; exact GV.lst (n := 0) (two_int (GV.int _) (GV.int _)), rfl, rfl⟩
  · exact ⟨tieB_no rfl, GV.str (by decide +kernel), rfl, rfl⟩
  · exact ⟨tieB_no rfl, GV.tup (n := 1) (two_int (GV.int _) (GV.bl _)), rfl, rfl⟩
  · exact ⟨tieB_two (a := 0) (b := 0) rfl fun z => by have := hb _ z; omega, GV.lst (n := 1) (two_int (GV.int _) (GV.int _)), rfl, rfl⟩
def badM : List Va := [.non, .int 5, .str "0", .lst [.non], .lst [.bl true], .lst [.str "0"], .lst [.lst [.int 0]], .dic]
theorem badM_no : (badM.all fun x => !isNums x) = true := rfl
theorem lotM_no {d : WebD} {x : Va} {z : Str} (h : isNums x = false) : lotM d x z = .error (.lot z) := by
  unfold lotM
  rw [if_neg (by rw [h]; exact Bool.false_ne_true)]
theorem lotM_far {d : WebD} {x : Va} {z : Str} {ms rest : List Int} {f : Int} (hx : seqV x = some ((ms ++ f :: rest).map Va.int)) (hm : ∀ m ∈ ms, 0 ≤ m ∧ m < (nM d : Int)) (hf : ¬ (0 ≤ f ∧ f < (nM d : Int))) : lotM d x z = .error (.mark (.int f)) := by
  have hb : badP (nM d : Int) (ms ++ f :: rest) = some f := by
    unfold badP
    rw [List.find?_append, List.find?_eq_none.mpr fun m h => by
      have := hm m h
      simp only [Bool.not_eq_true, Bool.not_eq_false', Bool.and_eq_true, decide_eq_true_eq]
      omega]
    rw [Option.none_or, List.find?_cons_of_pos]
    by_cases h1 : 0 ≤ f
    · rw [decide_eq_false (show ¬ f ≤ (nM d : Int) - 1 by omega), Bool.and_false]; rfl
    · rw [decide_eq_false h1, Bool.false_and]; rfl
  unfold lotM
  rw [if_pos (nums_of hx).1, (nums_of hx).2, hb]
theorem lotM_twice {d : WebD} {x : Va} {z : Str} {f : Int} (hx : seqV x = some ([f, f].map Va.int)) (hf : 0 ≤ f ∧ f < (nM d : Int)) : lotM d x z = .error (.twice (.int f)) := by
  have hb : badP (nM d : Int) [f, f] = none := List.find?_eq_none.mpr fun m h => by
    have : m = f := by
      rcases List.mem_cons.mp h with h | h
      · exact h
      · exact List.mem_singleton.mp h
    simp only [Bool.not_eq_true, Bool.not_eq_false', Bool.and_eq_true, decide_eq_true_eq]
    omega
  have ht : ft ([] : List Int) [f, f] = some f := by
    unfold ft
    rw [if_neg List.not_mem_nil]
    unfold ft
    rw [if_pos (by simp)]
  unfold lotM
  rw [if_pos (nums_of hx).1, (nums_of hx).2, hb]
  show (match ft [] [f, f] with | some c => Except.error (Er.twice (.int c)) | none => _) = _
  rw [ht]
section
variable {P : Program} {w : World} {K : PySem.W.Frag} {mg : Str → Option Value} {base : Heap}
theorem er_ev {te : TE} {σ : L2.St} {H : Hp} {i : Int} (h : Ev te σ H (.int i)) : EvR te σ H (.int i) := fun H1 e Q q => h H1 e _ fun H2 e2 => q _ H2 e2 (.int i)
theorem er_pow : ∀ {σ : L2.St} {H : Hp}, EvR (tOp (rI CPow fun i j => V.int (i ^ j.toNat)) (tC (.int 10)) (tC (.int 20))) σ H (.int 100000000000000000000) := fun {σ H} H1 e Q q =>
  op_op (k_op (k_op ⟨10, 20, rfl, rfl, ⟨by decide, by decide, by decide⟩, q _ H1 (Ex.refl H1) (.int _)⟩))
/-- len(x[j]) of the web as drawn -/
theorem ev_len {σ : L2.St} {H : Hp} {b a : Addr} {xs ys : List V} {j : Nat} (h1 : σ[1]? = some (some (.ref b))) (hb : H b = some (.lst xs)) (hj : xs[j]? = some (.ref a)) (ha : H a = some (.lst ys)) : Ev (tCB (rLenS K) (tCons (tOp (rIx K) (tVar 1) (tC (.int (j : Int)))) tNil)) σ H (.int (ys.length : Int)) := fun H1 e Q q =>
  cb_op (a_op (wx (j := j) h1 (e _ _ hb) hj (n_op ⟨a, _, rfl, .inl (sq_of (e _ _ ha)), q H1 (Ex.refl H1)⟩)))
theorem in_given {n : Nat} {f : Nat → Bool} {v : Nat → V} {x : V} (h : x ∈ given n f v) : ∃ i, i < n ∧ f i = true ∧ x = v i := by
  unfold given at h
  obtain ⟨i, hi, rfl⟩ := List.mem_map.mp h
  obtain ⟨h1, h2⟩ := List.mem_filter.mp hi
  exact ⟨i, List.mem_range.mp h1, h2, rfl⟩
theorem given_len {n : Nat} {f : Nat → Bool} {v : Nat → V} : (given n f v).length ≤ n := by
  unfold given
  rw [List.length_map]
  have := List.length_filter_le f (List.range n)
  rw [List.length_range] at this
  exact this
/-- all of a list of values told by one of them -/
def AllG (G : Va → Prop) (H : Hp) (vs : List V) : Prop := ∀ v ∈ vs, ∃ x, Rv H v x ∧ noPen x = true ∧ G x
theorem AllG.up {G : Va → Prop} {H H' : Hp} (e : Ex H H') {vs : List V} (h : AllG G H vs) : AllG G H' vs := fun v hv => let ⟨x, r, a, b⟩ := h v hv; ⟨x, r.up e, a, b⟩
theorem AllG.upP {G : Va → Prop} {H H' : Hp} {p l : Addr} {ns : List Int} {n : Int} (hp : Pen H p l ns n) (e : ExP p H H') {vs : List V} (h : AllG G H vs) : AllG G H' vs := fun v hv => let ⟨x, r, a, b⟩ := h v hv; ⟨x, r.upPn hp e a, a, b⟩
theorem AllG.app {G : Va → Prop} {H : Hp} {vs us : List V} (h : AllG G H vs) (k : AllG G H us) : AllG G H (vs ++ us) := fun v hv => (List.mem_append.mp hv).elim (h v) (k v)
theorem AllG.of {G : Va → Prop} {H : Hp} {vs : List V} {xs : List Va} (r : RvA H vs xs) (h : ∀ x ∈ xs, noPen x = true ∧ G x) : AllG G H vs := fun v hv => by
  obtain ⟨x, hx, rr⟩ := rva_mem r hv
  exact ⟨x, rr, h x hx⟩
/-- one of a list's values drawn -/
theorem pickG_op {σ : L2.St} {H : Hp} {Q : VK} {p l a : Addr} {ns : List Int} {n : Int} {j : Nat} {vs : List V} {G : Va → Prop} (h0 : σ[0]? = some (some (.ref p))) (hj : σ[j]? = some (some (.ref a))) (hp : Pen H p l ns n) (hn : n ≤ 100000) (ha : H a = some (.lst vs)) (hap : a ≠ p) (hne : vs ≠ []) (hl : vs.length ≤ 1000) (hG : ∀ v ∈ vs, ∃ x, Rv H v x ∧ noPen x = true ∧ G x)
    (q : ∀ v x H2, G x → ExP p H H2 → Pen H2 p l ns (n + 1) → Rv H2 v x → Q v H2) : tCall (spPick K) [] E0 (tCons (tVar 0) (tCons (tVar j) tNil)) σ H Q :=
  c_op (a_op (v_op h0 (a_op (v_op hj (n_op ⟨p, a, l, ns, n, vs, rfl, hp, hn, sq_of ha, hap, hne, hl, fun v H4 hv e4 hp4 => by
    obtain ⟨x, r, h1, h2⟩ := hG v hv
    exact q v x H4 h2 e4 hp4 (r.upPn hp e4 h1)⟩)))))
theorem BodH.upN {H H' : Hp} (e : ExtN H H') {W C : Addr} {a : Addr} {b : BodD} (h : BodH W C H a b) : BodH W C H' a b := by
  obtain ⟨k, wa, sA, dx, ha, hi⟩ := h
  exact ⟨k, wa, sA, dx, e _ _ ha (kp_ins _ _ _), ⟨hi.w.upN e, hi.s.upN e⟩⟩
theorem gn_op {i : Nat} {x : V} {σ σ' : L2.St} {H : Hp} {k : L2.St → Hp → Prop} (e : σ.set i (some x) = σ') (h : k σ' H) : gName i x σ H k := by
  subst e
  exact h
/-- it raises r, and draws once before -/
theorem hearP {S : Es P w K mg base} {T : List (Addr × Str)} {t : XK → TE} {σ : L2.St} {H : Hp} {Q : VK} {p l : Addr} {ns : List Int} {n : Int} (hT : Tabs T H) (hp : Pen H p l ns n) (r : Er) (h : ∀ H1, ExtN H H1 → ∀ (E : XK) (Q' : VK), (∀ H2, ExP p H1 H2 → Pen H2 p l ns (n + 1) → Rz S H2 E r) → t E σ H1 Q')
    (q : ∀ v H2, ExN p H H2 → Pen H2 p l ns (n + 1) → Tabs T H2 → Hrd H2 v (some r) → Q v H2) : tLam T (TTh S) t σ H Q :=
  lam_op ⟨hT, fun H1 e1 T1 p0 H2 e2 h0 => h H2 (e1.trans (ExtN.of e2)) _ _ fun H3 e3 hp3 => fun d fs H4 e4 f g => ⟨r, d, fs, rfl, rfl, g, f, fun p' xs H5 e5 h5 hr => q (.ref p') H5
    (((extn_p (e1.trans (ExtN.of e2))).trans (ExN.of e3)).trans (extn_p (ExtN.of (e4.trans e5)))) (hp3.up (e4.trans e5)) (((keepT T).exp _ _ _ _ _ _ ((hp.upN (e1.trans (ExtN.of e2)))) e3 (T1.ext e2)).ext (e4.trans e5)) ⟨p', xs, rfl, h5, hr⟩⟩⟩
/-- what has been heard so far, from H0 on, with draws between -/
structure LisP (T : List (Addr × Str)) (p l : Addr) (ns : List Int) (H0 : Hp) (L : Addr) (rs : List (Option Er)) (n : Int) (H : Hp) : Prop where
  e : ExN p H0 H
  nn : ∀ o, H0 L = some o → ¬ Keepy o
  pen : Pen H p l ns n
  nL : L ≠ p ∧ L ≠ l
  t : Tabs T H
  l : ∃ xs, H L = some (.lst xs) ∧ Paired (Hrd H) xs rs ∧ rs ≠ []
  k : rs.all okT = true
  kp : ∀ r ∈ rs, ∀ x, (r = some (.mark x) ∨ r = some (.twice x)) → noPen x = true
  m : rs.length ≤ 1000
theorem lisP_start {T : List (Addr × Str)} {p l : Addr} {ns : List Int} {n : Int} {H0 H1 : Hp} {v : V} {r : Option Er} {L : Addr} (e : ExN p H0 H1) (hp : Pen H1 p l ns n) (t : Tabs T H1) (h : Hrd H1 v r) (k : okT r = true) (kp : ∀ x, (r = some (.mark x) ∨ r = some (.twice x)) → noPen x = true) (hL : H1 L = none) : LisP T p l ns H0 L [r] n (upd H1 L (.lst [v])) := by
  have eL := Ex.new (o := HO.lst [v]) hL
  obtain ⟨h1, h2⟩ := pen_ne hp hL
  exact ⟨e.trans (extn_p (ExtN.of eL)), fun o ho kk => (by rw [e _ _ h1 kk ho] at hL; cases hL), hp.up eL, ⟨h1, h2⟩, t.ext eL, ⟨[v], upd_same, .cons (h.upN (ExtN.of eL)) .nil, List.cons_ne_nil _ _⟩, by rw [List.all_cons, k]; rfl, fun r' hr => by rw [List.mem_singleton.mp hr]; exact kp, by show 1 ≤ 1000; decide⟩
theorem lisP_ap {S : Es P w K mg base} {T : List (Addr × Str)} {t : XK → TE} {σ : L2.St} {H0 H : Hp} {p l : Addr} {ns : List Int} {n : Int} {rs : List (Option Er)} {L : Addr} {Q : VK} {j : Nat} (h : LisP T p l ns H0 L rs n H) (r : Er) (hj : σ[j]? = some (some (.ref L))) (k : okT (some r) = true) (kp : ∀ x, (some r = some (.mark x) ∨ some r = some (.twice x)) → noPen x = true) (m : rs.length < 1000)
    (hr : ∀ H1, ExN p H0 H1 → Pen H1 p l ns n → ∀ (E : XK) (Q' : VK), Rz S H1 E r → t E σ H1 Q') (q : ∀ H2, LisP T p l ns H0 L (rs ++ [some r]) n H2 → Q .non H2) :
    tBM K "list" rAppend (tVar j) (tCons (tLam T (TTh S) t) tNil) σ H Q := by
  obtain ⟨xs0, hx0, _, _⟩ := h.l
  refine ⟨.ref L, hj, .inl ⟨rfl, _, sq_of hx0⟩, a_op (hear h.t r (fun H1 e1 => hr H1 (h.e.trans (extn_p e1)) (h.pen.upN e1)) fun v H2 e2 T2 h2 => n_op ?_)⟩
  obtain ⟨xs, hx, hp, hne⟩ := h.l
  have hx2 := xl e2 hx
  have hp2 := hrds_upN e2 hp
  refine ⟨L, xs, v, rfl, rfl, hx2, sz_lt (by have := Paired.length hp; omega), q _ ?_⟩
  have en := h.e.trans (extn_p e2)
  refine ⟨fun a o ha kk hh => ?_, h.nn, pen_upd (h.pen.upN e2) h.nL.1 h.nL.2, h.nL, tabs_upd T2 hx2, ⟨_, upd_same, ?_, by simp⟩, by rw [List.all_append, h.k, List.all_cons, k]; rfl, fun r' hr' => ?_, by rw [List.length_append]; show _ + 1 ≤ _; omega⟩
  · rw [upd_ne (fun z => h.nn o (by rw [← z]; exact hh) kk)]
    exact en a o ha kk hh
  · cases hp2 with
    | nil => exact absurd rfl hne
    | cons a b =>
      obtain ⟨p1, ys, e1, h1, _⟩ := id a
      subst e1
      exact paired_snoc (hrds_updT hx2 h1 (.cons a b) h.k) (h2.updT hx2 h1 k)
  · rcases List.mem_append.mp hr' with hr' | hr'
    · exact h.kp r' hr'
    · rw [List.mem_singleton.mp hr']; exact kp
/-- the same, with what is due beside it -/
theorem lisP_apD {S : Es P w K mg base} {T : List (Addr × Str)} {t : XK → TE} {σ : L2.St} {H0 H : Hp} {p l : Addr} {ns : List Int} {n : Int} {rs ds : List (Option Er)} {L dA : Addr} {ys : List V} {Q : VK} {j : Nat} (h : LisP T p l ns H0 L rs n H) (r : Er) (hj : σ[j]? = some (some (.ref L))) (k : okT (some r) = true) (kp : ∀ x, (some r = some (.mark x) ∨ some r = some (.twice x)) → noPen x = true) (m : rs.length < 1000)
    (hd : dA ≠ L) (hdA : H dA = some (.lst ys)) (hdP : Paired (Hrd H) ys ds) (kd : ds.all okT = true)
    (hr : ∀ H1, ExN p H0 H1 → Pen H1 p l ns n → ∀ (E : XK) (Q' : VK), Rz S H1 E r → t E σ H1 Q') (q : ∀ H2, LisP T p l ns H0 L (rs ++ [some r]) n H2 → H2 dA = some (.lst ys) → Paired (Hrd H2) ys ds → Q .non H2) :
    tBM K "list" rAppend (tVar j) (tCons (tLam T (TTh S) t) tNil) σ H Q := by
  obtain ⟨xs0, hx0, _, _⟩ := h.l
  refine ⟨.ref L, hj, .inl ⟨rfl, _, sq_of hx0⟩, a_op (hear h.t r (fun H1 e1 => hr H1 (h.e.trans (extn_p e1)) (h.pen.upN e1)) fun v H2 e2 T2 h2 => n_op ?_)⟩
  obtain ⟨xs, hx, hp, hne⟩ := h.l
  have hx2 := xl e2 hx
  have hp2 := hrds_upN e2 hp
  have hd2 := hrds_upN e2 hdP
  have en := h.e.trans (extn_p e2)
  cases hp2 with
  | nil => exact absurd rfl hne
  | @cons v0 xs' r0 rs' a b =>
    obtain ⟨p1, zs, e1, h1, _⟩ := id a
    subst e1
    refine ⟨L, _, v, rfl, rfl, hx2, sz_lt (by have := Paired.length hp; omega), q _ ?_ (by rw [upd_ne hd]; exact xl e2 hdA) (hrds_updT hx2 h1 hd2 kd)⟩
    refine ⟨fun a o ha kk hh => ?_, h.nn, pen_upd (h.pen.upN e2) h.nL.1 h.nL.2, h.nL, tabs_upd T2 hx2, ⟨_, upd_same, paired_snoc (hrds_updT hx2 h1 (.cons a b) h.k) (h2.updT hx2 h1 k), by simp⟩, by rw [List.all_append, h.k, List.all_cons, k]; rfl, fun r' hr' => ?_, by rw [List.length_append]; show _ + 1 ≤ _; omega⟩
    · rw [upd_ne (fun z => h.nn o (by rw [← z]; exact hh) kk)]
      exact en a o ha kk hh
    · rcases List.mem_append.mp hr' with hr' | hr'
      · exact h.kp r' hr'
      · rw [List.mem_singleton.mp hr']; exact kp
theorem eh_lstN {σ : L2.St} {H : Hp} {ta : TA} {rs : List (Option Er)} {Q : VK} (h : EvHs ta σ H rs) (m : rs.length ≤ 1000) (q : ∀ b ys H2, H b = none → Ex H H2 → H2 b = some (.lst ys) → Paired (Hrd H2) ys rs → Q (.ref b) H2) : tLst ta σ H Q :=
  l_op (h H (Ex.refl H) _ fun vs H2 e2 rs => ⟨by rw [Paired.length rs]; exact Nat.le_of_lt (sz_lt (by omega)), fun p hp => q p vs _ (fresh_back e2 hp) (e2.trans (Ex.new hp)) upd_same (L2.Paired.mapP rs fun _ _ r => r.up (Ex.new hp))⟩)
theorem Hrd.upP {H H' : Hp} {p l : Addr} {ns : List Int} {n : Int} (hp : Pen H p l ns n) (e : ExP p H H') {v : V} {r : Option Er} (k : ∀ x, (r = some (.mark x) ∨ r = some (.twice x)) → noPen x = true) (h : Hrd H v r) : Hrd H' v r := by
  obtain ⟨a, xs, rfl, ha, c⟩ := h
  obtain ⟨t, rr, hpp, _⟩ := hp.at_
  refine ⟨a, xs, rfl, e _ _ (fun z => by rw [z, hpp] at ha; cases ha) ha, ?_⟩
  cases r with
  | none => exact c
  | some r =>
    cases r with
    | mark x => obtain ⟨u, r1, r2⟩ := c; exact ⟨u, r1.upPn hp e (k x (.inl rfl)), r2⟩
    | twice x => obtain ⟨u, r1, r2⟩ := c; exact ⟨u, r1.upPn hp e (k x (.inr rfl)), r2⟩
    | _ => exact c
theorem hrds_upP {H H' : Hp} {p l : Addr} {ns : List Int} {n : Int} (hp : Pen H p l ns n) (e : ExP p H H') : ∀ {xs : List V} {rs : List (Option Er)}, (∀ r ∈ rs, ∀ x, (r = some (.mark x) ∨ r = some (.twice x)) → noPen x = true) → Paired (Hrd H) xs rs → Paired (Hrd H') xs rs
  | _, _, _, .nil => .nil
  | _, _, k, .cons a b => .cons (a.upP hp e (k _ List.mem_cons_self)) (hrds_upP hp e (fun r hr => k r (List.mem_cons_of_mem _ hr)) b)
theorem LisP.draw {T : List (Addr × Str)} {p l : Addr} {ns : List Int} {n n' : Int} {H0 H H' : Hp} {rs : List (Option Er)} {L : Addr} (h : LisP T p l ns H0 L rs n H) (e : ExP p H H') (hp : Pen H' p l ns n') : LisP T p l ns H0 L rs n' H' := by
  obtain ⟨xs, hx, hP, hne⟩ := h.l
  exact ⟨h.e.trans (ExN.of e), h.nn, hp, h.nL, (keepT T).exp _ _ _ _ _ _ h.pen e h.t, ⟨xs, e _ _ h.nL.1 hx, hrds_upP h.pen e h.kp hP, hne⟩, h.k, h.kp, h.m⟩
theorem LisP.ext {T : List (Addr × Str)} {p l : Addr} {ns : List Int} {n : Int} {H0 H H' : Hp} {rs : List (Option Er)} {L : Addr} (h : LisP T p l ns H0 L rs n H) (e : Ex H H') : LisP T p l ns H0 L rs n H' := h.draw (Ex.p e) (h.pen.up e)
end
end KW
namespace KW
open PySem PySem.Spec PyProof.Rows L2 KR KS KX Evl StX LamX
section
variable {P : Program} {w : World} {K : PySem.W.Frag} {mg : Str → Option Value} {base : Heap}
abbrev sRR : Stmt := topS 80
abbrev nRR : List Str := ["_law_pen_here", "_law_web_here", "_law_made", "_law_setting", "_law_body", "_law_many", "_law_odd", "_law_plain", "_law_loose", "_law_hub", "_law_tie", "_law_far", "_law_bad", "_law_heard_here", "_law_due", "_law_mark", "_law_piece"]
theorem scRR : FnScope nRR ["_law_pen_here", "_law_web_here", "_law_made", "_law_setting"] (defScope sRR) := ⟨rfl, rfl, rfl, by decide +kernel, rfl, by decide +kernel, by decide +kernel⟩
abbrev rModX : R2 := rI (fun _ j => 0 < j) fun i j => .int (i % j)
abbrev rAddX : R2 := rI0 fun i j => .int (i + j)
abbrev ttP (K : PySem.W.Frag) : TT := tTest (tOp (rIn K true) (tVar 16) (tOp (rIx K) (tVar 1) (tC (.int 2))))
abbrev ttT (K : PySem.W.Frag) : TT := tTest (tOp (rInG K true) (tVar 10) (tOp (rIx K) (tVar 1) (tC (.int 3))))
abbrev rSW {S : Es P w K mg base} {k : Nat} (A : All6 S k) : List V → Hp → VK → Prop := fun xs H Q => ∃ a dx fs, xs = [.ref a] ∧ H a = some (.ins A.Y.C dx fs) ∧ spWS A.Y.C [.ref a] H (fun v H' => ∃ z, v = .str z ∧ Q (.str z) H') E0
def spRR {S : Es P w K mg base} {k : Nat} (A : All6 S k) (Tb : Hp → Prop) : Sp := fun vs H Q _ => ∃ (p l : Addr) (ns : List Int) (n : Int) (b kA tA hA sA : Addr) (tys sys : List V) (ks : List Str) (ts : List (Int × Int)) (hs : List Int) (ss : List (Int × Int)) (m g : Addr) (sg : List Int), vs = [.ref p, .ref b, .ref m, .ref g] ∧ n ≤ 70000 ∧ MC A p l ns b kA tA hA sA tys sys ks ts hs ss m g sg n H ∧ Tb H ∧ ∀ n' H2, ExN p H H2 → Tb H2 → Pen H2 p l ns n' → n ≤ n' → n' ≤ n + 1000 → Q (.bl true) H2
theorem ok_rr {S : Es P w K mg base} {k : Nat} (A : All6 S k) (HK : HrdK S) (B : Bu mg) (F : FnC K mg base "_law_refused_right" sRR ["_law_pen_here", "_law_web_here", "_law_made", "_law_setting"]) (HD : FnA K mg "_law_heard" sHd ["_law_ask"]) (P_ : FnA K mg "_law_pick" sPick ["_law_pen_here", "_law_some"]) (D_ : FnA K mg "_law_draw" sDraw ["_law_pen_here", "_law_many"]) {T : List (Addr × Str)} (hmT : (F.Pt, ("_law_refused_right.<locals>.<lambda>" : Str)) ∈ T) (hq : ∀ q ∈ T, q.1 = F.Pt → q.2 = ("_law_refused_right.<locals>.<lambda>" : Str)) :
    FnOk P w K mg base CX0 (k + 12) F.f F.fd ["_law_pen_here", "_law_web_here", "_law_made", "_law_setting"] (spRR A (Tabs T)) := by
  have GP : FnOk P w K mg base CX0 (k + 11) P_.f P_.fd ["_law_pen_here", "_law_some"] (spPick K) := ok_pick P_.F B D_
  have GD : FnOk P w K mg base CX0 (k + 11) D_.f D_.fd ["_law_pen_here", "_law_many"] spDraw := ok_draw D_.F B
  have GP9 : FnOk P w K mg base CX0 (k + 9) P_.f P_.fd ["_law_pen_here", "_law_some"] (spPick K) := ok_pick P_.F B D_
  refine ok0C F scRR (fun vs H Q E h => ?_) (fun A0 outer s H vs Q E hr h => ?_)
  · obtain ⟨p, l, ns, n, b, kA, tA, hA, sA, tys, sys, ks, ts, hs, ss, m, g, sg, rfl, _⟩ := h
    rfl
  · obtain ⟨p, l, ns, n, b, kA, tA, hA, sA, tys, sys, ks, ts, hs, ss, m, g, sg, rfl, hn, M, hT, q⟩ := h
    have hu := hr.units
    have hu65 := room65 hr
    have hr6 := hr.mono (j := k + 6) (by omega)
    have hrL : Room ((k + 9) + 2) (A0.deeper (envOfC "_law_refused_right" (defScope sRR) s.heap.objs.size F.f (.ref F.c))) := hr
    refine ⟨_, (pss_cons (ps_asg (pe_tup (pa_cons (pe_make A.Bd.M A.Bd.FI hr6 rfl A.Bd.g A.Bd.bI .nil passF (pa_cons (pv 2) (pa_cons (pv 3) pa_nil))) (pa_cons (pe_callB call_len_seq rfl B.len PySem.boot_len (pa_cons (pv 3) pa_nil)) pa_nil))) (pg_tup rfl (pgs_cons (pg_name (i := 4) scRR.nd rfl (Or.inr rfl)) (pgs_cons (pg_name (i := 5) scRR.nd rfl (Or.inr rfl)) pgs_nil))))
      (pss_cons (ps_set (i := 6) scRR.nd rfl (Or.inr rfl) (pe_call GP hr (by rfl) P_.g P_.F.kp P_.b .nil pass0 (pa_cons (pv 0) (pa_cons (pe_lst (pa_cons pe_non (pa_cons pe_int (pa_cons (pe_op op_cat (pv 3) (pe_lst (pa_cons pe_int pa_nil))) (pa_cons (pe_op op_rep (pe_lst (pa_cons pe_int pa_nil)) (pe_callB (call_max2 rfl) rfl B.max boot_max (pa_cons pe_int (pa_cons (pv 5) pa_nil)))) (pa_cons (pe_op op_rep (pe_lst (pa_cons pe_bl pa_nil)) (pe_callB (call_max2 rfl) rfl B.max boot_max (pa_cons pe_int (pa_cons (pv 5) pa_nil)))) (pa_cons (pe_op op_mulS pe_str (pv 5)) (pa_cons (pe_op op_rep (pe_lst (pa_cons pe_non pa_nil)) (pe_op op_add (pv 5) pe_int)) (pa_cons (pe_op op_cat (pe_lst (pa_cons pe_int pa_nil)) (pv 3)) (pa_cons (pe_disp (pps_cons pe_int pe_int pps_nil) (by rfl) (by rfl) (fun z => by cases z) (by decide)) pa_nil)))))))))) pa_nil))))
      (pss_cons (ps_set (i := 7) scRR.nd rfl (Or.inl rfl) (pe_op op_cat (pe_lc (own := [("_law_piece", 16)]) (g := gName 16) (tt := ttP K) rfl scRR.nd (pi_range1 rfl B.range (pa_cons (pe_callB call_len_seq rfl B.len PySem.boot_len (pa_cons (pe_ix ix_seq (pv 1) pe_int (fun _ _ => rfl)) pa_nil)) pa_nil)) (blkOk_by (N := nRR) (sc := (defScope sRR)) (by decide +kernel)) (fun _ _ _ _ _ => (pg_name (i := 16) scRR.nd rfl (Or.inl rfl))) (fun _ _ _ _ _ => pts_one (pt_cmpR op_notIn_seq (pv 16) (pe_ix ix_seq (pv 1) pe_int (fun _ _ => rfl)) (by rfl))) (fun _ _ _ _ _ => (pv 16))) (pe_lst (pa_cons (pe_callB call_len_seq rfl B.len PySem.boot_len (pa_cons (pe_ix ix_seq (pv 1) pe_int (fun _ _ => rfl)) pa_nil)) (pa_cons (pe_un un_neg pe_int) (pa_cons pe_non (pa_cons pe_str (pa_cons (pe_lst (pa_cons pe_int pa_nil)) (pa_cons pe_bl pa_nil)))))))))
      (pss_cons (ps_set (i := 8) scRR.nd rfl (Or.inl rfl) (pe_op op_cat (pe_op op_cat (pe_lc (own := [("_law_tie", 10)]) (g := gName 10) (tt := ttT K) rfl scRR.nd (pi_seq (pe_ix ix_seq (pv 1) pe_int (fun _ _ => rfl))) (blkOk_by (N := nRR) (sc := (defScope sRR)) (by decide +kernel)) (fun _ _ _ _ _ => (pg_name (i := 10) scRR.nd rfl (Or.inl rfl))) (fun _ _ _ _ _ => pts_one (pt_cmpR (op_notInG hu65) (pv 10) (pe_ix ix_seq (pv 1) pe_int (fun _ _ => rfl)) (by rfl))) (fun _ _ _ _ _ => (pv 10))) (pe_lst (pa_cons pe_non (pa_cons pe_int (pa_cons (pe_tup (pa_cons pe_int pa_nil)) (pa_cons (pe_tup (pa_cons pe_int (pa_cons pe_int (pa_cons pe_int pa_nil)))) (pa_cons (pe_lst (pa_cons (pe_lst (pa_cons pe_int (pa_cons pe_int pa_nil))) pa_nil)) (pa_cons pe_str (pa_cons (pe_tup (pa_cons pe_int (pa_cons pe_bl pa_nil))) (pa_cons (pe_lst (pa_cons pe_int (pa_cons pe_int pa_nil))) pa_nil)))))))))) (pe_lc (own := [("_law_tie", 10)]) (g := gName 10) (te := tRevP K (tVar 10)) rfl scRR.nd (pi_seq (pe_ix ix_seq (pv 1) pe_int (fun _ _ => rfl))) (blkOk_by (N := nRR) (sc := (defScope sRR)) (by decide +kernel)) (fun _ _ _ _ _ => (pg_name (i := 10) scRR.nd rfl (Or.inl rfl))) (fun _ _ _ _ _ => pts_nil) (fun _ _ _ _ _ => (pe_revP (pv 10))))))
      (pss_cons (ps_asg (pe_tup (pa_cons (pe_call GP hr (by rfl) P_.g P_.F.kp P_.b .nil pass0 (pa_cons (pv 0) (pa_cons (pv 7) pa_nil))) (pa_cons (pe_call GP hr (by rfl) P_.g P_.F.kp P_.b .nil pass0 (pa_cons (pv 0) (pa_cons (pv 8) pa_nil))) (pa_cons (pe_call GP hr (by rfl) P_.g P_.F.kp P_.b .nil pass0 (pa_cons (pv 0) (pa_cons (pe_lst (pa_cons (pv 5) (pa_cons (pe_un un_neg pe_int) (pa_cons (pe_op op_pow pe_int pe_int) pa_nil)))) pa_nil))) pa_nil)))) (pg_tup rfl (pgs_cons (pg_name (i := 9) scRR.nd rfl (Or.inr rfl)) (pgs_cons (pg_name (i := 10) scRR.nd rfl (Or.inr rfl)) (pgs_cons (pg_name (i := 11) scRR.nd rfl (Or.inr rfl)) pgs_nil)))))
      (pss_cons (ps_set (i := 12) scRR.nd rfl (Or.inr rfl) (pe_call GP hr (by rfl) P_.g P_.F.kp P_.b .nil pass0 (pa_cons (pv 0) (pa_cons (pe_lst (pa_cons pe_non (pa_cons pe_int (pa_cons pe_str (pa_cons (pe_lst (pa_cons pe_non pa_nil)) (pa_cons (pe_lst (pa_cons pe_bl pa_nil)) (pa_cons (pe_lst (pa_cons pe_str pa_nil)) (pa_cons (pe_lst (pa_cons (pe_lst (pa_cons pe_int pa_nil)) pa_nil)) (pa_cons (pe_disp (pps_cons pe_int pe_int pps_nil) (by rfl) (by rfl) (fun z => by cases z) (by decide)) pa_nil))))))))) pa_nil))))
      (pss_cons (ps_set (i := 13) scRR.nd rfl (Or.inl rfl) (pe_lst (pa_cons (pe_heard HK B HD rfl F.TB rfl hmT hq hrL (lamS_by (sc := defScope sRR) (by decide +kernel)) rfl (fun _ _ _ _ _ => rfl) (t := fun E => (tMake A.Bd.C (spBI S A.Y.C A.Bd.C) [] E (tCons (tCall (spPick K) [] E0 (tCons (tVar 0) (tCons (tLst (tCons (tC .non) (tCons (tC (.int 5)) (tCons (tCB (rSW A) (tCons (tVar 2) tNil)) (tCons (tVar 4) (tCons (tVar 1) tNil)))))) tNil))) (tCons (tVar 6) tNil)))) (fun A' outer s H E f c' hr9 => (pe_make A.Bd.M A.Bd.FI (hr9.mono (by omega)) rfl A.Bd.g A.Bd.bI .nil (passes_call (takes_of rfl rfl rfl rfl) (fun _ _ _ _ h => h)) (pa_cons (pe_call GP9 hr9 (by rfl) P_.g P_.F.kp P_.b .nil pass0 (pa_cons (pv 0) (pa_cons (pe_lst (pa_cons pe_non (pa_cons pe_int (pa_cons (pe_callTy (call_strO A.FV A.atV A.fnV A.bV pass0 (hr9.mono (by omega))) rfl B.str boot_str (pa_cons (pv 2) pa_nil)) (pa_cons (pv 4) (pa_cons (pv 1) pa_nil)))))) pa_nil))) (pa_cons (pv 6) pa_nil))))) pa_nil)))
      (pss_cons (ps_expr (pe_bm PySem.F.plainAttrs_list PySem.F.slot_list_append PySem.F.type_list_append mt_append (pv 13) (pa_cons (pe_heard HK B HD rfl F.TB rfl hmT hq hrL (lamS_by (sc := defScope sRR) (by decide +kernel)) rfl (fun _ _ _ _ _ => rfl) (t := fun E => (tMake A.Bd.C (spBI S A.Y.C A.Bd.C) [] E (tCons (tVar 2) (tCons (tVar 6) tNil)))) (fun A' outer s H E f c' hr9 => (pe_make A.Bd.M A.Bd.FI (hr9.mono (by omega)) rfl A.Bd.g A.Bd.bI .nil (passes_call (takes_of rfl rfl rfl rfl) (fun _ _ _ _ h => h)) (pa_cons (pv 2) (pa_cons (pv 6) pa_nil))))) pa_nil)))
      (pss_cons (ps_expr (pe_bm PySem.F.plainAttrs_list PySem.F.slot_list_append PySem.F.type_list_append mt_append (pv 13) (pa_cons (pe_heard HK B HD rfl F.TB rfl hmT hq hrL (lamS_by (sc := defScope sRR) (by decide +kernel)) rfl (fun _ _ _ _ _ => rfl) (t := fun E => (tMeth A.Bd.C "hand" (spHd S A.Y.C A.Bd.C) [] E (tVar 4) (tCons (tVar 9) tNil))) (fun A' outer s H E f c' hr9 => (pe_meth (pv 4) A.Bd.cls A.mH A.FH (hr9.mono (by omega)) A.bH .nil (passes_call (takes_of rfl rfl rfl rfl) (fun _ _ _ _ h => h)) (pa_cons (pv 9) pa_nil)))) pa_nil)))
      (pss_cons (ps_expr (pe_bm PySem.F.plainAttrs_list PySem.F.slot_list_append PySem.F.type_list_append mt_append (pv 13) (pa_cons (pe_heard HK B HD rfl F.TB rfl hmT hq hrL (lamS_by (sc := defScope sRR) (by decide +kernel)) rfl (fun _ _ _ _ _ => rfl) (t := fun E => (tMeth A.Bd.C "side" (spSd S A.Y.C A.Bd.C) [] E (tVar 4) (tCons (tVar 10) tNil))) (fun A' outer s H E f c' hr9 => (pe_meth (pv 4) A.Bd.cls A.mD A.FD (hr9.mono (by omega)) A.bD .nil (passes_call (takes_of rfl rfl rfl rfl) (fun _ _ _ _ h => h)) (pa_cons (pv 10) pa_nil)))) pa_nil)))
      (pss_cons (ps_expr (pe_bm PySem.F.plainAttrs_list PySem.F.slot_list_append PySem.F.type_list_append mt_append (pv 13) (pa_cons (pe_heard HK B HD rfl F.TB rfl hmT hq hrL (lamS_by (sc := defScope sRR) (by decide +kernel)) rfl (fun _ _ _ _ _ => rfl) (t := fun E => (tMeth A.Bd.C "turned" (spTn S A.Y.C A.Bd.C) [] E (tVar 4) (tCons (tVar 12) tNil))) (fun A' outer s H E f c' hr9 => (pe_meth (pv 4) A.Bd.cls A.mT A.FT (hr9.mono (by omega)) A.bT .nil (passes_call (takes_of rfl rfl rfl rfl) (fun _ _ _ _ h => h)) (pa_cons (pv 12) pa_nil)))) pa_nil)))
      (pss_cons (ps_expr (pe_bm PySem.F.plainAttrs_list PySem.F.slot_list_append PySem.F.type_list_append mt_append (pv 13) (pa_cons (pe_heard HK B HD rfl F.TB rfl hmT hq hrL (lamS_by (sc := defScope sRR) (by decide +kernel)) rfl (fun _ _ _ _ _ => rfl) (t := fun E => (tMeth A.Bd.C "turned" (spTn S A.Y.C A.Bd.C) [] E (tVar 4) (tCons (tLst (tCons (tVar 11) (tCons (tVar 11) tNil))) tNil))) (fun A' outer s H E f c' hr9 => (pe_meth (pv 4) A.Bd.cls A.mT A.FT (hr9.mono (by omega)) A.bT .nil (passes_call (takes_of rfl rfl rfl rfl) (fun _ _ _ _ h => h)) (pa_cons (pe_lst (pa_cons (pv 11) (pa_cons (pv 11) pa_nil))) pa_nil)))) pa_nil)))
      (pss_cons (ps_set (i := 14) scRR.nd rfl (Or.inl rfl) (pe_lst (pa_cons (pe_tup (pa_cons pe_str (pa_cons pe_str pa_nil))) (pa_cons (pe_tup (pa_cons pe_str (pa_cons pe_str pa_nil))) (pa_cons (pe_tup (pa_cons pe_str (pa_cons (pv 9) pa_nil))) (pa_cons (pe_tup (pa_cons pe_str (pa_cons (pv 10) pa_nil))) (pa_cons (pe_tup (pa_cons pe_str (pa_cons pe_str pa_nil))) (pa_cons (pe_tup (pa_cons pe_str (pa_cons (pv 11) pa_nil))) pa_nil))))))))
      (pss_cons (ps_if (pt_cmpR op_gt (pv 5) pe_int (nomark _)) (pss_cons (ps_set (i := 15) scRR.nd rfl (Or.inr rfl) (pe_call GD hr (by rfl) D_.g D_.F.kp D_.b .nil pass0 (pa_cons (pv 0) (pa_cons (pv 5) pa_nil))))
      (pss_cons (ps_expr (pe_bm PySem.F.plainAttrs_list PySem.F.slot_list_append PySem.F.type_list_append mt_append (pv 13) (pa_cons (pe_heard HK B HD rfl F.TB rfl hmT hq hrL (lamS_by (sc := defScope sRR) (by decide +kernel)) rfl (fun _ _ _ _ _ => rfl) (t := fun E => (tMeth A.Bd.C "turned" (spTn S A.Y.C A.Bd.C) [] E (tVar 4) (tCons (tLst (tCons (tVar 15) (tCons (tOp rModX (tCB rInt1 (tCons (tOp rAddX (tVar 15) (tC (.int 1))) tNil)) (tVar 5)) (tCons (tVar 15) (tCons (tVar 11) tNil))))) tNil))) (fun A' outer s H E f c' hr9 => (pe_meth (pv 4) A.Bd.cls A.mT A.FT (hr9.mono (by omega)) A.bT .nil (passes_call (takes_of rfl rfl rfl rfl) (fun _ _ _ _ h => h)) (pa_cons (pe_lst (pa_cons (pv 15) (pa_cons (pe_op op_mod (pe_callTy call_int1 rfl B.int boot_int (pa_cons (pe_op op_add (pv 15) pe_int) pa_nil)) (pv 5)) (pa_cons (pv 15) (pa_cons (pv 11) pa_nil))))) pa_nil)))) pa_nil)))
      (pss_cons (ps_expr (pe_bm PySem.F.plainAttrs_list PySem.F.slot_list_append PySem.F.type_list_append mt_append (pv 13) (pa_cons (pe_heard HK B HD rfl F.TB rfl hmT hq hrL (lamS_by (sc := defScope sRR) (by decide +kernel)) rfl (fun _ _ _ _ _ => rfl) (t := fun E => (tMeth A.Bd.C "turned" (spTn S A.Y.C A.Bd.C) [] E (tVar 4) (tCons (tTup (tCons (tVar 15) (tCons (tVar 15) tNil))) tNil))) (fun A' outer s H E f c' hr9 => (pe_meth (pv 4) A.Bd.cls A.mT A.FT (hr9.mono (by omega)) A.bT .nil (passes_call (takes_of rfl rfl rfl rfl) (fun _ _ _ _ h => h)) (pa_cons (pe_tup (pa_cons (pv 15) (pa_cons (pv 15) pa_nil))) pa_nil)))) pa_nil)))
      (pss_one (ps_set (i := 14) scRR.nd rfl (Or.inl rfl) (pe_op op_cat (pv 14) (pe_lst (pa_cons (pe_tup (pa_cons pe_str (pa_cons (pv 11) pa_nil))) (pa_cons (pe_tup (pa_cons pe_str (pa_cons (pv 15) pa_nil))) pa_nil))))))))) pss_nil)
      (pss_one (ps_ret (pe_cmpR (op_eqD hu) (pv 13) (pv 14) (nomark _)))))))))))))))))), ?_⟩
    have T' := M.wl.T
    have hsl : hs.length ≤ 1000 := M.w.1.hubs
    have ssl : ss.length ≤ 400 := M.w.1.stiff
    have h16 : hs.length ≤ 16 := by
      have := card_le (n := ks.length) T'.hn T'.hb
      have := T'.len
      omega
    have s31 : ss.length ≤ 31 := by
      have := nd_le T'.sn T'.si
      have := T'.tl
      omega
    have hl := M.len
    have hnM : sg.length = nM (webT ks ts hs ss) := hl
    -- the body
    refine q_as (t_op (a_op (mkb A.Y.Z (d := webT ks ts hs ss) (sg := sg) (fun Q2 q2 => a_op (v_op rfl (a_op (v_op rfl (n_op (q2 m (.ref g) H (Ex.refl H) M.w (sgv_lst hnM M.sgn (by omega) M.g))))))) fun c H1 e1 hB => ?_)))
    have M1 := M.up e1
    refine a_op (cb_op (a_op (v_op rfl (n_op ⟨g, _, rfl, .inl (sq_of M1.g), ?_⟩))))
    rw [List.length_map]
    refine n_op ⟨by show 2 ≤ sizeLine; decide, fun tp htp => ?_⟩
    refine ⟨tp, _, rfl, st_of upd_same, rfl, _, _, rfl, _, _, rfl, rfl, ?_⟩
    have e2 := Ex.new (o := HO.tup [.ref c, .int (sg.length : Int)]) htp
    have M2 := M1.up e2
    have hB2 := hB.up e2
    have eP2 := Ex.p (p := p) (e1.trans e2)
    have hT2 := (hT.ext e1).ext e2
    generalize upd H1 tp (.tup [.ref c, .int (sg.length : Int)]) = H2 at M2 hB2 eP2 hT2 ⊢
    clear e1 e2 hB M1 htp M hT
    -- what is no setting
    have rG : Rv H2 (.ref g) (.lst (sg.map .int)) := rv_lst M2.g (by omega)
    refine q_as (pick_op (xs := oddM sg) rfl M2.pen (by omega) (er_cons er_non (er_cons (er_int 5) (er_cons (er_cat (er_var rfl rG) (er_lst (er_cons (er_int 1) er_nil)) (by rw [List.length_map]; show _ + 1 ≤ _; omega)) (er_cons (er_repN (er_int 0) (er_max rfl) (by omega)) (er_cons (er_repN (er_bl true) (er_max rfl) (by omega)) (er_cons (er_mulS rfl (by decide) (by omega) (by rw [repS_len]; show _ * 1 ≤ _; omega)) (er_cons (er_repN er_non (er_add1 rfl) (by omega)) (er_cons (er_cat (xs := [.int 2]) (er_lst (er_cons (er_int 2) er_nil)) (er_var rfl rG) (by rw [List.length_map]; show 1 + _ ≤ _; omega)) (er_cons (er_dic (.inl 0) (.int 1)) er_nil))))))))) (List.cons_ne_nil _ _) (by show 9 ≤ 1000; decide) (oddM_np sg) fun v6 odd H3 ho e3 hp3 r6 => ?_)
    have no6 := noPens_mem (oddM_np sg) ho
    have hodd := oddM_no hnM odd ho
    have M3 := M2.upP e3 hp3
    have hB3 := hB2.upP M2.pen e3
    have hT3 := (keepT T).exp _ _ _ _ _ _ M2.pen e3 hT2
    have eP3 := eP2.trans e3
    clear M2 hB2 hT2 eP2 rG ho
    -- what is no hub
    have hT16 := T'.len
    have rgc := el_lcR1 (σ := [some (.ref p), some (.ref b), some (.ref m), some (.ref g), some (.ref c), some (.int (sg.length : Int)), some v6, none, none, none, none, none, none, none, none, none, none]) (H := H3) (ta := tCons (tCB (rLenS K) (tCons (tOp (rIx K) (tVar 1) (tC (.int 0))) tNil)) tNil) (te := tVar 16) (t := ttP K) (j := 16) (vs := [16]) (n := ((ks.map V.str).length : Int)) (fun i => !decide ((i : Int) ∈ hs)) (fun i => .int (i : Int)) (ea_cons (ev_len (j := 0) rfl M3.wl.hb rfl M3.wl.hk) ea_nil) (by rw [List.length_map]; omega) (fun _ => rfl)
      (fun i H1 e1 hi H2 e2 Q2 q2 => op_test (op_op (v_op rfl (wx (j := 2) rfl ((e1.trans e2) _ _ M3.wl.hb) rfl ⟨hA, _, rfl, .inl (sq_of ((e1.trans e2) _ _ M3.wl.hh)), rfl, flat_ints hs, ⟨_, rfl, by
        rw [inV_ints]
        exact q2 H2 (Ex.refl H2)⟩⟩)))) (fun i H1 e1 hi _ H2 e2 Q2 q2 => v_op rfl (q2 H2 (Ex.refl H2)))
    refine q_as (op_op (rgc H3 (Ex.refl _) _ fun D H4 hDn e4 hD => ?_))
    have M4 := M3.up e4
    refine er_lst (xs := plainW ((ks.map V.str).length : Int)) (er_cons (er_ev (ev_len (j := 0) rfl M4.wl.hb rfl M4.wl.hk)) (er_cons (er_neg 1) (er_cons er_non (er_cons (er_str "0") (er_cons (er_lst (er_cons (er_int 0) er_nil)) (er_cons (er_bl true) er_nil)))))) (by show 6 ≤ 1000; decide) H4 (Ex.refl _) _ fun v5 H5 e5 r5 => ?_
    have pl5 : ∀ x ∈ plainW ((ks.map V.str).length : Int), noPen x = true ∧ PlG hs x := fun x hx => by
      have h1 := plainW_ok (n := ((ks.map V.str).length : Int)) (hs := hs) (fun h hh => by have := T'.hb h hh; rw [List.length_map]; exact this) x hx
      exact ⟨h1.2.np, h1⟩
    obtain ⟨a5, ys5, rfl, ha5, ra5⟩ : ∃ a5 ys5, v5 = .ref a5 ∧ H5 a5 = some (.lst ys5) ∧ RvA H5 ys5 (plainW ((ks.map V.str).length : Int)) := by
      cases r5 with
      | lst h r _ => exact ⟨_, _, rfl, h, r⟩
    have g5 : AllG (PlG hs) H5 (given (((ks.map V.str).length : Int)).toNat (fun i => !decide ((i : Int) ∈ hs)) fun i => V.int (i : Int)) := fun v hv => by
      obtain ⟨i, _, hi, rfl⟩ := in_given hv
      refine ⟨.int (i : Int), .int _, rfl, ?_, sta_int _⟩
      show decide ((i : Int) ∈ hs) = false
      simpa using hi
    have l5 := len_rva ra5
    have gl5 := given_len (n := (((ks.map V.str).length : Int)).toNat) (f := fun i => !decide ((i : Int) ∈ hs)) (v := fun i => V.int (i : Int))
    rw [show (((ks.map V.str).length : Int)).toNat = ks.length from by rw [List.length_map]; omega] at gl5 g5 hD
    have l5 : ys5.length = 6 := l5
    refine ⟨D, a5, _, _, rfl, rfl, e5 _ _ hD, ha5, Nat.le_of_lt (sz_lt (by omega)), fun P6 hP6 => ?_⟩
    have gA : AllG (PlG hs) H5 _ := AllG.app g5 (AllG.of ra5 pl5)
    have hne : (given ks.length (fun i => !decide ((i : Int) ∈ hs)) fun i => V.int (i : Int)) ++ ys5 ≠ [] := fun z => by
      have := congrArg List.length z
      rw [List.length_append, l5] at this
      cases this
    have lA : ((given ks.length (fun i => !decide ((i : Int) ∈ hs)) fun i => V.int (i : Int)) ++ ys5).length ≤ 1000 := by
      rw [List.length_append]
      omega
    generalize (given ks.length (fun i => !decide ((i : Int) ∈ hs)) fun i => V.int (i : Int)) ++ ys5 = zsA at gA hne lA ⊢
    have hPp := (pen_ne (M4.up e5).pen hP6).1
    have e6 := Ex.new (o := HO.lst zsA) hP6
    have hA6 : (upd H5 P6 (.lst zsA)) P6 = some (.lst zsA) := upd_same
    have gA6 := gA.up e6
    have e36 := (e4.trans e5).trans e6
    have M6 := M3.up e36
    have hB6 := hB3.up e36
    have hT6 := hT3.ext e36
    have eP6 := eP3.trans (Ex.p e36)
    have r66 := r6.up e36
    generalize upd H5 P6 (.lst zsA) = H6 at hA6 gA6 M6 hB6 hT6 eP6 r66 ⊢
    clear rgc hDn hD M4 r5 pl5 ra5 ha5 g5 l5 gl5 gA e4 e5 e6 e36 hP6 M3 hB3 hT3 eP3 r6
    -- what is no stiff tie
    have hyl : tys.length = ts.length := Paired.length M6.wl.pt
    have hsl2 : sys.length = ss.length := Paired.length M6.wl.ps
    have t31 := T'.tl
    refine q_as (op_op (op_op (lcS (wx (j := 1) rfl M6.wl.hb rfl ⟨tA, rfl, .inl ⟨_, sq_of M6.wl.ht, lj_cw (fun i => !decide (ts.getD i (0, 0) ∈ ss)) (fun i => tys.getD i .non) M6.wl.ht (by omega) (fun _ => rfl) (fun i x H7 e7 hx H8 e8 Q2 q2 => ?_) (fun i x H7 e7 hx _ H8 e8 Q2 q2 => ?_) fun D H7 hDn e7 hD => ?_⟩⟩))))
    · obtain ⟨s, hs2, tt, rfl, htt⟩ := pget M6.wl.pt hx
      rw [getD_at hs2] at q2
      have e78 := e7.trans e8
      refine op_test (op_op (v_op rfl (wx (j := 3) rfl (e78 _ _ M6.wl.hb) rfl ⟨pqD s, ss.map pqD, 1, 2, KX.GD.tup (n := 0) (st_of (e78 _ _ htt)) (.cons (.int _) (.cons (.int _) .nil)), .inl (KX.GD.lst (n := 1) (sq_of (e78 _ _ M6.wl.hz)) (gd_pairs (prs_up e78 M6.wl.ps))), by omega, by omega, _, rfl, ?_⟩)))
      rw [if_pos rfl]
      by_cases hm : s ∈ ss
      · rw [any_yes pqD eqv_pair hm]
        rw [decide_eq_true hm] at q2
        exact q2 _ (Ex.refl _)
      · rw [any_no pqD eqv_pair hm]
        rw [decide_eq_false hm] at q2
        exact q2 _ (Ex.refl _)
    · rw [getD_at hx] at q2
      exact v_op rfl (q2 _ (Ex.refl _))
    have g7 : AllG (LoG ss) H7 (given tys.length (fun i => !decide (ts.getD i (0, 0) ∈ ss)) fun i => tys.getD i .non) := fun v hv => by
      obtain ⟨i, hi, hf, rfl⟩ := in_given hv
      obtain ⟨s, hs2, tt, hxx, htt⟩ := pget M6.wl.pt (List.getElem?_eq_getElem hi)
      rw [getD_at hs2] at hf
      have hns : s ∉ ss := by simpa using hf
      rw [show tys.getD i .non = .ref tt from by rw [getD_at (List.getElem?_eq_getElem hi), hxx]]
      exact ⟨.tup [.int s.1, .int s.2], rv_tup (l := [s.1, s.2]) (.inl (e7 _ _ htt)) (by show 2 ≤ 1000; decide), rfl, tieB_two (a := s.1) (b := s.2) rfl hns, sta_pair _ _⟩
    have gl7 := given_len (n := tys.length) (f := fun i => !decide (ts.getD i (0, 0) ∈ ss)) (v := fun i => tys.getD i .non)
    generalize (given tys.length (fun i => !decide (ts.getD i (0, 0) ∈ ss)) fun i => tys.getD i .non) = zs1 at g7 gl7 hD
    refine er_lst (xs := looseW) (er_cons er_non (er_cons (er_int 5) (er_cons (er_tup (er_cons (er_int 0) er_nil)) (er_cons (er_tup (er_cons (er_int 0) (er_cons (er_int 1) (er_cons (er_int 2) er_nil)))) (er_cons (er_lst (er_cons (er_lst (er_cons (er_int 0) (er_cons (er_int 1) er_nil))) er_nil)) (er_cons (er_str "01") (er_cons (er_tup (er_cons (er_int 0) (er_cons (er_bl true) er_nil))) (er_cons (er_lst (er_cons (er_int 0) (er_cons (er_int 0) er_nil))) er_nil)))))))) (by show 8 ≤ 1000; decide) H7 (Ex.refl _) _ fun v8 H8 e8 r8 => ?_
    have lo8 : ∀ x ∈ looseW, noPen x = true ∧ LoG ss x := fun x hx => by
      have h1 := looseW_ok (ss := ss) (fun s hs2 => (T'.tb s (T'.si s hs2)).2.1) x hx
      exact ⟨h1.2.np, h1⟩
    obtain ⟨a8, ys8, rfl, ha8, ra8⟩ : ∃ a8 ys8, v8 = .ref a8 ∧ H8 a8 = some (.lst ys8) ∧ RvA H8 ys8 looseW := by
      cases r8 with
      | lst h r _ => exact ⟨_, _, rfl, h, r⟩
    have l8 : ys8.length = 8 := len_rva ra8
    refine ⟨D, a8, _, _, rfl, rfl, e8 _ _ hD, ha8, Nat.le_of_lt (sz_lt (by omega)), fun P9 hP9 => ?_⟩
    have gB : AllG (LoG ss) H8 (zs1 ++ ys8) := AllG.app (g7.up e8) (AllG.of ra8 lo8)
    have e9 := Ex.new (o := HO.lst (zs1 ++ ys8)) hP9
    have hB9 : (upd H8 P9 (.lst (zs1 ++ ys8))) P9 = some (.lst (zs1 ++ ys8)) := upd_same
    have gB9 := gB.up e9
    have e69 := (e7.trans e8).trans e9
    generalize upd H8 P9 (.lst (zs1 ++ ys8)) = H9 at hB9 gB9 e69 e9 ⊢
    have M9 := M6.up e69
    have rev := eo_lcSq (K := K) (σ := [some (.ref p), some (.ref b), some (.ref m), some (.ref g), some (.ref c), some (.int (sg.length : Int)), some v6, some (.ref P6), none, none, none, none, none, none, none, none, none]) (H := H9) (G := fun o (s : Int × Int) => o = .tup [.int s.2, .int s.1]) (a := sA) (xs := sys) (tl := tOp (rIx K) (tVar 1) (tC (.int 3))) (te := tRevP K (tVar 10)) (j := 10) (vs := [10]) ss hsl2 (fun H' e' Q q => wx (j := 3) rfl (e' _ _ M9.wl.hb) rfl (q H' (Ex.refl _))) (.inl (sq_of M9.wl.hz)) (by omega) (fun _ => rfl)
      (fun i x s H' e' hx hs2 H2 e2 Q q => by
        obtain ⟨s', hs3, tt, rfl, htt⟩ := pget M9.wl.ps hx
        rw [hs2] at hs3
        cases hs3
        exact ⟨_, rfl, tt, _, _, rfl, st_of ((e'.trans e2) _ _ htt), fun p2 hp2 => q p2 _ _ hp2 (Ex.new hp2) upd_same rfl⟩)
    refine rev H9 (Ex.refl _) _ fun D2 zs2 H10 hD2n e10 hD2 hP2 => ?_
    have g10 : AllG (LoG ss) H10 zs2 := fun v hv => by
      obtain ⟨i, hi⟩ := List.getElem?_of_mem hv
      obtain ⟨s, hs2, a, o, rfl, ha, rfl⟩ := pget hP2 hi
      have hsm := List.mem_of_getElem? hs2
      refine ⟨.tup [.int s.2, .int s.1], rv_tup (l := [s.2, s.1]) (.inl ha) (by show 2 ≤ 1000; decide), rfl, tieB_two (a := s.2) (b := s.1) rfl fun z => ?_, sta_pair _ _⟩
      have h1 := (T'.tb _ (T'.si _ z)).2.1
      have h2 := (T'.tb _ (T'.si _ hsm)).2.1
      omega
    have l10 : zs2.length = ss.length := Paired.length hP2
    refine ⟨P9, D2, _, _, rfl, rfl, e10 _ _ hB9, hD2, Nat.le_of_lt (sz_lt (by rw [List.length_append]; omega)), fun P11 hP11 => ?_⟩
    have gL := AllG.app (gB9.up e10) g10
    have hneL : zs1 ++ ys8 ++ zs2 ≠ [] := fun z => by
      have := congrArg List.length z
      rw [List.length_append, List.length_append, l8] at this
      simp at this
    have lL : (zs1 ++ ys8 ++ zs2).length ≤ 1000 := by
      rw [List.length_append, List.length_append]
      omega
    generalize zs1 ++ ys8 ++ zs2 = zsL at gL hneL lL ⊢
    have hQp := (pen_ne (M9.up e10).pen hP11).1
    have e11 := Ex.new (o := HO.lst zsL) hP11
    have hL11 : (upd H10 P11 (.lst zsL)) P11 = some (.lst zsL) := upd_same
    have e611 := (e69.trans e10).trans e11
    have gL11 := gL.up e11
    have gA11 := gA6.up e611
    have hA11 := e611 _ _ hA6
    have M11 := M6.up e611
    have hB11 := hB6.up e611
    have hT11 := hT6.ext e611
    have eP11 := eP6.trans (Ex.p e611)
    have r11 := r66.up e611
    generalize upd H10 P11 (.lst zsL) = H11 at hL11 gL11 gA11 hA11 M11 hB11 hT11 eP11 r11 ⊢
    clear rev hDn hD r8 ra8 ha8 l8 gB e9 hB9 gB9 e69 M9 hD2n e10 hD2 hP2 g10 l10 gL hP11 e11 e611 g7 gl7 e7 e8 lo8 hA6 gA6 M6 hB6 hT6 eP6 r66 hP9
    -- three drawn
    refine q_as (t_op (a_op (pickG_op (G := PlG hs) rfl rfl M11.pen (by omega) hA11 hPp hne lA gA11 fun v9 hub H12 hG9 e12 hp12 r9 => ?_)))
    have M12 := M11.upP e12 hp12
    have gL12 := gL11.upP M11.pen e12
    have hL12 := e12 _ _ hQp hL11
    have r12 := r11.upPn M11.pen e12 no6
    have hB12 := hB11.upP M11.pen e12
    have hT12 := (keepT T).exp _ _ _ _ _ _ M11.pen e12 hT11
    refine a_op (pickG_op (G := LoG ss) rfl rfl hp12 (by omega) hL12 hQp hneL lL gL12 fun v10 tie H13 hG10 e13 hp13 r10 => ?_)
    have M13 := M12.upP e13 hp13
    have r13 := r12.upPn hp12 e13 no6
    have r9b := r9.upPn hp12 e13 hG9.2.np
    have hB13 := hB12.upP hp12 e13
    have hT13 := (keepT T).exp _ _ _ _ _ _ hp12 e13 hT12
    refine a_op (pick_op (xs := [.int (sg.length : Int), .int (-1), .int 100000000000000000000]) rfl hp13 (by omega) (er_cons (er_var rfl (.int _)) (er_cons (er_neg 1) (er_cons er_pow er_nil))) (List.cons_ne_nil _ _) (by show 3 ≤ 1000; decide) rfl fun v11 far H14 hf e14 hp14 r14 => ?_)
    obtain ⟨f, rfl, hfar⟩ : ∃ f : Int, far = .int f ∧ ¬ (0 ≤ f ∧ f < (sg.length : Int)) := by
      simp only [List.mem_cons, List.mem_singleton, List.not_mem_nil, or_false] at hf
      rcases hf with rfl | rfl | rfl
      · exact ⟨_, rfl, by omega⟩
      · exact ⟨_, rfl, by omega⟩
      · exact ⟨_, rfl, by omega⟩
    cases r14
    have M14 := M13.upP e14 hp14
    have r614 := r13.upPn hp13 e14 no6
    have r914 := r9b.upPn hp13 e14 hG9.2.np
    have r1014 := r10.upPn hp13 e14 hG10.2.np
    have hB14 := hB13.upP hp13 e14
    have hT14 := (keepT T).exp _ _ _ _ _ _ hp13 e14 hT13
    have eP14 := ((eP11.trans e12).trans e13).trans e14
    refine n_op ⟨by show 3 ≤ sizeLine; decide, fun tp htp => ?_⟩
    refine ⟨tp, _, rfl, st_of upd_same, rfl, _, _, rfl, _, _, rfl, _, _, rfl, rfl, ?_⟩
    have e15 := Ex.new (o := HO.tup [v9, v10, .int f]) htp
    have M15 := M14.up e15
    have r615 := r614.up e15
    have r915 := r914.up e15
    have r1015 := r1014.up e15
    have hB15 := hB14.up e15
    have hT15 := hT14.ext e15
    have eP15 := eP14.trans (Ex.p e15)
    generalize upd H14 tp (.tup [v9, v10, .int f]) = H15 at M15 r615 r915 r1015 hB15 hT15 eP15 ⊢
    clear M11 M12 M13 M14 gL11 gL12 gA11 hL11 hL12 hA11 r11 r12 r13 r614 r9 r9b r914 r10 r1014 hB11 hB12 hB13 hB14 hT11 hT12 hT13 hT14 eP11 e12 e13 e14 eP14 hp12 hp13 hp14 htp e15 hneL lL hne lA hf
    -- what is no lot
    refine q_as (pick_op (xs := badM) rfl M15.pen (by omega) (er_cons er_non (er_cons (er_int 5) (er_cons (er_str "0") (er_cons (er_lst (er_cons er_non er_nil)) (er_cons (er_lst (er_cons (er_bl true) er_nil)) (er_cons (er_lst (er_cons (er_str "0") er_nil)) (er_cons (er_lst (er_cons (er_lst (er_cons (er_int 0) er_nil)) er_nil)) (er_cons (er_dic (.inl 0) (.int 1)) er_nil)))))))) (List.cons_ne_nil _ _) (by show 8 ≤ 1000; decide) rfl fun v12 bad H16 hb e16 hp16 r12 => ?_)
    refine gn_op (σ' := [some (.ref p), some (.ref b), some (.ref m), some (.ref g), some (.ref c), some (.int (sg.length : Int)), some v6, some (.ref P6), some (.ref P11), some v9, some v10, some (.int f), some v12, none, none, none, none]) rfl ?_
    have hbad : isNums bad = false := by
      have := List.all_eq_true.mp badM_no bad hb
      simpa using this
    have nb : noPen bad = true := noPens_mem (xs := badM) rfl hb
    have M16 := M15.upP e16 hp16
    have r6 := r615.upPn M15.pen e16 no6
    have r9 := r915.upPn M15.pen e16 hG9.2.np
    have r10 := r1015.upPn M15.pen e16 hG10.2.np
    have hB16 := hB15.upP M15.pen e16
    have hT16 := (keepT T).exp _ _ _ _ _ _ M15.pen e16 hT15
    have eP16 := eP15.trans e16
    clear M15 r615 r915 r1015 hB15 hT15 eP15 e16 hb
    -- all that lies ready, later on
    have cr : ∀ (H1 : Hp) (n' : Int), ExN p H16 H1 → Pen H1 p l ns n' → MC A p l ns b kA tA hA sA tys sys ks ts hs ss m g sg n' H1 ∧ BodH A.Y.C A.Bd.C H1 c ⟨webT ks ts hs ss, sg⟩ ∧ Rv H1 v6 odd ∧ Rv H1 v9 hub ∧ Rv H1 v10 tie ∧ Rv H1 v12 bad := fun H1 n' e hp => by
      obtain ⟨Hm, em, ep⟩ := exn_two e
      have Mm : MC A p l ns b kA tA hA sA tys sys ks ts hs ss m g sg _ Hm := ⟨M16.pen.upN em, M16.wl.upN em, M16.w.upN em, M16.gp, xl em M16.g, M16.len, M16.sgn⟩
      exact ⟨Mm.upP ep hp, (hB16.upN em).upP Mm.pen ep, (r6.upN em).upPn Mm.pen ep no6, (r9.upN em).upPn Mm.pen ep hG9.2.np, (r10.upN em).upPn Mm.pen ep hG10.2.np, (r12.upN em).upPn Mm.pen ep nb⟩
    have tW : ∀ tt ∈ (["NoneType", "int", "str"] : List String), PySem.W.kitOne K (.type tt) (.ref A.Y.C) = some false := A.tW
    refine q_as (l_op (a_op (hearP hT16 M16.pen (.web "web") (fun H1 e1 E Q' hz => ?_) fun v H17 e17 hp17 hT17 h17 => n_op ⟨by show 1 ≤ sizeLine; decide, fun L hL => ?_⟩)))
    · obtain ⟨M1, hB1, r61, _⟩ := cr H1 _ (extn_p e1) (M16.pen.upN e1)
      obtain ⟨dx, fs, ha⟩ := webH_C M1.w
      refine m_op (a_op (c_op (a_op (v_op rfl (a_op (l_op (a_op (k_op (a_op (k_op (a_op (cb_op (a_op (v_op rfl (n_op ⟨m, dx, fs, rfl, ha, m, ks, ts, hs, ss, rfl, M1.w, T', fun z H2 e2 => ⟨z, rfl, ?_⟩⟩)))))))))))))))
      refine a_op (v_op rfl (a_op (v_op rfl (n_op ⟨by show 5 ≤ sizeLine; decide, fun S2 hS => ?_⟩))))
      have e3 := Ex.new (o := HO.lst [.non, .int 5, .str z, .ref c, .ref b]) hS
      have hp3 := (M1.pen.up e2).up e3
      refine n_op ⟨p, S2, l, ns, _, _, rfl, hp3, by omega, sq_of upd_same, (pen_ne (M1.pen.up e2) hS).1, List.cons_ne_nil _ _, by show 5 ≤ 1000; decide, fun x H4 hx e4 hp4 => a_op (v_op rfl (n_op fun x9 dx9 hx9 hdx9 _ => ?_))⟩
      have M4 := ((M1.up e2).up e3).upP e4 hp4
      have hB4 := ((hB1.up e2).up e3).upP hp3 e4
      refine ⟨x9, dx9, H4, x, v6, false, rfl, rfl, hx9, hdx9, ?_, by rw [if_neg Bool.false_ne_true]; exact hz H4 ((Ex.p (e2.trans e3)).trans e4) hp4⟩
      simp only [List.mem_cons, List.mem_singleton, List.not_mem_nil, or_false] at hx
      rcases hx with rfl | rfl | rfl | rfl | rfl
      · exact ⟨_, fun H' e => (Kd.non).ty, tW _ (by simp)⟩
      · exact ⟨_, fun H' e => (Kd.int 5).ty, tW _ (by simp)⟩
      · exact str_is (tW _ (by simp))
      · exact body_isO A.ZB hB4 A.bW
      · exact ⟨_, fun H' e => (Kd.lst b _ (e _ _ M4.wl.hb)).ty, A.Y.Z.lst⟩
    have kp0 : ∀ (r : Er) (x : Va), (∀ y, r ≠ .mark y ∧ r ≠ .twice y) → (some r = some (.mark x) ∨ some r = some (.twice x)) → noPen x = true := fun r x h z => by
      rcases z with z | z
      · exact absurd (Option.some.inj z) (h x).1
      · exact absurd (Option.some.inj z) (h x).2
    have kpm : ∀ (y x : Va), noPen y = true → (some (Er.mark y) = some (.mark x) ∨ some (Er.mark y) = some (.twice x)) → noPen x = true := fun y x h z => by
      rcases z with z | z
      · cases z; exact h
      · cases z
    have kpt : ∀ (y x : Va), noPen y = true → (some (Er.twice y) = some (.mark x) ∨ some (Er.twice y) = some (.twice x)) → noPen x = true := fun y x h z => by
      rcases z with z | z
      · cases z
      · cases z; exact h
    refine gn_op (σ' := [some (.ref p), some (.ref b), some (.ref m), some (.ref g), some (.ref c), some (.int (sg.length : Int)), some v6, some (.ref P6), some (.ref P11), some v9, some v10, some (.int f), some v12, some (.ref L), none, none, none]) rfl ?_
    have L1 := lisP_start (r := some (.web "web")) e17 hp17 hT17 h17 rfl (fun x => kp0 _ x fun y => ⟨nofun, nofun⟩) hL
    generalize upd H17 L (.lst [v]) = H18 at L1 ⊢
    clear e17 hp17 hT17 h17 hL hT16
    have hnMz : (sg.length : Int) = (nM (webT ks ts hs ss) : Int) := by rw [hnM]
    refine q_ex (lisP_ap L1 (.body "setting") rfl rfl (fun x => kp0 _ x fun y => ⟨nofun, nofun⟩) (by show 1 < 1000; decide) (fun H1 e1 hp1 E Q' hz => ?_) fun H19 L2 => ?_)
    · obtain ⟨M1, hB1, r61, _⟩ := cr H1 _ e1 hp1
      refine m_op (a_op (v_op rfl (a_op (v_op rfl (n_op fun x dx hx hdx _ => ?_)))))
      exact ⟨x, dx, H1, .ref m, v6, true, rfl, rfl, hx, hdx, web_is A.Y.Z M1.w, by rw [if_pos rfl]; exact ⟨m, _, odd, rfl, M1.w, r61, by rw [hodd, if_neg Bool.false_ne_true]; exact hz⟩⟩
    refine q_ex (lisP_ap L2 (.mark hub) rfl hG9.2.nt (fun x => kpm _ x hG9.2.np) (by show 2 < 1000; decide) (fun H1 e1 hp1 E Q' hz => ?_) fun H20 L3 => ?_)
    · obtain ⟨M1, hB1, r61, r91, r101, r121⟩ := cr H1 _ e1 hp1
      obtain ⟨dx, fs, ha, hf⟩ := mt_body (m := "hand") hB1 (fun _ _ => rfl)
      exact mt_op (v_op rfl ⟨c, dx, fs, rfl, ha, hf, a_op (v_op rfl (n_op ⟨c, _, v9, hub, rfl, hB1, r91, .inl ⟨hG9.1, hz⟩⟩))⟩)
    refine q_ex (lisP_ap L3 (.mark tie) rfl hG10.2.nt (fun x => kpm _ x hG10.2.np) (by show 3 < 1000; decide) (fun H1 e1 hp1 E Q' hz => ?_) fun H21 L4 => ?_)
    · obtain ⟨M1, hB1, r61, r91, r101, r121⟩ := cr H1 _ e1 hp1
      obtain ⟨dx, fs, ha, hf⟩ := mt_body (m := "side") hB1 (fun _ _ => rfl)
      exact mt_op (v_op rfl ⟨c, dx, fs, rfl, ha, hf, a_op (v_op rfl (n_op ⟨c, _, v10, tie, rfl, hB1, r101, .inl ⟨hG10.1, hz⟩⟩))⟩)
    refine q_ex (lisP_ap L4 (.lot "lot") rfl rfl (fun x => kp0 _ x fun y => ⟨nofun, nofun⟩) (by show 4 < 1000; decide) (fun H1 e1 hp1 E Q' hz => ?_) fun H22 L5 => ?_)
    · obtain ⟨M1, hB1, r61, r91, r101, r121⟩ := cr H1 _ e1 hp1
      obtain ⟨dx, fs, ha, hf⟩ := mt_body (m := "turned") hB1 (fun _ _ => rfl)
      exact mt_op (v_op rfl ⟨c, dx, fs, rfl, ha, hf, a_op (v_op rfl (n_op ⟨c, _, v12, bad, rfl, hB1, r121, by rw [lotM_no hbad]; exact hz⟩))⟩)
    refine q_ex (lisP_ap L5 (.mark (.int f)) rfl rfl (fun x => kpm _ x rfl) (by show 5 < 1000; decide) (fun H1 e1 hp1 E Q' hz => ?_) fun H23 L6 => ?_)
    · obtain ⟨M1, hB1, r61, r91, r101, r121⟩ := cr H1 _ e1 hp1
      obtain ⟨dx, fs, ha, hf⟩ := mt_body (m := "turned") hB1 (fun _ _ => rfl)
      refine mt_op (v_op rfl ⟨c, dx, fs, rfl, ha, hf, a_op (l_op (a_op (v_op rfl (a_op (v_op rfl (n_op ⟨by show 2 ≤ sizeLine; decide, fun S2 hS => n_op ?_⟩))))))⟩)
      refine ⟨c, _, .ref S2, .lst ([f, f].map .int), rfl, hB1.up (Ex.new hS), rv_lst (l := [f, f]) upd_same (by show 2 ≤ 1000; decide), ?_⟩
      rw [lotM_far (ms := []) (rest := [f]) rfl (fun _ z => absurd z List.not_mem_nil) (by rw [← hnMz]; exact hfar)]
      exact hz.up (Ex.new hS)
    -- what is due
    clear L1 L2 L3 L4 L5
    obtain ⟨M23, hB23, _, r923, r1023, _⟩ := cr H23 _ L6.e L6.pen
    refine q_as (eh_lstN (rs := [some (.web "web"), some (.body "setting"), some (.mark hub), some (.mark tie), some (.lot "lot"), some (.mark (.int f))]) (eh_cons (eh_web "web") (eh_cons (eh_body "setting") (eh_cons (eh_mark (er_var rfl r923)) (eh_cons (eh_mark (er_var rfl r1023)) (eh_cons (eh_lot "lot") (eh_cons (eh_mark (er_var rfl (.int f))) eh_nil)))))) (by show 6 ≤ 1000; decide) fun dA ys H24 hdn e24 hdA hdP => ?_)
    have hdp := (pen_ne L6.pen hdn).1
    have hdL : dA ≠ L := fun z => by
      obtain ⟨xs, hx, _⟩ := L6.l
      rw [← z, hdn] at hx
      cases hx
    have L7 := L6.ext e24
    have fin : ∀ (H' : Hp) (n' : Int) (rs : List (Option Er)) (d : Addr) (zs : List V), LisP T p l ns H16 L rs n' H' → H' d = some (.lst zs) → Paired (Hrd H') zs rs → (∀ r ∈ rs, OkR r) → n ≤ n' → n' ≤ n + 1000 → rEqD K (.ref L) (.ref d) H' Q := fun H' n' rs d zs L9 hd hP ok b1 b2 => by
      obtain ⟨xs, hx, hxp, _⟩ := L9.l
      exact eq_hrds hx hd hxp hP ok (q n' H' ((ExN.of eP16).trans L9.e) L9.t L9.pen b1 b2)
    have ok6 : ∀ r ∈ ([some (.web "web"), some (.body "setting"), some (.mark hub), some (.mark tie), some (.lot "lot"), some (.mark (.int f))] : List (Option Er)), OkR r := fun r hr => by
      simp only [List.mem_cons, List.mem_singleton, List.not_mem_nil, or_false] at hr
      rcases hr with rfl | rfl | rfl | rfl | rfl | rfl
      · show (PyData.str "web").canLay0 = true; decide +kernel
      · show (PyData.str "setting").canLay0 = true; decide +kernel
      · exact hG9.2.gv
      · exact hG10.2.gv
      · show (PyData.str "lot").canLay0 = true; decide +kernel
      · exact GV.int f
    have kd6 : ([some (.web "web"), some (.body "setting"), some (.mark hub), some (.mark tie), some (.lot "lot"), some (.mark (.int f))] : List (Option Er)).all okT = true := by
      simp only [List.all_cons, List.all_nil, okT, hG9.2.nt, hG10.2.nt, Bool.and_true, Bool.true_and]
      rfl
    refine q_if0 (op_test (op_op (v_op rfl (k_op ⟨_, _, rfl, rfl, _, rfl, ?_⟩))))
    by_cases h0 : 0 < sg.length
    · rw [decide_eq_true (show (0 : Int) < (sg.length : Int) by omega)]
      refine iteT (q_as (c_op (a_op (v_op rfl (a_op (v_op rfl (n_op ⟨p, l, ns, _, _, rfl, L7.pen, by omega, by omega, by omega, fun v15 H25 v0 v1 e25 hp25 => ?_⟩)))))))
      have L8 := L7.draw e25 hp25
      have hdA8 := e25 _ _ hdp hdA
      have hdP8 := hrds_upP L7.pen e25 L7.kp hdP
      have hm0 := Int.emod_nonneg (v15 + 1) (show (sg.length : Int) ≠ 0 by omega)
      have hm1 := Int.emod_lt_of_pos (v15 + 1) (show (0 : Int) < (sg.length : Int) by omega)
      refine q_ex (lisP_apD L8 (.mark (.int f)) rfl rfl (fun x => kpm _ x rfl) (by show 6 < 1000; decide) hdL hdA8 hdP8 kd6 (fun H1 e1 hp1 E Q' hz => ?_) fun H26 L9 hdA9 hdP9 => ?_)
      · obtain ⟨M1, hB1, r61, r91, r101, r121⟩ := cr H1 _ e1 hp1
        obtain ⟨dx, fs, ha, hf⟩ := mt_body (m := "turned") hB1 (fun _ _ => rfl)
        refine mt_op (v_op rfl ⟨c, dx, fs, rfl, ha, hf, a_op (l_op (a_op (v_op rfl (a_op (op_op (cb_op (a_op (op_op (v_op rfl (k_op ⟨_, _, rfl, rfl, n_op (.inl ⟨_, rfl, v_op rfl ⟨_, _, rfl, rfl, by omega, a_op (v_op rfl (a_op (v_op rfl (n_op ⟨by show 4 ≤ sizeLine; decide, fun S2 hS => n_op ?_⟩))))⟩⟩)⟩))))))))))⟩)
        refine ⟨c, _, .ref S2, .lst ([v15, (v15 + 1) % (sg.length : Int), v15, f].map .int), rfl, hB1.up (Ex.new hS), rv_lst (l := [v15, (v15 + 1) % (sg.length : Int), v15, f]) upd_same (by show 4 ≤ 1000; decide), ?_⟩
        rw [lotM_far (ms := [v15, (v15 + 1) % (sg.length : Int), v15]) (rest := []) rfl (fun x hx => by
          rw [← hnMz]
          simp only [List.mem_cons, List.mem_singleton, List.not_mem_nil, or_false] at hx
          rcases hx with rfl | rfl | rfl
          · exact ⟨v0, v1⟩
          · exact ⟨hm0, hm1⟩
          · exact ⟨v0, v1⟩) (by rw [← hnMz]; exact hfar)]
        exact hz.up (Ex.new hS)
      refine q_ex (lisP_apD L9 (.twice (.int v15)) rfl rfl (fun x => kpt _ x rfl) (by show 7 < 1000; decide) hdL hdA9 hdP9 kd6 (fun H1 e1 hp1 E Q' hz => ?_) fun H27 L10 hdA10 hdP10 => ?_)
      · obtain ⟨M1, hB1, r61, r91, r101, r121⟩ := cr H1 _ e1 hp1
        obtain ⟨dx, fs, ha, hf⟩ := mt_body (m := "turned") hB1 (fun _ _ => rfl)
        refine mt_op (v_op rfl ⟨c, dx, fs, rfl, ha, hf, a_op (t_op (a_op (v_op rfl (a_op (v_op rfl (n_op ⟨by show 2 ≤ sizeLine; decide, fun S2 hS => n_op ?_⟩))))))⟩)
        refine ⟨c, _, .ref S2, .tup ([v15, v15].map .int), rfl, hB1.up (Ex.new hS), rv_tup (l := [v15, v15]) (.inl upd_same) (by show 2 ≤ 1000; decide), ?_⟩
        rw [lotM_twice rfl (by rw [← hnMz]; exact ⟨v0, v1⟩)]
        exact hz.up (Ex.new hS)
      refine s_as (op_op (v_op rfl (eh_lstN (rs := [some (.mark (.int f)), some (.twice (.int v15))]) (eh_cons (eh_mark (er_var rfl (.int f))) (eh_cons (eh_twice (er_var rfl (.int v15))) eh_nil)) (by show 2 ≤ 1000; decide) fun d2 ys2 H28 hd2n e28 hd2 hP2 => ⟨dA, d2, ys, ys2, rfl, rfl, e28 _ _ hdA10, hd2, Nat.le_of_lt (sz_lt (by rw [Paired.length hdP10, Paired.length hP2]; show 6 + 2 < _; omega)), fun d3 hd3 => ?_⟩)))
      have e29 := Ex.new (o := HO.lst (ys ++ ys2)) hd3
      have hP8 : Paired (Hrd (upd H28 d3 (.lst (ys ++ ys2)))) (ys ++ ys2) ([some (.web "web"), some (.body "setting"), some (.mark hub), some (.mark tie), some (.lot "lot"), some (.mark (.int f))] ++ [some (.mark (.int f)), some (.twice (.int v15))]) := pa_app (L2.Paired.mapP hdP10 fun _ _ r => Hrd.up (e28.trans e29) r) (L2.Paired.mapP hP2 fun _ _ r => Hrd.up e29 r)
      have L8' : LisP T p l ns H16 L ([some (.web "web"), some (.body "setting"), some (.mark hub), some (.mark tie), some (.lot "lot"), some (.mark (.int f))] ++ [some (.mark (.int f)), some (.twice (.int v15))]) _ (upd H28 d3 (.lst (ys ++ ys2))) := L10.ext (e28.trans e29)
      refine nx_op2 (s_re (op_op (v_op rfl (v_op rfl (fin _ _ _ d3 _ L8' upd_same hP8 (fun r hr => ?_) (by omega) (by omega))))))
      rcases List.mem_append.mp hr with hr | hr
      · exact ok6 r hr
      · simp only [List.mem_cons, List.mem_singleton, List.not_mem_nil, or_false] at hr
        rcases hr with rfl | rfl
        · exact GV.int f
        · exact GV.int v15
    · rw [decide_eq_false (show ¬ (0 : Int) < (sg.length : Int) by omega)]
      exact iteF (nx_op (s_re (op_op (v_op rfl (v_op rfl (fin _ _ _ dA _ L7 hdA hdP ok6 (by omega) (by omega)))))))
end
end KW
namespace KW
open PySem PySem.Spec PyProof.Rows L2 KR KS KX Evl StX LamX
section
variable {P : Program} {w : World} {K : PySem.W.Frag} {mg : Str → Option Value} {base : Heap}
theorem wxi {σ : L2.St} {H : Hp} {b : Addr} {xs : List V} {v : V} {i j : Nat} {Q : VK} (h1 : σ[i]? = some (some (.ref b))) (hb : H b = some (.lst xs)) (hv : xs[j]? = some v) (q : Q v H) : tOp (rIx K) (tVar i) (tC (.int (j : Int))) σ H Q :=
  op_op (v_op h1 (k_op (.inl ⟨b, xs, (j : Int), v, rfl, rfl, sq_of hb, atI_nat hv, q⟩)))
/-- the four parts of a web, as they lie -/
theorem four_op {i : Nat} {σ : L2.St} {H : Hp} {b kA tA hA sA : Addr} {Q : List V → Hp → Prop} (hi : σ[i]? = some (some (.ref b))) (hb : H b = some (.lst [.ref kA, .ref tA, .ref hA, .ref sA])) (q : Q [.ref kA, .ref tA, .ref hA, .ref sA] H) :
    (tCons (tOp (rIx K) (tVar i) (tC (.int 0))) (tCons (tOp (rIx K) (tVar i) (tC (.int 1))) (tCons (tOp (rIx K) (tVar i) (tC (.int 2))) (tCons (tOp (rIx K) (tVar i) (tC (.int 3))) tNil)))) σ H Q :=
  a_op (wxi (j := 0) hi hb rfl (a_op (wxi (j := 1) hi hb rfl (a_op (wxi (j := 2) hi hb rfl (a_op (wxi (j := 3) hi hb rfl (n_op q))))))))
/-- all but the pen and the tables stay: webs, bodies -/
theorem ExN.t {p l : Addr} {ns : List Int} {n : Int} {H H' : Hp} (hp : Pen H p l ns n) (e : ExN p H H') : ExT H H' := by
  obtain ⟨t, rr, ha, _⟩ := hp.at_
  exact ⟨fun a ys h => e _ _ (fun z => by rw [z, ha] at h; cases h) (fun _ z => by cases z) h, fun a o u h => e _ _ (fun z => by rw [z, ha] at h; cases h) (fun _ z => by cases z) h⟩
theorem _root_.KW.WebH.upX {C : Addr} {H H' : Hp} {p l a : Addr} {ns : List Int} {n : Int} {d : WebD} (h : WebH C H a d) (hp : Pen H p l ns n) (e : ExN p H H') : WebH C H' a d := by
  obtain ⟨k, w, dx, ha, hi⟩ := h
  have et := ExN.t hp e
  obtain ⟨t, rr, hpp, _⟩ := hp.at_
  exact ⟨k, w, dx, e _ _ (fun z => by rw [z, hpp] at ha; cases ha) (fun _ z => by cases z) ha, ⟨hi.k.upT et, et _ _ hi.t, et _ _ hi.n, hi.h.upT et, hi.s.upT et, hi.m.upT et, prs_upT et hi.pt, tups_upT et hi.pn, prs_upT et hi.ps⟩⟩
theorem _root_.KW.BodH.upX {W C : Addr} {H H' : Hp} {p l a : Addr} {ns : List Int} {n : Int} {b : BodD} (h : BodH W C H a b) (hp : Pen H p l ns n) (e : ExN p H H') : BodH W C H' a b := by
  obtain ⟨k, wa, sA, dx, ha, hi⟩ := h
  obtain ⟨t, rr, hpp, _⟩ := hp.at_
  exact ⟨k, wa, sA, dx, e _ _ (fun z => by rw [z, hpp] at ha; cases ha) (fun _ z => by cases z) ha, ⟨hi.w.upX hp e, hi.s.upT (ExN.t hp e)⟩⟩
/-! ### the settings' own rows drawn -/
def InvG (p l : Addr) (ns : List Int) (n : Int) (H1 : Hp) (D : Addr) (i : Nat) (H' : Hp) : Prop := ExP p H1 H' ∧ Pen H' p l ns (n + (i : Int)) ∧ ∃ gs : List Int, H' D = some (.lst (gs.map V.int)) ∧ gs.length = i ∧ Signs gs
abbrev teG (K : PySem.W.Frag) (j : Nat) : TE := tCall (spPick K) [] E0 (tCons (tVar j) (tCons (tLst (tCons (tC (.int 1)) (tCons (tUn (rU fun i => .int (-i)) (tC (.int 1))) tNil))) tNil))
theorem sign_turn {p l : Addr} {ns : List Int} {n : Int} {H1 : Hp} {D : Addr} {σ : L2.St} {i j : Nat} {H' : Hp} (hn : n + (i : Int) ≤ 90000) (hi : i ≤ 1000) (hD : H1 D = none) (hp0 : Pen H1 p l ns n) (h0 : σ[j]? = some (some (.ref p))) (v : InvG p l ns n H1 D i H') :
    teG K j σ H' fun y H4 => ∃ acc, H4 D = some (.lst acc) ∧ acc.length < sizeLine ∧ InvG p l ns n H1 D (i + 1) (upd H4 D (.lst (acc ++ [y]))) := by
  obtain ⟨eP, hp, gs, hDl, hkl, hkn⟩ := v
  obtain ⟨hDp, hDL⟩ := pen_ne hp0 hD
  refine c_op (a_op (v_op h0 (a_op (l_op (a_op (k_op (a_op ⟨1, rfl, n_op ⟨by show 2 ≤ sizeLine; decide, fun S hS => ?_⟩⟩)))))))
  have eb : Ex H' (upd H' S (.lst [.int 1, .int (-1)])) := Ex.new hS
  have hbS : (upd H' S (.lst [.int 1, .int (-1)])) S = some (.lst [.int 1, .int (-1)]) := upd_same
  generalize upd H' S (.lst [.int 1, .int (-1)]) = Hb at eb hbS ⊢
  have hpb := hp.up eb
  refine n_op ⟨p, S, l, ns, n + (i : Int), [.int 1, .int (-1)], rfl, hpb, by omega, sq_of hbS, (pen_ne hp hS).1, by simp, by show 2 ≤ 1000; decide, fun x H5 hx5 e5 hp5 => ?_⟩
  obtain ⟨z, hz, rfl⟩ : ∃ z : Int, (z = 1 ∨ z = -1) ∧ x = .int z := by
    rcases List.mem_cons.mp hx5 with rfl | h
    · exact ⟨1, .inl rfl, rfl⟩
    · exact ⟨-1, .inr rfl, List.mem_singleton.mp h⟩
  have hD5 := e5 D _ hDp (eb _ _ hDl)
  refine ⟨gs.map V.int, hD5, ?_, exp_mut ((eP.trans (Ex.p eb)).trans e5) hD, ?_, gs ++ [z], ?_, ?_, ?_⟩
  · rw [List.length_map]
    exact sz_lt (by omega)
  · have := pen_upd (o := .lst (gs.map V.int ++ [V.int z])) hp5 hDp hDL
    have e : n + (i : Int) + 1 = n + ((i + 1 : Nat) : Int) := by omega
    rw [← e]
    exact this
  · rw [upd_same, List.map_append]
    rfl
  · rw [List.length_append, hkl]
    rfl
  · intro y hy
    rcases List.mem_append.mp hy with hy | hy
    · exact hkn y hy
    · rw [List.mem_singleton.mp hy]
      exact hz
theorem signs_lj {p l M : Addr} {ns : List Int} {n : Int} {H1 : Hp} {σ : L2.St} {ms : List V} {j k : Nat} {Q : VK} (hM : H1 M = some (.lst ms)) (hMp : M ≠ p) (hw : ∀ x, wipe ((wipe σ [k]).set k (some x)) [k] = wipe σ [k]) (h0 : ∀ x, ((wipe σ [k]).set k (some x))[j]? = some (some (.ref p))) (hp : Pen H1 p l ns n) (hm : ms.length ≤ 1000) (hn : n ≤ 80000)
    (q : ∀ (D : Addr) (H2 : Hp) (gs : List Int), H1 D = none → ExP p H1 H2 → Pen H2 p l ns (n + (ms.length : Int)) → H2 D = some (.lst (gs.map V.int)) → gs.length = ms.length → Signs gs → Q (.ref D) H2) : LJ (Itl K M) (gName k) tYes (teG K j) [k] σ Q H1 := fun D hD => by
    refine lc_it walk_list (InvG p l ns n H1 D) ⟨exp_mut (ExP.refl _ _) hD, ?_, [], upd_same, rfl, fun _ hz => by cases hz⟩ (fun i H' _ p1 => sq_of (p1.1 _ _ hMp hM)) ?_ ?_
    · obtain ⟨x1, x2⟩ := pen_ne hp hD
      have := pen_upd (o := .lst []) hp x1 x2
      simpa using this
    · rintro t x H' H'' hi v ⟨rfl, hx⟩
      have := (List.getElem?_eq_some_iff.mp hx).1
      exact ⟨hw _, yes_if (sign_turn (by omega) (by omega) hD hp (h0 _) v)⟩
    · rintro H2 ⟨e2, hp2, gs, hDk, hkl, hkn⟩
      exact q D H2 gs hD e2 hp2 hDk hkl hkn
theorem _root_.KW.BodH.updLi {W C : Addr} {H : Hp} {a L : Addr} {b : BodD} {xs : List V} {o : HO} (h : BodH W C H a b) (hL : H L = some (.lst xs)) : BodH W C (upd H L o) a b := by
  obtain ⟨k, wa, sA, dx, ha, hi⟩ := h
  exact ⟨k, wa, sA, dx, by rw [upd_ne (fun z => by rw [z, hL] at ha; cases ha)]; exact ha, ⟨hi.w.updL hL, hi.s.upT (ExT.lst hL)⟩⟩
abbrev sL : Stmt := topS 81
abbrev nL : List Str := ["_law_script", "_law_pen_here", "_law_lap", "_law_web_here", "_law_made", "_law_setting", "_law_held", "_law_body", "_law_mark"]
theorem scL : FnScope nL ["_law_script"] (defScope sL) := ⟨rfl, rfl, rfl, by decide +kernel, rfl, by decide +kernel, by decide +kernel⟩
def spLaw (K : PySem.W.Frag) (Tb : Hp → Prop) : Sp := fun vs H Q _ => ∃ (a : Addr) (ns : List Int), vs = [.ref a] ∧ SqL K H a (ns.map V.int) ∧ ns.length ≤ 63 ∧ Tb H ∧ ∀ H2, Q (.bl true) H2
theorem ok_law {S : Es P w K mg base} {k : Nat} (A : All6 S k) (B : Bu mg) {f : Addr} {fd : FuncData} (F : FnP K "law" sL f fd) (E_ : FnA K mg "_law_pen" sPen ["_law_script"]) (W_ : FnA K mg "_law_web" sWeb ["_law_pen_here", "_law_least", "_law_most"]) (P_ : FnA K mg "_law_pick" sPick ["_law_pen_here", "_law_some"]) (D_ : FnA K mg "_law_draw" sDraw ["_law_pen_here", "_law_many"]) (B_ : FnA K mg "_law_beside" sBes ["_law_ties", "_law_piece"])
    (MR_ : FnA K mg "_law_marks_right" sMR ["_law_pen_here", "_law_web_here", "_law_made", "_law_setting"]) (RR_ : FnA K mg "_law_refused_right" sRR ["_law_pen_here", "_law_web_here", "_law_made", "_law_setting"]) {T : List (Addr × Str)}
    (GMR : FnOk P w K mg base CX0 (k + 12) MR_.f MR_.fd ["_law_pen_here", "_law_web_here", "_law_made", "_law_setting"] (spMR A)) (GRR : FnOk P w K mg base CX0 (k + 12) RR_.f RR_.fd ["_law_pen_here", "_law_web_here", "_law_made", "_law_setting"] (spRR A (Tabs T))) :
    FnOk P w K mg base CX0 (k + 13) f fd ["_law_script"] (spLaw K (Tabs T)) := by
  have GE : FnOk P w K mg base CX0 (k + 12) E_.f E_.fd ["_law_script"] (spPen K) := ok_pen E_.F B
  have GW : FnOk P w K mg base CX0 (k + 12) W_.f W_.fd ["_law_pen_here", "_law_least", "_law_most"] spWeb := ok_web W_.F B P_ D_ B_
  have GP : FnOk P w K mg base CX0 (k + 12) P_.f P_.fd ["_law_pen_here", "_law_some"] (spPick K) := ok_pick P_.F B D_
  refine ok0 F scL (fun vs H Q E h => ?_) (fun cdv A' outer s H vs Q E hr h => ?_)
  · obtain ⟨a, ns, rfl, _⟩ := h
    rfl
  · obtain ⟨a, ns, rfl, hS, hz, hT, q⟩ := h
    have hu := hr.units
    have hr7 := hr.mono (j := k + 7) (by omega)
    have hr6 := hr.mono (j := k + 6) (by omega)
    refine ⟨_, (pss_cons (ps_set (i := 1) scL.nd rfl (Or.inr rfl) (pe_call GE hr (by rfl) E_.g E_.F.kp E_.b .nil pass0 (pa_cons (pv 0) pa_nil)))
      (pss_cons (ps_for PassesOwn.never rfl (pi_range1 rfl B.range (pa_cons pe_int pa_nil)) (pg_name (i := 2) scL.nd rfl (Or.inl rfl)) (pss_cons (ps_set (i := 3) scL.nd rfl (Or.inl rfl) (pe_call GW hr (by rfl) W_.g W_.F.kp W_.b .nil pass0 (pa_cons (pv 1) (pa_cons pe_int (pa_cons pe_int pa_nil)))))
      (pss_cons (ps_set (i := 4) scL.nd rfl (Or.inl rfl) (pe_make A.Y.M A.Y.FI hr7 rfl A.Y.g A.Y.bI .nil passF (pa_cons (pe_ix ix_seq (pv 3) pe_int (fun _ _ => rfl)) (pa_cons (pe_ix ix_seq (pv 3) pe_int (fun _ _ => rfl)) (pa_cons (pe_ix ix_seq (pv 3) pe_int (fun _ _ => rfl)) (pa_cons (pe_ix ix_seq (pv 3) pe_int (fun _ _ => rfl)) pa_nil))))))
      (pss_cons (ps_setLc (i := 5) (own := [("_law_mark", 8)]) (g := gName 8) (te := teG K 1) rfl scL.nd rfl rfl rfl (pi_seq (pe_op op_cat (pe_ix ix_seq (pv 3) pe_int (fun _ _ => rfl)) (pe_ix ix_seq (pv 3) pe_int (fun _ _ => rfl)))) (blkOk_by (N := nL) (sc := (defScope sL)) (by decide +kernel)) (fun _ _ _ _ _ => (pg_name (i := 8) scL.nd rfl (Or.inl rfl))) (fun _ _ _ _ _ => pts_nil) (fun _ _ _ _ _ => (pe_call GP hr (by rfl) P_.g P_.F.kp P_.b .nil pass0 (pa_cons (pv 1) (pa_cons (pe_lst (pa_cons pe_int (pa_cons (pe_un un_neg pe_int) pa_nil))) pa_nil)))))
      (pss_cons (ps_set (i := 6) scL.nd rfl (Or.inl rfl) (pe_callTy call_list_of rfl B.list boot_list (pa_cons (pv 5) pa_nil)))
      (pss_cons (ps_set (i := 7) scL.nd rfl (Or.inl rfl) (pe_make A.Bd.M A.Bd.FI hr6 rfl A.Bd.g A.Bd.bI .nil passF (pa_cons (pv 4) (pa_cons (pv 6) pa_nil))))
      (pss_cons (ps_expr (pe_bm PySem.F.plainAttrs_list PySem.F.slot_list_append PySem.F.type_list_append mt_append (pv 6) (pa_cons pe_int pa_nil)))
      (pss_one (ps_if (PW.pt (pw_or (pt_cmpR (op_neD hu) (pe_fld (pv 7) rfl) (pe_tupleOf rfl B.tuple (pv 5)) (nomark _)) (pw_or (pt_not (pt_val (pe_call GMR hr (by rfl) MR_.g MR_.F.kp MR_.b .nil pass0 (pa_cons (pv 1) (pa_cons (pv 3) (pa_cons (pv 4) (pa_cons (pv 5) pa_nil))))))) (pw_or1 (pt_not (pt_val (pe_call GRR hr (by rfl) RR_.g RR_.F.kp RR_.b .nil pass0 (pa_cons (pv 1) (pa_cons (pv 3) (pa_cons (pv 4) (pa_cons (pv 5) pa_nil))))))))))) (pss_one (ps_ret pe_bl)) pss_nil)))))))))
      (pss_one (ps_ret pe_bl)))), ?_⟩
    refine q_as (c_op (a_op (v_op rfl (n_op ⟨a, ns, rfl, hS, hz, fun p l ms H1 _ e1 hp1 => ?_⟩))))
    refine s_forR1 (n := 4) (ea_cons ev_c ea_nil) (by omega) (fun i σ' H' => ∃ y2 y3 y4 y5 y6 y7, σ' = [some (.ref a), some (.ref p), y2, y3, y4, y5, y6, y7, none] ∧ ∃ n, 0 ≤ n ∧ n ≤ 4000 * (i : Int) ∧ Pen H' p l ms n ∧ Tabs T H')
      (fun H2 e2 => ⟨none, none, none, none, none, none, rfl, 0, by omega, by omega, hp1.up e2, (keepT T).ex _ _ (e1.trans e2) hT⟩) ?_ ?_
    · rintro i σ' H' hi ⟨y2, y3, y4, y5, y6, y7, rfl, n, n0, n1, hp, hTb⟩
      have n2 : n ≤ 12000 := by omega
      refine q_as (c_op (a_op (v_op rfl (a_op (k_op (a_op (k_op (n_op ⟨p, l, ms, n, rfl, hp, by omega, fun b kA tA hA sA tys sys ks ts hs ss n2 H2 e2 hp2 n20 n21 wl => ?_⟩))))))))
      have T' := wl.T
      have hTb2 := (keepT T).exp _ _ _ _ _ _ hp e2 hTb
      have hk := T'.len
      have htl := T'.tl
      have h16 : hs.length ≤ 16 := by
        have := card_le (n := ks.length) T'.hn T'.hb
        omega
      have s31 : ss.length ≤ 31 := by
        have := nd_le T'.sn T'.si
        omega
      have tlt : ∀ q ∈ ts, q.1 < q.2 := fun q hq => (T'.tb q hq).2.1
      have slt : ∀ q ∈ ss, q.1 < q.2 := fun q hq => tlt q (T'.si q hq)
      have hsl : sys.length = ss.length := Paired.length wl.ps
      refine q_as (mk_web (e := webT ks ts hs ss) (fun Q2 q2 => four_op rfl wl.hb (q2 _ H2 (Ex.refl _) ⟨_, _, _, _, _, _, _, _, ks, ts, hs, ss, rfl, T', rfl, argK_lst wl.hk (by omega) T'.nam, argP_lst wl.ht wl.pt (by omega) tlt, argI_lst wl.hh (by omega) (List.Perm.refl _), argP_lst wl.hz wl.ps (by omega) slt⟩)) fun m H3 e3 hW => ?_)
      have hb3 := e3 _ _ wl.hb
      refine q_as (lcS (op_op (wxi (j := 2) rfl hb3 rfl (wxi (j := 3) rfl hb3 rfl ⟨hA, sA, _, _, rfl, rfl, e3 _ _ wl.hh, e3 _ _ wl.hz, by rw [List.length_map]; exact Nat.le_of_lt (sz_lt (by omega)), fun M hM => ⟨M, rfl, .inl ⟨hs.map V.int ++ sys, sq_of upd_same, ?_⟩⟩⟩))))
      have e4 := Ex.new (o := HO.lst (hs.map V.int ++ sys)) hM
      have hM4 : (upd H3 M (.lst (hs.map V.int ++ sys))) M = some (.lst (hs.map V.int ++ sys)) := upd_same
      have hMp : M ≠ p := (pen_ne (hp2.up e3) hM).1
      generalize upd H3 M (.lst (hs.map V.int ++ sys)) = H4 at e4 hM4 ⊢
      have hp4 := (hp2.up e3).up e4
      have hW4 := hW.up e4
      have wl4 := wl.upP hp2 (Ex.p (e3.trans e4))
      have hTb4 := hTb2.ext (e3.trans e4)
      have hml : (hs.map V.int ++ sys).length = hs.length + ss.length := by rw [List.length_append, List.length_map, hsl]
      refine signs_lj (j := 1) (k := 8) hM4 hMp (fun _ => rfl) (fun _ => rfl) hp4 (by rw [hml]; omega) (by omega) fun D H5 gs hDn e5 hp5 hD5 hgl hgs => ?_
      have hgl2 : gs.length = hs.length + ss.length := by rw [hgl, hml]
      have hDp := (pen_ne hp4 hDn).1
      rw [hml] at hp5
      have hW5 := hW4.upP hp4 e5
      have wl5 := wl4.upP hp4 e5
      have hTb5 := (keepT T).exp _ _ _ _ _ _ hp4 e5 hTb4
      -- a copy of it, changed afterwards
      refine q_as (cb_op (a_op (v_op rfl (n_op ⟨D, _, rfl, .inl (sq_of hD5), fun L hL => ?_⟩))))
      have e6 := Ex.new (o := HO.lst (gs.map V.int)) hL
      have hL6 : (upd H5 L (.lst (gs.map V.int))) L = some (.lst (gs.map V.int)) := upd_same
      generalize upd H5 L (.lst (gs.map V.int)) = H6 at e6 hL6 ⊢
      refine q_as (mkb A.Y.Z (d := webT ks ts hs ss) (sg := gs) (fun Q2 q2 => a_op (v_op rfl (a_op (v_op rfl (n_op (q2 m (.ref L) H6 (Ex.refl _) (hW5.up e6) (sgv_lst (show gs.length = nM (webT ks ts hs ss) from hgl2) hgs (by omega) hL6))))))) fun c H7 e7 hB => ?_)
      have hL7 := e7 _ _ hL6
      refine q_ex ⟨.ref L, rfl, .inl ⟨rfl, _, sq_of hL7⟩, a_op (k_op (n_op ⟨L, _, .int 1, rfl, rfl, hL7, ?_, ?_⟩))⟩
      · rw [List.length_map]
        exact sz_lt (by omega)
      have hB8 := hB.updLi (o := .lst (gs.map V.int ++ [.int 1])) hL7
      have e58 : Ex H5 (upd H7 L (.lst (gs.map V.int ++ [.int 1]))) := Ex.mut (e6.trans e7) hL
      generalize upd H7 L (.lst (gs.map V.int ++ [.int 1])) = H8 at hB8 e58 ⊢
      refine s_if0 (or_op (op_test (op_op (fldB (Bd := A.Bd.toBodC) hB8 (ev_var rfl) A.Bd.n2 fun wa s9 H9 e9 hi9 => ⟨_, rfl, th_op (v_op rfl (tup_op1 (.inl ((e58.trans e9) _ _ hD5)) fun t9 H10 e10 ht9 => ne_tt (hi9.s.up e10) ht9 ⟨_, rfl, ?_⟩))⟩))))
      rw [decide_eq_true rfl]
      have e510 := (e58.trans e9).trans e10
      have hp10 := hp5.up e510
      have hW10 := hW5.up e510
      have wl10 := wl5.upP hp5 (Ex.p e510)
      have hTb10 := hTb5.ext e510
      have hD10 := e510 _ _ hD5
      refine iteF (or_op (c_op (a_op (v_op rfl (a_op (v_op rfl (a_op (v_op rfl (a_op (v_op rfl (n_op ⟨p, l, ms, _, b, kA, tA, hA, sA, tys, sys, ks, ts, hs, ss, m, D, gs, rfl, hp10, by omega, wl10, hW10, hDp, hD10, hgl2, hgs, fun n7 H11 e11 hp11 n70 n71 => ⟨true, rfl, iteF ?_⟩⟩)))))))))))
      have hTb11 := (keepT T).exp _ _ _ _ _ _ hp10 e11 hTb10
      refine c_op <| a_op <| v_op rfl <| a_op <| v_op rfl <| a_op <| v_op rfl <| a_op <| v_op rfl <| n_op ⟨p, l, ms, n7, b, kA, tA, hA, sA, tys, sys, ks, ts, hs, ss, m, D, gs, rfl, by omega, ⟨hp11, wl10.upP hp10 e11, hW10.upP hp10 e11, hDp, e11 _ _ hDp hD10, hgl2, hgs⟩, hTb11, fun n8 H12 e12 hTb12 hp12 n80 n81 => ⟨true, rfl, iteF (nx_op ?_)⟩⟩
      exact ⟨_, _, _, _, _, _, rfl, n8, by omega, by omega, hp12, hTb12⟩
    · rintro σ' H' ⟨y2, y3, y4, y5, y6, y7, rfl, n, n0, n1, hp, hTb⟩
      show Q (V.bl true) H'
      exact q _
end
end KW
namespace KW
open PySem PySem.Spec PyProof.Rows L2 KR KS KX Evl StX LamX
/-! ### the facts of the error classes, as one Bool of what the top has left -/
section
variable {K : PySem.W.Frag}
def kindB (K : PySem.W.Frag) (C : Addr) : Bool := match K.lookup C with
  | some o => (match o.cls, o.data with
    | .type "type", .cls cd => (match cd.mro, o.slots.toList with
      | .ref D :: bm, [_, _, _, _, some (.builtin n), _] => (D == C && n == "ValueError.__new__") && ((!cd.hasDel && cd.hasDict) && PySem.HandSPX.refsVE bm)
      | _, _ => false)
    | _, _ => false)
  | none => false
theorem kindB_ok {C : Addr} (q : kindB K C = true) : ∃ nm q N bs bm sn sub ab col dd k0 k1 k2 k3 k5, K.lookup C = some (excClassObj nm q C N bs bm true sn sub ab col dd k0 k1 k2 k3 k5 "ValueError.__new__") ∧ PySem.HandSPX.refsVE bm = true := by
  unfold kindB at q
  split at q
  · rename_i o ho
    obtain ⟨oc, od, dt, sl⟩ := o
    split at q
    · rename_i cd hc hd
      split at q
      · rename_i D bm x0 x1 x2 x3 n x5 hm hs
        simp only [Bool.and_eq_true, beq_iff_eq, Bool.not_eq_true'] at q
        obtain ⟨⟨rfl, rfl⟩, ⟨hdel, hdict⟩, hbm⟩ := q
        simp only at hc hd hs
        subst hc hd
        obtain ⟨nm, bs, mro, ns, qn, hdc, sn, sub, ab, col, del⟩ := cd
        simp only at hm hdel hdict
        subst hm hdel hdict
        have hsl : sl = #[x0, x1, x2, x3, some (.builtin "ValueError.__new__"), x5] := by
          obtain ⟨l⟩ := sl
          simp only at hs
          rw [hs]
        subst hsl
        exact ⟨nm, qn, ns, bs, bm, sn, sub, ab, col, od, x0, x1, x2, x3, x5, ho, hbm⟩
      · cases q
    · cases q
  · cases q
def oexB (K : PySem.W.Frag) (C : Addr) : Bool := kindB K C && (decide (PySem.W.findIn K (.ref C) "__setattr__" = some (some (.builtin "object.__setattr__"))) && (decide (PySem.W.subIn K (.ref C) (.type "BaseException") = some true) && (decide (PySem.W.typeIn K (.ref C) = some (.type "type")) && PySem.W.keepIn K (.ref C))))
theorem oexB_ok {C : Addr} (h : oexB K C = true) : OexC K C := by
  obtain ⟨h1, h⟩ := Bool.and_eq_true_iff.mp h
  obtain ⟨h2, h⟩ := Bool.and_eq_true_iff.mp h
  obtain ⟨h3, h⟩ := Bool.and_eq_true_iff.mp h
  obtain ⟨h4, h5⟩ := Bool.and_eq_true_iff.mp h
  exact ⟨kindB_ok h1, of_decide_eq_true h2, of_decide_eq_true h3, of_decide_eq_true h4, h5⟩
def isxB (K : PySem.W.Frag) (C : Addr) : Bool := (PySem.W.clsIn K C).isSome && (decide (PySem.W.findIn K (.ref C) "__getattribute__" = some (some (.builtin "BaseException.__getattribute__"))) && (decide (PySem.W.findIn K (.ref C) "__getattr__" = some none) && (decide (PySem.W.subIn K (.ref C) (.type "BaseException") = some true) &&
  (decide (PySem.W.findIn K (.ref C) "__class__" = some (some (.builtin "object.__class__"))) && (decide (PySem.W.specialIn K (.builtin "object.__class__") "__get__" = some (some (.builtin "getset_descriptor.__get__"))) && (decide (PySem.W.takesIn K (.builtin "object.__class__") = some true) && decide (PySem.W.mroIn K C (.type "object") = some true)))))))
theorem isxB_ok {C : Addr} (h : isxB K C = true) : IsXC K C := by
  obtain ⟨h1, h⟩ := Bool.and_eq_true_iff.mp h
  obtain ⟨h2, h⟩ := Bool.and_eq_true_iff.mp h
  obtain ⟨h3, h⟩ := Bool.and_eq_true_iff.mp h
  obtain ⟨h4, h⟩ := Bool.and_eq_true_iff.mp h
  obtain ⟨h5, h⟩ := Bool.and_eq_true_iff.mp h
  obtain ⟨h6, h⟩ := Bool.and_eq_true_iff.mp h
  obtain ⟨h7, h8⟩ := Bool.and_eq_true_iff.mp h
  exact ⟨h1, of_decide_eq_true h2, of_decide_eq_true h3, of_decide_eq_true h4, of_decide_eq_true h5, of_decide_eq_true h6, of_decide_eq_true h7, of_decide_eq_true h8⟩
end
/-! ### a Hook over any list of addresses -/
/-- each address but once, told by a mask -/
def onceZ : Nat → List Addr → List Addr
  | _, [] => []
  | m, a :: l => if Nat.beq ((m >>> a) % 2) 1 then onceZ m l else a :: onceZ (m + 2 ^ a) l
def asZ (g : Addr → Option Obj) : Nat → List Addr
  | 0 => [mainGlobals]
  | n + 1 => (fun as => onceZ 0 (as ++ as.flatMap fun a => match g a with
    | some o => He.refsD o
    | none => [])) (asZ g n)
def frZ (g : Addr → Option Obj) (n : Nat) : PySem.W.Frag := He.frT g (asZ g n)
def obsZ (n : Nat) (fa : List He.Fa) (fn : List He.DefD) (tf : List He.Defn) (ex : PySem.W.Frag → Bool) (g : Addr → Option Obj) : He.AlX :=
  (fun K => (He.obsT fa fn [] K, ex K && He.tabsB g tf K)) (frZ g n)
theorem saysZ {n : Nat} {fa : List He.Fa} {fn : List He.DefD} {tf : List He.Defn} {ex : PySem.W.Frag → Bool} {w : World} {h : Heap} (e : obsZ n fa fn tf ex h.get? = He.valX fn [] w) : He.SaysX fa fn [] tf ex w h (frZ h.get? n) := by
  have hex : (ex (frZ h.get? n) && He.tabsB h.get? tf (frZ h.get? n)) = true := congrArg Prod.snd e
  rw [Bool.and_eq_true] at hex
  have at_ : ∀ p ∈ tf, PySem.W.codeHdIn (frZ h.get? n) (He.cT (frZ h.get? n) p).1 (He.cT (frZ h.get? n) p).2 = true ∧ ∃ o, h.get? (He.cT (frZ h.get? n) p).2 = some o ∧ He.emptyTab o = true := by
    intro p hp
    have hp2 := List.all_eq_true.mp hex.2 p hp
    rw [Bool.and_eq_true] at hp2
    cases c : h.get? (He.cT (frZ h.get? n) p).2 with
    | none => rw [c] at hp2; exact absurd hp2.2 Bool.false_ne_true
    | some o => rw [c] at hp2; exact ⟨hp2.1, o, rfl, hp2.2⟩
  refine ⟨congrArg Prod.fst e, hex.1, fun p hp => (at_ p hp).1, fun p hp => ?_, fun p hp => ?_⟩
  · obtain ⟨_, o, c, z⟩ := at_ p hp
    exact He.frT_none c z
  · obtain ⟨_, o, c, z⟩ := at_ p hp
    rw [c, He.emptyTab_eq z]
def hookZ (n : Nat) (fa : List He.Fa) (fn : List He.DefD) (tf : List He.Defn) (ex : PySem.W.Frag → Bool) : PySem.W.Hook where
  α := He.AlX
  obs := fun s => obsZ n fa fn tf ex s.heap.get?
  val := fun w => He.valX fn [] w
  says := fun w h => ∃ K : PySem.W.Frag, K.In h ∧ He.SaysX fa fn [] tf ex w h K
  of := fun _ _ e => ⟨_, He.frT_in, saysZ e⟩
  keeps := fun _ _ _ ⟨K, hK, c⟩ k => ⟨K, PySem.W.Frag.In.keeps hK k, { c with empty := fun p hp => k _ _ (c.empty p hp) }⟩
theorem obsZ_eq {n : Nat} {fa : List He.Fa} {fn : List He.DefD} {tf : List He.Defn} {ex : PySem.W.Frag → Bool} {g : Addr → Option Obj} {s : Shared} (h : ∀ a, g a = s.heap.get? a) : obsZ n fa fn tf ex g = (hookZ n fa fn tf ex).obs s := by
  rw [funext h] <;> rfl
/-! ### what the head is to tell -/
def dDef (x : Str) (st : Stmt) : He.DefD := ⟨(x, none), x, x, defArgs st, defBody st, defScope st, [], []⟩
def dMeth (x : Str) (st : Stmt) : He.DefD := ⟨("Web", some x), x, "Web." ++ x, defArgs st, defBody st, defScope st, [], []⟩
def dMethB (x : Str) (st : Stmt) : He.DefD := ⟨("Body", some x), x, "Body." ++ x, defArgs st, defBody st, defScope st, [], []⟩
def initS (i : Nat) : Stmt := (clsBody (topS i)).getD 0 (.Pass ⟨0, 0, 0, 0⟩)
def dErr (C : Str) (i : Nat) : He.DefD := ⟨(C, some "__init__"), "__init__", C ++ ".__init__", defArgs (initS i), defBody (initS i), defScope (initS i), [], []⟩
def dWebI : He.DefD := ⟨("Web", some "__init__"), "__init__", "Web.__init__", defArgs sInit, defBody sInit, defScope sInit, [.adr (He.dflAt ("Web", some "__init__") 0), .adr (He.dflAt ("Web", some "__init__") 1)], []⟩
def cH (K : PySem.W.Frag) (x : Str) : Addr := He.ga K x
def iH (K : PySem.W.Frag) (x : Str) : Addr := He.fAd K (x, some "__init__")
def erB (K : PySem.W.Frag) (p : Str × Str) : Bool := oexB K (cH K p.1) && (isxB K (cH K p.1) && (xfB K (cH K p.1) && (decide (PySem.W.findIn K (.ref (cH K p.1)) "__init__" = some (some (.ref (iH K p.1)))) && (decide (PySem.W.typeIn K (.ref (iH K p.1)) = some (.type "function")) &&
  (decide (PySem.W.findIn K (.ref (cH K p.1)) p.2 = some none) && decide (PySem.W.exmOne K (.ref (cH K p.1)) (.ref (cH K "HandError")) = some true))))))
def kiB (ixN : List (Nat × Str)) (K : PySem.W.Frag) : Bool := ixN.all fun p => ixN.all fun q => decide (PySem.W.kitOne K (.ref (cH K p.2)) (.ref (cH K q.2)) = some (decide (p.1 = q.1)))
def clsB (K : PySem.W.Frag) (x : Str) : Bool := decide (PySem.W.findIn K (.ref (cH K x)) "__class__" = some (some (.builtin "object.__class__"))) && (decide (PySem.W.specialIn K (.builtin "object.__class__") "__get__" = some (some (.builtin "getset_descriptor.__get__"))) && (decide (PySem.W.takesIn K (.builtin "object.__class__") = some true) && (decide (PySem.W.mroIn K (cH K x) (.type "object") = some true) &&
  (decide (PySem.W.kitOne K (.ref (cH K x)) (.ref (cH K x)) = some true) && (decide (PySem.W.kitOne K (.type "list") (.ref (cH K x)) = some false) && (PySem.W.notFirst K (cH K x) (.type "list") && (decide (PySem.W.findIn K (.ref (cH K x)) "__ne__" = some (some (.builtin "object.__ne__"))) && decide (PySem.W.subIn K (.ref (cH K x)) (.type "object") = some true))))))))
structure ErF (K : PySem.W.Frag) (p : Str × Str) : Prop where
  ox : OxI K (cH K p.1) (iH K p.1)
  ix : IsXC K (cH K p.1)
  xf : XfC K (cH K p.1)
  no : PySem.W.findIn K (.ref (cH K p.1)) p.2 = some none
  ex : PySem.W.exmOne K (.ref (cH K p.1)) (.ref (cH K "HandError")) = some true
theorem erB_ok {K : PySem.W.Frag} {p : Str × Str} (h : erB K p = true) : ErF K p := by
  obtain ⟨h1, h⟩ := Bool.and_eq_true_iff.mp h
  obtain ⟨h2, h⟩ := Bool.and_eq_true_iff.mp h
  obtain ⟨h3, h⟩ := Bool.and_eq_true_iff.mp h
  obtain ⟨h4, h⟩ := Bool.and_eq_true_iff.mp h
  obtain ⟨h5, h⟩ := Bool.and_eq_true_iff.mp h
  obtain ⟨h6, h7⟩ := Bool.and_eq_true_iff.mp h
  exact ⟨⟨oexB_ok h1, of_decide_eq_true h4, of_decide_eq_true h5⟩, isxB_ok h2, xfB_ok h3, of_decide_eq_true h6, of_decide_eq_true h7⟩
theorem clsB_ok {K : PySem.W.Frag} {x : Str} (h : clsB K x = true) : WebE K (cH K x) ∧ PySem.W.findIn K (.ref (cH K x)) "__ne__" = some (some (.builtin "object.__ne__")) ∧ PySem.W.subIn K (.ref (cH K x)) (.type "object") = some true := by
  obtain ⟨h1, h⟩ := Bool.and_eq_true_iff.mp h
  obtain ⟨h2, h⟩ := Bool.and_eq_true_iff.mp h
  obtain ⟨h3, h⟩ := Bool.and_eq_true_iff.mp h
  obtain ⟨h4, h⟩ := Bool.and_eq_true_iff.mp h
  obtain ⟨h5, h⟩ := Bool.and_eq_true_iff.mp h
  obtain ⟨h6, h⟩ := Bool.and_eq_true_iff.mp h
  obtain ⟨h7, h⟩ := Bool.and_eq_true_iff.mp h
  obtain ⟨h8, h9⟩ := Bool.and_eq_true_iff.mp h
  exact ⟨⟨of_decide_eq_true h1, of_decide_eq_true h2, of_decide_eq_true h3, of_decide_eq_true h4, of_decide_eq_true h5, of_decide_eq_true h6, h7⟩, of_decide_eq_true h8, of_decide_eq_true h9⟩
theorem kiB_ok {ixN : List (Nat × Str)} {K : PySem.W.Frag} (h : kiB ixN K = true) {p q : Nat × Str} (hp : p ∈ ixN) (hq : q ∈ ixN) : PySem.W.kitOne K (.ref (cH K p.2)) (.ref (cH K q.2)) = some (decide (p.1 = q.1)) := of_decide_eq_true (List.all_eq_true.mp (List.all_eq_true.mp h p hp) q hq)
theorem vals_rev {vs : List V} {us : List Value} (h : Vals vs us) : Vals vs.reverse us.reverse := by
  induction h with
  | nil => exact .nil
  | cons a _ ih =>
    rw [List.reverse_cons, List.reverse_cons]
    exact ih.append (.cons a .nil)
/-- a call by keywords of a def that has no defaults -/
theorem fund_kbG {K : PySem.W.Frag} {x qual : Str} {params : Arguments} {body : List Stmt} {scope : Scope} {f : Addr} {fd : FuncData} {ps : List Str} (F : FunD K x qual params body scope [] [] f fd) (n : Nat) (ks : List Str) (g : {α : Type} → List α → List α → List α) (hrel : ∀ {vs zs : List V} {us ws : List Value}, Vals vs us → Vals zs ws → Vals (g vs zs) (g us ws))
    (h : ∀ (kV doc pm : Value) (an : Option Addr) (cdv ct : Value) (us ws : List Value), us.length = n → ws.length = ks.length → bindArgs (PySem.W.fnOf x qual params body scope .none kV doc pm an cdv ct) ⟨us, ks.zip ws⟩ = pure (ps.zip (g us ws))) : KBn K fd ps n ks (fun us ws => g us ws) (fun vs zs => g vs zs) := by
  obtain ⟨oc, od, dV, kV, doc, pm, an, cdv, ct, osl, rfl, lk, hcd, hD, hK⟩ := F.ex
  rcases hD with ⟨_, rfl⟩ | ⟨e, _⟩
  · exact ⟨fun s us ws X l1 l2 => .of_eq (h kV doc pm an cdv ct us ws l1 l2), fun r1 r2 => hrel r1 r2⟩
  · exact absurd rfl e
/-- a def and its code object -/
theorem fnc_of {K : PySem.W.Frag} {mg : Str → Option Value} {base : Heap} {x : Str} {st : Stmt} {ps : List Str} {fd : FuncData} (F : FnP K x st (He.fAd K (x, none)) fd) (b : L2.Binds K fd ps []) (g : mg x = some (.ref (He.fAd K (x, none)))) (TB : TabB base mg (He.cT K (x, none)).1 (He.cT K (x, none)).2) :
    ∃ C : FnC K mg base x st ps, C.f = He.fAd K (x, none) ∧ C.fd = fd ∧ C.Pt = (He.cT K (x, none)).2 := by
  obtain ⟨oc, od, dV, kV, doc, pm, an, cdv, ct, osl, hfd, lk, hcd, _, _⟩ := id F.ex
  obtain ⟨c, rfl⟩ := He.codeIn_ref hcd
  have hc : He.codeOf K (x, none) = c := He.codeOf_eq lk (by rw [hfd])
  have e : (He.cT K (x, none)).1 = c := hc
  rw [e] at TB
  exact ⟨{ f := He.fAd K (x, none), fd := fd, F := F, b := b, g := g, c := c, Pt := (He.cT K (x, none)).2, ex := ⟨oc, od, dV, kV, doc, pm, an, ct, osl, hfd, lk, hcd⟩, TB := TB }, rfl, rfl, rfl⟩
end KW
namespace KW
open PySem PySem.Spec PyProof.Rows L2 KR KS KX Evl StX LamX
def fnH : List He.DefD := [dDef "fixed" sFix, dDef "is_integer" sIsI, dDef "is_within" sWit, dDef "is_name" sNam, dDef "is_numbers" sNum, dDef "is_sign" sSgn, dDef "first_twice" sFT, dDef "is_setting" sSet, dDef "is_hub" sIH, dDef "is_stiff" sStf, dDef "need_piece" sNPc, dDef "need_mark" sNMk, dDef "need_hub" sNHb, dDef "need_setting" sNSt, dDef "need_lot" sNLt, dDef "hub_mark" sHM, dDef "tie_mark" sTM, dDef "told_items" sTI, dDef "need_web" sNW, dDef "is_pair" sPair, dDef "are_pairs" sPairs, dDef "ascending" sAsc, dDef "need_none_twice" sNT, dDef "need_pieces" sNP, dDef "need_kinds" sNK, dDef "sorted_ties" sST, dDef "rows_of_neighbours" sRN, dDef "hang_together" sHT, dDef "sorted_hubs" sSH, dDef "sorted_stiff" sSS, dDef "can_be_stiff" sCS, dDef "mirrored_setting" sMS, dDef "_law_pen" sPen, dDef "_law_draw" sDraw, dDef "_law_pick" sPick, dDef "_law_mixed" sMix, dDef "_law_web" sWeb, dDef "_law_beside" sBes, dDef "_law_heard" sHd, dDef "_law_marks_right" sMR, dDef "_law_refused_right" sRR, dDef "law" sL, dMeth "__eq__" sEq, dMeth "__len__" sLen, dMeth "__str__" sWS, dMeth "neighbours" sNb, dMeth "with_kind" sWK, dMethB "__init__" sBI, dMethB "__eq__" sBE, dMethB "__str__" sBSt, dMethB "hand" sBH, dMethB "side" sBS, dMethB "turned" sBT, dMethB "mirrored" sBM, dErr "BadWeb" 3, dErr "BadBody" 4, dErr "BadLot" 5, dErr "NoPiece" 7, dErr "NoMark" 8, dErr "NoTie" 9, dErr "Twice" 10, dErr "TooMany" 11, dWebI]
def faH : List He.Fa := [.glo "fixed", .glo "is_integer", .glo "is_within", .glo "is_name", .glo "is_numbers", .glo "is_sign", .glo "first_twice", .glo "is_setting", .glo "is_hub", .glo "is_stiff", .glo "need_piece", .glo "need_mark", .glo "need_hub", .glo "need_setting", .glo "need_lot", .glo "hub_mark", .glo "tie_mark", .glo "told_items", .glo "need_web", .glo "is_pair", .glo "are_pairs", .glo "ascending", .glo "need_none_twice", .glo "need_pieces", .glo "need_kinds", .glo "sorted_ties", .glo "rows_of_neighbours", .glo "hang_together", .glo "sorted_hubs", .glo "sorted_stiff", .glo "can_be_stiff", .glo "mirrored_setting", .glo "_law_pen", .glo "_law_draw", .glo "_law_pick", .glo "_law_mixed", .glo "_law_web", .glo "_law_beside", .glo "_law_heard", .glo "_law_marks_right", .glo "_law_refused_right", .glo "law", .glo "BadWeb", .glo "BadBody", .glo "BadLot", .glo "NoPiece", .glo "NoMark", .glo "NoTie", .glo "Twice", .glo "TooMany", .glo "HandError", .glo "Web", .glo "Body", .free "tuple", .free "sorted", .free "len", .free "int", .free "enumerate", .free "range", .free "list", .free "abs", .free "isinstance", .free "str", .free "bool", .free "all", .free "any", .free "min", .free "max", .free "zip", .str "LETTERS" LE, .str "LETTERS_AND_DIGITS" LD, .int "LONGEST_NAME" 12, .int "MOST_PIECES" 16, .int "MOST_NEIGHBOURS" 4, .int "FEWEST_OF_A_HUB" 3, .cls "Web", .mkr "Web", .cls "Body", .mkr "Body", .noat "Web" "kinds", .noat "Web" "ties", .noat "Web" "near", .noat "Web" "hubs", .noat "Web" "stiff", .noat "Web" "marks", .noat "Web" "is_tree", .noat "Body" "web", .noat "Body" "setting", .meth "Web" "__eq__", .meth "Web" "__len__", .meth "Web" "__str__", .meth "Web" "neighbours", .meth "Web" "with_kind", .meth "Body" "__eq__", .meth "Body" "__str__", .meth "Body" "hand", .meth "Body" "side", .meth "Body" "turned", .meth "Body" "mirrored", .free "dict"]
def tfH : List He.Defn := [("_law_refused_right", none)]
def erN : List (Str × Str) := [("BadWeb", "part"), ("BadBody", "part"), ("BadLot", "part"), ("NoPiece", "value"), ("NoMark", "value"), ("NoTie", "value"), ("Twice", "value"), ("TooMany", "what"), ("TooMany", "most")]
def ixN : List (Nat × Str) := [(0, "BadWeb"), (1, "BadBody"), (2, "BadLot"), (3, "NoPiece"), (4, "NoMark"), (5, "NoTie"), (6, "Twice"), (7, "TooMany")]
def tabD (K : PySem.W.Frag) : Bool := true
def strB (K : PySem.W.Frag) (x : Str) : Bool := decide (PySem.W.findIn K (.ref (cH K x)) "__str__" = some (some (.ref (He.fAd K (x, some "__str__")))))
def mixB (K : PySem.W.Frag) : Bool := decide (PySem.W.kitOne K (.ref (cH K "Web")) (.ref (cH K "Body")) = some false) && (decide (PySem.W.kitOne K (.ref (cH K "Body")) (.ref (cH K "Web")) = some false) && (decide (PySem.W.kitOne K (.type "str") (.ref (cH K "Body")) = some false) &&
  ((["NoneType", "int", "str"].all fun T => decide (PySem.W.kitOne K (.type T) (.ref (cH K "Web")) = some false)) && (PySem.W.notFirst K (cH K "Body") (.type "str") && PySem.W.notFirst K (cH K "Body") (.ref (cH K "Web"))))))
def exH (K : PySem.W.Frag) : Bool := (erN.all fun p => erB K p) && (kiB ixN K && (clsB K "Web" && (clsB K "Body" && (mixB K && tabD K))))
theorem law_facts {P : Program} {w : World} {K : PySem.W.Frag} {h : Heap} {mg : Str → Option Value} {f : Addr} (X : K.In h) (G : h.Ns mainGlobals mg) (hfa : mg ("law" : Str) = some (.ref f)) (c : He.SaysD faH fnH K) (ex : exH K = true) :
    ∃ fd : FuncData, (∀ (s : Shared) (v : Value), BindsTo s fd ⟨[v], []⟩ [("_law_script", v)]) ∧ ∀ base : Heap, K.In base → base.Ns mainGlobals mg → (∀ p ∈ tfH, TabB base mg (He.cT K p).1 (He.cT K p).2) → FnOk P w K mg base CX0 13 f fd ["_law_script"] (spLaw K (Tabs (tfH.map fun p => ((He.cT K p).2, p.1 ++ ".<locals>.<lambda>")))) := by
  obtain ⟨x1, ex⟩ := Bool.and_eq_true_iff.mp ex
  obtain ⟨x2, ex⟩ := Bool.and_eq_true_iff.mp ex
  obtain ⟨x3, ex⟩ := Bool.and_eq_true_iff.mp ex
  obtain ⟨x4, ex⟩ := Bool.and_eq_true_iff.mp ex
  obtain ⟨x5, _⟩ := Bool.and_eq_true_iff.mp ex
  obtain ⟨y1, x5⟩ := Bool.and_eq_true_iff.mp x5
  obtain ⟨y2, x5⟩ := Bool.and_eq_true_iff.mp x5
  obtain ⟨y3, x5⟩ := Bool.and_eq_true_iff.mp x5
  obtain ⟨y4, x5⟩ := Bool.and_eq_true_iff.mp x5
  obtain ⟨y5, y6⟩ := Bool.and_eq_true_iff.mp x5
  have y1 := of_decide_eq_true y1
  have y2 := of_decide_eq_true y2
  have y3 := of_decide_eq_true y3
  have hty : ∀ T ∈ (["NoneType", "int", "str"] : List String), PySem.W.kitOne K (.type T) (.ref (cH K "Web")) = some false := fun T hT => of_decide_eq_true (List.all_eq_true.mp y4 T hT)
  obtain ⟨fd_Fix, F_Fix⟩ := c.def_ 0 (d := dDef "fixed" sFix) rfl
  let A_Fix : FnA K mg "fixed" sFix ["value"] := ⟨He.fAd K ("fixed", none), fd_Fix, F_Fix, F_Fix.bindsN fun _ _ _ _ _ _ us hl => match us, hl with | [_], _ => rfl, He.glo_ok X G (c.fact 0 (f := .glo "fixed") rfl)⟩
  obtain ⟨fd_IsI, F_IsI⟩ := c.def_ 1 (d := dDef "is_integer" sIsI) rfl
  let A_IsI : FnA K mg "is_integer" sIsI ["value"] := ⟨He.fAd K ("is_integer", none), fd_IsI, F_IsI, F_IsI.bindsN fun _ _ _ _ _ _ us hl => match us, hl with | [_], _ => rfl, He.glo_ok X G (c.fact 1 (f := .glo "is_integer") rfl)⟩
  obtain ⟨fd_Wit, F_Wit⟩ := c.def_ 2 (d := dDef "is_within" sWit) rfl
  let A_Wit : FnA K mg "is_within" sWit ["value", "least", "most"] := ⟨He.fAd K ("is_within", none), fd_Wit, F_Wit, F_Wit.bindsN fun _ _ _ _ _ _ us hl => match us, hl with | [_, _, _], _ => rfl, He.glo_ok X G (c.fact 2 (f := .glo "is_within") rfl)⟩
  obtain ⟨fd_Nam, F_Nam⟩ := c.def_ 3 (d := dDef "is_name" sNam) rfl
  let A_Nam : FnA K mg "is_name" sNam ["value"] := ⟨He.fAd K ("is_name", none), fd_Nam, F_Nam, F_Nam.bindsN fun _ _ _ _ _ _ us hl => match us, hl with | [_], _ => rfl, He.glo_ok X G (c.fact 3 (f := .glo "is_name") rfl)⟩
  obtain ⟨fd_Num, F_Num⟩ := c.def_ 4 (d := dDef "is_numbers" sNum) rfl
  let A_Num : FnA K mg "is_numbers" sNum ["value"] := ⟨He.fAd K ("is_numbers", none), fd_Num, F_Num, F_Num.bindsN fun _ _ _ _ _ _ us hl => match us, hl with | [_], _ => rfl, He.glo_ok X G (c.fact 4 (f := .glo "is_numbers") rfl)⟩
  obtain ⟨fd_Sgn, F_Sgn⟩ := c.def_ 5 (d := dDef "is_sign" sSgn) rfl
  let A_Sgn : FnA K mg "is_sign" sSgn ["value"] := ⟨He.fAd K ("is_sign", none), fd_Sgn, F_Sgn, F_Sgn.bindsN fun _ _ _ _ _ _ us hl => match us, hl with | [_], _ => rfl, He.glo_ok X G (c.fact 5 (f := .glo "is_sign") rfl)⟩
  obtain ⟨fd_FT, F_FT⟩ := c.def_ 6 (d := dDef "first_twice" sFT) rfl
  let A_FT : FnA K mg "first_twice" sFT ["values"] := ⟨He.fAd K ("first_twice", none), fd_FT, F_FT, F_FT.bindsN fun _ _ _ _ _ _ us hl => match us, hl with | [_], _ => rfl, He.glo_ok X G (c.fact 6 (f := .glo "first_twice") rfl)⟩
  obtain ⟨fd_Set, F_Set⟩ := c.def_ 7 (d := dDef "is_setting" sSet) rfl
  let A_Set : FnA K mg "is_setting" sSet ["web", "value"] := ⟨He.fAd K ("is_setting", none), fd_Set, F_Set, F_Set.bindsN fun _ _ _ _ _ _ us hl => match us, hl with | [_, _], _ => rfl, He.glo_ok X G (c.fact 7 (f := .glo "is_setting") rfl)⟩
  obtain ⟨fd_IH, F_IH⟩ := c.def_ 8 (d := dDef "is_hub" sIH) rfl
  let A_IH : FnA K mg "is_hub" sIH ["web", "value"] := ⟨He.fAd K ("is_hub", none), fd_IH, F_IH, F_IH.bindsN fun _ _ _ _ _ _ us hl => match us, hl with | [_, _], _ => rfl, He.glo_ok X G (c.fact 8 (f := .glo "is_hub") rfl)⟩
  obtain ⟨fd_Stf, F_Stf⟩ := c.def_ 9 (d := dDef "is_stiff" sStf) rfl
  let A_Stf : FnA K mg "is_stiff" sStf ["web", "value"] := ⟨He.fAd K ("is_stiff", none), fd_Stf, F_Stf, F_Stf.bindsN fun _ _ _ _ _ _ us hl => match us, hl with | [_, _], _ => rfl, He.glo_ok X G (c.fact 9 (f := .glo "is_stiff") rfl)⟩
  obtain ⟨fd_NPc, F_NPc⟩ := c.def_ 10 (d := dDef "need_piece" sNPc) rfl
  let A_NPc : FnA K mg "need_piece" sNPc ["web", "value"] := ⟨He.fAd K ("need_piece", none), fd_NPc, F_NPc, F_NPc.bindsN fun _ _ _ _ _ _ us hl => match us, hl with | [_, _], _ => rfl, He.glo_ok X G (c.fact 10 (f := .glo "need_piece") rfl)⟩
  obtain ⟨fd_NMk, F_NMk⟩ := c.def_ 11 (d := dDef "need_mark" sNMk) rfl
  let A_NMk : FnA K mg "need_mark" sNMk ["web", "value"] := ⟨He.fAd K ("need_mark", none), fd_NMk, F_NMk, F_NMk.bindsN fun _ _ _ _ _ _ us hl => match us, hl with | [_, _], _ => rfl, He.glo_ok X G (c.fact 11 (f := .glo "need_mark") rfl)⟩
  obtain ⟨fd_NHb, F_NHb⟩ := c.def_ 12 (d := dDef "need_hub" sNHb) rfl
  let A_NHb : FnA K mg "need_hub" sNHb ["web", "value"] := ⟨He.fAd K ("need_hub", none), fd_NHb, F_NHb, F_NHb.bindsN fun _ _ _ _ _ _ us hl => match us, hl with | [_, _], _ => rfl, He.glo_ok X G (c.fact 12 (f := .glo "need_hub") rfl)⟩
  obtain ⟨fd_NSt, F_NSt⟩ := c.def_ 13 (d := dDef "need_setting" sNSt) rfl
  let A_NSt : FnA K mg "need_setting" sNSt ["web", "value", "part"] := ⟨He.fAd K ("need_setting", none), fd_NSt, F_NSt, F_NSt.bindsN fun _ _ _ _ _ _ us hl => match us, hl with | [_, _, _], _ => rfl, He.glo_ok X G (c.fact 13 (f := .glo "need_setting") rfl)⟩
  obtain ⟨fd_NLt, F_NLt⟩ := c.def_ 14 (d := dDef "need_lot" sNLt) rfl
  let A_NLt : FnA K mg "need_lot" sNLt ["web", "value", "part"] := ⟨He.fAd K ("need_lot", none), fd_NLt, F_NLt, F_NLt.bindsN fun _ _ _ _ _ _ us hl => match us, hl with | [_, _, _], _ => rfl, He.glo_ok X G (c.fact 14 (f := .glo "need_lot") rfl)⟩
  obtain ⟨fd_HM, F_HM⟩ := c.def_ 15 (d := dDef "hub_mark" sHM) rfl
  let A_HM : FnA K mg "hub_mark" sHM ["web", "hub"] := ⟨He.fAd K ("hub_mark", none), fd_HM, F_HM, F_HM.bindsN fun _ _ _ _ _ _ us hl => match us, hl with | [_, _], _ => rfl, He.glo_ok X G (c.fact 15 (f := .glo "hub_mark") rfl)⟩
  obtain ⟨fd_TM, F_TM⟩ := c.def_ 16 (d := dDef "tie_mark" sTM) rfl
  let A_TM : FnA K mg "tie_mark" sTM ["web", "tie"] := ⟨He.fAd K ("tie_mark", none), fd_TM, F_TM, F_TM.bindsN fun _ _ _ _ _ _ us hl => match us, hl with | [_, _], _ => rfl, He.glo_ok X G (c.fact 16 (f := .glo "tie_mark") rfl)⟩
  obtain ⟨fd_TI, F_TI⟩ := c.def_ 17 (d := dDef "told_items" sTI) rfl
  let A_TI : FnA K mg "told_items" sTI ["kinds", "ties", "hub_signs", "tie_signs"] := ⟨He.fAd K ("told_items", none), fd_TI, F_TI, F_TI.bindsN fun _ _ _ _ _ _ us hl => match us, hl with | [_, _, _, _], _ => rfl, He.glo_ok X G (c.fact 17 (f := .glo "told_items") rfl)⟩
  obtain ⟨fd_NW, F_NW⟩ := c.def_ 18 (d := dDef "need_web" sNW) rfl
  let A_NW : FnA K mg "need_web" sNW ["value", "part"] := ⟨He.fAd K ("need_web", none), fd_NW, F_NW, F_NW.bindsN fun _ _ _ _ _ _ us hl => match us, hl with | [_, _], _ => rfl, He.glo_ok X G (c.fact 18 (f := .glo "need_web") rfl)⟩
  obtain ⟨fd_Pair, F_Pair⟩ := c.def_ 19 (d := dDef "is_pair" sPair) rfl
  let A_Pair : FnA K mg "is_pair" sPair ["value"] := ⟨He.fAd K ("is_pair", none), fd_Pair, F_Pair, F_Pair.bindsN fun _ _ _ _ _ _ us hl => match us, hl with | [_], _ => rfl, He.glo_ok X G (c.fact 19 (f := .glo "is_pair") rfl)⟩
  obtain ⟨fd_Pairs, F_Pairs⟩ := c.def_ 20 (d := dDef "are_pairs" sPairs) rfl
  let A_Pairs : FnA K mg "are_pairs" sPairs ["value"] := ⟨He.fAd K ("are_pairs", none), fd_Pairs, F_Pairs, F_Pairs.bindsN fun _ _ _ _ _ _ us hl => match us, hl with | [_], _ => rfl, He.glo_ok X G (c.fact 20 (f := .glo "are_pairs") rfl)⟩
  obtain ⟨fd_Asc, F_Asc⟩ := c.def_ 21 (d := dDef "ascending" sAsc) rfl
  let A_Asc : FnA K mg "ascending" sAsc ["pairs"] := ⟨He.fAd K ("ascending", none), fd_Asc, F_Asc, F_Asc.bindsN fun _ _ _ _ _ _ us hl => match us, hl with | [_], _ => rfl, He.glo_ok X G (c.fact 21 (f := .glo "ascending") rfl)⟩
  obtain ⟨fd_NT, F_NT⟩ := c.def_ 22 (d := dDef "need_none_twice" sNT) rfl
  let A_NT : FnA K mg "need_none_twice" sNT ["values"] := ⟨He.fAd K ("need_none_twice", none), fd_NT, F_NT, F_NT.bindsN fun _ _ _ _ _ _ us hl => match us, hl with | [_], _ => rfl, He.glo_ok X G (c.fact 22 (f := .glo "need_none_twice") rfl)⟩
  obtain ⟨fd_NP, F_NP⟩ := c.def_ 23 (d := dDef "need_pieces" sNP) rfl
  let A_NP : FnA K mg "need_pieces" sNP ["values", "many"] := ⟨He.fAd K ("need_pieces", none), fd_NP, F_NP, F_NP.bindsN fun _ _ _ _ _ _ us hl => match us, hl with | [_, _], _ => rfl, He.glo_ok X G (c.fact 23 (f := .glo "need_pieces") rfl)⟩
  obtain ⟨fd_NK, F_NK⟩ := c.def_ 24 (d := dDef "need_kinds" sNK) rfl
  let A_NK : FnA K mg "need_kinds" sNK ["kinds"] := ⟨He.fAd K ("need_kinds", none), fd_NK, F_NK, F_NK.bindsN fun _ _ _ _ _ _ us hl => match us, hl with | [_], _ => rfl, He.glo_ok X G (c.fact 24 (f := .glo "need_kinds") rfl)⟩
  obtain ⟨fd_ST, F_ST⟩ := c.def_ 25 (d := dDef "sorted_ties" sST) rfl
  let A_ST : FnA K mg "sorted_ties" sST ["ties", "many"] := ⟨He.fAd K ("sorted_ties", none), fd_ST, F_ST, F_ST.bindsN fun _ _ _ _ _ _ us hl => match us, hl with | [_, _], _ => rfl, He.glo_ok X G (c.fact 25 (f := .glo "sorted_ties") rfl)⟩
  obtain ⟨fd_RN, F_RN⟩ := c.def_ 26 (d := dDef "rows_of_neighbours" sRN) rfl
  let A_RN : FnA K mg "rows_of_neighbours" sRN ["ties", "many"] := ⟨He.fAd K ("rows_of_neighbours", none), fd_RN, F_RN, F_RN.bindsN fun _ _ _ _ _ _ us hl => match us, hl with | [_, _], _ => rfl, He.glo_ok X G (c.fact 26 (f := .glo "rows_of_neighbours") rfl)⟩
  obtain ⟨fd_HT, F_HT⟩ := c.def_ 27 (d := dDef "hang_together" sHT) rfl
  let A_HT : FnA K mg "hang_together" sHT ["near"] := ⟨He.fAd K ("hang_together", none), fd_HT, F_HT, F_HT.bindsN fun _ _ _ _ _ _ us hl => match us, hl with | [_], _ => rfl, He.glo_ok X G (c.fact 27 (f := .glo "hang_together") rfl)⟩
  obtain ⟨fd_SH, F_SH⟩ := c.def_ 28 (d := dDef "sorted_hubs" sSH) rfl
  let A_SH : FnA K mg "sorted_hubs" sSH ["hubs", "near"] := ⟨He.fAd K ("sorted_hubs", none), fd_SH, F_SH, F_SH.bindsN fun _ _ _ _ _ _ us hl => match us, hl with | [_, _], _ => rfl, He.glo_ok X G (c.fact 28 (f := .glo "sorted_hubs") rfl)⟩
  obtain ⟨fd_SS, F_SS⟩ := c.def_ 29 (d := dDef "sorted_stiff" sSS) rfl
  let A_SS : FnA K mg "sorted_stiff" sSS ["stiff", "ties", "hubs", "near"] := ⟨He.fAd K ("sorted_stiff", none), fd_SS, F_SS, F_SS.bindsN fun _ _ _ _ _ _ us hl => match us, hl with | [_, _, _, _], _ => rfl, He.glo_ok X G (c.fact 29 (f := .glo "sorted_stiff") rfl)⟩
  obtain ⟨fd_CS, F_CS⟩ := c.def_ 30 (d := dDef "can_be_stiff" sCS) rfl
  let A_CS : FnA K mg "can_be_stiff" sCS ["stiff", "hubs", "near"] := ⟨He.fAd K ("can_be_stiff", none), fd_CS, F_CS, F_CS.bindsN fun _ _ _ _ _ _ us hl => match us, hl with | [_, _, _], _ => rfl, He.glo_ok X G (c.fact 30 (f := .glo "can_be_stiff") rfl)⟩
  obtain ⟨fd_MS, F_MS⟩ := c.def_ 31 (d := dDef "mirrored_setting" sMS) rfl
  let A_MS : FnA K mg "mirrored_setting" sMS ["web", "setting"] := ⟨He.fAd K ("mirrored_setting", none), fd_MS, F_MS, F_MS.bindsN fun _ _ _ _ _ _ us hl => match us, hl with | [_, _], _ => rfl, He.glo_ok X G (c.fact 31 (f := .glo "mirrored_setting") rfl)⟩
  obtain ⟨fd_Pen, F_Pen⟩ := c.def_ 32 (d := dDef "_law_pen" sPen) rfl
  let A_Pen : FnA K mg "_law_pen" sPen ["_law_script"] := ⟨He.fAd K ("_law_pen", none), fd_Pen, F_Pen, F_Pen.bindsN fun _ _ _ _ _ _ us hl => match us, hl with | [_], _ => rfl, He.glo_ok X G (c.fact 32 (f := .glo "_law_pen") rfl)⟩
  obtain ⟨fd_Draw, F_Draw⟩ := c.def_ 33 (d := dDef "_law_draw" sDraw) rfl
  let A_Draw : FnA K mg "_law_draw" sDraw ["_law_pen_here", "_law_many"] := ⟨He.fAd K ("_law_draw", none), fd_Draw, F_Draw, F_Draw.bindsN fun _ _ _ _ _ _ us hl => match us, hl with | [_, _], _ => rfl, He.glo_ok X G (c.fact 33 (f := .glo "_law_draw") rfl)⟩
  obtain ⟨fd_Pick, F_Pick⟩ := c.def_ 34 (d := dDef "_law_pick" sPick) rfl
  let A_Pick : FnA K mg "_law_pick" sPick ["_law_pen_here", "_law_some"] := ⟨He.fAd K ("_law_pick", none), fd_Pick, F_Pick, F_Pick.bindsN fun _ _ _ _ _ _ us hl => match us, hl with | [_, _], _ => rfl, He.glo_ok X G (c.fact 34 (f := .glo "_law_pick") rfl)⟩
  obtain ⟨fd_Mix, F_Mix⟩ := c.def_ 35 (d := dDef "_law_mixed" sMix) rfl
  let A_Mix : FnA K mg "_law_mixed" sMix ["_law_pen_here", "_law_items"] := ⟨He.fAd K ("_law_mixed", none), fd_Mix, F_Mix, F_Mix.bindsN fun _ _ _ _ _ _ us hl => match us, hl with | [_, _], _ => rfl, He.glo_ok X G (c.fact 35 (f := .glo "_law_mixed") rfl)⟩
  obtain ⟨fd_Web, F_Web⟩ := c.def_ 36 (d := dDef "_law_web" sWeb) rfl
  let A_Web : FnA K mg "_law_web" sWeb ["_law_pen_here", "_law_least", "_law_most"] := ⟨He.fAd K ("_law_web", none), fd_Web, F_Web, F_Web.bindsN fun _ _ _ _ _ _ us hl => match us, hl with | [_, _, _], _ => rfl, He.glo_ok X G (c.fact 36 (f := .glo "_law_web") rfl)⟩
  obtain ⟨fd_Bes, F_Bes⟩ := c.def_ 37 (d := dDef "_law_beside" sBes) rfl
  let A_Bes : FnA K mg "_law_beside" sBes ["_law_ties", "_law_piece"] := ⟨He.fAd K ("_law_beside", none), fd_Bes, F_Bes, F_Bes.bindsN fun _ _ _ _ _ _ us hl => match us, hl with | [_, _], _ => rfl, He.glo_ok X G (c.fact 37 (f := .glo "_law_beside") rfl)⟩
  obtain ⟨fd_Hd, F_Hd⟩ := c.def_ 38 (d := dDef "_law_heard" sHd) rfl
  let A_Hd : FnA K mg "_law_heard" sHd ["_law_ask"] := ⟨He.fAd K ("_law_heard", none), fd_Hd, F_Hd, F_Hd.bindsN fun _ _ _ _ _ _ us hl => match us, hl with | [_], _ => rfl, He.glo_ok X G (c.fact 38 (f := .glo "_law_heard") rfl)⟩
  obtain ⟨fd_MR, F_MR⟩ := c.def_ 39 (d := dDef "_law_marks_right" sMR) rfl
  let A_MR : FnA K mg "_law_marks_right" sMR ["_law_pen_here", "_law_web_here", "_law_made", "_law_setting"] := ⟨He.fAd K ("_law_marks_right", none), fd_MR, F_MR, F_MR.bindsN fun _ _ _ _ _ _ us hl => match us, hl with | [_, _, _, _], _ => rfl, He.glo_ok X G (c.fact 39 (f := .glo "_law_marks_right") rfl)⟩
  obtain ⟨fd_RR, F_RR⟩ := c.def_ 40 (d := dDef "_law_refused_right" sRR) rfl
  let A_RR : FnA K mg "_law_refused_right" sRR ["_law_pen_here", "_law_web_here", "_law_made", "_law_setting"] := ⟨He.fAd K ("_law_refused_right", none), fd_RR, F_RR, F_RR.bindsN fun _ _ _ _ _ _ us hl => match us, hl with | [_, _, _, _], _ => rfl, He.glo_ok X G (c.fact 40 (f := .glo "_law_refused_right") rfl)⟩
  obtain ⟨fd, F⟩ := c.def_ 41 (d := dDef "law" sL) rfl
  have e := hfa.symm.trans (He.glo_ok X G (c.fact 41 (f := .glo "law") rfl))
  cases e
  obtain ⟨fd_Eq, F_Eq⟩ := c.def_ 42 (d := dMeth "__eq__" sEq) rfl
  obtain ⟨fd_Len, F_Len⟩ := c.def_ 43 (d := dMeth "__len__" sLen) rfl
  obtain ⟨fd_WS, F_WS⟩ := c.def_ 44 (d := dMeth "__str__" sWS) rfl
  obtain ⟨fd_Nb, F_Nb⟩ := c.def_ 45 (d := dMeth "neighbours" sNb) rfl
  obtain ⟨fd_WK, F_WK⟩ := c.def_ 46 (d := dMeth "with_kind" sWK) rfl
  obtain ⟨fd_BI, F_BI⟩ := c.def_ 47 (d := dMethB "__init__" sBI) rfl
  obtain ⟨fd_BE, F_BE⟩ := c.def_ 48 (d := dMethB "__eq__" sBE) rfl
  obtain ⟨fd_BSt, F_BSt⟩ := c.def_ 49 (d := dMethB "__str__" sBSt) rfl
  obtain ⟨fd_BH, F_BH⟩ := c.def_ 50 (d := dMethB "hand" sBH) rfl
  obtain ⟨fd_BS, F_BS⟩ := c.def_ 51 (d := dMethB "side" sBS) rfl
  obtain ⟨fd_BT, F_BT⟩ := c.def_ 52 (d := dMethB "turned" sBT) rfl
  obtain ⟨fd_BM, F_BM⟩ := c.def_ 53 (d := dMethB "mirrored" sBM) rfl
  obtain ⟨fd_eweb, F_eweb⟩ := c.def_ 54 (d := dErr "BadWeb" 3) rfl
  obtain ⟨fd_ebody, F_ebody⟩ := c.def_ 55 (d := dErr "BadBody" 4) rfl
  obtain ⟨fd_elot, F_elot⟩ := c.def_ 56 (d := dErr "BadLot" 5) rfl
  obtain ⟨fd_epiece, F_epiece⟩ := c.def_ 57 (d := dErr "NoPiece" 7) rfl
  obtain ⟨fd_emark, F_emark⟩ := c.def_ 58 (d := dErr "NoMark" 8) rfl
  obtain ⟨fd_etie, F_etie⟩ := c.def_ 59 (d := dErr "NoTie" 9) rfl
  obtain ⟨fd_etwice, F_etwice⟩ := c.def_ 60 (d := dErr "Twice" 10) rfl
  obtain ⟨fd_emany, F_emany⟩ := c.def_ 61 (d := dErr "TooMany" 11) rfl
  obtain ⟨fd_I0, F_I0⟩ := c.def_ 62 (d := dWebI) rfl
  have B : Bu mg := ⟨He.free_ok X G (c.fact 53 (f := .free "tuple") rfl), He.free_ok X G (c.fact 54 (f := .free "sorted") rfl), He.free_ok X G (c.fact 55 (f := .free "len") rfl), He.free_ok X G (c.fact 56 (f := .free "int") rfl), He.free_ok X G (c.fact 57 (f := .free "enumerate") rfl), He.free_ok X G (c.fact 58 (f := .free "range") rfl), He.free_ok X G (c.fact 59 (f := .free "list") rfl), He.free_ok X G (c.fact 60 (f := .free "abs") rfl), He.free_ok X G (c.fact 61 (f := .free "isinstance") rfl), He.free_ok X G (c.fact 62 (f := .free "str") rfl), He.free_ok X G (c.fact 63 (f := .free "bool") rfl), He.free_ok X G (c.fact 64 (f := .free "all") rfl), He.free_ok X G (c.fact 65 (f := .free "any") rfl), He.free_ok X G (c.fact 66 (f := .free "min") rfl), He.free_ok X G (c.fact 67 (f := .free "max") rfl), He.free_ok X G (c.fact 68 (f := .free "zip") rfl)⟩
  have Gg : Gc mg := ⟨He.str_ok X G (c.fact 69 (f := .str "LETTERS" LE) rfl), He.str_ok X G (c.fact 70 (f := .str "LETTERS_AND_DIGITS" LD) rfl), He.int_ok X G (c.fact 71 (f := .int "LONGEST_NAME" 12) rfl), He.int_ok X G (c.fact 72 (f := .int "MOST_PIECES" 16) rfl), He.int_ok X G (c.fact 73 (f := .int "MOST_NEIGHBOURS" 4) rfl), He.int_ok X G (c.fact 74 (f := .int "FEWEST_OF_A_HUB" 3) rfl)⟩
  have e1 : ∀ p ∈ erN, ErF K p := fun p hp => erB_ok (List.all_eq_true.mp x1 p hp)
  have r_web := e1 ("BadWeb", "part") (by simp [erN])
  have r_body := e1 ("BadBody", "part") (by simp [erN])
  have r_lot := e1 ("BadLot", "part") (by simp [erN])
  have r_piece := e1 ("NoPiece", "value") (by simp [erN])
  have r_mark := e1 ("NoMark", "value") (by simp [erN])
  have r_tie := e1 ("NoTie", "value") (by simp [erN])
  have r_twice := e1 ("Twice", "value") (by simp [erN])
  have r_many := e1 ("TooMany", "what") (by simp [erN])
  have r_many2 := e1 ("TooMany", "most") (by simp [erN])
  have eb_part : ∀ {q : Str} {p1 p2 q1 q2 q3 q4 : Pos} {fI : Addr} {fd : FuncData}, FunD K "__init__" q (iArgs1 "part" p1 p2) (iBody1 "part" q1 q2 q3 q4) (iScope1 "part") [] [] fI fd → L2.Binds K fd ["self", "part"] [] := fun F => F.bindsN (fun _ _ _ _ _ _ us hl => match us, hl with | [_, _], _ => rfl)
  have eb_value : ∀ {q : Str} {p1 p2 q1 q2 q3 q4 : Pos} {fI : Addr} {fd : FuncData}, FunD K "__init__" q (iArgs1 "value" p1 p2) (iBody1 "value" q1 q2 q3 q4) (iScope1 "value") [] [] fI fd → L2.Binds K fd ["self", "value"] [] := fun F => F.bindsN (fun _ _ _ _ _ _ us hl => match us, hl with | [_, _], _ => rfl)
  refine ⟨fd, fun s v => (FunD.bindsA (ps := ["_law_script"]) F fun _ _ _ _ _ _ us hl => match us, hl with | [_], _ => rfl) s [v] rfl, fun base _ _ tb => ?_⟩
  let S : Es P w K mg base := {
    web := { C := cH K "BadWeb", fI := iH K "BadWeb", fd := fd_eweb, g := He.glo_ok X G (c.fact 42 (f := .glo "BadWeb") rfl), ox := r_web.ox, no := r_web.no, F := ok_part (k := 0) F_eweb, b := eb_part F_eweb }
    body := { C := cH K "BadBody", fI := iH K "BadBody", fd := fd_ebody, g := He.glo_ok X G (c.fact 43 (f := .glo "BadBody") rfl), ox := r_body.ox, no := r_body.no, F := ok_part (k := 0) F_ebody, b := eb_part F_ebody }
    lot := { C := cH K "BadLot", fI := iH K "BadLot", fd := fd_elot, g := He.glo_ok X G (c.fact 44 (f := .glo "BadLot") rfl), ox := r_lot.ox, no := r_lot.no, F := ok_part (k := 0) F_elot, b := eb_part F_elot }
    piece := { C := cH K "NoPiece", fI := iH K "NoPiece", fd := fd_epiece, g := He.glo_ok X G (c.fact 45 (f := .glo "NoPiece") rfl), ox := r_piece.ox, no := r_piece.no, F := ok_value (k := 0) F_epiece, b := eb_value F_epiece }
    mark := { C := cH K "NoMark", fI := iH K "NoMark", fd := fd_emark, g := He.glo_ok X G (c.fact 46 (f := .glo "NoMark") rfl), ox := r_mark.ox, no := r_mark.no, F := ok_value (k := 0) F_emark, b := eb_value F_emark }
    tie := { C := cH K "NoTie", fI := iH K "NoTie", fd := fd_etie, g := He.glo_ok X G (c.fact 47 (f := .glo "NoTie") rfl), ox := r_tie.ox, no := r_tie.no, F := ok_value (k := 0) F_etie, b := eb_value F_etie }
    twice := { C := cH K "Twice", fI := iH K "Twice", fd := fd_etwice, g := He.glo_ok X G (c.fact 48 (f := .glo "Twice") rfl), ox := r_twice.ox, no := r_twice.no, F := ok_value (k := 0) F_etwice, b := eb_value F_etwice }
    many := { C := cH K "TooMany", fI := iH K "TooMany", fd := fd_emany, g := He.glo_ok X G (c.fact 49 (f := .glo "TooMany") rfl), ox := r_many.ox, no := r_many.no, no2 := r_many2.no, F := ok_many (k := 0) F_emany, b := F_emany.bindsN (fun _ _ _ _ _ _ us hl => match us, hl with | [_, _, _], _ => rfl) } }
  have hx : ∀ r, IsXC K (RzC S r) := fun r => by cases r <;> first | exact r_web.ix | exact r_body.ix | exact r_lot.ix | exact r_piece.ix | exact r_mark.ix | exact r_tie.ix | exact r_twice.ix | exact r_many.ix
  have hxf : ∀ r, XfC K (RzC S r) := fun r => by cases r <;> first | exact r_web.xf | exact r_body.xf | exact r_lot.xf | exact r_piece.xf | exact r_mark.xf | exact r_tie.xf | exact r_twice.xf | exact r_many.xf
  have hex : ∀ r, PySem.W.exmOne K (.ref (RzC S r)) (.ref (cH K "HandError")) = some true := fun r => by cases r <;> first | exact r_web.ex | exact r_body.ex | exact r_lot.ex | exact r_piece.ex | exact r_mark.ex | exact r_tie.ex | exact r_twice.ex | exact r_many.ex
  have hin : ∀ r, ∃ p ∈ ixN, p.1 = ixE r ∧ cH K p.2 = RzC S r := fun r => by
    cases r with
    | web _ => exact ⟨(0, "BadWeb"), by simp [ixN], rfl, rfl⟩
    | body _ => exact ⟨(1, "BadBody"), by simp [ixN], rfl, rfl⟩
    | lot _ => exact ⟨(2, "BadLot"), by simp [ixN], rfl, rfl⟩
    | piece _ => exact ⟨(3, "NoPiece"), by simp [ixN], rfl, rfl⟩
    | mark _ => exact ⟨(4, "NoMark"), by simp [ixN], rfl, rfl⟩
    | tie _ => exact ⟨(5, "NoTie"), by simp [ixN], rfl, rfl⟩
    | twice _ => exact ⟨(6, "Twice"), by simp [ixN], rfl, rfl⟩
    | many _ _ => exact ⟨(7, "TooMany"), by simp [ixN], rfl, rfl⟩
  have hki : ∀ r r', PySem.W.kitOne K (.ref (RzC S r)) (.ref (RzC S r')) = some (decide (ixE r = ixE r')) := fun r r' => by
    obtain ⟨p, hp, p1, p2⟩ := hin r
    obtain ⟨q, hq, q1, q2⟩ := hin r'
    have := kiB_ok x2 hp hq
    rw [p2, q2, p1, q1] at this
    exact this
  let HK : HrdK S := { HE := cH K "HandError", g := He.glo_ok X G (c.fact 50 (f := .glo "HandError") rfl), hx := hx, xf := hxf, ki := hki, ex := hex }
  let WC : WebC K mg := { C := cH K "Web", g := He.glo_ok X G (c.fact 51 (f := .glo "Web") rfl), cls := He.cls_ok (c.fact 75 (f := .cls "Web") rfl), n1 := He.noat_ok (c.fact 79 (f := .noat "Web" "kinds") rfl), n2 := He.noat_ok (c.fact 80 (f := .noat "Web" "ties") rfl), n3 := He.noat_ok (c.fact 81 (f := .noat "Web" "near") rfl), n4 := He.noat_ok (c.fact 82 (f := .noat "Web" "hubs") rfl), n5 := He.noat_ok (c.fact 83 (f := .noat "Web" "stiff") rfl), n6 := He.noat_ok (c.fact 84 (f := .noat "Web" "marks") rfl), n7 := He.noat_ok (c.fact 85 (f := .noat "Web" "is_tree") rfl) }
  have m_Eq : Meth K (cH K "Web") "__eq__" (He.fAd K ("Web", some "__eq__")) := He.meth_ok (c.fact 88 (f := .meth "Web" "__eq__") rfl)
  have m_Len : Meth K (cH K "Web") "__len__" (He.fAd K ("Web", some "__len__")) := He.meth_ok (c.fact 89 (f := .meth "Web" "__len__") rfl)
  have m_WS : Meth K (cH K "Web") "__str__" (He.fAd K ("Web", some "__str__")) := He.meth_ok (c.fact 90 (f := .meth "Web" "__str__") rfl)
  have m_Nb : Meth K (cH K "Web") "neighbours" (He.fAd K ("Web", some "neighbours")) := He.meth_ok (c.fact 91 (f := .meth "Web" "neighbours") rfl)
  have m_WK : Meth K (cH K "Web") "with_kind" (He.fAd K ("Web", some "with_kind")) := He.meth_ok (c.fact 92 (f := .meth "Web" "with_kind") rfl)
  have m_BE : Meth K (cH K "Body") "__eq__" (He.fAd K ("Body", some "__eq__")) := He.meth_ok (c.fact 93 (f := .meth "Body" "__eq__") rfl)
  have m_BSt : Meth K (cH K "Body") "__str__" (He.fAd K ("Body", some "__str__")) := He.meth_ok (c.fact 94 (f := .meth "Body" "__str__") rfl)
  have m_BH : Meth K (cH K "Body") "hand" (He.fAd K ("Body", some "hand")) := He.meth_ok (c.fact 95 (f := .meth "Body" "hand") rfl)
  have m_BS : Meth K (cH K "Body") "side" (He.fAd K ("Body", some "side")) := He.meth_ok (c.fact 96 (f := .meth "Body" "side") rfl)
  have m_BT : Meth K (cH K "Body") "turned" (He.fAd K ("Body", some "turned")) := He.meth_ok (c.fact 97 (f := .meth "Body" "turned") rfl)
  have m_BM : Meth K (cH K "Body") "mirrored" (He.fAd K ("Body", some "mirrored")) := He.meth_ok (c.fact 98 (f := .meth "Body" "mirrored") rfl)
  obtain ⟨wE, wne, wob⟩ := clsB_ok x3
  obtain ⟨bE, bne, bob⟩ := clsB_ok x4
  let WM : WebM P w K mg base := { WC with fL := He.fAd K ("Web", some "__len__"), fdL := fd_Len, atL := m_Len.at_, fnL := m_Len.fn, bL := F_Len.bindsN (fun _ _ _ _ _ _ us hl => match us, hl with | [_], _ => rfl), FL := ok_len (W := WC) (k := 0) F_Len B }
  have GI : FnOk P w K mg base CX0 1 A_IsI.f A_IsI.fd ["value"] spIsI := ok_isI (k := 0) F_IsI B
  have GN : FnOk P w K mg base CX0 2 A_Num.f A_Num.fd ["value"] spNum := ok_num (k := 0) F_Num B A_IsI
  have GPr : FnOk P w K mg base CX0 3 A_Pair.f A_Pair.fd ["value"] spPair := ok_pair (k := 0) F_Pair B A_IsI A_Num
  have GPs : FnOk P w K mg base CX0 4 A_Pairs.f A_Pairs.fd ["value"] spPairs := ok_pairs (k := 0) F_Pairs B A_Pair GPr
  have GAs : FnOk P w K mg base CX0 4 A_Asc.f A_Asc.fd ["pairs"] spAsc := ok_asc (k := 3) F_Asc B
  have GNTp : FnOk P w K mg base (L2.CX P w) 4 A_NT.f A_NT.fd ["values"] (spNTp S) := ok_ntp (k := 0) F_NT B A_FT A_Fix
  have GNTi : FnOk P w K mg base (L2.CX P w) 4 A_NT.f A_NT.fd ["values"] (spNTi S) := ok_nti (k := 0) F_NT B A_FT A_Fix
  have GNP : FnOk P w K mg base (L2.CX P w) 4 A_NP.f A_NP.fd ["values", "many"] (spNP S) := ok_np (k := 1) F_NP B A_Wit A_IsI
  have GNK : FnOk P w K mg base (L2.CX P w) 5 A_NK.f A_NK.fd ["kinds"] (spNK S) := ok_nk (k := 2) F_NK B Gg A_Nam
  have GST : FnOk P w K mg base (L2.CX P w) 5 A_ST.f A_ST.fd ["ties", "many"] (spST S) := ok_st (k := 0) F_ST B A_Pairs A_NP A_NT A_Asc GPs GNP GNTp GAs
  have GRN : FnOk P w K mg base (L2.CX P w) 5 A_RN.f A_RN.fd ["ties", "many"] (spRN S) := ok_rn (k := 2) F_RN B Gg A_HT
  have GSH : FnOk P w K mg base (L2.CX P w) 5 A_SH.f A_SH.fd ["hubs", "near"] (spSH S) := ok_sh (k := 0) F_SH B Gg A_Num A_NP A_NT (GN.mono (by decide)) GNP GNTi
  have GCS : FnOk P w K mg base CX0 4 A_CS.f A_CS.fd ["stiff", "hubs", "near"] (spCS K) := ok_cs (k := 1) F_CS B A_FT A_Fix
  have GSS : FnOk P w K mg base (L2.CX P w) 5 A_SS.f A_SS.fd ["stiff", "ties", "hubs", "near"] (spSS S) := ok_ss (k := 0) F_SS B A_Pairs A_Asc A_NT A_CS GPs GAs GNTp GCS
  have GW : FnOk P w K mg base (L2.CX P w) 6 (iH K "Web") fd_I0 nInit (spInit S WC.C) := ok_init (W := WC) (k := 0) F_I0 B Gg A_NK A_ST A_RN A_SH A_SS GNK GST GRN GSH GSS
  obtain ⟨dsA, vA, bA⟩ := FunD.binds1 (ps := nInit) F_I0 5 2 (by simp [He.DefD.dvs, dWebI]) rfl (fun _ _ _ _ _ _ _ us its l1 l2 => match us, its, l1, l2 with | [_, _, _, _, _], [_, _], _, _ => ⟨_, rfl, rfl⟩)
  have hA : dsA = [] := by
    cases vA
    rfl
  subst hA
  obtain ⟨dsD, vD, bD⟩ := FunD.binds1 (ps := nInit) F_I0 3 0 (by simp [He.DefD.dvs, dWebI]) rfl (fun _ _ _ _ _ _ _ us its l1 l2 => match us, its, l1, l2 with | [_, _, _], [_, _], _, _ => ⟨_, rfl, rfl⟩)
  obtain ⟨itsK, kI⟩ := FunD.kbindsD (ps := nInit) F_I0 1 ["stiff", "hubs", "ties", "kinds"] (fun us _ ws => us ++ ws.reverse) (by simp [He.DefD.dvs, dWebI]) (fun r1 _ r2 => r1.append (vals_rev r2)) (fun _ _ _ _ _ _ _ us its ws l1 l2 l3 => match us, its, ws, l1, l2, l3 with | [_], [_, _], [_, _, _, _], _, _, _ => ⟨_, rfl, rfl⟩)
  let Y : WebY S 6 := { WM with
    fI := iH K "Web", fdI := fd_I0, M := He.mkr_ok (c.fact 76 (f := .mkr "Web") rfl), FI := GW, bI := bA, dD := dWebI.dvs K, dV := dsD, bD := bD, vD := vD, two := ⟨_, _, rfl⟩, kI := kI
    fE := He.fAd K ("Web", some "__eq__"), fdE := fd_Eq, atE := m_Eq.at_, fnE := m_Eq.fn, bE := F_Eq.bindsN (fun _ _ _ _ _ _ us hl => match us, hl with | [_, _], _ => rfl), FE := ok_eqw (W := WC) (k := 0) F_Eq B wE, ne := wne, ob := wob, Z := wE }
  let BC : BodC K mg := { C := cH K "Body", g := He.glo_ok X G (c.fact 52 (f := .glo "Body") rfl), cls := He.cls_ok (c.fact 77 (f := .cls "Body") rfl), n1 := He.noat_ok (c.fact 86 (f := .noat "Body" "web") rfl), n2 := He.noat_ok (c.fact 87 (f := .noat "Body" "setting") rfl) }
  let BY : BodY S Y.C 5 := { BC with fI := He.fAd K ("Body", some "__init__"), fdI := fd_BI, M := He.mkr_ok (c.fact 78 (f := .mkr "Body") rfl), FI := ok_bi (S := S) (W := WC) (Bd := BC) (k := 0) F_BI B A_NW A_NSt A_Set A_Sgn A_IsI, bI := F_BI.bindsN (fun _ _ _ _ _ _ us hl => match us, hl with | [_, _, _], _ => rfl), kI := fund_kbG F_BI 1 ["setting", "web"] (fun us ws => us ++ ws.reverse) (fun r1 r2 => r1.append (vals_rev r2)) (fun _ _ _ _ _ _ us ws l1 l2 => match us, ws, l1, l2 with | [_], [_, _], _, _ => rfl) }
  have GNLt : FnOk P w K mg base (L2.CX P w) 6 A_NLt.f A_NLt.fd ["web", "value", "part"] (spNLt S Y.C) := ok_nlt (S := S) (W := WC) (k := 2) F_NLt B A_Num A_IsI A_NMk A_Wit A_FT A_Fix
  let A : All6 S 0 := {
    Y := Y, Bd := BY, ZB := bE, fE := He.fAd K ("Body", some "__eq__"), fdE := fd_BE, atE := m_BE.at_, fnE := m_BE.fn, bE := F_BE.bindsN (fun _ _ _ _ _ _ us hl => match us, hl with | [_, _], _ => rfl), FE := ok_eqb (S := S) (Y := Y) (Bd := BC) (k := 0) F_BE B bE, ne := bne, ob := bob,
    fK := He.fAd K ("Web", some "with_kind"), fdK := fd_WK, mK := m_WK, FK := ok_wk (S := S) (k := 0) (Y := Y) F_WK B Gg A_NPc A_Wit A_IsI A_Nam, bK := F_WK.bindsN (ps := ["self", "piece", "kind"]) (fun _ _ _ _ _ _ us hl => match us, hl with | [_, _, _], _ => rfl),
    fH := He.fAd K ("Body", some "hand"), fdH := fd_BH, mH := m_BH, FH := ok_hd (S := S) (Y := Y) (Bd := BC) (k := 0) F_BH B A_NHb A_IH A_IsI A_HM, bH := F_BH.bindsN (fun _ _ _ _ _ _ us hl => match us, hl with | [_, _], _ => rfl), kH := fund_kbG F_BH 1 ["hub"] (fun us ws => us ++ ws) (fun r1 r2 => r1.append r2) (fun _ _ _ _ _ _ us ws l1 l2 => match us, ws, l1, l2 with | [_], [_], _, _ => rfl),
    fD := He.fAd K ("Body", some "side"), fdD := fd_BS, mD := m_BS, FD := ok_sd (S := S) (Y := Y) (Bd := BC) (k := 0) F_BS B A_Stf A_Num A_IsI A_TM, bD := F_BS.bindsN (fun _ _ _ _ _ _ us hl => match us, hl with | [_, _], _ => rfl), kD := fund_kbG F_BS 1 ["tie"] (fun us ws => us ++ ws) (fun r1 r2 => r1.append r2) (fun _ _ _ _ _ _ us ws l1 l2 => match us, ws, l1, l2 with | [_], [_], _, _ => rfl),
    fT := He.fAd K ("Body", some "turned"), fdT := fd_BT, mT := m_BT, FT := ok_tn (S := S) (Y := Y) (Bd := BY) (k := 0) F_BT B A_NLt GNLt, bT := F_BT.bindsN (fun _ _ _ _ _ _ us hl => match us, hl with | [_, _], _ => rfl), kT := fund_kbG F_BT 1 ["lot"] (fun us ws => us ++ ws) (fun r1 r2 => r1.append r2) (fun _ _ _ _ _ _ us ws l1 l2 => match us, ws, l1, l2 with | [_], [_], _, _ => rfl),
    fM := He.fAd K ("Body", some "mirrored"), fdM := fd_BM, mM := m_BM, FM := ok_mi (S := S) (Y := Y) (Bd := BY) (k := 0) F_BM B A_MS, bM := F_BM.bindsN (fun _ _ _ _ _ _ us hl => match us, hl with | [_], _ => rfl),
    fU := He.fAd K ("Body", some "__str__"), fdU := fd_BSt, atU := m_BSt.at_, fnU := m_BSt.fn, bU := F_BSt.bindsN (fun _ _ _ _ _ _ us hl => match us, hl with | [_], _ => rfl), FU := ok_bst (M := WM) (Bd := BC) (k := 0) F_BSt B (He.free_ok X G (c.fact 99 (f := .free "dict") rfl)) A_TI,
    fV := He.fAd K ("Web", some "__str__"), fdV := fd_WS, atV := m_WS.at_, fnV := m_WS.fn, bV := F_WS.bindsN (fun _ _ _ _ _ _ us hl => match us, hl with | [_], _ => rfl), FV := ok_ws (W := WC) (k := 0) F_WS B A_TI,
    wB := y1, bW := y2, sB := y3, tW := hty, nfS := y5, nfW := y6 }
  let T : List (Addr × Str) := tfH.map fun p => ((He.cT K p).2, p.1 ++ ".<locals>.<lambda>")
  have hT : T = [((He.cT K ("_law_refused_right", none)).2, ("_law_refused_right.<locals>.<lambda>" : Str))] := rfl
  obtain ⟨C_RR, h1_RR, h2_RR, h3_RR⟩ := fnc_of (x := "_law_refused_right") (st := sRR) F_RR A_RR.b (A_RR.g) (tb ("_law_refused_right", none) (by simp [tfH]))
  have GMR : FnOk P w K mg base CX0 12 A_MR.f A_MR.fd ["_law_pen_here", "_law_web_here", "_law_made", "_law_setting"] (spMR A) := (ok_mr (k := 0) A F_MR B A_Mix A_Draw).mono (by decide)
  have GRR : FnOk P w K mg base CX0 12 A_RR.f A_RR.fd ["_law_pen_here", "_law_web_here", "_law_made", "_law_setting"] (spRR A (Tabs T)) := by
    have g := ok_rr (k := 0) A HK B C_RR A_Hd A_Pick A_Draw (T := T) (by rw [h3_RR, hT]; simp) (fun q hq he => by
      rw [h3_RR] at he
      rw [hT] at hq
      simp only [List.mem_cons, List.not_mem_nil, or_false] at hq
      cases hq
      rfl)
    rw [h1_RR, h2_RR] at g
    exact g
  exact ok_law (k := 0) A B F A_Pen A_Web A_Pick A_Draw A_Bes A_MR A_RR (T := T) GMR GRR
end KW
set_option maxHeartbeats 0
namespace KH
open PySem PySem.W PySem.Calls PyProof.Rows
abbrev R : OpenRow := OpenLaw.row PySem.Challenge.rw_otherhand_k06_marks_turned_and_mirrored
abbrev hk : PySem.W.Hook := KW.hookZ 4 KW.faH KW.fnH KW.tfH KW.exH
def ob (s : PySem.W.SharedT) : He.AlX := KW.obsZ 4 KW.faH KW.fnH KW.tfH KW.exH (HandSHeadRun.getT s)
theorem ob_eq (s : PySem.W.SharedT) : ob s = hk.obs s.abs := KW.obsZ_eq (HandSHeadRun.getT_eq s)
def names1 : List PySem.Str := ["__name__", "HandError", "BadWeb", "BadBody", "BadLot", "Missing", "NoPiece", "NoMark", "NoTie", "Twice", "TooMany", "BadText", "fixed", "LETTERS", "LETTERS_AND_DIGITS", "LONGEST_NAME", "is_integer", "is_within", "is_name", "is_numbers"]
def names2 : List PySem.Str := ["is_sign", "first_twice", "is_setting", "is_hub", "is_stiff", "need_piece", "need_mark", "need_hub", "need_setting", "need_lot", "hub_mark", "tie_mark", "DIGITS", "LONGEST_NUMBER", "MOST_PIECES", "MOST_NEIGHBOURS", "told_items", "items_of", "told_number", "read_parts"]
def names3 : List PySem.Str := ["read_kinds", "read_ties", "least_second", "read_piece", "FEWEST_OF_A_HUB", "need_web", "is_pair", "are_pairs", "ascending", "need_none_twice", "need_pieces", "need_kinds", "sorted_ties", "rows_of_neighbours", "hang_together", "sorted_hubs", "sorted_stiff", "can_be_stiff", "Web", "read_whole"]
def names4 : List PySem.Str := ["mirrored_setting", "Body", "body_of_text", "_law_pen", "_law_draw", "_law_pick", "_law_mixed", "_law_web", "_law_beside", "_law_heard", "_law_marks_right", "_law_refused_right"]
def names : List PySem.Str := names1 ++ (names2 ++ (names3 ++ (names4)))
noncomputable def Wr (w : World) := HandSHeadRun.wholeF (fun p => HandSHeadRun.stepQ (HandSHeadRun.denQ HandSHeadRun.tabQ) p w) HandSHeadRun.fenceQ 40000 R.prog
def fr (s : PySem.W.SharedT) : PySem.W.Frag := KW.frZ (HandSHeadRun.getT s) 4
theorem run (w : World) : HandSHeadRun.RunEqI R (PySem.W.view R.prog [0, 81]) hk ob 40000 names w := by
  unfold HandSHeadRun.RunEqI
  kernel_rfl
end KH
open PySem PySem.W PySem.Calls PyProof.Rows
theorem PySem.Challenge.cw_otherhand_k06_marks_turned_and_mirrored_holds : PySem.Challenge.rw_otherhand_k06_marks_turned_and_mirrored.Holds := by
  w_on; o_law
  refine HandSHeadRun.head_imp (r := OpenLaw.row PySem.Challenge.rw_otherhand_k06_marks_turned_and_mirrored) (q := view (OpenLaw.row PySem.Challenge.rw_otherhand_k06_marks_turned_and_mirrored).prog [0, 81]) (H := KH.hk) (ob := KH.ob) (M := 40000) (loose := KH.names) (d := HandSHeadRun.topDef (OpenLaw.row PySem.Challenge.rw_otherhand_k06_marks_turned_and_mirrored).prog 81) (kwd := []) KH.ob_eq KH.run
    (by kernel_rfl) (by kernel_rfl) (by kernel_rfl) (by rfl) (by first | assumption | decide +kernel) (by decide +kernel) ⟨rfl, rfl, rfl, rfl, rfl, by decide +kernel⟩ ?hw ?hc
  case hw => w_witness2
  case hc =>
    refine LamX.walk_ofTsE (l := PySem.Challenge.rw_otherhand_k06_marks_turned_and_mirrored) (n := 63) (k := 13) (x := "_law_script") (CX := fun _ => L2.CX0) rfl (by decide) (by kernel_rfl) ⟨rfl, by decide, by decide⟩ ?F (fun _ _ _ _ _ z => z)
    intro w mg fa h Y G hmg0
    obtain ⟨K, KX, c⟩ := Y
    have hmg : mg ("law" : PySem.Str) = some (.ref fa) := by
      have e : (HandSHeadRun.topDef (OpenLaw.row PySem.Challenge.rw_otherhand_k06_marks_turned_and_mirrored).prog 81).name = ("law" : PySem.Str) := by kernel_rfl
      rw [← e]
      exact hmg0
    obtain ⟨fd, hb, hF⟩ := KW.law_facts (P := (PySem.Challenge.rw_otherhand_k06_marks_turned_and_mirrored).prog) (w := w) KX G hmg c.t.d c.more
    refine ⟨K, KX, fd, KW.tfH.map (He.cT K), KW.spLaw K (LamX.Tabs (KW.tfH.map fun p => ((He.cT K p).2, p.1 ++ ".<locals>.<lambda>"))), ?_, ?_, ?_, hb, ?_, ?_⟩
    · intro p hp
      obtain ⟨q, hq, rfl⟩ := List.mem_map.mp hp
      exact c.empty q hq
    · intro p hp
      obtain ⟨q, hq, rfl⟩ := List.mem_map.mp hp
      exact c.out q hq
    · intro p hp
      obtain ⟨q, hq, rfl⟩ := List.mem_map.mp hp
      exact PySem.W.codeHd_of_K KX (c.hd q hq)
    · intro H a ns hl _ hT hS
      refine ⟨a, ns, rfl, hS, hl, fun q hq => ?_, fun _ => rfl⟩
      obtain ⟨p, hp, rfl⟩ := List.mem_map.mp hq
      exact LamX.TabS.nil (hT _ (List.mem_map.mpr ⟨p, hp, rfl⟩))
    · intro base KB GB TB
      exact hF base KB GB fun p hp => TB _ (List.mem_map.mpr ⟨p, hp, rfl⟩)
