import PyProof.Rows.All
import Wide.All
import OpenK.AllK
import Wide.FinOn
import HandS.ForMost
import HandS.IsInst
import HandS.ExcInit
import HandS.Defaults
import HandS.WordsExc
import HandS.MakeKwOnly
import HandS.ExcIs
import KE.KExcInit
import KE.KExcIs
import KE.KExcLine
import KE.RegKIsAll
import PySem.Challenge.RW_readhome_k00_errors
set_option Elab.async false
set_option linter.all false
set_option maxRecDepth 100000
/-! ## own error classes over Exception, each with an __init__ of its own: made as values, by place and by keyword -/
namespace PySem.XV
open PySem PySem.W PySem.Calls PyProof.Rows PySem.HandSPX
abbrev exT : List Value := [.type "Exception", .type "BaseException", .type "object"]
section
variable {M : Model} {A : Around} {E : Value → Shared → Prop} {h : Heap} {g : Array GenState} {d : Drawn} {t : Nat} {os : OsState}
variable {nm q : Str} {C N : Addr} {bs bm bmB : List Value} {hdct : Bool} {sn : List Str} {sub : List Value} {ab : Bool} {col : Option Bool} {dd : Option Addr} {k0 k1 k2 k3 k5 : Option Value} {B newId initId : String}
theorem look_new (F : ExcBaseFacts B newId initId bmB) (hT : ∀ Y : String, bm.contains (.type Y) = bmB.contains (.type Y)) {rest : List Value} {kw : List (Str × Value)} {Q : Unit → Shared → Prop}
    (hC : h.get? C = some (excClassObj nm q C N bs bm hdct sn sub ab col dd k0 k1 k2 k3 k5 newId)) (done : Q () ⟨h, g, d, t, os⟩) :
    wpAny M A (checkBuiltinCall newId ⟨.ref C :: rest, kw⟩) Q E ⟨h, g, d, t, os⟩ := by
  have below : (Value.ref C :: bm).contains (.type B) = true := by
    rw [List.contains_cons, hT, F.hasB]
    exact Bool.or_true _
  have := F.noStar
  simp only [checkBuiltinCall, F.newSplit, F.newKind, F.newRow]
  repeat
    first
      | refine wpAny_loadPart_at hC ?_
      | (refine wpAny_isSubtype_exc hC ?_
         rw [below])
      | refine wpAny_staticBase_exc hC ?_
      | refine wpAny_madeBy_exc hC ?_
      | simp only [Bool.false_eq_true, bne_self_eq_false, if_false]
      | wp_step
  exact done
end
section
variable {prog : Program} {w : World} {A : Around} {E : Value → Shared → Prop} {R : Result → Shared → Prop} {h : Heap} {g : Array GenState} {d : Drawn} {t : Nat} {os : OsState}
variable {nm q : Str} {C N : Addr} {bs bm bmB : List Value} {hdct : Bool} {sn : List Str} {sub : List Value} {ab : Bool} {col : Option Bool} {dd : Option Addr} {k0 k1 k2 k3 k5 : Option Value} {B newId initId : String}
theorem make_new (F : ExcBaseFacts B newId initId bmB) (hT : ∀ Y : String, bm.contains (.type Y) = bmB.contains (.type Y)) {rest : List Value} {kw : List (Str × Value)}
    (hC : h.get? C = some (excClassObj nm q C N bs bm hdct sn sub ab col dd k0 k1 k2 k3 k5 newId))
    (done : R (.ok (.ret (.ref (h.objs.size + 1)))) ⟨(h.push (kdv_tup rest)).push (excO C h.objs.size), g, d, t, os⟩) (few : rest.length ≤ sizeLine) :
    codeAny (model prog w) A (.builtin newId ⟨.ref C :: rest, kw⟩) R ⟨h, g, d, t, os⟩ := by
  have := F.ends
  have yes : (Value.ref C :: bm).contains (.type B) = true := by
    rw [List.contains_cons, hT, F.hasB]
    exact Bool.or_true _
  have no1 : (Value.ref C :: bm).contains (.type "AttributeError") = false := by
    rw [List.contains_cons, hT, F.noAttr]
    rfl
  have no2 : (Value.ref C :: bm).contains (.type "NameError") = false := by
    rw [List.contains_cons, hT, F.noName]
    rfl
  refine codeAny_builtinAt F.entry ?_
  unfold Builtin.«BaseException.__new__»
  refine wpAt_bind ?_
  show wpAt _ _ _ (stack >>= _) _ _ _
  refine wpAt_bind (wpAt_stack fun p below => wpAt_of_wpAny ?_)
  wp_walk
  refine wpAt_of_wpAny ?_
  rw [F.owner]
  repeat
    first
      | with_reducible refine wpAny_madeHere_exc F.canon hC ?_
      | with_reducible refine wpAny_loadPart_at hC ?_
      | (with_reducible refine wpAny_isSubtype_exc hC ?_
         first
           | rw [yes]
           | rw [no1]
           | rw [no2])
      | wp_step
  show R _ _
  rw [Heap.size_push]
  exact done
theorem call_cls (F : ExcBaseFacts B newId initId bmB) (hT : ∀ Y : String, bm.contains (.type Y) = bmB.contains (.type Y)) {rest : List Value} {kw : List (Str × Value)} {fI : Addr} {Q : PySem.Fin → Shared → Prop}
    (hC : h.get? C = some (excClassObj nm q C N bs bm hdct sn sub ab col dd k0 k1 k2 k3 k5 newId))
    (hi : Looks (model prog w) h (typeLookup (.ref C) "__init__") (some (.ref fI))) (hb : ∀ self, Looks (model prog w) h (bindSpecial (.ref fI) self) (.ref fI, [self])) (few : rest.length ≤ sizeLine)
    (done : codeAny (model prog w) A (.call (.ref fI) ⟨.ref (h.objs.size + 1) :: rest, kw⟩)
      (fun r s' => match r with
        | .ok (.ret v) => v = .none ∧ Q (.done (.ret (.ref (h.objs.size + 1)))) s'
        | .ok _ => False
        | .error e => E e s')
      ⟨(h.push (kdv_tup rest)).push (excO C h.objs.size), g, d, t, os⟩) :
    wpAny (model prog w) A (Builtin.«type.__call__» ⟨.ref C :: rest, kw⟩) Q E ⟨h, g, d, t, os⟩ := by
  repeat
    first
      | with_reducible refine wpAny_loadPart_at hC ?_
      | with_reducible refine wpAny_madeBy_exc hC ?_
      | wp_step
  refine codeAny_call_builtin_code (Code.quiet_builtin _ F.quiet) (look_new F hT hC ?_)
  refine make_new F hT hC ?_ few
  show wpAny _ _ _ _ _ _
  have keeps : ∀ b o, h.get? b = some o → ((h.push (kdv_tup rest)).push (excO C h.objs.size)).get? b = some o := fun b o e => Heap.get?_push_of_some _ (Heap.get?_push_of_some _ e)
  have hC' := keeps _ _ hC
  have got : ((h.push (kdv_tup rest)).push (excO C h.objs.size)).get? (h.objs.size + 1) = some (excO C h.objs.size) := by heap_get
  have self : (Value.ref C :: bm).contains (.ref C) = true := by simp
  have i' := hi.keeps keeps
  have b' := (hb (.ref (h.objs.size + 1))).keeps keeps
  unfold isInstance
  repeat
    first
      | with_reducible refine wpAny_loadPart_at got ?_
      | (with_reducible refine wpAny_isSubtype_exc hC' ?_
         rw [self])
      | wp_step
  show wpAny _ _ (typeLookup (.ref C) _) _ _ _
  refine i'.at ?_
  refine wpAny_holding (wpAny_bind (b'.at ?_))
  refine wpAny_bind (wpAny_call (codeAny_mono done fun r s' z => ?_))
  rcases r with e | (v | _ | _ | _)
  any_goals
    first
      | exact z
      | exact z.elim
  obtain ⟨rfl, z⟩ := z
  first
    | exact wpAny_pure (wpAny_pure z)
    | (wp_walk
       exact z)
theorem call_made (F : ExcBaseFacts B newId initId bmB) (hT : ∀ Y : String, bm.contains (.type Y) = bmB.contains (.type Y)) {rest : List Value} {kw : List (Str × Value)} {fI : Addr}
    (hC : h.get? C = some (excClassObj nm q C N bs bm hdct sn sub ab col dd k0 k1 k2 k3 k5 newId))
    (hi : Looks (model prog w) h (typeLookup (.ref C) "__init__") (some (.ref fI))) (hb : ∀ self, Looks (model prog w) h (bindSpecial (.ref fI) self) (.ref fI, [self])) (few : rest.length ≤ sizeLine)
    (done : codeAny (model prog w) (A.under (.builtin "type.__call__" ⟨.ref C :: rest, kw⟩)) (.call (.ref fI) ⟨.ref (h.objs.size + 1) :: rest, kw⟩) (InitBack (h.objs.size + 1) R)
      ⟨(h.push (kdv_tup rest)).push (excO C h.objs.size), g, d, t, os⟩) :
    codeAny (model prog w) A (.call (.ref C) ⟨rest, kw⟩) R ⟨h, g, d, t, os⟩ := by
  have l1 := tc_lookup
  have l2 := tc_bind (.ref C)
  have isT : (⟨h, g, d, t, os⟩ : Shared).TypeIs (.ref C) "type" := ⟨_, hC, rfl⟩
  refine codeAny_of_tree ?_
  show wpAny _ _ (callAny (.ref C) _) _ _ _
  repeat
    any_goals
      first
        | assumption
        | with_reducible refine wpAny_loadPart_at hC ?_
        | wp_step
  refine ⟨rfl, ?_⟩
  refine codeAny_call_builtin_at (Code.quiet_builtin _ (by decide +kernel)) entry_typeCall (wpAny_check_type_call_sub hC (call_cls F hT hC hi hb few ?_))
  refine codeAny_mono done fun r s' z => ?_
  rcases r with e | (v | _ | _ | _) <;> exact z
end
end PySem.XV
namespace PySem.XV
open PySem PySem.W PySem.Calls PyProof.Rows PySem.HandSPX Builtin Builtin.ObjectAttr
/-- what the written part says of such a class -/
structure XC (K : PySem.W.Frag) (C : Addr) : Prop where
  ini : excInitIn K C exT "Exception.__new__" = true
  over : excOver K C exT = true
  sa : findIn K (.ref C) "__setattr__" = some (some (.builtin "object.__setattr__"))
  ga : findIn K (.ref C) "__getattribute__" = some (some (.builtin "BaseException.__getattribute__"))
  gg : findIn K (.ref C) "__getattr__" = some none
  exC : subIn K (.ref C) (.type "BaseException") = some true
  tyC : typeIn K (.ref C) = some (.type "type")
  kC : keepIn K (.ref C) = true
  hd : hasDictIn K C = true
  ca : findIn K (.ref C) "__class__" = some (some (.builtin "object.__class__"))
  cg : specialIn K (.builtin "object.__class__") "__get__" = some (some (.builtin "getset_descriptor.__get__"))
  ct : takesIn K (.builtin "object.__class__") = some true
  cm : mroIn K C (.type "object") = some true
section
variable {prog : Program} {w : World} {A : Around} {E : Value → Shared → Prop} {s : Shared} {K : Frag} {x C : Addr} {fv : Array Value} {name : Str} {u : Value} {Q : Unit → Shared → Prop}
/-- x.name = u, x without a dict as yet -/
theorem put_new (T : XC K C) (X : K.In s.heap) (no : findIn K (.ref C) name = some none) (hx : s.heap.get? x = some ({ cls := .ref C, data := .fields fv } : Obj))
    (done : ∀ (h' : Heap) (tk : Nat) (dx : Addr), (∀ b o, b ≠ x → s.heap.get? b = some o → h'.get? b = some o) → s.heap.objs.size ≤ dx → dx ≠ x → h'.get? x = some ({ cls := .ref C, dict := some dx, data := .fields fv } : Obj) →
      h'.Ns1 dx (fun y => if y = name then some u else none) → Q () { s with heap := h', toks := tk }) : wpAny (model prog w) A (setAttr (.ref x) name u) Q E s := by
  obtain ⟨hp, g, d, t, os⟩ := s
  obtain ⟨cd, hcd, hdc⟩ := any_some T.hd
  have J : InstAt hp x { cls := .ref C, data := .fields fv } C none := ⟨hx, rfl, rfl, trivial⟩
  have apart : x ≠ hp.objs.size := Nat.ne_of_lt (Heap.lt_size hx)
  have cls : W.Looks (model prog w) hp (classData C) cd := looks_clsIn X hcd
  refine set_plain X (ox := { cls := .ref C, data := .fields fv }) (od := none) J T.sa ?_
  refine osa_openX F.store_Exception X J T.over (show takerIn K C name = some none from L2.NoAttr.taker no) fun b => ?_
  show wpAny _ _ (storeInOwnDict (.ref x) (.ref C) _ name u b) _ _ _
  obtain ⟨nm, bs, mro, ns, qn, hd, sn, sb, ab, col, del⟩ := cd
  dsimp only at hdc
  subst hdc
  unfold storeInOwnDict ownDictForStores
  repeat
    first
      | with_reducible refine store_in_new ?_ ?_
      | with_reducible refine wpAny_loadPart_at hx ?_
      | with_reducible refine cls.at ?_
      | wp_step
  · exact ⟨_, #[], _, (Heap.get?_update_ne _ _ _ _ apart.symm).trans (Heap.get?_push_at rfl rfl), rfl, fun e he => absurd he (by simp), fun _ => rfl⟩
  · intro h' tk' hn' hs
    have hx' : (hp.push { cls := .type "dict", data := .dict #[] }).get? x = some { cls := .ref C, data := .fields fv } := Heap.get?_push_of_some _ hx
    refine done h' tk' hp.objs.size (fun b o hb ho => ?_) (Nat.le_refl _) apart.symm ((hs.2 x apart).trans (Heap.get?_update_self _ hx' rfl)) hn'
    exact ((hs.2 b (Nat.ne_of_lt (Heap.lt_size ho))).trans (Heap.get?_update_ne _ _ _ _ hb)).trans (Heap.get?_push_of_some _ ho)
/-- x.name = u, x with a dict -/
theorem put_old {dx : Addr} {m0 : Str → Option Value} {nl : List Str} (T : XC K C) (X : K.In s.heap) (no : findIn K (.ref C) name = some none) (hx : s.heap.get? x = some ({ cls := .ref C, dict := some dx, data := .fields fv } : Obj))
    (hm : s.heap.Ns1 dx m0) (hw : Within m0 nl) (few : nl.length ≤ 1000)
    (done : ∀ (h' : Heap) (tk : Nat), (∀ b o, b ≠ dx → s.heap.get? b = some o → h'.get? b = some o) → h'.Ns1 dx (fun y => if y = name then some u else m0 y) → Q () { s with heap := h', toks := tk }) :
    wpAny (model prog w) A (setAttr (.ref x) name u) Q E s := by
  obtain ⟨hp, g, d, t, os⟩ := s
  obtain ⟨cd, hcd, hdc⟩ := any_some T.hd
  obtain ⟨oD, esD, epD, hoD, hdD, _⟩ := hm.count hw
  have J : InstAt hp x { cls := .ref C, dict := some dx, data := .fields fv } C (some oD) := ⟨hx, rfl, rfl, hoD⟩
  have cls : W.Looks (model prog w) hp (classData C) cd := looks_clsIn X hcd
  refine set_plain X (ox := { cls := .ref C, dict := some dx, data := .fields fv }) (od := some oD) J T.sa ?_
  refine osa_openX F.store_Exception X J T.over (show takerIn K C name = some none from L2.NoAttr.taker no) fun b => ?_
  show wpAny _ _ (storeInOwnDict (.ref x) (.ref C) _ name u b) _ _ _
  obtain ⟨nm, bs, mro, ns, qn, hd, sn, sb, ab, col, del⟩ := cd
  dsimp only at hdc
  subst hdc
  unfold storeInOwnDict ownDictForStores
  repeat
    first
      | with_reducible refine OEX.store_in_old hm hw few ?_
      | with_reducible refine wpAny_loadPart_at hx ?_
      | with_reducible refine cls.at ?_
      | wp_step
  intro h' tk' hn' hs
  exact done h' tk' (fun b o hb ho => (hs.2 b hb).trans ho) hn'
end
end PySem.XV
namespace Rh
open PySem PySem.XV L2
section
variable {X : Cx} {pins : List (Addr × Obj)} {σ : St} {H : Hp} {s : Shared} {a C : Addr} {f : Str} {y : V} {u : Value} {fs : List (Str × V)} {Q : Unit → Shared → Prop} {E : Value → Shared → Prop} {A : Around}
/-- a tracked thing changed and a new one laid, both at once -/
theorem inv_two {h' : Heap} {dx : Addr} {o1 o2 : HO} {t' : Nat} (I : Inv X pins σ H s) (ha : ∃ φ, H a = some (.ext φ)) (new : s.heap.objs.size ≤ dx) (k : ∀ b o, b ≠ a → s.heap.get? b = some o → h'.get? b = some o) (there : ∃ o, h'.get? a = some o)
    (p1 : ObjOk X.prog X.w (upd (upd H dx o2) a o1) h' a o1) (p2 : ObjOk X.prog X.w (upd (upd H dx o2) a o1) h' dx o2) : Inv X pins σ (upd (upd H dx o2) a o1) { s with heap := h', toks := t' } := by
  obtain ⟨φ, ha⟩ := ha
  have hd : H dx = none := I.hok.fresh new
  have na : ∀ b, H b = none → b ≠ a := fun b n z => by
    rw [z, ha] at n
    cases n
  have nd : ∀ b o, s.heap.get? b = some o → b ≠ dx := fun b o q => Nat.ne_of_lt (Nat.lt_of_lt_of_le (Heap.lt_size q) new)
  have nk : ∀ b o, H b = some o → (∀ ψ, o ≠ .ext ψ) → b ≠ a := fun b o q n z => by
    rw [z, ha] at q
    exact n φ (Option.some.inj q).symm
  have st : ∀ b o, H b = some o → (∀ ψ, o ≠ .ext ψ) → upd (upd H dx o2) a o1 b = some o := fun b o q n => by
    rw [upd_ne (nk b o q n), upd_ne (ne_of_none q hd)]
    exact q
  refine I.un ⟨fun b o q n _ _ => k b o (na b n) q, fun b o q n _ _ => ⟨_, k b o (na b n) q⟩, fun b o q n _ => ?_, fun b o q _ => ?_, fun b xs q => st b _ q (fun _ z => nomatch z), fun b o v q => st b _ q (fun _ z => nomatch z), fun b ps q => ⟨#[], ?_⟩⟩ fun b o q => ?_
  · rw [upd_ne (na b n), upd_ne (nd b o q)]
    exact n
  · by_cases hb : b = a
    · rw [hb]
      exact there
    · exact ⟨o, k b o hb q⟩
  · rw [st b _ q (fun _ z => nomatch z), Array.append_empty]
  · by_cases hb : b = a
    · subst hb
      rw [upd_same] at q
      cases q
      exact p1
    · rw [upd_ne hb] at q
      by_cases hbd : b = dx
      · subst hbd
        rw [upd_same] at q
        cases q
        exact p2
      · rw [upd_ne hbd] at q
        refine (I.hok b o q).stay (fun c v hc z => k c v ?_ z) (fun c hc => st c _ hc (fun _ z => nomatch z)) fun c xs hc => st c _ hc (fun _ z => nomatch z)
        rcases hc with hc | hc
        · rw [hc]
          exact hb
        · exact nk c _ hc (fun _ z => nomatch z)
theorem set_first (T : XC X.K C) (I : Inv X pins σ H s) (e : H a = some (exo a C none)) (no : PySem.W.findIn X.K (.ref C) f = some none) (ry : RelV y u)
    (done : ∀ dx s', H dx = none → dx ≠ a → Inv X pins σ (upd (upd H dx (exd dx [(f, y)])) a (exo a C (some dx))) s' → Q () s') : wpAny (model X.prog X.w) A (setAttr (.ref a) f u) Q E s := by
  obtain ⟨t1, ho⟩ := exo_at I.hok e
  refine put_new T I.kIn no ho fun h' tk dx k new ne hx hn => ?_
  exact done dx _ (I.hok.fresh new) ne (inv_two I ⟨_, e⟩ new k ⟨_, hx⟩ (exo_ok hx) (exd_ok hn (relO_put (fs := []) ry fun g => True.intro)))
theorem set_next {dx : Addr} (T : XC X.K C) (I : Inv X pins σ H s) (e : H a = some (exo a C (some dx))) (ed : H dx = some (exd dx fs)) (few : fs.length ≤ 900) (no : PySem.W.findIn X.K (.ref C) f = some none) (ry : RelV y u)
    (done : ∀ s', Inv X pins σ (upd H dx (exd dx ((f, y) :: fs))) s' → Q () s') : wpAny (model X.prog X.w) A (setAttr (.ref a) f u) Q E s := by
  obtain ⟨t1, ho⟩ := exo_at I.hok e
  obtain ⟨mA, hm, rel⟩ := exd_at I.hok ed
  refine put_old T I.kIn no ho hm (within_of rel) (by rw [List.length_map]; omega) fun h' tk k hn => ?_
  have there : ∃ o, h'.get? dx = some o := by
    obtain ⟨o, _, _, q, _⟩ := hn
    exact ⟨o, q⟩
  exact done _ (I.write (by rw [ed]; exact True.intro) (.inl rfl) k there (exd_ok hn (relO_put ry rel)))
end
end Rh
namespace Rh
open PySem PySem.Spec PyProof.Rows PySem.XV PySem.HandSPX L2
/-- self.f = e, self an error in the making -/
def tXset (K : PySem.W.Frag) (f : Str) (to te : TE) : TS := fun D σ H => te σ H fun y H1 => to σ H1 fun x H2 => ∃ a C : Addr, x = .ref a ∧ XC K C ∧ PySem.W.findIn K (.ref C) f = some none ∧
  ((H2 a = some (exo a C none) ∧ ∀ dx, H2 dx = none → dx ≠ a → D.nx σ (upd (upd H2 dx (exd dx [(f, y)])) a (exo a C (some dx)))) ∨
    ∃ (dx : Addr) (fs : List (Str × V)), H2 a = some (exo a C (some dx)) ∧ H2 dx = some (exd dx fs) ∧ fs.length ≤ 900 ∧ D.nx σ (upd H2 dx (exd dx ((f, y) :: fs))))
/-- e.f, e an error -/
def tXat (K : PySem.W.Frag) (f : Str) (te : TE) : TE := fun σ H Q => te σ H fun x H1 => ∃ (a C dx : Addr) (fs : List (Str × V)) (v : V), x = .ref a ∧ H1 a = some (exo a C (some dx)) ∧ H1 dx = some (exd dx fs) ∧ XC K C ∧
  PySem.W.findIn K (.ref C) f = some none ∧ fs.lookup f = some v ∧ Q v H1
/-- C(e, .., k = v, ..) -/
def tXmk (C : Addr) (n m : Nat) (sp : Sp) (gV : List V → List V → List V) (E : XK) (t tk : TA) : TE := fun σ H Q => t σ H fun vs H1 => tk σ H1 fun zs H2 => vs.length = n ∧ zs.length = m ∧
  ∀ a, H2 a = none → sp (gV (.ref a :: vs) zs) (upd H2 a (exo a C none)) (fun v H3 => v = .non ∧ Q (.ref a) H3) E
/-- isinstance(e, c), e an error -/
def rXis (K : PySem.W.Frag) : List V → Hp → VK → Prop := fun xs H Q => ∃ (a C dx : Addr) (fs : List (Str × V)) (c : V) (u : Value) (b : Bool), xs = [.ref a, c] ∧ H a = some (exo a C (some dx)) ∧ H dx = some (exd dx fs) ∧ XC K C ∧ ClsV c u ∧
  PySem.W.kitOne K (.ref C) u = some b ∧ Q (.bl b) H
section
variable {X : Cx} {CX : CXT} {k n : Nat} {fI C : Addr} {fd : FuncData} {ps ks : List Str} {sp : Sp} {E : XK} {x f : Str} {p p' pos : Pos} {o e : Expr} {es : List Expr} {kws : List Keyword} {t tk : TA} {to te : TE} {g : List Value → List Value → List Value} {gV : List V → List V → List V}
theorem ps_xset (ho : PE X o to) (he : PE X e te) (hs : swapsWith e (some (.Attribute o f p')) pos.line X.env = pure false := by rfl) : PS X (.Assign [.Attribute o f p'] e pos) (tXset X.K f to te) := by
  refine ⟨fun pins s σ H D I h => ?_⟩
  refine plainObj_wpAny_Assign_Attribute (thn (he.run pins s σ H _ I h) fun v s1 r => ?_) hs
  obtain ⟨y, H1, I1, ry, q1⟩ := r
  refine thn (ho.run pins s1 σ H1 _ I1 q1) fun u s2 r => ?_
  obtain ⟨z, H2, I2, rz, a, C, rfl, T, no, q⟩ := r
  cases rz
  rcases q with ⟨ea, q⟩ | ⟨dx, fs, ea, ed, few, q⟩
  · exact set_first T I2 ea no ry fun dx s' nd ne J => ⟨σ, _, J, q dx nd ne⟩
  · exact set_next T I2 ea ed few no ry fun s' J => ⟨σ, _, J, q⟩
theorem pe_xat (he : PE X e te) (hb : attributeBase e f X.env (eval e X.env) = eval e X.env := by rfl) : PE X (.Attribute e f pos) (tXat X.K f te) := by
  refine ⟨fun pins s σ H Q I h => ?_⟩
  refine attr_of hb (thn (he.run pins s σ H _ I h) fun u s1 r => ?_)
  obtain ⟨z, H1, I1, rz, a, C, dx, fs, v, rfl, ea, ed, T, no, l, q⟩ := r
  cases rz
  obtain ⟨t1, ho⟩ := exo_at I1.hok ea
  obtain ⟨mA, hm, rel⟩ := exd_at I1.hok ed
  obtain ⟨od, hod, look⟩ := lookIn_ns hm
  obtain ⟨w, hw, rw'⟩ := RelO.some_of (v := v) (o := mA f) (by rw [← l]; exact rel f)
  have J : PySem.W.InstAt s1.heap a _ C (some od) := ⟨ho, rfl, rfl, hod⟩
  exact exc_get I1.kIn J T.ga T.gg T.exC (PySem.W.findObj_own T.hd no rfl (by rw [look, hw])) (handed_of rw') ⟨v, H1, I1.tok _, rw', q⟩
theorem call_xis : CallR X (.builtin "isinstance") (rXis X.K) := by
  intro pins s σ H xs us Q I r h
  obtain ⟨a, C, dx, fs, c, u, b, rfl, ea, ed, T, kc, kit, q⟩ := h
  obtain ⟨u1, u2, rfl, r1, r2⟩ := vals2 r
  cases r1
  have e2 := kc.eq r2
  subst e2
  obtain ⟨t1, ho⟩ := exo_at I.hok ea
  obtain ⟨mA, hm, rel⟩ := exd_at I.hok ed
  obtain ⟨od, hod, look⟩ := lookIn_ns hm
  have J : PySem.W.InstAt s.heap a _ C (some od) := ⟨ho, rfl, rfl, hod⟩
  have hc : (PySem.W.clsIn X.K C).isSome = true := by
    obtain ⟨cd, hc, _⟩ := PySem.W.any_some T.hd
    rw [hc]
    rfl
  exact PySem.W.kia_one (PySem.W.kitx_exc hc T.ga T.gg T.exC T.ca T.cg T.ct T.cm) I.kIn J kit (fun z => nomatch z) fun tk => ⟨.bl b, H, I.tok tk, rfl, q⟩
theorem run_xmk {pins : List (Addr × Obj)} {σ : L2.St} {H : Hp} {s : Shared} {Q : VK} {us ws : List Value} {vs zs : List V} (T : XC X.K C) (iC : PySem.W.findIn X.K (.ref C) "__init__" = some (some (.ref fI))) (tI : PySem.W.typeIn X.K (.ref fI) = some (.type "function"))
    (G : FnOk X.prog X.w X.K X.mg X.base CX k fI fd ps sp) (hr : Room (k + 1) X.A) (hb : KBn X.K fd ps (n + 1) ks g gV) (hx : Passes CX X E) (I : Inv X pins σ H s) (r : Vals vs us) (rz : Vals zs ws) (l1 : vs.length = n) (l2 : zs.length = ks.length) (few : n ≤ 1000)
    (h : ∀ a, H a = none → sp (gV (.ref a :: vs) zs) (upd H a (exo a C none)) (fun v H3 => v = .non ∧ Q (.ref a) H3) E) : wpAny (model X.prog X.w) X.A (call (.ref C) us (ks.zip ws)) (EP X pins σ Q) X.xe s := by
  obtain ⟨hp, g0, dr, tk, os⟩ := s
  obtain ⟨nm, N, qn, bs, bm, hdct, sn, sub, ab, col, dd, k0, k1, k2, k3, k5, hC, hT⟩ := PySem.W.excInit_of I.kIn T.ini
  have fresh : H (hp.objs.size + 1) = none := I.hok.fresh (Nat.le_succ _)
  have hq := h (hp.objs.size + 1) fresh
  have kk : ∀ b o, hp.get? b = some o → ((hp.push (PySem.W.kdv_tup us)).push (excO C hp.objs.size)).get? b = some o := fun b o e => Heap.get?_push_of_some _ (Heap.get?_push_of_some _ e)
  have got : ((hp.push (PySem.W.kdv_tup us)).push (excO C hp.objs.size)).get? (hp.objs.size + 1) = some (excO C hp.objs.size) := by heap_get
  have I2 : Inv X pins σ (upd H (hp.objs.size + 1) (exo (hp.objs.size + 1) C none)) ⟨(hp.push (PySem.W.kdv_tup us)).push (excO C hp.objs.size), g0, dr, tk, os⟩ := I.laid (t' := tk) kk (Nat.le_succ _) (exo_ok got)
  have r1 : Vals (V.ref (hp.objs.size + 1) :: vs) (Value.ref (hp.objs.size + 1) :: us) := .cons rfl r
  have r2 := hb.rel r1 rz
  have n1 : (Value.ref (hp.objs.size + 1) :: us).length = n + 1 := r1.length.symm.trans (congrArg Nat.succ l1)
  have line : us.length ≤ sizeLine := by
    rw [← Paired.length r, l1, sizeLine_eq]
    omega
  refine wpAny_call (call_made F.excBase_Exception hT hC (PySem.W.looks_findIn I.kIn iC) (fun self => PySem.W.bind_fn I.kIn self tI) line ?_)
  refine codeAny_mono (G.run _ X.stack _ _ ⟨Value.ref (hp.objs.size + 1) :: us, ks.zip ws⟩ (g (Value.ref (hp.objs.size + 1) :: us) ws) _ _ E (hr.make C us (ks.zip ws)) (I2.env0.make C us (ks.zip ws)) (hb.to _ _ ws I2.kIn n1 (rz.length.symm.trans l2)) r2 hq) fun r s' hq' => ?_
  cases r with
  | error er => exact hx pins σ _ _ er s' I2 hq'
  | ok fl =>
    cases fl with
    | ret u =>
      obtain ⟨v, H', I3, rv, ev, q3⟩ := I2.after hq'
      subst ev
      exact ⟨rv, ⟨V.ref (hp.objs.size + 1), H', I3, rfl, q3⟩⟩
    | _ => exact False.elim hq'
theorem pe_xmk (T : XC X.K C) (iC : PySem.W.findIn X.K (.ref C) "__init__" = some (some (.ref fI))) (tI : PySem.W.typeIn X.K (.ref fI) = some (.type "function")) (G : FnOk X.prog X.w X.K X.mg X.base CX k fI fd ps sp) (hr : Room (k + 1) X.A) (hm : X.mg x = some (.ref C))
    (hb : KBn X.K fd ps (n + 1) [] g gV) (hx : Passes CX X E) (few : n ≤ 1000) (ha : PA X (e :: es) t) (hg : Gl X x := by rfl) (hdb : (x == ("__debug__" : Str)) = false := by decide)
    (he : starEach (e :: es) X.env = (false, eval e X.env) :: starEach es X.env := by rfl) (hpl : (backTo pos (starEach es X.env)).any (·.1) = false := by rfl) : PE X (.Call (.Name x p) (e :: es) [] pos) (tXmk C n 0 sp gV E t tNil) := by
  refine ⟨fun pins s σ H Q I h => ?_⟩
  refine wpAny_Call_Name_kw (ld_glob I hg hm ?_ hdb)
  refine PySem.W.callWith_K (h₀ := X.base) I.ok.mod.kin T.kC (thn (ha.run pos pins s σ H _ I h) fun us s1 r => ?_) he hpl
  obtain ⟨vs, H1, I1, rv, l1, l2, q⟩ := r
  exact ⟨I1.kIn, run_xmk (ws := []) (zs := []) T iC tI G hr hb hx I1 rv .nil l1 l2 few q⟩
theorem pe_xmk0 (T : XC X.K C) (iC : PySem.W.findIn X.K (.ref C) "__init__" = some (some (.ref fI))) (tI : PySem.W.typeIn X.K (.ref fI) = some (.type "function")) (G : FnOk X.prog X.w X.K X.mg X.base CX k fI fd ps sp) (hr : Room (k + 1) X.A) (hm : X.mg x = some (.ref C))
    (hb : KBn X.K fd ps 1 ks g gV) (hx : Passes CX X E) (hkw : PK X kws tk) (hg : Gl X x := by rfl) (hall : (backToKw pos (keywordEach kws X.env)).all (·.1.isSome) = true := by rfl) (hks : (backToKw pos (keywordEach kws X.env)).filterMap (·.1) = ks := by rfl)
    (hdb : (x == ("__debug__" : Str)) = false := by decide) (hpl : ((backTo pos (starEach [] X.env)).any (·.1) || (backToKw pos (keywordEach kws X.env)).any (·.1.isNone)) = false := by rfl) :
    PE X (.Call (.Name x p) [] kws pos) (tXmk C 0 ks.length sp gV E tNil tk) := by
  refine ⟨fun pins s σ H Q I h => ?_⟩
  refine wpAny_Call_Name_kw (ld_glob I hg hm ?_ hdb)
  refine PySem.W.callWith_KW0 (h₀ := X.base) I.ok.mod.kin T.kC hall ?_ hpl
  refine thn (hkw.run pos pins s σ H _ I h) fun ws s2 r => ?_
  obtain ⟨zs, H2, I2, rz, l1, l2, q⟩ := r
  refine ⟨I2.kIn, ?_⟩
  rw [hks]
  exact run_xmk (us := []) (vs := []) T iC tI G hr hb hx I2 .nil rz rfl l2 (Nat.zero_le _) q
end
end Rh
namespace Rh
open PySem PySem.Spec PyProof.Rows PySem.XV PySem.HandSPX L2
/-- isinstance(n, c) in a suite that holds the error a as n -/
def rXsu (K : PySem.W.Frag) (a : Addr) (cls : Value) (d : Option Addr) : List V → Hp → VK → Prop := fun xs H Q => ∃ (C dx : Addr) (fs : List (Str × V)) (c : V) (u : Value) (b : Bool), cls = .ref C ∧ d = some dx ∧ XC K C ∧ H dx = some (.xd fs) ∧
  xs = [.ref a, c] ∧ ClsV c u ∧ PySem.W.kitOne K (.ref C) u = some b ∧ Q (.bl b) H
section
variable {X : Cx} {CX : CXT} {k : Nat} {fI C : Addr} {fd : FuncData} {ps : List Str} {sp : Sp} {x : Str} {p pos : Pos} {e : Expr} {es : List Expr} {ta : TA} {ds : List Value} {dvs : List V}
theorem call_xsu {a : Addr} {oe : Obj} {cls : Value} {d : Option Addr} {pn : List (Addr × Obj)} (hz : Zc cls d oe) (hf : ∃ vs, oe.data = .fields vs) : CallR (X.suite a ((a, oe) :: pn)) (.builtin "isinstance") (rXsu X.K a cls d) := by
  intro pins s σ H xs us Q I r h
  obtain ⟨C, dx, fs, c, u, b, rfl, rfl, T, ed, rfl, kc, kit, q⟩ := h
  obtain ⟨u1, u2, rfl, r1, r2⟩ := vals2 r
  cases r1
  have e2 := kc.eq r2
  subst e2
  obtain ⟨ha, _⟩ := I.pin (a, oe) (List.mem_append.mpr (.inl List.mem_cons_self))
  obtain ⟨vs, hv⟩ := hf
  have hx : ObjOk X.prog X.w H s.heap dx (.xd fs) := I.hok dx _ ed
  obtain ⟨mA, hm, rel⟩ := hx
  obtain ⟨od, hod, look⟩ := lookIn_ns hm
  have J : PySem.W.InstAt s.heap a oe C (some od) := by
    refine ⟨ha, hz.1, ?_, ?_⟩
    · unfold PySem.W.notCls
      first
        | rw [hv]
        | (rw [hv]
           rfl)
    · rw [hz.2]
      exact hod
  have hc : (PySem.W.clsIn X.K C).isSome = true := by
    obtain ⟨cd, hc, _⟩ := PySem.W.any_some T.hd
    rw [hc]
    rfl
  exact PySem.W.kia_one (PySem.W.kitx_exc hc T.ga T.gg T.exC T.ca T.cg T.ct T.cm) I.kIn J kit (fun z => nomatch z) fun tk => ⟨.bl b, H, I.kept (t' := tk) fun _ _ z => z, rfl, q⟩
theorem pmk_x (T : XC X.K C) (iC : PySem.W.findIn X.K (.ref C) "__init__" = some (some (.ref fI))) (tI : PySem.W.typeIn X.K (.ref fI) = some (.type "function")) (G : FnOk X.prog X.w X.K X.mg X.base CX k fI fd ps sp) (hr : Room (k + 1) X.A)
    (hb : Binds X.K fd ps ds) (hd : Vals dvs ds) (hx : Passes CX X (fun _ _ _ => False)) (hm : X.mg x = some (.ref C)) (ha : PA X (e :: es) ta) (hg : Gl X x := by rfl) (hdb : (x == ("__debug__" : Str)) = false := by decide)
    (he : starEach (e :: es) X.env = (false, eval e X.env) :: starEach es X.env := by rfl) (hpl : (backTo pos (starEach es X.env)).any (·.1) = false := by rfl) : PMk X (.Call (.Name x p) (e :: es) [] pos) (tMkO C sp dvs ta) := by
  intro pins s σ H Q I h
  refine wpAny_Call_Name_kw (ld_glob I hg hm ?_ hdb)
  refine PySem.W.callWith_K (h₀ := X.base) I.ok.mod.kin T.kC (thn (ha.run pos pins s σ H _ I h) fun us s1 r => ?_) he hpl
  obtain ⟨vs, H1, I1, rv, few, q1⟩ := r
  refine ⟨I1.kIn, ?_⟩
  show wpAny _ _ (call (.ref C) us) _ _ _
  obtain ⟨hp, g, dr, tk, os⟩ := s1
  obtain ⟨nm, N, qn, bs, bm, hdct, sn, sub, ab, col, dd, k0, k1, k2, k3, k5, hC, hT⟩ := PySem.W.excInit_of I1.kIn T.ini
  have fresh : H1 (hp.objs.size + 1) = none := I1.hok.fresh (Nat.le_succ _)
  have hq := q1 (hp.objs.size + 1) fresh
  have kk : ∀ b o, hp.get? b = some o → ((hp.push (PySem.W.kdv_tup us)).push (excO C hp.objs.size)).get? b = some o := fun b o e => Heap.get?_push_of_some _ (Heap.get?_push_of_some _ e)
  have got : ((hp.push (PySem.W.kdv_tup us)).push (excO C hp.objs.size)).get? (hp.objs.size + 1) = some (excO C hp.objs.size) := by heap_get
  have I2 : Inv X pins σ (upd H1 (hp.objs.size + 1) (exo (hp.objs.size + 1) C none)) ⟨(hp.push (PySem.W.kdv_tup us)).push (excO C hp.objs.size), g, dr, tk, os⟩ := I1.laid (t' := tk) kk (Nat.le_succ _) (exo_ok got)
  have r2 : Vals (V.ref (hp.objs.size + 1) :: (vs ++ dvs)) (Value.ref (hp.objs.size + 1) :: (us ++ ds)) := .cons rfl (rv.append hd)
  have n1 : (Value.ref (hp.objs.size + 1) :: us ++ ds).length = ps.length := by
    have e1 := r2.length
    rw [G.len _ _ _ _ hq] at e1
    exact e1.symm
  have line : us.length ≤ sizeLine := by
    rw [← Paired.length rv, sizeLine_eq]
    omega
  refine wpAny_call (call_made F.excBase_Exception hT hC (PySem.W.looks_findIn I1.kIn iC) (fun self => PySem.W.bind_fn I1.kIn self tI) line ?_)
  refine codeAny_mono (G.run _ X.stack _ _ ⟨Value.ref (hp.objs.size + 1) :: us, []⟩ (Value.ref (hp.objs.size + 1) :: (us ++ ds)) _ _ (fun _ _ _ => False) (hr.make C us []) (I2.env0.make C us []) (hb _ (Value.ref (hp.objs.size + 1) :: us) I2.kIn n1) r2 hq) fun r s' hq' => ?_
  cases r with
  | error er => exact hx pins σ _ _ er s' I2 hq'
  | ok fl =>
    cases fl with
    | ret u =>
      obtain ⟨v, H2, os2, bare2, un2, hok2, rw2, ev, d, fs, ea, ed, hd1, q2⟩ := hq'
      subst ev
      obtain ⟨h2, g2, d2, t2, os'⟩ := s'
      exact ⟨rw2, mk_end (raises_own T.exC T.tyC) I1 (Nat.le_succ _) kk un2 hok2 os2 bare2 ea ed hd1 q2⟩
    | _ => exact False.elim hq'
end
end Rh
namespace Rh
open PySem L2
def top (i : Nat) : Stmt := PySem.Challenge.pw_readhome_k00_errors.main.body.getD i (.Pass ⟨0, 0, 0, 0⟩)
abbrev sS : Stmt := top 10
abbrev sN : Stmt := top 11
abbrev sD : Stmt := top 12
abbrev sT : Stmt := top 13
theorem scN : FnScope ["script", "row", "cell", "left", "k", "mixed"] ["script"] (defScope sN) := ⟨rfl, rfl, rfl, by decide +kernel, rfl, by decide +kernel, by decide +kernel⟩
theorem scD : FnScope ["row", "at", "limit", "mixed"] ["row", "at", "limit"] (defScope sD) := ⟨rfl, rfl, rfl, by decide +kernel, rfl, by decide +kernel, by decide +kernel⟩
theorem scT : FnScope ["row", "spot", "limit"] ["row", "spot", "limit"] (defScope sT) := ⟨rfl, rfl, rfl, by decide +kernel, rfl, by decide +kernel, by decide +kernel⟩
theorem scS : FnScope ["found", "meant", "k"] ["found", "meant"] (defScope sS) := ⟨rfl, rfl, rfl, by decide +kernel, rfl, by decide +kernel, by decide +kernel⟩
structure TxB (mg : Str → Option Value) : Prop where
  isinstance : mg "isinstance" = none
  tuple : mg "tuple" = none
  bool : mg "bool" = none
  str : mg "str" = none
  len : mg "len" = none
  int : mg "int" = none
  range : mg "range" = none
def Row (r : List Int) : Prop := r ≠ [] ∧ r.length ≤ 4000
def spN (K : PySem.W.Frag) : Sp := fun vs H Q _ => ∃ (a : Addr) (ns : List Int), vs = [.ref a] ∧ SqL K H a (ns.map V.int) ∧ ns.length ≤ 63 ∧
  ∀ (H' : Hp) (p : Addr) (r : List Int), Same H H' → H p = none → H' p = some (.lst (r.map V.int)) → Row r → Q (.ref p) H'
def spD (K : PySem.W.Frag) : Sp := fun vs H Q _ => ∃ (a : Addr) (r : List Int) (j m : Int), vs = [.ref a, .int j, .int m] ∧ SqL K H a (r.map V.int) ∧ Row r ∧ 0 ≤ j ∧ 0 < m ∧
  ∀ z : Int, 0 ≤ z → z < m → Q (.int z) H
def spT (K : PySem.W.Frag) : Sp := fun vs H Q _ => ∃ (a b : Addr) (r : List Int) (j m : Int), vs = [.ref a, .ref b, .int m] ∧ SqL K H a (r.map V.int) ∧ Row r ∧ H b = some (.lst [.int j]) ∧ a ≠ b ∧ 0 ≤ j ∧ 0 < m ∧
  ∀ z : Int, 0 ≤ z → z < m → Q (.int z) (upd H b (.lst [.int (j + 1)]))
section
variable {P : Program} {w : World} {K : PySem.W.Frag} {mg : Str → Option Value} {base : Heap}
theorem sql_upd {a b : Addr} {o : HO} {xs : List V} {H : Hp} (n : a ≠ b) (h : SqL K H a xs) : SqL K (upd H b o) a xs := by
  rcases h with (h | ⟨u, h⟩) | h
  · exact .inl (.inl ((upd_ne n).trans h))
  · exact .inl (.inr ⟨u, (upd_ne n).trans h⟩)
  · exact .inr h
theorem cut_int {ns : List Int} {lo hi : Option Int} {i : Nat} {x : V} (h : (cutV (ns.map V.int) lo hi)[i]? = some x) : ∃ z : Int, x = .int z := by
  have m : x ∈ ns.map V.int := List.mem_of_mem_drop (List.mem_of_mem_take (List.mem_of_getElem? h))
  obtain ⟨z, _, e⟩ := List.mem_map.mp m
  exact ⟨z, e.symm⟩
theorem cut_lt {ns : List Int} {lo hi : Option Int} {i n : Nat} {x : V} (hn : ns.length ≤ n) (h : (cutV (ns.map V.int) lo hi)[i]? = some x) : i < n := by
  have q := (List.getElem?_eq_some_iff.mp h).1
  have l := cutV_length (ns.map V.int) lo hi
  rw [List.length_map] at l
  omega
theorem small1000' {n : Nat} (h : n ≤ 5000) : n < sizeLine := Nat.lt_of_le_of_lt h (by decide)
theorem at_row {r : List Int} {j : Int} (h0 : 0 ≤ j) (h1 : j < ((r.map V.int).length : Int)) : ∃ c : Int, atI (r.map V.int) j = some (.int c) := by
  rw [List.length_map] at h1
  have h2 : j.toNat < r.length := by omega
  refine ⟨r[j.toNat], at_of (j := j.toNat) (by omega) ?_⟩
  rw [List.getElem?_map, List.getElem?_eq_getElem h2]
  rfl
theorem ok_D {f : Addr} {fd : FuncData} (F : Fun K "_law_draw" "_law_draw" sD f fd) (T : TxB mg) : FnOk P w K mg base CX0 1 f fd ["row", "at", "limit"] (spD K) := by
  refine F.ok scD (fun vs H Q E h => ?_) (fun cdv A outer s H vs Q E hr h => ?_)
  · obtain ⟨a, r, j, m, rfl, _⟩ := h
    rfl
  · obtain ⟨a, r, j, m, rfl, hS, ⟨hr0, hr1⟩, hj, hm, k⟩ := h
    have hlen : 0 < r.length := by cases r with
      | nil => exact absurd rfl hr0
      | cons x y => exact Nat.succ_pos _
    refine ⟨_, (pss_cons (ps_if (pt_cmpR op_lt (pv 1) (pe_callB call_len_seq (by rfl) T.len PySem.boot_len (pa_cons (pv 0) pa_nil)) (nomark _)) (pss_one (ps_ret (pe_op op_mod (pe_callTy call_int1 (by rfl) T.int (by decide +kernel) (pa_cons (pe_ix ix_list (pv 0) (pv 1) (fun _ _ => rfl)) pa_nil)) (pv 2)))) pss_nil)
      (pss_cons (ps_set (i := 3) scD.nd rfl (Or.inl rfl) (pe_op op_mod (pe_callTy call_int1 (by rfl) T.int (by decide +kernel) (pa_cons (pe_op op_add (pe_op op_add (pe_op op_mul (pe_ix ix_list (pv 0) (pe_op op_mod (pe_callTy call_int1 (by rfl) T.int (by decide +kernel) (pa_cons (pv 1) pa_nil)) (pe_callB call_len_seq (by rfl) T.len PySem.boot_len (pa_cons (pv 0) pa_nil))) (fun _ _ => rfl)) pe_int) (pe_op op_mul (pv 1) pe_int)) pe_int) pa_nil)) pe_int))
      (pss_one (ps_ret (pe_op op_mod (pe_callTy call_int1 (by rfl) T.int (by decide +kernel) (pa_cons (pe_op op_mod (pe_callTy call_int1 (by rfl) T.int (by decide +kernel) (pa_cons (pe_op op_add (pe_op op_mul (pv 3) pe_int) (pv 1)) pa_nil)) pe_int) pa_nil)) (pv 2)))))), ?_⟩
    refine ⟨_, rfl, _, rfl, a, _, rfl, .inl hS, _, _, rfl, rfl, _, rfl, ?_⟩
    refine ite2 (fun hlt => ?_) (fun hge => ?_)
    · obtain ⟨c, hc⟩ := at_row hj (of_decide_eq_true hlt)
      refine ⟨_, rfl, _, rfl, a, _, _, _, rfl, rfl, hS, hc, .inl ⟨_, rfl, _, rfl, _, _, rfl, rfl, hm, k _ (Int.emod_nonneg _ (by omega)) (Int.emod_lt_of_pos _ hm)⟩⟩
    · have hz : (0 : Int) < ((r.map V.int).length : Int) := by
        rw [List.length_map]
        omega
      obtain ⟨c, hc⟩ := at_row (r := r) (j := j % ((r.map V.int).length : Int)) (Int.emod_nonneg _ (by omega)) (Int.emod_lt_of_pos _ hz)
      refine ⟨_, rfl, _, rfl, .inl ⟨_, rfl, _, rfl, a, _, rfl, .inl hS, _, _, rfl, rfl, hz, ?_⟩⟩
      refine ⟨a, _, _, _, rfl, rfl, hS, hc, _, _, rfl, rfl, .inr ⟨by decide, by decide⟩, _, rfl, _, _, rfl, rfl, .inr ⟨by decide, by decide⟩, _, _, rfl, rfl, _, _, rfl, rfl, .inl ⟨_, rfl, _, _, rfl, rfl, (by dsimp only; decide), ?_⟩⟩
      refine ⟨_, rfl, _, _, rfl, rfl, .inr ⟨by decide, by decide⟩, _, rfl, _, _, rfl, rfl, .inl ⟨_, rfl, _, _, rfl, rfl, (by dsimp only; decide), .inl ⟨_, rfl, _, rfl, _, _, rfl, rfl, hm, k _ (Int.emod_nonneg _ (by omega)) (Int.emod_lt_of_pos _ hm)⟩⟩⟩
theorem ok_T {f fD : Addr} {fd fdD : FuncData} (F : Fun K "_law_take" "_law_take" sT f fd) (T : TxB mg) (F_law_draw : Fun K "_law_draw" "_law_draw" sD fD fdD) (B_law_draw : Binds K fdD ["row", "at", "limit"] []) (g_law_draw : mg "_law_draw" = some (.ref fD)) : FnOk P w K mg base CX0 2 f fd ["row", "spot", "limit"] (spT K) := by
  have G_law_draw : FnOk P w K mg base CX0 1 fD fdD ["row", "at", "limit"] (spD K) := ok_D F_law_draw T
  refine F.ok scT (fun vs H Q E h => ?_) (fun cdv A outer s H vs Q E hr h => ?_)
  · obtain ⟨a, b, r, j, m, rfl, _⟩ := h
    rfl
  · obtain ⟨a, b, r, j, m, rfl, hS, hR, hb, hab, hj, hm, k⟩ := h
    refine ⟨_, (pss_cons (ps_asg (pe_op op_add (pe_ix ix_list (pv 1) pe_int (fun _ _ => rfl)) pe_int) (pg_sub (pv 1) pe_int set_list))
      (pss_one (ps_ret (pe_call G_law_draw hr rfl g_law_draw F_law_draw.kp B_law_draw .nil pass0 (pa_cons (pv 0) (pa_cons (pe_op op_sub (pe_ix ix_list (pv 1) pe_int (fun _ _ => rfl)) pe_int) (pa_cons (pv 2) pa_nil))))))), ?_⟩
    refine ⟨_, rfl, b, _, _, _, rfl, rfl, SqL.of hb, atI_nat (j := 0) rfl, _, _, rfl, rfl, _, rfl, b, _, _, 0, rfl, rfl, hb, rfl, ?_⟩
    refine ⟨_, rfl, _, rfl, b, _, _, _, rfl, rfl, SqL.of upd_same, atI_nat (j := 0) rfl, _, _, rfl, rfl, _, rfl, ?_⟩
    exact ⟨a, r, j + 1 - 1, m, rfl, sql_upd hab hS, hR, by omega, hm, k⟩
theorem ok_N {f : Addr} {fd : FuncData} (F : Fun K "_law_numbers" "_law_numbers" sN f fd) (T : TxB mg) : FnOk P w K mg base CX0 1 f fd ["script"] (spN K) := by
  refine F.ok scN (fun vs H Q E h => ?_) (fun cdv A outer s H vs Q E hr h => ?_)
  · obtain ⟨a, ns, rfl, _⟩ := h
    rfl
  · obtain ⟨a, ns, rfl, hS, hn, k⟩ := h
    refine ⟨_, (pss_cons (ps_set (i := 1) scN.nd rfl (Or.inl rfl) (pe_lst pa_nil))
      (pss_cons (ps_for PassesOwn.never rfl (pi_list (pe_slice sl_list (pv 0) po_none (po_some pe_int))) (pg_name (i := 2) scN.nd rfl (Or.inl rfl)) (pss_one (ps_if (pt_cmpR op_ge (pv 2) (pe_op op_pow pe_int pe_int) (nomark _)) (pss_cons (ps_set (i := 3) scN.nd rfl (Or.inl rfl) (pv 2))
      (pss_one (ps_for PassesOwn.never rfl (pi_range1 rfl T.range (pa_cons pe_int pa_nil)) (pg_name (i := 4) scN.nd rfl (Or.inl rfl)) (pss_cons (ps_if (pt_cmpR op_eq (pv 3) pe_int (nomark _)) (pss_one ps_break) pss_nil)
      (pss_cons (ps_expr (pe_bm PySem.F.plainAttrs_list PySem.F.slot_list_append PySem.F.type_list_append mt_append (pv 1) (pa_cons (pe_op op_mod (pe_callTy call_int1 (by rfl) T.int (by decide +kernel) (pa_cons (pv 3) pa_nil)) pe_int) pa_nil)))
      (pss_one (ps_set (i := 3) scN.nd rfl (Or.inl rfl) (pe_op op_fdiv (pv 3) pe_int)))))))) (pss_one (ps_for PassesOwn.never rfl (pi_range1 rfl T.range (pa_cons pe_int pa_nil)) (pg_name (i := 4) scN.nd rfl (Or.inl rfl)) (pss_cons (ps_set (i := 5) scN.nd rfl (Or.inl rfl) (pe_op op_mod (pe_callTy call_int1 (by rfl) T.int (by decide +kernel) (pa_cons (pe_op op_add (pe_op op_add (pe_op op_mul (pv 2) pe_int) (pe_op op_mul (pv 4) pe_int)) pe_int) pa_nil)) pe_int))
      (pss_one (ps_expr (pe_bm PySem.F.plainAttrs_list PySem.F.slot_list_append PySem.F.type_list_append mt_append (pv 1) (pa_cons (pe_op op_mod (pe_callTy call_int1 (by rfl) T.int (by decide +kernel) (pa_cons (pe_op op_add (pe_op op_mul (pv 5) pe_int) (pv 4)) pa_nil)) pe_int) pa_nil))))))))))
      (pss_cons (ps_if (pt_cmpR op_eq (pe_callB call_len_seq (by rfl) T.len PySem.boot_len (pa_cons (pv 1) pa_nil)) pe_int (nomark _)) (pss_one (ps_expr (pe_bm PySem.F.plainAttrs_list PySem.F.slot_list_append PySem.F.type_list_append mt_append (pv 1) (pa_cons pe_int pa_nil)))) pss_nil)
      (pss_one (ps_ret (pv 1)))))), ?_⟩
    refine ⟨Nat.zero_le _, fun p hp => ?_⟩
    have s1 : Same H (upd H p (.lst [])) := fun b o e => by
      rw [upd_ne (ne_of_none e hp)]
      exact e
    refine ⟨_, rfl, 63, rfl, a, _, rfl, s1.seq hS, fun c hc => ?_⟩
    have npc : p ≠ c := fun e => by
      rw [← e, upd_same] at hc
      cases hc
    refine ⟨c, rfl, ⟨_, SqL.of upd_same⟩, for_list (K := K) (a := c) (xs := cutV (ns.map V.int) none (some 63)) (fun i σ H' => ∃ (r : List Int) (v2 v3 v4 v5 : Option V), σ = [some (.ref a), some (.ref p), v2, v3, v4, v5] ∧ Same H H' ∧ H' p = some (.lst (r.map V.int)) ∧
        H' c = some (.lst (cutV (ns.map V.int) none (some 63))) ∧ r.length ≤ 60 * i) ?_ ?_ ?_ ?_⟩
    · exact ⟨[], _, _, _, _, rfl, fun b o e => (upd_ne (ne_of_none (s1 _ _ e) hc)).trans (s1 _ _ e), (upd_ne npc).trans upd_same, upd_same, Nat.le_refl _⟩
    · rintro i σ H' _ ⟨r, _, _, _, _, _, _, _, e, _⟩
      exact SqL.of e
    · rintro i x σ H' hi ⟨r, v2, v3, v4, v5, rfl, s2, ep, ec, hl⟩
      obtain ⟨z, rfl⟩ := cut_int hi
      have h63 := cut_lt hn hi
      have big : ∀ t : Nat, t ≤ 60 * i + 60 → t < sizeLine := fun t h => small1000' (by omega)
      refine ⟨_, rfl, _, _, rfl, rfl, ⟨by decide, by decide, by decide⟩, _, _, rfl, rfl, _, rfl, ?_⟩
      refine ite2 (fun _ => ?_) (fun _ => ?_)
      · refine ⟨_, rfl, 60, rfl, by decide, by decide, for_range (n := 60) (fun j σ H'' => ∃ (r : List Int) (l : Int) (v4 v5 : Option V), σ = [some (.ref a), some (.ref p), some (.int z), some (.int l), v4, v5] ∧ Same H H'' ∧ H'' p = some (.lst (r.map V.int)) ∧
          H'' c = some (.lst (cutV (ns.map V.int) none (some 63))) ∧ r.length ≤ 60 * i + j) ⟨r, z, _, _, rfl, s2, ep, ec, hl⟩ ?_ ?_⟩
        · rintro j σ H'' hj ⟨r', l, w4, w5, rfl, s3, ep', ec', hl'⟩
          refine ⟨_, rfl, rfl, _, rfl, ?_⟩
          refine ite2 (fun _ => ?_) (fun _ => ?_)
          · exact ⟨r', _, _, _, _, rfl, s3, ep', ec', by omega⟩
          · refine ⟨_, rfl, .inl ⟨rfl, _, SqL.of ep'⟩, _, rfl, .inl ⟨_, rfl, _, _, rfl, rfl, (by dsimp only; decide), p, _, _, rfl, rfl, ep', big _ (by rw [List.length_map]; omega), ?_⟩⟩
            refine ⟨_, rfl, _, _, rfl, rfl, ⟨by decide, by decide⟩, ?_⟩
            refine ⟨r' ++ [l % 997], _, _, _, rfl, fun b o e => (upd_ne (ne_of_none e hp)).trans (s3 _ _ e), ?_, (upd_ne npc.symm).trans ec', by rw [List.length_append, List.length_singleton]; omega⟩
            rw [upd_same, List.map_append]
            rfl
        · rintro σ H'' ⟨r', l, w4, w5, rfl, s3, ep', ec', hl'⟩
          exact ⟨r', _, _, _, _, rfl, s3, ep', ec', by omega⟩
      · refine ⟨4, rfl, by decide, by decide, for_range (n := 4) (fun j σ H'' => ∃ (r : List Int) (v3 v4 v5 : Option V), σ = [some (.ref a), some (.ref p), some (.int z), v3, v4, v5] ∧ Same H H'' ∧ H'' p = some (.lst (r.map V.int)) ∧
          H'' c = some (.lst (cutV (ns.map V.int) none (some 63))) ∧ r.length ≤ 60 * i + j) ⟨r, _, _, _, rfl, s2, ep, ec, hl⟩ ?_ ?_⟩
        · rintro j σ H'' hj ⟨r', w3, w4, w5, rfl, s3, ep', ec', hl'⟩
          refine ⟨_, rfl, _, _, rfl, rfl, .inr ⟨by decide, by decide⟩, _, rfl, _, _, rfl, rfl, .inr ⟨by decide, by decide⟩, _, _, rfl, rfl, _, _, rfl, rfl, .inl ⟨_, rfl, _, _, rfl, rfl, (by dsimp only; decide), ?_⟩⟩
          refine ⟨_, rfl, .inl ⟨rfl, _, SqL.of ep'⟩, _, rfl, _, _, rfl, rfl, .inr ⟨by decide, by decide⟩, _, rfl, _, _, rfl, rfl, .inl ⟨_, rfl, _, _, rfl, rfl, (by dsimp only; decide), p, _, _, rfl, rfl, ep', big _ (by rw [List.length_map]; omega), ?_⟩⟩
          refine ⟨r' ++ [((z * 48271 + (0 + (j : Int)) * 69621 + 11) % 2147483647 * 16807 + (0 + (j : Int))) % 2147483629], _, _, _, rfl, fun b o e => (upd_ne (ne_of_none e hp)).trans (s3 _ _ e), ?_, (upd_ne npc.symm).trans ec', by rw [List.length_append, List.length_singleton]; omega⟩
          rw [upd_same, List.map_append]
          rfl
        · rintro σ H'' ⟨r', w3, w4, w5, rfl, s3, ep', ec', hl'⟩
          exact ⟨r', _, _, _, _, rfl, s3, ep', ec', by omega⟩
    · rintro σ H' ⟨r, v2, v3, v4, v5, rfl, s2, ep, ec, hl⟩
      have hcl : (cutV (ns.map V.int) none (some 63)).length ≤ 63 := Nat.le_trans (cutV_length _ _ _) (by rw [List.length_map]; exact hn)
      refine ⟨_, rfl, p, _, rfl, .inl (SqL.of ep), rfl, _, rfl, ?_⟩
      refine ite2 (fun h0 => ?_) (fun h0 => ?_)
      · refine ⟨_, rfl, .inl ⟨rfl, _, SqL.of ep⟩, p, _, _, rfl, rfl, ep, small1000' (by rw [List.length_map]; omega), ?_⟩
        refine ⟨_, rfl, k _ p (r ++ [0]) (fun b o e => (upd_ne (ne_of_none e hp)).trans (s2 _ _ e)) hp ?_ ⟨by simp, by rw [List.length_append, List.length_singleton]; omega⟩⟩
        rw [upd_same, List.map_append]
        rfl
      · refine ⟨_, rfl, k _ p r s2 hp ep ⟨fun e => h0 ?_, by omega⟩⟩
        subst e
        rfl
/-! the law's own look at two values -/
mutual
def so : PyData → PyData → Bool
  | f, .none => match f with | .none => true | _ => false
  | f, .bool b => match f with | .bool a => a == b | _ => false
  | f, .int j => match f with | .int i => i == j | _ => false
  | f, .str y => match f with | .str x => x == y | _ => false
  | f, .tuple ms => match f with | .tuple fs => soAll fs ms | _ => false
  | _, .list _ => false
  | _, .dict _ => false
def soAll : List PyData → List PyData → Bool
  | [], [] => true
  | f :: fs, m :: ms => so f m && soAll fs ms
  | _, _ => false
end
mutual
def deep : PyData → Nat
  | .tuple ms => deepAll ms + 1
  | _ => 1
def deepAll : List PyData → Nat
  | [] => 0
  | m :: ms => max (deep m) (deepAll ms)
end
mutual
def wide : PyData → Nat
  | .tuple ms => max ms.length (wideAll ms)
  | _ => 0
def wideAll : List PyData → Nat
  | [] => 0
  | m :: ms => max (wide m) (wideAll ms)
end
def tyD : PyData → Value
  | .none => .type "NoneType"
  | .bool _ => .type "bool"
  | .int _ => .type "int"
  | .str _ => .type "str"
  | .list _ => .type "list"
  | .tuple _ => .type "tuple"
  | .dict _ => .type "dict"
theorem ty_of {H : Hp} {x : V} {d : PyData} (h : Dp K H x d) : TyX K H x (tyD d) := by
  cases h with
  | non => exact .base .non
  | bl b => exact .base (.bl b)
  | int i => exact .base (.int i)
  | str x => exact .base (.str x)
  | lst h _ =>
    rcases h with (h | ⟨_, h⟩) | ⟨_, _, _, h, c, _⟩
    · exact .base (.lst h)
    · exact .base (.frz h)
    · exact .kList h c
  | tup h _ =>
    rcases h with (h | ⟨_, h⟩) | ⟨_, _, _, h, c, _⟩
    · exact .base (.tup h)
    · exact .fTuple h
    · exact .kTuple h c
theorem all_len {H : Hp} : ∀ {xs : List V} {ds : List PyData}, DpAll K H xs ds → xs.length = ds.length
  | _, _, .nil => rfl
  | _, _, .cons _ t => congrArg Nat.succ (all_len t)
theorem all_at {H : Hp} : ∀ {xs : List V} {ds : List PyData} {i : Nat}, DpAll K H xs ds → i < ds.length → ∃ x d, xs[i]? = some x ∧ ds[i]? = some d ∧ Dp K H x d
  | _, _, _, .nil, h => absurd h (Nat.not_lt_zero _)
  | _, _, 0, .cons a _, _ => ⟨_, _, rfl, rfl, a⟩
  | _, _, i + 1, .cons _ t, h => by
    obtain ⟨x, d, e1, e2, e3⟩ := all_at (i := i) t (Nat.lt_of_succ_lt_succ h)
    exact ⟨x, d, by simpa using e1, by simpa using e2, e3⟩
theorem deep_at : ∀ {ms : List PyData} {i : Nat} {m : PyData}, ms[i]? = some m → deep m ≤ deepAll ms
  | [], _, _, h => by simp at h
  | m :: ms, 0, _, h => by
    cases (Option.some.inj h)
    exact Nat.le_max_left _ _
  | _ :: ms, i + 1, m, h => Nat.le_trans (deep_at (ms := ms) (i := i) (by simpa using h)) (Nat.le_max_right _ _)
theorem wide_at : ∀ {ms : List PyData} {i : Nat} {m : PyData}, ms[i]? = some m → wide m ≤ wideAll ms
  | [], _, _, h => by simp at h
  | m :: ms, 0, _, h => by
    cases (Option.some.inj h)
    exact Nat.le_max_left _ _
  | _ :: ms, i + 1, m, h => Nat.le_trans (wide_at (ms := ms) (i := i) (by simpa using h)) (Nat.le_max_right _ _)
theorem soAll_len : ∀ {fs ms : List PyData}, soAll fs ms = true → fs.length = ms.length
  | [], [], _ => rfl
  | [], _ :: _, h => nomatch h
  | _ :: _, [], h => nomatch h
  | f :: fs, m :: ms, h => by
    unfold soAll at h
    rw [Bool.and_eq_true] at h
    exact congrArg Nat.succ (soAll_len h.2)
theorem soAll_step : ∀ {fs ms : List PyData} {i : Nat} {f m : PyData}, fs[i]? = some f → ms[i]? = some m → soAll (fs.take i) (ms.take i) = true → soAll (fs.take (i + 1)) (ms.take (i + 1)) = so f m
  | [], _, _, _, _, h, _, _ => by simp at h
  | _ :: _, [], _, _, _, _, h, _ => by simp at h
  | f :: fs, m :: ms, 0, _, _, h1, h2, _ => by
    cases (Option.some.inj h1)
    cases (Option.some.inj h2)
    show (so f m && true) = so f m
    rw [Bool.and_true]
  | f :: fs, m :: ms, i + 1, _, _, h1, h2, h => by
    have h' : (so f m && soAll (fs.take i) (ms.take i)) = true := h
    rw [Bool.and_eq_true] at h'
    show (so f m && soAll (fs.take (i + 1)) (ms.take (i + 1))) = _
    rw [h'.1, soAll_step (fs := fs) (ms := ms) (i := i) (by simpa using h1) (by simpa using h2) h'.2]
    rfl
theorem soAll_not : ∀ {fs ms : List PyData} {i : Nat} {f m : PyData}, fs[i]? = some f → ms[i]? = some m → so f m = false → soAll fs ms = false
  | [], _, _, _, _, h, _, _ => by simp at h
  | _ :: _, [], _, _, _, _, h, _ => by simp at h
  | f :: fs, m :: ms, 0, _, _, h1, h2, h => by
    cases (Option.some.inj h1)
    cases (Option.some.inj h2)
    show (so f m && _) = false
    rw [h, Bool.false_and]
  | f :: fs, m :: ms, i + 1, _, _, h1, h2, h => by
    show (so f m && soAll fs ms) = false
    rw [soAll_not (fs := fs) (ms := ms) (i := i) (by simpa using h1) (by simpa using h2) h, Bool.and_false]
def spS (K : PySem.W.Frag) (n : Nat) : Sp := fun vs H Q _ => ∃ (x y : V) (d e : PyData), vs = [x, y] ∧ Dp K H x d ∧ Dp K H y e ∧ deep e ≤ n ∧ wide e ≤ sizeLine ∧ Q (.bl (so d e)) H
theorem so_none {H : Hp} {x : V} {d : PyData} (h : Dp K H x d) : decide (x = V.non) = so d .none := by
  cases h <;> first | rfl | (exact decide_eq_false (fun z => nomatch z))
theorem ok_S {f : Addr} {fd : FuncData} (F_law_so : Fun K "_law_so" "_law_so" sS f fd) (T : TxB mg) (B_law_so : Binds K fd ["found", "meant"] []) (g_law_so : mg "_law_so" = some (.ref f)) : ∀ n : Nat, FnOk P w K mg base CX0 n f fd ["found", "meant"] (spS K n)
  | 0 => ⟨fun vs H Q E ⟨_, _, _, e, _, _, _, h, _, _⟩ => by cases e <;> exact absurd h (by simp [deep]), fun _ _ _ _ _ _ _ _ _ _ _ _ _ ⟨_, _, _, e, _, _, _, h, _, _⟩ => by cases e <;> exact absurd h (by simp [deep])⟩
  | n + 1 => by
    have G_law_so := ok_S F_law_so T B_law_so g_law_so n
    refine F_law_so.ok scS (fun vs H Q E h => ?_) (fun cdv A outer s H vs Q E hr h => ?_)
    · obtain ⟨x, y, d, e, rfl, _⟩ := h
      rfl
    · obtain ⟨x, y, d, e, rfl, hx, hy, hn, hw, k⟩ := h
      refine ⟨_, (pss_cons (ps_if (pt_cmpR op_isN (pv 1) pe_non (nomark _)) (pss_one (ps_ret (pe_cmpR op_isN (pv 0) pe_non (nomark _)))) pss_nil)
      (pss_cons (ps_if (pt_val (pe_callB call_isi (by rfl) T.isinstance (by decide +kernel) (pa_cons (pv 1) (pa_cons (pe_bltn (by rfl) T.tuple (by decide +kernel) (show RelV (.ty "tuple") (.type "tuple") from rfl)) pa_nil)))) (pss_cons (ps_if (PW.pt (pw_or (pt_not (pt_val (pe_callB call_isi (by rfl) T.isinstance (by decide +kernel) (pa_cons (pv 0) (pa_cons (pe_bltn (by rfl) T.tuple (by decide +kernel) (show RelV (.ty "tuple") (.type "tuple") from rfl)) pa_nil))))) (pw_or1 (pt_cmpR op_ne (pe_callB call_len_seq (by rfl) T.len PySem.boot_len (pa_cons (pv 0) pa_nil)) (pe_callB call_len_seq (by rfl) T.len PySem.boot_len (pa_cons (pv 1) pa_nil)) (nomark _))))) (pss_one (ps_ret pe_bl)) pss_nil)
      (pss_cons (ps_for PassesOwn.never rfl (pi_range1 rfl T.range (pa_cons (pe_callB call_len_seq (by rfl) T.len PySem.boot_len (pa_cons (pv 1) pa_nil)) pa_nil)) (pg_name (i := 2) scS.nd rfl (Or.inl rfl)) (pss_one (ps_if (pt_not (pt_val (pe_call G_law_so hr rfl g_law_so F_law_so.kp B_law_so .nil pass0 (pa_cons (pe_ix ix_tup (pv 0) (pv 2) (fun _ _ => rfl)) (pa_cons (pe_ix ix_tup (pv 1) (pv 2) (fun _ _ => rfl)) pa_nil))))) (pss_one (ps_ret pe_bl)) pss_nil)))
      (pss_one (ps_ret pe_bl)))) pss_nil)
      (pss_cons (ps_if (PW.pt (pw_or (pt_val (pe_callB call_isi (by rfl) T.isinstance (by decide +kernel) (pa_cons (pv 1) (pa_cons (pe_bltn (by rfl) T.bool (by decide +kernel) (show RelV (.ty "bool") (.type "bool") from rfl)) pa_nil)))) (pw_or1 (pt_val (pe_callB call_isi (by rfl) T.isinstance (by decide +kernel) (pa_cons (pv 0) (pa_cons (pe_bltn (by rfl) T.bool (by decide +kernel) (show RelV (.ty "bool") (.type "bool") from rfl)) pa_nil))))))) (pss_one (ps_ret (pe_and (pe_callB call_isi (by rfl) T.isinstance (by decide +kernel) (pa_cons (pv 1) (pa_cons (pe_bltn (by rfl) T.bool (by decide +kernel) (show RelV (.ty "bool") (.type "bool") from rfl)) pa_nil))) (pe_and (pe_callB call_isi (by rfl) T.isinstance (by decide +kernel) (pa_cons (pv 0) (pa_cons (pe_bltn (by rfl) T.bool (by decide +kernel) (show RelV (.ty "bool") (.type "bool") from rfl)) pa_nil))) (pe_one (pe_cmpR op_eq (pv 0) (pv 1) (nomark _))))))) pss_nil)
      (pss_cons (ps_if (pt_val (pe_callB call_isi (by rfl) T.isinstance (by decide +kernel) (pa_cons (pv 1) (pa_cons (pe_bltn (by rfl) T.int (by decide +kernel) (show RelV (.ty "int") (.type "int") from rfl)) pa_nil)))) (pss_one (ps_ret (pe_and (pe_callB call_isi (by rfl) T.isinstance (by decide +kernel) (pa_cons (pv 0) (pa_cons (pe_bltn (by rfl) T.int (by decide +kernel) (show RelV (.ty "int") (.type "int") from rfl)) pa_nil))) (pe_one (pe_cmpR op_eq (pv 0) (pv 1) (nomark _)))))) pss_nil)
      (pss_one (ps_ret (pe_and (pe_callB call_isi (by rfl) T.isinstance (by decide +kernel) (pa_cons (pv 1) (pa_cons (pe_bltn (by rfl) T.str (by decide +kernel) (show RelV (.ty "str") (.type "str") from rfl)) pa_nil))) (pe_and (pe_callB call_isi (by rfl) T.isinstance (by decide +kernel) (pa_cons (pv 0) (pa_cons (pe_bltn (by rfl) T.str (by decide +kernel) (show RelV (.ty "str") (.type "str") from rfl)) pa_nil))) (pe_one (pe_cmpR op_eq (pv 0) (pv 1) (nomark _))))))))))), ?_⟩
      have tx := ty_of hx
      have ty := ty_of hy
      cases hy with
      | non =>
        refine ⟨_, rfl, rfl, _, rfl, ite2 (fun _ => ?_) (fun h => absurd rfl h)⟩
        refine ⟨_, rfl, rfl, ?_⟩
        rw [so_none hx]
        exact k
      | bl b =>
        refine ⟨_, rfl, rfl, _, rfl, ite2 (fun h => nomatch of_decide_eq_true h) (fun _ => ?_)⟩
        refine ⟨_, rfl, _, _, _, _, false, rfl, .ty _, ty, kit_ty (by decide +kernel), _, rfl, iteF ?_⟩
        refine ⟨_, rfl, _, _, _, _, true, rfl, .ty _, ty, kit_ty (by decide +kernel), _, rfl, iteT ?_⟩
        refine ⟨_, rfl, _, _, _, _, true, rfl, .ty _, ty, kit_ty (by decide +kernel), _, rfl, iteT ?_⟩
        cases hx with
        | bl a =>
          refine ⟨_, rfl, _, _, _, _, true, rfl, .ty _, tx, kit_ty (by decide +kernel), _, rfl, iteT ?_⟩
          refine ⟨_, rfl, _, rfl, rfl, ?_⟩
          rw [dec_bl]
          exact k
        | _ => exact ⟨_, rfl, _, _, _, _, false, rfl, .ty _, tx, kit_ty (by decide +kernel), _, rfl, iteF k⟩
      | int j =>
        refine ⟨_, rfl, rfl, _, rfl, ite2 (fun h => nomatch of_decide_eq_true h) (fun _ => ?_)⟩
        refine ⟨_, rfl, _, _, _, _, false, rfl, .ty _, ty, kit_ty (by decide +kernel), _, rfl, iteF ?_⟩
        refine ⟨_, rfl, _, _, _, _, false, rfl, .ty _, ty, kit_ty (by decide +kernel), _, rfl, iteF ?_⟩
        cases hx with
        | bl a =>
          refine ⟨_, rfl, _, _, _, _, true, rfl, .ty _, tx, kit_ty (by decide +kernel), _, rfl, iteT ?_⟩
          exact ⟨_, rfl, _, _, _, _, false, rfl, .ty _, ty, kit_ty (by decide +kernel), _, rfl, iteF k⟩
        | int i =>
          refine ⟨_, rfl, _, _, _, _, false, rfl, .ty _, tx, kit_ty (by decide +kernel), _, rfl, iteF ?_⟩
          refine ⟨_, rfl, _, _, _, _, true, rfl, .ty _, ty, kit_ty (by decide +kernel), _, rfl, iteT ?_⟩
          refine ⟨_, rfl, _, _, _, _, true, rfl, .ty _, tx, kit_ty (by decide +kernel), _, rfl, iteT ?_⟩
          refine ⟨_, rfl, _, rfl, rfl, ?_⟩
          rw [dec_int]
          exact k
        | _ =>
          refine ⟨_, rfl, _, _, _, _, false, rfl, .ty _, tx, kit_ty (by decide +kernel), _, rfl, iteF ?_⟩
          refine ⟨_, rfl, _, _, _, _, true, rfl, .ty _, ty, kit_ty (by decide +kernel), _, rfl, iteT ?_⟩
          exact ⟨_, rfl, _, _, _, _, false, rfl, .ty _, tx, kit_ty (by decide +kernel), _, rfl, iteF k⟩
      | str j =>
        refine ⟨_, rfl, rfl, _, rfl, ite2 (fun h => nomatch of_decide_eq_true h) (fun _ => ?_)⟩
        refine ⟨_, rfl, _, _, _, _, false, rfl, .ty _, ty, kit_ty (by decide +kernel), _, rfl, iteF ?_⟩
        refine ⟨_, rfl, _, _, _, _, false, rfl, .ty _, ty, kit_ty (by decide +kernel), _, rfl, iteF ?_⟩
        cases hx with
        | bl a =>
          refine ⟨_, rfl, _, _, _, _, true, rfl, .ty _, tx, kit_ty (by decide +kernel), _, rfl, iteT ?_⟩
          exact ⟨_, rfl, _, _, _, _, false, rfl, .ty _, ty, kit_ty (by decide +kernel), _, rfl, iteF k⟩
        | str i =>
          refine ⟨_, rfl, _, _, _, _, false, rfl, .ty _, tx, kit_ty (by decide +kernel), _, rfl, iteF ?_⟩
          refine ⟨_, rfl, _, _, _, _, false, rfl, .ty _, ty, kit_ty (by decide +kernel), _, rfl, iteF ?_⟩
          refine ⟨_, rfl, _, _, _, _, true, rfl, .ty _, ty, kit_ty (by decide +kernel), _, rfl, iteT ?_⟩
          refine ⟨_, rfl, _, _, _, _, true, rfl, .ty _, tx, kit_ty (by decide +kernel), _, rfl, iteT ?_⟩
          refine ⟨_, rfl, _, rfl, rfl, ?_⟩
          rw [dec_str]
          exact k
        | _ =>
          refine ⟨_, rfl, _, _, _, _, false, rfl, .ty _, tx, kit_ty (by decide +kernel), _, rfl, iteF ?_⟩
          refine ⟨_, rfl, _, _, _, _, false, rfl, .ty _, ty, kit_ty (by decide +kernel), _, rfl, iteF ?_⟩
          refine ⟨_, rfl, _, _, _, _, true, rfl, .ty _, ty, kit_ty (by decide +kernel), _, rfl, iteT ?_⟩
          exact ⟨_, rfl, _, _, _, _, false, rfl, .ty _, tx, kit_ty (by decide +kernel), _, rfl, iteF k⟩
      | lst hT hA =>
        refine ⟨_, rfl, rfl, _, rfl, ite2 (fun h => nomatch of_decide_eq_true h) (fun _ => ?_)⟩
        refine ⟨_, rfl, _, _, _, _, false, rfl, .ty _, ty, kit_ty (by decide +kernel), _, rfl, iteF ?_⟩
        refine ⟨_, rfl, _, _, _, _, false, rfl, .ty _, ty, kit_ty (by decide +kernel), _, rfl, iteF ?_⟩
        cases hx with
        | bl a =>
          refine ⟨_, rfl, _, _, _, _, true, rfl, .ty _, tx, kit_ty (by decide +kernel), _, rfl, iteT ?_⟩
          exact ⟨_, rfl, _, _, _, _, false, rfl, .ty _, ty, kit_ty (by decide +kernel), _, rfl, iteF k⟩
        | _ =>
          refine ⟨_, rfl, _, _, _, _, false, rfl, .ty _, tx, kit_ty (by decide +kernel), _, rfl, iteF ?_⟩
          refine ⟨_, rfl, _, _, _, _, false, rfl, .ty _, ty, kit_ty (by decide +kernel), _, rfl, iteF ?_⟩
          exact ⟨_, rfl, _, _, _, _, false, rfl, .ty _, ty, kit_ty (by decide +kernel), _, rfl, iteF k⟩
      | @tup ay ys ms hT hA =>
        refine ⟨_, rfl, rfl, _, rfl, ite2 (fun h => nomatch of_decide_eq_true h) (fun _ => ?_)⟩
        refine ⟨_, rfl, _, _, _, _, true, rfl, .ty _, ty, kit_ty (by decide +kernel), _, rfl, iteT ?_⟩
        cases hx with
        | @tup ax xs fs hTx hAx =>
          refine ⟨_, rfl, _, _, _, _, true, rfl, .ty _, tx, kit_ty (by decide +kernel), _, rfl, ?_⟩
          have lx := all_len hAx
          have ly := all_len hA
          refine iteF ?_
          refine ⟨_, rfl, ax, xs, rfl, .inr hTx, _, rfl, ay, ys, rfl, .inr hT, rfl, _, rfl, ?_⟩
          refine ite2 (fun hne => ?_) (fun he => ?_)
          · have q : soAll fs ms = false := by
              cases z : soAll fs ms with
              | false => rfl
              | true =>
                have l := soAll_len z
                rw [lx, ly, l] at hne
                simp at hne
            have k' : Q (.bl (soAll fs ms)) H := k
            rw [q] at k'
            exact k'
          · have l : fs.length = ms.length := by
              rw [lx, ly] at he
              have h2 : (fs.length : Int) = (ms.length : Int) := by simpa using he
              omega
            have nl : (0 : Int) ≤ ms.length := Int.natCast_nonneg _
            have lim : ys.length ≤ sizeLine := by
              have w1 : max ms.length (wideAll ms) ≤ sizeLine := hw
              omega
            refine ⟨_, rfl, ay, ys, rfl, .inr hT, (ys.length : Int), rfl, by omega, by rw [sizeLine_eq] at lim; omega, for_range (n := ys.length) (fun i σ H' => H' = H ∧ ∃ v, σ = [some (.ref ax), some (.ref ay), v] ∧ soAll (fs.take i) (ms.take i) = true) ⟨rfl, _, rfl, rfl⟩ ?_ ?_⟩
            · rintro i σ H' hi ⟨rfl, v, rfl, hs⟩
              obtain ⟨x1, d1, g1, g2, g3⟩ := all_at (i := i) hAx (by omega)
              obtain ⟨y1, e1, g4, g5, g6⟩ := all_at (i := i) hA (by omega)
              refine ⟨_, rfl, _, rfl, ax, _, _, x1, rfl, rfl, hTx, at_of (by omega) g1, _, rfl, _, rfl, ay, _, _, y1, rfl, rfl, hT, at_of (by omega) g4, x1, y1, d1, e1, rfl, g3, g6, ?_, ?_, ?_⟩
              · have := deep_at g5
                have h2 : deepAll ms + 1 ≤ n + 1 := hn
                omega
              · have := wide_at g5
                have w1 : max ms.length (wideAll ms) ≤ sizeLine := hw
                omega
              · refine ⟨_, rfl, ?_⟩
                cases hso : so d1 e1 with
                | true => exact iteF ⟨rfl, _, rfl, (soAll_step g2 g5 hs).trans hso⟩
                | false =>
                  refine iteT ?_
                  have k' : Q (.bl (soAll fs ms)) H' := k
                  rw [soAll_not g2 g5 hso] at k'
                  exact k'
            · rintro σ H' ⟨rfl, v, rfl, hs⟩
              have e1 : fs.take ys.length = fs := List.take_of_length_le (by omega)
              have e2 : ms.take ys.length = ms := List.take_of_length_le (by omega)
              rw [e1, e2] at hs
              have k' : Q (.bl (soAll fs ms)) H' := k
              rw [hs] at k'
              exact k'
        | _ => exact ⟨_, rfl, _, _, _, _, false, rfl, .ty _, tx, kit_ty (by decide +kernel), _, rfl, iteT k⟩
end
end Rh
namespace Rh
open PySem L2
abbrev i0 : Stmt := inClass (top 2) 0
theorem sci0 : FnScope ["self", "at"] ["self", "at"] (defScope i0) := ⟨rfl, rfl, rfl, by decide +kernel, rfl, by decide +kernel, by decide +kernel⟩
abbrev i1 : Stmt := inClass (top 3) 0
theorem sci1 : FnScope ["self", "at"] ["self", "at"] (defScope i1) := ⟨rfl, rfl, rfl, by decide +kernel, rfl, by decide +kernel, by decide +kernel⟩
abbrev i2 : Stmt := inClass (top 4) 0
theorem sci2 : FnScope ["self", "name"] ["self", "name"] (defScope i2) := ⟨rfl, rfl, rfl, by decide +kernel, rfl, by decide +kernel, by decide +kernel⟩
abbrev i3 : Stmt := inClass (top 5) 0
theorem sci3 : FnScope ["self", "name"] ["self", "name"] (defScope i3) := ⟨rfl, rfl, rfl, by decide +kernel, rfl, by decide +kernel, by decide +kernel⟩
abbrev i4 : Stmt := inClass (top 6) 0
theorem sci4 : FnScope ["self", "text"] ["self", "text"] (defScope i4) := ⟨rfl, rfl, rfl, by decide +kernel, rfl, by decide +kernel, by decide +kernel⟩
abbrev i5 : Stmt := inClass (top 7) 0
theorem sci5 : FnScope ["self", "first", "second"] ["self", "first", "second"] (defScope i5) := ⟨rfl, rfl, rfl, by decide +kernel, rfl, by decide +kernel, by decide +kernel⟩
abbrev i6 : Stmt := inClass (top 8) 0
theorem sci6 : FnScope ["self", "name", "text"] ["self", "name", "text"] (defScope i6) := ⟨rfl, rfl, rfl, by decide +kernel, rfl, by decide +kernel, by decide +kernel⟩

abbrev sO : Stmt := top 14
abbrev sF : Stmt := top 15
theorem scO : FnScope ["value", "made"] ["value"] (defScope sO) := ⟨rfl, rfl, rfl, by decide +kernel, rfl, by decide +kernel, by decide +kernel⟩
theorem scF : FnScope ["value"] ["value"] (defScope sF) := ⟨rfl, rfl, rfl, by decide +kernel, rfl, by decide +kernel, by decide +kernel⟩
/-- an error of the class C, with these fields, at a -/
def ErrAt (H : Hp) (a C : Addr) (fs : List (Str × V)) : Prop := ∃ d, H a = some (exo a C (some d)) ∧ H d = some (exd d fs)
theorem ErrAt.keep {H H' : Hp} {a C : Addr} {fs : List (Str × V)} (h : ErrAt H a C fs) (s : Same H H') : ErrAt H' a C fs := by
  obtain ⟨d, h1, h2⟩ := h
  exact ⟨d, s _ _ h1, s _ _ h2⟩
theorem none_of {H0 : Hp} {a d : Addr} {o : HO} (hd : upd H0 a o d = none) : H0 d = none := by
  by_cases e : d = a
  · rw [e, upd_same] at hd
    cases hd
  · rw [upd_ne e] at hd
    exact hd
theorem one_keep {H0 : Hp} {a d b : Addr} {o o1 o2 v : HO} (ha : H0 a = none) (e : H0 b = some v) (hd : upd H0 a o d = none) : upd (upd (upd H0 a o) d o1) a o2 b = some v := by
  rw [upd_ne (ne_of_none e ha), upd_ne (ne_of_none e (none_of hd)), upd_ne (ne_of_none e ha)]
  exact e
def sp1 (n : Str) (C : Addr) : Sp := fun vs H Q _ => ∃ (H0 : Hp) (a : Addr) (y : V), vs = [.ref a, y] ∧ H0 a = none ∧ H = upd H0 a (exo a C none) ∧
  ∀ (H' : Hp) (d : Addr), Same H0 H' → H0 d = none → H' a = some (exo a C (some d)) → H' d = some (exd d [(n, y)]) → Q .non H'
def sp2 (n m : Str) (C : Addr) : Sp := fun vs H Q _ => ∃ (H0 : Hp) (a : Addr) (y z : V), vs = [.ref a, y, z] ∧ H0 a = none ∧ H = upd H0 a (exo a C none) ∧
  ∀ (H' : Hp) (d : Addr), Same H0 H' → H0 d = none → H' a = some (exo a C (some d)) → H' d = some (exd d [(m, z), (n, y)]) → Q .non H'
structure Ec (K : PySem.W.Frag) (mg : Str → Option Value) (n : Str) (C fI : Addr) : Prop where
  x : PySem.XV.XC K C
  i : PySem.W.findIn K (.ref C) "__init__" = some (some (.ref fI))
  t : PySem.W.typeIn K (.ref fI) = some (.type "function")
  g : mg n = some (.ref C)
structure TxE (K : PySem.W.Frag) (mg : Str → Option Value) (C : Nat → Addr) (B : Addr) : Prop extends TxB mg where
  exception : mg "Exception" = none
  valueError : mg "ValueError" = none
  lookupError : mg "LookupError" = none
  arithmeticError : mg "ArithmeticError" = none
  x : ∀ i, i < 7 → PySem.XV.XC K (C i)
  kit : ∀ i j, i < 7 → j < 7 → PySem.W.kitOne K (.ref (C i)) (.ref (C j)) = some (decide (i = j))
  kitB : ∀ i, i < 7 → PySem.W.kitOne K (.ref (C i)) (.ref B) = some true
  kitE : ∀ i, i < 7 → PySem.W.kitOne K (.ref (C i)) (.type "Exception") = some true
  kitV : ∀ i, i < 7 → PySem.W.kitOne K (.ref (C i)) (.type "ValueError") = some false
  kitL : ∀ i, i < 7 → PySem.W.kitOne K (.ref (C i)) (.type "LookupError") = some false
  kitA : ∀ i, i < 7 → PySem.W.kitOne K (.ref (C i)) (.type "ArithmeticError") = some false
def bits (i : Nat) : List V := (List.range 7).map fun j => .bl (decide (i = j))
def spO (C : Nat → Addr) : Sp := fun vs H Q _ => ∃ (i : Nat) (a : Addr) (fs : List (Str × V)), vs = [.ref a] ∧ i < 7 ∧ ErrAt H a (C i) fs ∧ ∀ (H' : Hp) (p : Addr), Same H H' → H p = none → H' p = some (.lst (bits i)) → Q (.ref p) H'
def spF (C : Nat → Addr) : Sp := fun vs H Q _ => ∃ (i : Nat) (a : Addr) (fs : List (Str × V)), vs = [.ref a] ∧ i < 7 ∧ ErrAt H a (C i) fs ∧ Q (.bl false) H
section
variable {P : Program} {w : World} {K : PySem.W.Frag} {mg : Str → Option Value} {base : Heap} {C fI : Nat → Addr} {B : Addr}
theorem ok_i0 {f C : Addr} {fd : FuncData} (F : Fun K "__init__" "BadValue.__init__" i0 f fd) (X : PySem.XV.XC K C) (n1 : PySem.W.findIn K (.ref C) "at" = some none) : FnOk P w K mg base CX0 1 f fd ["self", "at"] (sp1 "at" C) := by
  refine F.ok sci0 (fun vs H Q E h => ?_) (fun cdv A outer s H vs Q E hr h => ?_)
  · obtain ⟨H0, a, y, rfl, _⟩ := h
    rfl
  · obtain ⟨H0, a, y, rfl, ha, rfl, k⟩ := h
    refine ⟨_, pss_one (ps_xset (pv 0) (pv 1)), ?_⟩
    exact ⟨_, rfl, _, rfl, a, C, rfl, X, n1, .inl ⟨upd_same, fun d hd ne => k _ d (fun b o e => one_keep ha e hd) (none_of hd) upd_same ((upd_ne ne).trans upd_same)⟩⟩
theorem ok_i1 {f C : Addr} {fd : FuncData} (F : Fun K "__init__" "BadPattern.__init__" i1 f fd) (X : PySem.XV.XC K C) (n1 : PySem.W.findIn K (.ref C) "at" = some none) : FnOk P w K mg base CX0 1 f fd ["self", "at"] (sp1 "at" C) := by
  refine F.ok sci1 (fun vs H Q E h => ?_) (fun cdv A outer s H vs Q E hr h => ?_)
  · obtain ⟨H0, a, y, rfl, _⟩ := h
    rfl
  · obtain ⟨H0, a, y, rfl, ha, rfl, k⟩ := h
    refine ⟨_, pss_one (ps_xset (pv 0) (pv 1)), ?_⟩
    exact ⟨_, rfl, _, rfl, a, C, rfl, X, n1, .inl ⟨upd_same, fun d hd ne => k _ d (fun b o e => one_keep ha e hd) (none_of hd) upd_same ((upd_ne ne).trans upd_same)⟩⟩
theorem ok_i2 {f C : Addr} {fd : FuncData} (F : Fun K "__init__" "NoMessage.__init__" i2 f fd) (X : PySem.XV.XC K C) (n1 : PySem.W.findIn K (.ref C) "name" = some none) : FnOk P w K mg base CX0 1 f fd ["self", "name"] (sp1 "name" C) := by
  refine F.ok sci2 (fun vs H Q E h => ?_) (fun cdv A outer s H vs Q E hr h => ?_)
  · obtain ⟨H0, a, y, rfl, _⟩ := h
    rfl
  · obtain ⟨H0, a, y, rfl, ha, rfl, k⟩ := h
    refine ⟨_, pss_one (ps_xset (pv 0) (pv 1)), ?_⟩
    exact ⟨_, rfl, _, rfl, a, C, rfl, X, n1, .inl ⟨upd_same, fun d hd ne => k _ d (fun b o e => one_keep ha e hd) (none_of hd) upd_same ((upd_ne ne).trans upd_same)⟩⟩
theorem ok_i3 {f C : Addr} {fd : FuncData} (F : Fun K "__init__" "NoTongue.__init__" i3 f fd) (X : PySem.XV.XC K C) (n1 : PySem.W.findIn K (.ref C) "name" = some none) : FnOk P w K mg base CX0 1 f fd ["self", "name"] (sp1 "name" C) := by
  refine F.ok sci3 (fun vs H Q E h => ?_) (fun cdv A outer s H vs Q E hr h => ?_)
  · obtain ⟨H0, a, y, rfl, _⟩ := h
    rfl
  · obtain ⟨H0, a, y, rfl, ha, rfl, k⟩ := h
    refine ⟨_, pss_one (ps_xset (pv 0) (pv 1)), ?_⟩
    exact ⟨_, rfl, _, rfl, a, C, rfl, X, n1, .inl ⟨upd_same, fun d hd ne => k _ d (fun b o e => one_keep ha e hd) (none_of hd) upd_same ((upd_ne ne).trans upd_same)⟩⟩
theorem ok_i4 {f C : Addr} {fd : FuncData} (F : Fun K "__init__" "NotSaid.__init__" i4 f fd) (X : PySem.XV.XC K C) (n1 : PySem.W.findIn K (.ref C) "text" = some none) : FnOk P w K mg base CX0 1 f fd ["self", "text"] (sp1 "text" C) := by
  refine F.ok sci4 (fun vs H Q E h => ?_) (fun cdv A outer s H vs Q E hr h => ?_)
  · obtain ⟨H0, a, y, rfl, _⟩ := h
    rfl
  · obtain ⟨H0, a, y, rfl, ha, rfl, k⟩ := h
    refine ⟨_, pss_one (ps_xset (pv 0) (pv 1)), ?_⟩
    exact ⟨_, rfl, _, rfl, a, C, rfl, X, n1, .inl ⟨upd_same, fun d hd ne => k _ d (fun b o e => one_keep ha e hd) (none_of hd) upd_same ((upd_ne ne).trans upd_same)⟩⟩
theorem ok_i5 {f C : Addr} {fd : FuncData} (F : Fun K "__init__" "Twofold.__init__" i5 f fd) (X : PySem.XV.XC K C) (n1 : PySem.W.findIn K (.ref C) "first" = some none) (n2 : PySem.W.findIn K (.ref C) "second" = some none) : FnOk P w K mg base CX0 1 f fd ["self", "first", "second"] (sp2 "first" "second" C) := by
  refine F.ok sci5 (fun vs H Q E h => ?_) (fun cdv A outer s H vs Q E hr h => ?_)
  · obtain ⟨H0, a, y, z, rfl, _⟩ := h
    rfl
  · obtain ⟨H0, a, y, z, rfl, ha, rfl, k⟩ := h
    refine ⟨_, pss_cons (ps_xset (pv 0) (pv 1)) (pss_one (ps_xset (pv 0) (pv 2))), ?_⟩
    refine ⟨_, rfl, _, rfl, a, C, rfl, X, n1, .inl ⟨upd_same, fun d hd ne => ?_⟩⟩
    refine ⟨_, rfl, _, rfl, a, C, rfl, X, n2, .inr ⟨d, _, upd_same, (upd_ne ne).trans upd_same, (by simp), k _ d (fun b o e => ?_) (none_of hd) ((upd_ne ne.symm).trans upd_same) upd_same⟩⟩
    rw [upd_ne (ne_of_none e (none_of hd))]
    exact one_keep ha e hd
theorem ok_i6 {f C : Addr} {fd : FuncData} (F : Fun K "__init__" "Shared.__init__" i6 f fd) (X : PySem.XV.XC K C) (n1 : PySem.W.findIn K (.ref C) "name" = some none) (n2 : PySem.W.findIn K (.ref C) "text" = some none) : FnOk P w K mg base CX0 1 f fd ["self", "name", "text"] (sp2 "name" "text" C) := by
  refine F.ok sci6 (fun vs H Q E h => ?_) (fun cdv A outer s H vs Q E hr h => ?_)
  · obtain ⟨H0, a, y, z, rfl, _⟩ := h
    rfl
  · obtain ⟨H0, a, y, z, rfl, ha, rfl, k⟩ := h
    refine ⟨_, pss_cons (ps_xset (pv 0) (pv 1)) (pss_one (ps_xset (pv 0) (pv 2))), ?_⟩
    refine ⟨_, rfl, _, rfl, a, C, rfl, X, n1, .inl ⟨upd_same, fun d hd ne => ?_⟩⟩
    refine ⟨_, rfl, _, rfl, a, C, rfl, X, n2, .inr ⟨d, _, upd_same, (upd_ne ne).trans upd_same, (by simp), k _ d (fun b o e => ?_) (none_of hd) ((upd_ne ne.symm).trans upd_same) upd_same⟩⟩
    rw [upd_ne (ne_of_none e (none_of hd))]
    exact one_keep ha e hd

theorem ok_O {f : Addr} {fd : FuncData} (F : Fun K "_law_of" "_law_of" sO f fd) (T : TxE K mg C B) (EBadValue : Ec K mg "BadValue" (C 0) (fI 0)) (EBadPattern : Ec K mg "BadPattern" (C 1) (fI 1)) (ENoMessage : Ec K mg "NoMessage" (C 2) (fI 2)) (ENoTongue : Ec K mg "NoTongue" (C 3) (fI 3)) (ENotSaid : Ec K mg "NotSaid" (C 4) (fI 4)) (ETwofold : Ec K mg "Twofold" (C 5) (fI 5)) (EShared : Ec K mg "Shared" (C 6) (fI 6)) : FnOk P w K mg base CX0 1 f fd ["value"] (spO C) := by
  refine F.ok scO (fun vs H Q E h => ?_) (fun cdv A outer s H vs Q E hr h => ?_)
  · obtain ⟨i, a, fs, rfl, _⟩ := h
    rfl
  · obtain ⟨i, a, fs, rfl, hi, ⟨d, h1, h2⟩, k⟩ := h
    refine ⟨_, (pss_cons (ps_set (i := 1) scO.nd rfl (Or.inl rfl) (pe_lst (pa_cons (pe_callB call_xis (by rfl) T.isinstance (by decide +kernel) (pa_cons (pv 0) (pa_cons (pe_glob rfl EBadValue.g (show RelV (.ref _) (.ref _) from rfl)) pa_nil))) (pa_cons (pe_callB call_xis (by rfl) T.isinstance (by decide +kernel) (pa_cons (pv 0) (pa_cons (pe_glob rfl EBadPattern.g (show RelV (.ref _) (.ref _) from rfl)) pa_nil))) (pa_cons (pe_callB call_xis (by rfl) T.isinstance (by decide +kernel) (pa_cons (pv 0) (pa_cons (pe_glob rfl ENoMessage.g (show RelV (.ref _) (.ref _) from rfl)) pa_nil))) (pa_cons (pe_callB call_xis (by rfl) T.isinstance (by decide +kernel) (pa_cons (pv 0) (pa_cons (pe_glob rfl ENoTongue.g (show RelV (.ref _) (.ref _) from rfl)) pa_nil))) pa_nil))))))
      (pss_one (ps_ret (pe_op op_cat (pv 1) (pe_lst (pa_cons (pe_callB call_xis (by rfl) T.isinstance (by decide +kernel) (pa_cons (pv 0) (pa_cons (pe_glob rfl ENotSaid.g (show RelV (.ref _) (.ref _) from rfl)) pa_nil))) (pa_cons (pe_callB call_xis (by rfl) T.isinstance (by decide +kernel) (pa_cons (pv 0) (pa_cons (pe_glob rfl ETwofold.g (show RelV (.ref _) (.ref _) from rfl)) pa_nil))) (pa_cons (pe_callB call_xis (by rfl) T.isinstance (by decide +kernel) (pa_cons (pv 0) (pa_cons (pe_glob rfl EShared.g (show RelV (.ref _) (.ref _) from rfl)) pa_nil))) pa_nil)))))))), ?_⟩
    have is : ∀ j, j < 7 → _ := fun j hj => T.kit i j hi hj
    refine ⟨_, rfl, a, C i, d, fs, _, _, _, rfl, h1, h2, T.x i hi, .own _, is 0 (by decide), _, rfl, a, C i, d, fs, _, _, _, rfl, h1, h2, T.x i hi, .own _, is 1 (by decide), _, rfl, a, C i, d, fs, _, _, _, rfl, h1, h2, T.x i hi, .own _, is 2 (by decide), _, rfl, a, C i, d, fs, _, _, _, rfl, h1, h2, T.x i hi, .own _, is 3 (by decide), ?_⟩
    have few : ∀ n : Nat, n ≤ 1000 → n ≤ sizeLine := fun n h => Nat.le_of_lt (small1000 h)
    refine ⟨few 4 (by decide), fun p hp => ?_⟩
    have s1 : ∀ (o : HO), Same H (upd H p o) := fun o b z e => (upd_ne (ne_of_none e hp)).trans e
    refine ⟨_, rfl, _, rfl, a, C i, d, fs, _, _, _, rfl, s1 _ _ _ h1, s1 _ _ _ h2, T.x i hi, .own _, is 4 (by decide), _, rfl, a, C i, d, fs, _, _, _, rfl, s1 _ _ _ h1, s1 _ _ _ h2, T.x i hi, .own _, is 5 (by decide), _, rfl, a, C i, d, fs, _, _, _, rfl, s1 _ _ _ h1, s1 _ _ _ h2, T.x i hi, .own _, is 6 (by decide), few 3 (by decide), fun q hq => ?_⟩
    have npq : p ≠ q := fun e => by
      rw [← e, upd_same] at hq
      cases hq
    refine ⟨p, q, _, _, rfl, rfl, (upd_ne npq).trans upd_same, upd_same, few 7 (by decide), fun r hr' => ?_⟩
    have hr1 := none_of hr'
    refine k _ r (fun b z e => ?_) (none_of hr1) upd_same
    exact (upd_ne (ne_of_none e (none_of hr1))).trans ((upd_ne (ne_of_none e (none_of hq))).trans (s1 _ _ _ e))
theorem ok_F {f : Addr} {fd : FuncData} (F : Fun K "_law_foreign" "_law_foreign" sF f fd) (T : TxE K mg C B) : FnOk P w K mg base CX0 1 f fd ["value"] (spF C) := by
  refine F.ok scF (fun vs H Q E h => ?_) (fun cdv A outer s H vs Q E hr h => ?_)
  · obtain ⟨i, a, fs, rfl, _⟩ := h
    rfl
  · obtain ⟨i, a, fs, rfl, hi, ⟨d, h1, h2⟩, k⟩ := h
    refine ⟨_, (pss_cons (ps_if (PW.pt (pw_or (pt_val (pe_callB call_xis (by rfl) T.isinstance (by decide +kernel) (pa_cons (pv 0) (pa_cons (pe_bltn (by rfl) T.valueError (by decide +kernel) (show RelV (.ty "ValueError") (.type "ValueError") from rfl)) pa_nil)))) (pw_or1 (pt_val (pe_callB call_xis (by rfl) T.isinstance (by decide +kernel) (pa_cons (pv 0) (pa_cons (pe_bltn (by rfl) T.lookupError (by decide +kernel) (show RelV (.ty "LookupError") (.type "LookupError") from rfl)) pa_nil))))))) (pss_one (ps_ret pe_bl)) pss_nil)
      (pss_one (ps_ret (pe_or (pe_callB call_xis (by rfl) T.isinstance (by decide +kernel) (pa_cons (pv 0) (pa_cons (pe_bltn (by rfl) T.arithmeticError (by decide +kernel) (show RelV (.ty "ArithmeticError") (.type "ArithmeticError") from rfl)) pa_nil))) (pe_one (pe_not (pe_callB call_xis (by rfl) T.isinstance (by decide +kernel) (pa_cons (pv 0) (pa_cons (pe_bltn (by rfl) T.exception (by decide +kernel) (show RelV (.ty "Exception") (.type "Exception") from rfl)) pa_nil))))))))), ?_⟩
    refine ⟨_, rfl, a, C i, d, fs, _, _, _, rfl, h1, h2, T.x i hi, .ty _, T.kitV i hi, _, rfl, iteF ?_⟩
    refine ⟨_, rfl, a, C i, d, fs, _, _, _, rfl, h1, h2, T.x i hi, .ty _, T.kitL i hi, _, rfl, iteF ?_⟩
    refine ⟨_, rfl, a, C i, d, fs, _, _, _, rfl, h1, h2, T.x i hi, .ty _, T.kitA i hi, _, rfl, iteF ?_⟩
    exact ⟨_, rfl, a, C i, d, fs, _, _, _, rfl, h1, h2, T.x i hi, .ty _, T.kitE i hi, _, rfl, k⟩
end
end Rh
namespace Rh
open PySem L2
abbrev sQ : Stmt := top 16
theorem scQ : FnScope ["name", "wrong"] ["name"] (defScope sQ) := ⟨rfl, rfl, rfl, by decide +kernel, rfl, by decide +kernel, by decide +kernel⟩
def spQ : Sp := fun vs H Q _ => ∃ z : Str, vs = [.str z] ∧ ∀ H', Same H H' → Q (.bl (!decide (z = ""))) H'
section
variable {P : Program} {w : World} {K : PySem.W.Frag} {mg : Str → Option Value} {base : Heap} {C fI : Nat → Addr} {B : Addr}
theorem ok_Q {f : Addr} {fd f4 f3 : FuncData} (F : Fun K "_law_caught" "_law_caught" sQ f fd) (T : TxE K mg C B) (gB : mg "BookError" = some (.ref B)) (x4 : PySem.W.exmOne K (.ref (C 4)) (.ref B) = some true) (x3 : PySem.W.exmOne K (.ref (C 3)) (.ref B) = some true)
    (ENotSaid : Ec K mg "NotSaid" (C 4) (fI 4)) (ENoTongue : Ec K mg "NoTongue" (C 3) (fI 3)) (INotSaid : FnOk P w K mg base CX0 1 (fI 4) f4 ["self", "text"] (sp1 "text" (C 4))) (INoTongue : FnOk P w K mg base CX0 1 (fI 3) f3 ["self", "name"] (sp1 "name" (C 3)))
    (BNotSaid : Binds K f4 ["self", "text"] []) (BNoTongue : Binds K f3 ["self", "name"] []) : FnOk P w K mg base CX0 3 f fd ["name"] spQ := by
  refine F.ok scQ (fun vs H Q E h => ?_) (fun cdv A outer s H vs Q E hr h => ?_)
  · obtain ⟨z, rfl, _⟩ := h
    rfl
  · obtain ⟨z, rfl, k⟩ := h
    refine ⟨_, (pss_one (ps_try_as (i := 1) rfl rfl scQ.nd rfl rfl ⟨rfl, by decide, .inl gB⟩ takes0 (fun W pn xe tk _ =>
      (pss_cons (ps_if (pt_cmpR op_eq (pv 0) pe_str (nomark _)) (pss_one (ps_raise rfl tk (pmk_x ENotSaid.x ENotSaid.i ENotSaid.t INotSaid hr BNotSaid .nil pass0 ENotSaid.g (pa_cons pe_str pa_nil)))) pss_nil)
        (pss_one (ps_raise rfl tk (pmk_x ENoTongue.x ENoTongue.i ENoTongue.t INoTongue hr BNoTongue .nil pass0 ENoTongue.g (pa_cons (pv 0) pa_nil))))))
    (fun a oe cls d pn hz hf => pss_one (ps_ret (pe_callB (call_xsu hz hf) (by rfl) T.isinstance (by decide +kernel) (pa_cons (pv 1) (pa_cons (pe_glob rfl ENoTongue.g (show RelV (.ref _) (.ref _) from rfl)) pa_nil))))))), ?_⟩
    refine ⟨_, rfl, rfl, _, rfl, ?_⟩
    have far : ∀ (H' : Hp) (a d : Addr) (o : HO), Same H H' → H a = none → H d = none → Same H (upd (del H' a) d o) := fun H' a d o sm ha hd b v e =>
      (upd_ne (ne_of_none e hd)).trans ((del_ne (ne_of_none e ha)).trans (sm _ _ e))
    refine ite2 (fun hz => ?_) (fun hz => ?_)
    · refine ⟨(by decide), fun a ha => ⟨H, a, _, rfl, ha, rfl, fun H' d sm hd e1 e2 => ⟨rfl, d, _, e1, e2, hd, true, x4, fun _ b hb => ?_, fun q => nomatch q⟩⟩⟩
      refine ⟨_, rfl, C 4, d, _, _, _, _, rfl, rfl, ENotSaid.x, upd_same, rfl, .own _, T.kit 4 3 (by decide) (by decide), ?_⟩
      have hz' : z = "" := V.str.inj (of_decide_eq_true hz)
      have q : ∀ H'', Same H H'' → Q (.bl false) H'' := fun H'' e => by
        have q := k H'' e
        rw [decide_eq_true hz'] at q
        exact q
      exact q _ (far H' a d _ sm ha hd)
    · refine ⟨_, rfl, Nat.le_of_ble_eq_true rfl, fun a ha => ⟨H, a, _, rfl, ha, rfl, fun H' d sm hd e1 e2 => ⟨rfl, d, _, e1, e2, hd, true, x3, fun _ b hb => ?_, fun q => nomatch q⟩⟩⟩
      refine ⟨_, rfl, C 3, d, _, _, _, _, rfl, rfl, ENoTongue.x, upd_same, rfl, .own _, T.kit 3 3 (by decide) (by decide), ?_⟩
      have hz' : ¬ z = "" := fun e => hz (by rw [e]; exact decide_eq_true rfl)
      have q : ∀ H'', Same H H'' → Q (.bl true) H'' := fun H'' e => by
        have q := k H'' e
        rw [decide_eq_false hz'] at q
        exact q
      exact q _ (far H' a d _ sm ha hd)
end
end Rh
namespace Rh
open PySem L2
abbrev sL : Stmt := top 17
abbrev NL : List Str := ["script", "row", "spot", "at", "word", "other", "made", "every", "k", "one"]
theorem scL : FnScope NL ["script"] (defScope sL) := ⟨rfl, rfl, rfl, by decide +kernel, rfl, by decide +kernel, by decide +kernel⟩
def kw1 {α : Type} (us ws : List α) : List α := us ++ ws
def kw2 {α : Type} (us ws : List α) : List α := us ++ ws.reverse
def spL (K : PySem.W.Frag) : Sp := fun vs H Q _ => ∃ (a : Addr) (ns : List Int), vs = [.ref a] ∧ SqL K H a (ns.map V.int) ∧ ns.length ≤ 63 ∧ ∀ H', Q (.bl true) H'
theorem same_new {H : Hp} {p : Addr} {o : HO} (h : H p = none) : Same H (upd H p o) := fun b z e => (upd_ne (ne_of_none e h)).trans e
theorem tup_keep {K : PySem.W.Frag} {H H' : Hp} {a : Addr} {xs : List V} (s : Same H H') (h : SqT K H a xs) : SqT K H' a xs := by
  rcases h with (h | ⟨o, h⟩) | h
  · exact .inl (.inl (s _ _ h))
  · exact .inl (.inr ⟨o, s _ _ h⟩)
  · exact .inr h
mutual
theorem Dp.keep {K : PySem.W.Frag} {H H' : Hp} (s : Same H H') : ∀ {v : V} {d : PyData}, Dp K H v d → Dp K H' v d
  | _, _, .non => .non
  | _, _, .bl b => .bl b
  | _, _, .int i => .int i
  | _, _, .str x => .str x
  | _, _, .lst h t => .lst (s.seq h) (DpAll.keep s t)
  | _, _, .tup h t => .tup (tup_keep s h) (DpAll.keep s t)
theorem DpAll.keep {K : PySem.W.Frag} {H H' : Hp} (s : Same H H') : ∀ {vs : List V} {ds : List PyData}, DpAll K H vs ds → DpAll K H' vs ds
  | _, _, .nil => .nil
  | _, _, .cons h t => .cons (Dp.keep s h) (DpAll.keep s t)
end
def bitsD (i : Nat) : List PyData := (List.range 7).map fun j => .bool (decide (i = j))
theorem bits_len (i : Nat) : (bits i).length = 7 := by
  unfold bits
  rw [List.length_map, List.length_range]
theorem bits_next {i j : Nat} (h : j < 7) : (bits i).take (j + 1) = (bits i).take j ++ [V.bl (decide (V.int (0 + (j : Int)) = V.int (0 + (i : Int))))] := by
  have q : (bits i)[j]? = some (.bl (decide (i = j))) := by
    unfold bits
    rw [List.getElem?_map, List.getElem?_range h]
    rfl
  have e : decide (V.int (0 + (j : Int)) = V.int (0 + (i : Int))) = decide (i = j) := by
    by_cases z : i = j
    · subst z
      simp
    · rw [decide_eq_false z]
      refine decide_eq_false fun w => z ?_
      have := V.int.inj w
      omega
  rw [List.take_add_one, q, e]
  rfl
theorem bits_all {K : PySem.W.Frag} {H : Hp} (i : Nat) : DpAll K H (bits i) (bitsD i) := by
  unfold bits bitsD
  generalize List.range 7 = l
  induction l with
  | nil => exact .nil
  | cons x r ih => exact .cons (.bl _) ih
theorem bits_shaped {i : Nat} (h : i < 7) : SeqAt.shaped (.list (bitsD i)) = true := by
  rcases i with _ | _ | _ | _ | _ | _ | _ | i
  any_goals decide +kernel
  omega
theorem bits_eqv {i : Nat} (h : i < 7) : PyData.eqv (.list (bitsD i)) (.list (bitsD i)) = true := by
  rcases i with _ | _ | _ | _ | _ | _ | _ | i
  any_goals decide +kernel
  omega
theorem pick4 {x0 x1 x2 x3 : Str} {z : Int} (h0 : 0 ≤ z) (h1 : z < 4) : ∃ y : Str, atI [V.str x0, V.str x1, V.str x2, V.str x3] z = some (.str y) := by
  have : z = 0 ∨ z = 1 ∨ z = 2 ∨ z = 3 := by omega
  rcases this with rfl | rfl | rfl | rfl <;> exact ⟨_, rfl⟩
theorem pick5 {K : PySem.W.Frag} {at' z : Int} {y : Str} {t : Addr} (h0 : 0 ≤ z) (h1 : z < 5) : ∃ (o : V) (d : PyData), atI [V.non, V.int (-at'), V.str y, V.ref t, V.bl true] z = some o ∧
    (∀ H : Hp, H t = some (.tup [.int at']) → Dp K H o d) ∧ so d d = true ∧ deep d ≤ 2 ∧ wide d ≤ 1 := by
  have : z = 0 ∨ z = 1 ∨ z = 2 ∨ z = 3 ∨ z = 4 := by omega
  rcases this with rfl | rfl | rfl | rfl | rfl
  · exact ⟨_, .none, rfl, fun H _ => .non, rfl, by decide, by decide⟩
  · exact ⟨_, .int (-at'), rfl, fun H _ => .int _, by simp [so], by simp [deep], by simp [wide]⟩
  · exact ⟨_, .str y, rfl, fun H _ => .str _, by simp [so], by simp [deep], by simp [wide]⟩
  · exact ⟨_, .tuple [.int at'], rfl, fun H h => .tup (SqT.of h) (.cons (.int _) .nil), by simp [so, soAll], by simp [deep, deepAll], by simp [wide, wideAll]⟩
  · exact ⟨_, .bool true, rfl, fun H _ => .bl _, rfl, by decide, by decide⟩
section
variable {P : Program} {w : World} {K : PySem.W.Frag} {mg : Str → Option Value} {base : Heap} {C fI : Nat → Addr} {fdI : Nat → FuncData} {B : Addr}
theorem ok_L {f fN fT fS fO fF fQ : Addr} {fd fdN fdT fdS fdO fdF fdQ : FuncData} (F : Fun K "law" "law" sL f fd) (T : TxE K mg C B) (gB : mg "BookError" = some (.ref B))
    (EBadValue : Ec K mg "BadValue" (C 0) (fI 0)) (IBadValue : FnOk P w K mg base CX0 1 (fI 0) (fdI 0) ["self", "at"] (sp1 "at" (C 0)))
    (n0at : PySem.W.findIn K (.ref (C 0)) "at" = some none)
    (BBadValue : KBn K (fdI 0) ["self", "at"] 2 [] (fun us _ => us) (fun us _ => us))
    (EBadPattern : Ec K mg "BadPattern" (C 1) (fI 1)) (IBadPattern : FnOk P w K mg base CX0 1 (fI 1) (fdI 1) ["self", "at"] (sp1 "at" (C 1)))
    (n1at : PySem.W.findIn K (.ref (C 1)) "at" = some none)
    (BBadPattern : KBn K (fdI 1) ["self", "at"] 2 [] (fun us _ => us) (fun us _ => us))
    (ENoMessage : Ec K mg "NoMessage" (C 2) (fI 2)) (INoMessage : FnOk P w K mg base CX0 1 (fI 2) (fdI 2) ["self", "name"] (sp1 "name" (C 2)))
    (n2name : PySem.W.findIn K (.ref (C 2)) "name" = some none)
    (BNoMessage : KBn K (fdI 2) ["self", "name"] 2 [] (fun us _ => us) (fun us _ => us))
    (ENoTongue : Ec K mg "NoTongue" (C 3) (fI 3)) (INoTongue : FnOk P w K mg base CX0 1 (fI 3) (fdI 3) ["self", "name"] (sp1 "name" (C 3)))
    (n3name : PySem.W.findIn K (.ref (C 3)) "name" = some none)
    (BNoTongue : KBn K (fdI 3) ["self", "name"] 2 [] (fun us _ => us) (fun us _ => us))
    (ENotSaid : Ec K mg "NotSaid" (C 4) (fI 4)) (INotSaid : FnOk P w K mg base CX0 1 (fI 4) (fdI 4) ["self", "text"] (sp1 "text" (C 4)))
    (n4text : PySem.W.findIn K (.ref (C 4)) "text" = some none)
    (BNotSaid : KBn K (fdI 4) ["self", "text"] 2 [] (fun us _ => us) (fun us _ => us))
    (ETwofold : Ec K mg "Twofold" (C 5) (fI 5)) (ITwofold : FnOk P w K mg base CX0 1 (fI 5) (fdI 5) ["self", "first", "second"] (sp2 "first" "second" (C 5)))
    (n5first : PySem.W.findIn K (.ref (C 5)) "first" = some none)    (n5second : PySem.W.findIn K (.ref (C 5)) "second" = some none)
    (BTwofold : KBn K (fdI 5) ["self", "first", "second"] 3 [] (fun us _ => us) (fun us _ => us))
    (EShared : Ec K mg "Shared" (C 6) (fI 6)) (IShared : FnOk P w K mg base CX0 1 (fI 6) (fdI 6) ["self", "name", "text"] (sp2 "name" "text" (C 6)))
    (n6name : PySem.W.findIn K (.ref (C 6)) "name" = some none)    (n6text : PySem.W.findIn K (.ref (C 6)) "text" = some none)
    (BShared : KBn K (fdI 6) ["self", "name", "text"] 3 [] (fun us _ => us) (fun us _ => us))
    (KBadValue : KBn K (fdI 0) ["self", "at"] 1 ["at"] kw1 kw1)
    (KBadPattern : KBn K (fdI 1) ["self", "at"] 1 ["at"] kw1 kw1)
    (KNoMessage : KBn K (fdI 2) ["self", "name"] 1 ["name"] kw1 kw1)
    (KNoTongue : KBn K (fdI 3) ["self", "name"] 1 ["name"] kw1 kw1)
    (KNotSaid : KBn K (fdI 4) ["self", "text"] 1 ["text"] kw1 kw1)
    (KTwofold : KBn K (fdI 5) ["self", "first", "second"] 1 ["second", "first"] kw2 kw2)
    (KShared : KBn K (fdI 6) ["self", "name", "text"] 1 ["text", "name"] kw2 kw2)
    (F_law_numbers : Fun K "_law_numbers" "_law_numbers" sN fN fdN) (G_law_numbers : FnOk P w K mg base CX0 1 fN fdN ["script"] (spN K)) (B_law_numbers : Binds K fdN ["script"] []) (g_law_numbers : mg "_law_numbers" = some (.ref fN))
    (F_law_take : Fun K "_law_take" "_law_take" sT fT fdT) (G_law_take : FnOk P w K mg base CX0 2 fT fdT ["row", "spot", "limit"] (spT K)) (B_law_take : Binds K fdT ["row", "spot", "limit"] []) (g_law_take : mg "_law_take" = some (.ref fT))
    (F_law_so : Fun K "_law_so" "_law_so" sS fS fdS) (G_law_so : FnOk P w K mg base CX0 4 fS fdS ["found", "meant"] (spS K 4)) (B_law_so : Binds K fdS ["found", "meant"] []) (g_law_so : mg "_law_so" = some (.ref fS))
    (F_law_of : Fun K "_law_of" "_law_of" sO fO fdO) (G_law_of : FnOk P w K mg base CX0 1 fO fdO ["value"] (spO C)) (B_law_of : Binds K fdO ["value"] []) (g_law_of : mg "_law_of" = some (.ref fO))
    (F_law_foreign : Fun K "_law_foreign" "_law_foreign" sF fF fdF) (G_law_foreign : FnOk P w K mg base CX0 1 fF fdF ["value"] (spF C)) (B_law_foreign : Binds K fdF ["value"] []) (g_law_foreign : mg "_law_foreign" = some (.ref fF))
    (F_law_caught : Fun K "_law_caught" "_law_caught" sQ fQ fdQ) (G_law_caught : FnOk P w K mg base CX0 3 fQ fdQ ["name"] spQ) (B_law_caught : Binds K fdQ ["name"] []) (g_law_caught : mg "_law_caught" = some (.ref fQ)) :
    FnOk P w K mg base CX0 5 f fd ["script"] (spL K) := by
  refine F.ok scL (fun vs H Q E h => ?_) (fun cdv A outer s H vs Q E hr h => ?_)
  · obtain ⟨z, ns, rfl, _⟩ := h
    rfl
  · obtain ⟨a, ns, rfl, hS, hn, k⟩ := h
    refine ⟨_, (pss_cons (ps_set (i := 1) scL.nd rfl (Or.inl rfl) (pe_call G_law_numbers (hr.mono (by decide)) rfl g_law_numbers F_law_numbers.kp B_law_numbers .nil pass0 (pa_cons (pv 0) pa_nil)))
      (pss_cons (ps_set (i := 2) scL.nd rfl (Or.inl rfl) (pe_lst (pa_cons pe_int pa_nil)))
      (pss_cons (ps_set (i := 3) scL.nd rfl (Or.inl rfl) (pe_op op_sub (pe_call G_law_take (hr.mono (by decide)) rfl g_law_take F_law_take.kp B_law_take .nil pass0 (pa_cons (pv 1) (pa_cons (pv 2) (pa_cons pe_int pa_nil)))) pe_int))
      (pss_cons (ps_set (i := 4) scL.nd rfl (Or.inl rfl) (pe_ix ix_list (pe_lst (pa_cons pe_str (pa_cons pe_str (pa_cons pe_str (pa_cons pe_str pa_nil))))) (pe_call G_law_take (hr.mono (by decide)) rfl g_law_take F_law_take.kp B_law_take .nil pass0 (pa_cons (pv 1) (pa_cons (pv 2) (pa_cons pe_int pa_nil)))) (fun _ _ => rfl)))
      (pss_cons (ps_set (i := 5) scL.nd rfl (Or.inl rfl) (pe_ix ix_list (pe_lst (pa_cons pe_non (pa_cons (pe_un un_neg (pv 3)) (pa_cons (pv 4) (pa_cons (pe_tup (pa_cons (pv 3) pa_nil)) (pa_cons pe_bl pa_nil)))))) (pe_call G_law_take (hr.mono (by decide)) rfl g_law_take F_law_take.kp B_law_take .nil pass0 (pa_cons (pv 1) (pa_cons (pv 2) (pa_cons pe_int pa_nil)))) (fun _ _ => rfl)))
      (pss_cons (ps_for PassesOwn.never rfl (pi_list (pe_lst (pa_cons (pe_xmk EBadValue.x EBadValue.i EBadValue.t IBadValue (hr.mono (by decide)) EBadValue.g BBadValue pass0 (by decide) (pa_cons (pv 3) pa_nil)) (pa_cons (pe_xmk EBadPattern.x EBadPattern.i EBadPattern.t IBadPattern (hr.mono (by decide)) EBadPattern.g BBadPattern pass0 (by decide) (pa_cons (pv 3) pa_nil)) (pa_cons (pe_xmk0 EBadValue.x EBadValue.i EBadValue.t IBadValue (hr.mono (by decide)) EBadValue.g KBadValue pass0 (pk_cons (pv 3) pk_nil)) (pa_cons (pe_xmk0 EBadPattern.x EBadPattern.i EBadPattern.t IBadPattern (hr.mono (by decide)) EBadPattern.g KBadPattern pass0 (pk_cons (pv 3) pk_nil)) pa_nil)))))) (pg_name (i := 6) scL.nd rfl (Or.inl rfl)) (pss_one (ps_if (pt_not (pt_val (pe_call G_law_so (hr.mono (by decide)) rfl g_law_so F_law_so.kp B_law_so .nil pass0 (pa_cons (pe_xat (pv 6)) (pa_cons (pv 3) pa_nil))))) (pss_one (ps_ret pe_bl)) pss_nil)))
      (pss_cons (ps_for PassesOwn.never rfl (pi_list (pe_lst (pa_cons (pe_xmk ENoMessage.x ENoMessage.i ENoMessage.t INoMessage (hr.mono (by decide)) ENoMessage.g BNoMessage pass0 (by decide) (pa_cons (pv 5) pa_nil)) (pa_cons (pe_xmk ENoTongue.x ENoTongue.i ENoTongue.t INoTongue (hr.mono (by decide)) ENoTongue.g BNoTongue pass0 (by decide) (pa_cons (pv 5) pa_nil)) (pa_cons (pe_xmk0 ENoMessage.x ENoMessage.i ENoMessage.t INoMessage (hr.mono (by decide)) ENoMessage.g KNoMessage pass0 (pk_cons (pv 5) pk_nil)) (pa_cons (pe_xmk0 ENoTongue.x ENoTongue.i ENoTongue.t INoTongue (hr.mono (by decide)) ENoTongue.g KNoTongue pass0 (pk_cons (pv 5) pk_nil)) pa_nil)))))) (pg_name (i := 6) scL.nd rfl (Or.inl rfl)) (pss_one (ps_if (pt_not (pt_val (pe_call G_law_so (hr.mono (by decide)) rfl g_law_so F_law_so.kp B_law_so .nil pass0 (pa_cons (pe_xat (pv 6)) (pa_cons (pv 5) pa_nil))))) (pss_one (ps_ret pe_bl)) pss_nil)))
      (pss_cons (ps_for PassesOwn.never rfl (pi_list (pe_lst (pa_cons (pe_xmk ENotSaid.x ENotSaid.i ENotSaid.t INotSaid (hr.mono (by decide)) ENotSaid.g BNotSaid pass0 (by decide) (pa_cons (pv 4) pa_nil)) (pa_cons (pe_xmk0 ENotSaid.x ENotSaid.i ENotSaid.t INotSaid (hr.mono (by decide)) ENotSaid.g KNotSaid pass0 (pk_cons (pv 4) pk_nil)) pa_nil)))) (pg_name (i := 6) scL.nd rfl (Or.inl rfl)) (pss_one (ps_if (pt_not (pt_val (pe_call G_law_so (hr.mono (by decide)) rfl g_law_so F_law_so.kp B_law_so .nil pass0 (pa_cons (pe_xat (pv 6)) (pa_cons (pv 4) pa_nil))))) (pss_one (ps_ret pe_bl)) pss_nil)))
      (pss_cons (ps_for PassesOwn.never rfl (pi_list (pe_lst (pa_cons (pe_xmk ETwofold.x ETwofold.i ETwofold.t ITwofold (hr.mono (by decide)) ETwofold.g BTwofold pass0 (by decide) (pa_cons (pe_tup (pa_cons (pv 3) pa_nil)) (pa_cons (pe_tup (pa_cons (pv 4) pa_nil)) pa_nil))) (pa_cons (pe_xmk0 ETwofold.x ETwofold.i ETwofold.t ITwofold (hr.mono (by decide)) ETwofold.g KTwofold pass0 (pk_cons (pe_tup (pa_cons (pv 4) pa_nil)) (pk_cons (pe_tup (pa_cons (pv 3) pa_nil)) pk_nil))) pa_nil)))) (pg_name (i := 6) scL.nd rfl (Or.inl rfl)) (pss_one (ps_if (pt_not (pt_val (pe_call G_law_so (hr.mono (by decide)) rfl g_law_so F_law_so.kp B_law_so .nil pass0 (pa_cons (pe_tup (pa_cons (pe_xat (pv 6)) (pa_cons (pe_xat (pv 6)) pa_nil))) (pa_cons (pe_tup (pa_cons (pe_tup (pa_cons (pv 3) pa_nil)) (pa_cons (pe_tup (pa_cons (pv 4) pa_nil)) pa_nil))) pa_nil))))) (pss_one (ps_ret pe_bl)) pss_nil)))
      (pss_cons (ps_for PassesOwn.never rfl (pi_list (pe_lst (pa_cons (pe_xmk EShared.x EShared.i EShared.t IShared (hr.mono (by decide)) EShared.g BShared pass0 (by decide) (pa_cons (pv 4) (pa_cons pe_str pa_nil))) (pa_cons (pe_xmk0 EShared.x EShared.i EShared.t IShared (hr.mono (by decide)) EShared.g KShared pass0 (pk_cons pe_str (pk_cons (pv 4) pk_nil))) pa_nil)))) (pg_name (i := 6) scL.nd rfl (Or.inl rfl)) (pss_one (ps_if (pt_not (pt_val (pe_call G_law_so (hr.mono (by decide)) rfl g_law_so F_law_so.kp B_law_so .nil pass0 (pa_cons (pe_tup (pa_cons (pe_xat (pv 6)) (pa_cons (pe_xat (pv 6)) pa_nil))) (pa_cons (pe_tup (pa_cons (pv 4) (pa_cons pe_str pa_nil))) pa_nil))))) (pss_one (ps_ret pe_bl)) pss_nil)))
      (pss_cons (ps_set (i := 7) scL.nd rfl (Or.inl rfl) (pe_lst (pa_cons (pe_xmk EBadValue.x EBadValue.i EBadValue.t IBadValue (hr.mono (by decide)) EBadValue.g BBadValue pass0 (by decide) (pa_cons (pv 3) pa_nil)) (pa_cons (pe_xmk EBadPattern.x EBadPattern.i EBadPattern.t IBadPattern (hr.mono (by decide)) EBadPattern.g BBadPattern pass0 (by decide) (pa_cons (pv 3) pa_nil)) (pa_cons (pe_xmk ENoMessage.x ENoMessage.i ENoMessage.t INoMessage (hr.mono (by decide)) ENoMessage.g BNoMessage pass0 (by decide) (pa_cons (pv 5) pa_nil)) (pa_cons (pe_xmk ENoTongue.x ENoTongue.i ENoTongue.t INoTongue (hr.mono (by decide)) ENoTongue.g BNoTongue pass0 (by decide) (pa_cons (pv 5) pa_nil)) (pa_cons (pe_xmk ENotSaid.x ENotSaid.i ENotSaid.t INotSaid (hr.mono (by decide)) ENotSaid.g BNotSaid pass0 (by decide) (pa_cons (pv 4) pa_nil)) (pa_cons (pe_xmk ETwofold.x ETwofold.i ETwofold.t ITwofold (hr.mono (by decide)) ETwofold.g BTwofold pass0 (by decide) (pa_cons (pe_tup (pa_cons (pv 3) pa_nil)) (pa_cons (pe_tup (pa_cons (pv 4) pa_nil)) pa_nil))) (pa_cons (pe_xmk EShared.x EShared.i EShared.t IShared (hr.mono (by decide)) EShared.g BShared pass0 (by decide) (pa_cons (pv 4) (pa_cons pe_str pa_nil))) pa_nil)))))))))
      (pss_cons (ps_for PassesOwn.never rfl (pi_range1 rfl T.range (pa_cons pe_int pa_nil)) (pg_name (i := 8) scL.nd rfl (Or.inr rfl)) (pss_one (ps_if (PW.pt (pw_or (pt_cmpR (op_neD hr.units) (pe_call G_law_of (hr.mono (by decide)) rfl g_law_of F_law_of.kp B_law_of .nil pass0 (pa_cons (pe_ix ix_list (pv 7) (pv 8) (fun _ _ => rfl)) pa_nil)) (pe_lc (own := [("one", 9)]) (g := gName 9) (tt := tYes) rfl scL.nd (pi_range1 rfl T.range (pa_cons pe_int pa_nil)) (blkOk_by (N := NL) (sc := defScope sL) (by decide +kernel)) (fun _ _ _ _ _ => pg_name (i := 9) scL.nd rfl (Or.inl rfl)) (fun _ _ _ _ _ => pts_nil) (fun _ _ _ _ _ => pe_cmpR op_eq (pv 9) (pv 8) (nomark _))) (nomark _)) (pw_or (pt_val (pe_call G_law_foreign (hr.mono (by decide)) rfl g_law_foreign F_law_foreign.kp B_law_foreign .nil pass0 (pa_cons (pe_ix ix_list (pv 7) (pv 8) (fun _ _ => rfl)) pa_nil))) (pw_or1 (pt_not (pt_val (pe_callB call_xis (by rfl) T.isinstance (by decide +kernel) (pa_cons (pe_ix ix_list (pv 7) (pv 8) (fun _ _ => rfl)) (pa_cons (pe_glob rfl gB (show RelV (.ref _) (.ref _) from rfl)) pa_nil))))))))) (pss_one (ps_ret pe_bl)) pss_nil)))
      (pss_one (ps_ret (pe_and (pe_not (pe_call G_law_caught (hr.mono (by decide)) rfl g_law_caught F_law_caught.kp B_law_caught .nil pass0 (pa_cons pe_str pa_nil))) (pe_one (pe_call G_law_caught (hr.mono (by decide)) rfl g_law_caught F_law_caught.kp B_law_caught .nil pass0 (pa_cons pe_str pa_nil)))))))))))))))))), ?_⟩
    have few : ∀ n : Nat, n ≤ 1000 → n ≤ sizeLine := fun n h => Nat.le_of_lt (small1000 h)
    refine ⟨_, rfl, a, ns, rfl, hS, hn, fun H1 p r _ _ ep hR => ?_⟩
    refine ⟨few 1 (by decide), fun b hb => ?_⟩
    have npb : p ≠ b := ne_of_none ep hb
    refine ⟨_, rfl, _, rfl, p, b, r, 0, 997, rfl, SqL.of ((upd_ne npb).trans ep), hR, upd_same, npb, by decide, by decide, fun z1 a1 b1 => ⟨_, _, rfl, rfl, ?_⟩⟩
    generalize hat : z1 - 9 = at'
    refine ⟨few 4 (by decide), fun q hq => ?_⟩
    have hq1 := none_of hq
    have hq2 := none_of hq1
    refine ⟨_, rfl, _, rfl, p, b, r, 0 + 1, 4, rfl, SqL.of ((upd_ne (ne_of_none ep hq2)).trans ((upd_ne npb).trans ((upd_ne npb).trans ep))), hR, (upd_ne (ne_of_none upd_same hq)).trans upd_same, npb, by decide, by decide, fun z2 a2 b2 => ?_⟩
    obtain ⟨y, hy⟩ := pick4 (x0 := "x") (x1 := "a b") (x2 := "") (x3 := "0") a2 b2
    refine ⟨q, _, _, _, rfl, rfl, SqL.of ((upd_ne (ne_of_none upd_same hq).symm).trans upd_same), hy, ?_⟩
    refine ⟨_, rfl, _, rfl, _, rfl, _, rfl, few 1 (by decide), fun t ht => ⟨few 5 (by decide), fun l hl => ?_⟩⟩
    have kq : ∀ (H' : Hp) (c : Addr) (o : HO), H' c = some o → upd H' b (.lst [.int (0 + 1 + 1)]) c = some o ∨ c = b := fun H' c o e => by
      by_cases z : c = b
      · exact .inr z
      · exact .inl ((upd_ne z).trans e)
    have nt2 := none_of (none_of ht)
    have nt0 := none_of (none_of nt2)
    have nl1 := none_of hl
    have nl2 := none_of (none_of nl1)
    have nl0 := none_of (none_of nl2)
    have ntl : t ≠ l := ne_of_none upd_same hl
    have ntb : t ≠ b := fun e => by
      rw [e, upd_same] at ht
      cases ht
    have nlb : l ≠ b := fun e => by
      rw [e, upd_ne (fun z => ntb z.symm), upd_same] at hl
      cases hl
    refine ⟨_, rfl, _, rfl, p, b, r, 0 + 1 + 1, 5, rfl, SqL.of ?_, hR, (upd_ne nlb.symm).trans ((upd_ne ntb.symm).trans upd_same), npb, by decide, by decide, fun z3 a3 b3 => ?_⟩
    · exact (upd_ne (ne_of_none ep nl0)).trans ((upd_ne (ne_of_none ep nt0)).trans ((upd_ne npb).trans ((upd_ne (ne_of_none ep hq2)).trans ((upd_ne npb).trans ((upd_ne npb).trans ep)))))
    obtain ⟨o, d, ho, hd, sd, dd, wd⟩ := pick5 (K := K) (at' := z1 - 9) (y := y) (t := t) a3 b3
    refine ⟨l, _, _, _, rfl, rfl, SqL.of ((upd_ne nlb).trans upd_same), ho, ?_⟩
    have hd := hd (upd (upd (upd (upd (upd (upd (upd H1 b (HO.lst [V.int 0])) b (HO.lst [V.int (0 + 1)])) q (HO.lst [V.str "x", V.str "a b", V.str "", V.str "0"])) b (HO.lst [V.int (0 + 1 + 1)])) t (HO.tup [V.int (z1 - 9)])) l (HO.lst [V.non, V.int (-(z1 - 9)), V.str y, V.ref t, V.bl true])) b (HO.lst [V.int (0 + 1 + 1 + 1)])) ((upd_ne ntb).trans ((upd_ne ntl).trans upd_same))
    generalize (upd (upd (upd (upd (upd (upd (upd H1 b (HO.lst [V.int 0])) b (HO.lst [V.int (0 + 1)])) q (HO.lst [V.str "x", V.str "a b", V.str "", V.str "0"])) b (HO.lst [V.int (0 + 1 + 1)])) t (HO.tup [V.int (z1 - 9)])) l (HO.lst [V.non, V.int (-(z1 - 9)), V.str y, V.ref t, V.bl true])) b (HO.lst [V.int (0 + 1 + 1 + 1)])) = H2 at hd ⊢
    refine ⟨_, rfl, rfl, rfl, fun eA0 hA0 => ⟨_, eA0, _, rfl, hA0, rfl, fun GA0 dA0 sA0 _ pA0 qA0 => ⟨rfl, ?_⟩⟩⟩
    refine ⟨_, rfl, rfl, rfl, fun eA1 hA1 => ⟨_, eA1, _, rfl, hA1, rfl, fun GA1 dA1 sA1 _ pA1 qA1 => ⟨rfl, ?_⟩⟩⟩
    refine ⟨_, rfl, rfl, rfl, fun eA2 hA2 => ⟨_, eA2, _, rfl, hA2, rfl, fun GA2 dA2 sA2 _ pA2 qA2 => ⟨rfl, ?_⟩⟩⟩
    refine ⟨_, rfl, rfl, rfl, fun eA3 hA3 => ⟨_, eA3, _, rfl, hA3, rfl, fun GA3 dA3 sA3 _ pA3 qA3 => ⟨rfl, ?_⟩⟩⟩
    refine ⟨few 4 (by decide), fun lA hlA => ?_⟩
    have SlA := same_new (o := .lst [.ref eA0, .ref eA1, .ref eA2, .ref eA3]) hlA
    have elsA : ∀ (i : Nat) (x : V), [V.ref eA0, V.ref eA1, V.ref eA2, V.ref eA3][i]? = some x → ∃ (e : Addr) (c : Nat) (_ : c < 7) (_ : x = .ref e) (_ : PySem.XV.XC K (C c)), PySem.W.findIn K (.ref (C c)) "at" = some none ∧ ErrAt (upd GA3 lA (.lst [.ref eA0, .ref eA1, .ref eA2, .ref eA3])) e (C c) [("at", .int (z1 - 9))] := by
      intro i x h
      rcases i with _ | _ | _ | _ | i
      · cases (Option.some.inj h)
        exact ⟨eA0, 0, by decide, rfl, EBadValue.x, n0at, ErrAt.keep ⟨dA0, pA0, qA0⟩ (((sA1.trans sA2).trans sA3).trans SlA)⟩
      · cases (Option.some.inj h)
        exact ⟨eA1, 1, by decide, rfl, EBadPattern.x, n1at, ErrAt.keep ⟨dA1, pA1, qA1⟩ ((sA2.trans sA3).trans SlA)⟩
      · cases (Option.some.inj h)
        exact ⟨eA2, 0, by decide, rfl, EBadValue.x, n0at, ErrAt.keep ⟨dA2, pA2, qA2⟩ (sA3.trans SlA)⟩
      · cases (Option.some.inj h)
        exact ⟨eA3, 1, by decide, rfl, EBadPattern.x, n1at, ErrAt.keep ⟨dA3, pA3, qA3⟩ SlA⟩
      · simp at h
    refine ⟨lA, rfl, ⟨_, SqL.of upd_same⟩, for_list (K := K) (a := lA) (xs := [.ref eA0, .ref eA1, .ref eA2, .ref eA3]) (fun i σ H' => (∃ v, σ = [some (.ref a), some (.ref p), some (.ref b), some (.int (z1 - 9)), some (.str y), some o, v, none, none, none]) ∧ Same (upd GA3 lA (.lst [.ref eA0, .ref eA1, .ref eA2, .ref eA3])) H') ⟨⟨_, rfl⟩, Same.refl _⟩ (fun i σ H' _ h => SqL.of (h.2 _ _ upd_same)) ?_ ?_⟩
    · rintro i x σ H' hx ⟨⟨v, rfl⟩, sm⟩
      obtain ⟨e, c, hc, rfl, xc, no, d', g1, g2⟩ := elsA i x hx
      refine ⟨_, rfl, e, C c, d', _, _, rfl, sm _ _ g1, sm _ _ g2, xc, no, rfl, _, rfl, _, _, .int (z1 - 9), .int (z1 - 9), rfl, .int _, .int _, by simp [deep], by simp [wide], ⟨true, congrArg V.bl (by simp [so]), iteF ⟨⟨_, rfl⟩, sm⟩⟩⟩
    rintro σ H3 ⟨⟨v, rfl⟩, smA⟩
    have hd := Dp.keep (((((sA0.trans sA1).trans sA2).trans sA3).trans SlA).trans smA) hd
    refine ⟨_, rfl, rfl, rfl, fun eB0 hB0 => ⟨_, eB0, _, rfl, hB0, rfl, fun GB0 dB0 sB0 _ pB0 qB0 => ⟨rfl, ?_⟩⟩⟩
    refine ⟨_, rfl, rfl, rfl, fun eB1 hB1 => ⟨_, eB1, _, rfl, hB1, rfl, fun GB1 dB1 sB1 _ pB1 qB1 => ⟨rfl, ?_⟩⟩⟩
    refine ⟨_, rfl, rfl, rfl, fun eB2 hB2 => ⟨_, eB2, _, rfl, hB2, rfl, fun GB2 dB2 sB2 _ pB2 qB2 => ⟨rfl, ?_⟩⟩⟩
    refine ⟨_, rfl, rfl, rfl, fun eB3 hB3 => ⟨_, eB3, _, rfl, hB3, rfl, fun GB3 dB3 sB3 _ pB3 qB3 => ⟨rfl, ?_⟩⟩⟩
    refine ⟨few 4 (by decide), fun lB hlB => ?_⟩
    have SlB := same_new (o := .lst [.ref eB0, .ref eB1, .ref eB2, .ref eB3]) hlB
    have elsB : ∀ (i : Nat) (x : V), [V.ref eB0, V.ref eB1, V.ref eB2, V.ref eB3][i]? = some x → ∃ (e : Addr) (c : Nat) (_ : c < 7) (_ : x = .ref e) (_ : PySem.XV.XC K (C c)), PySem.W.findIn K (.ref (C c)) "name" = some none ∧ ErrAt (upd GB3 lB (.lst [.ref eB0, .ref eB1, .ref eB2, .ref eB3])) e (C c) [("name", o)] := by
      intro i x h
      rcases i with _ | _ | _ | _ | i
      · cases (Option.some.inj h)
        exact ⟨eB0, 2, by decide, rfl, ENoMessage.x, n2name, ErrAt.keep ⟨dB0, pB0, qB0⟩ (((sB1.trans sB2).trans sB3).trans SlB)⟩
      · cases (Option.some.inj h)
        exact ⟨eB1, 3, by decide, rfl, ENoTongue.x, n3name, ErrAt.keep ⟨dB1, pB1, qB1⟩ ((sB2.trans sB3).trans SlB)⟩
      · cases (Option.some.inj h)
        exact ⟨eB2, 2, by decide, rfl, ENoMessage.x, n2name, ErrAt.keep ⟨dB2, pB2, qB2⟩ (sB3.trans SlB)⟩
      · cases (Option.some.inj h)
        exact ⟨eB3, 3, by decide, rfl, ENoTongue.x, n3name, ErrAt.keep ⟨dB3, pB3, qB3⟩ SlB⟩
      · simp at h
    refine ⟨lB, rfl, ⟨_, SqL.of upd_same⟩, for_list (K := K) (a := lB) (xs := [.ref eB0, .ref eB1, .ref eB2, .ref eB3]) (fun i σ H' => (∃ v, σ = [some (.ref a), some (.ref p), some (.ref b), some (.int (z1 - 9)), some (.str y), some o, v, none, none, none]) ∧ Same (upd GB3 lB (.lst [.ref eB0, .ref eB1, .ref eB2, .ref eB3])) H') ⟨⟨_, rfl⟩, Same.refl _⟩ (fun i σ H' _ h => SqL.of (h.2 _ _ upd_same)) ?_ ?_⟩
    · rintro i x σ H' hx ⟨⟨v, rfl⟩, sm⟩
      obtain ⟨e, c, hc, rfl, xc, no, d', g1, g2⟩ := elsB i x hx
      refine ⟨_, rfl, e, C c, d', _, _, rfl, sm _ _ g1, sm _ _ g2, xc, no, rfl, _, rfl, _, _, d, d, rfl, Dp.keep (((((sB0.trans sB1).trans sB2).trans sB3).trans SlB).trans sm) hd, Dp.keep (((((sB0.trans sB1).trans sB2).trans sB3).trans SlB).trans sm) hd, by omega, Nat.le_trans wd (few 1 (by decide)), ⟨true, congrArg V.bl sd, iteF ⟨⟨_, rfl⟩, sm⟩⟩⟩
    rintro σ H4 ⟨⟨v, rfl⟩, smB⟩
    have hd := Dp.keep (((((sB0.trans sB1).trans sB2).trans sB3).trans SlB).trans smB) hd
    refine ⟨_, rfl, rfl, rfl, fun eC0 hC0 => ⟨_, eC0, _, rfl, hC0, rfl, fun GC0 dC0 sC0 _ pC0 qC0 => ⟨rfl, ?_⟩⟩⟩
    refine ⟨_, rfl, rfl, rfl, fun eC1 hC1 => ⟨_, eC1, _, rfl, hC1, rfl, fun GC1 dC1 sC1 _ pC1 qC1 => ⟨rfl, ?_⟩⟩⟩
    refine ⟨few 2 (by decide), fun lC hlC => ?_⟩
    have SlC := same_new (o := .lst [.ref eC0, .ref eC1]) hlC
    have elsC : ∀ (i : Nat) (x : V), [V.ref eC0, V.ref eC1][i]? = some x → ∃ (e : Addr) (c : Nat) (_ : c < 7) (_ : x = .ref e) (_ : PySem.XV.XC K (C c)), PySem.W.findIn K (.ref (C c)) "text" = some none ∧ ErrAt (upd GC1 lC (.lst [.ref eC0, .ref eC1])) e (C c) [("text", .str y)] := by
      intro i x h
      rcases i with _ | _ | i
      · cases (Option.some.inj h)
        exact ⟨eC0, 4, by decide, rfl, ENotSaid.x, n4text, ErrAt.keep ⟨dC0, pC0, qC0⟩ (sC1.trans SlC)⟩
      · cases (Option.some.inj h)
        exact ⟨eC1, 4, by decide, rfl, ENotSaid.x, n4text, ErrAt.keep ⟨dC1, pC1, qC1⟩ SlC⟩
      · simp at h
    refine ⟨lC, rfl, ⟨_, SqL.of upd_same⟩, for_list (K := K) (a := lC) (xs := [.ref eC0, .ref eC1]) (fun i σ H' => (∃ v, σ = [some (.ref a), some (.ref p), some (.ref b), some (.int (z1 - 9)), some (.str y), some o, v, none, none, none]) ∧ Same (upd GC1 lC (.lst [.ref eC0, .ref eC1])) H') ⟨⟨_, rfl⟩, Same.refl _⟩ (fun i σ H' _ h => SqL.of (h.2 _ _ upd_same)) ?_ ?_⟩
    · rintro i x σ H' hx ⟨⟨v, rfl⟩, sm⟩
      obtain ⟨e, c, hc, rfl, xc, no, d', g1, g2⟩ := elsC i x hx
      refine ⟨_, rfl, e, C c, d', _, _, rfl, sm _ _ g1, sm _ _ g2, xc, no, rfl, _, rfl, _, _, .str y, .str y, rfl, .str _, .str _, by simp [deep], by simp [wide], ⟨true, congrArg V.bl (by simp [so]), iteF ⟨⟨_, rfl⟩, sm⟩⟩⟩
    rintro σ H5 ⟨⟨v, rfl⟩, smC⟩
    have hd := Dp.keep (((sC0.trans sC1).trans SlC).trans smC) hd
    refine ⟨_, rfl, few 1 (by decide), fun uD0 huD0 => ?_⟩
    have SuD0 := same_new (o := .tup [.int (z1 - 9)]) huD0
    refine ⟨_, rfl, few 1 (by decide), fun uD1 huD1 => ?_⟩
    have SuD1 := same_new (o := .tup [.str y]) huD1
    refine ⟨rfl, rfl, fun eD0 hD0 => ⟨_, eD0, _, _, rfl, hD0, rfl, fun GD0 dD0 sD0 _ pD0 qD0 => ⟨rfl, ?_⟩⟩⟩
    refine ⟨_, rfl, few 1 (by decide), fun uD2 huD2 => ?_⟩
    have SuD2 := same_new (o := .tup [.str y]) huD2
    refine ⟨_, rfl, few 1 (by decide), fun uD3 huD3 => ?_⟩
    have SuD3 := same_new (o := .tup [.int (z1 - 9)]) huD3
    refine ⟨rfl, rfl, fun eD1 hD1 => ⟨_, eD1, _, _, rfl, hD1, rfl, fun GD1 dD1 sD1 _ pD1 qD1 => ⟨rfl, ?_⟩⟩⟩
    refine ⟨few 2 (by decide), fun lD hlD => ?_⟩
    have SlD := same_new (o := .lst [.ref eD0, .ref eD1]) hlD
    have elsD : ∀ (i : Nat) (x : V), [V.ref eD0, V.ref eD1][i]? = some x → ∃ (e : Addr) (c : Nat) (_ : c < 7) (_ : x = .ref e) (_ : PySem.XV.XC K (C c)), PySem.W.findIn K (.ref (C c)) "first" = some none ∧ PySem.W.findIn K (.ref (C c)) "second" = some none ∧ ∃ t0 t1 : Addr, ErrAt (upd GD1 lD (.lst [.ref eD0, .ref eD1])) e (C c) [("second", .ref t1), ("first", .ref t0)] ∧ (upd GD1 lD (.lst [.ref eD0, .ref eD1])) t0 = some (.tup [.int (z1 - 9)]) ∧ (upd GD1 lD (.lst [.ref eD0, .ref eD1])) t1 = some (.tup [.str y]) := by
      intro i x h
      rcases i with _ | _ | i
      · cases (Option.some.inj h)
        exact ⟨eD0, 5, by decide, rfl, ETwofold.x, n5first, n5second, uD0, uD1, ErrAt.keep ⟨dD0, pD0, qD0⟩ (((SuD2.trans SuD3).trans sD1).trans SlD), (((((SuD1.trans sD0).trans SuD2).trans SuD3).trans sD1).trans SlD) _ _ upd_same, ((((sD0.trans SuD2).trans SuD3).trans sD1).trans SlD) _ _ upd_same⟩
      · cases (Option.some.inj h)
        exact ⟨eD1, 5, by decide, rfl, ETwofold.x, n5first, n5second, uD3, uD2, ErrAt.keep ⟨dD1, pD1, qD1⟩ SlD, (sD1.trans SlD) _ _ upd_same, ((SuD3.trans sD1).trans SlD) _ _ upd_same⟩
      · simp at h
    refine ⟨lD, rfl, ⟨_, SqL.of upd_same⟩, for_list (K := K) (a := lD) (xs := [.ref eD0, .ref eD1]) (fun i σ H' => (∃ v, σ = [some (.ref a), some (.ref p), some (.ref b), some (.int (z1 - 9)), some (.str y), some o, v, none, none, none]) ∧ Same (upd GD1 lD (.lst [.ref eD0, .ref eD1])) H') ⟨⟨_, rfl⟩, Same.refl _⟩ (fun i σ H' _ h => SqL.of (h.2 _ _ upd_same)) ?_ ?_⟩
    · rintro i x σ H' hx ⟨⟨v, rfl⟩, sm⟩
      obtain ⟨e, c, hc, rfl, xc, m1, m2, t0, t1, ⟨d', g1, g2⟩, f0, f1⟩ := elsD i x hx
      refine ⟨_, rfl, e, C c, d', _, _, rfl, sm _ _ g1, sm _ _ g2, xc, m1, rfl, _, rfl, e, C c, d', _, _, rfl, sm _ _ g1, sm _ _ g2, xc, m2, rfl, few 2 (by decide), fun t2 h2 => ?_⟩
      refine ⟨_, rfl, few 1 (by decide), fun t3 h3 => ⟨_, rfl, few 1 (by decide), fun t4 h4 => ⟨few 2 (by decide), fun t5 h5 => ?_⟩⟩⟩
      have q2 := same_new (o := .tup [.ref t0, .ref t1]) h2
      have q3 := same_new (o := .tup [.int (z1 - 9)]) h3
      have q4 := same_new (o := .tup [.str y]) h4
      have q5 := same_new (o := .tup [.ref t3, .ref t4]) h5
      have all := sm.trans (q2.trans (q3.trans (q4.trans q5)))
      refine ⟨_, _, .tuple [.tuple [.int (z1 - 9)], .tuple [.str y]], .tuple [.tuple [.int (z1 - 9)], .tuple [.str y]], rfl, .tup (SqT.of ((q3.trans (q4.trans q5)) _ _ upd_same)) (.cons (.tup (SqT.of (all _ _ f0)) (.cons (.int _) .nil)) (.cons (.tup (SqT.of (all _ _ f1)) (.cons (.str _) .nil)) .nil)),
        .tup (SqT.of upd_same) (.cons (.tup (SqT.of ((q4.trans q5) _ _ upd_same)) (.cons (.int _) .nil)) (.cons (.tup (SqT.of (q5 _ _ upd_same)) (.cons (.str _) .nil)) .nil)), by simp [deep, deepAll], few 2 (by decide), ⟨true, congrArg V.bl (by simp [so, soAll]), iteF ⟨⟨_, rfl⟩, all⟩⟩⟩
    rintro σ H6 ⟨⟨v, rfl⟩, smD⟩
    have hd := Dp.keep (((((((SuD0.trans SuD1).trans sD0).trans SuD2).trans SuD3).trans sD1).trans SlD).trans smD) hd
    refine ⟨_, rfl, rfl, rfl, fun eE0 hE0 => ⟨_, eE0, _, _, rfl, hE0, rfl, fun GE0 dE0 sE0 _ pE0 qE0 => ⟨rfl, ?_⟩⟩⟩
    refine ⟨_, rfl, rfl, rfl, fun eE1 hE1 => ⟨_, eE1, _, _, rfl, hE1, rfl, fun GE1 dE1 sE1 _ pE1 qE1 => ⟨rfl, ?_⟩⟩⟩
    refine ⟨few 2 (by decide), fun lE hlE => ?_⟩
    have SlE := same_new (o := .lst [.ref eE0, .ref eE1]) hlE
    have elsE : ∀ (i : Nat) (x : V), [V.ref eE0, V.ref eE1][i]? = some x → ∃ (e : Addr) (c : Nat) (_ : c < 7) (_ : x = .ref e) (_ : PySem.XV.XC K (C c)), PySem.W.findIn K (.ref (C c)) "name" = some none ∧ PySem.W.findIn K (.ref (C c)) "text" = some none ∧ ErrAt (upd GE1 lE (.lst [.ref eE0, .ref eE1])) e (C c) [("text", .str "t"), ("name", .str y)] := by
      intro i x h
      rcases i with _ | _ | i
      · cases (Option.some.inj h)
        exact ⟨eE0, 6, by decide, rfl, EShared.x, n6name, n6text, ErrAt.keep ⟨dE0, pE0, qE0⟩ (sE1.trans SlE)⟩
      · cases (Option.some.inj h)
        exact ⟨eE1, 6, by decide, rfl, EShared.x, n6name, n6text, ErrAt.keep ⟨dE1, pE1, qE1⟩ SlE⟩
      · simp at h
    refine ⟨lE, rfl, ⟨_, SqL.of upd_same⟩, for_list (K := K) (a := lE) (xs := [.ref eE0, .ref eE1]) (fun i σ H' => (∃ v, σ = [some (.ref a), some (.ref p), some (.ref b), some (.int (z1 - 9)), some (.str y), some o, v, none, none, none]) ∧ Same (upd GE1 lE (.lst [.ref eE0, .ref eE1])) H') ⟨⟨_, rfl⟩, Same.refl _⟩ (fun i σ H' _ h => SqL.of (h.2 _ _ upd_same)) ?_ ?_⟩
    · rintro i x σ H' hx ⟨⟨v, rfl⟩, sm⟩
      obtain ⟨e, c, hc, rfl, xc, m1, m2, d', g1, g2⟩ := elsE i x hx
      refine ⟨_, rfl, e, C c, d', _, _, rfl, sm _ _ g1, sm _ _ g2, xc, m1, rfl, _, rfl, e, C c, d', _, _, rfl, sm _ _ g1, sm _ _ g2, xc, m2, rfl, few 2 (by decide), fun t2 h2 => ?_⟩
      refine ⟨_, rfl, few 2 (by decide), fun t3 h3 => ?_⟩
      have q2 := same_new (o := .tup [.str y, .str "t"]) h2
      have q3 := same_new (o := .tup [.str y, .str "t"]) h3
      refine ⟨_, _, .tuple [.str y, .str "t"], .tuple [.str y, .str "t"], rfl, .tup (SqT.of (q3 _ _ upd_same)) (.cons (.str _) (.cons (.str _) .nil)), .tup (SqT.of upd_same) (.cons (.str _) (.cons (.str _) .nil)), by simp [deep, deepAll], few 2 (by decide), ⟨true, congrArg V.bl (by simp [so, soAll]), iteF ⟨⟨_, rfl⟩, sm.trans (q2.trans q3)⟩⟩⟩
    rintro σ H7 ⟨⟨v, rfl⟩, smE⟩
    have hd := Dp.keep (((sE0.trans sE1).trans SlE).trans smE) hd
    refine ⟨_, rfl, rfl, rfl, fun eF0 hF0 => ⟨_, eF0, _, rfl, hF0, rfl, fun GF0 dF0 sF0 _ pF0 qF0 => ⟨rfl, ?_⟩⟩⟩
    refine ⟨_, rfl, rfl, rfl, fun eF1 hF1 => ⟨_, eF1, _, rfl, hF1, rfl, fun GF1 dF1 sF1 _ pF1 qF1 => ⟨rfl, ?_⟩⟩⟩
    refine ⟨_, rfl, rfl, rfl, fun eF2 hF2 => ⟨_, eF2, _, rfl, hF2, rfl, fun GF2 dF2 sF2 _ pF2 qF2 => ⟨rfl, ?_⟩⟩⟩
    refine ⟨_, rfl, rfl, rfl, fun eF3 hF3 => ⟨_, eF3, _, rfl, hF3, rfl, fun GF3 dF3 sF3 _ pF3 qF3 => ⟨rfl, ?_⟩⟩⟩
    refine ⟨_, rfl, rfl, rfl, fun eF4 hF4 => ⟨_, eF4, _, rfl, hF4, rfl, fun GF4 dF4 sF4 _ pF4 qF4 => ⟨rfl, ?_⟩⟩⟩
    refine ⟨_, rfl, few 1 (by decide), fun uF0 huF0 => ?_⟩
    have SuF0 := same_new (o := .tup [.int (z1 - 9)]) huF0
    refine ⟨_, rfl, few 1 (by decide), fun uF1 huF1 => ?_⟩
    have SuF1 := same_new (o := .tup [.str y]) huF1
    refine ⟨rfl, rfl, fun eF5 hF5 => ⟨_, eF5, _, _, rfl, hF5, rfl, fun GF5 dF5 sF5 _ pF5 qF5 => ⟨rfl, ?_⟩⟩⟩
    refine ⟨_, rfl, rfl, rfl, fun eF6 hF6 => ⟨_, eF6, _, _, rfl, hF6, rfl, fun GF6 dF6 sF6 _ pF6 qF6 => ⟨rfl, ?_⟩⟩⟩
    refine ⟨few 7 (by decide), fun lF hlF => ?_⟩
    have SlF := same_new (o := .lst [.ref eF0, .ref eF1, .ref eF2, .ref eF3, .ref eF4, .ref eF5, .ref eF6]) hlF
    have elsF : ∀ i, i < 7 → ∃ (e : Addr) (fs : List (Str × V)), [V.ref eF0, V.ref eF1, V.ref eF2, V.ref eF3, V.ref eF4, V.ref eF5, V.ref eF6][i]? = some (.ref e) ∧ ErrAt (upd GF6 lF (.lst [.ref eF0, .ref eF1, .ref eF2, .ref eF3, .ref eF4, .ref eF5, .ref eF6])) e (C i) fs := by
      intro i h
      rcases i with _ | _ | _ | _ | _ | _ | _ | i
      · exact ⟨eF0, _, rfl, ErrAt.keep ⟨dF0, pF0, qF0⟩ ((((((((sF1.trans sF2).trans sF3).trans sF4).trans SuF0).trans SuF1).trans sF5).trans sF6).trans SlF)⟩
      · exact ⟨eF1, _, rfl, ErrAt.keep ⟨dF1, pF1, qF1⟩ (((((((sF2.trans sF3).trans sF4).trans SuF0).trans SuF1).trans sF5).trans sF6).trans SlF)⟩
      · exact ⟨eF2, _, rfl, ErrAt.keep ⟨dF2, pF2, qF2⟩ ((((((sF3.trans sF4).trans SuF0).trans SuF1).trans sF5).trans sF6).trans SlF)⟩
      · exact ⟨eF3, _, rfl, ErrAt.keep ⟨dF3, pF3, qF3⟩ (((((sF4.trans SuF0).trans SuF1).trans sF5).trans sF6).trans SlF)⟩
      · exact ⟨eF4, _, rfl, ErrAt.keep ⟨dF4, pF4, qF4⟩ ((((SuF0.trans SuF1).trans sF5).trans sF6).trans SlF)⟩
      · exact ⟨eF5, _, rfl, ErrAt.keep ⟨dF5, pF5, qF5⟩ (sF6.trans SlF)⟩
      · exact ⟨eF6, _, rfl, ErrAt.keep ⟨dF6, pF6, qF6⟩ SlF⟩
      · omega
    refine ⟨7, rfl, by decide, by decide, for_range (n := 7) (fun i σ H' => (∃ v6 v8, σ = [some (.ref a), some (.ref p), some (.ref b), some (.int (z1 - 9)), some (.str y), some o, v6, some (.ref lF), v8, none]) ∧ Same (upd GF6 lF (.lst [.ref eF0, .ref eF1, .ref eF2, .ref eF3, .ref eF4, .ref eF5, .ref eF6])) H') ⟨⟨_, _, rfl⟩, Same.refl _⟩ ?_ ?_⟩
    · rintro i σ H' hi ⟨⟨v6, v8, rfl⟩, sm⟩
      obtain ⟨e, fs, hx, he⟩ := elsF i hi
      have hl : H' lF = some (.lst [V.ref eF0, V.ref eF1, V.ref eF2, V.ref eF3, V.ref eF4, V.ref eF5, V.ref eF6]) := sm _ _ upd_same
      refine ⟨_, rfl, _, rfl, lF, _, _, _, rfl, rfl, SqL.of hl, at_of (by omega) hx, i, e, fs, rfl, hi, he.keep sm, fun H8 t s8 nt ht => ?_⟩
      refine ⟨7, rfl, by decide, by decide, fun D hD => lc_range (lo := 0) (n := 7) (fun j H'' => Same H8 H'' ∧ H'' D = some (.lst ((bits i).take j))) ⟨same_new hD, upd_same⟩ ?_ ?_⟩
      · rintro j H'' hj ⟨sj, ej⟩
        refine ⟨rfl, iteT (B := Same H8 H'' ∧ H'' D = some (.lst ((bits i).take (j + 1)))) ?_⟩
        refine ⟨_, rfl, _, rfl, rfl, _, ej, small1000 (by rw [List.length_take]; omega), fun c z q => (upd_ne (ne_of_none q hD)).trans (sj _ _ q), ?_⟩
        rw [upd_same, bits_next hj]
      · rintro H'' ⟨sj, ej⟩
        have e7 : (bits i).take 7 = bits i := List.take_of_length_le (by rw [bits_len]; exact Nat.le_refl 7)
        rw [e7] at ej
        refine ⟨.list (bitsD i), .list (bitsD i), .lst (SqL.of (sj _ _ ht)) (bits_all i), .lst (SqL.of ej) (bits_all i), bits_shaped hi, bits_shaped hi, false, congrArg V.bl (by rw [bits_eqv hi]; rfl), iteF ?_⟩
        have s9 := sm.trans (s8.trans sj)
        have hl9 : H'' lF = some (.lst [V.ref eF0, V.ref eF1, V.ref eF2, V.ref eF3, V.ref eF4, V.ref eF5, V.ref eF6]) := s9 _ _ upd_same
        refine ⟨_, rfl, _, rfl, lF, _, _, _, rfl, rfl, SqL.of hl9, at_of (by omega) hx, i, e, fs, rfl, hi, he.keep s9, _, rfl, iteF ?_⟩
        obtain ⟨d', g1, g2⟩ := he.keep s9
        refine ⟨_, rfl, _, rfl, lF, _, _, _, rfl, rfl, SqL.of hl9, at_of (by omega) hx, e, C i, d', fs, _, _, _, rfl, g1, g2, T.x i hi, .own _, T.kitB i hi, _, rfl, iteF ⟨⟨_, _, rfl⟩, s9⟩⟩
    · rintro σ H' ⟨⟨v6, v8, rfl⟩, sm⟩
      exact ⟨_, rfl, fun H8 _ => ⟨_, rfl, _, rfl, iteT ⟨_, rfl, fun H9 _ => k H9⟩⟩⟩
end
end Rh
namespace Rh
open PySem L2
theorem rev_vals : ∀ {xs : List V} {us : List Value}, Vals xs us → Vals xs.reverse us.reverse
  | _, _, .nil => .nil
  | _, _, .cons r t => by
    rw [List.reverse_cons, List.reverse_cons]
    exact (rev_vals t).append (.cons r .nil)
set_option maxHeartbeats 4000000 in
theorem all_mk {l : PySem.W.OpenLaw} {w : World} {K : PySem.W.Frag} {h : Heap} {mg : Str → Option Value} {fa cB c0 c1 c2 c3 c4 c5 c6 f0 f1 f2 f3 f4 f5 f6 fS fN fD fT fO fF fQ fL : Addr} {od0 an0 od1 an1 od2 an2 od3 an3 od4 an4 od5 an5 od6 an6 odS anS odN anN odD anD odT anT odO anO odF anF odQ anQ odL anL : Option Addr} {sl0 sl1 sl2 sl3 sl4 sl5 sl6 slS slN slD slT slO slF slQ slL : Array (Option Value)} {oc0 kV0 dc0 pm0 cd0 ct0 oc1 kV1 dc1 pm1 cd1 ct1 oc2 kV2 dc2 pm2 cd2 ct2 oc3 kV3 dc3 pm3 cd3 ct3 oc4 kV4 dc4 pm4 cd4 ct4 oc5 kV5 dc5 pm5 cd5 ct5 oc6 kV6 dc6 pm6 cd6 ct6 ocS kVS dcS pmS cdS ctS ocN kVN dcN pmN cdN ctN ocD kVD dcD pmD cdD ctD ocT kVT dcT pmT cdT ctT ocO kVO dcO pmO cdO ctO ocF kVF dcF pmF cdF ctF ocQ kVQ dcQ pmQ cdQ ctQ ocL kVL dcL pmL cdL ctL : Value} (X : K.In h) (G : h.Ns mainGlobals mg) (hfa : mg "law" = some (.ref fa))
        (aC0 : PySem.W.nsIn K mainGlobals "BadValue" = some (some (.ref c0)))
    (aC1 : PySem.W.nsIn K mainGlobals "BadPattern" = some (some (.ref c1)))
    (aC2 : PySem.W.nsIn K mainGlobals "NoMessage" = some (some (.ref c2)))
    (aC3 : PySem.W.nsIn K mainGlobals "NoTongue" = some (some (.ref c3)))
    (aC4 : PySem.W.nsIn K mainGlobals "NotSaid" = some (some (.ref c4)))
    (aC5 : PySem.W.nsIn K mainGlobals "Twofold" = some (some (.ref c5)))
    (aC6 : PySem.W.nsIn K mainGlobals "Shared" = some (some (.ref c6)))
    (aB : PySem.W.nsIn K mainGlobals "BookError" = some (some (.ref cB)))
    (aS : PySem.W.nsIn K mainGlobals "_law_so" = some (some (.ref fS)))
    (aN : PySem.W.nsIn K mainGlobals "_law_numbers" = some (some (.ref fN)))
    (aD : PySem.W.nsIn K mainGlobals "_law_draw" = some (some (.ref fD)))
    (aT : PySem.W.nsIn K mainGlobals "_law_take" = some (some (.ref fT)))
    (aO : PySem.W.nsIn K mainGlobals "_law_of" = some (some (.ref fO)))
    (aF : PySem.W.nsIn K mainGlobals "_law_foreign" = some (some (.ref fF)))
    (aQ : PySem.W.nsIn K mainGlobals "_law_caught" = some (some (.ref fQ)))
    (aL : PySem.W.nsIn K mainGlobals "law" = some (some (.ref fL)))
    (zisinstance : PySem.W.nsIn K mainGlobals "isinstance" = some none)
    (ztuple : PySem.W.nsIn K mainGlobals "tuple" = some none)
    (zbool : PySem.W.nsIn K mainGlobals "bool" = some none)
    (zstr : PySem.W.nsIn K mainGlobals "str" = some none)
    (zlen : PySem.W.nsIn K mainGlobals "len" = some none)
    (zint : PySem.W.nsIn K mainGlobals "int" = some none)
    (zrange : PySem.W.nsIn K mainGlobals "range" = some none)
    (zException : PySem.W.nsIn K mainGlobals "Exception" = some none)
    (zValueError : PySem.W.nsIn K mainGlobals "ValueError" = some none)
    (zLookupError : PySem.W.nsIn K mainGlobals "LookupError" = some none)
    (zArithmeticError : PySem.W.nsIn K mainGlobals "ArithmeticError" = some none)
    (ini0 : PySem.W.excInitIn K c0 PySem.XV.exT "Exception.__new__" = true)
    (ov0 : PySem.W.excOver K c0 PySem.XV.exT = true)
    (sa0 : PySem.W.findIn K (.ref c0) "__setattr__" = some (some (.builtin "object.__setattr__")))
    (ga0 : PySem.W.findIn K (.ref c0) "__getattribute__" = some (some (.builtin "BaseException.__getattribute__")))
    (gg0 : PySem.W.findIn K (.ref c0) "__getattr__" = some none)
    (ex0 : PySem.W.subIn K (.ref c0) (.type "BaseException") = some true)
    (ty0 : PySem.W.typeIn K (.ref c0) = some (.type "type"))
    (kC0 : PySem.W.keepIn K (.ref c0) = true)
    (hd0 : PySem.W.hasDictIn K c0 = true)
    (ca0 : PySem.W.findIn K (.ref c0) "__class__" = some (some (.builtin "object.__class__")))
    (cm0 : PySem.W.mroIn K c0 (.type "object") = some true)
    (in0 : PySem.W.findIn K (.ref c0) "__init__" = some (some (.ref f0)))
    (ti0 : PySem.W.typeIn K (.ref f0) = some (.type "function"))
    (no0at : PySem.W.findIn K (.ref c0) "at" = some none)
    (l0 : K.lookup f0 = some ⟨oc0, od0, .func (PySem.W.fnOf "__init__" "BadValue.__init__" (defArgs i0) (defBody i0) (defScope i0) .none kV0 dc0 pm0 an0 cd0 ct0), sl0⟩)
    (cc0 : PySem.W.codeIn K cd0 "BadValue.__init__" = true)
    (kk0 : PySem.W.keepIn K (.ref f0) = true)
    (kt00 : PySem.W.kitOne K (.ref c0) (.ref c0) = some true)
    (kt01 : PySem.W.kitOne K (.ref c0) (.ref c1) = some false)
    (kt02 : PySem.W.kitOne K (.ref c0) (.ref c2) = some false)
    (kt03 : PySem.W.kitOne K (.ref c0) (.ref c3) = some false)
    (kt04 : PySem.W.kitOne K (.ref c0) (.ref c4) = some false)
    (kt05 : PySem.W.kitOne K (.ref c0) (.ref c5) = some false)
    (kt06 : PySem.W.kitOne K (.ref c0) (.ref c6) = some false)
    (ktB0 : PySem.W.kitOne K (.ref c0) (.ref cB) = some true)
    (ktException0 : PySem.W.kitOne K (.ref c0) (.type "Exception") = some true)
    (ktValueError0 : PySem.W.kitOne K (.ref c0) (.type "ValueError") = some false)
    (ktLookupError0 : PySem.W.kitOne K (.ref c0) (.type "LookupError") = some false)
    (ktArithmeticError0 : PySem.W.kitOne K (.ref c0) (.type "ArithmeticError") = some false)
    (ini1 : PySem.W.excInitIn K c1 PySem.XV.exT "Exception.__new__" = true)
    (ov1 : PySem.W.excOver K c1 PySem.XV.exT = true)
    (sa1 : PySem.W.findIn K (.ref c1) "__setattr__" = some (some (.builtin "object.__setattr__")))
    (ga1 : PySem.W.findIn K (.ref c1) "__getattribute__" = some (some (.builtin "BaseException.__getattribute__")))
    (gg1 : PySem.W.findIn K (.ref c1) "__getattr__" = some none)
    (ex1 : PySem.W.subIn K (.ref c1) (.type "BaseException") = some true)
    (ty1 : PySem.W.typeIn K (.ref c1) = some (.type "type"))
    (kC1 : PySem.W.keepIn K (.ref c1) = true)
    (hd1 : PySem.W.hasDictIn K c1 = true)
    (ca1 : PySem.W.findIn K (.ref c1) "__class__" = some (some (.builtin "object.__class__")))
    (cm1 : PySem.W.mroIn K c1 (.type "object") = some true)
    (in1 : PySem.W.findIn K (.ref c1) "__init__" = some (some (.ref f1)))
    (ti1 : PySem.W.typeIn K (.ref f1) = some (.type "function"))
    (no1at : PySem.W.findIn K (.ref c1) "at" = some none)
    (l1 : K.lookup f1 = some ⟨oc1, od1, .func (PySem.W.fnOf "__init__" "BadPattern.__init__" (defArgs i1) (defBody i1) (defScope i1) .none kV1 dc1 pm1 an1 cd1 ct1), sl1⟩)
    (cc1 : PySem.W.codeIn K cd1 "BadPattern.__init__" = true)
    (kk1 : PySem.W.keepIn K (.ref f1) = true)
    (kt10 : PySem.W.kitOne K (.ref c1) (.ref c0) = some false)
    (kt11 : PySem.W.kitOne K (.ref c1) (.ref c1) = some true)
    (kt12 : PySem.W.kitOne K (.ref c1) (.ref c2) = some false)
    (kt13 : PySem.W.kitOne K (.ref c1) (.ref c3) = some false)
    (kt14 : PySem.W.kitOne K (.ref c1) (.ref c4) = some false)
    (kt15 : PySem.W.kitOne K (.ref c1) (.ref c5) = some false)
    (kt16 : PySem.W.kitOne K (.ref c1) (.ref c6) = some false)
    (ktB1 : PySem.W.kitOne K (.ref c1) (.ref cB) = some true)
    (ktException1 : PySem.W.kitOne K (.ref c1) (.type "Exception") = some true)
    (ktValueError1 : PySem.W.kitOne K (.ref c1) (.type "ValueError") = some false)
    (ktLookupError1 : PySem.W.kitOne K (.ref c1) (.type "LookupError") = some false)
    (ktArithmeticError1 : PySem.W.kitOne K (.ref c1) (.type "ArithmeticError") = some false)
    (ini2 : PySem.W.excInitIn K c2 PySem.XV.exT "Exception.__new__" = true)
    (ov2 : PySem.W.excOver K c2 PySem.XV.exT = true)
    (sa2 : PySem.W.findIn K (.ref c2) "__setattr__" = some (some (.builtin "object.__setattr__")))
    (ga2 : PySem.W.findIn K (.ref c2) "__getattribute__" = some (some (.builtin "BaseException.__getattribute__")))
    (gg2 : PySem.W.findIn K (.ref c2) "__getattr__" = some none)
    (ex2 : PySem.W.subIn K (.ref c2) (.type "BaseException") = some true)
    (ty2 : PySem.W.typeIn K (.ref c2) = some (.type "type"))
    (kC2 : PySem.W.keepIn K (.ref c2) = true)
    (hd2 : PySem.W.hasDictIn K c2 = true)
    (ca2 : PySem.W.findIn K (.ref c2) "__class__" = some (some (.builtin "object.__class__")))
    (cm2 : PySem.W.mroIn K c2 (.type "object") = some true)
    (in2 : PySem.W.findIn K (.ref c2) "__init__" = some (some (.ref f2)))
    (ti2 : PySem.W.typeIn K (.ref f2) = some (.type "function"))
    (no2name : PySem.W.findIn K (.ref c2) "name" = some none)
    (l2 : K.lookup f2 = some ⟨oc2, od2, .func (PySem.W.fnOf "__init__" "NoMessage.__init__" (defArgs i2) (defBody i2) (defScope i2) .none kV2 dc2 pm2 an2 cd2 ct2), sl2⟩)
    (cc2 : PySem.W.codeIn K cd2 "NoMessage.__init__" = true)
    (kk2 : PySem.W.keepIn K (.ref f2) = true)
    (kt20 : PySem.W.kitOne K (.ref c2) (.ref c0) = some false)
    (kt21 : PySem.W.kitOne K (.ref c2) (.ref c1) = some false)
    (kt22 : PySem.W.kitOne K (.ref c2) (.ref c2) = some true)
    (kt23 : PySem.W.kitOne K (.ref c2) (.ref c3) = some false)
    (kt24 : PySem.W.kitOne K (.ref c2) (.ref c4) = some false)
    (kt25 : PySem.W.kitOne K (.ref c2) (.ref c5) = some false)
    (kt26 : PySem.W.kitOne K (.ref c2) (.ref c6) = some false)
    (ktB2 : PySem.W.kitOne K (.ref c2) (.ref cB) = some true)
    (ktException2 : PySem.W.kitOne K (.ref c2) (.type "Exception") = some true)
    (ktValueError2 : PySem.W.kitOne K (.ref c2) (.type "ValueError") = some false)
    (ktLookupError2 : PySem.W.kitOne K (.ref c2) (.type "LookupError") = some false)
    (ktArithmeticError2 : PySem.W.kitOne K (.ref c2) (.type "ArithmeticError") = some false)
    (ini3 : PySem.W.excInitIn K c3 PySem.XV.exT "Exception.__new__" = true)
    (ov3 : PySem.W.excOver K c3 PySem.XV.exT = true)
    (sa3 : PySem.W.findIn K (.ref c3) "__setattr__" = some (some (.builtin "object.__setattr__")))
    (ga3 : PySem.W.findIn K (.ref c3) "__getattribute__" = some (some (.builtin "BaseException.__getattribute__")))
    (gg3 : PySem.W.findIn K (.ref c3) "__getattr__" = some none)
    (ex3 : PySem.W.subIn K (.ref c3) (.type "BaseException") = some true)
    (ty3 : PySem.W.typeIn K (.ref c3) = some (.type "type"))
    (kC3 : PySem.W.keepIn K (.ref c3) = true)
    (hd3 : PySem.W.hasDictIn K c3 = true)
    (ca3 : PySem.W.findIn K (.ref c3) "__class__" = some (some (.builtin "object.__class__")))
    (cm3 : PySem.W.mroIn K c3 (.type "object") = some true)
    (in3 : PySem.W.findIn K (.ref c3) "__init__" = some (some (.ref f3)))
    (ti3 : PySem.W.typeIn K (.ref f3) = some (.type "function"))
    (no3name : PySem.W.findIn K (.ref c3) "name" = some none)
    (l3 : K.lookup f3 = some ⟨oc3, od3, .func (PySem.W.fnOf "__init__" "NoTongue.__init__" (defArgs i3) (defBody i3) (defScope i3) .none kV3 dc3 pm3 an3 cd3 ct3), sl3⟩)
    (cc3 : PySem.W.codeIn K cd3 "NoTongue.__init__" = true)
    (kk3 : PySem.W.keepIn K (.ref f3) = true)
    (kt30 : PySem.W.kitOne K (.ref c3) (.ref c0) = some false)
    (kt31 : PySem.W.kitOne K (.ref c3) (.ref c1) = some false)
    (kt32 : PySem.W.kitOne K (.ref c3) (.ref c2) = some false)
    (kt33 : PySem.W.kitOne K (.ref c3) (.ref c3) = some true)
    (kt34 : PySem.W.kitOne K (.ref c3) (.ref c4) = some false)
    (kt35 : PySem.W.kitOne K (.ref c3) (.ref c5) = some false)
    (kt36 : PySem.W.kitOne K (.ref c3) (.ref c6) = some false)
    (ktB3 : PySem.W.kitOne K (.ref c3) (.ref cB) = some true)
    (ktException3 : PySem.W.kitOne K (.ref c3) (.type "Exception") = some true)
    (ktValueError3 : PySem.W.kitOne K (.ref c3) (.type "ValueError") = some false)
    (ktLookupError3 : PySem.W.kitOne K (.ref c3) (.type "LookupError") = some false)
    (ktArithmeticError3 : PySem.W.kitOne K (.ref c3) (.type "ArithmeticError") = some false)
    (ini4 : PySem.W.excInitIn K c4 PySem.XV.exT "Exception.__new__" = true)
    (ov4 : PySem.W.excOver K c4 PySem.XV.exT = true)
    (sa4 : PySem.W.findIn K (.ref c4) "__setattr__" = some (some (.builtin "object.__setattr__")))
    (ga4 : PySem.W.findIn K (.ref c4) "__getattribute__" = some (some (.builtin "BaseException.__getattribute__")))
    (gg4 : PySem.W.findIn K (.ref c4) "__getattr__" = some none)
    (ex4 : PySem.W.subIn K (.ref c4) (.type "BaseException") = some true)
    (ty4 : PySem.W.typeIn K (.ref c4) = some (.type "type"))
    (kC4 : PySem.W.keepIn K (.ref c4) = true)
    (hd4 : PySem.W.hasDictIn K c4 = true)
    (ca4 : PySem.W.findIn K (.ref c4) "__class__" = some (some (.builtin "object.__class__")))
    (cm4 : PySem.W.mroIn K c4 (.type "object") = some true)
    (in4 : PySem.W.findIn K (.ref c4) "__init__" = some (some (.ref f4)))
    (ti4 : PySem.W.typeIn K (.ref f4) = some (.type "function"))
    (no4text : PySem.W.findIn K (.ref c4) "text" = some none)
    (l4 : K.lookup f4 = some ⟨oc4, od4, .func (PySem.W.fnOf "__init__" "NotSaid.__init__" (defArgs i4) (defBody i4) (defScope i4) .none kV4 dc4 pm4 an4 cd4 ct4), sl4⟩)
    (cc4 : PySem.W.codeIn K cd4 "NotSaid.__init__" = true)
    (kk4 : PySem.W.keepIn K (.ref f4) = true)
    (kt40 : PySem.W.kitOne K (.ref c4) (.ref c0) = some false)
    (kt41 : PySem.W.kitOne K (.ref c4) (.ref c1) = some false)
    (kt42 : PySem.W.kitOne K (.ref c4) (.ref c2) = some false)
    (kt43 : PySem.W.kitOne K (.ref c4) (.ref c3) = some false)
    (kt44 : PySem.W.kitOne K (.ref c4) (.ref c4) = some true)
    (kt45 : PySem.W.kitOne K (.ref c4) (.ref c5) = some false)
    (kt46 : PySem.W.kitOne K (.ref c4) (.ref c6) = some false)
    (ktB4 : PySem.W.kitOne K (.ref c4) (.ref cB) = some true)
    (ktException4 : PySem.W.kitOne K (.ref c4) (.type "Exception") = some true)
    (ktValueError4 : PySem.W.kitOne K (.ref c4) (.type "ValueError") = some false)
    (ktLookupError4 : PySem.W.kitOne K (.ref c4) (.type "LookupError") = some false)
    (ktArithmeticError4 : PySem.W.kitOne K (.ref c4) (.type "ArithmeticError") = some false)
    (ini5 : PySem.W.excInitIn K c5 PySem.XV.exT "Exception.__new__" = true)
    (ov5 : PySem.W.excOver K c5 PySem.XV.exT = true)
    (sa5 : PySem.W.findIn K (.ref c5) "__setattr__" = some (some (.builtin "object.__setattr__")))
    (ga5 : PySem.W.findIn K (.ref c5) "__getattribute__" = some (some (.builtin "BaseException.__getattribute__")))
    (gg5 : PySem.W.findIn K (.ref c5) "__getattr__" = some none)
    (ex5 : PySem.W.subIn K (.ref c5) (.type "BaseException") = some true)
    (ty5 : PySem.W.typeIn K (.ref c5) = some (.type "type"))
    (kC5 : PySem.W.keepIn K (.ref c5) = true)
    (hd5 : PySem.W.hasDictIn K c5 = true)
    (ca5 : PySem.W.findIn K (.ref c5) "__class__" = some (some (.builtin "object.__class__")))
    (cm5 : PySem.W.mroIn K c5 (.type "object") = some true)
    (in5 : PySem.W.findIn K (.ref c5) "__init__" = some (some (.ref f5)))
    (ti5 : PySem.W.typeIn K (.ref f5) = some (.type "function"))
    (no5first : PySem.W.findIn K (.ref c5) "first" = some none)
    (no5second : PySem.W.findIn K (.ref c5) "second" = some none)
    (l5 : K.lookup f5 = some ⟨oc5, od5, .func (PySem.W.fnOf "__init__" "Twofold.__init__" (defArgs i5) (defBody i5) (defScope i5) .none kV5 dc5 pm5 an5 cd5 ct5), sl5⟩)
    (cc5 : PySem.W.codeIn K cd5 "Twofold.__init__" = true)
    (kk5 : PySem.W.keepIn K (.ref f5) = true)
    (kt50 : PySem.W.kitOne K (.ref c5) (.ref c0) = some false)
    (kt51 : PySem.W.kitOne K (.ref c5) (.ref c1) = some false)
    (kt52 : PySem.W.kitOne K (.ref c5) (.ref c2) = some false)
    (kt53 : PySem.W.kitOne K (.ref c5) (.ref c3) = some false)
    (kt54 : PySem.W.kitOne K (.ref c5) (.ref c4) = some false)
    (kt55 : PySem.W.kitOne K (.ref c5) (.ref c5) = some true)
    (kt56 : PySem.W.kitOne K (.ref c5) (.ref c6) = some false)
    (ktB5 : PySem.W.kitOne K (.ref c5) (.ref cB) = some true)
    (ktException5 : PySem.W.kitOne K (.ref c5) (.type "Exception") = some true)
    (ktValueError5 : PySem.W.kitOne K (.ref c5) (.type "ValueError") = some false)
    (ktLookupError5 : PySem.W.kitOne K (.ref c5) (.type "LookupError") = some false)
    (ktArithmeticError5 : PySem.W.kitOne K (.ref c5) (.type "ArithmeticError") = some false)
    (ini6 : PySem.W.excInitIn K c6 PySem.XV.exT "Exception.__new__" = true)
    (ov6 : PySem.W.excOver K c6 PySem.XV.exT = true)
    (sa6 : PySem.W.findIn K (.ref c6) "__setattr__" = some (some (.builtin "object.__setattr__")))
    (ga6 : PySem.W.findIn K (.ref c6) "__getattribute__" = some (some (.builtin "BaseException.__getattribute__")))
    (gg6 : PySem.W.findIn K (.ref c6) "__getattr__" = some none)
    (ex6 : PySem.W.subIn K (.ref c6) (.type "BaseException") = some true)
    (ty6 : PySem.W.typeIn K (.ref c6) = some (.type "type"))
    (kC6 : PySem.W.keepIn K (.ref c6) = true)
    (hd6 : PySem.W.hasDictIn K c6 = true)
    (ca6 : PySem.W.findIn K (.ref c6) "__class__" = some (some (.builtin "object.__class__")))
    (cm6 : PySem.W.mroIn K c6 (.type "object") = some true)
    (in6 : PySem.W.findIn K (.ref c6) "__init__" = some (some (.ref f6)))
    (ti6 : PySem.W.typeIn K (.ref f6) = some (.type "function"))
    (no6name : PySem.W.findIn K (.ref c6) "name" = some none)
    (no6text : PySem.W.findIn K (.ref c6) "text" = some none)
    (l6 : K.lookup f6 = some ⟨oc6, od6, .func (PySem.W.fnOf "__init__" "Shared.__init__" (defArgs i6) (defBody i6) (defScope i6) .none kV6 dc6 pm6 an6 cd6 ct6), sl6⟩)
    (cc6 : PySem.W.codeIn K cd6 "Shared.__init__" = true)
    (kk6 : PySem.W.keepIn K (.ref f6) = true)
    (kt60 : PySem.W.kitOne K (.ref c6) (.ref c0) = some false)
    (kt61 : PySem.W.kitOne K (.ref c6) (.ref c1) = some false)
    (kt62 : PySem.W.kitOne K (.ref c6) (.ref c2) = some false)
    (kt63 : PySem.W.kitOne K (.ref c6) (.ref c3) = some false)
    (kt64 : PySem.W.kitOne K (.ref c6) (.ref c4) = some false)
    (kt65 : PySem.W.kitOne K (.ref c6) (.ref c5) = some false)
    (kt66 : PySem.W.kitOne K (.ref c6) (.ref c6) = some true)
    (ktB6 : PySem.W.kitOne K (.ref c6) (.ref cB) = some true)
    (ktException6 : PySem.W.kitOne K (.ref c6) (.type "Exception") = some true)
    (ktValueError6 : PySem.W.kitOne K (.ref c6) (.type "ValueError") = some false)
    (ktLookupError6 : PySem.W.kitOne K (.ref c6) (.type "LookupError") = some false)
    (ktArithmeticError6 : PySem.W.kitOne K (.ref c6) (.type "ArithmeticError") = some false)
    (cg : PySem.W.specialIn K (.builtin "object.__class__") "__get__" = some (some (.builtin "getset_descriptor.__get__")))
    (ctk : PySem.W.takesIn K (.builtin "object.__class__") = some true)
    (exB : PySem.W.subIn K (.ref cB) (.type "BaseException") = some true)
    (hdB : PySem.W.hasDictIn K cB = true)
    (tyB : PySem.W.typeIn K (.ref cB) = some (.type "type"))
    (sb4 : PySem.W.subIn K (.ref c4) (.ref cB) = some true)
    (sb3 : PySem.W.subIn K (.ref c3) (.ref cB) = some true)
    (lS : K.lookup fS = some ⟨ocS, odS, .func (PySem.W.fnOf "_law_so" "_law_so" (defArgs sS) (defBody sS) (defScope sS) .none kVS dcS pmS anS cdS ctS), slS⟩)
    (ccS : PySem.W.codeIn K cdS "_law_so" = true)
    (kkS : PySem.W.keepIn K (.ref fS) = true)
    (lN : K.lookup fN = some ⟨ocN, odN, .func (PySem.W.fnOf "_law_numbers" "_law_numbers" (defArgs sN) (defBody sN) (defScope sN) .none kVN dcN pmN anN cdN ctN), slN⟩)
    (ccN : PySem.W.codeIn K cdN "_law_numbers" = true)
    (kkN : PySem.W.keepIn K (.ref fN) = true)
    (lD : K.lookup fD = some ⟨ocD, odD, .func (PySem.W.fnOf "_law_draw" "_law_draw" (defArgs sD) (defBody sD) (defScope sD) .none kVD dcD pmD anD cdD ctD), slD⟩)
    (ccD : PySem.W.codeIn K cdD "_law_draw" = true)
    (kkD : PySem.W.keepIn K (.ref fD) = true)
    (lT : K.lookup fT = some ⟨ocT, odT, .func (PySem.W.fnOf "_law_take" "_law_take" (defArgs sT) (defBody sT) (defScope sT) .none kVT dcT pmT anT cdT ctT), slT⟩)
    (ccT : PySem.W.codeIn K cdT "_law_take" = true)
    (kkT : PySem.W.keepIn K (.ref fT) = true)
    (lO : K.lookup fO = some ⟨ocO, odO, .func (PySem.W.fnOf "_law_of" "_law_of" (defArgs sO) (defBody sO) (defScope sO) .none kVO dcO pmO anO cdO ctO), slO⟩)
    (ccO : PySem.W.codeIn K cdO "_law_of" = true)
    (kkO : PySem.W.keepIn K (.ref fO) = true)
    (lF : K.lookup fF = some ⟨ocF, odF, .func (PySem.W.fnOf "_law_foreign" "_law_foreign" (defArgs sF) (defBody sF) (defScope sF) .none kVF dcF pmF anF cdF ctF), slF⟩)
    (ccF : PySem.W.codeIn K cdF "_law_foreign" = true)
    (kkF : PySem.W.keepIn K (.ref fF) = true)
    (lQ : K.lookup fQ = some ⟨ocQ, odQ, .func (PySem.W.fnOf "_law_caught" "_law_caught" (defArgs sQ) (defBody sQ) (defScope sQ) .none kVQ dcQ pmQ anQ cdQ ctQ), slQ⟩)
    (ccQ : PySem.W.codeIn K cdQ "_law_caught" = true)
    (kkQ : PySem.W.keepIn K (.ref fQ) = true)
    (lL : K.lookup fL = some ⟨ocL, odL, .func (PySem.W.fnOf "law" "law" (defArgs sL) (defBody sL) (defScope sL) .none kVL dcL pmL anL cdL ctL), slL⟩)
    (ccL : PySem.W.codeIn K cdL "law" = true)
    (kkL : PySem.W.keepIn K (.ref fL) = true) :
    ∃ fd : FuncData, (∀ (s : Shared) (v : Value), BindsTo s fd ⟨[v], []⟩ [("script", v)]) ∧ ∀ base : Heap, K.In base → base.Ns mainGlobals mg → FnOk l.prog w K mg base CX0 5 fa fd ["script"] (spL K) := by
  have e := hfa.symm.trans (PySem.W.mg_of X G aL)
  cases e
  have X0 : PySem.XV.XC K c0 := ⟨ini0, ov0, sa0, ga0, gg0, ex0, ty0, kC0, hd0, ca0, cg, ctk, cm0⟩
  have F0 := fun_mk (st := i0) l0 cc0 kk0
  have X1 : PySem.XV.XC K c1 := ⟨ini1, ov1, sa1, ga1, gg1, ex1, ty1, kC1, hd1, ca1, cg, ctk, cm1⟩
  have F1 := fun_mk (st := i1) l1 cc1 kk1
  have X2 : PySem.XV.XC K c2 := ⟨ini2, ov2, sa2, ga2, gg2, ex2, ty2, kC2, hd2, ca2, cg, ctk, cm2⟩
  have F2 := fun_mk (st := i2) l2 cc2 kk2
  have X3 : PySem.XV.XC K c3 := ⟨ini3, ov3, sa3, ga3, gg3, ex3, ty3, kC3, hd3, ca3, cg, ctk, cm3⟩
  have F3 := fun_mk (st := i3) l3 cc3 kk3
  have X4 : PySem.XV.XC K c4 := ⟨ini4, ov4, sa4, ga4, gg4, ex4, ty4, kC4, hd4, ca4, cg, ctk, cm4⟩
  have F4 := fun_mk (st := i4) l4 cc4 kk4
  have X5 : PySem.XV.XC K c5 := ⟨ini5, ov5, sa5, ga5, gg5, ex5, ty5, kC5, hd5, ca5, cg, ctk, cm5⟩
  have F5 := fun_mk (st := i5) l5 cc5 kk5
  have X6 : PySem.XV.XC K c6 := ⟨ini6, ov6, sa6, ga6, gg6, ex6, ty6, kC6, hd6, ca6, cg, ctk, cm6⟩
  have F6 := fun_mk (st := i6) l6 cc6 kk6
  have FS := fun_mk (st := sS) lS ccS kkS
  have bS := FS.binds (ps := ["found", "meant"]) fun _ _ _ _ _ _ us hl => match us, hl with | [_, _], _ => rfl
  have FN := fun_mk (st := sN) lN ccN kkN
  have bN := FN.binds (ps := ["script"]) fun _ _ _ _ _ _ us hl => match us, hl with | [_], _ => rfl
  have FD := fun_mk (st := sD) lD ccD kkD
  have bD := FD.binds (ps := ["row", "at", "limit"]) fun _ _ _ _ _ _ us hl => match us, hl with | [_, _, _], _ => rfl
  have FT := fun_mk (st := sT) lT ccT kkT
  have bT := FT.binds (ps := ["row", "spot", "limit"]) fun _ _ _ _ _ _ us hl => match us, hl with | [_, _, _], _ => rfl
  have FO := fun_mk (st := sO) lO ccO kkO
  have bO := FO.binds (ps := ["value"]) fun _ _ _ _ _ _ us hl => match us, hl with | [_], _ => rfl
  have FF := fun_mk (st := sF) lF ccF kkF
  have bF := FF.binds (ps := ["value"]) fun _ _ _ _ _ _ us hl => match us, hl with | [_], _ => rfl
  have FQ := fun_mk (st := sQ) lQ ccQ kkQ
  have bQ := FQ.binds (ps := ["name"]) fun _ _ _ _ _ _ us hl => match us, hl with | [_], _ => rfl
  have FL := fun_mk (st := sL) lL ccL kkL
  have T0 : TxB mg := ⟨PySem.W.mg_none_of X G zisinstance, PySem.W.mg_none_of X G ztuple, PySem.W.mg_none_of X G zbool, PySem.W.mg_none_of X G zstr, PySem.W.mg_none_of X G zlen, PySem.W.mg_none_of X G zint, PySem.W.mg_none_of X G zrange⟩
  have hx : ∀ i, i < 7 → PySem.XV.XC K ((fun i => [c0, c1, c2, c3, c4, c5, c6].getD i 0) i) := by
    intro i h
    rcases i with _ | _ | _ | _ | _ | _ | _ | i
    · exact X0
    · exact X1
    · exact X2
    · exact X3
    · exact X4
    · exact X5
    · exact X6
    · omega
  have hk : ∀ i j, i < 7 → j < 7 → PySem.W.kitOne K (.ref ((fun i => [c0, c1, c2, c3, c4, c5, c6].getD i 0) i)) (.ref ((fun i => [c0, c1, c2, c3, c4, c5, c6].getD i 0) j)) = some (decide (i = j)) := by
      intro i j h k
      rcases i with _ | _ | _ | _ | _ | _ | _ | i
      · rcases j with _ | _ | _ | _ | _ | _ | _ | j
        · exact kt00
        · exact kt01
        · exact kt02
        · exact kt03
        · exact kt04
        · exact kt05
        · exact kt06
        · omega
      · rcases j with _ | _ | _ | _ | _ | _ | _ | j
        · exact kt10
        · exact kt11
        · exact kt12
        · exact kt13
        · exact kt14
        · exact kt15
        · exact kt16
        · omega
      · rcases j with _ | _ | _ | _ | _ | _ | _ | j
        · exact kt20
        · exact kt21
        · exact kt22
        · exact kt23
        · exact kt24
        · exact kt25
        · exact kt26
        · omega
      · rcases j with _ | _ | _ | _ | _ | _ | _ | j
        · exact kt30
        · exact kt31
        · exact kt32
        · exact kt33
        · exact kt34
        · exact kt35
        · exact kt36
        · omega
      · rcases j with _ | _ | _ | _ | _ | _ | _ | j
        · exact kt40
        · exact kt41
        · exact kt42
        · exact kt43
        · exact kt44
        · exact kt45
        · exact kt46
        · omega
      · rcases j with _ | _ | _ | _ | _ | _ | _ | j
        · exact kt50
        · exact kt51
        · exact kt52
        · exact kt53
        · exact kt54
        · exact kt55
        · exact kt56
        · omega
      · rcases j with _ | _ | _ | _ | _ | _ | _ | j
        · exact kt60
        · exact kt61
        · exact kt62
        · exact kt63
        · exact kt64
        · exact kt65
        · exact kt66
        · omega
      · omega
  have hB : ∀ i, i < 7 → PySem.W.kitOne K (.ref ((fun i => [c0, c1, c2, c3, c4, c5, c6].getD i 0) i)) (.ref cB) = some true := by
    intro i h
    rcases i with _ | _ | _ | _ | _ | _ | _ | i
    · exact ktB0
    · exact ktB1
    · exact ktB2
    · exact ktB3
    · exact ktB4
    · exact ktB5
    · exact ktB6
    · omega
  have hE : ∀ i, i < 7 → PySem.W.kitOne K (.ref ((fun i => [c0, c1, c2, c3, c4, c5, c6].getD i 0) i)) (.type "Exception") = some true := by
    intro i h
    rcases i with _ | _ | _ | _ | _ | _ | _ | i
    · exact ktException0
    · exact ktException1
    · exact ktException2
    · exact ktException3
    · exact ktException4
    · exact ktException5
    · exact ktException6
    · omega
  have hV : ∀ i, i < 7 → PySem.W.kitOne K (.ref ((fun i => [c0, c1, c2, c3, c4, c5, c6].getD i 0) i)) (.type "ValueError") = some false := by
    intro i h
    rcases i with _ | _ | _ | _ | _ | _ | _ | i
    · exact ktValueError0
    · exact ktValueError1
    · exact ktValueError2
    · exact ktValueError3
    · exact ktValueError4
    · exact ktValueError5
    · exact ktValueError6
    · omega
  have hL : ∀ i, i < 7 → PySem.W.kitOne K (.ref ((fun i => [c0, c1, c2, c3, c4, c5, c6].getD i 0) i)) (.type "LookupError") = some false := by
    intro i h
    rcases i with _ | _ | _ | _ | _ | _ | _ | i
    · exact ktLookupError0
    · exact ktLookupError1
    · exact ktLookupError2
    · exact ktLookupError3
    · exact ktLookupError4
    · exact ktLookupError5
    · exact ktLookupError6
    · omega
  have hA : ∀ i, i < 7 → PySem.W.kitOne K (.ref ((fun i => [c0, c1, c2, c3, c4, c5, c6].getD i 0) i)) (.type "ArithmeticError") = some false := by
    intro i h
    rcases i with _ | _ | _ | _ | _ | _ | _ | i
    · exact ktArithmeticError0
    · exact ktArithmeticError1
    · exact ktArithmeticError2
    · exact ktArithmeticError3
    · exact ktArithmeticError4
    · exact ktArithmeticError5
    · exact ktArithmeticError6
    · omega
  have T : TxE K mg (fun i => [c0, c1, c2, c3, c4, c5, c6].getD i 0) cB := ⟨T0, PySem.W.mg_none_of X G zException, PySem.W.mg_none_of X G zValueError, PySem.W.mg_none_of X G zLookupError, PySem.W.mg_none_of X G zArithmeticError, hx, hk, hB, hE, hV, hL, hA⟩
  have E0 : Ec K mg "BadValue" c0 f0 := ⟨X0, in0, ti0, PySem.W.mg_of X G aC0⟩
  have E1 : Ec K mg "BadPattern" c1 f1 := ⟨X1, in1, ti1, PySem.W.mg_of X G aC1⟩
  have E2 : Ec K mg "NoMessage" c2 f2 := ⟨X2, in2, ti2, PySem.W.mg_of X G aC2⟩
  have E3 : Ec K mg "NoTongue" c3 f3 := ⟨X3, in3, ti3, PySem.W.mg_of X G aC3⟩
  have E4 : Ec K mg "NotSaid" c4 f4 := ⟨X4, in4, ti4, PySem.W.mg_of X G aC4⟩
  have E5 : Ec K mg "Twofold" c5 f5 := ⟨X5, in5, ti5, PySem.W.mg_of X G aC5⟩
  have E6 : Ec K mg "Shared" c6 f6 := ⟨X6, in6, ti6, PySem.W.mg_of X G aC6⟩
  have bp0 : KBn K (PySem.W.fnOf "__init__" "BadValue.__init__" (defArgs i0) (defBody i0) (defScope i0) .none kV0 dc0 pm0 an0 cd0 ct0) ["self", "at"] 2 [] (fun us _ => us) (fun us _ => us) := ⟨fun s us ws _ h1 h2 => match us, ws, h1, h2 with | [_, _], [], _, _ => .of_eq rfl, fun r _ => r⟩
  have bk0 : KBn K (PySem.W.fnOf "__init__" "BadValue.__init__" (defArgs i0) (defBody i0) (defScope i0) .none kV0 dc0 pm0 an0 cd0 ct0) ["self", "at"] 1 ["at"] kw1 kw1 := ⟨fun s us ws _ h1 h2 => match us, ws, h1, h2 with | [_], [_], _, _ => .of_eq rfl, fun r1 r2 => r1.append r2⟩
  have bb0 := F0.binds (ps := ["self", "at"]) fun _ _ _ _ _ _ us hl => match us, hl with | [_, _], _ => rfl
  have bp1 : KBn K (PySem.W.fnOf "__init__" "BadPattern.__init__" (defArgs i1) (defBody i1) (defScope i1) .none kV1 dc1 pm1 an1 cd1 ct1) ["self", "at"] 2 [] (fun us _ => us) (fun us _ => us) := ⟨fun s us ws _ h1 h2 => match us, ws, h1, h2 with | [_, _], [], _, _ => .of_eq rfl, fun r _ => r⟩
  have bk1 : KBn K (PySem.W.fnOf "__init__" "BadPattern.__init__" (defArgs i1) (defBody i1) (defScope i1) .none kV1 dc1 pm1 an1 cd1 ct1) ["self", "at"] 1 ["at"] kw1 kw1 := ⟨fun s us ws _ h1 h2 => match us, ws, h1, h2 with | [_], [_], _, _ => .of_eq rfl, fun r1 r2 => r1.append r2⟩
  have bb1 := F1.binds (ps := ["self", "at"]) fun _ _ _ _ _ _ us hl => match us, hl with | [_, _], _ => rfl
  have bp2 : KBn K (PySem.W.fnOf "__init__" "NoMessage.__init__" (defArgs i2) (defBody i2) (defScope i2) .none kV2 dc2 pm2 an2 cd2 ct2) ["self", "name"] 2 [] (fun us _ => us) (fun us _ => us) := ⟨fun s us ws _ h1 h2 => match us, ws, h1, h2 with | [_, _], [], _, _ => .of_eq rfl, fun r _ => r⟩
  have bk2 : KBn K (PySem.W.fnOf "__init__" "NoMessage.__init__" (defArgs i2) (defBody i2) (defScope i2) .none kV2 dc2 pm2 an2 cd2 ct2) ["self", "name"] 1 ["name"] kw1 kw1 := ⟨fun s us ws _ h1 h2 => match us, ws, h1, h2 with | [_], [_], _, _ => .of_eq rfl, fun r1 r2 => r1.append r2⟩
  have bb2 := F2.binds (ps := ["self", "name"]) fun _ _ _ _ _ _ us hl => match us, hl with | [_, _], _ => rfl
  have bp3 : KBn K (PySem.W.fnOf "__init__" "NoTongue.__init__" (defArgs i3) (defBody i3) (defScope i3) .none kV3 dc3 pm3 an3 cd3 ct3) ["self", "name"] 2 [] (fun us _ => us) (fun us _ => us) := ⟨fun s us ws _ h1 h2 => match us, ws, h1, h2 with | [_, _], [], _, _ => .of_eq rfl, fun r _ => r⟩
  have bk3 : KBn K (PySem.W.fnOf "__init__" "NoTongue.__init__" (defArgs i3) (defBody i3) (defScope i3) .none kV3 dc3 pm3 an3 cd3 ct3) ["self", "name"] 1 ["name"] kw1 kw1 := ⟨fun s us ws _ h1 h2 => match us, ws, h1, h2 with | [_], [_], _, _ => .of_eq rfl, fun r1 r2 => r1.append r2⟩
  have bb3 := F3.binds (ps := ["self", "name"]) fun _ _ _ _ _ _ us hl => match us, hl with | [_, _], _ => rfl
  have bp4 : KBn K (PySem.W.fnOf "__init__" "NotSaid.__init__" (defArgs i4) (defBody i4) (defScope i4) .none kV4 dc4 pm4 an4 cd4 ct4) ["self", "text"] 2 [] (fun us _ => us) (fun us _ => us) := ⟨fun s us ws _ h1 h2 => match us, ws, h1, h2 with | [_, _], [], _, _ => .of_eq rfl, fun r _ => r⟩
  have bk4 : KBn K (PySem.W.fnOf "__init__" "NotSaid.__init__" (defArgs i4) (defBody i4) (defScope i4) .none kV4 dc4 pm4 an4 cd4 ct4) ["self", "text"] 1 ["text"] kw1 kw1 := ⟨fun s us ws _ h1 h2 => match us, ws, h1, h2 with | [_], [_], _, _ => .of_eq rfl, fun r1 r2 => r1.append r2⟩
  have bb4 := F4.binds (ps := ["self", "text"]) fun _ _ _ _ _ _ us hl => match us, hl with | [_, _], _ => rfl
  have bp5 : KBn K (PySem.W.fnOf "__init__" "Twofold.__init__" (defArgs i5) (defBody i5) (defScope i5) .none kV5 dc5 pm5 an5 cd5 ct5) ["self", "first", "second"] 3 [] (fun us _ => us) (fun us _ => us) := ⟨fun s us ws _ h1 h2 => match us, ws, h1, h2 with | [_, _, _], [], _, _ => .of_eq rfl, fun r _ => r⟩
  have bk5 : KBn K (PySem.W.fnOf "__init__" "Twofold.__init__" (defArgs i5) (defBody i5) (defScope i5) .none kV5 dc5 pm5 an5 cd5 ct5) ["self", "first", "second"] 1 ["second", "first"] kw2 kw2 := ⟨fun s us ws _ h1 h2 => match us, ws, h1, h2 with | [_], [_, _], _, _ => .of_eq rfl, fun r1 r2 => r1.append (rev_vals r2)⟩
  have bb5 := F5.binds (ps := ["self", "first", "second"]) fun _ _ _ _ _ _ us hl => match us, hl with | [_, _, _], _ => rfl
  have bp6 : KBn K (PySem.W.fnOf "__init__" "Shared.__init__" (defArgs i6) (defBody i6) (defScope i6) .none kV6 dc6 pm6 an6 cd6 ct6) ["self", "name", "text"] 3 [] (fun us _ => us) (fun us _ => us) := ⟨fun s us ws _ h1 h2 => match us, ws, h1, h2 with | [_, _, _], [], _, _ => .of_eq rfl, fun r _ => r⟩
  have bk6 : KBn K (PySem.W.fnOf "__init__" "Shared.__init__" (defArgs i6) (defBody i6) (defScope i6) .none kV6 dc6 pm6 an6 cd6 ct6) ["self", "name", "text"] 1 ["text", "name"] kw2 kw2 := ⟨fun s us ws _ h1 h2 => match us, ws, h1, h2 with | [_], [_, _], _, _ => .of_eq rfl, fun r1 r2 => r1.append (rev_vals r2)⟩
  have bb6 := F6.binds (ps := ["self", "name", "text"]) fun _ _ _ _ _ _ us hl => match us, hl with | [_, _, _], _ => rfl
  exact ⟨PySem.W.fnOf "law" "law" (defArgs sL) (defBody sL) (defScope sL) .none kVL dcL pmL anL cdL ctL, fun s v => .of_eq rfl, fun base _ _ => by
    have I0 := ok_i0 (P := l.prog) (w := w) (mg := mg) (base := base) F0 X0 no0at
    have I1 := ok_i1 (P := l.prog) (w := w) (mg := mg) (base := base) F1 X1 no1at
    have I2 := ok_i2 (P := l.prog) (w := w) (mg := mg) (base := base) F2 X2 no2name
    have I3 := ok_i3 (P := l.prog) (w := w) (mg := mg) (base := base) F3 X3 no3name
    have I4 := ok_i4 (P := l.prog) (w := w) (mg := mg) (base := base) F4 X4 no4text
    have I5 := ok_i5 (P := l.prog) (w := w) (mg := mg) (base := base) F5 X5 no5first no5second
    have I6 := ok_i6 (P := l.prog) (w := w) (mg := mg) (base := base) F6 X6 no6name no6text
    have GS := ok_S (P := l.prog) (w := w) (base := base) FS T0 bS (PySem.W.mg_of X G aS) 4
    have GN := ok_N (P := l.prog) (w := w) (base := base) FN T0
    have GT := ok_T (P := l.prog) (w := w) (base := base) FT T0 FD bD (PySem.W.mg_of X G aD)
    have GO := ok_O (P := l.prog) (w := w) (base := base) (C := (fun i => [c0, c1, c2, c3, c4, c5, c6].getD i 0)) (fI := (fun i => [f0, f1, f2, f3, f4, f5, f6].getD i 0)) FO T E0 E1 E2 E3 E4 E5 E6
    have GF := ok_F (P := l.prog) (w := w) (base := base) FF T
    have x4 : PySem.W.exmOne K (.ref c4) (.ref cB) = some true := PySem.W.exm_ref exB hdB tyB sb4
    have x3 : PySem.W.exmOne K (.ref c3) (.ref cB) = some true := PySem.W.exm_ref exB hdB tyB sb3
    have GQ := ok_Q (P := l.prog) (w := w) (base := base) (C := (fun i => [c0, c1, c2, c3, c4, c5, c6].getD i 0)) (fI := (fun i => [f0, f1, f2, f3, f4, f5, f6].getD i 0)) FQ T (PySem.W.mg_of X G aB) x4 x3 E4 E3 I4 I3 bb4 bb3
    exact ok_L (C := (fun i => [c0, c1, c2, c3, c4, c5, c6].getD i 0)) (fI := (fun i => [f0, f1, f2, f3, f4, f5, f6].getD i 0)) (fdI := (fun i => [PySem.W.fnOf "__init__" "BadValue.__init__" (defArgs i0) (defBody i0) (defScope i0) .none kV0 dc0 pm0 an0 cd0 ct0, PySem.W.fnOf "__init__" "BadPattern.__init__" (defArgs i1) (defBody i1) (defScope i1) .none kV1 dc1 pm1 an1 cd1 ct1, PySem.W.fnOf "__init__" "NoMessage.__init__" (defArgs i2) (defBody i2) (defScope i2) .none kV2 dc2 pm2 an2 cd2 ct2, PySem.W.fnOf "__init__" "NoTongue.__init__" (defArgs i3) (defBody i3) (defScope i3) .none kV3 dc3 pm3 an3 cd3 ct3, PySem.W.fnOf "__init__" "NotSaid.__init__" (defArgs i4) (defBody i4) (defScope i4) .none kV4 dc4 pm4 an4 cd4 ct4, PySem.W.fnOf "__init__" "Twofold.__init__" (defArgs i5) (defBody i5) (defScope i5) .none kV5 dc5 pm5 an5 cd5 ct5, PySem.W.fnOf "__init__" "Shared.__init__" (defArgs i6) (defBody i6) (defScope i6) .none kV6 dc6 pm6 an6 cd6 ct6].getD i (PySem.W.fnOf "__init__" "BadValue.__init__" (defArgs i0) (defBody i0) (defScope i0) .none kV0 dc0 pm0 an0 cd0 ct0))) FL T (PySem.W.mg_of X G aB) E0 I0 no0at bp0 E1 I1 no1at bp1 E2 I2 no2name bp2 E3 I3 no3name bp3 E4 I4 no4text bp4 E5 I5 no5first no5second bp5 E6 I6 no6name no6text bp6 bk0 bk1 bk2 bk3 bk4 bk5 bk6 FN GN bN (PySem.W.mg_of X G aN) FT GT bT (PySem.W.mg_of X G aT) FS GS bS (PySem.W.mg_of X G aS) FO GO bO (PySem.W.mg_of X G aO) FF GF bF (PySem.W.mg_of X G aF) FQ GQ bQ (PySem.W.mg_of X G aQ)
  ⟩
theorem walk {l : PySem.W.OpenLaw} {q : Program} {loose : List Str} {XP : (Str → Option Value) → Heap → Prop} {YP : World → Heap → Prop} {d : DefRec} {K : Params → PySem.W.Frag} (hn : l.most = some 63) (hdf : d.params.defaults = [])
    (hY : ∀ (w : World) (h : Heap), YP w h → (K w.params).In h)
    (F : ∀ (w : World) (mg : Str → Option Value) (fa : Addr) (h : Heap), (K w.params).In h → h.Ns mainGlobals mg → mg d.name = some (.ref fa) →
      ∃ fd : FuncData, (∀ (s : Shared) (u : Value), BindsTo s fd ⟨[u], []⟩ [("script", u)]) ∧ ∀ base : Heap, (K w.params).In base → base.Ns mainGlobals mg → FnOk l.prog w (K w.params) mg base CX0 5 fa fd ["script"] (spL (K w.params))) :
    PySem.W.WalkO q loose XP YP l.row.toRowW d [] (fun f vs => PySem.call f vs) :=
  L2.walk_of (n := 63) (k := 5) (x := "script") (CX := fun _ => CX0) (sp := fun w => spL (K w.params)) hn (by decide) hdf ⟨rfl, by decide, by decide⟩ hY F (fun _ _ a ns hl _ hS => ⟨a, ns, rfl, hS, hl, fun _ => rfl⟩) fun _ _ _ _ _ z => z
end Rh
open PySem PySem.W PyProof.Rows in
set_option maxRecDepth 100000 in
set_option maxHeartbeats 0 in
theorem PySem.Challenge.cw_readhome_k00_errors_holds : PySem.Challenge.rw_readhome_k00_errors.Holds := by
  w_on; o_law; k_head; (case hw => w_witness2)
  k_fill
  refine Rh.walk (l := PySem.Challenge.rw_readhome_k00_errors) rfl rfl (fun w h Y => PySem.W.kIn_of Y) ?F
  case F =>
    intro w mg fa h KX G hmg
    refine' Rh.all_mk KX G hmg ?aC0 ?aC1 ?aC2 ?aC3 ?aC4 ?aC5 ?aC6 ?aB ?aS ?aN ?aD ?aT ?aO ?aF ?aQ ?aL ?zisinstance ?ztuple ?zbool ?zstr ?zlen ?zint ?zrange ?zException ?zValueError ?zLookupError ?zArithmeticError ?ini0 ?ov0 ?sa0 ?ga0 ?gg0 ?ex0 ?ty0 ?kC0 ?hd0 ?ca0 ?cm0 ?in0 ?ti0 ?no0at ?l0 ?cc0 ?kk0 ?kt00 ?kt01 ?kt02 ?kt03 ?kt04 ?kt05 ?kt06 ?ktB0 ?ktException0 ?ktValueError0 ?ktLookupError0 ?ktArithmeticError0 ?ini1 ?ov1 ?sa1 ?ga1 ?gg1 ?ex1 ?ty1 ?kC1 ?hd1 ?ca1 ?cm1 ?in1 ?ti1 ?no1at ?l1 ?cc1 ?kk1 ?kt10 ?kt11 ?kt12 ?kt13 ?kt14 ?kt15 ?kt16 ?ktB1 ?ktException1 ?ktValueError1 ?ktLookupError1 ?ktArithmeticError1 ?ini2 ?ov2 ?sa2 ?ga2 ?gg2 ?ex2 ?ty2 ?kC2 ?hd2 ?ca2 ?cm2 ?in2 ?ti2 ?no2name ?l2 ?cc2 ?kk2 ?kt20 ?kt21 ?kt22 ?kt23 ?kt24 ?kt25 ?kt26 ?ktB2 ?ktException2 ?ktValueError2 ?ktLookupError2 ?ktArithmeticError2 ?ini3 ?ov3 ?sa3 ?ga3 ?gg3 ?ex3 ?ty3 ?kC3 ?hd3 ?ca3 ?cm3 ?in3 ?ti3 ?no3name ?l3 ?cc3 ?kk3 ?kt30 ?kt31 ?kt32 ?kt33 ?kt34 ?kt35 ?kt36 ?ktB3 ?ktException3 ?ktValueError3 ?ktLookupError3 ?ktArithmeticError3 ?ini4 ?ov4 ?sa4 ?ga4 ?gg4 ?ex4 ?ty4 ?kC4 ?hd4 ?ca4 ?cm4 ?in4 ?ti4 ?no4text ?l4 ?cc4 ?kk4 ?kt40 ?kt41 ?kt42 ?kt43 ?kt44 ?kt45 ?kt46 ?ktB4 ?ktException4 ?ktValueError4 ?ktLookupError4 ?ktArithmeticError4 ?ini5 ?ov5 ?sa5 ?ga5 ?gg5 ?ex5 ?ty5 ?kC5 ?hd5 ?ca5 ?cm5 ?in5 ?ti5 ?no5first ?no5second ?l5 ?cc5 ?kk5 ?kt50 ?kt51 ?kt52 ?kt53 ?kt54 ?kt55 ?kt56 ?ktB5 ?ktException5 ?ktValueError5 ?ktLookupError5 ?ktArithmeticError5 ?ini6 ?ov6 ?sa6 ?ga6 ?gg6 ?ex6 ?ty6 ?kC6 ?hd6 ?ca6 ?cm6 ?in6 ?ti6 ?no6name ?no6text ?l6 ?cc6 ?kk6 ?kt60 ?kt61 ?kt62 ?kt63 ?kt64 ?kt65 ?kt66 ?ktB6 ?ktException6 ?ktValueError6 ?ktLookupError6 ?ktArithmeticError6 ?cg ?ctk ?exB ?hdB ?tyB ?sb4 ?sb3 ?lS ?ccS ?kkS ?lN ?ccN ?kkN ?lD ?ccD ?kkD ?lT ?ccT ?kkT ?lO ?ccO ?kkO ?lF ?ccF ?kkF ?lQ ?ccQ ?kkQ ?lL ?ccL ?kkL
    (case aC0 => k_is)
    (case aC1 => k_is)
    (case aC2 => k_is)
    (case aC3 => k_is)
    (case aC4 => k_is)
    (case aC5 => k_is)
    (case aC6 => k_is)
    (case aB => k_is)
    (case aS => k_is)
    (case aN => k_is)
    (case aD => k_is)
    (case aT => k_is)
    (case aO => k_is)
    (case aF => k_is)
    (case aQ => k_is)
    (case aL => k_is)
    (case zisinstance => k_is)
    (case ztuple => k_is)
    (case zbool => k_is)
    (case zstr => k_is)
    (case zlen => k_is)
    (case zint => k_is)
    (case zrange => k_is)
    (case zException => k_is)
    (case zValueError => k_is)
    (case zLookupError => k_is)
    (case zArithmeticError => k_is)
    (case ini0 => kx_is)
    (case ov0 => kx_is)
    (case sa0 => k_is)
    (case ga0 => k_is)
    (case gg0 => k_is)
    (case ex0 => k_is)
    (case ty0 => k_is)
    (case kC0 => k_is)
    (case hd0 => k_is)
    (case ca0 => k_is)
    (case cm0 => k_is)
    (case in0 => k_is)
    (case ti0 => k_is)
    (case no0at => k_is)
    (case l0 => k_is)
    (case cc0 => k_is)
    (case kk0 => k_is)
    (case kt00 => kit_is)
    (case kt01 => kit_is)
    (case kt02 => kit_is)
    (case kt03 => kit_is)
    (case kt04 => kit_is)
    (case kt05 => kit_is)
    (case kt06 => kit_is)
    (case ktB0 => kit_is)
    (case ktException0 => kit_is)
    (case ktValueError0 => kit_is)
    (case ktLookupError0 => kit_is)
    (case ktArithmeticError0 => kit_is)
    (case ini1 => kx_is)
    (case ov1 => kx_is)
    (case sa1 => k_is)
    (case ga1 => k_is)
    (case gg1 => k_is)
    (case ex1 => k_is)
    (case ty1 => k_is)
    (case kC1 => k_is)
    (case hd1 => k_is)
    (case ca1 => k_is)
    (case cm1 => k_is)
    (case in1 => k_is)
    (case ti1 => k_is)
    (case no1at => k_is)
    (case l1 => k_is)
    (case cc1 => k_is)
    (case kk1 => k_is)
    (case kt10 => kit_is)
    (case kt11 => kit_is)
    (case kt12 => kit_is)
    (case kt13 => kit_is)
    (case kt14 => kit_is)
    (case kt15 => kit_is)
    (case kt16 => kit_is)
    (case ktB1 => kit_is)
    (case ktException1 => kit_is)
    (case ktValueError1 => kit_is)
    (case ktLookupError1 => kit_is)
    (case ktArithmeticError1 => kit_is)
    (case ini2 => kx_is)
    (case ov2 => kx_is)
    (case sa2 => k_is)
    (case ga2 => k_is)
    (case gg2 => k_is)
    (case ex2 => k_is)
    (case ty2 => k_is)
    (case kC2 => k_is)
    (case hd2 => k_is)
    (case ca2 => k_is)
    (case cm2 => k_is)
    (case in2 => k_is)
    (case ti2 => k_is)
    (case no2name => k_is)
    (case l2 => k_is)
    (case cc2 => k_is)
    (case kk2 => k_is)
    (case kt20 => kit_is)
    (case kt21 => kit_is)
    (case kt22 => kit_is)
    (case kt23 => kit_is)
    (case kt24 => kit_is)
    (case kt25 => kit_is)
    (case kt26 => kit_is)
    (case ktB2 => kit_is)
    (case ktException2 => kit_is)
    (case ktValueError2 => kit_is)
    (case ktLookupError2 => kit_is)
    (case ktArithmeticError2 => kit_is)
    (case ini3 => kx_is)
    (case ov3 => kx_is)
    (case sa3 => k_is)
    (case ga3 => k_is)
    (case gg3 => k_is)
    (case ex3 => k_is)
    (case ty3 => k_is)
    (case kC3 => k_is)
    (case hd3 => k_is)
    (case ca3 => k_is)
    (case cm3 => k_is)
    (case in3 => k_is)
    (case ti3 => k_is)
    (case no3name => k_is)
    (case l3 => k_is)
    (case cc3 => k_is)
    (case kk3 => k_is)
    (case kt30 => kit_is)
    (case kt31 => kit_is)
    (case kt32 => kit_is)
    (case kt33 => kit_is)
    (case kt34 => kit_is)
    (case kt35 => kit_is)
    (case kt36 => kit_is)
    (case ktB3 => kit_is)
    (case ktException3 => kit_is)
    (case ktValueError3 => kit_is)
    (case ktLookupError3 => kit_is)
    (case ktArithmeticError3 => kit_is)
    (case ini4 => kx_is)
    (case ov4 => kx_is)
    (case sa4 => k_is)
    (case ga4 => k_is)
    (case gg4 => k_is)
    (case ex4 => k_is)
    (case ty4 => k_is)
    (case kC4 => k_is)
    (case hd4 => k_is)
    (case ca4 => k_is)
    (case cm4 => k_is)
    (case in4 => k_is)
    (case ti4 => k_is)
    (case no4text => k_is)
    (case l4 => k_is)
    (case cc4 => k_is)
    (case kk4 => k_is)
    (case kt40 => kit_is)
    (case kt41 => kit_is)
    (case kt42 => kit_is)
    (case kt43 => kit_is)
    (case kt44 => kit_is)
    (case kt45 => kit_is)
    (case kt46 => kit_is)
    (case ktB4 => kit_is)
    (case ktException4 => kit_is)
    (case ktValueError4 => kit_is)
    (case ktLookupError4 => kit_is)
    (case ktArithmeticError4 => kit_is)
    (case ini5 => kx_is)
    (case ov5 => kx_is)
    (case sa5 => k_is)
    (case ga5 => k_is)
    (case gg5 => k_is)
    (case ex5 => k_is)
    (case ty5 => k_is)
    (case kC5 => k_is)
    (case hd5 => k_is)
    (case ca5 => k_is)
    (case cm5 => k_is)
    (case in5 => k_is)
    (case ti5 => k_is)
    (case no5first => k_is)
    (case no5second => k_is)
    (case l5 => k_is)
    (case cc5 => k_is)
    (case kk5 => k_is)
    (case kt50 => kit_is)
    (case kt51 => kit_is)
    (case kt52 => kit_is)
    (case kt53 => kit_is)
    (case kt54 => kit_is)
    (case kt55 => kit_is)
    (case kt56 => kit_is)
    (case ktB5 => kit_is)
    (case ktException5 => kit_is)
    (case ktValueError5 => kit_is)
    (case ktLookupError5 => kit_is)
    (case ktArithmeticError5 => kit_is)
    (case ini6 => kx_is)
    (case ov6 => kx_is)
    (case sa6 => k_is)
    (case ga6 => k_is)
    (case gg6 => k_is)
    (case ex6 => k_is)
    (case ty6 => k_is)
    (case kC6 => k_is)
    (case hd6 => k_is)
    (case ca6 => k_is)
    (case cm6 => k_is)
    (case in6 => k_is)
    (case ti6 => k_is)
    (case no6name => k_is)
    (case no6text => k_is)
    (case l6 => k_is)
    (case cc6 => k_is)
    (case kk6 => k_is)
    (case kt60 => kit_is)
    (case kt61 => kit_is)
    (case kt62 => kit_is)
    (case kt63 => kit_is)
    (case kt64 => kit_is)
    (case kt65 => kit_is)
    (case kt66 => kit_is)
    (case ktB6 => kit_is)
    (case ktException6 => kit_is)
    (case ktValueError6 => kit_is)
    (case ktLookupError6 => kit_is)
    (case ktArithmeticError6 => kit_is)
    (case cg => k_is)
    (case ctk => k_is)
    (case exB => k_is)
    (case hdB => k_is)
    (case tyB => k_is)
    (case sb4 => k_is)
    (case sb3 => k_is)
    (case lS => k_is)
    (case ccS => k_is)
    (case kkS => k_is)
    (case lN => k_is)
    (case ccN => k_is)
    (case kkN => k_is)
    (case lD => k_is)
    (case ccD => k_is)
    (case kkD => k_is)
    (case lT => k_is)
    (case ccT => k_is)
    (case kkT => k_is)
    (case lO => k_is)
    (case ccO => k_is)
    (case kkO => k_is)
    (case lF => k_is)
    (case ccF => k_is)
    (case kkF => k_is)
    (case lQ => k_is)
    (case ccQ => k_is)
    (case kkQ => k_is)
    (case lL => k_is)
    (case ccL => k_is)
    (case kkL => k_is)
