import PyProof.Rows.All
import Wide.All
import OpenK.AllK
import Wide.FinOn
import PyProof.EqAt
import PyProof.EqKinds
import PyProof.TupleCall
import KE.KExcIs
import KE.KTryMore
import HandS.ForMost
import HandS.ForExc
import HandS.More
import HandS.ExcInit
import HandS.ExcIs
import HandS.ExcCtx
import HandS.Hot
import HandS.HotCalls
import HandS.TryMany
import HandS.Defaults
import HandS.CallSlots
import HandS.Dict
import HandS.ExcValue
import PySem.Challenge.RW_evenpatch_k00_errors
import HandS.HeadHook2
import HandS.Head0
import HandS.Head1
import HandS.Head2
import HandS.Head3
import HandS.HeadEnd
import HandS.ExcInitHot
import HandS.OwnEq
import HandS.IsInst
import HandS.Gcd
import HandS.Walk
import HandS.StrMore
import KE.KDictPairs
set_option Elab.async false
set_option linter.all false
set_option maxRecDepth 100000
set_option maxHeartbeats 0
namespace Kz
open PySem PySem.Spec PyProof.Rows L2

/-! ### defs that are called while no repr is under way -/
def Bare0 (A : Around) : Prop := A.guards = some []
structure FnG (P : Program) (w : World) (K : PySem.W.Frag) (mg : Str → Option Value) (b0 : Heap) (cx : CXT) (k : Nat) (f : Addr) (fd : FuncData) (ps : List Str) (sp : Sp) : Prop where
  lenG : ∀ vs H Q E, sp vs H Q E → vs.length = ps.length
  runG : ∀ (A : Around) (ou : List Env) (s : Shared) (H : Hp) (as : Args) (us : List Value) (vs : List V) (Q : VK) (E : XK), Bare0 A → Room k A → Env0 P w K mg b0 A ou s H →
    BindsTo s fd as (ps.zip us) → Vals vs us → sp vs H Q E → codeAny (model P w) A (.call (.ref f) as) (CR cx ou P w H s Q E) s

theorem fnG_mk {cx : CXT} {P : Program} {w : World} {K : PySem.W.Frag} {mg : Str → Option Value} {b0 : Heap} {k : Nat} {f : Addr} {fd : FuncData} {x q : Str} {pa : Arguments} {bo : List Stmt} {sc : Scope} {dvs : List V} {kws : List (Str × V)}
    {N ps : List Str} {sp : Sp} (F : FunD K x q pa bo sc dvs kws f fd) (S : FnScope N ps sc) (len : ∀ vs H Q E, sp vs H Q E → vs.length = ps.length)
    (go : ∀ (cv : Value) (A : Around) (ou : List Env) (s : Shared) (H : Hp) (vs : List V) (Q : VK) (E : XK), Bare0 (A.deeper (envOfC q sc s.heap.objs.size f cv)) →
      Room k (A.deeper (envOfC q sc s.heap.objs.size f cv)) → sp vs H Q E →
      ∃ t, PSs (cxOf cx P w K mg b0 N q sc f cv A ou s H E) bo t ∧ t { nx := fun _ H' => Q .non H', rt := Q } (start N vs) H) :
    FnG P w K mg b0 cx (k + 1) f fd ps sp := by
  obtain ⟨oc, od, dV, kV, doc, pm, an, cv, ct, osl, rfl, lk, hcd, _, _⟩ := F.ex
  constructor
  · exact len
  intro A ou s H as us vs Q E g0 hr e0 hb rv h
  have inS : ∀ a o, b0.get? a = some o → s.heap.get? a = some o := fun a o e => (e0.bs a o e).1
  have KX := e0.mod.kin.keeps inS
  refine codeAny_call_function hr.depth (KX f _ lk) rfl S.co S.gen rfl (PySem.W.codeRec_of KX hcd) (hb _ _ _ _ ?_)
  refine wpAny_newFunctionEnv_cells S.kind ?_ fun env he s1 ic => ?_
  · rintro ⟨n, v⟩ hy
    have hn := S.par n (List.of_mem_zip hy).1
    exact hn.imp (fun z => z) fun z => ⟨z, PySem.W.cellsFrom_some _ _ _ (.inl z)⟩
  subst he
  refine ⟨(e0.mod.nolimit.keeps inS).keeps ic.toInCall.keep, codeAny_func ?_⟩
  obtain ⟨t, ht, ht0⟩ := go cv A ou s H vs Q E g0 (hr.deeper _) h
  have I0 := inv_start (CX := cx) (P := P) (w := w) (E := E) S hr.hd e0 (len vs H Q E h) rv ic
  refine wpAny_mono (ht.run [] s1 (start N vs) H _ I0 ht0) (fun fl s' z => ?_) fun _ _ z => z
  rcases fl with _ | _ | _ | u
  · obtain ⟨σ', H', J, qq⟩ := z
    exact ⟨V.non, H', J.os, J.bare, J.base, J.hok, rfl, qq⟩
  · obtain ⟨_, _, _, qq⟩ := z
    exact qq.elim
  · obtain ⟨_, _, _, qq⟩ := z
    exact qq.elim
  · obtain ⟨v, σ', H', J, rr, qq⟩ := z
    exact ⟨v, H', J.os, J.bare, J.base, J.hok, rr, qq⟩

section
variable {X : Cx} {cx : CXT} {k : Nat} {f : Addr} {fd : FuncData} {ps : List Str} {sp : Sp} {dvs : List V} {ds : List Value} {E : XK} {x : Str} {p pos : Pos} {e : Expr} {es : List Expr} {t : TA}
theorem pe_callG (F : FnG X.prog X.w X.K X.mg X.base cx k f fd ps sp) (g0 : Bare0 X.A) (hr : Room k X.A) (hg : Gl X x) (hm : X.mg x = some (.ref f)) (hk : PySem.W.keepIn X.K (.ref f) = true) (hb : Binds X.K fd ps ds) (hd : Vals dvs ds) (hx : Passes cx X E)
    (ha : PA X (e :: es) t) (nd : (x == ("__debug__" : Str)) = false := by decide) (h1 : starEach (e :: es) X.env = (false, eval e X.env) :: starEach es X.env := by rfl) (h2 : (backTo pos (starEach es X.env)).any (·.1) = false := by rfl) :
    PE X (.Call (.Name x p) (e :: es) [] pos) (tCall sp dvs E t) := by
  constructor
  intro pins s σ H Q I h
  refine wpAny_Call_Name_kw (ld_glob I hg hm ?_ nd)
  refine PySem.W.callWith_K (h₀ := X.base) I.ok.mod.kin hk (thn (ha.run pos pins s σ H _ I h) ?_) h1 h2
  rintro us s1 ⟨vs, H1, I1, r1, q1⟩
  refine ⟨I1.kIn, ?_⟩
  have r2 := r1.append hd
  have hl : (us ++ ds).length = ps.length := r2.length.symm.trans (F.lenG _ _ _ _ q1)
  refine wpAny_call (codeAny_mono (F.runG X.A X.stack s1 H1 ⟨us, []⟩ (us ++ ds) (vs ++ dvs) Q E g0 hr I1.env0 (hb s1 us I1.kIn hl) r2 q1) fun r s' z => ?_)
  rcases r with ee | fl
  · exact hx pins σ H1 s1 ee s' I1 z
  · rcases fl with _ | _ | _ | u
    · exact z.elim
    · exact z.elim
    · exact z.elim
    · exact I1.after z
end

/-! ### defs that are called within an except suite, told of the exception that is handled -/
abbrev SpX := Addr × Obj → Sp
structure FnX (P : Program) (w : World) (K : PySem.W.Frag) (mg : Str → Option Value) (b0 : Heap) (cx : CXT) (k : Nat) (f : Addr) (fd : FuncData) (ps : List Str) (sp : SpX) : Prop where
  lenX : ∀ p vs H Q E, sp p vs H Q E → vs.length = ps.length
  runX : ∀ (p : Addr × Obj) (A : Around) (ou : List Env) (s : Shared) (H : Hp) (as : Args) (us : List Value) (vs : List V) (Q : VK) (E : XK), L2H.RoomH k A → L2H.Hot1 A p → L2H.PinOk ou H s p → Env0 P w K mg b0 A ou s H →
    BindsTo s fd as (ps.zip us) → Vals vs us → sp p vs H Q E → codeAny (model P w) A (.call (.ref f) as) (CR cx ou P w H s Q E) s

theorem fnX_mk {cx : CXT} {P : Program} {w : World} {K : PySem.W.Frag} {mg : Str → Option Value} {b0 : Heap} {k : Nat} {f : Addr} {fd : FuncData} {x q : Str} {pa : Arguments} {bo : List Stmt} {sc : Scope} {dvs : List V} {kws : List (Str × V)}
    {N ps : List Str} {sp : SpX} (F : FunD K x q pa bo sc dvs kws f fd) (S : FnScope N ps sc) (len : ∀ p vs H Q E, sp p vs H Q E → vs.length = ps.length)
    (go : ∀ (p : Addr × Obj) (cv : Value) (A : Around) (ou : List Env) (s : Shared) (H : Hp) (vs : List V) (Q : VK) (E : XK), L2H.Hot1 A p →
      L2H.RoomH k (A.deeper (envOfC q sc s.heap.objs.size f cv)) → sp p vs H Q E →
      ∃ t, PSs (L2H.cxH cx P w K mg b0 N q sc f cv A ou s H E p) bo t ∧ t { nx := fun _ H' => Q .non H', rt := Q } (start N vs) H) :
    FnX P w K mg b0 cx (k + 1) f fd ps sp := by
  obtain ⟨oc, od, dV, kV, doc, pm, an, cv, ct, osl, rfl, lk, hcd, _, _⟩ := F.ex
  constructor
  · exact len
  intro p A ou s H as us vs Q E hr hot pin e0 hb rv h
  have inS : ∀ a o, b0.get? a = some o → s.heap.get? a = some o := fun a o e => (e0.bs a o e).1
  have KX := e0.mod.kin.keeps inS
  refine codeAny_call_function hr.depth (KX f _ lk) rfl S.co S.gen rfl (PySem.W.codeRec_of KX hcd) (hb _ _ _ _ ?_)
  refine wpAny_newFunctionEnv_cells S.kind ?_ fun env he s1 ic => ?_
  · rintro ⟨n, v⟩ hy
    have hn := S.par n (List.of_mem_zip hy).1
    exact hn.imp (fun z => z) fun z => ⟨z, PySem.W.cellsFrom_some _ _ _ (.inl z)⟩
  subst he
  refine ⟨(e0.mod.nolimit.keeps inS).keeps ic.toInCall.keep, codeAny_func ?_⟩
  obtain ⟨t, ht, ht0⟩ := go p cv A ou s H vs Q E hot (hr.deeper _) h
  have I0 := L2H.inv_startH (CX := cx) (P := P) (w := w) (E := E) S pin e0 (len p vs H Q E h) rv ic
  refine wpAny_mono (ht.run [] s1 (start N vs) H _ I0 ht0) (fun fl s' z => ?_) fun _ _ z => z
  rcases fl with _ | _ | _ | u
  · obtain ⟨σ', H', J, qq⟩ := z
    exact ⟨V.non, H', J.os, J.bare, J.base, J.hok, rfl, qq⟩
  · obtain ⟨_, _, _, qq⟩ := z
    exact qq.elim
  · obtain ⟨_, _, _, qq⟩ := z
    exact qq.elim
  · obtain ⟨v, σ', H', J, rr, qq⟩ := z
    exact ⟨v, H', J.os, J.bare, J.base, J.hok, rr, qq⟩

section
variable {X : Cx} {cx : CXT} {k : Nat} {f : Addr} {fd : FuncData} {ps : List Str} {sp : SpX} {E : XK} {x : Str} {p pos : Pos} {e : Expr} {es : List Expr} {t : TA}
/-- f(..) in an except suite, or in a def that is called there; xp is the exception -/
theorem pe_callX {xp : Addr × Obj} (F : FnX X.prog X.w X.K X.mg X.base cx k f fd ps sp) (hot : L2H.Hot1 X.A xp) (inpn : xp ∈ X.pn) (hr : L2H.RoomH k X.A) (hg : Gl X x) (hm : X.mg x = some (.ref f)) (hk : PySem.W.keepIn X.K (.ref f) = true)
    (hb : Binds X.K fd ps []) (hx : Passes cx X E)
    (ha : PA X (e :: es) t) (nd : (x == ("__debug__" : Str)) = false := by decide) (h1 : starEach (e :: es) X.env = (false, eval e X.env) :: starEach es X.env := by rfl) (h2 : (backTo pos (starEach es X.env)).any (·.1) = false := by rfl) :
    PE X (.Call (.Name x p) (e :: es) [] pos) (tCall (sp xp) [] E t) := by
  constructor
  intro pins s σ H Q I h
  refine wpAny_Call_Name_kw (ld_glob I hg hm ?_ nd)
  refine PySem.W.callWith_K (h₀ := X.base) I.ok.mod.kin hk (thn (ha.run pos pins s σ H _ I h) ?_) h1 h2
  rintro us s1 ⟨vs, H1, I1, r1, q1⟩
  refine ⟨I1.kIn, ?_⟩
  rw [List.append_nil] at q1
  have hl : (us ++ []).length = ps.length := by rw [List.append_nil]; exact r1.length.symm.trans (F.lenX _ _ _ _ _ q1)
  have bb := hb s1 us I1.kIn hl
  rw [List.append_nil] at bb
  obtain ⟨y1, y2, y3, y4, y5⟩ := I1.pin xp (List.mem_append_left _ inpn)
  have pok : L2H.PinOk X.stack H1 s1 xp := ⟨y1, y2, fun z => (List.mem_cons.mp (I1.stkSub xp.1 z)).elim y3 y4, y5⟩
  refine wpAny_call (codeAny_mono (F.runX xp X.A X.stack s1 H1 ⟨us, []⟩ us vs Q E hr hot pok I1.env0 bb r1 q1) fun r s' z => ?_)
  rcases r with ee | fl
  · exact hx pins σ H1 s1 ee s' I1 z
  · rcases fl with _ | _ | _ | u
    · exact z.elim
    · exact z.elim
    · exact z.elim
    · exact I1.after z
end
end Kz

namespace Kz
open PySem PySem.Spec L2 Builtin Builtin.ObjectAttr PySem.HandSPX
section
variable {prog : Program} {w : World} {A : Around} {E : Value → Shared → Prop} {R : Result → Shared → Prop} {h : Heap} {g : Array GenState} {d : Drawn} {t : Nat} {os : OsState}
variable {nm q : Str} {C N : Addr} {bs bm : List Value} {hdct : Bool} {sn : List Str} {sub : List Value} {ab : Bool} {col : Option Bool} {dd : Option Addr} {k0 k1 k2 k3 k5 : Option Value} {B newId initId : String} {bmB : List Value}

/-- BaseException.__new__ looks at nothing but the class, whatever keywords come -/
theorem newChk (F : ExcBaseFacts B newId initId bmB) (hT : ∀ X : String, bm.contains (.type X) = bmB.contains (.type X)) {rest : List Value} {kw : List (Str × Value)} {M : Model} {Q : Unit → Shared → Prop}
    (hC : h.get? C = some (excClassObj nm q C N bs bm hdct sn sub ab col dd k0 k1 k2 k3 k5 newId)) (fin : Q () ⟨h, g, d, t, os⟩) :
    wpAny M A (checkBuiltinCall newId ⟨.ref C :: rest, kw⟩) Q E ⟨h, g, d, t, os⟩ := by
  have c1 : (Value.ref C :: bm).contains (.type B) = true := by
    rw [List.contains_cons, hT, F.hasB, Bool.or_true]
  have st := F.noStar
  simp only [checkBuiltinCall, F.newKind, F.newSplit, F.newRow]
  repeat (first
    | refine wpAny_loadPart_at hC ?_
    | (refine wpAny_isSubtype_exc hC ?_; rw [c1])
    | refine wpAny_staticBase_exc hC ?_
    | refine wpAny_madeBy_exc hC ?_
    | simp only [bne_self_eq_false, Bool.false_eq_true, if_false]
    | wp_step)
  exact fin

/-- .. and lays its arguments by place alone -/
theorem newObj (F : ExcBaseFacts B newId initId bmB) (hT : ∀ X : String, bm.contains (.type X) = bmB.contains (.type X)) {rest : List Value} {kw : List (Str × Value)}
    (hC : h.get? C = some (excClassObj nm q C N bs bm hdct sn sub ab col dd k0 k1 k2 k3 k5 newId)) (sz : rest.length ≤ sizeLine)
    (fin : R (.ok (.ret (.ref (h.objs.size + 1)))) ⟨(h.push (PySem.W.kdv_tup rest)).push (excO C h.objs.size), g, d, t, os⟩) :
    codeAny (model prog w) A (.builtin newId ⟨.ref C :: rest, kw⟩) R ⟨h, g, d, t, os⟩ := by
  have en := F.ends
  have c1 : (Value.ref C :: bm).contains (.type B) = true := by
    rw [List.contains_cons, hT, F.hasB, Bool.or_true]
  have c2 : (Value.ref C :: bm).contains (.type "AttributeError") = false := by
    rw [List.contains_cons, hT, F.noAttr]
    rfl
  have c3 : (Value.ref C :: bm).contains (.type "NameError") = false := by
    rw [List.contains_cons, hT, F.noName]
    rfl
  refine codeAny_builtinAt F.entry ?_
  unfold Builtin.«BaseException.__new__»
  refine wpAt_bind ?_
  show wpAt _ _ _ (stack >>= _) _ _ _
  refine wpAt_bind (wpAt_stack fun p below => wpAt_of_wpAny ?_)
  wp_walk
  refine wpAt_of_wpAny ?_
  rw [F.owner]
  repeat (first
    | with_reducible refine wpAny_madeHere_exc F.canon hC ?_
    | with_reducible refine wpAny_loadPart_at hC ?_
    | (with_reducible refine wpAny_isSubtype_exc hC ?_; first | rw [c1] | rw [c2] | rw [c3])
    | wp_step)
  show R _ _
  rw [Heap.size_push]
  exact fin

/-- C(.., k = v, ..): the class's own __init__ is called with all of them -/
theorem callErr (F : ExcBaseFacts B newId initId bmB) (hT : ∀ X : String, bm.contains (.type X) = bmB.contains (.type X)) {rest : List Value} {kw : List (Str × Value)} {fI : Addr}
    (hC : h.get? C = some (excClassObj nm q C N bs bm hdct sn sub ab col dd k0 k1 k2 k3 k5 newId)) (sz : rest.length ≤ sizeLine)
    (hi : PySem.W.Looks (model prog w) h (typeLookup (.ref C) "__init__") (some (.ref fI))) (hb : ∀ self, PySem.W.Looks (model prog w) h (bindSpecial (.ref fI) self) (.ref fI, [self]))
    (go : codeAny (model prog w) (A.under (.builtin "type.__call__" ⟨.ref C :: rest, kw⟩)) (.call (.ref fI) ⟨.ref (h.objs.size + 1) :: rest, kw⟩) (PySem.W.InitBack (h.objs.size + 1) R)
      ⟨(h.push (PySem.W.kdv_tup rest)).push (excO C h.objs.size), g, d, t, os⟩) : codeAny (model prog w) A (.call (.ref C) ⟨rest, kw⟩) R ⟨h, g, d, t, os⟩ := by
  have f1 := tc_lookup
  have f2 := tc_bind (.ref C)
  have hTy : (⟨h, g, d, t, os⟩ : Shared).TypeIs (.ref C) "type" := ⟨_, hC, rfl⟩
  have hL : PySem.W.Looks (model prog w) h (isInstance (.ref C) (.type "type")) true := (((PySem.W.Looks.ld (part := none) hC).andThen .now)).andThen (PySem.W.Looks.of_pure (by first | exact isSubtype_type_type | kernel_rfl))
  refine codeAny_of_tree ?_
  show wpAny _ _ (callAny (.ref C) _) _ _ _
  repeat (any_goals (first | assumption | with_reducible refine wpAny_loadPart_at hC ?_ | wp_step))
  refine ⟨rfl, ?_⟩
  refine codeAny_call_builtin_at (Code.quiet_builtin _ (by decide +kernel)) entry_typeCall (PySem.W.check_slot PySem.tc_kind PySem.tc_split hL (PySem.W.tc_args _ _ _) ?_)
  show wpAny _ _ (Builtin.«type.__call__» ⟨.ref C :: rest, kw⟩) _ _ _
  repeat (first | with_reducible refine wpAny_loadPart_at hC ?_ | with_reducible refine wpAny_madeBy_exc hC ?_ | wp_step)
  refine codeAny_call_builtin_code (Code.quiet_builtin _ F.quiet) (newChk F hT hC ?_)
  refine newObj F hT hC sz ?_
  show wpAny _ _ _ _ _ _
  have kk : ∀ b o, h.get? b = some o → ((h.push (PySem.W.kdv_tup rest)).push (excO C h.objs.size)).get? b = some o :=
    fun b o e => Heap.get?_push_of_some _ (Heap.get?_push_of_some _ e)
  have atE : ((h.push (PySem.W.kdv_tup rest)).push (excO C h.objs.size)).get? (h.objs.size + 1) = some (excO C h.objs.size) := by heap_get
  have sC : (Value.ref C :: bm).contains (.ref C) = true := by simp
  have hi2 := hi.keeps kk
  have hb2 := (hb (.ref (h.objs.size + 1))).keeps kk
  unfold isInstance
  repeat (first
    | with_reducible refine wpAny_loadPart_at atE ?_
    | (with_reducible refine wpAny_isSubtype_exc (kk _ _ hC) ?_; rw [sC])
    | wp_step)
  show wpAny _ _ (typeLookup (.ref C) _) _ _ _
  refine hi2.at ?_
  refine wpAny_holding (wpAny_bind (hb2.at ?_))
  refine wpAny_bind (wpAny_call (codeAny_mono go fun r s' z => ?_))
  rcases r with e | (v | _ | _ | _)
  · exact z
  · exact z.elim
  · exact z.elim
  · exact z.elim
  · obtain ⟨rfl, z⟩ := z
    first
      | exact wpAny_pure (wpAny_pure z)
      | (wp_walk; exact z)
end
end Kz

namespace Kz
open PySem PySem.Spec PyProof.Rows L2

/-! ### error classes of the text, errors as values -/
structure EC (K : PySem.W.Frag) (C : Addr) : Prop where
  o : OexC K C
  hd : PySem.W.hasDictIn K C = true
  ga : PySem.W.findIn K (.ref C) "__getattribute__" = some (some (.builtin "BaseException.__getattribute__"))
  gg : PySem.W.findIn K (.ref C) "__getattr__" = some none
  gc : PySem.W.findIn K (.ref C) "__class__" = some (some (.builtin "object.__class__"))
  cl : (PySem.W.clsIn K C).isSome = true
  mo : PySem.W.mroIn K C (.type "object") = some true
structure KG (K : PySem.W.Frag) : Prop where
  sp : PySem.W.specialIn K (.builtin "object.__class__") "__get__" = some (some (.builtin "getset_descriptor.__get__"))
  tk : PySem.W.takesIn K (.builtin "object.__class__") = some true

/-- e: an error of the class at C with these fields, the newest ahead -/
def Er (H : Hp) (e C : Addr) (fs : List (Str × V)) : Prop := ∃ d, H e = some (exo e C (some d)) ∧ H d = some (exd d fs)
/-- e: an error without fields -/
def Er0 (H : Hp) (e C : Addr) : Prop := H e = some (exo e C none)
theorem Er.same {H H' : Hp} {e C : Addr} {fs : List (Str × V)} (x : Er H e C fs) (s : Same H H') : Er H' e C fs := by
  obtain ⟨d, h1, h2⟩ := x
  exact ⟨d, s _ _ h1, s _ _ h2⟩
theorem Er0.same {H H' : Hp} {e C : Addr} (x : Er0 H e C) (s : Same H H') : Er0 H' e C := s _ _ x

/-- what isinstance and reading want of an instance -/
def IsE (X : Cx) (e C : Addr) (H : Hp) : Prop := ∀ pins σ s, Inv X pins σ H s → ∃ ox od, PySem.W.InstAt s.heap e ox C od
def HasE (X : Cx) (e C : Addr) (f : Str) (v : V) (H : Hp) : Prop := ∀ pins σ s, Inv X pins σ H s → ∃ ox od u, PySem.W.InstAt s.heap e ox C (some od) ∧ PySem.W.lookIn f od = some (some u) ∧ RelV v u
section
variable {X : Cx} {H : Hp} {e C : Addr} {fs : List (Str × V)}
theorem Er.at {P : Program} {w : World} {h : Heap} (hok : HOk P w H h) (x : Er H e C fs) : ∃ ox od, PySem.W.InstAt h e ox C (some od) ∧ ∃ mA : Str → Option Value, (∀ n, PySem.W.lookIn n od = some (mA n)) ∧ ∀ n, RelO (fs.lookup n) (mA n) := by
  obtain ⟨d, h1, h2⟩ := x
  obtain ⟨t1, g1⟩ := exo_at hok h1
  obtain ⟨mA, n1, r1⟩ := exd_at hok h2
  obtain ⟨od, o1, l1⟩ := lookIn_ns n1
  exact ⟨_, od, ⟨g1, rfl, rfl, o1⟩, mA, l1, r1⟩
theorem Er.isE (x : Er H e C fs) : IsE X e C H := by
  intro pins σ s I
  obtain ⟨ox, od, i, _⟩ := x.at I.hok
  exact ⟨ox, some od, i⟩
theorem Er0.isE (x : Er0 H e C) : IsE X e C H := by
  intro pins σ s I
  obtain ⟨t1, g1⟩ := exo_at I.hok x
  exact ⟨_, none, ⟨g1, rfl, rfl, trivial⟩⟩
theorem Er.hasE {f : Str} {v : V} (x : Er H e C fs) (l : fs.lookup f = some v) : HasE X e C f v H := by
  intro pins σ s I
  obtain ⟨ox, od, i, mA, l1, r1⟩ := x.at I.hok
  obtain ⟨u, hu, ru⟩ := RelO.some_of (v := v) (o := mA f) (by rw [← l]; exact r1 f)
  exact ⟨ox, od, u, i, by rw [l1, hu], ru⟩
end

/-- isinstance(e, c), e an error of the class at C -/
def rIs (X : Cx) : List V → Hp → VK → Prop := fun xs H Q => ∃ (e C : Addr) (c : V) (cv : Value) (b : Bool), xs = [.ref e, c] ∧ (∀ u, RelV c u → u = cv) ∧ EC X.K C ∧ IsE X e C H ∧ PySem.W.kitOne X.K (.ref C) cv = some b ∧ Q (.bl b) H
theorem call_is {X : Cx} (G : KG X.K) : CallR X (.builtin "isinstance") (rIs X) := by
  intro pins s σ H xs us Q I r h
  obtain ⟨e, C, c, cv, b, rfl, hcv, T, ie, k1, q⟩ := h
  obtain ⟨u, w', rfl, ru, rw'⟩ := vals2 r
  obtain rfl : u = Value.ref e := ru
  obtain rfl := hcv _ rw'
  obtain ⟨ox, od, i⟩ := ie pins σ s I
  exact PySem.W.kia_one (PySem.W.kitx_exc T.cl T.ga T.gg T.o.exC T.gc G.sp G.tk T.mo) I.kIn i k1 (fun z => nomatch z) fun tk => ⟨.bl b, H, I.tok tk, rfl, q⟩

/-- e.f, e an error -/
def tAt (X : Cx) (f : Str) (te : TE) : TE := fun σ H Q => te σ H fun x H1 => ∃ (e C : Addr) (v : V), x = .ref e ∧ EC X.K C ∧ PySem.W.findIn X.K (.ref C) f = some none ∧ HasE X e C f v H1 ∧ Q v H1
theorem pe_at {X : Cx} {e : Expr} {f : Str} {te : TE} {pos : Pos} (he : PE X e te) (hb : attributeBase e f X.env (eval e X.env) = eval e X.env := by rfl) : PE X (.Attribute e f pos) (tAt X f te) := by
  constructor
  intro pins s σ H Q I h
  refine attr_of hb (thn (he.run pins s σ H _ I h) ?_)
  rintro u s1 ⟨x, H1, I1, rx, a, C, v, rfl, T, no, he', q⟩
  obtain rfl : u = Value.ref a := rx
  obtain ⟨ox, od, u, i, l, ru⟩ := he' pins σ s1 I1
  exact HandSPX.exc_get I1.kIn i T.ga T.gg T.o.exC (PySem.W.findObj_own T.hd no rfl l) (handed_of ru) ⟨v, H1, I1.tok _, ru, q⟩

/-! ### C(..) as a value -/
/-- `__init__`: its parameters are stored under their names -/
def spIni (C : Addr) (flds : List Str) : Sp := fun vs H Q _ => ∃ (e : Addr) (ws : List V), vs = .ref e :: ws ∧ ws.length = flds.length ∧ H e = some (exo e C none) ∧
  ∀ d H', H d = none → d ≠ e → H' e = some (exo e C (some d)) → H' d = some (exd d (flds.zip ws).reverse) → (∀ b o, b ≠ e → H b = some o → H' b = some o) → Q .non H'
/-- items by their places -/
def pick {α : Type} (ix : List Nat) (l : List α) : List α := ix.filterMap fun i => l[i]?
theorem pick_rel : ∀ (ix : List Nat) {vs : List V} {us : List Value}, Vals vs us → Vals (pick ix vs) (pick ix us)
  | [], _, _, _ => .nil
  | i :: ix, vs, us, r => by
    have ih := pick_rel ix r
    unfold pick at ih ⊢
    rw [List.filterMap_cons, List.filterMap_cons]
    cases e : vs[i]? with
    | none =>
      rw [r.none_of e]
      exact ih
    | some v =>
      obtain ⟨u, eu, ru⟩ := r.get e
      rw [eu]
      exact .cons ru ih
/-- how the arguments of `__init__` behind self bind: n by place, then keywords ks; ix puts them in the parameters' order -/
def KB (fd : FuncData) (flds : List Str) (n : Nat) (ks : List Str) (ix : List Nat) : Prop :=
  ∀ (s : Shared) (self : Value) (us ws : List Value), us.length = n → ws.length = ks.length → BindsTo s fd ⟨self :: us, ks.zip ws⟩ ((("self" : Str) :: flds).zip (self :: pick ix (us ++ ws)))
structure MkE (P : Program) (w : World) (K : PySem.W.Frag) (mg : Str → Option Value) (b0 : Heap) (k : Nat) (C fI : Addr) (fd : FuncData) (flds : List Str) : Prop where
  T : EC K C
  iC : PySem.W.findIn K (.ref C) "__init__" = some (some (.ref fI))
  tI : PySem.W.typeIn K (.ref fI) = some (.type "function")
  F : FnOk P w K mg b0 CX0 k fI fd (("self" : Str) :: flds) (spIni C flds)
section
variable {X : Cx} {k n : Nat} {C fI : Addr} {fd : FuncData} {flds ks : List Str} {ix : List Nat}
theorem run_mkE {pins : List (Addr × Obj)} {σ : L2.St} {H : Hp} {s : Shared} {Q : VK} {us ws : List Value} {vs zs : List V} (M : MkE X.prog X.w X.K X.mg X.base k C fI fd flds) (hr : Room (k + 1) X.A) (hb : KB fd flds n ks ix)
    (I : Inv X pins σ H s) (r : Vals vs us) (rz : Vals zs ws) (l1 : vs.length = n) (l2 : zs.length = ks.length) (l3 : n ≤ 100) (l4 : (pick ix (vs ++ zs)).length = flds.length)
    (h : ∀ e H2, H e = none → Same H H2 → Er H2 e C (flds.zip (pick ix (vs ++ zs))).reverse → Q (.ref e) H2) : wpAny (model X.prog X.w) X.A (call (.ref C) us (ks.zip ws)) (EP X pins σ Q) X.xe s := by
  obtain ⟨nm, q, N, bs, bm, sn, sub, ab, col, dd, k0, k1, k2, k3, k5, hC, hbm⟩ := M.T.o.cls
  obtain ⟨hp, g, dr, tk, os⟩ := s
  have e1 : us.length = n := r.length.symm.trans l1
  have e2 : ws.length = ks.length := rz.length.symm.trans l2
  have hsz : hp.objs.size ≤ hp.objs.size + 1 := Nat.le_succ _
  have hn : H (hp.objs.size + 1) = none := I.hok.fresh hsz
  have kk : ∀ b o, hp.get? b = some o → ((hp.push (PySem.W.kdv_tup us)).push (PySem.HandSPX.excO C hp.objs.size)).get? b = some o := fun b o e => Heap.get?_push_of_some _ (Heap.get?_push_of_some _ e)
  have atE : ((hp.push (PySem.W.kdv_tup us)).push (PySem.HandSPX.excO C hp.objs.size)).get? (hp.objs.size + 1) = some (PySem.HandSPX.excO C hp.objs.size) := by heap_get
  have I2 : Inv X pins σ (upd H (hp.objs.size + 1) (exo (hp.objs.size + 1) C none)) ⟨(hp.push (PySem.W.kdv_tup us)).push (PySem.HandSPX.excO C hp.objs.size), g, dr, tk, os⟩ :=
    I.laid (t' := tk) (a := hp.objs.size + 1) (o := exo (hp.objs.size + 1) C none) (h' := (hp.push (PySem.W.kdv_tup us)).push (PySem.HandSPX.excO C hp.objs.size)) kk hsz (exo_ok atE)
  have r2 : Vals (V.ref (hp.objs.size + 1) :: pick ix (vs ++ zs)) (Value.ref (hp.objs.size + 1) :: pick ix (us ++ ws)) := .cons rfl (pick_rel ix (r.append rz))
  have hsp : spIni C flds (V.ref (hp.objs.size + 1) :: pick ix (vs ++ zs)) (upd H (hp.objs.size + 1) (exo (hp.objs.size + 1) C none)) (fun v H2 => v = .non ∧ Q (.ref (hp.objs.size + 1)) H2) (fun _ _ _ => False) := by
    refine ⟨_, _, rfl, l4, upd_same, fun d H' _ _ x1 x2 sm => ⟨rfl, h _ H' hn (fun b o z => ?_) ⟨d, x1, x2⟩⟩⟩
    have nb : b ≠ hp.objs.size + 1 := ne_of_none z hn
    exact sm b o nb (by rw [upd_ne nb]; exact z)
  have szl : us.length ≤ sizeLine := by
    rw [e1, sizeLine_eq]
    omega
  refine wpAny_call (callErr F.excBase_ValueError (fun Y => PySem.HandSPX.refsVE_contains Y bm hbm) (I.kIn _ _ hC) szl (PySem.W.looks_findIn I.kIn M.iC) (fun self => PySem.W.bind_fn I.kIn self M.tI)
    (codeAny_mono (M.F.run _ X.stack _ _ ⟨Value.ref (hp.objs.size + 1) :: us, ks.zip ws⟩ (Value.ref (hp.objs.size + 1) :: pick ix (us ++ ws)) _ _ (fun _ _ _ => False) (hr.make C us (ks.zip ws)) (I2.env0.make C us (ks.zip ws)) (hb _ _ us ws e1 e2) r2 hsp) fun rr s' z => ?_))
  rcases rr with ee | fl
  · exact False.elim z
  · rcases fl with _ | _ | _ | u
    · exact False.elim z
    · exact False.elim z
    · exact False.elim z
    · obtain ⟨v, H2, J, rv, ev, qq⟩ := I2.after z
      subst ev
      exact ⟨rv, .ref (hp.objs.size + 1), H2, J, rfl, qq⟩

/-- the same, thrown: the error is let go, its dict stays -/
theorem run_mkX {pins : List (Addr × Obj)} {σ : L2.St} {H : Hp} {s : Shared} {Q : XK} {us ws : List Value} {vs zs : List V} (M : MkE X.prog X.w X.K X.mg X.base k C fI fd flds) (hr : Room (k + 1) X.A) (hb : KB fd flds n ks ix)
    (I : Inv X pins σ H s) (r : Vals vs us) (rz : Vals zs ws) (l1 : vs.length = n) (l2 : zs.length = ks.length) (l3 : n ≤ 100) (l4 : (pick ix (vs ++ zs)).length = flds.length)
    (h : ∀ d H', Same H H' → H' d = some (.xd (flds.zip (pick ix (vs ++ zs))).reverse) → Q (.ref C) (some d) H') : wpAny (model X.prog X.w) X.A (call (.ref C) us (ks.zip ws)) (L2N.MkP X pins σ Q) X.xe s := by
  obtain ⟨nm, q, N, bs, bm, sn, sub, ab, col, dd, k0, k1, k2, k3, k5, hC, hbm⟩ := M.T.o.cls
  obtain ⟨hp, g, dr, tk, os⟩ := s
  have e1 : us.length = n := r.length.symm.trans l1
  have e2 : ws.length = ks.length := rz.length.symm.trans l2
  have hsz : hp.objs.size ≤ hp.objs.size + 1 := Nat.le_succ _
  have hn : H (hp.objs.size + 1) = none := I.hok.fresh hsz
  have kk : ∀ b o, hp.get? b = some o → ((hp.push (PySem.W.kdv_tup us)).push (PySem.HandSPX.excO C hp.objs.size)).get? b = some o := fun b o e => Heap.get?_push_of_some _ (Heap.get?_push_of_some _ e)
  have atE : ((hp.push (PySem.W.kdv_tup us)).push (PySem.HandSPX.excO C hp.objs.size)).get? (hp.objs.size + 1) = some (PySem.HandSPX.excO C hp.objs.size) := by heap_get
  have I2 : Inv X pins σ (upd H (hp.objs.size + 1) (exo (hp.objs.size + 1) C none)) ⟨(hp.push (PySem.W.kdv_tup us)).push (PySem.HandSPX.excO C hp.objs.size), g, dr, tk, os⟩ :=
    I.laid (t' := tk) (a := hp.objs.size + 1) (o := exo (hp.objs.size + 1) C none) (h' := (hp.push (PySem.W.kdv_tup us)).push (PySem.HandSPX.excO C hp.objs.size)) kk hsz (exo_ok atE)
  have r2 : Vals (V.ref (hp.objs.size + 1) :: pick ix (vs ++ zs)) (Value.ref (hp.objs.size + 1) :: pick ix (us ++ ws)) := .cons rfl (pick_rel ix (r.append rz))
  have hsp : spIni C flds (V.ref (hp.objs.size + 1) :: pick ix (vs ++ zs)) (upd H (hp.objs.size + 1) (exo (hp.objs.size + 1) C none)) (fun v H2 => v = .non ∧ ∃ d fs, H2 (hp.objs.size + 1) = some (exo (hp.objs.size + 1) C (some d)) ∧ H2 d = some (exd d fs) ∧ H d = none ∧ Q (.ref C) (some d) (upd (del H2 (hp.objs.size + 1)) d (.xd fs))) (fun _ _ _ => False) := by
    refine ⟨_, _, rfl, l4, upd_same, fun d H' nd ne x1 x2 sm => ⟨rfl, d, _, x1, x2, ?_, h d _ (fun b o z => ?_) upd_same⟩⟩
    · rw [upd_ne ne] at nd
      exact nd
    · have nb : b ≠ hp.objs.size + 1 := ne_of_none z hn
      have nd' : H d = none := by
        rw [upd_ne ne] at nd
        exact nd
      rw [upd_ne (ne_of_none z nd'), del_ne nb]
      exact sm b o nb (by rw [upd_ne nb]; exact z)
  have szl : us.length ≤ sizeLine := by
    rw [e1, sizeLine_eq]
    omega
  refine wpAny_call (callErr F.excBase_ValueError (fun Y => PySem.HandSPX.refsVE_contains Y bm hbm) (I.kIn _ _ hC) szl (PySem.W.looks_findIn I.kIn M.iC) (fun self => PySem.W.bind_fn I.kIn self M.tI)
    (codeAny_mono (M.F.run _ X.stack _ _ ⟨Value.ref (hp.objs.size + 1) :: us, ks.zip ws⟩ (Value.ref (hp.objs.size + 1) :: pick ix (us ++ ws)) _ _ (fun _ _ _ => False) (hr.make C us (ks.zip ws)) (I2.env0.make C us (ks.zip ws)) (hb _ _ us ws e1 e2) r2 hsp) fun rr s' z => ?_))
  rcases rr with ee | fl
  · exact False.elim z
  · rcases fl with _ | _ | _ | u
    · exact False.elim z
    · exact False.elim z
    · exact False.elim z
    · obtain ⟨v, H2, os2, bare2, un2, hok2, rv, ev, d, fs, ea, ed, hd1, q2⟩ := z
      subst ev
      obtain ⟨h2, g2, d2, t2, os'⟩ := s'
      obtain ⟨t0, G, J, kG, ge, hoe, na⟩ := mk_end0 (d2 := d2) (t2 := t2) I hsz kk un2 hok2 os2 bare2 ea ed hd1
      refine ⟨rv, hp.objs.size + 1, _, _, ⟨G, g2, d2, t2, os'⟩, _, .ref C, some d, rfl, J, kG, ge, hoe, ⟨rfl, rfl, fun vs hv => ?_⟩, rfl, rfl, na, rfl, bare2, raises_own M.T.o.exC M.T.o.tyC, q2⟩
      cases hv
      rfl

def tMkX (C : Addr) (flds : List Str) (n m : Nat) (ix : List Nat) (t tk : TA) : L2.St → Hp → XK → Prop := fun σ H Q => t σ H fun vs H1 => tk σ H1 fun zs H2 => vs.length = n ∧ zs.length = m ∧ (pick ix (vs ++ zs)).length = flds.length ∧
  ∀ d H3, Same H2 H3 → H3 d = some (.xd (flds.zip (pick ix (vs ++ zs))).reverse) → Q (.ref C) (some d) H3
/-- C(e, .., k = v, ..) -/
def tMkE (C : Addr) (flds : List Str) (n m : Nat) (ix : List Nat) (t tk : TA) : TE := fun σ H Q => t σ H fun vs H1 => tk σ H1 fun zs H2 => vs.length = n ∧ zs.length = m ∧ (pick ix (vs ++ zs)).length = flds.length ∧
  ∀ e H3, H2 e = none → Same H2 H3 → Er H3 e C (flds.zip (pick ix (vs ++ zs))).reverse → Q (.ref e) H3
variable {x : Str} {p pos : Pos} {e : Expr} {es : List Expr} {kws : List Keyword} {t tk : TA}
theorem pe_mkE (M : MkE X.prog X.w X.K X.mg X.base k C fI fd flds) (hr : Room (k + 1) X.A) (hg : Gl X x) (hm : X.mg x = some (.ref C)) (hb : KB fd flds n ks ix) (l3 : n ≤ 100) (ha : PA X (e :: es) t) (hkw : PK X kws tk)
    (a1 : (backToKw pos (keywordEach kws X.env)).all (·.1.isSome) = true := by rfl) (a2 : (backToKw pos (keywordEach kws X.env)).filterMap (·.1) = ks := by rfl) (nd : (x == ("__debug__" : Str)) = false := by decide)
    (a3 : starEach (e :: es) X.env = (false, eval e X.env) :: starEach es X.env := by rfl) (a4 : ((backTo pos (starEach (e :: es) X.env)).any (·.1) || (backToKw pos (keywordEach kws X.env)).any (·.1.isNone)) = false := by rfl) :
    PE X (.Call (.Name x p) (e :: es) kws pos) (tMkE C flds n ks.length ix t tk) := by
  constructor
  intro pins s σ H Q I h
  refine wpAny_Call_Name_kw (ld_glob I hg hm ?_ nd)
  refine PySem.W.callWith_KW (h₀ := X.base) I.ok.mod.kin M.T.o.kC a1 (thn (ha.run pos pins s σ H _ I h) ?_) a4 a3
  rintro us s1 ⟨vs, H1, I1, r1, q1⟩
  refine thn (hkw.run pos pins s1 σ H1 _ I1 q1) ?_
  rintro ws s2 ⟨zs, H2, I2, rz, l1, l2, l4, q2⟩
  refine ⟨I2.kIn, ?_⟩
  rw [a2]
  exact run_mkE M hr hb I2 r1 rz l1 l2 l3 l4 q2
theorem pe_mkE1 (M : MkE X.prog X.w X.K X.mg X.base k C fI fd flds) (hr : Room (k + 1) X.A) (hg : Gl X x) (hm : X.mg x = some (.ref C)) (hb : KB fd flds n [] ix) (l3 : n ≤ 100) (ha : PA X (e :: es) t) (nd : (x == ("__debug__" : Str)) = false := by decide)
    (a3 : starEach (e :: es) X.env = (false, eval e X.env) :: starEach es X.env := by rfl) (a4 : (backTo pos (starEach es X.env)).any (·.1) = false := by rfl) :
    PE X (.Call (.Name x p) (e :: es) [] pos) (tMkE C flds n 0 ix t tNil) := by
  constructor
  intro pins s σ H Q I h
  refine wpAny_Call_Name_kw (ld_glob I hg hm ?_ nd)
  refine PySem.W.callWith_K (h₀ := X.base) I.ok.mod.kin M.T.o.kC (thn (ha.run pos pins s σ H _ I h) ?_) a3 a4
  rintro us s1 ⟨vs, H1, I1, r1, l1, l2, l4, q2⟩
  exact ⟨I1.kIn, run_mkE (ws := []) (zs := []) M hr hb I1 r1 .nil l1 rfl l3 l4 q2⟩
theorem pe_mkE2 (M : MkE X.prog X.w X.K X.mg X.base k C fI fd flds) (hr : Room (k + 1) X.A) (hg : Gl X x) (hm : X.mg x = some (.ref C)) (hb : KB fd flds 0 ks ix) (hkw : PK X kws tk)
    (a1 : (backToKw pos (keywordEach kws X.env)).all (·.1.isSome) = true := by rfl) (a2 : (backToKw pos (keywordEach kws X.env)).filterMap (·.1) = ks := by rfl) (nd : (x == ("__debug__" : Str)) = false := by decide)
    (a4 : ((backTo pos (starEach [] X.env)).any (·.1) || (backToKw pos (keywordEach kws X.env)).any (·.1.isNone)) = false := by rfl) :
    PE X (.Call (.Name x p) [] kws pos) (tMkE C flds 0 ks.length ix tNil tk) := by
  constructor
  intro pins s σ H Q I h
  refine wpAny_Call_Name_kw (ld_glob I hg hm ?_ nd)
  refine PySem.W.callWith_KW0 (h₀ := X.base) I.ok.mod.kin M.T.o.kC a1 (thn (hkw.run pos pins s σ H _ I h) ?_) a4
  rintro ws s2 ⟨zs, H2, I2, rz, l1, l2, l4, q2⟩
  refine ⟨I2.kIn, ?_⟩
  rw [a2]
  exact run_mkE (us := []) (vs := []) M hr hb I2 .nil rz rfl l2 (Nat.zero_le _) l4 q2
theorem pm_mkE (M : MkE X.prog X.w X.K X.mg X.base k C fI fd flds) (hr : Room (k + 1) X.A) (hg : Gl X x) (hm : X.mg x = some (.ref C)) (hb : KB fd flds n ks ix) (l3 : n ≤ 100) (ha : PA X (e :: es) t) (hkw : PK X kws tk)
    (a1 : (backToKw pos (keywordEach kws X.env)).all (·.1.isSome) = true := by rfl) (a2 : (backToKw pos (keywordEach kws X.env)).filterMap (·.1) = ks := by rfl) (nd : (x == ("__debug__" : Str)) = false := by decide)
    (a3 : starEach (e :: es) X.env = (false, eval e X.env) :: starEach es X.env := by rfl) (a4 : ((backTo pos (starEach (e :: es) X.env)).any (·.1) || (backToKw pos (keywordEach kws X.env)).any (·.1.isNone)) = false := by rfl) :
    L2N.PMk X (.Call (.Name x p) (e :: es) kws pos) (tMkX C flds n ks.length ix t tk) := by
  intro pins s σ H Q I h
  refine wpAny_Call_Name_kw (ld_glob I hg hm ?_ nd)
  refine PySem.W.callWith_KW (h₀ := X.base) I.ok.mod.kin M.T.o.kC a1 (thn (ha.run pos pins s σ H _ I h) ?_) a4 a3
  rintro us s1 ⟨vs, H1, I1, r1, q1⟩
  refine thn (hkw.run pos pins s1 σ H1 _ I1 q1) ?_
  rintro ws s2 ⟨zs, H2, I2, rz, l1, l2, l4, q2⟩
  refine ⟨I2.kIn, ?_⟩
  rw [a2]
  exact run_mkX M hr hb I2 r1 rz l1 l2 l3 l4 q2
theorem pm_mkE1 (M : MkE X.prog X.w X.K X.mg X.base k C fI fd flds) (hr : Room (k + 1) X.A) (hg : Gl X x) (hm : X.mg x = some (.ref C)) (hb : KB fd flds n [] ix) (l3 : n ≤ 100) (ha : PA X (e :: es) t) (nd : (x == ("__debug__" : Str)) = false := by decide)
    (a3 : starEach (e :: es) X.env = (false, eval e X.env) :: starEach es X.env := by rfl) (a4 : (backTo pos (starEach es X.env)).any (·.1) = false := by rfl) :
    L2N.PMk X (.Call (.Name x p) (e :: es) [] pos) (tMkX C flds n 0 ix t tNil) := by
  intro pins s σ H Q I h
  refine wpAny_Call_Name_kw (ld_glob I hg hm ?_ nd)
  refine PySem.W.callWith_K (h₀ := X.base) I.ok.mod.kin M.T.o.kC (thn (ha.run pos pins s σ H _ I h) ?_) a3 a4
  rintro us s1 ⟨vs, H1, I1, r1, l1, l2, l4, q2⟩
  exact ⟨I1.kIn, run_mkX (ws := []) (zs := []) M hr hb I1 r1 .nil l1 rfl l3 l4 q2⟩
theorem pm_mkE2 (M : MkE X.prog X.w X.K X.mg X.base k C fI fd flds) (hr : Room (k + 1) X.A) (hg : Gl X x) (hm : X.mg x = some (.ref C)) (hb : KB fd flds 0 ks ix) (hkw : PK X kws tk)
    (a1 : (backToKw pos (keywordEach kws X.env)).all (·.1.isSome) = true := by rfl) (a2 : (backToKw pos (keywordEach kws X.env)).filterMap (·.1) = ks := by rfl) (nd : (x == ("__debug__" : Str)) = false := by decide)
    (a4 : ((backTo pos (starEach [] X.env)).any (·.1) || (backToKw pos (keywordEach kws X.env)).any (·.1.isNone)) = false := by rfl) :
    L2N.PMk X (.Call (.Name x p) [] kws pos) (tMkX C flds 0 ks.length ix tNil tk) := by
  intro pins s σ H Q I h
  refine wpAny_Call_Name_kw (ld_glob I hg hm ?_ nd)
  refine PySem.W.callWith_KW0 (h₀ := X.base) I.ok.mod.kin M.T.o.kC a1 (thn (hkw.run pos pins s σ H _ I h) ?_) a4
  rintro ws s2 ⟨zs, H2, I2, rz, l1, l2, l4, q2⟩
  refine ⟨I2.kIn, ?_⟩
  rw [a2]
  exact run_mkX (us := []) (vs := []) M hr hb I2 .nil rz rfl l2 (Nat.zero_le _) l4 q2
end
end Kz

namespace Kz
open PySem PySem.Spec PyProof.Rows L2

/-! ### data that stands in what is tracked, away from the object at z -/
mutual
inductive Dq (z : Addr) (H : Hp) : V → PyData → Prop
  | non : Dq z H .non .none
  | bl (b : Bool) : Dq z H (.bl b) (.bool b)
  | int (i : Int) : Dq z H (.int i) (.int i)
  | str (x : Str) : Dq z H (.str x) (.str x)
  | lst {a : Addr} {xs : List V} {ds : List PyData} : a ≠ z → H a = some (.lst xs) → DqAll z H xs ds → Dq z H (.ref a) (.list ds)
  | tup {a : Addr} {xs : List V} {ds : List PyData} : a ≠ z → H a = some (.tup xs) → DqAll z H xs ds → Dq z H (.ref a) (.tuple ds)
  | dic {a : Addr} {kvs : List (Key × V)} {ds : List (PyData × PyData)} : a ≠ z → H a = some (.dK kvs) → DqKv z H kvs ds → Dq z H (.ref a) (.dict ds)
inductive DqAll (z : Addr) (H : Hp) : List V → List PyData → Prop
  | nil : DqAll z H [] []
  | cons {v : V} {vs : List V} {d : PyData} {ds : List PyData} : Dq z H v d → DqAll z H vs ds → DqAll z H (v :: vs) (d :: ds)
inductive DqKv (z : Addr) (H : Hp) : List (Key × V) → List (PyData × PyData) → Prop
  | nil : DqKv z H [] []
  | cons {x : Str} {v : V} {vs : List (Key × V)} {d : PyData} {ds : List (PyData × PyData)} : Dq z H v d → DqKv z H vs ds → DqKv z H ((.inr x, v) :: vs) ((.str x, d) :: ds)
end
/-- all but what stands at z is as it was -/
def Save (z : Addr) (H H' : Hp) : Prop := ∀ b o, b ≠ z → H b = some o → H' b = some o
theorem Save.of {z : Addr} {H H' : Hp} (s : Same H H') : Save z H H' := fun b o _ e => s b o e
theorem Save.trans {z : Addr} {H H1 H2 : Hp} (a : Save z H H1) (b : Save z H1 H2) : Save z H H2 := fun c o n e => b c o n (a c o n e)
theorem Save.refl {z : Addr} {H : Hp} : Save z H H := fun _ _ _ e => e
mutual
theorem Dq.save {z : Addr} {H H' : Hp} (s : Save z H H') : ∀ {v : V} {d : PyData}, Dq z H v d → Dq z H' v d
  | _, _, .non => .non
  | _, _, .bl b => .bl b
  | _, _, .int i => .int i
  | _, _, .str x => .str x
  | _, _, .lst n e h => .lst n (s _ _ n e) (DqAll.save s h)
  | _, _, .tup n e h => .tup n (s _ _ n e) (DqAll.save s h)
  | _, _, .dic n e h => .dic n (s _ _ n e) (DqKv.save s h)
theorem DqAll.save {z : Addr} {H H' : Hp} (s : Save z H H') : ∀ {v : List V} {d : List PyData}, DqAll z H v d → DqAll z H' v d
  | _, _, .nil => .nil
  | _, _, .cons h t => .cons (Dq.save s h) (DqAll.save s t)
theorem DqKv.save {z : Addr} {H H' : Hp} (s : Save z H H') : ∀ {v : List (Key × V)} {d : List (PyData × PyData)}, DqKv z H v d → DqKv z H' v d
  | _, _, .nil => .nil
  | _, _, .cons h t => .cons (Dq.save s h) (DqKv.save s t)
end
/-- sysModules' own object is a dict of the written part -/
def SysD (K : PySem.W.Frag) : Prop := ∃ o, K.lookup sysModules = some o ∧ o.cls = .type "dict"
section
variable {X : Cx} {pins : List (Addr × Obj)} {σ : L2.St} {H : Hp} {s : Shared} {z : Addr}
mutual
theorem Dq.reads (I : Inv X pins σ H s) (sd : SysD X.K) : ∀ (d : PyData) (v : V) (u : Value), Dq z H v d → RelV v u → ∃ as, Reads s.heap u d as ∧ sysModules ∉ as
  | .none, _, _, h, r => by
    cases h
    cases r
    exact ⟨_, Reads.none, by simp⟩
  | .bool b, _, _, h, r => by
    cases h
    cases r
    exact ⟨_, Reads.bool b, by simp⟩
  | .int i, _, _, h, r => by
    cases h
    obtain ⟨t, rfl⟩ := r
    exact ⟨_, Reads.int i t, by simp⟩
  | .str x, _, _, h, r => by
    cases h
    obtain ⟨t, rfl⟩ := r
    exact ⟨_, Reads.str x t, by simp⟩
  | .list ds, _, _, h, r => by
    cases h with
    | @lst a xs _ n e ha =>
      cases r
      have ok : ObjOk X.prog X.w H s.heap a (.lst xs) := I.hok a _ e
      obtain ⟨_, its, m, rv, ho⟩ := ok
      obtain ⟨as, hr, nm⟩ := DqAll.reads I sd ds _ its ha rv
      refine ⟨a :: as, Reads.list ho rfl rfl (by simpa using hr), ?_⟩
      obtain ⟨o, ko, kc⟩ := sd
      have ks := I.kIn _ _ ko
      intro hm
      rcases List.mem_cons.mp hm with q | q
      · rw [q, ho] at ks
        rw [← Option.some.inj ks] at kc
        have kc' : (Value.type "list") = Value.type "dict" := kc
        exact absurd kc' (by decide)
      · exact nm q
  | .tuple ds, _, _, h, r => by
    cases h with
    | @tup a xs _ n e ha =>
      cases r
      have ok : ObjOk X.prog X.w H s.heap a (.tup xs) := I.hok a _ e
      obtain ⟨_, its, rv, o, ho, hc, m, hd⟩ := ok
      obtain ⟨as, hr, nm⟩ := DqAll.reads I sd ds _ its ha rv
      exact ⟨as, Reads.tuple ho hc hd (by simpa using hr), nm⟩
  | .dict ds, _, _, h, r => by
    cases h with
    | @dic a kvs _ n e ha =>
      cases r
      have ok : ObjOk X.prog X.w H s.heap a (.dK kvs) := I.hok a _ e
      obtain ⟨_, hs, vs, rk, o, es, ep, ho, hx, hd, _, hp, _⟩ := ok
      obtain ⟨as, bs, h1, h2, n1, n2⟩ := DqKv.reads I sd ds kvs vs es.toList ha rk hp
      refine ⟨a :: as ++ bs, Reads.dict ho hx.1 hd h1 h2, fun hm => ?_⟩
      rcases List.mem_append.mp hm with q | q
      · rcases List.mem_cons.mp q with q | q
        · rw [← q] at hs
          exact absurd hs (by decide)
        · exact n1 q
      · exact n2 q
theorem DqAll.reads (I : Inv X pins σ H s) (sd : SysD X.K) : ∀ (ds : List PyData) (vs : List V) (us : List Value), DqAll z H vs ds → Vals vs us → ∃ as, ReadsAll s.heap us ds as ∧ sysModules ∉ as
  | [], _, _, h, r => by
    cases h
    cases r
    exact ⟨_, ReadsAll.nil, by simp⟩
  | d :: ds, _, _, h, r => by
    cases h with
    | cons h1 h2 =>
      cases r with
      | cons r1 r2 =>
        obtain ⟨as, q1, n1⟩ := Dq.reads I sd d _ _ h1 r1
        obtain ⟨bs, q2, n2⟩ := DqAll.reads I sd ds _ _ h2 r2
        exact ⟨_, ReadsAll.cons q1 q2, fun hm => (List.mem_append.mp hm).elim n1 n2⟩
theorem DqKv.reads (I : Inv X pins σ H s) (sd : SysD X.K) : ∀ (ds : List (PyData × PyData)) (kvs : List (Key × V)) (vs : List (Key × Value)) (es : List DictEntry), DqKv z H kvs ds → KV kvs vs → Pairs (mixKind X.prog X.w) es vs →
    ∃ as bs, ReadsAll s.heap (es.map (·.key)) (ds.map (·.1)) as ∧ ReadsAll s.heap (es.map (·.val)) (ds.map (·.2)) bs ∧ sysModules ∉ as ∧ sysModules ∉ bs
  | [], _, _, _, h, r, p => by
    cases h
    cases r
    cases p
    exact ⟨_, _, ReadsAll.nil, ReadsAll.nil, by simp, by simp⟩
  | (kd, d) :: ds, _, _, _, h, r, p => by
    cases h with
    | @cons x v kvs' _ _ h1 h2 =>
      cases r with
      | @cons _ q _ vs' r1 r2 =>
        cases p with
        | @cons en _ es' _ p1 p2 p3 =>
          obtain ⟨k', u⟩ := q
          obtain ⟨rk, ru⟩ := r1
          have rk' : (Sum.inr x : Key) = k' := rk
          subst rk'
          obtain ⟨hh, ek, ev⟩ := en
          have p2' : ev = u := p2
          subst p2'
          have p1' : keyIs (.inr x) ek = true := p1
          rcases keyIs_shape p1' with ⟨i, t, e, _⟩ | ⟨y, t, e, e2⟩
          · cases e
          · cases e
            subst e2
            obtain ⟨a1, q1, n1⟩ := Dq.reads I sd d _ _ h1 ru
            obtain ⟨as, bs, q2, q3, n2, n3⟩ := DqKv.reads I sd ds kvs' vs' es' h2 r2 p3
            exact ⟨_, _, ReadsAll.cons (Reads.str x t) q2, ReadsAll.cons q1 q3, by simpa using n2, fun hm => (List.mem_append.mp hm).elim n1 n3⟩
end
end

/-- repr(x), x data -/
def rRep : List V → Hp → VK → Prop := fun xs H Q => ∃ (z : Addr) (v : V) (d : PyData), xs = [v] ∧ Dq z H v d ∧ d.showable = true ∧ d.shown.length ≤ sizeLine ∧ d.depth ≤ 60 ∧ Q (.str d.shown) H
theorem call_rep {X : Cx} (g0 : Bare0 X.A) (hu : X.A.units + 64 < cLine) (sd : SysD X.K) : CallR X (.builtin "repr") rRep := by
  intro pins s σ H xs us Q I r h
  obtain ⟨z, v, d, rfl, hd, hs, hz, dp, q⟩ := h
  obtain ⟨u, rfl, ru⟩ := vals1 r
  obtain ⟨as, hr, nm⟩ := Dq.reads I sd d v u hd ru
  cases hr with
  | none =>
    refine PySem.P.repr_of_none ⟨.str _, H, I.tok _, ⟨_, rfl⟩, ?_⟩
    simpa only [PyData.shown] using q
  | bool b =>
    refine PySem.P.repr_of_bool ⟨.str _, H, I.tok _, ⟨_, rfl⟩, ?_⟩
    simpa only [PyData.shown] using q
  | int i t =>
    refine PySem.P.repr_of_int (by simpa [PyData.showable] using hs) ⟨.str _, H, I.tok _, ⟨_, rfl⟩, ?_⟩
    simpa only [PyData.shown] using q
  | str x t =>
    refine PySem.P.repr_of_str ⟨.str _, H, I.tok _, ⟨_, rfl⟩, ?_⟩ (by simpa only [PyData.shown] using hz)
    simpa only [PyData.shown] using q
  | list h1 h2 h3 h4 =>
    exact repr_of_reads' (.list h1 h2 h3 h4) hs (fun _ => nm) g0 (by omega) (fun _ _ e => e) (fun h' u tk hk => ⟨.str _, H, I.kept (t' := tk) hk, ⟨u, rfl⟩, q⟩) hz
  | tuple h1 h2 h3 h4 =>
    exact repr_of_reads' (.tuple h1 h2 h3 h4) hs (fun _ => nm) g0 (by omega) (fun _ _ e => e) (fun h' u tk hk => ⟨.str _, H, I.kept (t' := tk) hk, ⟨u, rfl⟩, q⟩) hz
  | dict h1 h2 h3 h4 h5 =>
    exact repr_of_reads' (.dict h1 h2 h3 h4 h5) hs (fun _ => nm) g0 (by omega) (fun _ _ e => e) (fun h' u tk hk => ⟨.str _, H, I.kept (t' := tk) hk, ⟨u, rfl⟩, q⟩) hz

/-! ### C(), an error class without an `__init__` -/
theorem pe_mk0 {X : Cx} {C : Addr} {bmB : List Value} {B newId initId : String} {x : Str} {p pos : Pos} (F : ExcBaseFacts B newId initId bmB) (q : PySem.W.excIn X.K C bmB newId = true) (gC : X.mg x = some (.ref C)) (kC : PySem.W.keepIn X.K (.ref C) = true) (hg : Gl X x)
    (nd : (x == ("__debug__" : Str)) = false := by decide) : PE X (.Call (.Name x p) [] [] pos) (fun σ H Q => ∀ e, H e = none → Q (.ref e) (upd H e (exo e C none))) := by
  constructor
  intro pins s σ H Q I h
  refine wpAny_Call_Name_kw (ld_glob I hg gC ?_ nd)
  refine PySem.W.callWith_K0 I.kIn kC ?_
  show wpAny _ _ (call (.ref C) []) _ _ _
  obtain ⟨bm, N, nm, qn, bs, hdct, sn, sub, ab, col, dd, k0, k1, k2, k3, k5, mN, hC, hN, hni, T⟩ := exc_obj I.kIn q
  refine wpAny_call_exc_subT F T hC hN hni (fun h' e hm => ?_) (by show 0 ≤ sizeLine; exact Nat.zero_le _)
  obtain ⟨t, ht, _, _⟩ := hm.there
  exact ⟨.ref e, _, I.laidN hm.keeps hm.new (I.hok.gone hm.new) (exo_ok ht), rfl, h e (I.hok.gone hm.new)⟩
theorem pm_mk0 {X : Cx} {C : Addr} {bmB : List Value} {B newId initId : String} {x : Str} {p pos : Pos} (F : ExcBaseFacts B newId initId bmB) (q : PySem.W.excIn X.K C bmB newId = true) (gC : X.mg x = some (.ref C)) (kC : PySem.W.keepIn X.K (.ref C) = true) (rs : Raises X (.ref C)) (hg : Gl X x)
    (nd : (x == ("__debug__" : Str)) = false := by decide) : L2N.PMk X (.Call (.Name x p) [] [] pos) (fun _ H Q => Q (.ref C) none H) := by
  intro pins s σ H Q I h
  refine wpAny_Call_Name_kw (ld_glob I hg gC ?_ nd)
  refine PySem.W.callWith_K0 I.kIn kC ?_
  show wpAny _ _ (call (.ref C) []) _ _ _
  obtain ⟨bm, N, nm, qn, bs, hdct, sn, sub, ab, col, dd, k0, k1, k2, k3, k5, mN, hC, hN, hni, T⟩ := exc_obj I.kIn q
  refine wpAny_call_exc_subT F T hC hN hni (fun h' e hm => ?_) (by show 0 ≤ sizeLine; exact Nat.zero_le _)
  exact L2N.mk_of I hm rs h (I.hok.gone hm.new)
end Kz

namespace Kz
open PySem PySem.Spec PyProof.Rows L2

/-! ### the text -/
def top (i : Nat) : Stmt := PySem.Challenge.pw_evenpatch_k00_errors.main.body.getD i (.Pass ⟨0, 0, 0, 0⟩)
def cnA : List Str := ["InvalidNumber", "InvalidLots", "InvalidLot", "InvalidPayoff", "InvalidBlend", "InvalidNames", "InvalidStore", "InvalidValues", "InvalidName", "InvalidParty", "InvalidSide", "InvalidText", "InvalidSystem", "InvalidUnit", "InvalidBody", "InvalidSteps", "InvalidAnswer", "InvalidPart", "InvalidView", "InvalidFamilies", "InvalidRow", "InvalidPlan", "InvalidOutcomes"]
def cnB : List Str := ["InvalidPath", "InvalidCode", "InvalidLines", "InvalidEdition", "InvalidPromised", "InvalidPrice", "InvalidPurse", "InvalidSession", "InvalidRecord", "Outside", "Apart", "TooMany", "NoThing", "NoSystem", "TooGreat", "NotFair", "TooDear", "TooRich", "NotLet", "ByZero", "NotAsked", "NothingToUndo"]
def cnames : List Str := cnA ++ cnB
def cname (i : Nat) : Str := cnames.getD i ""
def ctops : List Nat := [4, 5, 6, 7, 8, 9, 10, 11, 12, 13, 14, 15, 16, 17, 18, 19, 20, 21, 22, 23, 24, 25, 26, 27, 28, 29, 30, 31, 32, 33, 34, 35, 39, 40, 41, 47, 37, 43, 38, 45, 42, 44, 36, 46, 48]
def fld1 : List Str := ["payoff", "payoff", "count", "name"]
def fldM : List (List Str) := [["line", "column"], ["unit", "store"], ["reason", "unit", "word"], ["side", "store", "harm"], ["unit", "store", "side", "count"], ["side", "store", "plan", "payoff", "answer"]]
/-- the fields of the i-th class -/
def flds (i : Nat) : List Str := if i < 32 then ["given"] else if i < 36 then [fld1.getD (i - 32) ""] else fldM.getD (i - 36) []
def Cl (K : PySem.W.Frag) (i : Nat) : Addr := He.ga K (cname i)
def PEc (K : PySem.W.Frag) : Addr := He.ga K "PactError"
abbrev sCell : Stmt := top 66
abbrev sBox : Stmt := top 67
abbrev sTake : Stmt := top 68
abbrev sPlace : Stmt := top 69
abbrev sByName : Stmt := top 70
abbrev sSev : Stmt := top 71
abbrev sSorts : Stmt := top 72
abbrev sKept : Stmt := top 73
abbrev sIs : Stmt := top 74
abbrev sThing : Stmt := top 75
abbrev sRight : Stmt := top 76
abbrev sRaised : Stmt := top 77
abbrev sCaught : Stmt := top 78
abbrev sLaw : Stmt := top 79
abbrev FnP (K : PySem.W.Frag) (x : Str) (st : Stmt) (f : Addr) (fd : FuncData) : Prop := FunD K x x (defArgs st) (defBody st) (defScope st) [] [] f fd

/-! ### what the top has left -/
structure Txt (K : PySem.W.Frag) (mg : Str → Option Value) : Prop where
  G : KG K
  sd : SysD K
  ec : ∀ i, i < 45 → EC K (Cl K i)
  gc : ∀ i, i < 45 → mg (cname i) = some (.ref (Cl K i))
  kit : ∀ i j, i < 45 → j < 45 → PySem.W.kitOne K (.ref (Cl K i)) (.ref (Cl K j)) = some (decide (i = j))
  kitP : ∀ i, i < 45 → PySem.W.kitOne K (.ref (Cl K i)) (.ref (PEc K)) = some true
  kitV : ∀ i, i < 45 → PySem.W.kitOne K (.ref (Cl K i)) (.type "ValueError") = some true
  gP : mg "PactError" = some (.ref (PEc K))
  nof : ∀ i, i < 42 → ∀ f ∈ flds i, PySem.W.findIn K (.ref (Cl K i)) f = some none
  fisi : mg "isinstance" = none
  flen : mg "len" = none
  fran : mg "range" = none
  frep : mg "repr" = none
  fabs : mg "abs" = none
  fint : mg "int" = none
  fsum : mg "sum" = none
  fdic : mg "dict" = none
  fmax : mg "max" = none
  fmin : mg "min" = none
  fval : mg "ValueError" = none
  bare : ∀ i, 42 ≤ i → i < 45 → PySem.W.excIn K (Cl K i) [.type "ValueError", .type "Exception", .type "BaseException", .type "object"] "ValueError.__new__" = true
  exmP : ∀ i, i < 45 → PySem.W.exmOne K (.ref (Cl K i)) (.ref (PEc K)) = some true
  exm : ∀ i j, i < 45 → j < 45 → PySem.W.exmOne K (.ref (Cl K i)) (.ref (Cl K j)) = some (decide (i = j))

/-! ### steps that come often -/
theorem PE.imp {X : Cx} {e : Expr} {t t' : TE} (h : PE X e t) (i : ∀ σ H Q, t' σ H Q → t σ H Q) : PE X e t' := ⟨fun pins s σ H Q I q => h.run pins s σ H Q I (i σ H Q q)⟩
theorem PA.imp {X : Cx} {e : List Expr} {t t' : TA} (h : PA X e t) (i : ∀ σ H Q, t' σ H Q → t σ H Q) : PA X e t' := ⟨fun pos pins s σ H Q I q => h.run pos pins s σ H Q I (i σ H Q q)⟩
theorem PS.imp {X : Cx} {e : Stmt} {t t' : TS} (h : PS X e t) (i : ∀ D σ H, t' D σ H → t D σ H) : PS X e t' := ⟨fun pins s σ H D I q => h.run pins s σ H D I (i D σ H q)⟩
theorem PSs.imp {X : Cx} {e : List Stmt} {t t' : TS} (h : PSs X e t) (i : ∀ D σ H, t' D σ H → t D σ H) : PSs X e t' := ⟨fun pins s σ H D I q => h.run pins s σ H D I (i D σ H q)⟩
theorem same_new {H : Hp} {p : Addr} {o : HO} (n : H p = none) : Same H (upd H p o) := fun b u e => by
  rw [upd_ne (ne_of_none e n)]
  exact e
theorem small {n : Nat} (h : n ≤ 1000) : n ≤ sizeLine := Nat.le_of_lt (small1000 h)

/-- [..] as a new list, told by what stands behind it -/
def tL (t : TA) : TE := fun σ H Q => t σ H fun ys H1 => ys.length ≤ 1000 ∧ ∀ p H', Same H1 H' → H1 p = none → H' p = some (.lst ys) → Q (.ref p) H'
theorem pe_L {X : Cx} {es : List Expr} {t : TA} {pos : Pos} (h : PA X es t) : PE X (.List es pos) (tL t) := by
  constructor
  intro pins s σ H Q I hq
  refine wpAny_List_spliced (thn (h.run pos pins s σ H _ I hq) ?_)
  rintro us s1 ⟨xs, H1, I1, r, z, q⟩
  have fr : H1 s1.heap.objs.size = none := I1.hok.fresh (Nat.le_refl _)
  refine ⟨by rw [← r.length]; exact small z, .ref s1.heap.objs.size, upd H1 s1.heap.objs.size (.lst xs), ?_, rfl, q _ _ (same_new fr) fr upd_same⟩
  exact I1.laid (t' := s1.toks) (fun b u e => Heap.get?_push_of_some _ e) (Nat.le_refl _) ⟨small z, us, 0, r, Heap.get?_push_size _ rfl⟩
/-- found + [..]: what stands behind it -/
theorem cat_go {a p : Addr} {xs ys : List V} {H : Hp} {Q : VK} (ha : H a = some (.lst xs)) (hp : H p = some (.lst ys)) (l : xs.length + ys.length ≤ 1000) (h : ∀ q H', Same H H' → H' q = some (.lst (xs ++ ys)) → Q (.ref q) H') : rCat (.ref a) (.ref p) H Q :=
  ⟨a, p, xs, ys, rfl, rfl, ha, hp, small l, fun q n => h q _ (same_new n) upd_same⟩

/-! ### isinstance, one class after another -/
def tIs (X : Cx) (e : Addr) (i : Nat) (js : List Nat) : TA := fun σ H Q => σ[0]? = some (some (.ref e)) ∧ i < 45 ∧ IsE X e (Cl X.K i) H ∧ Q (js.map fun j => .bl (decide (i = j))) H
theorem pa_is0 {X : Cx} {e : Addr} {i : Nat} : PA X [] (tIs X e i []) := PA.imp pa_nil fun _ _ _ q => q.2.2.2
theorem pe_is {X : Cx} (T : Txt X.K X.mg) {e : Addr} {i : Nat} (j : Nat) {x : Str} {p1 p2 p3 pos : Pos} (hN : X.N[0]? = some ("e" : Str)) (hv : Vis X.env.scope "e") (hg : Gl X "isinstance") (hx : Gl X x) (hj : j < 45) (ex : x = cname j) (nd : (x == ("__debug__" : Str)) = false) :
    PE X (.Call (.Name "isinstance" p1) [.Name "e" p2, .Name x p3] [] pos) (fun σ H Q => σ[0]? = some (some (.ref e)) ∧ i < 45 ∧ IsE X e (Cl X.K i) H ∧ Q (.bl (decide (i = j))) H) := by
  refine PE.imp (pe_callB (call_is T.G) hg T.fisi (by decide +kernel) (pa_cons (pe_var hN hv) (pa_cons (pe_glob (v := .ref (Cl X.K j)) hx (by rw [ex]; exact T.gc j hj) rfl nd) pa_nil))) ?_
  rintro σ H Q ⟨h0, hi, hI, q⟩
  exact ⟨_, h0, e, Cl X.K i, _, _, _, rfl, fun u h => h, T.ec i hi, hI, T.kit i j hi hj, q⟩
theorem pa_is {X : Cx} {e : Addr} {i j : Nat} {js : List Nat} {x : Expr} {es : List Expr} (h : PE X x (fun σ H Q => σ[0]? = some (some (.ref e)) ∧ i < 45 ∧ IsE X e (Cl X.K i) H ∧ Q (.bl (decide (i = j))) H)) (r : PA X es (tIs X e i js))
    (hs : starEach (x :: es) X.env = (false, eval x X.env) :: starEach es X.env := by rfl) : PA X (x :: es) (tIs X e i (j :: js)) :=
  PA.imp (pa_cons h r hs) fun _ _ _ q => ⟨q.1, q.2.1, q.2.2.1, q.1, q.2.1, q.2.2.1, q.2.2.2⟩

/-! ### errors, one class after another, each told the same thing -/
def ErsAt (H : Hp) (v : V) : List Addr → List (Addr × Str) → Prop := Paired fun e c => Er H e c.1 [(c.2, v)]
theorem ErsAt.same {H H' : Hp} {v : V} (s : Same H H') {es : List Addr} {cs : List (Addr × Str)} (h : ErsAt H v es cs) : ErsAt H' v es cs := Paired.mapP h fun _ _ x => x.same s
def tEr1 (v : V) (i : Nat) (c : Addr × Str) : TE := fun σ H Q => σ[i]? = some (some v) ∧ ∀ e H', Same H H' → Er H' e c.1 [(c.2, v)] → Q (.ref e) H'
def tErs (v : V) (i : Nat) (cs : List (Addr × Str)) : TA := fun σ H Q => σ[i]? = some (some v) ∧ ∀ es H', Same H H' → ErsAt H' v es cs → Q (es.map V.ref) H'
theorem pa_er0 {X : Cx} {v : V} {i : Nat} : PA X [] (tErs v i []) := PA.imp pa_nil fun _ H _ q => q.2 [] H (Same.refl _) .nil
theorem pa_er {X : Cx} {v : V} {i : Nat} {c : Addr × Str} {cs : List (Addr × Str)} {x : Expr} {es : List Expr} (h : PE X x (tEr1 v i c)) (r : PA X es (tErs v i cs)) (hs : starEach (x :: es) X.env = (false, eval x X.env) :: starEach es X.env := by rfl) : PA X (x :: es) (tErs v i (c :: cs)) :=
  PA.imp (pa_cons h r hs) fun _ _ _ q => ⟨q.1, fun e H1 s1 e1 => ⟨q.1, fun es H2 s2 e2 => q.2 (e :: es) H2 (s1.trans s2) (.cons (e1.same s2) e2)⟩⟩
/-- what is known of the makers of the first 36 classes -/
structure Mk1 (P : Program) (w : World) (K : PySem.W.Frag) (mg : Str → Option Value) (b0 : Heap) (C : Addr) (f : Str) : Prop where
  m : ∃ fI fd, MkE P w K mg b0 1 C fI fd [f] ∧ KB fd [f] 1 [] [0] ∧ KB fd [f] 0 [f] [0]
theorem pe_er {X : Cx} {v : V} {i : Nat} {C : Addr} {f x y : Str} {p p2 pos : Pos} (M : Mk1 X.prog X.w X.K X.mg X.base C f) (hr : Room 2 X.A) (hg : Gl X x) (hm : X.mg x = some (.ref C)) (ha : PE X (.Name y p2) (tVar i)) (nd : (x == ("__debug__" : Str)) = false)
    (a3 : starEach [.Name y p2] X.env = [(false, eval (.Name y p2) X.env)]) : PE X (.Call (.Name x p) [.Name y p2] [] pos) (tEr1 v i (C, f)) := by
  obtain ⟨fI, fd, m, k1, k2⟩ := M.m
  refine PE.imp (pe_mkE1 m hr hg hm k1 (by decide) (pa_cons ha pa_nil a3) nd a3 rfl) ?_
  rintro σ H Q ⟨h0, q⟩
  exact ⟨v, h0, rfl, rfl, rfl, fun e H3 _ s er => q e H3 s er⟩
theorem pe_erK {X : Cx} {v : V} {i : Nat} {C : Addr} {f x : Str} {y : Expr} {p kp pos : Pos} (M : Mk1 X.prog X.w X.K X.mg X.base C f) (hr : Room 2 X.A) (hg : Gl X x) (hm : X.mg x = some (.ref C)) (ha : PE X y (tVar i)) (nd : (x == ("__debug__" : Str)) = false)
    : PE X (.Call (.Name x p) [] [⟨some f, y, kp⟩] pos) (tEr1 v i (C, f)) := by
  obtain ⟨fI, fd, m, k1, k2⟩ := M.m
  refine PE.imp (pe_mkE2 (ks := [f]) m hr hg hm k2 (pk_cons ha pk_nil) rfl rfl nd rfl) ?_
  rintro σ H Q ⟨h0, q⟩
  exact ⟨v, h0, rfl, rfl, rfl, fun e H3 _ s er => q e H3 s er⟩
end Kz

namespace Kz
open PySem PySem.Spec PyProof.Rows L2
def clsBody (s : Stmt) : List Stmt := match s with
  | .ClassDef _ _ _ b _ _ _ _ _ _ _ => b
  | _ => []
def mth (s : Stmt) (j : Nat) : Stmt := (clsBody s).getD j (.Pass ⟨0, 0, 0, 0⟩)
def ini (i : Nat) : Stmt := mth (top (ctops.getD i 0)) 0
def takenV : List Str := ["and", "by", "call", "choose", "draw", "else", "if", "name", "net", "not", "or", "parties", "set", "spin", "unit", "while", "yes"]
abbrev sRaI : Stmt := mth (top 54) 0
abbrev sRaE : Stmt := mth (top 54) 1
abbrev sSpI : Stmt := mth (top 60) 0
abbrev sSpE : Stmt := mth (top 60) 3
/-! ### the head: what the top has left, looked at -/
def frees : List Str := ["isinstance", "len", "range", "repr", "abs", "int", "sum", "dict", "max", "min", "ValueError", "bool", "tuple", "list", "str", "all"]
def dfn (x : Str) (i : Nat) : He.DefD := ⟨(x, none), x, x, defArgs (top i), defBody (top i), defScope (top i), [], []⟩
def dme (c m : Str) (s : Stmt) (ds : List He.Dv) : He.DefD := ⟨(c, some m), m, c ++ "." ++ m, defArgs s, defBody s, defScope s, ds, []⟩
def fnA : List He.DefD := [dfn "is_whole" 50, dfn "is_within" 51, dfn "is_tuple_of" 52, dfn "is_word" 61, dfn "is_name_with_size" 62, dfn "is_names" 63, dfn "stores_by" 64, dfn "_law_cell" 66, dfn "_law_box" 67, dfn "_law_take" 68, dfn "_law_by_place" 69, dfn "_law_by_name" 70, dfn "_law_several" 71, dfn "_law_sorts" 72, dfn "_law_kept" 73, dfn "_law_is" 74, dfn "_law_thing" 75, dfn "_law_all_right" 76, dfn "_law_raised" 77, dfn "_law_caught" 78, dfn "law" 79]
def fnB : List He.DefD := [dme "Ratio" "__init__" sRaI [.int 1], dme "Ratio" "__eq__" sRaE [], dme "Space" "__init__" sSpI [], dme "Space" "__eq__" sSpE []]
def fnC : List He.DefD := (List.range 42).map fun i => ⟨(cname i, some "__init__"), "__init__", cname i ++ ".__init__", defArgs (ini i), defBody (ini i), defScope (ini i), [], []⟩
def fnX : List He.DefD := fnA ++ fnB ++ fnC
def mroX (K : PySem.W.Frag) (C : Addr) : List Value := [.ref C, .ref (PEc K), .type "ValueError", .type "Exception", .type "BaseException", .type "object"]
def oexB (K : PySem.W.Frag) (C : Addr) : Bool := match K.lookup C with
  | none => false
  | some o => decide (o.cls = .type "type") && ((match o.data with
    | .cls cd => decide (cd.mro = mroX K C) && (cd.hasDict && !cd.hasDel)
    | _ => false) && (match o.slots.toList with
    | [_, _, _, _, some (.builtin n), _] => decide (n = "ValueError.__new__")
    | _ => false))
def pecB (K : PySem.W.Frag) : Bool := match K.lookup (PEc K) with
  | none => false
  | some o => decide (o.cls = .type "type") && (match o.data with
    | .cls cd => decide (cd.mro = [.ref (PEc K), .type "ValueError", .type "Exception", .type "BaseException", .type "object"])
    | _ => false)
def ecB (K : PySem.W.Frag) (C : Addr) : Bool := oexB K C && (He.eqO (PySem.W.findIn K (.ref C) "__setattr__") (some (some (.builtin "object.__setattr__"))) &&
  (PySem.W.keepIn K (.ref C) && (He.eqO (PySem.W.findIn K (.ref C) "__getattribute__") (some (some (.builtin "BaseException.__getattribute__"))) && (He.eqO (PySem.W.findIn K (.ref C) "__getattr__") (some none) &&
  He.eqO (PySem.W.findIn K (.ref C) "__class__") (some (some (.builtin "object.__class__")))))))
def sdB (K : PySem.W.Frag) : Bool := match K.lookup sysModules with
  | some o => decide (o.cls = .type "dict")
  | none => false
def cl1B (K : PySem.W.Frag) (i : Nat) : Bool := (He.Fa.glo (cname i)).ok K && ecB K (Cl K i)
def iniB (K : PySem.W.Frag) (i : Nat) : Bool := He.eqO (PySem.W.findIn K (.ref (Cl K i)) "__init__") (some (some (.ref (He.ma K (Cl K i) "__init__")))) && (decide (PySem.W.typeIn K (.ref (He.ma K (Cl K i) "__init__")) = some (.type "function")) && (flds i).all fun f => He.eqO (PySem.W.findIn K (.ref (Cl K i)) f) (some none))
def bareB (K : PySem.W.Frag) (i : Nat) : Bool := PySem.W.excIn K (Cl K i) [.type "ValueError", .type "Exception", .type "BaseException", .type "object"] "ValueError.__new__"
def kgB (K : PySem.W.Frag) : Bool := decide (PySem.W.specialIn K (.builtin "object.__class__") "__get__" = some (some (.builtin "getset_descriptor.__get__"))) && decide (PySem.W.takesIn K (.builtin "object.__class__") = some true)
def plB (K : PySem.W.Frag) (x : Str) (fs : List Str) : Bool := (He.Fa.glo x).ok K && ((He.Fa.cls x).ok K && ((He.Fa.mkr x).ok K && ((fs.all fun f => (He.Fa.noat x f).ok K) && (He.eqO (PySem.W.findIn K (.ref (He.ga K x)) "__class__") (some (some (.builtin "object.__class__"))) &&
  (decide (PySem.W.mroIn K (He.ga K x) (.type "object") = some true) && (decide (PySem.W.kitOne K (.ref (He.ga K x)) (.ref (He.ga K x)) = some true) && (He.eqO (PySem.W.findIn K (.ref (He.ga K x)) "__eq__") (some (some (.ref (He.ma K (He.ga K x) "__eq__")))) && PySem.W.isFn K (.ref (He.ma K (He.ga K x) "__eq__")))))))))
def chkA (K : PySem.W.Frag) : Bool := sdB K && (kgB K && ((frees.all fun x => (He.Fa.free x).ok K) && ((He.Fa.glo "PactError").ok K && ((fnA.all fun d => (He.Fa.glo d.at_.1).ok K) && ((List.range 42).all (iniB K) && ([42, 43, 44].all (bareB K)))))))
def chkB (K : PySem.W.Frag) : Bool := (He.Fa.int "LONGEST" 8).ok K && ((He.Fa.int "MOST_STORES" 6).ok K && ((He.Fa.glo "TAKEN").ok K && ((He.tupB K "TAKEN" (takenV.map He.Dv.str) &&
  (He.eqO (PySem.W.nsIn K mainGlobals "gcd") (some (some (.builtin "math.gcd"))) && (plB K "Space" ["names", "_sizes", "never"] && plB K "Ratio" ["top", "bottom"]))))))
def chkC (K : PySem.W.Frag) : Bool := (List.range 45).all (cl1B K) && (pecB K && decide ((PEc K :: (List.range 45).map (Cl K)).Nodup))
def chk (K : PySem.W.Frag) : Bool := chkA K && (chkB K && chkC K)
/-- the refs of a dict's values; a class's names; a def's code and defaults -/
def valsG (g : Addr → Option Obj) (a : Addr) : List Addr := match g a with
  | some ⟨_, _, .dict es _, _⟩ => es.toList.flatMap fun e => He.refV e.val
  | _ => []
def nsG (g : Addr → Option Obj) (a : Addr) : List Addr := match g a with
  | some ⟨_, _, .cls cd, _⟩ => [cd.ns]
  | _ => []
def codeG (g : Addr → Option Obj) (a : Addr) : List Addr := match g a with
  | some ⟨_, _, .func fd, _⟩ => He.refV fd.code ++ He.refV fd.defaults
  | _ => []
def listG (g : Addr → Option Obj) : List Addr :=
  (fun G1 => (fun N => (fun M => mainGlobals :: sysModules :: (G1 ++ (N ++ (M ++ (G1.flatMap (codeG g) ++ M.flatMap (codeG g)))))) (N.flatMap (valsG g))) (G1.flatMap (nsG g))) (valsG g mainGlobals)
def KofG (g : Addr → Option Obj) : PySem.W.Frag := He.frG g (listG g)
def obK (K : PySem.W.Frag) : He.AlD := (chk K && fnX.all fun d => d.ok K, fnX.map fun d => He.fnW K d.at_)
def SaysX (K : PySem.W.Frag) : Prop := obK K = He.valD fnX
def hookX : PySem.W.Hook where
  α := He.AlD
  obs := fun s => obK (KofG s.heap.get?)
  val := fun _ => He.valD fnX
  says := fun _ h => ∃ K : PySem.W.Frag, K.In h ∧ SaysX K
  of := fun _ _ e => ⟨_, He.frG_in, e⟩
  keeps := fun _ _ _ ⟨K, hK, c⟩ k => ⟨K, PySem.W.Frag.In.keeps hK k, c⟩
abbrev RW : PySem.W.OpenRow := PySem.W.OpenLaw.row PySem.Challenge.rw_evenpatch_k00_errors
def obT (s : PySem.W.SharedT) : He.AlD := obK (KofG (HandSHeadRun.getT s))
theorem obT_eq (s : PySem.W.SharedT) : obT s = hookX.obs s.abs := by
  have e : HandSHeadRun.getT s = s.abs.heap.get? := funext (HandSHeadRun.getT_eq s)
  show obK (KofG (HandSHeadRun.getT s)) = obK (KofG s.abs.heap.get?)
  rw [e]
def nm0 : List Str := ["_wall", "__name__", "PactError", "InvalidNumber", "InvalidLots", "InvalidLot", "InvalidPayoff", "InvalidBlend", "InvalidNames", "InvalidStore", "InvalidValues", "InvalidName", "InvalidParty", "InvalidSide", "InvalidText", "InvalidSystem", "InvalidUnit", "InvalidBody"]
def nm1 : List Str := ["InvalidSteps", "InvalidAnswer", "InvalidPart", "InvalidView", "InvalidFamilies", "InvalidRow", "InvalidPlan", "InvalidOutcomes", "InvalidPath", "InvalidCode", "InvalidLines", "InvalidEdition", "InvalidPromised", "InvalidPrice", "InvalidPurse", "InvalidSession", "InvalidRecord", "ByZero"]
def nm2 : List Str := ["NoSystem", "NotFair", "Outside", "Apart", "TooMany", "TooRich", "TooGreat", "NotLet", "TooDear", "NotAsked", "NoThing", "NothingToUndo", "is_whole", "is_within", "is_tuple_of", "Ratio", "as_ratio", "LETTERS"]
def nm3 : List Str := ["LONGEST", "MOST_STORES", "TAKEN", "Space", "is_word", "is_name_with_size", "is_names", "stores_by", "_law_cell", "_law_box", "_law_take", "_law_by_place", "_law_by_name", "_law_several", "_law_sorts", "_law_kept", "_law_is", "_law_thing"]
def nm4 : List Str := ["_law_all_right", "_law_raised", "_law_caught"]
def loose : List Str := nm0 ++ nm1 ++ nm2 ++ nm3 ++ nm4
theorem runO (w : World) : HandSHeadRun.RunEqI RW (PySem.W.view RW.prog [0, 79]) PySem.W.Hook.none (fun _ => ()) 20000 loose w := by
  unfold HandSHeadRun.RunEqI
  kernel_rfl
theorem runA (w : World) : (HandSHeadRun.wholeF (fun p => HandSHeadRun.stepQ (HandSHeadRun.denQ HandSHeadRun.tabQ) p w) HandSHeadRun.fenceQ 20000 RW.prog).map (fun x => chkA (KofG (HandSHeadRun.getT x.2))) = some (true) := by
  kernel_rfl
theorem runB (w : World) : (HandSHeadRun.wholeF (fun p => HandSHeadRun.stepQ (HandSHeadRun.denQ HandSHeadRun.tabQ) p w) HandSHeadRun.fenceQ 20000 RW.prog).map (fun x => chkB (KofG (HandSHeadRun.getT x.2))) = some (true) := by
  kernel_rfl
theorem runC (w : World) : (HandSHeadRun.wholeF (fun p => HandSHeadRun.stepQ (HandSHeadRun.denQ HandSHeadRun.tabQ) p w) HandSHeadRun.fenceQ 20000 RW.prog).map (fun x => chkC (KofG (HandSHeadRun.getT x.2))) = some (true) := by
  kernel_rfl
theorem runD (w : World) : (HandSHeadRun.wholeF (fun p => HandSHeadRun.stepQ (HandSHeadRun.denQ HandSHeadRun.tabQ) p w) HandSHeadRun.fenceQ 20000 RW.prog).map (fun x => fnX.all fun d => d.ok (KofG (HandSHeadRun.getT x.2))) = some (true) := by
  kernel_rfl
theorem runE (w : World) : (HandSHeadRun.wholeF (fun p => HandSHeadRun.stepQ (HandSHeadRun.denQ HandSHeadRun.tabQ) p w) HandSHeadRun.fenceQ 20000 RW.prog).map (fun x => fnX.map fun d => He.fnW (KofG (HandSHeadRun.getT x.2)) d.at_) = some (fnX.map He.DefD.val) := by
  kernel_rfl
end Kz

namespace Kz
open PySem PySem.Spec PyProof.Rows L2

theorem Paired.app {α β : Type} {R : α → β → Prop} : ∀ {a a' : List α} {b b' : List β}, Paired R a b → Paired R a' b' → Paired R (a ++ a') (b ++ b')
  | _, _, _, _, .nil, t => t
  | _, _, _, _, .cons h r, t => .cons h (Paired.app r t)
/-- an error of the class at C, with fields or without -/
def ErC (H : Hp) (e C : Addr) : Prop := Er0 H e C ∨ ∃ fs, Er H e C fs
theorem ErC.same {H H' : Hp} {e C : Addr} (x : ErC H e C) (s : Same H H') : ErC H' e C := x.imp (fun z => z.same s) fun ⟨fs, z⟩ => ⟨fs, z.same s⟩
theorem ErC.isE {X : Cx} {H : Hp} {e C : Addr} (x : ErC H e C) : IsE X e C H := x.elim Er0.isE fun ⟨_, z⟩ => z.isE
def sorts45 (i : Nat) : List V := (List.range 45).map fun j => .bl (decide (i = j))
def fld (k : Nat) : Str := (flds k).headD ""
def cs36 (K : PySem.W.Frag) : List (Addr × Str) := (List.range 36).map fun k => (Cl K k, fld k)
def spSorts (K : PySem.W.Frag) : Sp := fun vs H Q _ => ∃ (e : Addr) (i : Nat), vs = [.ref e] ∧ i < 45 ∧ ErC H e (Cl K i) ∧ ∀ p H', Same H H' → H' p = some (.lst (sorts45 i)) → Q (.ref p) H'
def spPlace (K : PySem.W.Frag) : Sp := fun vs H Q _ => ∃ v : V, vs = [v] ∧ ∀ es p H', Same H H' → ErsAt H' v es (cs36 K) → H' p = some (.lst (es.map V.ref)) → Q (.ref p) H'
theorem scSorts : FnScope ["e", "found"] ["e"] (defScope sSorts) := ⟨rfl, rfl, rfl, by decide +kernel, rfl, by decide +kernel, by decide +kernel⟩
theorem scPlace : FnScope ["thing", "found"] ["thing"] (defScope sPlace) := ⟨rfl, rfl, rfl, by decide +kernel, rfl, by decide +kernel, by decide +kernel⟩
theorem scByName : FnScope ["thing", "found"] ["thing"] (defScope sByName) := ⟨rfl, rfl, rfl, by decide +kernel, rfl, by decide +kernel, by decide +kernel⟩
def t_sorts (X : Cx) (e : Addr) (i : Nat) : TS := tSeq (tAsg (tL (tIs X e i [0, 1, 2])) (gName 1)) (tSeq (tAsg (tOp rCat (tVar 1) (tL (tIs X e i [3, 4, 5]))) (gName 1)) (tSeq (tAsg (tOp rCat (tVar 1) (tL (tIs X e i [6, 7, 8]))) (gName 1)) (tSeq (tAsg (tOp rCat (tVar 1) (tL (tIs X e i [9, 10, 11]))) (gName 1)) (tSeq (tAsg (tOp rCat (tVar 1) (tL (tIs X e i [12, 13, 14]))) (gName 1)) (tSeq (tAsg (tOp rCat (tVar 1) (tL (tIs X e i [15, 16, 17]))) (gName 1)) (tSeq (tAsg (tOp rCat (tVar 1) (tL (tIs X e i [18, 19, 20]))) (gName 1)) (tSeq (tAsg (tOp rCat (tVar 1) (tL (tIs X e i [21, 22, 23]))) (gName 1)) (tSeq (tAsg (tOp rCat (tVar 1) (tL (tIs X e i [24, 25, 26]))) (gName 1)) (tSeq (tAsg (tOp rCat (tVar 1) (tL (tIs X e i [27, 28, 29]))) (gName 1)) (tSeq (tAsg (tOp rCat (tVar 1) (tL (tIs X e i [30, 31, 32]))) (gName 1)) (tSeq (tAsg (tOp rCat (tVar 1) (tL (tIs X e i [33, 34, 35, 36]))) (gName 1)) (tSeq (tAsg (tOp rCat (tVar 1) (tL (tIs X e i [37, 38, 39, 40]))) (gName 1)) (tRet (tOp rCat (tVar 1) (tL (tIs X e i [41, 42, 43, 44]))))))))))))))))
theorem rd_sorts (X : Cx) {e : Addr} {i : Nat} {H : Hp} {Q : VK} (hi : i < 45) (hI : ∀ H', Same H H' → IsE X e (Cl X.K i) H') (hQ : ∀ p H', Same H H' → H' p = some (.lst (sorts45 i)) → Q (.ref p) H') :
    t_sorts X e i { nx := fun _ H' => Q .non H', rt := Q } [some (.ref e), none] H := by
  refine ⟨rfl, hi, hI _ (Same.refl _), Nat.le_of_ble_eq_true rfl, fun p0 G0 s0 _ e0 => ?_⟩
  refine ⟨_, rfl, rfl, hi, hI _ s0, Nat.le_of_ble_eq_true rfl, fun q1 F1 r1 _ f1 => cat_go (r1 _ _ e0) f1 (Nat.le_of_ble_eq_true rfl) fun p1 G1 t1 e1 => ?_⟩
  have s1 := (s0.trans r1).trans t1
  refine ⟨_, rfl, rfl, hi, hI _ s1, Nat.le_of_ble_eq_true rfl, fun q2 F2 r2 _ f2 => cat_go (r2 _ _ e1) f2 (Nat.le_of_ble_eq_true rfl) fun p2 G2 t2 e2 => ?_⟩
  have s2 := (s1.trans r2).trans t2
  refine ⟨_, rfl, rfl, hi, hI _ s2, Nat.le_of_ble_eq_true rfl, fun q3 F3 r3 _ f3 => cat_go (r3 _ _ e2) f3 (Nat.le_of_ble_eq_true rfl) fun p3 G3 t3 e3 => ?_⟩
  have s3 := (s2.trans r3).trans t3
  refine ⟨_, rfl, rfl, hi, hI _ s3, Nat.le_of_ble_eq_true rfl, fun q4 F4 r4 _ f4 => cat_go (r4 _ _ e3) f4 (Nat.le_of_ble_eq_true rfl) fun p4 G4 t4 e4 => ?_⟩
  have s4 := (s3.trans r4).trans t4
  refine ⟨_, rfl, rfl, hi, hI _ s4, Nat.le_of_ble_eq_true rfl, fun q5 F5 r5 _ f5 => cat_go (r5 _ _ e4) f5 (Nat.le_of_ble_eq_true rfl) fun p5 G5 t5 e5 => ?_⟩
  have s5 := (s4.trans r5).trans t5
  refine ⟨_, rfl, rfl, hi, hI _ s5, Nat.le_of_ble_eq_true rfl, fun q6 F6 r6 _ f6 => cat_go (r6 _ _ e5) f6 (Nat.le_of_ble_eq_true rfl) fun p6 G6 t6 e6 => ?_⟩
  have s6 := (s5.trans r6).trans t6
  refine ⟨_, rfl, rfl, hi, hI _ s6, Nat.le_of_ble_eq_true rfl, fun q7 F7 r7 _ f7 => cat_go (r7 _ _ e6) f7 (Nat.le_of_ble_eq_true rfl) fun p7 G7 t7 e7 => ?_⟩
  have s7 := (s6.trans r7).trans t7
  refine ⟨_, rfl, rfl, hi, hI _ s7, Nat.le_of_ble_eq_true rfl, fun q8 F8 r8 _ f8 => cat_go (r8 _ _ e7) f8 (Nat.le_of_ble_eq_true rfl) fun p8 G8 t8 e8 => ?_⟩
  have s8 := (s7.trans r8).trans t8
  refine ⟨_, rfl, rfl, hi, hI _ s8, Nat.le_of_ble_eq_true rfl, fun q9 F9 r9 _ f9 => cat_go (r9 _ _ e8) f9 (Nat.le_of_ble_eq_true rfl) fun p9 G9 t9 e9 => ?_⟩
  have s9 := (s8.trans r9).trans t9
  refine ⟨_, rfl, rfl, hi, hI _ s9, Nat.le_of_ble_eq_true rfl, fun q10 F10 r10 _ f10 => cat_go (r10 _ _ e9) f10 (Nat.le_of_ble_eq_true rfl) fun p10 G10 t10 e10 => ?_⟩
  have s10 := (s9.trans r10).trans t10
  refine ⟨_, rfl, rfl, hi, hI _ s10, Nat.le_of_ble_eq_true rfl, fun q11 F11 r11 _ f11 => cat_go (r11 _ _ e10) f11 (Nat.le_of_ble_eq_true rfl) fun p11 G11 t11 e11 => ?_⟩
  have s11 := (s10.trans r11).trans t11
  refine ⟨_, rfl, rfl, hi, hI _ s11, Nat.le_of_ble_eq_true rfl, fun q12 F12 r12 _ f12 => cat_go (r12 _ _ e11) f12 (Nat.le_of_ble_eq_true rfl) fun p12 G12 t12 e12 => ?_⟩
  have s12 := (s11.trans r12).trans t12
  refine ⟨_, rfl, rfl, hi, hI _ s12, Nat.le_of_ble_eq_true rfl, fun q13 F13 r13 _ f13 => cat_go (r13 _ _ e12) f13 (Nat.le_of_ble_eq_true rfl) fun p13 G13 t13 e13 => ?_⟩
  have s13 := (s12.trans r13).trans t13
  exact hQ _ _ s13 e13
section
variable {P : Program} {w : World} {K : PySem.W.Frag} {mg : Str → Option Value} {b0 : Heap} {f : Addr} {fd : FuncData}
theorem ok_sorts (F : FnP K "_law_sorts" sSorts f fd) (T : Txt K mg) : FnOk P w K mg b0 CX0 1 f fd ["e"] (spSorts K) := by
  refine FunD.ok F scSorts (fun vs H Q E h => ?_) (fun cv A ou s H vs Q E hr h => ?_)
  · obtain ⟨e, i, rfl, _⟩ := h
    rfl
  obtain ⟨e, i, rfl, hi, he, hQ⟩ := h
  refine ⟨t_sorts (cxOf CX0 P w K mg b0 ["e", "found"] "_law_sorts" (defScope sSorts) f cv A ou s H E).nox e i, PSs.nox ?_, rd_sorts _ hi (fun H' s => (he.same s).isE) hQ⟩
  exact pss_cons (ps_set (i := 1) scSorts.nd rfl (Or.inl rfl) (pe_L (pa_is (pe_is T 0 rfl (Or.inl rfl) rfl rfl (by decide) rfl (by decide)) (pa_is (pe_is T 1 rfl (Or.inl rfl) rfl rfl (by decide) rfl (by decide)) (pa_is (pe_is T 2 rfl (Or.inl rfl) rfl rfl (by decide) rfl (by decide)) pa_is0)))))
      (pss_cons (ps_set (i := 1) scSorts.nd rfl (Or.inl rfl) (pe_op op_cat (pv 1) (pe_L (pa_is (pe_is T 3 rfl (Or.inl rfl) rfl rfl (by decide) rfl (by decide)) (pa_is (pe_is T 4 rfl (Or.inl rfl) rfl rfl (by decide) rfl (by decide)) (pa_is (pe_is T 5 rfl (Or.inl rfl) rfl rfl (by decide) rfl (by decide)) pa_is0))))))
      (pss_cons (ps_set (i := 1) scSorts.nd rfl (Or.inl rfl) (pe_op op_cat (pv 1) (pe_L (pa_is (pe_is T 6 rfl (Or.inl rfl) rfl rfl (by decide) rfl (by decide)) (pa_is (pe_is T 7 rfl (Or.inl rfl) rfl rfl (by decide) rfl (by decide)) (pa_is (pe_is T 8 rfl (Or.inl rfl) rfl rfl (by decide) rfl (by decide)) pa_is0))))))
      (pss_cons (ps_set (i := 1) scSorts.nd rfl (Or.inl rfl) (pe_op op_cat (pv 1) (pe_L (pa_is (pe_is T 9 rfl (Or.inl rfl) rfl rfl (by decide) rfl (by decide)) (pa_is (pe_is T 10 rfl (Or.inl rfl) rfl rfl (by decide) rfl (by decide)) (pa_is (pe_is T 11 rfl (Or.inl rfl) rfl rfl (by decide) rfl (by decide)) pa_is0))))))
      (pss_cons (ps_set (i := 1) scSorts.nd rfl (Or.inl rfl) (pe_op op_cat (pv 1) (pe_L (pa_is (pe_is T 12 rfl (Or.inl rfl) rfl rfl (by decide) rfl (by decide)) (pa_is (pe_is T 13 rfl (Or.inl rfl) rfl rfl (by decide) rfl (by decide)) (pa_is (pe_is T 14 rfl (Or.inl rfl) rfl rfl (by decide) rfl (by decide)) pa_is0))))))
      (pss_cons (ps_set (i := 1) scSorts.nd rfl (Or.inl rfl) (pe_op op_cat (pv 1) (pe_L (pa_is (pe_is T 15 rfl (Or.inl rfl) rfl rfl (by decide) rfl (by decide)) (pa_is (pe_is T 16 rfl (Or.inl rfl) rfl rfl (by decide) rfl (by decide)) (pa_is (pe_is T 17 rfl (Or.inl rfl) rfl rfl (by decide) rfl (by decide)) pa_is0))))))
      (pss_cons (ps_set (i := 1) scSorts.nd rfl (Or.inl rfl) (pe_op op_cat (pv 1) (pe_L (pa_is (pe_is T 18 rfl (Or.inl rfl) rfl rfl (by decide) rfl (by decide)) (pa_is (pe_is T 19 rfl (Or.inl rfl) rfl rfl (by decide) rfl (by decide)) (pa_is (pe_is T 20 rfl (Or.inl rfl) rfl rfl (by decide) rfl (by decide)) pa_is0))))))
      (pss_cons (ps_set (i := 1) scSorts.nd rfl (Or.inl rfl) (pe_op op_cat (pv 1) (pe_L (pa_is (pe_is T 21 rfl (Or.inl rfl) rfl rfl (by decide) rfl (by decide)) (pa_is (pe_is T 22 rfl (Or.inl rfl) rfl rfl (by decide) rfl (by decide)) (pa_is (pe_is T 23 rfl (Or.inl rfl) rfl rfl (by decide) rfl (by decide)) pa_is0))))))
      (pss_cons (ps_set (i := 1) scSorts.nd rfl (Or.inl rfl) (pe_op op_cat (pv 1) (pe_L (pa_is (pe_is T 24 rfl (Or.inl rfl) rfl rfl (by decide) rfl (by decide)) (pa_is (pe_is T 25 rfl (Or.inl rfl) rfl rfl (by decide) rfl (by decide)) (pa_is (pe_is T 26 rfl (Or.inl rfl) rfl rfl (by decide) rfl (by decide)) pa_is0))))))
      (pss_cons (ps_set (i := 1) scSorts.nd rfl (Or.inl rfl) (pe_op op_cat (pv 1) (pe_L (pa_is (pe_is T 27 rfl (Or.inl rfl) rfl rfl (by decide) rfl (by decide)) (pa_is (pe_is T 28 rfl (Or.inl rfl) rfl rfl (by decide) rfl (by decide)) (pa_is (pe_is T 29 rfl (Or.inl rfl) rfl rfl (by decide) rfl (by decide)) pa_is0))))))
      (pss_cons (ps_set (i := 1) scSorts.nd rfl (Or.inl rfl) (pe_op op_cat (pv 1) (pe_L (pa_is (pe_is T 30 rfl (Or.inl rfl) rfl rfl (by decide) rfl (by decide)) (pa_is (pe_is T 31 rfl (Or.inl rfl) rfl rfl (by decide) rfl (by decide)) (pa_is (pe_is T 32 rfl (Or.inl rfl) rfl rfl (by decide) rfl (by decide)) pa_is0))))))
      (pss_cons (ps_set (i := 1) scSorts.nd rfl (Or.inl rfl) (pe_op op_cat (pv 1) (pe_L (pa_is (pe_is T 33 rfl (Or.inl rfl) rfl rfl (by decide) rfl (by decide)) (pa_is (pe_is T 34 rfl (Or.inl rfl) rfl rfl (by decide) rfl (by decide)) (pa_is (pe_is T 35 rfl (Or.inl rfl) rfl rfl (by decide) rfl (by decide)) (pa_is (pe_is T 36 rfl (Or.inl rfl) rfl rfl (by decide) rfl (by decide)) pa_is0)))))))
      (pss_cons (ps_set (i := 1) scSorts.nd rfl (Or.inl rfl) (pe_op op_cat (pv 1) (pe_L (pa_is (pe_is T 37 rfl (Or.inl rfl) rfl rfl (by decide) rfl (by decide)) (pa_is (pe_is T 38 rfl (Or.inl rfl) rfl rfl (by decide) rfl (by decide)) (pa_is (pe_is T 39 rfl (Or.inl rfl) rfl rfl (by decide) rfl (by decide)) (pa_is (pe_is T 40 rfl (Or.inl rfl) rfl rfl (by decide) rfl (by decide)) pa_is0)))))))
      (pss_one (ps_ret (pe_op op_cat (pv 1) (pe_L (pa_is (pe_is T 41 rfl (Or.inl rfl) rfl rfl (by decide) rfl (by decide)) (pa_is (pe_is T 42 rfl (Or.inl rfl) rfl rfl (by decide) rfl (by decide)) (pa_is (pe_is T 43 rfl (Or.inl rfl) rfl rfl (by decide) rfl (by decide)) (pa_is (pe_is T 44 rfl (Or.inl rfl) rfl rfl (by decide) rfl (by decide)) pa_is0))))))))))))))))))))
def t_Place (K : PySem.W.Frag) (v : V) : TS := tSeq (tAsg (tL (tErs v 0 [(Cl K 0, fld 0), (Cl K 1, fld 1), (Cl K 2, fld 2), (Cl K 3, fld 3), (Cl K 4, fld 4)])) (gName 1)) (tSeq (tAsg (tOp rCat (tVar 1) (tL (tErs v 0 [(Cl K 5, fld 5), (Cl K 6, fld 6), (Cl K 7, fld 7), (Cl K 8, fld 8)]))) (gName 1)) (tSeq (tAsg (tOp rCat (tVar 1) (tL (tErs v 0 [(Cl K 9, fld 9), (Cl K 10, fld 10), (Cl K 11, fld 11), (Cl K 12, fld 12)]))) (gName 1)) (tSeq (tAsg (tOp rCat (tVar 1) (tL (tErs v 0 [(Cl K 13, fld 13), (Cl K 14, fld 14), (Cl K 15, fld 15), (Cl K 16, fld 16)]))) (gName 1)) (tSeq (tAsg (tOp rCat (tVar 1) (tL (tErs v 0 [(Cl K 17, fld 17), (Cl K 18, fld 18), (Cl K 19, fld 19), (Cl K 20, fld 20)]))) (gName 1)) (tSeq (tAsg (tOp rCat (tVar 1) (tL (tErs v 0 [(Cl K 21, fld 21), (Cl K 22, fld 22), (Cl K 23, fld 23), (Cl K 24, fld 24)]))) (gName 1)) (tSeq (tAsg (tOp rCat (tVar 1) (tL (tErs v 0 [(Cl K 25, fld 25), (Cl K 26, fld 26), (Cl K 27, fld 27), (Cl K 28, fld 28)]))) (gName 1)) (tSeq (tAsg (tOp rCat (tVar 1) (tL (tErs v 0 [(Cl K 29, fld 29), (Cl K 30, fld 30), (Cl K 31, fld 31)]))) (gName 1)) (tRet (tOp rCat (tVar 1) (tL (tErs v 0 [(Cl K 32, fld 32), (Cl K 33, fld 33), (Cl K 34, fld 34), (Cl K 35, fld 35)])))))))))))
theorem rd_Place (K : PySem.W.Frag) {v : V} {H : Hp} {Q : VK} (hQ : ∀ es p H', Same H H' → ErsAt H' v es (cs36 K) → H' p = some (.lst (es.map V.ref)) → Q (.ref p) H') :
    t_Place K v { nx := fun _ H' => Q .non H', rt := Q } [some v, none] H := by
  refine ⟨rfl, fun x0 B0 b0 y0 => ⟨by rw [List.length_map, Paired.length y0]; exact Nat.le_of_ble_eq_true rfl, fun p0 G0 u0 _ e0 => ?_⟩⟩
  have s0 := b0.trans u0
  have z0 := y0.same u0
  have n0 : x0.length = 5 := Paired.length y0
  refine ⟨_, rfl, rfl, fun x1 B1 b1 y1 => ⟨by rw [List.length_map, Paired.length y1]; exact Nat.le_of_ble_eq_true rfl, fun q1 F1 r1 _ f1 => cat_go (r1 _ _ (b1 _ _ e0)) f1 ?_ fun p1 G1 t1 e1 => ?_⟩⟩
  · rw [List.length_map, List.length_map, n0, Paired.length y1]
    exact Nat.le_of_ble_eq_true rfl
  have s1 := ((s0.trans b1).trans r1).trans t1
  have z1 := Paired.app (ErsAt.same ((b1.trans r1).trans t1) z0) (ErsAt.same (r1.trans t1) y1)
  have n1 : (x0 ++ x1).length = 9 := by rw [List.length_append, n0, Paired.length y1]; rfl
  rw [← List.map_append] at e1
  refine ⟨_, rfl, rfl, fun x2 B2 b2 y2 => ⟨by rw [List.length_map, Paired.length y2]; exact Nat.le_of_ble_eq_true rfl, fun q2 F2 r2 _ f2 => cat_go (r2 _ _ (b2 _ _ e1)) f2 ?_ fun p2 G2 t2 e2 => ?_⟩⟩
  · rw [List.length_map, List.length_map, n1, Paired.length y2]
    exact Nat.le_of_ble_eq_true rfl
  have s2 := ((s1.trans b2).trans r2).trans t2
  have z2 := Paired.app (ErsAt.same ((b2.trans r2).trans t2) z1) (ErsAt.same (r2.trans t2) y2)
  have n2 : ((x0 ++ x1) ++ x2).length = 13 := by rw [List.length_append, n1, Paired.length y2]; rfl
  rw [← List.map_append] at e2
  refine ⟨_, rfl, rfl, fun x3 B3 b3 y3 => ⟨by rw [List.length_map, Paired.length y3]; exact Nat.le_of_ble_eq_true rfl, fun q3 F3 r3 _ f3 => cat_go (r3 _ _ (b3 _ _ e2)) f3 ?_ fun p3 G3 t3 e3 => ?_⟩⟩
  · rw [List.length_map, List.length_map, n2, Paired.length y3]
    exact Nat.le_of_ble_eq_true rfl
  have s3 := ((s2.trans b3).trans r3).trans t3
  have z3 := Paired.app (ErsAt.same ((b3.trans r3).trans t3) z2) (ErsAt.same (r3.trans t3) y3)
  have n3 : (((x0 ++ x1) ++ x2) ++ x3).length = 17 := by rw [List.length_append, n2, Paired.length y3]; rfl
  rw [← List.map_append] at e3
  refine ⟨_, rfl, rfl, fun x4 B4 b4 y4 => ⟨by rw [List.length_map, Paired.length y4]; exact Nat.le_of_ble_eq_true rfl, fun q4 F4 r4 _ f4 => cat_go (r4 _ _ (b4 _ _ e3)) f4 ?_ fun p4 G4 t4 e4 => ?_⟩⟩
  · rw [List.length_map, List.length_map, n3, Paired.length y4]
    exact Nat.le_of_ble_eq_true rfl
  have s4 := ((s3.trans b4).trans r4).trans t4
  have z4 := Paired.app (ErsAt.same ((b4.trans r4).trans t4) z3) (ErsAt.same (r4.trans t4) y4)
  have n4 : ((((x0 ++ x1) ++ x2) ++ x3) ++ x4).length = 21 := by rw [List.length_append, n3, Paired.length y4]; rfl
  rw [← List.map_append] at e4
  refine ⟨_, rfl, rfl, fun x5 B5 b5 y5 => ⟨by rw [List.length_map, Paired.length y5]; exact Nat.le_of_ble_eq_true rfl, fun q5 F5 r5 _ f5 => cat_go (r5 _ _ (b5 _ _ e4)) f5 ?_ fun p5 G5 t5 e5 => ?_⟩⟩
  · rw [List.length_map, List.length_map, n4, Paired.length y5]
    exact Nat.le_of_ble_eq_true rfl
  have s5 := ((s4.trans b5).trans r5).trans t5
  have z5 := Paired.app (ErsAt.same ((b5.trans r5).trans t5) z4) (ErsAt.same (r5.trans t5) y5)
  have n5 : (((((x0 ++ x1) ++ x2) ++ x3) ++ x4) ++ x5).length = 25 := by rw [List.length_append, n4, Paired.length y5]; rfl
  rw [← List.map_append] at e5
  refine ⟨_, rfl, rfl, fun x6 B6 b6 y6 => ⟨by rw [List.length_map, Paired.length y6]; exact Nat.le_of_ble_eq_true rfl, fun q6 F6 r6 _ f6 => cat_go (r6 _ _ (b6 _ _ e5)) f6 ?_ fun p6 G6 t6 e6 => ?_⟩⟩
  · rw [List.length_map, List.length_map, n5, Paired.length y6]
    exact Nat.le_of_ble_eq_true rfl
  have s6 := ((s5.trans b6).trans r6).trans t6
  have z6 := Paired.app (ErsAt.same ((b6.trans r6).trans t6) z5) (ErsAt.same (r6.trans t6) y6)
  have n6 : ((((((x0 ++ x1) ++ x2) ++ x3) ++ x4) ++ x5) ++ x6).length = 29 := by rw [List.length_append, n5, Paired.length y6]; rfl
  rw [← List.map_append] at e6
  refine ⟨_, rfl, rfl, fun x7 B7 b7 y7 => ⟨by rw [List.length_map, Paired.length y7]; exact Nat.le_of_ble_eq_true rfl, fun q7 F7 r7 _ f7 => cat_go (r7 _ _ (b7 _ _ e6)) f7 ?_ fun p7 G7 t7 e7 => ?_⟩⟩
  · rw [List.length_map, List.length_map, n6, Paired.length y7]
    exact Nat.le_of_ble_eq_true rfl
  have s7 := ((s6.trans b7).trans r7).trans t7
  have z7 := Paired.app (ErsAt.same ((b7.trans r7).trans t7) z6) (ErsAt.same (r7.trans t7) y7)
  have n7 : (((((((x0 ++ x1) ++ x2) ++ x3) ++ x4) ++ x5) ++ x6) ++ x7).length = 32 := by rw [List.length_append, n6, Paired.length y7]; rfl
  rw [← List.map_append] at e7
  refine ⟨_, rfl, rfl, fun x8 B8 b8 y8 => ⟨by rw [List.length_map, Paired.length y8]; exact Nat.le_of_ble_eq_true rfl, fun q8 F8 r8 _ f8 => cat_go (r8 _ _ (b8 _ _ e7)) f8 ?_ fun p8 G8 t8 e8 => ?_⟩⟩
  · rw [List.length_map, List.length_map, n7, Paired.length y8]
    exact Nat.le_of_ble_eq_true rfl
  have s8 := ((s7.trans b8).trans r8).trans t8
  have z8 := Paired.app (ErsAt.same ((b8.trans r8).trans t8) z7) (ErsAt.same (r8.trans t8) y8)
  have n8 : ((((((((x0 ++ x1) ++ x2) ++ x3) ++ x4) ++ x5) ++ x6) ++ x7) ++ x8).length = 36 := by rw [List.length_append, n7, Paired.length y8]; rfl
  rw [← List.map_append] at e8
  exact hQ _ _ _ s8 z8 e8
theorem ok_Place (F : FnP K "_law_by_place" sPlace f fd) (T : Txt K mg) (M : ∀ k, k < 36 → Mk1 P w K mg b0 (Cl K k) (fld k)) : FnOk P w K mg b0 CX0 3 f fd ["thing"] (spPlace K) := by
  refine FunD.ok F scPlace (fun vs H Q E h => ?_) (fun cv A ou s H vs Q E hr h => ?_)
  · obtain ⟨v, rfl, _⟩ := h
    rfl
  obtain ⟨v, rfl, hQ⟩ := h
  refine ⟨t_Place K v, PSs.nox ?_, rd_Place K hQ⟩
  exact pss_cons (ps_set (i := 1) scPlace.nd rfl (Or.inl rfl) (pe_L (pa_er (pe_er (M 0 (by decide)) hr rfl (T.gc 0 (by decide)) (pv 0) (by decide) rfl) (pa_er (pe_er (M 1 (by decide)) hr rfl (T.gc 1 (by decide)) (pv 0) (by decide) rfl) (pa_er (pe_er (M 2 (by decide)) hr rfl (T.gc 2 (by decide)) (pv 0) (by decide) rfl) (pa_er (pe_er (M 3 (by decide)) hr rfl (T.gc 3 (by decide)) (pv 0) (by decide) rfl) (pa_er (pe_er (M 4 (by decide)) hr rfl (T.gc 4 (by decide)) (pv 0) (by decide) rfl) pa_er0)))))))
      (pss_cons (ps_set (i := 1) scPlace.nd rfl (Or.inl rfl) (pe_op op_cat (pv 1) (pe_L (pa_er (pe_er (M 5 (by decide)) hr rfl (T.gc 5 (by decide)) (pv 0) (by decide) rfl) (pa_er (pe_er (M 6 (by decide)) hr rfl (T.gc 6 (by decide)) (pv 0) (by decide) rfl) (pa_er (pe_er (M 7 (by decide)) hr rfl (T.gc 7 (by decide)) (pv 0) (by decide) rfl) (pa_er (pe_er (M 8 (by decide)) hr rfl (T.gc 8 (by decide)) (pv 0) (by decide) rfl) pa_er0)))))))
      (pss_cons (ps_set (i := 1) scPlace.nd rfl (Or.inl rfl) (pe_op op_cat (pv 1) (pe_L (pa_er (pe_er (M 9 (by decide)) hr rfl (T.gc 9 (by decide)) (pv 0) (by decide) rfl) (pa_er (pe_er (M 10 (by decide)) hr rfl (T.gc 10 (by decide)) (pv 0) (by decide) rfl) (pa_er (pe_er (M 11 (by decide)) hr rfl (T.gc 11 (by decide)) (pv 0) (by decide) rfl) (pa_er (pe_er (M 12 (by decide)) hr rfl (T.gc 12 (by decide)) (pv 0) (by decide) rfl) pa_er0)))))))
      (pss_cons (ps_set (i := 1) scPlace.nd rfl (Or.inl rfl) (pe_op op_cat (pv 1) (pe_L (pa_er (pe_er (M 13 (by decide)) hr rfl (T.gc 13 (by decide)) (pv 0) (by decide) rfl) (pa_er (pe_er (M 14 (by decide)) hr rfl (T.gc 14 (by decide)) (pv 0) (by decide) rfl) (pa_er (pe_er (M 15 (by decide)) hr rfl (T.gc 15 (by decide)) (pv 0) (by decide) rfl) (pa_er (pe_er (M 16 (by decide)) hr rfl (T.gc 16 (by decide)) (pv 0) (by decide) rfl) pa_er0)))))))
      (pss_cons (ps_set (i := 1) scPlace.nd rfl (Or.inl rfl) (pe_op op_cat (pv 1) (pe_L (pa_er (pe_er (M 17 (by decide)) hr rfl (T.gc 17 (by decide)) (pv 0) (by decide) rfl) (pa_er (pe_er (M 18 (by decide)) hr rfl (T.gc 18 (by decide)) (pv 0) (by decide) rfl) (pa_er (pe_er (M 19 (by decide)) hr rfl (T.gc 19 (by decide)) (pv 0) (by decide) rfl) (pa_er (pe_er (M 20 (by decide)) hr rfl (T.gc 20 (by decide)) (pv 0) (by decide) rfl) pa_er0)))))))
      (pss_cons (ps_set (i := 1) scPlace.nd rfl (Or.inl rfl) (pe_op op_cat (pv 1) (pe_L (pa_er (pe_er (M 21 (by decide)) hr rfl (T.gc 21 (by decide)) (pv 0) (by decide) rfl) (pa_er (pe_er (M 22 (by decide)) hr rfl (T.gc 22 (by decide)) (pv 0) (by decide) rfl) (pa_er (pe_er (M 23 (by decide)) hr rfl (T.gc 23 (by decide)) (pv 0) (by decide) rfl) (pa_er (pe_er (M 24 (by decide)) hr rfl (T.gc 24 (by decide)) (pv 0) (by decide) rfl) pa_er0)))))))
      (pss_cons (ps_set (i := 1) scPlace.nd rfl (Or.inl rfl) (pe_op op_cat (pv 1) (pe_L (pa_er (pe_er (M 25 (by decide)) hr rfl (T.gc 25 (by decide)) (pv 0) (by decide) rfl) (pa_er (pe_er (M 26 (by decide)) hr rfl (T.gc 26 (by decide)) (pv 0) (by decide) rfl) (pa_er (pe_er (M 27 (by decide)) hr rfl (T.gc 27 (by decide)) (pv 0) (by decide) rfl) (pa_er (pe_er (M 28 (by decide)) hr rfl (T.gc 28 (by decide)) (pv 0) (by decide) rfl) pa_er0)))))))
      (pss_cons (ps_set (i := 1) scPlace.nd rfl (Or.inl rfl) (pe_op op_cat (pv 1) (pe_L (pa_er (pe_er (M 29 (by decide)) hr rfl (T.gc 29 (by decide)) (pv 0) (by decide) rfl) (pa_er (pe_er (M 30 (by decide)) hr rfl (T.gc 30 (by decide)) (pv 0) (by decide) rfl) (pa_er (pe_er (M 31 (by decide)) hr rfl (T.gc 31 (by decide)) (pv 0) (by decide) rfl) pa_er0))))))
      (pss_one (ps_ret (pe_op op_cat (pv 1) (pe_L (pa_er (pe_er (M 32 (by decide)) hr rfl (T.gc 32 (by decide)) (pv 0) (by decide) rfl) (pa_er (pe_er (M 33 (by decide)) hr rfl (T.gc 33 (by decide)) (pv 0) (by decide) rfl) (pa_er (pe_er (M 34 (by decide)) hr rfl (T.gc 34 (by decide)) (pv 0) (by decide) rfl) (pa_er (pe_er (M 35 (by decide)) hr rfl (T.gc 35 (by decide)) (pv 0) (by decide) rfl) pa_er0)))))))))))))))
def t_ByName (K : PySem.W.Frag) (v : V) : TS := tSeq (tAsg (tL (tErs v 0 [(Cl K 0, fld 0), (Cl K 1, fld 1), (Cl K 2, fld 2), (Cl K 3, fld 3)])) (gName 1)) (tSeq (tAsg (tOp rCat (tVar 1) (tL (tErs v 0 [(Cl K 4, fld 4), (Cl K 5, fld 5), (Cl K 6, fld 6)]))) (gName 1)) (tSeq (tAsg (tOp rCat (tVar 1) (tL (tErs v 0 [(Cl K 7, fld 7), (Cl K 8, fld 8), (Cl K 9, fld 9)]))) (gName 1)) (tSeq (tAsg (tOp rCat (tVar 1) (tL (tErs v 0 [(Cl K 10, fld 10), (Cl K 11, fld 11), (Cl K 12, fld 12)]))) (gName 1)) (tSeq (tAsg (tOp rCat (tVar 1) (tL (tErs v 0 [(Cl K 13, fld 13), (Cl K 14, fld 14), (Cl K 15, fld 15)]))) (gName 1)) (tSeq (tAsg (tOp rCat (tVar 1) (tL (tErs v 0 [(Cl K 16, fld 16), (Cl K 17, fld 17), (Cl K 18, fld 18)]))) (gName 1)) (tSeq (tAsg (tOp rCat (tVar 1) (tL (tErs v 0 [(Cl K 19, fld 19), (Cl K 20, fld 20), (Cl K 21, fld 21)]))) (gName 1)) (tSeq (tAsg (tOp rCat (tVar 1) (tL (tErs v 0 [(Cl K 22, fld 22), (Cl K 23, fld 23), (Cl K 24, fld 24)]))) (gName 1)) (tSeq (tAsg (tOp rCat (tVar 1) (tL (tErs v 0 [(Cl K 25, fld 25), (Cl K 26, fld 26), (Cl K 27, fld 27)]))) (gName 1)) (tSeq (tAsg (tOp rCat (tVar 1) (tL (tErs v 0 [(Cl K 28, fld 28), (Cl K 29, fld 29), (Cl K 30, fld 30)]))) (gName 1)) (tSeq (tAsg (tOp rCat (tVar 1) (tL (tErs v 0 [(Cl K 31, fld 31)]))) (gName 1)) (tRet (tOp rCat (tVar 1) (tL (tErs v 0 [(Cl K 32, fld 32), (Cl K 33, fld 33), (Cl K 34, fld 34), (Cl K 35, fld 35)]))))))))))))))
theorem rd_ByName (K : PySem.W.Frag) {v : V} {H : Hp} {Q : VK} (hQ : ∀ es p H', Same H H' → ErsAt H' v es (cs36 K) → H' p = some (.lst (es.map V.ref)) → Q (.ref p) H') :
    t_ByName K v { nx := fun _ H' => Q .non H', rt := Q } [some v, none] H := by
  refine ⟨rfl, fun x0 B0 b0 y0 => ⟨by rw [List.length_map, Paired.length y0]; exact Nat.le_of_ble_eq_true rfl, fun p0 G0 u0 _ e0 => ?_⟩⟩
  have s0 := b0.trans u0
  have z0 := y0.same u0
  have n0 : x0.length = 4 := Paired.length y0
  refine ⟨_, rfl, rfl, fun x1 B1 b1 y1 => ⟨by rw [List.length_map, Paired.length y1]; exact Nat.le_of_ble_eq_true rfl, fun q1 F1 r1 _ f1 => cat_go (r1 _ _ (b1 _ _ e0)) f1 ?_ fun p1 G1 t1 e1 => ?_⟩⟩
  · rw [List.length_map, List.length_map, n0, Paired.length y1]
    exact Nat.le_of_ble_eq_true rfl
  have s1 := ((s0.trans b1).trans r1).trans t1
  have z1 := Paired.app (ErsAt.same ((b1.trans r1).trans t1) z0) (ErsAt.same (r1.trans t1) y1)
  have n1 : (x0 ++ x1).length = 7 := by rw [List.length_append, n0, Paired.length y1]; rfl
  rw [← List.map_append] at e1
  refine ⟨_, rfl, rfl, fun x2 B2 b2 y2 => ⟨by rw [List.length_map, Paired.length y2]; exact Nat.le_of_ble_eq_true rfl, fun q2 F2 r2 _ f2 => cat_go (r2 _ _ (b2 _ _ e1)) f2 ?_ fun p2 G2 t2 e2 => ?_⟩⟩
  · rw [List.length_map, List.length_map, n1, Paired.length y2]
    exact Nat.le_of_ble_eq_true rfl
  have s2 := ((s1.trans b2).trans r2).trans t2
  have z2 := Paired.app (ErsAt.same ((b2.trans r2).trans t2) z1) (ErsAt.same (r2.trans t2) y2)
  have n2 : ((x0 ++ x1) ++ x2).length = 10 := by rw [List.length_append, n1, Paired.length y2]; rfl
  rw [← List.map_append] at e2
  refine ⟨_, rfl, rfl, fun x3 B3 b3 y3 => ⟨by rw [List.length_map, Paired.length y3]; exact Nat.le_of_ble_eq_true rfl, fun q3 F3 r3 _ f3 => cat_go (r3 _ _ (b3 _ _ e2)) f3 ?_ fun p3 G3 t3 e3 => ?_⟩⟩
  · rw [List.length_map, List.length_map, n2, Paired.length y3]
    exact Nat.le_of_ble_eq_true rfl
  have s3 := ((s2.trans b3).trans r3).trans t3
  have z3 := Paired.app (ErsAt.same ((b3.trans r3).trans t3) z2) (ErsAt.same (r3.trans t3) y3)
  have n3 : (((x0 ++ x1) ++ x2) ++ x3).length = 13 := by rw [List.length_append, n2, Paired.length y3]; rfl
  rw [← List.map_append] at e3
  refine ⟨_, rfl, rfl, fun x4 B4 b4 y4 => ⟨by rw [List.length_map, Paired.length y4]; exact Nat.le_of_ble_eq_true rfl, fun q4 F4 r4 _ f4 => cat_go (r4 _ _ (b4 _ _ e3)) f4 ?_ fun p4 G4 t4 e4 => ?_⟩⟩
  · rw [List.length_map, List.length_map, n3, Paired.length y4]
    exact Nat.le_of_ble_eq_true rfl
  have s4 := ((s3.trans b4).trans r4).trans t4
  have z4 := Paired.app (ErsAt.same ((b4.trans r4).trans t4) z3) (ErsAt.same (r4.trans t4) y4)
  have n4 : ((((x0 ++ x1) ++ x2) ++ x3) ++ x4).length = 16 := by rw [List.length_append, n3, Paired.length y4]; rfl
  rw [← List.map_append] at e4
  refine ⟨_, rfl, rfl, fun x5 B5 b5 y5 => ⟨by rw [List.length_map, Paired.length y5]; exact Nat.le_of_ble_eq_true rfl, fun q5 F5 r5 _ f5 => cat_go (r5 _ _ (b5 _ _ e4)) f5 ?_ fun p5 G5 t5 e5 => ?_⟩⟩
  · rw [List.length_map, List.length_map, n4, Paired.length y5]
    exact Nat.le_of_ble_eq_true rfl
  have s5 := ((s4.trans b5).trans r5).trans t5
  have z5 := Paired.app (ErsAt.same ((b5.trans r5).trans t5) z4) (ErsAt.same (r5.trans t5) y5)
  have n5 : (((((x0 ++ x1) ++ x2) ++ x3) ++ x4) ++ x5).length = 19 := by rw [List.length_append, n4, Paired.length y5]; rfl
  rw [← List.map_append] at e5
  refine ⟨_, rfl, rfl, fun x6 B6 b6 y6 => ⟨by rw [List.length_map, Paired.length y6]; exact Nat.le_of_ble_eq_true rfl, fun q6 F6 r6 _ f6 => cat_go (r6 _ _ (b6 _ _ e5)) f6 ?_ fun p6 G6 t6 e6 => ?_⟩⟩
  · rw [List.length_map, List.length_map, n5, Paired.length y6]
    exact Nat.le_of_ble_eq_true rfl
  have s6 := ((s5.trans b6).trans r6).trans t6
  have z6 := Paired.app (ErsAt.same ((b6.trans r6).trans t6) z5) (ErsAt.same (r6.trans t6) y6)
  have n6 : ((((((x0 ++ x1) ++ x2) ++ x3) ++ x4) ++ x5) ++ x6).length = 22 := by rw [List.length_append, n5, Paired.length y6]; rfl
  rw [← List.map_append] at e6
  refine ⟨_, rfl, rfl, fun x7 B7 b7 y7 => ⟨by rw [List.length_map, Paired.length y7]; exact Nat.le_of_ble_eq_true rfl, fun q7 F7 r7 _ f7 => cat_go (r7 _ _ (b7 _ _ e6)) f7 ?_ fun p7 G7 t7 e7 => ?_⟩⟩
  · rw [List.length_map, List.length_map, n6, Paired.length y7]
    exact Nat.le_of_ble_eq_true rfl
  have s7 := ((s6.trans b7).trans r7).trans t7
  have z7 := Paired.app (ErsAt.same ((b7.trans r7).trans t7) z6) (ErsAt.same (r7.trans t7) y7)
  have n7 : (((((((x0 ++ x1) ++ x2) ++ x3) ++ x4) ++ x5) ++ x6) ++ x7).length = 25 := by rw [List.length_append, n6, Paired.length y7]; rfl
  rw [← List.map_append] at e7
  refine ⟨_, rfl, rfl, fun x8 B8 b8 y8 => ⟨by rw [List.length_map, Paired.length y8]; exact Nat.le_of_ble_eq_true rfl, fun q8 F8 r8 _ f8 => cat_go (r8 _ _ (b8 _ _ e7)) f8 ?_ fun p8 G8 t8 e8 => ?_⟩⟩
  · rw [List.length_map, List.length_map, n7, Paired.length y8]
    exact Nat.le_of_ble_eq_true rfl
  have s8 := ((s7.trans b8).trans r8).trans t8
  have z8 := Paired.app (ErsAt.same ((b8.trans r8).trans t8) z7) (ErsAt.same (r8.trans t8) y8)
  have n8 : ((((((((x0 ++ x1) ++ x2) ++ x3) ++ x4) ++ x5) ++ x6) ++ x7) ++ x8).length = 28 := by rw [List.length_append, n7, Paired.length y8]; rfl
  rw [← List.map_append] at e8
  refine ⟨_, rfl, rfl, fun x9 B9 b9 y9 => ⟨by rw [List.length_map, Paired.length y9]; exact Nat.le_of_ble_eq_true rfl, fun q9 F9 r9 _ f9 => cat_go (r9 _ _ (b9 _ _ e8)) f9 ?_ fun p9 G9 t9 e9 => ?_⟩⟩
  · rw [List.length_map, List.length_map, n8, Paired.length y9]
    exact Nat.le_of_ble_eq_true rfl
  have s9 := ((s8.trans b9).trans r9).trans t9
  have z9 := Paired.app (ErsAt.same ((b9.trans r9).trans t9) z8) (ErsAt.same (r9.trans t9) y9)
  have n9 : (((((((((x0 ++ x1) ++ x2) ++ x3) ++ x4) ++ x5) ++ x6) ++ x7) ++ x8) ++ x9).length = 31 := by rw [List.length_append, n8, Paired.length y9]; rfl
  rw [← List.map_append] at e9
  refine ⟨_, rfl, rfl, fun x10 B10 b10 y10 => ⟨by rw [List.length_map, Paired.length y10]; exact Nat.le_of_ble_eq_true rfl, fun q10 F10 r10 _ f10 => cat_go (r10 _ _ (b10 _ _ e9)) f10 ?_ fun p10 G10 t10 e10 => ?_⟩⟩
  · rw [List.length_map, List.length_map, n9, Paired.length y10]
    exact Nat.le_of_ble_eq_true rfl
  have s10 := ((s9.trans b10).trans r10).trans t10
  have z10 := Paired.app (ErsAt.same ((b10.trans r10).trans t10) z9) (ErsAt.same (r10.trans t10) y10)
  have n10 : ((((((((((x0 ++ x1) ++ x2) ++ x3) ++ x4) ++ x5) ++ x6) ++ x7) ++ x8) ++ x9) ++ x10).length = 32 := by rw [List.length_append, n9, Paired.length y10]; rfl
  rw [← List.map_append] at e10
  refine ⟨_, rfl, rfl, fun x11 B11 b11 y11 => ⟨by rw [List.length_map, Paired.length y11]; exact Nat.le_of_ble_eq_true rfl, fun q11 F11 r11 _ f11 => cat_go (r11 _ _ (b11 _ _ e10)) f11 ?_ fun p11 G11 t11 e11 => ?_⟩⟩
  · rw [List.length_map, List.length_map, n10, Paired.length y11]
    exact Nat.le_of_ble_eq_true rfl
  have s11 := ((s10.trans b11).trans r11).trans t11
  have z11 := Paired.app (ErsAt.same ((b11.trans r11).trans t11) z10) (ErsAt.same (r11.trans t11) y11)
  have n11 : (((((((((((x0 ++ x1) ++ x2) ++ x3) ++ x4) ++ x5) ++ x6) ++ x7) ++ x8) ++ x9) ++ x10) ++ x11).length = 36 := by rw [List.length_append, n10, Paired.length y11]; rfl
  rw [← List.map_append] at e11
  exact hQ _ _ _ s11 z11 e11
theorem ok_ByName (F : FnP K "_law_by_name" sByName f fd) (T : Txt K mg) (M : ∀ k, k < 36 → Mk1 P w K mg b0 (Cl K k) (fld k)) : FnOk P w K mg b0 CX0 3 f fd ["thing"] (spPlace K) := by
  refine FunD.ok F scByName (fun vs H Q E h => ?_) (fun cv A ou s H vs Q E hr h => ?_)
  · obtain ⟨v, rfl, _⟩ := h
    rfl
  obtain ⟨v, rfl, hQ⟩ := h
  refine ⟨t_ByName K v, PSs.nox ?_, rd_ByName K hQ⟩
  exact pss_cons (ps_set (i := 1) scByName.nd rfl (Or.inl rfl) (pe_L (pa_er (pe_erK (M 0 (by decide)) hr rfl (T.gc 0 (by decide)) (pv 0) (by decide)) (pa_er (pe_erK (M 1 (by decide)) hr rfl (T.gc 1 (by decide)) (pv 0) (by decide)) (pa_er (pe_erK (M 2 (by decide)) hr rfl (T.gc 2 (by decide)) (pv 0) (by decide)) (pa_er (pe_erK (M 3 (by decide)) hr rfl (T.gc 3 (by decide)) (pv 0) (by decide)) pa_er0))))))
      (pss_cons (ps_set (i := 1) scByName.nd rfl (Or.inl rfl) (pe_op op_cat (pv 1) (pe_L (pa_er (pe_erK (M 4 (by decide)) hr rfl (T.gc 4 (by decide)) (pv 0) (by decide)) (pa_er (pe_erK (M 5 (by decide)) hr rfl (T.gc 5 (by decide)) (pv 0) (by decide)) (pa_er (pe_erK (M 6 (by decide)) hr rfl (T.gc 6 (by decide)) (pv 0) (by decide)) pa_er0))))))
      (pss_cons (ps_set (i := 1) scByName.nd rfl (Or.inl rfl) (pe_op op_cat (pv 1) (pe_L (pa_er (pe_erK (M 7 (by decide)) hr rfl (T.gc 7 (by decide)) (pv 0) (by decide)) (pa_er (pe_erK (M 8 (by decide)) hr rfl (T.gc 8 (by decide)) (pv 0) (by decide)) (pa_er (pe_erK (M 9 (by decide)) hr rfl (T.gc 9 (by decide)) (pv 0) (by decide)) pa_er0))))))
      (pss_cons (ps_set (i := 1) scByName.nd rfl (Or.inl rfl) (pe_op op_cat (pv 1) (pe_L (pa_er (pe_erK (M 10 (by decide)) hr rfl (T.gc 10 (by decide)) (pv 0) (by decide)) (pa_er (pe_erK (M 11 (by decide)) hr rfl (T.gc 11 (by decide)) (pv 0) (by decide)) (pa_er (pe_erK (M 12 (by decide)) hr rfl (T.gc 12 (by decide)) (pv 0) (by decide)) pa_er0))))))
      (pss_cons (ps_set (i := 1) scByName.nd rfl (Or.inl rfl) (pe_op op_cat (pv 1) (pe_L (pa_er (pe_erK (M 13 (by decide)) hr rfl (T.gc 13 (by decide)) (pv 0) (by decide)) (pa_er (pe_erK (M 14 (by decide)) hr rfl (T.gc 14 (by decide)) (pv 0) (by decide)) (pa_er (pe_erK (M 15 (by decide)) hr rfl (T.gc 15 (by decide)) (pv 0) (by decide)) pa_er0))))))
      (pss_cons (ps_set (i := 1) scByName.nd rfl (Or.inl rfl) (pe_op op_cat (pv 1) (pe_L (pa_er (pe_erK (M 16 (by decide)) hr rfl (T.gc 16 (by decide)) (pv 0) (by decide)) (pa_er (pe_erK (M 17 (by decide)) hr rfl (T.gc 17 (by decide)) (pv 0) (by decide)) (pa_er (pe_erK (M 18 (by decide)) hr rfl (T.gc 18 (by decide)) (pv 0) (by decide)) pa_er0))))))
      (pss_cons (ps_set (i := 1) scByName.nd rfl (Or.inl rfl) (pe_op op_cat (pv 1) (pe_L (pa_er (pe_erK (M 19 (by decide)) hr rfl (T.gc 19 (by decide)) (pv 0) (by decide)) (pa_er (pe_erK (M 20 (by decide)) hr rfl (T.gc 20 (by decide)) (pv 0) (by decide)) (pa_er (pe_erK (M 21 (by decide)) hr rfl (T.gc 21 (by decide)) (pv 0) (by decide)) pa_er0))))))
      (pss_cons (ps_set (i := 1) scByName.nd rfl (Or.inl rfl) (pe_op op_cat (pv 1) (pe_L (pa_er (pe_erK (M 22 (by decide)) hr rfl (T.gc 22 (by decide)) (pv 0) (by decide)) (pa_er (pe_erK (M 23 (by decide)) hr rfl (T.gc 23 (by decide)) (pv 0) (by decide)) (pa_er (pe_erK (M 24 (by decide)) hr rfl (T.gc 24 (by decide)) (pv 0) (by decide)) pa_er0))))))
      (pss_cons (ps_set (i := 1) scByName.nd rfl (Or.inl rfl) (pe_op op_cat (pv 1) (pe_L (pa_er (pe_erK (M 25 (by decide)) hr rfl (T.gc 25 (by decide)) (pv 0) (by decide)) (pa_er (pe_erK (M 26 (by decide)) hr rfl (T.gc 26 (by decide)) (pv 0) (by decide)) (pa_er (pe_erK (M 27 (by decide)) hr rfl (T.gc 27 (by decide)) (pv 0) (by decide)) pa_er0))))))
      (pss_cons (ps_set (i := 1) scByName.nd rfl (Or.inl rfl) (pe_op op_cat (pv 1) (pe_L (pa_er (pe_erK (M 28 (by decide)) hr rfl (T.gc 28 (by decide)) (pv 0) (by decide)) (pa_er (pe_erK (M 29 (by decide)) hr rfl (T.gc 29 (by decide)) (pv 0) (by decide)) (pa_er (pe_erK (M 30 (by decide)) hr rfl (T.gc 30 (by decide)) (pv 0) (by decide)) pa_er0))))))
      (pss_cons (ps_set (i := 1) scByName.nd rfl (Or.inl rfl) (pe_op op_cat (pv 1) (pe_L (pa_er (pe_erK (M 31 (by decide)) hr rfl (T.gc 31 (by decide)) (pv 0) (by decide)) pa_er0))))
      (pss_one (ps_ret (pe_op op_cat (pv 1) (pe_L (pa_er (pe_erK (M 32 (by decide)) hr rfl (T.gc 32 (by decide)) (pv 0) (by decide)) (pa_er (pe_erK (M 33 (by decide)) hr rfl (T.gc 33 (by decide)) (pv 0) (by decide)) (pa_er (pe_erK (M 34 (by decide)) hr rfl (T.gc 34 (by decide)) (pv 0) (by decide)) (pa_er (pe_erK (M 35 (by decide)) hr rfl (T.gc 35 (by decide)) (pv 0) (by decide)) pa_er0))))))))))))))))))
end
end Kz

namespace Kz
open PySem PySem.Spec PyProof.Rows L2

/-! ### _law_kept -/
theorem look1 {fs : List (Str × V)} {a : Str} {vs : List V} (h : [a].map (fun n => fs.lookup n) = vs.map some) : ∃ x, vs = [x] ∧ fs.lookup a = some x := by
  match vs, h with
  | [], h => simp at h
  | [x], h => exact ⟨x, rfl, by simpa using h⟩
  | _ :: _ :: _, h => simp at h
theorem look2 {fs : List (Str × V)} {a b : Str} {vs : List V} (h : [a, b].map (fun n => fs.lookup n) = vs.map some) : ∃ x y, vs = [x, y] ∧ fs.lookup a = some x ∧ fs.lookup b = some y := by
  match vs, h with
  | [], h => simp at h
  | [_], h => simp at h
  | [x, y], h => exact ⟨x, y, rfl, by simpa using h⟩
  | _ :: _ :: _ :: _, h => simp at h
theorem look3 {fs : List (Str × V)} {a b c : Str} {vs : List V} (h : [a, b, c].map (fun n => fs.lookup n) = vs.map some) : ∃ x y z, vs = [x, y, z] ∧ fs.lookup a = some x ∧ fs.lookup b = some y ∧ fs.lookup c = some z := by
  match vs, h with
  | [], h => simp at h
  | [_], h => simp at h
  | [_, _], h => simp at h
  | [x, y, z], h => exact ⟨x, y, z, rfl, by simpa using h⟩
  | _ :: _ :: _ :: _ :: _, h => simp at h
theorem look4 {fs : List (Str × V)} {a b c d : Str} {vs : List V} (h : [a, b, c, d].map (fun n => fs.lookup n) = vs.map some) : ∃ x y z u, vs = [x, y, z, u] ∧ fs.lookup a = some x ∧ fs.lookup b = some y ∧ fs.lookup c = some z ∧ fs.lookup d = some u := by
  match vs, h with
  | [], h => simp at h
  | [_], h => simp at h
  | [_, _], h => simp at h
  | [_, _, _], h => simp at h
  | [x, y, z, u], h => exact ⟨x, y, z, u, rfl, by simpa using h⟩
  | _ :: _ :: _ :: _ :: _ :: _, h => simp at h
theorem look5 {fs : List (Str × V)} {a b c d e : Str} {vs : List V} (h : [a, b, c, d, e].map (fun n => fs.lookup n) = vs.map some) : ∃ x y z u v, vs = [x, y, z, u, v] ∧ fs.lookup a = some x ∧ fs.lookup b = some y ∧ fs.lookup c = some z ∧ fs.lookup d = some u ∧ fs.lookup e = some v := by
  match vs, h with
  | [], h => simp at h
  | [_], h => simp at h
  | [_, _], h => simp at h
  | [_, _, _], h => simp at h
  | [_, _, _, _], h => simp at h
  | [x, y, z, u, v], h => exact ⟨x, y, z, u, v, rfl, by simpa using h⟩
  | _ :: _ :: _ :: _ :: _ :: _ :: _, h => simp at h
abbrev tI1 (X : Cx) (e : Addr) (i j : Nat) : TE := fun σ H Q => σ[0]? = some (some (.ref e)) ∧ i < 45 ∧ IsE X e (Cl X.K i) H ∧ Q (.bl (decide (i = j))) H
def spKept (K : PySem.W.Frag) : Sp := fun vs H Q _ => ∃ (e : Addr) (i : Nat) (fs : List (Str × V)) (ws : List V), vs = [.ref e] ∧ i < 42 ∧ Er H e (Cl K i) fs ∧ (flds i).map (fun n => fs.lookup n) = ws.map some ∧ ∀ p H', Same H H' → H p = none → H' p = some (.lst ws) → Q (.ref p) H'
theorem scKept : FnScope ["e"] ["e"] (defScope sKept) := ⟨rfl, rfl, rfl, by decide +kernel, rfl, by decide +kernel, by decide +kernel⟩
def t_kept (X : Cx) (e : Addr) (i : Nat) : TS := tSeq (tIfS (tOr (tB (tI1 X e i 32)) (tB (tI1 X e i 33))) (tRet (tL (tCons (tAt X "payoff" (tVar 0)) tNil))) tNext) (tSeq (tIfS (tB (tI1 X e i 34)) (tRet (tL (tCons (tAt X "count" (tVar 0)) tNil))) tNext) (tSeq (tIfS (tB (tI1 X e i 35)) (tRet (tL (tCons (tAt X "name" (tVar 0)) tNil))) tNext) (tSeq (tIfS (tB (tI1 X e i 36)) (tRet (tL (tCons (tAt X "line" (tVar 0)) (tCons (tAt X "column" (tVar 0)) tNil)))) tNext) (tSeq (tIfS (tB (tI1 X e i 37)) (tRet (tL (tCons (tAt X "unit" (tVar 0)) (tCons (tAt X "store" (tVar 0)) tNil)))) tNext) (tSeq (tIfS (tB (tI1 X e i 38)) (tRet (tL (tCons (tAt X "reason" (tVar 0)) (tCons (tAt X "unit" (tVar 0)) (tCons (tAt X "word" (tVar 0)) tNil))))) tNext) (tSeq (tIfS (tB (tI1 X e i 39)) (tRet (tL (tCons (tAt X "side" (tVar 0)) (tCons (tAt X "store" (tVar 0)) (tCons (tAt X "harm" (tVar 0)) tNil))))) tNext) (tSeq (tIfS (tB (tI1 X e i 40)) (tRet (tL (tCons (tAt X "unit" (tVar 0)) (tCons (tAt X "store" (tVar 0)) (tCons (tAt X "side" (tVar 0)) (tCons (tAt X "count" (tVar 0)) tNil)))))) tNext) (tRet (tIf (tB (tI1 X e i 41)) (tL (tCons (tAt X "side" (tVar 0)) (tCons (tAt X "store" (tVar 0)) (tCons (tAt X "plan" (tVar 0)) (tCons (tAt X "payoff" (tVar 0)) (tCons (tAt X "answer" (tVar 0)) tNil)))))) (tL (tCons (tAt X "given" (tVar 0)) tNil)))))))))))
theorem rd_kept (X : Cx) (T : Txt X.K X.mg) {e : Addr} {i : Nat} {fs : List (Str × V)} {ws : List V} {H : Hp} {Q : VK} (hi : i < 42) (hI : IsE X e (Cl X.K i) H) (hF : ∀ f v, fs.lookup f = some v → HasE X e (Cl X.K i) f v H)
    (hl : (flds i).map (fun n => fs.lookup n) = ws.map some) (hQ : ∀ p H', Same H H' → H p = none → H' p = some (.lst ws) → Q (.ref p) H') : t_kept X e i { nx := fun _ H' => Q .non H', rt := Q } [some (.ref e)] H := by
  have h45 : i < 45 := Nat.lt_trans hi (by decide)
  have E := T.ec i h45
  refine ⟨rfl, h45, hI, _, rfl, ?_⟩
  by_cases c0 : i = 32
  · subst c0
    refine iteT (iteT ?_)
    obtain ⟨x, rfl, l0⟩ := look1 (show [("payoff" : Str)].map (fun n => fs.lookup n) = ws.map some from hl)
    exact ⟨_, rfl, e, _, x, rfl, E, T.nof _ hi _ (by decide +kernel), hF _ _ l0, ⟨Nat.le_of_ble_eq_true rfl, fun p H' s n e' => hQ p H' s n e'⟩⟩
  rw [decide_eq_false c0]
  refine iteF ⟨rfl, h45, hI, _, rfl, ?_⟩
  by_cases c1 : i = 33
  · subst c1
    refine iteT ?_
    obtain ⟨x, rfl, l0⟩ := look1 (show [("payoff" : Str)].map (fun n => fs.lookup n) = ws.map some from hl)
    exact ⟨_, rfl, e, _, x, rfl, E, T.nof _ hi _ (by decide +kernel), hF _ _ l0, ⟨Nat.le_of_ble_eq_true rfl, fun p H' s n e' => hQ p H' s n e'⟩⟩
  rw [decide_eq_false c1]
  refine iteF ?_
  refine ⟨rfl, h45, hI, _, rfl, ?_⟩
  by_cases c34 : i = 34
  · subst c34
    refine iteT ?_
    obtain ⟨x, rfl, l0⟩ := look1 (show [("count" : Str)].map (fun n => fs.lookup n) = ws.map some from hl)
    exact ⟨_, rfl, e, _, x, rfl, E, T.nof _ hi _ (by decide +kernel), hF _ _ l0, ⟨Nat.le_of_ble_eq_true rfl, fun p H' s n e' => hQ p H' s n e'⟩⟩
  rw [decide_eq_false c34]
  refine iteF ?_
  refine ⟨rfl, h45, hI, _, rfl, ?_⟩
  by_cases c35 : i = 35
  · subst c35
    refine iteT ?_
    obtain ⟨x, rfl, l0⟩ := look1 (show [("name" : Str)].map (fun n => fs.lookup n) = ws.map some from hl)
    exact ⟨_, rfl, e, _, x, rfl, E, T.nof _ hi _ (by decide +kernel), hF _ _ l0, ⟨Nat.le_of_ble_eq_true rfl, fun p H' s n e' => hQ p H' s n e'⟩⟩
  rw [decide_eq_false c35]
  refine iteF ?_
  refine ⟨rfl, h45, hI, _, rfl, ?_⟩
  by_cases c36 : i = 36
  · subst c36
    refine iteT ?_
    obtain ⟨x, y, rfl, l0, l1⟩ := look2 (show [("line" : Str), ("column" : Str)].map (fun n => fs.lookup n) = ws.map some from hl)
    exact ⟨_, rfl, e, _, x, rfl, E, T.nof _ hi _ (by decide +kernel), hF _ _ l0, ⟨_, rfl, e, _, y, rfl, E, T.nof _ hi _ (by decide +kernel), hF _ _ l1, ⟨Nat.le_of_ble_eq_true rfl, fun p H' s n e' => hQ p H' s n e'⟩⟩⟩
  rw [decide_eq_false c36]
  refine iteF ?_
  refine ⟨rfl, h45, hI, _, rfl, ?_⟩
  by_cases c37 : i = 37
  · subst c37
    refine iteT ?_
    obtain ⟨x, y, rfl, l0, l1⟩ := look2 (show [("unit" : Str), ("store" : Str)].map (fun n => fs.lookup n) = ws.map some from hl)
    exact ⟨_, rfl, e, _, x, rfl, E, T.nof _ hi _ (by decide +kernel), hF _ _ l0, ⟨_, rfl, e, _, y, rfl, E, T.nof _ hi _ (by decide +kernel), hF _ _ l1, ⟨Nat.le_of_ble_eq_true rfl, fun p H' s n e' => hQ p H' s n e'⟩⟩⟩
  rw [decide_eq_false c37]
  refine iteF ?_
  refine ⟨rfl, h45, hI, _, rfl, ?_⟩
  by_cases c38 : i = 38
  · subst c38
    refine iteT ?_
    obtain ⟨x, y, z, rfl, l0, l1, l2⟩ := look3 (show [("reason" : Str), ("unit" : Str), ("word" : Str)].map (fun n => fs.lookup n) = ws.map some from hl)
    exact ⟨_, rfl, e, _, x, rfl, E, T.nof _ hi _ (by decide +kernel), hF _ _ l0, ⟨_, rfl, e, _, y, rfl, E, T.nof _ hi _ (by decide +kernel), hF _ _ l1, ⟨_, rfl, e, _, z, rfl, E, T.nof _ hi _ (by decide +kernel), hF _ _ l2, ⟨Nat.le_of_ble_eq_true rfl, fun p H' s n e' => hQ p H' s n e'⟩⟩⟩⟩
  rw [decide_eq_false c38]
  refine iteF ?_
  refine ⟨rfl, h45, hI, _, rfl, ?_⟩
  by_cases c39 : i = 39
  · subst c39
    refine iteT ?_
    obtain ⟨x, y, z, rfl, l0, l1, l2⟩ := look3 (show [("side" : Str), ("store" : Str), ("harm" : Str)].map (fun n => fs.lookup n) = ws.map some from hl)
    exact ⟨_, rfl, e, _, x, rfl, E, T.nof _ hi _ (by decide +kernel), hF _ _ l0, ⟨_, rfl, e, _, y, rfl, E, T.nof _ hi _ (by decide +kernel), hF _ _ l1, ⟨_, rfl, e, _, z, rfl, E, T.nof _ hi _ (by decide +kernel), hF _ _ l2, ⟨Nat.le_of_ble_eq_true rfl, fun p H' s n e' => hQ p H' s n e'⟩⟩⟩⟩
  rw [decide_eq_false c39]
  refine iteF ?_
  refine ⟨rfl, h45, hI, _, rfl, ?_⟩
  by_cases c40 : i = 40
  · subst c40
    refine iteT ?_
    obtain ⟨x, y, z, u, rfl, l0, l1, l2, l3⟩ := look4 (show [("unit" : Str), ("store" : Str), ("side" : Str), ("count" : Str)].map (fun n => fs.lookup n) = ws.map some from hl)
    exact ⟨_, rfl, e, _, x, rfl, E, T.nof _ hi _ (by decide +kernel), hF _ _ l0, ⟨_, rfl, e, _, y, rfl, E, T.nof _ hi _ (by decide +kernel), hF _ _ l1, ⟨_, rfl, e, _, z, rfl, E, T.nof _ hi _ (by decide +kernel), hF _ _ l2, ⟨_, rfl, e, _, u, rfl, E, T.nof _ hi _ (by decide +kernel), hF _ _ l3, ⟨Nat.le_of_ble_eq_true rfl, fun p H' s n e' => hQ p H' s n e'⟩⟩⟩⟩⟩
  rw [decide_eq_false c40]
  refine iteF ?_
  refine ⟨rfl, h45, hI, _, rfl, ?_⟩
  by_cases c41 : i = 41
  · subst c41
    refine iteT ?_
    obtain ⟨x, y, z, u, v, rfl, l0, l1, l2, l3, l4⟩ := look5 (show [("side" : Str), ("store" : Str), ("plan" : Str), ("payoff" : Str), ("answer" : Str)].map (fun n => fs.lookup n) = ws.map some from hl)
    exact ⟨_, rfl, e, _, x, rfl, E, T.nof _ hi _ (by decide +kernel), hF _ _ l0, ⟨_, rfl, e, _, y, rfl, E, T.nof _ hi _ (by decide +kernel), hF _ _ l1, ⟨_, rfl, e, _, z, rfl, E, T.nof _ hi _ (by decide +kernel), hF _ _ l2, ⟨_, rfl, e, _, u, rfl, E, T.nof _ hi _ (by decide +kernel), hF _ _ l3, ⟨_, rfl, e, _, v, rfl, E, T.nof _ hi _ (by decide +kernel), hF _ _ l4, ⟨Nat.le_of_ble_eq_true rfl, fun p H' s n e' => hQ p H' s n e'⟩⟩⟩⟩⟩⟩
  rw [decide_eq_false c41]
  refine iteF ?_
  have lo : i < 32 := by omega
  have fe : flds i = (["given"] : List Str) := by unfold flds; rw [if_pos lo]
  rw [fe] at hl
  obtain ⟨x, rfl, l0⟩ := look1 hl
  exact ⟨_, rfl, e, _, x, rfl, E, T.nof _ hi _ (by rw [fe]; exact List.mem_cons_self ..), hF _ _ l0, Nat.le_of_ble_eq_true rfl, fun p H' s n e' => hQ p H' s n e'⟩
section
variable {P : Program} {w : World} {K : PySem.W.Frag} {mg : Str → Option Value} {b0 : Heap} {f : Addr} {fd : FuncData}
theorem ok_kept (F : FnP K "_law_kept" sKept f fd) (T : Txt K mg) : FnOk P w K mg b0 CX0 1 f fd ["e"] (spKept K) := by
  refine FunD.ok F scKept (fun vs H Q E h => ?_) (fun cv A ou s H vs Q E hr h => ?_)
  · obtain ⟨e, i, fs, ws, rfl, _⟩ := h
    rfl
  obtain ⟨e, i, fs, ws, rfl, hi, he, hl, hQ⟩ := h
  refine ⟨t_kept (cxOf CX0 P w K mg b0 ["e"] "_law_kept" (defScope sKept) f cv A ou s H E).nox e i, PSs.nox ?_, rd_kept _ T hi he.isE (fun f v l => he.hasE l) hl hQ⟩
  exact pss_cons (ps_if (PW.pt (pw_or (pt_val (pe_is T 32 rfl (Or.inl rfl) rfl rfl (by decide) rfl (by decide))) (pw_or1 (pt_val (pe_is T 33 rfl (Or.inl rfl) rfl rfl (by decide) rfl (by decide)))))) (pss_one (ps_ret (pe_L (pa_cons (pe_at (pv 0)) pa_nil)))) pss_nil)
      (pss_cons (ps_if (pt_val (pe_is T 34 rfl (Or.inl rfl) rfl rfl (by decide) rfl (by decide))) (pss_one (ps_ret (pe_L (pa_cons (pe_at (pv 0)) pa_nil)))) pss_nil)
      (pss_cons (ps_if (pt_val (pe_is T 35 rfl (Or.inl rfl) rfl rfl (by decide) rfl (by decide))) (pss_one (ps_ret (pe_L (pa_cons (pe_at (pv 0)) pa_nil)))) pss_nil)
      (pss_cons (ps_if (pt_val (pe_is T 36 rfl (Or.inl rfl) rfl rfl (by decide) rfl (by decide))) (pss_one (ps_ret (pe_L (pa_cons (pe_at (pv 0)) (pa_cons (pe_at (pv 0)) pa_nil))))) pss_nil)
      (pss_cons (ps_if (pt_val (pe_is T 37 rfl (Or.inl rfl) rfl rfl (by decide) rfl (by decide))) (pss_one (ps_ret (pe_L (pa_cons (pe_at (pv 0)) (pa_cons (pe_at (pv 0)) pa_nil))))) pss_nil)
      (pss_cons (ps_if (pt_val (pe_is T 38 rfl (Or.inl rfl) rfl rfl (by decide) rfl (by decide))) (pss_one (ps_ret (pe_L (pa_cons (pe_at (pv 0)) (pa_cons (pe_at (pv 0)) (pa_cons (pe_at (pv 0)) pa_nil)))))) pss_nil)
      (pss_cons (ps_if (pt_val (pe_is T 39 rfl (Or.inl rfl) rfl rfl (by decide) rfl (by decide))) (pss_one (ps_ret (pe_L (pa_cons (pe_at (pv 0)) (pa_cons (pe_at (pv 0)) (pa_cons (pe_at (pv 0)) pa_nil)))))) pss_nil)
      (pss_cons (ps_if (pt_val (pe_is T 40 rfl (Or.inl rfl) rfl rfl (by decide) rfl (by decide))) (pss_one (ps_ret (pe_L (pa_cons (pe_at (pv 0)) (pa_cons (pe_at (pv 0)) (pa_cons (pe_at (pv 0)) (pa_cons (pe_at (pv 0)) pa_nil))))))) pss_nil)
      (pss_one (ps_ret (pe_ifExp (pt_val (pe_is T 41 rfl (Or.inl rfl) rfl rfl (by decide) rfl (by decide))) (pe_L (pa_cons (pe_at (pv 0)) (pa_cons (pe_at (pv 0)) (pa_cons (pe_at (pv 0)) (pa_cons (pe_at (pv 0)) (pa_cons (pe_at (pv 0)) pa_nil)))))) (pe_L (pa_cons (pe_at (pv 0)) pa_nil))))))))))))
end

/-! ### _law_is -/
def spIs (K : PySem.W.Frag) : Sp := fun vs H Q _ => ∃ (e : Addr) (i : Nat) (sp : Int), vs = [.ref e, .int sp] ∧ i < 45 ∧ ErC H e (Cl K i) ∧ ∀ H', Same H H' → Q (.bl (decide ((i : Int) = sp))) H'
theorem scIs : FnScope ["e", "spot", "sorts", "k"] ["e", "spot"] (defScope sIs) := ⟨rfl, rfl, rfl, by decide +kernel, rfl, by decide +kernel, by decide +kernel⟩
theorem pe_isP {X : Cx} (T : Txt X.K X.mg) {e : Addr} {i : Nat} {p1 p2 p3 pos : Pos} (hN : X.N[0]? = some ("e" : Str)) (hv : Vis X.env.scope "e") (hg : Gl X "isinstance") (hx : Gl X "PactError") :
    PE X (.Call (.Name "isinstance" p1) [.Name "e" p2, .Name "PactError" p3] [] pos) (fun σ H Q => σ[0]? = some (some (.ref e)) ∧ i < 45 ∧ IsE X e (Cl X.K i) H ∧ Q (.bl true) H) := by
  refine PE.imp (pe_callB (call_is T.G) hg T.fisi (by decide +kernel) (pa_cons (pe_var hN hv) (pa_cons (pe_glob (v := .ref (PEc X.K)) hx T.gP rfl) pa_nil))) ?_
  rintro σ H Q ⟨h0, hi, hI, q⟩
  exact ⟨_, h0, e, Cl X.K i, _, _, _, rfl, fun u h => h, T.ec i hi, hI, T.kitP i hi, q⟩
theorem pe_isV {X : Cx} (T : Txt X.K X.mg) {e : Addr} {i : Nat} {p1 p2 p3 pos : Pos} (hN : X.N[0]? = some ("e" : Str)) (hv : Vis X.env.scope "e") (hg : Gl X "isinstance") (hx : Gl X "ValueError") :
    PE X (.Call (.Name "isinstance" p1) [.Name "e" p2, .Name "ValueError" p3] [] pos) (fun σ H Q => σ[0]? = some (some (.ref e)) ∧ i < 45 ∧ IsE X e (Cl X.K i) H ∧ Q (.bl true) H) := by
  refine PE.imp (pe_callB (call_is T.G) hg T.fisi (by decide +kernel) (pa_cons (pe_var hN hv) (pa_cons (pe_bltn (v := .ty "ValueError") (u := .type "ValueError") hx T.fval (by decide +kernel) rfl) pa_nil))) ?_
  rintro σ H Q ⟨h0, hi, hI, q⟩
  exact ⟨_, h0, e, Cl X.K i, _, _, _, rfl, fun u h => h, T.ec i hi, hI, T.kitV i hi, q⟩
theorem sorts_at {i j : Nat} (hj : j < 45) : (sorts45 i)[j]? = some (.bl (decide (i = j))) := by
  unfold sorts45
  rw [List.getElem?_map, List.getElem?_range hj]
  rfl
theorem sorts_len {i : Nat} : (sorts45 i).length = 45 := by
  unfold sorts45
  rw [List.length_map, List.length_range]
theorem eq_one (i : Nat) (sp : Int) : PyData.eqv (.list [.int (i : Int)]) (.list [.int sp]) = decide ((i : Int) = sp) := by
  show ((i : Int) == sp && true) = _
  rw [Bool.and_true]
  rfl
/-- what the comprehension has gathered behind j turns -/
def got (i j : Nat) : List V := if i < j then [.int (i : Int)] else []
theorem got_len {i j : Nat} : (got i j).length < sizeLine := by
  unfold got
  split
  · show 1 < sizeLine
    decide
  · show 0 < sizeLine
    decide
section
variable {P : Program} {w : World} {K : PySem.W.Frag} {mg : Str → Option Value} {b0 : Heap} {f fS : Addr} {fd fdS : FuncData}
theorem ok_is (F : FnP K "_law_is" sIs f fd) (T : Txt K mg) (FS : FnP K "_law_sorts" sSorts fS fdS) (gS : mg "_law_sorts" = some (.ref fS)) : FnOk P w K mg b0 CX0 2 f fd ["e", "spot"] (spIs K) := by
  have GS : FnOk P w K mg b0 CX0 1 fS fdS ["e"] (spSorts K) := ok_sorts FS T
  have bS : Binds K fdS ["e"] [] := FS.bindsN fun _ _ _ _ _ _ us hl => match us, hl with | [_], _ => rfl
  refine FunD.ok F scIs (fun vs H Q E h => ?_) (fun cv A ou s H vs Q E hr h => ?_)
  · obtain ⟨e, i, sp, rfl, _⟩ := h
    rfl
  obtain ⟨e, i, sp, rfl, hi, he, hQ⟩ := h
  refine ⟨_, PSs.nox (pss_cons (ps_set (i := 2) scIs.nd rfl (Or.inr rfl) (pe_call GS hr rfl gS FS.kp bS .nil pass0 (pa_cons (pv 0) pa_nil)))
    (pss_cons (ps_if (PW.pt (pw_or (pt_not (pt_val (pe_isP (e := e) (i := i) T rfl (Or.inl rfl) rfl rfl))) (pw_or1 (pt_not (pt_val (pe_isV (e := e) (i := i) T rfl (Or.inl rfl) rfl rfl)))))) (pss_one (ps_ret pe_bl)) pss_nil)
    (pss_one (ps_ret (pe_cmpR (op_eqD hr.units)
      (pe_lc (own := [("k", 3)]) (g := gName 3) (tt := tB (tOp (rIxL K) (tVar 2) (tVar 3))) (te := tVar 3) rfl scIs.nd
        (pi_range1 rfl T.fran (pa_cons (pe_callB call_len rfl T.flen boot_len (pa_cons (pv 2) pa_nil)) pa_nil))
        (blkOk_by (own := [("k", 3)]) (N := ["e", "spot", "sorts", "k"]) (sc := defScope sIs) (by decide +kernel))
        (fun _ _ _ _ _ => pg_name (i := 3) scIs.nd rfl (Or.inl rfl)) (fun _ _ _ _ _ => pts_one (pt_val (pe_ix ix_list (pv 2) (pv 3) (fun _ _ => rfl)))) (fun _ _ _ _ _ => pv 3))
      (pe_lst (pa_cons (pv 1) pa_nil)) (nomark _)))))), ?_⟩
  refine ⟨_, rfl, e, i, rfl, hi, he, fun a H1 s1 e1 => ?_⟩
  have hI : IsE (cxOf CX0 P w K mg b0 ["e", "spot", "sorts", "k"] "_law_is" (defScope sIs) f cv A ou s H E).nox e (Cl K i) H1 := (he.same s1).isE
  refine ⟨rfl, hi, hI, _, rfl, iteF ⟨rfl, hi, hI, _, rfl, iteF ?_⟩⟩
  refine ⟨_, rfl, _, 45, rfl, Or.inl ⟨_, SqL.of e1, sorts_len.symm⟩, (45 : Int), rfl, by decide, by decide, fun D hD => ?_⟩
  refine lc_range (lo := 0) (n := 45) (fun j H' => Same H1 H' ∧ H' D = some (.lst (got i j))) ⟨same_new hD, upd_same⟩ ?_ ?_
  · rintro j H2 hj ⟨s2, e2⟩
    refine ⟨rfl, ?_⟩
    refine ⟨_, rfl, _, rfl, a, sorts45 i, (j : Int), .bl (decide (i = j)), rfl, by rw [Int.zero_add], SqL.of (s2 _ _ e1), atI_nat (sorts_at hj), _, rfl, ?_⟩
    by_cases c : i = j
    · rw [decide_eq_true c]
      refine iteT ⟨_, rfl, _, e2, got_len, fun b o q => ?_, ?_⟩
      · rw [upd_ne (ne_of_none q hD)]
        exact s2 b o q
      · rw [upd_same]
        have g1 : got i j = [] := if_neg (by omega)
        have g2 : got i (j + 1) = [.int (i : Int)] := if_pos (by omega)
        rw [g1, g2, Int.zero_add, c]
        rfl
    · rw [decide_eq_false c]
      refine iteF ⟨s2, ?_⟩
      rw [e2]
      unfold got
      by_cases lt : i < j
      · rw [if_pos lt, if_pos (by omega)]
      · rw [if_neg lt, if_neg (by omega)]
  · rintro H2 ⟨s2, e2⟩
    have g : got i 45 = [.int (i : Int)] := if_pos hi
    rw [g] at e2
    refine ⟨_, rfl, by show 1 ≤ sizeLine; decide, fun p hp => ?_⟩
    refine ⟨.list [.int (i : Int)], .list [.int sp], .lst (SqL.of (by rw [upd_ne (ne_of_none e2 hp)]; exact e2)) (.cons (.int _) .nil), .lst (SqL.of upd_same) (.cons (.int _) .nil), rfl, rfl, ?_⟩
    rw [eq_one]
    exact hQ _ ((s1.trans s2).trans (same_new hp))
end
end Kz

namespace Kz
open PySem PySem.Spec PyProof.Rows L2

/-! ### draws -/
theorem cut_one (ns : List Int) : cutV (ns.map V.int) none (some 1) = (ns.take 1).map V.int := by
  cases ns with
  | nil => rfl
  | cons n r =>
    unfold cutV
    have e1 : HT.sIx ((n :: r).map V.int).length 0 none = 0 := rfl
    have e2 : HT.sIx ((n :: r).map V.int).length ((n :: r).map V.int).length (some 1) = 1 := by
      rw [List.length_map]
      have e3 : HT.sIx (n :: r).length (n :: r).length (some ((1 : Nat) : Int)) = min 1 (n :: r).length := HT.sIx_nat _ _ 1
      rw [List.length_cons] at e3
      rw [List.length_cons]
      exact e3.trans (by omega)
    rw [e1, e2]
    rfl
theorem emod_b (x : Int) : -(2 ^ 64) < x % 2147483647 ∧ x % 2147483647 < 2 ^ 64 := by omega
theorem pow_b (x c : Int) (h0 : 0 ≤ c) (h1 : c ≤ 10001) : (x % 2147483647 * 48271 + 7919 * c).natAbs < 2 ^ 64 := by omega
def spCell (K : PySem.W.Frag) : Sp := fun vs H Q _ => ∃ (a : Addr) (ns : List Int) (k : Int), vs = [.ref a, .int k] ∧ SqL K H a (ns.map V.int) ∧ 0 ≤ k ∧ k ≤ 100 ∧ ∀ n H', Same H H' → Q (.int n) H'
theorem scCell : FnScope ["script", "k"] ["script", "k"] (defScope sCell) := ⟨rfl, rfl, rfl, by decide +kernel, rfl, by decide +kernel, by decide +kernel⟩
def spBox : Sp := fun vs H Q _ => ∃ n : Int, vs = [.int n] ∧ ∀ p H' (a : Int) (g : Bool) (m : Int), Same H H' → H p = none → 0 ≤ a → 0 ≤ m → m < 2147483629 → H' p = some (.lst [.int a, .bl g, .int m, .int 0]) → Q (.ref p) H'
theorem scBox : FnScope ["great"] ["great"] (defScope sBox) := ⟨rfl, rfl, rfl, by decide +kernel, rfl, by decide +kernel, by decide +kernel⟩
/-- the box at b, from which at most c numbers were taken -/
def BoxAt (H : Hp) (b : Addr) (c : Int) : Prop := ∃ (a : Int) (g : Bool) (m c' : Int), H b = some (.lst [.int a, .bl g, .int m, .int c']) ∧ 0 ≤ a ∧ 0 ≤ m ∧ m < 2147483629 ∧ 0 ≤ c' ∧ c' ≤ c
def spTake : Sp := fun vs H Q _ => ∃ (b : Addr) (many c : Int), vs = [.ref b, .int many] ∧ 0 < many ∧ many < 1000 ∧ BoxAt H b c ∧ c ≤ 10000 ∧ ∀ r H', 0 ≤ r → r < many → BoxAt H' b (c + 1) → Save b H H' → Q (.int r) H'
theorem scTake : FnScope ["box", "many", "digit", "mixed"] ["box", "many"] (defScope sTake) := ⟨rfl, rfl, rfl, by decide +kernel, rfl, by decide +kernel, by decide +kernel⟩
section
variable {P : Program} {w : World} {K : PySem.W.Frag} {mg : Str → Option Value} {b0 : Heap} {f : Addr} {fd : FuncData}
theorem ok_cell (F : FnP K "_law_cell" sCell f fd) (T : Txt K mg) : FnOk P w K mg b0 CX0 1 f fd ["script", "k"] (spCell K) := by
  refine FunD.ok F scCell (fun vs H Q E h => ?_) (fun cv A ou s H vs Q E hr h => ?_)
  · obtain ⟨a, ns, k, rfl, _⟩ := h
    rfl
  obtain ⟨a, ns, k, rfl, hS, h0, h1, hQ⟩ := h
  refine ⟨_, PSs.nox (pss_one (ps_ret (pe_ifExp (pt_cmpR op_lt (pv 1) (pe_callB call_len rfl T.flen boot_len (pa_cons (pv 0) pa_nil)) (nomark _)) (pe_ix ix_list (pv 0) (pv 1) (fun _ _ => rfl))
    (pe_op op_add (pe_op op_mul pe_int (pv 1)) (pe_op op_mod (pe_callTy call_int1 rfl T.fint (by decide +kernel) (pa_cons (pe_callB (cr_sum rfl) rfl T.fsum (by decide +kernel) (pa_cons (pe_slice sl_list (pv 0) po_none (po_some pe_int)) pa_nil)) pa_nil)) pe_int))))), ?_⟩
  refine ⟨_, rfl, _, rfl, _, (ns.map V.int).length, rfl, Or.inl ⟨_, hS, rfl⟩, _, _, rfl, rfl, _, rfl, ?_⟩
  rw [List.length_map]
  by_cases c : k < (ns.length : Int)
  · rw [decide_eq_true c]
    have hk : k.toNat < ns.length := by omega
    have ek : ((k.toNat : Nat) : Int) = k := Int.toNat_of_nonneg h0
    refine iteT ⟨_, rfl, _, rfl, a, _, k, .int ns[k.toNat], rfl, rfl, hS, ?_, hQ _ _ (Same.refl _)⟩
    have z := atI_nat (xs := ns.map V.int) (j := k.toNat) (v := V.int ns[k.toNat]) (by rw [List.getElem?_map, List.getElem?_eq_getElem hk]; rfl)
    rw [ek] at z
    exact z
  · rw [decide_eq_false c]
    refine iteF ⟨_, rfl, _, _, rfl, rfl, .inl ⟨by decide, by decide⟩, ?_⟩
    refine ⟨_, rfl, 1, rfl, a, _, rfl, hS, fun p hp => ?_⟩
    refine ⟨p, ns.take 1, rfl, SqL.of (by rw [upd_same, cut_one]), .inl ⟨_, rfl, _, _, rfl, rfl, (show (0 : Int) < 1000003 by decide), _, _, rfl, rfl, hQ _ _ (same_new hp)⟩⟩
theorem ok_box (F : FnP K "_law_box" sBox f fd) (T : Txt K mg) : FnOk P w K mg b0 CX0 1 f fd ["great"] spBox := by
  refine FunD.ok F scBox (fun vs H Q E h => ?_) (fun cv A ou s H vs Q E hr h => ?_)
  · obtain ⟨n, rfl, _⟩ := h
    rfl
  obtain ⟨n, rfl, hQ⟩ := h
  refine ⟨_, PSs.nox (pss_one (ps_ret (pe_lst (pa_cons (pe_callB call_abs rfl T.fabs (by decide +kernel) (pa_cons (pv 0) pa_nil))
    (pa_cons (pe_cmpR op_ge (pe_callB call_abs rfl T.fabs (by decide +kernel) (pa_cons (pv 0) pa_nil)) (pe_op op_pow pe_int pe_int) (nomark _))
    (pa_cons (pe_op op_mod (pe_callTy call_int1 rfl T.fint (by decide +kernel) (pa_cons (pe_callB call_abs rfl T.fabs (by decide +kernel) (pa_cons (pv 0) pa_nil)) pa_nil)) pe_int)
    (pa_cons pe_int pa_nil))))))), ?_⟩
  refine ⟨_, rfl, n, rfl, _, rfl, n, rfl, _, _, rfl, rfl, ⟨by decide, by decide, by decide⟩, _, _, rfl, rfl, ?_⟩
  refine ⟨_, rfl, n, rfl, .inl ⟨_, rfl, _, _, rfl, rfl, (show (0 : Int) < 2147483629 by decide), ?_⟩⟩
  refine ⟨by show 4 ≤ sizeLine; decide, fun p hp => ?_⟩
  refine hQ p _ _ _ _ (same_new hp) hp ?_ ?_ ?_ upd_same
  · split <;> omega
  · exact Int.emod_nonneg _ (by decide)
  · exact Int.emod_lt_of_pos _ (by decide)
theorem ok_take (F : FnP K "_law_take" sTake f fd) (T : Txt K mg) : FnOk P w K mg b0 CX0 1 f fd ["box", "many"] spTake := by
  refine FunD.ok F scTake (fun vs H Q E h => ?_) (fun cv A ou s H vs Q E hr h => ?_)
  · obtain ⟨b, many, c, rfl, _⟩ := h
    rfl
  obtain ⟨b, many, c, rfl, m0, m1, ⟨a, g, m, c', hb, a0, l0, l1, k0, k1⟩, hc, hQ⟩ := h
  refine ⟨_, PSs.nox (pss_cons (ps_if (PW.pt (pw_and (pt_val (pe_ix ix_list (pv 0) pe_int (fun _ _ => rfl))) (pw_and1 (pt_cmpR op_gt (pe_ix ix_list (pv 0) pe_int (fun _ _ => rfl)) pe_int (nomark _)))))
      (pss_cons (ps_set (i := 2) scTake.nd rfl (Or.inl rfl) (pe_op op_mod (pe_callTy call_int1 rfl T.fint (by decide +kernel) (pa_cons (pe_ix ix_list (pv 0) pe_int (fun _ _ => rfl)) pa_nil)) (pv 1)))
      (pss_cons (ps_asg (pe_op op_fdiv (pe_ix ix_list (pv 0) pe_int (fun _ _ => rfl)) (pv 1)) (pg_sub (pv 0) pe_int set_list))
      (pss_one (ps_ret (pv 2))))) pss_nil)
    (pss_cons (ps_asg (pe_op op_add (pe_ix ix_list (pv 0) pe_int (fun _ _ => rfl)) pe_int) (pg_sub (pv 0) pe_int set_list))
    (pss_cons (ps_set (i := 3) scTake.nd rfl (Or.inl rfl) (pe_op op_mod (pe_callTy call_int1 rfl T.fint (by decide +kernel) (pa_cons (pe_op op_pow (pe_op op_add (pe_op op_add (pe_ix ix_list (pv 0) pe_int (fun _ _ => rfl)) (pe_op op_mul pe_int (pe_ix ix_list (pv 0) pe_int (fun _ _ => rfl)))) pe_int) pe_int) pa_nil)) pe_int))
    (pss_one (ps_ret (pe_op op_mod (pe_op op_fdiv (pe_op op_mod (pe_callTy call_int1 rfl T.fint (by decide +kernel) (pa_cons (pe_op op_pow (pe_op op_add (pe_op op_mul (pv 3) pe_int) (pe_op op_mul pe_int (pe_ix ix_list (pv 0) pe_int (fun _ _ => rfl)))) pe_int) pa_nil)) pe_int) pe_int) (pv 1))))))), ?_⟩
  have H1 : SqL K H b [.int a, .bl g, .int m, .int c'] := SqL.of hb
  refine ⟨_, rfl, b, _, 1, .bl g, rfl, rfl, H1, rfl, _, rfl, ?_⟩
  cases g with
  | true =>
    refine iteT ⟨_, rfl, b, _, 0, .int a, rfl, rfl, H1, rfl, _, _, rfl, rfl, _, rfl, ?_⟩
    by_cases pos : 0 < a
    · rw [decide_eq_true pos]
      refine iteT ⟨_, rfl, b, _, 0, .int a, rfl, rfl, H1, rfl, .inl ⟨_, rfl, _, rfl, _, _, rfl, rfl, m0, ?_⟩⟩
      refine ⟨_, rfl, b, _, 0, .int a, rfl, rfl, H1, rfl, _, rfl, _, _, rfl, rfl, ⟨m0, by omega⟩, ?_⟩
      refine ⟨_, rfl, b, _, 0, 0, rfl, rfl, hb, rfl, ?_⟩
      refine ⟨_, rfl, hQ _ _ (Int.emod_nonneg _ (by omega)) (Int.emod_lt_of_pos _ m0) ⟨a / many, true, m, c', upd_same, Int.ediv_nonneg a0 (by omega), l0, l1, k0, by omega⟩ fun q o n e => ?_⟩
      rw [upd_ne n]
      exact e
    · rw [decide_eq_false pos]
      refine iteF ?_
      refine ⟨_, rfl, b, _, 3, .int c', rfl, rfl, H1, rfl, _, _, rfl, rfl, _, rfl, b, _, 3, 3, rfl, rfl, hb, rfl, ?_⟩
      have H2 : SqL K (upd H b (.lst [.int a, .bl true, .int m, .int (c' + 1)])) b [.int a, .bl true, .int m, .int (c' + 1)] := SqL.of upd_same
      refine ⟨_, rfl, b, _, 2, .int m, rfl, rfl, H2, rfl, _, rfl, b, _, 3, .int (c' + 1), rfl, rfl, H2, rfl, _, _, rfl, rfl, .inl ⟨by decide, by decide⟩, _, _, rfl, rfl, _, _, rfl, rfl, _, _, rfl, rfl, ⟨by decide, by decide, by omega⟩, .inl ⟨_, rfl, _, _, rfl, rfl, (show (0 : Int) < 2147483647 by decide), ?_⟩⟩
      refine ⟨_, rfl, _, _, rfl, rfl, .inl (emod_b _), _, rfl, b, _, 3, .int (c' + 1), rfl, rfl, H2, rfl, _, _, rfl, rfl, .inl ⟨by decide, by decide⟩, _, _, rfl, rfl, _, _, rfl, rfl, ⟨by decide, by decide, pow_b _ _ (by omega) (by omega)⟩, .inl ⟨_, rfl, _, _, rfl, rfl, (show (0 : Int) < 2147483587 by decide), _, _, rfl, rfl, ⟨by decide, by decide⟩, ?_⟩⟩
      refine ⟨_, rfl, _, _, rfl, rfl, m0, hQ _ _ (Int.emod_nonneg _ (by omega)) (Int.emod_lt_of_pos _ m0) ⟨a, true, m, c' + 1, upd_same, a0, l0, l1, by omega, by omega⟩ fun q o n e => ?_⟩
      rw [upd_ne n]
      exact e
  | false =>
    refine iteF ?_
    refine ⟨_, rfl, b, _, 3, .int c', rfl, rfl, H1, rfl, _, _, rfl, rfl, _, rfl, b, _, 3, 3, rfl, rfl, hb, rfl, ?_⟩
    have H2 : SqL K (upd H b (.lst [.int a, .bl false, .int m, .int (c' + 1)])) b [.int a, .bl false, .int m, .int (c' + 1)] := SqL.of upd_same
    refine ⟨_, rfl, b, _, 2, .int m, rfl, rfl, H2, rfl, _, rfl, b, _, 3, .int (c' + 1), rfl, rfl, H2, rfl, _, _, rfl, rfl, .inl ⟨by decide, by decide⟩, _, _, rfl, rfl, _, _, rfl, rfl, _, _, rfl, rfl, ⟨by decide, by decide, by omega⟩, .inl ⟨_, rfl, _, _, rfl, rfl, (show (0 : Int) < 2147483647 by decide), ?_⟩⟩
    refine ⟨_, rfl, _, _, rfl, rfl, .inl (emod_b _), _, rfl, b, _, 3, .int (c' + 1), rfl, rfl, H2, rfl, _, _, rfl, rfl, .inl ⟨by decide, by decide⟩, _, _, rfl, rfl, _, _, rfl, rfl, ⟨by decide, by decide, pow_b _ _ (by omega) (by omega)⟩, .inl ⟨_, rfl, _, _, rfl, rfl, (show (0 : Int) < 2147483587 by decide), _, _, rfl, rfl, ⟨by decide, by decide⟩, ?_⟩⟩
    refine ⟨_, rfl, _, _, rfl, rfl, m0, hQ _ _ (Int.emod_nonneg _ (by omega)) (Int.emod_lt_of_pos _ m0) ⟨a, false, m, c' + 1, upd_same, a0, l0, l1, by omega, by omega⟩ fun q o n e => ?_⟩
    rw [upd_ne n]
    exact e
end
end Kz

namespace Kz
open PySem PySem.Spec PyProof.Rows L2

/-! ### _law_thing -/
theorem BoxAt.same {H H' : Hp} {b : Addr} {c : Int} (x : BoxAt H b c) (s : Same H H') : BoxAt H' b c := by
  obtain ⟨a, g, m, c', h, r⟩ := x
  exact ⟨a, g, m, c', s _ _ h, r⟩
theorem BoxAt.new {H H' : Hp} {b p : Addr} {c : Int} (x : BoxAt H b c) (s : Same H H') (n : H' p = none) : p ≠ b := by
  obtain ⟨a, g, m, c', h, r⟩ := x
  exact fun z => ne_of_none (s _ _ h) n z.symm
def tT (t : TA) : TE := fun σ H Q => t σ H fun ys H1 => ys.length ≤ 1000 ∧ ∀ p H', Same H1 H' → H1 p = none → H' p = some (.tup ys) → Q (.ref p) H'
theorem pe_T {X : Cx} {es : List Expr} {t : TA} {x1} {pos : Pos} (h : PA X es t) : PE X (.Tuple es x1 pos) (tT t) := by
  constructor
  intro pins s σ H Q I hq
  refine wpAny_Tuple_spliced (thn (h.run pos pins s σ H _ I hq) ?_)
  rintro us s1 ⟨xs, H1, I1, r, z, q⟩
  have fr : H1 s1.heap.objs.size = none := I1.hok.fresh (Nat.le_refl _)
  refine ⟨by rw [← r.length]; exact small z, .ref s1.heap.objs.size, upd H1 s1.heap.objs.size (.tup xs), ?_, rfl, q _ _ (same_new fr) fr upd_same⟩
  exact I1.laid (t' := s1.toks) (fun b u e => Heap.get?_push_of_some _ e) (Nat.le_refl _) ⟨small z, us, r, ⟨_, Heap.get?_push_size _ rfl, rfl, _, rfl⟩⟩
def menuD : List PyData := [.none, .bool true, .bool false, .int 0, .int 7, .str "", .str "hp", .list [], .list [.int 1, .str "a"], .tuple [], .tuple [.int 1, .bool true], .dict [], .dict [(.str "a", .list [.int 3])], .int (-(10 ^ (29 : Int).toNat)), .str "toss"]
theorem DqAll.get {z : Addr} {H : Hp} : ∀ {vs : List V} {ds : List PyData} {i : Nat} {v : V}, DqAll z H vs ds → vs[i]? = some v → ∃ d, ds[i]? = some d ∧ Dq z H v d
  | _, _, 0, _, .cons h _, e => by
    simp at e
    subst e
    exact ⟨_, rfl, h⟩
  | _, _, i + 1, _, .cons _ t, e => by
    obtain ⟨d, h1, h2⟩ := DqAll.get (i := i) t (by simpa using e)
    exact ⟨d, by simpa using h1, h2⟩
def spThing : Sp := fun vs H Q _ => ∃ (b : Addr) (c : Int), vs = [.ref b] ∧ BoxAt H b c ∧ c ≤ 9000 ∧ ∀ v d H', Save b H H' → BoxAt H' b (c + 1) → Dq b H' v d → d ∈ menuD → Q v H'
theorem scThing : FnScope ["box", "menu"] ["box"] (defScope sThing) := ⟨rfl, rfl, rfl, by decide +kernel, rfl, by decide +kernel, by decide +kernel⟩
section
variable {P : Program} {w : World} {K : PySem.W.Frag} {mg : Str → Option Value} {b0 : Heap} {f fT : Addr} {fd fdT : FuncData}
theorem ok_thing (F : FnP K "_law_thing" sThing f fd) (T : Txt K mg) (FT : FnP K "_law_take" sTake fT fdT) (gT : mg "_law_take" = some (.ref fT)) : FnOk P w K mg b0 CX0 2 f fd ["box"] spThing := by
  have GT : FnOk P w K mg b0 CX0 1 fT fdT ["box", "many"] spTake := ok_take FT T
  have bT : Binds K fdT ["box", "many"] [] := FT.bindsN fun _ _ _ _ _ _ us hl => match us, hl with | [_, _], _ => rfl
  refine FunD.ok F scThing (fun vs H Q E h => ?_) (fun cv A ou s H vs Q E hr h => ?_)
  · obtain ⟨b, c, rfl, _⟩ := h
    rfl
  obtain ⟨b, c, rfl, bx, hc, hQ⟩ := h
  refine ⟨_, PSs.nox (pss_cons (ps_set (i := 1) scThing.nd rfl (Or.inl rfl) (pe_L (pa_cons pe_non (pa_cons pe_bl (pa_cons pe_bl (pa_cons pe_int (pa_cons pe_int (pa_cons pe_str (pa_cons pe_str
    (pa_cons (pe_L pa_nil) (pa_cons (pe_L (pa_cons pe_int (pa_cons pe_str pa_nil))) (pa_cons (pe_T pa_nil) (pa_cons (pe_T (pa_cons pe_int (pa_cons pe_bl pa_nil))) (pa_cons pe_dnewK
    (pa_cons (pe_callTy (call_dictP rfl) rfl T.fdic (by decide +kernel) (pa_cons (pe_L (pa_cons (pe_T (pa_cons pe_str (pa_cons (pe_L (pa_cons pe_int pa_nil)) pa_nil))) pa_nil)) pa_nil))
    (pa_cons (pe_un un_neg (pe_op op_pow pe_int pe_int)) (pa_cons pe_str pa_nil)))))))))))))))))
    (pss_one (ps_ret (pe_ix ix_list (pv 1) (pe_call GT hr rfl gT FT.kp bT .nil pass0 (pa_cons (pv 0) (pa_cons pe_int pa_nil))) (fun _ _ => rfl))))), ?_⟩
  refine ⟨Nat.le_of_ble_eq_true rfl, fun p7 H7 s7 n7 e7 => ⟨Nat.le_of_ble_eq_true rfl, fun p8 H8 s8 n8 e8 => ⟨Nat.le_of_ble_eq_true rfl, fun p9 H9 s9 n9 e9 => ⟨Nat.le_of_ble_eq_true rfl, fun p10 H10 s10 n10 e10 => fun p11 n11 => ?_⟩⟩⟩⟩
  have s11 := same_new (o := .dK []) n11
  have e11 : upd H10 p11 (.dK []) p11 = some (.dK []) := upd_same
  generalize upd H10 p11 (.dK []) = H11 at s11 e11 ⊢
  refine ⟨Nat.le_of_ble_eq_true rfl, fun q1 G1 t1 m1 u1 => ⟨Nat.le_of_ble_eq_true rfl, fun q2 G2 t2 m2 u2 => ⟨Nat.le_of_ble_eq_true rfl, fun q3 G3 t3 m3 u3 => ?_⟩⟩⟩
  refine ⟨q3, [q2], [(.inr "a", .ref q1)], rfl, SqL.of u3, .cons (SqT.of (t3 _ _ u2)) .nil, fun p12 n12 => ?_⟩
  have s12 := same_new (o := .dK (mergeK [] [(.inr "a", V.ref q1)])) n12
  have e12 : upd G3 p12 (.dK (mergeK [] [(.inr "a", V.ref q1)])) p12 = some (.dK [(.inr "a", .ref q1)]) := upd_same
  generalize upd G3 p12 (.dK (mergeK [] [(.inr "a", V.ref q1)])) = H12 at s12 e12 ⊢
  refine ⟨_, _, rfl, rfl, ⟨by decide, by decide, by decide⟩, _, rfl, Nat.le_of_ble_eq_true rfl, fun pm Hm sm nm em => ?_⟩
  have a1 : Same H10 H12 := (((s11.trans t1).trans t2).trans t3).trans s12
  have a7 : Same H7 Hm := (((s8.trans s9).trans s10).trans a1).trans sm
  have a8 : Same H8 Hm := ((s9.trans s10).trans a1).trans sm
  have a9 : Same H9 Hm := (s10.trans a1).trans sm
  have a10 : Same H10 Hm := a1.trans sm
  have a11 : Same H11 Hm := (((t1.trans t2).trans t3).trans s12).trans sm
  have b1 : Same G1 Hm := ((t2.trans t3).trans s12).trans sm
  have all : Same H Hm := s7.trans a7
  have nn7 : p7 ≠ b := bx.new (Same.refl _) n7
  have nn8 : p8 ≠ b := bx.new s7 n8
  have nn9 : p9 ≠ b := bx.new (s7.trans s8) n9
  have nn10 : p10 ≠ b := bx.new ((s7.trans s8).trans s9) n10
  have s10' : Same H H10 := ((s7.trans s8).trans s9).trans s10
  have nn11 : p11 ≠ b := bx.new s10' n11
  have mm1 : q1 ≠ b := bx.new (s10'.trans s11) m1
  have nn12 : p12 ≠ b := bx.new ((((s10'.trans s11).trans t1).trans t2).trans t3) n12
  have nnm : pm ≠ b := bx.new (s10'.trans a1) nm
  refine ⟨_, rfl, _, rfl, b, 15, c, rfl, by decide, by decide, bx.same all, by omega, fun r H' r0 r1 bx' sv => ?_⟩
  have dq : DqAll b Hm _ menuD := .cons .non (.cons (.bl true) (.cons (.bl false) (.cons (.int 0) (.cons (.int 7) (.cons (.str "") (.cons (.str "hp") (.cons (.lst nn7 (a7 _ _ e7) .nil) (.cons (.lst nn8 (a8 _ _ e8) (.cons (.int 1) (.cons (.str "a") .nil))) (.cons (.tup nn9 (a9 _ _ e9) .nil)
    (.cons (.tup nn10 (a10 _ _ e10) (.cons (.int 1) (.cons (.bl true) .nil))) (.cons (.dic nn11 (a11 _ _ e11) .nil) (.cons (.dic nn12 (sm _ _ e12) (.cons (.lst mm1 (b1 _ _ u1) (.cons (.int 3) .nil)) .nil)) (.cons (.int _) (.cons (.str "toss") .nil))))))))))))))
  have lt : r.toNat < 15 := by omega
  obtain ⟨v, hv⟩ : ∃ v, (([V.non, .bl true, .bl false, .int 0, .int 7, .str "", .str "hp", .ref p7, .ref p8, .ref p9, .ref p10, .ref p11, .ref p12, .int (-(10 ^ (29 : Int).toNat)), .str "toss"] : List V))[r.toNat]? = some v :=
    ⟨_, List.getElem?_eq_getElem (by simpa using lt)⟩
  obtain ⟨d, hd, hq⟩ := dq.get hv
  have ix := atI_nat hv
  rw [Int.toNat_of_nonneg r0] at ix
  exact ⟨pm, _, r, v, rfl, rfl, SqL.of (sv _ _ nnm em), ix, hQ v d H' ((Save.of all).trans sv) bx' (hq.save sv) (List.mem_of_getElem? hd)⟩
end
end Kz

namespace Kz
open PySem PySem.Spec PyProof.Rows L2

/-! ### fields by their names -/
theorem look_mem : ∀ {l : List (Str × V)} {k : Str} {v : V}, (l.map (·.1)).Nodup → (k, v) ∈ l → l.lookup k = some v
  | [], _, _, _, h => nomatch h
  | (n, u) :: r, k, v, nd, h => by
    rw [lookup_put]
    have nd' := List.nodup_cons.mp (show (n :: r.map (·.1)).Nodup from nd)
    rcases List.mem_cons.mp h with e | h
    · cases e
      rw [if_pos rfl]
    · have ne : k ≠ n := fun z => nd'.1 (z ▸ List.mem_map.mpr ⟨(k, v), h, rfl⟩)
      rw [if_neg ne]
      exact look_mem nd'.2 h
theorem zip_look {ns : List Str} {ws : List V} (nd : ns.Nodup) (l : ws.length = ns.length) : ns.map (fun n => (ns.zip ws).reverse.lookup n) = ws.map some := by
  refine List.ext_getElem? fun i => ?_
  rw [List.getElem?_map, List.getElem?_map]
  by_cases h : i < ns.length
  · have h2 : i < ws.length := by omega
    rw [List.getElem?_eq_getElem h, List.getElem?_eq_getElem h2]
    refine congrArg some (look_mem ?_ ?_)
    · rw [List.map_reverse, List.map_fst_zip (by omega)]
      exact (List.reverse_perm ns).nodup_iff.mpr nd
    · rw [List.mem_reverse]
      have hz : i < (ns.zip ws).length := by rw [List.length_zip]; omega
      have e : (ns.zip ws)[i]'hz = (ns[i], ws[i]) := List.getElem_zip
      rw [← e]
      exact List.getElem_mem hz
  · rw [List.getElem?_eq_none (by omega), List.getElem?_eq_none (by omega)]
    rfl
/-- e: an error of the k-th class, its fields ws -/
def ErF (K : PySem.W.Frag) (H : Hp) (e : Addr) (k : Nat) (ws : List V) : Prop := ∃ fs, Er H e (Cl K k) fs ∧ (flds k).map (fun n => fs.lookup n) = ws.map some
theorem ErF.same {K : PySem.W.Frag} {H H' : Hp} {e : Addr} {k : Nat} {ws : List V} (x : ErF K H e k ws) (s : Same H H') : ErF K H' e k ws := by
  obtain ⟨fs, h, l⟩ := x
  exact ⟨fs, h.same s, l⟩
theorem ErF.of {K : PySem.W.Frag} {H : Hp} {e : Addr} {k : Nat} {ws : List V} (x : Er H e (Cl K k) ((flds k).zip ws).reverse) (nd : (flds k).Nodup) (l : ws.length = (flds k).length) : ErF K H e k ws := ⟨_, x, zip_look nd l⟩
/-- the calls of the six classes with several fields -/
def kbs (k : Nat) : List (Nat × List Str × List Nat) := match k with
  | 36 => [(1, ["column"], [0, 1]), (2, [], [0, 1]), (0, ["line", "column"], [0, 1]), (0, ["column", "line"], [1, 0])]
  | 37 => [(1, ["store"], [0, 1]), (2, [], [0, 1]), (0, ["unit", "store"], [0, 1]), (0, ["store", "unit"], [1, 0])]
  | 38 => [(2, ["word"], [0, 1, 2]), (3, [], [0, 1, 2]), (0, ["reason", "unit", "word"], [0, 1, 2]), (0, ["word", "unit", "reason"], [2, 1, 0])]
  | 39 => [(3, [], [0, 1, 2]), (1, ["harm", "store"], [0, 2, 1]), (0, ["side", "store", "harm"], [0, 1, 2]), (0, ["harm", "store", "side"], [2, 1, 0])]
  | 40 => [(2, ["count", "side"], [0, 1, 3, 2]), (4, [], [0, 1, 2, 3]), (0, ["unit", "store", "side", "count"], [0, 1, 2, 3]), (0, ["count", "side", "store", "unit"], [3, 2, 1, 0]), (0, ["count", "store", "unit", "side"], [2, 1, 3, 0])]
  | 41 => [(2, ["answer", "plan", "payoff"], [0, 1, 3, 4, 2]), (5, [], [0, 1, 2, 3, 4]), (0, ["side", "store", "plan", "payoff", "answer"], [0, 1, 2, 3, 4]), (0, ["answer", "payoff", "plan", "store", "side"], [4, 3, 2, 1, 0]), (1, ["store", "plan", "payoff", "answer"], [0, 1, 2, 3, 4])]
  | _ => []
structure MkN (P : Program) (w : World) (K : PySem.W.Frag) (mg : Str → Option Value) (b0 : Heap) (k : Nat) : Prop where
  m : ∃ fI fd, MkE P w K mg b0 1 (Cl K k) fI fd (flds k) ∧ ∀ q ∈ kbs k, KB fd (flds k) q.1 q.2.1 q.2.2

/-! ### _law_several -/
structure S5 (σ : L2.St) (a b c d e : V) : Prop where
  h0 : σ[0]? = some (some a)
  h1 : σ[1]? = some (some b)
  h2 : σ[2]? = some (some c)
  h3 : σ[3]? = some (some d)
  h4 : σ[4]? = some (some e)
def tEF (K : PySem.W.Frag) (a b c d e : V) (k : Nat) : TE := fun σ H Q => S5 σ a b c d e ∧ ∀ x H', Same H H' → ErF K H' x k ([a, b, c, d, e].take (flds k).length) → Q (.ref x) H'
def ErFs (K : PySem.W.Frag) (H : Hp) (ws : List V) : List Addr → List Nat → Prop := Paired fun x k => ErF K H x k (ws.take (flds k).length)
theorem ErFs.same {K : PySem.W.Frag} {H H' : Hp} {ws : List V} (s : Same H H') {xs : List Addr} {ks : List Nat} (h : ErFs K H ws xs ks) : ErFs K H' ws xs ks := Paired.mapP h fun _ _ x => x.same s
def tEFs (K : PySem.W.Frag) (a b c d e : V) (ks : List Nat) : TA := fun σ H Q => S5 σ a b c d e ∧ ∀ xs H', Same H H' → ErFs K H' [a, b, c, d, e] xs ks → Q (xs.map V.ref) H'
theorem pa_EF0 {X : Cx} {a b c d e : V} : PA X [] (tEFs X.K a b c d e []) := PA.imp pa_nil fun _ H _ q => q.2 [] H (Same.refl _) .nil
theorem pa_EF {X : Cx} {a b c d e : V} {k : Nat} {ks : List Nat} {x : Expr} {es : List Expr} (h : PE X x (tEF X.K a b c d e k)) (r : PA X es (tEFs X.K a b c d e ks)) (hs : starEach (x :: es) X.env = (false, eval x X.env) :: starEach es X.env := by rfl) : PA X (x :: es) (tEFs X.K a b c d e (k :: ks)) :=
  PA.imp (pa_cons h r hs) fun _ _ _ q => ⟨q.1, fun x H1 s1 e1 => ⟨q.1, fun xs H2 s2 e2 => q.2 (x :: xs) H2 (s1.trans s2) (.cons (e1.same s2) e2)⟩⟩
def spSev (K : PySem.W.Frag) : Sp := fun vs H Q _ => ∃ (a b c d e : V) (wy : Nat), vs = [a, b, c, d, e, .int wy] ∧ wy < 4 ∧ ∀ xs p H', Same H H' → ErFs K H' [a, b, c, d, e] xs [36, 37, 38, 39, 40, 41] → H' p = some (.lst (xs.map V.ref)) → Q (.ref p) H'
theorem scSev : FnScope ["one", "two", "three", "four", "five", "way", "found"] ["one", "two", "three", "four", "five", "way"] (defScope sSev) := ⟨rfl, rfl, rfl, by decide +kernel, rfl, by decide +kernel, by decide +kernel⟩
section
variable {P : Program} {w : World} {K : PySem.W.Frag} {mg : Str → Option Value} {b0 : Heap} {f : Addr} {fd : FuncData}
theorem ok_sev (F : FnP K "_law_several" sSev f fd) (T : Txt K mg) (M : ∀ k, 36 ≤ k → k < 42 → MkN P w K mg b0 k) : FnOk P w K mg b0 CX0 3 f fd ["one", "two", "three", "four", "five", "way"] (spSev K) := by
  obtain ⟨f36, d36, m36, kb36⟩ := (M 36 (by decide) (by decide)).m
  obtain ⟨f37, d37, m37, kb37⟩ := (M 37 (by decide) (by decide)).m
  obtain ⟨f38, d38, m38, kb38⟩ := (M 38 (by decide) (by decide)).m
  obtain ⟨f39, d39, m39, kb39⟩ := (M 39 (by decide) (by decide)).m
  obtain ⟨f40, d40, m40, kb40⟩ := (M 40 (by decide) (by decide)).m
  obtain ⟨f41, d41, m41, kb41⟩ := (M 41 (by decide) (by decide)).m
  refine FunD.ok F scSev (fun vs H Q E h => ?_) (fun cv A ou s H vs Q E hr h => ?_)
  · obtain ⟨a, b, c, d, e, wy, rfl, _⟩ := h
    rfl
  obtain ⟨a, b, c, d, e, wy, rfl, lt, hQ⟩ := h
  refine ⟨_, PSs.nox (pss_cons (ps_if (pt_cmpR op_eq (pv 5) pe_int (nomark _)) (pss_cons (ps_set (i := 6) scSev.nd rfl (Or.inl rfl) (pe_L (pa_EF (PE.imp (t' := tEF K a b c d e 36) (pe_mkE1 (n := 2) (ix := [0, 1]) m36 hr rfl (T.gc 36 (by decide)) (kb36 _ (List.mem_of_getElem? (i := 1) rfl)) (by decide) (pa_cons (pv 0) (pa_cons (pv 1) pa_nil))) fun σ H Q ⟨s, z⟩ => ⟨_, s.h0, _, s.h1, rfl, rfl, rfl, fun x H3 _ sm er => z x H3 sm (ErF.of er (by decide +kernel) rfl)⟩)
          (pa_EF (PE.imp (t' := tEF K a b c d e 37) (pe_mkE1 (n := 2) (ix := [0, 1]) m37 hr rfl (T.gc 37 (by decide)) (kb37 _ (List.mem_of_getElem? (i := 1) rfl)) (by decide) (pa_cons (pv 0) (pa_cons (pv 1) pa_nil))) fun σ H Q ⟨s, z⟩ => ⟨_, s.h0, _, s.h1, rfl, rfl, rfl, fun x H3 _ sm er => z x H3 sm (ErF.of er (by decide +kernel) rfl)⟩)
          (pa_EF (PE.imp (t' := tEF K a b c d e 38) (pe_mkE1 (n := 3) (ix := [0, 1, 2]) m38 hr rfl (T.gc 38 (by decide)) (kb38 _ (List.mem_of_getElem? (i := 1) rfl)) (by decide) (pa_cons (pv 0) (pa_cons (pv 1) (pa_cons (pv 2) pa_nil)))) fun σ H Q ⟨s, z⟩ => ⟨_, s.h0, _, s.h1, _, s.h2, rfl, rfl, rfl, fun x H3 _ sm er => z x H3 sm (ErF.of er (by decide +kernel) rfl)⟩)
          (pa_EF (PE.imp (t' := tEF K a b c d e 39) (pe_mkE1 (n := 3) (ix := [0, 1, 2]) m39 hr rfl (T.gc 39 (by decide)) (kb39 _ (List.mem_of_getElem? (i := 0) rfl)) (by decide) (pa_cons (pv 0) (pa_cons (pv 1) (pa_cons (pv 2) pa_nil)))) fun σ H Q ⟨s, z⟩ => ⟨_, s.h0, _, s.h1, _, s.h2, rfl, rfl, rfl, fun x H3 _ sm er => z x H3 sm (ErF.of er (by decide +kernel) rfl)⟩)
          pa_EF0))))))
        (pss_one (ps_ret (pe_op op_cat (pv 6) (pe_L (pa_EF (PE.imp (t' := tEF K a b c d e 40) (pe_mkE1 (n := 4) (ix := [0, 1, 2, 3]) m40 hr rfl (T.gc 40 (by decide)) (kb40 _ (List.mem_of_getElem? (i := 1) rfl)) (by decide) (pa_cons (pv 0) (pa_cons (pv 1) (pa_cons (pv 2) (pa_cons (pv 3) pa_nil))))) fun σ H Q ⟨s, z⟩ => ⟨_, s.h0, _, s.h1, _, s.h2, _, s.h3, rfl, rfl, rfl, fun x H3 _ sm er => z x H3 sm (ErF.of er (by decide +kernel) rfl)⟩)
          (pa_EF (PE.imp (t' := tEF K a b c d e 41) (pe_mkE1 (n := 5) (ix := [0, 1, 2, 3, 4]) m41 hr rfl (T.gc 41 (by decide)) (kb41 _ (List.mem_of_getElem? (i := 1) rfl)) (by decide) (pa_cons (pv 0) (pa_cons (pv 1) (pa_cons (pv 2) (pa_cons (pv 3) (pa_cons (pv 4) pa_nil)))))) fun σ H Q ⟨s, z⟩ => ⟨_, s.h0, _, s.h1, _, s.h2, _, s.h3, _, s.h4, rfl, rfl, rfl, fun x H3 _ sm er => z x H3 sm (ErF.of er (by decide +kernel) rfl)⟩)
          pa_EF0))))))) pss_nil)
      (pss_cons (ps_if (pt_cmpR op_eq (pv 5) pe_int (nomark _)) (pss_cons (ps_set (i := 6) scSev.nd rfl (Or.inl rfl) (pe_L (pa_EF (PE.imp (t' := tEF K a b c d e 36) (pe_mkE2 (ks := ["line", "column"]) (ix := [0, 1]) m36 hr rfl (T.gc 36 (by decide)) (kb36 _ (List.mem_of_getElem? (i := 2) rfl)) (pk_cons (pv 0) (pk_cons (pv 1) pk_nil))) fun σ H Q ⟨s, z⟩ => ⟨_, s.h0, _, s.h1, rfl, rfl, rfl, fun x H3 _ sm er => z x H3 sm (ErF.of er (by decide +kernel) rfl)⟩)
          (pa_EF (PE.imp (t' := tEF K a b c d e 37) (pe_mkE2 (ks := ["unit", "store"]) (ix := [0, 1]) m37 hr rfl (T.gc 37 (by decide)) (kb37 _ (List.mem_of_getElem? (i := 2) rfl)) (pk_cons (pv 0) (pk_cons (pv 1) pk_nil))) fun σ H Q ⟨s, z⟩ => ⟨_, s.h0, _, s.h1, rfl, rfl, rfl, fun x H3 _ sm er => z x H3 sm (ErF.of er (by decide +kernel) rfl)⟩)
          pa_EF0))))
        (pss_cons (ps_set (i := 6) scSev.nd rfl (Or.inl rfl) (pe_op op_cat (pv 6) (pe_L (pa_EF (PE.imp (t' := tEF K a b c d e 38) (pe_mkE2 (ks := ["reason", "unit", "word"]) (ix := [0, 1, 2]) m38 hr rfl (T.gc 38 (by decide)) (kb38 _ (List.mem_of_getElem? (i := 2) rfl)) (pk_cons (pv 0) (pk_cons (pv 1) (pk_cons (pv 2) pk_nil)))) fun σ H Q ⟨s, z⟩ => ⟨_, s.h0, _, s.h1, _, s.h2, rfl, rfl, rfl, fun x H3 _ sm er => z x H3 sm (ErF.of er (by decide +kernel) rfl)⟩)
          (pa_EF (PE.imp (t' := tEF K a b c d e 39) (pe_mkE2 (ks := ["side", "store", "harm"]) (ix := [0, 1, 2]) m39 hr rfl (T.gc 39 (by decide)) (kb39 _ (List.mem_of_getElem? (i := 2) rfl)) (pk_cons (pv 0) (pk_cons (pv 1) (pk_cons (pv 2) pk_nil)))) fun σ H Q ⟨s, z⟩ => ⟨_, s.h0, _, s.h1, _, s.h2, rfl, rfl, rfl, fun x H3 _ sm er => z x H3 sm (ErF.of er (by decide +kernel) rfl)⟩)
          pa_EF0)))))
        (pss_cons (ps_set (i := 6) scSev.nd rfl (Or.inl rfl) (pe_op op_cat (pv 6) (pe_L (pa_EF (PE.imp (t' := tEF K a b c d e 40) (pe_mkE2 (ks := ["unit", "store", "side", "count"]) (ix := [0, 1, 2, 3]) m40 hr rfl (T.gc 40 (by decide)) (kb40 _ (List.mem_of_getElem? (i := 2) rfl)) (pk_cons (pv 0) (pk_cons (pv 1) (pk_cons (pv 2) (pk_cons (pv 3) pk_nil))))) fun σ H Q ⟨s, z⟩ => ⟨_, s.h0, _, s.h1, _, s.h2, _, s.h3, rfl, rfl, rfl, fun x H3 _ sm er => z x H3 sm (ErF.of er (by decide +kernel) rfl)⟩)
          pa_EF0))))
        (pss_one (ps_ret (pe_op op_cat (pv 6) (pe_L (pa_EF (PE.imp (t' := tEF K a b c d e 41) (pe_mkE2 (ks := ["side", "store", "plan", "payoff", "answer"]) (ix := [0, 1, 2, 3, 4]) m41 hr rfl (T.gc 41 (by decide)) (kb41 _ (List.mem_of_getElem? (i := 2) rfl)) (pk_cons (pv 0) (pk_cons (pv 1) (pk_cons (pv 2) (pk_cons (pv 3) (pk_cons (pv 4) pk_nil)))))) fun σ H Q ⟨s, z⟩ => ⟨_, s.h0, _, s.h1, _, s.h2, _, s.h3, _, s.h4, rfl, rfl, rfl, fun x H3 _ sm er => z x H3 sm (ErF.of er (by decide +kernel) rfl)⟩)
          pa_EF0)))))))) pss_nil)
      (pss_cons (ps_if (pt_cmpR op_eq (pv 5) pe_int (nomark _)) (pss_cons (ps_set (i := 6) scSev.nd rfl (Or.inl rfl) (pe_L (pa_EF (PE.imp (t' := tEF K a b c d e 36) (pe_mkE2 (ks := ["column", "line"]) (ix := [1, 0]) m36 hr rfl (T.gc 36 (by decide)) (kb36 _ (List.mem_of_getElem? (i := 3) rfl)) (pk_cons (pv 1) (pk_cons (pv 0) pk_nil))) fun σ H Q ⟨s, z⟩ => ⟨_, s.h1, _, s.h0, rfl, rfl, rfl, fun x H3 _ sm er => z x H3 sm (ErF.of er (by decide +kernel) rfl)⟩)
          (pa_EF (PE.imp (t' := tEF K a b c d e 37) (pe_mkE2 (ks := ["store", "unit"]) (ix := [1, 0]) m37 hr rfl (T.gc 37 (by decide)) (kb37 _ (List.mem_of_getElem? (i := 3) rfl)) (pk_cons (pv 1) (pk_cons (pv 0) pk_nil))) fun σ H Q ⟨s, z⟩ => ⟨_, s.h1, _, s.h0, rfl, rfl, rfl, fun x H3 _ sm er => z x H3 sm (ErF.of er (by decide +kernel) rfl)⟩)
          pa_EF0))))
        (pss_cons (ps_set (i := 6) scSev.nd rfl (Or.inl rfl) (pe_op op_cat (pv 6) (pe_L (pa_EF (PE.imp (t' := tEF K a b c d e 38) (pe_mkE2 (ks := ["word", "unit", "reason"]) (ix := [2, 1, 0]) m38 hr rfl (T.gc 38 (by decide)) (kb38 _ (List.mem_of_getElem? (i := 3) rfl)) (pk_cons (pv 2) (pk_cons (pv 1) (pk_cons (pv 0) pk_nil)))) fun σ H Q ⟨s, z⟩ => ⟨_, s.h2, _, s.h1, _, s.h0, rfl, rfl, rfl, fun x H3 _ sm er => z x H3 sm (ErF.of er (by decide +kernel) rfl)⟩)
          (pa_EF (PE.imp (t' := tEF K a b c d e 39) (pe_mkE2 (ks := ["harm", "store", "side"]) (ix := [2, 1, 0]) m39 hr rfl (T.gc 39 (by decide)) (kb39 _ (List.mem_of_getElem? (i := 3) rfl)) (pk_cons (pv 2) (pk_cons (pv 1) (pk_cons (pv 0) pk_nil)))) fun σ H Q ⟨s, z⟩ => ⟨_, s.h2, _, s.h1, _, s.h0, rfl, rfl, rfl, fun x H3 _ sm er => z x H3 sm (ErF.of er (by decide +kernel) rfl)⟩)
          pa_EF0)))))
        (pss_cons (ps_set (i := 6) scSev.nd rfl (Or.inl rfl) (pe_op op_cat (pv 6) (pe_L (pa_EF (PE.imp (t' := tEF K a b c d e 40) (pe_mkE2 (ks := ["count", "side", "store", "unit"]) (ix := [3, 2, 1, 0]) m40 hr rfl (T.gc 40 (by decide)) (kb40 _ (List.mem_of_getElem? (i := 3) rfl)) (pk_cons (pv 3) (pk_cons (pv 2) (pk_cons (pv 1) (pk_cons (pv 0) pk_nil))))) fun σ H Q ⟨s, z⟩ => ⟨_, s.h3, _, s.h2, _, s.h1, _, s.h0, rfl, rfl, rfl, fun x H3 _ sm er => z x H3 sm (ErF.of er (by decide +kernel) rfl)⟩)
          pa_EF0))))
        (pss_one (ps_ret (pe_op op_cat (pv 6) (pe_L (pa_EF (PE.imp (t' := tEF K a b c d e 41) (pe_mkE2 (ks := ["answer", "payoff", "plan", "store", "side"]) (ix := [4, 3, 2, 1, 0]) m41 hr rfl (T.gc 41 (by decide)) (kb41 _ (List.mem_of_getElem? (i := 3) rfl)) (pk_cons (pv 4) (pk_cons (pv 3) (pk_cons (pv 2) (pk_cons (pv 1) (pk_cons (pv 0) pk_nil)))))) fun σ H Q ⟨s, z⟩ => ⟨_, s.h4, _, s.h3, _, s.h2, _, s.h1, _, s.h0, rfl, rfl, rfl, fun x H3 _ sm er => z x H3 sm (ErF.of er (by decide +kernel) rfl)⟩)
          pa_EF0)))))))) pss_nil)
      (pss_cons (ps_set (i := 6) scSev.nd rfl (Or.inl rfl) (pe_L (pa_EF (PE.imp (t' := tEF K a b c d e 36) (pe_mkE (n := 1) (ks := ["column"]) (ix := [0, 1]) m36 hr rfl (T.gc 36 (by decide)) (kb36 _ (List.mem_of_getElem? (i := 0) rfl)) (by decide) (pa_cons (pv 0) pa_nil) (pk_cons (pv 1) pk_nil)) fun σ H Q ⟨s, z⟩ => ⟨_, s.h0, _, s.h1, rfl, rfl, rfl, fun x H3 _ sm er => z x H3 sm (ErF.of er (by decide +kernel) rfl)⟩)
          (pa_EF (PE.imp (t' := tEF K a b c d e 37) (pe_mkE (n := 1) (ks := ["store"]) (ix := [0, 1]) m37 hr rfl (T.gc 37 (by decide)) (kb37 _ (List.mem_of_getElem? (i := 0) rfl)) (by decide) (pa_cons (pv 0) pa_nil) (pk_cons (pv 1) pk_nil)) fun σ H Q ⟨s, z⟩ => ⟨_, s.h0, _, s.h1, rfl, rfl, rfl, fun x H3 _ sm er => z x H3 sm (ErF.of er (by decide +kernel) rfl)⟩)
          (pa_EF (PE.imp (t' := tEF K a b c d e 38) (pe_mkE (n := 2) (ks := ["word"]) (ix := [0, 1, 2]) m38 hr rfl (T.gc 38 (by decide)) (kb38 _ (List.mem_of_getElem? (i := 0) rfl)) (by decide) (pa_cons (pv 0) (pa_cons (pv 1) pa_nil)) (pk_cons (pv 2) pk_nil)) fun σ H Q ⟨s, z⟩ => ⟨_, s.h0, _, s.h1, _, s.h2, rfl, rfl, rfl, fun x H3 _ sm er => z x H3 sm (ErF.of er (by decide +kernel) rfl)⟩)
          pa_EF0)))))
        (pss_cons (ps_set (i := 6) scSev.nd rfl (Or.inl rfl) (pe_op op_cat (pv 6) (pe_L (pa_EF (PE.imp (t' := tEF K a b c d e 39) (pe_mkE (n := 1) (ks := ["harm", "store"]) (ix := [0, 2, 1]) m39 hr rfl (T.gc 39 (by decide)) (kb39 _ (List.mem_of_getElem? (i := 1) rfl)) (by decide) (pa_cons (pv 0) pa_nil) (pk_cons (pv 2) (pk_cons (pv 1) pk_nil))) fun σ H Q ⟨s, z⟩ => ⟨_, s.h0, _, s.h2, _, s.h1, rfl, rfl, rfl, fun x H3 _ sm er => z x H3 sm (ErF.of er (by decide +kernel) rfl)⟩)
          (pa_EF (PE.imp (t' := tEF K a b c d e 40) (pe_mkE (n := 2) (ks := ["count", "side"]) (ix := [0, 1, 3, 2]) m40 hr rfl (T.gc 40 (by decide)) (kb40 _ (List.mem_of_getElem? (i := 0) rfl)) (by decide) (pa_cons (pv 0) (pa_cons (pv 1) pa_nil)) (pk_cons (pv 3) (pk_cons (pv 2) pk_nil))) fun σ H Q ⟨s, z⟩ => ⟨_, s.h0, _, s.h1, _, s.h3, _, s.h2, rfl, rfl, rfl, fun x H3 _ sm er => z x H3 sm (ErF.of er (by decide +kernel) rfl)⟩)
          pa_EF0)))))
        (pss_one (ps_ret (pe_op op_cat (pv 6) (pe_L (pa_EF (PE.imp (t' := tEF K a b c d e 41) (pe_mkE (n := 2) (ks := ["answer", "plan", "payoff"]) (ix := [0, 1, 3, 4, 2]) m41 hr rfl (T.gc 41 (by decide)) (kb41 _ (List.mem_of_getElem? (i := 0) rfl)) (by decide) (pa_cons (pv 0) (pa_cons (pv 1) pa_nil)) (pk_cons (pv 4) (pk_cons (pv 2) (pk_cons (pv 3) pk_nil)))) fun σ H Q ⟨s, z⟩ => ⟨_, s.h0, _, s.h1, _, s.h4, _, s.h2, _, s.h3, rfl, rfl, rfl, fun x H3 _ sm er => z x H3 sm (ErF.of er (by decide +kernel) rfl)⟩)
          pa_EF0)))))))))), ?_⟩
  have S : ∀ u v, S5 [some a, some b, some c, some d, some e, u, v] a b c d e := fun _ _ => ⟨rfl, rfl, rfl, rfl, rfl⟩
  match wy, lt with
  | 0, _ =>
    refine ⟨_, rfl, rfl, _, rfl, ?_⟩
    rw [show decide (V.int ((0 : Nat) : Int) = V.int 0) = true from by decide]
    refine iteT ?_
    refine ⟨S _ _, fun x0 B0 b0 y0 => ⟨by rw [List.length_map, Paired.length y0]; exact Nat.le_of_ble_eq_true rfl, fun p0 G0 u0 _ e0 => ?_⟩⟩
    have s0 := b0.trans u0
    have z0 := ErFs.same u0 y0
    have n0 : x0.length = 4 := Paired.length y0
    refine ⟨_, rfl, S _ _, fun x1 B1 b1 y1 => ⟨by rw [List.length_map, Paired.length y1]; exact Nat.le_of_ble_eq_true rfl, fun q1 F1 r1 _ f1 => cat_go (r1 _ _ (b1 _ _ e0)) f1 ?_ fun p1 G1 t1 e1 => ?_⟩⟩
    · rw [List.length_map, List.length_map, n0, Paired.length y1]
      exact Nat.le_of_ble_eq_true rfl
    have s1 := ((s0.trans b1).trans r1).trans t1
    have z1 := Paired.app (ErFs.same ((b1.trans r1).trans t1) z0) (ErFs.same (r1.trans t1) y1)
    have n1 : ((x0 ++ x1)).length = 6 := by rw [List.length_append, n0, Paired.length y1]; rfl
    rw [← List.map_append] at e1
    exact hQ _ _ _ s1 z1 e1
  | 1, _ =>
    refine ⟨_, rfl, rfl, _, rfl, ?_⟩
    rw [show decide (V.int ((1 : Nat) : Int) = V.int 0) = false from by decide]
    refine iteF ?_
    refine ⟨_, rfl, rfl, _, rfl, ?_⟩
    rw [show decide (V.int ((1 : Nat) : Int) = V.int 1) = true from by decide]
    refine iteT ?_
    refine ⟨S _ _, fun x0 B0 b0 y0 => ⟨by rw [List.length_map, Paired.length y0]; exact Nat.le_of_ble_eq_true rfl, fun p0 G0 u0 _ e0 => ?_⟩⟩
    have s0 := b0.trans u0
    have z0 := ErFs.same u0 y0
    have n0 : x0.length = 2 := Paired.length y0
    refine ⟨_, rfl, S _ _, fun x1 B1 b1 y1 => ⟨by rw [List.length_map, Paired.length y1]; exact Nat.le_of_ble_eq_true rfl, fun q1 F1 r1 _ f1 => cat_go (r1 _ _ (b1 _ _ e0)) f1 ?_ fun p1 G1 t1 e1 => ?_⟩⟩
    · rw [List.length_map, List.length_map, n0, Paired.length y1]
      exact Nat.le_of_ble_eq_true rfl
    have s1 := ((s0.trans b1).trans r1).trans t1
    have z1 := Paired.app (ErFs.same ((b1.trans r1).trans t1) z0) (ErFs.same (r1.trans t1) y1)
    have n1 : ((x0 ++ x1)).length = 4 := by rw [List.length_append, n0, Paired.length y1]; rfl
    rw [← List.map_append] at e1
    refine ⟨_, rfl, S _ _, fun x2 B2 b2 y2 => ⟨by rw [List.length_map, Paired.length y2]; exact Nat.le_of_ble_eq_true rfl, fun q2 F2 r2 _ f2 => cat_go (r2 _ _ (b2 _ _ e1)) f2 ?_ fun p2 G2 t2 e2 => ?_⟩⟩
    · rw [List.length_map, List.length_map, n1, Paired.length y2]
      exact Nat.le_of_ble_eq_true rfl
    have s2 := ((s1.trans b2).trans r2).trans t2
    have z2 := Paired.app (ErFs.same ((b2.trans r2).trans t2) z1) (ErFs.same (r2.trans t2) y2)
    have n2 : (((x0 ++ x1) ++ x2)).length = 5 := by rw [List.length_append, n1, Paired.length y2]; rfl
    rw [← List.map_append] at e2
    refine ⟨_, rfl, S _ _, fun x3 B3 b3 y3 => ⟨by rw [List.length_map, Paired.length y3]; exact Nat.le_of_ble_eq_true rfl, fun q3 F3 r3 _ f3 => cat_go (r3 _ _ (b3 _ _ e2)) f3 ?_ fun p3 G3 t3 e3 => ?_⟩⟩
    · rw [List.length_map, List.length_map, n2, Paired.length y3]
      exact Nat.le_of_ble_eq_true rfl
    have s3 := ((s2.trans b3).trans r3).trans t3
    have z3 := Paired.app (ErFs.same ((b3.trans r3).trans t3) z2) (ErFs.same (r3.trans t3) y3)
    have n3 : ((((x0 ++ x1) ++ x2) ++ x3)).length = 6 := by rw [List.length_append, n2, Paired.length y3]; rfl
    rw [← List.map_append] at e3
    exact hQ _ _ _ s3 z3 e3
  | 2, _ =>
    refine ⟨_, rfl, rfl, _, rfl, ?_⟩
    rw [show decide (V.int ((2 : Nat) : Int) = V.int 0) = false from by decide]
    refine iteF ?_
    refine ⟨_, rfl, rfl, _, rfl, ?_⟩
    rw [show decide (V.int ((2 : Nat) : Int) = V.int 1) = false from by decide]
    refine iteF ?_
    refine ⟨_, rfl, rfl, _, rfl, ?_⟩
    rw [show decide (V.int ((2 : Nat) : Int) = V.int 2) = true from by decide]
    refine iteT ?_
    refine ⟨S _ _, fun x0 B0 b0 y0 => ⟨by rw [List.length_map, Paired.length y0]; exact Nat.le_of_ble_eq_true rfl, fun p0 G0 u0 _ e0 => ?_⟩⟩
    have s0 := b0.trans u0
    have z0 := ErFs.same u0 y0
    have n0 : x0.length = 2 := Paired.length y0
    refine ⟨_, rfl, S _ _, fun x1 B1 b1 y1 => ⟨by rw [List.length_map, Paired.length y1]; exact Nat.le_of_ble_eq_true rfl, fun q1 F1 r1 _ f1 => cat_go (r1 _ _ (b1 _ _ e0)) f1 ?_ fun p1 G1 t1 e1 => ?_⟩⟩
    · rw [List.length_map, List.length_map, n0, Paired.length y1]
      exact Nat.le_of_ble_eq_true rfl
    have s1 := ((s0.trans b1).trans r1).trans t1
    have z1 := Paired.app (ErFs.same ((b1.trans r1).trans t1) z0) (ErFs.same (r1.trans t1) y1)
    have n1 : ((x0 ++ x1)).length = 4 := by rw [List.length_append, n0, Paired.length y1]; rfl
    rw [← List.map_append] at e1
    refine ⟨_, rfl, S _ _, fun x2 B2 b2 y2 => ⟨by rw [List.length_map, Paired.length y2]; exact Nat.le_of_ble_eq_true rfl, fun q2 F2 r2 _ f2 => cat_go (r2 _ _ (b2 _ _ e1)) f2 ?_ fun p2 G2 t2 e2 => ?_⟩⟩
    · rw [List.length_map, List.length_map, n1, Paired.length y2]
      exact Nat.le_of_ble_eq_true rfl
    have s2 := ((s1.trans b2).trans r2).trans t2
    have z2 := Paired.app (ErFs.same ((b2.trans r2).trans t2) z1) (ErFs.same (r2.trans t2) y2)
    have n2 : (((x0 ++ x1) ++ x2)).length = 5 := by rw [List.length_append, n1, Paired.length y2]; rfl
    rw [← List.map_append] at e2
    refine ⟨_, rfl, S _ _, fun x3 B3 b3 y3 => ⟨by rw [List.length_map, Paired.length y3]; exact Nat.le_of_ble_eq_true rfl, fun q3 F3 r3 _ f3 => cat_go (r3 _ _ (b3 _ _ e2)) f3 ?_ fun p3 G3 t3 e3 => ?_⟩⟩
    · rw [List.length_map, List.length_map, n2, Paired.length y3]
      exact Nat.le_of_ble_eq_true rfl
    have s3 := ((s2.trans b3).trans r3).trans t3
    have z3 := Paired.app (ErFs.same ((b3.trans r3).trans t3) z2) (ErFs.same (r3.trans t3) y3)
    have n3 : ((((x0 ++ x1) ++ x2) ++ x3)).length = 6 := by rw [List.length_append, n2, Paired.length y3]; rfl
    rw [← List.map_append] at e3
    exact hQ _ _ _ s3 z3 e3
  | 3, _ =>
    refine ⟨_, rfl, rfl, _, rfl, ?_⟩
    rw [show decide (V.int ((3 : Nat) : Int) = V.int 0) = false from by decide]
    refine iteF ?_
    refine ⟨_, rfl, rfl, _, rfl, ?_⟩
    rw [show decide (V.int ((3 : Nat) : Int) = V.int 1) = false from by decide]
    refine iteF ?_
    refine ⟨_, rfl, rfl, _, rfl, ?_⟩
    rw [show decide (V.int ((3 : Nat) : Int) = V.int 2) = false from by decide]
    refine iteF ?_
    refine ⟨S _ _, fun x0 B0 b0 y0 => ⟨by rw [List.length_map, Paired.length y0]; exact Nat.le_of_ble_eq_true rfl, fun p0 G0 u0 _ e0 => ?_⟩⟩
    have s0 := b0.trans u0
    have z0 := ErFs.same u0 y0
    have n0 : x0.length = 3 := Paired.length y0
    refine ⟨_, rfl, S _ _, fun x1 B1 b1 y1 => ⟨by rw [List.length_map, Paired.length y1]; exact Nat.le_of_ble_eq_true rfl, fun q1 F1 r1 _ f1 => cat_go (r1 _ _ (b1 _ _ e0)) f1 ?_ fun p1 G1 t1 e1 => ?_⟩⟩
    · rw [List.length_map, List.length_map, n0, Paired.length y1]
      exact Nat.le_of_ble_eq_true rfl
    have s1 := ((s0.trans b1).trans r1).trans t1
    have z1 := Paired.app (ErFs.same ((b1.trans r1).trans t1) z0) (ErFs.same (r1.trans t1) y1)
    have n1 : ((x0 ++ x1)).length = 5 := by rw [List.length_append, n0, Paired.length y1]; rfl
    rw [← List.map_append] at e1
    refine ⟨_, rfl, S _ _, fun x2 B2 b2 y2 => ⟨by rw [List.length_map, Paired.length y2]; exact Nat.le_of_ble_eq_true rfl, fun q2 F2 r2 _ f2 => cat_go (r2 _ _ (b2 _ _ e1)) f2 ?_ fun p2 G2 t2 e2 => ?_⟩⟩
    · rw [List.length_map, List.length_map, n1, Paired.length y2]
      exact Nat.le_of_ble_eq_true rfl
    have s2 := ((s1.trans b2).trans r2).trans t2
    have z2 := Paired.app (ErFs.same ((b2.trans r2).trans t2) z1) (ErFs.same (r2.trans t2) y2)
    have n2 : (((x0 ++ x1) ++ x2)).length = 6 := by rw [List.length_append, n1, Paired.length y2]; rfl
    rw [← List.map_append] at e2
    exact hQ _ _ _ s2 z2 e2
end
end Kz

namespace Kz
open PySem PySem.Spec PyProof.Rows L2

/-! ### data whose text is short -/
def gd (n m : Nat) (d : PyData) : Bool := d.showable && d.leavesShort 40 && decide (d.weight ≤ n) && decide (d.depth ≤ m)
theorem gd_menu : ∀ d ∈ menuD, gd 100 8 d = true := by decide +kernel
theorem gd_parts {n m : Nat} {d : PyData} (h : gd n m d = true) : d.showable = true ∧ d.leavesShort 40 = true ∧ d.weight ≤ n ∧ d.depth ≤ m := by
  unfold gd at h
  simp only [Bool.and_eq_true, decide_eq_true_eq] at h
  exact ⟨h.1.1.1, h.1.1.2, h.1.2, h.2⟩
theorem gd_all {n m : Nat} : ∀ {ds : List PyData}, (∀ d ∈ ds, gd n m d = true) → PyData.showableAll ds = true ∧ PyData.leavesShortAll 40 ds = true ∧ PyData.weightAll ds ≤ (n + 1) * ds.length ∧ PyData.depthAll ds ≤ m
  | [], _ => ⟨by simp [PyData.showableAll], by simp [PyData.leavesShortAll], by simp [PyData.weightAll], by simp [PyData.depthAll]⟩
  | d :: r, h => by
    obtain ⟨a1, a2, a3, a4⟩ := gd_parts (h d (List.mem_cons_self ..))
    obtain ⟨b1, b2, b3, b4⟩ := gd_all (ds := r) fun x hx => h x (List.mem_cons_of_mem _ hx)
    refine ⟨by simp [PyData.showableAll, a1, b1], by simp [PyData.leavesShortAll, a2, b2], ?_, ?_⟩
    · simp only [PyData.weightAll, List.length_cons]
      rw [Nat.mul_add]
      omega
    · simp only [PyData.depthAll]
      omega
structure Shw (d : PyData) : Prop where
  s : d.showable = true
  l : d.shown.length ≤ sizeLine
  p : d.depth ≤ 60
theorem shw_list {n m : Nat} {ds : List PyData} (hn : n ≤ 200) (hm : m ≤ 20) (h : ∀ d ∈ ds, gd n m d = true) (l : ds.length ≤ 40) : Shw (.list ds) := by
  obtain ⟨b1, b2, b3, b4⟩ := gd_all h
  have w : (PyData.list ds).weight ≤ 201 * 40 := by
    simp only [PyData.weight]
    exact Nat.le_trans b3 (Nat.mul_le_mul (by omega) l)
  have z := PyData.shown_le 40 (by decide) (.list ds) (by simpa only [PyData.leavesShort] using b2)
  refine ⟨by simpa only [PyData.showable] using b1, ?_, ?_⟩
  · rw [sizeLine_eq]
    have : (40 + 2) * (PyData.list ds).weight ≤ 42 * (201 * 40) := Nat.mul_le_mul_left _ w
    omega
  · simp only [PyData.depth]
    omega
theorem shw_gd {n m : Nat} {d : PyData} (hn : n ≤ 200) (hm : m ≤ 20) (h : gd n m d = true) : Shw d := by
  obtain ⟨a1, a2, a3, a4⟩ := gd_parts h
  refine ⟨a1, ?_, by omega⟩
  have z := PyData.shown_le 40 (by decide) d a2
  rw [sizeLine_eq]
  have : (40 + 2) * d.weight ≤ 42 * 200 := Nat.mul_le_mul_left _ (by omega)
  omega
theorem gd_one {d : PyData} (h : gd 100 8 d = true) : gd 102 10 (.list [d]) = true := by
  obtain ⟨a1, a2, a3, a4⟩ := gd_parts h
  unfold gd
  simp only [Bool.and_eq_true, decide_eq_true_eq, PyData.showable, PyData.showableAll, PyData.leavesShort, PyData.leavesShortAll, PyData.weight, PyData.weightAll, PyData.depth, PyData.depthAll, a1, a2]
  and_intros <;> first | trivial | (simp; omega) | (rw [Nat.max_def]; split <;> omega)
/-! ### parts of lists -/
theorem cut_drop {xs : List V} {k : Nat} (h : k ≤ xs.length) : cutV xs (some (k : Int)) none = xs.drop k := by
  unfold cutV
  rw [HT.sIx_nat, Nat.min_eq_left h, show HT.sIx xs.length xs.length none = xs.length from rfl]
  exact List.take_of_length_le (by rw [List.length_drop]; exact Nat.le_refl _)
theorem cut_take {xs : List V} {k : Nat} (h : k ≤ xs.length) : cutV xs none (some (k : Int)) = xs.take k := by
  unfold cutV
  rw [HT.sIx_nat, Nat.min_eq_left h, show HT.sIx xs.length 0 none = 0 from rfl]
  rfl
theorem DqAll.app {z : Addr} {H : Hp} : ∀ {a b : List V} {c d : List PyData}, DqAll z H a c → DqAll z H b d → DqAll z H (a ++ b) (c ++ d)
  | _, _, _, _, .nil, t => t
  | _, _, _, _, .cons h r, t => .cons h (DqAll.app r t)
theorem DqAll.take {z : Addr} {H : Hp} : ∀ {a : List V} {c : List PyData} (n : Nat), DqAll z H a c → DqAll z H (a.take n) (c.take n)
  | _, _, 0, _ => .nil
  | _, _, _ + 1, .nil => .nil
  | _, _, n + 1, .cons h r => .cons h (DqAll.take n r)
theorem DqAll.drop {z : Addr} {H : Hp} : ∀ {a : List V} {c : List PyData} (n : Nat), DqAll z H a c → DqAll z H (a.drop n) (c.drop n)
  | _, _, 0, h => h
  | _, _, _ + 1, .nil => .nil
  | _, _, n + 1, .cons _ r => DqAll.drop n r
theorem DqAll.len {z : Addr} {H : Hp} : ∀ {a : List V} {c : List PyData}, DqAll z H a c → a.length = c.length
  | _, _, .nil => rfl
  | _, _, .cons _ r => congrArg Nat.succ (DqAll.len r)
theorem five {l : List V} (h : l.length = 5) : ∃ a b c d e, l = [a, b, c, d, e] := by
  match l, h with
  | [a, b, c, d, e], _ => exact ⟨a, b, c, d, e, rfl⟩
theorem Paired.at {α β : Type} {R : α → β → Prop} : ∀ {a : List α} {b : List β} {i : Nat} {y : β}, Paired R a b → b[i]? = some y → ∃ x, a[i]? = some x ∧ R x y
  | _, _, 0, _, .cons h _, e => by
    simp at e
    subst e
    exact ⟨_, rfl, h⟩
  | _, _, i + 1, _, .cons _ t, e => by
    obtain ⟨x, h1, h2⟩ := Paired.at (i := i) t (by simpa using e)
    exact ⟨x, by simpa using h1, h2⟩
theorem ErsAt.get {K : PySem.W.Frag} {H : Hp} {v : V} {es : List Addr} {j : Nat} (h : ErsAt H v es (cs36 K)) (hj : j < 36) : ∃ e, es[j]? = some e ∧ Er H e (Cl K j) [(fld j, v)] := by
  obtain ⟨e, h1, h2⟩ := Paired.at (i := j) (y := (Cl K j, fld j)) h (by unfold cs36; rw [List.getElem?_map, List.getElem?_range hj]; rfl)
  exact ⟨e, h1, h2⟩
theorem ErFs.get {K : PySem.W.Frag} {H : Hp} {ws : List V} {es : List Addr} {j : Nat} (h : ErFs K H ws es [36, 37, 38, 39, 40, 41]) (hj : j < 6) : ∃ e, es[j]? = some e ∧ ErF K H e (36 + j) (ws.take (flds (36 + j)).length) := by
  obtain ⟨e, h1, h2⟩ := Paired.at (i := j) (y := 36 + j) h (by match j, hj with | 0, _ => rfl | 1, _ => rfl | 2, _ => rfl | 3, _ => rfl | 4, _ => rfl | 5, _ => rfl)
  exact ⟨e, h1, h2⟩
theorem flds1 : ∀ j, j < 36 → flds j = [fld j] := by decide +kernel
theorem look_one {j : Nat} {v : V} (hj : j < 36) : (flds j).map (fun n => ([(fld j, v)] : List (Str × V)).lookup n) = [v].map some := by
  rw [flds1 j hj]
  simp
theorem dues : ∀ j, j < 6 → (([2, 2, 3, 3, 4, 5] : List Int).map V.int)[j]? = some (V.int ((flds (36 + j)).length : Int)) := by decide +kernel
theorem dues5 : ∀ j, j < 6 → (flds (36 + j)).length ≤ 5 := by decide +kernel
theorem at_map {es : List Addr} {j : Nat} {e : Addr} (h : es[j]? = some e) : atI (es.map V.ref) (j : Int) = some (.ref e) := atI_nat (by rw [List.getElem?_map, h]; rfl)
/-- a def of the text, ready to be called -/
structure Df (P : Program) (w : World) (K : PySem.W.Frag) (mg : Str → Option Value) (b0 : Heap) (x : Str) (n : Nat) (ps : List Str) (sp : Sp) : Prop where
  m : ∃ f fd, FnOk P w K mg b0 CX0 n f fd ps sp ∧ Binds K fd ps [] ∧ mg x = some (.ref f) ∧ PySem.W.keepIn K (.ref f) = true
structure DfG (P : Program) (w : World) (K : PySem.W.Frag) (mg : Str → Option Value) (b0 : Heap) (x : Str) (n : Nat) (ps : List Str) (sp : Sp) : Prop where
  m : ∃ f fd, FnG P w K mg b0 CX0 n f fd ps sp ∧ Binds K fd ps [] ∧ mg x = some (.ref f) ∧ PySem.W.keepIn K (.ref f) = true
structure DfX (P : Program) (w : World) (K : PySem.W.Frag) (mg : Str → Option Value) (b0 : Heap) (x : Str) (n : Nat) (ps : List Str) (sp : SpX) : Prop where
  m : ∃ f fd, FnX P w K mg b0 CX0 n f fd ps sp ∧ Binds K fd ps [] ∧ mg x = some (.ref f) ∧ PySem.W.keepIn K (.ref f) = true

/-! ### _law_all_right -/
def spRight : Sp := fun vs H Q _ => ∃ (b : Addr) (c : Int), vs = [.ref b] ∧ BoxAt H b c ∧ c ≤ 8000 ∧ ∀ H', BoxAt H' b (c + 5) → Save b H H' → Q (.bl true) H'
theorem scRight : FnScope ["box", "things", "turn", "first", "lists", "spot", "e", "due", "several"] ["box"] (defScope sRight) := ⟨rfl, rfl, rfl, by decide +kernel, rfl, by decide +kernel, by decide +kernel⟩
section
variable {P : Program} {w : World} {K : PySem.W.Frag} {mg : Str → Option Value} {b0 : Heap} {f : Addr} {fd : FuncData}
theorem ok_right (F : FnP K "_law_all_right" sRight f fd) (T : Txt K mg) (OT : Df P w K mg b0 "_law_thing" 2 ["box"] spThing) (OP : Df P w K mg b0 "_law_by_place" 3 ["thing"] (spPlace K)) (ON : Df P w K mg b0 "_law_by_name" 3 ["thing"] (spPlace K))
    (OS : Df P w K mg b0 "_law_several" 3 ["one", "two", "three", "four", "five", "way"] (spSev K)) (OI : Df P w K mg b0 "_law_is" 2 ["e", "spot"] (spIs K)) (OK : Df P w K mg b0 "_law_kept" 1 ["e"] (spKept K)) : FnG P w K mg b0 CX0 4 f fd ["box"] spRight := by
  obtain ⟨fT, dT, GT, bT, gT, kT⟩ := OT.m
  obtain ⟨fP, dP, GP, bP, gP, kP⟩ := OP.m
  obtain ⟨fN, dN, GN, bN, gN, kN⟩ := ON.m
  obtain ⟨fS, dS, GS, bS, gS, kS⟩ := OS.m
  obtain ⟨fI, dI, GI, bI, gI, kI⟩ := OI.m
  obtain ⟨fK, dK, GK, bK, gK, kK⟩ := OK.m
  refine fnG_mk F scRight (fun vs H Q E h => ?_) (fun cv A ou s H vs Q E g0 hr h => ?_)
  · obtain ⟨b, c, rfl, _⟩ := h
    rfl
  obtain ⟨b, c, rfl, bx, hc, hQ⟩ := h
  have r2 := hr.mono (j := 2) (by decide)
  have r1 := hr.mono (j := 1) (by decide)
  have hu := hr.units
  refine ⟨_, PSs.nox (pss_cons (ps_set (i := 1) scRight.nd rfl (Or.inl rfl) (pe_L (pa_cons (pe_call GT r2 rfl gT kT bT .nil pass0 (pa_cons (pv 0) pa_nil)) (pa_cons (pe_call GT r2 rfl gT kT bT .nil pass0 (pa_cons (pv 0) pa_nil)) (pa_cons (pe_call GT r2 rfl gT kT bT .nil pass0 (pa_cons (pv 0) pa_nil))
      (pa_cons (pe_call GT r2 rfl gT kT bT .nil pass0 (pa_cons (pv 0) pa_nil)) (pa_cons (pe_call GT r2 rfl gT kT bT .nil pass0 (pa_cons (pv 0) pa_nil)) pa_nil)))))))
    (pss_cons (ps_for (PassesOwn.never) rfl (pi_range1 rfl T.fran (pa_cons pe_int pa_nil)) (pg_name (i := 2) scRight.nd rfl (Or.inl rfl))
      (pss_cons (ps_set (i := 3) scRight.nd rfl (Or.inl rfl) (pe_ix ix_list (pv 1) (pv 2) (fun _ _ => rfl)))
      (pss_cons (ps_set (i := 4) scRight.nd rfl (Or.inl rfl) (pe_L (pa_cons (pe_call GP hr rfl gP kP bP .nil pass0 (pa_cons (pv 3) pa_nil)) (pa_cons (pe_call GN hr rfl gN kN bN .nil pass0 (pa_cons (pv 3) pa_nil)) pa_nil))))
      (pss_cons (ps_for (PassesOwn.never) rfl (pi_range1 rfl T.fran (pa_cons pe_int pa_nil)) (pg_name (i := 5) scRight.nd rfl (Or.inl rfl))
        (pss_cons (ps_set (i := 6) scRight.nd rfl (Or.inl rfl) (pe_ix ix_list (pe_ix ix_list (pv 4) (pe_op op_fdiv (pv 2) pe_int) (fun _ _ => rfl)) (pv 5) (fun _ _ => rfl)))
        (pss_one (ps_if (PW.pt (pw_or (pt_not (pt_val (pe_call GI r2 rfl gI kI bI .nil pass0 (pa_cons (pv 6) (pa_cons (pv 5) pa_nil)))))
          (pw_or1 (pt_cmpR op_ne (pe_callB (call_rep g0 hu T.sd) rfl T.frep (by decide +kernel) (pa_cons (pe_call GK r1 rfl gK kK bK .nil pass0 (pa_cons (pv 6) pa_nil)) pa_nil)) (pe_callB (call_rep g0 hu T.sd) rfl T.frep (by decide +kernel) (pa_cons (pe_L (pa_cons (pv 3) pa_nil)) pa_nil)) (nomark _))))) (pss_one (ps_ret pe_bl)) pss_nil))))
      (pss_cons (ps_set (i := 7) scRight.nd rfl (Or.inl rfl) (pe_op op_cat (pe_slice sl_list (pv 1) (po_some (pv 2)) po_none) (pe_slice sl_list (pv 1) po_none (po_some (pv 2)))))
      (pss_cons (ps_set (i := 8) scRight.nd rfl (Or.inl rfl) (pe_call GS hr rfl gS kS bS .nil pass0 (pa_cons (pe_ix ix_list (pv 7) pe_int (fun _ _ => rfl)) (pa_cons (pe_ix ix_list (pv 7) pe_int (fun _ _ => rfl)) (pa_cons (pe_ix ix_list (pv 7) pe_int (fun _ _ => rfl))
        (pa_cons (pe_ix ix_list (pv 7) pe_int (fun _ _ => rfl)) (pa_cons (pe_ix ix_list (pv 7) pe_int (fun _ _ => rfl)) (pa_cons (pv 2) pa_nil))))))))
      (pss_cons (ps_for (PassesOwn.never) rfl (pi_range1 rfl T.fran (pa_cons pe_int pa_nil)) (pg_name (i := 5) scRight.nd rfl (Or.inl rfl))
        (pss_cons (ps_if (pt_not (pt_val (pe_call GI r2 rfl gI kI bI .nil pass0 (pa_cons (pe_ix ix_list (pv 8) (pv 5) (fun _ _ => rfl)) (pa_cons (pe_op op_add pe_int (pv 5)) pa_nil))))) (pss_one (ps_ret pe_bl)) pss_nil)
        (pss_one (ps_if (pt_cmpR op_ne (pe_callB (call_rep g0 hu T.sd) rfl T.frep (by decide +kernel) (pa_cons (pe_call GK r1 rfl gK kK bK .nil pass0 (pa_cons (pe_ix ix_list (pv 8) (pv 5) (fun _ _ => rfl)) pa_nil)) pa_nil))
          (pe_callB (call_rep g0 hu T.sd) rfl T.frep (by decide +kernel) (pa_cons (pe_slice sl_list (pv 7) po_none (po_some (pe_ix ix_list (pe_L (pa_cons pe_int (pa_cons pe_int (pa_cons pe_int (pa_cons pe_int (pa_cons pe_int (pa_cons pe_int pa_nil))))))) (pv 5) (fun _ _ => rfl)))) pa_nil)) (nomark _)) (pss_one (ps_ret pe_bl)) pss_nil))))
      (pss_one (ps_if (pt_cmpR op_ne (pe_callB (call_rep g0 hu T.sd) rfl T.frep (by decide +kernel) (pa_cons (pe_lc (own := [("e", 6)]) (g := gName 6) (tt := tYes) (te := tCall (spKept K) [] (fun _ _ _ => False) (tCons (tVar 6) tNil)) rfl scRight.nd
            (pi_list (pe_ix ix_list (pv 4) pe_int (fun _ _ => rfl)))
            (blkOk_by (own := [("e", 6)]) (N := ["box", "things", "turn", "first", "lists", "spot", "e", "due", "several"]) (sc := defScope sRight) (by decide +kernel))
            (fun _ _ _ _ _ => pg_name (i := 6) scRight.nd rfl (Or.inl rfl)) (fun _ _ _ _ _ => pts_nil) (fun _ _ _ _ _ => pe_call GK r1 rfl gK kK bK .nil pass0 (pa_cons (pv 6) pa_nil))) pa_nil))
          (pe_callB (call_rep g0 hu T.sd) rfl T.frep (by decide +kernel) (pa_cons (pe_op op_rep (pe_L (pa_cons (pe_L (pa_cons (pv 3) pa_nil)) pa_nil)) pe_int) pa_nil)) (nomark _)) (pss_one (ps_ret pe_bl)) pss_nil)))))))))
    (pss_one (ps_ret pe_bl)))), ?_⟩
  refine ⟨_, rfl, b, c, rfl, bx, by omega, fun v0 d0 H1 sv1 bx1 q0 m0 => ⟨_, rfl, b, c + 1, rfl, bx1, by omega, fun v1 d1 H2 sv2 bx2 q1 m1 => ⟨_, rfl, b, c + 1 + 1, rfl, bx2, by omega, fun v2 d2 H3 sv3 bx3 q2 m2 =>
    ⟨_, rfl, b, c + 1 + 1 + 1, rfl, bx3, by omega, fun v3 d3 H4 sv4 bx4 q3 m3 => ⟨_, rfl, b, c + 1 + 1 + 1 + 1, rfl, bx4, by omega, fun v4 d4 H5 sv5 bx5 q4 m4 => ⟨Nat.le_of_ble_eq_true rfl, fun p H6 s6 n6 e6 => ?_⟩⟩⟩⟩⟩⟩
  have bx6 : BoxAt H6 b (c + 5) := by
    have z := bx5.same s6
    rw [show c + 1 + 1 + 1 + 1 + 1 = c + 5 by omega] at z
    exact z
  have sv6 : Save b H H6 := ((((sv1.trans sv2).trans sv3).trans sv4).trans sv5).trans (Save.of s6)
  obtain ⟨vs, ds, lv, Dall, mall, e6⟩ : ∃ vs ds, vs.length = 5 ∧ DqAll b H6 vs ds ∧ (∀ d ∈ ds, gd 100 8 d = true) ∧ H6 p = some (.lst vs) :=
    ⟨[v0, v1, v2, v3, v4], [d0, d1, d2, d3, d4], rfl, .cons (q0.save ((((sv2.trans sv3).trans sv4).trans sv5).trans (Save.of s6))) (.cons (q1.save (((sv3.trans sv4).trans sv5).trans (Save.of s6))) (.cons (q2.save ((sv4.trans sv5).trans (Save.of s6)))
      (.cons (q3.save (sv5.trans (Save.of s6))) (.cons (q4.save (Save.of s6)) .nil)))), fun d hd => gd_menu d (by
        simp only [List.mem_cons, List.not_mem_nil, or_false] at hd
        rcases hd with rfl | rfl | rfl | rfl | rfl <;> assumption), e6⟩
  clear q0 q1 q2 q3 q4 sv1 sv2 sv3 sv4 sv5 bx1 bx2 bx3 bx4 bx5 s6 n6
  refine ⟨4, rfl, by decide, by decide, for_range (lo := 0) (n := 4) (fun j σ H' => Same H6 H' ∧ ∃ x2 x3 x4 x5 x6 x7 x8, σ = [some (.ref b), some (.ref p), x2, x3, x4, x5, x6, x7, x8]) ⟨Same.refl _, _, _, _, _, _, _, _, rfl⟩ ?_ ?_⟩
  · rintro i σ J1 hi ⟨t1, x2, x3, x4, x5, x6, x7, x8, rfl⟩
    rw [Int.zero_add]
    have li : i < vs.length := by omega
    obtain ⟨v, hv⟩ : ∃ v, vs[i]? = some v := ⟨_, List.getElem?_eq_getElem li⟩
    obtain ⟨d, hd, dq⟩ := Dall.get hv
    have gdd : gd 100 8 d = true := mall d (List.mem_of_getElem? hd)
    refine ⟨_, rfl, _, rfl, p, vs, (i : Int), v, rfl, rfl, SqL.of (t1 _ _ e6), atI_nat hv, ?_⟩
    refine ⟨_, rfl, v, rfl, fun es p1 J2 t2 E2 e2 => ⟨_, rfl, v, rfl, fun fs p2 J3 t3 E3 e3 => ⟨Nat.le_of_ble_eq_true rfl, fun l J4 t4 n4 e4 => ?_⟩⟩⟩
    have e2' := t4 _ _ (t3 _ _ e2)
    have e3' := t4 _ _ e3
    have E2' := (E2.same t3).same t4
    have E3' := E3.same t4
    have t14 : Same H6 J4 := ((t1.trans t2).trans t3).trans t4
    obtain ⟨q, xs, hq, eq, Eq⟩ : ∃ q xs, atI [V.ref p1, V.ref p2] ((i : Int) / 2) = some (.ref q) ∧ J4 q = some (.lst (xs.map V.ref)) ∧ ErsAt J4 v xs (cs36 K) := by
      have hh : i = 0 ∨ i = 1 ∨ i = 2 ∨ i = 3 := by omega
      rcases hh with rfl | rfl | rfl | rfl
      · exact ⟨p1, es, rfl, e2', E2'⟩
      · exact ⟨p1, es, rfl, e2', E2'⟩
      · exact ⟨p2, fs, rfl, e3', E3'⟩
      · exact ⟨p2, fs, rfl, e3', E3'⟩
    have d1 : ∀ {J}, Same J4 J → Dq b J v d := fun s => dq.save (Save.of (t14.trans s))
    have sh1 : Shw (.list [d]) := shw_gd (by decide) (by decide) (gd_one gdd)
    have nb : ∀ {J : Hp} {r : Addr}, Same J4 J → J r = none → r ≠ b := fun s n => bx6.new (t14.trans s) n
    refine ⟨36, rfl, by decide, by decide, for_range (lo := 0) (n := 36) (fun j σ H' => Same J4 H' ∧ ∃ y5 y6, σ = [some (.ref b), some (.ref p), some (.int i), some v, some (.ref l), y5, y6, x7, x8]) ⟨Same.refl _, _, _, rfl⟩ ?_ ?_⟩
    · rintro j σ J5 hj ⟨t5, y5, y6, rfl⟩
      rw [Int.zero_add]
      obtain ⟨e, he, er⟩ := Eq.get hj
      refine ⟨_, rfl, _, rfl, (i : Int), 2, rfl, rfl, ⟨by decide, by decide⟩, l, _, _, .ref q, rfl, rfl, SqL.of (t5 _ _ e4), hq, _, rfl, q, _, (j : Int), .ref e, rfl, rfl, SqL.of (t5 _ _ eq), at_map he, ?_⟩
      refine ⟨_, rfl, _, rfl, e, j, (j : Int), rfl, by omega, Or.inr ⟨_, er.same t5⟩, fun J6 t6 => ⟨_, rfl, ?_⟩⟩
      rw [decide_eq_true (rfl : (j : Int) = (j : Int))]
      refine iteF ?_
      have t56 := t5.trans t6
      refine ⟨_, rfl, e, j, _, [v], rfl, by omega, er.same t56, look_one hj, fun r J7 t7 n7 e7 => ?_⟩
      have t57 := t56.trans t7
      refine ⟨b, .ref r, .list [d], rfl, .lst (nb t56 n7) e7 (.cons (d1 t57) .nil), sh1.s, sh1.l, sh1.p, ?_⟩
      refine ⟨_, rfl, Nat.le_of_ble_eq_true rfl, fun r2 J8 t8 n8 e8 => ?_⟩
      refine ⟨b, .ref r2, .list [d], rfl, .lst (nb t57 n8) e8 (.cons (d1 (t57.trans t8)) .nil), sh1.s, sh1.l, sh1.p, rfl, _, rfl, ?_⟩
      rw [decide_eq_true rfl]
      exact iteF ⟨t57.trans t8, _, _, rfl⟩
    rintro σ J5 ⟨t5, y5, y6, rfl⟩
    have ci : i ≤ vs.length := by omega
    refine ⟨_, rfl, _, rfl, (i : Int), rfl, p, vs, rfl, SqL.of ((t14.trans t5) _ _ e6), fun q1 hq1 => ?_⟩
    have u1 := same_new (o := .lst (cutV vs (some (i : Int)) none)) hq1
    have f1 : upd J5 q1 (.lst (cutV vs (some (i : Int)) none)) q1 = some (.lst (vs.drop i)) := by rw [upd_same, cut_drop ci]
    generalize upd J5 q1 (.lst (cutV vs (some (i : Int)) none)) = J6 at u1 f1 ⊢
    refine ⟨_, rfl, _, rfl, (i : Int), rfl, p, vs, rfl, SqL.of (((t14.trans t5).trans u1) _ _ e6), fun q2 hq2 => ?_⟩
    have u2 := same_new (o := .lst (cutV vs none (some (i : Int)))) hq2
    have f2 : upd J6 q2 (.lst (cutV vs none (some (i : Int)))) q2 = some (.lst (vs.take i)) := by rw [upd_same, cut_take ci]
    generalize upd J6 q2 (.lst (cutV vs none (some (i : Int)))) = J7 at u2 f2 ⊢
    have ld : (vs.drop i ++ vs.take i).length = 5 := by rw [List.length_append, List.length_drop, List.length_take]; omega
    have Dd := DqAll.app (Dall.drop i) (Dall.take i)
    have md : ∀ d ∈ ds.drop i ++ ds.take i, gd 100 8 d = true := fun d hd => (List.mem_append.mp hd).elim (fun z => mall d (List.mem_of_mem_drop z)) fun z => mall d (List.mem_of_mem_take z)
    refine cat_go (u2 _ _ f1) f2 (by rw [← List.length_append, ld]; decide) fun q3 J8 t8 e8 => ?_
    generalize vs.drop i ++ vs.take i = wl at ld Dd e8
    generalize ds.drop i ++ ds.take i = dl at Dd md
    obtain ⟨w0, w1, w2, w3, w4, rfl⟩ := five ld
    have t18 : Same J4 J8 := ((t5.trans u1).trans u2).trans t8
    refine ⟨_, rfl, q3, _, 0, w0, rfl, rfl, SqL.of e8, rfl, _, rfl, q3, _, 1, w1, rfl, rfl, SqL.of e8, rfl, _, rfl, q3, _, 2, w2, rfl, rfl, SqL.of e8, rfl, _, rfl, q3, _, 3, w3, rfl, rfl, SqL.of e8, rfl, _, rfl, q3, _, 4, w4, rfl, rfl, SqL.of e8, rfl, _, rfl,
      w0, w1, w2, w3, w4, i, rfl, hi, fun xs2 q4 J9 t9 E9 e9 => ?_⟩
    have t19 : Same J4 J9 := t18.trans t9
    refine ⟨6, rfl, by decide, by decide, for_range (lo := 0) (n := 6) (fun j σ H' => Same J9 H' ∧ ∃ y5, σ = [some (.ref b), some (.ref p), some (.int i), some v, some (.ref l), y5, y6, some (.ref q3), some (.ref q4)]) ⟨Same.refl _, _, rfl⟩ ?_ ?_⟩
    · rintro j σ L0 hj ⟨s0, z5, rfl⟩
      rw [Int.zero_add]
      obtain ⟨e, he, er⟩ := ErFs.get E9 hj
      have l5 := dues5 j hj
      have dj := dues j hj
      refine ⟨_, rfl, _, rfl, q4, _, (j : Int), .ref e, rfl, rfl, SqL.of (s0 _ _ e9), at_map he, _, rfl, 36, (j : Int), rfl, rfl, e, 36 + j, 36 + (j : Int), rfl, by omega, Or.inr ?_, fun L1 s1 => ⟨_, rfl, ?_⟩⟩
      · obtain ⟨fl, h1, _⟩ := er
        exact ⟨fl, h1.same s0⟩
      rw [decide_eq_true (show ((36 + j : Nat) : Int) = 36 + (j : Int) by omega)]
      refine iteF ?_
      have s01 := s0.trans s1
      obtain ⟨fl, h1, h2⟩ := er
      refine ⟨_, rfl, _, rfl, q4, _, (j : Int), .ref e, rfl, rfl, SqL.of (s01 _ _ e9), at_map he, e, 36 + j, fl, _, rfl, by omega, h1.same s01, h2, fun r L2 s2 n2 g2 => ?_⟩
      have s02 := s01.trans s2
      have dt : ∀ {J}, Same J9 J → DqAll b J ([w0, w1, w2, w3, w4].take (flds (36 + j)).length) (dl.take (flds (36 + j)).length) := fun s => (Dd.save (Save.of (t14.trans (t19.trans s)))).take _
      have sh : Shw (.list (dl.take (flds (36 + j)).length)) := shw_list (n := 100) (m := 8) (by decide) (by decide) (fun d hd => md d (List.mem_of_mem_take hd)) (Nat.le_trans (List.length_take_le ..) (by omega))
      refine ⟨b, .ref r, _, rfl, .lst (nb (t19.trans s01) n2) g2 (dt s02), sh.s, sh.l, sh.p, _, rfl, Nat.le_of_ble_eq_true rfl, fun r2 L3 s3 n3 g3 => ?_⟩
      have s03 := s02.trans s3
      refine ⟨_, rfl, r2, _, (j : Int), .int ((flds (36 + j)).length : Int), rfl, rfl, SqL.of g3, atI_nat dj, ((flds (36 + j)).length : Int), rfl, q3, _, rfl, SqL.of ((t9.trans s03) _ _ e8), fun r3 n3 => ?_⟩
      rw [cut_take (by exact l5)]
      refine ⟨b, .ref r3, .list (dl.take (flds (36 + j)).length), rfl, .lst (nb (t19.trans s03) n3) upd_same (dt (s03.trans (same_new n3))), sh.s, sh.l, sh.p, rfl, _, rfl, ?_⟩
      rw [decide_eq_true rfl]
      exact iteF ⟨s03.trans (same_new n3), _, rfl⟩
    rintro σ L0 ⟨s0, z5, rfl⟩
    have t20 : Same J4 L0 := t19.trans s0
    refine ⟨_, rfl, l, _, 1, .ref p2, rfl, rfl, SqL.of (t20 _ _ e4), rfl, p2, rfl, ⟨_, SqL.of (t20 _ _ e3')⟩, fun D hD => ?_⟩
    have lfs : (fs.map V.ref).length = 36 := by rw [List.length_map, Paired.length E3']; rfl
    refine lc_list (xs := fs.map V.ref) (fun j H' => Same L0 H' ∧ ∃ qs : List Addr, qs.length = j ∧ H' D = some (.lst (qs.map V.ref)) ∧ ∀ q ∈ qs, q ≠ D ∧ q ≠ b ∧ H' q = some (.lst [v])) ⟨same_new hD, [], rfl, upd_same, fun q h => by cases h⟩
      (fun j H' _ z => SqL.of ((t20.trans z.1) _ _ e3')) ?_ ?_
    · rintro j x L1 hx ⟨s1, qs, lq, g1, hqs⟩
      have hj : j < 36 := by
        rw [← lfs]
        exact (List.getElem?_eq_some_iff.mp hx).1
      obtain ⟨e, he, er⟩ := E3'.get hj
      have ex : x = .ref e := by
        rw [List.getElem?_map, he] at hx
        exact (Option.some.inj hx).symm
      subst ex
      refine ⟨rfl, ?_⟩
      unfold tYes
      refine iteT ?_
      refine ⟨_, rfl, e, j, _, [v], rfl, by omega, er.same (t20.trans s1), look_one hj, fun r L2 s2 n2 g2 => ⟨_, s2 _ _ g1, ?_, ?_, ?_⟩⟩
      · rw [List.length_map, lq]
        exact Nat.lt_of_lt_of_le hj (small (by decide))
      · exact fun a o h => by
          have z := s2 _ _ (s1 _ _ h)
          rw [upd_ne (ne_of_none h hD)]
          exact z
      · refine ⟨qs ++ [r], by rw [List.length_append, lq]; rfl, by rw [upd_same, List.map_append]; rfl, fun q hq => ?_⟩
        rcases List.mem_append.mp hq with hq | hq
        · obtain ⟨a1, a2, a3⟩ := hqs q hq
          refine ⟨a1, a2, ?_⟩
          rw [upd_ne a1]
          exact s2 _ _ a3
        · have eqr : q = r := by simpa using hq
          subst eqr
          have nd : q ≠ D := fun z => by
            rw [z, g1] at n2
            cases n2
          refine ⟨nd, nb (t20.trans s1) n2, ?_⟩
          rw [upd_ne nd]
          exact g2
    · rintro L1 ⟨s1, qs, lq, g1, hqs⟩
      rw [lfs] at lq
      have t21 := t20.trans s1
      have all : ∀ {J}, Same L1 J → ∀ {rs : List Addr}, (∀ q ∈ rs, q ≠ D ∧ q ≠ b ∧ L1 q = some (.lst [v])) → DqAll b J (rs.map V.ref) (List.replicate rs.length (.list [d])) := by
        intro J s rs h
        induction rs with
        | nil => exact .nil
        | cons r rs ih =>
          obtain ⟨a1, a2, a3⟩ := h r (List.mem_cons_self ..)
          exact .cons (.lst a2 (s _ _ a3) (.cons (d1 (t21.trans s)) .nil)) (ih fun q hq => h q (List.mem_cons_of_mem _ hq))
      have a1 := all (Same.refl _) hqs
      rw [lq] at a1
      have sh : Shw (.list (List.replicate 36 (.list [d]))) := shw_list (n := 102) (m := 10) (by decide) (by decide) (fun x hx => by rw [List.eq_of_mem_replicate hx]; exact gd_one gdd) (by rw [List.length_replicate]; decide)
      have Db : D ≠ b := nb t20 hD
      refine ⟨b, .ref D, _, rfl, .lst Db g1 a1, sh.s, sh.l, sh.p, ?_⟩
      refine ⟨_, rfl, Nat.le_of_ble_eq_true rfl, fun r L2 s2 n2 g2 => ⟨Nat.le_of_ble_eq_true rfl, fun r2 L3 s3 n3 g3 => ?_⟩⟩
      refine ⟨r2, 36, _, rfl, rfl, g3, by decide, by decide, by show 1 * 36 ≤ sizeLine; decide, fun r3 n3' => ?_⟩
      have s4 := same_new (o := .lst (List.replicate (36 : Int).toNat [V.ref r]).flatten) n3'
      have g4 : upd L3 r3 (.lst (List.replicate (36 : Int).toNat [V.ref r]).flatten) r3 = some (.lst (List.replicate 36 (V.ref r))) := upd_same
      generalize upd L3 r3 (.lst (List.replicate (36 : Int).toNat [V.ref r]).flatten) = L4 at s4 g4 ⊢
      have s14 := (s2.trans s3).trans s4
      have one : Dq b L4 (.ref r) (.list [d]) := .lst (nb t21 n2) ((s3.trans s4) _ _ g2) (.cons (d1 (t21.trans s14)) .nil)
      have rep : ∀ n : Nat, DqAll b L4 (List.replicate n (V.ref r)) (List.replicate n (.list [d])) := fun n => by
        induction n with
        | zero => exact .nil
        | succ n ih => exact .cons one ih
      refine ⟨b, .ref r3, .list (List.replicate 36 (.list [d])), rfl, .lst (nb (t21.trans (s2.trans s3)) n3') g4 (rep 36), sh.s, sh.l, sh.p, rfl, _, rfl, ?_⟩
      rw [decide_eq_true rfl]
      exact iteF ⟨(t14.trans t21).trans s14, _, _, _, _, _, _, _, rfl⟩
  · rintro σ J1 ⟨t1, x2, x3, x4, x5, x6, x7, x8, rfl⟩
    exact hQ _ (bx6.same t1) (sv6.trans (Save.of t1))
end
end Kz

namespace Kz
open PySem PySem.Spec PyProof.Rows L2

/-! ### _law_raised -/
def kof (wy : Nat) : Nat := ([10, 41, 40, 33, 43] : List Nat).getD wy 0
/-- the exception's own dict: its fields are v, all of them -/
def XdAll (H : Hp) (d : Addr) (k : Nat) (v : V) : Prop := ∃ fs, H d = some (.xd fs) ∧ (flds k).map (fun n => fs.lookup n) = (List.replicate (flds k).length v).map some
theorem XdAll.same {H H' : Hp} {d : Addr} {k : Nat} {v : V} (x : XdAll H d k v) (s : Same H H') : XdAll H' d k v := by
  obtain ⟨fs, h, l⟩ := x
  exact ⟨fs, s _ _ h, l⟩
def spRaised (K : PySem.W.Frag) : Sp := fun vs H Q E => ∃ (wy : Nat) (v : V), vs = [.int wy, v] ∧ wy < 5 ∧ (wy < 4 → ∀ d H', Same H H' → XdAll H' d (kof wy) v → E (.ref (Cl K (kof wy))) (some d) H') ∧ (wy = 4 → E (.ref (Cl K 43)) none H)
theorem scRaised : FnScope ["way", "thing"] ["way", "thing"] (defScope sRaised) := ⟨rfl, rfl, rfl, by decide +kernel, rfl, by decide +kernel, by decide +kernel⟩
abbrev CXN : Program → World → CXT := L2N.CX
section
variable {P : Program} {w : World} {K : PySem.W.Frag} {mg : Str → Option Value} {b0 : Heap} {f : Addr} {fd : FuncData}
theorem xd_all {H : Hp} {d : Addr} {k : Nat} {v : V} {ws : List V} (e : H d = some (.xd ((flds k).zip ws).reverse)) (nd : (flds k).Nodup) (l : ws = List.replicate (flds k).length v) : XdAll H d k v :=
  ⟨_, e, by rw [zip_look nd (by rw [l, List.length_replicate]), l]⟩
theorem ok_raised (F : FnP K "_law_raised" sRaised f fd) (T : Txt K mg) (M1 : ∀ k, k < 36 → Mk1 P w K mg b0 (Cl K k) (fld k)) (M : ∀ k, 36 ≤ k → k < 42 → MkN P w K mg b0 k) : FnOk P w K mg b0 (L2N.CX P w) 3 f fd ["way", "thing"] (spRaised K) := by
  obtain ⟨f10, d10, m10, a10, _⟩ := (M1 10 (by decide)).m
  obtain ⟨f33, d33, m33, a33, _⟩ := (M1 33 (by decide)).m
  obtain ⟨f40, d40, m40, kb40⟩ := (M 40 (by decide) (by decide)).m
  obtain ⟨f41, d41, m41, kb41⟩ := (M 41 (by decide) (by decide)).m
  refine FunD.ok F scRaised (fun vs H Q E h => ?_) (fun cv A ou s H vs Q E hr h => ?_)
  · obtain ⟨wy, v, rfl, _⟩ := h
    rfl
  obtain ⟨wy, v, rfl, lt, h4, h5⟩ := h
  have tk : L2N.Takes (cxOf (L2N.CX P w) P w K mg b0 ["way", "thing"] "_law_raised" (defScope sRaised) f cv A ou s H E) (fun cls d _ H' => E cls d H') := L2N.takes_of rfl rfl rfl rfl
  refine ⟨_, pss_cons (ps_if (pt_cmpR op_eq (pv 0) pe_int (nomark _)) (pss_one (L2N.ps_raise rfl tk (pm_mkE1 (n := 1) (ix := [0]) m10 hr rfl (T.gc 10 (by decide)) a10 (by decide) (pa_cons (pv 1) pa_nil)))) pss_nil)
    (pss_cons (ps_if (pt_cmpR op_eq (pv 0) pe_int (nomark _)) (pss_one (L2N.ps_raise rfl tk (pm_mkE (n := 1) (ks := ["store", "plan", "payoff", "answer"]) (ix := [0, 1, 2, 3, 4]) m41 hr rfl (T.gc 41 (by decide)) (kb41 _ (List.mem_of_getElem? (i := 4) rfl)) (by decide) (pa_cons (pv 1) pa_nil) (pk_cons (pv 1) (pk_cons (pv 1) (pk_cons (pv 1) (pk_cons (pv 1) pk_nil))))))) pss_nil)
    (pss_cons (ps_if (pt_cmpR op_eq (pv 0) pe_int (nomark _)) (pss_one (L2N.ps_raise rfl tk (pm_mkE2 (ks := ["count", "store", "unit", "side"]) (ix := [2, 1, 3, 0]) m40 hr rfl (T.gc 40 (by decide)) (kb40 _ (List.mem_of_getElem? (i := 4) rfl)) (pk_cons (pv 1) (pk_cons (pv 1) (pk_cons (pv 1) (pk_cons (pv 1) pk_nil))))))) pss_nil)
    (pss_cons (ps_if (pt_cmpR op_eq (pv 0) pe_int (nomark _)) (pss_one (L2N.ps_raise rfl tk (pm_mkE1 (n := 1) (ix := [0]) m33 hr rfl (T.gc 33 (by decide)) a33 (by decide) (pa_cons (pv 1) pa_nil)))) pss_nil)
    (pss_one (L2N.ps_raise rfl tk (pm_mk0 PySem.F.excBase_ValueError (T.bare 43 (by decide) (by decide)) (T.gc 43 (by decide)) (T.ec 43 (by decide)).o.kC (raises_own (T.ec 43 (by decide)).o.exC (T.ec 43 (by decide)).o.tyC) rfl)))))), ?_⟩
  match wy, lt with
  | 0, _ =>
    refine ⟨_, rfl, rfl, _, rfl, ?_⟩
    rw [show decide (V.int ((0 : Nat) : Int) = V.int 0) = true from by decide]
    exact iteT ⟨v, rfl, rfl, rfl, rfl, fun d H3 s e => h4 (by decide) d H3 s (xd_all (k := 10) e (by decide +kernel) rfl)⟩
  | 1, _ =>
    refine ⟨_, rfl, rfl, _, rfl, ?_⟩
    rw [show decide (V.int ((1 : Nat) : Int) = V.int 0) = false from by decide]
    refine iteF ⟨_, rfl, rfl, _, rfl, ?_⟩
    rw [show decide (V.int ((1 : Nat) : Int) = V.int 1) = true from by decide]
    exact iteT ⟨v, rfl, v, rfl, v, rfl, v, rfl, v, rfl, rfl, rfl, rfl, fun d H3 s e => h4 (by decide) d H3 s (xd_all (k := 41) e (by decide +kernel) rfl)⟩
  | 2, _ =>
    refine ⟨_, rfl, rfl, _, rfl, ?_⟩
    rw [show decide (V.int ((2 : Nat) : Int) = V.int 0) = false from by decide]
    refine iteF ⟨_, rfl, rfl, _, rfl, ?_⟩
    rw [show decide (V.int ((2 : Nat) : Int) = V.int 1) = false from by decide]
    refine iteF ⟨_, rfl, rfl, _, rfl, ?_⟩
    rw [show decide (V.int ((2 : Nat) : Int) = V.int 2) = true from by decide]
    exact iteT ⟨v, rfl, v, rfl, v, rfl, v, rfl, rfl, rfl, rfl, fun d H3 s e => h4 (by decide) d H3 s (xd_all (k := 40) e (by decide +kernel) rfl)⟩
  | 3, _ =>
    refine ⟨_, rfl, rfl, _, rfl, ?_⟩
    rw [show decide (V.int ((3 : Nat) : Int) = V.int 0) = false from by decide]
    refine iteF ⟨_, rfl, rfl, _, rfl, ?_⟩
    rw [show decide (V.int ((3 : Nat) : Int) = V.int 1) = false from by decide]
    refine iteF ⟨_, rfl, rfl, _, rfl, ?_⟩
    rw [show decide (V.int ((3 : Nat) : Int) = V.int 2) = false from by decide]
    refine iteF ⟨_, rfl, rfl, _, rfl, ?_⟩
    rw [show decide (V.int ((3 : Nat) : Int) = V.int 3) = true from by decide]
    exact iteT ⟨v, rfl, rfl, rfl, rfl, fun d H3 s e => h4 (by decide) d H3 s (xd_all (k := 33) e (by decide +kernel) rfl)⟩
  | 4, _ =>
    refine ⟨_, rfl, rfl, _, rfl, ?_⟩
    rw [show decide (V.int ((4 : Nat) : Int) = V.int 0) = false from by decide]
    refine iteF ⟨_, rfl, rfl, _, rfl, ?_⟩
    rw [show decide (V.int ((4 : Nat) : Int) = V.int 1) = false from by decide]
    refine iteF ⟨_, rfl, rfl, _, rfl, ?_⟩
    rw [show decide (V.int ((4 : Nat) : Int) = V.int 2) = false from by decide]
    refine iteF ⟨_, rfl, rfl, _, rfl, ?_⟩
    rw [show decide (V.int ((4 : Nat) : Int) = V.int 3) = false from by decide]
    exact iteF (h5 rfl)
end
end Kz

namespace Kz
open PySem PySem.Spec PyProof.Rows L2

/-! ### a list comprehension with one test, in an except suite -/
abbrev blkH (X : Cx) (s : Shared) (H : Hp) (sc : Scope) (cn : Env) (fq : List Addr) : Cx := (X.blk s H sc cn fq).tr X.pn (fun _ _ => False)
abbrev cellsH (X : Cx) (sc : Scope) (n : Nat) : List (Str × Addr) := cellsFrom (n + 1) sc.names (cloFrom X.env.cells sc.names [])
abbrev inH (sc : Scope) (s : Shared) : Shared := { s with heap := pushCells (s.heap.push { cls := .type "dict", data := .dict #[] }) sc.names }
section
variable {X : Cx} {pins : List (Addr × Obj)} {σ : L2.St} {H : Hp} {s : Shared} {sc : Scope} {own : List (Str × Nat)} {fq : List Addr}
theorem blkH_start (I : Inv X pins σ H s) (ok : BlkOk X.N X.env.scope sc own) (hN : X.N.Nodup) (hf : ∀ b ∈ fq, FpOk X pins H b ∧ b < s.heap.objs.size) :
    Inv (blkH X s H sc (compEnvC sc (cellsH X sc s.heap.objs.size) s.heap.objs.size X.env) fq) [] (wipe σ (own.map (·.2))) H (inH sc s) := by
  have J := block_start I ok hN hf
  refine (J.pins_of (pins' := X.pn) fun p hp => ?_).toTry _
  obtain ⟨y1, y2, y3, y4, y5⟩ := I.pin p (List.mem_append_left _ hp)
  exact ⟨pushCells_keeps _ _ _ _ (Heap.get?_push_of_some _ y1), y2, Nat.ne_of_lt (Heap.lt_size y1), fun z => (List.mem_cons.mp (I.stkSub p.1 z)).elim y3 y4, y5⟩
theorem hot_blk {cn : Env} (h : L2H.HotC X) : L2H.HotC (blkH X s H sc cn fq) := by
  obtain ⟨p, h1, h2⟩ := h
  exact ⟨p, h1, h2⟩
/-- what a walk's objects are to the block -/
theorem okH {cn : Env} {σ' : L2.St} {H' : Hp} {s' : Shared} (hx : ∀ b ∈ fq, ∀ p ∈ X.pn, p.1 ≠ b) (I : Inv (blkH X s H sc cn fq) [] σ' H' s') (n : ∀ b ∈ fq, H' b = none) : ∀ b ∈ fq, FpOk (blkH X s H sc cn fq) [] H' b := fun b hb => by
  have z := I.ok.exf b hb
  refine ⟨n b hb, z.1, I.ok.exfs b hb, Or.inl hb, z.2, fun p hp => hx b hb p ?_⟩
  simpa using hp
end
section
variable {X : Cx} {elt tg itx c : Expr} {sc : Scope} {own : List (Str × Nat)} {pos : Pos} {wi : TI} {g : TG} {tt : TT} {te : TE}
theorem pe_lcH (hot : L2H.HotC X) (hN : X.N.Nodup) (hi : L2H.PIH X tg itx wi) (ok : BlkOk X.N X.env.scope sc own)
    (hg : ∀ (s : Shared) (H : Hp) (C : Addr) (cl : List (Str × Addr)) (fq : List Addr), PG (blkH X s H sc (compEnvC sc cl C X.env) fq) tg g)
    (ht : ∀ (s : Shared) (H : Hp) (C : Addr) (cl : List (Str × Addr)) (fq : List Addr), PTs (blkH X s H sc (compEnvC sc cl C X.env) fq) [c] tt)
    (he : ∀ (s : Shared) (H : Hp) (C : Addr) (cl : List (Str × Addr)) (fq : List Addr), PE (blkH X s H sc (compEnvC sc cl C X.env) fq) elt te)
    (hs : ∀ x, foldedSetIterable itx X.env x = pure x := by intro _; rfl) : PE X (.ListComp elt [⟨tg, itx, [c], 0⟩] sc pos) (tLc wi g tt te (own.map (·.2))) := by
  constructor
  intro pins s σ H Q I h
  rw [eval_ListComp]
  have caught : ∀ n ∈ sc.names, n.2 = .free → ∃ a, X.env.cells.lookup n.1 = some a := fun n hn e => (ok.free n hn e).elim (fun z => I.ok.has _ (.inl z)) fun z => I.ok.has _ (.inr z)
  refine wpAny_comprehension_free rfl hs (closure_ok caught) ok.kind (fun n hn e => by rw [ok.uniq n hn, e]) (thn (hi.run pins s σ H _ I h) fun v1 u1 k1 => thn k1 fun v2 u2 k2 => ?_)
  obtain ⟨it, fq, tn, J, G, rfl, K2, T, w2, f2, q⟩ := k2
  refine wpAny_newObj_type (newEnv_comp ?_) (Nat.zero_le _)
  have dn : G u2.heap.objs.size = none := K2.hok.fresh (Nat.le_refl _)
  obtain ⟨Wr, ⟨m0, v0⟩, step⟩ := q u2.heap.objs.size dn
  -- behind the new list
  have K3 : Inv X pins σ (upd G u2.heap.objs.size (.lst [])) { u2 with heap := u2.heap.push { cls := .type "list", data := .seq ([] : List Value).toArray } } :=
    K2.laid (t' := u2.toks) (fun b o e => Heap.get?_push_of_some _ e) (Nat.le_refl _) ⟨Nat.zero_le _, [], 0, .nil, Heap.get?_push_size _ rfl⟩
  have w3 : tn 0 (u2.heap.push { cls := .type "list", data := .seq ([] : List Value).toArray }) := T.keep _ _ _ w2 fun b _ o e => Heap.get?_push_of_some _ e
  have lt3 : ∀ b ∈ fq, b < u2.heap.objs.size := fun b hb => (T.obj _ _ w2 b hb).elim fun o z => Heap.lt_size z.1
  have f3 : ∀ b ∈ fq, FpOk X pins (upd G u2.heap.objs.size (.lst [])) b := fun b hb => ⟨by rw [upd_ne (Nat.ne_of_lt (lt3 b hb))]; exact (f2 b hb).1, (f2 b hb).2⟩
  have l3 : ∀ b ∈ fq, b < (u2.heap.push { cls := .type "list", data := .seq ([] : List Value).toArray }).objs.size := fun b hb => by
    rw [Heap.size_push]
    exact Nat.lt_succ_of_lt (lt3 b hb)
  generalize u2.heap.objs.size = D at dn v0 step K3 f3 ⊢
  generalize upd G D (.lst []) = G3 at v0 K3 f3
  generalize hu3 : ({ u2 with heap := u2.heap.push { cls := .type "list", data := .seq ([] : List Value).toArray } } : Shared) = u3 at K3
  have hh3 : u2.heap.push { cls := .type "list", data := .seq ([] : List Value).toArray } = u3.heap := by rw [← hu3]
  rw [hh3] at w3 l3
  have K4 := blkH_start K3 ok hN fun b hb => ⟨f3 b hb, l3 b hb⟩
  have gg := hg u3 G3 u3.heap.objs.size (cellsH X sc u3.heap.objs.size) fq
  have gt := ht u3 G3 u3.heap.objs.size (cellsH X sc u3.heap.objs.size) fq
  have ge := he u3 G3 u3.heap.objs.size (cellsH X sc u3.heap.objs.size) fq
  have hx : ∀ b ∈ fq, ∀ p ∈ X.pn, p.1 ≠ b := fun b hb p hp => (f3 b hb).2.2.2.2.2 p (List.mem_append_left _ hp)
  have w4 : tn 0 (inH sc u3).heap := T.keep _ _ _ w3 fun b _ o e => pushCells_keeps _ _ _ _ (Heap.get?_push_of_some _ e)
  have cl0 : (compEnvC sc (cellsH X sc u3.heap.objs.size) u3.heap.objs.size X.env).locals = u3.heap.objs.size := rfl
  show codeAny _ _ (.compStart (.ListComp elt [⟨tg, itx, [c], 0⟩] sc pos) 0 (.ref it) (.ref D) (compEnvC sc (cellsH X sc u3.heap.objs.size) u3.heap.objs.size X.env)) (compPost (model X.prog X.w) X.A X.xe _ _ (.ref D) u3.heap.objs.size) (inH sc u3)
  generalize compEnvC sc (cellsH X sc u3.heap.objs.size) u3.heap.objs.size X.env = cn at K4 gg gt ge cl0 ⊢
  generalize inH sc u3 = u4 at K4 w4 ⊢
  have hotY : L2H.HotC (blkH X u3 G3 sc cn fq) := hot_blk hot
  suffices lp : codeAny (model X.prog X.w) X.A (.compLoop (.ListComp elt [⟨tg, itx, [c], 0⟩] sc pos) 0 (.ref it) (.ref D) cn) (compPost (model X.prog X.w) X.A X.xe _ _ (.ref D) u3.heap.objs.size) u4 from codeAny_compStart_list lp (T.self X.A 0 _ _ _ w4 lp)
  refine compLoop_any (fun n t => ∃ i G', Inv (blkH X u3 G3 sc cn fq) [] (wipe σ (own.map (·.2))) G' t ∧ tn i t.heap ∧ (∀ b ∈ fq, G' b = none) ∧ Wr i n G') ?_ m0 ⟨0, G3, K4, w4, fun b hb => (f3 b hb).1, v0⟩
  rintro n t5 ⟨i, G5, K5, w5, n5, v5⟩
  have ok5 := okH hx K5 n5
  rcases step i n G5 v5 with ⟨st, qz⟩ | ⟨gz, Nx, hNx, one⟩
  · refine thnF (T.done (blkH X u3 G3 sc cn fq) rfl rfl rfl hotY i [] t5 _ G5 (fun _ _ => False) K5 ok5 w5 st) ?_
    rintro r t6 ⟨rfl, K6⟩
    have back : Inv X pins σ G5 t6 := K3.call' (ch := fq) K6.os K6.base K6.hok K6.bare fun b hb => ⟨(f3 b hb).2.2.2.1, (f3 b hb).2.1, (f3 b hb).2.2.2.2.1, (f3 b hb).2.2.2.2.2⟩
    have fr : G5 cn.locals = none := K6.free
    obtain ⟨m, hm, _⟩ := K6.loc
    have hm : t6.heap.Ns cn.locals m := hm
    rw [cl0] at fr hm
    obtain ⟨f0, f1, f2', f4, f5, f6⟩ := K3.fpOk (Nat.le_refl _) fr
    exact ⟨m, hm, fun h'' sb => ⟨.ref D, G5, back.turned (t' := t6.toks) (fun b o hb e => (sb.2 b hb).trans e) f0 f1 f4 f5 f6, rfl, qz⟩⟩
  · refine thnF (T.item (blkH X u3 G3 sc cn fq) rfl rfl rfl hotY i [] t5 _ G5 (fun _ _ => False) K5 ok5 w5 gz) ?_
    rintro r t6 ⟨u, rfl, k6⟩
    refine thnF k6 ?_
    rintro _ t7 ⟨x, G7, K7, r7, y7, w7, n7⟩
    have ob := T.obj _ _ w7
    have K7' := K7.pinned (okH hx K7 n7) ob
    refine thnF (gg.run _ t7 _ G7 x u _ K7' r7 (one x G7 y7)) ?_
    rintro _ t8 ⟨σ8, G8, K8, wp8, q8⟩
    refine thnF (gt.run _ t8 σ8 G8 _ K8 q8) ?_
    rintro b t9 ⟨G9, K9, q9⟩
    have lw : (wipe σ (own.map (·.2))).length = σ8.length := by rw [← wp8, wipe_length]
    have ends : ∀ {t : Shared} {G' : Hp}, Inv (blkH X u3 G3 sc cn fq) ([] ++ pinsAt fq t7.heap) σ8 G' t → Nx G' → ∃ m, m < n ∧ ∃ i G', Inv (blkH X u3 G3 sc cn fq) [] (wipe σ (own.map (·.2))) G' t ∧ tn i t.heap ∧ (∀ b ∈ fq, G' b = none) ∧ Wr i m G' := by
      intro t G' K' nz
      obtain ⟨m', lt', w'⟩ := hNx G' nz
      have at7 : ∀ b ∈ fq, ∀ o, t7.heap.get? b = some o → t.heap.get? b = some o ∧ G' b = none := fun b hb o e => by
        have z := K'.pin (b, o) (List.mem_append_right _ (List.mem_append_right _ (mem_pinsAt hb e)))
        exact ⟨z.1, z.2.1⟩
      refine ⟨m', lt', i + 1, G', (K'.unpinned (pins := [])).weak lw (fun j v e => ?_), T.keep _ _ _ w7 fun b hb o e => (at7 b hb o e).1, fun b hb => (ob b hb).elim fun o z => (at7 b hb o z.1).2, w'⟩
      rw [← wp8] at e
      exact (wipe_some e).1
    match b, q9 with
    | false, q9 => exact ends K9 q9
    | true, q9 =>
      refine thnF (ge.run _ t9 σ8 G9 _ K9 q9) ?_
      rintro z t10 ⟨yv, G10, K10, r10, acc, d10, z10, nz⟩
      exact app_ok (X := blkH X u3 G3 sc cn fq) K10 d10 z10 r10 fun t11 K11 => ends K11 nz
end
end Kz

namespace Kz
open PySem PySem.Spec PyProof.Rows L2

/-! ### the exception that is handled, as one of the package -/
structure ErP (p : Addr × Obj) (H : Hp) (C : Addr) (fs : List (Str × V)) : Prop where
  cls : p.2.cls = .ref C
  dat : ∃ vs, p.2.data = .fields vs
  dic : (∃ d, p.2.dict = some d ∧ H d = some (.xd fs)) ∨ (p.2.dict = none ∧ fs = [])
theorem ErP.same {p : Addr × Obj} {H H' : Hp} {C : Addr} {fs : List (Str × V)} (x : ErP p H C fs) (s : Same H H') : ErP p H' C fs := ⟨x.cls, x.dat, x.dic.imp (fun ⟨d, h1, h2⟩ => ⟨d, h1, s _ _ h2⟩) fun z => z⟩
theorem notCls_fields {o : Obj} {vs : Array Value} (h : o.data = .fields vs) : PySem.W.notCls o = true := by
  obtain ⟨c, d, dt, sl⟩ := o
  cases h
  rfl
section
variable {X : Cx} {p : Addr × Obj} {H : Hp} {C : Addr} {fs : List (Str × V)}
theorem ErP.at {pins : List (Addr × Obj)} {σ : L2.St} {s : Shared} (x : ErP p H C fs) (hm : p ∈ X.pn) (I : Inv X pins σ H s) : (∃ od, PySem.W.InstAt s.heap p.1 p.2 C (some od) ∧ ∃ mA : Str → Option Value, (∀ n, PySem.W.lookIn n od = some (mA n)) ∧ ∀ n, RelO (fs.lookup n) (mA n)) ∨ (fs = [] ∧ PySem.W.InstAt s.heap p.1 p.2 C none) := by
  obtain ⟨vs, hv⟩ := x.dat
  have e := (I.pin p (List.mem_append_left _ hm)).1
  rcases x.dic with ⟨d, h1, h2⟩ | ⟨h1, h2⟩
  · have ok : ObjOk X.prog X.w H s.heap d (.xd fs) := I.hok d _ h2
    obtain ⟨mA, n1, r1⟩ := ok
    obtain ⟨od, o1, l1⟩ := lookIn_ns n1
    exact .inl ⟨od, ⟨e, x.cls, notCls_fields hv, by rw [h1]; exact o1⟩, mA, l1, r1⟩
  · exact .inr ⟨h2, ⟨e, x.cls, notCls_fields hv, by rw [h1]; trivial⟩⟩
theorem ErP.isE (x : ErP p H C fs) (hm : p ∈ X.pn) : IsE X p.1 C H := by
  intro pins σ s I
  rcases x.at hm I with ⟨od, i, _⟩ | ⟨_, i⟩
  · exact ⟨_, _, i⟩
  · exact ⟨_, _, i⟩
theorem ErP.hasE {f : Str} {v : V} (x : ErP p H C fs) (hm : p ∈ X.pn) (l : fs.lookup f = some v) : HasE X p.1 C f v H := by
  intro pins σ s I
  rcases x.at hm I with ⟨od, i, mA, l1, r1⟩ | ⟨z, i⟩
  · obtain ⟨u, hu, ru⟩ := RelO.some_of (v := v) (o := mA f) (by rw [← l]; exact r1 f)
    exact ⟨_, od, u, i, by rw [l1, hu], ru⟩
  · rw [z] at l
    cases l
end
def spSortsX (K : PySem.W.Frag) : SpX := fun p vs H Q _ => ∃ (i : Nat) (fs : List (Str × V)), vs = [.ref p.1] ∧ i < 45 ∧ ErP p H (Cl K i) fs ∧ ∀ q H', Same H H' → H' q = some (.lst (sorts45 i)) → Q (.ref q) H'
def spKeptX (K : PySem.W.Frag) : SpX := fun p vs H Q _ => ∃ (i : Nat) (fs : List (Str × V)) (ws : List V), vs = [.ref p.1] ∧ i < 42 ∧ ErP p H (Cl K i) fs ∧ (flds i).map (fun n => fs.lookup n) = ws.map some ∧ ∀ q H', Same H H' → H q = none → H' q = some (.lst ws) → Q (.ref q) H'
def spIsX (K : PySem.W.Frag) : SpX := fun p vs H Q _ => ∃ (i : Nat) (fs : List (Str × V)) (sp : Int), vs = [.ref p.1, .int sp] ∧ i < 45 ∧ ErP p H (Cl K i) fs ∧ ∀ H', Same H H' → Q (.bl (decide ((i : Int) = sp))) H'
section
variable {P : Program} {w : World} {K : PySem.W.Frag} {mg : Str → Option Value} {b0 : Heap} {f fS : Addr} {fd fdS : FuncData}
theorem okX_sorts (F : FnP K "_law_sorts" sSorts f fd) (T : Txt K mg) : FnX P w K mg b0 CX0 1 f fd ["e"] (spSortsX K) := by
  refine fnX_mk F scSorts (fun p vs H Q E h => ?_) (fun p cv A ou s H vs Q E hot hr h => ?_)
  · obtain ⟨i, fs, rfl, _⟩ := h
    rfl
  obtain ⟨i, fs, rfl, hi, he, hQ⟩ := h
  refine ⟨t_sorts (L2H.cxH CX0 P w K mg b0 ["e", "found"] "_law_sorts" (defScope sSorts) f cv A ou s H E p).nox p.1 i, PSs.nox ?_, rd_sorts _ hi (fun H' s => (he.same s).isE (List.mem_cons_self ..)) hQ⟩
  exact pss_cons (ps_set (i := 1) scSorts.nd rfl (Or.inl rfl) (pe_L (pa_is (pe_is T 0 rfl (Or.inl rfl) rfl rfl (by decide) rfl (by decide)) (pa_is (pe_is T 1 rfl (Or.inl rfl) rfl rfl (by decide) rfl (by decide)) (pa_is (pe_is T 2 rfl (Or.inl rfl) rfl rfl (by decide) rfl (by decide)) pa_is0)))))
      (pss_cons (ps_set (i := 1) scSorts.nd rfl (Or.inl rfl) (pe_op op_cat (pv 1) (pe_L (pa_is (pe_is T 3 rfl (Or.inl rfl) rfl rfl (by decide) rfl (by decide)) (pa_is (pe_is T 4 rfl (Or.inl rfl) rfl rfl (by decide) rfl (by decide)) (pa_is (pe_is T 5 rfl (Or.inl rfl) rfl rfl (by decide) rfl (by decide)) pa_is0))))))
      (pss_cons (ps_set (i := 1) scSorts.nd rfl (Or.inl rfl) (pe_op op_cat (pv 1) (pe_L (pa_is (pe_is T 6 rfl (Or.inl rfl) rfl rfl (by decide) rfl (by decide)) (pa_is (pe_is T 7 rfl (Or.inl rfl) rfl rfl (by decide) rfl (by decide)) (pa_is (pe_is T 8 rfl (Or.inl rfl) rfl rfl (by decide) rfl (by decide)) pa_is0))))))
      (pss_cons (ps_set (i := 1) scSorts.nd rfl (Or.inl rfl) (pe_op op_cat (pv 1) (pe_L (pa_is (pe_is T 9 rfl (Or.inl rfl) rfl rfl (by decide) rfl (by decide)) (pa_is (pe_is T 10 rfl (Or.inl rfl) rfl rfl (by decide) rfl (by decide)) (pa_is (pe_is T 11 rfl (Or.inl rfl) rfl rfl (by decide) rfl (by decide)) pa_is0))))))
      (pss_cons (ps_set (i := 1) scSorts.nd rfl (Or.inl rfl) (pe_op op_cat (pv 1) (pe_L (pa_is (pe_is T 12 rfl (Or.inl rfl) rfl rfl (by decide) rfl (by decide)) (pa_is (pe_is T 13 rfl (Or.inl rfl) rfl rfl (by decide) rfl (by decide)) (pa_is (pe_is T 14 rfl (Or.inl rfl) rfl rfl (by decide) rfl (by decide)) pa_is0))))))
      (pss_cons (ps_set (i := 1) scSorts.nd rfl (Or.inl rfl) (pe_op op_cat (pv 1) (pe_L (pa_is (pe_is T 15 rfl (Or.inl rfl) rfl rfl (by decide) rfl (by decide)) (pa_is (pe_is T 16 rfl (Or.inl rfl) rfl rfl (by decide) rfl (by decide)) (pa_is (pe_is T 17 rfl (Or.inl rfl) rfl rfl (by decide) rfl (by decide)) pa_is0))))))
      (pss_cons (ps_set (i := 1) scSorts.nd rfl (Or.inl rfl) (pe_op op_cat (pv 1) (pe_L (pa_is (pe_is T 18 rfl (Or.inl rfl) rfl rfl (by decide) rfl (by decide)) (pa_is (pe_is T 19 rfl (Or.inl rfl) rfl rfl (by decide) rfl (by decide)) (pa_is (pe_is T 20 rfl (Or.inl rfl) rfl rfl (by decide) rfl (by decide)) pa_is0))))))
      (pss_cons (ps_set (i := 1) scSorts.nd rfl (Or.inl rfl) (pe_op op_cat (pv 1) (pe_L (pa_is (pe_is T 21 rfl (Or.inl rfl) rfl rfl (by decide) rfl (by decide)) (pa_is (pe_is T 22 rfl (Or.inl rfl) rfl rfl (by decide) rfl (by decide)) (pa_is (pe_is T 23 rfl (Or.inl rfl) rfl rfl (by decide) rfl (by decide)) pa_is0))))))
      (pss_cons (ps_set (i := 1) scSorts.nd rfl (Or.inl rfl) (pe_op op_cat (pv 1) (pe_L (pa_is (pe_is T 24 rfl (Or.inl rfl) rfl rfl (by decide) rfl (by decide)) (pa_is (pe_is T 25 rfl (Or.inl rfl) rfl rfl (by decide) rfl (by decide)) (pa_is (pe_is T 26 rfl (Or.inl rfl) rfl rfl (by decide) rfl (by decide)) pa_is0))))))
      (pss_cons (ps_set (i := 1) scSorts.nd rfl (Or.inl rfl) (pe_op op_cat (pv 1) (pe_L (pa_is (pe_is T 27 rfl (Or.inl rfl) rfl rfl (by decide) rfl (by decide)) (pa_is (pe_is T 28 rfl (Or.inl rfl) rfl rfl (by decide) rfl (by decide)) (pa_is (pe_is T 29 rfl (Or.inl rfl) rfl rfl (by decide) rfl (by decide)) pa_is0))))))
      (pss_cons (ps_set (i := 1) scSorts.nd rfl (Or.inl rfl) (pe_op op_cat (pv 1) (pe_L (pa_is (pe_is T 30 rfl (Or.inl rfl) rfl rfl (by decide) rfl (by decide)) (pa_is (pe_is T 31 rfl (Or.inl rfl) rfl rfl (by decide) rfl (by decide)) (pa_is (pe_is T 32 rfl (Or.inl rfl) rfl rfl (by decide) rfl (by decide)) pa_is0))))))
      (pss_cons (ps_set (i := 1) scSorts.nd rfl (Or.inl rfl) (pe_op op_cat (pv 1) (pe_L (pa_is (pe_is T 33 rfl (Or.inl rfl) rfl rfl (by decide) rfl (by decide)) (pa_is (pe_is T 34 rfl (Or.inl rfl) rfl rfl (by decide) rfl (by decide)) (pa_is (pe_is T 35 rfl (Or.inl rfl) rfl rfl (by decide) rfl (by decide)) (pa_is (pe_is T 36 rfl (Or.inl rfl) rfl rfl (by decide) rfl (by decide)) pa_is0)))))))
      (pss_cons (ps_set (i := 1) scSorts.nd rfl (Or.inl rfl) (pe_op op_cat (pv 1) (pe_L (pa_is (pe_is T 37 rfl (Or.inl rfl) rfl rfl (by decide) rfl (by decide)) (pa_is (pe_is T 38 rfl (Or.inl rfl) rfl rfl (by decide) rfl (by decide)) (pa_is (pe_is T 39 rfl (Or.inl rfl) rfl rfl (by decide) rfl (by decide)) (pa_is (pe_is T 40 rfl (Or.inl rfl) rfl rfl (by decide) rfl (by decide)) pa_is0)))))))
      (pss_one (ps_ret (pe_op op_cat (pv 1) (pe_L (pa_is (pe_is T 41 rfl (Or.inl rfl) rfl rfl (by decide) rfl (by decide)) (pa_is (pe_is T 42 rfl (Or.inl rfl) rfl rfl (by decide) rfl (by decide)) (pa_is (pe_is T 43 rfl (Or.inl rfl) rfl rfl (by decide) rfl (by decide)) (pa_is (pe_is T 44 rfl (Or.inl rfl) rfl rfl (by decide) rfl (by decide)) pa_is0))))))))))))))))))))
theorem okX_kept (F : FnP K "_law_kept" sKept f fd) (T : Txt K mg) : FnX P w K mg b0 CX0 1 f fd ["e"] (spKeptX K) := by
  refine fnX_mk F scKept (fun p vs H Q E h => ?_) (fun p cv A ou s H vs Q E hot hr h => ?_)
  · obtain ⟨i, fs, ws, rfl, _⟩ := h
    rfl
  obtain ⟨i, fs, ws, rfl, hi, he, hl, hQ⟩ := h
  refine ⟨t_kept (L2H.cxH CX0 P w K mg b0 ["e"] "_law_kept" (defScope sKept) f cv A ou s H E p).nox p.1 i, PSs.nox ?_, rd_kept _ T hi (he.isE (List.mem_cons_self ..)) (fun f v l => he.hasE (List.mem_cons_self ..) l) hl hQ⟩
  exact pss_cons (ps_if (PW.pt (pw_or (pt_val (pe_is T 32 rfl (Or.inl rfl) rfl rfl (by decide) rfl (by decide))) (pw_or1 (pt_val (pe_is T 33 rfl (Or.inl rfl) rfl rfl (by decide) rfl (by decide)))))) (pss_one (ps_ret (pe_L (pa_cons (pe_at (pv 0)) pa_nil)))) pss_nil)
      (pss_cons (ps_if (pt_val (pe_is T 34 rfl (Or.inl rfl) rfl rfl (by decide) rfl (by decide))) (pss_one (ps_ret (pe_L (pa_cons (pe_at (pv 0)) pa_nil)))) pss_nil)
      (pss_cons (ps_if (pt_val (pe_is T 35 rfl (Or.inl rfl) rfl rfl (by decide) rfl (by decide))) (pss_one (ps_ret (pe_L (pa_cons (pe_at (pv 0)) pa_nil)))) pss_nil)
      (pss_cons (ps_if (pt_val (pe_is T 36 rfl (Or.inl rfl) rfl rfl (by decide) rfl (by decide))) (pss_one (ps_ret (pe_L (pa_cons (pe_at (pv 0)) (pa_cons (pe_at (pv 0)) pa_nil))))) pss_nil)
      (pss_cons (ps_if (pt_val (pe_is T 37 rfl (Or.inl rfl) rfl rfl (by decide) rfl (by decide))) (pss_one (ps_ret (pe_L (pa_cons (pe_at (pv 0)) (pa_cons (pe_at (pv 0)) pa_nil))))) pss_nil)
      (pss_cons (ps_if (pt_val (pe_is T 38 rfl (Or.inl rfl) rfl rfl (by decide) rfl (by decide))) (pss_one (ps_ret (pe_L (pa_cons (pe_at (pv 0)) (pa_cons (pe_at (pv 0)) (pa_cons (pe_at (pv 0)) pa_nil)))))) pss_nil)
      (pss_cons (ps_if (pt_val (pe_is T 39 rfl (Or.inl rfl) rfl rfl (by decide) rfl (by decide))) (pss_one (ps_ret (pe_L (pa_cons (pe_at (pv 0)) (pa_cons (pe_at (pv 0)) (pa_cons (pe_at (pv 0)) pa_nil)))))) pss_nil)
      (pss_cons (ps_if (pt_val (pe_is T 40 rfl (Or.inl rfl) rfl rfl (by decide) rfl (by decide))) (pss_one (ps_ret (pe_L (pa_cons (pe_at (pv 0)) (pa_cons (pe_at (pv 0)) (pa_cons (pe_at (pv 0)) (pa_cons (pe_at (pv 0)) pa_nil))))))) pss_nil)
      (pss_one (ps_ret (pe_ifExp (pt_val (pe_is T 41 rfl (Or.inl rfl) rfl rfl (by decide) rfl (by decide))) (pe_L (pa_cons (pe_at (pv 0)) (pa_cons (pe_at (pv 0)) (pa_cons (pe_at (pv 0)) (pa_cons (pe_at (pv 0)) (pa_cons (pe_at (pv 0)) pa_nil)))))) (pe_L (pa_cons (pe_at (pv 0)) pa_nil))))))))))))
theorem okX_is (F : FnP K "_law_is" sIs f fd) (T : Txt K mg) (FS : FnP K "_law_sorts" sSorts fS fdS) (gS : mg "_law_sorts" = some (.ref fS)) : FnX P w K mg b0 CX0 2 f fd ["e", "spot"] (spIsX K) := by
  have GS : FnX P w K mg b0 CX0 1 fS fdS ["e"] (spSortsX K) := okX_sorts FS T
  have bS : Binds K fdS ["e"] [] := FS.bindsN fun _ _ _ _ _ _ us hl => match us, hl with | [_], _ => rfl
  refine fnX_mk F scIs (fun p vs H Q E h => ?_) (fun p cv A ou s H vs Q E hot hr h => ?_)
  · obtain ⟨i, fs, sp, rfl, _⟩ := h
    rfl
  obtain ⟨i, fs, sp, rfl, hi, he, hQ⟩ := h
  have hu : (A.deeper (envOfC "_law_is" (defScope sIs) s.heap.objs.size f cv)).units + 64 < cLine := by
    have := hr.un
    omega
  refine ⟨_, PSs.nox (pss_cons (ps_set (i := 2) scIs.nd rfl (Or.inr rfl) (pe_callX (xp := p) GS hot (List.mem_cons_self ..) hr rfl gS FS.kp bS pass0 (pa_cons (pv 0) pa_nil)))
    (pss_cons (ps_if (PW.pt (pw_or (pt_not (pt_val (pe_isP (e := p.1) (i := i) T rfl (Or.inl rfl) rfl rfl))) (pw_or1 (pt_not (pt_val (pe_isV (e := p.1) (i := i) T rfl (Or.inl rfl) rfl rfl)))))) (pss_one (ps_ret pe_bl)) pss_nil)
    (pss_one (ps_ret (pe_cmpR (op_eqD hu)
      (pe_lcH (own := [("k", 3)]) (g := gName 3) (tt := tB (tOp (rIxL K) (tVar 2) (tVar 3))) (te := tVar 3) ⟨p, hot, List.mem_cons_self ..⟩ scIs.nd
        (L2H.pi_range1H rfl T.fran (pa_cons (pe_callB call_len rfl T.flen boot_len (pa_cons (pv 2) pa_nil)) pa_nil))
        (blkOk_by (own := [("k", 3)]) (N := ["e", "spot", "sorts", "k"]) (sc := defScope sIs) (by decide +kernel))
        (fun _ _ _ _ _ => pg_name (i := 3) scIs.nd rfl (Or.inl rfl)) (fun _ _ _ _ _ => pts_one (pt_val (pe_ix ix_list (pv 2) (pv 3) (fun _ _ => rfl)))) (fun _ _ _ _ _ => pv 3))
      (pe_L (pa_cons (pv 1) pa_nil)) (nomark _)))))), ?_⟩
  refine ⟨_, rfl, i, fs, rfl, hi, he, fun a H1 s1 e1 => ?_⟩
  have hI : IsE (L2H.cxH CX0 P w K mg b0 ["e", "spot", "sorts", "k"] "_law_is" (defScope sIs) f cv A ou s H E p).nox p.1 (Cl K i) H1 := (he.same s1).isE (List.mem_cons_self ..)
  refine ⟨rfl, hi, hI, _, rfl, iteF ⟨rfl, hi, hI, _, rfl, iteF ?_⟩⟩
  refine ⟨_, rfl, _, 45, rfl, Or.inl ⟨_, SqL.of e1, sorts_len.symm⟩, (45 : Int), rfl, by decide, by decide, fun D hD => ?_⟩
  refine lc_range (lo := 0) (n := 45) (fun j H' => Same H1 H' ∧ H' D = some (.lst (got i j))) ⟨same_new hD, upd_same⟩ ?_ ?_
  · rintro j H2 hj ⟨s2, e2⟩
    refine ⟨rfl, ?_⟩
    refine ⟨_, rfl, _, rfl, a, sorts45 i, (j : Int), .bl (decide (i = j)), rfl, by rw [Int.zero_add], SqL.of (s2 _ _ e1), atI_nat (sorts_at hj), _, rfl, ?_⟩
    by_cases c : i = j
    · rw [decide_eq_true c]
      refine iteT ⟨_, rfl, _, e2, got_len, fun b o q => ?_, ?_⟩
      · rw [upd_ne (ne_of_none q hD)]
        exact s2 b o q
      · rw [upd_same]
        have g1 : got i j = [] := if_neg (by omega)
        have g2 : got i (j + 1) = [.int (i : Int)] := if_pos (by omega)
        rw [g1, g2, Int.zero_add, c]
        rfl
    · rw [decide_eq_false c]
      refine iteF ⟨s2, ?_⟩
      rw [e2]
      unfold got
      by_cases lt : i < j
      · rw [if_pos lt, if_pos (by omega)]
      · rw [if_neg lt, if_neg (by omega)]
  · rintro H2 ⟨s2, e2⟩
    have g : got i 45 = [.int (i : Int)] := if_pos hi
    rw [g] at e2
    refine ⟨_, rfl, Nat.le_of_ble_eq_true rfl, fun q H3 s3 _ e3 => ?_⟩
    refine ⟨.list [.int (i : Int)], .list [.int sp], .lst (SqL.of (s3 _ _ e2)) (.cons (.int _) .nil), .lst (SqL.of e3) (.cons (.int _) .nil), rfl, rfl, ?_⟩
    rw [eq_one]
    exact hQ _ ((s1.trans s2).trans s3)
end
end Kz

namespace Kz
open PySem PySem.Spec PyProof.Rows L2

/-! ### except (A, B, ..): -/
theorem loopB {α β : Type} {M : Model} {A : Around} {E : Value → Shared → Prop} {s : Shared} {x0 x1 : β} {f : α → β → Sem (ForInStep β)} {v : α → Bool} : ∀ (l : List α), (∀ c ∈ l, ∀ Q : ForInStep β → Shared → Prop, Q (if v c = true then .done x1 else .yield x0) s → wpAny M A (f c x0) Q E s) →
    ∀ Q : β → Shared → Prop, Q (if l.any v = true then x1 else x0) s → wpAny M A (forIn l x0 f) Q E s
  | [], _, Q, q => by
    rw [List.forIn_nil]
    exact wpAny_pure q
  | c :: r, h, Q, q => by
    rw [List.forIn_cons]
    refine wpAny_bind (h c (List.mem_cons_self ..) _ ?_)
    rw [List.any_cons] at q
    by_cases hv : v c = true
    · rw [if_pos hv]
      rw [hv, Bool.true_or, if_pos rfl] at q
      exact wpAny_pure q
    · rw [if_neg hv]
      rw [show v c = false by simpa using hv, Bool.false_or] at q
      exact loopB r (fun d hd => h d (List.mem_cons_of_mem _ hd)) Q q
theorem exmAny_all {K : PySem.W.Frag} {cls : Value} : ∀ {cs : List Value} {b : Bool}, PySem.W.exmAny K cls cs = some b → (∀ c ∈ cs, ∃ v, PySem.W.exmOne K cls c = some v) ∧ b = cs.any (fun c => PySem.W.exmOne K cls c == some true)
  | [], b, h => by
    have e : some false = some b := h
    cases e
    exact ⟨(fun c hc => absurd hc List.not_mem_nil), rfl⟩
  | c :: r, b, h => by
    obtain ⟨b1, d1, x1, y1, z1⟩ := PySem.W.exmAny_cons h
    obtain ⟨i1, i2⟩ := exmAny_all y1
    refine ⟨fun c' hc => ?_, ?_⟩
    · rcases List.mem_cons.mp hc with rfl | hc
      · exact ⟨_, x1⟩
      · exact i1 c' hc
    · rw [List.any_cons, x1, ← i2, z1]
      cases b1 <;> rfl
theorem exm_tup {M : Model} {K : PySem.W.Frag} {cls : Value} {cs : List Value} {tp e : Addr} {b : Bool} {h : Heap} (X : K.In h) (LT : PySem.W.Looks M h (typeOf (.ref e)) cls) (hp : h.get? tp = some { cls := .type "tuple", data := .seq cs.toArray }) (hx : PySem.W.exmAny K cls cs = some b) :
    PySem.W.Looks M h (excMatches (.ref e) (.ref tp)) b := by
  intro A Q E s k q
  have LT0 : PySem.W.Looks M h (isInstance (.ref tp) (.type "tuple")) true := ((PySem.W.Looks.ld hp).andThen .now).andThen (PySem.W.Looks.of_pure isSubtype_tuple_tuple)
  obtain ⟨i1, i2⟩ := exmAny_all hx
  have hp' := k _ _ hp
  unfold excMatches
  refine wpAny_bind ((LT0.keeps k).here ?_)
  dsimp only
  rw [if_pos rfl]
  refine wpAny_bind (wpAny_seqItems hp' rfl ?_)
  refine wpAny_bind (wpAny_pure ?_)
  dsimp only [Option.getD_some, Option.getD]
  refine wpAny_bind (loopB (x1 := PUnit.unit) (v := fun _ => false) _ (fun c hc Q' q' => ?_) _ ?_)
  · obtain ⟨v, hv⟩ := i1 c hc
    obtain ⟨e1, _⟩ := PySem.W.exm_cls (M := M) X hv
    refine wpAny_bind ((e1.keeps k).here ?_)
    simp only [Bool.not_true, Bool.false_eq_true, if_false]
    exact wpAny_pure q'
  refine wpAny_bind ((LT.keeps k).here ?_)
  refine wpAny_bind (loopB (x1 := ((some true, ()) : Option Bool × Unit)) (v := fun c => PySem.W.exmOne K cls c == some true) _ (fun c hc Q' q' => ?_) _ ?_)
  · obtain ⟨v, hv⟩ := i1 c hc
    obtain ⟨_, S1⟩ := PySem.W.exm_cls (M := M) X hv
    refine wpAny_bind ((S1.keeps k).here ?_)
    rw [hv] at q'
    cases v with
    | true => exact wpAny_pure q'
    | false => exact wpAny_pure q'
  rw [← i2]
  cases b with
  | true => exact wpAny_pure q
  | false => exact wpAny_pure q
end Kz

namespace Kz
open PySem PySem.Spec PyProof.Rows L2

/-! ### try: .., except (A, ..): .., except (B, ..): .. -/
theorem fly_keeps {B : Heap} {l : List Env} {e : Addr} {Z : Obj → Prop} {h h' : Heap} (f : HandSPX.FlyingZ B l e Z h) (k : ∀ b o, h.get? b = some o → h'.get? b = some o) : HandSPX.FlyingZ B l e Z h' := by
  obtain ⟨f1, f2, f3, oe, vs, T, oT, ts, g1, g2, g3, g4, g5, g6, g7, g8, g9⟩ := f
  exact ⟨fun b o z => k b o (f1 b o z), f2, Heap.FunFrames.of_keeps (fun b o z _ => ⟨o, k b o z, rfl⟩) f3, oe, vs, T, oT, ts, k _ _ g1, g2, g3, g4, g5, g6, k _ _ g7, g8, g9⟩
/-- names of own classes -/
inductive NmT (X : Cx) : List Expr → List Value → Prop
  | nil : NmT X [] []
  | cons {x : Str} {p : Pos} {c : Value} {es : List Expr} {cs : List Value} : Gl X x → X.mg x = some c → (x == ("__debug__" : Str)) = false → starEach (.Name x p :: es) X.env = (false, eval (.Name x p) X.env) :: starEach es X.env → NmT X es cs → NmT X (.Name x p :: es) (c :: cs)
theorem nmt_len {X : Cx} {es : List Expr} {cs : List Value} (h : NmT X es cs) : es.length = cs.length := by
  induction h with
  | nil => rfl
  | cons _ _ _ _ _ ih => exact congrArg Nat.succ ih
theorem nmt_run {X : Cx} {pins : List (Addr × Obj)} {σ : L2.St} {H : Hp} {s : Shared} {E : Value → Shared → Prop} {pos : Pos} (I : Inv X pins σ H s) {es : List Expr} {cs : List Value} (h : NmT X es cs) : ∀ Q : List Value → Shared → Prop, Q cs s → wpAny (model X.prog X.w) X.A (spliced (backTo pos (starEach es X.env))) Q E s := by
  induction h with
  | nil => exact fun Q q => Calls.spliced_nil q
  | cons g m nd hs _ ih =>
    intro Q q
    rw [hs]
    exact Calls.spliced_cons (ld_glob I g m (ih _ q) nd)
inductive HdT (X : Cx) : List ExceptHandler → List (List Value × TS) → Prop
  | nil : HdT X [] []
  | cons {es : List Expr} {cs : List Value} {ts : TS} {b₀ : Stmt} {suite : List Stmt} {k : Nat} {tp pos' : Pos} {hds : List ExceptHandler} {l : List (List Value × TS)} (hc : NmT X es cs) (hl : cs.length ≤ 100)
      (hsu : ∀ (a : Addr) (oe : Obj) (cls : Value) (d : Option Addr) (pn : List (Addr × Obj)), L2N.Zn cls d oe → (∃ vs, oe.data = .fields vs) → PSs (X.suite a ((a, oe) :: pn)) (b₀ :: suite) ts) (r : HdT X hds l) :
      HdT X (.ExceptHandler (some (.Tuple es k tp)) none (b₀ :: suite) pos' :: hds) ((cs, ts) :: l)
def wTup (K : PySem.W.Frag) (Wout : WX) (D : Ends) : List (List Value × TS) → WX
  | [] => Wout
  | (cs, ts) :: r => fun cls d σ H => ∃ b, PySem.W.exmAny K cls cs = some b ∧ (b = true → ts D σ H) ∧ (b = false → wTup K Wout D r cls d σ H)
theorem nmt_suite {X : Cx} {a : Addr} {pn : List (Addr × Obj)} {es : List Expr} {cs : List Value} (h : NmT X es cs) : NmT (X.suite a pn) es cs := by
  induction h with
  | nil => exact .nil
  | cons g m nd hs _ ih => exact .cons g m nd hs ih
section
variable {X : Cx} {body : List Stmt} {h₀ : ExceptHandler} {hds : List ExceptHandler} {l : List (List Value × TS)} {pos : Pos} {tb : WX → TS} {Wout : WX}
theorem ps_try_tup (hs : X.stack = X.env :: X.outer) (hf : X.env.frame = some X.env.locals) (tk : L2N.Takes X Wout)
    (hb : ∀ (W : WX) (pn : List (Addr × Obj)) (xe : Value → Shared → Prop), L2N.Takes (X.tr pn xe) W → PassesOwn (model X.prog X.w) X.A X.env xe → PSs (X.tr pn xe) body (tb W))
    (hh : HdT X (h₀ :: hds) l) : PS X (.Try body (h₀ :: hds) [] [] pos) (fun D σ H => tb (wTup X.K Wout D l) D σ H) := by
  constructor
  intro pins s σ H D I h
  have ok := I.ok
  have fr : X.A.frames = some (X.env :: X.outer) := by rw [ok.frames, hs]
  refine wpAny_Try_except (wpAny_mono ((hb (wTup X.K Wout D l) (X.pn ++ pins) (fun e y₁ => wpAny (model X.prog X.w) X.A (noteFrame e X.env) (fun _ y₂ => wpAny (model X.prog X.w) X.A (setFlight e none)
    (fun _ y₃ => wpAny (model X.prog X.w) X.A (handleBy e X.env (h₀ :: hds)) (SP X pins D) X.xe y₃) X.xe y₂) X.xe y₁) (fun u t xx => ?_) PassesOwn.looking).run [] s σ H D (I.toTry _) h) (fun f t z => ?_) fun _ _ z => z)
  · obtain ⟨a, B, sI, pn', σ', H', cls, d, rfl, J', nb, up, sky, na, os, ag, w⟩ := xx
    have J : Inv X pins σ' H' sI := J'.ofTry ok
    show wpAny (model X.prog X.w) X.A (noteFrame (.ref a) X.env) _ _ _
    refine L2N.Sky.land L2N.Zn.steady fr hf (by rw [← hs]; exact sky) fun g0 fl0 up0 => ?_
    have go : ∀ {hs' : List ExceptHandler} {l' : List (List Value × TS)}, HdT X hs' l' → wTup X.K Wout D l' cls d σ' H' → ∀ g : Heap, HandSPX.FlyingZ B (X.env :: X.outer) a (L2N.Zn cls d) g → t.heap.UpToSlots g →
        wpAny (model X.prog X.w) X.A (handleBy (.ref a) X.env hs') (SP X pins D) X.xe { t with heap := g } := by
      intro hs' l' hk
      induction hk with
      | nil =>
        intro w g fl ug
        refine wpAny_handleBy_nil ?_
        obtain ⟨k1, k2, k3, oe, vs, T, oT, ts, he, hz, hd, h1, hr⟩ := id fl
        unfold PySem.passOn
        refine wpAny_bind (wpAny_field he hd h1 ?_)
        rw [if_neg (show ¬ ((Value.ref T == Value.none) = true) from by simp)]
        have thr : wpAny (model X.prog X.w) X.A (setFlight (.ref a) X.env.frame) (fun _ y => wpAny (model X.prog X.w) X.A (throw (.ref a) : Sem Flow) (SP X pins D) X.xe y) X.xe { t with heap := g } := by
          rw [hf]
          refine HandSPX.setFlight_upZ fl fun g4 hh4 up4 => wpAny_throw (tk _ _ ?_)
          exact ⟨a, B, sI, pins, σ', H', cls, d, rfl, J, nb, (up.trans ug).trans up4, .inr (.inr (by rw [hs]; exact hh4)), na, os, ag, w⟩
        first
          | exact wpAny_bind (wpAny_pure (wpAny_bind thr))
          | exact wpAny_bind thr
      | @cons es cs ts b₀ suite k tpos pos' hds2 l2 hc hl hsu r ih =>
        intro w g fl ug
        obtain ⟨b, hb1, hy, hno⟩ := w
        obtain ⟨oe3, vs3, he3, hz3, hd3⟩ := fl.there
        have J3 : Inv X pins σ' H' { t with heap := g } := J.landed nb fl.1 (up.trans ug) os ag
        have nfr : a ∉ frs (X.env :: X.outer) := fun hm => by
          obtain ⟨_, o', e', hnf⟩ := fl.2.2.1.mem hm
          rw [he3] at e'
          cases e'
          exact hnf _ hd3
        have nL : a ≠ X.env.locals := fun z => nfr (List.mem_filterMap.mpr ⟨X.env, List.mem_cons_self, by rw [hf, z]⟩)
        have nF : a ∉ X.fs := fun hm => by
          obtain ⟨e, he, q⟩ := List.mem_filterMap.mp hm
          exact nfr (List.mem_filterMap.mpr ⟨e, List.mem_cons_of_mem _ he, q⟩)
        have S3 := J3.suite he3 hd3 na nL nF
        have kp : ∀ b o, g.get? b = some o → (g.push { cls := .type "tuple", data := .seq cs.toArray }).get? b = some o := fun b o e => Heap.get?_push_of_some _ e
        have fl2 := fly_keeps fl kp
        have u2 : t.heap.UpToSlots (g.push { cls := .type "tuple", data := .seq cs.toArray }) := ug.trans (Heap.UpToSlots.of_keeps kp)
        have at2 : (g.push { cls := .type "tuple", data := .seq cs.toArray }).get? g.objs.size = some { cls := .type "tuple", data := .seq cs.toArray } := Heap.get?_push_size _ rfl
        have J4 : Inv X pins σ' H' { t with heap := g.push { cls := .type "tuple", data := .seq cs.toArray } } := J.landed nb fl2.1 (up.trans u2) os ag
        refine wpAny_handleBy_cons (codeAny_handlers_test ?_) (by intro q; cases q)
        have LT : PySem.W.Looks (model X.prog X.w) (g.push { cls := .type "tuple", data := .seq cs.toArray }) (typeOf (.ref a)) cls := fun A Q E s k q => wpAny_typeOf_ref (k _ _ (kp _ _ he3)) (by rw [hz3.1]; exact q)
        have LM := exm_tup (M := model X.prog X.w) J4.kIn LT at2 hb1
        refine wpAny_Tuple_spliced (nmt_run (X := X.suite a ((a, oe3) :: (X.pn ++ pins))) S3 (nmt_suite hc) _ ⟨Nat.le_trans hl (small (by decide)), LM.here ?_⟩)
        cases b with
        | true =>
          refine codeAny_handlers_suite ?_
          refine HandSPX.lands_againZ fl2 fun g5 fl5 up5 => ?_
          have J5 : Inv X pins σ' H' { t with heap := g5 } := J.landed nb fl5.1 ((up.trans u2).trans up5) os ag
          obtain ⟨oe5, vs5, he5, hz5, hd5⟩ := fl5.there
          have S5 := J5.suite he5 hd5 na nL nF
          refine wpAny_mono ((hsu a oe5 cls d (X.pn ++ pins) hz5 ⟨_, hd5⟩).run [] _ _ H' _ S5 (hy rfl)) (fun f t6 z => ?_) (fun _ _ z => False.elim z)
          cases f with
          | ret u =>
            obtain ⟨v6, σ6, H6, S6, r6, q6⟩ := z
            exact ⟨_, _, _, S6.unsuite ok, r6, q6⟩
          | _ =>
            obtain ⟨σ6, H6, S6, q6⟩ := z
            exact ⟨_, _, S6.unsuite ok, q6⟩
        | false =>
          show wpAny _ X.A (handleBy (.ref a) X.env hds2) _ _ _
          exact ih (hno rfl) _ fl2 u2
    exact go hh w g0 fl0 up0
  · cases f with
    | next =>
      obtain ⟨σ', H', J', q⟩ := z
      exact wpAny_execs_nil ⟨σ', H', J'.ofTry ok, q⟩
    | ret v =>
      obtain ⟨v, σ', H', J', r, q⟩ := z
      exact ⟨v, σ', H', J'.ofTry ok, r, q⟩
    | _ =>
      obtain ⟨σ', H', J', q⟩ := z
      exact ⟨σ', H', J'.ofTry ok, q⟩
end
end Kz

namespace Kz
open PySem PySem.Spec PyProof.Rows L2

/-! ### _law_caught -/
theorem exm_any {K : PySem.W.Frag} {mg : Str → Option Value} (T : Txt K mg) {i : Nat} (hi : i < 45) : ∀ js : List Nat, (∀ j ∈ js, j < 45) → PySem.W.exmAny K (.ref (Cl K i)) (js.map fun j => .ref (Cl K j)) = some (js.any fun j => decide (i = j))
  | [], _ => rfl
  | j :: r, h => by
    have ih := exm_any T hi r fun k hk => h k (List.mem_cons_of_mem _ hk)
    have e := T.exm i j hi (h j (List.mem_cons_self ..))
    rw [List.map_cons]
    unfold PySem.W.exmAny
    rw [e, ih]
    rfl
def cs1 (K : PySem.W.Frag) : List Value := ([9, 39, 34, 32, 44] : List Nat).map fun j => .ref (Cl K j)
def cs2 (K : PySem.W.Frag) : List Value := ([10, 41, 40, 33, 43] : List Nat).map fun j => .ref (Cl K j)
theorem kof_lt : ∀ wy, wy < 5 → kof wy < 45 := by decide
theorem kof_no : ∀ wy, wy < 5 → ([9, 39, 34, 32, 44] : List Nat).any (fun j => decide (kof wy = j)) = false := by decide
theorem kof_yes : ∀ wy, wy < 5 → ([10, 41, 40, 33, 43] : List Nat).any (fun j => decide (kof wy = j)) = true := by decide
theorem kof_at : ∀ wy, wy < 5 → (([10, 41, 40, 33, 43] : List Int).map V.int)[wy]? = some (V.int (kof wy : Int)) := by decide
theorem kof_42 : ∀ wy, wy < 4 → kof wy < 42 ∧ (flds (kof wy)).length ≤ 5 ∧ 0 < (flds (kof wy)).length := by decide +kernel
theorem at_last {v : V} : ∀ n, n ≤ 5 → 0 < n → atI (List.replicate n v) (-1) = some v
  | 1, _, _ => rfl
  | 2, _, _ => rfl
  | 3, _, _ => rfl
  | 4, _, _ => rfl
  | 5, _, _ => rfl
  | n + 6, h, _ => absurd h (by omega)
theorem roomH_mk {k : Nat} {A : Around} {a : Addr} (r : Room k A) : L2H.RoomH k (A.mark (some (.ref a))) := L2H.roomH_mark r _
def spCaught : Sp := fun vs H Q _ => ∃ (b : Addr) (c : Int) (v : V) (dd : PyData), vs = [.ref b, v] ∧ BoxAt H b c ∧ c ≤ 9000 ∧ Dq b H v dd ∧ Shw dd ∧ ∀ H', BoxAt H' b (c + 1) → Save b H H' → Q (.bl true) H'
theorem scCaught : FnScope ["box", "thing", "way", "met", "e"] ["box", "thing"] (defScope sCaught) := ⟨rfl, rfl, rfl, by decide +kernel, rfl, by decide +kernel, by decide +kernel⟩
/-- what the first suite wishes -/
def tsAs (K : PySem.W.Frag) (b m : Addr) (v : V) (dd : PyData) (a : Addr) (cls : Value) (d : Option Addr) : TS := fun D σ H => ∃ wy : Nat, wy < 5 ∧ σ = [some (.ref b), some v, some (.int wy), some (.ref m), some (.ref a)] ∧ cls = .ref (Cl K (kof wy)) ∧
  (wy < 4 → ∃ d', d = some d' ∧ XdAll H d' (kof wy) v) ∧ (wy = 4 → d = none) ∧ H m = some (.lst []) ∧ Dq b H v dd ∧ Shw dd ∧ ∀ H', Save m H H' → H' m = some (.lst [.bl true]) → D.nx σ H'
def tsApp : TS := fun D σ H => ∃ m, σ[3]? = some (some (.ref m)) ∧ H m = some (.lst [.bl true]) ∧ D.nx σ (upd H m (.lst [.bl true, .bl true]))
theorem save_new {b m : Addr} {H H1 H2 H3 : Hp} (s1 : Save b H H1) (n : H1 m = none) (s2 : Same H1 H2) (s3 : Save m H2 H3) : Save b H H3 := fun q o nq e => by
  have e1 := s1 q o nq e
  have nm : q ≠ m := fun z => by
    rw [z, n] at e1
    cases e1
  exact s3 q o nm (s2 q o e1)
theorem raised_both {K : PySem.W.Frag} {H : Hp} {E : XK} {wy : Nat} {v : V} (h : ∀ d J, Same H J → (wy < 4 → ∃ d', d = some d' ∧ XdAll J d' (kof wy) v) → (wy = 4 → d = none) → E (.ref (Cl K (kof wy))) d J) :
    (wy < 4 → ∀ d H', Same H H' → XdAll H' d (kof wy) v → E (.ref (Cl K (kof wy))) (some d) H') ∧ (wy = 4 → E (.ref (Cl K 43)) none H) := by
  refine ⟨fun l d H' s x => h _ _ s (fun _ => ⟨d, rfl, x⟩) (fun z => absurd z (by omega)), fun l => ?_⟩
  subst l
  exact h none H (Same.refl _) (fun z => absurd z (by decide)) fun _ => rfl
section
variable {P : Program} {w : World} {K : PySem.W.Frag} {mg : Str → Option Value} {b0 : Heap} {f : Addr} {fd : FuncData}
theorem ok_caught (F : FnP K "_law_caught" sCaught f fd) (T : Txt K mg) (OT : Df P w K mg b0 "_law_take" 1 ["box", "many"] spTake) (fR : Addr) (dR : FuncData) (GR : FnOk P w K mg b0 (L2N.CX P w) 3 fR dR ["way", "thing"] (spRaised K)) (bR : Binds K dR ["way", "thing"] [])
    (gR : mg "_law_raised" = some (.ref fR)) (kR : PySem.W.keepIn K (.ref fR) = true) (OI : DfX P w K mg b0 "_law_is" 2 ["e", "spot"] (spIsX K)) (OK : DfX P w K mg b0 "_law_kept" 1 ["e"] (spKeptX K)) : FnG P w K mg b0 CX0 4 f fd ["box", "thing"] spCaught := by
  obtain ⟨fT, dT, GT, bT, gT, kT⟩ := OT.m
  obtain ⟨fI, dI, GI, bI, gI, kI⟩ := OI.m
  obtain ⟨fK, dK, GK, bK, gK, kK⟩ := OK.m
  refine fnG_mk F scCaught (fun vs H Q E h => ?_) (fun cv A ou s H vs Q E g0 hr h => ?_)
  · obtain ⟨b, c, v, dd, rfl, _⟩ := h
    rfl
  obtain ⟨b, c, v, dd, rfl, bx, hc, dq, sh, hQ⟩ := h
  have r1 := hr.mono (j := 1) (by decide)
  have hu := hr.units
  have tk0 : L2N.Takes (cxOf CX0 P w K mg b0 ["box", "thing", "way", "met", "e"] "_law_caught" (defScope sCaught) f cv A ou s H E).nox (fun _ _ _ _ => False) := fun u s' ⟨_, _, _, _, _, _, _, _, _, _, _, _, _, _, _, _, z⟩ => z.elim
  refine ⟨_, PSs.nox (pss_cons (ps_par (i := 2) (j := 3) (by rfl) scCaught.nd rfl rfl (by decide) rfl rfl (pa_cons (pe_call GT r1 rfl gT kT bT .nil pass0 (pa_cons (pv 0) (pa_cons pe_int pa_nil))) (pa_cons (pe_L pa_nil) pa_nil)) (by rfl))
    (pss_cons (L2N.ps_try_as (i := 4) (c := .ref (PEc K)) (Wout := fun _ _ _ _ => False) (tb := fun W => tDrop (tCallS (spRaised K) (WE W) (tCons (tVar 2) (tCons (tVar 1) tNil)))) (ts := fun a cls d D σ H => ∃ m, tsAs K b m v dd a cls d D σ H) rfl rfl scCaught.nd rfl rfl ⟨rfl, rfl, Or.inl T.gP⟩ tk0
        (fun W pn xe tk hp => pss_one (ps_expr (pe_callS GR hr rfl gR kR bR (L2N.passAt tk) (pa_cons (pv 2) (pa_cons (pv 1) pa_nil))))) (fun a oe cls d pn hz hd => ?_))
    (pss_cons (ps_try_tup (Wout := fun _ _ _ _ => False) (l := [(cs1 K, tNever), (cs2 K, tsApp)]) (tb := fun W => tDrop (tCallS (spRaised K) (WE W) (tCons (tVar 2) (tCons (tVar 1) tNil)))) rfl rfl tk0
        (fun W pn xe tk hp => pss_one (ps_expr (pe_callS GR hr rfl gR kR bR (L2N.passAt tk) (pa_cons (pv 2) (pa_cons (pv 1) pa_nil)))))
        (.cons (.cons rfl (T.gc 9 (by decide)) rfl rfl (.cons rfl (T.gc 39 (by decide)) rfl rfl (.cons rfl (T.gc 34 (by decide)) rfl rfl (.cons rfl (T.gc 32 (by decide)) rfl rfl (.cons rfl (T.gc 44 (by decide)) rfl rfl .nil))))) (Nat.le_of_ble_eq_true rfl) (fun a oe cls d pn hz hd => pss_never)
        (.cons (.cons rfl (T.gc 10 (by decide)) rfl rfl (.cons rfl (T.gc 41 (by decide)) rfl rfl (.cons rfl (T.gc 40 (by decide)) rfl rfl (.cons rfl (T.gc 33 (by decide)) rfl rfl (.cons rfl (T.gc 43 (by decide)) rfl rfl .nil))))) (Nat.le_of_ble_eq_true rfl) (fun a oe cls d pn hz hd => ?_) .nil)))
    (pss_one (ps_ret (pe_cmpR (op_eqD hu) (pv 3) (pe_L (pa_cons pe_bl (pa_cons pe_bl pa_nil))) (nomark _))))))), ?_⟩
  · -- the first suite
    obtain ⟨vs, hv⟩ := hd
    have hot : L2H.Hot1 ((A.deeper (envOfC "_law_caught" (defScope sCaught) s.heap.objs.size f cv)).mark (some (.ref a))) (a, oe) := ⟨rfl, vs, hv, hz.2.2 vs hv⟩
    have rh2 := roomH_mk (r := hr.mono (j := 2) (by decide)) (a := a)
    have rh1 := roomH_mk (r := hr.mono (j := 1) (by decide)) (a := a)
    refine PSs.imp (pss_one (ps_expr (pe_bm PySem.F.plainAttrs_list PySem.F.slot_list_append PySem.F.type_list_append mt_append (pv 3) (pa_cons
      (pe_and (pe_callX (xp := (a, oe)) GI hot (List.mem_cons_self ..) rh2 rfl gI kI bI pass0 (pa_cons (pv 4) (pa_cons (pe_ix ix_list (pe_L (pa_cons pe_int (pa_cons pe_int (pa_cons pe_int (pa_cons pe_int (pa_cons pe_int pa_nil)))))) (pv 2) (fun _ _ => rfl)) pa_nil)))
        (pe_one (pe_or (pe_cmpR op_eq (pv 2) pe_int (nomark _)) (pe_one (pe_cmpR op_eq
          (pe_callB (call_rep g0 hu T.sd) rfl T.frep (by decide +kernel) (pa_cons (pe_ix ix_list (pe_callX (xp := (a, oe)) GK hot (List.mem_cons_self ..) rh1 rfl gK kK bK pass0 (pa_cons (pv 4) pa_nil)) (pe_un un_neg pe_int) (fun _ _ => rfl)) pa_nil))
          (pe_callB (call_rep g0 hu T.sd) rfl T.frep (by decide +kernel) (pa_cons (pv 1) pa_nil)) (nomark _)))))) pa_nil)))) ?_
    rintro D σ H0 ⟨m, wy, lt, rfl, rfl, h4, h5, hm, dq0, sh0, hD⟩
    refine ⟨_, rfl, .inl ⟨rfl, _, SqL.of hm⟩, _, rfl, Nat.le_of_ble_eq_true rfl, fun p1 H1 s1 n1 e1 => ?_⟩
    have er : ∃ fs, ErP (a, oe) H0 (Cl K (kof wy)) fs ∧ (wy < 4 → (flds (kof wy)).map (fun n => fs.lookup n) = (List.replicate (flds (kof wy)).length v).map some) := by
      by_cases c4 : wy < 4
      · obtain ⟨d', ed, fs, e2, e3⟩ := h4 c4
        exact ⟨fs, ⟨hz.1, ⟨vs, hv⟩, .inl ⟨d', hz.2.1.trans ed, e2⟩⟩, fun _ => e3⟩
      · exact ⟨[], ⟨hz.1, ⟨vs, hv⟩, .inr ⟨hz.2.1.trans (h5 (by omega)), rfl⟩⟩, fun z => absurd z c4⟩
    obtain ⟨fs, er, look⟩ := er
    refine ⟨_, rfl, p1, _, (wy : Int), .int (kof wy : Int), rfl, rfl, SqL.of e1, atI_nat (kof_at wy lt), kof wy, fs, (kof wy : Int), rfl, kof_lt wy lt, er.same s1, fun H2 s2 => ?_⟩
    rw [decide_eq_true rfl]
    have s12 := s1.trans s2
    have fin : ∀ H3, Same H0 H3 → ∃ l xs y, V.ref m = .ref l ∧ [V.bl true] = [y] ∧ H3 l = some (.lst xs) ∧ xs.length < sizeLine ∧ D.nx [some (.ref b), some v, some (.int wy), some (.ref m), some (.ref a)] (upd H3 l (.lst (xs ++ [y]))) := fun H3 s3 =>
      ⟨m, [], .bl true, rfl, rfl, s3 _ _ hm, by show 0 < sizeLine; decide, hD _ (fun q o nq e => by rw [upd_ne nq]; exact s3 q o e) upd_same⟩
    refine ⟨true, rfl, iteT ⟨_, rfl, rfl, ?_⟩⟩
    by_cases c4 : wy = 4
    · rw [show decide (V.int (wy : Int) = V.int 4) = true from by rw [c4]; decide]
      exact ⟨true, rfl, iteT (fin H2 s12)⟩
    · rw [show decide (V.int (wy : Int) = V.int 4) = false from decide_eq_false fun z => c4 (by injection z with z; omega)]
      obtain ⟨k1, k2, k3⟩ := kof_42 wy (by omega)
      refine ⟨false, rfl, iteF ⟨_, rfl, kof wy, fs, _, rfl, k1, er.same s12, look (by omega), fun q H3 s3 _ e3 => ?_⟩⟩
      have s03 := s12.trans s3
      refine ⟨1, rfl, q, _, -1, v, rfl, rfl, SqL.of e3, at_last _ k2 k3, ?_⟩
      refine ⟨b, v, dd, rfl, dq0.save (Save.of s03), sh0.s, sh0.l, sh0.p, _, rfl, b, v, dd, rfl, dq0.save (Save.of s03), sh0.s, sh0.l, sh0.p, rfl, ?_⟩
      rw [decide_eq_true rfl]
      exact fin H3 s03
  · -- the last suite
    refine PSs.imp (pss_one (ps_expr (pe_bm PySem.F.plainAttrs_list PySem.F.slot_list_append PySem.F.type_list_append mt_append (pv 3) (pa_cons pe_bl pa_nil)))) ?_
    rintro D σ H0 ⟨m, h3, hm, hD⟩
    exact ⟨_, h3, .inl ⟨rfl, _, SqL.of hm⟩, m, [.bl true], .bl true, rfl, rfl, hm, by show 1 < sizeLine; decide, hD⟩
  refine ⟨_, rfl, b, 5, c, rfl, by decide, by decide, bx, by omega, fun r H1 r0 r5 bx1 sv1 => ⟨Nat.le_of_ble_eq_true rfl, fun m H2 s2 n2 e2 => ⟨_, _, rfl, ?_⟩⟩⟩
  obtain ⟨wy, rfl⟩ : ∃ wy : Nat, r = (wy : Int) := ⟨r.toNat, by omega⟩
  have lt : wy < 5 := by omega
  have mb : m ≠ b := bx1.new (Same.refl _) n2
  refine ⟨_, rfl, _, rfl, wy, v, rfl, lt, raised_both fun d J sJ x4 x5 => ?_⟩
  refine ⟨true, T.exmP _ (kof_lt wy lt), fun _ a na => ⟨m, wy, lt, rfl, rfl, x4, x5, sJ _ _ e2, dq.save (sv1.trans (Save.of (s2.trans sJ))), sh, fun H' s' e' => ?_⟩, fun z => nomatch z⟩
  refine ⟨_, rfl, _, rfl, wy, v, rfl, lt, raised_both fun d2 J2 sJ2 y4 y5 => ?_⟩
  refine ⟨false, (exm_any T (kof_lt wy lt) _ (by decide)).trans (congrArg some (kof_no wy lt)), (fun z => nomatch z), fun _ => ⟨true, (exm_any T (kof_lt wy lt) _ (by decide)).trans (congrArg some (kof_yes wy lt)), fun _ => ⟨m, rfl, sJ2 _ _ e', ?_⟩, fun z => nomatch z⟩⟩
  refine ⟨_, rfl, Nat.le_of_ble_eq_true rfl, fun p H5 s5 n5 e5 => ?_⟩
  refine ⟨.list [.bool true, .bool true], .list [.bool true, .bool true], .lst (SqL.of (s5 _ _ upd_same)) (.cons (.bl _) (.cons (.bl _) .nil)), .lst (SqL.of e5) (.cons (.bl _) (.cons (.bl _) .nil)), rfl, rfl, ?_⟩
  have sm : Save m H2 H5 := (Save.of sJ).trans (s'.trans ((Save.of sJ2).trans (Save.trans (fun q o nq e => by rw [upd_ne nq]; exact e) (Save.of s5))))
  refine hQ H5 ?_ (save_new sv1 n2 s2 sm)
  obtain ⟨a', g, mm, c', hb, rest⟩ := bx1
  exact ⟨a', g, mm, c', sm b _ (Ne.symm mb) (s2 _ _ hb), rest⟩
end
end Kz

namespace Kz
open PySem PySem.Spec PyProof.Rows L2

/-! ### the makers -/
structure Ini (K : PySem.W.Frag) (i : Nat) (fI : Addr) (fd : FuncData) : Prop where
  f : FunD K "__init__" (cname i ++ ".__init__") (defArgs (ini i)) (defBody (ini i)) (defScope (ini i)) [] [] fI fd
  iC : PySem.W.findIn K (.ref (Cl K i)) "__init__" = some (some (.ref fI))
  tI : PySem.W.typeIn K (.ref fI) = some (.type "function")
theorem kb_of {K : PySem.W.Frag} {x q : Str} {pa : Arguments} {bo : List Stmt} {sc : Scope} {f : Addr} {fd : FuncData} {flds ks : List Str} {n : Nat} {ix : List Nat} (F : FunD K x q pa bo sc [] [] f fd)
    (h : ∀ (kV doc pm : Value) (an : Option Addr) (cdv ct self : Value) (us ws : List Value), us.length = n → ws.length = ks.length → bindArgs (PySem.W.fnOf x q pa bo sc .none kV doc pm an cdv ct) ⟨self :: us, ks.zip ws⟩ = pure ((("self" : Str) :: flds).zip (self :: pick ix (us ++ ws)))) : KB fd flds n ks ix := by
  obtain ⟨oc, od, dV, kV, doc, pm, an, cdv, ct, osl, rfl, lk, hcd, hD, hK⟩ := F.ex
  rcases hD with ⟨_, rfl⟩ | ⟨e, _⟩
  · exact fun s self us ws l1 l2 => .of_eq (h kV doc pm an cdv ct self us ws l1 l2)
  · exact absurd rfl e
structure Sto (H Hk : Hp) (e C dx : Addr) (fs : List (Str × V)) : Prop where
  e1 : Hk e = some (exo e C (some dx))
  e2 : Hk dx = some (exd dx fs)
  sv : ∀ b o, b ≠ e → H b = some o → Hk b = some o
  nd : H dx = none
  ne : dx ≠ e
theorem Sto.first {H : Hp} {e C dx : Addr} {f : Str} {y : V} (nd : H dx = none) (ne : dx ≠ e) : Sto H (upd (upd H dx (exd dx [(f, y)])) e (exo e C (some dx))) e C dx [(f, y)] :=
  ⟨upd_same, by rw [upd_ne ne]; exact upd_same, fun b o nb z => by rw [upd_ne nb, upd_ne (ne_of_none z nd)]; exact z, nd, ne⟩
theorem Sto.next {H Hk : Hp} {e C dx : Addr} {f : Str} {y : V} {fs : List (Str × V)} (s : Sto H Hk e C dx fs) : Sto H (upd Hk dx (exd dx ((f, y) :: fs))) e C dx ((f, y) :: fs) :=
  ⟨by rw [upd_ne (Ne.symm s.ne)]; exact s.e1, upd_same, fun b o nb z => by rw [upd_ne (ne_of_none z s.nd)]; exact s.sv b o nb z, s.nd, s.ne⟩
section
variable {P : Program} {w : World} {K : PySem.W.Frag} {mg : Str → Option Value} {b0 : Heap} {fI : Addr} {fd : FuncData}
theorem ini0 (J : Ini K 0 fI fd) (T : Txt K mg) : FnOk P w K mg b0 CX0 1 fI fd ["self", "given"] (spIni (Cl K 0) ["given"]) := by
  have S : FnScope ["self", "given"] ["self", "given"] (defScope (ini 0)) := ⟨rfl, rfl, rfl, by decide +kernel, rfl, by decide +kernel, by decide +kernel⟩
  refine FunD.ok J.f S (fun vs H Q E h => ?_) (fun cv A ou s H vs Q E hr h => ?_)
  · obtain ⟨e, ws, rfl, l, _⟩ := h
    exact congrArg Nat.succ l
  obtain ⟨e, ws, rfl, l, he, hQ⟩ := h
  obtain ⟨y0, rfl⟩ : ∃ y0, ws = [y0] := by
    match ws, l with
    | [y0], _ => exact ⟨y0, rfl⟩
  refine ⟨_, PSs.nox (pss_one (ps_ost (pv 0) (pv 1))), ?_⟩
  refine ⟨_, rfl, _, rfl, e, _, rfl, (T.ec 0 (by decide)).o, (T.nof 0 (by decide) _ (by decide +kernel)), Or.inl ⟨he, fun dx nd ne => ?_⟩⟩
  have s1 : Sto H _ e (Cl K 0) dx [("given", y0)] := Sto.first nd ne
  exact hQ dx _ nd ne s1.e1 s1.e2 s1.sv
theorem ini1 (J : Ini K 1 fI fd) (T : Txt K mg) : FnOk P w K mg b0 CX0 1 fI fd ["self", "given"] (spIni (Cl K 1) ["given"]) := by
  have S : FnScope ["self", "given"] ["self", "given"] (defScope (ini 1)) := ⟨rfl, rfl, rfl, by decide +kernel, rfl, by decide +kernel, by decide +kernel⟩
  refine FunD.ok J.f S (fun vs H Q E h => ?_) (fun cv A ou s H vs Q E hr h => ?_)
  · obtain ⟨e, ws, rfl, l, _⟩ := h
    exact congrArg Nat.succ l
  obtain ⟨e, ws, rfl, l, he, hQ⟩ := h
  obtain ⟨y0, rfl⟩ : ∃ y0, ws = [y0] := by
    match ws, l with
    | [y0], _ => exact ⟨y0, rfl⟩
  refine ⟨_, PSs.nox (pss_one (ps_ost (pv 0) (pv 1))), ?_⟩
  refine ⟨_, rfl, _, rfl, e, _, rfl, (T.ec 1 (by decide)).o, (T.nof 1 (by decide) _ (by decide +kernel)), Or.inl ⟨he, fun dx nd ne => ?_⟩⟩
  have s1 : Sto H _ e (Cl K 1) dx [("given", y0)] := Sto.first nd ne
  exact hQ dx _ nd ne s1.e1 s1.e2 s1.sv
theorem ini2 (J : Ini K 2 fI fd) (T : Txt K mg) : FnOk P w K mg b0 CX0 1 fI fd ["self", "given"] (spIni (Cl K 2) ["given"]) := by
  have S : FnScope ["self", "given"] ["self", "given"] (defScope (ini 2)) := ⟨rfl, rfl, rfl, by decide +kernel, rfl, by decide +kernel, by decide +kernel⟩
  refine FunD.ok J.f S (fun vs H Q E h => ?_) (fun cv A ou s H vs Q E hr h => ?_)
  · obtain ⟨e, ws, rfl, l, _⟩ := h
    exact congrArg Nat.succ l
  obtain ⟨e, ws, rfl, l, he, hQ⟩ := h
  obtain ⟨y0, rfl⟩ : ∃ y0, ws = [y0] := by
    match ws, l with
    | [y0], _ => exact ⟨y0, rfl⟩
  refine ⟨_, PSs.nox (pss_one (ps_ost (pv 0) (pv 1))), ?_⟩
  refine ⟨_, rfl, _, rfl, e, _, rfl, (T.ec 2 (by decide)).o, (T.nof 2 (by decide) _ (by decide +kernel)), Or.inl ⟨he, fun dx nd ne => ?_⟩⟩
  have s1 : Sto H _ e (Cl K 2) dx [("given", y0)] := Sto.first nd ne
  exact hQ dx _ nd ne s1.e1 s1.e2 s1.sv
theorem ini3 (J : Ini K 3 fI fd) (T : Txt K mg) : FnOk P w K mg b0 CX0 1 fI fd ["self", "given"] (spIni (Cl K 3) ["given"]) := by
  have S : FnScope ["self", "given"] ["self", "given"] (defScope (ini 3)) := ⟨rfl, rfl, rfl, by decide +kernel, rfl, by decide +kernel, by decide +kernel⟩
  refine FunD.ok J.f S (fun vs H Q E h => ?_) (fun cv A ou s H vs Q E hr h => ?_)
  · obtain ⟨e, ws, rfl, l, _⟩ := h
    exact congrArg Nat.succ l
  obtain ⟨e, ws, rfl, l, he, hQ⟩ := h
  obtain ⟨y0, rfl⟩ : ∃ y0, ws = [y0] := by
    match ws, l with
    | [y0], _ => exact ⟨y0, rfl⟩
  refine ⟨_, PSs.nox (pss_one (ps_ost (pv 0) (pv 1))), ?_⟩
  refine ⟨_, rfl, _, rfl, e, _, rfl, (T.ec 3 (by decide)).o, (T.nof 3 (by decide) _ (by decide +kernel)), Or.inl ⟨he, fun dx nd ne => ?_⟩⟩
  have s1 : Sto H _ e (Cl K 3) dx [("given", y0)] := Sto.first nd ne
  exact hQ dx _ nd ne s1.e1 s1.e2 s1.sv
theorem ini4 (J : Ini K 4 fI fd) (T : Txt K mg) : FnOk P w K mg b0 CX0 1 fI fd ["self", "given"] (spIni (Cl K 4) ["given"]) := by
  have S : FnScope ["self", "given"] ["self", "given"] (defScope (ini 4)) := ⟨rfl, rfl, rfl, by decide +kernel, rfl, by decide +kernel, by decide +kernel⟩
  refine FunD.ok J.f S (fun vs H Q E h => ?_) (fun cv A ou s H vs Q E hr h => ?_)
  · obtain ⟨e, ws, rfl, l, _⟩ := h
    exact congrArg Nat.succ l
  obtain ⟨e, ws, rfl, l, he, hQ⟩ := h
  obtain ⟨y0, rfl⟩ : ∃ y0, ws = [y0] := by
    match ws, l with
    | [y0], _ => exact ⟨y0, rfl⟩
  refine ⟨_, PSs.nox (pss_one (ps_ost (pv 0) (pv 1))), ?_⟩
  refine ⟨_, rfl, _, rfl, e, _, rfl, (T.ec 4 (by decide)).o, (T.nof 4 (by decide) _ (by decide +kernel)), Or.inl ⟨he, fun dx nd ne => ?_⟩⟩
  have s1 : Sto H _ e (Cl K 4) dx [("given", y0)] := Sto.first nd ne
  exact hQ dx _ nd ne s1.e1 s1.e2 s1.sv
theorem ini5 (J : Ini K 5 fI fd) (T : Txt K mg) : FnOk P w K mg b0 CX0 1 fI fd ["self", "given"] (spIni (Cl K 5) ["given"]) := by
  have S : FnScope ["self", "given"] ["self", "given"] (defScope (ini 5)) := ⟨rfl, rfl, rfl, by decide +kernel, rfl, by decide +kernel, by decide +kernel⟩
  refine FunD.ok J.f S (fun vs H Q E h => ?_) (fun cv A ou s H vs Q E hr h => ?_)
  · obtain ⟨e, ws, rfl, l, _⟩ := h
    exact congrArg Nat.succ l
  obtain ⟨e, ws, rfl, l, he, hQ⟩ := h
  obtain ⟨y0, rfl⟩ : ∃ y0, ws = [y0] := by
    match ws, l with
    | [y0], _ => exact ⟨y0, rfl⟩
  refine ⟨_, PSs.nox (pss_one (ps_ost (pv 0) (pv 1))), ?_⟩
  refine ⟨_, rfl, _, rfl, e, _, rfl, (T.ec 5 (by decide)).o, (T.nof 5 (by decide) _ (by decide +kernel)), Or.inl ⟨he, fun dx nd ne => ?_⟩⟩
  have s1 : Sto H _ e (Cl K 5) dx [("given", y0)] := Sto.first nd ne
  exact hQ dx _ nd ne s1.e1 s1.e2 s1.sv
theorem ini6 (J : Ini K 6 fI fd) (T : Txt K mg) : FnOk P w K mg b0 CX0 1 fI fd ["self", "given"] (spIni (Cl K 6) ["given"]) := by
  have S : FnScope ["self", "given"] ["self", "given"] (defScope (ini 6)) := ⟨rfl, rfl, rfl, by decide +kernel, rfl, by decide +kernel, by decide +kernel⟩
  refine FunD.ok J.f S (fun vs H Q E h => ?_) (fun cv A ou s H vs Q E hr h => ?_)
  · obtain ⟨e, ws, rfl, l, _⟩ := h
    exact congrArg Nat.succ l
  obtain ⟨e, ws, rfl, l, he, hQ⟩ := h
  obtain ⟨y0, rfl⟩ : ∃ y0, ws = [y0] := by
    match ws, l with
    | [y0], _ => exact ⟨y0, rfl⟩
  refine ⟨_, PSs.nox (pss_one (ps_ost (pv 0) (pv 1))), ?_⟩
  refine ⟨_, rfl, _, rfl, e, _, rfl, (T.ec 6 (by decide)).o, (T.nof 6 (by decide) _ (by decide +kernel)), Or.inl ⟨he, fun dx nd ne => ?_⟩⟩
  have s1 : Sto H _ e (Cl K 6) dx [("given", y0)] := Sto.first nd ne
  exact hQ dx _ nd ne s1.e1 s1.e2 s1.sv
theorem ini7 (J : Ini K 7 fI fd) (T : Txt K mg) : FnOk P w K mg b0 CX0 1 fI fd ["self", "given"] (spIni (Cl K 7) ["given"]) := by
  have S : FnScope ["self", "given"] ["self", "given"] (defScope (ini 7)) := ⟨rfl, rfl, rfl, by decide +kernel, rfl, by decide +kernel, by decide +kernel⟩
  refine FunD.ok J.f S (fun vs H Q E h => ?_) (fun cv A ou s H vs Q E hr h => ?_)
  · obtain ⟨e, ws, rfl, l, _⟩ := h
    exact congrArg Nat.succ l
  obtain ⟨e, ws, rfl, l, he, hQ⟩ := h
  obtain ⟨y0, rfl⟩ : ∃ y0, ws = [y0] := by
    match ws, l with
    | [y0], _ => exact ⟨y0, rfl⟩
  refine ⟨_, PSs.nox (pss_one (ps_ost (pv 0) (pv 1))), ?_⟩
  refine ⟨_, rfl, _, rfl, e, _, rfl, (T.ec 7 (by decide)).o, (T.nof 7 (by decide) _ (by decide +kernel)), Or.inl ⟨he, fun dx nd ne => ?_⟩⟩
  have s1 : Sto H _ e (Cl K 7) dx [("given", y0)] := Sto.first nd ne
  exact hQ dx _ nd ne s1.e1 s1.e2 s1.sv
theorem ini8 (J : Ini K 8 fI fd) (T : Txt K mg) : FnOk P w K mg b0 CX0 1 fI fd ["self", "given"] (spIni (Cl K 8) ["given"]) := by
  have S : FnScope ["self", "given"] ["self", "given"] (defScope (ini 8)) := ⟨rfl, rfl, rfl, by decide +kernel, rfl, by decide +kernel, by decide +kernel⟩
  refine FunD.ok J.f S (fun vs H Q E h => ?_) (fun cv A ou s H vs Q E hr h => ?_)
  · obtain ⟨e, ws, rfl, l, _⟩ := h
    exact congrArg Nat.succ l
  obtain ⟨e, ws, rfl, l, he, hQ⟩ := h
  obtain ⟨y0, rfl⟩ : ∃ y0, ws = [y0] := by
    match ws, l with
    | [y0], _ => exact ⟨y0, rfl⟩
  refine ⟨_, PSs.nox (pss_one (ps_ost (pv 0) (pv 1))), ?_⟩
  refine ⟨_, rfl, _, rfl, e, _, rfl, (T.ec 8 (by decide)).o, (T.nof 8 (by decide) _ (by decide +kernel)), Or.inl ⟨he, fun dx nd ne => ?_⟩⟩
  have s1 : Sto H _ e (Cl K 8) dx [("given", y0)] := Sto.first nd ne
  exact hQ dx _ nd ne s1.e1 s1.e2 s1.sv
theorem ini9 (J : Ini K 9 fI fd) (T : Txt K mg) : FnOk P w K mg b0 CX0 1 fI fd ["self", "given"] (spIni (Cl K 9) ["given"]) := by
  have S : FnScope ["self", "given"] ["self", "given"] (defScope (ini 9)) := ⟨rfl, rfl, rfl, by decide +kernel, rfl, by decide +kernel, by decide +kernel⟩
  refine FunD.ok J.f S (fun vs H Q E h => ?_) (fun cv A ou s H vs Q E hr h => ?_)
  · obtain ⟨e, ws, rfl, l, _⟩ := h
    exact congrArg Nat.succ l
  obtain ⟨e, ws, rfl, l, he, hQ⟩ := h
  obtain ⟨y0, rfl⟩ : ∃ y0, ws = [y0] := by
    match ws, l with
    | [y0], _ => exact ⟨y0, rfl⟩
  refine ⟨_, PSs.nox (pss_one (ps_ost (pv 0) (pv 1))), ?_⟩
  refine ⟨_, rfl, _, rfl, e, _, rfl, (T.ec 9 (by decide)).o, (T.nof 9 (by decide) _ (by decide +kernel)), Or.inl ⟨he, fun dx nd ne => ?_⟩⟩
  have s1 : Sto H _ e (Cl K 9) dx [("given", y0)] := Sto.first nd ne
  exact hQ dx _ nd ne s1.e1 s1.e2 s1.sv
theorem ini10 (J : Ini K 10 fI fd) (T : Txt K mg) : FnOk P w K mg b0 CX0 1 fI fd ["self", "given"] (spIni (Cl K 10) ["given"]) := by
  have S : FnScope ["self", "given"] ["self", "given"] (defScope (ini 10)) := ⟨rfl, rfl, rfl, by decide +kernel, rfl, by decide +kernel, by decide +kernel⟩
  refine FunD.ok J.f S (fun vs H Q E h => ?_) (fun cv A ou s H vs Q E hr h => ?_)
  · obtain ⟨e, ws, rfl, l, _⟩ := h
    exact congrArg Nat.succ l
  obtain ⟨e, ws, rfl, l, he, hQ⟩ := h
  obtain ⟨y0, rfl⟩ : ∃ y0, ws = [y0] := by
    match ws, l with
    | [y0], _ => exact ⟨y0, rfl⟩
  refine ⟨_, PSs.nox (pss_one (ps_ost (pv 0) (pv 1))), ?_⟩
  refine ⟨_, rfl, _, rfl, e, _, rfl, (T.ec 10 (by decide)).o, (T.nof 10 (by decide) _ (by decide +kernel)), Or.inl ⟨he, fun dx nd ne => ?_⟩⟩
  have s1 : Sto H _ e (Cl K 10) dx [("given", y0)] := Sto.first nd ne
  exact hQ dx _ nd ne s1.e1 s1.e2 s1.sv
theorem ini11 (J : Ini K 11 fI fd) (T : Txt K mg) : FnOk P w K mg b0 CX0 1 fI fd ["self", "given"] (spIni (Cl K 11) ["given"]) := by
  have S : FnScope ["self", "given"] ["self", "given"] (defScope (ini 11)) := ⟨rfl, rfl, rfl, by decide +kernel, rfl, by decide +kernel, by decide +kernel⟩
  refine FunD.ok J.f S (fun vs H Q E h => ?_) (fun cv A ou s H vs Q E hr h => ?_)
  · obtain ⟨e, ws, rfl, l, _⟩ := h
    exact congrArg Nat.succ l
  obtain ⟨e, ws, rfl, l, he, hQ⟩ := h
  obtain ⟨y0, rfl⟩ : ∃ y0, ws = [y0] := by
    match ws, l with
    | [y0], _ => exact ⟨y0, rfl⟩
  refine ⟨_, PSs.nox (pss_one (ps_ost (pv 0) (pv 1))), ?_⟩
  refine ⟨_, rfl, _, rfl, e, _, rfl, (T.ec 11 (by decide)).o, (T.nof 11 (by decide) _ (by decide +kernel)), Or.inl ⟨he, fun dx nd ne => ?_⟩⟩
  have s1 : Sto H _ e (Cl K 11) dx [("given", y0)] := Sto.first nd ne
  exact hQ dx _ nd ne s1.e1 s1.e2 s1.sv
theorem ini12 (J : Ini K 12 fI fd) (T : Txt K mg) : FnOk P w K mg b0 CX0 1 fI fd ["self", "given"] (spIni (Cl K 12) ["given"]) := by
  have S : FnScope ["self", "given"] ["self", "given"] (defScope (ini 12)) := ⟨rfl, rfl, rfl, by decide +kernel, rfl, by decide +kernel, by decide +kernel⟩
  refine FunD.ok J.f S (fun vs H Q E h => ?_) (fun cv A ou s H vs Q E hr h => ?_)
  · obtain ⟨e, ws, rfl, l, _⟩ := h
    exact congrArg Nat.succ l
  obtain ⟨e, ws, rfl, l, he, hQ⟩ := h
  obtain ⟨y0, rfl⟩ : ∃ y0, ws = [y0] := by
    match ws, l with
    | [y0], _ => exact ⟨y0, rfl⟩
  refine ⟨_, PSs.nox (pss_one (ps_ost (pv 0) (pv 1))), ?_⟩
  refine ⟨_, rfl, _, rfl, e, _, rfl, (T.ec 12 (by decide)).o, (T.nof 12 (by decide) _ (by decide +kernel)), Or.inl ⟨he, fun dx nd ne => ?_⟩⟩
  have s1 : Sto H _ e (Cl K 12) dx [("given", y0)] := Sto.first nd ne
  exact hQ dx _ nd ne s1.e1 s1.e2 s1.sv
theorem ini13 (J : Ini K 13 fI fd) (T : Txt K mg) : FnOk P w K mg b0 CX0 1 fI fd ["self", "given"] (spIni (Cl K 13) ["given"]) := by
  have S : FnScope ["self", "given"] ["self", "given"] (defScope (ini 13)) := ⟨rfl, rfl, rfl, by decide +kernel, rfl, by decide +kernel, by decide +kernel⟩
  refine FunD.ok J.f S (fun vs H Q E h => ?_) (fun cv A ou s H vs Q E hr h => ?_)
  · obtain ⟨e, ws, rfl, l, _⟩ := h
    exact congrArg Nat.succ l
  obtain ⟨e, ws, rfl, l, he, hQ⟩ := h
  obtain ⟨y0, rfl⟩ : ∃ y0, ws = [y0] := by
    match ws, l with
    | [y0], _ => exact ⟨y0, rfl⟩
  refine ⟨_, PSs.nox (pss_one (ps_ost (pv 0) (pv 1))), ?_⟩
  refine ⟨_, rfl, _, rfl, e, _, rfl, (T.ec 13 (by decide)).o, (T.nof 13 (by decide) _ (by decide +kernel)), Or.inl ⟨he, fun dx nd ne => ?_⟩⟩
  have s1 : Sto H _ e (Cl K 13) dx [("given", y0)] := Sto.first nd ne
  exact hQ dx _ nd ne s1.e1 s1.e2 s1.sv
theorem ini14 (J : Ini K 14 fI fd) (T : Txt K mg) : FnOk P w K mg b0 CX0 1 fI fd ["self", "given"] (spIni (Cl K 14) ["given"]) := by
  have S : FnScope ["self", "given"] ["self", "given"] (defScope (ini 14)) := ⟨rfl, rfl, rfl, by decide +kernel, rfl, by decide +kernel, by decide +kernel⟩
  refine FunD.ok J.f S (fun vs H Q E h => ?_) (fun cv A ou s H vs Q E hr h => ?_)
  · obtain ⟨e, ws, rfl, l, _⟩ := h
    exact congrArg Nat.succ l
  obtain ⟨e, ws, rfl, l, he, hQ⟩ := h
  obtain ⟨y0, rfl⟩ : ∃ y0, ws = [y0] := by
    match ws, l with
    | [y0], _ => exact ⟨y0, rfl⟩
  refine ⟨_, PSs.nox (pss_one (ps_ost (pv 0) (pv 1))), ?_⟩
  refine ⟨_, rfl, _, rfl, e, _, rfl, (T.ec 14 (by decide)).o, (T.nof 14 (by decide) _ (by decide +kernel)), Or.inl ⟨he, fun dx nd ne => ?_⟩⟩
  have s1 : Sto H _ e (Cl K 14) dx [("given", y0)] := Sto.first nd ne
  exact hQ dx _ nd ne s1.e1 s1.e2 s1.sv
theorem ini15 (J : Ini K 15 fI fd) (T : Txt K mg) : FnOk P w K mg b0 CX0 1 fI fd ["self", "given"] (spIni (Cl K 15) ["given"]) := by
  have S : FnScope ["self", "given"] ["self", "given"] (defScope (ini 15)) := ⟨rfl, rfl, rfl, by decide +kernel, rfl, by decide +kernel, by decide +kernel⟩
  refine FunD.ok J.f S (fun vs H Q E h => ?_) (fun cv A ou s H vs Q E hr h => ?_)
  · obtain ⟨e, ws, rfl, l, _⟩ := h
    exact congrArg Nat.succ l
  obtain ⟨e, ws, rfl, l, he, hQ⟩ := h
  obtain ⟨y0, rfl⟩ : ∃ y0, ws = [y0] := by
    match ws, l with
    | [y0], _ => exact ⟨y0, rfl⟩
  refine ⟨_, PSs.nox (pss_one (ps_ost (pv 0) (pv 1))), ?_⟩
  refine ⟨_, rfl, _, rfl, e, _, rfl, (T.ec 15 (by decide)).o, (T.nof 15 (by decide) _ (by decide +kernel)), Or.inl ⟨he, fun dx nd ne => ?_⟩⟩
  have s1 : Sto H _ e (Cl K 15) dx [("given", y0)] := Sto.first nd ne
  exact hQ dx _ nd ne s1.e1 s1.e2 s1.sv
theorem ini16 (J : Ini K 16 fI fd) (T : Txt K mg) : FnOk P w K mg b0 CX0 1 fI fd ["self", "given"] (spIni (Cl K 16) ["given"]) := by
  have S : FnScope ["self", "given"] ["self", "given"] (defScope (ini 16)) := ⟨rfl, rfl, rfl, by decide +kernel, rfl, by decide +kernel, by decide +kernel⟩
  refine FunD.ok J.f S (fun vs H Q E h => ?_) (fun cv A ou s H vs Q E hr h => ?_)
  · obtain ⟨e, ws, rfl, l, _⟩ := h
    exact congrArg Nat.succ l
  obtain ⟨e, ws, rfl, l, he, hQ⟩ := h
  obtain ⟨y0, rfl⟩ : ∃ y0, ws = [y0] := by
    match ws, l with
    | [y0], _ => exact ⟨y0, rfl⟩
  refine ⟨_, PSs.nox (pss_one (ps_ost (pv 0) (pv 1))), ?_⟩
  refine ⟨_, rfl, _, rfl, e, _, rfl, (T.ec 16 (by decide)).o, (T.nof 16 (by decide) _ (by decide +kernel)), Or.inl ⟨he, fun dx nd ne => ?_⟩⟩
  have s1 : Sto H _ e (Cl K 16) dx [("given", y0)] := Sto.first nd ne
  exact hQ dx _ nd ne s1.e1 s1.e2 s1.sv
theorem ini17 (J : Ini K 17 fI fd) (T : Txt K mg) : FnOk P w K mg b0 CX0 1 fI fd ["self", "given"] (spIni (Cl K 17) ["given"]) := by
  have S : FnScope ["self", "given"] ["self", "given"] (defScope (ini 17)) := ⟨rfl, rfl, rfl, by decide +kernel, rfl, by decide +kernel, by decide +kernel⟩
  refine FunD.ok J.f S (fun vs H Q E h => ?_) (fun cv A ou s H vs Q E hr h => ?_)
  · obtain ⟨e, ws, rfl, l, _⟩ := h
    exact congrArg Nat.succ l
  obtain ⟨e, ws, rfl, l, he, hQ⟩ := h
  obtain ⟨y0, rfl⟩ : ∃ y0, ws = [y0] := by
    match ws, l with
    | [y0], _ => exact ⟨y0, rfl⟩
  refine ⟨_, PSs.nox (pss_one (ps_ost (pv 0) (pv 1))), ?_⟩
  refine ⟨_, rfl, _, rfl, e, _, rfl, (T.ec 17 (by decide)).o, (T.nof 17 (by decide) _ (by decide +kernel)), Or.inl ⟨he, fun dx nd ne => ?_⟩⟩
  have s1 : Sto H _ e (Cl K 17) dx [("given", y0)] := Sto.first nd ne
  exact hQ dx _ nd ne s1.e1 s1.e2 s1.sv
theorem ini18 (J : Ini K 18 fI fd) (T : Txt K mg) : FnOk P w K mg b0 CX0 1 fI fd ["self", "given"] (spIni (Cl K 18) ["given"]) := by
  have S : FnScope ["self", "given"] ["self", "given"] (defScope (ini 18)) := ⟨rfl, rfl, rfl, by decide +kernel, rfl, by decide +kernel, by decide +kernel⟩
  refine FunD.ok J.f S (fun vs H Q E h => ?_) (fun cv A ou s H vs Q E hr h => ?_)
  · obtain ⟨e, ws, rfl, l, _⟩ := h
    exact congrArg Nat.succ l
  obtain ⟨e, ws, rfl, l, he, hQ⟩ := h
  obtain ⟨y0, rfl⟩ : ∃ y0, ws = [y0] := by
    match ws, l with
    | [y0], _ => exact ⟨y0, rfl⟩
  refine ⟨_, PSs.nox (pss_one (ps_ost (pv 0) (pv 1))), ?_⟩
  refine ⟨_, rfl, _, rfl, e, _, rfl, (T.ec 18 (by decide)).o, (T.nof 18 (by decide) _ (by decide +kernel)), Or.inl ⟨he, fun dx nd ne => ?_⟩⟩
  have s1 : Sto H _ e (Cl K 18) dx [("given", y0)] := Sto.first nd ne
  exact hQ dx _ nd ne s1.e1 s1.e2 s1.sv
theorem ini19 (J : Ini K 19 fI fd) (T : Txt K mg) : FnOk P w K mg b0 CX0 1 fI fd ["self", "given"] (spIni (Cl K 19) ["given"]) := by
  have S : FnScope ["self", "given"] ["self", "given"] (defScope (ini 19)) := ⟨rfl, rfl, rfl, by decide +kernel, rfl, by decide +kernel, by decide +kernel⟩
  refine FunD.ok J.f S (fun vs H Q E h => ?_) (fun cv A ou s H vs Q E hr h => ?_)
  · obtain ⟨e, ws, rfl, l, _⟩ := h
    exact congrArg Nat.succ l
  obtain ⟨e, ws, rfl, l, he, hQ⟩ := h
  obtain ⟨y0, rfl⟩ : ∃ y0, ws = [y0] := by
    match ws, l with
    | [y0], _ => exact ⟨y0, rfl⟩
  refine ⟨_, PSs.nox (pss_one (ps_ost (pv 0) (pv 1))), ?_⟩
  refine ⟨_, rfl, _, rfl, e, _, rfl, (T.ec 19 (by decide)).o, (T.nof 19 (by decide) _ (by decide +kernel)), Or.inl ⟨he, fun dx nd ne => ?_⟩⟩
  have s1 : Sto H _ e (Cl K 19) dx [("given", y0)] := Sto.first nd ne
  exact hQ dx _ nd ne s1.e1 s1.e2 s1.sv
theorem ini20 (J : Ini K 20 fI fd) (T : Txt K mg) : FnOk P w K mg b0 CX0 1 fI fd ["self", "given"] (spIni (Cl K 20) ["given"]) := by
  have S : FnScope ["self", "given"] ["self", "given"] (defScope (ini 20)) := ⟨rfl, rfl, rfl, by decide +kernel, rfl, by decide +kernel, by decide +kernel⟩
  refine FunD.ok J.f S (fun vs H Q E h => ?_) (fun cv A ou s H vs Q E hr h => ?_)
  · obtain ⟨e, ws, rfl, l, _⟩ := h
    exact congrArg Nat.succ l
  obtain ⟨e, ws, rfl, l, he, hQ⟩ := h
  obtain ⟨y0, rfl⟩ : ∃ y0, ws = [y0] := by
    match ws, l with
    | [y0], _ => exact ⟨y0, rfl⟩
  refine ⟨_, PSs.nox (pss_one (ps_ost (pv 0) (pv 1))), ?_⟩
  refine ⟨_, rfl, _, rfl, e, _, rfl, (T.ec 20 (by decide)).o, (T.nof 20 (by decide) _ (by decide +kernel)), Or.inl ⟨he, fun dx nd ne => ?_⟩⟩
  have s1 : Sto H _ e (Cl K 20) dx [("given", y0)] := Sto.first nd ne
  exact hQ dx _ nd ne s1.e1 s1.e2 s1.sv
theorem ini21 (J : Ini K 21 fI fd) (T : Txt K mg) : FnOk P w K mg b0 CX0 1 fI fd ["self", "given"] (spIni (Cl K 21) ["given"]) := by
  have S : FnScope ["self", "given"] ["self", "given"] (defScope (ini 21)) := ⟨rfl, rfl, rfl, by decide +kernel, rfl, by decide +kernel, by decide +kernel⟩
  refine FunD.ok J.f S (fun vs H Q E h => ?_) (fun cv A ou s H vs Q E hr h => ?_)
  · obtain ⟨e, ws, rfl, l, _⟩ := h
    exact congrArg Nat.succ l
  obtain ⟨e, ws, rfl, l, he, hQ⟩ := h
  obtain ⟨y0, rfl⟩ : ∃ y0, ws = [y0] := by
    match ws, l with
    | [y0], _ => exact ⟨y0, rfl⟩
  refine ⟨_, PSs.nox (pss_one (ps_ost (pv 0) (pv 1))), ?_⟩
  refine ⟨_, rfl, _, rfl, e, _, rfl, (T.ec 21 (by decide)).o, (T.nof 21 (by decide) _ (by decide +kernel)), Or.inl ⟨he, fun dx nd ne => ?_⟩⟩
  have s1 : Sto H _ e (Cl K 21) dx [("given", y0)] := Sto.first nd ne
  exact hQ dx _ nd ne s1.e1 s1.e2 s1.sv
theorem ini22 (J : Ini K 22 fI fd) (T : Txt K mg) : FnOk P w K mg b0 CX0 1 fI fd ["self", "given"] (spIni (Cl K 22) ["given"]) := by
  have S : FnScope ["self", "given"] ["self", "given"] (defScope (ini 22)) := ⟨rfl, rfl, rfl, by decide +kernel, rfl, by decide +kernel, by decide +kernel⟩
  refine FunD.ok J.f S (fun vs H Q E h => ?_) (fun cv A ou s H vs Q E hr h => ?_)
  · obtain ⟨e, ws, rfl, l, _⟩ := h
    exact congrArg Nat.succ l
  obtain ⟨e, ws, rfl, l, he, hQ⟩ := h
  obtain ⟨y0, rfl⟩ : ∃ y0, ws = [y0] := by
    match ws, l with
    | [y0], _ => exact ⟨y0, rfl⟩
  refine ⟨_, PSs.nox (pss_one (ps_ost (pv 0) (pv 1))), ?_⟩
  refine ⟨_, rfl, _, rfl, e, _, rfl, (T.ec 22 (by decide)).o, (T.nof 22 (by decide) _ (by decide +kernel)), Or.inl ⟨he, fun dx nd ne => ?_⟩⟩
  have s1 : Sto H _ e (Cl K 22) dx [("given", y0)] := Sto.first nd ne
  exact hQ dx _ nd ne s1.e1 s1.e2 s1.sv
theorem ini23 (J : Ini K 23 fI fd) (T : Txt K mg) : FnOk P w K mg b0 CX0 1 fI fd ["self", "given"] (spIni (Cl K 23) ["given"]) := by
  have S : FnScope ["self", "given"] ["self", "given"] (defScope (ini 23)) := ⟨rfl, rfl, rfl, by decide +kernel, rfl, by decide +kernel, by decide +kernel⟩
  refine FunD.ok J.f S (fun vs H Q E h => ?_) (fun cv A ou s H vs Q E hr h => ?_)
  · obtain ⟨e, ws, rfl, l, _⟩ := h
    exact congrArg Nat.succ l
  obtain ⟨e, ws, rfl, l, he, hQ⟩ := h
  obtain ⟨y0, rfl⟩ : ∃ y0, ws = [y0] := by
    match ws, l with
    | [y0], _ => exact ⟨y0, rfl⟩
  refine ⟨_, PSs.nox (pss_one (ps_ost (pv 0) (pv 1))), ?_⟩
  refine ⟨_, rfl, _, rfl, e, _, rfl, (T.ec 23 (by decide)).o, (T.nof 23 (by decide) _ (by decide +kernel)), Or.inl ⟨he, fun dx nd ne => ?_⟩⟩
  have s1 : Sto H _ e (Cl K 23) dx [("given", y0)] := Sto.first nd ne
  exact hQ dx _ nd ne s1.e1 s1.e2 s1.sv
theorem ini24 (J : Ini K 24 fI fd) (T : Txt K mg) : FnOk P w K mg b0 CX0 1 fI fd ["self", "given"] (spIni (Cl K 24) ["given"]) := by
  have S : FnScope ["self", "given"] ["self", "given"] (defScope (ini 24)) := ⟨rfl, rfl, rfl, by decide +kernel, rfl, by decide +kernel, by decide +kernel⟩
  refine FunD.ok J.f S (fun vs H Q E h => ?_) (fun cv A ou s H vs Q E hr h => ?_)
  · obtain ⟨e, ws, rfl, l, _⟩ := h
    exact congrArg Nat.succ l
  obtain ⟨e, ws, rfl, l, he, hQ⟩ := h
  obtain ⟨y0, rfl⟩ : ∃ y0, ws = [y0] := by
    match ws, l with
    | [y0], _ => exact ⟨y0, rfl⟩
  refine ⟨_, PSs.nox (pss_one (ps_ost (pv 0) (pv 1))), ?_⟩
  refine ⟨_, rfl, _, rfl, e, _, rfl, (T.ec 24 (by decide)).o, (T.nof 24 (by decide) _ (by decide +kernel)), Or.inl ⟨he, fun dx nd ne => ?_⟩⟩
  have s1 : Sto H _ e (Cl K 24) dx [("given", y0)] := Sto.first nd ne
  exact hQ dx _ nd ne s1.e1 s1.e2 s1.sv
theorem ini25 (J : Ini K 25 fI fd) (T : Txt K mg) : FnOk P w K mg b0 CX0 1 fI fd ["self", "given"] (spIni (Cl K 25) ["given"]) := by
  have S : FnScope ["self", "given"] ["self", "given"] (defScope (ini 25)) := ⟨rfl, rfl, rfl, by decide +kernel, rfl, by decide +kernel, by decide +kernel⟩
  refine FunD.ok J.f S (fun vs H Q E h => ?_) (fun cv A ou s H vs Q E hr h => ?_)
  · obtain ⟨e, ws, rfl, l, _⟩ := h
    exact congrArg Nat.succ l
  obtain ⟨e, ws, rfl, l, he, hQ⟩ := h
  obtain ⟨y0, rfl⟩ : ∃ y0, ws = [y0] := by
    match ws, l with
    | [y0], _ => exact ⟨y0, rfl⟩
  refine ⟨_, PSs.nox (pss_one (ps_ost (pv 0) (pv 1))), ?_⟩
  refine ⟨_, rfl, _, rfl, e, _, rfl, (T.ec 25 (by decide)).o, (T.nof 25 (by decide) _ (by decide +kernel)), Or.inl ⟨he, fun dx nd ne => ?_⟩⟩
  have s1 : Sto H _ e (Cl K 25) dx [("given", y0)] := Sto.first nd ne
  exact hQ dx _ nd ne s1.e1 s1.e2 s1.sv
theorem ini26 (J : Ini K 26 fI fd) (T : Txt K mg) : FnOk P w K mg b0 CX0 1 fI fd ["self", "given"] (spIni (Cl K 26) ["given"]) := by
  have S : FnScope ["self", "given"] ["self", "given"] (defScope (ini 26)) := ⟨rfl, rfl, rfl, by decide +kernel, rfl, by decide +kernel, by decide +kernel⟩
  refine FunD.ok J.f S (fun vs H Q E h => ?_) (fun cv A ou s H vs Q E hr h => ?_)
  · obtain ⟨e, ws, rfl, l, _⟩ := h
    exact congrArg Nat.succ l
  obtain ⟨e, ws, rfl, l, he, hQ⟩ := h
  obtain ⟨y0, rfl⟩ : ∃ y0, ws = [y0] := by
    match ws, l with
    | [y0], _ => exact ⟨y0, rfl⟩
  refine ⟨_, PSs.nox (pss_one (ps_ost (pv 0) (pv 1))), ?_⟩
  refine ⟨_, rfl, _, rfl, e, _, rfl, (T.ec 26 (by decide)).o, (T.nof 26 (by decide) _ (by decide +kernel)), Or.inl ⟨he, fun dx nd ne => ?_⟩⟩
  have s1 : Sto H _ e (Cl K 26) dx [("given", y0)] := Sto.first nd ne
  exact hQ dx _ nd ne s1.e1 s1.e2 s1.sv
theorem ini27 (J : Ini K 27 fI fd) (T : Txt K mg) : FnOk P w K mg b0 CX0 1 fI fd ["self", "given"] (spIni (Cl K 27) ["given"]) := by
  have S : FnScope ["self", "given"] ["self", "given"] (defScope (ini 27)) := ⟨rfl, rfl, rfl, by decide +kernel, rfl, by decide +kernel, by decide +kernel⟩
  refine FunD.ok J.f S (fun vs H Q E h => ?_) (fun cv A ou s H vs Q E hr h => ?_)
  · obtain ⟨e, ws, rfl, l, _⟩ := h
    exact congrArg Nat.succ l
  obtain ⟨e, ws, rfl, l, he, hQ⟩ := h
  obtain ⟨y0, rfl⟩ : ∃ y0, ws = [y0] := by
    match ws, l with
    | [y0], _ => exact ⟨y0, rfl⟩
  refine ⟨_, PSs.nox (pss_one (ps_ost (pv 0) (pv 1))), ?_⟩
  refine ⟨_, rfl, _, rfl, e, _, rfl, (T.ec 27 (by decide)).o, (T.nof 27 (by decide) _ (by decide +kernel)), Or.inl ⟨he, fun dx nd ne => ?_⟩⟩
  have s1 : Sto H _ e (Cl K 27) dx [("given", y0)] := Sto.first nd ne
  exact hQ dx _ nd ne s1.e1 s1.e2 s1.sv
theorem ini28 (J : Ini K 28 fI fd) (T : Txt K mg) : FnOk P w K mg b0 CX0 1 fI fd ["self", "given"] (spIni (Cl K 28) ["given"]) := by
  have S : FnScope ["self", "given"] ["self", "given"] (defScope (ini 28)) := ⟨rfl, rfl, rfl, by decide +kernel, rfl, by decide +kernel, by decide +kernel⟩
  refine FunD.ok J.f S (fun vs H Q E h => ?_) (fun cv A ou s H vs Q E hr h => ?_)
  · obtain ⟨e, ws, rfl, l, _⟩ := h
    exact congrArg Nat.succ l
  obtain ⟨e, ws, rfl, l, he, hQ⟩ := h
  obtain ⟨y0, rfl⟩ : ∃ y0, ws = [y0] := by
    match ws, l with
    | [y0], _ => exact ⟨y0, rfl⟩
  refine ⟨_, PSs.nox (pss_one (ps_ost (pv 0) (pv 1))), ?_⟩
  refine ⟨_, rfl, _, rfl, e, _, rfl, (T.ec 28 (by decide)).o, (T.nof 28 (by decide) _ (by decide +kernel)), Or.inl ⟨he, fun dx nd ne => ?_⟩⟩
  have s1 : Sto H _ e (Cl K 28) dx [("given", y0)] := Sto.first nd ne
  exact hQ dx _ nd ne s1.e1 s1.e2 s1.sv
theorem ini29 (J : Ini K 29 fI fd) (T : Txt K mg) : FnOk P w K mg b0 CX0 1 fI fd ["self", "given"] (spIni (Cl K 29) ["given"]) := by
  have S : FnScope ["self", "given"] ["self", "given"] (defScope (ini 29)) := ⟨rfl, rfl, rfl, by decide +kernel, rfl, by decide +kernel, by decide +kernel⟩
  refine FunD.ok J.f S (fun vs H Q E h => ?_) (fun cv A ou s H vs Q E hr h => ?_)
  · obtain ⟨e, ws, rfl, l, _⟩ := h
    exact congrArg Nat.succ l
  obtain ⟨e, ws, rfl, l, he, hQ⟩ := h
  obtain ⟨y0, rfl⟩ : ∃ y0, ws = [y0] := by
    match ws, l with
    | [y0], _ => exact ⟨y0, rfl⟩
  refine ⟨_, PSs.nox (pss_one (ps_ost (pv 0) (pv 1))), ?_⟩
  refine ⟨_, rfl, _, rfl, e, _, rfl, (T.ec 29 (by decide)).o, (T.nof 29 (by decide) _ (by decide +kernel)), Or.inl ⟨he, fun dx nd ne => ?_⟩⟩
  have s1 : Sto H _ e (Cl K 29) dx [("given", y0)] := Sto.first nd ne
  exact hQ dx _ nd ne s1.e1 s1.e2 s1.sv
theorem ini30 (J : Ini K 30 fI fd) (T : Txt K mg) : FnOk P w K mg b0 CX0 1 fI fd ["self", "given"] (spIni (Cl K 30) ["given"]) := by
  have S : FnScope ["self", "given"] ["self", "given"] (defScope (ini 30)) := ⟨rfl, rfl, rfl, by decide +kernel, rfl, by decide +kernel, by decide +kernel⟩
  refine FunD.ok J.f S (fun vs H Q E h => ?_) (fun cv A ou s H vs Q E hr h => ?_)
  · obtain ⟨e, ws, rfl, l, _⟩ := h
    exact congrArg Nat.succ l
  obtain ⟨e, ws, rfl, l, he, hQ⟩ := h
  obtain ⟨y0, rfl⟩ : ∃ y0, ws = [y0] := by
    match ws, l with
    | [y0], _ => exact ⟨y0, rfl⟩
  refine ⟨_, PSs.nox (pss_one (ps_ost (pv 0) (pv 1))), ?_⟩
  refine ⟨_, rfl, _, rfl, e, _, rfl, (T.ec 30 (by decide)).o, (T.nof 30 (by decide) _ (by decide +kernel)), Or.inl ⟨he, fun dx nd ne => ?_⟩⟩
  have s1 : Sto H _ e (Cl K 30) dx [("given", y0)] := Sto.first nd ne
  exact hQ dx _ nd ne s1.e1 s1.e2 s1.sv
theorem ini31 (J : Ini K 31 fI fd) (T : Txt K mg) : FnOk P w K mg b0 CX0 1 fI fd ["self", "given"] (spIni (Cl K 31) ["given"]) := by
  have S : FnScope ["self", "given"] ["self", "given"] (defScope (ini 31)) := ⟨rfl, rfl, rfl, by decide +kernel, rfl, by decide +kernel, by decide +kernel⟩
  refine FunD.ok J.f S (fun vs H Q E h => ?_) (fun cv A ou s H vs Q E hr h => ?_)
  · obtain ⟨e, ws, rfl, l, _⟩ := h
    exact congrArg Nat.succ l
  obtain ⟨e, ws, rfl, l, he, hQ⟩ := h
  obtain ⟨y0, rfl⟩ : ∃ y0, ws = [y0] := by
    match ws, l with
    | [y0], _ => exact ⟨y0, rfl⟩
  refine ⟨_, PSs.nox (pss_one (ps_ost (pv 0) (pv 1))), ?_⟩
  refine ⟨_, rfl, _, rfl, e, _, rfl, (T.ec 31 (by decide)).o, (T.nof 31 (by decide) _ (by decide +kernel)), Or.inl ⟨he, fun dx nd ne => ?_⟩⟩
  have s1 : Sto H _ e (Cl K 31) dx [("given", y0)] := Sto.first nd ne
  exact hQ dx _ nd ne s1.e1 s1.e2 s1.sv
theorem ini32 (J : Ini K 32 fI fd) (T : Txt K mg) : FnOk P w K mg b0 CX0 1 fI fd ["self", "payoff"] (spIni (Cl K 32) ["payoff"]) := by
  have S : FnScope ["self", "payoff"] ["self", "payoff"] (defScope (ini 32)) := ⟨rfl, rfl, rfl, by decide +kernel, rfl, by decide +kernel, by decide +kernel⟩
  refine FunD.ok J.f S (fun vs H Q E h => ?_) (fun cv A ou s H vs Q E hr h => ?_)
  · obtain ⟨e, ws, rfl, l, _⟩ := h
    exact congrArg Nat.succ l
  obtain ⟨e, ws, rfl, l, he, hQ⟩ := h
  obtain ⟨y0, rfl⟩ : ∃ y0, ws = [y0] := by
    match ws, l with
    | [y0], _ => exact ⟨y0, rfl⟩
  refine ⟨_, PSs.nox (pss_one (ps_ost (pv 0) (pv 1))), ?_⟩
  refine ⟨_, rfl, _, rfl, e, _, rfl, (T.ec 32 (by decide)).o, (T.nof 32 (by decide) _ (by decide +kernel)), Or.inl ⟨he, fun dx nd ne => ?_⟩⟩
  have s1 : Sto H _ e (Cl K 32) dx [("payoff", y0)] := Sto.first nd ne
  exact hQ dx _ nd ne s1.e1 s1.e2 s1.sv
theorem ini33 (J : Ini K 33 fI fd) (T : Txt K mg) : FnOk P w K mg b0 CX0 1 fI fd ["self", "payoff"] (spIni (Cl K 33) ["payoff"]) := by
  have S : FnScope ["self", "payoff"] ["self", "payoff"] (defScope (ini 33)) := ⟨rfl, rfl, rfl, by decide +kernel, rfl, by decide +kernel, by decide +kernel⟩
  refine FunD.ok J.f S (fun vs H Q E h => ?_) (fun cv A ou s H vs Q E hr h => ?_)
  · obtain ⟨e, ws, rfl, l, _⟩ := h
    exact congrArg Nat.succ l
  obtain ⟨e, ws, rfl, l, he, hQ⟩ := h
  obtain ⟨y0, rfl⟩ : ∃ y0, ws = [y0] := by
    match ws, l with
    | [y0], _ => exact ⟨y0, rfl⟩
  refine ⟨_, PSs.nox (pss_one (ps_ost (pv 0) (pv 1))), ?_⟩
  refine ⟨_, rfl, _, rfl, e, _, rfl, (T.ec 33 (by decide)).o, (T.nof 33 (by decide) _ (by decide +kernel)), Or.inl ⟨he, fun dx nd ne => ?_⟩⟩
  have s1 : Sto H _ e (Cl K 33) dx [("payoff", y0)] := Sto.first nd ne
  exact hQ dx _ nd ne s1.e1 s1.e2 s1.sv
theorem ini34 (J : Ini K 34 fI fd) (T : Txt K mg) : FnOk P w K mg b0 CX0 1 fI fd ["self", "count"] (spIni (Cl K 34) ["count"]) := by
  have S : FnScope ["self", "count"] ["self", "count"] (defScope (ini 34)) := ⟨rfl, rfl, rfl, by decide +kernel, rfl, by decide +kernel, by decide +kernel⟩
  refine FunD.ok J.f S (fun vs H Q E h => ?_) (fun cv A ou s H vs Q E hr h => ?_)
  · obtain ⟨e, ws, rfl, l, _⟩ := h
    exact congrArg Nat.succ l
  obtain ⟨e, ws, rfl, l, he, hQ⟩ := h
  obtain ⟨y0, rfl⟩ : ∃ y0, ws = [y0] := by
    match ws, l with
    | [y0], _ => exact ⟨y0, rfl⟩
  refine ⟨_, PSs.nox (pss_one (ps_ost (pv 0) (pv 1))), ?_⟩
  refine ⟨_, rfl, _, rfl, e, _, rfl, (T.ec 34 (by decide)).o, (T.nof 34 (by decide) _ (by decide +kernel)), Or.inl ⟨he, fun dx nd ne => ?_⟩⟩
  have s1 : Sto H _ e (Cl K 34) dx [("count", y0)] := Sto.first nd ne
  exact hQ dx _ nd ne s1.e1 s1.e2 s1.sv
theorem ini35 (J : Ini K 35 fI fd) (T : Txt K mg) : FnOk P w K mg b0 CX0 1 fI fd ["self", "name"] (spIni (Cl K 35) ["name"]) := by
  have S : FnScope ["self", "name"] ["self", "name"] (defScope (ini 35)) := ⟨rfl, rfl, rfl, by decide +kernel, rfl, by decide +kernel, by decide +kernel⟩
  refine FunD.ok J.f S (fun vs H Q E h => ?_) (fun cv A ou s H vs Q E hr h => ?_)
  · obtain ⟨e, ws, rfl, l, _⟩ := h
    exact congrArg Nat.succ l
  obtain ⟨e, ws, rfl, l, he, hQ⟩ := h
  obtain ⟨y0, rfl⟩ : ∃ y0, ws = [y0] := by
    match ws, l with
    | [y0], _ => exact ⟨y0, rfl⟩
  refine ⟨_, PSs.nox (pss_one (ps_ost (pv 0) (pv 1))), ?_⟩
  refine ⟨_, rfl, _, rfl, e, _, rfl, (T.ec 35 (by decide)).o, (T.nof 35 (by decide) _ (by decide +kernel)), Or.inl ⟨he, fun dx nd ne => ?_⟩⟩
  have s1 : Sto H _ e (Cl K 35) dx [("name", y0)] := Sto.first nd ne
  exact hQ dx _ nd ne s1.e1 s1.e2 s1.sv
theorem ini36 (J : Ini K 36 fI fd) (T : Txt K mg) : FnOk P w K mg b0 CX0 1 fI fd ["self", "line", "column"] (spIni (Cl K 36) ["line", "column"]) := by
  have S : FnScope ["self", "line", "column"] ["self", "line", "column"] (defScope (ini 36)) := ⟨rfl, rfl, rfl, by decide +kernel, rfl, by decide +kernel, by decide +kernel⟩
  refine FunD.ok J.f S (fun vs H Q E h => ?_) (fun cv A ou s H vs Q E hr h => ?_)
  · obtain ⟨e, ws, rfl, l, _⟩ := h
    exact congrArg Nat.succ l
  obtain ⟨e, ws, rfl, l, he, hQ⟩ := h
  obtain ⟨y0, y1, rfl⟩ : ∃ y0 y1, ws = [y0, y1] := by
    match ws, l with
    | [y0, y1], _ => exact ⟨y0, y1, rfl⟩
  refine ⟨_, PSs.nox (pss_cons (ps_ost (pv 0) (pv 1)) (pss_one (ps_ost (pv 0) (pv 2)))), ?_⟩
  refine ⟨_, rfl, _, rfl, e, _, rfl, (T.ec 36 (by decide)).o, (T.nof 36 (by decide) _ (by decide +kernel)), Or.inl ⟨he, fun dx nd ne => ?_⟩⟩
  have s1 : Sto H _ e (Cl K 36) dx [("line", y0)] := Sto.first nd ne
  refine ⟨_, rfl, _, rfl, e, _, rfl, (T.ec 36 (by decide)).o, (T.nof 36 (by decide) _ (by decide +kernel)), Or.inr ⟨dx, _, s1.e1, s1.e2, Nat.le_of_ble_eq_true rfl, ?_⟩⟩
  have s2 := s1.next (f := "column") (y := y1)
  exact hQ dx _ nd ne s2.e1 s2.e2 s2.sv
theorem ini37 (J : Ini K 37 fI fd) (T : Txt K mg) : FnOk P w K mg b0 CX0 1 fI fd ["self", "unit", "store"] (spIni (Cl K 37) ["unit", "store"]) := by
  have S : FnScope ["self", "unit", "store"] ["self", "unit", "store"] (defScope (ini 37)) := ⟨rfl, rfl, rfl, by decide +kernel, rfl, by decide +kernel, by decide +kernel⟩
  refine FunD.ok J.f S (fun vs H Q E h => ?_) (fun cv A ou s H vs Q E hr h => ?_)
  · obtain ⟨e, ws, rfl, l, _⟩ := h
    exact congrArg Nat.succ l
  obtain ⟨e, ws, rfl, l, he, hQ⟩ := h
  obtain ⟨y0, y1, rfl⟩ : ∃ y0 y1, ws = [y0, y1] := by
    match ws, l with
    | [y0, y1], _ => exact ⟨y0, y1, rfl⟩
  refine ⟨_, PSs.nox (pss_cons (ps_ost (pv 0) (pv 1)) (pss_one (ps_ost (pv 0) (pv 2)))), ?_⟩
  refine ⟨_, rfl, _, rfl, e, _, rfl, (T.ec 37 (by decide)).o, (T.nof 37 (by decide) _ (by decide +kernel)), Or.inl ⟨he, fun dx nd ne => ?_⟩⟩
  have s1 : Sto H _ e (Cl K 37) dx [("unit", y0)] := Sto.first nd ne
  refine ⟨_, rfl, _, rfl, e, _, rfl, (T.ec 37 (by decide)).o, (T.nof 37 (by decide) _ (by decide +kernel)), Or.inr ⟨dx, _, s1.e1, s1.e2, Nat.le_of_ble_eq_true rfl, ?_⟩⟩
  have s2 := s1.next (f := "store") (y := y1)
  exact hQ dx _ nd ne s2.e1 s2.e2 s2.sv
theorem ini38 (J : Ini K 38 fI fd) (T : Txt K mg) : FnOk P w K mg b0 CX0 1 fI fd ["self", "reason", "unit", "word"] (spIni (Cl K 38) ["reason", "unit", "word"]) := by
  have S : FnScope ["self", "reason", "unit", "word"] ["self", "reason", "unit", "word"] (defScope (ini 38)) := ⟨rfl, rfl, rfl, by decide +kernel, rfl, by decide +kernel, by decide +kernel⟩
  refine FunD.ok J.f S (fun vs H Q E h => ?_) (fun cv A ou s H vs Q E hr h => ?_)
  · obtain ⟨e, ws, rfl, l, _⟩ := h
    exact congrArg Nat.succ l
  obtain ⟨e, ws, rfl, l, he, hQ⟩ := h
  obtain ⟨y0, y1, y2, rfl⟩ : ∃ y0 y1 y2, ws = [y0, y1, y2] := by
    match ws, l with
    | [y0, y1, y2], _ => exact ⟨y0, y1, y2, rfl⟩
  refine ⟨_, PSs.nox (pss_cons (ps_ost (pv 0) (pv 1)) (pss_cons (ps_ost (pv 0) (pv 2)) (pss_one (ps_ost (pv 0) (pv 3))))), ?_⟩
  refine ⟨_, rfl, _, rfl, e, _, rfl, (T.ec 38 (by decide)).o, (T.nof 38 (by decide) _ (by decide +kernel)), Or.inl ⟨he, fun dx nd ne => ?_⟩⟩
  have s1 : Sto H _ e (Cl K 38) dx [("reason", y0)] := Sto.first nd ne
  refine ⟨_, rfl, _, rfl, e, _, rfl, (T.ec 38 (by decide)).o, (T.nof 38 (by decide) _ (by decide +kernel)), Or.inr ⟨dx, _, s1.e1, s1.e2, Nat.le_of_ble_eq_true rfl, ?_⟩⟩
  have s2 := s1.next (f := "unit") (y := y1)
  refine ⟨_, rfl, _, rfl, e, _, rfl, (T.ec 38 (by decide)).o, (T.nof 38 (by decide) _ (by decide +kernel)), Or.inr ⟨dx, _, s2.e1, s2.e2, Nat.le_of_ble_eq_true rfl, ?_⟩⟩
  have s3 := s2.next (f := "word") (y := y2)
  exact hQ dx _ nd ne s3.e1 s3.e2 s3.sv
theorem ini39 (J : Ini K 39 fI fd) (T : Txt K mg) : FnOk P w K mg b0 CX0 1 fI fd ["self", "side", "store", "harm"] (spIni (Cl K 39) ["side", "store", "harm"]) := by
  have S : FnScope ["self", "side", "store", "harm"] ["self", "side", "store", "harm"] (defScope (ini 39)) := ⟨rfl, rfl, rfl, by decide +kernel, rfl, by decide +kernel, by decide +kernel⟩
  refine FunD.ok J.f S (fun vs H Q E h => ?_) (fun cv A ou s H vs Q E hr h => ?_)
  · obtain ⟨e, ws, rfl, l, _⟩ := h
    exact congrArg Nat.succ l
  obtain ⟨e, ws, rfl, l, he, hQ⟩ := h
  obtain ⟨y0, y1, y2, rfl⟩ : ∃ y0 y1 y2, ws = [y0, y1, y2] := by
    match ws, l with
    | [y0, y1, y2], _ => exact ⟨y0, y1, y2, rfl⟩
  refine ⟨_, PSs.nox (pss_cons (ps_ost (pv 0) (pv 1)) (pss_cons (ps_ost (pv 0) (pv 2)) (pss_one (ps_ost (pv 0) (pv 3))))), ?_⟩
  refine ⟨_, rfl, _, rfl, e, _, rfl, (T.ec 39 (by decide)).o, (T.nof 39 (by decide) _ (by decide +kernel)), Or.inl ⟨he, fun dx nd ne => ?_⟩⟩
  have s1 : Sto H _ e (Cl K 39) dx [("side", y0)] := Sto.first nd ne
  refine ⟨_, rfl, _, rfl, e, _, rfl, (T.ec 39 (by decide)).o, (T.nof 39 (by decide) _ (by decide +kernel)), Or.inr ⟨dx, _, s1.e1, s1.e2, Nat.le_of_ble_eq_true rfl, ?_⟩⟩
  have s2 := s1.next (f := "store") (y := y1)
  refine ⟨_, rfl, _, rfl, e, _, rfl, (T.ec 39 (by decide)).o, (T.nof 39 (by decide) _ (by decide +kernel)), Or.inr ⟨dx, _, s2.e1, s2.e2, Nat.le_of_ble_eq_true rfl, ?_⟩⟩
  have s3 := s2.next (f := "harm") (y := y2)
  exact hQ dx _ nd ne s3.e1 s3.e2 s3.sv
theorem ini40 (J : Ini K 40 fI fd) (T : Txt K mg) : FnOk P w K mg b0 CX0 1 fI fd ["self", "unit", "store", "side", "count"] (spIni (Cl K 40) ["unit", "store", "side", "count"]) := by
  have S : FnScope ["self", "unit", "store", "side", "count"] ["self", "unit", "store", "side", "count"] (defScope (ini 40)) := ⟨rfl, rfl, rfl, by decide +kernel, rfl, by decide +kernel, by decide +kernel⟩
  refine FunD.ok J.f S (fun vs H Q E h => ?_) (fun cv A ou s H vs Q E hr h => ?_)
  · obtain ⟨e, ws, rfl, l, _⟩ := h
    exact congrArg Nat.succ l
  obtain ⟨e, ws, rfl, l, he, hQ⟩ := h
  obtain ⟨y0, y1, y2, y3, rfl⟩ : ∃ y0 y1 y2 y3, ws = [y0, y1, y2, y3] := by
    match ws, l with
    | [y0, y1, y2, y3], _ => exact ⟨y0, y1, y2, y3, rfl⟩
  refine ⟨_, PSs.nox (pss_cons (ps_ost (pv 0) (pv 1)) (pss_cons (ps_ost (pv 0) (pv 2)) (pss_cons (ps_ost (pv 0) (pv 3)) (pss_one (ps_ost (pv 0) (pv 4)))))), ?_⟩
  refine ⟨_, rfl, _, rfl, e, _, rfl, (T.ec 40 (by decide)).o, (T.nof 40 (by decide) _ (by decide +kernel)), Or.inl ⟨he, fun dx nd ne => ?_⟩⟩
  have s1 : Sto H _ e (Cl K 40) dx [("unit", y0)] := Sto.first nd ne
  refine ⟨_, rfl, _, rfl, e, _, rfl, (T.ec 40 (by decide)).o, (T.nof 40 (by decide) _ (by decide +kernel)), Or.inr ⟨dx, _, s1.e1, s1.e2, Nat.le_of_ble_eq_true rfl, ?_⟩⟩
  have s2 := s1.next (f := "store") (y := y1)
  refine ⟨_, rfl, _, rfl, e, _, rfl, (T.ec 40 (by decide)).o, (T.nof 40 (by decide) _ (by decide +kernel)), Or.inr ⟨dx, _, s2.e1, s2.e2, Nat.le_of_ble_eq_true rfl, ?_⟩⟩
  have s3 := s2.next (f := "side") (y := y2)
  refine ⟨_, rfl, _, rfl, e, _, rfl, (T.ec 40 (by decide)).o, (T.nof 40 (by decide) _ (by decide +kernel)), Or.inr ⟨dx, _, s3.e1, s3.e2, Nat.le_of_ble_eq_true rfl, ?_⟩⟩
  have s4 := s3.next (f := "count") (y := y3)
  exact hQ dx _ nd ne s4.e1 s4.e2 s4.sv
theorem ini41 (J : Ini K 41 fI fd) (T : Txt K mg) : FnOk P w K mg b0 CX0 1 fI fd ["self", "side", "store", "plan", "payoff", "answer"] (spIni (Cl K 41) ["side", "store", "plan", "payoff", "answer"]) := by
  have S : FnScope ["self", "side", "store", "plan", "payoff", "answer"] ["self", "side", "store", "plan", "payoff", "answer"] (defScope (ini 41)) := ⟨rfl, rfl, rfl, by decide +kernel, rfl, by decide +kernel, by decide +kernel⟩
  refine FunD.ok J.f S (fun vs H Q E h => ?_) (fun cv A ou s H vs Q E hr h => ?_)
  · obtain ⟨e, ws, rfl, l, _⟩ := h
    exact congrArg Nat.succ l
  obtain ⟨e, ws, rfl, l, he, hQ⟩ := h
  obtain ⟨y0, y1, y2, y3, y4, rfl⟩ : ∃ y0 y1 y2 y3 y4, ws = [y0, y1, y2, y3, y4] := by
    match ws, l with
    | [y0, y1, y2, y3, y4], _ => exact ⟨y0, y1, y2, y3, y4, rfl⟩
  refine ⟨_, PSs.nox (pss_cons (ps_ost (pv 0) (pv 1)) (pss_cons (ps_ost (pv 0) (pv 2)) (pss_cons (ps_ost (pv 0) (pv 3)) (pss_cons (ps_ost (pv 0) (pv 4)) (pss_one (ps_ost (pv 0) (pv 5))))))), ?_⟩
  refine ⟨_, rfl, _, rfl, e, _, rfl, (T.ec 41 (by decide)).o, (T.nof 41 (by decide) _ (by decide +kernel)), Or.inl ⟨he, fun dx nd ne => ?_⟩⟩
  have s1 : Sto H _ e (Cl K 41) dx [("side", y0)] := Sto.first nd ne
  refine ⟨_, rfl, _, rfl, e, _, rfl, (T.ec 41 (by decide)).o, (T.nof 41 (by decide) _ (by decide +kernel)), Or.inr ⟨dx, _, s1.e1, s1.e2, Nat.le_of_ble_eq_true rfl, ?_⟩⟩
  have s2 := s1.next (f := "store") (y := y1)
  refine ⟨_, rfl, _, rfl, e, _, rfl, (T.ec 41 (by decide)).o, (T.nof 41 (by decide) _ (by decide +kernel)), Or.inr ⟨dx, _, s2.e1, s2.e2, Nat.le_of_ble_eq_true rfl, ?_⟩⟩
  have s3 := s2.next (f := "plan") (y := y2)
  refine ⟨_, rfl, _, rfl, e, _, rfl, (T.ec 41 (by decide)).o, (T.nof 41 (by decide) _ (by decide +kernel)), Or.inr ⟨dx, _, s3.e1, s3.e2, Nat.le_of_ble_eq_true rfl, ?_⟩⟩
  have s4 := s3.next (f := "payoff") (y := y3)
  refine ⟨_, rfl, _, rfl, e, _, rfl, (T.ec 41 (by decide)).o, (T.nof 41 (by decide) _ (by decide +kernel)), Or.inr ⟨dx, _, s4.e1, s4.e2, Nat.le_of_ble_eq_true rfl, ?_⟩⟩
  have s5 := s4.next (f := "answer") (y := y4)
  exact hQ dx _ nd ne s5.e1 s5.e2 s5.sv
theorem kbA0 (J : Ini K 0 fI fd) : KB fd ["given"] 1 [] [0] := kb_of J.f (fun _ _ _ _ _ _ _ us ws h1 h2 => match us, ws, h1, h2 with | [u0], [], _, _ => rfl)
theorem kbB0 (J : Ini K 0 fI fd) : KB fd ["given"] 0 ["given"] [0] := kb_of J.f (fun _ _ _ _ _ _ _ us ws h1 h2 => match us, ws, h1, h2 with | [], [v0], _, _ => rfl)
theorem mk1_0 (J : Ini K 0 fI fd) (T : Txt K mg) : Mk1 P w K mg b0 (Cl K 0) "given" := ⟨fI, fd, ⟨T.ec 0 (by decide), J.iC, J.tI, ini0 J T⟩, kbA0 J, kbB0 J⟩
theorem kbA1 (J : Ini K 1 fI fd) : KB fd ["given"] 1 [] [0] := kb_of J.f (fun _ _ _ _ _ _ _ us ws h1 h2 => match us, ws, h1, h2 with | [u0], [], _, _ => rfl)
theorem kbB1 (J : Ini K 1 fI fd) : KB fd ["given"] 0 ["given"] [0] := kb_of J.f (fun _ _ _ _ _ _ _ us ws h1 h2 => match us, ws, h1, h2 with | [], [v0], _, _ => rfl)
theorem mk1_1 (J : Ini K 1 fI fd) (T : Txt K mg) : Mk1 P w K mg b0 (Cl K 1) "given" := ⟨fI, fd, ⟨T.ec 1 (by decide), J.iC, J.tI, ini1 J T⟩, kbA1 J, kbB1 J⟩
theorem kbA2 (J : Ini K 2 fI fd) : KB fd ["given"] 1 [] [0] := kb_of J.f (fun _ _ _ _ _ _ _ us ws h1 h2 => match us, ws, h1, h2 with | [u0], [], _, _ => rfl)
theorem kbB2 (J : Ini K 2 fI fd) : KB fd ["given"] 0 ["given"] [0] := kb_of J.f (fun _ _ _ _ _ _ _ us ws h1 h2 => match us, ws, h1, h2 with | [], [v0], _, _ => rfl)
theorem mk1_2 (J : Ini K 2 fI fd) (T : Txt K mg) : Mk1 P w K mg b0 (Cl K 2) "given" := ⟨fI, fd, ⟨T.ec 2 (by decide), J.iC, J.tI, ini2 J T⟩, kbA2 J, kbB2 J⟩
theorem kbA3 (J : Ini K 3 fI fd) : KB fd ["given"] 1 [] [0] := kb_of J.f (fun _ _ _ _ _ _ _ us ws h1 h2 => match us, ws, h1, h2 with | [u0], [], _, _ => rfl)
theorem kbB3 (J : Ini K 3 fI fd) : KB fd ["given"] 0 ["given"] [0] := kb_of J.f (fun _ _ _ _ _ _ _ us ws h1 h2 => match us, ws, h1, h2 with | [], [v0], _, _ => rfl)
theorem mk1_3 (J : Ini K 3 fI fd) (T : Txt K mg) : Mk1 P w K mg b0 (Cl K 3) "given" := ⟨fI, fd, ⟨T.ec 3 (by decide), J.iC, J.tI, ini3 J T⟩, kbA3 J, kbB3 J⟩
theorem kbA4 (J : Ini K 4 fI fd) : KB fd ["given"] 1 [] [0] := kb_of J.f (fun _ _ _ _ _ _ _ us ws h1 h2 => match us, ws, h1, h2 with | [u0], [], _, _ => rfl)
theorem kbB4 (J : Ini K 4 fI fd) : KB fd ["given"] 0 ["given"] [0] := kb_of J.f (fun _ _ _ _ _ _ _ us ws h1 h2 => match us, ws, h1, h2 with | [], [v0], _, _ => rfl)
theorem mk1_4 (J : Ini K 4 fI fd) (T : Txt K mg) : Mk1 P w K mg b0 (Cl K 4) "given" := ⟨fI, fd, ⟨T.ec 4 (by decide), J.iC, J.tI, ini4 J T⟩, kbA4 J, kbB4 J⟩
theorem kbA5 (J : Ini K 5 fI fd) : KB fd ["given"] 1 [] [0] := kb_of J.f (fun _ _ _ _ _ _ _ us ws h1 h2 => match us, ws, h1, h2 with | [u0], [], _, _ => rfl)
theorem kbB5 (J : Ini K 5 fI fd) : KB fd ["given"] 0 ["given"] [0] := kb_of J.f (fun _ _ _ _ _ _ _ us ws h1 h2 => match us, ws, h1, h2 with | [], [v0], _, _ => rfl)
theorem mk1_5 (J : Ini K 5 fI fd) (T : Txt K mg) : Mk1 P w K mg b0 (Cl K 5) "given" := ⟨fI, fd, ⟨T.ec 5 (by decide), J.iC, J.tI, ini5 J T⟩, kbA5 J, kbB5 J⟩
theorem kbA6 (J : Ini K 6 fI fd) : KB fd ["given"] 1 [] [0] := kb_of J.f (fun _ _ _ _ _ _ _ us ws h1 h2 => match us, ws, h1, h2 with | [u0], [], _, _ => rfl)
theorem kbB6 (J : Ini K 6 fI fd) : KB fd ["given"] 0 ["given"] [0] := kb_of J.f (fun _ _ _ _ _ _ _ us ws h1 h2 => match us, ws, h1, h2 with | [], [v0], _, _ => rfl)
theorem mk1_6 (J : Ini K 6 fI fd) (T : Txt K mg) : Mk1 P w K mg b0 (Cl K 6) "given" := ⟨fI, fd, ⟨T.ec 6 (by decide), J.iC, J.tI, ini6 J T⟩, kbA6 J, kbB6 J⟩
theorem kbA7 (J : Ini K 7 fI fd) : KB fd ["given"] 1 [] [0] := kb_of J.f (fun _ _ _ _ _ _ _ us ws h1 h2 => match us, ws, h1, h2 with | [u0], [], _, _ => rfl)
theorem kbB7 (J : Ini K 7 fI fd) : KB fd ["given"] 0 ["given"] [0] := kb_of J.f (fun _ _ _ _ _ _ _ us ws h1 h2 => match us, ws, h1, h2 with | [], [v0], _, _ => rfl)
theorem mk1_7 (J : Ini K 7 fI fd) (T : Txt K mg) : Mk1 P w K mg b0 (Cl K 7) "given" := ⟨fI, fd, ⟨T.ec 7 (by decide), J.iC, J.tI, ini7 J T⟩, kbA7 J, kbB7 J⟩
theorem kbA8 (J : Ini K 8 fI fd) : KB fd ["given"] 1 [] [0] := kb_of J.f (fun _ _ _ _ _ _ _ us ws h1 h2 => match us, ws, h1, h2 with | [u0], [], _, _ => rfl)
theorem kbB8 (J : Ini K 8 fI fd) : KB fd ["given"] 0 ["given"] [0] := kb_of J.f (fun _ _ _ _ _ _ _ us ws h1 h2 => match us, ws, h1, h2 with | [], [v0], _, _ => rfl)
theorem mk1_8 (J : Ini K 8 fI fd) (T : Txt K mg) : Mk1 P w K mg b0 (Cl K 8) "given" := ⟨fI, fd, ⟨T.ec 8 (by decide), J.iC, J.tI, ini8 J T⟩, kbA8 J, kbB8 J⟩
theorem kbA9 (J : Ini K 9 fI fd) : KB fd ["given"] 1 [] [0] := kb_of J.f (fun _ _ _ _ _ _ _ us ws h1 h2 => match us, ws, h1, h2 with | [u0], [], _, _ => rfl)
theorem kbB9 (J : Ini K 9 fI fd) : KB fd ["given"] 0 ["given"] [0] := kb_of J.f (fun _ _ _ _ _ _ _ us ws h1 h2 => match us, ws, h1, h2 with | [], [v0], _, _ => rfl)
theorem mk1_9 (J : Ini K 9 fI fd) (T : Txt K mg) : Mk1 P w K mg b0 (Cl K 9) "given" := ⟨fI, fd, ⟨T.ec 9 (by decide), J.iC, J.tI, ini9 J T⟩, kbA9 J, kbB9 J⟩
theorem kbA10 (J : Ini K 10 fI fd) : KB fd ["given"] 1 [] [0] := kb_of J.f (fun _ _ _ _ _ _ _ us ws h1 h2 => match us, ws, h1, h2 with | [u0], [], _, _ => rfl)
theorem kbB10 (J : Ini K 10 fI fd) : KB fd ["given"] 0 ["given"] [0] := kb_of J.f (fun _ _ _ _ _ _ _ us ws h1 h2 => match us, ws, h1, h2 with | [], [v0], _, _ => rfl)
theorem mk1_10 (J : Ini K 10 fI fd) (T : Txt K mg) : Mk1 P w K mg b0 (Cl K 10) "given" := ⟨fI, fd, ⟨T.ec 10 (by decide), J.iC, J.tI, ini10 J T⟩, kbA10 J, kbB10 J⟩
theorem kbA11 (J : Ini K 11 fI fd) : KB fd ["given"] 1 [] [0] := kb_of J.f (fun _ _ _ _ _ _ _ us ws h1 h2 => match us, ws, h1, h2 with | [u0], [], _, _ => rfl)
theorem kbB11 (J : Ini K 11 fI fd) : KB fd ["given"] 0 ["given"] [0] := kb_of J.f (fun _ _ _ _ _ _ _ us ws h1 h2 => match us, ws, h1, h2 with | [], [v0], _, _ => rfl)
theorem mk1_11 (J : Ini K 11 fI fd) (T : Txt K mg) : Mk1 P w K mg b0 (Cl K 11) "given" := ⟨fI, fd, ⟨T.ec 11 (by decide), J.iC, J.tI, ini11 J T⟩, kbA11 J, kbB11 J⟩
theorem kbA12 (J : Ini K 12 fI fd) : KB fd ["given"] 1 [] [0] := kb_of J.f (fun _ _ _ _ _ _ _ us ws h1 h2 => match us, ws, h1, h2 with | [u0], [], _, _ => rfl)
theorem kbB12 (J : Ini K 12 fI fd) : KB fd ["given"] 0 ["given"] [0] := kb_of J.f (fun _ _ _ _ _ _ _ us ws h1 h2 => match us, ws, h1, h2 with | [], [v0], _, _ => rfl)
theorem mk1_12 (J : Ini K 12 fI fd) (T : Txt K mg) : Mk1 P w K mg b0 (Cl K 12) "given" := ⟨fI, fd, ⟨T.ec 12 (by decide), J.iC, J.tI, ini12 J T⟩, kbA12 J, kbB12 J⟩
theorem kbA13 (J : Ini K 13 fI fd) : KB fd ["given"] 1 [] [0] := kb_of J.f (fun _ _ _ _ _ _ _ us ws h1 h2 => match us, ws, h1, h2 with | [u0], [], _, _ => rfl)
theorem kbB13 (J : Ini K 13 fI fd) : KB fd ["given"] 0 ["given"] [0] := kb_of J.f (fun _ _ _ _ _ _ _ us ws h1 h2 => match us, ws, h1, h2 with | [], [v0], _, _ => rfl)
theorem mk1_13 (J : Ini K 13 fI fd) (T : Txt K mg) : Mk1 P w K mg b0 (Cl K 13) "given" := ⟨fI, fd, ⟨T.ec 13 (by decide), J.iC, J.tI, ini13 J T⟩, kbA13 J, kbB13 J⟩
theorem kbA14 (J : Ini K 14 fI fd) : KB fd ["given"] 1 [] [0] := kb_of J.f (fun _ _ _ _ _ _ _ us ws h1 h2 => match us, ws, h1, h2 with | [u0], [], _, _ => rfl)
theorem kbB14 (J : Ini K 14 fI fd) : KB fd ["given"] 0 ["given"] [0] := kb_of J.f (fun _ _ _ _ _ _ _ us ws h1 h2 => match us, ws, h1, h2 with | [], [v0], _, _ => rfl)
theorem mk1_14 (J : Ini K 14 fI fd) (T : Txt K mg) : Mk1 P w K mg b0 (Cl K 14) "given" := ⟨fI, fd, ⟨T.ec 14 (by decide), J.iC, J.tI, ini14 J T⟩, kbA14 J, kbB14 J⟩
theorem kbA15 (J : Ini K 15 fI fd) : KB fd ["given"] 1 [] [0] := kb_of J.f (fun _ _ _ _ _ _ _ us ws h1 h2 => match us, ws, h1, h2 with | [u0], [], _, _ => rfl)
theorem kbB15 (J : Ini K 15 fI fd) : KB fd ["given"] 0 ["given"] [0] := kb_of J.f (fun _ _ _ _ _ _ _ us ws h1 h2 => match us, ws, h1, h2 with | [], [v0], _, _ => rfl)
theorem mk1_15 (J : Ini K 15 fI fd) (T : Txt K mg) : Mk1 P w K mg b0 (Cl K 15) "given" := ⟨fI, fd, ⟨T.ec 15 (by decide), J.iC, J.tI, ini15 J T⟩, kbA15 J, kbB15 J⟩
theorem kbA16 (J : Ini K 16 fI fd) : KB fd ["given"] 1 [] [0] := kb_of J.f (fun _ _ _ _ _ _ _ us ws h1 h2 => match us, ws, h1, h2 with | [u0], [], _, _ => rfl)
theorem kbB16 (J : Ini K 16 fI fd) : KB fd ["given"] 0 ["given"] [0] := kb_of J.f (fun _ _ _ _ _ _ _ us ws h1 h2 => match us, ws, h1, h2 with | [], [v0], _, _ => rfl)
theorem mk1_16 (J : Ini K 16 fI fd) (T : Txt K mg) : Mk1 P w K mg b0 (Cl K 16) "given" := ⟨fI, fd, ⟨T.ec 16 (by decide), J.iC, J.tI, ini16 J T⟩, kbA16 J, kbB16 J⟩
theorem kbA17 (J : Ini K 17 fI fd) : KB fd ["given"] 1 [] [0] := kb_of J.f (fun _ _ _ _ _ _ _ us ws h1 h2 => match us, ws, h1, h2 with | [u0], [], _, _ => rfl)
theorem kbB17 (J : Ini K 17 fI fd) : KB fd ["given"] 0 ["given"] [0] := kb_of J.f (fun _ _ _ _ _ _ _ us ws h1 h2 => match us, ws, h1, h2 with | [], [v0], _, _ => rfl)
theorem mk1_17 (J : Ini K 17 fI fd) (T : Txt K mg) : Mk1 P w K mg b0 (Cl K 17) "given" := ⟨fI, fd, ⟨T.ec 17 (by decide), J.iC, J.tI, ini17 J T⟩, kbA17 J, kbB17 J⟩
theorem kbA18 (J : Ini K 18 fI fd) : KB fd ["given"] 1 [] [0] := kb_of J.f (fun _ _ _ _ _ _ _ us ws h1 h2 => match us, ws, h1, h2 with | [u0], [], _, _ => rfl)
theorem kbB18 (J : Ini K 18 fI fd) : KB fd ["given"] 0 ["given"] [0] := kb_of J.f (fun _ _ _ _ _ _ _ us ws h1 h2 => match us, ws, h1, h2 with | [], [v0], _, _ => rfl)
theorem mk1_18 (J : Ini K 18 fI fd) (T : Txt K mg) : Mk1 P w K mg b0 (Cl K 18) "given" := ⟨fI, fd, ⟨T.ec 18 (by decide), J.iC, J.tI, ini18 J T⟩, kbA18 J, kbB18 J⟩
theorem kbA19 (J : Ini K 19 fI fd) : KB fd ["given"] 1 [] [0] := kb_of J.f (fun _ _ _ _ _ _ _ us ws h1 h2 => match us, ws, h1, h2 with | [u0], [], _, _ => rfl)
theorem kbB19 (J : Ini K 19 fI fd) : KB fd ["given"] 0 ["given"] [0] := kb_of J.f (fun _ _ _ _ _ _ _ us ws h1 h2 => match us, ws, h1, h2 with | [], [v0], _, _ => rfl)
theorem mk1_19 (J : Ini K 19 fI fd) (T : Txt K mg) : Mk1 P w K mg b0 (Cl K 19) "given" := ⟨fI, fd, ⟨T.ec 19 (by decide), J.iC, J.tI, ini19 J T⟩, kbA19 J, kbB19 J⟩
theorem kbA20 (J : Ini K 20 fI fd) : KB fd ["given"] 1 [] [0] := kb_of J.f (fun _ _ _ _ _ _ _ us ws h1 h2 => match us, ws, h1, h2 with | [u0], [], _, _ => rfl)
theorem kbB20 (J : Ini K 20 fI fd) : KB fd ["given"] 0 ["given"] [0] := kb_of J.f (fun _ _ _ _ _ _ _ us ws h1 h2 => match us, ws, h1, h2 with | [], [v0], _, _ => rfl)
theorem mk1_20 (J : Ini K 20 fI fd) (T : Txt K mg) : Mk1 P w K mg b0 (Cl K 20) "given" := ⟨fI, fd, ⟨T.ec 20 (by decide), J.iC, J.tI, ini20 J T⟩, kbA20 J, kbB20 J⟩
theorem kbA21 (J : Ini K 21 fI fd) : KB fd ["given"] 1 [] [0] := kb_of J.f (fun _ _ _ _ _ _ _ us ws h1 h2 => match us, ws, h1, h2 with | [u0], [], _, _ => rfl)
theorem kbB21 (J : Ini K 21 fI fd) : KB fd ["given"] 0 ["given"] [0] := kb_of J.f (fun _ _ _ _ _ _ _ us ws h1 h2 => match us, ws, h1, h2 with | [], [v0], _, _ => rfl)
theorem mk1_21 (J : Ini K 21 fI fd) (T : Txt K mg) : Mk1 P w K mg b0 (Cl K 21) "given" := ⟨fI, fd, ⟨T.ec 21 (by decide), J.iC, J.tI, ini21 J T⟩, kbA21 J, kbB21 J⟩
theorem kbA22 (J : Ini K 22 fI fd) : KB fd ["given"] 1 [] [0] := kb_of J.f (fun _ _ _ _ _ _ _ us ws h1 h2 => match us, ws, h1, h2 with | [u0], [], _, _ => rfl)
theorem kbB22 (J : Ini K 22 fI fd) : KB fd ["given"] 0 ["given"] [0] := kb_of J.f (fun _ _ _ _ _ _ _ us ws h1 h2 => match us, ws, h1, h2 with | [], [v0], _, _ => rfl)
theorem mk1_22 (J : Ini K 22 fI fd) (T : Txt K mg) : Mk1 P w K mg b0 (Cl K 22) "given" := ⟨fI, fd, ⟨T.ec 22 (by decide), J.iC, J.tI, ini22 J T⟩, kbA22 J, kbB22 J⟩
theorem kbA23 (J : Ini K 23 fI fd) : KB fd ["given"] 1 [] [0] := kb_of J.f (fun _ _ _ _ _ _ _ us ws h1 h2 => match us, ws, h1, h2 with | [u0], [], _, _ => rfl)
theorem kbB23 (J : Ini K 23 fI fd) : KB fd ["given"] 0 ["given"] [0] := kb_of J.f (fun _ _ _ _ _ _ _ us ws h1 h2 => match us, ws, h1, h2 with | [], [v0], _, _ => rfl)
theorem mk1_23 (J : Ini K 23 fI fd) (T : Txt K mg) : Mk1 P w K mg b0 (Cl K 23) "given" := ⟨fI, fd, ⟨T.ec 23 (by decide), J.iC, J.tI, ini23 J T⟩, kbA23 J, kbB23 J⟩
theorem kbA24 (J : Ini K 24 fI fd) : KB fd ["given"] 1 [] [0] := kb_of J.f (fun _ _ _ _ _ _ _ us ws h1 h2 => match us, ws, h1, h2 with | [u0], [], _, _ => rfl)
theorem kbB24 (J : Ini K 24 fI fd) : KB fd ["given"] 0 ["given"] [0] := kb_of J.f (fun _ _ _ _ _ _ _ us ws h1 h2 => match us, ws, h1, h2 with | [], [v0], _, _ => rfl)
theorem mk1_24 (J : Ini K 24 fI fd) (T : Txt K mg) : Mk1 P w K mg b0 (Cl K 24) "given" := ⟨fI, fd, ⟨T.ec 24 (by decide), J.iC, J.tI, ini24 J T⟩, kbA24 J, kbB24 J⟩
theorem kbA25 (J : Ini K 25 fI fd) : KB fd ["given"] 1 [] [0] := kb_of J.f (fun _ _ _ _ _ _ _ us ws h1 h2 => match us, ws, h1, h2 with | [u0], [], _, _ => rfl)
theorem kbB25 (J : Ini K 25 fI fd) : KB fd ["given"] 0 ["given"] [0] := kb_of J.f (fun _ _ _ _ _ _ _ us ws h1 h2 => match us, ws, h1, h2 with | [], [v0], _, _ => rfl)
theorem mk1_25 (J : Ini K 25 fI fd) (T : Txt K mg) : Mk1 P w K mg b0 (Cl K 25) "given" := ⟨fI, fd, ⟨T.ec 25 (by decide), J.iC, J.tI, ini25 J T⟩, kbA25 J, kbB25 J⟩
theorem kbA26 (J : Ini K 26 fI fd) : KB fd ["given"] 1 [] [0] := kb_of J.f (fun _ _ _ _ _ _ _ us ws h1 h2 => match us, ws, h1, h2 with | [u0], [], _, _ => rfl)
theorem kbB26 (J : Ini K 26 fI fd) : KB fd ["given"] 0 ["given"] [0] := kb_of J.f (fun _ _ _ _ _ _ _ us ws h1 h2 => match us, ws, h1, h2 with | [], [v0], _, _ => rfl)
theorem mk1_26 (J : Ini K 26 fI fd) (T : Txt K mg) : Mk1 P w K mg b0 (Cl K 26) "given" := ⟨fI, fd, ⟨T.ec 26 (by decide), J.iC, J.tI, ini26 J T⟩, kbA26 J, kbB26 J⟩
theorem kbA27 (J : Ini K 27 fI fd) : KB fd ["given"] 1 [] [0] := kb_of J.f (fun _ _ _ _ _ _ _ us ws h1 h2 => match us, ws, h1, h2 with | [u0], [], _, _ => rfl)
theorem kbB27 (J : Ini K 27 fI fd) : KB fd ["given"] 0 ["given"] [0] := kb_of J.f (fun _ _ _ _ _ _ _ us ws h1 h2 => match us, ws, h1, h2 with | [], [v0], _, _ => rfl)
theorem mk1_27 (J : Ini K 27 fI fd) (T : Txt K mg) : Mk1 P w K mg b0 (Cl K 27) "given" := ⟨fI, fd, ⟨T.ec 27 (by decide), J.iC, J.tI, ini27 J T⟩, kbA27 J, kbB27 J⟩
theorem kbA28 (J : Ini K 28 fI fd) : KB fd ["given"] 1 [] [0] := kb_of J.f (fun _ _ _ _ _ _ _ us ws h1 h2 => match us, ws, h1, h2 with | [u0], [], _, _ => rfl)
theorem kbB28 (J : Ini K 28 fI fd) : KB fd ["given"] 0 ["given"] [0] := kb_of J.f (fun _ _ _ _ _ _ _ us ws h1 h2 => match us, ws, h1, h2 with | [], [v0], _, _ => rfl)
theorem mk1_28 (J : Ini K 28 fI fd) (T : Txt K mg) : Mk1 P w K mg b0 (Cl K 28) "given" := ⟨fI, fd, ⟨T.ec 28 (by decide), J.iC, J.tI, ini28 J T⟩, kbA28 J, kbB28 J⟩
theorem kbA29 (J : Ini K 29 fI fd) : KB fd ["given"] 1 [] [0] := kb_of J.f (fun _ _ _ _ _ _ _ us ws h1 h2 => match us, ws, h1, h2 with | [u0], [], _, _ => rfl)
theorem kbB29 (J : Ini K 29 fI fd) : KB fd ["given"] 0 ["given"] [0] := kb_of J.f (fun _ _ _ _ _ _ _ us ws h1 h2 => match us, ws, h1, h2 with | [], [v0], _, _ => rfl)
theorem mk1_29 (J : Ini K 29 fI fd) (T : Txt K mg) : Mk1 P w K mg b0 (Cl K 29) "given" := ⟨fI, fd, ⟨T.ec 29 (by decide), J.iC, J.tI, ini29 J T⟩, kbA29 J, kbB29 J⟩
theorem kbA30 (J : Ini K 30 fI fd) : KB fd ["given"] 1 [] [0] := kb_of J.f (fun _ _ _ _ _ _ _ us ws h1 h2 => match us, ws, h1, h2 with | [u0], [], _, _ => rfl)
theorem kbB30 (J : Ini K 30 fI fd) : KB fd ["given"] 0 ["given"] [0] := kb_of J.f (fun _ _ _ _ _ _ _ us ws h1 h2 => match us, ws, h1, h2 with | [], [v0], _, _ => rfl)
theorem mk1_30 (J : Ini K 30 fI fd) (T : Txt K mg) : Mk1 P w K mg b0 (Cl K 30) "given" := ⟨fI, fd, ⟨T.ec 30 (by decide), J.iC, J.tI, ini30 J T⟩, kbA30 J, kbB30 J⟩
theorem kbA31 (J : Ini K 31 fI fd) : KB fd ["given"] 1 [] [0] := kb_of J.f (fun _ _ _ _ _ _ _ us ws h1 h2 => match us, ws, h1, h2 with | [u0], [], _, _ => rfl)
theorem kbB31 (J : Ini K 31 fI fd) : KB fd ["given"] 0 ["given"] [0] := kb_of J.f (fun _ _ _ _ _ _ _ us ws h1 h2 => match us, ws, h1, h2 with | [], [v0], _, _ => rfl)
theorem mk1_31 (J : Ini K 31 fI fd) (T : Txt K mg) : Mk1 P w K mg b0 (Cl K 31) "given" := ⟨fI, fd, ⟨T.ec 31 (by decide), J.iC, J.tI, ini31 J T⟩, kbA31 J, kbB31 J⟩
theorem kbA32 (J : Ini K 32 fI fd) : KB fd ["payoff"] 1 [] [0] := kb_of J.f (fun _ _ _ _ _ _ _ us ws h1 h2 => match us, ws, h1, h2 with | [u0], [], _, _ => rfl)
theorem kbB32 (J : Ini K 32 fI fd) : KB fd ["payoff"] 0 ["payoff"] [0] := kb_of J.f (fun _ _ _ _ _ _ _ us ws h1 h2 => match us, ws, h1, h2 with | [], [v0], _, _ => rfl)
theorem mk1_32 (J : Ini K 32 fI fd) (T : Txt K mg) : Mk1 P w K mg b0 (Cl K 32) "payoff" := ⟨fI, fd, ⟨T.ec 32 (by decide), J.iC, J.tI, ini32 J T⟩, kbA32 J, kbB32 J⟩
theorem kbA33 (J : Ini K 33 fI fd) : KB fd ["payoff"] 1 [] [0] := kb_of J.f (fun _ _ _ _ _ _ _ us ws h1 h2 => match us, ws, h1, h2 with | [u0], [], _, _ => rfl)
theorem kbB33 (J : Ini K 33 fI fd) : KB fd ["payoff"] 0 ["payoff"] [0] := kb_of J.f (fun _ _ _ _ _ _ _ us ws h1 h2 => match us, ws, h1, h2 with | [], [v0], _, _ => rfl)
theorem mk1_33 (J : Ini K 33 fI fd) (T : Txt K mg) : Mk1 P w K mg b0 (Cl K 33) "payoff" := ⟨fI, fd, ⟨T.ec 33 (by decide), J.iC, J.tI, ini33 J T⟩, kbA33 J, kbB33 J⟩
theorem kbA34 (J : Ini K 34 fI fd) : KB fd ["count"] 1 [] [0] := kb_of J.f (fun _ _ _ _ _ _ _ us ws h1 h2 => match us, ws, h1, h2 with | [u0], [], _, _ => rfl)
theorem kbB34 (J : Ini K 34 fI fd) : KB fd ["count"] 0 ["count"] [0] := kb_of J.f (fun _ _ _ _ _ _ _ us ws h1 h2 => match us, ws, h1, h2 with | [], [v0], _, _ => rfl)
theorem mk1_34 (J : Ini K 34 fI fd) (T : Txt K mg) : Mk1 P w K mg b0 (Cl K 34) "count" := ⟨fI, fd, ⟨T.ec 34 (by decide), J.iC, J.tI, ini34 J T⟩, kbA34 J, kbB34 J⟩
theorem kbA35 (J : Ini K 35 fI fd) : KB fd ["name"] 1 [] [0] := kb_of J.f (fun _ _ _ _ _ _ _ us ws h1 h2 => match us, ws, h1, h2 with | [u0], [], _, _ => rfl)
theorem kbB35 (J : Ini K 35 fI fd) : KB fd ["name"] 0 ["name"] [0] := kb_of J.f (fun _ _ _ _ _ _ _ us ws h1 h2 => match us, ws, h1, h2 with | [], [v0], _, _ => rfl)
theorem mk1_35 (J : Ini K 35 fI fd) (T : Txt K mg) : Mk1 P w K mg b0 (Cl K 35) "name" := ⟨fI, fd, ⟨T.ec 35 (by decide), J.iC, J.tI, ini35 J T⟩, kbA35 J, kbB35 J⟩
theorem kb36_0 (J : Ini K 36 fI fd) : KB fd ["line", "column"] 1 ["column"] [0, 1] := kb_of J.f (fun _ _ _ _ _ _ _ us ws h1 h2 => match us, ws, h1, h2 with | [u0], [v0], _, _ => rfl)
theorem kb36_1 (J : Ini K 36 fI fd) : KB fd ["line", "column"] 2 [] [0, 1] := kb_of J.f (fun _ _ _ _ _ _ _ us ws h1 h2 => match us, ws, h1, h2 with | [u0, u1], [], _, _ => rfl)
theorem kb36_2 (J : Ini K 36 fI fd) : KB fd ["line", "column"] 0 ["line", "column"] [0, 1] := kb_of J.f (fun _ _ _ _ _ _ _ us ws h1 h2 => match us, ws, h1, h2 with | [], [v0, v1], _, _ => rfl)
theorem kb36_3 (J : Ini K 36 fI fd) : KB fd ["line", "column"] 0 ["column", "line"] [1, 0] := kb_of J.f (fun _ _ _ _ _ _ _ us ws h1 h2 => match us, ws, h1, h2 with | [], [v0, v1], _, _ => rfl)
theorem flds_36 : flds 36 = (["line", "column"] : List Str) := by decide +kernel
theorem mkN_36 (J : Ini K 36 fI fd) (T : Txt K mg) : MkN P w K mg b0 36 := by
  constructor
  rw [flds_36]
  refine ⟨fI, fd, ⟨T.ec 36 (by decide), J.iC, J.tI, ini36 J T⟩, fun q hq => ?_⟩
  simp only [kbs, List.mem_cons, List.not_mem_nil, or_false] at hq
  rcases hq with rfl | rfl | rfl | rfl
  · exact kb36_0 J
  · exact kb36_1 J
  · exact kb36_2 J
  · exact kb36_3 J
theorem kb37_0 (J : Ini K 37 fI fd) : KB fd ["unit", "store"] 1 ["store"] [0, 1] := kb_of J.f (fun _ _ _ _ _ _ _ us ws h1 h2 => match us, ws, h1, h2 with | [u0], [v0], _, _ => rfl)
theorem kb37_1 (J : Ini K 37 fI fd) : KB fd ["unit", "store"] 2 [] [0, 1] := kb_of J.f (fun _ _ _ _ _ _ _ us ws h1 h2 => match us, ws, h1, h2 with | [u0, u1], [], _, _ => rfl)
theorem kb37_2 (J : Ini K 37 fI fd) : KB fd ["unit", "store"] 0 ["unit", "store"] [0, 1] := kb_of J.f (fun _ _ _ _ _ _ _ us ws h1 h2 => match us, ws, h1, h2 with | [], [v0, v1], _, _ => rfl)
theorem kb37_3 (J : Ini K 37 fI fd) : KB fd ["unit", "store"] 0 ["store", "unit"] [1, 0] := kb_of J.f (fun _ _ _ _ _ _ _ us ws h1 h2 => match us, ws, h1, h2 with | [], [v0, v1], _, _ => rfl)
theorem flds_37 : flds 37 = (["unit", "store"] : List Str) := by decide +kernel
theorem mkN_37 (J : Ini K 37 fI fd) (T : Txt K mg) : MkN P w K mg b0 37 := by
  constructor
  rw [flds_37]
  refine ⟨fI, fd, ⟨T.ec 37 (by decide), J.iC, J.tI, ini37 J T⟩, fun q hq => ?_⟩
  simp only [kbs, List.mem_cons, List.not_mem_nil, or_false] at hq
  rcases hq with rfl | rfl | rfl | rfl
  · exact kb37_0 J
  · exact kb37_1 J
  · exact kb37_2 J
  · exact kb37_3 J
theorem kb38_0 (J : Ini K 38 fI fd) : KB fd ["reason", "unit", "word"] 2 ["word"] [0, 1, 2] := kb_of J.f (fun _ _ _ _ _ _ _ us ws h1 h2 => match us, ws, h1, h2 with | [u0, u1], [v0], _, _ => rfl)
theorem kb38_1 (J : Ini K 38 fI fd) : KB fd ["reason", "unit", "word"] 3 [] [0, 1, 2] := kb_of J.f (fun _ _ _ _ _ _ _ us ws h1 h2 => match us, ws, h1, h2 with | [u0, u1, u2], [], _, _ => rfl)
theorem kb38_2 (J : Ini K 38 fI fd) : KB fd ["reason", "unit", "word"] 0 ["reason", "unit", "word"] [0, 1, 2] := kb_of J.f (fun _ _ _ _ _ _ _ us ws h1 h2 => match us, ws, h1, h2 with | [], [v0, v1, v2], _, _ => rfl)
theorem kb38_3 (J : Ini K 38 fI fd) : KB fd ["reason", "unit", "word"] 0 ["word", "unit", "reason"] [2, 1, 0] := kb_of J.f (fun _ _ _ _ _ _ _ us ws h1 h2 => match us, ws, h1, h2 with | [], [v0, v1, v2], _, _ => rfl)
theorem flds_38 : flds 38 = (["reason", "unit", "word"] : List Str) := by decide +kernel
theorem mkN_38 (J : Ini K 38 fI fd) (T : Txt K mg) : MkN P w K mg b0 38 := by
  constructor
  rw [flds_38]
  refine ⟨fI, fd, ⟨T.ec 38 (by decide), J.iC, J.tI, ini38 J T⟩, fun q hq => ?_⟩
  simp only [kbs, List.mem_cons, List.not_mem_nil, or_false] at hq
  rcases hq with rfl | rfl | rfl | rfl
  · exact kb38_0 J
  · exact kb38_1 J
  · exact kb38_2 J
  · exact kb38_3 J
theorem kb39_0 (J : Ini K 39 fI fd) : KB fd ["side", "store", "harm"] 3 [] [0, 1, 2] := kb_of J.f (fun _ _ _ _ _ _ _ us ws h1 h2 => match us, ws, h1, h2 with | [u0, u1, u2], [], _, _ => rfl)
theorem kb39_1 (J : Ini K 39 fI fd) : KB fd ["side", "store", "harm"] 1 ["harm", "store"] [0, 2, 1] := kb_of J.f (fun _ _ _ _ _ _ _ us ws h1 h2 => match us, ws, h1, h2 with | [u0], [v0, v1], _, _ => rfl)
theorem kb39_2 (J : Ini K 39 fI fd) : KB fd ["side", "store", "harm"] 0 ["side", "store", "harm"] [0, 1, 2] := kb_of J.f (fun _ _ _ _ _ _ _ us ws h1 h2 => match us, ws, h1, h2 with | [], [v0, v1, v2], _, _ => rfl)
theorem kb39_3 (J : Ini K 39 fI fd) : KB fd ["side", "store", "harm"] 0 ["harm", "store", "side"] [2, 1, 0] := kb_of J.f (fun _ _ _ _ _ _ _ us ws h1 h2 => match us, ws, h1, h2 with | [], [v0, v1, v2], _, _ => rfl)
theorem flds_39 : flds 39 = (["side", "store", "harm"] : List Str) := by decide +kernel
theorem mkN_39 (J : Ini K 39 fI fd) (T : Txt K mg) : MkN P w K mg b0 39 := by
  constructor
  rw [flds_39]
  refine ⟨fI, fd, ⟨T.ec 39 (by decide), J.iC, J.tI, ini39 J T⟩, fun q hq => ?_⟩
  simp only [kbs, List.mem_cons, List.not_mem_nil, or_false] at hq
  rcases hq with rfl | rfl | rfl | rfl
  · exact kb39_0 J
  · exact kb39_1 J
  · exact kb39_2 J
  · exact kb39_3 J
theorem kb40_0 (J : Ini K 40 fI fd) : KB fd ["unit", "store", "side", "count"] 2 ["count", "side"] [0, 1, 3, 2] := kb_of J.f (fun _ _ _ _ _ _ _ us ws h1 h2 => match us, ws, h1, h2 with | [u0, u1], [v0, v1], _, _ => rfl)
theorem kb40_1 (J : Ini K 40 fI fd) : KB fd ["unit", "store", "side", "count"] 4 [] [0, 1, 2, 3] := kb_of J.f (fun _ _ _ _ _ _ _ us ws h1 h2 => match us, ws, h1, h2 with | [u0, u1, u2, u3], [], _, _ => rfl)
theorem kb40_2 (J : Ini K 40 fI fd) : KB fd ["unit", "store", "side", "count"] 0 ["unit", "store", "side", "count"] [0, 1, 2, 3] := kb_of J.f (fun _ _ _ _ _ _ _ us ws h1 h2 => match us, ws, h1, h2 with | [], [v0, v1, v2, v3], _, _ => rfl)
theorem kb40_3 (J : Ini K 40 fI fd) : KB fd ["unit", "store", "side", "count"] 0 ["count", "side", "store", "unit"] [3, 2, 1, 0] := kb_of J.f (fun _ _ _ _ _ _ _ us ws h1 h2 => match us, ws, h1, h2 with | [], [v0, v1, v2, v3], _, _ => rfl)
theorem kb40_4 (J : Ini K 40 fI fd) : KB fd ["unit", "store", "side", "count"] 0 ["count", "store", "unit", "side"] [2, 1, 3, 0] := kb_of J.f (fun _ _ _ _ _ _ _ us ws h1 h2 => match us, ws, h1, h2 with | [], [v0, v1, v2, v3], _, _ => rfl)
theorem flds_40 : flds 40 = (["unit", "store", "side", "count"] : List Str) := by decide +kernel
theorem mkN_40 (J : Ini K 40 fI fd) (T : Txt K mg) : MkN P w K mg b0 40 := by
  constructor
  rw [flds_40]
  refine ⟨fI, fd, ⟨T.ec 40 (by decide), J.iC, J.tI, ini40 J T⟩, fun q hq => ?_⟩
  simp only [kbs, List.mem_cons, List.not_mem_nil, or_false] at hq
  rcases hq with rfl | rfl | rfl | rfl | rfl
  · exact kb40_0 J
  · exact kb40_1 J
  · exact kb40_2 J
  · exact kb40_3 J
  · exact kb40_4 J
theorem kb41_0 (J : Ini K 41 fI fd) : KB fd ["side", "store", "plan", "payoff", "answer"] 2 ["answer", "plan", "payoff"] [0, 1, 3, 4, 2] := kb_of J.f (fun _ _ _ _ _ _ _ us ws h1 h2 => match us, ws, h1, h2 with | [u0, u1], [v0, v1, v2], _, _ => rfl)
theorem kb41_1 (J : Ini K 41 fI fd) : KB fd ["side", "store", "plan", "payoff", "answer"] 5 [] [0, 1, 2, 3, 4] := kb_of J.f (fun _ _ _ _ _ _ _ us ws h1 h2 => match us, ws, h1, h2 with | [u0, u1, u2, u3, u4], [], _, _ => rfl)
theorem kb41_2 (J : Ini K 41 fI fd) : KB fd ["side", "store", "plan", "payoff", "answer"] 0 ["side", "store", "plan", "payoff", "answer"] [0, 1, 2, 3, 4] := kb_of J.f (fun _ _ _ _ _ _ _ us ws h1 h2 => match us, ws, h1, h2 with | [], [v0, v1, v2, v3, v4], _, _ => rfl)
theorem kb41_3 (J : Ini K 41 fI fd) : KB fd ["side", "store", "plan", "payoff", "answer"] 0 ["answer", "payoff", "plan", "store", "side"] [4, 3, 2, 1, 0] := kb_of J.f (fun _ _ _ _ _ _ _ us ws h1 h2 => match us, ws, h1, h2 with | [], [v0, v1, v2, v3, v4], _, _ => rfl)
theorem kb41_4 (J : Ini K 41 fI fd) : KB fd ["side", "store", "plan", "payoff", "answer"] 1 ["store", "plan", "payoff", "answer"] [0, 1, 2, 3, 4] := kb_of J.f (fun _ _ _ _ _ _ _ us ws h1 h2 => match us, ws, h1, h2 with | [u0], [v0, v1, v2, v3], _, _ => rfl)
theorem flds_41 : flds 41 = (["side", "store", "plan", "payoff", "answer"] : List Str) := by decide +kernel
theorem mkN_41 (J : Ini K 41 fI fd) (T : Txt K mg) : MkN P w K mg b0 41 := by
  constructor
  rw [flds_41]
  refine ⟨fI, fd, ⟨T.ec 41 (by decide), J.iC, J.tI, ini41 J T⟩, fun q hq => ?_⟩
  simp only [kbs, List.mem_cons, List.not_mem_nil, or_false] at hq
  rcases hq with rfl | rfl | rfl | rfl | rfl
  · exact kb41_0 J
  · exact kb41_1 J
  · exact kb41_2 J
  · exact kb41_3 J
  · exact kb41_4 J
def tabA : List Str := ["given", "given", "given", "given", "given", "given", "given", "given", "given", "given", "given", "given", "given", "given", "given", "given", "given", "given"]
def tabB : List Str := ["given", "given", "given", "given", "given", "given", "given", "given", "given", "given", "given", "given", "given", "given", "payoff", "payoff", "count", "name"]
def tab36 : List Str := tabA ++ tabB
theorem fld_tab : ∀ k, k < 36 → fld k = tab36.getD k "" := by decide +kernel
theorem memc {p : Nat → Prop} {a : Nat} {l : List Nat} (h : p a) (t : ∀ k ∈ l, p k) : ∀ k ∈ a :: l, p k := fun k hk => (List.mem_cons.mp hk).elim (fun e => e ▸ h) (t k)
def upTo36 : List Nat := [0, 1, 2, 3, 4, 5, 6, 7, 8, 9, 10, 11, 12, 13, 14, 15, 16, 17, 18, 19, 20, 21, 22, 23, 24, 25, 26, 27, 28, 29, 30, 31, 32, 33, 34, 35]
theorem in36 : ∀ k, k < 36 → k ∈ upTo36 := by decide +kernel
theorem mk1_each (T : Txt K mg) : ∀ k ∈ upTo36, ∀ fI fd, Ini K k fI fd → Mk1 P w K mg b0 (Cl K k) (tab36.getD k "") :=
  (memc (fun _ _ j => mk1_0 j T)
    (memc (fun _ _ j => mk1_1 j T)
    (memc (fun _ _ j => mk1_2 j T)
    (memc (fun _ _ j => mk1_3 j T)
    (memc (fun _ _ j => mk1_4 j T)
    (memc (fun _ _ j => mk1_5 j T)
    (memc (fun _ _ j => mk1_6 j T)
    (memc (fun _ _ j => mk1_7 j T)
    (memc (fun _ _ j => mk1_8 j T)
    (memc (fun _ _ j => mk1_9 j T)
    (memc (fun _ _ j => mk1_10 j T)
    (memc (fun _ _ j => mk1_11 j T)
    (memc (fun _ _ j => mk1_12 j T)
    (memc (fun _ _ j => mk1_13 j T)
    (memc (fun _ _ j => mk1_14 j T)
    (memc (fun _ _ j => mk1_15 j T)
    (memc (fun _ _ j => mk1_16 j T)
    (memc (fun _ _ j => mk1_17 j T)
    (memc (fun _ _ j => mk1_18 j T)
    (memc (fun _ _ j => mk1_19 j T)
    (memc (fun _ _ j => mk1_20 j T)
    (memc (fun _ _ j => mk1_21 j T)
    (memc (fun _ _ j => mk1_22 j T)
    (memc (fun _ _ j => mk1_23 j T)
    (memc (fun _ _ j => mk1_24 j T)
    (memc (fun _ _ j => mk1_25 j T)
    (memc (fun _ _ j => mk1_26 j T)
    (memc (fun _ _ j => mk1_27 j T)
    (memc (fun _ _ j => mk1_28 j T)
    (memc (fun _ _ j => mk1_29 j T)
    (memc (fun _ _ j => mk1_30 j T)
    (memc (fun _ _ j => mk1_31 j T)
    (memc (fun _ _ j => mk1_32 j T)
    (memc (fun _ _ j => mk1_33 j T)
    (memc (fun _ _ j => mk1_34 j T)
    (memc (fun _ _ j => mk1_35 j T)
    (fun _ h => nomatch h)))))))))))))))))))))))))))))))))))))
theorem mk1_all (J : ∀ i, i < 42 → ∃ fI fd, Ini K i fI fd) (T : Txt K mg) : ∀ k, k < 36 → Mk1 P w K mg b0 (Cl K k) (fld k) := fun k hk => by
  obtain ⟨fI, fd, j⟩ := J k (by omega)
  have e : fld k = tab36.getD k "" := fld_tab k hk
  rw [e]
  exact mk1_each T k (in36 k hk) fI fd j
theorem in42 : ∀ k, 36 ≤ k → k < 42 → k ∈ ([36, 37, 38, 39, 40, 41] : List Nat) := fun k h1 h2 => by
  simp only [List.mem_cons, List.not_mem_nil, or_false]
  omega
theorem mkN_each (T : Txt K mg) : ∀ k ∈ ([36, 37, 38, 39, 40, 41] : List Nat), ∀ fI fd, Ini K k fI fd → MkN P w K mg b0 k :=
  (memc (fun _ _ j => mkN_36 j T)
    (memc (fun _ _ j => mkN_37 j T)
    (memc (fun _ _ j => mkN_38 j T)
    (memc (fun _ _ j => mkN_39 j T)
    (memc (fun _ _ j => mkN_40 j T)
    (memc (fun _ _ j => mkN_41 j T)
    (fun _ h => nomatch h)))))))
theorem mkN_all (J : ∀ i, i < 42 → ∃ fI fd, Ini K i fI fd) (T : Txt K mg) : ∀ k, 36 ≤ k → k < 42 → MkN P w K mg b0 k := fun k h1 h2 => by
  obtain ⟨fI, fd, j⟩ := J k h2
  exact mkN_each T k (in42 k h1 h2) fI fd j
end
end Kz

namespace Kz
open PySem PySem.Spec PyProof.Rows L2

/-! ### Space and Ratio: what is promised of them -/
structure SpAt (H : Hp) (C a : Addr) : Prop where
  m : ∃ (dx : Addr) (fs : List (Str × V)) (p t1 t2 : Addr) (o : Obj), H a = some (.ins C dx fs) ∧ fs.lookup ("names" : Str) = some (.ref p) ∧ H p = some (.frz o (.tup [.ref t1, .ref t2])) ∧ H t1 = some (.tup [.str "hp", .int 2]) ∧ H t2 = some (.tup [.str "gold", .int 3])
def RSp (C : Addr) (a b : Addr) (H : Hp) : Prop := a = b ∧ SpAt H C a
structure RaAt (H : Hp) (C a : Addr) (t b : Int) : Prop where
  m : ∃ (dx : Addr) (fs : List (Str × V)), H a = some (.ins C dx fs) ∧ fs.lookup ("top" : Str) = some (.int t) ∧ fs.lookup ("bottom" : Str) = some (.int b)
def RRa (C : Addr) (a b : Addr) (H : Hp) : Prop := ∃ t u, RaAt H C a t u ∧ RaAt H C b t u
theorem SpAt.same {H H' : Hp} {C a : Addr} (x : SpAt H C a) (s : Same H H') : SpAt H' C a := by
  obtain ⟨dx, fs, p, t1, t2, o, h1, h2, h3, h4, h5⟩ := x.m
  exact ⟨dx, fs, p, t1, t2, o, s _ _ h1, h2, s _ _ h3, s _ _ h4, s _ _ h5⟩
theorem RaAt.same {H H' : Hp} {C a : Addr} {t b : Int} (x : RaAt H C a t b) (s : Same H H') : RaAt H' C a t b := by
  obtain ⟨dx, fs, h1, h2, h3⟩ := x.m
  exact ⟨dx, fs, s _ _ h1, h2, h3⟩
def spSpI (C : Addr) : Sp := fun vs H Q _ => ∃ (x dx l t1 t2 : Addr), vs = [.ref x, .ref l] ∧ H x = some (.ins C dx []) ∧ H l = some (.lst [.ref t1, .ref t2]) ∧ H t1 = some (.tup [.str "hp", .int 2]) ∧ H t2 = some (.tup [.str "gold", .int 3]) ∧
  ∀ H', (∀ b o, b ≠ x → b ≠ dx → H b = some o → H' b = some o) → SpAt H' C x → Q .non H'
def spRaI (C : Addr) : Sp := fun vs H Q _ => ∃ (x dx : Addr) (t b : Nat), vs = [.ref x, .int t, .int b] ∧ H x = some (.ins C dx []) ∧ 0 < b ∧ b < 100 ∧
  ∀ H', (∀ b o, b ≠ x → b ≠ dx → H b = some o → H' b = some o) → RaAt H' C x ((t / Nat.gcd t b : Nat) : Int) ((b / Nat.gcd t b : Nat) : Int) → Q .non H'
/-- a class of the text, its maker and its == -/
structure OwnC (P : Program) (w : World) (K : PySem.W.Frag) (mg : Str → Option Value) (b0 : Heap) (x : Str) (n : Nat) (ps : List Str) (spI : Addr → Sp) (R : Addr → Addr → Addr → Hp → Prop) : Prop where
  m : ∃ C fI dI fE dE, mg x = some (.ref C) ∧ Mk K C fI ∧ FnOk P w K mg b0 CX0 n fI dI ps (spI C) ∧ Binds K dI ps [] ∧ FnOk P w K mg b0 CX0 n fE dE ["self", "other"] (spEq (R C)) ∧ PySem.W.findIn K (.ref C) "__eq__" = some (some (.ref fE)) ∧ PySem.W.isFn K (.ref fE) = true ∧ Binds K dE ["self", "other"] []

/-! ### law -/
theorem same_save {H1 H H' : Hp} {p : Addr} (s : Same H1 H) (n : H p = none) (v : Save p H H') : Same H1 H' := fun b o e => v b o (ne_of_none (s b o e) n) (s b o e)
theorem same_make {H H' : Hp} {x dx : Addr} {o1 o2 : HO} (nx : H x = none) (nd : H dx = none) (sv : ∀ b o, b ≠ x → b ≠ dx → (upd (upd H dx o1) x o2) b = some o → H' b = some o) : Same H H' := fun b o e => by
  have h1 := ne_of_none e nx
  have h2 := ne_of_none e nd
  exact sv b o h1 h2 (by rw [upd_ne h1, upd_ne h2]; exact e)
theorem cs72_at {K : PySem.W.Frag} {j : Nat} (h : j < 72) : ∃ i, i < 36 ∧ (cs36 K ++ cs36 K)[j]? = some (Cl K i, fld i) := by
  have l : (cs36 K).length = 36 := by unfold cs36; rw [List.length_map, List.length_range]
  have at_ : ∀ i, i < 36 → (cs36 K)[i]? = some (Cl K i, fld i) := fun i hi => by unfold cs36; rw [List.getElem?_map, List.getElem?_range hi]; rfl
  by_cases c : j < 36
  · exact ⟨j, c, by rw [List.getElem?_append_left (by omega)]; exact at_ j c⟩
  · exact ⟨j - 36, by omega, by rw [List.getElem?_append_right (by omega), l]; exact at_ _ (by omega)⟩
def pre (j : Nat) : Nat := ([0, 2, 4, 7, 10, 14, 19] : List Nat).getD j 0
theorem pre_next : ∀ j, j < 6 → pre (j + 1) = pre j + (flds (36 + j)).length ∧ pre (j + 1) ≤ 19 := by decide +kernel
theorem take_same {v : V} {n : Nat} (h : n ≤ 5) : [v, v, v, v, v].take n = List.replicate n v := by
  match n, h with
  | 0, _ => rfl
  | 1, _ => rfl
  | 2, _ => rfl
  | 3, _ => rfl
  | 4, _ => rfl
  | 5, _ => rfl
def spLaw (K : PySem.W.Frag) : Sp := fun vs H Q _ => ∃ (a : Addr) (ns : List Int), vs = [.ref a] ∧ SqL K H a (ns.map V.int) ∧ ∀ H', Q (.bl true) H'
theorem scLaw : FnScope ["script", "bare", "k", "box", "grown", "kept", "e", "way", "space", "thing"] ["script"] (defScope sLaw) := ⟨rfl, rfl, rfl, by decide +kernel, rfl, by decide +kernel, by decide +kernel⟩
section
variable {P : Program} {w : World} {K : PySem.W.Frag} {mg : Str → Option Value} {b0 : Heap} {f : Addr} {fd : FuncData}
theorem ok_law (F : FnP K "law" sLaw f fd) (T : Txt K mg) (O1 : Df P w K mg b0 "_law_cell" 1 ["script", "k"] (spCell K)) (O2 : Df P w K mg b0 "_law_box" 1 ["great"] spBox) (O3 : Df P w K mg b0 "_law_thing" 2 ["box"] spThing)
    (O4 : Df P w K mg b0 "_law_by_place" 3 ["thing"] (spPlace K)) (O5 : Df P w K mg b0 "_law_by_name" 3 ["thing"] (spPlace K)) (O6 : Df P w K mg b0 "_law_several" 3 ["one", "two", "three", "four", "five", "way"] (spSev K)) (O7 : Df P w K mg b0 "_law_is" 2 ["e", "spot"] (spIs K))
    (O8 : Df P w K mg b0 "_law_kept" 1 ["e"] (spKept K)) (O9 : DfG P w K mg b0 "_law_all_right" 4 ["box"] spRight) (OA : DfG P w K mg b0 "_law_caught" 4 ["box", "thing"] spCaught)
    (M12 : Mk1 P w K mg b0 (Cl K 12) (fld 12)) (M38 : MkN P w K mg b0 38) (OS : OwnC P w K mg b0 "Space" 5 ["self", "names"] spSpI RSp) (OR : OwnC P w K mg b0 "Ratio" 3 ["self", "top", "bottom"] spRaI RRa) : FnG P w K mg b0 CX0 7 f fd ["script"] (spLaw K) := by
  obtain ⟨f1, d1, G1, b1, g1, k1⟩ := O1.m
  obtain ⟨f2, d2, G2, b2, g2, k2⟩ := O2.m
  obtain ⟨f3, d3, G3, b3, g3, k3⟩ := O3.m
  obtain ⟨f4, d4, G4, b4, g4, k4⟩ := O4.m
  obtain ⟨f5, d5, G5, b5, g5, k5⟩ := O5.m
  obtain ⟨f6, d6, G6, b6, g6, k6⟩ := O6.m
  obtain ⟨f7, d7, G7, b7, g7, k7⟩ := O7.m
  obtain ⟨f8, d8, G8, b8, g8, k8⟩ := O8.m
  obtain ⟨f9, d9, G9, b9, g9, k9⟩ := O9.m
  obtain ⟨fA, dA, GA, bA, gA, kA⟩ := OA.m
  obtain ⟨fM, dM, mM, kM, _⟩ := M12.m
  obtain ⟨fN, dN, mN, kN⟩ := M38.m
  obtain ⟨CS, fSI, dSI, fSE, dSE, gS, MS, FSI, bSI, FSE, hSE, iSE, bSE⟩ := OS.m
  obtain ⟨CR, fRI, dRI, fRE, dRE, gR, MR, FRI, bRI, FRE, hRE, iRE, bRE⟩ := OR.m
  refine fnG_mk F scLaw (fun vs H Q E h => ?_) (fun cv A ou s H vs Q E bare hr h => ?_)
  · obtain ⟨a, ns, rfl, _⟩ := h
    rfl
  obtain ⟨a, ns, rfl, hS, hQ⟩ := h
  have r5 := hr.mono (j := 5) (by decide)
  have r4 := hr.mono (j := 4) (by decide)
  have r3 := hr.mono (j := 3) (by decide)
  have r2 := hr.mono (j := 2) (by decide)
  have r1 := hr.mono (j := 1) (by decide)
  have hu := hr.units
  refine ⟨_, PSs.nox (pss_cons (ps_set (i := 1) scLaw.nd rfl (Or.inr rfl) (pe_L (pa_cons (pe_mk0 PySem.F.excBase_ValueError (T.bare 42 (by decide) (by decide)) (T.gc 42 (by decide)) (T.ec 42 (by decide)).o.kC rfl) (pa_cons (pe_mk0 PySem.F.excBase_ValueError (T.bare 43 (by decide) (by decide)) (T.gc 43 (by decide)) (T.ec 43 (by decide)).o.kC rfl)
      (pa_cons (pe_mk0 PySem.F.excBase_ValueError (T.bare 44 (by decide) (by decide)) (T.gc 44 (by decide)) (T.ec 44 (by decide)).o.kC rfl) pa_nil)))))
    (pss_cons (ps_if (pt_cmpR (op_neD hu) (pe_lc (own := [("k", 2)]) (g := gName 2) (te := tVar 2) (tt := tNot (tB (tCall (spIs K) [] (fun _ _ _ => False) (tCons (tOp (rIxL K) (tVar 1) (tVar 2)) (tCons (tOp (rI0 fun i j => .int (i + j)) (tC (.int 42)) (tVar 2)) tNil))))) rfl scLaw.nd
          (pi_range1 rfl T.fran (pa_cons pe_int pa_nil))
          (blkOk_by (own := [("k", 2)]) (N := ["script", "bare", "k", "box", "grown", "kept", "e", "way", "space", "thing"]) (sc := defScope sLaw) (by decide +kernel))
          (fun _ _ _ _ _ => pg_name (i := 2) scLaw.nd rfl (Or.inl rfl)) (fun _ _ _ _ _ => pts_one (pt_not (pt_val (pe_call G7 r2 rfl g7 k7 b7 .nil pass0 (pa_cons (pe_ix ix_list (pv 1) (pv 2) (fun _ _ => rfl)) (pa_cons (pe_op op_add pe_int (pv 2)) pa_nil)))))) (fun _ _ _ _ _ => pv 2))
        (pe_L pa_nil) (nomark _)) (pss_one (ps_ret pe_bl)) pss_nil)
    (pss_cons (ps_for PassesOwn.never rfl (pi_range1 rfl T.fran (pa_cons (pe_callB (call_max2 rfl) rfl T.fmax (by decide +kernel) (pa_cons pe_int (pa_cons (pe_callB (call_min2 rfl) rfl T.fmin (by decide +kernel) (pa_cons pe_int (pa_cons (pe_callB call_len rfl T.flen boot_len (pa_cons (pv 0) pa_nil)) pa_nil))) pa_nil))) pa_nil)) (pg_name (i := 2) scLaw.nd rfl (Or.inl rfl))
      (pss_cons (ps_set (i := 3) scLaw.nd rfl (Or.inl rfl) (pe_call G2 r1 rfl g2 k2 b2 .nil pass0 (pa_cons (pe_call G1 r1 rfl g1 k1 b1 .nil pass0 (pa_cons (pv 0) (pa_cons (pv 2) pa_nil))) pa_nil)))
      (pss_one (ps_if (PW.pt (pw_or (pt_not (pt_val (pe_callG G9 bare r4 rfl g9 k9 b9 .nil pass0 (pa_cons (pv 3) pa_nil)))) (pw_or1 (pt_not (pt_val (pe_callG GA bare r4 rfl gA kA bA .nil pass0 (pa_cons (pv 3) (pa_cons (pe_call G3 r2 rfl g3 k3 b3 .nil pass0 (pa_cons (pv 3) pa_nil)) pa_nil)))))))) (pss_one (ps_ret pe_bl)) pss_nil))))
    (pss_cons (ps_par (i := 4) (j := 5) (by rfl) scLaw.nd rfl rfl (by decide) rfl rfl (pa_cons (pe_L (pa_cons pe_int pa_nil)) (pa_cons (pe_L pa_nil) pa_nil)) (by rfl))
    (pss_cons (ps_for PassesOwn.never rfl (pi_list (pe_op op_cat (pe_call G4 r3 rfl g4 k4 b4 .nil pass0 (pa_cons (pv 4) pa_nil)) (pe_call G5 r3 rfl g5 k5 b5 .nil pass0 (pa_cons (pv 4) pa_nil)))) (pg_name (i := 6) scLaw.nd rfl (Or.inl rfl))
      (pss_one (ps_set (i := 5) scLaw.nd rfl (Or.inl rfl) (pe_op op_cat (pv 5) (pe_call G8 r1 rfl g8 k8 b8 .nil pass0 (pa_cons (pv 6) pa_nil))))))
    (pss_cons (ps_for PassesOwn.never rfl (pi_range1 rfl T.fran (pa_cons pe_int pa_nil)) (pg_name (i := 7) scLaw.nd rfl (Or.inl rfl))
      (pss_one (ps_for PassesOwn.never rfl (pi_list (pe_call G6 r3 rfl g6 k6 b6 .nil pass0 (pa_cons (pv 4) (pa_cons (pv 4) (pa_cons (pv 4) (pa_cons (pv 4) (pa_cons (pv 4) (pa_cons (pv 7) pa_nil)))))))) (pg_name (i := 6) scLaw.nd rfl (Or.inl rfl))
        (pss_one (ps_set (i := 5) scLaw.nd rfl (Or.inl rfl) (pe_op op_cat (pv 5) (pe_call G8 r1 rfl g8 k8 b8 .nil pass0 (pa_cons (pv 6) pa_nil))))))))
    (pss_cons (ps_expr (pe_bm PySem.F.plainAttrs_list PySem.F.slot_list_append PySem.F.type_list_append mt_append (pv 4) (pa_cons pe_str pa_nil)))
    (pss_cons (ps_if (PW.pt (pw_or (pt_cmpR op_ne (pe_callB call_len rfl T.flen boot_len (pa_cons (pv 5) pa_nil)) pe_int (nomark _)) (pw_or1 (pt_cmpR (op_neD hu)
        (pe_lc (own := [("thing", 9)]) (g := gName 9) (te := tVar 9) (tt := tTest (tOp (rNeD K) (tVar 9) (tL (tCons (tC (.int 1)) (tCons (tC (.str "more")) tNil))))) rfl scLaw.nd (pi_list (pv 5))
          (blkOk_by (own := [("thing", 9)]) (N := ["script", "bare", "k", "box", "grown", "kept", "e", "way", "space", "thing"]) (sc := defScope sLaw) (by decide +kernel))
          (fun _ _ _ _ _ => pg_name (i := 9) scLaw.nd rfl (Or.inl rfl)) (fun _ _ _ _ _ => pts_one (pt_cmpR (op_neD hu) (pv 9) (pe_L (pa_cons pe_int (pa_cons pe_str pa_nil))) (nomark _))) (fun _ _ _ _ _ => pv 9))
        (pe_L pa_nil) (nomark _))))) (pss_one (ps_ret pe_bl)) pss_nil)
    (pss_cons (ps_set (i := 8) scLaw.nd rfl (Or.inl rfl) (pe_make MS FSI hr rfl gS bSI .nil pass0 (pa_cons (pe_L (pa_cons (pe_T (pa_cons pe_str (pa_cons pe_int pa_nil))) (pa_cons (pe_T (pa_cons pe_str (pa_cons pe_int pa_nil))) pa_nil))) pa_nil)))
    (pss_one (ps_ret (pe_and (pe_cmpR (op_eqG (rcG_ins FSE hSE iSE bSE pass0) r5) (pe_at (pe_mkE1 (n := 1) (ix := [0]) mM r2 rfl (T.gc 12 (by decide)) kM (by decide) (pa_cons (pv 8) pa_nil))) (pv 8) (nomark _))
      (pe_one (pe_cmpR (op_eqG (rcG_ins FRE hRE iRE bRE pass0) r3) (pe_at (pe_mkE1 (n := 3) (ix := [0, 1, 2]) mN r2 rfl (T.gc 38 (by decide)) (kN _ (List.mem_of_getElem? (i := 1) rfl)) (by decide)
          (pa_cons pe_int (pa_cons (pe_make MR FRI r4 rfl gR bRI .nil pass0 (pa_cons pe_int (pa_cons pe_int pa_nil))) (pa_cons pe_str pa_nil)))))
        (pe_make MR FRI r4 rfl gR bRI .nil pass0 (pa_cons pe_int (pa_cons pe_int pa_nil))) (nomark _))))))))))))))), ?_⟩
  refine fun z1 n1 => fun z2 n2 => fun z3 n3 => ⟨Nat.le_of_ble_eq_true rfl, fun p H1 s1 m1 e1 => ?_⟩
  have E1 : Er0 (upd (upd (upd H z1 (exo z1 (Cl K 42) none)) z2 (exo z2 (Cl K 43) none)) z3 (exo z3 (Cl K 44) none)) z1 (Cl K 42) := (same_new n3) _ _ ((same_new n2) _ _ upd_same)
  have E2 : Er0 (upd (upd (upd H z1 (exo z1 (Cl K 42) none)) z2 (exo z2 (Cl K 43) none)) z3 (exo z3 (Cl K 44) none)) z2 (Cl K 43) := (same_new n3) _ _ upd_same
  have E3 : Er0 (upd (upd (upd H z1 (exo z1 (Cl K 42) none)) z2 (exo z2 (Cl K 43) none)) z3 (exo z3 (Cl K 44) none)) z3 (Cl K 44) := upd_same
  have sH : Same H H1 := (((same_new n1).trans (same_new n2)).trans (same_new n3)).trans s1
  have E1 := E1.same s1
  have E2 := E2.same s1
  have E3 := E3.same s1
  have bareAt : ∀ j, j < 3 → ∃ e, ([V.ref z1, V.ref z2, V.ref z3] : List V)[j]? = some (V.ref e) ∧ Er0 H1 e (Cl K (42 + j)) := fun j hj => by
    match j, hj with
    | 0, _ => exact ⟨z1, rfl, E1⟩
    | 1, _ => exact ⟨z2, rfl, E2⟩
    | 2, _ => exact ⟨z3, rfl, E3⟩
  clear s1 E1 E2 E3
  refine ⟨3, rfl, by decide, by decide, fun D hD => ?_⟩
  refine lc_range (lo := 0) (n := 3) (fun j H' => Same H1 H' ∧ H' D = some (.lst [])) ⟨same_new hD, upd_same⟩ ?_ ?_
  · rintro j J hj ⟨t1, d1⟩
    rw [Int.zero_add]
    obtain ⟨e, he, er⟩ := bareAt j hj
    refine ⟨rfl, ?_⟩
    refine ⟨_, rfl, _, rfl, p, _, (j : Int), .ref e, rfl, rfl, SqL.of (t1 _ _ e1), atI_nat he, _, rfl, 42, (j : Int), rfl, rfl, e, 42 + j, 42 + (j : Int), rfl, by omega, Or.inl (er.same t1), fun J2 t2 => ⟨_, rfl, ?_⟩⟩
    rw [decide_eq_true (show ((42 + j : Nat) : Int) = 42 + (j : Int) by omega)]
    exact iteF ⟨t1.trans t2, t2 _ _ d1⟩
  rintro J ⟨t1, d1⟩
  refine ⟨Nat.le_of_ble_eq_true rfl, fun q J2 t2 n2 e2 => ⟨.list [], .list [], .lst (SqL.of (t2 _ _ d1)) .nil, .lst (SqL.of e2) .nil, rfl, rfl, _, rfl, ?_⟩⟩
  rw [show PyData.eqv (.list []) (.list []) = true from rfl]
  refine iteF ?_
  have sJ := (sH.trans t1).trans t2
  clear t1 d1 t2 n2 e2
  refine ⟨_, rfl, _, (ns.map V.int).length, rfl, .inl ⟨_, hS.ext sJ, rfl⟩, 4, _, rfl, 2, _, rfl, _, rfl, ?_, ?_, ?_⟩
  · split <;> (try split) <;> omega
  · split <;> (try split) <;> omega
  generalize hn : ((if (if ((ns.map V.int).length : Int) < 4 then ((ns.map V.int).length : Int) else 4) > 2 then (if ((ns.map V.int).length : Int) < 4 then ((ns.map V.int).length : Int) else 4) else 2) : Int) = nn
  have n4 : nn.toNat ≤ 4 := by
    rw [← hn]
    split <;> (try split) <;> omega
  refine for_range (lo := 0) (n := nn.toNat) (fun j σ H' => Same J2 H' ∧ ∃ x2 x3, σ = [some (.ref a), some (.ref p), x2, x3, none, none, none, none, none, none]) ⟨Same.refl _, _, _, rfl⟩ ?_ ?_
  · rintro j σ L0 hj ⟨t1, x2, x3, rfl⟩
    rw [Int.zero_add]
    refine ⟨_, rfl, _, rfl, a, ns, (j : Int), rfl, hS.ext (sJ.trans t1), by omega, by omega, fun n L1 t2 => ⟨n, rfl, fun b L2 ba bg bm t3 nb b0' b1' b2' eb => ?_⟩⟩
    have bx : BoxAt L2 b 0 := ⟨ba, bg, bm, 0, eb, b0', b1', b2', by decide, by decide⟩
    refine ⟨_, rfl, b, 0, rfl, bx, by decide, fun L3 bx3 sv3 => ⟨_, rfl, iteF ?_⟩⟩
    refine ⟨_, rfl, _, rfl, b, 0 + 5, rfl, bx3, by decide, fun v d L4 sv4 bx4 dq md => ?_⟩
    refine ⟨b, 0 + 5 + 1, v, d, rfl, bx4, by decide, dq, shw_gd (by decide) (by decide) (gd_menu d md), fun L5 bx5 sv5 => ⟨_, rfl, iteF ?_⟩⟩
    exact ⟨t1.trans (t2.trans (fun q o z => (Save.trans sv3 (sv4.trans sv5)) q o (ne_of_none z nb) (t3 _ _ z))), _, _, rfl⟩
  rintro σ L0 ⟨t1, x2, x3, rfl⟩
  clear hn n4
  refine ⟨Nat.le_of_ble_eq_true rfl, fun g L1 u1 ng eg => ⟨Nat.le_of_ble_eq_true rfl, fun kp L2 u2 nk ek => ⟨_, _, rfl, ?_⟩⟩⟩
  refine ⟨_, rfl, .ref g, rfl, fun es pe L3 u3 Ee ee => ⟨_, rfl, .ref g, rfl, fun fs pf L4 u4 Ef ef => ?_⟩⟩
  have les : es.length = 36 := Paired.length Ee
  have lfs : fs.length = 36 := Paired.length Ef
  refine cat_go (u4 _ _ ee) ef (by rw [List.length_map, List.length_map, les, lfs]; decide) fun pl L5 u5 el => ?_
  rw [← List.map_append] at el
  have Ea := Paired.app (ErsAt.same (u4.trans u5) Ee) (ErsAt.same u5 Ef)
  have la : ((es ++ fs).map V.ref).length = 72 := by rw [List.length_map, List.length_append, les, lfs]
  have eg5 := u5 _ _ (u4 _ _ (u3 _ _ (u2 _ _ eg)))
  have ek5 := u5 _ _ (u4 _ _ (u3 _ _ ek))
  refine ⟨pl, rfl, ⟨_, SqL.of el⟩, for_list (xs := (es ++ fs).map V.ref) (fun j σ H' => Same L5 H' ∧ ∃ kp x6, σ = [some (.ref a), some (.ref p), x2, x3, some (.ref g), some (.ref kp), x6, none, none, none] ∧ H' kp = some (.lst (List.replicate j (.ref g)))) ⟨Same.refl _, _, _, rfl, ek5⟩
    (fun j σ H' _ z => SqL.of (z.1 _ _ el)) ?_ ?_⟩
  · rintro j x σ N0 hx ⟨v0, kq, x6, rfl, ekq⟩
    have hj : j < 72 := by
      rw [← la]
      exact (List.getElem?_eq_some_iff.mp hx).1
    obtain ⟨i, hi, hc⟩ := cs72_at (K := K) hj
    obtain ⟨e, he, er⟩ := Paired.at Ea hc
    have ex : x = .ref e := by
      rw [List.getElem?_map, he] at hx
      exact (Option.some.inj hx).symm
    subst ex
    refine ⟨_, rfl, _, rfl, e, i, _, [.ref g], rfl, by omega, Er.same er v0, look_one hi, fun q N1 v1 nq eq => ?_⟩
    refine cat_go (v1 _ _ ekq) eq (by rw [List.length_replicate]; show j + 1 ≤ 1000; omega) fun q2 N2 v2 eq2 => ?_
    rw [show List.replicate j (V.ref g) ++ [V.ref g] = List.replicate (j + 1) (V.ref g) from List.replicate_succ'.symm] at eq2
    exact ⟨(v0.trans v1).trans v2, _, _, rfl, eq2⟩
  rintro σ N0 ⟨v0, kq, x6, rfl, ekq⟩
  rw [la] at ekq
  refine ⟨4, rfl, by decide, by decide, for_range (lo := 0) (n := 4) (fun wy σ H' => Same N0 H' ∧ ∃ kp x6 x7, σ = [some (.ref a), some (.ref p), x2, x3, some (.ref g), some (.ref kp), x6, x7, none, none] ∧ H' kp = some (.lst (List.replicate (72 + 19 * wy) (.ref g)))) ⟨Same.refl _, _, _, _, rfl, ekq⟩ ?_ ?_⟩
  · rintro wy σ M0 hw ⟨w0, kr, y6, y7, rfl, ekr⟩
    rw [Int.zero_add]
    refine ⟨_, rfl, _, rfl, _, rfl, _, rfl, _, rfl, _, rfl, .ref g, .ref g, .ref g, .ref g, .ref g, wy, rfl, hw, fun xs q M1 w1 E9 eq => ?_⟩
    have l6 : (xs.map V.ref).length = 6 := by rw [List.length_map, Paired.length E9]; rfl
    refine ⟨q, rfl, ⟨_, SqL.of eq⟩, for_list (xs := xs.map V.ref) (fun j σ H' => Same M1 H' ∧ ∃ kp x6, σ = [some (.ref a), some (.ref p), x2, x3, some (.ref g), some (.ref kp), x6, some (.int wy), none, none] ∧ H' kp = some (.lst (List.replicate (72 + 19 * wy + pre j) (.ref g)))) ⟨Same.refl _, _, _, rfl, w1 _ _ ekr⟩
      (fun j σ H' _ z => SqL.of (z.1 _ _ eq)) ?_ ?_⟩
    · rintro j x σ Q0 hx ⟨v0', kq', x6', rfl, ekq'⟩
      have hj : j < 6 := by
        rw [← l6]
        exact (List.getElem?_eq_some_iff.mp hx).1
      obtain ⟨e, he, er⟩ := ErFs.get E9 hj
      have ex : x = .ref e := by
        rw [List.getElem?_map, he] at hx
        exact (Option.some.inj hx).symm
      subst ex
      obtain ⟨fl, h1, h2⟩ := er
      have l5 := dues5 j hj
      obtain ⟨pn, pb⟩ := pre_next j hj
      rw [take_same l5] at h2
      refine ⟨_, rfl, _, rfl, e, 36 + j, fl, _, rfl, by omega, h1.same v0', h2, fun r Q1 v1 nr er' => ?_⟩
      refine cat_go (v1 _ _ ekq') er' (by rw [List.length_replicate, List.length_replicate]; omega) fun r2 Q2 v2 er2 => ?_
      rw [List.replicate_append_replicate, Nat.add_assoc, ← pn] at er2
      exact ⟨(v0'.trans v1).trans v2, _, _, rfl, er2⟩
    · rintro σ Q0 ⟨v0', kq', x6', rfl, ekq'⟩
      rw [l6, show pre 6 = 19 from rfl, show 72 + 19 * wy + 19 = 72 + 19 * (wy + 1) by omega] at ekq'
      exact ⟨(w0.trans w1).trans v0', _, _, _, rfl, ekq'⟩
  rintro σ M0 ⟨w0, kr, y6, y7, rfl, ekr⟩
  have eg6 : M0 g = some (.lst [.int 1]) := w0 _ _ (v0 _ _ eg5)
  refine ⟨_, rfl, .inl ⟨rfl, _, SqL.of eg6⟩, g, [.int 1], .str "more", rfl, rfl, eg6, by show 1 < sizeLine; decide, ?_⟩
  have gk : kr ≠ g := fun z => by
    rw [z, eg6] at ekr
    have := congrArg List.length (HO.lst.inj (Option.some.inj ekr))
    rw [List.length_replicate] at this
    exact absurd this (by decide)
  have ek7 : (upd M0 g (.lst ([V.int 1] ++ [V.str "more"]))) kr = some (.lst (List.replicate 148 (.ref g))) := by
    rw [upd_ne gk]
    exact ekr
  have eg7 : (upd M0 g (.lst ([V.int 1] ++ [V.str "more"]))) g = some (.lst [.int 1, .str "more"]) := upd_same
  generalize upd M0 g (.lst ([V.int 1] ++ [V.str "more"])) = R0 at ek7 eg7 ⊢
  refine ⟨_, rfl, _, (148 : Nat), rfl, .inl ⟨_, SqL.of ek7, by rw [List.length_replicate]⟩, rfl, _, rfl, ?_⟩
  rw [show decide (V.int ((148 : Nat) : Int) = V.int 148) = true from by decide]
  refine iteF ?_
  refine ⟨_, rfl, kr, rfl, ⟨_, SqL.of ek7⟩, fun D hD => ?_⟩
  refine lc_list (xs := List.replicate 148 (V.ref g)) (fun j H' => Same R0 H' ∧ H' D = some (.lst [])) ⟨same_new hD, upd_same⟩ (fun j H' _ z => SqL.of (z.1 _ _ ek7)) ?_ ?_
  · rintro j x J hx ⟨t1', d1⟩
    have ex : x = .ref g := List.eq_of_mem_replicate (List.mem_of_getElem? hx)
    subst ex
    refine ⟨rfl, ?_⟩
    refine ⟨_, rfl, Nat.le_of_ble_eq_true rfl, fun q J2 t2 nq eq => ?_⟩
    refine ⟨.list [.int 1, .str "more"], .list [.int 1, .str "more"], .lst (SqL.of (t2 _ _ (t1' _ _ eg7))) (.cons (.int _) (.cons (.str _) .nil)), .lst (SqL.of eq) (.cons (.int _) (.cons (.str _) .nil)), by decide +kernel, by decide +kernel, _, rfl, ?_⟩
    rw [show PyData.eqv (.list [.int 1, .str "more"]) (.list [.int 1, .str "more"]) = true from by decide +kernel]
    exact iteF ⟨t1'.trans t2, t2 _ _ d1⟩
  rintro J ⟨t1', d1⟩
  refine ⟨Nat.le_of_ble_eq_true rfl, fun q R1 t2 nq eq => ⟨.list [], .list [], .lst (SqL.of (t2 _ _ d1)) .nil, .lst (SqL.of eq) .nil, rfl, rfl, _, rfl, ?_⟩⟩
  rw [show PyData.eqv (.list []) (.list []) = true from rfl]
  refine iteF ?_
  refine ⟨Nat.le_of_ble_eq_true rfl, fun c1 R2 y2 m2 f2 => ⟨Nat.le_of_ble_eq_true rfl, fun c2 R3 y3 m3 f3 => ⟨Nat.le_of_ble_eq_true rfl, fun cl R4 y4 m4 f4 => ?_⟩⟩⟩
  intro x dx nx ndx ne
  have hx1 : ∀ {q o}, R4 q = some o → (upd (upd R4 dx (.own x)) x (.ins CS dx [])) q = some o := fun {q o} z => by rw [upd_ne (ne_of_none z nx), upd_ne (ne_of_none z ndx)]; exact z
  refine ⟨x, dx, cl, c1, c2, rfl, upd_same, hx1 f4, hx1 (y4 _ _ (y3 _ _ f2)), hx1 (y4 _ _ f3), fun R5 sv5 sp5 => ⟨rfl, ?_⟩⟩
  refine ⟨_, rfl, rfl, rfl, rfl, fun e R6 _ y6 er => ⟨e, Cl K 12, .ref x, rfl, T.ec 12 (by decide), T.nof 12 (by decide) _ (by decide +kernel), er.hasE rfl, ?_⟩⟩
  have sp6 := sp5.same y6
  obtain ⟨dx', fs', pp, t1'', t2'', oo, q1, q2, q3, q4, q5⟩ := sp6.m
  refine ⟨_, rfl, ⟨x, x, dx', dx', fs', fs', rfl, rfl, q1, q1, rfl, sp6⟩, fun R7 y7 => ⟨true, rfl, iteT ?_⟩⟩
  intro x1 dx1 nx1 nd1 ne1
  refine ⟨x1, dx1, 2, 4, rfl, upd_same, by decide, by decide, fun R8 sv8 ra8 => ⟨rfl, rfl, rfl, rfl, fun e3 R9 _ y9 er3 => ⟨e3, Cl K 38, .ref x1, rfl, T.ec 38 (by decide), T.nof 38 (by decide) _ (by decide +kernel), er3.hasE rfl, ?_⟩⟩⟩
  intro x2 dx2 nx2 nd2 ne2
  refine ⟨x2, dx2, 1, 2, rfl, upd_same, by decide, by decide, fun RA svA raA => ⟨rfl, ?_⟩⟩
  have ra1 := ra8.same (y9.trans (same_make nx2 nd2 svA))
  obtain ⟨k1, l1, p1, p2, p3⟩ := ra1.m
  obtain ⟨k2, l2, p4, p5, p6⟩ := raA.m
  exact ⟨⟨x1, x2, k1, k2, l1, l2, rfl, rfl, p1, p4, 1, 2, ra1, raA⟩, fun RB _ => hQ RB⟩
end
end Kz

namespace Kz
open PySem PySem.Spec PyProof.Rows L2

/-! ### whole numbers, Ratio -/
/-- an own class with plain fields -/
structure PlC (K : PySem.W.Frag) (C : Addr) (fs : List Str) : Prop where
  cl : Cls K C
  no : ∀ f ∈ fs, NoAttr K C f
  ca : PySem.W.findIn K (.ref C) "__class__" = some (some (.builtin "object.__class__"))
  cm : PySem.W.mroIn K C (.type "object") = some true
  kit : PySem.W.kitOne K (.ref C) (.ref C) = some true
structure Txt2 (K : PySem.W.Frag) (mg : Str → Option Value) : Prop where
  fbool : mg "bool" = none
  ftup : mg "tuple" = none
  flst : mg "list" = none
  fstr : mg "str" = none
  fall : mg "all" = none
  long : ∃ t, mg "LONGEST" = some (.int 8 t)
  most : ∃ t, mg "MOST_STORES" = some (.int 6 t)
  tak : ∃ a, mg "TAKEN" = some (.ref a) ∧ ∀ H, SqT K H a (takenV.map V.str)
  gcd : mg "gcd" = some (.builtin "math.gcd")
  gS : mg "Space" = some (.ref (He.ga K "Space"))
  gR : mg "Ratio" = some (.ref (He.ga K "Ratio"))
  cS : PlC K (He.ga K "Space") ["names", "_sizes", "never"]
  cR : PlC K (He.ga K "Ratio") ["top", "bottom"]
theorem PlC.ty {K : PySem.W.Frag} {C a dx : Addr} {fs : List (Str × V)} {ns : List Str} {H : Hp} (c : PlC K C ns) (G : KG K) (e : H a = some (.ins C dx fs)) : TyX K H (.ref a) (.ref C) := .base (.ins e c.cl c.ca G.sp G.tk c.cm)
abbrev sWhole : Stmt := top 50
abbrev sWithin : Stmt := top 51
abbrev sTupOf : Stmt := top 52
def spWhole : Sp := fun vs H Q _ => ∃ i : Int, vs = [.int i] ∧ Q (.bl true) H
theorem scWhole : FnScope ["value"] ["value"] (defScope sWhole) := ⟨rfl, rfl, rfl, by decide +kernel, rfl, by decide +kernel, by decide +kernel⟩
theorem scRaI : FnScope ["self", "top", "bottom", "common"] ["self", "top", "bottom"] (defScope sRaI) := ⟨rfl, rfl, rfl, by decide +kernel, rfl, by decide +kernel, by decide +kernel⟩
theorem scRaE : FnScope ["self", "other"] ["self", "other"] (defScope sRaE) := ⟨rfl, rfl, rfl, by decide +kernel, rfl, by decide +kernel, by decide +kernel⟩
section
variable {P : Program} {w : World} {K : PySem.W.Frag} {mg : Str → Option Value} {b0 : Heap} {f : Addr} {fd : FuncData}
theorem ok_whole (F : FnP K "is_whole" sWhole f fd) (T : Txt K mg) (U : Txt2 K mg) : FnOk P w K mg b0 CX0 1 f fd ["value"] spWhole := by
  refine FunD.ok F scWhole (fun vs H Q E h => ?_) (fun cv A ou s H vs Q E hr h => ?_)
  · obtain ⟨i, rfl, _⟩ := h
    rfl
  obtain ⟨i, rfl, hQ⟩ := h
  refine ⟨_, PSs.nox (pss_one (ps_ret (pe_and (pe_callB call_isi rfl T.fisi (by decide +kernel) (pa_cons (pv 0) (pa_cons (pe_bltn (v := .ty "int") (u := .type "int") rfl T.fint (by decide +kernel) rfl) pa_nil)))
    (pe_one (pe_not (pe_callB call_isi rfl T.fisi (by decide +kernel) (pa_cons (pv 0) (pa_cons (pe_bltn (v := .ty "bool") (u := .type "bool") rfl U.fbool (by decide +kernel) rfl) pa_nil)))))))), ?_⟩
  exact ⟨_, rfl, .int i, .ty "int", .type "int", .type "int", true, rfl, .ty _, .base (.int i), kit_ty (by decide +kernel), true, rfl, iteT ⟨_, rfl, .int i, .ty "bool", .type "int", .type "bool", false, rfl, .ty _, .base (.int i), kit_ty (by decide +kernel), false, rfl, hQ⟩⟩
theorem ok_raI (F : FunD K "__init__" "Ratio.__init__" (defArgs sRaI) (defBody sRaI) (defScope sRaI) [.int 1] [] f fd) (T : Txt K mg) (U : Txt2 K mg) (OW : Df P w K mg b0 "is_whole" 1 ["value"] spWhole) : FnOk P w K mg b0 CX0 3 f fd ["self", "top", "bottom"] (spRaI (He.ga K "Ratio")) := by
  obtain ⟨fW, dW, GW, bW, gW, kW⟩ := OW.m
  refine FunD.ok F scRaI (fun vs H Q E h => ?_) (fun cv A ou s H vs Q E hr h => ?_)
  · obtain ⟨x, dx, t, b, rfl, _⟩ := h
    rfl
  obtain ⟨x, dx, t, b, rfl, hx, b0', b1', hQ⟩ := h
  have r1 := hr.mono (j := 1) (by decide)
  refine ⟨_, PSs.nox (pss_cons (ps_if (pt_not (pt_val (pe_call GW r1 rfl gW kW bW .nil pass0 (pa_cons (pv 1) pa_nil)))) pss_never pss_nil)
    (pss_cons (ps_if (pt_not (pt_val (pe_call GW r1 rfl gW kW bW .nil pass0 (pa_cons (pv 2) pa_nil)))) pss_never pss_nil)
    (pss_cons (ps_if (pt_cmpR op_eq (pv 2) pe_int (nomark _)) pss_never pss_nil)
    (pss_cons (ps_set (i := 3) scRaI.nd rfl (Or.inl rfl) (pe_callBfun cr_gcd rfl U.gcd (pa_cons (pv 1) (pa_cons (pv 2) pa_nil))))
    (pss_cons (ps_if (pt_cmpR op_lt (pv 2) pe_int (nomark _)) pss_never pss_nil)
    (pss_cons (ps_fld (pv 0) (pe_op op_fdiv (pv 1) (pv 3)) rfl)
    (pss_one (ps_fld (pv 0) (pe_op op_fdiv (pv 2) (pv 3)) rfl)))))))), ?_⟩
  have g0 : 0 < Nat.gcd t b := Nat.gcd_pos_of_pos_right _ b0'
  have g1 : Nat.gcd t b ≤ b := Nat.le_of_dvd b0' (Nat.gcd_dvd_right t b)
  refine ⟨_, rfl, _, rfl, _, rfl, iteF ⟨_, rfl, _, rfl, _, rfl, iteF ⟨_, rfl, rfl, _, rfl, ?_⟩⟩⟩
  rw [decide_eq_false (show V.int ((b : Nat) : Int) ≠ V.int 0 from fun z => by injection z with z; omega)]
  refine iteF ⟨_, rfl, _, rfl, _, _, rfl, ⟨_, rfl, _, _, rfl, rfl, _, rfl, ?_⟩⟩
  rw [decide_eq_false (show ¬ ((b : Nat) : Int) < 0 by omega)]
  have cdiv : CDiv ((Nat.gcd t b : Nat) : Int) ((Nat.gcd t b : Nat) : Int) := ⟨by omega, by omega⟩
  refine iteF ⟨_, rfl, _, rfl, _, _, rfl, rfl, cdiv, _, rfl, x, _, dx, [], rfl, hx, U.cR.cl, U.cR.no _ (by decide), by decide, ?_⟩
  refine ⟨_, rfl, _, rfl, _, _, rfl, rfl, cdiv, _, rfl, x, _, dx, _, rfl, upd_same, U.cR.cl, U.cR.no _ (by decide), Nat.le_of_ble_eq_true rfl, ?_⟩
  refine hQ _ (fun q o n1 n2 e => ?_) ⟨dx, _, upd_same, rfl, rfl⟩
  rw [upd_ne n1, upd_ne n1]
  exact e
theorem ok_raE (F : FunD K "__eq__" "Ratio.__eq__" (defArgs sRaE) (defBody sRaE) (defScope sRaE) [] [] f fd) (T : Txt K mg) (U : Txt2 K mg) : FnOk P w K mg b0 CX0 3 f fd ["self", "other"] (spEq (RRa (He.ga K "Ratio"))) := by
  refine FunD.ok F scRaE (fun vs H Q E h => ?_) (fun cv A ou s H vs Q E hr h => ?_)
  · obtain ⟨a, b, rfl, _⟩ := h
    rfl
  obtain ⟨a, b, rfl, ⟨t, u, ra, rb⟩, hQ⟩ := h
  obtain ⟨da, fa, a1, a2, a3⟩ := ra.m
  obtain ⟨db, fb, b1, b2, b3⟩ := rb.m
  refine ⟨_, PSs.nox (pss_cons (ps_if (pt_val (pe_callB call_isi rfl T.fisi (by decide +kernel) (pa_cons (pv 1) (pa_cons (pe_glob (v := .ref (He.ga K "Ratio")) rfl U.gR rfl) pa_nil))))
      (pss_one (ps_ret (pe_and (pe_cmpR op_eq (pe_fld (pv 0) rfl) (pe_fld (pv 1) rfl) (nomark _)) (pe_one (pe_cmpR op_eq (pe_fld (pv 0) rfl) (pe_fld (pv 1) rfl) (nomark _)))))) pss_nil) (pss_one ps_never)), ?_⟩
  refine ⟨_, rfl, .ref b, .ref (He.ga K "Ratio"), .ref (He.ga K "Ratio"), .ref (He.ga K "Ratio"), true, rfl, .own _, U.cR.ty T.G b1, U.cR.kit, true, rfl, iteT ?_⟩
  refine ⟨_, rfl, a, _, da, fa, _, rfl, a1, U.cR.cl, U.cR.no _ (by decide), a2, _, rfl, b, _, db, fb, _, rfl, b1, U.cR.cl, U.cR.no _ (by decide), b2, rfl, true, ?_, iteT ?_⟩
  · rw [decide_eq_true rfl]
  refine ⟨_, rfl, a, _, da, fa, _, rfl, a1, U.cR.cl, U.cR.no _ (by decide), a3, _, rfl, b, _, db, fb, _, rfl, b1, U.cR.cl, U.cR.no _ (by decide), b3, rfl, ?_⟩
  rw [decide_eq_true rfl]
  exact hQ H Ext.rfl'
end
end Kz

namespace Kz
open PySem PySem.Spec PyProof.Rows L2

/-! ### names with sizes, Space -/
abbrev sWord : Stmt := top 61
abbrev sNws : Stmt := top 62
abbrev sNames : Stmt := top 63
abbrev sStores : Stmt := top 64
structure Word (z : Str) : Prop where
  l1 : 1 ≤ z.length
  l2 : z.length ≤ 8
  nt : inV (.str z) (takenV.map V.str) = false
  a1 : Txt.isascii z = true
  a2 : Txt.isalpha z = true
  a3 : Txt.islower z = true
theorem word_hp : Word "hp" := ⟨by decide +kernel, by decide +kernel, by decide +kernel, by decide +kernel, by decide +kernel, by decide +kernel⟩
theorem word_gold : Word "gold" := ⟨by decide +kernel, by decide +kernel, by decide +kernel, by decide +kernel, by decide +kernel, by decide +kernel⟩
theorem taken_flat : (takenV.map V.str).all flatV = true := by decide +kernel
/-- t: a tuple of a word and a size -/
def NmS (H : Hp) (t : Addr) (z : Str) (n : Int) : Prop := H t = some (.tup [.str z, .int n]) ∧ Word z ∧ 2 ≤ n ∧ n ≤ 6
def spWithin : Sp := fun vs H Q _ => ∃ i lo hi : Int, vs = [.int i, .int lo, .int hi] ∧ lo ≤ i ∧ i ≤ hi ∧ Q (.bl true) H
def spTupOf : Sp := fun vs H Q _ => ∃ (t : Addr) (xs : List V) (n : Int), vs = [.ref t, .int n] ∧ H t = some (.tup xs) ∧ n = xs.length ∧ Q (.bl true) H
def spWord : Sp := fun vs H Q _ => ∃ z : Str, vs = [.str z] ∧ Word z ∧ ∀ H', Same H H' → Q (.bl true) H'
def spNws : Sp := fun vs H Q _ => ∃ (t : Addr) (z : Str) (n : Int), vs = [.ref t] ∧ NmS H t z n ∧ ∀ H', Same H H' → Q (.bl true) H'
def Two (H : Hp) (t1 t2 : Addr) : Prop := NmS H t1 "hp" 2 ∧ NmS H t2 "gold" 3
theorem NmS.same {H H' : Hp} {t : Addr} {z : Str} {n : Int} (x : NmS H t z n) (s : Same H H') : NmS H' t z n := ⟨s _ _ x.1, x.2⟩
theorem Two.same {H H' : Hp} {t1 t2 : Addr} (x : Two H t1 t2) (s : Same H H') : Two H' t1 t2 := ⟨x.1.same s, x.2.same s⟩
def spStL (K : PySem.W.Frag) : Sp := fun vs H Q _ => ∃ (l t1 t2 : Addr), vs = [.ref l] ∧ SqL K H l [.ref t1, .ref t2] ∧ Two H t1 t2 ∧ Q (.int 6) H
def spStT (K : PySem.W.Frag) : Sp := fun vs H Q _ => ∃ (l t1 t2 : Addr), vs = [.ref l] ∧ SqT K H l [.ref t1, .ref t2] ∧ Two H t1 t2 ∧ Q (.int 6) H
def spNames : Sp := fun vs H Q _ => ∃ (l t1 t2 : Addr), vs = [.ref l] ∧ H l = some (.lst [.ref t1, .ref t2]) ∧ Two H t1 t2 ∧ ∀ H', Same H H' → Q (.bl true) H'
theorem scWithin : FnScope ["value", "low", "high"] ["value", "low", "high"] (defScope sWithin) := ⟨rfl, rfl, rfl, by decide +kernel, rfl, by decide +kernel, by decide +kernel⟩
theorem scTupOf : FnScope ["value", "many"] ["value", "many"] (defScope sTupOf) := ⟨rfl, rfl, rfl, by decide +kernel, rfl, by decide +kernel, by decide +kernel⟩
theorem scWord : FnScope ["value"] ["value"] (defScope sWord) := ⟨rfl, rfl, rfl, by decide +kernel, rfl, by decide +kernel, by decide +kernel⟩
theorem scNws : FnScope ["value"] ["value"] (defScope sNws) := ⟨rfl, rfl, rfl, by decide +kernel, rfl, by decide +kernel, by decide +kernel⟩
theorem scStores : FnScope ["names", "count", "_", "size"] ["names"] (defScope sStores) := ⟨rfl, rfl, rfl, by decide +kernel, rfl, by decide +kernel, by decide +kernel⟩
theorem scNames : FnScope ["value", "item"] ["value"] (defScope sNames) := ⟨rfl, rfl, rfl, by decide +kernel, rfl, by decide +kernel, by decide +kernel⟩
section
variable {P : Program} {w : World} {K : PySem.W.Frag} {mg : Str → Option Value} {b0 : Heap} {f : Addr} {fd : FuncData}
theorem ok_within (F : FnP K "is_within" sWithin f fd) (OW : Df P w K mg b0 "is_whole" 1 ["value"] spWhole) : FnOk P w K mg b0 CX0 2 f fd ["value", "low", "high"] spWithin := by
  obtain ⟨fW, dW, GW, bW, gW, kW⟩ := OW.m
  refine FunD.ok F scWithin (fun vs H Q E h => ?_) (fun cv A ou s H vs Q E hr h => ?_)
  · obtain ⟨i, lo, hi, rfl, _⟩ := h
    rfl
  obtain ⟨i, lo, hi, rfl, h1, h2, hQ⟩ := h
  refine ⟨_, PSs.nox (pss_one (ps_ret (pe_and (pe_call GW hr rfl gW kW bW .nil pass0 (pa_cons (pv 0) pa_nil)) (pe_one (pe_chain op_le op_le (pv 1) (pv 0) (pv 2)))))), ?_⟩
  refine ⟨_, rfl, i, rfl, true, rfl, iteT ⟨_, rfl, _, rfl, _, _, rfl, rfl, true, congrArg V.bl (decide_eq_true h1), iteT ⟨_, rfl, _, _, rfl, rfl, ?_⟩⟩⟩
  have e : V.bl (decide (i ≤ hi)) = .bl true := congrArg V.bl (decide_eq_true h2)
  show Q (V.bl (decide (i ≤ hi))) H
  rw [e]
  exact hQ
theorem ok_tupOf (F : FnP K "is_tuple_of" sTupOf f fd) (T : Txt K mg) (U : Txt2 K mg) : FnOk P w K mg b0 CX0 1 f fd ["value", "many"] spTupOf := by
  refine FunD.ok F scTupOf (fun vs H Q E h => ?_) (fun cv A ou s H vs Q E hr h => ?_)
  · obtain ⟨t, xs, n, rfl, _⟩ := h
    rfl
  obtain ⟨t, xs, n, rfl, ht, hn, hQ⟩ := h
  refine ⟨_, PSs.nox (pss_one (ps_ret (pe_and (pe_callB call_isi rfl T.fisi (by decide +kernel) (pa_cons (pv 0) (pa_cons (pe_bltn (v := .ty "tuple") (u := .type "tuple") rfl U.ftup (by decide +kernel) rfl) pa_nil)))
    (pe_one (pe_cmpR op_eq (pe_callB call_len rfl T.flen boot_len (pa_cons (pv 0) pa_nil)) (pv 1) (nomark _)))))), ?_⟩
  refine ⟨_, rfl, .ref t, .ty "tuple", .type "tuple", .type "tuple", true, rfl, .ty _, .base (.tup ht), kit_ty (by decide +kernel), true, rfl, iteT ⟨_, rfl, _, xs.length, rfl, .inr ⟨_, SqT.of ht, rfl⟩, _, rfl, rfl, ?_⟩⟩
  rw [hn, decide_eq_true rfl]
  exact hQ
theorem ok_word (FF : FnP K "is_word" sWord f fd) (T : Txt K mg) (U : Txt2 K mg) : FnOk P w K mg b0 CX0 1 f fd ["value"] spWord := by
  obtain ⟨tl, gL⟩ := U.long
  obtain ⟨ak, gK, sK⟩ := U.tak
  refine FunD.ok FF scWord (fun vs H Q E h => ?_) (fun cv A ou s H vs Q E hr h => ?_)
  · obtain ⟨z, rfl, _⟩ := h
    rfl
  obtain ⟨z, rfl, hz, hQ⟩ := h
  refine ⟨_, PSs.nox (pss_cons (ps_if (PW.pt (pw_or (pt_not (pt_val (pe_callB call_isi rfl T.fisi (by decide +kernel) (pa_cons (pv 0) (pa_cons (pe_bltn (v := .ty "str") (u := .type "str") rfl U.fstr (by decide +kernel) rfl) pa_nil)))))
      (pw_or (pt_not (pt_chain op_le op_le pe_int (pe_callB call_len rfl T.flen boot_len (pa_cons (pv 0) pa_nil)) (pe_glob (v := .int 8) rfl gL ⟨_, rfl⟩))) (pw_or1 (pt_cmpR op_in_seq (pv 0) (pe_glob (v := .ref ak) rfl gK rfl) rfl))))) (pss_one (ps_ret pe_bl)) pss_nil)
    (pss_one (ps_ret (pe_and (pe_bm0 F.plainAttrs_str F.slot_str_isascii F.type_str_isascii mt_isascii (pv 0)) (pe_and (pe_bm0 F.plainAttrs_str F.slot_str_isalpha F.type_str_isalpha mt_isalpha (pv 0)) (pe_one (pe_bm0 F.plainAttrs_str F.slot_str_islower F.type_str_islower mt_islower (pv 0)))))))), ?_⟩
  have lz : z.length ≤ sizeLine := Nat.le_trans hz.l2 (small (by decide))
  refine ⟨_, rfl, .str z, .ty "str", .type "str", .type "str", true, rfl, .ty _, .base (.str z), kit_ty (by decide +kernel), _, rfl, iteF ?_⟩
  refine ⟨_, rfl, _, z.length, rfl, ⟨lz, rfl⟩, _, _, rfl, rfl, true, congrArg V.bl (decide_eq_true (show (1 : Int) ≤ ((z.length : Nat) : Int) by have := hz.l1; omega)), iteT ⟨_, _, rfl, rfl, _, rfl, ?_⟩⟩
  rw [decide_eq_true (show ((z.length : Nat) : Int) ≤ 8 by have := hz.l2; omega)]
  refine iteF ⟨_, rfl, ak, _, rfl, .inr (sK _), rfl, taken_flat, _, rfl, ?_⟩
  rw [hz.nt]
  refine iteF ⟨_, rfl, rfl, z, rfl, rfl, trivial, true, congrArg V.bl hz.a1, iteT ⟨_, rfl, rfl, z, rfl, rfl, trivial, true, congrArg V.bl hz.a2, iteT ⟨_, rfl, rfl, z, rfl, rfl, trivial, ?_⟩⟩⟩
  rw [hz.a3]
  exact hQ _ (Same.refl _)
end
end Kz

namespace Kz
open PySem PySem.Spec PyProof.Rows L2

/-- dict(x), x a tuple of pairs with different keys -/
def rDictT (K : PySem.W.Frag) : List V → Hp → VK → Prop := fun xs H Q => ∃ (l t1 t2 : Addr) (ol : Obj), xs = [.ref l] ∧ H l = some (.frz ol (.tup [.ref t1, .ref t2])) ∧ ol.dict = none ∧ Two H t1 t2 ∧ ∀ p o, H p = none → Q (.ref p) (upd H p o)
theorem scSpI : FnScope ["self", "names"] ["self", "names"] (defScope sSpI) := ⟨rfl, rfl, rfl, by decide +kernel, rfl, by decide +kernel, by decide +kernel⟩
theorem scSpE : FnScope ["self", "other"] ["self", "other"] (defScope sSpE) := ⟨rfl, rfl, rfl, by decide +kernel, rfl, by decide +kernel, by decide +kernel⟩
section
variable {P : Program} {w : World} {K : PySem.W.Frag} {mg : Str → Option Value} {b0 : Heap} {f : Addr} {fd : FuncData}
theorem ok_nws (F : FnP K "is_name_with_size" sNws f fd) (U : Txt2 K mg) (O1 : Df P w K mg b0 "is_tuple_of" 1 ["value", "many"] spTupOf) (O2 : Df P w K mg b0 "is_word" 1 ["value"] spWord) (O3 : Df P w K mg b0 "is_within" 2 ["value", "low", "high"] spWithin) : FnOk P w K mg b0 CX0 3 f fd ["value"] spNws := by
  obtain ⟨f1, d1, G1, b1, g1, k1⟩ := O1.m
  obtain ⟨f2, d2, G2, b2, g2, k2⟩ := O2.m
  obtain ⟨f3, d3, G3, b3, g3, k3⟩ := O3.m
  obtain ⟨tm, gM⟩ := U.most
  refine FunD.ok F scNws (fun vs H Q E h => ?_) (fun cv A ou s H vs Q E hr h => ?_)
  · obtain ⟨t, z, n, rfl, _⟩ := h
    rfl
  obtain ⟨t, z, n, rfl, ⟨ht, hz, n2, n6⟩, hQ⟩ := h
  have r1 := hr.mono (j := 1) (by decide)
  refine ⟨_, PSs.nox (pss_one (ps_ret (pe_and (pe_call G1 r1 rfl g1 k1 b1 .nil pass0 (pa_cons (pv 0) (pa_cons pe_int pa_nil))) (pe_and (pe_call G2 r1 rfl g2 k2 b2 .nil pass0 (pa_cons (pe_ix ix_tup (pv 0) pe_int (fun _ _ => rfl)) pa_nil))
    (pe_one (pe_call G3 hr rfl g3 k3 b3 .nil pass0 (pa_cons (pe_ix ix_tup (pv 0) pe_int (fun _ _ => rfl)) (pa_cons pe_int (pa_cons (pe_glob (v := .int 6) rfl gM ⟨_, rfl⟩) pa_nil))))))))), ?_⟩
  refine ⟨_, rfl, t, _, 2, rfl, ht, rfl, true, rfl, iteT ⟨_, rfl, t, _, 0, .str z, rfl, rfl, SqT.of ht, rfl, z, rfl, hz, fun H1 s1 => ⟨true, rfl, iteT ?_⟩⟩⟩
  exact ⟨_, rfl, t, _, 1, .int n, rfl, rfl, SqT.of (s1 _ _ ht), rfl, n, 2, 6, rfl, n2, n6, hQ H1 s1⟩
theorem ok_stL (F : FnP K "stores_by" sStores f fd) : FnOk P w K mg b0 CX0 1 f fd ["names"] (spStL K) := by
  refine FunD.ok F scStores (fun vs H Q E h => ?_) (fun cv A ou s H vs Q E hr h => ?_)
  · obtain ⟨l, t1, t2, rfl, _⟩ := h
    rfl
  obtain ⟨l, t1, t2, rfl, hl, ⟨n1, n2⟩, hQ⟩ := h
  refine ⟨_, PSs.nox (pss_cons (ps_set (i := 1) scStores.nd rfl (Or.inl rfl) pe_int)
    (pss_cons (ps_for PassesOwn.never rfl (pi_list (pv 0)) (pg_tup rfl (pgs_cons (pg_name (i := 2) scStores.nd rfl (Or.inl rfl)) (pgs_cons (pg_name (i := 3) scStores.nd rfl (Or.inl rfl)) pgs_nil)))
      (pss_one (ps_set (i := 1) scStores.nd rfl (Or.inl rfl) (pe_op op_mul (pv 1) (pv 3)))))
    (pss_one (ps_ret (pv 1))))), ?_⟩
  refine ⟨_, rfl, l, rfl, ⟨_, hl⟩, for_list (xs := [V.ref t1, .ref t2]) (fun j σ H' => H' = H ∧ ∃ x2 x3, σ = [some (.ref l), some (.int (([1, 2, 6] : List Int).getD j 0)), x2, x3]) ⟨rfl, _, _, rfl⟩ (fun j σ H' _ z => by rw [z.1]; exact hl) ?_ ?_⟩
  · rintro j x σ J hx ⟨rfl, x2, x3, rfl⟩
    match j, hx with
    | 0, hx =>
      obtain rfl : V.ref t1 = x := Option.some.inj hx
      exact ⟨t1, _, rfl, SqT.of n1.1, rfl, _, _, rfl, _, _, rfl, rfl, _, rfl, _, rfl, _, _, rfl, rfl, .inl ⟨by decide, by decide⟩, rfl, _, _, rfl⟩
    | 1, hx =>
      obtain rfl : V.ref t2 = x := Option.some.inj hx
      exact ⟨t2, _, rfl, SqT.of n2.1, rfl, _, _, rfl, _, _, rfl, rfl, _, rfl, _, rfl, _, _, rfl, rfl, .inl ⟨by decide, by decide⟩, rfl, _, _, rfl⟩
  · rintro σ J ⟨rfl, x2, x3, rfl⟩
    exact ⟨_, rfl, hQ⟩
theorem ok_stT (F : FnP K "stores_by" sStores f fd) : FnOk P w K mg b0 CX0 1 f fd ["names"] (spStT K) := by
  refine FunD.ok F scStores (fun vs H Q E h => ?_) (fun cv A ou s H vs Q E hr h => ?_)
  · obtain ⟨l, t1, t2, rfl, _⟩ := h
    rfl
  obtain ⟨l, t1, t2, rfl, hl, ⟨n1, n2⟩, hQ⟩ := h
  refine ⟨_, PSs.nox (pss_cons (ps_set (i := 1) scStores.nd rfl (Or.inl rfl) pe_int)
    (pss_cons (ps_for PassesOwn.never rfl (pi_tup (pv 0)) (pg_tup rfl (pgs_cons (pg_name (i := 2) scStores.nd rfl (Or.inl rfl)) (pgs_cons (pg_name (i := 3) scStores.nd rfl (Or.inl rfl)) pgs_nil)))
      (pss_one (ps_set (i := 1) scStores.nd rfl (Or.inl rfl) (pe_op op_mul (pv 1) (pv 3)))))
    (pss_one (ps_ret (pv 1))))), ?_⟩
  refine ⟨_, rfl, l, rfl, ⟨_, hl⟩, for_tup (xs := [V.ref t1, .ref t2]) (fun j σ H' => H' = H ∧ ∃ x2 x3, σ = [some (.ref l), some (.int (([1, 2, 6] : List Int).getD j 0)), x2, x3]) ⟨rfl, _, _, rfl⟩ (fun j σ H' _ z => by rw [z.1]; exact hl) ?_ ?_⟩
  · rintro j x σ J hx ⟨rfl, x2, x3, rfl⟩
    match j, hx with
    | 0, hx =>
      obtain rfl : V.ref t1 = x := Option.some.inj hx
      exact ⟨t1, _, rfl, SqT.of n1.1, rfl, _, _, rfl, _, _, rfl, rfl, _, rfl, _, rfl, _, _, rfl, rfl, .inl ⟨by decide, by decide⟩, rfl, _, _, rfl⟩
    | 1, hx =>
      obtain rfl : V.ref t2 = x := Option.some.inj hx
      exact ⟨t2, _, rfl, SqT.of n2.1, rfl, _, _, rfl, _, _, rfl, rfl, _, rfl, _, rfl, _, _, rfl, rfl, .inl ⟨by decide, by decide⟩, rfl, _, _, rfl⟩
  · rintro σ J ⟨rfl, x2, x3, rfl⟩
    exact ⟨_, rfl, hQ⟩
theorem ok_names (F : FnP K "is_names" sNames f fd) (T : Txt K mg) (U : Txt2 K mg) (O1 : Df P w K mg b0 "is_name_with_size" 3 ["value"] spNws) (O2 : Df P w K mg b0 "stores_by" 1 ["names"] (spStL K)) : FnOk P w K mg b0 CX0 4 f fd ["value"] spNames := by
  obtain ⟨f1, d1, G1, b1, g1, k1⟩ := O1.m
  obtain ⟨f2, d2, G2, b2, g2, k2⟩ := O2.m
  obtain ⟨tm, gM⟩ := U.most
  refine FunD.ok F scNames (fun vs H Q E h => ?_) (fun cv A ou s H vs Q E hr h => ?_)
  · obtain ⟨l, t1, t2, rfl, _⟩ := h
    rfl
  obtain ⟨l, t1, t2, rfl, hl, tw, hQ⟩ := h
  have r1 := hr.mono (j := 1) (by decide)
  refine ⟨_, PSs.nox (pss_cons (ps_if (PW.pt (pw_or (pt_not (pt_val (pe_callB call_isiT rfl T.fisi (by decide +kernel) (pa_cons (pv 0) (pa_cons (pe_T (pa_cons (pe_bltn (v := .ty "list") (u := .type "list") rfl U.flst (by decide +kernel) rfl) (pa_cons (pe_bltn (v := .ty "tuple") (u := .type "tuple") rfl U.ftup (by decide +kernel) rfl) pa_nil))) pa_nil)))))
      (pw_or1 (pt_not (pt_chain op_le op_le pe_int (pe_callB call_len rfl T.flen boot_len (pa_cons (pv 0) pa_nil)) pe_int))))) (pss_one (ps_ret pe_bl)) pss_nil)
    (pss_cons (ps_if (pt_not (pt_val (pe_callB (cr_all rfl) rfl U.fall (by decide +kernel) (pa_cons (pe_lc (own := [("item", 1)]) (g := gName 1) (tt := tYes) (te := tCall spNws [] (fun _ _ _ => False) (tCons (tVar 1) tNil)) rfl scNames.nd
        (pi_list (pv 0)) (blkOk_by (own := [("item", 1)]) (N := ["value", "item"]) (sc := defScope sNames) (by decide +kernel)) (fun _ _ _ _ _ => pg_name (i := 1) scNames.nd rfl (Or.inl rfl)) (fun _ _ _ _ _ => pts_nil)
        (fun _ _ _ _ _ => pe_call G1 hr rfl g1 k1 b1 .nil pass0 (pa_cons (pv 1) pa_nil))) pa_nil)))) (pss_one (ps_ret pe_bl)) pss_nil)
    (pss_cons (ps_if (PW.pt (pw_and (pt_cmpR op_eq (pe_callB call_len rfl T.flen boot_len (pa_cons (pv 0) pa_nil)) pe_int (nomark _))
        (pw_and1 (pt_cmpR op_eq (pe_ix ix_tup (pe_ix ix_list (pv 0) pe_int (fun _ _ => rfl)) pe_int (fun _ _ => rfl)) (pe_ix ix_tup (pe_ix ix_list (pv 0) pe_int (fun _ _ => rfl)) pe_int (fun _ _ => rfl)) (nomark _))))) (pss_one (ps_ret pe_bl)) pss_nil)
    (pss_one (ps_ret (pe_cmpR op_le (pe_call G2 r1 rfl g2 k2 b2 .nil pass0 (pa_cons (pv 0) pa_nil)) (pe_glob (v := .int 6) rfl gM ⟨_, rfl⟩) (nomark _))))))), ?_⟩
  refine ⟨_, rfl, Nat.le_of_ble_eq_true rfl, fun tp H1 s1 n1 e1 => ?_⟩
  refine ⟨.ref l, tp, _, .type "list", [.type "list", .type "tuple"], true, rfl, e1, .cons (.ty _) (.cons (.ty _) .nil), .base (.lst (s1 _ _ hl)), kitAny_cons (b := true) (kit_ty (by decide +kernel)) (fun z => nomatch z) (fun _ => rfl), true, rfl, iteF ?_⟩
  refine ⟨_, rfl, _, 2, rfl, .inl ⟨_, SqL.of (s1 _ _ hl), rfl⟩, _, _, rfl, rfl, true, rfl, iteT ⟨_, _, rfl, rfl, _, rfl, ?_⟩⟩
  rw [show decide (((2 : Nat) : Int) ≤ 2) = true from by decide]
  refine iteF ?_
  have hl1 := s1 _ _ hl
  have tw1 := tw.same s1
  refine ⟨_, rfl, l, rfl, ⟨_, SqL.of hl1⟩, fun D hD => ?_⟩
  refine lc_list (xs := [V.ref t1, .ref t2]) (fun j H' => Same H1 H' ∧ H' D = some (.lst (List.replicate j (.bl true)))) ⟨same_new hD, upd_same⟩ (fun j H' _ z => SqL.of (z.1 _ _ hl1)) ?_ ?_
  · rintro j x J hx ⟨u1, d1⟩
    have it : ∃ t z n, x = .ref t ∧ NmS J t z n ∧ j < 2 := by
      match j, hx with
      | 0, hx =>
        obtain rfl : V.ref t1 = x := Option.some.inj hx
        exact ⟨t1, _, _, rfl, tw1.1.same u1, by decide⟩
      | 1, hx =>
        obtain rfl : V.ref t2 = x := Option.some.inj hx
        exact ⟨t2, _, _, rfl, tw1.2.same u1, by decide⟩
    obtain ⟨t, z, n, rfl, nm, j2⟩ := it
    refine ⟨rfl, ?_⟩
    unfold tYes
    refine iteT ⟨_, rfl, t, z, n, rfl, nm, fun J2 u2 => ⟨_, u2 _ _ d1, ?_, ?_, ?_⟩⟩
    · rw [List.length_replicate]
      exact Nat.lt_of_lt_of_le j2 (small (by decide))
    · exact fun q o e => by rw [upd_ne (ne_of_none e hD)]; exact u2 _ _ (u1 q o e)
    · rw [upd_same]
      exact congrArg (fun l => some (HO.lst l)) List.replicate_succ'.symm
  rintro J ⟨u1, d1⟩
  refine ⟨D, [true, true], rfl, SqL.of d1, true, rfl, iteF ?_⟩
  have hlJ := u1 _ _ hl1
  have twJ := tw1.same u1
  refine ⟨_, rfl, _, 2, rfl, .inl ⟨_, SqL.of hlJ, rfl⟩, rfl, true, rfl, iteT ?_⟩
  refine ⟨_, rfl, l, _, 0, _, rfl, rfl, SqL.of hlJ, rfl, t1, _, 0, _, rfl, rfl, SqT.of twJ.1.1, rfl, _, rfl, l, _, 1, _, rfl, rfl, SqL.of hlJ, rfl, t2, _, 0, _, rfl, rfl, SqT.of twJ.2.1, rfl, rfl, false, by decide +kernel, iteF ?_⟩
  refine ⟨_, rfl, l, t1, t2, rfl, SqL.of hlJ, twJ, _, _, rfl, rfl, ?_⟩
  exact hQ J (s1.trans u1)
end
end Kz

namespace Kz
open PySem PySem.Spec PyProof.Rows L2

/-! ### tuple(list), its object known; dict(x), x such a tuple of two pairs -/
theorem call_tupF {X : Cx} : CallR X (.type "tuple") (fun xs H Q => ∃ p ys, xs = [.ref p] ∧ SqL X.K H p ys ∧ ∀ l (o : Obj), o.dict = none → H l = none → Q (.ref l) (upd H l (.frz o (.tup ys)))) := by
  intro pins s σ H xs us Q I r h
  obtain ⟨p, ys, rfl, hq, q⟩ := h
  obtain ⟨u, rfl, rx⟩ := vals1 r
  cases rx
  obtain ⟨its, r', pl, hz⟩ := I.list hq
  have hlen := r'.length
  refine call_tuple_list pl.isList (fun h' kp => ?_) (by simp only [List.size_toArray] <;> omega)
  have J : Inv X pins σ H { s with heap := h' } := I.kept (t' := s.toks) kp
  have J2 : Inv X pins σ (upd H h'.objs.size (.frz { cls := .type "tuple", data := .seq its.toArray } (.tup ys))) { s with heap := h'.push { cls := .type "tuple", data := .seq its.toArray } } :=
    J.laid (t' := s.toks) (fun b o e => Heap.get?_push_of_some _ e) (Nat.le_refl _) ⟨Heap.get?_push_size _ rfl, hz, its, r', IsTup.new _ _⟩
  exact ⟨.ref h'.objs.size, _, J2, rfl, q _ _ rfl (J.hok.fresh (Nat.le_refl _))⟩
theorem call_dictT (X : Cx) (hc : X.calm = true) : CallR X (.type "dict") (rDictT X.K) := by
  intro pins s σ H xs us Q I r h
  obtain ⟨l, t1, t2, ol, rfl, hl, old, ⟨⟨h1, _⟩, ⟨h2, _⟩⟩, q⟩ := h
  obtain ⟨u, rfl, ru⟩ := vals1 r
  obtain rfl : u = Value.ref l := ru
  obtain ⟨g0, _, its, rv, o, ho, oc, n, od⟩ := (show ObjOk X.prog X.w H s.heap l (.frz ol (.tup [.ref t1, .ref t2])) from I.hok l _ hl)
  obtain ⟨_, i1, r1, p1⟩ := (show ObjOk X.prog X.w H s.heap t1 (.tup [.str "hp", .int 2]) from I.hok t1 _ h1)
  obtain ⟨_, i2, r2, p2⟩ := (show ObjOk X.prog X.w H s.heap t2 (.tup [.str "gold", .int 3]) from I.hok t2 _ h2)
  rw [g0] at ho
  obtain rfl := Option.some.inj ho
  obtain ⟨a1, a2, rfl, e1, e2⟩ := vals2 rv
  obtain rfl : a1 = Value.ref t1 := e1
  obtain rfl : a2 = Value.ref t2 := e2
  obtain ⟨k1, v1, rfl, rk1, rv1⟩ := vals2 r1
  obtain ⟨k2, v2, rfl, rk2, rv2⟩ := vals2 r2
  obtain ⟨s1, rfl⟩ := (show ∃ t, k1 = Value.str "hp" t from rk1)
  obtain ⟨s2, rfl⟩ := (show ∃ t, k2 = Value.str "gold" t from rk2)
  have hn : H s.heap.objs.size = none := I.hok.fresh (Nat.le_refl _)
  have P := PairArg.tuple (prog := X.prog) (w := X.w) l #[Value.ref t1, .ref t2] (fun j => if j = 0 then t1 else t2) [(.str "hp" s1, v1), (.str "gold" s2, v2)]
  refine PySem.call_dict_pairs (knd := mixKind X.prog X.w) (kvs := [(.inr "hp", v1), (.inr "gold", v2)]) P (I.ok.hd hc) ⟨⟨ol, n, g0, oc, old, od⟩, rfl, fun j k v hj => ?_⟩ ⟨rfl, fun j k v hj => ?_⟩ (by show 2 ≤ sizeLine; decide) fun h' tk hd' kp => ?_
  · match j, hj with
    | 0, hj =>
      cases hj
      exact ⟨rfl, .inl p1⟩
    | 1, hj =>
      cases hj
      exact ⟨rfl, .inl p2⟩
  · match j, hj with
    | 0, hj =>
      cases hj
      exact ⟨_, rfl, kV_is (P := X.prog) (w := X.w) (k := .inr "hp") ⟨s1, rfl⟩⟩
    | 1, hj =>
      cases hj
      exact ⟨_, rfl, kV_is (P := X.prog) (w := X.w) (k := .inr "gold") ⟨s2, rfl⟩⟩
  · have hm : (s.heap.objs.size == sysModules) = false := beq_eq_false_iff_ne.mpr (Nat.ne_of_gt I.big)
    have kv : KV [((.inr "hp" : Key), V.int 2), (.inr "gold", .int 3)] [(.inr "hp", v1), (.inr "gold", v2)] := .cons ⟨rfl, rv1⟩ (.cons ⟨rfl, rv2⟩ .nil)
    exact ⟨.ref s.heap.objs.size, upd H s.heap.objs.size (.dK (mergeK [] [(.inr "hp", .int 2), (.inr "gold", .int 3)])), I.laid (t' := tk) (fun b o e => kp b o (by simp) e) (Nat.le_refl _) ⟨by decide +kernel, hm, _, KV.merge kv .nil, hd'⟩, rfl, q _ _ hn⟩
end Kz

namespace Kz
open PySem PySem.Spec PyProof.Rows L2

section
variable {P : Program} {w : World} {K : PySem.W.Frag} {mg : Str → Option Value} {b0 : Heap} {f : Addr} {fd : FuncData}
theorem ok_spI (F : FunD K "__init__" "Space.__init__" (defArgs sSpI) (defBody sSpI) (defScope sSpI) [] [] f fd) (T : Txt K mg) (U : Txt2 K mg) (O1 : Df P w K mg b0 "is_names" 4 ["value"] spNames) (O2 : Df P w K mg b0 "stores_by" 1 ["names"] (spStT K)) :
    FnOk P w K mg b0 CX0 5 f fd ["self", "names"] (spSpI (He.ga K "Space")) := by
  obtain ⟨f1, d1, G1, b1, g1, k1⟩ := O1.m
  obtain ⟨f2, d2, G2, b2, g2, k2⟩ := O2.m
  refine FunD.ok F scSpI (fun vs H Q E h => ?_) (fun cv A ou s H vs Q E hr h => ?_)
  · obtain ⟨x, dx, l, t1, t2, rfl, _⟩ := h
    rfl
  obtain ⟨x, dx, l, t1, t2, rfl, hx, hl, h1, h2, hQ⟩ := h
  have r1 := hr.mono (j := 1) (by decide)
  have tw : Two H t1 t2 := ⟨⟨h1, word_hp, by decide, by decide⟩, ⟨h2, word_gold, by decide, by decide⟩⟩
  refine ⟨_, PSs.nox (pss_cons (ps_if (pt_not (pt_val (pe_call G1 hr rfl g1 k1 b1 .nil pass0 (pa_cons (pv 1) pa_nil)))) pss_never pss_nil)
    (pss_cons (ps_fld (pv 0) (pe_callTy call_tupF rfl U.ftup (by decide +kernel) (pa_cons (pv 1) pa_nil)) rfl)
    (pss_cons (ps_fld (pv 0) (pe_callTy (call_dictT _ rfl) rfl T.fdic (by decide +kernel) (pa_cons (pe_fld (pv 0) rfl) pa_nil)) rfl)
    (pss_one (ps_fld (pv 0) (pe_call G2 r1 rfl g2 k2 b2 .nil pass0 (pa_cons (pe_fld (pv 0) rfl) pa_nil)) rfl))))), ?_⟩
  have cl := U.cS.cl
  have n1 : NoAttr K (He.ga K "Space") "names" := U.cS.no _ (by decide)
  have n2 : NoAttr K (He.ga K "Space") "_sizes" := U.cS.no _ (by decide)
  have n3 : NoAttr K (He.ga K "Space") "never" := U.cS.no _ (by decide)
  refine ⟨_, rfl, l, t1, t2, rfl, hl, tw, fun H1 s1 => ⟨_, rfl, iteF ?_⟩⟩
  refine ⟨_, rfl, l, _, rfl, SqL.of (s1 _ _ hl), fun q oq oqd hq => ?_⟩
  have u1 := same_new (o := .frz oq (.tup [V.ref t1, .ref t2])) hq
  have eq : upd H1 q (.frz oq (.tup [V.ref t1, .ref t2])) q = some (.frz oq (.tup [V.ref t1, .ref t2])) := upd_same
  have sH := s1.trans u1
  generalize upd H1 q (.frz oq (.tup [V.ref t1, .ref t2])) = H2 at eq sH ⊢
  have hx2 := sH _ _ hx
  have tw2 := tw.same sH
  have xq : q ≠ x := fun z => by
    rw [z, hx2] at eq
    cases eq
  have x1 : t1 ≠ x := fun z => by
    have := tw2.1.1
    rw [z, hx2] at this
    cases this
  have x2 : t2 ≠ x := fun z => by
    have := tw2.2.1
    rw [z, hx2] at this
    cases this
  -- what stays whatever is put into x
  have two : ∀ {J : Hp} {o : HO}, Same H2 J → Two (upd J x o) t1 t2 := fun {J o} s => ⟨⟨by rw [upd_ne x1]; exact s _ _ tw2.1.1, tw2.1.2⟩, ⟨by rw [upd_ne x2]; exact s _ _ tw2.2.1, tw2.2.2⟩⟩
  refine ⟨_, rfl, x, _, dx, [], rfl, hx2, cl, n1, by decide, ?_⟩
  have e3 : upd H2 x (.ins (He.ga K "Space") dx (putF "names" (.ref q) [])) x = some (.ins (He.ga K "Space") dx [("names", .ref q)]) := upd_same
  have q3 : upd H2 x (.ins (He.ga K "Space") dx (putF "names" (.ref q) [])) q = some (.frz oq (.tup [V.ref t1, .ref t2])) := by rw [upd_ne xq]; exact eq
  have t3 : Two (upd H2 x (.ins (He.ga K "Space") dx (putF "names" (.ref q) []))) t1 t2 := two (Same.refl _)
  have v3 : ∀ b o, b ≠ x → H2 b = some o → upd H2 x (.ins (He.ga K "Space") dx (putF "names" (.ref q) [])) b = some o := fun b o nb z => by rw [upd_ne nb]; exact z
  generalize upd H2 x (.ins (He.ga K "Space") dx (putF "names" (.ref q) [])) = H3 at e3 q3 t3 v3 ⊢
  refine ⟨_, rfl, x, _, dx, _, .ref q, rfl, e3, cl, n1, rfl, q, t1, t2, oq, rfl, q3, oqd, t3, fun p o hp => ?_⟩
  have s4 := same_new (o := o) hp
  generalize upd H3 p o = H4 at s4 ⊢
  refine ⟨_, rfl, x, _, dx, _, rfl, s4 _ _ e3, cl, n2, Nat.le_of_ble_eq_true rfl, ?_⟩
  have e5 : upd H4 x (.ins (He.ga K "Space") dx (putF "_sizes" (.ref p) [("names", .ref q)])) x = some (.ins (He.ga K "Space") dx [("names", .ref q), ("_sizes", .ref p)]) := upd_same
  have q5 : upd H4 x (.ins (He.ga K "Space") dx (putF "_sizes" (.ref p) [("names", .ref q)])) q = some (.frz oq (.tup [V.ref t1, .ref t2])) := by rw [upd_ne xq]; exact s4 _ _ q3
  have t5 : Two (upd H4 x (.ins (He.ga K "Space") dx (putF "_sizes" (.ref p) [("names", .ref q)]))) t1 t2 := ⟨⟨by rw [upd_ne x1]; exact s4 _ _ t3.1.1, t3.1.2⟩, ⟨by rw [upd_ne x2]; exact s4 _ _ t3.2.1, t3.2.2⟩⟩
  have v5 : ∀ b o, b ≠ x → H4 b = some o → upd H4 x (.ins (He.ga K "Space") dx (putF "_sizes" (.ref p) [("names", .ref q)])) b = some o := fun b o nb z => by rw [upd_ne nb]; exact z
  generalize upd H4 x (.ins (He.ga K "Space") dx (putF "_sizes" (.ref p) [("names", .ref q)])) = H5 at e5 q5 t5 v5 ⊢
  refine ⟨_, rfl, x, _, dx, _, .ref q, rfl, e5, cl, n1, rfl, q, t1, t2, rfl, .inl (.inr ⟨_, q5⟩), t5, _, rfl, x, _, dx, _, rfl, e5, cl, n3, Nat.le_of_ble_eq_true rfl, ?_⟩
  refine hQ _ (fun b o nx nd z => ?_) ⟨dx, _, q, t1, t2, oq, upd_same, rfl, by rw [upd_ne xq]; exact q5, by rw [upd_ne x1]; exact t5.1.1, by rw [upd_ne x2]; exact t5.2.1⟩
  rw [upd_ne nx]
  exact v5 b o nx (s4 _ _ (v3 b o nx (sH _ _ z)))
theorem ok_spE (F : FunD K "__eq__" "Space.__eq__" (defArgs sSpE) (defBody sSpE) (defScope sSpE) [] [] f fd) (T : Txt K mg) (U : Txt2 K mg) : FnOk P w K mg b0 CX0 5 f fd ["self", "other"] (spEq (RSp (He.ga K "Space"))) := by
  refine FunD.ok F scSpE (fun vs H Q E h => ?_) (fun cv A ou s H vs Q E hr h => ?_)
  · obtain ⟨a, b, rfl, _⟩ := h
    rfl
  obtain ⟨a, b, rfl, ⟨rfl, sp⟩, hQ⟩ := h
  obtain ⟨dx, fs, p, t1, t2, o, h1, h2, h3, h4, h5⟩ := sp.m
  have cl := U.cS.cl
  have n1 : NoAttr K (He.ga K "Space") "names" := U.cS.no _ (by decide)
  refine ⟨_, PSs.nox (pss_one (ps_ret (pe_and (pe_callB call_isi rfl T.fisi (by decide +kernel) (pa_cons (pv 1) (pa_cons (pe_glob (v := .ref (He.ga K "Space")) rfl U.gS rfl) pa_nil)))
    (pe_one (pe_cmpR (op_eqD hr.units) (pe_fld (pv 0) rfl) (pe_fld (pv 1) rfl) (nomark _)))))), ?_⟩
  refine ⟨_, rfl, .ref a, .ref (He.ga K "Space"), .ref (He.ga K "Space"), .ref (He.ga K "Space"), true, rfl, .own _, U.cS.ty T.G h1, U.cS.kit, true, rfl, iteT ?_⟩
  have D : Dp K H (.ref p) (.tuple [.tuple [.str "hp", .int 2], .tuple [.str "gold", .int 3]]) := .tup (.inl (.inr ⟨o, h3⟩)) (.cons (.tup (SqT.of h4) (.cons (.str _) (.cons (.int _) .nil))) (.cons (.tup (SqT.of h5) (.cons (.str _) (.cons (.int _) .nil))) .nil))
  refine ⟨_, rfl, a, _, dx, fs, _, rfl, h1, cl, n1, h2, _, rfl, a, _, dx, fs, _, rfl, h1, cl, n1, h2, _, _, D, D, by decide +kernel, by decide +kernel, ?_⟩
  rw [show PyData.eqv (.tuple [.tuple [.str "hp", .int 2], .tuple [.str "gold", .int 3]]) (.tuple [.tuple [.str "hp", .int 2], .tuple [.str "gold", .int 3]]) = true from by decide +kernel]
  exact hQ H Ext.rfl'
end
end Kz

namespace Kz
open PySem PySem.Spec PyProof.Rows L2

/-! ### facts from what was looked at -/
section
variable {K : PySem.W.Frag}
theorem saysX_chk (c : SaysX K) : chk K = true := (He.ba (show (chk K && fnX.all fun d => d.ok K) = true from congrArg (fun z : He.AlD => z.1) c)).1
theorem defX (c : SaysX K) {d : He.DefD} (h : d ∈ fnX) : ∃ fd, FunD K d.name d.qual d.params d.body d.scope (d.dvs K) (d.kws K) (He.fAd K d.at_) fd := by
  have c2 := (He.ba (show (chk K && fnX.all fun d => d.ok K) = true from congrArg (fun z : He.AlD => z.1) c)).2
  have e : fnX.map (fun d => He.fnW K d.at_) = fnX.map He.DefD.val := congrArg (fun z : He.AlD => z.2) c
  obtain ⟨i, hi⟩ := List.getElem?_of_mem h
  have e2 : (fnX.map fun d => He.fnW K d.at_)[i]? = (fnX.map He.DefD.val)[i]? := by rw [e]
  rw [List.getElem?_map, List.getElem?_map, hi] at e2
  exact He.DefD.funD (Option.some.inj e2) (List.all_eq_true.mp c2 d h)
/-- what a class object of the package tells -/
structure ErCls (K : PySem.W.Frag) (C : Addr) : Prop where
  m : ∃ nm q N bs sn sub ab col dd k0 k1 k2 k3 k5, K.lookup C = some (excClassObj nm q C N bs [.ref (PEc K), .type "ValueError", .type "Exception", .type "BaseException", .type "object"] true sn sub ab col dd k0 k1 k2 k3 k5 "ValueError.__new__")
theorem oexB_ok {C : Addr} (h : oexB K C = true) : ErCls K C := by
  unfold oexB at h
  cases e : K.lookup C with
  | none =>
    rw [e] at h
    cases h
  | some o =>
    rw [e] at h
    obtain ⟨oc, od, dt, sl⟩ := o
    obtain ⟨h1, h2⟩ := He.ba h
    obtain ⟨h3, h4⟩ := He.ba h2
    obtain rfl : oc = .type "type" := of_decide_eq_true h1
    cases dt with
    | cls cd =>
      obtain ⟨name, bases, mro, ns, qn, hasDict, slotNames, subclasses, abstract, collection, hasDel⟩ := cd
      obtain ⟨m1, m2⟩ := He.ba h3
      obtain ⟨m3, m4⟩ := He.ba m2
      obtain rfl : mro = mroX K C := of_decide_eq_true m1
      obtain rfl : hasDict = true := m3
      obtain rfl : hasDel = false := by
        cases hasDel with
        | false => rfl
        | true => cases m4
      have hs : ∃ k0 k1 k2 k3 k5, sl = #[k0, k1, k2, k3, some (.builtin "ValueError.__new__"), k5] := by
        have h5 : (match sl.toList with
          | [_, _, _, _, some (.builtin n), _] => decide (n = "ValueError.__new__")
          | _ => false) = true := h4
        split at h5
        · rename_i a b c d n f hl
          obtain rfl : n = "ValueError.__new__" := of_decide_eq_true h5
          exact ⟨a, b, c, d, f, by rw [← Array.toArray_toList (xs := sl), hl]⟩
        · cases h5
      obtain ⟨k0, k1, k2, k3, k5, rfl⟩ := hs
      exact ⟨_, _, _, _, _, _, _, _, _, _, _, _, _, _, e⟩
    | _ => cases h3
theorem ErCls.cls {C : Addr} (x : ErCls K C) : (PySem.W.clsIn K C).isSome = true ∧ PySem.W.typeIn K (.ref C) = some (.type "type") ∧ PySem.W.hasDictIn K C = true ∧ ∀ b, PySem.W.mroIn K C b = some ((mroX K C).contains b) := by
  obtain ⟨nm, q, N, bs, sn, sub, ab, col, dd, k0, k1, k2, k3, k5, e⟩ := x.m
  refine ⟨?_, ?_, ?_, fun b => ?_⟩
  · unfold PySem.W.clsIn
    rw [e]
    rfl
  · show (K.lookup C).map (·.cls) = _
    rw [e]
    rfl
  · unfold PySem.W.hasDictIn PySem.W.clsIn
    rw [e]
    rfl
  · unfold PySem.W.mroIn PySem.W.clsIn
    rw [e]
    rfl
theorem pec_cls (h : pecB K = true) : (PySem.W.clsIn K (PEc K)).isSome = true ∧ PySem.W.typeIn K (.ref (PEc K)) = some (.type "type") ∧ PySem.W.mroIn K (PEc K) (.type "BaseException") = some true := by
  unfold pecB at h
  cases e : K.lookup (PEc K) with
  | none =>
    rw [e] at h
    cases h
  | some o =>
    rw [e] at h
    obtain ⟨oc, od, dt, sl⟩ := o
    obtain ⟨h1, h3⟩ := He.ba h
    obtain rfl : oc = .type "type" := of_decide_eq_true h1
    cases dt with
    | cls cd =>
      obtain ⟨name, bases, mro, ns, qn, hasDict, slotNames, subclasses, abstract, collection, hasDel⟩ := cd
      obtain rfl : mro = [.ref (PEc K), .type "ValueError", .type "Exception", .type "BaseException", .type "object"] := of_decide_eq_true h3
      refine ⟨?_, ?_, ?_⟩
      · unfold PySem.W.clsIn
        rw [e]
        rfl
      · show (K.lookup (PEc K)).map (·.cls) = _
        rw [e]
        rfl
      · unfold PySem.W.mroIn PySem.W.clsIn
        rw [e]
        rfl
    | _ => cases h3
theorem mroX_ref {C D : Addr} : (mroX K C).contains (.ref D) = (decide (D = C) || decide (D = PEc K)) := by
  rw [Bool.eq_iff_iff]
  simp [mroX]
end
end Kz

namespace Kz
open PySem PySem.Spec PyProof.Rows L2

section
variable {K : PySem.W.Frag} {h : Heap} {mg : Str → Option Value}
theorem ref_beq {a b : Addr} (n : a ≠ b) : (Value.ref a == Value.ref b) = false := by simp [n]
/-- the parts of chkC -/
structure Cls45 (K : PySem.W.Frag) : Prop where
  glo : ∀ i, i < 45 → (He.Fa.glo (cname i)).ok K = true
  ec : ∀ i, i < 45 → ecB K (Cl K i) = true
  pec : pecB K = true
  nd : (PEc K :: (List.range 45).map (Cl K)).Nodup
theorem cls45_of (c : chkC K = true) : Cls45 K := by
  obtain ⟨c1, c2⟩ := He.ba c
  obtain ⟨c3, c4⟩ := He.ba c2
  have a := fun i (hi : i < 45) => He.ba (List.all_eq_true.mp c1 i (List.mem_range.mpr hi))
  exact ⟨fun i hi => (a i hi).1, fun i hi => (a i hi).2, c3, of_decide_eq_true c4⟩
theorem Cls45.er (x : Cls45 K) {i : Nat} (hi : i < 45) : ErCls K (Cl K i) := oexB_ok (He.ba (x.ec i hi)).1
theorem Cls45.ne (x : Cls45 K) {i : Nat} (hi : i < 45) : Cl K i ≠ PEc K := fun z => (List.nodup_cons.mp x.nd).1 (List.mem_map.mpr ⟨i, List.mem_range.mpr hi, z⟩)
theorem Cls45.inj (x : Cls45 K) {i j : Nat} (hi : i < 45) (hj : j < 45) (e : Cl K i = Cl K j) : i = j := by
  have nd := (List.nodup_cons.mp x.nd).2
  have a1 : ((List.range 45).map (Cl K))[i]? = some (Cl K i) := by rw [List.getElem?_map, List.getElem?_range hi]; rfl
  have a2 : ((List.range 45).map (Cl K))[j]? = some (Cl K j) := by rw [List.getElem?_map, List.getElem?_range hj]; rfl
  exact (List.getElem?_inj (by rw [List.length_map, List.length_range]; exact hi) nd).mp (by rw [a1, a2, e])
theorem Cls45.kitCls (x : Cls45 K) {i j : Nat} (hi : i < 45) (hj : j < 45) : PySem.W.kitCls K (.ref (Cl K i)) (.ref (Cl K j)) = some (decide (i = j)) := by
  obtain ⟨a1, a2, _, _⟩ := (x.er hj).cls
  obtain ⟨_, _, _, b4⟩ := (x.er hi).cls
  show (if ((PySem.W.clsIn K (Cl K j)).isSome && PySem.W.typeIn K (.ref (Cl K j)) == some (.type "type")) = true then PySem.W.mroIn K (Cl K i) (.ref (Cl K j)) else none) = _
  rw [a1, a2, b4, mroX_ref, decide_eq_false (x.ne hj), Bool.or_false, if_pos (by simp)]
  refine congrArg some ?_
  by_cases c : i = j
  · subst c
    rw [decide_eq_true rfl, decide_eq_true rfl]
  · rw [decide_eq_false c, decide_eq_false fun z => c (x.inj hi hj z.symm)]
theorem Cls45.kit (x : Cls45 K) {i j : Nat} (hi : i < 45) (hj : j < 45) : PySem.W.kitOne K (.ref (Cl K i)) (.ref (Cl K j)) = some (decide (i = j)) := by
  unfold PySem.W.kitOne
  by_cases c : i = j
  · subst c
    rw [if_pos (by simp), decide_eq_true rfl]
  · rw [if_neg (by rw [ref_beq fun z => c (x.inj hi hj z)]; exact Bool.false_ne_true)]
    exact x.kitCls hi hj
theorem Cls45.kitP (x : Cls45 K) {i : Nat} (hi : i < 45) : PySem.W.kitCls K (.ref (Cl K i)) (.ref (PEc K)) = some true := by
  obtain ⟨a1, a2, _⟩ := pec_cls x.pec
  obtain ⟨_, _, _, b4⟩ := (x.er hi).cls
  show (if ((PySem.W.clsIn K (PEc K)).isSome && PySem.W.typeIn K (.ref (PEc K)) == some (.type "type")) = true then PySem.W.mroIn K (Cl K i) (.ref (PEc K)) else none) = _
  rw [a1, a2, b4, mroX_ref, decide_eq_true rfl, Bool.or_true, if_pos (by simp)]
theorem Cls45.exB (x : Cls45 K) {i : Nat} (hi : i < 45) : PySem.W.subIn K (.ref (Cl K i)) (.type "BaseException") = some true := by
  obtain ⟨_, _, _, b4⟩ := (x.er hi).cls
  show PySem.W.mroIn K (Cl K i) (.type "BaseException") = _
  rw [b4]
  rfl
theorem txt_of (X : K.In h) (G : h.Ns mainGlobals mg) (c : chk K = true) : Txt K mg := by
  obtain ⟨cA, c2⟩ := He.ba c
  obtain ⟨_, cC⟩ := He.ba c2
  have x := cls45_of cC
  obtain ⟨a1, cA⟩ := He.ba cA
  obtain ⟨a2, cA⟩ := He.ba cA
  obtain ⟨a3, cA⟩ := He.ba cA
  obtain ⟨a4, cA⟩ := He.ba cA
  obtain ⟨a5, cA⟩ := He.ba cA
  obtain ⟨a6, a7⟩ := He.ba cA
  obtain ⟨g1, g2⟩ := He.ba a2
  have fr : ∀ y, y ∈ frees → mg y = none := fun y hy => He.free_ok X G (List.all_eq_true.mp a3 y hy)
  refine {
    G := ⟨of_decide_eq_true g1, of_decide_eq_true g2⟩
    sd := ?_
    ec := fun i hi => ?_
    gc := fun i hi => He.glo_ok X G (x.glo i hi)
    kit := fun i j hi hj => x.kit hi hj
    kitP := fun i hi => ?_
    kitV := fun i hi => ?_
    gP := He.glo_ok X G a4
    nof := fun i hi f hf => ?_
    fisi := fr _ (by decide +kernel), flen := fr _ (by decide +kernel), fran := fr _ (by decide +kernel), frep := fr _ (by decide +kernel), fabs := fr _ (by decide +kernel), fint := fr _ (by decide +kernel)
    fsum := fr _ (by decide +kernel), fdic := fr _ (by decide +kernel), fmax := fr _ (by decide +kernel), fmin := fr _ (by decide +kernel), fval := fr _ (by decide +kernel)
    bare := fun i h1 h2 => List.all_eq_true.mp a7 i (by simp only [List.mem_cons, List.not_mem_nil, or_false]; omega)
    exmP := fun i hi => ?_
    exm := fun i j hi hj => ?_ }
  · unfold sdB at a1
    cases e : K.lookup sysModules with
    | none =>
      rw [e] at a1
      cases a1
    | some o =>
      rw [e] at a1
      exact ⟨o, e, of_decide_eq_true a1⟩
  · have er := x.er hi
    obtain ⟨t1, t2, t3, t4⟩ := er.cls
    obtain ⟨nm, q, N, bs, sn, sub, ab, col, dd, k0, k1, k2, k3, k5, e⟩ := er.m
    obtain ⟨_, e1⟩ := He.ba (x.ec i hi)
    obtain ⟨e2, e1⟩ := He.ba e1
    obtain ⟨e3, e1⟩ := He.ba e1
    obtain ⟨e4, e1⟩ := He.ba e1
    obtain ⟨e5, e6⟩ := He.ba e1
    exact ⟨⟨⟨nm, q, N, bs, _, sn, sub, ab, col, dd, k0, k1, k2, k3, k5, e, rfl⟩, He.eqO_ok e2, x.exB hi, t2, e3⟩, t3, He.eqO_ok e4, He.eqO_ok e5, He.eqO_ok e6, t1, by rw [t4]; rfl⟩
  · unfold PySem.W.kitOne
    rw [if_neg (by rw [ref_beq (x.ne hi)]; exact Bool.false_ne_true)]
    exact x.kitP hi
  · obtain ⟨_, _, _, b4⟩ := (x.er hi).cls
    unfold PySem.W.kitOne
    rw [if_neg (by exact Bool.false_ne_true)]
    show (if PySem.W.kitMeta "ValueError" = true then PySem.W.mroIn K (Cl K i) (.type "ValueError") else none) = _
    rw [if_pos (by decide +kernel), b4]
    rfl
  · have z := List.all_eq_true.mp a6 i (List.mem_range.mpr hi)
    obtain ⟨_, z⟩ := He.ba z
    obtain ⟨_, z⟩ := He.ba z
    exact He.eqO_ok (List.all_eq_true.mp z f hf)
  · unfold PySem.W.exmOne
    have e : PySem.W.subIn K (.ref (PEc K)) (.type "BaseException") = some true := (pec_cls x.pec).2.2
    rw [e, if_pos (by rfl)]
    exact x.kitP hi
  · unfold PySem.W.exmOne
    rw [x.exB hj, if_pos (by rfl)]
    exact x.kitCls hi hj
theorem ini_of (c : SaysX K) : ∀ i, i < 42 → ∃ fI fd, Ini K i fI fd := fun i hi => by
  obtain ⟨cA, _⟩ := He.ba (saysX_chk c)
  obtain ⟨_, cA⟩ := He.ba cA
  obtain ⟨_, cA⟩ := He.ba cA
  obtain ⟨_, cA⟩ := He.ba cA
  obtain ⟨_, cA⟩ := He.ba cA
  obtain ⟨_, cA⟩ := He.ba cA
  obtain ⟨a6, _⟩ := He.ba cA
  have z := List.all_eq_true.mp a6 i (List.mem_range.mpr hi)
  obtain ⟨z1, z⟩ := He.ba z
  obtain ⟨z2, _⟩ := He.ba z
  have hm : (⟨(cname i, some "__init__"), "__init__", cname i ++ ".__init__", defArgs (ini i), defBody (ini i), defScope (ini i), [], []⟩ : He.DefD) ∈ fnX := List.mem_append_right _ (List.mem_map.mpr ⟨i, List.mem_range.mpr hi, rfl⟩)
  obtain ⟨fd, F⟩ := defX c hm
  exact ⟨_, fd, F, He.eqO_ok z1, of_decide_eq_true z2⟩
end
end Kz

namespace Kz
open PySem PySem.Spec PyProof.Rows L2

/-! ### from the claim's caller to the law's def -/
theorem outerG {P : Program} {w : World} {K : PySem.W.Frag} {mg mb : Str → Option Value} {k : Nat} {fa a : Addr} {fd : FuncData} {x : Str} {sp : Sp} {s : Shared} {vs : List Value} {H : Hp}
    (KX : K.In s.heap) (hns : s.heap.Ns mainGlobals mg) (hb : s.heap.Ns builtinsNs mb) (hbb : ∀ y : Str, y ≠ "__name__" → mb y = bootBuiltins y) (hlim : s.heap.NoLimit) (hg : s.gens = #[])
    (ha : s.heap.get? a = some { cls := .type "list", data := .seq vs.toArray }) (hr : Room k callerA)
    (F : ∀ base : Heap, K.In base → base.Ns mainGlobals mg → FnG P w K mg base CX0 k fa fd [x] sp) (hbind : ∀ (s : Shared) (u : Value), BindsTo s fd ⟨[u], []⟩ [(x, u)])
    (hO : Only H) (hok : HOk P w H s.heap) (hA : ∀ b, H b ≠ none → b = a) (hK : H a ≠ none → K.lookup a = none) (hsp : sp [.ref a] H (fun v _ => v = .bl true) fun _ _ _ => False) :
    codeAny (model P w) callerA (.call (.ref fa) ⟨[.ref a], []⟩) (fun r s' => r = .ok (.ret (.bool true)) ∧ OldK s.heap s'.heap ∧ s'.os = s.os ∧ AllBare s'.gens) s := by
  have hid : ∀ {b : Addr} {o : Obj}, s.heap.get? b = some o → H b = none → (hidT s.heap H).get? b = some o := fun e n => hidT_get e n
  have free : ∀ {b : Addr} {o : Obj} {es : Array DictEntry} {ep : Nat}, s.heap.get? b = some o → o.data = .dict es ep → H b = none := fun {b o es ep} e d => by
    cases q : H b with
    | none => rfl
    | some u =>
      obtain rfl : b = a := hA b (by rw [q]; simp)
      rw [ha] at e
      cases e
      exact nomatch (show Data.seq vs.toArray _ = Data.dict es ep from d)
  have hide : ∀ {b : Addr} {m : Str → Option Value}, s.heap.Ns b m → (hidT s.heap H).Ns b m := fun {b m} ⟨o, es, ep, e, d, r⟩ => ⟨o, es, ep, hid e (free e d), d, r⟩
  have Kb : K.In (hidT s.heap H) := fun b o e => hid (KX b o e) (by
    cases q : H b with
    | none => rfl
    | some u =>
      obtain rfl : b = a := hA b (by rw [q]; simp)
      rw [hK (by rw [q]; simp)] at e
      cases e)
  have M : Mod K mg (hidT s.heap H) := ⟨Kb, hide hns, ⟨mb, hide hb, hbb⟩, hlim.elim fun mc z => ⟨mc, hide z.1, z.2⟩⟩
  have e0 : Env0 P w K mg (hidT s.heap H) callerA [] s H := ⟨rfl, M, fun b o e => of_hidT e, Nat.le_of_eq (hidT_size _ _), trivial, fun b z => absurd (show b ∈ ([] : List Addr) from z) (by simp), hok, .of_eq hg⟩
  refine codeAny_mono ((F _ Kb (hide hns)).runG callerA [] s H ⟨[.ref a], []⟩ [.ref a] [.ref a] _ _ rfl hr e0 (hbind s (.ref a)) (.cons rfl .nil) hsp) fun r s' z => ?_
  rcases r with ee | fl
  · exact z.elim
  · rcases fl with _ | _ | _ | u
    · exact z.elim
    · exact z.elim
    · exact z.elim
    · obtain ⟨v, H', os, bare, un, hok', r', q⟩ := z
      obtain rfl : v = .bl true := q
      obtain rfl : u = Value.bool true := r'
      refine ⟨rfl, OldK.of_keep fun b o e => ?_, os, bare⟩
      rcases hO b with n | ⟨ob, xs, f⟩
      · exact un.keep b o e n (fun y => absurd (show b ∈ ([] : List Addr) from y) (by simp)) (by simp)
      · obtain ⟨e1, _⟩ := hok b _ f
        obtain ⟨e2, _⟩ := hok' b _ (un.frzs b ob _ f)
        rw [e] at e1
        cases e1
        exact e2
theorem law_callG {P : Program} {w : World} {K : PySem.W.Frag} {mg mb : Str → Option Value} {k : Nat} {fa a : Addr} {fd : FuncData} {x : Str} {sp : Sp} {s : Shared} {vs : List Value} {ns : List Int}
    (KX : K.In s.heap) (hns : s.heap.Ns mainGlobals mg) (hb : s.heap.Ns builtinsNs mb) (hbb : ∀ y : Str, y ≠ "__name__" → mb y = bootBuiltins y) (hlim : s.heap.NoLimit) (hg : s.gens = #[])
    (ha : s.heap.get? a = some { cls := .type "list", data := .seq vs.toArray }) (hi : IntsAre vs ns) (hl : ns.length ≤ sizeLine) (hr : Room k callerA)
    (F : ∀ base : Heap, K.In base → base.Ns mainGlobals mg → FnG P w K mg base CX0 k fa fd [x] sp) (hbind : ∀ (s : Shared) (u : Value), BindsTo s fd ⟨[u], []⟩ [(x, u)])
    (hsp : ∀ H : Hp, SqL K H a (ns.map V.int) → sp [.ref a] H (fun v _ => v = .bl true) fun _ _ _ => False) :
    codeAny (model P w) callerA (.call (.ref fa) ⟨[.ref a], []⟩) (fun r s' => r = .ok (.ret (.bool true)) ∧ OldK s.heap s'.heap ∧ s'.os = s.os ∧ AllBare s'.gens) s := by
  have rv := vals_ints hi
  have lv := hi.length
  cases hk : K.lookup a with
  | some o =>
    have e := KX a o hk
    rw [ha] at e
    cases e
    refine outerG (H := fun _ => none) KX hns hb hbb hlim hg ha hr F hbind (fun _ => .inl rfl) (fun b u z => nomatch (show (none : Option HO) = some u from z)) (fun b z => absurd rfl z) (fun z => absurd rfl z) (hsp _ (.inr ⟨_, vs.toArray, _, hk, rfl, rfl, rfl, by rw [List.size_toArray, lv]; exact hl, by simpa using rv⟩))
  | none =>
    refine outerG (H := fun b => if b = a then some (.frz { cls := .type "list", data := .seq vs.toArray } (.lst (ns.map V.int))) else none) KX hns hb hbb hlim hg ha hr F hbind (fun b => ?_) (fun b u z => ?_) (fun b z => ?_) (fun _ => hk) (hsp _ (.inl (.inr ⟨{ cls := .type "list", data := .seq vs.toArray }, if_pos rfl⟩)))
    · by_cases c : b = a
      · exact .inr ⟨_, _, if_pos c⟩
      · exact .inl (if_neg c)
    · by_cases c : b = a
      · cases (if_pos c).symm.trans z
        subst c
        exact ⟨ha, by rw [List.length_map]; exact hl, vs, _, rv, ha⟩
      · cases (if_neg c).symm.trans z
    · by_cases c : b = a
      · exact c
      · exact absurd (if_neg c) z
end Kz

namespace Kz
open PySem PySem.Spec PyProof.Rows L2

section
variable {K : PySem.W.Frag} {h : Heap} {mg : Str → Option Value}
structure PlX (K : PySem.W.Frag) (x : Str) (fs : List Str) : Prop where
  glo : (He.Fa.glo x).ok K = true
  mkr : Mk K (He.ga K x) (He.ma K (He.ga K x) "__init__")
  pl : PlC K (He.ga K x) fs
  eq : PySem.W.findIn K (.ref (He.ga K x)) "__eq__" = some (some (.ref (He.ma K (He.ga K x) "__eq__")))
  fn : PySem.W.isFn K (.ref (He.ma K (He.ga K x) "__eq__")) = true
theorem plX_of {x : Str} {fs : List Str} (c : plB K x fs = true) : PlX K x fs := by
  obtain ⟨c1, c⟩ := He.ba c
  obtain ⟨c2, c⟩ := He.ba c
  obtain ⟨c3, c⟩ := He.ba c
  obtain ⟨c4, c⟩ := He.ba c
  obtain ⟨c5, c⟩ := He.ba c
  obtain ⟨c6, c⟩ := He.ba c
  obtain ⟨c7, c⟩ := He.ba c
  obtain ⟨c8, c9⟩ := He.ba c
  exact ⟨c1, He.mkr_ok c3, ⟨He.cls_ok c2, fun f hf => He.noat_ok (List.all_eq_true.mp c4 f hf), He.eqO_ok c5, of_decide_eq_true c6, of_decide_eq_true c7⟩, He.eqO_ok c8, c9⟩
theorem txt2_of (X : K.In h) (G : h.Ns mainGlobals mg) (c : chk K = true) : Txt2 K mg ∧ PlX K "Space" ["names", "_sizes", "never"] ∧ PlX K "Ratio" ["top", "bottom"] := by
  obtain ⟨cA, c2⟩ := He.ba c
  obtain ⟨cB, _⟩ := He.ba c2
  obtain ⟨_, cA⟩ := He.ba cA
  obtain ⟨_, cA⟩ := He.ba cA
  obtain ⟨a3, _⟩ := He.ba cA
  have fr : ∀ y, y ∈ frees → mg y = none := fun y hy => He.free_ok X G (List.all_eq_true.mp a3 y hy)
  obtain ⟨b1, cB⟩ := He.ba cB
  obtain ⟨b2, cB⟩ := He.ba cB
  obtain ⟨b4, cB⟩ := He.ba cB
  obtain ⟨b5, cB⟩ := He.ba cB
  obtain ⟨b6, cB⟩ := He.ba cB
  obtain ⟨b7, b8⟩ := He.ba cB
  have pS := plX_of b7
  have pR := plX_of b8
  have tk : ∀ H, SqT K H (He.ga K "TAKEN") (takenV.map V.str) := fun H => by
    have z := He.tupB_ok b5 H
    rw [List.map_map] at z
    exact z
  exact ⟨⟨fr _ (by decide +kernel), fr _ (by decide +kernel), fr _ (by decide +kernel), fr _ (by decide +kernel), fr _ (by decide +kernel), He.int_ok X G b1, He.int_ok X G b2, ⟨_, He.glo_ok X G b4, tk⟩, PySem.W.mg_of X G (He.eqO_ok b6),
    He.glo_ok X G pS.glo, He.glo_ok X G pR.glo, pS.pl, pR.pl⟩, pS, pR⟩
theorem glo_fn (X : K.In h) (G : h.Ns mainGlobals mg) (c : chk K = true) {x : Str} {i : Nat} (hm : dfn x i ∈ fnA) : mg x = some (.ref (He.ga K x)) := by
  obtain ⟨cA, _⟩ := He.ba c
  obtain ⟨_, cA⟩ := He.ba cA
  obtain ⟨_, cA⟩ := He.ba cA
  obtain ⟨_, cA⟩ := He.ba cA
  obtain ⟨_, cA⟩ := He.ba cA
  obtain ⟨a5, _⟩ := He.ba cA
  exact He.glo_ok X G (List.all_eq_true.mp a5 _ hm)
/-- a def of the text, by its name -/
theorem fnP_of (c : SaysX K) {x : Str} {i : Nat} (hm : dfn x i ∈ fnA) : ∃ fd, FnP K x (top i) (He.ga K x) fd := defX c (List.mem_append_left _ (List.mem_append_left _ hm))
theorem meF_of (c : SaysX K) {C m : Str} {s : Stmt} {ds : List He.Dv} (hm : dme C m s ds ∈ fnB) : ∃ fd, FunD K m (C ++ "." ++ m) (defArgs s) (defBody s) (defScope s) (ds.map (He.Dv.v K)) [] (He.ma K (He.ga K C) m) fd := defX c (List.mem_append_left _ (List.mem_append_right _ hm))
end
section
variable {P : Program} {w : World} {K : PySem.W.Frag} {mg : Str → Option Value} {b0 : Heap}
theorem df1 {x : Str} {st : Stmt} {n : Nat} {p : Str} {sp : Sp} {f : Addr} {fd : FuncData} (F : FnP K x st f fd) (g : mg x = some (.ref f)) (O : FnOk P w K mg b0 CX0 n f fd [p] sp)
    (hb : ∀ (kV doc pm : Value) (an : Option Addr) (cdv ct : Value) (us : List Value), us.length = [p].length → bindArgs (PySem.W.fnOf x x (defArgs st) (defBody st) (defScope st) .none kV doc pm an cdv ct) ⟨us, []⟩ = pure ([p].zip us)) : Df P w K mg b0 x n [p] sp :=
  ⟨f, fd, O, F.bindsN hb, g, F.kp⟩
end
end Kz

namespace Kz
open PySem PySem.Spec PyProof.Rows L2

section
variable {P : Program} {w : World} {K : PySem.W.Frag} {h : Heap} {mg : Str → Option Value}
theorem law_of (X : K.In h) (G : h.Ns mainGlobals mg) (c : SaysX K) : ∃ fd : FuncData, (∀ (s : Shared) (u : Value), BindsTo s fd ⟨[u], []⟩ [("script", u)]) ∧ ∀ base : Heap, FnG P w K mg base CX0 7 (He.ga K "law") fd ["script"] (spLaw K) := by
  have cc := saysX_chk c
  have T := txt_of X G cc
  obtain ⟨U, pS, pR⟩ := txt2_of X G cc
  have J := ini_of c
  have m50 : dfn "is_whole" 50 ∈ fnA := List.mem_of_getElem? (i := 0) rfl
  obtain ⟨d50, F50⟩ := fnP_of c m50
  have g50 := glo_fn X G cc m50
  have b50 : Binds K d50 ["value"] [] := F50.bindsN fun _ _ _ _ _ _ us hl => match us, hl with | [_], _ => rfl
  have m51 : dfn "is_within" 51 ∈ fnA := List.mem_of_getElem? (i := 1) rfl
  obtain ⟨d51, F51⟩ := fnP_of c m51
  have g51 := glo_fn X G cc m51
  have b51 : Binds K d51 ["value", "low", "high"] [] := F51.bindsN fun _ _ _ _ _ _ us hl => match us, hl with | [_, _, _], _ => rfl
  have m52 : dfn "is_tuple_of" 52 ∈ fnA := List.mem_of_getElem? (i := 2) rfl
  obtain ⟨d52, F52⟩ := fnP_of c m52
  have g52 := glo_fn X G cc m52
  have b52 : Binds K d52 ["value", "many"] [] := F52.bindsN fun _ _ _ _ _ _ us hl => match us, hl with | [_, _], _ => rfl
  have m62 : dfn "is_word" 61 ∈ fnA := List.mem_of_getElem? (i := 3) rfl
  obtain ⟨d62, F62⟩ := fnP_of c m62
  have g62 := glo_fn X G cc m62
  have b62 : Binds K d62 ["value"] [] := F62.bindsN fun _ _ _ _ _ _ us hl => match us, hl with | [_], _ => rfl
  have m63 : dfn "is_name_with_size" 62 ∈ fnA := List.mem_of_getElem? (i := 4) rfl
  obtain ⟨d63, F63⟩ := fnP_of c m63
  have g63 := glo_fn X G cc m63
  have b63 : Binds K d63 ["value"] [] := F63.bindsN fun _ _ _ _ _ _ us hl => match us, hl with | [_], _ => rfl
  have m64 : dfn "is_names" 63 ∈ fnA := List.mem_of_getElem? (i := 5) rfl
  obtain ⟨d64, F64⟩ := fnP_of c m64
  have g64 := glo_fn X G cc m64
  have b64 : Binds K d64 ["value"] [] := F64.bindsN fun _ _ _ _ _ _ us hl => match us, hl with | [_], _ => rfl
  have m65 : dfn "stores_by" 64 ∈ fnA := List.mem_of_getElem? (i := 6) rfl
  obtain ⟨d65, F65⟩ := fnP_of c m65
  have g65 := glo_fn X G cc m65
  have b65 : Binds K d65 ["names"] [] := F65.bindsN fun _ _ _ _ _ _ us hl => match us, hl with | [_], _ => rfl
  have m67 : dfn "_law_cell" 66 ∈ fnA := List.mem_of_getElem? (i := 7) rfl
  obtain ⟨d67, F67⟩ := fnP_of c m67
  have g67 := glo_fn X G cc m67
  have b67 : Binds K d67 ["script", "k"] [] := F67.bindsN fun _ _ _ _ _ _ us hl => match us, hl with | [_, _], _ => rfl
  have m68 : dfn "_law_box" 67 ∈ fnA := List.mem_of_getElem? (i := 8) rfl
  obtain ⟨d68, F68⟩ := fnP_of c m68
  have g68 := glo_fn X G cc m68
  have b68 : Binds K d68 ["great"] [] := F68.bindsN fun _ _ _ _ _ _ us hl => match us, hl with | [_], _ => rfl
  have m69 : dfn "_law_take" 68 ∈ fnA := List.mem_of_getElem? (i := 9) rfl
  obtain ⟨d69, F69⟩ := fnP_of c m69
  have g69 := glo_fn X G cc m69
  have b69 : Binds K d69 ["box", "many"] [] := F69.bindsN fun _ _ _ _ _ _ us hl => match us, hl with | [_, _], _ => rfl
  have m70 : dfn "_law_by_place" 69 ∈ fnA := List.mem_of_getElem? (i := 10) rfl
  obtain ⟨d70, F70⟩ := fnP_of c m70
  have g70 := glo_fn X G cc m70
  have b70 : Binds K d70 ["thing"] [] := F70.bindsN fun _ _ _ _ _ _ us hl => match us, hl with | [_], _ => rfl
  have m71 : dfn "_law_by_name" 70 ∈ fnA := List.mem_of_getElem? (i := 11) rfl
  obtain ⟨d71, F71⟩ := fnP_of c m71
  have g71 := glo_fn X G cc m71
  have b71 : Binds K d71 ["thing"] [] := F71.bindsN fun _ _ _ _ _ _ us hl => match us, hl with | [_], _ => rfl
  have m72 : dfn "_law_several" 71 ∈ fnA := List.mem_of_getElem? (i := 12) rfl
  obtain ⟨d72, F72⟩ := fnP_of c m72
  have g72 := glo_fn X G cc m72
  have b72 : Binds K d72 ["one", "two", "three", "four", "five", "way"] [] := F72.bindsN fun _ _ _ _ _ _ us hl => match us, hl with | [_, _, _, _, _, _], _ => rfl
  have m73 : dfn "_law_sorts" 72 ∈ fnA := List.mem_of_getElem? (i := 13) rfl
  obtain ⟨d73, F73⟩ := fnP_of c m73
  have g73 := glo_fn X G cc m73
  have b73 : Binds K d73 ["e"] [] := F73.bindsN fun _ _ _ _ _ _ us hl => match us, hl with | [_], _ => rfl
  have m74 : dfn "_law_kept" 73 ∈ fnA := List.mem_of_getElem? (i := 14) rfl
  obtain ⟨d74, F74⟩ := fnP_of c m74
  have g74 := glo_fn X G cc m74
  have b74 : Binds K d74 ["e"] [] := F74.bindsN fun _ _ _ _ _ _ us hl => match us, hl with | [_], _ => rfl
  have m75 : dfn "_law_is" 74 ∈ fnA := List.mem_of_getElem? (i := 15) rfl
  obtain ⟨d75, F75⟩ := fnP_of c m75
  have g75 := glo_fn X G cc m75
  have b75 : Binds K d75 ["e", "spot"] [] := F75.bindsN fun _ _ _ _ _ _ us hl => match us, hl with | [_, _], _ => rfl
  have m76 : dfn "_law_thing" 75 ∈ fnA := List.mem_of_getElem? (i := 16) rfl
  obtain ⟨d76, F76⟩ := fnP_of c m76
  have g76 := glo_fn X G cc m76
  have b76 : Binds K d76 ["box"] [] := F76.bindsN fun _ _ _ _ _ _ us hl => match us, hl with | [_], _ => rfl
  have m77 : dfn "_law_all_right" 76 ∈ fnA := List.mem_of_getElem? (i := 17) rfl
  obtain ⟨d77, F77⟩ := fnP_of c m77
  have g77 := glo_fn X G cc m77
  have b77 : Binds K d77 ["box"] [] := F77.bindsN fun _ _ _ _ _ _ us hl => match us, hl with | [_], _ => rfl
  have m78 : dfn "_law_raised" 77 ∈ fnA := List.mem_of_getElem? (i := 18) rfl
  obtain ⟨d78, F78⟩ := fnP_of c m78
  have g78 := glo_fn X G cc m78
  have b78 : Binds K d78 ["way", "thing"] [] := F78.bindsN fun _ _ _ _ _ _ us hl => match us, hl with | [_, _], _ => rfl
  have m79 : dfn "_law_caught" 78 ∈ fnA := List.mem_of_getElem? (i := 19) rfl
  obtain ⟨d79, F79⟩ := fnP_of c m79
  have g79 := glo_fn X G cc m79
  have b79 : Binds K d79 ["box", "thing"] [] := F79.bindsN fun _ _ _ _ _ _ us hl => match us, hl with | [_, _], _ => rfl
  have m80 : dfn "law" 79 ∈ fnA := List.mem_of_getElem? (i := 20) rfl
  obtain ⟨d80, F80⟩ := fnP_of c m80
  have g80 := glo_fn X G cc m80
  obtain ⟨dRI, FRI⟩ := meF_of c (C := "Ratio") (m := "__init__") (s := sRaI) (ds := [.int 1]) (List.mem_of_getElem? (i := 0) rfl)
  obtain ⟨dRE, FRE⟩ := meF_of c (C := "Ratio") (m := "__eq__") (s := sRaE) (ds := []) (List.mem_of_getElem? (i := 1) rfl)
  obtain ⟨dSI, FSI⟩ := meF_of c (C := "Space") (m := "__init__") (s := sSpI) (ds := []) (List.mem_of_getElem? (i := 2) rfl)
  obtain ⟨dSE, FSE⟩ := meF_of c (C := "Space") (m := "__eq__") (s := sSpE) (ds := []) (List.mem_of_getElem? (i := 3) rfl)
  have bRI : Binds K dRI ["self", "top", "bottom"] [] := by
    obtain ⟨ds, v, b⟩ := FunD.binds1 (ps := ["self", "top", "bottom"]) FRI 3 1 (by simp) rfl (fun T kV doc pm an cdv ct us its l1 l2 => match us, its, l1, l2 with | [_, _, _], [_], _, _ => ⟨_, rfl, rfl⟩)
    cases v
    exact b
  have bRE : Binds K dRE ["self", "other"] [] := FunD.bindsN FRE fun _ _ _ _ _ _ us hl => match us, hl with | [_, _], _ => rfl
  have bSI : Binds K dSI ["self", "names"] [] := FunD.bindsN FSI fun _ _ _ _ _ _ us hl => match us, hl with | [_, _], _ => rfl
  have bSE : Binds K dSE ["self", "other"] [] := FunD.bindsN FSE fun _ _ _ _ _ _ us hl => match us, hl with | [_, _], _ => rfl
  refine ⟨d80, fun s u => FunD.bindsA (ps := ["script"]) F80 (fun _ _ _ _ _ _ us hl => match us, hl with | [_], _ => rfl) s [u] rfl, fun base => ?_⟩
  have M1 := mk1_all (P := P) (w := w) (mg := mg) (b0 := base) J T
  have MN := mkN_all (P := P) (w := w) (mg := mg) (b0 := base) J T
  have O50 : Df P w K mg base "is_whole" 1 ["value"] spWhole := ⟨_, d50, ok_whole F50 T U, b50, g50, F50.kp⟩
  have O51 : Df P w K mg base "is_within" 2 ["value", "low", "high"] spWithin := ⟨_, d51, ok_within F51 O50, b51, g51, F51.kp⟩
  have O52 : Df P w K mg base "is_tuple_of" 1 ["value", "many"] spTupOf := ⟨_, d52, ok_tupOf F52 T U, b52, g52, F52.kp⟩
  have O62 : Df P w K mg base "is_word" 1 ["value"] spWord := ⟨_, d62, ok_word F62 T U, b62, g62, F62.kp⟩
  have O63 : Df P w K mg base "is_name_with_size" 3 ["value"] spNws := ⟨_, d63, ok_nws F63 U O52 O62 O51, b63, g63, F63.kp⟩
  have O65L : Df P w K mg base "stores_by" 1 ["names"] (spStL K) := ⟨_, d65, ok_stL F65, b65, g65, F65.kp⟩
  have O65T : Df P w K mg base "stores_by" 1 ["names"] (spStT K) := ⟨_, d65, ok_stT F65, b65, g65, F65.kp⟩
  have O64 : Df P w K mg base "is_names" 4 ["value"] spNames := ⟨_, d64, ok_names F64 T U O63 O65L, b64, g64, F64.kp⟩
  have OR : OwnC P w K mg base "Ratio" 3 ["self", "top", "bottom"] spRaI RRa := ⟨_, _, dRI, _, dRE, U.gR, pR.mkr, ok_raI FRI T U O50, bRI, ok_raE FRE T U, pR.eq, pR.fn, bRE⟩
  have OS : OwnC P w K mg base "Space" 5 ["self", "names"] spSpI RSp := ⟨_, _, dSI, _, dSE, U.gS, pS.mkr, ok_spI FSI T U O64 O65T, bSI, ok_spE FSE T U, pS.eq, pS.fn, bSE⟩
  have O67 : Df P w K mg base "_law_cell" 1 ["script", "k"] (spCell K) := ⟨_, d67, ok_cell F67 T, b67, g67, F67.kp⟩
  have O68 : Df P w K mg base "_law_box" 1 ["great"] spBox := ⟨_, d68, ok_box F68 T, b68, g68, F68.kp⟩
  have O69 : Df P w K mg base "_law_take" 1 ["box", "many"] spTake := ⟨_, d69, ok_take F69 T, b69, g69, F69.kp⟩
  have O70 : Df P w K mg base "_law_by_place" 3 ["thing"] (spPlace K) := ⟨_, d70, ok_Place F70 T M1, b70, g70, F70.kp⟩
  have O71 : Df P w K mg base "_law_by_name" 3 ["thing"] (spPlace K) := ⟨_, d71, ok_ByName F71 T M1, b71, g71, F71.kp⟩
  have O72 : Df P w K mg base "_law_several" 3 ["one", "two", "three", "four", "five", "way"] (spSev K) := ⟨_, d72, ok_sev F72 T MN, b72, g72, F72.kp⟩
  have O74 : Df P w K mg base "_law_kept" 1 ["e"] (spKept K) := ⟨_, d74, ok_kept F74 T, b74, g74, F74.kp⟩
  have O75 : Df P w K mg base "_law_is" 2 ["e", "spot"] (spIs K) := ⟨_, d75, ok_is F75 T F73 g73, b75, g75, F75.kp⟩
  have O76 : Df P w K mg base "_law_thing" 2 ["box"] spThing := ⟨_, d76, ok_thing F76 T F69 g69, b76, g76, F76.kp⟩
  have O77 : DfG P w K mg base "_law_all_right" 4 ["box"] spRight := ⟨_, d77, ok_right F77 T O76 O70 O71 O72 O75 O74, b77, g77, F77.kp⟩
  have X74 : DfX P w K mg base "_law_kept" 1 ["e"] (spKeptX K) := ⟨_, d74, okX_kept F74 T, b74, g74, F74.kp⟩
  have X75 : DfX P w K mg base "_law_is" 2 ["e", "spot"] (spIsX K) := ⟨_, d75, okX_is F75 T F73 g73, b75, g75, F75.kp⟩
  have O79 : DfG P w K mg base "_law_caught" 4 ["box", "thing"] spCaught := ⟨_, d79, ok_caught F79 T O69 _ d78 (ok_raised F78 T M1 MN) b78 g78 F78.kp X75 X74, b79, g79, F79.kp⟩
  exact ok_law F80 T O67 O68 O76 O70 O71 O72 O75 O74 O77 O79 (M1 12 (by decide)) (MN 38 (by decide) (by decide)) OS OR
end
end Kz

namespace Kz
open PySem PySem.Spec PyProof.Rows L2
theorem walk_ofG {l : PySem.W.OpenLaw} {n k : Nat} {q : Program} {loose : List Str} {XP : (Str → Option Value) → Heap → Prop} {YP : World → Heap → Prop} {d : DefRec} {x : Str}
    (hn : l.most = some n) (hn2 : n ≤ sizeLine) (hdf : d.params.defaults = []) (hr : Room k callerA)
    (F : ∀ (w : World) (mg : Str → Option Value) (fa : Addr) (h : Heap), YP w h → h.Ns mainGlobals mg → mg d.name = some (.ref fa) →
      ∃ (K : PySem.W.Frag) (fd : FuncData) (sp : Sp), K.In h ∧ (∀ (s : Shared) (u : Value), BindsTo s fd ⟨[u], []⟩ [(x, u)]) ∧
        (∀ (H : Hp) (a : Addr) (ns : List Int), SqL K H a (ns.map V.int) → sp [.ref a] H (fun v _ => v = .bl true) fun _ _ _ => False) ∧
        ∀ base : Heap, K.In base → base.Ns mainGlobals mg → FnG l.prog w K mg base CX0 k fa fd [x] sp) :
    PySem.W.WalkO q loose XP YP l.row.toRowW d [] (fun f vs => PySem.call f vs) := by
  refine Att.attach_call hn hdf fun w s₀ s₁ mg mb fa o pm cd doc a vs ns G Y ho hd hcd hmg hobj hints hlen hg => ?_
  obtain ⟨K, fd, sp, KX, hb, hsp, hF⟩ := F w mg fa _ Y G.T.g hmg
  exact law_callG KX G.T.g G.T.b G.T.builtins G.T.nolimit hg hobj hints (Nat.le_trans hlen hn2) hr hF hb (fun H hS => hsp H a ns hS)
end Kz

namespace Kz
open PySem PySem.Spec PyProof.Rows L2
noncomputable def wholeX (w : World) := HandSHeadRun.wholeF (fun p => HandSHeadRun.stepQ (HandSHeadRun.denQ HandSHeadRun.tabQ) p w) HandSHeadRun.fenceQ 20000 RW.prog
theorem runs_join {w : World} (h0 : HandSHeadRun.RunEqI RW (PySem.W.view RW.prog [0, 79]) PySem.W.Hook.none (fun _ => ()) 20000 loose w) (hA : (wholeX w).map (fun x => chkA (KofG (HandSHeadRun.getT x.2))) = some true) (hB : (wholeX w).map (fun x => chkB (KofG (HandSHeadRun.getT x.2))) = some true)
    (hC : (wholeX w).map (fun x => chkC (KofG (HandSHeadRun.getT x.2))) = some true) (hD : (wholeX w).map (fun x => fnX.all fun d => d.ok (KofG (HandSHeadRun.getT x.2))) = some true) (hE : (wholeX w).map (fun x => fnX.map fun d => He.fnW (KofG (HandSHeadRun.getT x.2)) d.at_) = some (fnX.map He.DefD.val)) :
    HandSHeadRun.RunEqI RW (PySem.W.view RW.prog [0, 79]) hookX obT 20000 loose w := by
  unfold HandSHeadRun.RunEqI at h0 ⊢
  change Option.map _ (wholeX w) = _ at h0
  change Option.map _ (wholeX w) = _
  cases e : wholeX w with
  | none =>
    rw [e] at hA
    cases hA
  | some x =>
    rw [e] at hA hB hC hD hE h0
    have a : chkA (KofG (HandSHeadRun.getT x.2)) = true := Option.some.inj hA
    have b : chkB (KofG (HandSHeadRun.getT x.2)) = true := Option.some.inj hB
    have c : chkC (KofG (HandSHeadRun.getT x.2)) = true := Option.some.inj hC
    have d : (fnX.all fun d => d.ok (KofG (HandSHeadRun.getT x.2))) = true := Option.some.inj hD
    have f := Option.some.inj hE
    have z := Option.some.inj h0
    have z1 := congrArg (fun t => t.1) z
    have z2 := congrArg (fun t => t.2.1) z
    refine congrArg some (Prod.ext z1 (Prod.ext z2 ?_))
    show obK (KofG (HandSHeadRun.getT x.2)) = He.valD fnX
    have k : chk (KofG (HandSHeadRun.getT x.2)) = true := by
      show (chkA (KofG (HandSHeadRun.getT x.2)) && (chkB (KofG (HandSHeadRun.getT x.2)) && chkC (KofG (HandSHeadRun.getT x.2)))) = true
      rw [a, b, c]
      rfl
    exact Prod.ext (by show (chk (KofG (HandSHeadRun.getT x.2)) && fnX.all fun d => d.ok (KofG (HandSHeadRun.getT x.2))) = true; rw [k, d]; rfl) f
theorem runX (w : World) : HandSHeadRun.RunEqI RW (PySem.W.view RW.prog [0, 79]) hookX obT 20000 loose w := runs_join (runO w) (runA w) (runB w) (runC w) (runD w) (runE w)
end Kz

open PySem PySem.W PySem.Calls PyProof.Rows
theorem PySem.Challenge.cw_evenpatch_k00_errors_holds : PySem.Challenge.rw_evenpatch_k00_errors.Holds := by
  w_on; o_law
  refine HandSHeadRun.head_imp (r := Kz.RW) (q := view Kz.RW.prog [0, 79]) (H := Kz.hookX) (ob := Kz.obT) (M := 20000) (loose := Kz.loose) (d := HandSHeadRun.topDef Kz.RW.prog 79) (kwd := []) Kz.obT_eq Kz.runX
    (by kernel_rfl) (by kernel_rfl) (by kernel_rfl) (by rfl) (by first | assumption | decide +kernel) (by decide +kernel) ⟨rfl, rfl, rfl, rfl, rfl, by decide +kernel⟩ ?hw ?hc
  case hw => w_witness2
  case hc =>
    refine Kz.walk_ofG (l := PySem.Challenge.rw_evenpatch_k00_errors) (n := 63) (k := 7) (x := "script") rfl (by decide) (by kernel_rfl) ⟨rfl, by decide, by decide⟩ ?F
    intro w mg fa h Y G hmg0
    obtain ⟨K, KX, c⟩ := Y
    have hmg : mg ("law" : PySem.Str) = some (.ref fa) := by
      have e : (HandSHeadRun.topDef Kz.RW.prog 79).name = ("law" : PySem.Str) := by kernel_rfl
      rw [← e]
      exact hmg0
    obtain ⟨fd, hb, hF⟩ := Kz.law_of (P := PySem.Challenge.rw_evenpatch_k00_errors.prog) (w := w) KX G c
    have e := hmg.symm.trans (Kz.glo_fn KX G (Kz.saysX_chk c) (x := "law") (i := 79) (List.mem_of_getElem? (i := 20) rfl))
    cases e
    exact ⟨K, fd, Kz.spLaw K, KX, hb, fun H a ns hS => ⟨a, ns, rfl, hS, fun _ => rfl⟩, fun base _ _ => hF base⟩
