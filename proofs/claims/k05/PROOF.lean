import PyProof.Rows.All
import Wide.All
import OpenK.AllK
import Wide.FinOn
import PyProof.EqAt
import PyProof.EqKinds
import PyProof.TupleCall
import KE.KExcSuper
import HandS.ForMost
import HandS.Exc
import HandS.ExcInit
import HandS.ExcSuper
import HandS.ExcField
import HandS.ExcIs
import HandS.Nested
import HandS.ClsMeth
import HandS.FStr
import HandS.IsInst
import HandS.Walk
import HandS.TupAny
import HandS.Conv
import HandS.Iter
import HandS.Defaults
import HandS.Text
import KE.GoesMore
import PyProof.Draws
import PyProof.EnumMake
import HandS.WordsExc
import HandS.ExcOwn
import HandS.Codes
import HandS.NoneIn
import HandS.Flow
import HandS.Style
import HandS.Deep
import HandS.Star
import HandS.MakeKwOnly
import HandS.TryMany
import PyProof.StrLawsRepr
import HandS.Ends
import KE.KStateDown
import Lean
import HandS.Head0
import HandS.Head1
import HandS.Head2
import HandS.HeadEnd
import HandS.HeadHook4
import PySem.Challenge.RW_handsroom_k05_without_a_mark
set_option Elab.async false
set_option linter.all false
set_option maxRecDepth 100000
set_option maxHeartbeats 4000000
namespace PySem
namespace ErrX
open Sem
section
variable {prog : Program} {w : World} {A : Around} {E : Value → Shared → Prop} {s : Shared} {a : Addr} {o : Obj} {items : Array Value} {n : Nat} {ts : List Str}
/-- repr of a tuple, whatever stands on the stack -/
theorem call_tuple_repr_any {Q : Value → Shared → Prop} (hTy : s.TypeIs (.ref a) "tuple") (ha : s.heap.get? a = some o) (hd : o.data = .seq items n) (hT : ReprAll prog w items.toList ts)
    (hQ : ∀ (y : Str) u tk, y.length ≤ 100000 → Q (.str y u) { s with toks := tk }) (hsz : (tupleText ts).length ≤ 100000) :
    wpAny (model prog w) A (call (.builtin "tuple.__repr__") [.ref a]) Q E s := by
  refine wpAny_call (codeAny_call_builtin_own (Code.quiet_builtin _ (by decide +kernel)) F.entry_tuple_repr (F.slot_tuple_repr.check _ _ _ _ _ _ _ _ hTy (F.args_tuple_repr_1 _) ?_))
  show wpOwn _ _ _ (Builtin.tupleReprAt 0 ⟨[.ref a], []⟩) _ _ _
  rw [tuple_repr_tree, tupleReprUnderWay_eq]
  refine wpOwn_of_wpAny (wpAny_bind (wpAny_bind (wpAny_stack_any fun st => wpAny_pure ?_)))
  cases st.tail.any (tupGuardF (.ref a)) with
  | true =>
    show wpAny _ _ (do rule "tuple.repr.in-itself"; retStr "(...)") _ _ _
    refine wpAny_bind (wpAny_rule ?_)
    refine wpAny_bind (wpAny_mkStr (wpAny_pure ?_) (by decide +kernel))
    exact hQ _ _ _ (by decide +kernel)
  | false =>
    show wpAny _ _ (tupleReprRest 0 (.ref a)) _ _ _
    exact wpAny_tupleReprRest ha hd hT (fun u tk => hQ _ u tk hsz) (by rw [sizeLine_eq]; omega)
theorem pyReprObj_tuple_any {Q : Value → Shared → Prop} (hTy : s.TypeIs (.ref a) "tuple") (hu : A.units < cLine) (ha : s.heap.get? a = some o) (hd : o.data = .seq items n) (hT : ReprAll prog w items.toList ts)
    (hQ : ∀ (y : Str) u tk, y.length ≤ 100000 → Q (.str y u) { s with toks := tk }) (hsz : (tupleText ts).length ≤ 100000) : wpAny (model prog w) A (pyReprObj (.ref a)) Q E s := by
  unfold pyReprObj
  refine wpAny_bind (wpAny_cRoomFor hu ?_)
  refine wpAny_bind (wpAny_specialOf (name := Str.ofString "__repr__") hTy F.slot_tuple_repr.lookup ?_)
  refine wpAny_bind (m := callSpecialIfBound? (.ref a) (Str.ofString "__repr__")) (wpAny_callSpecialIfBound?_slotG (name := Str.ofString "__repr__") hTy F.slot_tuple_repr
    (call_tuple_repr_any hTy ha hd hT (fun y u tk hy => ?_) hsz))
  exact wpAny_bind (wpAny_isInstance (T := "str") (b := true) rfl isSubtype_str_str (wpAny_pure (hQ y u tk hy)))
end
end ErrX
end PySem

namespace L2
open PySem PySem.Spec PyProof.Rows
/-- a text or an int whose repr is short -/
def Sho (v : V) : Prop := (∃ y : Str, v = .str y ∧ (reprText y).length ≤ 1000 ∧ y.length ≤ 1000) ∨ ∃ i : Int, v = .int i ∧ i.natAbs.log2 < 1920
theorem sho_len {i : Int} (h : i.natAbs.log2 < 1920) : (Str.ofString (toString i)).length ≤ 1921 := int_text_len_1921 h
theorem tupT_len (ts : List Str) : (tupleText ts).length ≤ piled ts + 4 := by
  unfold tupleText
  rw [strLen_append, strLen_append]
  have e1 : ((("(" : String) : Str)).length = 1 := rfl
  have e3 : (((if ts.length == 1 then ",)" else ")" : String) : Str)).length ≤ 2 := by split <;> decide
  rw [e1]
  by_cases h : ts = []
  · subst h
    have e2 : (Str.join ", " []).length = 0 := rfl
    rw [e2]
    omega
  · have := join_length_add ts h
    omega
theorem sho_all {P : Program} {w : World} : ∀ {xs : List V} {us : List Value}, Vals xs us → (∀ v ∈ xs, Sho v) → ∃ ts, ReprAll P w us ts ∧ piled ts ≤ 2000 * xs.length
  | _, _, .nil, _ => ⟨[], .nil, by simp [piled]⟩
  | v :: xs, _ :: us, .cons r rs, h => by
    obtain ⟨ts, h1, h2⟩ := sho_all rs fun u hu => h u (List.mem_cons_of_mem _ hu)
    rcases h v List.mem_cons_self with ⟨y, rfl, hy, _⟩ | ⟨i, rfl, hi⟩
    · obtain ⟨t, rfl⟩ := r
      refine ⟨_, .cons (ReprIs.str y t (by rw [sizeLine_eq]; omega)) h1, ?_⟩
      rw [piled_cons, List.length_cons]
      omega
    · obtain ⟨t, rfl⟩ := r
      refine ⟨_, .cons (ReprIs.int t hi) h1, ?_⟩
      have := sho_len hi
      rw [piled_cons, List.length_cons]
      omega
section
variable {X : Cx}
def tFmtRA (te : TE) : TE := fun σ H Q => te σ H fun x H1 => (Sho x ∨ ∃ p xs, x = .ref p ∧ H1 p = some (.tup xs) ∧ xs.length ≤ 10 ∧ ∀ v ∈ xs, Sho v) ∧ ∀ y : Str, y.length ≤ 100000 → Q (.str y) H1
theorem pe_fmtRA {e : Expr} {te : TE} {pos : Pos} (hu : X.A.units < cLine) (he : PE X e te) : PE X (.FormattedValue e 114 none pos) (tFmtRA te) := by
  refine ⟨fun pins s σ H Q I h => ?_⟩
  refine wpAny_FormattedValue_repr (thn (he.run pins s σ H _ I h) fun v s1 hv => ?_)
  obtain ⟨x, H1, I1, r1, hs, q⟩ := hv
  have sl : (100000 : Nat) ≤ sizeLine := by rw [sizeLine_eq]; omega
  rcases hs with (⟨y, rfl, hz, _⟩ | ⟨i, rfl, hz⟩) | ⟨p, xs, rfl, hp, hl, hx⟩
  · obtain ⟨t, rfl⟩ := r1
    have hz2 : (reprText y).length ≤ sizeLine := by omega
    exact pyReprObj_str (wpAny_formatField_str ⟨.str (reprText y), H1, I1.tok _, ⟨_, rfl⟩, q _ (by omega)⟩ ⟨.str (reprText y), H1, I1.tok _, ⟨_, rfl⟩, q _ (by omega)⟩ hz2) hz2
  · obtain ⟨t, rfl⟩ := r1
    have h3 := sho_len hz
    exact pyReprObj_int hz (wpAny_formatField_str ⟨.str (toString i), H1, I1.tok _, ⟨_, rfl⟩, q _ (by omega)⟩ ⟨.str (toString i), H1, I1.tok _, ⟨_, rfl⟩, q _ (by omega)⟩ (int_text_fits hz))
  · cases r1
    obtain ⟨_, its, rv, o, ho, hc, n, hd⟩ := I1.hok p _ hp
    obtain ⟨ts, h1, h2⟩ := sho_all (P := X.prog) (w := X.w) rv hx
    have h3 := tupT_len ts
    refine ErrX.pyReprObj_tuple_any ⟨o, ho, hc⟩ hu ho hd h1 (fun y u tk hy => ?_) (by omega)
    exact wpAny_formatField_str ⟨.str y, H1, I1.tok _, ⟨_, rfl⟩, q y hy⟩ ⟨.str y, H1, I1.tok _, ⟨_, rfl⟩, q y hy⟩ (by omega)
/-- {x}: a short text, an int, or a tuple of such -/
def tFmtA (te : TE) : TE := fun σ H Q => te σ H fun x H1 => (Sho x ∨ ∃ p xs, x = .ref p ∧ H1 p = some (.tup xs) ∧ xs.length ≤ 10 ∧ ∀ v ∈ xs, Sho v) ∧ ∀ y : Str, y.length ≤ 100000 → Q (.str y) H1
theorem pe_fmtA {e : Expr} {te : TE} {pos : Pos} (hu : X.A.units + 2 < cLine) (he : PE X e te) : PE X (.FormattedValue e (-1) none pos) (tFmtA te) := by
  refine ⟨fun pins s σ H Q I h => ?_⟩
  refine wpAny_FormattedValue_plain (thn (he.run pins s σ H _ I h) fun v s1 hv => ?_)
  obtain ⟨x, H1, I1, r1, hs, q⟩ := hv
  have sl : (100000 : Nat) ≤ sizeLine := by rw [sizeLine_eq]; omega
  rcases hs with (⟨y, rfl, _, hz⟩ | ⟨i, rfl, hz⟩) | ⟨p, xs, rfl, hp, hl, hx⟩
  · obtain ⟨t, rfl⟩ := r1
    exact wpAny_formatField_str ⟨.str y, H1, I1, ⟨t, rfl⟩, q _ (by omega)⟩ ⟨.str y, H1, I1.tok _, ⟨_, rfl⟩, q _ (by omega)⟩ (by omega)
  · obtain ⟨t, rfl⟩ := r1
    have h3 := sho_len hz
    exact wpAny_formatField_int hz ⟨.str (toString i), H1, I1.tok _, ⟨_, rfl⟩, q _ (by omega)⟩
  · cases r1
    obtain ⟨_, its, rv, o, ho, hc, n, hd⟩ := I1.hok p _ hp
    obtain ⟨ts, h1, h2⟩ := sho_all (P := X.prog) (w := X.w) rv hx
    have h3 := tupT_len ts
    exact wpAny_formatField_slot (fun _ _ => nofun) hu ⟨o, ho, hc⟩ F.slot_tuple_format F.slot_tuple_str F.slot_tuple_repr
      (ErrX.call_tuple_repr_any ⟨o, ho, hc⟩ ho hd h1 (fun y u tk hy => ⟨y, u, rfl, .str y, H1, I1.tok _, ⟨_, rfl⟩, q y hy⟩) (by omega))
end
end L2

namespace PySem
namespace ErrX
open PySem.W PySem.Calls PyProof.Rows
section
variable {prog : Program} {w : World} {A : Around} {E : Value → Shared → Prop} {h : Heap} {g : Array GenState} {d : Drawn} {t : Nat} {os : OsState}
variable {nm q : Str} {C N : Addr} {bs bm : List Value} {hdct : Bool} {sn : List Str} {sub : List Value} {ab : Bool} {col : Option Bool} {dd : Option Addr} {k0 k1 k2 k3 k5 : Option Value}
/-- the bound ValueError.__init__ called: the args are laid anew -/
theorem call_mw {u e t0 : Addr} {rest : List Value} {Q : Value → Shared → Prop}
    (hC : h.get? C = some (excClassObj nm q C N bs bm hdct sn sub ab col dd k0 k1 k2 k3 k5 "ValueError.__new__")) (he : h.get? e = some (HandSPX.excO C t0)) (hu : h.get? u = some (kxs_mw "ValueError.__init__" e)) (hrest : rest.length ≤ sizeLine)
    (hq : ∀ h' t1, (∀ b o, b ≠ e → h.get? b = some o → h'.get? b = some o) → h'.get? e = some (HandSPX.excO C t1) → Q .none ⟨h', g, d, t, os⟩) :
    wpAny (model prog w) A (call (.ref u) rest) Q E ⟨h, g, d, t, os⟩ := by
  refine wpAny_call (codeAny_of_tree ?_)
  show wpAny _ A.in1 (callAny (.ref u) ⟨rest, []⟩) _ _ _
  simp only [callAny]
  refine wpAny_bind (wpAny_load hu ?_)
  simp only [kxs_mw, show (Value.type "method-wrapper" == Value.type "method" || Value.type "method-wrapper" == Value.type "builtin_function_or_method" || Value.type "method-wrapper" == Value.type "method-wrapper") = true by decide, if_true]
  refine KFB.if_so (by decide) ?_
  refine wpAny_bind (check_bound_init F.excBase_ValueError.toExcCallFacts hC he rfl ?_)
  refine wpAny_bind (wpAny_pure (wpAny_pure ?_))
  refine ⟨plainId_quiet F.excBase_ValueError.init.plain _, codeAny_builtin F.excBase_ValueError.initEntry ?_⟩
  rw [Around.under_plainId F.excBase_ValueError.init.plain _]
  wp_walk
  refine hq _ h.objs.size (fun b o hb ho => ?_) ?_
  · rw [Heap.get?_update_other _ _ (Ne.symm hb)]
    exact Heap.get?_push_of_some _ ho
  · rw [Heap.get?_update_self _ (Heap.get?_push_of_some _ he) rfl]
    rfl
end
end ErrX
end PySem
namespace L2
open PySem PySem.Spec PyProof.Rows NdefX
/-- what the written part says of an own error class whose __init__ begins with super().__init__(..) -/
structure SupC (P : Program) (K : PySem.W.Frag) (mg : Str → Option Value) (C fI cc cda : Addr) (qual : Str) (params : Arguments) (body : List Stmt) (scope : Scope) : Prop where
  ox : OexC K C
  iC : PySem.W.findIn K (.ref C) "__init__" = some (some (.ref fI))
  tI : PySem.W.typeIn K (.ref fI) = some (.type "function")
  fn : ∃ (oc : Value) (od : Option Addr) (osl : Array (Option Value)) (nm : Str) (kV doc pm ct : Value) (an : Option Addr), K.lookup fI = some ⟨oc, od, .func (PySem.W.fnX nm qual params body scope [("__class__", cc)] .none kV doc pm an (.ref cda) ct), osl⟩
  code : PySem.W.codeIn K (.ref cda) qual = true
  cell : ∃ (cl : Value) (cld : Option Addr) (csl : Array (Option Value)), K.lookup cc = some ⟨cl, cld, .cell (some (.ref C)), csl⟩
  file : ∃ (ccl : Value) (cdd : Option Addr) (vs : Array Value) (ccs : Array (Option Value)) (fl : Str) (tf : Tok), K.lookup cda = some ⟨ccl, cdd, .fields vs, ccs⟩ ∧ vs[2]? = some (.str fl tf) ∧ ((P.main.file : Str) == fl) = true
  sup : mg "super" = none
  top : (P.main.scope.names.lookup ("super" : Str)).isSome = false
  op : PySem.W.nsIn K cStatics "thirdparty.any" = some none
  next : ∃ cd, PySem.W.clsIn K C = some cd ∧ PySem.W.alongIn K "__init__" ((cd.mro.dropWhile (· != .ref C)).drop 1) = some (some (.builtin "ValueError.__init__"))
  self : PySem.W.mroIn K C (.ref C) = some true
  subV : PySem.W.subIn K (.ref C) (.type "ValueError") = some true
theorem boot_super : bootBuiltins "super" = some (.type "super") := by decide +kernel
theorem sup_ok {P : Program} {w : World} {K : PySem.W.Frag} {mg : Str → Option Value} {base : Heap} {C fI cc cda : Addr} {qual : Str} {params : Arguments} {scope : Scope} {k : Nat} {N ps : List Str} {sp : Sp} {e : Expr} {rest : List Stmt} {p0 p1 p2 p3 p4 : Pos} {ar : Arg}
    (T : SupC P K mg C fI cc cda qual params (.Expr (.Call (.Attribute (.Call (.Name "super" p0) [] [] p1) "__init__" p2) [e] [] p3) p4 :: rest) scope) (S : NScope N ps ["__class__"] scope)
    (hps : ps[0]? = some ar.arg) (hpar : (params.posonlyargs ++ params.args).head? = some ar) (hks : scope.names.lookup ("super" : Str) = some NameKind.globalImplicit)
    (hbind : ∀ (nm : Str) (kV doc pm ct : Value) (an : Option Addr) (us : List Value), us.length = ps.length → bindArgs (PySem.W.fnX nm qual params (.Expr (.Call (.Attribute (.Call (.Name "super" p0) [] [] p1) "__init__" p2) [e] [] p3) p4 :: rest) scope [("__class__", cc)] .none kV doc pm an (.ref cda) ct) ⟨us, []⟩ = pure (ps.zip us))
    {pl : Env → Sem Bool} (hev : ∀ env : Env, eval (.Call (.Attribute (.Call (.Name "super" p0) [] [] p1) "__init__" p2) [e] [] p3) env = (do
      let ov ← attributeBase (.Call (.Name "super" p0) [] [] p1) "__init__" env (eval (.Call (.Name "super" p0) [] [] p1) env)
      standAt p2.atName
      let (f, first) ← holding [ov] (getMethod ov "__init__" (pl env))
      callWith p3 f first (backTo p3 (starEach [e] env)) []))
    (hse : ∀ env : Env, starEach [e] env = (false, eval e env) :: starEach [] env)
    (len : ∀ vs H Q E, sp vs H Q E → vs.length = ps.length)
    (hbody : ∀ (A : Around) (outer : List Env) (s : Shared) (H : Hp) (vs : List V) (Q : VK) (E : XK), Room k (A.deeper (envF ⟨"__init__", qual, params, rest, scope, [("__class__", cc)], cda⟩ fI s.heap.objs.size)) → sp vs H Q E →
      ∃ (a : Addr) (vr : List V) (te : TE) (ts : TS), vs = .ref a :: vr ∧ H a = some (exo a C none) ∧
        PE (ncx CX0 P w K mg base N ⟨"__init__", qual, params, rest, scope, [("__class__", cc)], cda⟩ fI A outer s H E) e te ∧ PSs (ncx CX0 P w K mg base N ⟨"__init__", qual, params, rest, scope, [("__class__", cc)], cda⟩ fI A outer s H E) rest ts ∧
        te (startF N vs [some (.ref C)]) H fun _ H1 => H1 a = some (exo a C none) ∧ ts { nx := fun _ H' => Q .non H', rt := Q } (startF N vs [some (.ref C)]) H1) :
    ∃ fd, FnOk P w K mg base CX0 (k + 1) fI fd ps sp ∧ Binds K fd ps [] := by
  obtain ⟨oc, od, osl, nm, kV, doc, pm, ct, an, lk⟩ := T.fn
  obtain ⟨cl, cld, csl, lcell⟩ := T.cell
  obtain ⟨ccl, cdd, cvs, ccs, fl, tf, lcode, hvs, hfile⟩ := T.file
  obtain ⟨cdC, hcd, hal⟩ := T.next
  refine ⟨_, ⟨len, fun A outer s H args us vs Q E hr e0 hb r hsp => ?_⟩, .all (hbind nm kV doc pm ct an)⟩
  have hl := len _ _ _ _ hsp
  have KX : K.In s.heap := e0.mod.kin.keeps fun b o e => (e0.bs b o e).1
  have lim : s.heap.NoLimit := e0.mod.nolimit.keeps fun b o e => (e0.bs b o e).1
  refine PySem.ks_codeAny_call_defAt hr.depth (KX _ _ lk) rfl lim (PySem.W.codeRec_of KX T.code) rfl hb S.nocell (fun x hx => S.par _ (List.of_mem_zip hx).1) (fun h₁ hns kp => ?_) S.co S.gen S.kind
  let F : NF := ⟨"__init__", qual, params, rest, scope, [("__class__", cc)], cda⟩
  have kbase : ∀ {b : Addr} {o : Obj}, K.lookup b = some o → H b = none := fun {b o} q => (e0.bs b o (e0.mod.kin _ _ q)).2
  have CA : CellsAt F.cl ["__class__"] [some (.ref C)] s.heap H := by
    refine ⟨rfl, fun y c q => ?_, fun x y c q1 q2 => ?_, fun i y q => ?_⟩
    · have q2 : y = "__class__" ∧ c = cc := by
        by_cases hy : y = ("__class__" : Str)
        · subst hy
          have q3 : some cc = some c := q
          exact ⟨rfl, (Option.some.inj q3).symm⟩
        · have hy2 : (y == ("__class__" : Str)) = false := by simpa using hy
          have q3 : (match y == ("__class__" : Str) with | true => some cc | false => none) = some c := q
          rw [hy2] at q3
          cases q3
      rw [q2.2]
      exact ⟨kbase lcell, _, _, KX _ _ lcell, rfl⟩
    · have one : ∀ {y : Str}, List.lookup y [(("__class__" : Str), cc)] = some c → y = "__class__" := fun {y} q => by
        by_cases hy : y = ("__class__" : Str)
        · exact hy
        · have hy2 : (y == ("__class__" : Str)) = false := by simpa using hy
          have q3 : (match y == ("__class__" : Str) with | true => some cc | false => none) = some c := q
          rw [hy2] at q3
          cases q3
      rw [one q1, one q2]
    · cases i with
      | zero =>
        have q2 : ("__class__" : Str) = y := Option.some.inj q
        rw [← q2]
        refine ⟨cc, rfl, fun v hv => ?_⟩
        have hv2 : V.ref C = v := Option.some.inj (Option.some.inj hv)
        rw [← hv2]
        exact ⟨.ref C, rfl, _, KX _ _ lcell, rfl⟩
      | succ i =>
        have q2 : (none : Option Str) = some y := by
          rw [← q]
          simp
        cases q2
  have I : Inv (ncx CX0 P w K mg base N F fI A outer s H E) [] (startF N vs [some (.ref C)]) H { s with heap := h₁, toks := s.toks + (ps.zip us).length } := inv_startN S hr.hd e0 hl r CA hns kp
  obtain ⟨a, vr, te, ts, rfl, ha, he, hs, hq⟩ := hbody A outer s H vs Q E (hr.deeper _) hsp
  obtain ⟨t1, ho⟩ := exo_at I.hok ha
  show PySem.wpAt (model P w) (A.deeper (envF F fI s.heap.objs.size)) (.func _ (envF F fI s.heap.objs.size)) (execs _ (envF F fI s.heap.objs.size)) _ _ _
  have hint : interactive (envF F fI s.heap.objs.size) = false := by
    unfold interactive
    rw [show (envF F fI s.heap.objs.size).scope.kind = ScopeKind.function from S.kind]
    rfl
  refine PySem.ks_wpAt_execs_cons (PySem.ks_wpAt_Expr_any (PySem.ks_wpAt_MethodCall (pl := pl (envF F fI s.heap.objs.size)) ?_ (hev _)) hint rfl)
  have hg0 := kp _ _ (KX _ _ lk)
  have hg1 := kp _ _ (KX _ _ lcode)
  have hkc : (envF F fI s.heap.objs.size).kindOf "__class__" = some NameKind.free := S.frk _ List.mem_cons_self
  refine PySem.ks_wpAt_super_base (env := envF F fI s.heap.objs.size) (f := fI) (cc := cda) (oc := ⟨ccl, cdd, .fields cvs, ccs⟩) (hks := hks) (hkc := hkc) (hat := by decide +kernel) (hfu := rfl) (hf := hg0) (hfd := rfl) (hp := hpar) (hco := rfl) (hcc := hg1) (hoc := rfl) (hvs := hvs) (hfile := hfile) (htop := T.top) ?_
  -- super
  obtain ⟨mb, b1, b2⟩ := I.mod.blt
  refine PySem.W.ks_loadName_global (x := "super") S.kind hks (Calls.loadGlobal_builtin (mg := mg) (mb := mb) (v := .type "super") (I.mod.glob.keeps I.bk) T.sup (b1.keeps I.bk) ((b2 _ (by decide +kernel)).trans boot_super) ⟨rfl, ?_⟩)
  have hcc : h₁.IsCell cc (some (.ref C)) := ⟨(⟨cl, cld, .cell (some (.ref C)), csl⟩ : Obj), kp _ _ (KX _ _ lcell), rfl⟩
  refine wpAny_loadName_free (name := "__class__") (c := cc) (v := .ref C) S.kind hkc rfl hcc ?_
  have hx0 : (ps.zip us).reverse.lookup ar.arg = some (Value.ref a) := by
    have ndP : ps.Nodup := by
      have q := S.nd.sublist (List.take_sublist (ps.length + [("__class__" : Str)].length) N)
      rw [S.pre] at q
      exact (List.nodup_append.mp q).1
    obtain ⟨u, hu, rv⟩ := r.get (i := 0) (x := V.ref a) rfl
    have e1 : u = Value.ref a := rv
    rw [e1] at hu
    exact zip_look ndP hps hu
  refine wpAny_loadName_local (v := Value.ref a) S.kind (S.par _ (List.mem_of_getElem? hps)) hns hx0 ?_
  have KX1 : K.In h₁ := fun b o q => kp _ _ (KX _ _ q)
  obtain ⟨oC, hC1, hC2⟩ : ∃ oC, h₁.get? C = some oC ∧ oC.data = .cls cdC := by
    unfold PySem.W.clsIn at hcd
    split at hcd
    · rename_i c d cd' sl q
      cases hcd
      exact ⟨_, KX1 _ _ q, rfl⟩
    · cases hcd
  refine ks_wpAny_isType_cls hC1 hC2 ⟨rfl, ?_⟩
  have hne : a ≠ C := fun z => by
    rw [z] at ho
    have e1 := hC1.symm.trans ho
    cases e1
    cases hC2
  refine ks_wpAny_call_super hC1 hC2 ho rfl (fun c q => by cases q) (PySem.W.looks_mroIn KX1 T.self) (fun h2 so2 k2 => ?_)
  have I2 := ClX.pin_new (t' := s.toks + (ps.zip us).length) I k2 (Nat.le_refl _) so2 (fun v q => by cases q)
  have KX2 : K.In h2 := fun b o q => k2 _ _ (KX1 _ _ q)
  have hI : PySem.W.Looks (model P w) h2 (isInstance (.ref a) (.type "ValueError")) true := by
    have J : PySem.W.InstAt h2 a _ C none := ⟨k2 _ _ ho, rfl, rfl, trivial⟩
    exact J.type.andThen (PySem.W.looks_subIn KX2 T.subV)
  -- .__init__
  refine PySem.W.kxs_getMethod PySem.W.kxs_ValueError so2 (PySem.W.looks_opaque KX2 T.op) (l₀ := cdC.mro) (fun A Q E s k q => wpAny_bind ((PySem.W.looks_clsIn KX2 hcd) A _ E s k (wpAny_pure q))) rfl KX2 hal hI hne (by decide +kernel) ?_
  have I3 := ClX.pin_new (t' := s.toks + (ps.zip us).length + 1) I2 (fun b u q => Heap.get?_push_of_some _ q) (Nat.le_refl _) (Heap.get?_push_size _ rfl) (o := PySem.W.kxs_mw "ValueError.__init__" a) (fun v q => by cases q)
  -- the argument, the call
  have hpl : ((backTo p3 (starEach [e] (envF F fI s.heap.objs.size)))).any (·.1) = false := by
    rw [hse]
    rfl
  refine PySem.W.kxs_callWith (i := "ValueError.__init__") (x := a) (u := h2.objs.size) hpl ?_
  rw [hse]
  refine Calls.evalArgs_plain (Calls.spliced_cons (thn (he.run _ _ _ _ _ I3 hq) fun u4 s4 hv4 => Calls.spliced_nil ?_))
  obtain ⟨v4, H4, I4, r4, ha4, hq4⟩ := hv4
  have hmw := ClX.pin_at I4
  refine ⟨hmw, ?_⟩
  obtain ⟨t4, ho4⟩ := exo_at I4.hok ha4
  obtain ⟨nm', q', N', bs, bm, sn, sub, ab, col, dd, k0, k1, k2', k3, k5, hC, hbm⟩ := T.ox.cls
  have I4' := ClX.unpin (ClX.unpin I4)
  obtain ⟨hp, g, d, t, os⟩ := s4
  refine ErrX.call_mw (C := C) (I4'.kIn _ _ hC) ho4 hmw (by rw [sizeLine_eq]; exact (by decide : 1 ≤ 16777216)) (fun h5 t5 k5' hx5 => ?_)
  have J := I4'.write (t' := t) (x := a) (e := a) (o := exo a C none) (by rw [ha4]; exact True.intro) (.inl rfl) k5' ⟨_, hx5⟩ (exo_ok hx5)
  have eu : upd H4 a (exo a C none) = H4 := by
    funext b
    by_cases hb : b = a
    · rw [hb, upd_same, ha4]
    · rw [upd_ne hb]
  rw [eu] at J
  -- the rest
  refine PySem.wpAt_of_wpAny ?_
  refine wpAny_mono (hs.run [] _ _ _ _ J hq4) (fun fl s' hs => ?_) fun e s' hs => hs
  have fin : ∀ {σ' : L2.St} {H' : Hp} {v : V} {u : Value}, Inv (ncx CX0 P w K mg base N F fI A outer s H E) [] σ' H' s' → L2.RelV v u → Q v H' → CE outer P w H s Q u s' :=
    fun {σ' H' v u} J rv q => ⟨v, H', J.os, J.bare, J.base, J.hok, rv, q⟩
  cases fl with
  | ret u =>
    obtain ⟨v, σ', H', J, rv, q⟩ := hs
    exact fin J rv q
  | next =>
    obtain ⟨σ', H', J, q⟩ := hs
    exact fin (v := V.non) (u := Value.none) J rfl q
  | brk =>
    obtain ⟨_, _, _, q⟩ := hs
    exact False.elim q
  | cont =>
    obtain ⟨_, _, _, q⟩ := hs
    exact False.elim q
end L2
namespace PySem.W
open PySem PySem.Spec PySem.Calls PyProof.Rows
section
variable {prog : Program} {w : World} {A : Around} {E : Value → Shared → Prop} {s : Shared} {K : Frag} {x D : Addr} {ox : Obj}
theorem findObj_dataA {C : Addr} {od : Option Obj} {name : Str} {a g : Value} (hc : (clsIn K C).isSome = true) (ha : findIn K (.ref C) name = some (some a)) (hg : specialIn K a "__get__" = some (some g)) (ht : takesIn K a = some true) : findObj K C od name = some (.bind g a) := by
  obtain ⟨cd, hc⟩ := Option.isSome_iff_exists.mp hc
  unfold findObj
  rw [hc, Option.bind_some, ha, Option.bind_some]
  simp [hg, ht]
theorem kin_classEA {od : Option Obj} {Q : Option Value → Shared → Prop} (hga : findIn K (.ref D) "__getattribute__" = some (some (.builtin "BaseException.__getattribute__"))) (hgt : findIn K (.ref D) "__getattr__" = some none) (hsub : subIn K (.ref D) (.type "BaseException") = some true)
    (hdct : hasDictIn K D = true) (ha : findIn K (.ref D) "__class__" = some (some (.builtin "object.__class__")))
    (hn : specialIn K (.builtin "object.__class__") "__get__" = some (some (.builtin "getset_descriptor.__get__"))) (htk : takesIn K (.builtin "object.__class__") = some true) (hm : mroIn K D (.type "object") = some true)
    (X : K.In s.heap) (I : InstAt s.heap x ox D od) (h : Q (some (.ref D)) { s with toks := s.toks + 1 }) : wpAny (model prog w) A (getAttr? (.ref x) "__class__") Q E s := by
  have hf : findObj K D od "__class__" = some (.bind (.builtin "getset_descriptor.__get__") (.builtin "object.__class__")) := findObj_dataA (by obtain ⟨cd, hc, _⟩ := any_some hdct; rw [hc]; rfl) ha hn htk
  obtain ⟨hp, g, d, t, os⟩ := s
  have L0 := I.type (M := model prog w)
  have L1 := looks_findIn (M := model prog w) X hga
  have L2 := looks_findIn (M := model prog w) X hgt
  have L3 := looks_find (M := model prog w) X I hf
  have sub : Looks (model prog w) hp (isInstance (.ref x) (.type "BaseException")) true := L0.andThen (looks_subIn X hsub)
  have hx0 : (false && onTheHeap (Value.builtin "BaseException.__getattribute__")) = false := rfl
  have hx2 : (Value.builtin "BaseException.__getattribute__" == Value.builtin "object.__getattribute__") = false := by decide +kernel
  have hx1 : (onTheHeap (Value.ref D) && Value.builtin "BaseException.__getattribute__" == Value.builtin "object.__getattribute__") = false := by rw [hx2]; rfl
  unfold getAttr? getAttrBy? getAttrBy
  refine wpAny_bind (wpAny_mkText (wpAny_bind (wpAny_attempt (wpAny_holding (wpAny_bind (L0.at (wpAny_bind (L1.at ?_))))))))
  show wpAny _ _ (if (onTheHeap (Value.ref D) && Value.builtin "BaseException.__getattribute__" == Value.builtin "object.__getattribute__") = true then _ else _) _ _ _
  rw [hx1, if_neg Bool.false_ne_true]
  unfold getAttrByItsOwn hookBefore
  refine wpAny_bind ?_
  rw [if_pos (show onTheHeap (Value.ref D) = true from rfl)]
  refine L2.at ?_
  refine wpAny_bind (wpAny_attempt (wpAny_holding ?_))
  unfold callGetattribute
  rw [hx0, if_neg Bool.false_ne_true]
  unfold boundAndCalled
  rw [PySem.F.excAttr_ValueError.ga.bind (.ref x)]
  refine wpAny_bind (wpAny_pure ?_)
  show wpAny _ _ (call (.builtin "BaseException.__getattribute__") [.ref x, .str "__class__" t]) _ _ _
  refine wpAny_call (codeAny_call_builtin PySem.F.excAttr_ValueError.ga.plain PySem.F.entry_bexc_ga ?_)
  refine @check_slot (model prog w) _ _ ⟨hp, g, d, t + 1, os⟩ "BaseException.__getattribute__" "BaseException" "__getattribute__" (.ref x) [.str "__class__" t] [] _ (by decide +kernel) (by decide +kernel) sub (PySem.F.args_bexc_ga (.ref x) (.str "__class__" t)) ?_
  unfold Builtin.«object.__getattribute__»
  refine wpAny_bind (wpAny_of_eq (a := ((Value.ref x : Value), [Value.str "__class__" t])) (by first | rfl | (simp only [slotArgs]; rfl)) ?_)
  refine wpAny_bind (wpAny_pure (wpAny_bind (L0.at (wpAny_bind (L3.at ?_)))))
  show wpAny _ _ (holding [Value.builtin "object.__class__"] (call (.builtin "getset_descriptor.__get__") [.builtin "object.__class__", .ref x, .ref D]) >>= ret) _ _ _
  refine wpAny_bind (wpAny_holding (wpAny_call (class_get (s := ⟨hp, g, d, t + 1, os⟩) (ox := ox) (od := od) X I hm ?_)))
  refine wpAny_pure ?_
  show wpAny _ _ (handedOut (.ref D)) _ _ _
  rw [handedOut_of (v := .ref D) rfl]
  first
    | exact wpAny_pure (wpAny_pure h)
    | exact wpAny_pure h
    | exact wpAny_pure (wpAny_bind (wpAny_pure (wpAny_pure h)))
theorem kitx_excA {od : Option Obj} (hga : findIn K (.ref D) "__getattribute__" = some (some (.builtin "BaseException.__getattribute__"))) (hgt : findIn K (.ref D) "__getattr__" = some none) (hsub : subIn K (.ref D) (.type "BaseException") = some true) (hdct : hasDictIn K D = true) (ha : findIn K (.ref D) "__class__" = some (some (.builtin "object.__class__")))
    (hn : specialIn K (.builtin "object.__class__") "__get__" = some (some (.builtin "getset_descriptor.__get__"))) (htk : takesIn K (.builtin "object.__class__") = some true) (hm : mroIn K D (.type "object") = some true) :
    KitX K (.ref x) (.ref D) (fun h => InstAt h x ox D od) where
  ty := fun _ _ _ I => I.type
  it := fun _ _ X _ => by
    obtain ⟨cdD, hcD, _⟩ := any_some hdct
    unfold clsIn at hcD
    split at hcD
    · rename_i c' d' cd' sl' ho
      intro A' Q' E' s' k q
      unfold isType loadHead
      exact wpAny_bind (wpAny_loadPart (k _ _ (X _ _ ho)) (wpAny_pure q))
    · cases hcD
  ne := fun h tp dd its n sl X htp => by
    obtain ⟨cdD, hcD, _⟩ := any_some hdct
    refine Bool.eq_false_iff.mpr fun q => ?_
    have e : D = tp := Value.ref.inj (beq_iff_eq.mp q)
    subst e
    unfold clsIn at hcD
    split at hcD
    · rename_i c' d' cd' sl' ho
      have z := (X _ _ ho).symm.trans htp
      cases z
    · cases hcD
  ca := fun X I k => kin_classEA hga hgt hsub hdct ha hn htk hm X I k
end
end PySem.W

namespace L2
open PySem PySem.Spec PyProof.Rows
/-- C(e, ..) as a value: C's own __init__ keeping sp -/
def tMkV (C : Addr) (sp : Sp) (ta : TA) : TE := fun σ H Q => ta σ H fun vs H1 => vs.length ≤ 1000 ∧ ∀ a, H1 a = none → sp (.ref a :: vs) (upd H1 a (exo a C none)) (fun v H2 => v = .non ∧ Q (.ref a) H2) (fun _ _ _ => False)
section
variable {X : Cx} {e : Expr} {es : List Expr} {te : TE} {ta : TA} {p pos : Pos}
theorem run_mkv {CX : CXT} {C fI : Addr} {k : Nat} {fd : FuncData} {ps : List Str} {sp : Sp} {pins : List (Addr × Obj)} {σ : St} {H1 : Hp} {s1 : Shared} {us : List Value} {vs : List V} {Q : VK} (T : OexC X.K C) (iC : PySem.W.findIn X.K (.ref C) "__init__" = some (some (.ref fI))) (tI : PySem.W.typeIn X.K (.ref fI) = some (.type "function"))
    (F1 : FnOk X.prog X.w X.K X.mg X.base CX k fI fd ps sp) (hr : Room (k + 1) X.A) (hb : Binds X.K fd ps []) (hx : Passes CX X (fun _ _ _ => False)) (I1 : Inv X pins σ H1 s1) (r1 : Vals vs us) (hz : vs.length ≤ 1000)
    (q1 : ∀ a, H1 a = none → sp (.ref a :: vs) (upd H1 a (exo a C none)) (fun v H2 => v = .non ∧ Q (.ref a) H2) (fun _ _ _ => False)) :
    wpAny (model X.prog X.w) X.A (call (.ref C) us) (EP X pins σ Q) X.xe s1 := by
  obtain ⟨nm, q, N, bs, bm, sn, sub, ab, col, dd, k0, k1, k2, k3, k5, hC, hbm⟩ := T.cls
  obtain ⟨hp, g, dr, tk, os⟩ := s1
  have hsz : hp.objs.size ≤ hp.objs.size + 1 := Nat.le_succ _
  have hn : H1 (hp.objs.size + 1) = none := I1.hok.fresh hsz
  have hq := q1 (hp.objs.size + 1) hn
  have kk : ∀ b o, hp.get? b = some o → ((hp.push (PySem.W.kdv_tup us)).push (PySem.HandSPX.excO C hp.objs.size)).get? b = some o := fun b o e => Heap.get?_push_of_some _ (Heap.get?_push_of_some _ e)
  have hget : ((hp.push (PySem.W.kdv_tup us)).push (PySem.HandSPX.excO C hp.objs.size)).get? (hp.objs.size + 1) = some (PySem.HandSPX.excO C hp.objs.size) := by heap_get
  have I2 : Inv X pins σ (upd H1 (hp.objs.size + 1) (exo (hp.objs.size + 1) C none)) ⟨(hp.push (PySem.W.kdv_tup us)).push (PySem.HandSPX.excO C hp.objs.size), g, dr, tk, os⟩ :=
    I1.laid (t' := tk) (a := hp.objs.size + 1) (o := exo (hp.objs.size + 1) C none) (h' := (hp.push (PySem.W.kdv_tup us)).push (PySem.HandSPX.excO C hp.objs.size)) kk hsz (exo_ok hget)
  have r2 : Vals (V.ref (hp.objs.size + 1) :: vs) (Value.ref (hp.objs.size + 1) :: us) := .cons rfl r1
  have hl : (Value.ref (hp.objs.size + 1) :: us).length = ps.length := by
    have e := r2.length
    rw [F1.len _ _ _ _ hq] at e
    exact e.symm
  have hus : us.length ≤ sizeLine := by
    rw [← Paired.length r1, sizeLine_eq]
    omega
  refine wpAny_call (PySem.HandSPX.call_own F.excBase_ValueError (fun Y => PySem.HandSPX.refsVE_contains Y bm hbm) (I1.kIn _ _ hC) (PySem.W.looks_findIn I1.kIn iC) (fun self => PySem.W.bind_fn I1.kIn self tI) hus
    (codeAny_mono (F1.run _ X.stack _ _ ⟨Value.ref (hp.objs.size + 1) :: us, []⟩ (Value.ref (hp.objs.size + 1) :: us) _ _ (fun _ _ _ => False) (hr.make C us []) (I2.env0.make C us []) (by
      have z := hb ⟨(hp.push (PySem.W.kdv_tup us)).push (PySem.HandSPX.excO C hp.objs.size), g, dr, tk, os⟩ (Value.ref (hp.objs.size + 1) :: us) I2.kIn (by rw [List.append_nil]; exact hl)
      rw [List.append_nil] at z
      exact z) r2 hq) fun r s' hq' => ?_))
  cases r with
  | error er => exact hx pins σ _ _ er s' I2 hq'
  | ok fl =>
    cases fl with
    | ret u =>
      obtain ⟨v, H2, os2, bare2, un2, hok2, rv, ev, q2⟩ := hq'
      subst ev
      exact ⟨rv, .ref (hp.objs.size + 1), _, I2.call' (ch := []) os2 un2 hok2 bare2 (fun b z => absurd z (by simp)), rfl, q2⟩
    | next => exact False.elim hq'
    | brk => exact False.elim hq'
    | cont => exact False.elim hq'
theorem pe_mkv {CX : CXT} {x : Str} {C fI : Addr} {k : Nat} {fd : FuncData} {ps : List Str} {sp : Sp} (T : OexC X.K C) (iC : PySem.W.findIn X.K (.ref C) "__init__" = some (some (.ref fI))) (tI : PySem.W.typeIn X.K (.ref fI) = some (.type "function"))
    (F1 : FnOk X.prog X.w X.K X.mg X.base CX k fI fd ps sp) (hr : Room (k + 1) X.A) (hb : Binds X.K fd ps []) (hx : Passes CX X (fun _ _ _ => False)) (hg : Gl X x) (hm : X.mg x = some (.ref C)) (ha : PA X (e :: es) ta)
    (hdb : (x == ("__debug__" : Str)) = false := by decide) (he : starEach (e :: es) X.env = (false, eval e X.env) :: starEach es X.env := by rfl) (hpl : (backTo pos (starEach es X.env)).any (·.1) = false := by rfl) :
    PE X (.Call (.Name x p) (e :: es) [] pos) (tMkV C sp ta) := by
  refine ⟨fun pins s σ H Q I h => ?_⟩
  refine wpAny_Call_Name_kw (ld_glob I hg hm ?_ hdb)
  refine PySem.W.callWith_K (h₀ := X.base) I.ok.mod.kin T.kC (thn (ha.run pos pins s σ H _ I h) fun us s1 ⟨vs, H1, I1, r1, hz, q1⟩ => ⟨I1.kIn, ?_⟩) he hpl
  exact run_mkv T iC tI F1 hr hb hx I1 r1 hz q1
theorem pe_mkv0 {CX : CXT} {x : Str} {C fI : Addr} {k : Nat} {fd : FuncData} {ps : List Str} {sp : Sp} (T : OexC X.K C) (iC : PySem.W.findIn X.K (.ref C) "__init__" = some (some (.ref fI))) (tI : PySem.W.typeIn X.K (.ref fI) = some (.type "function"))
    (F1 : FnOk X.prog X.w X.K X.mg X.base CX k fI fd ps sp) (hr : Room (k + 1) X.A) (hb : Binds X.K fd ps []) (hx : Passes CX X (fun _ _ _ => False)) (hg : Gl X x) (hm : X.mg x = some (.ref C))
    (hdb : (x == ("__debug__" : Str)) = false := by decide) : PE X (.Call (.Name x p) [] [] pos) (tMkV C sp tNil) := by
  refine ⟨fun pins s σ H Q I h => ?_⟩
  refine wpAny_Call_Name_kw (ld_glob I hg hm ?_ hdb)
  obtain ⟨hz, q1⟩ := h
  exact PySem.W.callWith_K0 I.kIn T.kC (run_mkv T iC tI F1 hr hb hx I .nil hz q1)
/-- e.f, e an exception that is a value -/
def tXv (K : PySem.W.Frag) (f : Str) (te : TE) : TE := fun σ H Q => te σ H fun x H1 => ∃ (a C d : Addr) (fs : List (Str × V)) (v : V), x = .ref a ∧ XfC K C ∧ PySem.W.findIn K (.ref C) f = some none ∧ H1 a = some (exo a C (some d)) ∧ H1 d = some (exd d fs) ∧ fs.lookup f = some v ∧ Q v H1
theorem pe_xv {f : Str} (he : PE X e te) (hb : attributeBase e f X.env (eval e X.env) = eval e X.env := by rfl) : PE X (.Attribute e f pos) (tXv X.K f te) := by
  refine ⟨fun pins s σ H Q I h => ?_⟩
  refine attr_of hb (thn (he.run pins s σ H _ I h) fun u s1 hh => ?_)
  obtain ⟨x, H1, I1, rx, a, C, d, fs, v, ex, T, hno, ea, ed, l, q⟩ := hh
  subst ex
  obtain rfl : u = Value.ref a := rx
  obtain ⟨t1, ho⟩ := exo_at I1.hok ea
  obtain ⟨mA, hns, hr⟩ := exd_at I1.hok ed
  obtain ⟨od, hod, hl⟩ := lookIn_ns hns
  obtain ⟨u, hu, ru⟩ := RelO.some_of (v := v) (o := mA f) (by rw [← l]; exact hr f)
  have J : PySem.W.InstAt s1.heap a _ C (some od) := ⟨ho, rfl, rfl, hod⟩
  exact HandSPX.exc_get I1.kIn J T.ga T.gg T.exC (PySem.W.findObj_own T.hdC hno rfl (by rw [hl, hu])) (handed_of ru) ⟨v, H1, I1.tok _, ru, q⟩
/-- isinstance(e, C), e an exception that is a value -/
def rIsV (K : PySem.W.Frag) : List V → Hp → VK → Prop := fun xs H Q => ∃ (a D : Addr) (dd : Option Addr) (c : V) (cv : Value) (b : Bool), xs = [.ref a, c] ∧ H a = some (exo a D dd) ∧ (∀ d, dd = some d → ∃ fs, H d = some (exd d fs)) ∧ ExcC K D ∧ (∀ u, RelV c u → u = cv) ∧ PySem.W.kitOne K (.ref D) cv = some b ∧ Q (.bl b) H
theorem call_isV : CallR X (.builtin "isinstance") (rIsV X.K) := by
  intro pins s σ H xs us Q I r h
  obtain ⟨a, D, dd, c, cv, b, rfl, ea, hd, C, hcv, e, q⟩ := h
  cases r with
  | cons rx rr =>
    cases rr with
    | cons rt rr =>
      cases rr
      cases rx
      have ec := hcv _ rt
      subst ec
      obtain ⟨t1, ho⟩ := exo_at I.hok ea
      have J : ∃ od, PySem.W.InstAt s.heap a { cls := .ref D, dict := dd, data := .fields #[.ref t1, .none, .none, .none, .bool false, .none] } D od := by
        cases dd with
        | none => exact ⟨none, ho, rfl, rfl, trivial⟩
        | some d =>
          obtain ⟨fs, hfs⟩ := hd d rfl
          obtain ⟨mA, hns, _⟩ := exd_at I.hok hfs
          obtain ⟨od, hod, _⟩ := lookIn_ns hns
          exact ⟨some od, ho, rfl, rfl, hod⟩
      obtain ⟨od, J⟩ := J
      exact PySem.W.kia_one (PySem.W.kitx_excA C.hg C.hk C.hs C.hd C.ha C.hn C.ht C.hm) I.kIn J e (fun z => nomatch z) fun tk => ⟨.bl b, H, I.kept (t' := tk) fun _ _ z => z, rfl, q⟩
end
end L2
namespace EK
open PySem PySem.Spec PyProof.Rows L2
/-! ### enumerate(t), t a tuple -/
theorem new_enum_tup (tp : Addr) (ys : Array Value) :
    Meets (Builtin.«enumerate.__new__» ⟨[.type "enumerate", .ref tp], []⟩) (fun _ R s => s.heap.IsTuple tp ys ∧
      R (.ok (.ret (.ref (s.heap.push { cls := .type "tuple_iterator", data := .fields #[.ref tp, .int 0 0] }).objs.size)))
        { s with heap := (s.heap.push { cls := .type "tuple_iterator", data := .fields #[.ref tp, .int 0 0] }).push { cls := .type "enumerate", data := .fields #[.none, .bool false, .ref s.heap.objs.size, rawInt 0, .none, .none] } }) :=
  .of_wp fun prog w A R s h => by
    obtain ⟨hp, g, d, tk, os⟩ := s
    obtain ⟨ht, h⟩ := h
    have sub1 := sub_enumerate
    have it1 : ∀ {A' : Around} {E : Value → Shared → Prop} {Q : Value → Shared → Prop}, Q (.ref hp.objs.size) ⟨hp.push { cls := .type "tuple_iterator", data := .fields #[.ref tp, .int 0 0] }, g, d, tk, os⟩ → wpAny (model prog w) A' (pyIter (.ref tp)) Q E ⟨hp, g, d, tk, os⟩ :=
      fun q => wpAny_pyIter_tuple (s := ⟨hp, g, d, tk, os⟩) ht q
    wp_walk using it1
    refine wpAny_stack_any fun st => wpAny_pure ?_
    split
    · rename_i c _ _ _ _ _
      cases (c == Value.type "enumerate")
      · wp_walk using it1
        exact ⟨_, rfl, h⟩
      · wp_walk using it1
        exact ⟨_, rfl, h⟩
    · wp_walk using it1
      exact ⟨_, rfl, h⟩
theorem made_enum_tup {prog : Program} {w : World} {A : Around} {E : Value → Shared → Prop} {s : Shared} {tp : Addr} {ys : Array Value} {Q : Value → Shared → Prop} (ht : s.heap.IsTuple tp ys)
    (h : ∀ h', IsEnum h' (s.heap.objs.size + 1) s.heap.objs.size 0 .none → h'.IsTupleIter s.heap.objs.size tp 0 → h'.objs.size = s.heap.objs.size + 2 →
      (∀ b o, s.heap.get? b = some o → h'.get? b = some o) → Q (.ref (s.heap.objs.size + 1)) { s with heap := h' }) :
    wpAny (model prog w) A (call (.type "enumerate") [.ref tp]) Q E s := by
  refine callType_new F.called_enumerate (by decide) (F.typeCall_enumerate_1 _) (F.newCall_enumerate_1 _) (fun obj => F.args_object_init_2 obj _) F.entry_enumerate_new
    (new_enum_tup tp ys) ⟨ht, ?_⟩
  have z1 : (s.heap.push { cls := .type "tuple_iterator", data := .fields #[.ref tp, .int 0 0] }).objs.size = s.heap.objs.size + 1 := Heap.size_push ..
  show _ ∧ _
  rw [z1]
  have e1 : IsEnum ((s.heap.push { cls := .type "tuple_iterator", data := .fields #[.ref tp, .int 0 0] }).push
      { cls := .type "enumerate", data := .fields #[.none, .bool false, .ref s.heap.objs.size, rawInt 0, .none, .none] }) (s.heap.objs.size + 1) s.heap.objs.size 0 .none := by
    have y := Heap.get?_push_size (s.heap.push { cls := .type "tuple_iterator", data := .fields #[.ref tp, .int 0 0] })
      (o := { cls := .type "enumerate", data := .fields #[.none, .bool false, .ref s.heap.objs.size, rawInt 0, .none, .none] }) rfl
    rw [z1] at y
    exact y
  refine ⟨⟨_, e1, rfl⟩, h _ e1 ⟨_, Heap.get?_push_of_some _ (Heap.get?_push_size _ rfl), rfl, rfl⟩ (by rw [Heap.size_push, z1]) fun b o x => Heap.get?_push_of_some _ (Heap.get?_push_of_some _ x)⟩
/-- the tuple at a, each item in a new pair -/
def ItT (K : PySem.W.Frag) (a : Addr) : It :=
  ⟨fun i H => ∃ (xs : List V) (x : V), SqT K H a xs ∧ xs[i]? = some x, fun i H v H' => ∃ T x, v = .ref T ∧ H T = none ∧ H' = upd H T (.tup [.int (i : Nat), x]) ∧ ∀ xs, SqT K H a xs → xs[i]? = some x, fun i H => ∃ xs : List V, SqT K H a xs ∧ xs.length ≤ i⟩
theorem apart_enum {h : Heap} {a e it : Addr} {i : Int} {old : Value} {ys : Array Value} {n : Nat} (p : h.IsTuple a ys) (he : IsEnum h e it i old) (hit : h.IsTupleIter it a n) : a ≠ it ∧ a ≠ e := by
  obtain ⟨o, h1, h2, _⟩ := p
  obtain ⟨o2, k1, k2, _⟩ := hit
  refine ⟨?_, ?_⟩
  · rintro rfl
    rw [h1] at k1
    injection k1 with k1
    rw [k1, k2] at h2
    revert h2
    decide
  · rintro rfl
    have he : h.get? a = _ := he
    rw [h1] at he
    injection he with he
    rw [he] at h2
    revert h2
    show (Value.type "enumerate" = Value.type "tuple") → False
    decide
theorem end_enum_tup {prog : Program} {w : World} {A : Around} {E : Value → Shared → Prop} {s : Shared} {e it a : Addr} {i : Nat} {c : Int} {ys : Array Value} {old : Value} {Q : Option Value → Shared → Prop} (hd : A.handled = none)
    (he : IsEnum s.heap e it c old) (hi : s.heap.IsTupleIter it a i) (ha : s.heap.IsTuple a ys) (hn : ys[i]? = none) (q : ∀ h', Heap.ExtBut it s.heap h' → Q none { s with heap := h' }) : wpAny (model prog w) A (pyNext (.ref e)) Q E s := by
  have ty : s.TypeIs (.ref e) "enumerate" := ⟨_, he, rfl⟩
  unfold pyNext
  refine wpAny_bind (wpAny_attempt (wpAny_callSpecial?_slot (name := Str.ofString "__next__") ty F.slot_enumerate_next (wpAny_call_entry F.slot_enumerate_next ty F.entry_enumerate_next ?_ (F.args_enumerate_next_1 _))))
  show wpAny _ _ (field (.ref e) 2 >>= _) _ _ _
  refine wpAny_bind (wpAny_field he rfl (x := .ref it) rfl ?_)
  refine wpAny_bind (wpAny_nextOf_tuple_end hd hi ha hn fun h2 y eb ey => ?_)
  obtain ⟨o, ho, ec⟩ := ey
  refine wpAny_bind (wpAny_isInstance (T := "StopIteration") (b := true) ⟨o, ho, ec⟩ isSubtype_stop ?_)
  exact wpAny_pure (q _ eb)
theorem turn_ItT {P : Program} {w : World} {K : PySem.W.Frag} {elts : List Expr} {kk : Nat} {tpos : Pos} (a e it : Addr) :
    Turn P w K (.Tuple elts kk tpos) (ItT K a) [e, it] e (fun i h => (∃ old, IsEnum h e it ((i : Nat) : Int) old) ∧ h.IsTupleIter it a i ∧ e ≠ it) where
  mem := by simp
  obj := fun i h st b hb => by
    obtain ⟨⟨old, he⟩, ⟨o, ho, hc, hd⟩, _⟩ := st
    rcases (by simpa using hb : b = e ∨ b = it) with z | z
    · rw [z]; exact ⟨_, he, fun v q => nomatch q⟩
    · rw [z]; exact ⟨o, ho, fun v q => by rw [hd] at q; cases q⟩
  keep := fun i h h' st k => let ⟨⟨old, he⟩, hi, hne⟩ := st; ⟨⟨old, k e (by simp) _ he⟩, hi.at fun o q => k it (by simp) o q, hne⟩
  item := by
    intro X hP hw hK hc i pins s σ H E I hf st hg
    subst hP hw hK
    obtain ⟨⟨old, he⟩, hit, hne⟩ := st
    obtain ⟨xs, x, hq, hx⟩ := hg
    obtain ⟨its, rv, p, hz⟩ := I.tuple hq
    obtain ⟨u, hu, ru⟩ := rv.get hx
    have p2 : s.heap.IsTuple a its.toArray := p
    obtain ⟨a1, a2⟩ := apart_enum p2 he hit
    have hel : e < s.heap.objs.size := Heap.lt_size he
    have hil : it < s.heap.objs.size := by obtain ⟨_, q, _⟩ := hit; exact Heap.lt_size q
    have hlt : i < its.toArray.size := by
      rw [List.size_toArray]
      exact (List.getElem?_eq_some_iff.mp hu).1
    refine wpAny_pyNext_enum_itemD (Draws.tuple (A := X.A.in1) (I.ok.hd hc) it a a1 its.toArray) he ⟨hit, p2⟩ hlt hne (by simp [hne, Ne.symm a2]) fun u' h' tk hu' ho st' hT hsz hk => ?_
    obtain rfl : u = u' := by
      have : its[i]? = some u' := by simpa using hu'
      exact Option.some.inj (hu.symm.trans this)
    refine ⟨_, rfl, wpAny_letOwnedTupleGo_enum (s := { s with heap := h', toks := tk + 1 }) ho fun h'' he' sb => ?_⟩
    have hT2 : h''.get? s.heap.objs.size = some { cls := .type "tuple", data := .seq #[.int i tk, u] } := (sb.2 _ (Nat.ne_of_gt hel)).trans hT
    have new : ObjOk X.prog X.w (upd H s.heap.objs.size (.tup [.int (i : Nat), x])) h'' s.heap.objs.size (.tup [.int (i : Nat), x]) :=
      ⟨by show 2 ≤ sizeLine; decide, [.int i tk, u], .cons ⟨_, rfl⟩ (.cons ru .nil), ⟨_, hT2, rfl, _, rfl⟩⟩
    have I1 : Inv X pins σ (upd H s.heap.objs.size (.tup [.int (i : Nat), x])) { s with heap := h'', toks := tk + 1 } :=
      I.turnedNew (ch := [e, it]) (fun b ob hb q => (sb.2 b (fun z => hb (by simp [z]))).trans (hk b ob (fun z => hb (by simp [z])) (fun z => hb (by simp [z])) q)) hf (Nat.le_refl _) new
    refine ⟨.ref s.heap.objs.size, _, I1, rfl, ⟨_, x, rfl, I.hok.fresh (Nat.le_refl _), rfl, fun ys hy => ?_⟩, ⟨⟨u, ?_⟩, st'.1.at fun o q => (sb.2 it (Ne.symm hne)).trans q, hne⟩, fun b hb => ?_⟩
    · rw [I.tuple_inj hy hq]
      exact hx
    · rw [show ((i + 1 : Nat) : Int) = (i : Int) + 1 by omega]
      exact he'
    · have hb' : b < s.heap.objs.size := by
        rcases (by simpa using hb : b = e ∨ b = it) with z | z
        · rw [z]; exact hel
        · rw [z]; exact hil
      rw [upd_ne (Nat.ne_of_lt hb')]
      exact (hf b hb).1
  done := by
    intro X hP hw hK hc i pins s σ H E I hf st hg
    subst hP hw hK
    obtain ⟨⟨old, he⟩, hit, hne⟩ := st
    obtain ⟨xs, hq, hx⟩ := hg
    obtain ⟨its, rv, p, hz⟩ := I.tuple hq
    have p2 : s.heap.IsTuple a its.toArray := p
    obtain ⟨f0, f1, f2, f3, f4, f5⟩ := hf it (by simp)
    have hl := rv.length
    exact end_enum_tup (I.ok.hd hc) he hit p2 (by rw [← Array.getElem?_toList]; exact List.getElem?_eq_none (by show its.length ≤ i; omega)) fun h' eb => ⟨rfl, I.turned (t' := s.toks) (fun b o hb q => eb b o hb q) f0 f1 f3 f4 f5⟩
  self := fun A i s Q E st h => let ⟨⟨_, he⟩, _⟩ := st; wpAny_pyIter_enum he h
def iEnT (K : PySem.W.Frag) (ta : TA) : TI := fun σ H R => ta σ H fun vs H1 => ∃ a xs, vs = [.ref a] ∧ SqT K H1 a xs ∧ R (ItT K a) H1
theorem pi_enT {X : Cx} {e : Expr} {ta : TA} {p pos tpos : Pos} {elts : List Expr} {kk : Nat} (hg : Gl X "enumerate") (hm : X.mg "enumerate" = none) (ha : PA X [e] ta) (hs : starEach [e] X.env = [(false, eval e X.env)] := by rfl) :
    PI X (.Tuple elts kk tpos) (.Call (.Name "enumerate" p) [e] [] pos) (iEnT X.K ta) := by
  refine ⟨fun pins s σ H R I h => ?_⟩
  refine Call_ (ld_blt I hg hm boot_enumerate (PyProof.Rows.callWith_type1 (thn (ha.run pos pins s σ H _ I h) fun us s1 ⟨vs, H1, I1, r1, q1⟩ => ?_) hs rfl))
  obtain ⟨a, xs, rfl, hq, q⟩ := q1
  cases r1 with
  | cons r rr =>
    cases rr
    cases r
    obtain ⟨its, rv, p', hz⟩ := I1.tuple hq
    have p2 : s1.heap.IsTuple a its.toArray := p'
    refine made_enum_tup p2 fun h' he hit hsz hk => wpAny_pyIter_enum he ?_
    have I2 : Inv X pins σ H1 { s1 with heap := h' } := I1.kept (t' := s1.toks) hk
    refine ⟨s1.heap.objs.size + 1, [s1.heap.objs.size + 1, s1.heap.objs.size], _, _, H1, rfl, I2, turn_ItT a (s1.heap.objs.size + 1) s1.heap.objs.size, ⟨⟨.none, he⟩, hit, Nat.succ_ne_self _⟩, fun b hb => ?_, q⟩
    have hle : s1.heap.objs.size ≤ b := by
      rcases (by simpa using hb : b = s1.heap.objs.size + 1 ∨ b = s1.heap.objs.size) with z | z
      · rw [z]; exact Nat.le_add_right _ _
      · rw [z]; exact Nat.le_refl _
    exact I1.fpOk hle (I1.hok.fresh hle)
theorem walk_enT {K : PySem.W.Frag} {a : Addr} {xs : List V} : Walk (ItT K a) xs.length (fun H => SqT K H a xs) (YPair (fun i => some (.int (i : Nat))) (fun i => xs[i]?)) := by
  refine ⟨fun i _ hi q => ⟨xs, xs[i], q, by simp [hi]⟩, fun _ q => ⟨xs, q, Nat.le_refl _⟩, fun i H v H' _ q y => ?_⟩
  obtain ⟨T, x, h1, h2, h3, h4⟩ := y
  exact ⟨T, .int (i : Nat), x, h1, h2, h3, rfl, h4 xs q⟩
/-! ### list.extend(t), t a tuple -/
def rExtT : V → List V → Hp → VK → Prop := fun x vs H Q => ∃ l b xs zs, x = .ref l ∧ vs = [.ref b] ∧ H l = some (.lst xs) ∧ H b = some (.tup zs) ∧ xs.length + zs.length ≤ sizeLine ∧ Q .non (upd H l (.lst (xs ++ zs)))
theorem tuple_plain : True := True.intro
/-! ### t + u, t[lo:hi]: some tuple of the items -/
def rCatU (K : PySem.W.Frag) : R2 := fun x y H Q => ∃ a b xs ys, x = .ref a ∧ y = .ref b ∧ SqT K H a xs ∧ SqT K H b ys ∧ xs.length + ys.length ≤ sizeLine ∧ ∀ p H', Same H H' → SqT K H' p (xs ++ ys) → Q (.ref p) H'
theorem same_new {H : Hp} {p : Addr} {o : HO} (h : H p = none) : Same H (upd H p o) := fun b x e => by
  by_cases z : b = p
  · rw [z, h] at e
    cases e
  · rw [upd_ne z]
    exact e
theorem op_catU {X : Cx} : OpR X (binaryOp .Add) (rCatU X.K) := by
  intro pins s σ H x y v u Q I rx ry h
  obtain ⟨a, b, xs, ys, e1, e2, ha, hb, hz, q⟩ := h
  refine op_catA pins s σ H x y v u Q I rx ry ⟨a, b, xs, ys, e1, e2, ha, hb, hz, fun e => ?_, fun _ e => ?_, fun _ _ p np => ?_⟩
  · subst e
    exact q b H (Same.refl _) hb
  · subst e
    have z := q a H (Same.refl _) (by rw [List.append_nil]; exact ha)
    exact z
  · exact q p _ (same_new np) (SqT.of upd_same)
def rSlU (K : PySem.W.Frag) : V → Option Int → Option Int → Hp → VK → Prop := fun x lo hi H Q => ∃ a xs, x = .ref a ∧ SqT K H a xs ∧ ∀ p H', Same H H' → SqT K H' p (cutV xs lo hi) → Q (.ref p) H'
theorem sl_tupU {X : Cx} : SlR X (rSlU X.K) := by
  intro pins s σ H x v vl vu lo hi sl Q I rx hs pl pu h
  obtain ⟨a, xs, e, hx, q⟩ := h
  refine sl_tupA pins s σ H x v vl vu lo hi sl Q I rx hs pl pu ⟨a, xs, e, hx, fun z => ?_, fun _ p np => ?_⟩
  · have : cutV xs lo hi = xs := by
      unfold cutV
      rw [z.1, z.2, List.drop_zero, Nat.sub_zero, List.take_length]
    exact q a H (Same.refl _) (by rw [this]; exact hx)
  · exact q p _ (same_new np) (SqT.of upd_same)
/-! ### == of texts, or of data -/
def rEqU (K : PySem.W.Frag) : R2 := fun x y H Q => ∃ (d e : PyData), Dp K H x d ∧ Dp K H y e ∧ ((∃ a b, d = .str a ∧ e = .str b) ∨ (SeqAt.shaped d = true ∧ SeqAt.shaped e = true)) ∧ Q (.bl (PyData.eqv d e)) H
theorem op_eqU {X : Cx} (hu : X.A.units + 64 < cLine) : OpR X (compareOp .Eq) (rEqU X.K) := by
  intro pins s σ H x y v u Q I rx ry h
  obtain ⟨d, e, hd, he, hc, q⟩ := h
  rcases hc with ⟨a, b, rfl, rfl⟩ | ⟨sd, se⟩
  · cases hd
    cases he
    refine op_eq pins s σ H _ _ v u Q I rx ry ⟨rfl, ?_⟩
    rw [dec_str]
    simpa [PyData.eqv] using q
  · exact op_eqD hu pins s σ H x y v u Q I rx ry ⟨d, e, hd, he, sd, se, q⟩
end EK
namespace L2
open PySem PySem.Spec PyProof.Rows
/-! try .. except X as n .. and more clauses behind it that are never come to -/
def wAs1 (K : PySem.W.Frag) (c : Value) (i : Nat) (ts : Addr → Value → Option Addr → TS) (D : Ends) : WX := fun cls d σ H =>
  PySem.W.exmOne K cls c = some true ∧ ∀ a, H a = none → ts a cls d { nx := fun σ2 H2 => D.nx (σ2.set i none) H2, rt := D.rt, bk := fun σ2 H2 => D.bk (σ2.set i none) H2, ct := fun σ2 H2 => D.ct (σ2.set i none) H2 } (σ.set i (some (.ref a))) H
section
variable {X : Cx} {x n : Str} {c : Value} {i : Nat} {body suite : List Stmt} {hds : List ExceptHandler} {b₀ : Stmt} {np pos pos' : Pos} {tb : WX → TS} {ts : Addr → Value → Option Addr → TS}
theorem ps_try_as1 (hs : X.stack = X.env :: X.outer) (hf : X.env.frame = some X.env.locals) (hN : X.N.Nodup) (hi : X.N[i]? = some n) (hln : X.env.kindOf n = some .local) (hc : Names X x c)
    (hb : ∀ (W : WX) (pn : List (Addr × Obj)) (xe : Value → Shared → Prop), Takes (X.tr pn xe) W → PassesOwn (model X.prog X.w) X.A X.env xe → PSs (X.tr pn xe) body (tb W))
    (hsu : ∀ (a : Addr) (oe : Obj) (cls : Value) (d : Option Addr) (pn : List (Addr × Obj)), Zc cls d oe → (∃ vs, oe.data = .fields vs) → PSs (X.suite a ((a, oe) :: pn)) (b₀ :: suite) (ts a cls d)) :
    PS X (.Try body (.ExceptHandler (some (.Name x np)) (some n) (b₀ :: suite) pos' :: hds) [] [] pos) (fun D σ H => tb (wAs1 X.K c i ts D) D σ H) := by
  refine ⟨fun pins s σ H D I h => ?_⟩
  have ok := I.ok
  have hfr : X.A.frames = some (X.env :: X.outer) := by rw [ok.frames, hs]
  have hloc : Loc X.env.scope n := .inl hln
  refine wpAny_Try_except ?_
  refine wpAny_mono ((hb (wAs1 X.K c i ts D) (X.pn ++ pins) (fun e s₁ => wpAny (model X.prog X.w) X.A (noteFrame e X.env) (fun _ s₂ => wpAny (model X.prog X.w) X.A (setFlight e none) (fun _ s₃ =>
    wpAny (model X.prog X.w) X.A (handleBy e X.env (.ExceptHandler (some (.Name x np)) (some n) (b₀ :: suite) pos' :: hds)) (SP X pins D) X.xe s₃) X.xe s₂) X.xe s₁) (fun u s' xx => ?_) PassesOwn.looking).run [] s σ H D (I.toTry _) h) (fun f s1 hsp => ?_) (fun e s1 he => he)
  · -- the catch
    obtain ⟨a, B, sI, pins2, σ2, H2, cls, d, rfl, J', nb, up, air, na, os, ag, hb1, hyes⟩ := xx
    have J : Inv X pins σ2 H2 sI := J'.ofTry ok
    have sky' : Sky B (X.env :: X.outer) a (Zc cls d) X.env.locals s'.heap := by rw [← hs]; exact air
    show wpAny (model X.prog X.w) X.A (noteFrame (.ref a) X.env) _ _ _
    refine Sky.land Zc.steady hfr hf sky' fun h3 fy3 ux3 => ?_
    have K3 : Inv X pins σ2 H2 { s' with heap := h3 } := J.landed nb fy3.1 (up.trans ux3) os ag
    obtain ⟨ob3, ws3, ge3, gz3, gd3⟩ := fy3.there
    have outFr : ∀ {h : Heap} {o : Obj} {vs : Array Value}, h.FunFrames B (X.env :: X.outer) → h.get? a = some o → o.data = .fields vs → a ∉ frs (X.env :: X.outer) := fun {h o vs} ff e dd hm => by
      obtain ⟨_, o', e', hnf⟩ := ff.mem hm
      rw [e] at e'; cases e'
      exact hnf _ dd
    have nof := outFr fy3.2.2.1 ge3 gd3
    have nl0 : a ≠ X.env.locals := fun z => nof (List.mem_filterMap.mpr ⟨X.env, List.mem_cons_self, by rw [hf, z]⟩)
    have nf0 : a ∉ X.fs := fun hm => by
      obtain ⟨e, he, q⟩ := List.mem_filterMap.mp hm
      exact nof (List.mem_filterMap.mpr ⟨e, List.mem_cons_of_mem _ he, q⟩)
    have T3 := K3.suite ge3 gd3 na nl0 nf0
    refine wpAny_handleBy_cons (codeAny_handlers_test ?_) (by intro q; cases q)
    have ty0 : PySem.W.Looks (model X.prog X.w) h3 (typeOf (.ref a)) cls := fun A Q E s k q => wpAny_typeOf_ref (k _ _ ge3) (by rw [gz3.1]; exact q)
    have mt0 := PySem.W.exm_one (M := model X.prog X.w) (K3.kIn) ty0 hb1
    have test : ∀ {Q : Value → Shared → Prop} {E : Value → Shared → Prop}, Q c { s' with heap := h3 } → wpAny (model X.prog X.w) (X.A.mark (some (.ref a))) (eval (.Name x np) X.env) Q E { s' with heap := h3 } := fun {Q E} q => by
      obtain ⟨hg, hdbg, hm | ⟨hm, hv, hnn⟩⟩ := hc
      · exact ld_glob (X := X.suite a ((a, ob3) :: (X.pn ++ pins))) T3 hg hm q hdbg
      · exact ld_blt (X := X.suite a ((a, ob3) :: (X.pn ++ pins))) T3 hg hm hv q hnn hdbg
    refine test (mt0.here ?_)
    refine codeAny_handlers_suite_as ?_
    refine HandSPX.lands_againZ fy3 fun h4 fy4 ux4 => ?_
    have K4 : Inv X pins σ2 H2 { s' with heap := h4 } := J.landed nb fy4.1 ((up.trans ux3).trans ux4) os ag
    obtain ⟨ob4, ws4, ge4, gz4, gd4⟩ := fy4.there
    have T4 := K4.suite ge4 gd4 na nl0 nf0
    refine store_ok (X := X.suite a ((a, ob4) :: (X.pn ++ pins))) (v := .ref a) T4 hN hi hloc rfl (fun s5 S5 => ?_) (.inr hln)
    refine wpAny_mono ((hsu a ob4 cls d (X.pn ++ pins) gz4 ⟨_, gd4⟩).run [] s5 _ H2 _ S5 (hyes a na)) (fun f s6 hsp => ?_) (fun _ _ z => False.elim z)
    have fin6 : ∀ {σ6 : St} {H6 : Hp} {Q : Shared → Prop}, Inv (X.suite a ((a, ob4) :: (X.pn ++ pins))) [] σ6 H6 s6 → (∀ s7, Inv X pins (σ6.set i none) H6 s7 → Q s7) →
        wpAny (model X.prog X.w) X.A (do bindName X.env n .none; unbindBehindTheSuite X.env n pos') (fun _ s7 => Q s7) X.xe s6 := fun {σ6 H6 Q} S6 hq => gone_ok (S6.unsuite ok) hN hi hln hq
    cases f with
    | next =>
      obtain ⟨σ6, H6, S6, q6⟩ := hsp
      exact fin6 S6 fun s7 J7 => ⟨_, _, J7, q6⟩
    | brk =>
      obtain ⟨σ6, H6, S6, q6⟩ := hsp
      exact fin6 S6 fun s7 J7 => ⟨_, _, J7, q6⟩
    | cont =>
      obtain ⟨σ6, H6, S6, q6⟩ := hsp
      exact fin6 S6 fun s7 J7 => ⟨_, _, J7, q6⟩
    | ret u =>
      obtain ⟨v6, σ6, H6, S6, r6, q6⟩ := hsp
      exact fin6 S6 fun s7 J7 => ⟨_, _, _, J7, r6, q6⟩
  · cases f with
    | next =>
      obtain ⟨σ2, H2, J', q⟩ := hsp
      exact wpAny_execs_nil ⟨σ2, H2, J'.ofTry ok, q⟩
    | brk =>
      obtain ⟨σ2, H2, J', q⟩ := hsp
      exact ⟨σ2, H2, J'.ofTry ok, q⟩
    | cont =>
      obtain ⟨σ2, H2, J', q⟩ := hsp
      exact ⟨σ2, H2, J'.ofTry ok, q⟩
    | ret u =>
      obtain ⟨v, σ2, H2, J', r, q⟩ := hsp
      exact ⟨v, σ2, H2, J'.ofTry ok, r, q⟩
end
/-- isinstance(e, c), e the exception that the suite holds, with its fields -/
def rIsE2 (K : PySem.W.Frag) (cls : Value) (dd : Option Addr) (a : Addr) : List V → Hp → VK → Prop := fun xs H Q => ∃ (D d : Addr) (fs : List (Str × V)), cls = .ref D ∧ dd = some d ∧ H d = some (.xd fs) ∧ ExcC K D ∧ rIsE K D a xs H Q
theorem call_isE2 {X : Cx} {a : Addr} {cls : Value} {dd : Option Addr} {oe : Obj} {pn : List (Addr × Obj)} (hz : Zc cls dd oe) (hf : ∃ vs, oe.data = .fields vs) : CallR (X.suite a ((a, oe) :: pn)) (.builtin "isinstance") (rIsE2 X.K cls dd a) := by
  intro pins s σ H xs us Q I r h
  obtain ⟨D, d, fs, rfl, rfl, hd, C, c, cv, b, rfl, hcv, e, q⟩ := h
  cases r with
  | cons rx rr =>
    cases rr with
    | cons rt rr =>
      cases rr
      cases rx
      have ec := hcv _ rt
      subst ec
      obtain ⟨hget, _⟩ := I.pin (a, oe) (List.mem_append.mpr (.inl List.mem_cons_self))
      obtain ⟨vs, hv⟩ := hf
      obtain ⟨mA, hns, _⟩ := (show ObjOk X.prog X.w H s.heap d (.xd fs) from I.hok d _ hd)
      obtain ⟨od, hod, _⟩ := lookIn_ns hns
      have J : PySem.W.InstAt s.heap a oe D (some od) := by
        obtain ⟨oc, od', oda, osl⟩ := oe
        obtain ⟨h1, h2⟩ := hz
        dsimp only at h1 h2 hv
        subst h1 h2 hv
        exact ⟨hget, rfl, rfl, hod⟩
      exact PySem.W.kia_one (PySem.W.kitx_excA C.hg C.hk C.hs C.hd C.ha C.hn C.ht C.hm) I.kIn J e (fun z => nomatch z) fun tk => ⟨.bl b, H, I.kept (t' := tk) fun _ _ z => z, rfl, q⟩
end L2
/-! Md0: data, slots, outcomes; what own things and frozen things are on the heap. -/
namespace Md
open PySem PySem.Spec PyProof.Rows L2
abbrev D := PyData
/-- an own thing: one name alone leads to it -/
inductive Mu where
  | lst (ds : List D)
  | obj (c : Str) (fs : List (D × D))
def Mu.toD : Mu → D
  | .lst ds => .list ds
  | .obj c fs => .dict ((.none, .str c) :: fs)
inductive Sl where
  | un
  | sh (d : D)
  | ow (pin : Bool) (m : Mu)
inductive Rv where
  | sh (d : D)
  | ow (m : Mu)
def Rv.toD : Rv → D
  | .sh d => d
  | .ow m => m.toD
abbrev Sto := List Sl
structure Ex where
  c : Str
  fs : List (D × D)
inductive Out (α : Type) where
  | st
  | ok (a : α) (ρ : Sto)
  | er (x : Ex) (ρ : Sto)
def Out.bind {α β : Type} (o : Out α) (k : α → Sto → Out β) : Out β :=
  match o with
  | .st => .st
  | .ok a ρ => k a ρ
  | .er x ρ => .er x ρ
inductive Ow where
  | res
  | slot (i : Nat)
  deriving DecidableEq
mutual
inductive Vr (K : PySem.W.Frag) (mg : Str → Option Value) (F : Hp) : V → D → Prop
  | no : Vr K mg F .non .none
  | bo (b : Bool) : Vr K mg F (.bl b) (.bool b)
  | num (i : Int) : Vr K mg F (.int i) (.int i)
  | txt (x : Str) : Vr K mg F (.str x) (.str x)
  | li {a : Addr} {xs : List V} {ds : List D} : F a = some (.lst xs) → VrA K mg F xs ds → Vr K mg F (.ref a) (.list ds)
  | tu {a : Addr} {xs : List V} {ds : List D} : SqT K F a xs → VrA K mg F xs ds → Vr K mg F (.ref a) (.tuple ds)
  /-- a list that is not ours: it may be cut -/
  | fl {a : Addr} {xs : List V} {ds : List D} : SqL K F a xs → VrA K mg F xs ds → Vr K mg F (.ref a) (.dict [(.bool true, .list ds)])
  | ob {a C dx : Addr} {c : Str} {vs : List (Str × V)} {fs : List (D × D)} : mg c = some (.ref C) → F a = some (.ins C dx vs) → F dx = some (.own a) → VrF K mg F vs fs → Vr K mg F (.ref a) (.dict ((.none, .str c) :: fs))
inductive VrA (K : PySem.W.Frag) (mg : Str → Option Value) (F : Hp) : List V → List D → Prop
  | nil : VrA K mg F [] []
  | cons {v : V} {vs : List V} {d : D} {ds : List D} : Vr K mg F v d → VrA K mg F vs ds → VrA K mg F (v :: vs) (d :: ds)
inductive VrF (K : PySem.W.Frag) (mg : Str → Option Value) (F : Hp) : List (Str × V) → List (D × D) → Prop
  | nil : VrF K mg F [] []
  | cons {f : Str} {v : V} {vs : List (Str × V)} {d : D} {fs : List (D × D)} : Vr K mg F v d → VrF K mg F vs fs → VrF K mg F ((f, v) :: vs) ((.str f, d) :: fs)
end
variable {K : PySem.W.Frag} {mg : Str → Option Value} {F F' H H' : Hp}
theorem Same.rd {a : Addr} {u : HO} (e : Same H H') (h : Rd H a u) : Rd H' a u := by
  rcases h with h | ⟨o, h⟩
  · exact .inl (e _ _ h)
  · exact .inr ⟨o, e _ _ h⟩
theorem Same.sqL {a : Addr} {xs : List V} (e : Same H H') (h : SqL K H a xs) : SqL K H' a xs := by
  rcases h with h | h
  · exact .inl (Same.rd e h)
  · exact .inr h
theorem Same.sqT {a : Addr} {xs : List V} (e : Same H H') (h : SqT K H a xs) : SqT K H' a xs := by
  rcases h with h | h
  · exact .inl (Same.rd e h)
  · exact .inr h
mutual
theorem Vr.same (s : Same F F') : ∀ (d : D) {v : V}, Vr K mg F v d → Vr K mg F' v d
  | .none, _, h => by cases h; exact .no
  | .bool b, _, h => by cases h; exact .bo b
  | .int i, _, h => by cases h; exact .num i
  | .str x, _, h => by cases h; exact .txt x
  | .list ds, _, h => by
    cases h with
    | li h1 h2 => exact .li (s _ _ h1) (VrA.same s ds h2)
  | .tuple ds, _, h => by
    cases h with
    | tu h1 h2 => exact .tu (Same.sqT s h1) (VrA.same s ds h2)
  | .dict ((.none, .str c) :: fs), _, h => by
    cases h with
    | ob h1 h2 h3 h4 => exact .ob h1 (s _ _ h2) (s _ _ h3) (VrF.same s fs h4)
  | .dict [], _, h => by cases h
  | .dict [(.bool true, .list ds)], _, h => by
    cases h with
    | fl h1 h2 => exact .fl (Same.sqL s h1) (VrA.same s ds h2)
  | .dict ((.bool true, .list _) :: _ :: _), _, h => by cases h
  | .dict ((.bool false, _) :: _), _, h => by cases h
  | .dict ((.bool true, .none) :: _), _, h => by cases h
  | .dict ((.bool true, .bool _) :: _), _, h => by cases h
  | .dict ((.bool true, .int _) :: _), _, h => by cases h
  | .dict ((.bool true, .str _) :: _), _, h => by cases h
  | .dict ((.bool true, .tuple _) :: _), _, h => by cases h
  | .dict ((.bool true, .dict _) :: _), _, h => by cases h
  | .dict ((.int _, _) :: _), _, h => by cases h
  | .dict ((.str _, _) :: _), _, h => by cases h
  | .dict ((.list _, _) :: _), _, h => by cases h
  | .dict ((.tuple _, _) :: _), _, h => by cases h
  | .dict ((.dict _, _) :: _), _, h => by cases h
  | .dict ((.none, .none) :: _), _, h => by cases h
  | .dict ((.none, .bool _) :: _), _, h => by cases h
  | .dict ((.none, .int _) :: _), _, h => by cases h
  | .dict ((.none, .list _) :: _), _, h => by cases h
  | .dict ((.none, .tuple _) :: _), _, h => by cases h
  | .dict ((.none, .dict _) :: _), _, h => by cases h
theorem VrA.same (s : Same F F') : ∀ (ds : List D) {vs : List V}, VrA K mg F vs ds → VrA K mg F' vs ds
  | [], _, h => by cases h; exact .nil
  | d :: ds, _, h => by
    cases h with
    | cons h1 h2 => exact .cons (Vr.same s d h1) (VrA.same s ds h2)
theorem VrF.same (s : Same F F') : ∀ (fs : List (D × D)) {vs : List (Str × V)}, VrF K mg F vs fs → VrF K mg F' vs fs
  | [], _, h => by cases h; exact .nil
  | (.str f, d) :: fs, _, h => by
    cases h with
    | cons h1 h2 => exact .cons (Vr.same s d h1) (VrF.same s fs h2)
  | (.none, _) :: _, _, h => by cases h
  | (.bool _, _) :: _, _, h => by cases h
  | (.int _, _) :: _, _, h => by cases h
  | (.list _, _) :: _, _, h => by cases h
  | (.tuple _, _) :: _, _, h => by cases h
  | (.dict _, _) :: _, _, h => by cases h
end

mutual
def plain : D → Bool
  | .dict _ => false
  | .list ds => plainA ds
  | .tuple ds => plainA ds
  | _ => true
def plainA : List D → Bool
  | [] => true
  | d :: ds => plain d && plainA ds
end
mutual
theorem Vr.dp : ∀ (d : D) {v : V}, Vr K mg F v d → plain d = true → Dp K F v d
  | .none, _, h, _ => by cases h; exact .non
  | .bool b, _, h, _ => by cases h; exact .bl b
  | .int i, _, h, _ => by cases h; exact .int i
  | .str x, _, h, _ => by cases h; exact .str x
  | .list ds, _, h, p => by
    cases h with
    | li h1 h2 => exact .lst (SqL.of h1) (VrA.dp ds h2 p)
  | .tuple ds, _, h, p => by
    cases h with
    | tu h1 h2 => exact .tup h1 (VrA.dp ds h2 p)
  | .dict _, _, h, p => by cases p
theorem VrA.dp : ∀ (ds : List D) {vs : List V}, VrA K mg F vs ds → plainA ds = true → DpAll K F vs ds
  | [], _, h, _ => by cases h; exact .nil
  | d :: ds, _, h, p => by
    have p : (plain d && plainA ds) = true := p
    rw [Bool.and_eq_true] at p
    cases h with
    | cons h1 h2 => exact .cons (Vr.dp d h1 p.1) (VrA.dp ds h2 p.2)
end
theorem VrA.len : ∀ {ds : List D} {vs : List V}, VrA K mg F vs ds → vs.length = ds.length
  | [], _, h => by cases h; rfl
  | d :: ds, _, h => by
    cases h with
    | cons h1 h2 => rw [List.length_cons, List.length_cons, h2.len]
theorem VrA.get : ∀ {ds : List D} {vs : List V} {i : Nat} {v : V}, VrA K mg F vs ds → vs[i]? = some v → ∃ d, ds[i]? = some d ∧ Vr K mg F v d
  | [], vs, i, v, h, e => by cases h; cases e
  | d :: ds, _, 0, v, h, e => by
    cases h with
    | cons h1 h2 =>
      cases e
      exact ⟨d, rfl, h1⟩
  | d :: ds, _, i + 1, v, h, e => by
    cases h with
    | cons h1 h2 => exact VrA.get (i := i) h2 e
theorem VrA.at : ∀ {ds : List D} {vs : List V} {i : Nat} {d : D}, VrA K mg F vs ds → ds[i]? = some d → ∃ v, vs[i]? = some v ∧ Vr K mg F v d
  | [], vs, i, v, h, e => by cases e
  | d :: ds, _, 0, v, h, e => by
    cases h with
    | cons h1 h2 =>
      cases e
      exact ⟨_, rfl, h1⟩
  | d :: ds, _, i + 1, v, h, e => by
    cases h with
    | cons h1 h2 => exact VrA.at (i := i) h2 e
theorem VrA.app : ∀ {ds es : List D} {vs us : List V}, VrA K mg F vs ds → VrA K mg F us es → VrA K mg F (vs ++ us) (ds ++ es)
  | [], es, vs, us, h, k => by cases h; exact k
  | d :: ds, es, vs, us, h, k => by
    cases h with
    | cons h1 h2 => exact .cons h1 (VrA.app h2 k)
theorem VrA.take : ∀ {ds : List D} {vs : List V} (n : Nat), VrA K mg F vs ds → VrA K mg F (vs.take n) (ds.take n)
  | _, _, 0, h => by rw [List.take_zero, List.take_zero]; exact .nil
  | [], _, n + 1, h => by cases h; exact .nil
  | d :: ds, _, n + 1, h => by
    cases h with
    | cons h1 h2 => exact .cons h1 (VrA.take n h2)
theorem VrA.drop : ∀ {ds : List D} {vs : List V} (n : Nat), VrA K mg F vs ds → VrA K mg F (vs.drop n) (ds.drop n)
  | _, _, 0, h => h
  | [], _, n + 1, h => by cases h; exact .nil
  | d :: ds, _, n + 1, h => by
    cases h with
    | cons h1 h2 => exact VrA.drop n h2
theorem VrA.set : ∀ {ds : List D} {vs : List V} (i : Nat) {v : V} {d : D}, VrA K mg F vs ds → Vr K mg F v d → VrA K mg F (vs.set i v) (ds.set i d)
  | [], _, i, v, d, h, k => by cases h; exact .nil
  | d :: ds, _, 0, v, e, h, k => by
    cases h with
    | cons h1 h2 => exact .cons k h2
  | d :: ds, _, i + 1, v, e, h, k => by
    cases h with
    | cons h1 h2 => exact .cons h1 (VrA.set i h2 k)
theorem VrA.erase : ∀ {ds : List D} {vs : List V} (i : Nat), VrA K mg F vs ds → VrA K mg F (vs.eraseIdx i) (ds.eraseIdx i)
  | [], _, i, h => by cases h; exact .nil
  | d :: ds, _, 0, h => by
    cases h with
    | cons h1 h2 => exact h2
  | d :: ds, _, i + 1, h => by
    cases h with
    | cons h1 h2 => exact .cons h1 (VrA.erase i h2)
theorem VrA.rev {ds : List D} {vs : List V} (h : VrA K mg F vs ds) : VrA K mg F vs.reverse ds.reverse := by
  induction ds generalizing vs with
  | nil => cases h; exact .nil
  | cons d ds ih =>
    cases h with
    | cons h1 h2 =>
      rw [List.reverse_cons, List.reverse_cons]
      exact VrA.app (ih h2) (.cons h1 .nil)
theorem VrA.cut {ds : List D} {vs : List V} (a b : Nat) (h : VrA K mg F vs ds) : VrA K mg F ((vs.drop a).take b) ((ds.drop a).take b) := VrA.take b (VrA.drop a h)
theorem VrA.bools : ∀ {bs : List Bool}, VrA K mg F (bs.map .bl) (bs.map .bool)
  | [] => .nil
  | b :: bs => .cons (.bo b) VrA.bools
theorem VrA.ints : ∀ {bs : List Int}, VrA K mg F (bs.map .int) (bs.map .int)
  | [] => .nil
  | b :: bs => .cons (.num b) VrA.ints
theorem VrA.strs : ∀ {bs : List Str}, VrA K mg F (bs.map .str) (bs.map .str)
  | [] => .nil
  | b :: bs => .cons (.txt b) VrA.strs
theorem VrA.bools_inv : ∀ {bs : List Bool} {vs : List V}, VrA K mg F vs (bs.map .bool) → vs = bs.map .bl
  | [], _, h => by cases h; rfl
  | b :: bs, _, h => by
    cases h with
    | cons h1 h2 =>
      cases h1
      rw [VrA.bools_inv h2]
      rfl
theorem VrA.strs_inv : ∀ {bs : List Str} {vs : List V}, VrA K mg F vs (bs.map .str) → vs = bs.map .str
  | [], _, h => by cases h; rfl
  | b :: bs, _, h => by
    cases h with
    | cons h1 h2 =>
      cases h1
      rw [VrA.strs_inv h2]
      rfl
theorem VrA.ints_inv : ∀ {bs : List Int} {vs : List V}, VrA K mg F vs (bs.map .int) → vs = bs.map .int
  | [], _, h => by cases h; rfl
  | b :: bs, _, h => by
    cases h with
    | cons h1 h2 =>
      cases h1
      rw [VrA.ints_inv h2]
      rfl
theorem VrF.get : ∀ {fs : List (D × D)} {vs : List (Str × V)} {f : Str} {d : D}, VrF K mg F vs fs → fs.find? (fun p => match p.1 with | .str g => g == f | _ => false) = some (.str f, d) → ∃ v, vs.lookup f = some v ∧ Vr K mg F v d
  | [], _, f, d, h, e => by cases e
  | p :: fs, _, f, d, h, e => by
    cases h with
    | @cons g v vs d0 _ h1 h2 =>
      rw [List.find?_cons] at e
      cases hq : (g == f) with
      | true =>
        have e2 : g = f := eq_of_beq hq
        subst e2
        simp only [hq] at e
        cases e
        exact ⟨v, by rw [List.lookup_cons, hq], h1⟩
      | false =>
        simp only [hq] at e
        obtain ⟨u, h3, h4⟩ := VrF.get h2 e
        refine ⟨u, ?_, h4⟩
        rw [List.lookup_cons]
        have : (f == g) = false := by
          cases hz : (f == g) with
          | false => rfl
          | true =>
            have := eq_of_beq hz
            rw [this] at hq
            rw [beq_self_eq_true] at hq
            cases hq
        rw [this]
        exact h3
end Md
/-! Md1: the state's relation SR, readings, growing, freezing, setting, nesting. -/
namespace Md
open PySem PySem.Spec PyProof.Rows L2
def mutO : HO → Bool
  | .lst _ => true
  | .ins _ _ _ => true
  | .own _ => true
  | .dK _ => true
  | .dT _ => true
  | _ => false
section
variable (K : PySem.W.Frag) (mg : Str → Option Value)
inductive OwR (F H : Hp) (P : Addr → Prop) : V → Mu → Prop
  | lst {p : Addr} {vs : List V} {ds : List D} : P p → H p = some (.lst vs) → VrA K mg F vs ds → OwR F H P (.ref p) (.lst ds)
  | obj {p C dx : Addr} {c : Str} {vs : List (Str × V)} {fs : List (D × D)} : P p → P dx → mg c = some (.ref C) → H p = some (.ins C dx vs) → H dx = some (.own p) → VrF K mg F vs fs → OwR F H P (.ref p) (.obj c fs)
inductive SlR (F H : Hp) (P : Addr → Prop) : Option V → Sl → Prop
  | un {v : Option V} : SlR F H P v .un
  | sh {v : V} {d : D} : Vr K mg F v d → SlR F H P (some v) (.sh d)
  | ow {v : V} {b : Bool} {m : Mu} : OwR K mg F H P v m → SlR F H P (some v) (.ow b m)
inductive RvR (F H : Hp) (g : Addr → Option Ow) : V → Rv → Prop
  | sh {v : V} {d : D} : Vr K mg F v d → RvR F H g v (.sh d)
  | ow {v : V} {m : Mu} : OwR K mg F H (fun a => g a = some .res) v m → RvR F H g v (.ow m)
inductive ErR (F : Hp) : Ex → Value → Option Addr → Prop
  | nil {c : Str} {C : Addr} : mg c = some (.ref C) → ErR F ⟨c, []⟩ (.ref C) none
  | fld {c : Str} {C d : Addr} {vs : List (Str × V)} {fs : List (D × D)} : mg c = some (.ref C) → F d = some (.xd vs) → VrF K mg F vs fs → ErR F ⟨c, fs⟩ (.ref C) (some d)
/-- an entry: frozen, heap, what is lent, by which slots -/
structure Fm where
  F : Hp
  H : Hp
  own : Addr → Prop
  root : Nat → Option Addr
structure SR (f : Fm) (F H : Hp) (σ : L2.St) (ρ : Sto) (g : Addr → Option Ow) : Prop where
  len : σ.length = ρ.length
  f0 : Same f.F F
  sub : Same F H
  new : ∀ a o, F a = some o → f.F a = some o ∨ f.H a = none ∨ f.own a
  al : ∀ a, H a = none → f.H a = none
  bas : ∀ a o, f.H a = some o → ¬ f.own a → H a = some o
  gh : ∀ a i, g a = some i → (∃ o, H a = some o ∧ mutO o = true) ∧ F a = none ∧ (f.H a = none ∨ f.own a)
  sl : ∀ i v s, σ[i]? = some v → ρ[i]? = some s → SlR K mg F H (fun a => g a = some (.slot i)) v s
  pin : ∀ i m, ρ[i]? = some (.ow true m) → ∃ p, f.root i = some p ∧ σ[i]? = some (some (.ref p))
  rt : ∀ i p, f.root i = some p → ∃ m, ρ[i]? = some (.ow true m)
/-- what an outcome promises -/
def Fin {α β : Type} (f : Fm) (σ : L2.St) (W : WX) (R : Hp → Hp → (Addr → Option Ow) → β → α → Prop) (o : Out α) (F : Hp) (Q : β → Hp → Prop) : Prop :=
  match o with
  | .st => False
  | .ok a ρ' => ∀ v F' H' g', SR K mg f F' H' σ ρ' g' → Same F F' → R F' H' g' v a → Q v H'
  | .er x ρ' => ∀ cls d F' H' g', SR K mg f F' H' σ ρ' g' → Same F F' → ErR K mg F' x cls d → W cls d σ H'
def tX {α β : Type} (R : Hp → Hp → (Addr → Option Ow) → β → α → Prop) (W : WX) (c : Sto → Out α) : L2.St → Hp → (β → Hp → Prop) → Prop := fun σ H Q =>
  ∃ f F ρ g, SR K mg f F H σ ρ g ∧ Fin K mg f σ W R (c ρ) F Q
abbrev rD : Hp → Hp → (Addr → Option Ow) → V → D → Prop := fun F _ _ v d => Vr K mg F v d
abbrev rO : Hp → Hp → (Addr → Option Ow) → V → Rv → Prop := fun F H g v r => RvR K mg F H g v r
abbrev rB : Hp → Hp → (Addr → Option Ow) → Bool → Bool → Prop := fun _ _ _ v r => v = r
abbrev rA : Hp → Hp → (Addr → Option Ow) → List V → List D → Prop := fun F _ _ v r => VrA K mg F v r
abbrev tE (W : WX) (c : Sto → Out D) : TE := tX K mg (rD K mg) W c
abbrev tO (W : WX) (c : Sto → Out Rv) : TE := tX K mg (rO K mg) W c
abbrev tT (W : WX) (c : Sto → Out Bool) : TT := tX K mg rB W c
abbrev tAs (W : WX) (c : Sto → Out (List D)) : TA := tX K mg (rA K mg) W c
end
variable {K : PySem.W.Frag} {mg : Str → Option Value} {F F' H H' : Hp} {f : Fm} {σ : L2.St} {ρ : Sto} {g : Addr → Option Ow} {W : WX}
theorem OwR.mono {P P' : Addr → Prop} {v : V} {m : Mu} (h : OwR K mg F H P v m) (s : Same F F') (k : ∀ a o, P a → H a = some o → H' a = some o) (q : ∀ a, P a → P' a) : OwR K mg F' H' P' v m := by
  cases h with
  | lst h1 h2 h3 => exact .lst (q _ h1) (k _ _ h1 h2) (VrA.same s _ h3)
  | obj h1 h2 h3 h4 h5 h6 => exact .obj (q _ h1) (q _ h2) h3 (k _ _ h1 h4) (k _ _ h2 h5) (VrF.same s _ h6)
theorem SlR.mono {P P' : Addr → Prop} {v : Option V} {m : Sl} (h : SlR K mg F H P v m) (s : Same F F') (k : ∀ a o, P a → H a = some o → H' a = some o) (q : ∀ a, P a → P' a) : SlR K mg F' H' P' v m := by
  cases h with
  | un => exact .un
  | sh h => exact .sh (Vr.same s _ h)
  | ow h => exact .ow (h.mono s k q)
section
variable {α β : Type} {R : Hp → Hp → (Addr → Option Ow) → β → α → Prop} {o : Out α} {Q Q' : β → Hp → Prop}
theorem Fin.mono (h : Fin K mg f σ W R o F Q) (q : ∀ v H', Q v H' → Q' v H') : Fin K mg f σ W R o F Q' := by
  cases o with
  | st => exact h
  | ok a ρ' => exact fun v F' H' g' s e r => q _ _ (h v F' H' g' s e r)
  | er x ρ' => exact h
theorem Fin.weak (h : Fin K mg f σ W R o F Q) (s : Same F F') : Fin K mg f σ W R o F' Q := by
  cases o with
  | st => exact h
  | ok a ρ' => exact fun v F2 H' g' s2 e r => h v F2 H' g' s2 (s.trans e) r
  | er x ρ' => exact fun v F2 H' g' s2 cls e r => h v F2 H' g' s2 cls (s.trans e) r
theorem Fin.bind {γ δ : Type} {R2 : Hp → Hp → (Addr → Option Ow) → δ → γ → Prop} {k : α → Sto → Out γ} {Q : δ → Hp → Prop} (h : Fin K mg f σ W R2 (o.bind k) F Q) :
    Fin K mg f σ W R o F (fun v H1 => ∃ a ρ1 F1 g1, SR K mg f F1 H1 σ ρ1 g1 ∧ Same F F1 ∧ R F1 H1 g1 v a ∧ Fin K mg f σ W R2 (k a ρ1) F1 Q) := by
  cases o with
  | st => exact h
  | ok a ρ' => exact fun v F' H' g' s e r => ⟨a, ρ', F', g', s, e, r, h.weak e⟩
  | er x ρ' => exact h
end
theorem SR.grow (h : SR K mg f F H σ ρ g) (s1 : Same F F') (s2 : Same F' H') (s3 : Same H H') (nw : ∀ a o, F' a = some o → F a = some o ∨ H a = none) : SR K mg f F' H' σ ρ g := by
  have hn : ∀ a, H' a = none → H a = none := fun a e => s3.free e
  refine ⟨h.len, h.f0.trans s1, s2, fun a o e => ?_, fun a e => h.al a (hn a e), fun a o e n => s3 _ _ (h.bas a o e n), fun a i e => ?_, fun i v s e1 e2 => (h.sl i v s e1 e2).mono s1 (fun a o _ e => s3 _ _ e) (fun _ e => e), h.pin, h.rt⟩
  · rcases nw a o e with e | e
    · exact h.new a o e
    · exact .inr (.inl (h.al a e))
  · obtain ⟨⟨o, x1, x2⟩, x3, x4⟩ := h.gh a i e
    refine ⟨⟨o, s3 _ _ x1, x2⟩, ?_, x4⟩
    cases hz : F' a with
    | none => rfl
    | some u =>
      rcases nw a u hz with e2 | e2
      · rw [x3] at e2
        cases e2
      · rw [x1] at e2
        cases e2
theorem same_upd {p : Addr} {o : HO} (n : H p = none) : Same H (upd H p o) := fun b u e => by
  have hb : b ≠ p := fun z => by
    rw [z, n] at e
    cases e
  rw [upd_ne hb]
  exact e
theorem same_upd2 {p : Addr} {o : HO} (s : Same F H) : Same (upd F p o) (upd H p o) := fun b u e => by
  by_cases hb : b = p
  · subst hb
    rw [upd_same] at e ⊢
    exact e
  · rw [upd_ne hb] at e ⊢
    exact s _ _ e
theorem new_upd {p : Addr} {o : HO} (n : H p = none) : ∀ a u, upd F p o a = some u → F a = some u ∨ H a = none := fun a u e => by
  by_cases hb : a = p
  · subst hb
    exact .inr n
  · rw [upd_ne hb] at e
    exact .inl e
/-- a new frozen thing -/
theorem SR.alloc (h : SR K mg f F H σ ρ g) {p : Addr} (n : H p = none) (o : HO) : SR K mg f (upd F p o) (upd H p o) σ ρ g :=
  h.grow (same_upd (h.sub.free n)) (same_upd2 h.sub) (same_upd n) (new_upd n)
def updg (g : Addr → Option Ow) (p : Addr) (c : Ow) : Addr → Option Ow := fun a => if a = p then some c else g a
theorem updg_same {p : Addr} {c : Ow} : updg g p c p = some c := if_pos rfl
theorem updg_ne {p a : Addr} {c : Ow} (h : a ≠ p) : updg g p c a = g a := if_neg h
theorem SR.gno (h : SR K mg f F H σ ρ g) {p : Addr} (n : H p = none) : g p = none := by
  cases hz : g p with
  | none => rfl
  | some i =>
    obtain ⟨⟨o, x1, _⟩, _⟩ := h.gh p i hz
    rw [n] at x1
    cases x1
/-- a new thing of one's own -/
theorem SR.fresh (h : SR K mg f F H σ ρ g) {p : Addr} (n : H p = none) {o : HO} (m : mutO o = true) : SR K mg f F (upd H p o) σ ρ (updg g p .res) := by
  have hu : ∀ a u, H a = some u → upd H p o a = some u := same_upd n
  refine ⟨h.len, h.f0, h.sub.trans hu, h.new, fun a e => h.al a ((show Same H (upd H p o) from hu).free e), fun a u e k => hu _ _ (h.bas a u e k), fun a i e => ?_, fun i v s e1 e2 => (h.sl i v s e1 e2).mono (Same.refl F) (fun a u _ e => hu _ _ e) (fun a e => ?_), h.pin, h.rt⟩
  · by_cases ha : a = p
    · subst ha
      exact ⟨⟨o, upd_same, m⟩, h.sub.free n, .inl (h.al a n)⟩
    · rw [updg_ne ha] at e
      obtain ⟨⟨u, x1, x2⟩, x3, x4⟩ := h.gh a i e
      exact ⟨⟨u, hu _ _ x1, x2⟩, x3, x4⟩
  · have ha : a ≠ p := fun z => by
      rw [z, h.gno n] at e
      cases e
    rw [updg_ne ha]
    exact e
/-- the things of code c are frozen -/
def frzF (F H : Hp) (g : Addr → Option Ow) (c : Ow) : Hp := fun a => if g a = some c then H a else F a
def frzG (g : Addr → Option Ow) (c : Ow) : Addr → Option Ow := fun a => if g a = some c then none else g a
theorem SR.frz_same (h : SR K mg f F H σ ρ g) (c : Ow) : Same F (frzF F H g c) := fun a o e => by
  unfold frzF
  by_cases hc : g a = some c
  · have := (h.gh a c hc).2.1
    rw [e] at this
    cases this
  · rw [if_neg hc]
    exact e
theorem SR.frz (h : SR K mg f F H σ ρ g) (c : Ow) (ρ' : Sto) (hl : ρ'.length = ρ.length) (hp : ∀ (i : Nat) (m : Mu), ρ'[i]? = some (Sl.ow true m) ↔ ρ[i]? = some (Sl.ow true m))
    (hs : ∀ (i : Nat) (v : Option V) (s : Sl), σ[i]? = some v → ρ'[i]? = some s → SlR K mg (frzF F H g c) H (fun a => frzG g c a = some (.slot i)) v s) : SR K mg f (frzF F H g c) H σ ρ' (frzG g c) := by
  refine ⟨h.len.trans hl.symm, h.f0.trans (h.frz_same c), fun a o e => ?_, fun a o e => ?_, h.al, h.bas, fun a i e => ?_, hs, fun i m e => h.pin i m ((hp i m).mp e), fun i p e => ?_⟩
  · unfold frzF at e
    by_cases hc : g a = some c
    · rw [if_pos hc] at e
      exact e
    · rw [if_neg hc] at e
      exact h.sub _ _ e
  · unfold frzF at e
    by_cases hc : g a = some c
    · exact .inr (h.gh a c hc).2.2
    · rw [if_neg hc] at e
      exact h.new _ _ e
  · unfold frzG at e
    by_cases hc : g a = some c
    · rw [if_pos hc] at e
      cases e
    · rw [if_neg hc] at e
      obtain ⟨x1, x2, x3⟩ := h.gh a i e
      refine ⟨x1, ?_, x3⟩
      unfold frzF
      rw [if_neg hc]
      exact x2
  · obtain ⟨m, e⟩ := h.rt i p e
    exact ⟨m, (hp i m).mpr e⟩
theorem OwR.frz {c : Ow} {v : V} {m : Mu} (h : OwR K mg F H (fun a => g a = some c) v m) (s : Same F (frzF F H g c)) : Vr K mg (frzF F H g c) v m.toD := by
  cases h with
  | @lst p vs ds h1 h2 h3 =>
    refine .li ?_ (VrA.same s _ h3)
    unfold frzF
    rw [if_pos h1]
    exact h2
  | @obj p C dx c' vs fs h1 h2 h3 h4 h5 h6 =>
    refine Vr.ob (dx := dx) (C := C) (vs := vs) h3 ?_ ?_ (VrF.same s _ h6)
    · unfold frzF
      rw [if_pos h1]
      exact h4
    · unfold frzF
      rw [if_pos h2]
      exact h5
/-- the result is frozen -/
theorem SR.frzRes (h : SR K mg f F H σ ρ g) : SR K mg f (frzF F H g .res) H σ ρ (frzG g .res) :=
  h.frz .res ρ rfl (fun _ _ => Iff.rfl) fun i v s e1 e2 => (h.sl i v s e1 e2).mono (h.frz_same .res) (fun _ _ _ e => e) fun a e => by
    unfold frzG
    rw [if_neg (by rw [e]; intro z; cases z)]
    exact e
theorem RvR.frz {v : V} {r : Rv} (h : SR K mg f F H σ ρ g) (k : RvR K mg F H g v r) : ∃ F' g', SR K mg f F' H σ ρ g' ∧ Same F F' ∧ Vr K mg F' v r.toD := by
  cases k with
  | sh k => exact ⟨F, g, h, Same.refl F, k⟩
  | ow k => exact ⟨_, _, h.frzRes, h.frz_same .res, k.frz (h.frz_same .res)⟩
/-- slot i is frozen -/
theorem SR.frzSlot (h : SR K mg f F H σ ρ g) {i : Nat} {m : Mu} (hi : ρ[i]? = some (.ow false m)) : ∃ v, σ[i]? = some (some v) ∧ SR K mg f (frzF F H g (.slot i)) H σ (ρ.set i (.sh m.toD)) (frzG g (.slot i)) ∧ Vr K mg (frzF F H g (.slot i)) v m.toD := by
  have hlt : i < ρ.length := (List.getElem?_eq_some_iff.mp hi).1
  have hlt2 : i < σ.length := by rw [h.len]; exact hlt
  have e0 : σ[i]? = some σ[i] := List.getElem?_eq_getElem hlt2
  have q := h.sl i σ[i] _ e0 hi
  generalize hv : σ[i] = u at q e0
  cases q with
  | @ow v _ _ q =>
    have fr := q.frz (h.frz_same (.slot i))
    refine ⟨v, e0, h.frz (.slot i) _ (List.length_set ..) (fun j m' => ?_) (fun j w s e1 e2 => ?_), fr⟩
    · by_cases hj : i = j
      · subst hj
        rw [List.getElem?_set_self hlt, hi]
        constructor
        · intro e; cases e
        · intro e; cases e
      · rw [List.getElem?_set_ne hj]
    · by_cases hj : i = j
      · subst hj
        rw [List.getElem?_set_self hlt] at e2
        cases e2
        rw [e0] at e1
        cases e1
        exact .sh fr
      · rw [List.getElem?_set_ne hj] at e2
        refine (h.sl j w s e1 e2).mono (h.frz_same _) (fun _ _ _ e => e) fun a e => ?_
        unfold frzG
        rw [if_neg (by rw [e]; intro z; injection z with z; injection z with z; exact hj z.symm)]
        exact e
/-- a slot is set to a shared value -/
theorem SR.setSh (h : SR K mg f F H σ ρ g) {i : Nat} {v : V} {d : D} (hr : f.root i = none) (k : Vr K mg F v d) : SR K mg f F H (σ.set i (some v)) (ρ.set i (.sh d)) g := by
  refine ⟨by rw [List.length_set, List.length_set, h.len], h.f0, h.sub, h.new, h.al, h.bas, h.gh, fun j w s e1 e2 => ?_, fun j m e => ?_, fun j p e => ?_⟩
  · by_cases hj : i = j
    · subst hj
      have hlt : i < ρ.length := by
        have := (List.getElem?_eq_some_iff.mp e2).1
        rwa [List.length_set] at this
      rw [List.getElem?_set_self hlt] at e2
      rw [List.getElem?_set_self (by rw [h.len]; exact hlt)] at e1
      cases e1
      cases e2
      exact .sh k
    · rw [List.getElem?_set_ne hj] at e1 e2
      exact h.sl j w s e1 e2
  · have hj : i ≠ j := fun z => by
      subst z
      have hlt : i < ρ.length := by
        have := (List.getElem?_eq_some_iff.mp e).1
        rwa [List.length_set] at this
      rw [List.getElem?_set_self hlt] at e
      cases e
    rw [List.getElem?_set_ne hj] at e ⊢
    exact h.pin j m e
  · obtain ⟨m, e2⟩ := h.rt j p e
    have hj : i ≠ j := fun z => by
      subst z
      rw [hr] at e
      cases e
    exact ⟨m, by rw [List.getElem?_set_ne hj]; exact e2⟩
theorem SR.setUn (h : SR K mg f F H σ ρ g) {i : Nat} {v : Option V} (hr : f.root i = none) : SR K mg f F H (σ.set i v) (ρ.set i .un) g := by
  refine ⟨by rw [List.length_set, List.length_set, h.len], h.f0, h.sub, h.new, h.al, h.bas, h.gh, fun j w s e1 e2 => ?_, fun j m e => ?_, fun j p e => ?_⟩
  · by_cases hj : i = j
    · subst hj
      have hlt : i < ρ.length := by
        have := (List.getElem?_eq_some_iff.mp e2).1
        rwa [List.length_set] at this
      rw [List.getElem?_set_self hlt] at e2
      cases e2
      exact .un
    · rw [List.getElem?_set_ne hj] at e1 e2
      exact h.sl j w s e1 e2
  · have hj : i ≠ j := fun z => by
      subst z
      have hlt : i < ρ.length := by
        have := (List.getElem?_eq_some_iff.mp e).1
        rwa [List.length_set] at this
      rw [List.getElem?_set_self hlt] at e
      cases e
    rw [List.getElem?_set_ne hj] at e ⊢
    exact h.pin j m e
  · obtain ⟨m, e2⟩ := h.rt j p e
    have hj : i ≠ j := fun z => by
      subst z
      rw [hr] at e
      cases e
    exact ⟨m, by rw [List.getElem?_set_ne hj]; exact e2⟩
/-- forgetting what a slot holds -/
theorem SR.forget (h : SR K mg f F H σ ρ g) {i : Nat} (hr : f.root i = none) : SR K mg f F H σ (ρ.set i .un) g := by
  by_cases hlt : i < σ.length
  · have := h.setUn (i := i) (v := σ[i]) hr
    rwa [List.set_getElem_self] at this
  · rw [List.set_eq_of_length_le (by rw [← h.len]; omega)]
    exact h
def ownG (g : Addr → Option Ow) (i : Nat) : Addr → Option Ow := fun a => if g a = some .res then some (.slot i) else g a
/-- a result of one's own becomes slot i's -/
theorem SR.setOw (h : SR K mg f F H σ ρ g) {i : Nat} {v : V} {m : Mu} (hr : f.root i = none) (k : OwR K mg F H (fun a => g a = some .res) v m) : SR K mg f F H (σ.set i (some v)) (ρ.set i (.ow false m)) (ownG g i) := by
  refine ⟨by rw [List.length_set, List.length_set, h.len], h.f0, h.sub, h.new, h.al, h.bas, fun a j e => ?_, fun j w s e1 e2 => ?_, fun j m e => ?_, fun j p e => ?_⟩
  · unfold ownG at e
    by_cases hc : g a = some .res
    · exact h.gh a _ hc
    · rw [if_neg hc] at e
      exact h.gh a _ e
  · by_cases hj : i = j
    · subst hj
      have hlt : i < ρ.length := by
        have := (List.getElem?_eq_some_iff.mp e2).1
        rwa [List.length_set] at this
      rw [List.getElem?_set_self hlt] at e2
      rw [List.getElem?_set_self (by rw [h.len]; exact hlt)] at e1
      cases e1
      cases e2
      exact .ow (k.mono (Same.refl F) (fun _ _ _ e => e) fun a e => by unfold ownG; rw [if_pos e])
    · rw [List.getElem?_set_ne hj] at e1 e2
      refine (h.sl j w s e1 e2).mono (Same.refl F) (fun _ _ _ e => e) fun a e => ?_
      unfold ownG
      rw [if_neg (by rw [e]; intro z; cases z)]
      exact e
  · have hj : i ≠ j := fun z => by
      subst z
      have hlt : i < ρ.length := by
        have := (List.getElem?_eq_some_iff.mp e).1
        rwa [List.length_set] at this
      rw [List.getElem?_set_self hlt] at e
      cases e
    rw [List.getElem?_set_ne hj] at e ⊢
    exact h.pin j _ e
  · obtain ⟨m, e2⟩ := h.rt j p e
    have hj : i ≠ j := fun z => by
      subst z
      rw [hr] at e
      cases e
    exact ⟨m, by rw [List.getElem?_set_ne hj]; exact e2⟩
/-- slot i is given up: its thing is the result -/
def resG (g : Addr → Option Ow) (i : Nat) : Addr → Option Ow := fun a => if g a = some (.slot i) then some .res else if g a = some .res then none else g a
theorem SR.take (h : SR K mg f F H σ ρ g) {i : Nat} {m : Mu} (hi : ρ[i]? = some (.ow false m)) : ∃ v, σ[i]? = some (some v) ∧ SR K mg f F H σ (ρ.set i .un) (resG g i) ∧ OwR K mg F H (fun a => resG g i a = some .res) v m := by
  have hlt : i < ρ.length := (List.getElem?_eq_some_iff.mp hi).1
  have hlt2 : i < σ.length := by rw [h.len]; exact hlt
  have e0 : σ[i]? = some σ[i] := List.getElem?_eq_getElem hlt2
  have q := h.sl i σ[i] _ e0 hi
  have hr : f.root i = none := by
    cases hz : f.root i with
    | none => rfl
    | some p =>
      obtain ⟨m', e⟩ := h.rt i p hz
      rw [hi] at e
      cases e
  generalize hv : σ[i] = u at q e0
  cases q with
  | @ow v _ _ q =>
    refine ⟨v, e0, ⟨by rw [List.length_set, h.len], h.f0, h.sub, h.new, h.al, h.bas, fun a j e => ?_, fun j w s e1 e2 => ?_, fun j m' e => ?_, fun j p e => ?_⟩, q.mono (Same.refl F) (fun _ _ _ e => e) fun a e => by unfold resG; rw [if_pos e]⟩
    · unfold resG at e
      by_cases hc : g a = some (.slot i)
      · exact h.gh a _ hc
      · rw [if_neg hc] at e
        by_cases hd : g a = some .res
        · rw [if_pos hd] at e
          cases e
        · rw [if_neg hd] at e
          exact h.gh a _ e
    · by_cases hj : i = j
      · subst hj
        rw [List.getElem?_set_self hlt] at e2
        cases e2
        exact .un
      · rw [List.getElem?_set_ne hj] at e2
        refine (h.sl j w s e1 e2).mono (Same.refl F) (fun _ _ _ e => e) fun a e => ?_
        unfold resG
        rw [if_neg (by rw [e]; intro z; injection z with z; injection z with z; exact hj z.symm), if_neg (by rw [e]; intro z; cases z)]
        exact e
    · have hj : i ≠ j := fun z => by
        subst z
        rw [List.getElem?_set_self hlt] at e
        cases e
      rw [List.getElem?_set_ne hj] at e
      exact h.pin j _ e
    · obtain ⟨m', e2⟩ := h.rt j p e
      have hj : i ≠ j := fun z => by
        subst z
        rw [hr] at e
        cases e
      exact ⟨m', by rw [List.getElem?_set_ne hj]; exact e2⟩
/-- slot i's thing is changed at p -/
theorem SR.put (h : SR K mg f F H σ ρ g) {i : Nat} {v : V} {p : Addr} {o : HO} {b : Bool} {m m' : Mu} (hi : ρ[i]? = some (.ow b m)) (hv : σ[i]? = some (some v)) (hp : g p = some (.slot i)) (ho : mutO o = true)
    (k : OwR K mg F (upd H p o) (fun a => g a = some (.slot i)) v m') : SR K mg f F (upd H p o) σ (ρ.set i (.ow b m')) g := by
  have hlt : i < ρ.length := (List.getElem?_eq_some_iff.mp hi).1
  obtain ⟨⟨o0, x1, _⟩, x3, x4⟩ := h.gh p _ hp
  have hn : ∀ a u, H a = some u → a ≠ p → upd H p o a = some u := fun a u e n => by rw [upd_ne n]; exact e
  refine ⟨by rw [List.length_set, h.len], h.f0, fun a u e => hn _ _ (h.sub _ _ e) (fun z => by rw [z, x3] at e; cases e), h.new, fun a e => ?_, fun a u e n => hn _ _ (h.bas a u e n) (fun z => ?_), fun a j e => ?_, fun j w s e1 e2 => ?_, fun j mm e => ?_, fun j q e => ?_⟩
  · by_cases ha : a = p
    · subst ha
      rw [upd_same] at e
      cases e
    · rw [upd_ne ha] at e
      exact h.al a e
  · subst z
    rcases x4 with x4 | x4
    · rw [e] at x4
      cases x4
    · exact n x4
  · obtain ⟨⟨u, y1, y2⟩, y3, y4⟩ := h.gh a j e
    by_cases ha : a = p
    · subst ha
      exact ⟨⟨o, upd_same, ho⟩, y3, y4⟩
    · exact ⟨⟨u, hn _ _ y1 ha, y2⟩, y3, y4⟩
  · by_cases hj : i = j
    · subst hj
      rw [List.getElem?_set_self hlt] at e2
      cases e2
      rw [hv] at e1
      cases e1
      exact .ow k
    · rw [List.getElem?_set_ne hj] at e2
      refine (h.sl j w s e1 e2).mono (Same.refl F) (fun a u e3 e => hn _ _ e fun z => ?_) fun a e => e
      rw [z, hp] at e3
      injection e3 with e3
      injection e3 with e3
      exact hj e3
  · by_cases hj : i = j
    · subst hj
      rw [List.getElem?_set_self hlt] at e
      cases e
      exact h.pin i m hi
    · rw [List.getElem?_set_ne hj] at e
      exact h.pin j _ e
  · obtain ⟨mm, e2⟩ := h.rt j q e
    by_cases hj : i = j
    · subst hj
      rw [hi] at e2
      cases e2
      exact ⟨m', List.getElem?_set_self hlt⟩
    · exact ⟨mm, by rw [List.getElem?_set_ne hj]; exact e2⟩
/-- an entry within: comprehensions -/
def nestF (f : Fm) (F H : Hp) (g : Addr → Option Ow) : Fm := ⟨F, H, fun a => g a ≠ none, f.root⟩
theorem SR.nest (h : SR K mg f F H σ ρ g) : SR K mg (nestF f F H g) F H σ ρ g :=
  ⟨h.len, Same.refl F, h.sub, fun a o e => .inl e, fun a e => e, fun a o e _ => e, fun a i e => ⟨(h.gh a i e).1, (h.gh a i e).2.1, .inr (by show g a ≠ none; rw [e]; intro z; cases z)⟩, h.sl, h.pin, h.rt⟩
theorem SR.back {σ' : L2.St} {ρ' : Sto} {g' : Addr → Option Ow} (h : SR K mg f F H σ ρ g) (k : SR K mg (nestF f F H g) F' H' σ' ρ' g') : SR K mg f F' H' σ' ρ' g' := by
  have own : ∀ a, g a ≠ none → f.H a = none ∨ f.own a := fun a n => by
    cases hz : g a with
    | none => exact absurd hz n
    | some i => exact (h.gh a i hz).2.2
  refine ⟨k.len, h.f0.trans k.f0, k.sub, fun a o e => ?_, fun a e => h.al a (k.al a e), fun a o e n => k.bas a o (h.bas a o e n) (fun z => ?_), fun a i e => ?_, k.sl, k.pin, k.rt⟩
  · rcases k.new a o e with e2 | e2 | e2
    · exact h.new a o e2
    · exact .inr (.inl (h.al a e2))
    · exact .inr (own a e2)
  · rcases own a z with e2 | e2
    · rw [e] at e2
      cases e2
    · exact n e2
  · obtain ⟨x1, x2, x3⟩ := k.gh a i e
    refine ⟨x1, x2, ?_⟩
    rcases x3 with x3 | x3
    · exact .inl (h.al a x3)
    · exact own a x3
end Md
/-! MdI: what operators and forms answer over data. -/
namespace Md
open PySem PySem.Spec PyProof.Rows L2
inductive Op2 where
  | add | sub | mul | fdiv | mod | pow
inductive Cm where
  | eq | ne | lt | le | gt | ge | inn | nin
inductive Bi where
  | len | abs | int | tuple | list | any | all | sum | sorted | min | max | str
/-! ### what the operators answer -/
def tru : D → Option Bool
  | .none => some false
  | .bool b => some b
  | .int i => some (i != 0)
  | .str y => if y.length ≤ sizeLine then some ((y.length : Int) != 0) else none
  | .list xs => some (!xs.isEmpty)
  | .tuple xs => some (!xs.isEmpty)
  | .dict _ => none
def op2 : Op2 → D → D → Option Rv
  | .add, .int i, .int j => some (.sh (.int (i + j)))
  | .add, .str a, .str b => if a.length + b.length ≤ sizeLine then some (.sh (.str (a ++ b))) else none
  | .add, .list a, .list b => if a.length + b.length ≤ sizeLine then some (.ow (.lst (a ++ b))) else none
  | .add, .tuple a, .tuple b => if a.length + b.length ≤ sizeLine then some (.sh (.tuple (a ++ b))) else none
  | .sub, .int i, .int j => some (.sh (.int (i - j)))
  | .mul, .int i, .int j => if (-(2 ^ 64) < i ∧ i < 2 ^ 64) ∨ (-(2 ^ 64) < j ∧ j < 2 ^ 64) then some (.sh (.int (i * j))) else none
  | .fdiv, .int i, .int j => if 0 < j ∧ j < 1073741824 then some (.sh (.int (i / j))) else none
  | .mod, .int i, .int j => if 0 < j then some (.sh (.int (i % j))) else none
  | .pow, .int i, .int j => if 0 ≤ j ∧ j ≤ 1000000 ∧ i.natAbs < 2 ^ 64 then some (.sh (.int (i ^ j.toNat))) else none
  | _, _, _ => none
def inD (d : D) (ds : List D) : Bool := ds.any fun z => PyData.eqv z d
def eqOk (a b : D) : Bool := (match a, b with | .str _, .str _ => true | _, _ => false) || (SeqAt.shaped a && SeqAt.shaped b)
def cmp2 : Cm → D → D → Option Bool
  | .eq, a, b => if eqOk a b then some (PyData.eqv a b) else none
  | .ne, a, b => if eqOk a b then some (!PyData.eqv a b) else none
  | .lt, .int i, .int j => some (decide (i < j))
  | .le, .int i, .int j => some (decide (i ≤ j))
  | .gt, .int i, .int j => some (decide (j < i))
  | .ge, .int i, .int j => some (decide (j ≤ i))
  | .inn, .str i, .str j => some (!(Builtin.Str.occurrences j i 0 j.length 1).isEmpty)
  | .nin, .str i, .str j => some (!(!(Builtin.Str.occurrences j i 0 j.length 1).isEmpty))
  | .inn, d, .list ds => if SeqAt.shaped d && SeqAt.shaped (.list ds) then some (inD d ds) else none
  | .inn, d, .tuple ds => if SeqAt.shaped d && SeqAt.shaped (.tuple ds) then some (inD d ds) else none
  | .nin, d, .list ds => if SeqAt.shaped d && SeqAt.shaped (.list ds) then some (!inD d ds) else none
  | .nin, d, .tuple ds => if SeqAt.shaped d && SeqAt.shaped (.tuple ds) then some (!inD d ds) else none
  | _, _, _ => none
def isNone : D → Bool
  | .none => true
  | _ => false
def idxD : D → D → Option D
  | .list ds, .int i => atI ds i
  | .tuple ds, .int i => atI ds i
  | .str z, .int i => if z.length ≤ sizeLine then (atI z.cps.toList i).map fun c => .str ⟨#[c]⟩ else none
  | _, _ => none
def cutL (xs : List D) (lo hi : Option Int) : List D := (xs.drop (HT.sIx xs.length 0 lo)).take (HT.sIx xs.length xs.length hi - HT.sIx xs.length 0 lo)
def slcD (d : D) (lo hi : Option Int) : Option Rv :=
  match d with
  | .list ds => some (.ow (.lst (cutL ds lo hi)))
  | .tuple ds => some (.sh (.tuple (cutL ds lo hi)))
  | .dict [(.bool true, .list ds)] => some (.ow (.lst (cutL ds lo hi)))
  | .str z => if z.length ≤ sizeLine then some (.sh (.str (Txt.slice z lo hi))) else none
  | _ => none
def asInt : D → Option Int
  | .int i => some i
  | _ => none
def itD : D → Option (List D)
  | .list ds => some ds
  | .tuple ds => some ds
  | .str z => some (z.cps.toList.map fun c => .str ⟨#[c]⟩)
  | _ => none
def boolsD : List D → Option (List Bool)
  | [] => some []
  | .bool b :: r => (boolsD r).map (b :: ·)
  | _ :: _ => none
def strsD : List D → Option (List Str)
  | [] => some []
  | .str b :: r => (strsD r).map (b :: ·)
  | _ :: _ => none
def intsD : List D → Option (List Int)
  | [] => some []
  | .int b :: r => (intsD r).map (b :: ·)
  | _ :: _ => none
def biD : Bi → D → Option Rv
  | .len, .str z => if z.length ≤ sizeLine then some (.sh (.int z.length)) else none
  | .len, .list ds => some (.sh (.int ds.length))
  | .len, .tuple ds => some (.sh (.int ds.length))
  | .abs, .int i => some (.sh (.int (if i < 0 then -i else i)))
  | .int, .int i => some (.sh (.int i))
  | .int, .bool b => some (.sh (.int (if b then 1 else 0)))
  | .tuple, .list ds => some (.sh (.tuple ds))
  | .tuple, .tuple ds => some (.sh (.tuple ds))
  | .list, .list ds => some (.ow (.lst ds))
  | .list, .tuple ds => some (.ow (.lst ds))
  | .any, .list ds => (boolsD ds).map fun bs => .sh (.bool (bs.any id))
  | .all, .list ds => (boolsD ds).map fun bs => .sh (.bool (bs.all id))
  | .sum, .list ds => (intsD ds).map fun bs => .sh (.int bs.sum)
  | _, _ => none
def indexD : D → D → Option Rv
  | .list ds, d => if SeqAt.shaped d && SeqAt.shaped (.list ds) && inD d ds then some (.sh (.int ((ds.findIdx fun z => PyData.eqv z d : Nat) : Int))) else none
  | .tuple ds, d => if SeqAt.shaped d && SeqAt.shaped (.tuple ds) && inD d ds then some (.sh (.int ((ds.findIdx fun z => PyData.eqv z d : Nat) : Int))) else none
  | _, _ => none
def kindD : D → Option String
  | .none => some "NoneType"
  | .bool _ => some "bool"
  | .int _ => some "int"
  | .str _ => some "str"
  | .list _ => some "list"
  | .tuple _ => some "tuple"
  | .dict _ => none
def clsD : D → Option Str
  | .dict ((.none, .str c) :: _) => some c
  | _ => none
/-- isinstance(d, t): t a built-in type (kitB) or an own class; own: what the own classes answer -/
def isiD (t : Option String) (own : List (Str × Bool)) (d : D) : Option Bool :=
  match kindD d with
  | some k => (match t with
    | some t => kitB k t
    | none => some false)
  | none => (clsD d).bind fun c => own.lookup c
def keyS : D → Option Str
  | .str g => some g
  | _ => none
def fldF (f : Str) : List (D × D) → Option D
  | [] => none
  | p :: r => if keyS p.1 = some f then some p.2 else fldF f r
def fldD (c f : Str) : D → Option D
  | .dict ((.none, .str c') :: fs) => if c' = c then fldF f fs else none
  | _ => none
def setF (f : Str) (d : D) : List (D × D) → List (D × D)
  | [] => [(.str f, d)]
  | p :: r => if keyS p.1 = some f then (.str f, d) :: r else p :: setF f d r
/-- no reference within: it may be told when what it was made from is one's own again -/
def flat : D → Bool
  | .none => true
  | .bool _ => true
  | .int _ => true
  | .str _ => true
  | _ => false
/-! ### combinators -/
abbrev Co (α : Type) := Sto → Out α
def cFz (c : Co Rv) : Co D := fun ρ => (c ρ).bind fun r ρ1 => .ok r.toD ρ1
def cSh (c : Co D) : Co Rv := fun ρ => (c ρ).bind fun r ρ1 => .ok (.sh r) ρ1
def optO {β : Type} (o : Option β) (ρ : Sto) : Out β := match o with
  | some y => .ok y ρ
  | none => .st
def cO {α β : Type} (c : Co α) (k : α → Option β) : Co β := fun ρ => (c ρ).bind fun x ρ1 => optO (k x) ρ1
def c2 {α β γ : Type} (c : Co α) (e : Co β) (k : α → β → Option γ) : Co γ := fun ρ => (c ρ).bind fun x ρ1 => (e ρ1).bind fun y ρ2 => optO (k x y) ρ2
def c3 {α β γ δ : Type} (c : Co α) (e : Co β) (h : Co γ) (k : α → β → γ → Option δ) : Co δ := fun ρ => (c ρ).bind fun x ρ1 => (e ρ1).bind fun y ρ2 => (h ρ2).bind fun z ρ3 => optO (k x y z) ρ3
def cVar (i : Nat) : Co Rv := fun ρ => match ρ[i]? with
  | some (.sh d) => .ok (.sh d) ρ
  | some (.ow false m) => .ok (.sh m.toD) (ρ.set i (.sh m.toD))
  | _ => .st
def cIf {α : Type} (c : Co Bool) (a b : Co α) : Co α := fun ρ => (c ρ).bind fun k ρ1 => if k = true then a ρ1 else b ρ1
def cTru (c : Co D) : Co Bool := cO c tru
def cAnd (a b : Co D) : Co D := fun ρ => (a ρ).bind fun x ρ1 => match tru x with
  | some true => b ρ1
  | some false => .ok x ρ1
  | none => .st
def cOr (a b : Co D) : Co D := fun ρ => (a ρ).bind fun x ρ1 => match tru x with
  | some true => .ok x ρ1
  | some false => b ρ1
  | none => .st
def cAndT (a b : Co Bool) : Co Bool := fun ρ => (a ρ).bind fun x ρ1 => if x = true then b ρ1 else .ok false ρ1
def cOrT (a b : Co Bool) : Co Bool := fun ρ => (a ρ).bind fun x ρ1 => if x = true then .ok true ρ1 else b ρ1
def cNotT (a : Co Bool) : Co Bool := fun ρ => (a ρ).bind fun x ρ1 => .ok (!x) ρ1
def fzSl : Sl → Sl
  | .ow _ m => .sh m.toD
  | s => s
def cBor (c : Co Rv) : Co Rv := fun ρ => match c (ρ.map fzSl) with
  | .ok r _ => if flat r.toD then .ok (.sh r.toD) ρ else .st
  | _ => .st
def cPop (i : Nat) (last : Bool) : Co Rv := fun ρ => match ρ[i]? with
  | some (.ow b (.lst ds)) => if last then (match ds[ds.length - 1]? with
      | some d => .ok (.sh d) (ρ.set i (.ow b (.lst ds.dropLast)))
      | none => .st)
    else (match ds with
      | d :: r => .ok (.sh d) (ρ.set i (.ow b (.lst r)))
      | [] => .st)
  | _ => .st
/-- a slot may be set: it is not lent -/
def setSl (ρ : Sto) (i : Nat) (s : Sl) : Option Sto :=
  match ρ[i]? with
  | some (.ow true _) => none
  | some _ => some (ρ.set i s)
  | none => none
def wipeS (ρ : Sto) : List Nat → Sto
  | [] => ρ
  | v :: vs => (wipeS ρ vs).set v .un
def noEr {α : Type} : Out α → Out α
  | .er _ _ => .st
  | o => o
def callArgs (ρ : Sto) : List (D ⊕ Nat) → Option (List Sl)
  | [] => some []
  | .inl d :: r => (callArgs ρ r).map (.sh d :: ·)
  | .inr i :: r => match ρ[i]? with
    | some (.ow _ m) => (callArgs ρ r).map (.ow true m :: ·)
    | _ => none
def backO : List (D ⊕ Nat) → List Sl → Sto → Option Sto
  | [], _, ρ => some ρ
  | .inl _ :: xs, _ :: ps, ρ => backO xs ps ρ
  | .inr i :: xs, .ow true m :: ps, ρ => match ρ[i]? with
    | some (.ow b _) => backO xs ps (ρ.set i (.ow b m))
    | _ => none
  | _, _, _ => none
def ownIx : List (D ⊕ Nat) → List Nat
  | [] => []
  | .inl _ :: r => ownIx r
  | .inr i :: r => i :: ownIx r
def nodupB : List Nat → Bool
  | [] => true
  | i :: r => !r.contains i && nodupB r
def goCall (φ : List Sl → Out Rv) (pre : List D) (xs : List (D ⊕ Nat)) (post : List D) : Co Rv := fun ρ =>
  match callArgs ρ xs with
  | none => .st
  | some as => if nodupB (ownIx xs) then (match φ (pre.map .sh ++ as ++ post.map .sh) with
    | .st => .st
    | .ok r ps => match backO xs (ps.drop pre.length) ρ with
      | some ρ1 => .ok r ρ1
      | none => .st
    | .er x ps => match backO xs (ps.drop pre.length) ρ with
      | some ρ1 => .er x ρ1
      | none => .st) else .st
def goMake (c : Str) (φ : List Sl → Out Rv) (ds : List D) : Co Rv := fun ρ =>
  match φ (.ow true (.obj c []) :: ds.map .sh) with
  | .ok (.sh .none) (.ow true (.obj c' fs) :: _) => if c == c' then .ok (.ow (.obj c fs)) ρ else .st
  | .er x _ => .er x ρ
  | _ => .st
def lefts : List (D ⊕ Nat) → Option (List D)
  | [] => some []
  | .inl d :: r => (lefts r).map (d :: ·)
  | .inr _ :: _ => none
end Md
/-! Md2: expressions are read over data. -/
namespace Md
open PySem PySem.Spec PyProof.Rows L2
variable {K : PySem.W.Frag} {mg : Str → Option Value} {F F' H H' : Hp} {f : Fm} {σ : L2.St} {ρ : Sto} {g : Addr → Option Ow} {W : WX} {X : Cx}
theorem PE.imp {e : Expr} {t t' : TE} (h : PE X e t) (k : ∀ σ H Q, t' σ H Q → t σ H Q) : PE X e t' := ⟨fun pins s σ H Q I q => h.run pins s σ H Q I (k σ H Q q)⟩
theorem PE.impI {e : Expr} {t t' : TE} (h : PE X e t) (k : ∀ pins s σ H Q, Inv X pins σ H s → t' σ H Q → t σ H Q) : PE X e t' := ⟨fun pins s σ H Q I q => h.run pins s σ H Q I (k pins s σ H Q I q)⟩
theorem PT.imp {e : Expr} {t t' : TT} (h : PT X e t) (k : ∀ σ H Q, t' σ H Q → t σ H Q) : PT X e t' := ⟨fun pins s σ H Q I q => h.run pins s σ H Q I (k σ H Q q)⟩
theorem PW.imp {e : Expr} {t t' : TT} (h : PW X e t) (k : ∀ σ H Q, t' σ H Q → t σ H Q) : PW X e t' := ⟨fun wh pins s σ H Q I q => h.run wh pins s σ H Q I (k σ H Q q)⟩
theorem PA.imp {e : List Expr} {t t' : TA} (h : PA X e t) (k : ∀ σ H Q, t' σ H Q → t σ H Q) : PA X e t' := ⟨fun p pins s σ H Q I q => h.run p pins s σ H Q I (k σ H Q q)⟩
/-! ### ends -/
section
variable {Q : VK} {v : V} {p : Addr} {vs : List V} {ds : List D} {d : D}
theorem fin_sh (S : SR K mg f F H σ ρ g) (h : Fin K mg f σ W (rO K mg) (.ok (.sh d) ρ) F Q) (k : Vr K mg F v d) : Q v H := h v F H g S (Same.refl F) (.sh k)
theorem fin_tup (S : SR K mg f F H σ ρ g) (h : Fin K mg f σ W (rO K mg) (.ok (.sh (.tuple ds)) ρ) F Q) (k : VrA K mg F vs ds) : ∀ p, H p = none → Q (.ref p) (upd H p (.tup vs)) := fun p n =>
  h (.ref p) _ _ g (S.alloc n (.tup vs)) (same_upd (S.sub.free n)) (.sh (.tu (SqT.of upd_same) (VrA.same (same_upd (S.sub.free n)) _ k)))
theorem fin_lst (S : SR K mg f F H σ ρ g) (h : Fin K mg f σ W (rO K mg) (.ok (.ow (.lst ds)) ρ) F Q) (k : VrA K mg F vs ds) : ∀ p, H p = none → Q (.ref p) (upd H p (.lst vs)) := fun p n =>
  h (.ref p) F _ _ (S.fresh n (o := .lst vs) rfl) (Same.refl F) (.ow (.lst updg_same upd_same k))
end
/-! ### from parts to wholes -/
theorem pe_fz {e : Expr} {c : Co Rv} (h : PE X e (tO K mg W c)) : PE X e (tE K mg W (cFz c)) :=
  PE.imp h fun σ H Q ⟨f, F, ρ, g, S, q⟩ => ⟨f, F, ρ, g, S, (Fin.bind (o := c ρ) (R := rO K mg) q).mono fun v H1 ⟨r, ρ1, F1, g1, S1, s1, k, q1⟩ => by
    obtain ⟨F2, g2, S2, s2, k2⟩ := k.frz S1
    exact q1 v F2 H1 g2 S2 s2 k2⟩
theorem pe_sh {e : Expr} {c : Co D} (h : PE X e (tE K mg W c)) : PE X e (tO K mg W (cSh c)) :=
  PE.imp h fun σ H Q ⟨f, F, ρ, g, S, q⟩ => ⟨f, F, ρ, g, S, (Fin.bind (o := c ρ) (R := rD K mg) q).mono fun v H1 ⟨r, ρ1, F1, g1, S1, s1, k, q1⟩ => fin_sh S1 q1 k⟩
def Real2 (K : PySem.W.Frag) (mg : Str → Option Value) (r : R2) (k : D → D → Option Rv) : Prop := ∀ f F H (σ : L2.St) ρ g (W : WX) v w x y Q, SR K mg f F H σ ρ g → Vr K mg F v x → Vr K mg F w y →
  Fin K mg f σ W (rO K mg) (optO (k x y) ρ) F Q → r v w H Q
theorem real2 {r : R2} {k : D → D → Option Rv} (h : Real2 K mg r k) {ca cb : Co D} : ∀ σ H Q, tO K mg W (c2 ca cb k) σ H Q → tOp r (tE K mg W ca) (tE K mg W cb) σ H Q :=
  fun σ H Q ⟨f, F, ρ, g, S, q⟩ => ⟨f, F, ρ, g, S, (Fin.bind (R := rD K mg) q).mono fun v H1 ⟨x, ρ1, F1, g1, S1, s1, k1, q1⟩ => ⟨f, F1, ρ1, g1, S1, (Fin.bind (R := rD K mg) q1).mono fun w H2 ⟨y, ρ2, F2, g2, S2, s2, k2, q2⟩ =>
    h f F2 H2 σ ρ2 g2 W v w x y Q S2 (k1.same s2) k2 q2⟩⟩
def Real1 (K : PySem.W.Frag) (mg : Str → Option Value) (r : V → Hp → VK → Prop) (k : D → Option Rv) : Prop := ∀ f F H (σ : L2.St) ρ g (W : WX) v x Q, SR K mg f F H σ ρ g → Vr K mg F v x →
  Fin K mg f σ W (rO K mg) (optO (k x) ρ) F Q → r v H Q
theorem real1 {r : V → Hp → VK → Prop} {k : D → Option Rv} (h : Real1 K mg r k) {ca : Co D} : ∀ σ H Q, tO K mg W (cO ca k) σ H Q → tUn r (tE K mg W ca) σ H Q :=
  fun σ H Q ⟨f, F, ρ, g, S, q⟩ => ⟨f, F, ρ, g, S, (Fin.bind (R := rD K mg) q).mono fun v H1 ⟨x, ρ1, F1, g1, S1, s1, k1, q1⟩ => h f F1 H1 σ ρ1 g1 W v x Q S1 k1 q1⟩
/-! ### names and constants -/
theorem r_cst {v : V} {d : D} (k : ∀ F, Vr K mg F v d) : ∀ σ H Q, tO K mg W (fun ρ => .ok (.sh d) ρ) σ H Q → tC v σ H Q := fun σ H Q ⟨f, F, ρ, g, S, q⟩ => fin_sh S q (k F)
theorem r_var {i : Nat} : ∀ σ H Q, tO K mg W (cVar i) σ H Q → tVar i σ H Q := fun σ H Q ⟨f, F, ρ, g, S, q⟩ => by
  unfold cVar at q
  cases hz : ρ[i]? with
  | none => rw [hz] at q; exact q.elim
  | some s =>
    rw [hz] at q
    have hlt : i < σ.length := by rw [S.len]; exact (List.getElem?_eq_some_iff.mp hz).1
    have e0 : σ[i]? = some σ[i] := List.getElem?_eq_getElem hlt
    cases s with
    | un => exact q.elim
    | sh d =>
      have k := S.sl i _ _ e0 hz
      generalize σ[i] = u at k e0
      cases k with
      | sh k => exact ⟨_, e0, fin_sh S q k⟩
    | ow b m =>
      cases b with
      | true => exact q.elim
      | false =>
        obtain ⟨v, ev, S2, k⟩ := S.frzSlot hz
        exact ⟨v, ev, q v _ _ _ S2 (S.frz_same _) (.sh k)⟩
theorem pe_cst {d : D} {c : Const} {k : Nat} {pos : Pos} (h : (match c, d with | .none, .none => true | .bool a, .bool b => a == b | .int a, .int b => a == b | .str a, .str b => a == b | _, _ => false) = true) :
    PE X (.Constant c k pos) (tO K mg W (fun ρ => .ok (.sh d) ρ)) := by
  cases c <;> cases d <;> first | (cases h; done) | skip
  · exact PE.imp pe_non (r_cst fun _ => .no)
  · rw [← eq_of_beq h]
    exact PE.imp pe_bl (r_cst fun _ => .bo _)
  · rw [← eq_of_beq h]
    exact PE.imp pe_int (r_cst fun _ => .num _)
  · rw [← eq_of_beq h]
    exact PE.imp pe_str (r_cst fun _ => .txt _)
/-! ### tests -/
theorem tru_of {v : V} {d : D} {k : Bool} (S : SR K mg f F H σ ρ g) (h : Vr K mg F v d) (e : tru d = some k) : TruV K v H k := by
  cases h with
  | no => cases e; rfl
  | bo b => cases e; rfl
  | num i => cases e; rfl
  | txt x =>
    have e : (if x.length ≤ sizeLine then some ((x.length : Int) != 0) else none) = some k := e
    by_cases hl : x.length ≤ sizeLine
    · rw [if_pos hl] at e
      cases e
      exact ⟨hl, rfl⟩
    · rw [if_neg hl] at e
      cases e
  | @li a xs ds h1 h2 =>
    refine .inl ⟨xs, SqL.of (S.sub _ _ h1), ?_⟩
    cases e
    cases h2 <;> rfl
  | @tu a xs ds h1 h2 =>
    refine .inr (.inl ⟨xs, Same.sqT S.sub h1, ?_⟩)
    cases e
    cases h2 <;> rfl
  | fl => cases e
  | ob => cases e
theorem pt_of {e : Expr} {c : Co D} (h : PE X e (tE X.K mg W c)) (he : ∀ whole, isTrue e X.env whole = (do let v ← whole; standAt e.pos; holding [v] (truthy v))) : PT X e (tT X.K mg W (cTru c)) :=
  PT.imp (pt_truth h he) fun σ H Q ⟨f, F, ρ, g, S, q⟩ => ⟨f, F, ρ, g, S, (Fin.bind (R := rD X.K mg) q).mono fun v H1 ⟨x, ρ1, F1, g1, S1, s1, k1, q1⟩ => by
    cases hz : tru x with
    | none => rw [hz] at q1; exact q1.elim
    | some b =>
      rw [hz] at q1
      exact ⟨b, tru_of S1 k1 hz, q1 b F1 H1 g1 S1 (Same.refl F1) rfl⟩⟩
theorem pt_andM {a b : Co Bool} : ∀ σ H Q, tT K mg W (cAndT a b) σ H Q → tAnd (tT K mg W a) (tT K mg W b) σ H Q := fun σ H Q ⟨f, F, ρ, g, S, q⟩ =>
  ⟨f, F, ρ, g, S, (Fin.bind (R := rB) q).mono fun v H1 ⟨x, ρ1, F1, g1, S1, s1, k1, q1⟩ => by
    have k1 : v = x := k1
    subst k1
    cases v with
    | true => exact ⟨f, F1, ρ1, g1, S1, q1⟩
    | false => exact q1 false F1 H1 g1 S1 (Same.refl F1) rfl⟩
theorem pt_orM {a b : Co Bool} : ∀ σ H Q, tT K mg W (cOrT a b) σ H Q → tOr (tT K mg W a) (tT K mg W b) σ H Q := fun σ H Q ⟨f, F, ρ, g, S, q⟩ =>
  ⟨f, F, ρ, g, S, (Fin.bind (R := rB) q).mono fun v H1 ⟨x, ρ1, F1, g1, S1, s1, k1, q1⟩ => by
    have k1 : v = x := k1
    subst k1
    cases v with
    | false => exact ⟨f, F1, ρ1, g1, S1, q1⟩
    | true => exact q1 true F1 H1 g1 S1 (Same.refl F1) rfl⟩
theorem pt_notM {a : Co Bool} : ∀ σ H Q, tT K mg W (cNotT a) σ H Q → tNot (tT K mg W a) σ H Q := fun σ H Q ⟨f, F, ρ, g, S, q⟩ =>
  ⟨f, F, ρ, g, S, (Fin.bind (R := rB) q).mono fun v H1 ⟨x, ρ1, F1, g1, S1, s1, k1, q1⟩ => by
    have k1 : v = x := k1
    subst k1
    exact q1 (!v) F1 H1 g1 S1 (Same.refl F1) rfl⟩
theorem r_ife {c : Co Bool} {a b : Co D} : ∀ σ H Q, tO K mg W (cSh (cIf c a b)) σ H Q → tIf (tT K mg W c) (tE K mg W a) (tE K mg W b) σ H Q := fun σ H Q ⟨f, F, ρ, g, S, q⟩ => by
  have q : Fin K mg f σ W (rO K mg) (((c ρ).bind fun k ρ1 => if k = true then a ρ1 else b ρ1).bind fun r ρ1 => .ok (.sh r) ρ1) F Q := q
  have q2 := Fin.bind (R := rD K mg) q
  refine ⟨f, F, ρ, g, S, (Fin.bind (R := rB) q2).mono fun v H1 ⟨x, ρ1, F1, g1, S1, s1, k1, q1⟩ => ?_⟩
  have k1 : v = x := k1
  subst k1
  have fin : ∀ w H2, (∃ r ρ2 F2 g2, SR K mg f F2 H2 σ ρ2 g2 ∧ Same F F2 ∧ rD K mg F2 H2 g2 w r ∧ Fin K mg f σ W (rO K mg) (.ok (.sh r) ρ2) F2 Q) → Q w H2 := fun w H2 ⟨r, ρ2, F2, g2, S2, s2, k2, q2⟩ => fin_sh S2 q2 k2
  cases v with
  | true => exact ⟨f, F1, ρ1, g1, S1, q1.mono fin⟩
  | false => exact ⟨f, F1, ρ1, g1, S1, q1.mono fin⟩
theorem r_and {a b : Co D} : ∀ σ H Q, tO K mg W (cSh (cAnd a b)) σ H Q → tAndT K (tE K mg W a) (tE K mg W b) σ H Q := fun σ H Q ⟨f, F, ρ, g, S, q⟩ => by
  have q : Fin K mg f σ W (rO K mg) (((a ρ).bind fun x ρ1 => match tru x with | some true => b ρ1 | some false => .ok x ρ1 | none => .st).bind fun r ρ1 => .ok (.sh r) ρ1) F Q := q
  have q2 := Fin.bind (R := rD K mg) q
  refine ⟨f, F, ρ, g, S, (Fin.bind (R := rD K mg) q2).mono fun v H1 ⟨x, ρ1, F1, g1, S1, s1, k1, q1⟩ => ?_⟩
  have fin : ∀ w H2, (∃ r ρ2 F2 g2, SR K mg f F2 H2 σ ρ2 g2 ∧ Same F F2 ∧ rD K mg F2 H2 g2 w r ∧ Fin K mg f σ W (rO K mg) (.ok (.sh r) ρ2) F2 Q) → Q w H2 := fun w H2 ⟨r, ρ2, F2, g2, S2, s2, k2, q2⟩ => fin_sh S2 q2 k2
  cases hz : tru x with
  | none => rw [hz] at q1; exact q1.elim
  | some k =>
    rw [hz] at q1
    refine ⟨k, tru_of S1 k1 hz, ?_⟩
    cases k with
    | true => exact ⟨f, F1, ρ1, g1, S1, q1.mono fin⟩
    | false => exact fin _ _ (q1 v F1 H1 g1 S1 (Same.refl F1) k1)
theorem r_or {a b : Co D} : ∀ σ H Q, tO K mg W (cSh (cOr a b)) σ H Q → tOrT K (tE K mg W a) (tE K mg W b) σ H Q := fun σ H Q ⟨f, F, ρ, g, S, q⟩ => by
  have q : Fin K mg f σ W (rO K mg) (((a ρ).bind fun x ρ1 => match tru x with | some true => .ok x ρ1 | some false => b ρ1 | none => .st).bind fun r ρ1 => .ok (.sh r) ρ1) F Q := q
  have q2 := Fin.bind (R := rD K mg) q
  refine ⟨f, F, ρ, g, S, (Fin.bind (R := rD K mg) q2).mono fun v H1 ⟨x, ρ1, F1, g1, S1, s1, k1, q1⟩ => ?_⟩
  have fin : ∀ w H2, (∃ r ρ2 F2 g2, SR K mg f F2 H2 σ ρ2 g2 ∧ Same F F2 ∧ rD K mg F2 H2 g2 w r ∧ Fin K mg f σ W (rO K mg) (.ok (.sh r) ρ2) F2 Q) → Q w H2 := fun w H2 ⟨r, ρ2, F2, g2, S2, s2, k2, q2⟩ => fin_sh S2 q2 k2
  cases hz : tru x with
  | none => rw [hz] at q1; exact q1.elim
  | some k =>
    rw [hz] at q1
    refine ⟨k, tru_of S1 k1 hz, ?_⟩
    cases k with
    | false => exact ⟨f, F1, ρ1, g1, S1, q1.mono fin⟩
    | true => exact fin _ _ (q1 v F1 H1 g1 S1 (Same.refl F1) k1)
theorem r_not {a : Co D} : ∀ σ H Q, tO K mg W (cO a fun x => (tru x).map fun k => .sh (.bool (!k))) σ H Q → tNotT K (tE K mg W a) σ H Q := fun σ H Q ⟨f, F, ρ, g, S, q⟩ =>
  ⟨f, F, ρ, g, S, (Fin.bind (R := rD K mg) q).mono fun v H1 ⟨x, ρ1, F1, g1, S1, s1, k1, q1⟩ => by
    have q1 : Fin K mg f σ W (rO K mg) (optO ((tru x).map fun k => .sh (.bool (!k))) ρ1) F1 Q := q1
    cases hz : tru x with
    | none => rw [hz] at q1; exact q1.elim
    | some k =>
      rw [hz] at q1
      exact ⟨k, tru_of S1 k1 hz, fin_sh S1 q1 (.bo _)⟩⟩
/-! ### operators -/
def rAddM (K : PySem.W.Frag) : R2 := fun x y H Q => (∃ i j, x = .int i ∧ y = .int j ∧ Q (.int (i + j)) H) ∨ (∃ i j, x = .str i ∧ y = .str j ∧ i.length + j.length ≤ sizeLine ∧ Q (.str (i ++ j)) H) ∨ rCat x y H Q ∨ rCatA K x y H Q
theorem op_addM : OpR X (binaryOp .Add) (rAddM X.K) := OpR.or op_add (OpR.or op_add_str (OpR.or op_cat op_catA))
theorem add_real : Real2 K mg (rAddM K) (op2 .add) := by
  intro f F H σ ρ g W v w x y Q S kx ky q
  cases x <;> cases y <;> first | exact q.elim | skip
  · cases kx
    cases ky
    exact .inl ⟨_, _, rfl, rfl, fin_sh S q (.num _)⟩
  · rename_i a b
    cases kx
    cases ky
    by_cases hl : a.length + b.length ≤ sizeLine
    · simp only [op2, if_pos hl] at q
      exact .inr (.inl ⟨_, _, rfl, rfl, hl, fin_sh S q (.txt _)⟩)
    · simp only [op2, if_neg hl] at q
      exact q.elim
  · rename_i a b
    cases kx with
    | @li p xs _ h1 h2 =>
    cases ky with
    | @li p2 ys _ h3 h4 =>
    by_cases hl : a.length + b.length ≤ sizeLine
    · simp only [op2, if_pos hl] at q
      exact .inr (.inr (.inl ⟨p, p2, xs, ys, rfl, rfl, S.sub _ _ h1, S.sub _ _ h3, by rw [h2.len, h4.len]; exact hl, fin_lst S q (VrA.app h2 h4)⟩))
    · simp only [op2, if_neg hl] at q
      exact q.elim
  · rename_i a b
    cases kx with
    | @tu p xs _ h1 h2 =>
    cases ky with
    | @tu p2 ys _ h3 h4 =>
    by_cases hl : a.length + b.length ≤ sizeLine
    · simp only [op2, if_pos hl] at q
      refine .inr (.inr (.inr ⟨p, p2, xs, ys, rfl, rfl, Same.sqT S.sub h1, Same.sqT S.sub h3, by rw [h2.len, h4.len]; exact hl, fun e => ?_, fun _ e => ?_, fun _ _ => fin_tup S q (VrA.app h2 h4)⟩))
      · subst e
        cases h2
        exact fin_sh S q (.tu h3 h4)
      · subst e
        cases h4
        rw [List.append_nil] at q
        exact fin_sh S q (.tu h1 h2)
    · simp only [op2, if_neg hl] at q
      exact q.elim
theorem sub_real : Real2 K mg (rI0 fun i j => .int (i - j)) (op2 .sub) := by
  intro f F H σ ρ g W v w x y Q S kx ky q
  cases x <;> cases y <;> first | exact q.elim | skip
  cases kx
  cases ky
  exact ⟨_, _, rfl, rfl, fin_sh S q (.num _)⟩
theorem mul_real : Real2 K mg (rI CMul fun i j => .int (i * j)) (op2 .mul) := by
  intro f F H σ ρ g W v w x y Q S kx ky q
  cases x <;> cases y <;> first | exact q.elim | skip
  rename_i i j
  cases kx
  cases ky
  by_cases hl : (-(2 ^ 64) < i ∧ i < 2 ^ 64) ∨ (-(2 ^ 64) < j ∧ j < 2 ^ 64)
  · simp only [op2, if_pos hl] at q
    exact ⟨_, _, rfl, rfl, hl, fin_sh S q (.num _)⟩
  · simp only [op2, if_neg hl] at q
    exact q.elim
theorem fdiv_real : Real2 K mg (rI CDiv fun i j => .int (i / j)) (op2 .fdiv) := by
  intro f F H σ ρ g W v w x y Q S kx ky q
  cases x <;> cases y <;> first | exact q.elim | skip
  rename_i i j
  cases kx
  cases ky
  by_cases hl : 0 < j ∧ j < 1073741824
  · simp only [op2, if_pos hl] at q
    exact ⟨_, _, rfl, rfl, hl, fin_sh S q (.num _)⟩
  · simp only [op2, if_neg hl] at q
    exact q.elim
theorem mod_real : Real2 K mg (rI (fun _ j => 0 < j) fun i j => .int (i % j)) (op2 .mod) := by
  intro f F H σ ρ g W v w x y Q S kx ky q
  cases x <;> cases y <;> first | exact q.elim | skip
  rename_i i j
  cases kx
  cases ky
  by_cases hl : 0 < j
  · simp only [op2, if_pos hl] at q
    exact ⟨_, _, rfl, rfl, hl, fin_sh S q (.num _)⟩
  · simp only [op2, if_neg hl] at q
    exact q.elim
theorem pow_real : Real2 K mg (rI CPow fun i j => .int (i ^ j.toNat)) (op2 .pow) := by
  intro f F H σ ρ g W v w x y Q S kx ky q
  cases x <;> cases y <;> first | exact q.elim | skip
  rename_i i j
  cases kx
  cases ky
  by_cases hl : 0 ≤ j ∧ j ≤ 1000000 ∧ i.natAbs < 2 ^ 64
  · simp only [op2, if_pos hl] at q
    exact ⟨_, _, rfl, rfl, hl, fin_sh S q (.num _)⟩
  · simp only [op2, if_neg hl] at q
    exact q.elim
def opOf : Op2 → Operator
  | .add => .Add | .sub => .Sub | .mul => .Mult | .fdiv => .FloorDiv | .mod => .Mod | .pow => .Pow
theorem pe_binM {o : Op2} {a b : Expr} {pos : Pos} {ca cb : Co D} (ha : PE X a (tE X.K mg W ca)) (hb : PE X b (tE X.K mg W cb)) : PE X (.BinOp a (opOf o) b pos) (tO X.K mg W (c2 ca cb (op2 o))) := by
  cases o
  · exact PE.imp (pe_op op_addM ha hb) (real2 add_real)
  · exact PE.imp (pe_op op_sub ha hb) (real2 sub_real)
  · exact PE.imp (pe_op op_mul ha hb) (real2 mul_real)
  · exact PE.imp (pe_op op_fdiv ha hb) (real2 fdiv_real)
  · exact PE.imp (pe_op op_mod ha hb) (real2 mod_real)
  · exact PE.imp (pe_op op_pow ha hb) (real2 pow_real)
theorem neg_real : Real1 K mg (rU fun i => .int (-i)) (fun x => match x with | .int i => some (.sh (.int (-i))) | _ => none) := by
  intro f F H σ ρ g W v x Q S kx q
  cases x <;> first | exact q.elim | skip
  cases kx
  exact ⟨_, rfl, fin_sh S q (.num _)⟩
end Md
/-! Md3: comparisons, displays, items, slices, built-ins over data. -/
namespace Md
open PySem PySem.Spec PyProof.Rows L2
variable {K : PySem.W.Frag} {mg : Str → Option Value} {F F' H H' : Hp} {f : Fm} {σ : L2.St} {ρ : Sto} {g : Addr → Option Ow} {W : WX} {X : Cx}
/-! ### comparisons -/
mutual
theorem plain_can : ∀ d : D, d.canLay0 = true → plain d = true
  | .none, _ => rfl
  | .bool _, _ => rfl
  | .int _, _ => rfl
  | .str _, _ => rfl
  | .list xs, h => plain_canA xs h
  | .tuple xs, h => plain_canA xs h
  | .dict _, h => by cases h
theorem plain_canA : ∀ ds : List D, PyData.canLayAll0 ds = true → plainA ds = true
  | [], _ => rfl
  | d :: ds, h => by
    have h : (d.canLay0 && PyData.canLayAll0 ds) = true := h
    rw [Bool.and_eq_true] at h
    show (plain d && plainA ds) = true
    rw [plain_can d h.1, plain_canA ds h.2]
    rfl
end
theorem plain_sh {d : D} (h : SeqAt.shaped d = true) : plain d = true := plain_can d (SeqAt.canLay_of_shaped h)
theorem dp_sh (S : SR K mg f F H σ ρ g) {v : V} {d : D} (k : Vr K mg F v d) (h : SeqAt.shaped d = true) : Dp K H v d := Vr.dp d (Vr.same S.sub d k) (plain_sh h)
def rInTD (K : PySem.W.Frag) : R2 := fun x y H Q => ∃ d ds, Dp K H x d ∧ Dp K H y (.tuple ds) ∧ SeqAt.shaped d = true ∧ SeqAt.shaped (.tuple ds) = true ∧ Q (.bl (ds.any fun z => PyData.eqv z d)) H
def rNotInTD (K : PySem.W.Frag) : R2 := fun x y H Q => ∃ d ds, Dp K H x d ∧ Dp K H y (.tuple ds) ∧ SeqAt.shaped d = true ∧ SeqAt.shaped (.tuple ds) = true ∧ Q (.bl (!ds.any fun z => PyData.eqv z d)) H
theorem op_inTD (hu : X.A.units + 65 < cLine) : OpR X (compareOp .In) (rInTD X.K) := by
  intro pins s σ H x y v u Q I rx ry h
  obtain ⟨d, ds, hd, he, sd, se, q⟩ := h
  obtain ⟨as, r1⟩ := Dp.reads I d x v hd rx
  obtain ⟨bs, r2⟩ := Dp.reads I (.tuple ds) y u he ry
  exact SeqAt.in_tuple_reads r2 r1 (SeqAt.canLay_of_shaped se) (SeqAt.canLay_of_shaped sd) (room_in_shaped sd hu) ⟨.bl _, H, I, rfl, q⟩
theorem op_notInTD (hu : X.A.units + 65 < cLine) : OpR X (compareOp .NotIn) (rNotInTD X.K) := by
  intro pins s σ H x y v u Q I rx ry h
  obtain ⟨d, ds, hd, he, sd, se, q⟩ := h
  obtain ⟨as, r1⟩ := Dp.reads I d x v hd rx
  obtain ⟨bs, r2⟩ := Dp.reads I (.tuple ds) y u he ry
  exact SeqAt.notIn_tuple_reads r2 r1 (SeqAt.canLay_of_shaped se) (SeqAt.canLay_of_shaped sd) (room_in_shaped sd hu) ⟨.bl _, H, I, rfl, q⟩
def rCm (K : PySem.W.Frag) : Cm → R2
  | .eq => EK.rEqU K
  | .ne => fun x y H Q => rNe x y H Q ∨ rNeD K x y H Q
  | .lt => rI0 fun i j => .bl (decide (i < j))
  | .le => rI0 fun i j => .bl (decide (i ≤ j))
  | .gt => rI0 fun i j => .bl (decide (j < i))
  | .ge => rI0 fun i j => .bl (decide (j ≤ i))
  | .inn => fun x y H Q => (∃ i j, x = .str i ∧ y = .str j ∧ Q (.bl (!(Builtin.Str.occurrences j i 0 j.length 1).isEmpty)) H) ∨ rInD K x y H Q ∨ rInTD K x y H Q
  | .nin => fun x y H Q => (∃ i j, x = .str i ∧ y = .str j ∧ Q (.bl (!(!(Builtin.Str.occurrences j i 0 j.length 1).isEmpty))) H) ∨ rNotInD K x y H Q ∨ rNotInTD K x y H Q
def cmOf : Cm → CmpOp
  | .eq => .Eq | .ne => .NotEq | .lt => .Lt | .le => .LtE | .gt => .Gt | .ge => .GtE | .inn => .In | .nin => .NotIn
theorem op_cm (hu : X.A.units + 65 < cLine) : ∀ c : Cm, OpR X (compareOp (cmOf c)) (rCm X.K c)
  | .eq => EK.op_eqU (Nat.lt_of_succ_lt hu)
  | .ne => OpR.or op_ne (op_neD (Nat.lt_of_succ_lt hu))
  | .lt => op_lt
  | .le => op_le
  | .gt => op_gt
  | .ge => op_ge
  | .inn => OpR.or op_in_str (OpR.or (op_inD hu) (op_inTD hu))
  | .nin => OpR.or op_notin_str (OpR.or (op_notInD hu) (op_notInTD hu))
theorem str_of {v : V} {a : Str} (h : Vr K mg F v (.str a)) : v = .str a := by cases h; rfl
theorem int_of {v : V} {a : Int} (h : Vr K mg F v (.int a)) : v = .int a := by cases h; rfl
theorem cm_real (S : SR K mg f F H σ ρ g) {v w : V} {x y : D} {b : Bool} {Q : VK} (kx : Vr K mg F v x) (ky : Vr K mg F w y) : ∀ {c : Cm}, cmp2 c x y = some b → Q (.bl b) H → rCm K c v w H Q := by
  intro c e q
  cases c with
  | eq =>
    have e : (if eqOk x y then some (PyData.eqv x y) else none) = some b := e
    by_cases ho : eqOk x y = true
    · rw [if_pos ho] at e
      cases e
      unfold eqOk at ho
      rw [Bool.or_eq_true] at ho
      rcases ho with ho | ho
      · cases x <;> cases y <;> first | (cases ho; done) | skip
        exact ⟨_, _, Vr.dp _ (Vr.same S.sub _ kx) rfl, Vr.dp _ (Vr.same S.sub _ ky) rfl, .inl ⟨_, _, rfl, rfl⟩, q⟩
      · rw [Bool.and_eq_true] at ho
        exact ⟨_, _, dp_sh S kx ho.1, dp_sh S ky ho.2, .inr ho, q⟩
    · rw [if_neg ho] at e
      cases e
  | ne =>
    have e : (if eqOk x y then some (!PyData.eqv x y) else none) = some b := e
    by_cases ho : eqOk x y = true
    · rw [if_pos ho] at e
      cases e
      unfold eqOk at ho
      rw [Bool.or_eq_true] at ho
      rcases ho with ho | ho
      · cases x <;> cases y <;> first | (cases ho; done) | skip
        cases kx
        cases ky
        refine .inl ⟨rfl, ?_⟩
        rw [dec_str]
        exact q
      · rw [Bool.and_eq_true] at ho
        exact .inr ⟨_, _, dp_sh S kx ho.1, dp_sh S ky ho.2, ho.1, ho.2, q⟩
    · rw [if_neg ho] at e
      cases e
  | lt =>
    cases x <;> cases y <;> first | (cases e; done) | skip
    cases kx
    cases ky
    cases e
    exact ⟨_, _, rfl, rfl, q⟩
  | le =>
    cases x <;> cases y <;> first | (cases e; done) | skip
    cases kx
    cases ky
    cases e
    exact ⟨_, _, rfl, rfl, q⟩
  | gt =>
    cases x <;> cases y <;> first | (cases e; done) | skip
    cases kx
    cases ky
    cases e
    exact ⟨_, _, rfl, rfl, q⟩
  | ge =>
    cases x <;> cases y <;> first | (cases e; done) | skip
    cases kx
    cases ky
    cases e
    exact ⟨_, _, rfl, rfl, q⟩
  | inn =>
    cases y with
    | str j =>
      cases x <;> first | (cases e; done) | skip
      cases kx
      cases ky
      cases e
      exact .inl ⟨_, _, rfl, rfl, q⟩
    | list ds =>
      have e : (if SeqAt.shaped x && SeqAt.shaped (.list ds) then some (inD x ds) else none) = some b := by cases x <;> exact e
      by_cases ho : (SeqAt.shaped x && SeqAt.shaped (.list ds)) = true
      · rw [if_pos ho] at e
        cases e
        rw [Bool.and_eq_true] at ho
        exact .inr (.inl ⟨_, _, dp_sh S kx ho.1, dp_sh S ky ho.2, ho.1, ho.2, q⟩)
      · rw [if_neg ho] at e
        cases e
    | tuple ds =>
      have e : (if SeqAt.shaped x && SeqAt.shaped (.tuple ds) then some (inD x ds) else none) = some b := by cases x <;> exact e
      by_cases ho : (SeqAt.shaped x && SeqAt.shaped (.tuple ds)) = true
      · rw [if_pos ho] at e
        cases e
        rw [Bool.and_eq_true] at ho
        exact .inr (.inr ⟨_, _, dp_sh S kx ho.1, dp_sh S ky ho.2, ho.1, ho.2, q⟩)
      · rw [if_neg ho] at e
        cases e
    | none => cases x <;> cases e
    | bool _ => cases x <;> cases e
    | int _ => cases x <;> cases e
    | dict _ => cases x <;> cases e
  | nin =>
    cases y with
    | str j =>
      cases x <;> first | (cases e; done) | skip
      cases kx
      cases ky
      cases e
      exact .inl ⟨_, _, rfl, rfl, q⟩
    | list ds =>
      have e : (if SeqAt.shaped x && SeqAt.shaped (.list ds) then some (!inD x ds) else none) = some b := by cases x <;> exact e
      by_cases ho : (SeqAt.shaped x && SeqAt.shaped (.list ds)) = true
      · rw [if_pos ho] at e
        cases e
        rw [Bool.and_eq_true] at ho
        exact .inr (.inl ⟨_, _, dp_sh S kx ho.1, dp_sh S ky ho.2, ho.1, ho.2, q⟩)
      · rw [if_neg ho] at e
        cases e
    | tuple ds =>
      have e : (if SeqAt.shaped x && SeqAt.shaped (.tuple ds) then some (!inD x ds) else none) = some b := by cases x <;> exact e
      by_cases ho : (SeqAt.shaped x && SeqAt.shaped (.tuple ds)) = true
      · rw [if_pos ho] at e
        cases e
        rw [Bool.and_eq_true] at ho
        exact .inr (.inr ⟨_, _, dp_sh S kx ho.1, dp_sh S ky ho.2, ho.1, ho.2, q⟩)
      · rw [if_neg ho] at e
        cases e
    | none => cases x <;> cases e
    | bool _ => cases x <;> cases e
    | int _ => cases x <;> cases e
    | dict _ => cases x <;> cases e
def cCm (c : Cm) (a b : Co D) : Co Rv := c2 a b fun x y => (cmp2 c x y).map fun k => .sh (.bool k)
section
variable {a b d e : Expr} {es : List Expr} {ca cb cd : Co D} {pos p : Pos} {c c' : Cm}
theorem pe_cmM (hu : X.A.units + 65 < cLine) (c : Cm) (ha : PE X a (tE X.K X.mg W ca)) (hb : PE X b (tE X.K X.mg W cb)) (hm : behindInMarks (cmOf c) b = false) : PE X (.Compare a [cmOf c] [b] pos) (tO X.K X.mg W (cCm c ca cb)) :=
  PE.imp (pe_cmpR (op_cm hu c) ha hb hm) fun σ H Q ⟨f, F, ρ, g, S, q⟩ => ⟨f, F, ρ, g, S, (Fin.bind (R := rD X.K X.mg) q).mono fun v H1 ⟨x, ρ1, F1, g1, S1, s1, k1, q1⟩ => ⟨f, F1, ρ1, g1, S1, (Fin.bind (R := rD X.K X.mg) q1).mono fun w H2 ⟨y, ρ2, F2, g2, S2, s2, k2, q2⟩ => by
    have q2 : Fin X.K X.mg f σ W (rO X.K X.mg) (optO ((cmp2 c x y).map fun k => .sh (.bool k)) ρ2) F2 Q := q2
    cases hz : cmp2 c x y with
    | none => rw [hz] at q2; exact q2.elim
    | some k =>
      rw [hz] at q2
      exact cm_real S2 (k1.same s2) k2 hz (fin_sh S2 q2 (.bo _))⟩⟩
def cChn (c c' : Cm) (a b d : Co D) : Co Rv := fun ρ => (a ρ).bind fun x ρ1 => (b ρ1).bind fun y ρ2 => match cmp2 c x y with
  | some true => ((d ρ2).bind fun z ρ3 => match cmp2 c' y z with
    | some k => .ok (.sh (.bool k)) ρ3
    | none => .st)
  | some false => .ok (.sh (.bool false)) ρ2
  | none => .st
theorem pe_chM (hu : X.A.units + 65 < cLine) (c c' : Cm) (ha : PE X a (tE X.K X.mg W ca)) (hb : PE X b (tE X.K X.mg W cb)) (hd : PE X d (tE X.K X.mg W cd)) (hm : lastMarks [cmOf c, cmOf c'] [b, d] = false) : PE X (.Compare a [cmOf c, cmOf c'] [b, d] pos) (tO X.K X.mg W (cChn c c' ca cb cd)) :=
  PE.imp (pe_chain (op_cm hu c) (op_cm hu c') ha hb hd hm) fun σ H Q ⟨f, F, ρ, g, S, q⟩ => ⟨f, F, ρ, g, S, (Fin.bind (R := rD X.K X.mg) q).mono fun v H1 ⟨x, ρ1, F1, g1, S1, s1, k1, q1⟩ => ⟨f, F1, ρ1, g1, S1, (Fin.bind (R := rD X.K X.mg) q1).mono fun w H2 ⟨y, ρ2, F2, g2, S2, s2, k2, q2⟩ => by
    have q2 : Fin X.K X.mg f σ W (rO X.K X.mg) (match cmp2 c x y with | some true => ((cd ρ2).bind fun z ρ3 => match cmp2 c' y z with | some k => .ok (.sh (.bool k)) ρ3 | none => .st) | some false => .ok (.sh (.bool false)) ρ2 | none => .st) F2 Q := q2
    cases hz : cmp2 c x y with
    | none => rw [hz] at q2; exact q2.elim
    | some k =>
      rw [hz] at q2
      refine cm_real S2 (k1.same s2) k2 hz ⟨k, rfl, ?_⟩
      cases k with
      | false => exact fin_sh S2 q2 (.bo _)
      | true => exact ⟨f, F2, ρ2, g2, S2, (Fin.bind (R := rD X.K X.mg) q2).mono fun u H3 ⟨z, ρ3, F3, g3, S3, s3, k3, q3⟩ => by
          cases hy : cmp2 c' y z with
          | none => rw [hy] at q3; exact q3.elim
          | some k' =>
            rw [hy] at q3
            exact cm_real S3 (k2.same s3) k3 hy (fin_sh S3 q3 (.bo _))⟩⟩⟩
theorem isNone_of {v : V} {x : D} (h : Vr K mg F v x) : decide (v = .non) = isNone x := by
  cases h <;> rfl
def cIsN (neg : Bool) (a : Co D) : Co Rv := cO a fun x => some (.sh (.bool (if neg then !isNone x else isNone x)))
theorem pe_isN {k : Nat} {p : Pos} (ha : PE X a (tE X.K X.mg W ca)) : PE X (.Compare a [.Is] [.Constant .none k p] pos) (tO X.K X.mg W (cIsN false ca)) :=
  PE.imp (pe_cmpR op_isN ha pe_non (nomark _)) fun σ H Q ⟨f, F, ρ, g, S, q⟩ => ⟨f, F, ρ, g, S, (Fin.bind (R := rD X.K X.mg) q).mono fun v H1 ⟨x, ρ1, F1, g1, S1, s1, k1, q1⟩ => by
    refine ⟨rfl, ?_⟩
    rw [isNone_of k1]
    exact fin_sh S1 q1 (.bo _)⟩
theorem pe_notN {k : Nat} {p : Pos} (ha : PE X a (tE X.K X.mg W ca)) : PE X (.Compare a [.IsNot] [.Constant .none k p] pos) (tO X.K X.mg W (cIsN true ca)) :=
  PE.imp (pe_cmpR op_notN ha pe_non (nomark _)) fun σ H Q ⟨f, F, ρ, g, S, q⟩ => ⟨f, F, ρ, g, S, (Fin.bind (R := rD X.K X.mg) q).mono fun v H1 ⟨x, ρ1, F1, g1, S1, s1, k1, q1⟩ => by
    refine ⟨rfl, ?_⟩
    rw [isNone_of k1]
    exact fin_sh S1 q1 (.bo _)⟩
/-! ### displays -/
def cNil : Co (List D) := fun ρ => .ok [] ρ
def cCons (a : Co D) (r : Co (List D)) : Co (List D) := c2 a r fun x xs => some (x :: xs)
theorem pa_nilM : PA X [] (tAs X.K X.mg W cNil) := PA.imp pa_nil fun σ H Q ⟨f, F, ρ, g, S, q⟩ => q [] F H g S (Same.refl F) .nil
theorem pa_consM {r : Co (List D)} (ha : PE X e (tE X.K X.mg W ca)) (hr : PA X es (tAs X.K X.mg W r)) (hs : starEach (e :: es) X.env = (false, eval e X.env) :: starEach es X.env := by rfl) : PA X (e :: es) (tAs X.K X.mg W (cCons ca r)) :=
  PA.imp (pa_cons ha hr hs) fun σ H Q ⟨f, F, ρ, g, S, q⟩ => ⟨f, F, ρ, g, S, (Fin.bind (R := rD X.K X.mg) q).mono fun v H1 ⟨x, ρ1, F1, g1, S1, s1, k1, q1⟩ => ⟨f, F1, ρ1, g1, S1, (Fin.bind (R := rA X.K X.mg) q1).mono fun vs H2 ⟨xs, ρ2, F2, g2, S2, s2, k2, q2⟩ =>
    q2 (v :: vs) F2 H2 g2 S2 (Same.refl F2) (.cons (k1.same s2) k2)⟩⟩
def cTup (r : Co (List D)) : Co Rv := cO r fun xs => if xs.length ≤ sizeLine then some (.sh (.tuple xs)) else none
def cLst (r : Co (List D)) : Co Rv := cO r fun xs => if xs.length ≤ sizeLine then some (.ow (.lst xs)) else none
theorem pe_tupM {r : Co (List D)} {k : Nat} (h : PA X es (tAs X.K X.mg W r)) : PE X (.Tuple es k pos) (tO X.K X.mg W (cTup r)) :=
  PE.imp (pe_tup h) fun σ H Q ⟨f, F, ρ, g, S, q⟩ => ⟨f, F, ρ, g, S, (Fin.bind (R := rA X.K X.mg) q).mono fun vs H1 ⟨xs, ρ1, F1, g1, S1, s1, k1, q1⟩ => by
    by_cases hl : xs.length ≤ sizeLine
    · simp only [if_pos hl] at q1
      exact ⟨by rw [k1.len]; exact hl, fin_tup S1 q1 k1⟩
    · simp only [if_neg hl] at q1
      exact q1.elim⟩
theorem pe_lstM {r : Co (List D)} (h : PA X es (tAs X.K X.mg W r)) : PE X (.List es pos) (tO X.K X.mg W (cLst r)) :=
  PE.imp (pe_lst h) fun σ H Q ⟨f, F, ρ, g, S, q⟩ => ⟨f, F, ρ, g, S, (Fin.bind (R := rA X.K X.mg) q).mono fun vs H1 ⟨xs, ρ1, F1, g1, S1, s1, k1, q1⟩ => by
    by_cases hl : xs.length ≤ sizeLine
    · simp only [if_pos hl] at q1
      exact ⟨by rw [k1.len]; exact hl, fin_lst S1 q1 k1⟩
    · simp only [if_neg hl] at q1
      exact q1.elim⟩
/-! ### items and slices -/
theorem VrA.atI {vs : List V} {ds : List D} {i : Int} {d : D} (h : VrA K mg F vs ds) (e : atI ds i = some d) : ∃ v, L2.atI vs i = some v ∧ Vr K mg F v d := by
  unfold L2.atI at e ⊢
  rw [h.len]
  cases hj : ixN ds.length i with
  | none => rw [hj] at e; cases e
  | some j =>
    rw [hj] at e
    exact h.at e
def cIdx (a b : Co D) : Co Rv := c2 a b fun x y => (idxD x y).map .sh
theorem idx_real : Real2 K mg (rIx K) (fun x y => (idxD x y).map .sh) := by
  intro f F H σ ρ g W v w x y Q S kx ky q
  cases x with
  | list ds =>
    cases y <;> first | exact q.elim | skip
    cases ky
    rename_i i
    have q : Fin K mg f σ W (rO K mg) (optO ((atI ds i).map .sh) ρ) F Q := q
    cases hz : atI ds i with
    | none => rw [hz] at q; exact q.elim
    | some d =>
      rw [hz] at q
      cases kx with
      | @li a xs _ h1 h2 =>
        obtain ⟨v, e, k⟩ := h2.atI hz
        exact .inl ⟨a, xs, i, v, rfl, rfl, SqL.of (S.sub _ _ h1), e, fin_sh S q k⟩
  | tuple ds =>
    cases y <;> first | exact q.elim | skip
    cases ky
    rename_i i
    have q : Fin K mg f σ W (rO K mg) (optO ((atI ds i).map .sh) ρ) F Q := q
    cases hz : atI ds i with
    | none => rw [hz] at q; exact q.elim
    | some d =>
      rw [hz] at q
      cases kx with
      | @tu a xs _ h1 h2 =>
        obtain ⟨v, e, k⟩ := h2.atI hz
        exact .inr (.inl ⟨a, xs, i, v, rfl, rfl, Same.sqT S.sub h1, e, fin_sh S q k⟩)
  | str z =>
    cases y <;> first | exact q.elim | skip
    cases kx
    cases ky
    rename_i i
    have q : Fin K mg f σ W (rO K mg) (optO ((if z.length ≤ sizeLine then (atI z.cps.toList i).map fun c => (PyData.str ⟨#[c]⟩ : D) else none).map .sh) ρ) F Q := q
    by_cases hl : z.length ≤ sizeLine
    · rw [if_pos hl] at q
      cases hz : atI z.cps.toList i with
      | none => rw [hz] at q; exact q.elim
      | some c =>
        rw [hz] at q
        exact .inr (.inr ⟨z, i, c, rfl, rfl, hl, hz, fin_sh S q (.txt _)⟩)
    · rw [if_neg hl] at q
      exact q.elim
  | none => cases y <;> exact q.elim
  | bool _ => cases y <;> exact q.elim
  | int _ => cases y <;> exact q.elim
  | dict _ => cases y <;> exact q.elim
theorem pe_ixM (ha : PE X a (tE X.K X.mg W ca)) (hb : PE X b (tE X.K X.mg W cb)) (hs : PlainIx b) : PE X (.Subscript a b pos) (tO X.K X.mg W (cIdx ca cb)) := PE.imp (pe_ix ix_seq ha hb hs) (real2 idx_real)
def cNoP : Co (Option Int) := fun ρ => .ok none ρ
def cSmP (c : Co D) : Co (Option Int) := cO c fun x => (asInt x).map some
abbrev rP : Hp → Hp → (Addr → Option Ow) → Option Int → Option Int → Prop := fun _ _ _ v r => v = r
abbrev tPM (K : PySem.W.Frag) (mg : Str → Option Value) (W : WX) (c : Co (Option Int)) : L2.St → Hp → (Option Int → Hp → Prop) → Prop := tX K mg rP W c
theorem PO.imp {e : Option Expr} {t t' : L2.St → Hp → (Option Int → Hp → Prop) → Prop} (h : PO X e t) (k : ∀ σ H Q, t' σ H Q → t σ H Q) : PO X e t' := ⟨fun pins s σ H Q I q => h.run pins s σ H Q I (k σ H Q q)⟩
theorem po_noM : PO X none (tPM X.K X.mg W cNoP) := PO.imp po_none fun σ H Q ⟨f, F, ρ, g, S, q⟩ => q none F H g S (Same.refl F) rfl
theorem po_smM (ha : PE X a (tE X.K X.mg W ca)) : PO X (some a) (tPM X.K X.mg W (cSmP ca)) := PO.imp (po_some ha) fun σ H Q ⟨f, F, ρ, g, S, q⟩ => ⟨f, F, ρ, g, S, (Fin.bind (R := rD X.K X.mg) q).mono fun v H1 ⟨x, ρ1, F1, g1, S1, s1, k1, q1⟩ => by
  cases x <;> first | exact q1.elim | skip
  cases k1
  exact ⟨_, rfl, q1 _ F1 H1 g1 S1 (Same.refl F1) rfl⟩⟩
def rSlM (K : PySem.W.Frag) : V → Option Int → Option Int → Hp → VK → Prop := fun x lo hi H Q => rSlL K x lo hi H Q ∨ rSlA K x lo hi H Q ∨ C8.rSlX x lo hi H Q
theorem sl_m : L2.SlR X (rSlM X.K) := L2.SlR.or sl_list (L2.SlR.or sl_tupA C8.sl_txt)
def cSl (a : Co D) (lo hi : Co (Option Int)) : Co Rv := c3 a lo hi slcD
theorem cut_all {α : Type} {xs : List α} {lo hi : Option Int} (h : HT.sIx xs.length 0 lo = 0 ∧ HT.sIx xs.length xs.length hi = xs.length) : (xs.drop (HT.sIx xs.length 0 lo)).take (HT.sIx xs.length xs.length hi - HT.sIx xs.length 0 lo) = xs := by
  rw [h.1, h.2, List.drop_zero, Nat.sub_zero, List.take_length]
theorem pe_slM {lo hi : Option Expr} {cl ch : Co (Option Int)} {p2 : Pos} (ha : PE X a (tE X.K X.mg W ca)) (hl : PO X lo (tPM X.K X.mg W cl)) (hh : PO X hi (tPM X.K X.mg W ch)) : PE X (.Subscript a (.Slice lo hi none p2) pos) (tO X.K X.mg W (cSl ca cl ch)) :=
  PE.imp (pe_slice sl_m ha hl hh) fun σ H Q ⟨f, F, ρ, g, S, q⟩ => ⟨f, F, ρ, g, S, (Fin.bind (R := rD X.K X.mg) q).mono fun v H1 ⟨x, ρ1, F1, g1, S1, s1, k1, q1⟩ => ⟨f, F1, ρ1, g1, S1, (Fin.bind (R := rP) q1).mono fun l H2 ⟨l', ρ2, F2, g2, S2, s2, e2, q2⟩ => ⟨f, F2, ρ2, g2, S2, (Fin.bind (R := rP) q2).mono fun h H3 ⟨h', ρ3, F3, g3, S3, s3, e3, q3⟩ => by
    have e2 : l = l' := e2
    have e3 : h = h' := e3
    subst e2 e3
    have k1 := (k1.same s2).same s3
    cases x with
    | list ds =>
      cases k1 with
      | @li p xs _ h1 h2 =>
        refine .inl ⟨p, xs, rfl, SqL.of (S3.sub _ _ h1), ?_⟩
        have := h2.len
        refine fin_lst S3 q3 ?_
        unfold cutL
        rw [← this]
        exact h2.cut _ _
    | tuple ds =>
      cases k1 with
      | @tu p xs _ h1 h2 =>
        have hl := h2.len
        refine .inr (.inl ⟨p, xs, rfl, Same.sqT S3.sub h1, fun hc => ?_, fun _ => ?_⟩)
        · rw [hl] at hc
          have q3 : Fin X.K X.mg f σ W (rO X.K X.mg) (.ok (.sh (.tuple (cutL ds l h))) ρ3) F3 Q := q3
          rw [show cutL ds l h = ds from cut_all hc] at q3
          exact fin_sh S3 q3 (.tu h1 h2)
        · refine fin_tup S3 q3 ?_
          unfold cutL
          rw [← hl]
          exact h2.cut _ _
    | str z =>
      cases k1
      have q3 : Fin X.K X.mg f σ W (rO X.K X.mg) (optO (if z.length ≤ sizeLine then some (.sh (.str (Txt.slice z l h))) else none) ρ3) F3 Q := q3
      by_cases hl : z.length ≤ sizeLine
      · rw [if_pos hl] at q3
        exact .inr (.inr ⟨z, rfl, hl, fin_sh S3 q3 (.txt _)⟩)
      · rw [if_neg hl] at q3
        exact q3.elim
    | none => exact q3.elim
    | bool _ => exact q3.elim
    | int _ => exact q3.elim
    | dict fs =>
      cases k1 with
      | @fl p xs ds h1 h2 =>
        refine .inl ⟨p, xs, rfl, Same.sqL S3.sub h1, ?_⟩
        have := h2.len
        refine fin_lst S3 q3 ?_
        unfold cutL
        rw [← this]
        exact h2.cut _ _
      | ob => exact q3.elim⟩⟩⟩
def revD : D → Option Rv
  | .list ds => some (.ow (.lst ds.reverse))
  | _ => none
theorem pe_revM {k : Nat} {p1 p2 p3 : Pos} (ha : PE X a (tE X.K X.mg W ca)) : PE X (.Subscript a (.Slice none none (some (.UnaryOp .USub (.Constant (.int 1) k p1) p2)) p3) pos) (tO X.K X.mg W (cO ca revD)) :=
  PE.imp (pe_revL ha) fun σ H Q ⟨f, F, ρ, g, S, q⟩ => ⟨f, F, ρ, g, S, (Fin.bind (R := rD X.K X.mg) q).mono fun v H1 ⟨x, ρ1, F1, g1, S1, s1, k1, q1⟩ => by
    cases x <;> first | exact q1.elim | skip
    cases k1 with
    | @li p xs _ h1 h2 => exact ⟨p, xs, rfl, SqL.of (S1.sub _ _ h1), fin_lst S1 q1 h2.rev⟩⟩
end
end Md
/-! Md4: built-ins, isinstance, fields over data. -/
namespace Md
open PySem PySem.Spec PyProof.Rows L2
variable {K : PySem.W.Frag} {mg : Str → Option Value} {F F' H H' : Hp} {f : Fm} {σ : L2.St} {ρ : Sto} {g : Addr → Option Ow} {W : WX} {X : Cx}
def RealB (K : PySem.W.Frag) (mg : Str → Option Value) (r : List V → Hp → VK → Prop) (k : D → Option Rv) : Prop := ∀ f F H (σ : L2.St) ρ g (W : WX) v x Q, SR K mg f F H σ ρ g → Vr K mg F v x →
  Fin K mg f σ W (rO K mg) (optO (k x) ρ) F Q → r [v] H Q
section
variable {a b e : Expr} {ca cb : Co D} {pos p : Pos} {x : Str} {id T : String} {r : List V → Hp → VK → Prop} {k : D → Option Rv}
theorem r_b1 (hr : RealB K mg r k) : ∀ σ H Q, tO K mg W (cO ca k) σ H Q → tCB r (tCons (tE K mg W ca) tNil) σ H Q := fun σ H Q ⟨f, F, ρ, g, S, q⟩ =>
  ⟨f, F, ρ, g, S, (Fin.bind (R := rD K mg) q).mono fun v H1 ⟨x, ρ1, F1, g1, S1, s1, k1, q1⟩ => hr f F1 H1 σ ρ1 g1 W v x Q S1 k1 q1⟩
theorem pe_b1 (hc : CallR X (.builtin id) r) (hr : RealB X.K X.mg r k) (hg : Gl X x) (hm : X.mg x = none) (hv : bootBuiltins x = some (.builtin id)) (ha : PE X e (tE X.K X.mg W ca)) (hn : x ≠ "__name__" := by decide) (hdb : (x == ("__debug__" : Str)) = false := by decide)
    (he : starEach [e] X.env = (false, eval e X.env) :: starEach [] X.env := by rfl) : PE X (.Call (.Name x p) [e] [] pos) (tO X.K X.mg W (cO ca k)) :=
  PE.imp (pe_callB hc hg hm hv (pa_cons ha pa_nil he) hn hdb he rfl) (r_b1 hr)
theorem pe_t1 (hc : CallR X (.type T) r) (hr : RealB X.K X.mg r k) (hg : Gl X x) (hm : X.mg x = none) (hv : bootBuiltins x = some (.type T)) (ha : PE X e (tE X.K X.mg W ca)) (hn : x ≠ "__name__" := by decide) (hdb : (x == ("__debug__" : Str)) = false := by decide)
    (he : starEach [e] X.env = (false, eval e X.env) :: starEach [] X.env := by rfl) : PE X (.Call (.Name x p) [e] [] pos) (tO X.K X.mg W (cO ca k)) :=
  PE.imp (pe_callTy hc hg hm hv (pa_cons ha pa_nil he) hn hdb he rfl) (r_b1 hr)
theorem len_real : RealB K mg (fun xs H Q => ∃ x n, xs = [x] ∧ LenV K x H n ∧ Q (.int n) H) (biD .len) := by
  intro f F H σ ρ g W v x Q S kx q
  cases x <;> first | exact q.elim | skip
  · rename_i z
    cases kx
    have q : Fin K mg f σ W (rO K mg) (optO (if z.length ≤ sizeLine then some (.sh (.int z.length)) else none) ρ) F Q := q
    by_cases hl : z.length ≤ sizeLine
    · rw [if_pos hl] at q
      exact ⟨_, z.length, rfl, ⟨hl, rfl⟩, fin_sh S q (.num _)⟩
    · rw [if_neg hl] at q
      exact q.elim
  · rename_i ds
    cases kx with
    | @li a xs _ h1 h2 => exact ⟨_, ds.length, rfl, .inl ⟨xs, SqL.of (S.sub _ _ h1), h2.len.symm⟩, fin_sh S q (.num _)⟩
  · rename_i ds
    cases kx with
    | @tu a xs _ h1 h2 => exact ⟨_, ds.length, rfl, .inr ⟨xs, Same.sqT S.sub h1, h2.len.symm⟩, fin_sh S q (.num _)⟩
theorem abs_real : RealB K mg (fun xs H Q => ∃ i, xs = [.int i] ∧ Q (.int (if i < 0 then -i else i)) H) (biD .abs) := by
  intro f F H σ ρ g W v x Q S kx q
  cases x <;> first | exact q.elim | skip
  cases kx
  exact ⟨_, rfl, fin_sh S q (.num _)⟩
theorem int_real : RealB K mg (fun xs H Q => (∃ i, xs = [.int i] ∧ Q (.int i) H) ∨ ∃ k, xs = [.bl k] ∧ Q (.int (if k then 1 else 0)) H) (biD .int) := by
  intro f F H σ ρ g W v x Q S kx q
  cases x <;> first | exact q.elim | skip
  · cases kx
    exact .inr ⟨_, rfl, fin_sh S q (.num _)⟩
  · cases kx
    exact .inl ⟨_, rfl, fin_sh S q (.num _)⟩
theorem tuple_real : RealB K mg (fun xs H Q => ∃ p ys, xs = [.ref p] ∧ ((SqL K H p ys ∧ ∀ l, H l = none → Q (.ref l) (upd H l (.tup ys))) ∨ (SqT K H p ys ∧ Q (.ref p) H))) (biD .tuple) := by
  intro f F H σ ρ g W v x Q S kx q
  cases x <;> first | exact q.elim | skip
  · cases kx with
    | @li a xs _ h1 h2 => exact ⟨a, xs, rfl, .inl ⟨SqL.of (S.sub _ _ h1), fin_tup S q h2⟩⟩
  · cases kx with
    | @tu a xs _ h1 h2 => exact ⟨a, xs, rfl, .inr ⟨Same.sqT S.sub h1, fin_sh S q (.tu h1 h2)⟩⟩
theorem list_real : RealB K mg (fun xs H Q => ∃ p ys, xs = [.ref p] ∧ (SqL K H p ys ∨ SqT K H p ys) ∧ ∀ l, H l = none → Q (.ref l) (upd H l (.lst ys))) (biD .list) := by
  intro f F H σ ρ g W v x Q S kx q
  cases x <;> first | exact q.elim | skip
  · cases kx with
    | @li a xs _ h1 h2 => exact ⟨a, xs, rfl, .inl (SqL.of (S.sub _ _ h1)), fin_lst S q h2⟩
  · cases kx with
    | @tu a xs _ h1 h2 => exact ⟨a, xs, rfl, .inr (Same.sqT S.sub h1), fin_lst S q h2⟩
theorem boolsD_eq : ∀ {ds : List D} {bs : List Bool}, boolsD ds = some bs → ds = bs.map .bool
  | [], bs, e => by cases e; rfl
  | d :: ds, bs, e => by
    cases d <;> first | (cases e; done) | skip
    rename_i b
    have e : (boolsD ds).map (b :: ·) = some bs := e
    cases hz : boolsD ds with
    | none => rw [hz] at e; cases e
    | some r =>
      rw [hz] at e
      cases e
      rw [boolsD_eq hz]
      rfl
theorem intsD_eq : ∀ {ds : List D} {bs : List Int}, intsD ds = some bs → ds = bs.map .int
  | [], bs, e => by cases e; rfl
  | d :: ds, bs, e => by
    cases d <;> first | (cases e; done) | skip
    rename_i b
    have e : (intsD ds).map (b :: ·) = some bs := e
    cases hz : intsD ds with
    | none => rw [hz] at e; cases e
    | some r =>
      rw [hz] at e
      cases e
      rw [intsD_eq hz]
      rfl
theorem strsD_eq : ∀ {ds : List D} {bs : List Str}, strsD ds = some bs → ds = bs.map .str
  | [], bs, e => by cases e; rfl
  | d :: ds, bs, e => by
    cases d <;> first | (cases e; done) | skip
    rename_i b
    have e : (strsD ds).map (b :: ·) = some bs := e
    cases hz : strsD ds with
    | none => rw [hz] at e; cases e
    | some r =>
      rw [hz] at e
      cases e
      rw [strsD_eq hz]
      rfl
theorem any_real : RealB K mg (rAny K) (biD .any) := by
  intro f F H σ ρ g W v x Q S kx q
  cases x <;> first | exact q.elim | skip
  rename_i ds
  have q : Fin K mg f σ W (rO K mg) (optO ((boolsD ds).map fun bs => .sh (.bool (bs.any _root_.id))) ρ) F Q := q
  cases hz : boolsD ds with
  | none => rw [hz] at q; exact q.elim
  | some bs =>
    rw [hz] at q
    rw [boolsD_eq hz] at kx
    cases kx with
    | @li a xs _ h1 h2 =>
      rw [VrA.bools_inv h2] at h1
      exact ⟨a, bs, rfl, SqL.of (S.sub _ _ h1), fin_sh S q (.bo _)⟩
theorem all_real : RealB K mg (rAll K) (biD .all) := by
  intro f F H σ ρ g W v x Q S kx q
  cases x <;> first | exact q.elim | skip
  rename_i ds
  have q : Fin K mg f σ W (rO K mg) (optO ((boolsD ds).map fun bs => .sh (.bool (bs.all _root_.id))) ρ) F Q := q
  cases hz : boolsD ds with
  | none => rw [hz] at q; exact q.elim
  | some bs =>
    rw [hz] at q
    rw [boolsD_eq hz] at kx
    cases kx with
    | @li a xs _ h1 h2 =>
      rw [VrA.bools_inv h2] at h1
      exact ⟨a, bs, rfl, SqL.of (S.sub _ _ h1), fin_sh S q (.bo _)⟩
theorem sum_real : RealB K mg (rSum K) (biD .sum) := by
  intro f F H σ ρ g W v x Q S kx q
  cases x <;> first | exact q.elim | skip
  rename_i ds
  have q : Fin K mg f σ W (rO K mg) (optO ((intsD ds).map fun bs => .sh (.int bs.sum)) ρ) F Q := q
  cases hz : intsD ds with
  | none => rw [hz] at q; exact q.elim
  | some bs =>
    rw [hz] at q
    rw [intsD_eq hz] at kx
    cases kx with
    | @li a xs _ h1 h2 =>
      rw [VrA.ints_inv h2] at h1
      exact ⟨a, bs, rfl, SqL.of (S.sub _ _ h1), fin_sh S q (.num _)⟩
variable (X)
theorem pe_len (hg : Gl X "len") (hm : X.mg "len" = none) (ha : PE X e (tE X.K X.mg W ca)) (he : starEach [e] X.env = (false, eval e X.env) :: starEach [] X.env := by rfl) : PE X (.Call (.Name "len" p) [e] [] pos) (tO X.K X.mg W (cO ca (biD .len))) := pe_b1 call_len len_real hg hm (by decide +kernel) ha (by decide) (by decide) he
theorem pe_abs (hg : Gl X "abs") (hm : X.mg "abs" = none) (ha : PE X e (tE X.K X.mg W ca)) (he : starEach [e] X.env = (false, eval e X.env) :: starEach [] X.env := by rfl) : PE X (.Call (.Name "abs" p) [e] [] pos) (tO X.K X.mg W (cO ca (biD .abs))) := pe_b1 call_abs abs_real hg hm (by decide +kernel) ha (by decide) (by decide) he
theorem pe_any (hc : X.calm = true) (hg : Gl X "any") (hm : X.mg "any" = none) (ha : PE X e (tE X.K X.mg W ca)) (he : starEach [e] X.env = (false, eval e X.env) :: starEach [] X.env := by rfl) : PE X (.Call (.Name "any" p) [e] [] pos) (tO X.K X.mg W (cO ca (biD .any))) := pe_b1 (cr_any hc) any_real hg hm (by decide +kernel) ha (by decide) (by decide) he
theorem pe_all (hc : X.calm = true) (hg : Gl X "all") (hm : X.mg "all" = none) (ha : PE X e (tE X.K X.mg W ca)) (he : starEach [e] X.env = (false, eval e X.env) :: starEach [] X.env := by rfl) : PE X (.Call (.Name "all" p) [e] [] pos) (tO X.K X.mg W (cO ca (biD .all))) := pe_b1 (cr_all hc) all_real hg hm (by decide +kernel) ha (by decide) (by decide) he
theorem pe_sum (hc : X.calm = true) (hg : Gl X "sum") (hm : X.mg "sum" = none) (ha : PE X e (tE X.K X.mg W ca)) (he : starEach [e] X.env = (false, eval e X.env) :: starEach [] X.env := by rfl) : PE X (.Call (.Name "sum" p) [e] [] pos) (tO X.K X.mg W (cO ca (biD .sum))) := pe_b1 (cr_sum hc) sum_real hg hm (by decide +kernel) ha (by decide) (by decide) he
theorem pe_int1 (hg : Gl X "int") (hm : X.mg "int" = none) (ha : PE X e (tE X.K X.mg W ca)) (he : starEach [e] X.env = (false, eval e X.env) :: starEach [] X.env := by rfl) : PE X (.Call (.Name "int" p) [e] [] pos) (tO X.K X.mg W (cO ca (biD .int))) := pe_t1 call_int1 int_real hg hm (by decide +kernel) ha (by decide) (by decide) he
theorem pe_tuple1 (hg : Gl X "tuple") (hm : X.mg "tuple" = none) (ha : PE X e (tE X.K X.mg W ca)) (he : starEach [e] X.env = (false, eval e X.env) :: starEach [] X.env := by rfl) : PE X (.Call (.Name "tuple" p) [e] [] pos) (tO X.K X.mg W (cO ca (biD .tuple))) := pe_t1 call_tuple_of tuple_real hg hm (by decide +kernel) ha (by decide) (by decide) he
theorem pe_list1 (hg : Gl X "list") (hm : X.mg "list" = none) (ha : PE X e (tE X.K X.mg W ca)) (he : starEach [e] X.env = (false, eval e X.env) :: starEach [] X.env := by rfl) : PE X (.Call (.Name "list" p) [e] [] pos) (tO X.K X.mg W (cO ca (biD .list))) := pe_t1 call_list_of list_real hg hm (by decide +kernel) ha (by decide) (by decide) he
variable {X}
/-! ### isinstance -/
/-- what is told of an own class: its kind for isinstance -/
structure OwnC (K : PySem.W.Frag) (C : Addr) : Prop where
  cl : Cls K C
  ha : PySem.W.findIn K (.ref C) "__class__" = some (some (.builtin "object.__class__"))
  hn : PySem.W.specialIn K (.builtin "object.__class__") "__get__" = some (some (.builtin "getset_descriptor.__get__"))
  htk : PySem.W.takesIn K (.builtin "object.__class__") = some true
  hm : PySem.W.mroIn K C (.type "object") = some true
/-- isinstance with the class u (a built-in one: t) of values: of own classes what `own` tells -/
structure IsiC (K : PySem.W.Frag) (mg : Str → Option Value) (u : Value) (t : Option String) (own : List (Str × Bool)) : Prop where
  ty : ∀ s, t = some s → u = .type s
  no : t = none → ∀ s ∈ ["NoneType", "bool", "int", "str", "list", "tuple"], PySem.W.kitOne K (.type s) u = some false
  own : ∀ c b C, own.lookup c = some b → mg c = some (.ref C) → OwnC K C ∧ PySem.W.kitOne K (.ref C) u = some b
theorem lookup_lt {a : Addr} {xs : List V} (h : SqT K H a xs) : TyX K H (.ref a) (.type "tuple") := by
  rcases h with (h | ⟨o, h⟩) | ⟨o, its, n, h1, h2, _⟩
  · exact .base (.tup h)
  · exact .fTuple h
  · exact .kTuple h1 h2
theorem isi_ty {u : Value} {t : Option String} {own : List (Str × Bool)} (I : IsiC K mg u t own) (S : SR K mg f F H σ ρ g) {v : V} {x : D} {b : Bool} (k : Vr K mg F v x) (e : isiD t own x = some b) : ∃ T, TyX K H v T ∧ PySem.W.kitOne K T u = some b := by
  have go : ∀ s, s ∈ ["NoneType", "bool", "int", "str", "list", "tuple"] → kindD x = some s → PySem.W.kitOne K (.type s) u = some b := fun s hs hk => by
    unfold isiD at e
    rw [hk] at e
    cases t with
    | none =>
      cases e
      exact I.no rfl s hs
    | some t =>
      rw [I.ty t rfl]
      exact kit_ty e
  cases k with
  | no => exact ⟨_, .base .non, go _ (by decide) rfl⟩
  | bo b => exact ⟨_, .base (.bl b), go _ (by decide) rfl⟩
  | num i => exact ⟨_, .base (.int i), go _ (by decide) rfl⟩
  | txt z => exact ⟨_, .base (.str z), go _ (by decide) rfl⟩
  | li h1 h2 => exact ⟨_, .base (.lst (S.sub _ _ h1)), go _ (by decide) rfl⟩
  | fl h1 h2 =>
    have e : (none : Option Bool) = some b := e
    cases e
  | tu h1 h2 => exact ⟨_, lookup_lt (Same.sqT S.sub h1), go _ (by decide) rfl⟩
  | @ob a C dx c vs fs h1 h2 h3 h4 =>
    have e : own.lookup c = some b := e
    obtain ⟨o, ko⟩ := I.own c b C e h1
    exact ⟨_, .base (.ins (S.sub _ _ h2) o.cl o.ha o.hn o.htk o.hm), ko⟩
def cIsi (t : Option String) (own : List (Str × Bool)) (a : Co D) : Co Rv := cO a fun x => (isiD t own x).map fun k => .sh (.bool k)
theorem isi_core {u : Value} {t : Option String} {own : List (Str × Bool)} (I : IsiC K mg u t own) {w : V} (hw : ClsV w u) : ∀ σ H Q, tO K mg W (cIsi t own ca) σ H Q → tCB (rIsi K) (tCons (tE K mg W ca) (tCons (tC w) tNil)) σ H Q := fun σ H Q ⟨f, F, ρ, g, S, q⟩ =>
  ⟨f, F, ρ, g, S, (Fin.bind (R := rD K mg) q).mono fun v H1 ⟨x, ρ1, F1, g1, S1, s1, k1, q1⟩ => by
    have q1 : Fin K mg f σ W (rO K mg) (optO ((isiD t own x).map fun k => .sh (.bool k)) ρ1) F1 Q := q1
    cases hz : isiD t own x with
    | none => rw [hz] at q1; exact q1.elim
    | some b =>
      rw [hz] at q1
      obtain ⟨T, ty, kt⟩ := isi_ty I S1 k1 hz
      exact ⟨v, w, T, u, b, rfl, hw, ty, kt, fin_sh S1 q1 (.bo _)⟩⟩
theorem pe_isiT {t : String} {own : List (Str × Bool)} {px : Pos} {y : Str} (I : IsiC X.K X.mg (.type t) (some t) own) (hg : Gl X "isinstance") (hm : X.mg "isinstance" = none) (hg2 : Gl X y) (hm2 : X.mg y = none) (hv2 : bootBuiltins y = some (.type t)) (ha : PE X e (tE X.K X.mg W ca)) (hn : y ≠ "__name__" := by decide) (hdb : (y == ("__debug__" : Str)) = false := by decide)
    (he : starEach [e, .Name y px] X.env = (false, eval e X.env) :: starEach [.Name y px] X.env := by rfl) : PE X (.Call (.Name "isinstance" p) [e, .Name y px] [] pos) (tO X.K X.mg W (cIsi (some t) own ca)) :=
  PE.imp (pe_callB call_isi hg hm (by decide +kernel) (pa_cons ha (pa_cons (pe_bltn (v := .ty t) hg2 hm2 hv2 rfl hn hdb) pa_nil) he) (by decide) (by decide) he rfl) (isi_core I (.ty t))
theorem pe_isiC {C : Addr} {own : List (Str × Bool)} {px : Pos} {y : Str} (I : IsiC X.K X.mg (.ref C) none own) (hg : Gl X "isinstance") (hm : X.mg "isinstance" = none) (hg2 : Gl X y) (hm2 : X.mg y = some (.ref C)) (ha : PE X e (tE X.K X.mg W ca)) (hdb : (y == ("__debug__" : Str)) = false := by decide)
    (he : starEach [e, .Name y px] X.env = (false, eval e X.env) :: starEach [.Name y px] X.env := by rfl) : PE X (.Call (.Name "isinstance" p) [e, .Name y px] [] pos) (tO X.K X.mg W (cIsi none own ca)) :=
  PE.imp (pe_callB call_isi hg hm (by decide +kernel) (pa_cons ha (pa_cons (pe_glob (v := .ref C) hg2 hm2 rfl hdb) pa_nil) he) (by decide) (by decide) he rfl) (isi_core I (.own C))
/-! ### fields -/
def cAtt (c fl : Str) (a : Co D) : Co Rv := cO a fun x => (fldD c fl x).map .sh
theorem VrF.getF : ∀ {fs : List (D × D)} {vs : List (Str × V)} {fl : Str} {d : D}, VrF K mg F vs fs → fldF fl fs = some d → ∃ v, vs.lookup fl = some v ∧ Vr K mg F v d
  | [], _, fl, d, h, e => by cases e
  | p :: fs, _, fl, d, h, e => by
    cases h with
    | @cons g v vs d0 _ h1 h2 =>
      have e : (if some g = some fl then some d0 else fldF fl fs) = some d := e
      by_cases hg : g = fl
      · subst hg
        rw [if_pos rfl] at e
        cases e
        exact ⟨v, by rw [List.lookup_cons, beq_self_eq_true], h1⟩
      · rw [if_neg (fun z => hg (Option.some.inj z))] at e
        obtain ⟨u, h3, h4⟩ := VrF.getF h2 e
        exact ⟨u, by rw [List.lookup_cons, beq_false_of_ne (Ne.symm hg)]; exact h3, h4⟩
theorem VrF.setF : ∀ {fs : List (D × D)} {vs : List (Str × V)} {fl : Str} {v : V} {d : D}, VrF K mg F vs fs → Vr K mg F v d → VrF K mg F (putF fl v vs) (Md.setF fl d fs)
  | [], _, fl, v, d, h, k => by cases h; exact .cons k .nil
  | p :: fs, _, fl, v, d, h, k => by
    cases h with
    | @cons g v0 vs d0 _ h1 h2 =>
      show VrF K mg F (if g = fl then (g, v) :: vs else (g, v0) :: putF fl v vs) (if some g = some fl then (PyData.str fl, d) :: fs else (PyData.str g, d0) :: Md.setF fl d fs)
      by_cases hg : g = fl
      · subst hg
        rw [if_pos rfl, if_pos rfl]
        exact .cons k h2
      · rw [if_neg hg, if_neg (fun z => hg (Option.some.inj z))]
        exact .cons h1 (VrF.setF h2 k)
theorem pe_attM {c fl : Str} {C : Addr} (hC : X.mg c = some (.ref C)) (cl : Cls X.K C) (na : NoAttr X.K C fl) (ha : PE X e (tE X.K X.mg W ca)) (hb : attributeBase e fl X.env (eval e X.env) = eval e X.env) : PE X (.Attribute e fl pos) (tO X.K X.mg W (cAtt c fl ca)) :=
  PE.imp (pe_fld ha hb) fun σ H Q ⟨f, F, ρ, g, S, q⟩ => ⟨f, F, ρ, g, S, (Fin.bind (R := rD X.K X.mg) q).mono fun v H1 ⟨x, ρ1, F1, g1, S1, s1, k1, q1⟩ => by
    have q2 : Fin X.K X.mg f σ W (rO X.K X.mg) (optO ((fldD c fl x).map .sh) ρ1) F1 Q := q1
    clear q1
    cases hz : fldD c fl x with
    | none => rw [hz] at q2; exact q2.elim
    | some d =>
      rw [hz] at q2
      cases k1 with
      | @ob a C' dx c' vs fs h1 h2 h3 h4 =>
        have hz : (if c' = c then fldF fl fs else none) = some d := hz
        by_cases hc : c' = c
        · subst hc
          rw [if_pos rfl] at hz
          have : C' = C := by
            rw [h1] at hC
            injection hC with hC
            injection hC
          subst this
          obtain ⟨v, e1, k2⟩ := h4.getF hz
          exact ⟨a, C', dx, vs, v, rfl, S1.sub _ _ h2, cl, na, e1, fin_sh S1 q2 k2⟩
        · rw [if_neg hc] at hz
          cases hz
      | _ => cases hz⟩
end
end Md
/-! Md5: statements over data. -/
namespace Md
open PySem PySem.Spec PyProof.Rows L2
inductive Fl where
  | nx | bk | ct
  | rt (r : Rv)
section
variable (K : PySem.W.Frag) (mg : Str → Option Value)
def FinS (f : Fm) (W : WX) (o : Out Fl) (F : Hp) (Dn : Ends) : Prop :=
  match o with
  | .st => False
  | .ok .nx ρ' => ∀ σ' F' H' g', SR K mg f F' H' σ' ρ' g' → Same F F' → Dn.nx σ' H'
  | .ok .bk ρ' => ∀ σ' F' H' g', SR K mg f F' H' σ' ρ' g' → Same F F' → Dn.bk σ' H'
  | .ok .ct ρ' => ∀ σ' F' H' g', SR K mg f F' H' σ' ρ' g' → Same F F' → Dn.ct σ' H'
  | .ok (.rt r) ρ' => ∀ v σ' F' H' g', SR K mg f F' H' σ' ρ' g' → Same F F' → RvR K mg F' H' g' v r → Dn.rt v H'
  | .er x ρ' => ∀ cls d σ' F' H' g', SR K mg f F' H' σ' ρ' g' → Same F F' → ErR K mg F' x cls d → W cls d σ' H'
def tS (W : WX) (c : Co Fl) : TS := fun Dn σ H => ∃ f F ρ g, SR K mg f F H σ ρ g ∧ FinS K mg f W (c ρ) F Dn
end
variable {K : PySem.W.Frag} {mg : Str → Option Value} {F F' H H' : Hp} {f : Fm} {σ : L2.St} {ρ : Sto} {g : Addr → Option Ow} {W : WX} {X : Cx} {Dn : Ends}
theorem FinS.weak {o : Out Fl} (h : FinS K mg f W o F Dn) (s : Same F F') : FinS K mg f W o F' Dn := by
  cases o with
  | st => exact h
  | ok a ρ' => cases a with
    | nx => exact fun σ' F2 H' g' k e => h σ' F2 H' g' k (s.trans e)
    | bk => exact fun σ' F2 H' g' k e => h σ' F2 H' g' k (s.trans e)
    | ct => exact fun σ' F2 H' g' k e => h σ' F2 H' g' k (s.trans e)
    | rt r => exact fun v σ' F2 H' g' k e q => h v σ' F2 H' g' k (s.trans e) q
  | er x ρ' => exact fun cls d σ' F2 H' g' k e q => h cls d σ' F2 H' g' k (s.trans e) q
/-- the expression first -/
theorem FinS.bindE {α β : Type} {R : Hp → Hp → (Addr → Option Ow) → β → α → Prop} {o : Out α} {k : α → Sto → Out Fl} (h : FinS K mg f W (o.bind k) F Dn) :
    Fin K mg f σ W R o F (fun v H1 => ∃ a ρ1 F1 g1, SR K mg f F1 H1 σ ρ1 g1 ∧ Same F F1 ∧ R F1 H1 g1 v a ∧ FinS K mg f W (k a ρ1) F1 Dn) := by
  cases o with
  | st => exact h
  | ok a ρ' => exact fun v F' H' g' s e r => ⟨a, ρ', F', g', s, e, r, h.weak e⟩
  | er x ρ' => exact fun cls d F' H' g' s e r => h cls d σ F' H' g' s e r
/-- a statement first -/
theorem FinS.bindS {o : Out Fl} {k : Fl → Sto → Out Fl} {D1 : Ends} (h : FinS K mg f W (o.bind k) F Dn)
    (n : ∀ σ1 H1 ρ1 F1 g1, SR K mg f F1 H1 σ1 ρ1 g1 → Same F F1 → FinS K mg f W (k .nx ρ1) F1 Dn → D1.nx σ1 H1)
    (b : ∀ σ1 H1 ρ1 F1 g1, SR K mg f F1 H1 σ1 ρ1 g1 → Same F F1 → FinS K mg f W (k .bk ρ1) F1 Dn → D1.bk σ1 H1)
    (c : ∀ σ1 H1 ρ1 F1 g1, SR K mg f F1 H1 σ1 ρ1 g1 → Same F F1 → FinS K mg f W (k .ct ρ1) F1 Dn → D1.ct σ1 H1)
    (t : ∀ v r σ1 H1 ρ1 F1 g1, SR K mg f F1 H1 σ1 ρ1 g1 → Same F F1 → RvR K mg F1 H1 g1 v r → FinS K mg f W (k (.rt r) ρ1) F1 Dn → D1.rt v H1) : FinS K mg f W o F D1 := by
  cases o with
  | st => exact h
  | ok a ρ' => cases a with
    | nx => exact fun σ' F' H' g' s e => n _ _ _ _ _ s e (h.weak e)
    | bk => exact fun σ' F' H' g' s e => b _ _ _ _ _ s e (h.weak e)
    | ct => exact fun σ' F' H' g' s e => c _ _ _ _ _ s e (h.weak e)
    | rt r => exact fun v σ' F' H' g' s e q => t _ _ _ _ _ _ _ s e q (h.weak e)
  | er x ρ' => exact h
theorem PS.imp {st : Stmt} {t t' : TS} (h : PS X st t) (k : ∀ Dn σ H, t' Dn σ H → t Dn σ H) : PS X st t' := ⟨fun pins s σ H Dn I q => h.run pins s σ H Dn I (k Dn σ H q)⟩
theorem PSs.imp {st : List Stmt} {t t' : TS} (h : PSs X st t) (k : ∀ Dn σ H, t' Dn σ H → t Dn σ H) : PSs X st t' := ⟨fun pins s σ H Dn I q => h.run pins s σ H Dn I (k Dn σ H q)⟩
def cSeq (a b : Co Fl) : Co Fl := fun ρ => (a ρ).bind fun fl ρ1 => match fl with
  | .nx => b ρ1
  | fl => .ok fl ρ1
def cNx : Co Fl := fun ρ => .ok .nx ρ
section
variable {st : Stmt} {sts : List Stmt} {a b : Co Fl} {e : Expr} {pos pos' : Pos}
theorem pss_nilM : PSs X [] (tS X.K X.mg W cNx) := PSs.imp pss_nil fun Dn σ H ⟨f, F, ρ, g, S, q⟩ => q σ F H g S (Same.refl F)
theorem pss_consM (h1 : PS X st (tS X.K X.mg W a)) (h2 : PSs X sts (tS X.K X.mg W b)) : PSs X (st :: sts) (tS X.K X.mg W (cSeq a b)) :=
  PSs.imp (pss_cons h1 h2) fun Dn σ H ⟨f, F, ρ, g, S, q⟩ => ⟨f, F, ρ, g, S, q.bindS (fun σ1 H1 ρ1 F1 g1 S1 s1 k => ⟨f, F1, ρ1, g1, S1, k⟩) (fun σ1 H1 ρ1 F1 g1 S1 s1 k => k σ1 F1 H1 g1 S1 (Same.refl F1)) (fun σ1 H1 ρ1 F1 g1 S1 s1 k => k σ1 F1 H1 g1 S1 (Same.refl F1))
    (fun v r σ1 H1 ρ1 F1 g1 S1 s1 kr k => k v σ1 F1 H1 g1 S1 (Same.refl F1) kr)⟩
theorem pss_oneM (h1 : PS X st (tS X.K X.mg W a)) : PSs X [st] (tS X.K X.mg W a) := pss_one h1
theorem ps_passM : PS X (.Pass pos) (tS X.K X.mg W cNx) := PS.imp ps_pass fun Dn σ H ⟨f, F, ρ, g, S, q⟩ => q σ F H g S (Same.refl F)
def cBrk : Co Fl := fun ρ => .ok .bk ρ
def cCnt : Co Fl := fun ρ => .ok .ct ρ
theorem ps_brkM : PS X (.Break pos) (tS X.K X.mg W cBrk) := PS.imp ps_break fun Dn σ H ⟨f, F, ρ, g, S, q⟩ => q σ F H g S (Same.refl F)
theorem ps_cntM : PS X (.Continue pos) (tS X.K X.mg W cCnt) := PS.imp ps_continue fun Dn σ H ⟨f, F, ρ, g, S, q⟩ => q σ F H g S (Same.refl F)
def cEx {α : Type} (c : Co α) : Co Fl := fun ρ => (c ρ).bind fun _ ρ1 => .ok .nx ρ1
theorem ps_exM {c : Co Rv} (he : PE X e (tO X.K X.mg W c)) (hs : swapsWith e none pos.line X.env = pure false := by rfl) : PS X (.Expr e pos) (tS X.K X.mg W (cEx c)) :=
  PS.imp (ps_expr he hs) fun Dn σ H ⟨f, F, ρ, g, S, q⟩ => ⟨f, F, ρ, g, S, (FinS.bindE (R := rO X.K X.mg) q).mono fun v H1 ⟨x, ρ1, F1, g1, S1, s1, k1, q1⟩ => q1 σ F1 H1 g1 S1 (Same.refl F1)⟩
def cRet (c : Co Rv) : Co Fl := fun ρ => (c ρ).bind fun r ρ1 => .ok (.rt r) ρ1
theorem ps_retM {c : Co Rv} (he : PE X e (tO X.K X.mg W c)) : PS X (.Return (some e) pos) (tS X.K X.mg W (cRet c)) :=
  PS.imp (ps_ret he) fun Dn σ H ⟨f, F, ρ, g, S, q⟩ => ⟨f, F, ρ, g, S, (FinS.bindE (R := rO X.K X.mg) q).mono fun v H1 ⟨x, ρ1, F1, g1, S1, s1, k1, q1⟩ => q1 v σ F1 H1 g1 S1 (Same.refl F1) k1⟩
theorem ps_retNM : PS X (.Return none pos) (tS X.K X.mg W (fun ρ => .ok (.rt (.sh .none)) ρ)) :=
  PS.imp ps_retN fun Dn σ H ⟨f, F, ρ, g, S, q⟩ => q .non σ F H g S (Same.refl F) (.sh .no)
theorem ps_ifM {c : Expr} {p q : List Stmt} {cc : Co Bool} (hc : PT X c (tT X.K X.mg W cc)) (ha : PSs X p (tS X.K X.mg W a)) (hb : PSs X q (tS X.K X.mg W b)) : PS X (.If c p q pos) (tS X.K X.mg W (cIf cc a b)) :=
  PS.imp (ps_if hc ha hb) fun Dn σ H ⟨f, F, ρ, g, S, q⟩ => ⟨f, F, ρ, g, S, (FinS.bindE (R := rB) q).mono fun v H1 ⟨x, ρ1, F1, g1, S1, s1, k1, q1⟩ => by
    have k1 : v = x := k1
    subst k1
    cases v with
    | true => exact ⟨f, F1, ρ1, g1, S1, q1⟩
    | false => exact ⟨f, F1, ρ1, g1, S1, q1⟩⟩
/-! ### storing -/
theorem SR.noroot (S : SR K mg f F H σ ρ g) {i : Nat} {s : Sl} (h : ρ[i]? = some s) (n : ∀ m, s ≠ .ow true m) : f.root i = none := by
  cases hz : f.root i with
  | none => rfl
  | some p =>
    obtain ⟨m, e⟩ := S.rt i p hz
    rw [h] at e
    cases e
    exact absurd rfl (n m)
theorem setSl_inv {i : Nat} {s : Sl} {ρ' : Sto} (e : setSl ρ i s = some ρ') : ρ' = ρ.set i s ∧ i < ρ.length ∧ ∀ m, ρ[i]? ≠ some (.ow true m) := by
  unfold setSl at e
  cases hz : ρ[i]? with
  | none => rw [hz] at e; cases e
  | some u =>
    rw [hz] at e
    have hl := (List.getElem?_eq_some_iff.mp hz).1
    cases u with
    | un => cases e; exact ⟨rfl, hl, fun m z => by cases z⟩
    | sh d => cases e; exact ⟨rfl, hl, fun m z => by cases z⟩
    | ow b m =>
      cases b with
      | true => cases e
      | false => cases e; exact ⟨rfl, hl, fun m z => by cases z⟩
theorem SR.root_set (S : SR K mg f F H σ ρ g) {i : Nat} {s : Sl} {ρ' : Sto} (e : setSl ρ i s = some ρ') : ρ' = ρ.set i s ∧ f.root i = none := by
  obtain ⟨h1, h2, h3⟩ := setSl_inv e
  refine ⟨h1, ?_⟩
  have e0 : ρ[i]? = some ρ[i] := List.getElem?_eq_getElem h2
  exact S.noroot e0 fun m z => h3 m (by rw [e0, z])
def setRv (ρ : Sto) (i : Nat) : Rv → Option Sto
  | .sh d => setSl ρ i (.sh d)
  | .ow m => setSl ρ i (.ow false m)
theorem SR.setRv (S : SR K mg f F H σ ρ g) {i : Nat} {v : V} {r : Rv} {ρ' : Sto} (e : Md.setRv ρ i r = some ρ') (k : RvR K mg F H g v r) : ∃ g', SR K mg f F H (σ.set i (some v)) ρ' g' := by
  cases k with
  | sh k =>
    obtain ⟨rfl, h⟩ := S.root_set e
    exact ⟨g, S.setSh h k⟩
  | ow k =>
    obtain ⟨rfl, h⟩ := S.root_set e
    exact ⟨_, S.setOw h k⟩
def oNx : Option Sto → Out Fl
  | some ρ => .ok .nx ρ
  | none => .st
def cSet (i : Nat) (c : Co Rv) : Co Fl := fun ρ => (c ρ).bind fun r ρ1 => oNx (setRv ρ1 i r)
theorem r_set {i : Nat} {c : Co Rv} : ∀ Dn σ H, tS K mg W (cSet i c) Dn σ H → tAsg (tO K mg W c) (gName i) Dn σ H := fun Dn σ H ⟨f, F, ρ, g, S, q⟩ =>
  ⟨f, F, ρ, g, S, (FinS.bindE (R := rO K mg) q).mono fun v H1 ⟨x, ρ1, F1, g1, S1, s1, k1, q1⟩ => by
    cases hz : setRv ρ1 i x with
    | none => rw [hz] at q1; exact q1.elim
    | some ρ' =>
      rw [hz] at q1
      obtain ⟨g', S2⟩ := S1.setRv hz k1
      exact q1 _ _ _ _ S2 (Same.refl F1)⟩
theorem ps_setM {i : Nat} {c : Co Rv} {x : Str} (hN : X.N.Nodup) (hi : X.N[i]? = some x) (hx : Loc X.env.scope x) (he : PE X e (tO X.K X.mg W c)) (hf : X.fn x = true ∨ X.env.scope.names.lookup x = some .local := by first | exact .inl rfl | exact .inr rfl | assumption)
    (hsw : swapsWith e (some (.Name x pos')) pos.line X.env = pure false := by rfl) : PS X (.Assign [.Name x pos'] e pos) (tS X.K X.mg W (cSet i c)) := PS.imp (ps_set hN hi hx he hsw hf) r_set
/-! ### targets -/
/-- σ' is σ but at the slots ts -/
def Off (ts : List Nat) (σ σ' : L2.St) : Prop := σ'.length = σ.length ∧ ∀ j, j ∉ ts → σ'[j]? = σ[j]?
theorem Off.refl {ts : List Nat} {σ : L2.St} : Off ts σ σ := ⟨rfl, fun _ _ => rfl⟩
theorem Off.trans {ts ts' : List Nat} {σ σ1 σ2 : L2.St} (h : Off ts σ σ1) (k : Off ts' σ1 σ2) : Off (ts ++ ts') σ σ2 :=
  ⟨k.1.trans h.1, fun j n => (k.2 j fun z => n (List.mem_append_right _ z)).trans (h.2 j fun z => n (List.mem_append_left _ z))⟩
theorem Off.set {i : Nat} {σ : L2.St} {v : Option V} : Off [i] σ (σ.set i v) := ⟨List.length_set .., fun j n => List.getElem?_set_ne fun z => n (by rw [z]; exact List.mem_singleton.mpr rfl)⟩
def tGM (K : PySem.W.Frag) (mg : Str → Option Value) (ts : List Nat) (b : D → Sto → Option Sto) : TG := fun v σ H Q => ∃ f F ρ ρ' g d, SR K mg f F H σ ρ g ∧ Vr K mg F v d ∧ b d ρ = some ρ' ∧ ∀ σ', Off ts σ σ' → SR K mg f F H σ' ρ' g → Q σ' H
def tGsM (K : PySem.W.Frag) (mg : Str → Option Value) (ts : List Nat) (b : List D → Sto → Option Sto) : TGs := fun vs σ H Q => ∃ f F ρ ρ' g ds, SR K mg f F H σ ρ g ∧ VrA K mg F vs ds ∧ b ds ρ = some ρ' ∧ ∀ σ', Off ts σ σ' → SR K mg f F H σ' ρ' g → Q σ' H
theorem PG.imp {tg : Expr} {t t' : TG} (h : PG X tg t) (k : ∀ v σ H Q, t' v σ H Q → t v σ H Q) : PG X tg t' := ⟨fun pins s σ H v u Q I r q => h.run pins s σ H v u Q I r (k v σ H Q q)⟩
theorem PGs.imp {tg : List Expr} {t t' : TGs} (h : PGs X tg t) (k : ∀ v σ H Q, t' v σ H Q → t v σ H Q) : PGs X tg t' := ⟨fun pins s σ H v u Q I r q => h.run pins s σ H v u Q I r (k v σ H Q q)⟩
def bNm (i : Nat) : D → Sto → Option Sto := fun d ρ => setSl ρ i (.sh d)
theorem pg_nmM {i : Nat} {x : Str} (hN : X.N.Nodup) (hi : X.N[i]? = some x) (hx : Loc X.env.scope x) (hf : X.fn x = true ∨ X.env.scope.names.lookup x = some .local := by first | exact .inl rfl | exact .inr rfl | assumption) : PG X (.Name x pos) (tGM X.K X.mg [i] (bNm i)) :=
  PG.imp (pg_name hN hi hx hf) fun v σ H Q ⟨f, F, ρ, ρ', g, d, S, k, e, q⟩ => by
    obtain ⟨rfl, h⟩ := S.root_set e
    exact q _ Off.set (S.setSh h k)
def bNil : List D → Sto → Option Sto
  | [], ρ => some ρ
  | _ :: _, _ => none
def bCons (b : D → Sto → Option Sto) (r : List D → Sto → Option Sto) : List D → Sto → Option Sto
  | [], _ => none
  | d :: ds, ρ => (b d ρ).bind (r ds)
theorem pgs_nilM : PGs X [] (tGsM X.K X.mg [] bNil) := PGs.imp pgs_nil fun vs σ H Q ⟨f, F, ρ, ρ', g, ds, S, k, e, q⟩ => by
  cases ds with
  | nil =>
    cases k
    cases e
    exact ⟨rfl, q σ Off.refl S⟩
  | cons d ds => cases e
theorem pgs_consM {tg : Expr} {tgs : List Expr} {ts ts' : List Nat} {b : D → Sto → Option Sto} {r : List D → Sto → Option Sto} (h1 : PG X tg (tGM X.K X.mg ts b)) (h2 : PGs X tgs (tGsM X.K X.mg ts' r)) (hs : (assignEach (tg :: tgs) X.env).map (·.2) = assign tg X.env :: (assignEach tgs X.env).map (·.2) := by rfl) : PGs X (tg :: tgs) (tGsM X.K X.mg (ts ++ ts') (bCons b r)) :=
  PGs.imp (pgs_cons h1 h2 hs) fun vs σ H Q ⟨f, F, ρ, ρ', g, ds, S, k, e, q⟩ => by
    cases ds with
    | nil => cases e
    | cons d ds =>
      cases k with
      | @cons v vs _ _ k1 k2 =>
        have e : (b d ρ).bind (r ds) = some ρ' := e
        cases hz : b d ρ with
        | none => rw [hz] at e; cases e
        | some ρ1 =>
          rw [hz] at e
          exact ⟨v, vs, rfl, f, F, ρ, ρ1, g, d, S, k1, hz, fun σ1 o1 S1 => ⟨f, F, ρ1, ρ', g, ds, S1, k2, e, fun σ2 o2 S2 => q σ2 (o1.trans o2) S2⟩⟩
def bTup (n : Nat) (r : List D → Sto → Option Sto) : D → Sto → Option Sto
  | .tuple ds, ρ => if ds.length = n then r ds ρ else none
  | .list ds, ρ => if ds.length = n then r ds ρ else none
  | _, _ => none
theorem PG.or {tg : Expr} {t t' : TG} (h : PG X tg t) (h' : PG X tg t') : PG X tg (fun v σ H Q => t v σ H Q ∨ t' v σ H Q) := ⟨fun pins s σ H v u Q I r q => q.elim (h.run pins s σ H v u Q I r) (h'.run pins s σ H v u Q I r)⟩
theorem pg_tupM {es : List Expr} {k n : Nat} {ts : List Nat} {r : List D → Sto → Option Sto} (hc : X.calm = true) (h : PGs X es (tGsM X.K X.mg ts r)) (hn : (assignEach es X.env).length = n := by rfl) (hst : (assignEach es X.env).findIdx? (·.1) = none := by rfl) : PG X (.Tuple es k pos) (tGM X.K X.mg ts (bTup n r)) :=
  PG.imp (PG.or (pg_tup hc h hn hst) (pg_unl hc h hn hst)) fun v σ H Q ⟨f, F, ρ, ρ', g, d, S, k, e, q⟩ => by
    cases d <;> first | (cases e; done) | skip
    · rename_i ds
      have e : (if ds.length = n then r ds ρ else none) = some ρ' := e
      by_cases hl : ds.length = n
      · rw [if_pos hl] at e
        cases k with
        | @li a xs _ h1 h2 => exact .inr ⟨a, xs, rfl, SqL.of (S.sub _ _ h1), by rw [h2.len]; exact hl, f, F, ρ, ρ', g, ds, S, h2, e, q⟩
      · rw [if_neg hl] at e
        cases e
    · rename_i ds
      have e : (if ds.length = n then r ds ρ else none) = some ρ' := e
      by_cases hl : ds.length = n
      · rw [if_pos hl] at e
        cases k with
        | @tu a xs _ h1 h2 => exact .inl ⟨a, xs, rfl, Same.sqT S.sub h1, by rw [h2.len]; exact hl, f, F, ρ, ρ', g, ds, S, h2, e, q⟩
      · rw [if_neg hl] at e
        cases e
def cAsg (b : D → Sto → Option Sto) (c : Co D) : Co Fl := fun ρ => (c ρ).bind fun d ρ1 => oNx (b d ρ1)
theorem ps_asgM {tg : Expr} {ts : List Nat} {b : D → Sto → Option Sto} {c : Co D} (he : PE X e (tE X.K X.mg W c)) (hg : PG X tg (tGM X.K X.mg ts b)) (hs : swapsWithSole [tg] e pos.line X.env = pure false := by rfl) (hw : swappedStores [tg] e X.env = pure none := by rfl) (h1 : (assignEach [tg] X.env).map (·.2) = [assign tg X.env] := by rfl) : PS X (.Assign [tg] e pos) (tS X.K X.mg W (cAsg b c)) :=
  PS.imp (ps_asg he hg hs hw h1) fun Dn σ H ⟨f, F, ρ, g, S, q⟩ => ⟨f, F, ρ, g, S, (FinS.bindE (R := rD X.K X.mg) q).mono fun v H1 ⟨x, ρ1, F1, g1, S1, s1, k1, q1⟩ => by
    cases hz : b x ρ1 with
    | none => rw [hz] at q1; exact q1.elim
    | some ρ' =>
      rw [hz] at q1
      exact ⟨f, F1, ρ1, ρ', g1, x, S1, k1, hz, fun σ' _ S2 => q1 σ' F1 H1 g1 S2 (Same.refl F1)⟩⟩
end
end Md
/-! Md6: what is walked over; for. -/
namespace Md
open PySem PySem.Spec PyProof.Rows L2
variable {K : PySem.W.Frag} {mg : Str → Option Value} {F F' H H' : Hp} {f : Fm} {σ : L2.St} {ρ : Sto} {g : Addr → Option Ow} {W : WX} {X : Cx} {Dn : Ends}
/-- a walk over data -/
def Wk (K : PySem.W.Frag) (mg : Str → Option Value) (J : It) (ds : List D) (F1 : Hp) : Prop := ∃ (G : Hp → Prop) (Y : Nat → Hp → V → Hp → Prop), Walk J ds.length G Y ∧ (∀ H', Same F1 H' → G H') ∧
  ∀ i x H H', i < ds.length → Y i H x H' → ∃ d, ds[i]? = some d ∧ ∀ f F g σ ρ, SR K mg f F H σ ρ g → Same F1 F → ∃ F', SR K mg f F' H' σ ρ g ∧ Same F F' ∧ Vr K mg F' x d
abbrev rI (K : PySem.W.Frag) (mg : Str → Option Value) : Hp → Hp → (Addr → Option Ow) → It → List D → Prop := fun F _ _ J ds => Wk K mg J ds F
def tI (K : PySem.W.Frag) (mg : Str → Option Value) (W : WX) (c : Co (List D)) : TI := tX K mg (rI K mg) W c
theorem PI.imp {tg it : Expr} {t t' : TI} (h : PI X tg it t) (k : ∀ σ H R, t' σ H R → t σ H R) : PI X tg it t' := ⟨fun pins s σ H R I q => h.run pins s σ H R I (k σ H R q)⟩
theorem PI.or {tg it : Expr} {t t' : TI} (h : PI X tg it t) (h' : PI X tg it t') : PI X tg it (fun σ H R => t σ H R ∨ t' σ H R) := ⟨fun pins s σ H R I q => q.elim (h.run pins s σ H R I) (h'.run pins s σ H R I)⟩
theorem wk_list {a : Addr} {xs : List V} {ds : List D} (h : F a = some (.lst xs)) (k : VrA K mg F xs ds) : Wk K mg (Itl K a) ds F := by
  refine ⟨_, _, k.len ▸ walk_list (xs := xs), fun H' s => SqL.of (s _ _ h), fun i x H H' hi ⟨e, hx⟩ => ?_⟩
  subst e
  obtain ⟨d, e, kv⟩ := k.get hx
  exact ⟨d, e, fun f F2 g σ ρ S s => ⟨F2, S, Same.refl F2, kv.same s⟩⟩
theorem wk_tup {a : Addr} {xs : List V} {ds : List D} (h : SqT K F a xs) (k : VrA K mg F xs ds) : Wk K mg (Itt K a) ds F := by
  refine ⟨_, _, k.len ▸ walk_tup (xs := xs), fun H' s => Same.sqT s h, fun i x H H' hi ⟨e, hx⟩ => ?_⟩
  subst e
  obtain ⟨d, e, kv⟩ := k.get hx
  exact ⟨d, e, fun f F2 g σ ρ S s => ⟨F2, S, Same.refl F2, kv.same s⟩⟩
def chrs (z : Str) : List D := z.cps.toList.map fun c => .str ⟨#[c]⟩
theorem wk_str {z : Str} : Wk K mg (Its z) (chrs z) F := by
  have hl : (chrs z).length = z.cps.size := by unfold chrs; rw [List.length_map, Array.length_toList]
  have w := walk_str (z := z)
  rw [← hl] at w
  refine ⟨_, _, w, fun H' s => True.intro, fun i x H H' hi ⟨e, c, hc, hx⟩ => ?_⟩
  subst e hx
  refine ⟨.str ⟨#[c]⟩, ?_, fun f F2 g σ ρ S s => ⟨F2, S, Same.refl F2, .txt _⟩⟩
  unfold chrs
  rw [List.getElem?_map, Array.getElem?_toList, hc]
  rfl
def rngD (lo : Int) (n : Nat) : List D := (List.range n).map fun i => .int (lo + ((i : Nat) : Int))
theorem wk_rng {lo : Int} {n : Nat} : Wk K mg (Itr lo n) (rngD lo n) F := by
  have hl : (rngD lo n).length = n := by unfold rngD; rw [List.length_map, List.length_range]
  refine ⟨fun _ => True, YFn fun i => .int (lo + i), (by rw [hl]; exact walk_range (lo := lo) (n := n)), fun H' s => True.intro, fun i x H H' hi ⟨e, hx⟩ => ?_⟩
  subst e hx
  rw [hl] at hi
  refine ⟨.int (lo + ((i : Nat) : Int)), ?_, fun f F2 g σ ρ S s => ⟨F2, S, Same.refl F2, .num _⟩⟩
  unfold rngD
  rw [List.getElem?_map, List.getElem?_range hi]
  rfl
def enuD (ds : List D) : List D := ds.mapIdx fun i d => .tuple [.int ((i : Nat) : Int), d]
theorem enuD_len {ds : List D} : (enuD ds).length = ds.length := by unfold enuD; rw [List.length_mapIdx]
theorem enu_yield {xs : List V} {ds : List D} (k : VrA K mg F xs ds) : ∀ i x H H', i < ds.length → YPair (fun i => some (.int (i : Nat))) (fun i => xs[i]?) i H x H' → ∃ d, (enuD ds)[i]? = some d ∧ ∀ f F2 g σ ρ, SR K mg f F2 H σ ρ g → Same F F2 → ∃ F', SR K mg f F' H' σ ρ g ∧ Same F2 F' ∧ Vr K mg F' x d := by
  rintro i x H H' hi ⟨T, u, y, rfl, hT, rfl, hu, hy⟩
  cases hu
  obtain ⟨d, e, kv⟩ := k.get hy
  refine ⟨.tuple [.int ((i : Nat) : Int), d], ?_, fun f F2 g σ ρ S s => ⟨_, S.alloc hT (.tup [.int (i : Nat), y]), same_upd (S.sub.free hT), ?_⟩⟩
  · unfold enuD
    rw [List.getElem?_mapIdx, e]
    rfl
  · exact .tu (SqT.of upd_same) (.cons (.num _) (.cons (Vr.same (same_upd (S.sub.free hT)) d (kv.same s)) .nil))
theorem wk_enL {a : Addr} {xs : List V} {ds : List D} (h : F a = some (.lst xs)) (k : VrA K mg F xs ds) : Wk K mg (Ite K a) (enuD ds) F :=
  ⟨_, _, (by rw [enuD_len, ← k.len]; exact walk_enum (xs := xs)), fun H' s => SqL.of (s _ _ h), fun i x H H' hi y => enu_yield k i x H H' (by rw [enuD_len] at hi; exact hi) y⟩
theorem wk_enT {a : Addr} {xs : List V} {ds : List D} (h : SqT K F a xs) (k : VrA K mg F xs ds) : Wk K mg (EK.ItT K a) (enuD ds) F :=
  ⟨_, _, (by rw [enuD_len, ← k.len]; exact EK.walk_enT (xs := xs)), fun H' s => Same.sqT s h, fun i x H H' hi y => enu_yield k i x H H' (by rw [enuD_len] at hi; exact hi) y⟩
/-! ### what may be walked over -/
def itM : D → Option (List D)
  | .list ds => some ds
  | .tuple ds => some ds
  | .str z => some (chrs z)
  | _ => none
section
variable {tg e a b : Expr} {ca cb : Co D} {pos p : Pos}
theorem pi_seqM (ha : PE X e (tE X.K X.mg W ca)) : PI X tg e (tI X.K X.mg W (cO ca itM)) :=
  PI.imp (PI.or (pi_list ha) (PI.or (pi_tup ha) (pi_str ha))) fun σ H R ⟨f, F, ρ, g, S, q⟩ => by
    have q : Fin X.K X.mg f σ W (rI X.K X.mg) ((ca ρ).bind fun x ρ1 => optO (itM x) ρ1) F R := q
    cases hc : ca ρ with
    | st => rw [hc] at q; exact q.elim
    | er x ρ1 => rw [hc] at q; exact .inl ⟨f, F, ρ, g, S, by rw [hc]; exact q⟩
    | ok x ρ1 =>
      rw [hc] at q
      have q : Fin X.K X.mg f σ W (rI X.K X.mg) (optO (itM x) ρ1) F R := q
      cases x with
      | none => exact q.elim
      | bool _ => exact q.elim
      | int _ => exact q.elim
      | dict _ => exact q.elim
      | str z =>
        refine .inr (.inr ⟨f, F, ρ, g, S, ?_⟩)
        rw [hc]
        intro v F' H' g' s e r
        have r : Vr X.K X.mg F' v (.str z) := r
        cases r
        exact ⟨z, rfl, q _ F' H' g' s e wk_str⟩
      | list ds =>
        refine .inl ⟨f, F, ρ, g, S, ?_⟩
        rw [hc]
        intro v F' H' g' s e r
        have r : Vr X.K X.mg F' v (.list ds) := r
        cases r with
        | @li a xs _ h1 h2 => exact ⟨a, rfl, ⟨xs, SqL.of (s.sub _ _ h1)⟩, q _ F' H' g' s e (wk_list h1 h2)⟩
      | tuple ds =>
        refine .inr (.inl ⟨f, F, ρ, g, S, ?_⟩)
        rw [hc]
        intro v F' H' g' s e r
        have r : Vr X.K X.mg F' v (.tuple ds) := r
        cases r with
        | @tu a xs _ h1 h2 => exact ⟨a, rfl, ⟨xs, Same.sqT s.sub h1⟩, q _ F' H' g' s e (wk_tup h1 h2)⟩
def rngM : D → Option (List D)
  | .int n => if -(2 ^ 62) ≤ n ∧ n < 2 ^ 62 then some (rngD 0 n.toNat) else none
  | _ => none
def rngM2 : D → D → Option (List D)
  | .int m, .int n => if -(2 ^ 62) ≤ m ∧ m < 2 ^ 62 ∧ -(2 ^ 62) ≤ n ∧ n < 2 ^ 62 then some (rngD m (n - m).toNat) else none
  | _, _ => none
theorem pi_rngM (hg : Gl X "range") (hm : X.mg "range" = none) (ha : PE X a (tE X.K X.mg W ca)) (he : starEach [a] X.env = [(false, eval a X.env)] := by rfl) : PI X tg (.Call (.Name "range" p) [a] [] pos) (tI X.K X.mg W (cO ca rngM)) :=
  PI.imp (pi_range1 hg hm (pa_cons ha pa_nil he) he) fun σ H R ⟨f, F, ρ, g, S, q⟩ => ⟨f, F, ρ, g, S, (Fin.bind (R := rD X.K X.mg) q).mono fun v H1 ⟨x, ρ1, F1, g1, S1, s1, k1, q1⟩ => by
    cases x <;> first | exact q1.elim | skip
    rename_i n
    cases k1
    have q1 : Fin X.K X.mg f σ W (rI X.K X.mg) (optO (if -(2 ^ 62) ≤ n ∧ n < 2 ^ 62 then some (rngD 0 n.toNat) else none) ρ1) F1 R := q1
    by_cases hl : -(2 ^ 62) ≤ n ∧ n < 2 ^ 62
    · rw [if_pos hl] at q1
      exact ⟨n, rfl, hl.1, hl.2, q1 _ F1 H1 g1 S1 (Same.refl F1) wk_rng⟩
    · rw [if_neg hl] at q1
      exact q1.elim⟩
theorem pi_rngM2 (hg : Gl X "range") (hm : X.mg "range" = none) (ha : PE X a (tE X.K X.mg W ca)) (hb : PE X b (tE X.K X.mg W cb)) (he : starEach [a, b] X.env = [(false, eval a X.env), (false, eval b X.env)] := by rfl) (hb2 : starEach [b] X.env = [(false, eval b X.env)] := by rfl) : PI X tg (.Call (.Name "range" p) [a, b] [] pos) (tI X.K X.mg W (c2 ca cb rngM2)) :=
  PI.imp (pi_range2 hg hm (pa_cons ha (pa_cons hb pa_nil hb2) (he.trans (by rw [hb2]))) he hb2) fun σ H R ⟨f, F, ρ, g, S, q⟩ => ⟨f, F, ρ, g, S, (Fin.bind (R := rD X.K X.mg) q).mono fun v H1 ⟨x, ρ1, F1, g1, S1, s1, k1, q1⟩ => ⟨f, F1, ρ1, g1, S1, (Fin.bind (R := rD X.K X.mg) q1).mono fun w H2 ⟨y, ρ2, F2, g2, S2, s2, k2, q2⟩ => by
    cases x with
    | int m => cases y with
      | int n =>
        cases k1
        cases k2
        have q2 : Fin X.K X.mg f σ W (rI X.K X.mg) (optO (if -(2 ^ 62) ≤ m ∧ m < 2 ^ 62 ∧ -(2 ^ 62) ≤ n ∧ n < 2 ^ 62 then some (rngD m (n - m).toNat) else none) ρ2) F2 R := q2
        by_cases hl : -(2 ^ 62) ≤ m ∧ m < 2 ^ 62 ∧ -(2 ^ 62) ≤ n ∧ n < 2 ^ 62
        · rw [if_pos hl] at q2
          exact ⟨m, n, rfl, hl, q2 _ F2 H2 g2 S2 (Same.refl F2) wk_rng⟩
        · rw [if_neg hl] at q2
          exact q2.elim
      | _ => exact q2.elim
    | _ => exact q2.elim⟩⟩
def enuM : D → Option (List D)
  | .list ds => some (enuD ds)
  | .tuple ds => some (enuD ds)
  | _ => none
theorem pi_enuM {elts : List Expr} {kk : Nat} {tpos : Pos} (hg : Gl X "enumerate") (hm : X.mg "enumerate" = none) (ha : PE X a (tE X.K X.mg W ca)) (he : starEach [a] X.env = [(false, eval a X.env)] := by rfl) : PI X (.Tuple elts kk tpos) (.Call (.Name "enumerate" p) [a] [] pos) (tI X.K X.mg W (cO ca enuM)) :=
  PI.imp (PI.or (pi_enum hg hm (pa_cons ha pa_nil he) he) (EK.pi_enT hg hm (pa_cons ha pa_nil he) he)) fun σ H R ⟨f, F, ρ, g, S, q⟩ => by
    have q : Fin X.K X.mg f σ W (rI X.K X.mg) ((ca ρ).bind fun x ρ1 => optO (enuM x) ρ1) F R := q
    cases hc : ca ρ with
    | st => rw [hc] at q; exact q.elim
    | er x ρ1 => rw [hc] at q; exact .inl ⟨f, F, ρ, g, S, by rw [hc]; exact q⟩
    | ok x ρ1 =>
      rw [hc] at q
      have q : Fin X.K X.mg f σ W (rI X.K X.mg) (optO (enuM x) ρ1) F R := q
      cases x with
      | none => exact q.elim
      | bool _ => exact q.elim
      | int _ => exact q.elim
      | dict _ => exact q.elim
      | str _ => exact q.elim
      | list ds =>
        refine .inl ⟨f, F, ρ, g, S, ?_⟩
        rw [hc]
        intro v F' H' g' s e r
        have r : Vr X.K X.mg F' v (.list ds) := r
        cases r with
        | @li a xs _ h1 h2 => exact ⟨a, xs, rfl, SqL.of (s.sub _ _ h1), q _ F' H' g' s e (wk_enL h1 h2)⟩
      | tuple ds =>
        refine .inr ⟨f, F, ρ, g, S, ?_⟩
        rw [hc]
        intro v F' H' g' s e r
        have r : Vr X.K X.mg F' v (.tuple ds) := r
        cases r with
        | @tu a xs _ h1 h2 => exact ⟨a, xs, rfl, Same.sqT s.sub h1, q _ F' H' g' s e (wk_enT h1 h2)⟩
/-! ### for -/
def forL (b : D → Sto → Option Sto) (c : Co Fl) : List D → Co Fl
  | [], ρ => .ok .nx ρ
  | d :: ds, ρ => match b d ρ with
    | none => .st
    | some ρ1 => (c ρ1).bind fun fl ρ2 => match fl with
      | .nx => forL b c ds ρ2
      | .ct => forL b c ds ρ2
      | .bk => .ok .nx ρ2
      | .rt r => .ok (.rt r) ρ2
def cFor (b : D → Sto → Option Sto) (s : Co (List D)) (c : Co Fl) : Co Fl := fun ρ => (s ρ).bind fun ds ρ1 => forL b c ds ρ1
theorem ps_forM {it : Expr} {ts : List Nat} {body : List Stmt} {b : D → Sto → Option Sto} {s : Co (List D)} {c : Co Fl} (hp : PassesOwn (model X.prog X.w) X.A X.env X.xe) (hc : X.calm = true) (hi : PI X tg it (tI X.K X.mg W s)) (hg : PG X tg (tGM X.K X.mg ts b)) (hb : PSs X body (tS X.K X.mg W c)) (hs : ∀ x, foldedSetIterable it X.env x = pure x := by intro _; rfl) : PS X (.For tg it body [] pos) (tS X.K X.mg W (cFor b s c)) :=
  PS.imp (ps_for hp hc hi hg hb hs) fun Dn σ H ⟨f, F, ρ, g, S, q⟩ => ⟨f, F, ρ, g, S, (FinS.bindE (R := rI X.K X.mg) q).mono fun J H1 ⟨ds, ρ1, F1, g1, S1, s1, ⟨G, Y, w, hG, hY⟩, q1⟩ => by
    refine for_it w (fun i σ2 H2 => ∃ F2 ρ2 g2, SR X.K X.mg f F2 H2 σ2 ρ2 g2 ∧ Same F1 F2 ∧ FinS X.K X.mg f W (forL b c (ds.drop i) ρ2) F2 Dn) ⟨F1, ρ1, g1, S1, Same.refl F1, q1⟩ (fun i σ2 H2 _ ⟨F2, ρ2, g2, S2, s2, _⟩ => hG _ (s2.trans S2.sub)) ?_ ?_
    · rintro i x σ2 H2 H3 hi ⟨F2, ρ2, g2, S2, s2, q2⟩ hy
      obtain ⟨d, ed, yk⟩ := hY i x H2 H3 hi hy
      obtain ⟨F3, S3, s3, kv⟩ := yk f F2 g2 σ2 ρ2 S2 s2
      have hd : ds.drop i = d :: ds.drop (i + 1) := by
        rw [List.drop_eq_getElem_cons hi]
        rw [List.getElem?_eq_getElem hi] at ed
        cases ed
        rfl
      rw [hd] at q2
      have q2 : FinS X.K X.mg f W (match b d ρ2 with | none => .st | some ρ1 => (c ρ1).bind fun fl ρ2 => match fl with | .nx => forL b c (ds.drop (i + 1)) ρ2 | .ct => forL b c (ds.drop (i + 1)) ρ2 | .bk => .ok .nx ρ2 | .rt r => .ok (.rt r) ρ2) F2 Dn := q2
      cases hz : b d ρ2 with
      | none => rw [hz] at q2; exact q2.elim
      | some ρ3 =>
        rw [hz] at q2
        refine ⟨f, F3, ρ2, ρ3, g2, d, S3, kv, hz, fun σ4 _ S4 => ⟨f, F3, ρ3, g2, S4, ?_⟩⟩
        refine FinS.bindS (q2.weak s3) (fun σ5 H5 ρ5 F5 g5 S5 s5 k => ?_) (fun σ5 H5 ρ5 F5 g5 S5 s5 k => ?_) (fun σ5 H5 ρ5 F5 g5 S5 s5 k => ?_) (fun v r σ5 H5 ρ5 F5 g5 S5 s5 kr k => ?_)
        · exact ⟨F5, ρ5, g5, S5, (s2.trans s3).trans s5, k⟩
        · exact k σ5 F5 H5 g5 S5 (Same.refl F5)
        · exact ⟨F5, ρ5, g5, S5, (s2.trans s3).trans s5, k⟩
        · exact k v σ5 F5 H5 g5 S5 (Same.refl F5) kr
    · rintro σ2 H2 ⟨F2, ρ2, g2, S2, s2, q2⟩
      rw [List.drop_length] at q2
      exact q2 σ2 F2 H2 g2 S2 (Same.refl F2)⟩
end
end Md
/-! Md7: comprehensions over data. -/
namespace Md
open PySem PySem.Spec PyProof.Rows L2
variable {K : PySem.W.Frag} {mg : Str → Option Value} {F F' H H' : Hp} {f : Fm} {σ : L2.St} {ρ : Sto} {g : Addr → Option Ow} {W : WX} {X : Cx} {Dn : Ends}
/-! ### slots forgotten -/
theorem wipeS_len : ∀ (vs : List Nat) (ρ : Sto), (wipeS ρ vs).length = ρ.length
  | [], _ => rfl
  | v :: vs, ρ => by
    show ((wipeS ρ vs).set v .un).length = _
    rw [List.length_set, wipeS_len vs ρ]
theorem wipe_off : ∀ (vs : List Nat) (σ : L2.St), Off vs σ (wipe σ vs)
  | [], _ => Off.refl
  | v :: vs, σ => by
    have h := wipe_off vs σ
    refine ⟨?_, fun j n => ?_⟩
    · show ((wipe σ vs).set v none).length = _
      rw [List.length_set]
      exact h.1
    · show ((wipe σ vs).set v none)[j]? = _
      rw [List.getElem?_set_ne (fun z => n (by rw [z]; exact List.mem_cons_self))]
      exact h.2 j fun z => n (List.mem_cons_of_mem _ z)
theorem wipe_mem : ∀ {vs : List Nat} {σ : L2.St} {j : Nat}, j ∈ vs → j < σ.length → (wipe σ vs)[j]? = some none
  | v :: vs, σ, j, m, hl => by
    show ((wipe σ vs).set v none)[j]? = _
    by_cases hj : v = j
    · subst hj
      rw [List.getElem?_set_self (by rw [(wipe_off vs σ).1]; exact hl)]
    · rw [List.getElem?_set_ne hj]
      rcases List.mem_cons.mp m with z | z
      · exact absurd z.symm hj
      · exact wipe_mem z hl
theorem wipe_ext {vs : List Nat} {σ σ' : L2.St} (h : Off vs σ σ') : wipe σ' vs = wipe σ vs := by
  refine List.ext_getElem? fun j => ?_
  by_cases hm : j ∈ vs
  · by_cases hl : j < σ.length
    · rw [wipe_mem hm hl, wipe_mem hm (by rw [h.1]; exact hl)]
    · rw [List.getElem?_eq_none (by rw [(wipe_off vs σ').1, h.1]; omega), List.getElem?_eq_none (by rw [(wipe_off vs σ).1]; omega)]
  · rw [(wipe_off vs σ').2 j hm, (wipe_off vs σ).2 j hm, h.2 j hm]
theorem Off.mono {ts ts' : List Nat} {σ σ' : L2.St} (h : Off ts σ σ') (k : ∀ i ∈ ts, i ∈ ts') : Off ts' σ σ' := ⟨h.1, fun j n => h.2 j fun z => n (k j z)⟩
theorem Off.comp {ts : List Nat} {σ σ1 σ2 : L2.St} (h : Off ts σ σ1) (k : Off ts σ1 σ2) : Off ts σ σ2 := ⟨k.1.trans h.1, fun j n => (k.2 j n).trans (h.2 j n)⟩
theorem wipe_in {vs us : List Nat} {σ : L2.St} (h : ∀ i ∈ us, i ∈ vs) : wipe (wipe σ us) vs = wipe σ vs := wipe_ext ((wipe_off us σ).mono h)
theorem wipeS_mem : ∀ {vs : List Nat} {ρ : Sto} {j : Nat}, j ∈ vs → j < ρ.length → (wipeS ρ vs)[j]? = some .un
  | v :: vs, ρ, j, m, hl => by
    show ((wipeS ρ vs).set v .un)[j]? = _
    by_cases hj : v = j
    · subst hj
      rw [List.getElem?_set_self (by rw [wipeS_len]; exact hl)]
    · rw [List.getElem?_set_ne hj]
      rcases List.mem_cons.mp m with z | z
      · exact absurd z.symm hj
      · exact wipeS_mem z hl
theorem wipeS_out : ∀ {vs : List Nat} {ρ : Sto} {j : Nat}, j ∉ vs → (wipeS ρ vs)[j]? = ρ[j]?
  | [], _, _, _ => rfl
  | v :: vs, ρ, j, n => by
    show ((wipeS ρ vs).set v .un)[j]? = _
    rw [List.getElem?_set_ne (fun z => n (by rw [z]; exact List.mem_cons_self))]
    exact wipeS_out fun z => n (List.mem_cons_of_mem _ z)
theorem wipeS_in {vs us : List Nat} {ρ : Sto} (h : ∀ i ∈ us, i ∈ vs) : wipeS (wipeS ρ us) vs = wipeS ρ vs := by
  refine List.ext_getElem? fun j => ?_
  by_cases hm : j ∈ vs
  · by_cases hl : j < ρ.length
    · rw [wipeS_mem hm hl, wipeS_mem hm (by rw [wipeS_len]; exact hl)]
    · rw [List.getElem?_eq_none (by rw [wipeS_len, wipeS_len]; omega), List.getElem?_eq_none (by rw [wipeS_len]; omega)]
  · rw [wipeS_out hm, wipeS_out hm, wipeS_out fun z => hm (h j z)]
theorem SR.wipe (S : SR K mg f F H σ ρ g) : ∀ (vs : List Nat), (∀ v ∈ vs, f.root v = none) → SR K mg f F H (wipe σ vs) (wipeS ρ vs) g
  | [], _ => S
  | v :: vs, h => (S.wipe vs fun u m => h u (List.mem_cons_of_mem _ m)).setUn (h v List.mem_cons_self)
theorem SR.swap {σ' : L2.St} (S : SR K mg f F H σ ρ g) (hl : σ'.length = σ.length) (h : ∀ j : Nat, ρ[j]? = some Sl.un ∨ σ'[j]? = σ[j]?) : SR K mg f F H σ' ρ g := by
  refine ⟨hl.trans S.len, S.f0, S.sub, S.new, S.al, S.bas, S.gh, fun i v s e1 e2 => ?_, fun i m e => ?_, S.rt⟩
  · rcases h i with z | z
    · rw [z] at e2
      cases e2
      exact .un
    · exact S.sl i v s (by rw [← z]; exact e1) e2
  · rcases h i with z | z
    · rw [z] at e
      cases e
    · rw [z]
      exact S.pin i m e
theorem SR.unwipe {vs : List Nat} (S : SR K mg f F H (L2.wipe σ vs) (wipeS ρ vs) g) : SR K mg f F H σ (wipeS ρ vs) g := by
  have hl : ρ.length = σ.length := by
    have := S.len
    rw [wipeS_len, (wipe_off vs σ).1] at this
    exact this.symm
  refine S.swap (wipe_off vs σ).1.symm fun j => ?_
  by_cases hm : j ∈ vs
  · by_cases hj : j < ρ.length
    · exact .inl (wipeS_mem hm hj)
    · refine .inr ?_
      rw [List.getElem?_eq_none (by omega), List.getElem?_eq_none (by rw [(wipe_off vs σ).1]; omega)]
  · exact .inr ((wipe_off vs σ).2 j hm).symm
/-! ### a list that is being filled -/
theorem SR.poke (S : SR K mg f F H σ ρ g) {p : Addr} {o : HO} (hF : F p = none) (hg : g p = none) (hf : f.H p = none) : SR K mg f F (upd H p o) σ ρ g := by
  have hn : ∀ a u, H a = some u → a ≠ p → upd H p o a = some u := fun a u e n => by rw [upd_ne n]; exact e
  have gp : ∀ a i, g a = some i → a ≠ p := fun a i e z => by rw [z, hg] at e; cases e
  refine ⟨S.len, S.f0, fun a u e => hn _ _ (S.sub _ _ e) (fun z => by rw [z, hF] at e; cases e), S.new, fun a e => ?_, fun a u e n => hn _ _ (S.bas a u e n) (fun z => by rw [z, hf] at e; cases e), fun a i e => ?_, fun i v s e1 e2 => ?_, S.pin, S.rt⟩
  · by_cases ha : a = p
    · rw [ha, upd_same] at e
      cases e
    · rw [upd_ne ha] at e
      exact S.al a e
  · obtain ⟨⟨u, y1, y2⟩, y3⟩ := S.gh a i e
    exact ⟨⟨u, hn _ _ y1 (gp a i e), y2⟩, y3⟩
  · exact (S.sl i v s e1 e2).mono (Same.refl F) (fun a u e3 e => hn _ _ e (gp a _ e3)) fun a e => e
/-- what is being filled is still there, and nobody's, behind what was evaluated -/
theorem SR.kept {σ' : L2.St} {ρ' : Sto} {g' : Addr → Option Ow} {p : Addr} {o : HO} (hF : F p = none) (hg : g p = none) (hH : H p = some o) (k : SR K mg (nestF f F H g) F' H' σ' ρ' g') : F' p = none ∧ g' p = none ∧ H' p = some o := by
  have no : ¬ (nestF f F H g).own p := fun z => z hg
  refine ⟨?_, ?_, k.bas p o hH no⟩
  · cases hz : F' p with
    | none => rfl
    | some u =>
      rcases k.new p u hz with e | e | e
      · have e : F p = some u := e
        rw [hF] at e
        cases e
      · have e : H p = none := e
        rw [hH] at e
        cases e
      · exact absurd e no
  · cases hz : g' p with
    | none => rfl
    | some i =>
      rcases (k.gh p i hz).2.2 with e | e
      · have e : H p = none := e
        rw [hH] at e
        cases e
      · exact absurd e no
/-- it is one's own at the end -/
theorem SR.adopt (S : SR K mg f F H σ ρ g) {p : Addr} {o : HO} (hF : F p = none) (hg : g p = none) (hf : f.H p = none) (hH : H p = some o) (m : mutO o = true) : SR K mg f F H σ ρ (updg g p .res) := by
  refine ⟨S.len, S.f0, S.sub, S.new, S.al, S.bas, fun a i e => ?_, fun i v s e1 e2 => ?_, S.pin, S.rt⟩
  · by_cases ha : a = p
    · subst ha
      exact ⟨⟨o, hH, m⟩, hF, .inl hf⟩
    · rw [updg_ne ha] at e
      exact S.gh a i e
  · refine (S.sl i v s e1 e2).mono (Same.refl F) (fun a u _ e => e) fun a e => ?_
    have ha : a ≠ p := fun z => by
      rw [z, hg] at e
      cases e
    rw [updg_ne ha]
    exact e
/-! ### turns -/
def WF : WX := fun _ _ _ _ => False
def lcL (vs : List Nat) (b : D → Sto → Option Sto) (cd : Co Bool) (el : List D → Co (List D)) : List D → List D → Co (List D)
  | [], acc, ρ => .ok acc ρ
  | d :: ds, acc, ρ => match b d (wipeS ρ vs) with
    | none => .st
    | some ρ1 => (cd ρ1).bind fun k ρ2 => (if k = true then el acc ρ2 else .ok acc ρ2).bind fun acc1 ρ3 => lcL vs b cd el ds acc1 ρ3
def elOne (el : Co D) (acc : List D) : Co (List D) := fun ρ => if acc.length < sizeLine then (el ρ).bind fun y ρ1 => .ok (acc ++ [y]) ρ1 else .st
def freeS (ρ : Sto) (vs : List Nat) : Bool := vs.all fun v => match ρ[v]? with
  | some (.ow true _) => false
  | none => false
  | _ => true
theorem SR.freeR (S : SR K mg f F H σ ρ g) {vs : List Nat} (h : freeS ρ vs = true) : ∀ v ∈ vs, f.root v = none := fun v m => by
  have := List.all_eq_true.mp h v m
  cases hz : ρ[v]? with
  | none =>
    rw [hz] at this
    cases this
  | some s =>
    rw [hz] at this
    refine S.noroot hz fun m' z => ?_
    rw [z] at this
    cases this
def cLc (vs : List Nat) (b : D → Sto → Option Sto) (s : Co (List D)) (cd : Co Bool) (el : Co D) : Co Rv := fun ρ => (s ρ).bind fun ds ρ1 => if freeS ρ1 vs then (match lcL vs b cd (elOne el) ds [] ρ1 with
  | .ok ys ρ2 => .ok (.ow (.lst ys)) (wipeS ρ2 vs)
  | _ => .st) else .st
/-- the state at a turn: acc is at p -/
def LcS (K : PySem.W.Frag) (mg : Str → Option Value) (f : Fm) (F0 : Hp) (p : Addr) (σ : L2.St) (ρ : Sto) (acc : List D) (H : Hp) : Prop := ∃ F g va, SR K mg f F H σ ρ g ∧ Same F0 F ∧ H p = some (.lst va) ∧ VrA K mg F va acc ∧ F p = none ∧ g p = none
theorem bind_ok {α β : Type} {o : Out α} {k : α → Sto → Out β} {y : β} {ρ' : Sto} (h : o.bind k = .ok y ρ') : ∃ a ρ1, o = .ok a ρ1 ∧ k a ρ1 = .ok y ρ' := by
  cases o with
  | st => cases h
  | ok a ρ1 => exact ⟨a, ρ1, rfl, h⟩
  | er x ρ1 => cases h
/-- a step that answers, in the state LcS -/
theorem lc_step {α β : Type} {R : Hp → Hp → (Addr → Option Ow) → β → α → Prop} {F0 : Hp} {p : Addr} {acc : List D} {c : Co α} {a : α} {ρ1 : Sto} {Q : β → Hp → Prop} (S : LcS K mg f F0 p σ ρ acc H) (hc : c ρ = .ok a ρ1)
    (q : ∀ v F1 H1 g1 va, SR K mg f F1 H1 σ ρ1 g1 → Same F0 F1 → H1 p = some (.lst va) → VrA K mg F1 va acc → F1 p = none → g1 p = none → R F1 H1 g1 v a → Q v H1) : tX K mg R WF c σ H Q := by
  obtain ⟨F, g, va, S, s0, hp, ka, hF, hg⟩ := S
  refine ⟨nestF f F H g, F, ρ, g, S.nest, ?_⟩
  rw [hc]
  intro v F1 H1 g1 S1 s1 r
  obtain ⟨z1, z2, z3⟩ := SR.kept hF hg hp S1
  exact q v F1 H1 g1 va (S.back S1) (s0.trans s1) z3 (VrA.same s1 _ ka) z1 z2 r
theorem lc_elt {F0 : Hp} {p : Addr} {acc acc1 : List D} {el : Co D} {ρ1 : Sto} {Nx : Hp → Prop} (hf : f.H p = none) (S : LcS K mg f F0 p σ ρ acc H) (he : elOne el acc ρ = .ok acc1 ρ1) (q : ∀ H1, LcS K mg f F0 p σ ρ1 acc1 H1 → Nx H1) :
    tE K mg WF el σ H fun y H4 => ∃ acc, H4 p = some (.lst acc) ∧ acc.length < sizeLine ∧ Nx (upd H4 p (.lst (acc ++ [y]))) := by
  have he : (if acc.length < sizeLine then (el ρ).bind fun y ρ1 => .ok (acc ++ [y]) ρ1 else .st) = Out.ok acc1 ρ1 := he
  by_cases hl : acc.length < sizeLine
  · rw [if_pos hl] at he
    obtain ⟨y, ρ2, e1, e2⟩ := bind_ok he
    cases e2
    refine lc_step (R := rD K mg) S e1 fun v F1 H1 g1 va S1 s1 hp ka hF hg r => ⟨va, hp, by rw [ka.len]; exact hl, q _ ⟨F1, g1, va ++ [v], S1.poke hF hg hf, s1, upd_same, ka.app (.cons r .nil), hF, hg⟩⟩
  · rw [if_neg hl] at he
    cases he
theorem LcS.wipe {F0 : Hp} {p : Addr} {acc : List D} {vs : List Nat} (S : LcS K mg f F0 p σ ρ acc H) (hr : ∀ v ∈ vs, f.root v = none) : LcS K mg f F0 p (L2.wipe σ vs) (wipeS ρ vs) acc H := by
  obtain ⟨F, g, va, S, r⟩ := S
  exact ⟨F, g, va, S.wipe vs hr, r⟩
/-- the head of a turn: the item is bound -/
theorem lc_turn {F0 : Hp} {p : Addr} {acc : List D} {ρ1 : Sto} {vs ts : List Nat} {b : D → Sto → Option Sto} {d : D} {x : V} {Q : L2.St → Hp → Prop} (S : LcS K mg f F0 p (L2.wipe σ vs) (wipeS ρ vs) acc H) (hts : ∀ i ∈ ts, i ∈ vs) (hb : b d (wipeS ρ vs) = some ρ1)
    (yk : ∀ f F g σ ρ, SR K mg f F H σ ρ g → Same F0 F → ∃ F', SR K mg f F' H' σ ρ g ∧ Same F F' ∧ Vr K mg F' x d) (q : ∀ σ2, L2.wipe σ2 vs = L2.wipe σ vs → LcS K mg f F0 p σ2 ρ1 acc H' → Q σ2 H') : tGM K mg ts b x (L2.wipe σ vs) H' Q := by
  obtain ⟨F, g, va, S, s0, hp, ka, hF, hg⟩ := S
  obtain ⟨F1, S1, s1, kv⟩ := yk _ F g _ _ S.nest s0
  obtain ⟨z1, z2, z3⟩ := SR.kept hF hg hp S1
  refine ⟨f, F1, wipeS ρ vs, ρ1, g, d, S.back S1, kv, hb, fun σ2 o S2 => q σ2 ?_ ⟨F1, g, va, S2, s0.trans s1, z3, VrA.same s1 _ ka, z1, hg⟩⟩
  rw [wipe_ext (o.mono hts), wipe_in fun _ h => h]
theorem drop_at {α : Type} {ds : List α} {i : Nat} {d : α} (e : ds[i]? = some d) : ds.drop i = d :: ds.drop (i + 1) := by
  obtain ⟨hi, rfl⟩ := List.getElem?_eq_some_iff.mp e
  exact List.drop_eq_getElem_cons hi
theorem lcL_cons {vs : List Nat} {b : D → Sto → Option Sto} {cd : Co Bool} {el : List D → Co (List D)} {d : D} {ds acc ys : List D} {ρe : Sto} (h : lcL vs b cd el (d :: ds) acc ρ = .ok ys ρe) :
    ∃ ρ1 k ρ2 acc1 ρ3, b d (wipeS ρ vs) = some ρ1 ∧ cd ρ1 = .ok k ρ2 ∧ (if k = true then el acc ρ2 else .ok acc ρ2) = .ok acc1 ρ3 ∧ lcL vs b cd el ds acc1 ρ3 = .ok ys ρe := by
  have h : (match b d (wipeS ρ vs) with | none => .st | some ρ1 => (cd ρ1).bind fun k ρ2 => (if k = true then el acc ρ2 else .ok acc ρ2).bind fun acc1 ρ3 => lcL vs b cd el ds acc1 ρ3) = Out.ok ys ρe := h
  cases hz : b d (wipeS ρ vs) with
  | none => rw [hz] at h; cases h
  | some ρ1 =>
    rw [hz] at h
    obtain ⟨k, ρ2, e1, h⟩ := bind_ok h
    obtain ⟨acc1, ρ3, e2, h⟩ := bind_ok h
    exact ⟨ρ1, k, ρ2, acc1, ρ3, rfl, e1, e2, h⟩
def cLc2 (vs vs1 : List Nat) (b : D → Sto → Option Sto) (s : Co (List D)) (cd : Co Bool) (b1 : D → Sto → Option Sto) (s1 : Co (List D)) (cd1 : Co Bool) (el : Co D) : Co Rv := fun ρ => (s ρ).bind fun ds ρ1 => if freeS ρ1 vs then (match lcL vs b cd (fun acc ρ2 => (s1 ρ2).bind fun es ρ3 => lcL vs1 b1 cd1 (elOne el) es acc ρ3) ds [] ρ1 with
  | .ok ys ρ2 => .ok (.ow (.lst ys)) (wipeS ρ2 vs)
  | _ => .st) else .st
theorem r_lc {vs ts : List Nat} {b : D → Sto → Option Sto} {s : Co (List D)} {cd : Co Bool} {el : Co D} (hts : ∀ i ∈ ts, i ∈ vs) : ∀ σ H Q, tO K mg W (cLc vs b s cd el) σ H Q → tLc (tI K mg W s) (tGM K mg ts b) (tT K mg WF cd) (tE K mg WF el) vs σ H Q := fun σ H Q ⟨f, F, ρ, g, S, q⟩ =>
  ⟨f, F, ρ, g, S, (Fin.bind (R := rI K mg) q).mono fun J H1 ⟨ds, ρ1, F1, g1, S1, s1, ⟨G, Y, w, hG, hY⟩, q1⟩ => by
    intro p np
    by_cases hfr : freeS ρ1 vs = true
    · rw [if_pos hfr] at q1
      cases hz : lcL vs b cd (elOne el) ds [] ρ1 with
      | st => rw [hz] at q1; exact q1.elim
      | er x ρ2 => rw [hz] at q1; exact q1.elim
      | ok ys ρ2 =>
        rw [hz] at q1
        have hr := S1.freeR hfr
        have hf : f.H p = none := S1.al p np
        have gp : g1 p = none := S1.gno np
        have Fp : F1 p = none := S1.sub.free np
        let PV : Nat → Hp → Prop := fun i H2 => ∃ ρ3 acc, LcS K mg f F1 p (wipe σ vs) (wipeS ρ3 vs) acc H2 ∧ lcL vs b cd (elOne el) (ds.drop i) acc ρ3 = .ok ys ρ2
        refine lc_it w PV ⟨ρ1, [], ⟨F1, g1, [], (S1.wipe vs hr).poke Fp gp hf, Same.refl F1, upd_same, .nil, Fp, gp⟩, hz⟩ (fun i H2 _ ⟨ρ3, acc, ⟨F2, g2, va, S2, s2, _⟩, _⟩ => hG _ (s2.trans S2.sub)) ?_ ?_
        · rintro i x H2 H3 hi ⟨ρ3, acc, L, e⟩ hy
          obtain ⟨d, ed, yk⟩ := hY i x H2 H3 hi hy
          rw [drop_at ed] at e
          obtain ⟨ρ4, k, ρ5, acc1, ρ6, e1, e2, e3, e4⟩ := lcL_cons e
          refine lc_turn L hts e1 yk fun σ2 hw L2 => ⟨hw, lc_step (R := rB) L2 e2 fun v F5 H5 g5 va S5 s5 hp5 ka hF5 hg5 r => ?_⟩
          have r : v = k := r
          subst r
          have L5 : LcS K mg f F1 p σ2 ρ5 acc H5 := ⟨F5, g5, va, S5, s5, hp5, ka, hF5, hg5⟩
          cases v with
          | true =>
            rw [if_pos rfl] at e3 ⊢
            refine lc_elt (Nx := PV (i + 1)) hf L5 e3 fun H6 L6 => ⟨ρ6, acc1, ?_, e4⟩
            have := L6.wipe hr
            rwa [hw] at this
          | false =>
            cases e3
            refine ⟨ρ5, acc, ?_, e4⟩
            have := L5.wipe hr
            rwa [hw] at this
        · rintro H2 ⟨ρ3, acc, ⟨F2, g2, va, S2, s2, hp2, ka, hF2, hg2⟩, e⟩
          rw [List.drop_length] at e
          cases e
          exact q1 _ F2 H2 (updg g2 p .res) ((S2.adopt hF2 hg2 hf hp2 rfl).unwipe) s2 (.ow (.lst updg_same hp2 ka))
    · rw [if_neg hfr] at q1
      exact q1.elim⟩
theorem r_lc2 {vs vs1 ts ts1 : List Nat} {b b1 : D → Sto → Option Sto} {s s1 : Co (List D)} {cd cd1 : Co Bool} {el : Co D} (hts : ∀ i ∈ ts, i ∈ vs) (hts1 : ∀ i ∈ ts1, i ∈ vs1) (hvs : ∀ i ∈ vs1, i ∈ vs) : ∀ σ H Q, tO K mg W (cLc2 vs vs1 b s cd b1 s1 cd1 el) σ H Q →
    tLc2 (tI K mg W s) (tGM K mg ts b) (tT K mg WF cd) (tI K mg WF s1) (tGM K mg ts1 b1) (tT K mg WF cd1) (tE K mg WF el) vs vs1 σ H Q := fun σ H Q ⟨f, F, ρ, g, S, q⟩ =>
  ⟨f, F, ρ, g, S, (Fin.bind (R := rI K mg) q).mono fun J H1 ⟨ds, ρ1, F1, g1, S1, s1', ⟨G, Y, w, hG, hY⟩, q1⟩ => by
    intro p np
    by_cases hfr : freeS ρ1 vs = true
    · rw [if_pos hfr] at q1
      generalize hE : (fun acc ρ2 => (s1 ρ2).bind fun es ρ3 => lcL vs1 b1 cd1 (elOne el) es acc ρ3 : List D → Co (List D)) = E at q1
      cases hz : lcL vs b cd E ds [] ρ1 with
      | st => rw [hz] at q1; exact q1.elim
      | er x ρ2 => rw [hz] at q1; exact q1.elim
      | ok ys ρ2 =>
        rw [hz] at q1
        have hr := S1.freeR hfr
        have hr1 : ∀ v ∈ vs1, f.root v = none := fun v m => hr v (hvs v m)
        have hf : f.H p = none := S1.al p np
        have gp : g1 p = none := S1.gno np
        have Fp : F1 p = none := S1.sub.free np
        let PV : Nat → Hp → Prop := fun i H2 => ∃ ρ3 acc, LcS K mg f F1 p (wipe σ vs) (wipeS ρ3 vs) acc H2 ∧ lcL vs b cd E (ds.drop i) acc ρ3 = .ok ys ρ2
        let mk := fun (m : Nat) => ds.length - m
        refine ⟨fun i m H2 => m = ds.length - i ∧ i ≤ ds.length ∧ PV i H2, ⟨ds.length, rfl, Nat.zero_le _, ρ1, [], ⟨F1, g1, [], (S1.wipe vs hr).poke Fp gp hf, Same.refl F1, upd_same, .nil, Fp, gp⟩, hz⟩, ?_⟩
        rintro i m H2 ⟨hm, hle, ρ3, acc, L, e⟩
        have hGi : G H2 := by
          obtain ⟨F2, g2, va, S2, s2, _⟩ := L
          exact hG _ (s2.trans S2.sub)
        by_cases hi : i < ds.length
        · refine .inr ⟨w.goes i H2 hi hGi, PV (i + 1), fun H' z => ⟨ds.length - (i + 1), by omega, rfl, hi, z⟩, fun x H3 hy0 => ?_⟩
          have hy := w.yields i H2 x H3 hi hGi hy0
          obtain ⟨d, ed, yk⟩ := hY i x H2 H3 hi hy
          rw [drop_at ed] at e
          obtain ⟨ρ4, k, ρ5, acc1, ρ6, e1, e2, e3, e4⟩ := lcL_cons e
          refine lc_turn L hts e1 yk fun σ2 hw L2 => ⟨hw, lc_step (R := rB) L2 e2 fun v F5 H5 g5 va S5 s5 hp5 ka hF5 hg5 r => ?_⟩
          have r : v = k := r
          subst r
          have L5 : LcS K mg f F1 p σ2 ρ5 acc H5 := ⟨F5, g5, va, S5, s5, hp5, ka, hF5, hg5⟩
          cases v with
          | false =>
            cases e3
            refine ⟨ρ5, acc, ?_, e4⟩
            have := L5.wipe hr
            rwa [hw] at this
          | true =>
            rw [if_pos rfl]
            rw [if_pos rfl, ← hE] at e3
            obtain ⟨es, ρ7, e5, e6⟩ := bind_ok e3
            refine lc_step (R := rI K mg) L5 e5 fun J1 F7 H7 g7 va7 S7 s7 hp7 ka7 hF7 hg7 ⟨G1, Y1, w1, hG1, hY1⟩ => ?_
            have L7 : LcS K mg f F7 p (wipe σ2 vs1) (wipeS ρ7 vs1) acc H7 := ⟨F7, g7, va7, S7.wipe vs1 hr1, Same.refl F7, hp7, ka7, hF7, hg7⟩
            let P1 : Nat → Hp → Prop := fun j H8 => ∃ ρ8 acc8, LcS K mg f F7 p (wipe σ2 vs1) (wipeS ρ8 vs1) acc8 H8 ∧ lcL vs1 b1 cd1 (elOne el) (es.drop j) acc8 ρ8 = .ok acc1 ρ6
            refine ⟨fun j m H8 => m = es.length - j ∧ j ≤ es.length ∧ P1 j H8, ⟨es.length, rfl, Nat.zero_le _, ρ7, acc, L7, e6⟩, ?_⟩
            rintro j m1 H8 ⟨hm1, hle1, ρ8, acc8, L8, e8⟩
            have hGj : G1 H8 := by
              obtain ⟨F2, g2, va, S2, s2, _⟩ := L8
              exact hG1 _ (s2.trans S2.sub)
            by_cases hj : j < es.length
            · refine .inr ⟨w1.goes j H8 hj hGj, P1 (j + 1), fun H' z => ⟨es.length - (j + 1), by omega, rfl, hj, z⟩, fun x1 H9 hy1 => ?_⟩
              obtain ⟨d1, ed1, yk1⟩ := hY1 j x1 H8 H9 hj (w1.yields j H8 x1 H9 hj hGj hy1)
              rw [drop_at ed1] at e8
              obtain ⟨ρ9, k1, ρ10, acc9, ρ11, f1, f2, f3, f4⟩ := lcL_cons e8
              refine lc_turn L8 hts1 f1 yk1 fun σ3 hw3 L9 => ⟨hw3, lc_step (R := rB) L9 f2 fun v F10 H10 g10 va10 S10 s10 hp10 ka10 hF10 hg10 r => ?_⟩
              have r : v = k1 := r
              subst r
              have L10 : LcS K mg f F7 p σ3 ρ10 acc8 H10 := ⟨F10, g10, va10, S10, s10, hp10, ka10, hF10, hg10⟩
              cases v with
              | true =>
                rw [if_pos rfl] at f3 ⊢
                refine lc_elt (Nx := P1 (j + 1)) hf L10 f3 fun H11 L11 => ⟨ρ11, acc9, ?_, f4⟩
                have := L11.wipe hr1
                rwa [hw3] at this
              | false =>
                cases f3
                refine ⟨ρ10, acc8, ?_, f4⟩
                have := L10.wipe hr1
                rwa [hw3] at this
            · have : j = es.length := by omega
              subst this
              refine .inl ⟨w1.stops H8 hGj, ρ6, acc1, ?_, e4⟩
              rw [List.drop_length] at e8
              cases e8
              obtain ⟨F2, g2, va, S2, s2, r2⟩ := L8
              have S3 := S2.wipe vs hr
              rw [wipe_in hvs, wipeS_in hvs, hw] at S3
              exact ⟨F2, g2, va, S3, s7.trans s2, r2⟩
        · have : i = ds.length := by omega
          subst this
          refine .inl ⟨w.stops H2 hGi, ?_⟩
          obtain ⟨F2, g2, va, S2, s2, hp2, ka, hF2, hg2⟩ := L
          rw [List.drop_length] at e
          cases e
          exact q1 _ F2 H2 (updg g2 p .res) ((S2.adopt hF2 hg2 hf hp2 rfl).unwipe) s2 (.ow (.lst updg_same hp2 ka))
    · rw [if_neg hfr] at q1
      exact q1.elim⟩
end Md
/-! Md8: the rules for comprehensions. -/
namespace Md
open PySem PySem.Spec PyProof.Rows L2
variable {K : PySem.W.Frag} {mg : Str → Option Value} {F F' H H' : Hp} {f : Fm} {σ : L2.St} {ρ : Sto} {g : Addr → Option Ow} {W : WX} {X : Cx} {Dn : Ends}
theorem PTs.imp {e : List Expr} {t t' : TT} (h : PTs X e t) (k : ∀ σ H Q, t' σ H Q → t σ H Q) : PTs X e t' := ⟨fun pins s σ H Q I q => h.run pins s σ H Q I (k σ H Q q)⟩
def cYes : Co Bool := fun ρ => .ok true ρ
theorem pts_nilM : PTs X [] (tT X.K X.mg W cYes) := PTs.imp pts_nil fun σ H Q ⟨f, F, ρ, g, S, q⟩ => q true F H g S (Same.refl F) rfl
theorem pts_oneM {e : Expr} {c : Co Bool} (h : PT X e (tT X.K X.mg W c)) : PTs X [e] (tT X.K X.mg W c) := pts_one h
abbrev Bk (X : Cx) (scope : Scope) (J : Cx → Prop) : Prop := ∀ (s : Shared) (H : Hp) (C : Addr) (cl : List (Str × Addr)) (fp : List Addr), J (X.blk s H scope (compEnvC scope cl C X.env) fp)
section
variable {elt tg iter tg1 iter1 : Expr} {ifs ifs1 : List Expr} {scope : Scope} {own : List (Str × Nat)} {vs1 ts ts1 : List Nat} {pos spos py : Pos} {y : Str} {i : Nat} {b b1 : D → Sto → Option Sto} {s s1 : Co (List D)} {cd cd1 : Co Bool} {el : Co D}
theorem pe_lcM (ts : List Nat) (hc : X.calm = true) (hN : X.N.Nodup) (ok : BlkOk X.N X.env.scope scope own) (hi : PI X tg iter (tI X.K X.mg W s))
    (hg : Bk X scope fun Y => PG Y tg (tGM X.K X.mg ts b)) (ht : Bk X scope fun Y => PTs Y ifs (tT X.K X.mg WF cd)) (he : Bk X scope fun Y => PE Y elt (tE X.K X.mg WF el)) (hts : ∀ i ∈ ts, i ∈ own.map (·.2) := by decide) (hs : ∀ x, foldedSetIterable iter X.env x = pure x := by intro _; rfl) :
    PE X (.ListComp elt [⟨tg, iter, ifs, 0⟩] scope pos) (tO X.K X.mg W (cLc (own.map (·.2)) b s cd el)) := PE.imp (pe_lc hc hN hi ok hg ht he hs) (r_lc hts)
theorem ps_setLcM (ts : List Nat) (hc : X.calm = true) (hN : X.N.Nodup) (hy : X.N[i]? = some y) (hyl : X.env.scope.names.lookup y = some .local) (hsw : swapsWith (.ListComp elt [⟨tg, iter, ifs, 0⟩] scope pos) (some (.Name y py)) spos.line X.env = pure true) (ok : BlkOk X.N X.env.scope scope own) (hi : PI X tg iter (tI X.K X.mg W s))
    (hg : Bk X scope fun Y => PG Y tg (tGM X.K X.mg ts b)) (ht : Bk X scope fun Y => PTs Y ifs (tT X.K X.mg WF cd)) (he : Bk X scope fun Y => PE Y elt (tE X.K X.mg WF el)) (hts : ∀ i ∈ ts, i ∈ own.map (·.2) := by decide) (hs : ∀ x, foldedSetIterable iter X.env x = pure x := by intro _; rfl) :
    PS X (.Assign [.Name y py] (.ListComp elt [⟨tg, iter, ifs, 0⟩] scope pos) spos) (tS X.K X.mg W (cSet i (cLc (own.map (·.2)) b s cd el))) :=
  PS.imp (ps_setLc hc hN hy hyl hsw hi ok hg ht he hs) fun Dn σ H q => by
    exact r_lc hts σ H _ (show tO X.K X.mg W _ σ H _ from r_set Dn σ H q)
theorem pe_lc2M (ts ts1 : List Nat) (hc : X.calm = true) (hN : X.N.Nodup) (ok : BlkOk X.N X.env.scope scope own) (hi : PI X tg iter (tI X.K X.mg W s))
    (hg : Bk X scope fun Y => PG Y tg (tGM X.K X.mg ts b)) (ht : Bk X scope fun Y => PTs Y ifs (tT X.K X.mg WF cd)) (hi1 : Bk X scope fun Y => PI Y tg1 iter1 (tI X.K X.mg WF s1)) (hg1 : Bk X scope fun Y => PG Y tg1 (tGM X.K X.mg ts1 b1)) (ht1 : Bk X scope fun Y => PTs Y ifs1 (tT X.K X.mg WF cd1)) (he : Bk X scope fun Y => PE Y elt (tE X.K X.mg WF el))
    (hts : ∀ i ∈ ts, i ∈ own.map (·.2) := by decide) (hts1 : ∀ i ∈ ts1, i ∈ vs1 := by decide) (hv : ∀ i ∈ vs1, i ∈ own.map (·.2) := by decide) (hs : ∀ x, foldedSetIterable iter X.env x = pure x := by intro _; rfl) (hs1 : ∀ env x, foldedSetIterable iter1 env x = pure x := by intro _ _; rfl) :
    PE X (.ListComp elt [⟨tg, iter, ifs, 0⟩, ⟨tg1, iter1, ifs1, 0⟩] scope pos) (tO X.K X.mg W (cLc2 (own.map (·.2)) vs1 b s cd b1 s1 cd1 el)) := PE.imp (pe_lc2 hc hN hi ok hv hg ht hi1 hg1 ht1 he hs hs1) (r_lc2 hts hts1 hv)
theorem ps_setLc2M (ts ts1 : List Nat) (hc : X.calm = true) (hN : X.N.Nodup) (hy : X.N[i]? = some y) (hyl : X.env.scope.names.lookup y = some .local) (hsw : swapsWith (.ListComp elt [⟨tg, iter, ifs, 0⟩, ⟨tg1, iter1, ifs1, 0⟩] scope pos) (some (.Name y py)) spos.line X.env = pure true) (ok : BlkOk X.N X.env.scope scope own) (hi : PI X tg iter (tI X.K X.mg W s))
    (hg : Bk X scope fun Y => PG Y tg (tGM X.K X.mg ts b)) (ht : Bk X scope fun Y => PTs Y ifs (tT X.K X.mg WF cd)) (hi1 : Bk X scope fun Y => PI Y tg1 iter1 (tI X.K X.mg WF s1)) (hg1 : Bk X scope fun Y => PG Y tg1 (tGM X.K X.mg ts1 b1)) (ht1 : Bk X scope fun Y => PTs Y ifs1 (tT X.K X.mg WF cd1)) (he : Bk X scope fun Y => PE Y elt (tE X.K X.mg WF el))
    (hts : ∀ i ∈ ts, i ∈ own.map (·.2) := by decide) (hts1 : ∀ i ∈ ts1, i ∈ vs1 := by decide) (hv : ∀ i ∈ vs1, i ∈ own.map (·.2) := by decide) (hs : ∀ x, foldedSetIterable iter X.env x = pure x := by intro _; rfl) (hs1 : ∀ env x, foldedSetIterable iter1 env x = pure x := by intro _ _; rfl) :
    PS X (.Assign [.Name y py] (.ListComp elt [⟨tg, iter, ifs, 0⟩, ⟨tg1, iter1, ifs1, 0⟩] scope pos) spos) (tS X.K X.mg W (cSet i (cLc2 (own.map (·.2)) vs1 b s cd b1 s1 cd1 el))) :=
  PS.imp (ps_setLc2 hc hN hy hyl hsw hi ok hv hg ht hi1 hg1 ht1 he hs hs1) fun Dn σ H q => by
    exact r_lc2 hts hts1 hv σ H _ (show tO X.K X.mg W _ σ H _ from r_set Dn σ H q)
end
end Md
/-! Md9: what is lent to a call and comes back. -/
namespace Md
open PySem PySem.Spec PyProof.Rows L2
variable {K : PySem.W.Frag} {mg : Str → Option Value} {F F' H H' : Hp} {f : Fm} {σ : L2.St} {ρ : Sto} {g : Addr → Option Ow} {W : WX} {X : Cx} {Dn : Ends}
abbrev Ar := List (D ⊕ Nat)
inductive AgR (K : PySem.W.Frag) (mg : Str → Option Value) (F : Hp) (σ : L2.St) : List V → Ar → Prop
  | nil : AgR K mg F σ [] []
  | val {v : V} {d : D} {vs : List V} {xs : Ar} : Vr K mg F v d → AgR K mg F σ vs xs → AgR K mg F σ (v :: vs) (.inl d :: xs)
  | own {v : V} {i : Nat} {vs : List V} {xs : Ar} : σ[i]? = some (some v) → AgR K mg F σ vs xs → AgR K mg F σ (v :: vs) (.inr i :: xs)
theorem AgR.same (s : Same F F') : ∀ {vs : List V} {xs : Ar}, AgR K mg F σ vs xs → AgR K mg F' σ vs xs
  | _, _, .nil => .nil
  | _, _, .val k r => .val (k.same s) (r.same s)
  | _, _, .own k r => .own k (r.same s)
theorem AgR.len : ∀ {vs : List V} {xs : Ar}, AgR K mg F σ vs xs → vs.length = xs.length
  | _, _, .nil => rfl
  | _, _, .val k r => by rw [List.length_cons, List.length_cons, r.len]
  | _, _, .own k r => by rw [List.length_cons, List.length_cons, r.len]
theorem AgR.inl : ∀ {vs : List V} {xs : Ar} {i : Nat} {d : D}, AgR K mg F σ vs xs → xs[i]? = some (.inl d) → ∃ v, vs[i]? = some v ∧ Vr K mg F v d
  | _, _, 0, d, .val k r, e => by cases e; exact ⟨_, rfl, k⟩
  | _, _, 0, d, .own k r, e => by cases e
  | _, _, i + 1, d, .val k r, e => AgR.inl (i := i) r e
  | _, _, i + 1, d, .own k r, e => AgR.inl (i := i) r e
theorem AgR.inr : ∀ {vs : List V} {xs : Ar} {i j : Nat}, AgR K mg F σ vs xs → xs[i]? = some (.inr j) → ∃ v, vs[i]? = some v ∧ σ[j]? = some (some v)
  | _, _, 0, d, .val k r, e => by cases e
  | _, _, 0, d, .own k r, e => by cases e; exact ⟨_, rfl, k⟩
  | _, _, i + 1, d, .val k r, e => AgR.inr (i := i) r e
  | _, _, i + 1, d, .own k r, e => AgR.inr (i := i) r e
/-- where slot j is lent -/
def ixA : Ar → Nat → Option Nat
  | [], _ => none
  | .inl _ :: r, j => (ixA r j).map (· + 1)
  | .inr k :: r, j => if k = j then some 0 else (ixA r j).map (· + 1)
theorem ixA_at : ∀ {xs : Ar} {j i : Nat}, ixA xs j = some i → xs[i]? = some (.inr j)
  | [], _, _, e => by cases e
  | .inl d :: r, j, i, e => by
    have e : (ixA r j).map (· + 1) = some i := e
    cases hz : ixA r j with
    | none => rw [hz] at e; cases e
    | some i' =>
      rw [hz] at e
      cases e
      exact ixA_at (xs := r) hz
  | .inr k :: r, j, i, e => by
    have e : (if k = j then some 0 else (ixA r j).map (· + 1)) = some i := e
    by_cases hk : k = j
    · rw [if_pos hk] at e
      cases e
      subst hk
      rfl
    · rw [if_neg hk] at e
      cases hz : ixA r j with
      | none => rw [hz] at e; cases e
      | some i' =>
        rw [hz] at e
        cases e
        exact ixA_at (xs := r) hz
theorem ownIx_mem : ∀ {xs : Ar} {i j : Nat}, xs[i]? = some (.inr j) → j ∈ ownIx xs
  | .inl d :: r, 0, j, e => by cases e
  | .inr k :: r, 0, j, e => by cases e; exact List.mem_cons_self
  | .inl d :: r, i + 1, j, e => ownIx_mem (xs := r) (i := i) e
  | .inr k :: r, i + 1, j, e => List.mem_cons_of_mem _ (ownIx_mem (xs := r) (i := i) e)
theorem ownIx_at : ∀ {xs : Ar} {j : Nat}, j ∈ ownIx xs → ∃ i : Nat, xs[i]? = some (Sum.inr j)
  | [], _, h => by cases h
  | .inl d :: r, j, h => by
    obtain ⟨i, e⟩ := ownIx_at (xs := r) h
    exact ⟨i + 1, e⟩
  | .inr q :: r, j, h => by
    rcases List.mem_cons.mp h with z | z
    · subst z
      exact ⟨0, rfl⟩
    · obtain ⟨i, e⟩ := ownIx_at (xs := r) z
      exact ⟨i + 1, e⟩
theorem ixA_of : ∀ {xs : Ar} {i j : Nat}, (ownIx xs).Nodup → xs[i]? = some (.inr j) → ixA xs j = some i
  | .inl d :: r, 0, j, n, e => by cases e
  | .inr k :: r, 0, j, n, e => by cases e; exact if_pos rfl
  | .inl d :: r, i + 1, j, n, e => by
    show (ixA r j).map (· + 1) = _
    rw [ixA_of (xs := r) (i := i) n e]
    rfl
  | .inr k :: r, i + 1, j, n, e => by
    have n : (k :: ownIx r).Nodup := n
    have hm := ownIx_mem (xs := r) (i := i) e
    have hk : k ≠ j := fun z => (List.nodup_cons.mp n).1 (z ▸ hm)
    show (if k = j then some 0 else (ixA r j).map (· + 1)) = _
    rw [if_neg hk, ixA_of (xs := r) (i := i) (List.nodup_cons.mp n).2 e]
    rfl
theorem ixA_none : ∀ {xs : Ar} {j : Nat}, j ∉ ownIx xs → ixA xs j = none := by
  intro xs j h
  cases hz : ixA xs j with
  | none => rfl
  | some i => exact absurd (ownIx_mem (ixA_at hz)) h
theorem callArgs_len : ∀ {xs : Ar} {as : List Sl}, callArgs ρ xs = some as → as.length = xs.length
  | [], _, e => by cases e; rfl
  | .inl d :: r, as, e => by
    have e : (callArgs ρ r).map (Sl.sh d :: ·) = some as := e
    cases hz : callArgs ρ r with
    | none => rw [hz] at e; cases e
    | some a => rw [hz] at e; cases e; rw [List.length_cons, List.length_cons, callArgs_len hz]
  | .inr i :: r, as, e => by
    have e : (match ρ[i]? with | some (.ow _ m) => (callArgs ρ r).map (Sl.ow true m :: ·) | _ => none) = some as := e
    cases hi : ρ[i]? with
    | none => rw [hi] at e; cases e
    | some s =>
      rw [hi] at e
      cases s with
      | ow b m =>
        have e : (callArgs ρ r).map (Sl.ow true m :: ·) = some as := e
        cases hz : callArgs ρ r with
        | none => rw [hz] at e; cases e
        | some a => rw [hz] at e; cases e; rw [List.length_cons, List.length_cons, callArgs_len hz]
      | un => cases e
      | sh d => cases e
theorem callArgs_at : ∀ {xs : Ar} {as : List Sl} {i : Nat} {x : D ⊕ Nat}, callArgs ρ xs = some as → xs[i]? = some x → match x with
    | .inl d => as[i]? = some (.sh d)
    | .inr j => ∃ b m, ρ[j]? = some (.ow b m) ∧ as[i]? = some (.ow true m)
  | [], _, _, _, e, h => by cases h
  | .inl d :: r, as, i, x, e, h => by
    have e : (callArgs ρ r).map (Sl.sh d :: ·) = some as := e
    cases hz : callArgs ρ r with
    | none => rw [hz] at e; cases e
    | some a =>
      rw [hz] at e
      cases e
      cases i with
      | zero => cases h; rfl
      | succ i => exact callArgs_at (i := i) hz h
  | .inr k :: r, as, i, x, e, h => by
    have e : (match ρ[k]? with | some (.ow _ m) => (callArgs ρ r).map (Sl.ow true m :: ·) | _ => none) = some as := e
    cases hi : ρ[k]? with
    | none => rw [hi] at e; cases e
    | some s =>
      rw [hi] at e
      cases s with
      | ow b m =>
        have e : (callArgs ρ r).map (Sl.ow true m :: ·) = some as := e
        cases hz : callArgs ρ r with
        | none => rw [hz] at e; cases e
        | some a =>
          rw [hz] at e
          cases e
          cases i with
          | zero => cases h; exact ⟨b, m, hi, rfl⟩
          | succ i => exact callArgs_at (i := i) hz h
      | un => cases e
      | sh d => cases e
theorem backO_facts : ∀ {xs : Ar} {ps : List Sl} {ρ ρ1 : Sto}, (ownIx xs).Nodup → backO xs ps ρ = some ρ1 → ρ1.length = ρ.length ∧ (∀ j : Nat, j ∉ ownIx xs → ρ1[j]? = ρ[j]?) ∧
    ∀ (i j : Nat), xs[i]? = some (Sum.inr j) → ∃ b m m0, ps[i]? = some (Sl.ow true m) ∧ ρ[j]? = some (Sl.ow b m0) ∧ ρ1[j]? = some (Sl.ow b m)
  | [], ps, ρ, ρ1, n, e => by
    have e : some ρ = some ρ1 := by cases ps <;> exact e
    cases e
    exact ⟨rfl, fun _ _ => rfl, fun i j h => by cases h⟩
  | .inl d :: r, ps, ρ, ρ1, n, e => by
    cases ps with
    | nil => cases e
    | cons p ps =>
      have e : backO r ps ρ = some ρ1 := e
      obtain ⟨h1, h2, h3⟩ := backO_facts (xs := r) n e
      refine ⟨h1, h2, fun i j h => ?_⟩
      cases i with
      | zero => cases h
      | succ i => exact h3 i j h
  | .inr k :: r, ps, ρ, ρ1, n, e => by
    have n : (k :: ownIx r).Nodup := n
    obtain ⟨n1, n2⟩ := List.nodup_cons.mp n
    cases ps with
    | nil => cases e
    | cons p ps =>
      cases p with
      | un => cases e
      | sh d => cases e
      | ow pb m =>
        cases pb with
        | false => cases e
        | true =>
          have e : (match ρ[k]? with | some (.ow b _) => backO r ps (ρ.set k (.ow b m)) | _ => none) = some ρ1 := e
          cases hk : ρ[k]? with
          | none => rw [hk] at e; cases e
          | some s =>
            rw [hk] at e
            cases s with
            | un => cases e
            | sh d => cases e
            | ow b m0 =>
              have hl := (List.getElem?_eq_some_iff.mp hk).1
              have e : backO r ps (ρ.set k (.ow b m)) = some ρ1 := e
              obtain ⟨h1, h2, h3⟩ := backO_facts (xs := r) n2 e
              refine ⟨h1.trans (List.length_set ..), fun j hj => ?_, fun i j h => ?_⟩
              · have hj : j ∉ k :: ownIx r := hj
                rw [h2 j fun z => hj (List.mem_cons_of_mem _ z), List.getElem?_set_ne fun z => hj (by rw [z]; exact List.mem_cons_self)]
              · cases i with
                | zero =>
                  cases h
                  exact ⟨b, m, m0, rfl, hk, by rw [h2 _ n1, List.getElem?_set_self hl]⟩
                | succ i =>
                  obtain ⟨b', m', m0', e1, e2, e3⟩ := h3 i j h
                  have hj : k ≠ j := fun z => n1 (z ▸ ownIx_mem (xs := r) (i := i) h)
                  rw [List.getElem?_set_ne hj] at e2
                  exact ⟨b', m', m0', e1, e2, e3⟩
def lkA (g : Addr → Option Ow) (xs : Ar) (a : Addr) : Option Nat := match g a with
  | some (.slot j) => ixA xs j
  | _ => none
theorem lkA_of {xs : Ar} {a : Addr} {i : Nat} (h : lkA g xs a = some i) : ∃ j, g a = some (.slot j) ∧ ixA xs j = some i := by
  unfold lkA at h
  cases hz : g a with
  | none => rw [hz] at h; cases h
  | some c =>
    rw [hz] at h
    cases c with
    | res => cases h
    | slot j => exact ⟨j, rfl, h⟩
def refOf : Option V → Option Addr
  | some (.ref p) => some p
  | _ => none
def lendF (F H : Hp) (g : Addr → Option Ow) (vs : List V) (xs : Ar) : Fm := ⟨F, H, fun a => lkA g xs a ≠ none, fun i => match xs[i]? with
  | some (.inr _) => refOf vs[i]?
  | _ => none⟩
def lendG (g : Addr → Option Ow) (xs : Ar) : Addr → Option Ow := fun a => (lkA g xs a).map .slot
theorem OwR.ref {P : Addr → Prop} {v : V} {m : Mu} (h : OwR K mg F H P v m) : ∃ p, v = .ref p := by
  cases h with
  | lst => exact ⟨_, rfl⟩
  | obj => exact ⟨_, rfl⟩
theorem lend_in {vs : List V} {xs : Ar} {as : List Sl} (S : SR K mg f F H σ ρ g) (A : AgR K mg F σ vs xs) (hc : callArgs ρ xs = some as) (nd : (ownIx xs).Nodup) : SR K mg (lendF F H g vs xs) F H (vs.map some) as (lendG g xs) := by
  have hl : vs.length = as.length := by rw [A.len, callArgs_len hc]
  have slv : ∀ (i : Nat) (v : Option V) (s : Sl), (vs.map some)[i]? = some v → as[i]? = some s → (∃ d u, v = some u ∧ s = Sl.sh d ∧ Vr K mg F u d) ∨ ∃ j m u, v = some u ∧ xs[i]? = some (Sum.inr j) ∧ s = Sl.ow true m ∧ vs[i]? = some u ∧ OwR K mg F H (fun a => g a = some (.slot j)) u m := by
    intro i v s e1 e2
    rw [List.getElem?_map] at e1
    have hi : i < xs.length := by
      have := (List.getElem?_eq_some_iff.mp e2).1
      rwa [callArgs_len hc] at this
    have ex : xs[i]? = some xs[i] := List.getElem?_eq_getElem hi
    have ca := callArgs_at hc ex
    generalize xs[i] = x at ex ca
    cases x with
    | inl d =>
      obtain ⟨u, e3, k⟩ := A.inl ex
      rw [e3] at e1
      cases e1
      have ca : as[i]? = some (.sh d) := ca
      rw [ca] at e2
      cases e2
      exact .inl ⟨d, u, rfl, rfl, k⟩
    | inr j =>
      obtain ⟨u, e3, k⟩ := A.inr ex
      obtain ⟨b, m, e4, e5⟩ := ca
      rw [e3] at e1
      cases e1
      rw [e5] at e2
      cases e2
      have q := S.sl j _ _ k e4
      cases q with
      | ow q => exact .inr ⟨j, m, u, rfl, ex, rfl, e3, q⟩
  refine ⟨by rw [List.length_map]; exact hl, Same.refl F, S.sub, fun a o e => .inl e, fun a e => e, fun a o e _ => e, fun a c e => ?_, fun i v s e1 e2 => ?_, fun i m e => ?_, fun i p e => ?_⟩
  · unfold lendG at e
    cases hz : lkA g xs a with
    | none => rw [hz] at e; cases e
    | some i =>
      obtain ⟨j, e1, _⟩ := lkA_of hz
      obtain ⟨y1, y2, y3⟩ := S.gh a _ e1
      exact ⟨y1, y2, .inr (by show lkA g xs a ≠ none; rw [hz]; intro z; cases z)⟩
  · rcases slv i v s e1 e2 with ⟨d, u, rfl, rfl, k⟩ | ⟨j, m, u, rfl, ex, rfl, e3, q⟩
    · exact .sh k
    · refine .ow (q.mono (Same.refl F) (fun _ _ _ e => e) fun a e => ?_)
      show (lkA g xs a).map Ow.slot = _
      have e : g a = some (.slot j) := e
      unfold lkA
      rw [e]
      show (ixA xs j).map Ow.slot = _
      rw [ixA_of nd ex]
      rfl
  · have hi : i < vs.length := by rw [hl]; exact (List.getElem?_eq_some_iff.mp e).1
    have e1 : (vs.map some)[i]? = some (some vs[i]) := by rw [List.getElem?_map, List.getElem?_eq_getElem hi]; rfl
    rcases slv i _ _ e1 e with ⟨d, u, _, z, _⟩ | ⟨j, m', u, eu, ex, em, e3, q⟩
    · cases z
    · obtain ⟨p, rfl⟩ := q.ref
      refine ⟨p, ?_, by rw [e1, eu]⟩
      show (match xs[i]? with | some (.inr _) => refOf vs[i]? | _ => none) = some p
      rw [ex, e3]
      rfl
  · have e : (match xs[i]? with | some (.inr _) => refOf vs[i]? | _ => none) = some p := e
    cases hx : xs[i]? with
    | none => rw [hx] at e; cases e
    | some x =>
      rw [hx] at e
      cases x with
      | inl d => cases e
      | inr j =>
        obtain ⟨b, m, e4, e5⟩ := callArgs_at hc hx
        exact ⟨m, e5⟩
/-- who owns what behind the call -/
def backG (g g' : Addr → Option Ow) (xs : Ar) : Addr → Option Ow := fun a => match g' a with
  | some .res => some .res
  | some (.slot i) => (match xs[i]? with
    | some (.inr j) => some (.slot j)
    | _ => none)
  | none => if lkA g xs a = none then (match g a with
    | some (.slot j) => some (.slot j)
    | _ => none) else none
theorem lend_out {vs : List V} {xs : Ar} {as ps : List Sl} {ρ1 : Sto} {g' : Addr → Option Ow} (S : SR K mg f F H σ ρ g) (A : AgR K mg F σ vs xs) (nd : (ownIx xs).Nodup) (k : SR K mg (lendF F H g vs xs) F' H' (vs.map some) ps g') (hb : backO xs ps ρ = some ρ1) : SR K mg f F' H' σ ρ1 (backG g g' xs) := by
  obtain ⟨b1, b2, b3⟩ := backO_facts nd hb
  have own : ∀ a, lkA g xs a ≠ none → f.H a = none ∨ f.own a := fun a n => by
    cases hz : lkA g xs a with
    | none => exact absurd hz n
    | some i =>
      obtain ⟨j, e, _⟩ := lkA_of hz
      exact (S.gh a _ e).2.2
  have third : ∀ a, (H a = none ∨ lkA g xs a ≠ none) → f.H a = none ∨ f.own a := fun a h => h.elim (fun e => .inl (S.al a e)) (own a)
  have stay : ∀ a o, H a = some o → lkA g xs a = none → H' a = some o := fun a o e n => k.bas a o e fun z => z n
  have nog : ∀ a o, H a = some o → lkA g xs a = none → g' a = none := fun a o e n => by
    cases hz : g' a with
    | none => rfl
    | some c =>
      rcases (k.gh a c hz).2.2 with z | z
      · have z : H a = none := z
        rw [e] at z
        cases z
      · exact absurd n z
  have gkeep : ∀ a j, g a = some (.slot j) → lkA g xs a = none → backG g g' xs a = some (.slot j) := fun a j e n => by
    obtain ⟨⟨o, x1, _⟩, _⟩ := S.gh a _ e
    unfold backG
    rw [nog a o x1 n, if_pos n, e]
  refine ⟨S.len.trans b1.symm, S.f0.trans k.f0, k.sub, fun a o e => ?_, fun a e => S.al a (k.al a e), fun a o e n => ?_, fun a c e => ?_, fun j v s e1 e2 => ?_, fun j m e => ?_, fun j p e => ?_⟩
  · rcases k.new a o e with e2 | e2 | e2
    · exact S.new a o e2
    · exact .inr (third a (.inl e2))
    · exact .inr (third a (.inr e2))
  · refine stay a o (S.bas a o e n) ?_
    cases hz : lkA g xs a with
    | none => rfl
    | some i =>
      rcases own a (by rw [hz]; intro z; cases z) with z | z
      · rw [e] at z
        cases z
      · exact absurd z n
  · unfold backG at e
    cases hz : g' a with
    | some c' =>
      obtain ⟨y1, y2, y3⟩ := k.gh a c' hz
      exact ⟨y1, y2, third a y3⟩
    | none =>
      rw [hz] at e
      by_cases hn : lkA g xs a = none
      · have e : (if lkA g xs a = none then (match g a with | some (.slot j) => some (Ow.slot j) | _ => none) else none) = some c := e
        rw [if_pos hn] at e
        cases hg : g a with
        | none => rw [hg] at e; cases e
        | some c2 =>
          obtain ⟨⟨o, x1, x2⟩, x3, x4⟩ := S.gh a c2 hg
          refine ⟨⟨o, stay a o x1 hn, x2⟩, ?_, x4⟩
          cases hF : F' a with
          | none => rfl
          | some o' =>
            rcases k.new a o' hF with z | z | z
            · have z : F a = some o' := z
              rw [x3] at z
              cases z
            · have z : H a = none := z
              rw [x1] at z
              cases z
            · exact absurd hn z
      · have e : (if lkA g xs a = none then (match g a with | some (.slot j) => some (Ow.slot j) | _ => none) else none) = some c := e
        rw [if_neg hn] at e
        cases e
  · by_cases hj : j ∈ ownIx xs
    · obtain ⟨i, hi⟩ := ownIx_at hj
      obtain ⟨b, m, m0, e3, e4, e5⟩ := b3 i j hi
      obtain ⟨u, e6, e7⟩ := A.inr hi
      rw [e5] at e2
      cases e2
      rw [e7] at e1
      cases e1
      have e8 : (vs.map some)[i]? = some (some u) := by rw [List.getElem?_map, e6]; rfl
      have q := k.sl i _ _ e8 e3
      cases q with
      | ow q =>
        refine .ow (q.mono (Same.refl F') (fun _ _ _ e => e) fun a e => ?_)
        have e : g' a = some (.slot i) := e
        unfold backG
        rw [e]
        show (match xs[i]? with | some (.inr j) => some (Ow.slot j) | _ => none) = _
        rw [hi]
    · rw [b2 j hj] at e2
      refine (S.sl j v s e1 e2).mono k.f0 (fun a o e h => stay a o h ?_) fun a e => gkeep a j e ?_
      · have e : g a = some (.slot j) := e
        unfold lkA
        rw [e]
        exact ixA_none hj
      · have e : g a = some (.slot j) := e
        unfold lkA
        rw [e]
        exact ixA_none hj
  · by_cases hj : j ∈ ownIx xs
    · obtain ⟨i, hi⟩ := ownIx_at hj
      obtain ⟨b, m', m0, e3, e4, e5⟩ := b3 i j hi
      rw [e5] at e
      cases e
      exact S.pin j _ e4
    · rw [b2 j hj] at e
      exact S.pin j m e
  · obtain ⟨m, e2⟩ := S.rt j p e
    by_cases hj : j ∈ ownIx xs
    · obtain ⟨i, hi⟩ := ownIx_at hj
      obtain ⟨b, m', m0, e3, e4, e5⟩ := b3 i j hi
      rw [e2] at e4
      cases e4
      exact ⟨m', e5⟩
    · exact ⟨m, by rw [b2 j hj]; exact e2⟩
theorem lend_res {xs : Ar} {g' : Addr → Option Ow} {v : V} {r : Rv} (h : RvR K mg F' H' g' v r) : RvR K mg F' H' (backG g g' xs) v r := by
  cases h with
  | sh h => exact .sh h
  | ow h =>
    refine .ow (h.mono (Same.refl F') (fun _ _ _ e => e) fun a e => ?_)
    have e : g' a = some .res := e
    show backG g g' xs a = _
    unfold backG
    rw [e]
end Md
/-! Md10: functions called; what is one's own changed; looking without giving up. -/
namespace Md
open PySem PySem.Spec PyProof.Rows L2
variable {K : PySem.W.Frag} {mg : Str → Option Value} {F F' H H' : Hp} {f : Fm} {σ : L2.St} {ρ : Sto} {g : Addr → Option Ow} {W : WX} {X : Cx} {Dn : Ends}
/-! ### the promise of a function -/
abbrev WA (E : XK) : WX := fun c d _ H => E c d H
def spM (K : PySem.W.Frag) (mg : Str → Option Value) (n : Nat) (φ : Co Rv) : Sp := fun vs H Q E => vs.length = n ∧ tO K mg (WA E) φ (vs.map some) H Q
def cutSl : Sl → Sl
  | .ow true m => .ow true m
  | _ => .un
def cutP (n : Nat) (ρ : Sto) : Sto := (ρ.take n).map cutSl
/-- a def's body as a function: n parameters, N names -/
def fnC (n N : Nat) (body : Co Fl) : Co Rv := fun as => match body (as ++ List.replicate (N - n) .un) with
  | .ok (.rt r) ρ' => if n ≤ ρ'.length then .ok r (cutP n ρ') else .st
  | .ok .nx ρ' => if n ≤ ρ'.length then .ok (.sh .none) (cutP n ρ') else .st
  | .er x ρ' => if n ≤ ρ'.length then .er x (cutP n ρ') else .st
  | _ => .st
theorem SR.more (S : SR K mg f F H σ ρ g) (k : Nat) : SR K mg f F H (σ ++ List.replicate k none) (ρ ++ List.replicate k .un) g := by
  refine ⟨by rw [List.length_append, List.length_append, List.length_replicate, List.length_replicate, S.len], S.f0, S.sub, S.new, S.al, S.bas, S.gh, fun i v s e1 e2 => ?_, fun i m e => ?_, fun i p e => ?_⟩
  · by_cases hi : i < ρ.length
    · rw [List.getElem?_append_left hi] at e2
      rw [List.getElem?_append_left (by rw [S.len]; exact hi)] at e1
      exact S.sl i v s e1 e2
    · rw [List.getElem?_append_right (by omega), List.getElem?_replicate] at e2
      split at e2
      · cases e2
        exact .un
      · cases e2
  · by_cases hi : i < ρ.length
    · rw [List.getElem?_append_left hi] at e
      rw [List.getElem?_append_left (by rw [S.len]; exact hi)]
      exact S.pin i m e
    · rw [List.getElem?_append_right (by omega), List.getElem?_replicate] at e
      split at e <;> cases e
  · obtain ⟨m, e2⟩ := S.rt i p e
    refine ⟨m, ?_⟩
    rw [List.getElem?_append_left (List.getElem?_eq_some_iff.mp e2).1]
    exact e2
theorem cutP_at {n : Nat} {ρ : Sto} {i : Nat} (hi : i < n) : (cutP n ρ)[i]? = (ρ[i]?).map cutSl := by
  unfold cutP
  rw [List.getElem?_map, List.getElem?_take, if_pos hi]
theorem SR.cut {vs : List V} {as ρ' : Sto} {g' : Addr → Option Ow} {σ' : L2.St} (S : SR K mg f F H (vs.map some) as g) (k : SR K mg f F' H' σ' ρ' g') (hn : vs.length ≤ ρ'.length) : SR K mg f F' H' (vs.map some) (cutP vs.length ρ') g' := by
  have same : ∀ (i : Nat) (p : Addr), f.root i = some p → (vs.map some)[i]? = some (some (.ref p)) := fun i p e => by
    obtain ⟨m, e2⟩ := S.rt i p e
    obtain ⟨q, e3, e4⟩ := S.pin i m e2
    rw [e] at e3
    cases e3
    exact e4
  have cl : (cutP vs.length ρ').length = vs.length := by
    unfold cutP
    rw [List.length_map, List.length_take]
    omega
  have pinned : ∀ (i : Nat) (b : Bool) (m : Mu), (cutP vs.length ρ')[i]? = some (Sl.ow b m) → b = true ∧ ρ'[i]? = some (Sl.ow true m) := fun i b m e => by
    have hi : i < vs.length := by
      have := (List.getElem?_eq_some_iff.mp e).1
      rwa [cl] at this
    rw [cutP_at hi] at e
    cases hz : ρ'[i]? with
    | none => rw [hz] at e; cases e
    | some s =>
      rw [hz] at e
      cases s with
      | un => cases e
      | sh d => cases e
      | ow b' m' =>
        cases b' with
        | false => cases e
        | true => cases e; exact ⟨rfl, rfl⟩
  refine ⟨by rw [List.length_map, cl], k.f0, k.sub, k.new, k.al, k.bas, k.gh, fun i v s e1 e2 => ?_, fun i m e => ?_, fun i p e => ?_⟩
  · have hi : i < vs.length := by
      have := (List.getElem?_eq_some_iff.mp e2).1
      rwa [cl] at this
    cases s with
    | un => exact .un
    | sh d =>
      rw [cutP_at hi] at e2
      cases hz : ρ'[i]? with
      | none => rw [hz] at e2; cases e2
      | some s =>
        rw [hz] at e2
        cases s with
        | un => cases e2
        | sh d => cases e2
        | ow b' m' => cases b' <;> cases e2
    | ow b m =>
      obtain ⟨rfl, e3⟩ := pinned i b m e2
      obtain ⟨p, e4, e5⟩ := k.pin i m e3
      have e6 := same i p e4
      rw [e6] at e1
      cases e1
      exact k.sl i _ _ e5 e3
  · obtain ⟨_, e3⟩ := pinned i true m e
    obtain ⟨p, e4, e5⟩ := k.pin i m e3
    exact ⟨p, e4, same i p e4⟩
  · obtain ⟨m, e3⟩ := k.rt i p e
    have hi : i < vs.length := by
      have := (List.getElem?_eq_some_iff.mp (same i p e)).1
      rwa [List.length_map] at this
    exact ⟨m, by rw [cutP_at hi, e3]; rfl⟩
section
variable {P : Program} {w : World} {base : Heap} {x qual : Str} {params : Arguments} {body : List Stmt} {scope : Scope} {dvs : List V} {kws : List (Str × V)} {fA : Addr} {fd : FuncData} {N ps : List Str} {k : Nat} {c : Co Fl}
theorem body_ok {n : Nat} {vs : List V} {Q : VK} {E : XK} (hl : vs.length = n) (h : tO K mg (WA E) (fnC n N.length c) (vs.map some) H Q) : tS K mg (WA E) c { nx := fun _ H' => Q .non H', rt := Q } (start N vs) H := by
  obtain ⟨f, F, as, g, S, q⟩ := h
  subst hl
  have hla : as.length = vs.length := by rw [← S.len, List.length_map]
  refine ⟨f, F, as ++ List.replicate (N.length - vs.length) Sl.un, g, (show SR K mg f F H (vs.map some ++ List.replicate (N.length - vs.length) none) (as ++ List.replicate (N.length - vs.length) Sl.un) g from S.more (N.length - vs.length)), ?_⟩
  have q : Fin K mg f (vs.map some) (WA E) (rO K mg) (match c (as ++ List.replicate (N.length - vs.length) .un) with
    | .ok (.rt r) ρ' => if vs.length ≤ ρ'.length then .ok r (cutP vs.length ρ') else .st
    | .ok .nx ρ' => if vs.length ≤ ρ'.length then .ok (.sh .none) (cutP vs.length ρ') else .st
    | .er x ρ' => if vs.length ≤ ρ'.length then .er x (cutP vs.length ρ') else .st
    | _ => .st) F Q := q
  cases hc : c (as ++ List.replicate (N.length - vs.length) .un) with
  | st => rw [hc] at q; exact q.elim
  | er x ρ' =>
    rw [hc] at q
    have q : Fin K mg f (vs.map some) (WA E) (rO K mg) (if vs.length ≤ ρ'.length then .er x (cutP vs.length ρ') else .st) F Q := q
    by_cases hn : vs.length ≤ ρ'.length
    · rw [if_pos hn] at q
      exact fun cls d σ' F' H' g' S' s' e => q cls d F' H' g' (S.cut S' hn) s' e
    · rw [if_neg hn] at q
      exact q.elim
  | ok fl ρ' =>
    rw [hc] at q
    cases fl with
    | bk => exact q.elim
    | ct => exact q.elim
    | nx =>
      have q : Fin K mg f (vs.map some) (WA E) (rO K mg) (if vs.length ≤ ρ'.length then .ok (.sh .none) (cutP vs.length ρ') else .st) F Q := q
      by_cases hn : vs.length ≤ ρ'.length
      · rw [if_pos hn] at q
        exact fun σ' F' H' g' S' s' => q .non F' H' g' (S.cut S' hn) s' (.sh .no)
      · rw [if_neg hn] at q
        exact q.elim
    | rt r =>
      have q : Fin K mg f (vs.map some) (WA E) (rO K mg) (if vs.length ≤ ρ'.length then .ok r (cutP vs.length ρ') else .st) F Q := q
      by_cases hn : vs.length ≤ ρ'.length
      · rw [if_pos hn] at q
        exact fun v σ' F' H' g' S' s' e => q v F' H' g' (S.cut S' hn) s' e
      · rw [if_neg hn] at q
        exact q.elim
/-- THE RULE for a def -/
theorem fn_okM (F0 : FunD K x qual params body scope dvs kws fA fd) (S : FnScope N ps scope)
    (hbody : ∀ (cdv : Value) (A : Around) (outer : List Env) (s : Shared) (H : Hp) (E : XK), Room k (A.deeper (envOfC qual scope s.heap.objs.size fA cdv)) → PSs (cxOf (L2.CX P w) P w K mg base N qual scope fA cdv A outer s H E) body (tS K mg (WA E) c)) :
    FnOk P w K mg base (L2.CX P w) (k + 1) fA fd ps (spM K mg ps.length (fnC ps.length N.length c)) :=
  F0.ok S (fun vs H Q E h => h.1) fun cdv A outer s H vs Q E hr h => ⟨_, hbody cdv A outer s H E hr, body_ok h.1 h.2⟩
end
/-- a callee for positional arguments -/
abbrev FnQ (P : Program) (w : World) (K : PySem.W.Frag) (mg : Str → Option Value) (base : Heap) (k : Nat) (fA : Addr) (n : Nat) (φ : Co Rv) : Prop := FnR P w K mg base (L2.CX P w) k fA (spM K mg n φ)
theorem FnQ.of {P : Program} {w : World} {base : Heap} {k n : Nat} {fA : Addr} {fd : FuncData} {ps : List Str} {φ : Co Rv} (h : FnOk P w K mg base (L2.CX P w) k fA fd ps (spM K mg n φ)) (hk : ∀ h : Heap, (∀ b o, base.get? b = some o → h.get? b = some o) → K.In h) (hb : Binds K fd ps []) : FnQ P w K mg base k fA n φ := by
  intro A outer s H us vs Q E hr e0 rv hsp
  have hl : us.length = ps.length := by rw [← rv.length]; exact h.len vs H Q E hsp
  have b := hb s us (hk s.heap fun b o e => (e0.bs b o e).1) (by rw [List.append_nil]; exact hl)
  rw [List.append_nil] at b
  exact h.run A outer s H ⟨us, []⟩ us vs Q E hr e0 b rv hsp
/-! ### arguments -/
def tAg (K : PySem.W.Frag) (mg : Str → Option Value) (W : WX) (c : Co Ar) : TA := fun σ H Q => tX K mg (fun F _ _ vs xs => AgR K mg F σ vs xs) W c σ H Q
def cA0 : Co Ar := fun ρ => .ok [] ρ
def cAv (a : Co D) (r : Co Ar) : Co Ar := fun ρ => (a ρ).bind fun d ρ1 => (r ρ1).bind fun xs ρ2 => .ok (.inl d :: xs) ρ2
def cAo (i : Nat) (r : Co Ar) : Co Ar := fun ρ => match ρ[i]? with
  | some (.ow _ _) => (r ρ).bind fun xs ρ2 => .ok (.inr i :: xs) ρ2
  | _ => .st
def cAs (a : Co D) (r : Co Ar) : Co Ar := fun ρ => (a ρ).bind fun d ρ1 => match d with
  | .tuple ds => (r ρ1).bind fun xs ρ2 => .ok (ds.map .inl ++ xs) ρ2
  | .list ds => (r ρ1).bind fun xs ρ2 => .ok (ds.map .inl ++ xs) ρ2
  | _ => .st
section
variable {e : Expr} {es : List Expr} {ca : Co D} {r : Co Ar} {pos p apos : Pos}
theorem pa_nilA : PA X [] (tAg X.K X.mg W cA0) := PA.imp pa_nil fun σ H Q ⟨f, F, ρ, g, S, q⟩ => q [] F H g S (Same.refl F) .nil
theorem pa_valA (ha : PE X e (tE X.K X.mg W ca)) (hr : PA X es (tAg X.K X.mg W r)) (hs : starEach (e :: es) X.env = (false, eval e X.env) :: starEach es X.env := by rfl) : PA X (e :: es) (tAg X.K X.mg W (cAv ca r)) :=
  PA.imp (pa_cons ha hr hs) fun σ H Q ⟨f, F, ρ, g, S, q⟩ => ⟨f, F, ρ, g, S, (Fin.bind (R := rD X.K X.mg) q).mono fun v H1 ⟨x, ρ1, F1, g1, S1, s1, k1, q1⟩ => ⟨f, F1, ρ1, g1, S1, (Fin.bind (R := fun F _ _ vs xs => AgR X.K X.mg F σ vs xs) q1).mono fun vs H2 ⟨xs, ρ2, F2, g2, S2, s2, k2, q2⟩ =>
    q2 (v :: vs) F2 H2 g2 S2 (Same.refl F2) (.val (k1.same s2) k2)⟩⟩
theorem SR.ownV (S : SR K mg f F H σ ρ g) {i : Nat} {b : Bool} {m : Mu} (h : ρ[i]? = some (.ow b m)) : ∃ v, σ[i]? = some (some v) ∧ OwR K mg F H (fun a => g a = some (.slot i)) v m := by
  have hl : i < σ.length := by rw [S.len]; exact (List.getElem?_eq_some_iff.mp h).1
  have e0 : σ[i]? = some σ[i] := List.getElem?_eq_getElem hl
  have q := S.sl i _ _ e0 h
  generalize σ[i] = u at e0 q
  cases q with
  | ow q => exact ⟨_, e0, q⟩
theorem pa_ownA {i : Nat} (ha : PE X e (tVar i)) (hr : PA X es (tAg X.K X.mg W r)) (hs : starEach (e :: es) X.env = (false, eval e X.env) :: starEach es X.env := by rfl) : PA X (e :: es) (tAg X.K X.mg W (cAo i r)) :=
  PA.imp (pa_cons ha hr hs) fun σ H Q ⟨f, F, ρ, g, S, q⟩ => by
    unfold cAo at q
    cases hz : ρ[i]? with
    | none => rw [hz] at q; exact q.elim
    | some s =>
      rw [hz] at q
      cases s with
      | un => exact q.elim
      | sh d => exact q.elim
      | ow b m =>
        obtain ⟨v, e1, _⟩ := S.ownV hz
        exact ⟨v, e1, f, F, ρ, g, S, (Fin.bind (R := fun F _ _ vs xs => AgR X.K X.mg F σ vs xs) q).mono fun vs H2 ⟨xs, ρ2, F2, g2, S2, s2, k2, q2⟩ => q2 (v :: vs) F2 H2 g2 S2 (Same.refl F2) (.own e1 k2)⟩
theorem AgR.app : ∀ {vs us : List V} {ds : List D} {xs : Ar}, VrA K mg F vs ds → AgR K mg F σ us xs → AgR K mg F σ (vs ++ us) (ds.map .inl ++ xs)
  | _, _, [], _, h, k => by cases h; exact k
  | _, _, d :: ds, _, h, k => by
    cases h with
    | cons h1 h2 => exact .val h1 (AgR.app h2 k)
theorem pa_starA {sp : Pos} (ha : PE X e (tE X.K X.mg W ca)) (hr : PA X es (tAg X.K X.mg W r)) (hs : starEach (.Starred e sp :: es) X.env = (true, eval e X.env) :: starEach es X.env := by rfl) : PA X (.Starred e sp :: es) (tAg X.K X.mg W (cAs ca r)) :=
  PA.imp (StX.pa_star ha hr hs) fun σ H Q ⟨f, F, ρ, g, S, q⟩ => ⟨f, F, ρ, g, S, (Fin.bind (R := rD X.K X.mg) q).mono fun v H1 ⟨x, ρ1, F1, g1, S1, s1, k1, q1⟩ => by
    cases x with
    | list ds =>
      cases k1 with
      | @li a xs _ h1 h2 =>
        refine ⟨a, xs, rfl, .inr (SqL.of (S1.sub _ _ h1)), f, F1, ρ1, g1, S1, (Fin.bind (R := fun F _ _ vs xs => AgR X.K X.mg F σ vs xs) q1).mono fun vs H2 ⟨ys, ρ2, F2, g2, S2, s2, k2, q2⟩ => q2 _ F2 H2 g2 S2 (Same.refl F2) (AgR.app (VrA.same s2 _ h2) k2)⟩
    | tuple ds =>
      cases k1 with
      | @tu a xs _ h1 h2 =>
        refine ⟨a, xs, rfl, .inl (Same.sqT S1.sub h1), f, F1, ρ1, g1, S1, (Fin.bind (R := fun F _ _ vs xs => AgR X.K X.mg F σ vs xs) q1).mono fun vs H2 ⟨ys, ρ2, F2, g2, S2, s2, k2, q2⟩ => q2 _ F2 H2 g2 S2 (Same.refl F2) (AgR.app (VrA.same s2 _ h2) k2)⟩
    | _ => exact q1.elim⟩
/-! ### calls -/
def runC (n : Nat) (φ : Co Rv) (xs : Ar) : Co Rv := fun ρ => match callArgs ρ xs with
  | none => .st
  | some as => if xs.length = n ∧ nodupB (ownIx xs) = true then (match φ as with
    | .st => .st
    | .ok r ps => (match backO xs ps ρ with
      | some ρ1 => .ok r ρ1
      | none => .st)
    | .er x ps => (match backO xs ps ρ with
      | some ρ1 => .er x ρ1
      | none => .st)) else .st
theorem nodupB_of : ∀ {l : List Nat}, nodupB l = true → l.Nodup
  | [], _ => List.nodup_nil
  | i :: r, h => by
    have h : (!r.contains i && nodupB r) = true := h
    rw [Bool.and_eq_true] at h
    refine List.nodup_cons.mpr ⟨fun z => ?_, nodupB_of h.2⟩
    have := h.1
    rw [List.contains_iff_mem.mpr z] at this
    cases this
theorem runC_ok {n : Nat} {φ : Co Rv} {xs : Ar} {vs : List V} {Q : VK} (S : SR K mg f F H σ ρ g) (A : AgR K mg F σ vs xs) (q : Fin K mg f σ W (rO K mg) (runC n φ xs ρ) F Q) : spM K mg n φ vs H Q (WE W σ) := by
  unfold runC at q
  cases hc : callArgs ρ xs with
  | none => rw [hc] at q; exact q.elim
  | some as =>
    rw [hc] at q
    have q : Fin K mg f σ W (rO K mg) (if xs.length = n ∧ nodupB (ownIx xs) = true then (match φ as with | .st => .st | .ok r ps => (match backO xs ps ρ with | some ρ1 => .ok r ρ1 | none => .st) | .er x ps => (match backO xs ps ρ with | some ρ1 => .er x ρ1 | none => .st)) else .st) F Q := q
    by_cases hn : xs.length = n ∧ nodupB (ownIx xs) = true
    · rw [if_pos hn] at q
      have nd := nodupB_of hn.2
      refine ⟨A.len.trans hn.1, lendF F H g vs xs, F, as, lendG g xs, lend_in S A hc nd, ?_⟩
      cases hφ : φ as with
      | st => rw [hφ] at q; exact q.elim
      | ok r ps =>
        rw [hφ] at q
        have q : Fin K mg f σ W (rO K mg) (match backO xs ps ρ with | some ρ1 => .ok r ρ1 | none => .st) F Q := q
        intro v F' H' g' S' s' kr
        cases hb : backO xs ps ρ with
        | none => rw [hb] at q; exact q.elim
        | some ρ1 =>
          rw [hb] at q
          exact q v F' H' _ (lend_out (as := as) S A nd S' hb) s' (lend_res kr)
      | er x ps =>
        rw [hφ] at q
        have q : Fin K mg f σ W (rO K mg) (match backO xs ps ρ with | some ρ1 => .er x ρ1 | none => .st) F Q := q
        intro cls d F' H' g' S' s' kr
        cases hb : backO xs ps ρ with
        | none => rw [hb] at q; exact q.elim
        | some ρ1 =>
          rw [hb] at q
          exact q cls d F' H' _ (lend_out (as := as) S A nd S' hb) s' kr
    · rw [if_neg hn] at q
      exact q.elim
def cCall (n : Nat) (φ : Co Rv) (r : Co Ar) : Co Rv := fun ρ => (r ρ).bind fun xs ρ1 => runC n φ xs ρ1
theorem r_call {n : Nat} {φ : Co Rv} : ∀ σ H Q, tO K mg W (cCall n φ r) σ H Q → tAg K mg W r σ H fun vs H1 => spM K mg n φ vs H1 Q (WE W σ) := fun σ H Q ⟨f, F, ρ, g, S, q⟩ =>
  ⟨f, F, ρ, g, S, (Fin.bind (R := fun F _ _ vs xs => AgR K mg F σ vs xs) q).mono fun vs H1 ⟨xs, ρ1, F1, g1, S1, s1, k1, q1⟩ => runC_ok S1 k1 q1⟩
theorem run_fnQ {CX : CXT} {k : Nat} {fA : Addr} {sp : Sp} {E : XK} {Q : VK} {us : List Value} {vs : List V} {pins : List (Addr × Obj)} {s : Shared} (F : FnR X.prog X.w X.K X.mg X.base CX k fA sp) (hr : Room k X.A) (hx : PassesAt CX X σ E) (I : Inv X pins σ H s) (rv : Vals vs us) (h : sp vs H Q E) :
    wpAny (model X.prog X.w) X.A (call (.ref fA) us) (EP X pins σ Q) X.xe s := by
  refine wpAny_call (codeAny_mono (F X.A X.stack s H us vs Q E hr I.env0 rv h) fun r s' hq => ?_)
  cases r with
  | error e => exact hx pins H s e s' I hq
  | ok fl =>
    cases fl with
    | ret u => exact I.after hq
    | next => exact False.elim hq
    | brk => exact False.elim hq
    | cont => exact False.elim hq
abbrev PsM (X : Cx) (W : WX) : Prop := ∀ σ, PassesAt (L2.CX X.prog X.w) X σ (WE W σ)
theorem psF : PsM X WF := fun σ pins H s e s' I c => by
  obtain ⟨_, _, _, _, _, _, _, _, _, _, _, _, z⟩ := c
  exact z.elim
theorem psT (tk : Takes X W) : PsM X W := fun σ => passAt tk σ
variable {k n : Nat} {fA : Addr} {φ : Co Rv} {x : Str}
theorem pe_callM (F : FnQ X.prog X.w X.K X.mg X.base k fA n φ) (hr : Room k X.A) (hg : Gl X x) (hm : X.mg x = some (.ref fA)) (hk : PySem.W.keepIn X.K (.ref fA) = true) (hx : PsM X W) (ha : PA X (e :: es) (tAg X.K X.mg W r)) (hdb : (x == ("__debug__" : Str)) = false := by decide)
    (he : starEach (e :: es) X.env = (false, eval e X.env) :: starEach es X.env := by rfl) (hpl : (backTo pos (starEach es X.env)).any (·.1) = false := by rfl) : PE X (.Call (.Name x p) (e :: es) [] pos) (tO X.K X.mg W (cCall n φ r)) := by
  refine ⟨fun pins s σ H Q I h => ?_⟩
  refine wpAny_Call_Name_kw (ld_glob I hg hm ?_ hdb)
  refine PySem.W.callWith_K (h₀ := X.base) I.ok.mod.kin hk (thn (ha.run pos pins s σ H _ I (r_call σ H Q h)) fun us s1 ⟨vs, H1, I1, rv, q⟩ => ⟨I1.kIn, ?_⟩) he hpl
  exact run_fnQ F hr (hx σ) I1 rv q
theorem pe_callM0 (F : FnQ X.prog X.w X.K X.mg X.base k fA n φ) (hr : Room k X.A) (hg : Gl X x) (hm : X.mg x = some (.ref fA)) (hk : PySem.W.keepIn X.K (.ref fA) = true) (hx : PsM X W) (hdb : (x == ("__debug__" : Str)) = false := by decide) : PE X (.Call (.Name x p) [] [] pos) (tO X.K X.mg W (cCall n φ cA0)) := by
  refine ⟨fun pins s σ H Q I h => ?_⟩
  refine wpAny_Call_Name_kw (ld_glob I hg hm ?_ hdb)
  obtain ⟨f, F0, ρ, g, S, q⟩ := h
  exact PySem.W.callWith_K0 I.kIn hk (run_fnQ (us := []) (vs := []) F hr (hx σ) I .nil (runC_ok S .nil q))
/-- a call with *y among its arguments, the first one plain -/
theorem pe_callMS (F : FnQ X.prog X.w X.K X.mg X.base k fA n φ) (hr : Room k X.A) (hg : Gl X x) (hm : X.mg x = some (.ref fA)) (hk : PySem.W.keepIn X.K (.ref fA) = true) (hx : PsM X W) (ha : PA X (e :: es) (tAg X.K X.mg W r)) (hdb : (x == ("__debug__" : Str)) = false := by decide)
    (he : starEach (e :: es) X.env = (false, eval e X.env) :: starEach es X.env := by rfl) (hst : (backTo pos (starEach es X.env)).any (·.1) = true := by rfl) : PE X (.Call (.Name x p) (e :: es) [] pos) (tO X.K X.mg W (cCall n φ r)) := by
  refine ⟨fun pins s σ H Q I h => ?_⟩
  refine wpAny_Call_Name_kw (ld_glob I hg hm ?_ hdb)
  refine PySem.W.callWith_S2 (h₀ := X.base) I.ok.mod.kin hk (thn (ha.run pos pins s σ H _ I (r_call σ H Q h)) fun us s1 ⟨vs, H1, I1, rv, q⟩ => ⟨I1.kIn, ?_⟩) he hst
  exact run_fnQ F hr (hx σ) I1 rv q
/-! ### methods -/
def cMeth (c m : Str) (n : Nat) (φ : Co Rv) (o : Co D) (r : Co Ar) : Co Rv := fun ρ => (o ρ).bind fun d ρ1 => match d with
  | .dict ((.none, .str c') :: fs) => if c' = c ∧ fldF m fs = none then (r ρ1).bind fun xs ρ2 => runC n φ (.inl d :: xs) ρ2 else .st
  | _ => .st
theorem VrF.noF : ∀ {fs : List (D × D)} {vs : List (Str × V)} {fl : Str}, VrF K mg F vs fs → fldF fl fs = none → vs.lookup fl = none
  | [], _, fl, h, e => by cases h; rfl
  | p :: fs, _, fl, h, e => by
    cases h with
    | @cons g v vs d0 _ h1 h2 =>
      have e : (if some g = some fl then some d0 else fldF fl fs) = none := e
      by_cases hg : g = fl
      · subst hg
        rw [if_pos rfl] at e
        cases e
      · rw [if_neg (fun z => hg (Option.some.inj z))] at e
        rw [List.lookup_cons, beq_false_of_ne (Ne.symm hg)]
        exact VrF.noF h2 e
/-- the object's part of a method's call -/
theorem r_meth {c m : Str} {C : Addr} {o : Co D} (hC : mg c = some (.ref C)) : ∀ σ H Q, tO K mg W (cMeth c m n φ o r) σ H Q → tE K mg W o σ H fun x H1 => ∃ a dx fs, x = .ref a ∧ H1 a = some (.ins C dx fs) ∧ fs.lookup m = none ∧ tAg K mg W r σ H1 fun vs H2 => spM K mg n φ (x :: vs) H2 Q (WE W σ) := fun σ H Q ⟨f, F, ρ, g, S, q⟩ =>
  ⟨f, F, ρ, g, S, (Fin.bind (R := rD K mg) q).mono fun v H1 ⟨x, ρ1, F1, g1, S1, s1, k1, q1⟩ => by
    cases k1 with
    | @ob a C' dx c' vs fs h1 h2 h3 h4 =>
      have q2 : Fin K mg f σ W (rO K mg) (if c' = c ∧ fldF m fs = none then (r ρ1).bind fun xs ρ2 => runC n φ (.inl (.dict ((.none, .str c') :: fs)) :: xs) ρ2 else .st) F1 Q := q1
      by_cases hc : c' = c ∧ fldF m fs = none
      · rw [if_pos hc] at q2
        obtain ⟨rfl, hm⟩ := hc
        have : C' = C := by
          rw [h1] at hC
          injection hC with hC
          injection hC
        subst this
        refine ⟨a, dx, vs, rfl, S1.sub _ _ h2, h4.noF hm, f, F1, ρ1, g1, S1, (Fin.bind (R := fun F _ _ vs xs => AgR K mg F σ vs xs) q2).mono fun us H2 ⟨xs, ρ2, F2, g2, S2, s2, k2, q3⟩ => runC_ok S2 (.val (Vr.same s2 _ (Vr.ob h1 h2 h3 h4)) k2) q3⟩
      · rw [if_neg hc] at q2
        exact q2.elim
    | _ => exact q1.elim⟩
variable {o : Expr} {co : Co D} {c m : Str} {C : Addr}
theorem pe_methM {pl : Sem Bool} (hC : X.mg c = some (.ref C)) (cl : Cls X.K C) (hme : Meth X.K C m fA) (F : FnQ X.prog X.w X.K X.mg X.base k fA n φ) (hr : Room k X.A) (hx : PsM X W) (ho : PE X o (tE X.K X.mg W co)) (ha : PA X (e :: es) (tAg X.K X.mg W r))
    (hst : starEach (e :: es) X.env = (false, eval e X.env) :: starEach es X.env := by rfl) (hpl : (backTo pos (starEach es X.env)).any (·.1) = false := by rfl)
    (ht : eval (.Call (.Attribute o m apos) (e :: es) [] pos) X.env = (do
      let ov ← eval o X.env
      standAt apos.atName
      let (f, first) ← holding [ov] (getMethod ov m pl)
      callWith pos f first (backTo pos (starEach (e :: es) X.env)) (backToKw pos (keywordEach [] X.env))) := by rfl) :
    PE X (.Call (.Attribute o m apos) (e :: es) [] pos) (tO X.K X.mg W (cMeth c m n φ co r)) := by
  refine ⟨fun pins s σ H Q I h => ?_⟩
  refine PySem.W.methodCall_KW (pl := pl) (thn (ho.run pins s σ H _ I (r_meth hC σ H Q h)) fun u s1 ⟨x, H1, I1, rx, a, dx, fs, ex, ea, l, q⟩ => ?_) ht
  subst ex
  obtain rfl : u = Value.ref a := rx
  refine getmeth_ok I1 ea cl hme l ?_
  refine PySem.W.callWith_K (first := [.ref a]) (h₀ := X.base) I.ok.mod.kin hme.kp (thn (ha.run pos pins s1 σ H1 _ I1 q) fun us s2 ⟨vs, H2, I2, rv, q2⟩ => ⟨I2.kIn, ?_⟩) hst hpl
  exact run_fnQ (us := .ref a :: us) (vs := .ref a :: vs) F hr (hx σ) I2 (.cons rfl rv) q2
theorem pe_methM0 {pl : Sem Bool} (hC : X.mg c = some (.ref C)) (cl : Cls X.K C) (hme : Meth X.K C m fA) (F : FnQ X.prog X.w X.K X.mg X.base k fA n φ) (hr : Room k X.A) (hx : PsM X W) (ho : PE X o (tE X.K X.mg W co))
    (ht : eval (.Call (.Attribute o m apos) [] [] pos) X.env = (do
      let ov ← eval o X.env
      standAt apos.atName
      let (f, first) ← holding [ov] (getMethod ov m pl)
      callWith pos f first (backTo pos (starEach [] X.env)) (backToKw pos (keywordEach [] X.env))) := by rfl) :
    PE X (.Call (.Attribute o m apos) [] [] pos) (tO X.K X.mg W (cMeth c m n φ co cA0)) := by
  refine ⟨fun pins s σ H Q I h => ?_⟩
  refine PySem.W.methodCall_KW (pl := pl) (thn (ho.run pins s σ H _ I (r_meth hC σ H Q h)) fun u s1 ⟨x, H1, I1, rx, a, dx, fs, ex, ea, l, q⟩ => ?_) ht
  subst ex
  obtain rfl : u = Value.ref a := rx
  refine getmeth_ok I1 ea cl hme l ?_
  obtain ⟨f, F1, ρ1, g1, S1, q⟩ := q
  exact PySem.W.callWith_K0 (first := [.ref a]) I1.kIn hme.kp (run_fnQ (us := [.ref a]) (vs := [.ref a]) F hr (hx σ) I1 (.cons rfl .nil) (q [] F1 H1 g1 S1 (Same.refl F1) .nil))
end
end Md
/-! Md11: what is one's own: given away, looked at, changed, made. -/
namespace Md
open PySem PySem.Spec PyProof.Rows L2
variable {K : PySem.W.Frag} {mg : Str → Option Value} {F F' H H' : Hp} {f : Fm} {σ : L2.St} {ρ : Sto} {g : Addr → Option Ow} {W : WX} {X : Cx} {Dn : Ends}
/-- slot i is given away -/
def cMov (i : Nat) : Co Rv := fun ρ => match ρ[i]? with
  | some (.sh d) => .ok (.sh d) ρ
  | some (.ow false m) => .ok (.ow m) (ρ.set i .un)
  | _ => .st
theorem r_mov {i : Nat} : ∀ σ H Q, tO K mg W (cMov i) σ H Q → tVar i σ H Q := fun σ H Q ⟨f, F, ρ, g, S, q⟩ => by
  unfold cMov at q
  cases hz : ρ[i]? with
  | none => rw [hz] at q; exact q.elim
  | some s =>
    rw [hz] at q
    have hlt : i < σ.length := by rw [S.len]; exact (List.getElem?_eq_some_iff.mp hz).1
    have e0 : σ[i]? = some σ[i] := List.getElem?_eq_getElem hlt
    cases s with
    | un => exact q.elim
    | sh d =>
      have k := S.sl i _ _ e0 hz
      generalize σ[i] = u at k e0
      cases k with
      | sh k => exact ⟨_, e0, fin_sh S q k⟩
    | ow b m =>
      cases b with
      | true => exact q.elim
      | false =>
        obtain ⟨v, ev, S2, k⟩ := S.take hz
        exact ⟨v, ev, q v F H _ S2 (Same.refl F) (.ow k)⟩
theorem pe_movM {e : Expr} {i : Nat} (h : PE X e (tVar i)) : PE X e (tO X.K X.mg W (cMov i)) := PE.imp h r_mov
theorem pe_varM {e : Expr} {i : Nat} (h : PE X e (tVar i)) : PE X e (tO X.K X.mg W (cVar i)) := PE.imp h r_var
/-! ### looking without giving up -/
def allF (F H : Hp) (g : Addr → Option Ow) : Hp := fun a => if g a = none then F a else H a
theorem all_same (S : SR K mg f F H σ ρ g) : Same F (allF F H g) := fun a o e => by
  unfold allF
  by_cases hg : g a = none
  · rw [if_pos hg]
    exact e
  · rw [if_neg hg]
    exact S.sub _ _ e
theorem OwR.all {P : Addr → Prop} {v : V} {m : Mu} (h : OwR K mg F H P v m) (s : Same F (allF F H g)) (hp : ∀ a, P a → g a ≠ none) : Vr K mg (allF F H g) v m.toD := by
  have at_ : ∀ a, P a → allF F H g a = H a := fun a k => if_neg (hp a k)
  cases h with
  | lst h1 h2 h3 => exact .li (by rw [at_ _ h1]; exact h2) (VrA.same s _ h3)
  | obj h1 h2 h3 h4 h5 h6 => exact .ob h3 (by rw [at_ _ h1]; exact h4) (by rw [at_ _ h2]; exact h5) (VrF.same s _ h6)
theorem SR.all (S : SR K mg f F H σ ρ g) : SR K mg ⟨allF F H g, H, fun _ => False, fun _ => none⟩ (allF F H g) H σ (ρ.map fzSl) (fun _ => none) := by
  have s := all_same S
  refine ⟨by rw [List.length_map, S.len], Same.refl _, fun a o e => ?_, fun a o e => .inl e, fun a e => e, fun a o e _ => e, fun a i e => (by cases e), fun i v t e1 e2 => ?_, fun i m e => ?_, fun i p e => (by cases e)⟩
  · unfold allF at e
    by_cases hg : g a = none
    · rw [if_pos hg] at e
      exact S.sub _ _ e
    · rw [if_neg hg] at e
      exact e
  · rw [List.getElem?_map] at e2
    cases hz : ρ[i]? with
    | none => rw [hz] at e2; cases e2
    | some u =>
      rw [hz] at e2
      have k := S.sl i v u e1 hz
      cases k with
      | un => cases e2; exact .un
      | sh k => cases e2; exact .sh (Vr.same s _ k)
      | ow k =>
        cases e2
        refine .sh (k.all s fun a e z => ?_)
        rw [e] at z
        cases z
  · rw [List.getElem?_map] at e
    cases hz : ρ[i]? with
    | none => rw [hz] at e; cases e
    | some u =>
      rw [hz] at e
      cases u <;> cases e
theorem flat_any {F F' : Hp} {v : V} {d : D} (h : Vr K mg F v d) (hf : flat d = true) : Vr K mg F' v d := by
  cases h with
  | no => exact .no
  | bo b => exact .bo b
  | num i => exact .num i
  | txt x => exact .txt x
  | li => cases hf
  | fl => cases hf
  | tu => cases hf
  | ob => cases hf
theorem RvR.flat {F F' H : Hp} {g : Addr → Option Ow} {v : V} {r : Rv} (h : RvR K mg F H g v r) (hf : flat r.toD = true) : Vr K mg F' v r.toD := by
  cases h with
  | sh k => exact flat_any k hf
  | ow k =>
    cases k with
    | lst => cases hf
    | obj => cases hf
theorem SR.after (S : SR K mg f F H σ ρ g) {ρ' : Sto} {g' : Addr → Option Ow} (k : SR K mg ⟨allF F H g, H, fun _ => False, fun _ => none⟩ F' H' σ ρ' g') : SR K mg f F H' σ ρ g := by
  have h3 : Same H H' := fun a o e => k.bas a o e fun z => z
  exact S.grow (Same.refl F) (S.sub.trans h3) h3 fun a o e => .inl e
theorem r_bor {c : Co Rv} {t : TE} (h : ∀ σ H Q, tO K mg WF c σ H Q → t σ H Q) : ∀ σ H Q, tO K mg W (cBor c) σ H Q → t σ H Q := fun σ H Q ⟨f, F, ρ, g, S, q⟩ => by
  unfold cBor at q
  cases hc : c (ρ.map fzSl) with
  | st => rw [hc] at q; exact q.elim
  | er x ρ' => rw [hc] at q; exact q.elim
  | ok r ρ' =>
    rw [hc] at q
    have q : Fin K mg f σ W (rO K mg) (if flat r.toD then .ok (.sh r.toD) ρ else .st) F Q := q
    by_cases hf : flat r.toD = true
    · rw [if_pos hf] at q
      refine h σ H Q ⟨_, _, _, _, S.all, ?_⟩
      rw [hc]
      exact fun v F' H' g' S' s' kr => fin_sh (S.after S') q (kr.flat hf)
    · rw [if_neg hf] at q
      exact q.elim
theorem pe_borM {e : Expr} {c : Co Rv} (h : PE X e (tO X.K X.mg WF c)) : PE X e (tO X.K X.mg W (cBor c)) := PE.imp h (r_bor fun _ _ _ q => q)
/-! ### lists of one's own -/
section
variable {e : Expr} {es : List Expr} {ca : Co D} {i : Nat} {pos apos p : Pos} {o : Expr}
theorem SR.ownL (S : SR K mg f F H σ ρ g) {b : Bool} {ds : List D} (h : ρ[i]? = some (.ow b (.lst ds))) : ∃ (p : Addr) (vs : List V), σ[i]? = some (some (.ref p)) ∧ g p = some (.slot i) ∧ H p = some (.lst vs) ∧ VrA K mg F vs ds := by
  obtain ⟨v, e, k⟩ := S.ownV h
  cases k with
  | lst h1 h2 h3 => exact ⟨_, _, e, h1, h2, h3⟩
theorem SR.putL (S : SR K mg f F H σ ρ g) {b : Bool} {ds ds' : List D} {p : Addr} {vs' : List V} (h : ρ[i]? = some (.ow b (.lst ds))) (hp : σ[i]? = some (some (.ref p))) (hg : g p = some (.slot i)) (k : VrA K mg F vs' ds') :
    SR K mg f F (upd H p (.lst vs')) σ (ρ.set i (.ow b (.lst ds'))) g := S.put h hp hg rfl (.lst hg upd_same k)
def isOwL (ρ : Sto) (i : Nat) : Bool := match ρ[i]? with
  | some (.ow _ (.lst _)) => true
  | _ => false
theorem isOwL_of (h : isOwL ρ i = true) : ∃ b ds, ρ[i]? = some (.ow b (.lst ds)) := by
  unfold isOwL at h
  cases hz : ρ[i]? with
  | none => rw [hz] at h; cases h
  | some s =>
    rw [hz] at h
    cases s with
    | un => cases h
    | sh => cases h
    | ow b m =>
      cases m with
      | lst ds => exact ⟨b, ds, rfl⟩
      | obj => cases h
def appL (ρ : Sto) (i : Nat) (ds' : List D) : Out Rv := match ρ[i]? with
  | some (.ow b (.lst ds)) => if ds.length + ds'.length ≤ sizeLine then .ok (.sh .none) (ρ.set i (.ow b (.lst (ds ++ ds')))) else .st
  | _ => .st
def cApp (i : Nat) (c : Co D) : Co Rv := fun ρ => if isOwL ρ i = true then (c ρ).bind fun d ρ1 => appL ρ1 i [d] else .st
theorem r_app : ∀ σ H Q, tO K mg W (cApp i ca) σ H Q → tBM K "list" rAppend (tVar i) (tCons (tE K mg W ca) tNil) σ H Q := fun σ H Q ⟨f, F, ρ, g, S, q⟩ => by
  unfold cApp at q
  by_cases hb : isOwL ρ i = true
  · rw [if_pos hb] at q
    obtain ⟨b0, ds0, h0⟩ := isOwL_of hb
    obtain ⟨p, vs0, e1, e2, e3, e4⟩ := S.ownL h0
    refine ⟨.ref p, e1, .inl ⟨rfl, vs0, SqL.of e3⟩, f, F, ρ, g, S, (Fin.bind (R := rD K mg) q).mono fun v H1 ⟨x, ρ1, F1, g1, S1, s1, k1, q1⟩ => ?_⟩
    unfold appL at q1
    cases hz : ρ1[i]? with
    | none => rw [hz] at q1; exact q1.elim
    | some s =>
      rw [hz] at q1
      cases s with
      | un => exact q1.elim
      | sh d => exact q1.elim
      | ow b m =>
        cases m with
        | obj => exact q1.elim
        | lst ds =>
          have q1 : Fin K mg f σ W (rO K mg) (if ds.length + [x].length ≤ sizeLine then .ok (.sh .none) (ρ1.set i (.ow b (.lst (ds ++ [x])))) else .st) F1 Q := q1
          by_cases hl : ds.length + [x].length ≤ sizeLine
          · rw [if_pos hl] at q1
            obtain ⟨p', vs, f1, f2, f3, f4⟩ := S1.ownL hz
            rw [e1] at f1
            cases f1
            exact ⟨p, vs, v, rfl, rfl, f3, by rw [f4.len]; exact hl, fin_sh (S1.putL hz e1 f2 (f4.app (.cons k1 .nil))) q1 .no⟩
          · rw [if_neg hl] at q1
            exact q1.elim
  · rw [if_neg hb] at q
    exact q.elim
theorem pe_appM (ho : PE X o (tVar i)) (ha : PE X e (tE X.K X.mg W ca)) (hs : starEach [e] X.env = (false, eval e X.env) :: starEach [] X.env := by rfl) (hbase : attributeBase o "append" X.env (eval o X.env) = eval o X.env := by rfl)
    (hfew : ((backTo pos (starEach [e] X.env)).all (fun x => !x.1) && (backToKw pos (keywordEach [] X.env)).all (fun x => x.1.isSome) && decide ([e].length + ([] : List Keyword).length + (if ([] : List Keyword).isEmpty then 0 else 1) < 30)) = true := by rfl) (hline : (apos.endLine == pos.line) = true := by rfl) :
    PE X (.Call (.Attribute o "append" apos) [e] [] pos) (tO X.K X.mg W (cApp i ca)) :=
  PE.imp (pe_bm PySem.F.plainAttrs_list PySem.F.slot_list_append PySem.F.type_list_append mt_append ho (pa_cons ha pa_nil hs) hbase hfew hline hs rfl) r_app
/-- out.extend(e), e a list -/
def cExt (i : Nat) (c : Co D) : Co Rv := fun ρ => if isOwL ρ i = true then (c ρ).bind fun d ρ1 => (match d with
  | .list es => appL ρ1 i es
  | _ => .st) else .st
theorem r_ext : ∀ σ H Q, tO K mg W (cExt i ca) σ H Q → tBM K "list" rExtend (tVar i) (tCons (tE K mg W ca) tNil) σ H Q := fun σ H Q ⟨f, F, ρ, g, S, q⟩ => by
  unfold cExt at q
  by_cases hb : isOwL ρ i = true
  · rw [if_pos hb] at q
    obtain ⟨b0, ds0, h0⟩ := isOwL_of hb
    obtain ⟨p, vs0, e1, e2, e3, e4⟩ := S.ownL h0
    refine ⟨.ref p, e1, .inl ⟨rfl, vs0, SqL.of e3⟩, f, F, ρ, g, S, (Fin.bind (R := rD K mg) q).mono fun v H1 ⟨x, ρ1, F1, g1, S1, s1, k1, q1⟩ => ?_⟩
    cases x with
    | list es =>
      have q1 : Fin K mg f σ W (rO K mg) (appL ρ1 i es) F1 Q := q1
      unfold appL at q1
      cases hz : ρ1[i]? with
      | none => rw [hz] at q1; exact q1.elim
      | some s =>
        rw [hz] at q1
        cases s with
        | un => exact q1.elim
        | sh d => exact q1.elim
        | ow b m =>
          cases m with
          | obj => exact q1.elim
          | lst ds =>
            have q1 : Fin K mg f σ W (rO K mg) (if ds.length + es.length ≤ sizeLine then .ok (.sh .none) (ρ1.set i (.ow b (.lst (ds ++ es)))) else .st) F1 Q := q1
            by_cases hl : ds.length + es.length ≤ sizeLine
            · rw [if_pos hl] at q1
              obtain ⟨p', vs, f1, f2, f3, f4⟩ := S1.ownL hz
              rw [e1] at f1
              cases f1
              cases k1 with
              | @li a us _ h1 h2 => exact ⟨p, a, vs, us, rfl, rfl, f3, S1.sub _ _ h1, by rw [f4.len, h2.len]; exact hl, fin_sh (S1.putL hz e1 f2 (f4.app h2)) q1 .no⟩
            · rw [if_neg hl] at q1
              exact q1.elim
    | _ => exact q1.elim
  · rw [if_neg hb] at q
    exact q.elim
theorem pe_extM (ho : PE X o (tVar i)) (ha : PE X e (tE X.K X.mg W ca)) (hs : starEach [e] X.env = (false, eval e X.env) :: starEach [] X.env := by rfl) (hbase : attributeBase o "extend" X.env (eval o X.env) = eval o X.env := by rfl)
    (hfew : ((backTo pos (starEach [e] X.env)).all (fun x => !x.1) && (backToKw pos (keywordEach [] X.env)).all (fun x => x.1.isSome) && decide ([e].length + ([] : List Keyword).length + (if ([] : List Keyword).isEmpty then 0 else 1) < 30)) = true := by rfl) (hline : (apos.endLine == pos.line) = true := by rfl) :
    PE X (.Call (.Attribute o "extend" apos) [e] [] pos) (tO X.K X.mg W (cExt i ca)) :=
  PE.imp (pe_bm PySem.F.plainAttrs_list PySem.F.slot_list_extend PySem.F.type_list_extend mt_extend ho (pa_cons ha pa_nil hs) hbase hfew hline hs rfl) r_ext
/-- out.pop(0) -/
theorem r_pop0 : ∀ σ H Q, tO K mg W (cPop i false) σ H Q → tBM K "list" rPopAt (tVar i) (tCons (tC (.int 0)) tNil) σ H Q := fun σ H Q ⟨f, F, ρ, g, S, q⟩ => by
  unfold cPop at q
  cases hz : ρ[i]? with
  | none => rw [hz] at q; exact q.elim
  | some s =>
    rw [hz] at q
    cases s with
    | un => exact q.elim
    | sh d => exact q.elim
    | ow b m =>
      cases m with
      | obj => exact q.elim
      | lst ds =>
        cases ds with
        | nil => exact q.elim
        | cons d r =>
          have q : Fin K mg f σ W (rO K mg) (.ok (.sh d) (ρ.set i (.ow b (.lst r)))) F Q := q
          obtain ⟨p, vs, e1, e2, e3, e4⟩ := S.ownL hz
          cases e4 with
          | @cons v vs _ _ k1 k2 =>
            have hq : seqIndex? 0 (v :: vs).length = some 0 := (ixN_seq (j := 0) (by unfold ixN; rw [if_pos (by decide), if_pos (by rw [List.length_cons]; omega)]; rfl)).1
            exact ⟨.ref p, e1, .inl ⟨rfl, _, SqL.of e3⟩, p, _, 0, 0, v, rfl, rfl, e3, by decide, by decide, hq, rfl, fin_sh (S.putL hz e1 e2 k2) q k1⟩
theorem pe_pop0M {kk : Nat} (ho : PE X o (tVar i)) (hs : starEach [.Constant (.int 0) kk p] X.env = (false, eval (.Constant (.int 0) kk p) X.env) :: starEach [] X.env := by rfl) (hbase : attributeBase o "pop" X.env (eval o X.env) = eval o X.env := by rfl)
    (hfew : ((backTo pos (starEach [.Constant (.int 0) kk p] X.env)).all (fun x => !x.1) && (backToKw pos (keywordEach [] X.env)).all (fun x => x.1.isSome) && decide ([Expr.Constant (.int 0) kk p].length + ([] : List Keyword).length + (if ([] : List Keyword).isEmpty then 0 else 1) < 30)) = true := by rfl) (hline : (apos.endLine == pos.line) = true := by rfl) :
    PE X (.Call (.Attribute o "pop" apos) [.Constant (.int 0) kk p] [] pos) (tO X.K X.mg W (cPop i false)) :=
  PE.imp (pe_bm PySem.F.plainAttrs_list PySem.F.slot_list_pop PySem.F.type_list_pop mt_popAt ho (pa_cons pe_int pa_nil hs) hbase hfew hline hs rfl) r_pop0
/-- out[j] while out stays one's own -/
def cIxO (i : Nat) (c : Co D) : Co Rv := fun ρ => if isOwL ρ i = true then (c ρ).bind fun d ρ1 => (match ρ1[i]?, d with
  | some (.ow _ (.lst ds)), .int j => (match atI ds j with
    | some y => .ok (.sh y) ρ1
    | none => .st)
  | _, _ => .st) else .st
theorem r_ixO : ∀ σ H Q, tO K mg W (cIxO i ca) σ H Q → tOp (rIx K) (tVar i) (tE K mg W ca) σ H Q := fun σ H Q ⟨f, F, ρ, g, S, q⟩ => by
  unfold cIxO at q
  by_cases hb : isOwL ρ i = true
  · rw [if_pos hb] at q
    obtain ⟨b0, ds0, h0⟩ := isOwL_of hb
    obtain ⟨p, vs0, e1, e2, e3, e4⟩ := S.ownL h0
    refine ⟨.ref p, e1, f, F, ρ, g, S, (Fin.bind (R := rD K mg) q).mono fun v H1 ⟨x, ρ1, F1, g1, S1, s1, k1, q1⟩ => ?_⟩
    cases hz : ρ1[i]? with
    | none => rw [hz] at q1; exact q1.elim
    | some s =>
      rw [hz] at q1
      cases s with
      | un => exact q1.elim
      | sh d => exact q1.elim
      | ow b m =>
        cases m with
        | obj => exact q1.elim
        | lst ds =>
          cases k1 with
          | num j =>
            have q1 : Fin K mg f σ W (rO K mg) (match atI ds j with | some y => .ok (.sh y) ρ1 | none => .st) F1 Q := q1
            cases hy : atI ds j with
            | none => rw [hy] at q1; exact q1.elim
            | some y =>
              rw [hy] at q1
              obtain ⟨p', vs, f1, f2, f3, f4⟩ := S1.ownL hz
              rw [e1] at f1
              cases f1
              obtain ⟨u, e5, k5⟩ := f4.atI hy
              exact .inl ⟨p, vs, j, u, rfl, rfl, SqL.of f3, e5, fin_sh S1 q1 k5⟩
          | _ => exact q1.elim
  · rw [if_neg hb] at q
    exact q.elim
theorem pe_ixOM (ho : PE X o (tVar i)) (ha : PE X e (tE X.K X.mg W ca)) (hs : PlainIx e) : PE X (.Subscript o e pos) (tO X.K X.mg W (cIxO i ca)) := PE.imp (pe_ix ix_seq ho ha hs) r_ixO
/-! ### objects of one's own -/
theorem SR.ownO (S : SR K mg f F H σ ρ g) {b : Bool} {c : Str} {fs : List (D × D)} (h : ρ[i]? = some (.ow b (.obj c fs))) : ∃ (p C dx : Addr) (vs : List (Str × V)), σ[i]? = some (some (.ref p)) ∧ g p = some (.slot i) ∧ g dx = some (.slot i) ∧ mg c = some (.ref C) ∧ H p = some (.ins C dx vs) ∧ H dx = some (.own p) ∧ VrF K mg F vs fs := by
  obtain ⟨v, e, k⟩ := S.ownV h
  cases k with
  | obj h1 h2 h3 h4 h5 h6 => exact ⟨_, _, _, _, e, h1, h2, h3, h4, h5, h6⟩
/-- self.f while self is one's own -/
def cAtO (i : Nat) (c fl : Str) : Co Rv := fun ρ => match ρ[i]? with
  | some (.ow _ (.obj c' fs)) => if c' = c then (match fldF fl fs with
    | some d => .ok (.sh d) ρ
    | none => .st) else .st
  | _ => .st
theorem pe_atOM {c fl : Str} {C : Addr} (hC : X.mg c = some (.ref C)) (cl : Cls X.K C) (na : NoAttr X.K C fl) (ho : PE X o (tVar i)) (hb : attributeBase o fl X.env (eval o X.env) = eval o X.env) : PE X (.Attribute o fl pos) (tO X.K X.mg W (cAtO i c fl)) :=
  PE.imp (pe_fld ho hb) fun σ H Q ⟨f, F, ρ, g, S, q⟩ => by
    unfold cAtO at q
    cases hz : ρ[i]? with
    | none => rw [hz] at q; exact q.elim
    | some s =>
      rw [hz] at q
      cases s with
      | un => exact q.elim
      | sh d => exact q.elim
      | ow b m =>
        cases m with
        | lst => exact q.elim
        | obj c' fs =>
          have q2 : Fin X.K X.mg f σ W (rO X.K X.mg) (if c' = c then (match fldF fl fs with | some d => .ok (.sh d) ρ | none => .st) else .st) F Q := q
          clear q
          by_cases hc : c' = c
          · rw [if_pos hc] at q2
            subst hc
            cases hd : fldF fl fs with
            | none => rw [hd] at q2; exact q2.elim
            | some d =>
              rw [hd] at q2
              obtain ⟨p, C', dx, vs, e1, e2, e3, e4, e5, e6, e7⟩ := S.ownO hz
              have : C' = C := by
                rw [e4] at hC
                injection hC with hC
                injection hC
              subst this
              obtain ⟨v, e8, k8⟩ := e7.getF hd
              exact ⟨.ref p, e1, p, C', dx, vs, v, rfl, e5, cl, na, e8, fin_sh S q2 k8⟩
          · rw [if_neg hc] at q2
            exact q2.elim
/-- self.f = e -/
def cPut (i : Nat) (c fl : Str) (a : Co D) : Co Fl := fun ρ => (a ρ).bind fun d ρ1 => match ρ1[i]? with
  | some (.ow b (.obj c' fs)) => if c' = c ∧ fs.length < 1000 then .ok .nx (ρ1.set i (.ow b (.obj c' (setF fl d fs)))) else .st
  | _ => .st
theorem VrF.len : ∀ {fs : List (D × D)} {vs : List (Str × V)}, VrF K mg F vs fs → vs.length = fs.length
  | [], _, h => by cases h; rfl
  | p :: fs, _, h => by
    cases h with
    | cons h1 h2 => rw [List.length_cons, List.length_cons, VrF.len h2]
theorem ps_putM {c fl : Str} {C : Addr} {pos' : Pos} (hC : X.mg c = some (.ref C)) (cl : Cls X.K C) (na : NoAttr X.K C fl) (ho : PE X o (tVar i)) (ha : PE X e (tE X.K X.mg W ca)) (hs : swapsWith e (some (.Attribute o fl pos')) pos.line X.env = pure false := by rfl) :
    PS X (.Assign [.Attribute o fl pos'] e pos) (tS X.K X.mg W (cPut i c fl ca)) :=
  PS.imp (ps_fld ho ha hs) fun Dn σ H ⟨f, F, ρ, g, S, q⟩ => ⟨f, F, ρ, g, S, (FinS.bindE (R := rD X.K X.mg) q).mono fun v H1 ⟨x, ρ1, F1, g1, S1, s1, k1, q1⟩ => by
    cases hz : ρ1[i]? with
    | none => rw [hz] at q1; exact q1.elim
    | some s =>
      rw [hz] at q1
      cases s with
      | un => exact q1.elim
      | sh d => exact q1.elim
      | ow b m =>
        cases m with
        | lst => exact q1.elim
        | obj c' fs =>
          have q2 : FinS X.K X.mg f W (if c' = c ∧ fs.length < 1000 then .ok .nx (ρ1.set i (.ow b (.obj c' (setF fl x fs)))) else .st) F1 Dn := q1
          clear q1
          by_cases hc : c' = c ∧ fs.length < 1000
          · rw [if_pos hc] at q2
            obtain ⟨rfl, hl⟩ := hc
            obtain ⟨p, C', dx, vs, e1, e2, e3, e4, e5, e6, e7⟩ := S1.ownO hz
            have : C' = C := by
              rw [e4] at hC
              injection hC with hC
              injection hC
            subst this
            have nd : dx ≠ p := fun z => by
              rw [z, e5] at e6
              cases e6
            refine ⟨.ref p, e1, p, C', dx, vs, rfl, e5, cl, na, by rw [e7.len]; exact hl, ?_⟩
            exact q2 σ F1 _ g1 (S1.put hz e1 e2 rfl (.obj e2 e3 e4 upd_same (by rw [upd_ne nd]; exact e6) (e7.setF k1))) (Same.refl F1)
          · rw [if_neg hc] at q2
            exact q2.elim⟩
end
end Md
/-! Md12: objects made. -/
namespace Md
open PySem PySem.Spec PyProof.Rows L2
variable {K : PySem.W.Frag} {mg : Str → Option Value} {F F' H H' : Hp} {f : Fm} {σ : L2.St} {ρ : Sto} {g : Addr → Option Ow} {W : WX} {X : Cx} {Dn : Ends}
def newH (H : Hp) (x dx C : Addr) : Hp := upd (upd H dx (.own x)) x (.ins C dx [])
def newF (F H : Hp) (x dx C : Addr) : Fm := ⟨F, newH H x dx C, fun a => a = x ∨ a = dx, fun i => if i = 0 then some x else none⟩
def newG (x dx : Addr) : Addr → Option Ow := fun a => if a = x ∨ a = dx then some (.slot 0) else none
theorem newH_x {x dx C : Addr} : newH H x dx C x = some (.ins C dx []) := upd_same
theorem newH_d {x dx C : Addr} (h : dx ≠ x) : newH H x dx C dx = some (.own x) := by
  unfold newH
  rw [upd_ne h, upd_same]
theorem newH_o {x dx C a : Addr} (h : a ≠ x) (h' : a ≠ dx) : newH H x dx C a = H a := by
  unfold newH
  rw [upd_ne h, upd_ne h']
theorem newH_keep {x dx C : Addr} (nx : H x = none) (nd : H dx = none) : Same H (newH H x dx C) := fun a o e => by
  rw [newH_o (fun z => by rw [z, nx] at e; cases e) (fun z => by rw [z, nd] at e; cases e)]
  exact e
theorem make_in {x dx C : Addr} {c : Str} {vs : List V} {ds : List D} (S : SR K mg f F H σ ρ g) (hC : mg c = some (.ref C)) (nx : H x = none) (nd : H dx = none) (ne : dx ≠ x) (k : VrA K mg F vs ds) :
    SR K mg (newF F H x dx C) F (newH H x dx C) ((V.ref x :: vs).map some) (.ow true (.obj c []) :: ds.map .sh) (newG x dx) := by
  have Fx : F x = none := S.sub.free nx
  have Fd : F dx = none := S.sub.free nd
  have sub : Same F (newH H x dx C) := S.sub.trans (newH_keep nx nd)
  have ow : OwR K mg F (newH H x dx C) (fun a => newG x dx a = some (.slot 0)) (.ref x) (.obj c []) := .obj (if_pos (.inl rfl)) (if_pos (.inr rfl)) hC newH_x (newH_d ne) .nil
  refine ⟨?_, Same.refl F, sub, fun a o e => .inl e, fun a e => e, fun a o e _ => e, fun a i e => ?_, fun i v s e1 e2 => ?_, fun i m e => ?_, fun i p e => ?_⟩
  · rw [List.length_map, List.length_cons, List.length_cons, List.length_map, k.len]
  · unfold newG at e
    by_cases ha : a = x ∨ a = dx
    · refine ⟨?_, ?_, .inr ha⟩
      · rcases ha with rfl | rfl
        · exact ⟨_, newH_x, rfl⟩
        · exact ⟨_, newH_d ne, rfl⟩
      · rcases ha with rfl | rfl
        · exact Fx
        · exact Fd
    · rw [if_neg ha] at e
      cases e
  · cases i with
    | zero =>
      cases e1
      cases e2
      exact .ow ow
    | succ i =>
      have e1 : (vs.map some)[i]? = some v := e1
      have e2 : (ds.map Sl.sh)[i]? = some s := e2
      rw [List.getElem?_map] at e1 e2
      cases hz : vs[i]? with
      | none => rw [hz] at e1; cases e1
      | some u =>
        rw [hz] at e1
        cases e1
        obtain ⟨d, ed, kd⟩ := k.get hz
        rw [ed] at e2
        cases e2
        exact .sh kd
  · cases i with
    | zero =>
      cases e
      exact ⟨x, rfl, rfl⟩
    | succ i =>
      have e : (ds.map Sl.sh)[i]? = some (.ow true m) := e
      rw [List.getElem?_map] at e
      cases hz : ds[i]? with
      | none => rw [hz] at e; cases e
      | some d => rw [hz] at e; cases e
  · cases i with
    | zero =>
      cases e
      exact ⟨_, rfl⟩
    | succ i => cases e
def madeG (g g' : Addr → Option Ow) (x dx : Addr) : Addr → Option Ow := fun a => match g' a with
  | some (.slot 0) => some .res
  | some _ => none
  | none => if a = x ∨ a = dx then none else (match g a with
    | some (.slot j) => some (.slot j)
    | _ => none)
theorem make_out {x dx C : Addr} {σ' : L2.St} {ps : Sto} {g' : Addr → Option Ow} (S : SR K mg f F H σ ρ g) (nx : H x = none) (nd : H dx = none) (k : SR K mg (newF F H x dx C) F' H' σ' ps g') : SR K mg f F' H' σ ρ (madeG g g' x dx) := by
  have fx : f.H x = none := S.al x nx
  have fd : f.H dx = none := S.al dx nd
  have stay : ∀ a o, H a = some o → H' a = some o := fun a o e => by
    have h1 : a ≠ x := fun z => by rw [z, nx] at e; cases e
    have h2 : a ≠ dx := fun z => by rw [z, nd] at e; cases e
    exact k.bas a o (by show newH H x dx C a = some o; rw [newH_o h1 h2]; exact e) (fun z => z.elim h1 h2)
  have nog : ∀ a o, H a = some o → g' a = none := fun a o e => by
    have h1 : a ≠ x := fun z => by rw [z, nx] at e; cases e
    have h2 : a ≠ dx := fun z => by rw [z, nd] at e; cases e
    cases hz : g' a with
    | none => rfl
    | some c =>
      rcases (k.gh a c hz).2.2 with z | z
      · have z : newH H x dx C a = none := z
        rw [newH_o h1 h2, e] at z
        cases z
      · rcases (show a = x ∨ a = dx from z) with z | z
        · exact absurd z h1
        · exact absurd z h2
  have fnone : ∀ a, newH H x dx C a = none → f.H a = none := fun a e => by
    refine S.al a ?_
    cases hz : H a with
    | none => rfl
    | some o =>
      rw [newH_keep nx nd a o hz] at e
      cases e
  have third : ∀ a, (newH H x dx C a = none ∨ (a = x ∨ a = dx)) → f.H a = none ∨ f.own a := fun a h => by
    rcases h with h | h | h
    · exact .inl (fnone a h)
    · exact .inl (h ▸ fx)
    · exact .inl (h ▸ fd)
  refine ⟨S.len, S.f0.trans k.f0, k.sub, fun a o e => ?_, fun a e => fnone a (k.al a e), fun a o e n => stay a o (S.bas a o e n), fun a c e => ?_, fun j v s e1 e2 => ?_, S.pin, S.rt⟩
  · rcases k.new a o e with e2 | e2 | e2
    · exact S.new a o e2
    · exact .inr (third a (.inl e2))
    · exact .inr (third a (.inr e2))
  · unfold madeG at e
    cases hz : g' a with
    | some c' =>
      obtain ⟨y1, y2, y3⟩ := k.gh a c' hz
      exact ⟨y1, y2, third a y3⟩
    | none =>
      rw [hz] at e
      have e : (if a = x ∨ a = dx then none else (match g a with | some (.slot j) => some (Ow.slot j) | _ => none)) = some c := e
      by_cases hn : a = x ∨ a = dx
      · rw [if_pos hn] at e
        cases e
      · rw [if_neg hn] at e
        cases hg : g a with
        | none => rw [hg] at e; cases e
        | some c2 =>
          obtain ⟨⟨o, x1, x2⟩, x3, x4⟩ := S.gh a c2 hg
          refine ⟨⟨o, stay a o x1, x2⟩, ?_, x4⟩
          cases hF : F' a with
          | none => rfl
          | some o' =>
            rcases k.new a o' hF with z | z | z
            · have z : F a = some o' := z
              rw [x3] at z
              cases z
            · have z : newH H x dx C a = none := z
              rw [newH_keep nx nd a o x1] at z
              cases z
            · exact absurd z hn
  · refine (S.sl j v s e1 e2).mono k.f0 (fun a o e h => stay a o h) fun a e => ?_
    have e : g a = some (.slot j) := e
    obtain ⟨⟨o, x1, _⟩, _⟩ := S.gh a _ e
    have h1 : a ≠ x := fun z => by rw [z, nx] at x1; cases x1
    have h2 : a ≠ dx := fun z => by rw [z, nd] at x1; cases x1
    unfold madeG
    rw [nog a o x1]
    show (if a = x ∨ a = dx then none else (match g a with | some (.slot j) => some (Ow.slot j) | _ => none)) = _
    rw [if_neg (fun z => z.elim h1 h2), e]
theorem lefts_eq : ∀ {xs : Ar} {ds : List D}, lefts xs = some ds → xs = ds.map .inl
  | [], ds, e => by cases e; rfl
  | .inl d :: r, ds, e => by
    have e : (lefts r).map (d :: ·) = some ds := e
    cases hz : lefts r with
    | none => rw [hz] at e; cases e
    | some a =>
      rw [hz] at e
      cases e
      rw [lefts_eq hz]
      rfl
  | .inr i :: r, ds, e => by cases e
theorem AgR.vals : ∀ {ds : List D} {vs : List V}, AgR K mg F σ vs (ds.map .inl) → VrA K mg F vs ds
  | [], _, h => by cases h; exact .nil
  | d :: ds, _, h => by
    cases h with
    | val h1 h2 => exact .cons h1 (AgR.vals h2)
def makeC (c : Str) (n : Nat) (φ : Co Rv) (xs : Ar) : Co Rv := fun ρ => match lefts xs with
  | none => .st
  | some ds => if ds.length + 1 = n then (match φ (.ow true (.obj c []) :: ds.map .sh) with
    | .ok (.sh .none) (.ow true (.obj c' fs) :: _) => if c' = c then .ok (.ow (.obj c fs)) ρ else .st
    | .er x _ => .er x ρ
    | _ => .st) else .st
theorem makeC_ok {c : Str} {C : Addr} {n : Nat} {φ : Co Rv} {xs : Ar} {vs : List V} {Q : VK} (hC : mg c = some (.ref C)) (S : SR K mg f F H σ ρ g) (A : AgR K mg F σ vs xs) (q : Fin K mg f σ W (rO K mg) (makeC c n φ xs ρ) F Q) :
    ∀ x dx, H x = none → H dx = none → dx ≠ x → spM K mg n φ (.ref x :: vs) (upd (upd H dx (.own x)) x (.ins C dx [])) (fun v H2 => v = .non ∧ Q (.ref x) H2) (WE W σ) := fun x dx nx nd ne => by
  unfold makeC at q
  cases hl : lefts xs with
  | none => rw [hl] at q; exact q.elim
  | some ds =>
    rw [hl] at q
    have q : Fin K mg f σ W (rO K mg) (if ds.length + 1 = n then (match φ (.ow true (.obj c []) :: ds.map .sh) with | .ok (.sh .none) (.ow true (.obj c' fs) :: _) => if c' = c then .ok (.ow (.obj c fs)) ρ else .st | .er x _ => .er x ρ | _ => .st) else .st) F Q := q
    have kv : VrA K mg F vs ds := AgR.vals (lefts_eq hl ▸ A)
    by_cases hn : ds.length + 1 = n
    · rw [if_pos hn] at q
      refine ⟨by rw [List.length_cons, kv.len]; exact hn, newF F H x dx C, F, _, newG x dx, make_in S hC nx nd ne kv, ?_⟩
      cases hφ : φ (.ow true (.obj c []) :: ds.map .sh) with
      | st => rw [hφ] at q; exact q.elim
      | er e ps =>
        rw [hφ] at q
        exact fun cls d F' H' g' S' s' kr => q cls d F' H' _ (make_out S nx nd S') s' kr
      | ok r ps =>
        rw [hφ] at q
        cases r with
        | ow m => exact q.elim
        | sh d =>
          cases d <;> first | exact q.elim | skip
          cases ps with
          | nil => exact q.elim
          | cons p0 ps =>
            cases p0 with
            | un => exact q.elim
            | sh d => exact q.elim
            | ow b m =>
              cases b with
              | false => exact q.elim
              | true =>
                cases m with
                | lst => exact q.elim
                | obj c' fs =>
                  have q : Fin K mg f σ W (rO K mg) (if c' = c then .ok (.ow (.obj c fs)) ρ else .st) F Q := q
                  by_cases hc : c' = c
                  · subst hc
                    rw [if_pos rfl] at q
                    intro v F' H' g' S' s' kr
                    have kr : RvR K mg F' H' g' v (.sh .none) := kr
                    cases kr with
                    | sh kr =>
                      cases kr
                      refine ⟨rfl, q (.ref x) F' H' _ (make_out S nx nd S') s' (.ow ?_)⟩
                      have k0 := S'.sl 0 (some (.ref x)) _ rfl rfl
                      cases k0 with
                      | ow k0 =>
                        refine k0.mono (Same.refl F') (fun _ _ _ e => e) fun a e => ?_
                        have e : g' a = some (.slot 0) := e
                        show madeG g g' x dx a = some .res
                        unfold madeG
                        rw [e]
                        rfl
                  · rw [if_neg hc] at q
                    exact q.elim
    · rw [if_neg hn] at q
      exact q.elim
def cMake (c : Str) (n : Nat) (φ : Co Rv) (r : Co Ar) : Co Rv := fun ρ => (r ρ).bind fun xs ρ1 => makeC c n φ xs ρ1
section
variable {e : Expr} {es : List Expr} {r : Co Ar} {pos p : Pos} {k n : Nat} {fA C : Addr} {φ : Co Rv} {x : Str}
theorem r_make {c : Str} (hC : mg c = some (.ref C)) : ∀ σ H Q, tO K mg W (cMake c n φ r) σ H Q → tAg K mg W r σ H fun vs H1 => ∀ x dx, H1 x = none → H1 dx = none → dx ≠ x → spM K mg n φ (.ref x :: vs) (upd (upd H1 dx (.own x)) x (.ins C dx [])) (fun v H2 => v = .non ∧ Q (.ref x) H2) (WE W σ) := fun σ H Q ⟨f, F, ρ, g, S, q⟩ =>
  ⟨f, F, ρ, g, S, (Fin.bind (R := fun F _ _ vs xs => AgR K mg F σ vs xs) q).mono fun vs H1 ⟨xs, ρ1, F1, g1, S1, s1, k1, q1⟩ => makeC_ok hC S1 k1 q1⟩
theorem run_makeQ {CX : CXT} {sp : Sp} {E : XK} {Q : VK} {us : List Value} {vs : List V} {pins : List (Addr × Obj)} {s : Shared} (M : Mk X.K C fA) (F : FnR X.prog X.w X.K X.mg X.base CX k fA sp) (hr : Room (k + 1) X.A) (hx : PassesAt CX X σ E) (I : Inv X pins σ H s) (rv : Vals vs us)
    (h : ∀ x dx, H x = Option.none → H dx = Option.none → dx ≠ x → sp (V.ref x :: vs) (upd (upd H dx (.own x)) x (.ins C dx [])) (fun v H2 => v = .non ∧ Q (.ref x) H2) E) :
    wpAny (model X.prog X.w) X.A (call (.ref C) us) (EP X pins σ Q) X.xe s := by
  have hq := h (s.heap.objs.size + 1) s.heap.objs.size (I.hok.fresh (Nat.le_succ _)) (I.hok.fresh (Nat.le_refl _)) (Nat.ne_of_lt (Nat.lt_succ_self _))
  have I2 := Inv.made (C := C) I
  have r2 : Vals (V.ref (s.heap.objs.size + 1) :: vs) (Value.ref (s.heap.objs.size + 1) :: us) := .cons rfl rv
  refine wpAny_call (make_map (f := fA) I.kIn M.makes M.init (beq_iff_eq.mp M.fn) (codeAny_mono (F _ X.stack _ _ (Value.ref (s.heap.objs.size + 1) :: us) _ _ E (hr.make C us []) (I2.env0.make C us []) r2 hq) fun r s' hq' => ?_))
  cases r with
  | error e => exact hx pins _ _ e s' I2 hq'
  | ok fl =>
    cases fl with
    | ret u =>
      obtain ⟨v, H', I3, rv, ev, q3⟩ := I2.after hq'
      subst ev
      exact ⟨rv, ⟨V.ref (s.heap.objs.size + 1), H', I3, rfl, q3⟩⟩
    | next => exact False.elim hq'
    | brk => exact False.elim hq'
    | cont => exact False.elim hq'
theorem pe_makeM {c : Str} (M : Mk X.K C fA) (F : FnQ X.prog X.w X.K X.mg X.base k fA n φ) (hr : Room (k + 1) X.A) (hg : Gl X c) (hm : X.mg c = some (.ref C)) (hx : PsM X W) (ha : PA X (e :: es) (tAg X.K X.mg W r)) (hdb : (c == ("__debug__" : Str)) = false := by decide)
    (he : starEach (e :: es) X.env = (false, eval e X.env) :: starEach es X.env := by rfl) (hpl : (backTo pos (starEach es X.env)).any (·.1) = false := by rfl) : PE X (.Call (.Name c p) (e :: es) [] pos) (tO X.K X.mg W (cMake c n φ r)) := by
  refine ⟨fun pins s σ H Q I h => ?_⟩
  refine wpAny_Call_Name_kw (ld_glob I hg hm ?_ hdb)
  refine PySem.W.callWith_K (h₀ := X.base) I.ok.mod.kin M.kp (thn (ha.run pos pins s σ H _ I (r_make hm σ H Q h)) fun us s1 ⟨vs, H1, I1, rv, q⟩ => ⟨I1.kIn, ?_⟩) he hpl
  exact run_makeQ M F hr (hx σ) I1 rv q
/-- with *y among the arguments, the first one plain -/
theorem pe_makeMS {c : Str} (M : Mk X.K C fA) (F : FnQ X.prog X.w X.K X.mg X.base k fA n φ) (hr : Room (k + 1) X.A) (hg : Gl X c) (hm : X.mg c = some (.ref C)) (hx : PsM X W) (ha : PA X (e :: es) (tAg X.K X.mg W r)) (hdb : (c == ("__debug__" : Str)) = false := by decide)
    (he : starEach (e :: es) X.env = (false, eval e X.env) :: starEach es X.env := by rfl) (hst : (backTo pos (starEach es X.env)).any (·.1) = true := by rfl) : PE X (.Call (.Name c p) (e :: es) [] pos) (tO X.K X.mg W (cMake c n φ r)) := by
  refine ⟨fun pins s σ H Q I h => ?_⟩
  refine wpAny_Call_Name_kw (ld_glob I hg hm ?_ hdb)
  refine PySem.W.callWith_S2 (h₀ := X.base) I.ok.mod.kin M.kp (thn (ha.run pos pins s σ H _ I (r_make hm σ H Q h)) fun us s1 ⟨vs, H1, I1, rv, q⟩ => ⟨I1.kIn, ?_⟩) he hst
  exact run_makeQ M F hr (hx σ) I1 rv q
end
end Md
namespace Er
open PySem PySem.Spec PyProof.Rows NdefX L2
/-! ### messages -/
/-- a value that may stand in a message -/
def ShoA (K : PySem.W.Frag) (H : Hp) (x : V) : Prop := Sho x ∨ ∃ p xs, x = .ref p ∧ SqT K H p xs ∧ xs.length ≤ 10 ∧ ∀ v ∈ xs, Sho v
def tFmtS (K : PySem.W.Frag) (te : TE) : TE := fun σ H Q => te σ H fun x H1 => ShoA K H1 x ∧ ∀ y : Str, y.length ≤ 100000 → Q (.str y) H1
theorem pe_fmtS {X : Cx} {e : Expr} {te : TE} {pos : Pos} (hu : X.A.units < cLine) (he : PE X e te) : PE X (.FormattedValue e 114 none pos) (tFmtS X.K te) := by
  refine ⟨fun pins s σ H Q I h => ?_⟩
  refine wpAny_FormattedValue_repr (thn (he.run pins s σ H _ I h) fun v s1 hv => ?_)
  obtain ⟨x, H1, I1, r1, hs, q⟩ := hv
  have sl : (100000 : Nat) ≤ sizeLine := by rw [sizeLine_eq]; omega
  rcases hs with (⟨y, rfl, hz, _⟩ | ⟨i, rfl, hz⟩) | ⟨p, xs, rfl, hp, hl, hx⟩
  · obtain ⟨t, rfl⟩ := r1
    have hz2 : (reprText y).length ≤ sizeLine := by omega
    exact pyReprObj_str (wpAny_formatField_str ⟨.str (reprText y), H1, I1.tok _, ⟨_, rfl⟩, q _ (by omega)⟩ ⟨.str (reprText y), H1, I1.tok _, ⟨_, rfl⟩, q _ (by omega)⟩ hz2) hz2
  · obtain ⟨t, rfl⟩ := r1
    have h3 := sho_len hz
    exact pyReprObj_int hz (wpAny_formatField_str ⟨.str (toString i), H1, I1.tok _, ⟨_, rfl⟩, q _ (by omega)⟩ ⟨.str (toString i), H1, I1.tok _, ⟨_, rfl⟩, q _ (by omega)⟩ (int_text_fits hz))
  · cases r1
    obtain ⟨its, rv, ⟨o, ho, hc, n, hd⟩, _⟩ := I1.tuple hp
    obtain ⟨ts, h1, h2⟩ := sho_all (P := X.prog) (w := X.w) rv hx
    have h3 := tupT_len ts
    refine ErrX.pyReprObj_tuple_any ⟨o, ho, hc⟩ hu ho hd h1 (fun y u tk hy => ?_) (by omega)
    exact wpAny_formatField_str ⟨.str y, H1, I1.tok _, ⟨_, rfl⟩, q y hy⟩ ⟨.str y, H1, I1.tok _, ⟨_, rfl⟩, q y hy⟩ (by omega)
/-- a part of a message: a short text, whatever it is -/
def GoodT (t : TE) (σ : L2.St) (H : Hp) : Prop := ∀ R : V → Hp → Prop, (∀ y : Str, y.length ≤ 100000 → R (.str y) H) → t σ H R
theorem good_str {x : Str} {σ : L2.St} {H : Hp} (h : x.length ≤ 100000) : GoodT (tC (.str x)) σ H := fun _ q => q x h
theorem good_fmt {K : PySem.W.Frag} {i : Nat} {v : V} {σ : L2.St} {H : Hp} (e : σ[i]? = some (some v)) (h : ShoA K H v) : GoodT (tFmtS K (tVar i)) σ H := fun _ q => ⟨v, e, h, q⟩
theorem msg_ok {σ : L2.St} {H : Hp} {R : Str → Hp → Prop} (q : ∀ x, R x H) : ∀ (ts : List TE) (acc : Str), (∀ t ∈ ts, GoodT t σ H) → acc.length + 100000 * ts.length ≤ sizeLine → tJs ts acc σ H R
  | [], acc, _, _ => q acc
  | t :: ts, acc, h, hl => by
    refine h t List.mem_cons_self _ fun y hy => ⟨y, rfl, ?_, ?_⟩
    · rw [List.length_cons] at hl
      rw [strLen_append]
      omega
    · refine msg_ok q ts _ (fun u hu => h u (List.mem_cons_of_mem _ hu)) ?_
      rw [List.length_cons] at hl
      rw [strLen_append]
      omega
/-! ### the promise of such an __init__ -/
/-- an exception of the class C with these fields (the last stored first) -/
def ExcAt (H0 H : Hp) (e C : Addr) (fs : List (Str × V)) : Prop := (fs = [] ∧ H e = some (exo e C none)) ∨ fs ≠ [] ∧ ∃ d, H0 d = none ∧ H e = some (exo e C (some d)) ∧ H d = some (exd d fs)
def spInit (K : PySem.W.Frag) (C : Addr) (fn : List Str) : Sp := fun vs H Q _ => ∃ (a : Addr) (ws : List V), vs = .ref a :: ws ∧ ws.length = fn.length ∧ H a = some (exo a C none) ∧ (∀ v ∈ ws, ShoA K H v) ∧
  ∀ H', (∀ b o, H b = some o → b ≠ a → H' b = some o) → ExcAt H H' a C (fn.zip ws).reverse → Q .non H'
theorem exo_ne_tup {H : Hp} {a C : Addr} {p : Addr} {xs : List V} (h : H a = some (exo a C none)) (hp : H p = some (.tup xs)) : p ≠ a := at_ne h hp exo_tup
section
variable {P : Program} {w : World} {K : PySem.W.Frag} {mg : Str → Option Value} {base : Heap} {C fI cc cda : Addr} {qual : Str} {params : Arguments} {scope : Scope} {e : Expr} {p0 p1 p2 p3 p4 q1 q2 q3 q4 r1 r2 r3 r4 : Pos} {ar : Arg} {f1 f2 : Str}
abbrev supC (e : Expr) (p0 p1 p2 p3 p4 : Pos) : Stmt := .Expr (.Call (.Attribute (.Call (.Name "super" p0) [] [] p1) "__init__" p2) [e] [] p3) p4
abbrev stoC (f : Str) (q1 q2 q3 q4 : Pos) : Stmt := .Assign [.Attribute (.Name "self" q1) f q2] (.Name f q3) q4
/-- what is asked of the message, in the frame of the __init__ -/
def MsgOk (P : Program) (w : World) (K : PySem.W.Frag) (mg : Str → Option Value) (base : Heap) (N : List Str) (F : NF) (fI : Addr) (e : Expr) (n : Nat) : Prop :=
  ∀ (A : Around) (outer : List Env) (s : Shared) (H : Hp) (E : XK), A.units + 200 < cLine → ∃ te, PE (ncx CX0 P w K mg base N F fI A outer s H E) e te ∧ ∀ (σ : L2.St) (H' : Hp) (R : V → Hp → Prop), (∀ i, 1 ≤ i → i ≤ n → ∃ v, σ[i]? = some (some v) ∧ ShoA K H' v) → (∀ x, R (.str x) H') → te σ H' R
theorem init1 (T : SupC P K mg C fI cc cda qual params [supC e p0 p1 p2 p3 p4, stoC f1 q1 q2 q3 q4] scope) (S : NScope ["self", f1, "__class__"] ["self", f1] ["__class__"] scope)
    (har : ar.arg = "self") (hpar : (params.posonlyargs ++ params.args).head? = some ar) (hks : scope.names.lookup ("super" : Str) = some NameKind.globalImplicit)
    (hbind : ∀ (nm : Str) (kV doc pm ct : Value) (an : Option Addr) (us : List Value), us.length = 2 → bindArgs (PySem.W.fnX nm qual params [supC e p0 p1 p2 p3 p4, stoC f1 q1 q2 q3 q4] scope [("__class__", cc)] .none kV doc pm an (.ref cda) ct) ⟨us, []⟩ = pure ([("self" : Str), f1].zip us))
    {pl : Env → Sem Bool} (hev : ∀ env : Env, eval (.Call (.Attribute (.Call (.Name "super" p0) [] [] p1) "__init__" p2) [e] [] p3) env = (do
      let ov ← attributeBase (.Call (.Name "super" p0) [] [] p1) "__init__" env (eval (.Call (.Name "super" p0) [] [] p1) env)
      standAt p2.atName
      let (f, first) ← holding [ov] (getMethod ov "__init__" (pl env))
      callWith p3 f first (backTo p3 (starEach [e] env)) []))
    (hse : ∀ env : Env, starEach [e] env = (false, eval e env) :: starEach [] env)
    (hm : MsgOk P w K mg base ["self", f1, "__class__"] ⟨"__init__", qual, params, [stoC f1 q1 q2 q3 q4], scope, [("__class__", cc)], cda⟩ fI e 1)
    (hf : (f1 == ("__debug__" : Str)) = false) (hf2 : (f1 == ("__classdict__" : Str)) = false) (hno : PySem.W.findIn K (.ref C) f1 = some none) :
    ∃ fd, FnOk P w K mg base CX0 1 fI fd ["self", f1] (spInit K C [f1]) ∧ Binds K fd ["self", f1] [] := by
  refine sup_ok (k := 0) (N := ["self", f1, "__class__"]) T S (by rw [har]; rfl) hpar hks (fun nm kV doc pm ct an us hl => hbind nm kV doc pm ct an us hl) hev hse (fun vs H Q E h => ?_) (fun A outer s H vs Q E hr h => ?_)
  · obtain ⟨a, ws, rfl, hl, _⟩ := h
    show ws.length + 1 = 2
    rw [hl]
    rfl
  · obtain ⟨a, ws, rfl, hl, ha, hs, q⟩ := h
    obtain ⟨v, rfl⟩ : ∃ v, ws = [v] := by
      cases ws with
      | nil => cases hl
      | cons v r =>
        cases r with
        | nil => exact ⟨v, rfl⟩
        | cons _ _ => cases hl
    obtain ⟨te, hte, hq⟩ := hm A outer s H E (by have := hr.un; show A.units + 200 < cLine; have z : (A.deeper (envF ⟨"__init__", qual, params, [stoC f1 q1 q2 q3 q4], scope, [("__class__", cc)], cda⟩ fI s.heap.objs.size)).units = A.units + 3 := rfl; omega)
    refine ⟨a, [v], te, _, rfl, ha, hte, pss_one (ps_ost (pv 0 (hv := .inl (S.par _ List.mem_cons_self))) (pe_var (i := 1) rfl (.inl (S.par _ (List.mem_cons_of_mem _ List.mem_cons_self))) hf hf2) rfl), ?_⟩
    refine hq _ _ _ (fun i h1 h2 => ?_) fun x => ⟨ha, ?_⟩
    · have e1 : i = 1 := by omega
      subst e1
      exact ⟨v, rfl, hs v List.mem_cons_self⟩
    · refine ⟨v, rfl, .ref a, rfl, a, C, rfl, T.ox, hno, .inl ⟨ha, fun dx nd ne => ?_⟩⟩
      refine q _ (fun b o hb hne => ?_) (.inr ⟨(fun z => nomatch (show [(f1, v)] = [] from z)), dx, nd, upd_same, ?_⟩)
      · rw [upd_ne hne, upd_ne (ne_of_none hb nd)]
        exact hb
      · rw [upd_ne ne, upd_same]
        rfl
theorem init2 (T : SupC P K mg C fI cc cda qual params [supC e p0 p1 p2 p3 p4, stoC f1 q1 q2 q3 q4, stoC f2 r1 r2 r3 r4] scope) (S : NScope ["self", f1, f2, "__class__"] ["self", f1, f2] ["__class__"] scope)
    (har : ar.arg = "self") (hpar : (params.posonlyargs ++ params.args).head? = some ar) (hks : scope.names.lookup ("super" : Str) = some NameKind.globalImplicit)
    (hbind : ∀ (nm : Str) (kV doc pm ct : Value) (an : Option Addr) (us : List Value), us.length = 3 → bindArgs (PySem.W.fnX nm qual params [supC e p0 p1 p2 p3 p4, stoC f1 q1 q2 q3 q4, stoC f2 r1 r2 r3 r4] scope [("__class__", cc)] .none kV doc pm an (.ref cda) ct) ⟨us, []⟩ = pure ([("self" : Str), f1, f2].zip us))
    {pl : Env → Sem Bool} (hev : ∀ env : Env, eval (.Call (.Attribute (.Call (.Name "super" p0) [] [] p1) "__init__" p2) [e] [] p3) env = (do
      let ov ← attributeBase (.Call (.Name "super" p0) [] [] p1) "__init__" env (eval (.Call (.Name "super" p0) [] [] p1) env)
      standAt p2.atName
      let (f, first) ← holding [ov] (getMethod ov "__init__" (pl env))
      callWith p3 f first (backTo p3 (starEach [e] env)) []))
    (hse : ∀ env : Env, starEach [e] env = (false, eval e env) :: starEach [] env)
    (hm : MsgOk P w K mg base ["self", f1, f2, "__class__"] ⟨"__init__", qual, params, [stoC f1 q1 q2 q3 q4, stoC f2 r1 r2 r3 r4], scope, [("__class__", cc)], cda⟩ fI e 2)
    (hf : (f1 == ("__debug__" : Str)) = false) (hf2 : (f1 == ("__classdict__" : Str)) = false) (hno : PySem.W.findIn K (.ref C) f1 = some none) (hg : (f2 == ("__debug__" : Str)) = false) (hg2 : (f2 == ("__classdict__" : Str)) = false) (hno2 : PySem.W.findIn K (.ref C) f2 = some none) :
    ∃ fd, FnOk P w K mg base CX0 1 fI fd ["self", f1, f2] (spInit K C [f1, f2]) ∧ Binds K fd ["self", f1, f2] [] := by
  refine sup_ok (k := 0) (N := ["self", f1, f2, "__class__"]) T S (by rw [har]; rfl) hpar hks (fun nm kV doc pm ct an us hl => hbind nm kV doc pm ct an us hl) hev hse (fun vs H Q E h => ?_) (fun A outer s H vs Q E hr h => ?_)
  · obtain ⟨a, ws, rfl, hl, _⟩ := h
    show ws.length + 1 = 3
    rw [hl]
    rfl
  · obtain ⟨a, ws, rfl, hl, ha, hs, q⟩ := h
    obtain ⟨v, v2, rfl⟩ : ∃ v v2, ws = [v, v2] := by
      cases ws with
      | nil => cases hl
      | cons v r =>
        cases r with
        | nil => cases hl
        | cons v2 r =>
          cases r with
          | nil => exact ⟨v, v2, rfl⟩
          | cons _ _ => cases hl
    obtain ⟨te, hte, hq⟩ := hm A outer s H E (by have := hr.un; show A.units + 200 < cLine; have z : (A.deeper (envF ⟨"__init__", qual, params, [stoC f1 q1 q2 q3 q4, stoC f2 r1 r2 r3 r4], scope, [("__class__", cc)], cda⟩ fI s.heap.objs.size)).units = A.units + 3 := rfl; omega)
    refine ⟨a, [v, v2], te, _, rfl, ha, hte, pss_cons (ps_ost (pv 0 (hv := .inl (S.par _ List.mem_cons_self))) (pe_var (i := 1) rfl (.inl (S.par _ (List.mem_cons_of_mem _ List.mem_cons_self))) hf hf2) rfl)
      (pss_one (ps_ost (pv 0 (hv := .inl (S.par _ List.mem_cons_self))) (pe_var (i := 2) rfl (.inl (S.par _ (List.mem_cons_of_mem _ (List.mem_cons_of_mem _ List.mem_cons_self)))) hg hg2) rfl)), ?_⟩
    refine hq _ _ _ (fun i h1 h2 => ?_) fun x => ⟨ha, ?_⟩
    · have e1 : i = 1 ∨ i = 2 := by omega
      rcases e1 with rfl | rfl
      · exact ⟨v, rfl, hs v List.mem_cons_self⟩
      · exact ⟨v2, rfl, hs v2 (List.mem_cons_of_mem _ List.mem_cons_self)⟩
    · refine ⟨v, rfl, .ref a, rfl, a, C, rfl, T.ox, hno, .inl ⟨ha, fun dx nd ne => ?_⟩⟩
      refine ⟨v2, rfl, .ref a, rfl, a, C, rfl, T.ox, hno2, .inr ⟨dx, [(f1, v)], upd_same, by rw [upd_ne ne, upd_same], (by show 1 ≤ 900; decide), ?_⟩⟩
      refine q _ (fun b o hb hne => ?_) (.inr ⟨(fun z => nomatch (show [(f2, v2), (f1, v)] = [] from z)), dx, nd, ?_, upd_same⟩)
      · rw [upd_ne (ne_of_none hb nd), upd_ne hne, upd_ne (ne_of_none hb nd)]
        exact hb
      · rw [upd_ne ne.symm, upd_same]
theorem init0 (T : SupC P K mg C fI cc cda qual params [supC e p0 p1 p2 p3 p4] scope) (S : NScope ["self", "__class__"] ["self"] ["__class__"] scope)
    (har : ar.arg = "self") (hpar : (params.posonlyargs ++ params.args).head? = some ar) (hks : scope.names.lookup ("super" : Str) = some NameKind.globalImplicit)
    (hbind : ∀ (nm : Str) (kV doc pm ct : Value) (an : Option Addr) (us : List Value), us.length = 1 → bindArgs (PySem.W.fnX nm qual params [supC e p0 p1 p2 p3 p4] scope [("__class__", cc)] .none kV doc pm an (.ref cda) ct) ⟨us, []⟩ = pure ([("self" : Str)].zip us))
    {pl : Env → Sem Bool} (hev : ∀ env : Env, eval (.Call (.Attribute (.Call (.Name "super" p0) [] [] p1) "__init__" p2) [e] [] p3) env = (do
      let ov ← attributeBase (.Call (.Name "super" p0) [] [] p1) "__init__" env (eval (.Call (.Name "super" p0) [] [] p1) env)
      standAt p2.atName
      let (f, first) ← holding [ov] (getMethod ov "__init__" (pl env))
      callWith p3 f first (backTo p3 (starEach [e] env)) []))
    (hse : ∀ env : Env, starEach [e] env = (false, eval e env) :: starEach [] env)
    (hm : MsgOk P w K mg base ["self", "__class__"] ⟨"__init__", qual, params, [], scope, [("__class__", cc)], cda⟩ fI e 0) :
    ∃ fd, FnOk P w K mg base CX0 1 fI fd ["self"] (spInit K C []) ∧ Binds K fd ["self"] [] := by
  refine sup_ok (k := 0) (N := ["self", "__class__"]) T S (by rw [har]; rfl) hpar hks (fun nm kV doc pm ct an us hl => hbind nm kV doc pm ct an us hl) hev hse (fun vs H Q E h => ?_) (fun A outer s H vs Q E hr h => ?_)
  · obtain ⟨a, ws, rfl, hl, _⟩ := h
    show ws.length + 1 = 1
    rw [hl]
    rfl
  · obtain ⟨a, ws, rfl, hl, ha, hs, q⟩ := h
    obtain rfl : ws = [] := by
      cases ws with
      | nil => rfl
      | cons v r => cases hl
    obtain ⟨te, hte, hq⟩ := hm A outer s H E (by have := hr.un; show A.units + 200 < cLine; have z : (A.deeper (envF ⟨"__init__", qual, params, [], scope, [("__class__", cc)], cda⟩ fI s.heap.objs.size)).units = A.units + 3 := rfl; omega)
    refine ⟨a, [], te, _, rfl, ha, hte, pss_nil, ?_⟩
    exact hq _ _ _ (fun i h1 h2 => absurd h1 (by omega)) fun x => ⟨ha, q _ (fun b o hb _ => hb) (.inl ⟨rfl, ha⟩)⟩
end
end Er
/-! Md13: errors of one's own, raised. -/
namespace Md
open PySem PySem.Spec PyProof.Rows L2
variable {K : PySem.W.Frag} {mg : Str → Option Value} {F F' H H' : Hp} {f : Fm} {σ : L2.St} {ρ : Sto} {g : Addr → Option Ow} {W : WX} {X : Cx} {Dn : Ends}
/-- an own error's class, raised and caught -/
structure ErC (P : Program) (w : World) (K : PySem.W.Frag) (mg : Str → Option Value) (base : Heap) (x : Str) (C : Addr) (fn : List Str) : Prop where
  g : mg x = some (.ref C)
  ox : OexC K C
  ok : ∃ (fI : Addr) (fd : FuncData) (ps : List Str), PySem.W.findIn K (.ref C) "__init__" = some (some (.ref fI)) ∧ PySem.W.typeIn K (.ref fI) = some (.type "function") ∧ FnOk P w K mg base CX0 1 fI fd ps (Er.spInit K C fn) ∧ Binds K fd ps []
  xf : XfC K C
  no : ∀ f ∈ fn, PySem.W.findIn K (.ref C) f = some none
  ec : ExcC K C
def sho1 : D → Bool
  | .str y => decide ((reprText y).length ≤ 1000) && decide (y.length ≤ 1000)
  | .int i => decide (i.natAbs.log2 < 1920)
  | _ => false
def shoD : D → Bool
  | .tuple ds => decide (ds.length ≤ 10) && ds.all sho1
  | d => sho1 d
theorem sho1_of {v : V} {d : D} (h : Vr K mg F v d) (e : sho1 d = true) : Sho v := by
  cases h <;> first | (cases e; done) | skip
  · rename_i i
    exact .inr ⟨i, rfl, of_decide_eq_true e⟩
  · rename_i y
    have e : (decide ((reprText y).length ≤ 1000) && decide (y.length ≤ 1000)) = true := e
    rw [Bool.and_eq_true] at e
    exact .inl ⟨y, rfl, of_decide_eq_true e.1, of_decide_eq_true e.2⟩
theorem sho1_all : ∀ {ds : List D} {vs : List V}, VrA K mg F vs ds → ds.all sho1 = true → ∀ v ∈ vs, Sho v
  | [], _, h, _, v, m => by cases h; cases m
  | d :: ds, _, h, e, v, m => by
    have e : (sho1 d && ds.all sho1) = true := e
    rw [Bool.and_eq_true] at e
    cases h with
    | cons h1 h2 =>
      rcases List.mem_cons.mp m with z | z
      · rw [z]
        exact sho1_of h1 e.1
      · exact sho1_all h2 e.2 v z
theorem shoD_of (s : Same F H) {v : V} {d : D} (h : Vr K mg F v d) (e : shoD d = true) : Er.ShoA K H v := by
  cases d with
  | tuple ds =>
    have e : (decide (ds.length ≤ 10) && ds.all sho1) = true := e
    rw [Bool.and_eq_true] at e
    cases h with
    | @tu a xs _ h1 h2 => exact .inr ⟨a, xs, rfl, Same.sqT s h1, by rw [h2.len]; exact of_decide_eq_true e.1, sho1_all h2 e.2⟩
  | _ => exact .inl (sho1_of h e)
theorem shoD_all (s : Same F H) : ∀ {ds : List D} {vs : List V}, VrA K mg F vs ds → ds.all shoD = true → ∀ v ∈ vs, Er.ShoA K H v
  | [], _, h, _, v, m => by cases h; cases m
  | d :: ds, _, h, e, v, m => by
    have e : (shoD d && ds.all shoD) = true := e
    rw [Bool.and_eq_true] at e
    cases h with
    | cons h1 h2 =>
      rcases List.mem_cons.mp m with z | z
      · rw [z]
        exact shoD_of s h1 e.1
      · exact shoD_all s h2 e.2 v z
def mkFs : List Str → List D → List (D × D)
  | f :: fs, d :: ds => (.str f, d) :: mkFs fs ds
  | _, _ => []
theorem VrF.zip : ∀ {fn : List Str} {ds : List D} {vs : List V}, VrA K mg F vs ds → VrF K mg F (fn.zip vs) (mkFs fn ds)
  | [], _, _, _ => by
    show VrF K mg F (List.zip [] _) (mkFs [] _)
    rw [List.zip_nil_left]
    exact .nil
  | f :: fn, [], _, h => by cases h; exact .nil
  | f :: fn, d :: ds, _, h => by
    cases h with
    | cons h1 h2 => exact .cons h1 (VrF.zip h2)
theorem VrF.app : ∀ {fs gs : List (D × D)} {vs us : List (Str × V)}, VrF K mg F vs fs → VrF K mg F us gs → VrF K mg F (vs ++ us) (fs ++ gs)
  | [], _, _, _, h, k => by cases h; exact k
  | p :: fs, _, _, _, h, k => by
    cases h with
    | cons h1 h2 => exact .cons h1 (VrF.app h2 k)
theorem VrF.rev : ∀ {fs : List (D × D)} {vs : List (Str × V)}, VrF K mg F vs fs → VrF K mg F vs.reverse fs.reverse
  | [], _, h => by cases h; exact .nil
  | p :: fs, _, h => by
    cases h with
    | cons h1 h2 =>
      rw [List.reverse_cons, List.reverse_cons]
      exact VrF.app (VrF.rev h2) (.cons h1 .nil)
def cRaise (c : Str) (fn : List Str) (r : Co (List D)) : Co Fl := fun ρ => (r ρ).bind fun ds ρ1 => if ds.length = fn.length ∧ ds.all shoD = true then .er ⟨c, (mkFs fn ds).reverse⟩ ρ1 else .st
theorem ne_of_same {a b : Addr} {o : HO} (h : H a = some o) (n : H b = none) : a ≠ b := fun z => by rw [z, n] at h; cases h
section
variable {e : Expr} {es : List Expr} {r : Co (List D)} {pos p pos' : Pos} {c : Str} {C : Addr} {fn : List Str}
theorem ps_raiseM (B : ErC X.prog X.w X.K X.mg X.base c C fn) (hfn : 0 < fn.length ∧ fn.length ≤ 100) (hc : X.calm = true) (tk : Takes X W) (hr : Room 2 X.A) (hg : Gl X c) (ha : PA X (e :: es) (tAs X.K X.mg W r)) (hdb : (c == ("__debug__" : Str)) = false := by decide)
    (he : starEach (e :: es) X.env = (false, eval e X.env) :: starEach es X.env := by rfl) (hpl : (backTo pos (starEach es X.env)).any (·.1) = false := by rfl) : PS X (.Raise (some (.Call (.Name c p) (e :: es) [] pos)) none pos') (tS X.K X.mg W (cRaise c fn r)) := by
  obtain ⟨fI, fd, ps, iC, tI, FB, bB⟩ := B.ok
  refine PS.imp (ps_raise hc tk (pmk_oex B.ox iC tI FB hr bB .nil pass0 hg B.g ha hdb he hpl)) fun Dn σ H ⟨f, F, ρ, g, S, q⟩ => ⟨f, F, ρ, g, S, (FinS.bindE (R := rA X.K X.mg) q).mono fun vs H1 ⟨ds, ρ1, F1, g1, S1, s1, k1, q1⟩ => ?_⟩
  by_cases hl : ds.length = fn.length ∧ ds.all shoD = true
  · have q1 : FinS X.K X.mg f W (if ds.length = fn.length ∧ ds.all shoD = true then .er ⟨c, (mkFs fn ds).reverse⟩ ρ1 else .st) F1 Dn := q1
    rw [if_pos hl] at q1
    have lv : vs.length = fn.length := by rw [k1.len]; exact hl.1
    refine ⟨by omega, fun a na => ⟨a, vs, by rw [List.append_nil], lv, upd_same, fun v hv => ?_, fun H2 k2 ex2 => ⟨rfl, ?_⟩⟩⟩
    · have := shoD_all (H := H1) S1.sub k1 hl.2 v hv
      rcases this with z | ⟨p, xs, z1, z2, z3⟩
      · exact .inl z
      · exact .inr ⟨p, xs, z1, Same.sqT (same_upd na) z2, z3⟩
    · rcases ex2 with ⟨z, _⟩ | ⟨_, d, nd, e1, e2⟩
      · have z : (fn.zip vs).reverse = [] := z
        have := congrArg List.length z
        rw [List.length_reverse, List.length_zip] at this
        have h0 : ([] : List (Str × V)).length = 0 := rfl
        omega
      · have nda : d ≠ a := fun z => by
          rw [z, upd_same] at nd
          cases nd
        rw [upd_ne nda] at nd
        refine ⟨d, _, e1, e2, nd, ?_⟩
        have Fd : F1 d = none := S1.sub.free nd
        have keep : Same H1 (upd (del H2 a) d (.xd (fn.zip vs).reverse)) := fun b o e => by
          have hb : b ≠ a := ne_of_same e na
          have hb2 : b ≠ d := ne_of_same e nd
          rw [upd_ne hb2, del_ne hb]
          exact k2 b o (by rw [upd_ne hb]; exact e) hb
        have S2 : SR X.K X.mg f (upd F1 d (.xd (fn.zip vs).reverse)) (upd (del H2 a) d (.xd (fn.zip vs).reverse)) σ ρ1 g1 := S1.grow (same_upd Fd) (fun b o e => by
          by_cases hb : b = d
          · rw [hb, upd_same] at e ⊢
            exact e
          · rw [upd_ne hb] at e
            exact keep _ _ (S1.sub _ _ e)) keep (new_upd nd)
        exact q1 (.ref C) (some d) σ _ _ g1 S2 (same_upd Fd) (.fld B.g upd_same (VrF.rev (VrF.zip (VrA.same (same_upd Fd) _ k1))))
  · have q1 : FinS X.K X.mg f W (if ds.length = fn.length ∧ ds.all shoD = true then .er ⟨c, (mkFs fn ds).reverse⟩ ρ1 else .st) F1 Dn := q1
    rw [if_neg hl] at q1
    exact q1.elim
end
end Md
/-! Md14: tests, names of the module, defs by name. -/
namespace Md
open PySem PySem.Spec PyProof.Rows L2
variable {K : PySem.W.Frag} {mg : Str → Option Value} {F F' H H' : Hp} {f : Fm} {σ : L2.St} {ρ : Sto} {g : Addr → Option Ow} {W : WX} {X : Cx} {Dn : Ends}
def boolD : Rv → Option Bool
  | .sh (.bool k) => some k
  | _ => none
def cTst (c : Co Rv) : Co Bool := cO c boolD
theorem r_tst {c : Co Rv} {t : TE} (h : ∀ σ H Q, tO K mg W c σ H Q → t σ H Q) : ∀ σ H Q, tT K mg W (cTst c) σ H Q → tTest t σ H Q := fun σ H Q ⟨f, F, ρ, g, S, q⟩ =>
  h σ H _ ⟨f, F, ρ, g, S, (Fin.bind (R := rO K mg) q).mono fun v H1 ⟨x, ρ1, F1, g1, S1, s1, k1, q1⟩ => by
    cases k1 with
    | ow k => exact q1.elim
    | sh k =>
      cases k with
      | bo b => exact ⟨b, rfl, q1 b F1 H1 g1 S1 (Same.refl F1) rfl⟩
      | _ => exact q1.elim⟩
section
variable {a b d e : Expr} {ca cb cd : Co D} {pos p : Pos} {c c' : Cm} {rest : List Expr} {k : Nat} {ta tb : Co Bool}
theorem r_cm (c : Cm) : ∀ σ H Q, tO K mg W (cCm c ca cb) σ H Q → tOp (rCm K c) (tE K mg W ca) (tE K mg W cb) σ H Q := fun σ H Q ⟨f, F, ρ, g, S, q⟩ => ⟨f, F, ρ, g, S, (Fin.bind (R := rD K mg) q).mono fun v H1 ⟨x, ρ1, F1, g1, S1, s1, k1, q1⟩ => ⟨f, F1, ρ1, g1, S1, (Fin.bind (R := rD K mg) q1).mono fun w H2 ⟨y, ρ2, F2, g2, S2, s2, k2, q2⟩ => by
    have q2 : Fin K mg f σ W (rO K mg) (optO ((cmp2 c x y).map fun k => .sh (.bool k)) ρ2) F2 Q := q2
    cases hz : cmp2 c x y with
    | none => rw [hz] at q2; exact q2.elim
    | some k =>
      rw [hz] at q2
      exact cm_real S2 (k1.same s2) k2 hz (fin_sh S2 q2 (.bo _))⟩⟩
theorem pt_cmM (hu : X.A.units + 65 < cLine) (c : Cm) (ha : PE X a (tE X.K X.mg W ca)) (hb : PE X b (tE X.K X.mg W cb)) (hm : behindInMarks (cmOf c) b = false) : PT X (.Compare a [cmOf c] [b] pos) (tT X.K X.mg W (cTst (cCm c ca cb))) :=
  PT.imp (pt_cmpR (op_cm hu c) ha hb hm) (r_tst (r_cm c))
theorem r_ch (c c' : Cm) : ∀ σ H Q, tO K mg W (cChn c c' ca cb cd) σ H Q → tChain (rCm K c) (rCm K c') (tE K mg W ca) (tE K mg W cb) (tE K mg W cd) σ H Q := fun σ H Q ⟨f, F, ρ, g, S, q⟩ => ⟨f, F, ρ, g, S, (Fin.bind (R := rD K mg) q).mono fun v H1 ⟨x, ρ1, F1, g1, S1, s1, k1, q1⟩ => ⟨f, F1, ρ1, g1, S1, (Fin.bind (R := rD K mg) q1).mono fun w H2 ⟨y, ρ2, F2, g2, S2, s2, k2, q2⟩ => by
    have q2 : Fin K mg f σ W (rO K mg) (match cmp2 c x y with | some true => ((cd ρ2).bind fun z ρ3 => match cmp2 c' y z with | some k => .ok (.sh (.bool k)) ρ3 | none => .st) | some false => .ok (.sh (.bool false)) ρ2 | none => .st) F2 Q := q2
    cases hz : cmp2 c x y with
    | none => rw [hz] at q2; exact q2.elim
    | some k =>
      rw [hz] at q2
      refine cm_real S2 (k1.same s2) k2 hz ⟨k, rfl, ?_⟩
      cases k with
      | false => exact fin_sh S2 q2 (.bo _)
      | true => exact ⟨f, F2, ρ2, g2, S2, (Fin.bind (R := rD K mg) q2).mono fun u H3 ⟨z, ρ3, F3, g3, S3, s3, k3, q3⟩ => by
          cases hy : cmp2 c' y z with
          | none => rw [hy] at q3; exact q3.elim
          | some k' =>
            rw [hy] at q3
            exact cm_real S3 (k2.same s3) k3 hy (fin_sh S3 q3 (.bo _))⟩⟩⟩
theorem pt_chM (hu : X.A.units + 65 < cLine) (c c' : Cm) (ha : PE X a (tE X.K X.mg W ca)) (hb : PE X b (tE X.K X.mg W cb)) (hd : PE X d (tE X.K X.mg W cd)) (hm : lastMarks [cmOf c, cmOf c'] [b, d] = false) : PT X (.Compare a [cmOf c, cmOf c'] [b, d] pos) (tT X.K X.mg W (cTst (cChn c c' ca cb cd))) :=
  PT.imp (pt_chain (op_cm hu c) (op_cm hu c') ha hb hd hm) (r_tst (r_ch c c'))
theorem r_isN : ∀ σ H Q, tO K mg W (cIsN false ca) σ H Q → tOp (fun x y H Q => y = .non ∧ Q (.bl (decide (x = .non))) H) (tE K mg W ca) (tC .non) σ H Q := fun σ H Q ⟨f, F, ρ, g, S, q⟩ => ⟨f, F, ρ, g, S, (Fin.bind (R := rD K mg) q).mono fun v H1 ⟨x, ρ1, F1, g1, S1, s1, k1, q1⟩ => by
    refine ⟨rfl, ?_⟩
    rw [isNone_of k1]
    exact fin_sh S1 q1 (.bo _)⟩
theorem r_notN : ∀ σ H Q, tO K mg W (cIsN true ca) σ H Q → tOp (fun x y H Q => y = .non ∧ Q (.bl (!decide (x = .non))) H) (tE K mg W ca) (tC .non) σ H Q := fun σ H Q ⟨f, F, ρ, g, S, q⟩ => ⟨f, F, ρ, g, S, (Fin.bind (R := rD K mg) q).mono fun v H1 ⟨x, ρ1, F1, g1, S1, s1, k1, q1⟩ => by
    refine ⟨rfl, ?_⟩
    rw [isNone_of k1]
    exact fin_sh S1 q1 (.bo _)⟩
theorem pt_isN (ha : PE X a (tE X.K X.mg W ca)) : PT X (.Compare a [.Is] [.Constant .none k p] pos) (tT X.K X.mg W (cTst (cIsN false ca))) := PT.imp (pt_cmpR op_isN ha pe_non (nomark _)) (r_tst r_isN)
theorem pt_notN (ha : PE X a (tE X.K X.mg W ca)) : PT X (.Compare a [.IsNot] [.Constant .none k p] pos) (tT X.K X.mg W (cTst (cIsN true ca))) := PT.imp (pt_cmpR op_notN ha pe_non (nomark _)) (r_tst r_notN)
theorem pw_andM (ha : PT X a (tT X.K X.mg W ta)) (hb : PW X (.BoolOp .And (b :: rest) pos) (tT X.K X.mg W tb)) : PW X (.BoolOp .And (a :: b :: rest) pos) (tT X.K X.mg W (cAndT ta tb)) := PW.imp (pw_and ha hb) pt_andM
theorem pw_orM (ha : PT X a (tT X.K X.mg W ta)) (hb : PW X (.BoolOp .Or (b :: rest) pos) (tT X.K X.mg W tb)) : PW X (.BoolOp .Or (a :: b :: rest) pos) (tT X.K X.mg W (cOrT ta tb)) := PW.imp (pw_or ha hb) pt_orM
theorem pt_notTM (ha : PT X a (tT X.K X.mg W ta)) : PT X (.UnaryOp .Not a pos) (tT X.K X.mg W (cNotT ta)) := PT.imp (pt_not ha) pt_notM
theorem pe_andM (ha : PE X a (tE X.K X.mg W ca)) (hb : PE X (.BoolOp .And (b :: rest) pos) (tE X.K X.mg W cb)) : PE X (.BoolOp .And (a :: b :: rest) pos) (tO X.K X.mg W (cSh (cAnd ca cb))) := PE.imp (pe_andT ha hb) r_and
theorem pe_orM (ha : PE X a (tE X.K X.mg W ca)) (hb : PE X (.BoolOp .Or (b :: rest) pos) (tE X.K X.mg W cb)) : PE X (.BoolOp .Or (a :: b :: rest) pos) (tO X.K X.mg W (cSh (cOr ca cb))) := PE.imp (pe_orT ha hb) r_or
theorem pe_notM (ha : PE X a (tE X.K X.mg W ca)) : PE X (.UnaryOp .Not a pos) (tO X.K X.mg W (cO ca fun x => (tru x).map fun k => .sh (.bool (!k)))) := PE.imp (pe_notT ha) r_not
theorem pe_ifeM (hc : PT X d (tT X.K X.mg W ta)) (ha : PE X a (tE X.K X.mg W ca)) (hb : PE X b (tE X.K X.mg W cb)) : PE X (.IfExp d a b pos) (tO X.K X.mg W (cSh (cIf ta ca cb))) := PE.imp (pe_ifExp hc ha hb) r_ife
theorem pe_negM (ha : PE X a (tE X.K X.mg W ca)) : PE X (.UnaryOp .USub a pos) (tO X.K X.mg W (cO ca fun x => match x with | .int i => some (.sh (.int (-i))) | _ => none)) := PE.imp (pe_un un_neg ha) (real1 neg_real)
/-! ### names of the module -/
/-- what a name of the module stands for, whatever the heap -/
structure GlbD (K : PySem.W.Frag) (mg : Str → Option Value) (x : Str) (d : D) : Prop where
  at_ : ∃ u v, mg x = some u ∧ RelV v u ∧ ∀ F, Vr K mg F v d
def cD (d : D) : Co Rv := fun ρ => .ok (.sh d) ρ
theorem pe_glbM {x : Str} {d : D} (G : GlbD X.K X.mg x d) (hg : Gl X x) (hd : (x == ("__debug__" : Str)) = false := by decide) : PE X (.Name x pos) (tO X.K X.mg W (cD d)) := by
  obtain ⟨u, v, h1, h2, h3⟩ := G.at_
  exact PE.imp (pe_glob hg h1 h2 hd) (r_cst h3)
theorem pe_intM {i : Int} {k : Nat} : PE X (.Constant (.int i) k pos) (tO X.K X.mg W (cD (.int i))) := PE.imp pe_int (r_cst fun _ => .num _)
theorem pe_strM {x : Str} {k : Nat} : PE X (.Constant (.str x) k pos) (tO X.K X.mg W (cD (.str x))) := PE.imp pe_str (r_cst fun _ => .txt _)
theorem pe_blM {x : Bool} {k : Nat} : PE X (.Constant (.bool x) k pos) (tO X.K X.mg W (cD (.bool x))) := PE.imp pe_bl (r_cst fun _ => .bo _)
theorem pe_nonM {k : Nat} : PE X (.Constant .none k pos) (tO X.K X.mg W (cD .none)) := PE.imp pe_non (r_cst fun _ => .no)
end
theorem glb_int {x : Str} {i : Int} (h : ∃ t, mg x = some (.int i t)) : GlbD K mg x (.int i) := let ⟨t, h⟩ := h; ⟨_, .int i, h, ⟨t, rfl⟩, fun _ => .num i⟩
theorem glb_str {x : Str} {i : Str} (h : ∃ t, mg x = some (.str i t)) : GlbD K mg x (.str i) := let ⟨t, h⟩ := h; ⟨_, .str i, h, ⟨t, rfl⟩, fun _ => .txt i⟩
theorem VrA.konst {vs : List V} {ds : List D} : VrA K mg (fun _ => none) vs ds → ∀ F, VrA K mg F vs ds := fun h F => VrA.same (fun _ _ e => by cases e) _ h
theorem glb_tup {x : Str} {a : Addr} {vs : List V} {ds : List D} (h : mg x = some (.ref a)) (hs : SqT K (fun _ => none) a vs) (k : VrA K mg (fun _ => none) vs ds) : GlbD K mg x (.tuple ds) := ⟨_, .ref a, h, rfl, fun F => Vr.same (fun _ _ e => by cases e) _ (.tu hs k)⟩
/-! ### defs by name -/
theorem hu_of {k : Nat} {A : Around} (r : Room k A) : A.units + 65 < cLine := by have := r.un; omega
/-- x is a def of the module, for positional arguments -/
def Fc (P : Program) (w : World) (K : PySem.W.Frag) (mg : Str → Option Value) (base : Heap) (k : Nat) (x : Str) (n : Nat) (φ : Co Rv) : Prop := ∃ fA, FnQ P w K mg base k fA n φ ∧ mg x = some (.ref fA) ∧ PySem.W.keepIn K (.ref fA) = true
def DefAt (K : PySem.W.Frag) (mg : Str → Option Value) (x : Str) (st : Stmt) : Prop := ∃ fA fd, mg x = some (.ref fA) ∧ FunD K x x (defArgs st) (defBody st) (defScope st) [] [] fA fd
def BindOk (x qual : Str) (st : Stmt) (ps : List Str) : Prop := ∀ (kV doc pm : Value) (an : Option Addr) (cdv ct : Value) (us : List Value), us.length = ps.length → bindArgs (PySem.W.fnOf x qual (defArgs st) (defBody st) (defScope st) .none kV doc pm an cdv ct) ⟨us, []⟩ = pure (ps.zip us)
section
variable {P : Program} {w : World} {base : Heap} {x qual : Str} {st : Stmt} {N ps : List Str} {k : Nat} {c : Co Fl}
theorem fnQ_of {n : Nat} {fA : Addr} {fd : FuncData} {φ : Co Rv} (h : FnOk P w K mg base (L2.CX P w) k fA fd ps (spM K mg n φ)) (hb : Binds K fd ps []) : FnQ P w K mg base k fA n φ := by
  intro A outer s H us vs Q E hr e0 rv hsp
  have hl : us.length = ps.length := by rw [← rv.length]; exact h.len vs H Q E hsp
  have b := hb s us (e0.mod.kin.keeps fun b o e => (e0.bs b o e).1) (by rw [List.append_nil]; exact hl)
  rw [List.append_nil] at b
  exact h.run A outer s H ⟨us, []⟩ us vs Q E hr e0 b rv hsp
theorem fc_of (hd : DefAt K mg x st) (S : FnScope N ps (defScope st)) (hB : BindOk x x st ps)
    (hbody : ∀ (fA : Addr) (cdv : Value) (A : Around) (outer : List Env) (s : Shared) (H : Hp) (E : XK), Room k (A.deeper (envOfC x (defScope st) s.heap.objs.size fA cdv)) → PSs (cxOf (L2.CX P w) P w K mg base N x (defScope st) fA cdv A outer s H E) (defBody st) (tS K mg (WA E) c)) :
    Fc P w K mg base (k + 1) x ps.length (fnC ps.length N.length c) := by
  obtain ⟨fA, fd, h1, F⟩ := hd
  exact ⟨fA, fnQ_of (fn_okM F S (hbody fA)) (F.bindsN hB), h1, F.kp⟩
end
section
variable {P : Program} {w : World} {e : Expr} {es : List Expr} {r : Co Ar} {pos p : Pos} {k n : Nat} {φ : Co Rv} {x : Str}
theorem pe_fcM (F : Fc X.prog X.w X.K X.mg X.base k x n φ) (hr : Room k X.A) (hg : Gl X x) (hx : PsM X W) (ha : PA X (e :: es) (tAg X.K X.mg W r)) (hdb : (x == ("__debug__" : Str)) = false := by decide)
    (he : starEach (e :: es) X.env = (false, eval e X.env) :: starEach es X.env := by rfl) (hpl : (backTo pos (starEach es X.env)).any (·.1) = false := by rfl) : PE X (.Call (.Name x p) (e :: es) [] pos) (tO X.K X.mg W (cCall n φ r)) := by
  obtain ⟨fA, h1, h2, h3⟩ := F
  exact pe_callM h1 hr hg h2 h3 hx ha hdb he hpl
theorem pe_fcM0 (F : Fc X.prog X.w X.K X.mg X.base k x n φ) (hr : Room k X.A) (hg : Gl X x) (hx : PsM X W) (hdb : (x == ("__debug__" : Str)) = false := by decide) : PE X (.Call (.Name x p) [] [] pos) (tO X.K X.mg W (cCall n φ cA0)) := by
  obtain ⟨fA, h1, h2, h3⟩ := F
  exact pe_callM0 h1 hr hg h2 h3 hx hdb
end
end Md
/-! Md15: the names that stay built-in; classes; methods; pairs stored; looking in tests. -/
namespace Md
open PySem PySem.Spec PyProof.Rows L2
variable {K : PySem.W.Frag} {mg : Str → Option Value} {F F' H H' : Hp} {f : Fm} {σ : L2.St} {ρ : Sto} {g : Addr → Option Ow} {W : WX} {X : Cx} {Dn : Ends}
structure Bz (mg : Str → Option Value) : Prop where
  len : mg "len" = none
  abs : mg "abs" = none
  any : mg "any" = none
  all : mg "all" = none
  sum : mg "sum" = none
  int : mg "int" = none
  str : mg "str" = none
  bool : mg "bool" = none
  tuple : mg "tuple" = none
  list : mg "list" = none
  isinstance : mg "isinstance" = none
  range : mg "range" = none
  enumerate : mg "enumerate" = none
structure ClsF (K : PySem.W.Frag) (mg : Str → Option Value) (c : Str) (C : Addr) (fs : List Str) : Prop where
  g : mg c = some (.ref C)
  cl : Cls K C
  no : ∀ f ∈ fs, NoAttr K C f
abbrev FnP (K : PySem.W.Frag) (x : Str) (st : Stmt) (f : Addr) (fd : FuncData) : Prop := FunD K x x (defArgs st) (defBody st) (defScope st) [] [] f fd
def cNeg (c : Co D) : Co Rv := cO c fun x => match x with | .int i => some (.sh (.int (-i))) | _ => none
def cNot (c : Co D) : Co Rv := cO c fun x => (tru x).map fun k => .sh (.bool (!k))
def cRetN : Co Fl := fun ρ => .ok (.rt (.sh .none)) ρ
/-! ### tests that look -/
def cBorT (c : Co Bool) : Co Bool := fun ρ => match c (ρ.map fzSl) with
  | .ok r _ => .ok r ρ
  | _ => .st
theorem pt_borM {e : Expr} {c : Co Bool} (h : PT X e (tT X.K X.mg WF c)) : PT X e (tT X.K X.mg W (cBorT c)) := PT.imp h fun σ H Q ⟨f, F, ρ, g, S, q⟩ => by
  unfold cBorT at q
  cases hc : c (ρ.map fzSl) with
  | st => rw [hc] at q; exact q.elim
  | er x ρ' => rw [hc] at q; exact q.elim
  | ok r ρ' =>
    rw [hc] at q
    refine ⟨_, _, _, _, S.all, ?_⟩
    rw [hc]
    exact fun v F' H' g' S' s' kr => q v F H' g (S.after S') (Same.refl F) kr
/-! ### a, b = x, y -/
def cPar (i j : Nat) (r : Co (List D)) : Co Fl := fun ρ => (r ρ).bind fun ds ρ1 => match ds with
  | [a, b] => oNx ((setSl ρ1 i (.sh a)).bind fun ρ2 => setSl ρ2 j (.sh b))
  | _ => .st
theorem ps_parM {i j : Nat} {x y : Str} {px py pt pt2 pos : Pos} {kt k2 : Nat} {a b : Expr} {r : Co (List D)} (hc : X.calm = true) (hN : X.N.Nodup) (hi : X.N[i]? = some x) (hj : X.N[j]? = some y) (hij : i ≠ j)
    (hx : X.env.scope.names.lookup x = some .local) (hy : X.env.scope.names.lookup y = some .local) (hw : swappedStores [.Tuple [.Name x px, .Name y py] kt pt] (.Tuple [a, b] k2 pt2) X.env = pure (some [x, y])) (ha : PA X [a, b] (tAs X.K X.mg W r))
    (hs1 : swapsWithSole [.Tuple [.Name x px, .Name y py] kt pt] (.Tuple [a, b] k2 pt2) pos.line X.env = pure false := by rfl) :
    PS X (.Assign [.Tuple [.Name x px, .Name y py] kt pt] (.Tuple [a, b] k2 pt2) pos) (tS X.K X.mg W (cPar i j r)) :=
  PS.imp (ps_par hc hN hi hj hij hx hy ha hw hs1) fun Dn σ H ⟨f, F, ρ, g, S, q⟩ => ⟨f, F, ρ, g, S, (FinS.bindE (R := rA X.K X.mg) q).mono fun vs H1 ⟨ds, ρ1, F1, g1, S1, s1, k1, q1⟩ => by
    match ds, k1, q1 with
    | [d, e], k1, q1 =>
      cases k1 with
      | @cons v vs _ _ ka k2 =>
        cases k2 with
        | @cons w ws _ _ kb k3 =>
          cases k3
          have q1 : FinS X.K X.mg f W (oNx ((setSl ρ1 i (.sh d)).bind fun ρ2 => setSl ρ2 j (.sh e))) F1 Dn := q1
          refine ⟨v, w, rfl, ?_⟩
          cases hz : setSl ρ1 i (.sh d) with
          | none => rw [hz] at q1; exact q1.elim
          | some ρ2 =>
            rw [hz] at q1
            have q1 : FinS X.K X.mg f W (oNx (setSl ρ2 j (.sh e))) F1 Dn := q1
            cases hy : setSl ρ2 j (.sh e) with
            | none => rw [hy] at q1; exact q1.elim
            | some ρ3 =>
              rw [hy] at q1
              obtain ⟨rfl, h1⟩ := S1.root_set hz
              have S2 := S1.setSh (i := i) h1 ka
              obtain ⟨rfl, h2⟩ := S2.root_set hy
              exact q1 _ F1 H1 g1 (S2.setSh h2 kb) (Same.refl F1)
    | [], k1, q1 => exact q1.elim
    | [_], k1, q1 => exact q1.elim
    | _ :: _ :: _ :: _, k1, q1 => exact q1.elim⟩
/-! ### methods -/
def Mc (P : Program) (w : World) (K : PySem.W.Frag) (mg : Str → Option Value) (base : Heap) (k : Nat) (C : Addr) (m : Str) (n : Nat) (φ : Co Rv) : Prop := ∃ fA, Meth K C m fA ∧ FnQ P w K mg base k fA n φ
def MetAt (K : PySem.W.Frag) (C : Addr) (m qual : Str) (st : Stmt) : Prop := ∃ fA fd, Meth K C m fA ∧ FunD K m qual (defArgs st) (defBody st) (defScope st) [] [] fA fd
section
variable {P : Program} {w : World} {base : Heap} {x qual : Str} {st : Stmt} {N ps : List Str} {k n : Nat} {c : Co Fl} {C : Addr}
theorem mc_of (hd : MetAt K C x qual st) (S : FnScope N ps (defScope st)) (hB : BindOk x qual st ps)
    (hbody : ∀ (fA : Addr) (cdv : Value) (A : Around) (outer : List Env) (s : Shared) (H : Hp) (E : XK), Room k (A.deeper (envOfC qual (defScope st) s.heap.objs.size fA cdv)) → PSs (cxOf (L2.CX P w) P w K mg base N qual (defScope st) fA cdv A outer s H E) (defBody st) (tS K mg (WA E) c)) :
    Mc P w K mg base (k + 1) C x ps.length (fnC ps.length N.length c) := by
  obtain ⟨fA, fd, h1, F⟩ := hd
  exact ⟨fA, h1, fnQ_of (fn_okM F S (hbody fA)) (F.bindsN hB)⟩
variable {e o : Expr} {es : List Expr} {r : Co Ar} {pos p apos : Pos} {φ : Co Rv} {co : Co D} {cn m : Str} {fs : List Str}
theorem pe_mcM {pl : Sem Bool} (T : ClsF X.K X.mg cn C fs) (M : Mc X.prog X.w X.K X.mg X.base k C m n φ) (hr : Room k X.A) (hx : PsM X W) (ho : PE X o (tE X.K X.mg W co)) (ha : PA X (e :: es) (tAg X.K X.mg W r))
    (hst : starEach (e :: es) X.env = (false, eval e X.env) :: starEach es X.env := by rfl) (hpl : (backTo pos (starEach es X.env)).any (·.1) = false := by rfl)
    (ht : eval (.Call (.Attribute o m apos) (e :: es) [] pos) X.env = (do
      let ov ← eval o X.env
      standAt apos.atName
      let (f, first) ← holding [ov] (getMethod ov m pl)
      callWith pos f first (backTo pos (starEach (e :: es) X.env)) (backToKw pos (keywordEach [] X.env))) := by rfl) :
    PE X (.Call (.Attribute o m apos) (e :: es) [] pos) (tO X.K X.mg W (cMeth cn m n φ co r)) := by
  obtain ⟨fA, h1, h2⟩ := M
  exact pe_methM (pl := pl) T.g T.cl h1 h2 hr hx ho ha hst hpl ht
theorem pe_mcM0 {pl : Sem Bool} (T : ClsF X.K X.mg cn C fs) (M : Mc X.prog X.w X.K X.mg X.base k C m n φ) (hr : Room k X.A) (hx : PsM X W) (ho : PE X o (tE X.K X.mg W co))
    (ht : eval (.Call (.Attribute o m apos) [] [] pos) X.env = (do
      let ov ← eval o X.env
      standAt apos.atName
      let (f, first) ← holding [ov] (getMethod ov m pl)
      callWith pos f first (backTo pos (starEach [] X.env)) (backToKw pos (keywordEach [] X.env))) := by rfl) :
    PE X (.Call (.Attribute o m apos) [] [] pos) (tO X.K X.mg W (cMeth cn m n φ co cA0)) := by
  obtain ⟨fA, h1, h2⟩ := M
  exact pe_methM0 (pl := pl) T.g T.cl h1 h2 hr hx ho ht
end
end Md
/-! Md16: objects made by an __init__ with *rest and keyword-only parameters. -/
namespace Md
open PySem PySem.Spec PyProof.Rows L2
variable {K : PySem.W.Frag} {mg : Str → Option Value} {F F' H H' : Hp} {f : Fm} {σ : L2.St} {ρ : Sto} {g : Addr → Option Ow} {W : WX} {X : Cx} {Dn : Ends}
def spV (K : PySem.W.Frag) (mg : Str → Option Value) (nf nk : Nat) (φ : Co Rv) : List V → List V → Hp → VK → XK → Prop := fun vs zs H Q E =>
  nf ≤ vs.length ∧ zs.length = nk ∧ vs.length ≤ 1000 ∧ ∀ p, H p = none → spM K mg (nf + nk + 1) φ (vs.take nf ++ zs ++ [.ref p]) (upd H p (.tup (vs.drop nf))) Q E
def FnV (P : Program) (w : World) (K : PySem.W.Frag) (mg : Str → Option Value) (base : Heap) (k : Nat) (fA : Addr) (nf : Nat) (ks : List Str) (φ : Co Rv) : Prop :=
  ∀ (A : Around) (outer : List Env) (s : Shared) (H : Hp) (us ws : List Value) (vs zs : List V) (Q : VK) (E : XK), Room k A → Env0 P w K mg base A outer s H → Vals vs us → Vals zs ws → spV K mg nf ks.length φ vs zs H Q E →
    codeAny (model P w) A (.call (.ref fA) ⟨us, ks.zip ws⟩) (CR (L2.CX P w) outer P w H s Q E) s
/-- a def of the text, whatever its keyword defaults -/
def FunV (K : PySem.W.Frag) (x qual : Str) (st : Stmt) (fA : Addr) : Prop := ∃ (oc : Value) (od : Option Addr) (kV doc pm : Value) (an : Option Addr) (cdv ct : Value) (osl : Array (Option Value)),
  K.lookup fA = some ⟨oc, od, .func (PySem.W.fnOf x qual (defArgs st) (defBody st) (defScope st) .none kV doc pm an cdv ct), osl⟩ ∧ PySem.W.codeIn K cdv qual = true
def BindV (x qual : Str) (st : Stmt) (nf : Nat) (ks ps : List Str) (pv : Str) : Prop := ∀ (kV doc pm : Value) (an : Option Addr) (cdv ct : Value) (us rest ws : List Value), us.length = nf → ws.length = ks.length →
  bindArgs (PySem.W.fnOf x qual (defArgs st) (defBody st) (defScope st) .none kV doc pm an cdv ct) ⟨us ++ rest, ks.zip ws⟩ = (newTuple rest >>= fun t => pure (ps.zip (us ++ ws) ++ [(pv, t)]))
section
variable {P : Program} {w : World} {base : Heap} {x qual : Str} {st : Stmt} {N ps ks : List Str} {pv : Str} {k nf : Nat} {c : Co Fl} {fA : Addr}
theorem fnV_of (hd : FunV K x qual st fA) (S : FnScope N (ps ++ [pv]) (defScope st)) (hps : ps.length = nf + ks.length) (hB : BindV x qual st nf ks ps pv)
    (hbody : ∀ (cdv : Value) (A : Around) (outer : List Env) (s : Shared) (H : Hp) (E : XK), Room k (A.deeper (envOfC qual (defScope st) s.heap.objs.size fA cdv)) → PSs (cxOf (L2.CX P w) P w K mg base N qual (defScope st) fA cdv A outer s H E) (defBody st) (tS K mg (WA E) c)) :
    FnV P w K mg base (k + 1) fA nf ks (fnC (nf + ks.length + 1) N.length c) := by
  obtain ⟨oc, od, kV, doc, pm, an, cdv, ct, osl, lk, hcd⟩ := hd
  intro A outer s H us ws vs zs Q E hr e0 r rz hsp
  obtain ⟨h1, h2, h3, hq⟩ := hsp
  have ev : vs.take nf ++ vs.drop nf = vs := List.take_append_drop nf vs
  obtain ⟨u1, u2, eu, r1, r2⟩ := StX.vals_split (ws := vs.take nf) (rest := vs.drop nf) (us := us) (by rw [ev]; exact r)
  subst eu
  have hn : H s.heap.objs.size = Option.none := e0.hok.fresh (Nat.le_refl _)
  have hl1 : u1.length = nf := by rw [← r1.length, List.length_take]; omega
  have hlw : ws.length = ks.length := by rw [← rz.length]; exact h2
  have hl2 : u2.length ≤ sizeLine := by
    rw [← r2.length, List.length_drop, sizeLine_eq]
    omega
  have hlr : (vs.drop nf).length ≤ sizeLine := by
    rw [r2.length]
    exact hl2
  refine StX.run_bnd lk hcd S hr e0 (G := fun xs H2 => ∃ p, H p = Option.none ∧ xs = vs.take nf ++ zs ++ [V.ref p] ∧ H2 = upd H p (.tup (vs.drop nf))) (fun A' Ex Q' h => ?_) fun s2 H2 xs ⟨p, hp, ex, eH⟩ hr' => ?_
  · rw [hB kV doc pm an cdv ct u1 u2 ws hl1 hlw]
    refine wpAny_bind (wpAny_newTuple (wpAny_pure ?_) hl2)
    have new : ObjOk P w (upd H s.heap.objs.size (.tup (vs.drop nf))) (s.heap.push ({ cls := .type "tuple", data := .seq u2.toArray } : Obj)) s.heap.objs.size (.tup (vs.drop nf)) := ⟨hlr, u2, r2, ⟨_, Heap.get?_push_size _ rfl, rfl, _, rfl⟩⟩
    have un := StX.un_laid (fs := frs outer) (s := s) (o := ({ cls := .type "tuple", data := .seq u2.toArray } : Obj)) (u := .tup (vs.drop nf)) hn
    have z := h _ _ (vs.take nf ++ zs ++ [V.ref s.heap.objs.size]) (u1 ++ ws ++ [Value.ref s.heap.objs.size]) (StX.env0_laid e0 new) un rfl (fun e s' => StX.cxUp outer s H _ _ E e s' un (fun b o q => Heap.get?_push_of_some _ q) rfl) ((r1.append rz).append (.cons rfl .nil))
      (by rw [List.length_append, List.length_append, List.length_append, List.length_take, hps, h2] <;> simp <;> omega) ⟨_, hn, rfl, rfl⟩
    rw [List.zip_append (by rw [List.length_append, hl1, hlw]; exact hps)] at z
    exact z
  · subst ex eH
    obtain ⟨q1, q2⟩ := hq p hp
    exact ⟨_, hbody cdv A outer s2 _ E hr', body_ok q1 q2⟩
end
theorem SR.snoc (S : SR K mg f F H σ ρ g) {v : V} {d : D} (k : Vr K mg F v d) : SR K mg f F H (σ ++ [some v]) (ρ ++ [.sh d]) g := by
  refine ⟨by rw [List.length_append, List.length_append, S.len] <;> rfl, S.f0, S.sub, S.new, S.al, S.bas, S.gh, fun i u s e1 e2 => ?_, fun i m e => ?_, fun i p e => ?_⟩
  · by_cases hi : i < ρ.length
    · rw [List.getElem?_append_left hi] at e2
      rw [List.getElem?_append_left (by rw [S.len]; exact hi)] at e1
      exact S.sl i u s e1 e2
    · by_cases hj : i = ρ.length
      · subst hj
        rw [List.getElem?_concat_length] at e2
        have e3 : (σ ++ [some v])[ρ.length]? = some (some v) := by rw [← S.len, List.getElem?_concat_length]
        rw [e3] at e1
        cases e1
        cases e2
        exact .sh k
      · rw [List.getElem?_eq_none (by rw [List.length_append]; simp; omega)] at e2
        cases e2
  · by_cases hi : i < ρ.length
    · rw [List.getElem?_append_left hi] at e
      rw [List.getElem?_append_left (by rw [S.len]; exact hi)]
      exact S.pin i m e
    · by_cases hj : i = ρ.length
      · subst hj
        rw [List.getElem?_concat_length] at e
        cases e
      · rw [List.getElem?_eq_none (by rw [List.length_append]; simp; omega)] at e
        cases e
  · obtain ⟨m, e2⟩ := S.rt i p e
    exact ⟨m, by rw [List.getElem?_append_left (List.getElem?_eq_some_iff.mp e2).1]; exact e2⟩
def makeV (c : Str) (nf nk : Nat) (φ : Co Rv) (xs : Ar) (zs : List D) : Co Rv := fun ρ => match lefts xs with
  | none => .st
  | some ds => if nf ≤ ds.length + 1 ∧ ds.length ≤ 900 ∧ zs.length = nk ∧ 0 < nf then (match φ (.ow true (.obj c []) :: ((ds.take (nf - 1) ++ zs).map .sh ++ [.sh (.tuple (ds.drop (nf - 1)))])) with
    | .ok (.sh .none) (.ow true (.obj c' fs) :: _) => if c' = c then .ok (.ow (.obj c fs)) ρ else .st
    | .er x _ => .er x ρ
    | _ => .st) else .st
theorem makeV_ok {c : Str} {C : Addr} {nf nk : Nat} {φ : Co Rv} {xs : Ar} {vs zv : List V} {zs : List D} {Q : VK} (hC : mg c = some (.ref C)) (S : SR K mg f F H σ ρ g) (A : AgR K mg F σ vs xs) (kz : VrA K mg F zv zs) (q : Fin K mg f σ W (rO K mg) (makeV c nf nk φ xs zs ρ) F Q) :
    ∀ x dx, H x = none → H dx = none → dx ≠ x → spV K mg nf nk φ (.ref x :: vs) zv (upd (upd H dx (.own x)) x (.ins C dx [])) (fun v H2 => v = .non ∧ Q (.ref x) H2) (WE W σ) := fun x dx nx nd ne => by
  unfold makeV at q
  cases hl : lefts xs with
  | none => rw [hl] at q; exact q.elim
  | some ds =>
    rw [hl] at q
    have q : Fin K mg f σ W (rO K mg) (if nf ≤ ds.length + 1 ∧ ds.length ≤ 900 ∧ zs.length = nk ∧ 0 < nf then (match φ (.ow true (.obj c []) :: ((ds.take (nf - 1) ++ zs).map .sh ++ [.sh (.tuple (ds.drop (nf - 1)))])) with | .ok (.sh .none) (.ow true (.obj c' fs) :: _) => if c' = c then .ok (.ow (.obj c fs)) ρ else .st | .er x _ => .er x ρ | _ => .st) else .st) F Q := q
    have kv : VrA K mg F vs ds := AgR.vals (lefts_eq hl ▸ A)
    by_cases hn : nf ≤ ds.length + 1 ∧ ds.length ≤ 900 ∧ zs.length = nk ∧ 0 < nf
    · rw [if_pos hn] at q
      obtain ⟨n1, n2, n3, n4⟩ := hn
      obtain ⟨m, rfl⟩ : ∃ m, nf = m + 1 := ⟨nf - 1, by omega⟩
      have lv := kv.len
      refine ⟨by rw [List.length_cons, lv]; exact n1, by rw [kz.len]; exact n3, by rw [List.length_cons, lv]; omega, fun p np => ⟨?_, ?_⟩⟩
      · rw [List.length_append, List.length_append, List.length_take, List.length_cons, lv, kz.len]
        simp
        omega
      have np : newH H x dx C p = none := np
      have S0 := make_in S hC nx nd ne ((VrA.take m kv).app kz)
      have S1 := S0.alloc np (.tup (vs.drop m))
      have Fp : F p = none := S0.sub.free np
      have sF : Same F (upd F p (.tup (vs.drop m))) := same_upd Fp
      have S2 := S1.snoc (v := .ref p) (d := .tuple (ds.drop m)) (.tu (SqT.of upd_same) (VrA.same sF _ (VrA.drop m kv)))
      have eσ : ((V.ref x :: (vs.take m ++ zv)).map some) ++ [some (V.ref p)] = ((V.ref x :: vs).take (m + 1) ++ zv ++ [V.ref p]).map some := by
        rw [List.take_succ_cons, List.cons_append, List.cons_append, List.map_cons, List.map_cons, List.map_append (l₁ := vs.take m ++ zv)]
        rfl
      rw [eσ] at S2
      refine ⟨newF F H x dx C, _, _, newG x dx, S2, ?_⟩
      have eφ : (Sl.ow true (.obj c []) :: (ds.take m ++ zs).map Sl.sh) ++ [Sl.sh (.tuple (ds.drop m))] = .ow true (.obj c []) :: ((ds.take (m + 1 - 1) ++ zs).map .sh ++ [.sh (.tuple (ds.drop (m + 1 - 1)))]) := rfl
      rw [eφ]
      cases hφ : φ (.ow true (.obj c []) :: ((ds.take (m + 1 - 1) ++ zs).map .sh ++ [.sh (.tuple (ds.drop (m + 1 - 1)))])) with
      | st => rw [hφ] at q; exact q.elim
      | er e ps =>
        rw [hφ] at q
        exact fun cls d F' H' g' S' s' kr => q cls d F' H' _ (make_out S nx nd S') (sF.trans s') kr
      | ok r ps =>
        rw [hφ] at q
        cases r with
        | ow m => exact q.elim
        | sh d =>
          cases d <;> first | exact q.elim | skip
          cases ps with
          | nil => exact q.elim
          | cons p0 ps =>
            cases p0 with
            | un => exact q.elim
            | sh d => exact q.elim
            | ow b m =>
              cases b with
              | false => exact q.elim
              | true =>
                cases m with
                | lst => exact q.elim
                | obj c' fs =>
                  have q : Fin K mg f σ W (rO K mg) (if c' = c then .ok (.ow (.obj c fs)) ρ else .st) F Q := q
                  by_cases hc : c' = c
                  · subst hc
                    rw [if_pos rfl] at q
                    intro v F' H' g' S' s' kr
                    have kr : RvR K mg F' H' g' v (.sh .none) := kr
                    cases kr with
                    | sh kr =>
                      cases kr
                      refine ⟨rfl, q (.ref x) F' H' _ (make_out S nx nd S') (sF.trans s') (.ow ?_)⟩
                      have k0 := S'.sl 0 (some (.ref x)) _ rfl rfl
                      cases k0 with
                      | ow k0 =>
                        refine k0.mono (Same.refl F') (fun _ _ _ e => e) fun a e => ?_
                        have e : g' a = some (.slot 0) := e
                        show madeG g g' x dx a = some .res
                        unfold madeG
                        rw [e]
                        rfl
                  · rw [if_neg hc] at q
                    exact q.elim
    · rw [if_neg hn] at q
      exact q.elim
/-! ### the calls -/
theorem ks_callK {M : Model} {A : Around} {E : Value → Shared → Prop} {s : Shared} {fv : Value} {first : List Value} {pos : Pos} {Q : Value → Shared → Prop} {Pr : Heap → Prop} {args : List (Bool × Sem Value)} {keywords : List (Option Str × Sem Value)} (hst : (args.any (·.1) || keywords.any (·.1.isNone)) = true)
    (hk : ∀ h, Pr h → ∃ k, (k = Keeper.frame ∨ k = Keeper.machine ∨ k = Keeper.boundFrame) ∧ PySem.W.Looks M h (keeperOf fv) k)
    (h : wpAny M A (evalArgs fv true args keywords) (fun a s₁ => Pr s₁.heap ∧ wpAny M A (call fv (first ++ a.pos) a.kw) Q E s₁) E s) : wpAny M A (callWith pos fv first args keywords) Q E s := by
  unfold callWith
  refine wpAny_bind (wpAny_holding (wpAny_mono h (fun a s₁ h₁ => wpAny_bind (wpAny_standAt ?_)) fun _ _ x => x))
  obtain ⟨k, hk', L⟩ := hk _ h₁.1
  simp only [hst]
  refine wpAny_bind (L.here ?_)
  have tail : ∀ {t : Sem Value}, wpAny M A t Q E s₁ → wpAny M A (t >>= fun r => holding [r] point >>= fun _ => pure r) Q E s₁ :=
    fun ht => wpAny_bind (wpAny_mono ht (fun r s₂ hr => wpAny_bind (wpAny_holding (wpAny_point (wpAny_pure hr)))) fun _ _ x => x)
  have marked (mk : Value) : wpAny M A (callMarked mk fv (first ++ a.pos) a.kw) Q E s₁ := by unfold callMarked; exact Calls.wpAny_keep h₁.2
  rcases hk' with rfl | rfl | rfl <;> dsimp only <;> first | exact tail (marked _) | exact tail (wpAny_operating h₁.2)
def cMakeV (c : Str) (nf nk : Nat) (φ : Co Rv) (r : Co Ar) (kw : Co (List D)) : Co Rv := fun ρ => (r ρ).bind fun xs ρ1 => (kw ρ1).bind fun zs ρ2 => makeV c nf nk φ xs zs ρ2
section
variable {e : Expr} {es : List Expr} {kws : List Keyword} {r : Co Ar} {kw : Co (List D)} {pos p kpos : Pos} {k nf : Nat} {fA C : Addr} {φ : Co Rv} {c : Str} {ks : List Str} {nm : Option Str} {ca : Co D}
theorem PK.imp {t t' : TA} (h : PK X kws t) (z : ∀ σ H Q, t' σ H Q → t σ H Q) : PK X kws t' := ⟨fun p pins s σ H Q I q => h.run p pins s σ H Q I (z σ H Q q)⟩
theorem pk_nilM : PK X [] (tAs X.K X.mg W cNil) := PK.imp pk_nil fun σ H Q ⟨f, F, ρ, g, S, q⟩ => q [] F H g S (Same.refl F) .nil
theorem pk_consM (ha : PE X e (tE X.K X.mg W ca)) (hr : PK X kws (tAs X.K X.mg W kw)) : PK X (⟨nm, e, kpos⟩ :: kws) (tAs X.K X.mg W (cCons ca kw)) :=
  PK.imp (pk_cons ha hr) fun σ H Q ⟨f, F, ρ, g, S, q⟩ => ⟨f, F, ρ, g, S, (Fin.bind (R := rD X.K X.mg) q).mono fun v H1 ⟨x, ρ1, F1, g1, S1, s1, k1, q1⟩ => ⟨f, F1, ρ1, g1, S1, (Fin.bind (R := rA X.K X.mg) q1).mono fun vs H2 ⟨xs, ρ2, F2, g2, S2, s2, k2, q2⟩ =>
    q2 (v :: vs) F2 H2 g2 S2 (Same.refl F2) (.cons (k1.same s2) k2)⟩⟩
theorem r_makeV {nk : Nat} (hC : mg c = some (.ref C)) : ∀ σ H Q, tO K mg W (cMakeV c nf nk φ r kw) σ H Q → tAg K mg W r σ H fun vs H1 => tAs K mg W kw σ H1 fun zs H2 => ∀ x dx, H2 x = none → H2 dx = none → dx ≠ x → spV K mg nf nk φ (.ref x :: vs) zs (upd (upd H2 dx (.own x)) x (.ins C dx [])) (fun v H3 => v = .non ∧ Q (.ref x) H3) (WE W σ) := fun σ H Q ⟨f, F, ρ, g, S, q⟩ =>
  ⟨f, F, ρ, g, S, (Fin.bind (R := fun F _ _ vs xs => AgR K mg F σ vs xs) q).mono fun vs H1 ⟨xs, ρ1, F1, g1, S1, s1, k1, q1⟩ => ⟨f, F1, ρ1, g1, S1, (Fin.bind (R := rA K mg) q1).mono fun zv H2 ⟨zs, ρ2, F2, g2, S2, s2, k2, q2⟩ => makeV_ok hC S2 (k1.same s2) k2 q2⟩⟩
theorem run_makeV {E : XK} {Q : VK} {us ws : List Value} {vs zs : List V} {pins : List (Addr × Obj)} {s : Shared} (M : Mk X.K C fA) (Fn : FnV X.prog X.w X.K X.mg X.base k fA nf ks φ) (hr : Room (k + 1) X.A) (hx : PassesAt (L2.CX X.prog X.w) X σ E) (I : Inv X pins σ H s) (rv : Vals vs us) (rz : Vals zs ws)
    (h : ∀ x dx, H x = Option.none → H dx = Option.none → dx ≠ x → spV X.K X.mg nf ks.length φ (V.ref x :: vs) zs (upd (upd H dx (.own x)) x (.ins C dx [])) (fun v H2 => v = .non ∧ Q (.ref x) H2) E) :
    wpAny (model X.prog X.w) X.A (call (.ref C) us (ks.zip ws)) (EP X pins σ Q) X.xe s := by
  have hq := h (s.heap.objs.size + 1) s.heap.objs.size (I.hok.fresh (Nat.le_succ _)) (I.hok.fresh (Nat.le_refl _)) (Nat.ne_of_lt (Nat.lt_succ_self _))
  have I2 := Inv.made (C := C) I
  have r2 : Vals (V.ref (s.heap.objs.size + 1) :: vs) (Value.ref (s.heap.objs.size + 1) :: us) := .cons rfl rv
  refine wpAny_call (make_map (f := fA) I.kIn M.makes M.init (beq_iff_eq.mp M.fn) (codeAny_mono (Fn _ X.stack _ _ (Value.ref (s.heap.objs.size + 1) :: us) ws _ _ _ E (hr.make C us (ks.zip ws)) (I2.env0.make C us (ks.zip ws)) r2 rz hq) fun r s' hq' => ?_))
  cases r with
  | error e => exact hx pins _ _ e s' I2 hq'
  | ok fl =>
    cases fl with
    | ret u =>
      obtain ⟨v, H', I3, rv, ev, q3⟩ := I2.after hq'
      subst ev
      exact ⟨rv, ⟨V.ref (s.heap.objs.size + 1), H', I3, rfl, q3⟩⟩
    | next => exact False.elim hq'
    | brk => exact False.elim hq'
    | cont => exact False.elim hq'
/-- C(e, .., k = v, ..), no *y -/
theorem pe_makeVK (M : Mk X.K C fA) (Fn : FnV X.prog X.w X.K X.mg X.base k fA nf ks φ) (hr : Room (k + 1) X.A) (hg : Gl X c) (hm : X.mg c = some (.ref C)) (hx : PsM X W) (ha : PA X (e :: es) (tAg X.K X.mg W r)) (hkw : PK X kws (tAs X.K X.mg W kw))
    (hall : (backToKw pos (keywordEach kws X.env)).all (·.1.isSome) = true := by rfl) (hks : (backToKw pos (keywordEach kws X.env)).filterMap (·.1) = ks := by rfl) (hdb : (c == ("__debug__" : Str)) = false := by decide)
    (he : starEach (e :: es) X.env = (false, eval e X.env) :: starEach es X.env := by rfl) (hpl : ((backTo pos (starEach (e :: es) X.env)).any (·.1) || (backToKw pos (keywordEach kws X.env)).any (·.1.isNone)) = false := by rfl) :
    PE X (.Call (.Name c p) (e :: es) kws pos) (tO X.K X.mg W (cMakeV c nf ks.length φ r kw)) := by
  refine ⟨fun pins s σ H Q I h => ?_⟩
  refine wpAny_Call_Name_kw (ld_glob I hg hm ?_ hdb)
  refine PySem.W.callWith_KW (h₀ := X.base) I.ok.mod.kin M.kp hall (thn (ha.run pos pins s σ H _ I (r_makeV hm σ H Q h)) fun us s1 ⟨vs, H1, I1, rv, q⟩ => ?_) hpl he
  refine thn (hkw.run pos pins s1 σ H1 _ I1 q) fun ws s2 ⟨zs, H2, I2, rz, q2⟩ => ⟨I2.kIn, ?_⟩
  rw [hks]
  exact run_makeV M Fn hr (hx σ) I2 rv rz q2
/-- C(e, .., *y, k = v, ..) -/
theorem pe_makeVS (M : Mk X.K C fA) (Fn : FnV X.prog X.w X.K X.mg X.base k fA nf ks φ) (hr : Room (k + 1) X.A) (hg : Gl X c) (hm : X.mg c = some (.ref C)) (hx : PsM X W) (ha : PA X (e :: es) (tAg X.K X.mg W r)) (hkw : PK X kws (tAs X.K X.mg W kw))
    (hall : (backToKw pos (keywordEach kws X.env)).all (·.1.isSome) = true := by rfl) (hks : (backToKw pos (keywordEach kws X.env)).filterMap (·.1) = ks := by rfl) (hdb : (c == ("__debug__" : Str)) = false := by decide)
    (he : starEach (e :: es) X.env = (false, eval e X.env) :: starEach es X.env := by rfl) (hst : ((backTo pos (starEach (e :: es) X.env)).any (·.1) || (backToKw pos (keywordEach kws X.env)).any (·.1.isNone)) = true := by rfl) :
    PE X (.Call (.Name c p) (e :: es) kws pos) (tO X.K X.mg W (cMakeV c nf ks.length φ r kw)) := by
  refine ⟨fun pins s σ H Q I h => ?_⟩
  refine wpAny_Call_Name_kw (ld_glob I hg hm ?_ hdb)
  refine ks_callK hst (PySem.W.keeps_K M.kp) (evalArgs_kw2 hall (thn (ha.run pos pins s σ H _ I (r_makeV hm σ H Q h)) fun us s1 ⟨vs, H1, I1, rv, q⟩ => ?_) he)
  refine thn (hkw.run pos pins s1 σ H1 _ I1 q) fun ws s2 ⟨zs, H2, I2, rz, q2⟩ => ⟨I2.kIn, ?_⟩
  rw [hks]
  exact run_makeV M Fn hr (hx σ) I2 rv rz q2
/-- C(e, ..), the rest of the arguments for *rest -/
theorem pe_makeV0 (M : Mk X.K C fA) (Fn : FnV X.prog X.w X.K X.mg X.base k fA nf [] φ) (hr : Room (k + 1) X.A) (hg : Gl X c) (hm : X.mg c = some (.ref C)) (hx : PsM X W) (ha : PA X (e :: es) (tAg X.K X.mg W r)) (hdb : (c == ("__debug__" : Str)) = false := by decide)
    (he : starEach (e :: es) X.env = (false, eval e X.env) :: starEach es X.env := by rfl) (hpl : (backTo pos (starEach es X.env)).any (·.1) = false := by rfl) :
    PE X (.Call (.Name c p) (e :: es) [] pos) (tO X.K X.mg W (cMakeV c nf 0 φ r cNil)) := by
  refine ⟨fun pins s σ H Q I h => ?_⟩
  refine wpAny_Call_Name_kw (ld_glob I hg hm ?_ hdb)
  refine PySem.W.callWith_K (h₀ := X.base) I.ok.mod.kin M.kp (thn (ha.run pos pins s σ H _ I (r_makeV hm σ H Q h)) fun us s1 ⟨vs, H1, I1, rv, q⟩ => ⟨I1.kIn, ?_⟩) he hpl
  obtain ⟨f, F, ρ, g, S, q⟩ := q
  exact run_makeV (ks := []) (ws := []) (zs := []) M Fn hr (hx σ) I1 rv .nil (q [] F H1 g S (Same.refl F) .nil)
theorem pe_makeV0S (M : Mk X.K C fA) (Fn : FnV X.prog X.w X.K X.mg X.base k fA nf [] φ) (hr : Room (k + 1) X.A) (hg : Gl X c) (hm : X.mg c = some (.ref C)) (hx : PsM X W) (ha : PA X (e :: es) (tAg X.K X.mg W r)) (hdb : (c == ("__debug__" : Str)) = false := by decide)
    (he : starEach (e :: es) X.env = (false, eval e X.env) :: starEach es X.env := by rfl) (hst : (backTo pos (starEach es X.env)).any (·.1) = true := by rfl) :
    PE X (.Call (.Name c p) (e :: es) [] pos) (tO X.K X.mg W (cMakeV c nf 0 φ r cNil)) := by
  refine ⟨fun pins s σ H Q I h => ?_⟩
  refine wpAny_Call_Name_kw (ld_glob I hg hm ?_ hdb)
  refine PySem.W.callWith_S2 (h₀ := X.base) I.ok.mod.kin M.kp (thn (ha.run pos pins s σ H _ I (r_makeV hm σ H Q h)) fun us s1 ⟨vs, H1, I1, rv, q⟩ => ⟨I1.kIn, ?_⟩) he hst
  obtain ⟨f, F, ρ, g, S, q⟩ := q
  exact run_makeV (ks := []) (ws := []) (zs := []) M Fn hr (hx σ) I1 rv .nil (q [] F H1 g S (Same.refl F) .nil)
end
end Md
/-! Md17: ==, in and operators of one's own classes. -/
namespace Md
open PySem PySem.Spec PyProof.Rows L2
variable {K : PySem.W.Frag} {mg : Str → Option Value} {F F' H H' : Hp} {f : Fm} {σ : L2.St} {ρ : Sto} {g : Addr → Option Ow} {W : WX} {X : Cx} {Dn : Ends}
/-- an operator on two values, at slots σ -/
def OpS (X : Cx) (fn : Value → Value → Sem Value) (r : L2.St → R2) : Prop := ∀ (pins : List (Addr × Obj)) (s : Shared) (σ : L2.St) (H : Hp) (x y : V) (v u : Value) (Q : VK), Inv X pins σ H s → RelV x v → RelV y u → r σ x y H Q → wpAny (model X.prog X.w) X.A (fn v u) (EP X pins σ Q) X.xe s
def tOpS (r : L2.St → R2) (ta tb : TE) : TE := fun σ H Q => ta σ H fun x H1 => tb σ H1 fun y H2 => r σ x y H2 Q
section
variable {a b : Expr} {ta tb : TE} {pos : Pos}
theorem pe_cmpS {op : CmpOp} {r : L2.St → R2} (ho : OpS X (compareOp op) r) (ha : PE X a ta) (hb : PE X b tb) (hm : behindInMarks op b = false) : PE X (.Compare a [op] [b] pos) (tOpS r ta tb) := by
  refine ⟨fun pins s σ H Q I h => ?_⟩
  exact wpAny_Compare1 (binT ha hb I h fun v u s2 x y H2 I2 rx ry q => ho pins s2 σ H2 x y v u Q I2 rx ry q) hm
theorem pt_cmpS {op : CmpOp} {r : L2.St → R2} (ho : OpS X (compareOp op) r) (ha : PE X a ta) (hb : PE X b tb) (hm : behindInMarks op b = false) : PT X (.Compare a [op] [b] pos) (tTest (tOpS r ta tb)) := by
  refine ⟨fun pins s σ H Q I h => ?_⟩
  refine wpAny_isTrue_Compare1 (thn (ha.run pins s σ H _ I h) fun v s1 ⟨x, H1, I1, r1, q1⟩ => thn (hb.run pins s1 σ H1 _ I1 q1) fun u s2 ⟨y, H2, I2, r2, q2⟩ =>
    thn (ho pins s2 σ H2 x y v u _ I2 r1 r2 q2) fun c s3 ⟨z, H3, I3, r3, k, e, q3⟩ => ?_) hm
  subst e
  cases r3
  exact wpAny_truthy_bool ⟨H3, I3, q3⟩
theorem pe_opS {op : Operator} {r : L2.St → R2} (ho : OpS X (binaryOp op) r) (ha : PE X a ta) (hb : PE X b tb) : PE X (.BinOp a op b pos) (tOpS r ta tb) := by
  refine ⟨fun pins s σ H Q I h => ?_⟩
  exact wpAny_BinOp (binT ha hb I h fun v u s2 x y H2 I2 rx ry q => ho pins s2 σ H2 x y v u Q I2 rx ry q)
end
/-! ### == -/
def rEqO (C : Addr) (sp : Sp) (E : L2.St → XK) : L2.St → R2 := fun σ x y H Q => ∃ a b dx dy fs gs, x = .ref a ∧ y = .ref b ∧ H a = some (.ins C dx fs) ∧ H b = some (.ins C dy gs) ∧ sp [.ref a, .ref b] H (fun v H' => ∃ r, v = .bl r ∧ Q (.bl r) H') (E σ)
theorem op_eqOS {k n : Nat} {C : Addr} {φ : Co Rv} (M : Mc X.prog X.w X.K X.mg X.base k C "__eq__" n φ) (hr : Room k X.A) (hx : PsM X W) : OpS X (compareOp .Eq) (rEqO C (spM X.K X.mg n φ) (WE W)) := by
  intro pins s σ H x y v u Q I rx ry hq
  obtain ⟨fA, me, F⟩ := M
  obtain ⟨a, b, dx, dy, fs, gs, rfl, rfl, ha, hb', hsp⟩ := hq
  cases rx
  cases ry
  show wpAny (model X.prog X.w) X.A (richCompare .Eq (.ref a) (.ref b)) (EP X pins σ Q) X.xe s
  obtain ⟨mA, J, _⟩ := ins_get I.hok ha
  obtain ⟨mB, J', _⟩ := ins_get I.hok hb'
  obtain ⟨od, J, _⟩ := J.look
  obtain ⟨od', J', _⟩ := J'.look
  obtain ⟨m, hF⟩ := I.fr
  refine PySem.W.cmp_K (op := .Eq) (tb := .ref C) (by have := hr.un; omega) hF I.ok.mod.kin J J'.type (by simp [PySem.W.notFirst]) me.at_ me.fn ?_
  have r2 : Vals [V.ref a, V.ref b] [Value.ref a, Value.ref b] := .cons rfl (.cons rfl .nil)
  refine thn (run_fnQ F hr (hx σ) I r2 hsp) fun w s' hz => ?_
  obtain ⟨z, H', I', rz, r, ez, q⟩ := hz
  subst ez
  cases rz
  exact ⟨.bl r, H', I', rfl, q⟩
def bothC (c : Str) (x y : D) : Bool := clsD x == some c && clsD y == some c
def boolR (o : Out Rv) : Out Rv := o.bind fun r ρ => match boolD r with
  | some k => .ok (.sh (.bool k)) ρ
  | none => .st
def cEqO (c : Str) (n : Nat) (φ : Co Rv) (a b : Co D) : Co Rv := fun ρ => (a ρ).bind fun x ρ1 => (b ρ1).bind fun y ρ2 => if bothC c x y = true then boolR (runC n φ [.inl x, .inl y] ρ2) else .st
theorem cls_of {c : Str} {C : Addr} {v : V} {x : D} (hC : mg c = some (.ref C)) (k : Vr K mg F v x) (e : clsD x = some c) : ∃ a dx vs, v = .ref a ∧ F a = some (.ins C dx vs) := by
  cases k with
  | @ob a C' dx c' vs fs h1 h2 h3 h4 =>
    have e : some c' = some c := e
    cases e
    have : C' = C := by
      rw [h1] at hC
      injection hC with hC
      injection hC
    subst this
    exact ⟨a, dx, vs, rfl, h2⟩
  | _ => cases e
theorem boolR_fin {o : Out Rv} {Q : VK} (h : Fin K mg f σ W (rO K mg) (boolR o) F Q) : Fin K mg f σ W (rO K mg) o F (fun v H' => ∃ r, v = .bl r ∧ Q (.bl r) H') :=
  (Fin.bind (R := rO K mg) h).mono fun v H1 ⟨x, ρ1, F1, g1, S1, s1, k1, q1⟩ => by
    cases k1 with
    | ow k => exact q1.elim
    | sh k =>
      cases k with
      | bo b => exact ⟨b, rfl, fin_sh S1 q1 (.bo b)⟩
      | _ => exact q1.elim
section
variable {a b : Expr} {ca cb : Co D} {pos : Pos} {k n : Nat} {C : Addr} {c : Str} {φ : Co Rv} {fs : List Str}
theorem r_eqO (hC : mg c = some (.ref C)) : ∀ σ H Q, tO K mg W (cEqO c n φ ca cb) σ H Q → tOpS (rEqO C (spM K mg n φ) (WE W)) (tE K mg W ca) (tE K mg W cb) σ H Q := fun σ H Q ⟨f, F, ρ, g, S, q⟩ =>
  ⟨f, F, ρ, g, S, (Fin.bind (R := rD K mg) q).mono fun v H1 ⟨x, ρ1, F1, g1, S1, s1, k1, q1⟩ => ⟨f, F1, ρ1, g1, S1, (Fin.bind (R := rD K mg) q1).mono fun w H2 ⟨y, ρ2, F2, g2, S2, s2, k2, q2⟩ => by
    by_cases hc : bothC c x y = true
    · have q2 : Fin K mg f σ W (rO K mg) (if bothC c x y = true then boolR (runC n φ [.inl x, .inl y] ρ2) else .st) F2 Q := q2
      rw [if_pos hc] at q2
      unfold bothC at hc
      rw [Bool.and_eq_true] at hc
      have k1' : Vr K mg F2 v x := Vr.same s2 _ k1
      obtain ⟨a, dx, vs, rfl, h1⟩ := cls_of hC k1' (eq_of_beq hc.1)
      obtain ⟨b, dy, us, rfl, h2⟩ := cls_of hC k2 (eq_of_beq hc.2)
      exact ⟨a, b, dx, dy, vs, us, rfl, rfl, S2.sub _ _ h1, S2.sub _ _ h2, runC_ok S2 (.val k1' (.val k2 .nil)) (boolR_fin q2)⟩
    · have q2 : Fin K mg f σ W (rO K mg) (if bothC c x y = true then boolR (runC n φ [.inl x, .inl y] ρ2) else .st) F2 Q := q2
      rw [if_neg hc] at q2
      exact q2.elim⟩⟩
theorem pe_eqO (T : ClsF X.K X.mg c C fs) (M : Mc X.prog X.w X.K X.mg X.base k C "__eq__" n φ) (hr : Room k X.A) (hx : PsM X W) (ha : PE X a (tE X.K X.mg W ca)) (hb : PE X b (tE X.K X.mg W cb)) : PE X (.Compare a [.Eq] [b] pos) (tO X.K X.mg W (cEqO c n φ ca cb)) := PE.imp (pe_cmpS (op_eqOS M hr hx) ha hb (nomark _)) (r_eqO T.g)
theorem pt_eqO (T : ClsF X.K X.mg c C fs) (M : Mc X.prog X.w X.K X.mg X.base k C "__eq__" n φ) (hr : Room k X.A) (hx : PsM X W) (ha : PE X a (tE X.K X.mg W ca)) (hb : PE X b (tE X.K X.mg W cb)) : PT X (.Compare a [.Eq] [b] pos) (tT X.K X.mg W (cTst (cEqO c n φ ca cb))) := PT.imp (pt_cmpS (op_eqOS M hr hx) ha hb (nomark _)) (r_tst (r_eqO T.g))
/-! ### in -/
def rInO (C : Addr) (sp : Sp) (E : L2.St → XK) : L2.St → R2 := fun σ x y H Q => ∃ b dy gs, y = .ref b ∧ H b = some (.ins C dy gs) ∧ sp [.ref b, x] H (fun v H' => ∃ r, v = .bl r ∧ Q (.bl r) H') (E σ)
theorem op_inO (M : Mc X.prog X.w X.K X.mg X.base k C "__contains__" n φ) (hr : Room k X.A) (hx : PsM X W) : OpS X (compareOp .In) (rInO C (spM X.K X.mg n φ) (WE W)) := by
  intro pins s σ H x y v u Q I rx ry hq
  obtain ⟨fA, me, F⟩ := M
  obtain ⟨b, dy, gs, rfl, hb', hsp⟩ := hq
  cases ry
  obtain ⟨mB, J', _⟩ := ins_get I.hok hb'
  obtain ⟨od', J', _⟩ := J'.look
  obtain ⟨m, hF⟩ := I.fr
  have r2 : Vals [V.ref b, x] [Value.ref b, v] := .cons rfl (.cons rx .nil)
  refine PySem.W.in_K hF I.ok.mod.kin J' me.at_ me.fn (thn (run_fnQ F hr (hx σ) I r2 hsp) fun w s' hz => ?_)
  obtain ⟨z, H', I', rz, r, ez, q⟩ := hz
  subst ez
  cases rz
  exact wpAny_truthy_bool ⟨.bl r, H', I', rfl, q⟩
def rNinO (C : Addr) (sp : Sp) (E : L2.St → XK) : L2.St → R2 := fun σ x y H Q => ∃ b dy gs, y = .ref b ∧ H b = some (.ins C dy gs) ∧ sp [.ref b, x] H (fun v H' => ∃ r, v = .bl r ∧ Q (.bl (!r)) H') (E σ)
theorem op_ninO (M : Mc X.prog X.w X.K X.mg X.base k C "__contains__" n φ) (hr : Room k X.A) (hx : PsM X W) : OpS X (compareOp .NotIn) (rNinO C (spM X.K X.mg n φ) (WE W)) := by
  intro pins s σ H x y v u Q I rx ry hq
  obtain ⟨fA, me, F⟩ := M
  obtain ⟨b, dy, gs, rfl, hb', hsp⟩ := hq
  cases ry
  obtain ⟨mB, J', _⟩ := ins_get I.hok hb'
  obtain ⟨od', J', _⟩ := J'.look
  obtain ⟨m, hF⟩ := I.fr
  have r2 : Vals [V.ref b, x] [Value.ref b, v] := .cons rfl (.cons rx .nil)
  refine PySem.W.notIn_K hF I.ok.mod.kin J' me.at_ me.fn (thn (run_fnQ F hr (hx σ) I r2 hsp) fun w s' hz => ?_)
  obtain ⟨z, H', I', rz, r, ez, q⟩ := hz
  subst ez
  cases rz
  exact wpAny_truthy_bool ⟨.bl (!r), H', I', rfl, q⟩
def notR (o : Out Rv) : Out Rv := o.bind fun r ρ => match boolD r with
  | some k => .ok (.sh (.bool (!k))) ρ
  | none => .st
theorem notR_fin {o : Out Rv} {Q : VK} (h : Fin K mg f σ W (rO K mg) (notR o) F Q) : Fin K mg f σ W (rO K mg) o F (fun v H' => ∃ r, v = .bl r ∧ Q (.bl (!r)) H') :=
  (Fin.bind (R := rO K mg) h).mono fun v H1 ⟨x, ρ1, F1, g1, S1, s1, k1, q1⟩ => by
    cases k1 with
    | ow k => exact q1.elim
    | sh k =>
      cases k with
      | bo b => exact ⟨b, rfl, fin_sh S1 q1 (.bo (!b))⟩
      | _ => exact q1.elim
def cInO (neg : Bool) (c : Str) (n : Nat) (φ : Co Rv) (a b : Co D) : Co Rv := fun ρ => (a ρ).bind fun x ρ1 => (b ρ1).bind fun y ρ2 => if (clsD y == some c) = true then (if neg then notR (runC n φ [.inl y, .inl x] ρ2) else boolR (runC n φ [.inl y, .inl x] ρ2)) else .st
theorem r_inO (hC : mg c = some (.ref C)) : ∀ σ H Q, tO K mg W (cInO false c n φ ca cb) σ H Q → tOpS (rInO C (spM K mg n φ) (WE W)) (tE K mg W ca) (tE K mg W cb) σ H Q := fun σ H Q ⟨f, F, ρ, g, S, q⟩ =>
  ⟨f, F, ρ, g, S, (Fin.bind (R := rD K mg) q).mono fun v H1 ⟨x, ρ1, F1, g1, S1, s1, k1, q1⟩ => ⟨f, F1, ρ1, g1, S1, (Fin.bind (R := rD K mg) q1).mono fun w H2 ⟨y, ρ2, F2, g2, S2, s2, k2, q2⟩ => by
    have q2 : Fin K mg f σ W (rO K mg) (if (clsD y == some c) = true then boolR (runC n φ [.inl y, .inl x] ρ2) else .st) F2 Q := q2
    by_cases hc : (clsD y == some c) = true
    · rw [if_pos hc] at q2
      have k1' : Vr K mg F2 v x := Vr.same s2 _ k1
      obtain ⟨b, dy, us, rfl, h2⟩ := cls_of hC k2 (eq_of_beq hc)
      exact ⟨b, dy, us, rfl, S2.sub _ _ h2, runC_ok S2 (.val k2 (.val k1' .nil)) (boolR_fin q2)⟩
    · rw [if_neg hc] at q2
      exact q2.elim⟩⟩
theorem r_ninO (hC : mg c = some (.ref C)) : ∀ σ H Q, tO K mg W (cInO true c n φ ca cb) σ H Q → tOpS (rNinO C (spM K mg n φ) (WE W)) (tE K mg W ca) (tE K mg W cb) σ H Q := fun σ H Q ⟨f, F, ρ, g, S, q⟩ =>
  ⟨f, F, ρ, g, S, (Fin.bind (R := rD K mg) q).mono fun v H1 ⟨x, ρ1, F1, g1, S1, s1, k1, q1⟩ => ⟨f, F1, ρ1, g1, S1, (Fin.bind (R := rD K mg) q1).mono fun w H2 ⟨y, ρ2, F2, g2, S2, s2, k2, q2⟩ => by
    have q2 : Fin K mg f σ W (rO K mg) (if (clsD y == some c) = true then notR (runC n φ [.inl y, .inl x] ρ2) else .st) F2 Q := q2
    by_cases hc : (clsD y == some c) = true
    · rw [if_pos hc] at q2
      have k1' : Vr K mg F2 v x := Vr.same s2 _ k1
      obtain ⟨b, dy, us, rfl, h2⟩ := cls_of hC k2 (eq_of_beq hc)
      exact ⟨b, dy, us, rfl, S2.sub _ _ h2, runC_ok S2 (.val k2 (.val k1' .nil)) (notR_fin q2)⟩
    · rw [if_neg hc] at q2
      exact q2.elim⟩⟩
theorem pe_inO (T : ClsF X.K X.mg c C fs) (M : Mc X.prog X.w X.K X.mg X.base k C "__contains__" n φ) (hr : Room k X.A) (hx : PsM X W) (ha : PE X a (tE X.K X.mg W ca)) (hb : PE X b (tE X.K X.mg W cb)) (hm : behindInMarks .In b = false) : PE X (.Compare a [.In] [b] pos) (tO X.K X.mg W (cInO false c n φ ca cb)) := PE.imp (pe_cmpS (op_inO M hr hx) ha hb hm) (r_inO T.g)
theorem pt_inO (T : ClsF X.K X.mg c C fs) (M : Mc X.prog X.w X.K X.mg X.base k C "__contains__" n φ) (hr : Room k X.A) (hx : PsM X W) (ha : PE X a (tE X.K X.mg W ca)) (hb : PE X b (tE X.K X.mg W cb)) (hm : behindInMarks .In b = false) : PT X (.Compare a [.In] [b] pos) (tT X.K X.mg W (cTst (cInO false c n φ ca cb))) := PT.imp (pt_cmpS (op_inO M hr hx) ha hb hm) (r_tst (r_inO T.g))
theorem pe_ninO (T : ClsF X.K X.mg c C fs) (M : Mc X.prog X.w X.K X.mg X.base k C "__contains__" n φ) (hr : Room k X.A) (hx : PsM X W) (ha : PE X a (tE X.K X.mg W ca)) (hb : PE X b (tE X.K X.mg W cb)) (hm : behindInMarks .NotIn b = false) : PE X (.Compare a [.NotIn] [b] pos) (tO X.K X.mg W (cInO true c n φ ca cb)) := PE.imp (pe_cmpS (op_ninO M hr hx) ha hb hm) (r_ninO T.g)
theorem pt_ninO (T : ClsF X.K X.mg c C fs) (M : Mc X.prog X.w X.K X.mg X.base k C "__contains__" n φ) (hr : Room k X.A) (hx : PsM X W) (ha : PE X a (tE X.K X.mg W ca)) (hb : PE X b (tE X.K X.mg W cb)) (hm : behindInMarks .NotIn b = false) : PT X (.Compare a [.NotIn] [b] pos) (tT X.K X.mg W (cTst (cInO true c n φ ca cb))) := PT.imp (pt_cmpS (op_ninO M hr hx) ha hb hm) (r_tst (r_ninO T.g))
end
/-! ### operators -/
theorem binop_T {prog : Program} {w : World} {A : Around} {E : Value → Shared → Prop} {s : Shared} {x C L fA : Addr} {h₀ : Heap} {m : Str → Option Value} {ox : Obj} {od : Option Obj} {op : Operator} {b : Value} {T : String} {Q : Value → Shared → Prop} (Fr0 : Fr h₀ L s.heap m) (X₀ : K.In h₀) (I : PySem.W.InstAt s.heap x ox C od) (hb : PySem.W.Looks (model prog w) s.heap (typeOf b) (.type T)) (hc : PySem.W.selfFirst K C = true)
    (hT : ∀ {A : Around} {E : Value → Shared → Prop} {Q : Bool → Shared → Prop} {s : Shared}, Q false s → wpAny (model prog w) A (fillsNumberSlot (.type T) op.info.2) Q E s)
    (hs : PySem.W.findIn K (.ref C) (PySem.dunder op.info.2) = some (some (.ref fA))) (hf : PySem.W.isFn K (.ref fA) = true)
    (h : wpAny (model prog w) A (call (.ref fA) [.ref x, b]) (PySem.W.CmpBack Q) E s) : wpAny (model prog w) A (binaryOp op (.ref x) b) Q E s := by
  have X := X₀.keeps Fr0.keep
  obtain ⟨cd, hcd, hm⟩ := PySem.W.any_some hc
  obtain ⟨rest, hm⟩ : ∃ rest, cd.mro = .ref C :: rest := by
    cases q : cd.mro with
    | nil => rw [q] at hm; cases hm
    | cons a r => rw [q] at hm; exact ⟨r, by rw [List.head?_cons] at hm; cases (beq_iff_eq.mp hm); rfl⟩
  unfold binaryOp
  refine wpAny_holding (wpAny_bind ?_)
  unfold binaryOp1
  have hne : ((Value.ref C) == (Value.type T)) = false := rfl
  refine wpAny_bind (I.type.here (wpAny_bind (hb.here (wpAny_bind ((PySem.W.fills_K X hcd hm hs).here ?_)))))
  simp only [hne, Bool.false_eq_true, if_false]
  refine wpAny_bind (hT ?_)
  simp only [Bool.and_false, Bool.false_eq_true, if_false, Bool.false_and, if_true]
  refine wpAny_bind (wpAny_pure ?_)
  simp only [Bool.false_eq_true, if_false]
  refine wpAny_bind (m := tryMethod (.ref x) _ b) ?_
  unfold tryMethod
  refine wpAny_bind (PySem.W.special_fn X I hs (beq_iff_eq.mp hf) (wpAny_mono h (fun v s' hv => ?_) fun _ _ e => e))
  cases v <;> first | exact hv.elim | exact wpAny_pure (wpAny_pure (wpAny_pure hv))
end Md
/-! Md18: a - b, a | b .. of one's own classes; errors without fields. -/
namespace Md
open PySem PySem.Spec PyProof.Rows L2
variable {K : PySem.W.Frag} {mg : Str → Option Value} {F F' H H' : Hp} {f : Fm} {σ : L2.St} {ρ : Sto} {g : Addr → Option Ow} {W : WX} {X : Cx} {Dn : Ends}
def rOpT (K : PySem.W.Frag) (C : Addr) (sp : Sp) (E : L2.St → XK) : L2.St → R2 := fun σ x y H Q => ∃ a dx fs b ys, x = .ref a ∧ H a = some (.ins C dx fs) ∧ y = .ref b ∧ SqT K H b ys ∧ sp [.ref a, y] H Q (E σ)
theorem cmpBack_of {pins : List (Addr × Obj)} {Q : VK} {s : Shared} {u : Value} (h : EP X pins σ Q u s) : PySem.W.CmpBack (EP X pins σ Q) u s := by
  obtain ⟨v, H', I, r, q⟩ := h
  cases v with
  | non => cases r; exact ⟨.non, H', I, rfl, q⟩
  | bl b => cases r; exact ⟨.bl b, H', I, rfl, q⟩
  | int i => obtain ⟨t, rfl⟩ := r; exact ⟨.int i, H', I, ⟨t, rfl⟩, q⟩
  | str i => obtain ⟨t, rfl⟩ := r; exact ⟨.str i, H', I, ⟨t, rfl⟩, q⟩
  | byt i => obtain ⟨t, rfl⟩ := r; exact ⟨.byt i, H', I, ⟨t, rfl⟩, q⟩
  | flt i => obtain ⟨t, rfl⟩ := r; exact ⟨.flt i, H', I, ⟨t, rfl⟩, q⟩
  | ref a => cases r; exact ⟨.ref a, H', I, rfl, q⟩
  | ty n => cases r; exact ⟨.ty n, H', I, rfl, q⟩
theorem fills_tuple_sub {M : Model} {A : Around} {E : Value → Shared → Prop} {Q : Bool → Shared → Prop} {s : Shared} (h : Q false s) : wpAny M A (fillsNumberSlot (.type "tuple") "sub") Q E s := by
  rw [show fillsNumberSlot (.type "tuple") "sub" = pure false from by kernel_rfl]
  exact wpAny_pure h
section
variable {k n : Nat} {C : Addr} {φ : Co Rv} {op : Operator}
theorem op_opT (M : Mc X.prog X.w X.K X.mg X.base k C (PySem.dunder op.info.2) n φ) (sf : PySem.W.selfFirst X.K C = true) (hT : ∀ {A : Around} {E : Value → Shared → Prop} {Q : Bool → Shared → Prop} {s : Shared}, Q false s → wpAny (model X.prog X.w) A (fillsNumberSlot (.type "tuple") op.info.2) Q E s) (hr : Room k X.A) (hx : PsM X W) :
    OpS X (binaryOp op) (rOpT X.K C (spM X.K X.mg n φ) (WE W)) := by
  intro pins s σ H x y v u Q I rx ry hq
  obtain ⟨fA, me, Fn⟩ := M
  obtain ⟨a, dx, fs, b, ys, rfl, ha, rfl, hb, hsp⟩ := hq
  cases rx
  cases ry
  obtain ⟨mA, J, _⟩ := ins_get I.hok ha
  obtain ⟨od, J, _⟩ := J.look
  obtain ⟨its, rv, ⟨o, ho, hc, _⟩, _⟩ := I.tuple hb
  obtain ⟨m, hF⟩ := I.fr
  have r2 : Vals [V.ref a, .ref b] [Value.ref a, .ref b] := .cons rfl (.cons rfl .nil)
  refine binop_T (T := "tuple") hF I.ok.mod.kin J (fun A Q E s k q => wpAny_typeOf_ref (k _ _ ho) (by rw [hc]; exact q)) sf hT me.at_ me.fn (thn (run_fnQ Fn hr (hx σ) I r2 hsp) fun w s' hz => cmpBack_of hz)
def rOpO (C : Addr) (sp : Sp) (E : L2.St → XK) : L2.St → R2 := fun σ x y H Q => ∃ a dx fs b dy gs, x = .ref a ∧ H a = some (.ins C dx fs) ∧ y = .ref b ∧ H b = some (.ins C dy gs) ∧ sp [x, y] H Q (E σ)
theorem op_opO (M : Mc X.prog X.w X.K X.mg X.base k C (PySem.dunder op.info.2) n φ) (sf : PySem.W.selfFirst X.K C = true) (hr : Room k X.A) (hx : PsM X W) : OpS X (binaryOp op) (rOpO C (spM X.K X.mg n φ) (WE W)) := by
  intro pins s σ H x y v u Q I rx ry hq
  obtain ⟨fA, me, Fn⟩ := M
  obtain ⟨a, dx, fs, b, dy, gs, rfl, ha, rfl, hb, hsp⟩ := hq
  cases rx
  cases ry
  obtain ⟨mA, J, _⟩ := ins_get I.hok ha
  obtain ⟨od, J, _⟩ := J.look
  obtain ⟨mB, J', _⟩ := ins_get I.hok hb
  obtain ⟨od', J', _⟩ := J'.look
  obtain ⟨m, hF⟩ := I.fr
  have r2 : Vals [V.ref a, .ref b] [Value.ref a, .ref b] := .cons rfl (.cons rfl .nil)
  refine PySem.W.binop_K hF I.ok.mod.kin J J'.type sf me.at_ me.fn (thn (run_fnQ Fn hr (hx σ) I r2 hsp) fun w s' hz => cmpBack_of hz)
end
def isTupD : D → Bool
  | .tuple _ => true
  | _ => false
def cOpT (c : Str) (n : Nat) (φ : Co Rv) (a b : Co D) : Co Rv := fun ρ => (a ρ).bind fun x ρ1 => (b ρ1).bind fun y ρ2 => if (clsD x == some c && isTupD y) = true then runC n φ [.inl x, .inl y] ρ2 else .st
def cOpO (c : Str) (n : Nat) (φ : Co Rv) (a b : Co D) : Co Rv := fun ρ => (a ρ).bind fun x ρ1 => (b ρ1).bind fun y ρ2 => if bothC c x y = true then runC n φ [.inl x, .inl y] ρ2 else .st
section
variable {a b : Expr} {ca cb : Co D} {pos : Pos} {k n : Nat} {C : Addr} {c : Str} {φ : Co Rv} {fs : List Str} {op : Operator}
theorem r_opT (hC : mg c = some (.ref C)) : ∀ σ H Q, tO K mg W (cOpT c n φ ca cb) σ H Q → tOpS (rOpT K C (spM K mg n φ) (WE W)) (tE K mg W ca) (tE K mg W cb) σ H Q := fun σ H Q ⟨f, F, ρ, g, S, q⟩ =>
  ⟨f, F, ρ, g, S, (Fin.bind (R := rD K mg) q).mono fun v H1 ⟨x, ρ1, F1, g1, S1, s1, k1, q1⟩ => ⟨f, F1, ρ1, g1, S1, (Fin.bind (R := rD K mg) q1).mono fun w H2 ⟨y, ρ2, F2, g2, S2, s2, k2, q2⟩ => by
    have q2 : Fin K mg f σ W (rO K mg) (if (clsD x == some c && isTupD y) = true then runC n φ [.inl x, .inl y] ρ2 else .st) F2 Q := q2
    by_cases hc : (clsD x == some c && isTupD y) = true
    · rw [if_pos hc] at q2
      rw [Bool.and_eq_true] at hc
      have k1' : Vr K mg F2 v x := Vr.same s2 _ k1
      obtain ⟨a, dx, vs, rfl, h1⟩ := cls_of hC k1' (eq_of_beq hc.1)
      have k2' := k2
      cases k2 with
      | @tu b ys _ h3 h4 => exact ⟨a, dx, vs, b, ys, rfl, S2.sub _ _ h1, rfl, Same.sqT S2.sub h3, runC_ok S2 (.val k1' (.val k2' .nil)) q2⟩
      | _ => cases hc.2
    · rw [if_neg hc] at q2
      exact q2.elim⟩⟩
theorem r_opO (hC : mg c = some (.ref C)) : ∀ σ H Q, tO K mg W (cOpO c n φ ca cb) σ H Q → tOpS (rOpO C (spM K mg n φ) (WE W)) (tE K mg W ca) (tE K mg W cb) σ H Q := fun σ H Q ⟨f, F, ρ, g, S, q⟩ =>
  ⟨f, F, ρ, g, S, (Fin.bind (R := rD K mg) q).mono fun v H1 ⟨x, ρ1, F1, g1, S1, s1, k1, q1⟩ => ⟨f, F1, ρ1, g1, S1, (Fin.bind (R := rD K mg) q1).mono fun w H2 ⟨y, ρ2, F2, g2, S2, s2, k2, q2⟩ => by
    have q2 : Fin K mg f σ W (rO K mg) (if bothC c x y = true then runC n φ [.inl x, .inl y] ρ2 else .st) F2 Q := q2
    by_cases hc : bothC c x y = true
    · rw [if_pos hc] at q2
      unfold bothC at hc
      rw [Bool.and_eq_true] at hc
      have k1' : Vr K mg F2 v x := Vr.same s2 _ k1
      obtain ⟨a, dx, vs, rfl, h1⟩ := cls_of hC k1' (eq_of_beq hc.1)
      obtain ⟨b, dy, us, rfl, h2⟩ := cls_of hC k2 (eq_of_beq hc.2)
      exact ⟨a, dx, vs, b, dy, us, rfl, S2.sub _ _ h1, rfl, S2.sub _ _ h2, runC_ok S2 (.val k1' (.val k2 .nil)) q2⟩
    · rw [if_neg hc] at q2
      exact q2.elim⟩⟩
theorem pe_subT (T : ClsF X.K X.mg c C fs) (M : Mc X.prog X.w X.K X.mg X.base k C "__sub__" n φ) (sf : PySem.W.selfFirst X.K C = true) (hr : Room k X.A) (hx : PsM X W) (ha : PE X a (tE X.K X.mg W ca)) (hb : PE X b (tE X.K X.mg W cb)) : PE X (.BinOp a .Sub b pos) (tO X.K X.mg W (cOpT c n φ ca cb)) :=
  PE.imp (pe_opS (op_opT (op := .Sub) M sf fills_tuple_sub hr hx) ha hb) (r_opT T.g)
theorem pe_opO (op : Operator) (T : ClsF X.K X.mg c C fs) (M : Mc X.prog X.w X.K X.mg X.base k C (PySem.dunder op.info.2) n φ) (sf : PySem.W.selfFirst X.K C = true) (hr : Room k X.A) (hx : PsM X W) (ha : PE X a (tE X.K X.mg W ca)) (hb : PE X b (tE X.K X.mg W cb)) : PE X (.BinOp a op b pos) (tO X.K X.mg W (cOpO c n φ ca cb)) :=
  PE.imp (pe_opS (op_opO M sf hr hx) ha hb) (r_opO T.g)
end
end Md
/-! Md19: errors without fields, raised. -/
namespace Md
open PySem PySem.Spec PyProof.Rows L2
variable {K : PySem.W.Frag} {mg : Str → Option Value} {F F' H H' : Hp} {f : Fm} {σ : L2.St} {ρ : Sto} {g : Addr → Option Ow} {W : WX} {X : Cx} {Dn : Ends}
theorem mk_endN0 {pins : List (Addr × Obj)} {σ : L2.St} {H1 H2 : Hp} {hp hp2 h2 : Heap} {g1 g2 : Array GenState} {d1 d2 : Drawn} {t1 t2 : Nat} {os1 os2 : OsState} {a C : Addr} (I1 : Inv X pins σ H1 ⟨hp, g1, d1, t1, os1⟩)
    (ha : hp.objs.size ≤ a) (k : ∀ b o, hp.get? b = some o → hp2.get? b = some o) (un : Un (frs X.stack) [] (upd H1 a (exo a C none)) H2 hp2 h2) (hok : HOk X.prog X.w H2 h2) (ho : os2 = os1) (hb : AllBare g2)
    (ea : H2 a = some (exo a C none)) :
    ∃ (t0 : Addr) (G : Heap), Inv X pins σ (del H2 a) ⟨G, g2, d2, t2, os2⟩ ∧ (∀ b o, G.get? b = some o → h2.get? b = some o) ∧ G.get? a = none ∧
      h2.get? a = some ({ cls := .ref C, dict := none, data := .fields #[.ref t0, .none, .none, .none, .bool false, .none] } : Obj) := by
  obtain ⟨t0, hoe⟩ := exo_at hok ea
  have hn : H1 a = none := I1.hok.fresh ha
  obtain ⟨G, g1', g2'⟩ := restrict h2 fun b => decide (b ≠ a)
  have gk : ∀ b, b ≠ a → G.get? b = h2.get? b := fun b hb => g1' b (decide_eq_true hb)
  have ge : G.get? a = none := g2' a (by simp)
  have nha : ∀ {b : Addr} {o : Obj}, hp.get? b = some o → b ≠ a := fun {b o} z => Nat.ne_of_lt (Nat.lt_of_lt_of_le (Heap.lt_size z) ha)
  have up : ∀ {b : Addr}, b ≠ a → H1 b = none → upd H1 a (exo a C none) b = none := fun {b} hb n => by rw [upd_ne hb]; exact n
  have U : Un (frs X.stack) [] H1 (del H2 a) hp G := {
    keep := fun b o z n hf hx => by
      rw [gk b (nha z)]
      exact un.keep b o (k b o z) (up (nha z) n) hf hx
    slot := fun b o z n hf hx => by
      rw [gk b (nha z)]
      exact un.slot b o (k b o z) (up (nha z) n) hf hx
    free := fun b o z n hx => by
      rw [del_ne (nha z)]
      exact un.free b o (k b o z) (up (nha z) n) hx
    there := fun b o z hx => by
      rw [gk b (nha z)]
      exact un.there b o (k b o z) hx
    tups := fun b xs z => by
      rw [del_ne (ne_of_none z hn)]
      exact un.tups b xs (by rw [upd_ne (ne_of_none z hn)]; exact z)
    frzs := fun b o v z => by
      rw [del_ne (ne_of_none z hn)]
      exact un.frzs b o v (by rw [upd_ne (ne_of_none z hn)]; exact z)
    tbls := fun b ps z => by
      rw [del_ne (ne_of_none z hn)]
      exact un.tbls b ps (by rw [upd_ne (ne_of_none z hn)]; exact z) }
  have hok3 : HOk X.prog X.w (del H2 a) G := fun b o z => by
    have hba : b ≠ a := fun e => by
      rw [e, del_same] at z
      cases z
    rw [del_ne hba] at z
    have noa : ∀ {c : Addr}, H2 c = some (.own b) → c ≠ a := fun {c} hc => at_ne ea hc exo_own
    exact (hok b o z).stay (fun c v hc y => by
        have hca : c ≠ a := by
          rcases hc with hc | hc
          · rw [hc]
            exact hba
          · exact noa hc
        rw [gk c hca]
        exact y)
      (fun c hc => by rw [del_ne (noa hc)]; exact hc) (fun c xs hc => by rw [del_ne (at_ne ea hc exo_tup)]; exact hc)
  have J : Inv X pins σ (del H2 a) ⟨G, g2, d2, t2, os2⟩ := I1.call' (ch := []) ho U hok3 hb (fun b z => absurd z (by simp))
  refine ⟨t0, G, J, fun b o z => ?_, ge, hoe⟩
  by_cases hba : b = a
  · rw [hba, ge] at z
    cases z
  · exact (gk b hba).symm.trans z
/-- C(), an __init__ that stores nothing -/
def tMkN (C : Addr) (sp : Sp) : L2.St → Hp → XK → Prop := fun σ H Q => ∀ a, H a = none → sp [.ref a] (upd H a (exo a C none))
  (fun v H2 => v = .non ∧ H2 a = some (exo a C none) ∧ Q (.ref C) none (del H2 a)) (fun _ _ _ => False)
theorem pmk_oex0 {CX : CXT} {x : Str} {p pos : Pos} {C fI : Addr} {k : Nat} {fd : FuncData} {ps : List Str} {sp : Sp} (T : OexC X.K C) (iC : PySem.W.findIn X.K (.ref C) "__init__" = some (some (.ref fI))) (tI : PySem.W.typeIn X.K (.ref fI) = some (.type "function"))
    (F1 : FnOk X.prog X.w X.K X.mg X.base CX k fI fd ps sp) (hr : Room (k + 1) X.A) (hb : Binds X.K fd ps []) (hx : Passes CX X (fun _ _ _ => False)) (hg : Gl X x) (hm : X.mg x = some (.ref C))
    (hdb : (x == ("__debug__" : Str)) = false := by decide) :
    PMk X (.Call (.Name x p) [] [] pos) (tMkN C sp) := by
  intro pins s σ H Q I h
  obtain ⟨nm, q, N, bs, bm, sn, sub, ab, col, dd, k0, k1, k2, k3, k5, hC, hbm⟩ := T.cls
  refine wpAny_Call_Name_kw (ld_glob I hg hm ?_ hdb)
  refine PySem.W.callWith_K0 I.kIn T.kC ?_
  show wpAny _ _ (call (.ref C) []) _ _ _
  obtain ⟨hp, g, dr, tk, os⟩ := s
  have hsz : hp.objs.size ≤ hp.objs.size + 1 := Nat.le_succ _
  have hn : H (hp.objs.size + 1) = none := I.hok.fresh hsz
  have hq := h (hp.objs.size + 1) hn
  have kk : ∀ b o, hp.get? b = some o → ((hp.push (PySem.W.kdv_tup [])).push (PySem.HandSPX.excO C hp.objs.size)).get? b = some o := fun b o e => Heap.get?_push_of_some _ (Heap.get?_push_of_some _ e)
  have hget : ((hp.push (PySem.W.kdv_tup [])).push (PySem.HandSPX.excO C hp.objs.size)).get? (hp.objs.size + 1) = some (PySem.HandSPX.excO C hp.objs.size) := by heap_get
  have I2 : Inv X pins σ (upd H (hp.objs.size + 1) (exo (hp.objs.size + 1) C none)) ⟨(hp.push (PySem.W.kdv_tup [])).push (PySem.HandSPX.excO C hp.objs.size), g, dr, tk, os⟩ :=
    I.laid (t' := tk) (a := hp.objs.size + 1) (o := exo (hp.objs.size + 1) C none) (h' := (hp.push (PySem.W.kdv_tup [])).push (PySem.HandSPX.excO C hp.objs.size)) kk hsz (exo_ok hget)
  have r2 : Vals [V.ref (hp.objs.size + 1)] [Value.ref (hp.objs.size + 1)] := .cons rfl .nil
  have hl : ([Value.ref (hp.objs.size + 1)] ++ []).length = ps.length := (F1.len _ _ _ _ hq)
  refine wpAny_call (PySem.HandSPX.call_own F.excBase_ValueError (fun Y => PySem.HandSPX.refsVE_contains Y bm hbm) (I.kIn _ _ hC) (PySem.W.looks_findIn I.kIn iC) (fun self => PySem.W.bind_fn I.kIn self tI) (Nat.zero_le _)
    (codeAny_mono (F1.run _ X.stack _ _ ⟨[Value.ref (hp.objs.size + 1)], []⟩ ([Value.ref (hp.objs.size + 1)] ++ []) _ _ (fun _ _ _ => False) (hr.make C [] []) (I2.env0.make C [] []) (hb _ [Value.ref (hp.objs.size + 1)] I2.kIn hl) r2 hq) fun r s' hq' => ?_))
  cases r with
  | error er => exact hx pins σ _ _ er s' I2 hq'
  | ok fl =>
    cases fl with
    | ret u =>
      obtain ⟨v, H2, os2, bare2, un2, hok2, rv, ev, ea, q2⟩ := hq'
      subst ev
      obtain ⟨h2, g2, d2, t2, os'⟩ := s'
      obtain ⟨t0, G, J, kG, ge, hoe⟩ := mk_endN0 (d2 := d2) (t2 := t2) I hsz kk un2 hok2 os2 bare2 ea
      exact ⟨rv, ⟨hp.objs.size + 1, _, _, ⟨G, g2, d2, t2, os'⟩, _, .ref C, none, rfl, J, kG, ge, hoe, ⟨rfl, rfl⟩, rfl, rfl, del_same, rfl, bare2, raises_own T.exC T.tyC, q2⟩⟩
    | next => exact False.elim hq'
    | brk => exact False.elim hq'
    | cont => exact False.elim hq'
def cRaise0 (c : Str) : Co Fl := fun ρ => .er ⟨c, []⟩ ρ
theorem ps_raise0M {p pos pos' : Pos} {c : Str} {C : Addr} (B : ErC X.prog X.w X.K X.mg X.base c C []) (hc : X.calm = true) (tk : Takes X W) (hr : Room 2 X.A) (hg : Gl X c) (hdb : (c == ("__debug__" : Str)) = false := by decide) :
    PS X (.Raise (some (.Call (.Name c p) [] [] pos)) none pos') (tS X.K X.mg W (cRaise0 c)) := by
  obtain ⟨fI, fd, ps, iC, tI, FB, bB⟩ := B.ok
  refine PS.imp (ps_raise hc tk (pmk_oex0 B.ox iC tI FB hr bB pass0 hg B.g hdb)) fun Dn σ H ⟨f, F, ρ, g, S, q⟩ => fun a na => ⟨a, [], rfl, rfl, upd_same, (fun v hv => by cases hv), fun H2 k2 ex2 => ⟨rfl, ?_⟩⟩
  have e2 : H2 a = some (exo a C none) := by
    rcases ex2 with ⟨_, z⟩ | ⟨ne, _⟩
    · exact z
    · exact absurd rfl ne
  refine ⟨e2, ?_⟩
  have keep : Same H (del H2 a) := fun b o e => by
    have hb : b ≠ a := ne_of_same e na
    rw [del_ne hb]
    exact k2 b o (by rw [upd_ne hb]; exact e) hb
  exact q (.ref C) none σ F (del H2 a) g (S.grow (Same.refl F) (S.sub.trans keep) keep fun b o e => .inl e) (Same.refl F) (.nil B.g)
end Md
/-! Md20: try, with clauses of both kinds. -/
namespace Md
open PySem PySem.Spec PyProof.Rows L2
variable {K : PySem.W.Frag} {mg : Str → Option Value} {F F' H H' : Hp} {f : Fm} {σ : L2.St} {ρ : Sto} {g : Addr → Option Ow} {W : WX} {X : Cx} {Dn : Ends}
abbrev TSx := Addr → Value → Option Addr → TS
def resD (D : Ends) (i : Nat) : Ends := { nx := fun σ2 H2 => D.nx (σ2.set i none) H2, rt := D.rt, bk := fun σ2 H2 => D.bk (σ2.set i none) H2, ct := fun σ2 H2 => D.ct (σ2.set i none) H2 }
def runX : Option Nat → TSx → TSx
  | none, ts => ts
  | some i, ts => fun a cls d D σ H => ts a cls d (resD D i) (σ.set i (some (.ref a))) H
def wX (K : PySem.W.Frag) (Wout : WX) (D : Ends) : List (Value × TSx) → WX
  | [] => Wout
  | (c, ts) :: r => fun cls d σ H => ∃ b, PySem.W.exmOne K cls c = some b ∧ (b = true → ∀ a, H a = none → ts a cls d D σ H) ∧ (b = false → wX K Wout D r cls d σ H)
inductive HdX (X : Cx) : List ExceptHandler → List (Value × TSx) → Prop
  | nil : HdX X [] []
  | one {x : Str} {c : Value} {ts : TSx} {b₀ : Stmt} {suite : List Stmt} {np pos' : Pos} {hds : List ExceptHandler} {l : List (Value × TSx)} (hc : Names X x c)
      (hsu : ∀ (a : Addr) (oe : Obj) (cls : Value) (d : Option Addr) (pn : List (Addr × Obj)), Zc cls d oe → (∃ vs, oe.data = .fields vs) → PSs (X.suite a ((a, oe) :: pn)) (b₀ :: suite) (ts a cls d)) (r : HdX X hds l) :
      HdX X (.ExceptHandler (some (.Name x np)) none (b₀ :: suite) pos' :: hds) ((c, ts) :: l)
  | as {x n : Str} {i : Nat} {c : Value} {ts : TSx} {b₀ : Stmt} {suite : List Stmt} {np pos' : Pos} {hds : List ExceptHandler} {l : List (Value × TSx)} (hc : Names X x c) (hN : X.N.Nodup) (hi : X.N[i]? = some n) (hln : X.env.kindOf n = some .local)
      (hsu : ∀ (a : Addr) (oe : Obj) (cls : Value) (d : Option Addr) (pn : List (Addr × Obj)), Zc cls d oe → (∃ vs, oe.data = .fields vs) → PSs (X.suite a ((a, oe) :: pn)) (b₀ :: suite) (ts a cls d)) (r : HdX X hds l) :
      HdX X (.ExceptHandler (some (.Name x np)) (some n) (b₀ :: suite) pos' :: hds) ((c, runX (some i) ts) :: l)
section
variable {body : List Stmt} {h₀ : ExceptHandler} {hds : List ExceptHandler} {l : List (Value × TSx)} {pos : Pos} {tb : WX → TS} {Wout : WX}
theorem ps_tryX (hs : X.stack = X.env :: X.outer) (hf : X.env.frame = some X.env.locals) (tk : Takes X Wout)
    (hb : ∀ (W : WX) (pn : List (Addr × Obj)) (xe : Value → Shared → Prop), Takes (X.tr pn xe) W → PassesOwn (model X.prog X.w) X.A X.env xe → PSs (X.tr pn xe) body (tb W))
    (hh : HdX X (h₀ :: hds) l) : PS X (.Try body (h₀ :: hds) [] [] pos) (fun D σ H => tb (wX X.K Wout D l) D σ H) := by
  refine ⟨fun pins s σ H D I h => ?_⟩
  have ok := I.ok
  have hfr : X.A.frames = some (X.env :: X.outer) := by rw [ok.frames, hs]
  refine wpAny_Try_except ?_
  refine wpAny_mono ((hb (wX X.K Wout D l) (X.pn ++ pins) (fun e s₁ => wpAny (model X.prog X.w) X.A (noteFrame e X.env) (fun _ s₂ => wpAny (model X.prog X.w) X.A (setFlight e none) (fun _ s₃ =>
    wpAny (model X.prog X.w) X.A (handleBy e X.env (h₀ :: hds)) (SP X pins D) X.xe s₃) X.xe s₂) X.xe s₁) (fun u s' xx => ?_) PassesOwn.looking).run [] s σ H D (I.toTry _) h) (fun f s1 hsp => ?_) (fun e s1 he => he)
  · -- the catch
    obtain ⟨a, B, sI, pins', σ', H', cls, d, rfl, J', nb, up, sky, na, os, ag, w⟩ := xx
    have J : Inv X pins σ' H' sI := J'.ofTry ok
    have sky' : Sky B (X.env :: X.outer) a (Zc cls d) X.env.locals s'.heap := by rw [← hs]; exact sky
    show wpAny (model X.prog X.w) X.A (noteFrame (.ref a) X.env) _ _ _
    refine Sky.land Zc.steady hfr hf sky' fun h3 fl3 up3 => ?_
    have J3 : Inv X pins σ' H' { s' with heap := h3 } := J.landed nb fl3.1 (up.trans up3) os ag
    obtain ⟨oe3, vs3, he3, hz3, hd3⟩ := fl3.there
    have notFr : ∀ {h : Heap} {o : Obj} {vs : Array Value}, h.FunFrames B (X.env :: X.outer) → h.get? a = some o → o.data = .fields vs → a ∉ frs (X.env :: X.outer) := fun {h o vs} ff e dd hm => by
      obtain ⟨_, o', e', hnf⟩ := ff.mem hm
      rw [e] at e'; cases e'
      exact hnf _ dd
    have nfr := notFr fl3.2.2.1 he3 hd3
    have nL : a ≠ X.env.locals := fun z => nfr (List.mem_filterMap.mpr ⟨X.env, List.mem_cons_self, by rw [hf, z]⟩)
    have nF : a ∉ X.fs := fun hm => by
      obtain ⟨e, he, q⟩ := List.mem_filterMap.mp hm
      exact nfr (List.mem_filterMap.mpr ⟨e, List.mem_cons_of_mem _ he, q⟩)
    have S3 := J3.suite he3 hd3 na nL nF
    have go : ∀ {hds' : List ExceptHandler} {l' : List (Value × TSx)}, HdX X hds' l' → wX X.K Wout D l' cls d σ' H' →
        wpAny (model X.prog X.w) X.A (handleBy (.ref a) X.env hds') (SP X pins D) X.xe { s' with heap := h3 } := by
      intro hds' l' hk
      induction hk with
      | nil =>
        intro w
        refine wpAny_handleBy_nil ?_
        obtain ⟨k1, k2, k3, oe, vs, T, oT, ts', he, hz, hd, h1, hr⟩ := id fl3
        unfold PySem.passOn
        refine wpAny_bind (wpAny_field he hd h1 ?_)
        rw [if_neg (show ¬ ((Value.ref T == Value.none) = true) from by simp)]
        have fin : wpAny (model X.prog X.w) X.A (setFlight (.ref a) X.env.frame) (fun _ s4 => wpAny (model X.prog X.w) X.A (throw (.ref a) : Sem Flow) (SP X pins D) X.xe s4) X.xe { s' with heap := h3 } := by
          rw [hf]
          refine HandSPX.setFlight_upZ fl3 fun h4 hh4 up4 => wpAny_throw (tk _ _ ?_)
          exact ⟨a, B, sI, pins, σ', H', cls, d, rfl, J, nb, (up.trans up3).trans up4, .inr (.inr (by rw [hs]; exact hh4)), na, os, ag, w⟩
        first
          | exact wpAny_bind (wpAny_pure (wpAny_bind fin))
          | exact wpAny_bind fin
      | @one x c ts b₀ suite np pos' hds2 l2 hc hsu r ih =>
        intro w
        obtain ⟨b, hb1, hyes, hno⟩ := w
        refine wpAny_handleBy_cons (codeAny_handlers_test ?_) (by intro q; cases q)
        have LT : PySem.W.Looks (model X.prog X.w) h3 (typeOf (.ref a)) cls := fun A Q E s k q => wpAny_typeOf_ref (k _ _ he3) (by rw [hz3.1]; exact q)
        have LM := PySem.W.exm_one (M := model X.prog X.w) (J3.kIn) LT hb1
        have test : ∀ {Q : Value → Shared → Prop} {E : Value → Shared → Prop}, Q c { s' with heap := h3 } → wpAny (model X.prog X.w) (X.A.mark (some (.ref a))) (eval (.Name x np) X.env) Q E { s' with heap := h3 } := fun {Q E} q => by
          obtain ⟨hg, hdbg, hm | ⟨hm, hv, hnn⟩⟩ := hc
          · exact ld_glob (X := X.suite a ((a, oe3) :: (X.pn ++ pins))) S3 hg hm q hdbg
          · exact ld_blt (X := X.suite a ((a, oe3) :: (X.pn ++ pins))) S3 hg hm hv q hnn hdbg
        refine test (LM.here ?_)
        cases b with
        | true =>
          refine codeAny_handlers_suite ?_
          refine HandSPX.lands_againZ fl3 fun h4 fl4 up4 => ?_
          have J4 : Inv X pins σ' H' { s' with heap := h4 } := J.landed nb fl4.1 ((up.trans up3).trans up4) os ag
          obtain ⟨oe4, vs4, he4, hz4, hd4⟩ := fl4.there
          have S4 := J4.suite he4 hd4 na nL nF
          refine wpAny_mono ((hsu a oe4 cls d (X.pn ++ pins) hz4 ⟨_, hd4⟩).run [] _ _ H' _ S4 (hyes rfl a na)) (fun f s6 hsp => ?_) (fun _ _ z => False.elim z)
          cases f with
          | next =>
            obtain ⟨σ6, H6, S6, q6⟩ := hsp
            exact ⟨_, _, S6.unsuite ok, q6⟩
          | brk =>
            obtain ⟨σ6, H6, S6, q6⟩ := hsp
            exact ⟨_, _, S6.unsuite ok, q6⟩
          | cont =>
            obtain ⟨σ6, H6, S6, q6⟩ := hsp
            exact ⟨_, _, S6.unsuite ok, q6⟩
          | ret u =>
            obtain ⟨v6, σ6, H6, S6, r6, q6⟩ := hsp
            exact ⟨_, _, _, S6.unsuite ok, r6, q6⟩
        | false =>
          show wpAny _ X.A (handleBy (.ref a) X.env hds2) _ _ _
          exact ih (hno rfl)
      | @as x n i c ts b₀ suite np pos' hds2 l2 hc hN hi hln hsu r ih =>
        intro w
        have hloc : Loc X.env.scope n := .inl hln
        obtain ⟨b, hb1, hyes, hno⟩ := w
        refine wpAny_handleBy_cons (codeAny_handlers_test ?_) (by intro q; cases q)
        have LT : PySem.W.Looks (model X.prog X.w) h3 (typeOf (.ref a)) cls := fun A Q E s k q => wpAny_typeOf_ref (k _ _ he3) (by rw [hz3.1]; exact q)
        have LM := PySem.W.exm_one (M := model X.prog X.w) (J3.kIn) LT hb1
        have test : ∀ {Q : Value → Shared → Prop} {E : Value → Shared → Prop}, Q c { s' with heap := h3 } → wpAny (model X.prog X.w) (X.A.mark (some (.ref a))) (eval (.Name x np) X.env) Q E { s' with heap := h3 } := fun {Q E} q => by
          obtain ⟨hg, hdbg, hm | ⟨hm, hv, hnn⟩⟩ := hc
          · exact ld_glob (X := X.suite a ((a, oe3) :: (X.pn ++ pins))) S3 hg hm q hdbg
          · exact ld_blt (X := X.suite a ((a, oe3) :: (X.pn ++ pins))) S3 hg hm hv q hnn hdbg
        refine test (LM.here ?_)
        cases b with
        | true =>
          refine codeAny_handlers_suite_as ?_
          refine HandSPX.lands_againZ fl3 fun h4 fl4 up4 => ?_
          have J4 : Inv X pins σ' H' { s' with heap := h4 } := J.landed nb fl4.1 ((up.trans up3).trans up4) os ag
          obtain ⟨oe4, vs4, he4, hz4, hd4⟩ := fl4.there
          have S4 := J4.suite he4 hd4 na nL nF
          refine store_ok (X := X.suite a ((a, oe4) :: (X.pn ++ pins))) (v := .ref a) S4 hN hi hloc rfl (fun s5 S5 => ?_) (.inr hln)
          refine wpAny_mono ((hsu a oe4 cls d (X.pn ++ pins) hz4 ⟨_, hd4⟩).run [] s5 _ H' _ S5 (hyes rfl a na)) (fun f s6 hsp => ?_) (fun _ _ z => False.elim z)
          have fin6 : ∀ {σ6 : L2.St} {H6 : Hp} {Q : Shared → Prop}, Inv (X.suite a ((a, oe4) :: (X.pn ++ pins))) [] σ6 H6 s6 → (∀ s7, Inv X pins (σ6.set i none) H6 s7 → Q s7) →
              wpAny (model X.prog X.w) X.A (do bindName X.env n .none; unbindBehindTheSuite X.env n pos') (fun _ s7 => Q s7) X.xe s6 := fun {σ6 H6 Q} S6 hq => gone_ok (S6.unsuite ok) hN hi hln hq
          cases f with
          | next =>
            obtain ⟨σ6, H6, S6, q6⟩ := hsp
            exact fin6 S6 fun s7 J7 => ⟨_, _, J7, q6⟩
          | brk =>
            obtain ⟨σ6, H6, S6, q6⟩ := hsp
            exact fin6 S6 fun s7 J7 => ⟨_, _, J7, q6⟩
          | cont =>
            obtain ⟨σ6, H6, S6, q6⟩ := hsp
            exact fin6 S6 fun s7 J7 => ⟨_, _, J7, q6⟩
          | ret u =>
            obtain ⟨v6, σ6, H6, S6, r6, q6⟩ := hsp
            exact fin6 S6 fun s7 J7 => ⟨_, _, _, J7, r6, q6⟩
        | false =>
          show wpAny _ X.A (handleBy (.ref a) X.env hds2) _ _ _
          exact ih (hno rfl)
    exact go hh w
  · cases f with
    | next =>
      obtain ⟨σ', H', J', q⟩ := hsp
      exact wpAny_execs_nil ⟨σ', H', J'.ofTry ok, q⟩
    | brk =>
      obtain ⟨σ', H', J', q⟩ := hsp
      exact ⟨σ', H', J'.ofTry ok, q⟩
    | cont =>
      obtain ⟨σ', H', J', q⟩ := hsp
      exact ⟨σ', H', J'.ofTry ok, q⟩
    | ret u =>
      obtain ⟨v, σ', H', J', r, q⟩ := hsp
      exact ⟨v, σ', H', J'.ofTry ok, r, q⟩
end
end Md
/-! Md21: try over data. -/
namespace Md
open PySem PySem.Spec PyProof.Rows L2
variable {K : PySem.W.Frag} {mg : Str → Option Value} {F F' H H' : Hp} {f : Fm} {σ : L2.St} {ρ : Sto} {g : Addr → Option Ow} {W Wout : WX} {X : Cx} {Dn : Ends}
abbrev Hd := (Str → Option Bool) × (Ex → Co Fl)
def catchX : List Hd → Ex → Co Fl
  | [], x => fun ρ => .er x ρ
  | h :: r, x => fun ρ => match h.1 x.c with
    | some true => h.2 x ρ
    | some false => catchX r x ρ
    | none => .st
def cTry (c : Co Fl) (hs : List Hd) : Co Fl := fun ρ => match c ρ with
  | .er x ρ' => catchX hs x ρ'
  | o => o
/-- a clause does what h says -/
structure HdR (K : PySem.W.Frag) (mg : Str → Option Value) (Wout : WX) (p : Value × TSx) (h : Hd) : Prop where
  mt : ∀ c C b, h.1 c = some b → mg c = some (.ref C) → PySem.W.exmOne K (.ref C) p.1 = some b
  run : ∀ x cls d a f F ρ g σ H Dn, SR K mg f F H σ ρ g → ErR K mg F x cls d → H a = none → FinS K mg f Wout (h.2 x ρ) F Dn → p.2 a cls d Dn σ H
theorem ErR.cls {x : Ex} {cls : Value} {d : Option Addr} (h : ErR K mg F x cls d) : ∃ C, cls = .ref C ∧ mg x.c = some (.ref C) := by
  cases h with
  | nil h => exact ⟨_, rfl, h⟩
  | fld h => exact ⟨_, rfl, h⟩
theorem ErR.same {x : Ex} {cls : Value} {d : Option Addr} (s : Same F F') (h : ErR K mg F x cls d) : ErR K mg F' x cls d := by
  cases h with
  | nil h => exact .nil h
  | fld h h1 h2 => exact .fld h (s _ _ h1) (VrF.same s _ h2)
inductive HdsR (K : PySem.W.Frag) (mg : Str → Option Value) (Wout : WX) : List (Value × TSx) → List Hd → Prop
  | nil : HdsR K mg Wout [] []
  | cons {p : Value × TSx} {h : Hd} {l : List (Value × TSx)} {hs : List Hd} : HdR K mg Wout p h → HdsR K mg Wout l hs → HdsR K mg Wout (p :: l) (h :: hs)
theorem catch_ok : ∀ {l : List (Value × TSx)} {hs : List Hd}, HdsR K mg Wout l hs → ∀ {x : Ex} {cls : Value} {d : Option Addr}, SR K mg f F H σ ρ g → ErR K mg F x cls d → FinS K mg f Wout (catchX hs x ρ) F Dn → wX K Wout Dn l cls d σ H
  | _, _, .nil, x, cls, d, S, e, q => q cls d σ F H g S (Same.refl F) e
  | _, _, .cons (p := p) (h := h) (l := l) (hs := hs) hr r, x, cls, d, S, e, q => by
    have q : FinS K mg f Wout (match h.1 x.c with | some true => h.2 x ρ | some false => catchX hs x ρ | none => .st) F Dn := q
    obtain ⟨C, rfl, hC⟩ := e.cls
    cases hz : h.1 x.c with
    | none => rw [hz] at q; exact q.elim
    | some b =>
      rw [hz] at q
      refine ⟨b, hr.mt x.c C b hz hC, fun hb a na => ?_, fun hb => ?_⟩
      · subst hb
        exact hr.run x _ d a f F ρ g σ H Dn S e na q
      · subst hb
        exact catch_ok r S e q
theorem r_try {c : Co Fl} {hs : List Hd} {l : List (Value × TSx)} (hr : HdsR K mg Wout l hs) : ∀ Dn σ H, tS K mg Wout (cTry c hs) Dn σ H → tS K mg (wX K Wout Dn l) c Dn σ H := fun Dn σ H ⟨f, F, ρ, g, S, q⟩ => by
  refine ⟨f, F, ρ, g, S, ?_⟩
  have q : FinS K mg f Wout (match c ρ with | .er x ρ' => catchX hs x ρ' | o => o) F Dn := q
  cases hc : c ρ with
  | st => rw [hc] at q; exact q.elim
  | er x ρ' =>
    rw [hc] at q
    exact fun cls d σ' F' H' g' S' s' e => catch_ok hr S' e (q.weak s')
  | ok fl ρ' =>
    rw [hc] at q
    cases fl with
    | nx => exact q
    | bk => exact q
    | ct => exact q
    | rt r => exact q
section
variable {body : List Stmt} {h₀ : ExceptHandler} {hds : List ExceptHandler} {l : List (Value × TSx)} {hs : List Hd} {pos : Pos} {c : Co Fl}
theorem ps_tryM (h1 : X.stack = X.env :: X.outer) (hf : X.env.frame = some X.env.locals) (tk : Takes X Wout)
    (hb : ∀ (W : WX) (pn : List (Addr × Obj)) (xe : Value → Shared → Prop), Takes (X.tr pn xe) W → PassesOwn (model X.prog X.w) X.A X.env xe → PSs (X.tr pn xe) body (tS X.K X.mg W c))
    (hh : HdX X (h₀ :: hds) l) (hr : HdsR X.K X.mg Wout l hs) : PS X (.Try body (h₀ :: hds) [] [] pos) (tS X.K X.mg Wout (cTry c hs)) := PS.imp (ps_tryX h1 hf tk hb hh) fun Dn σ H q => r_try hr Dn σ H q
end
/-- a clause whose suite does not look at the error -/
def noErF (o : Out Fl) : Out Fl := match o with
  | .er _ _ => .st
  | o => o
theorem FinS.noEr {o : Out Fl} (h : FinS K mg f W (noErF o) F Dn) : FinS K mg f WF o F Dn := by
  cases o with
  | st => exact h
  | er x ρ => exact h.elim
  | ok a ρ => cases a with
    | nx => exact h
    | bk => exact h
    | ct => exact h
    | rt r => exact h
def hPlain (m : Str → Option Bool) (c : Co Fl) : Hd := (m, fun _ ρ => noErF (c ρ))
theorem hdr_plain {cv : Value} {m : Str → Option Bool} {c : Co Fl} (hm : ∀ c C b, m c = some b → mg c = some (.ref C) → PySem.W.exmOne K (.ref C) cv = some b) : HdR K mg Wout (cv, fun _ _ _ => tS K mg WF c) (hPlain m c) :=
  ⟨hm, fun x cls d a f F ρ g σ H Dn S e na q => ⟨f, F, ρ, g, S, q.noEr⟩⟩
/-- e's slot comes and goes -/
def resO (i : Nat) (o : Out Fl) : Out Fl := match o with
  | .st => .st
  | .ok (.rt r) ρ => .ok (.rt r) ρ
  | .ok fl ρ => .ok fl (ρ.set i .un)
  | .er _ _ => .st
def freeI (ρ : Sto) (i : Nat) : Bool := match ρ[i]? with
  | some (.ow true _) => false
  | none => false
  | _ => true
def hAs (m : Str → Option Bool) (i : Nat) (c : Ex → Co Fl) : Hd := (m, fun x ρ => if freeI ρ i = true then resO i (c x (ρ.set i .un)) else .st)
theorem hdr_as {cv : Value} {m : Str → Option Bool} {i : Nat} {c : Ex → Co Fl} {ts : TSx} (hm : ∀ c C b, m c = some b → mg c = some (.ref C) → PySem.W.exmOne K (.ref C) cv = some b)
    (hrun : ∀ (x : Ex) (cls : Value) (d : Option Addr) (a : Addr) (f : Fm) (F : Hp) (ρ : Sto) (g : Addr → Option Ow) (σ : L2.St) (H : Hp) (Dn : Ends), SR K mg f F H (σ.set i (some (.ref a))) ρ g → ErR K mg F x cls d → H a = none → i < σ.length → FinS K mg f WF (c x ρ) F Dn → ts a cls d Dn (σ.set i (some (.ref a))) H) : HdR K mg Wout (cv, runX (some i) ts) (hAs m i c) := by
  refine ⟨hm, fun x cls d a f F ρ g σ H Dn S e na q => ?_⟩
  have q : FinS K mg f Wout (if freeI ρ i = true then resO i (c x (ρ.set i .un)) else .st) F Dn := q
  by_cases hfr : freeI ρ i = true
  · rw [if_pos hfr] at q
    obtain ⟨s, hs, hn⟩ : ∃ s, ρ[i]? = some s ∧ ∀ m, s ≠ .ow true m := by
      unfold freeI at hfr
      cases hz : ρ[i]? with
      | none => rw [hz] at hfr; cases hfr
      | some s =>
        rw [hz] at hfr
        refine ⟨s, rfl, fun m z => ?_⟩
        rw [z] at hfr
        cases hfr
    have hroot := S.noroot hs hn
    have hl : i < σ.length := by rw [S.len]; exact (List.getElem?_eq_some_iff.mp hs).1
    refine hrun x cls d a f F (ρ.set i .un) g σ H (resD Dn i) (S.setUn hroot) e na hl ?_
    generalize c x (ρ.set i .un) = o at q
    cases o with
    | st => exact q
    | er x ρ => exact q.elim
    | ok fl ρ' =>
      cases fl with
      | nx => exact fun σ' F' H' g' S' s' => q _ F' H' g' (S'.setUn hroot) s'
      | bk => exact fun σ' F' H' g' S' s' => q _ F' H' g' (S'.setUn hroot) s'
      | ct => exact fun σ' F' H' g' S' s' => q _ F' H' g' (S'.setUn hroot) s'
      | rt r => exact fun v σ' F' H' g' S' s' kr => q v σ' F' H' g' S' s' kr
  · rw [if_neg hfr] at q
    exact q.elim
end Md
/-! Md22: classes that are made, by name. -/
namespace Md
open PySem PySem.Spec PyProof.Rows L2
variable {K : PySem.W.Frag} {mg : Str → Option Value} {W : WX} {X : Cx}
/-- C is made by an __init__ with nf named parameters (self among them), keywords ks, and *rest -/
def MkV (P : Program) (w : World) (K : PySem.W.Frag) (mg : Str → Option Value) (base : Heap) (k : Nat) (C : Addr) (nf : Nat) (ks : List Str) (φ : Co Rv) : Prop := ∃ fA, Mk K C fA ∧ FnV P w K mg base k fA nf ks φ
def MkQ (P : Program) (w : World) (K : PySem.W.Frag) (mg : Str → Option Value) (base : Heap) (k : Nat) (C : Addr) (n : Nat) (φ : Co Rv) : Prop := ∃ fA, Mk K C fA ∧ FnQ P w K mg base k fA n φ
def IniV (K : PySem.W.Frag) (C : Addr) (qual : Str) (st : Stmt) : Prop := ∃ fA, Mk K C fA ∧ FunV K "__init__" qual st fA
def IniQ (K : PySem.W.Frag) (C : Addr) (qual : Str) (st : Stmt) : Prop := ∃ fA fd, Mk K C fA ∧ FunD K "__init__" qual (defArgs st) (defBody st) (defScope st) [] [] fA fd
section
variable {P : Program} {w : World} {base : Heap} {qual : Str} {st : Stmt} {N ps ks : List Str} {pv : Str} {k nf : Nat} {c : Co Fl} {C : Addr}
theorem mkv_of (hd : IniV K C qual st) (S : FnScope N (ps ++ [pv]) (defScope st)) (hps : ps.length = nf + ks.length) (hB : BindV "__init__" qual st nf ks ps pv)
    (hbody : ∀ (fA : Addr) (cdv : Value) (A : Around) (outer : List Env) (s : Shared) (H : Hp) (E : XK), Room k (A.deeper (envOfC qual (defScope st) s.heap.objs.size fA cdv)) → PSs (cxOf (L2.CX P w) P w K mg base N qual (defScope st) fA cdv A outer s H E) (defBody st) (tS K mg (WA E) c)) :
    MkV P w K mg base (k + 1) C nf ks (fnC (nf + ks.length + 1) N.length c) := by
  obtain ⟨fA, h1, h2⟩ := hd
  exact ⟨fA, h1, fnV_of h2 S hps hB (hbody fA)⟩
theorem mkq_of (hd : IniQ K C qual st) (S : FnScope N ps (defScope st)) (hB : BindOk "__init__" qual st ps)
    (hbody : ∀ (fA : Addr) (cdv : Value) (A : Around) (outer : List Env) (s : Shared) (H : Hp) (E : XK), Room k (A.deeper (envOfC qual (defScope st) s.heap.objs.size fA cdv)) → PSs (cxOf (L2.CX P w) P w K mg base N qual (defScope st) fA cdv A outer s H E) (defBody st) (tS K mg (WA E) c)) :
    MkQ P w K mg base (k + 1) C ps.length (fnC ps.length N.length c) := by
  obtain ⟨fA, fd, h1, F⟩ := hd
  exact ⟨fA, h1, fnQ_of (fn_okM F S (hbody fA)) (F.bindsN hB)⟩
end
section
variable {e : Expr} {es : List Expr} {kws : List Keyword} {r : Co Ar} {kw : Co (List D)} {pos p : Pos} {k nf n : Nat} {C : Addr} {φ : Co Rv} {c : Str} {ks fs : List Str}
theorem pe_mkVK (T : ClsF X.K X.mg c C fs) (M : MkV X.prog X.w X.K X.mg X.base k C nf ks φ) (hr : Room (k + 1) X.A) (hg : Gl X c) (hx : PsM X W) (ha : PA X (e :: es) (tAg X.K X.mg W r)) (hkw : PK X kws (tAs X.K X.mg W kw))
    (hall : (backToKw pos (keywordEach kws X.env)).all (·.1.isSome) = true := by rfl) (hks : (backToKw pos (keywordEach kws X.env)).filterMap (·.1) = ks := by rfl) (hdb : (c == ("__debug__" : Str)) = false := by decide)
    (he : starEach (e :: es) X.env = (false, eval e X.env) :: starEach es X.env := by rfl) (hpl : ((backTo pos (starEach (e :: es) X.env)).any (·.1) || (backToKw pos (keywordEach kws X.env)).any (·.1.isNone)) = false := by rfl) :
    PE X (.Call (.Name c p) (e :: es) kws pos) (tO X.K X.mg W (cMakeV c nf ks.length φ r kw)) := by
  obtain ⟨fA, h1, h2⟩ := M
  exact pe_makeVK h1 h2 hr hg T.g hx ha hkw hall hks hdb he hpl
theorem pe_mkVS (T : ClsF X.K X.mg c C fs) (M : MkV X.prog X.w X.K X.mg X.base k C nf ks φ) (hr : Room (k + 1) X.A) (hg : Gl X c) (hx : PsM X W) (ha : PA X (e :: es) (tAg X.K X.mg W r)) (hkw : PK X kws (tAs X.K X.mg W kw))
    (hall : (backToKw pos (keywordEach kws X.env)).all (·.1.isSome) = true := by rfl) (hks : (backToKw pos (keywordEach kws X.env)).filterMap (·.1) = ks := by rfl) (hdb : (c == ("__debug__" : Str)) = false := by decide)
    (he : starEach (e :: es) X.env = (false, eval e X.env) :: starEach es X.env := by rfl) (hst : ((backTo pos (starEach (e :: es) X.env)).any (·.1) || (backToKw pos (keywordEach kws X.env)).any (·.1.isNone)) = true := by rfl) :
    PE X (.Call (.Name c p) (e :: es) kws pos) (tO X.K X.mg W (cMakeV c nf ks.length φ r kw)) := by
  obtain ⟨fA, h1, h2⟩ := M
  exact pe_makeVS h1 h2 hr hg T.g hx ha hkw hall hks hdb he hst
theorem pe_mkV0 (T : ClsF X.K X.mg c C fs) (M : MkV X.prog X.w X.K X.mg X.base k C nf [] φ) (hr : Room (k + 1) X.A) (hg : Gl X c) (hx : PsM X W) (ha : PA X (e :: es) (tAg X.K X.mg W r)) (hdb : (c == ("__debug__" : Str)) = false := by decide)
    (he : starEach (e :: es) X.env = (false, eval e X.env) :: starEach es X.env := by rfl) (hpl : (backTo pos (starEach es X.env)).any (·.1) = false := by rfl) :
    PE X (.Call (.Name c p) (e :: es) [] pos) (tO X.K X.mg W (cMakeV c nf 0 φ r cNil)) := by
  obtain ⟨fA, h1, h2⟩ := M
  exact pe_makeV0 h1 h2 hr hg T.g hx ha hdb he hpl
theorem pe_mkV0S (T : ClsF X.K X.mg c C fs) (M : MkV X.prog X.w X.K X.mg X.base k C nf [] φ) (hr : Room (k + 1) X.A) (hg : Gl X c) (hx : PsM X W) (ha : PA X (e :: es) (tAg X.K X.mg W r)) (hdb : (c == ("__debug__" : Str)) = false := by decide)
    (he : starEach (e :: es) X.env = (false, eval e X.env) :: starEach es X.env := by rfl) (hst : (backTo pos (starEach es X.env)).any (·.1) = true := by rfl) :
    PE X (.Call (.Name c p) (e :: es) [] pos) (tO X.K X.mg W (cMakeV c nf 0 φ r cNil)) := by
  obtain ⟨fA, h1, h2⟩ := M
  exact pe_makeV0S h1 h2 hr hg T.g hx ha hdb he hst
theorem pe_mkQ (T : ClsF X.K X.mg c C fs) (M : MkQ X.prog X.w X.K X.mg X.base k C n φ) (hr : Room (k + 1) X.A) (hg : Gl X c) (hx : PsM X W) (ha : PA X (e :: es) (tAg X.K X.mg W r)) (hdb : (c == ("__debug__" : Str)) = false := by decide)
    (he : starEach (e :: es) X.env = (false, eval e X.env) :: starEach es X.env := by rfl) (hpl : (backTo pos (starEach es X.env)).any (·.1) = false := by rfl) : PE X (.Call (.Name c p) (e :: es) [] pos) (tO X.K X.mg W (cMake c n φ r)) := by
  obtain ⟨fA, h1, h2⟩ := M
  exact pe_makeM h1 h2 hr hg T.g hx ha hdb he hpl
end
end Md
/-! Md23: isinstance(e, (..)) of a caught error. -/
namespace Md
open PySem PySem.Spec PyProof.Rows L2
variable {X : Cx}
def rIsET (K : PySem.W.Frag) (cls : Value) (dd : Option Addr) (a : Addr) : List V → Hp → VK → Prop := fun xs H Q => ∃ (D tp : Addr) (cs : List V) (us : List Value) (b : Bool), cls = .ref D ∧ xs = [.ref a, .ref tp] ∧ H tp = some (.tup cs) ∧ Paired ClsV cs us ∧ PySem.W.kitAny K (.ref D) us = some b ∧ ExcC K D ∧ (dd = none ∨ ∃ d fs, dd = some d ∧ H d = some (.xd fs)) ∧ Q (.bl b) H
theorem call_isET {a : Addr} {cls : Value} {dd : Option Addr} {oe : Obj} {pn : List (Addr × Obj)} (hz : Zc cls dd oe) (hf : ∃ vs, oe.data = .fields vs) : CallR (X.suite a ((a, oe) :: pn)) (.builtin "isinstance") (rIsET X.K cls dd a) := by
  intro pins s σ H xs us Q I r h
  obtain ⟨D, tp, cs, ws, b, rfl, rfl, hT, kc, e, C, hdd, q⟩ := h
  obtain ⟨u1, u2, rfl, r1, r2⟩ := vals2 r
  cases (show u2 = Value.ref tp from r2)
  cases (show u1 = Value.ref a from r1)
  obtain ⟨_, its, rv, o, h1, h2, n, h3⟩ := (show ObjOk X.prog X.w H s.heap tp (.tup cs) from I.hok tp _ hT)
  have e3 := ClsV.all kc rv
  subst e3
  obtain ⟨oc, od, dt, sl⟩ := o
  simp only at h2 h3
  subst h2 h3
  obtain ⟨hget, _⟩ := I.pin (a, oe) (List.mem_append.mpr (.inl List.mem_cons_self))
  obtain ⟨vs, hv⟩ := hf
  have J : ∃ od, PySem.W.InstAt s.heap a oe D od := by
    obtain ⟨oc, od', oda, osl⟩ := oe
    obtain ⟨z1, z2⟩ := hz
    dsimp only at z1 z2 hv
    subst z1 z2 hv
    rcases hdd with rfl | ⟨d, fs, rfl, hd⟩
    · exact ⟨none, hget, rfl, rfl, trivial⟩
    · obtain ⟨mA, hns, _⟩ := (show ObjOk X.prog X.w H s.heap d (.xd fs) from I.hok d _ hd)
      obtain ⟨od, hod, _⟩ := lookIn_ns hns
      exact ⟨some od, hget, rfl, rfl, hod⟩
  obtain ⟨od2, J⟩ := J
  exact PySem.W.kia_tup (PySem.W.kitx_excA C.hg C.hk C.hs C.hd C.ha C.hn C.ht C.hm) I.kIn J h1 e (fun z => nomatch z) fun tk => ⟨.bl b, H, I.kept (t' := tk) fun _ _ z => z, rfl, q⟩
end Md
/-! Dt0: evaluating over data. -/
namespace Md
open PySem PySem.Spec PyProof.Rows L2
variable {α β γ δ : Type} {ρ ρ1 ρ2 ρ3 : Sto}
theorem bind_of {o : Out α} {k : α → Sto → Out β} {a : α} {ρ : Sto} (h : o = .ok a ρ) : o.bind k = k a ρ := by rw [h]; rfl
theorem cFz_of {c : Co Rv} {r : Rv} (h : c ρ = .ok r ρ1) : cFz c ρ = .ok r.toD ρ1 := by unfold cFz; rw [h]; rfl
theorem cSh_of {c : Co D} {r : D} (h : c ρ = .ok r ρ1) : cSh c ρ = .ok (.sh r) ρ1 := by unfold cSh; rw [h]; rfl
theorem cO_of {c : Co α} {k : α → Option β} {a : α} {b : β} (h : c ρ = .ok a ρ1) (e : k a = some b) : cO c k ρ = .ok b ρ1 := by unfold cO; rw [h]; show optO (k a) ρ1 = _; rw [e]; rfl
theorem c2_of {c : Co α} {e : Co β} {k : α → β → Option γ} {a : α} {b : β} {x : γ} (h : c ρ = .ok a ρ1) (h2 : e ρ1 = .ok b ρ2) (hk : k a b = some x) : c2 c e k ρ = .ok x ρ2 := by unfold c2; rw [h]; show (e ρ1).bind _ = _; rw [h2]; show optO (k a b) ρ2 = _; rw [hk]; rfl
theorem cVar_sh {i : Nat} {d : D} (h : ρ[i]? = some (.sh d)) : cVar i ρ = .ok (.sh d) ρ := by unfold cVar; rw [h]
theorem cVar_ow {i : Nat} {m : Mu} (h : ρ[i]? = some (.ow false m)) : cVar i ρ = .ok (.sh m.toD) (ρ.set i (.sh m.toD)) := by unfold cVar; rw [h]
/-- a comprehension whose turns leave the rest as it was -/
theorem lcL_pure {vs : List Nat} {b : D → Sto → Option Sto} {cd : Co Bool} {el : Co D} {ω : Sto} {p : D → Bool} {h : D → D} : ∀ {ds acc : List D} {ρ : Sto}, wipeS ρ vs = ω →
    (∀ d ∈ ds, ∃ ρ1 ρ2, b d ω = some ρ1 ∧ cd ρ1 = .ok (p d) ρ2 ∧ wipeS ρ2 vs = ω ∧ (p d = true → ∃ ρ3, el ρ2 = .ok (h d) ρ3 ∧ wipeS ρ3 vs = ω)) → acc.length + ds.length ≤ sizeLine →
    ∃ ρ', lcL vs b cd (elOne el) ds acc ρ = .ok (acc ++ (ds.filter p).map h) ρ' ∧ wipeS ρ' vs = ω
  | [], acc, ρ, hw, _, _ => ⟨ρ, by show Out.ok acc ρ = _; rw [List.filter_nil, List.map_nil, List.append_nil], hw⟩
  | d :: ds, acc, ρ, hw, H, hl => by
    obtain ⟨ρ1, ρ2, e1, e2, e3, e4⟩ := H d List.mem_cons_self
    have hl' : acc.length + (ds.length + 1) ≤ sizeLine := hl
    have unf : lcL vs b cd (elOne el) (d :: ds) acc ρ = (if p d = true then elOne el acc ρ2 else Out.ok acc ρ2).bind fun acc1 ρ3 => lcL vs b cd (elOne el) ds acc1 ρ3 := by
      show (match b d (wipeS ρ vs) with | none => Out.st | some ρ1 => (cd ρ1).bind fun k ρ2 => (if k = true then elOne el acc ρ2 else Out.ok acc ρ2).bind fun acc1 ρ3 => lcL vs b cd (elOne el) ds acc1 ρ3) = _
      rw [hw, e1]
      show (cd ρ1).bind _ = _
      rw [e2]
      rfl
    rw [unf]
    cases hp : p d with
    | false =>
      obtain ⟨ρ', h1, h2⟩ := lcL_pure (acc := acc) (p := p) (h := h) e3 (fun x m => H x (List.mem_cons_of_mem _ m)) (by omega)
      refine ⟨ρ', ?_, h2⟩
      rw [List.filter_cons_of_neg (by rw [hp]; intro z; cases z)]
      exact h1
    | true =>
      obtain ⟨ρ3, e5, e6⟩ := e4 hp
      obtain ⟨ρ', h1, h2⟩ := lcL_pure (acc := acc ++ [h d]) (p := p) (h := h) e6 (fun x m => H x (List.mem_cons_of_mem _ m)) (by rw [List.length_append]; simp; omega)
      refine ⟨ρ', ?_, h2⟩
      have e7 : elOne el acc ρ2 = .ok (acc ++ [h d]) ρ3 := by
        unfold elOne
        rw [if_pos (by omega), e5]
        rfl
      rw [if_pos rfl, e7, List.filter_cons_of_pos hp, List.map_cons]
      show lcL vs b cd (elOne el) ds (acc ++ [h d]) ρ3 = _
      rw [h1, List.append_assoc]
      rfl
theorem cLc_pure {vs : List Nat} {b : D → Sto → Option Sto} {s : Co (List D)} {cd : Co Bool} {el : Co D} {ds : List D} (p : D → Bool) (h : D → D) (hs : s ρ = .ok ds ρ1) (hf : freeS ρ1 vs = true)
    (H : ∀ d ∈ ds, ∃ ρa ρb, b d (wipeS ρ1 vs) = some ρa ∧ cd ρa = .ok (p d) ρb ∧ wipeS ρb vs = wipeS ρ1 vs ∧ (p d = true → ∃ ρc, el ρb = .ok (h d) ρc ∧ wipeS ρc vs = wipeS ρ1 vs)) (hl : ds.length ≤ sizeLine) :
    cLc vs b s cd el ρ = .ok (.ow (.lst ((ds.filter p).map h))) (wipeS ρ1 vs) := by
  obtain ⟨ρ', e1, e2⟩ := lcL_pure (acc := []) (ρ := ρ1) rfl H (by show 0 + ds.length ≤ sizeLine; omega)
  unfold cLc
  rw [hs]
  show (if freeS ρ1 vs = true then _ else _) = _
  rw [if_pos hf, e1]
  show Out.ok (Rv.ow (.lst ([] ++ (ds.filter p).map h))) (wipeS ρ' vs) = _
  rw [e2]
  rfl
end Md
namespace Md
open PySem PySem.Spec PyProof.Rows L2
section
variable {α β γ δ : Type} {ρ ρ1 ρ2 ρ3 : Sto}
theorem bind_congr' {o o' : Out α} {k : α → Sto → Out β} (h : o = o') : o.bind k = o'.bind k := by rw [h]
theorem bind_ok' (a : α) (ρ : Sto) (k : α → Sto → Out β) : (Out.ok a ρ).bind k = k a ρ := rfl
theorem bind_er' (x : Ex) (ρ : Sto) (k : α → Sto → Out β) : (Out.er x ρ : Out α).bind k = .er x ρ := rfl
def selK {α : Type} (k : Bool) (a b : Co α) : Co α := if k = true then a else b
theorem selK_t (a b : Co α) : selK true a b = a := rfl
theorem selK_f (a b : Co α) : selK false a b = b := rfl
theorem e_fz (c : Co Rv) (ρ : Sto) : cFz c ρ = (c ρ).bind fun r ρ1 => .ok r.toD ρ1 := rfl
theorem e_sh (c : Co D) (ρ : Sto) : cSh c ρ = (c ρ).bind fun r ρ1 => .ok (.sh r) ρ1 := rfl
theorem e_O (c : Co α) (k : α → Option β) (ρ : Sto) : cO c k ρ = (c ρ).bind fun x ρ1 => optO (k x) ρ1 := rfl
theorem optO_s (b : β) (ρ : Sto) : optO (some b) ρ = .ok b ρ := rfl
theorem e_2 (c : Co α) (e : Co β) (k : α → β → Option γ) (ρ : Sto) : c2 c e k ρ = (c ρ).bind fun x ρ1 => (e ρ1).bind fun y ρ2 => optO (k x y) ρ2 := rfl
theorem e_3 (c : Co α) (e : Co β) (h : Co γ) (k : α → β → γ → Option δ) (ρ : Sto) : c3 c e h k ρ = (c ρ).bind fun x ρ1 => (e ρ1).bind fun y ρ2 => (h ρ2).bind fun z ρ3 => optO (k x y z) ρ3 := rfl
def vS : Option Sl → Nat → Sto → Out Rv
  | some (.sh d), _, ρ => .ok (.sh d) ρ
  | some (.ow false m), i, ρ => .ok (.sh m.toD) (ρ.set i (.sh m.toD))
  | _, _, _ => .st
theorem e_var (i : Nat) (ρ : Sto) : cVar i ρ = vS ρ[i]? i ρ := by
  unfold cVar
  cases ρ[i]? with
  | none => rfl
  | some s =>
    cases s with
    | un => rfl
    | sh d => rfl
    | ow b m => cases b <;> rfl
theorem vS_sh (d : D) (i : Nat) (ρ : Sto) : vS (some (.sh d)) i ρ = .ok (.sh d) ρ := rfl
theorem vS_ow (m : Mu) (i : Nat) (ρ : Sto) : vS (some (.ow false m)) i ρ = .ok (.sh m.toD) (ρ.set i (.sh m.toD)) := rfl
theorem e_D (d : D) (ρ : Sto) : cD d ρ = .ok (.sh d) ρ := rfl
def seqK (b : Co Fl) : Fl → Sto → Out Fl
  | .nx, ρ => b ρ
  | fl, ρ => .ok fl ρ
theorem e_seq (a b : Co Fl) (ρ : Sto) : cSeq a b ρ = (a ρ).bind (seqK b) := by
  unfold cSeq
  cases a ρ with
  | st => rfl
  | er => rfl
  | ok fl ρ => cases fl <;> rfl
theorem seqK_nx (b : Co Fl) (ρ : Sto) : seqK b .nx ρ = b ρ := rfl
theorem seqK_rt (b : Co Fl) (r : Rv) (ρ : Sto) : seqK b (.rt r) ρ = .ok (.rt r) ρ := rfl
theorem seqK_ct (b : Co Fl) (ρ : Sto) : seqK b .ct ρ = .ok .ct ρ := rfl
theorem seqK_bk (b : Co Fl) (ρ : Sto) : seqK b .bk ρ = .ok .bk ρ := rfl
theorem e_if (c : Co Bool) (a b : Co α) (ρ : Sto) : cIf c a b ρ = (c ρ).bind fun k ρ1 => selK k a b ρ1 := by
  unfold cIf selK
  cases c ρ with
  | st => rfl
  | er => rfl
  | ok k ρ => cases k <;> rfl
def okK {α : Type} (a : α) : Co α := fun ρ => .ok a ρ
theorem okK_e (a : α) (ρ : Sto) : okK a ρ = .ok a ρ := rfl
theorem e_andT (a b : Co Bool) (ρ : Sto) : cAndT a b ρ = (a ρ).bind fun x ρ1 => selK x b (okK false) ρ1 := by
  unfold cAndT selK
  cases a ρ with
  | st => rfl
  | er => rfl
  | ok k ρ => cases k <;> rfl
theorem e_orT (a b : Co Bool) (ρ : Sto) : cOrT a b ρ = (a ρ).bind fun x ρ1 => selK x (okK true) b ρ1 := by
  unfold cOrT selK
  cases a ρ with
  | st => rfl
  | er => rfl
  | ok k ρ => cases k <;> rfl
theorem e_notT (a : Co Bool) (ρ : Sto) : cNotT a ρ = (a ρ).bind fun x ρ1 => .ok (!x) ρ1 := rfl
theorem e_tru (c : Co D) (ρ : Sto) : cTru c ρ = (c ρ).bind fun x ρ1 => optO (tru x) ρ1 := rfl
theorem e_tst (c : Co Rv) (ρ : Sto) : cTst c ρ = (c ρ).bind fun x ρ1 => optO (boolD x) ρ1 := rfl
theorem boolD_s (k : Bool) : boolD (.sh (.bool k)) = some k := rfl
def andK (x : D) (b : Co D) : Option Bool → Sto → Out D
  | some true, ρ => b ρ
  | some false, ρ => .ok x ρ
  | none, _ => .st
theorem e_and (a b : Co D) (ρ : Sto) : cAnd a b ρ = (a ρ).bind fun x ρ1 => andK x b (tru x) ρ1 := by
  unfold cAnd
  cases a ρ with
  | st => rfl
  | er => rfl
  | ok x ρ1 =>
    show (match tru x with | some true => b ρ1 | some false => Out.ok x ρ1 | none => Out.st) = andK x b (tru x) ρ1
    cases tru x with
    | none => rfl
    | some k => cases k <;> rfl
theorem andK_t (x : D) (b : Co D) (ρ : Sto) : andK x b (some true) ρ = b ρ := rfl
theorem andK_f (x : D) (b : Co D) (ρ : Sto) : andK x b (some false) ρ = .ok x ρ := rfl
def orK (x : D) (b : Co D) : Option Bool → Sto → Out D
  | some true, ρ => .ok x ρ
  | some false, ρ => b ρ
  | none, _ => .st
theorem e_or (a b : Co D) (ρ : Sto) : cOr a b ρ = (a ρ).bind fun x ρ1 => orK x b (tru x) ρ1 := by
  unfold cOr
  cases a ρ with
  | st => rfl
  | er => rfl
  | ok x ρ1 =>
    show (match tru x with | some true => Out.ok x ρ1 | some false => b ρ1 | none => Out.st) = orK x b (tru x) ρ1
    cases tru x with
    | none => rfl
    | some k => cases k <;> rfl
theorem orK_t (x : D) (b : Co D) (ρ : Sto) : orK x b (some true) ρ = .ok x ρ := rfl
theorem orK_f (x : D) (b : Co D) (ρ : Sto) : orK x b (some false) ρ = b ρ := rfl
theorem tru_b (k : Bool) : tru (.bool k) = some k := rfl
theorem e_cm (c : Cm) (a b : Co D) (ρ : Sto) : cCm c a b ρ = (a ρ).bind fun x ρ1 => (b ρ1).bind fun y ρ2 => optO ((cmp2 c x y).map fun k => .sh (.bool k)) ρ2 := rfl
def chK (c' : Cm) (y : D) (d : Co D) : Option Bool → Sto → Out Rv
  | some true, ρ => (d ρ).bind fun z ρ3 => optO ((cmp2 c' y z).map fun k => .sh (.bool k)) ρ3
  | some false, ρ => .ok (.sh (.bool false)) ρ
  | none, _ => .st
theorem e_chn (c c' : Cm) (a b d : Co D) (ρ : Sto) : cChn c c' a b d ρ = (a ρ).bind fun x ρ1 => (b ρ1).bind fun y ρ2 => chK c' y d (cmp2 c x y) ρ2 := by
  unfold cChn
  cases a ρ with
  | st => rfl
  | er => rfl
  | ok x ρ1 =>
    show (b ρ1).bind _ = (b ρ1).bind _
    cases b ρ1 with
    | st => rfl
    | er => rfl
    | ok y ρ2 =>
      show (match cmp2 c x y with | some true => ((d ρ2).bind fun z ρ3 => match cmp2 c' y z with | some k => .ok (.sh (.bool k)) ρ3 | none => .st) | some false => .ok (.sh (.bool false)) ρ2 | none => Out.st) = chK c' y d (cmp2 c x y) ρ2
      cases cmp2 c x y with
      | none => rfl
      | some k =>
        cases k with
        | false => rfl
        | true =>
          show (d ρ2).bind _ = (d ρ2).bind _
          cases d ρ2 with
          | st => rfl
          | er => rfl
          | ok z ρ3 =>
            show (match cmp2 c' y z with | some k => Out.ok (Rv.sh (.bool k)) ρ3 | none => Out.st) = optO ((cmp2 c' y z).map fun k => Rv.sh (.bool k)) ρ3
            cases cmp2 c' y z <;> rfl
theorem chK_t (c' : Cm) (y : D) (d : Co D) (ρ : Sto) : chK c' y d (some true) ρ = (d ρ).bind fun z ρ3 => optO ((cmp2 c' y z).map fun k => .sh (.bool k)) ρ3 := rfl
theorem chK_f (c' : Cm) (y : D) (d : Co D) (ρ : Sto) : chK c' y d (some false) ρ = .ok (.sh (.bool false)) ρ := rfl
theorem e_isN (n : Bool) (a : Co D) (ρ : Sto) : cIsN n a ρ = (a ρ).bind fun x ρ1 => .ok (.sh (.bool (if n then !isNone x else isNone x))) ρ1 := rfl
theorem e_idx (a b : Co D) (ρ : Sto) : cIdx a b ρ = (a ρ).bind fun x ρ1 => (b ρ1).bind fun y ρ2 => optO ((idxD x y).map .sh) ρ2 := rfl
theorem e_isi (t : Option String) (own : List (Str × Bool)) (a : Co D) (ρ : Sto) : cIsi t own a ρ = (a ρ).bind fun x ρ1 => optO ((isiD t own x).map fun k => .sh (.bool k)) ρ1 := rfl
theorem e_nil (ρ : Sto) : cNil ρ = .ok [] ρ := rfl
theorem e_cons (a : Co D) (r : Co (List D)) (ρ : Sto) : cCons a r ρ = (a ρ).bind fun x ρ1 => (r ρ1).bind fun xs ρ2 => .ok (x :: xs) ρ2 := rfl
theorem e_tup (r : Co (List D)) (ρ : Sto) : cTup r ρ = (r ρ).bind fun xs ρ1 => optO (if xs.length ≤ sizeLine then some (.sh (.tuple xs)) else none) ρ1 := rfl
theorem e_lst (r : Co (List D)) (ρ : Sto) : cLst r ρ = (r ρ).bind fun xs ρ1 => optO (if xs.length ≤ sizeLine then some (.ow (.lst xs)) else none) ρ1 := rfl
theorem e_ret (c : Co Rv) (ρ : Sto) : cRet c ρ = (c ρ).bind fun r ρ1 => .ok (.rt r) ρ1 := rfl
theorem e_nx (ρ : Sto) : cNx ρ = .ok .nx ρ := rfl
theorem e_ex (c : Co Rv) (ρ : Sto) : cEx c ρ = (c ρ).bind fun _ ρ1 => .ok .nx ρ1 := rfl
theorem e_set (i : Nat) (c : Co Rv) (ρ : Sto) : cSet i c ρ = (c ρ).bind fun r ρ1 => oNx (setRv ρ1 i r) := rfl
def sS : Option Sl → Sto → Nat → Sl → Option Sto
  | some (.ow true _), _, _, _ => none
  | some _, ρ, i, s => some (ρ.set i s)
  | none, _, _, _ => none
theorem e_setSl (ρ : Sto) (i : Nat) (s : Sl) : setSl ρ i s = sS ρ[i]? ρ i s := by
  unfold setSl sS
  cases ρ[i]? with
  | none => rfl
  | some u =>
    cases u with
    | un => rfl
    | sh => rfl
    | ow b m => cases b <;> rfl
theorem sS_un (ρ : Sto) (i : Nat) (s : Sl) : sS (some .un) ρ i s = some (ρ.set i s) := rfl
theorem sS_sh (d : D) (ρ : Sto) (i : Nat) (s : Sl) : sS (some (.sh d)) ρ i s = some (ρ.set i s) := rfl
theorem sS_ow (m : Mu) (ρ : Sto) (i : Nat) (s : Sl) : sS (some (.ow false m)) ρ i s = some (ρ.set i s) := rfl
theorem setRv_sh (ρ : Sto) (i : Nat) (d : D) : setRv ρ i (.sh d) = setSl ρ i (.sh d) := rfl
theorem setRv_ow (ρ : Sto) (i : Nat) (m : Mu) : setRv ρ i (.ow m) = setSl ρ i (.ow false m) := rfl
theorem oNx_s (ρ : Sto) : oNx (some ρ) = .ok .nx ρ := rfl
theorem toD_sh (d : D) : (Rv.sh d).toD = d := rfl
theorem toD_lst (ds : List D) : (Rv.ow (.lst ds)).toD = .list ds := rfl
theorem toD_obj (c : Str) (fs : List (D × D)) : (Rv.ow (.obj c fs)).toD = .dict ((.none, .str c) :: fs) := rfl
theorem muD_lst (ds : List D) : (Mu.lst ds).toD = .list ds := rfl
theorem muD_obj (c : Str) (fs : List (D × D)) : (Mu.obj c fs).toD = .dict ((.none, .str c) :: fs) := rfl
def parK (i j : Nat) : List D → Sto → Out Fl
  | [a, b], ρ => oNx ((setSl ρ i (.sh a)).bind fun ρ2 => setSl ρ2 j (.sh b))
  | _, _ => .st
theorem e_par (i j : Nat) (r : Co (List D)) (ρ : Sto) : cPar i j r ρ = (r ρ).bind (parK i j) := by
  unfold cPar
  cases r ρ with
  | st => rfl
  | er => rfl
  | ok ds ρ1 =>
    match ds with
    | [] => rfl
    | [_] => rfl
    | [_, _] => rfl
    | _ :: _ :: _ :: _ => rfl
theorem parK_e (i j : Nat) (a b : D) (ρ : Sto) : parK i j [a, b] ρ = oNx ((setSl ρ i (.sh a)).bind fun ρ2 => setSl ρ2 j (.sh b)) := rfl
theorem e_noP (ρ : Sto) : cNoP ρ = .ok none ρ := rfl
theorem e_smP (c : Co D) (ρ : Sto) : cSmP c ρ = (c ρ).bind fun x ρ1 => optO ((asInt x).map some) ρ1 := rfl
theorem e_sl (a : Co D) (lo hi : Co (Option Int)) (ρ : Sto) : cSl a lo hi ρ = (a ρ).bind fun x ρ1 => (lo ρ1).bind fun y ρ2 => (hi ρ2).bind fun z ρ3 => optO (slcD x y z) ρ3 := rfl
theorem e_not (c : Co D) (ρ : Sto) : cNot c ρ = (c ρ).bind fun x ρ1 => optO ((tru x).map fun k => .sh (.bool (!k))) ρ1 := rfl
theorem e_A0 (ρ : Sto) : cA0 ρ = .ok [] ρ := rfl
theorem e_Av (a : Co D) (r : Co Ar) (ρ : Sto) : cAv a r ρ = (a ρ).bind fun d ρ1 => (r ρ1).bind fun xs ρ2 => .ok (.inl d :: xs) ρ2 := rfl
theorem e_call (n : Nat) (φ : Co Rv) (r : Co Ar) (ρ : Sto) : cCall n φ r ρ = (r ρ).bind fun xs ρ1 => runC n φ xs ρ1 := rfl
/-- a call with values alone -/
theorem callArgs_inl (ρ : Sto) : ∀ ds : List D, callArgs ρ (ds.map .inl) = some (ds.map .sh)
  | [] => rfl
  | d :: ds => by
    show (callArgs ρ (ds.map .inl)).map (Sl.sh d :: ·) = _
    rw [callArgs_inl ρ ds]
    rfl
theorem ownIx_inl : ∀ ds : List D, ownIx (ds.map .inl) = []
  | [] => rfl
  | d :: ds => ownIx_inl ds
theorem backO_inl : ∀ (ds : List D) (ps : List Sl) (ρ : Sto), ps.length = ds.length → backO (ds.map .inl) ps ρ = some ρ
  | [], [], ρ, _ => rfl
  | d :: ds, p :: ps, ρ, h => backO_inl ds ps ρ (by injection h)
theorem run_ok {n : Nat} {φ : Co Rv} {ds : List D} {r : Rv} {ps : Sto} (hn : ds.length = n) (h : φ (ds.map .sh) = .ok r ps) (hp : ps.length = ds.length) : runC n φ (ds.map .inl) ρ = .ok r ρ := by
  unfold runC
  rw [callArgs_inl]
  show (if (ds.map Sum.inl : Ar).length = n ∧ nodupB (ownIx (ds.map .inl)) = true then _ else _) = _
  rw [if_pos ⟨by rw [List.length_map]; exact hn, by rw [ownIx_inl]; rfl⟩, h]
  show (match backO (ds.map .inl) ps ρ with | some ρ1 => Out.ok r ρ1 | none => Out.st) = _
  rw [backO_inl ds ps ρ hp]
theorem run_er {n : Nat} {φ : Co Rv} {ds : List D} {x : Ex} {ps : Sto} (hn : ds.length = n) (h : φ (ds.map .sh) = .er x ps) (hp : ps.length = ds.length) : runC n φ (ds.map .inl) ρ = .er x ρ := by
  unfold runC
  rw [callArgs_inl]
  show (if (ds.map Sum.inl : Ar).length = n ∧ nodupB (ownIx (ds.map .inl)) = true then _ else _) = _
  rw [if_pos ⟨by rw [List.length_map]; exact hn, by rw [ownIx_inl]; rfl⟩, h]
  show (match backO (ds.map .inl) ps ρ with | some ρ1 => Out.er x ρ1 | none => Out.st) = _
  rw [backO_inl ds ps ρ hp]
/-- a def's body that returns -/
theorem fn_rt {n N : Nat} {b : Co Fl} {as ρ' : Sto} {r : Rv} (h : b (as ++ List.replicate (N - n) .un) = .ok (.rt r) ρ') (hl : n ≤ ρ'.length) : fnC n N b as = .ok r (cutP n ρ') := by
  unfold fnC
  rw [h]
  exact if_pos hl
theorem fn_er {n N : Nat} {b : Co Fl} {as ρ' : Sto} {x : Ex} (h : b (as ++ List.replicate (N - n) .un) = .er x ρ') (hl : n ≤ ρ'.length) : fnC n N b as = .er x (cutP n ρ') := by
  unfold fnC
  rw [h]
  exact if_pos hl
theorem fn_nx {n N : Nat} {b : Co Fl} {as ρ' : Sto} (h : b (as ++ List.replicate (N - n) .un) = .ok .nx ρ') (hl : n ≤ ρ'.length) : fnC n N b as = .ok (.sh .none) (cutP n ρ') := by
  unfold fnC
  rw [h]
  exact if_pos hl
end
end Md
/-! Nm0: names, without a program. -/
namespace Nm
open PySem PySem.Spec PyProof.Rows L2
def lets : Str := "abcdefghijklmnopqrstuvwxyz"
def digs : Str := "0123456789"
def RES : List Str := ["lock", "kind", "body", "routine", "done", "do", "with", "block", "either", "or", "repeat", "close", "drop", "give", "skip", "make", "copy", "fetch", "read", "keep", "write", "put", "call", "take", "as"]
def okc (c : Nat) : Bool := decide (c ∈ lets.cps.toList) || decide (c ∈ digs.cps.toList)
def headOk (s : Str) : Bool := match s.cps[0]? with
  | some c => decide (c ∈ lets.cps.toList)
  | none => false
def isName (s : Str) : Bool := (decide (1 ≤ s.length) && decide (s.length ≤ 8)) && (headOk s && !inV (.str s) (RES.map V.str) && s.cps.toList.all okc)
theorem RES_flat : (RES.map V.str).all flatV = true := by decide +kernel
/-- a value that is_name is asked of, and what it answers -/
theorem first_cp {s : Str} (h : 1 ≤ s.length) : ∃ c, s.cps[0]? = some c := by
  have h2 : 0 < s.cps.size := h
  exact ⟨_, Array.getElem?_eq_getElem h2⟩
theorem isName_short {s : Str} (h : ¬ 1 ≤ s.length) : isName s = false := by
  unfold isName
  rw [decide_eq_false h]
  rfl
theorem isName_long {s : Str} (h : ¬ s.length ≤ 8) : isName s = false := by
  unfold isName
  rw [decide_eq_false h, Bool.and_false]
  rfl
theorem isName_head {s : Str} {c : Nat} (h : s.cps[0]? = some c) (hc : ¬ c ∈ lets.cps.toList) : isName s = false := by
  have e : headOk s = false := by
    unfold headOk
    rw [h]
    exact decide_eq_false hc
  unfold isName
  rw [e, Bool.false_and, Bool.false_and, Bool.and_false]
theorem isName_res {s : Str} (h : inV (.str s) (RES.map V.str) = true) : isName s = false := by
  unfold isName
  rw [h, Bool.not_true, Bool.and_false, Bool.false_and, Bool.and_false]
theorem isName_all {s : Str} {c : Nat} (h1 : 1 ≤ s.length) (h2 : s.length ≤ 8) (h : s.cps[0]? = some c) (hc : c ∈ lets.cps.toList) (hr : inV (.str s) (RES.map V.str) = false) : isName s = s.cps.toList.all okc := by
  have e : headOk s = true := by
    unfold headOk
    rw [h]
    exact decide_eq_true hc
  unfold isName
  rw [e, hr, decide_eq_true h1, decide_eq_true h2]
  rfl
end Nm
/-! DtA: names, marks, rows, halls as data; what comparing them answers. -/
namespace Hs
open PySem PySem.Spec PyProof.Rows L2 Md Nm
theorem beq_dec (a b : Str) : (a == b) = decide (a = b) := by
  cases h : (a == b) with
  | true => exact (decide_eq_true (eq_of_beq h)).symm
  | false =>
    refine (decide_eq_false fun e => ?_).symm
    rw [e, beq_self_eq_true] at h
    cases h
theorem eqv_ss (a b : Str) : PyData.eqv (.str a) (.str b) = decide (a = b) := by
  rw [← beq_dec]
  simp [PyData.eqv]
/-- a way to write α as data -/
structure Cod {α : Type} [DecidableEq α] (f : α → D) : Prop where
  eqv : ∀ x y, PyData.eqv (f x) (f y) = decide (x = y)
  lay : ∀ x, (f x).canLay0 = true
  dep : ∀ x, (f x).depth ≤ 9
section
variable {α : Type} [DecidableEq α] {f : α → D}
theorem Cod.eqvs (h : Cod f) : ∀ a b : List α, PyData.eqvAll (a.map f) (b.map f) = decide (a = b)
  | [], [] => by rfl
  | [], _ :: _ => by simp [PyData.eqvAll]
  | _ :: _, [] => by simp [PyData.eqvAll]
  | x :: a, y :: b => by
    rw [List.map_cons, List.map_cons, PyData.eqvAll, h.eqv, h.eqvs a b]
    by_cases h1 : x = y
    · by_cases h2 : a = b
      · simp [h1, h2]
      · simp [h1, h2]
    · simp [h1]
theorem Cod.lays (h : Cod f) : ∀ a : List α, PyData.canLayAll0 (a.map f) = true
  | [] => rfl
  | x :: a => by rw [List.map_cons, PyData.canLayAll0, h.lay, h.lays a]; rfl
theorem Cod.deps (h : Cod f) : ∀ a : List α, PyData.depthAll (a.map f) ≤ 9
  | [] => Nat.zero_le _
  | x :: a => by
    have h1 := h.dep x
    have h2 := h.deps a
    simp only [List.map_cons, PyData.depthAll]
    omega
theorem Cod.sh (h : Cod f) (x : α) : SeqAt.shaped (f x) = true := by
  unfold SeqAt.shaped
  rw [h.lay]
  have := h.dep x
  exact decide_eq_true (by omega)
theorem Cod.shT (h : Cod f) (xs : List α) : SeqAt.shaped (.tuple (xs.map f)) = true := by
  unfold SeqAt.shaped
  rw [PyData.canLay0, h.lays]
  have := h.deps xs
  exact decide_eq_true (by rw [PyData.depth]; omega)
theorem Cod.shL (h : Cod f) (xs : List α) : SeqAt.shaped (.list (xs.map f)) = true := by
  unfold SeqAt.shaped
  rw [PyData.canLay0, h.lays]
  have := h.deps xs
  exact decide_eq_true (by rw [PyData.depth]; omega)
theorem Cod.inD (h : Cod f) (x : α) : ∀ xs : List α, inD (f x) (xs.map f) = decide (x ∈ xs)
  | [] => rfl
  | y :: ys => by
    show (PyData.eqv (f y) (f x) || Md.inD (f x) (ys.map f)) = _
    rw [h.eqv, h.inD x ys, Bool.eq_iff_iff]
    simp only [Bool.or_eq_true, decide_eq_true_eq, List.mem_cons]
    exact ⟨fun z => z.imp Eq.symm id, fun z => z.imp Eq.symm id⟩
theorem Cod.eq (h : Cod f) (x y : α) : cmp2 .eq (f x) (f y) = some (decide (x = y)) := by
  have e : eqOk (f x) (f y) = true := by unfold eqOk; rw [h.sh, h.sh]; simp
  show (if eqOk (f x) (f y) = true then some _ else none) = _
  rw [if_pos e, h.eqv]
theorem Cod.ne (h : Cod f) (x y : α) : cmp2 .ne (f x) (f y) = some (!decide (x = y)) := by
  have e : eqOk (f x) (f y) = true := by unfold eqOk; rw [h.sh, h.sh]; simp
  show (if eqOk (f x) (f y) = true then some _ else none) = _
  rw [if_pos e, h.eqv]
theorem Cod.eqT (h : Cod f) (x y : List α) : cmp2 .eq (.tuple (x.map f)) (.tuple (y.map f)) = some (decide (x = y)) := by
  have e : eqOk (.tuple (x.map f)) (.tuple (y.map f)) = true := by unfold eqOk; rw [h.shT, h.shT]; rfl
  show (if eqOk (.tuple (x.map f)) (.tuple (y.map f)) = true then some _ else none) = _
  rw [if_pos e]
  have : PyData.eqv (.tuple (x.map f)) (.tuple (y.map f)) = PyData.eqvAll (x.map f) (y.map f) := by simp [PyData.eqv]
  rw [this, h.eqvs]
theorem Cod.eqL (h : Cod f) (x y : List α) : cmp2 .eq (.list (x.map f)) (.list (y.map f)) = some (decide (x = y)) := by
  have e : eqOk (.list (x.map f)) (.list (y.map f)) = true := by unfold eqOk; rw [h.shL, h.shL]; rfl
  show (if eqOk (.list (x.map f)) (.list (y.map f)) = true then some _ else none) = _
  rw [if_pos e]
  have : PyData.eqv (.list (x.map f)) (.list (y.map f)) = PyData.eqvAll (x.map f) (y.map f) := by simp [PyData.eqv]
  rw [this, h.eqvs]
theorem Cod.inT (h : Cod f) (x : α) (xs : List α) : cmp2 .inn (f x) (.tuple (xs.map f)) = some (decide (x ∈ xs)) := by
  have e : cmp2 .inn (f x) (.tuple (xs.map f)) = if (SeqAt.shaped (f x) && SeqAt.shaped (.tuple (xs.map f))) = true then some (Md.inD (f x) (xs.map f)) else none := by cases f x <;> rfl
  rw [e, h.sh, h.shT, h.inD]
  rfl
theorem Cod.niT (h : Cod f) (x : α) (xs : List α) : cmp2 .nin (f x) (.tuple (xs.map f)) = some (!decide (x ∈ xs)) := by
  have e : cmp2 .nin (f x) (.tuple (xs.map f)) = if (SeqAt.shaped (f x) && SeqAt.shaped (.tuple (xs.map f))) = true then some (!Md.inD (f x) (xs.map f)) else none := by cases f x <;> rfl
  rw [e, h.sh, h.shT, h.inD]
  rfl
theorem Cod.inL (h : Cod f) (x : α) (xs : List α) : cmp2 .inn (f x) (.list (xs.map f)) = some (decide (x ∈ xs)) := by
  have e : cmp2 .inn (f x) (.list (xs.map f)) = if (SeqAt.shaped (f x) && SeqAt.shaped (.list (xs.map f))) = true then some (Md.inD (f x) (xs.map f)) else none := by cases f x <;> rfl
  rw [e, h.sh, h.shL, h.inD]
  rfl
theorem Cod.niL (h : Cod f) (x : α) (xs : List α) : cmp2 .nin (f x) (.list (xs.map f)) = some (!decide (x ∈ xs)) := by
  have e : cmp2 .nin (f x) (.list (xs.map f)) = if (SeqAt.shaped (f x) && SeqAt.shaped (.list (xs.map f))) = true then some (!Md.inD (f x) (xs.map f)) else none := by cases f x <;> rfl
  rw [e, h.sh, h.shL, h.inD]
  rfl
end
/-! ### names -/
abbrev Nam := {s : Str // isName s = true}
theorem nm_ok {s : Str} (h : isName s = true) : PyData.strOk s = true := by
  have h2 : s.cps.toList.all okc = true := by
    unfold isName at h
    simp only [Bool.and_eq_true] at h
    exact h.2.2
  show s.cps.all (· < 0x110000) = true
  rw [← Array.all_toList]
  refine List.all_eq_true.mpr fun c hc => decide_eq_true ?_
  have z := List.all_eq_true.mp h2 c hc
  have key : ∀ c ∈ lets.cps.toList ++ digs.cps.toList, c < 0x110000 := by decide +kernel
  refine key c ?_
  unfold okc at z
  rw [Bool.or_eq_true] at z
  rcases z with z | z
  · exact List.mem_append.mpr (.inl (of_decide_eq_true z))
  · exact List.mem_append.mpr (.inr (of_decide_eq_true z))
def nmD (a : Nam) : D := .str a.1
theorem nmD_e (a : Nam) : nmD a = .str a.1 := rfl
theorem cNm : Cod nmD := ⟨fun x y => by
  unfold nmD
  rw [eqv_ss, decide_eq_decide]
  exact Subtype.ext_iff.symm, fun x => by unfold nmD; rw [PyData.canLay0]; exact nm_ok x.2, fun x => by unfold nmD; rw [PyData.depth]; omega⟩
/-! ### marks -/
inductive Mk where
  | takes (l : Nam)
  | under (a b : Nam)
  | writes (k f : Nam)
  | gives (l : Nam)
  | shares (n : Nat)
deriving DecidableEq
def Mk.d : Mk → D
  | .takes l => .tuple [.str "takes", .str l.1]
  | .under a b => .tuple [.str "under", .str a.1, .str b.1]
  | .writes k f => .tuple [.str "writes", .str k.1, .str f.1]
  | .gives l => .tuple [.str "gives", .str l.1]
  | .shares n => .tuple [.str "shares", .int (n : Int)]
theorem n_dec (a b : Nam) : decide (a.1 = b.1) = decide (a = b) := decide_eq_decide.mpr Subtype.ext_iff.symm
theorem eqv_M (x y : Mk) : PyData.eqv x.d y.d = decide (x = y) := by
  have h1 : ("takes" : Str) ≠ "under" := by decide +kernel
  have h2 : ("takes" : Str) ≠ "writes" := by decide +kernel
  have h3 : ("takes" : Str) ≠ "gives" := by decide +kernel
  have h4 : ("takes" : Str) ≠ "shares" := by decide +kernel
  have h5 : ("under" : Str) ≠ "writes" := by decide +kernel
  have h6 : ("under" : Str) ≠ "gives" := by decide +kernel
  have h7 : ("under" : Str) ≠ "shares" := by decide +kernel
  have h8 : ("writes" : Str) ≠ "gives" := by decide +kernel
  have h9 : ("writes" : Str) ≠ "shares" := by decide +kernel
  have h0 : ("gives" : Str) ≠ "shares" := by decide +kernel
  cases x <;> cases y <;> simp only [Mk.d, PyData.eqv, PyData.eqvAll, beq_dec, n_dec, h1, h2, h3, h4, h5, h6, h7, h8, h9, h0, h1.symm, h2.symm, h3.symm, h4.symm, h5.symm, h6.symm, h7.symm, h8.symm, h9.symm, h0.symm, Mk.takes.injEq, Mk.under.injEq, Mk.writes.injEq, Mk.gives.injEq, Mk.shares.injEq, reduceCtorEq, decide_false, decide_true, Bool.false_and, Bool.true_and, Bool.and_true, Bool.decide_and]
  rename_i m n
  rw [Bool.eq_iff_iff]
  simp only [beq_iff_eq, decide_eq_true_eq]
  omega
theorem cMk : Cod Mk.d := ⟨eqv_M, fun x => by
  have e : ∀ a : Nam, PyData.strOk a.1 = true := fun a => nm_ok a.2
  have t1 : PyData.strOk "takes" = true := by decide +kernel
  have t2 : PyData.strOk "under" = true := by decide +kernel
  have t3 : PyData.strOk "writes" = true := by decide +kernel
  have t4 : PyData.strOk "gives" = true := by decide +kernel
  have t5 : PyData.strOk "shares" = true := by decide +kernel
  cases x <;> simp only [Mk.d, PyData.canLay0, PyData.canLayAll0, e, t1, t2, t3, t4, t5, Bool.and_true], fun x => by
  cases x <;> simp only [Mk.d, PyData.depth, PyData.depthAll] <;> omega⟩
/-! ### rows of a hall -/
structure Row where
  k : Nam
  g : Option Nam
  fs : List Nam
deriving DecidableEq
def opD : Option Nam → D
  | none => .none
  | some a => .str a.1
theorem cOp : Cod opD := ⟨fun x y => by
  cases x <;> cases y <;> simp [opD, PyData.eqv, beq_dec, n_dec], fun x => by
  cases x with
  | none => rfl
  | some a => show PyData.canLay0 (.str a.1) = true; rw [PyData.canLay0]; exact nm_ok a.2, fun x => by cases x <;> simp [opD, PyData.depth]⟩
def Row.d (r : Row) : D := .tuple (.str r.k.1 :: opD r.g :: r.fs.map nmD)
theorem cRow : Cod Row.d := ⟨fun x y => by
  have e : PyData.eqv x.d y.d = PyData.eqvAll (.str x.k.1 :: opD x.g :: x.fs.map nmD) (.str y.k.1 :: opD y.g :: y.fs.map nmD) := by simp [Row.d, PyData.eqv]
  rw [e, PyData.eqvAll, PyData.eqvAll, eqv_ss, cOp.eqv, cNm.eqvs, n_dec]
  obtain ⟨k, g, fs⟩ := x
  obtain ⟨k', g', fs'⟩ := y
  simp only [Row.mk.injEq, Bool.decide_and], fun x => by
  show PyData.canLay0 (.tuple _) = true
  rw [PyData.canLay0, PyData.canLayAll0, PyData.canLayAll0, cOp.lay, cNm.lays, PyData.canLay0, nm_ok x.k.2]
  rfl, fun x => by
  have h := depth1 x.fs
  have h2 : (opD x.g).depth = 0 := by cases x.g <;> simp [opD, PyData.depth]
  show PyData.depth (.tuple (.str x.k.1 :: opD x.g :: x.fs.map nmD)) ≤ 9
  simp only [PyData.depth, PyData.depthAll]
  omega⟩
where
  depth1 : ∀ a : List Nam, PyData.depthAll (a.map nmD) ≤ 1
  | [] => by decide
  | x :: a => by
    have h2 := depth1 a
    simp only [List.map_cons, PyData.depthAll, nmD, PyData.depth]
    omega
/-! ### plain answers -/
theorem eq_ss (a b : Str) : cmp2 .eq (.str a) (.str b) = some (decide (a = b)) := by
  show (if eqOk (.str a) (.str b) = true then some _ else none) = _
  rw [if_pos (rfl : eqOk _ _ = true), eqv_ss]
theorem ne_ss (a b : Str) : cmp2 .ne (.str a) (.str b) = some (!decide (a = b)) := by
  show (if eqOk (.str a) (.str b) = true then some _ else none) = _
  rw [if_pos (rfl : eqOk _ _ = true), eqv_ss]
theorem eq_ii (a b : Int) : cmp2 .eq (.int a) (.int b) = some (decide (a = b)) := by
  show (if eqOk (.int a) (.int b) = true then some _ else none) = _
  rw [if_pos (rfl : eqOk _ _ = true)]
  simp only [PyData.eqv]
  rfl
theorem ne_ii (a b : Int) : cmp2 .ne (.int a) (.int b) = some (!decide (a = b)) := by
  show (if eqOk (.int a) (.int b) = true then some _ else none) = _
  rw [if_pos (rfl : eqOk _ _ = true)]
  simp only [PyData.eqv]
  rfl
theorem at0 {α : Type} (x : α) (xs : List α) : atI (x :: xs) 0 = some x := by
  unfold atI ixN
  rw [if_pos (by omega), if_pos (by rw [List.length_cons]; omega)]
  rfl
theorem at1 {α : Type} (x y : α) (xs : List α) : atI (x :: y :: xs) 1 = some y := by
  unfold atI ixN
  rw [if_pos (by omega), if_pos (by simp only [List.length_cons]; omega)]
  rfl
theorem at2 {α : Type} (x y z : α) (xs : List α) : atI (x :: y :: z :: xs) 2 = some z := by
  unfold atI ixN
  rw [if_pos (by omega), if_pos (by simp only [List.length_cons]; omega)]
  rfl
theorem ix0 (x : D) (xs : List D) : idxD (.tuple (x :: xs)) (.int 0) = some x := at0 x xs
theorem ix1 (x y : D) (xs : List D) : idxD (.tuple (x :: y :: xs)) (.int 1) = some y := at1 x y xs
theorem ix2 (x y z : D) (xs : List D) : idxD (.tuple (x :: y :: z :: xs)) (.int 2) = some z := at2 x y z xs
theorem il0 (x : D) (xs : List D) : idxD (.list (x :: xs)) (.int 0) = some x := at0 x xs
theorem il1 (x y : D) (xs : List D) : idxD (.list (x :: y :: xs)) (.int 1) = some y := at1 x y xs
theorem il2 (x y z : D) (xs : List D) : idxD (.list (x :: y :: z :: xs)) (.int 2) = some z := at2 x y z xs
theorem cut1 (x : D) (xs : List D) : cutL (x :: xs) (some 1) none = xs := by
  unfold cutL
  have e : HT.sIx (x :: xs).length 0 (some 1) = 1 := by
    show (if (1 : Int) < 0 then ((1 : Int) + ((xs.length + 1 : Nat) : Int)).toNat else min (1 : Int).toNat (xs.length + 1)) = 1
    rw [if_neg (by omega)]
    show min 1 (xs.length + 1) = 1
    omega
  rw [e]
  show xs.take ((xs.length + 1) - 1) = xs
  exact List.take_of_length_le (by omega)
theorem cut2 (x y : D) (xs : List D) : cutL (x :: y :: xs) (some 2) none = xs := by
  unfold cutL
  have e : HT.sIx (x :: y :: xs).length 0 (some 2) = 2 := by
    show (if (2 : Int) < 0 then ((2 : Int) + ((xs.length + 1 + 1 : Nat) : Int)).toNat else min (2 : Int).toNat (xs.length + 1 + 1)) = 2
    rw [if_neg (by omega)]
    show min 2 (xs.length + 1 + 1) = 2
    omega
  rw [e]
  show xs.take ((xs.length + 1 + 1) - 2) = xs
  exact List.take_of_length_le (by omega)
theorem sl1 (x : D) (xs : List D) : slcD (.tuple (x :: xs)) (some 1) none = some (.sh (.tuple xs)) := by
  show some (Rv.sh (.tuple (cutL (x :: xs) (some 1) none))) = _
  rw [cut1]
theorem sl2 (x y : D) (xs : List D) : slcD (.tuple (x :: y :: xs)) (some 2) none = some (.sh (.tuple xs)) := by
  show some (Rv.sh (.tuple (cutL (x :: y :: xs) (some 2) none))) = _
  rw [cut2]
theorem ln_t (xs : List D) : biD .len (.tuple xs) = some (.sh (.int xs.length)) := rfl
theorem ln_l (xs : List D) : biD .len (.list xs) = some (.sh (.int xs.length)) := rfl
theorem tup_l (xs : List D) : biD .tuple (.list xs) = some (.sh (.tuple xs)) := rfl
theorem tup_t (xs : List D) : biD .tuple (.tuple xs) = some (.sh (.tuple xs)) := rfl
theorem list_l (xs : List D) : biD .list (.list xs) = some (.ow (.lst xs)) := rfl
theorem list_t (xs : List D) : biD .list (.tuple xs) = some (.ow (.lst xs)) := rfl
theorem it_l (xs : List D) : itM (.list xs) = some xs := rfl
theorem it_t (xs : List D) : itM (.tuple xs) = some xs := rfl
theorem gt_ii (a b : Int) : cmp2 .gt (.int a) (.int b) = some (decide (b < a)) := rfl
theorem ge_ii (a b : Int) : cmp2 .ge (.int a) (.int b) = some (decide (b ≤ a)) := rfl
theorem lt_ii (a b : Int) : cmp2 .lt (.int a) (.int b) = some (decide (a < b)) := rfl
theorem le_ii (a b : Int) : cmp2 .le (.int a) (.int b) = some (decide (a ≤ b)) := rfl
theorem bools_map {α : Type} (p : α → Bool) : ∀ xs : List α, boolsD (xs.map fun x => .bool (p x)) = some (xs.map p)
  | [] => rfl
  | x :: xs => by
    show (boolsD (xs.map fun x => .bool (p x))).map _ = _
    rw [bools_map p xs]
    rfl
theorem all_map {α : Type} (p : α → Bool) (xs : List α) : biD .all (.list (xs.map fun x => .bool (p x))) = some (.sh (.bool (xs.all p))) := by
  show (boolsD (xs.map fun x => .bool (p x))).map _ = _
  rw [bools_map]
  simp only [Option.map_some, List.all_map, Function.comp_def, id]
theorem any_map {α : Type} (p : α → Bool) (xs : List α) : biD .any (.list (xs.map fun x => .bool (p x))) = some (.sh (.bool (xs.any p))) := by
  show (boolsD (xs.map fun x => .bool (p x))).map _ = _
  rw [bools_map]
  simp only [Option.map_some, List.any_map, Function.comp_def, id]
theorem adl (a b : List D) (h : a.length + b.length ≤ sizeLine) : op2 .add (.list a) (.list b) = some (.ow (.lst (a ++ b))) := if_pos h
theorem adt (a b : List D) (h : a.length + b.length ≤ sizeLine) : op2 .add (.tuple a) (.tuple b) = some (.sh (.tuple (a ++ b))) := if_pos h
end Hs
/-! DtB: comprehensions and loops over coded data; more equations. -/
namespace Md
open PySem PySem.Spec PyProof.Rows L2
section
variable {α β γ : Type} {ρ ρ1 ω : Sto} {vs vs1 : List Nat} {b b1 : D → Sto → Option Sto} {s s1 : Co (List D)} {cd cd1 : Co Bool} {el : Co D}
theorem cLc_map {xs : List α} (f : α → D) (p : α → Bool) (h : α → D) (hs : s ρ = .ok (xs.map f) ρ1) (hw : wipeS ρ1 vs = ω) (hf : freeS ρ1 vs = true) (hl : xs.length ≤ sizeLine)
    (H : ∀ x ∈ xs, ∃ ρa ρb, b (f x) ω = some ρa ∧ cd ρa = .ok (p x) ρb ∧ wipeS ρb vs = ω ∧ (p x = true → ∃ ρc, el ρb = .ok (h x) ρc ∧ wipeS ρc vs = ω)) :
    cLc vs b s cd el ρ = .ok (.ow (.lst ((xs.filter p).map h))) ω := by
  have key : ∀ (xs : List α) (acc : List D) (ρ : Sto), wipeS ρ vs = ω → acc.length + xs.length ≤ sizeLine → (∀ x ∈ xs, ∃ ρa ρb, b (f x) ω = some ρa ∧ cd ρa = .ok (p x) ρb ∧ wipeS ρb vs = ω ∧ (p x = true → ∃ ρc, el ρb = .ok (h x) ρc ∧ wipeS ρc vs = ω)) →
      ∃ ρ', lcL vs b cd (elOne el) (xs.map f) acc ρ = .ok (acc ++ (xs.filter p).map h) ρ' ∧ wipeS ρ' vs = ω := by
    intro xs
    induction xs with
    | nil => intro acc ρ hw _ _; exact ⟨ρ, by show Out.ok acc ρ = _; rw [List.filter_nil, List.map_nil, List.append_nil], hw⟩
    | cons x xs ih =>
      intro acc ρ hw hl H
      obtain ⟨ρa, ρb, e1, e2, e3, e4⟩ := H x List.mem_cons_self
      rw [List.length_cons] at hl
      have unf : lcL vs b cd (elOne el) ((x :: xs).map f) acc ρ = (if p x = true then elOne el acc ρb else Out.ok acc ρb).bind fun acc1 ρ3 => lcL vs b cd (elOne el) (xs.map f) acc1 ρ3 := by
        show (match b (f x) (wipeS ρ vs) with | none => Out.st | some ρ1 => (cd ρ1).bind fun k ρ2 => (if k = true then elOne el acc ρ2 else Out.ok acc ρ2).bind fun acc1 ρ3 => lcL vs b cd (elOne el) (xs.map f) acc1 ρ3) = _
        rw [hw, e1]
        show (cd ρa).bind _ = _
        rw [e2]
        rfl
      rw [unf]
      cases hp : p x with
      | false =>
        obtain ⟨ρ', h1, h2⟩ := ih acc ρb e3 (by omega) fun y m => H y (List.mem_cons_of_mem _ m)
        refine ⟨ρ', ?_, h2⟩
        rw [List.filter_cons_of_neg (by rw [hp]; intro z; cases z)]
        exact h1
      | true =>
        obtain ⟨ρ3, e5, e6⟩ := e4 hp
        obtain ⟨ρ', h1, h2⟩ := ih (acc ++ [h x]) ρ3 e6 (by rw [List.length_append]; simp; omega) fun y m => H y (List.mem_cons_of_mem _ m)
        refine ⟨ρ', ?_, h2⟩
        have e7 : elOne el acc ρb = .ok (acc ++ [h x]) ρ3 := by
          unfold elOne
          rw [if_pos (by omega), e5]
          rfl
        rw [if_pos rfl, e7, List.filter_cons_of_pos hp, List.map_cons]
        show lcL vs b cd (elOne el) (xs.map f) (acc ++ [h x]) ρ3 = _
        rw [h1, List.append_assoc]
        rfl
  obtain ⟨ρ', e1, e2⟩ := key xs [] ρ1 hw (by show 0 + xs.length ≤ sizeLine; omega) H
  unfold cLc
  rw [hs]
  show (if freeS ρ1 vs = true then _ else _) = _
  rw [if_pos hf, e1]
  show Out.ok (Rv.ow (.lst ([] ++ (xs.filter p).map h))) (wipeS ρ' vs) = _
  rw [e2]
  rfl
theorem cLc_yes {xs : List α} (f : α → D) (h : α → D) (hs : s ρ = .ok (xs.map f) ρ1) (hw : wipeS ρ1 vs = ω) (hf : freeS ρ1 vs = true) (hl : xs.length ≤ sizeLine)
    (H : ∀ x ∈ xs, ∃ ρa ρc, b (f x) ω = some ρa ∧ el ρa = .ok (h x) ρc ∧ wipeS ρa vs = ω ∧ wipeS ρc vs = ω) :
    cLc vs b s cYes el ρ = .ok (.ow (.lst (xs.map h))) ω := by
  have := cLc_map (cd := cYes) (b := b) (el := el) f (fun _ => true) h hs hw hf hl fun x m => by
    obtain ⟨ρa, ρc, e1, e2, e3, e4⟩ := H x m
    exact ⟨ρa, ρa, e1, rfl, e3, fun _ => ⟨ρc, e2, e4⟩⟩
  rw [this, List.filter_eq_self.mpr fun _ _ => rfl]
theorem cLc2_map {xs : List α} (f : α → D) (ys : α → List β) (f2 : β → D) (p2 : α → β → Bool) (h : α → β → D) (hs : s ρ = .ok (xs.map f) ρ1) (hw : wipeS ρ1 vs = ω) (hf : freeS ρ1 vs = true) (hv : ∀ i ∈ vs1, i ∈ vs) (hl : (xs.flatMap ys).length ≤ sizeLine)
    (H : ∀ x ∈ xs, ∃ ρa ρb ω1, b (f x) ω = some ρa ∧ s1 ρa = .ok ((ys x).map f2) ρb ∧ wipeS ρb vs = ω ∧ wipeS ρb vs1 = ω1 ∧ ∀ y ∈ ys x, ∃ ρc ρd, b1 (f2 y) ω1 = some ρc ∧ cd1 ρc = .ok (p2 x y) ρd ∧ wipeS ρd vs1 = ω1 ∧ (p2 x y = true → ∃ ρe, el ρd = .ok (h x y) ρe ∧ wipeS ρe vs1 = ω1)) :
    cLc2 vs vs1 b s cYes b1 s1 cd1 el ρ = .ok (.ow (.lst (xs.flatMap fun x => ((ys x).filter (p2 x)).map (h x)))) ω := by
  have inner : ∀ {ω1 : Sto} (zs : List β) (p : β → Bool) (h : β → D) (acc : List D) (ρ : Sto), wipeS ρ vs1 = ω1 → acc.length + zs.length ≤ sizeLine → (∀ x ∈ zs, ∃ ρa ρb, b1 (f2 x) ω1 = some ρa ∧ cd1 ρa = .ok (p x) ρb ∧ wipeS ρb vs1 = ω1 ∧ (p x = true → ∃ ρc, el ρb = .ok (h x) ρc ∧ wipeS ρc vs1 = ω1)) →
      ∃ ρ', lcL vs1 b1 cd1 (elOne el) (zs.map f2) acc ρ = .ok (acc ++ (zs.filter p).map h) ρ' ∧ wipeS ρ' vs1 = ω1 := by
    intro ω1 xs p h
    induction xs with
    | nil => intro acc ρ hw _ _; exact ⟨ρ, by show Out.ok acc ρ = _; rw [List.filter_nil, List.map_nil, List.append_nil], hw⟩
    | cons x xs ih =>
      intro acc ρ hw hl H
      obtain ⟨ρa, ρb, e1, e2, e3, e4⟩ := H x List.mem_cons_self
      rw [List.length_cons] at hl
      have unf : lcL vs1 b1 cd1 (elOne el) ((x :: xs).map f2) acc ρ = (if p x = true then elOne el acc ρb else Out.ok acc ρb).bind fun acc1 ρ3 => lcL vs1 b1 cd1 (elOne el) (xs.map f2) acc1 ρ3 := by
        show (match b1 (f2 x) (wipeS ρ vs1) with | none => Out.st | some ρ1 => (cd1 ρ1).bind fun k ρ2 => (if k = true then elOne el acc ρ2 else Out.ok acc ρ2).bind fun acc1 ρ3 => lcL vs1 b1 cd1 (elOne el) (xs.map f2) acc1 ρ3) = _
        rw [hw, e1]
        show (cd1 ρa).bind _ = _
        rw [e2]
        rfl
      rw [unf]
      cases hp : p x with
      | false =>
        obtain ⟨ρ', h1, h2⟩ := ih acc ρb e3 (by omega) fun y m => H y (List.mem_cons_of_mem _ m)
        refine ⟨ρ', ?_, h2⟩
        rw [List.filter_cons_of_neg (by rw [hp]; intro z; cases z)]
        exact h1
      | true =>
        obtain ⟨ρ3, e5, e6⟩ := e4 hp
        obtain ⟨ρ', h1, h2⟩ := ih (acc ++ [h x]) ρ3 e6 (by rw [List.length_append]; simp; omega) fun y m => H y (List.mem_cons_of_mem _ m)
        refine ⟨ρ', ?_, h2⟩
        have e7 : elOne el acc ρb = .ok (acc ++ [h x]) ρ3 := by
          unfold elOne
          rw [if_pos (by omega), e5]
          rfl
        rw [if_pos rfl, e7, List.filter_cons_of_pos hp, List.map_cons]
        show lcL vs1 b1 cd1 (elOne el) (xs.map f2) (acc ++ [h x]) ρ3 = _
        rw [h1, List.append_assoc]
        rfl
  have flen : ∀ (x : α), (((ys x).filter (p2 x)).map (h x)).length ≤ (ys x).length := fun x => by
    rw [List.length_map]
    exact List.length_filter_le _ _
  have key : ∀ (xs : List α) (acc : List D) (ρ : Sto), wipeS ρ vs = ω → acc.length + (xs.flatMap ys).length ≤ sizeLine → (∀ x ∈ xs, ∃ ρa ρb ω1, b (f x) ω = some ρa ∧ s1 ρa = .ok ((ys x).map f2) ρb ∧ wipeS ρb vs = ω ∧ wipeS ρb vs1 = ω1 ∧ ∀ y ∈ ys x, ∃ ρc ρd, b1 (f2 y) ω1 = some ρc ∧ cd1 ρc = .ok (p2 x y) ρd ∧ wipeS ρd vs1 = ω1 ∧ (p2 x y = true → ∃ ρe, el ρd = .ok (h x y) ρe ∧ wipeS ρe vs1 = ω1)) →
      ∃ ρ', lcL vs b cYes (fun acc ρ2 => (s1 ρ2).bind fun es ρ3 => lcL vs1 b1 cd1 (elOne el) es acc ρ3) (xs.map f) acc ρ = .ok (acc ++ xs.flatMap fun x => ((ys x).filter (p2 x)).map (h x)) ρ' ∧ wipeS ρ' vs = ω := by
    intro xs
    induction xs with
    | nil => intro acc ρ hw _ _; exact ⟨ρ, by show Out.ok acc ρ = _; rw [List.flatMap_nil, List.append_nil], hw⟩
    | cons x xs ih =>
      intro acc ρ hw hl H
      obtain ⟨ρa, ρb, ω1, e1, e2, e3, e4, e5⟩ := H x List.mem_cons_self
      rw [List.flatMap_cons, List.length_append] at hl
      have hl2 := flen x
      obtain ⟨ρ2, i1, i2⟩ := inner (ys x) (p2 x) (h x) acc ρb e4 (by omega) e5
      have e6 : wipeS ρ2 vs = ω := by rw [← wipeS_in hv, i2, ← e4, wipeS_in hv, e3]
      have unf : lcL vs b cYes (fun acc ρ2 => (s1 ρ2).bind fun es ρ3 => lcL vs1 b1 cd1 (elOne el) es acc ρ3) ((x :: xs).map f) acc ρ = lcL vs b cYes (fun acc ρ2 => (s1 ρ2).bind fun es ρ3 => lcL vs1 b1 cd1 (elOne el) es acc ρ3) (xs.map f) (acc ++ ((ys x).filter (p2 x)).map (h x)) ρ2 := by
        show (match b (f x) (wipeS ρ vs) with | none => Out.st | some ρ1 => (cYes ρ1).bind fun k ρ2 => (if k = true then ((s1 ρ2).bind fun es ρ3 => lcL vs1 b1 cd1 (elOne el) es acc ρ3) else Out.ok acc ρ2).bind fun acc1 ρ3 => lcL vs b cYes (fun acc ρ2 => (s1 ρ2).bind fun es ρ3 => lcL vs1 b1 cd1 (elOne el) es acc ρ3) (xs.map f) acc1 ρ3) = _
        rw [hw, e1]
        show ((s1 ρa).bind fun es ρ3 => lcL vs1 b1 cd1 (elOne el) es acc ρ3).bind _ = _
        rw [e2]
        show (lcL vs1 b1 cd1 (elOne el) ((ys x).map f2) acc ρb).bind _ = _
        rw [i1]
        rfl
      rw [unf, List.flatMap_cons]
      obtain ⟨ρ', h1, h2⟩ := ih (acc ++ ((ys x).filter (p2 x)).map (h x)) ρ2 e6 (by rw [List.length_append]; omega) fun y m => H y (List.mem_cons_of_mem _ m)
      exact ⟨ρ', by rw [h1, List.append_assoc], h2⟩
  obtain ⟨ρ', e1, e2⟩ := key xs [] ρ1 hw (by show 0 + _ ≤ sizeLine; omega) H
  unfold cLc2
  rw [hs]
  show (if freeS ρ1 vs = true then _ else _) = _
  rw [if_pos hf, e1]
  show Out.ok (Rv.ow (.lst ([] ++ _))) (wipeS ρ' vs) = _
  rw [e2]
  rfl
/-- a loop whose every turn goes on -/
theorem forL_inv {c : Co Fl} {f : α → D} (I : List α → Sto → Prop) (H : ∀ x r ρ, I (x :: r) ρ → ∃ ρa ρb, b (f x) ρ = some ρa ∧ c ρa = .ok .nx ρb ∧ I r ρb) : ∀ (xs : List α) (ρ : Sto), I xs ρ → ∃ ρ', forL b c (xs.map f) ρ = .ok .nx ρ' ∧ I [] ρ'
  | [], ρ, h => ⟨ρ, rfl, h⟩
  | x :: xs, ρ, h => by
    obtain ⟨ρa, ρb, e1, e2, e3⟩ := H x xs ρ h
    obtain ⟨ρ', e4, e5⟩ := forL_inv I H xs ρb e3
    refine ⟨ρ', ?_, e5⟩
    show (match b (f x) ρ with | none => Out.st | some ρ1 => (c ρ1).bind fun fl ρ2 => match fl with
      | .nx => forL b c (xs.map f) ρ2
      | .ct => forL b c (xs.map f) ρ2
      | .bk => .ok .nx ρ2
      | .rt r => .ok (.rt r) ρ2) = _
    rw [e1]
    show (c ρa).bind _ = _
    rw [e2]
    exact e4
def forK (b : D → Sto → Option Sto) (c : Co Fl) (ds : List D) : Fl → Sto → Out Fl
  | .nx, ρ => forL b c ds ρ
  | .ct, ρ => forL b c ds ρ
  | .bk, ρ => .ok .nx ρ
  | .rt r, ρ => .ok (.rt r) ρ
theorem forL_nil (b : D → Sto → Option Sto) (c : Co Fl) (ρ : Sto) : forL b c [] ρ = .ok .nx ρ := rfl
theorem forL_cons {c : Co Fl} {d : D} {ds : List D} {ρa ρb : Sto} {fl : Fl} (e1 : b d ρ = some ρa) (e2 : c ρa = .ok fl ρb) : forL b c (d :: ds) ρ = forK b c ds fl ρb := by
    show (match b d ρ with | none => Out.st | some ρ1 => (c ρ1).bind fun fl ρ2 => match fl with
      | .nx => forL b c ds ρ2
      | .ct => forL b c ds ρ2
      | .bk => .ok .nx ρ2
      | .rt r => .ok (.rt r) ρ2) = _
    rw [e1]
    show (c ρa).bind _ = _
    rw [e2]
    cases fl <;> rfl
theorem selK_if {α : Type} (k : Bool) (a b : Co α) (ρ : Sto) : (if k = true then a ρ else b ρ) = selK k a b ρ := by cases k <;> rfl
theorem e_for (b : D → Sto → Option Sto) (s : Co (List D)) (c : Co Fl) (ρ : Sto) : cFor b s c ρ = (s ρ).bind fun ds ρ1 => forL b c ds ρ1 := rfl
theorem e_att (c fl : Str) (a : Co D) (ρ : Sto) : cAtt c fl a ρ = (a ρ).bind fun x ρ1 => optO ((fldD c fl x).map Rv.sh) ρ1 := rfl
def metK (c m : Str) (n : Nat) (φ : Co Rv) (r : Co Ar) : D → Sto → Out Rv
  | .dict ((.none, .str c') :: fs), ρ1 => if c' = c ∧ fldF m fs = none then (r ρ1).bind fun xs ρ2 => runC n φ (.inl (.dict ((.none, .str c') :: fs)) :: xs) ρ2 else .st
  | _, _ => .st
theorem e_met (c m : Str) (n : Nat) (φ : Co Rv) (o : Co D) (r : Co Ar) (ρ : Sto) : cMeth c m n φ o r ρ = (o ρ).bind fun d ρ1 => metK c m n φ r d ρ1 := by
  unfold cMeth
  cases o ρ with
  | st => rfl
  | er => rfl
  | ok d ρ1 =>
    show (match d with | .dict ((.none, .str c') :: fs) => if c' = c ∧ fldF m fs = none then (r ρ1).bind fun xs ρ2 => runC n φ (.inl d :: xs) ρ2 else .st | _ => .st) = metK c m n φ r d ρ1
    cases d with
    | dict l =>
      cases l with
      | nil => rfl
      | cons p l =>
        obtain ⟨x, y⟩ := p
        cases x <;> cases y <;> rfl
    | none => rfl
    | bool => rfl
    | int => rfl
    | str => rfl
    | list => rfl
    | tuple => rfl
theorem metK_e {c m : Str} {fs : List (D × D)} (h : fldF m fs = none) (n : Nat) (φ : Co Rv) (r : Co Ar) (ρ : Sto) : metK c m n φ r (.dict ((.none, .str c) :: fs)) ρ = (r ρ).bind fun xs ρ2 => runC n φ (.inl (.dict ((.none, .str c) :: fs)) :: xs) ρ2 := if_pos ⟨rfl, h⟩
theorem e_eqO (c : Str) (n : Nat) (φ : Co Rv) (a b : Co D) (ρ : Sto) : cEqO c n φ a b ρ = (a ρ).bind fun x ρ1 => (b ρ1).bind fun y ρ2 => selK (bothC c x y) (fun ρ2 => boolR (runC n φ [.inl x, .inl y] ρ2)) (fun _ => .st) ρ2 := by
  unfold cEqO
  cases a ρ with
  | st => rfl
  | er => rfl
  | ok x ρ1 =>
    show (b ρ1).bind _ = (b ρ1).bind _
    cases b ρ1 with
    | st => rfl
    | er => rfl
    | ok y ρ2 =>
      exact selK_if (bothC c x y) (fun ρ2 => boolR (runC n φ [.inl x, .inl y] ρ2)) (fun _ => .st) ρ2
theorem boolR_e (k : Bool) (ρ : Sto) : boolR (.ok (.sh (.bool k)) ρ) = .ok (.sh (.bool k)) ρ := rfl
theorem notR_e (k : Bool) (ρ : Sto) : notR (.ok (.sh (.bool k)) ρ) = .ok (.sh (.bool (!k))) ρ := rfl
theorem e_inOp (c : Str) (n : Nat) (φ : Co Rv) (a b : Co D) (ρ : Sto) : cInO false c n φ a b ρ = (a ρ).bind fun x ρ1 => (b ρ1).bind fun y ρ2 => selK (clsD y == some c) (fun ρ2 => boolR (runC n φ [.inl y, .inl x] ρ2)) (fun _ => .st) ρ2 := by
  unfold cInO
  cases a ρ with
  | st => rfl
  | er => rfl
  | ok x ρ1 =>
    show (b ρ1).bind _ = (b ρ1).bind _
    cases b ρ1 with
    | st => rfl
    | er => rfl
    | ok y ρ2 =>
      exact selK_if (clsD y == some c) (fun ρ2 => boolR (runC n φ [.inl y, .inl x] ρ2)) (fun _ => .st) ρ2
theorem e_niOp (c : Str) (n : Nat) (φ : Co Rv) (a b : Co D) (ρ : Sto) : cInO true c n φ a b ρ = (a ρ).bind fun x ρ1 => (b ρ1).bind fun y ρ2 => selK (clsD y == some c) (fun ρ2 => notR (runC n φ [.inl y, .inl x] ρ2)) (fun _ => .st) ρ2 := by
  unfold cInO
  cases a ρ with
  | st => rfl
  | er => rfl
  | ok x ρ1 =>
    show (b ρ1).bind _ = (b ρ1).bind _
    cases b ρ1 with
    | st => rfl
    | er => rfl
    | ok y ρ2 =>
      exact selK_if (clsD y == some c) (fun ρ2 => notR (runC n φ [.inl y, .inl x] ρ2)) (fun _ => .st) ρ2
theorem e_opT (c : Str) (n : Nat) (φ : Co Rv) (a b : Co D) (ρ : Sto) : cOpT c n φ a b ρ = (a ρ).bind fun x ρ1 => (b ρ1).bind fun y ρ2 => selK (clsD x == some c && isTupD y) (runC n φ [.inl x, .inl y]) (fun _ => .st) ρ2 := by
  unfold cOpT
  cases a ρ with
  | st => rfl
  | er => rfl
  | ok x ρ1 =>
    show (b ρ1).bind _ = (b ρ1).bind _
    cases b ρ1 with
    | st => rfl
    | er => rfl
    | ok y ρ2 =>
      exact selK_if (clsD x == some c && isTupD y) (runC n φ [.inl x, .inl y]) (fun _ => .st) ρ2
def putK (i : Nat) (c fl : Str) (d : D) : Option Sl → Sto → Out Fl
  | some (.ow b (.obj c' fs)), ρ1 => if c' = c ∧ fs.length < 1000 then .ok .nx (ρ1.set i (.ow b (.obj c' (setF fl d fs)))) else .st
  | _, _ => .st
theorem e_put (i : Nat) (c fl : Str) (a : Co D) (ρ : Sto) : cPut i c fl a ρ = (a ρ).bind fun d ρ1 => putK i c fl d ρ1[i]? ρ1 := by
  unfold cPut
  cases a ρ with
  | st => rfl
  | er => rfl
  | ok d ρ1 =>
    show (match ρ1[i]? with | some (.ow b (.obj c' fs)) => if c' = c ∧ fs.length < 1000 then .ok .nx (ρ1.set i (.ow b (.obj c' (setF fl d fs)))) else .st | _ => .st) = putK i c fl d ρ1[i]? ρ1
    rcases ρ1[i]? with _ | _ | _ | ⟨b, m⟩
    · rfl
    · rfl
    · rfl
    · cases m <;> rfl
theorem putK_e {i : Nat} {c fl : Str} {d : D} {b : Bool} {fs : List (D × D)} (h : fs.length < 1000) (ρ : Sto) : putK i c fl d (some (.ow b (.obj c fs))) ρ = .ok .nx (ρ.set i (.ow b (.obj c (setF fl d fs)))) := if_pos ⟨rfl, h⟩
def atoK (c fl : Str) : Option Sl → Sto → Out Rv
  | some (.ow _ (.obj c' fs)), ρ => if c' = c then optO ((fldF fl fs).map Rv.sh) ρ else .st
  | _, _ => .st
theorem e_atO (i : Nat) (c fl : Str) (ρ : Sto) : cAtO i c fl ρ = atoK c fl ρ[i]? ρ := by
  unfold cAtO
  rcases ρ[i]? with _ | _ | _ | ⟨b, m⟩
  · rfl
  · rfl
  · rfl
  · cases m with
    | lst => rfl
    | obj c' fs =>
      show (if c' = c then (match fldF fl fs with | some d => .ok (.sh d) ρ | none => .st) else .st) = if c' = c then optO ((fldF fl fs).map Rv.sh) ρ else .st
      cases fldF fl fs <;> rfl
theorem atoK_e {c fl : Str} {b : Bool} {fs : List (D × D)} (ρ : Sto) : atoK c fl (some (.ow b (.obj c fs))) ρ = optO ((fldF fl fs).map Rv.sh) ρ := if_pos rfl
theorem e_rai (c : Str) (fn : List Str) (r : Co (List D)) (ρ : Sto) : cRaise c fn r ρ = (r ρ).bind fun ds ρ1 => selK (decide (ds.length = fn.length) && ds.all shoD) (fun ρ1 => .er ⟨c, (mkFs fn ds).reverse⟩ ρ1) (fun _ => .st) ρ1 := by
  unfold cRaise
  cases r ρ with
  | st => rfl
  | er => rfl
  | ok ds ρ1 =>
    show (if ds.length = fn.length ∧ ds.all shoD = true then Out.er ⟨c, (mkFs fn ds).reverse⟩ ρ1 else .st) = selK (decide (ds.length = fn.length) && ds.all shoD) (fun ρ1 => .er ⟨c, (mkFs fn ds).reverse⟩ ρ1) (fun _ => .st) ρ1
    by_cases h1 : ds.length = fn.length
    · cases h2 : ds.all shoD <;> simp [selK, h1]
    · simp [selK, h1]
theorem e_rai0 (c : Str) (ρ : Sto) : cRaise0 c ρ = .er ⟨c, []⟩ ρ := rfl
theorem e_makV (c : Str) (nf nk : Nat) (φ : Co Rv) (r : Co Ar) (kw : Co (List D)) (ρ : Sto) : cMakeV c nf nk φ r kw ρ = (r ρ).bind fun xs ρ1 => (kw ρ1).bind fun zs ρ2 => makeV c nf nk φ xs zs ρ2 := rfl
theorem lefts_inl : ∀ ds : List D, lefts (ds.map .inl) = some ds
  | [] => rfl
  | d :: ds => by
    show (lefts (ds.map .inl)).map (d :: ·) = _
    rw [lefts_inl ds]
    rfl
/-- an object is made -/
theorem make_ok {c : Str} {nf nk : Nat} {φ : Co Rv} {ds zs : List D} {fs : List (D × D)} {ps : Sto} (h1 : nf ≤ ds.length + 1 ∧ ds.length ≤ 900 ∧ zs.length = nk ∧ 0 < nf)
    (h : φ (.ow true (.obj c []) :: ((ds.take (nf - 1) ++ zs).map .sh ++ [.sh (.tuple (ds.drop (nf - 1)))])) = .ok (.sh .none) (.ow true (.obj c fs) :: ps)) : makeV c nf nk φ (ds.map .inl) zs ρ = .ok (.ow (.obj c fs)) ρ := by
  unfold makeV
  rw [lefts_inl]
  show (if nf ≤ ds.length + 1 ∧ ds.length ≤ 900 ∧ zs.length = nk ∧ 0 < nf then _ else _) = _
  rw [if_pos h1, h]
  exact if_pos rfl
theorem e_As (a : Co D) (r : Co Ar) (ρ : Sto) : cAs a r ρ = (a ρ).bind fun d ρ1 => match d with
  | .tuple ds => (r ρ1).bind fun xs ρ2 => .ok (ds.map .inl ++ xs) ρ2
  | .list ds => (r ρ1).bind fun xs ρ2 => .ok (ds.map .inl ++ xs) ρ2
  | _ => .st := rfl
def borK : Out Bool → Sto → Out Bool
  | .ok r _, ρ => .ok r ρ
  | _, _ => .st
theorem e_borT (c : Co Bool) (ρ : Sto) : cBorT c ρ = borK (c (ρ.map fzSl)) ρ := by
  unfold cBorT
  cases c (ρ.map fzSl) <;> rfl
theorem borK_e (r : Bool) (ρ' ρ : Sto) : borK (.ok r ρ') ρ = .ok r ρ := rfl
def borR : Out Rv → Sto → Out Rv
  | .ok r _, ρ => .ok r ρ
  | _, _ => .st
theorem fz_un : fzSl .un = .un := rfl
theorem fz_sh (d : D) : fzSl (.sh d) = .sh d := rfl
def movK (i : Nat) : Option Sl → Sto → Out Rv
  | some (.sh d), ρ => .ok (.sh d) ρ
  | some (.ow false m), ρ => .ok (.ow m) (ρ.set i .un)
  | _, _ => .st
theorem e_mov (i : Nat) (ρ : Sto) : cMov i ρ = movK i ρ[i]? ρ := by
  unfold cMov
  rcases ρ[i]? with _ | _ | _ | ⟨b, m⟩
  · rfl
  · rfl
  · rfl
  · cases b <;> rfl
theorem movK_sh (i : Nat) (d : D) (ρ : Sto) : movK i (some (.sh d)) ρ = .ok (.sh d) ρ := rfl
theorem movK_ow (i : Nat) (m : Mu) (ρ : Sto) : movK i (some (.ow false m)) ρ = .ok (.ow m) (ρ.set i .un) := rfl
theorem e_asg (b : D → Sto → Option Sto) (c : Co D) (ρ : Sto) : cAsg b c ρ = (c ρ).bind fun d ρ1 => oNx (b d ρ1) := rfl
theorem fld_eq (f : Str) (d : D) (r : List (D × D)) : fldF f ((.str f, d) :: r) = some d := if_pos rfl
theorem fld_ne {f g : Str} (d : D) (r : List (D × D)) (h : g ≠ f) : fldF f ((.str g, d) :: r) = fldF f r := if_neg fun z => h (Option.some.inj z)
theorem fld_no (f : Str) : fldF f [] = none := rfl
theorem fldD_e (c f : Str) (fs : List (D × D)) : fldD c f (.dict ((.none, .str c) :: fs)) = fldF f fs := if_pos rfl
theorem setF_no (f : Str) (d : D) : setF f d [] = [(.str f, d)] := rfl
theorem setF_ne {f g : Str} (d x : D) (r : List (D × D)) (h : g ≠ f) : setF f d ((.str g, x) :: r) = (.str g, x) :: setF f d r := if_neg fun z => h (Option.some.inj z)
theorem clsD_e (c : Str) (fs : List (D × D)) : clsD (.dict ((.none, .str c) :: fs)) = some c := rfl
end
end Md
namespace K05
open PySem PySem.Spec PyProof.Rows L2 Md

def top (i : Nat) : Stmt := PySem.Challenge.pw_handsroom_k05_without_a_mark.main.body.getD i (.Pass ⟨0, 0, 0, 0⟩)
def d_RESERVED : D := .tuple [.str "lock", .str "kind", .str "body", .str "routine", .str "done", .str "do", .str "with", .str "block", .str "either", .str "or", .str "repeat", .str "close", .str "drop", .str "give", .str "skip", .str "make", .str "copy", .str "fetch", .str "read", .str "keep", .str "write", .str "put", .str "call", .str "take", .str "as"]
def d__LETTERS : D := .str "abcdefghijklmnopqrstuvwxyz"
def d__DIGITS : D := .str "0123456789"
def d__MOST_CHARACTERS : D := .int 8
def d__MOST_PLACES : D := .int 3
def d__MOST_LOCKS : D := .int 4
def d__MOST_KINDS : D := .int 3
/-- which of the own classes are built-in ones: none -/
def isiOwn : List (Str × Bool) := [("Signature", false), ("Hall", false)]
def isi_Signature : List (Str × Bool) := [("Signature", true), ("Hall", false)]
def isi_Hall : List (Str × Bool) := [("Signature", false), ("Hall", true)]
def fn_BadPart : List Str := ["rule"]
def fn_BadLine : List Str := ["line", "rule"]
def fn_Unlike : List Str := []
def fn_NoSuch : List Str := ["name"]
abbrev s_is_integer : Stmt := top 8
theorem sc_is_integer : FnScope ["value"] ["value"] (defScope s_is_integer) := ⟨rfl, rfl, rfl, by decide +kernel, rfl, by decide +kernel, by decide +kernel⟩
abbrev s_has_repeat : Stmt := top 9
theorem sc_has_repeat : FnScope ["values", "at", "value"] ["values"] (defScope s_has_repeat) := ⟨rfl, rfl, rfl, by decide +kernel, rfl, by decide +kernel, by decide +kernel⟩
abbrev s_is_name : Stmt := top 15
theorem sc_is_name : FnScope ["value", "letter"] ["value"] (defScope s_is_name) := ⟨rfl, rfl, rfl, by decide +kernel, rfl, by decide +kernel, by decide +kernel⟩
abbrev s_is_mark : Stmt := top 18
theorem sc_is_mark : FnScope ["value", "word", "parts", "part"] ["value"] (defScope s_is_mark) := ⟨rfl, rfl, rfl, by decide +kernel, rfl, by decide +kernel, by decide +kernel⟩
abbrev s_all_marks : Stmt := top 19
theorem sc_all_marks : FnScope ["hall", "places", "marks", "lock", "held", "kind", "field", "at"] ["hall", "places"] (defScope s_all_marks) := ⟨rfl, rfl, rfl, by decide +kernel, rfl, by decide +kernel, by decide +kernel⟩
abbrev s_needed_marks : Stmt := top 20
theorem sc_needed_marks : FnScope ["hall", "places", "mark"] ["hall", "places", "mark"] (defScope s_needed_marks) := ⟨rfl, rfl, rfl, by decide +kernel, rfl, by decide +kernel, by decide +kernel⟩
abbrev s_parts_rule : Stmt := top 21
theorem sc_parts_rule : FnScope ["hall", "places", "marks", "possible", "needed", "mark", "need", "place"] ["hall", "places", "marks"] (defScope s_parts_rule) := ⟨rfl, rfl, rfl, by decide +kernel, rfl, by decide +kernel, by decide +kernel⟩
abbrev s_mark_word : Stmt := top 22
theorem sc_mark_word : FnScope ["mark"] ["mark"] (defScope s_mark_word) := ⟨rfl, rfl, rfl, by decide +kernel, rfl, by decide +kernel, by decide +kernel⟩
abbrev s_written_rule : Stmt := top 25
theorem sc_written_rule : FnScope ["hall", "text", "parts", "places", "marks", "rule", "written", "ordered", "mark"] ["hall", "text"] (defScope s_written_rule) := ⟨rfl, rfl, rfl, by decide +kernel, rfl, by decide +kernel, by decide +kernel⟩
abbrev s_Signature_init : Stmt := inClass (top 26) 0
theorem sc_Signature_init : FnScope ["self", "hall", "marks", "places", "rule", "mark"] ["self", "hall", "marks", "places"] (defScope s_Signature_init) := ⟨rfl, rfl, rfl, by decide +kernel, rfl, by decide +kernel, by decide +kernel⟩
abbrev s_Signature_fullest : Stmt := inClass (top 26) 1
theorem sc_Signature_fullest : FnScope ["hall", "giving", "places"] ["hall", "giving", "places"] (defScope s_Signature_fullest) := ⟨rfl, rfl, rfl, by decide +kernel, rfl, by decide +kernel, by decide +kernel⟩
abbrev s_Signature_read : Stmt := inClass (top 26) 2
theorem sc_Signature_read : FnScope ["hall", "text"] ["hall", "text"] (defScope s_Signature_read) := ⟨rfl, rfl, rfl, by decide +kernel, rfl, by decide +kernel, by decide +kernel⟩
abbrev s_Signature_eq : Stmt := inClass (top 26) 3
theorem sc_Signature_eq : FnScope ["self", "other"] ["self", "other"] (defScope s_Signature_eq) := ⟨rfl, rfl, rfl, by decide +kernel, rfl, by decide +kernel, by decide +kernel⟩
abbrev s_Signature_len : Stmt := inClass (top 26) 5
theorem sc_Signature_len : FnScope ["self"] ["self"] (defScope s_Signature_len) := ⟨rfl, rfl, rfl, by decide +kernel, rfl, by decide +kernel, by decide +kernel⟩
abbrev s_Signature_contains : Stmt := inClass (top 26) 6
theorem sc_Signature_contains : FnScope ["self", "mark"] ["self", "mark"] (defScope s_Signature_contains) := ⟨rfl, rfl, rfl, by decide +kernel, rfl, by decide +kernel, by decide +kernel⟩
abbrev s_Signature_or : Stmt := inClass (top 26) 7
theorem sc_Signature_or : FnScope ["self", "other", "marks"] ["self", "other"] (defScope s_Signature_or) := ⟨rfl, rfl, rfl, by decide +kernel, rfl, by decide +kernel, by decide +kernel⟩
abbrev s_Signature_and : Stmt := inClass (top 26) 8
theorem sc_Signature_and : FnScope ["self", "other", "mark"] ["self", "other"] (defScope s_Signature_and) := ⟨rfl, rfl, rfl, by decide +kernel, rfl, by decide +kernel, by decide +kernel⟩
abbrev s_Signature_sub : Stmt := inClass (top 26) 9
theorem sc_Signature_sub : FnScope ["self", "mark", "others", "one"] ["self", "mark"] (defScope s_Signature_sub) := ⟨rfl, rfl, rfl, by decide +kernel, rfl, by decide +kernel, by decide +kernel⟩
abbrev s_Signature_kept_to : Stmt := inClass (top 26) 10
theorem sc_Signature_kept_to : FnScope ["self", "marks", "mark"] ["self", "marks"] (defScope s_Signature_kept_to) := ⟨rfl, rfl, rfl, by decide +kernel, rfl, by decide +kernel, by decide +kernel⟩
abbrev s_Signature_alike : Stmt := inClass (top 26) 11
theorem sc_Signature_alike : FnScope ["self", "other", "same"] ["self", "other"] (defScope s_Signature_alike) := ⟨rfl, rfl, rfl, by decide +kernel, rfl, by decide +kernel, by decide +kernel⟩
abbrev s_Signature_within : Stmt := inClass (top 26) 12
theorem sc_Signature_within : FnScope ["self", "other", "mark"] ["self", "other"] (defScope s_Signature_within) := ⟨rfl, rfl, rfl, by decide +kernel, rfl, by decide +kernel, by decide +kernel⟩
abbrev s_read_signature : Stmt := top 27
theorem sc_read_signature : FnScope ["hall", "text", "rule", "places", "marks"] ["hall", "text"] (defScope s_read_signature) := ⟨rfl, rfl, rfl, by decide +kernel, rfl, by decide +kernel, by decide +kernel⟩
abbrev s_is_description : Stmt := top 31
theorem sc_is_description : FnScope ["value", "field"] ["value"] (defScope s_is_description) := ⟨rfl, rfl, rfl, by decide +kernel, rfl, by decide +kernel, by decide +kernel⟩
abbrev s_lock_rule : Stmt := top 32
theorem sc_lock_rule : FnScope ["lock", "locks"] ["lock", "locks"] (defScope s_lock_rule) := ⟨rfl, rfl, rfl, by decide +kernel, rfl, by decide +kernel, by decide +kernel⟩
abbrev s_kind_rule : Stmt := top 33
theorem sc_kind_rule : FnScope ["description", "locks", "kinds"] ["description", "locks", "kinds"] (defScope s_kind_rule) := ⟨rfl, rfl, rfl, by decide +kernel, rfl, by decide +kernel, by decide +kernel⟩
abbrev s_hall_fault : Stmt := top 34
theorem sc_hall_fault : FnScope ["locks", "descriptions", "at", "lock", "rule", "kinds", "description"] ["locks", "descriptions"] (defScope s_hall_fault) := ⟨rfl, rfl, rfl, by decide +kernel, rfl, by decide +kernel, by decide +kernel⟩
abbrev s_Hall_init : Stmt := inClass (top 35) 0
theorem sc_Hall_init : FnScope ["self", "locks", "descriptions", "fault", "line", "rule", "description", "row", "field"] ["self", "locks", "descriptions"] (defScope s_Hall_init) := ⟨rfl, rfl, rfl, by decide +kernel, rfl, by decide +kernel, by decide +kernel⟩
abbrev s_Hall_eq : Stmt := inClass (top 35) 1
theorem sc_Hall_eq : FnScope ["self", "other"] ["self", "other"] (defScope s_Hall_eq) := ⟨rfl, rfl, rfl, by decide +kernel, rfl, by decide +kernel, by decide +kernel⟩
abbrev s_Hall_description_of : Stmt := inClass (top 35) 2
theorem sc_Hall_description_of : FnScope ["self", "kind", "description"] ["self", "kind"] (defScope s_Hall_description_of) := ⟨rfl, rfl, rfl, by decide +kernel, rfl, by decide +kernel, by decide +kernel⟩
abbrev s_Hall_guard_of : Stmt := inClass (top 35) 3
theorem sc_Hall_guard_of : FnScope ["self", "kind"] ["self", "kind"] (defScope s_Hall_guard_of) := ⟨rfl, rfl, rfl, by decide +kernel, rfl, by decide +kernel, by decide +kernel⟩
abbrev s_Hall_fields_of : Stmt := inClass (top 35) 4
theorem sc_Hall_fields_of : FnScope ["self", "kind"] ["self", "kind"] (defScope s_Hall_fields_of) := ⟨rfl, rfl, rfl, by decide +kernel, rfl, by decide +kernel, by decide +kernel⟩
abbrev s__law_draws : Stmt := top 37
theorem sc__law_draws : FnScope ["_law_script", "_law_draws_here", "_law_place", "_law_cell", "_law_number", "_law_turn", "_law_mixed"] ["_law_script"] (defScope s__law_draws) := ⟨rfl, rfl, rfl, by decide +kernel, rfl, by decide +kernel, by decide +kernel⟩
abbrev s__law_next : Stmt := top 38
theorem sc__law_next : FnScope ["_law_draws_here", "_law_many"] ["_law_draws_here", "_law_many"] (defScope s__law_next) := ⟨rfl, rfl, rfl, by decide +kernel, rfl, by decide +kernel, by decide +kernel⟩
abbrev s__law_pool : Stmt := top 39
theorem sc__law_pool : FnScope ["_law_draws_here", "_law_stems", "_law_turn", "_law_stem", "_law_letter", "_law_first", "_law_names", "_law_k", "_law_sign", "_law_place", "_law_name"] ["_law_draws_here"] (defScope s__law_pool) := ⟨rfl, rfl, rfl, by decide +kernel, rfl, by decide +kernel, by decide +kernel⟩
abbrev s__law_parts : Stmt := top 40
theorem sc__law_parts : FnScope ["_law_draws_here", "_law_pool_here", "_law_many", "_law_rows", "_law_k", "_law_lock", "_law_at", "_law_field", "_law_row", "_law_other"] ["_law_draws_here", "_law_pool_here"] (defScope s__law_parts) := ⟨rfl, rfl, rfl, by decide +kernel, rfl, by decide +kernel, by decide +kernel⟩
abbrev s__law_hall : Stmt := top 41
theorem sc__law_hall : FnScope ["_law_parts_here", "_law_rows"] ["_law_parts_here"] (defScope s__law_hall) := ⟨rfl, rfl, rfl, by decide +kernel, rfl, by decide +kernel, by decide +kernel⟩
abbrev s__law_all_marks : Stmt := top 42
theorem sc__law_all_marks : FnScope ["_law_parts_here", "_law_places", "_law_found", "_law_upper", "_law_row", "_law_lock", "_law_place", "_law_field"] ["_law_parts_here", "_law_places"] (defScope s__law_all_marks) := ⟨rfl, rfl, rfl, by decide +kernel, rfl, by decide +kernel, by decide +kernel⟩
abbrev s__law_needs : Stmt := top 43
theorem sc__law_needs : FnScope ["_law_parts_here", "_law_places", "_law_mark", "_law_row"] ["_law_parts_here", "_law_places", "_law_mark"] (defScope s__law_needs) := ⟨rfl, rfl, rfl, by decide +kernel, rfl, by decide +kernel, by decide +kernel⟩
abbrev s__law_closed : Stmt := top 44
theorem sc__law_closed : FnScope ["_law_draws_here", "_law_parts_here", "_law_places", "_law_share", "_law_told", "_law_mark", "_law_lacking", "_law_one"] ["_law_draws_here", "_law_parts_here", "_law_places", "_law_share"] (defScope s__law_closed) := ⟨rfl, rfl, rfl, by decide +kernel, rfl, by decide +kernel, by decide +kernel⟩
abbrev s__law_signed : Stmt := top 45
theorem sc__law_signed : FnScope ["_law_hall_here", "_law_places", "_law_told"] ["_law_hall_here", "_law_places", "_law_told"] (defScope s__law_signed) := ⟨rfl, rfl, rfl, by decide +kernel, rfl, by decide +kernel, by decide +kernel⟩
abbrev s__law_gives : Stmt := top 46
theorem sc__law_gives : FnScope ["_law_told", "_law_mark"] ["_law_told"] (defScope s__law_gives) := ⟨rfl, rfl, rfl, by decide +kernel, rfl, by decide +kernel, by decide +kernel⟩
abbrev s__law_left : Stmt := top 47
theorem sc__law_left : FnScope ["_law_parts_here", "_law_places", "_law_told", "_law_mark", "_law_one"] ["_law_parts_here", "_law_places", "_law_told", "_law_mark"] (defScope s__law_left) := ⟨rfl, rfl, rfl, by decide +kernel, rfl, by decide +kernel, by decide +kernel⟩
abbrev s__law_less : Stmt := top 48
theorem sc__law_less : FnScope ["_law_signature", "_law_mark", "_law_found", "_law_word", "e"] ["_law_signature", "_law_mark"] (defScope s__law_less) := ⟨rfl, rfl, rfl, by decide +kernel, rfl, by decide +kernel, by decide +kernel⟩
abbrev s__law_fits : Stmt := top 49
theorem sc__law_fits : FnScope ["_law_answer", "_law_parts_here", "_law_places", "_law_told", "_law_mark", "_law_left_here"] ["_law_answer", "_law_parts_here", "_law_places", "_law_told", "_law_mark"] (defScope s__law_fits) := ⟨rfl, rfl, rfl, by decide +kernel, rfl, by decide +kernel, by decide +kernel⟩
abbrev s_law : Stmt := top 50
theorem sc_law : FnScope ["_law_script", "_law_draws_here", "_law_pool_here", "_law_parts_here", "_law_hall_here", "_law_places", "_law_turn", "_law_told", "_law_mark", "_law_fewer", "_law_signature", "_law_below", "_law_answer", "_law_lesser", "_law_left_here", "_law_other"] ["_law_script"] (defScope s_law) := ⟨rfl, rfl, rfl, by decide +kernel, rfl, by decide +kernel, by decide +kernel⟩
def b_is_integer : Co Fl := (cRet (cSh (cAnd (cFz (cIsi (some "int") isiOwn (cFz (cVar 0)))) (cFz (cNot (cFz (cIsi (some "bool") isiOwn (cFz (cVar 0)))))))))
def m_is_integer : Co Rv := fnC 1 1 b_is_integer
def b_has_repeat : Co Fl := (cRet (cO (cFz (cLc [1, 2] (bTup 2 (bCons (bNm 1) (bCons (bNm 2) bNil))) (cO (cFz (cVar 0)) enuM) cYes (cFz (cCm .inn (cFz (cVar 2)) (cFz (cSl (cFz (cVar 0)) cNoP (cSmP (cFz (cVar 1))))))))) (biD .any)))
def m_has_repeat : Co Rv := fnC 1 3 b_has_repeat
def b_is_name : Co Fl := (cSeq (cIf (cOrT (cNotT (cTru (cFz (cIsi (some "str") isiOwn (cFz (cVar 0)))))) (cNotT (cTst (cChn .le .le (cFz (cD (.int 1))) (cFz (cO (cFz (cVar 0)) (biD .len))) (cFz (cD d__MOST_CHARACTERS)))))) (cRet (cD (.bool false))) cNx)
  (cSeq (cIf (cOrT (cTst (cCm .nin (cFz (cIdx (cFz (cVar 0)) (cFz (cD (.int 0))))) (cFz (cD d__LETTERS)))) (cTst (cCm .inn (cFz (cVar 0)) (cFz (cD d_RESERVED))))) (cRet (cD (.bool false))) cNx)
  (cRet (cO (cFz (cLc [1] (bNm 1) (cO (cFz (cVar 0)) itM) cYes (cFz (cSh (cOr (cFz (cCm .inn (cFz (cVar 1)) (cFz (cD d__LETTERS)))) (cFz (cCm .inn (cFz (cVar 1)) (cFz (cD d__DIGITS))))))))) (biD .all)))))
def m_is_name : Co Rv := fnC 1 2 b_is_name
def b_is_mark : Co Fl := (cSeq (cIf (cOrT (cNotT (cTru (cFz (cIsi (some "tuple") isiOwn (cFz (cVar 0)))))) (cTst (cCm .nin (cFz (cO (cFz (cVar 0)) (biD .len))) (cFz (cTup (cCons (cFz (cD (.int 2))) (cCons (cFz (cD (.int 3))) cNil))))))) (cRet (cD (.bool false))) cNx)
  (cSeq (cPar 1 2 (cCons (cFz (cIdx (cFz (cVar 0)) (cFz (cD (.int 0))))) (cCons (cFz (cSl (cFz (cVar 0)) (cSmP (cFz (cD (.int 1)))) cNoP)) cNil)))
  (cSeq (cIf (cTst (cCm .eq (cFz (cVar 1)) (cFz (cD (.str "shares"))))) (cRet (cSh (cAnd (cFz (cCm .eq (cFz (cO (cFz (cVar 2)) (biD .len))) (cFz (cD (.int 1))))) (cFz (cCall 1 m_is_integer (cAv (cFz (cIdx (cFz (cVar 2)) (cFz (cD (.int 0))))) cA0)))))) cNx)
  (cSeq (cIf (cNotT (cTru (cFz (cO (cFz (cLc [3] (bNm 3) (cO (cFz (cVar 2)) itM) cYes (cFz (cCall 1 m_is_name (cAv (cFz (cVar 3)) cA0))))) (biD .all))))) (cRet (cD (.bool false))) cNx)
  (cSeq (cIf (cTst (cCm .inn (cFz (cVar 1)) (cFz (cTup (cCons (cFz (cD (.str "takes"))) (cCons (cFz (cD (.str "gives"))) cNil)))))) (cRet (cCm .eq (cFz (cO (cFz (cVar 2)) (biD .len))) (cFz (cD (.int 1))))) cNx)
  (cSeq (cIf (cTst (cCm .eq (cFz (cVar 1)) (cFz (cD (.str "under"))))) (cRet (cSh (cAnd (cFz (cCm .eq (cFz (cO (cFz (cVar 2)) (biD .len))) (cFz (cD (.int 2))))) (cFz (cCm .ne (cFz (cIdx (cFz (cVar 2)) (cFz (cD (.int 0))))) (cFz (cIdx (cFz (cVar 2)) (cFz (cD (.int 1)))))))))) cNx)
  (cRet (cSh (cAnd (cFz (cCm .eq (cFz (cVar 1)) (cFz (cD (.str "writes"))))) (cFz (cCm .eq (cFz (cO (cFz (cVar 2)) (biD .len))) (cFz (cD (.int 2))))))))))))))
def m_is_mark : Co Rv := fnC 1 4 b_is_mark
def b_all_marks : Co Fl := (cSeq (cSet 2 (cLc [3] (bNm 3) (cO (cFz (cAtt "Hall" "locks" (cFz (cVar 0)))) itM) cYes (cFz (cTup (cCons (cFz (cD (.str "takes"))) (cCons (cFz (cVar 3)) cNil))))))
  (cSeq (cSet 2 (c2 (cFz (cVar 2)) (cFz (cLc2 [4, 3] [3] (bNm 4) (cO (cFz (cAtt "Hall" "locks" (cFz (cVar 0)))) itM) cYes (bNm 3) (cO (cFz (cAtt "Hall" "locks" (cFz (cVar 0)))) itM) (cTst (cCm .ne (cFz (cVar 4)) (cFz (cVar 3)))) (cFz (cTup (cCons (cFz (cD (.str "under"))) (cCons (cFz (cVar 4)) (cCons (cFz (cVar 3)) cNil))))))) (op2 .add)))
  (cSeq (cSet 2 (c2 (cFz (cVar 2)) (cFz (cLc [5, 6] (bTup 2 (bCons (bNm 5) (bCons (bNm 6) bNil))) (cO (cFz (cAtt "Hall" "sorts" (cFz (cVar 0)))) itM) cYes (cFz (cTup (cCons (cFz (cD (.str "writes"))) (cCons (cFz (cVar 5)) (cCons (cFz (cVar 6)) cNil))))))) (op2 .add)))
  (cSeq (cSet 2 (c2 (cFz (cVar 2)) (cFz (cLc [3] (bNm 3) (cO (cFz (cAtt "Hall" "locks" (cFz (cVar 0)))) itM) cYes (cFz (cTup (cCons (cFz (cD (.str "gives"))) (cCons (cFz (cVar 3)) cNil)))))) (op2 .add)))
  (cRet (c2 (cFz (cVar 2)) (cFz (cLc [7] (bNm 7) (cO (cFz (cO (cFz (cVar 1)) (biD .len))) rngM) cYes (cFz (cTup (cCons (cFz (cD (.str "shares"))) (cCons (cFz (cVar 7)) cNil)))))) (op2 .add)))))))
def m_all_marks : Co Rv := fnC 2 8 b_all_marks
def b_Hall_description_of : Co Fl := (cSeq (cFor (bNm 2) (cO (cFz (cAtt "Hall" "descriptions" (cFz (cVar 0)))) itM) (cIf (cTst (cCm .eq (cFz (cIdx (cFz (cVar 2)) (cFz (cD (.int 0))))) (cFz (cVar 1)))) (cRet (cVar 2)) cNx))
  (cRaise "NoSuch" fn_NoSuch (cCons (cFz (cVar 1)) cNil)))
def m_Hall_description_of : Co Rv := fnC 2 3 b_Hall_description_of
def b_Hall_guard_of : Co Fl := (cRet (cIdx (cFz (cMeth "Hall" "_description_of" 2 m_Hall_description_of (cFz (cVar 0)) (cAv (cFz (cVar 1)) cA0))) (cFz (cD (.int 1)))))
def m_Hall_guard_of : Co Rv := fnC 2 2 b_Hall_guard_of
def b_needed_marks : Co Fl := (cSeq (cIf (cTst (cCm .eq (cFz (cIdx (cFz (cVar 2)) (cFz (cD (.int 0))))) (cFz (cD (.str "under"))))) (cRet (cLst (cCons (cFz (cTup (cCons (cFz (cD (.str "takes"))) (cCons (cFz (cIdx (cFz (cVar 2)) (cFz (cD (.int 1))))) cNil)))) (cCons (cFz (cTup (cCons (cFz (cD (.str "takes"))) (cCons (cFz (cIdx (cFz (cVar 2)) (cFz (cD (.int 2))))) cNil)))) cNil)))) cNx)
  (cSeq (cIf (cTst (cCm .eq (cFz (cIdx (cFz (cVar 2)) (cFz (cD (.int 0))))) (cFz (cD (.str "gives"))))) (cRet (cLst (cCons (cFz (cTup (cCons (cFz (cD (.str "takes"))) (cCons (cFz (cIdx (cFz (cVar 2)) (cFz (cD (.int 1))))) cNil)))) cNil))) cNx)
  (cSeq (cIf (cAndT (cTst (cCm .eq (cFz (cIdx (cFz (cVar 2)) (cFz (cD (.int 0))))) (cFz (cD (.str "writes"))))) (cAndT (cTst (cCm .nin (cFz (cIdx (cFz (cVar 2)) (cFz (cD (.int 1))))) (cFz (cVar 1)))) (cTst (cIsN true (cFz (cMeth "Hall" "guard_of" 2 m_Hall_guard_of (cFz (cVar 0)) (cAv (cFz (cIdx (cFz (cVar 2)) (cFz (cD (.int 1))))) cA0))))))) (cRet (cLst (cCons (cFz (cTup (cCons (cFz (cD (.str "takes"))) (cCons (cFz (cMeth "Hall" "guard_of" 2 m_Hall_guard_of (cFz (cVar 0)) (cAv (cFz (cIdx (cFz (cVar 2)) (cFz (cD (.int 1))))) cA0))) cNil)))) cNil))) cNx)
  (cRet (cLst cNil)))))
def m_needed_marks : Co Rv := fnC 3 3 b_needed_marks
def b_parts_rule : Co Fl := (cSeq (cIf (cOrT (cNotT (cTru (cFz (cO (cFz (cLc [7] (bNm 7) (cO (cFz (cVar 1)) itM) cYes (cFz (cCall 1 m_is_name (cAv (cFz (cVar 7)) cA0))))) (biD .all))))) (cNotT (cTru (cFz (cO (cFz (cLc [5] (bNm 5) (cO (cFz (cVar 2)) itM) cYes (cFz (cCall 1 m_is_mark (cAv (cFz (cVar 5)) cA0))))) (biD .all)))))) (cRet (cD (.str "form"))) cNx)
  (cSeq (cIf (cTst (cCm .gt (cFz (cO (cFz (cVar 1)) (biD .len))) (cFz (cD d__MOST_PLACES)))) (cRet (cD (.str "many"))) cNx)
  (cSeq (cSet 3 (cCall 2 m_all_marks (cAv (cFz (cVar 0)) (cAv (cFz (cVar 1)) cA0))))
  (cSeq (cIf (cOrT (cTru (cFz (cO (cFz (cLc [7] (bNm 7) (cO (cFz (cVar 1)) itM) cYes (cFz (cCm .nin (cFz (cVar 7)) (cFz (cAtt "Hall" "kinds" (cFz (cVar 0)))))))) (biD .any)))) (cTru (cFz (cO (cFz (cLc [5] (bNm 5) (cO (cFz (cVar 2)) itM) cYes (cFz (cCm .nin (cFz (cVar 5)) (cFz (cVar 3)))))) (biD .any))))) (cRet (cD (.str "unknown"))) cNx)
  (cSeq (cSet 4 (cLc2 [5, 6] [6] (bNm 5) (cO (cFz (cVar 2)) itM) cYes (bNm 6) (cO (cFz (cCall 3 m_needed_marks (cAv (cFz (cVar 0)) (cAv (cFz (cVar 1)) (cAv (cFz (cVar 5)) cA0))))) itM) cYes (cFz (cVar 6))))
  (cRet (cSh (cIf (cTru (cFz (cO (cFz (cLc [6] (bNm 6) (cO (cFz (cVar 4)) itM) cYes (cFz (cCm .nin (cFz (cVar 6)) (cFz (cVar 2)))))) (biD .any)))) (cFz (cD (.str "needs"))) (cFz (cD (.str "")))))))))))
def m_parts_rule : Co Rv := fnC 3 8 b_parts_rule
def b_mark_word : Co Fl := (cSeq (cIf (cTst (cCm .eq (cFz (cIdx (cFz (cVar 0)) (cFz (cD (.int 0))))) (cFz (cD (.str "takes"))))) (cRet (c2 (cFz (cD (.str "+"))) (cFz (cIdx (cFz (cVar 0)) (cFz (cD (.int 1))))) (op2 .add))) cNx)
  (cSeq (cIf (cTst (cCm .eq (cFz (cIdx (cFz (cVar 0)) (cFz (cD (.int 0))))) (cFz (cD (.str "under"))))) (cRet (c2 (cFz (c2 (cFz (cIdx (cFz (cVar 0)) (cFz (cD (.int 1))))) (cFz (cD (.str ">"))) (op2 .add))) (cFz (cIdx (cFz (cVar 0)) (cFz (cD (.int 2))))) (op2 .add))) cNx)
  (cSeq (cIf (cTst (cCm .eq (cFz (cIdx (cFz (cVar 0)) (cFz (cD (.int 0))))) (cFz (cD (.str "writes"))))) (cRet (c2 (cFz (c2 (cFz (cIdx (cFz (cVar 0)) (cFz (cD (.int 1))))) (cFz (cD (.str "."))) (op2 .add))) (cFz (cIdx (cFz (cVar 0)) (cFz (cD (.int 2))))) (op2 .add))) cNx)
  (cRet (c2 (cFz (cD (.str "="))) (cFz (cIdx (cFz (cVar 0)) (cFz (cD (.int 1))))) (op2 .add))))))
def m_mark_word : Co Rv := fnC 1 1 b_mark_word
def b_Signature_init : Co Fl := (cSeq (cSet 4 (cCall 3 m_parts_rule (cAv (cFz (cVar 1)) (cAv (cFz (cVar 3)) (cAv (cFz (cVar 2)) cA0)))))
  (cSeq (cIf (cTru (cFz (cVar 4))) (cRaise "BadPart" fn_BadPart (cCons (cFz (cVar 4)) cNil)) cNx)
  (cSeq (cPut 0 "Signature" "hall" (cFz (cVar 1)))
  (cSeq (cPut 0 "Signature" "places" (cFz (cVar 3)))
  (cSeq (cPut 0 "Signature" "marks" (cFz (cO (cFz (cLc [5] (bNm 5) (cO (cFz (cCall 2 m_all_marks (cAv (cFz (cVar 1)) (cAv (cFz (cVar 3)) cA0)))) itM) (cTst (cCm .inn (cFz (cVar 5)) (cFz (cVar 2)))) (cFz (cVar 5)))) (biD .tuple))))
  (cSeq (cPut 0 "Signature" "takes" (cFz (cO (cFz (cLc [5] (bNm 5) (cO (cFz (cAtO 0 "Signature" "marks")) itM) (cTst (cCm .eq (cFz (cIdx (cFz (cVar 5)) (cFz (cD (.int 0))))) (cFz (cD (.str "takes"))))) (cFz (cIdx (cFz (cVar 5)) (cFz (cD (.int 1))))))) (biD .tuple))))
  (cSeq (cPut 0 "Signature" "under" (cFz (cO (cFz (cLc [5] (bNm 5) (cO (cFz (cAtO 0 "Signature" "marks")) itM) (cTst (cCm .eq (cFz (cIdx (cFz (cVar 5)) (cFz (cD (.int 0))))) (cFz (cD (.str "under"))))) (cFz (cSl (cFz (cVar 5)) (cSmP (cFz (cD (.int 1)))) cNoP)))) (biD .tuple))))
  (cSeq (cPut 0 "Signature" "writes" (cFz (cO (cFz (cLc [5] (bNm 5) (cO (cFz (cAtO 0 "Signature" "marks")) itM) (cTst (cCm .eq (cFz (cIdx (cFz (cVar 5)) (cFz (cD (.int 0))))) (cFz (cD (.str "writes"))))) (cFz (cSl (cFz (cVar 5)) (cSmP (cFz (cD (.int 1)))) cNoP)))) (biD .tuple))))
  (cSeq (cPut 0 "Signature" "gives" (cFz (cO (cFz (cLc [5] (bNm 5) (cO (cFz (cAtO 0 "Signature" "marks")) itM) (cTst (cCm .eq (cFz (cIdx (cFz (cVar 5)) (cFz (cD (.int 0))))) (cFz (cD (.str "gives"))))) (cFz (cIdx (cFz (cVar 5)) (cFz (cD (.int 1))))))) (biD .tuple))))
  (cSeq (cPut 0 "Signature" "shares" (cFz (cO (cFz (cLc [5] (bNm 5) (cO (cFz (cAtO 0 "Signature" "marks")) itM) (cTst (cCm .eq (cFz (cIdx (cFz (cVar 5)) (cFz (cD (.int 0))))) (cFz (cD (.str "shares"))))) (cFz (cIdx (cFz (cVar 5)) (cFz (cD (.int 1))))))) (biD .tuple))))
  (cPut 0 "Signature" "is_giving" (cFz (cCm .gt (cFz (cO (cFz (cAtO 0 "Signature" "gives")) (biD .len))) (cFz (cD (.int 0))))))))))))))))
def m_Signature_init : Co Rv := fnC 4 6 b_Signature_init
def b_Hall_eq : Co Fl := (cRet (cSh (cAnd (cFz (cIsi none isi_Hall (cFz (cVar 1)))) (cFz (cSh (cAnd (cFz (cCm .eq (cFz (cAtt "Hall" "locks" (cFz (cVar 0)))) (cFz (cAtt "Hall" "locks" (cFz (cVar 1)))))) (cFz (cCm .eq (cFz (cAtt "Hall" "descriptions" (cFz (cVar 0)))) (cFz (cAtt "Hall" "descriptions" (cFz (cVar 1))))))))))))
def m_Hall_eq : Co Rv := fnC 2 2 b_Hall_eq
def b_Signature_eq : Co Fl := (cSeq (cIf (cNotT (cTru (cFz (cIsi none isi_Signature (cFz (cVar 1)))))) (cRet (cD (.bool false))) cNx)
  (cRet (cSh (cAnd (cFz (cEqO "Hall" 2 m_Hall_eq (cFz (cAtt "Signature" "hall" (cFz (cVar 0)))) (cFz (cAtt "Signature" "hall" (cFz (cVar 1)))))) (cFz (cSh (cAnd (cFz (cCm .eq (cFz (cAtt "Signature" "places" (cFz (cVar 0)))) (cFz (cAtt "Signature" "places" (cFz (cVar 1)))))) (cFz (cCm .eq (cFz (cAtt "Signature" "marks" (cFz (cVar 0)))) (cFz (cAtt "Signature" "marks" (cFz (cVar 1)))))))))))))
def m_Signature_eq : Co Rv := fnC 2 2 b_Signature_eq
def b_Signature_len : Co Fl := (cRet (cO (cFz (cAtt "Signature" "marks" (cFz (cVar 0)))) (biD .len)))
def m_Signature_len : Co Rv := fnC 1 1 b_Signature_len
def b_Signature_contains : Co Fl := (cRet (cSh (cAnd (cFz (cCall 1 m_is_mark (cAv (cFz (cVar 1)) cA0))) (cFz (cCm .inn (cFz (cVar 1)) (cFz (cAtt "Signature" "marks" (cFz (cVar 0)))))))))
def m_Signature_contains : Co Rv := fnC 2 2 b_Signature_contains
def b_Signature_alike : Co Fl := (cSeq (cSet 2 (cSh (cAnd (cFz (cEqO "Hall" 2 m_Hall_eq (cFz (cAtt "Signature" "hall" (cFz (cVar 0)))) (cFz (cAtt "Signature" "hall" (cFz (cVar 1)))))) (cFz (cCm .eq (cFz (cAtt "Signature" "places" (cFz (cVar 0)))) (cFz (cAtt "Signature" "places" (cFz (cVar 1)))))))))
  (cRet (cSh (cAnd (cFz (cVar 2)) (cFz (cCm .eq (cFz (cAtt "Signature" "is_giving" (cFz (cVar 0)))) (cFz (cAtt "Signature" "is_giving" (cFz (cVar 1))))))))))
def m_Signature_alike : Co Rv := fnC 2 3 b_Signature_alike
def b_Signature_or : Co Fl := (cSeq (cIf (cNotT (cTru (cFz (cMeth "Signature" "alike" 2 m_Signature_alike (cFz (cVar 0)) (cAv (cFz (cVar 1)) cA0))))) (cRaise0 "Unlike") cNx)
  (cSeq (cSet 2 (c2 (cFz (cAtt "Signature" "marks" (cFz (cVar 0)))) (cFz (cAtt "Signature" "marks" (cFz (cVar 1)))) (op2 .add)))
  (cRet (cMakeV "Signature" 2 1 m_Signature_init (cAv (cFz (cAtt "Signature" "hall" (cFz (cVar 0)))) (cAs (cFz (cAtt "Signature" "places" (cFz (cVar 0)))) cA0)) (cCons (cFz (cVar 2)) cNil)))))
def m_Signature_or : Co Rv := fnC 2 3 b_Signature_or
def b_Signature_kept_to : Co Fl := (cSeq (cIf (cAndT (cTru (cFz (cAtt "Signature" "is_giving" (cFz (cVar 0))))) (cNotT (cTru (cFz (cO (cFz (cLc [2] (bNm 2) (cO (cFz (cVar 1)) itM) cYes (cFz (cCm .eq (cFz (cIdx (cFz (cVar 2)) (cFz (cD (.int 0))))) (cFz (cD (.str "gives"))))))) (biD .any)))))) (cRaise0 "Unlike") cNx)
  (cRet (cMakeV "Signature" 2 1 m_Signature_init (cAv (cFz (cAtt "Signature" "hall" (cFz (cVar 0)))) (cAs (cFz (cAtt "Signature" "places" (cFz (cVar 0)))) cA0)) (cCons (cFz (cVar 1)) cNil))))
def m_Signature_kept_to : Co Rv := fnC 2 3 b_Signature_kept_to
def b_Signature_and : Co Fl := (cSeq (cIf (cNotT (cTru (cFz (cMeth "Signature" "alike" 2 m_Signature_alike (cFz (cVar 0)) (cAv (cFz (cVar 1)) cA0))))) (cRaise0 "Unlike") cNx)
  (cRet (cMeth "Signature" "_kept_to" 2 m_Signature_kept_to (cFz (cVar 0)) (cAv (cFz (cLc [2] (bNm 2) (cO (cFz (cAtt "Signature" "marks" (cFz (cVar 0)))) itM) (cTst (cCm .inn (cFz (cVar 2)) (cFz (cAtt "Signature" "marks" (cFz (cVar 1)))))) (cFz (cVar 2)))) cA0))))
def m_Signature_and : Co Rv := fnC 2 3 b_Signature_and
def b_Signature_sub : Co Fl := (cSeq (cIf (cTst (cInO true "Signature" 2 m_Signature_contains (cFz (cVar 1)) (cFz (cVar 0)))) (cRaise "NoSuch" fn_NoSuch (cCons (cFz (cVar 1)) cNil)) cNx)
  (cSeq (cSet 2 (cLc [3] (bNm 3) (cO (cFz (cAtt "Signature" "marks" (cFz (cVar 0)))) itM) (cTst (cCm .ne (cFz (cVar 3)) (cFz (cVar 1)))) (cFz (cVar 3))))
  (cRet (cMeth "Signature" "_kept_to" 2 m_Signature_kept_to (cFz (cVar 0)) (cAv (cFz (cLc [3] (bNm 3) (cO (cFz (cVar 2)) itM) (cTst (cCm .nin (cFz (cVar 1)) (cFz (cCall 3 m_needed_marks (cAv (cFz (cAtt "Signature" "hall" (cFz (cVar 0)))) (cAv (cFz (cAtt "Signature" "places" (cFz (cVar 0)))) (cAv (cFz (cVar 3)) cA0))))))) (cFz (cVar 3)))) cA0)))))
def m_Signature_sub : Co Rv := fnC 2 4 b_Signature_sub
def b_Signature_within : Co Fl := (cRet (cSh (cAnd (cFz (cMeth "Signature" "alike" 2 m_Signature_alike (cFz (cVar 0)) (cAv (cFz (cVar 1)) cA0))) (cFz (cO (cFz (cLc [2] (bNm 2) (cO (cFz (cAtt "Signature" "marks" (cFz (cVar 0)))) itM) cYes (cFz (cCm .inn (cFz (cVar 2)) (cFz (cAtt "Signature" "marks" (cFz (cVar 1)))))))) (biD .all))))))
def m_Signature_within : Co Rv := fnC 2 3 b_Signature_within
def b_is_description : Co Fl := (cSeq (cIf (cOrT (cNotT (cTru (cFz (cIsi (some "tuple") isiOwn (cFz (cVar 0)))))) (cTst (cCm .nin (cFz (cO (cFz (cVar 0)) (biD .len))) (cFz (cTup (cCons (cFz (cD (.int 3))) (cCons (cFz (cD (.int 4))) cNil))))))) (cRet (cD (.bool false))) cNx)
  (cSeq (cIf (cAndT (cTst (cIsN true (cFz (cIdx (cFz (cVar 0)) (cFz (cD (.int 1))))))) (cNotT (cTru (cFz (cCall 1 m_is_name (cAv (cFz (cIdx (cFz (cVar 0)) (cFz (cD (.int 1))))) cA0)))))) (cRet (cD (.bool false))) cNx)
  (cRet (cSh (cAnd (cFz (cCall 1 m_is_name (cAv (cFz (cIdx (cFz (cVar 0)) (cFz (cD (.int 0))))) cA0))) (cFz (cO (cFz (cLc [1] (bNm 1) (cO (cFz (cSl (cFz (cVar 0)) (cSmP (cFz (cD (.int 2)))) cNoP)) itM) cYes (cFz (cCall 1 m_is_name (cAv (cFz (cVar 1)) cA0))))) (biD .all))))))))
def m_is_description : Co Rv := fnC 1 2 b_is_description
def b_lock_rule : Co Fl := (cSeq (cIf (cNotT (cTru (cFz (cCall 1 m_is_name (cAv (cFz (cVar 0)) cA0))))) (cRet (cD (.str "form"))) cNx)
  (cSeq (cIf (cTst (cCm .ge (cFz (cO (cFz (cVar 1)) (biD .len))) (cFz (cD d__MOST_LOCKS)))) (cRet (cD (.str "many"))) cNx)
  (cRet (cSh (cIf (cTst (cCm .inn (cFz (cVar 0)) (cFz (cVar 1)))) (cFz (cD (.str "twice"))) (cFz (cD (.str ""))))))))
def m_lock_rule : Co Rv := fnC 2 2 b_lock_rule
def b_kind_rule : Co Fl := (cSeq (cIf (cNotT (cTru (cFz (cCall 1 m_is_description (cAv (cFz (cVar 0)) cA0))))) (cRet (cD (.str "form"))) cNx)
  (cSeq (cIf (cTst (cCm .ge (cFz (cO (cFz (cVar 2)) (biD .len))) (cFz (cD d__MOST_KINDS)))) (cRet (cD (.str "many"))) cNx)
  (cSeq (cIf (cOrT (cTst (cCm .inn (cFz (cIdx (cFz (cVar 0)) (cFz (cD (.int 0))))) (cFz (cVar 1)))) (cOrT (cTst (cCm .inn (cFz (cIdx (cFz (cVar 0)) (cFz (cD (.int 0))))) (cFz (cVar 2)))) (cTru (cFz (cCall 1 m_has_repeat (cAv (cFz (cSl (cFz (cVar 0)) (cSmP (cFz (cD (.int 2)))) cNoP)) cA0)))))) (cRet (cD (.str "twice"))) cNx)
  (cSeq (cIf (cAndT (cTst (cIsN true (cFz (cIdx (cFz (cVar 0)) (cFz (cD (.int 1))))))) (cTst (cCm .nin (cFz (cIdx (cFz (cVar 0)) (cFz (cD (.int 1))))) (cFz (cVar 1))))) (cRet (cD (.str "unknown"))) cNx)
  (cRet (cD (.str "")))))))
def m_kind_rule : Co Rv := fnC 3 3 b_kind_rule
def b_hall_fault : Co Fl := (cSeq (cFor (bTup 2 (bCons (bNm 2) (bCons (bNm 3) bNil))) (cO (cFz (cVar 0)) enuM) (cSeq (cSet 4 (cCall 2 m_lock_rule (cAv (cFz (cVar 3)) (cAv (cFz (cSl (cFz (cVar 0)) cNoP (cSmP (cFz (cVar 2))))) cA0))))
  (cIf (cTru (cFz (cVar 4))) (cRet (cTup (cCons (cFz (c2 (cFz (cVar 2)) (cFz (cD (.int 1))) (op2 .add))) (cCons (cFz (cVar 4)) cNil)))) cNx)))
  (cSeq (cSet 5 (cLst cNil))
  (cSeq (cFor (bTup 2 (bCons (bNm 2) (bCons (bNm 6) bNil))) (cO (cFz (cVar 1)) enuM) (cSeq (cSet 4 (cBor (cCall 3 m_kind_rule (cAv (cFz (cVar 6)) (cAv (cFz (cVar 0)) (cAv (cFz (cVar 5)) cA0))))))
  (cSeq (cIf (cTru (cFz (cVar 4))) (cRet (cTup (cCons (cFz (c2 (cFz (c2 (cFz (cO (cFz (cVar 0)) (biD .len))) (cFz (cVar 2)) (op2 .add))) (cFz (cD (.int 1))) (op2 .add))) (cCons (cFz (cVar 4)) cNil)))) cNx)
  (cEx (cApp 5 (cFz (cIdx (cFz (cVar 6)) (cFz (cD (.int 0))))))))))
  (cRet (cSh (cIf (cTru (cFz (cVar 5))) (cFz (cD .none)) (cFz (cTup (cCons (cFz (c2 (cFz (cO (cFz (cVar 0)) (biD .len))) (cFz (cD (.int 1))) (op2 .add))) (cCons (cFz (cD (.str "end"))) cNil))))))))))
def m_hall_fault : Co Rv := fnC 2 7 b_hall_fault
def b_Hall_init : Co Fl := (cSeq (cSet 3 (cCall 2 m_hall_fault (cAv (cFz (cO (cFz (cVar 1)) (biD .tuple))) (cAv (cFz (cVar 2)) cA0))))
  (cSeq (cIf (cTst (cIsN true (cFz (cVar 3)))) (cSeq (cAsg (bTup 2 (bCons (bNm 4) (bCons (bNm 5) bNil))) (cFz (cVar 3)))
  (cRaise "BadLine" fn_BadLine (cCons (cFz (cVar 4)) (cCons (cFz (cVar 5)) cNil)))) cNx)
  (cSeq (cPut 0 "Hall" "locks" (cFz (cO (cFz (cVar 1)) (biD .tuple))))
  (cSeq (cPut 0 "Hall" "descriptions" (cFz (cVar 2)))
  (cSeq (cPut 0 "Hall" "kinds" (cFz (cO (cFz (cLc [6] (bNm 6) (cO (cFz (cVar 2)) itM) cYes (cFz (cIdx (cFz (cVar 6)) (cFz (cD (.int 0))))))) (biD .tuple))))
  (cPut 0 "Hall" "sorts" (cFz (cO (cFz (cLc2 [7, 8] [8] (bNm 7) (cO (cFz (cVar 2)) itM) cYes (bNm 8) (cO (cFz (cSl (cFz (cVar 7)) (cSmP (cFz (cD (.int 2)))) cNoP)) itM) cYes (cFz (cTup (cCons (cFz (cIdx (cFz (cVar 7)) (cFz (cD (.int 0))))) (cCons (cFz (cVar 8)) cNil)))))) (biD .tuple)))))))))
def m_Hall_init : Co Rv := fnC 3 9 b_Hall_init
def b__law_draws : Co Fl := (cSeq (cSet 1 (cLst cNil))
  (cSeq (cFor (bTup 2 (bCons (bNm 2) (bCons (bNm 3) bNil))) (cO (cFz (cSl (cFz (cVar 0)) cNoP (cSmP (cFz (cD (.int 63)))))) enuM) (cSeq (cSet 4 (c2 (cFz (c2 (cFz (cD (.int 2))) (cFz (cO (cFz (cVar 3)) (biD .abs))) (op2 .mul))) (cFz (cO (cFz (cCm .lt (cFz (cVar 3)) (cFz (cD (.int 0))))) (biD .int))) (op2 .add)))
  (cIf (cTst (cCm .ge (cFz (cVar 4)) (cFz (c2 (cFz (cD (.int 2))) (cFz (c2 (cFz (cD (.int 10))) (cFz (cD (.int 18))) (op2 .pow))) (op2 .mul))))) (cFor (bNm 5) (cO (cFz (cD (.int 60))) rngM) (cIf (cAndT (cTst (cCm .gt (cFz (cVar 4)) (cFz (cD (.int 0))))) (cBorT (cTst (cCm .lt (cFz (cO (cFz (cVar 1)) (biD .len))) (cFz (cD (.int 600))))))) (cSeq (cEx (cApp 1 (cFz (c2 (cFz (cO (cFz (cVar 4)) (biD .int))) (cFz (cD (.int 720))) (op2 .mod)))))
  (cSet 4 (c2 (cFz (cVar 4)) (cFz (cD (.int 720))) (op2 .fdiv)))) cNx)) (cSeq (cSet 6 (c2 (cFz (cO (cFz (c2 (cFz (c2 (cFz (c2 (cFz (cVar 4)) (cFz (cD (.int 48271))) (op2 .mul))) (cFz (c2 (cFz (cVar 2)) (cFz (cD (.int 7919))) (op2 .mul))) (op2 .add))) (cFz (cD (.int 12345))) (op2 .add))) (biD .int))) (cFz (cD (.int 2147483647))) (op2 .mod)))
  (cFor (bNm 5) (cO (cFz (cD (.int 6))) rngM) (cSeq (cSet 6 (c2 (cFz (cO (cFz (c2 (cFz (c2 (cFz (c2 (cFz (cVar 6)) (cFz (cD (.int 69621))) (op2 .mul))) (cFz (c2 (cFz (cVar 4)) (cFz (cD (.int 31))) (op2 .mul))) (op2 .add))) (cFz (cVar 5)) (op2 .add))) (biD .int))) (cFz (cD (.int 2147483629))) (op2 .mod)))
  (cIf (cBorT (cTst (cCm .lt (cFz (cO (cFz (cVar 1)) (biD .len))) (cFz (cD (.int 600)))))) (cEx (cApp 1 (cFz (c2 (cFz (cVar 6)) (cFz (cD (.int 127))) (op2 .fdiv))))) cNx)))))))
  (cRet (cMov 1))))
def m__law_draws : Co Rv := fnC 1 7 b__law_draws
def b__law_next : Co Fl := (cSeq (cIf (cBorT (cTst (cCm .eq (cFz (cO (cFz (cVar 0)) (biD .len))) (cFz (cD (.int 0)))))) (cRet (cD (.int 0))) cNx)
  (cRet (c2 (cFz (cO (cFz (cPop 0 false)) (biD .int))) (cFz (cVar 1)) (op2 .mod))))
def m__law_next : Co Rv := fnC 2 2 b__law_next
def b__law_pool : Co Fl := (cSeq (cSet 1 (cLst cNil))
  (cSeq (cFor (bNm 2) (cO (cFz (cD (.int 3))) rngM) (cSeq (cSet 3 (cD (.str "")))
  (cSeq (cFor (bNm 4) (cO (cFz (cCall 2 m__law_next (cAo 0 (cAv (cFz (cD (.int 8))) cA0)))) rngM) (cSet 3 (c2 (cFz (cVar 3)) (cFz (cIdx (cFz (cD (.str "abcdefgh"))) (cFz (cCall 2 m__law_next (cAo 0 (cAv (cFz (cD (.int 8))) cA0)))))) (op2 .add))))
  (cEx (cApp 1 (cFz (cVar 3)))))))
  (cSeq (cSet 5 (cCall 2 m__law_next (cAo 0 (cAv (cFz (cD (.int 28))) cA0))))
  (cSeq (cSet 6 (cLst cNil))
  (cSeq (cFor (bNm 7) (cO (cFz (cD (.int 28))) rngM) (cSeq (cSet 8 (c2 (cFz (cO (cFz (c2 (cFz (cVar 5)) (cFz (c2 (cFz (cD (.int 5))) (cFz (cVar 7)) (op2 .mul))) (op2 .add))) (biD .int))) (cFz (cD (.int 28))) (op2 .mod)))
  (cSeq (cSet 3 (cIxO 1 (cFz (c2 (cFz (cVar 7)) (cFz (cD (.int 3))) (op2 .mod)))))
  (cSeq (cIf (cAndT (cTst (cCm .gt (cFz (cVar 8)) (cFz (cD (.int 17))))) (cTst (cCm .eq (cFz (cVar 3)) (cFz (cD (.str "")))))) (cSet 3 (cD (.str "a"))) cNx)
  (cSeq (cSet 9 (c2 (cFz (cO (cFz (c2 (cFz (c2 (cFz (cVar 7)) (cFz (cD (.int 3))) (op2 .fdiv))) (cFz (cO (cFz (cVar 3)) (biD .len))) (op2 .add))) (biD .int))) (cFz (c2 (cFz (cO (cFz (cVar 3)) (biD .len))) (cFz (cD (.int 1))) (op2 .add))) (op2 .mod)))
  (cSeq (cIf (cAndT (cTst (cCm .gt (cFz (cVar 8)) (cFz (cD (.int 17))))) (cTst (cCm .eq (cFz (cVar 9)) (cFz (cD (.int 0)))))) (cSet 9 (cD (.int 1))) cNx)
  (cSeq (cSet 10 (c2 (cFz (c2 (cFz (cSl (cFz (cVar 3)) cNoP (cSmP (cFz (cVar 9))))) (cFz (cIdx (cFz (cD (.str "ijklmnopqrstuvwxyz0123456789"))) (cFz (cVar 8)))) (op2 .add))) (cFz (cSl (cFz (cVar 3)) (cSmP (cFz (cVar 9))) cNoP)) (op2 .add)))
  (cSeq (cIf (cTst (cCm .inn (cFz (cVar 10)) (cFz (cLst (cCons (cFz (cD (.str "do"))) (cCons (cFz (cD (.str "as"))) (cCons (cFz (cD (.str "read"))) (cCons (cFz (cD (.str "fetch"))) cNil)))))))) (cSet 10 (c2 (cFz (cVar 10)) (cFz (cD (.str "0"))) (op2 .add))) cNx)
  (cEx (cApp 6 (cFz (cVar 10))))))))))))
  (cRet (cMov 6)))))))
def m__law_pool : Co Rv := fnC 1 11 b__law_pool
def b__law_parts : Co Fl := (cSeq (cSet 2 (cIdx (cFz (cLst (cCons (cFz (cD (.int 2))) (cCons (cFz (cD (.int 1))) (cCons (cFz (cD (.int 3))) (cCons (cFz (cD (.int 4))) (cCons (cFz (cD (.int 0))) cNil))))))) (cFz (cCall 2 m__law_next (cAo 0 (cAv (cFz (cD (.int 5))) cA0))))))
  (cSeq (cSet 3 (cLst cNil))
  (cSeq (cFor (bNm 4) (cO (cFz (cIdx (cFz (cLst (cCons (cFz (cD (.int 2))) (cCons (cFz (cD (.int 1))) (cCons (cFz (cD (.int 3))) cNil))))) (cFz (cCall 2 m__law_next (cAo 0 (cAv (cFz (cD (.int 3))) cA0)))))) rngM) (cSeq (cSet 5 (cD .none))
  (cSeq (cSet 6 (cCall 2 m__law_next (cAo 0 (cAv (cFz (c2 (cFz (cVar 2)) (cFz (cD (.int 1))) (op2 .add))) cA0))))
  (cSeq (cIf (cTst (cCm .lt (cFz (cVar 6)) (cFz (cVar 2)))) (cSet 5 (cIdx (cFz (cVar 1)) (cFz (cVar 6)))) cNx)
  (cSeq (cSet 7 (cCall 2 m__law_next (cAo 0 (cAv (cFz (cD (.int 28))) cA0))))
  (cSeq (cSet 8 (cTup (cCons (cFz (cIdx (cFz (cVar 1)) (cFz (c2 (cFz (cD (.int 4))) (cFz (cVar 4)) (op2 .add))))) (cCons (cFz (cVar 5)) (cCons (cFz (cIdx (cFz (cVar 1)) (cFz (cVar 7)))) cNil)))))
  (cSeq (cSet 9 (cCall 2 m__law_next (cAo 0 (cAv (cFz (cD (.int 28))) cA0))))
  (cSeq (cIf (cAndT (cTst (cCm .ne (cFz (cVar 9)) (cFz (cVar 7)))) (cTst (cCm .lt (cFz (cVar 9)) (cFz (cD (.int 20)))))) (cSet 8 (c2 (cFz (cVar 8)) (cFz (cTup (cCons (cFz (cIdx (cFz (cVar 1)) (cFz (cVar 9)))) cNil))) (op2 .add))) cNx)
  (cEx (cApp 3 (cFz (cVar 8))))))))))))
  (cRet (cLst (cCons (cFz (cSl (cFz (cVar 1)) cNoP (cSmP (cFz (cVar 2))))) (cCons (cFz (cVar 3)) cNil)))))))
def m__law_parts : Co Rv := fnC 2 10 b__law_parts
def b__law_hall : Co Fl := (cSeq (cSet 1 (cIdx (cFz (cVar 0)) (cFz (cD (.int 1)))))
  (cSeq (cIf (cTst (cCm .eq (cFz (cO (cFz (cVar 1)) (biD .len))) (cFz (cD (.int 1))))) (cRet (cMakeV "Hall" 2 0 m_Hall_init (cAv (cFz (cIdx (cFz (cVar 0)) (cFz (cD (.int 0))))) (cAv (cFz (cIdx (cFz (cVar 1)) (cFz (cD (.int 0))))) cA0)) cNil)) cNx)
  (cSeq (cIf (cTst (cCm .eq (cFz (cO (cFz (cVar 1)) (biD .len))) (cFz (cD (.int 2))))) (cRet (cMakeV "Hall" 2 0 m_Hall_init (cAv (cFz (cIdx (cFz (cVar 0)) (cFz (cD (.int 0))))) (cAv (cFz (cIdx (cFz (cVar 1)) (cFz (cD (.int 0))))) (cAv (cFz (cIdx (cFz (cVar 1)) (cFz (cD (.int 1))))) cA0))) cNil)) cNx)
  (cRet (cMakeV "Hall" 2 0 m_Hall_init (cAv (cFz (cIdx (cFz (cVar 0)) (cFz (cD (.int 0))))) (cAv (cFz (cIdx (cFz (cVar 1)) (cFz (cD (.int 0))))) (cAv (cFz (cIdx (cFz (cVar 1)) (cFz (cD (.int 1))))) (cAv (cFz (cIdx (cFz (cVar 1)) (cFz (cD (.int 2))))) cA0)))) cNil)))))
def m__law_hall : Co Rv := fnC 1 2 b__law_hall
def b__law_all_marks : Co Fl := (cSeq (cSet 2 (cLc [5] (bNm 5) (cO (cFz (cIdx (cFz (cVar 0)) (cFz (cD (.int 0))))) itM) cYes (cFz (cTup (cCons (cFz (cD (.str "takes"))) (cCons (cFz (cVar 5)) cNil))))))
  (cSeq (cFor (bNm 3) (cO (cFz (cIdx (cFz (cVar 0)) (cFz (cD (.int 0))))) itM) (cSet 2 (c2 (cFz (cVar 2)) (cFz (cLc [5] (bNm 5) (cO (cFz (cIdx (cFz (cVar 0)) (cFz (cD (.int 0))))) itM) (cTst (cCm .ne (cFz (cVar 5)) (cFz (cVar 3)))) (cFz (cTup (cCons (cFz (cD (.str "under"))) (cCons (cFz (cVar 3)) (cCons (cFz (cVar 5)) cNil))))))) (op2 .add))))
  (cSeq (cFor (bNm 4) (cO (cFz (cIdx (cFz (cVar 0)) (cFz (cD (.int 1))))) itM) (cSet 2 (c2 (cFz (cVar 2)) (cFz (cLc [7] (bNm 7) (cO (cFz (cSl (cFz (cVar 4)) (cSmP (cFz (cD (.int 2)))) cNoP)) itM) cYes (cFz (cTup (cCons (cFz (cD (.str "writes"))) (cCons (cFz (cIdx (cFz (cVar 4)) (cFz (cD (.int 0))))) (cCons (cFz (cVar 7)) cNil))))))) (op2 .add))))
  (cSeq (cSet 2 (c2 (cFz (cVar 2)) (cFz (cLc [5] (bNm 5) (cO (cFz (cIdx (cFz (cVar 0)) (cFz (cD (.int 0))))) itM) cYes (cFz (cTup (cCons (cFz (cD (.str "gives"))) (cCons (cFz (cVar 5)) cNil)))))) (op2 .add)))
  (cRet (c2 (cFz (cVar 2)) (cFz (cLc [6] (bNm 6) (cO (cFz (cO (cFz (cVar 1)) (biD .len))) rngM) cYes (cFz (cTup (cCons (cFz (cD (.str "shares"))) (cCons (cFz (cVar 6)) cNil)))))) (op2 .add)))))))
def m__law_all_marks : Co Rv := fnC 2 8 b__law_all_marks
def b__law_needs : Co Fl := (cSeq (cIf (cTst (cCm .eq (cFz (cIdx (cFz (cVar 2)) (cFz (cD (.int 0))))) (cFz (cD (.str "under"))))) (cRet (cLst (cCons (cFz (cTup (cCons (cFz (cD (.str "takes"))) (cCons (cFz (cIdx (cFz (cVar 2)) (cFz (cD (.int 1))))) cNil)))) (cCons (cFz (cTup (cCons (cFz (cD (.str "takes"))) (cCons (cFz (cIdx (cFz (cVar 2)) (cFz (cD (.int 2))))) cNil)))) cNil)))) cNx)
  (cSeq (cIf (cTst (cCm .eq (cFz (cIdx (cFz (cVar 2)) (cFz (cD (.int 0))))) (cFz (cD (.str "gives"))))) (cRet (cLst (cCons (cFz (cTup (cCons (cFz (cD (.str "takes"))) (cCons (cFz (cIdx (cFz (cVar 2)) (cFz (cD (.int 1))))) cNil)))) cNil))) cNx)
  (cSeq (cIf (cAndT (cTst (cCm .eq (cFz (cIdx (cFz (cVar 2)) (cFz (cD (.int 0))))) (cFz (cD (.str "writes"))))) (cTst (cCm .nin (cFz (cIdx (cFz (cVar 2)) (cFz (cD (.int 1))))) (cFz (cVar 1))))) (cRet (cLc [3] (bNm 3) (cO (cFz (cIdx (cFz (cVar 0)) (cFz (cD (.int 1))))) itM) (cAndT (cTst (cCm .eq (cFz (cIdx (cFz (cVar 3)) (cFz (cD (.int 0))))) (cFz (cIdx (cFz (cVar 2)) (cFz (cD (.int 1))))))) (cTst (cIsN true (cFz (cIdx (cFz (cVar 3)) (cFz (cD (.int 1)))))))) (cFz (cTup (cCons (cFz (cD (.str "takes"))) (cCons (cFz (cIdx (cFz (cVar 3)) (cFz (cD (.int 1))))) cNil)))))) cNx)
  (cRet (cLst cNil)))))
def m__law_needs : Co Rv := fnC 3 4 b__law_needs
def b__law_closed : Co Fl := (cSeq (cSet 4 (cLst cNil))
  (cSeq (cFor (bNm 5) (cO (cFz (cCall 2 m__law_all_marks (cAv (cFz (cVar 1)) (cAv (cFz (cVar 2)) cA0)))) itM) (cSeq (cSet 6 (cLc [7] (bNm 7) (cO (cFz (cCall 3 m__law_needs (cAv (cFz (cVar 1)) (cAv (cFz (cVar 2)) (cAv (cFz (cVar 5)) cA0))))) itM) (cBorT (cTst (cCm .nin (cFz (cVar 7)) (cFz (cVar 4))))) (cFz (cVar 7))))
  (cIf (cAndT (cTst (cCm .eq (cFz (cO (cFz (cVar 6)) (biD .len))) (cFz (cD (.int 0))))) (cTst (cCm .lt (cFz (cCall 2 m__law_next (cAo 0 (cAv (cFz (cD (.int 6))) cA0)))) (cFz (cVar 3))))) (cEx (cApp 4 (cFz (cVar 5)))) cNx)))
  (cRet (cMov 4))))
def m__law_closed : Co Rv := fnC 4 8 b__law_closed
def b__law_signed : Co Fl := (cSeq (cIf (cTst (cCm .eq (cFz (cO (cFz (cVar 1)) (biD .len))) (cFz (cD (.int 0))))) (cRet (cMakeV "Signature" 2 1 m_Signature_init (cAv (cFz (cVar 0)) cA0) (cCons (cFz (cVar 2)) cNil))) cNx)
  (cSeq (cIf (cTst (cCm .eq (cFz (cO (cFz (cVar 1)) (biD .len))) (cFz (cD (.int 1))))) (cRet (cMakeV "Signature" 2 1 m_Signature_init (cAv (cFz (cVar 0)) (cAv (cFz (cIdx (cFz (cVar 1)) (cFz (cD (.int 0))))) cA0)) (cCons (cFz (cVar 2)) cNil))) cNx)
  (cSeq (cIf (cTst (cCm .eq (cFz (cO (cFz (cVar 1)) (biD .len))) (cFz (cD (.int 2))))) (cRet (cMakeV "Signature" 2 1 m_Signature_init (cAv (cFz (cVar 0)) (cAv (cFz (cIdx (cFz (cVar 1)) (cFz (cD (.int 0))))) (cAv (cFz (cIdx (cFz (cVar 1)) (cFz (cD (.int 1))))) cA0))) (cCons (cFz (cVar 2)) cNil))) cNx)
  (cRet (cMakeV "Signature" 2 1 m_Signature_init (cAv (cFz (cVar 0)) (cAv (cFz (cIdx (cFz (cVar 1)) (cFz (cD (.int 0))))) (cAv (cFz (cIdx (cFz (cVar 1)) (cFz (cD (.int 1))))) (cAv (cFz (cIdx (cFz (cVar 1)) (cFz (cD (.int 2))))) cA0)))) (cCons (cFz (cVar 2)) cNil))))))
def m__law_signed : Co Rv := fnC 3 3 b__law_signed
def b__law_gives : Co Fl := (cRet (cCm .gt (cFz (cO (cFz (cLc [1] (bNm 1) (cO (cFz (cVar 0)) itM) (cTst (cCm .eq (cFz (cIdx (cFz (cVar 1)) (cFz (cD (.int 0))))) (cFz (cD (.str "gives"))))) (cFz (cVar 1)))) (biD .len))) (cFz (cD (.int 0)))))
def m__law_gives : Co Rv := fnC 1 2 b__law_gives
def b__law_left : Co Fl := (cRet (cLc [4] (bNm 4) (cO (cFz (cVar 2)) itM) (cAndT (cTst (cCm .ne (cFz (cVar 4)) (cFz (cVar 3)))) (cTst (cCm .nin (cFz (cVar 3)) (cFz (cCall 3 m__law_needs (cAv (cFz (cVar 0)) (cAv (cFz (cVar 1)) (cAv (cFz (cVar 4)) cA0)))))))) (cFz (cVar 4))))
def m__law_left : Co Rv := fnC 4 5 b__law_left
def b__law_less : Co Fl := cSeq (cSet 2 (cD .none)) (cSeq (cSet 3 (cD (.str ""))) (cSeq (cTry (cSet 2 (cOpT "Signature" 2 m_Signature_sub (cFz (cVar 0)) (cFz (cVar 1))))
  [hAs (fun c => if c = "NoSuch" then some true else if c = "Unlike" then some false else none) 4 (fun (x : Ex) (ρ : Sto) => match fldF "name" x.fs, (ρ[1]? : Option Sl) with
      | some d, some (.sh m) => if x.c = "NoSuch" then (match cmp2 .ne d m with
        | some k => oNx (setSl ρ 3 (.sh (.str (if k then "other" else "no such"))))
        | none => .st) else .st
      | _, _ => .st),
   hAs (fun c => if c = "Unlike" then some true else none) 4 (fun (x : Ex) (ρ : Sto) => if x.c = "Unlike" then oNx (setSl ρ 3 (.sh (.str "unlike"))) else .st),
   (fun _ => none, fun _ _ => .st)])
  (cRet (cLst (cCons (cFz (cVar 2)) (cCons (cFz (cVar 3)) cNil))))))
def m__law_less : Co Rv := fnC 2 5 b__law_less
def b__law_fits : Co Fl := (cSeq (cIf (cTst (cCm .nin (cFz (cVar 4)) (cFz (cVar 3)))) (cRet (cCm .eq (cFz (cIdx (cFz (cVar 0)) (cFz (cD (.int 1))))) (cFz (cD (.str "no such"))))) cNx)
  (cSeq (cSet 5 (cCall 4 m__law_left (cAv (cFz (cVar 1)) (cAv (cFz (cVar 2)) (cAv (cFz (cVar 3)) (cAv (cFz (cVar 4)) cA0))))))
  (cSeq (cIf (cAndT (cTru (cFz (cCall 1 m__law_gives (cAv (cFz (cVar 3)) cA0)))) (cNotT (cTru (cFz (cCall 1 m__law_gives (cAv (cFz (cVar 5)) cA0)))))) (cRet (cCm .eq (cFz (cIdx (cFz (cVar 0)) (cFz (cD (.int 1))))) (cFz (cD (.str "unlike"))))) cNx)
  (cSeq (cIf (cOrT (cTst (cCm .ne (cFz (cIdx (cFz (cVar 0)) (cFz (cD (.int 1))))) (cFz (cD (.str ""))))) (cNotT (cTru (cFz (cIsi none isi_Signature (cFz (cIdx (cFz (cVar 0)) (cFz (cD (.int 0)))))))))) (cRet (cD (.bool false))) cNx)
  (cRet (cSh (cAnd (cFz (cIsi (some "tuple") isiOwn (cFz (cAtt "Signature" "marks" (cFz (cIdx (cFz (cVar 0)) (cFz (cD (.int 0))))))))) (cFz (cSh (cAnd (cFz (cCm .eq (cFz (cO (cFz (cAtt "Signature" "marks" (cFz (cIdx (cFz (cVar 0)) (cFz (cD (.int 0))))))) (biD .list))) (cFz (cVar 5)))) (cFz (cCm .eq (cFz (cAtt "Signature" "places" (cFz (cIdx (cFz (cVar 0)) (cFz (cD (.int 0))))))) (cFz (cO (cFz (cVar 2)) (biD .tuple)))))))))))))))
def m__law_fits : Co Rv := fnC 5 6 b__law_fits
def b_law : Co Fl := (cSeq (cSet 1 (cCall 1 m__law_draws (cAv (cFz (cVar 0)) cA0)))
  (cSeq (cSet 2 (cCall 1 m__law_pool (cAo 1 cA0)))
  (cSeq (cSet 3 (cCall 2 m__law_parts (cAo 1 (cAv (cFz (cVar 2)) cA0))))
  (cSeq (cSet 4 (cCall 1 m__law_hall (cAv (cFz (cVar 3)) cA0)))
  (cSeq (cSet 5 (cLst cNil))
  (cSeq (cFor (bNm 6) (cO (cFz (cIdx (cFz (cLst (cCons (cFz (cD (.int 1))) (cCons (cFz (cD (.int 0))) (cCons (cFz (cD (.int 2))) (cCons (cFz (cD (.int 3))) cNil)))))) (cFz (cCall 2 m__law_next (cAo 1 (cAv (cFz (cD (.int 4))) cA0)))))) rngM) (cEx (cApp 5 (cFz (cIdx (cFz (cIdx (cFz (cIdx (cFz (cVar 3)) (cFz (cD (.int 1))))) (cFz (cCall 2 m__law_next (cAo 1 (cAv (cFz (cO (cFz (cIdx (cFz (cVar 3)) (cFz (cD (.int 1))))) (biD .len))) cA0)))))) (cFz (cD (.int 0))))))))
  (cSeq (cSet 7 (cCall 4 m__law_closed (cAo 1 (cAv (cFz (cVar 3)) (cAv (cFz (cVar 5)) (cAv (cFz (cIdx (cFz (cLst (cCons (cFz (cD (.int 5))) (cCons (cFz (cD (.int 3))) (cCons (cFz (cD (.int 6))) (cCons (cFz (cD (.int 2))) cNil)))))) (cFz (cCall 2 m__law_next (cAo 1 (cAv (cFz (cD (.int 4))) cA0)))))) cA0))))))
  (cSeq (cIf (cTst (cCm .eq (cFz (cCall 2 m__law_next (cAo 1 (cAv (cFz (cD (.int 2))) cA0)))) (cFz (cD (.int 1))))) (cSet 7 (cLc [8] (bNm 8) (cO (cFz (cVar 7)) itM) (cTst (cCm .ne (cFz (cIdx (cFz (cVar 8)) (cFz (cD (.int 0))))) (cFz (cD (.str "gives"))))) (cFz (cVar 8)))) cNx)
  (cSeq (cSet 9 (cO (cFz (cVar 7)) (biD .list)))
  (cSeq (cFor (bNm 6) (cO (cFz (cCall 2 m__law_next (cAo 1 (cAv (cFz (cD (.int 4))) cA0)))) rngM) (cIf (cTst (cCm .gt (cFz (cO (cFz (cVar 9)) (biD .len))) (cFz (cD (.int 0))))) (cSet 9 (cCall 4 m__law_left (cAv (cFz (cVar 3)) (cAv (cFz (cVar 5)) (cAv (cFz (cVar 9)) (cAv (cFz (cIdx (cFz (cVar 9)) (cFz (cCall 2 m__law_next (cAo 1 (cAv (cFz (cO (cFz (cVar 9)) (biD .len))) cA0)))))) cA0)))))) cNx))
  (cSeq (cSet 10 (cCall 3 m__law_signed (cAv (cFz (cVar 4)) (cAv (cFz (cVar 5)) (cAv (cFz (cVar 7)) cA0)))))
  (cSeq (cSet 11 (cCall 3 m__law_signed (cAv (cFz (cVar 4)) (cAv (cFz (cVar 5)) (cAv (cFz (cVar 9)) cA0)))))
  (cSeq (cFor (bNm 8) (cO (cFz (c2 (cFz (cCall 2 m__law_all_marks (cAv (cFz (cVar 3)) (cAv (cFz (cVar 5)) cA0)))) (cFz (cLst (cCons (cFz (cTup (cCons (cFz (cD (.str "takes"))) (cCons (cFz (cIdx (cFz (cVar 2)) (cFz (cD (.int 27))))) cNil)))) (cCons (cFz (cTup (cCons (cFz (cD (.str "shares"))) (cCons (cFz (cD (.int 3))) cNil)))) cNil)))) (op2 .add))) itM) (cSeq (cSet 12 (cCall 2 m__law_less (cAv (cFz (cVar 10)) (cAv (cFz (cVar 8)) cA0))))
  (cSeq (cIf (cNotT (cTru (cFz (cCall 5 m__law_fits (cAv (cFz (cVar 12)) (cAv (cFz (cVar 3)) (cAv (cFz (cVar 5)) (cAv (cFz (cVar 7)) (cAv (cFz (cVar 8)) cA0))))))))) (cRet (cD (.bool false))) cNx)
  (cIf (cTst (cIsN true (cFz (cIdx (cFz (cVar 12)) (cFz (cD (.int 0))))))) (cSeq (cSet 13 (cIdx (cFz (cVar 12)) (cFz (cD (.int 0)))))
  (cSeq (cIf (cOrT (cTst (cInO false "Signature" 2 m_Signature_contains (cFz (cVar 8)) (cFz (cVar 13)))) (cOrT (cNotT (cTru (cFz (cMeth "Signature" "within" 2 m_Signature_within (cFz (cVar 13)) (cAv (cFz (cVar 10)) cA0))))) (cTru (cFz (cMeth "Signature" "within" 2 m_Signature_within (cFz (cVar 10)) (cAv (cFz (cVar 13)) cA0)))))) (cRet (cD (.bool false))) cNx)
  (cSeq (cIf (cAndT (cTru (cFz (cMeth "Signature" "alike" 2 m_Signature_alike (cFz (cVar 11)) (cAv (cFz (cVar 10)) cA0)))) (cAndT (cTst (cCm .nin (cFz (cVar 8)) (cFz (cVar 9)))) (cNotT (cTru (cFz (cMeth "Signature" "within" 2 m_Signature_within (cFz (cVar 11)) (cAv (cFz (cVar 13)) cA0))))))) (cRet (cD (.bool false))) cNx)
  (cSeq (cSet 14 (cO (cFz (cAtt "Signature" "marks" (cFz (cVar 13)))) (biD .list)))
  (cIf (cTst (cCm .gt (cFz (cO (cFz (cVar 14)) (biD .len))) (cFz (cD (.int 0))))) (cSeq (cSet 15 (cIdx (cFz (cVar 14)) (cFz (cCall 2 m__law_next (cAo 1 (cAv (cFz (cO (cFz (cVar 14)) (biD .len))) cA0))))))
  (cIf (cNotT (cTru (cFz (cCall 5 m__law_fits (cAv (cFz (cCall 2 m__law_less (cAv (cFz (cVar 13)) (cAv (cFz (cVar 15)) cA0)))) (cAv (cFz (cVar 3)) (cAv (cFz (cVar 5)) (cAv (cFz (cVar 14)) (cAv (cFz (cVar 15)) cA0))))))))) (cRet (cD (.bool false))) cNx)) cNx))))) cNx))))
  (cRet (cCm .eq (cFz (cO (cFz (cAtt "Signature" "marks" (cFz (cVar 10)))) (biD .list))) (cFz (cVar 7)))))))))))))))))
def m_law : Co Rv := fnC 1 16 b_law
end K05
/-! DtC: the way bodies are evaluated; names. -/
namespace K05
open PySem PySem.Spec PyProof.Rows L2 Md Nm Hs
theorem mapFz_nil : (([] : Sto).map fzSl) = [] := rfl
theorem wS0 (ρ : Sto) : wipeS ρ [] = ρ := rfl
theorem wS1 (ρ : Sto) (v : Nat) (vs : List Nat) : wipeS ρ (v :: vs) = (wipeS ρ vs).set v .un := rfl
theorem eb_nm (i : Nat) (d : D) (ρ : Sto) : bNm i d ρ = setSl ρ i (.sh d) := rfl
local macro_rules | `(tactic| simp_all! [$ls,*]) => `(tactic| simp -implicitDefEqProofs only [bind_ok', bind_er', selK_t, selK_f, e_fz, e_sh, e_O, optO_s, e_2, e_3, e_var, vS_sh, vS_ow, e_D, e_seq, seqK_nx, seqK_rt, seqK_ct, seqK_bk, e_if, okK_e, e_andT, e_orT, e_notT, e_tru, e_tst, boolD_s, e_and, andK_t, andK_f, e_or, orK_t, orK_f, tru_b, e_cm, e_chn, chK_t, chK_f, e_isN, e_idx, e_isi, e_nil, e_cons, e_tup, e_lst, e_ret, e_nx, e_ex, e_set, e_setSl, sS_un, sS_sh, sS_ow, setRv_sh, setRv_ow, oNx_s, toD_sh, toD_lst, toD_obj, muD_lst, muD_obj, e_par, parK_e, e_noP, e_smP, e_sl, e_not, e_A0, e_Av, e_call, List.getElem?_cons_zero, List.getElem?_cons_succ, List.set_cons_zero, List.set_cons_succ, Option.map_some, Option.map_none, Option.bind_some, Bool.not_true, Bool.not_false, e_att, e_met, e_eqO, boolR_e, notR_e, e_inOp, e_niOp, e_opT, e_put, e_atO, atoK_e, e_rai0, e_makV, e_borT, borK_e, fz_un, fz_sh, List.map_cons, List.map_nil, e_mov, movK_sh, movK_ow, e_asg, fldD_e, clsD_e, e_for, ix0, ix1, ix2, il0, il1, il2, ln_t, ln_l, tup_l, tup_t, list_l, list_t, it_l, it_t, gt_ii, ge_ii, lt_ii, le_ii, eq_ss, ne_ss, eq_ii, ne_ii, eb_nm, asInt, sl1, sl2, nmD_e, $ls,*])
theorem len_line {s : Str} (h : isName s = true) : s.length ≤ sizeLine ∧ 1 ≤ s.length ∧ s.length ≤ 8 := by
  by_cases h1 : 1 ≤ s.length
  · by_cases h2 : s.length ≤ 8
    · exact ⟨by rw [sizeLine_eq]; omega, h1, h2⟩
    · rw [isName_long h2] at h
      cases h
  · rw [isName_short h1] at h
    cases h
theorem in_ch (c : Nat) (z : Str) : cmp2 .inn (.str ⟨#[c]⟩) (.str z) = some (decide (c ∈ z.cps.toList)) := congrArg some (PySem.StrLaws.found_one z c)
theorem nin_ch (c : Nat) (z : Str) : cmp2 .nin (.str ⟨#[c]⟩) (.str z) = some (!decide (c ∈ z.cps.toList)) := congrArg (fun k => some (!k)) (PySem.StrLaws.found_one z c)
theorem shS {l : List Str} (h : ∀ w ∈ l, PyData.strOk w = true) : PyData.canLayAll0 (l.map .str) = true ∧ PyData.depthAll (l.map .str) = 0 := by
  induction l with
  | nil => exact ⟨rfl, rfl⟩
  | cons w ws ih =>
    obtain ⟨h1, h2⟩ := ih fun v hv => h v (List.mem_cons_of_mem _ hv)
    refine ⟨?_, ?_⟩
    · rw [List.map_cons, PyData.canLayAll0, h1, PyData.canLay0, h w List.mem_cons_self]
      rfl
    · rw [List.map_cons, PyData.depthAll, h2, PyData.depth]
      rfl
theorem inD_str (s : Str) : ∀ l : List Str, inD (.str s) (l.map .str) = decide (s ∈ l)
  | [] => rfl
  | w :: ws => by
    show (PyData.eqv (.str w) (.str s) || inD (.str s) (ws.map .str)) = _
    rw [eqv_ss, inD_str s ws, Bool.eq_iff_iff]
    simp only [Bool.or_eq_true, decide_eq_true_eq, List.mem_cons]
    exact ⟨fun z => z.imp Eq.symm id, fun z => z.imp Eq.symm id⟩
theorem inV_mem (h : Str) : ∀ ws : List Str, inV (.str h) (ws.map V.str) = decide (h ∈ ws)
  | [] => rfl
  | w :: ws => by
    have ih := inV_mem h ws
    show ((w == h) || inV (.str h) (ws.map V.str)) = _
    rw [ih, Bool.eq_iff_iff]
    simp only [Bool.or_eq_true, beq_iff_eq, decide_eq_true_eq, List.mem_cons]
    exact ⟨fun z => z.imp Eq.symm id, fun z => z.imp Eq.symm id⟩
theorem RES_e : d_RESERVED = .tuple (RES.map .str) := rfl
theorem in_tup {s : Str} {l : List Str} (hs : PyData.strOk s = true) (hl : ∀ w ∈ l, PyData.strOk w = true) : cmp2 .inn (.str s) (.tuple (l.map .str)) = some (decide (s ∈ l)) := by
  obtain ⟨h1, h2⟩ := shS hl
  have e1 : SeqAt.shaped (.str s) = true := by unfold SeqAt.shaped; rw [PyData.canLay0, hs]; exact decide_eq_true (by show 0 ≤ 64; omega)
  have e2 : SeqAt.shaped (.tuple (l.map .str)) = true := by unfold SeqAt.shaped; rw [PyData.canLay0, h1]; exact decide_eq_true (by rw [PyData.depth, h2]; omega)
  show (if (SeqAt.shaped (.str s) && SeqAt.shaped (.tuple (l.map .str))) = true then some (inD (.str s) (l.map .str)) else none) = _
  rw [e1, e2, inD_str]
  rfl
theorem name_parts {s : Str} (h : isName s = true) : (∃ c, s.cps[0]? = some c ∧ c ∈ lets.cps.toList) ∧ s ∉ RES ∧ ∀ c ∈ s.cps.toList, okc c = true := by
  unfold isName at h
  simp only [Bool.and_eq_true, Bool.not_eq_true'] at h
  obtain ⟨-, ⟨h1, h2⟩, h3⟩ := h
  refine ⟨?_, ?_, fun c hc => List.all_eq_true.mp h3 c hc⟩
  · unfold headOk at h1
    cases hz : s.cps[0]? with
    | none => rw [hz] at h1; cases h1
    | some c => rw [hz] at h1; exact ⟨c, rfl, of_decide_eq_true h1⟩
  · rw [inV_mem] at h2
    exact of_decide_eq_false h2
theorem idx_ch {s : Str} {c : Nat} (h : s.length ≤ sizeLine) (hc : s.cps[0]? = some c) : idxD (.str s) (.int 0) = some (.str ⟨#[c]⟩) := by
  show (if s.length ≤ sizeLine then (atI s.cps.toList 0).map (fun c => (PyData.str ⟨#[c]⟩ : D)) else none) = _
  rw [if_pos h]
  have : atI s.cps.toList (((0 : Nat) : Int)) = some c := atI_nat (by rw [Array.getElem?_toList]; exact hc)
  rw [show ((0 : Nat) : Int) = 0 from rfl] at this
  rw [this]
  rfl
theorem is_name_ok {s : Str} (h : isName s = true) : m_is_name [.sh (.str s)] = .ok (.sh (.bool true)) [.un] := by
  obtain ⟨l1, l2, l3⟩ := len_line h
  obtain ⟨⟨c, hc, hl⟩, hr, ha⟩ := name_parts h
  have k1 : isiD (some "str") isiOwn (.str s) = some true := rfl
  have k2 : biD .len (.str s) = some (.sh (.int s.length)) := if_pos l1
  have k3 : decide ((1 : Int) ≤ (s.length : Int)) = true := decide_eq_true (by omega)
  have k4 : decide ((s.length : Int) ≤ 8) = true := decide_eq_true (by omega)
  have k5 := idx_ch l1 hc
  have k6 : cmp2 .nin (.str ⟨#[c]⟩) d__LETTERS = some false := by
    rw [show d__LETTERS = .str lets from rfl, nin_ch, decide_eq_true hl]
    rfl
  have k7 : cmp2 .inn (.str s) d_RESERVED = some false := by
    rw [RES_e, in_tup (nm_ok h) (by decide +kernel), decide_eq_false hr]
  have k8 : cLc [1] (bNm 1) (cO (cFz (cVar 0)) itM) cYes (cFz (cSh (cOr (cFz (cCm .inn (cFz (cVar 1)) (cFz (cD d__LETTERS)))) (cFz (cCm .inn (cFz (cVar 1)) (cFz (cD d__DIGITS))))))) [.sh (.str s), .un] = .ok (.ow (.lst (s.cps.toList.map fun c => .bool (okc c)))) [.sh (.str s), .un] := by
    refine cLc_yes (fun c => .str ⟨#[c]⟩) _ (ρ1 := [.sh (.str s), .un]) ?_ rfl rfl (by rw [Array.length_toList]; exact l1) fun x hx => ⟨[.sh (.str s), .sh (.str ⟨#[x]⟩)], [.sh (.str s), .sh (.str ⟨#[x]⟩)], rfl, ?_, rfl, rfl⟩
    · simp_all! []
      rfl
    · simp_all! [d__LETTERS, d__DIGITS, in_ch]
      unfold okc
      have t1 : ("abcdefghijklmnopqrstuvwxyz" : Str) = lets := rfl
      have t2 : ("0123456789" : Str) = digs := rfl
      rw [t1, t2]
      cases hz : decide (x ∈ lets.cps.toList) with
      | true => simp_all! []; rfl
      | false => simp_all! [in_ch]; rw [Bool.false_or]
  have k9 := all_map okc s.cps.toList
  have k0 : s.cps.toList.all okc = true := List.all_eq_true.mpr ha
  have hb : b_is_name [.sh (.str s), .un] = .ok (.rt (.sh (.bool true))) [.sh (.str s), .un] := by
    unfold b_is_name
    simp_all! [k1, k2, k3, k4, d__MOST_CHARACTERS, k5, k6, k7, k8, k9, k0]
  unfold m_is_name
  exact fn_rt (n := 1) (N := 2) (as := [.sh (.str s)]) hb (by simp)
theorem r_is_name (a : Nam) (ρ : Sto) : runC 1 m_is_name [.inl (.str a.1)] ρ = .ok (.sh (.bool true)) ρ := run_ok (ds := [.str a.1]) rfl (is_name_ok a.2) rfl
end K05
/-! Dt1: marks. -/
namespace K05
open PySem PySem.Spec PyProof.Rows L2 Md Nm Hs
local macro_rules | `(tactic| simp_all! [$ls,*]) => `(tactic| simp -implicitDefEqProofs only [bind_ok', bind_er', selK_t, selK_f, e_fz, e_sh, e_O, optO_s, e_2, e_3, e_var, vS_sh, vS_ow, e_D, e_seq, seqK_nx, seqK_rt, seqK_ct, seqK_bk, e_if, okK_e, e_andT, e_orT, e_notT, e_tru, e_tst, boolD_s, e_and, andK_t, andK_f, e_or, orK_t, orK_f, tru_b, e_cm, e_chn, chK_t, chK_f, e_isN, e_idx, e_isi, e_nil, e_cons, e_tup, e_lst, e_ret, e_nx, e_ex, e_set, e_setSl, sS_un, sS_sh, sS_ow, setRv_sh, setRv_ow, oNx_s, toD_sh, toD_lst, toD_obj, muD_lst, muD_obj, e_par, parK_e, e_noP, e_smP, e_sl, e_not, e_A0, e_Av, e_call, List.getElem?_cons_zero, List.getElem?_cons_succ, List.set_cons_zero, List.set_cons_succ, Option.map_some, Option.map_none, Option.bind_some, Bool.not_true, Bool.not_false, e_att, e_met, e_eqO, boolR_e, notR_e, e_inOp, e_niOp, e_opT, e_put, e_atO, atoK_e, e_rai0, e_makV, e_borT, borK_e, fz_un, fz_sh, List.map_cons, List.map_nil, e_mov, movK_sh, movK_ow, e_asg, fldD_e, clsD_e, e_for, ix0, ix1, ix2, il0, il1, il2, ln_t, ln_l, tup_l, tup_t, list_l, list_t, it_l, it_t, gt_ii, ge_ii, lt_ii, le_ii, eq_ss, ne_ss, eq_ii, ne_ii, eb_nm, asInt, sl1, sl2, nmD_e, $ls,*])
theorem t_tu : decide (("takes" : Str) = "under") = false := by decide +kernel
theorem t_tw : decide (("takes" : Str) = "writes") = false := by decide +kernel
theorem t_tg : decide (("takes" : Str) = "gives") = false := by decide +kernel
theorem t_ts : decide (("takes" : Str) = "shares") = false := by decide +kernel
theorem t_ut : decide (("under" : Str) = "takes") = false := by decide +kernel
theorem t_uw : decide (("under" : Str) = "writes") = false := by decide +kernel
theorem t_ug : decide (("under" : Str) = "gives") = false := by decide +kernel
theorem t_us : decide (("under" : Str) = "shares") = false := by decide +kernel
theorem t_wt : decide (("writes" : Str) = "takes") = false := by decide +kernel
theorem t_wu : decide (("writes" : Str) = "under") = false := by decide +kernel
theorem t_wg : decide (("writes" : Str) = "gives") = false := by decide +kernel
theorem t_ws : decide (("writes" : Str) = "shares") = false := by decide +kernel
theorem t_gt : decide (("gives" : Str) = "takes") = false := by decide +kernel
theorem t_gu : decide (("gives" : Str) = "under") = false := by decide +kernel
theorem t_gw : decide (("gives" : Str) = "writes") = false := by decide +kernel
theorem t_gs : decide (("gives" : Str) = "shares") = false := by decide +kernel
theorem t_st : decide (("shares" : Str) = "takes") = false := by decide +kernel
theorem t_su : decide (("shares" : Str) = "under") = false := by decide +kernel
theorem t_sw : decide (("shares" : Str) = "writes") = false := by decide +kernel
theorem t_sg : decide (("shares" : Str) = "gives") = false := by decide +kernel

theorem dself (s : Str) : decide (s = s) = true := decide_eq_true rfl
theorem dselfi (s : Int) : decide (s = s) = true := decide_eq_true rfl
theorem len1 (x : D) : (([x] : List D).length : Int) = 1 := rfl
theorem len2 (x y : D) : (([x, y] : List D).length : Int) = 2 := rfl
theorem len3 (x y z : D) : (([x, y, z] : List D).length : Int) = 3 := rfl
local macro_rules | `(tactic| simp_all! [$ls,*]) => `(tactic| simp -implicitDefEqProofs only [bind_ok', bind_er', selK_t, selK_f, e_fz, e_sh, e_O, optO_s, e_2, e_3, e_var, vS_sh, vS_ow, e_D, e_seq, seqK_nx, seqK_rt, seqK_ct, seqK_bk, e_if, okK_e, e_andT, e_orT, e_notT, e_tru, e_tst, boolD_s, e_and, andK_t, andK_f, e_or, orK_t, orK_f, tru_b, e_cm, e_chn, chK_t, chK_f, e_isN, e_idx, e_isi, e_nil, e_cons, e_tup, e_lst, e_ret, e_nx, e_ex, e_set, e_setSl, sS_un, sS_sh, sS_ow, setRv_sh, setRv_ow, oNx_s, toD_sh, toD_lst, toD_obj, muD_lst, muD_obj, e_par, parK_e, e_noP, e_smP, e_sl, e_not, e_A0, e_Av, e_call, List.getElem?_cons_zero, List.getElem?_cons_succ, List.set_cons_zero, List.set_cons_succ, Option.map_some, Option.map_none, Option.bind_some, Bool.not_true, Bool.not_false, e_att, e_met, e_eqO, boolR_e, notR_e, e_inOp, e_niOp, e_opT, e_put, e_atO, atoK_e, e_rai0, e_makV, e_borT, borK_e, fz_un, fz_sh, List.map_cons, List.map_nil, e_mov, movK_sh, movK_ow, e_asg, fldD_e, clsD_e, e_for, ix0, ix1, ix2, il0, il1, il2, ln_t, ln_l, tup_l, tup_t, list_l, list_t, it_l, it_t, gt_ii, ge_ii, lt_ii, le_ii, eq_ss, ne_ss, eq_ii, ne_ii, eb_nm, asInt, sl1, sl2, nmD_e, dself, dselfi, decide_true, decide_false, len1, len2, len3, n_dec, t_tu, t_tw, t_tg, t_ts, t_ut, t_uw, t_ug, t_us, t_wt, t_wu, t_wg, t_ws, t_gt, t_gu, t_gw, t_gs, t_st, t_su, t_sw, t_sg, $ls,*])
def Mk.ok : Mk → Prop
  | .under a b => a ≠ b
  | _ => True
theorem is_integer_ok (i : Int) (ρ : Sto) : runC 1 m_is_integer [.inl (.int i)] ρ = .ok (.sh (.bool true)) ρ := by
  refine run_ok (ds := [.int i]) (ps := [.un]) rfl ?_ rfl
  have k1 : isiD (some "int") isiOwn (.int i) = some true := rfl
  have k2 : isiD (some "bool") isiOwn (.int i) = some false := rfl
  have hb : b_is_integer [.sh (.int i)] = .ok (.rt (.sh (.bool true))) [.sh (.int i)] := by
    unfold b_is_integer
    simp_all! [k1, k2]
  unfold m_is_integer
  exact fn_rt (n := 1) (N := 1) (as := [.sh (.int i)]) hb (by simp)
theorem two_names (v : D) (w : Str) (l : List Nam) (h : l.length ≤ 3) : cLc [3] (bNm 3) (cO (cFz (cVar 2)) itM) cYes (cFz (cCall 1 m_is_name (cAv (cFz (cVar 3)) cA0))) [.sh v, .sh (.str w), .sh (.tuple (l.map nmD)), .un] = .ok (.ow (.lst (l.map fun _ => .bool true))) [.sh v, .sh (.str w), .sh (.tuple (l.map nmD)), .un] := by
  refine cLc_yes nmD _ (ρ1 := [.sh v, .sh (.str w), .sh (.tuple (l.map nmD)), .un]) ?_ rfl rfl (by rw [sizeLine_eq]; omega) fun x hx => ⟨[.sh v, .sh (.str w), .sh (.tuple (l.map nmD)), .sh (nmD x)], [.sh v, .sh (.str w), .sh (.tuple (l.map nmD)), .sh (nmD x)], rfl, ?_, rfl, rfl⟩
  · simp_all! []
  · simp_all! [r_is_name]
theorem all_true {α : Type} (l : List α) : biD .all (.list (l.map fun _ => .bool true)) = some (.sh (.bool true)) := by
  rw [all_map (fun _ => true) l]
  simp
theorem line_le {n : Nat} (h : n ≤ 1000) : n ≤ sizeLine := by rw [sizeLine_eq]; omega
theorem is_mark_body (m : Mk) (h : Mk.ok m) : ∃ ρ', b_is_mark [.sh m.d, .un, .un, .un] = .ok (.rt (.sh (.bool true))) ρ' ∧ 1 ≤ ρ'.length ∧ cutP 1 ρ' = [.un] := by
  have k1 : ∀ xs, isiD (some "tuple") isiOwn (.tuple xs) = some true := fun _ => rfl
  have k2 : cmp2 .nin (.int 2) (.tuple [.int 2, .int 3]) = some false := by decide +kernel
  have k3 : cmp2 .nin (.int 3) (.tuple [.int 2, .int 3]) = some false := by decide +kernel
  have q2 : ∀ a b : D, (if ([a, b] : List D).length ≤ sizeLine then some (Rv.sh (.tuple [a, b])) else none) = some (Rv.sh (.tuple [a, b])) := fun a b => if_pos (line_le (by show 2 ≤ 1000; omega))
  have i1 : cmp2 .inn (.str "takes") (.tuple [.str "takes", .str "gives"]) = some true := by decide +kernel
  have i2 : cmp2 .inn (.str "gives") (.tuple [.str "takes", .str "gives"]) = some true := by decide +kernel
  have i3 : cmp2 .inn (.str "under") (.tuple [.str "takes", .str "gives"]) = some false := by decide +kernel
  have i4 : cmp2 .inn (.str "writes") (.tuple [.str "takes", .str "gives"]) = some false := by decide +kernel
  have one : ∀ (v : D) (w : Str) (a : Nam), cLc [3] (bNm 3) (cO (cFz (cVar 2)) itM) cYes (cFz (cCall 1 m_is_name (cAv (cFz (cVar 3)) cA0))) [.sh v, .sh (.str w), .sh (.tuple [.str a.1]), .un] = .ok (.ow (.lst [.bool true])) [.sh v, .sh (.str w), .sh (.tuple [.str a.1]), .un] := fun v w a => two_names v w [a] (by show 1 ≤ 3; omega)
  have two : ∀ (v : D) (w : Str) (a b : Nam), cLc [3] (bNm 3) (cO (cFz (cVar 2)) itM) cYes (cFz (cCall 1 m_is_name (cAv (cFz (cVar 3)) cA0))) [.sh v, .sh (.str w), .sh (.tuple [.str a.1, .str b.1]), .un] = .ok (.ow (.lst [.bool true, .bool true])) [.sh v, .sh (.str w), .sh (.tuple [.str a.1, .str b.1]), .un] := fun v w a b => two_names v w [a, b] (by show 2 ≤ 3; omega)
  have a1 : biD .all (.list [.bool true]) = some (.sh (.bool true)) := rfl
  have a2 : biD .all (.list [.bool true, .bool true]) = some (.sh (.bool true)) := rfl
  unfold b_is_mark
  cases m with
  | takes l =>
    refine ⟨[.sh (Mk.takes l).d, .sh (.str "takes"), .sh (.tuple [.str l.1]), .un], ?_, by simp, rfl⟩
    simp_all! [Mk.d, k1, k2, k3, q2, one, a1, i1]
  | under a b =>
    have hd : decide (a = b) = false := decide_eq_false h
    refine ⟨[.sh (Mk.under a b).d, .sh (.str "under"), .sh (.tuple [.str a.1, .str b.1]), .un], ?_, by simp, rfl⟩
    simp_all! [Mk.d, k1, k2, k3, q2, two, a2, i3, hd]
  | writes a b =>
    refine ⟨[.sh (Mk.writes a b).d, .sh (.str "writes"), .sh (.tuple [.str a.1, .str b.1]), .un], ?_, by simp, rfl⟩
    simp_all! [Mk.d, k1, k2, k3, q2, two, a2, i4]
  | gives l =>
    refine ⟨[.sh (Mk.gives l).d, .sh (.str "gives"), .sh (.tuple [.str l.1]), .un], ?_, by simp, rfl⟩
    simp_all! [Mk.d, k1, k2, k3, q2, one, a1, i2]
  | shares n =>
    refine ⟨[.sh (Mk.shares n).d, .sh (.str "shares"), .sh (.tuple [.int n]), .un], ?_, by simp, rfl⟩
    simp_all! [Mk.d, k1, k2, k3, q2, is_integer_ok]
theorem r_is_mark (m : Mk) (h : Mk.ok m) (ρ : Sto) : runC 1 m_is_mark [.inl m.d] ρ = .ok (.sh (.bool true)) ρ := by
  obtain ⟨ρ', e, l, c⟩ := is_mark_body m h
  refine run_ok (ds := [m.d]) (ps := [.un]) rfl ?_ rfl
  unfold m_is_mark
  rw [← c]
  exact fn_rt (n := 1) (N := 4) (as := [.sh m.d]) e l
end K05
/-! Dt2: halls as data; all marks of one. -/
namespace K05
open PySem PySem.Spec PyProof.Rows L2 Md Nm Hs
local macro_rules | `(tactic| simp_all! [$ls,*]) => `(tactic| simp -implicitDefEqProofs only [bind_ok', bind_er', selK_t, selK_f, e_fz, e_sh, e_O, optO_s, e_2, e_3, e_var, vS_sh, vS_ow, e_D, e_seq, seqK_nx, seqK_rt, seqK_ct, seqK_bk, e_if, okK_e, e_andT, e_orT, e_notT, e_tru, e_tst, boolD_s, e_and, andK_t, andK_f, e_or, orK_t, orK_f, tru_b, e_cm, e_chn, chK_t, chK_f, e_isN, e_idx, e_isi, e_nil, e_cons, e_tup, e_lst, e_ret, e_nx, e_ex, e_set, e_setSl, sS_un, sS_sh, sS_ow, setRv_sh, setRv_ow, oNx_s, toD_sh, toD_lst, toD_obj, muD_lst, muD_obj, e_par, parK_e, e_noP, e_smP, e_sl, e_not, e_A0, e_Av, e_call, List.getElem?_cons_zero, List.getElem?_cons_succ, List.set_cons_zero, List.set_cons_succ, Option.map_some, Option.map_none, Option.bind_some, Bool.not_true, Bool.not_false, e_att, e_met, e_eqO, boolR_e, notR_e, e_inOp, e_niOp, e_opT, e_put, e_atO, atoK_e, e_rai0, e_makV, e_borT, borK_e, fz_un, fz_sh, List.map_cons, List.map_nil, e_mov, movK_sh, movK_ow, e_asg, fldD_e, clsD_e, e_for, ix0, ix1, ix2, il0, il1, il2, ln_t, ln_l, tup_l, tup_t, list_l, list_t, it_l, it_t, gt_ii, ge_ii, lt_ii, le_ii, eq_ss, ne_ss, eq_ii, ne_ii, eb_nm, asInt, sl1, sl2, nmD_e, dself, dselfi, decide_true, decide_false, len1, len2, len3, n_dec, t_tu, t_tw, t_tg, t_ts, t_ut, t_uw, t_ug, t_us, t_wt, t_wu, t_wg, t_ws, t_gt, t_gu, t_gw, t_gs, t_st, t_su, t_sw, t_sg, $ls,*])
structure Pt where
  ls : List Nam
  rs : List Hs.Row
def Pt.ks (p : Pt) : List Nam := p.rs.map Hs.Row.k
def Pt.sorts (p : Pt) : List (Nam × Nam) := p.rs.flatMap fun r => r.fs.map fun f => (r.k, f)
def soD (q : Nam × Nam) : D := .tuple [.str q.1.1, .str q.2.1]
/-- sizes -/
structure Pt.Sz (p : Pt) : Prop where
  ls : p.ls.length ≤ 4
  rs : p.rs.length ≤ 3
  fs : ∀ r ∈ p.rs, r.fs.length ≤ 2
def hallF (p : Pt) : List (D × D) := [(.str "locks", .tuple (p.ls.map nmD)), (.str "descriptions", .tuple (p.rs.map Hs.Row.d)), (.str "kinds", .tuple (p.ks.map nmD)), (.str "sorts", .tuple (p.sorts.map soD))]
def hallD (p : Pt) : D := .dict ((.none, .str "Hall") :: hallF p)
theorem h_loc (p : Pt) : fldF "locks" (hallF p) = some (.tuple (p.ls.map nmD)) := fld_eq _ _ _
theorem h_des (p : Pt) : fldF "descriptions" (hallF p) = some (.tuple (p.rs.map Hs.Row.d)) := by
  unfold hallF
  rw [fld_ne _ _ (by decide +kernel), fld_eq]
theorem h_kin (p : Pt) : fldF "kinds" (hallF p) = some (.tuple (p.ks.map nmD)) := by
  unfold hallF
  rw [fld_ne _ _ (by decide +kernel), fld_ne _ _ (by decide +kernel), fld_eq]
theorem h_sor (p : Pt) : fldF "sorts" (hallF p) = some (.tuple (p.sorts.map soD)) := by
  unfold hallF
  rw [fld_ne _ _ (by decide +kernel), fld_ne _ _ (by decide +kernel), fld_ne _ _ (by decide +kernel), fld_eq]
theorem h_not {p : Pt} {m : Str} (h1 : ("locks" : Str) ≠ m) (h2 : ("descriptions" : Str) ≠ m) (h3 : ("kinds" : Str) ≠ m) (h4 : ("sorts" : Str) ≠ m) : fldF m (hallF p) = none := by
  unfold hallF
  rw [fld_ne _ _ h1, fld_ne _ _ h2, fld_ne _ _ h3, fld_ne _ _ h4, fld_no]
def underM (p : Pt) : List Mk := p.ls.flatMap fun a => (p.ls.filter fun b => !decide (a = b)).map fun b => Mk.under a b
def allM (p : Pt) (n : Nat) : List Mk := p.ls.map Mk.takes ++ underM p ++ (p.sorts.map fun q => Mk.writes q.1 q.2) ++ p.ls.map Mk.gives ++ (List.range n).map Mk.shares
theorem len_flat {α β : Type} {k n : Nat} (f : α → List β) : ∀ xs : List α, xs.length ≤ n → (∀ x ∈ xs, (f x).length ≤ k) → (xs.flatMap f).length ≤ n * k
  | [], _, _ => Nat.zero_le _
  | x :: xs, h, hk => by
    cases n with
    | zero => cases h
    | succ n =>
      have h1 := len_flat (n := n) f xs (Nat.le_of_succ_le_succ h) fun y m => hk y (List.mem_cons_of_mem _ m)
      have h2 := hk x List.mem_cons_self
      rw [List.flatMap_cons, List.length_append, Nat.succ_mul]
      omega
theorem Pt.Sz.so {p : Pt} (h : p.Sz) : p.sorts.length ≤ 6 := len_flat (k := 2) (n := 3) _ p.rs h.rs fun r m => by rw [List.length_map]; exact h.fs r m
theorem Pt.Sz.un {p : Pt} (h : p.Sz) : (underM p).length ≤ 16 := len_flat (k := 4) (n := 4) _ p.ls h.ls fun r m => by
  rw [List.length_map]
  exact Nat.le_trans (List.length_filter_le _ _) h.ls
theorem Pt.Sz.al {p : Pt} (h : p.Sz) {n : Nat} (hn : n ≤ 3) : (allM p n).length ≤ 33 := by
  unfold allM
  have h1 := h.so
  have h2 := h.un
  have h3 := h.ls
  simp only [List.length_append, List.length_map, List.length_range]
  omega
theorem add_l (a b : List D) (h : a.length + b.length ≤ 1000) : op2 .add (.list a) (.list b) = some (.ow (.lst (a ++ b))) := adl a b (line_le h)
theorem rngM_e (m : Int) : rngM (.int m) = if -(2 ^ 62) ≤ m ∧ m < 2 ^ 62 then some (rngD 0 m.toNat) else none := rfl
theorem rng_n (n : Nat) (h : n ≤ 3) : rngM (.int (n : Int)) = some ((List.range n).map fun i => .int ((i : Nat) : Int)) := by
  have hl : -(2 ^ 62) ≤ (n : Int) ∧ (n : Int) < 2 ^ 62 := by omega
  rw [rngM_e, if_pos hl]
  unfold rngD
  rw [Int.toNat_natCast]
  congr 1
  refine List.map_congr_left fun i _ => ?_
  rw [Int.zero_add]
theorem tu2 (a b : D) : (if ([a, b] : List D).length ≤ sizeLine then some (Rv.sh (.tuple [a, b])) else none) = some (Rv.sh (.tuple [a, b])) := if_pos (line_le (by show 2 ≤ 1000; omega))
theorem tu3 (a b c : D) : (if ([a, b, c] : List D).length ≤ sizeLine then some (Rv.sh (.tuple [a, b, c])) else none) = some (Rv.sh (.tuple [a, b, c])) := if_pos (line_le (by show 3 ≤ 1000; omega))
section
variable {p : Pt} {pl : List D}
/-- what all_marks begins with -/
def am (h pl : D) (v : Sl) : Sto := [.sh h, .sh pl, v, .un, .un, .un, .un, .un]
theorem am_c1 (hz : p.Sz) (hn : pl.length ≤ 3) (v : Sl) : cLc [3] (bNm 3) (cO (cFz (cAtt "Hall" "locks" (cFz (cVar 0)))) itM) cYes (cFz (cTup (cCons (cFz (cD (.str "takes"))) (cCons (cFz (cVar 3)) cNil)))) (am (hallD p) (.tuple pl) v) = .ok (.ow (.lst (p.ls.map fun a => (Mk.takes a).d))) (am (hallD p) (.tuple pl) v) := by
  have hs := hz.so
  have hu := hz.un
  have hl := hz.ls
  refine cLc_yes nmD _ (ρ1 := am (hallD p) (.tuple pl) v) ?_ rfl rfl (line_le (by omega)) fun x hx => ⟨[.sh (hallD p), .sh (.tuple pl), v, .sh (nmD x), .un, .un, .un, .un], [.sh (hallD p), .sh (.tuple pl), v, .sh (nmD x), .un, .un, .un, .un], rfl, ?_, rfl, rfl⟩
  · unfold am; simp_all! [hallD, h_loc]
  · simp_all! [tu2, Mk.d]
theorem am_c2 (hz : p.Sz) (hn : pl.length ≤ 3) (v : Sl) : cLc2 [4, 3] [3] (bNm 4) (cO (cFz (cAtt "Hall" "locks" (cFz (cVar 0)))) itM) cYes (bNm 3) (cO (cFz (cAtt "Hall" "locks" (cFz (cVar 0)))) itM) (cTst (cCm .ne (cFz (cVar 4)) (cFz (cVar 3)))) (cFz (cTup (cCons (cFz (cD (.str "under"))) (cCons (cFz (cVar 4)) (cCons (cFz (cVar 3)) cNil))))) (am (hallD p) (.tuple pl) v) = .ok (.ow (.lst ((underM p).map Mk.d))) (am (hallD p) (.tuple pl) v) := by
  have hs := hz.so
  have hu := hz.un
  have hl := hz.ls
  have e : (underM p).map Mk.d = p.ls.flatMap fun a => (p.ls.filter fun b => !decide (a = b)).map fun b => (Mk.under a b).d := by
    unfold underM
    rw [List.map_flatMap]
    simp only [List.map_map, Function.comp_def]
  rw [e]
  refine cLc2_map nmD (fun _ => p.ls) nmD (fun a b => !decide (a = b)) _ (ρ1 := am (hallD p) (.tuple pl) v) ?_ rfl rfl (by decide) (line_le (Nat.le_trans (len_flat (n := 4) (k := 4) _ p.ls hl fun _ _ => hl) (by omega))) fun x hx => ⟨[.sh (hallD p), .sh (.tuple pl), v, .un, .sh (nmD x), .un, .un, .un], [.sh (hallD p), .sh (.tuple pl), v, .un, .sh (nmD x), .un, .un, .un], [.sh (hallD p), .sh (.tuple pl), v, .un, .sh (nmD x), .un, .un, .un], rfl, ?_, rfl, rfl, fun y hy => ⟨[.sh (hallD p), .sh (.tuple pl), v, .sh (nmD y), .sh (nmD x), .un, .un, .un], [.sh (hallD p), .sh (.tuple pl), v, .sh (nmD y), .sh (nmD x), .un, .un, .un], rfl, ?_, rfl, fun _ => ⟨[.sh (hallD p), .sh (.tuple pl), v, .sh (nmD y), .sh (nmD x), .un, .un, .un], ?_, rfl⟩⟩⟩
  · unfold am; simp_all! [hallD, h_loc]
  · simp_all! [hallD, h_loc]
  · simp_all! []
  · simp_all! [tu3, Mk.d]
theorem am_c3 (hz : p.Sz) (hn : pl.length ≤ 3) (v : Sl) : cLc [5, 6] (bTup 2 (bCons (bNm 5) (bCons (bNm 6) bNil))) (cO (cFz (cAtt "Hall" "sorts" (cFz (cVar 0)))) itM) cYes (cFz (cTup (cCons (cFz (cD (.str "writes"))) (cCons (cFz (cVar 5)) (cCons (cFz (cVar 6)) cNil))))) (am (hallD p) (.tuple pl) v) = .ok (.ow (.lst (p.sorts.map fun q => (Mk.writes q.1 q.2).d))) (am (hallD p) (.tuple pl) v) := by
  have hs := hz.so
  have hu := hz.un
  have hl := hz.ls
  refine cLc_yes soD _ (ρ1 := am (hallD p) (.tuple pl) v) ?_ rfl rfl (line_le (by omega)) fun x hx => ⟨[.sh (hallD p), .sh (.tuple pl), v, .un, .un, .sh (.str x.1.1), .sh (.str x.2.1), .un], [.sh (hallD p), .sh (.tuple pl), v, .un, .un, .sh (.str x.1.1), .sh (.str x.2.1), .un], rfl, ?_, rfl, rfl⟩
  · unfold am; simp_all! [hallD, h_sor]
  · simp_all! [tu3, Mk.d]
theorem am_c4 (hz : p.Sz) (hn : pl.length ≤ 3) (v : Sl) : cLc [3] (bNm 3) (cO (cFz (cAtt "Hall" "locks" (cFz (cVar 0)))) itM) cYes (cFz (cTup (cCons (cFz (cD (.str "gives"))) (cCons (cFz (cVar 3)) cNil)))) (am (hallD p) (.tuple pl) v) = .ok (.ow (.lst (p.ls.map fun a => (Mk.gives a).d))) (am (hallD p) (.tuple pl) v) := by
  have hs := hz.so
  have hu := hz.un
  have hl := hz.ls
  refine cLc_yes nmD _ (ρ1 := am (hallD p) (.tuple pl) v) ?_ rfl rfl (line_le (by omega)) fun x hx => ⟨[.sh (hallD p), .sh (.tuple pl), v, .sh (nmD x), .un, .un, .un, .un], [.sh (hallD p), .sh (.tuple pl), v, .sh (nmD x), .un, .un, .un, .un], rfl, ?_, rfl, rfl⟩
  · unfold am; simp_all! [hallD, h_loc]
  · simp_all! [tu2, Mk.d]
theorem am_c5 (hz : p.Sz) (hn : pl.length ≤ 3) (v : Sl) : cLc [7] (bNm 7) (cO (cFz (cO (cFz (cVar 1)) (biD .len))) rngM) cYes (cFz (cTup (cCons (cFz (cD (.str "shares"))) (cCons (cFz (cVar 7)) cNil)))) (am (hallD p) (.tuple pl) v) = .ok (.ow (.lst ((List.range pl.length).map fun n => (Mk.shares n).d))) (am (hallD p) (.tuple pl) v) := by
  have hs := hz.so
  have hu := hz.un
  have hl := hz.ls
  refine cLc_yes (fun i : Nat => .int (i : Int)) _ (ρ1 := am (hallD p) (.tuple pl) v) ?_ rfl rfl (by rw [List.length_range]; exact line_le (by omega)) fun x hx => ⟨[.sh (hallD p), .sh (.tuple pl), v, .un, .un, .un, .un, .sh (.int x)], [.sh (hallD p), .sh (.tuple pl), v, .un, .un, .un, .un, .sh (.int x)], rfl, ?_, rfl, rfl⟩
  · unfold am; simp_all! [rng_n _ hn]
  · simp_all! [tu2, Mk.d]

theorem all_marks_ok (hz : p.Sz) (hn : pl.length ≤ 3) : m_all_marks [.sh (hallD p), .sh (.tuple pl)] = .ok (.ow (.lst ((allM p pl.length).map Mk.d))) [.un, .un] := by
  have hs := hz.so
  have hu := hz.un
  have hl := hz.ls
  have c1 := fun v => am_c1 (p := p) (pl := pl) hz hn v
  have c2 := fun v => am_c2 (p := p) (pl := pl) hz hn v
  have c3 := fun v => am_c3 (p := p) (pl := pl) hz hn v
  have c4 := fun v => am_c4 (p := p) (pl := pl) hz hn v
  have c5 := fun v => am_c5 (p := p) (pl := pl) hz hn v
  have hlist : (allM p pl.length).map Mk.d = (((p.ls.map fun a => (Mk.takes a).d) ++ (underM p).map Mk.d) ++ (p.sorts.map fun q => (Mk.writes q.1 q.2).d)) ++ (p.ls.map fun a => (Mk.gives a).d) ++ ((List.range pl.length).map fun n => (Mk.shares n).d) := by
    unfold allM
    simp only [List.map_append, List.map_map, Function.comp_def]
  rw [hlist]
  have a1 := add_l (p.ls.map fun a => (Mk.takes a).d) ((underM p).map Mk.d) (by simp only [List.length_append, List.length_map]; omega)
  have a2 := add_l ((p.ls.map fun a => (Mk.takes a).d) ++ (underM p).map Mk.d) (p.sorts.map fun q => (Mk.writes q.1 q.2).d) (by simp only [List.length_append, List.length_map]; omega)
  have a3 := add_l (((p.ls.map fun a => (Mk.takes a).d) ++ (underM p).map Mk.d) ++ (p.sorts.map fun q => (Mk.writes q.1 q.2).d)) (p.ls.map fun a => (Mk.gives a).d) (by simp only [List.length_append, List.length_map]; omega)
  have a4 := add_l ((((p.ls.map fun a => (Mk.takes a).d) ++ (underM p).map Mk.d) ++ (p.sorts.map fun q => (Mk.writes q.1 q.2).d)) ++ (p.ls.map fun a => (Mk.gives a).d)) ((List.range pl.length).map fun n => (Mk.shares n).d) (by simp only [List.length_append, List.length_map, List.length_range]; omega)
  unfold am at c1 c2 c3 c4 c5
  generalize (p.ls.map fun a => (Mk.takes a).d) = L1 at c1 a1 a2 a3 a4 ⊢
  generalize (underM p).map Mk.d = L2 at c2 a1 a2 a3 a4 ⊢
  generalize (p.sorts.map fun q => (Mk.writes q.1 q.2).d) = L3 at c3 a2 a3 a4 ⊢
  generalize (p.ls.map fun a => (Mk.gives a).d) = L4 at c4 a3 a4 ⊢
  generalize ((List.range pl.length).map fun n => (Mk.shares n).d) = L5 at c5 a4 ⊢
  have hb : ∃ v, b_all_marks [.sh (hallD p), .sh (.tuple pl), .un, .un, .un, .un, .un, .un] = .ok (.rt (.ow (.lst (L1 ++ L2 ++ L3 ++ L4 ++ L5)))) (am (hallD p) (.tuple pl) v) := by
    refine ⟨.sh (.list (L1 ++ L2 ++ L3 ++ L4)), ?_⟩
    unfold b_all_marks am
    simp_all! [c1, c2, a1, c3, a2, c4, a3, c5, a4]
  obtain ⟨v, hb⟩ := hb
  unfold m_all_marks
  exact fn_rt (n := 2) (N := 8) (as := [.sh (hallD p), .sh (.tuple pl)]) hb (by unfold am; simp)
theorem r_all_marks (hz : p.Sz) (hn : pl.length ≤ 3) (ρ : Sto) : runC 2 m_all_marks [.inl (hallD p), .inl (.tuple pl)] ρ = .ok (.ow (.lst ((allM p pl.length).map Mk.d))) ρ := run_ok (ds := [hallD p, .tuple pl]) rfl (all_marks_ok hz hn) rfl
end
end K05
/-! Dt3: what a mark needs. -/
namespace K05
open PySem PySem.Spec PyProof.Rows L2 Md Nm Hs
local macro_rules | `(tactic| simp_all! [$ls,*]) => `(tactic| simp -implicitDefEqProofs only [bind_ok', bind_er', selK_t, selK_f, e_fz, e_sh, e_O, optO_s, e_2, e_3, e_var, vS_sh, vS_ow, e_D, e_seq, seqK_nx, seqK_rt, seqK_ct, seqK_bk, e_if, okK_e, e_andT, e_orT, e_notT, e_tru, e_tst, boolD_s, e_and, andK_t, andK_f, e_or, orK_t, orK_f, tru_b, e_cm, e_chn, chK_t, chK_f, e_isN, e_idx, e_isi, e_nil, e_cons, e_tup, e_lst, e_ret, e_nx, e_ex, e_set, e_setSl, sS_un, sS_sh, sS_ow, setRv_sh, setRv_ow, oNx_s, toD_sh, toD_lst, toD_obj, muD_lst, muD_obj, e_par, parK_e, e_noP, e_smP, e_sl, e_not, e_A0, e_Av, e_call, List.getElem?_cons_zero, List.getElem?_cons_succ, List.set_cons_zero, List.set_cons_succ, Option.map_some, Option.map_none, Option.bind_some, Bool.not_true, Bool.not_false, e_att, e_met, e_eqO, boolR_e, notR_e, e_inOp, e_niOp, e_opT, e_put, e_atO, atoK_e, e_rai0, e_makV, e_borT, borK_e, fz_un, fz_sh, List.map_cons, List.map_nil, e_mov, movK_sh, movK_ow, e_asg, fldD_e, clsD_e, e_for, ix0, ix1, ix2, il0, il1, il2, ln_t, ln_l, tup_l, tup_t, list_l, list_t, it_l, it_t, gt_ii, ge_ii, lt_ii, le_ii, eq_ss, ne_ss, eq_ii, ne_ii, eb_nm, asInt, sl1, sl2, nmD_e, dself, dselfi, decide_true, decide_false, len1, len2, len3, n_dec, t_tu, t_tw, t_tg, t_ts, t_ut, t_uw, t_ug, t_us, t_wt, t_wu, t_wg, t_ws, t_gt, t_gu, t_gw, t_gs, t_st, t_su, t_sw, t_sg, $ls,*])
theorem hd_loc (p : Pt) : fldD "Hall" "locks" (hallD p) = some (.tuple (p.ls.map nmD)) := (fldD_e _ _ _).trans (h_loc p)
theorem hd_des (p : Pt) : fldD "Hall" "descriptions" (hallD p) = some (.tuple (p.rs.map Hs.Row.d)) := (fldD_e _ _ _).trans (h_des p)
theorem hd_kin (p : Pt) : fldD "Hall" "kinds" (hallD p) = some (.tuple (p.ks.map nmD)) := (fldD_e _ _ _).trans (h_kin p)
theorem hm_guard (p : Pt) (n : Nat) (φ : Co Rv) (r : Co Ar) (ρ : Sto) : metK "Hall" "guard_of" n φ r (hallD p) ρ = (r ρ).bind fun xs ρ2 => runC n φ (.inl (hallD p) :: xs) ρ2 := metK_e (h_not (by decide +kernel) (by decide +kernel) (by decide +kernel) (by decide +kernel)) n φ r ρ
theorem hm_desc (p : Pt) (n : Nat) (φ : Co Rv) (r : Co Ar) (ρ : Sto) : metK "Hall" "_description_of" n φ r (hallD p) ρ = (r ρ).bind fun xs ρ2 => runC n φ (.inl (hallD p) :: xs) ρ2 := metK_e (h_not (by decide +kernel) (by decide +kernel) (by decide +kernel) (by decide +kernel)) n φ r ρ
def findR (k : Nam) : List Hs.Row → Option Hs.Row
  | [] => none
  | r :: rs => if r.k = k then some r else findR k rs
theorem findR_in {k : Nam} : ∀ {rs : List Hs.Row}, k ∈ rs.map Hs.Row.k → ∃ r, findR k rs = some r ∧ r ∈ rs ∧ r.k = k
  | [], h => by cases h
  | r :: rs, h => by
    by_cases e : r.k = k
    · exact ⟨r, if_pos e, List.mem_cons_self, e⟩
    · have h2 : k ∈ rs.map Hs.Row.k := by
        rcases List.mem_cons.mp h with z | z
        · exact absurd z.symm e
        · exact z
      obtain ⟨q, e1, e2, e3⟩ := findR_in h2
      exact ⟨q, (if_neg e).trans e1, List.mem_cons_of_mem _ e2, e3⟩
def Pt.guard (p : Pt) (k : Nam) : Option Nam := (findR k p.rs).bind Hs.Row.g
theorem row_e (r : Hs.Row) : r.d = .tuple (.str r.k.1 :: opD r.g :: r.fs.map nmD) := rfl
theorem desc_loop (h : D) {k : Nam} {r : Hs.Row} : ∀ (rs : List Hs.Row) (s : Sl), (s = .un ∨ ∃ d, s = .sh d) → findR k rs = some r →
    forL (bNm 2) (cIf (cTst (cCm .eq (cFz (cIdx (cFz (cVar 2)) (cFz (cD (.int 0))))) (cFz (cVar 1)))) (cRet (cVar 2)) cNx) (rs.map Hs.Row.d) [.sh h, .sh (.str k.1), s] = .ok (.rt (.sh r.d)) [.sh h, .sh (.str k.1), .sh r.d]
  | [], s, _, e => by cases e
  | q :: rs, s, hs, e => by
    have e1 : bNm 2 q.d [.sh h, .sh (.str k.1), s] = some [.sh h, .sh (.str k.1), .sh q.d] := by rcases hs with rfl | ⟨d, rfl⟩ <;> rfl
    rw [List.map_cons]
    by_cases hk : q.k = k
    · have e2 : (cIf (cTst (cCm .eq (cFz (cIdx (cFz (cVar 2)) (cFz (cD (.int 0))))) (cFz (cVar 1)))) (cRet (cVar 2)) cNx) [.sh h, .sh (.str k.1), .sh q.d] = .ok (.rt (.sh q.d)) [.sh h, .sh (.str k.1), .sh q.d] := by
        have hd : decide (q.k = k) = true := decide_eq_true hk
        simp_all! [row_e, hd]
      rw [forL_cons e1 e2]
      have : q = r := Option.some.inj ((if_pos hk).symm.trans e)
      subst this
      rfl
    · have e2 : (cIf (cTst (cCm .eq (cFz (cIdx (cFz (cVar 2)) (cFz (cD (.int 0))))) (cFz (cVar 1)))) (cRet (cVar 2)) cNx) [.sh h, .sh (.str k.1), .sh q.d] = .ok .nx [.sh h, .sh (.str k.1), .sh q.d] := by
        have hd : decide (q.k = k) = false := decide_eq_false hk
        simp_all! [row_e, hd]
      rw [forL_cons e1 e2]
      exact desc_loop h rs (.sh q.d) (.inr ⟨_, rfl⟩) ((if_neg hk).symm.trans e)
section
variable {p : Pt} {k : Nam}
theorem r_desc {r : Hs.Row} (h : findR k p.rs = some r) (ρ : Sto) : runC 2 m_Hall_description_of [.inl (hallD p), .inl (.str k.1)] ρ = .ok (.sh r.d) ρ := by
  refine run_ok (ds := [hallD p, .str k.1]) (ps := [.un, .un]) rfl ?_ rfl
  have e := desc_loop (hallD p) p.rs .un (.inl rfl) h
  have hb : b_Hall_description_of [.sh (hallD p), .sh (.str k.1), .un] = .ok (.rt (.sh r.d)) [.sh (hallD p), .sh (.str k.1), .sh r.d] := by
    unfold b_Hall_description_of
    simp_all! [hd_des, e]
  unfold m_Hall_description_of
  exact fn_rt (n := 2) (N := 3) (as := [.sh (hallD p), .sh (.str k.1)]) hb (by simp)
theorem r_guard (h : k ∈ p.ks) (ρ : Sto) : runC 2 m_Hall_guard_of [.inl (hallD p), .inl (.str k.1)] ρ = .ok (.sh (opD (p.guard k))) ρ := by
  obtain ⟨r, e1, e2, e3⟩ := findR_in h
  refine run_ok (ds := [hallD p, .str k.1]) (ps := [.un, .un]) rfl ?_ rfl
  have hg : p.guard k = r.g := by unfold Pt.guard; rw [e1]; rfl
  have hb : b_Hall_guard_of [.sh (hallD p), .sh (.str k.1)] = .ok (.rt (.sh (opD (p.guard k)))) [.sh (hallD p), .sh (.str k.1)] := by
    unfold b_Hall_guard_of
    simp_all! [hm_desc, r_desc e1, row_e, hg]
  unfold m_Hall_guard_of
  exact fn_rt (n := 2) (N := 2) (as := [.sh (hallD p), .sh (.str k.1)]) hb (by simp)
end
/-- what a mark needs -/
def needs (p : Pt) (pl : List Nam) : Mk → List Mk
  | .under a b => [.takes a, .takes b]
  | .gives a => [.takes a]
  | .writes k _ => if k ∈ pl then [] else (p.guard k).toList.map .takes
  | _ => []
def Mk.kn (p : Pt) : Mk → Prop
  | .writes k _ => k ∈ p.ks
  | _ => True
theorem itT {α : Type} (a b : α) : (if (true : Bool) = true then a else b) = a := rfl
theorem isN_s (s : Str) : isNone (.str s) = false := rfl
theorem isN_n : isNone .none = true := rfl
theorem ls1 (a : D) : (if ([a] : List D).length ≤ sizeLine then some (Rv.ow (.lst [a])) else none) = some (Rv.ow (.lst [a])) := if_pos (line_le (by show 1 ≤ 1000; omega))
theorem ls2 (a b : D) : (if ([a, b] : List D).length ≤ sizeLine then some (Rv.ow (.lst [a, b])) else none) = some (Rv.ow (.lst [a, b])) := if_pos (line_le (by show 2 ≤ 1000; omega))
theorem ls0 : (if ([] : List D).length ≤ sizeLine then some (Rv.ow (.lst [])) else none) = some (Rv.ow (.lst [])) := if_pos (line_le (by show 0 ≤ 1000; omega))
theorem nin_nm (k : Nam) (l : List Nam) : cmp2 .nin (.str k.1) (.tuple (l.map nmD)) = some (!decide (k ∈ l)) := (cNm.niT k l).trans (congrArg (fun b => some (!b)) (decide_eq_decide.mpr Iff.rfl))
theorem needed_body {p : Pt} {pl : List Nam} (m : Mk) (h : Mk.kn p m) : b_needed_marks [.sh (hallD p), .sh (.tuple (pl.map nmD)), .sh m.d] = .ok (.rt (.ow (.lst ((needs p pl m).map Mk.d)))) [.sh (hallD p), .sh (.tuple (pl.map nmD)), .sh m.d] := by
  unfold b_needed_marks
  cases m with
  | takes l => simp_all! [Mk.d, ls0, needs]
  | shares n => simp_all! [Mk.d, ls0, needs]
  | under a b => simp_all! [Mk.d, tu2, ls2, needs]
  | gives l => simp_all! [Mk.d, tu2, ls1, needs]
  | writes k f =>
    by_cases hk : k ∈ pl
    · have hd : decide (k ∈ pl) = true := decide_eq_true hk
      simp_all! [Mk.d, nin_nm, hd, ls0, needs, if_pos hk]
    · have hd : decide (k ∈ pl) = false := decide_eq_false hk
      have g := r_guard (p := p) (k := k) h
      cases hg : p.guard k with
      | none =>
        rw [hg] at g
        simp_all! [Mk.d, nin_nm, hd, ls0, needs, if_neg hk, hm_guard, g, opD, isN_n, ite_true, hg, Option.toList]
      | some l =>
        rw [hg] at g
        simp_all! [Mk.d, nin_nm, hd, ls1, tu2, needs, if_neg hk, hm_guard, g, opD, isN_s, ite_true, hg, Option.toList]
theorem r_needed {p : Pt} {pl : List Nam} (m : Mk) (h : Mk.kn p m) (ρ : Sto) : runC 3 m_needed_marks [.inl (hallD p), .inl (.tuple (pl.map nmD)), .inl m.d] ρ = .ok (.ow (.lst ((needs p pl m).map Mk.d))) ρ := by
  refine run_ok (ds := [hallD p, .tuple (pl.map nmD), m.d]) (ps := [.un, .un, .un]) rfl ?_ rfl
  unfold m_needed_marks
  exact fn_rt (n := 3) (N := 3) (as := [.sh (hallD p), .sh (.tuple (pl.map nmD)), .sh m.d]) (needed_body m h) (by simp)
end K05
/-! Dt4: the parts of a signature. -/
namespace Md
open PySem PySem.Spec PyProof.Rows L2
/-- a comprehension that keeps W -/
theorem cLc_inv {α : Type} {ρ ρ1 : Sto} {vs : List Nat} {b : D → Sto → Option Sto} {s : Co (List D)} {cd : Co Bool} {el : Co D} {xs : List α} (f : α → D) (p : α → Bool) (h : α → D) (W : Sto → Prop) (hs : s ρ = .ok (xs.map f) ρ1) (hw : W (wipeS ρ1 vs)) (hf : freeS ρ1 vs = true) (hl : xs.length ≤ sizeLine)
    (H : ∀ x ∈ xs, ∀ ω, W ω → ∃ ρa ρb, b (f x) ω = some ρa ∧ cd ρa = .ok (p x) ρb ∧ W (wipeS ρb vs) ∧ (p x = true → ∃ ρc, el ρb = .ok (h x) ρc ∧ W (wipeS ρc vs))) :
    ∃ ω, W ω ∧ cLc vs b s cd el ρ = .ok (.ow (.lst ((xs.filter p).map h))) ω := by
  have key : ∀ (xs : List α) (acc : List D) (ρ : Sto), W (wipeS ρ vs) → acc.length + xs.length ≤ sizeLine → (∀ x ∈ xs, ∀ ω, W ω → ∃ ρa ρb, b (f x) ω = some ρa ∧ cd ρa = .ok (p x) ρb ∧ W (wipeS ρb vs) ∧ (p x = true → ∃ ρc, el ρb = .ok (h x) ρc ∧ W (wipeS ρc vs))) →
      ∃ ρ', lcL vs b cd (elOne el) (xs.map f) acc ρ = .ok (acc ++ (xs.filter p).map h) ρ' ∧ W (wipeS ρ' vs) := by
    intro xs
    induction xs with
    | nil => intro acc ρ hw _ _; exact ⟨ρ, by show Out.ok acc ρ = _; rw [List.filter_nil, List.map_nil, List.append_nil], hw⟩
    | cons x xs ih =>
      intro acc ρ hw hl H
      obtain ⟨ρa, ρb, e1, e2, e3, e4⟩ := H x List.mem_cons_self _ hw
      rw [List.length_cons] at hl
      have unf : lcL vs b cd (elOne el) ((x :: xs).map f) acc ρ = (if p x = true then elOne el acc ρb else Out.ok acc ρb).bind fun acc1 ρ3 => lcL vs b cd (elOne el) (xs.map f) acc1 ρ3 := by
        show (match b (f x) (wipeS ρ vs) with | none => Out.st | some ρ1 => (cd ρ1).bind fun k ρ2 => (if k = true then elOne el acc ρ2 else Out.ok acc ρ2).bind fun acc1 ρ3 => lcL vs b cd (elOne el) (xs.map f) acc1 ρ3) = _
        rw [e1]
        show (cd ρa).bind _ = _
        rw [e2]
        rfl
      rw [unf]
      cases hp : p x with
      | false =>
        obtain ⟨ρ', h1, h2⟩ := ih acc ρb e3 (by omega) fun y m => H y (List.mem_cons_of_mem _ m)
        refine ⟨ρ', ?_, h2⟩
        rw [List.filter_cons_of_neg (by rw [hp]; intro z; cases z)]
        exact h1
      | true =>
        obtain ⟨ρ3, e5, e6⟩ := e4 hp
        obtain ⟨ρ', h1, h2⟩ := ih (acc ++ [h x]) ρ3 e6 (by rw [List.length_append]; simp; omega) fun y m => H y (List.mem_cons_of_mem _ m)
        refine ⟨ρ', ?_, h2⟩
        have e7 : elOne el acc ρb = .ok (acc ++ [h x]) ρ3 := by
          unfold elOne
          rw [if_pos (by omega), e5]
          rfl
        rw [if_pos rfl, e7, List.filter_cons_of_pos hp, List.map_cons]
        show lcL vs b cd (elOne el) (xs.map f) (acc ++ [h x]) ρ3 = _
        rw [h1, List.append_assoc]
        rfl
  obtain ⟨ρ', e1, e2⟩ := key xs [] ρ1 hw (by show 0 + xs.length ≤ sizeLine; omega) H
  refine ⟨wipeS ρ' vs, e2, ?_⟩
  unfold cLc
  rw [hs]
  show (if freeS ρ1 vs = true then _ else _) = _
  rw [if_pos hf, e1]
  rfl
end Md
namespace K05
open PySem PySem.Spec PyProof.Rows L2 Md Nm Hs
local macro_rules | `(tactic| simp_all! [$ls,*]) => `(tactic| simp -implicitDefEqProofs only [bind_ok', bind_er', selK_t, selK_f, e_fz, e_sh, e_O, optO_s, e_2, e_3, e_var, vS_sh, vS_ow, e_D, e_seq, seqK_nx, seqK_rt, seqK_ct, seqK_bk, e_if, okK_e, e_andT, e_orT, e_notT, e_tru, e_tst, boolD_s, e_and, andK_t, andK_f, e_or, orK_t, orK_f, tru_b, e_cm, e_chn, chK_t, chK_f, e_isN, e_idx, e_isi, e_nil, e_cons, e_tup, e_lst, e_ret, e_nx, e_ex, e_set, e_setSl, sS_un, sS_sh, sS_ow, setRv_sh, setRv_ow, oNx_s, toD_sh, toD_lst, toD_obj, muD_lst, muD_obj, e_par, parK_e, e_noP, e_smP, e_sl, e_not, e_A0, e_Av, e_call, List.getElem?_cons_zero, List.getElem?_cons_succ, List.set_cons_zero, List.set_cons_succ, Option.map_some, Option.map_none, Option.bind_some, Bool.not_true, Bool.not_false, e_att, e_met, e_eqO, boolR_e, notR_e, e_inOp, e_niOp, e_opT, e_put, e_atO, atoK_e, e_rai0, e_makV, e_borT, borK_e, fz_un, fz_sh, List.map_cons, List.map_nil, e_mov, movK_sh, movK_ow, e_asg, fldD_e, clsD_e, e_for, ix0, ix1, ix2, il0, il1, il2, ln_t, ln_l, tup_l, tup_t, list_l, list_t, it_l, it_t, gt_ii, ge_ii, lt_ii, le_ii, eq_ss, ne_ss, eq_ii, ne_ii, eb_nm, asInt, sl1, sl2, nmD_e, dself, dselfi, decide_true, decide_false, len1, len2, len3, n_dec, t_tu, t_tw, t_tg, t_ts, t_ut, t_uw, t_ug, t_us, t_wt, t_wu, t_wg, t_ws, t_gt, t_gu, t_gw, t_gs, t_st, t_su, t_sw, t_sg, $ls,*])
/-- the parts fit: places are kinds, marks are the hall's, and what they need is there -/
structure Fit (p : Pt) (pl : List Nam) (ms : List Mk) : Prop where
  sz : p.Sz
  pl3 : pl.length ≤ 3
  plk : ∀ k ∈ pl, k ∈ p.ks
  len : ms.length ≤ 40
  mem : ∀ m ∈ ms, m ∈ allM p pl.length
  clo : ∀ m ∈ ms, ∀ n ∈ needs p pl m, n ∈ ms
theorem mem_allM {p : Pt} {n : Nat} {m : Mk} (h : m ∈ allM p n) : Mk.ok m ∧ Mk.kn p m := by
  unfold allM underM at h
  simp only [List.mem_append, List.mem_map, List.mem_flatMap, List.mem_filter, List.mem_range] at h
  rcases h with (((⟨a, ha, rfl⟩ | ⟨a, ha, b, ⟨hb, hab⟩, rfl⟩) | ⟨q, hq, rfl⟩) | ⟨a, ha, rfl⟩) | ⟨i, hi, rfl⟩
  · exact ⟨True.intro, True.intro⟩
  · refine ⟨?_, True.intro⟩
    intro e
    rw [decide_eq_true e] at hab
    cases hab
  · refine ⟨True.intro, ?_⟩
    unfold Pt.sorts at hq
    simp only [List.mem_flatMap, List.mem_map] at hq
    obtain ⟨r, hr, f, hf, rfl⟩ := hq
    exact List.mem_map.mpr ⟨r, hr, rfl⟩
  · exact ⟨True.intro, True.intro⟩
  · exact ⟨True.intro, True.intro⟩
theorem needs_len (p : Pt) (pl : List Nam) (m : Mk) : (needs p pl m).length ≤ 2 := by
  cases m with
  | writes k f =>
    show (if k ∈ pl then [] else (p.guard k).toList.map Mk.takes).length ≤ 2
    by_cases h : k ∈ pl
    · rw [if_pos h]; exact Nat.zero_le _
    · rw [if_neg h]
      cases p.guard k with
      | none => exact Nat.zero_le _
      | some a => show 1 ≤ 2; omega
  | takes => exact Nat.zero_le _
  | under => exact Nat.le_refl _
  | gives => show 1 ≤ 2; omega
  | shares => exact Nat.zero_le _
theorem ni_mk (x : Mk) (l : List Mk) : cmp2 .nin x.d (.list (l.map Mk.d)) = some (!decide (x ∈ l)) := (cMk.niL x l).trans (congrArg (fun b => some (!b)) (decide_eq_decide.mpr Iff.rfl))
theorem in_mk (x : Mk) (l : List Mk) : cmp2 .inn x.d (.list (l.map Mk.d)) = some (decide (x ∈ l)) := (cMk.inL x l).trans (congrArg some (decide_eq_decide.mpr Iff.rfl))
theorem any_false {α : Type} (l : List α) : biD .any (.list (l.map fun _ => .bool false)) = some (.sh (.bool false)) := by
  rw [any_map (fun _ => false) l]
  simp
section
variable {p : Pt} {pl : List Nam} {ms : List Mk}
theorem parts_body (F : Fit p pl ms) : ∃ ρ', b_parts_rule [.sh (hallD p), .sh (.tuple (pl.map nmD)), .sh (.list (ms.map Mk.d)), .un, .un, .un, .un, .un] = .ok (.rt (.sh (.str ""))) ρ' ∧ 3 ≤ ρ'.length ∧ cutP 3 ρ' = [.un, .un, .un] := by
  have c1 : cLc [7] (bNm 7) (cO (cFz (cVar 1)) itM) cYes (cFz (cCall 1 m_is_name (cAv (cFz (cVar 7)) cA0))) [.sh (hallD p), .sh (.tuple (pl.map nmD)), .sh (.list (ms.map Mk.d)), .un, .un, .un, .un, .un] = .ok (.ow (.lst (pl.map fun _ => .bool true))) [.sh (hallD p), .sh (.tuple (pl.map nmD)), .sh (.list (ms.map Mk.d)), .un, .un, .un, .un, .un] := by
    refine cLc_yes nmD _ (ρ1 := [.sh (hallD p), .sh (.tuple (pl.map nmD)), .sh (.list (ms.map Mk.d)), .un, .un, .un, .un, .un]) ?_ rfl rfl (line_le (Nat.le_trans F.pl3 (by omega))) fun x hx => ⟨[.sh (hallD p), .sh (.tuple (pl.map nmD)), .sh (.list (ms.map Mk.d)), .un, .un, .un, .un, .sh (nmD x)], [.sh (hallD p), .sh (.tuple (pl.map nmD)), .sh (.list (ms.map Mk.d)), .un, .un, .un, .un, .sh (nmD x)], rfl, ?_, rfl, rfl⟩
    · simp_all! []
    · simp_all! [r_is_name]
  have c2 : cLc [5] (bNm 5) (cO (cFz (cVar 2)) itM) cYes (cFz (cCall 1 m_is_mark (cAv (cFz (cVar 5)) cA0))) [.sh (hallD p), .sh (.tuple (pl.map nmD)), .sh (.list (ms.map Mk.d)), .un, .un, .un, .un, .un] = .ok (.ow (.lst (ms.map fun _ => .bool true))) [.sh (hallD p), .sh (.tuple (pl.map nmD)), .sh (.list (ms.map Mk.d)), .un, .un, .un, .un, .un] := by
    refine cLc_yes Mk.d _ (ρ1 := [.sh (hallD p), .sh (.tuple (pl.map nmD)), .sh (.list (ms.map Mk.d)), .un, .un, .un, .un, .un]) ?_ rfl rfl (line_le (Nat.le_trans F.len (by omega))) fun x hx => ⟨[.sh (hallD p), .sh (.tuple (pl.map nmD)), .sh (.list (ms.map Mk.d)), .un, .un, .sh x.d, .un, .un], [.sh (hallD p), .sh (.tuple (pl.map nmD)), .sh (.list (ms.map Mk.d)), .un, .un, .sh x.d, .un, .un], rfl, ?_, rfl, rfl⟩
    · simp_all! []
    · have h := r_is_mark x (mem_allM (F.mem x hx)).1
      simp_all! [h]
  have c3 : ∀ v : Sl, cLc [7] (bNm 7) (cO (cFz (cVar 1)) itM) cYes (cFz (cCm .nin (cFz (cVar 7)) (cFz (cAtt "Hall" "kinds" (cFz (cVar 0)))))) [.sh (hallD p), .sh (.tuple (pl.map nmD)), .sh (.list (ms.map Mk.d)), v, .un, .un, .un, .un] = .ok (.ow (.lst (pl.map fun _ => .bool false))) [.sh (hallD p), .sh (.tuple (pl.map nmD)), .sh (.list (ms.map Mk.d)), v, .un, .un, .un, .un] := fun v => by
    refine cLc_yes nmD _ (ρ1 := [.sh (hallD p), .sh (.tuple (pl.map nmD)), .sh (.list (ms.map Mk.d)), v, .un, .un, .un, .un]) ?_ rfl rfl (line_le (Nat.le_trans F.pl3 (by omega))) fun x hx => ⟨[.sh (hallD p), .sh (.tuple (pl.map nmD)), .sh (.list (ms.map Mk.d)), v, .un, .un, .un, .sh (nmD x)], [.sh (hallD p), .sh (.tuple (pl.map nmD)), .sh (.list (ms.map Mk.d)), v, .un, .un, .un, .sh (nmD x)], rfl, ?_, rfl, rfl⟩
    · simp_all! []
    · have h : decide (x ∈ p.ks) = true := decide_eq_true (F.plk x hx)
      simp_all! [hd_kin, nin_nm, h]
  have c4 : ∃ v : Sl, cLc [5] (bNm 5) (cO (cFz (cVar 2)) itM) cYes (cFz (cCm .nin (cFz (cVar 5)) (cFz (cVar 3)))) [.sh (hallD p), .sh (.tuple (pl.map nmD)), .sh (.list (ms.map Mk.d)), .ow false (.lst ((allM p pl.length).map Mk.d)), .un, .un, .un, .un] = .ok (.ow (.lst (ms.map fun _ => .bool false))) [.sh (hallD p), .sh (.tuple (pl.map nmD)), .sh (.list (ms.map Mk.d)), v, .un, .un, .un, .un] := by
    obtain ⟨ω, hw, e⟩ := cLc_inv (vs := [5]) (b := bNm 5) (s := cO (cFz (cVar 2)) itM) (cd := cYes) (el := cFz (cCm .nin (cFz (cVar 5)) (cFz (cVar 3)))) (ρ := [.sh (hallD p), .sh (.tuple (pl.map nmD)), .sh (.list (ms.map Mk.d)), .ow false (.lst ((allM p pl.length).map Mk.d)), .un, .un, .un, .un]) (ρ1 := [.sh (hallD p), .sh (.tuple (pl.map nmD)), .sh (.list (ms.map Mk.d)), .ow false (.lst ((allM p pl.length).map Mk.d)), .un, .un, .un, .un]) (xs := ms) Mk.d (fun _ => true) (fun _ => .bool false)
      (fun ω => ∃ v : Sl, (v = .ow false (.lst ((allM p pl.length).map Mk.d)) ∨ v = .sh (.list ((allM p pl.length).map Mk.d))) ∧ ω = [.sh (hallD p), .sh (.tuple (pl.map nmD)), .sh (.list (ms.map Mk.d)), v, .un, .un, .un, .un]) (by simp_all! []) ⟨_, .inl rfl, rfl⟩ rfl (line_le (Nat.le_trans F.len (by omega))) (by
        rintro x hx ω ⟨v, hv, rfl⟩
        have h : decide (x ∈ allM p pl.length) = true := decide_eq_true (F.mem x hx)
        refine ⟨[.sh (hallD p), .sh (.tuple (pl.map nmD)), .sh (.list (ms.map Mk.d)), v, .un, .sh x.d, .un, .un], [.sh (hallD p), .sh (.tuple (pl.map nmD)), .sh (.list (ms.map Mk.d)), v, .un, .sh x.d, .un, .un], rfl, rfl, ⟨v, hv, rfl⟩, fun _ => ⟨[.sh (hallD p), .sh (.tuple (pl.map nmD)), .sh (.list (ms.map Mk.d)), .sh (.list ((allM p pl.length).map Mk.d)), .un, .sh x.d, .un, .un], ?_, ⟨_, .inr rfl, rfl⟩⟩⟩
        rcases hv with rfl | rfl
        · simp_all! [ni_mk, h]
        · simp_all! [ni_mk, h])
    obtain ⟨v, -, rfl⟩ := hw
    refine ⟨v, ?_⟩
    rw [e, List.filter_eq_self.mpr fun _ _ => rfl]
  obtain ⟨v, c4⟩ := c4
  have c5 : cLc2 [5, 6] [6] (bNm 5) (cO (cFz (cVar 2)) itM) cYes (bNm 6) (cO (cFz (cCall 3 m_needed_marks (cAv (cFz (cVar 0)) (cAv (cFz (cVar 1)) (cAv (cFz (cVar 5)) cA0))))) itM) cYes (cFz (cVar 6)) [.sh (hallD p), .sh (.tuple (pl.map nmD)), .sh (.list (ms.map Mk.d)), v, .un, .un, .un, .un] = .ok (.ow (.lst ((ms.flatMap (needs p pl)).map Mk.d))) [.sh (hallD p), .sh (.tuple (pl.map nmD)), .sh (.list (ms.map Mk.d)), v, .un, .un, .un, .un] := by
    have e : (ms.flatMap (needs p pl)).map Mk.d = ms.flatMap fun x => ((needs p pl x).filter fun _ => true).map Mk.d := by
      rw [List.map_flatMap]
      congr 1
      funext x
      rw [List.filter_eq_self.mpr fun _ _ => rfl]
    rw [e]
    refine cLc2_map Mk.d (needs p pl) Mk.d (fun _ _ => true) (fun _ y => y.d) (ρ1 := [.sh (hallD p), .sh (.tuple (pl.map nmD)), .sh (.list (ms.map Mk.d)), v, .un, .un, .un, .un]) ?_ rfl rfl (by decide) (line_le (Nat.le_trans (len_flat (n := 40) (k := 2) _ ms F.len fun x _ => needs_len p pl x) (by omega))) fun x hx => ⟨[.sh (hallD p), .sh (.tuple (pl.map nmD)), .sh (.list (ms.map Mk.d)), v, .un, .sh x.d, .un, .un], [.sh (hallD p), .sh (.tuple (pl.map nmD)), .sh (.list (ms.map Mk.d)), v, .un, .sh x.d, .un, .un], [.sh (hallD p), .sh (.tuple (pl.map nmD)), .sh (.list (ms.map Mk.d)), v, .un, .sh x.d, .un, .un], rfl, ?_, rfl, rfl, fun y hy => ⟨[.sh (hallD p), .sh (.tuple (pl.map nmD)), .sh (.list (ms.map Mk.d)), v, .un, .sh x.d, .sh y.d, .un], [.sh (hallD p), .sh (.tuple (pl.map nmD)), .sh (.list (ms.map Mk.d)), v, .un, .sh x.d, .sh y.d, .un], rfl, rfl, rfl, fun _ => ⟨[.sh (hallD p), .sh (.tuple (pl.map nmD)), .sh (.list (ms.map Mk.d)), v, .un, .sh x.d, .sh y.d, .un], ?_, rfl⟩⟩⟩
    · simp_all! []
    · have h := r_needed (pl := pl) x (mem_allM (F.mem x hx)).2
      simp_all! [h]
    · simp_all! []
  have c6 : cLc [6] (bNm 6) (cO (cFz (cVar 4)) itM) cYes (cFz (cCm .nin (cFz (cVar 6)) (cFz (cVar 2)))) [.sh (hallD p), .sh (.tuple (pl.map nmD)), .sh (.list (ms.map Mk.d)), v, .ow false (.lst ((ms.flatMap (needs p pl)).map Mk.d)), .un, .un, .un] = .ok (.ow (.lst ((ms.flatMap (needs p pl)).map fun _ => .bool false))) [.sh (hallD p), .sh (.tuple (pl.map nmD)), .sh (.list (ms.map Mk.d)), v, .sh (.list ((ms.flatMap (needs p pl)).map Mk.d)), .un, .un, .un] := by
    refine cLc_yes Mk.d _ (ρ1 := [.sh (hallD p), .sh (.tuple (pl.map nmD)), .sh (.list (ms.map Mk.d)), v, .sh (.list ((ms.flatMap (needs p pl)).map Mk.d)), .un, .un, .un]) ?_ rfl rfl (line_le (Nat.le_trans (len_flat (n := 40) (k := 2) _ ms F.len fun x _ => needs_len p pl x) (by omega))) fun x hx => ⟨[.sh (hallD p), .sh (.tuple (pl.map nmD)), .sh (.list (ms.map Mk.d)), v, .sh (.list ((ms.flatMap (needs p pl)).map Mk.d)), .un, .sh x.d, .un], [.sh (hallD p), .sh (.tuple (pl.map nmD)), .sh (.list (ms.map Mk.d)), v, .sh (.list ((ms.flatMap (needs p pl)).map Mk.d)), .un, .sh x.d, .un], rfl, ?_, rfl, rfl⟩
    · simp_all! []
    · have h : decide (x ∈ ms) = true := by
        obtain ⟨m, hm, hx⟩ := List.mem_flatMap.mp hx
        exact decide_eq_true (F.clo m hm x hx)
      simp_all! [ni_mk, h]
  have k1 := all_true pl
  have k2 := all_true ms
  have k3 := any_false pl
  have k4 := any_false ms
  have k5 := any_false (ms.flatMap (needs p pl))
  have am := r_all_marks (p := p) (pl := pl.map nmD) F.sz (by rw [List.length_map]; exact F.pl3)
  rw [List.length_map] at am
  have kl : decide ((3 : Int) < ((pl.map nmD).length : Int)) = false := decide_eq_false (by rw [List.length_map]; have := F.pl3; omega)
  refine ⟨[.sh (hallD p), .sh (.tuple (pl.map nmD)), .sh (.list (ms.map Mk.d)), v, .sh (.list ((ms.flatMap (needs p pl)).map Mk.d)), .un, .un, .un], ?_, by simp, rfl⟩
  unfold b_parts_rule
  simp_all! [c1, c2, k1, k2, d__MOST_PLACES, kl, am, c3, c4, k3, k4, c5, c6, k5]
theorem r_parts (F : Fit p pl ms) (ρ : Sto) : runC 3 m_parts_rule [.inl (hallD p), .inl (.tuple (pl.map nmD)), .inl (.list (ms.map Mk.d))] ρ = .ok (.sh (.str "")) ρ := by
  obtain ⟨ρ', e, l, c⟩ := parts_body F
  refine run_ok (ds := [hallD p, .tuple (pl.map nmD), .list (ms.map Mk.d)]) (ps := [.un, .un, .un]) rfl ?_ rfl
  unfold m_parts_rule
  rw [← c]
  exact fn_rt (n := 3) (N := 8) (as := [.sh (hallD p), .sh (.tuple (pl.map nmD)), .sh (.list (ms.map Mk.d))]) e l
end
end K05
/-! Dt5: a signature is made. -/
namespace K05
open PySem PySem.Spec PyProof.Rows L2 Md Nm Hs
local macro_rules | `(tactic| simp_all! [$ls,*]) => `(tactic| simp -implicitDefEqProofs only [bind_ok', bind_er', selK_t, selK_f, e_fz, e_sh, e_O, optO_s, e_2, e_3, e_var, vS_sh, vS_ow, e_D, e_seq, seqK_nx, seqK_rt, seqK_ct, seqK_bk, e_if, okK_e, e_andT, e_orT, e_notT, e_tru, e_tst, boolD_s, e_and, andK_t, andK_f, e_or, orK_t, orK_f, tru_b, e_cm, e_chn, chK_t, chK_f, e_isN, e_idx, e_isi, e_nil, e_cons, e_tup, e_lst, e_ret, e_nx, e_ex, e_set, e_setSl, sS_un, sS_sh, sS_ow, setRv_sh, setRv_ow, oNx_s, toD_sh, toD_lst, toD_obj, muD_lst, muD_obj, e_par, parK_e, e_noP, e_smP, e_sl, e_not, e_A0, e_Av, e_call, List.getElem?_cons_zero, List.getElem?_cons_succ, List.set_cons_zero, List.set_cons_succ, Option.map_some, Option.map_none, Option.bind_some, Bool.not_true, Bool.not_false, e_att, e_met, e_eqO, boolR_e, notR_e, e_inOp, e_niOp, e_opT, e_put, e_atO, atoK_e, e_rai0, e_makV, e_borT, borK_e, fz_un, fz_sh, List.map_cons, List.map_nil, e_mov, movK_sh, movK_ow, e_asg, fldD_e, clsD_e, e_for, ix0, ix1, ix2, il0, il1, il2, ln_t, ln_l, tup_l, tup_t, list_l, list_t, it_l, it_t, gt_ii, ge_ii, lt_ii, le_ii, eq_ss, ne_ss, eq_ii, ne_ii, eb_nm, asInt, sl1, sl2, nmD_e, dself, dselfi, decide_true, decide_false, len1, len2, len3, n_dec, t_tu, t_tw, t_tg, t_ts, t_ut, t_uw, t_ug, t_us, t_wt, t_wu, t_wg, t_ws, t_gt, t_gu, t_gw, t_gs, t_st, t_su, t_sw, t_sg, $ls,*])
theorem pk1 (v1 : D) (ρ : Sto) : putK 0 "Signature" "hall" v1 (some (.ow true (.obj "Signature" []))) ρ = .ok .nx (ρ.set 0 (.ow true (.obj "Signature" [(.str "hall", v1)]))) := by
  rw [putK_e (by simp)]
  repeat first | rw [setF_no] | rw [setF_ne _ _ _ (by decide +kernel)]
theorem pk2 (v1 v2 : D) (ρ : Sto) : putK 0 "Signature" "places" v2 (some (.ow true (.obj "Signature" [(.str "hall", v1)]))) ρ = .ok .nx (ρ.set 0 (.ow true (.obj "Signature" [(.str "hall", v1), (.str "places", v2)]))) := by
  rw [putK_e (by simp)]
  repeat first | rw [setF_no] | rw [setF_ne _ _ _ (by decide +kernel)]
theorem pk3 (v1 v2 v3 : D) (ρ : Sto) : putK 0 "Signature" "marks" v3 (some (.ow true (.obj "Signature" [(.str "hall", v1), (.str "places", v2)]))) ρ = .ok .nx (ρ.set 0 (.ow true (.obj "Signature" [(.str "hall", v1), (.str "places", v2), (.str "marks", v3)]))) := by
  rw [putK_e (by simp)]
  repeat first | rw [setF_no] | rw [setF_ne _ _ _ (by decide +kernel)]
theorem pk4 (v1 v2 v3 v4 : D) (ρ : Sto) : putK 0 "Signature" "takes" v4 (some (.ow true (.obj "Signature" [(.str "hall", v1), (.str "places", v2), (.str "marks", v3)]))) ρ = .ok .nx (ρ.set 0 (.ow true (.obj "Signature" [(.str "hall", v1), (.str "places", v2), (.str "marks", v3), (.str "takes", v4)]))) := by
  rw [putK_e (by simp)]
  repeat first | rw [setF_no] | rw [setF_ne _ _ _ (by decide +kernel)]
theorem pk5 (v1 v2 v3 v4 v5 : D) (ρ : Sto) : putK 0 "Signature" "under" v5 (some (.ow true (.obj "Signature" [(.str "hall", v1), (.str "places", v2), (.str "marks", v3), (.str "takes", v4)]))) ρ = .ok .nx (ρ.set 0 (.ow true (.obj "Signature" [(.str "hall", v1), (.str "places", v2), (.str "marks", v3), (.str "takes", v4), (.str "under", v5)]))) := by
  rw [putK_e (by simp)]
  repeat first | rw [setF_no] | rw [setF_ne _ _ _ (by decide +kernel)]
theorem pk6 (v1 v2 v3 v4 v5 v6 : D) (ρ : Sto) : putK 0 "Signature" "writes" v6 (some (.ow true (.obj "Signature" [(.str "hall", v1), (.str "places", v2), (.str "marks", v3), (.str "takes", v4), (.str "under", v5)]))) ρ = .ok .nx (ρ.set 0 (.ow true (.obj "Signature" [(.str "hall", v1), (.str "places", v2), (.str "marks", v3), (.str "takes", v4), (.str "under", v5), (.str "writes", v6)]))) := by
  rw [putK_e (by simp)]
  repeat first | rw [setF_no] | rw [setF_ne _ _ _ (by decide +kernel)]
theorem pk7 (v1 v2 v3 v4 v5 v6 v7 : D) (ρ : Sto) : putK 0 "Signature" "gives" v7 (some (.ow true (.obj "Signature" [(.str "hall", v1), (.str "places", v2), (.str "marks", v3), (.str "takes", v4), (.str "under", v5), (.str "writes", v6)]))) ρ = .ok .nx (ρ.set 0 (.ow true (.obj "Signature" [(.str "hall", v1), (.str "places", v2), (.str "marks", v3), (.str "takes", v4), (.str "under", v5), (.str "writes", v6), (.str "gives", v7)]))) := by
  rw [putK_e (by simp)]
  repeat first | rw [setF_no] | rw [setF_ne _ _ _ (by decide +kernel)]
theorem pk8 (v1 v2 v3 v4 v5 v6 v7 v8 : D) (ρ : Sto) : putK 0 "Signature" "shares" v8 (some (.ow true (.obj "Signature" [(.str "hall", v1), (.str "places", v2), (.str "marks", v3), (.str "takes", v4), (.str "under", v5), (.str "writes", v6), (.str "gives", v7)]))) ρ = .ok .nx (ρ.set 0 (.ow true (.obj "Signature" [(.str "hall", v1), (.str "places", v2), (.str "marks", v3), (.str "takes", v4), (.str "under", v5), (.str "writes", v6), (.str "gives", v7), (.str "shares", v8)]))) := by
  rw [putK_e (by simp)]
  repeat first | rw [setF_no] | rw [setF_ne _ _ _ (by decide +kernel)]
theorem pk9 (v1 v2 v3 v4 v5 v6 v7 v8 v9 : D) (ρ : Sto) : putK 0 "Signature" "is_giving" v9 (some (.ow true (.obj "Signature" [(.str "hall", v1), (.str "places", v2), (.str "marks", v3), (.str "takes", v4), (.str "under", v5), (.str "writes", v6), (.str "gives", v7), (.str "shares", v8)]))) ρ = .ok .nx (ρ.set 0 (.ow true (.obj "Signature" [(.str "hall", v1), (.str "places", v2), (.str "marks", v3), (.str "takes", v4), (.str "under", v5), (.str "writes", v6), (.str "gives", v7), (.str "shares", v8), (.str "is_giving", v9)]))) := by
  rw [putK_e (by simp)]
  repeat first | rw [setF_no] | rw [setF_ne _ _ _ (by decide +kernel)]
theorem fm3 (v1 v2 v3 : D) : fldF "marks" [(.str "hall", v1), (.str "places", v2), (.str "marks", v3)] = some v3 := by
  rw [fld_ne _ _ (by decide +kernel), fld_ne _ _ (by decide +kernel), fld_eq]
theorem fm4 (v1 v2 v3 v4 : D) : fldF "marks" [(.str "hall", v1), (.str "places", v2), (.str "marks", v3), (.str "takes", v4)] = some v3 := by
  rw [fld_ne _ _ (by decide +kernel), fld_ne _ _ (by decide +kernel), fld_eq]
theorem fm5 (v1 v2 v3 v4 v5 : D) : fldF "marks" [(.str "hall", v1), (.str "places", v2), (.str "marks", v3), (.str "takes", v4), (.str "under", v5)] = some v3 := by
  rw [fld_ne _ _ (by decide +kernel), fld_ne _ _ (by decide +kernel), fld_eq]
theorem fm6 (v1 v2 v3 v4 v5 v6 : D) : fldF "marks" [(.str "hall", v1), (.str "places", v2), (.str "marks", v3), (.str "takes", v4), (.str "under", v5), (.str "writes", v6)] = some v3 := by
  rw [fld_ne _ _ (by decide +kernel), fld_ne _ _ (by decide +kernel), fld_eq]
theorem fm7 (v1 v2 v3 v4 v5 v6 v7 : D) : fldF "marks" [(.str "hall", v1), (.str "places", v2), (.str "marks", v3), (.str "takes", v4), (.str "under", v5), (.str "writes", v6), (.str "gives", v7)] = some v3 := by
  rw [fld_ne _ _ (by decide +kernel), fld_ne _ _ (by decide +kernel), fld_eq]
theorem fg8 (v1 v2 v3 v4 v5 v6 v7 v8 : D) : fldF "gives" [(.str "hall", v1), (.str "places", v2), (.str "marks", v3), (.str "takes", v4), (.str "under", v5), (.str "writes", v6), (.str "gives", v7), (.str "shares", v8)] = some v7 := by
  rw [fld_ne _ _ (by decide +kernel), fld_ne _ _ (by decide +kernel), fld_ne _ _ (by decide +kernel), fld_ne _ _ (by decide +kernel), fld_ne _ _ (by decide +kernel), fld_ne _ _ (by decide +kernel), fld_eq]
def _root_.Hs.Mk.w : Mk → Str
  | .takes _ => "takes"
  | .under _ _ => "under"
  | .writes _ _ => "writes"
  | .gives _ => "gives"
  | .shares _ => "shares"
def _root_.Hs.Mk.a1 : Mk → D
  | .takes l => .str l.1
  | .under a _ => .str a.1
  | .writes k _ => .str k.1
  | .gives l => .str l.1
  | .shares n => .int (n : Int)
def _root_.Hs.Mk.tl : Mk → D
  | .takes l => .tuple [.str l.1]
  | .under a b => .tuple [.str a.1, .str b.1]
  | .writes k f => .tuple [.str k.1, .str f.1]
  | .gives l => .tuple [.str l.1]
  | .shares n => .tuple [.int (n : Int)]
def wordT (w : Str) (mk : List Mk) : List Mk := mk.filter fun m => decide (m.w = w)
theorem ix_w (m : Mk) : idxD m.d (.int 0) = some (.str m.w) := by cases m <;> exact at0 _ _
theorem ix_1 (m : Mk) : idxD m.d (.int 1) = some m.a1 := by cases m <;> exact at1 _ _ _
theorem sl_1 (m : Mk) : slcD m.d (some 1) none = some (.sh m.tl) := by cases m <;> exact sl1 _ _
theorem sc_takes {h mk_ pl rl : D} {mk : List Mk} (hl : mk.length ≤ 100) (fs : List (D × D)) (hf : fldF "marks" fs = some (.tuple (mk.map Mk.d))) : cLc [5] (bNm 5) (cO (cFz (cAtO 0 "Signature" "marks")) itM) (cTst (cCm .eq (cFz (cIdx (cFz (cVar 5)) (cFz (cD (.int 0))))) (cFz (cD (.str "takes"))))) (cFz (cIdx (cFz (cVar 5)) (cFz (cD (.int 1))))) [.ow true (.obj "Signature" fs), .sh h, .sh mk_, .sh pl, .sh rl, .un] = .ok (.ow (.lst ((wordT "takes" mk).map Mk.a1))) [.ow true (.obj "Signature" fs), .sh h, .sh mk_, .sh pl, .sh rl, .un] := by
  refine cLc_map Mk.d (fun m => decide (m.w = "takes")) _ (ρ1 := [.ow true (.obj "Signature" fs), .sh h, .sh mk_, .sh pl, .sh rl, .un]) ?_ rfl rfl (line_le (by omega)) fun x hx => ⟨[.ow true (.obj "Signature" fs), .sh h, .sh mk_, .sh pl, .sh rl, .sh x.d], [.ow true (.obj "Signature" fs), .sh h, .sh mk_, .sh pl, .sh rl, .sh x.d], rfl, ?_, rfl, fun _ => ⟨[.ow true (.obj "Signature" fs), .sh h, .sh mk_, .sh pl, .sh rl, .sh x.d], ?_, rfl⟩⟩
  · simp_all! [hf]
  · simp_all! [ix_w]
  · simp_all! [ix_1, sl_1]
theorem sc_under {h mk_ pl rl : D} {mk : List Mk} (hl : mk.length ≤ 100) (fs : List (D × D)) (hf : fldF "marks" fs = some (.tuple (mk.map Mk.d))) : cLc [5] (bNm 5) (cO (cFz (cAtO 0 "Signature" "marks")) itM) (cTst (cCm .eq (cFz (cIdx (cFz (cVar 5)) (cFz (cD (.int 0))))) (cFz (cD (.str "under"))))) (cFz (cSl (cFz (cVar 5)) (cSmP (cFz (cD (.int 1)))) cNoP)) [.ow true (.obj "Signature" fs), .sh h, .sh mk_, .sh pl, .sh rl, .un] = .ok (.ow (.lst ((wordT "under" mk).map Mk.tl))) [.ow true (.obj "Signature" fs), .sh h, .sh mk_, .sh pl, .sh rl, .un] := by
  refine cLc_map Mk.d (fun m => decide (m.w = "under")) _ (ρ1 := [.ow true (.obj "Signature" fs), .sh h, .sh mk_, .sh pl, .sh rl, .un]) ?_ rfl rfl (line_le (by omega)) fun x hx => ⟨[.ow true (.obj "Signature" fs), .sh h, .sh mk_, .sh pl, .sh rl, .sh x.d], [.ow true (.obj "Signature" fs), .sh h, .sh mk_, .sh pl, .sh rl, .sh x.d], rfl, ?_, rfl, fun _ => ⟨[.ow true (.obj "Signature" fs), .sh h, .sh mk_, .sh pl, .sh rl, .sh x.d], ?_, rfl⟩⟩
  · simp_all! [hf]
  · simp_all! [ix_w]
  · simp_all! [ix_1, sl_1]
theorem sc_writes {h mk_ pl rl : D} {mk : List Mk} (hl : mk.length ≤ 100) (fs : List (D × D)) (hf : fldF "marks" fs = some (.tuple (mk.map Mk.d))) : cLc [5] (bNm 5) (cO (cFz (cAtO 0 "Signature" "marks")) itM) (cTst (cCm .eq (cFz (cIdx (cFz (cVar 5)) (cFz (cD (.int 0))))) (cFz (cD (.str "writes"))))) (cFz (cSl (cFz (cVar 5)) (cSmP (cFz (cD (.int 1)))) cNoP)) [.ow true (.obj "Signature" fs), .sh h, .sh mk_, .sh pl, .sh rl, .un] = .ok (.ow (.lst ((wordT "writes" mk).map Mk.tl))) [.ow true (.obj "Signature" fs), .sh h, .sh mk_, .sh pl, .sh rl, .un] := by
  refine cLc_map Mk.d (fun m => decide (m.w = "writes")) _ (ρ1 := [.ow true (.obj "Signature" fs), .sh h, .sh mk_, .sh pl, .sh rl, .un]) ?_ rfl rfl (line_le (by omega)) fun x hx => ⟨[.ow true (.obj "Signature" fs), .sh h, .sh mk_, .sh pl, .sh rl, .sh x.d], [.ow true (.obj "Signature" fs), .sh h, .sh mk_, .sh pl, .sh rl, .sh x.d], rfl, ?_, rfl, fun _ => ⟨[.ow true (.obj "Signature" fs), .sh h, .sh mk_, .sh pl, .sh rl, .sh x.d], ?_, rfl⟩⟩
  · simp_all! [hf]
  · simp_all! [ix_w]
  · simp_all! [ix_1, sl_1]
theorem sc_gives {h mk_ pl rl : D} {mk : List Mk} (hl : mk.length ≤ 100) (fs : List (D × D)) (hf : fldF "marks" fs = some (.tuple (mk.map Mk.d))) : cLc [5] (bNm 5) (cO (cFz (cAtO 0 "Signature" "marks")) itM) (cTst (cCm .eq (cFz (cIdx (cFz (cVar 5)) (cFz (cD (.int 0))))) (cFz (cD (.str "gives"))))) (cFz (cIdx (cFz (cVar 5)) (cFz (cD (.int 1))))) [.ow true (.obj "Signature" fs), .sh h, .sh mk_, .sh pl, .sh rl, .un] = .ok (.ow (.lst ((wordT "gives" mk).map Mk.a1))) [.ow true (.obj "Signature" fs), .sh h, .sh mk_, .sh pl, .sh rl, .un] := by
  refine cLc_map Mk.d (fun m => decide (m.w = "gives")) _ (ρ1 := [.ow true (.obj "Signature" fs), .sh h, .sh mk_, .sh pl, .sh rl, .un]) ?_ rfl rfl (line_le (by omega)) fun x hx => ⟨[.ow true (.obj "Signature" fs), .sh h, .sh mk_, .sh pl, .sh rl, .sh x.d], [.ow true (.obj "Signature" fs), .sh h, .sh mk_, .sh pl, .sh rl, .sh x.d], rfl, ?_, rfl, fun _ => ⟨[.ow true (.obj "Signature" fs), .sh h, .sh mk_, .sh pl, .sh rl, .sh x.d], ?_, rfl⟩⟩
  · simp_all! [hf]
  · simp_all! [ix_w]
  · simp_all! [ix_1, sl_1]
theorem sc_shares {h mk_ pl rl : D} {mk : List Mk} (hl : mk.length ≤ 100) (fs : List (D × D)) (hf : fldF "marks" fs = some (.tuple (mk.map Mk.d))) : cLc [5] (bNm 5) (cO (cFz (cAtO 0 "Signature" "marks")) itM) (cTst (cCm .eq (cFz (cIdx (cFz (cVar 5)) (cFz (cD (.int 0))))) (cFz (cD (.str "shares"))))) (cFz (cIdx (cFz (cVar 5)) (cFz (cD (.int 1))))) [.ow true (.obj "Signature" fs), .sh h, .sh mk_, .sh pl, .sh rl, .un] = .ok (.ow (.lst ((wordT "shares" mk).map Mk.a1))) [.ow true (.obj "Signature" fs), .sh h, .sh mk_, .sh pl, .sh rl, .un] := by
  refine cLc_map Mk.d (fun m => decide (m.w = "shares")) _ (ρ1 := [.ow true (.obj "Signature" fs), .sh h, .sh mk_, .sh pl, .sh rl, .un]) ?_ rfl rfl (line_le (by omega)) fun x hx => ⟨[.ow true (.obj "Signature" fs), .sh h, .sh mk_, .sh pl, .sh rl, .sh x.d], [.ow true (.obj "Signature" fs), .sh h, .sh mk_, .sh pl, .sh rl, .sh x.d], rfl, ?_, rfl, fun _ => ⟨[.ow true (.obj "Signature" fs), .sh h, .sh mk_, .sh pl, .sh rl, .sh x.d], ?_, rfl⟩⟩
  · simp_all! [hf]
  · simp_all! [ix_w]
  · simp_all! [ix_1, sl_1]
def told (p : Pt) (n : Nat) (ms : List Mk) : List Mk := (allM p n).filter fun m => decide (m ∈ ms)
def givB (mk : List Mk) : Bool := decide (0 < (wordT "gives" mk).length)
/-- the fields of a signature whose marks are mk -/
def sigF (p : Pt) (pl : List Nam) (mk : List Mk) : List (D × D) := [(.str "hall", hallD p), (.str "places", .tuple (pl.map nmD)), (.str "marks", .tuple (mk.map Mk.d)), (.str "takes", .tuple ((wordT "takes" mk).map Mk.a1)), (.str "under", .tuple ((wordT "under" mk).map Mk.tl)), (.str "writes", .tuple ((wordT "writes" mk).map Mk.tl)), (.str "gives", .tuple ((wordT "gives" mk).map Mk.a1)), (.str "shares", .tuple ((wordT "shares" mk).map Mk.a1)), (.str "is_giving", .bool (givB mk))]
def sigD (p : Pt) (pl : List Nam) (mk : List Mk) : D := .dict ((.none, .str "Signature") :: sigF p pl mk)
theorem tru_e : tru (.str "") = some false := by
  show (if ("" : Str).length ≤ sizeLine then some ((("" : Str).length : Int) != 0) else none) = some false
  rw [if_pos (line_le (by decide +kernel))]
  decide +kernel
section
variable {p : Pt} {pl : List Nam} {ms : List Mk}
theorem told_len (F : Fit p pl ms) : (told p pl.length ms).length ≤ 33 := Nat.le_trans (List.length_filter_le _ _) (F.sz.al F.pl3)
theorem init_body (F : Fit p pl ms) : b_Signature_init [.ow true (.obj "Signature" []), .sh (hallD p), .sh (.list (ms.map Mk.d)), .sh (.tuple (pl.map nmD)), .un, .un] = .ok .nx [.ow true (.obj "Signature" (sigF p pl (told p pl.length ms))), .sh (hallD p), .sh (.list (ms.map Mk.d)), .sh (.tuple (pl.map nmD)), .sh (.str ""), .un] := by
  have am := r_all_marks (p := p) (pl := pl.map nmD) F.sz (by rw [List.length_map]; exact F.pl3)
  rw [List.length_map] at am
  have rp := r_parts F
  have c0 : ∀ fs, cLc [5] (bNm 5) (cO (cFz (cCall 2 m_all_marks (cAv (cFz (cVar 1)) (cAv (cFz (cVar 3)) cA0)))) itM) (cTst (cCm .inn (cFz (cVar 5)) (cFz (cVar 2)))) (cFz (cVar 5)) [.ow true (.obj "Signature" fs), .sh (hallD p), .sh (.list (ms.map Mk.d)), .sh (.tuple (pl.map nmD)), .sh (.str ""), .un] = .ok (.ow (.lst ((told p pl.length ms).map Mk.d))) [.ow true (.obj "Signature" fs), .sh (hallD p), .sh (.list (ms.map Mk.d)), .sh (.tuple (pl.map nmD)), .sh (.str ""), .un] := fun fs => by
    refine cLc_map Mk.d (fun m => decide (m ∈ ms)) _ (ρ1 := [.ow true (.obj "Signature" fs), .sh (hallD p), .sh (.list (ms.map Mk.d)), .sh (.tuple (pl.map nmD)), .sh (.str ""), .un]) ?_ rfl rfl (line_le (Nat.le_trans (F.sz.al F.pl3) (by omega))) fun x hx => ⟨[.ow true (.obj "Signature" fs), .sh (hallD p), .sh (.list (ms.map Mk.d)), .sh (.tuple (pl.map nmD)), .sh (.str ""), .sh x.d], [.ow true (.obj "Signature" fs), .sh (hallD p), .sh (.list (ms.map Mk.d)), .sh (.tuple (pl.map nmD)), .sh (.str ""), .sh x.d], rfl, ?_, rfl, fun _ => ⟨[.ow true (.obj "Signature" fs), .sh (hallD p), .sh (.list (ms.map Mk.d)), .sh (.tuple (pl.map nmD)), .sh (.str ""), .sh x.d], ?_, rfl⟩⟩
    · simp_all! [am]
    · simp_all! [in_mk]
    · simp_all! []
  have hlen : (told p pl.length ms).length ≤ 100 := Nat.le_trans (told_len F) (by omega)
  have k1 := sc_takes (h := hallD p) (mk_ := .list (ms.map Mk.d)) (pl := .tuple (pl.map nmD)) (rl := .str "") hlen
  have k2 := sc_under (h := hallD p) (mk_ := .list (ms.map Mk.d)) (pl := .tuple (pl.map nmD)) (rl := .str "") hlen
  have k3 := sc_writes (h := hallD p) (mk_ := .list (ms.map Mk.d)) (pl := .tuple (pl.map nmD)) (rl := .str "") hlen
  have k4 := sc_gives (h := hallD p) (mk_ := .list (ms.map Mk.d)) (pl := .tuple (pl.map nmD)) (rl := .str "") hlen
  have k5 := sc_shares (h := hallD p) (mk_ := .list (ms.map Mk.d)) (pl := .tuple (pl.map nmD)) (rl := .str "") hlen
  have kg : decide ((0 : Int) < ((((wordT "gives" (told p pl.length ms)).map Mk.a1).length : Nat) : Int)) = givB (told p pl.length ms) := by
    unfold givB
    rw [List.length_map, decide_eq_decide]
    omega
  unfold b_Signature_init sigF
  simp_all! [rp, tru_e, c0, k1, k2, k3, k4, k5, pk1, pk2, pk3, pk4, pk5, pk6, pk7, pk8, pk9, fm3, fm4, fm5, fm6, fm7, fg8, kg]
end
end K05
/-! Dt6: what signatures answer. -/
namespace K05
open PySem PySem.Spec PyProof.Rows L2 Md Nm Hs
local macro_rules | `(tactic| simp_all! [$ls,*]) => `(tactic| simp -implicitDefEqProofs only [bind_ok', bind_er', selK_t, selK_f, e_fz, e_sh, e_O, optO_s, e_2, e_3, e_var, vS_sh, vS_ow, e_D, e_seq, seqK_nx, seqK_rt, seqK_ct, seqK_bk, e_if, okK_e, e_andT, e_orT, e_notT, e_tru, e_tst, boolD_s, e_and, andK_t, andK_f, e_or, orK_t, orK_f, tru_b, e_cm, e_chn, chK_t, chK_f, e_isN, e_idx, e_isi, e_nil, e_cons, e_tup, e_lst, e_ret, e_nx, e_ex, e_set, e_setSl, sS_un, sS_sh, sS_ow, setRv_sh, setRv_ow, oNx_s, toD_sh, toD_lst, toD_obj, muD_lst, muD_obj, e_par, parK_e, e_noP, e_smP, e_sl, e_not, e_A0, e_Av, e_call, List.getElem?_cons_zero, List.getElem?_cons_succ, List.set_cons_zero, List.set_cons_succ, Option.map_some, Option.map_none, Option.bind_some, Bool.not_true, Bool.not_false, e_att, e_met, e_eqO, boolR_e, notR_e, e_inOp, e_niOp, e_opT, e_put, e_atO, atoK_e, e_rai0, e_makV, e_borT, borK_e, fz_un, fz_sh, List.map_cons, List.map_nil, e_mov, movK_sh, movK_ow, e_asg, fldD_e, clsD_e, e_for, ix0, ix1, ix2, il0, il1, il2, ln_t, ln_l, tup_l, tup_t, list_l, list_t, it_l, it_t, gt_ii, ge_ii, lt_ii, le_ii, eq_ss, ne_ss, eq_ii, ne_ii, eb_nm, asInt, sl1, sl2, nmD_e, dself, dselfi, decide_true, decide_false, len1, len2, len3, n_dec, t_tu, t_tw, t_tg, t_ts, t_ut, t_uw, t_ug, t_us, t_wt, t_wu, t_wg, t_ws, t_gt, t_gu, t_gw, t_gs, t_st, t_su, t_sw, t_sg, $ls,*])
section
variable {p : Pt} {pl : List Nam} {ms mk nk : List Mk}
theorem r_make (F : Fit p pl ms) (ρ : Sto) : makeV "Signature" 2 1 m_Signature_init (.inl (hallD p) :: (pl.map nmD).map .inl) [.list (ms.map Mk.d)] ρ = .ok (.ow (.obj "Signature" (sigF p pl (told p pl.length ms)))) ρ := by
  have h1 : m_Signature_init [.ow true (.obj "Signature" []), .sh (hallD p), .sh (.list (ms.map Mk.d)), .sh (.tuple (pl.map nmD))] = .ok (.sh .none) [.ow true (.obj "Signature" (sigF p pl (told p pl.length ms))), .un, .un, .un] := by
    unfold m_Signature_init
    exact fn_nx (n := 4) (N := 6) (as := [.ow true (.obj "Signature" []), .sh (hallD p), .sh (.list (ms.map Mk.d)), .sh (.tuple (pl.map nmD))]) (init_body F) (by simp)
  have h3 := F.pl3
  exact make_ok (c := "Signature") (ds := hallD p :: pl.map nmD) (zs := [.list (ms.map Mk.d)]) (ps := [.un, .un, .un]) ⟨by simp, by simp; omega, rfl, by omega⟩ h1
theorem sf_hall : fldD "Signature" "hall" (sigD p pl mk) = some (hallD p) := (fldD_e _ _ _).trans (fld_eq _ _ _)
theorem sf_pl : fldD "Signature" "places" (sigD p pl mk) = some (.tuple (pl.map nmD)) := (fldD_e _ _ _).trans (by
  unfold sigF
  rw [fld_ne _ _ (by decide +kernel), fld_eq])
theorem sf_mk : fldD "Signature" "marks" (sigD p pl mk) = some (.tuple (mk.map Mk.d)) := (fldD_e _ _ _).trans (by
  unfold sigF
  rw [fld_ne _ _ (by decide +kernel), fld_ne _ _ (by decide +kernel), fld_eq])
theorem sf_gv : fldD "Signature" "is_giving" (sigD p pl mk) = some (.bool (givB mk)) := (fldD_e _ _ _).trans (by
  unfold sigF
  rw [fld_ne _ _ (by decide +kernel), fld_ne _ _ (by decide +kernel), fld_ne _ _ (by decide +kernel), fld_ne _ _ (by decide +kernel), fld_ne _ _ (by decide +kernel), fld_ne _ _ (by decide +kernel), fld_ne _ _ (by decide +kernel), fld_ne _ _ (by decide +kernel), fld_eq])
theorem sf_not {m : Str} (h : ∀ f ∈ [("hall" : Str), "places", "marks", "takes", "under", "writes", "gives", "shares", "is_giving"], f ≠ m) : fldF m (sigF p pl mk) = none := by
  unfold sigF
  rw [fld_ne _ _ (h _ (by simp)), fld_ne _ _ (h _ (by simp)), fld_ne _ _ (h _ (by simp)), fld_ne _ _ (h _ (by simp)), fld_ne _ _ (h _ (by simp)), fld_ne _ _ (h _ (by simp)), fld_ne _ _ (h _ (by simp)), fld_ne _ _ (h _ (by simp)), fld_ne _ _ (h _ (by simp)), fld_no]
theorem sm_alike (n : Nat) (φ : Co Rv) (r : Co Ar) (ρ : Sto) : metK "Signature" "alike" n φ r (sigD p pl mk) ρ = (r ρ).bind fun xs ρ2 => runC n φ (.inl (sigD p pl mk) :: xs) ρ2 := metK_e (sf_not (by decide +kernel)) n φ r ρ
theorem sm_within (n : Nat) (φ : Co Rv) (r : Co Ar) (ρ : Sto) : metK "Signature" "within" n φ r (sigD p pl mk) ρ = (r ρ).bind fun xs ρ2 => runC n φ (.inl (sigD p pl mk) :: xs) ρ2 := metK_e (sf_not (by decide +kernel)) n φ r ρ
theorem sm_kept (n : Nat) (φ : Co Rv) (r : Co Ar) (ρ : Sto) : metK "Signature" "_kept_to" n φ r (sigD p pl mk) ρ = (r ρ).bind fun xs ρ2 => runC n φ (.inl (sigD p pl mk) :: xs) ρ2 := metK_e (sf_not (by decide +kernel)) n φ r ρ
theorem bc_hall : bothC "Hall" (hallD p) (hallD p) = true := by
  show (some ("Hall" : Str) == some "Hall" && some ("Hall" : Str) == some "Hall") = true
  simp
theorem cls_sig : (clsD (sigD p pl mk) == some ("Signature" : Str)) = true := by
  show (some ("Signature" : Str) == some "Signature") = true
  simp
theorem isi_h : isiD none isi_Hall (hallD p) = some true := by
  show List.lookup ("Hall" : Str) isi_Hall = some true
  decide +kernel
theorem isi_s : isiD none isi_Signature (sigD p pl mk) = some true := by
  show List.lookup ("Signature" : Str) isi_Signature = some true
  decide +kernel
theorem eqT_nm (l : List Nam) : cmp2 .eq (.tuple (l.map nmD)) (.tuple (l.map nmD)) = some true := (cNm.eqT l l).trans (congrArg some (decide_eq_true rfl))
theorem eqT_rw (l : List Hs.Row) : cmp2 .eq (.tuple (l.map Hs.Row.d)) (.tuple (l.map Hs.Row.d)) = some true := (cRow.eqT l l).trans (congrArg some (decide_eq_true rfl))
theorem eq_bb (a b : Bool) : cmp2 .eq (.bool a) (.bool b) = some (decide (a = b)) := by cases a <;> cases b <;> rfl
theorem r_heq (ρ : Sto) : runC 2 m_Hall_eq [.inl (hallD p), .inl (hallD p)] ρ = .ok (.sh (.bool true)) ρ := by
  refine run_ok (ds := [hallD p, hallD p]) (ps := [.un, .un]) rfl ?_ rfl
  have hb : b_Hall_eq [.sh (hallD p), .sh (hallD p)] = .ok (.rt (.sh (.bool true))) [.sh (hallD p), .sh (hallD p)] := by
    unfold b_Hall_eq
    simp_all! [isi_h, hd_loc, eqT_nm, hd_des, eqT_rw]
  unfold m_Hall_eq
  exact fn_rt (n := 2) (N := 2) (as := [.sh (hallD p), .sh (hallD p)]) hb (by simp)
theorem r_alike (ρ : Sto) : runC 2 m_Signature_alike [.inl (sigD p pl mk), .inl (sigD p pl nk)] ρ = .ok (.sh (.bool (decide (givB mk = givB nk)))) ρ := by
  refine run_ok (ds := [sigD p pl mk, sigD p pl nk]) (ps := [.un, .un]) rfl ?_ rfl
  have hb : b_Signature_alike [.sh (sigD p pl mk), .sh (sigD p pl nk), .un] = .ok (.rt (.sh (.bool (decide (givB mk = givB nk))))) [.sh (sigD p pl mk), .sh (sigD p pl nk), .sh (.bool true)] := by
    unfold b_Signature_alike
    simp_all! [sf_hall, bc_hall, r_heq, sf_pl, eqT_nm, sf_gv, eq_bb]
  unfold m_Signature_alike
  exact fn_rt (n := 2) (N := 3) (as := [.sh (sigD p pl mk), .sh (sigD p pl nk)]) hb (by simp)
theorem inT_mk (x : Mk) (l : List Mk) : cmp2 .inn x.d (.tuple (l.map Mk.d)) = some (decide (x ∈ l)) := (cMk.inT x l).trans (congrArg some (decide_eq_decide.mpr Iff.rfl))
theorem r_contains {m : Mk} (h : Mk.ok m) (ρ : Sto) : runC 2 m_Signature_contains [.inl (sigD p pl mk), .inl m.d] ρ = .ok (.sh (.bool (decide (m ∈ mk)))) ρ := by
  refine run_ok (ds := [sigD p pl mk, m.d]) (ps := [.un, .un]) rfl ?_ rfl
  have e := r_is_mark m h
  have hb : b_Signature_contains [.sh (sigD p pl mk), .sh m.d] = .ok (.rt (.sh (.bool (decide (m ∈ mk))))) [.sh (sigD p pl mk), .sh m.d] := by
    unfold b_Signature_contains
    simp_all! [e, sf_mk, inT_mk]
  unfold m_Signature_contains
  exact fn_rt (n := 2) (N := 2) (as := [.sh (sigD p pl mk), .sh m.d]) hb (by simp)
/-- mk is within nk -/
def withB (mk nk : List Mk) : Bool := decide (givB mk = givB nk) && mk.all fun x => decide (x ∈ nk)
theorem r_within (hl : mk.length ≤ 100) (ρ : Sto) : runC 2 m_Signature_within [.inl (sigD p pl mk), .inl (sigD p pl nk)] ρ = .ok (.sh (.bool (withB mk nk))) ρ := by
  refine run_ok (ds := [sigD p pl mk, sigD p pl nk]) (ps := [.un, .un]) rfl ?_ rfl
  have c1 : cLc [2] (bNm 2) (cO (cFz (cAtt "Signature" "marks" (cFz (cVar 0)))) itM) cYes (cFz (cCm .inn (cFz (cVar 2)) (cFz (cAtt "Signature" "marks" (cFz (cVar 1)))))) [.sh (sigD p pl mk), .sh (sigD p pl nk), .un] = .ok (.ow (.lst (mk.map fun x => .bool (decide (x ∈ nk))))) [.sh (sigD p pl mk), .sh (sigD p pl nk), .un] := by
    refine cLc_yes Mk.d _ (ρ1 := [.sh (sigD p pl mk), .sh (sigD p pl nk), .un]) ?_ rfl rfl (line_le (by omega)) fun x hx => ⟨[.sh (sigD p pl mk), .sh (sigD p pl nk), .sh x.d], [.sh (sigD p pl mk), .sh (sigD p pl nk), .sh x.d], rfl, ?_, rfl, rfl⟩
    · simp_all! [sf_mk]
    · simp_all! [sf_mk, inT_mk]
  have c2 := all_map (fun x => decide (x ∈ nk)) mk
  have hb : b_Signature_within [.sh (sigD p pl mk), .sh (sigD p pl nk), .un] = .ok (.rt (.sh (.bool (withB mk nk)))) [.sh (sigD p pl mk), .sh (sigD p pl nk), .un] := by
    unfold b_Signature_within withB
    cases hd : decide (givB mk = givB nk) with
    | false => simp_all! [sm_alike, r_alike, hd, Bool.false_and]
    | true => simp_all! [sm_alike, r_alike, hd, Bool.true_and, c1, c2]
  unfold m_Signature_within
  exact fn_rt (n := 2) (N := 3) (as := [.sh (sigD p pl mk), .sh (sigD p pl nk)]) hb (by simp)
theorem any_giv : ∀ l : List Mk, (l.any fun m => decide (m.w = ("gives" : Str))) = givB l
  | [] => rfl
  | m :: l => by
    unfold givB wordT
    rw [List.any_cons, any_giv l]
    cases h : decide (m.w = ("gives" : Str)) with
    | false =>
      rw [List.filter_cons_of_neg (by rw [h]; intro z; cases z)]
      rfl
    | true =>
      rw [List.filter_cons_of_pos (p := fun m : Hs.Mk => decide (m.w = ("gives" : Str))) h, List.length_cons]
      exact (decide_eq_true (by omega)).symm
/-- what _kept_to answers -/
def keptR (p : Pt) (pl : List Nam) (mk ms : List Mk) (ρ : Sto) : Out Rv := if (givB mk && !givB ms) = true then .er ⟨"Unlike", []⟩ ρ else .ok (.ow (.obj "Signature" (sigF p pl (told p pl.length ms)))) ρ
theorem As_t (ds : List D) (r : Co Ar) (a : Co D) (ρ ρ1 : Sto) (h : a ρ = .ok (.tuple ds) ρ1) : cAs a r ρ = (r ρ1).bind fun xs ρ2 => .ok (ds.map .inl ++ xs) ρ2 := by
  rw [e_As, h]
  rfl
theorem r_kept (F : Fit p pl ms) (ρ : Sto) : runC 2 m_Signature_kept_to [.inl (sigD p pl mk), .inl (.list (ms.map Mk.d))] ρ = keptR p pl mk ms ρ := by
  have c1 : cLc [2] (bNm 2) (cO (cFz (cVar 1)) itM) cYes (cFz (cCm .eq (cFz (cIdx (cFz (cVar 2)) (cFz (cD (.int 0))))) (cFz (cD (.str "gives"))))) [.sh (sigD p pl mk), .sh (.list (ms.map Mk.d)), .un] = .ok (.ow (.lst (ms.map fun m => .bool (decide (m.w = ("gives" : Str)))))) [.sh (sigD p pl mk), .sh (.list (ms.map Mk.d)), .un] := by
    refine cLc_yes Mk.d _ (ρ1 := [.sh (sigD p pl mk), .sh (.list (ms.map Mk.d)), .un]) ?_ rfl rfl (line_le (Nat.le_trans F.len (by omega))) fun x hx => ⟨[.sh (sigD p pl mk), .sh (.list (ms.map Mk.d)), .sh x.d], [.sh (sigD p pl mk), .sh (.list (ms.map Mk.d)), .sh x.d], rfl, ?_, rfl, rfl⟩
    · simp_all! []
    · simp_all! [ix_w]
  have c2 := any_map (fun m : Hs.Mk => decide (m.w = ("gives" : Str))) ms
  rw [any_giv] at c2
  have as : cAs (cFz (cAtt "Signature" "places" (cFz (cVar 0)))) cA0 [.sh (sigD p pl mk), .sh (.list (ms.map Mk.d)), .un] = .ok ((pl.map nmD).map .inl) [.sh (sigD p pl mk), .sh (.list (ms.map Mk.d)), .un] := by
    rw [As_t (pl.map nmD) _ _ _ [.sh (sigD p pl mk), .sh (.list (ms.map Mk.d)), .un] (by simp_all! [sf_pl])]
    simp_all! [List.append_nil]
  have mk1 := r_make F
  cases hg : givB mk && !givB ms with
  | true =>
    rw [Bool.and_eq_true, Bool.not_eq_true'] at hg
    have e : keptR p pl mk ms ρ = .er ⟨"Unlike", []⟩ ρ := if_pos (by rw [hg.1, hg.2]; rfl)
    rw [e]
    refine run_er (ds := [sigD p pl mk, .list (ms.map Mk.d)]) (ps := [.un, .un]) rfl ?_ rfl
    have hb : b_Signature_kept_to [.sh (sigD p pl mk), .sh (.list (ms.map Mk.d)), .un] = .er ⟨"Unlike", []⟩ [.sh (sigD p pl mk), .sh (.list (ms.map Mk.d)), .un] := by
      unfold b_Signature_kept_to
      simp_all! [sf_gv, hg.1, c1, c2, hg.2]
    unfold m_Signature_kept_to
    exact fn_er (n := 2) (N := 3) (as := [.sh (sigD p pl mk), .sh (.list (ms.map Mk.d))]) hb (by simp)
  | false =>
    have e : keptR p pl mk ms ρ = .ok (.ow (.obj "Signature" (sigF p pl (told p pl.length ms)))) ρ := if_neg (by rw [hg]; intro z; cases z)
    rw [e]
    refine run_ok (ds := [sigD p pl mk, .list (ms.map Mk.d)]) (ps := [.un, .un]) rfl ?_ rfl
    have hb : b_Signature_kept_to [.sh (sigD p pl mk), .sh (.list (ms.map Mk.d)), .un] = .ok (.rt (.ow (.obj "Signature" (sigF p pl (told p pl.length ms))))) [.sh (sigD p pl mk), .sh (.list (ms.map Mk.d)), .un] := by
      unfold b_Signature_kept_to
      cases h1 : givB mk with
      | false => simp_all! [sf_gv, h1, as, sf_hall, mk1]
      | true =>
        have h2 : givB ms = true := by
          rw [h1] at hg
          cases h3 : givB ms with
          | true => rfl
          | false => rw [h3] at hg; cases hg
        simp_all! [sf_gv, h1, c1, c2, h2, as, sf_hall, mk1]
    unfold m_Signature_kept_to
    exact fn_rt (n := 2) (N := 3) (as := [.sh (sigD p pl mk), .sh (.list (ms.map Mk.d))]) hb (by simp)
end
end K05
/-! Dt7: a signature without a mark. -/
namespace K05
open PySem PySem.Spec PyProof.Rows L2 Md Nm Hs
local macro_rules | `(tactic| simp_all! [$ls,*]) => `(tactic| simp -implicitDefEqProofs only [bind_ok', bind_er', selK_t, selK_f, e_fz, e_sh, e_O, optO_s, e_2, e_3, e_var, vS_sh, vS_ow, e_D, e_seq, seqK_nx, seqK_rt, seqK_ct, seqK_bk, e_if, okK_e, e_andT, e_orT, e_notT, e_tru, e_tst, boolD_s, e_and, andK_t, andK_f, e_or, orK_t, orK_f, tru_b, e_cm, e_chn, chK_t, chK_f, e_isN, e_idx, e_isi, e_nil, e_cons, e_tup, e_lst, e_ret, e_nx, e_ex, e_set, e_setSl, sS_un, sS_sh, sS_ow, setRv_sh, setRv_ow, oNx_s, toD_sh, toD_lst, toD_obj, muD_lst, muD_obj, e_par, parK_e, e_noP, e_smP, e_sl, e_not, e_A0, e_Av, e_call, List.getElem?_cons_zero, List.getElem?_cons_succ, List.set_cons_zero, List.set_cons_succ, Option.map_some, Option.map_none, Option.bind_some, Bool.not_true, Bool.not_false, e_att, e_met, e_eqO, boolR_e, notR_e, e_inOp, e_niOp, e_opT, e_put, e_atO, atoK_e, e_rai0, e_makV, e_borT, borK_e, fz_un, fz_sh, List.map_cons, List.map_nil, e_mov, movK_sh, movK_ow, e_asg, fldD_e, clsD_e, e_for, ix0, ix1, ix2, il0, il1, il2, ln_t, ln_l, tup_l, tup_t, list_l, list_t, it_l, it_t, gt_ii, ge_ii, lt_ii, le_ii, eq_ss, ne_ss, eq_ii, ne_ii, eb_nm, asInt, sl1, sl2, nmD_e, dself, dselfi, decide_true, decide_false, len1, len2, len3, n_dec, t_tu, t_tw, t_tg, t_ts, t_ut, t_uw, t_ug, t_us, t_wt, t_wu, t_wg, t_ws, t_gt, t_gu, t_gw, t_gs, t_st, t_su, t_sw, t_sg, $ls,*])
theorem name_small {s : Str} (h : isName s = true) : sho1 (.str s) = true := by
  obtain ⟨-, -, l3⟩ := len_line h
  have h2 : ∀ c ∈ s.cps.toList, c < 16 ^ 8 := by
    intro c hc
    have ok := nm_ok h
    have : s.cps.toList.all (· < 0x110000) = true := by rw [Array.all_toList]; exact ok
    have := of_decide_eq_true (List.all_eq_true.mp this c hc)
    omega
  have h3 := PySem.StrLaws.reprText_len s h2
  show (decide ((reprText s).length ≤ 1000) && decide (s.length ≤ 1000)) = true
  rw [decide_eq_true (by omega), decide_eq_true (by omega)]
  rfl
def _root_.Hs.Mk.sm : Mk → Prop
  | .shares n => n ≤ 10
  | _ => True
theorem sho_M (m : Mk) (h : m.sm) : shoD m.d = true := by
  have e : ∀ a : Nam, sho1 (.str a.1) = true := fun a => name_small a.2
  have t1 : sho1 (.str "takes") = true := by decide +kernel
  have t2 : sho1 (.str "under") = true := by decide +kernel
  have t3 : sho1 (.str "writes") = true := by decide +kernel
  have t4 : sho1 (.str "gives") = true := by decide +kernel
  have t5 : sho1 (.str "shares") = true := by decide +kernel
  cases m with
  | takes l => show (decide (2 ≤ 10) && (sho1 (.str "takes") && (sho1 (.str l.1) && true))) = true; rw [e, t1]; rfl
  | under a b => show (decide (3 ≤ 10) && (sho1 (.str "under") && (sho1 (.str a.1) && (sho1 (.str b.1) && true)))) = true; rw [e, e, t2]; rfl
  | writes a b => show (decide (3 ≤ 10) && (sho1 (.str "writes") && (sho1 (.str a.1) && (sho1 (.str b.1) && true)))) = true; rw [e, e, t3]; rfl
  | gives l => show (decide (2 ≤ 10) && (sho1 (.str "gives") && (sho1 (.str l.1) && true))) = true; rw [e, t4]; rfl
  | shares n =>
    have h : n ≤ 10 := h
    have t6 : sho1 (.int (n : Int)) = true := by
      show decide ((n : Int).natAbs.log2 < 1920) = true
      have key : ∀ k : Nat, k ≤ 10 → decide ((k : Int).natAbs.log2 < 1920) = true := by decide
      exact key n h
    show (decide (2 ≤ 10) && (sho1 (.str "shares") && (sho1 (.int (n : Int)) && true))) = true
    rw [t5, t6]
    rfl
section
variable {p : Pt} {pl : List Nam} {ms mk nk : List Mk} {m : Mk}
/-- what is left of mk without m -/
def left (p : Pt) (pl : List Nam) (mk : List Mk) (m : Mk) : List Mk := (mk.filter fun x => !decide (x = m)).filter fun x => !decide (m ∈ needs p pl x)
theorem needs_takes {x n : Mk} (h : n ∈ needs p pl x) : ∃ l, n = .takes l := by
  cases x with
  | takes => cases h
  | shares => cases h
  | under a b =>
    rcases List.mem_cons.mp h with rfl | h
    · exact ⟨_, rfl⟩
    · rcases List.mem_cons.mp h with rfl | h
      · exact ⟨_, rfl⟩
      · cases h
  | gives a =>
    rcases List.mem_cons.mp h with rfl | h
    · exact ⟨_, rfl⟩
    · cases h
  | writes k f =>
    have h : n ∈ (if k ∈ pl then [] else (p.guard k).toList.map Mk.takes) := h
    by_cases hk : k ∈ pl
    · rw [if_pos hk] at h; cases h
    · rw [if_neg hk] at h
      obtain ⟨l, -, rfl⟩ := List.mem_map.mp h
      exact ⟨l, rfl⟩
theorem Fit.left (F : Fit p pl mk) (m : Mk) : Fit p pl (left p pl mk m) := by
  have sub : ∀ x ∈ K05.left p pl mk m, x ∈ mk ∧ x ≠ m ∧ m ∉ needs p pl x := fun x hx => by
    unfold K05.left at hx
    simp only [List.mem_filter, Bool.not_eq_true', decide_eq_false_iff_not] at hx
    exact ⟨hx.1.1, hx.1.2, hx.2⟩
  refine ⟨F.sz, F.pl3, F.plk, Nat.le_trans (Nat.le_trans (List.length_filter_le _ _) (List.length_filter_le _ _)) F.len, fun x hx => F.mem x (sub x hx).1, fun x hx n hn => ?_⟩
  obtain ⟨h1, h2, h3⟩ := sub x hx
  have h4 := F.clo x h1 n hn
  unfold K05.left
  simp only [List.mem_filter, Bool.not_eq_true', decide_eq_false_iff_not]
  refine ⟨⟨h4, fun e => h3 (e ▸ hn)⟩, fun h5 => ?_⟩
  obtain ⟨l, rfl⟩ := needs_takes hn
  cases h5
theorem ne_mk (x y : Mk) : cmp2 .ne x.d y.d = some (!decide (x = y)) := (cMk.ne x y).trans (congrArg (fun b => some (!b)) (decide_eq_decide.mpr Iff.rfl))
theorem selK_sig {α : Type} (a b : Co α) (ρ : Sto) : selK (clsD (sigD p pl mk) == some ("Signature" : Str)) a b ρ = a ρ := by
  rw [cls_sig]
  rfl
theorem r_sub_no (hm : Mk.ok m) (hs : m.sm) (h : m ∉ mk) (ρ : Sto) : runC 2 m_Signature_sub [.inl (sigD p pl mk), .inl m.d] ρ = .er ⟨"NoSuch", [(.str "name", m.d)]⟩ ρ := by
  refine run_er (ds := [sigD p pl mk, m.d]) (ps := [.un, .un]) rfl ?_ rfl
  have rc := r_contains (p := p) (pl := pl) (mk := mk) hm
  rw [decide_eq_false h] at rc
  have sh := sho_M m hs
  have e1 : (decide (([m.d] : List D).length = fn_NoSuch.length) && ([m.d] : List D).all shoD) = true := by
    show (true && (shoD m.d && true)) = true
    rw [sh]
    rfl
  have hb : b_Signature_sub [.sh (sigD p pl mk), .sh m.d, .un, .un] = .er ⟨"NoSuch", [(.str "name", m.d)]⟩ [.sh (sigD p pl mk), .sh m.d, .un, .un] := by
    unfold b_Signature_sub
    simp_all! [cls_sig, rc, e_rai, e1]
    rfl
  unfold m_Signature_sub
  exact fn_er (n := 2) (N := 4) (as := [.sh (sigD p pl mk), .sh m.d]) hb (by simp)
theorem r_sub (F : Fit p pl mk) (hm : Mk.ok m) (h : m ∈ mk) (ρ : Sto) : runC 2 m_Signature_sub [.inl (sigD p pl mk), .inl m.d] ρ = keptR p pl mk (left p pl mk m) ρ := by
  have rc := r_contains (p := p) (pl := pl) (mk := mk) hm
  rw [decide_eq_true h] at rc
  have c1 : cLc [3] (bNm 3) (cO (cFz (cAtt "Signature" "marks" (cFz (cVar 0)))) itM) (cTst (cCm .ne (cFz (cVar 3)) (cFz (cVar 1)))) (cFz (cVar 3)) [.sh (sigD p pl mk), .sh m.d, .un, .un] = .ok (.ow (.lst ((mk.filter fun x => !decide (x = m)).map Mk.d))) [.sh (sigD p pl mk), .sh m.d, .un, .un] := by
    refine cLc_map Mk.d (fun x => !decide (x = m)) _ (ρ1 := [.sh (sigD p pl mk), .sh m.d, .un, .un]) ?_ rfl rfl (line_le (Nat.le_trans F.len (by omega))) fun x hx => ⟨[.sh (sigD p pl mk), .sh m.d, .un, .sh x.d], [.sh (sigD p pl mk), .sh m.d, .un, .sh x.d], rfl, ?_, rfl, fun _ => ⟨[.sh (sigD p pl mk), .sh m.d, .un, .sh x.d], ?_, rfl⟩⟩
    · simp_all! [sf_mk]
    · simp_all! [ne_mk]
    · simp_all! []
  have c2 : cLc [3] (bNm 3) (cO (cFz (cVar 2)) itM) (cTst (cCm .nin (cFz (cVar 1)) (cFz (cCall 3 m_needed_marks (cAv (cFz (cAtt "Signature" "hall" (cFz (cVar 0)))) (cAv (cFz (cAtt "Signature" "places" (cFz (cVar 0)))) (cAv (cFz (cVar 3)) cA0))))))) (cFz (cVar 3)) [.sh (sigD p pl mk), .sh m.d, .ow false (.lst ((mk.filter fun x => !decide (x = m)).map Mk.d)), .un] = .ok (.ow (.lst ((left p pl mk m).map Mk.d))) [.sh (sigD p pl mk), .sh m.d, .sh (.list ((mk.filter fun x => !decide (x = m)).map Mk.d)), .un] := by
    refine cLc_map Mk.d (fun x => !decide (m ∈ needs p pl x)) _ (ρ1 := [.sh (sigD p pl mk), .sh m.d, .sh (.list ((mk.filter fun x => !decide (x = m)).map Mk.d)), .un]) ?_ rfl rfl (line_le (Nat.le_trans (Nat.le_trans (List.length_filter_le _ _) F.len) (by omega))) fun x hx => ⟨[.sh (sigD p pl mk), .sh m.d, .sh (.list ((mk.filter fun x => !decide (x = m)).map Mk.d)), .sh x.d], [.sh (sigD p pl mk), .sh m.d, .sh (.list ((mk.filter fun x => !decide (x = m)).map Mk.d)), .sh x.d], rfl, ?_, rfl, fun _ => ⟨[.sh (sigD p pl mk), .sh m.d, .sh (.list ((mk.filter fun x => !decide (x = m)).map Mk.d)), .sh x.d], ?_, rfl⟩⟩
    · simp_all! []
    · have h := r_needed (pl := pl) x (mem_allM (F.mem x (List.mem_filter.mp hx).1)).2
      simp_all! [sf_hall, sf_pl, h, ni_mk]
    · simp_all! []
  have rk := r_kept (mk := mk) (F.left m)
  unfold keptR at rk ⊢
  by_cases hg : (givB mk && !givB (left p pl mk m)) = true
  · have rk : ∀ ρ, runC 2 m_Signature_kept_to [.inl (sigD p pl mk), .inl (.list ((left p pl mk m).map Mk.d))] ρ = .er ⟨"Unlike", []⟩ ρ := fun ρ => (rk ρ).trans (if_pos hg)
    rw [if_pos hg]
    refine run_er (ds := [sigD p pl mk, m.d]) (ps := [.un, .un]) rfl ?_ rfl
    have hb : b_Signature_sub [.sh (sigD p pl mk), .sh m.d, .un, .un] = .er ⟨"Unlike", []⟩ [.sh (sigD p pl mk), .sh m.d, .sh (.list ((mk.filter fun x => !decide (x = m)).map Mk.d)), .un] := by
      unfold b_Signature_sub
      simp_all! [cls_sig, rc, c1, sm_kept, c2, rk]
    unfold m_Signature_sub
    exact fn_er (n := 2) (N := 4) (as := [.sh (sigD p pl mk), .sh m.d]) hb (by simp)
  · have rk : ∀ ρ, runC 2 m_Signature_kept_to [.inl (sigD p pl mk), .inl (.list ((left p pl mk m).map Mk.d))] ρ = .ok (.ow (.obj "Signature" (sigF p pl (told p pl.length (left p pl mk m))))) ρ := fun ρ => (rk ρ).trans (if_neg hg)
    rw [if_neg hg]
    refine run_ok (ds := [sigD p pl mk, m.d]) (ps := [.un, .un]) rfl ?_ rfl
    have hb : b_Signature_sub [.sh (sigD p pl mk), .sh m.d, .un, .un] = .ok (.rt (.ow (.obj "Signature" (sigF p pl (told p pl.length (left p pl mk m)))))) [.sh (sigD p pl mk), .sh m.d, .sh (.list ((mk.filter fun x => !decide (x = m)).map Mk.d)), .un] := by
      unfold b_Signature_sub
      simp_all! [cls_sig, rc, c1, sm_kept, c2, rk]
    unfold m_Signature_sub
    exact fn_rt (n := 2) (N := 4) (as := [.sh (sigD p pl mk), .sh m.d]) hb (by simp)
end
end K05
/-! Dt8: the law's own account of marks. -/
namespace K05
open PySem PySem.Spec PyProof.Rows L2 Md Nm Hs
local macro_rules | `(tactic| simp_all! [$ls,*]) => `(tactic| simp -implicitDefEqProofs only [bind_ok', bind_er', selK_t, selK_f, e_fz, e_sh, e_O, optO_s, e_2, e_3, e_var, vS_sh, vS_ow, e_D, e_seq, seqK_nx, seqK_rt, seqK_ct, seqK_bk, e_if, okK_e, e_andT, e_orT, e_notT, e_tru, e_tst, boolD_s, e_and, andK_t, andK_f, e_or, orK_t, orK_f, tru_b, e_cm, e_chn, chK_t, chK_f, e_isN, e_idx, e_isi, e_nil, e_cons, e_tup, e_lst, e_ret, e_nx, e_ex, e_set, e_setSl, sS_un, sS_sh, sS_ow, setRv_sh, setRv_ow, oNx_s, toD_sh, toD_lst, toD_obj, muD_lst, muD_obj, e_par, parK_e, e_noP, e_smP, e_sl, e_not, e_A0, e_Av, e_call, List.getElem?_cons_zero, List.getElem?_cons_succ, List.set_cons_zero, List.set_cons_succ, Option.map_some, Option.map_none, Option.bind_some, Bool.not_true, Bool.not_false, e_att, e_met, e_eqO, boolR_e, notR_e, e_inOp, e_niOp, e_opT, e_put, e_atO, atoK_e, e_rai0, e_makV, e_borT, borK_e, fz_un, fz_sh, List.map_cons, List.map_nil, e_mov, movK_sh, movK_ow, e_asg, fldD_e, clsD_e, e_for, ix0, ix1, ix2, il0, il1, il2, ln_t, ln_l, tup_l, tup_t, list_l, list_t, it_l, it_t, gt_ii, ge_ii, lt_ii, le_ii, eq_ss, ne_ss, eq_ii, ne_ii, eb_nm, asInt, sl1, sl2, nmD_e, dself, dselfi, decide_true, decide_false, len1, len2, len3, n_dec, t_tu, t_tw, t_tg, t_ts, t_ut, t_uw, t_ug, t_us, t_wt, t_wu, t_wg, t_ws, t_gt, t_gu, t_gw, t_gs, t_st, t_su, t_sw, t_sg, $ls,*])
def partsD (p : Pt) : D := .list [.list (p.ls.map nmD), .list (p.rs.map Hs.Row.d)]
theorem pa0 (p : Pt) : idxD (partsD p) (.int 0) = some (.list (p.ls.map nmD)) := at0 _ _
theorem pa1 (p : Pt) : idxD (partsD p) (.int 1) = some (.list (p.rs.map Hs.Row.d)) := at1 _ _ _
def SlF (s : Sl) : Prop := s = .un ∨ ∃ d, s = .sh d
theorem n_dec' (a b : Nam) : decide (a = b) = decide (b = a) := decide_eq_decide.mpr eq_comm
section
variable {p : Pt} {pl : List D}
/-- the store of the account -/
def lm (P L : D) (a v3 v4 : Sl) : Sto := [.sh P, .sh L, a, v3, v4, .un, .un, .un]
def bodyU : Co Fl := cSet 2 (c2 (cFz (cVar 2)) (cFz (cLc [5] (bNm 5) (cO (cFz (cIdx (cFz (cVar 0)) (cFz (cD (.int 0))))) itM) (cTst (cCm .ne (cFz (cVar 5)) (cFz (cVar 3)))) (cFz (cTup (cCons (cFz (cD (.str "under"))) (cCons (cFz (cVar 3)) (cCons (cFz (cVar 5)) cNil))))))) (op2 .add))
def undOf (p : Pt) (a : Nam) : List Mk := (p.ls.filter fun b => !decide (a = b)).map fun b => Mk.under a b
theorem loopU (hz : p.Sz) (v4 : Sl) : ∀ (r : List Nam) (acc : List Mk) (v3 : Sl), SlF v3 → acc.length + r.length * 4 ≤ 100 →
    ∃ v3', SlF v3' ∧ forL (bNm 3) bodyU (r.map nmD) (lm (partsD p) (.list pl) (.ow false (.lst (acc.map Mk.d))) v3 v4) = .ok .nx (lm (partsD p) (.list pl) (.ow false (.lst ((acc ++ r.flatMap (undOf p)).map Mk.d))) v3' v4)
  | [], acc, v3, h3, _ => ⟨v3, h3, by rw [List.flatMap_nil, List.append_nil]; rfl⟩
  | a :: r, acc, v3, h3, hl => by
    have hs := hz.ls
    rw [List.length_cons] at hl
    have hu : (undOf p a).length ≤ 4 := by
      unfold undOf
      rw [List.length_map]
      exact Nat.le_trans (List.length_filter_le _ _) hs
    obtain ⟨v3', k3, ih⟩ := loopU hz v4 r (acc ++ undOf p a) (.sh (nmD a)) (.inr ⟨_, rfl⟩) (by rw [List.length_append]; omega)
    refine ⟨v3', k3, ?_⟩
    have e1 : bNm 3 (nmD a) (lm (partsD p) (.list pl) (.ow false (.lst (acc.map Mk.d))) v3 v4) = some (lm (partsD p) (.list pl) (.ow false (.lst (acc.map Mk.d))) (.sh (nmD a)) v4) := by rcases h3 with rfl | ⟨d, rfl⟩ <;> rfl
    have c1 : cLc [5] (bNm 5) (cO (cFz (cIdx (cFz (cVar 0)) (cFz (cD (.int 0))))) itM) (cTst (cCm .ne (cFz (cVar 5)) (cFz (cVar 3)))) (cFz (cTup (cCons (cFz (cD (.str "under"))) (cCons (cFz (cVar 3)) (cCons (cFz (cVar 5)) cNil))))) (lm (partsD p) (.list pl) (.sh (.list (acc.map Mk.d))) (.sh (nmD a)) v4) = .ok (.ow (.lst ((undOf p a).map Mk.d))) (lm (partsD p) (.list pl) (.sh (.list (acc.map Mk.d))) (.sh (nmD a)) v4) := by
      have e : (undOf p a).map Mk.d = (p.ls.filter fun b => !decide (a = b)).map fun b => (Mk.under a b).d := by
        unfold undOf
        simp only [List.map_map, Function.comp_def]
      rw [e]
      refine cLc_map nmD (fun b => !decide (a = b)) _ (ρ1 := lm (partsD p) (.list pl) (.sh (.list (acc.map Mk.d))) (.sh (nmD a)) v4) ?_ rfl rfl (line_le (by omega)) fun x hx => ⟨[.sh (partsD p), .sh (.list pl), .sh (.list (acc.map Mk.d)), .sh (nmD a), v4, .sh (nmD x), .un, .un], [.sh (partsD p), .sh (.list pl), .sh (.list (acc.map Mk.d)), .sh (nmD a), v4, .sh (nmD x), .un, .un], rfl, ?_, rfl, fun _ => ⟨[.sh (partsD p), .sh (.list pl), .sh (.list (acc.map Mk.d)), .sh (nmD a), v4, .sh (nmD x), .un, .un], ?_, rfl⟩⟩
      · unfold lm; simp_all! [pa0]
      · have h := n_dec' x a
        simp_all! [h]
      · simp_all! [tu3, Mk.d]
    have a1 := add_l (acc.map Mk.d) ((undOf p a).map Mk.d) (by simp only [List.length_map]; omega)
    have e2 : bodyU (lm (partsD p) (.list pl) (.ow false (.lst (acc.map Mk.d))) (.sh (nmD a)) v4) = .ok .nx (lm (partsD p) (.list pl) (.ow false (.lst ((acc ++ undOf p a).map Mk.d))) (.sh (nmD a)) v4) := by
      rw [List.map_append]
      unfold bodyU
      unfold lm at c1 ⊢
      generalize (undOf p a).map Mk.d = U at c1 a1 ⊢
      generalize acc.map Mk.d = A at c1 a1 ⊢
      rw [nmD_e] at c1 ⊢
      simp_all! [c1, a1]
    rw [List.map_cons, forL_cons e1 e2, List.flatMap_cons, ← List.append_assoc]
    exact ih
def bodyW : Co Fl := cSet 2 (c2 (cFz (cVar 2)) (cFz (cLc [7] (bNm 7) (cO (cFz (cSl (cFz (cVar 4)) (cSmP (cFz (cD (.int 2)))) cNoP)) itM) cYes (cFz (cTup (cCons (cFz (cD (.str "writes"))) (cCons (cFz (cIdx (cFz (cVar 4)) (cFz (cD (.int 0))))) (cCons (cFz (cVar 7)) cNil))))))) (op2 .add))
def wriOf (r : Hs.Row) : List Mk := r.fs.map fun f => Mk.writes r.k f
theorem loopW (v3 : Sl) : ∀ (r : List Hs.Row) (acc : List Mk) (v4 : Sl), SlF v4 → (∀ q ∈ r, q.fs.length ≤ 2) → acc.length + r.length * 2 ≤ 100 →
    ∃ v4', SlF v4' ∧ forL (bNm 4) bodyW (r.map Hs.Row.d) (lm (partsD p) (.list pl) (.ow false (.lst (acc.map Mk.d))) v3 v4) = .ok .nx (lm (partsD p) (.list pl) (.ow false (.lst ((acc ++ r.flatMap wriOf).map Mk.d))) v3 v4')
  | [], acc, v4, h4, _, _ => ⟨v4, h4, by rw [List.flatMap_nil, List.append_nil]; rfl⟩
  | a :: r, acc, v4, h4, hq, hl => by
    have hs := hq a List.mem_cons_self
    rw [List.length_cons] at hl
    have hu : (wriOf a).length ≤ 2 := by
      unfold wriOf
      rw [List.length_map]
      exact hs
    obtain ⟨v4', k4, ih⟩ := loopW v3 r (acc ++ wriOf a) (.sh a.d) (.inr ⟨_, rfl⟩) (fun q m => hq q (List.mem_cons_of_mem _ m)) (by rw [List.length_append]; omega)
    refine ⟨v4', k4, ?_⟩
    have e1 : bNm 4 a.d (lm (partsD p) (.list pl) (.ow false (.lst (acc.map Mk.d))) v3 v4) = some (lm (partsD p) (.list pl) (.ow false (.lst (acc.map Mk.d))) v3 (.sh a.d)) := by rcases h4 with rfl | ⟨d, rfl⟩ <;> rfl
    have c1 : cLc [7] (bNm 7) (cO (cFz (cSl (cFz (cVar 4)) (cSmP (cFz (cD (.int 2)))) cNoP)) itM) cYes (cFz (cTup (cCons (cFz (cD (.str "writes"))) (cCons (cFz (cIdx (cFz (cVar 4)) (cFz (cD (.int 0))))) (cCons (cFz (cVar 7)) cNil))))) (lm (partsD p) (.list pl) (.sh (.list (acc.map Mk.d))) v3 (.sh a.d)) = .ok (.ow (.lst ((wriOf a).map Mk.d))) (lm (partsD p) (.list pl) (.sh (.list (acc.map Mk.d))) v3 (.sh a.d)) := by
      have e : (wriOf a).map Mk.d = a.fs.map fun f => (Mk.writes a.k f).d := by
        unfold wriOf
        simp only [List.map_map, Function.comp_def]
      rw [e]
      refine cLc_yes nmD _ (ρ1 := lm (partsD p) (.list pl) (.sh (.list (acc.map Mk.d))) v3 (.sh a.d)) ?_ rfl rfl (line_le (by omega)) fun x hx => ⟨[.sh (partsD p), .sh (.list pl), .sh (.list (acc.map Mk.d)), v3, .sh a.d, .un, .un, .sh (nmD x)], [.sh (partsD p), .sh (.list pl), .sh (.list (acc.map Mk.d)), v3, .sh a.d, .un, .un, .sh (nmD x)], rfl, ?_, rfl, rfl⟩
      · unfold lm; simp_all! [row_e]
      · simp_all! [tu3, Mk.d, row_e]
    have a1 := add_l (acc.map Mk.d) ((wriOf a).map Mk.d) (by simp only [List.length_map]; omega)
    have e2 : bodyW (lm (partsD p) (.list pl) (.ow false (.lst (acc.map Mk.d))) v3 (.sh a.d)) = .ok .nx (lm (partsD p) (.list pl) (.ow false (.lst ((acc ++ wriOf a).map Mk.d))) v3 (.sh a.d)) := by
      rw [List.map_append]
      unfold bodyW
      unfold lm at c1 ⊢
      generalize (wriOf a).map Mk.d = U at c1 a1 ⊢
      generalize acc.map Mk.d = A at c1 a1 ⊢
      simp_all! [c1, a1]
    rw [List.map_cons, forL_cons e1 e2, List.flatMap_cons, ← List.append_assoc]
    exact ih
end
end K05
/-! Dt9: the law's own account of marks, needs, what is left. -/
namespace K05
open PySem PySem.Spec PyProof.Rows L2 Md Nm Hs
local macro_rules | `(tactic| simp_all! [$ls,*]) => `(tactic| simp -implicitDefEqProofs only [bind_ok', bind_er', selK_t, selK_f, e_fz, e_sh, e_O, optO_s, e_2, e_3, e_var, vS_sh, vS_ow, e_D, e_seq, seqK_nx, seqK_rt, seqK_ct, seqK_bk, e_if, okK_e, e_andT, e_orT, e_notT, e_tru, e_tst, boolD_s, e_and, andK_t, andK_f, e_or, orK_t, orK_f, tru_b, e_cm, e_chn, chK_t, chK_f, e_isN, e_idx, e_isi, e_nil, e_cons, e_tup, e_lst, e_ret, e_nx, e_ex, e_set, e_setSl, sS_un, sS_sh, sS_ow, setRv_sh, setRv_ow, oNx_s, toD_sh, toD_lst, toD_obj, muD_lst, muD_obj, e_par, parK_e, e_noP, e_smP, e_sl, e_not, e_A0, e_Av, e_call, List.getElem?_cons_zero, List.getElem?_cons_succ, List.set_cons_zero, List.set_cons_succ, Option.map_some, Option.map_none, Option.bind_some, Bool.not_true, Bool.not_false, e_att, e_met, e_eqO, boolR_e, notR_e, e_inOp, e_niOp, e_opT, e_put, e_atO, atoK_e, e_rai0, e_makV, e_borT, borK_e, fz_un, fz_sh, List.map_cons, List.map_nil, e_mov, movK_sh, movK_ow, e_asg, fldD_e, clsD_e, e_for, ix0, ix1, ix2, il0, il1, il2, ln_t, ln_l, tup_l, tup_t, list_l, list_t, it_l, it_t, gt_ii, ge_ii, lt_ii, le_ii, eq_ss, ne_ss, eq_ii, ne_ii, eb_nm, asInt, sl1, sl2, nmD_e, dself, dselfi, decide_true, decide_false, len1, len2, len3, n_dec, t_tu, t_tw, t_tg, t_ts, t_ut, t_uw, t_ug, t_us, t_wt, t_wu, t_wg, t_ws, t_gt, t_gu, t_gw, t_gs, t_st, t_su, t_sw, t_sg, $ls,*])
section
variable {p : Pt} {pl : List D}
theorem law_all_ok (hz : p.Sz) (hn : pl.length ≤ 3) (ρ : Sto) : runC 2 m__law_all_marks [.inl (partsD p), .inl (.list pl)] ρ = .ok (.ow (.lst ((allM p pl.length).map Mk.d))) ρ := by
  have hs := hz.so
  have hu := hz.un
  have hl := hz.ls
  have c1 : ∀ (v w u : Sl), cLc [5] (bNm 5) (cO (cFz (cIdx (cFz (cVar 0)) (cFz (cD (.int 0))))) itM) cYes (cFz (cTup (cCons (cFz (cD (.str "takes"))) (cCons (cFz (cVar 5)) cNil)))) [.sh (partsD p), .sh (.list pl), v, w, u, .un, .un, .un] = .ok (.ow (.lst ((p.ls.map Mk.takes).map Mk.d))) [.sh (partsD p), .sh (.list pl), v, w, u, .un, .un, .un] := fun v w u => by
    rw [List.map_map]
    refine cLc_yes nmD _ (ρ1 := [.sh (partsD p), .sh (.list pl), v, w, u, .un, .un, .un]) ?_ rfl rfl (line_le (by omega)) fun x hx => ⟨[.sh (partsD p), .sh (.list pl), v, w, u, .sh (nmD x), .un, .un], [.sh (partsD p), .sh (.list pl), v, w, u, .sh (nmD x), .un, .un], rfl, ?_, rfl, rfl⟩
    · simp_all! [pa0]
    · simp_all! [tu2, Mk.d, Function.comp_def]
  have c4 : ∀ (v w u : Sl), cLc [5] (bNm 5) (cO (cFz (cIdx (cFz (cVar 0)) (cFz (cD (.int 0))))) itM) cYes (cFz (cTup (cCons (cFz (cD (.str "gives"))) (cCons (cFz (cVar 5)) cNil)))) [.sh (partsD p), .sh (.list pl), v, w, u, .un, .un, .un] = .ok (.ow (.lst ((p.ls.map Mk.gives).map Mk.d))) [.sh (partsD p), .sh (.list pl), v, w, u, .un, .un, .un] := fun v w u => by
    rw [List.map_map]
    refine cLc_yes nmD _ (ρ1 := [.sh (partsD p), .sh (.list pl), v, w, u, .un, .un, .un]) ?_ rfl rfl (line_le (by omega)) fun x hx => ⟨[.sh (partsD p), .sh (.list pl), v, w, u, .sh (nmD x), .un, .un], [.sh (partsD p), .sh (.list pl), v, w, u, .sh (nmD x), .un, .un], rfl, ?_, rfl, rfl⟩
    · simp_all! [pa0]
    · simp_all! [tu2, Mk.d, Function.comp_def]
  have c5 : ∀ (v w u : Sl), cLc [6] (bNm 6) (cO (cFz (cO (cFz (cVar 1)) (biD .len))) rngM) cYes (cFz (cTup (cCons (cFz (cD (.str "shares"))) (cCons (cFz (cVar 6)) cNil)))) [.sh (partsD p), .sh (.list pl), v, w, u, .un, .un, .un] = .ok (.ow (.lst (((List.range pl.length).map Mk.shares).map Mk.d))) [.sh (partsD p), .sh (.list pl), v, w, u, .un, .un, .un] := fun v w u => by
    rw [List.map_map]
    refine cLc_yes (fun i : Nat => .int (i : Int)) _ (ρ1 := [.sh (partsD p), .sh (.list pl), v, w, u, .un, .un, .un]) ?_ rfl rfl (by rw [List.length_range]; exact line_le (by omega)) fun x hx => ⟨[.sh (partsD p), .sh (.list pl), v, w, u, .un, .sh (.int x), .un], [.sh (partsD p), .sh (.list pl), v, w, u, .un, .sh (.int x), .un], rfl, ?_, rfl, rfl⟩
    · simp_all! [rng_n _ hn]
    · simp_all! [tu2, Mk.d, Function.comp_def]
  obtain ⟨v3, k3, l3⟩ := loopU (pl := pl) hz .un p.ls (p.ls.map Mk.takes) .un (.inl rfl) (by rw [List.length_map]; omega)
  obtain ⟨v4, k4, l4⟩ := loopW (p := p) (pl := pl) v3 p.rs (p.ls.map Mk.takes ++ p.ls.flatMap (undOf p)) .un (.inl rfl) hz.fs (by
    have h1 : (p.ls.flatMap (undOf p)).length ≤ 16 := hu
    have h2 := hz.rs
    rw [List.length_append, List.length_map]
    omega)
  have hall : allM p pl.length = p.ls.map Mk.takes ++ p.ls.flatMap (undOf p) ++ p.rs.flatMap wriOf ++ p.ls.map Mk.gives ++ (List.range pl.length).map Mk.shares := by
    have e : (p.sorts.map fun q => Mk.writes q.1 q.2) = p.rs.flatMap wriOf := by
      unfold Pt.sorts wriOf
      rw [List.map_flatMap]
      simp only [List.map_map, Function.comp_def]
    unfold allM
    rw [e]
    rfl
  have hlen : (allM p pl.length).length ≤ 33 := hz.al hn
  rw [hall] at hlen ⊢
  generalize p.ls.map Mk.takes = T at *
  generalize p.ls.flatMap (undOf p) = U at *
  generalize p.rs.flatMap wriOf = V at *
  generalize p.ls.map Mk.gives = G at *
  generalize (List.range pl.length).map Mk.shares = S at *
  simp only [List.length_append] at hlen
  have a1 := add_l ((T ++ U ++ V).map Mk.d) (G.map Mk.d) (by simp only [List.length_append, List.length_map]; omega)
  have a2 := add_l ((T ++ U ++ V ++ G).map Mk.d) (S.map Mk.d) (by simp only [List.length_append, List.length_map]; omega)
  rw [← List.map_append] at a1 a2
  refine run_ok (ds := [partsD p, .list pl]) (ps := [.un, .un]) rfl ?_ rfl
  have hb : ∃ u, b__law_all_marks [.sh (partsD p), .sh (.list pl), .un, .un, .un, .un, .un, .un] = .ok (.rt (.ow (.lst ((T ++ U ++ V ++ G ++ S).map Mk.d)))) [.sh (partsD p), .sh (.list pl), u, v3, v4, .un, .un, .un] := by
    refine ⟨.sh (.list ((T ++ U ++ V ++ G).map Mk.d)), ?_⟩
    have l3' := l3
    have l4' := l4
    unfold lm at l3' l4'
    unfold b__law_all_marks
    rw [← bodyU, ← bodyW]
    simp_all! [c1, pa0, l3', pa1, l4', c4, a1, c5, a2]
  obtain ⟨u, hb⟩ := hb
  unfold m__law_all_marks
  exact fn_rt (n := 2) (N := 8) (as := [.sh (partsD p), .sh (.list pl)]) hb (by simp)
end
theorem nin_nl (k : Nam) (l : List Nam) : cmp2 .nin (.str k.1) (.list (l.map nmD)) = some (!decide (k ∈ l)) := (cNm.niL k l).trans (congrArg (fun b => some (!b)) (decide_eq_decide.mpr Iff.rfl))
theorem not_here {k : Nam} : ∀ {rs : List Hs.Row}, k ∉ rs.map Hs.Row.k → rs.filter (fun r => decide (r.k = k) && !isNone (opD r.g)) = []
  | [], _ => rfl
  | r :: rs, h => by
    have h1 : r.k ≠ k := fun e => h (List.mem_map.mpr ⟨r, List.mem_cons_self, e⟩)
    rw [List.filter_cons_of_neg (by rw [decide_eq_false h1]; intro z; cases z)]
    exact not_here fun m => h (List.mem_cons_of_mem _ m)
theorem guards_eq {k : Nam} : ∀ {rs : List Hs.Row}, (rs.map Hs.Row.k).Nodup → (rs.filter fun r => decide (r.k = k) && !isNone (opD r.g)).map (fun r => PyData.tuple [.str "takes", opD r.g]) = ((((findR k rs).bind Hs.Row.g).toList.map Mk.takes).map Mk.d)
  | [], _ => rfl
  | r :: rs, h => by
    rw [List.map_cons, List.nodup_cons] at h
    by_cases e : r.k = k
    · have f1 : findR k (r :: rs) = some r := if_pos e
      have f2 := not_here (k := k) (rs := rs) (e ▸ h.1)
      rw [f1]
      cases hg : r.g with
      | none =>
        rw [List.filter_cons_of_neg (by rw [hg, decide_eq_true e]; intro z; cases z), f2]
        show _ = ((r.g.toList.map Mk.takes).map Mk.d)
        rw [hg]
        rfl
      | some l =>
        rw [List.filter_cons_of_pos (by rw [hg, decide_eq_true e]; rfl), f2]
        show _ = ((r.g.toList.map Mk.takes).map Mk.d)
        rw [hg]
        show [PyData.tuple [.str "takes", opD r.g]] = _
        rw [hg]
        rfl
    · have f1 : findR k (r :: rs) = findR k rs := if_neg e
      rw [List.filter_cons_of_neg (by rw [decide_eq_false e]; intro z; cases z), f1]
      exact guards_eq h.2
section
variable {p : Pt} {pl : List Nam}
theorem law_needs (hz : p.Sz) (hd : p.ks.Nodup) (m : Mk) (ρ : Sto) : runC 3 m__law_needs [.inl (partsD p), .inl (.list (pl.map nmD)), .inl m.d] ρ = .ok (.ow (.lst ((needs p pl m).map Mk.d))) ρ := by
  refine run_ok (ds := [partsD p, .list (pl.map nmD), m.d]) (ps := [.un, .un, .un]) rfl ?_ rfl
  have hb : b__law_needs [.sh (partsD p), .sh (.list (pl.map nmD)), .sh m.d, .un] = .ok (.rt (.ow (.lst ((needs p pl m).map Mk.d)))) [.sh (partsD p), .sh (.list (pl.map nmD)), .sh m.d, .un] := by
    unfold b__law_needs
    cases m with
    | takes l => simp_all! [Mk.d, ls0, needs]
    | shares n => simp_all! [Mk.d, ls0, needs]
    | under a b => simp_all! [Mk.d, tu2, ls2, needs]
    | gives l => simp_all! [Mk.d, tu2, ls1, needs]
    | writes k f =>
      by_cases hk : k ∈ pl
      · have hd : decide (k ∈ pl) = true := decide_eq_true hk
        simp_all! [Mk.d, nin_nl, hd, ls0, needs, if_pos hk]
      · have hn : decide (k ∈ pl) = false := decide_eq_false hk
        have e := guards_eq (k := k) hd
        have c1 : cLc [3] (bNm 3) (cO (cFz (cIdx (cFz (cVar 0)) (cFz (cD (.int 1))))) itM) (cAndT (cTst (cCm .eq (cFz (cIdx (cFz (cVar 3)) (cFz (cD (.int 0))))) (cFz (cIdx (cFz (cVar 2)) (cFz (cD (.int 1))))))) (cTst (cIsN true (cFz (cIdx (cFz (cVar 3)) (cFz (cD (.int 1)))))))) (cFz (cTup (cCons (cFz (cD (.str "takes"))) (cCons (cFz (cIdx (cFz (cVar 3)) (cFz (cD (.int 1))))) cNil)))) [.sh (partsD p), .sh (.list (pl.map nmD)), .sh (Mk.writes k f).d, .un] = .ok (.ow (.lst ((p.rs.filter fun r => decide (r.k = k) && !isNone (opD r.g)).map fun r => PyData.tuple [.str "takes", opD r.g]))) [.sh (partsD p), .sh (.list (pl.map nmD)), .sh (Mk.writes k f).d, .un] := by
          refine cLc_map Hs.Row.d (fun r => decide (r.k = k) && !isNone (opD r.g)) _ (ρ1 := [.sh (partsD p), .sh (.list (pl.map nmD)), .sh (Mk.writes k f).d, .un]) ?_ rfl rfl (line_le (Nat.le_trans hz.rs (by omega))) fun x hx => ⟨[.sh (partsD p), .sh (.list (pl.map nmD)), .sh (Mk.writes k f).d, .sh x.d], [.sh (partsD p), .sh (.list (pl.map nmD)), .sh (Mk.writes k f).d, .sh x.d], rfl, ?_, rfl, fun _ => ⟨[.sh (partsD p), .sh (.list (pl.map nmD)), .sh (Mk.writes k f).d, .sh x.d], ?_, rfl⟩⟩
          · simp_all! [pa1]
          · cases hq : decide (x.k = k) with
            | false => simp_all! [row_e, Mk.d, hq, Bool.false_and]
            | true => simp_all! [row_e, Mk.d, hq, Bool.true_and, ite_true]
          · simp_all! [row_e, tu2]
        rw [show (needs p pl (Mk.writes k f)).map Mk.d = (((findR k p.rs).bind Hs.Row.g).toList.map Mk.takes).map Mk.d by
          show (if k ∈ pl then [] else (p.guard k).toList.map Mk.takes).map Mk.d = _
          rw [if_neg hk]
          rfl, ← e]
        unfold Mk.d at c1 ⊢
        simp_all! [nin_nl, hn, c1]
  unfold m__law_needs
  exact fn_rt (n := 3) (N := 4) (as := [.sh (partsD p), .sh (.list (pl.map nmD)), .sh m.d]) hb (by simp)
end
end K05
/-! Dt10: the law's gives, left, signed, less. -/
namespace K05
open PySem PySem.Spec PyProof.Rows L2 Md Nm Hs
local macro_rules | `(tactic| simp_all! [$ls,*]) => `(tactic| simp -implicitDefEqProofs only [bind_ok', bind_er', selK_t, selK_f, e_fz, e_sh, e_O, optO_s, e_2, e_3, e_var, vS_sh, vS_ow, e_D, e_seq, seqK_nx, seqK_rt, seqK_ct, seqK_bk, e_if, okK_e, e_andT, e_orT, e_notT, e_tru, e_tst, boolD_s, e_and, andK_t, andK_f, e_or, orK_t, orK_f, tru_b, e_cm, e_chn, chK_t, chK_f, e_isN, e_idx, e_isi, e_nil, e_cons, e_tup, e_lst, e_ret, e_nx, e_ex, e_set, e_setSl, sS_un, sS_sh, sS_ow, setRv_sh, setRv_ow, oNx_s, toD_sh, toD_lst, toD_obj, muD_lst, muD_obj, e_par, parK_e, e_noP, e_smP, e_sl, e_not, e_A0, e_Av, e_call, List.getElem?_cons_zero, List.getElem?_cons_succ, List.set_cons_zero, List.set_cons_succ, Option.map_some, Option.map_none, Option.bind_some, Bool.not_true, Bool.not_false, e_att, e_met, e_eqO, boolR_e, notR_e, e_inOp, e_niOp, e_opT, e_put, e_atO, atoK_e, e_rai0, e_makV, e_borT, borK_e, fz_un, fz_sh, List.map_cons, List.map_nil, e_mov, movK_sh, movK_ow, e_asg, fldD_e, clsD_e, e_for, ix0, ix1, ix2, il0, il1, il2, ln_t, ln_l, tup_l, tup_t, list_l, list_t, it_l, it_t, gt_ii, ge_ii, lt_ii, le_ii, eq_ss, ne_ss, eq_ii, ne_ii, eb_nm, asInt, sl1, sl2, nmD_e, dself, dselfi, decide_true, decide_false, len1, len2, len3, n_dec, t_tu, t_tw, t_tg, t_ts, t_ut, t_uw, t_ug, t_us, t_wt, t_wu, t_wg, t_ws, t_gt, t_gu, t_gw, t_gs, t_st, t_su, t_sw, t_sg, $ls,*])
section
variable {p : Pt} {pl : List Nam} {ms mk : List Mk} {m : Mk}
theorem law_gives (hl : mk.length ≤ 100) (ρ : Sto) : runC 1 m__law_gives [.inl (.list (mk.map Mk.d))] ρ = .ok (.sh (.bool (givB mk))) ρ := by
  refine run_ok (ds := [.list (mk.map Mk.d)]) (ps := [.un]) rfl ?_ rfl
  have c1 : cLc [1] (bNm 1) (cO (cFz (cVar 0)) itM) (cTst (cCm .eq (cFz (cIdx (cFz (cVar 1)) (cFz (cD (.int 0))))) (cFz (cD (.str "gives"))))) (cFz (cVar 1)) [.sh (.list (mk.map Mk.d)), .un] = .ok (.ow (.lst ((wordT "gives" mk).map Mk.d))) [.sh (.list (mk.map Mk.d)), .un] := by
    refine cLc_map Mk.d (fun m => decide (m.w = ("gives" : Str))) _ (ρ1 := [.sh (.list (mk.map Mk.d)), .un]) ?_ rfl rfl (line_le (by omega)) fun x hx => ⟨[.sh (.list (mk.map Mk.d)), .sh x.d], [.sh (.list (mk.map Mk.d)), .sh x.d], rfl, ?_, rfl, fun _ => ⟨[.sh (.list (mk.map Mk.d)), .sh x.d], ?_, rfl⟩⟩
    · simp_all! []
    · simp_all! [ix_w]
    · simp_all! []
  have kg : decide ((0 : Int) < ((((wordT "gives" mk).map Mk.d).length : Nat) : Int)) = givB mk := by
    unfold givB
    rw [List.length_map, decide_eq_decide]
    omega
  have hb : b__law_gives [.sh (.list (mk.map Mk.d)), .un] = .ok (.rt (.sh (.bool (givB mk)))) [.sh (.list (mk.map Mk.d)), .un] := by
    unfold b__law_gives
    simp_all! [c1, kg]
  unfold m__law_gives
  exact fn_rt (n := 1) (N := 2) (as := [.sh (.list (mk.map Mk.d))]) hb (by simp)
theorem law_left (hz : p.Sz) (hd : p.ks.Nodup) (hl : mk.length ≤ 100) (ρ : Sto) : runC 4 m__law_left [.inl (partsD p), .inl (.list (pl.map nmD)), .inl (.list (mk.map Mk.d)), .inl m.d] ρ = .ok (.ow (.lst ((left p pl mk m).map Mk.d))) ρ := by
  refine run_ok (ds := [partsD p, .list (pl.map nmD), .list (mk.map Mk.d), m.d]) (ps := [.un, .un, .un, .un]) rfl ?_ rfl
  have e : left p pl mk m = mk.filter fun x => !decide (x = m) && !decide (m ∈ needs p pl x) := by
    unfold left
    rw [List.filter_filter]
    congr 1
    funext x
    exact Bool.and_comm _ _
  rw [e]
  have c1 : cLc [4] (bNm 4) (cO (cFz (cVar 2)) itM) (cAndT (cTst (cCm .ne (cFz (cVar 4)) (cFz (cVar 3)))) (cTst (cCm .nin (cFz (cVar 3)) (cFz (cCall 3 m__law_needs (cAv (cFz (cVar 0)) (cAv (cFz (cVar 1)) (cAv (cFz (cVar 4)) cA0)))))))) (cFz (cVar 4)) [.sh (partsD p), .sh (.list (pl.map nmD)), .sh (.list (mk.map Mk.d)), .sh m.d, .un] = .ok (.ow (.lst ((mk.filter fun x => !decide (x = m) && !decide (m ∈ needs p pl x)).map Mk.d))) [.sh (partsD p), .sh (.list (pl.map nmD)), .sh (.list (mk.map Mk.d)), .sh m.d, .un] := by
    refine cLc_map Mk.d (fun x => !decide (x = m) && !decide (m ∈ needs p pl x)) _ (ρ1 := [.sh (partsD p), .sh (.list (pl.map nmD)), .sh (.list (mk.map Mk.d)), .sh m.d, .un]) ?_ rfl rfl (line_le (by omega)) fun x hx => ⟨[.sh (partsD p), .sh (.list (pl.map nmD)), .sh (.list (mk.map Mk.d)), .sh m.d, .sh x.d], [.sh (partsD p), .sh (.list (pl.map nmD)), .sh (.list (mk.map Mk.d)), .sh m.d, .sh x.d], rfl, ?_, rfl, fun _ => ⟨[.sh (partsD p), .sh (.list (pl.map nmD)), .sh (.list (mk.map Mk.d)), .sh m.d, .sh x.d], ?_, rfl⟩⟩
    · simp_all! []
    · have h := law_needs (pl := pl) hz hd x
      cases hq : decide (x = m) with
      | true => simp_all! [ne_mk, hq, Bool.false_and]
      | false => simp_all! [ne_mk, hq, Bool.true_and, h, ni_mk]
    · simp_all! []
  have hb : b__law_left [.sh (partsD p), .sh (.list (pl.map nmD)), .sh (.list (mk.map Mk.d)), .sh m.d, .un] = .ok (.rt (.ow (.lst ((mk.filter fun x => !decide (x = m) && !decide (m ∈ needs p pl x)).map Mk.d)))) [.sh (partsD p), .sh (.list (pl.map nmD)), .sh (.list (mk.map Mk.d)), .sh m.d, .un] := by
    unfold b__law_left
    simp_all! [c1]
  unfold m__law_left
  exact fn_rt (n := 4) (N := 5) (as := [.sh (partsD p), .sh (.list (pl.map nmD)), .sh (.list (mk.map Mk.d)), .sh m.d]) hb (by simp)
theorem len0 : (([] : List D).length : Int) = 0 := rfl
theorem law_signed (F : Fit p pl ms) (ρ : Sto) : runC 3 m__law_signed [.inl (hallD p), .inl (.list (pl.map nmD)), .inl (.list (ms.map Mk.d))] ρ = .ok (.ow (.obj "Signature" (sigF p pl (told p pl.length ms)))) ρ := by
  have d0 : decide ((1 : Int) = 0) = false := by decide
  have d1 : decide ((2 : Int) = 0) = false := by decide
  have d2 : decide ((2 : Int) = 1) = false := by decide
  have d3 : decide ((3 : Int) = 0) = false := by decide
  have d4 : decide ((3 : Int) = 1) = false := by decide
  have d5 : decide ((3 : Int) = 2) = false := by decide
  have rm := r_make F
  refine run_ok (ds := [hallD p, .list (pl.map nmD), .list (ms.map Mk.d)]) (ps := [.un, .un, .un]) rfl ?_ rfl
  have hb : b__law_signed [.sh (hallD p), .sh (.list (pl.map nmD)), .sh (.list (ms.map Mk.d))] = .ok (.rt (.ow (.obj "Signature" (sigF p pl (told p pl.length ms))))) [.sh (hallD p), .sh (.list (pl.map nmD)), .sh (.list (ms.map Mk.d))] := by
    unfold b__law_signed
    have h3 := F.pl3
    generalize sigF p pl (told p pl.length ms) = S at rm ⊢
    match pl, h3 with
    | [], _ =>
      have rm1 : ∀ ρ, makeV "Signature" 2 1 m_Signature_init [.inl (hallD p)] [.list (ms.map Mk.d)] ρ = .ok (.ow (.obj "Signature" S)) ρ := rm
      simp_all! [len0, rm1]
    | [a], _ =>
      have rm1 : ∀ ρ, makeV "Signature" 2 1 m_Signature_init [.inl (hallD p), .inl (.str a.1)] [.list (ms.map Mk.d)] ρ = .ok (.ow (.obj "Signature" S)) ρ := rm
      simp_all! [d0, rm1]
    | [a, b], _ =>
      have rm1 : ∀ ρ, makeV "Signature" 2 1 m_Signature_init [.inl (hallD p), .inl (.str a.1), .inl (.str b.1)] [.list (ms.map Mk.d)] ρ = .ok (.ow (.obj "Signature" S)) ρ := rm
      simp_all! [d1, d2, rm1]
    | [a, b, c], _ =>
      have rm1 : ∀ ρ, makeV "Signature" 2 1 m_Signature_init [.inl (hallD p), .inl (.str a.1), .inl (.str b.1), .inl (.str c.1)] [.list (ms.map Mk.d)] ρ = .ok (.ow (.obj "Signature" S)) ρ := rm
      simp_all! [d3, d4, d5, rm1]
    | _ :: _ :: _ :: _ :: _, h => exact absurd h (by simp)
  unfold m__law_signed
  exact fn_rt (n := 3) (N := 3) (as := [.sh (hallD p), .sh (.list (pl.map nmD)), .sh (.list (ms.map Mk.d))]) hb (by simp)
/-- told in the hall's order -/
def Ord (p : Pt) (n : Nat) (mk : List Mk) : Prop := told p n mk = mk
theorem ord_told {n : Nat} : Ord p n (told p n ms) := by
  unfold Ord told
  refine List.filter_congr fun x hx => decide_eq_decide.mpr ?_
  rw [List.mem_filter]
  exact ⟨fun h => of_decide_eq_true h.2, fun h => ⟨hx, decide_eq_true h⟩⟩
theorem Ord.filter {n : Nat} (h : Ord p n mk) (q : Mk → Bool) : Ord p n (mk.filter q) := by
  unfold Ord at h ⊢
  have e : mk.filter q = (told p n mk).filter q := by rw [h]
  conv => rhs; rw [e]
  unfold told
  rw [List.filter_filter]
  refine List.filter_congr fun x hx => ?_
  rw [Bool.eq_iff_iff]
  simp only [decide_eq_true_eq, Bool.and_eq_true, List.mem_filter]
  exact and_comm
theorem Ord.left {n : Nat} (h : Ord p n mk) : Ord p n (left p pl mk m) := (h.filter _).filter _
end
end K05
/-! Dt11: the law's less and fits. -/
namespace Md
def tryK (hs : List Hd) : Out Fl → Out Fl
  | .er x ρ' => catchX hs x ρ'
  | o => o
theorem e_try (c : Co Fl) (hs : List Hd) (ρ : Sto) : cTry c hs ρ = tryK hs (c ρ) := by
  unfold cTry
  cases c ρ <;> rfl
theorem tryK_ok (hs : List Hd) (fl : Fl) (ρ : Sto) : tryK hs (.ok fl ρ) = .ok fl ρ := rfl
theorem catch_t {h : Hd} {r : List Hd} {x : Ex} {ρ : Sto} (e : h.1 x.c = some true) : catchX (h :: r) x ρ = h.2 x ρ := by
  unfold catchX
  rw [e]
theorem catch_f {h : Hd} {r : List Hd} {x : Ex} {ρ : Sto} (e : h.1 x.c = some false) : catchX (h :: r) x ρ = catchX r x ρ := by
  conv => lhs; unfold catchX
  rw [e]
theorem tryK_er (hs : List Hd) (x : Ex) (ρ : Sto) : tryK hs (.er x ρ) = catchX hs x ρ := rfl
end Md
namespace K05
open PySem PySem.Spec PyProof.Rows L2 Md Nm Hs
local macro_rules | `(tactic| simp_all! [$ls,*]) => `(tactic| simp -implicitDefEqProofs only [bind_ok', bind_er', selK_t, selK_f, e_fz, e_sh, e_O, optO_s, e_2, e_3, e_var, vS_sh, vS_ow, e_D, e_seq, seqK_nx, seqK_rt, seqK_ct, seqK_bk, e_if, okK_e, e_andT, e_orT, e_notT, e_tru, e_tst, boolD_s, e_and, andK_t, andK_f, e_or, orK_t, orK_f, tru_b, e_cm, e_chn, chK_t, chK_f, e_isN, e_idx, e_isi, e_nil, e_cons, e_tup, e_lst, e_ret, e_nx, e_ex, e_set, e_setSl, sS_un, sS_sh, sS_ow, setRv_sh, setRv_ow, oNx_s, toD_sh, toD_lst, toD_obj, muD_lst, muD_obj, e_par, parK_e, e_noP, e_smP, e_sl, e_not, e_A0, e_Av, e_call, List.getElem?_cons_zero, List.getElem?_cons_succ, List.set_cons_zero, List.set_cons_succ, Option.map_some, Option.map_none, Option.bind_some, Bool.not_true, Bool.not_false, e_att, e_met, e_eqO, boolR_e, notR_e, e_inOp, e_niOp, e_opT, e_put, e_atO, atoK_e, e_rai0, e_makV, e_borT, borK_e, fz_un, fz_sh, List.map_cons, List.map_nil, e_mov, movK_sh, movK_ow, e_asg, fldD_e, clsD_e, e_for, ix0, ix1, ix2, il0, il1, il2, ln_t, ln_l, tup_l, tup_t, list_l, list_t, it_l, it_t, gt_ii, ge_ii, lt_ii, le_ii, eq_ss, ne_ss, eq_ii, ne_ii, eb_nm, asInt, sl1, sl2, nmD_e, dself, dselfi, decide_true, decide_false, len1, len2, len3, n_dec, t_tu, t_tw, t_tg, t_ts, t_ut, t_uw, t_ug, t_us, t_wt, t_wu, t_wg, t_ws, t_gt, t_gu, t_gw, t_gs, t_st, t_su, t_sw, t_sg, $ls,*])
section
variable {p : Pt} {pl : List Nam} {ms mk : List Mk} {m : Mk}
def hsL : List Hd := [hAs (fun c => if c = "NoSuch" then some true else if c = "Unlike" then some false else none) 4 (fun (x : Ex) (ρ : Sto) => match fldF "name" x.fs, (ρ[1]? : Option Sl) with
      | some d, some (.sh m) => if x.c = "NoSuch" then (match cmp2 .ne d m with
        | some k => oNx (setSl ρ 3 (.sh (.str (if k then "other" else "no such"))))
        | none => .st) else .st
      | _, _ => .st),
   hAs (fun c => if c = "Unlike" then some true else none) 4 (fun (x : Ex) (ρ : Sto) => if x.c = "Unlike" then oNx (setSl ρ 3 (.sh (.str "unlike"))) else .st),
   (fun _ => none, fun _ _ => .st)]
theorem less_e : b__law_less = cSeq (cSet 2 (cD .none)) (cSeq (cSet 3 (cD (.str ""))) (cSeq (cTry (cSet 2 (cOpT "Signature" 2 m_Signature_sub (cFz (cVar 0)) (cFz (cVar 1)))) hsL) (cRet (cLst (cCons (cFz (cVar 2)) (cCons (cFz (cVar 3)) cNil)))))) := rfl
theorem ne_self (m : Mk) : cmp2 .ne m.d m.d = some false := (ne_mk m m).trans (by rw [decide_eq_true rfl]; rfl)
theorem catch1 (s : D) (ρ4 : Sl) (h : ρ4 = .un) : catchX hsL ⟨"NoSuch", [(.str "name", m.d)]⟩ [.sh s, .sh m.d, .sh .none, .sh (.str ""), ρ4] = .ok .nx [.sh s, .sh m.d, .sh .none, .sh (.str "no such"), .un] := by
  subst h
  have e1 : (if ("NoSuch" : Str) = "NoSuch" then some true else if ("NoSuch" : Str) = "Unlike" then some false else none) = some true := if_pos rfl
  refine (catch_t (by exact e1)).trans ?_
  show (if freeI [.sh s, .sh m.d, .sh .none, .sh (.str ""), .un] 4 = true then resO 4 (match fldF "name" [(.str "name", m.d)], (some (Sl.sh m.d) : Option Sl) with
      | some d, some (.sh w) => if ("NoSuch" : Str) = "NoSuch" then (match cmp2 .ne d w with
        | some k => oNx (setSl [.sh s, .sh m.d, .sh .none, .sh (.str ""), .un] 3 (.sh (.str (if k then "other" else "no such"))))
        | none => .st) else .st
      | _, _ => .st) else .st) = _
  rw [fld_eq]
  show (if true = true then resO 4 (if ("NoSuch" : Str) = "NoSuch" then (match cmp2 .ne m.d m.d with
        | some k => oNx (setSl [.sh s, .sh m.d, .sh .none, .sh (.str ""), .un] 3 (.sh (.str (if k then "other" else "no such"))))
        | none => .st) else .st) else .st) = _
  rw [if_pos rfl, if_pos rfl, ne_self]
  rfl
theorem catch2 (s v : D) : catchX hsL ⟨"Unlike", []⟩ [.sh s, .sh v, .sh .none, .sh (.str ""), .un] = .ok .nx [.sh s, .sh v, .sh .none, .sh (.str "unlike"), .un] := by
  have n1 : ("Unlike" : Str) ≠ "NoSuch" := by decide +kernel
  have e1 : (if ("Unlike" : Str) = "NoSuch" then some true else if ("Unlike" : Str) = "Unlike" then some false else none) = some false := by rw [if_neg n1, if_pos rfl]
  have e2 : (if ("Unlike" : Str) = "Unlike" then some true else none) = some true := if_pos rfl
  refine (catch_f (by exact e1)).trans ((catch_t (by exact e2)).trans ?_)
  show (if freeI [.sh s, .sh v, .sh .none, .sh (.str ""), .un] 4 = true then resO 4 (if ("Unlike" : Str) = "Unlike" then oNx (setSl [.sh s, .sh v, .sh .none, .sh (.str ""), .un] 3 (.sh (.str "unlike"))) else .st) else .st) = _
  rw [if_pos (rfl : freeI _ 4 = true), if_pos rfl]
  rfl
/-- what the law's less answers -/
def lessL (p : Pt) (pl : List Nam) (mk : List Mk) (m : Mk) : List D :=
  if m ∉ mk then [.none, .str "no such"] else if (givB mk && !givB (left p pl mk m)) = true then [.none, .str "unlike"] else [sigD p pl (left p pl mk m), .str ""]
theorem isT_M (m : Mk) : isTupD m.d = true := by cases m <;> rfl
theorem law_less (F : Fit p pl mk) (o : Ord p pl.length mk) (hm : Mk.ok m) (hs : m.sm) (ρ : Sto) : runC 2 m__law_less [.inl (sigD p pl mk), .inl m.d] ρ = .ok (.ow (.lst (lessL p pl mk m))) ρ := by
  refine run_ok (ds := [sigD p pl mk, m.d]) (ps := [.un, .un]) rfl ?_ rfl
  have k1 : ((clsD (sigD p pl mk) == some ("Signature" : Str)) && isTupD m.d) = true := by rw [cls_sig, isT_M]; rfl
  have hb : ∃ ρ', b__law_less [.sh (sigD p pl mk), .sh m.d, .un, .un, .un] = .ok (.rt (.ow (.lst (lessL p pl mk m)))) ρ' ∧ 2 ≤ ρ'.length ∧ cutP 2 ρ' = [.un, .un] := by
    rw [less_e]
    unfold lessL
    by_cases h : m ∈ mk
    · rw [if_neg fun z => z h]
      have rs := r_sub (p := p) (pl := pl) F hm h
      unfold keptR at rs
      by_cases hg : (givB mk && !givB (left p pl mk m)) = true
      · rw [if_pos hg]
        have rs : ∀ ρ, runC 2 m_Signature_sub [.inl (sigD p pl mk), .inl m.d] ρ = .er ⟨"Unlike", []⟩ ρ := fun ρ => (rs ρ).trans (if_pos hg)
        refine ⟨[.sh (sigD p pl mk), .sh m.d, .sh .none, .sh (.str "unlike"), .un], ?_, by simp, rfl⟩
        simp_all! [e_try, k1, rs, tryK_er, catch2, ls2]
      · rw [if_neg hg]
        have rs : ∀ ρ, runC 2 m_Signature_sub [.inl (sigD p pl mk), .inl m.d] ρ = .ok (.ow (.obj "Signature" (sigF p pl (left p pl mk m)))) ρ := fun ρ => (rs ρ).trans ((if_neg hg).trans (by rw [show told p pl.length (left p pl mk m) = left p pl mk m from o.left]))
        refine ⟨[.sh (sigD p pl mk), .sh m.d, .sh (sigD p pl (left p pl mk m)), .sh (.str ""), .un], ?_, by simp, rfl⟩
        simp_all! [e_try, k1, rs, tryK_ok, ls2]
        rfl
    · rw [if_pos h]
      have rs := r_sub_no (p := p) (pl := pl) hm hs h
      refine ⟨[.sh (sigD p pl mk), .sh m.d, .sh .none, .sh (.str "no such"), .un], ?_, by simp, rfl⟩
      simp_all! [e_try, k1, rs, tryK_er, catch1, ls2]
  obtain ⟨ρ', e, l, c⟩ := hb
  unfold m__law_less
  rw [← c]
  exact fn_rt (n := 2) (N := 5) (as := [.sh (sigD p pl mk), .sh m.d]) e l
theorem law_fits (F : Fit p pl mk) (hd : p.ks.Nodup) (ρ : Sto) : runC 5 m__law_fits [.inl (.list (lessL p pl mk m)), .inl (partsD p), .inl (.list (pl.map nmD)), .inl (.list (mk.map Mk.d)), .inl m.d] ρ = .ok (.sh (.bool true)) ρ := by
  refine run_ok (ds := [.list (lessL p pl mk m), partsD p, .list (pl.map nmD), .list (mk.map Mk.d), m.d]) (ps := [.un, .un, .un, .un, .un]) rfl ?_ rfl
  have hl : mk.length ≤ 100 := Nat.le_trans F.len (by omega)
  have g1 := law_gives hl
  have hll : (left p pl mk m).length ≤ 100 := Nat.le_trans (Nat.le_trans (List.length_filter_le _ _) (List.length_filter_le _ _)) hl
  have g2 := law_gives hll
  have lf := law_left (pl := pl) (m := m) F.sz hd hl
  have hb : ∃ ρ', b__law_fits [.sh (.list (lessL p pl mk m)), .sh (partsD p), .sh (.list (pl.map nmD)), .sh (.list (mk.map Mk.d)), .sh m.d, .un] = .ok (.rt (.sh (.bool true))) ρ' ∧ 5 ≤ ρ'.length ∧ cutP 5 ρ' = [.un, .un, .un, .un, .un] := by
    unfold b__law_fits lessL
    by_cases h : m ∈ mk
    · rw [if_neg fun z => z h]
      have h1 : decide (m ∈ mk) = true := decide_eq_true h
      by_cases hg : (givB mk && !givB (left p pl mk m)) = true
      · rw [if_pos hg]
        rw [Bool.and_eq_true, Bool.not_eq_true'] at hg
        refine ⟨[.sh (.list [.none, .str "unlike"]), .sh (partsD p), .sh (.list (pl.map nmD)), .sh (.list (mk.map Mk.d)), .sh m.d, .sh (.list ((left p pl mk m).map Mk.d))], ?_, by simp, rfl⟩
        simp_all! [ni_mk, h1, lf, g1, g2, hg.1, hg.2]
      · rw [if_neg hg]
        refine ⟨[.sh (.list [sigD p pl (left p pl mk m), .str ""]), .sh (partsD p), .sh (.list (pl.map nmD)), .sh (.list (mk.map Mk.d)), .sh m.d, .sh (.list ((left p pl mk m).map Mk.d))], ?_, by simp, rfl⟩
        have k1 : ∀ xs, isiD (some "tuple") isiOwn (.tuple xs) = some true := fun _ => rfl
        have k2 : cmp2 .eq (.list ((left p pl mk m).map Mk.d)) (.list ((left p pl mk m).map Mk.d)) = some true := (cMk.eqL _ _).trans (congrArg some (decide_eq_true rfl))
        cases h2 : givB mk with
        | false => simp_all! [ni_mk, h1, lf, g1, h2, isi_s, sf_mk, k1, k2, sf_pl, eqT_nm]
        | true =>
          have h3 : givB (left p pl mk m) = true := by
            rw [h2] at hg
            cases h4 : givB (left p pl mk m) with
            | true => rfl
            | false => rw [h4] at hg; exact absurd rfl hg
          simp_all! [ni_mk, h1, lf, g1, g2, h2, h3, isi_s, sf_mk, k1, k2, sf_pl, eqT_nm]
    · rw [if_pos h]
      have h1 : decide (m ∈ mk) = false := decide_eq_false h
      refine ⟨[.sh (.list [.none, .str "no such"]), .sh (partsD p), .sh (.list (pl.map nmD)), .sh (.list (mk.map Mk.d)), .sh m.d, .un], ?_, by simp, rfl⟩
      simp_all! [ni_mk, h1]
  obtain ⟨ρ', e, l, c⟩ := hb
  unfold m__law_fits
  rw [← c]
  exact fn_rt (n := 5) (N := 6) (as := [.sh (.list (lessL p pl mk m)), .sh (partsD p), .sh (.list (pl.map nmD)), .sh (.list (mk.map Mk.d)), .sh m.d]) e l
end
end K05
/-! Dt12: the rules of a hall's lines. -/
namespace K05
open PySem PySem.Spec PyProof.Rows L2 Md Nm Hs
local macro_rules | `(tactic| simp_all! [$ls,*]) => `(tactic| simp -implicitDefEqProofs only [bind_ok', bind_er', selK_t, selK_f, e_fz, e_sh, e_O, optO_s, e_2, e_3, e_var, vS_sh, vS_ow, e_D, e_seq, seqK_nx, seqK_rt, seqK_ct, seqK_bk, e_if, okK_e, e_andT, e_orT, e_notT, e_tru, e_tst, boolD_s, e_and, andK_t, andK_f, e_or, orK_t, orK_f, tru_b, e_cm, e_chn, chK_t, chK_f, e_isN, e_idx, e_isi, e_nil, e_cons, e_tup, e_lst, e_ret, e_nx, e_ex, e_set, e_setSl, sS_un, sS_sh, sS_ow, setRv_sh, setRv_ow, oNx_s, toD_sh, toD_lst, toD_obj, muD_lst, muD_obj, e_par, parK_e, e_noP, e_smP, e_sl, e_not, e_A0, e_Av, e_call, List.getElem?_cons_zero, List.getElem?_cons_succ, List.set_cons_zero, List.set_cons_succ, Option.map_some, Option.map_none, Option.bind_some, Bool.not_true, Bool.not_false, e_att, e_met, e_eqO, boolR_e, notR_e, e_inOp, e_niOp, e_opT, e_put, e_atO, atoK_e, e_rai0, e_makV, e_borT, borK_e, fz_un, fz_sh, List.map_cons, List.map_nil, e_mov, movK_sh, movK_ow, e_asg, fldD_e, clsD_e, e_for, ix0, ix1, ix2, il0, il1, il2, ln_t, ln_l, tup_l, tup_t, list_l, list_t, it_l, it_t, gt_ii, ge_ii, lt_ii, le_ii, eq_ss, ne_ss, eq_ii, ne_ii, eb_nm, asInt, sl1, sl2, nmD_e, dself, dselfi, decide_true, decide_false, len1, len2, len3, n_dec, t_tu, t_tw, t_tg, t_ts, t_ut, t_uw, t_ug, t_us, t_wt, t_wu, t_wg, t_ws, t_gt, t_gu, t_gw, t_gs, t_st, t_su, t_sw, t_sg, $ls,*])
/-- a row that is well formed -/
structure RowOk (r : Hs.Row) : Prop where
  f1 : 1 ≤ r.fs.length
  f2 : r.fs.length ≤ 2
  nd : r.fs.Nodup
theorem in_nm (k : Nam) (l : List Nam) : cmp2 .inn (.str k.1) (.tuple (l.map nmD)) = some (decide (k ∈ l)) := (cNm.inT k l).trans (congrArg some (decide_eq_decide.mpr Iff.rfl))
theorem in_nl (k : Nam) (l : List Nam) : cmp2 .inn (.str k.1) (.list (l.map nmD)) = some (decide (k ∈ l)) := (cNm.inL k l).trans (congrArg some (decide_eq_decide.mpr Iff.rfl))
theorem isT_t (xs : List D) : isiD (some "tuple") isiOwn (.tuple xs) = some true := rfl
theorem r_is_desc {r : Hs.Row} (h : RowOk r) (ρ : Sto) : runC 1 m_is_description [.inl r.d] ρ = .ok (.sh (.bool true)) ρ := by
  refine run_ok (ds := [r.d]) (ps := [.un]) rfl ?_ rfl
  have k2 : cmp2 .nin (.int ((.str r.k.1 :: opD r.g :: r.fs.map nmD : List D).length : Int)) (.tuple [.int 3, .int 4]) = some false := by
    have h1 := h.f1
    have h2 := h.f2
    have : (.str r.k.1 :: opD r.g :: r.fs.map nmD : List D).length = r.fs.length + 2 := by rw [List.length_cons, List.length_cons, List.length_map]
    rw [this]
    rcases Nat.lt_or_ge r.fs.length 2 with z | z
    · rw [show r.fs.length = 1 by omega]; decide +kernel
    · rw [show r.fs.length = 2 by omega]; decide +kernel
  have c1 : cLc [1] (bNm 1) (cO (cFz (cSl (cFz (cVar 0)) (cSmP (cFz (cD (.int 2)))) cNoP)) itM) cYes (cFz (cCall 1 m_is_name (cAv (cFz (cVar 1)) cA0))) [.sh r.d, .un] = .ok (.ow (.lst (r.fs.map fun _ => .bool true))) [.sh r.d, .un] := by
    refine cLc_yes nmD _ (ρ1 := [.sh r.d, .un]) ?_ rfl rfl (line_le (Nat.le_trans h.f2 (by omega))) fun x hx => ⟨[.sh r.d, .sh (nmD x)], [.sh r.d, .sh (nmD x)], rfl, ?_, rfl, rfl⟩
    · simp_all! [row_e]
    · simp_all! [r_is_name]
  have k3 := all_true r.fs
  have hb : b_is_description [.sh r.d, .un] = .ok (.rt (.sh (.bool true))) [.sh r.d, .un] := by
    unfold b_is_description
    rw [row_e] at c1 ⊢
    cases hg : r.g with
    | none =>
      rw [hg] at c1 k2
      unfold opD at c1 k2
      simp_all! [opD, isT_t, tu2, k2, isN_n, ite_true, r_is_name, c1, k3]
    | some a =>
      rw [hg] at c1 k2
      unfold opD at c1 k2
      simp_all! [opD, isT_t, tu2, k2, isN_s, ite_true, r_is_name, c1, k3]
  unfold m_is_description
  exact fn_rt (n := 1) (N := 2) (as := [.sh r.d]) hb (by simp)
theorem r_lock_rule (a : Nam) (l : List Nam) (hl : l.length ≤ 3) (hn : a ∉ l) (ρ : Sto) : runC 2 m_lock_rule [.inl (.str a.1), .inl (.tuple (l.map nmD))] ρ = .ok (.sh (.str "")) ρ := by
  refine run_ok (ds := [.str a.1, .tuple (l.map nmD)]) (ps := [.un, .un]) rfl ?_ rfl
  have k1 : decide ((4 : Int) ≤ ((l.map nmD).length : Int)) = false := decide_eq_false (by rw [List.length_map]; omega)
  have k2 : decide (a ∈ l) = false := decide_eq_false hn
  have hb : b_lock_rule [.sh (.str a.1), .sh (.tuple (l.map nmD))] = .ok (.rt (.sh (.str ""))) [.sh (.str a.1), .sh (.tuple (l.map nmD))] := by
    unfold b_lock_rule
    simp_all! [r_is_name, d__MOST_LOCKS, k1, in_nm, k2]
  unfold m_lock_rule
  exact fn_rt (n := 2) (N := 2) (as := [.sh (.str a.1), .sh (.tuple (l.map nmD))]) hb (by simp)
theorem en1 (a : D) : enuM (.tuple [a]) = some [.tuple [.int 0, a]] := rfl
theorem en2 (a b : D) : enuM (.tuple [a, b]) = some [.tuple [.int 0, a], .tuple [.int 1, b]] := rfl
theorem fs_cases {l : List Nam} (h1 : 1 ≤ l.length) (h2 : l.length ≤ 2) : (∃ a, l = [a]) ∨ ∃ a b, l = [a, b] := by
  match l, h1, h2 with
  | [], h, _ => exact absurd h (by simp)
  | [a], _, _ => exact .inl ⟨a, rfl⟩
  | [a, b], _, _ => exact .inr ⟨a, b, rfl⟩
  | _ :: _ :: _ :: _, _, h => exact absurd h (by simp)
end K05
/-! Dt13: kind_rule. -/
namespace K05
open PySem PySem.Spec PyProof.Rows L2 Md Nm Hs
local macro_rules | `(tactic| simp_all! [$ls,*]) => `(tactic| simp -implicitDefEqProofs only [bind_ok', bind_er', selK_t, selK_f, e_fz, e_sh, e_O, optO_s, e_2, e_3, e_var, vS_sh, vS_ow, e_D, e_seq, seqK_nx, seqK_rt, seqK_ct, seqK_bk, e_if, okK_e, e_andT, e_orT, e_notT, e_tru, e_tst, boolD_s, e_and, andK_t, andK_f, e_or, orK_t, orK_f, tru_b, e_cm, e_chn, chK_t, chK_f, e_isN, e_idx, e_isi, e_nil, e_cons, e_tup, e_lst, e_ret, e_nx, e_ex, e_set, e_setSl, sS_un, sS_sh, sS_ow, setRv_sh, setRv_ow, oNx_s, toD_sh, toD_lst, toD_obj, muD_lst, muD_obj, e_par, parK_e, e_noP, e_smP, e_sl, e_not, e_A0, e_Av, e_call, List.getElem?_cons_zero, List.getElem?_cons_succ, List.set_cons_zero, List.set_cons_succ, Option.map_some, Option.map_none, Option.bind_some, Bool.not_true, Bool.not_false, e_att, e_met, e_eqO, boolR_e, notR_e, e_inOp, e_niOp, e_opT, e_put, e_atO, atoK_e, e_rai0, e_makV, e_borT, borK_e, fz_un, fz_sh, List.map_cons, List.map_nil, e_mov, movK_sh, movK_ow, e_asg, fldD_e, clsD_e, e_for, ix0, ix1, ix2, il0, il1, il2, ln_t, ln_l, tup_l, tup_t, list_l, list_t, it_l, it_t, gt_ii, ge_ii, lt_ii, le_ii, eq_ss, ne_ss, eq_ii, ne_ii, eb_nm, asInt, sl1, sl2, nmD_e, dself, dselfi, decide_true, decide_false, len1, len2, len3, n_dec, t_tu, t_tw, t_tg, t_ts, t_ut, t_uw, t_ug, t_us, t_wt, t_wu, t_wg, t_ws, t_gt, t_gu, t_gw, t_gs, t_st, t_su, t_sw, t_sg, $ls,*])
def enD (q : Nat × Nam) : D := .tuple [.int (q.1 : Int), .str q.2.1]
theorem s10 (a : D) : slcD (.tuple [a]) none (some 0) = some (.sh (.tuple [])) := rfl
theorem s20 (a b : D) : slcD (.tuple [a, b]) none (some 0) = some (.sh (.tuple [])) := rfl
theorem s21 (a b : D) : slcD (.tuple [a, b]) none (some 1) = some (.sh (.tuple [a])) := rfl
theorem r_no_repeat {l : List Nam} (h1 : 1 ≤ l.length) (h2 : l.length ≤ 2) (hd : l.Nodup) (ρ : Sto) : runC 1 m_has_repeat [.inl (.tuple (l.map nmD))] ρ = .ok (.sh (.bool false)) ρ := by
  refine run_ok (ds := [.tuple (l.map nmD)]) (ps := [.un]) rfl ?_ rfl
  have i0 : ∀ a : Nam, cmp2 .inn (.str a.1) (.tuple []) = some false := fun a => in_nm a []
  have hb : b_has_repeat [.sh (.tuple (l.map nmD)), .un, .un] = .ok (.rt (.sh (.bool false))) [.sh (.tuple (l.map nmD)), .un, .un] := by
    rcases fs_cases h1 h2 with ⟨a, rfl⟩ | ⟨a, b, rfl⟩
    · have c1 : cLc [1, 2] (bTup 2 (bCons (bNm 1) (bCons (bNm 2) bNil))) (cO (cFz (cVar 0)) enuM) cYes (cFz (cCm .inn (cFz (cVar 2)) (cFz (cSl (cFz (cVar 0)) cNoP (cSmP (cFz (cVar 1))))))) [.sh (.tuple [.str a.1]), .un, .un] = .ok (.ow (.lst ([(0, a)].map fun _ => .bool false))) [.sh (.tuple [.str a.1]), .un, .un] := by
        refine cLc_yes enD _ (ρ1 := [.sh (.tuple [.str a.1]), .un, .un]) (xs := [(0, a)]) ?_ rfl rfl (line_le (by show 1 ≤ 1000; omega)) fun x hx => ?_
        · simp_all! [en1]; rfl
        · obtain rfl : x = (0, a) := List.mem_singleton.mp hx
          refine ⟨[.sh (.tuple [.str a.1]), .sh (.int 0), .sh (.str a.1)], [.sh (.tuple [.str a.1]), .sh (.int 0), .sh (.str a.1)], rfl, ?_, rfl, rfl⟩
          simp_all! [s10, i0]
      have k := any_false [((0 : Nat), a)]
      unfold b_has_repeat
      simp only [List.map_cons, List.map_nil, nmD_e] at *
      simp_all! [c1, k]
    · have hab : decide (b ∈ [a]) = false := decide_eq_false fun z => by
        rw [List.nodup_cons] at hd
        exact hd.1 (by rw [List.mem_singleton.mp z]; exact List.mem_singleton.mpr rfl)
      have i1 : cmp2 .inn (.str b.1) (.tuple [.str a.1]) = some false := (in_nm b [a]).trans (by rw [hab])
      have c1 : cLc [1, 2] (bTup 2 (bCons (bNm 1) (bCons (bNm 2) bNil))) (cO (cFz (cVar 0)) enuM) cYes (cFz (cCm .inn (cFz (cVar 2)) (cFz (cSl (cFz (cVar 0)) cNoP (cSmP (cFz (cVar 1))))))) [.sh (.tuple [.str a.1, .str b.1]), .un, .un] = .ok (.ow (.lst ([(0, a), (1, b)].map fun _ => .bool false))) [.sh (.tuple [.str a.1, .str b.1]), .un, .un] := by
        refine cLc_yes enD _ (ρ1 := [.sh (.tuple [.str a.1, .str b.1]), .un, .un]) (xs := [(0, a), (1, b)]) ?_ rfl rfl (line_le (by show 2 ≤ 1000; omega)) fun x hx => ?_
        · simp_all! [en2]; rfl
        · rcases List.mem_cons.mp hx with rfl | hx
          · refine ⟨[.sh (.tuple [.str a.1, .str b.1]), .sh (.int 0), .sh (.str a.1)], [.sh (.tuple [.str a.1, .str b.1]), .sh (.int 0), .sh (.str a.1)], rfl, ?_, rfl, rfl⟩
            simp_all! [s20, i0]
          · obtain rfl : x = (1, b) := List.mem_singleton.mp hx
            refine ⟨[.sh (.tuple [.str a.1, .str b.1]), .sh (.int 1), .sh (.str b.1)], [.sh (.tuple [.str a.1, .str b.1]), .sh (.int 1), .sh (.str b.1)], rfl, ?_, rfl, rfl⟩
            simp_all! [s21, i1]
      have k := any_false [((0 : Nat), a), (1, b)]
      unfold b_has_repeat
      simp only [List.map_cons, List.map_nil, nmD_e] at *
      simp_all! [c1, k]
  unfold m_has_repeat
  exact fn_rt (n := 1) (N := 3) (as := [.sh (.tuple (l.map nmD))]) hb (by simp)
theorem r_kind_rule {r : Hs.Row} (h : RowOk r) (ls ks : List Nam) (h1 : r.k ∉ ls) (h2 : r.k ∉ ks) (h3 : ∀ g, r.g = some g → g ∈ ls) (h4 : ks.length ≤ 2) (ρ : Sto) : runC 3 m_kind_rule [.inl r.d, .inl (.tuple (ls.map nmD)), .inl (.list (ks.map nmD))] ρ = .ok (.sh (.str "")) ρ := by
  refine run_ok (ds := [r.d, .tuple (ls.map nmD), .list (ks.map nmD)]) (ps := [.un, .un, .un]) rfl ?_ rfl
  have k1 : decide ((3 : Int) ≤ ((ks.map nmD).length : Int)) = false := decide_eq_false (by rw [List.length_map]; omega)
  have k2 : decide (r.k ∈ ls) = false := decide_eq_false h1
  have k3 : decide (r.k ∈ ks) = false := decide_eq_false h2
  have k4 := r_no_repeat h.f1 h.f2 h.nd
  have k5 := r_is_desc h
  have hb : b_kind_rule [.sh r.d, .sh (.tuple (ls.map nmD)), .sh (.list (ks.map nmD))] = .ok (.rt (.sh (.str ""))) [.sh r.d, .sh (.tuple (ls.map nmD)), .sh (.list (ks.map nmD))] := by
    unfold b_kind_rule
    rw [row_e] at k5 ⊢
    cases hg : r.g with
    | none =>
      rw [hg] at k5
      unfold opD at k5
      simp_all! [opD, k5, d__MOST_KINDS, k1, in_nm, k2, in_nl, k3, k4, isN_n, ite_true]
    | some a =>
      have k6 : decide (a ∈ ls) = true := decide_eq_true (h3 a hg)
      rw [hg] at k5
      unfold opD at k5
      simp_all! [opD, k5, d__MOST_KINDS, k1, in_nm, k2, in_nl, k3, k4, isN_s, ite_true, nin_nm, k6]
  unfold m_kind_rule
  exact fn_rt (n := 3) (N := 3) (as := [.sh r.d, .sh (.tuple (ls.map nmD)), .sh (.list (ks.map nmD))]) hb (by simp)
end K05
/-! Dt14: no fault in a hall. -/
namespace K05
open PySem PySem.Spec PyProof.Rows L2 Md Nm Hs
local macro_rules | `(tactic| simp_all! [$ls,*]) => `(tactic| simp -implicitDefEqProofs only [bind_ok', bind_er', selK_t, selK_f, e_fz, e_sh, e_O, optO_s, e_2, e_3, e_var, vS_sh, vS_ow, e_D, e_seq, seqK_nx, seqK_rt, seqK_ct, seqK_bk, e_if, okK_e, e_andT, e_orT, e_notT, e_tru, e_tst, boolD_s, e_and, andK_t, andK_f, e_or, orK_t, orK_f, tru_b, e_cm, e_chn, chK_t, chK_f, e_isN, e_idx, e_isi, e_nil, e_cons, e_tup, e_lst, e_ret, e_nx, e_ex, e_set, e_setSl, sS_un, sS_sh, sS_ow, setRv_sh, setRv_ow, oNx_s, toD_sh, toD_lst, toD_obj, muD_lst, muD_obj, e_par, parK_e, e_noP, e_smP, e_sl, e_not, e_A0, e_Av, e_call, List.getElem?_cons_zero, List.getElem?_cons_succ, List.set_cons_zero, List.set_cons_succ, Option.map_some, Option.map_none, Option.bind_some, Bool.not_true, Bool.not_false, e_att, e_met, e_eqO, boolR_e, notR_e, e_inOp, e_niOp, e_opT, e_put, e_atO, atoK_e, e_rai0, e_makV, e_borT, borK_e, fz_un, fz_sh, List.map_cons, List.map_nil, e_mov, movK_sh, movK_ow, e_asg, fldD_e, clsD_e, e_for, ix0, ix1, ix2, il0, il1, il2, ln_t, ln_l, tup_l, tup_t, list_l, list_t, it_l, it_t, gt_ii, ge_ii, lt_ii, le_ii, eq_ss, ne_ss, eq_ii, ne_ii, eb_nm, asInt, sl1, sl2, nmD_e, dself, dselfi, decide_true, decide_false, len1, len2, len3, n_dec, t_tu, t_tw, t_tg, t_ts, t_ut, t_uw, t_ug, t_us, t_wt, t_wu, t_wg, t_ws, t_gt, t_gu, t_gw, t_gs, t_st, t_su, t_sw, t_sg, $ls,*])
section
variable {α : Type}
def enF (f : α → D) : Nat → List α → List D
  | _, [] => []
  | i, x :: xs => .tuple [.int (i : Int), f x] :: enF f (i + 1) xs
theorem enF_e (f : α → D) : ∀ (xs : List α) (k : Nat), (xs.map f).mapIdx (fun i d => PyData.tuple [.int (((i + k : Nat)) : Int), d]) = enF f k xs
  | [], k => rfl
  | x :: xs, k => by
    rw [List.map_cons, List.mapIdx_cons]
    show PyData.tuple [.int (((0 + k : Nat)) : Int), f x] :: _ = PyData.tuple [.int (k : Int), f x] :: enF f (k + 1) xs
    rw [Nat.zero_add, ← enF_e f xs (k + 1)]
    congr 2
    funext i d
    rw [Nat.add_right_comm, Nat.add_assoc]
theorem enu_t (f : α → D) (xs : List α) : enuM (.tuple (xs.map f)) = some (enF f 0 xs) := congrArg some (enF_e f xs 0)
theorem sl_pre (f : α → D) (pre r : List α) : slcD (.tuple ((pre ++ r).map f)) none (some (pre.length : Int)) = some (.sh (.tuple (pre.map f))) := by
  show some (Rv.sh (.tuple (cutL ((pre ++ r).map f) none (some (pre.length : Int))))) = _
  have e : cutL ((pre ++ r).map f) none (some (pre.length : Int)) = pre.map f := by
    unfold cutL
    have e2 : HT.sIx ((pre ++ r).map f).length ((pre ++ r).map f).length (some (pre.length : Int)) = pre.length := by
      show (if (pre.length : Int) < 0 then ((pre.length : Int) + (((pre ++ r).map f).length : Int)).toNat else min (pre.length : Int).toNat ((pre ++ r).map f).length) = pre.length
      rw [if_neg (by omega), Int.toNat_natCast, List.length_map, List.length_append]
      omega
    rw [e2]
    show (((pre ++ r).map f).drop 0).take (pre.length - 0) = pre.map f
    rw [List.drop_zero, Nat.sub_zero, List.map_append, List.take_append_of_le_length (by rw [List.length_map]; exact Nat.le_refl _), List.take_of_length_le (by rw [List.length_map]; exact Nat.le_refl _)]
  rw [e]
end
def bodyL : Co Fl := cSeq (cSet 4 (cCall 2 m_lock_rule (cAv (cFz (cVar 3)) (cAv (cFz (cSl (cFz (cVar 0)) cNoP (cSmP (cFz (cVar 2))))) cA0))))
  (cIf (cTru (cFz (cVar 4))) (cRet (cTup (cCons (cFz (c2 (cFz (cVar 2)) (cFz (cD (.int 1))) (op2 .add))) (cCons (cFz (cVar 4)) cNil)))) cNx)
theorem loopL (ds : D) : ∀ (r pre : List Nam) (s2 s3 s4 : Sl), SlF s2 → SlF s3 → SlF s4 → (pre ++ r).length ≤ 4 → (pre ++ r).Nodup →
    ∃ s2' s3' s4', SlF s2' ∧ SlF s3' ∧ SlF s4' ∧ forL (bTup 2 (bCons (bNm 2) (bCons (bNm 3) bNil))) bodyL (enF nmD pre.length r) [.sh (.tuple ((pre ++ r).map nmD)), .sh ds, s2, s3, s4, .un, .un] = .ok .nx [.sh (.tuple ((pre ++ r).map nmD)), .sh ds, s2', s3', s4', .un, .un]
  | [], pre, s2, s3, s4, h2, h3, h4, _, _ => ⟨s2, s3, s4, h2, h3, h4, rfl⟩
  | a :: r, pre, s2, s3, s4, h2, h3, h4, hl, hn => by
    have e0 : pre ++ a :: r = (pre ++ [a]) ++ r := by rw [List.append_assoc]; rfl
    have na : a ∉ pre := by
      rw [List.nodup_append] at hn
      exact fun m => hn.2.2 a m a List.mem_cons_self rfl
    have hl2 : pre.length ≤ 3 := by
      rw [List.length_append, List.length_cons] at hl
      omega
    obtain ⟨t2, t3, t4, k2, k3, k4, ih⟩ := loopL ds r (pre ++ [a]) (.sh (.int (pre.length : Int))) (.sh (nmD a)) (.sh (.str "")) (.inr ⟨_, rfl⟩) (.inr ⟨_, rfl⟩) (.inr ⟨_, rfl⟩) (by rw [← e0]; exact hl) (by rw [← e0]; exact hn)
    refine ⟨t2, t3, t4, k2, k3, k4, ?_⟩
    rw [← e0] at ih
    rw [show (pre ++ [a]).length = pre.length + 1 by rw [List.length_append]; rfl] at ih
    have sp := sl_pre nmD pre (a :: r)
    have lr := r_lock_rule a pre hl2 na
    generalize (.tuple ((pre ++ a :: r).map nmD) : D) = LS at ih sp ⊢
    have e1 : bTup 2 (bCons (bNm 2) (bCons (bNm 3) bNil)) (.tuple [.int (pre.length : Int), nmD a]) [.sh LS, .sh ds, s2, s3, s4, .un, .un] = some [.sh LS, .sh ds, .sh (.int (pre.length : Int)), .sh (nmD a), s4, .un, .un] := by
      rcases h2 with rfl | ⟨d2, rfl⟩ <;> rcases h3 with rfl | ⟨d3, rfl⟩ <;> rfl
    have e2 : bodyL [.sh LS, .sh ds, .sh (.int (pre.length : Int)), .sh (nmD a), s4, .un, .un] = .ok .nx [.sh LS, .sh ds, .sh (.int (pre.length : Int)), .sh (nmD a), .sh (.str ""), .un, .un] := by
      unfold bodyL
      rcases h4 with rfl | ⟨d4, rfl⟩
      · simp_all! [sp, lr, tru_e]
      · simp_all! [sp, lr, tru_e]
    show forL _ _ (.tuple [.int (pre.length : Int), nmD a] :: enF nmD (pre.length + 1) r) _ = _
    rw [forL_cons e1 e2]
    exact ih
end K05
/-! Dt15: hall_fault. -/
namespace Md
open PySem PySem.Spec PyProof.Rows L2
def borF : Out Rv → Sto → Out Rv
  | .ok r _, ρ => if flat r.toD then .ok (.sh r.toD) ρ else .st
  | _, _ => .st
theorem e_bor (c : Co Rv) (ρ : Sto) : cBor c ρ = borF (c (ρ.map fzSl)) ρ := by
  unfold cBor
  cases c (ρ.map fzSl) <;> rfl
theorem borF_s (z : PySem.Str) (ρ' ρ : Sto) : borF (.ok (.sh (.str z)) ρ') ρ = .ok (.sh (.str z)) ρ := rfl
theorem fz_ow (b : Bool) (m : Mu) : fzSl (.ow b m) = .sh m.toD := rfl
theorem e_app (i : Nat) (c : Co D) (ρ : Sto) : cApp i c ρ = selK (isOwL ρ i) (fun ρ => (c ρ).bind fun d ρ1 => appL ρ1 i [d]) (fun _ => .st) ρ := by
  unfold cApp
  exact selK_if (isOwL ρ i) (fun ρ => (c ρ).bind fun d ρ1 => appL ρ1 i [d]) (fun _ => .st) ρ
end Md
namespace K05
open PySem PySem.Spec PyProof.Rows L2 Md Nm Hs
local macro_rules | `(tactic| simp_all! [$ls,*]) => `(tactic| simp -implicitDefEqProofs only [bind_ok', bind_er', selK_t, selK_f, e_fz, e_sh, e_O, optO_s, e_2, e_3, e_var, vS_sh, vS_ow, e_D, e_seq, seqK_nx, seqK_rt, seqK_ct, seqK_bk, e_if, okK_e, e_andT, e_orT, e_notT, e_tru, e_tst, boolD_s, e_and, andK_t, andK_f, e_or, orK_t, orK_f, tru_b, e_cm, e_chn, chK_t, chK_f, e_isN, e_idx, e_isi, e_nil, e_cons, e_tup, e_lst, e_ret, e_nx, e_ex, e_set, e_setSl, sS_un, sS_sh, sS_ow, setRv_sh, setRv_ow, oNx_s, toD_sh, toD_lst, toD_obj, muD_lst, muD_obj, e_par, parK_e, e_noP, e_smP, e_sl, e_not, e_A0, e_Av, e_call, List.getElem?_cons_zero, List.getElem?_cons_succ, List.set_cons_zero, List.set_cons_succ, Option.map_some, Option.map_none, Option.bind_some, Bool.not_true, Bool.not_false, e_att, e_met, e_eqO, boolR_e, notR_e, e_inOp, e_niOp, e_opT, e_put, e_atO, atoK_e, e_rai0, e_makV, e_borT, borK_e, fz_un, fz_sh, List.map_cons, List.map_nil, e_mov, movK_sh, movK_ow, e_asg, fldD_e, clsD_e, e_for, ix0, ix1, ix2, il0, il1, il2, ln_t, ln_l, tup_l, tup_t, list_l, list_t, it_l, it_t, gt_ii, ge_ii, lt_ii, le_ii, eq_ss, ne_ss, eq_ii, ne_ii, eb_nm, asInt, sl1, sl2, nmD_e, dself, dselfi, decide_true, decide_false, len1, len2, len3, n_dec, t_tu, t_tw, t_tg, t_ts, t_ut, t_uw, t_ug, t_us, t_wt, t_wu, t_wg, t_ws, t_gt, t_gu, t_gw, t_gs, t_st, t_su, t_sw, t_sg, $ls,*])
/-- a hall that keeps the rules -/
structure Pt.Hok (p : Pt) : Prop where
  l4 : p.ls.length ≤ 4
  ln : p.ls.Nodup
  r1 : 1 ≤ p.rs.length
  r3 : p.rs.length ≤ 3
  kn : p.ks.Nodup
  kl : ∀ r ∈ p.rs, r.k ∉ p.ls
  ro : ∀ r ∈ p.rs, RowOk r
  gl : ∀ r ∈ p.rs, ∀ g, r.g = some g → g ∈ p.ls
theorem Pt.Hok.sz {p : Pt} (h : p.Hok) : p.Sz := ⟨h.l4, h.r3, fun r m => (h.ro r m).f2⟩
def bodyK : Co Fl := cSeq (cSet 4 (cBor (cCall 3 m_kind_rule (cAv (cFz (cVar 6)) (cAv (cFz (cVar 0)) (cAv (cFz (cVar 5)) cA0))))))
  (cSeq (cIf (cTru (cFz (cVar 4))) (cRet (cTup (cCons (cFz (c2 (cFz (c2 (cFz (cO (cFz (cVar 0)) (biD .len))) (cFz (cVar 2)) (op2 .add))) (cFz (cD (.int 1))) (op2 .add))) (cCons (cFz (cVar 4)) cNil)))) cNx)
  (cEx (cApp 5 (cFz (cIdx (cFz (cVar 6)) (cFz (cD (.int 0))))))))
theorem loopK (ls : List Nam) (DS : D) : ∀ (r : List Hs.Row) (i : Nat) (ks : List Nam) (s2 s3 s4 s6 : Sl), SlF s2 → SlF s3 → SlF s4 → SlF s6 → ks.length + r.length ≤ 3 → (ks ++ r.map Hs.Row.k).Nodup → (∀ q ∈ r, RowOk q ∧ q.k ∉ ls ∧ ∀ g, q.g = some g → g ∈ ls) →
    ∃ s2' s4' s6', SlF s2' ∧ SlF s4' ∧ SlF s6' ∧ forL (bTup 2 (bCons (bNm 2) (bCons (bNm 6) bNil))) bodyK (enF Hs.Row.d i r) [.sh (.tuple (ls.map nmD)), .sh DS, s2, s3, s4, .ow false (.lst (ks.map nmD)), s6] = .ok .nx [.sh (.tuple (ls.map nmD)), .sh DS, s2', s3, s4', .ow false (.lst ((ks ++ r.map Hs.Row.k).map nmD)), s6']
  | [], i, ks, s2, s3, s4, s6, h2, h3, h4, h6, _, _, _ => ⟨s2, s4, s6, h2, h4, h6, by rw [List.map_nil, List.append_nil]; rfl⟩
  | a :: r, i, ks, s2, s3, s4, s6, h2, h3, h4, h6, hl, hn, hq => by
    obtain ⟨q1, q2, q3⟩ := hq a List.mem_cons_self
    rw [List.map_cons] at hn
    have e0 : ks ++ a.k :: r.map Hs.Row.k = (ks ++ [a.k]) ++ r.map Hs.Row.k := by rw [List.append_assoc]; rfl
    have na : a.k ∉ ks := by
      rw [List.nodup_append] at hn
      exact fun m => hn.2.2 a.k m a.k List.mem_cons_self rfl
    rw [List.length_cons] at hl
    obtain ⟨t2, t4, t6, k2, k4, k6, ih⟩ := loopK ls DS r (i + 1) (ks ++ [a.k]) (.sh (.int (i : Int))) s3 (.sh (.str "")) (.sh a.d) (.inr ⟨_, rfl⟩) h3 (.inr ⟨_, rfl⟩) (.inr ⟨_, rfl⟩) (by rw [List.length_append]; show ks.length + 1 + r.length ≤ 3; omega) (by rw [← e0]; exact hn) fun q m => hq q (List.mem_cons_of_mem _ m)
    refine ⟨t2, t4, t6, k2, k4, k6, ?_⟩
    rw [List.map_cons, e0]
    have kr := r_kind_rule q1 ls ks q2 na q3 (by omega)
    have e1 : bTup 2 (bCons (bNm 2) (bCons (bNm 6) bNil)) (.tuple [.int (i : Int), a.d]) [.sh (.tuple (ls.map nmD)), .sh DS, s2, s3, s4, .ow false (.lst (ks.map nmD)), s6] = some [.sh (.tuple (ls.map nmD)), .sh DS, .sh (.int (i : Int)), s3, s4, .ow false (.lst (ks.map nmD)), .sh a.d] := by
      rcases h2 with rfl | ⟨d2, rfl⟩ <;> rcases h6 with rfl | ⟨d6, rfl⟩ <;> rfl
    have o1 : isOwL [.sh (.tuple (ls.map nmD)), .sh DS, .sh (.int (i : Int)), s3, .sh (.str ""), .ow false (.lst (ks.map nmD)), .sh a.d] 5 = true := rfl
    have o2 : appL [.sh (.tuple (ls.map nmD)), .sh DS, .sh (.int (i : Int)), s3, .sh (.str ""), .ow false (.lst (ks.map nmD)), .sh a.d] 5 [.str a.k.1] = .ok (.sh .none) [.sh (.tuple (ls.map nmD)), .sh DS, .sh (.int (i : Int)), s3, .sh (.str ""), .ow false (.lst ((ks ++ [a.k]).map nmD)), .sh a.d] := by
      rw [List.map_append]
      exact if_pos (line_le (by rw [List.length_map]; show ks.length + 1 ≤ 1000; omega))
    have ix : idxD a.d (.int 0) = some (.str a.k.1) := ix0 _ _
    have e2 : bodyK [.sh (.tuple (ls.map nmD)), .sh DS, .sh (.int (i : Int)), s3, s4, .ow false (.lst (ks.map nmD)), .sh a.d] = .ok .nx [.sh (.tuple (ls.map nmD)), .sh DS, .sh (.int (i : Int)), s3, .sh (.str ""), .ow false (.lst ((ks ++ [a.k]).map nmD)), .sh a.d] := by
      unfold bodyK
      rcases h4 with rfl | ⟨d4, rfl⟩ <;> rcases h3 with rfl | ⟨d3, rfl⟩ <;> simp_all! [e_bor, fz_ow, kr, borF_s, tru_e, e_app, o1, ix, o2]
    show forL _ _ (.tuple [.int (i : Int), a.d] :: enF Hs.Row.d (i + 1) r) _ = _
    rw [forL_cons e1 e2]
    exact ih
theorem r_hall_fault {p : Pt} (h : p.Hok) (ρ : Sto) : runC 2 m_hall_fault [.inl (.tuple (p.ls.map nmD)), .inl (.tuple (p.rs.map Hs.Row.d))] ρ = .ok (.sh .none) ρ := by
  refine run_ok (ds := [.tuple (p.ls.map nmD), .tuple (p.rs.map Hs.Row.d)]) (ps := [.un, .un]) rfl ?_ rfl
  obtain ⟨s2, s3, s4, h2, h3, h4, l1⟩ := loopL (.tuple (p.rs.map Hs.Row.d)) p.ls [] .un .un .un (.inl rfl) (.inl rfl) (.inl rfl) h.l4 h.ln
  have l1 : forL (bTup 2 (bCons (bNm 2) (bCons (bNm 3) bNil))) bodyL (enF nmD 0 p.ls) [.sh (.tuple (p.ls.map nmD)), .sh (.tuple (p.rs.map Hs.Row.d)), .un, .un, .un, .un, .un] = .ok .nx [.sh (.tuple (p.ls.map nmD)), .sh (.tuple (p.rs.map Hs.Row.d)), s2, s3, s4, .un, .un] := l1
  obtain ⟨t2, t4, t6, k2, k4, k6, l2⟩ := loopK p.ls (.tuple (p.rs.map Hs.Row.d)) p.rs 0 [] s2 s3 s4 .un h2 h3 h4 (.inl rfl) (by show 0 + p.rs.length ≤ 3; have := h.r3; omega) h.kn fun q m => ⟨h.ro q m, h.kl q m, h.gl q m⟩
  have l2 : forL (bTup 2 (bCons (bNm 2) (bCons (bNm 6) bNil))) bodyK (enF Hs.Row.d 0 p.rs) [.sh (.tuple (p.ls.map nmD)), .sh (.tuple (p.rs.map Hs.Row.d)), s2, s3, s4, .ow false (.lst []), .un] = .ok .nx [.sh (.tuple (p.ls.map nmD)), .sh (.tuple (p.rs.map Hs.Row.d)), t2, s3, t4, .ow false (.lst (p.ks.map nmD)), t6] := l2
  have n1 := enu_t nmD p.ls
  have n2 := enu_t Hs.Row.d p.rs
  have tk : tru (.list (p.ks.map nmD)) = some true := by
    show some (!(p.ks.map nmD).isEmpty) = some true
    have r1 := h.r1
    unfold Pt.ks
    cases hr : p.rs with
    | nil => rw [hr] at r1; cases r1
    | cons a r => rfl
  have hb : b_hall_fault [.sh (.tuple (p.ls.map nmD)), .sh (.tuple (p.rs.map Hs.Row.d)), .un, .un, .un, .un, .un] = .ok (.rt (.sh .none)) [.sh (.tuple (p.ls.map nmD)), .sh (.tuple (p.rs.map Hs.Row.d)), t2, s3, t4, .sh (.list (p.ks.map nmD)), t6] := by
    unfold b_hall_fault
    rw [← bodyL, ← bodyK]
    simp_all! [n1, l1, ls0, n2, l2, tk]
  unfold m_hall_fault
  exact fn_rt (n := 2) (N := 7) (as := [.sh (.tuple (p.ls.map nmD)), .sh (.tuple (p.rs.map Hs.Row.d))]) hb (by simp)
end K05
/-! Dt16: a hall is made. -/
namespace K05
open PySem PySem.Spec PyProof.Rows L2 Md Nm Hs
local macro_rules | `(tactic| simp_all! [$ls,*]) => `(tactic| simp -implicitDefEqProofs only [bind_ok', bind_er', selK_t, selK_f, e_fz, e_sh, e_O, optO_s, e_2, e_3, e_var, vS_sh, vS_ow, e_D, e_seq, seqK_nx, seqK_rt, seqK_ct, seqK_bk, e_if, okK_e, e_andT, e_orT, e_notT, e_tru, e_tst, boolD_s, e_and, andK_t, andK_f, e_or, orK_t, orK_f, tru_b, e_cm, e_chn, chK_t, chK_f, e_isN, e_idx, e_isi, e_nil, e_cons, e_tup, e_lst, e_ret, e_nx, e_ex, e_set, e_setSl, sS_un, sS_sh, sS_ow, setRv_sh, setRv_ow, oNx_s, toD_sh, toD_lst, toD_obj, muD_lst, muD_obj, e_par, parK_e, e_noP, e_smP, e_sl, e_not, e_A0, e_Av, e_call, List.getElem?_cons_zero, List.getElem?_cons_succ, List.set_cons_zero, List.set_cons_succ, Option.map_some, Option.map_none, Option.bind_some, Bool.not_true, Bool.not_false, e_att, e_met, e_eqO, boolR_e, notR_e, e_inOp, e_niOp, e_opT, e_put, e_atO, atoK_e, e_rai0, e_makV, e_borT, borK_e, fz_un, fz_sh, List.map_cons, List.map_nil, e_mov, movK_sh, movK_ow, e_asg, fldD_e, clsD_e, e_for, ix0, ix1, ix2, il0, il1, il2, ln_t, ln_l, tup_l, tup_t, list_l, list_t, it_l, it_t, gt_ii, ge_ii, lt_ii, le_ii, eq_ss, ne_ss, eq_ii, ne_ii, eb_nm, asInt, sl1, sl2, nmD_e, dself, dselfi, decide_true, decide_false, len1, len2, len3, n_dec, t_tu, t_tw, t_tg, t_ts, t_ut, t_uw, t_ug, t_us, t_wt, t_wu, t_wg, t_ws, t_gt, t_gu, t_gw, t_gs, t_st, t_su, t_sw, t_sg, $ls,*])
theorem ph1 (v1 : D) (ρ : Sto) : putK 0 "Hall" "locks" v1 (some (.ow true (.obj "Hall" []))) ρ = .ok .nx (ρ.set 0 (.ow true (.obj "Hall" [(.str "locks", v1)]))) := by
  rw [putK_e (by simp)]
  repeat first | rw [setF_no] | rw [setF_ne _ _ _ (by decide +kernel)]
theorem ph2 (v1 v2 : D) (ρ : Sto) : putK 0 "Hall" "descriptions" v2 (some (.ow true (.obj "Hall" [(.str "locks", v1)]))) ρ = .ok .nx (ρ.set 0 (.ow true (.obj "Hall" [(.str "locks", v1), (.str "descriptions", v2)]))) := by
  rw [putK_e (by simp)]
  repeat first | rw [setF_no] | rw [setF_ne _ _ _ (by decide +kernel)]
theorem ph3 (v1 v2 v3 : D) (ρ : Sto) : putK 0 "Hall" "kinds" v3 (some (.ow true (.obj "Hall" [(.str "locks", v1), (.str "descriptions", v2)]))) ρ = .ok .nx (ρ.set 0 (.ow true (.obj "Hall" [(.str "locks", v1), (.str "descriptions", v2), (.str "kinds", v3)]))) := by
  rw [putK_e (by simp)]
  repeat first | rw [setF_no] | rw [setF_ne _ _ _ (by decide +kernel)]
theorem ph4 (v1 v2 v3 v4 : D) (ρ : Sto) : putK 0 "Hall" "sorts" v4 (some (.ow true (.obj "Hall" [(.str "locks", v1), (.str "descriptions", v2), (.str "kinds", v3)]))) ρ = .ok .nx (ρ.set 0 (.ow true (.obj "Hall" [(.str "locks", v1), (.str "descriptions", v2), (.str "kinds", v3), (.str "sorts", v4)]))) := by
  rw [putK_e (by simp)]
  repeat first | rw [setF_no] | rw [setF_ne _ _ _ (by decide +kernel)]
theorem ix_r (r : Hs.Row) : idxD r.d (.int 0) = some (.str r.k.1) := ix0 _ _
theorem sl_r (r : Hs.Row) : slcD r.d (some 2) none = some (.sh (.tuple (r.fs.map nmD))) := sl2 _ _ _
section
variable {p : Pt}
theorem hinit_body (h : p.Hok) : b_Hall_init [.ow true (.obj "Hall" []), .sh (.list (p.ls.map nmD)), .sh (.tuple (p.rs.map Hs.Row.d)), .un, .un, .un, .un, .un, .un] = .ok .nx [.ow true (.obj "Hall" (hallF p)), .sh (.list (p.ls.map nmD)), .sh (.tuple (p.rs.map Hs.Row.d)), .sh .none, .un, .un, .un, .un, .un] := by
  have hf := r_hall_fault h
  have c1 : ∀ fs, cLc [6] (bNm 6) (cO (cFz (cVar 2)) itM) cYes (cFz (cIdx (cFz (cVar 6)) (cFz (cD (.int 0))))) [.ow true (.obj "Hall" fs), .sh (.list (p.ls.map nmD)), .sh (.tuple (p.rs.map Hs.Row.d)), .sh .none, .un, .un, .un, .un, .un] = .ok (.ow (.lst (p.ks.map nmD))) [.ow true (.obj "Hall" fs), .sh (.list (p.ls.map nmD)), .sh (.tuple (p.rs.map Hs.Row.d)), .sh .none, .un, .un, .un, .un, .un] := fun fs => by
    rw [show p.ks.map nmD = p.rs.map fun r => nmD r.k by unfold Pt.ks; rw [List.map_map]; rfl]
    refine cLc_yes Hs.Row.d _ (ρ1 := [.ow true (.obj "Hall" fs), .sh (.list (p.ls.map nmD)), .sh (.tuple (p.rs.map Hs.Row.d)), .sh .none, .un, .un, .un, .un, .un]) ?_ rfl rfl (line_le (Nat.le_trans h.r3 (by omega))) fun x hx => ⟨[.ow true (.obj "Hall" fs), .sh (.list (p.ls.map nmD)), .sh (.tuple (p.rs.map Hs.Row.d)), .sh .none, .un, .un, .sh x.d, .un, .un], [.ow true (.obj "Hall" fs), .sh (.list (p.ls.map nmD)), .sh (.tuple (p.rs.map Hs.Row.d)), .sh .none, .un, .un, .sh x.d, .un, .un], rfl, ?_, rfl, rfl⟩
    · simp_all! []
    · simp_all! [ix_r]
  have c2 : ∀ fs, cLc2 [7, 8] [8] (bNm 7) (cO (cFz (cVar 2)) itM) cYes (bNm 8) (cO (cFz (cSl (cFz (cVar 7)) (cSmP (cFz (cD (.int 2)))) cNoP)) itM) cYes (cFz (cTup (cCons (cFz (cIdx (cFz (cVar 7)) (cFz (cD (.int 0))))) (cCons (cFz (cVar 8)) cNil)))) [.ow true (.obj "Hall" fs), .sh (.list (p.ls.map nmD)), .sh (.tuple (p.rs.map Hs.Row.d)), .sh .none, .un, .un, .un, .un, .un] = .ok (.ow (.lst (p.sorts.map soD))) [.ow true (.obj "Hall" fs), .sh (.list (p.ls.map nmD)), .sh (.tuple (p.rs.map Hs.Row.d)), .sh .none, .un, .un, .un, .un, .un] := fun fs => by
    have e : p.sorts.map soD = p.rs.flatMap fun r => (r.fs.filter fun _ => true).map fun f => soD (r.k, f) := by
      unfold Pt.sorts
      rw [List.map_flatMap]
      congr 1
      funext r
      rw [List.filter_eq_self.mpr fun _ _ => rfl, List.map_map]
      rfl
    rw [e]
    refine cLc2_map Hs.Row.d (fun r => r.fs) nmD (fun _ _ => true) (fun r f => soD (r.k, f)) (ρ1 := [.ow true (.obj "Hall" fs), .sh (.list (p.ls.map nmD)), .sh (.tuple (p.rs.map Hs.Row.d)), .sh .none, .un, .un, .un, .un, .un]) ?_ rfl rfl (by decide) (line_le (Nat.le_trans (len_flat (n := 3) (k := 2) _ p.rs h.r3 fun r m => (h.ro r m).f2) (by omega))) fun x hx => ⟨[.ow true (.obj "Hall" fs), .sh (.list (p.ls.map nmD)), .sh (.tuple (p.rs.map Hs.Row.d)), .sh .none, .un, .un, .un, .sh x.d, .un], [.ow true (.obj "Hall" fs), .sh (.list (p.ls.map nmD)), .sh (.tuple (p.rs.map Hs.Row.d)), .sh .none, .un, .un, .un, .sh x.d, .un], [.ow true (.obj "Hall" fs), .sh (.list (p.ls.map nmD)), .sh (.tuple (p.rs.map Hs.Row.d)), .sh .none, .un, .un, .un, .sh x.d, .un], rfl, ?_, rfl, rfl, fun y hy => ⟨[.ow true (.obj "Hall" fs), .sh (.list (p.ls.map nmD)), .sh (.tuple (p.rs.map Hs.Row.d)), .sh .none, .un, .un, .un, .sh x.d, .sh (nmD y)], [.ow true (.obj "Hall" fs), .sh (.list (p.ls.map nmD)), .sh (.tuple (p.rs.map Hs.Row.d)), .sh .none, .un, .un, .un, .sh x.d, .sh (nmD y)], rfl, rfl, rfl, fun _ => ⟨[.ow true (.obj "Hall" fs), .sh (.list (p.ls.map nmD)), .sh (.tuple (p.rs.map Hs.Row.d)), .sh .none, .un, .un, .un, .sh x.d, .sh (nmD y)], ?_, rfl⟩⟩⟩
    · simp_all! []
    · simp_all! [sl_r]
    · simp_all! [ix_r, tu2, soD]
  unfold b_Hall_init hallF
  simp_all! [hf, isN_n, ite_true, ph1, ph2, ph3, ph4, c1, c2]
theorem r_hall (h : p.Hok) (ρ : Sto) : makeV "Hall" 2 0 m_Hall_init (.inl (.list (p.ls.map nmD)) :: (p.rs.map Hs.Row.d).map .inl) [] ρ = .ok (.ow (.obj "Hall" (hallF p))) ρ := by
  have h1 : m_Hall_init [.ow true (.obj "Hall" []), .sh (.list (p.ls.map nmD)), .sh (.tuple (p.rs.map Hs.Row.d))] = .ok (.sh .none) [.ow true (.obj "Hall" (hallF p)), .un, .un] := by
    unfold m_Hall_init
    exact fn_nx (n := 3) (N := 9) (as := [.ow true (.obj "Hall" []), .sh (.list (p.ls.map nmD)), .sh (.tuple (p.rs.map Hs.Row.d))]) (hinit_body h) (by simp)
  have h3 := h.r3
  exact make_ok (c := "Hall") (ds := .list (p.ls.map nmD) :: p.rs.map Hs.Row.d) (zs := []) (ps := [.un, .un]) ⟨by simp, by simp; omega, rfl, by omega⟩ h1
theorem law_hall (h : p.Hok) (ρ : Sto) : runC 1 m__law_hall [.inl (partsD p)] ρ = .ok (.ow (.obj "Hall" (hallF p))) ρ := by
  have d1 : decide ((2 : Int) = 1) = false := by decide
  have d2 : decide ((3 : Int) = 1) = false := by decide
  have d3 : decide ((3 : Int) = 2) = false := by decide
  have rm := r_hall h
  refine run_ok (ds := [partsD p]) (ps := [.un]) rfl ?_ rfl
  have i0 := pa0 p
  have i1 := pa1 p
  have r1 := h.r1
  have r3 := h.r3
  have hb : b__law_hall [.sh (partsD p), .un] = .ok (.rt (.ow (.obj "Hall" (hallF p)))) [.sh (partsD p), .sh (.list (p.rs.map Hs.Row.d))] := by
    unfold b__law_hall
    generalize hallF p = S at rm ⊢
    generalize partsD p = PD at i0 i1 ⊢
    generalize (.list (p.ls.map nmD) : D) = LS at i0 rm ⊢
    match hr : p.rs with
    | [] => rw [hr] at r1; exact absurd r1 (by simp)
    | [a] =>
      rw [hr] at i1 rm
      have rm1 : ∀ ρ, makeV "Hall" 2 0 m_Hall_init [.inl LS, .inl a.d] [] ρ = .ok (.ow (.obj "Hall" S)) ρ := rm
      have i1 : idxD PD (.int 1) = some (.list [a.d]) := i1
      simp_all! [i0, i1, rm1]
    | [a, b] =>
      rw [hr] at i1 rm
      have rm1 : ∀ ρ, makeV "Hall" 2 0 m_Hall_init [.inl LS, .inl a.d, .inl b.d] [] ρ = .ok (.ow (.obj "Hall" S)) ρ := rm
      have i1 : idxD PD (.int 1) = some (.list [a.d, b.d]) := i1
      simp_all! [i0, i1, d1, rm1]
    | [a, b, c] =>
      rw [hr] at i1 rm
      have rm1 : ∀ ρ, makeV "Hall" 2 0 m_Hall_init [.inl LS, .inl a.d, .inl b.d, .inl c.d] [] ρ = .ok (.ow (.obj "Hall" S)) ρ := rm
      have i1 : idxD PD (.int 1) = some (.list [a.d, b.d, c.d]) := i1
      simp_all! [i0, i1, d2, d3, rm1]
    | _ :: _ :: _ :: _ :: _ => rw [hr] at r3; exact absurd r3 (by simp)
  unfold m__law_hall
  exact fn_rt (n := 1) (N := 2) (as := [.sh (partsD p)]) hb (by simp)
end
end K05
/-! Dt17: the law's draws, one by one. -/
namespace Md
open PySem PySem.Spec PyProof.Rows L2
variable {ρ : Sto}
/-- a call that is lent one list or object of one's own -/
theorem run_own {n i : Nat} {φ : Co Rv} {b : Bool} {m m' : Mu} {ds : List D} {r : Rv} {ps : Sto} (h : ρ[i]? = some (.ow b m)) (hn : ds.length + 1 = n) (hφ : φ (.ow true m :: ds.map .sh) = .ok r (.ow true m' :: ps)) (hp : ps.length = ds.length) :
    runC n φ (.inr i :: ds.map .inl) ρ = .ok r (ρ.set i (.ow b m')) := by
  have e1 : callArgs ρ (.inr i :: ds.map .inl) = some (.ow true m :: ds.map .sh) := by
    show (match ρ[i]? with | some (.ow _ m) => (callArgs ρ (ds.map .inl)).map (Sl.ow true m :: ·) | _ => none) = _
    rw [h, callArgs_inl]
    rfl
  have e2 : ownIx (.inr i :: ds.map (Sum.inl : D → D ⊕ Nat)) = [i] := by
    show i :: ownIx (ds.map .inl) = [i]
    rw [ownIx_inl]
  unfold runC
  rw [e1]
  show (if (Sum.inr i :: ds.map Sum.inl : Ar).length = n ∧ nodupB (ownIx (.inr i :: ds.map .inl)) = true then _ else _) = _
  rw [if_pos ⟨by rw [List.length_cons, List.length_map]; exact hn, by rw [e2]; rfl⟩, hφ]
  show (match (match ρ[i]? with | some (.ow b _) => backO (ds.map .inl) ps (ρ.set i (.ow b m')) | _ => none) with | some ρ1 => Out.ok r ρ1 | none => Out.st) = _
  rw [h]
  show (match backO (ds.map .inl) ps (ρ.set i (.ow b m')) with | some ρ1 => Out.ok r ρ1 | none => Out.st) = _
  rw [backO_inl ds ps _ hp]
theorem Ao_e {i : Nat} {b : Bool} {m : Mu} (h : ρ[i]? = some (.ow b m)) (r : Co Ar) : cAo i r ρ = (r ρ).bind fun xs ρ2 => .ok (.inr i :: xs) ρ2 := by
  unfold cAo
  rw [h]
theorem pop0 (b : Bool) (d : D) (r : List D) (ρ : Sto) : cPop 0 false (.ow b (.lst (d :: r)) :: ρ) = .ok (.sh d) (.ow b (.lst r) :: ρ) := rfl
theorem fz_ow2 (b : Bool) (m : Mu) : fzSl (.ow b m) = .sh m.toD := rfl
end Md
namespace K05
open PySem PySem.Spec PyProof.Rows L2 Md Nm Hs
local macro_rules | `(tactic| simp_all! [$ls,*]) => `(tactic| simp -implicitDefEqProofs only [bind_ok', bind_er', selK_t, selK_f, e_fz, e_sh, e_O, optO_s, e_2, e_3, e_var, vS_sh, vS_ow, e_D, e_seq, seqK_nx, seqK_rt, seqK_ct, seqK_bk, e_if, okK_e, e_andT, e_orT, e_notT, e_tru, e_tst, boolD_s, e_and, andK_t, andK_f, e_or, orK_t, orK_f, tru_b, e_cm, e_chn, chK_t, chK_f, e_isN, e_idx, e_isi, e_nil, e_cons, e_tup, e_lst, e_ret, e_nx, e_ex, e_set, e_setSl, sS_un, sS_sh, sS_ow, setRv_sh, setRv_ow, oNx_s, toD_sh, toD_lst, toD_obj, muD_lst, muD_obj, e_par, parK_e, e_noP, e_smP, e_sl, e_not, e_A0, e_Av, e_call, List.getElem?_cons_zero, List.getElem?_cons_succ, List.set_cons_zero, List.set_cons_succ, Option.map_some, Option.map_none, Option.bind_some, Bool.not_true, Bool.not_false, e_att, e_met, e_eqO, boolR_e, notR_e, e_inOp, e_niOp, e_opT, e_put, e_atO, atoK_e, e_rai0, e_makV, e_borT, borK_e, fz_un, fz_sh, List.map_cons, List.map_nil, e_mov, movK_sh, movK_ow, e_asg, fldD_e, clsD_e, e_for, ix0, ix1, ix2, il0, il1, il2, ln_t, ln_l, tup_l, tup_t, list_l, list_t, it_l, it_t, gt_ii, ge_ii, lt_ii, le_ii, eq_ss, ne_ss, eq_ii, ne_ii, eb_nm, asInt, sl1, sl2, nmD_e, dself, dselfi, decide_true, decide_false, len1, len2, len3, n_dec, t_tu, t_tw, t_tg, t_ts, t_ut, t_uw, t_ug, t_us, t_wt, t_wu, t_wg, t_ws, t_gt, t_gu, t_gw, t_gs, t_st, t_su, t_sw, t_sg, $ls,*])
def iD (i : Int) : D := .int i
theorem iD_e (i : Int) : iD i = .int i := rfl
/-- the draw and what is left of the list -/
def nxt : List Int → Nat → Int × List Int
  | [], _ => (0, [])
  | x :: r, n => (x % (n : Int), r)
theorem nxt_lt (xs : List Int) {n : Nat} (h : 0 < n) : 0 ≤ (nxt xs n).1 ∧ (nxt xs n).1 < n := by
  cases xs with
  | nil => exact ⟨Int.le_refl _, by show (0 : Int) < n; omega⟩
  | cons x r => exact ⟨Int.emod_nonneg _ (by omega), Int.emod_lt_of_pos _ (by omega)⟩
theorem nxt_len (xs : List Int) (n : Nat) : (nxt xs n).2.length ≤ xs.length := by
  cases xs with
  | nil => exact Nat.le_refl _
  | cons x r => exact Nat.le_succ _
theorem next_ok (xs : List Int) {n : Nat} (h : 0 < n) : m__law_next [.ow true (.lst (xs.map iD)), .sh (.int (n : Int))] = .ok (.sh (.int (nxt xs n).1)) [.ow true (.lst ((nxt xs n).2.map iD)), .un] := by
  unfold m__law_next
  cases xs with
  | nil =>
    have hb : b__law_next [.ow true (.lst []), .sh (.int (n : Int))] = .ok (.rt (.sh (.int 0))) [.ow true (.lst []), .sh (.int (n : Int))] := by
      unfold b__law_next
      simp_all! [fz_ow2, len0]
    exact fn_rt (n := 2) (N := 2) (as := [.ow true (.lst []), .sh (.int (n : Int))]) hb (by simp)
  | cons x r =>
    have d0 : decide ((((iD x :: r.map iD : List D).length : Nat) : Int) = 0) = false := decide_eq_false (by rw [List.length_cons]; omega)
    have o1 : biD .int (.int x) = some (.sh (.int x)) := rfl
    have o2 : op2 .mod (.int x) (.int (n : Int)) = some (.sh (.int (x % (n : Int)))) := if_pos (by omega)
    have hb : b__law_next [.ow true (.lst (iD x :: r.map iD)), .sh (.int (n : Int))] = .ok (.rt (.sh (.int (x % (n : Int))))) [.ow true (.lst (r.map iD)), .sh (.int (n : Int))] := by
      unfold b__law_next
      rw [iD_e] at d0 ⊢
      simp_all! [fz_ow2, d0, pop0, o1, o2]
    exact fn_rt (n := 2) (N := 2) (as := [.ow true (.lst (iD x :: r.map iD)), .sh (.int (n : Int))]) hb (by simp)
theorem c_next {ρ : Sto} {i n : Nat} {b : Bool} {xs : List Int} {a : Co D} (h : ρ[i]? = some (.ow b (.lst (xs.map iD)))) (ha : a ρ = .ok (.int (n : Int)) ρ) (hn : 0 < n) :
    cCall 2 m__law_next (cAo i (cAv a cA0)) ρ = .ok (.sh (.int (nxt xs n).1)) (ρ.set i (.ow b (.lst ((nxt xs n).2.map iD)))) := by
  rw [e_call, Ao_e h, e_Av, ha]
  exact run_own (ds := [.int (n : Int)]) (ps := [.un]) h rfl (next_ok xs hn) rfl
end K05
/-! Dt18: told marks are closed. -/
namespace K05
open PySem PySem.Spec PyProof.Rows L2 Md Nm Hs
local macro_rules | `(tactic| simp_all! [$ls,*]) => `(tactic| simp -implicitDefEqProofs only [bind_ok', bind_er', selK_t, selK_f, e_fz, e_sh, e_O, optO_s, e_2, e_3, e_var, vS_sh, vS_ow, e_D, e_seq, seqK_nx, seqK_rt, seqK_ct, seqK_bk, e_if, okK_e, e_andT, e_orT, e_notT, e_tru, e_tst, boolD_s, e_and, andK_t, andK_f, e_or, orK_t, orK_f, tru_b, e_cm, e_chn, chK_t, chK_f, e_isN, e_idx, e_isi, e_nil, e_cons, e_tup, e_lst, e_ret, e_nx, e_ex, e_set, e_setSl, sS_un, sS_sh, sS_ow, setRv_sh, setRv_ow, oNx_s, toD_sh, toD_lst, toD_obj, muD_lst, muD_obj, e_par, parK_e, e_noP, e_smP, e_sl, e_not, e_A0, e_Av, e_call, List.getElem?_cons_zero, List.getElem?_cons_succ, List.set_cons_zero, List.set_cons_succ, Option.map_some, Option.map_none, Option.bind_some, Bool.not_true, Bool.not_false, e_att, e_met, e_eqO, boolR_e, notR_e, e_inOp, e_niOp, e_opT, e_put, e_atO, atoK_e, e_rai0, e_makV, e_borT, borK_e, fz_un, fz_sh, List.map_cons, List.map_nil, e_mov, movK_sh, movK_ow, e_asg, fldD_e, clsD_e, e_for, ix0, ix1, ix2, il0, il1, il2, ln_t, ln_l, tup_l, tup_t, list_l, list_t, it_l, it_t, gt_ii, ge_ii, lt_ii, le_ii, eq_ss, ne_ss, eq_ii, ne_ii, eb_nm, asInt, sl1, sl2, nmD_e, dself, dselfi, decide_true, decide_false, len1, len2, len3, n_dec, t_tu, t_tw, t_tg, t_ts, t_ut, t_uw, t_ug, t_us, t_wt, t_wu, t_wg, t_ws, t_gt, t_gu, t_gw, t_gs, t_st, t_su, t_sw, t_sg, $ls,*])
def bodyC : Co Fl := cSeq (cSet 6 (cLc [7] (bNm 7) (cO (cFz (cCall 3 m__law_needs (cAv (cFz (cVar 1)) (cAv (cFz (cVar 2)) (cAv (cFz (cVar 5)) cA0))))) itM) (cBorT (cTst (cCm .nin (cFz (cVar 7)) (cFz (cVar 4))))) (cFz (cVar 7))))
  (cIf (cAndT (cTst (cCm .eq (cFz (cO (cFz (cVar 6)) (biD .len))) (cFz (cD (.int 0))))) (cTst (cCm .lt (cFz (cCall 2 m__law_next (cAo 0 (cAv (cFz (cD (.int 6))) cA0)))) (cFz (cVar 3))))) (cEx (cApp 4 (cFz (cVar 5)))) cNx)
section
variable {p : Pt} {pl : List Nam}
theorem loopC (hz : p.Sz) (hd : p.ks.Nodup) (sh : Int) : ∀ (r acc : List Mk) (xs : List Int) (s5 s6 : Sl), SlF s5 → SlF s6 → acc.length + r.length ≤ 40 →
    ∃ (r' : List Mk) (xs' : List Int) (s5' s6' : Sl), r'.Sublist r ∧ (∀ m ∈ r', ∀ n ∈ needs p pl m, n ∈ acc ++ r') ∧ xs'.length ≤ xs.length ∧ SlF s5' ∧ SlF s6' ∧
      forL (bNm 5) bodyC (r.map Mk.d) [.ow true (.lst (xs.map iD)), .sh (partsD p), .sh (.list (pl.map nmD)), .sh (.int sh), .ow false (.lst (acc.map Mk.d)), s5, s6, .un] = .ok .nx [.ow true (.lst (xs'.map iD)), .sh (partsD p), .sh (.list (pl.map nmD)), .sh (.int sh), .ow false (.lst ((acc ++ r').map Mk.d)), s5', s6', .un]
  | [], acc, xs, s5, s6, h5, h6, _ => ⟨[], xs, s5, s6, .slnil, (by intro m hm; cases hm), Nat.le_refl _, h5, h6, by rw [List.append_nil]; rfl⟩
  | m :: r, acc, xs, s5, s6, h5, h6, hl => by
    rw [List.length_cons] at hl
    have e1 : bNm 5 m.d [.ow true (.lst (xs.map iD)), .sh (partsD p), .sh (.list (pl.map nmD)), .sh (.int sh), .ow false (.lst (acc.map Mk.d)), s5, s6, .un] = some [.ow true (.lst (xs.map iD)), .sh (partsD p), .sh (.list (pl.map nmD)), .sh (.int sh), .ow false (.lst (acc.map Mk.d)), .sh m.d, s6, .un] := by rcases h5 with rfl | ⟨d, rfl⟩ <;> rfl
    have ln := law_needs (pl := pl) hz hd m
    have nl := needs_len p pl m
    have c1 : cLc [7] (bNm 7) (cO (cFz (cCall 3 m__law_needs (cAv (cFz (cVar 1)) (cAv (cFz (cVar 2)) (cAv (cFz (cVar 5)) cA0))))) itM) (cBorT (cTst (cCm .nin (cFz (cVar 7)) (cFz (cVar 4))))) (cFz (cVar 7)) [.ow true (.lst (xs.map iD)), .sh (partsD p), .sh (.list (pl.map nmD)), .sh (.int sh), .ow false (.lst (acc.map Mk.d)), .sh m.d, s6, .un] = .ok (.ow (.lst (((needs p pl m).filter fun n => !decide (n ∈ acc)).map Mk.d))) [.ow true (.lst (xs.map iD)), .sh (partsD p), .sh (.list (pl.map nmD)), .sh (.int sh), .ow false (.lst (acc.map Mk.d)), .sh m.d, s6, .un] := by
      refine cLc_map Mk.d (fun n => !decide (n ∈ acc)) _ (ρ1 := [.ow true (.lst (xs.map iD)), .sh (partsD p), .sh (.list (pl.map nmD)), .sh (.int sh), .ow false (.lst (acc.map Mk.d)), .sh m.d, s6, .un]) ?_ rfl rfl (line_le (by omega)) fun x hx => ⟨[.ow true (.lst (xs.map iD)), .sh (partsD p), .sh (.list (pl.map nmD)), .sh (.int sh), .ow false (.lst (acc.map Mk.d)), .sh m.d, s6, .sh x.d], [.ow true (.lst (xs.map iD)), .sh (partsD p), .sh (.list (pl.map nmD)), .sh (.int sh), .ow false (.lst (acc.map Mk.d)), .sh m.d, s6, .sh x.d], rfl, ?_, rfl, fun _ => ⟨[.ow true (.lst (xs.map iD)), .sh (partsD p), .sh (.list (pl.map nmD)), .sh (.int sh), .ow false (.lst (acc.map Mk.d)), .sh m.d, s6, .sh x.d], ?_, rfl⟩⟩
      · simp_all! [ln]
      · simp_all! [fz_ow2, ni_mk]
      · simp_all! []
    generalize hL : (needs p pl m).filter (fun n => !decide (n ∈ acc)) = lk at c1
    have d0 : ∀ k : Bool, decide (lk.length = 0) = k → decide ((((lk.map Mk.d).length : Nat) : Int) = 0) = k := fun k h => by
      rw [← h, List.length_map, decide_eq_decide]
      omega
    have nx : (cAo 0 (cAv (cFz (cD (.int 6))) cA0) [.ow true (.lst (xs.map iD)), .sh (partsD p), .sh (.list (pl.map nmD)), .sh (.int sh), .ow false (.lst (acc.map Mk.d)), .sh m.d, .sh (.list (lk.map Mk.d)), .un]).bind (fun xs ρ1 => runC 2 m__law_next xs ρ1) = .ok (.sh (.int (nxt xs 6).1)) [.ow true (.lst ((nxt xs 6).2.map iD)), .sh (partsD p), .sh (.list (pl.map nmD)), .sh (.int sh), .ow false (.lst (acc.map Mk.d)), .sh m.d, .sh (.list (lk.map Mk.d)), .un] := (e_call 2 m__law_next _ _).symm.trans (c_next (n := 6) (b := true) (xs := xs) rfl rfl (by omega))
    by_cases hk : lk.length = 0
    · have hk1 := d0 true (decide_eq_true hk)
      have hlk : lk = [] := List.eq_nil_of_length_eq_zero hk
      have hin : ∀ n ∈ needs p pl m, n ∈ acc := fun n hn => by
        by_cases z : n ∈ acc
        · exact z
        · have : n ∈ lk := by rw [← hL]; exact List.mem_filter.mpr ⟨hn, by rw [decide_eq_false z]; rfl⟩
          rw [hlk] at this
          cases this
      by_cases hs : (nxt xs 6).1 < sh
      · have hs1 := decide_eq_true hs
        obtain ⟨r', xs', t5, t6, q1, q2, q3, q4, q5, q6⟩ := loopC hz hd sh r (acc ++ [m]) (nxt xs 6).2 (.sh m.d) (.sh (.list (lk.map Mk.d))) (.inr ⟨_, rfl⟩) (.inr ⟨_, rfl⟩) (by rw [List.length_append]; show acc.length + 1 + r.length ≤ 40; omega)
        have o1 : isOwL [.ow true (.lst ((nxt xs 6).2.map iD)), .sh (partsD p), .sh (.list (pl.map nmD)), .sh (.int sh), .ow false (.lst (acc.map Mk.d)), .sh m.d, .sh (.list (lk.map Mk.d)), .un] 4 = true := rfl
        have o2 : appL [.ow true (.lst ((nxt xs 6).2.map iD)), .sh (partsD p), .sh (.list (pl.map nmD)), .sh (.int sh), .ow false (.lst (acc.map Mk.d)), .sh m.d, .sh (.list (lk.map Mk.d)), .un] 4 [m.d] = .ok (.sh .none) [.ow true (.lst ((nxt xs 6).2.map iD)), .sh (partsD p), .sh (.list (pl.map nmD)), .sh (.int sh), .ow false (.lst ((acc ++ [m]).map Mk.d)), .sh m.d, .sh (.list (lk.map Mk.d)), .un] := by
          rw [List.map_append]
          exact if_pos (line_le (by rw [List.length_map]; show acc.length + 1 ≤ 1000; omega))
        have e2 : bodyC [.ow true (.lst (xs.map iD)), .sh (partsD p), .sh (.list (pl.map nmD)), .sh (.int sh), .ow false (.lst (acc.map Mk.d)), .sh m.d, s6, .un] = .ok .nx [.ow true (.lst ((nxt xs 6).2.map iD)), .sh (partsD p), .sh (.list (pl.map nmD)), .sh (.int sh), .ow false (.lst ((acc ++ [m]).map Mk.d)), .sh m.d, .sh (.list (lk.map Mk.d)), .un] := by
          unfold bodyC
          rcases h6 with rfl | ⟨d6, rfl⟩ <;> simp_all! [c1, hk1, nx, hs1, e_app, o1, o2]
        refine ⟨m :: r', xs', t5, t6, q1.cons₂ m, ?_, Nat.le_trans q3 (nxt_len xs 6), q4, q5, ?_⟩
        · intro x hx n hn
          rw [show acc ++ m :: r' = (acc ++ [m]) ++ r' by rw [List.append_assoc]; rfl]
          rcases List.mem_cons.mp hx with rfl | hx
          · exact List.mem_append_left _ (List.mem_append_left _ (hin n hn))
          · exact q2 x hx n hn
        · rw [List.map_cons, forL_cons e1 e2, show acc ++ m :: r' = (acc ++ [m]) ++ r' by rw [List.append_assoc]; rfl]
          exact q6
      · have hs1 := decide_eq_false hs
        obtain ⟨r', xs', t5, t6, q1, q2, q3, q4, q5, q6⟩ := loopC hz hd sh r acc (nxt xs 6).2 (.sh m.d) (.sh (.list (lk.map Mk.d))) (.inr ⟨_, rfl⟩) (.inr ⟨_, rfl⟩) (by omega)
        have e2 : bodyC [.ow true (.lst (xs.map iD)), .sh (partsD p), .sh (.list (pl.map nmD)), .sh (.int sh), .ow false (.lst (acc.map Mk.d)), .sh m.d, s6, .un] = .ok .nx [.ow true (.lst ((nxt xs 6).2.map iD)), .sh (partsD p), .sh (.list (pl.map nmD)), .sh (.int sh), .ow false (.lst (acc.map Mk.d)), .sh m.d, .sh (.list (lk.map Mk.d)), .un] := by
          unfold bodyC
          rcases h6 with rfl | ⟨d6, rfl⟩ <;> simp_all! [c1, hk1, nx, hs1]
        refine ⟨r', xs', t5, t6, q1.cons m, q2, Nat.le_trans q3 (nxt_len xs 6), q4, q5, ?_⟩
        rw [List.map_cons, forL_cons e1 e2]
        exact q6
    · have hk1 := d0 false (decide_eq_false hk)
      obtain ⟨r', xs', t5, t6, q1, q2, q3, q4, q5, q6⟩ := loopC hz hd sh r acc xs (.sh m.d) (.sh (.list (lk.map Mk.d))) (.inr ⟨_, rfl⟩) (.inr ⟨_, rfl⟩) (by omega)
      have e2 : bodyC [.ow true (.lst (xs.map iD)), .sh (partsD p), .sh (.list (pl.map nmD)), .sh (.int sh), .ow false (.lst (acc.map Mk.d)), .sh m.d, s6, .un] = .ok .nx [.ow true (.lst (xs.map iD)), .sh (partsD p), .sh (.list (pl.map nmD)), .sh (.int sh), .ow false (.lst (acc.map Mk.d)), .sh m.d, .sh (.list (lk.map Mk.d)), .un] := by
        unfold bodyC
        rcases h6 with rfl | ⟨d6, rfl⟩ <;> simp_all! [c1, hk1]
      refine ⟨r', xs', t5, t6, q1.cons m, q2, q3, q4, q5, ?_⟩
      rw [List.map_cons, forL_cons e1 e2]
      exact q6
end
end K05
/-! Dt19: _law_closed; the marks of a hall are different. -/
namespace K05
open PySem PySem.Spec PyProof.Rows L2 Md Nm Hs
local macro_rules | `(tactic| simp_all! [$ls,*]) => `(tactic| simp -implicitDefEqProofs only [bind_ok', bind_er', selK_t, selK_f, e_fz, e_sh, e_O, optO_s, e_2, e_3, e_var, vS_sh, vS_ow, e_D, e_seq, seqK_nx, seqK_rt, seqK_ct, seqK_bk, e_if, okK_e, e_andT, e_orT, e_notT, e_tru, e_tst, boolD_s, e_and, andK_t, andK_f, e_or, orK_t, orK_f, tru_b, e_cm, e_chn, chK_t, chK_f, e_isN, e_idx, e_isi, e_nil, e_cons, e_tup, e_lst, e_ret, e_nx, e_ex, e_set, e_setSl, sS_un, sS_sh, sS_ow, setRv_sh, setRv_ow, oNx_s, toD_sh, toD_lst, toD_obj, muD_lst, muD_obj, e_par, parK_e, e_noP, e_smP, e_sl, e_not, e_A0, e_Av, e_call, List.getElem?_cons_zero, List.getElem?_cons_succ, List.set_cons_zero, List.set_cons_succ, Option.map_some, Option.map_none, Option.bind_some, Bool.not_true, Bool.not_false, e_att, e_met, e_eqO, boolR_e, notR_e, e_inOp, e_niOp, e_opT, e_put, e_atO, atoK_e, e_rai0, e_makV, e_borT, borK_e, fz_un, fz_sh, List.map_cons, List.map_nil, e_mov, movK_sh, movK_ow, e_asg, fldD_e, clsD_e, e_for, ix0, ix1, ix2, il0, il1, il2, ln_t, ln_l, tup_l, tup_t, list_l, list_t, it_l, it_t, gt_ii, ge_ii, lt_ii, le_ii, eq_ss, ne_ss, eq_ii, ne_ii, eb_nm, asInt, sl1, sl2, nmD_e, dself, dselfi, decide_true, decide_false, len1, len2, len3, n_dec, t_tu, t_tw, t_tg, t_ts, t_ut, t_uw, t_ug, t_us, t_wt, t_wu, t_wg, t_ws, t_gt, t_gu, t_gw, t_gs, t_st, t_su, t_sw, t_sg, $ls,*])
section
variable {p : Pt} {pl : List Nam}
theorem law_closed {ρ : Sto} {i : Nat} {b : Bool} {xs : List Int} (hz : p.Sz) (hd : p.ks.Nodup) (h3 : pl.length ≤ 3) (sh : Int) (h : ρ[i]? = some (.ow b (.lst (xs.map iD)))) :
    ∃ (ms : List Mk) (xs' : List Int), ms.Sublist (allM p pl.length) ∧ (∀ m ∈ ms, ∀ n ∈ needs p pl m, n ∈ ms) ∧ xs'.length ≤ xs.length ∧
      runC 4 m__law_closed [.inr i, .inl (partsD p), .inl (.list (pl.map nmD)), .inl (.int sh)] ρ = .ok (.ow (.lst (ms.map Mk.d))) (ρ.set i (.ow b (.lst (xs'.map iD)))) := by
  obtain ⟨ms, xs', s5, s6, q1, q2, q3, q4, q5, q6⟩ := loopC (pl := pl) hz hd sh (allM p pl.length) [] xs .un .un (.inl rfl) (.inl rfl) (by have := hz.al h3; show 0 + _ ≤ 40; omega)
  refine ⟨ms, xs', q1, q2, q3, ?_⟩
  refine run_own (ds := [partsD p, .list (pl.map nmD), .int sh]) (ps := [.un, .un, .un]) h rfl ?_ rfl
  have am := law_all_ok (p := p) (pl := pl.map nmD) hz (by rw [List.length_map]; exact h3)
  rw [List.length_map] at am
  have q6 : forL (bNm 5) bodyC ((allM p pl.length).map Mk.d) [.ow true (.lst (xs.map iD)), .sh (partsD p), .sh (.list (pl.map nmD)), .sh (.int sh), .ow false (.lst []), .un, .un, .un] = .ok .nx [.ow true (.lst (xs'.map iD)), .sh (partsD p), .sh (.list (pl.map nmD)), .sh (.int sh), .ow false (.lst (ms.map Mk.d)), s5, s6, .un] := q6
  have hb : b__law_closed [.ow true (.lst (xs.map iD)), .sh (partsD p), .sh (.list (pl.map nmD)), .sh (.int sh), .un, .un, .un, .un] = .ok (.rt (.ow (.lst (ms.map Mk.d)))) [.ow true (.lst (xs'.map iD)), .sh (partsD p), .sh (.list (pl.map nmD)), .sh (.int sh), .un, s5, s6, .un] := by
    unfold b__law_closed
    rw [← bodyC]
    simp_all! [ls0, am, q6]
  unfold m__law_closed
  exact fn_rt (n := 4) (N := 8) (as := [.ow true (.lst (xs.map iD)), .sh (partsD p), .sh (.list (pl.map nmD)), .sh (.int sh)]) hb (by simp)
theorem nd_map {α β : Type} {f : α → β} (hf : ∀ x y, f x = f y → x = y) : ∀ {l : List α}, l.Nodup → (l.map f).Nodup
  | [], _ => List.nodup_nil
  | x :: l, h => by
    rw [List.nodup_cons] at h
    rw [List.map_cons, List.nodup_cons]
    refine ⟨fun m => ?_, nd_map hf h.2⟩
    obtain ⟨y, hy, e⟩ := List.mem_map.mp m
    exact h.1 (hf _ _ e ▸ hy)
theorem nd_flat {α β : Type} {f : α → List β} (hd : ∀ x y b, b ∈ f x → b ∈ f y → x = y) : ∀ {l : List α}, l.Nodup → (∀ x ∈ l, (f x).Nodup) → (l.flatMap f).Nodup
  | [], _, _ => List.nodup_nil
  | x :: l, h, hf => by
    rw [List.nodup_cons] at h
    rw [List.flatMap_cons, List.nodup_append]
    refine ⟨hf x List.mem_cons_self, nd_flat hd h.2 fun y m => hf y (List.mem_cons_of_mem _ m), fun a ha b hb e => ?_⟩
    subst e
    obtain ⟨y, hy, hb⟩ := List.mem_flatMap.mp hb
    have : x = y := hd x y a ha hb
    exact h.1 (this ▸ hy)
/-- in order, as a part of a list of different marks -/
theorem ord_sub {n : Nat} {ms : List Mk} (hn : (allM p n).Nodup) (h : ms.Sublist (allM p n)) : Ord p n ms := by
  unfold Ord told
  generalize allM p n = L at hn h
  induction h with
  | slnil => rfl
  | @cons l1 l2 a h ih =>
    rw [List.nodup_cons] at hn
    have na : a ∉ l1 := fun m => hn.1 (h.subset m)
    rw [List.filter_cons_of_neg (by rw [decide_eq_false na]; intro z; cases z)]
    exact ih hn.2
  | @cons_cons l1 l2 a h ih =>
    rw [List.nodup_cons] at hn
    rw [List.filter_cons_of_pos (p := fun m => decide (m ∈ a :: l1)) (decide_eq_true List.mem_cons_self)]
    congr 1
    refine Eq.trans (List.filter_congr fun x hx => ?_) (ih hn.2)
    rw [decide_eq_decide, List.mem_cons]
    exact ⟨fun z => z.elim (fun e => absurd (e ▸ hx) hn.1) id, .inr⟩
end
end K05
/-! Dt20: the marks of a hall are different. -/
namespace K05
open PySem PySem.Spec PyProof.Rows L2 Md Nm Hs
theorem nd_app {α : Type} {a b : List α} (ha : a.Nodup) (hb : b.Nodup) (h : ∀ x ∈ a, x ∉ b) : (a ++ b).Nodup := List.nodup_append.mpr ⟨ha, hb, fun x hx y hy e => h x hx (e ▸ hy)⟩
theorem ks_inj {rs : List Hs.Row} (h : (rs.map Hs.Row.k).Nodup) : rs.Nodup := by
  induction rs with
  | nil => exact List.nodup_nil
  | cons r rs ih =>
    rw [List.map_cons, List.nodup_cons] at h
    rw [List.nodup_cons]
    exact ⟨fun m => h.1 (List.mem_map.mpr ⟨r, m, rfl⟩), ih h.2⟩
theorem nd_wri : ∀ {rs : List Hs.Row}, (rs.map Hs.Row.k).Nodup → (∀ r ∈ rs, RowOk r) → (rs.flatMap wriOf).Nodup
  | [], _, _ => List.nodup_nil
  | r :: rs, h, hr => by
    rw [List.map_cons, List.nodup_cons] at h
    rw [List.flatMap_cons]
    refine nd_app (nd_map (fun x y e => by injection e) (hr r List.mem_cons_self).nd) (nd_wri h.2 fun q m => hr q (List.mem_cons_of_mem _ m)) fun x hx hy => ?_
    obtain ⟨f, hf, rfl⟩ := List.mem_map.mp hx
    obtain ⟨q, hq, hy⟩ := List.mem_flatMap.mp hy
    obtain ⟨f2, hf2, e⟩ := List.mem_map.mp hy
    injection e with e1 e2
    exact h.1 (List.mem_map.mpr ⟨q, hq, e1⟩)
theorem allM_nd {p : Pt} (h : p.Hok) (n : Nat) : (allM p n).Nodup := by
  have e : (p.sorts.map fun q => Mk.writes q.1 q.2) = p.rs.flatMap wriOf := by
    unfold Pt.sorts wriOf
    rw [List.map_flatMap]
    simp only [List.map_map, Function.comp_def]
  unfold allM
  rw [e]
  have n1 : (p.ls.map Mk.takes).Nodup := nd_map (fun x y e => by injection e) h.ln
  have n2 : (underM p).Nodup := nd_flat (fun x y b hx hy => by
    obtain ⟨c, -, rfl⟩ := List.mem_map.mp hx
    obtain ⟨c2, -, e⟩ := List.mem_map.mp hy
    injection e with e1 e2
    exact e1.symm) h.ln fun x hx => nd_map (fun a b e => by injection e) (h.ln.sublist List.filter_sublist)
  have n3 : (p.rs.flatMap wriOf).Nodup := nd_wri h.kn h.ro
  have n4 : (p.ls.map Mk.gives).Nodup := nd_map (fun x y e => by injection e) h.ln
  have n5 : ((List.range n).map Mk.shares).Nodup := nd_map (fun x y e => by injection e) List.nodup_range
  have w1 : ∀ x ∈ p.ls.map Mk.takes, ∃ a, x = Mk.takes a := fun x hx => by
    obtain ⟨a, -, rfl⟩ := List.mem_map.mp hx
    exact ⟨a, rfl⟩
  have w2 : ∀ x ∈ underM p, ∃ a b, x = Mk.under a b := fun x hx => by
    obtain ⟨a, -, hx⟩ := List.mem_flatMap.mp hx
    obtain ⟨b, -, rfl⟩ := List.mem_map.mp hx
    exact ⟨a, b, rfl⟩
  have w3 : ∀ x ∈ p.rs.flatMap wriOf, ∃ a b, x = Mk.writes a b := fun x hx => by
    obtain ⟨r, -, hx⟩ := List.mem_flatMap.mp hx
    obtain ⟨b, -, rfl⟩ := List.mem_map.mp hx
    exact ⟨r.k, b, rfl⟩
  have w4 : ∀ x ∈ p.ls.map Mk.gives, ∃ a, x = Mk.gives a := fun x hx => by
    obtain ⟨a, -, rfl⟩ := List.mem_map.mp hx
    exact ⟨a, rfl⟩
  have w5 : ∀ x ∈ (List.range n).map Mk.shares, ∃ a, x = Mk.shares a := fun x hx => by
    obtain ⟨a, -, rfl⟩ := List.mem_map.mp hx
    exact ⟨a, rfl⟩
  refine nd_app (nd_app (nd_app (nd_app n1 n2 ?_) n3 ?_) n4 ?_) n5 ?_
  · intro x h1 h2
    obtain ⟨a, rfl⟩ := w1 x h1
    obtain ⟨b, c, e⟩ := w2 _ h2
    cases e
  · intro x h1 h2
    obtain ⟨b, c, rfl⟩ := w3 x h2
    rcases List.mem_append.mp h1 with h1 | h1
    · obtain ⟨a, e⟩ := w1 _ h1; cases e
    · obtain ⟨a, d, e⟩ := w2 _ h1; cases e
  · intro x h1 h2
    obtain ⟨b, rfl⟩ := w4 x h2
    rcases List.mem_append.mp h1 with h1 | h1
    · rcases List.mem_append.mp h1 with h1 | h1
      · obtain ⟨a, e⟩ := w1 _ h1; cases e
      · obtain ⟨a, d, e⟩ := w2 _ h1; cases e
    · obtain ⟨a, d, e⟩ := w3 _ h1; cases e
  · intro x h1 h2
    obtain ⟨b, rfl⟩ := w5 x h2
    rcases List.mem_append.mp h1 with h1 | h1
    · rcases List.mem_append.mp h1 with h1 | h1
      · rcases List.mem_append.mp h1 with h1 | h1
        · obtain ⟨a, e⟩ := w1 _ h1; cases e
        · obtain ⟨a, d, e⟩ := w2 _ h1; cases e
      · obtain ⟨a, d, e⟩ := w3 _ h1; cases e
    · obtain ⟨a, e⟩ := w4 _ h1; cases e
end K05
namespace Nm
open PySem PySem.Spec PyProof.Rows L2 Md Hs K05
theorem cps_app (x y : Str) : (x ++ y).cps.toList = x.cps.toList ++ y.cps.toList := TL.tl_append x y
/-! ### the names of the pool -/
def ahs : Str := "abcdefgh"
def sgl : Str := "ijklmnopqrstuvwxyz0123456789"
def okA (c : Nat) : Bool := decide (c ∈ ahs.cps.toList)
def outs (s : Str) : List Nat := s.cps.toList.filter fun c => !okA c
def fo (s : Str) : Option Nat := (outs s).head?
def sgAt (first : Int) (j : Nat) : Option Nat := sgl.cps.toList[((first + 5 * (0 + (j : Int))) % 28).toNat]?
structure Pn (sg : Int) (n : Str) : Prop where
  nm : isName n = true
  fo : fo n = sgl.cps.toList[sg.toNat]?
def StOk (s : Str) (k : Nat) : Prop := s.length ≤ k ∧ ∀ c ∈ s.cps.toList, okA c = true
theorem StOk.app {a b : Str} {k l : Nat} (h : StOk a k) (g : StOk b l) : StOk (a ++ b) (k + l) := by
  refine ⟨by rw [strLen_append]; have := h.1; have := g.1; omega, fun c hc => ?_⟩
  rw [cps_app] at hc
  rcases List.mem_append.mp hc with hc | hc
  · exact h.2 c hc
  · exact g.2 c hc
theorem atI_mem {xs : List Nat} {r : Int} {c : Nat} (h : atI xs r = some c) : c ∈ xs := by
  unfold atI at h
  obtain ⟨j, _, hj⟩ := Option.bind_eq_some_iff.mp h
  exact List.mem_of_getElem? hj
theorem StOk.sign {z : Str} {r : Int} {c : Nat} (hz : ∀ c ∈ z.cps.toList, okA c = true) (h : atI z.cps.toList r = some c) : StOk ⟨#[c]⟩ 1 := by
  refine ⟨Nat.le_refl _, fun d hd => ?_⟩
  have e : d = c := by simpa using hd
  rw [e]
  exact hz c (atI_mem h)
theorem okA_okc {c : Nat} (h : okA c = true) : c ∈ lets.cps.toList := by
  have key : ∀ c ∈ ahs.cps.toList, c ∈ lets.cps.toList := by decide +kernel
  exact key c (of_decide_eq_true h)
theorem sgl_facts : ∀ i : Nat, i < 28 → ∃ c, sgl.cps.toList[i]? = some c ∧ okA c = false ∧ okc c = true ∧ (i ≤ 17 → c ∈ lets.cps.toList) := by
  have key : ∀ i ∈ List.range 28, (match sgl.cps.toList[i]? with | some c => !okA c && (okc c && (decide (17 < i) || decide (c ∈ lets.cps.toList))) | none => false) = true := by decide +kernel
  intro i hi
  have k := key i (List.mem_range.mpr hi)
  cases h : sgl.cps.toList[i]? with
  | none =>
    rw [h] at k
    cases k
  | some c =>
    rw [h] at k
    simp only [Bool.and_eq_true, Bool.or_eq_true, Bool.not_eq_true', decide_eq_true_eq] at k
    exact ⟨c, rfl, k.1, k.2.1, fun z => by rcases k.2.2 with y | y; omega; exact y⟩
theorem cut_lo (st : Str) (pl : Int) (h0 : 0 ≤ pl) (h1 : pl ≤ (st.length : Int)) : (cutS st none (some pl)).cps.toList = st.cps.toList.take pl.toNat := by
  unfold cutS
  show List.take (HT.sIx st.length st.length (some pl) - HT.sIx st.length 0 none) (List.drop (HT.sIx st.length 0 none) st.cps.toList) = _
  have e1 : HT.sIx st.length 0 none = 0 := rfl
  have e2 : HT.sIx st.length st.length (some pl) = pl.toNat := by
    unfold HT.sIx
    simp only
    rw [if_neg (by omega), Nat.min_eq_left (by omega)]
  rw [e1, e2, List.drop_zero, Nat.sub_zero]
theorem cut_hi (st : Str) (pl : Int) (h0 : 0 ≤ pl) (h1 : pl ≤ (st.length : Int)) : (cutS st (some pl) none).cps.toList = st.cps.toList.drop pl.toNat := by
  unfold cutS
  show List.take (HT.sIx st.length st.length none - HT.sIx st.length 0 (some pl)) (List.drop (HT.sIx st.length 0 (some pl)) st.cps.toList) = _
  have e1 : HT.sIx st.length st.length none = st.length := rfl
  have e2 : HT.sIx st.length 0 (some pl) = pl.toNat := by
    unfold HT.sIx
    simp only
    rw [if_neg (by omega), Nat.min_eq_left (by omega)]
  rw [e1, e2]
  refine List.take_of_length_le ?_
  rw [List.length_drop]
  exact Nat.le_refl _
theorem res_out : ∀ w ∈ RES, (outs w).length = 1 → w ∈ [("do" : Str), "as", "read", "fetch"] := by decide +kernel
theorem four_ok : ∀ w ∈ [("do" : Str), "as", "read", "fetch"], isName (w ++ ("0" : Str)) = true ∧ fo (w ++ ("0" : Str)) = fo w := by decide +kernel
theorem pn_key {st : Str} {sg pl : Int} {c : Nat} (hst : StOk st 7) (g0 : 0 ≤ sg) (g1 : sg < 28) (hc : atI sgl.cps.toList sg = some c) (p0 : 0 ≤ pl) (p1 : pl ≤ (st.length : Int)) (p2 : 17 < sg → 1 ≤ pl) :
    let n := cutS st none (some pl) ++ ⟨#[c]⟩ ++ cutS st (some pl) none
    n.length ≤ 8 ∧ (if n ∈ [("do" : Str), "as", "read", "fetch"] then Pn sg (n ++ "0") else Pn sg n) := by
  intro n
  obtain ⟨c', e1, c1, c2, c3⟩ := sgl_facts sg.toNat (by omega)
  have e : sg = (sg.toNat : Int) := by omega
  have z : atI sgl.cps.toList (sg.toNat : Int) = some c' := atI_nat e1
  rw [← e, hc] at z
  injection z with z
  subst z
  have en : n.cps.toList = st.cps.toList.take pl.toNat ++ [c] ++ st.cps.toList.drop pl.toNat := by
    show (cutS st none (some pl) ++ ⟨#[c]⟩ ++ cutS st (some pl) none).cps.toList = _
    rw [cps_app, cps_app, cut_lo _ _ p0 p1, cut_hi _ _ p0 p1]
  have ln : n.length = st.length + 1 := by
    show n.cps.size = _
    rw [← Array.length_toList, en]
    simp only [List.length_append, List.length_take, List.length_drop, List.length_singleton]
    show min pl.toNat st.cps.toList.length + 1 + (st.cps.toList.length - pl.toNat) = st.cps.toList.length + 1
    have : pl ≤ (st.cps.toList.length : Int) := p1
    omega
  have lst := hst.1
  have eo : outs n = [c] := by
    unfold outs
    rw [en, List.filter_append, List.filter_append]
    have f1 : (st.cps.toList.take pl.toNat).filter (fun c => !okA c) = [] := List.filter_eq_nil_iff.mpr fun x hx => by
      rw [hst.2 x (List.mem_of_mem_take hx)]
      decide
    have f2 : (st.cps.toList.drop pl.toNat).filter (fun c => !okA c) = [] := List.filter_eq_nil_iff.mpr fun x hx => by
      rw [hst.2 x (List.mem_of_mem_drop hx)]
      decide
    rw [f1, f2]
    rw [List.append_nil, List.nil_append, List.filter_cons_of_pos (by rw [c1]; rfl)]
    rfl
  have ef : fo n = sgl.cps.toList[sg.toNat]? := by
    unfold fo
    rw [eo, e1]
    rfl
  refine ⟨by omega, ?_⟩
  by_cases h4 : n ∈ [("do" : Str), "as", "read", "fetch"]
  · rw [if_pos h4]
    obtain ⟨k1, k2⟩ := four_ok n h4
    exact ⟨k1, by rw [k2, ef]⟩
  · rw [if_neg h4]
    refine ⟨?_, ef⟩
    have hok : n.cps.toList.all okc = true := List.all_eq_true.mpr fun x hx => by
      rw [en] at hx
      have oa : okA x = true → okc x = true := fun h => by
        unfold okc
        rw [decide_eq_true (okA_okc h)]
        rfl
      rcases List.mem_append.mp hx with hx | hx
      · rcases List.mem_append.mp hx with hx | hx
        · exact oa (hst.2 x (List.mem_of_mem_take hx))
        · rw [List.mem_singleton.mp hx]
          exact c2
      · exact oa (hst.2 x (List.mem_of_mem_drop hx))
    have hhd : headOk n = true := by
      unfold headOk
      rw [← Array.getElem?_toList, en]
      by_cases hp : pl = 0
      · have e0 : pl.toNat = 0 := by omega
        rw [e0, List.take_zero]
        show decide (c ∈ lets.cps.toList) = true
        exact decide_eq_true (c3 (by
          have : ¬ 17 < sg := fun h => by
            have := p2 h
            omega
          omega))
      · have h1 : 0 < st.cps.toList.length := by
          have : pl ≤ (st.cps.toList.length : Int) := p1
          omega
        have e5 : (st.cps.toList.take pl.toNat ++ [c] ++ st.cps.toList.drop pl.toNat)[0]? = some st.cps.toList[0] := by
          rw [List.append_assoc, List.getElem?_append_left (by rw [List.length_take]; omega), List.getElem?_take_of_lt (by omega), List.getElem?_eq_getElem h1]
        rw [e5]
        exact decide_eq_true (okA_okc (hst.2 _ (List.getElem_mem h1)))
    have hres : inV (.str n) (RES.map V.str) = false := by
      rw [inV_mem]
      refine decide_eq_false fun h => h4 (res_out n h ?_)
      rw [eo]
      rfl
    unfold isName
    rw [hhd, hres, hok, decide_eq_true (by omega : 1 ≤ n.length), decide_eq_true (by omega : n.length ≤ 8)]
    rfl
theorem sgAt_nodup : ∀ f ∈ List.range 28, ((List.range 28).map (sgAt (f : Int))).Nodup := by decide +kernel
/-- the pool -/
structure Pool (ns : List Str) : Prop where
  len : ns.length = 28
  nm : ∀ n ∈ ns, isName n = true
  nd : ns.Nodup
theorem pool_of {ns : List Str} {first : Int} (f0 : 0 ≤ first) (f1 : first < 28) (h : ns.map fo = (List.range 28).map (sgAt first)) (hn : ∀ n ∈ ns, isName n = true) : Pool ns := by
  refine ⟨by rw [← List.length_map (f := fo), h, List.length_map, List.length_range], hn, ?_⟩
  have z := sgAt_nodup first.toNat (List.mem_range.mpr (by omega))
  have e : ((first.toNat : Nat) : Int) = first := by omega
  rw [e, ← h] at z
  exact (List.pairwise_map.mp z).imp fun h e => h (congrArg _ e)
end Nm
/-! Dt21: the law's draws. -/
namespace K05
open PySem PySem.Spec PyProof.Rows L2 Md Nm Hs
local macro_rules | `(tactic| simp_all! [$ls,*]) => `(tactic| simp -implicitDefEqProofs only [bind_ok', bind_er', selK_t, selK_f, e_fz, e_sh, e_O, optO_s, e_2, e_3, e_var, vS_sh, vS_ow, e_D, e_seq, seqK_nx, seqK_rt, seqK_ct, seqK_bk, e_if, okK_e, e_andT, e_orT, e_notT, e_tru, e_tst, boolD_s, e_and, andK_t, andK_f, e_or, orK_t, orK_f, tru_b, e_cm, e_chn, chK_t, chK_f, e_isN, e_idx, e_isi, e_nil, e_cons, e_tup, e_lst, e_ret, e_nx, e_ex, e_set, e_setSl, sS_un, sS_sh, sS_ow, setRv_sh, setRv_ow, oNx_s, toD_sh, toD_lst, toD_obj, muD_lst, muD_obj, e_par, parK_e, e_noP, e_smP, e_sl, e_not, e_A0, e_Av, e_call, List.getElem?_cons_zero, List.getElem?_cons_succ, List.set_cons_zero, List.set_cons_succ, Option.map_some, Option.map_none, Option.bind_some, Bool.not_true, Bool.not_false, e_att, e_met, e_eqO, boolR_e, notR_e, e_inOp, e_niOp, e_opT, e_put, e_atO, atoK_e, e_rai0, e_makV, e_borT, borK_e, fz_un, fz_sh, List.map_cons, List.map_nil, e_mov, movK_sh, movK_ow, e_asg, fldD_e, clsD_e, e_for, ix0, ix1, ix2, il0, il1, il2, ln_t, ln_l, tup_l, tup_t, list_l, list_t, it_l, it_t, gt_ii, ge_ii, lt_ii, le_ii, eq_ss, ne_ss, eq_ii, ne_ii, eb_nm, asInt, sl1, sl2, nmD_e, dself, dselfi, decide_true, decide_false, len1, len2, len3, n_dec, t_tu, t_tw, t_tg, t_ts, t_ut, t_uw, t_ug, t_us, t_wt, t_wu, t_wg, t_ws, t_gt, t_gu, t_gw, t_gs, t_st, t_su, t_sw, t_sg, $ls,*])
theorem o_addi (i j : Int) : op2 .add (.int i) (.int j) = some (.sh (.int (i + j))) := rfl
theorem op_mod (i : Int) {j : Int} (h : 0 < j) : op2 .mod (.int i) (.int j) = some (.sh (.int (i % j))) := if_pos h
theorem op_div (i : Int) {j : Int} (h : 0 < j ∧ j < 1073741824) : op2 .fdiv (.int i) (.int j) = some (.sh (.int (i / j))) := if_pos h
theorem o_mul720 (i : Int) : op2 .mod (.int i) (.int 720) = some (.sh (.int (i % 720))) := op_mod i (by omega)
theorem o_div720 (i : Int) : op2 .fdiv (.int i) (.int 720) = some (.sh (.int (i / 720))) := op_div i (by omega)
theorem o_div127 (i : Int) : op2 .fdiv (.int i) (.int 127) = some (.sh (.int (i / 127))) := op_div i (by omega)
theorem o_mods (i : Int) : op2 .mod (.int i) (.int 2147483629) = some (.sh (.int (i % 2147483629))) := op_mod i (by omega)
theorem o_modm (i : Int) : op2 .mod (.int i) (.int 2147483647) = some (.sh (.int (i % 2147483647))) := op_mod i (by omega)
theorem o_mulr (i : Int) {j : Int} (h : -100000 < j ∧ j < 100000) : op2 .mul (.int i) (.int j) = some (.sh (.int (i * j))) := by
  have : (-(2 ^ 64) < i ∧ i < 2 ^ 64) ∨ (-(2 ^ 64) < j ∧ j < 2 ^ 64) := .inr ⟨by omega, by omega⟩
  exact if_pos this
theorem b_int (i : Int) : biD .int (.int i) = some (.sh (.int i)) := rfl
theorem rngK (n : Nat) (h : n ≤ 1000) : rngM (.int (n : Int)) = some ((List.range n).map fun i => .int ((i : Nat) : Int)) := by
  have hl : -(2 ^ 62) ≤ (n : Int) ∧ (n : Int) < 2 ^ 62 := by omega
  rw [rngM_e, if_pos hl]
  unfold rngD
  rw [Int.toNat_natCast]
  congr 1
  refine List.map_congr_left fun i _ => ?_
  rw [Int.zero_add]
def bodyD6 : Co Fl := cSeq (cSet 6 (c2 (cFz (cO (cFz (c2 (cFz (c2 (cFz (c2 (cFz (cVar 6)) (cFz (cD (.int 69621))) (op2 .mul))) (cFz (c2 (cFz (cVar 4)) (cFz (cD (.int 31))) (op2 .mul))) (op2 .add))) (cFz (cVar 5)) (op2 .add))) (biD .int))) (cFz (cD (.int 2147483629))) (op2 .mod)))
  (cIf (cBorT (cTst (cCm .lt (cFz (cO (cFz (cVar 1)) (biD .len))) (cFz (cD (.int 600)))))) (cEx (cApp 1 (cFz (c2 (cFz (cVar 6)) (cFz (cD (.int 127))) (op2 .fdiv))))) cNx)
/-- the store of the draws -/
def ld (S : D) (xs : List Int) (s2 s3 : Sl) (nm : Int) (s5 s6 : Sl) : Sto := [.sh S, .ow false (.lst (xs.map iD)), s2, s3, .sh (.int nm), s5, s6]
theorem fzS {s : Sl} (h : SlF s) : fzSl s = s := by rcases h with rfl | ⟨d, rfl⟩ <;> rfl
theorem loopD6 (S : D) (nm : Int) (s2 s3 : Sl) (h2 : SlF s2) (h3 : SlF s3) : ∀ (r : List Nat) (xs : List Int) (s5 : Sl) (mx : Int), SlF s5 → xs.length ≤ 600 →
    ∃ (xs' : List Int) (s5' : Sl) (mx' : Int), SlF s5' ∧ xs'.length ≤ 600 ∧ forL (bNm 5) bodyD6 (r.map fun i => .int ((i : Nat) : Int)) (ld S xs s2 s3 nm s5 (.sh (.int mx))) = .ok .nx (ld S xs' s2 s3 nm s5' (.sh (.int mx')))
  | [], xs, s5, mx, h5, hl => ⟨xs, s5, mx, h5, hl, rfl⟩
  | i :: r, xs, s5, mx, h5, hl => by
    have e1 : bNm 5 (.int (i : Int)) (ld S xs s2 s3 nm s5 (.sh (.int mx))) = some (ld S xs s2 s3 nm (.sh (.int (i : Int))) (.sh (.int mx))) := by rcases h5 with rfl | ⟨d, rfl⟩ <;> rfl
    have m1 := o_mulr mx (j := 69621) (by omega)
    have m2 := o_mulr nm (j := 31) (by omega)
    generalize hq : (mx * 69621 + nm * 31 + (i : Int)) % 2147483629 = q
    have o3 : op2 .mod (.int (mx * 69621 + nm * 31 + (i : Int))) (.int 2147483629) = some (.sh (.int q)) := by rw [o_mods, hq]
    by_cases hk : xs.length < 600
    · have k1 : decide ((((xs.map iD).length : Nat) : Int) < 600) = true := decide_eq_true (by rw [List.length_map]; omega)
      obtain ⟨xs', s5', mx', a1, a2, a3⟩ := loopD6 S nm s2 s3 h2 h3 r (xs ++ [q / 127]) (.sh (.int (i : Int))) q (.inr ⟨_, rfl⟩) (by rw [List.length_append]; show xs.length + 1 ≤ 600; omega)
      refine ⟨xs', s5', mx', a1, a2, ?_⟩
      have p1 : isOwL (ld S xs s2 s3 nm (.sh (.int (i : Int))) (.sh (.int q))) 1 = true := rfl
      have p2 : appL (ld S xs s2 s3 nm (.sh (.int (i : Int))) (.sh (.int q))) 1 [.int (q / 127)] = .ok (.sh .none) (ld S (xs ++ [q / 127]) s2 s3 nm (.sh (.int (i : Int))) (.sh (.int q))) := by
        unfold ld
        rw [List.map_append]
        exact if_pos (line_le (by rw [List.length_map]; show xs.length + 1 ≤ 1000; omega))
      have e2 : bodyD6 (ld S xs s2 s3 nm (.sh (.int (i : Int))) (.sh (.int mx))) = .ok .nx (ld S (xs ++ [q / 127]) s2 s3 nm (.sh (.int (i : Int))) (.sh (.int q))) := by
        unfold bodyD6
        unfold ld at p1 p2 ⊢
        simp_all! [m1, m2, o_addi, b_int, o3, fz_ow2, fzS h2, fzS h3, k1, e_app, p1, o_div127, p2]
      rw [List.map_cons, forL_cons e1 e2]
      exact a3
    · have k1 : decide ((((xs.map iD).length : Nat) : Int) < 600) = false := decide_eq_false (by rw [List.length_map]; omega)
      obtain ⟨xs', s5', mx', a1, a2, a3⟩ := loopD6 S nm s2 s3 h2 h3 r xs (.sh (.int (i : Int))) q (.inr ⟨_, rfl⟩) hl
      refine ⟨xs', s5', mx', a1, a2, ?_⟩
      have e2 : bodyD6 (ld S xs s2 s3 nm (.sh (.int (i : Int))) (.sh (.int mx))) = .ok .nx (ld S xs s2 s3 nm (.sh (.int (i : Int))) (.sh (.int q))) := by
        unfold bodyD6
        unfold ld
        simp_all! [m1, m2, o_addi, b_int, o3, fz_ow2, fzS h2, fzS h3, k1]
      rw [List.map_cons, forL_cons e1 e2]
      exact a3
end K05
/-! Dt22: the law's draws, the other loops. -/
namespace K05
open PySem PySem.Spec PyProof.Rows L2 Md Nm Hs
local macro_rules | `(tactic| simp_all! [$ls,*]) => `(tactic| simp -implicitDefEqProofs only [bind_ok', bind_er', selK_t, selK_f, e_fz, e_sh, e_O, optO_s, e_2, e_3, e_var, vS_sh, vS_ow, e_D, e_seq, seqK_nx, seqK_rt, seqK_ct, seqK_bk, e_if, okK_e, e_andT, e_orT, e_notT, e_tru, e_tst, boolD_s, e_and, andK_t, andK_f, e_or, orK_t, orK_f, tru_b, e_cm, e_chn, chK_t, chK_f, e_isN, e_idx, e_isi, e_nil, e_cons, e_tup, e_lst, e_ret, e_nx, e_ex, e_set, e_setSl, sS_un, sS_sh, sS_ow, setRv_sh, setRv_ow, oNx_s, toD_sh, toD_lst, toD_obj, muD_lst, muD_obj, e_par, parK_e, e_noP, e_smP, e_sl, e_not, e_A0, e_Av, e_call, List.getElem?_cons_zero, List.getElem?_cons_succ, List.set_cons_zero, List.set_cons_succ, Option.map_some, Option.map_none, Option.bind_some, Bool.not_true, Bool.not_false, e_att, e_met, e_eqO, boolR_e, notR_e, e_inOp, e_niOp, e_opT, e_put, e_atO, atoK_e, e_rai0, e_makV, e_borT, borK_e, fz_un, fz_sh, List.map_cons, List.map_nil, e_mov, movK_sh, movK_ow, e_asg, fldD_e, clsD_e, e_for, ix0, ix1, ix2, il0, il1, il2, ln_t, ln_l, tup_l, tup_t, list_l, list_t, it_l, it_t, gt_ii, ge_ii, lt_ii, le_ii, eq_ss, ne_ss, eq_ii, ne_ii, eb_nm, asInt, sl1, sl2, nmD_e, dself, dselfi, decide_true, decide_false, len1, len2, len3, n_dec, t_tu, t_tw, t_tg, t_ts, t_ut, t_uw, t_ug, t_us, t_wt, t_wu, t_wg, t_ws, t_gt, t_gu, t_gw, t_gs, t_st, t_su, t_sw, t_sg, $ls,*])
def bodyD60 : Co Fl := cIf (cAndT (cTst (cCm .gt (cFz (cVar 4)) (cFz (cD (.int 0))))) (cBorT (cTst (cCm .lt (cFz (cO (cFz (cVar 1)) (biD .len))) (cFz (cD (.int 600))))))) (cSeq (cEx (cApp 1 (cFz (c2 (cFz (cO (cFz (cVar 4)) (biD .int))) (cFz (cD (.int 720))) (op2 .mod)))))
  (cSet 4 (c2 (cFz (cVar 4)) (cFz (cD (.int 720))) (op2 .fdiv)))) cNx
theorem loopD60 (S : D) (s2 s3 s6 : Sl) (h2 : SlF s2) (h3 : SlF s3) (h6 : SlF s6) : ∀ (r : List Nat) (xs : List Int) (s5 : Sl) (nm : Int), SlF s5 → xs.length ≤ 600 →
    ∃ (xs' : List Int) (s5' : Sl) (nm' : Int), SlF s5' ∧ xs'.length ≤ 600 ∧ forL (bNm 5) bodyD60 (r.map fun i => .int ((i : Nat) : Int)) (ld S xs s2 s3 nm s5 s6) = .ok .nx (ld S xs' s2 s3 nm' s5' s6)
  | [], xs, s5, nm, h5, hl => ⟨xs, s5, nm, h5, hl, rfl⟩
  | i :: r, xs, s5, nm, h5, hl => by
    have e1 : bNm 5 (.int (i : Int)) (ld S xs s2 s3 nm s5 s6) = some (ld S xs s2 s3 nm (.sh (.int (i : Int))) s6) := by rcases h5 with rfl | ⟨d, rfl⟩ <;> rfl
    by_cases hp : (0 : Int) < nm
    · have k0 := decide_eq_true hp
      by_cases hk : xs.length < 600
      · have k1 : decide ((((xs.map iD).length : Nat) : Int) < 600) = true := decide_eq_true (by rw [List.length_map]; omega)
        obtain ⟨xs', s5', nm', a1, a2, a3⟩ := loopD60 S s2 s3 s6 h2 h3 h6 r (xs ++ [nm % 720]) (.sh (.int (i : Int))) (nm / 720) (.inr ⟨_, rfl⟩) (by rw [List.length_append]; show xs.length + 1 ≤ 600; omega)
        refine ⟨xs', s5', nm', a1, a2, ?_⟩
        have p1 : isOwL (ld S xs s2 s3 nm (.sh (.int (i : Int))) s6) 1 = true := rfl
        have p2 : appL (ld S xs s2 s3 nm (.sh (.int (i : Int))) s6) 1 [.int (nm % 720)] = .ok (.sh .none) (ld S (xs ++ [nm % 720]) s2 s3 nm (.sh (.int (i : Int))) s6) := by
          unfold ld
          rw [List.map_append]
          exact if_pos (line_le (by rw [List.length_map]; show xs.length + 1 ≤ 1000; omega))
        have e2 : bodyD60 (ld S xs s2 s3 nm (.sh (.int (i : Int))) s6) = .ok .nx (ld S (xs ++ [nm % 720]) s2 s3 (nm / 720) (.sh (.int (i : Int))) s6) := by
          unfold bodyD60
          unfold ld at p1 p2 ⊢
          simp_all! [k0, b_int, o_mul720, o_div720, fz_ow2, fzS h2, fzS h3, fzS h6, k1, e_app, p1, p2]
        rw [List.map_cons, forL_cons e1 e2]
        exact a3
      · have k1 : decide ((((xs.map iD).length : Nat) : Int) < 600) = false := decide_eq_false (by rw [List.length_map]; omega)
        obtain ⟨xs', s5', nm', a1, a2, a3⟩ := loopD60 S s2 s3 s6 h2 h3 h6 r xs (.sh (.int (i : Int))) nm (.inr ⟨_, rfl⟩) hl
        refine ⟨xs', s5', nm', a1, a2, ?_⟩
        have e2 : bodyD60 (ld S xs s2 s3 nm (.sh (.int (i : Int))) s6) = .ok .nx (ld S xs s2 s3 nm (.sh (.int (i : Int))) s6) := by
          unfold bodyD60
          unfold ld
          simp_all! [k0, fz_ow2, fzS h2, fzS h3, fzS h6, k1]
        rw [List.map_cons, forL_cons e1 e2]
        exact a3
    · have k0 := decide_eq_false hp
      obtain ⟨xs', s5', nm', a1, a2, a3⟩ := loopD60 S s2 s3 s6 h2 h3 h6 r xs (.sh (.int (i : Int))) nm (.inr ⟨_, rfl⟩) hl
      refine ⟨xs', s5', nm', a1, a2, ?_⟩
      have e2 : bodyD60 (ld S xs s2 s3 nm (.sh (.int (i : Int))) s6) = .ok .nx (ld S xs s2 s3 nm (.sh (.int (i : Int))) s6) := by
        unfold bodyD60
        unfold ld
        simp_all! [k0]
      rw [List.map_cons, forL_cons e1 e2]
      exact a3
end K05
/-! Dt23: the law's draws, whole. -/
namespace K05
open PySem PySem.Spec PyProof.Rows L2 Md Nm Hs
local macro_rules | `(tactic| simp_all! [$ls,*]) => `(tactic| simp -implicitDefEqProofs only [bind_ok', bind_er', selK_t, selK_f, e_fz, e_sh, e_O, optO_s, e_2, e_3, e_var, vS_sh, vS_ow, e_D, e_seq, seqK_nx, seqK_rt, seqK_ct, seqK_bk, e_if, okK_e, e_andT, e_orT, e_notT, e_tru, e_tst, boolD_s, e_and, andK_t, andK_f, e_or, orK_t, orK_f, tru_b, e_cm, e_chn, chK_t, chK_f, e_isN, e_idx, e_isi, e_nil, e_cons, e_tup, e_lst, e_ret, e_nx, e_ex, e_set, e_setSl, sS_un, sS_sh, sS_ow, setRv_sh, setRv_ow, oNx_s, toD_sh, toD_lst, toD_obj, muD_lst, muD_obj, e_par, parK_e, e_noP, e_smP, e_sl, e_not, e_A0, e_Av, e_call, List.getElem?_cons_zero, List.getElem?_cons_succ, List.set_cons_zero, List.set_cons_succ, Option.map_some, Option.map_none, Option.bind_some, Bool.not_true, Bool.not_false, e_att, e_met, e_eqO, boolR_e, notR_e, e_inOp, e_niOp, e_opT, e_put, e_atO, atoK_e, e_rai0, e_makV, e_borT, borK_e, fz_un, fz_sh, List.map_cons, List.map_nil, e_mov, movK_sh, movK_ow, e_asg, fldD_e, clsD_e, e_for, ix0, ix1, ix2, il0, il1, il2, ln_t, ln_l, tup_l, tup_t, list_l, list_t, it_l, it_t, gt_ii, ge_ii, lt_ii, le_ii, eq_ss, ne_ss, eq_ii, ne_ii, eb_nm, asInt, sl1, sl2, nmD_e, dself, dselfi, decide_true, decide_false, len1, len2, len3, n_dec, t_tu, t_tw, t_tg, t_ts, t_ut, t_uw, t_ug, t_us, t_wt, t_wu, t_wg, t_ws, t_gt, t_gu, t_gw, t_gs, t_st, t_su, t_sw, t_sg, $ls,*])
theorem o_mull {i : Int} (j : Int) (h : -100000 < i ∧ i < 100000) : op2 .mul (.int i) (.int j) = some (.sh (.int (i * j))) := by
  have : (-(2 ^ 64) < i ∧ i < 2 ^ 64) ∨ (-(2 ^ 64) < j ∧ j < 2 ^ 64) := .inl ⟨by omega, by omega⟩
  exact if_pos this
theorem op_pow (i j : Int) (h : 0 ≤ j ∧ j ≤ 1000000 ∧ i.natAbs < 2 ^ 64) : op2 .pow (.int i) (.int j) = some (.sh (.int (i ^ j.toNat))) := if_pos h
theorem o_pow : ∃ v : Int, op2 .pow (.int 10) (.int 18) = some (.sh (.int v)) := ⟨_, op_pow 10 18 ⟨by omega, by omega, by decide⟩⟩
theorem b_abs (i : Int) : biD .abs (.int i) = some (.sh (.int (if i < 0 then -i else i))) := rfl
theorem b_bool (k : Bool) : biD .int (.bool k) = some (.sh (.int (if k then 1 else 0))) := rfl
def bodyO : Co Fl := (cSeq (cSet 4 (c2 (cFz (c2 (cFz (cD (.int 2))) (cFz (cO (cFz (cVar 3)) (biD .abs))) (op2 .mul))) (cFz (cO (cFz (cCm .lt (cFz (cVar 3)) (cFz (cD (.int 0))))) (biD .int))) (op2 .add)))
  (cIf (cTst (cCm .ge (cFz (cVar 4)) (cFz (c2 (cFz (cD (.int 2))) (cFz (c2 (cFz (cD (.int 10))) (cFz (cD (.int 18))) (op2 .pow))) (op2 .mul))))) (cFor (bNm 5) (cO (cFz (cD (.int 60))) rngM) bodyD60) (cSeq (cSet 6 (c2 (cFz (cO (cFz (c2 (cFz (c2 (cFz (c2 (cFz (cVar 4)) (cFz (cD (.int 48271))) (op2 .mul))) (cFz (c2 (cFz (cVar 2)) (cFz (cD (.int 7919))) (op2 .mul))) (op2 .add))) (cFz (cD (.int 12345))) (op2 .add))) (biD .int))) (cFz (cD (.int 2147483647))) (op2 .mod)))
  (cFor (bNm 5) (cO (cFz (cD (.int 6))) rngM) bodyD6))))
def lo (S : D) (xs : List Int) (s2 s3 s4 s5 s6 : Sl) : Sto := [.sh S, .ow false (.lst (xs.map iD)), s2, s3, s4, s5, s6]
theorem loopO (S : D) : ∀ (r : List Int) (i : Nat) (xs : List Int) (s2 s3 s4 s5 s6 : Sl), SlF s2 → SlF s3 → SlF s4 → SlF s5 → SlF s6 → xs.length ≤ 600 →
    ∃ (xs' : List Int) (t2 t3 t4 t5 t6 : Sl), xs'.length ≤ 600 ∧ forL (bTup 2 (bCons (bNm 2) (bCons (bNm 3) bNil))) bodyO (enF iD i r) (lo S xs s2 s3 s4 s5 s6) = .ok .nx (lo S xs' t2 t3 t4 t5 t6)
  | [], i, xs, s2, s3, s4, s5, s6, _, _, _, _, _, hl => ⟨xs, s2, s3, s4, s5, s6, hl, rfl⟩
  | c :: r, i, xs, s2, s3, s4, s5, s6, h2, h3, h4, h5, h6, hl => by
    have e1 : bTup 2 (bCons (bNm 2) (bCons (bNm 3) bNil)) (.tuple [.int (i : Int), iD c]) (lo S xs s2 s3 s4 s5 s6) = some (lo S xs (.sh (.int (i : Int))) (.sh (.int c)) s4 s5 s6) := by rcases h2 with rfl | ⟨d2, rfl⟩ <;> rcases h3 with rfl | ⟨d3, rfl⟩ <;> rfl
    obtain ⟨v, hv⟩ := o_pow
    have v2 := o_mull (i := 2) v (by omega)
    generalize hn : 2 * (if c < 0 then -c else c) + (if decide (c < 0) = true then 1 else 0 : Int) = nm
    have n1 := o_mull (i := 2) (if c < 0 then -c else c) (by omega)
    have n2 : op2 .add (.int (2 * (if c < 0 then -c else c))) (.int (if decide (c < 0) = true then 1 else 0)) = some (.sh (.int nm)) := by rw [o_addi, hn]
    have r60 : rngM (.int 60) = some ((List.range 60).map fun i => .int ((i : Nat) : Int)) := rngK 60 (by omega)
    have r6 : rngM (.int 6) = some ((List.range 6).map fun i => .int ((i : Nat) : Int)) := rngK 6 (by omega)
    have goal2 : ∃ (xs' : List Int) (nm' : Int) (t5 t6 : Sl), SlF t5 ∧ SlF t6 ∧ xs'.length ≤ 600 ∧ bodyO (lo S xs (.sh (.int (i : Int))) (.sh (.int c)) s4 s5 s6) = .ok .nx (lo S xs' (.sh (.int (i : Int))) (.sh (.int c)) (.sh (.int nm')) t5 t6) := by
      by_cases hg : 2 * v ≤ nm
      · have k := decide_eq_true hg
        obtain ⟨xs', t5, nm', a1, a2, a3⟩ := loopD60 S (.sh (.int (i : Int))) (.sh (.int c)) s6 (.inr ⟨_, rfl⟩) (.inr ⟨_, rfl⟩) h6 (List.range 60) xs s5 nm h5 hl
        refine ⟨xs', nm', t5, s6, a1, h6, a2, ?_⟩
        unfold bodyO
        unfold ld at a3
        unfold lo
        rcases h4 with rfl | ⟨d4, rfl⟩ <;> simp_all! [b_abs, n1, b_bool, n2, hv, v2, k, r60, a3]
      · have k := decide_eq_false hg
        have m1 := o_mulr nm (j := 48271) (by omega)
        have m2 := o_mulr (i : Int) (j := 7919) (by omega)
        generalize hq : (nm * 48271 + (i : Int) * 7919 + 12345) % 2147483647 = q
        have m3 : op2 .mod (.int (nm * 48271 + (i : Int) * 7919 + 12345)) (.int 2147483647) = some (.sh (.int q)) := by rw [o_modm, hq]
        obtain ⟨xs', t5, mx', a1, a2, a3⟩ := loopD6 S nm (.sh (.int (i : Int))) (.sh (.int c)) (.inr ⟨_, rfl⟩) (.inr ⟨_, rfl⟩) (List.range 6) xs s5 q h5 hl
        refine ⟨xs', nm, t5, .sh (.int mx'), a1, .inr ⟨_, rfl⟩, a2, ?_⟩
        unfold bodyO
        unfold ld at a3
        unfold lo
        rcases h4 with rfl | ⟨d4, rfl⟩ <;> rcases h6 with rfl | ⟨d6, rfl⟩ <;> simp_all! [b_abs, n1, b_bool, n2, hv, v2, k, m1, m2, o_addi, b_int, m3, r6, a3]
    obtain ⟨xs', nm', t5, t6, k5, k6, hl', e2⟩ := goal2
    obtain ⟨ys, u2, u3, u4, u5, u6, hy, ih⟩ := loopO S r (i + 1) xs' (.sh (.int (i : Int))) (.sh (.int c)) (.sh (.int nm')) t5 t6 (.inr ⟨_, rfl⟩) (.inr ⟨_, rfl⟩) (.inr ⟨_, rfl⟩) k5 k6 hl'
    refine ⟨ys, u2, u3, u4, u5, u6, hy, ?_⟩
    show forL _ _ (.tuple [.int (i : Int), iD c] :: enF iD (i + 1) r) _ = _
    rw [forL_cons e1 e2]
    exact ih
end K05
/-! Dt24: _law_draws. -/
namespace K05
open PySem PySem.Spec PyProof.Rows L2 Md Nm Hs
local macro_rules | `(tactic| simp_all! [$ls,*]) => `(tactic| simp -implicitDefEqProofs only [bind_ok', bind_er', selK_t, selK_f, e_fz, e_sh, e_O, optO_s, e_2, e_3, e_var, vS_sh, vS_ow, e_D, e_seq, seqK_nx, seqK_rt, seqK_ct, seqK_bk, e_if, okK_e, e_andT, e_orT, e_notT, e_tru, e_tst, boolD_s, e_and, andK_t, andK_f, e_or, orK_t, orK_f, tru_b, e_cm, e_chn, chK_t, chK_f, e_isN, e_idx, e_isi, e_nil, e_cons, e_tup, e_lst, e_ret, e_nx, e_ex, e_set, e_setSl, sS_un, sS_sh, sS_ow, setRv_sh, setRv_ow, oNx_s, toD_sh, toD_lst, toD_obj, muD_lst, muD_obj, e_par, parK_e, e_noP, e_smP, e_sl, e_not, e_A0, e_Av, e_call, List.getElem?_cons_zero, List.getElem?_cons_succ, List.set_cons_zero, List.set_cons_succ, Option.map_some, Option.map_none, Option.bind_some, Bool.not_true, Bool.not_false, e_att, e_met, e_eqO, boolR_e, notR_e, e_inOp, e_niOp, e_opT, e_put, e_atO, atoK_e, e_rai0, e_makV, e_borT, borK_e, fz_un, fz_sh, List.map_cons, List.map_nil, e_mov, movK_sh, movK_ow, e_asg, fldD_e, clsD_e, e_for, ix0, ix1, ix2, il0, il1, il2, ln_t, ln_l, tup_l, tup_t, list_l, list_t, it_l, it_t, gt_ii, ge_ii, lt_ii, le_ii, eq_ss, ne_ss, eq_ii, ne_ii, eb_nm, asInt, sl1, sl2, nmD_e, dself, dselfi, decide_true, decide_false, len1, len2, len3, n_dec, t_tu, t_tw, t_tg, t_ts, t_ut, t_uw, t_ug, t_us, t_wt, t_wu, t_wg, t_ws, t_gt, t_gu, t_gw, t_gs, t_st, t_su, t_sw, t_sg, $ls,*])
theorem enu_l {α : Type} (f : α → D) (xs : List α) : enuM (.list (xs.map f)) = some (enF f 0 xs) := congrArg some (enF_e f xs 0)
theorem cut_map {α : Type} (f : α → D) (xs : List α) (lo hi : Option Int) : ∃ ys : List α, slcD (.list (xs.map f)) lo hi = some (.ow (.lst (ys.map f))) := by
  refine ⟨(xs.drop (HT.sIx (xs.map f).length 0 lo)).take (HT.sIx (xs.map f).length (xs.map f).length hi - HT.sIx (xs.map f).length 0 lo), ?_⟩
  show some (Rv.ow (.lst (cutL (xs.map f) lo hi))) = _
  unfold cutL
  rw [List.map_take, List.map_drop]
/-- the script, a list that is not ours -/
def scrD (l : List Int) : D := .dict [(.bool true, .list (l.map iD))]
theorem law_draws (l : List Int) (ρ : Sto) : ∃ xs : List Int, xs.length ≤ 600 ∧ runC 1 m__law_draws [.inl (scrD l)] ρ = .ok (.ow (.lst (xs.map iD))) ρ := by
  obtain ⟨ys, hy⟩ := cut_map iD l none (some 63)
  have hy : slcD (scrD l) none (some 63) = some (.ow (.lst (ys.map iD))) := hy
  generalize scrD l = S at hy
  obtain ⟨xs, t2, t3, t4, t5, t6, hl, e⟩ := loopO S ys 0 [] .un .un .un .un .un (.inl rfl) (.inl rfl) (.inl rfl) (.inl rfl) (.inl rfl) (Nat.zero_le _)
  refine ⟨xs, hl, ?_⟩
  have e : forL (bTup 2 (bCons (bNm 2) (bCons (bNm 3) bNil))) bodyO (enF iD 0 ys) [.sh S, .ow false (.lst []), .un, .un, .un, .un, .un] = .ok .nx [.sh S, .ow false (.lst (xs.map iD)), t2, t3, t4, t5, t6] := e
  have en := enu_l iD ys
  have hb : b__law_draws [.sh S, .un, .un, .un, .un, .un, .un] = .ok (.rt (.ow (.lst (xs.map iD)))) [.sh S, .un, t2, t3, t4, t5, t6] := by
    unfold b__law_draws
    rw [← bodyD60, ← bodyD6, ← bodyO]
    simp_all! [ls0, hy, en, e]
  refine run_ok (ds := [S]) (ps := [.un]) rfl ?_ rfl
  unfold m__law_draws
  exact fn_rt (n := 1) (N := 7) (as := [.sh S]) hb (by simp)
end K05
/-! Dt25: the mathematics of the last checks. -/
namespace K05
open PySem PySem.Spec PyProof.Rows L2 Md Nm Hs
section
variable {p : Pt} {pl : List Nam} {mk fw : List Mk} {m : Mk}
theorem mem_left {x : Mk} : x ∈ left p pl mk m ↔ x ∈ mk ∧ x ≠ m ∧ m ∉ needs p pl x := by
  unfold left
  simp only [List.mem_filter, Bool.not_eq_true', decide_eq_false_iff_not]
  exact and_assoc
theorem not_left : m ∉ left p pl mk m := fun h => (mem_left.mp h).2.1 rfl
theorem givB_sub {a b : List Mk} (h : ∀ x ∈ a, x ∈ b) (g : givB a = true) : givB b = true := by
  rw [← any_giv] at g ⊢
  obtain ⟨x, hx, e⟩ := List.any_eq_true.mp g
  exact List.any_eq_true.mpr ⟨x, h x hx, e⟩
theorem givB_left (hg : ¬ (givB mk && !givB (left p pl mk m)) = true) : givB (left p pl mk m) = givB mk := by
  cases h1 : givB mk with
  | true =>
    cases h2 : givB (left p pl mk m) with
    | true => rfl
    | false => rw [h1, h2] at hg; exact absurd rfl hg
  | false =>
    cases h2 : givB (left p pl mk m) with
    | false => rfl
    | true =>
      have := givB_sub (fun x hx => (mem_left.mp hx).1) h2
      rw [h1] at this
      cases this
theorem with_left (hg : ¬ (givB mk && !givB (left p pl mk m)) = true) : withB (left p pl mk m) mk = true := by
  unfold withB
  rw [givB_left hg, decide_eq_true rfl, Bool.true_and]
  exact List.all_eq_true.mpr fun x hx => decide_eq_true (mem_left.mp hx).1
theorem not_with (hm : m ∈ mk) : withB mk (left p pl mk m) = false := by
  unfold withB
  cases h : (mk.all fun x => decide (x ∈ left p pl mk m)) with
  | false => rw [Bool.and_false]
  | true => exact absurd (of_decide_eq_true (List.all_eq_true.mp h m hm)) not_left
/-- a smaller one without m is within what is left -/
theorem fewer_with (F : Fit p pl fw) (hs : ∀ x ∈ fw, x ∈ mk) (ha : givB fw = givB mk) (hm : m ∉ fw) (hg : ¬ (givB mk && !givB (left p pl mk m)) = true) : withB fw (left p pl mk m) = true := by
  unfold withB
  rw [givB_left hg, ha, decide_eq_true rfl, Bool.true_and]
  refine List.all_eq_true.mpr fun x hx => decide_eq_true (mem_left.mpr ⟨hs x hx, fun e => hm (e ▸ hx), fun z => hm (F.clo x hx m z)⟩)
/-- told without gives -/
theorem Fit.noGives (F : Fit p pl mk) : Fit p pl (mk.filter fun x => !decide (x.w = ("gives" : Str))) := by
  refine ⟨F.sz, F.pl3, F.plk, Nat.le_trans (List.length_filter_le _ _) F.len, fun x hx => F.mem x (List.mem_filter.mp hx).1, fun x hx n hn => ?_⟩
  refine List.mem_filter.mpr ⟨F.clo x (List.mem_filter.mp hx).1 n hn, ?_⟩
  obtain ⟨l, rfl⟩ := needs_takes hn
  have : decide (("takes" : Str) = "gives") = false := by decide +kernel
  show (!decide (("takes" : Str) = "gives")) = true
  rw [this]
  rfl
end
end K05
/-! Dt26: _law_pool, the stems. -/
namespace Md
open PySem PySem.Spec PyProof.Rows L2
theorem sS_F {s : Sl} (h : s = .un ∨ ∃ d, s = .sh d) (ρ : Sto) (i : Nat) (t : Sl) : sS (some s) ρ i t = some (ρ.set i t) := by
  rcases h with rfl | ⟨d, rfl⟩ <;> rfl
theorem ixO_ok {i : Nat} {c : Co D} {ρ : Sto} {b : Bool} {ds : List D} {j : Int} {y : D} (h : ρ[i]? = some (.ow b (.lst ds))) (hc : c ρ = .ok (.int j) ρ) (hy : atI ds j = some y) : cIxO i c ρ = .ok (.sh y) ρ := by
  unfold cIxO
  have hb : isOwL ρ i = true := by unfold isOwL; rw [h]
  rw [if_pos hb, hc]
  show (match ρ[i]?, PyData.int j with
  | some (.ow _ (.lst ds)), .int j => (match atI ds j with
    | some y => Out.ok (Rv.sh y) ρ
    | none => .st)
  | _, _ => .st) = _
  rw [h]
  show (match atI ds j with
    | some y => Out.ok (Rv.sh y) ρ
    | none => .st) = _
  rw [hy]
end Md
namespace K05
open PySem PySem.Spec PyProof.Rows L2 Md Nm Hs
local macro_rules | `(tactic| simp_all! [$ls,*]) => `(tactic| simp -implicitDefEqProofs only [bind_ok', bind_er', selK_t, selK_f, e_fz, e_sh, e_O, optO_s, e_2, e_3, e_var, vS_sh, vS_ow, e_D, e_seq, seqK_nx, seqK_rt, seqK_ct, seqK_bk, e_if, okK_e, e_andT, e_orT, e_notT, e_tru, e_tst, boolD_s, e_and, andK_t, andK_f, e_or, orK_t, orK_f, tru_b, e_cm, e_chn, chK_t, chK_f, e_isN, e_idx, e_isi, e_nil, e_cons, e_tup, e_lst, e_ret, e_nx, e_ex, e_set, e_setSl, sS_un, sS_sh, sS_ow, setRv_sh, setRv_ow, oNx_s, toD_sh, toD_lst, toD_obj, muD_lst, muD_obj, e_par, parK_e, e_noP, e_smP, e_sl, e_not, e_A0, e_Av, e_call, List.getElem?_cons_zero, List.getElem?_cons_succ, List.set_cons_zero, List.set_cons_succ, Option.map_some, Option.map_none, Option.bind_some, Bool.not_true, Bool.not_false, e_att, e_met, e_eqO, boolR_e, notR_e, e_inOp, e_niOp, e_opT, e_put, e_atO, atoK_e, e_rai0, e_makV, e_borT, borK_e, fz_un, fz_sh, List.map_cons, List.map_nil, e_mov, movK_sh, movK_ow, e_asg, fldD_e, clsD_e, e_for, ix0, ix1, ix2, il0, il1, il2, ln_t, ln_l, tup_l, tup_t, list_l, list_t, it_l, it_t, gt_ii, ge_ii, lt_ii, le_ii, eq_ss, ne_ss, eq_ii, ne_ii, eb_nm, asInt, sl1, sl2, nmD_e, dself, dselfi, decide_true, decide_false, len1, len2, len3, n_dec, t_tu, t_tw, t_tg, t_ts, t_ut, t_uw, t_ug, t_us, t_wt, t_wu, t_wg, t_ws, t_gt, t_gu, t_gw, t_gs, t_st, t_su, t_sw, t_sg, $ls,*])
def sD (s : Str) : D := .str s
theorem sD_e (s : Str) : sD s = .str s := rfl
theorem _root_.Nm.StOk.mono {s : Str} {k l : Nat} (h : StOk s k) (e : k ≤ l) : StOk s l := ⟨Nat.le_trans h.1 e, h.2⟩
theorem ch_at {z : Str} (hz : z.length ≤ 1000) {r : Int} (h0 : 0 ≤ r) (h1 : r < (z.length : Int)) : ∃ c, atI z.cps.toList r = some c ∧ idxD (.str z) (.int r) = some (.str ⟨#[c]⟩) := by
  have hl : r.toNat < z.cps.toList.length := by rw [Array.length_toList]; show r.toNat < z.length; omega
  have e : ((r.toNat : Nat) : Int) = r := by omega
  have a : atI z.cps.toList ((r.toNat : Nat) : Int) = some z.cps.toList[r.toNat] := atI_nat (List.getElem?_eq_getElem hl)
  rw [e] at a
  refine ⟨_, a, ?_⟩
  show (if z.length ≤ sizeLine then (atI z.cps.toList r).map (fun c => (PyData.str ⟨#[c]⟩ : D)) else none) = _
  rw [if_pos (line_le hz), a]
  rfl
theorem op_cat {a b : Str} (h : a.length + b.length ≤ 1000) : op2 .add (.str a) (.str b) = some (.sh (.str (a ++ b))) := if_pos (line_le h)
def lp (xs : List Int) (sts : List Str) (s2 s3 s4 : Sl) : Sto := [.ow true (.lst (xs.map iD)), .ow false (.lst (sts.map sD)), s2, s3, s4, .un, .un, .un, .un, .un, .un]
def bodyLet : Co Fl := cSet 3 (c2 (cFz (cVar 3)) (cFz (cIdx (cFz (cD (.str "abcdefgh"))) (cFz (cCall 2 m__law_next (cAo 0 (cAv (cFz (cD (.int 8))) cA0)))))) (op2 .add))
theorem ahs_len : ("abcdefgh" : Str).length = 8 := by decide +kernel
theorem loopLet (sts : List Str) (s2 : Sl) : ∀ (r : List Nat) (xs : List Int) (st : Str) (k : Nat) (s4 : Sl), SlF s4 → StOk st k → k + r.length ≤ 7 →
    ∃ (xs' : List Int) (st' : Str) (s4' : Sl), SlF s4' ∧ StOk st' 7 ∧ forL (bNm 4) bodyLet (r.map fun i => .int ((i : Nat) : Int)) (lp xs sts s2 (.sh (.str st)) s4) = .ok .nx (lp xs' sts s2 (.sh (.str st')) s4')
  | [], xs, st, k, s4, h4, hs, hl => ⟨xs, st, s4, h4, hs.mono (Nat.le_trans (Nat.le_add_right _ _) hl), rfl⟩
  | i :: r, xs, st, k, s4, h4, hs, hl => by
    rw [List.length_cons] at hl
    have e1 : bNm 4 (.int (i : Int)) (lp xs sts s2 (.sh (.str st)) s4) = some (lp xs sts s2 (.sh (.str st)) (.sh (.int (i : Int)))) := by rcases h4 with rfl | ⟨d, rfl⟩ <;> rfl
    obtain ⟨n0, n1⟩ := nxt_lt xs (n := 8) (by omega)
    obtain ⟨c, a1, a2⟩ := ch_at (z := ("abcdefgh" : Str)) (by rw [ahs_len]; omega) n0 (by rw [ahs_len]; exact n1)
    have g : StOk ⟨#[c]⟩ 1 := StOk.sign (z := ("abcdefgh" : Str)) (fun c h => decide_eq_true h) a1
    have nx : (cAo 0 (cAv (cFz (cD (.int 8))) cA0) (lp xs sts s2 (.sh (.str st)) (.sh (.int (i : Int))))).bind (fun xs ρ1 => runC 2 m__law_next xs ρ1) = .ok (.sh (.int (nxt xs 8).1)) (lp (nxt xs 8).2 sts s2 (.sh (.str st)) (.sh (.int (i : Int)))) := (e_call 2 m__law_next _ _).symm.trans (c_next (n := 8) (b := true) (xs := xs) rfl rfl (by omega))
    obtain ⟨xs', st', s4', q1, q2, q3⟩ := loopLet sts s2 r (nxt xs 8).2 (st ++ ⟨#[c]⟩) (k + 1) (.sh (.int (i : Int))) (.inr ⟨_, rfl⟩) (hs.app g) (by omega)
    have cat : op2 .add (.str st) (.str ⟨#[c]⟩) = some (.sh (.str (st ++ ⟨#[c]⟩))) := op_cat (by
      have := hs.1
      show st.length + 1 ≤ 1000
      omega)
    have e2 : bodyLet (lp xs sts s2 (.sh (.str st)) (.sh (.int (i : Int)))) = .ok .nx (lp (nxt xs 8).2 sts s2 (.sh (.str (st ++ ⟨#[c]⟩))) (.sh (.int (i : Int)))) := by
      unfold bodyLet
      unfold lp at nx ⊢
      simp_all! [nx, a2, cat]
    refine ⟨xs', st', s4', q1, q2, ?_⟩
    rw [List.map_cons, forL_cons e1 e2]
    exact q3
def bodySt : Co Fl := cSeq (cSet 3 (cD (.str ""))) (cSeq (cFor (bNm 4) (cO (cFz (cCall 2 m__law_next (cAo 0 (cAv (cFz (cD (.int 8))) cA0)))) rngM) bodyLet) (cEx (cApp 1 (cFz (cVar 3)))))
theorem st_empty : StOk ("" : Str) 0 := ⟨by decide +kernel, fun c h => by
  have e : ("" : Str).cps.toList = [] := by decide +kernel
  rw [e] at h
  cases h⟩
theorem nxt_nat (xs : List Int) {n : Nat} (h : 0 < n) : ∃ k : Nat, (nxt xs n).1 = (k : Int) ∧ k < n := by
  obtain ⟨n0, n1⟩ := nxt_lt xs h
  exact ⟨(nxt xs n).1.toNat, by omega, by omega⟩
theorem loopSt : ∀ (r : List Nat) (xs : List Int) (sts : List Str) (s2 s3 s4 : Sl), SlF s2 → SlF s3 → SlF s4 → (∀ s ∈ sts, StOk s 7) → sts.length + r.length ≤ 10 →
    ∃ (xs' : List Int) (sts' : List Str) (s2' s3' s4' : Sl), SlF s2' ∧ SlF s3' ∧ SlF s4' ∧ (∀ s ∈ sts', StOk s 7) ∧ sts'.length = sts.length + r.length ∧ forL (bNm 2) bodySt (r.map fun i => .int ((i : Nat) : Int)) (lp xs sts s2 s3 s4) = .ok .nx (lp xs' sts' s2' s3' s4')
  | [], xs, sts, s2, s3, s4, h2, h3, h4, hs, hl => ⟨xs, sts, s2, s3, s4, h2, h3, h4, hs, rfl, rfl⟩
  | i :: r, xs, sts, s2, s3, s4, h2, h3, h4, hs, hl => by
    rw [List.length_cons] at hl ⊢
    have e1 : bNm 2 (.int (i : Int)) (lp xs sts s2 s3 s4) = some (lp xs sts (.sh (.int (i : Int))) s3 s4) := by rcases h2 with rfl | ⟨d, rfl⟩ <;> rfl
    obtain ⟨k, hk, k8⟩ := nxt_nat xs (n := 8) (by omega)
    have nx : (cAo 0 (cAv (cFz (cD (.int 8))) cA0) (lp xs sts (.sh (.int (i : Int))) (.sh (.str "")) s4)).bind (fun xs ρ1 => runC 2 m__law_next xs ρ1) = .ok (.sh (.int (k : Int))) (lp (nxt xs 8).2 sts (.sh (.int (i : Int))) (.sh (.str "")) s4) := by
      rw [← hk]
      exact (e_call 2 m__law_next _ _).symm.trans (c_next (n := 8) (b := true) (xs := xs) rfl rfl (by omega))
    obtain ⟨xs1, st1, t4, q1, q2, q3⟩ := loopLet sts (.sh (.int (i : Int))) (List.range k) (nxt xs 8).2 "" 0 s4 h4 st_empty (by rw [List.length_range]; omega)
    have rk := rngK k (by omega)
    have p1 : isOwL (lp xs1 sts (.sh (.int (i : Int))) (.sh (.str st1)) t4) 1 = true := rfl
    have p2 : appL (lp xs1 sts (.sh (.int (i : Int))) (.sh (.str st1)) t4) 1 [.str st1] = .ok (.sh .none) (lp xs1 (sts ++ [st1]) (.sh (.int (i : Int))) (.sh (.str st1)) t4) := by
      unfold lp
      rw [List.map_append]
      exact if_pos (line_le (by rw [List.length_map]; show sts.length + 1 ≤ 1000; omega))
    have f3 := sS_F h3
    have e2 : bodySt (lp xs sts (.sh (.int (i : Int))) s3 s4) = .ok .nx (lp xs1 (sts ++ [st1]) (.sh (.int (i : Int))) (.sh (.str st1)) t4) := by
      unfold bodySt
      unfold lp at nx q3 p1 p2 ⊢
      simp_all! [f3, nx, rk, q3, e_app, p1, p2]
    obtain ⟨xs', sts', t2, t3, t4', a2, a3, a4, a5, a6, a7⟩ := loopSt r xs1 (sts ++ [st1]) (.sh (.int (i : Int))) (.sh (.str st1)) t4 (.inr ⟨_, rfl⟩) (.inr ⟨_, rfl⟩) q1 (fun s m => by
      rcases List.mem_append.mp m with m | m
      · exact hs s m
      · rw [List.mem_singleton.mp m]; exact q2) (by rw [List.length_append]; show sts.length + 1 + r.length ≤ 10; omega)
    refine ⟨xs', sts', t2, t3, t4', a2, a3, a4, a5, by rw [a6, List.length_append]; show sts.length + 1 + r.length = _; omega, ?_⟩
    rw [List.map_cons, forL_cons e1 e2]
    exact a7
end K05
/-! Dt27: _law_pool, the names. -/
namespace K05
open PySem PySem.Spec PyProof.Rows L2 Md Nm Hs
local macro_rules | `(tactic| simp_all! [$ls,*]) => `(tactic| simp -implicitDefEqProofs only [bind_ok', bind_er', selK_t, selK_f, e_fz, e_sh, e_O, optO_s, e_2, e_3, e_var, vS_sh, vS_ow, e_D, e_seq, seqK_nx, seqK_rt, seqK_ct, seqK_bk, e_if, okK_e, e_andT, e_orT, e_notT, e_tru, e_tst, boolD_s, e_and, andK_t, andK_f, e_or, orK_t, orK_f, tru_b, e_cm, e_chn, chK_t, chK_f, e_isN, e_idx, e_isi, e_nil, e_cons, e_tup, e_lst, e_ret, e_nx, e_ex, e_set, e_setSl, sS_un, sS_sh, sS_ow, setRv_sh, setRv_ow, oNx_s, toD_sh, toD_lst, toD_obj, muD_lst, muD_obj, e_par, parK_e, e_noP, e_smP, e_sl, e_not, e_A0, e_Av, e_call, List.getElem?_cons_zero, List.getElem?_cons_succ, List.set_cons_zero, List.set_cons_succ, Option.map_some, Option.map_none, Option.bind_some, Bool.not_true, Bool.not_false, e_att, e_met, e_eqO, boolR_e, notR_e, e_inOp, e_niOp, e_opT, e_put, e_atO, atoK_e, e_rai0, e_makV, e_borT, borK_e, fz_un, fz_sh, List.map_cons, List.map_nil, e_mov, movK_sh, movK_ow, e_asg, fldD_e, clsD_e, e_for, ix0, ix1, ix2, il0, il1, il2, ln_t, ln_l, tup_l, tup_t, list_l, list_t, it_l, it_t, gt_ii, ge_ii, lt_ii, le_ii, eq_ss, ne_ss, eq_ii, ne_ii, eb_nm, asInt, sl1, sl2, nmD_e, dself, dselfi, decide_true, decide_false, len1, len2, len3, n_dec, t_tu, t_tw, t_tg, t_ts, t_ut, t_uw, t_ug, t_us, t_wt, t_wu, t_wg, t_ws, t_gt, t_gu, t_gw, t_gs, t_st, t_su, t_sw, t_sg, $ls,*])
def bI1 : Co Fl := cIf (cAndT (cTst (cCm .gt (cFz (cVar 8)) (cFz (cD (.int 17))))) (cTst (cCm .eq (cFz (cVar 3)) (cFz (cD (.str "")))))) (cSet 3 (cD (.str "a"))) cNx
def bI2 : Co Fl := cIf (cAndT (cTst (cCm .gt (cFz (cVar 8)) (cFz (cD (.int 17))))) (cTst (cCm .eq (cFz (cVar 9)) (cFz (cD (.int 0)))))) (cSet 9 (cD (.int 1))) cNx
def bI3 : Co Fl := cIf (cTst (cCm .inn (cFz (cVar 10)) (cFz (cLst (cCons (cFz (cD (.str "do"))) (cCons (cFz (cD (.str "as"))) (cCons (cFz (cD (.str "read"))) (cCons (cFz (cD (.str "fetch"))) cNil)))))))) (cSet 10 (c2 (cFz (cVar 10)) (cFz (cD (.str "0"))) (op2 .add))) cNx
def bodyNm : Co Fl := (cSeq (cSet 8 (c2 (cFz (cO (cFz (c2 (cFz (cVar 5)) (cFz (c2 (cFz (cD (.int 5))) (cFz (cVar 7)) (op2 .mul))) (op2 .add))) (biD .int))) (cFz (cD (.int 28))) (op2 .mod)))
  (cSeq (cSet 3 (cIxO 1 (cFz (c2 (cFz (cVar 7)) (cFz (cD (.int 3))) (op2 .mod)))))
  (cSeq bI1
  (cSeq (cSet 9 (c2 (cFz (cO (cFz (c2 (cFz (c2 (cFz (cVar 7)) (cFz (cD (.int 3))) (op2 .fdiv))) (cFz (cO (cFz (cVar 3)) (biD .len))) (op2 .add))) (biD .int))) (cFz (c2 (cFz (cO (cFz (cVar 3)) (biD .len))) (cFz (cD (.int 1))) (op2 .add))) (op2 .mod)))
  (cSeq bI2
  (cSeq (cSet 10 (c2 (cFz (c2 (cFz (cSl (cFz (cVar 3)) cNoP (cSmP (cFz (cVar 9))))) (cFz (cIdx (cFz (cD (.str "ijklmnopqrstuvwxyz0123456789"))) (cFz (cVar 8)))) (op2 .add))) (cFz (cSl (cFz (cVar 3)) (cSmP (cFz (cVar 9))) cNoP)) (op2 .add)))
  (cSeq bI3
  (cEx (cApp 6 (cFz (cVar 10)))))))))))
def lq (xs : List Int) (sts ns : List Str) (f : Int) (s2 s3 s4 s7 s8 s9 s10 : Sl) : Sto := [.ow true (.lst (xs.map iD)), .ow false (.lst (sts.map sD)), s2, s3, s4, .sh (.int f), .ow false (.lst (ns.map sD)), s7, s8, s9, s10]
section
variable {xs : List Int} {sts ns : List Str} {f : Int} {s2 s3 s4 s7 s8 s9 s10 : Sl} {st n : Str} {sg pl : Int}
theorem i1_ok : bI1 (lq xs sts ns f s2 (.sh (.str st)) s4 s7 (.sh (.int sg)) s9 s10) = .ok .nx (lq xs sts ns f s2 (.sh (.str (if 17 < sg ∧ st = "" then "a" else st))) s4 s7 (.sh (.int sg)) s9 s10) := by
  unfold bI1 lq
  by_cases h1 : 17 < sg
  · have k1 := decide_eq_true h1
    by_cases h2 : st = ""
    · have k2 := decide_eq_true h2
      rw [if_pos ⟨h1, h2⟩]
      simp_all! [k1, k2]
    · have k2 := decide_eq_false h2
      rw [if_neg fun z => h2 z.2]
      simp_all! [k1, k2]
  · have k1 := decide_eq_false h1
    rw [if_neg fun z => h1 z.1]
    simp_all! [k1]
theorem i2_ok : bI2 (lq xs sts ns f s2 s3 s4 s7 (.sh (.int sg)) (.sh (.int pl)) s10) = .ok .nx (lq xs sts ns f s2 s3 s4 s7 (.sh (.int sg)) (.sh (.int (if 17 < sg ∧ pl = 0 then 1 else pl))) s10) := by
  unfold bI2 lq
  by_cases h1 : 17 < sg
  · have k1 := decide_eq_true h1
    by_cases h2 : pl = 0
    · have k2 := decide_eq_true h2
      rw [if_pos ⟨h1, h2⟩]
      simp_all! [k1, k2]
    · have k2 := decide_eq_false h2
      rw [if_neg fun z => h2 z.2]
      simp_all! [k1, k2]
  · have k1 := decide_eq_false h1
    rw [if_neg fun z => h1 z.1]
    simp_all! [k1]
def fours : List Str := ["do", "as", "read", "fetch"]
theorem in_lst {s : Str} {l : List Str} (hs : PyData.strOk s = true) (hl : ∀ w ∈ l, PyData.strOk w = true) : cmp2 .inn (.str s) (.list (l.map .str)) = some (decide (s ∈ l)) := by
  obtain ⟨h1, h2⟩ := shS hl
  have e1 : SeqAt.shaped (.str s) = true := by unfold SeqAt.shaped; rw [PyData.canLay0, hs]; exact decide_eq_true (by show 0 ≤ 64; omega)
  have e2 : SeqAt.shaped (.list (l.map .str)) = true := by unfold SeqAt.shaped; rw [PyData.canLay0, h1]; exact decide_eq_true (by rw [PyData.depth, h2]; omega)
  show (if (SeqAt.shaped (.str s) && SeqAt.shaped (.list (l.map .str))) = true then some (inD (.str s) (l.map .str)) else none) = _
  rw [e1, e2, inD_str]
  rfl
theorem ls4 (a b c d : D) : (if ([a, b, c, d] : List D).length ≤ sizeLine then some (Rv.ow (.lst [a, b, c, d])) else none) = some (Rv.ow (.lst [a, b, c, d])) := if_pos (line_le (by show 4 ≤ 1000; omega))
theorem i3_ok (h1 : n.length ≤ 8) (h2 : PyData.strOk n = true) : bI3 (lq xs sts ns f s2 s3 s4 s7 s8 s9 (.sh (.str n))) = .ok .nx (lq xs sts ns f s2 s3 s4 s7 s8 s9 (.sh (.str (if n ∈ fours then n ++ "0" else n)))) := by
  have i4 : cmp2 .inn (.str n) (.list [.str "do", .str "as", .str "read", .str "fetch"]) = some (decide (n ∈ fours)) := in_lst (l := fours) h2 (by decide +kernel)
  have z1 : ("0" : Str).length = 1 := by decide +kernel
  have cat : op2 .add (.str n) (.str "0") = some (.sh (.str (n ++ "0"))) := op_cat (by rw [z1]; omega)
  unfold bI3 lq
  by_cases h : n ∈ fours
  · have k := decide_eq_true h
    rw [if_pos h]
    simp_all! [ls4, i4, k, cat]
  · have k := decide_eq_false h
    rw [if_neg h]
    simp_all! [ls4, i4, k]
end
theorem slx (z : Str) (lo hi : Option Int) (h : z.length ≤ 1000) : slcD (.str z) lo hi = some (.sh (.str (cutS z lo hi))) := by
  show (if z.length ≤ sizeLine then some (Rv.sh (.str (Txt.slice z lo hi))) else none) = _
  rw [if_pos (line_le h)]
  exact congrArg (fun s => some (Rv.sh (PyData.str s))) (sliceText_cut z lo hi)
theorem ln_s {z : Str} (h : z.length ≤ 1000) : biD .len (.str z) = some (.sh (.int z.length)) := if_pos (line_le h)
theorem sgl_len : ("ijklmnopqrstuvwxyz0123456789" : Str).length = 28 := by decide +kernel
theorem a_len : ("a" : Str).length = 1 := by decide +kernel
theorem a_ok : StOk ("a" : Str) 7 := ⟨by rw [a_len]; omega, fun c h => by
  have key : ∀ c ∈ ("a" : Str).cps.toList, okA c = true := by decide +kernel
  exact key c h⟩
theorem name_ok8 {n : Str} (h : isName n = true) : PyData.strOk n = true := nm_ok h
theorem four_sok : ∀ n ∈ fours, PyData.strOk n = true := by decide +kernel
theorem str_pos {st : Str} (h : st ≠ "") : 1 ≤ st.length := by
  rcases Nat.eq_zero_or_pos st.length with z | z
  · refine absurd ?_ h
    have e : st.cps = #[] := Array.eq_empty_of_size_eq_zero z
    obtain ⟨c⟩ := st
    have e : c = #[] := e
    rw [e]
    decide +kernel
  · exact z
end K05
/-! Dt28: _law_pool. -/
namespace K05
open PySem PySem.Spec PyProof.Rows L2 Md Nm Hs
local macro_rules | `(tactic| simp_all! [$ls,*]) => `(tactic| simp -implicitDefEqProofs only [bind_ok', bind_er', selK_t, selK_f, e_fz, e_sh, e_O, optO_s, e_2, e_3, e_var, vS_sh, vS_ow, e_D, e_seq, seqK_nx, seqK_rt, seqK_ct, seqK_bk, e_if, okK_e, e_andT, e_orT, e_notT, e_tru, e_tst, boolD_s, e_and, andK_t, andK_f, e_or, orK_t, orK_f, tru_b, e_cm, e_chn, chK_t, chK_f, e_isN, e_idx, e_isi, e_nil, e_cons, e_tup, e_lst, e_ret, e_nx, e_ex, e_set, e_setSl, sS_un, sS_sh, sS_ow, setRv_sh, setRv_ow, oNx_s, toD_sh, toD_lst, toD_obj, muD_lst, muD_obj, e_par, parK_e, e_noP, e_smP, e_sl, e_not, e_A0, e_Av, e_call, List.getElem?_cons_zero, List.getElem?_cons_succ, List.set_cons_zero, List.set_cons_succ, Option.map_some, Option.map_none, Option.bind_some, Bool.not_true, Bool.not_false, e_att, e_met, e_eqO, boolR_e, notR_e, e_inOp, e_niOp, e_opT, e_put, e_atO, atoK_e, e_rai0, e_makV, e_borT, borK_e, fz_un, fz_sh, List.map_cons, List.map_nil, e_mov, movK_sh, movK_ow, e_asg, fldD_e, clsD_e, e_for, ix0, ix1, ix2, il0, il1, il2, ln_t, ln_l, tup_l, tup_t, list_l, list_t, it_l, it_t, gt_ii, ge_ii, lt_ii, le_ii, eq_ss, ne_ss, eq_ii, ne_ii, eb_nm, asInt, sl1, sl2, nmD_e, dself, dselfi, decide_true, decide_false, len1, len2, len3, n_dec, t_tu, t_tw, t_tg, t_ts, t_ut, t_uw, t_ug, t_us, t_wt, t_wu, t_wg, t_ws, t_gt, t_gu, t_gw, t_gs, t_st, t_su, t_sw, t_sg, $ls,*])
section
variable {xs : List Int} {sts ns : List Str} {f : Int} {s2 s3 s4 s7 s8 s9 s10 : Sl}
theorem stepNm {k : Nat} (f0 : 0 ≤ f) (h3 : sts.length = 3) (hst : ∀ s ∈ sts, StOk s 7) (hk : k < 28) (hns : ns.length ≤ 40) (g3 : SlF s3) (g8 : SlF s8) (g9 : SlF s9) (g10 : SlF s10) :
    ∃ (n t3 : Str) (t8 t9 : Int), Pn ((f + 5 * (k : Int)) % 28) n ∧ bodyNm (lq xs sts ns f s2 s3 s4 (.sh (.int (k : Int))) s8 s9 s10) = .ok .nx (lq xs sts (ns ++ [n]) f s2 (.sh (.str t3)) s4 (.sh (.int (k : Int))) (.sh (.int t8)) (.sh (.int t9)) (.sh (.str n))) := by
  generalize hsg : (f + 5 * (k : Int)) % 28 = sg
  have u0 : 0 ≤ sg := by omega
  have u1 : sg < 28 := by omega
  have hi : k % 3 < sts.length := by omega
  obtain ⟨st, hs1⟩ : ∃ st, sts[k % 3]? = some st := ⟨_, List.getElem?_eq_getElem hi⟩
  have ok0 := hst st (List.mem_of_getElem? hs1)
  have at1 : atI (sts.map sD) ((k % 3 : Nat) : Int) = some (.str st) := atI_nat (by rw [List.getElem?_map, hs1]; rfl)
  have m1 : op2 .mul (.int 5) (.int (k : Int)) = some (.sh (.int (5 * (k : Int)))) := o_mull (i := 5) _ (by omega)
  have m2 : op2 .mod (.int (f + 5 * (k : Int))) (.int 28) = some (.sh (.int sg)) := by rw [op_mod _ (by omega), hsg]
  have m3 : op2 .mod (.int (k : Int)) (.int 3) = some (.sh (.int ((k % 3 : Nat) : Int))) := by rw [op_mod _ (by omega)]; rfl
  have x1 : cIxO 1 (cFz (c2 (cFz (cVar 7)) (cFz (cD (.int 3))) (op2 .mod))) (lq xs sts ns f s2 s3 s4 (.sh (.int (k : Int))) (.sh (.int sg)) s9 s10) = .ok (.sh (.str st)) (lq xs sts ns f s2 s3 s4 (.sh (.int (k : Int))) (.sh (.int sg)) s9 s10) := ixO_ok (b := false) (ds := sts.map sD) rfl (by unfold lq; simp_all! [m3]) at1
  have i1 := i1_ok (xs := xs) (sts := sts) (ns := ns) (f := f) (s2 := s2) (s4 := s4) (s7 := .sh (.int (k : Int))) (s9 := s9) (s10 := s10) (st := st) (sg := sg)
  have ok1 : StOk (if 17 < sg ∧ st = "" then ("a" : Str) else st) 7 := by
    by_cases z : 17 < sg ∧ st = ""
    · rw [if_pos z]; exact a_ok
    · rw [if_neg z]; exact ok0
  have l1 : 17 < sg → 1 ≤ (if 17 < sg ∧ st = "" then ("a" : Str) else st).length := fun h => by
    by_cases z : 17 < sg ∧ st = ""
    · rw [if_pos z, a_len]; omega
    · rw [if_neg z]; exact str_pos fun e => z ⟨h, e⟩
  generalize (if 17 < sg ∧ st = "" then ("a" : Str) else st) = st1 at i1 ok1 l1
  have l7 := ok1.1
  have d1 : op2 .fdiv (.int (k : Int)) (.int 3) = some (.sh (.int ((k : Int) / 3))) := op_div _ (by omega)
  have ln := ln_s (z := st1) (by omega)
  have m4 := op_mod ((k : Int) / 3 + (st1.length : Int)) (j := (st1.length : Int) + 1) (by omega)
  have v0 : 0 ≤ ((k : Int) / 3 + (st1.length : Int)) % ((st1.length : Int) + 1) := Int.emod_nonneg _ (by omega)
  have v1 : ((k : Int) / 3 + (st1.length : Int)) % ((st1.length : Int) + 1) < (st1.length : Int) + 1 := Int.emod_lt_of_pos _ (by omega)
  generalize ((k : Int) / 3 + (st1.length : Int)) % ((st1.length : Int) + 1) = pl0 at m4 v0 v1
  have i2 := i2_ok (xs := xs) (sts := sts) (ns := ns) (f := f) (s2 := s2) (s3 := .sh (.str st1)) (s4 := s4) (s7 := .sh (.int (k : Int))) (s10 := s10) (sg := sg) (pl := pl0)
  have w0 : 0 ≤ (if 17 < sg ∧ pl0 = 0 then (1 : Int) else pl0) ∧ (if 17 < sg ∧ pl0 = 0 then (1 : Int) else pl0) ≤ (st1.length : Int) ∧ (17 < sg → 1 ≤ (if 17 < sg ∧ pl0 = 0 then (1 : Int) else pl0)) := by
    by_cases z : 17 < sg ∧ pl0 = 0
    · rw [if_pos z]
      have := l1 z.1
      exact ⟨by omega, by omega, fun _ => by omega⟩
    · rw [if_neg z]
      exact ⟨v0, by omega, fun h => by
        by_cases y : pl0 = 0
        · exact absurd ⟨h, y⟩ z
        · omega⟩
  generalize (if 17 < sg ∧ pl0 = 0 then (1 : Int) else pl0) = pl1 at i2 w0
  obtain ⟨w0, w1, w2⟩ := w0
  obtain ⟨c, a1, a2⟩ := ch_at (z := ("ijklmnopqrstuvwxyz0123456789" : Str)) (by rw [sgl_len]; omega) u0 (by rw [sgl_len]; exact u1)
  have key : (cutS st1 none (some pl1) ++ ⟨#[c]⟩ ++ cutS st1 (some pl1) none).length ≤ 8 ∧ (if (cutS st1 none (some pl1) ++ ⟨#[c]⟩ ++ cutS st1 (some pl1) none) ∈ fours then Pn sg ((cutS st1 none (some pl1) ++ ⟨#[c]⟩ ++ cutS st1 (some pl1) none) ++ "0") else Pn sg (cutS st1 none (some pl1) ++ ⟨#[c]⟩ ++ cutS st1 (some pl1) none)) := pn_key ok1 u0 u1 a1 w0 w1 w2
  have c1 := slx st1 none (some pl1) (by omega)
  have c2 := slx st1 (some pl1) none (by omega)
  have z1 := cutS_length st1 none (some pl1)
  have z2 := cutS_length st1 (some pl1) none
  have lc : (⟨#[c]⟩ : Str).length = 1 := rfl
  have t1 : op2 .add (.str (cutS st1 none (some pl1))) (.str ⟨#[c]⟩) = some (.sh (.str (cutS st1 none (some pl1) ++ ⟨#[c]⟩))) := op_cat (by rw [lc]; omega)
  have t2 : op2 .add (.str (cutS st1 none (some pl1) ++ ⟨#[c]⟩)) (.str (cutS st1 (some pl1) none)) = some (.sh (.str (cutS st1 none (some pl1) ++ ⟨#[c]⟩ ++ cutS st1 (some pl1) none))) := op_cat (by rw [strLen_append, lc]; omega)
  generalize cutS st1 none (some pl1) ++ ⟨#[c]⟩ ++ cutS st1 (some pl1) none = n0 at key t2
  obtain ⟨k8, kp⟩ := key
  have sok : PyData.strOk n0 = true := by
    by_cases z : n0 ∈ fours
    · exact four_sok n0 z
    · rw [if_neg z] at kp
      exact nm_ok kp.nm
  have i3 := i3_ok (xs := xs) (sts := sts) (ns := ns) (f := f) (s2 := s2) (s3 := .sh (.str st1)) (s4 := s4) (s7 := .sh (.int (k : Int))) (s8 := .sh (.int sg)) (s9 := .sh (.int pl1)) k8 sok
  have pn : Pn sg (if n0 ∈ fours then n0 ++ "0" else n0) := by
    by_cases z : n0 ∈ fours
    · rw [if_pos z] at kp ⊢; exact kp
    · rw [if_neg z] at kp ⊢; exact kp
  generalize (if n0 ∈ fours then n0 ++ "0" else n0) = n at i3 pn
  refine ⟨n, st1, sg, pl1, pn, ?_⟩
  have p1 : isOwL (lq xs sts ns f s2 (.sh (.str st1)) s4 (.sh (.int (k : Int))) (.sh (.int sg)) (.sh (.int pl1)) (.sh (.str n))) 6 = true := rfl
  have p2 : appL (lq xs sts ns f s2 (.sh (.str st1)) s4 (.sh (.int (k : Int))) (.sh (.int sg)) (.sh (.int pl1)) (.sh (.str n))) 6 [.str n] = .ok (.sh .none) (lq xs sts (ns ++ [n]) f s2 (.sh (.str st1)) s4 (.sh (.int (k : Int))) (.sh (.int sg)) (.sh (.int pl1)) (.sh (.str n))) := by
    unfold lq
    rw [List.map_append]
    exact if_pos (line_le (by rw [List.length_map]; show ns.length + 1 ≤ 1000; omega))
  have q3 := sS_F g3
  have q8 := sS_F g8
  have q9 := sS_F g9
  have q10 := sS_F g10
  unfold bodyNm
  unfold lq at x1 i1 i2 i3 p1 p2 ⊢
  simp_all! [m1, o_addi, b_int, m2, q8, x1, q3, i1, d1, ln, m4, q9, i2, c1, a2, t1, c2, t2, q10, i3, e_app, p1, p2]
theorem loopNm (f0 : 0 ≤ f) (h3 : sts.length = 3) (hst : ∀ s ∈ sts, StOk s 7) : ∀ (r pre : List Nat) (ns : List Str) (s3 s7 s8 s9 s10 : Sl), SlF s3 → SlF s7 → SlF s8 → SlF s9 → SlF s10 → ns.map fo = pre.map (sgAt f) → (∀ n ∈ ns, isName n = true) → (∀ k ∈ r, k < 28) → pre.length + r.length ≤ 40 →
    ∃ (ns' : List Str) (t3 t7 t8 t9 t10 : Sl), ns'.map fo = (pre ++ r).map (sgAt f) ∧ (∀ n ∈ ns', isName n = true) ∧ forL (bNm 7) bodyNm (r.map fun i => .int ((i : Nat) : Int)) (lq xs sts ns f s2 s3 s4 s7 s8 s9 s10) = .ok .nx (lq xs sts ns' f s2 t3 s4 t7 t8 t9 t10)
  | [], pre, ns, s3, s7, s8, s9, s10, g3, g7, g8, g9, g10, hf, hn, hk, hl => ⟨ns, s3, s7, s8, s9, s10, by rw [List.append_nil]; exact hf, hn, rfl⟩
  | k :: r, pre, ns, s3, s7, s8, s9, s10, g3, g7, g8, g9, g10, hf, hn, hk, hl => by
    rw [List.length_cons] at hl
    have e1 : bNm 7 (.int (k : Int)) (lq xs sts ns f s2 s3 s4 s7 s8 s9 s10) = some (lq xs sts ns f s2 s3 s4 (.sh (.int (k : Int))) s8 s9 s10) := by rcases g7 with rfl | ⟨d, rfl⟩ <;> rfl
    have ln : ns.length = pre.length := by rw [← List.length_map (f := fo), hf, List.length_map]
    obtain ⟨n, t3, t8, t9, pn, e2⟩ := stepNm (xs := xs) (s2 := s2) (s4 := s4) f0 h3 hst (hk k List.mem_cons_self) (ns := ns) (by omega) g3 g8 g9 g10
    obtain ⟨ns', u3, u7, u8, u9, u10, a1, a2, a3⟩ := loopNm f0 h3 hst r (pre ++ [k]) (ns ++ [n]) (.sh (.str t3)) (.sh (.int (k : Int))) (.sh (.int t8)) (.sh (.int t9)) (.sh (.str n)) (.inr ⟨_, rfl⟩) (.inr ⟨_, rfl⟩) (.inr ⟨_, rfl⟩) (.inr ⟨_, rfl⟩) (.inr ⟨_, rfl⟩) (by
      rw [List.map_append, List.map_append, hf]
      congr 1
      show [fo n] = [sgAt f k]
      rw [pn.fo]
      unfold sgAt
      rw [Int.zero_add]) (fun m hm => by
      rcases List.mem_append.mp hm with hm | hm
      · exact hn m hm
      · rw [List.mem_singleton.mp hm]; exact pn.nm) (fun j hj => hk j (List.mem_cons_of_mem _ hj)) (by rw [List.length_append]; show pre.length + 1 + r.length ≤ 40; omega)
    refine ⟨ns', u3, u7, u8, u9, u10, by rw [a1, List.append_assoc]; rfl, a2, ?_⟩
    rw [List.map_cons, forL_cons e1 e2]
    exact a3
end
theorem law_pool {ρ : Sto} {i : Nat} {b : Bool} {xs : List Int} (h : ρ[i]? = some (.ow b (.lst (xs.map iD)))) :
    ∃ (ns : List Str) (xs' : List Int), Pool ns ∧ runC 1 m__law_pool [.inr i] ρ = .ok (.ow (.lst (ns.map sD))) (ρ.set i (.ow b (.lst (xs'.map iD)))) := by
  have r3 : rngM (.int 3) = some ((List.range 3).map fun i => .int ((i : Nat) : Int)) := rngK 3 (by omega)
  have r28 : rngM (.int 28) = some ((List.range 28).map fun i => .int ((i : Nat) : Int)) := rngK 28 (by omega)
  obtain ⟨xs1, sts, s2, s3, s4, g2, g3, g4, hst, hlen, e1⟩ := loopSt (List.range 3) xs [] .un .un .un (.inl rfl) (.inl rfl) (.inl rfl) (fun s m => by cases m) (by decide)
  have hlen : sts.length = 3 := hlen
  obtain ⟨f, hf, f28⟩ := nxt_nat xs1 (n := 28) (by omega)
  have nx : (cAo 0 (cAv (cFz (cD (.int 28))) cA0) (lp xs1 sts s2 s3 s4)).bind (fun xs ρ1 => runC 2 m__law_next xs ρ1) = .ok (.sh (.int (f : Int))) (lp (nxt xs1 28).2 sts s2 s3 s4) := by
    rw [← hf]
    exact (e_call 2 m__law_next _ _).symm.trans (c_next (n := 28) (b := true) (xs := xs1) rfl rfl (by omega))
  obtain ⟨ns, t3, t7, t8, t9, t10, a1, a2, e2⟩ := loopNm (xs := (nxt xs1 28).2) (s2 := s2) (s4 := s4) (f := (f : Int)) (by omega) hlen hst (List.range 28) [] [] s3 .un .un .un .un g3 (.inl rfl) (.inl rfl) (.inl rfl) (.inl rfl) rfl (fun n m => by cases m) (fun k m => List.mem_range.mp m) (by decide)
  rw [List.nil_append] at a1
  refine ⟨ns, (nxt xs1 28).2, pool_of (by omega) (by omega) a1 a2, ?_⟩
  refine run_own (ds := []) (ps := []) h rfl ?_ rfl
  have hb : b__law_pool [.ow true (.lst (xs.map iD)), .un, .un, .un, .un, .un, .un, .un, .un, .un, .un] = .ok (.rt (.ow (.lst (ns.map sD)))) [.ow true (.lst ((nxt xs1 28).2.map iD)), .ow false (.lst (sts.map sD)), s2, t3, s4, .sh (.int (f : Int)), .un, t7, t8, t9, t10] := by
    unfold b__law_pool
    rw [← bodyLet, ← bodySt, ← bI1, ← bI2, ← bI3, ← bodyNm]
    unfold lp at e1 nx
    unfold lq at e2
    have e1 : forL (bNm 2) bodySt ((List.range 3).map fun i => .int ((i : Nat) : Int)) [.ow true (.lst (xs.map iD)), .ow false (.lst []), .un, .un, .un, .un, .un, .un, .un, .un, .un] = _ := e1
    have e2 : forL (bNm 7) bodyNm ((List.range 28).map fun i => .int ((i : Nat) : Int)) [.ow true (.lst ((nxt xs1 28).2.map iD)), .ow false (.lst (sts.map sD)), s2, s3, s4, .sh (.int (f : Int)), .ow false (.lst []), .un, .un, .un, .un] = _ := e2
    simp_all! [ls0, r3, e1, nx, r28, e2]
  unfold m__law_pool
  exact fn_rt (n := 1) (N := 11) (as := [.ow true (.lst (xs.map iD))]) hb (by simp)
end K05
/-! Dt29: _law_parts. -/
namespace K05
open PySem PySem.Spec PyProof.Rows L2 Md Nm Hs
local macro_rules | `(tactic| simp_all! [$ls,*]) => `(tactic| simp -implicitDefEqProofs only [bind_ok', bind_er', selK_t, selK_f, e_fz, e_sh, e_O, optO_s, e_2, e_3, e_var, vS_sh, vS_ow, e_D, e_seq, seqK_nx, seqK_rt, seqK_ct, seqK_bk, e_if, okK_e, e_andT, e_orT, e_notT, e_tru, e_tst, boolD_s, e_and, andK_t, andK_f, e_or, orK_t, orK_f, tru_b, e_cm, e_chn, chK_t, chK_f, e_isN, e_idx, e_isi, e_nil, e_cons, e_tup, e_lst, e_ret, e_nx, e_ex, e_set, e_setSl, sS_un, sS_sh, sS_ow, setRv_sh, setRv_ow, oNx_s, toD_sh, toD_lst, toD_obj, muD_lst, muD_obj, e_par, parK_e, e_noP, e_smP, e_sl, e_not, e_A0, e_Av, e_call, List.getElem?_cons_zero, List.getElem?_cons_succ, List.set_cons_zero, List.set_cons_succ, Option.map_some, Option.map_none, Option.bind_some, Bool.not_true, Bool.not_false, e_att, e_met, e_eqO, boolR_e, notR_e, e_inOp, e_niOp, e_opT, e_put, e_atO, atoK_e, e_rai0, e_makV, e_borT, borK_e, fz_un, fz_sh, List.map_cons, List.map_nil, e_mov, movK_sh, movK_ow, e_asg, fldD_e, clsD_e, e_for, ix0, ix1, ix2, il0, il1, il2, ln_t, ln_l, tup_l, tup_t, list_l, list_t, it_l, it_t, gt_ii, ge_ii, lt_ii, le_ii, eq_ss, ne_ss, eq_ii, ne_ii, eb_nm, asInt, sl1, sl2, nmD_e, dself, dselfi, decide_true, decide_false, len1, len2, len3, n_dec, t_tu, t_tw, t_tg, t_ts, t_ut, t_uw, t_ug, t_us, t_wt, t_wu, t_wg, t_ws, t_gt, t_gu, t_gw, t_gs, t_st, t_su, t_sw, t_sg, $ls,*])
theorem pool_nam : ∀ {ns : List Str}, (∀ n ∈ ns, isName n = true) → ∃ P : List Nam, P.map (fun a => a.1) = ns
  | [], _ => ⟨[], rfl⟩
  | n :: ns, h => by
    obtain ⟨P, e⟩ := pool_nam (ns := ns) fun m hm => h m (List.mem_cons_of_mem _ hm)
    exact ⟨⟨n, h n List.mem_cons_self⟩ :: P, by rw [List.map_cons, e]⟩
theorem pool_P {ns : List Str} (h : Pool ns) : ∃ P : List Nam, P.length = 28 ∧ P.Nodup ∧ ns.map sD = P.map nmD := by
  obtain ⟨P, e⟩ := pool_nam h.nm
  refine ⟨P, ?_, ?_, ?_⟩
  · have := h.len
    rw [← e, List.length_map] at this
    exact this
  · have := h.nd
    rw [← e] at this
    exact (List.pairwise_map.mp this).imp fun h e => h (congrArg _ e)
  · rw [← e, List.map_map]
    rfl
theorem ixP {P : List Nam} {k : Nat} {a : Nam} (h : P[k]? = some a) : idxD (.list (P.map nmD)) (.int (k : Int)) = some (.str a.1) := atI_nat (by rw [List.getElem?_map, h]; rfl)
theorem inj_P {P : List Nam} (h : P.Nodup) {i j : Nat} {a : Nam} (hi : P[i]? = some a) (hj : P[j]? = some a) : i = j := by
  have : i < P.length := (List.getElem?_eq_some_iff.mp hi).1
  exact (List.getElem?_inj this h).mp (hi.trans hj.symm)
structure RI (P : List Nam) (many : Nat) (rs : List Hs.Row) : Prop where
  ks : rs.map Hs.Row.k = (P.drop 4).take rs.length
  ro : ∀ r ∈ rs, RowOk r
  gl : ∀ r ∈ rs, ∀ g, r.g = some g → g ∈ P.take many
def bP1 : Co Fl := cIf (cTst (cCm .lt (cFz (cVar 6)) (cFz (cVar 2)))) (cSet 5 (cIdx (cFz (cVar 1)) (cFz (cVar 6)))) cNx
def bP2 : Co Fl := cIf (cAndT (cTst (cCm .ne (cFz (cVar 9)) (cFz (cVar 7)))) (cTst (cCm .lt (cFz (cVar 9)) (cFz (cD (.int 20)))))) (cSet 8 (c2 (cFz (cVar 8)) (cFz (cTup (cCons (cFz (cIdx (cFz (cVar 1)) (cFz (cVar 9)))) cNil))) (op2 .add))) cNx
def bodyRow : Co Fl := cSeq (cSet 5 (cD .none))
  (cSeq (cSet 6 (cCall 2 m__law_next (cAo 0 (cAv (cFz (c2 (cFz (cVar 2)) (cFz (cD (.int 1))) (op2 .add))) cA0))))
  (cSeq bP1
  (cSeq (cSet 7 (cCall 2 m__law_next (cAo 0 (cAv (cFz (cD (.int 28))) cA0))))
  (cSeq (cSet 8 (cTup (cCons (cFz (cIdx (cFz (cVar 1)) (cFz (c2 (cFz (cD (.int 4))) (cFz (cVar 4)) (op2 .add))))) (cCons (cFz (cVar 5)) (cCons (cFz (cIdx (cFz (cVar 1)) (cFz (cVar 7)))) cNil)))))
  (cSeq (cSet 9 (cCall 2 m__law_next (cAo 0 (cAv (cFz (cD (.int 28))) cA0))))
  (cSeq bP2
  (cEx (cApp 3 (cFz (cVar 8))))))))))
def lr (xs : List Int) (P : List Nam) (many : Nat) (rs : List Hs.Row) (s4 s5 s6 s7 s8 s9 : Sl) : Sto := [.ow true (.lst (xs.map iD)), .sh (.list (P.map nmD)), .sh (.int (many : Int)), .ow false (.lst (rs.map Hs.Row.d)), s4, s5, s6, s7, s8, s9]
section
variable {xs : List Int} {P : List Nam} {many : Nat} {rs : List Hs.Row} {s4 s5 s6 s7 s8 s9 : Sl}
theorem p1_ok {at_ : Nat} (hP : P.length = 28) (h : at_ < 28) : ∃ g : Option Nam, (∀ a, g = some a → a ∈ P.take many) ∧ bP1 (lr xs P many rs s4 (.sh .none) (.sh (.int (at_ : Int))) s7 s8 s9) = .ok .nx (lr xs P many rs s4 (.sh (opD g)) (.sh (.int (at_ : Int))) s7 s8 s9) := by
  by_cases h1 : at_ < many
  · obtain ⟨a, ha⟩ : ∃ a, P[at_]? = some a := ⟨_, List.getElem?_eq_getElem (by omega)⟩
    refine ⟨some a, fun b e => ?_, ?_⟩
    · injection e with e
      subst e
      exact List.mem_of_getElem? (by rw [List.getElem?_take_of_lt h1]; exact ha)
    · have k1 : decide ((at_ : Int) < (many : Int)) = true := decide_eq_true (by omega)
      have ix := ixP ha
      unfold bP1 lr
      simp_all! [k1, ix, opD]
  · refine ⟨none, (fun a e => by cases e), ?_⟩
    have k1 : decide ((at_ : Int) < (many : Int)) = false := decide_eq_false (by omega)
    unfold bP1 lr
    simp_all! [k1, opD]
theorem tu1 (a : D) : (if ([a] : List D).length ≤ sizeLine then some (Rv.sh (.tuple [a])) else none) = some (Rv.sh (.tuple [a])) := if_pos (line_le (by show 1 ≤ 1000; omega))
theorem p2_ok {fl ot : Nat} {a : Nam} {x y : D} (hP : P.length = 28) (nd : P.Nodup) (hf : P[fl]? = some a) (h : ot < 28) : ∃ l : List Nam, (a :: l).length ≤ 2 ∧ (a :: l).Nodup ∧ bP2 (lr xs P many rs s4 s5 s6 (.sh (.int (fl : Int))) (.sh (.tuple [x, y, nmD a])) (.sh (.int (ot : Int)))) = .ok .nx (lr xs P many rs s4 s5 s6 (.sh (.int (fl : Int))) (.sh (.tuple (x :: y :: (a :: l).map nmD))) (.sh (.int (ot : Int)))) := by
  by_cases h1 : ot = fl
  · refine ⟨[], by simp, by simp, ?_⟩
    have k1 : decide ((ot : Int) = (fl : Int)) = true := decide_eq_true (by omega)
    unfold bP2 lr
    simp_all! [k1]
  · have k1 : decide ((ot : Int) = (fl : Int)) = false := decide_eq_false (by omega)
    by_cases h2 : ot < 20
    · have k2 : decide ((ot : Int) < 20) = true := decide_eq_true (by omega)
      obtain ⟨b, hb⟩ : ∃ b, P[ot]? = some b := ⟨_, List.getElem?_eq_getElem (by omega)⟩
      have ix := ixP hb
      have ne : a ≠ b := fun e => h1 (inj_P nd hb (e ▸ hf))
      refine ⟨[b], by simp, by simp [ne], ?_⟩
      have ad := adt [x, y, nmD a] [nmD b] (line_le (by show 4 ≤ 1000; omega))
      unfold bP2 lr
      rw [nmD_e] at ad
      simp_all! [k1, k2, ix, tu1, ad]
      rfl
    · have k2 : decide ((ot : Int) < 20) = false := decide_eq_false (by omega)
      refine ⟨[], by simp, by simp, ?_⟩
      unfold bP2 lr
      simp_all! [k1, k2]
end
end K05
/-! Dt30: _law_parts, whole. -/
namespace K05
open PySem PySem.Spec PyProof.Rows L2 Md Nm Hs
local macro_rules | `(tactic| simp_all! [$ls,*]) => `(tactic| simp -implicitDefEqProofs only [bind_ok', bind_er', selK_t, selK_f, e_fz, e_sh, e_O, optO_s, e_2, e_3, e_var, vS_sh, vS_ow, e_D, e_seq, seqK_nx, seqK_rt, seqK_ct, seqK_bk, e_if, okK_e, e_andT, e_orT, e_notT, e_tru, e_tst, boolD_s, e_and, andK_t, andK_f, e_or, orK_t, orK_f, tru_b, e_cm, e_chn, chK_t, chK_f, e_isN, e_idx, e_isi, e_nil, e_cons, e_tup, e_lst, e_ret, e_nx, e_ex, e_set, e_setSl, sS_un, sS_sh, sS_ow, setRv_sh, setRv_ow, oNx_s, toD_sh, toD_lst, toD_obj, muD_lst, muD_obj, e_par, parK_e, e_noP, e_smP, e_sl, e_not, e_A0, e_Av, e_call, List.getElem?_cons_zero, List.getElem?_cons_succ, List.set_cons_zero, List.set_cons_succ, Option.map_some, Option.map_none, Option.bind_some, Bool.not_true, Bool.not_false, e_att, e_met, e_eqO, boolR_e, notR_e, e_inOp, e_niOp, e_opT, e_put, e_atO, atoK_e, e_rai0, e_makV, e_borT, borK_e, fz_un, fz_sh, List.map_cons, List.map_nil, e_mov, movK_sh, movK_ow, e_asg, fldD_e, clsD_e, e_for, ix0, ix1, ix2, il0, il1, il2, ln_t, ln_l, tup_l, tup_t, list_l, list_t, it_l, it_t, gt_ii, ge_ii, lt_ii, le_ii, eq_ss, ne_ss, eq_ii, ne_ii, eb_nm, asInt, sl1, sl2, nmD_e, dself, dselfi, decide_true, decide_false, len1, len2, len3, n_dec, t_tu, t_tw, t_tg, t_ts, t_ut, t_uw, t_ug, t_us, t_wt, t_wu, t_wg, t_ws, t_gt, t_gu, t_gw, t_gs, t_st, t_su, t_sw, t_sg, $ls,*])
section
variable {xs : List Int} {P : List Nam} {many : Nat} {rs : List Hs.Row} {s4 s5 s6 s7 s8 s9 : Sl}
theorem stepRow {k : Nat} (hP : P.length = 28) (nd : P.Nodup) (hm : many ≤ 4) (I : RI P many rs) (hk : rs.length = k) (k3 : k < 3) (g5 : SlF s5) (g6 : SlF s6) (g7 : SlF s7) (g8 : SlF s8) (g9 : SlF s9) :
    ∃ (r : Hs.Row) (xs' : List Int) (t5 t6 t7 t8 t9 : D), RI P many (rs ++ [r]) ∧ bodyRow (lr xs P many rs (.sh (.int (k : Int))) s5 s6 s7 s8 s9) = .ok .nx (lr xs' P many (rs ++ [r]) (.sh (.int (k : Int))) (.sh t5) (.sh t6) (.sh t7) (.sh t8) (.sh t9)) := by
  obtain ⟨a1, h1, l1⟩ := nxt_nat xs (n := many + 1) (by omega)
  have n1 : (cAo 0 (cAv (cFz (c2 (cFz (cVar 2)) (cFz (cD (.int 1))) (op2 .add))) cA0) (lr xs P many rs (.sh (.int (k : Int))) (.sh .none) s6 s7 s8 s9)).bind (fun xs ρ1 => runC 2 m__law_next xs ρ1) = .ok (.sh (.int (a1 : Int))) (lr (nxt xs (many + 1)).2 P many rs (.sh (.int (k : Int))) (.sh .none) s6 s7 s8 s9) := by
    rw [← h1]
    exact (e_call 2 m__law_next _ _).symm.trans (c_next (n := many + 1) (b := true) (xs := xs) rfl rfl (by omega))
  generalize (nxt xs (many + 1)).2 = x1 at n1
  obtain ⟨g, hg, p1⟩ := p1_ok (xs := x1) (P := P) (many := many) (rs := rs) (s4 := .sh (.int (k : Int))) (s7 := s7) (s8 := s8) (s9 := s9) hP (at_ := a1) (by omega)
  obtain ⟨fl, h2, l2⟩ := nxt_nat x1 (n := 28) (by omega)
  have n2 : (cAo 0 (cAv (cFz (cD (.int 28))) cA0) (lr x1 P many rs (.sh (.int (k : Int))) (.sh (opD g)) (.sh (.int (a1 : Int))) s7 s8 s9)).bind (fun xs ρ1 => runC 2 m__law_next xs ρ1) = .ok (.sh (.int (fl : Int))) (lr (nxt x1 28).2 P many rs (.sh (.int (k : Int))) (.sh (opD g)) (.sh (.int (a1 : Int))) s7 s8 s9) := by
    rw [← h2]
    exact (e_call 2 m__law_next _ _).symm.trans (c_next (n := 28) (b := true) (xs := x1) rfl rfl (by omega))
  generalize (nxt x1 28).2 = x2 at n2
  obtain ⟨kn, hkn⟩ : ∃ a, P[4 + k]? = some a := ⟨_, List.getElem?_eq_getElem (by omega)⟩
  obtain ⟨fa, hfa⟩ : ∃ a, P[fl]? = some a := ⟨_, List.getElem?_eq_getElem (by omega)⟩
  have o4 : op2 .add (.int 4) (.int (k : Int)) = some (.sh (.int ((4 + k : Nat) : Int))) := by rw [o_addi]; rfl
  have ik := ixP hkn
  have ifl := ixP hfa
  obtain ⟨ot, h3, l3⟩ := nxt_nat x2 (n := 28) (by omega)
  have n3 : (cAo 0 (cAv (cFz (cD (.int 28))) cA0) (lr x2 P many rs (.sh (.int (k : Int))) (.sh (opD g)) (.sh (.int (a1 : Int))) (.sh (.int (fl : Int))) (.sh (.tuple [.str kn.1, opD g, .str fa.1])) s9)).bind (fun xs ρ1 => runC 2 m__law_next xs ρ1) = .ok (.sh (.int (ot : Int))) (lr (nxt x2 28).2 P many rs (.sh (.int (k : Int))) (.sh (opD g)) (.sh (.int (a1 : Int))) (.sh (.int (fl : Int))) (.sh (.tuple [.str kn.1, opD g, .str fa.1])) s9) := by
    rw [← h3]
    exact (e_call 2 m__law_next _ _).symm.trans (c_next (n := 28) (b := true) (xs := x2) rfl rfl (by omega))
  generalize (nxt x2 28).2 = x3 at n3
  obtain ⟨l, hl, hnd, p2⟩ := p2_ok (xs := x3) (P := P) (many := many) (rs := rs) (s4 := .sh (.int (k : Int))) (s5 := .sh (opD g)) (s6 := .sh (.int (a1 : Int))) (x := .str kn.1) (y := opD g) hP nd hfa l3
  refine ⟨⟨kn, g, fa :: l⟩, x3, opD g, .int (a1 : Int), .int (fl : Int), .tuple (.str kn.1 :: opD g :: (fa :: l).map nmD), .int (ot : Int), ⟨?_, fun r m => ?_, fun r m => ?_⟩, ?_⟩
  · rw [List.map_append, I.ks, List.length_append, hk]
    show _ ++ [kn] = (P.drop 4).take (k + 1)
    rw [List.take_add_one, List.getElem?_drop, hkn]
    rfl
  · rcases List.mem_append.mp m with m | m
    · exact I.ro r m
    · rw [List.mem_singleton.mp m]
      exact ⟨by simp, hl, hnd⟩
  · rcases List.mem_append.mp m with m | m
    · exact I.gl r m
    · rw [List.mem_singleton.mp m]
      exact hg
  · have q1 : isOwL (lr x3 P many rs (.sh (.int (k : Int))) (.sh (opD g)) (.sh (.int (a1 : Int))) (.sh (.int (fl : Int))) (.sh (.tuple (.str kn.1 :: opD g :: (fa :: l).map nmD))) (.sh (.int (ot : Int)))) 3 = true := rfl
    have q2 : appL (lr x3 P many rs (.sh (.int (k : Int))) (.sh (opD g)) (.sh (.int (a1 : Int))) (.sh (.int (fl : Int))) (.sh (.tuple (.str kn.1 :: opD g :: (fa :: l).map nmD))) (.sh (.int (ot : Int)))) 3 [.tuple (.str kn.1 :: opD g :: (fa :: l).map nmD)] = .ok (.sh .none) (lr x3 P many (rs ++ [⟨kn, g, fa :: l⟩]) (.sh (.int (k : Int))) (.sh (opD g)) (.sh (.int (a1 : Int))) (.sh (.int (fl : Int))) (.sh (.tuple (.str kn.1 :: opD g :: (fa :: l).map nmD))) (.sh (.int (ot : Int)))) := by
      unfold lr
      rw [List.map_append]
      exact if_pos (line_le (by rw [List.length_map]; show rs.length + 1 ≤ 1000; omega))
    have f5 := sS_F g5
    have f6 := sS_F g6
    have f7 := sS_F g7
    have f8 := sS_F g8
    have f9 := sS_F g9
    have p2 : bP2 (lr x3 P many rs (.sh (.int (k : Int))) (.sh (opD g)) (.sh (.int (a1 : Int))) (.sh (.int (fl : Int))) (.sh (.tuple [.str kn.1, opD g, .str fa.1])) (.sh (.int (ot : Int)))) = _ := p2
    generalize (.tuple (.str kn.1 :: opD g :: (fa :: l).map nmD) : D) = RD at q1 q2 p2 ⊢
    unfold bodyRow
    unfold lr at n1 p1 n2 n3 p2 q1 q2 ⊢
    simp_all! [f5, n1, f6, p1, n2, f7, o4, ik, ifl, tu3, f8, n3, f9, p2, e_app, q1, q2]
theorem loopRow (hP : P.length = 28) (nd : P.Nodup) (hm : many ≤ 4) : ∀ (m k : Nat) (xs : List Int) (rs : List Hs.Row) (s4 s5 s6 s7 s8 s9 : Sl), RI P many rs → rs.length = k → k + m ≤ 3 → SlF s4 → SlF s5 → SlF s6 → SlF s7 → SlF s8 → SlF s9 →
    ∃ (xs' : List Int) (rs' : List Hs.Row) (t4 t5 t6 t7 t8 t9 : Sl), RI P many rs' ∧ rs'.length = k + m ∧ forL (bNm 4) bodyRow ((List.range' k m).map fun i => .int ((i : Nat) : Int)) (lr xs P many rs s4 s5 s6 s7 s8 s9) = .ok .nx (lr xs' P many rs' t4 t5 t6 t7 t8 t9)
  | 0, k, xs, rs, s4, s5, s6, s7, s8, s9, I, hk, hl, g4, g5, g6, g7, g8, g9 => ⟨xs, rs, s4, s5, s6, s7, s8, s9, I, hk, rfl⟩
  | m + 1, k, xs, rs, s4, s5, s6, s7, s8, s9, I, hk, hl, g4, g5, g6, g7, g8, g9 => by
    have e1 : bNm 4 (.int (k : Int)) (lr xs P many rs s4 s5 s6 s7 s8 s9) = some (lr xs P many rs (.sh (.int (k : Int))) s5 s6 s7 s8 s9) := by rcases g4 with rfl | ⟨d, rfl⟩ <;> rfl
    obtain ⟨r, xs1, t5, t6, t7, t8, t9, I1, e2⟩ := stepRow (xs := xs) hP nd hm I hk (by omega) g5 g6 g7 g8 g9
    obtain ⟨xs', rs', u4, u5, u6, u7, u8, u9, a1, a2, a3⟩ := loopRow hP nd hm m (k + 1) xs1 (rs ++ [r]) (.sh (.int (k : Int))) (.sh t5) (.sh t6) (.sh t7) (.sh t8) (.sh t9) I1 (by rw [List.length_append]; show rs.length + 1 = _; omega) (by omega) (.inr ⟨_, rfl⟩) (.inr ⟨_, rfl⟩) (.inr ⟨_, rfl⟩) (.inr ⟨_, rfl⟩) (.inr ⟨_, rfl⟩) (.inr ⟨_, rfl⟩)
    refine ⟨xs', rs', u4, u5, u6, u7, u8, u9, a1, by rw [a2]; omega, ?_⟩
    rw [List.range'_succ, List.map_cons, forL_cons e1 e2]
    exact a3
theorem sl_ls (P : List Nam) (k : Nat) (h : k ≤ P.length) : slcD (.list (P.map nmD)) none (some (k : Int)) = some (.ow (.lst ((P.take k).map nmD))) := by
  show some (Rv.ow (.lst (cutL (P.map nmD) none (some (k : Int))))) = _
  unfold cutL
  have e1 : HT.sIx (P.map nmD).length 0 none = 0 := rfl
  have e2 : HT.sIx (P.map nmD).length (P.map nmD).length (some (k : Int)) = k := by
    unfold HT.sIx
    simp only
    rw [if_neg (by omega), Nat.min_eq_left (by rw [List.length_map]; omega)]
    omega
  rw [e1, e2, List.drop_zero, Nat.sub_zero, List.map_take]
theorem pick5 {j : Nat} (h : j < 5) : ∃ m : Nat, m ≤ 4 ∧ idxD (.list [.int 2, .int 1, .int 3, .int 4, .int 0]) (.int (j : Int)) = some (.int (m : Int)) := by
  match j, h with
  | 0, _ => exact ⟨2, by omega, atI_nat rfl⟩
  | 1, _ => exact ⟨1, by omega, atI_nat rfl⟩
  | 2, _ => exact ⟨3, by omega, atI_nat rfl⟩
  | 3, _ => exact ⟨4, by omega, atI_nat rfl⟩
  | 4, _ => exact ⟨0, by omega, atI_nat rfl⟩
theorem pick3 {j : Nat} (h : j < 3) : ∃ m : Nat, 1 ≤ m ∧ m ≤ 3 ∧ idxD (.list [.int 2, .int 1, .int 3]) (.int (j : Int)) = some (.int (m : Int)) := by
  match j, h with
  | 0, _ => exact ⟨2, by omega, by omega, atI_nat rfl⟩
  | 1, _ => exact ⟨1, by omega, by omega, atI_nat rfl⟩
  | 2, _ => exact ⟨3, by omega, by omega, atI_nat rfl⟩
theorem ls3 (a b c : D) : (if ([a, b, c] : List D).length ≤ sizeLine then some (Rv.ow (.lst [a, b, c])) else none) = some (Rv.ow (.lst [a, b, c])) := if_pos (line_le (by show 3 ≤ 1000; omega))
theorem ls5 (a b c d e : D) : (if ([a, b, c, d, e] : List D).length ≤ sizeLine then some (Rv.ow (.lst [a, b, c, d, e])) else none) = some (Rv.ow (.lst [a, b, c, d, e])) := if_pos (line_le (by show 5 ≤ 1000; omega))
theorem RI.hok (hP : P.length = 28) (nd : P.Nodup) (hm : many ≤ 4) (I : RI P many rs) (h1 : 1 ≤ rs.length) (h3 : rs.length ≤ 3) : Pt.Hok ⟨P.take many, rs⟩ := by
  have hsub : (P.take many).Sublist P := List.take_sublist _ _
  refine ⟨by show (P.take many).length ≤ 4; rw [List.length_take]; omega, nd.sublist hsub, h1, h3, ?_, fun r m => ?_, I.ro, I.gl⟩
  · show (rs.map Hs.Row.k).Nodup
    rw [I.ks]
    exact nd.sublist ((List.take_sublist _ _).trans (List.drop_sublist _ _))
  · intro hl
    have hk : r.k ∈ rs.map Hs.Row.k := List.mem_map.mpr ⟨r, m, rfl⟩
    rw [I.ks] at hk
    have hk2 : r.k ∈ P.drop 4 := List.mem_of_mem_take hk
    obtain ⟨i, hi⟩ := List.mem_iff_getElem?.mp hk2
    obtain ⟨j, hj⟩ := List.mem_iff_getElem?.mp hl
    have jl : j < many := by
      rcases Nat.lt_or_ge j many with z | z
      · exact z
      · rw [List.getElem?_eq_none (by rw [List.length_take]; omega)] at hj
        cases hj
    rw [List.getElem?_drop] at hi
    rw [List.getElem?_take_of_lt jl] at hj
    have := inj_P nd hi hj
    omega
end
theorem law_parts {ρ : Sto} {i : Nat} {b : Bool} {xs : List Int} {P : List Nam} (hP : P.length = 28) (nd : P.Nodup) (h : ρ[i]? = some (.ow b (.lst (xs.map iD)))) :
    ∃ (p : Pt) (xs' : List Int), p.Hok ∧ (∃ m, m ≤ 4 ∧ p.ls = P.take m) ∧ runC 2 m__law_parts [.inr i, .inl (.list (P.map nmD))] ρ = .ok (.ow (.lst [.list (p.ls.map nmD), .list (p.rs.map Hs.Row.d)])) (ρ.set i (.ow b (.lst (xs'.map iD)))) := by
  obtain ⟨j, hj, j5⟩ := nxt_nat xs (n := 5) (by omega)
  obtain ⟨many, hm, pk⟩ := pick5 j5
  obtain ⟨j2, hj2, j3⟩ := nxt_nat (nxt xs 5).2 (n := 3) (by omega)
  obtain ⟨cnt, c1, c3, pk2⟩ := pick3 j3
  have n1 : (cAo 0 (cAv (cFz (cD (.int 5))) cA0) [.ow true (.lst (xs.map iD)), .sh (.list (P.map nmD)), .un, .un, .un, .un, .un, .un, .un, .un]).bind (fun xs ρ1 => runC 2 m__law_next xs ρ1) = .ok (.sh (.int (j : Int))) [.ow true (.lst ((nxt xs 5).2.map iD)), .sh (.list (P.map nmD)), .un, .un, .un, .un, .un, .un, .un, .un] := by
    rw [← hj]
    exact (e_call 2 m__law_next _ _).symm.trans (c_next (n := 5) (b := true) (xs := xs) rfl rfl (by omega))
  generalize (nxt xs 5).2 = x1 at n1 hj2
  have n2 : (cAo 0 (cAv (cFz (cD (.int 3))) cA0) (lr x1 P many [] .un .un .un .un .un .un)).bind (fun xs ρ1 => runC 2 m__law_next xs ρ1) = .ok (.sh (.int (j2 : Int))) (lr (nxt x1 3).2 P many [] .un .un .un .un .un .un) := by
    rw [← hj2]
    exact (e_call 2 m__law_next _ _).symm.trans (c_next (n := 3) (b := true) (xs := x1) rfl rfl (by omega))
  generalize (nxt x1 3).2 = x2 at n2
  have I0 : RI P many [] := ⟨rfl, (fun r m => by cases m), (fun r m => by cases m)⟩
  obtain ⟨x3, rs, t4, t5, t6, t7, t8, t9, I, hl, e1⟩ := loopRow hP nd hm cnt 0 x2 [] .un .un .un .un .un .un I0 rfl (by omega) (.inl rfl) (.inl rfl) (.inl rfl) (.inl rfl) (.inl rfl) (.inl rfl)
  rw [← List.range_eq_range'] at e1
  refine ⟨⟨P.take many, rs⟩, x3, RI.hok hP nd hm I (by omega) (by omega), ⟨many, hm, rfl⟩, ?_⟩
  refine run_own (ds := [.list (P.map nmD)]) (ps := [.un]) h rfl ?_ rfl
  have rk := rngK cnt (by omega)
  have sl := sl_ls P many (by omega)
  have hb : b__law_parts [.ow true (.lst (xs.map iD)), .sh (.list (P.map nmD)), .un, .un, .un, .un, .un, .un, .un, .un] = .ok (.rt (.ow (.lst [.list ((P.take many).map nmD), .list (rs.map Hs.Row.d)]))) [.ow true (.lst (x3.map iD)), .sh (.list (P.map nmD)), .sh (.int (many : Int)), .sh (.list (rs.map Hs.Row.d)), t4, t5, t6, t7, t8, t9] := by
    unfold b__law_parts
    rw [← bP1, ← bP2, ← bodyRow]
    unfold lr at n2 e1
    have n2 : (cAo 0 (cAv (cFz (cD (.int 3))) cA0) [.ow true (.lst (x1.map iD)), .sh (.list (P.map nmD)), .sh (.int (many : Int)), .ow false (.lst []), .un, .un, .un, .un, .un, .un]).bind (fun xs ρ1 => runC 2 m__law_next xs ρ1) = .ok (.sh (.int (j2 : Int))) [.ow true (.lst (x2.map iD)), .sh (.list (P.map nmD)), .sh (.int (many : Int)), .ow false (.lst []), .un, .un, .un, .un, .un, .un] := n2
    have e1 : forL (bNm 4) bodyRow ((List.range cnt).map fun i => .int ((i : Nat) : Int)) [.ow true (.lst (x2.map iD)), .sh (.list (P.map nmD)), .sh (.int (many : Int)), .ow false (.lst []), .un, .un, .un, .un, .un, .un] = .ok .nx [.ow true (.lst (x3.map iD)), .sh (.list (P.map nmD)), .sh (.int (many : Int)), .ow false (.lst (rs.map Hs.Row.d)), t4, t5, t6, t7, t8, t9] := e1
    simp_all! [ls5, n1, pk, ls0, ls3, n2, pk2, rk, e1, sl, ls2]
  unfold m__law_parts
  exact fn_rt (n := 2) (N := 10) (as := [.ow true (.lst (xs.map iD)), .sh (.list (P.map nmD))]) hb (by simp)
end K05
/-! Dt31: the law's loops over places and fewer marks. -/
namespace Md
open PySem PySem.Spec PyProof.Rows L2
def aoK (i : Nat) (r : Co Ar) : Option Sl → Sto → Out Ar
  | some (.ow _ _), ρ => (r ρ).bind fun xs ρ2 => .ok (.inr i :: xs) ρ2
  | _, _ => .st
theorem e_Ao (i : Nat) (r : Co Ar) (ρ : Sto) : cAo i r ρ = aoK i r ρ[i]? ρ := by
  unfold cAo
  rcases ρ[i]? with _ | _ | _ | _ <;> rfl
theorem aoK_e (i : Nat) (r : Co Ar) (b : Bool) (m : Mu) (ρ : Sto) : aoK i r (some (.ow b m)) ρ = (r ρ).bind fun xs ρ2 => .ok (.inr i :: xs) ρ2 := rfl
/-- a slot that holds d, one's own or frozen -/
def Hol (s : Sl) (d : D) : Prop := s = .sh d ∨ ∃ m : Mu, s = .ow false m ∧ m.toD = d
theorem vH {s : Sl} {d : D} (h : Hol s d) {i : Nat} {ρ : Sto} (e : ρ[i]? = some s) : vS (some s) i ρ = .ok (.sh d) (ρ.set i (.sh d)) := by
  rcases h with rfl | ⟨m, rfl, rfl⟩
  · have hl : i < ρ.length := (List.getElem?_eq_some_iff.mp e).1
    have : ρ.set i (.sh d) = ρ := by
      refine List.ext_getElem? fun j => ?_
      rw [List.getElem?_set]
      by_cases hj : i = j
      · subst hj
        rw [if_pos rfl, if_pos hl, e]
      · rw [if_neg hj]
    rw [this]
    rfl
  · rfl
theorem sS_H {s : Sl} {d : D} (h : Hol s d) (ρ : Sto) (i : Nat) (t : Sl) : sS (some s) ρ i t = some (ρ.set i t) := by
  rcases h with rfl | ⟨m, rfl, _⟩ <;> rfl
end Md
namespace K05
open PySem PySem.Spec PyProof.Rows L2 Md Nm Hs
local macro_rules | `(tactic| simp_all! [$ls,*]) => `(tactic| simp -implicitDefEqProofs only [bind_ok', bind_er', selK_t, selK_f, e_fz, e_sh, e_O, optO_s, e_2, e_3, e_var, vS_sh, vS_ow, e_D, e_seq, seqK_nx, seqK_rt, seqK_ct, seqK_bk, e_if, okK_e, e_andT, e_orT, e_notT, e_tru, e_tst, boolD_s, e_and, andK_t, andK_f, e_or, orK_t, orK_f, tru_b, e_cm, e_chn, chK_t, chK_f, e_isN, e_idx, e_isi, e_nil, e_cons, e_tup, e_lst, e_ret, e_nx, e_ex, e_set, e_setSl, sS_un, sS_sh, sS_ow, setRv_sh, setRv_ow, oNx_s, toD_sh, toD_lst, toD_obj, muD_lst, muD_obj, e_par, parK_e, e_noP, e_smP, e_sl, e_not, e_A0, e_Av, e_call, List.getElem?_cons_zero, List.getElem?_cons_succ, List.set_cons_zero, List.set_cons_succ, Option.map_some, Option.map_none, Option.bind_some, Bool.not_true, Bool.not_false, e_att, e_met, e_eqO, boolR_e, notR_e, e_inOp, e_niOp, e_opT, e_put, e_atO, atoK_e, e_rai0, e_makV, e_borT, borK_e, fz_un, fz_sh, List.map_cons, List.map_nil, e_mov, movK_sh, movK_ow, e_asg, fldD_e, clsD_e, e_for, ix0, ix1, ix2, il0, il1, il2, ln_t, ln_l, tup_l, tup_t, list_l, list_t, it_l, it_t, gt_ii, ge_ii, lt_ii, le_ii, eq_ss, ne_ss, eq_ii, ne_ii, eb_nm, asInt, sl1, sl2, nmD_e, dself, dselfi, decide_true, decide_false, len1, len2, len3, n_dec, t_tu, t_tw, t_tg, t_ts, t_ut, t_uw, t_ug, t_us, t_wt, t_wu, t_wg, t_ws, t_gt, t_gu, t_gw, t_gs, t_st, t_su, t_sw, t_sg, $ls,*])
theorem nx_ex (xs : List Int) {n : Nat} (h : 0 < n) : ∃ (k : Nat) (xs' : List Int), k < n ∧ ∀ (s0 : Sl) (ρ : Sto), runC 2 m__law_next [.inr 1, .inl (.int (n : Int))] (s0 :: .ow false (.lst (xs.map iD)) :: ρ) = .ok (.sh (.int (k : Int))) (s0 :: .ow false (.lst (xs'.map iD)) :: ρ) := by
  obtain ⟨k, hk, kn⟩ := nxt_nat xs h
  refine ⟨k, (nxt xs n).2, kn, fun s0 ρ => ?_⟩
  rw [← hk]
  exact run_own (ds := [.int (n : Int)]) (ps := [.un]) rfl rfl (next_ok xs h) rfl
def lw (S : D) (xs : List Int) (PD pd : D) (s4 s5 s6 s7 s8 s9 s10 s11 s12 s13 s14 s15 : Sl) : Sto := [.sh S, .ow false (.lst (xs.map iD)), .sh PD, .sh pd, s4, s5, s6, s7, s8, s9, s10, s11, s12, s13, s14, s15]
def bodyPl : Co Fl := cEx (cApp 5 (cFz (cIdx (cFz (cIdx (cFz (cIdx (cFz (cVar 3)) (cFz (cD (.int 1))))) (cFz (cCall 2 m__law_next (cAo 1 (cAv (cFz (cO (cFz (cIdx (cFz (cVar 3)) (cFz (cD (.int 1))))) (biD .len))) cA0)))))) (cFz (cD (.int 0))))))
section
variable {p : Pt} {pl : List Nam} {mk : List Mk}
theorem ixR {k : Nat} {r : Hs.Row} (h : p.rs[k]? = some r) : idxD (.list (p.rs.map Hs.Row.d)) (.int (k : Int)) = some r.d := atI_nat (by rw [List.getElem?_map, h]; rfl)
theorem loopPl (h : p.Hok) (S PD : D) (s4 : Sl) : ∀ (r : List Nat) (xs : List Int) (pl : List Nam) (s6 : Sl), SlF s6 → (∀ k ∈ pl, k ∈ p.ks) → pl.length + r.length ≤ 3 →
    ∃ (xs' : List Int) (pl' : List Nam) (s6' : Sl), SlF s6' ∧ (∀ k ∈ pl', k ∈ p.ks) ∧ pl'.length ≤ 3 ∧ forL (bNm 6) bodyPl (r.map fun i => .int ((i : Nat) : Int)) (lw S xs PD (partsD p) s4 (.ow false (.lst (pl.map nmD))) s6 .un .un .un .un .un .un .un .un .un) = .ok .nx (lw S xs' PD (partsD p) s4 (.ow false (.lst (pl'.map nmD))) s6' .un .un .un .un .un .un .un .un .un)
  | [], xs, pl, s6, h6, hp, hl => ⟨xs, pl, s6, h6, hp, hl, rfl⟩
  | i :: r, xs, pl, s6, h6, hp, hl => by
    rw [List.length_cons] at hl
    have e1 : bNm 6 (.int (i : Int)) (lw S xs PD (partsD p) s4 (.ow false (.lst (pl.map nmD))) s6 .un .un .un .un .un .un .un .un .un) = some (lw S xs PD (partsD p) s4 (.ow false (.lst (pl.map nmD))) (.sh (.int (i : Int))) .un .un .un .un .un .un .un .un .un) := by rcases h6 with rfl | ⟨d, rfl⟩ <;> rfl
    have r1 := h.r1
    obtain ⟨k, x1, hk, nx⟩ := nx_ex xs (n := (p.rs.map Hs.Row.d).length) (by rw [List.length_map]; omega)
    rw [List.length_map] at hk
    obtain ⟨w, hw⟩ : ∃ w, p.rs[k]? = some w := ⟨_, List.getElem?_eq_getElem hk⟩
    have i1 := pa1 p
    have ix := ixR hw
    have iw := ix_r w
    have p1 : isOwL (lw S xs PD (partsD p) s4 (.ow false (.lst (pl.map nmD))) (.sh (.int (i : Int))) .un .un .un .un .un .un .un .un .un) 5 = true := rfl
    have p2 : appL (lw S x1 PD (partsD p) s4 (.ow false (.lst (pl.map nmD))) (.sh (.int (i : Int))) .un .un .un .un .un .un .un .un .un) 5 [.str w.k.1] = .ok (.sh .none) (lw S x1 PD (partsD p) s4 (.ow false (.lst ((pl ++ [w.k]).map nmD))) (.sh (.int (i : Int))) .un .un .un .un .un .un .un .un .un) := by
      unfold lw
      rw [List.map_append]
      exact if_pos (line_le (by rw [List.length_map]; show pl.length + 1 ≤ 1000; omega))
    have e2 : bodyPl (lw S xs PD (partsD p) s4 (.ow false (.lst (pl.map nmD))) (.sh (.int (i : Int))) .un .un .un .un .un .un .un .un .un) = .ok .nx (lw S x1 PD (partsD p) s4 (.ow false (.lst ((pl ++ [w.k]).map nmD))) (.sh (.int (i : Int))) .un .un .un .un .un .un .un .un .un) := by
      unfold bodyPl
      unfold lw at p1 p2 ⊢
      simp_all! [e_app, p1, i1, e_Ao, aoK_e, nx, ix, iw, p2]
    obtain ⟨xs', pl', s6', a1, a2, a3, a4⟩ := loopPl h S PD s4 r x1 (pl ++ [w.k]) (.sh (.int (i : Int))) (.inr ⟨_, rfl⟩) (fun k m => by
      rcases List.mem_append.mp m with m | m
      · exact hp k m
      · rw [List.mem_singleton.mp m]
        exact List.mem_map.mpr ⟨w, List.mem_of_getElem? hw, rfl⟩) (by rw [List.length_append]; show pl.length + 1 + r.length ≤ 3; omega)
    refine ⟨xs', pl', s6', a1, a2, a3, ?_⟩
    rw [List.map_cons, forL_cons e1 e2]
    exact a4
def bodyFw : Co Fl := cIf (cTst (cCm .gt (cFz (cO (cFz (cVar 9)) (biD .len))) (cFz (cD (.int 0))))) (cSet 9 (cCall 4 m__law_left (cAv (cFz (cVar 3)) (cAv (cFz (cVar 5)) (cAv (cFz (cVar 9)) (cAv (cFz (cIdx (cFz (cVar 9)) (cFz (cCall 2 m__law_next (cAo 1 (cAv (cFz (cO (cFz (cVar 9)) (biD .len))) cA0)))))) cA0)))))) cNx
theorem ixM {l : List Mk} {k : Nat} {m : Mk} (h : l[k]? = some m) : idxD (.list (l.map Mk.d)) (.int (k : Int)) = some m.d := atI_nat (by rw [List.getElem?_map, h]; rfl)
theorem loopFw (hk : p.ks.Nodup) (S PD : D) (s4 s8 : Sl) : ∀ (r : List Nat) (xs : List Int) (fw : List Mk) (s6 s9 : Sl), SlF s6 → Hol s9 (.list (fw.map Mk.d)) → Fit p pl fw → Ord p pl.length fw → (∀ x ∈ fw, x ∈ mk) →
    ∃ (xs' : List Int) (fw' : List Mk) (s6' s9' : Sl), Hol s9' (.list (fw'.map Mk.d)) ∧ Fit p pl fw' ∧ Ord p pl.length fw' ∧ (∀ x ∈ fw', x ∈ mk) ∧ forL (bNm 6) bodyFw (r.map fun i => .int ((i : Nat) : Int)) (lw S xs PD (partsD p) s4 (.sh (.list (pl.map nmD))) s6 (.sh (.list (mk.map Mk.d))) s8 s9 .un .un .un .un .un .un) = .ok .nx (lw S xs' PD (partsD p) s4 (.sh (.list (pl.map nmD))) s6' (.sh (.list (mk.map Mk.d))) s8 s9' .un .un .un .un .un .un)
  | [], xs, fw, s6, s9, h6, h9, F, o, hs => ⟨xs, fw, s6, s9, h9, F, o, hs, rfl⟩
  | i :: r, xs, fw, s6, s9, h6, h9, F, o, hs => by
    have e1 : bNm 6 (.int (i : Int)) (lw S xs PD (partsD p) s4 (.sh (.list (pl.map nmD))) s6 (.sh (.list (mk.map Mk.d))) s8 s9 .un .un .un .un .un .un) = some (lw S xs PD (partsD p) s4 (.sh (.list (pl.map nmD))) (.sh (.int (i : Int))) (.sh (.list (mk.map Mk.d))) s8 s9 .un .un .un .un .un .un) := by rcases h6 with rfl | ⟨d, rfl⟩ <;> rfl
    have v9 : vS (some s9) 9 [.sh S, .ow false (.lst (xs.map iD)), .sh PD, .sh (partsD p), s4, .sh (.list (pl.map nmD)), .sh (.int (i : Int)), .sh (.list (mk.map Mk.d)), s8, s9, .un, .un, .un, .un, .un, .un] = .ok (.sh (.list (fw.map Mk.d))) [.sh S, .ow false (.lst (xs.map iD)), .sh PD, .sh (partsD p), s4, .sh (.list (pl.map nmD)), .sh (.int (i : Int)), .sh (.list (mk.map Mk.d)), s8, .sh (.list (fw.map Mk.d)), .un, .un, .un, .un, .un, .un] := vH h9 rfl
    by_cases h0 : 0 < fw.length
    · have k0 : decide ((0 : Int) < (((fw.map Mk.d).length : Nat) : Int)) = true := decide_eq_true (by rw [List.length_map]; omega)
      obtain ⟨k, x1, hkk, nx⟩ := nx_ex xs (n := (fw.map Mk.d).length) (by rw [List.length_map]; omega)
      rw [List.length_map] at hkk
      obtain ⟨m, hm⟩ : ∃ m, fw[k]? = some m := ⟨_, List.getElem?_eq_getElem hkk⟩
      have ix := ixM hm
      have lf := law_left (pl := pl) (m := m) F.sz hk (Nat.le_trans F.len (by omega) : fw.length ≤ 100)
      have e2 : bodyFw (lw S xs PD (partsD p) s4 (.sh (.list (pl.map nmD))) (.sh (.int (i : Int))) (.sh (.list (mk.map Mk.d))) s8 s9 .un .un .un .un .un .un) = .ok .nx (lw S x1 PD (partsD p) s4 (.sh (.list (pl.map nmD))) (.sh (.int (i : Int))) (.sh (.list (mk.map Mk.d))) s8 (.ow false (.lst ((left p pl fw m).map Mk.d))) .un .un .un .un .un .un) := by
        unfold bodyFw lw
        simp_all! [v9, k0, e_Ao, aoK_e, nx, ix, lf]
      obtain ⟨xs', fw', s6', s9', a1, a2, a3, a4, a5⟩ := loopFw hk S PD s4 s8 r x1 (left p pl fw m) (.sh (.int (i : Int))) (.ow false (.lst ((left p pl fw m).map Mk.d))) (.inr ⟨_, rfl⟩) (.inr ⟨_, rfl, rfl⟩) (F.left m) o.left fun x hx => hs x (mem_left.mp hx).1
      refine ⟨xs', fw', s6', s9', a1, a2, a3, a4, ?_⟩
      rw [List.map_cons, forL_cons e1 e2]
      exact a5
    · have k0 : decide ((0 : Int) < (((fw.map Mk.d).length : Nat) : Int)) = false := decide_eq_false (by rw [List.length_map]; omega)
      have e2 : bodyFw (lw S xs PD (partsD p) s4 (.sh (.list (pl.map nmD))) (.sh (.int (i : Int))) (.sh (.list (mk.map Mk.d))) s8 s9 .un .un .un .un .un .un) = .ok .nx (lw S xs PD (partsD p) s4 (.sh (.list (pl.map nmD))) (.sh (.int (i : Int))) (.sh (.list (mk.map Mk.d))) s8 (.sh (.list (fw.map Mk.d))) .un .un .un .un .un .un) := by
        unfold bodyFw lw
        simp_all! [v9, k0]
      obtain ⟨xs', fw', s6', s9', a1, a2, a3, a4, a5⟩ := loopFw hk S PD s4 s8 r xs fw (.sh (.int (i : Int))) (.sh (.list (fw.map Mk.d))) (.inr ⟨_, rfl⟩) (.inl rfl) F o hs
      refine ⟨xs', fw', s6', s9', a1, a2, a3, a4, ?_⟩
      rw [List.map_cons, forL_cons e1 e2]
      exact a5
end
end K05
/-! Dt32: the law's checks of one mark. -/
namespace K05
open PySem PySem.Spec PyProof.Rows L2 Md Nm Hs
local macro_rules | `(tactic| simp_all! [$ls,*]) => `(tactic| simp -implicitDefEqProofs only [bind_ok', bind_er', selK_t, selK_f, e_fz, e_sh, e_O, optO_s, e_2, e_3, e_var, vS_sh, vS_ow, e_D, e_seq, seqK_nx, seqK_rt, seqK_ct, seqK_bk, e_if, okK_e, e_andT, e_orT, e_notT, e_tru, e_tst, boolD_s, e_and, andK_t, andK_f, e_or, orK_t, orK_f, tru_b, e_cm, e_chn, chK_t, chK_f, e_isN, e_idx, e_isi, e_nil, e_cons, e_tup, e_lst, e_ret, e_nx, e_ex, e_set, e_setSl, sS_un, sS_sh, sS_ow, setRv_sh, setRv_ow, oNx_s, toD_sh, toD_lst, toD_obj, muD_lst, muD_obj, e_par, parK_e, e_noP, e_smP, e_sl, e_not, e_A0, e_Av, e_call, List.getElem?_cons_zero, List.getElem?_cons_succ, List.set_cons_zero, List.set_cons_succ, Option.map_some, Option.map_none, Option.bind_some, Bool.not_true, Bool.not_false, e_att, e_met, e_eqO, boolR_e, notR_e, e_inOp, e_niOp, e_opT, e_put, e_atO, atoK_e, e_rai0, e_makV, e_borT, borK_e, fz_un, fz_sh, List.map_cons, List.map_nil, e_mov, movK_sh, movK_ow, e_asg, fldD_e, clsD_e, e_for, ix0, ix1, ix2, il0, il1, il2, ln_t, ln_l, tup_l, tup_t, list_l, list_t, it_l, it_t, gt_ii, ge_ii, lt_ii, le_ii, eq_ss, ne_ss, eq_ii, ne_ii, eb_nm, asInt, sl1, sl2, nmD_e, dself, dselfi, decide_true, decide_false, len1, len2, len3, n_dec, t_tu, t_tw, t_tg, t_ts, t_ut, t_uw, t_ug, t_us, t_wt, t_wu, t_wg, t_ws, t_gt, t_gu, t_gw, t_gs, t_st, t_su, t_sw, t_sg, $ls,*])
def bX1 : Co Fl := cIf (cOrT (cTst (cInO false "Signature" 2 m_Signature_contains (cFz (cVar 8)) (cFz (cVar 13)))) (cOrT (cNotT (cTru (cFz (cMeth "Signature" "within" 2 m_Signature_within (cFz (cVar 13)) (cAv (cFz (cVar 10)) cA0))))) (cTru (cFz (cMeth "Signature" "within" 2 m_Signature_within (cFz (cVar 10)) (cAv (cFz (cVar 13)) cA0)))))) (cRet (cD (.bool false))) cNx
def bX2 : Co Fl := cIf (cAndT (cTru (cFz (cMeth "Signature" "alike" 2 m_Signature_alike (cFz (cVar 11)) (cAv (cFz (cVar 10)) cA0)))) (cAndT (cTst (cCm .nin (cFz (cVar 8)) (cFz (cVar 9)))) (cNotT (cTru (cFz (cMeth "Signature" "within" 2 m_Signature_within (cFz (cVar 11)) (cAv (cFz (cVar 13)) cA0))))))) (cRet (cD (.bool false))) cNx
def bX3 : Co Fl := cIf (cTst (cCm .gt (cFz (cO (cFz (cVar 14)) (biD .len))) (cFz (cD (.int 0))))) (cSeq (cSet 15 (cIdx (cFz (cVar 14)) (cFz (cCall 2 m__law_next (cAo 1 (cAv (cFz (cO (cFz (cVar 14)) (biD .len))) cA0))))))
  (cIf (cNotT (cTru (cFz (cCall 5 m__law_fits (cAv (cFz (cCall 2 m__law_less (cAv (cFz (cVar 13)) (cAv (cFz (cVar 15)) cA0)))) (cAv (cFz (cVar 3)) (cAv (cFz (cVar 5)) (cAv (cFz (cVar 14)) (cAv (cFz (cVar 15)) cA0))))))))) (cRet (cD (.bool false))) cNx)) cNx
def bodyCk : Co Fl := cSeq (cSet 12 (cCall 2 m__law_less (cAv (cFz (cVar 10)) (cAv (cFz (cVar 8)) cA0))))
  (cSeq (cIf (cNotT (cTru (cFz (cCall 5 m__law_fits (cAv (cFz (cVar 12)) (cAv (cFz (cVar 3)) (cAv (cFz (cVar 5)) (cAv (cFz (cVar 7)) (cAv (cFz (cVar 8)) cA0))))))))) (cRet (cD (.bool false))) cNx)
  (cIf (cTst (cIsN true (cFz (cIdx (cFz (cVar 12)) (cFz (cD (.int 0))))))) (cSeq (cSet 13 (cIdx (cFz (cVar 12)) (cFz (cD (.int 0)))))
  (cSeq bX1
  (cSeq bX2
  (cSeq (cSet 14 (cO (cFz (cAtt "Signature" "marks" (cFz (cVar 13)))) (biD .list)))
  bX3)))) cNx))
section
variable {p : Pt} {pl : List Nam} {mk fw lf : List Mk} {m : Mk} {S PD : D} {xs : List Int} {s4 s6 s11 s12 s13 s14 s15 : Sl}
/-- the store while marks are checked -/
def ck (p : Pt) (pl : List Nam) (mk fw : List Mk) (m : Mk) (S PD : D) (xs : List Int) (s4 s6 s11 s12 s13 s14 s15 : Sl) : Sto := lw S xs PD (partsD p) s4 (.sh (.list (pl.map nmD))) s6 (.sh (.list (mk.map Mk.d))) (.sh m.d) (.sh (.list (fw.map Mk.d))) (.sh (sigD p pl mk)) s11 s12 s13 s14 s15
theorem x1_ok (hl : mk.length ≤ 100) (hl2 : lf.length ≤ 100) (hm : Mk.ok m) (c1 : m ∉ lf) (c2 : withB lf mk = true) (c3 : withB mk lf = false) : bX1 (ck p pl mk fw m S PD xs s4 s6 s11 s12 (.sh (sigD p pl lf)) s14 s15) = .ok .nx (ck p pl mk fw m S PD xs s4 s6 s11 s12 (.sh (sigD p pl lf)) s14 s15) := by
  have rc := r_contains (p := p) (pl := pl) (mk := lf) hm
  rw [decide_eq_false c1] at rc
  have w1 := r_within (p := p) (pl := pl) (mk := lf) (nk := mk) hl2
  rw [c2] at w1
  have w2 := r_within (p := p) (pl := pl) (mk := mk) (nk := lf) hl
  rw [c3] at w2
  unfold bX1 ck lw
  simp_all! [cls_sig, rc, sm_within, w1, w2]
theorem x2_ok (h11 : Hol s11 (sigD p pl fw)) (hl : fw.length ≤ 100) (c : givB fw = givB mk → m ∉ fw → withB fw lf = true) : ∃ t11, Hol t11 (sigD p pl fw) ∧ bX2 (ck p pl mk fw m S PD xs s4 s6 s11 s12 (.sh (sigD p pl lf)) s14 s15) = .ok .nx (ck p pl mk fw m S PD xs s4 s6 t11 s12 (.sh (sigD p pl lf)) s14 s15) := by
  have v11 : vS (some s11) 11 [.sh S, .ow false (.lst (xs.map iD)), .sh PD, .sh (partsD p), s4, .sh (.list (pl.map nmD)), s6, .sh (.list (mk.map Mk.d)), .sh m.d, .sh (.list (fw.map Mk.d)), .sh (sigD p pl mk), s11, s12, .sh (sigD p pl lf), s14, s15] = .ok (.sh (sigD p pl fw)) [.sh S, .ow false (.lst (xs.map iD)), .sh PD, .sh (partsD p), s4, .sh (.list (pl.map nmD)), s6, .sh (.list (mk.map Mk.d)), .sh m.d, .sh (.list (fw.map Mk.d)), .sh (sigD p pl mk), .sh (sigD p pl fw), s12, .sh (sigD p pl lf), s14, s15] := vH h11 rfl
  have al := r_alike (p := p) (pl := pl) (mk := fw) (nk := mk)
  have wi := r_within (p := p) (pl := pl) (mk := fw) (nk := lf) hl
  refine ⟨.sh (sigD p pl fw), .inl rfl, ?_⟩
  unfold bX2 ck lw
  by_cases h1 : givB fw = givB mk
  · rw [decide_eq_true h1] at al
    by_cases h2 : m ∈ fw
    · have k2 : decide (m ∈ fw) = true := decide_eq_true h2
      simp_all! [v11, sm_alike, al, ni_mk, k2]
    · have k2 : decide (m ∈ fw) = false := decide_eq_false h2
      rw [c h1 h2] at wi
      simp_all! [v11, sm_alike, al, ni_mk, k2, sm_within, wi]
  · rw [decide_eq_false h1] at al
    simp_all! [v11, sm_alike, al]
theorem mk_all {m : Mk} {n : Nat} (h : m ∈ allM p n) (hn : n ≤ 3) : Mk.ok m ∧ m.sm := by
  refine ⟨(mem_allM h).1, ?_⟩
  unfold allM underM at h
  simp only [List.mem_append, List.mem_map, List.mem_flatMap, List.mem_filter, List.mem_range] at h
  rcases h with (((⟨a, ha, rfl⟩ | ⟨a, ha, b, ⟨hb, hab⟩, rfl⟩) | ⟨q, hq, rfl⟩) | ⟨a, ha, rfl⟩) | ⟨i, hi, rfl⟩
  · exact True.intro
  · exact True.intro
  · exact True.intro
  · exact True.intro
  · show i ≤ 10; omega
theorem x3_ok (hk : p.ks.Nodup) (F : Fit p pl lf) (o : Ord p pl.length lf) (h15 : SlF s15) : ∃ (xs' : List Int) (d14 : D) (t15 : Sl), SlF t15 ∧ bX3 (ck p pl mk fw m S PD xs s4 s6 s11 s12 (.sh (sigD p pl lf)) (.ow false (.lst (lf.map Mk.d))) s15) = .ok .nx (ck p pl mk fw m S PD xs' s4 s6 s11 s12 (.sh (sigD p pl lf)) (.sh d14) t15) := by
  by_cases h0 : 0 < lf.length
  · have k0 : decide ((0 : Int) < (((lf.map Mk.d).length : Nat) : Int)) = true := decide_eq_true (by rw [List.length_map]; omega)
    obtain ⟨k, x1, hkk, nx⟩ := nx_ex xs (n := (lf.map Mk.d).length) (by rw [List.length_map]; omega)
    rw [List.length_map] at hkk
    obtain ⟨w, hw⟩ : ∃ m, lf[k]? = some m := ⟨_, List.getElem?_eq_getElem hkk⟩
    have ix := ixM hw
    obtain ⟨wo, ws⟩ := mk_all (F.mem w (List.mem_of_getElem? hw)) F.pl3
    have le := law_less F o wo ws
    have fi := law_fits (m := w) F hk
    have f15 := sS_F h15
    refine ⟨x1, .list (lf.map Mk.d), .sh w.d, .inr ⟨_, rfl⟩, ?_⟩
    unfold bX3 ck lw
    simp_all! [k0, e_Ao, aoK_e, nx, ix, f15, le, fi]
  · have k0 : decide ((0 : Int) < (((lf.map Mk.d).length : Nat) : Int)) = false := decide_eq_false (by rw [List.length_map]; omega)
    refine ⟨xs, .list (lf.map Mk.d), s15, h15, ?_⟩
    unfold bX3 ck lw
    simp_all! [k0]
theorem isN_sig : isNone (sigD p pl mk) = false := rfl
theorem ck_ok (hk : p.ks.Nodup) (F : Fit p pl mk) (o : Ord p pl.length mk) (G : Fit p pl fw) (hs : ∀ x ∈ fw, x ∈ mk) (hm : Mk.ok m) (hsm : m.sm) {s10 : Sl} (h10 : Hol s10 (sigD p pl mk)) (h11 : Hol s11 (sigD p pl fw)) (h12 : SlF s12) (h13 : SlF s13) (h14 : SlF s14) (h15 : SlF s15) :
    ∃ (xs' : List Int) (t11 t12 t13 t14 t15 : Sl), Hol t11 (sigD p pl fw) ∧ SlF t12 ∧ SlF t13 ∧ SlF t14 ∧ SlF t15 ∧ bodyCk (lw S xs PD (partsD p) s4 (.sh (.list (pl.map nmD))) s6 (.sh (.list (mk.map Mk.d))) (.sh m.d) (.sh (.list (fw.map Mk.d))) s10 s11 s12 s13 s14 s15) = .ok .nx (ck p pl mk fw m S PD xs' s4 s6 t11 t12 t13 t14 t15) := by
  have v10 : vS (some s10) 10 [.sh S, .ow false (.lst (xs.map iD)), .sh PD, .sh (partsD p), s4, .sh (.list (pl.map nmD)), s6, .sh (.list (mk.map Mk.d)), .sh m.d, .sh (.list (fw.map Mk.d)), s10, s11, s12, s13, s14, s15] = .ok (.sh (sigD p pl mk)) [.sh S, .ow false (.lst (xs.map iD)), .sh PD, .sh (partsD p), s4, .sh (.list (pl.map nmD)), s6, .sh (.list (mk.map Mk.d)), .sh m.d, .sh (.list (fw.map Mk.d)), .sh (sigD p pl mk), s11, s12, s13, s14, s15] := vH h10 rfl
  have le := law_less F o hm hsm
  have fi := law_fits (m := m) F hk
  have f12 := sS_F h12
  have f13 := sS_F h13
  have f14 := sS_F h14
  have hl : mk.length ≤ 100 := Nat.le_trans F.len (by omega)
  by_cases h : m ∈ mk
  · by_cases hg : (givB mk && !givB (left p pl mk m)) = true
    · have e : lessL p pl mk m = [.none, .str "unlike"] := by unfold lessL; rw [if_neg fun z => z h, if_pos hg]
      rw [e] at le fi
      refine ⟨xs, s11, .sh (.list [.none, .str "unlike"]), s13, s14, s15, h11, .inr ⟨_, rfl⟩, h13, h14, h15, ?_⟩
      unfold bodyCk ck lw
      simp_all! [v10, le, f12, fi, isN_n, itT, ite_true]
    · have e : lessL p pl mk m = [sigD p pl (left p pl mk m), .str ""] := by unfold lessL; rw [if_neg fun z => z h, if_neg hg]
      rw [e] at le fi
      have hll : (left p pl mk m).length ≤ 100 := Nat.le_trans (Nat.le_trans (List.length_filter_le _ _) (List.length_filter_le _ _)) hl
      have a1 := x1_ok (p := p) (pl := pl) (fw := fw) (S := S) (PD := PD) (xs := xs) (s4 := s4) (s6 := s6) (s11 := s11) (s12 := .sh (.list [sigD p pl (left p pl mk m), .str ""])) (s14 := s14) (s15 := s15) hl hll hm not_left (with_left hg) (not_with h)
      obtain ⟨t11, k11, a2⟩ := x2_ok (p := p) (pl := pl) (mk := mk) (lf := left p pl mk m) (m := m) (S := S) (PD := PD) (xs := xs) (s4 := s4) (s6 := s6) (s12 := .sh (.list [sigD p pl (left p pl mk m), .str ""])) (s14 := s14) (s15 := s15) h11 (Nat.le_trans G.len (by omega)) fun e n => fewer_with G hs e n hg
      obtain ⟨x1, d14, t15, k15, a3⟩ := x3_ok (mk := mk) (fw := fw) (m := m) (S := S) (PD := PD) (xs := xs) (s4 := s4) (s6 := s6) (s11 := t11) (s12 := .sh (.list [sigD p pl (left p pl mk m), .str ""])) hk (F.left m) o.left h15
      refine ⟨x1, t11, .sh (.list [sigD p pl (left p pl mk m), .str ""]), .sh (sigD p pl (left p pl mk m)), .sh d14, t15, k11, .inr ⟨_, rfl⟩, .inr ⟨_, rfl⟩, .inr ⟨_, rfl⟩, k15, ?_⟩
      unfold bodyCk
      unfold ck lw at a1 a2 a3 ⊢
      have sfm := sf_mk (p := p) (pl := pl) (mk := left p pl mk m)
      generalize hL : left p pl mk m = lf at *
      simp_all! [v10, le, f12, fi, isN_sig, itT, ite_true, f13, a1, a2, sfm, f14, a3]
  · have e : lessL p pl mk m = [.none, .str "no such"] := by unfold lessL; rw [if_pos h]
    rw [e] at le fi
    refine ⟨xs, s11, .sh (.list [.none, .str "no such"]), s13, s14, s15, h11, .inr ⟨_, rfl⟩, h13, h14, h15, ?_⟩
    unfold bodyCk ck lw
    simp_all! [v10, le, f12, fi, isN_n, itT, ite_true]
theorem loopCk (hk : p.ks.Nodup) (F : Fit p pl mk) (o : Ord p pl.length mk) (G : Fit p pl fw) (hs : ∀ x ∈ fw, x ∈ mk) : ∀ (r : List Mk) (xs : List Int) (s8 s10 s11 s12 s13 s14 s15 : Sl), (∀ m ∈ r, Mk.ok m ∧ m.sm) → SlF s8 → Hol s10 (sigD p pl mk) → Hol s11 (sigD p pl fw) → SlF s12 → SlF s13 → SlF s14 → SlF s15 →
    ∃ (xs' : List Int) (t8 t10 t11 t12 t13 t14 t15 : Sl), Hol t10 (sigD p pl mk) ∧ forL (bNm 8) bodyCk (r.map Mk.d) (lw S xs PD (partsD p) s4 (.sh (.list (pl.map nmD))) s6 (.sh (.list (mk.map Mk.d))) s8 (.sh (.list (fw.map Mk.d))) s10 s11 s12 s13 s14 s15) = .ok .nx (lw S xs' PD (partsD p) s4 (.sh (.list (pl.map nmD))) s6 (.sh (.list (mk.map Mk.d))) t8 (.sh (.list (fw.map Mk.d))) t10 t11 t12 t13 t14 t15)
  | [], xs, s8, s10, s11, s12, s13, s14, s15, hr, h8, h10, h11, h12, h13, h14, h15 => ⟨xs, s8, s10, s11, s12, s13, s14, s15, h10, rfl⟩
  | m :: r, xs, s8, s10, s11, s12, s13, s14, s15, hr, h8, h10, h11, h12, h13, h14, h15 => by
    have e1 : bNm 8 m.d (lw S xs PD (partsD p) s4 (.sh (.list (pl.map nmD))) s6 (.sh (.list (mk.map Mk.d))) s8 (.sh (.list (fw.map Mk.d))) s10 s11 s12 s13 s14 s15) = some (lw S xs PD (partsD p) s4 (.sh (.list (pl.map nmD))) s6 (.sh (.list (mk.map Mk.d))) (.sh m.d) (.sh (.list (fw.map Mk.d))) s10 s11 s12 s13 s14 s15) := by rcases h8 with rfl | ⟨d, rfl⟩ <;> rfl
    obtain ⟨hm, hsm⟩ := hr m List.mem_cons_self
    obtain ⟨x1, t11, t12, t13, t14, t15, k11, k12, k13, k14, k15, e2⟩ := ck_ok (S := S) (PD := PD) (xs := xs) (s4 := s4) (s6 := s6) hk F o G hs hm hsm h10 h11 h12 h13 h14 h15
    obtain ⟨xs', u8, u10, u11, u12, u13, u14, u15, b1, b2⟩ := loopCk hk F o G hs r x1 (.sh m.d) (.sh (sigD p pl mk)) t11 t12 t13 t14 t15 (fun x hx => hr x (List.mem_cons_of_mem _ hx)) (.inr ⟨_, rfl⟩) (.inl rfl) k11 k12 k13 k14 k15
    refine ⟨xs', u8, u10, u11, u12, u13, u14, u15, b1, ?_⟩
    unfold ck at e2
    rw [List.map_cons, forL_cons e1 e2]
    exact b2
end
end K05
/-! Dt33: law k05, as data. -/
namespace K05
open PySem PySem.Spec PyProof.Rows L2 Md Nm Hs
local macro_rules | `(tactic| simp_all! [$ls,*]) => `(tactic| simp -implicitDefEqProofs only [bind_ok', bind_er', selK_t, selK_f, e_fz, e_sh, e_O, optO_s, e_2, e_3, e_var, vS_sh, vS_ow, e_D, e_seq, seqK_nx, seqK_rt, seqK_ct, seqK_bk, e_if, okK_e, e_andT, e_orT, e_notT, e_tru, e_tst, boolD_s, e_and, andK_t, andK_f, e_or, orK_t, orK_f, tru_b, e_cm, e_chn, chK_t, chK_f, e_isN, e_idx, e_isi, e_nil, e_cons, e_tup, e_lst, e_ret, e_nx, e_ex, e_set, e_setSl, sS_un, sS_sh, sS_ow, setRv_sh, setRv_ow, oNx_s, toD_sh, toD_lst, toD_obj, muD_lst, muD_obj, e_par, parK_e, e_noP, e_smP, e_sl, e_not, e_A0, e_Av, e_call, List.getElem?_cons_zero, List.getElem?_cons_succ, List.set_cons_zero, List.set_cons_succ, Option.map_some, Option.map_none, Option.bind_some, Bool.not_true, Bool.not_false, e_att, e_met, e_eqO, boolR_e, notR_e, e_inOp, e_niOp, e_opT, e_put, e_atO, atoK_e, e_rai0, e_makV, e_borT, borK_e, fz_un, fz_sh, List.map_cons, List.map_nil, e_mov, movK_sh, movK_ow, e_asg, fldD_e, clsD_e, e_for, ix0, ix1, ix2, il0, il1, il2, ln_t, ln_l, tup_l, tup_t, list_l, list_t, it_l, it_t, gt_ii, ge_ii, lt_ii, le_ii, eq_ss, ne_ss, eq_ii, ne_ii, eb_nm, asInt, sl1, sl2, nmD_e, dself, dselfi, decide_true, decide_false, len1, len2, len3, n_dec, t_tu, t_tw, t_tg, t_ts, t_ut, t_uw, t_ug, t_us, t_wt, t_wu, t_wg, t_ws, t_gt, t_gu, t_gw, t_gs, t_st, t_su, t_sw, t_sg, $ls,*])
def bT : Co Fl := cIf (cTst (cCm .eq (cFz (cCall 2 m__law_next (cAo 1 (cAv (cFz (cD (.int 2))) cA0)))) (cFz (cD (.int 1))))) (cSet 7 (cLc [8] (bNm 8) (cO (cFz (cVar 7)) itM) (cTst (cCm .ne (cFz (cIdx (cFz (cVar 8)) (cFz (cD (.int 0))))) (cFz (cD (.str "gives"))))) (cFz (cVar 8)))) cNx
section
variable {p : Pt} {pl : List Nam} {ms : List Mk} {S PD : D} {xs : List Int} {s4 s6 : Sl}
theorem told_ok (F : Fit p pl ms) (o : Ord p pl.length ms) : ∃ (xs' : List Int) (mk : List Mk), Fit p pl mk ∧ Ord p pl.length mk ∧ bT (lw S xs PD (partsD p) s4 (.sh (.list (pl.map nmD))) s6 (.ow false (.lst (ms.map Mk.d))) .un .un .un .un .un .un .un .un) = .ok .nx (lw S xs' PD (partsD p) s4 (.sh (.list (pl.map nmD))) s6 (.ow false (.lst (mk.map Mk.d))) .un .un .un .un .un .un .un .un) := by
  obtain ⟨k, x1, hk, nx⟩ := nx_ex xs (n := 2) (by omega)
  have nx : ∀ (s0 : Sl) (ρ : Sto), runC 2 m__law_next [.inr 1, .inl (.int 2)] (s0 :: .ow false (.lst (xs.map iD)) :: ρ) = .ok (.sh (.int (k : Int))) (s0 :: .ow false (.lst (x1.map iD)) :: ρ) := nx
  by_cases h1 : (k : Int) = 1
  · have k1 := decide_eq_true h1
    have c1 : cLc [8] (bNm 8) (cO (cFz (cVar 7)) itM) (cTst (cCm .ne (cFz (cIdx (cFz (cVar 8)) (cFz (cD (.int 0))))) (cFz (cD (.str "gives"))))) (cFz (cVar 8)) (lw S x1 PD (partsD p) s4 (.sh (.list (pl.map nmD))) s6 (.ow false (.lst (ms.map Mk.d))) .un .un .un .un .un .un .un .un) = .ok (.ow (.lst ((ms.filter fun x => !decide (x.w = ("gives" : Str))).map Mk.d))) (lw S x1 PD (partsD p) s4 (.sh (.list (pl.map nmD))) s6 (.sh (.list (ms.map Mk.d))) .un .un .un .un .un .un .un .un) := by
      refine cLc_map Mk.d (fun x => !decide (x.w = ("gives" : Str))) _ (ρ1 := lw S x1 PD (partsD p) s4 (.sh (.list (pl.map nmD))) s6 (.sh (.list (ms.map Mk.d))) .un .un .un .un .un .un .un .un) ?_ rfl rfl (line_le (Nat.le_trans F.len (by omega))) fun x hx => ⟨lw S x1 PD (partsD p) s4 (.sh (.list (pl.map nmD))) s6 (.sh (.list (ms.map Mk.d))) (.sh x.d) .un .un .un .un .un .un .un, lw S x1 PD (partsD p) s4 (.sh (.list (pl.map nmD))) s6 (.sh (.list (ms.map Mk.d))) (.sh x.d) .un .un .un .un .un .un .un, rfl, ?_, rfl, fun _ => ⟨lw S x1 PD (partsD p) s4 (.sh (.list (pl.map nmD))) s6 (.sh (.list (ms.map Mk.d))) (.sh x.d) .un .un .un .un .un .un .un, ?_, rfl⟩⟩
      · unfold lw; simp_all! []
      · unfold lw; simp_all! [ix_w]
      · unfold lw; simp_all! []
    refine ⟨x1, _, F.noGives, o.filter _, ?_⟩
    unfold bT
    unfold lw at c1 ⊢
    simp_all! [e_Ao, aoK_e, nx, k1, c1]
  · have k1 := decide_eq_false h1
    refine ⟨x1, ms, F, o, ?_⟩
    unfold bT lw
    simp_all! [e_Ao, aoK_e, nx, k1]
end
def partsL (p : Pt) : List D := [.list (p.ls.map nmD), .list (p.rs.map Hs.Row.d)]
theorem partsL_e (p : Pt) : PyData.list (partsL p) = partsD p := rfl
theorem hallD_e (p : Pt) : PyData.dict ((.none, .str "Hall") :: hallF p) = hallD p := rfl
theorem pick4 {j : Nat} (h : j < 4) : ∃ m : Nat, m ≤ 3 ∧ idxD (.list [.int 1, .int 0, .int 2, .int 3]) (.int (j : Int)) = some (.int (m : Int)) := by
  match j, h with
  | 0, _ => exact ⟨1, by omega, atI_nat rfl⟩
  | 1, _ => exact ⟨0, by omega, atI_nat rfl⟩
  | 2, _ => exact ⟨2, by omega, atI_nat rfl⟩
  | 3, _ => exact ⟨3, by omega, atI_nat rfl⟩
theorem pick4b {j : Nat} (h : j < 4) : ∃ m : Int, idxD (.list [.int 5, .int 3, .int 6, .int 2]) (.int (j : Int)) = some (.int m) := by
  match j, h with
  | 0, _ => exact ⟨5, atI_nat rfl⟩
  | 1, _ => exact ⟨3, atI_nat rfl⟩
  | 2, _ => exact ⟨6, atI_nat rfl⟩
  | 3, _ => exact ⟨2, atI_nat rfl⟩
theorem law_ok (l : List Int) : m_law [.sh (scrD l)] = .ok (.sh (.bool true)) [.un] := by
  generalize hS : scrD l = S
  obtain ⟨x0, -, e0⟩ := law_draws l [.sh S, .un, .un, .un, .un, .un, .un, .un, .un, .un, .un, .un, .un, .un, .un, .un]
  rw [hS] at e0
  obtain ⟨ns, x1, hp, e1⟩ := law_pool (ρ := [.sh S, .ow false (.lst (x0.map iD)), .un, .un, .un, .un, .un, .un, .un, .un, .un, .un, .un, .un, .un, .un]) (i := 1) (b := false) (xs := x0) rfl
  have e1 : runC 1 m__law_pool [.inr 1] [.sh S, .ow false (.lst (x0.map iD)), .un, .un, .un, .un, .un, .un, .un, .un, .un, .un, .un, .un, .un, .un] = .ok (.ow (.lst (ns.map sD))) [.sh S, .ow false (.lst (x1.map iD)), .un, .un, .un, .un, .un, .un, .un, .un, .un, .un, .un, .un, .un, .un] := e1
  obtain ⟨P, hP, nd, eP⟩ := pool_P hp
  rw [eP] at e1
  obtain ⟨p, x2, H, -, e2⟩ := law_parts (ρ := [.sh S, .ow false (.lst (x1.map iD)), .sh (.list (P.map nmD)), .un, .un, .un, .un, .un, .un, .un, .un, .un, .un, .un, .un, .un]) (i := 1) (b := false) (xs := x1) hP nd rfl
  have e2 : runC 2 m__law_parts [.inr 1, .inl (.list (P.map nmD))] [.sh S, .ow false (.lst (x1.map iD)), .sh (.list (P.map nmD)), .un, .un, .un, .un, .un, .un, .un, .un, .un, .un, .un, .un, .un] = .ok (.ow (.lst (partsL p))) [.sh S, .ow false (.lst (x2.map iD)), .sh (.list (P.map nmD)), .un, .un, .un, .un, .un, .un, .un, .un, .un, .un, .un, .un, .un] := e2
  have e3 := law_hall H
  obtain ⟨z, hz⟩ : ∃ z, P[27]? = some z := ⟨_, List.getElem?_eq_getElem (by omega)⟩
  have iz : idxD (.list (P.map nmD)) (.int 27) = some (.str z.1) := ixP (k := 27) hz
  generalize P.map nmD = PL at e1 e2 iz
  have hk := H.kn
  obtain ⟨j, x3, j4, n3⟩ := nx_ex x2 (n := 4) (by omega)
  have n3 : ∀ (s0 : Sl) (ρ : Sto), runC 2 m__law_next [.inr 1, .inl (.int 4)] (s0 :: .ow false (.lst (x2.map iD)) :: ρ) = .ok (.sh (.int (j : Int))) (s0 :: .ow false (.lst (x3.map iD)) :: ρ) := n3
  obtain ⟨c, c3, pk⟩ := pick4 j4
  have rk := rngK c (by omega)
  obtain ⟨x4, pl, s6, h6, hpl, pl3, e4⟩ := loopPl H S (.list PL) (.ow false (.obj "Hall" (hallF p))) (List.range c) x3 [] .un (.inl rfl) (fun k m => by cases m) (by rw [List.length_range]; exact Nat.le_trans (Nat.le_of_eq (Nat.zero_add _)) c3)
  have e4 : forL (bNm 6) bodyPl ((List.range c).map fun i => .int ((i : Nat) : Int)) (lw S x3 (.list PL) (partsD p) (.ow false (.obj "Hall" (hallF p))) (.ow false (.lst [])) .un .un .un .un .un .un .un .un .un .un) = _ := e4
  obtain ⟨j2, x5, j24, n5⟩ := nx_ex x4 (n := 4) (by omega)
  have n5 : ∀ (s0 : Sl) (ρ : Sto), runC 2 m__law_next [.inr 1, .inl (.int 4)] (s0 :: .ow false (.lst (x4.map iD)) :: ρ) = .ok (.sh (.int (j2 : Int))) (s0 :: .ow false (.lst (x5.map iD)) :: ρ) := n5
  obtain ⟨sh, pk2⟩ := pick4b j24
  obtain ⟨ms, x6, sub, clo, -, e6⟩ := law_closed (pl := pl) (ρ := lw S x5 (.list PL) (partsD p) (.ow false (.obj "Hall" (hallF p))) (.sh (.list (pl.map nmD))) s6 .un .un .un .un .un .un .un .un .un) (i := 1) (b := false) (xs := x5) H.sz hk pl3 sh rfl
  have e6 : runC 4 m__law_closed [.inr 1, .inl (partsD p), .inl (.list (pl.map nmD)), .inl (.int sh)] (lw S x5 (.list PL) (partsD p) (.ow false (.obj "Hall" (hallF p))) (.sh (.list (pl.map nmD))) s6 .un .un .un .un .un .un .un .un .un) = .ok (.ow (.lst (ms.map Mk.d))) (lw S x6 (.list PL) (partsD p) (.ow false (.obj "Hall" (hallF p))) (.sh (.list (pl.map nmD))) s6 .un .un .un .un .un .un .un .un .un) := e6
  have al := H.sz.al pl3
  have F0 : Fit p pl ms := ⟨H.sz, pl3, hpl, Nat.le_trans sub.length_le (by omega), fun m hm => sub.subset hm, clo⟩
  have o0 : Ord p pl.length ms := ord_sub (allM_nd H _) sub
  obtain ⟨x7, mk, F, o, e7⟩ := told_ok (S := S) (PD := .list PL) (xs := x6) (s4 := .ow false (.obj "Hall" (hallF p))) (s6 := s6) F0 o0
  obtain ⟨j3, x8, j34, n8⟩ := nx_ex x7 (n := 4) (by omega)
  have n8 : ∀ (s0 : Sl) (ρ : Sto), runC 2 m__law_next [.inr 1, .inl (.int 4)] (s0 :: .ow false (.lst (x7.map iD)) :: ρ) = .ok (.sh (.int (j3 : Int))) (s0 :: .ow false (.lst (x8.map iD)) :: ρ) := n8
  have rk3 := rngK j3 (by omega)
  obtain ⟨x9, fw, t6, t9, h9, G, og, hs, e9⟩ := loopFw (pl := pl) (mk := mk) hk S (.list PL) (.ow false (.obj "Hall" (hallF p))) .un (List.range j3) x8 mk s6 (.ow false (.lst (mk.map Mk.d))) h6 (.inr ⟨_, rfl, rfl⟩) F o fun x hx => hx
  have sg1 := law_signed F
  rw [show told p pl.length mk = mk from o] at sg1
  have sg2 := law_signed G
  rw [show told p pl.length fw = fw from og] at sg2
  have v9 : ∀ s10, vS (some t9) 9 [.sh S, .ow false (.lst (x9.map iD)), .sh (.list PL), .sh (partsD p), .sh (hallD p), .sh (.list (pl.map nmD)), t6, .sh (.list (mk.map Mk.d)), .un, t9, s10, .un, .un, .un, .un, .un] = .ok (.sh (.list (fw.map Mk.d))) [.sh S, .ow false (.lst (x9.map iD)), .sh (.list PL), .sh (partsD p), .sh (hallD p), .sh (.list (pl.map nmD)), t6, .sh (.list (mk.map Mk.d)), .un, .sh (.list (fw.map Mk.d)), s10, .un, .un, .un, .un, .un] := fun s10 => vH h9 rfl
  have am := law_all_ok (p := p) (pl := pl.map nmD) H.sz (by rw [List.length_map]; exact pl3)
  rw [List.length_map] at am
  have ad : op2 .add (.list ((allM p pl.length).map Mk.d)) (.list [.tuple [.str "takes", .str z.1], .tuple [.str "shares", .int 3]]) = some (.ow (.lst ((allM p pl.length ++ [Mk.takes z, Mk.shares 3]).map Mk.d))) := by
    rw [List.map_append]
    exact add_l _ _ (by rw [List.length_map]; show _ + 2 ≤ 1000; omega)
  obtain ⟨y, t8, t10, t11, t12, t13, t14, t15, h10, e10⟩ := loopCk (S := S) (PD := .list PL) (s4 := .sh (hallD p)) (s6 := t6) hk F o G hs (allM p pl.length ++ [Mk.takes z, Mk.shares 3]) x9 .un (.ow false (.obj "Signature" (sigF p pl mk))) (.ow false (.obj "Signature" (sigF p pl fw))) .un .un .un .un (fun m hm => by
    rcases List.mem_append.mp hm with hm | hm
    · exact mk_all hm pl3
    · rcases List.mem_cons.mp hm with rfl | hm
      · exact ⟨True.intro, True.intro⟩
      · rw [List.mem_singleton.mp hm]
        exact ⟨True.intro, (by omega : 3 ≤ 10)⟩) (.inl rfl) (.inr ⟨_, rfl, rfl⟩) (.inr ⟨_, rfl, rfl⟩) (.inl rfl) (.inl rfl) (.inl rfl) (.inl rfl)
  have v10 : vS (some t10) 10 [.sh S, .ow false (.lst (y.map iD)), .sh (.list PL), .sh (partsD p), .sh (hallD p), .sh (.list (pl.map nmD)), t6, .sh (.list (mk.map Mk.d)), t8, .sh (.list (fw.map Mk.d)), t10, t11, t12, t13, t14, t15] = .ok (.sh (sigD p pl mk)) [.sh S, .ow false (.lst (y.map iD)), .sh (.list PL), .sh (partsD p), .sh (hallD p), .sh (.list (pl.map nmD)), t6, .sh (.list (mk.map Mk.d)), t8, .sh (.list (fw.map Mk.d)), .sh (sigD p pl mk), t11, t12, t13, t14, t15] := vH h10 rfl
  have sfm := sf_mk (p := p) (pl := pl) (mk := mk)
  have eqm : cmp2 .eq (.list (mk.map Mk.d)) (.list (mk.map Mk.d)) = some true := (cMk.eqL _ _).trans (congrArg some (decide_eq_true rfl))
  have hb : b_law [.sh S, .un, .un, .un, .un, .un, .un, .un, .un, .un, .un, .un, .un, .un, .un, .un] = .ok (.rt (.sh (.bool true))) [.sh S, .ow false (.lst (y.map iD)), .sh (.list PL), .sh (partsD p), .sh (hallD p), .sh (.list (pl.map nmD)), t6, .sh (.list (mk.map Mk.d)), t8, .sh (.list (fw.map Mk.d)), .sh (sigD p pl mk), t11, t12, t13, t14, t15] := by
    unfold b_law
    rw [← bodyPl, ← bT, ← bodyFw, ← bX1, ← bX2, ← bX3, ← bodyCk]
    unfold lw at e4 e6 e7 e9 e10
    simp_all! [e0, e1, e_Ao, aoK_e, e2, partsL_e, e3, ls0, ls4, n3, pk, rk, e4, hallD_e, n5, pk2, e6, e7, n8, rk3, e9, sg1, v9, sg2, am, tu2, iz, ls2, ad, e10, v10, sfm, eqm]
  unfold m_law
  exact fn_rt (n := 1) (N := 16) (as := [.sh S]) hb (by simp)
end K05
/-! Md24: a law is entered. -/
namespace Md
open PySem PySem.Spec PyProof.Rows L2
theorem law_enter {K : PySem.W.Frag} {mg : Str → Option Value} {ns : List Int} {a : Addr} {H : Hp} {φ : Co Rv} (h : φ [.sh (.dict [(.bool true, .list (ns.map .int))])] = .ok (.sh (.bool true)) [.un]) (hS : SqL K H a (ns.map V.int)) :
    spM K mg 1 φ [.ref a] H (fun v _ => v = .bl true) (fun _ _ _ => False) := by
  refine ⟨rfl, ⟨H, H, fun _ => False, fun _ => none⟩, H, [.sh (.dict [(.bool true, .list (ns.map .int))])], fun _ => none, ⟨rfl, Same.refl H, Same.refl H, fun a o e => .inl e, fun a e => e, fun a o e _ => e, (fun a i e => by cases e), fun i v s e1 e2 => ?_, fun i m e => ?_, (fun i p e => by cases e)⟩, ?_⟩
  · match i, e1, e2 with
    | 0, e1, e2 =>
      cases e1
      cases e2
      exact .sh (.fl hS VrA.ints)
    | i + 1, e1, e2 => cases e1
  · match i, e with
    | 0, e => cases e
    | i + 1, e => cases e
  · rw [h]
    intro v F' H' g' S' s' r
    cases r with
    | sh k =>
      cases k
      rfl
theorem no_air {P : Program} {w : World} (outer : List Env) (H : Hp) (s : Shared) (e : Value) (s' : Shared) (h : L2.CX P w outer H s (fun _ _ _ => False) e s') : False := by
  obtain ⟨_, _, _, _, _, _, _, _, _, _, _, _, z⟩ := h
  exact z
/-- the promise of a law, for its call -/
def spIn (K : PySem.W.Frag) (mg : Str → Option Value) (n : Nat) (φ : Co Rv) : Sp := fun vs H Q _ => spM K mg n φ vs H Q (fun _ _ _ => False)
theorem fn_calm {P : Program} {w : World} {K : PySem.W.Frag} {mg : Str → Option Value} {base : Heap} {k n : Nat} {f : Addr} {fd : FuncData} {ps : List Str} {φ : Co Rv} (F : FnOk P w K mg base (L2.CX P w) k f fd ps (spM K mg n φ)) : FnOk P w K mg base L2.CX0 k f fd ps (spIn K mg n φ) :=
  ⟨fun vs H Q E h => F.len vs H Q _ h, fun A outer s H args us vs Q E hr he hb hv hs => codeAny_mono (F.run A outer s H args us vs Q _ hr he hb hv hs) fun r s' c => by
    cases r with
    | ok o => cases o <;> exact c
    | error e => exact (no_air outer H s e s' c).elim⟩
theorem law_walk {K : PySem.W.Frag} {mg : Str → Option Value} {φ : Co Rv} (h : ∀ ns : List Int, φ [.sh (.dict [(.bool true, .list (ns.map .int))])] = .ok (.sh (.bool true)) [.un]) (H : Hp) (a : Addr) (ns : List Int) (hS : SqL K H a (ns.map V.int)) :
    spIn K mg 1 φ [.ref a] H (fun v _ => v = .bl true) (fun _ _ _ => False) := law_enter (h ns) hS
/-! ### facts of the head -/
theorem FunV.of {K : PySem.W.Frag} {x qual : Str} {st : Stmt} {fA : Addr} {fd : FuncData} (F : FunD K x qual (defArgs st) (defBody st) (defScope st) [] [] fA fd) : FunV K x qual st fA := by
  obtain ⟨oc, od, dV, kV, doc, pm, an, cdv, ct, osl, rfl, lk, hc, hd, _⟩ := F.ex
  rcases hd with ⟨_, rfl⟩ | ⟨z, _⟩
  · exact ⟨oc, od, kV, doc, pm, an, cdv, ct, osl, lk, hc⟩
  · exact absurd rfl z
/-- isinstance with a built-in type -/
theorem isiT_of {K : PySem.W.Frag} {mg : Str → Option Value} {t : String} {own : List (Str × Bool)} (h : ∀ c b, own.lookup c = some b → ∃ C, mg c = some (.ref C) ∧ OwnC K C ∧ PySem.W.kitOne K (.ref C) (.type t) = some b) : IsiC K mg (.type t) (some t) own :=
  ⟨fun s e => (by cases e; rfl), (fun e => by cases e), fun c b C e g => by
    obtain ⟨C', g', o, k⟩ := h c b e
    rw [g'] at g
    injection g with g
    injection g with g
    subst g
    exact ⟨o, k⟩⟩
theorem isiC_of {K : PySem.W.Frag} {mg : Str → Option Value} {D : Addr} {own : List (Str × Bool)} (hn : ∀ s ∈ ["NoneType", "bool", "int", "str", "list", "tuple"], PySem.W.kitOne K (.type s) (.ref D) = some false) (h : ∀ c b, own.lookup c = some b → ∃ C, mg c = some (.ref C) ∧ OwnC K C ∧ PySem.W.kitOne K (.ref C) (.ref D) = some b) : IsiC K mg (.ref D) none own :=
  ⟨(fun s e => by cases e), fun _ => hn, fun c b C e g => by
    obtain ⟨C', g', o, k⟩ := h c b e
    rw [g'] at g
    injection g with g
    injection g with g
    subst g
    exact ⟨o, k⟩⟩
/-- a lookup in a table of classes, by cases -/
theorem look_all {p : Str → Bool → Prop} : ∀ {own : List (Str × Bool)}, (∀ q ∈ own, p q.1 q.2) → ∀ (c : Str) (b : Bool), own.lookup c = some b → p c b
  | [], _, c, b, e => by cases e
  | q :: r, h, c, b, e => by
    have e : (match c == q.1 with | true => some q.2 | false => r.lookup c) = some b := e
    cases hq : (c == q.1) with
    | true =>
      rw [hq] at e
      cases e
      rw [eq_of_beq hq]
      exact h q List.mem_cons_self
    | false =>
      rw [hq] at e
      exact look_all (fun z m => h z (List.mem_cons_of_mem _ m)) c b e
end Md
namespace K05
open PySem PySem.Spec PyProof.Rows L2 Md

theorem ok_is_integer {P : Program} {w : World} {K : PySem.W.Frag} {mg : Str → Option Value} {base : Heap} (I_bool : IsiC K mg (.type "bool") (some "bool") isiOwn) (I_int : IsiC K mg (.type "int") (some "int") isiOwn) (hd : DefAt K mg "is_integer" s_is_integer) (Z : Bz mg) : Fc P w K mg base 1 "is_integer" 1 m_is_integer :=
  fc_of (k := 0) hd sc_is_integer (fun _ _ _ _ _ _ us hl => match us, hl with | [_], _ => rfl) (c := b_is_integer) <| fun fA cdv A outer s H E hr =>
  (pss_oneM (ps_retM (pe_andM (pe_fz (pe_isiT I_int (by rfl) Z.isinstance (by rfl) Z.int (by decide +kernel) (pe_fz (pe_varM (pv 0))))) (pe_one (pe_fz (pe_notM (pe_fz (pe_isiT I_bool (by rfl) Z.isinstance (by rfl) Z.bool (by decide +kernel) (pe_fz (pe_varM (pv 0)))))))))))
end K05
namespace K05
open PySem PySem.Spec PyProof.Rows L2 Md

theorem ok_has_repeat {P : Program} {w : World} {K : PySem.W.Frag} {mg : Str → Option Value} {base : Heap}  (hd : DefAt K mg "has_repeat" s_has_repeat) (Z : Bz mg) : Fc P w K mg base 1 "has_repeat" 1 m_has_repeat :=
  fc_of (k := 0) hd sc_has_repeat (fun _ _ _ _ _ _ us hl => match us, hl with | [_], _ => rfl) (c := b_has_repeat) <| fun fA cdv A outer s H E hr =>
  (pss_oneM (ps_retM (pe_any _ rfl (by rfl) Z.any (pe_fz (pe_lcM (own := [("at", 1), ("value", 2)]) [1, 2] rfl sc_has_repeat.nd (blkOk_by (N := ["values", "at", "value"]) (sc := defScope s_has_repeat) (by decide +kernel)) (pi_enuM (by rfl) Z.enumerate (pe_fz (pe_varM (pv 0)))) (fun _ _ _ _ _ => (pg_tupM (n := 2) rfl (pgs_consM (pg_nmM (i := 1) sc_has_repeat.nd rfl (.inl rfl)) (pgs_consM (pg_nmM (i := 2) sc_has_repeat.nd rfl (.inl rfl)) pgs_nilM)))) (fun _ _ _ _ _ => pts_nilM) (fun _ _ _ _ _ => (pe_fz (pe_cmM (hu_of hr) .inn (pe_fz (pe_varM (pv 2))) (pe_fz (pe_slM (pe_fz (pe_varM (pv 0))) po_noM (po_smM (pe_fz (pe_varM (pv 1)))))) (by rfl)))))))))
end K05
namespace K05
open PySem PySem.Spec PyProof.Rows L2 Md

theorem ok_is_name {P : Program} {w : World} {K : PySem.W.Frag} {mg : Str → Option Value} {base : Heap} (c_RESERVED : GlbD K mg "RESERVED" d_RESERVED) (c__DIGITS : GlbD K mg "_DIGITS" d__DIGITS) (c__LETTERS : GlbD K mg "_LETTERS" d__LETTERS) (c__MOST_CHARACTERS : GlbD K mg "_MOST_CHARACTERS" d__MOST_CHARACTERS) (I_str : IsiC K mg (.type "str") (some "str") isiOwn) (hd : DefAt K mg "is_name" s_is_name) (Z : Bz mg) : Fc P w K mg base 1 "is_name" 1 m_is_name :=
  fc_of (k := 0) hd sc_is_name (fun _ _ _ _ _ _ us hl => match us, hl with | [_], _ => rfl) (c := b_is_name) <| fun fA cdv A outer s H E hr =>
  (pss_consM (ps_ifM (PW.pt (pw_orM (pt_notTM (pt_of (pe_fz (pe_isiT I_str (by rfl) Z.isinstance (by rfl) Z.str (by decide +kernel) (pe_fz (pe_varM (pv 0))))) (by intro _; rfl))) (pw_or1 (pt_notTM (pt_chM (hu_of hr) .le .le (pe_fz pe_intM) (pe_fz (pe_len _ (by rfl) Z.len (pe_fz (pe_varM (pv 0))))) (pe_fz (pe_glbM c__MOST_CHARACTERS (by rfl))) (by with_unfolding_all rfl)))))) (pss_oneM (ps_retM pe_blM)) pss_nilM)
  (pss_consM (ps_ifM (PW.pt (pw_orM (pt_cmM (hu_of hr) .nin (pe_fz (pe_ixM (pe_fz (pe_varM (pv 0))) (pe_fz pe_intM) (fun _ _ => rfl))) (pe_fz (pe_glbM c__LETTERS (by rfl))) (by rfl)) (pw_or1 (pt_cmM (hu_of hr) .inn (pe_fz (pe_varM (pv 0))) (pe_fz (pe_glbM c_RESERVED (by rfl))) (by rfl))))) (pss_oneM (ps_retM pe_blM)) pss_nilM)
  (pss_oneM (ps_retM (pe_all _ rfl (by rfl) Z.all (pe_fz (pe_lcM (own := [("letter", 1)]) [1] rfl sc_is_name.nd (blkOk_by (N := ["value", "letter"]) (sc := defScope s_is_name) (by decide +kernel)) (pi_seqM (pe_fz (pe_varM (pv 0)))) (fun _ _ _ _ _ => (pg_nmM (i := 1) sc_is_name.nd rfl (.inl rfl))) (fun _ _ _ _ _ => pts_nilM) (fun _ _ _ _ _ => (pe_fz (pe_orM (pe_fz (pe_cmM (hu_of hr) .inn (pe_fz (pe_varM (pv 1))) (pe_fz (pe_glbM c__LETTERS (by rfl))) (by rfl))) (pe_one (pe_fz (pe_cmM (hu_of hr) .inn (pe_fz (pe_varM (pv 1))) (pe_fz (pe_glbM c__DIGITS (by rfl))) (by rfl))))))))))))))
end K05
namespace K05
open PySem PySem.Spec PyProof.Rows L2 Md

theorem ok_is_mark {P : Program} {w : World} {K : PySem.W.Frag} {mg : Str → Option Value} {base : Heap} (G_is_integer : Fc P w K mg base 1 "is_integer" 1 m_is_integer) (G_is_name : Fc P w K mg base 1 "is_name" 1 m_is_name) (I_tuple : IsiC K mg (.type "tuple") (some "tuple") isiOwn) (hd : DefAt K mg "is_mark" s_is_mark) (Z : Bz mg) : Fc P w K mg base 3 "is_mark" 1 m_is_mark :=
  fc_of (k := 2) hd sc_is_mark (fun _ _ _ _ _ _ us hl => match us, hl with | [_], _ => rfl) (c := b_is_mark) <| fun fA cdv A outer s H E hr =>
  (pss_consM (ps_ifM (PW.pt (pw_orM (pt_notTM (pt_of (pe_fz (pe_isiT I_tuple (by rfl) Z.isinstance (by rfl) Z.tuple (by decide +kernel) (pe_fz (pe_varM (pv 0))))) (by intro _; rfl))) (pw_or1 (pt_cmM (hu_of hr) .nin (pe_fz (pe_len _ (by rfl) Z.len (pe_fz (pe_varM (pv 0))))) (pe_fz (pe_tupM (pa_consM (pe_fz pe_intM) (pa_consM (pe_fz pe_intM) pa_nilM)))) (by rfl))))) (pss_oneM (ps_retM pe_blM)) pss_nilM)
  (pss_consM (ps_parM (i := 1) (j := 2) rfl sc_is_mark.nd rfl rfl (by decide) rfl rfl rfl (pa_consM (pe_fz (pe_ixM (pe_fz (pe_varM (pv 0))) (pe_fz pe_intM) (fun _ _ => rfl))) (pa_consM (pe_fz (pe_slM (pe_fz (pe_varM (pv 0))) (po_smM (pe_fz pe_intM)) po_noM)) pa_nilM)))
  (pss_consM (ps_ifM (pt_cmM (hu_of hr) .eq (pe_fz (pe_varM (pv 1))) (pe_fz pe_strM) (nomark _)) (pss_oneM (ps_retM (pe_andM (pe_fz (pe_cmM (hu_of hr) .eq (pe_fz (pe_len _ (by rfl) Z.len (pe_fz (pe_varM (pv 2))))) (pe_fz pe_intM) (nomark _))) (pe_one (pe_fz (pe_fcM G_is_integer (hr.mono (by decide)) (by rfl) (psT (takes_of rfl rfl rfl rfl)) (pa_valA (pe_fz (pe_ixM (pe_fz (pe_varM (pv 2))) (pe_fz pe_intM) (fun _ _ => rfl))) pa_nilA))))))) pss_nilM)
  (pss_consM (ps_ifM (pt_notTM (pt_of (pe_fz (pe_all _ rfl (by rfl) Z.all (pe_fz (pe_lcM (own := [("part", 3)]) [3] rfl sc_is_mark.nd (blkOk_by (N := ["value", "word", "parts", "part"]) (sc := defScope s_is_mark) (by decide +kernel)) (pi_seqM (pe_fz (pe_varM (pv 2)))) (fun _ _ _ _ _ => (pg_nmM (i := 3) sc_is_mark.nd rfl (.inl rfl))) (fun _ _ _ _ _ => pts_nilM) (fun _ _ _ _ _ => (pe_fz (pe_fcM G_is_name (hr.mono (by decide)) (by rfl) psF (pa_valA (pe_fz (pe_varM (pv 3))) pa_nilA)))))))) (by intro _; rfl))) (pss_oneM (ps_retM pe_blM)) pss_nilM)
  (pss_consM (ps_ifM (pt_cmM (hu_of hr) .inn (pe_fz (pe_varM (pv 1))) (pe_fz (pe_tupM (pa_consM (pe_fz pe_strM) (pa_consM (pe_fz pe_strM) pa_nilM)))) (by rfl)) (pss_oneM (ps_retM (pe_cmM (hu_of hr) .eq (pe_fz (pe_len _ (by rfl) Z.len (pe_fz (pe_varM (pv 2))))) (pe_fz pe_intM) (nomark _)))) pss_nilM)
  (pss_consM (ps_ifM (pt_cmM (hu_of hr) .eq (pe_fz (pe_varM (pv 1))) (pe_fz pe_strM) (nomark _)) (pss_oneM (ps_retM (pe_andM (pe_fz (pe_cmM (hu_of hr) .eq (pe_fz (pe_len _ (by rfl) Z.len (pe_fz (pe_varM (pv 2))))) (pe_fz pe_intM) (nomark _))) (pe_one (pe_fz (pe_cmM (hu_of hr) .ne (pe_fz (pe_ixM (pe_fz (pe_varM (pv 2))) (pe_fz pe_intM) (fun _ _ => rfl))) (pe_fz (pe_ixM (pe_fz (pe_varM (pv 2))) (pe_fz pe_intM) (fun _ _ => rfl))) (nomark _))))))) pss_nilM)
  (pss_oneM (ps_retM (pe_andM (pe_fz (pe_cmM (hu_of hr) .eq (pe_fz (pe_varM (pv 1))) (pe_fz pe_strM) (nomark _))) (pe_one (pe_fz (pe_cmM (hu_of hr) .eq (pe_fz (pe_len _ (by rfl) Z.len (pe_fz (pe_varM (pv 2))))) (pe_fz pe_intM) (nomark _)))))))))))))
end K05
namespace K05
open PySem PySem.Spec PyProof.Rows L2 Md

theorem ok_all_marks {P : Program} {w : World} {K : PySem.W.Frag} {mg : Str → Option Value} {base : Heap} {C_Hall : Addr} (T_Hall : ClsF K mg "Hall" C_Hall ["locks", "descriptions", "kinds", "sorts"]) (hd : DefAt K mg "all_marks" s_all_marks) (Z : Bz mg) : Fc P w K mg base 1 "all_marks" 2 m_all_marks :=
  fc_of (k := 0) hd sc_all_marks (fun _ _ _ _ _ _ us hl => match us, hl with | [_, _], _ => rfl) (c := b_all_marks) <| fun fA cdv A outer s H E hr =>
  (pss_consM (ps_setLcM (i := 2) (own := [("lock", 3)]) [3] rfl sc_all_marks.nd rfl rfl (sw_true rfl rfl rfl (by decide +kernel)) (blkOk_by (N := ["hall", "places", "marks", "lock", "held", "kind", "field", "at"]) (sc := defScope s_all_marks) (by decide +kernel)) (pi_seqM (pe_fz (pe_attM T_Hall.g T_Hall.cl (T_Hall.no "locks" (by decide +kernel)) (pe_fz (pe_varM (pv 0))) rfl))) (fun _ _ _ _ _ => (pg_nmM (i := 3) sc_all_marks.nd rfl (.inl rfl))) (fun _ _ _ _ _ => pts_nilM) (fun _ _ _ _ _ => (pe_fz (pe_tupM (pa_consM (pe_fz pe_strM) (pa_consM (pe_fz (pe_varM (pv 3))) pa_nilM))))))
  (pss_consM (ps_setM (i := 2) sc_all_marks.nd rfl (.inl rfl) (pe_binM (o := .add) (pe_fz (pe_varM (pv 2))) (pe_fz (pe_lc2M (own := [("held", 4), ("lock", 3)]) (vs1 := [3]) [4] [3] rfl sc_all_marks.nd (blkOk_by (N := ["hall", "places", "marks", "lock", "held", "kind", "field", "at"]) (sc := defScope s_all_marks) (by decide +kernel)) (pi_seqM (pe_fz (pe_attM T_Hall.g T_Hall.cl (T_Hall.no "locks" (by decide +kernel)) (pe_fz (pe_varM (pv 0))) rfl))) (fun _ _ _ _ _ => (pg_nmM (i := 4) sc_all_marks.nd rfl (.inl rfl))) (fun _ _ _ _ _ => pts_nilM) (fun _ _ _ _ _ => (pi_seqM (pe_fz (pe_attM T_Hall.g T_Hall.cl (T_Hall.no "locks" (by decide +kernel)) (pe_fz (pe_varM (pv 0))) rfl)))) (fun _ _ _ _ _ => (pg_nmM (i := 3) sc_all_marks.nd rfl (.inl rfl))) (fun _ _ _ _ _ => (pts_oneM (pt_cmM (hu_of hr) .ne (pe_fz (pe_varM (pv 4))) (pe_fz (pe_varM (pv 3))) (nomark _)))) (fun _ _ _ _ _ => (pe_fz (pe_tupM (pa_consM (pe_fz pe_strM) (pa_consM (pe_fz (pe_varM (pv 4))) (pa_consM (pe_fz (pe_varM (pv 3))) pa_nilM))))))))))
  (pss_consM (ps_setM (i := 2) sc_all_marks.nd rfl (.inl rfl) (pe_binM (o := .add) (pe_fz (pe_varM (pv 2))) (pe_fz (pe_lcM (own := [("kind", 5), ("field", 6)]) [5, 6] rfl sc_all_marks.nd (blkOk_by (N := ["hall", "places", "marks", "lock", "held", "kind", "field", "at"]) (sc := defScope s_all_marks) (by decide +kernel)) (pi_seqM (pe_fz (pe_attM T_Hall.g T_Hall.cl (T_Hall.no "sorts" (by decide +kernel)) (pe_fz (pe_varM (pv 0))) rfl))) (fun _ _ _ _ _ => (pg_tupM (n := 2) rfl (pgs_consM (pg_nmM (i := 5) sc_all_marks.nd rfl (.inl rfl)) (pgs_consM (pg_nmM (i := 6) sc_all_marks.nd rfl (.inl rfl)) pgs_nilM)))) (fun _ _ _ _ _ => pts_nilM) (fun _ _ _ _ _ => (pe_fz (pe_tupM (pa_consM (pe_fz pe_strM) (pa_consM (pe_fz (pe_varM (pv 5))) (pa_consM (pe_fz (pe_varM (pv 6))) pa_nilM))))))))))
  (pss_consM (ps_setM (i := 2) sc_all_marks.nd rfl (.inl rfl) (pe_binM (o := .add) (pe_fz (pe_varM (pv 2))) (pe_fz (pe_lcM (own := [("lock", 3)]) [3] rfl sc_all_marks.nd (blkOk_by (N := ["hall", "places", "marks", "lock", "held", "kind", "field", "at"]) (sc := defScope s_all_marks) (by decide +kernel)) (pi_seqM (pe_fz (pe_attM T_Hall.g T_Hall.cl (T_Hall.no "locks" (by decide +kernel)) (pe_fz (pe_varM (pv 0))) rfl))) (fun _ _ _ _ _ => (pg_nmM (i := 3) sc_all_marks.nd rfl (.inl rfl))) (fun _ _ _ _ _ => pts_nilM) (fun _ _ _ _ _ => (pe_fz (pe_tupM (pa_consM (pe_fz pe_strM) (pa_consM (pe_fz (pe_varM (pv 3))) pa_nilM)))))))))
  (pss_oneM (ps_retM (pe_binM (o := .add) (pe_fz (pe_varM (pv 2))) (pe_fz (pe_lcM (own := [("at", 7)]) [7] rfl sc_all_marks.nd (blkOk_by (N := ["hall", "places", "marks", "lock", "held", "kind", "field", "at"]) (sc := defScope s_all_marks) (by decide +kernel)) (pi_rngM (by rfl) Z.range (pe_fz (pe_len _ (by rfl) Z.len (pe_fz (pe_varM (pv 1)))))) (fun _ _ _ _ _ => (pg_nmM (i := 7) sc_all_marks.nd rfl (.inl rfl))) (fun _ _ _ _ _ => pts_nilM) (fun _ _ _ _ _ => (pe_fz (pe_tupM (pa_consM (pe_fz pe_strM) (pa_consM (pe_fz (pe_varM (pv 7))) pa_nilM))))))))))))))
end K05
namespace K05
open PySem PySem.Spec PyProof.Rows L2 Md

theorem ok_Hall_description_of {P : Program} {w : World} {K : PySem.W.Frag} {mg : Str → Option Value} {base : Heap} {C_Hall : Addr} (T_Hall : ClsF K mg "Hall" C_Hall ["locks", "descriptions", "kinds", "sorts"]) {E_NoSuch : Addr} (X_NoSuch : ErC P w K mg base "NoSuch" E_NoSuch fn_NoSuch) {C : Addr} (hd : MetAt K C "_description_of" "Hall._description_of" s_Hall_description_of) (Z : Bz mg) : Mc P w K mg base 3 C "_description_of" 2 m_Hall_description_of :=
  mc_of (k := 2) hd sc_Hall_description_of (fun _ _ _ _ _ _ us hl => match us, hl with | [_, _], _ => rfl) (c := b_Hall_description_of) <| fun fA cdv A outer s H E hr =>
  (pss_consM (ps_forM (passes_of rfl) rfl (pi_seqM (pe_fz (pe_attM T_Hall.g T_Hall.cl (T_Hall.no "descriptions" (by decide +kernel)) (pe_fz (pe_varM (pv 0))) rfl))) (pg_nmM (i := 2) sc_Hall_description_of.nd rfl (.inl rfl)) (pss_oneM (ps_ifM (pt_cmM (hu_of hr) .eq (pe_fz (pe_ixM (pe_fz (pe_varM (pv 2))) (pe_fz pe_intM) (fun _ _ => rfl))) (pe_fz (pe_varM (pv 1))) (nomark _)) (pss_oneM (ps_retM (pe_varM (pv 2)))) pss_nilM)))
  (pss_oneM (ps_raiseM X_NoSuch (by decide) rfl (takes_of rfl rfl rfl rfl) (hr.mono (by decide)) (by rfl) (pa_consM (pe_fz (pe_varM (pv 1))) pa_nilM))))
end K05
namespace K05
open PySem PySem.Spec PyProof.Rows L2 Md

theorem ok_Hall_guard_of {P : Program} {w : World} {K : PySem.W.Frag} {mg : Str → Option Value} {base : Heap} {C_Hall : Addr} (T_Hall : ClsF K mg "Hall" C_Hall ["locks", "descriptions", "kinds", "sorts"]) (M_Hall__description_of : Mc P w K mg base 3 C_Hall "_description_of" 2 m_Hall_description_of) {C : Addr} (hd : MetAt K C "guard_of" "Hall.guard_of" s_Hall_guard_of) (Z : Bz mg) : Mc P w K mg base 5 C "guard_of" 2 m_Hall_guard_of :=
  mc_of (k := 4) hd sc_Hall_guard_of (fun _ _ _ _ _ _ us hl => match us, hl with | [_, _], _ => rfl) (c := b_Hall_guard_of) <| fun fA cdv A outer s H E hr =>
  (pss_oneM (ps_retM (pe_ixM (pe_fz (pe_mcM T_Hall M_Hall__description_of (hr.mono (by decide)) (psT (takes_of rfl rfl rfl rfl)) (pe_fz (pe_varM (pv 0))) (pa_valA (pe_fz (pe_varM (pv 1))) pa_nilA))) (pe_fz pe_intM) (fun _ _ => rfl))))
end K05
namespace K05
open PySem PySem.Spec PyProof.Rows L2 Md

theorem ok_needed_marks {P : Program} {w : World} {K : PySem.W.Frag} {mg : Str → Option Value} {base : Heap} {C_Hall : Addr} (T_Hall : ClsF K mg "Hall" C_Hall ["locks", "descriptions", "kinds", "sorts"]) (M_Hall_guard_of : Mc P w K mg base 5 C_Hall "guard_of" 2 m_Hall_guard_of) (hd : DefAt K mg "needed_marks" s_needed_marks) (Z : Bz mg) : Fc P w K mg base 7 "needed_marks" 3 m_needed_marks :=
  fc_of (k := 6) hd sc_needed_marks (fun _ _ _ _ _ _ us hl => match us, hl with | [_, _, _], _ => rfl) (c := b_needed_marks) <| fun fA cdv A outer s H E hr =>
  (pss_consM (ps_ifM (pt_cmM (hu_of hr) .eq (pe_fz (pe_ixM (pe_fz (pe_varM (pv 2))) (pe_fz pe_intM) (fun _ _ => rfl))) (pe_fz pe_strM) (nomark _)) (pss_oneM (ps_retM (pe_lstM (pa_consM (pe_fz (pe_tupM (pa_consM (pe_fz pe_strM) (pa_consM (pe_fz (pe_ixM (pe_fz (pe_varM (pv 2))) (pe_fz pe_intM) (fun _ _ => rfl))) pa_nilM)))) (pa_consM (pe_fz (pe_tupM (pa_consM (pe_fz pe_strM) (pa_consM (pe_fz (pe_ixM (pe_fz (pe_varM (pv 2))) (pe_fz pe_intM) (fun _ _ => rfl))) pa_nilM)))) pa_nilM))))) pss_nilM)
  (pss_consM (ps_ifM (pt_cmM (hu_of hr) .eq (pe_fz (pe_ixM (pe_fz (pe_varM (pv 2))) (pe_fz pe_intM) (fun _ _ => rfl))) (pe_fz pe_strM) (nomark _)) (pss_oneM (ps_retM (pe_lstM (pa_consM (pe_fz (pe_tupM (pa_consM (pe_fz pe_strM) (pa_consM (pe_fz (pe_ixM (pe_fz (pe_varM (pv 2))) (pe_fz pe_intM) (fun _ _ => rfl))) pa_nilM)))) pa_nilM)))) pss_nilM)
  (pss_consM (ps_ifM (PW.pt (pw_andM (pt_cmM (hu_of hr) .eq (pe_fz (pe_ixM (pe_fz (pe_varM (pv 2))) (pe_fz pe_intM) (fun _ _ => rfl))) (pe_fz pe_strM) (nomark _)) (pw_andM (pt_cmM (hu_of hr) .nin (pe_fz (pe_ixM (pe_fz (pe_varM (pv 2))) (pe_fz pe_intM) (fun _ _ => rfl))) (pe_fz (pe_varM (pv 1))) (by rfl)) (pw_and1 (pt_notN (pe_fz (pe_mcM T_Hall M_Hall_guard_of (hr.mono (by decide)) (psT (takes_of rfl rfl rfl rfl)) (pe_fz (pe_varM (pv 0))) (pa_valA (pe_fz (pe_ixM (pe_fz (pe_varM (pv 2))) (pe_fz pe_intM) (fun _ _ => rfl))) pa_nilA)))))))) (pss_oneM (ps_retM (pe_lstM (pa_consM (pe_fz (pe_tupM (pa_consM (pe_fz pe_strM) (pa_consM (pe_fz (pe_mcM T_Hall M_Hall_guard_of (hr.mono (by decide)) (psT (takes_of rfl rfl rfl rfl)) (pe_fz (pe_varM (pv 0))) (pa_valA (pe_fz (pe_ixM (pe_fz (pe_varM (pv 2))) (pe_fz pe_intM) (fun _ _ => rfl))) pa_nilA))) pa_nilM)))) pa_nilM)))) pss_nilM)
  (pss_oneM (ps_retM (pe_lstM pa_nilM))))))
end K05
namespace K05
open PySem PySem.Spec PyProof.Rows L2 Md

theorem ok_parts_rule {P : Program} {w : World} {K : PySem.W.Frag} {mg : Str → Option Value} {base : Heap} {C_Hall : Addr} (T_Hall : ClsF K mg "Hall" C_Hall ["locks", "descriptions", "kinds", "sorts"]) (c__MOST_PLACES : GlbD K mg "_MOST_PLACES" d__MOST_PLACES) (G_all_marks : Fc P w K mg base 1 "all_marks" 2 m_all_marks) (G_is_mark : Fc P w K mg base 3 "is_mark" 1 m_is_mark) (G_is_name : Fc P w K mg base 1 "is_name" 1 m_is_name) (G_needed_marks : Fc P w K mg base 7 "needed_marks" 3 m_needed_marks) (hd : DefAt K mg "parts_rule" s_parts_rule) (Z : Bz mg) : Fc P w K mg base 9 "parts_rule" 3 m_parts_rule :=
  fc_of (k := 8) hd sc_parts_rule (fun _ _ _ _ _ _ us hl => match us, hl with | [_, _, _], _ => rfl) (c := b_parts_rule) <| fun fA cdv A outer s H E hr =>
  (pss_consM (ps_ifM (PW.pt (pw_orM (pt_notTM (pt_of (pe_fz (pe_all _ rfl (by rfl) Z.all (pe_fz (pe_lcM (own := [("place", 7)]) [7] rfl sc_parts_rule.nd (blkOk_by (N := ["hall", "places", "marks", "possible", "needed", "mark", "need", "place"]) (sc := defScope s_parts_rule) (by decide +kernel)) (pi_seqM (pe_fz (pe_varM (pv 1)))) (fun _ _ _ _ _ => (pg_nmM (i := 7) sc_parts_rule.nd rfl (.inl rfl))) (fun _ _ _ _ _ => pts_nilM) (fun _ _ _ _ _ => (pe_fz (pe_fcM G_is_name (hr.mono (by decide)) (by rfl) psF (pa_valA (pe_fz (pe_varM (pv 7))) pa_nilA)))))))) (by intro _; rfl))) (pw_or1 (pt_notTM (pt_of (pe_fz (pe_all _ rfl (by rfl) Z.all (pe_fz (pe_lcM (own := [("mark", 5)]) [5] rfl sc_parts_rule.nd (blkOk_by (N := ["hall", "places", "marks", "possible", "needed", "mark", "need", "place"]) (sc := defScope s_parts_rule) (by decide +kernel)) (pi_seqM (pe_fz (pe_varM (pv 2)))) (fun _ _ _ _ _ => (pg_nmM (i := 5) sc_parts_rule.nd rfl (.inl rfl))) (fun _ _ _ _ _ => pts_nilM) (fun _ _ _ _ _ => (pe_fz (pe_fcM G_is_mark (hr.mono (by decide)) (by rfl) psF (pa_valA (pe_fz (pe_varM (pv 5))) pa_nilA)))))))) (by intro _; rfl)))))) (pss_oneM (ps_retM pe_strM)) pss_nilM)
  (pss_consM (ps_ifM (pt_cmM (hu_of hr) .gt (pe_fz (pe_len _ (by rfl) Z.len (pe_fz (pe_varM (pv 1))))) (pe_fz (pe_glbM c__MOST_PLACES (by rfl))) (nomark _)) (pss_oneM (ps_retM pe_strM)) pss_nilM)
  (pss_consM (ps_setM (i := 3) sc_parts_rule.nd rfl (.inr rfl) (pe_fcM G_all_marks (hr.mono (by decide)) (by rfl) (psT (takes_of rfl rfl rfl rfl)) (pa_valA (pe_fz (pe_varM (pv 0))) (pa_valA (pe_fz (pe_varM (pv 1))) pa_nilA))))
  (pss_consM (ps_ifM (PW.pt (pw_orM (pt_of (pe_fz (pe_any _ rfl (by rfl) Z.any (pe_fz (pe_lcM (own := [("place", 7)]) [7] rfl sc_parts_rule.nd (blkOk_by (N := ["hall", "places", "marks", "possible", "needed", "mark", "need", "place"]) (sc := defScope s_parts_rule) (by decide +kernel)) (pi_seqM (pe_fz (pe_varM (pv 1)))) (fun _ _ _ _ _ => (pg_nmM (i := 7) sc_parts_rule.nd rfl (.inl rfl))) (fun _ _ _ _ _ => pts_nilM) (fun _ _ _ _ _ => (pe_fz (pe_cmM (hu_of hr) .nin (pe_fz (pe_varM (pv 7))) (pe_fz (pe_attM T_Hall.g T_Hall.cl (T_Hall.no "kinds" (by decide +kernel)) (pe_fz (pe_varM (pv 0))) rfl)) (by rfl)))))))) (by intro _; rfl)) (pw_or1 (pt_of (pe_fz (pe_any _ rfl (by rfl) Z.any (pe_fz (pe_lcM (own := [("mark", 5)]) [5] rfl sc_parts_rule.nd (blkOk_by (N := ["hall", "places", "marks", "possible", "needed", "mark", "need", "place"]) (sc := defScope s_parts_rule) (by decide +kernel)) (pi_seqM (pe_fz (pe_varM (pv 2)))) (fun _ _ _ _ _ => (pg_nmM (i := 5) sc_parts_rule.nd rfl (.inl rfl))) (fun _ _ _ _ _ => pts_nilM) (fun _ _ _ _ _ => (pe_fz (pe_cmM (hu_of hr) .nin (pe_fz (pe_varM (pv 5))) (pe_fz (pe_varM (pv 3))) (by rfl)))))))) (by intro _; rfl))))) (pss_oneM (ps_retM pe_strM)) pss_nilM)
  (pss_consM (ps_setLc2M (i := 4) (own := [("mark", 5), ("need", 6)]) (vs1 := [6]) [5] [6] rfl sc_parts_rule.nd rfl rfl (sw_true rfl rfl rfl (by decide +kernel)) (blkOk_by (N := ["hall", "places", "marks", "possible", "needed", "mark", "need", "place"]) (sc := defScope s_parts_rule) (by decide +kernel)) (pi_seqM (pe_fz (pe_varM (pv 2)))) (fun _ _ _ _ _ => (pg_nmM (i := 5) sc_parts_rule.nd rfl (.inl rfl))) (fun _ _ _ _ _ => pts_nilM) (fun _ _ _ _ _ => (pi_seqM (pe_fz (pe_fcM G_needed_marks (hr.mono (by decide)) (by rfl) psF (pa_valA (pe_fz (pe_varM (pv 0))) (pa_valA (pe_fz (pe_varM (pv 1))) (pa_valA (pe_fz (pe_varM (pv 5))) pa_nilA))))))) (fun _ _ _ _ _ => (pg_nmM (i := 6) sc_parts_rule.nd rfl (.inl rfl))) (fun _ _ _ _ _ => pts_nilM) (fun _ _ _ _ _ => (pe_fz (pe_varM (pv 6)))))
  (pss_oneM (ps_retM (pe_ifeM (pt_of (pe_fz (pe_any _ rfl (by rfl) Z.any (pe_fz (pe_lcM (own := [("need", 6)]) [6] rfl sc_parts_rule.nd (blkOk_by (N := ["hall", "places", "marks", "possible", "needed", "mark", "need", "place"]) (sc := defScope s_parts_rule) (by decide +kernel)) (pi_seqM (pe_fz (pe_varM (pv 4)))) (fun _ _ _ _ _ => (pg_nmM (i := 6) sc_parts_rule.nd rfl (.inl rfl))) (fun _ _ _ _ _ => pts_nilM) (fun _ _ _ _ _ => (pe_fz (pe_cmM (hu_of hr) .nin (pe_fz (pe_varM (pv 6))) (pe_fz (pe_varM (pv 2))) (by rfl)))))))) (by intro _; rfl)) (pe_fz pe_strM) (pe_fz pe_strM)))))))))
end K05
namespace K05
open PySem PySem.Spec PyProof.Rows L2 Md

theorem ok_mark_word {P : Program} {w : World} {K : PySem.W.Frag} {mg : Str → Option Value} {base : Heap}  (hd : DefAt K mg "mark_word" s_mark_word) (Z : Bz mg) : Fc P w K mg base 1 "mark_word" 1 m_mark_word :=
  fc_of (k := 0) hd sc_mark_word (fun _ _ _ _ _ _ us hl => match us, hl with | [_], _ => rfl) (c := b_mark_word) <| fun fA cdv A outer s H E hr =>
  (pss_consM (ps_ifM (pt_cmM (hu_of hr) .eq (pe_fz (pe_ixM (pe_fz (pe_varM (pv 0))) (pe_fz pe_intM) (fun _ _ => rfl))) (pe_fz pe_strM) (nomark _)) (pss_oneM (ps_retM (pe_binM (o := .add) (pe_fz pe_strM) (pe_fz (pe_ixM (pe_fz (pe_varM (pv 0))) (pe_fz pe_intM) (fun _ _ => rfl)))))) pss_nilM)
  (pss_consM (ps_ifM (pt_cmM (hu_of hr) .eq (pe_fz (pe_ixM (pe_fz (pe_varM (pv 0))) (pe_fz pe_intM) (fun _ _ => rfl))) (pe_fz pe_strM) (nomark _)) (pss_oneM (ps_retM (pe_binM (o := .add) (pe_fz (pe_binM (o := .add) (pe_fz (pe_ixM (pe_fz (pe_varM (pv 0))) (pe_fz pe_intM) (fun _ _ => rfl))) (pe_fz pe_strM))) (pe_fz (pe_ixM (pe_fz (pe_varM (pv 0))) (pe_fz pe_intM) (fun _ _ => rfl)))))) pss_nilM)
  (pss_consM (ps_ifM (pt_cmM (hu_of hr) .eq (pe_fz (pe_ixM (pe_fz (pe_varM (pv 0))) (pe_fz pe_intM) (fun _ _ => rfl))) (pe_fz pe_strM) (nomark _)) (pss_oneM (ps_retM (pe_binM (o := .add) (pe_fz (pe_binM (o := .add) (pe_fz (pe_ixM (pe_fz (pe_varM (pv 0))) (pe_fz pe_intM) (fun _ _ => rfl))) (pe_fz pe_strM))) (pe_fz (pe_ixM (pe_fz (pe_varM (pv 0))) (pe_fz pe_intM) (fun _ _ => rfl)))))) pss_nilM)
  (pss_oneM (ps_retM (pe_binM (o := .add) (pe_fz pe_strM) (pe_fz (pe_ixM (pe_fz (pe_varM (pv 0))) (pe_fz pe_intM) (fun _ _ => rfl)))))))))
end K05
namespace K05
open PySem PySem.Spec PyProof.Rows L2 Md

theorem ok_Signature_init {P : Program} {w : World} {K : PySem.W.Frag} {mg : Str → Option Value} {base : Heap} {C_Signature : Addr} (T_Signature : ClsF K mg "Signature" C_Signature ["hall", "places", "marks", "takes", "under", "writes", "gives", "shares", "is_giving"]) {E_BadPart : Addr} (X_BadPart : ErC P w K mg base "BadPart" E_BadPart fn_BadPart) (G_all_marks : Fc P w K mg base 1 "all_marks" 2 m_all_marks) (G_parts_rule : Fc P w K mg base 9 "parts_rule" 3 m_parts_rule) (hd : IniV K C_Signature "Signature.__init__" s_Signature_init) (Z : Bz mg) : MkV P w K mg base 11 C_Signature 2 ["marks"] m_Signature_init :=
  mkv_of (N := ["self", "hall", "marks", "places", "rule", "mark"]) (k := 10) (ps := ["self", "hall", "marks"]) (ks := ["marks"]) (nf := 2) hd sc_Signature_init rfl (fun _ _ _ _ _ _ us rest ws h1 h2 => match us, rest, ws, h1, h2 with | [_, _], [], [_], _, _ => rfl | [_, _], _ :: _, [_], _, _ => rfl) (c := b_Signature_init) <| fun fA cdv A outer s H E hr =>
  (pss_consM (ps_setM (i := 4) sc_Signature_init.nd rfl (.inl rfl) (pe_fcM G_parts_rule (hr.mono (by decide)) (by rfl) (psT (takes_of rfl rfl rfl rfl)) (pa_valA (pe_fz (pe_varM (pv 1))) (pa_valA (pe_fz (pe_varM (pv 3))) (pa_valA (pe_fz (pe_varM (pv 2))) pa_nilA)))))
  (pss_consM (ps_ifM (pt_of (pe_fz (pe_varM (pv 4))) (by intro _; rfl)) (pss_oneM (ps_raiseM X_BadPart (by decide) rfl (takes_of rfl rfl rfl rfl) (hr.mono (by decide)) (by rfl) (pa_consM (pe_fz (pe_varM (pv 4))) pa_nilM))) pss_nilM)
  (pss_consM (ps_putM T_Signature.g T_Signature.cl (T_Signature.no "hall" (by decide +kernel)) (pv 0) (pe_fz (pe_varM (pv 1))))
  (pss_consM (ps_putM T_Signature.g T_Signature.cl (T_Signature.no "places" (by decide +kernel)) (pv 0) (pe_fz (pe_varM (pv 3))))
  (pss_consM (ps_putM T_Signature.g T_Signature.cl (T_Signature.no "marks" (by decide +kernel)) (pv 0) (pe_fz (pe_tuple1 _ (by rfl) Z.tuple (pe_fz (pe_lcM (own := [("mark", 5)]) [5] rfl sc_Signature_init.nd (blkOk_by (N := ["self", "hall", "marks", "places", "rule", "mark"]) (sc := defScope s_Signature_init) (by decide +kernel)) (pi_seqM (pe_fz (pe_fcM G_all_marks (hr.mono (by decide)) (by rfl) (psT (takes_of rfl rfl rfl rfl)) (pa_valA (pe_fz (pe_varM (pv 1))) (pa_valA (pe_fz (pe_varM (pv 3))) pa_nilA))))) (fun _ _ _ _ _ => (pg_nmM (i := 5) sc_Signature_init.nd rfl (.inl rfl))) (fun _ _ _ _ _ => (pts_oneM (pt_cmM (hu_of hr) .inn (pe_fz (pe_varM (pv 5))) (pe_fz (pe_varM (pv 2))) (by rfl)))) (fun _ _ _ _ _ => (pe_fz (pe_varM (pv 5)))))))))
  (pss_consM (ps_putM T_Signature.g T_Signature.cl (T_Signature.no "takes" (by decide +kernel)) (pv 0) (pe_fz (pe_tuple1 _ (by rfl) Z.tuple (pe_fz (pe_lcM (own := [("mark", 5)]) [5] rfl sc_Signature_init.nd (blkOk_by (N := ["self", "hall", "marks", "places", "rule", "mark"]) (sc := defScope s_Signature_init) (by decide +kernel)) (pi_seqM (pe_fz (pe_atOM T_Signature.g T_Signature.cl (T_Signature.no "marks" (by decide +kernel)) (pv 0) rfl))) (fun _ _ _ _ _ => (pg_nmM (i := 5) sc_Signature_init.nd rfl (.inl rfl))) (fun _ _ _ _ _ => (pts_oneM (pt_cmM (hu_of hr) .eq (pe_fz (pe_ixM (pe_fz (pe_varM (pv 5))) (pe_fz pe_intM) (fun _ _ => rfl))) (pe_fz pe_strM) (nomark _)))) (fun _ _ _ _ _ => (pe_fz (pe_ixM (pe_fz (pe_varM (pv 5))) (pe_fz pe_intM) (fun _ _ => rfl)))))))))
  (pss_consM (ps_putM T_Signature.g T_Signature.cl (T_Signature.no "under" (by decide +kernel)) (pv 0) (pe_fz (pe_tuple1 _ (by rfl) Z.tuple (pe_fz (pe_lcM (own := [("mark", 5)]) [5] rfl sc_Signature_init.nd (blkOk_by (N := ["self", "hall", "marks", "places", "rule", "mark"]) (sc := defScope s_Signature_init) (by decide +kernel)) (pi_seqM (pe_fz (pe_atOM T_Signature.g T_Signature.cl (T_Signature.no "marks" (by decide +kernel)) (pv 0) rfl))) (fun _ _ _ _ _ => (pg_nmM (i := 5) sc_Signature_init.nd rfl (.inl rfl))) (fun _ _ _ _ _ => (pts_oneM (pt_cmM (hu_of hr) .eq (pe_fz (pe_ixM (pe_fz (pe_varM (pv 5))) (pe_fz pe_intM) (fun _ _ => rfl))) (pe_fz pe_strM) (nomark _)))) (fun _ _ _ _ _ => (pe_fz (pe_slM (pe_fz (pe_varM (pv 5))) (po_smM (pe_fz pe_intM)) po_noM))))))))
  (pss_consM (ps_putM T_Signature.g T_Signature.cl (T_Signature.no "writes" (by decide +kernel)) (pv 0) (pe_fz (pe_tuple1 _ (by rfl) Z.tuple (pe_fz (pe_lcM (own := [("mark", 5)]) [5] rfl sc_Signature_init.nd (blkOk_by (N := ["self", "hall", "marks", "places", "rule", "mark"]) (sc := defScope s_Signature_init) (by decide +kernel)) (pi_seqM (pe_fz (pe_atOM T_Signature.g T_Signature.cl (T_Signature.no "marks" (by decide +kernel)) (pv 0) rfl))) (fun _ _ _ _ _ => (pg_nmM (i := 5) sc_Signature_init.nd rfl (.inl rfl))) (fun _ _ _ _ _ => (pts_oneM (pt_cmM (hu_of hr) .eq (pe_fz (pe_ixM (pe_fz (pe_varM (pv 5))) (pe_fz pe_intM) (fun _ _ => rfl))) (pe_fz pe_strM) (nomark _)))) (fun _ _ _ _ _ => (pe_fz (pe_slM (pe_fz (pe_varM (pv 5))) (po_smM (pe_fz pe_intM)) po_noM))))))))
  (pss_consM (ps_putM T_Signature.g T_Signature.cl (T_Signature.no "gives" (by decide +kernel)) (pv 0) (pe_fz (pe_tuple1 _ (by rfl) Z.tuple (pe_fz (pe_lcM (own := [("mark", 5)]) [5] rfl sc_Signature_init.nd (blkOk_by (N := ["self", "hall", "marks", "places", "rule", "mark"]) (sc := defScope s_Signature_init) (by decide +kernel)) (pi_seqM (pe_fz (pe_atOM T_Signature.g T_Signature.cl (T_Signature.no "marks" (by decide +kernel)) (pv 0) rfl))) (fun _ _ _ _ _ => (pg_nmM (i := 5) sc_Signature_init.nd rfl (.inl rfl))) (fun _ _ _ _ _ => (pts_oneM (pt_cmM (hu_of hr) .eq (pe_fz (pe_ixM (pe_fz (pe_varM (pv 5))) (pe_fz pe_intM) (fun _ _ => rfl))) (pe_fz pe_strM) (nomark _)))) (fun _ _ _ _ _ => (pe_fz (pe_ixM (pe_fz (pe_varM (pv 5))) (pe_fz pe_intM) (fun _ _ => rfl)))))))))
  (pss_consM (ps_putM T_Signature.g T_Signature.cl (T_Signature.no "shares" (by decide +kernel)) (pv 0) (pe_fz (pe_tuple1 _ (by rfl) Z.tuple (pe_fz (pe_lcM (own := [("mark", 5)]) [5] rfl sc_Signature_init.nd (blkOk_by (N := ["self", "hall", "marks", "places", "rule", "mark"]) (sc := defScope s_Signature_init) (by decide +kernel)) (pi_seqM (pe_fz (pe_atOM T_Signature.g T_Signature.cl (T_Signature.no "marks" (by decide +kernel)) (pv 0) rfl))) (fun _ _ _ _ _ => (pg_nmM (i := 5) sc_Signature_init.nd rfl (.inl rfl))) (fun _ _ _ _ _ => (pts_oneM (pt_cmM (hu_of hr) .eq (pe_fz (pe_ixM (pe_fz (pe_varM (pv 5))) (pe_fz pe_intM) (fun _ _ => rfl))) (pe_fz pe_strM) (nomark _)))) (fun _ _ _ _ _ => (pe_fz (pe_ixM (pe_fz (pe_varM (pv 5))) (pe_fz pe_intM) (fun _ _ => rfl)))))))))
  (pss_oneM (ps_putM T_Signature.g T_Signature.cl (T_Signature.no "is_giving" (by decide +kernel)) (pv 0) (pe_fz (pe_cmM (hu_of hr) .gt (pe_fz (pe_len _ (by rfl) Z.len (pe_fz (pe_atOM T_Signature.g T_Signature.cl (T_Signature.no "gives" (by decide +kernel)) (pv 0) rfl)))) (pe_fz pe_intM) (nomark _)))))))))))))))
end K05
namespace K05
open PySem PySem.Spec PyProof.Rows L2 Md

theorem ok_Hall_eq {P : Program} {w : World} {K : PySem.W.Frag} {mg : Str → Option Value} {base : Heap} {C_Hall : Addr} (T_Hall : ClsF K mg "Hall" C_Hall ["locks", "descriptions", "kinds", "sorts"]) (I_Hall : IsiC K mg (.ref C_Hall) none isi_Hall) {C : Addr} (hd : MetAt K C "__eq__" "Hall.__eq__" s_Hall_eq) (Z : Bz mg) : Mc P w K mg base 1 C "__eq__" 2 m_Hall_eq :=
  mc_of (k := 0) hd sc_Hall_eq (fun _ _ _ _ _ _ us hl => match us, hl with | [_, _], _ => rfl) (c := b_Hall_eq) <| fun fA cdv A outer s H E hr =>
  (pss_oneM (ps_retM (pe_andM (pe_fz (pe_isiC I_Hall (by rfl) Z.isinstance (by rfl) T_Hall.g (pe_fz (pe_varM (pv 1))))) (pe_fz (pe_andM (pe_fz (pe_cmM (hu_of hr) .eq (pe_fz (pe_attM T_Hall.g T_Hall.cl (T_Hall.no "locks" (by decide +kernel)) (pe_fz (pe_varM (pv 0))) rfl)) (pe_fz (pe_attM T_Hall.g T_Hall.cl (T_Hall.no "locks" (by decide +kernel)) (pe_fz (pe_varM (pv 1))) rfl)) (nomark _))) (pe_one (pe_fz (pe_cmM (hu_of hr) .eq (pe_fz (pe_attM T_Hall.g T_Hall.cl (T_Hall.no "descriptions" (by decide +kernel)) (pe_fz (pe_varM (pv 0))) rfl)) (pe_fz (pe_attM T_Hall.g T_Hall.cl (T_Hall.no "descriptions" (by decide +kernel)) (pe_fz (pe_varM (pv 1))) rfl)) (nomark _)))))))))
end K05
namespace K05
open PySem PySem.Spec PyProof.Rows L2 Md

theorem ok_Signature_eq {P : Program} {w : World} {K : PySem.W.Frag} {mg : Str → Option Value} {base : Heap} {C_Hall : Addr} (T_Hall : ClsF K mg "Hall" C_Hall ["locks", "descriptions", "kinds", "sorts"]) {C_Signature : Addr} (T_Signature : ClsF K mg "Signature" C_Signature ["hall", "places", "marks", "takes", "under", "writes", "gives", "shares", "is_giving"]) (I_Signature : IsiC K mg (.ref C_Signature) none isi_Signature) (M_Hall___eq__ : Mc P w K mg base 1 C_Hall "__eq__" 2 m_Hall_eq) {C : Addr} (hd : MetAt K C "__eq__" "Signature.__eq__" s_Signature_eq) (Z : Bz mg) : Mc P w K mg base 3 C "__eq__" 2 m_Signature_eq :=
  mc_of (k := 2) hd sc_Signature_eq (fun _ _ _ _ _ _ us hl => match us, hl with | [_, _], _ => rfl) (c := b_Signature_eq) <| fun fA cdv A outer s H E hr =>
  (pss_consM (ps_ifM (pt_notTM (pt_of (pe_fz (pe_isiC I_Signature (by rfl) Z.isinstance (by rfl) T_Signature.g (pe_fz (pe_varM (pv 1))))) (by intro _; rfl))) (pss_oneM (ps_retM pe_blM)) pss_nilM)
  (pss_oneM (ps_retM (pe_andM (pe_fz (pe_eqO T_Hall M_Hall___eq__ (hr.mono (by decide)) (psT (takes_of rfl rfl rfl rfl)) (pe_fz (pe_attM T_Signature.g T_Signature.cl (T_Signature.no "hall" (by decide +kernel)) (pe_fz (pe_varM (pv 0))) rfl)) (pe_fz (pe_attM T_Signature.g T_Signature.cl (T_Signature.no "hall" (by decide +kernel)) (pe_fz (pe_varM (pv 1))) rfl)))) (pe_fz (pe_andM (pe_fz (pe_cmM (hu_of hr) .eq (pe_fz (pe_attM T_Signature.g T_Signature.cl (T_Signature.no "places" (by decide +kernel)) (pe_fz (pe_varM (pv 0))) rfl)) (pe_fz (pe_attM T_Signature.g T_Signature.cl (T_Signature.no "places" (by decide +kernel)) (pe_fz (pe_varM (pv 1))) rfl)) (nomark _))) (pe_one (pe_fz (pe_cmM (hu_of hr) .eq (pe_fz (pe_attM T_Signature.g T_Signature.cl (T_Signature.no "marks" (by decide +kernel)) (pe_fz (pe_varM (pv 0))) rfl)) (pe_fz (pe_attM T_Signature.g T_Signature.cl (T_Signature.no "marks" (by decide +kernel)) (pe_fz (pe_varM (pv 1))) rfl)) (nomark _))))))))))
end K05
namespace K05
open PySem PySem.Spec PyProof.Rows L2 Md

theorem ok_Signature_len {P : Program} {w : World} {K : PySem.W.Frag} {mg : Str → Option Value} {base : Heap} {C_Signature : Addr} (T_Signature : ClsF K mg "Signature" C_Signature ["hall", "places", "marks", "takes", "under", "writes", "gives", "shares", "is_giving"]) {C : Addr} (hd : MetAt K C "__len__" "Signature.__len__" s_Signature_len) (Z : Bz mg) : Mc P w K mg base 1 C "__len__" 1 m_Signature_len :=
  mc_of (k := 0) hd sc_Signature_len (fun _ _ _ _ _ _ us hl => match us, hl with | [_], _ => rfl) (c := b_Signature_len) <| fun fA cdv A outer s H E hr =>
  (pss_oneM (ps_retM (pe_len _ (by rfl) Z.len (pe_fz (pe_attM T_Signature.g T_Signature.cl (T_Signature.no "marks" (by decide +kernel)) (pe_fz (pe_varM (pv 0))) rfl)))))
end K05
namespace K05
open PySem PySem.Spec PyProof.Rows L2 Md

theorem ok_Signature_contains {P : Program} {w : World} {K : PySem.W.Frag} {mg : Str → Option Value} {base : Heap} {C_Signature : Addr} (T_Signature : ClsF K mg "Signature" C_Signature ["hall", "places", "marks", "takes", "under", "writes", "gives", "shares", "is_giving"]) (G_is_mark : Fc P w K mg base 3 "is_mark" 1 m_is_mark) {C : Addr} (hd : MetAt K C "__contains__" "Signature.__contains__" s_Signature_contains) (Z : Bz mg) : Mc P w K mg base 5 C "__contains__" 2 m_Signature_contains :=
  mc_of (k := 4) hd sc_Signature_contains (fun _ _ _ _ _ _ us hl => match us, hl with | [_, _], _ => rfl) (c := b_Signature_contains) <| fun fA cdv A outer s H E hr =>
  (pss_oneM (ps_retM (pe_andM (pe_fz (pe_fcM G_is_mark (hr.mono (by decide)) (by rfl) (psT (takes_of rfl rfl rfl rfl)) (pa_valA (pe_fz (pe_varM (pv 1))) pa_nilA))) (pe_one (pe_fz (pe_cmM (hu_of hr) .inn (pe_fz (pe_varM (pv 1))) (pe_fz (pe_attM T_Signature.g T_Signature.cl (T_Signature.no "marks" (by decide +kernel)) (pe_fz (pe_varM (pv 0))) rfl)) (by rfl)))))))
end K05
namespace K05
open PySem PySem.Spec PyProof.Rows L2 Md

theorem ok_Signature_alike {P : Program} {w : World} {K : PySem.W.Frag} {mg : Str → Option Value} {base : Heap} {C_Hall : Addr} (T_Hall : ClsF K mg "Hall" C_Hall ["locks", "descriptions", "kinds", "sorts"]) {C_Signature : Addr} (T_Signature : ClsF K mg "Signature" C_Signature ["hall", "places", "marks", "takes", "under", "writes", "gives", "shares", "is_giving"]) (M_Hall___eq__ : Mc P w K mg base 1 C_Hall "__eq__" 2 m_Hall_eq) {C : Addr} (hd : MetAt K C "alike" "Signature.alike" s_Signature_alike) (Z : Bz mg) : Mc P w K mg base 3 C "alike" 2 m_Signature_alike :=
  mc_of (k := 2) hd sc_Signature_alike (fun _ _ _ _ _ _ us hl => match us, hl with | [_, _], _ => rfl) (c := b_Signature_alike) <| fun fA cdv A outer s H E hr =>
  (pss_consM (ps_setM (i := 2) sc_Signature_alike.nd rfl (.inl rfl) (pe_andM (pe_fz (pe_eqO T_Hall M_Hall___eq__ (hr.mono (by decide)) (psT (takes_of rfl rfl rfl rfl)) (pe_fz (pe_attM T_Signature.g T_Signature.cl (T_Signature.no "hall" (by decide +kernel)) (pe_fz (pe_varM (pv 0))) rfl)) (pe_fz (pe_attM T_Signature.g T_Signature.cl (T_Signature.no "hall" (by decide +kernel)) (pe_fz (pe_varM (pv 1))) rfl)))) (pe_one (pe_fz (pe_cmM (hu_of hr) .eq (pe_fz (pe_attM T_Signature.g T_Signature.cl (T_Signature.no "places" (by decide +kernel)) (pe_fz (pe_varM (pv 0))) rfl)) (pe_fz (pe_attM T_Signature.g T_Signature.cl (T_Signature.no "places" (by decide +kernel)) (pe_fz (pe_varM (pv 1))) rfl)) (nomark _))))))
  (pss_oneM (ps_retM (pe_andM (pe_fz (pe_varM (pv 2))) (pe_one (pe_fz (pe_cmM (hu_of hr) .eq (pe_fz (pe_attM T_Signature.g T_Signature.cl (T_Signature.no "is_giving" (by decide +kernel)) (pe_fz (pe_varM (pv 0))) rfl)) (pe_fz (pe_attM T_Signature.g T_Signature.cl (T_Signature.no "is_giving" (by decide +kernel)) (pe_fz (pe_varM (pv 1))) rfl)) (nomark _))))))))
end K05
namespace K05
open PySem PySem.Spec PyProof.Rows L2 Md

theorem ok_Signature_or {P : Program} {w : World} {K : PySem.W.Frag} {mg : Str → Option Value} {base : Heap} {C_Signature : Addr} (T_Signature : ClsF K mg "Signature" C_Signature ["hall", "places", "marks", "takes", "under", "writes", "gives", "shares", "is_giving"]) {E_Unlike : Addr} (X_Unlike : ErC P w K mg base "Unlike" E_Unlike fn_Unlike) (K_Signature : MkV P w K mg base 11 C_Signature 2 ["marks"] m_Signature_init) (M_Signature_alike : Mc P w K mg base 3 C_Signature "alike" 2 m_Signature_alike) {C : Addr} (hd : MetAt K C "__or__" "Signature.__or__" s_Signature_or) (Z : Bz mg) : Mc P w K mg base 14 C "__or__" 2 m_Signature_or :=
  mc_of (k := 13) hd sc_Signature_or (fun _ _ _ _ _ _ us hl => match us, hl with | [_, _], _ => rfl) (c := b_Signature_or) <| fun fA cdv A outer s H E hr =>
  (pss_consM (ps_ifM (pt_notTM (pt_of (pe_fz (pe_mcM T_Signature M_Signature_alike (hr.mono (by decide)) (psT (takes_of rfl rfl rfl rfl)) (pe_fz (pe_varM (pv 0))) (pa_valA (pe_fz (pe_varM (pv 1))) pa_nilA))) (by intro _; rfl))) (pss_oneM (ps_raise0M X_Unlike rfl (takes_of rfl rfl rfl rfl) (hr.mono (by decide)) (by rfl))) pss_nilM)
  (pss_consM (ps_setM (i := 2) sc_Signature_or.nd rfl (.inl rfl) (pe_binM (o := .add) (pe_fz (pe_attM T_Signature.g T_Signature.cl (T_Signature.no "marks" (by decide +kernel)) (pe_fz (pe_varM (pv 0))) rfl)) (pe_fz (pe_attM T_Signature.g T_Signature.cl (T_Signature.no "marks" (by decide +kernel)) (pe_fz (pe_varM (pv 1))) rfl))))
  (pss_oneM (ps_retM (pe_mkVS (ks := ["marks"]) T_Signature K_Signature (hr.mono (by decide)) (by rfl) (psT (takes_of rfl rfl rfl rfl)) (pa_valA (pe_fz (pe_attM T_Signature.g T_Signature.cl (T_Signature.no "hall" (by decide +kernel)) (pe_fz (pe_varM (pv 0))) rfl)) (pa_starA (pe_fz (pe_attM T_Signature.g T_Signature.cl (T_Signature.no "places" (by decide +kernel)) (pe_fz (pe_varM (pv 0))) rfl)) pa_nilA)) (pk_consM (pe_fz (pe_varM (pv 2))) pk_nilM))))))
end K05
namespace K05
open PySem PySem.Spec PyProof.Rows L2 Md

theorem ok_Signature_kept_to {P : Program} {w : World} {K : PySem.W.Frag} {mg : Str → Option Value} {base : Heap} {C_Signature : Addr} (T_Signature : ClsF K mg "Signature" C_Signature ["hall", "places", "marks", "takes", "under", "writes", "gives", "shares", "is_giving"]) {E_Unlike : Addr} (X_Unlike : ErC P w K mg base "Unlike" E_Unlike fn_Unlike) (K_Signature : MkV P w K mg base 11 C_Signature 2 ["marks"] m_Signature_init) {C : Addr} (hd : MetAt K C "_kept_to" "Signature._kept_to" s_Signature_kept_to) (Z : Bz mg) : Mc P w K mg base 14 C "_kept_to" 2 m_Signature_kept_to :=
  mc_of (k := 13) hd sc_Signature_kept_to (fun _ _ _ _ _ _ us hl => match us, hl with | [_, _], _ => rfl) (c := b_Signature_kept_to) <| fun fA cdv A outer s H E hr =>
  (pss_consM (ps_ifM (PW.pt (pw_andM (pt_of (pe_fz (pe_attM T_Signature.g T_Signature.cl (T_Signature.no "is_giving" (by decide +kernel)) (pe_fz (pe_varM (pv 0))) rfl)) (by intro _; rfl)) (pw_and1 (pt_notTM (pt_of (pe_fz (pe_any _ rfl (by rfl) Z.any (pe_fz (pe_lcM (own := [("mark", 2)]) [2] rfl sc_Signature_kept_to.nd (blkOk_by (N := ["self", "marks", "mark"]) (sc := defScope s_Signature_kept_to) (by decide +kernel)) (pi_seqM (pe_fz (pe_varM (pv 1)))) (fun _ _ _ _ _ => (pg_nmM (i := 2) sc_Signature_kept_to.nd rfl (.inl rfl))) (fun _ _ _ _ _ => pts_nilM) (fun _ _ _ _ _ => (pe_fz (pe_cmM (hu_of hr) .eq (pe_fz (pe_ixM (pe_fz (pe_varM (pv 2))) (pe_fz pe_intM) (fun _ _ => rfl))) (pe_fz pe_strM) (nomark _)))))))) (by intro _; rfl)))))) (pss_oneM (ps_raise0M X_Unlike rfl (takes_of rfl rfl rfl rfl) (hr.mono (by decide)) (by rfl))) pss_nilM)
  (pss_oneM (ps_retM (pe_mkVS (ks := ["marks"]) T_Signature K_Signature (hr.mono (by decide)) (by rfl) (psT (takes_of rfl rfl rfl rfl)) (pa_valA (pe_fz (pe_attM T_Signature.g T_Signature.cl (T_Signature.no "hall" (by decide +kernel)) (pe_fz (pe_varM (pv 0))) rfl)) (pa_starA (pe_fz (pe_attM T_Signature.g T_Signature.cl (T_Signature.no "places" (by decide +kernel)) (pe_fz (pe_varM (pv 0))) rfl)) pa_nilA)) (pk_consM (pe_fz (pe_varM (pv 1))) pk_nilM)))))
end K05
namespace K05
open PySem PySem.Spec PyProof.Rows L2 Md

theorem ok_Signature_and {P : Program} {w : World} {K : PySem.W.Frag} {mg : Str → Option Value} {base : Heap} {C_Signature : Addr} (T_Signature : ClsF K mg "Signature" C_Signature ["hall", "places", "marks", "takes", "under", "writes", "gives", "shares", "is_giving"]) {E_Unlike : Addr} (X_Unlike : ErC P w K mg base "Unlike" E_Unlike fn_Unlike) (M_Signature__kept_to : Mc P w K mg base 14 C_Signature "_kept_to" 2 m_Signature_kept_to) (M_Signature_alike : Mc P w K mg base 3 C_Signature "alike" 2 m_Signature_alike) {C : Addr} (hd : MetAt K C "__and__" "Signature.__and__" s_Signature_and) (Z : Bz mg) : Mc P w K mg base 16 C "__and__" 2 m_Signature_and :=
  mc_of (k := 15) hd sc_Signature_and (fun _ _ _ _ _ _ us hl => match us, hl with | [_, _], _ => rfl) (c := b_Signature_and) <| fun fA cdv A outer s H E hr =>
  (pss_consM (ps_ifM (pt_notTM (pt_of (pe_fz (pe_mcM T_Signature M_Signature_alike (hr.mono (by decide)) (psT (takes_of rfl rfl rfl rfl)) (pe_fz (pe_varM (pv 0))) (pa_valA (pe_fz (pe_varM (pv 1))) pa_nilA))) (by intro _; rfl))) (pss_oneM (ps_raise0M X_Unlike rfl (takes_of rfl rfl rfl rfl) (hr.mono (by decide)) (by rfl))) pss_nilM)
  (pss_oneM (ps_retM (pe_mcM T_Signature M_Signature__kept_to (hr.mono (by decide)) (psT (takes_of rfl rfl rfl rfl)) (pe_fz (pe_varM (pv 0))) (pa_valA (pe_fz (pe_lcM (own := [("mark", 2)]) [2] rfl sc_Signature_and.nd (blkOk_by (N := ["self", "other", "mark"]) (sc := defScope s_Signature_and) (by decide +kernel)) (pi_seqM (pe_fz (pe_attM T_Signature.g T_Signature.cl (T_Signature.no "marks" (by decide +kernel)) (pe_fz (pe_varM (pv 0))) rfl))) (fun _ _ _ _ _ => (pg_nmM (i := 2) sc_Signature_and.nd rfl (.inl rfl))) (fun _ _ _ _ _ => (pts_oneM (pt_cmM (hu_of hr) .inn (pe_fz (pe_varM (pv 2))) (pe_fz (pe_attM T_Signature.g T_Signature.cl (T_Signature.no "marks" (by decide +kernel)) (pe_fz (pe_varM (pv 1))) rfl)) (by rfl)))) (fun _ _ _ _ _ => (pe_fz (pe_varM (pv 2)))))) pa_nilA)))))
end K05
namespace K05
open PySem PySem.Spec PyProof.Rows L2 Md

theorem ok_Signature_sub {P : Program} {w : World} {K : PySem.W.Frag} {mg : Str → Option Value} {base : Heap} {C_Signature : Addr} (T_Signature : ClsF K mg "Signature" C_Signature ["hall", "places", "marks", "takes", "under", "writes", "gives", "shares", "is_giving"]) {E_NoSuch : Addr} (X_NoSuch : ErC P w K mg base "NoSuch" E_NoSuch fn_NoSuch) (G_needed_marks : Fc P w K mg base 7 "needed_marks" 3 m_needed_marks) (M_Signature___contains__ : Mc P w K mg base 5 C_Signature "__contains__" 2 m_Signature_contains) (M_Signature__kept_to : Mc P w K mg base 14 C_Signature "_kept_to" 2 m_Signature_kept_to) {C : Addr} (hd : MetAt K C "__sub__" "Signature.__sub__" s_Signature_sub) (Z : Bz mg) : Mc P w K mg base 16 C "__sub__" 2 m_Signature_sub :=
  mc_of (k := 15) hd sc_Signature_sub (fun _ _ _ _ _ _ us hl => match us, hl with | [_, _], _ => rfl) (c := b_Signature_sub) <| fun fA cdv A outer s H E hr =>
  (pss_consM (ps_ifM (pt_ninO T_Signature M_Signature___contains__ (hr.mono (by decide)) (psT (takes_of rfl rfl rfl rfl)) (pe_fz (pe_varM (pv 1))) (pe_fz (pe_varM (pv 0))) (by rfl)) (pss_oneM (ps_raiseM X_NoSuch (by decide) rfl (takes_of rfl rfl rfl rfl) (hr.mono (by decide)) (by rfl) (pa_consM (pe_fz (pe_varM (pv 1))) pa_nilM))) pss_nilM)
  (pss_consM (ps_setLcM (i := 2) (own := [("one", 3)]) [3] rfl sc_Signature_sub.nd rfl rfl (sw_true rfl rfl rfl (by decide +kernel)) (blkOk_by (N := ["self", "mark", "others", "one"]) (sc := defScope s_Signature_sub) (by decide +kernel)) (pi_seqM (pe_fz (pe_attM T_Signature.g T_Signature.cl (T_Signature.no "marks" (by decide +kernel)) (pe_fz (pe_varM (pv 0))) rfl))) (fun _ _ _ _ _ => (pg_nmM (i := 3) sc_Signature_sub.nd rfl (.inl rfl))) (fun _ _ _ _ _ => (pts_oneM (pt_cmM (hu_of hr) .ne (pe_fz (pe_varM (pv 3))) (pe_fz (pe_varM (pv 1))) (nomark _)))) (fun _ _ _ _ _ => (pe_fz (pe_varM (pv 3)))))
  (pss_oneM (ps_retM (pe_mcM T_Signature M_Signature__kept_to (hr.mono (by decide)) (psT (takes_of rfl rfl rfl rfl)) (pe_fz (pe_varM (pv 0))) (pa_valA (pe_fz (pe_lcM (own := [("one", 3)]) [3] rfl sc_Signature_sub.nd (blkOk_by (N := ["self", "mark", "others", "one"]) (sc := defScope s_Signature_sub) (by decide +kernel)) (pi_seqM (pe_fz (pe_varM (pv 2)))) (fun _ _ _ _ _ => (pg_nmM (i := 3) sc_Signature_sub.nd rfl (.inl rfl))) (fun _ _ _ _ _ => (pts_oneM (pt_cmM (hu_of hr) .nin (pe_fz (pe_varM (pv 1))) (pe_fz (pe_fcM G_needed_marks (hr.mono (by decide)) (by rfl) psF (pa_valA (pe_fz (pe_attM T_Signature.g T_Signature.cl (T_Signature.no "hall" (by decide +kernel)) (pe_fz (pe_varM (pv 0))) rfl)) (pa_valA (pe_fz (pe_attM T_Signature.g T_Signature.cl (T_Signature.no "places" (by decide +kernel)) (pe_fz (pe_varM (pv 0))) rfl)) (pa_valA (pe_fz (pe_varM (pv 3))) pa_nilA))))) (by rfl)))) (fun _ _ _ _ _ => (pe_fz (pe_varM (pv 3)))))) pa_nilA))))))
end K05
namespace K05
open PySem PySem.Spec PyProof.Rows L2 Md

theorem ok_Signature_within {P : Program} {w : World} {K : PySem.W.Frag} {mg : Str → Option Value} {base : Heap} {C_Signature : Addr} (T_Signature : ClsF K mg "Signature" C_Signature ["hall", "places", "marks", "takes", "under", "writes", "gives", "shares", "is_giving"]) (M_Signature_alike : Mc P w K mg base 3 C_Signature "alike" 2 m_Signature_alike) {C : Addr} (hd : MetAt K C "within" "Signature.within" s_Signature_within) (Z : Bz mg) : Mc P w K mg base 5 C "within" 2 m_Signature_within :=
  mc_of (k := 4) hd sc_Signature_within (fun _ _ _ _ _ _ us hl => match us, hl with | [_, _], _ => rfl) (c := b_Signature_within) <| fun fA cdv A outer s H E hr =>
  (pss_oneM (ps_retM (pe_andM (pe_fz (pe_mcM T_Signature M_Signature_alike (hr.mono (by decide)) (psT (takes_of rfl rfl rfl rfl)) (pe_fz (pe_varM (pv 0))) (pa_valA (pe_fz (pe_varM (pv 1))) pa_nilA))) (pe_one (pe_fz (pe_all _ rfl (by rfl) Z.all (pe_fz (pe_lcM (own := [("mark", 2)]) [2] rfl sc_Signature_within.nd (blkOk_by (N := ["self", "other", "mark"]) (sc := defScope s_Signature_within) (by decide +kernel)) (pi_seqM (pe_fz (pe_attM T_Signature.g T_Signature.cl (T_Signature.no "marks" (by decide +kernel)) (pe_fz (pe_varM (pv 0))) rfl))) (fun _ _ _ _ _ => (pg_nmM (i := 2) sc_Signature_within.nd rfl (.inl rfl))) (fun _ _ _ _ _ => pts_nilM) (fun _ _ _ _ _ => (pe_fz (pe_cmM (hu_of hr) .inn (pe_fz (pe_varM (pv 2))) (pe_fz (pe_attM T_Signature.g T_Signature.cl (T_Signature.no "marks" (by decide +kernel)) (pe_fz (pe_varM (pv 1))) rfl)) (by rfl))))))))))))
end K05
namespace K05
open PySem PySem.Spec PyProof.Rows L2 Md

theorem ok_is_description {P : Program} {w : World} {K : PySem.W.Frag} {mg : Str → Option Value} {base : Heap} (G_is_name : Fc P w K mg base 1 "is_name" 1 m_is_name) (I_tuple : IsiC K mg (.type "tuple") (some "tuple") isiOwn) (hd : DefAt K mg "is_description" s_is_description) (Z : Bz mg) : Fc P w K mg base 3 "is_description" 1 m_is_description :=
  fc_of (k := 2) hd sc_is_description (fun _ _ _ _ _ _ us hl => match us, hl with | [_], _ => rfl) (c := b_is_description) <| fun fA cdv A outer s H E hr =>
  (pss_consM (ps_ifM (PW.pt (pw_orM (pt_notTM (pt_of (pe_fz (pe_isiT I_tuple (by rfl) Z.isinstance (by rfl) Z.tuple (by decide +kernel) (pe_fz (pe_varM (pv 0))))) (by intro _; rfl))) (pw_or1 (pt_cmM (hu_of hr) .nin (pe_fz (pe_len _ (by rfl) Z.len (pe_fz (pe_varM (pv 0))))) (pe_fz (pe_tupM (pa_consM (pe_fz pe_intM) (pa_consM (pe_fz pe_intM) pa_nilM)))) (by rfl))))) (pss_oneM (ps_retM pe_blM)) pss_nilM)
  (pss_consM (ps_ifM (PW.pt (pw_andM (pt_notN (pe_fz (pe_ixM (pe_fz (pe_varM (pv 0))) (pe_fz pe_intM) (fun _ _ => rfl)))) (pw_and1 (pt_notTM (pt_of (pe_fz (pe_fcM G_is_name (hr.mono (by decide)) (by rfl) (psT (takes_of rfl rfl rfl rfl)) (pa_valA (pe_fz (pe_ixM (pe_fz (pe_varM (pv 0))) (pe_fz pe_intM) (fun _ _ => rfl))) pa_nilA))) (by intro _; rfl)))))) (pss_oneM (ps_retM pe_blM)) pss_nilM)
  (pss_oneM (ps_retM (pe_andM (pe_fz (pe_fcM G_is_name (hr.mono (by decide)) (by rfl) (psT (takes_of rfl rfl rfl rfl)) (pa_valA (pe_fz (pe_ixM (pe_fz (pe_varM (pv 0))) (pe_fz pe_intM) (fun _ _ => rfl))) pa_nilA))) (pe_one (pe_fz (pe_all _ rfl (by rfl) Z.all (pe_fz (pe_lcM (own := [("field", 1)]) [1] rfl sc_is_description.nd (blkOk_by (N := ["value", "field"]) (sc := defScope s_is_description) (by decide +kernel)) (pi_seqM (pe_fz (pe_slM (pe_fz (pe_varM (pv 0))) (po_smM (pe_fz pe_intM)) po_noM))) (fun _ _ _ _ _ => (pg_nmM (i := 1) sc_is_description.nd rfl (.inl rfl))) (fun _ _ _ _ _ => pts_nilM) (fun _ _ _ _ _ => (pe_fz (pe_fcM G_is_name (hr.mono (by decide)) (by rfl) psF (pa_valA (pe_fz (pe_varM (pv 1))) pa_nilA))))))))))))))
end K05
namespace K05
open PySem PySem.Spec PyProof.Rows L2 Md

theorem ok_lock_rule {P : Program} {w : World} {K : PySem.W.Frag} {mg : Str → Option Value} {base : Heap} (c__MOST_LOCKS : GlbD K mg "_MOST_LOCKS" d__MOST_LOCKS) (G_is_name : Fc P w K mg base 1 "is_name" 1 m_is_name) (hd : DefAt K mg "lock_rule" s_lock_rule) (Z : Bz mg) : Fc P w K mg base 3 "lock_rule" 2 m_lock_rule :=
  fc_of (k := 2) hd sc_lock_rule (fun _ _ _ _ _ _ us hl => match us, hl with | [_, _], _ => rfl) (c := b_lock_rule) <| fun fA cdv A outer s H E hr =>
  (pss_consM (ps_ifM (pt_notTM (pt_of (pe_fz (pe_fcM G_is_name (hr.mono (by decide)) (by rfl) (psT (takes_of rfl rfl rfl rfl)) (pa_valA (pe_fz (pe_varM (pv 0))) pa_nilA))) (by intro _; rfl))) (pss_oneM (ps_retM pe_strM)) pss_nilM)
  (pss_consM (ps_ifM (pt_cmM (hu_of hr) .ge (pe_fz (pe_len _ (by rfl) Z.len (pe_fz (pe_varM (pv 1))))) (pe_fz (pe_glbM c__MOST_LOCKS (by rfl))) (nomark _)) (pss_oneM (ps_retM pe_strM)) pss_nilM)
  (pss_oneM (ps_retM (pe_ifeM (pt_cmM (hu_of hr) .inn (pe_fz (pe_varM (pv 0))) (pe_fz (pe_varM (pv 1))) (by rfl)) (pe_fz pe_strM) (pe_fz pe_strM))))))
end K05
namespace K05
open PySem PySem.Spec PyProof.Rows L2 Md

theorem ok_kind_rule {P : Program} {w : World} {K : PySem.W.Frag} {mg : Str → Option Value} {base : Heap} (c__MOST_KINDS : GlbD K mg "_MOST_KINDS" d__MOST_KINDS) (G_has_repeat : Fc P w K mg base 1 "has_repeat" 1 m_has_repeat) (G_is_description : Fc P w K mg base 3 "is_description" 1 m_is_description) (hd : DefAt K mg "kind_rule" s_kind_rule) (Z : Bz mg) : Fc P w K mg base 5 "kind_rule" 3 m_kind_rule :=
  fc_of (k := 4) hd sc_kind_rule (fun _ _ _ _ _ _ us hl => match us, hl with | [_, _, _], _ => rfl) (c := b_kind_rule) <| fun fA cdv A outer s H E hr =>
  (pss_consM (ps_ifM (pt_notTM (pt_of (pe_fz (pe_fcM G_is_description (hr.mono (by decide)) (by rfl) (psT (takes_of rfl rfl rfl rfl)) (pa_valA (pe_fz (pe_varM (pv 0))) pa_nilA))) (by intro _; rfl))) (pss_oneM (ps_retM pe_strM)) pss_nilM)
  (pss_consM (ps_ifM (pt_cmM (hu_of hr) .ge (pe_fz (pe_len _ (by rfl) Z.len (pe_fz (pe_varM (pv 2))))) (pe_fz (pe_glbM c__MOST_KINDS (by rfl))) (nomark _)) (pss_oneM (ps_retM pe_strM)) pss_nilM)
  (pss_consM (ps_ifM (PW.pt (pw_orM (pt_cmM (hu_of hr) .inn (pe_fz (pe_ixM (pe_fz (pe_varM (pv 0))) (pe_fz pe_intM) (fun _ _ => rfl))) (pe_fz (pe_varM (pv 1))) (by rfl)) (pw_orM (pt_cmM (hu_of hr) .inn (pe_fz (pe_ixM (pe_fz (pe_varM (pv 0))) (pe_fz pe_intM) (fun _ _ => rfl))) (pe_fz (pe_varM (pv 2))) (by rfl)) (pw_or1 (pt_of (pe_fz (pe_fcM G_has_repeat (hr.mono (by decide)) (by rfl) (psT (takes_of rfl rfl rfl rfl)) (pa_valA (pe_fz (pe_slM (pe_fz (pe_varM (pv 0))) (po_smM (pe_fz pe_intM)) po_noM)) pa_nilA))) (by intro _; rfl)))))) (pss_oneM (ps_retM pe_strM)) pss_nilM)
  (pss_consM (ps_ifM (PW.pt (pw_andM (pt_notN (pe_fz (pe_ixM (pe_fz (pe_varM (pv 0))) (pe_fz pe_intM) (fun _ _ => rfl)))) (pw_and1 (pt_cmM (hu_of hr) .nin (pe_fz (pe_ixM (pe_fz (pe_varM (pv 0))) (pe_fz pe_intM) (fun _ _ => rfl))) (pe_fz (pe_varM (pv 1))) (by rfl))))) (pss_oneM (ps_retM pe_strM)) pss_nilM)
  (pss_oneM (ps_retM pe_strM))))))
end K05
namespace K05
open PySem PySem.Spec PyProof.Rows L2 Md

theorem ok_hall_fault {P : Program} {w : World} {K : PySem.W.Frag} {mg : Str → Option Value} {base : Heap} (G_kind_rule : Fc P w K mg base 5 "kind_rule" 3 m_kind_rule) (G_lock_rule : Fc P w K mg base 3 "lock_rule" 2 m_lock_rule) (hd : DefAt K mg "hall_fault" s_hall_fault) (Z : Bz mg) : Fc P w K mg base 7 "hall_fault" 2 m_hall_fault :=
  fc_of (k := 6) hd sc_hall_fault (fun _ _ _ _ _ _ us hl => match us, hl with | [_, _], _ => rfl) (c := b_hall_fault) <| fun fA cdv A outer s H E hr =>
  (pss_consM (ps_forM (passes_of rfl) rfl (pi_enuM (by rfl) Z.enumerate (pe_fz (pe_varM (pv 0)))) (pg_tupM (n := 2) rfl (pgs_consM (pg_nmM (i := 2) sc_hall_fault.nd rfl (.inl rfl)) (pgs_consM (pg_nmM (i := 3) sc_hall_fault.nd rfl (.inl rfl)) pgs_nilM))) (pss_consM (ps_setM (i := 4) sc_hall_fault.nd rfl (.inl rfl) (pe_fcM G_lock_rule (hr.mono (by decide)) (by rfl) (psT (takes_of rfl rfl rfl rfl)) (pa_valA (pe_fz (pe_varM (pv 3))) (pa_valA (pe_fz (pe_slM (pe_fz (pe_varM (pv 0))) po_noM (po_smM (pe_fz (pe_varM (pv 2)))))) pa_nilA))))
  (pss_oneM (ps_ifM (pt_of (pe_fz (pe_varM (pv 4))) (by intro _; rfl)) (pss_oneM (ps_retM (pe_tupM (pa_consM (pe_fz (pe_binM (o := .add) (pe_fz (pe_varM (pv 2))) (pe_fz pe_intM))) (pa_consM (pe_fz (pe_varM (pv 4))) pa_nilM))))) pss_nilM))))
  (pss_consM (ps_setM (i := 5) sc_hall_fault.nd rfl (.inl rfl) (pe_lstM pa_nilM))
  (pss_consM (ps_forM (passes_of rfl) rfl (pi_enuM (by rfl) Z.enumerate (pe_fz (pe_varM (pv 1)))) (pg_tupM (n := 2) rfl (pgs_consM (pg_nmM (i := 2) sc_hall_fault.nd rfl (.inl rfl)) (pgs_consM (pg_nmM (i := 6) sc_hall_fault.nd rfl (.inl rfl)) pgs_nilM))) (pss_consM (ps_setM (i := 4) sc_hall_fault.nd rfl (.inl rfl) (pe_borM (pe_fcM G_kind_rule (hr.mono (by decide)) (by rfl) psF (pa_valA (pe_fz (pe_varM (pv 6))) (pa_valA (pe_fz (pe_varM (pv 0))) (pa_valA (pe_fz (pe_varM (pv 5))) pa_nilA))))))
  (pss_consM (ps_ifM (pt_of (pe_fz (pe_varM (pv 4))) (by intro _; rfl)) (pss_oneM (ps_retM (pe_tupM (pa_consM (pe_fz (pe_binM (o := .add) (pe_fz (pe_binM (o := .add) (pe_fz (pe_len _ (by rfl) Z.len (pe_fz (pe_varM (pv 0))))) (pe_fz (pe_varM (pv 2))))) (pe_fz pe_intM))) (pa_consM (pe_fz (pe_varM (pv 4))) pa_nilM))))) pss_nilM)
  (pss_oneM (ps_exM (pe_appM (pv 5) (pe_fz (pe_ixM (pe_fz (pe_varM (pv 6))) (pe_fz pe_intM) (fun _ _ => rfl)))))))))
  (pss_oneM (ps_retM (pe_ifeM (pt_of (pe_fz (pe_varM (pv 5))) (by intro _; rfl)) (pe_fz pe_nonM) (pe_fz (pe_tupM (pa_consM (pe_fz (pe_binM (o := .add) (pe_fz (pe_len _ (by rfl) Z.len (pe_fz (pe_varM (pv 0))))) (pe_fz pe_intM))) (pa_consM (pe_fz pe_strM) pa_nilM))))))))))
end K05
namespace K05
open PySem PySem.Spec PyProof.Rows L2 Md

theorem ok_Hall_init {P : Program} {w : World} {K : PySem.W.Frag} {mg : Str → Option Value} {base : Heap} {C_Hall : Addr} (T_Hall : ClsF K mg "Hall" C_Hall ["locks", "descriptions", "kinds", "sorts"]) {E_BadLine : Addr} (X_BadLine : ErC P w K mg base "BadLine" E_BadLine fn_BadLine) (G_hall_fault : Fc P w K mg base 7 "hall_fault" 2 m_hall_fault) (hd : IniV K C_Hall "Hall.__init__" s_Hall_init) (Z : Bz mg) : MkV P w K mg base 9 C_Hall 2 [] m_Hall_init :=
  mkv_of (N := ["self", "locks", "descriptions", "fault", "line", "rule", "description", "row", "field"]) (k := 8) (ps := ["self", "locks"]) (ks := []) (nf := 2) hd sc_Hall_init rfl (fun _ _ _ _ _ _ us rest ws h1 h2 => match us, rest, ws, h1, h2 with | [_, _], [], [], _, _ => rfl | [_, _], _ :: _, [], _, _ => rfl) (c := b_Hall_init) <| fun fA cdv A outer s H E hr =>
  (pss_consM (ps_setM (i := 3) sc_Hall_init.nd rfl (.inl rfl) (pe_fcM G_hall_fault (hr.mono (by decide)) (by rfl) (psT (takes_of rfl rfl rfl rfl)) (pa_valA (pe_fz (pe_tuple1 _ (by rfl) Z.tuple (pe_fz (pe_varM (pv 1))))) (pa_valA (pe_fz (pe_varM (pv 2))) pa_nilA))))
  (pss_consM (ps_ifM (pt_notN (pe_fz (pe_varM (pv 3)))) (pss_consM (ps_asgM (pe_fz (pe_varM (pv 3))) (pg_tupM (n := 2) rfl (pgs_consM (pg_nmM (i := 4) sc_Hall_init.nd rfl (.inl rfl)) (pgs_consM (pg_nmM (i := 5) sc_Hall_init.nd rfl (.inl rfl)) pgs_nilM))))
  (pss_oneM (ps_raiseM X_BadLine (by decide) rfl (takes_of rfl rfl rfl rfl) (hr.mono (by decide)) (by rfl) (pa_consM (pe_fz (pe_varM (pv 4))) (pa_consM (pe_fz (pe_varM (pv 5))) pa_nilM))))) pss_nilM)
  (pss_consM (ps_putM T_Hall.g T_Hall.cl (T_Hall.no "locks" (by decide +kernel)) (pv 0) (pe_fz (pe_tuple1 _ (by rfl) Z.tuple (pe_fz (pe_varM (pv 1))))))
  (pss_consM (ps_putM T_Hall.g T_Hall.cl (T_Hall.no "descriptions" (by decide +kernel)) (pv 0) (pe_fz (pe_varM (pv 2))))
  (pss_consM (ps_putM T_Hall.g T_Hall.cl (T_Hall.no "kinds" (by decide +kernel)) (pv 0) (pe_fz (pe_tuple1 _ (by rfl) Z.tuple (pe_fz (pe_lcM (own := [("description", 6)]) [6] rfl sc_Hall_init.nd (blkOk_by (N := ["self", "locks", "descriptions", "fault", "line", "rule", "description", "row", "field"]) (sc := defScope s_Hall_init) (by decide +kernel)) (pi_seqM (pe_fz (pe_varM (pv 2)))) (fun _ _ _ _ _ => (pg_nmM (i := 6) sc_Hall_init.nd rfl (.inl rfl))) (fun _ _ _ _ _ => pts_nilM) (fun _ _ _ _ _ => (pe_fz (pe_ixM (pe_fz (pe_varM (pv 6))) (pe_fz pe_intM) (fun _ _ => rfl)))))))))
  (pss_oneM (ps_putM T_Hall.g T_Hall.cl (T_Hall.no "sorts" (by decide +kernel)) (pv 0) (pe_fz (pe_tuple1 _ (by rfl) Z.tuple (pe_fz (pe_lc2M (own := [("row", 7), ("field", 8)]) (vs1 := [8]) [7] [8] rfl sc_Hall_init.nd (blkOk_by (N := ["self", "locks", "descriptions", "fault", "line", "rule", "description", "row", "field"]) (sc := defScope s_Hall_init) (by decide +kernel)) (pi_seqM (pe_fz (pe_varM (pv 2)))) (fun _ _ _ _ _ => (pg_nmM (i := 7) sc_Hall_init.nd rfl (.inl rfl))) (fun _ _ _ _ _ => pts_nilM) (fun _ _ _ _ _ => (pi_seqM (pe_fz (pe_slM (pe_fz (pe_varM (pv 7))) (po_smM (pe_fz pe_intM)) po_noM)))) (fun _ _ _ _ _ => (pg_nmM (i := 8) sc_Hall_init.nd rfl (.inl rfl))) (fun _ _ _ _ _ => pts_nilM) (fun _ _ _ _ _ => (pe_fz (pe_tupM (pa_consM (pe_fz (pe_ixM (pe_fz (pe_varM (pv 7))) (pe_fz pe_intM) (fun _ _ => rfl))) (pa_consM (pe_fz (pe_varM (pv 8))) pa_nilM))))))))))))))))
end K05
namespace K05
open PySem PySem.Spec PyProof.Rows L2 Md

theorem ok__law_draws {P : Program} {w : World} {K : PySem.W.Frag} {mg : Str → Option Value} {base : Heap}  (hd : DefAt K mg "_law_draws" s__law_draws) (Z : Bz mg) : Fc P w K mg base 1 "_law_draws" 1 m__law_draws :=
  fc_of (k := 0) hd sc__law_draws (fun _ _ _ _ _ _ us hl => match us, hl with | [_], _ => rfl) (c := b__law_draws) <| fun fA cdv A outer s H E hr =>
  (pss_consM (ps_setM (i := 1) sc__law_draws.nd rfl (.inl rfl) (pe_lstM pa_nilM))
  (pss_consM (ps_forM (passes_of rfl) rfl (pi_enuM (by rfl) Z.enumerate (pe_fz (pe_slM (pe_fz (pe_varM (pv 0))) po_noM (po_smM (pe_fz pe_intM))))) (pg_tupM (n := 2) rfl (pgs_consM (pg_nmM (i := 2) sc__law_draws.nd rfl (.inl rfl)) (pgs_consM (pg_nmM (i := 3) sc__law_draws.nd rfl (.inl rfl)) pgs_nilM))) (pss_consM (ps_setM (i := 4) sc__law_draws.nd rfl (.inl rfl) (pe_binM (o := .add) (pe_fz (pe_binM (o := .mul) (pe_fz pe_intM) (pe_fz (pe_abs _ (by rfl) Z.abs (pe_fz (pe_varM (pv 3))))))) (pe_fz (pe_int1 _ (by rfl) Z.int (pe_fz (pe_cmM (hu_of hr) .lt (pe_fz (pe_varM (pv 3))) (pe_fz pe_intM) (nomark _)))))))
  (pss_oneM (ps_ifM (pt_cmM (hu_of hr) .ge (pe_fz (pe_varM (pv 4))) (pe_fz (pe_binM (o := .mul) (pe_fz pe_intM) (pe_fz (pe_binM (o := .pow) (pe_fz pe_intM) (pe_fz pe_intM))))) (nomark _)) (pss_oneM (ps_forM (passes_of rfl) rfl (pi_rngM (by rfl) Z.range (pe_fz pe_intM)) (pg_nmM (i := 5) sc__law_draws.nd rfl (.inl rfl)) (pss_oneM (ps_ifM (PW.pt (pw_andM (pt_cmM (hu_of hr) .gt (pe_fz (pe_varM (pv 4))) (pe_fz pe_intM) (nomark _)) (pw_and1 (pt_borM (pt_cmM (hu_of hr) .lt (pe_fz (pe_len _ (by rfl) Z.len (pe_fz (pe_varM (pv 1))))) (pe_fz pe_intM) (nomark _)))))) (pss_consM (ps_exM (pe_appM (pv 1) (pe_fz (pe_binM (o := .mod) (pe_fz (pe_int1 _ (by rfl) Z.int (pe_fz (pe_varM (pv 4))))) (pe_fz pe_intM)))))
  (pss_oneM (ps_setM (i := 4) sc__law_draws.nd rfl (.inl rfl) (pe_binM (o := .fdiv) (pe_fz (pe_varM (pv 4))) (pe_fz pe_intM))))) pss_nilM)))) (pss_consM (ps_setM (i := 6) sc__law_draws.nd rfl (.inl rfl) (pe_binM (o := .mod) (pe_fz (pe_int1 _ (by rfl) Z.int (pe_fz (pe_binM (o := .add) (pe_fz (pe_binM (o := .add) (pe_fz (pe_binM (o := .mul) (pe_fz (pe_varM (pv 4))) (pe_fz pe_intM))) (pe_fz (pe_binM (o := .mul) (pe_fz (pe_varM (pv 2))) (pe_fz pe_intM))))) (pe_fz pe_intM))))) (pe_fz pe_intM)))
  (pss_oneM (ps_forM (passes_of rfl) rfl (pi_rngM (by rfl) Z.range (pe_fz pe_intM)) (pg_nmM (i := 5) sc__law_draws.nd rfl (.inl rfl)) (pss_consM (ps_setM (i := 6) sc__law_draws.nd rfl (.inl rfl) (pe_binM (o := .mod) (pe_fz (pe_int1 _ (by rfl) Z.int (pe_fz (pe_binM (o := .add) (pe_fz (pe_binM (o := .add) (pe_fz (pe_binM (o := .mul) (pe_fz (pe_varM (pv 6))) (pe_fz pe_intM))) (pe_fz (pe_binM (o := .mul) (pe_fz (pe_varM (pv 4))) (pe_fz pe_intM))))) (pe_fz (pe_varM (pv 5))))))) (pe_fz pe_intM)))
  (pss_oneM (ps_ifM (pt_borM (pt_cmM (hu_of hr) .lt (pe_fz (pe_len _ (by rfl) Z.len (pe_fz (pe_varM (pv 1))))) (pe_fz pe_intM) (nomark _))) (pss_oneM (ps_exM (pe_appM (pv 1) (pe_fz (pe_binM (o := .fdiv) (pe_fz (pe_varM (pv 6))) (pe_fz pe_intM)))))) pss_nilM))))))))))
  (pss_oneM (ps_retM (pe_movM (pv 1))))))
end K05
namespace K05
open PySem PySem.Spec PyProof.Rows L2 Md

theorem ok__law_next {P : Program} {w : World} {K : PySem.W.Frag} {mg : Str → Option Value} {base : Heap}  (hd : DefAt K mg "_law_next" s__law_next) (Z : Bz mg) : Fc P w K mg base 1 "_law_next" 2 m__law_next :=
  fc_of (k := 0) hd sc__law_next (fun _ _ _ _ _ _ us hl => match us, hl with | [_, _], _ => rfl) (c := b__law_next) <| fun fA cdv A outer s H E hr =>
  (pss_consM (ps_ifM (pt_borM (pt_cmM (hu_of hr) .eq (pe_fz (pe_len _ (by rfl) Z.len (pe_fz (pe_varM (pv 0))))) (pe_fz pe_intM) (nomark _))) (pss_oneM (ps_retM pe_intM)) pss_nilM)
  (pss_oneM (ps_retM (pe_binM (o := .mod) (pe_fz (pe_int1 _ (by rfl) Z.int (pe_fz (pe_pop0M (pv 0))))) (pe_fz (pe_varM (pv 1)))))))
end K05
namespace K05
open PySem PySem.Spec PyProof.Rows L2 Md

theorem ok__law_pool {P : Program} {w : World} {K : PySem.W.Frag} {mg : Str → Option Value} {base : Heap} (G__law_next : Fc P w K mg base 1 "_law_next" 2 m__law_next) (hd : DefAt K mg "_law_pool" s__law_pool) (Z : Bz mg) : Fc P w K mg base 3 "_law_pool" 1 m__law_pool :=
  fc_of (k := 2) hd sc__law_pool (fun _ _ _ _ _ _ us hl => match us, hl with | [_], _ => rfl) (c := b__law_pool) <| fun fA cdv A outer s H E hr =>
  (pss_consM (ps_setM (i := 1) sc__law_pool.nd rfl (.inl rfl) (pe_lstM pa_nilM))
  (pss_consM (ps_forM (passes_of rfl) rfl (pi_rngM (by rfl) Z.range (pe_fz pe_intM)) (pg_nmM (i := 2) sc__law_pool.nd rfl (.inl rfl)) (pss_consM (ps_setM (i := 3) sc__law_pool.nd rfl (.inl rfl) pe_strM)
  (pss_consM (ps_forM (passes_of rfl) rfl (pi_rngM (by rfl) Z.range (pe_fz (pe_fcM G__law_next (hr.mono (by decide)) (by rfl) (psT (takes_of rfl rfl rfl rfl)) (pa_ownA (pv 0) (pa_valA (pe_fz pe_intM) pa_nilA))))) (pg_nmM (i := 4) sc__law_pool.nd rfl (.inl rfl)) (pss_oneM (ps_setM (i := 3) sc__law_pool.nd rfl (.inl rfl) (pe_binM (o := .add) (pe_fz (pe_varM (pv 3))) (pe_fz (pe_ixM (pe_fz pe_strM) (pe_fz (pe_fcM G__law_next (hr.mono (by decide)) (by rfl) (psT (takes_of rfl rfl rfl rfl)) (pa_ownA (pv 0) (pa_valA (pe_fz pe_intM) pa_nilA)))) (fun _ _ => rfl)))))))
  (pss_oneM (ps_exM (pe_appM (pv 1) (pe_fz (pe_varM (pv 3)))))))))
  (pss_consM (ps_setM (i := 5) sc__law_pool.nd rfl (.inl rfl) (pe_fcM G__law_next (hr.mono (by decide)) (by rfl) (psT (takes_of rfl rfl rfl rfl)) (pa_ownA (pv 0) (pa_valA (pe_fz pe_intM) pa_nilA))))
  (pss_consM (ps_setM (i := 6) sc__law_pool.nd rfl (.inl rfl) (pe_lstM pa_nilM))
  (pss_consM (ps_forM (passes_of rfl) rfl (pi_rngM (by rfl) Z.range (pe_fz pe_intM)) (pg_nmM (i := 7) sc__law_pool.nd rfl (.inl rfl)) (pss_consM (ps_setM (i := 8) sc__law_pool.nd rfl (.inl rfl) (pe_binM (o := .mod) (pe_fz (pe_int1 _ (by rfl) Z.int (pe_fz (pe_binM (o := .add) (pe_fz (pe_varM (pv 5))) (pe_fz (pe_binM (o := .mul) (pe_fz pe_intM) (pe_fz (pe_varM (pv 7))))))))) (pe_fz pe_intM)))
  (pss_consM (ps_setM (i := 3) sc__law_pool.nd rfl (.inl rfl) (pe_ixOM (pv 1) (pe_fz (pe_binM (o := .mod) (pe_fz (pe_varM (pv 7))) (pe_fz pe_intM))) (fun _ _ => rfl)))
  (pss_consM (ps_ifM (PW.pt (pw_andM (pt_cmM (hu_of hr) .gt (pe_fz (pe_varM (pv 8))) (pe_fz pe_intM) (nomark _)) (pw_and1 (pt_cmM (hu_of hr) .eq (pe_fz (pe_varM (pv 3))) (pe_fz pe_strM) (nomark _))))) (pss_oneM (ps_setM (i := 3) sc__law_pool.nd rfl (.inl rfl) pe_strM)) pss_nilM)
  (pss_consM (ps_setM (i := 9) sc__law_pool.nd rfl (.inl rfl) (pe_binM (o := .mod) (pe_fz (pe_int1 _ (by rfl) Z.int (pe_fz (pe_binM (o := .add) (pe_fz (pe_binM (o := .fdiv) (pe_fz (pe_varM (pv 7))) (pe_fz pe_intM))) (pe_fz (pe_len _ (by rfl) Z.len (pe_fz (pe_varM (pv 3))))))))) (pe_fz (pe_binM (o := .add) (pe_fz (pe_len _ (by rfl) Z.len (pe_fz (pe_varM (pv 3))))) (pe_fz pe_intM)))))
  (pss_consM (ps_ifM (PW.pt (pw_andM (pt_cmM (hu_of hr) .gt (pe_fz (pe_varM (pv 8))) (pe_fz pe_intM) (nomark _)) (pw_and1 (pt_cmM (hu_of hr) .eq (pe_fz (pe_varM (pv 9))) (pe_fz pe_intM) (nomark _))))) (pss_oneM (ps_setM (i := 9) sc__law_pool.nd rfl (.inl rfl) pe_intM)) pss_nilM)
  (pss_consM (ps_setM (i := 10) sc__law_pool.nd rfl (.inl rfl) (pe_binM (o := .add) (pe_fz (pe_binM (o := .add) (pe_fz (pe_slM (pe_fz (pe_varM (pv 3))) po_noM (po_smM (pe_fz (pe_varM (pv 9)))))) (pe_fz (pe_ixM (pe_fz pe_strM) (pe_fz (pe_varM (pv 8))) (fun _ _ => rfl))))) (pe_fz (pe_slM (pe_fz (pe_varM (pv 3))) (po_smM (pe_fz (pe_varM (pv 9)))) po_noM))))
  (pss_consM (ps_ifM (pt_cmM (hu_of hr) .inn (pe_fz (pe_varM (pv 10))) (pe_fz (pe_lstM (pa_consM (pe_fz pe_strM) (pa_consM (pe_fz pe_strM) (pa_consM (pe_fz pe_strM) (pa_consM (pe_fz pe_strM) pa_nilM)))))) (by rfl)) (pss_oneM (ps_setM (i := 10) sc__law_pool.nd rfl (.inl rfl) (pe_binM (o := .add) (pe_fz (pe_varM (pv 10))) (pe_fz pe_strM)))) pss_nilM)
  (pss_oneM (ps_exM (pe_appM (pv 6) (pe_fz (pe_varM (pv 10))))))))))))))
  (pss_oneM (ps_retM (pe_movM (pv 6)))))))))
end K05
namespace K05
open PySem PySem.Spec PyProof.Rows L2 Md

theorem ok__law_parts {P : Program} {w : World} {K : PySem.W.Frag} {mg : Str → Option Value} {base : Heap} (G__law_next : Fc P w K mg base 1 "_law_next" 2 m__law_next) (hd : DefAt K mg "_law_parts" s__law_parts) (Z : Bz mg) : Fc P w K mg base 3 "_law_parts" 2 m__law_parts :=
  fc_of (k := 2) hd sc__law_parts (fun _ _ _ _ _ _ us hl => match us, hl with | [_, _], _ => rfl) (c := b__law_parts) <| fun fA cdv A outer s H E hr =>
  (pss_consM (ps_setM (i := 2) sc__law_parts.nd rfl (.inl rfl) (pe_ixM (pe_fz (pe_lstM (pa_consM (pe_fz pe_intM) (pa_consM (pe_fz pe_intM) (pa_consM (pe_fz pe_intM) (pa_consM (pe_fz pe_intM) (pa_consM (pe_fz pe_intM) pa_nilM))))))) (pe_fz (pe_fcM G__law_next (hr.mono (by decide)) (by rfl) (psT (takes_of rfl rfl rfl rfl)) (pa_ownA (pv 0) (pa_valA (pe_fz pe_intM) pa_nilA)))) (fun _ _ => rfl)))
  (pss_consM (ps_setM (i := 3) sc__law_parts.nd rfl (.inl rfl) (pe_lstM pa_nilM))
  (pss_consM (ps_forM (passes_of rfl) rfl (pi_rngM (by rfl) Z.range (pe_fz (pe_ixM (pe_fz (pe_lstM (pa_consM (pe_fz pe_intM) (pa_consM (pe_fz pe_intM) (pa_consM (pe_fz pe_intM) pa_nilM))))) (pe_fz (pe_fcM G__law_next (hr.mono (by decide)) (by rfl) (psT (takes_of rfl rfl rfl rfl)) (pa_ownA (pv 0) (pa_valA (pe_fz pe_intM) pa_nilA)))) (fun _ _ => rfl)))) (pg_nmM (i := 4) sc__law_parts.nd rfl (.inl rfl)) (pss_consM (ps_setM (i := 5) sc__law_parts.nd rfl (.inl rfl) pe_nonM)
  (pss_consM (ps_setM (i := 6) sc__law_parts.nd rfl (.inl rfl) (pe_fcM G__law_next (hr.mono (by decide)) (by rfl) (psT (takes_of rfl rfl rfl rfl)) (pa_ownA (pv 0) (pa_valA (pe_fz (pe_binM (o := .add) (pe_fz (pe_varM (pv 2))) (pe_fz pe_intM))) pa_nilA))))
  (pss_consM (ps_ifM (pt_cmM (hu_of hr) .lt (pe_fz (pe_varM (pv 6))) (pe_fz (pe_varM (pv 2))) (nomark _)) (pss_oneM (ps_setM (i := 5) sc__law_parts.nd rfl (.inl rfl) (pe_ixM (pe_fz (pe_varM (pv 1))) (pe_fz (pe_varM (pv 6))) (fun _ _ => rfl)))) pss_nilM)
  (pss_consM (ps_setM (i := 7) sc__law_parts.nd rfl (.inl rfl) (pe_fcM G__law_next (hr.mono (by decide)) (by rfl) (psT (takes_of rfl rfl rfl rfl)) (pa_ownA (pv 0) (pa_valA (pe_fz pe_intM) pa_nilA))))
  (pss_consM (ps_setM (i := 8) sc__law_parts.nd rfl (.inl rfl) (pe_tupM (pa_consM (pe_fz (pe_ixM (pe_fz (pe_varM (pv 1))) (pe_fz (pe_binM (o := .add) (pe_fz pe_intM) (pe_fz (pe_varM (pv 4))))) (fun _ _ => rfl))) (pa_consM (pe_fz (pe_varM (pv 5))) (pa_consM (pe_fz (pe_ixM (pe_fz (pe_varM (pv 1))) (pe_fz (pe_varM (pv 7))) (fun _ _ => rfl))) pa_nilM)))))
  (pss_consM (ps_setM (i := 9) sc__law_parts.nd rfl (.inl rfl) (pe_fcM G__law_next (hr.mono (by decide)) (by rfl) (psT (takes_of rfl rfl rfl rfl)) (pa_ownA (pv 0) (pa_valA (pe_fz pe_intM) pa_nilA))))
  (pss_consM (ps_ifM (PW.pt (pw_andM (pt_cmM (hu_of hr) .ne (pe_fz (pe_varM (pv 9))) (pe_fz (pe_varM (pv 7))) (nomark _)) (pw_and1 (pt_cmM (hu_of hr) .lt (pe_fz (pe_varM (pv 9))) (pe_fz pe_intM) (nomark _))))) (pss_oneM (ps_setM (i := 8) sc__law_parts.nd rfl (.inl rfl) (pe_binM (o := .add) (pe_fz (pe_varM (pv 8))) (pe_fz (pe_tupM (pa_consM (pe_fz (pe_ixM (pe_fz (pe_varM (pv 1))) (pe_fz (pe_varM (pv 9))) (fun _ _ => rfl))) pa_nilM)))))) pss_nilM)
  (pss_oneM (ps_exM (pe_appM (pv 3) (pe_fz (pe_varM (pv 8))))))))))))))
  (pss_oneM (ps_retM (pe_lstM (pa_consM (pe_fz (pe_slM (pe_fz (pe_varM (pv 1))) po_noM (po_smM (pe_fz (pe_varM (pv 2)))))) (pa_consM (pe_fz (pe_varM (pv 3))) pa_nilM))))))))
end K05
namespace K05
open PySem PySem.Spec PyProof.Rows L2 Md

theorem ok__law_hall {P : Program} {w : World} {K : PySem.W.Frag} {mg : Str → Option Value} {base : Heap} {C_Hall : Addr} (T_Hall : ClsF K mg "Hall" C_Hall ["locks", "descriptions", "kinds", "sorts"]) (K_Hall : MkV P w K mg base 9 C_Hall 2 [] m_Hall_init) (hd : DefAt K mg "_law_hall" s__law_hall) (Z : Bz mg) : Fc P w K mg base 12 "_law_hall" 1 m__law_hall :=
  fc_of (k := 11) hd sc__law_hall (fun _ _ _ _ _ _ us hl => match us, hl with | [_], _ => rfl) (c := b__law_hall) <| fun fA cdv A outer s H E hr =>
  (pss_consM (ps_setM (i := 1) sc__law_hall.nd rfl (.inl rfl) (pe_ixM (pe_fz (pe_varM (pv 0))) (pe_fz pe_intM) (fun _ _ => rfl)))
  (pss_consM (ps_ifM (pt_cmM (hu_of hr) .eq (pe_fz (pe_len _ (by rfl) Z.len (pe_fz (pe_varM (pv 1))))) (pe_fz pe_intM) (nomark _)) (pss_oneM (ps_retM (pe_mkV0 T_Hall K_Hall (hr.mono (by decide)) (by rfl) (psT (takes_of rfl rfl rfl rfl)) (pa_valA (pe_fz (pe_ixM (pe_fz (pe_varM (pv 0))) (pe_fz pe_intM) (fun _ _ => rfl))) (pa_valA (pe_fz (pe_ixM (pe_fz (pe_varM (pv 1))) (pe_fz pe_intM) (fun _ _ => rfl))) pa_nilA))))) pss_nilM)
  (pss_consM (ps_ifM (pt_cmM (hu_of hr) .eq (pe_fz (pe_len _ (by rfl) Z.len (pe_fz (pe_varM (pv 1))))) (pe_fz pe_intM) (nomark _)) (pss_oneM (ps_retM (pe_mkV0 T_Hall K_Hall (hr.mono (by decide)) (by rfl) (psT (takes_of rfl rfl rfl rfl)) (pa_valA (pe_fz (pe_ixM (pe_fz (pe_varM (pv 0))) (pe_fz pe_intM) (fun _ _ => rfl))) (pa_valA (pe_fz (pe_ixM (pe_fz (pe_varM (pv 1))) (pe_fz pe_intM) (fun _ _ => rfl))) (pa_valA (pe_fz (pe_ixM (pe_fz (pe_varM (pv 1))) (pe_fz pe_intM) (fun _ _ => rfl))) pa_nilA)))))) pss_nilM)
  (pss_oneM (ps_retM (pe_mkV0 T_Hall K_Hall (hr.mono (by decide)) (by rfl) (psT (takes_of rfl rfl rfl rfl)) (pa_valA (pe_fz (pe_ixM (pe_fz (pe_varM (pv 0))) (pe_fz pe_intM) (fun _ _ => rfl))) (pa_valA (pe_fz (pe_ixM (pe_fz (pe_varM (pv 1))) (pe_fz pe_intM) (fun _ _ => rfl))) (pa_valA (pe_fz (pe_ixM (pe_fz (pe_varM (pv 1))) (pe_fz pe_intM) (fun _ _ => rfl))) (pa_valA (pe_fz (pe_ixM (pe_fz (pe_varM (pv 1))) (pe_fz pe_intM) (fun _ _ => rfl))) pa_nilA))))))))))
end K05
namespace K05
open PySem PySem.Spec PyProof.Rows L2 Md

theorem ok__law_all_marks {P : Program} {w : World} {K : PySem.W.Frag} {mg : Str → Option Value} {base : Heap}  (hd : DefAt K mg "_law_all_marks" s__law_all_marks) (Z : Bz mg) : Fc P w K mg base 1 "_law_all_marks" 2 m__law_all_marks :=
  fc_of (k := 0) hd sc__law_all_marks (fun _ _ _ _ _ _ us hl => match us, hl with | [_, _], _ => rfl) (c := b__law_all_marks) <| fun fA cdv A outer s H E hr =>
  (pss_consM (ps_setLcM (i := 2) (own := [("_law_lock", 5)]) [5] rfl sc__law_all_marks.nd rfl rfl (sw_true rfl rfl rfl (by decide +kernel)) (blkOk_by (N := ["_law_parts_here", "_law_places", "_law_found", "_law_upper", "_law_row", "_law_lock", "_law_place", "_law_field"]) (sc := defScope s__law_all_marks) (by decide +kernel)) (pi_seqM (pe_fz (pe_ixM (pe_fz (pe_varM (pv 0))) (pe_fz pe_intM) (fun _ _ => rfl)))) (fun _ _ _ _ _ => (pg_nmM (i := 5) sc__law_all_marks.nd rfl (.inl rfl))) (fun _ _ _ _ _ => pts_nilM) (fun _ _ _ _ _ => (pe_fz (pe_tupM (pa_consM (pe_fz pe_strM) (pa_consM (pe_fz (pe_varM (pv 5))) pa_nilM))))))
  (pss_consM (ps_forM (passes_of rfl) rfl (pi_seqM (pe_fz (pe_ixM (pe_fz (pe_varM (pv 0))) (pe_fz pe_intM) (fun _ _ => rfl)))) (pg_nmM (i := 3) sc__law_all_marks.nd rfl (.inr rfl)) (pss_oneM (ps_setM (i := 2) sc__law_all_marks.nd rfl (.inl rfl) (pe_binM (o := .add) (pe_fz (pe_varM (pv 2))) (pe_fz (pe_lcM (own := [("_law_lock", 5)]) [5] rfl sc__law_all_marks.nd (blkOk_by (N := ["_law_parts_here", "_law_places", "_law_found", "_law_upper", "_law_row", "_law_lock", "_law_place", "_law_field"]) (sc := defScope s__law_all_marks) (by decide +kernel)) (pi_seqM (pe_fz (pe_ixM (pe_fz (pe_varM (pv 0))) (pe_fz pe_intM) (fun _ _ => rfl)))) (fun _ _ _ _ _ => (pg_nmM (i := 5) sc__law_all_marks.nd rfl (.inl rfl))) (fun _ _ _ _ _ => (pts_oneM (pt_cmM (hu_of hr) .ne (pe_fz (pe_varM (pv 5))) (pe_fz (pe_varM (pv 3))) (nomark _)))) (fun _ _ _ _ _ => (pe_fz (pe_tupM (pa_consM (pe_fz pe_strM) (pa_consM (pe_fz (pe_varM (pv 3))) (pa_consM (pe_fz (pe_varM (pv 5))) pa_nilM))))))))))))
  (pss_consM (ps_forM (passes_of rfl) rfl (pi_seqM (pe_fz (pe_ixM (pe_fz (pe_varM (pv 0))) (pe_fz pe_intM) (fun _ _ => rfl)))) (pg_nmM (i := 4) sc__law_all_marks.nd rfl (.inr rfl)) (pss_oneM (ps_setM (i := 2) sc__law_all_marks.nd rfl (.inl rfl) (pe_binM (o := .add) (pe_fz (pe_varM (pv 2))) (pe_fz (pe_lcM (own := [("_law_field", 7)]) [7] rfl sc__law_all_marks.nd (blkOk_by (N := ["_law_parts_here", "_law_places", "_law_found", "_law_upper", "_law_row", "_law_lock", "_law_place", "_law_field"]) (sc := defScope s__law_all_marks) (by decide +kernel)) (pi_seqM (pe_fz (pe_slM (pe_fz (pe_varM (pv 4))) (po_smM (pe_fz pe_intM)) po_noM))) (fun _ _ _ _ _ => (pg_nmM (i := 7) sc__law_all_marks.nd rfl (.inl rfl))) (fun _ _ _ _ _ => pts_nilM) (fun _ _ _ _ _ => (pe_fz (pe_tupM (pa_consM (pe_fz pe_strM) (pa_consM (pe_fz (pe_ixM (pe_fz (pe_varM (pv 4))) (pe_fz pe_intM) (fun _ _ => rfl))) (pa_consM (pe_fz (pe_varM (pv 7))) pa_nilM))))))))))))
  (pss_consM (ps_setM (i := 2) sc__law_all_marks.nd rfl (.inl rfl) (pe_binM (o := .add) (pe_fz (pe_varM (pv 2))) (pe_fz (pe_lcM (own := [("_law_lock", 5)]) [5] rfl sc__law_all_marks.nd (blkOk_by (N := ["_law_parts_here", "_law_places", "_law_found", "_law_upper", "_law_row", "_law_lock", "_law_place", "_law_field"]) (sc := defScope s__law_all_marks) (by decide +kernel)) (pi_seqM (pe_fz (pe_ixM (pe_fz (pe_varM (pv 0))) (pe_fz pe_intM) (fun _ _ => rfl)))) (fun _ _ _ _ _ => (pg_nmM (i := 5) sc__law_all_marks.nd rfl (.inl rfl))) (fun _ _ _ _ _ => pts_nilM) (fun _ _ _ _ _ => (pe_fz (pe_tupM (pa_consM (pe_fz pe_strM) (pa_consM (pe_fz (pe_varM (pv 5))) pa_nilM)))))))))
  (pss_oneM (ps_retM (pe_binM (o := .add) (pe_fz (pe_varM (pv 2))) (pe_fz (pe_lcM (own := [("_law_place", 6)]) [6] rfl sc__law_all_marks.nd (blkOk_by (N := ["_law_parts_here", "_law_places", "_law_found", "_law_upper", "_law_row", "_law_lock", "_law_place", "_law_field"]) (sc := defScope s__law_all_marks) (by decide +kernel)) (pi_rngM (by rfl) Z.range (pe_fz (pe_len _ (by rfl) Z.len (pe_fz (pe_varM (pv 1)))))) (fun _ _ _ _ _ => (pg_nmM (i := 6) sc__law_all_marks.nd rfl (.inl rfl))) (fun _ _ _ _ _ => pts_nilM) (fun _ _ _ _ _ => (pe_fz (pe_tupM (pa_consM (pe_fz pe_strM) (pa_consM (pe_fz (pe_varM (pv 6))) pa_nilM))))))))))))))
end K05
namespace K05
open PySem PySem.Spec PyProof.Rows L2 Md

theorem ok__law_needs {P : Program} {w : World} {K : PySem.W.Frag} {mg : Str → Option Value} {base : Heap}  (hd : DefAt K mg "_law_needs" s__law_needs) (Z : Bz mg) : Fc P w K mg base 1 "_law_needs" 3 m__law_needs :=
  fc_of (k := 0) hd sc__law_needs (fun _ _ _ _ _ _ us hl => match us, hl with | [_, _, _], _ => rfl) (c := b__law_needs) <| fun fA cdv A outer s H E hr =>
  (pss_consM (ps_ifM (pt_cmM (hu_of hr) .eq (pe_fz (pe_ixM (pe_fz (pe_varM (pv 2))) (pe_fz pe_intM) (fun _ _ => rfl))) (pe_fz pe_strM) (nomark _)) (pss_oneM (ps_retM (pe_lstM (pa_consM (pe_fz (pe_tupM (pa_consM (pe_fz pe_strM) (pa_consM (pe_fz (pe_ixM (pe_fz (pe_varM (pv 2))) (pe_fz pe_intM) (fun _ _ => rfl))) pa_nilM)))) (pa_consM (pe_fz (pe_tupM (pa_consM (pe_fz pe_strM) (pa_consM (pe_fz (pe_ixM (pe_fz (pe_varM (pv 2))) (pe_fz pe_intM) (fun _ _ => rfl))) pa_nilM)))) pa_nilM))))) pss_nilM)
  (pss_consM (ps_ifM (pt_cmM (hu_of hr) .eq (pe_fz (pe_ixM (pe_fz (pe_varM (pv 2))) (pe_fz pe_intM) (fun _ _ => rfl))) (pe_fz pe_strM) (nomark _)) (pss_oneM (ps_retM (pe_lstM (pa_consM (pe_fz (pe_tupM (pa_consM (pe_fz pe_strM) (pa_consM (pe_fz (pe_ixM (pe_fz (pe_varM (pv 2))) (pe_fz pe_intM) (fun _ _ => rfl))) pa_nilM)))) pa_nilM)))) pss_nilM)
  (pss_consM (ps_ifM (PW.pt (pw_andM (pt_cmM (hu_of hr) .eq (pe_fz (pe_ixM (pe_fz (pe_varM (pv 2))) (pe_fz pe_intM) (fun _ _ => rfl))) (pe_fz pe_strM) (nomark _)) (pw_and1 (pt_cmM (hu_of hr) .nin (pe_fz (pe_ixM (pe_fz (pe_varM (pv 2))) (pe_fz pe_intM) (fun _ _ => rfl))) (pe_fz (pe_varM (pv 1))) (by rfl))))) (pss_oneM (ps_retM (pe_lcM (own := [("_law_row", 3)]) [3] rfl sc__law_needs.nd (blkOk_by (N := ["_law_parts_here", "_law_places", "_law_mark", "_law_row"]) (sc := defScope s__law_needs) (by decide +kernel)) (pi_seqM (pe_fz (pe_ixM (pe_fz (pe_varM (pv 0))) (pe_fz pe_intM) (fun _ _ => rfl)))) (fun _ _ _ _ _ => (pg_nmM (i := 3) sc__law_needs.nd rfl (.inl rfl))) (fun _ _ _ _ _ => (pts_oneM (PW.pt (pw_andM (pt_cmM (hu_of hr) .eq (pe_fz (pe_ixM (pe_fz (pe_varM (pv 3))) (pe_fz pe_intM) (fun _ _ => rfl))) (pe_fz (pe_ixM (pe_fz (pe_varM (pv 2))) (pe_fz pe_intM) (fun _ _ => rfl))) (nomark _)) (pw_and1 (pt_notN (pe_fz (pe_ixM (pe_fz (pe_varM (pv 3))) (pe_fz pe_intM) (fun _ _ => rfl))))))))) (fun _ _ _ _ _ => (pe_fz (pe_tupM (pa_consM (pe_fz pe_strM) (pa_consM (pe_fz (pe_ixM (pe_fz (pe_varM (pv 3))) (pe_fz pe_intM) (fun _ _ => rfl))) pa_nilM)))))))) pss_nilM)
  (pss_oneM (ps_retM (pe_lstM pa_nilM))))))
end K05
namespace K05
open PySem PySem.Spec PyProof.Rows L2 Md

theorem ok__law_closed {P : Program} {w : World} {K : PySem.W.Frag} {mg : Str → Option Value} {base : Heap} (G__law_all_marks : Fc P w K mg base 1 "_law_all_marks" 2 m__law_all_marks) (G__law_needs : Fc P w K mg base 1 "_law_needs" 3 m__law_needs) (G__law_next : Fc P w K mg base 1 "_law_next" 2 m__law_next) (hd : DefAt K mg "_law_closed" s__law_closed) (Z : Bz mg) : Fc P w K mg base 3 "_law_closed" 4 m__law_closed :=
  fc_of (k := 2) hd sc__law_closed (fun _ _ _ _ _ _ us hl => match us, hl with | [_, _, _, _], _ => rfl) (c := b__law_closed) <| fun fA cdv A outer s H E hr =>
  (pss_consM (ps_setM (i := 4) sc__law_closed.nd rfl (.inr rfl) (pe_lstM pa_nilM))
  (pss_consM (ps_forM (passes_of rfl) rfl (pi_seqM (pe_fz (pe_fcM G__law_all_marks (hr.mono (by decide)) (by rfl) (psT (takes_of rfl rfl rfl rfl)) (pa_valA (pe_fz (pe_varM (pv 1))) (pa_valA (pe_fz (pe_varM (pv 2))) pa_nilA))))) (pg_nmM (i := 5) sc__law_closed.nd rfl (.inl rfl)) (pss_consM (ps_setLcM (i := 6) (own := [("_law_one", 7)]) [7] rfl sc__law_closed.nd rfl rfl (sw_true rfl rfl rfl (by decide +kernel)) (blkOk_by (N := ["_law_draws_here", "_law_parts_here", "_law_places", "_law_share", "_law_told", "_law_mark", "_law_lacking", "_law_one"]) (sc := defScope s__law_closed) (by decide +kernel)) (pi_seqM (pe_fz (pe_fcM G__law_needs (hr.mono (by decide)) (by rfl) (psT (takes_of rfl rfl rfl rfl)) (pa_valA (pe_fz (pe_varM (pv 1))) (pa_valA (pe_fz (pe_varM (pv 2))) (pa_valA (pe_fz (pe_varM (pv 5))) pa_nilA)))))) (fun _ _ _ _ _ => (pg_nmM (i := 7) sc__law_closed.nd rfl (.inl rfl))) (fun _ _ _ _ _ => (pts_oneM (pt_borM (pt_cmM (hu_of hr) .nin (pe_fz (pe_varM (pv 7))) (pe_fz (pe_varM (pv 4))) (by rfl))))) (fun _ _ _ _ _ => (pe_fz (pe_varM (pv 7)))))
  (pss_oneM (ps_ifM (PW.pt (pw_andM (pt_cmM (hu_of hr) .eq (pe_fz (pe_len _ (by rfl) Z.len (pe_fz (pe_varM (pv 6))))) (pe_fz pe_intM) (nomark _)) (pw_and1 (pt_cmM (hu_of hr) .lt (pe_fz (pe_fcM G__law_next (hr.mono (by decide)) (by rfl) (psT (takes_of rfl rfl rfl rfl)) (pa_ownA (pv 0) (pa_valA (pe_fz pe_intM) pa_nilA)))) (pe_fz (pe_varM (pv 3))) (nomark _))))) (pss_oneM (ps_exM (pe_appM (pv 4) (pe_fz (pe_varM (pv 5)))))) pss_nilM))))
  (pss_oneM (ps_retM (pe_movM (pv 4))))))
end K05
namespace K05
open PySem PySem.Spec PyProof.Rows L2 Md

theorem ok__law_signed {P : Program} {w : World} {K : PySem.W.Frag} {mg : Str → Option Value} {base : Heap} {C_Signature : Addr} (T_Signature : ClsF K mg "Signature" C_Signature ["hall", "places", "marks", "takes", "under", "writes", "gives", "shares", "is_giving"]) (K_Signature : MkV P w K mg base 11 C_Signature 2 ["marks"] m_Signature_init) (hd : DefAt K mg "_law_signed" s__law_signed) (Z : Bz mg) : Fc P w K mg base 14 "_law_signed" 3 m__law_signed :=
  fc_of (k := 13) hd sc__law_signed (fun _ _ _ _ _ _ us hl => match us, hl with | [_, _, _], _ => rfl) (c := b__law_signed) <| fun fA cdv A outer s H E hr =>
  (pss_consM (ps_ifM (pt_cmM (hu_of hr) .eq (pe_fz (pe_len _ (by rfl) Z.len (pe_fz (pe_varM (pv 1))))) (pe_fz pe_intM) (nomark _)) (pss_oneM (ps_retM (pe_mkVK (ks := ["marks"]) T_Signature K_Signature (hr.mono (by decide)) (by rfl) (psT (takes_of rfl rfl rfl rfl)) (pa_valA (pe_fz (pe_varM (pv 0))) pa_nilA) (pk_consM (pe_fz (pe_varM (pv 2))) pk_nilM)))) pss_nilM)
  (pss_consM (ps_ifM (pt_cmM (hu_of hr) .eq (pe_fz (pe_len _ (by rfl) Z.len (pe_fz (pe_varM (pv 1))))) (pe_fz pe_intM) (nomark _)) (pss_oneM (ps_retM (pe_mkVK (ks := ["marks"]) T_Signature K_Signature (hr.mono (by decide)) (by rfl) (psT (takes_of rfl rfl rfl rfl)) (pa_valA (pe_fz (pe_varM (pv 0))) (pa_valA (pe_fz (pe_ixM (pe_fz (pe_varM (pv 1))) (pe_fz pe_intM) (fun _ _ => rfl))) pa_nilA)) (pk_consM (pe_fz (pe_varM (pv 2))) pk_nilM)))) pss_nilM)
  (pss_consM (ps_ifM (pt_cmM (hu_of hr) .eq (pe_fz (pe_len _ (by rfl) Z.len (pe_fz (pe_varM (pv 1))))) (pe_fz pe_intM) (nomark _)) (pss_oneM (ps_retM (pe_mkVK (ks := ["marks"]) T_Signature K_Signature (hr.mono (by decide)) (by rfl) (psT (takes_of rfl rfl rfl rfl)) (pa_valA (pe_fz (pe_varM (pv 0))) (pa_valA (pe_fz (pe_ixM (pe_fz (pe_varM (pv 1))) (pe_fz pe_intM) (fun _ _ => rfl))) (pa_valA (pe_fz (pe_ixM (pe_fz (pe_varM (pv 1))) (pe_fz pe_intM) (fun _ _ => rfl))) pa_nilA))) (pk_consM (pe_fz (pe_varM (pv 2))) pk_nilM)))) pss_nilM)
  (pss_oneM (ps_retM (pe_mkVK (ks := ["marks"]) T_Signature K_Signature (hr.mono (by decide)) (by rfl) (psT (takes_of rfl rfl rfl rfl)) (pa_valA (pe_fz (pe_varM (pv 0))) (pa_valA (pe_fz (pe_ixM (pe_fz (pe_varM (pv 1))) (pe_fz pe_intM) (fun _ _ => rfl))) (pa_valA (pe_fz (pe_ixM (pe_fz (pe_varM (pv 1))) (pe_fz pe_intM) (fun _ _ => rfl))) (pa_valA (pe_fz (pe_ixM (pe_fz (pe_varM (pv 1))) (pe_fz pe_intM) (fun _ _ => rfl))) pa_nilA)))) (pk_consM (pe_fz (pe_varM (pv 2))) pk_nilM)))))))
end K05
namespace K05
open PySem PySem.Spec PyProof.Rows L2 Md

theorem ok__law_gives {P : Program} {w : World} {K : PySem.W.Frag} {mg : Str → Option Value} {base : Heap}  (hd : DefAt K mg "_law_gives" s__law_gives) (Z : Bz mg) : Fc P w K mg base 1 "_law_gives" 1 m__law_gives :=
  fc_of (k := 0) hd sc__law_gives (fun _ _ _ _ _ _ us hl => match us, hl with | [_], _ => rfl) (c := b__law_gives) <| fun fA cdv A outer s H E hr =>
  (pss_oneM (ps_retM (pe_cmM (hu_of hr) .gt (pe_fz (pe_len _ (by rfl) Z.len (pe_fz (pe_lcM (own := [("_law_mark", 1)]) [1] rfl sc__law_gives.nd (blkOk_by (N := ["_law_told", "_law_mark"]) (sc := defScope s__law_gives) (by decide +kernel)) (pi_seqM (pe_fz (pe_varM (pv 0)))) (fun _ _ _ _ _ => (pg_nmM (i := 1) sc__law_gives.nd rfl (.inl rfl))) (fun _ _ _ _ _ => (pts_oneM (pt_cmM (hu_of hr) .eq (pe_fz (pe_ixM (pe_fz (pe_varM (pv 1))) (pe_fz pe_intM) (fun _ _ => rfl))) (pe_fz pe_strM) (nomark _)))) (fun _ _ _ _ _ => (pe_fz (pe_varM (pv 1)))))))) (pe_fz pe_intM) (nomark _))))
end K05
namespace K05
open PySem PySem.Spec PyProof.Rows L2 Md

theorem ok__law_left {P : Program} {w : World} {K : PySem.W.Frag} {mg : Str → Option Value} {base : Heap} (G__law_needs : Fc P w K mg base 1 "_law_needs" 3 m__law_needs) (hd : DefAt K mg "_law_left" s__law_left) (Z : Bz mg) : Fc P w K mg base 3 "_law_left" 4 m__law_left :=
  fc_of (k := 2) hd sc__law_left (fun _ _ _ _ _ _ us hl => match us, hl with | [_, _, _, _], _ => rfl) (c := b__law_left) <| fun fA cdv A outer s H E hr =>
  (pss_oneM (ps_retM (pe_lcM (own := [("_law_one", 4)]) [4] rfl sc__law_left.nd (blkOk_by (N := ["_law_parts_here", "_law_places", "_law_told", "_law_mark", "_law_one"]) (sc := defScope s__law_left) (by decide +kernel)) (pi_seqM (pe_fz (pe_varM (pv 2)))) (fun _ _ _ _ _ => (pg_nmM (i := 4) sc__law_left.nd rfl (.inl rfl))) (fun _ _ _ _ _ => (pts_oneM (PW.pt (pw_andM (pt_cmM (hu_of hr) .ne (pe_fz (pe_varM (pv 4))) (pe_fz (pe_varM (pv 3))) (nomark _)) (pw_and1 (pt_cmM (hu_of hr) .nin (pe_fz (pe_varM (pv 3))) (pe_fz (pe_fcM G__law_needs (hr.mono (by decide)) (by rfl) psF (pa_valA (pe_fz (pe_varM (pv 0))) (pa_valA (pe_fz (pe_varM (pv 1))) (pa_valA (pe_fz (pe_varM (pv 4))) pa_nilA))))) (by rfl))))))) (fun _ _ _ _ _ => (pe_fz (pe_varM (pv 4)))))))
end K05
namespace K05
open PySem PySem.Spec PyProof.Rows L2 Md

theorem ok__law_fits {P : Program} {w : World} {K : PySem.W.Frag} {mg : Str → Option Value} {base : Heap} {C_Signature : Addr} (T_Signature : ClsF K mg "Signature" C_Signature ["hall", "places", "marks", "takes", "under", "writes", "gives", "shares", "is_giving"]) (G__law_gives : Fc P w K mg base 1 "_law_gives" 1 m__law_gives) (G__law_left : Fc P w K mg base 3 "_law_left" 4 m__law_left) (I_Signature : IsiC K mg (.ref C_Signature) none isi_Signature) (I_tuple : IsiC K mg (.type "tuple") (some "tuple") isiOwn) (hd : DefAt K mg "_law_fits" s__law_fits) (Z : Bz mg) : Fc P w K mg base 5 "_law_fits" 5 m__law_fits :=
  fc_of (k := 4) hd sc__law_fits (fun _ _ _ _ _ _ us hl => match us, hl with | [_, _, _, _, _], _ => rfl) (c := b__law_fits) <| fun fA cdv A outer s H E hr =>
  (pss_consM (ps_ifM (pt_cmM (hu_of hr) .nin (pe_fz (pe_varM (pv 4))) (pe_fz (pe_varM (pv 3))) (by rfl)) (pss_oneM (ps_retM (pe_cmM (hu_of hr) .eq (pe_fz (pe_ixM (pe_fz (pe_varM (pv 0))) (pe_fz pe_intM) (fun _ _ => rfl))) (pe_fz pe_strM) (nomark _)))) pss_nilM)
  (pss_consM (ps_setM (i := 5) sc__law_fits.nd rfl (.inl rfl) (pe_fcM G__law_left (hr.mono (by decide)) (by rfl) (psT (takes_of rfl rfl rfl rfl)) (pa_valA (pe_fz (pe_varM (pv 1))) (pa_valA (pe_fz (pe_varM (pv 2))) (pa_valA (pe_fz (pe_varM (pv 3))) (pa_valA (pe_fz (pe_varM (pv 4))) pa_nilA))))))
  (pss_consM (ps_ifM (PW.pt (pw_andM (pt_of (pe_fz (pe_fcM G__law_gives (hr.mono (by decide)) (by rfl) (psT (takes_of rfl rfl rfl rfl)) (pa_valA (pe_fz (pe_varM (pv 3))) pa_nilA))) (by intro _; rfl)) (pw_and1 (pt_notTM (pt_of (pe_fz (pe_fcM G__law_gives (hr.mono (by decide)) (by rfl) (psT (takes_of rfl rfl rfl rfl)) (pa_valA (pe_fz (pe_varM (pv 5))) pa_nilA))) (by intro _; rfl)))))) (pss_oneM (ps_retM (pe_cmM (hu_of hr) .eq (pe_fz (pe_ixM (pe_fz (pe_varM (pv 0))) (pe_fz pe_intM) (fun _ _ => rfl))) (pe_fz pe_strM) (nomark _)))) pss_nilM)
  (pss_consM (ps_ifM (PW.pt (pw_orM (pt_cmM (hu_of hr) .ne (pe_fz (pe_ixM (pe_fz (pe_varM (pv 0))) (pe_fz pe_intM) (fun _ _ => rfl))) (pe_fz pe_strM) (nomark _)) (pw_or1 (pt_notTM (pt_of (pe_fz (pe_isiC I_Signature (by rfl) Z.isinstance (by rfl) T_Signature.g (pe_fz (pe_ixM (pe_fz (pe_varM (pv 0))) (pe_fz pe_intM) (fun _ _ => rfl))))) (by intro _; rfl)))))) (pss_oneM (ps_retM pe_blM)) pss_nilM)
  (pss_oneM (ps_retM (pe_andM (pe_fz (pe_isiT I_tuple (by rfl) Z.isinstance (by rfl) Z.tuple (by decide +kernel) (pe_fz (pe_attM T_Signature.g T_Signature.cl (T_Signature.no "marks" (by decide +kernel)) (pe_fz (pe_ixM (pe_fz (pe_varM (pv 0))) (pe_fz pe_intM) (fun _ _ => rfl))) rfl)))) (pe_fz (pe_andM (pe_fz (pe_cmM (hu_of hr) .eq (pe_fz (pe_list1 _ (by rfl) Z.list (pe_fz (pe_attM T_Signature.g T_Signature.cl (T_Signature.no "marks" (by decide +kernel)) (pe_fz (pe_ixM (pe_fz (pe_varM (pv 0))) (pe_fz pe_intM) (fun _ _ => rfl))) rfl)))) (pe_fz (pe_varM (pv 5))) (nomark _))) (pe_one (pe_fz (pe_cmM (hu_of hr) .eq (pe_fz (pe_attM T_Signature.g T_Signature.cl (T_Signature.no "places" (by decide +kernel)) (pe_fz (pe_ixM (pe_fz (pe_varM (pv 0))) (pe_fz pe_intM) (fun _ _ => rfl))) rfl)) (pe_fz (pe_tuple1 _ (by rfl) Z.tuple (pe_fz (pe_varM (pv 2))))) (nomark _)))))))))))))
end K05
namespace K05
open PySem PySem.Spec PyProof.Rows L2 Md

theorem bd_law {P : Program} {w : World} {K : PySem.W.Frag} {mg : Str → Option Value} {base : Heap} {C_Signature : Addr} (T_Signature : ClsF K mg "Signature" C_Signature ["hall", "places", "marks", "takes", "under", "writes", "gives", "shares", "is_giving"]) (G__law_all_marks : Fc P w K mg base 1 "_law_all_marks" 2 m__law_all_marks) (G__law_closed : Fc P w K mg base 3 "_law_closed" 4 m__law_closed) (G__law_draws : Fc P w K mg base 1 "_law_draws" 1 m__law_draws) (G__law_fits : Fc P w K mg base 5 "_law_fits" 5 m__law_fits) (G__law_hall : Fc P w K mg base 12 "_law_hall" 1 m__law_hall) (G__law_left : Fc P w K mg base 3 "_law_left" 4 m__law_left) (G__law_less : Fc P w K mg base 18 "_law_less" 2 m__law_less) (G__law_next : Fc P w K mg base 1 "_law_next" 2 m__law_next) (G__law_parts : Fc P w K mg base 3 "_law_parts" 2 m__law_parts) (G__law_pool : Fc P w K mg base 3 "_law_pool" 1 m__law_pool) (G__law_signed : Fc P w K mg base 14 "_law_signed" 3 m__law_signed) (M_Signature___contains__ : Mc P w K mg base 5 C_Signature "__contains__" 2 m_Signature_contains) (M_Signature_alike : Mc P w K mg base 3 C_Signature "alike" 2 m_Signature_alike) (M_Signature_within : Mc P w K mg base 5 C_Signature "within" 2 m_Signature_within) (Z : Bz mg) : ∀ (fA : Addr) (cdv : Value) (A : Around) (outer : List Env) (s : Shared) (H : Hp) (E : XK), Room 19 (A.deeper (envOfC "law" (defScope s_law) s.heap.objs.size fA cdv)) → PSs (cxOf (L2.CX P w) P w K mg base ["_law_script", "_law_draws_here", "_law_pool_here", "_law_parts_here", "_law_hall_here", "_law_places", "_law_turn", "_law_told", "_law_mark", "_law_fewer", "_law_signature", "_law_below", "_law_answer", "_law_lesser", "_law_left_here", "_law_other"] "law" (defScope s_law) fA cdv A outer s H E) (defBody s_law) (tS K mg (WA E) b_law) :=
  fun fA cdv A outer s H E hr =>
  (pss_consM (ps_setM (i := 1) sc_law.nd rfl (.inl rfl) (pe_fcM G__law_draws (hr.mono (by decide)) (by rfl) (psT (takes_of rfl rfl rfl rfl)) (pa_valA (pe_fz (pe_varM (pv 0))) pa_nilA)))
  (pss_consM (ps_setM (i := 2) sc_law.nd rfl (.inl rfl) (pe_fcM G__law_pool (hr.mono (by decide)) (by rfl) (psT (takes_of rfl rfl rfl rfl)) (pa_ownA (pv 1) pa_nilA)))
  (pss_consM (ps_setM (i := 3) sc_law.nd rfl (.inl rfl) (pe_fcM G__law_parts (hr.mono (by decide)) (by rfl) (psT (takes_of rfl rfl rfl rfl)) (pa_ownA (pv 1) (pa_valA (pe_fz (pe_varM (pv 2))) pa_nilA))))
  (pss_consM (ps_setM (i := 4) sc_law.nd rfl (.inl rfl) (pe_fcM G__law_hall (hr.mono (by decide)) (by rfl) (psT (takes_of rfl rfl rfl rfl)) (pa_valA (pe_fz (pe_varM (pv 3))) pa_nilA)))
  (pss_consM (ps_setM (i := 5) sc_law.nd rfl (.inl rfl) (pe_lstM pa_nilM))
  (pss_consM (ps_forM (passes_of rfl) rfl (pi_rngM (by rfl) Z.range (pe_fz (pe_ixM (pe_fz (pe_lstM (pa_consM (pe_fz pe_intM) (pa_consM (pe_fz pe_intM) (pa_consM (pe_fz pe_intM) (pa_consM (pe_fz pe_intM) pa_nilM)))))) (pe_fz (pe_fcM G__law_next (hr.mono (by decide)) (by rfl) (psT (takes_of rfl rfl rfl rfl)) (pa_ownA (pv 1) (pa_valA (pe_fz pe_intM) pa_nilA)))) (fun _ _ => rfl)))) (pg_nmM (i := 6) sc_law.nd rfl (.inl rfl)) (pss_oneM (ps_exM (pe_appM (pv 5) (pe_fz (pe_ixM (pe_fz (pe_ixM (pe_fz (pe_ixM (pe_fz (pe_varM (pv 3))) (pe_fz pe_intM) (fun _ _ => rfl))) (pe_fz (pe_fcM G__law_next (hr.mono (by decide)) (by rfl) (psT (takes_of rfl rfl rfl rfl)) (pa_ownA (pv 1) (pa_valA (pe_fz (pe_len _ (by rfl) Z.len (pe_fz (pe_ixM (pe_fz (pe_varM (pv 3))) (pe_fz pe_intM) (fun _ _ => rfl))))) pa_nilA)))) (fun _ _ => rfl))) (pe_fz pe_intM) (fun _ _ => rfl)))))))
  (pss_consM (ps_setM (i := 7) sc_law.nd rfl (.inl rfl) (pe_fcM G__law_closed (hr.mono (by decide)) (by rfl) (psT (takes_of rfl rfl rfl rfl)) (pa_ownA (pv 1) (pa_valA (pe_fz (pe_varM (pv 3))) (pa_valA (pe_fz (pe_varM (pv 5))) (pa_valA (pe_fz (pe_ixM (pe_fz (pe_lstM (pa_consM (pe_fz pe_intM) (pa_consM (pe_fz pe_intM) (pa_consM (pe_fz pe_intM) (pa_consM (pe_fz pe_intM) pa_nilM)))))) (pe_fz (pe_fcM G__law_next (hr.mono (by decide)) (by rfl) (psT (takes_of rfl rfl rfl rfl)) (pa_ownA (pv 1) (pa_valA (pe_fz pe_intM) pa_nilA)))) (fun _ _ => rfl))) pa_nilA))))))
  (pss_consM (ps_ifM (pt_cmM (hu_of hr) .eq (pe_fz (pe_fcM G__law_next (hr.mono (by decide)) (by rfl) (psT (takes_of rfl rfl rfl rfl)) (pa_ownA (pv 1) (pa_valA (pe_fz pe_intM) pa_nilA)))) (pe_fz pe_intM) (nomark _)) (pss_oneM (ps_setLcM (i := 7) (own := [("_law_mark", 8)]) [8] rfl sc_law.nd rfl rfl (sw_true rfl rfl rfl (by decide +kernel)) (blkOk_by (N := ["_law_script", "_law_draws_here", "_law_pool_here", "_law_parts_here", "_law_hall_here", "_law_places", "_law_turn", "_law_told", "_law_mark", "_law_fewer", "_law_signature", "_law_below", "_law_answer", "_law_lesser", "_law_left_here", "_law_other"]) (sc := defScope s_law) (by decide +kernel)) (pi_seqM (pe_fz (pe_varM (pv 7)))) (fun _ _ _ _ _ => (pg_nmM (i := 8) sc_law.nd rfl (.inl rfl))) (fun _ _ _ _ _ => (pts_oneM (pt_cmM (hu_of hr) .ne (pe_fz (pe_ixM (pe_fz (pe_varM (pv 8))) (pe_fz pe_intM) (fun _ _ => rfl))) (pe_fz pe_strM) (nomark _)))) (fun _ _ _ _ _ => (pe_fz (pe_varM (pv 8)))))) pss_nilM)
  (pss_consM (ps_setM (i := 9) sc_law.nd rfl (.inl rfl) (pe_list1 _ (by rfl) Z.list (pe_fz (pe_varM (pv 7)))))
  (pss_consM (ps_forM (passes_of rfl) rfl (pi_rngM (by rfl) Z.range (pe_fz (pe_fcM G__law_next (hr.mono (by decide)) (by rfl) (psT (takes_of rfl rfl rfl rfl)) (pa_ownA (pv 1) (pa_valA (pe_fz pe_intM) pa_nilA))))) (pg_nmM (i := 6) sc_law.nd rfl (.inl rfl)) (pss_oneM (ps_ifM (pt_cmM (hu_of hr) .gt (pe_fz (pe_len _ (by rfl) Z.len (pe_fz (pe_varM (pv 9))))) (pe_fz pe_intM) (nomark _)) (pss_oneM (ps_setM (i := 9) sc_law.nd rfl (.inl rfl) (pe_fcM G__law_left (hr.mono (by decide)) (by rfl) (psT (takes_of rfl rfl rfl rfl)) (pa_valA (pe_fz (pe_varM (pv 3))) (pa_valA (pe_fz (pe_varM (pv 5))) (pa_valA (pe_fz (pe_varM (pv 9))) (pa_valA (pe_fz (pe_ixM (pe_fz (pe_varM (pv 9))) (pe_fz (pe_fcM G__law_next (hr.mono (by decide)) (by rfl) (psT (takes_of rfl rfl rfl rfl)) (pa_ownA (pv 1) (pa_valA (pe_fz (pe_len _ (by rfl) Z.len (pe_fz (pe_varM (pv 9))))) pa_nilA)))) (fun _ _ => rfl))) pa_nilA))))))) pss_nilM)))
  (pss_consM (ps_setM (i := 10) sc_law.nd rfl (.inl rfl) (pe_fcM G__law_signed (hr.mono (by decide)) (by rfl) (psT (takes_of rfl rfl rfl rfl)) (pa_valA (pe_fz (pe_varM (pv 4))) (pa_valA (pe_fz (pe_varM (pv 5))) (pa_valA (pe_fz (pe_varM (pv 7))) pa_nilA)))))
  (pss_consM (ps_setM (i := 11) sc_law.nd rfl (.inl rfl) (pe_fcM G__law_signed (hr.mono (by decide)) (by rfl) (psT (takes_of rfl rfl rfl rfl)) (pa_valA (pe_fz (pe_varM (pv 4))) (pa_valA (pe_fz (pe_varM (pv 5))) (pa_valA (pe_fz (pe_varM (pv 9))) pa_nilA)))))
  (pss_consM (ps_forM (passes_of rfl) rfl (pi_seqM (pe_fz (pe_binM (o := .add) (pe_fz (pe_fcM G__law_all_marks (hr.mono (by decide)) (by rfl) (psT (takes_of rfl rfl rfl rfl)) (pa_valA (pe_fz (pe_varM (pv 3))) (pa_valA (pe_fz (pe_varM (pv 5))) pa_nilA)))) (pe_fz (pe_lstM (pa_consM (pe_fz (pe_tupM (pa_consM (pe_fz pe_strM) (pa_consM (pe_fz (pe_ixM (pe_fz (pe_varM (pv 2))) (pe_fz pe_intM) (fun _ _ => rfl))) pa_nilM)))) (pa_consM (pe_fz (pe_tupM (pa_consM (pe_fz pe_strM) (pa_consM (pe_fz pe_intM) pa_nilM)))) pa_nilM))))))) (pg_nmM (i := 8) sc_law.nd rfl (.inl rfl)) (pss_consM (ps_setM (i := 12) sc_law.nd rfl (.inl rfl) (pe_fcM G__law_less (hr.mono (by decide)) (by rfl) (psT (takes_of rfl rfl rfl rfl)) (pa_valA (pe_fz (pe_varM (pv 10))) (pa_valA (pe_fz (pe_varM (pv 8))) pa_nilA))))
  (pss_consM (ps_ifM (pt_notTM (pt_of (pe_fz (pe_fcM G__law_fits (hr.mono (by decide)) (by rfl) (psT (takes_of rfl rfl rfl rfl)) (pa_valA (pe_fz (pe_varM (pv 12))) (pa_valA (pe_fz (pe_varM (pv 3))) (pa_valA (pe_fz (pe_varM (pv 5))) (pa_valA (pe_fz (pe_varM (pv 7))) (pa_valA (pe_fz (pe_varM (pv 8))) pa_nilA))))))) (by intro _; rfl))) (pss_oneM (ps_retM pe_blM)) pss_nilM)
  (pss_oneM (ps_ifM (pt_notN (pe_fz (pe_ixM (pe_fz (pe_varM (pv 12))) (pe_fz pe_intM) (fun _ _ => rfl)))) (pss_consM (ps_setM (i := 13) sc_law.nd rfl (.inl rfl) (pe_ixM (pe_fz (pe_varM (pv 12))) (pe_fz pe_intM) (fun _ _ => rfl)))
  (pss_consM (ps_ifM (PW.pt (pw_orM (pt_inO T_Signature M_Signature___contains__ (hr.mono (by decide)) (psT (takes_of rfl rfl rfl rfl)) (pe_fz (pe_varM (pv 8))) (pe_fz (pe_varM (pv 13))) (by rfl)) (pw_orM (pt_notTM (pt_of (pe_fz (pe_mcM T_Signature M_Signature_within (hr.mono (by decide)) (psT (takes_of rfl rfl rfl rfl)) (pe_fz (pe_varM (pv 13))) (pa_valA (pe_fz (pe_varM (pv 10))) pa_nilA))) (by intro _; rfl))) (pw_or1 (pt_of (pe_fz (pe_mcM T_Signature M_Signature_within (hr.mono (by decide)) (psT (takes_of rfl rfl rfl rfl)) (pe_fz (pe_varM (pv 10))) (pa_valA (pe_fz (pe_varM (pv 13))) pa_nilA))) (by intro _; rfl)))))) (pss_oneM (ps_retM pe_blM)) pss_nilM)
  (pss_consM (ps_ifM (PW.pt (pw_andM (pt_of (pe_fz (pe_mcM T_Signature M_Signature_alike (hr.mono (by decide)) (psT (takes_of rfl rfl rfl rfl)) (pe_fz (pe_varM (pv 11))) (pa_valA (pe_fz (pe_varM (pv 10))) pa_nilA))) (by intro _; rfl)) (pw_andM (pt_cmM (hu_of hr) .nin (pe_fz (pe_varM (pv 8))) (pe_fz (pe_varM (pv 9))) (by rfl)) (pw_and1 (pt_notTM (pt_of (pe_fz (pe_mcM T_Signature M_Signature_within (hr.mono (by decide)) (psT (takes_of rfl rfl rfl rfl)) (pe_fz (pe_varM (pv 11))) (pa_valA (pe_fz (pe_varM (pv 13))) pa_nilA))) (by intro _; rfl))))))) (pss_oneM (ps_retM pe_blM)) pss_nilM)
  (pss_consM (ps_setM (i := 14) sc_law.nd rfl (.inl rfl) (pe_list1 _ (by rfl) Z.list (pe_fz (pe_attM T_Signature.g T_Signature.cl (T_Signature.no "marks" (by decide +kernel)) (pe_fz (pe_varM (pv 13))) rfl))))
  (pss_oneM (ps_ifM (pt_cmM (hu_of hr) .gt (pe_fz (pe_len _ (by rfl) Z.len (pe_fz (pe_varM (pv 14))))) (pe_fz pe_intM) (nomark _)) (pss_consM (ps_setM (i := 15) sc_law.nd rfl (.inl rfl) (pe_ixM (pe_fz (pe_varM (pv 14))) (pe_fz (pe_fcM G__law_next (hr.mono (by decide)) (by rfl) (psT (takes_of rfl rfl rfl rfl)) (pa_ownA (pv 1) (pa_valA (pe_fz (pe_len _ (by rfl) Z.len (pe_fz (pe_varM (pv 14))))) pa_nilA)))) (fun _ _ => rfl)))
  (pss_oneM (ps_ifM (pt_notTM (pt_of (pe_fz (pe_fcM G__law_fits (hr.mono (by decide)) (by rfl) (psT (takes_of rfl rfl rfl rfl)) (pa_valA (pe_fz (pe_fcM G__law_less (hr.mono (by decide)) (by rfl) (psT (takes_of rfl rfl rfl rfl)) (pa_valA (pe_fz (pe_varM (pv 13))) (pa_valA (pe_fz (pe_varM (pv 15))) pa_nilA)))) (pa_valA (pe_fz (pe_varM (pv 3))) (pa_valA (pe_fz (pe_varM (pv 5))) (pa_valA (pe_fz (pe_varM (pv 14))) (pa_valA (pe_fz (pe_varM (pv 15))) pa_nilA))))))) (by intro _; rfl))) (pss_oneM (ps_retM pe_blM)) pss_nilM))) pss_nilM)))))) pss_nilM)))))
  (pss_oneM (ps_retM (pe_cmM (hu_of hr) .eq (pe_fz (pe_list1 _ (by rfl) Z.list (pe_fz (pe_attM T_Signature.g T_Signature.cl (T_Signature.no "marks" (by decide +kernel)) (pe_fz (pe_varM (pv 10))) rfl)))) (pe_fz (pe_varM (pv 7))) (nomark _)))))))))))))))))
end K05
namespace K05
open PySem PySem.Spec PyProof.Rows L2 Md
/-- what the clauses ask of the classes of errors -/
structure LessF (K : PySem.W.Frag) (mg : Str → Option Value) (NS UN BP BL HE : Addr) : Prop where
  gP : mg "BadPart" = some (.ref BP)
  gL : mg "BadLine" = some (.ref BL)
  gH : mg "HandsError" = some (.ref HE)
  nn : PySem.W.exmOne K (.ref NS) (.ref NS) = some true
  un : PySem.W.exmOne K (.ref UN) (.ref NS) = some false
  uu : PySem.W.exmOne K (.ref UN) (.ref UN) = some true
  kn : PySem.W.kitAny K (.ref NS) [.ref UN, .ref BP, .ref BL] = some false
  ku : PySem.W.kitAny K (.ref UN) [.ref BP, .ref BL] = some false
def rInt1 : List V → Hp → VK → Prop := fun xs H Q => (∃ i, xs = [.int i] ∧ Q (.int i) H) ∨ ∃ k, xs = [.bl k] ∧ Q (.int (if k then 1 else 0)) H
def ts0 (K : PySem.W.Frag) (NS UN BP BL : Addr) : TSx := fun a cls d => tAsg (tOp (rIxL K) (tLst (tCons (tC (.str "no such")) (tCons (tC (.str "other")) tNil))) (tCB rInt1 (tCons (tOrT K (tCB (rIsET K cls d a) (tCons (tVar 4) (tCons (tTup (tCons (tC (.ref UN)) (tCons (tC (.ref BP)) (tCons (tC (.ref BL)) tNil)))) tNil)))
  (tOp (rCm K .ne) (tXf a cls d NS "name" (tVar 4)) (tVar 1))) tNil))) (gName 3)
def ts1 (K : PySem.W.Frag) (BP BL : Addr) : TSx := fun a cls d => tAsg (tOp (rIxL K) (tLst (tCons (tC (.str "unlike")) (tCons (tC (.str "other")) tNil))) (tCB rInt1 (tCons (tCB (rIsET K cls d a) (tCons (tVar 4) (tCons (tTup (tCons (tC (.ref BP)) (tCons (tC (.ref BL)) tNil))) tNil))) tNil))) (gName 3)
section
variable {P : Program} {w : World} {K : PySem.W.Frag} {mg : Str → Option Value} {base : Heap} {NS UN BP BL HE : Addr} {f : Fm} {F H : Hp} {σ : L2.St} {ρ : Sto} {g : Addr → Option Ow} {x : Ex} {cls : Value} {d : Option Addr} {a : Addr} {Dn : Ends}
theorem more {σ : L2.St} {p : Addr} {o : HO} (S : SR K mg f F H σ ρ g) (n : H p = none) : SR K mg f F (upd H p o) σ ρ g := S.grow (Same.refl F) (S.sub.trans (Md.same_upd n)) (Md.same_upd n) fun a o e => .inl e
theorem at2 {u v : V} (b : Bool) : atI [u, v] (if b then 1 else 0) = some (if b then v else u) := by cases b <;> rfl
theorem run0 (X_NoSuch : ErC P w K mg base "NoSuch" NS fn_NoSuch) (gU : mg "Unlike" = some (.ref UN)) (L : LessF K mg NS UN BP BL HE) (hl : 4 < σ.length) (S : SR K mg f F H (σ.set 4 (some (.ref a))) ρ g) (e : ErR K mg F x cls d) (na : H a = none)
    (q : FinS K mg f WF (match fldF "name" x.fs, (ρ[1]? : Option Sl) with
      | some d, some (.sh m) => if x.c = "NoSuch" then (match cmp2 .ne d m with
        | some k => oNx (setSl ρ 3 (.sh (.str (if k then "other" else "no such"))))
        | none => .st) else .st
      | _, _ => .st) F Dn) : ts0 K NS UN BP BL a cls d Dn (σ.set 4 (some (.ref a))) H := by
  have s4 : (σ.set 4 (some (V.ref a)))[4]? = some (some (.ref a)) := List.getElem?_set_self hl
  generalize σ.set 4 (some (V.ref a)) = σ' at S s4
  cases hd : fldF "name" x.fs with
  | none => rw [hd] at q; exact q.elim
  | some dv =>
    rw [hd] at q
    cases hs : (ρ[1]? : Option Sl) with
    | none => rw [hs] at q; exact q.elim
    | some s =>
      rw [hs] at q
      cases s with
      | un => exact q.elim
      | ow b m => exact q.elim
      | sh m =>
        have q : FinS K mg f WF (if x.c = "NoSuch" then (match cmp2 .ne dv m with | some k => oNx (setSl ρ 3 (.sh (.str (if k then "other" else "no such")))) | none => .st) else .st) F Dn := q
        by_cases hc : x.c = "NoSuch"
        · rw [if_pos hc] at q
          cases hz : cmp2 .ne dv m with
          | none => rw [hz] at q; exact q.elim
          | some k =>
            rw [hz] at q
            have q9 : FinS K mg f WF (oNx (setSl ρ 3 (.sh (.str (if k then "other" else "no such"))))) F Dn := q
            cases e with
            | nil => cases hd
            | @fld c C dd vs fs h1 h2 h3 =>
              have hc : c = "NoSuch" := hc
              subst hc
              have : C = NS := by
                rw [X_NoSuch.g] at h1
                injection h1 with h1
                injection h1 with h1
                exact h1.symm
              subst this
              have hd : fldF "name" fs = some dv := hd
              obtain ⟨v, hv, kv⟩ := h3.getF hd
              have h1l : 1 < σ'.length := by rw [S.len]; exact (List.getElem?_eq_some_iff.mp hs).1
              have e1 : σ'[1]? = some σ'[1] := List.getElem?_eq_getElem h1l
              have k1 := S.sl 1 _ _ e1 hs
              generalize σ'[1] = u1 at e1 k1
              cases k1 with
              | @sh w _ kw =>
                refine ⟨(by show 2 ≤ sizeLine; decide), fun p np => ⟨.ref a, s4, (by show 3 ≤ sizeLine; decide), fun p2 n2 => ?_⟩⟩
                have S1 := more (o := .lst [V.str "no such", .str "other"]) S np
                have S2 := more (o := .tup [V.ref UN, .ref BP, .ref BL]) S1 n2
                refine ⟨C, p2, _, [.ref UN, .ref BP, .ref BL], false, rfl, rfl, upd_same, .cons (.own _) (.cons (.own _) (.cons (.own _) .nil)), L.kn, X_NoSuch.ec, .inr ⟨dd, vs, rfl, S2.sub _ _ h2⟩, false, rfl, ?_⟩
                refine ⟨.ref a, s4, rfl, rfl, dd, vs, v, rfl, S2.sub _ _ h2, hv, w, e1, cm_real S2 kv kw hz (.inr ⟨k, rfl, p, [V.str "no such", .str "other"], (if k then 1 else 0), (if k then V.str "other" else V.str "no such"), rfl, rfl, SqL.of ?_, at2 k, ?_⟩)⟩
                · have : p ≠ p2 := fun z => by
                    rw [← z, upd_same] at n2
                    cases n2
                  rw [upd_ne this, upd_same]
                · cases hy : setSl ρ 3 (.sh (.str (if k then "other" else "no such"))) with
                  | none => rw [hy] at q9; exact q9.elim
                  | some ρ3 =>
                    rw [hy] at q9
                    obtain ⟨rfl, hr⟩ := S2.root_set hy
                    have ev : (if k then V.str "other" else V.str "no such") = V.str (if k then "other" else "no such") := by cases k <;> rfl
                    rw [ev]
                    exact q9 _ F _ g (S2.setSh hr (.txt _)) (Same.refl F)
        · rw [if_neg hc] at q
          exact q.elim
theorem run1 (X_Unlike : ErC P w K mg base "Unlike" UN fn_Unlike) (L : LessF K mg NS UN BP BL HE) (hl : 4 < σ.length) (S : SR K mg f F H (σ.set 4 (some (.ref a))) ρ g) (e : ErR K mg F x cls d) (na : H a = none)
    (q : FinS K mg f WF (if x.c = "Unlike" then oNx (setSl ρ 3 (.sh (.str "unlike"))) else .st) F Dn) : ts1 K BP BL a cls d Dn (σ.set 4 (some (.ref a))) H := by
  have s4 : (σ.set 4 (some (V.ref a)))[4]? = some (some (.ref a)) := List.getElem?_set_self hl
  generalize σ.set 4 (some (V.ref a)) = σ' at S s4
  by_cases hc : x.c = "Unlike"
  · rw [if_pos hc] at q
    have hcls : cls = .ref UN := by
      obtain ⟨C, h1, h2⟩ := e.cls
      rw [hc, X_Unlike.g] at h2
      injection h2 with h2
      injection h2 with h2
      rw [h1, h2]
    have hdd : d = none ∨ ∃ dd vs, d = some dd ∧ F dd = some (.xd vs) := by
      cases e with
      | nil => exact .inl rfl
      | fld h1 h2 h3 => exact .inr ⟨_, _, rfl, h2⟩
    refine ⟨(by show 2 ≤ sizeLine; decide), fun p np => ⟨.ref a, s4, (by show 2 ≤ sizeLine; decide), fun p2 n2 => ?_⟩⟩
    have S1 := more (o := .lst [V.str "unlike", .str "other"]) S np
    have S2 := more (o := .tup [V.ref BP, .ref BL]) S1 n2
    refine ⟨UN, p2, _, [.ref BP, .ref BL], false, hcls, rfl, upd_same, .cons (.own _) (.cons (.own _) .nil), L.ku, X_Unlike.ec, ?_, .inr ⟨false, rfl, p, [V.str "unlike", .str "other"], 0, V.str "unlike", rfl, rfl, SqL.of ?_, at2 false, ?_⟩⟩
    · rcases hdd with z | ⟨dd, vs, z, h⟩
      · exact .inl z
      · exact .inr ⟨dd, vs, z, S2.sub _ _ h⟩
    · have : p ≠ p2 := fun z => by
        rw [← z, upd_same] at n2
        cases n2
      rw [upd_ne this, upd_same]
    · cases hy : setSl ρ 3 (.sh (.str "unlike")) with
      | none => rw [hy] at q; exact q.elim
      | some ρ3 =>
        rw [hy] at q
        obtain ⟨rfl, hr⟩ := S2.root_set hy
        exact q _ F _ g (S2.setSh hr (.txt _)) (Same.refl F)
  · rw [if_neg hc] at q
    exact q.elim
end
theorem ok__law_less {P : Program} {w : World} {K : PySem.W.Frag} {mg : Str → Option Value} {base : Heap} {C_Signature : Addr} (T_Signature : ClsF K mg "Signature" C_Signature ["hall", "places", "marks", "takes", "under", "writes", "gives", "shares", "is_giving"]) {NS UN BP BL HE : Addr} (X_NoSuch : ErC P w K mg base "NoSuch" NS fn_NoSuch) (X_Unlike : ErC P w K mg base "Unlike" UN fn_Unlike) (L : LessF K mg NS UN BP BL HE)
    {k : Nat} (M_Signature___sub__ : Mc P w K mg base k C_Signature "__sub__" 2 m_Signature_sub) (SF_Signature : PySem.W.selfFirst K C_Signature = true) (hd : DefAt K mg "_law_less" s__law_less) (Z : Bz mg) : Fc P w K mg base (k + 1 + 1) "_law_less" 2 m__law_less :=
  fc_of (k := k + 1) hd sc__law_less (fun _ _ _ _ _ _ us hl => match us, hl with | [_, _], _ => rfl) (c := b__law_less) <| fun fA cdv A outer s H E hr => by
    refine (pss_consM (ps_setM (i := 2) sc__law_less.nd rfl (.inl rfl) pe_nonM) (pss_consM (ps_setM (i := 3) sc__law_less.nd rfl (.inl rfl) pe_strM) (pss_consM (ps_tryM (l := [(.ref NS, runX (some 4) (ts0 K NS UN BP BL)), (.ref UN, runX (some 4) (ts1 K BP BL)), (.ref HE, fun _ _ _ => tNever)]) rfl rfl (takes_of rfl rfl rfl rfl)
      (fun W pn xe tk _ => pss_oneM (ps_setM (i := 2) sc__law_less.nd rfl (.inl rfl) (pe_subT T_Signature M_Signature___sub__ SF_Signature (hr.mono (by omega)) (psT tk) (pe_fz (pe_varM (pv 0))) (pe_fz (pe_varM (pv 1))))))
      (.as (i := 4) ⟨rfl, by decide, .inl X_NoSuch.g⟩ sc__law_less.nd rfl rfl (fun a oe cls d pn hz hf => ?s0)
        (.as (i := 4) ⟨rfl, by decide, .inl X_Unlike.g⟩ sc__law_less.nd rfl rfl (fun a oe cls d pn hz hf => ?s1)
        (.one ⟨rfl, by decide, .inl L.gH⟩ (fun a oe cls d pn hz hf => pss_never) .nil)))
      (.cons (hdr_as (fun c C b e hC => ?_) (fun x cls d a f F ρ g σ H Dn S e na hl q => ?_)) (.cons (hdr_as (fun c C b e hC => ?_) (fun x cls d a f F ρ g σ H Dn S e na hl q => ?_)) (.cons ⟨(fun c C b e hC => by cases e), (fun x cls d a f F ρ g σ H Dn S e na q => q.elim)⟩ .nil))))
      (pss_oneM (ps_retM (pe_lstM (pa_consM (pe_fz (pe_varM (pv 2))) (pa_consM (pe_fz (pe_varM (pv 3))) pa_nilM))))))))
    case s0 =>
      exact (pss_one (ps_set (i := 3) sc__law_less.nd rfl (.inl rfl) (pe_ix ix_list (pe_lst (pa_cons pe_str (pa_cons pe_str pa_nil)))
          (pe_callTy call_int1 (by rfl) Z.int (by decide +kernel) (pa_cons (pe_orT (pe_callB (call_isET hz hf) (by rfl) Z.isinstance (by decide +kernel) (pa_cons (pv 4) (pa_cons (pe_tup (pa_cons (pe_glob (v := .ref UN) (by rfl) X_Unlike.g rfl) (pa_cons (pe_glob (v := .ref BP) (by rfl) L.gP rfl) (pa_cons (pe_glob (v := .ref BL) (by rfl) L.gL rfl) pa_nil)))) pa_nil)))
            (pe_one (pe_cmpR (op_cm (show (A.deeper (envOfC "_law_less" (defScope s__law_less) s.heap.objs.size fA cdv)).units + 65 < cLine from hu_of hr) .ne) (pe_xf X_NoSuch.xf (X_NoSuch.no "name" (by decide +kernel)) hz hf (pv 4)) (pv 1) (nomark _)))) pa_nil)) (fun _ _ => rfl))))
    case s1 =>
      exact (pss_one (ps_set (i := 3) sc__law_less.nd rfl (.inl rfl) (pe_ix ix_list (pe_lst (pa_cons pe_str (pa_cons pe_str pa_nil)))
          (pe_callTy call_int1 (by rfl) Z.int (by decide +kernel) (pa_cons (pe_callB (call_isET hz hf) (by rfl) Z.isinstance (by decide +kernel) (pa_cons (pv 4) (pa_cons (pe_tup (pa_cons (pe_glob (v := .ref BP) (by rfl) L.gP rfl) (pa_cons (pe_glob (v := .ref BL) (by rfl) L.gL rfl) pa_nil))) pa_nil))) pa_nil)) (fun _ _ => rfl))))
    · have hC : mg c = some (.ref C) := hC
      have e : (if c = "NoSuch" then some true else if c = "Unlike" then some false else none) = some b := e
      by_cases h1 : c = "NoSuch"
      · rw [if_pos h1] at e
        cases e
        rw [h1, X_NoSuch.g] at hC
        cases hC
        exact L.nn
      · rw [if_neg h1] at e
        by_cases h2 : c = "Unlike"
        · rw [if_pos h2] at e
          cases e
          rw [h2, X_Unlike.g] at hC
          cases hC
          exact L.un
        · rw [if_neg h2] at e
          cases e
    · exact run0 X_NoSuch X_Unlike.g L hl S e na q
    · have hC : mg c = some (.ref C) := hC
      have e : (if c = "Unlike" then some true else none) = some b := e
      by_cases h2 : c = "Unlike"
      · rw [if_pos h2] at e
        cases e
        rw [h2, X_Unlike.g] at hC
        cases hC
        exact L.uu
      · rw [if_neg h2] at e
        cases e
    · exact run1 X_Unlike L hl S e na q
end K05
set_option maxHeartbeats 0
namespace K05
open PySem PySem.Spec PyProof.Rows L2 Md NdefX
/-- the __init__ of the i-th statement of the top, a class -/
def ini (i : Nat) : Stmt := match top i with
  | .ClassDef (body := b) .. => b.headD (.Pass ⟨0, 0, 0, 0⟩)
  | s => s
section
variable {P : Program} {w : World} {K : PySem.W.Frag} {mg : Str → Option Value} {base : Heap} {C fI cc cda : Addr}
theorem units3 {A : Around} {env : Env} (h : A.units + 200 < cLine) : (A.deeper env).units < cLine := by
  show A.units + 3 < cLine
  omega
theorem i_BadPart (T : SupC P K mg C fI cc cda "BadPart.__init__" (defArgs (ini 3)) (defBody (ini 3)) (defScope (ini 3))) (hno : ∀ f ∈ (["rule"] : List Str), PySem.W.findIn K (.ref C) f = some none) :
    ∃ fd, FnOk P w K mg base CX0 1 fI fd (("self" : Str) :: ["rule"]) (Er.spInit K C ["rule"]) ∧ Binds K fd (("self" : Str) :: ["rule"]) [] :=
  Er.init1 T (nscope_by (by decide +kernel)) (ar := ((defArgs (ini 3)).args.headD ⟨"", none, ⟨0, 0, 0, 0⟩⟩)) (by rfl) (by rfl) (by rfl) (fun _ _ _ _ _ _ us hl => match us, hl with | [_, _], _ => rfl) (fun _ => rfl) (fun _ => rfl) (fun A outer s H E hu => ⟨_, pe_joined (.cons pe_str (.cons (Er.pe_fmtS (units3 hu) (pv 1)) .nil)), fun σ H' R hv q => by
    obtain ⟨v1, e1, h1⟩ := hv 1 (by decide) (by decide)
    exact Er.msg_ok (R := fun out H1 => R (.str out) H1) (fun x => q x) _ Str.empty (List.forall_mem_cons.mpr ⟨Er.good_str (by decide +kernel), List.forall_mem_cons.mpr ⟨Er.good_fmt e1 h1, List.forall_mem_nil _⟩⟩) (by show 0 + 100000 * 2 ≤ sizeLine; rw [sizeLine_eq]; decide)⟩) (by decide +kernel) (by decide +kernel) (hno _ (by decide +kernel))
theorem i_BadLine (T : SupC P K mg C fI cc cda "BadLine.__init__" (defArgs (ini 4)) (defBody (ini 4)) (defScope (ini 4))) (hno : ∀ f ∈ (["line", "rule"] : List Str), PySem.W.findIn K (.ref C) f = some none) :
    ∃ fd, FnOk P w K mg base CX0 1 fI fd (("self" : Str) :: ["line", "rule"]) (Er.spInit K C ["line", "rule"]) ∧ Binds K fd (("self" : Str) :: ["line", "rule"]) [] :=
  Er.init2 T (nscope_by (by decide +kernel)) (ar := ((defArgs (ini 4)).args.headD ⟨"", none, ⟨0, 0, 0, 0⟩⟩)) (by rfl) (by rfl) (by rfl) (fun _ _ _ _ _ _ us hl => match us, hl with | [_, _, _], _ => rfl) (fun _ => rfl) (fun _ => rfl) (fun A outer s H E hu => ⟨_, pe_joined (.cons pe_str (.cons (Er.pe_fmtS (units3 hu) (pv 1)) (.cons pe_str (.cons (Er.pe_fmtS (units3 hu) (pv 2)) .nil)))), fun σ H' R hv q => by
    obtain ⟨v1, e1, h1⟩ := hv 1 (by decide) (by decide)
    obtain ⟨v2, e2, h2⟩ := hv 2 (by decide) (by decide)
    exact Er.msg_ok (R := fun out H1 => R (.str out) H1) (fun x => q x) _ Str.empty (List.forall_mem_cons.mpr ⟨Er.good_str (by decide +kernel), List.forall_mem_cons.mpr ⟨Er.good_fmt e1 h1, List.forall_mem_cons.mpr ⟨Er.good_str (by decide +kernel), List.forall_mem_cons.mpr ⟨Er.good_fmt e2 h2, List.forall_mem_nil _⟩⟩⟩⟩) (by show 0 + 100000 * 4 ≤ sizeLine; rw [sizeLine_eq]; decide)⟩) (by decide +kernel) (by decide +kernel) (hno _ (by decide +kernel)) (by decide +kernel) (by decide +kernel) (hno _ (by decide +kernel))
theorem i_NoSuch (T : SupC P K mg C fI cc cda "NoSuch.__init__" (defArgs (ini 5)) (defBody (ini 5)) (defScope (ini 5))) (hno : ∀ f ∈ (["name"] : List Str), PySem.W.findIn K (.ref C) f = some none) :
    ∃ fd, FnOk P w K mg base CX0 1 fI fd (("self" : Str) :: ["name"]) (Er.spInit K C ["name"]) ∧ Binds K fd (("self" : Str) :: ["name"]) [] :=
  Er.init1 T (nscope_by (by decide +kernel)) (ar := ((defArgs (ini 5)).args.headD ⟨"", none, ⟨0, 0, 0, 0⟩⟩)) (by rfl) (by rfl) (by rfl) (fun _ _ _ _ _ _ us hl => match us, hl with | [_, _], _ => rfl) (fun _ => rfl) (fun _ => rfl) (fun A outer s H E hu => ⟨_, pe_joined (.cons pe_str (.cons (Er.pe_fmtS (units3 hu) (pv 1)) .nil)), fun σ H' R hv q => by
    obtain ⟨v1, e1, h1⟩ := hv 1 (by decide) (by decide)
    exact Er.msg_ok (R := fun out H1 => R (.str out) H1) (fun x => q x) _ Str.empty (List.forall_mem_cons.mpr ⟨Er.good_str (by decide +kernel), List.forall_mem_cons.mpr ⟨Er.good_fmt e1 h1, List.forall_mem_nil _⟩⟩) (by show 0 + 100000 * 2 ≤ sizeLine; rw [sizeLine_eq]; decide)⟩) (by decide +kernel) (by decide +kernel) (hno _ (by decide +kernel))
theorem i_Unlike (T : SupC P K mg C fI cc cda "Unlike.__init__" (defArgs (ini 6)) (defBody (ini 6)) (defScope (ini 6))) (hno : ∀ f ∈ ([] : List Str), PySem.W.findIn K (.ref C) f = some none) :
    ∃ fd, FnOk P w K mg base CX0 1 fI fd (("self" : Str) :: []) (Er.spInit K C []) ∧ Binds K fd (("self" : Str) :: []) [] :=
  Er.init0 T (nscope_by (by decide +kernel)) (ar := ((defArgs (ini 6)).args.headD ⟨"", none, ⟨0, 0, 0, 0⟩⟩)) (by rfl) (by rfl) (by rfl) (fun _ _ _ _ _ _ us hl => match us, hl with | [_], _ => rfl) (fun _ => rfl) (fun _ => rfl) (fun A outer s H E hu => ⟨_, pe_str, fun σ H' R hv q => q _⟩)
end
abbrev PP : Program := PySem.Challenge.pw_handsroom_k05_without_a_mark
/-! ### what is looked at -/
def clsB (K : PySem.W.Frag) (C : Addr) : Bool := match K.lookup C with
  | some ⟨.type "type", _, .cls cd, sl⟩ => (match cd.mro, sl.toList with
    | .ref C' :: bm, [_, _, _, _, some (.builtin n), _] => C' == C && n == "ValueError.__new__" && !cd.hasDel && cd.hasDict && PySem.HandSPX.refsVE bm
    | _, _ => false)
  | _ => false
theorem clsB_ok {K : PySem.W.Frag} {C : Addr} (q : clsB K C = true) : ∃ nm q N bs bm sn sub ab col dd k0 k1 k2 k3 k5, K.lookup C = some (excClassObj nm q C N bs bm true sn sub ab col dd k0 k1 k2 k3 k5 "ValueError.__new__") ∧ PySem.HandSPX.refsVE bm = true := by
  unfold clsB at q
  split at q
  · rename_i dd cd sl ho
    split at q
    · rename_i C' bm k0 k1 k2 k3 n k5 hm hs
      simp only [Bool.and_eq_true, beq_iff_eq, Bool.not_eq_true'] at q
      obtain ⟨⟨⟨⟨rfl, rfl⟩, hdel⟩, hd⟩, hb⟩ := q
      obtain ⟨nm, bs, mro, ns, qn, hdd, sn, sub, ab, col, del⟩ := cd
      dsimp only at hm hdel hd
      subst hm hdel hd
      have hsl : sl = #[k0, k1, k2, k3, some (.builtin "ValueError.__new__"), k5] := by
        obtain ⟨l⟩ := sl
        simp only at hs
        rw [hs]
      subst hsl
      exact ⟨nm, qn, ns, bs, bm, sn, sub, ab, col, dd, k0, k1, k2, k3, k5, ho, hb⟩
    · cases q
  · cases q
def cellB (K : PySem.W.Frag) (cc C : Addr) : Bool := match K.lookup cc with
  | some ⟨_, _, .cell (some (.ref D)), _⟩ => D == C
  | _ => false
theorem cellB_ok {K : PySem.W.Frag} {cc C : Addr} (q : cellB K cc C = true) : ∃ (cl : Value) (cld : Option Addr) (csl : Array (Option Value)), K.lookup cc = some ⟨cl, cld, .cell (some (.ref C)), csl⟩ := by
  unfold cellB at q
  split at q
  · rename_i cl cld D csl ho
    rw [← beq_iff_eq.mp q]
    exact ⟨cl, cld, csl, ho⟩
  · cases q
def fileB (K : PySem.W.Frag) (cda : Addr) : Bool := match K.lookup cda with
  | some ⟨_, _, .fields vs, _⟩ => (match (vs[2]? : Option Value) with
    | some (.str fl _) => (PP.main.file : Str) == fl
    | _ => false)
  | _ => false
theorem fileB_ok {K : PySem.W.Frag} {cda : Addr} (q : fileB K cda = true) : ∃ (ccl : Value) (cdd : Option Addr) (vs : Array Value) (ccs : Array (Option Value)) (fl : Str) (tf : Tok), K.lookup cda = some ⟨ccl, cdd, .fields vs, ccs⟩ ∧ vs[2]? = some (.str fl tf) ∧ ((PP.main.file : Str) == fl) = true := by
  unfold fileB at q
  split at q
  · rename_i ccl cdd vs ccs ho
    split at q
    · rename_i fl tf hv
      exact ⟨ccl, cdd, vs, ccs, fl, tf, ho, hv, q⟩
    · cases q
  · cases q
def cloB (K : PySem.W.Frag) (C : Addr) (qn : Str) (clo : List (Str × Addr)) (dfl cod : Value) : Bool := match clo, dfl, cod with
  | [(_, cc)], .none, .ref cda => PySem.W.codeIn K (.ref cda) qn && (cellB K cc C && fileB K cda)
  | _, _, _ => false
theorem cloB_ok {K : PySem.W.Frag} {C : Addr} {qn : Str} {clo : List (Str × Addr)} {dfl cod : Value} (h : cloB K C qn clo dfl cod = true) : ∃ n0 cc cda, clo = [(n0, cc)] ∧ dfl = .none ∧ cod = .ref cda ∧ PySem.W.codeIn K (.ref cda) qn = true ∧ cellB K cc C = true ∧ fileB K cda = true := by
  unfold cloB at h
  split at h
  · rename_i n0 cc cda
    obtain ⟨y1, y2⟩ := He.ba h
    obtain ⟨y3, y4⟩ := He.ba y2
    exact ⟨n0, cc, cda, rfl, rfl, rfl, y1, y3, y4⟩
  · cases h
def fnB (K : PySem.W.Frag) (C fI : Addr) : Bool := match K.lookup fI with
  | some ⟨_, _, .func fd, _⟩ => cloB K C fd.qualname fd.closure fd.defaults fd.code
  | _ => false
abbrev FnE : Type := Option (Str × Arguments × FuncBody × Scope × Addr × List Str × Addr)
def fnE (K : PySem.W.Frag) (x : Str) : FnE := match K.lookup (He.ma K (He.ga K x) "__init__") with
  | some ⟨_, _, .func fd, _⟩ => some (fd.qualname, fd.params, fd.body, fd.scope, fd.globals, fd.closure.map (·.1), fd.builtins)
  | _ => none
def valE (q : Str × Str × Nat) : FnE := some (q.2.1, defArgs (ini q.2.2), .stmts (defBody (ini q.2.2)), defScope (ini q.2.2), mainGlobals, ["__class__"], builtinsNs)
def nextB (K : PySem.W.Frag) (C : Addr) : Bool := match PySem.W.clsIn K C with
  | some cd => He.eqO (PySem.W.alongIn K "__init__" ((cd.mro.dropWhile (· != .ref C)).drop 1)) (some (some (.builtin "ValueError.__init__")))
  | none => false
theorem nextB_ok {K : PySem.W.Frag} {C : Addr} (q : nextB K C = true) : ∃ cd, PySem.W.clsIn K C = some cd ∧ PySem.W.alongIn K "__init__" ((cd.mro.dropWhile (· != .ref C)).drop 1) = some (some (.builtin "ValueError.__init__")) := by
  unfold nextB at q
  split at q
  · rename_i cd hc
    exact ⟨cd, hc, He.eqO_ok q⟩
  · cases q
def oxB (K : PySem.W.Frag) (C : Addr) : Bool := clsB K C && (He.eqO (PySem.W.findIn K (.ref C) "__setattr__") (some (some (.builtin "object.__setattr__"))) && (decide (PySem.W.subIn K (.ref C) (.type "BaseException") = some true) && (decide (PySem.W.typeIn K (.ref C) = some (.type "type")) && PySem.W.keepIn K (.ref C))))
theorem oxB_ok {K : PySem.W.Frag} {C : Addr} (q : oxB K C = true) : OexC K C := by
  obtain ⟨h1, q⟩ := He.ba q
  obtain ⟨h2, q⟩ := He.ba q
  obtain ⟨h3, q⟩ := He.ba q
  obtain ⟨h4, h5⟩ := He.ba q
  exact ⟨clsB_ok h1, He.eqO_ok h2, of_decide_eq_true h3, of_decide_eq_true h4, h5⟩
def ecB (K : PySem.W.Frag) (C : Addr) : Bool := xfB K C && (He.eqO (PySem.W.findIn K (.ref C) "__class__") (some (some (.builtin "object.__class__"))) && (decide (PySem.W.mroIn K C (.type "object") = some true) && (decide (PySem.W.mroIn K C (.ref C) = some true) && decide (PySem.W.subIn K (.ref C) (.type "ValueError") = some true))))
def gsB (K : PySem.W.Frag) : Bool := He.eqO (PySem.W.specialIn K (.builtin "object.__class__") "__get__") (some (some (.builtin "getset_descriptor.__get__"))) && (decide (PySem.W.takesIn K (.builtin "object.__class__") = some true) && He.eqO (PySem.W.nsIn K cStatics "thirdparty.any") (some none))
def exB (K : PySem.W.Frag) (C : Addr) (fns : List Str) : Bool := oxB K C && (ecB K C && (nextB K C && (He.eqO (PySem.W.findIn K (.ref C) "__init__") (some (some (.ref (He.ma K C "__init__")))) && (decide (PySem.W.typeIn K (.ref (He.ma K C "__init__")) = some (.type "function")) && (fnB K C (He.ma K C "__init__") && fns.all fun f => He.eqO (PySem.W.findIn K (.ref C) f) (some none))))))
def tab : List (Str × List Str) := [("BadPart", ["rule"]), ("BadLine", ["line", "rule"]), ("NoSuch", ["name"]), ("Unlike", [])]
def kits (K : PySem.W.Frag) : Bool := (He.eqO (PySem.W.findIn K (.ref (He.ga K "Signature")) "__class__") (some (some (.builtin "object.__class__"))) && (decide (PySem.W.mroIn K (He.ga K "Signature") (.type "object") = some true) && (PySem.W.selfFirst K (He.ga K "Signature") && (decide (PySem.W.kitOne K (.ref (He.ga K "Signature")) (.type "bool") = some false) && (decide (PySem.W.kitOne K (.ref (He.ga K "Signature")) (.type "int") = some false) && (decide (PySem.W.kitOne K (.ref (He.ga K "Signature")) (.type "str") = some false) && (decide (PySem.W.kitOne K (.ref (He.ga K "Signature")) (.type "tuple") = some false) && (decide (PySem.W.kitOne K (.ref (He.ga K "Signature")) (.ref (He.ga K "Hall")) = some false) && (decide (PySem.W.kitOne K (.ref (He.ga K "Signature")) (.ref (He.ga K "Signature")) = some true) && (He.eqO (PySem.W.findIn K (.ref (He.ga K "Hall")) "__class__") (some (some (.builtin "object.__class__"))) && (decide (PySem.W.mroIn K (He.ga K "Hall") (.type "object") = some true) && (PySem.W.selfFirst K (He.ga K "Hall") && (decide (PySem.W.kitOne K (.ref (He.ga K "Hall")) (.type "bool") = some false) && (decide (PySem.W.kitOne K (.ref (He.ga K "Hall")) (.type "int") = some false) && (decide (PySem.W.kitOne K (.ref (He.ga K "Hall")) (.type "str") = some false) && (decide (PySem.W.kitOne K (.ref (He.ga K "Hall")) (.type "tuple") = some false) && (decide (PySem.W.kitOne K (.ref (He.ga K "Hall")) (.ref (He.ga K "Hall")) = some true) && (decide (PySem.W.kitOne K (.ref (He.ga K "Hall")) (.ref (He.ga K "Signature")) = some false) && (decide (PySem.W.kitOne K (.type "NoneType") (.ref (He.ga K "Hall")) = some false) && (decide (PySem.W.kitOne K (.type "bool") (.ref (He.ga K "Hall")) = some false) && (decide (PySem.W.kitOne K (.type "int") (.ref (He.ga K "Hall")) = some false) && (decide (PySem.W.kitOne K (.type "str") (.ref (He.ga K "Hall")) = some false) && (decide (PySem.W.kitOne K (.type "list") (.ref (He.ga K "Hall")) = some false) && (decide (PySem.W.kitOne K (.type "tuple") (.ref (He.ga K "Hall")) = some false) && (decide (PySem.W.kitOne K (.type "NoneType") (.ref (He.ga K "Signature")) = some false) && (decide (PySem.W.kitOne K (.type "bool") (.ref (He.ga K "Signature")) = some false) && (decide (PySem.W.kitOne K (.type "int") (.ref (He.ga K "Signature")) = some false) && (decide (PySem.W.kitOne K (.type "str") (.ref (He.ga K "Signature")) = some false) && (decide (PySem.W.kitOne K (.type "list") (.ref (He.ga K "Signature")) = some false) && (decide (PySem.W.kitOne K (.type "tuple") (.ref (He.ga K "Signature")) = some false) && (decide (PySem.W.exmOne K (.ref (He.ga K "NoSuch")) (.ref (He.ga K "NoSuch")) = some true) && (decide (PySem.W.exmOne K (.ref (He.ga K "Unlike")) (.ref (He.ga K "NoSuch")) = some false) && (decide (PySem.W.exmOne K (.ref (He.ga K "Unlike")) (.ref (He.ga K "Unlike")) = some true) && (decide (PySem.W.kitAny K (.ref (He.ga K "NoSuch")) [.ref (He.ga K "Unlike"), .ref (He.ga K "BadPart"), .ref (He.ga K "BadLine")] = some false) && (decide (PySem.W.kitAny K (.ref (He.ga K "Unlike")) [.ref (He.ga K "BadPart"), .ref (He.ga K "BadLine")] = some false) && (He.tupB K "RESERVED" ((["lock", "kind", "body", "routine", "done", "do", "with", "block", "either", "or", "repeat", "close", "drop", "give", "skip", "make", "copy", "fetch", "read", "keep", "write", "put", "call", "take", "as"] : List Str).map He.Dv.str) && true))))))))))))))))))))))))))))))))))))
def exAll (K : PySem.W.Frag) : Bool := gsB K && ((tab.all fun p => exB K (He.ga K p.1) p.2) && kits K)
def fa : List He.Fa := [.glo "is_integer", .glo "has_repeat", .glo "is_name", .glo "is_mark", .glo "all_marks", .glo "needed_marks", .glo "parts_rule", .glo "mark_word", .glo "is_description", .glo "lock_rule", .glo "kind_rule", .glo "hall_fault", .glo "_law_draws", .glo "_law_next", .glo "_law_pool", .glo "_law_parts", .glo "_law_hall", .glo "_law_all_marks", .glo "_law_needs", .glo "_law_closed", .glo "_law_signed", .glo "_law_gives", .glo "_law_left", .glo "_law_fits", .glo "_law_less", .glo "law", .glo "HandsError", .glo "BadPart", .glo "BadLine", .glo "NoSuch", .glo "Unlike", .glo "Signature", .glo "Hall", .glo "RESERVED", .str "_LETTERS" "abcdefghijklmnopqrstuvwxyz", .str "_DIGITS" "0123456789", .int "_MOST_CHARACTERS" 8, .int "_MOST_PLACES" 3, .int "_MOST_LOCKS" 4, .int "_MOST_KINDS" 3, .free "len", .free "abs", .free "any", .free "all", .free "sum", .free "int", .free "str", .free "bool", .free "tuple", .free "list", .free "isinstance", .free "range", .free "enumerate", .free "super", .cls "Signature", .mkr "Signature", .noat "Signature" "hall", .noat "Signature" "places", .noat "Signature" "marks", .noat "Signature" "takes", .noat "Signature" "under", .noat "Signature" "writes", .noat "Signature" "gives", .noat "Signature" "shares", .noat "Signature" "is_giving", .meth "Signature" "__eq__", .meth "Signature" "__len__", .meth "Signature" "__contains__", .meth "Signature" "alike", .meth "Signature" "__or__", .meth "Signature" "_kept_to", .meth "Signature" "__and__", .meth "Signature" "__sub__", .meth "Signature" "within", .cls "Hall", .mkr "Hall", .noat "Hall" "locks", .noat "Hall" "descriptions", .noat "Hall" "kinds", .noat "Hall" "sorts", .meth "Hall" "_description_of", .meth "Hall" "guard_of", .meth "Hall" "__eq__"]
def fn : List He.DefD := [⟨("is_integer", none), "is_integer", "is_integer", defArgs s_is_integer, defBody s_is_integer, defScope s_is_integer, [], []⟩, ⟨("has_repeat", none), "has_repeat", "has_repeat", defArgs s_has_repeat, defBody s_has_repeat, defScope s_has_repeat, [], []⟩, ⟨("is_name", none), "is_name", "is_name", defArgs s_is_name, defBody s_is_name, defScope s_is_name, [], []⟩, ⟨("is_mark", none), "is_mark", "is_mark", defArgs s_is_mark, defBody s_is_mark, defScope s_is_mark, [], []⟩, ⟨("all_marks", none), "all_marks", "all_marks", defArgs s_all_marks, defBody s_all_marks, defScope s_all_marks, [], []⟩, ⟨("Hall", some "_description_of"), "_description_of", "Hall._description_of", defArgs s_Hall_description_of, defBody s_Hall_description_of, defScope s_Hall_description_of, [], []⟩, ⟨("Hall", some "guard_of"), "guard_of", "Hall.guard_of", defArgs s_Hall_guard_of, defBody s_Hall_guard_of, defScope s_Hall_guard_of, [], []⟩, ⟨("needed_marks", none), "needed_marks", "needed_marks", defArgs s_needed_marks, defBody s_needed_marks, defScope s_needed_marks, [], []⟩, ⟨("parts_rule", none), "parts_rule", "parts_rule", defArgs s_parts_rule, defBody s_parts_rule, defScope s_parts_rule, [], []⟩, ⟨("mark_word", none), "mark_word", "mark_word", defArgs s_mark_word, defBody s_mark_word, defScope s_mark_word, [], []⟩, ⟨("Signature", some "__init__"), "__init__", "Signature.__init__", defArgs s_Signature_init, defBody s_Signature_init, defScope s_Signature_init, [], []⟩, ⟨("Hall", some "__eq__"), "__eq__", "Hall.__eq__", defArgs s_Hall_eq, defBody s_Hall_eq, defScope s_Hall_eq, [], []⟩, ⟨("Signature", some "__eq__"), "__eq__", "Signature.__eq__", defArgs s_Signature_eq, defBody s_Signature_eq, defScope s_Signature_eq, [], []⟩, ⟨("Signature", some "__len__"), "__len__", "Signature.__len__", defArgs s_Signature_len, defBody s_Signature_len, defScope s_Signature_len, [], []⟩, ⟨("Signature", some "__contains__"), "__contains__", "Signature.__contains__", defArgs s_Signature_contains, defBody s_Signature_contains, defScope s_Signature_contains, [], []⟩, ⟨("Signature", some "alike"), "alike", "Signature.alike", defArgs s_Signature_alike, defBody s_Signature_alike, defScope s_Signature_alike, [], []⟩, ⟨("Signature", some "__or__"), "__or__", "Signature.__or__", defArgs s_Signature_or, defBody s_Signature_or, defScope s_Signature_or, [], []⟩, ⟨("Signature", some "_kept_to"), "_kept_to", "Signature._kept_to", defArgs s_Signature_kept_to, defBody s_Signature_kept_to, defScope s_Signature_kept_to, [], []⟩, ⟨("Signature", some "__and__"), "__and__", "Signature.__and__", defArgs s_Signature_and, defBody s_Signature_and, defScope s_Signature_and, [], []⟩, ⟨("Signature", some "__sub__"), "__sub__", "Signature.__sub__", defArgs s_Signature_sub, defBody s_Signature_sub, defScope s_Signature_sub, [], []⟩, ⟨("Signature", some "within"), "within", "Signature.within", defArgs s_Signature_within, defBody s_Signature_within, defScope s_Signature_within, [], []⟩, ⟨("is_description", none), "is_description", "is_description", defArgs s_is_description, defBody s_is_description, defScope s_is_description, [], []⟩, ⟨("lock_rule", none), "lock_rule", "lock_rule", defArgs s_lock_rule, defBody s_lock_rule, defScope s_lock_rule, [], []⟩, ⟨("kind_rule", none), "kind_rule", "kind_rule", defArgs s_kind_rule, defBody s_kind_rule, defScope s_kind_rule, [], []⟩, ⟨("hall_fault", none), "hall_fault", "hall_fault", defArgs s_hall_fault, defBody s_hall_fault, defScope s_hall_fault, [], []⟩, ⟨("Hall", some "__init__"), "__init__", "Hall.__init__", defArgs s_Hall_init, defBody s_Hall_init, defScope s_Hall_init, [], []⟩, ⟨("_law_draws", none), "_law_draws", "_law_draws", defArgs s__law_draws, defBody s__law_draws, defScope s__law_draws, [], []⟩, ⟨("_law_next", none), "_law_next", "_law_next", defArgs s__law_next, defBody s__law_next, defScope s__law_next, [], []⟩, ⟨("_law_pool", none), "_law_pool", "_law_pool", defArgs s__law_pool, defBody s__law_pool, defScope s__law_pool, [], []⟩, ⟨("_law_parts", none), "_law_parts", "_law_parts", defArgs s__law_parts, defBody s__law_parts, defScope s__law_parts, [], []⟩, ⟨("_law_hall", none), "_law_hall", "_law_hall", defArgs s__law_hall, defBody s__law_hall, defScope s__law_hall, [], []⟩, ⟨("_law_all_marks", none), "_law_all_marks", "_law_all_marks", defArgs s__law_all_marks, defBody s__law_all_marks, defScope s__law_all_marks, [], []⟩, ⟨("_law_needs", none), "_law_needs", "_law_needs", defArgs s__law_needs, defBody s__law_needs, defScope s__law_needs, [], []⟩, ⟨("_law_closed", none), "_law_closed", "_law_closed", defArgs s__law_closed, defBody s__law_closed, defScope s__law_closed, [], []⟩, ⟨("_law_signed", none), "_law_signed", "_law_signed", defArgs s__law_signed, defBody s__law_signed, defScope s__law_signed, [], []⟩, ⟨("_law_gives", none), "_law_gives", "_law_gives", defArgs s__law_gives, defBody s__law_gives, defScope s__law_gives, [], []⟩, ⟨("_law_left", none), "_law_left", "_law_left", defArgs s__law_left, defBody s__law_left, defScope s__law_left, [], []⟩, ⟨("_law_fits", none), "_law_fits", "_law_fits", defArgs s__law_fits, defBody s__law_fits, defScope s__law_fits, [], []⟩, ⟨("_law_less", none), "_law_less", "_law_less", defArgs s__law_less, defBody s__law_less, defScope s__law_less, [], []⟩, ⟨("law", none), "law", "law", defArgs s_law, defBody s_law, defScope s_law, [], []⟩]
def ecl : List (Str × Str × Nat) := [("BadPart", "BadPart.__init__", 3), ("BadLine", "BadLine.__init__", 4), ("NoSuch", "NoSuch.__init__", 5), ("Unlike", "Unlike.__init__", 6)]
abbrev AlE : Type := He.AlD × Bool × List FnE
def obsK (K : PySem.W.Frag) : AlE := (He.obsD fa fn K, exAll K, ecl.map fun q => fnE K q.1)
def obsE (g : Addr → Option Obj) : AlE := obsK (He.frG g (cStatics :: He.asD g 4))
def valA : AlE := (He.valD fn, true, ecl.map valE)
structure SaysE (K : PySem.W.Frag) : Prop where
  d : He.SaysD fa fn K
  ex : exAll K = true
  fe : (ecl.map fun q => fnE K q.1) = ecl.map valE
theorem saysE_of {K : PySem.W.Frag} (e : obsK K = valA) : SaysE K :=
  ⟨congrArg (fun z : AlE => z.1) e, congrArg (fun z : AlE => z.2.1) e, congrArg (fun z : AlE => z.2.2) e⟩
def hookE : PySem.W.Hook where
  α := AlE
  obs := fun s => obsE s.heap.get?
  val := fun _ => valA
  says := fun _ h => ∃ K : PySem.W.Frag, K.In h ∧ SaysE K
  of := fun _ _ e => ⟨_, He.frG_in, saysE_of e⟩
  keeps := fun _ _ _ ⟨K, hK, c⟩ k => ⟨K, PySem.W.Frag.In.keeps hK k, c⟩
/-! ### the facts used -/
theorem all_at {α : Type} {l : List α} {f : α → Bool} (h : l.all f = true) {j : Nat} {p : α} (e : l[j]? = some p) : f p = true := List.all_eq_true.mp h p (List.mem_of_getElem? e)
theorem all_atH {α : Type} {l : List α} {f : α → Bool} (h : l.all f = true) {j : Nat} {p : α} (e : l[j]? = some p) : f p = true := List.all_eq_true.mp h p (List.mem_of_getElem? e)
section
variable {K : PySem.W.Frag} {mg : Str → Option Value} {w : World} {base : Heap}
theorem sup_of (c : SaysE K) (hs : mg "super" = none) {j : Nat} {p : Str × List Str} {q : Str × Str × Nat} (e : tab[j]? = some p) (e2 : ecl[j]? = some q) (hq : q.1 = p.1) :
    OexC K (He.ga K p.1) ∧ XfC K (He.ga K p.1) ∧ ExcC K (He.ga K p.1) ∧ (∀ f ∈ p.2, PySem.W.findIn K (.ref (He.ga K p.1)) f = some none) ∧
      ∃ fI cc cda, SupC PP K mg (He.ga K p.1) fI cc cda q.2.1 (defArgs (ini q.2.2)) (defBody (ini q.2.2)) (defScope (ini q.2.2)) := by
  obtain ⟨g, h⟩ := He.ba c.ex
  obtain ⟨h, _⟩ := He.ba h
  have h := all_atH h e
  obtain ⟨g1, g⟩ := He.ba g
  obtain ⟨g2, g3⟩ := He.ba g
  obtain ⟨h1, h⟩ := He.ba h
  obtain ⟨h2, h⟩ := He.ba h
  obtain ⟨h3, h⟩ := He.ba h
  obtain ⟨h4, h⟩ := He.ba h
  obtain ⟨h5, h⟩ := He.ba h
  obtain ⟨h6, h7⟩ := He.ba h
  obtain ⟨x1, h2⟩ := He.ba h2
  obtain ⟨x2, h2⟩ := He.ba h2
  obtain ⟨x3, h2⟩ := He.ba h2
  obtain ⟨x4, x5⟩ := He.ba h2
  have O := oxB_ok h1
  have F := xfB_ok x1
  refine ⟨O, F, ⟨F.ga, F.gg, F.exC, F.hdC, He.eqO_ok x2, He.eqO_ok g1, of_decide_eq_true g2, of_decide_eq_true x3⟩, fun f hf => He.eqO_ok (List.all_eq_true.mp h7 f hf), ?_⟩
  have fe : (ecl.map fun q => fnE K q.1)[j]? = (ecl.map valE)[j]? := by rw [c.fe]
  rw [List.getElem?_map, List.getElem?_map, e2] at fe
  have fe : fnE K q.1 = valE q := Option.some.inj fe
  unfold fnB at h6
  rw [hq] at fe
  unfold fnE at fe
  cases hk : K.lookup (He.ma K (He.ga K p.1) "__init__") with
  | none =>
    rw [hk] at h6
    cases h6
  | some o =>
    obtain ⟨oc, od, dt, osl⟩ := o
    rw [hk] at h6 fe
    cases dt with
    | func fd =>
      obtain ⟨nm, qn, pa, bo, sc, gl, clo, dfl, kwd, doc, pm, an, cod, ct, bl⟩ := fd
      have fe2 : (qn, pa, bo, sc, gl, clo.map (·.1), bl) = (q.2.1, defArgs (ini q.2.2), FuncBody.stmts (defBody (ini q.2.2)), defScope (ini q.2.2), mainGlobals, [("__class__" : Str)], builtinsNs) := Option.some.inj fe
      simp only [Prod.mk.injEq] at fe2
      obtain ⟨rfl, rfl, rfl, rfl, rfl, ec, rfl⟩ := fe2
      obtain ⟨n0, cc, cda, rfl, rfl, rfl, y1, y3, y4⟩ := cloB_ok (show cloB K (He.ga K p.1) q.2.1 clo dfl cod = true from h6)
      have en : n0 = "__class__" := (List.cons.inj ec).1
      subst en
      exact ⟨_, cc, cda, ⟨O, He.eqO_ok h4, of_decide_eq_true h5, ⟨oc, od, osl, nm, kwd, doc, pm, ct, an, hk⟩, y1, cellB_ok y3, fileB_ok y4, hs, by decide +kernel, He.eqO_ok g3, nextB_ok h3, of_decide_eq_true x4, of_decide_eq_true x5⟩⟩
    | _ => cases h6
end
end K05
set_option maxHeartbeats 0
namespace K05
open PySem PySem.Spec PyProof.Rows L2 Md
abbrev RR : PySem.W.OpenRow := PySem.W.OpenLaw.row PySem.Challenge.rw_handsroom_k05_without_a_mark
def n1 : List PySem.Str := ["_wall", "HandsError", "BadPart", "BadLine", "NoSuch", "Unlike", "is_integer", "has_repeat", "RESERVED", "_LETTERS", "_DIGITS", "_MOST_CHARACTERS", "is_name", "_MOST_PLACES", "is_mark", "all_marks", "needed_marks", "parts_rule", "mark_word", "word_mark", "written_parts", "written_rule"]
def n2 : List PySem.Str := ["Signature", "read_signature", "_MOST_LOCKS", "_MOST_KINDS", "is_description", "lock_rule", "kind_rule", "hall_fault", "Hall", "_law_draws", "_law_next", "_law_pool", "_law_parts", "_law_hall", "_law_all_marks", "_law_needs", "_law_closed", "_law_signed", "_law_gives", "_law_left", "_law_less", "_law_fits"] 
def names : List PySem.Str := n1 ++ n2
def ob (s : PySem.W.SharedT) : AlE := obsE (HandSHeadRun.getT s)
theorem ob_eq (s : PySem.W.SharedT) : ob s = hookE.obs s.abs := by
  have e : HandSHeadRun.getT s = s.abs.heap.get? := funext fun a => HandSHeadRun.getT_eq s a
  show obsE (HandSHeadRun.getT s) = obsE s.abs.heap.get?
  rw [e]
theorem run (w : World) : HandSHeadRun.RunEq RR (PySem.W.view RR.prog [50]) hookE ob 9000 names w := by
  intro os
  kernel_rfl
end K05
set_option maxHeartbeats 0
namespace K05
open PySem PySem.Spec PyProof.Rows L2 Md
theorem facts {w : World} {K : PySem.W.Frag} {h : Heap} {mg : Str → Option Value} {f : Addr} (X : K.In h) (G : h.Ns mainGlobals mg) (hfa : mg ("law" : Str) = some (.ref f)) (c : SaysE K) :
    ∃ fd : FuncData, (∀ (s : Shared) (v : Value), BindsTo s fd ⟨[v], []⟩ [("_law_script", v)]) ∧ ∀ base : Heap, K.In base → base.Ns mainGlobals mg → FnOk PP w K mg base CX0 20 f fd ["_law_script"] (spIn K mg 1 m_law) := by
  obtain ⟨fd_is_integer, FD_is_integer⟩ := c.d.def_ 0 (d := ⟨("is_integer", none), "is_integer", "is_integer", defArgs s_is_integer, defBody s_is_integer, defScope s_is_integer, [], []⟩) rfl
  obtain ⟨fd_has_repeat, FD_has_repeat⟩ := c.d.def_ 1 (d := ⟨("has_repeat", none), "has_repeat", "has_repeat", defArgs s_has_repeat, defBody s_has_repeat, defScope s_has_repeat, [], []⟩) rfl
  obtain ⟨fd_is_name, FD_is_name⟩ := c.d.def_ 2 (d := ⟨("is_name", none), "is_name", "is_name", defArgs s_is_name, defBody s_is_name, defScope s_is_name, [], []⟩) rfl
  obtain ⟨fd_is_mark, FD_is_mark⟩ := c.d.def_ 3 (d := ⟨("is_mark", none), "is_mark", "is_mark", defArgs s_is_mark, defBody s_is_mark, defScope s_is_mark, [], []⟩) rfl
  obtain ⟨fd_all_marks, FD_all_marks⟩ := c.d.def_ 4 (d := ⟨("all_marks", none), "all_marks", "all_marks", defArgs s_all_marks, defBody s_all_marks, defScope s_all_marks, [], []⟩) rfl
  obtain ⟨fd_Hall_description_of, FD_Hall_description_of⟩ := c.d.def_ 5 (d := ⟨("Hall", some "_description_of"), "_description_of", "Hall._description_of", defArgs s_Hall_description_of, defBody s_Hall_description_of, defScope s_Hall_description_of, [], []⟩) rfl
  obtain ⟨fd_Hall_guard_of, FD_Hall_guard_of⟩ := c.d.def_ 6 (d := ⟨("Hall", some "guard_of"), "guard_of", "Hall.guard_of", defArgs s_Hall_guard_of, defBody s_Hall_guard_of, defScope s_Hall_guard_of, [], []⟩) rfl
  obtain ⟨fd_needed_marks, FD_needed_marks⟩ := c.d.def_ 7 (d := ⟨("needed_marks", none), "needed_marks", "needed_marks", defArgs s_needed_marks, defBody s_needed_marks, defScope s_needed_marks, [], []⟩) rfl
  obtain ⟨fd_parts_rule, FD_parts_rule⟩ := c.d.def_ 8 (d := ⟨("parts_rule", none), "parts_rule", "parts_rule", defArgs s_parts_rule, defBody s_parts_rule, defScope s_parts_rule, [], []⟩) rfl
  obtain ⟨fd_mark_word, FD_mark_word⟩ := c.d.def_ 9 (d := ⟨("mark_word", none), "mark_word", "mark_word", defArgs s_mark_word, defBody s_mark_word, defScope s_mark_word, [], []⟩) rfl
  obtain ⟨fd_Signature_init, FD_Signature_init⟩ := c.d.def_ 10 (d := ⟨("Signature", some "__init__"), "__init__", "Signature.__init__", defArgs s_Signature_init, defBody s_Signature_init, defScope s_Signature_init, [], []⟩) rfl
  obtain ⟨fd_Hall_eq, FD_Hall_eq⟩ := c.d.def_ 11 (d := ⟨("Hall", some "__eq__"), "__eq__", "Hall.__eq__", defArgs s_Hall_eq, defBody s_Hall_eq, defScope s_Hall_eq, [], []⟩) rfl
  obtain ⟨fd_Signature_eq, FD_Signature_eq⟩ := c.d.def_ 12 (d := ⟨("Signature", some "__eq__"), "__eq__", "Signature.__eq__", defArgs s_Signature_eq, defBody s_Signature_eq, defScope s_Signature_eq, [], []⟩) rfl
  obtain ⟨fd_Signature_len, FD_Signature_len⟩ := c.d.def_ 13 (d := ⟨("Signature", some "__len__"), "__len__", "Signature.__len__", defArgs s_Signature_len, defBody s_Signature_len, defScope s_Signature_len, [], []⟩) rfl
  obtain ⟨fd_Signature_contains, FD_Signature_contains⟩ := c.d.def_ 14 (d := ⟨("Signature", some "__contains__"), "__contains__", "Signature.__contains__", defArgs s_Signature_contains, defBody s_Signature_contains, defScope s_Signature_contains, [], []⟩) rfl
  obtain ⟨fd_Signature_alike, FD_Signature_alike⟩ := c.d.def_ 15 (d := ⟨("Signature", some "alike"), "alike", "Signature.alike", defArgs s_Signature_alike, defBody s_Signature_alike, defScope s_Signature_alike, [], []⟩) rfl
  obtain ⟨fd_Signature_or, FD_Signature_or⟩ := c.d.def_ 16 (d := ⟨("Signature", some "__or__"), "__or__", "Signature.__or__", defArgs s_Signature_or, defBody s_Signature_or, defScope s_Signature_or, [], []⟩) rfl
  obtain ⟨fd_Signature_kept_to, FD_Signature_kept_to⟩ := c.d.def_ 17 (d := ⟨("Signature", some "_kept_to"), "_kept_to", "Signature._kept_to", defArgs s_Signature_kept_to, defBody s_Signature_kept_to, defScope s_Signature_kept_to, [], []⟩) rfl
  obtain ⟨fd_Signature_and, FD_Signature_and⟩ := c.d.def_ 18 (d := ⟨("Signature", some "__and__"), "__and__", "Signature.__and__", defArgs s_Signature_and, defBody s_Signature_and, defScope s_Signature_and, [], []⟩) rfl
  obtain ⟨fd_Signature_sub, FD_Signature_sub⟩ := c.d.def_ 19 (d := ⟨("Signature", some "__sub__"), "__sub__", "Signature.__sub__", defArgs s_Signature_sub, defBody s_Signature_sub, defScope s_Signature_sub, [], []⟩) rfl
  obtain ⟨fd_Signature_within, FD_Signature_within⟩ := c.d.def_ 20 (d := ⟨("Signature", some "within"), "within", "Signature.within", defArgs s_Signature_within, defBody s_Signature_within, defScope s_Signature_within, [], []⟩) rfl
  obtain ⟨fd_is_description, FD_is_description⟩ := c.d.def_ 21 (d := ⟨("is_description", none), "is_description", "is_description", defArgs s_is_description, defBody s_is_description, defScope s_is_description, [], []⟩) rfl
  obtain ⟨fd_lock_rule, FD_lock_rule⟩ := c.d.def_ 22 (d := ⟨("lock_rule", none), "lock_rule", "lock_rule", defArgs s_lock_rule, defBody s_lock_rule, defScope s_lock_rule, [], []⟩) rfl
  obtain ⟨fd_kind_rule, FD_kind_rule⟩ := c.d.def_ 23 (d := ⟨("kind_rule", none), "kind_rule", "kind_rule", defArgs s_kind_rule, defBody s_kind_rule, defScope s_kind_rule, [], []⟩) rfl
  obtain ⟨fd_hall_fault, FD_hall_fault⟩ := c.d.def_ 24 (d := ⟨("hall_fault", none), "hall_fault", "hall_fault", defArgs s_hall_fault, defBody s_hall_fault, defScope s_hall_fault, [], []⟩) rfl
  obtain ⟨fd_Hall_init, FD_Hall_init⟩ := c.d.def_ 25 (d := ⟨("Hall", some "__init__"), "__init__", "Hall.__init__", defArgs s_Hall_init, defBody s_Hall_init, defScope s_Hall_init, [], []⟩) rfl
  obtain ⟨fd__law_draws, FD__law_draws⟩ := c.d.def_ 26 (d := ⟨("_law_draws", none), "_law_draws", "_law_draws", defArgs s__law_draws, defBody s__law_draws, defScope s__law_draws, [], []⟩) rfl
  obtain ⟨fd__law_next, FD__law_next⟩ := c.d.def_ 27 (d := ⟨("_law_next", none), "_law_next", "_law_next", defArgs s__law_next, defBody s__law_next, defScope s__law_next, [], []⟩) rfl
  obtain ⟨fd__law_pool, FD__law_pool⟩ := c.d.def_ 28 (d := ⟨("_law_pool", none), "_law_pool", "_law_pool", defArgs s__law_pool, defBody s__law_pool, defScope s__law_pool, [], []⟩) rfl
  obtain ⟨fd__law_parts, FD__law_parts⟩ := c.d.def_ 29 (d := ⟨("_law_parts", none), "_law_parts", "_law_parts", defArgs s__law_parts, defBody s__law_parts, defScope s__law_parts, [], []⟩) rfl
  obtain ⟨fd__law_hall, FD__law_hall⟩ := c.d.def_ 30 (d := ⟨("_law_hall", none), "_law_hall", "_law_hall", defArgs s__law_hall, defBody s__law_hall, defScope s__law_hall, [], []⟩) rfl
  obtain ⟨fd__law_all_marks, FD__law_all_marks⟩ := c.d.def_ 31 (d := ⟨("_law_all_marks", none), "_law_all_marks", "_law_all_marks", defArgs s__law_all_marks, defBody s__law_all_marks, defScope s__law_all_marks, [], []⟩) rfl
  obtain ⟨fd__law_needs, FD__law_needs⟩ := c.d.def_ 32 (d := ⟨("_law_needs", none), "_law_needs", "_law_needs", defArgs s__law_needs, defBody s__law_needs, defScope s__law_needs, [], []⟩) rfl
  obtain ⟨fd__law_closed, FD__law_closed⟩ := c.d.def_ 33 (d := ⟨("_law_closed", none), "_law_closed", "_law_closed", defArgs s__law_closed, defBody s__law_closed, defScope s__law_closed, [], []⟩) rfl
  obtain ⟨fd__law_signed, FD__law_signed⟩ := c.d.def_ 34 (d := ⟨("_law_signed", none), "_law_signed", "_law_signed", defArgs s__law_signed, defBody s__law_signed, defScope s__law_signed, [], []⟩) rfl
  obtain ⟨fd__law_gives, FD__law_gives⟩ := c.d.def_ 35 (d := ⟨("_law_gives", none), "_law_gives", "_law_gives", defArgs s__law_gives, defBody s__law_gives, defScope s__law_gives, [], []⟩) rfl
  obtain ⟨fd__law_left, FD__law_left⟩ := c.d.def_ 36 (d := ⟨("_law_left", none), "_law_left", "_law_left", defArgs s__law_left, defBody s__law_left, defScope s__law_left, [], []⟩) rfl
  obtain ⟨fd__law_fits, FD__law_fits⟩ := c.d.def_ 37 (d := ⟨("_law_fits", none), "_law_fits", "_law_fits", defArgs s__law_fits, defBody s__law_fits, defScope s__law_fits, [], []⟩) rfl
  obtain ⟨fd__law_less, FD__law_less⟩ := c.d.def_ 38 (d := ⟨("_law_less", none), "_law_less", "_law_less", defArgs s__law_less, defBody s__law_less, defScope s__law_less, [], []⟩) rfl
  obtain ⟨fd_law, FD_law⟩ := c.d.def_ 39 (d := ⟨("law", none), "law", "law", defArgs s_law, defBody s_law, defScope s_law, [], []⟩) rfl
  have e := hfa.symm.trans (He.glo_ok X G (c.d.fact 25 (f := .glo "law") rfl))
  cases e
  have b := FunD.bindsA (ps := ["_law_script"]) FD_law fun _ _ _ _ _ _ us hl => match us, hl with | [_], _ => rfl
  have Z : Bz mg := ⟨(He.free_ok X G (c.d.fact 40 (f := .free "len") rfl)), (He.free_ok X G (c.d.fact 41 (f := .free "abs") rfl)), (He.free_ok X G (c.d.fact 42 (f := .free "any") rfl)), (He.free_ok X G (c.d.fact 43 (f := .free "all") rfl)), (He.free_ok X G (c.d.fact 44 (f := .free "sum") rfl)), (He.free_ok X G (c.d.fact 45 (f := .free "int") rfl)), (He.free_ok X G (c.d.fact 46 (f := .free "str") rfl)), (He.free_ok X G (c.d.fact 47 (f := .free "bool") rfl)), (He.free_ok X G (c.d.fact 48 (f := .free "tuple") rfl)), (He.free_ok X G (c.d.fact 49 (f := .free "list") rfl)), (He.free_ok X G (c.d.fact 50 (f := .free "isinstance") rfl)), (He.free_ok X G (c.d.fact 51 (f := .free "range") rfl)), (He.free_ok X G (c.d.fact 52 (f := .free "enumerate") rfl))⟩
  have m_super := (He.free_ok X G (c.d.fact 53 (f := .free "super") rfl))
  obtain ⟨gs, z⟩ := He.ba c.ex
  obtain ⟨_, z⟩ := He.ba z
  obtain ⟨kha_Signature, z⟩ := He.ba z
  have kha_Signature := He.eqO_ok kha_Signature
  obtain ⟨khm_Signature, z⟩ := He.ba z
  have khm_Signature := of_decide_eq_true khm_Signature
  obtain ⟨ksf_Signature, z⟩ := He.ba z
  obtain ⟨ko_Signature_bool, z⟩ := He.ba z
  have ko_Signature_bool := of_decide_eq_true ko_Signature_bool
  obtain ⟨ko_Signature_int, z⟩ := He.ba z
  have ko_Signature_int := of_decide_eq_true ko_Signature_int
  obtain ⟨ko_Signature_str, z⟩ := He.ba z
  have ko_Signature_str := of_decide_eq_true ko_Signature_str
  obtain ⟨ko_Signature_tuple, z⟩ := He.ba z
  have ko_Signature_tuple := of_decide_eq_true ko_Signature_tuple
  obtain ⟨ko_Signature_Hall, z⟩ := He.ba z
  have ko_Signature_Hall := of_decide_eq_true ko_Signature_Hall
  obtain ⟨ko_Signature_Signature, z⟩ := He.ba z
  have ko_Signature_Signature := of_decide_eq_true ko_Signature_Signature
  obtain ⟨kha_Hall, z⟩ := He.ba z
  have kha_Hall := He.eqO_ok kha_Hall
  obtain ⟨khm_Hall, z⟩ := He.ba z
  have khm_Hall := of_decide_eq_true khm_Hall
  obtain ⟨ksf_Hall, z⟩ := He.ba z
  obtain ⟨ko_Hall_bool, z⟩ := He.ba z
  have ko_Hall_bool := of_decide_eq_true ko_Hall_bool
  obtain ⟨ko_Hall_int, z⟩ := He.ba z
  have ko_Hall_int := of_decide_eq_true ko_Hall_int
  obtain ⟨ko_Hall_str, z⟩ := He.ba z
  have ko_Hall_str := of_decide_eq_true ko_Hall_str
  obtain ⟨ko_Hall_tuple, z⟩ := He.ba z
  have ko_Hall_tuple := of_decide_eq_true ko_Hall_tuple
  obtain ⟨ko_Hall_Hall, z⟩ := He.ba z
  have ko_Hall_Hall := of_decide_eq_true ko_Hall_Hall
  obtain ⟨ko_Hall_Signature, z⟩ := He.ba z
  have ko_Hall_Signature := of_decide_eq_true ko_Hall_Signature
  obtain ⟨kn_Hall_NoneType, z⟩ := He.ba z
  have kn_Hall_NoneType := of_decide_eq_true kn_Hall_NoneType
  obtain ⟨kn_Hall_bool, z⟩ := He.ba z
  have kn_Hall_bool := of_decide_eq_true kn_Hall_bool
  obtain ⟨kn_Hall_int, z⟩ := He.ba z
  have kn_Hall_int := of_decide_eq_true kn_Hall_int
  obtain ⟨kn_Hall_str, z⟩ := He.ba z
  have kn_Hall_str := of_decide_eq_true kn_Hall_str
  obtain ⟨kn_Hall_list, z⟩ := He.ba z
  have kn_Hall_list := of_decide_eq_true kn_Hall_list
  obtain ⟨kn_Hall_tuple, z⟩ := He.ba z
  have kn_Hall_tuple := of_decide_eq_true kn_Hall_tuple
  obtain ⟨kn_Signature_NoneType, z⟩ := He.ba z
  have kn_Signature_NoneType := of_decide_eq_true kn_Signature_NoneType
  obtain ⟨kn_Signature_bool, z⟩ := He.ba z
  have kn_Signature_bool := of_decide_eq_true kn_Signature_bool
  obtain ⟨kn_Signature_int, z⟩ := He.ba z
  have kn_Signature_int := of_decide_eq_true kn_Signature_int
  obtain ⟨kn_Signature_str, z⟩ := He.ba z
  have kn_Signature_str := of_decide_eq_true kn_Signature_str
  obtain ⟨kn_Signature_list, z⟩ := He.ba z
  have kn_Signature_list := of_decide_eq_true kn_Signature_list
  obtain ⟨kn_Signature_tuple, z⟩ := He.ba z
  have kn_Signature_tuple := of_decide_eq_true kn_Signature_tuple
  obtain ⟨l_nn, z⟩ := He.ba z
  have l_nn := of_decide_eq_true l_nn
  obtain ⟨l_un, z⟩ := He.ba z
  have l_un := of_decide_eq_true l_un
  obtain ⟨l_uu, z⟩ := He.ba z
  have l_uu := of_decide_eq_true l_uu
  obtain ⟨l_kn, z⟩ := He.ba z
  have l_kn := of_decide_eq_true l_kn
  obtain ⟨l_ku, z⟩ := He.ba z
  have l_ku := of_decide_eq_true l_ku
  obtain ⟨kt_RESERVED, z⟩ := He.ba z
  obtain ⟨gs1, gs⟩ := He.ba gs
  obtain ⟨gs2, _⟩ := He.ba gs
  have gs1 := He.eqO_ok gs1
  have gs2 := of_decide_eq_true gs2
  have g_HandsError := (He.glo_ok X G (c.d.fact 26 (f := .glo "HandsError") rfl))
  have g_BadPart := (He.glo_ok X G (c.d.fact 27 (f := .glo "BadPart") rfl))
  have g_BadLine := (He.glo_ok X G (c.d.fact 28 (f := .glo "BadLine") rfl))
  have g_NoSuch := (He.glo_ok X G (c.d.fact 29 (f := .glo "NoSuch") rfl))
  have g_Unlike := (He.glo_ok X G (c.d.fact 30 (f := .glo "Unlike") rfl))
  have g_Signature := (He.glo_ok X G (c.d.fact 31 (f := .glo "Signature") rfl))
  have g_Hall := (He.glo_ok X G (c.d.fact 32 (f := .glo "Hall") rfl))
  have cl_Signature := He.cls_ok (c.d.fact 54 (f := .cls "Signature") rfl)
  have T_Signature : ClsF K mg "Signature" (He.ga K "Signature") ["hall", "places", "marks", "takes", "under", "writes", "gives", "shares", "is_giving"] := ⟨g_Signature, cl_Signature, List.forall_mem_cons.mpr ⟨He.noat_ok (c.d.fact 56 (f := .noat "Signature" "hall") rfl), List.forall_mem_cons.mpr ⟨He.noat_ok (c.d.fact 57 (f := .noat "Signature" "places") rfl), List.forall_mem_cons.mpr ⟨He.noat_ok (c.d.fact 58 (f := .noat "Signature" "marks") rfl), List.forall_mem_cons.mpr ⟨He.noat_ok (c.d.fact 59 (f := .noat "Signature" "takes") rfl), List.forall_mem_cons.mpr ⟨He.noat_ok (c.d.fact 60 (f := .noat "Signature" "under") rfl), List.forall_mem_cons.mpr ⟨He.noat_ok (c.d.fact 61 (f := .noat "Signature" "writes") rfl), List.forall_mem_cons.mpr ⟨He.noat_ok (c.d.fact 62 (f := .noat "Signature" "gives") rfl), List.forall_mem_cons.mpr ⟨He.noat_ok (c.d.fact 63 (f := .noat "Signature" "shares") rfl), List.forall_mem_cons.mpr ⟨He.noat_ok (c.d.fact 64 (f := .noat "Signature" "is_giving") rfl), List.forall_mem_nil _⟩⟩⟩⟩⟩⟩⟩⟩⟩⟩
  have ow_Signature : OwnC K (He.ga K "Signature") := ⟨cl_Signature, kha_Signature, gs1, gs2, khm_Signature⟩
  have SF_Signature := ksf_Signature
  have cl_Hall := He.cls_ok (c.d.fact 74 (f := .cls "Hall") rfl)
  have T_Hall : ClsF K mg "Hall" (He.ga K "Hall") ["locks", "descriptions", "kinds", "sorts"] := ⟨g_Hall, cl_Hall, List.forall_mem_cons.mpr ⟨He.noat_ok (c.d.fact 76 (f := .noat "Hall" "locks") rfl), List.forall_mem_cons.mpr ⟨He.noat_ok (c.d.fact 77 (f := .noat "Hall" "descriptions") rfl), List.forall_mem_cons.mpr ⟨He.noat_ok (c.d.fact 78 (f := .noat "Hall" "kinds") rfl), List.forall_mem_cons.mpr ⟨He.noat_ok (c.d.fact 79 (f := .noat "Hall" "sorts") rfl), List.forall_mem_nil _⟩⟩⟩⟩⟩
  have ow_Hall : OwnC K (He.ga K "Hall") := ⟨cl_Hall, kha_Hall, gs1, gs2, khm_Hall⟩
  have SF_Hall := ksf_Hall
  have I_bool : IsiC K mg (.type "bool") (some "bool") isiOwn := isiT_of (look_all (p := fun c b => ∃ C, mg c = some (.ref C) ∧ OwnC K C ∧ PySem.W.kitOne K (.ref C) (.type "bool") = some b) (List.forall_mem_cons.mpr ⟨⟨_, g_Signature, ow_Signature, ko_Signature_bool⟩, List.forall_mem_cons.mpr ⟨⟨_, g_Hall, ow_Hall, ko_Hall_bool⟩, List.forall_mem_nil _⟩⟩))
  have I_int : IsiC K mg (.type "int") (some "int") isiOwn := isiT_of (look_all (p := fun c b => ∃ C, mg c = some (.ref C) ∧ OwnC K C ∧ PySem.W.kitOne K (.ref C) (.type "int") = some b) (List.forall_mem_cons.mpr ⟨⟨_, g_Signature, ow_Signature, ko_Signature_int⟩, List.forall_mem_cons.mpr ⟨⟨_, g_Hall, ow_Hall, ko_Hall_int⟩, List.forall_mem_nil _⟩⟩))
  have I_str : IsiC K mg (.type "str") (some "str") isiOwn := isiT_of (look_all (p := fun c b => ∃ C, mg c = some (.ref C) ∧ OwnC K C ∧ PySem.W.kitOne K (.ref C) (.type "str") = some b) (List.forall_mem_cons.mpr ⟨⟨_, g_Signature, ow_Signature, ko_Signature_str⟩, List.forall_mem_cons.mpr ⟨⟨_, g_Hall, ow_Hall, ko_Hall_str⟩, List.forall_mem_nil _⟩⟩))
  have I_tuple : IsiC K mg (.type "tuple") (some "tuple") isiOwn := isiT_of (look_all (p := fun c b => ∃ C, mg c = some (.ref C) ∧ OwnC K C ∧ PySem.W.kitOne K (.ref C) (.type "tuple") = some b) (List.forall_mem_cons.mpr ⟨⟨_, g_Signature, ow_Signature, ko_Signature_tuple⟩, List.forall_mem_cons.mpr ⟨⟨_, g_Hall, ow_Hall, ko_Hall_tuple⟩, List.forall_mem_nil _⟩⟩))
  have I_Hall : IsiC K mg (.ref (He.ga K "Hall")) none isi_Hall := isiC_of (List.forall_mem_cons.mpr ⟨kn_Hall_NoneType, List.forall_mem_cons.mpr ⟨kn_Hall_bool, List.forall_mem_cons.mpr ⟨kn_Hall_int, List.forall_mem_cons.mpr ⟨kn_Hall_str, List.forall_mem_cons.mpr ⟨kn_Hall_list, List.forall_mem_cons.mpr ⟨kn_Hall_tuple, List.forall_mem_nil _⟩⟩⟩⟩⟩⟩) (look_all (p := fun c b => ∃ C, mg c = some (.ref C) ∧ OwnC K C ∧ PySem.W.kitOne K (.ref C) (.ref (He.ga K "Hall")) = some b) (List.forall_mem_cons.mpr ⟨⟨_, g_Signature, ow_Signature, ko_Signature_Hall⟩, List.forall_mem_cons.mpr ⟨⟨_, g_Hall, ow_Hall, ko_Hall_Hall⟩, List.forall_mem_nil _⟩⟩))
  have I_Signature : IsiC K mg (.ref (He.ga K "Signature")) none isi_Signature := isiC_of (List.forall_mem_cons.mpr ⟨kn_Signature_NoneType, List.forall_mem_cons.mpr ⟨kn_Signature_bool, List.forall_mem_cons.mpr ⟨kn_Signature_int, List.forall_mem_cons.mpr ⟨kn_Signature_str, List.forall_mem_cons.mpr ⟨kn_Signature_list, List.forall_mem_cons.mpr ⟨kn_Signature_tuple, List.forall_mem_nil _⟩⟩⟩⟩⟩⟩) (look_all (p := fun c b => ∃ C, mg c = some (.ref C) ∧ OwnC K C ∧ PySem.W.kitOne K (.ref C) (.ref (He.ga K "Signature")) = some b) (List.forall_mem_cons.mpr ⟨⟨_, g_Signature, ow_Signature, ko_Signature_Signature⟩, List.forall_mem_cons.mpr ⟨⟨_, g_Hall, ow_Hall, ko_Hall_Signature⟩, List.forall_mem_nil _⟩⟩))
  have c_RESERVED : GlbD K mg "RESERVED" d_RESERVED := glb_tup (He.glo_ok X G (c.d.fact 33 (f := .glo "RESERVED") rfl)) (He.tupB_ok kt_RESERVED _) (VrA.strs (bs := ["lock", "kind", "body", "routine", "done", "do", "with", "block", "either", "or", "repeat", "close", "drop", "give", "skip", "make", "copy", "fetch", "read", "keep", "write", "put", "call", "take", "as"]))
  have c__LETTERS : GlbD K mg "_LETTERS" d__LETTERS := glb_str (He.str_ok X G (c.d.fact 34 (f := .str "_LETTERS" "abcdefghijklmnopqrstuvwxyz") rfl))
  have c__DIGITS : GlbD K mg "_DIGITS" d__DIGITS := glb_str (He.str_ok X G (c.d.fact 35 (f := .str "_DIGITS" "0123456789") rfl))
  have c__MOST_CHARACTERS : GlbD K mg "_MOST_CHARACTERS" d__MOST_CHARACTERS := glb_int (He.int_ok X G (c.d.fact 36 (f := .int "_MOST_CHARACTERS" 8) rfl))
  have c__MOST_PLACES : GlbD K mg "_MOST_PLACES" d__MOST_PLACES := glb_int (He.int_ok X G (c.d.fact 37 (f := .int "_MOST_PLACES" 3) rfl))
  have c__MOST_LOCKS : GlbD K mg "_MOST_LOCKS" d__MOST_LOCKS := glb_int (He.int_ok X G (c.d.fact 38 (f := .int "_MOST_LOCKS" 4) rfl))
  have c__MOST_KINDS : GlbD K mg "_MOST_KINDS" d__MOST_KINDS := glb_int (He.int_ok X G (c.d.fact 39 (f := .int "_MOST_KINDS" 3) rfl))
  obtain ⟨O0, XF0, EC0, no0, fB0, cc0, cda0, T0⟩ := sup_of c m_super (j := 0) (p := ("BadPart", ["rule"])) (q := ("BadPart", "BadPart.__init__", 3)) rfl rfl rfl
  obtain ⟨O1, XF1, EC1, no1, fB1, cc1, cda1, T1⟩ := sup_of c m_super (j := 1) (p := ("BadLine", ["line", "rule"])) (q := ("BadLine", "BadLine.__init__", 4)) rfl rfl rfl
  obtain ⟨O2, XF2, EC2, no2, fB2, cc2, cda2, T2⟩ := sup_of c m_super (j := 2) (p := ("NoSuch", ["name"])) (q := ("NoSuch", "NoSuch.__init__", 5)) rfl rfl rfl
  obtain ⟨O3, XF3, EC3, no3, fB3, cc3, cda3, T3⟩ := sup_of c m_super (j := 3) (p := ("Unlike", [])) (q := ("Unlike", "Unlike.__init__", 6)) rfl rfl rfl
  refine ⟨fd_law, fun s v => b s [v] rfl, fun base _ _ => ?_⟩
  obtain ⟨fe0, Ge0, Be0⟩ := i_BadPart (w := w) (base := base) T0 no0
  have X_BadPart : ErC PP w K mg base "BadPart" (He.ga K "BadPart") fn_BadPart := ⟨g_BadPart, O0, ⟨fB0, fe0, _, T0.iC, T0.tI, Ge0, Be0⟩, XF0, no0, EC0⟩
  obtain ⟨fe1, Ge1, Be1⟩ := i_BadLine (w := w) (base := base) T1 no1
  have X_BadLine : ErC PP w K mg base "BadLine" (He.ga K "BadLine") fn_BadLine := ⟨g_BadLine, O1, ⟨fB1, fe1, _, T1.iC, T1.tI, Ge1, Be1⟩, XF1, no1, EC1⟩
  obtain ⟨fe2, Ge2, Be2⟩ := i_NoSuch (w := w) (base := base) T2 no2
  have X_NoSuch : ErC PP w K mg base "NoSuch" (He.ga K "NoSuch") fn_NoSuch := ⟨g_NoSuch, O2, ⟨fB2, fe2, _, T2.iC, T2.tI, Ge2, Be2⟩, XF2, no2, EC2⟩
  obtain ⟨fe3, Ge3, Be3⟩ := i_Unlike (w := w) (base := base) T3 no3
  have X_Unlike : ErC PP w K mg base "Unlike" (He.ga K "Unlike") fn_Unlike := ⟨g_Unlike, O3, ⟨fB3, fe3, _, T3.iC, T3.tI, Ge3, Be3⟩, XF3, no3, EC3⟩
  have G_is_integer := ok_is_integer (P := PP) (w := w) (base := base) (I_bool := I_bool) (I_int := I_int) (hd := ⟨_, fd_is_integer, (He.glo_ok X G (c.d.fact 0 (f := .glo "is_integer") rfl)), FD_is_integer⟩) (Z := Z)
  have G_has_repeat := ok_has_repeat (P := PP) (w := w) (base := base)  (hd := ⟨_, fd_has_repeat, (He.glo_ok X G (c.d.fact 1 (f := .glo "has_repeat") rfl)), FD_has_repeat⟩) (Z := Z)
  have G_is_name := ok_is_name (P := PP) (w := w) (base := base) (c_RESERVED := c_RESERVED) (c__DIGITS := c__DIGITS) (c__LETTERS := c__LETTERS) (c__MOST_CHARACTERS := c__MOST_CHARACTERS) (I_str := I_str) (hd := ⟨_, fd_is_name, (He.glo_ok X G (c.d.fact 2 (f := .glo "is_name") rfl)), FD_is_name⟩) (Z := Z)
  have G_is_mark := ok_is_mark (P := PP) (w := w) (base := base) (G_is_integer := G_is_integer) (G_is_name := G_is_name) (I_tuple := I_tuple) (hd := ⟨_, fd_is_mark, (He.glo_ok X G (c.d.fact 3 (f := .glo "is_mark") rfl)), FD_is_mark⟩) (Z := Z)
  have G_all_marks := ok_all_marks (P := PP) (w := w) (base := base) (T_Hall := T_Hall) (hd := ⟨_, fd_all_marks, (He.glo_ok X G (c.d.fact 4 (f := .glo "all_marks") rfl)), FD_all_marks⟩) (Z := Z)
  have M_Hall__description_of := ok_Hall_description_of (P := PP) (w := w) (base := base) (T_Hall := T_Hall) (X_NoSuch := X_NoSuch) (hd := ⟨_, fd_Hall_description_of, He.meth_ok (c.d.fact 80 (f := .meth "Hall" "_description_of") rfl), FD_Hall_description_of⟩) (Z := Z)
  have M_Hall_guard_of := ok_Hall_guard_of (P := PP) (w := w) (base := base) (T_Hall := T_Hall) (M_Hall__description_of := M_Hall__description_of) (hd := ⟨_, fd_Hall_guard_of, He.meth_ok (c.d.fact 81 (f := .meth "Hall" "guard_of") rfl), FD_Hall_guard_of⟩) (Z := Z)
  have G_needed_marks := ok_needed_marks (P := PP) (w := w) (base := base) (T_Hall := T_Hall) (M_Hall_guard_of := M_Hall_guard_of) (hd := ⟨_, fd_needed_marks, (He.glo_ok X G (c.d.fact 5 (f := .glo "needed_marks") rfl)), FD_needed_marks⟩) (Z := Z)
  have G_parts_rule := ok_parts_rule (P := PP) (w := w) (base := base) (T_Hall := T_Hall) (c__MOST_PLACES := c__MOST_PLACES) (G_all_marks := G_all_marks) (G_is_mark := G_is_mark) (G_is_name := G_is_name) (G_needed_marks := G_needed_marks) (hd := ⟨_, fd_parts_rule, (He.glo_ok X G (c.d.fact 6 (f := .glo "parts_rule") rfl)), FD_parts_rule⟩) (Z := Z)
  have G_mark_word := ok_mark_word (P := PP) (w := w) (base := base)  (hd := ⟨_, fd_mark_word, (He.glo_ok X G (c.d.fact 7 (f := .glo "mark_word") rfl)), FD_mark_word⟩) (Z := Z)
  have K_Signature := ok_Signature_init (P := PP) (w := w) (base := base) (T_Signature := T_Signature) (X_BadPart := X_BadPart) (G_all_marks := G_all_marks) (G_parts_rule := G_parts_rule) (hd := ⟨_, He.mkr_ok (c.d.fact 55 (f := .mkr "Signature") rfl), FunV.of FD_Signature_init⟩) (Z := Z)
  have M_Hall___eq__ := ok_Hall_eq (P := PP) (w := w) (base := base) (T_Hall := T_Hall) (I_Hall := I_Hall) (hd := ⟨_, fd_Hall_eq, He.meth_ok (c.d.fact 82 (f := .meth "Hall" "__eq__") rfl), FD_Hall_eq⟩) (Z := Z)
  have M_Signature___eq__ := ok_Signature_eq (P := PP) (w := w) (base := base) (T_Hall := T_Hall) (T_Signature := T_Signature) (I_Signature := I_Signature) (M_Hall___eq__ := M_Hall___eq__) (hd := ⟨_, fd_Signature_eq, He.meth_ok (c.d.fact 65 (f := .meth "Signature" "__eq__") rfl), FD_Signature_eq⟩) (Z := Z)
  have M_Signature___len__ := ok_Signature_len (P := PP) (w := w) (base := base) (T_Signature := T_Signature) (hd := ⟨_, fd_Signature_len, He.meth_ok (c.d.fact 66 (f := .meth "Signature" "__len__") rfl), FD_Signature_len⟩) (Z := Z)
  have M_Signature___contains__ := ok_Signature_contains (P := PP) (w := w) (base := base) (T_Signature := T_Signature) (G_is_mark := G_is_mark) (hd := ⟨_, fd_Signature_contains, He.meth_ok (c.d.fact 67 (f := .meth "Signature" "__contains__") rfl), FD_Signature_contains⟩) (Z := Z)
  have M_Signature_alike := ok_Signature_alike (P := PP) (w := w) (base := base) (T_Hall := T_Hall) (T_Signature := T_Signature) (M_Hall___eq__ := M_Hall___eq__) (hd := ⟨_, fd_Signature_alike, He.meth_ok (c.d.fact 68 (f := .meth "Signature" "alike") rfl), FD_Signature_alike⟩) (Z := Z)
  have M_Signature___or__ := ok_Signature_or (P := PP) (w := w) (base := base) (T_Signature := T_Signature) (X_Unlike := X_Unlike) (K_Signature := K_Signature) (M_Signature_alike := M_Signature_alike) (hd := ⟨_, fd_Signature_or, He.meth_ok (c.d.fact 69 (f := .meth "Signature" "__or__") rfl), FD_Signature_or⟩) (Z := Z)
  have M_Signature__kept_to := ok_Signature_kept_to (P := PP) (w := w) (base := base) (T_Signature := T_Signature) (X_Unlike := X_Unlike) (K_Signature := K_Signature) (hd := ⟨_, fd_Signature_kept_to, He.meth_ok (c.d.fact 70 (f := .meth "Signature" "_kept_to") rfl), FD_Signature_kept_to⟩) (Z := Z)
  have M_Signature___and__ := ok_Signature_and (P := PP) (w := w) (base := base) (T_Signature := T_Signature) (X_Unlike := X_Unlike) (M_Signature__kept_to := M_Signature__kept_to) (M_Signature_alike := M_Signature_alike) (hd := ⟨_, fd_Signature_and, He.meth_ok (c.d.fact 71 (f := .meth "Signature" "__and__") rfl), FD_Signature_and⟩) (Z := Z)
  have M_Signature___sub__ := ok_Signature_sub (P := PP) (w := w) (base := base) (T_Signature := T_Signature) (X_NoSuch := X_NoSuch) (G_needed_marks := G_needed_marks) (M_Signature___contains__ := M_Signature___contains__) (M_Signature__kept_to := M_Signature__kept_to) (hd := ⟨_, fd_Signature_sub, He.meth_ok (c.d.fact 72 (f := .meth "Signature" "__sub__") rfl), FD_Signature_sub⟩) (Z := Z)
  have M_Signature_within := ok_Signature_within (P := PP) (w := w) (base := base) (T_Signature := T_Signature) (M_Signature_alike := M_Signature_alike) (hd := ⟨_, fd_Signature_within, He.meth_ok (c.d.fact 73 (f := .meth "Signature" "within") rfl), FD_Signature_within⟩) (Z := Z)
  have G_is_description := ok_is_description (P := PP) (w := w) (base := base) (G_is_name := G_is_name) (I_tuple := I_tuple) (hd := ⟨_, fd_is_description, (He.glo_ok X G (c.d.fact 8 (f := .glo "is_description") rfl)), FD_is_description⟩) (Z := Z)
  have G_lock_rule := ok_lock_rule (P := PP) (w := w) (base := base) (c__MOST_LOCKS := c__MOST_LOCKS) (G_is_name := G_is_name) (hd := ⟨_, fd_lock_rule, (He.glo_ok X G (c.d.fact 9 (f := .glo "lock_rule") rfl)), FD_lock_rule⟩) (Z := Z)
  have G_kind_rule := ok_kind_rule (P := PP) (w := w) (base := base) (c__MOST_KINDS := c__MOST_KINDS) (G_has_repeat := G_has_repeat) (G_is_description := G_is_description) (hd := ⟨_, fd_kind_rule, (He.glo_ok X G (c.d.fact 10 (f := .glo "kind_rule") rfl)), FD_kind_rule⟩) (Z := Z)
  have G_hall_fault := ok_hall_fault (P := PP) (w := w) (base := base) (G_kind_rule := G_kind_rule) (G_lock_rule := G_lock_rule) (hd := ⟨_, fd_hall_fault, (He.glo_ok X G (c.d.fact 11 (f := .glo "hall_fault") rfl)), FD_hall_fault⟩) (Z := Z)
  have K_Hall := ok_Hall_init (P := PP) (w := w) (base := base) (T_Hall := T_Hall) (X_BadLine := X_BadLine) (G_hall_fault := G_hall_fault) (hd := ⟨_, He.mkr_ok (c.d.fact 75 (f := .mkr "Hall") rfl), FunV.of FD_Hall_init⟩) (Z := Z)
  have G__law_draws := ok__law_draws (P := PP) (w := w) (base := base)  (hd := ⟨_, fd__law_draws, (He.glo_ok X G (c.d.fact 12 (f := .glo "_law_draws") rfl)), FD__law_draws⟩) (Z := Z)
  have G__law_next := ok__law_next (P := PP) (w := w) (base := base)  (hd := ⟨_, fd__law_next, (He.glo_ok X G (c.d.fact 13 (f := .glo "_law_next") rfl)), FD__law_next⟩) (Z := Z)
  have G__law_pool := ok__law_pool (P := PP) (w := w) (base := base) (G__law_next := G__law_next) (hd := ⟨_, fd__law_pool, (He.glo_ok X G (c.d.fact 14 (f := .glo "_law_pool") rfl)), FD__law_pool⟩) (Z := Z)
  have G__law_parts := ok__law_parts (P := PP) (w := w) (base := base) (G__law_next := G__law_next) (hd := ⟨_, fd__law_parts, (He.glo_ok X G (c.d.fact 15 (f := .glo "_law_parts") rfl)), FD__law_parts⟩) (Z := Z)
  have G__law_hall := ok__law_hall (P := PP) (w := w) (base := base) (T_Hall := T_Hall) (K_Hall := K_Hall) (hd := ⟨_, fd__law_hall, (He.glo_ok X G (c.d.fact 16 (f := .glo "_law_hall") rfl)), FD__law_hall⟩) (Z := Z)
  have G__law_all_marks := ok__law_all_marks (P := PP) (w := w) (base := base)  (hd := ⟨_, fd__law_all_marks, (He.glo_ok X G (c.d.fact 17 (f := .glo "_law_all_marks") rfl)), FD__law_all_marks⟩) (Z := Z)
  have G__law_needs := ok__law_needs (P := PP) (w := w) (base := base)  (hd := ⟨_, fd__law_needs, (He.glo_ok X G (c.d.fact 18 (f := .glo "_law_needs") rfl)), FD__law_needs⟩) (Z := Z)
  have G__law_closed := ok__law_closed (P := PP) (w := w) (base := base) (G__law_all_marks := G__law_all_marks) (G__law_needs := G__law_needs) (G__law_next := G__law_next) (hd := ⟨_, fd__law_closed, (He.glo_ok X G (c.d.fact 19 (f := .glo "_law_closed") rfl)), FD__law_closed⟩) (Z := Z)
  have G__law_signed := ok__law_signed (P := PP) (w := w) (base := base) (T_Signature := T_Signature) (K_Signature := K_Signature) (hd := ⟨_, fd__law_signed, (He.glo_ok X G (c.d.fact 20 (f := .glo "_law_signed") rfl)), FD__law_signed⟩) (Z := Z)
  have G__law_gives := ok__law_gives (P := PP) (w := w) (base := base)  (hd := ⟨_, fd__law_gives, (He.glo_ok X G (c.d.fact 21 (f := .glo "_law_gives") rfl)), FD__law_gives⟩) (Z := Z)
  have G__law_left := ok__law_left (P := PP) (w := w) (base := base) (G__law_needs := G__law_needs) (hd := ⟨_, fd__law_left, (He.glo_ok X G (c.d.fact 22 (f := .glo "_law_left") rfl)), FD__law_left⟩) (Z := Z)
  have G__law_fits := ok__law_fits (P := PP) (w := w) (base := base) (T_Signature := T_Signature) (G__law_gives := G__law_gives) (G__law_left := G__law_left) (I_Signature := I_Signature) (I_tuple := I_tuple) (hd := ⟨_, fd__law_fits, (He.glo_ok X G (c.d.fact 23 (f := .glo "_law_fits") rfl)), FD__law_fits⟩) (Z := Z)
  have G__law_less := ok__law_less (P := PP) (w := w) (base := base) T_Signature X_NoSuch X_Unlike ⟨g_BadPart, g_BadLine, g_HandsError, l_nn, l_un, l_uu, l_kn, l_ku⟩ M_Signature___sub__ SF_Signature ⟨_, fd__law_less, (He.glo_ok X G (c.d.fact 24 (f := .glo "_law_less") rfl)), FD__law_less⟩ Z
  exact fn_calm (fn_okM (ps := ["_law_script"]) (N := ["_law_script", "_law_draws_here", "_law_pool_here", "_law_parts_here", "_law_hall_here", "_law_places", "_law_turn", "_law_told", "_law_mark", "_law_fewer", "_law_signature", "_law_below", "_law_answer", "_law_lesser", "_law_left_here", "_law_other"]) (k := 19) FD_law sc_law (fun cdv A outer s H E hr => bd_law (P := PP) (w := w) (base := base) (T_Signature := T_Signature) (G__law_all_marks := G__law_all_marks) (G__law_closed := G__law_closed) (G__law_draws := G__law_draws) (G__law_fits := G__law_fits) (G__law_hall := G__law_hall) (G__law_left := G__law_left) (G__law_less := G__law_less) (G__law_next := G__law_next) (G__law_parts := G__law_parts) (G__law_pool := G__law_pool) (G__law_signed := G__law_signed) (M_Signature___contains__ := M_Signature___contains__) (M_Signature_alike := M_Signature_alike) (M_Signature_within := M_Signature_within) (Z := Z) _ cdv A outer s H E hr))
end K05
open PySem PySem.W PySem.Calls PyProof.Rows
theorem PySem.Challenge.cw_handsroom_k05_without_a_mark_holds : PySem.Challenge.rw_handsroom_k05_without_a_mark.Holds := by
  w_on; o_law
  refine HandSHeadRun.head_any (r := OpenLaw.row PySem.Challenge.rw_handsroom_k05_without_a_mark) (q := view (OpenLaw.row PySem.Challenge.rw_handsroom_k05_without_a_mark).prog [50]) (H := K05.hookE) (ob := K05.ob) (M := 9000) (loose := K05.names) (d := HandSHeadRun.topDef (OpenLaw.row PySem.Challenge.rw_handsroom_k05_without_a_mark).prog 50) (kwd := []) K05.ob_eq
    (by kernel_rfl) (fun s => by kernel_rfl) K05.run (by kernel_rfl) (by kernel_rfl) (by kernel_rfl) (by rfl) (by first | assumption | decide +kernel) (by decide +kernel) ⟨rfl, rfl, rfl, rfl, rfl, by decide +kernel⟩ ?hw ?hc
  case hw => w_witness2
  case hc =>
    refine L2.walk_ofE (l := PySem.Challenge.rw_handsroom_k05_without_a_mark) (n := 63) (k := 20) (x := "_law_script") (CX := L2.CX0) rfl (by decide) (by kernel_rfl) ⟨rfl, by decide, by decide⟩ ?F (fun _ _ _ _ z => z)
    intro w mg fa h Y G hmg0
    obtain ⟨K, KX, c⟩ := Y
    have hmg : mg ("law" : PySem.Str) = some (.ref fa) := by
      have e : (HandSHeadRun.topDef (OpenLaw.row PySem.Challenge.rw_handsroom_k05_without_a_mark).prog 50).name = ("law" : PySem.Str) := by kernel_rfl
      rw [← e]
      exact hmg0
    obtain ⟨fd, hb, hF⟩ := K05.facts (w := w) KX G hmg c
    exact ⟨K, fd, _, KX, hb, fun H a ns hl _ hS => Md.law_walk K05.law_ok H a ns hS, hF⟩
